import PyProof.Rows.All
import Wide.All
import OpenK.AllK
import Wide.FinOn
import Lean
import PyProof.EqAt
import PyProof.EqKinds
import PyProof.TupleCall
import PyProof.EnumFor
import PyProof.EnumMake
import PyProof.ZipIter
import PyProof.WalkInts
import PyProof.SeqI3
import KE.KSortTup
import PyProof.Rows.SortWalk
import PyProof.Rows.SetFrom
import PyProof.CollectIter
import PySem.Challenge.RW_halveline_k83_shares_refused
set_option Elab.async false
set_option linter.all false
set_option maxRecDepth 100000
namespace L2
open PySem PySem.Spec PyProof.Rows
abbrev Key := Sum Int Str
def keyIs : Key → Value → Bool
  | .inl k, v => Value.isInt k v
  | .inr x, v => Value.isStrOf x v
def keyH (w : World) : Key → Int
  | .inl k => hashInt k
  | .inr x => hashStr w x
theorem keyIs_shape : ∀ {k : Key} {v : Value}, keyIs k v = true → (∃ i t, k = Sum.inl i ∧ v = Value.int i t) ∨ (∃ x t, k = Sum.inr x ∧ v = Value.str x t)
  | .inl i, v, h => by
    obtain ⟨t, e⟩ := Value.isInt_shape (k := i) (v := v) h
    exact .inl ⟨i, t, rfl, e⟩
  | .inr x, v, h => by
    obtain ⟨t, e⟩ := Value.isStrOf_shape (x := x) (v := v) h
    exact .inr ⟨x, t, rfl, e⟩
theorem key_ll (a b : Int) : decide ((Sum.inl a : Key) = Sum.inl b) = (a == b) := by
  by_cases e : a = b
  · subst e; simp
  · have h : ¬ (Sum.inl a : Key) = Sum.inl b := fun q => e (Sum.inl.inj q)
    rw [decide_eq_false h]
    exact (beq_eq_false_iff_ne.mpr e).symm
theorem key_rr (a b : Str) : decide ((Sum.inr a : Key) = Sum.inr b) = decide (a = b) := by
  by_cases e : a = b
  · subst e; simp
  · have h : ¬ (Sum.inr a : Key) = Sum.inr b := fun q => e (Sum.inr.inj q)
    rw [decide_eq_false h, decide_eq_false e]
theorem key_lr (a : Int) (b : Str) : decide ((Sum.inl a : Key) = Sum.inr b) = false := decide_eq_false (fun q => nomatch q)
theorem key_rl (a : Str) (b : Int) : decide ((Sum.inr a : Key) = Sum.inl b) = false := decide_eq_false (fun q => nomatch q)
def mixKind (prog : Program) (w : World) : PySem.KeyKind prog w Key where
  is := keyIs
  hash := keyH w
  inj := fun v a b ha hb => by
    rcases keyIs_shape ha with ⟨i, t, rfl, rfl⟩ | ⟨x, t, rfl, rfl⟩
    · rcases keyIs_shape hb with ⟨j, u, rfl, e⟩ | ⟨y, u, rfl, e⟩
      · injection e with e1 _; rw [e1]
      · exact nomatch e
    · rcases keyIs_shape hb with ⟨j, u, rfl, e⟩ | ⟨y, u, rfl, e⟩
      · exact nomatch e
      · injection e with e1 _; rw [e1]
  byValue := fun k v h => by
    rcases keyIs_shape h with ⟨i, t, rfl, rfl⟩ | ⟨x, t, rfl, rfl⟩ <;> rfl
  pyHash := fun hv h => by
    rcases keyIs_shape hv with ⟨i, t, rfl, rfl⟩ | ⟨x, t, rfl, rfl⟩
    · exact wpAny_pyHash_int h
    · exact wpAny_pyHash_str h
  eqBool := fun hu hv h => by
    rcases keyIs_shape hu with ⟨i, t, rfl, rfl⟩ | ⟨x, t, rfl, rfl⟩
    · rcases keyIs_shape hv with ⟨j, u, rfl, rfl⟩ | ⟨y, u, rfl, rfl⟩
      · rw [key_ll] at h; exact wpAny_eqBool_int h
      · rw [key_lr] at h; exact SeqAt.EqAt.int_str i t y u _ _ _ _ h
    · rcases keyIs_shape hv with ⟨j, u, rfl, rfl⟩ | ⟨y, u, rfl, rfl⟩
      · rw [key_rl] at h; exact SeqAt.EqAt.str_int x t j u _ _ _ _ h
      · rw [key_rr] at h; exact wpAny_eqBool_str h
  «strs» := fun k x t v h => by
    rcases keyIs_shape h with ⟨i, u, rfl, e⟩ | ⟨y, u, rfl, e⟩
    · exact nomatch e
    · injection e with e1 _
      subst e1
      cases v <;> rfl
end L2
namespace L2
open PySem PySem.Spec PyProof.Rows
inductive V where
  | non | bl (b : Bool) | int (i : Int) | str (x : Str) | byt (b : Array UInt8) | flt (b : UInt64) | ref (a : Addr) | ty (n : String)
  deriving DecidableEq
def RelV : V → Value → Prop
  | .non, u => u = Value.none
  | .bl b, u => u = Value.bool b
  | .int i, u => ∃ t, u = Value.int i t
  | .str x, u => ∃ t, u = Value.str x t
  | .byt b, u => ∃ t, u = Value.bytes b t
  | .flt b, u => ∃ t, u = Value.float b t
  | .ref a, u => u = Value.ref a
  | .ty n, u => u = Value.type n
abbrev Vals : List V → List Value → Prop := Paired RelV
theorem Vals.length {xs : List V} {us : List Value} (r : Vals xs us) : xs.length = us.length := Paired.length r
theorem Vals.get : ∀ {xs : List V} {us : List Value} {i : Nat} {x : V}, Vals xs us → xs[i]? = some x → ∃ u, us[i]? = some u ∧ RelV x u
  | _, _, _, _, .nil, e => by simp at e
  | _, _, 0, _, .cons r _, e => by simp at e; subst e; exact ⟨_, rfl, r⟩
  | _, _, i + 1, x, .cons _ t, e => by
    obtain ⟨u, h1, h2⟩ := Vals.get (i := i) (x := x) t (by simpa using e)
    exact ⟨u, by simpa using h1, h2⟩
theorem Vals.set {x : V} {u : Value} (r : RelV x u) : ∀ {xs : List V} {us : List Value} (i : Nat), Vals xs us → Vals (xs.set i x) (us.set i u)
  | _, _, _, .nil => .nil
  | _, _, 0, .cons _ t => .cons r t
  | _, _, i + 1, .cons q t => .cons q (Vals.set r i t)
theorem Vals.append : ∀ {xs ys : List V} {us ws : List Value}, Vals xs us → Vals ys ws → Vals (xs ++ ys) (us ++ ws)
  | _, _, _, _, .nil, s => s
  | _, _, _, _, .cons r t, s => .cons r (Vals.append t s)
theorem Vals.take : ∀ {xs : List V} {us : List Value} (n : Nat), Vals xs us → Vals (xs.take n) (us.take n)
  | _, _, 0, _ => .nil
  | _, _, _ + 1, .nil => .nil
  | _, _, n + 1, .cons r t => .cons r (Vals.take n t)
theorem Vals.drop : ∀ {xs : List V} {us : List Value} (n : Nat), Vals xs us → Vals (xs.drop n) (us.drop n)
  | _, _, 0, r => r
  | _, _, _ + 1, .nil => .nil
  | _, _, n + 1, .cons _ t => Vals.drop n t
def RelO : Option V → Option Value → Prop
  | some v, some u => RelV v u
  | none, none => True
  | _, _ => False
def KV {κ : Type} : List (κ × V) → List (κ × Value) → Prop := Paired fun (p : κ × V) (q : κ × Value) => p.1 = q.1 ∧ RelV p.2 q.2
def kV : Key → V
  | .inl i => .int i
  | .inr x => .str x
inductive HO where
  /-- a list -/
  | lst (xs : List V)
  /-- a tuple (never changes) -/
  | tup (xs : List V)
  /-- a dict whose keys are ints and texts; one whose keys are tuples of ints and texts (the empty one is both) -/
  | dK (kvs : List (Key × V)) | dT (kvs : List (List Key × V))
  /-- a set of ints: its members, its size -/
  | set (S : Int → Bool) (n : Nat)
  /-- an instance of the class at C, its dict at dx, its attributes -/
  | ins (C dx : Addr) (fs : List (Str × V))
  /-- the dict of the instance at x -/
  | own (x : Addr)
  /-- the dict of an exception -/
  | xd (fs : List (Str × V))
  /-- a bound method, f of x -/
  | met (f x : Addr)
  /-- a range object lo, lo + 1, .. below hi -/
  | rng (lo hi : Int)
  /-- a thing that is known to the object (the script; a dict while a loop walks it): read, never written while it is so -/
  | frz (o : Obj) (u : HO)
  /-- a code object's table -/
  | tbl (ps : Array Value)
  /-- any other thing, by what is true of its one object (a def of one's own: SetO a S n := HO.ext fun h => ..) -/
  | ext (φ : Heap → Prop)
abbrev Hp := Addr → Option HO
def upd (H : Hp) (a : Addr) (o : HO) : Hp := fun b => if b = a then some o else H b
theorem upd_same {H : Hp} {a : Addr} {o : HO} : upd H a o a = some o := by unfold upd; rw [if_pos rfl]
theorem upd_ne {H : Hp} {a b : Addr} {o : HO} (h : b ≠ a) : upd H a o b = H b := by unfold upd; rw [if_neg h]
theorem ne_of {H : Hp} {a b : Addr} {o u : HO} (h : H a = some o) (h' : H b = some u) (d : o ≠ u) : a ≠ b := by
  intro e; subst e; rw [h] at h'; exact d (Option.some.inj h')
theorem ne_of_none {H : Hp} {a b : Addr} {o : HO} (h : H a = some o) (h' : H b = none) : a ≠ b := by
  intro e; subst e; rw [h] at h'; cases h'
section
variable (P : Program) (w : World)
def ObjOk (H : Hp) (h : Heap) (a : Addr) : HO → Prop
  | .lst xs => xs.length ≤ sizeLine ∧ ∃ (its : List Value) (n : Nat), Vals xs its ∧ h.get? a = some { cls := .type "list", data := .seq its.toArray n }
  | .tup xs => xs.length ≤ sizeLine ∧ ∃ its : List Value, Vals xs its ∧ IsTup h a its.toArray
  | .dK kvs => kvs.length ≤ sizeLine ∧ (a == sysModules) = false ∧ ∃ vs, KV kvs vs ∧ h.DictOf (mixKind P w) a vs
  | .dT kvs => kvs.length ≤ sizeLine ∧ (a == sysModules) = false ∧ ∃ xs : List (List Key × Addr × Value),
      Paired (fun (p : List Key × V) (q : List Key × Addr × Value) => p.1 = q.1 ∧ H q.2.1 = some (.tup (p.1.map kV)) ∧ RelV p.2 q.2.2) kvs xs ∧
      ∃ o es ep, h.get? a = some o ∧ o.ExactDict ∧ o.data = .dict es ep ∧ es.toList = xs.map (entryOfKey (tupleKind (mixKind P w))) ∧ (xs.map (·.1)).Nodup
  | .set S n => h.SetOf (intKind P w) a S n
  | .ins C dx fs => H dx = some (.own a) ∧ fs.length ≤ 1000 ∧ dx ≠ a ∧ h.get? a = some (PySem.W.instObj C dx) ∧
      ∃ mA, h.Ns1 dx mA ∧ (∀ f, RelO (fs.lookup f) (mA f)) ∧ PySem.Within mA (fs.map (·.1))
  | .own _ => ∃ o, h.get? a = some o
  | .xd fs => ∃ mA, h.Ns1 a mA ∧ ∀ f, RelO (fs.lookup f) (mA f)
  | .rng lo hi => ∃ t u v, h.get? a = some { cls := .type "range", data := .fields #[.int lo t, .int hi u, .int 1 v] }
  | .frz o u => h.get? a = some o ∧ ObjOk H h a u
  | .tbl ps => h.get? a = some { cls := .none, data := .fields ps }
  | .met f x => h.get? a = some (PySem.W.methodObj (.ref f) (.ref x))
  | .ext φ => φ h ∧ (∃ o, h.get? a = some o) ∧ ∀ h1 h2 : Heap, φ h1 → (∀ o, h1.get? a = some o → h2.get? a = some o) → φ h2
def HOk (H : Hp) (h : Heap) : Prop := ∀ a o, H a = some o → ObjOk P w H h a o
end
section
variable {P : Program} {w : World} {H H' : Hp} {h h' : Heap} {a : Addr} {o : HO}
theorem ObjOk.lt (x : ObjOk P w H h a o) : a < h.objs.size := by
  cases o with
  | lst xs => obtain ⟨_, _, _, _, e⟩ := x; exact Heap.lt_size e
  | tup xs => obtain ⟨_, _, _, p⟩ := x; exact p.lt
  | dK kvs => obtain ⟨_, _, _, _, o, _, _, e, _⟩ := x; exact Heap.lt_size e
  | dT kvs => obtain ⟨_, _, _, _, o, _, _, e, _⟩ := x; exact Heap.lt_size e
  | set S n => obtain ⟨o, _, _, _, e, _⟩ := x; exact Heap.lt_size e
  | ins C dx fs => obtain ⟨_, _, _, e, _⟩ := x; exact Heap.lt_size e
  | own y => obtain ⟨_, e⟩ := x; exact Heap.lt_size e
  | xd fs => obtain ⟨_, ⟨_, _, _, e, _⟩, _⟩ := x; exact Heap.lt_size e
  | rng lo hi => obtain ⟨_, _, _, e⟩ := x; exact Heap.lt_size e
  | frz ob u => obtain ⟨e, _⟩ := x; exact Heap.lt_size e
  | tbl ps => exact Heap.lt_size (show h.get? a = some _ from x)
  | met f y => exact Heap.lt_size (show h.get? a = some _ from x)
  | ext φ => obtain ⟨_, ⟨_, e⟩, _⟩ := x; exact Heap.lt_size e
theorem Paired.mapP {α β : Type} {F G : α → β → Prop} : ∀ {l₁ : List α} {l₂ : List β}, Paired F l₁ l₂ → (∀ a b, F a b → G a b) → Paired G l₁ l₂
  | _, _, .nil, _ => .nil
  | _, _, .cons r t, f => .cons (f _ _ r) (Paired.mapP t f)
theorem ObjOk.stay (x : ObjOk P w H h a o) (k : ∀ b u, (b = a ∨ H b = some (.own a)) → h.get? b = some u → h'.get? b = some u)
    (ho : ∀ b, H b = some (.own a) → H' b = some (.own a)) (ht : ∀ b xs, H b = some (.tup xs) → H' b = some (.tup xs)) : ObjOk P w H' h' a o := by
  induction o with
  | lst xs => obtain ⟨z, its, n, r, e⟩ := x; exact ⟨z, its, n, r, k _ _ (.inl rfl) e⟩
  | tup xs => obtain ⟨z, its, r, ob, e, c⟩ := x; exact ⟨z, its, r, ob, k _ _ (.inl rfl) e, c⟩
  | dK kvs => obtain ⟨z, y, vs, r, ob, es, ep, e, c⟩ := x; exact ⟨z, y, vs, r, ob, es, ep, k _ _ (.inl rfl) e, c⟩
  | dT kvs =>
    obtain ⟨z, y, xs, r, ob, es, ep, e, c⟩ := x
    exact ⟨z, y, xs, Paired.mapP r fun p q z => ⟨z.1, ht _ _ z.2.1, z.2.2⟩, ob, es, ep, k _ _ (.inl rfl) e, c⟩
  | set S n => obtain ⟨ob, es, ep, t, e, c⟩ := x; exact ⟨ob, es, ep, t, k _ _ (.inl rfl) e, c⟩
  | ins C dx fs =>
    obtain ⟨d, z, ne, e, mA, ⟨od, es, ep, e2, c⟩, r⟩ := x
    exact ⟨ho _ d, z, ne, k _ _ (.inl rfl) e, mA, ⟨od, es, ep, k _ _ (.inr d) e2, c⟩, r⟩
  | own y => obtain ⟨ob, e⟩ := x; exact ⟨ob, k _ _ (.inl rfl) e⟩
  | xd fs => obtain ⟨mA, ⟨od, es, ep, e, c⟩, r⟩ := x; exact ⟨mA, ⟨od, es, ep, k _ _ (.inl rfl) e, c⟩, r⟩
  | rng lo hi => obtain ⟨t, u, v, e⟩ := x; exact ⟨t, u, v, k _ _ (.inl rfl) e⟩
  | frz ob u ih => obtain ⟨e, q⟩ := x; exact ⟨k _ _ (.inl rfl) e, ih q⟩
  | tbl ps =>
    have e : h.get? a = some { cls := .none, data := .fields ps } := x
    show h'.get? a = some { cls := .none, data := .fields ps }
    exact k a _ (.inl rfl) e
  | met f y =>
    have e : h.get? a = some (PySem.W.methodObj (.ref f) (.ref y)) := x
    show h'.get? a = some (PySem.W.methodObj (.ref f) (.ref y))
    exact k a _ (.inl rfl) e
  | ext φ => obtain ⟨p, ⟨o, e⟩, st⟩ := x; exact ⟨st _ _ p fun o q => k _ _ (.inl rfl) q, ⟨o, k _ _ (.inl rfl) e⟩, st⟩
theorem HOk.lt (x : HOk P w H h) (e : H a = some o) : a < h.objs.size := (x a o e).lt
theorem HOk.fresh (x : HOk P w H h) (e : h.objs.size ≤ a) : H a = none := by
  cases q : H a with
  | none => rfl
  | some u => exact absurd (Nat.lt_of_lt_of_le (x.lt q) e) (Nat.lt_irrefl _)
theorem HOk.kept (x : HOk P w H h) (k : ∀ b u, h.get? b = some u → h'.get? b = some u) : HOk P w H h' := fun a o e =>
  (x a o e).stay (fun b u _ q => k b u q) (fun _ q => q) fun _ _ q => q
theorem HOk.laid (x : HOk P w H h) (k : ∀ b u, h.get? b = some u → h'.get? b = some u) (hp : h.objs.size ≤ a) (new : ObjOk P w (upd H a o) h' a o) : HOk P w (upd H a o) h' := fun b u e => by
  have hn := x.fresh hp
  by_cases hb : b = a
  · subst hb; rw [upd_same] at e; cases e; exact new
  · rw [upd_ne hb] at e
    exact (x b u e).stay (fun c v _ q => k c v q) (fun c q => by rw [upd_ne (ne_of_none q hn)]; exact q) fun c xs q => by rw [upd_ne (ne_of_none q hn)]; exact q
end
def Rd (H : Hp) (a : Addr) (u : HO) : Prop := H a = some u ∨ ∃ o, H a = some (.frz o u)
theorem Rd.of {H : Hp} {a : Addr} {u : HO} (h : H a = some u) : Rd H a u := .inl h
theorem Rd.ok {P : Program} {w : World} {H : Hp} {h : Heap} {a : Addr} {u : HO} (r : Rd H a u) (x : HOk P w H h) : ObjOk P w H h a u := by
  rcases r with r | ⟨o, r⟩
  · exact x a u r
  · obtain ⟨_, q⟩ := x a _ r
    exact q
def Mut : Option HO → Prop
  | some (.lst _) => True
  | some (.dK _) => True
  | some (.dT _) => True
  | some (.set _ _) => True
  | some (.ins _ _ _) => True
  | some (.ext _) => True
  | _ => False
section
variable {P : Program} {w : World} {H : Hp} {h h' : Heap} {x e : Addr} {o' : HO}
theorem HOk.write (ok : HOk P w H h) (mu : Mut (H x)) (he : e = x ∨ H e = some (.own x)) (k : ∀ b u, b ≠ e → h.get? b = some u → h'.get? b = some u) (heo : ∃ u, h'.get? e = some u)
    (new : ObjOk P w (upd H x o') h' x o') : HOk P w (upd H x o') h' := fun b u q => by
  have nown : ∀ c y, H c = some (.own y) → c ≠ x := fun c y r z => by subst z; rw [r] at mu; exact mu
  have ntup : ∀ c xs, H c = some (.tup xs) → c ≠ x := fun c xs r z => by subst z; rw [r] at mu; exact mu
  by_cases hb : b = x
  · subst hb; rw [upd_same] at q; cases q; exact new
  · rw [upd_ne hb] at q
    by_cases hbe : b = e
    · have q' : H b = some (.own x) := by
        rcases he with z | z
        · exact absurd (hbe.trans z) hb
        · rw [hbe]; exact z
      rw [q] at q'; cases q'
      obtain ⟨v, hv⟩ := heo
      exact ⟨v, by rw [hbe]; exact hv⟩
    · refine (ok b u q).stay (fun c v hc r => k c v ?_ r) (fun c r => by rw [upd_ne (nown c b r)]; exact r) fun c xs r => by rw [upd_ne (ntup c xs r)]; exact r
      rcases hc with rfl | hc
      · exact hbe
      · rintro rfl
        rcases he with z | z
        · exact nown c b hc z
        · rw [hc] at z; cases z; exact hb rfl
end
structure Un (fs ex : List Addr) (H H' : Hp) (h h' : Heap) : Prop where
  keep : ∀ b o, h.get? b = some o → H b = none → b ∉ fs → b ∉ ex → h'.get? b = some o
  slot : ∀ b o, h.get? b = some o → H b = none → b ∈ fs → b ∉ ex → ∃ sl, h'.get? b = some { o with slots := sl }
  free : ∀ b o, h.get? b = some o → H b = none → b ∉ ex → H' b = none
  there : ∀ b o, h.get? b = some o → b ∉ ex → ∃ o', h'.get? b = some o'
  tups : ∀ b xs, H b = some (.tup xs) → H' b = some (.tup xs)
  frzs : ∀ b o u, H b = some (.frz o u) → H' b = some (.frz o u)
  tbls : ∀ b ps, H b = some (.tbl ps) → ∃ more, H' b = some (.tbl (ps ++ more))
section
variable {fs fs' ex ex' : List Addr} {H H1 H2 : Hp} {h h1 h2 h' : Heap} {a x e : Addr} {o : HO}
theorem Un.any (u : Un fs ex H H1 h h1) {b : Addr} {ob : Obj} (q : h.get? b = some ob) (n : H b = none) (hx : b ∉ ex) : ∃ sl, h1.get? b = some { ob with slots := sl } := by
  by_cases hb : b ∈ fs
  · exact u.slot b ob q n hb hx
  · exact ⟨ob.slots, u.keep b ob q n hb hx⟩
theorem Un.trans (a : Un fs ex H H1 h h1) (b : Un fs ex H1 H2 h1 h2) : Un fs ex H H2 h h2 where
  keep := fun c ob q n hc hx => b.keep c ob (a.keep c ob q n hc hx) (a.free c ob q n hx) hc hx
  slot := fun c ob q n hc hx => by
    obtain ⟨sl, e1⟩ := a.slot c ob q n hc hx
    obtain ⟨sl', e2⟩ := b.slot c _ e1 (a.free c ob q n hx) hc hx
    exact ⟨sl', e2⟩
  free := fun c ob q n hx => by
    obtain ⟨o', e1⟩ := a.there c ob q hx
    exact b.free c o' e1 (a.free c ob q n hx) hx
  there := fun c ob q hx => by
    obtain ⟨o', e1⟩ := a.there c ob q hx
    exact b.there c o' e1 hx
  tups := fun c xs q => b.tups c xs (a.tups c xs q)
  frzs := fun c ob xs q => b.frzs c ob xs (a.frzs c ob xs q)
  tbls := fun c ps q => by
    obtain ⟨m1, e1⟩ := a.tbls c ps q
    obtain ⟨m2, e2⟩ := b.tbls c _ e1
    exact ⟨m1 ++ m2, by rw [e2, Array.append_assoc]⟩
theorem Un.kept (k : ∀ b u, h.get? b = some u → h'.get? b = some u) : Un fs ex H H h h' :=
  ⟨fun b ob q _ _ _ => k b ob q, fun b ob q _ _ _ => ⟨ob.slots, k b ob q⟩, fun _ _ _ n _ => n, fun b ob q _ => ⟨ob, k b ob q⟩, fun _ _ q => q, fun _ _ _ q => q, fun _ ps q => ⟨#[], by rw [q]; simp⟩⟩
theorem Un.refl : Un fs ex H H h h := Un.kept fun _ _ q => q
theorem Un.laid (k : ∀ b u, h.get? b = some u → h'.get? b = some u) (hp : h.objs.size ≤ a) (hn : H a = none) : Un fs ex H (upd H a o) h h' where
  keep := fun b u q _ _ _ => k b u q
  slot := fun b u q _ _ _ => ⟨u.slots, k b u q⟩
  free := fun b u q n _ => by rw [upd_ne (Nat.ne_of_lt (Nat.lt_of_lt_of_le (Heap.lt_size q) hp))]; exact n
  there := fun b u q _ => ⟨u, k b u q⟩
  tups := fun b xs q => by rw [upd_ne (ne_of_none q hn)]; exact q
  frzs := fun b u xs q => by rw [upd_ne (ne_of_none q hn)]; exact q
  tbls := fun b ps q => ⟨#[], by rw [upd_ne (ne_of_none q hn), q]; simp⟩
theorem Un.write (mu : Mut (H x)) (he : e = x ∨ H e = some (.own x)) (k : ∀ b u, b ≠ e → h.get? b = some u → h'.get? b = some u) (heo : ∃ u, h'.get? e = some u) : Un fs ex H (upd H x o) h h' := by
  have hx : ∀ b, H b = none → b ≠ x := fun b n z => by subst z; rw [n] at mu; exact mu
  have hb : ∀ b, H b = none → b ≠ e := fun b n z => by
    subst z
    rcases he with r | r
    · exact hx b n r
    · rw [n] at r; cases r
  have hm : ∀ b u, H b = some u → ¬ Mut (some u) → b ≠ x := fun b u q nm z => by subst z; rw [q] at mu; exact nm mu
  refine ⟨fun b u q n _ _ => k b u (hb b n) q, fun b u q n _ _ => ⟨u.slots, k b u (hb b n) q⟩, fun b u q n _ => by rw [upd_ne (hx b n)]; exact n, fun b u q _ => ?_,
    fun b xs q => by rw [upd_ne (hm b _ q fun z => z)]; exact q, fun b u xs q => by rw [upd_ne (hm b _ q fun z => z)]; exact q, fun b ps q => ⟨#[], by rw [upd_ne (hm b _ q fun z => z), q]; simp⟩⟩
  by_cases hbe : b = e
  · subst hbe; exact heo
  · exact ⟨u, k b u hbe q⟩
theorem Un.mono (u : Un fs ex H H1 h h1) (hs : ∀ b ∈ fs, b ∈ fs') (hx : ∀ b ∈ ex, b ∈ ex') : Un fs' ex' H H1 h h1 :=
  ⟨fun b ob q n hb he => u.keep b ob q n (fun z => hb (hs b z)) fun z => he (hx b z), fun _ _ q n _ he => u.any q n fun z => he (hx _ z), fun b ob q n he => u.free b ob q n fun z => he (hx b z), fun b ob q he => u.there b ob q fun z => he (hx b z), u.tups, u.frzs, u.tbls⟩
end
def trk (h : Heap) (H : Hp) : List Addr := (List.range h.objs.size).filter fun a => (H a).isSome
def hidT (h : Heap) (H : Hp) : Heap := PySem.W.hideAll h (trk h H)
theorem hidT_size (h : Heap) (H : Hp) : (hidT h H).objs.size = h.objs.size := PySem.W.hideAll_size _ _
theorem hidT_get {h : Heap} {H : Hp} {b : Addr} {o : Obj} (e : h.get? b = some o) (n : H b = none) : (hidT h H).get? b = some o :=
  PySem.W.hideAll_get _ e fun hm => by
    have q : (H b).isSome = true := (List.mem_filter.mp hm).2
    rw [n] at q; simp at q
theorem of_hidT {h : Heap} {H : Hp} {b : Addr} {o : Obj} (e : (hidT h H).get? b = some o) : h.get? b = some o ∧ H b = none := by
  have e' : h.get? b = some o := PySem.W.of_hideAll (trk h H) e
  refine ⟨e', ?_⟩
  cases q : H b with
  | none => rfl
  | some x =>
    have hm : b ∈ trk h H := List.mem_filter.mpr ⟨List.mem_range.mpr (Heap.lt_size e'), by simp [q]⟩
    have z : (hidT h H).get? b = none := PySem.W.hideAll_none (trk h H) hm
    rw [z] at e; cases e
def allNews (g h : Heap) (L : Addr) : List (Addr × Obj) := (List.range h.objs.size).filterMap fun a => if a = L ∨ (g.get? a).isSome = true then none else (h.get? a).map fun o => (a, o)
def rest (g h : Heap) (L d : Addr) : List (Addr × Obj) := (allNews g h L).filter fun p => decide (p.1 ≠ d)
end L2
namespace L2
open PySem PySem.Spec PyProof.Rows
structure Mod (K : PySem.W.Frag) (mg : Str → Option Value) (base : Heap) : Prop where
  kin : K.In base
  glob : base.Ns mainGlobals mg
  blt : ∃ mb, base.Ns builtinsNs mb ∧ ∀ x : Str, x ≠ "__name__" → mb x = bootBuiltins x
  nolimit : base.NoLimit
structure Cx where
  prog : Program
  w : World
  K : PySem.W.Frag
  mg : Str → Option Value
  base : Heap
  A : Around
  N : List Str
  s₀ : Shared
  H₀ : Hp
  env : Env
  outer : List Env
  stack : List Env
  ex : List Addr
  fn : Str → Bool
  calm : Bool
  pn : List (Addr × Obj)
  xe : Value → Shared → Prop
def frs (l : List Env) : List Addr := l.filterMap (·.frame)
abbrev Cx.fs (X : Cx) : List Addr := frs X.outer
def Vis (sc : Scope) (x : Str) : Prop := sc.names.lookup x = some .local ∨ sc.names.lookup x = some .cell ∨ sc.names.lookup x = some .free
def Loc (sc : Scope) (x : Str) : Prop := sc.names.lookup x = some .local ∨ sc.names.lookup x = some .cell
def Look (env : Env) (h : Heap) (m : Str → Option Value) (x : Str) (u : Value) : Prop :=
  (env.kindOf x = some .local ∧ m x = some u) ∨ ((env.kindOf x = some .cell ∨ env.kindOf x = some .free) ∧ ∃ c, env.cells.lookup x = some c ∧ h.IsCell c (some u))
structure Cx.Ok (X : Cx) : Prop where
  mod : Mod X.K X.mg X.base
  kind : X.env.scope.kind = .function
  glob : X.env.globals = mainGlobals
  blt : X.env.builtins = builtinsNs
  above : X.s₀.heap.objs.size ≤ X.env.locals
  inj : ∀ x y c, X.env.cells.lookup x = some c → X.env.cells.lookup y = some c → x = y
  has : ∀ x, (X.env.kindOf x = some .cell ∨ X.env.kindOf x = some .free) → ∃ c, X.env.cells.lookup x = some c
  cab : ∀ x c, X.fn x = true → X.env.cells.lookup x = some c → X.s₀.heap.objs.size ≤ c
  hd : X.calm = true → X.A.handled = none
  frames : X.A.frames = some X.stack
  stk : X.stack = X.outer ∨ (X.stack = X.env :: X.outer ∧ X.env.frame = some X.env.locals)
  exf : ∀ b ∈ X.ex, b ≠ X.env.locals ∧ ∀ x c, X.env.cells.lookup x = some c → c ≠ b
  bs : ∀ b o, X.base.get? b = some o → X.s₀.heap.get? b = some o ∧ X.H₀ b = none
  bsz : X.base.objs.size ≤ X.s₀.heap.objs.size
  noex : ∀ b o, X.base.get? b = some o → b ∉ X.ex
  exfs : ∀ b ∈ X.ex, b ∉ X.fs
  funs : X.s₀.heap.FunFrames X.base X.outer
  frf : ∀ b ∈ X.fs, X.H₀ b = none
structure Inv (X : Cx) (pins : List (Addr × Obj)) (σ : List (Option V)) (H : Hp) (s : Shared) : Prop where
  ok : X.Ok
  os : s.os = X.s₀.os
  bare : AllBare s.gens
  base : Un X.fs X.ex X.H₀ H X.s₀.heap s.heap
  loc : ∃ m, s.heap.Ns X.env.locals m ∧ ∀ (i : Nat) (x : Str) (v : V), X.N[i]? = some x → σ[i]? = some (some v) → Vis X.env.scope x → ∃ u, RelV v u ∧ Look X.env s.heap m x u
  cell : ∀ x c, X.env.cells.lookup x = some c → ∃ v, s.heap.IsCell c v
  free : H X.env.locals = none
  freeC : ∀ x c, X.env.cells.lookup x = some c → H c = none
  pin : ∀ p ∈ X.pn ++ pins, s.heap.get? p.1 = some p.2 ∧ H p.1 = none ∧ p.1 ≠ X.env.locals ∧ p.1 ∉ X.fs ∧ ∀ v, p.2.data ≠ .cell v
  hok : HOk X.prog X.w H s.heap
  len : σ.length = X.N.length
section
variable {X : Cx} {pins : List (Addr × Obj)} {σ : List (Option V)} {H H' : Hp} {s : Shared} {h' : Heap}
theorem Cx.Ok.nofr (ok : X.Ok) {b : Addr} {o : Obj} (e : X.base.get? b = some o) : b ∉ X.fs := fun hb => by
  have := (ok.funs.mem hb).1
  rw [e] at this; cases this
theorem Inv.bs (I : Inv X pins σ H s) : ∀ b o, X.base.get? b = some o → s.heap.get? b = some o ∧ H b = none := fun b o e =>
  ⟨I.base.keep b o (I.ok.bs b o e).1 (I.ok.bs b o e).2 (I.ok.nofr e) (I.ok.noex b o e), I.base.free b o (I.ok.bs b o e).1 (I.ok.bs b o e).2 (I.ok.noex b o e)⟩
theorem Inv.bk (I : Inv X pins σ H s) : ∀ b o, X.base.get? b = some o → s.heap.get? b = some o := fun b o e => (I.bs b o e).1
theorem Inv.mod (I : Inv X pins σ H s) : Mod X.K X.mg X.base := I.ok.mod
theorem Inv.kIn (I : Inv X pins σ H s) : X.K.In s.heap := I.ok.mod.kin.keeps I.bk
theorem Inv.nolimit (I : Inv X pins σ H s) : s.heap.NoLimit := I.ok.mod.nolimit.keeps I.bk
theorem Inv.fr (I : Inv X pins σ H s) : ∃ m, Fr X.base X.env.locals s.heap m :=
  let ⟨m, hn, _⟩ := I.loc
  ⟨m, hn, I.bk, Nat.le_trans I.ok.bsz I.ok.above⟩
theorem Inv.lt (I : Inv X pins σ H s) : X.env.locals < s.heap.objs.size := let ⟨_, hn, _⟩ := I.loc; hn.lt
theorem Inv.sz (I : Inv X pins σ H s) : X.s₀.heap.objs.size ≤ s.heap.objs.size := Nat.le_trans I.ok.above (Nat.le_of_lt I.lt)
theorem Inv.nofs (I : Inv X pins σ H s) {a : Addr} (h : s.heap.objs.size ≤ a) : a ∉ X.fs := fun hb => by
  obtain ⟨_, o, ho, _⟩ := I.ok.funs.mem hb
  exact absurd (Nat.lt_of_lt_of_le (Heap.lt_size ho) (Nat.le_trans I.sz h)) (Nat.lt_irrefl _)
theorem Inv.cne (I : Inv X pins σ H s) : ∀ x c, X.env.cells.lookup x = some c → c ≠ X.env.locals := fun x c e z => by
  obtain ⟨v, o, ho, hd⟩ := I.cell x c e
  obtain ⟨m, ⟨o', es, ep, ho', hd', _⟩, _⟩ := I.loc
  rw [z, ho'] at ho; cases ho; rw [hd'] at hd; cases hd
theorem Inv.funs (I : Inv X pins σ H s) : s.heap.FunFrames X.base X.outer := by
  have all : ∀ (l : List Env), (∀ b ∈ frs l, b ∈ X.fs) → X.s₀.heap.FunFrames X.base l → s.heap.FunFrames X.base l := by
    intro l
    induction l with
    | nil => intro _ _; trivial
    | cons env r ih =>
      intro hs hl
      obtain ⟨hk, ⟨L, o, hf, hn, ho, hd⟩, hr⟩ := hl
      have hL : L ∈ X.fs := hs L (by unfold frs; rw [List.filterMap_cons, hf]; exact List.mem_cons_self)
      obtain ⟨sl, e⟩ := I.base.slot L o ho (I.ok.frf L hL) hL fun z => I.ok.exfs L z hL
      exact ⟨hk, ⟨L, _, hf, hn, e, hd⟩, ih (fun b hb => hs b (by unfold frs; rw [List.filterMap_cons, hf]; exact List.mem_cons_of_mem _ hb)) hr⟩
  exact all X.outer (fun _ hb => hb) I.ok.funs
theorem Inv.stack (I : Inv X pins σ H s) : s.heap.FunFrames X.base X.stack := by
  rcases I.ok.stk with e | ⟨e, hf⟩
  · rw [e]; exact I.funs
  · rw [e]
    obtain ⟨m, hn, _⟩ := I.loc
    refine .cons (by rw [I.ok.kind]; decide) hf hn ?_ I.funs
    exact Heap.get?_none_of_le (Nat.le_trans I.ok.bsz I.ok.above)
theorem Inv.stkSub (I : Inv X pins σ H s) : ∀ b ∈ frs X.stack, b ∈ X.env.locals :: X.fs := fun b hb => by
  rcases I.ok.stk with e | ⟨e, hf⟩
  · rw [e] at hb; exact List.mem_cons_of_mem _ hb
  · rw [e] at hb
    unfold frs at hb
    rw [List.filterMap_cons, hf] at hb
    exact hb
theorem Inv.stkFree (I : Inv X pins σ H s) : ∀ b ∈ frs X.stack, H b = none := fun b hb => by
  rcases List.mem_cons.mp (I.stkSub b hb) with e | hb
  · rw [e]; exact I.free
  · obtain ⟨_, o, ho, _⟩ := I.ok.funs.mem hb
    exact I.base.free b o ho (I.ok.frf b hb) fun z => I.ok.exfs b z hb
theorem Inv.step {g' : Array GenState} {t' : Nat} {d' : Drawn} {ch : List Addr} (I : Inv X pins σ H s)
    (hch : ∀ b ∈ ch, (b ∈ X.ex ∨ X.s₀.heap.objs.size ≤ b) ∧ b ≠ X.env.locals ∧ (∀ x c, X.env.cells.lookup x = some c → c ≠ b) ∧ ∀ p ∈ X.pn ++ pins, p.1 ≠ b)
    (keep : ∀ b o, b ≠ X.env.locals → b ∉ X.fs → b ∉ ch → s.heap.get? b = some o → H b = none → h'.get? b = some o)
    (slot : ∀ b o, b ≠ X.env.locals → b ∈ X.fs → b ∉ ch → s.heap.get? b = some o → H b = none → ∃ sl, h'.get? b = some { o with slots := sl }) (free : ∀ b o, b ∉ ch → s.heap.get? b = some o → H b = none → H' b = none)
    (there : ∀ b o, b ∉ ch → s.heap.get? b = some o → ∃ o', h'.get? b = some o')
    (tups : ∀ b xs, H b = some (.tup xs) → H' b = some (.tup xs)) (frzs : ∀ b o u, H b = some (.frz o u) → H' b = some (.frz o u)) (tbls : ∀ b ps, H b = some (.tbl ps) → ∃ more, H' b = some (.tbl (ps ++ more)))
    (ns : ∀ m, s.heap.Ns X.env.locals m → h'.Ns X.env.locals m) (hok : HOk X.prog X.w H' h') (hg : AllBare g') :
    Inv X pins σ H' { s with heap := h', gens := g', drawn := d', toks := t' } := by
  have neL : ∀ b o, X.s₀.heap.get? b = some o → b ≠ X.env.locals := fun b o e => Nat.ne_of_lt (Nat.lt_of_lt_of_le (Heap.lt_size e) I.ok.above)
  have neC : ∀ b o, X.s₀.heap.get? b = some o → b ∉ X.ex → b ∉ ch := fun b o e hx hb => by
    rcases (hch b hb).1 with z | z
    · exact hx z
    · exact absurd (Nat.lt_of_lt_of_le (Heap.lt_size e) z) (Nat.lt_irrefl _)
  have cellK : ∀ x c, X.env.cells.lookup x = some c → ∀ v, s.heap.IsCell c v → h'.IsCell c v := fun x c e v ⟨o, ho, hd⟩ => by
    have nch : c ∉ ch := fun z => (hch c z).2.2.1 x c e rfl
    by_cases hc : c ∈ X.fs
    · obtain ⟨sl, q⟩ := slot c o (I.cne x c e) hc nch ho (I.freeC x c e)
      exact ⟨_, q, hd⟩
    · exact ⟨o, keep c o (I.cne x c e) hc nch ho (I.freeC x c e), hd⟩
  refine ⟨I.ok, I.os, hg, ⟨fun b o e n hb hx => ?_, fun b o e n hb hx => ?_, fun b o e n hx => ?_, fun b o e hx => ?_, fun b xs e => tups b xs (I.base.tups b xs e), fun b o xs e => frzs b o xs (I.base.frzs b o xs e), fun b ps e => ?_⟩, ?_, fun x c e => ?_, ?_, fun x c e => ?_, fun p hp => ?_, hok, I.len⟩
  · exact keep b o (neL b o e) hb (neC b o e hx) (I.base.keep b o e n hb hx) (I.base.free b o e n hx)
  · obtain ⟨sl, e1⟩ := I.base.slot b o e n hb hx
    obtain ⟨sl', e2⟩ := slot b _ (neL b o e) hb (neC b o e hx) e1 (I.base.free b o e n hx)
    exact ⟨sl', e2⟩
  · obtain ⟨o', e1⟩ := I.base.there b o e hx
    exact free b o' (neC b o e hx) e1 (I.base.free b o e n hx)
  · obtain ⟨o', e1⟩ := I.base.there b o e hx
    exact there b o' (neC b o e hx) e1
  · obtain ⟨m1, e1⟩ := I.base.tbls b ps e
    obtain ⟨m2, e2⟩ := tbls b _ e1
    exact ⟨m1 ++ m2, by rw [e2, Array.append_assoc]⟩
  · obtain ⟨m, hn, hl⟩ := I.loc
    refine ⟨m, ns m hn, fun i x v e1 e2 e3 => ?_⟩
    obtain ⟨u, r, l⟩ := hl i x v e1 e2 e3
    refine ⟨u, r, ?_⟩
    rcases l with l | ⟨k, c, e, z⟩
    · exact .inl l
    · exact .inr ⟨k, c, e, cellK x c e _ z⟩
  · obtain ⟨v, z⟩ := I.cell x c e
    exact ⟨v, cellK x c e v z⟩
  · obtain ⟨m, ⟨o, _, _, ho, _⟩, _⟩ := I.loc
    exact free _ o (fun z => (hch _ z).2.1 rfl) ho I.free
  · obtain ⟨v, o, ho, hd⟩ := I.cell x c e
    exact free c o (fun z => (hch c z).2.2.1 x c e rfl) ho (I.freeC x c e)
  · obtain ⟨e, n, ne, nf, d⟩ := I.pin p hp
    have nch : p.1 ∉ ch := fun z => (hch p.1 z).2.2.2 p hp rfl
    exact ⟨keep p.1 p.2 ne nf nch e n, free p.1 p.2 nch e n, ne, nf, d⟩
theorem Inv.un {t' : Nat} (I : Inv X pins σ H s) (u : Un X.fs [] H H' s.heap h') (hok : HOk X.prog X.w H' h') : Inv X pins σ H' { s with heap := h', toks := t' } := by
  obtain ⟨m, ⟨o, es, ep, ho, r⟩, _⟩ := id I.loc
  obtain ⟨sl, hL⟩ := u.any ho I.free (by simp)
  exact I.step (g' := s.gens) (d' := s.drawn) (ch := []) (fun _ z => nomatch z) (fun b o _ hb _ e n => u.keep b o e n hb (by simp)) (fun b o _ hb _ e n => u.slot b o e n hb (by simp)) (fun b o _ e n => u.free b o e n (by simp)) (fun b o _ e => u.there b o e (by simp)) u.tups u.frzs u.tbls (fun m' hm => by
    obtain ⟨o', es', ep', ho', r'⟩ := hm
    rw [ho] at ho'; cases ho'
    exact ⟨_, es', ep', hL, r'⟩) hok I.bare
theorem Inv.call {g' : Array GenState} {t' : Nat} {d' : Drawn} {ch : List Addr} (I : Inv X pins σ H s) (u : Un (frs X.stack) ch H H' s.heap h') (hok : HOk X.prog X.w H' h') (hg : AllBare g')
    (hch : ∀ b ∈ ch, (b ∈ X.ex ∨ X.s₀.heap.objs.size ≤ b) ∧ b ≠ X.env.locals ∧ (∀ x c, X.env.cells.lookup x = some c → c ≠ b) ∧ ∀ p ∈ X.pn ++ pins, p.1 ≠ b) :
    Inv X pins σ H' { s with heap := h', gens := g', drawn := d', toks := t' } := by
  obtain ⟨m, ⟨o, es, ep, ho, r⟩, _⟩ := id I.loc
  obtain ⟨sl, hL⟩ := u.any ho I.free fun z => (hch _ z).2.1 rfl
  exact I.step (ch := ch) hch (fun b o hL hb hc e n => u.keep b o e n (fun z => (List.mem_cons.mp (I.stkSub b z)).elim hL hb) hc) (fun b o _ _ hc e n => u.any e n hc) (fun b o hc e n => u.free b o e n hc) (fun b o hc e => u.there b o e hc) u.tups u.frzs u.tbls (fun m' hm => by
    obtain ⟨o', es', ep', ho', r'⟩ := hm
    rw [ho] at ho'; cases ho'
    exact ⟨_, es', ep', hL, r'⟩) hok hg
theorem Inv.turned {t' : Nat} {it : Addr} (I : Inv X pins σ H s) (k : ∀ b o, b ≠ it → s.heap.get? b = some o → h'.get? b = some o) (hn : H it = none) (hL : it ≠ X.env.locals)
    (h1 : it ∈ X.ex ∨ X.s₀.heap.objs.size ≤ it) (h2 : ∀ x c, X.env.cells.lookup x = some c → c ≠ it) (h3 : ∀ p ∈ X.pn ++ pins, p.1 ≠ it) : Inv X pins σ H { s with heap := h', toks := t' } := by
  have nit : ∀ b u, H b = some u → b ≠ it := fun b u e z => by rw [z, hn] at e; cases e
  refine I.step (g' := s.gens) (d' := s.drawn) (ch := [it]) (fun b hb => ?_) (fun b o _ _ hc e _ => k b o (fun z => hc (by simp [z])) e) (fun b o _ _ hc e _ => ⟨o.slots, k b o (fun z => hc (by simp [z])) e⟩) (fun _ _ _ _ n => n)
    (fun b o hc e => ⟨o, k b o (fun z => hc (by simp [z])) e⟩) (fun _ _ e => e) (fun _ _ _ e => e) (fun b ps e => ⟨#[], by rw [e]; simp⟩) (fun m hm => ?_) (fun b u e => ?_) I.bare
  · have e : b = it := by simpa using hb
    subst e
    exact ⟨h1, hL, h2, h3⟩
  · obtain ⟨o, es, ep, ho, r⟩ := hm
    exact ⟨o, es, ep, k _ o (Ne.symm hL) ho, r⟩
  · refine (I.hok b u e).stay (fun c v hc q => k c v ?_ q) (fun _ q => q) fun _ _ q => q
    rcases hc with z | z
    · rw [z]; exact nit b u e
    · exact nit c _ z
theorem Inv.tok (I : Inv X pins σ H s) (t : Nat) : Inv X pins σ H { s with toks := t } := I.un (h' := s.heap) (t' := t) Un.refl I.hok
theorem Inv.kept {t' : Nat} (I : Inv X pins σ H s) (k : ∀ b u, s.heap.get? b = some u → h'.get? b = some u) : Inv X pins σ H { s with heap := h', toks := t' } := I.un (Un.kept k) (I.hok.kept k)
theorem Inv.laid {a : Addr} {o : HO} {t' : Nat} (I : Inv X pins σ H s) (k : ∀ b u, s.heap.get? b = some u → h'.get? b = some u) (hp : s.heap.objs.size ≤ a) (new : ObjOk X.prog X.w (upd H a o) h' a o) :
    Inv X pins σ (upd H a o) { s with heap := h', toks := t' } := I.un (Un.laid k hp (I.hok.fresh hp)) (I.hok.laid k hp new)
theorem Inv.write {x e : Addr} {o : HO} {t' : Nat} (I : Inv X pins σ H s) (mu : Mut (H x)) (he : e = x ∨ H e = some (.own x)) (k : ∀ b u, b ≠ e → s.heap.get? b = some u → h'.get? b = some u) (heo : ∃ u, h'.get? e = some u)
    (new : ObjOk X.prog X.w (upd H x o) h' x o) : Inv X pins σ (upd H x o) { s with heap := h', toks := t' } := I.un (Un.write mu he k heo) (I.hok.write mu he k heo new)
theorem Inv.weak {σ' : List (Option V)} (I : Inv X pins σ H s) (hl : σ'.length = σ.length) (w : ∀ (i : Nat) v, σ'[i]? = some (some v) → σ[i]? = some (some v)) : Inv X pins σ' H s :=
  ⟨I.ok, I.os, I.bare, I.base, let ⟨m, hn, hl'⟩ := I.loc; ⟨m, hn, fun i x v e1 e2 e3 => hl' i x v e1 (w i v e2) e3⟩, I.cell, I.free, I.freeC, I.pin, I.hok, hl.trans I.len⟩
theorem Inv.pins_of {pins' : List (Addr × Obj)} (I : Inv X pins σ H s) (h : ∀ p ∈ pins', s.heap.get? p.1 = some p.2 ∧ H p.1 = none ∧ p.1 ≠ X.env.locals ∧ p.1 ∉ X.fs ∧ ∀ v, p.2.data ≠ .cell v) : Inv X pins' σ H s :=
  ⟨I.ok, I.os, I.bare, I.base, I.loc, I.cell, I.free, I.freeC, fun p hp => (List.mem_append.mp hp).elim (fun z => I.pin p (List.mem_append_left _ z)) (h p), I.hok, I.len⟩
theorem nodup_ix {N : List Str} (hN : N.Nodup) {i j : Nat} {x : Str} (a : N[i]? = some x) (b : N[j]? = some x) : i = j := by
  obtain ⟨h1, e1⟩ := List.getElem?_eq_some_iff.mp a
  obtain ⟨h2, e2⟩ := List.getElem?_eq_some_iff.mp b
  exact (List.getElem_inj hN).mp (e1.trans e2.symm)
theorem store_ok2 {M : Model} {A : Around} {E : Value → Shared → Prop} {i : Nat} {x : Str} {v : V} {u : Value} {Q : Unit → Shared → Prop} (I : Inv X pins σ H s) (hN : X.N.Nodup) (hi : X.N[i]? = some x) (hx : Loc X.env.scope x) (r : RelV v u)
    (h : ∀ s', Inv X pins (σ.set i (some v)) H s' → (∃ a, Heap.SameBut a s.heap s'.heap ∧ (a = X.env.locals ∨ X.env.cells.lookup x = some a)) → Q () s') (hf : X.fn x = true ∨ X.env.scope.names.lookup x = some .local := by first | exact .inl rfl | exact .inr rfl | assumption) : wpAny M A (storeName X.env x u) Q E s := by
  obtain ⟨m, hn, hl⟩ := id I.loc
  have hcls : (X.env.scope.kind == .class || (X.env.scope.kind == .module && X.env.locals != X.env.globals)) = false := by rw [I.ok.kind]; rfl
  have hiσ : i < σ.length := by rw [I.len]; exact (List.getElem?_eq_some_iff.mp hi).1
  have cne := I.cne
  have tracked : ∀ {a : Addr} {h' : Heap}, (∃ o, s.heap.get? a = some o ∧ H a = none) → Heap.SameBut a s.heap h' → HOk X.prog X.w H h' := fun {a h'} ha hs b ob e => by
    obtain ⟨_, _, hfree⟩ := ha
    refine (I.hok b ob e).stay (fun c w' hc q => (hs.2 c ?_).trans q) (fun _ q => q) fun _ _ q => q
    rintro rfl
    rcases hc with rfl | hc
    · rw [hfree] at e; cases e
    · rw [hfree] at hc; cases hc
  rcases hx with hk | hk
  · refine wpAny_storeName_local hk hn (fun h' hn' hs => ?_) hcls
    obtain ⟨oL, _, _, hoL, _⟩ := id hn
    refine h _ ⟨I.ok, I.os, I.bare, ⟨fun b o e n hb hx => ?_, fun b o e n hb hx => ?_, I.base.free, fun b o e hx => ?_, I.base.tups, I.base.frzs, I.base.tbls⟩, ⟨_, hn', fun j y v' e1 e2 e3 => ?_⟩, fun y c e => ?_, I.free, I.freeC, fun p hp => ?_, tracked ⟨oL, hoL, I.free⟩ hs, by simpa using I.len⟩ ⟨_, hs, .inl rfl⟩
    · exact (hs.2 b (Nat.ne_of_lt (Nat.lt_of_lt_of_le (Heap.lt_size e) I.ok.above))).trans (I.base.keep b o e n hb hx)
    · obtain ⟨sl, e1⟩ := I.base.slot b o e n hb hx
      exact ⟨sl, (hs.2 b (Nat.ne_of_lt (Nat.lt_of_lt_of_le (Heap.lt_size e) I.ok.above))).trans e1⟩
    · obtain ⟨o', e1⟩ := I.base.there b o e hx
      exact ⟨o', (hs.2 b (Nat.ne_of_lt (Nat.lt_of_lt_of_le (Heap.lt_size e) I.ok.above))).trans e1⟩
    · by_cases hj : j = i
      · subst hj
        rw [hi] at e1; cases e1
        rw [List.getElem?_set_self hiσ] at e2
        cases e2
        exact ⟨u, r, .inl ⟨hk, by simp⟩⟩
      · rw [List.getElem?_set_ne (Ne.symm hj)] at e2
        obtain ⟨u', r', q⟩ := hl j y v' e1 e2 e3
        refine ⟨u', r', ?_⟩
        rcases q with ⟨k, e⟩ | ⟨k, c, e, z⟩
        · refine .inl ⟨k, ?_⟩
          have : y ≠ x := fun e => hj (nodup_ix hN e1 (e ▸ hi))
          simp [this, e]
        · exact .inr ⟨k, c, e, z.sameBut hs (cne y c e)⟩
    · obtain ⟨w', z⟩ := I.cell y c e
      exact ⟨w', z.sameBut hs (cne y c e)⟩
    · obtain ⟨e, n, ne, nf, d⟩ := I.pin p hp
      exact ⟨(hs.2 p.1 ne).trans e, n, ne, nf, d⟩
  · have hfn : X.fn x = true := by
      rcases hf with z | z
      · exact z
      · rw [z] at hk; cases hk
    obtain ⟨c, hc⟩ := I.ok.has x (.inl hk)
    obtain ⟨w', z⟩ := I.cell x c hc
    refine wpAny_storeName_cell I.ok.kind hk hc z (fun h' hc' hs => ?_)
    obtain ⟨oc, hoc, hocd⟩ := id z
    refine h { s with heap := h' } ⟨I.ok, I.os, I.bare, ⟨fun b o e n hb hx => ?_, fun b o e n hb hx => ?_, I.base.free, fun b o e hx => ?_, I.base.tups, I.base.frzs, I.base.tbls⟩, ⟨m, hn.sameBut hs (Ne.symm (cne x c hc)), fun j y v' e1 e2 e3 => ?_⟩, fun y c' e => ?_, I.free, I.freeC, fun p hp => ?_, tracked ⟨oc, hoc, I.freeC x c hc⟩ hs, by simpa using I.len⟩ ⟨c, hs, .inr hc⟩
    · exact (hs.2 b (Nat.ne_of_lt (Nat.lt_of_lt_of_le (Heap.lt_size e) (I.ok.cab x c hfn hc)))).trans (I.base.keep b o e n hb hx)
    · obtain ⟨sl, e1⟩ := I.base.slot b o e n hb hx
      exact ⟨sl, (hs.2 b (Nat.ne_of_lt (Nat.lt_of_lt_of_le (Heap.lt_size e) (I.ok.cab x c hfn hc)))).trans e1⟩
    · obtain ⟨o', e1⟩ := I.base.there b o e hx
      exact ⟨o', (hs.2 b (Nat.ne_of_lt (Nat.lt_of_lt_of_le (Heap.lt_size e) (I.ok.cab x c hfn hc)))).trans e1⟩
    · by_cases hj : j = i
      · subst hj
        rw [hi] at e1; cases e1
        rw [List.getElem?_set_self hiσ] at e2
        cases e2
        exact ⟨u, r, .inr ⟨.inl hk, c, hc, hc'⟩⟩
      · rw [List.getElem?_set_ne (Ne.symm hj)] at e2
        obtain ⟨u', r', q⟩ := hl j y v' e1 e2 e3
        refine ⟨u', r', ?_⟩
        rcases q with q | ⟨k, c', e, z'⟩
        · exact .inl q
        · refine .inr ⟨k, c', e, z'.sameBut hs ?_⟩
          rintro rfl
          exact hj (nodup_ix hN e1 (I.ok.inj _ _ _ e hc ▸ hi))
    · by_cases hcc : c' = c
      · subst hcc; exact ⟨_, hc'⟩
      · obtain ⟨w2, z2⟩ := I.cell y c' e
        exact ⟨w2, z2.sameBut hs hcc⟩
    · obtain ⟨e, n, ne, nf, d⟩ := I.pin p hp
      refine ⟨(hs.2 p.1 ?_).trans e, n, ne, nf, d⟩
      intro q
      rw [q, hoc] at e
      have q' : oc = p.2 := Option.some.inj e
      exact d w' (by rw [← q']; exact hocd)
theorem store_ok {M : Model} {A : Around} {E : Value → Shared → Prop} {i : Nat} {x : Str} {v : V} {u : Value} {Q : Unit → Shared → Prop} (I : Inv X pins σ H s) (hN : X.N.Nodup) (hi : X.N[i]? = some x) (hx : Loc X.env.scope x) (r : RelV v u)
    (h : ∀ s', Inv X pins (σ.set i (some v)) H s' → Q () s') (hf : X.fn x = true ∨ X.env.scope.names.lookup x = some .local := by first | exact .inl rfl | exact .inr rfl | assumption) : wpAny M A (storeName X.env x u) Q E s :=
  store_ok2 I hN hi hx r (fun s' I' _ => h s' I') hf
theorem Inv.call' {s' : Shared} {ch : List Addr} (I : Inv X pins σ H s) (ho : s'.os = s.os) (u : Un (frs X.stack) ch H H' s.heap s'.heap) (hok : HOk X.prog X.w H' s'.heap) (hg : AllBare s'.gens)
    (hch : ∀ b ∈ ch, (b ∈ X.ex ∨ X.s₀.heap.objs.size ≤ b) ∧ b ≠ X.env.locals ∧ (∀ x c, X.env.cells.lookup x = some c → c ≠ b) ∧ ∀ p ∈ X.pn ++ pins, p.1 ≠ b) : Inv X pins σ H' s' := by
  obtain ⟨h', g', d', t', o'⟩ := s'
  have e : o' = s.os := ho
  subst e
  exact I.call (g' := g') (t' := t') (d' := d') u hok hg hch
end
abbrev XK := Value → Option Addr → Hp → Prop
abbrev St := List (Option V)
abbrev VK := V → Hp → Prop
abbrev TE := St → Hp → VK → Prop
abbrev TT := St → Hp → (Bool → Hp → Prop) → Prop
abbrev TA := St → Hp → (List V → Hp → Prop) → Prop
structure Ends where
  nx : St → Hp → Prop
  rt : VK
  bk : St → Hp → Prop := fun _ _ => False
  ct : St → Hp → Prop := fun _ _ => False
abbrev TS := Ends → St → Hp → Prop
def EP (X : Cx) (pins : List (Addr × Obj)) (σ : St) (Q : VK) (u : Value) (s' : Shared) : Prop := ∃ v H', Inv X pins σ H' s' ∧ RelV v u ∧ Q v H'
def TP (X : Cx) (pins : List (Addr × Obj)) (σ : St) (Q : Bool → Hp → Prop) (b : Bool) (s' : Shared) : Prop := ∃ H', Inv X pins σ H' s' ∧ Q b H'
def AP (X : Cx) (pins : List (Addr × Obj)) (σ : St) (Q : List V → Hp → Prop) (us : List Value) (s' : Shared) : Prop := ∃ vs H', Inv X pins σ H' s' ∧ Vals vs us ∧ Q vs H'
def SP (X : Cx) (pins : List (Addr × Obj)) (D : Ends) (f : Flow) (s' : Shared) : Prop :=
  match f with
  | .next => ∃ σ' H', Inv X pins σ' H' s' ∧ D.nx σ' H'
  | .brk => ∃ σ' H', Inv X pins σ' H' s' ∧ D.bk σ' H'
  | .cont => ∃ σ' H', Inv X pins σ' H' s' ∧ D.ct σ' H'
  | .ret u => ∃ v σ' H', Inv X pins σ' H' s' ∧ RelV v u ∧ D.rt v H'
def PE (X : Cx) (e : Expr) (t : TE) : Prop :=
  ∀ (pins : List (Addr × Obj)) (s : Shared) (σ : St) (H : Hp) (Q : VK), Inv X pins σ H s → t σ H Q → wpAny (model X.prog X.w) X.A (eval e X.env) (EP X pins σ Q) X.xe s
def PT (X : Cx) (e : Expr) (t : TT) : Prop :=
  ∀ (pins : List (Addr × Obj)) (s : Shared) (σ : St) (H : Hp) (Q : Bool → Hp → Prop), Inv X pins σ H s → t σ H Q → wpAny (model X.prog X.w) X.A (isTrue e X.env (eval e X.env)) (TP X pins σ Q) X.xe s
def PW (X : Cx) (e : Expr) (t : TT) : Prop :=
  ∀ (whole : Sem Value) (pins : List (Addr × Obj)) (s : Shared) (σ : St) (H : Hp) (Q : Bool → Hp → Prop), Inv X pins σ H s → t σ H Q → wpAny (model X.prog X.w) X.A (isTrue e X.env whole) (TP X pins σ Q) X.xe s
theorem PW.pt {X : Cx} {e : Expr} {t : TT} (h : PW X e t) : PT X e t := h _
def PA (X : Cx) (es : List Expr) (t : TA) : Prop :=
  ∀ (pos : Pos) (pins : List (Addr × Obj)) (s : Shared) (σ : St) (H : Hp) (Q : List V → Hp → Prop), Inv X pins σ H s → t σ H Q → wpAny (model X.prog X.w) X.A (spliced (backTo pos (starEach es X.env))) (AP X pins σ Q) X.xe s
def PS (X : Cx) (st : Stmt) (t : TS) : Prop :=
  ∀ (pins : List (Addr × Obj)) (s : Shared) (σ : St) (H : Hp) (D : Ends), Inv X pins σ H s → t D σ H → wpAny (model X.prog X.w) X.A (exec st X.env) (SP X pins D) X.xe s
def PSs (X : Cx) (st : List Stmt) (t : TS) : Prop :=
  ∀ (pins : List (Addr × Obj)) (s : Shared) (σ : St) (H : Hp) (D : Ends), Inv X pins σ H s → t D σ H → wpAny (model X.prog X.w) X.A (execs st X.env) (SP X pins D) X.xe s
theorem thn {α : Type} {t : Sem α} {Q Q' : α → Shared → Prop} {M : Model} {A : Around} {E : Value → Shared → Prop} {s : Shared} (h : wpAny M A t Q E s) (hQ : ∀ a s, Q a s → Q' a s) : wpAny M A t Q' E s := wpAny_mono h hQ fun _ _ x => x
end L2
namespace L2
open PySem PySem.Spec PyProof.Rows
section
variable {X : Cx}
def tVar (i : Nat) : TE := fun σ H Q => ∃ v, σ[i]? = some (some v) ∧ Q v H
def tC (v : V) : TE := fun _ H Q => Q v H
theorem pe_var {i : Nat} {x : Str} {pos : Pos} (hN : X.N[i]? = some x) (hv : Vis X.env.scope x) (hd : (x == ("__debug__" : Str)) = false := by decide) (hcd : (x == ("__classdict__" : Str)) = false := by decide) : PE X (.Name x pos) (tVar i) := by
  intro pins s σ H Q I h
  obtain ⟨v, e, h⟩ := h
  obtain ⟨m, hn, hl⟩ := I.loc
  obtain ⟨u, r, l⟩ := hl i x v hN e hv
  have fin : EP X pins σ Q u s := ⟨v, H, I, r, h⟩
  rcases l with ⟨hk, hm⟩ | ⟨hk, c, hc, hcell⟩
  · exact wpAny_Name (wpAny_loadName_local I.ok.kind hk hn hm fin) hd
  · rcases hk with hk | hk
    · exact wpAny_Name (wpAny_loadName_cell I.ok.kind hk hc hcell fin) hd
    · exact wpAny_Name (wpAny_loadName_free I.ok.kind hk hc hcell fin hcd) hd
theorem pe_int {i j pos} : PE X (.Constant (.int i) j pos) (tC (.int i)) := fun _ _ _ H _ I h => wpAny_Constant_int ⟨.int i, H, I.tok _, ⟨_, rfl⟩, h⟩
theorem pe_bl {b j pos} : PE X (.Constant (.bool b) j pos) (tC (.bl b)) := fun _ _ _ H _ I h => Constant_bool ⟨.bl b, H, I, rfl, h⟩
theorem pe_non {j pos} : PE X (.Constant .none j pos) (tC .non) := fun _ _ _ H _ I h => Constant_none ⟨.non, H, I, rfl, h⟩
theorem pe_str {x j pos} : PE X (.Constant (.str x) j pos) (tC (.str x)) := fun _ _ _ H _ I h => Calls.Constant_str ⟨.str x, H, I.tok _, ⟨_, rfl⟩, h⟩
def Gl (X : Cx) (x : Str) : Prop := X.env.kindOf x = some .globalImplicit
theorem ld_glob {E : Value → Shared → Prop} {pins : List (Addr × Obj)} {s : Shared} {σ : St} {H : Hp} {x : Str} {u : Value} {pos : Pos} {Q : Value → Shared → Prop} (I : Inv X pins σ H s) (hg : Gl X x) (hm : X.mg x = some u) (h : Q u s)
    (hd : (x == ("__debug__" : Str)) = false := by decide) : wpAny (model X.prog X.w) X.A (eval (.Name x pos) X.env) Q E s :=
  Calls.Name_function_global I.ok.kind hg (Calls.loadGlobal_global (by rw [I.ok.glob]; exact I.mod.glob.keeps I.bk) hm h) hd
theorem ld_blt {E : Value → Shared → Prop} {pins : List (Addr × Obj)} {s : Shared} {σ : St} {H : Hp} {x : Str} {u : Value} {pos : Pos} {Q : Value → Shared → Prop} (I : Inv X pins σ H s) (hg : Gl X x) (hm : X.mg x = none) (hv : bootBuiltins x = some u) (h : Q u s)
    (hn : x ≠ "__name__" := by decide) (hd : (x == ("__debug__" : Str)) = false := by decide) : wpAny (model X.prog X.w) X.A (eval (.Name x pos) X.env) Q E s := by
  obtain ⟨mb, h1, h2⟩ := I.mod.blt
  exact Calls.Name_function_global I.ok.kind hg (Calls.loadGlobal_builtin (by rw [I.ok.glob]; exact I.mod.glob.keeps I.bk) hm (by rw [I.ok.blt]; exact h1.keeps I.bk) ((h2 x hn).trans hv) h) hd
theorem pe_glob {x : Str} {v : V} {u : Value} {pos : Pos} (hg : Gl X x) (hm : X.mg x = some u) (r : RelV v u) (hd : (x == ("__debug__" : Str)) = false := by decide) : PE X (.Name x pos) (tC v) :=
  fun _ _ _ H _ I h => ld_glob I hg hm ⟨v, H, I, r, h⟩ hd
theorem pe_bltn {x : Str} {v : V} {u : Value} {pos : Pos} (hg : Gl X x) (hm : X.mg x = none) (hv : bootBuiltins x = some u) (r : RelV v u) (hn : x ≠ "__name__" := by decide) (hd : (x == ("__debug__" : Str)) = false := by decide) : PE X (.Name x pos) (tC v) :=
  fun _ _ _ H _ I h => ld_blt I hg hm hv ⟨v, H, I, r, h⟩ hn hd
variable {a b : Expr} {ta tb : TE} {pos : Pos}
def tB (t : TE) : TT := fun σ H Q => t σ H fun x H1 => ∃ c, x = .bl c ∧ Q c H1
theorem pt_val {e : Expr} {t : TE} (h : PE X e t) (he : ∀ whole, isTrue e X.env whole = (do let v ← whole; standAt e.pos; holding [v] (truthy v)) := by intro _; rfl) : PT X e (tB t) := by
  intro pins s σ H Q I hw
  refine isTrue_plain (thn (h pins s σ H _ I hw) fun v s1 ⟨x, H1, I1, r1, q1⟩ => ?_) (he _)
  obtain ⟨d, rfl, q⟩ := q1
  cases r1
  exact wpAny_truthy_bool ⟨H1, I1, q⟩
variable {tA tB' : TT} {rest : List Expr}
def tAnd (t u : TT) : TT := fun σ H Q => t σ H fun c H1 => if c = true then u σ H1 Q else Q false H1
def tOr (t u : TT) : TT := fun σ H Q => t σ H fun c H1 => if c = true then Q true H1 else u σ H1 Q
def tNot (t : TT) : TT := fun σ H Q => t σ H fun c H1 => Q (!c) H1
theorem pw_and1 (ha : PT X a tA) : PW X (.BoolOp .And [a] pos) tA := by
  intro wh pins s σ H Q I h
  refine isTrue_and (thn (ha pins s σ H Q I h) fun c s1 e => ?_)
  cases c with
  | true => exact isTrue_and_nil e
  | false => exact e
theorem pw_or1 (ha : PT X a tA) : PW X (.BoolOp .Or [a] pos) tA := by
  intro wh pins s σ H Q I h
  refine isTrue_or (thn (ha pins s σ H Q I h) fun c s1 e => ?_)
  cases c with
  | false => exact isTrue_or_nil e
  | true => exact e
theorem pw_and (ha : PT X a tA) (hb : PW X (.BoolOp .And (b :: rest) pos) tB') : PW X (.BoolOp .And (a :: b :: rest) pos) (tAnd tA tB') := by
  intro wh pins s σ H Q I h
  refine isTrue_and (thn (ha pins s σ H _ I h) fun c s1 ⟨H1, I1, q1⟩ => ?_)
  cases c with
  | true => exact hb wh pins s1 σ H1 Q I1 q1
  | false => exact ⟨H1, I1, q1⟩
theorem pw_or (ha : PT X a tA) (hb : PW X (.BoolOp .Or (b :: rest) pos) tB') : PW X (.BoolOp .Or (a :: b :: rest) pos) (tOr tA tB') := by
  intro wh pins s σ H Q I h
  refine isTrue_or (thn (ha pins s σ H _ I h) fun c s1 ⟨H1, I1, q1⟩ => ?_)
  cases c with
  | true => exact ⟨H1, I1, q1⟩
  | false => exact hb wh pins s1 σ H1 Q I1 q1
theorem pt_not (ha : PT X a tA) : PT X (.UnaryOp .Not a pos) (tNot tA) := by
  intro pins s σ H Q I h
  exact isTrue_not (ha pins s σ H (fun c H1 => Q (!c) H1) I h)
def tAndV (ta tb : TE) : TE := fun σ H Q => ta σ H fun x H1 => ∃ c, x = .bl c ∧ if c = true then tb σ H1 Q else Q (.bl false) H1
def tNotV (ta : TE) : TE := fun σ H Q => ta σ H fun x H1 => ∃ c, x = .bl c ∧ Q (.bl (!c)) H1
theorem pe_one {op} {t : TE} (h : PE X a t) : PE X (.BoolOp op [a] pos) t := fun pins s σ H Q I hw => BoolOp_one (h pins s σ H Q I hw)
theorem pe_and (ha : PE X a ta) (hb : PE X (.BoolOp .And (b :: rest) pos) tb) : PE X (.BoolOp .And (a :: b :: rest) pos) (tAndV ta tb) := by
  intro pins s σ H Q I h
  refine BoolOp_and (thn (ha pins s σ H _ I h) fun v s1 ⟨x, H1, I1, r1, q1⟩ => ?_)
  obtain ⟨c, rfl, q1⟩ := q1
  cases r1
  refine wpAny_truthy_bool ?_
  cases c with
  | true => exact hb pins s1 σ H1 Q I1 q1
  | false => exact ⟨.bl false, H1, I1, rfl, q1⟩
theorem pe_not (ha : PE X a ta) : PE X (.UnaryOp .Not a pos) (tNotV ta) := by
  intro pins s σ H Q I h
  refine UnaryOp_ (thn (ha pins s σ H _ I h) fun v s1 ⟨x, H1, I1, r1, q1⟩ => ?_)
  obtain ⟨c, rfl, q1⟩ := q1
  cases r1
  exact not_of (wpAny_truthy_bool ⟨.bl (!c), H1, I1, rfl, q1⟩)
def tIf (t : TT) (ta tb : TE) : TE := fun σ H Q => t σ H fun c H1 => if c = true then ta σ H1 Q else tb σ H1 Q
theorem pe_ifExp {c : Expr} (hc : PT X c tA) (ha : PE X a ta) (hb : PE X b tb) : PE X (.IfExp c a b pos) (tIf tA ta tb) := by
  intro pins s σ H Q I h
  refine wpAny_IfExp (thn (hc pins s σ H _ I h) fun d s1 ⟨H1, I1, q1⟩ => ?_)
  cases d with
  | true => exact ha pins s1 σ H1 Q I1 q1
  | false => exact hb pins s1 σ H1 Q I1 q1
end
end L2
namespace L2
open PySem PySem.Spec PyProof.Rows
def SqL (K : PySem.W.Frag) (H : Hp) (a : Addr) (xs : List V) : Prop :=
  Rd H a (.lst xs) ∨
    ∃ (o : Obj) (its : Array Value) (n : Nat), K.lookup a = some o ∧ o.cls = .type "list" ∧ o.dict = none ∧ o.data = .seq its n ∧ its.size ≤ sizeLine ∧ Vals xs its.toList
def SqT (K : PySem.W.Frag) (H : Hp) (a : Addr) (xs : List V) : Prop :=
  Rd H a (.tup xs) ∨
    ∃ (o : Obj) (its : Array Value) (n : Nat), K.lookup a = some o ∧ o.cls = .type "tuple" ∧ o.data = .seq its n ∧ its.size ≤ sizeLine ∧ Vals xs its.toList
def absV : Value → Option V
  | .none => some .non
  | .bool b => some (.bl b)
  | .int i _ => some (.int i)
  | .str x _ => some (.str x)
  | .bytes b _ => some (.byt b)
  | .float b _ => some (.flt b)
  | .ref a => some (.ref a)
  | .type n => some (.ty n)
  | _ => none
theorem RelV.abs {x : V} {u : Value} (r : RelV x u) : absV u = some x := by
  cases x with
  | non => cases r; rfl
  | bl _ => cases r; rfl
  | int _ => obtain ⟨t, rfl⟩ := r; rfl
  | str _ => obtain ⟨t, rfl⟩ := r; rfl
  | byt _ => obtain ⟨t, rfl⟩ := r; rfl
  | flt _ => obtain ⟨t, rfl⟩ := r; rfl
  | ref _ => cases r; rfl
  | ty _ => cases r; rfl
theorem RelV.inj {x y : V} {u : Value} (r : RelV x u) (q : RelV y u) : x = y := Option.some.inj (r.abs.symm.trans q.abs)
theorem Vals.inj : ∀ {xs ys : List V} {us : List Value}, Vals xs us → Vals ys us → xs = ys
  | _, _, _, .nil, .nil => rfl
  | _, _, _, .cons r t, .cons r' t' => by rw [r.inj r', Vals.inj t t']
section
variable {X : Cx} {pins : List (Addr × Obj)} {σ : St} {H : Hp} {s : Shared} {a : Addr} {xs ys : List V}
theorem SqL.of {K : PySem.W.Frag} (h : H a = some (.lst xs)) : SqL K H a xs := .inl (.inl h)
theorem SqT.of {K : PySem.W.Frag} (h : H a = some (.tup xs)) : SqT K H a xs := .inl (.inl h)
theorem Inv.list (I : Inv X pins σ H s) (h : SqL X.K H a xs) : ∃ its : List Value, Vals xs its ∧ PlainL s.heap a its.toArray ∧ xs.length ≤ sizeLine := by
  rcases h with h | ⟨o, its, n, hk, hc, hd, hs, hz, r⟩
  · obtain ⟨z, its, n, r, e⟩ := h.ok I.hok
    exact ⟨its, r, ⟨_, n, e, rfl, rfl, rfl⟩, z⟩
  · refine ⟨its.toList, r, ⟨o, n, I.kIn a o hk, hc, hd, by simpa using hs⟩, ?_⟩
    have e := r.length
    simp only [Array.length_toList] at e
    omega
theorem Inv.tuple (I : Inv X pins σ H s) (h : SqT X.K H a xs) : ∃ its : List Value, Vals xs its ∧ IsTup s.heap a its.toArray ∧ xs.length ≤ sizeLine := by
  rcases h with h | ⟨o, its, n, hk, hc, hs, hz, r⟩
  · obtain ⟨z, its, r, p⟩ := h.ok I.hok
    exact ⟨its, r, p, z⟩
  · refine ⟨its.toList, r, ⟨o, I.kIn a o hk, hc, n, by simpa using hs⟩, ?_⟩
    have e := r.length
    simp only [Array.length_toList] at e
    omega
theorem Inv.list_inj (I : Inv X pins σ H s) (h : SqL X.K H a xs) (h' : SqL X.K H a ys) : xs = ys := by
  obtain ⟨its, r, ⟨o, n, e, _, _, d⟩, _⟩ := I.list h
  obtain ⟨its', r', ⟨o', n', e', _, _, d'⟩, _⟩ := I.list h'
  rw [e] at e'; cases e'
  rw [d] at d'
  injection d' with d1 _
  have : its = its' := by simpa using congrArg Array.toList d1
  subst this
  exact r.inj r'
theorem Inv.tuple_inj (I : Inv X pins σ H s) (h : SqT X.K H a xs) (h' : SqT X.K H a ys) : xs = ys := by
  obtain ⟨its, r, ⟨o, e, _, n, d⟩, _⟩ := I.tuple h
  obtain ⟨its', r', ⟨o', e', _, n', d'⟩, _⟩ := I.tuple h'
  rw [e] at e'; cases e'
  rw [d] at d'
  injection d' with d1 _
  have : its = its' := by simpa using congrArg Array.toList d1
  subst this
  exact r.inj r'
end
abbrev Cx.wish (X : Cx) (E : Value → Shared → Prop) : Cx := { X with xe := E }
abbrev Cx.nox (X : Cx) : Cx := X.wish fun _ _ => False
theorem Cx.Ok.wish {X : Cx} (ok : X.Ok) (E : Value → Shared → Prop) : (X.wish E).Ok :=
  ⟨ok.mod, ok.kind, ok.glob, ok.blt, ok.above, ok.inj, ok.has, ok.cab, ok.hd, ok.frames, ok.stk, ok.exf, ok.bs, ok.bsz, ok.noex, ok.exfs, ok.funs, ok.frf⟩
theorem Cx.Ok.unwish {X : Cx} {E : Value → Shared → Prop} (ok : (X.wish E).Ok) : X.Ok :=
  ⟨ok.mod, ok.kind, ok.glob, ok.blt, ok.above, ok.inj, ok.has, ok.cab, ok.hd, ok.frames, ok.stk, ok.exf, ok.bs, ok.bsz, ok.noex, ok.exfs, ok.funs, ok.frf⟩
section
variable {X : Cx} {pins : List (Addr × Obj)} {σ : St} {H : Hp} {s : Shared} {E : Value → Shared → Prop}
theorem Inv.wish (I : Inv X pins σ H s) (E : Value → Shared → Prop) : Inv (X.wish E) pins σ H s := ⟨I.ok.wish E, I.os, I.bare, I.base, I.loc, I.cell, I.free, I.freeC, I.pin, I.hok, I.len⟩
theorem Inv.unwish (I : Inv (X.wish E) pins σ H s) : Inv X pins σ H s := ⟨I.ok.unwish, I.os, I.bare, I.base, I.loc, I.cell, I.free, I.freeC, I.pin, I.hok, I.len⟩
theorem SP.unwish {D : Ends} {f : Flow} {s' : Shared} (h : SP (X.wish E) pins D f s') : SP X pins D f s' := by
  cases f with
  | next => obtain ⟨σ', H', I, q⟩ := h; exact ⟨σ', H', I.unwish, q⟩
  | brk => obtain ⟨σ', H', I, q⟩ := h; exact ⟨σ', H', I.unwish, q⟩
  | cont => obtain ⟨σ', H', I, q⟩ := h; exact ⟨σ', H', I.unwish, q⟩
  | ret u => obtain ⟨v, σ', H', I, r, q⟩ := h; exact ⟨v, σ', H', I.unwish, r, q⟩
theorem PE.nox {e : Expr} {t : TE} (h : PE X.nox e t) : PE X e t := fun pins s σ H Q I hw =>
  wpAny_mono (h pins s σ H Q (I.wish _) hw) (fun _ _ ⟨v, H', I', r, q⟩ => ⟨v, H', I'.unwish, r, q⟩) fun _ _ z => False.elim z
theorem PT.nox {e : Expr} {t : TT} (h : PT X.nox e t) : PT X e t := fun pins s σ H Q I hw =>
  wpAny_mono (h pins s σ H Q (I.wish _) hw) (fun _ _ ⟨H', I', q⟩ => ⟨H', I'.unwish, q⟩) fun _ _ z => False.elim z
theorem PSs.nox {st : List Stmt} {t : TS} (h : PSs X.nox st t) : PSs X st t := fun pins s σ H D I hw =>
  wpAny_mono (h pins s σ H D (I.wish _) hw) (fun _ _ q => q.unwish) fun _ _ z => False.elim z
end
section
variable {X : Cx} {st : Stmt} {rest : List Stmt} {t u : TS} {e : Expr} {te : TE} {pos : Pos}
def tNext : TS := fun D σ H => D.nx σ H
def tSeq (t u : TS) : TS := fun D σ H => t { D with nx := u D } σ H
theorem pss_nil : PSs X [] tNext := fun _ _ σ H _ I h => wpAny_execs_nil ⟨σ, H, I, h⟩
theorem pss_cons (h1 : PS X st t) (h2 : PSs X rest u) : PSs X (st :: rest) (tSeq t u) := by
  intro pins s σ H D I h
  refine wpAny_execs_cons (thn (h1 pins s σ H { D with nx := u D } I h) fun f s1 q => ?_)
  cases f with
  | next =>
    obtain ⟨σ', H', I', q⟩ := q
    exact h2 pins s1 σ' H' D I' q
  | ret v => exact q
  | brk => exact q
  | cont => exact q
theorem pss_one (h1 : PS X st t) : PSs X [st] t := by
  intro pins s σ H D I h
  refine wpAny_execs_cons (thn (h1 pins s σ H D I h) fun f s1 q => ?_)
  cases f with
  | next => exact wpAny_execs_nil q
  | ret v => exact q
  | brk => exact q
  | cont => exact q
theorem Inv.quiet {pins : List (Addr × Obj)} {σ : St} {H : Hp} {s : Shared} (I : Inv X pins σ H s) : interactive X.env = false := by simp [interactive, I.ok.kind]
def tDrop (te : TE) : TS := fun D σ H => te σ H fun _ H1 => D.nx σ H1
theorem ps_expr (he : PE X e te) (hs : swapsWith e none pos.line X.env = pure false := by rfl) : PS X (.Expr e pos) (tDrop te) := by
  intro pins s σ H D I h
  exact wpAny_Expr_any (thn (he pins s σ H _ I h) fun v s1 ⟨x, H1, I1, r1, q1⟩ => ⟨σ, H1, I1, q1⟩) I.quiet hs
def tRet (te : TE) : TS := fun D σ H => te σ H D.rt
theorem ps_ret (he : PE X e te) : PS X (.Return (some e) pos) (tRet te) := by
  intro pins s σ H D I h
  exact wpAny_Return_some (thn (he pins s σ H _ I h) fun v s1 ⟨x, H1, I1, r1, q1⟩ => ⟨x, σ, H1, I1, r1, q1⟩)
def tIfS (c : TT) (t u : TS) : TS := fun D σ H => c σ H fun b H1 => if b = true then t D σ H1 else u D σ H1
theorem ps_if {c : Expr} {a b : List Stmt} {tc : TT} (hc : PT X c tc) (ha : PSs X a t) (hb : PSs X b u) : PS X (.If c a b pos) (tIfS tc t u) := by
  intro pins s σ H D I h
  refine wpAny_If (thn (hc pins s σ H _ I h) fun d s1 ⟨H1, I1, q1⟩ => ?_)
  cases d with
  | true => exact ha pins s1 σ H1 D I1 q1
  | false => exact hb pins s1 σ H1 D I1 q1
def tNever : TS := fun _ _ _ => False
theorem ps_never : PS X st tNever := fun _ _ _ _ _ _ h => h.elim
theorem pss_never {sts : List Stmt} : PSs X sts tNever := fun _ _ _ _ _ _ h => h.elim
end
abbrev TG := V → St → Hp → (St → Hp → Prop) → Prop
abbrev TGs := List V → St → Hp → (St → Hp → Prop) → Prop
def PG (X : Cx) (target : Expr) (t : TG) : Prop :=
  ∀ (pins : List (Addr × Obj)) (s : Shared) (σ : St) (H : Hp) (v : V) (u : Value) (Q : St → Hp → Prop), Inv X pins σ H s → RelV v u → t v σ H Q →
    wpAny (model X.prog X.w) X.A (assign target X.env u) (fun _ s' => ∃ σ' H', Inv X pins σ' H' s' ∧ Q σ' H') X.xe s
def PGs (X : Cx) (ts : List Expr) (t : TGs) : Prop :=
  ∀ (pins : List (Addr × Obj)) (s : Shared) (σ : St) (H : Hp) (vs : List V) (us : List Value) (Q : St → Hp → Prop), Inv X pins σ H s → Vals vs us → t vs σ H Q →
    wpAny (model X.prog X.w) X.A (assignInOrder ((assignEach ts X.env).map (·.2)) us) (fun _ s' => ∃ σ' H', Inv X pins σ' H' s' ∧ Q σ' H') X.xe s
abbrev TSet := V → V → V → Hp → (Hp → Prop) → Prop
def PSet (X : Cx) (t : TSet) : Prop :=
  ∀ (pins : List (Addr × Obj)) (s : Shared) (σ : St) (H : Hp) (o i v : V) (ov iv u : Value) (Q : Hp → Prop), Inv X pins σ H s → RelV o ov → RelV i iv → RelV v u → t o i v H Q →
    wpAny (model X.prog X.w) X.A (setItem ov iv u) (fun _ s' => ∃ H', Inv X pins σ H' s' ∧ Q H') X.xe s
section
variable {X : Cx} {pos : Pos}
def gName (i : Nat) : TG := fun v σ H Q => Q (σ.set i (some v)) H
theorem pg_name {i : Nat} {x : Str} (hN : X.N.Nodup) (hi : X.N[i]? = some x) (hx : Loc X.env.scope x) (hf : X.fn x = true ∨ X.env.scope.names.lookup x = some .local := by first | exact .inl rfl | exact .inr rfl | assumption) : PG X (.Name x pos) (gName i) := by
  intro pins s σ H v u Q I r h
  exact wpAny_assign_Name (store_ok I hN hi hx r (fun s' I' => ⟨_, H, I', h⟩) hf)
def gNil : TGs := fun vs σ H Q => vs = [] ∧ Q σ H
def gCons (t : TG) (u : TGs) : TGs := fun vs σ H Q => ∃ v r, vs = v :: r ∧ t v σ H fun σ' H' => u r σ' H' Q
theorem pgs_nil : PGs X [] gNil := by
  intro pins s σ H vs us Q I r h
  obtain ⟨e, h⟩ := h
  subst e
  cases r
  exact assignInOrder_nil ⟨σ, H, I, h⟩
theorem pgs_cons {e : Expr} {es : List Expr} {t : TG} {u : TGs} (h1 : PG X e t) (h2 : PGs X es u)
    (hs : (assignEach (e :: es) X.env).map (·.2) = assign e X.env :: (assignEach es X.env).map (·.2) := by rfl) : PGs X (e :: es) (gCons t u) := by
  intro pins s σ H vs us Q I r h
  obtain ⟨v, vr, e1, h⟩ := h
  subst e1
  cases r with
  | cons r rr =>
    rw [hs]
    refine assignInOrder_cons (thn (h1 pins s σ H _ _ _ I r h) fun _ s1 ⟨σ1, H1, I1, q1⟩ => ?_)
    exact h2 pins s1 σ1 H1 _ _ Q I1 rr q1
def gTup (K : PySem.W.Frag) (n : Nat) (t : TGs) : TG := fun v σ H Q => ∃ a xs, v = .ref a ∧ SqT K H a xs ∧ xs.length = n ∧ t xs σ H Q
theorem pg_tup {es : List Expr} {k : Nat} {t : TGs} {n : Nat} (hc : X.calm = true) (h : PGs X es t)
    (hn : (assignEach es X.env).length = n := by rfl) (hst : (assignEach es X.env).findIdx? (·.1) = none := by rfl) : PG X (.Tuple es k pos) (gTup X.K n t) := by
  intro pins s σ H v u Q I r hw
  obtain ⟨a, xs, e1, hq, hl, hw⟩ := hw
  subst e1
  cases r
  obtain ⟨its, rv, ht, hz⟩ := I.tuple hq
  refine assign_Tuple_tuple (I.ok.hd hc) ht (by simp [hn, ← hl, rv.length]) hst fun h' hx => ?_
  have I1 : Inv X pins σ H { s with heap := h' } := I.kept (t' := s.toks) fun b o e => hx b o (Nat.ne_of_lt (Heap.lt_size e)) e
  exact h pins _ σ H xs _ Q I1 (by simpa using rv) hw
def gSub (to ti : TE) (t : TSet) : TG := fun v σ H Q => to σ H fun o H1 => ti σ H1 fun i H2 => t o i v H2 fun H3 => Q σ H3
theorem pg_sub {o i : Expr} {to ti : TE} {t : TSet} (ho : PE X o to) (hi : PE X i ti) (hs : PSet X t)
    (ha : ∀ v, assign (.Subscript o i pos) X.env v = (do
      let ov ← holding [v] (eval o X.env)
      let iv ← holding [v, ov] (eval i X.env)
      standAt pos
      holding [v, ov, iv] (setItem ov iv v)
      release [v, ov, iv] []) := by intro _; rfl) : PG X (.Subscript o i pos) (gSub to ti t) := by
  intro pins s σ H v u Q I r h
  rw [ha]
  refine wpAny_bind (wpAny_holding (thn (ho pins s σ H _ I h) fun ov s1 ⟨x, H1, I1, r1, q1⟩ => ?_))
  refine wpAny_bind (wpAny_holding (thn (hi pins s1 σ H1 _ I1 q1) fun iv s2 ⟨y, H2, I2, r2, q2⟩ => ?_))
  refine wpAny_bind (wpAny_standAt (wpAny_bind (wpAny_holding (thn (hs pins s2 σ H2 x y v ov iv u _ I2 r1 r2 r q2) fun _ s3 ⟨H3, I3, q3⟩ => ?_))))
  exact wpAny_release ⟨σ, H3, I3, q3⟩
def tAsg (te : TE) (g : TG) : TS := fun D σ H => te σ H fun x H1 => g x σ H1 D.nx
theorem ps_asg {tg e : Expr} {te : TE} {g : TG} (he : PE X e te) (hg : PG X tg g) (hs : swapsWithSole [tg] e pos.line X.env = pure false := by rfl) (hw : swappedStores [tg] e X.env = pure none := by rfl)
    (h1 : (assignEach [tg] X.env).map (·.2) = [assign tg X.env] := by rfl) : PS X (.Assign [tg] e pos) (tAsg te g) := by
  intro pins s σ H D I h
  refine wpAny_Assign_stores (thn (he pins s σ H _ I h) fun v s1 ⟨x, H1, I1, r1, q1⟩ => ?_) hs hw
  rw [h1]
  exact thn (hg pins s1 σ H1 x v _ I1 r1 q1) fun _ s2 q => q
theorem ps_set {i : Nat} {x : Str} {e : Expr} {te : TE} {pos' : Pos} (hN : X.N.Nodup) (hi : X.N[i]? = some x) (hx : Loc X.env.scope x) (he : PE X e te) (hs : swapsWith e (some (.Name x pos')) pos.line X.env = pure false := by rfl) (hf : X.fn x = true ∨ X.env.scope.names.lookup x = some .local := by first | exact .inl rfl | exact .inr rfl | assumption) :
    PS X (.Assign [.Name x pos'] e pos) (tAsg te (gName i)) := by
  intro pins s σ H D I h
  refine wpAny_Assign_Name (thn (he pins s σ H _ I h) fun v s1 ⟨y, H1, I1, r1, q1⟩ => ?_) hs
  exact store_ok I1 hN hi hx r1 (fun s2 I2 => ⟨_, H1, I2, q1⟩) hf
def tPar (i j : Nat) (ta : TA) : TS := fun D σ H => ta σ H fun vs H1 => ∃ v w, vs = [v, w] ∧ D.nx ((σ.set i (some v)).set j (some w)) H1
theorem ps_par {i j : Nat} {x y : Str} {a b : Expr} {ta : TA} {px py pt : Pos} {kt k2 pt2} (hc : X.calm = true) (hN : X.N.Nodup) (hi : X.N[i]? = some x) (hj : X.N[j]? = some y) (hij : i ≠ j)
    (hx : X.env.scope.names.lookup x = some .local) (hy : X.env.scope.names.lookup y = some .local) (ha : PA X [a, b] ta)
    (hw : swappedStores [.Tuple [.Name x px, .Name y py] kt pt] (.Tuple [a, b] k2 pt2) X.env = pure (some [x, y]))
    (hs : swapsWithSole [.Tuple [.Name x px, .Name y py] kt pt] (.Tuple [a, b] k2 pt2) pos.line X.env = pure false := by rfl) :
    PS X (.Assign [.Tuple [.Name x px, .Name y py] kt pt] (.Tuple [a, b] k2 pt2) pos) (tPar i j ta) := by
  intro pins s σ H D I h
  rw [exec_Assign_arm]
  refine wpAny_bind (wpAny_standAt ?_)
  rw [hs]
  refine wpAny_bind (wpAny_pure ?_)
  rw [if_neg (by decide)]
  refine wpAny_bind (Tuple_ (thn (ha _ pins s σ H _ I h) fun us s1 ⟨vs, H1, I1, r1, q1⟩ => ?_))
  obtain ⟨v, w, e1, q1⟩ := q1
  subst e1
  obtain ⟨u1, u2, rfl, rv, rw'⟩ : ∃ u1 u2, us = [u1, u2] ∧ RelV v u1 ∧ RelV w u2 := by
    cases r1 with
    | cons p q =>
      cases q with
      | cons p' q' =>
        cases q'
        exact ⟨_, _, rfl, p, p'⟩
  refine wpAny_newObj_type ?_ (by show 2 ≤ sizeLine; decide)
  have I2 : Inv X pins σ H1 { s1 with heap := s1.heap.push { cls := .type "tuple", data := .seq [u1, u2].toArray } } := I1.kept (t' := s1.toks) fun b o e => Heap.get?_push_of_some _ e
  rw [hw]
  refine wpAny_bind (wpAny_pure ?_)
  show wpAny (model X.prog X.w) X.A (do rule "assign.swapped-stores"; let items ← unpackItems (.ref s1.heap.objs.size) 2 none; assignInOrder [fun v => bindName X.env y v, fun v => bindName X.env x v] items.reverse; pure Flow.next) _ _ _
  refine wpAny_bind (wpAny_rule (wpAny_bind (unpackItems_tuple (items := #[u1, u2]) (I.ok.hd hc) (IsTup.new s1.heap _) fun h' hx' => ?_)))
  have I3 := I2.kept (h' := h') (t' := s1.toks) fun b o e => hx' b o (Nat.ne_of_lt (Heap.lt_size e)) e
  show wpAny _ _ (assignInOrder [fun v => bindName X.env y v, fun v => bindName X.env x v] [u2, u1] >>= fun _ => pure Flow.next) _ _ _
  refine wpAny_bind (assignInOrder_cons (wpAny_bindName (store_ok I3 hN hj (.inl hy) rw' (fun s2 I4 => ?_) (.inr hy))))
  refine assignInOrder_cons (wpAny_bindName (store_ok I4 hN hi (.inl hx) rv (fun s3 I5 => assignInOrder_nil (wpAny_pure ?_)) (.inr hx)))
  rw [List.set_comm _ _ (Ne.symm hij)] at I5
  exact ⟨_, H1, I5, q1⟩
end
section
variable {X : Cx} {pos : Pos}
def tWhile (c : TT) (tb : TS) : TS := fun D σ H => ∃ W : Nat → St → Hp → Prop, (∃ m, W m σ H) ∧ ∀ m σ H, W m σ H →
  c σ H fun b H1 => if b = true then ∃ N : St → Hp → Prop, (∀ σ' H', N σ' H' → ∃ m', m' < m ∧ W m' σ' H') ∧ tb { D with nx := N, ct := N, bk := D.nx } σ H1 else D.nx σ H1
theorem ps_while {c : Expr} {body : List Stmt} {tc : TT} {tb : TS} (hp : PassesOwn (model X.prog X.w) X.A X.env X.xe) (hc : PT X c tc) (hb : PSs X body tb) : PS X (.While c body [] pos) (tWhile tc tb) := by
  intro pins s σ H D I h
  obtain ⟨W, ⟨m0, w0⟩, turn⟩ := h
  refine wpAny_While (codeAny_whileLoop (fun n s' => ∃ σ' H', Inv X pins σ' H' s' ∧ W n σ' H') ?_ m0 ⟨σ, H, I, w0⟩)
  rintro n s1 ⟨σ1, H1, I1, w1⟩
  refine wpAny_passesOwn hp (thn (hc pins s1 σ1 H1 _ I1 (turn n σ1 H1 w1)) fun b s2 ⟨H2, I2, q2⟩ => ?_)
  cases b with
  | true =>
    obtain ⟨N, hN, q2⟩ := q2
    rw [if_pos rfl]
    refine wpAny_passesOwn hp (thn (hb pins s2 σ1 H2 _ I2 q2) fun f s3 q3 => ?_)
    cases f with
    | next =>
      obtain ⟨σ3, H3, I3, n3⟩ := q3
      obtain ⟨m', hm, w3⟩ := hN σ3 H3 n3
      exact ⟨m', hm, σ3, H3, I3, w3⟩
    | cont =>
      obtain ⟨σ3, H3, I3, n3⟩ := q3
      obtain ⟨m', hm, w3⟩ := hN σ3 H3 n3
      exact ⟨m', hm, σ3, H3, I3, w3⟩
    | brk => exact q3
    | ret v => exact q3
  | false =>
    rw [if_neg Bool.false_ne_true]
    exact wpAny_execs_nil ⟨σ1, H2, I2, q2⟩
end
structure It where
  go : Nat → Hp → Prop
  yld : Nat → Hp → V → Hp → Prop
  stop : Nat → Hp → Prop
def FpOk (X : Cx) (pins : List (Addr × Obj)) (H : Hp) (b : Addr) : Prop :=
  H b = none ∧ b ≠ X.env.locals ∧ b ∉ X.fs ∧ (b ∈ X.ex ∨ X.s₀.heap.objs.size ≤ b) ∧ (∀ x c, X.env.cells.lookup x = some c → c ≠ b) ∧ ∀ p ∈ X.pn ++ pins, p.1 ≠ b
theorem Inv.fpOk {X : Cx} {pins : List (Addr × Obj)} {σ : St} {H H' : Hp} {s : Shared} {b : Addr} (I : Inv X pins σ H s) (hb : s.heap.objs.size ≤ b) (hn : H' b = none) : FpOk X pins H' b := by
  refine ⟨hn, Nat.ne_of_gt (Nat.lt_of_lt_of_le I.lt hb), I.nofs hb, .inr (Nat.le_trans I.sz hb), fun x c e z => ?_, fun p hp z => ?_⟩
  · obtain ⟨v, q⟩ := I.cell x c e
    exact absurd (Nat.lt_of_lt_of_le q.lt (by rw [z]; exact hb)) (Nat.lt_irrefl _)
  · exact absurd (Nat.lt_of_lt_of_le (Heap.lt_size (I.pin p hp).1) (by rw [z]; exact hb)) (Nat.lt_irrefl _)
structure Turn (P : Program) (w : World) (K : PySem.W.Frag) (tg : Expr) (J : It) (fp : List Addr) (it : Addr) (tn : Nat → Heap → Prop) : Prop where
  mem : it ∈ fp
  obj : ∀ i h, tn i h → ∀ b ∈ fp, ∃ o, h.get? b = some o ∧ ∀ v, o.data ≠ .cell v
  keep : ∀ i h h', tn i h → (∀ b ∈ fp, ∀ o, h.get? b = some o → h'.get? b = some o) → tn i h'
  item : ∀ (X : Cx), X.prog = P → X.w = w → X.K = K → X.calm = true → ∀ (i : Nat) (pins : List (Addr × Obj)) (s : Shared) (σ : St) (H : Hp) (E : Value → Shared → Prop), Inv X pins σ H s → (∀ b ∈ fp, FpOk X pins H b) → tn i s.heap → J.go i H →
    wpAny (model P w) X.A (pyNext (.ref it)) (fun r s1 => ∃ u, r = some u ∧
      wpAny (model P w) X.A (letOwnedTupleGo tg (.ref it) u) (fun _ s2 => ∃ x H', Inv X pins σ H' s2 ∧ RelV x u ∧ J.yld i H x H' ∧ tn (i + 1) s2.heap ∧ ∀ b ∈ fp, H' b = none) E s1) E s
  done : ∀ (X : Cx), X.prog = P → X.w = w → X.K = K → X.calm = true → ∀ (i : Nat) (pins : List (Addr × Obj)) (s : Shared) (σ : St) (H : Hp) (E : Value → Shared → Prop), Inv X pins σ H s → (∀ b ∈ fp, FpOk X pins H b) → tn i s.heap → J.stop i H →
    wpAny (model P w) X.A (pyNext (.ref it)) (fun r s1 => r = none ∧ Inv X pins σ H s1) E s
  self : ∀ (A : Around) (i : Nat) (s : Shared) (Q : Value → Shared → Prop) (E : Value → Shared → Prop), tn i s.heap → Q (.ref it) s → wpAny (model P w) A (pyIter (.ref it)) Q E s
abbrev TI := St → Hp → (It → Hp → Prop) → Prop
def PIE (X : Cx) (pins : List (Addr × Obj)) (σ : St) (tg : Expr) (R : It → Hp → Prop) (itv : Value) (s2 : Shared) : Prop :=
  ∃ (it : Addr) (fp : List Addr) (tn : Nat → Heap → Prop) (J : It) (H' : Hp), itv = .ref it ∧ Inv X pins σ H' s2 ∧ Turn X.prog X.w X.K tg J fp it tn ∧ tn 0 s2.heap ∧ (∀ b ∈ fp, FpOk X pins H' b) ∧ R J H'
def PI (X : Cx) (tg iter : Expr) (wi : TI) : Prop :=
  ∀ (pins : List (Addr × Obj)) (s : Shared) (σ : St) (H : Hp) (R : It → Hp → Prop), Inv X pins σ H s → wi σ H R →
    wpAny (model X.prog X.w) X.A (eval iter X.env) (fun v s1 => wpAny (model X.prog X.w) X.A (pyIter v) (PIE X pins σ tg R) X.xe s1) X.xe s
theorem go_of {M : Model} {A : Around} {E : Value → Shared → Prop} {s : Shared} {tg : Expr} {it : Addr} {u : Value} {o : Obj} {n : String} {vs : Array Value} {Q : Unit → Shared → Prop} (ho : s.heap.get? it = some o) (hc : o.cls = .type n) (hd : o.data = .fields vs)
    (hn : ["enumerate", "zip", "dict_itemiterator", "dict_reverseitemiterator", "odict_iterator", "itertools.zip_longest", "itertools.pairwise"].contains n = false) (hQ : Q () s) : wpAny M A (letOwnedTupleGo tg (.ref it) u) Q E s := by
  unfold letOwnedTupleGo
  cases tg <;> first
    | exact wpAny_pure hQ
    | (cases u <;> first
        | exact wpAny_pure hQ
        | (refine wpAny_bind (wpAny_load ho ?_)
           rw [hc, hd]
           show wpAny M A (if (["enumerate", "zip", "dict_itemiterator", "dict_reverseitemiterator", "odict_iterator", "itertools.zip_longest", "itertools.pairwise"].contains n && vs[0]? == some (rawInt _)) = true then _ else _) Q E s
           rw [if_neg (by intro h; rw [hn, Bool.false_and] at h; cases h)]
           exact wpAny_pure hQ))
def Itl (K : PySem.W.Frag) (a : Addr) : It :=
  ⟨fun i H => ∃ xs x, SqL K H a xs ∧ xs[i]? = some x, fun i H x H' => H' = H ∧ ∀ xs, SqL K H a xs → xs[i]? = some x, fun i H => ∃ xs, SqL K H a xs ∧ xs.length ≤ i⟩
def Itt (K : PySem.W.Frag) (a : Addr) : It :=
  ⟨fun i H => ∃ xs x, SqT K H a xs ∧ xs[i]? = some x, fun i H x H' => H' = H ∧ ∀ xs, SqT K H a xs → xs[i]? = some x, fun i H => ∃ xs, SqT K H a xs ∧ xs.length ≤ i⟩
def Itr (lo : Int) (n : Nat) : It := ⟨fun i _ => i < n, fun i H x H' => H' = H ∧ x = .int (lo + i), fun i _ => n ≤ i⟩
theorem turn_list {P : Program} {w : World} {K : PySem.W.Frag} {tg : Expr} (a it : Addr) : Turn P w K tg (Itl K a) [it] it (fun i h => h.IsListIter it a i) where
  mem := by simp
  obj := fun i h st b hb => by
    have e : b = it := by simpa using hb
    subst e
    obtain ⟨o, e, c, d⟩ := st
    exact ⟨o, e, fun v z => by rw [d] at z; cases z⟩
  keep := fun i h h' st k => st.at fun o e => k it (by simp) o e
  item := by
    intro X hP hw hK hc i pins s σ H E I hf st hg
    subst hP hw hK
    obtain ⟨xs, x, hq, hx⟩ := hg
    obtain ⟨its, rv, p, hz⟩ := I.list hq
    obtain ⟨u, hu, ru⟩ := rv.get hx
    obtain ⟨f0, f1, f2, f3, f4, f5⟩ := hf it (by simp)
    refine wpAny_pyNext_list_item st p.isList (x := u) (by simpa using hu) fun h' st' sb => ?_
    have I1 : Inv X pins σ H { s with heap := h' } := I.turned (t' := s.toks) (fun b o hb e => (sb.2 b hb).trans e) f0 f1 f3 f4 f5
    obtain ⟨o, e, c, d⟩ := id st'
    exact ⟨u, rfl, go_of (s := { s with heap := h' }) e c d (by decide) ⟨x, H, I1, ru, ⟨rfl, fun ys hy => by rw [I.list_inj hy hq]; exact hx⟩, st', fun b hb => (hf b hb).1⟩⟩
  done := by
    intro X hP hw hK hc i pins s σ H E I hf st hg
    subst hP hw hK
    obtain ⟨xs, hq, hx⟩ := hg
    obtain ⟨its, rv, p, hz⟩ := I.list hq
    obtain ⟨f0, f1, f2, f3, f4, f5⟩ := hf it (by simp)
    have hl := rv.length
    exact wpAny_pyNext_list_end (I.ok.hd hc) st p.isList (by simp; omega) fun h' eb => ⟨rfl, I.turned (t' := s.toks) (fun b o hb e => eb b o hb e) f0 f1 f3 f4 f5⟩
  self := fun _ _ _ _ _ st h => wpAny_pyIter_listiter st h
theorem turn_tuple {P : Program} {w : World} {K : PySem.W.Frag} {tg : Expr} (a it : Addr) : Turn P w K tg (Itt K a) [it] it (fun i h => h.IsTupleIter it a i) where
  mem := by simp
  obj := fun i h st b hb => by
    have e : b = it := by simpa using hb
    subst e
    obtain ⟨o, e, c, d⟩ := st
    exact ⟨o, e, fun v z => by rw [d] at z; cases z⟩
  keep := fun i h h' st k => st.at fun o e => k it (by simp) o e
  item := by
    intro X hP hw hK hc i pins s σ H E I hf st hg
    subst hP hw hK
    obtain ⟨xs, x, hq, hx⟩ := hg
    obtain ⟨its, rv, p, hz⟩ := I.tuple hq
    obtain ⟨u, hu, ru⟩ := rv.get hx
    obtain ⟨f0, f1, f2, f3, f4, f5⟩ := hf it (by simp)
    refine wpAny_pyNext_tuple_item st (show s.heap.IsTuple a its.toArray from p) (x := u) (by simpa using hu) fun h' st' sb => ?_
    have I1 : Inv X pins σ H { s with heap := h' } := I.turned (t' := s.toks) (fun b o hb e => (sb.2 b hb).trans e) f0 f1 f3 f4 f5
    obtain ⟨o, e, c, d⟩ := id st'
    exact ⟨u, rfl, go_of (s := { s with heap := h' }) e c d (by decide) ⟨x, H, I1, ru, ⟨rfl, fun ys hy => by rw [I.tuple_inj hy hq]; exact hx⟩, st', fun b hb => (hf b hb).1⟩⟩
  done := by
    intro X hP hw hK hc i pins s σ H E I hf st hg
    subst hP hw hK
    obtain ⟨xs, hq, hx⟩ := hg
    obtain ⟨its, rv, p, hz⟩ := I.tuple hq
    obtain ⟨f0, f1, f2, f3, f4, f5⟩ := hf it (by simp)
    have hl := rv.length
    exact wpAny_pyNext_tuple_end (I.ok.hd hc) st (show s.heap.IsTuple a its.toArray from p) (by simp; omega) fun h' eb => ⟨rfl, I.turned (t' := s.toks) (fun b o hb e => eb b o hb e) f0 f1 f3 f4 f5⟩
  self := fun _ _ _ _ _ st h => wpAny_pyIter_tupleiter st h
theorem turn_range {P : Program} {w : World} {K : PySem.W.Frag} {tg : Expr} (it : Addr) (lo : Int) (n : Nat) : Turn P w K tg (Itr lo n) [it] it (fun i h => IsRangeIter h it (lo + (i : Nat) * 1) ((n : Int) - (i : Nat)) 1) where
  mem := by simp
  obj := fun i h st b hb => by
    have e : b = it := by simpa using hb
    subst e
    exact ⟨_, st, fun v z => by
      have z' : Data.fields _ = Data.cell v := z
      cases z'⟩
  keep := fun i h h' st k => k it (by simp) _ st
  item := by
    intro X hP hw hK hc i pins s σ H E I hf st hg
    subst hP hw hK
    obtain ⟨f0, f1, f2, f3, f4, f5⟩ := hf it (by simp)
    have W := Walks.range (prog := X.prog) (w := X.w) (I.ok.hd hc) it lo 1 n
    refine W.item i s _ _ hg st fun v h' tk hv st' kk => ?_
    obtain ⟨t, rfl⟩ := hv
    have I1 : Inv X pins σ H { s with heap := h', toks := tk } := I.turned (fun b o hb e => kk b o (by simpa using hb) e) f0 f1 f3 f4 f5
    refine ⟨_, rfl, go_of (s := { s with heap := h', toks := tk }) (n := "range_iterator") st' rfl rfl (by decide) ⟨.int (lo + i), H, I1, ⟨t, ?_⟩, ⟨rfl, rfl⟩, st', fun b hb => (hf b hb).1⟩⟩
    rw [Int.mul_one]
  done := by
    intro X hP hw hK hc i pins s σ H E I hf st hg
    subst hP hw hK
    obtain ⟨f0, f1, f2, f3, f4, f5⟩ := hf it (by simp)
    exact wpAny_pyNext_range_end (I.ok.hd hc) st (by have : n ≤ i := hg; omega) fun h' eb => ⟨rfl, I.turned (t' := s.toks) (fun b o hb e => eb b o hb e) f0 f1 f3 f4 f5⟩
  self := fun _ _ _ _ _ st h => wpAny_pyIter_rangeiter st h
end L2
namespace L2
open PySem PySem.Spec PyProof.Rows
section
variable {X : Cx} {tg : Expr}
def iList (K : PySem.W.Frag) (tl : TE) : TI := fun σ H R => tl σ H fun x H1 => ∃ a, x = .ref a ∧ (∃ xs, SqL K H1 a xs) ∧ R (Itl K a) H1
def iTup (K : PySem.W.Frag) (tl : TE) : TI := fun σ H R => tl σ H fun x H1 => ∃ a, x = .ref a ∧ (∃ xs, SqT K H1 a xs) ∧ R (Itt K a) H1
theorem pi_list {l : Expr} {tl : TE} (hl : PE X l tl) : PI X tg l (iList X.K tl) := by
  intro pins s σ H R I h
  refine thn (hl pins s σ H _ I h) fun v s1 ⟨x, H1, I1, r1, q1⟩ => ?_
  obtain ⟨a, e, ⟨xs, hq⟩, q⟩ := q1
  subst e
  cases r1
  obtain ⟨its, rv, p, hz⟩ := I1.list hq
  refine wpAny_pyIter_list p.isList ?_
  refine ⟨s1.heap.objs.size, [s1.heap.objs.size], _, _, H1, rfl, I1.kept (t' := s1.toks) fun b o e => Heap.get?_push_of_some _ e, turn_list a _, ⟨_, Heap.get?_push_size _ rfl, rfl, rfl⟩, fun b hb => ?_, q⟩
  have e : b = s1.heap.objs.size := by simpa using hb
  subst e
  exact I1.fpOk (Nat.le_refl _) (I1.hok.fresh (Nat.le_refl _))
theorem pi_tup {l : Expr} {tl : TE} (hl : PE X l tl) : PI X tg l (iTup X.K tl) := by
  intro pins s σ H R I h
  refine thn (hl pins s σ H _ I h) fun v s1 ⟨x, H1, I1, r1, q1⟩ => ?_
  obtain ⟨a, e, ⟨xs, hq⟩, q⟩ := q1
  subst e
  cases r1
  obtain ⟨its, rv, p, hz⟩ := I1.tuple hq
  refine wpAny_pyIter_tuple (show s1.heap.IsTuple a its.toArray from p) ?_
  refine ⟨s1.heap.objs.size, [s1.heap.objs.size], _, _, H1, rfl, I1.kept (t' := s1.toks) fun b o e => Heap.get?_push_of_some _ e, turn_tuple a _, ⟨_, Heap.get?_push_size _ rfl, rfl, rfl⟩, fun b hb => ?_, q⟩
  have e : b = s1.heap.objs.size := by simpa using hb
  subst e
  exact I1.fpOk (Nat.le_refl _) (I1.hok.fresh (Nat.le_refl _))
theorem range_it {pins : List (Addr × Obj)} {σ : St} {H : Hp} {s : Shared} {R : It → Hp → Prop} {E : Value → Shared → Prop} {lo hi : Int} {t u v : Tok} {tk : Nat} (I : Inv X pins σ H s) (h1 : -(2 ^ 62) ≤ lo) (h2 : lo < 2 ^ 62) (h3 : -(2 ^ 62) ≤ hi) (h4 : hi < 2 ^ 62)
    (q : R (Itr lo (hi - lo).toNat) H) : wpAny (model X.prog X.w) X.A (pyIter (.ref s.heap.objs.size)) (PIE X pins σ tg R) E { s with heap := s.heap.push { cls := .type "range", data := .fields #[.int lo t, .int hi u, .int 1 v] }, toks := tk } := by
  refine wpAny_pyIter_range (IsRange.new ..) (small_one h1 h2 h3 h4) ?_
  have I1 : Inv X pins σ H { s with heap := s.heap.push { cls := .type "range", data := .fields #[.int lo t, .int hi u, .int 1 v] }, toks := tk } := I.kept fun b o e => Heap.get?_push_of_some _ e
  refine ⟨(s.heap.push { cls := .type "range", data := .fields #[.int lo t, .int hi u, .int 1 v] }).objs.size, [(s.heap.push { cls := .type "range", data := .fields #[.int lo t, .int hi u, .int 1 v] }).objs.size], _, _, H, rfl,
    I1.kept (t' := tk) fun b o e => Heap.get?_push_of_some _ e, turn_range _ lo (hi - lo).toNat, ?_, fun b hb => ?_, q⟩
  · have e1 : lo + ((0 : Nat) : Int) * 1 = lo := by simp
    have e2 : (((hi - lo).toNat : Nat) : Int) - ((0 : Nat) : Int) = Builtin.Range.rangeSize lo hi 1 := by rw [rangeSize_one]; split <;> omega
    show IsRangeIter _ _ (lo + ((0 : Nat) : Int) * 1) ((((hi - lo).toNat : Nat) : Int) - ((0 : Nat) : Int)) 1
    rw [e1, e2]
    exact Heap.get?_push_size _ rfl
  · have e : b = (s.heap.push { cls := .type "range", data := .fields #[.int lo t, .int hi u, .int 1 v] }).objs.size := by simpa using hb
    subst e
    exact I1.fpOk (Nat.le_refl _) (I1.hok.fresh (Nat.le_refl _))
def iRng1 (ta : TA) : TI := fun σ H R => ta σ H fun vs H1 => ∃ j : Int, vs = [.int j] ∧ -(2 ^ 62) ≤ j ∧ j < 2 ^ 62 ∧ R (Itr 0 j.toNat) H1
theorem pi_range1 {a : Expr} {ta : TA} {p pos : Pos} (hg : Gl X "range") (hm : X.mg "range" = none) (ha : PA X [a] ta) (hs : starEach [a] X.env = [(false, eval a X.env)] := by rfl) : PI X tg (.Call (.Name "range" p) [a] [] pos) (iRng1 ta) := by
  intro pins s σ H R I h
  refine Call_ (ld_blt I hg hm boot_range (PyProof.Rows.callWith_type1 (thn (ha pos pins s σ H _ I h) fun us s1 ⟨vs, H1, I1, r1, q1⟩ => ?_) hs rfl))
  obtain ⟨j, e, q1, q2, q⟩ := q1
  subst e
  cases r1 with
  | cons r rr =>
    cases rr
    obtain ⟨t, rfl⟩ := r
    exact call_range_1 (range_it I1 (by omega) (by omega) q1 q2 (by simpa using q))
def tFor (wi : TI) (g : TG) (tb : TS) : TS := fun D σ H => wi σ H fun J H1 => ∃ W : Nat → Nat → St → Hp → Prop, (∃ m, W 0 m σ H1) ∧ ∀ i m σ H, W i m σ H →
  (J.stop i H ∧ D.nx σ H) ∨ (J.go i H ∧ ∃ N : St → Hp → Prop, (∀ σ' H', N σ' H' → ∃ m', m' < m ∧ W (i + 1) m' σ' H') ∧ ∀ x H', J.yld i H x H' → g x σ H' fun σ2 H2 => tb { D with nx := N, ct := N, bk := D.nx } σ2 H2)
def pinsAt (fp : List Addr) (h : Heap) : List (Addr × Obj) := fp.filterMap fun b => (h.get? b).map fun o => (b, o)
theorem mem_pinsAt {fp : List Addr} {h : Heap} {b : Addr} {o : Obj} (hb : b ∈ fp) (e : h.get? b = some o) : (b, o) ∈ pinsAt fp h := List.mem_filterMap.mpr ⟨b, hb, by rw [e]; rfl⟩
theorem of_pinsAt {fp : List Addr} {h : Heap} {p : Addr × Obj} (hp : p ∈ pinsAt fp h) : p.1 ∈ fp ∧ h.get? p.1 = some p.2 := by
  obtain ⟨b, hb, e⟩ := List.mem_filterMap.mp hp
  cases q : h.get? b with
  | none => rw [q] at e; cases e
  | some o =>
    rw [q] at e
    have e' : (b, o) = p := Option.some.inj e
    subst e'
    exact ⟨hb, q⟩
theorem Inv.pinned {pins : List (Addr × Obj)} {σ : St} {H : Hp} {s : Shared} {fp : List Addr} (I : Inv X pins σ H s) (hf : ∀ b ∈ fp, FpOk X pins H b) (ho : ∀ b ∈ fp, ∃ o, s.heap.get? b = some o ∧ ∀ v, o.data ≠ .cell v) : Inv X (pins ++ pinsAt fp s.heap) σ H s :=
  I.pins_of fun p hp => (List.mem_append.mp hp).elim (fun z => I.pin p (List.mem_append_right _ z)) fun z => by
    obtain ⟨hb, e⟩ := of_pinsAt z
    obtain ⟨f0, f1, f2, _⟩ := hf p.1 hb
    obtain ⟨o, e', d⟩ := ho p.1 hb
    rw [e] at e'; cases e'
    exact ⟨e, f0, f1, f2, d⟩
theorem Inv.unpinned {pins pl : List (Addr × Obj)} {σ : St} {H : Hp} {s : Shared} (I : Inv X (pins ++ pl) σ H s) : Inv X pins σ H s := I.pins_of fun p hp => I.pin p (List.mem_append_right _ (List.mem_append_left _ hp))
theorem ps_for {iter : Expr} {body : List Stmt} {wi : TI} {g : TG} {tb : TS} {pos : Pos} (hp : PassesOwn (model X.prog X.w) X.A X.env X.xe) (hc : X.calm = true) (hi : PI X tg iter wi) (hg : PG X tg g) (hb : PSs X body tb)
    (hs : ∀ x, foldedSetIterable iter X.env x = pure x := by intro _; rfl) : PS X (.For tg iter body [] pos) (tFor wi g tb) := by
  intro pins s σ H D I h
  refine wpAny_For (thn (hi pins s σ H _ I h) fun v s1 h1 => thn h1 fun itv s2 h2 => ?_) hs
  obtain ⟨it, fp, tn, J, H2, e, I2, T, st2, f2, W, ⟨m0, w0⟩, turn⟩ := h2
  subst e
  -- what stays true of the iterator's objects through the loop
  have stat : ∀ {H' : Hp}, (∀ b ∈ fp, H' b = none) → ∀ b ∈ fp, FpOk X pins H' b := fun hn b hb => ⟨hn b hb, (f2 b hb).2⟩
  refine codeAny_forLoop_any (fun n s' => ∃ i σ' H', Inv X pins σ' H' s' ∧ tn i s'.heap ∧ (∀ b ∈ fp, H' b = none) ∧ W i n σ' H') ?_ m0 ⟨0, σ, H2, I2, st2, fun b hb => (f2 b hb).1, w0⟩
  rintro n s3 ⟨i, σ3, H3, I3, st3, fr3, w3⟩
  rcases turn i n σ3 H3 w3 with ⟨stop, qn⟩ | ⟨go, N, hN, step⟩
  · refine wpAny_passesOwn hp (thn (T.done X rfl rfl rfl hc i pins s3 σ3 H3 X.xe I3 (stat fr3) st3 stop) fun r s4 ⟨hr, I4⟩ => ?_)
    subst hr
    exact wpAny_execs_nil ⟨σ3, H3, I4, qn⟩
  · refine wpAny_passesOwn hp (thn (T.item X rfl rfl rfl hc i pins s3 σ3 H3 X.xe I3 (stat fr3) st3 go) fun r s4 ⟨u, hr, h4⟩ => ?_)
    subst hr
    refine wpAny_passesOwn hp (thn h4 fun _ s5 ⟨x, H5, I5, r5, y5, st5, fr5⟩ => ?_)
    have I5' := I5.pinned (stat fr5) (T.obj _ _ st5)
    refine wpAny_passesOwn hp (thn (hg _ s5 σ3 H5 x u _ I5' r5 (step x H5 y5)) fun _ s6 ⟨σ6, H6, I6, q6⟩ => ?_)
    refine wpAny_passesOwn hp (thn (hb _ s6 σ6 H6 _ I6 q6) fun f s7 q7 => ?_)
    have again : ∀ {σ7 : St} {H7 : Hp}, Inv X (pins ++ pinsAt fp s5.heap) σ7 H7 s7 → N σ7 H7 → ∃ m, m < n ∧ ∃ i σ' H', Inv X pins σ' H' s7 ∧ tn i s7.heap ∧ (∀ b ∈ fp, H' b = none) ∧ W i m σ' H' := fun {σ7 H7} I7 n7 => by
      obtain ⟨m', hm, w7⟩ := hN σ7 H7 n7
      refine ⟨m', hm, i + 1, σ7, H7, I7.unpinned, T.keep _ _ _ st5 fun b hb o e => (I7.pin (b, o) (List.mem_append_right _ (List.mem_append_right _ (mem_pinsAt hb e)))).1, fun b hb => ?_, w7⟩
      obtain ⟨o, e, d⟩ := T.obj _ _ st5 b hb
      exact (I7.pin (b, o) (List.mem_append_right _ (List.mem_append_right _ (mem_pinsAt hb e)))).2.1
    cases f with
    | next => obtain ⟨σ7, H7, I7, n7⟩ := q7; exact again I7 n7
    | cont => obtain ⟨σ7, H7, I7, n7⟩ := q7; exact again I7 n7
    | brk => obtain ⟨σ7, H7, I7, q7⟩ := q7; exact ⟨σ7, H7, I7.unpinned, q7⟩
    | ret v => obtain ⟨x7, σ7, H7, I7, r7, q7⟩ := q7; exact ⟨x7, σ7, H7, I7.unpinned, r7, q7⟩
end
end L2
namespace L2
open PySem PySem.Spec PyProof.Rows
abbrev R2 := V → V → Hp → VK → Prop
def OpR (X : Cx) (f : Value → Value → Sem Value) (r : R2) : Prop :=
  ∀ (pins : List (Addr × Obj)) (s : Shared) (σ : St) (H : Hp) (x y : V) (v u : Value) (Q : VK), Inv X pins σ H s → RelV x v → RelV y u → r x y H Q →
    wpAny (model X.prog X.w) X.A (f v u) (EP X pins σ Q) X.xe s
def UnR (X : Cx) (f : Value → Sem Value) (r : V → Hp → VK → Prop) : Prop :=
  ∀ (pins : List (Addr × Obj)) (s : Shared) (σ : St) (H : Hp) (x : V) (v : Value) (Q : VK), Inv X pins σ H s → RelV x v → r x H Q →
    wpAny (model X.prog X.w) X.A (f v) (EP X pins σ Q) X.xe s
def CallR (X : Cx) (f : Value) (r : List V → Hp → VK → Prop) : Prop :=
  ∀ (pins : List (Addr × Obj)) (s : Shared) (σ : St) (H : Hp) (xs : List V) (us : List Value) (Q : VK), Inv X pins σ H s → Vals xs us → r xs H Q →
    wpAny (model X.prog X.w) X.A (call f us) (EP X pins σ Q) X.xe s
def tOp (r : R2) (ta tb : TE) : TE := fun σ H Q => ta σ H fun x H1 => tb σ H1 fun y H2 => r x y H2 Q
def tUn (r : V → Hp → VK → Prop) (ta : TE) : TE := fun σ H Q => ta σ H fun x H1 => r x H1 Q
def rI (C : Int → Int → Prop) (g : Int → Int → V) : R2 := fun x y H Q => ∃ i j, x = .int i ∧ y = .int j ∧ C i j ∧ Q (g i j) H
def rI0 (g : Int → Int → V) : R2 := fun x y H Q => ∃ i j, x = .int i ∧ y = .int j ∧ Q (g i j) H
def rU (g : Int → V) : V → Hp → VK → Prop := fun x H Q => ∃ i, x = .int i ∧ Q (g i) H
section
variable {X : Cx} {a b c : Expr} {ta tb tc : TE} {pos : Pos}
theorem binT (ha : PE X a ta) (hb : PE X b tb) {pins : List (Addr × Obj)} {s : Shared} {σ : St} {H : Hp} {R : V → V → Hp → Prop} (I : Inv X pins σ H s)
    (h : ta σ H fun x H1 => tb σ H1 fun y H2 => R x y H2) {Q : Value → Shared → Prop} {f : Value → Value → Sem Value}
    (hf : ∀ v u s2 x y H2, Inv X pins σ H2 s2 → RelV x v → RelV y u → R x y H2 → wpAny (model X.prog X.w) X.A (f v u) Q X.xe s2) :
    wpAny (model X.prog X.w) X.A (eval a X.env) (fun v s₁ => wpAny (model X.prog X.w) X.A (eval b X.env) (fun u s₂ => wpAny (model X.prog X.w) X.A (f v u) Q X.xe s₂) X.xe s₁) X.xe s := by
  refine thn (ha pins s σ H _ I h) fun v s1 ⟨x, H1, I1, r1, q1⟩ => ?_
  refine thn (hb pins s1 σ H1 _ I1 q1) fun u s2 ⟨y, H2, I2, r2, q2⟩ => ?_
  exact hf v u s2 x y H2 I2 r1 r2 q2
theorem pe_op {op : Operator} {r : R2} (ho : OpR X (binaryOp op) r) (ha : PE X a ta) (hb : PE X b tb) : PE X (.BinOp a op b pos) (tOp r ta tb) := by
  intro pins s σ H Q I h
  exact wpAny_BinOp (binT ha hb I h fun v u s2 x y H2 I2 rx ry q => ho pins s2 σ H2 x y v u Q I2 rx ry q)
theorem pe_un {op : UnaryOp} {r : V → Hp → VK → Prop} (ho : UnR X (unaryOp op) r) (ha : PE X a ta) : PE X (.UnaryOp op a pos) (tUn r ta) := by
  intro pins s σ H Q I h
  exact UnaryOp_ (thn (ha pins s σ H _ I h) fun v s1 ⟨x, H1, I1, r1, q1⟩ => ho pins s1 σ H1 x v Q I1 r1 q1)
theorem opI {f : Value → Value → Sem Value} {C : Int → Int → Prop} {g : Int → Int → Int}
    (rule : ∀ (i j : Int) (t u : Tok) (s : Shared) (Q : Value → Shared → Prop) (E : Value → Shared → Prop), C i j → Q (.int (g i j) s.toks) { s with toks := s.toks + 1 } → wpAny (model X.prog X.w) X.A (f (.int i t) (.int j u)) Q E s) :
    OpR X f (rI C fun i j => .int (g i j)) := by
  intro pins s σ H x y v u Q I rx ry h
  obtain ⟨i, j, rfl, rfl, hc, q⟩ := h
  obtain ⟨t, rfl⟩ := rx
  obtain ⟨t', rfl⟩ := ry
  exact rule i j t t' s _ _ hc ⟨.int (g i j), H, I.tok _, ⟨_, rfl⟩, q⟩
theorem opI0 {f : Value → Value → Sem Value} {g : Int → Int → Int}
    (rule : ∀ (i j : Int) (t u : Tok) (s : Shared) (Q : Value → Shared → Prop) (E : Value → Shared → Prop), Q (.int (g i j) s.toks) { s with toks := s.toks + 1 } → wpAny (model X.prog X.w) X.A (f (.int i t) (.int j u)) Q E s) :
    OpR X f (rI0 fun i j => .int (g i j)) := by
  intro pins s σ H x y v u Q I rx ry h
  obtain ⟨i, j, rfl, rfl, q⟩ := h
  obtain ⟨t, rfl⟩ := rx
  obtain ⟨t', rfl⟩ := ry
  exact rule i j t t' s _ _ ⟨.int (g i j), H, I.tok _, ⟨_, rfl⟩, q⟩
theorem opB0 {f : Value → Value → Sem Value} {g : Int → Int → Bool}
    (rule : ∀ (i j : Int) (t u : Tok) (s : Shared) (Q : Value → Shared → Prop) (E : Value → Shared → Prop), Q (.bool (g i j)) s → wpAny (model X.prog X.w) X.A (f (.int i t) (.int j u)) Q E s) :
    OpR X f (rI0 fun i j => .bl (g i j)) := by
  intro pins s σ H x y v u Q I rx ry h
  obtain ⟨i, j, rfl, rfl, q⟩ := h
  obtain ⟨t, rfl⟩ := rx
  obtain ⟨t', rfl⟩ := ry
  exact rule i j t t' s _ _ ⟨.bl (g i j), H, I, rfl, q⟩
def CDiv (i j : Int) : Prop := 0 < j ∧ j < 1073741824
def CPow (i j : Int) : Prop := 0 ≤ j ∧ j ≤ 1000000 ∧ i.natAbs < 2 ^ 64
def CMul (i j : Int) : Prop := (-(2 ^ 64) < i ∧ i < 2 ^ 64) ∨ (-(2 ^ 64) < j ∧ j < 2 ^ 64)
theorem CMul.ok {i j : Int} (h : CMul i j) : IntMulOk i j := by
  rcases h with ⟨h1, h2⟩ | ⟨h1, h2⟩
  · exact .of_left (intBits_le_64 h1 h2)
  · exact .of_right (intBits_le_64 h1 h2)
theorem op_add : OpR X (binaryOp .Add) (rI0 fun i j => .int (i + j)) := opI0 fun _ _ _ _ _ _ _ q => add_int q
theorem op_sub : OpR X (binaryOp .Sub) (rI0 fun i j => .int (i - j)) := opI0 fun _ _ _ _ _ _ _ q => sub_int q
theorem op_fdiv : OpR X (binaryOp .FloorDiv) (rI CDiv fun i j => .int (i / j)) := opI fun i j _ _ _ _ _ hc q => by
  have h1 : (0 : Int) < j := hc.1
  have h2 : j < 1073741824 := hc.2
  exact floordiv_int (by omega) (by rw [Int.fdiv_eq_ediv_of_nonneg i (by omega)]; exact q) (.inl (PyProof.noPylong_small (by omega)))
theorem op_mod : OpR X (binaryOp .Mod) (rI (fun _ j => 0 < j) fun i j => .int (i % j)) := opI fun i j _ _ _ _ _ hc q => by
  have h1 : (0 : Int) < j := hc
  exact mod_int' (by omega) (by rw [Int.fmod_eq_emod_of_nonneg i (by omega)]; exact q)
theorem op_pow : OpR X (binaryOp .Pow) (rI CPow fun i j => .int (i ^ j.toNat)) := opI fun _ _ _ _ _ _ _ hc q => pow_int_small hc.1 hc.2.1 hc.2.2 q
theorem unI {f : Value → Sem Value} {g : Int → Int}
    (rule : ∀ (i : Int) (t : Tok) (s : Shared) (Q : Value → Shared → Prop) (E : Value → Shared → Prop), Q (.int (g i) s.toks) { s with toks := s.toks + 1 } → wpAny (model X.prog X.w) X.A (f (.int i t)) Q E s) :
    UnR X f (rU fun i => .int (g i)) := by
  intro pins s σ H x v Q I rx h
  obtain ⟨i, rfl, q⟩ := h
  obtain ⟨t, rfl⟩ := rx
  exact rule i t s _ _ ⟨.int (g i), H, I.tok _, ⟨_, rfl⟩, q⟩
theorem un_neg : UnR X (unaryOp .USub) (rU fun i => .int (-i)) := unI fun _ _ _ _ _ q => neg_int q
end
def scal : V → V → Bool
  | .non, .non => true | .non, .int _ => true | .int _, .non => true | .non, .bl _ => true | .bl _, .non => true | .non, .str _ => true | .str _, .non => true
  | .int _, .int _ => true | .bl _, .bl _ => true | .str _, .str _ => true | .byt _, .byt _ => true
  | .int _, .str _ => true | .str _, .int _ => true | .bl _, .str _ => true | .str _, .bl _ => true
  | _, _ => false
def rEq : R2 := fun x y H Q => scal x y = true ∧ Q (.bl (decide (x = y))) H
theorem dec_int {i j : Int} : decide (V.int i = V.int j) = (i == j) := by
  rw [Bool.eq_iff_iff]
  simp
theorem dec_bl {i j : Bool} : decide (V.bl i = V.bl j) = (i == j) := by
  rw [Bool.eq_iff_iff]
  simp
theorem dec_str {i j : Str} : decide (V.str i = V.str j) = (i == j) := by
  rw [Bool.eq_iff_iff]
  simp
theorem dec_byt {i j : Array UInt8} : decide (V.byt i = V.byt j) = (i.toList == j.toList) := by
  rw [Bool.eq_iff_iff]
  cases i
  cases j
  simp
section
variable {X : Cx} {a b c : Expr} {ta tb tc : TE} {pos : Pos}
theorem fin_bl {pins : List (Addr × Obj)} {σ : St} {H : Hp} {s : Shared} {Q : VK} {k k' : Bool} (I : Inv X pins σ H s) (q : Q (.bl k) H) (e : k = k') : EP X pins σ Q (.bool k') s := by
  subst e
  exact ⟨.bl k, H, I, rfl, q⟩
theorem op_eq : OpR X (compareOp .Eq) rEq := by
  intro pins s σ H x y v u Q I rx ry h
  obtain ⟨hs, q⟩ := h
  cases x with
  | non =>
    cases rx
    cases y with
    | non => cases ry; exact PySem.EqNone.eq_none_none (fin_bl I q (by simp))
    | bl j => cases ry; exact PySem.EqNone.eq_none_bool (fin_bl I q (by simp))
    | int j => obtain ⟨t', rfl⟩ := ry; exact PySem.EqNone.eq_none_int (fin_bl I q (by simp))
    | str j => obtain ⟨t', rfl⟩ := ry; exact PySem.EqNone.eq_none_str (fin_bl I q (by simp))
    | _ => exact absurd (show false = true from hs) Bool.false_ne_true
  | bl i =>
    cases rx
    cases y with
    | non => cases ry; exact PySem.EqNone.eq_bool_none (fin_bl I q (by simp))
    | bl j => cases ry; exact eq_bool (fin_bl I q dec_bl)
    | str j => obtain ⟨t', rfl⟩ := ry; exact PySem.EqMixed.eq_bool_str (fin_bl I q (by simp))
    | _ => exact absurd (show false = true from hs) Bool.false_ne_true
  | int i =>
    obtain ⟨t, rfl⟩ := rx
    cases y with
    | non => cases ry; exact PySem.EqNone.eq_int_none (fin_bl I q (by simp))
    | int j => obtain ⟨t', rfl⟩ := ry; exact eq_int (fin_bl I q dec_int)
    | str j => obtain ⟨t', rfl⟩ := ry; exact PySem.EqMixed.eq_int_str (fin_bl I q (by simp))
    | _ => exact absurd (show false = true from hs) Bool.false_ne_true
  | str i =>
    obtain ⟨t, rfl⟩ := rx
    cases y with
    | non => cases ry; exact PySem.EqNone.eq_str_none (fin_bl I q (by simp))
    | bl j => cases ry; exact PySem.EqMixed.eq_str_bool (fin_bl I q (by simp))
    | int j => obtain ⟨t', rfl⟩ := ry; exact PySem.EqMixed.eq_str_int (fin_bl I q (by simp))
    | str j => obtain ⟨t', rfl⟩ := ry; exact eq_str (fin_bl I q dec_str)
    | _ => exact absurd (show false = true from hs) Bool.false_ne_true
  | byt i =>
    obtain ⟨t, rfl⟩ := rx
    cases y with
    | byt j => obtain ⟨t', rfl⟩ := ry; exact PySem.W.eq_bytes (fin_bl I q dec_byt)
    | _ => exact absurd (show false = true from hs) Bool.false_ne_true
  | _ => cases y <;> exact absurd (show false = true from hs) Bool.false_ne_true
theorem op_lt : OpR X (compareOp .Lt) (rI0 fun i j => .bl (decide (i < j))) := opB0 fun _ _ _ _ _ _ _ q => lt_int q
theorem op_le : OpR X (compareOp .LtE) (rI0 fun i j => .bl (decide (i ≤ j))) := opB0 fun _ _ _ _ _ _ _ q => le_int q
theorem op_gt : OpR X (compareOp .Gt) (rI0 fun i j => .bl (decide (j < i))) := opB0 fun _ _ _ _ _ _ _ q => gt_int q
theorem OpR.or {f : Value → Value → Sem Value} {r r' : R2} (h : OpR X f r) (h' : OpR X f r') : OpR X f (fun x y H Q => r x y H Q ∨ r' x y H Q) := by
  intro pins s σ H x y v u Q I rx ry q
  rcases q with q | q
  · exact h pins s σ H x y v u Q I rx ry q
  · exact h' pins s σ H x y v u Q I rx ry q
theorem nomark (b : Expr) {op : CmpOp} (h : op ≠ .In := by decide) (h2 : op ≠ .NotIn := by decide) : behindInMarks op b = false := by
  have e1 : (op == CmpOp.In) = false := by cases op <;> first | rfl | exact absurd rfl h
  have e2 : (op == CmpOp.NotIn) = false := by cases op <;> first | rfl | exact absurd rfl h2
  cases b <;> simp [behindInMarks, e1, e2]
theorem pe_cmpR {op : CmpOp} {r : R2} (ho : OpR X (compareOp op) r) (ha : PE X a ta) (hb : PE X b tb) (hm : behindInMarks op b = false) : PE X (.Compare a [op] [b] pos) (tOp r ta tb) := by
  intro pins s σ H Q I h
  exact wpAny_Compare1 (binT ha hb I h fun v u s2 x y H2 I2 rx ry q => ho pins s2 σ H2 x y v u Q I2 rx ry q) hm
def tTest (t : TE) : TT := fun σ H Q => t σ H fun x H' => ∃ k, x = .bl k ∧ Q k H'
theorem pt_cmpR {op : CmpOp} {r : R2} (ho : OpR X (compareOp op) r) (ha : PE X a ta) (hb : PE X b tb) (hm : behindInMarks op b = false) : PT X (.Compare a [op] [b] pos) (tTest (tOp r ta tb)) := by
  intro pins s σ H Q I h
  refine wpAny_isTrue_Compare1 (thn (ha pins s σ H _ I h) fun v s1 ⟨x, H1, I1, r1, q1⟩ => thn (hb pins s1 σ H1 _ I1 q1) fun u s2 ⟨y, H2, I2, r2, q2⟩ =>
    thn (ho pins s2 σ H2 x y v u _ I2 r1 r2 q2) fun c s3 ⟨z, H3, I3, r3, k, e, q3⟩ => ?_) hm
  subst e
  cases r3
  exact wpAny_truthy_bool ⟨H3, I3, q3⟩
def tChain (r r' : R2) (ta tb tc : TE) : TE := fun σ H Q => ta σ H fun x H1 => tb σ H1 fun y H2 => r x y H2 fun z H3 => ∃ k, z = .bl k ∧
  (if k = true then tc σ H3 fun w' H4 => r' y w' H4 Q else Q (.bl false) H3)
theorem pe_chain {op op' : CmpOp} {r r' : R2} (ho : OpR X (compareOp op) r) (ho' : OpR X (compareOp op') r') (ha : PE X a ta) (hb : PE X b tb) (hc : PE X c tc)
    (hm : lastMarks [op, op'] [b, c] = false := by with_unfolding_all rfl) : PE X (.Compare a [op, op'] [b, c] pos) (tChain r r' ta tb tc) := by
  intro pins s σ H Q I h
  refine Compare_chain (thn (ha pins s σ H _ I h) fun v s1 ⟨x, H1, I1, r1, q1⟩ => chain_link (thn (hb pins s1 σ H1 _ I1 q1) fun u s2 ⟨y, H2, I2, r2, q2⟩ =>
    thn (ho pins s2 σ H2 x y v u _ I2 r1 r2 q2) fun d s3 ⟨z, H3, I3, r3, k, e, q3⟩ => ?_)) hm
  subst e
  cases r3
  refine wpAny_truthy_bool ?_
  cases k with
  | false => exact ite_ff ⟨.bl false, H3, I3, rfl, q3⟩
  | true => exact ite_tt (chain_last (thn (hc pins s3 σ H3 _ I3 q3) fun w' s4 ⟨z', H4, I4, r4, q4⟩ => ho' pins s4 σ H4 y z' u w' Q I4 r2 r4 q4))
theorem line63 : (sizeLine : Nat) < 2 ^ 63 := by rw [sizeLine_eq]; decide
theorem vals1 {x : V} {us : List Value} (r : Vals [x] us) : ∃ u, us = [u] ∧ RelV x u := by
  cases r with
  | cons r1 r2 => cases r2; exact ⟨_, rfl, r1⟩
theorem vals2 {x y : V} {us : List Value} (r : Vals [x, y] us) : ∃ u w', us = [u, w'] ∧ RelV x u ∧ RelV y w' := by
  cases r with
  | cons r1 r2 =>
    cases r2 with
    | cons r3 r4 => cases r4; exact ⟨_, _, rfl, r1, r3⟩
theorem call_abs : CallR X (.builtin "abs") (fun xs H Q => ∃ i, xs = [.int i] ∧ Q (.int (if i < 0 then -i else i)) H) := by
  intro pins s σ H xs us Q I r h
  obtain ⟨i, rfl, q⟩ := h
  obtain ⟨u, rfl, t, rfl⟩ := vals1 r
  exact call_abs_int fun u tk => ⟨.int (if i < 0 then -i else i), H, I.tok _, ⟨_, rfl⟩, q⟩
theorem call_max2 (hc : X.calm = true) : CallR X (.builtin "max") (fun xs H Q => ∃ i j, xs = [.int i, .int j] ∧ Q (.int (if j > i then j else i)) H) := by
  intro pins s σ H xs us Q I r h
  obtain ⟨i, j, rfl, q⟩ := h
  obtain ⟨u, w', rfl, ⟨t, rfl⟩, ⟨t', rfl⟩⟩ := vals2 r
  refine max_two_ints (I.ok.hd hc) fun h' tk k => ⟨_, H, I.kept k, ?_, q⟩
  by_cases hj : j > i
  · rw [if_pos hj, if_pos hj]; exact ⟨_, rfl⟩
  · rw [if_neg hj, if_neg hj]; exact ⟨_, rfl⟩
theorem call_min2 (hc : X.calm = true) : CallR X (.builtin "min") (fun xs H Q => ∃ i j, xs = [.int i, .int j] ∧ Q (.int (if j < i then j else i)) H) := by
  intro pins s σ H xs us Q I r h
  obtain ⟨i, j, rfl, q⟩ := h
  obtain ⟨u, w', rfl, ⟨t, rfl⟩, ⟨t', rfl⟩⟩ := vals2 r
  refine min_two_ints (I.ok.hd hc) fun h' tk k => ⟨_, H, I.kept k, ?_, q⟩
  by_cases hj : j < i
  · rw [if_pos hj, if_pos hj]; exact ⟨_, rfl⟩
  · rw [if_neg hj, if_neg hj]; exact ⟨_, rfl⟩
theorem call_int1 : CallR X (.type "int") (fun xs H Q => (∃ i, xs = [.int i] ∧ Q (.int i) H) ∨ ∃ k, xs = [.bl k] ∧ Q (.int (if k then 1 else 0)) H) := by
  intro pins s σ H xs us Q I r h
  rcases h with ⟨i, rfl, q⟩ | ⟨k, rfl, q⟩
  · obtain ⟨u, rfl, t, rfl⟩ := vals1 r
    exact call_int_int ⟨.int i, H, I, ⟨_, rfl⟩, q⟩
  · obtain ⟨u, rfl, r1⟩ := vals1 r
    cases r1
    exact call_int_bool ⟨.int (if k then 1 else 0), H, I.tok _, ⟨_, rfl⟩, q⟩
end
end L2
namespace L2
open PySem PySem.Spec PyProof.Rows
structure ObjM (h : Heap) (x dx C : Addr) (mA : Str → Option Value) : Prop where
  obj : h.get? x = some (PySem.W.instObj C dx)
  ns : h.Ns1 dx mA
  ne : dx ≠ x
theorem lookIn_ns {h : Heap} {dx : Addr} {mA : Str → Option Value} (n : h.Ns1 dx mA) : ∃ od, h.get? dx = some od ∧ ∀ name, PySem.W.lookIn name od = some (mA name) := by
  obtain ⟨o, es, ep, ho, hd, hk, _, hm⟩ := n
  refine ⟨o, ho, fun name => ?_⟩
  have e := hm name
  unfold nsFind findBy at e
  rw [← Array.find?_toList] at e
  unfold PySem.W.lookIn
  rw [hd]
  dsimp only
  split
  · rename_i y q
    rw [q] at e
    exact congrArg some e
  · rename_i q
    rw [q] at e
    have a : es.toList.any (·.refKey) = false := by
      rw [List.any_eq_false]
      intro y hy
      obtain ⟨z, t, hkey⟩ := hk y (Array.mem_toList_iff.mp hy)
      simp [DictEntry.refKey, hkey]
    have a' : ¬ es.toList.any (·.refKey) = true := by rw [a]; exact Bool.false_ne_true
    rw [if_neg a']
    exact congrArg some e
theorem ObjM.look {h : Heap} {x dx C : Addr} {mA : Str → Option Value} (I : ObjM h x dx C mA) : ∃ od, PySem.W.InstAt h x (PySem.W.instObj C dx) C (some od) ∧ ∀ name, PySem.W.lookIn name od = some (mA name) :=
  let ⟨od, ho, hl⟩ := lookIn_ns I.ns
  ⟨od, ⟨I.obj, rfl, rfl, ho⟩, hl⟩
section
variable {prog : Program} {w : World} {A : Around} {E : Value → Shared → Prop} {s : Shared} {K : PySem.W.Frag} {x dx C f : Addr} {mA : Str → Option Value} {name : Str} {v : Value}
end
section
variable {P : Program} {w : World} {H H' : Hp} {h h' : Heap} {a C dx : Addr} {fs fs' : List (Str × V)}
end
structure Cls (K : PySem.W.Frag) (C : Addr) : Prop where
  pg : PySem.W.plainGet K C Str.empty = true
  hd : PySem.W.hasDictIn K C = true
  po : PySem.W.plainOver K C = true
  sa : PySem.W.findIn K (.ref C) "__setattr__" = some (some (.builtin "object.__setattr__"))
theorem Cls.get {K : PySem.W.Frag} {C : Addr} (c : Cls K C) (f : Str) : PySem.W.plainGet K C f = true := c.pg
structure Con (K : PySem.W.Frag) (C : Addr) (f : Str) (v : V) (u : Value) : Prop where
  at_ : PySem.W.findIn K (.ref C) f = some (some u)
  rel : RelV v u
  get : PySem.W.specialIn K u "__get__" = some none
  cp : PySem.W.copiedNames.contains f = false
structure Meth (K : PySem.W.Frag) (C : Addr) (m : Str) (f : Addr) : Prop where
  at_ : PySem.W.findIn K (.ref C) m = some (some (.ref f))
  fn : PySem.W.isFn K (.ref f) = true
  kp : PySem.W.keepIn K (.ref f) = true
section
variable {X : Cx} {pins : List (Addr × Obj)} {σ : St} {H : Hp} {s : Shared} {a C dx : Addr} {fs : List (Str × V)} {f : Str} {v : V} {A : Around} {E : Value → Shared → Prop}
theorem Inv.made (I : Inv X pins σ H s) : Inv X pins σ (upd (upd H s.heap.objs.size (.own (s.heap.objs.size + 1))) (s.heap.objs.size + 1) (.ins C s.heap.objs.size []))
    { s with heap := (s.heap.push PySem.W.emptyDict).push (PySem.W.instObj C s.heap.objs.size) } := by
  have e1 : (s.heap.push PySem.W.emptyDict).get? s.heap.objs.size = some PySem.W.emptyDict := Heap.get?_push_size s.heap rfl
  have e2 : ((s.heap.push PySem.W.emptyDict).push (PySem.W.instObj C s.heap.objs.size)).get? (s.heap.objs.size + 1) = some (PySem.W.instObj C s.heap.objs.size) := by
    have := Heap.get?_push_size (s.heap.push PySem.W.emptyDict) (o := PySem.W.instObj C s.heap.objs.size) rfl
    rwa [Heap.size_push] at this
  have e3 : (s.heap.push PySem.W.emptyDict).Ns s.heap.objs.size (fun _ => none) := ⟨PySem.W.emptyDict, #[], _, e1, rfl, (fun e he => absurd he (by simp)), fun _ => rfl⟩
  have I1 := I.laid (a := s.heap.objs.size) (o := .own (s.heap.objs.size + 1)) (h' := s.heap.push PySem.W.emptyDict) (t' := s.toks) (fun b u q => Heap.get?_push_of_some _ q) (Nat.le_refl _) ⟨_, e1⟩
  refine I1.laid (a := s.heap.objs.size + 1) (o := .ins C s.heap.objs.size []) (t' := s.toks) (fun b u q => Heap.get?_push_of_some _ q) (Nat.le_of_eq (Heap.size_push _ _)) ?_
  have ne : s.heap.objs.size ≠ s.heap.objs.size + 1 := Nat.ne_of_lt (Nat.lt_succ_self _)
  refine ⟨by rw [upd_ne ne, upd_same], Nat.zero_le _, ne, e2, fun _ => none, (Heap.Ns1.of_empty e3).at fun o q => Heap.get?_push_of_some _ q, fun _ => True.intro, fun y hy => absurd rfl hy⟩
end
section
variable {X : Cx} {o e value : Expr} {f : Str} {pos pos' tpos : Pos} {ta tv : TE}
end
section
variable {X : Cx} {pins : List (Addr × Obj)} {σ : St} {H : Hp} {s : Shared} {A : Around} {E : Value → Shared → Prop} {Q : Value → Shared → Prop} {c : Value} {b : Bool}
inductive TyOf (K : PySem.W.Frag) (H : Hp) : V → Value → Prop where
  | non : TyOf K H .non (.type "NoneType")
  | bl (x : Bool) : TyOf K H (.bl x) (.type "bool")
  | int (i : Int) : TyOf K H (.int i) (.type "int")
  | str (x : Str) : TyOf K H (.str x) (.type "str")
  | flt (x : UInt64) : TyOf K H (.flt x) (.type "float")
  | lst {a : Addr} {xs : List V} (e : H a = some (.lst xs)) : TyOf K H (.ref a) (.type "list")
  | frz {a : Addr} {o : Obj} {xs : List V} (e : H a = some (.frz o (.lst xs))) : TyOf K H (.ref a) (.type "list")
  | tup {a : Addr} {xs : List V} (e : H a = some (.tup xs)) : TyOf K H (.ref a) (.type "tuple")
  | dK {a : Addr} {kvs : List (Key × V)} (e : H a = some (.dK kvs)) : TyOf K H (.ref a) (.type "dict")
  | dT {a : Addr} {kvs : List (List Key × V)} (e : H a = some (.dT kvs)) : TyOf K H (.ref a) (.type "dict")
  | ins {a C dx : Addr} {fs : List (Str × V)} (e : H a = some (.ins C dx fs)) (cl : Cls K C) (ha : PySem.W.findIn K (.ref C) "__class__" = some (some (.builtin "object.__class__")))
      (hn : PySem.W.specialIn K (.builtin "object.__class__") "__get__" = some (some (.builtin "getset_descriptor.__get__"))) (htk : PySem.W.takesIn K (.builtin "object.__class__") = some true)
      (hm : PySem.W.mroIn K C (.type "object") = some true) : TyOf K H (.ref a) (.ref C)
end
end L2
namespace L2
open PySem PySem.Spec PyProof.Rows
structure Room (k : Nat) (A : Around) : Prop where
  hd : A.handled = none
  dp : A.depth + 3 * k + 5 < recursionLimit
  un : A.units + 16 * k + 200 < cLine
theorem Room.mono {j k : Nat} {A : Around} (r : Room k A) (h : j ≤ k) : Room j A := ⟨r.hd, by have := r.dp; omega, by have := r.un; omega⟩
theorem Room.deeper {k : Nat} {A : Around} (r : Room (k + 1) A) (env : Env) : Room k (A.deeper env) :=
  ⟨r.hd, by have := r.dp; show A.depth + 1 + 3 * k + 5 < _; omega, by have := r.un; show A.units + 3 + 16 * k + 200 < _; omega⟩
theorem Room.in1 {k : Nat} {A : Around} (r : Room (k + 1) A) : Room k A.in1 :=
  ⟨r.hd, by have := r.dp; show A.depth + 3 * k + 5 < _; omega, by have := r.un; show A.units + 1 + 16 * k + 200 < _; omega⟩
theorem Room.depth {k : Nat} {A : Around} (r : Room k A) : A.depth < recursionLimit := by have := r.dp; omega
theorem Room.units {k : Nat} {A : Around} (r : Room k A) : A.units + 64 < cLine := by have := r.un; omega
def tNil : TA := fun _ H Q => Q [] H
def tCons (ta : TE) (tr : TA) : TA := fun σ H Q => ta σ H fun x H1 => tr σ H1 fun xs H2 => Q (x :: xs) H2
section
variable {X : Cx} {e : Expr} {es : List Expr} {te : TE} {t : TA} {pos : Pos}
theorem pa_nil : PA X [] tNil := fun _ _ _ _ H Q I h => Calls.spliced_nil ⟨[], H, I, .nil, h⟩
theorem pa_cons (ha : PE X e te) (hr : PA X es t) (hs : starEach (e :: es) X.env = (false, eval e X.env) :: starEach es X.env := by rfl) : PA X (e :: es) (tCons te t) := by
  intro pos pins s σ H Q I h
  rw [hs]
  show wpAny _ _ (spliced ((false, eval e X.env) :: backTo pos (starEach es X.env))) _ _ s
  refine Calls.spliced_cons (thn (ha pins s σ H _ I h) fun u s1 ⟨x, H1, I1, r1, q1⟩ => ?_)
  exact thn (hr pos pins s1 σ H1 _ I1 q1) fun us s2 ⟨xs, H2, I2, r2, q2⟩ => ⟨x :: xs, H2, I2, .cons r1 r2, q2⟩
def tTup (t : TA) : TE := fun σ H Q => t σ H fun xs H1 => xs.length ≤ sizeLine ∧ ∀ p, H1 p = none → Q (.ref p) (upd H1 p (.tup xs))
def tLst (t : TA) : TE := fun σ H Q => t σ H fun xs H1 => xs.length ≤ sizeLine ∧ ∀ p, H1 p = none → Q (.ref p) (upd H1 p (.lst xs))
theorem pe_tup {x1} (h : PA X es t) : PE X (.Tuple es x1 pos) (tTup t) := by
  intro pins s σ H Q I hq
  refine wpAny_Tuple_spliced (thn (h pos pins s σ H _ I hq) fun us s1 ⟨xs, H1, I1, r, z, q⟩ => ⟨by rw [← r.length]; exact z, ?_⟩)
  have hf : H1 s1.heap.objs.size = none := I1.hok.fresh (Nat.le_refl _)
  refine ⟨.ref s1.heap.objs.size, upd H1 s1.heap.objs.size (.tup xs), I1.laid (t' := s1.toks) (fun b u e => Heap.get?_push_of_some _ e) (Nat.le_refl _) ?_, rfl, q _ hf⟩
  exact ⟨z, us, r, ⟨_, Heap.get?_push_size _ rfl, rfl, _, rfl⟩⟩
theorem pe_lst (h : PA X es t) : PE X (.List es pos) (tLst t) := by
  intro pins s σ H Q I hq
  refine wpAny_List_spliced (thn (h pos pins s σ H _ I hq) fun us s1 ⟨xs, H1, I1, r, z, q⟩ => ⟨by rw [← r.length]; exact z, ?_⟩)
  have hf : H1 s1.heap.objs.size = none := I1.hok.fresh (Nat.le_refl _)
  refine ⟨.ref s1.heap.objs.size, upd H1 s1.heap.objs.size (.lst xs), I1.laid (t' := s1.toks) (fun b u e => Heap.get?_push_of_some _ e) (Nat.le_refl _) ?_, rfl, q _ hf⟩
  exact ⟨z, us, 0, r, Heap.get?_push_size _ rfl⟩
end
abbrev Sp := List V → Hp → VK → XK → Prop
abbrev CXT := List Env → Hp → Shared → XK → Value → Shared → Prop
structure Env0 (P : Program) (w : World) (K : PySem.W.Frag) (mg : Str → Option Value) (base : Heap) (A : Around) (outer : List Env) (s : Shared) (H : Hp) : Prop where
  frames : A.frames = some outer
  mod : Mod K mg base
  bs : ∀ b o, base.get? b = some o → s.heap.get? b = some o ∧ H b = none
  bsz : base.objs.size ≤ s.heap.objs.size
  funs : s.heap.FunFrames base outer
  frf : ∀ b ∈ frs outer, H b = none
  hok : HOk P w H s.heap
  bare : AllBare s.gens
def CE (outer : List Env) (P : Program) (w : World) (H : Hp) (s : Shared) (Q : VK) (u : Value) (s' : Shared) : Prop :=
  ∃ v H', s'.os = s.os ∧ AllBare s'.gens ∧ Un (frs outer) [] H H' s.heap s'.heap ∧ HOk P w H' s'.heap ∧ RelV v u ∧ Q v H'
def CR (CX : CXT) (outer : List Env) (P : Program) (w : World) (H : Hp) (s : Shared) (Q : VK) (E : XK) (r : Result) (s' : Shared) : Prop :=
  match r with
  | .ok (.ret u) => CE outer P w H s Q u s'
  | .ok _ => False
  | .error e => CX outer H s E e s'
structure FnOk (P : Program) (w : World) (K : PySem.W.Frag) (mg : Str → Option Value) (base : Heap) (CX : CXT) (k : Nat) (f : Addr) (fd : FuncData) (ps : List Str) (sp : Sp) : Prop where
  len : ∀ vs H Q E, sp vs H Q E → vs.length = ps.length
  run : ∀ (A : Around) (outer : List Env) (s : Shared) (H : Hp) (args : Args) (us : List Value) (vs : List V) (Q : VK) (E : XK), Room k A → Env0 P w K mg base A outer s H → BindsTo s fd args (ps.zip us) → Vals vs us → sp vs H Q E →
    codeAny (model P w) A (.call (.ref f) args) (CR CX outer P w H s Q E) s
theorem FnOk.mono {P : Program} {w : World} {K : PySem.W.Frag} {mg : Str → Option Value} {base : Heap} {CX : CXT} {j k : Nat} {f : Addr} {fd : FuncData} {ps : List Str} {sp : Sp} (F : FnOk P w K mg base CX j f fd ps sp) (h : j ≤ k) :
    FnOk P w K mg base CX k f fd ps sp := ⟨F.len, fun A outer s H args us vs Q E hr => F.run A outer s H args us vs Q E (hr.mono h)⟩
theorem FnOk.imp {P : Program} {w : World} {K : PySem.W.Frag} {mg : Str → Option Value} {base : Heap} {CX : CXT} {k : Nat} {f : Addr} {fd : FuncData} {ps : List Str} {sp sp' : Sp} (F : FnOk P w K mg base CX k f fd ps sp)
    (h : ∀ vs H Q E, sp' vs H Q E → sp vs H Q E) : FnOk P w K mg base CX k f fd ps sp' :=
  ⟨fun vs H Q E q => F.len vs H Q E (h _ _ _ _ q), fun A outer s H args us vs Q E hr he hb hv hs => F.run A outer s H args us vs Q E hr he hb hv (h _ _ _ _ hs)⟩
theorem Env0.in1 {P : Program} {w : World} {K : PySem.W.Frag} {mg : Str → Option Value} {base : Heap} {A : Around} {outer : List Env} {s : Shared} {H : Hp} (e : Env0 P w K mg base A outer s H) :
    Env0 P w K mg base A.in1 outer s H := ⟨e.frames, e.mod, e.bs, e.bsz, e.funs, e.frf, e.hok, e.bare⟩
section
variable {X : Cx} {pins : List (Addr × Obj)} {σ : St} {H : Hp} {s s' : Shared}
theorem Inv.env0 (I : Inv X pins σ H s) : Env0 X.prog X.w X.K X.mg X.base X.A X.stack s H :=
  ⟨I.ok.frames, I.ok.mod, I.bs, Nat.le_trans I.ok.bsz I.sz, I.stack, I.stkFree, I.hok, I.bare⟩
theorem Inv.after {Q : VK} {u : Value} (I : Inv X pins σ H s) (h : CE X.stack X.prog X.w H s Q u s') : EP X pins σ Q u s' := by
  obtain ⟨v, H', os, bare, un, hok, r, q⟩ := h
  obtain ⟨hh, g, d, t, os'⟩ := s'
  obtain rfl : os' = s.os := os
  exact ⟨v, H', I.call (h' := hh) (g' := g) (d' := d) (t' := t) (ch := []) un hok bare (fun b z => absurd z (by simp)), r, q⟩
end
def tCall (sp : Sp) (dvs : List V) (E : XK) (t : TA) : TE := fun σ H Q => t σ H fun vs H1 => sp (vs ++ dvs) H1 Q E
def Binds (K : PySem.W.Frag) (fd : FuncData) (ps : List Str) (ds : List Value) : Prop :=
  ∀ (s : Shared) (us : List Value), K.In s.heap → (us ++ ds).length = ps.length → BindsTo s fd ⟨us, []⟩ (ps.zip (us ++ ds))
theorem Binds.all {K : PySem.W.Frag} {fd : FuncData} {ps : List Str} (h : ∀ us : List Value, us.length = ps.length → bindArgs fd ⟨us, []⟩ = pure (ps.zip us)) : Binds K fd ps [] := fun s us _ hl => by
  rw [List.append_nil] at hl ⊢
  exact .of_eq (h us hl)
def Passes (CX : CXT) (X : Cx) (E : XK) : Prop := ∀ (pins : List (Addr × Obj)) (σ : St) (H : Hp) (s : Shared) (e : Value) (s' : Shared), Inv X pins σ H s → CX X.stack H s E e s' → X.xe e s'
section
variable {X : Cx} {CX : CXT} {k : Nat} {f C : Addr} {fd : FuncData} {ps : List Str} {sp : Sp} {dvs : List V} {ds : List Value} {E : XK} {x m : Str} {p pos apos : Pos} {e o : Expr} {es : List Expr} {ta : TE} {t : TA}
theorem run_fn {pins : List (Addr × Obj)} {σ : St} {H : Hp} {s : Shared} {Q : VK} {us : List Value} {vs : List V} (F : FnOk X.prog X.w X.K X.mg X.base CX k f fd ps sp) (hr : Room k X.A) (hb : Binds X.K fd ps ds) (hd : Vals dvs ds) (hx : Passes CX X E)
    (I : Inv X pins σ H s) (r : Vals vs us) (h : sp (vs ++ dvs) H Q E) : wpAny (model X.prog X.w) X.A (call (.ref f) us) (EP X pins σ Q) X.xe s := by
  have r2 : Vals (vs ++ dvs) (us ++ ds) := r.append hd
  have hl : (us ++ ds).length = ps.length := by rw [← r2.length]; exact F.len _ _ _ _ h
  refine wpAny_call (codeAny_mono (F.run X.A X.stack s H ⟨us, []⟩ (us ++ ds) (vs ++ dvs) Q E hr I.env0 (hb s us I.kIn hl) r2 h) fun r s' hq => ?_)
  cases r with
  | error e => exact hx pins σ H s e s' I hq
  | ok fl =>
    cases fl with
    | ret u => exact I.after hq
    | next => exact False.elim hq
    | brk => exact False.elim hq
    | cont => exact False.elim hq
theorem pe_call (F : FnOk X.prog X.w X.K X.mg X.base CX k f fd ps sp) (hr : Room k X.A) (hg : Gl X x) (hm : X.mg x = some (.ref f)) (hk : PySem.W.keepIn X.K (.ref f) = true) (hb : Binds X.K fd ps ds) (hd : Vals dvs ds) (hx : Passes CX X E)
    (ha : PA X (e :: es) t) (hdb : (x == ("__debug__" : Str)) = false := by decide) (he : starEach (e :: es) X.env = (false, eval e X.env) :: starEach es X.env := by rfl) (hpl : (backTo pos (starEach es X.env)).any (·.1) = false := by rfl) :
    PE X (.Call (.Name x p) (e :: es) [] pos) (tCall sp dvs E t) := by
  intro pins s σ H Q I h
  refine wpAny_Call_Name_kw (ld_glob I hg hm ?_ hdb)
  refine PySem.W.callWith_K (h₀ := X.base) I.ok.mod.kin hk (thn (ha pos pins s σ H _ I h) fun us s1 ⟨vs, H1, I1, r, q⟩ => ⟨I1.kIn, ?_⟩) he hpl
  exact run_fn F hr hb hd hx I1 r q
structure Mk (K : PySem.W.Frag) (C f : Addr) : Prop where
  makes : PySem.W.makesIn K C = true
  init : PySem.W.findIn K (.ref C) "__init__" = some (some (.ref f))
  fn : PySem.W.isFn K (.ref f) = true
  kp : PySem.W.keepIn K (.ref C) = true
end
section
variable {X : Cx} {CX : CXT} {k : Nat} {f C : Addr} {fd : FuncData} {ps ks : List Str} {sp : Sp} {E : XK} {x m : Str} {p pos apos kpos : Pos} {e o : Expr} {es : List Expr} {kws : List Keyword} {te ta : TE} {t tk : TA} {nm : Option Str}
structure KBinds (K : PySem.W.Frag) (fd : FuncData) (ps ks : List Str) (g : List Value → List Value → List Value) (gV : List V → List V → List V) : Prop where
  to : ∀ (s : Shared) (us ws : List Value), K.In s.heap → (g us ws).length = ps.length → BindsTo s fd ⟨us, ks.zip ws⟩ (ps.zip (g us ws))
  rel : ∀ {vs : List V} {us : List Value} {zs : List V} {ws : List Value}, Vals vs us → Vals zs ws → Vals (gV vs zs) (g us ws)
variable {g : List Value → List Value → List Value} {gV : List V → List V → List V}
end
structure FnScope (N P : List Str) (sc : Scope) : Prop where
  kind : sc.kind = .function
  co : sc.isCoroutine = false
  gen : sc.isGenerator = false
  nd : N.Nodup
  pre : N.take P.length = P
  par : ∀ x ∈ P, sc.names.lookup x = some .local ∨ sc.names.lookup x = some .cell
  nofree : ∀ y ∈ sc.names, y.2 ≠ .free
theorem bindL_out {kindOf : Str → Option NameKind} {x : Str} : ∀ {binds : List (Str × Value)} {m : Str → Option Value}, (∀ v, (x, v) ∉ binds) → bindL kindOf binds m x = m x
  | [], _, _ => rfl
  | (n, v) :: r, m, h => by
    unfold bindL
    rw [bindL_out fun w hw => h w (List.mem_cons_of_mem _ hw)]
    split
    · have : x ≠ n := by rintro rfl; exact h v List.mem_cons_self
      simp [this]
    · rfl
theorem bindC_out {kindOf : Str → Option NameKind} {x : Str} : ∀ {binds : List (Str × Value)} {m : Str → Option Value}, (∀ v, (x, v) ∉ binds) → bindC kindOf binds m x = m x
  | [], _, _ => rfl
  | (n, v) :: r, m, h => by
    unfold bindC
    rw [bindC_out fun w hw => h w (List.mem_cons_of_mem _ hw)]
    split
    · rfl
    · have : x ≠ n := by rintro rfl; exact h v List.mem_cons_self
      simp [this]
theorem bindL_get {kindOf : Str → Option NameKind} {x : Str} {v : Value} : ∀ {P : List Str} {vs : List Value} {i : Nat} {m : Str → Option Value}, P.Nodup → P[i]? = some x → vs[i]? = some v → kindOf x = some .local →
    bindL kindOf (P.zip vs) m x = some v
  | [], _, _, _, _, h, _, _ => by simp at h
  | _ :: _, [], _, _, _, _, h, _ => by simp at h
  | p :: P, w :: vs, 0, m, nd, h1, h2, hk => by
    simp at h1 h2; subst h1; subst h2
    show bindL kindOf ((p, w) :: P.zip vs) m p = _
    unfold bindL
    rw [bindL_out fun v hv => (List.nodup_cons.mp nd).1 (List.of_mem_zip hv).1, if_pos hk]
    simp
  | p :: P, w :: vs, i + 1, m, nd, h1, h2, hk => by
    show bindL kindOf ((p, w) :: P.zip vs) m x = _
    unfold bindL
    exact bindL_get (i := i) (List.nodup_cons.mp nd).2 (by simpa using h1) (by simpa using h2) hk
theorem bindC_get {kindOf : Str → Option NameKind} {x : Str} {v : Value} : ∀ {P : List Str} {vs : List Value} {i : Nat} {m : Str → Option Value}, P.Nodup → P[i]? = some x → vs[i]? = some v → kindOf x ≠ some .local →
    bindC kindOf (P.zip vs) m x = some v
  | [], _, _, _, _, h, _, _ => by simp at h
  | _ :: _, [], _, _, _, _, h, _ => by simp at h
  | p :: P, w :: vs, 0, m, nd, h1, h2, hk => by
    simp at h1 h2; subst h1; subst h2
    show bindC kindOf ((p, w) :: P.zip vs) m p = _
    unfold bindC
    rw [bindC_out fun v hv => (List.nodup_cons.mp nd).1 (List.of_mem_zip hv).1, if_neg hk]
    simp
  | p :: P, w :: vs, i + 1, m, nd, h1, h2, hk => by
    show bindC kindOf ((p, w) :: P.zip vs) m x = _
    unfold bindC
    exact bindC_get (i := i) (List.nodup_cons.mp nd).2 (by simpa using h1) (by simpa using h2) hk
def start (N : List Str) (vs : List V) : St := vs.map some ++ List.replicate (N.length - vs.length) none
def cxOf (CX : CXT) (P : Program) (w : World) (K : PySem.W.Frag) (mg : Str → Option Value) (base : Heap) (N : List Str) (qual : Str) (scope : Scope) (f : Addr) (cd : Value) (A : Around) (outer : List Env) (s : Shared) (H : Hp) (E : XK) : Cx where
  prog := P
  w := w
  K := K
  mg := mg
  base := base
  A := A.deeper (envOfC qual scope s.heap.objs.size f cd)
  N := N
  s₀ := s
  H₀ := H
  env := envOfC qual scope s.heap.objs.size f cd
  outer := outer
  stack := envOfC qual scope s.heap.objs.size f cd :: outer
  ex := []
  calm := true
  fn := fun _ => true
  pn := []
  xe := fun e s' => wpAny (model P w) (A.deeper (envOfC qual scope s.heap.objs.size f cd)) (leaving (envOfC qual scope s.heap.objs.size f cd) e) (fun _ s'' => CX outer H s E e s'') (fun e' s'' => CX outer H s E e' s'') s'
theorem cell_has {sc : Scope} {n : Nat} {x : Str} (h : sc.names.lookup x = some .cell) : ∃ c, (cellsFrom n sc.names []).lookup x = some c := by
  have q := PySem.W.cellsFrom_some sc.names n [] (.inl h)
  exact Option.isSome_iff_exists.mp q
theorem inv_start {CX : CXT} {P : Program} {w : World} {K : PySem.W.Frag} {mg : Str → Option Value} {base : Heap} {N ps : List Str} {qual : Str} {scope : Scope} {f : Addr} {cd : Value} {A : Around} {outer : List Env} {s s1 : Shared} {H : Hp} {E : XK} {us : List Value} {vs : List V}
    (S : FnScope N ps scope) (hd : A.handled = none) (e0 : Env0 P w K mg base A outer s H) (hl : vs.length = ps.length) (r : Vals vs us)
    (x : InCallC s s.heap.objs.size (bindL (envOfC qual scope s.heap.objs.size f cd).kindOf (ps.zip us) fun _ => none) (cellsFrom (s.heap.objs.size + 1) scope.names []) (bindC (envOfC qual scope s.heap.objs.size f cd).kindOf (ps.zip us) fun _ => none) s1) :
    Inv (cxOf CX P w K mg base N qual scope f cd A outer s H E) [] (start N vs) H s1 := by
  have hpl : ps.length ≤ N.length := by have := congrArg List.length S.pre; rw [List.length_take] at this; omega
  obtain ⟨h1, tk, rfl, hk⟩ := x.done
  have noA : ∀ b : Addr, b ∉ (cxOf CX P w K mg base N qual scope f cd A outer s H E).ex := fun b z => absurd (show b ∈ ([] : List Addr) from z) (by simp)
  refine ⟨⟨e0.mod, S.kind, rfl, rfl, Nat.le_refl _, fun y z c h1 h2 => ?_, fun y hy => ?_, fun y c _ h => ?_, fun _ => hd, Around.frames_deeper e0.frames, .inr ⟨rfl, rfl⟩, fun b z => absurd z (noA b), e0.bs, e0.bsz, fun b _ _ => noA b, fun b z => absurd z (noA b), e0.funs, e0.frf⟩,
    rfl, e0.bare, Un.kept hk, ⟨_, x.toInCall.ns, fun i y v h1 h2 h3 => ?_⟩, fun y c h => ⟨_, x.cell y c h⟩, e0.hok.fresh (Nat.le_refl _), fun y c h => ?_, fun p hp => absurd (show p ∈ ([] : List (Addr × Obj)) from hp) (by simp), e0.hok.kept hk, ?_⟩
  · exact name_of_addr x.apart (PySem.mem_of_lookup h1) (PySem.mem_of_lookup h2)
  · have hy : scope.names.lookup y = some .cell ∨ scope.names.lookup y = some .free := hy
    rcases hy with hy | hy
    · exact cell_has hy
    · exact absurd rfl (S.nofree _ (PySem.mem_of_lookup hy))
  · exact Nat.le_of_lt (x.above y c (PySem.mem_of_lookup h))
  · have hi : i < vs.length := by
      unfold start at h2
      by_cases hi : i < vs.length
      · exact hi
      · rw [List.getElem?_append_right (by simpa using hi)] at h2
        rw [List.getElem?_replicate] at h2
        split at h2 <;> cases h2
    have ha : vs[i]? = some v := by
      unfold start at h2
      rw [List.getElem?_append_left (by simpa using hi), List.getElem?_map] at h2
      cases e : vs[i]? with
      | none => rw [e] at h2; cases h2
      | some a => rw [e] at h2; cases h2; rfl
    obtain ⟨u, hu, rv⟩ := r.get ha
    have hp : ps[i]? = some y := by
      rw [← S.pre, List.getElem?_take_of_lt (by omega)]; exact h1
    have ndP : ps.Nodup := by rw [← S.pre]; exact S.nd.sublist (List.take_sublist _ _)
    refine ⟨u, rv, ?_⟩
    rcases S.par y (List.mem_of_getElem? hp) with k | k
    · exact .inl ⟨k, bindL_get ndP hp hu k⟩
    · obtain ⟨c, e⟩ := cell_has (n := s.heap.objs.size + 1) k
      refine .inr ⟨.inl k, c, e, ?_⟩
      have q := x.cell y c e
      rw [bindC_get ndP hp hu (by show scope.names.lookup y ≠ _; rw [k]; decide)] at q
      exact q
  · exact e0.hok.fresh (Nat.le_of_lt (x.above y c (PySem.mem_of_lookup h)))
  · unfold start
    show _ = N.length
    rw [List.length_append, List.length_map, List.length_replicate]
    omega
theorem fn_of {CX : CXT} {P : Program} {w : World} {K : PySem.W.Frag} {mg : Str → Option Value} {base : Heap} {k : Nat} {f : Addr} {name qual : Str} {params : Arguments} {body : List Stmt} {scope : Scope} {dV kV doc pm cdv ct oc : Value} {an od : Option Addr}
    {osl : Array (Option Value)} {N ps : List Str} {sp : Sp} (lk : K.lookup f = some ⟨oc, od, .func (PySem.W.fnOf name qual params body scope dV kV doc pm an cdv ct), osl⟩) (hcd : PySem.W.codeIn K cdv qual = true) (S : FnScope N ps scope)
    (len : ∀ vs H Q E, sp vs H Q E → vs.length = ps.length)
    (hbody : ∀ (A : Around) (outer : List Env) (s : Shared) (H : Hp) (vs : List V) (Q : VK) (E : XK), Room k (A.deeper (envOfC qual scope s.heap.objs.size f cdv)) → sp vs H Q E →
      ∃ t, PSs (cxOf CX P w K mg base N qual scope f cdv A outer s H E) body t ∧ t { nx := fun _ H' => Q .non H', rt := Q } (start N vs) H) :
    FnOk P w K mg base CX (k + 1) f (PySem.W.fnOf name qual params body scope dV kV doc pm an cdv ct) ps sp := by
  refine ⟨len, fun A outer s H args us vs Q E hr e0 hb r hsp => ?_⟩
  have hl := len _ _ _ _ hsp
  have KX : K.In s.heap := e0.mod.kin.keeps fun b o e => (e0.bs b o e).1
  have lim : s.heap.NoLimit := e0.mod.nolimit.keeps fun b o e => (e0.bs b o e).1
  have hkind : ∀ y ∈ ps.zip us, scope.names.lookup y.1 = some .local ∨ (scope.names.lookup y.1 = some .cell ∧ ((cellsFrom (s.heap.objs.size + 1) scope.names []).lookup y.1).isSome = true) := fun ⟨n, v⟩ hy => by
    rcases S.par n (List.of_mem_zip hy).1 with q | q
    · exact .inl q
    · exact .inr ⟨q, PySem.W.cellsFrom_some _ _ _ (.inl q)⟩
  refine codeAny_call_function hr.depth (KX _ _ lk) rfl S.co S.gen rfl (PySem.W.codeRec_of KX hcd) (hb _ _ _ _ ?_)
  refine wpAny_newFunctionEnv_cells S.kind hkind fun env he s1 x => ?_
  subst he
  refine ⟨lim.keeps x.toInCall.keep, codeAny_func ?_⟩
  obtain ⟨t, ht, hq⟩ := hbody A outer s H vs Q E (hr.deeper _) hsp
  have I : Inv (cxOf CX P w K mg base N qual scope f cdv A outer s H E) [] (start N vs) H s1 := inv_start S hr.hd e0 hl r x
  refine wpAny_mono (ht [] s1 (start N vs) H _ I hq) (fun fl s' hs => ?_) fun e s' hs => hs
  have fin : ∀ {σ' : St} {H' : Hp} {v : V} {u : Value}, Inv (cxOf CX P w K mg base N qual scope f cdv A outer s H E) [] σ' H' s' → RelV v u → Q v H' → CE outer P w H s Q u s' :=
    fun {σ' H' v u} J rv q => ⟨v, H', J.os, J.bare, J.base, J.hok, rv, q⟩
  cases fl with
  | ret u =>
    obtain ⟨v, σ', H', J, rv, q⟩ := hs
    exact fin J rv q
  | next =>
    obtain ⟨σ', H', J, q⟩ := hs
    exact fin (v := V.non) (u := Value.none) J rfl q
  | brk =>
    obtain ⟨_, _, _, q⟩ := hs
    exact False.elim q
  | cont =>
    obtain ⟨_, _, _, q⟩ := hs
    exact False.elim q
end L2
namespace L2
open PySem PySem.Spec PyProof.Rows
section
variable {X : Cx} {x : Str} {p pos : Pos} {e : Expr} {es : List Expr} {t : TA} {id T : String} {r : List V → Hp → VK → Prop}
def tCB (r : List V → Hp → VK → Prop) (t : TA) : TE := fun σ H Q => t σ H fun vs H1 => r vs H1 Q
theorem pe_callB (hc : CallR X (.builtin id) r) (hg : Gl X x) (hm : X.mg x = none) (hv : bootBuiltins x = some (.builtin id)) (ha : PA X (e :: es) t) (hn : x ≠ "__name__" := by decide) (hdb : (x == ("__debug__" : Str)) = false := by decide)
    (he : starEach (e :: es) X.env = (false, eval e X.env) :: starEach es X.env := by rfl) (hpl : (backTo pos (starEach es X.env)).any (·.1) = false := by rfl) : PE X (.Call (.Name x p) (e :: es) [] pos) (tCB r t) := by
  intro pins s σ H Q I h
  refine wpAny_Call_Name_kw (ld_blt I hg hm hv ?_ hn hdb)
  exact PyProof.Rows.callWith_builtin1 (thn (ha pos pins s σ H _ I h) fun us s1 ⟨vs, H1, I1, r1, q1⟩ => hc pins s1 σ H1 vs us Q I1 r1 q1) he hpl
theorem pe_callTy (hc : CallR X (.type T) r) (hg : Gl X x) (hm : X.mg x = none) (hv : bootBuiltins x = some (.type T)) (ha : PA X (e :: es) t) (hn : x ≠ "__name__" := by decide) (hdb : (x == ("__debug__" : Str)) = false := by decide)
    (he : starEach (e :: es) X.env = (false, eval e X.env) :: starEach es X.env := by rfl) (hpl : (backTo pos (starEach es X.env)).any (·.1) = false := by rfl) : PE X (.Call (.Name x p) (e :: es) [] pos) (tCB r t) := by
  intro pins s σ H Q I h
  refine wpAny_Call_Name_kw (ld_blt I hg hm hv ?_ hn hdb)
  exact PyProof.Rows.callWith_type1 (thn (ha pos pins s σ H _ I h) fun us s1 ⟨vs, H1, I1, r1, q1⟩ => hc pins s1 σ H1 vs us Q I1 r1 q1) he hpl
end
end L2
namespace HT
open PySem PyProof.Rows
section
open PySem.SeqAt
open PySem.AutoSeq1 (wpAny_loadPart')
open PySem.MeetsSeq PySem.MeetsSeq2 PySem.MeetsSeq3
end
section
variable {prog : Program} {w : World} {A : Around} {E : Value → Shared → Prop} {s : Shared}
def sIx (n d : Nat) : Option Int → Nat
  | none => d
  | some v => if v < 0 then (v + (n : Int)).toNat else min v.toNat n
theorem sIx_le (n d : Nat) (hd : d ≤ n) (o : Option Int) : sIx n d o ≤ n := by
  cases o with
  | none => exact hd
  | some v =>
    show (if v < 0 then (v + (n : Int)).toNat else min v.toNat n) ≤ n
    by_cases hv : v < 0
    · rw [if_pos hv]; omega
    · rw [if_neg hv]; exact Nat.min_le_right _ _
theorem clip_eq (v : Int) (n d : Nat) : (if v < 0 then max (v + (n : Int)) 0 else min v (n : Int)) = ((sIx n d (some v) : Nat) : Int) := by
  show (if v < 0 then max (v + (n : Int)) 0 else min v (n : Int)) = (((if v < 0 then (v + (n : Int)).toNat else min v.toNat n) : Nat) : Int)
  by_cases hv : v < 0
  · simp only [if_pos hv]; omega
  · simp only [if_neg hv]; omega
theorem adjust_gen (lo hi : Option Int) (n : Nat) : Builtin.Slice.sliceAdjust lo hi 1 (n : Int) = (((sIx n 0 lo : Nat) : Int), ((sIx n n hi : Nat) : Int)) := by
  have h1 : ¬ ((1 : Int) < 0) := by omega
  unfold Builtin.Slice.sliceAdjust
  simp only [h1, if_false]
  refine Prod.ext ?_ ?_
  · cases lo with
    | none => rfl
    | some v => exact clip_eq v n 0
  · cases hi with
    | none => rfl
    | some v => exact clip_eq v n n
theorem places_gen (i j : Nat) : Builtin.Slice.slicePlaces (i : Int) (j : Int) 1 = j - i := by
  unfold Builtin.Slice.slicePlaces
  have h1 : (1 : Int) > 0 := by omega
  simp only [h1, if_true, Int.ediv_one]
  split <;> omega
theorem slicePart_ {v : Value} {o : Option Int} {Q : Option Int → Shared → Prop} (p : IsPart v o) (h : Q o s) : wpAny (model prog w) A (Builtin.Slice.slicePartIndex v) Q E s := by
  cases p with
  | none => exact slicePart_none h
  | int i t => exact slicePart_int h
theorem sliceApplied_gen {sl : Addr} {vl vu : Value} {lo hi : Option Int} {n : Nat} {Q : Int × Int × Nat → Shared → Prop} (hs : s.heap.IsSliceOf sl vl vu .none) (pl : IsPart vl lo) (pu : IsPart vu hi)
    (h : Q (((sIx n 0 lo : Nat) : Int), 1, sIx n n hi - sIx n 0 lo) s) : wpAny (model prog w) A (Builtin.Slice.sliceApplied (.ref sl) (pure (n : Int))) Q E s := by
  obtain ⟨os, hos, hcs, hds⟩ := id hs
  unfold Builtin.Slice.sliceApplied Builtin.Slice.sliceFields
  refine wpAny_bind (wpAny_bind (wpAny_field hos hds (x := vl) rfl (wpAny_bind (wpAny_field hos hds (x := vu) rfl (wpAny_bind (wpAny_field hos hds (x := .none) rfl (wpAny_pure ?_)))))))
  refine wpAny_bind (slicePart_none ?_)
  show wpAny _ _ (if ((1 : Int) == 0) = true then _ else _) _ _ s
  rw [if_neg (by decide)]
  refine wpAny_bind (slicePart_ pl (wpAny_bind (slicePart_ pu (wpAny_bind (wpAny_pure ?_)))))
  show wpAny _ _ (match Builtin.Slice.sliceAdjust lo hi 1 (n : Int) with | (lo, hi) => pure (lo, (1 : Int), Builtin.Slice.slicePlaces lo hi 1)) _ _ s
  rw [adjust_gen lo hi n]
  show wpAny _ _ (pure (((sIx n 0 lo : Nat) : Int), (1 : Int), Builtin.Slice.slicePlaces ((sIx n 0 lo : Nat) : Int) ((sIx n n hi : Nat) : Int) 1)) _ _ s
  rw [places_gen]
  exact wpAny_pure h
theorem pick_gen (xs : Array Value) (i k : Nat) : ((List.range k).filterMap fun (m : Nat) => xs[((i : Int) + (m : Int) * 1).toNat]?).toArray = ((xs.toList.drop i).take k).toArray := by
  have e : (fun (m : Nat) => xs[((i : Int) + (m : Int) * 1).toNat]?) = fun m => xs[i + m]? := by
    funext m
    have : ((i : Int) + (m : Int) * 1).toNat = i + m := by omega
    rw [this]
  rw [e]
  have := pick_run xs i k
  rw [List.filterMap_map] at this
  have e2 : ((fun x => xs[x]?) ∘ fun x => i + x) = fun m => xs[i + m]? := rfl
  rw [e2] at this
  rw [this]
theorem getItem_tuple_cut {t sl : Addr} {items : Array Value} {vl vu : Value} {lo hi : Option Int} {Q : Value → Shared → Prop} (ht : IsTup s.heap t items) (hs : s.heap.IsSliceOf sl vl vu .none) (pl : IsPart vl lo) (pu : IsPart vu hi)
    (hw : ¬ (sIx items.size 0 lo = 0 ∧ sIx items.size items.size hi = items.size))
    (h : Q (.ref s.heap.objs.size) { s with heap := s.heap.push { cls := .type "tuple", data := .seq ((items.toList.drop (sIx items.size 0 lo)).take (sIx items.size items.size hi - sIx items.size 0 lo)).toArray } })
    (hsz : items.size ≤ sizeLine) : wpAny (model prog w) A (getItem (.ref t) (.ref sl)) Q E s := by
  have htake : sizeOk (.seq ((items.toList.drop (sIx items.size 0 lo)).take (sIx items.size items.size hi - sIx items.size 0 lo)).toArray) := by
    show ((items.toList.drop (sIx items.size 0 lo)).take (sIx items.size items.size hi - sIx items.size 0 lo)).toArray.size ≤ sizeLine
    rw [List.size_toArray, List.length_take, List.length_drop, Array.length_toList]
    omega
  have hj : sIx items.size items.size hi ≤ items.size := sIx_le _ _ (Nat.le_refl _) hi
  obtain ⟨os, hos, hcs, hds⟩ := id hs
  have hTs : s.TypeIs (.ref sl) "slice" := ⟨os, hos, hcs⟩
  unfold getItem
  try with_reducible refine wpAny_holding ?_
  first | refine wpAny_bind (wpAny_pure ?_) | skip
  refine wpAny_bind (wpAny_sequenceKey ht.typeIs (by decide) ?_)
  refine wpAny_bind (wpAny_callSpecial?_slot (name := Str.ofString "__getitem__") ht.typeIs PyProof.Rows.slot_tuple_getitem
    (wpAny_call_entry PyProof.Rows.slot_tuple_getitem ht.typeIs entry_tuple_getitem ?_ (args_tuple_getitem _ _)))
  show wpAny _ _ (Builtin.Tuple.tupleItemsOf (.ref t) >>= _) _ _ s
  refine wpAny_bind (tupleItemsOf_ ht ?_)
  refine wpAny_bind (wpAny_typeOf hTs ?_)
  rw [if_pos (by decide)]
  refine wpAny_bind (sliceApplied_gen hs pl pu ?_)
  have hno : ¬ ((((sIx items.size 0 lo : Nat) : Int) == 0 && (1 : Int) == 1 && (sIx items.size items.size hi - sIx items.size 0 lo) == items.size) = true) := by
    intro q
    rw [Bool.and_eq_true, Bool.and_eq_true] at q
    have q1 : ((sIx items.size 0 lo : Nat) : Int) = 0 := eq_of_beq q.1.1
    have q2 : sIx items.size items.size hi - sIx items.size 0 lo = items.size := eq_of_beq q.2
    exact hw ⟨by omega, by omega⟩
  show wpAny _ _ (if (((sIx items.size 0 lo : Nat) : Int) == 0 && (1 : Int) == 1 && (sIx items.size items.size hi - sIx items.size 0 lo) == items.size) = true then _ else _) _ _ s
  rw [if_neg hno, pick_gen]
  first
    | exact wpAny_bind (m := Builtin.Tuple.tupleExact _) (wpAny_newObj_type (wpAny_pure ⟨_, rfl, wpAny_pure h⟩) htake)
    | exact wpAny_bind (m := Builtin.Tuple.tupleExact _) (wpAny_newObj_type (wpAny_bind (wpAny_pure (wpAny_pure ⟨_, rfl, wpAny_pure h⟩))) htake)
    | exact wpAny_bind (wpAny_bind (m := Builtin.Tuple.tupleExact _) (wpAny_newObj_type (wpAny_pure (wpAny_pure ⟨_, rfl, wpAny_pure h⟩)) htake))
    | exact wpAny_bind (wpAny_bind (m := Builtin.Tuple.tupleExact _) (wpAny_newObj_type (wpAny_pure ⟨_, rfl, wpAny_pure h⟩) htake))
end
end HT
namespace L2
open PySem PySem.Spec PyProof.Rows
abbrev TO := St → Hp → (Option Int → Hp → Prop) → Prop
def PO (X : Cx) (e : Option Expr) (t : TO) : Prop :=
  ∀ (pins : List (Addr × Obj)) (s : Shared) (σ : St) (H : Hp) (Q : Option Int → Hp → Prop), Inv X pins σ H s → t σ H Q →
    wpAny (model X.prog X.w) X.A (evalPart e X.env) (fun u s' => ∃ o H', Inv X pins σ H' s' ∧ IsPart u o ∧ Q o H') X.xe s
def tNoPart : TO := fun _ H Q => Q none H
def tPart (t : TE) : TO := fun σ H Q => t σ H fun x H1 => ∃ i, x = .int i ∧ Q (some i) H1
theorem intsAre_of {ns : List Int} : ∀ {us : List Value}, Vals (ns.map V.int) us → IntsAre us ns := by
  induction ns with
  | nil => intro us r; rw [List.map_nil] at r; cases r; exact .nil
  | cons n ns ih =>
    intro us r
    rw [List.map_cons] at r
    cases r with
    | cons r1 r2 =>
      obtain ⟨t, e⟩ := r1
      subst e
      exact .cons n t (ih r2)
section
variable {X : Cx} {e : Expr} {te : TE} {lo hi : Option Expr} {tl th : TO} {pos p2 : Pos}
theorem po_none : PO X none tNoPart := by
  intro pins s σ H Q I h
  rw [evalPart_none]
  exact wpAny_pure ⟨none, H, I, .none, h⟩
theorem po_some (h : PE X e te) : PO X (some e) (tPart te) := by
  intro pins s σ H Q I hw
  rw [evalPart_some]
  refine thn (h pins s σ H _ I hw) fun u s1 ⟨x, H1, I1, r1, q1⟩ => ?_
  obtain ⟨i, rfl, q⟩ := q1
  obtain ⟨t, rfl⟩ := r1
  exact ⟨some i, H1, I1, .int i t, q⟩
def SlR (X : Cx) (r : V → Option Int → Option Int → Hp → VK → Prop) : Prop :=
  ∀ (pins : List (Addr × Obj)) (s : Shared) (σ : St) (H : Hp) (x : V) (v vl vu : Value) (lo hi : Option Int) (sl : Addr) (Q : VK), Inv X pins σ H s → RelV x v → s.heap.IsSliceOf sl vl vu .none → IsPart vl lo → IsPart vu hi → r x lo hi H Q →
    ∃ T id, typeLookup (.type T) "__getitem__" = pure (some (.builtin id)) ∧ s.TypeIs v T ∧ wpAny (model X.prog X.w) X.A (getItem v (.ref sl)) (EP X pins σ Q) X.xe s
theorem SlR.or {r r' : V → Option Int → Option Int → Hp → VK → Prop} (h : SlR X r) (h' : SlR X r') : SlR X (fun x lo hi H Q => r x lo hi H Q ∨ r' x lo hi H Q) := by
  intro pins s σ H x v vl vu lo hi sl Q I rx hs pl pu q
  rcases q with q | q
  · exact h pins s σ H x v vl vu lo hi sl Q I rx hs pl pu q
  · exact h' pins s σ H x v vl vu lo hi sl Q I rx hs pl pu q
def tSl (r : V → Option Int → Option Int → Hp → VK → Prop) (te : TE) (tl th : TO) : TE := fun σ H Q => te σ H fun x H1 => tl σ H1 fun l H2 => th σ H2 fun u H3 => r x l u H3 Q
theorem pe_slice {r : V → Option Int → Option Int → Hp → VK → Prop} (hr : SlR X r) (he : PE X e te) (hl : PO X lo tl) (hu : PO X hi th) : PE X (.Subscript e (.Slice lo hi none p2) pos) (tSl r te tl th) := by
  intro pins s σ H Q I h
  refine Subscript_ (thn (he pins s σ H _ I h) fun v s1 ⟨x, H1, I1, r1, q1⟩ => ?_)
  refine wpAny_Slice (thn (hl pins s1 σ H1 _ I1 q1) fun vl s2 ⟨l, H2, I2, pl, q2⟩ => thn (hu pins s2 σ H2 _ I2 q2) fun vu s3 ⟨u, H3, I3, pu, q3⟩ => ?_)
  rw [evalPart_none]
  refine wpAny_pure ?_
  have I4 : Inv X pins σ H3 { s3 with heap := s3.heap.push { cls := .type "slice", data := .fields #[vl, vu, .none] } } := I3.kept (t' := s3.toks) fun b ob q => Heap.get?_push_of_some _ q
  obtain ⟨T, id, hT, ht, hg⟩ := hr pins { s3 with heap := s3.heap.push { cls := .type "slice", data := .fields #[vl, vu, .none] } } σ H3 x v vl vu l u s3.heap.objs.size Q I4 r1 (Heap.IsSliceOf.new ..) pl pu q3
  show wpAny (model X.prog X.w) X.A (subscriptTail e (.Slice lo hi none p2) v (.ref s3.heap.objs.size)) (EP X pins σ Q) X.xe { s3 with heap := s3.heap.push { cls := .type "slice", data := .fields #[vl, vu, .none] } }
  exact tail_any (ops := [.ref s3.heap.objs.size, v]) ht hT hg (by with_unfolding_all rfl)
def cutV (xs : List V) (lo hi : Option Int) : List V := (xs.drop (HT.sIx xs.length 0 lo)).take (HT.sIx xs.length xs.length hi - HT.sIx xs.length 0 lo)
theorem cutV_length (xs : List V) (lo hi : Option Int) : (cutV xs lo hi).length ≤ xs.length := by
  unfold cutV
  rw [List.length_take, List.length_drop]
  omega
def rSlT (K : PySem.W.Frag) : V → Option Int → Option Int → Hp → VK → Prop := fun x lo hi H Q => ∃ a xs, x = .ref a ∧ SqT K H a xs ∧
  ¬ (HT.sIx xs.length 0 lo = 0 ∧ HT.sIx xs.length xs.length hi = xs.length) ∧ ∀ p, H p = none → Q (.ref p) (upd H p (.tup (cutV xs lo hi)))
theorem sl_tup : SlR X (rSlT X.K) := by
  intro pins s σ H x v vl vu lo hi sl Q I rx hs pl pu h
  obtain ⟨a, xs, rfl, hx, hw, q⟩ := h
  cases rx
  obtain ⟨its, r, ht, hz⟩ := I.tuple hx
  have hlen : its.toArray.size = xs.length := by rw [List.size_toArray]; exact r.length.symm
  refine ⟨"tuple", _, PyProof.Rows.slot_tuple_getitem.lookup, ht.typeIs, ?_⟩
  refine HT.getItem_tuple_cut ht hs pl pu (by rw [hlen]; exact hw) ?_ (by rw [hlen]; exact hz)
  rw [hlen]
  refine ⟨.ref s.heap.objs.size, _, I.laid (t' := s.toks) (o := .tup (cutV xs lo hi)) (fun b ob q => Heap.get?_push_of_some _ q) (Nat.le_refl _) ?_, rfl, q _ (I.hok.fresh (Nat.le_refl _))⟩
  exact ⟨Nat.le_trans (cutV_length xs lo hi) hz, _, (r.drop (HT.sIx xs.length 0 lo)).take (HT.sIx xs.length xs.length hi - HT.sIx xs.length 0 lo), IsTup.new _ _⟩
end
end L2
namespace L2
open PySem PySem.Spec PyProof.Rows
def ixN (n : Nat) (i : Int) : Option Nat := if 0 ≤ i then (if i < n then some i.toNat else none) else if -(n : Int) ≤ i then some (i + n).toNat else none
def atI {α : Type} (xs : List α) (i : Int) : Option α := (ixN xs.length i).bind fun j => xs[j]?
theorem ixN_seq {n : Nat} {i : Int} {j : Nat} (h : ixN n i = some j) : seqIndex? i n = some j ∧ j < n ∧ -(n : Int) ≤ i ∧ i < n := by
  unfold ixN at h
  by_cases h0 : 0 ≤ i
  · rw [if_pos h0] at h
    by_cases h1 : i < n
    · rw [if_pos h1] at h
      have e : i.toNat = j := Option.some.inj h
      exact ⟨by rw [seqIndex_of h0 h1, e], by omega, by omega, h1⟩
    · rw [if_neg h1] at h; cases h
  · rw [if_neg h0] at h
    by_cases h1 : -(n : Int) ≤ i
    · rw [if_pos h1] at h
      have e : (i + n).toNat = j := Option.some.inj h
      exact ⟨by rw [seqIndex_neg (by omega) h1, e], by omega, h1, by omega⟩
    · rw [if_neg h1] at h; cases h
theorem atI_get {α : Type} {xs : List α} {i : Int} {v : α} (h : atI xs i = some v) : ∃ j, seqIndex? i xs.length = some j ∧ xs[j]? = some v ∧ j < xs.length ∧ -(xs.length : Int) ≤ i ∧ i < xs.length := by
  unfold atI at h
  cases e : ixN xs.length i with
  | none => rw [e] at h; cases h
  | some j =>
    rw [e] at h
    obtain ⟨h1, h2, h3, h4⟩ := ixN_seq e
    exact ⟨j, h1, h, h2, h3, h4⟩
theorem atI_nat {α : Type} {xs : List α} {j : Nat} {v : α} (h : xs[j]? = some v) : atI xs (j : Int) = some v := by
  have hj : j < xs.length := (List.getElem?_eq_some_iff.mp h).1
  have e : ixN xs.length (j : Int) = some j := by
    unfold ixN
    rw [if_pos (by omega), if_pos (by omega)]; simp
  unfold atI; rw [e]; exact h
def PlainIx (b : Expr) : Prop := ∀ o i, subscripted b false o i = operate [o, i] (getItem o i)
def IxR (X : Cx) (r : R2) : Prop :=
  ∀ (value slice : Expr) (pins : List (Addr × Obj)) (s : Shared) (σ : St) (H : Hp) (x y : V) (v u : Value) (Q : VK), Inv X pins σ H s → RelV x v → RelV y u → r x y H Q →
    subscripted slice false v u = operate [v, u] (getItem v u) → wpAny (model X.prog X.w) X.A (subscriptTail value slice v u) (EP X pins σ Q) X.xe s
def MtR (X : Cx) (id : String) (r : V → List V → Hp → VK → Prop) : Prop :=
  ∀ (pins : List (Addr × Obj)) (s : Shared) (σ : St) (H : Hp) (x : V) (xs : List V) (v : Value) (us : List Value) (Q : VK), Inv X pins σ H s → RelV x v → Vals xs us → r x xs H Q →
    wpAny (model X.prog X.w) X.A (call (.builtin id) (v :: us)) (EP X pins σ Q) X.xe s
section
variable {X : Cx} {a b : Expr} {ta tb : TE} {pos : Pos}
theorem IxR.or {r r' : R2} (h : IxR X r) (h' : IxR X r') : IxR X (fun x y H Q => r x y H Q ∨ r' x y H Q) := by
  intro value slice pins s σ H x y v u Q I rx ry q hs
  rcases q with q | q
  · exact h value slice pins s σ H x y v u Q I rx ry q hs
  · exact h' value slice pins s σ H x y v u Q I rx ry q hs
theorem MtR.or {id : String} {r r' : V → List V → Hp → VK → Prop} (h : MtR X id r) (h' : MtR X id r') : MtR X id (fun x xs H Q => r x xs H Q ∨ r' x xs H Q) := by
  intro pins s σ H x xs v us Q I rx rs q
  rcases q with q | q
  · exact h pins s σ H x xs v us Q I rx rs q
  · exact h' pins s σ H x xs v us Q I rx rs q
theorem pe_ix {r : R2} (hr : IxR X r) (ha : PE X a ta) (hb : PE X b tb) (hs : PlainIx b) : PE X (.Subscript a b pos) (tOp r ta tb) := by
  intro pins s σ H Q I h
  exact Subscript_ (binT ha hb I h fun v u s2 x y H2 I2 rx ry q => hr a b pins s2 σ H2 x y v u Q I2 rx ry q (hs _ _))
def rIxL (K : PySem.W.Frag) : R2 := fun x y H Q => ∃ p xs i v, x = .ref p ∧ y = .int i ∧ SqL K H p xs ∧ atI xs i = some v ∧ Q v H
def rIxT (K : PySem.W.Frag) : R2 := fun x y H Q => ∃ p xs i v, x = .ref p ∧ y = .int i ∧ SqT K H p xs ∧ atI xs i = some v ∧ Q v H
theorem ix_list : IxR X (rIxL X.K) := by
  intro value slice pins s σ H x y v u Q I rx ry h hs
  obtain ⟨p, xs, i, z, rfl, rfl, hq, he, q⟩ := h
  cases rx
  obtain ⟨t, rfl⟩ := ry
  obtain ⟨its, r, pl, hz⟩ := I.list hq
  obtain ⟨j, h1, h2, h3, h4, h5⟩ := atI_get he
  obtain ⟨w, ew, rw'⟩ := r.get h2
  have hl := r.length
  have hn := line63
  have fin : EP X pins σ Q w s := ⟨z, H, I, rw', q⟩
  by_cases h0 : 0 ≤ i
  · have hj : i.toNat = j := by
      rw [seqIndex_of h0 h5] at h1
      exact Option.some.inj h1
    exact item_listR pl.isList h0 (by omega) (by rw [hj]; simpa using ew) fin hs
  · have hj : (i + (its.toArray.size : Int)).toNat = j := by
      rw [seqIndex_neg (by omega) h4] at h1
      rw [List.size_toArray, ← hl]
      exact Option.some.inj h1
    exact subscriptTail_builtinR (x := w) pl.isList.typeIs slot_list_getitem.lookup
      (wpAny_getItem_list_neg (Q := fun r s' => r = w ∧ EP X pins σ Q r s') pl.isList (by omega) (by rw [List.size_toArray] <;> omega) (by omega) (by rw [hj]; simpa using ew) ⟨rfl, fin⟩) hs
theorem ix_tup : IxR X (rIxT X.K) := by
  intro value slice pins s σ H x y v u Q I rx ry h hs
  obtain ⟨p, xs, i, z, rfl, rfl, hq, he, q⟩ := h
  cases rx
  obtain ⟨t, rfl⟩ := ry
  obtain ⟨its, r, pl, hz⟩ := I.tuple hq
  obtain ⟨j, h1, h2, h3, h4, h5⟩ := atI_get he
  obtain ⟨w, ew, rw'⟩ := r.get h2
  have hl := r.length
  have hn := line63
  have fin : EP X pins σ Q w s := ⟨z, H, I, rw', q⟩
  exact subscriptTail_builtinR (x := w) pl.typeIs slot_tuple_getitem.lookup
    (getItem_tuple (j := j) (Q := fun r s' => r = w ∧ EP X pins σ Q r s') pl (by omega) (by omega) (by rw [List.size_toArray, ← hl]; exact h1) (by simpa using ew) ⟨rfl, fin⟩) hs
theorem mapSeq_set (its : List Value) (n j : Nat) (u : Value) : Obj.mapSeq (·.setIfInBounds j u) { cls := .type "list", data := .seq its.toArray n } = { cls := .type "list", data := .seq (its.set j u).toArray n } := by
  simp [Obj.mapSeq]
theorem Inv.lst {pins : List (Addr × Obj)} {σ : St} {H : Hp} {s : Shared} {p : Addr} {xs : List V} (I : Inv X pins σ H s) (h : H p = some (.lst xs)) :
    ∃ (its : List Value) (n : Nat), Vals xs its ∧ s.heap.get? p = some { cls := .type "list", data := .seq its.toArray n } ∧ xs.length ≤ sizeLine := by
  obtain ⟨z, its, n, r, e⟩ := I.hok p _ h
  exact ⟨its, n, r, e, z⟩
theorem Inv.lstUpd {pins : List (Addr × Obj)} {σ : St} {H : Hp} {s : Shared} {p : Addr} {xs ys : List V} {its its' : List Value} {n n' : Nat} {f : Obj → Obj} (I : Inv X pins σ H s) (h : H p = some (.lst xs))
    (ho : s.heap.get? p = some { cls := .type "list", data := .seq its.toArray n }) (hf : f { cls := .type "list", data := .seq its.toArray n } = { cls := .type "list", data := .seq its'.toArray n' }) (r : Vals ys its') (hz : ys.length ≤ sizeLine) (t : Nat) :
    Inv X pins σ (upd H p (.lst ys)) { s with heap := s.heap.update p f, toks := t } := by
  have e : (s.heap.update p f).get? p = some { cls := .type "list", data := .seq its'.toArray n' } := by
    rw [Heap.get?_update_self f ho (by rw [hf] <;> rfl), hf]
  refine I.write (x := p) (e := p) (by rw [h]; trivial) (.inl rfl) (fun b u hb q => (Heap.get?_update_other _ _ (Ne.symm hb)).trans q) ⟨_, e⟩ ?_
  exact ⟨hz, its', n', r, e⟩
def rSetL : V → V → V → Hp → (Hp → Prop) → Prop := fun o i v H Q => ∃ p xs k j, o = .ref p ∧ i = .int k ∧ H p = some (.lst xs) ∧ ixN xs.length k = some j ∧ Q (upd H p (.lst (xs.set j v)))
theorem set_list : PSet X rSetL := by
  intro pins s σ H o i v ov iv u Q I ro ri rv h
  obtain ⟨p, xs, k, j, rfl, rfl, hp, hj, q⟩ := h
  cases ro
  obtain ⟨t, rfl⟩ := ri
  obtain ⟨its, n, r, ho, hz⟩ := I.lst hp
  obtain ⟨h1, h2, h3, h4⟩ := ixN_seq hj
  have hl := r.length
  have hn := line63
  have I' : Inv X pins σ (upd H p (.lst (xs.set j v))) { s with heap := s.heap.update p (Obj.mapSeq (·.setIfInBounds j u)) } :=
    I.lstUpd hp ho (mapSeq_set its n j u) (r.set rv j) (by rw [List.length_set]; exact hz) s.toks
  by_cases h0 : 0 ≤ k
  · have hk : k.toNat = j := by
      rw [seqIndex_of h0 h4] at h1
      exact Option.some.inj h1
    exact PySem.W.ki_setAt ho h0 (by omega) (by rw [List.size_toArray, ← hl]; exact h4) (by rw [hk]; exact ⟨_, I', q⟩)
  · have hk : (k + (its.toArray.size : Int)).toNat = j := by
      rw [seqIndex_neg (by omega) h3] at h1
      rw [List.size_toArray, ← hl]
      exact Option.some.inj h1
    exact PySem.W.ki_setBack ho (by omega) (by rw [List.size_toArray, ← hl]; exact h3) (by omega) (by rw [hk]; exact ⟨_, I', q⟩)
theorem slice_bounds (lo hi : Option Int) (n : Nat) : (sliceBounds lo hi none n).1 = ((HT.sIx n 0 lo : Nat) : Int) ∧ (sliceBounds lo hi none n).2.1 = ((HT.sIx n n hi : Nat) : Int) ∧ (sliceBounds lo hi none n).2.2 = 1 := by
  refine ⟨?_, ?_, rfl⟩
  · cases lo with
    | none => simp [sliceBounds, HT.sIx]
    | some i =>
      simp only [sliceBounds, HT.sIx, Option.getD_none, show (1 : Int) > 0 by decide, if_true]
      by_cases h : i < 0
      · simp only [h, if_true] <;> omega
      · simp only [h, if_false] <;> omega
  · cases hi with
    | none => simp [sliceBounds, HT.sIx]
    | some i =>
      simp only [sliceBounds, HT.sIx, Option.getD_none, show (1 : Int) > 0 by decide, if_true]
      by_cases h : i < 0
      · simp only [h, if_true] <;> omega
      · simp only [h, if_false] <;> omega
theorem slicePick_cut (its : List Value) (lo hi : Option Int) : slicePick its.toArray lo hi none = ((its.drop (HT.sIx its.length 0 lo)).take (HT.sIx its.length its.length hi - HT.sIx its.length 0 lo)).toArray := by
  obtain ⟨h1, h2, h3⟩ := slice_bounds lo hi its.toArray.size
  unfold slicePick
  rw [h1, h2, h3]
  simp only [sliceRange_one, pick_run, List.size_toArray] <;> rfl
def rSlL (K : PySem.W.Frag) : V → Option Int → Option Int → Hp → VK → Prop := fun x lo hi H Q => ∃ a xs, x = .ref a ∧ SqL K H a xs ∧ ∀ p, H p = none → Q (.ref p) (upd H p (.lst (cutV xs lo hi)))
theorem sl_list : SlR X (rSlL X.K) := by
  intro pins s σ H x v vl vu lo hi sl Q I rx hs pl pu h
  obtain ⟨a, xs, rfl, hx, q⟩ := h
  cases rx
  obtain ⟨its, r, ht, hz⟩ := I.list hx
  have hlen := r.length
  refine ⟨"list", _, slot_list_getitem.lookup, ht.isList.typeIs, ?_⟩
  refine wpAny_getItem_list_slice ht.isList hs pl pu .none (by simp) ?_ (by rw [List.size_toArray] <;> omega)
  rw [slicePick_cut, ← hlen]
  refine ⟨.ref s.heap.objs.size, _, I.laid (t' := s.toks) (o := .lst (cutV xs lo hi)) (fun b ob q => Heap.get?_push_of_some _ q) (Nat.le_refl _) ?_, rfl, q _ (I.hok.fresh (Nat.le_refl _))⟩
  exact ⟨Nat.le_trans (cutV_length xs lo hi) hz, _, 0, (r.drop (HT.sIx xs.length 0 lo)).take (HT.sIx xs.length xs.length hi - HT.sIx xs.length 0 lo), Heap.get?_push_size _ rfl⟩
theorem call_len_seq : CallR X (.builtin "len") (fun xs H Q => ∃ p ys, xs = [.ref p] ∧ (SqL X.K H p ys ∨ SqT X.K H p ys) ∧ Q (.int ys.length) H) := by
  intro pins s σ H xs us Q I r h
  obtain ⟨p, ys, rfl, hq, q⟩ := h
  obtain ⟨u, rfl, rx⟩ := vals1 r
  cases rx
  have hn := line63
  rcases hq with hq | hq
  · obtain ⟨its, r', pl, hz⟩ := I.list hq
    have hlen := r'.length
    exact Calls.call_len_list pl.isList (by simp only [List.size_toArray] <;> omega) ⟨.int ys.length, H, I.tok _, ⟨s.toks + 1, by rw [List.size_toArray, hlen]⟩, q⟩
  · obtain ⟨its, r', pl, hz⟩ := I.tuple hq
    have hlen := r'.length
    exact len_tuple pl (by simp only [List.size_toArray] <;> omega) ⟨.int ys.length, H, I.tok _, ⟨s.toks + 1, by rw [List.size_toArray, hlen]⟩, q⟩
theorem CallR.or {f : Value} {r r' : List V → Hp → VK → Prop} (h : CallR X f r) (h' : CallR X f r') : CallR X f (fun xs H Q => r xs H Q ∨ r' xs H Q) := by
  intro pins s σ H xs us Q I rs q
  rcases q with q | q
  · exact h pins s σ H xs us Q I rs q
  · exact h' pins s σ H xs us Q I rs q
def tyV (K : PySem.W.Frag) (T : String) (x : V) (H : Hp) : Prop := match x with
  | .str _ => T = "str"
  | .int _ => T = "int"
  | .ref p => (T = "list" ∧ ∃ xs, SqL K H p xs) ∨ (T = "tuple" ∧ ∃ o, K.lookup p = some o ∧ o.cls = .type "tuple" ∧ o.dict = none) ∨
      (T = "dict" ∧ ((∃ kvs, H p = some (.dK kvs)) ∨ ∃ kvs, H p = some (.dT kvs))) ∨ (T = "set" ∧ ∃ S n, H p = some (.set S n))
  | _ => False
theorem tyV_is {pins : List (Addr × Obj)} {σ : St} {H : Hp} {s : Shared} {T : String} {x : V} {v : Value} (I : Inv X pins σ H s) (r : RelV x v) (ty : tyV X.K T x H) :
    s.TypeIs v T ∧ ∀ a, v = .ref a → ∃ ob, s.heap.get? a = some ob ∧ ob.dict = none := by
  cases x with
  | str z =>
    obtain ⟨t, rfl⟩ := r
    cases (show T = "str" from ty)
    exact ⟨typeIs_str s z t, fun _ e => nomatch e⟩
  | int i =>
    obtain ⟨t, rfl⟩ := r
    cases (show T = "int" from ty)
    exact ⟨typeIs_int s i t, fun _ e => nomatch e⟩
  | ref p =>
    cases r
    rcases ty with ⟨rfl, xs, hq⟩ | ⟨rfl, o, hk, hc, hd⟩ | ⟨rfl, hk⟩ | ⟨rfl, S, n, hk⟩
    · obtain ⟨its, _, pl, _⟩ := I.list hq
      refine ⟨pl.isList.typeIs, fun a e => ?_⟩
      cases e
      obtain ⟨o, n, e, c, hd, _⟩ := pl
      exact ⟨o, e, hd⟩
    · refine ⟨⟨o, I.kIn p o hk, hc⟩, fun a e => ?_⟩
      cases e
      exact ⟨o, I.kIn _ o hk, hd⟩
    · have z : ∃ o, s.heap.get? p = some o ∧ o.ExactDict := by
        rcases hk with ⟨kvs, hk⟩ | ⟨kvs, hk⟩
        · obtain ⟨_, _, _, _, o, _, _, e, ex, _⟩ := I.hok p _ hk
          exact ⟨o, e, ex⟩
        · obtain ⟨_, _, _, _, o, _, _, e, ex, _⟩ := I.hok p _ hk
          exact ⟨o, e, ex⟩
      obtain ⟨o, e, ex⟩ := z
      refine ⟨⟨o, e, ex.1⟩, fun a e2 => ?_⟩
      cases e2
      exact ⟨o, e, ex.2.1⟩
    · obtain ⟨o, _, _, _, e, ex, _⟩ := I.hok p _ hk
      refine ⟨⟨o, e, ex.1⟩, fun a e2 => ?_⟩
      cases e2
      exact ⟨o, e, ex.2.1⟩
  | _ => exact False.elim ty
def tBM (K : PySem.W.Frag) (T : String) (r : V → List V → Hp → VK → Prop) (to : TE) (t : TA) : TE := fun σ H Q => to σ H fun x H1 => tyV K T x H1 ∧ t σ H1 fun xs H2 => r x xs H2 Q
variable {o e : Expr} {es : List Expr} {to : TE} {t : TA} {name : Str} {apos cpos : Pos} {T id : String} {r : V → List V → Hp → VK → Prop}
theorem pe_bm (pa : PlainAttrs T) (slot : Slot T name id) (hty : typeOf (.builtin id) = pure (.type "method_descriptor")) (hm : MtR X id r) (ho : PE X o to) (ha : PA X (e :: es) t)
    (hbase : attributeBase o name X.env (eval o X.env) = eval o X.env := by rfl)
    (hfew : ((backTo cpos (starEach (e :: es) X.env)).all (fun x => !x.1) && (backToKw cpos (keywordEach [] X.env)).all (fun x => x.1.isSome)
      && decide ((e :: es).length + ([] : List Keyword).length + (if ([] : List Keyword).isEmpty then 0 else 1) < 30)) = true := by rfl)
    (hline : (apos.endLine == cpos.line) = true := by rfl) (hs : starEach (e :: es) X.env = (false, eval e X.env) :: starEach es X.env := by rfl) (hplain : (backTo cpos (starEach es X.env)).any (·.1) = false := by rfl) :
    PE X (.Call (.Attribute o name apos) (e :: es) [] cpos) (tBM X.K T r to t) := by
  intro pins s σ H Q I h
  refine wpAny_Call_method_late hbase hfew hline rfl (thn (ho pins s σ H _ I h) fun v s1 ⟨x, H1, I1, r1, ty, q1⟩ => ?_)
  obtain ⟨h1, h2⟩ := tyV_is I1 r1 ty
  refine ⟨T, id, pa, slot, hty, h1, h2, ?_⟩
  have hA := ha cpos pins s1 σ H1 _ I1 q1
  rw [hs] at hA ⊢
  refine Calls.callWith_builtin (by show (false || (backTo cpos (starEach es X.env)).any (·.1)) = false; rw [hplain] <;> rfl) (Calls.evalArgs_plain ?_)
  exact thn hA fun us s2 ⟨vs, H2, I2, r2, q2⟩ => hm pins s2 σ H2 x vs v us Q I2 r1 r2 q2
end
end L2
namespace L2
open PySem PySem.Spec PyProof.Rows
def MtM (X : Cx) (id : String) (r : V → List V → Hp → VK → Prop) : Prop :=
  ∀ (pins : List (Addr × Obj)) (s : Shared) (σ : St) (H : Hp) (x : V) (xs : List V) (v : Value) (us : List Value) (Q : VK), Inv X pins σ H s → RelV x v → Vals xs us → r x xs H Q →
    wpAny (model X.prog X.w) X.A (call (.builtin id) (v :: us)) (EP X pins σ Q) X.xe s
theorem Vals.one : ∀ {x : V} {us : List Value}, Vals [x] us → ∃ u, us = [u] ∧ RelV x u
  | _, _, .cons r .nil => ⟨_, rfl, r⟩
theorem Vals.two : ∀ {x y : V} {us : List Value}, Vals [x, y] us → ∃ u v, us = [u, v] ∧ RelV x u ∧ RelV y v
  | _, _, _, .cons r (.cons q .nil) => ⟨_, _, rfl, r, q⟩
theorem Vals.zero : ∀ {us : List Value}, Vals [] us → us = []
  | _, .nil => rfl
theorem Vals.eraseIdx : ∀ {xs : List V} {us : List Value} (i : Nat), Vals xs us → Vals (xs.eraseIdx i) (us.eraseIdx i)
  | _, _, _, .nil => .nil
  | _, _, 0, .cons _ t => t
  | _, _, i + 1, .cons r t => .cons r (Vals.eraseIdx i t)
theorem Vals.reverse {xs : List V} {us : List Value} (h : Vals xs us) : Vals xs.reverse us.reverse := by
  induction h with
  | nil => exact .nil
  | cons r t ih => rw [List.reverse_cons, List.reverse_cons]; exact Vals.append ih (.cons r .nil)
theorem Vals.rep {xs : List V} {us : List Value} (h : Vals xs us) : ∀ k : Nat, Vals (List.replicate k xs).flatten (List.replicate k us).flatten
  | 0 => .nil
  | k + 1 => by
    rw [List.replicate_succ, List.replicate_succ, List.flatten_cons, List.flatten_cons]
    exact Vals.append h (Vals.rep h k)
section
variable {X : Cx} {pins : List (Addr × Obj)} {σ : St} {H : Hp} {s : Shared} {l b : Addr} {xs ys zs : List V}
theorem Inv.lnew {its : List Value} {t' : Nat} (I : Inv X pins σ H s) (hv : Vals ys its) (hz : ys.length ≤ sizeLine) :
    Inv X pins σ (upd H s.heap.objs.size (.lst ys)) { s with heap := s.heap.push { cls := .type "list", data := .seq its.toArray }, toks := t' } :=
  I.laid (fun _ _ q => Heap.get?_push_of_some _ q) (Nat.le_refl _) ⟨hz, its, 0, hv, Heap.get?_push_size _ rfl⟩
theorem Inv.fresh (I : Inv X pins σ H s) : H s.heap.objs.size = none := I.hok.fresh (Nat.le_refl _)
end
section
variable {X : Cx}
end
section
variable {prog : Program} {w : World} {A : Around} {E : Value → Shared → Prop} {s : Shared}
set_option maxRecDepth 100000 in
end
section
variable {X : Cx}
end
end L2
namespace Att
open PySem PySem.W PySem.Calls PyProof.Rows
theorem ints_of_wellAll {P : Params} {h : Heap} : ∀ (ns : List Int) (vs : List Value), WellAll P h vs (ns.map WData.int) → IntsAre vs ns := by
  intro ns
  induction ns with
  | nil =>
    intro vs w
    rw [List.map_nil] at w
    cases w
    exact .nil
  | cons n ns ih =>
    intro vs w
    rw [List.map_cons] at w
    cases w with
    | cons a b =>
      cases a
      exact .cons _ _ (ih _ b)
theorem script_of {l : OpenLaw} {n : Nat} (hn : l.most = some n) {P : Params} {h : Heap} {args : List WData} {vals : List Value}
    (hpre : l.row.toRowW.claim.pre args = true) (hwl : WellAll P h vals args) :
    ∃ a vs ns, vals = [Value.ref a] ∧ args = [WData.list (ns.map WData.int)] ∧ h.get? a = some { cls := .type "list", data := .seq vs.toArray } ∧ IntsAre vs ns ∧ ns.length ≤ n := by
  have hsh : WShape.hasAll [] args [.list .int] = true := (pre_splitW hpre).1
  have hc : l.pre.holds [] { args := args } = true := (pre_splitW hpre).2
  obtain ⟨d, r, rfl, h1, h2⟩ := hasAllW_cons hsh
  obtain rfl := hasAllW_nil h2
  obtain ⟨xs, rfl, h3⟩ := hasW_list h1
  obtain ⟨ns, rfl⟩ := items_int h3
  have hlen : ns.length ≤ n := by
    unfold OpenLaw.pre at hc
    have h4 : (WTm.not (.lt (.lit (.int (n : Int))) (.len (.arg 0)))).holds [] { args := [.list (ns.map .int)] } = true := by
      have h4 := (holds_andW hc).1
      rw [hn] at h4
      exact h4
    have h5 := condW_of h4 (w_not (w_lt w_lit (w_len_list (w_arg rfl))))
    rw [List.length_map] at h5
    refine Nat.le_of_not_lt fun q => ?_
    have q' : (n : Int) < ((ns.length : Nat) : Int) := by omega
    first
      | (rw [decide_eq_true q'] at h5; exact absurd h5 (by decide))
      | (simp at h5; omega)
  cases hwl with
  | cons w1 w2 =>
    cases w2
    cases w1 with
    | list ho hall => exact ⟨_, _, ns, rfl, rfl, ho, ints_of_wellAll ns _ hall, hlen⟩
theorem post_true (l : OpenLaw) (args : List WData) : l.row.toRowW.claim.post args (.bool true) args = true :=
  postW_of (r := l.row.toRowW) (X := (true == true))
    (show WShape.has [] (.bool true) .bool = true by first | rfl | decide | simp [WShape.has, WShape.arms, WShape.armsAll])
    (show (WTm.eq .res (.lit (.bool true))).value [] { args := args, res := some (.bool true), after := args } = some (.bool (true == true)) from w_eq_bool (w_res rfl) w_lit) rfl
theorem attach_call {l : OpenLaw} {n : Nat} {q : Program} {loose : List Str} {XP : (Str → Option Value) → Heap → Prop} {YP : World → Heap → Prop} {d : DefRec}
    (hn : l.most = some n) (hdf : d.params.defaults = [])
    (call : ∀ (w : World) (s₀ s₁ : Shared) (mg mb : Str → Option Value) (fa : Addr) (o : Obj) (pm cd doc : Value) (a : Addr) (vs : List Value) (ns : List Int),
      Ground q loose [] XP w s₀ mg mb s₁.heap → YP w s₁.heap →
      s₁.heap.get? fa = some o → o.data = .func (docDef d.name d.params d.body d.scope pm cd doc) → s₁.heap.CodeRec cd d.name → mg d.name = some (.ref fa) →
      s₁.heap.get? a = some { cls := .type "list", data := .seq vs.toArray } → IntsAre vs ns → ns.length ≤ n → s₁.gens = #[] →
      codeAny (model l.prog w) callerA (.call (.ref fa) ⟨[.ref a], []⟩) (fun r s' => r = .ok (.ret (.bool true)) ∧ OldK s₁.heap s'.heap ∧ s'.os = s₁.os ∧ AllBare s'.gens) s₁) :
    WalkO q loose XP YP l.row.toRowW d [] (fun f vs => PySem.call f vs) := by
  intro w s₀ s₁ mg mb G Y fa o pm cd doc dV kV ho hd hcd hD hmg hg args vals as hpre hlay hrd hwl hlo
  obtain rfl : dV = .none := Dflts.none hD hdf
  obtain rfl : kV = .none := Dflts.noKw hD
  obtain ⟨a, vs, ns, rfl, rfl, hobj, hints, hlen⟩ := script_of hn hpre hwl
  refine enter_call (codeAny_mono (call w s₀ s₁ mg mb fa o pm cd doc a vs ns G Y ho (fd_plain hd) hcd hmg hobj hints hlen hg) fun r s' hq => ?_)
  obtain ⟨rfl, h2, h3, h4⟩ := hq
  exact ⟨.inl ⟨.bool true, .bool true, [], rfl, fun _ => rfl, .bool true, post_true l _, fun _ => ⟨List.Pairwise.nil, fun _ hm => (nomatch hm)⟩⟩, h2, h3, h4⟩
section
variable {prog : Program} {w : World} {A : Around} {E : Value → Shared → Prop} {s : Shared} {K : Frag}
def ledger (h : Heap) (L d : Addr) : List (Addr × Obj) := (List.range h.objs.size).filterMap fun a => if a = L ∨ a = d then none else (h.get? a).map fun o => (a, o)
end
end Att
namespace L2
open PySem PySem.Spec PyProof.Rows
theorem vals_ints : ∀ {vs : List Value} {ns : List Int}, IntsAre vs ns → Vals (ns.map V.int) vs
  | _, _, .nil => .nil
  | _, _, .cons n t h => .cons ⟨t, rfl⟩ (vals_ints h)
def Only (H : Hp) : Prop := ∀ b, H b = none ∨ ∃ o xs, H b = some (.frz o (.lst xs))
theorem law_call {P : Program} {w : World} {K : PySem.W.Frag} {mg mb : Str → Option Value} {CX : CXT} {k : Nat} {fa a : Addr} {fd : FuncData} {x : Str} {sp : Sp} {s₁ : Shared} {vs : List Value} {ns : List Int}
    (KX : K.In s₁.heap) (hns : s₁.heap.Ns mainGlobals mg) (hb : s₁.heap.Ns builtinsNs mb) (hbb : ∀ x : Str, x ≠ "__name__" → mb x = bootBuiltins x) (hlim : s₁.heap.NoLimit) (hg : s₁.gens = #[])
    (ha : s₁.heap.get? a = some { cls := .type "list", data := .seq vs.toArray }) (hi : IntsAre vs ns) (hl : ns.length ≤ sizeLine) (hr : Room k callerA)
    (F : ∀ base : Heap, K.In base → base.Ns mainGlobals mg → FnOk P w K mg base CX k fa fd [x] sp) (hbind : ∀ (s : Shared) (u : Value), BindsTo s fd ⟨[u], []⟩ [(x, u)])
    (hsp : ∀ H : Hp, Only H → SqL K H a (ns.map V.int) → sp [.ref a] H (fun v _ => v = .bl true) fun _ _ _ => False)
    (hCX : ∀ H e s', CX [] H s₁ (fun _ _ _ => False) e s' → False) :
    codeAny (model P w) callerA (.call (.ref fa) ⟨[.ref a], []⟩) (fun r s' => r = .ok (.ret (.bool true)) ∧ OldK s₁.heap s'.heap ∧ s'.os = s₁.os ∧ AllBare s'.gens) s₁ := by
  have rv := vals_ints hi
  have lenV := hi.length
  -- from an abstract heap in which nothing but the script may be tracked
  have core : ∀ H : Hp, Only H → SqL K H a (ns.map V.int) → HOk P w H s₁.heap → (∀ b, H b ≠ none → b = a) → (H a ≠ none → K.lookup a = none) →
      codeAny (model P w) callerA (.call (.ref fa) ⟨[.ref a], []⟩) (fun r s' => r = .ok (.ret (.bool true)) ∧ OldK s₁.heap s'.heap ∧ s'.os = s₁.os ∧ AllBare s'.gens) s₁ := by
    intro H hO hS hok hA hK
    have base_of : ∀ {b : Addr} {o : Obj}, s₁.heap.get? b = some o → H b = none → (hidT s₁.heap H).get? b = some o := fun e n => hidT_get e n
    have noA : ∀ {b : Addr} {o : Obj} {es : Array DictEntry} {ep : Nat}, s₁.heap.get? b = some o → o.data = .dict es ep → H b = none := fun {b o es ep} e d => by
      cases q : H b with
      | none => rfl
      | some u =>
        have e' : b = a := hA b (by rw [q]; simp)
        subst e'
        rw [ha] at e; cases e
        have d' : Data.seq vs.toArray _ = Data.dict es ep := d
        cases d'
    have nsK : ∀ {b : Addr} {m : Str → Option Value}, s₁.heap.Ns b m → (hidT s₁.heap H).Ns b m := fun {b m} ⟨o, es, ep, e, d, r⟩ => ⟨o, es, ep, base_of e (noA e d), d, r⟩
    have hKb : K.In (hidT s₁.heap H) := fun b o e => base_of (KX b o e) (by
      cases q : H b with
      | none => rfl
      | some u =>
        have e' : b = a := hA b (by rw [q]; simp)
        subst e'
        rw [hK (by rw [q]; simp)] at e; cases e)
    have hM : Mod K mg (hidT s₁.heap H) := ⟨hKb, nsK hns, ⟨mb, nsK hb, hbb⟩, let ⟨mc, h1, h2⟩ := hlim; ⟨mc, nsK h1, h2⟩⟩
    have e0 : Env0 P w K mg (hidT s₁.heap H) callerA [] s₁ H := ⟨rfl, hM, fun b o e => of_hidT e, Nat.le_of_eq (hidT_size _ _), trivial, fun b hb => absurd (show b ∈ ([] : List Addr) from hb) (by simp), hok, .of_eq hg⟩
    refine codeAny_mono ((F _ hKb (nsK hns)).run callerA [] s₁ H ⟨[.ref a], []⟩ [.ref a] [.ref a] _ _ hr e0 (hbind s₁ (.ref a)) (.cons rfl .nil) (hsp H hO hS)) fun r s' h => ?_
    cases r with
    | error e => exact (hCX H e s' h).elim
    | ok fl =>
      cases fl with
      | next => exact False.elim h
      | brk => exact False.elim h
      | cont => exact False.elim h
      | ret u =>
        obtain ⟨v, H', os, bare, un, hok', r', q⟩ := h
        have q' : v = .bl true := q
        subst q'
        obtain rfl : u = Value.bool true := r'
        refine ⟨rfl, OldK.of_keep fun b o e => ?_, os, bare⟩
        cases q : H b with
        | none => exact un.keep b o e q (by intro z; exact absurd (show b ∈ ([] : List Addr) from z) (by simp)) (by simp)
        | some u =>
          rcases hO b with z | ⟨ob, xs, z⟩
          · rw [q] at z; cases z
          · have z2 := un.frzs b ob _ z
            obtain ⟨e1, _⟩ := hok b _ z
            obtain ⟨e2, _⟩ := hok' b _ z2
            rw [e] at e1; cases e1
            exact e2
  cases hk : K.lookup a with
  | some o =>
    -- the script is one of the module's own objects
    have e := KX a o hk
    rw [ha] at e
    cases e
    refine core (fun _ => none) (fun _ => .inl rfl) (.inr ⟨_, vs.toArray, _, hk, rfl, rfl, rfl, by rw [List.size_toArray, lenV]; exact hl, by simpa using rv⟩) (fun b u z => by have z' : (none : Option HO) = some u := z; cases z') (fun b z => absurd rfl z) fun z => absurd rfl z
  | none =>
    refine core (fun b => if b = a then some (.frz { cls := .type "list", data := .seq vs.toArray } (.lst (ns.map V.int))) else none) (fun b => ?_) (.inl (.inr ⟨{ cls := .type "list", data := .seq vs.toArray }, if_pos rfl⟩)) (fun b u z => ?_) (fun b z => ?_) fun _ => hk
    · by_cases hb : b = a
      · exact .inr ⟨_, _, if_pos hb⟩
      · exact .inl (if_neg hb)
    · by_cases hb : b = a
      · have z' := (if_pos hb).symm.trans z
        cases z'
        subst hb
        exact ⟨ha, by rw [List.length_map]; exact hl, vs, _, rv, ha⟩
      · have z' := (if_neg hb).symm.trans z
        cases z'
    · by_cases hb : b = a
      · exact hb
      · exact absurd (if_neg hb) z
end L2
namespace L2
open PySem PySem.Spec PyProof.Rows
abbrev KOf {K : PySem.W.Frag} {h : Heap} (_ : K.In h) : PySem.W.Frag := K
theorem walk_of {l : PySem.W.OpenLaw} {n k : Nat} {q : Program} {loose : List Str} {XP : (Str → Option Value) → Heap → Prop} {YP : World → Heap → Prop} {d : DefRec} {K : Params → PySem.W.Frag} {CX : World → CXT} {sp : World → Sp} {x : Str}
    (hn : l.most = some n) (hn2 : n ≤ sizeLine) (hdf : d.params.defaults = []) (hr : Room k callerA)
    (hY : ∀ (w : World) (h : Heap), YP w h → (K w.params).In h)
    (F : ∀ (w : World) (mg : Str → Option Value) (fa : Addr) (h : Heap), (K w.params).In h → h.Ns mainGlobals mg → mg d.name = some (.ref fa) →
      ∃ fd : FuncData, (∀ (s : Shared) (u : Value), BindsTo s fd ⟨[u], []⟩ [(x, u)]) ∧
        ∀ base : Heap, (K w.params).In base → base.Ns mainGlobals mg → FnOk l.prog w (K w.params) mg base (CX w) k fa fd [x] (sp w))
    (hsp : ∀ (w : World) (H : Hp) (a : Addr) (ns : List Int), ns.length ≤ n → Only H → SqL (K w.params) H a (ns.map V.int) → sp w [.ref a] H (fun v _ => v = .bl true) fun _ _ _ => False)
    (hCX : ∀ (w : World) (H : Hp) (s : Shared) (e : Value) (s' : Shared), CX w [] H s (fun _ _ _ => False) e s' → False) :
    PySem.W.WalkO q loose XP YP l.row.toRowW d [] (fun f vs => PySem.call f vs) := by
  refine Att.attach_call hn hdf fun w s₀ s₁ mg mb fa o pm cd doc a vs ns G Y ho hd hcd hmg hobj hints hlen hg => ?_
  have KX := hY w _ Y
  obtain ⟨fd, hb, hF⟩ := F w mg fa _ KX G.T.g hmg
  exact law_call KX G.T.g G.T.b G.T.builtins G.T.nolimit hg hobj hints (Nat.le_trans hlen hn2) hr hF hb (fun H hO hS => hsp w H a ns hlen hO hS) fun H e s' => hCX w H s₁ e s'
end L2
namespace L2
open PySem PySem.Spec PyProof.Rows
def defArgs (s : Stmt) : Arguments := match s with
  | .FunctionDef _ a _ _ _ _ _ _ _ _ => a
  | _ => { posonlyargs := [], args := [], vararg := none, kwonlyargs := [], kw_defaults := [], kwarg := none, defaults := [] }
def defBody (s : Stmt) : List Stmt := match s with
  | .FunctionDef _ _ b _ _ _ _ _ _ _ => b
  | _ => []
def defScope (s : Stmt) : Scope := match s with
  | .FunctionDef _ _ _ _ _ _ sc _ _ _ => sc
  | _ => { kind := .function, names := [], isGenerator := false, isCoroutine := false }
abbrev CX0 : CXT := fun _ _ _ _ _ _ => False
abbrev E0 : XK := fun _ _ _ => False
structure Fun (K : PySem.W.Frag) (x qual : Str) (st : Stmt) (f : Addr) (fd : FuncData) : Prop where
  ex : ∃ (oc : Value) (od : Option Addr) (kV doc pm : Value) (an : Option Addr) (cdv ct : Value) (osl : Array (Option Value)),
    fd = PySem.W.fnOf x qual (defArgs st) (defBody st) (defScope st) .none kV doc pm an cdv ct ∧ K.lookup f = some ⟨oc, od, .func fd, osl⟩ ∧ PySem.W.codeIn K cdv qual = true
  kp : PySem.W.keepIn K (.ref f) = true
section
variable {P : Program} {w : World} {K : PySem.W.Frag} {mg : Str → Option Value} {base : Heap}
theorem Fun.ok {x qual : Str} {st : Stmt} {f : Addr} {fd : FuncData} {N ps : List Str} {k : Nat} {sp : Sp} (F : Fun K x qual st f fd) (S : FnScope N ps (defScope st)) (len : ∀ vs H Q E, sp vs H Q E → vs.length = ps.length)
    (hbody : ∀ (cdv : Value) (A : Around) (outer : List Env) (s : Shared) (H : Hp) (vs : List V) (Q : VK) (E : XK), Room k (A.deeper (envOfC qual (defScope st) s.heap.objs.size f cdv)) → sp vs H Q E →
      ∃ t, PSs (cxOf CX0 P w K mg base N qual (defScope st) f cdv A outer s H E).nox (defBody st) t ∧ t { nx := fun _ H' => Q .non H', rt := Q } (start N vs) H) : FnOk P w K mg base CX0 (k + 1) f fd ps sp := by
  obtain ⟨oc, od, kV, doc, pm, an, cdv, ct, osl, rfl, lk, hcd⟩ := F.ex
  refine fn_of lk hcd S len fun A outer s H vs Q E hr hsp => ?_
  obtain ⟨t, h, q⟩ := hbody cdv A outer s H vs Q E hr hsp
  exact ⟨t, h.nox, q⟩
theorem Fun.binds {x qual : Str} {st : Stmt} {f : Addr} {fd : FuncData} {ps : List Str} (F : Fun K x qual st f fd)
    (h : ∀ (kV doc pm : Value) (an : Option Addr) (cdv ct : Value) (us : List Value), us.length = ps.length → bindArgs (PySem.W.fnOf x qual (defArgs st) (defBody st) (defScope st) .none kV doc pm an cdv ct) ⟨us, []⟩ = pure (ps.zip us)) : Binds K fd ps [] := by
  obtain ⟨oc, od, kV, doc, pm, an, cdv, ct, osl, rfl, lk, hcd⟩ := F.ex
  exact .all (h kV doc pm an cdv ct)
theorem fun_mk {x qual : Str} {st : Stmt} {f : Addr} {oc : Value} {od an : Option Addr} {osl : Array (Option Value)} {kV doc pm cdv ct : Value} (l : K.lookup f = some ⟨oc, od, .func (PySem.W.fnOf x qual (defArgs st) (defBody st) (defScope st) .none kV doc pm an cdv ct), osl⟩)
    (c : PySem.W.codeIn K cdv qual = true) (k : PySem.W.keepIn K (.ref f) = true) : Fun K x qual st f (PySem.W.fnOf x qual (defArgs st) (defBody st) (defScope st) .none kV doc pm an cdv ct) := ⟨⟨oc, od, kV, doc, pm, an, cdv, ct, osl, rfl, l, c⟩, k⟩
end
theorem small1000 {n : Nat} (h : n ≤ 1000) : n < sizeLine := Nat.lt_of_le_of_lt h (by decide)
section
variable {X : Cx}
theorem pv (i : Nat) {x : Str} {pos : Pos} (hN : X.N[i]? = some x := by rfl) (hv : Vis X.env.scope x := by first | exact Or.inl rfl | exact Or.inr (Or.inl rfl) | exact Or.inr (Or.inr rfl)) (hd : (x == ("__debug__" : Str)) = false := by decide)
    (hcd : (x == ("__classdict__" : Str)) = false := by decide) : PE X (.Name x pos) (tVar i) := pe_var hN hv hd hcd
end
theorem iteF {A B : Prop} (h : B) : if false = true then A else B := by
  rw [if_neg Bool.false_ne_true]
  exact h
theorem iteT {A B : Prop} (h : A) : if true = true then A else B := by
  rw [if_pos rfl]
  exact h
theorem ite2 {c A B : Prop} [Decidable c] (h1 : c → A) (h2 : ¬ c → B) : if c then A else B := by
  by_cases h : c
  · rw [if_pos h]
    exact h1 h
  · rw [if_neg h]
    exact h2 h
def Same (H H' : Hp) : Prop := ∀ b o, H b = some o → H' b = some o
theorem Same.refl (H : Hp) : Same H H := fun _ _ h => h
theorem Same.trans {H H1 H2 : Hp} (a : Same H H1) (b : Same H1 H2) : Same H H2 := fun c o h => b c o (a c o h)
theorem Same.free {H H' : Hp} (e : Same H H') {l : Addr} (h : H' l = Option.none) : H l = Option.none := by
  cases q : H l with
  | none => rfl
  | some o =>
    rw [e l o q] at h
    cases h
theorem Same.seq {K : PySem.W.Frag} {H H' : Hp} {a : Addr} {xs : List V} (e : Same H H') (h : SqL K H a xs) : SqL K H' a xs := by
  rcases h with (h | ⟨o, h⟩) | h
  · exact .inl (.inl (e _ _ h))
  · exact .inl (.inr ⟨o, e _ _ h⟩)
  · exact .inr h
end L2
set_option Elab.async false
set_option linter.all false
set_option maxRecDepth 100000
set_option maxHeartbeats 4000000
namespace L2
open PySem PySem.Spec PyProof.Rows
def compCx (X : Cx) (L : List Str) (scope : Scope) (cl : List (Str × Addr)) (C : Addr) (s₂ : Shared) (H₂ : Hp) (fp : List Addr) : Cx where
  prog := X.prog
  w := X.w
  K := X.K
  mg := X.mg
  base := X.base
  A := X.A
  N := X.N ++ L
  s₀ := s₂
  H₀ := H₂
  env := compEnvC scope cl C X.env
  outer := X.stack
  stack := X.stack
  ex := fp
  fn := fun _ => false
  calm := X.calm
  pn := []
  xe := fun _ _ => False
def compOk (sc : Scope) (N L : List Str) (scope : Scope) : Bool :=
  decide (scope.kind = .function) && scope.names.all (fun y => decide (y.2 ≠ .cell) && (decide (y.2 ≠ .local) || (decide (scope.names.lookup y.1 = some .local) && decide (y.1 ∉ N))) &&
    (decide (y.2 ≠ .free) || decide (sc.names.lookup y.1 = some .cell) || decide (sc.names.lookup y.1 = some .free))) && decide ((N ++ L).Nodup)
theorem compOk_kind {sc : Scope} {N L : List Str} {scope : Scope} (h : compOk sc N L scope = true) : scope.kind = .function := by
  simp only [compOk, Bool.and_eq_true, decide_eq_true_eq] at h
  exact h.1.1
theorem compOk_at {sc : Scope} {N L : List Str} {scope : Scope} (h : compOk sc N L scope = true) {y : Str × NameKind} (hy : y ∈ scope.names) :
    y.2 ≠ .cell ∧ (y.2 = .local → scope.names.lookup y.1 = some .local ∧ y.1 ∉ N) ∧ (y.2 = .free → sc.names.lookup y.1 = some .cell ∨ sc.names.lookup y.1 = some .free) := by
  simp only [compOk, Bool.and_eq_true, decide_eq_true_eq, List.all_eq_true, Bool.or_eq_true] at h
  have q := h.1.2 y hy
  obtain ⟨⟨q1, q2⟩, q3⟩ := q
  refine ⟨q1, fun e => ?_, fun e => ?_⟩
  · rcases q2 with q2 | q2
    · exact absurd e q2
    · exact q2
  · rcases q3 with (q3 | q3) | q3
    · exact absurd e q3
    · exact .inl q3
    · exact .inr q3
theorem closure_fold {env : Env} : ∀ (names : List (Str × NameKind)) (acc : List (Str × Addr)), (∀ y ∈ names, y.2 = .free → ∃ c, env.cells.lookup y.1 = some c) →
    (∀ x c, acc.lookup x = some c → env.cells.lookup x = some c) →
    ∃ cl, (forIn names acc (fun (x : Str × NameKind) (cs : List (Str × Addr)) => match x with
      | (name, kind) => if (kind == NameKind.free) = true then do let a ← cellOf env name; pure (ForInStep.yield ((name, a) :: cs)) else pure (ForInStep.yield cs)) : Sem (List (Str × Addr))) = pure cl ∧
      (∀ x c, cl.lookup x = some c → env.cells.lookup x = some c) ∧ (∀ y ∈ names, y.2 = .free → ∃ c, cl.lookup y.1 = some c) ∧ (∀ x c, acc.lookup x = some c → ∃ c', cl.lookup x = some c')
  | [], acc, _, ha => ⟨acc, rfl, ha, fun _ h => (nomatch h), fun _ c e => ⟨c, e⟩⟩
  | (n, k) :: r, acc, hf, ha => by
    by_cases hk : k = .free
    · subst hk
      obtain ⟨c, hc⟩ := hf (n, .free) List.mem_cons_self rfl
      have ha' : ∀ x c', ((n, c) :: acc).lookup x = some c' → env.cells.lookup x = some c' := fun x c' e => by
        by_cases hx : x = n
        · subst hx
          simp [List.lookup_cons] at e
          rw [← e]; exact hc
        · have : (x == n) = false := by simpa using hx
          simp [List.lookup_cons, this] at e
          exact ha x c' e
      obtain ⟨cl, e1, e2, e3, e4⟩ := closure_fold r ((n, c) :: acc) (fun y hy => hf y (List.mem_cons_of_mem _ hy)) ha'
      refine ⟨cl, ?_, e2, fun y hy hfr => ?_, fun x c' e => ?_⟩
      · rw [List.forIn_cons]
        show (if (NameKind.free == NameKind.free) = true then (do let a ← cellOf env n; pure (ForInStep.yield ((n, a) :: acc))) else pure (ForInStep.yield acc)) >>= _ = _
        rw [if_pos (by decide)]
        unfold cellOf
        rw [hc]
        simp only [pure_bind]
        exact e1
      · rcases List.mem_cons.mp hy with rfl | hy
        · exact e4 n c (by simp [List.lookup_cons])
        · exact e3 y hy hfr
      · by_cases hx : x = n
        · subst hx
          exact e4 x c (by simp [List.lookup_cons])
        · have : (x == n) = false := by simpa using hx
          exact e4 x c' (by simp [List.lookup_cons, this]; exact e)
    · obtain ⟨cl, e1, e2, e3, e4⟩ := closure_fold r acc (fun y hy => hf y (List.mem_cons_of_mem _ hy)) ha
      refine ⟨cl, ?_, e2, fun y hy hfr => ?_, e4⟩
      · rw [List.forIn_cons]
        have hb : (k == NameKind.free) = false := by simpa using hk
        show (if (k == NameKind.free) = true then (do let a ← cellOf env n; pure (ForInStep.yield ((n, a) :: acc))) else pure (ForInStep.yield acc)) >>= _ = _
        rw [hb, if_neg (by simp)]
        simp only [pure_bind]
        exact e1
      · rcases List.mem_cons.mp hy with rfl | hy
        · exact absurd hfr hk
        · exact e3 y hy hfr
theorem closure_of {env : Env} {scope : Scope} (hf : ∀ y ∈ scope.names, y.2 = .free → ∃ c, env.cells.lookup y.1 = some c) :
    ∃ cl, closureFor scope env = pure cl ∧ (∀ x c, cl.lookup x = some c → env.cells.lookup x = some c) ∧ (∀ y ∈ scope.names, y.2 = .free → ∃ c, cl.lookup y.1 = some c) := by
  obtain ⟨cl, e1, e2, e3, _⟩ := closure_fold scope.names [] hf (fun x c e => by simp at e)
  refine ⟨cl, ?_, e2, e3⟩
  unfold closureFor
  simp only [bind_pure_comp, map_pure] at *
  first
    | exact e1
    | (rw [e1]; rfl)
    | (simp only [bind_pure]; exact e1)
theorem lookup_mem {names : List (Str × NameKind)} {x : Str} {k : NameKind} (h : names.lookup x = some k) : (x, k) ∈ names := PySem.mem_of_lookup h
theorem of_relabel {env : Env} : ∀ {names : List (Str × NameKind)} {x : Str} {k : NameKind},
    (names.map fun (n, k) => if (k == NameKind.free && env.scope.kind == .function && env.kindOf n == some .cell) then (n, NameKind.cell) else (n, k)).lookup x = some k →
    ∃ k', names.lookup x = some k' ∧ (k = k' ∨ (k' = .free ∧ k = .cell))
  | [], _, _, h => by simp at h
  | (n, k0) :: r, x, k, h => by
    cases hx : x == n with
    | true =>
      by_cases hc : (k0 == NameKind.free && env.scope.kind == .function && env.kindOf n == some .cell) = true
      · simp only [List.map_cons, if_pos hc, List.lookup_cons, hx] at h
        have hk : k0 = .free := by
          simp only [Bool.and_eq_true, beq_iff_eq] at hc
          exact hc.1.1
        exact ⟨k0, by simp [List.lookup_cons, hx], .inr ⟨hk, (Option.some.inj h).symm⟩⟩
      · simp only [List.map_cons, if_neg hc, List.lookup_cons, hx] at h
        exact ⟨k0, by simp [List.lookup_cons, hx], .inl (Option.some.inj h).symm⟩
    | false =>
      have h' : (r.map fun (n, k) => if (k == NameKind.free && env.scope.kind == .function && env.kindOf n == some .cell) then (n, NameKind.cell) else (n, k)).lookup x = some k := by
        by_cases hc : (k0 == NameKind.free && env.scope.kind == .function && env.kindOf n == some .cell) = true
        · simp only [List.map_cons, if_pos hc, List.lookup_cons, hx] at h; exact h
        · simp only [List.map_cons, if_neg hc, List.lookup_cons, hx] at h; exact h
      obtain ⟨k', e, q⟩ := of_relabel h'
      exact ⟨k', by simp [List.lookup_cons, hx]; exact e, q⟩
def Ifs (X : Cx) (ifs : List Expr) (tt : TT) : Prop :=
  ∀ (pins : List (Addr × Obj)) (s : Shared) (σ : St) (H : Hp) (Q : Bool → Hp → Prop), Inv X pins σ H s → tt σ H Q →
    wpAny (model X.prog X.w) X.A (forIn ifs true fun c r => if r = true then do let ok ← isTrue c X.env (eval c X.env); pure (ForInStep.yield ok) else pure (ForInStep.yield r)) (TP X pins σ Q) X.xe s
def tYes : TT := fun _ H Q => Q true H
theorem ifs_nil {X : Cx} : Ifs X [] tYes := fun pins s σ H Q I h => wpAny_tests_nil ⟨H, I, h⟩
def tCompJ (k : Nat) (g : TG) (tt : TT) (te : TE) (σ : St) (Q : VK) (J : It) (H1 : Hp) : Prop := ∃ W : Nat → Nat → List V → St → Hp → Prop, (∃ m, W 0 m [] (σ ++ List.replicate k none) H1) ∧ ∀ i m ys σ' H, W i m ys σ' H →
  (J.stop i H ∧ ∀ D, H D = none → Q (.ref D) (upd H D (.lst ys))) ∨
  (J.go i H ∧ ys.length < sizeLine ∧ ∃ N : List V → St → Hp → Prop, (∀ ys' σ' H', N ys' σ' H' → ∃ m', m' < m ∧ W (i + 1) m' ys' σ' H') ∧
    ∀ x H', J.yld i H x H' → g x σ' H' fun σ2 H2 => tt σ2 H2 fun b H3 => if b = true then te σ2 H3 fun y H4 => N (ys ++ [y]) σ2 H4 else N ys σ2 H3)
def tComp (k : Nat) (wi : TI) (g : TG) (tt : TT) (te : TE) : TE := fun σ H Q => wi σ H (tCompJ k g tt te σ Q)
section
variable {prog : Program} {w : World} {A : Around} {R : Result → Shared → Prop} {s : Shared}
theorem codeAny_compLoop_own {elt target iter : Expr} {ifs : List Expr} {scope : Scope} {pos : Pos} {it acc : Value} {env : Env} (I : Nat → Shared → Prop)
    (turn : ∀ n s, I n s → wpAny (model prog w) A (pyNext it) (fun r s₁ => match r with
      | none => R (.ok .next) s₁
      | some v => wpAny (model prog w) A (letOwnedTupleGo target it v) (fun _ s₁' => wpAny (model prog w) A (assign target env v) (fun _ s₂ =>
          wpAny (model prog w) A (forIn ifs true fun c r => if r = true then do let ok ← isTrue c env (eval c env); pure (ForInStep.yield ok) else pure (ForInStep.yield r)) (fun ok s₃ =>
            if ok = true then wpAny (model prog w) A (eval elt env) (fun x s₄ =>
              wpAny (model prog w) A (call (.builtin "list.append") [acc, x]) (fun _ s₅ => ∃ m, m < n ∧ I m s₅) (fun _ _ => False) s₄) (fun _ _ => False) s₃
            else ∃ m, m < n ∧ I m s₃) (fun _ _ => False) s₂) (fun _ _ => False) s₁') (fun _ _ => False) s₁) (fun _ _ => False) s)
    (n : Nat) (h : I n s) :
    codeAny (model prog w) A (.compLoop (.ListComp elt [⟨target, iter, ifs, 0⟩] scope pos) 0 it acc env) R s := by
  refine codeAny_loop rfl I (fun n s hI => ?_) n h
  show wpAny _ A ((compTurn (.ListComp elt [⟨target, iter, ifs, 0⟩] scope pos) 0 it acc env).onRaise (fun x => do noteFrame x env; theTreesLotGoes x)) _ _ s
  refine wpAny_noted ?_
  rw [compTurn_list]
  refine wpAny_bind (wpAny_standAt (wpAny_bind (wpAny_mono (turn n s hI) (fun r s₁ h₁ => ?_) fun _ _ h' => h'.elim)))
  cases r with
  | none => exact wpAny_pure h₁
  | some v =>
    refine wpAny_bind (wpAny_mono h₁ (fun _ s₁' h₁' => ?_) fun _ _ h' => h'.elim)
    refine wpAny_bind (wpAny_mono h₁' (fun _ s₂ h₂ => wpAny_bind (wpAny_mono h₂ (fun ok s₃ h₃ => ?_) fun _ _ h' => h'.elim)) fun _ _ h' => h'.elim)
    cases ok with
    | false => exact wpAny_pure ⟨rfl, h₃⟩
    | true =>
      exact wpAny_bind (wpAny_bind (wpAny_mono h₃ (fun x s₄ h₄ => wpAny_bind (wpAny_mono h₄ (fun _ s₅ h₅ => wpAny_pure (wpAny_pure ⟨rfl, h₅⟩)) fun _ _ h' => h'.elim)) fun _ _ h' => h'.elim))
end
section
variable {X : Cx}
theorem comp_ok {pins : List (Addr × Obj)} {σ : St} {H : Hp} {s₂ : Shared} {L : List Str} {scope : Scope} {cl : List (Str × Addr)} {C : Addr} {fp : List Addr} {sc : Scope} {N : List Str}
    (I : Inv X pins σ H s₂) (hsc : X.env.scope = sc) (hN : X.N = N) (ok : compOk sc N L scope = true) (hc1 : ∀ x c, cl.lookup x = some c → X.env.cells.lookup x = some c)
    (hc2 : ∀ y ∈ scope.names, y.2 = .free → ∃ c, cl.lookup y.1 = some c) (hf : ∀ b ∈ fp, FpOk X pins H b) (hlt : ∀ b ∈ fp, b < s₂.heap.objs.size) (hC : s₂.heap.objs.size ≤ C) :
    (compCx X L scope cl C s₂ H fp).Ok where
  mod := I.ok.mod
  kind := (show scope.kind = .function from compOk_kind ok)
  glob := I.ok.glob
  blt := I.ok.blt
  above := hC
  inj := fun x y c h1 h2 => I.ok.inj x y c (hc1 x c h1) (hc1 y c h2)
  has := fun x hx => by
    have hx' : ∃ k, (relabel scope X.env).names.lookup x = some k ∧ (k = .cell ∨ k = .free) := by
      rcases hx with h | h
      · exact ⟨_, h, .inl rfl⟩
      · exact ⟨_, h, .inr rfl⟩
    obtain ⟨k, e, hk⟩ := hx'
    obtain ⟨k', e', q⟩ := of_relabel e
    have hm := lookup_mem e'
    have nc := (compOk_at ok hm).1
    have hfree : k' = .free := by
      rcases q with q | q
      · rcases hk with hk | hk
        · exact absurd (q.symm.trans hk) nc
        · exact q.symm.trans hk
      · exact q.1
    exact hc2 (x, k') hm hfree
  cab := fun x c h _ => by cases h
  hd := I.ok.hd
  frames := I.ok.frames
  stk := .inl rfl
  exf := fun b hb => ⟨Nat.ne_of_lt (Nat.lt_of_lt_of_le (hlt b hb) hC), fun x c e => (hf b hb).2.2.2.2.1 x c (hc1 x c e)⟩
  bs := I.bs
  bsz := Nat.le_trans I.ok.bsz I.sz
  noex := fun b o e hb => by
    rcases (hf b hb).2.2.2.1 with z | z
    · exact I.ok.noex b o e z
    · exact absurd (Nat.lt_of_lt_of_le (Heap.lt_size (I.ok.bs b o e).1) z) (Nat.lt_irrefl _)
  exfs := fun b hb z => by
    rcases List.mem_cons.mp (I.stkSub b z) with q | q
    · exact (hf b hb).2.1 q
    · exact (hf b hb).2.2.1 q
  funs := I.stack
  frf := I.stkFree
theorem comp_start {pins : List (Addr × Obj)} {σ : St} {H : Hp} {s₂ s₄ : Shared} {L : List Str} {scope : Scope} {cl : List (Str × Addr)} {C : Addr} {fp : List Addr} {sc : Scope} {N : List Str} {m : Str → Option Value}
    (I : Inv X pins σ H s₂) (hsc : X.env.scope = sc) (hN : X.N = N) (ok : compOk sc N L scope = true) (hc1 : ∀ x c, cl.lookup x = some c → X.env.cells.lookup x = some c)
    (Y : (compCx X L scope cl C s₂ H fp).Ok) (hC : s₂.heap.objs.size ≤ C) (hos : s₄.os = s₂.os) (hg : AllBare s₄.gens)
    (old : ∀ b o, s₂.heap.get? b = some o → s₄.heap.get? b = some o) (hns : s₄.heap.Ns C m) : Inv (compCx X L scope cl C s₂ H fp) [] (σ ++ List.replicate L.length none) H s₄ where
  ok := Y
  os := hos
  bare := hg
  base := Un.kept old
  loc := by
    refine ⟨m, hns, fun i x v e1 e2 e3 => ?_⟩
    have hl : σ.length = X.N.length := I.len
    have hi : i < σ.length := by
      by_cases h : i < σ.length
      · exact h
      · rw [List.getElem?_append_right (by omega), List.getElem?_replicate] at e2
        split at e2 <;> cases e2
    rw [List.getElem?_append_left hi] at e2
    have e1' : X.N[i]? = some x := by
      have : (X.N ++ L)[i]? = some x := e1
      rwa [List.getElem?_append_left (by omega)] at this
    have e3' : ∃ k, (relabel scope X.env).names.lookup x = some k ∧ (k = .local ∨ k = .cell ∨ k = .free) := by
      rcases e3 with h | h | h
      · exact ⟨_, h, .inl rfl⟩
      · exact ⟨_, h, .inr (.inl rfl)⟩
      · exact ⟨_, h, .inr (.inr rfl)⟩
    obtain ⟨k, ek, hk⟩ := e3'
    obtain ⟨k', e', q⟩ := of_relabel ek
    have hm := lookup_mem e'
    obtain ⟨nc, nl, fr⟩ := compOk_at ok hm
    have hk' : k' = .free := by
      rcases q with q | q
      · rcases hk with hk | hk | hk
        · have hl' : k' = .local := q.symm.trans hk
          exact absurd (hN ▸ List.mem_of_getElem? e1') (nl hl').2
        · exact absurd (q.symm.trans hk) nc
        · exact q.symm.trans hk
      · exact q.1
    have hX : X.env.kindOf x = some .cell ∨ X.env.kindOf x = some .free := by
      have := fr hk'
      rw [← hsc] at this
      exact this
    obtain ⟨m₀, hn₀, hl₀⟩ := I.loc
    obtain ⟨u, r, look⟩ := hl₀ i x v e1' e2 (.inr hX)
    refine ⟨u, r, .inr ⟨?_, ?_⟩⟩
    · show (relabel scope X.env).names.lookup x = some .cell ∨ (relabel scope X.env).names.lookup x = some .free
      rcases hk with hk | hk | hk
      · exfalso
        rcases q with q | q
        · rw [hk] at q; rw [hk'] at q; cases q
        · rw [hk] at q; exact nomatch q.2
      · exact .inl (hk ▸ ek)
      · exact .inr (hk ▸ ek)
    · rcases look with ⟨z, _⟩ | ⟨_, c, ec, hcell⟩
      · exfalso
        rcases hX with h | h <;> rw [h] at z <;> cases z
      · obtain ⟨c', ec'⟩ := Y.has x (by
          rcases hk with hk | hk | hk
          · exfalso
            rcases q with q | q
            · rw [hk] at q; rw [hk'] at q; cases q
            · rw [hk] at q; exact nomatch q.2
          · exact .inl (hk ▸ ek)
          · exact .inr (hk ▸ ek))
        have hcl : cl.lookup x = some c' := ec'
        have : c' = c := Option.some.inj ((hc1 x c' hcl).symm.trans ec)
        subst this
        refine ⟨c', hcl, ?_⟩
        obtain ⟨o, ho, hd⟩ := hcell
        exact ⟨o, old _ _ ho, hd⟩
  cell := fun x c e => by
    obtain ⟨v, o, ho, hd⟩ := I.cell x c (hc1 x c e)
    exact ⟨v, o, old _ _ ho, hd⟩
  free := I.hok.fresh hC
  freeC := fun x c e => I.freeC x c (hc1 x c e)
  pin := fun p hp => absurd (show p ∈ ([] : List (Addr × Obj)) from hp) (by simp)
  hok := I.hok.kept old
  len := by
    show _ = (X.N ++ L).length
    have hl : σ.length = X.N.length := I.len
    simp [hl]
theorem comp_back {pins : List (Addr × Obj)} {σ σ' : St} {H H' : Hp} {s₂ s' : Shared} {L : List Str} {scope : Scope} {cl : List (Str × Addr)} {fp : List Addr} {its : List Value} {ys : List V} {D C : Addr} {n : Nat} {pl : List (Addr × Obj)}
    (I : Inv X pins σ H s₂) (hf : ∀ b ∈ fp, FpOk X pins H b) (hD : s₂.heap.objs.size = D)
    (J : Inv (compCx X L scope cl C s₂ H fp) pl σ' H' s') (hpD : s'.heap.get? D = some { cls := .type "list", data := .seq its.toArray n }) (hHD : H' D = none) (hv : Vals ys its) (hz : ys.length ≤ sizeLine) :
    Inv X pins σ (upd H' D (.lst ys)) s' := by
  have B : Un (frs X.stack) fp H H' s₂.heap s'.heap := J.base
  have neD : ∀ b o, s₂.heap.get? b = some o → b ≠ D := fun b o e => by rw [← hD]; exact Nat.ne_of_lt (Heap.lt_size e)
  refine I.call' (ch := fp) J.os ⟨B.keep, B.slot, fun b o e hn hx => ?_, B.there, fun b xs e => ?_, fun b o u e => ?_, fun b ps e => ?_⟩ (fun b o e => ?_) J.bare (fun b hb => ⟨(hf b hb).2.2.2.1, (hf b hb).2.1, (hf b hb).2.2.2.2.1, (hf b hb).2.2.2.2.2⟩)
  · rw [upd_ne (neD b o e)]; exact B.free b o e hn hx
  · have := B.tups b xs e
    rw [upd_ne (ne_of_none this hHD)]; exact this
  · have := B.frzs b o u e
    rw [upd_ne (ne_of_none this hHD)]; exact this
  · obtain ⟨more, this⟩ := B.tbls b ps e
    exact ⟨more, by rw [upd_ne (ne_of_none this hHD)]; exact this⟩
  · by_cases hb : b = D
    · subst hb
      rw [upd_same] at e
      cases e
      exact ⟨hz, its, n, hv, hpD⟩
    · rw [upd_ne hb] at e
      exact (J.hok b o e).stay (fun _ _ _ q => q) (fun c q => by rw [upd_ne (ne_of_none q hHD)]; exact q) fun c xs q => by rw [upd_ne (ne_of_none q hHD)]; exact q
theorem comp_block {pins : List (Addr × Obj)} {σ : St} {H : Hp} {s₂ : Shared} {L : List Str} {scope : Scope} {cl : List (Str × Addr)} {fp : List Addr} {sc : Scope} {N : List Str} {tg elt iter : Expr} {ifs : List Expr} {pos : Pos}
    {g : TG} {tt : TT} {te : TE} {Q : VK} {J : It} {it : Addr} {tn : Nat → Heap → Prop} {RR : Value → Addr → Result → Shared → Prop} {E : Value → Shared → Prop}
    (hc : X.calm = true) (hsc : X.env.scope = sc) (hN : X.N = N) (ok : compOk sc N L scope = true) (hc1 : ∀ x c, cl.lookup x = some c → X.env.cells.lookup x = some c)
    (hc2 : ∀ y ∈ scope.names, y.2 = .free → ∃ c, cl.lookup y.1 = some c)
    (hg : ∀ cl C s₂ H₂ fp, PG (compCx X L scope cl C s₂ H₂ fp) tg g) (hi : ∀ cl C s₂ H₂ fp, Ifs (compCx X L scope cl C s₂ H₂ fp) ifs tt) (he : ∀ cl C s₂ H₂ fp, PE (compCx X L scope cl C s₂ H₂ fp) elt te)
    (I : Inv X pins σ H s₂) (T : Turn X.prog X.w X.K tg J fp it tn) (st : tn 0 s₂.heap) (hf : ∀ b ∈ fp, FpOk X pins H b) (hw : tCompJ L.length g tt te σ Q J H)
    (hR : ∀ D C m H' s' ys, s'.heap.Ns C m → s₂.heap.objs.size = D → s₂.heap.objs.size < C → H' C = none → D ≠ C → Inv X pins σ (upd H' D (.lst ys)) s' → Q (.ref D) (upd H' D (.lst ys)) → RR (.ref D) C (.ok .next) s') :
    wpAny (model X.prog X.w) X.A (newList []) (fun acc s₃ => wpAny (model X.prog X.w) X.A (newFunctionEnv scope X.env.globals cl [] X.env.qual none .none (some X.env)) (fun cenv s₄ =>
      codeAny (model X.prog X.w) X.A (.compStart (.ListComp elt [⟨tg, iter, ifs, 0⟩] scope pos) 0 (.ref it) acc { cenv with scope := relabel scope X.env }) (RR acc cenv.locals) s₄) E s₃) E s₂ := by
  refine wpAny_newObj_type (wpAny_newFunctionEnv (fun y hy => (compOk_at ok hy).1) (by intro y hy; simp at hy) (fun h₁ hns₁ hsb₁ => ?_) (compOk_kind ok))
  dsimp only at hns₁ hsb₁ ⊢
  generalize hH2 : s₂.heap.push { cls := .type "list", dict := none, data := .seq ([] : List Value).toArray } = H2 at hns₁ hsb₁ ⊢
  have hC : H2.objs.size = s₂.heap.objs.size + 1 := by rw [← hH2, Heap.size_push]
  have hCle : s₂.heap.objs.size ≤ H2.objs.size := by rw [hC]; exact Nat.le_succ _
  have hDC : s₂.heap.objs.size ≠ H2.objs.size := by rw [hC]; exact Nat.ne_of_lt (Nat.lt_succ_self _)
  have hlt : ∀ b ∈ fp, b < s₂.heap.objs.size := fun b hb => by
    obtain ⟨o, e, _⟩ := T.obj 0 _ st b hb
    exact Heap.lt_size e
  have below : ∀ b, b < s₂.heap.objs.size → b ≠ H2.objs.size := fun b hb => by rw [hC]; exact Nat.ne_of_lt (Nat.lt_succ_of_lt hb)
  have old : ∀ b o, s₂.heap.get? b = some o → h₁.get? b = some o := fun b o e => hsb₁.extBut b o (below b (Heap.lt_size e)) (Heap.get?_push_of_some _ (hH2 ▸ Heap.get?_push_of_some _ e))
  have hacc : h₁.get? s₂.heap.objs.size = some { cls := .type "list", data := .seq ([] : List Value).toArray 0 } := hsb₁.extBut _ _ hDC (Heap.get?_push_of_some _ (hH2 ▸ Heap.get?_push_size _ rfl))
  have Yok := comp_ok (L := L) (scope := scope) (cl := cl) (C := H2.objs.size) (fp := fp) I hsc hN ok hc1 hc2 hf hlt hCle
  generalize hDn : s₂.heap.objs.size = D at *
  generalize hCn : H2.objs.size = C at *
  have st₁ : tn 0 h₁ := T.keep _ _ _ st fun b _ o e => old b o e
  -- the block's own iterators
  have cellD : ∀ x c, cl.lookup x = some c → c ≠ D := fun x c e => by
    obtain ⟨v, q⟩ := I.cell x c (hc1 x c e)
    rw [← hDn]
    exact Nat.ne_of_lt q.lt
  have fpY : ∀ {H' : Hp} {its : List Value} {n : Nat}, (∀ b ∈ fp, H' b = none) → ∀ b ∈ fp, FpOk (compCx X L scope cl C s₂ H fp) [(D, { cls := .type "list", data := .seq its.toArray n })] H' b := fun {H' its n} hn b hb => by
    refine ⟨hn b hb, (Yok.exf b hb).1, Yok.exfs b hb, .inl hb, (Yok.exf b hb).2, fun p hp => ?_⟩
    have e : p = (D, { cls := .type "list", data := .seq its.toArray n }) := by
      have : p ∈ [(D, ({ cls := .type "list", data := .seq its.toArray n } : Obj))] := hp
      simpa using this
    subst e
    exact Ne.symm (Nat.ne_of_lt (hlt b hb))
  have nfsD : D ∉ (compCx X L scope cl C s₂ H fp).fs := fun z => by
    obtain ⟨_, o, ho, _⟩ := Yok.funs.mem z
    exact absurd (show D < s₂.heap.objs.size from Heap.lt_size ho) (by rw [hDn]; exact Nat.lt_irrefl _)
  have pinD : ∀ {σ' : St} {H' : Hp} {s' : Shared} {pl : List (Addr × Obj)} {its : List Value} {n : Nat}, Inv (compCx X L scope cl C s₂ H fp) pl σ' H' s' → s'.heap.get? D = some { cls := .type "list", data := .seq its.toArray n } → H' D = none →
      Inv (compCx X L scope cl C s₂ H fp) [(D, { cls := .type "list", data := .seq its.toArray n })] σ' H' s' := fun {σ' H' s' pl its n} J e hn => J.pins_of fun p hp => by
    have e' : p = (D, { cls := .type "list", data := .seq its.toArray n }) := by simpa using hp
    subst e'
    exact ⟨e, hn, hDC, nfsD, fun v z => by cases z⟩
  have I₁ : Inv (compCx X L scope cl C s₂ H fp) [] (σ ++ List.replicate L.length none) H { s₂ with heap := h₁, toks := s₂.toks + ([] : List (Str × Value)).length } :=
    comp_start I hsc hN ok hc1 Yok (by rw [hDn]; exact hCle) rfl I.bare old hns₁
  have HD : H D = none := I.hok.fresh (by rw [hDn]; exact Nat.le_refl _)
  obtain ⟨W, ⟨m0, w0⟩, turn⟩ := hw
  have loop : codeAny (model X.prog X.w) X.A (.compLoop (.ListComp elt [⟨tg, iter, ifs, 0⟩] scope pos) 0 (.ref it) (.ref D) (compEnvC scope cl C X.env)) (RR (.ref D) C)
      { s₂ with heap := h₁, toks := s₂.toks + ([] : List (Str × Value)).length } := by
    refine codeAny_compLoop_own (fun n s' => ∃ i ys its k σ' H', Inv (compCx X L scope cl C s₂ H fp) [(D, { cls := .type "list", data := .seq its.toArray k })] σ' H' s' ∧ Vals ys its ∧ ys.length ≤ sizeLine ∧ tn i s'.heap ∧ (∀ b ∈ fp, H' b = none) ∧ W i n ys σ' H')
      ?_ m0 ⟨0, [], [], 0, _, H, pinD I₁ hacc HD, .nil, Nat.zero_le _, st₁, fun b hb => (hf b hb).1, w0⟩
    rintro n s3 ⟨i, ys, its, k, σ3, H3, I3, hv3, hz3, st3, fr3, w3⟩
    have hp3 := I3.pin (D, { cls := .type "list", data := .seq its.toArray k }) (by simp)
    rcases turn i n ys σ3 H3 w3 with ⟨stop, q⟩ | ⟨go, hlen, Nx, hNx, step⟩
    · refine thn (T.done (compCx X L scope cl C s₂ H fp) rfl rfl rfl hc i _ s3 σ3 H3 _ I3 (fpY fr3) st3 stop) fun r s4 ⟨hr, I4⟩ => ?_
      subst hr
      have hp4 := I4.pin (D, { cls := .type "list", data := .seq its.toArray k }) (by simp)
      obtain ⟨m4, hn4, _⟩ := I4.loc
      exact hR D C m4 H3 s4 ys hn4 rfl (by rw [hC]; exact Nat.lt_succ_self _) I4.free hDC (comp_back I hf hDn I4 hp4.1 hp4.2.1 hv3 hz3) (q D hp4.2.1)
    · refine thn (T.item (compCx X L scope cl C s₂ H fp) rfl rfl rfl hc i _ s3 σ3 H3 _ I3 (fpY fr3) st3 go) fun r s4 ⟨u, hr, h4⟩ => ?_
      subst hr
      refine thn h4 fun _ s5 ⟨x, H5, I5, r5, y5, st5, fr5⟩ => ?_
      have I5' := I5.pinned (fpY fr5) (T.obj _ _ st5)
      refine thn (hg cl C s₂ H fp _ s5 σ3 H5 x u _ I5' r5 (step x H5 y5)) fun _ s6 ⟨σ6, H6, I6, q6⟩ => ?_
      refine thn (hi cl C s₂ H fp _ s6 σ6 H6 _ I6 q6) fun ok s7 ⟨H7, I7, q7⟩ => ?_
      have later : ∀ {σ' : St} {H' : Hp} {s' : Shared}, Inv (compCx X L scope cl C s₂ H fp) ([(D, { cls := .type "list", data := .seq its.toArray k })] ++ pinsAt fp s5.heap) σ' H' s' →
          tn (i + 1) s'.heap ∧ (∀ b ∈ fp, H' b = none) ∧ s'.heap.get? D = some { cls := .type "list", data := .seq its.toArray k } ∧ H' D = none := fun {σ' H' s'} J => by
        refine ⟨T.keep _ _ _ st5 fun b hb o e => (J.pin (b, o) (List.mem_append_right _ (List.mem_append_right _ (mem_pinsAt hb e)))).1, fun b hb => ?_, ?_⟩
        · obtain ⟨o, e, d⟩ := T.obj _ _ st5 b hb
          exact (J.pin (b, o) (List.mem_append_right _ (List.mem_append_right _ (mem_pinsAt hb e)))).2.1
        · have z := J.pin (D, { cls := .type "list", data := .seq its.toArray k }) (List.mem_append_right _ (List.mem_append_left _ (by simp)))
          exact ⟨z.1, z.2.1⟩
      cases ok with
      | false =>
        rw [if_neg (by simp)] at q7 ⊢
        obtain ⟨m', hm', w'⟩ := hNx _ _ _ q7
        obtain ⟨t1, t2, t3, t4⟩ := later I7
        exact ⟨m', hm', i + 1, ys, its, k, σ6, H7, pinD I7 t3 t4, hv3, hz3, t1, t2, w'⟩
      | true =>
        rw [if_pos rfl] at q7 ⊢
        refine thn (he cl C s₂ H fp _ s7 σ6 H7 _ I7 q7) fun y s8 ⟨v, H8, I8, r8, q8⟩ => ?_
        obtain ⟨m', hm', w'⟩ := hNx _ _ _ q8
        obtain ⟨t1, t2, t3, t4⟩ := later I8
        refine append_at (hsz := by rw [List.size_toArray, ← hv3.length]; exact hz3) t3 fun h9 hs9 hD9 => ?_
        have nbD : ∀ b ∈ fp, b ≠ D := fun b hb => Nat.ne_of_lt (hlt b hb)
        have I9 : Inv (compCx X L scope cl C s₂ H fp) [] σ6 H8 { s8 with heap := h9 } := (I8.pins_of (pins' := []) (fun p hp => by simp at hp)).turned (it := D) (t' := s8.toks) (fun b o hb e => hs9.extBut b o hb e) t4 hDC
          (.inr (by show s₂.heap.objs.size ≤ D; rw [hDn]; exact Nat.le_refl _)) cellD (fun p hp => by
            have : p ∈ ([] : List (Addr × Obj)) := hp
            simp at this)
        refine ⟨m', hm', i + 1, ys ++ [v], its ++ [y], k + 1, σ6, H8, pinD I9 (by rw [hD9]; simp) t4, hv3.append (.cons r8 .nil), by simp; omega, T.keep _ _ _ t1 fun b hb o e => hs9.extBut b o (nbD b hb) e, t2, w'⟩
  exact codeAny_compStart_list loop (T.self _ 0 _ _ _ st₁ loop)
end
end L2
set_option Elab.async false
set_option linter.all false
set_option maxRecDepth 100000
set_option maxHeartbeats 4000000
namespace L2
open PySem PySem.Spec PyProof.Rows
section
variable {X : Cx}
theorem pe_comp {L : List Str} {scope sc : Scope} {N : List Str} {tg elt iter : Expr} {ifs : List Expr} {pos : Pos} {wi : TI} {g : TG} {tt : TT} {te : TE}
    (hc : X.calm = true) (hsc : X.env.scope = sc) (hN : X.N = N) (ok : compOk sc N L scope = true)
    (hi : PI X tg iter wi) (hg : ∀ cl C s₂ H₂ fp, PG (compCx X L scope cl C s₂ H₂ fp) tg g) (hf : ∀ cl C s₂ H₂ fp, Ifs (compCx X L scope cl C s₂ H₂ fp) ifs tt) (he : ∀ cl C s₂ H₂ fp, PE (compCx X L scope cl C s₂ H₂ fp) elt te)
    (hs : ∀ x, foldedSetIterable iter X.env x = pure x := by intro _; rfl) :
    PE X (.ListComp elt [⟨tg, iter, ifs, 0⟩] scope pos) (tComp L.length wi g tt te) := by
  intro pins s σ H Q I h
  obtain ⟨cl, hcl, hc1, hc2⟩ := closure_of (env := X.env) (scope := scope) fun y hy hfr => by
    refine I.ok.has y.1 ?_
    have z := (compOk_at ok hy).2.2 hfr
    rw [← hsc] at z
    exact z
  rw [eval_ListComp]
  refine wpAny_comprehension_free (use := none) rfl hs hcl (compOk_kind ok) (fun y hy hl => ((compOk_at ok hy).2.1 hl).1) (thn (hi pins s σ H _ I h) fun v s1 h1 => thn h1 fun itv s2 h2 => ?_)
  obtain ⟨it, fp, tn, J, H2, e, I2, T, st2, f2, hw⟩ := h2
  subst e
  refine comp_block (RR := fun acc C => compPost (model X.prog X.w) X.A X.xe none (EP X pins σ Q) acc C) hc hsc hN ok hc1 hc2 hg hf he I2 T st2 f2 hw ?_
  intro D C m H' s' ys hns hD hC hHC hDC J' q
  refine ⟨m, hns, fun h'' hs'' => ⟨.ref D, upd H' D (.lst ys), ?_, rfl, q⟩⟩
  have hsz := I2.sz
  refine J'.turned (it := C) (t' := s'.toks) (fun b o hb e => hs''.extBut b o hb e) (by rw [upd_ne (Ne.symm hDC)]; exact hHC) (Ne.symm (Nat.ne_of_lt (Nat.lt_trans I2.lt hC))) (.inr (Nat.le_trans hsz (Nat.le_of_lt hC))) (fun x c e => ?_) (fun p hp => ?_)
  · obtain ⟨v, z⟩ := I2.cell x c e
    exact Nat.ne_of_lt (Nat.lt_trans z.lt hC)
  · exact Nat.ne_of_lt (Nat.lt_trans (Heap.lt_size (I2.pin p hp).1) hC)
theorem ps_setc {i : Nat} {x : Str} {pos' spos : Pos} {L : List Str} {scope sc : Scope} {N : List Str} {tg elt iter : Expr} {ifs : List Expr} {pos : Pos} {wi : TI} {g : TG} {tt : TT} {te : TE}
    (hNd : X.N.Nodup) (hxi : X.N[i]? = some x) (hx : Loc X.env.scope x)
    (hc : X.calm = true) (hsc : X.env.scope = sc) (hN : X.N = N) (ok : compOk sc N L scope = true)
    (hi : PI X tg iter wi) (hg : ∀ cl C s₂ H₂ fp, PG (compCx X L scope cl C s₂ H₂ fp) tg g) (hf : ∀ cl C s₂ H₂ fp, Ifs (compCx X L scope cl C s₂ H₂ fp) ifs tt) (he : ∀ cl C s₂ H₂ fp, PE (compCx X L scope cl C s₂ H₂ fp) elt te)
    (hsw : swapsWith (.ListComp elt [⟨tg, iter, ifs, 0⟩] scope pos) (some (.Name x pos')) spos.line X.env = pure true := by rfl)
    (hs : ∀ x, foldedSetIterable iter X.env x = pure x := by intro _; rfl)
    (hfn : X.fn x = true ∨ X.env.scope.names.lookup x = some .local := by first | exact .inl rfl | exact .inr rfl | assumption) :
    PS X (.Assign [.Name x pos'] (.ListComp elt [⟨tg, iter, ifs, 0⟩] scope pos) spos) (tAsg (tComp L.length wi g tt te) (gName i)) := by
  intro pins s σ H D I h
  obtain ⟨cl, hcl, hc1, hc2⟩ := closure_of (env := X.env) (scope := scope) fun y hy hfr => by
    refine I.ok.has y.1 ?_
    have z := (compOk_at ok hy).2.2 hfr
    rw [← hsc] at z
    exact z
  rw [exec_Assign_Name_used _ _ _ _ hsw]
  refine wpAny_bind (wpAny_standAt (wpAny_bind ?_))
  show wpAny _ X.A (do let _ ← comprehension (.ListComp elt [⟨tg, iter, ifs, 0⟩] scope pos) scope X.env _ (newList []) false (eval iter X.env) (some (assign (.Name x pos') X.env))) _ _ s
  refine wpAny_bind (wpAny_mono (wpAny_comprehension_free (use := some (assign (.Name x pos') X.env)) (Q := fun _ s' => SP X pins D .next s') rfl hs hcl (compOk_kind ok) (fun y hy hl => ((compOk_at ok hy).2.1 hl).1)
    (thn (hi pins s σ H _ I h) fun v s1 h1 => thn h1 fun itv s2 h2 => ?_)) (fun _ s' hq => wpAny_pure (wpAny_pure hq)) fun _ _ e => e)
  obtain ⟨it, fp, tn, J, H2, e, I2, T, st2, f2, hw⟩ := h2
  subst e
  refine comp_block (RR := fun acc C => compPost (model X.prog X.w) X.A X.xe (some (assign (.Name x pos') X.env)) (fun _ s' => SP X pins D .next s') acc C) hc hsc hN ok hc1 hc2 hg hf he I2 T st2 f2 hw ?_
  intro D' C m H' s' ys hns hD hC hHC hDC J' q
  have hsz := I2.sz
  have neL : C ≠ X.env.locals := Ne.symm (Nat.ne_of_lt (Nat.lt_trans I2.lt hC))
  have neC : ∀ x c, X.env.cells.lookup x = some c → c ≠ C := fun x c e => by
    obtain ⟨v, z⟩ := I2.cell x c e
    exact Nat.ne_of_lt (Nat.lt_trans z.lt hC)
  show wpAny _ X.A (assign (.Name x pos') X.env (.ref D')) _ _ s'
  refine wpAny_assign_Name (store_ok2 J' hNd hxi hx (v := .ref D') rfl (fun s'' J'' ⟨a, hsb, ha⟩ => ?_) hfn)
  have haC : C ≠ a := by
    rcases ha with ha | ha
    · rw [ha]; exact neL
    · exact Ne.symm (neC x a ha)
  refine ⟨m, hns.sameBut hsb haC, fun h'' hs'' => ⟨_, upd H' D' (.lst ys), ?_, q⟩⟩
  refine J''.turned (it := C) (t' := s''.toks) (fun b o hb e => hs''.extBut b o hb e) (by rw [upd_ne (Ne.symm hDC)]; exact hHC) neL (.inr (Nat.le_trans hsz (Nat.le_of_lt hC))) neC (fun p hp => ?_)
  exact Nat.ne_of_lt (Nat.lt_trans (Heap.lt_size (I2.pin p hp).1) hC)
end
end L2
set_option Elab.async false
set_option linter.all false
set_option maxRecDepth 100000
set_option maxHeartbeats 4000000
namespace L2
open PySem PySem.Spec PyProof.Rows
section
variable {X : Cx}
def Big (i : Int) : Prop := i.natAbs < 2 ^ 1000
theorem Big.of {i : Int} (b : Int) (hb : b < 2 ^ 1000) (h1 : -b ≤ i) (h2 : i ≤ b) : Big i := by
  unfold Big
  have : (i.natAbs : Int) ≤ b := by omega
  have h3 : (i.natAbs : Int) < 2 ^ 1000 := Int.lt_of_le_of_lt this hb
  exact_mod_cast h3
theorem Big.bits {i : Int} (h : Big i) : Builtin.Int.intBits i ≤ 2 ^ 20 := by
  unfold Builtin.Int.intBits
  by_cases h0 : i.natAbs = 0
  · have : i = 0 := by omega
    subst this
    decide
  · have := (Nat.log2_lt h0).mpr h
    split <;> omega
def CMulB (i j : Int) : Prop := Big i ∧ Big j
theorem op_mulB : OpR X (binaryOp .Mult) (rI CMulB fun i j => .int (i * j)) := opI fun _ _ _ _ _ _ _ hc q => mul_int q (IntMulOk.of_bits hc.1.bits hc.2.bits)
def CDivB (i j : Int) : Prop := j ≠ 0 ∧ Big j
theorem op_fdivB : OpR X (binaryOp .FloorDiv) (rI CDivB fun i j => .int (i.fdiv j)) := opI fun i j _ _ _ _ _ hc q => floordiv_int hc.1 q (.inl (PyProof.noPylong_of_log2 (by
  by_cases h0 : j.natAbs = 0
  · rw [h0]; decide
  · have := (Nat.log2_lt h0).mpr hc.2
    omega)))
end
mutual
inductive Is (K : PySem.W.Frag) (H : Hp) : V → PyData → Prop
  | non : Is K H .non .none
  | bl (b : Bool) : Is K H (.bl b) (.bool b)
  | int (i : Int) : Is K H (.int i) (.int i)
  | str (x : Str) : Is K H (.str x) (.str x)
  | lst {a : Addr} {xs : List V} {ds : List PyData} : SqL K H a xs → IsAll K H xs ds → Is K H (.ref a) (.list ds)
  | tup {a : Addr} {xs : List V} {ds : List PyData} : SqT K H a xs → IsAll K H xs ds → Is K H (.ref a) (.tuple ds)
  | dc {a : Addr} : H a = some (.dK []) → Is K H (.ref a) (.dict [])
inductive IsAll (K : PySem.W.Frag) (H : Hp) : List V → List PyData → Prop
  | nil : IsAll K H [] []
  | cons {x : V} {xs : List V} {d : PyData} {ds : List PyData} : Is K H x d → IsAll K H xs ds → IsAll K H (x :: xs) (d :: ds)
end
theorem IsAll.ints {K : PySem.W.Frag} {H : Hp} : ∀ ns : List Int, IsAll K H (ns.map V.int) (ns.map PyData.int)
  | [] => .nil
  | n :: ns => .cons (.int n) (IsAll.ints ns)
theorem IsAll.bools {K : PySem.W.Frag} {H : Hp} : ∀ ns : List Bool, IsAll K H (ns.map V.bl) (ns.map PyData.bool)
  | [] => .nil
  | n :: ns => .cons (.bl n) (IsAll.bools ns)
section
variable {X : Cx} {pins : List (Addr × Obj)} {σ : St} {H : Hp} {s : Shared}
mutual
theorem Is.reads (I : Inv X pins σ H s) : ∀ {x : V} {d : PyData} {u : Value}, Is X.K H x d → RelV x u → ∃ as, Reads s.heap u d as
  | _, _, _, .non, r => by cases r; exact ⟨_, .none⟩
  | _, _, _, .bl b, r => by cases r; exact ⟨_, .bool b⟩
  | _, _, _, .int i, r => by obtain ⟨t, rfl⟩ := r; exact ⟨_, .int i t⟩
  | _, _, _, .str i, r => by obtain ⟨t, rfl⟩ := r; exact ⟨_, .str i t⟩
  | _, _, _, .lst hq hs, r => by
    cases r
    obtain ⟨its, rv, pl, hz⟩ := I.list hq
    obtain ⟨as, ra⟩ := IsAll.reads I hs rv
    obtain ⟨o, ho, hc, n, hd⟩ := pl.isList
    exact ⟨_, .list ho hc hd (by simpa using ra)⟩
  | _, _, _, .tup hq hs, r => by
    cases r
    obtain ⟨its, rv, pl, hz⟩ := I.tuple hq
    obtain ⟨as, ra⟩ := IsAll.reads I hs rv
    obtain ⟨o, ho, hc, n, hd⟩ := pl
    exact ⟨_, .tuple ho hc hd (by simpa using ra)⟩
  | _, _, _, .dc (a := a) e, r => by
    cases r
    obtain ⟨_, _, vs, kv, o, es, ep, h1, h2, h3, h4, h5, h6⟩ := (show ObjOk X.prog X.w H s.heap a (.dK []) from I.hok a _ e)
    have hv : vs = [] := by cases kv; rfl
    subst hv
    have he : es.toList = [] := by
      generalize es.toList = l at h5
      cases h5
      rfl
    exact ⟨_, .dict h1 h2.1 h3 (by rw [he]; exact .nil) (by rw [he]; exact .nil)⟩
theorem IsAll.reads (I : Inv X pins σ H s) : ∀ {xs : List V} {ds : List PyData} {us : List Value}, IsAll X.K H xs ds → Vals xs us → ∃ as, ReadsAll s.heap us ds as
  | _, _, _, .nil, r => by cases r; exact ⟨_, .nil⟩
  | _, _, _, .cons h hs, r => by
    cases r with
    | cons r1 r2 =>
      obtain ⟨as, ra⟩ := Is.reads I h r1
      obtain ⟨bs, rb⟩ := IsAll.reads I hs r2
      exact ⟨_, .cons ra rb⟩
end
end
section
variable {X : Cx}
def rEqD (K : PySem.W.Frag) : R2 := fun x y H Q => ∃ d d', Is K H x d ∧ Is K H y d' ∧ SeqAt.shaped d = true ∧ SeqAt.shaped d' = true ∧ Q (.bl (PyData.eqv d d')) H
def rNeD (K : PySem.W.Frag) : R2 := fun x y H Q => ∃ d d', Is K H x d ∧ Is K H y d' ∧ SeqAt.shaped d = true ∧ SeqAt.shaped d' = true ∧ Q (.bl (!PyData.eqv d d')) H
theorem op_eqD (hu : X.A.units + 64 < cLine) : OpR X (compareOp .Eq) (rEqD X.K) := by
  intro pins s σ H x y v u Q I rx ry h
  obtain ⟨d, d', h1, h2, h3, h4, q⟩ := h
  obtain ⟨as, ra⟩ := h1.reads I rx
  obtain ⟨bs, rb⟩ := h2.reads I ry
  exact eq_dataH ra rb h3 h4 hu ⟨.bl _, H, I, rfl, q⟩
theorem op_neD (hu : X.A.units + 64 < cLine) : OpR X (compareOp .NotEq) (rNeD X.K) := by
  intro pins s σ H x y v u Q I rx ry h
  obtain ⟨d, d', h1, h2, h3, h4, q⟩ := h
  obtain ⟨as, ra⟩ := h1.reads I rx
  obtain ⟨bs, rb⟩ := h2.reads I ry
  exact ne_dataH ra rb h3 h4 hu ⟨.bl _, H, I, rfl, q⟩
theorem bls_at {bs : List Bool} {its : List Value} (r : Vals (bs.map V.bl) its) {i : Nat} {v : Value} (e : its[i]? = some v) : v = .bool (bs.getD i false) := by
  have hl := r.length
  rw [List.length_map] at hl
  have hi : i < its.length := (List.getElem?_eq_some_iff.mp e).1
  have hb : (bs.map V.bl)[i]? = some (V.bl (bs.getD i false)) := by
    rw [List.getElem?_map]
    have : bs[i]? = some (bs.getD i false) := by
      rw [List.getD_eq_getElem?_getD, List.getElem?_eq_getElem (by omega)]; rfl
    rw [this]; rfl
  obtain ⟨u, eu, ru⟩ := r.get hb
  rw [e] at eu
  cases eu
  exact ru
theorem range_all (bs : List Bool) : (List.range bs.length).all (fun i => bs.getD i false) = bs.all id := by
  rw [Bool.eq_iff_iff]
  simp only [List.all_eq_true, List.mem_range, id]
  constructor
  · intro h b hb
    obtain ⟨i, hi, rfl⟩ := List.mem_iff_getElem.mp hb
    have := h i hi
    rwa [List.getD_eq_getElem?_getD, List.getElem?_eq_getElem hi] at this
  · intro h i hi
    rw [List.getD_eq_getElem?_getD, List.getElem?_eq_getElem hi]
    exact h _ (List.getElem_mem hi)
theorem call_all (hc : X.calm = true) : CallR X (.builtin "all") (fun xs H Q => ∃ (p : Addr) (bs : List Bool), xs = [.ref p] ∧ SqL X.K H p (bs.map V.bl) ∧ Q (.bl (bs.all id)) H) := by
  intro pins s σ H xs us Q I r h
  obtain ⟨p, bs, rfl, hq, q⟩ := h
  obtain ⟨u, rfl, rx⟩ := vals1 r
  cases rx
  obtain ⟨its, rv, pl, hz⟩ := I.list hq
  have hl := rv.length
  rw [List.length_map] at hl
  refine call_all_walk (wpAny_pyIter_list pl.isList ?_)
  have hlt : p < s.heap.objs.size := by obtain ⟨o, e, _⟩ := pl.isList; exact Heap.lt_size e
  refine ⟨s.heap.objs.size, _, _, _, _, _, fun i => bs.getD i false, rfl, Walks.list (A := X.A.in1) (I.ok.hd hc) s.heap.objs.size p (Nat.ne_of_lt hlt) its.toArray, ⟨⟨_, Heap.get?_push_size _ rfl, rfl, rfl⟩, pl.isList.push _⟩, ?_, fun h' tk k => ?_⟩
  · intro i v s Q E e hQ
    have e' : its[i]? = some v := by simpa using e
    rw [bls_at rv e']
    exact wpAny_truthy_bool hQ
  · rw [List.size_toArray, ← hl, range_all]
    refine ⟨.bl _, H, I.kept (fun b o e => k b o (fun hb => ?_) (Heap.get?_push_of_some _ e)), rfl, q⟩
    have : b = s.heap.objs.size := by simpa using hb
    exact absurd (this ▸ Heap.lt_size e) (Nat.lt_irrefl _)
def rCount (K : PySem.W.Frag) : V → List V → Hp → VK → Prop := fun x vs H Q => ∃ (l : Addr) (ns : List Int) (k : Int), x = .ref l ∧ vs = [.int k] ∧ SqL K H l (ns.map V.int) ∧ Q (.int (ns.count k : Nat)) H
theorem mt_count : MtR X "list.count" (rCount X.K) := by
  intro pins s σ H x xs v us Q I rx rs h
  obtain ⟨l, ns, k, rfl, rfl, hq, q⟩ := h
  cases rx
  obtain ⟨u, rfl, t, rfl⟩ := vals1 rs
  obtain ⟨its, rv, pl, hz⟩ := I.list hq
  exact count_list_ints pl.isList (intsAre_of rv) ⟨.int _, H, I.tok _, ⟨_, rfl⟩, q⟩
end
end L2
set_option Elab.async false
set_option linter.all false
set_option maxRecDepth 100000
set_option maxHeartbeats 4000000
namespace L2
open PySem PySem.Spec PyProof.Rows
theorem bt_len : bootBuiltins "len" = some (.builtin "len") := by decide +kernel
theorem bt_abs : bootBuiltins "abs" = some (.builtin "abs") := by decide +kernel
theorem bt_max : bootBuiltins "max" = some (.builtin "max") := by decide +kernel
theorem bt_min : bootBuiltins "min" = some (.builtin "min") := by decide +kernel
theorem bt_all : bootBuiltins "all" = some (.builtin "all") := by decide +kernel
theorem bt_sorted : bootBuiltins "sorted" = some (.builtin "sorted") := by decide +kernel
theorem bt_isinstance : bootBuiltins "isinstance" = some (.builtin "isinstance") := by decide +kernel
theorem bt_int : bootBuiltins "int" = some (.type "int") := by decide +kernel
theorem bt_bool : bootBuiltins "bool" = some (.type "bool") := by decide +kernel
theorem bt_set : bootBuiltins "set" = some (.type "set") := by decide +kernel
def NoX (CX : CXT) : Prop := ∀ o H s e s', CX o H s E0 e s' → False
theorem passN {CX : CXT} {X : Cx} (h : NoX CX) : Passes CX X E0 := fun _ _ _ _ _ _ _ q => (h _ _ _ _ _ q).elim
def Own (P : Program) (w : World) (K : PySem.W.Frag) (mg : Str → Option Value) (base : Heap) (CX : CXT) (k : Nat) (x : Str) (ps : List Str) (sp : Sp) : Prop :=
  ∃ (f : Addr) (fd : FuncData), FnOk P w K mg base CX k f fd ps sp ∧ mg x = some (.ref f) ∧ PySem.W.keepIn K (.ref f) = true ∧ Binds K fd ps []
section
variable {X : Cx} {CX : CXT} {k : Nat} {x : Str} {ps : List Str} {sp : Sp} {e : Expr} {es : List Expr} {t : TA} {p pos : Pos}
theorem pe_own (O : Own X.prog X.w X.K X.mg X.base CX k x ps sp) (hX : NoX CX) (hr : Room k X.A) (hg : Gl X x) (ha : PA X (e :: es) t) (hdb : (x == ("__debug__" : Str)) = false := by decide)
    (he : starEach (e :: es) X.env = (false, eval e X.env) :: starEach es X.env := by rfl) (hpl : (backTo pos (starEach es X.env)).any (·.1) = false := by rfl) : PE X (.Call (.Name x p) (e :: es) [] pos) (tCall sp [] E0 t) := by
  obtain ⟨f, fd, F, hm, hk, hb⟩ := O
  exact pe_call F hr hg hm hk hb .nil (passN hX) ha hdb he hpl
end
section
variable {P : Program} {w : World} {K : PySem.W.Frag} {mg : Str → Option Value} {base : Heap} {CX : CXT}
theorem Fun.okG {x qual : Str} {st : Stmt} {f : Addr} {fd : FuncData} {N ps : List Str} {k : Nat} {sp : Sp} (F : Fun K x qual st f fd) (S : FnScope N ps (defScope st)) (len : ∀ vs H Q E, sp vs H Q E → vs.length = ps.length)
    (hbody : ∀ (cdv : Value) (A : Around) (outer : List Env) (s : Shared) (H : Hp) (vs : List V) (Q : VK) (E : XK), Room k (A.deeper (envOfC qual (defScope st) s.heap.objs.size f cdv)) → sp vs H Q E →
      ∃ t, PSs (cxOf CX P w K mg base N qual (defScope st) f cdv A outer s H E).nox (defBody st) t ∧ t { nx := fun _ H' => Q .non H', rt := Q } (start N vs) H) : FnOk P w K mg base CX (k + 1) f fd ps sp := by
  obtain ⟨oc, od, kV, doc, pm, an, cdv, ct, osl, rfl, lk, hcd⟩ := F.ex
  refine fn_of lk hcd S len fun A outer s H vs Q E hr hsp => ?_
  obtain ⟨t, h, q⟩ := hbody cdv A outer s H vs Q E hr hsp
  exact ⟨t, h.nox, q⟩
end
def Pot (M : Int) (H : Hp) (p : Addr) : Prop := ∃ p0 p1 : Int, H p = some (.lst [.int p0, .int p1]) ∧ 0 ≤ p0 ∧ 0 ≤ p1 ∧ p1 < M
def Stp (p : Addr) (H H' : Hp) : Prop := ∀ b o, H b = some o → b ≠ p → H' b = some o
theorem Stp.refl {p : Addr} {H : Hp} : Stp p H H := fun _ _ e _ => e
theorem Stp.trans {p : Addr} {H H1 H2 : Hp} (a : Stp p H H1) (b : Stp p H1 H2) : Stp p H H2 := fun c o e n => b c o (a c o e n) n
theorem Stp.upd {p : Addr} {H : Hp} {o : HO} : Stp p H (upd H p o) := fun b u e n => by rw [upd_ne n]; exact e
theorem Same.stp {p : Addr} {H H' : Hp} (h : Same H H') : Stp p H H' := fun b o e _ => h b o e
theorem Same.upd {p : Addr} {H : Hp} {o : HO} (h : H p = none) : Same H (upd H p o) := fun b u e => by rw [upd_ne (ne_of_none e h)]; exact e
theorem Stp.free {p : Addr} {H H' : Hp} (h : Stp p H H') {l : Addr} (e : H' l = none) (hp : ∃ o, H' p = some o) : H l = none := by
  cases q : H l with
  | none => rfl
  | some o =>
    by_cases hl : l = p
    · subst hl
      obtain ⟨u, hu⟩ := hp
      rw [hu] at e; cases e
    · rw [h l o q hl] at e; cases e
theorem Pot.some {M : Int} {H : Hp} {p : Addr} (h : Pot M H p) : ∃ o, H p = some o := let ⟨_, _, e, _⟩ := h; ⟨_, e⟩
theorem Stp.lst {K : PySem.W.Frag} {p a : Addr} {H H' : Hp} {xs : List V} (h : Stp p H H') (e : SqL K H a xs) (n : a ≠ p) : SqL K H' a xs := by
  rcases e with (e | ⟨o, e⟩) | e
  · exact .inl (.inl (h _ _ e n))
  · exact .inl (.inr ⟨o, h _ _ e n⟩)
  · exact .inr e
def TupI (H : Hp) (v : V) (ns : List Int) : Prop := ∃ a, v = .ref a ∧ H a = some (.tup (ns.map V.int))
theorem TupI.is {K : PySem.W.Frag} {H : Hp} {v : V} {ns : List Int} (h : TupI H v ns) : Is K H v (.tuple (ns.map PyData.int)) := by
  obtain ⟨a, rfl, e⟩ := h
  exact .tup (SqT.of e) (IsAll.ints ns)
theorem TupI.same {H H' : Hp} {v : V} {ns : List Int} (s : Same H H') (h : TupI H v ns) : TupI H' v ns := by
  obtain ⟨a, rfl, e⟩ := h
  exact ⟨a, rfl, s _ _ e⟩
theorem TupI.stp {p : Addr} {M : Int} {H H' : Hp} {v : V} {ns : List Int} (s : Stp p H H') (hp : Pot M H p) (h : TupI H v ns) : TupI H' v ns := by
  obtain ⟨a, rfl, e⟩ := h
  obtain ⟨_, _, q, _⟩ := hp
  exact ⟨a, rfl, s _ _ e (ne_of e q (by intro z; cases z))⟩
abbrev Pt := Int × Int
def PtAt (H : Hp) (v : V) (q : Pt) : Prop := TupI H v [q.1, q.2]
abbrev Pts (H : Hp) : List V → List Pt → Prop := Paired (PtAt H)
theorem Paired.get {α β : Type} {R : α → β → Prop} : ∀ {xs : List α} {ys : List β} {i : Nat} {x : α}, Paired R xs ys → xs[i]? = some x → ∃ y, ys[i]? = some y ∧ R x y
  | _, _, _, _, .nil, e => by simp at e
  | _, _, 0, _, .cons r _, e => by simp at e; subst e; exact ⟨_, rfl, r⟩
  | _, _, i + 1, x, .cons _ t, e => by
    obtain ⟨u, h1, h2⟩ := Paired.get (i := i) (x := x) t (by simpa using e)
    exact ⟨u, by simpa using h1, h2⟩
theorem Paired.get' {α β : Type} {R : α → β → Prop} : ∀ {xs : List α} {ys : List β} {i : Nat} {y : β}, Paired R xs ys → ys[i]? = some y → ∃ x, xs[i]? = some x ∧ R x y
  | _, _, _, _, .nil, e => by simp at e
  | _, _, 0, _, .cons r _, e => by simp at e; subst e; exact ⟨_, rfl, r⟩
  | _, _, i + 1, x, .cons _ t, e => by
    obtain ⟨u, h1, h2⟩ := Paired.get' (i := i) (y := x) t (by simpa using e)
    exact ⟨u, by simpa using h1, h2⟩
theorem Paired.len {α β : Type} {R : α → β → Prop} {xs : List α} {ys : List β} (h : Paired R xs ys) : xs.length = ys.length := PySem.Paired.length h
theorem Pts.same {H H' : Hp} {vs : List V} {ps : List Pt} (s : Same H H') (h : Pts H vs ps) : Pts H' vs ps := Paired.mapP h fun _ _ q => TupI.same s q
theorem Pts.stp {p : Addr} {M : Int} {H H' : Hp} {vs : List V} {ps : List Pt} (s : Stp p H H') (hp : Pot M H p) (h : Pts H vs ps) : Pts H' vs ps := Paired.mapP h fun _ _ q => TupI.stp s hp q
def ptD (q : Pt) : PyData := .tuple [.int q.1, .int q.2]
theorem Pts.is {K : PySem.W.Frag} {H : Hp} : ∀ {vs : List V} {ps : List Pt}, Pts H vs ps → IsAll K H vs (ps.map ptD)
  | _, _, .nil => .nil
  | _, _, .cons r t => .cons (TupI.is r) (Pts.is t)
theorem ints_canLay : ∀ ns : List Int, PyData.canLayAll0 (ns.map PyData.int) = true
  | [] => by simp [PyData.canLayAll0]
  | _ :: r => by simp [PyData.canLayAll0, PyData.canLay0, ints_canLay r]
theorem ints_depth : ∀ ns : List Int, PyData.depthAll (ns.map PyData.int) ≤ 1
  | [] => by simp [PyData.depthAll]
  | _ :: r => by
    have := ints_depth r
    simp only [List.map_cons, PyData.depthAll, PyData.depth]
    omega
theorem shaped_ints (ns : List Int) : SeqAt.shaped (.tuple (ns.map PyData.int)) = true := by
  have := ints_depth ns
  unfold SeqAt.shaped
  rw [Bool.and_eq_true]
  refine ⟨by simp only [PyData.canLay0, ints_canLay], decide_eq_true ?_⟩
  simp only [PyData.depth]
  omega
theorem bigN {n : Int} (h1 : -10000000000000000000000000000000000000000 ≤ n) (h2 : n ≤ 10000000000000000000000000000000000000000) : Big n := Big.of 10000000000000000000000000000000000000000 (by decide) h1 h2
theorem sz2 : 2 ≤ sizeLine := by decide
theorem sz1 : 1 ≤ sizeLine := by decide
theorem Pot.upd {M : Int} {H : Hp} {p l : Addr} {o : HO} (h : Pot M H p) (n : p ≠ l) : Pot M (upd H l o) p := by
  obtain ⟨p0, p1, e, r⟩ := h
  exact ⟨p0, p1, by rw [upd_ne n]; exact e, r⟩
theorem Pot.same {M : Int} {H H' : Hp} {p : Addr} (h : Pot M H p) (s : Same H H') : Pot M H' p := by
  obtain ⟨p0, p1, e, r⟩ := h
  exact ⟨p0, p1, s _ _ e, r⟩
theorem Pts.upd {H : Hp} {l : Addr} {us vs xs : List V} {ps : List Pt} (h : Pts H vs ps) (e : H l = some (.lst us)) : Pts (upd H l (.lst xs)) vs ps :=
  Paired.mapP h fun _ _ ⟨a, r, q⟩ => ⟨a, r, by rw [upd_ne (ne_of q e (by intro z; cases z))]; exact q⟩
section
variable {X : Cx} {K : PySem.W.Frag}
end
end L2
set_option Elab.async false
set_option linter.all false
set_option maxRecDepth 100000
set_option maxHeartbeats 4000000
namespace L2
open PySem PySem.Spec PyProof.Rows
section
variable {P : Program} {w : World} {H : Hp} {h : Heap} {a : Addr} {o : HO}
theorem ObjOk.has (x : ObjOk P w H h a o) : ∃ ob, h.get? a = some ob := by
  cases o with
  | lst xs => obtain ⟨_, _, _, _, e⟩ := x; exact ⟨_, e⟩
  | tup xs => obtain ⟨_, _, _, ob, e, _⟩ := x; exact ⟨_, e⟩
  | dK kvs => obtain ⟨_, _, _, _, ob, _, _, e, _⟩ := x; exact ⟨_, e⟩
  | dT kvs => obtain ⟨_, _, _, _, ob, _, _, e, _⟩ := x; exact ⟨_, e⟩
  | set S n => obtain ⟨ob, _, _, _, e, _⟩ := x; exact ⟨_, e⟩
  | ins C dx fs => obtain ⟨_, _, _, e, _⟩ := x; exact ⟨_, e⟩
  | own y => exact x
  | xd fs => obtain ⟨_, ⟨_, _, _, e, _⟩, _⟩ := x; exact ⟨_, e⟩
  | rng lo hi => obtain ⟨_, _, _, e⟩ := x; exact ⟨_, e⟩
  | frz ob u => obtain ⟨e, _⟩ := x; exact ⟨_, e⟩
  | tbl ps => exact ⟨_, (show h.get? a = some _ from x)⟩
  | met f y => exact ⟨_, (show h.get? a = some _ from x)⟩
  | ext φ => obtain ⟨_, e, _⟩ := x; exact e
end
def Cov (B : Heap) (H' : Hp) (h₀ h : Heap) (fs : List Addr) : Prop := ∀ b o, h.get? b = some o → b ∉ fs → ((∃ o₀, h₀.get? b = some o₀) ∨ ∃ u, H' b = some u) → B.get? b = some o
def XC (P : Program) (w : World) : CXT := fun outer H s E e s' => ∃ (ea : Addr) (cls a0 : Value) (H' : Hp) (B : Heap), e = .ref ea ∧ s'.os = s.os ∧ AllBare s'.gens ∧ Un (frs outer) [] H H' s.heap s'.heap ∧ HOk P w H' s'.heap ∧
  Heap.FlyingW B outer ea cls a0 s'.heap ∧ Cov B H' s.heap s'.heap (frs outer) ∧ H' ea = none ∧ E cls none H'
theorem noXC {P : Program} {w : World} : NoX (XC P w) := fun _ _ _ _ _ ⟨_, _, _, _, _, _, _, _, _, _, _, _, _, z⟩ => z
theorem exc_obj {K : PySem.W.Frag} {h : Heap} {C : Addr} {bmB : List Value} {newId : String} (KX : K.In h) (q : PySem.W.excIn K C bmB newId = true) :
    ∃ bm N nm qn bs hd sn sub ab col dd k0 k1 k2 k3 k5 mN, h.get? C = some (excClassObj nm qn C N bs bm hd sn sub ab col dd k0 k1 k2 k3 k5 newId) ∧ h.Ns N mN ∧ mN "__init__" = none ∧ OwnTail h bmB bm := by
  unfold PySem.W.excIn at q
  split at q
  · rename_i dd cd sl look
    split at q
    · rename_i C2 bm s0 s1 s2 s3 nid s5 emro esl
      simp only [Bool.and_eq_true, beq_iff_eq, Bool.not_eq_true'] at q
      obtain ⟨⟨⟨⟨⟨rfl, rfl⟩, nodel⟩, tl⟩, nsok⟩, noinit⟩ := q
      obtain ⟨nm, bs, mro, ns, qn, hd, sn, sub, ab, col, del⟩ := cd
      dsimp only at emro nodel nsok noinit
      subst emro nodel
      obtain rfl : sl = #[s0, s1, s2, s3, some (.builtin nid), s5] := by
        obtain ⟨l⟩ := sl
        simp only at esl
        rw [esl]
      exact ⟨bm, ns, nm, qn, bs, hd, sn, sub, ab, col, dd, s0, s1, s2, s3, s5, _, KX _ _ look, .of_isNs (PySem.W.isNs_of_in KX nsok), PySem.W.nsMap_none_of_in KX nsok noinit, PySem.W.tail_of_in KX tl⟩
    · cases q
  · cases q
theorem frames_hide {h base : Heap} {fs : List Addr} : ∀ {l : List Env}, h.FunFrames base l → (∀ b ∈ frs l, b ∈ fs) → h.FunFrames (PySem.W.hideAll h fs) l
  | [], _, _ => trivial
  | env :: r, ⟨hk, ⟨L, o, hf, hn, ho, hd⟩, hr⟩, hs => by
    have hm : L ∈ frs (env :: r) := List.mem_filterMap.mpr ⟨env, List.mem_cons_self, hf⟩
    refine ⟨hk, ⟨L, o, hf, PySem.W.hideAll_none _ (hs L hm), ho, hd⟩, frames_hide hr fun b hb => hs b ?_⟩
    obtain ⟨e, he, hfe⟩ := List.mem_filterMap.mp hb
    exact List.mem_filterMap.mpr ⟨e, List.mem_cons_of_mem _ he, hfe⟩
def tRaise (E : XK) (cls : Value) (t : TA) : TS := fun _ σ H => t σ H fun vs H2 => vs.length ≤ sizeLine ∧ E cls none H2
section
variable {P : Program} {w : World} {K : PySem.W.Frag} {mg : Str → Option Value} {base : Heap} {N : List Str} {qual : Str} {scope : Scope} {f C : Addr} {cd : Value} {A : Around} {outer : List Env} {s : Shared} {H : Hp} {E : XK}
  {x : Str} {B newId initId : String} {bmB : List Value} {e₀ : Expr} {rest : List Expr} {t : TA} {np cpos pos : Pos}
theorem ps_raise (q : PySem.W.excIn K C bmB newId = true) (FB : ExcBaseFacts B newId initId bmB) (hm : mg x = some (.ref C)) (hg : Gl (cxOf (XC P w) P w K mg base N qual scope f cd A outer s H E) x)
    (ha : PA (cxOf (XC P w) P w K mg base N qual scope f cd A outer s H E) (e₀ :: rest) t)
    (he : starEach (e₀ :: rest) (cxOf (XC P w) P w K mg base N qual scope f cd A outer s H E).env = (false, eval e₀ (cxOf (XC P w) P w K mg base N qual scope f cd A outer s H E).env) :: starEach rest (cxOf (XC P w) P w K mg base N qual scope f cd A outer s H E).env := by rfl)
    (hpl : (backTo cpos (starEach rest (cxOf (XC P w) P w K mg base N qual scope f cd A outer s H E).env)).any (·.1) = false := by rfl) (hdb : (x == ("__debug__" : Str)) = false := by decide) :
    PS (cxOf (XC P w) P w K mg base N qual scope f cd A outer s H E) (.Raise (some (.Call (.Name x np) (e₀ :: rest) [] cpos)) none pos) (tRaise E (.ref C) t) := by
  intro pins s1 σ H1 D I h
  generalize hX : cxOf (XC P w) P w K mg base N qual scope f cd A outer s H E = X at *
  have xK : X.K = K := by rw [← hX]; rfl
  have xmg : X.mg = mg := by rw [← hX]; rfl
  have xst : X.stack = X.env :: X.outer := by rw [← hX]; rfl
  have xfr : X.env.frame = some X.env.locals := by rw [← hX]; rfl
  have xex : X.ex = [] := by rw [← hX]; rfl
  obtain ⟨tl, Nn, nm, qn, bs, hdct, sn, sub, ab, col, dd, k0, k1, k2, k3, k5, mN, hC, hN, hni, T⟩ := exc_obj (K := K) (xK ▸ I.ok.mod.kin) q
  have hhd : X.A.handled = none := I.ok.hd (by rw [← hX]; rfl)
  refine wpAny_Raise_call_subT (C := C) (nm := nm) (q := qn) (N := Nn) (bs := bs) (bm := tl) (hdct := hdct) (sn := sn) (sub := sub) (ab := ab) (col := col) (dd := dd) (k0 := k0) (k1 := k1) (k2 := k2) (k3 := k3) (k5 := k5)
    FB (mN := mN) (T.hasType FB.hasBase) hhd (by rw [he]; show (false || (backTo cpos (starEach rest X.env)).any (·.1)) = false; rw [hpl]; rfl) hni (ld_glob I hg (xmg ▸ hm) ⟨rfl, ?_⟩ hdb)
  have hA := ha cpos pins s1 σ H1 _ I h
  rw [he] at hA ⊢
  refine Calls.evalArgs_plain (wpAny_mono hA (fun us s2 ⟨vs, H2, I2, r2, hz, hE⟩ => ⟨rfl, by rw [← r2.length]; exact hz, I2.bk _ _ hC, hN.keeps I2.bk, T.keeps I2.bk, fun h' e made => ?_⟩) fun _ _ y => y)
  -- the frame is left
  have fsub : ∀ b ∈ frs X.stack, b = X.env.locals ∨ b ∈ X.fs := fun b hb => List.mem_cons.mp (I2.stkSub b hb)
  have hfs : ∀ b ∈ X.fs, b ∈ frs X.stack := fun b hb => by
    rw [xst]
    obtain ⟨e, he, hfe⟩ := List.mem_filterMap.mp hb
    exact List.mem_filterMap.mpr ⟨e, List.mem_cons_of_mem _ he, hfe⟩
  have leave : wpAny (model X.prog X.w) X.A (leaving X.env (.ref e)) (fun _ s'' => XC X.prog X.w X.outer X.H₀ X.s₀ E (.ref e) s'') (fun e' s'' => XC X.prog X.w X.outer X.H₀ X.s₀ E e' s'') { s2 with heap := h' } := by
    refine wpAny_leaves_madeW (base := PySem.W.hideAll s2.heap (frs X.stack)) (h := s2.heap) (by rw [← xst]; exact I2.ok.frames) xfr (fun b o hb => PySem.W.of_hideAll _ hb) (by rw [← xst]; exact frames_hide I2.stack fun b hb => hb) made fun h'' t fl _ _ ups => ?_
    have kept : ∀ b o, s2.heap.get? b = some o → b ∉ frs X.stack → h''.get? b = some o := fun b o eb nb => fl.1 b o (PySem.W.hideAll_get _ eb nb)
    have bs : Un X.fs [] X.H₀ H2 X.s₀.heap s2.heap := by have := I2.base; rw [xex] at this; exact this
    have oldnf : ∀ b o, X.s₀.heap.get? b = some o → b ∉ X.fs → b ∉ frs X.stack := fun b o eb nb z => by
      rcases fsub b z with z | z
      · exact absurd (Nat.lt_of_lt_of_le (Heap.lt_size eb) I2.ok.above) (by rw [z]; exact Nat.lt_irrefl _)
      · exact nb z
    have trk : ∀ b u, H2 b = some u → b ∉ frs X.stack := fun b u eb z => by
      have := I2.stkFree b z
      rw [this] at eb; cases eb
    refine ⟨e, .ref C, .ref t, H2, _, rfl, I2.os, I2.bare, ⟨fun b o eb n nf _ => ?_, fun b o eb n nf _ => ?_, bs.free, fun b o eb _ => ?_, bs.tups, bs.frzs, bs.tbls⟩, fun b u eb => ?_, fl, fun b o eb nb cov => ?_, ?_, hE⟩
    · exact kept b o (bs.keep b o eb n nf (by simp)) (oldnf b o eb nf)
    · obtain ⟨sl, e1⟩ := bs.slot b o eb n nf (by simp)
      obtain ⟨_, o', ho', hd'⟩ := I2.stack.mem (hfs b nf)
      rw [e1] at ho'; cases ho'
      obtain ⟨sl2, e2⟩ := ups b _ (made.keeps b _ e1) hd'
      exact ⟨sl2, e2⟩
    · obtain ⟨o', e1⟩ := bs.there b o eb (by simp)
      by_cases nb : b ∈ frs X.stack
      · obtain ⟨_, o2, ho2, hd2⟩ := I2.stack.mem nb
        rw [e1] at ho2; cases ho2
        obtain ⟨sl2, e2⟩ := ups b _ (made.keeps b _ e1) hd2
        exact ⟨_, e2⟩
      · exact ⟨o', kept b o' e1 nb⟩
    · refine (I2.hok b u eb).stay (fun c v hc e1 => kept c v e1 ?_) (fun _ z => z) fun _ _ z => z
      rcases hc with rfl | hc
      · exact trk c u eb
      · exact trk c _ hc
    · have nfr : b ∉ frs X.stack := by
        rcases cov with ⟨o0, e0⟩ | ⟨u, eu⟩
        · exact oldnf b o0 e0 nb
        · exact trk b u eu
      have there : ∃ o2, s2.heap.get? b = some o2 := by
        rcases cov with ⟨o0, e0⟩ | ⟨u, eu⟩
        · exact bs.there b o0 e0 (by simp)
        · exact (I2.hok b u eu).has
      obtain ⟨o2, e2⟩ := there
      have := kept b o2 e2 nfr
      rw [eb] at this; cases this
      exact PySem.W.hideAll_get _ e2 nfr
    · cases z : H2 e with
      | none => rfl
      | some u =>
        obtain ⟨o2, e2⟩ := (I2.hok e u z).has
        have := made.new
        rw [e2] at this; cases this
  rw [← hX] at leave ⊢
  exact leave
end
end L2
set_option Elab.async false
set_option linter.all false
set_option maxRecDepth 100000
set_option maxHeartbeats 4000000
namespace L2
open PySem PySem.Spec PyProof.Rows
abbrev tryCx (X : Cx) (pn : List (Addr × Obj)) (xe : Value → Shared → Prop) : Cx := { X with pn := pn, xe := xe }
abbrev sufCx (X : Cx) (ea : Addr) : Cx := { X with A := X.A.mark (some (.ref ea)), calm := false, xe := fun _ _ => False }
theorem Cx.Ok.tryC {X : Cx} {pn : List (Addr × Obj)} {xe : Value → Shared → Prop} (o : X.Ok) : (tryCx X pn xe).Ok :=
  ⟨o.mod, o.kind, o.glob, o.blt, o.above, o.inj, o.has, o.cab, o.hd, o.frames, o.stk, o.exf, o.bs, o.bsz, o.noex, o.exfs, o.funs, o.frf⟩
theorem Cx.Ok.sufC {X : Cx} {ea : Addr} (o : X.Ok) : (sufCx X ea).Ok :=
  ⟨o.mod, o.kind, o.glob, o.blt, o.above, o.inj, o.has, o.cab, (fun z => nomatch z), o.frames, o.stk, o.exf, o.bs, o.bsz, o.noex, o.exfs, o.funs, o.frf⟩
section
variable {X : Cx} {pins : List (Addr × Obj)} {σ : St} {H H' : Hp} {s : Shared}
theorem Inv.tryC {xe : Value → Shared → Prop} (I : Inv X pins σ H s) : Inv (tryCx X (X.pn ++ pins) xe) [] σ H s :=
  ⟨I.ok.tryC, I.os, I.bare, I.base, I.loc, I.cell, I.free, I.freeC, fun p hp => I.pin p (by simpa using hp), I.hok, I.len⟩
theorem Cx.Ok.untry {pn : List (Addr × Obj)} {xe : Value → Shared → Prop} (o : (tryCx X pn xe).Ok) : X.Ok :=
  ⟨o.mod, o.kind, o.glob, o.blt, o.above, o.inj, o.has, o.cab, o.hd, o.frames, o.stk, o.exf, o.bs, o.bsz, o.noex, o.exfs, o.funs, o.frf⟩
theorem Inv.untry {pl : List (Addr × Obj)} {xe : Value → Shared → Prop} (I : Inv (tryCx X (X.pn ++ pins) xe) pl σ H s) : Inv X pins σ H s :=
  ⟨I.ok.untry, I.os, I.bare, I.base, I.loc, I.cell, I.free, I.freeC, fun p hp => I.pin p (List.mem_append_left _ hp), I.hok, I.len⟩
theorem Inv.sufC {ea : Addr} (I : Inv X pins σ H s) : Inv (sufCx X ea) pins σ H s :=
  ⟨I.ok.sufC, I.os, I.bare, I.base, I.loc, I.cell, I.free, I.freeC, I.pin, I.hok, I.len⟩
theorem Inv.unsuf {ea : Addr} (o : X.Ok) (I : Inv (sufCx X ea) pins σ H s) : Inv X pins σ H s :=
  ⟨o, I.os, I.bare, I.base, I.loc, I.cell, I.free, I.freeC, I.pin, I.hok, I.len⟩
theorem Inv.goes {i : Nat} {n : Str} {h' : Heap} {m : Str → Option Value} {v : Option Value} (I : Inv X pins σ H s) (hN : X.N.Nodup) (hi : X.N[i]? = some n) (hn : s.heap.Ns X.env.locals m)
    (hl : ∀ (j : Nat) (x : Str) (v : V), X.N[j]? = some x → σ[j]? = some (some v) → Vis X.env.scope x → ∃ u, RelV v u ∧ Look X.env s.heap m x u)
    (hn' : h'.Ns X.env.locals (fun x => if x = n then v else m x)) (hs : Heap.SameBut X.env.locals s.heap h') (tk : Nat) : Inv X pins (σ.set i none) H { s with heap := h', toks := tk } := by
  have keepb : ∀ b o, b ≠ X.env.locals → s.heap.get? b = some o → h'.get? b = some o := fun b o hb e => (hs.2 b hb).trans e
  have neL : ∀ b o, X.s₀.heap.get? b = some o → b ≠ X.env.locals := fun b o e => Nat.ne_of_lt (Nat.lt_of_lt_of_le (Heap.lt_size e) I.ok.above)
  refine ⟨I.ok, I.os, I.bare, ⟨fun b o e n hb hx => keepb b o (neL b o e) (I.base.keep b o e n hb hx), fun b o e n hb hx => ?_, I.base.free, fun b o e hx => ?_, I.base.tups, I.base.frzs, I.base.tbls⟩, ⟨_, hn', fun j y u e1 e2 e3 => ?_⟩, fun y c e => ?_, I.free, I.freeC, fun p hp => ?_, fun b u e => ?_, by simpa using I.len⟩
  · obtain ⟨sl, e1⟩ := I.base.slot b o e n hb hx
    exact ⟨sl, keepb b _ (neL b o e) e1⟩
  · obtain ⟨o', e1⟩ := I.base.there b o e hx
    exact ⟨o', keepb b _ (neL b o e) e1⟩
  · have hji : j ≠ i := by
      rintro rfl
      rw [List.getElem?_set] at e2
      simp only [if_true] at e2
      split at e2 <;> cases e2
    rw [List.getElem?_set_ne (Ne.symm hji)] at e2
    obtain ⟨u', r, q⟩ := hl j y u e1 e2 e3
    refine ⟨u', r, ?_⟩
    rcases q with ⟨k, e⟩ | ⟨k, c, e, z⟩
    · refine .inl ⟨k, ?_⟩
      have hy : y ≠ n := fun z => hji (nodup_ix hN e1 (z ▸ hi))
      simp [hy, e]
    · exact .inr ⟨k, c, e, z.sameBut hs (I.cne y c e)⟩
  · obtain ⟨v', z⟩ := I.cell y c e
    exact ⟨v', z.sameBut hs (I.cne y c e)⟩
  · obtain ⟨e, n, ne, nf, d⟩ := I.pin p hp
    exact ⟨keepb _ _ ne e, n, ne, nf, d⟩
  · refine (I.hok b u e).stay (fun c v hc q => keepb c v ?_ q) (fun _ q => q) fun _ _ q => q
    rintro rfl
    rcases hc with z | z
    · rw [← z, I.free] at e; cases e
    · rw [I.free] at z; cases z
end
def excO (ea : Addr) (cls : Value) : HO := .ext fun h => ∃ oe, h.get? ea = some oe ∧ oe.cls = cls
abbrev blank (n : Nat) : St := List.replicate n none
def tTry (K : PySem.W.Frag) (c0 : Value) (n i : Nat) (tb : XK → TS) (ts : TS) : TS := fun D σ H => tb (fun cls _ H' => PySem.W.exmOne K cls c0 = some true ∧
  ∀ ea, H' ea = none → ts { nx := fun σ' H2 => D.nx (σ'.set i none) H2, rt := D.rt, bk := fun σ' H2 => D.bk (σ'.set i none) H2, ct := fun σ' H2 => D.ct (σ'.set i none) H2 } ((blank n).set i (some (.ref ea))) (upd H' ea (excO ea cls))) D σ H
section
variable {X : Cx}
theorem exc_back {pins : List (Addr × Obj)} {σ1 : St} {H1 H' : Hp} {s1 s' : Shared} {B h6 : Heap} {ea : Addr} {cls a0 : Value} (I1 : Inv X pins σ1 H1 s1) (os : s'.os = s1.os) (bare : AllBare s'.gens)
    (un : Un (frs X.stack) [] H1 H' s1.heap s'.heap) (hok : HOk X.prog X.w H' s'.heap) (cov : Cov B H' s1.heap s'.heap (frs X.stack)) (hn : H' ea = none)
    (fl : Heap.FlyingW B X.stack ea cls a0 h6) (fl0 : Heap.FlyingW B X.stack ea cls a0 s'.heap) (ups : s'.heap.UpToSlots h6) :
    Inv X pins σ1 H' { s' with heap := h6 } ∧ Inv X pins σ1 (upd H' ea (excO ea cls)) { s' with heap := h6 } := by
  have notold : ∀ o, s1.heap.get? ea ≠ some o := fun o e => by
    obtain ⟨_, nB, _, oe, vs, _, _, _, he, _, hd, _⟩ := id fl0
    have nf : ea ∉ frs X.stack := fun z => by
      obtain ⟨_, o2, ho2, hd2⟩ := fl0.2.2.1.mem z
      rw [he] at ho2; cases ho2
      exact hd2 _ hd
    have := cov ea oe he nf (.inl ⟨o, e⟩)
    rw [nB] at this; cases this
  have keepc : ∀ b o, s'.heap.get? b = some o → b ∉ frs X.stack → ((∃ o₀, s1.heap.get? b = some o₀) ∨ ∃ u, H' b = some u) → h6.get? b = some o := fun b o e nb c => fl.1 b o (cov b o e nb c)
  have trk : ∀ b u, H' b = some u → b ∉ frs X.stack := fun b u eb z => by
    obtain ⟨_, o0, ho0, _⟩ := I1.stack.mem z
    have := un.free b o0 ho0 (I1.stkFree b z) (by simp)
    rw [this] at eb; cases eb
  have un6 : ∀ H2 : Hp, (∀ b, b ≠ ea → H2 b = H' b) → Un (frs X.stack) [] H1 H2 s1.heap h6 := fun H2 hH => by
    refine ⟨fun b o e n nf hx => keepc b o (un.keep b o e n nf hx) nf (.inl ⟨o, e⟩), fun b o e n nf hx => ?_, fun b o e n hx => ?_, fun b o e hx => ?_, fun b xs e => ?_, fun b o u e => ?_, fun b ps e => ?_⟩
    · obtain ⟨sl, e1⟩ := un.slot b o e n nf hx
      obtain ⟨_, o2, ho2, hd2⟩ := I1.stack.mem nf
      rw [e] at ho2; cases ho2
      obtain ⟨sl2, e2⟩ := ups b _ e1 hd2
      exact ⟨sl2, e2⟩
    · have hb : b ≠ ea := by rintro rfl; exact notold _ e
      rw [hH b hb]; exact un.free b o e n hx
    · obtain ⟨o', e1⟩ := un.there b o e hx
      by_cases nb : b ∈ frs X.stack
      · obtain ⟨_, o2, ho2, hd2⟩ := I1.stack.mem nb
        rw [e] at ho2; cases ho2
        obtain ⟨sl, e3⟩ := un.slot b o e (I1.stkFree b nb) nb hx
        obtain ⟨sl2, e2⟩ := ups b _ e3 hd2
        exact ⟨_, e2⟩
      · exact ⟨o', keepc b o' e1 nb (.inl ⟨o, e⟩)⟩
    · have := un.tups b xs e
      rw [hH b (ne_of_none this hn)]; exact this
    · have := un.frzs b o u e
      rw [hH b (ne_of_none this hn)]; exact this
    · obtain ⟨more, this⟩ := un.tbls b ps e
      exact ⟨more, by rw [hH b (ne_of_none this hn)]; exact this⟩
  have hok6 : HOk X.prog X.w H' h6 := fun b u e => (hok b u e).stay (fun c v hc q => by
    rcases hc with rfl | hc
    · exact keepc c v q (trk c u e) (.inr ⟨u, e⟩)
    · exact keepc c v q (trk c _ hc) (.inr ⟨_, hc⟩)) (fun _ q => q) fun _ _ q => q
  refine ⟨I1.call' (s' := { s' with heap := h6 }) (ch := []) os (un6 H' fun _ _ => rfl) hok6 bare (fun b z => nomatch z), ?_⟩
  refine I1.call' (s' := { s' with heap := h6 }) (ch := []) os (un6 _ fun b hb => upd_ne hb) (fun b u e => ?_) bare (fun b z => nomatch z)
  by_cases hb : b = ea
  · subst hb
    rw [upd_same] at e
    cases e
    obtain ⟨oe, vs, he, hc, hd, _⟩ := fl.first
    exact ⟨⟨oe, he, hc⟩, ⟨oe, he⟩, fun h1 h2 ⟨o, e1, e2⟩ k => ⟨o, k o e1, e2⟩⟩
  · rw [upd_ne hb] at e
    exact (hok6 b u e).stay (fun _ _ _ q => q) (fun c q => by rw [upd_ne (ne_of_none q hn)]; exact q) fun c xs q => by rw [upd_ne (ne_of_none q hn)]; exact q
theorem ps_try {body : List Stmt} {b₀ : Stmt} {suite : List Stmt} {cx n : Str} {np hpos pos : Pos} {c0 : Value} {i k : Nat} {tb : XK → TS} {ts : TS}
    (hst : X.stack = X.env :: X.outer) (hfr : X.env.frame = some X.env.locals) (hN : X.N.Nodup) (hi : X.N[i]? = some n) (hl : X.env.scope.names.lookup n = some .local) (hk : X.N.length = k)
    (hg : Gl X cx) (hm : X.mg cx = some c0)
    (hb : ∀ (E : XK) (pn : List (Addr × Obj)) (xe : Value → Shared → Prop), Passes (XC X.prog X.w) (tryCx X pn xe) E → PSs (tryCx X pn xe) body (tb E))
    (hs : ∀ ea, PSs (sufCx X ea) (b₀ :: suite) ts) (hdb : (cx == ("__debug__" : Str)) = false := by decide) :
    PS X (.Try body [.ExceptHandler (some (.Name cx np)) (some n) (b₀ :: suite) hpos] [] [] pos) (tTry X.K c0 k i tb ts) := by
  intro pins s σ H D I h
  refine wpAny_Try_except (wpAny_mono (hb _ (X.pn ++ pins) (fun e s' => ∃ σ1 H1 s1, Inv X pins σ1 H1 s1 ∧ XC X.prog X.w X.stack H1 s1 _ e s') (fun pl σ1 H1 s1 e s' J q => ⟨σ1, H1, s1, J.untry, q⟩) [] s σ H D I.tryC h) (fun f s1 q => ?_) (fun e s' q => ?_))
  · cases f with
    | next => obtain ⟨σ1, H1, J, q⟩ := q; exact wpAny_execs_nil ⟨σ1, H1, J.untry, q⟩
    | brk => obtain ⟨σ1, H1, J, q⟩ := q; exact ⟨σ1, H1, J.untry, q⟩
    | cont => obtain ⟨σ1, H1, J, q⟩ := q; exact ⟨σ1, H1, J.untry, q⟩
    | ret u => obtain ⟨v, σ1, H1, J, r, q⟩ := q; exact ⟨v, σ1, H1, J.untry, r, q⟩
  · obtain ⟨σ1, H1, s1, I1, ea, cls, a0, H', B, rfl, os, bare, un, hok, fl, cov, hn, hex, hE⟩ := q
    have fl' := fl
    rw [hst] at fl'
    refine wpAny_looks_onW (by rw [← hst]; exact I1.ok.frames) hfr fl' fun h4 held sm4 => wpAny_landsW held fun h5 fl5 sm5 => ?_
    have fl5' : Heap.FlyingW B X.stack ea cls a0 h5 := by rw [hst]; exact fl5
    have J5 := (exc_back I1 os bare un hok cov hn fl5' fl (sm4.trans sm5)).1
    obtain ⟨oe, heo, hcls⟩ := fl5.there
    have LT : PySem.W.Looks (model X.prog X.w) h5 (typeOf (.ref ea)) cls := hcls ▸ (PySem.W.Looks.ld heo).andThen .now
    refine wpAny_handleBy_cons (codeAny_handlers_test (ld_glob (X := sufCx X ea) J5.sufC hg hm ?_ hdb)) (by intro z; cases z)
    refine (PySem.W.exm_one (K := X.K) J5.kIn LT hex).here ?_
    refine codeAny_handlers_suite_as ?_
    refine lands_againW fl5 fun h6 fl6 sm6 => ?_
    have fl6' : Heap.FlyingW B X.stack ea cls a0 h6 := by rw [hst]; exact fl6
    have J6 := (exc_back I1 os bare un hok cov hn fl6' fl ((sm4.trans sm5).trans sm6)).2
    have J6b := J6.weak (σ' := blank k) (by rw [J6.len, hk]; simp [blank]) (fun j v e => by
      simp only [blank, List.getElem?_replicate] at e
      split at e <;> cases e)
    refine store_ok (X := sufCx X ea) J6b.sufC hN hi (.inl hl) (v := .ref ea) rfl (fun s7 J7 => ?_) (.inr hl)
    refine wpAny_mono (hs ea pins s7 _ _ _ J7 (hE ea hn)) (fun f s8 q => ?_) (fun _ _ z => z.elim)
    have fin : ∀ {σ8 : St} {H8 : Hp}, Inv (sufCx X ea) pins σ8 H8 s8 → (∀ s9, Inv X pins (σ8.set i none) H8 s9 → SP X pins D f s9) →
        wpAny (model X.prog X.w) X.A (do bindName X.env n .none; unbindBehindTheSuite X.env n hpos) (fun _ s9 => SP X pins D f s9) X.xe s8 := fun {σ8 H8} J8 kk => by
      have J8' := J8.unsuf I1.ok
      obtain ⟨m, hns, hloc⟩ := id J8'.loc
      refine wpAny_nameGoes_keeps hl hns (by rw [I1.ok.kind]; rfl) fun h9 v hn9 hs9 => kk _ ?_
      exact J8'.goes hN hi hns hloc hn9 hs9 _
    cases f with
    | next => obtain ⟨σ8, H8, J8, q⟩ := q; exact fin J8 fun s9 J9 => ⟨_, _, J9, q⟩
    | brk => obtain ⟨σ8, H8, J8, q⟩ := q; exact fin J8 fun s9 J9 => ⟨_, _, J9, q⟩
    | cont => obtain ⟨σ8, H8, J8, q⟩ := q; exact fin J8 fun s9 J9 => ⟨_, _, J9, q⟩
    | ret u => obtain ⟨v, σ8, H8, J8, r, q⟩ := q; exact fin J8 fun s9 J9 => ⟨v, _, _, J9, r, q⟩
theorem pe_ownX {CX : CXT} {k : Nat} {x : Str} {ps : List Str} {sp : Sp} {e : Expr} {es : List Expr} {t : TA} {p pos : Pos} {E : XK} (O : Own X.prog X.w X.K X.mg X.base CX k x ps sp) (hx : Passes CX X E) (hr : Room k X.A) (hg : Gl X x) (ha : PA X (e :: es) t) (hdb : (x == ("__debug__" : Str)) = false := by decide)
    (he : starEach (e :: es) X.env = (false, eval e X.env) :: starEach es X.env := by rfl) (hpl : (backTo pos (starEach es X.env)).any (·.1) = false := by rfl) : PE X (.Call (.Name x p) (e :: es) [] pos) (tCall sp [] E t) := by
  obtain ⟨f, fd, F, hm, hk, hb⟩ := O
  exact pe_call F hr hg hm hk hb .nil hx ha hdb he hpl
end
end L2
set_option Elab.async false
set_option linter.all false
set_option maxRecDepth 100000
set_option maxHeartbeats 4000000
namespace L2
open PySem PySem.Spec PyProof.Rows PySem.W Builtin Builtin.ObjectAttr Builtin.Getset_descriptor
section
variable {prog : Program} {w : World} {A : Around} {E : Value → Shared → Prop} {K : Frag} {x C : Addr}
structure ExcCls (K : Frag) (C : Addr) : Prop where
  ga : findIn K (.ref C) "__getattribute__" = some (some (.builtin "BaseException.__getattribute__"))
  gb : findIn K (.ref C) "__getattr__" = some none
  cl : findIn K (.ref C) "__class__" = some (some (.builtin "object.__class__"))
  gt : specialIn K (.builtin "object.__class__") "__get__" = some (some (.builtin "getset_descriptor.__get__"))
  tk : takesIn K (.builtin "object.__class__") = some true
  ob : mroIn K C (.type "object") = some true
  be : mroIn K C (.type "BaseException") = some true
  ct : (clsIn K C).isSome = true
theorem exc_find {h : Heap} {M : Model} (KX : K.In h) (T : ExcCls K C) : Looks M h (find (.ref x) (.ref C) "__class__") (.bind (.builtin "getset_descriptor.__get__") (.builtin "object.__class__")) := by
  have f1 := looks_findIn (M := M) KX T.cl
  have f2 : Looks M h (getOf (some (.builtin "object.__class__"))) (some (.builtin "getset_descriptor.__get__")) := looks_specialIn KX T.gt
  have f3 := looks_takesIn (M := M) KX T.tk
  exact f1.andThen (f2.andThen ((show Looks M h (dataDescriptor? (some (.builtin "object.__class__")) (some (.builtin "getset_descriptor.__get__"))) (some (.builtin "getset_descriptor.__get__", .builtin "object.__class__")) from f3.andThen .now).andThen (Looks.tag .now)))
theorem exc_classget {s : Shared} {R : Result → Shared → Prop} {tp : Value} (KX : K.In s.heap) (T : ExcCls K C) (LT : Looks (model prog w) s.heap (typeOf (.ref x)) (.ref C)) (q : R (.ok (.ret (.ref C))) s) :
    codeAny (model prog w) A (.call (.builtin "getset_descriptor.__get__") ⟨[.builtin "object.__class__", .ref x, tp], []⟩) R s := by
  obtain ⟨hh, gg, dr, tt, oo⟩ := s
  have L1 := looks_mroIn (M := model prog w) KX T.ob
  refine codeAny_call_builtin KF.slot_gs.plain KF.entry_gs (KF.slot_gs.check _ _ _ _ _ _ _ _ KF.type_class (KF.args_gs _ _ _) ?_)
  unfold Builtin.«getset_descriptor.__get__» descrGet; rw [dga_obj]
  refine wpAny_bind (wpAny_pure ?_); unfold descrGetter descrCheckInstance descrNameAndClass isInstance
  simp only [KF.owner_class]; repeat lk
  refine ⟨Code.quiet_builtin _ (by decide +kernel), codeAny_builtin KF.entry_class ?_⟩; unfold Builtin.«object.__class__» shownTypeOf
  repeat lk
  exact q
theorem exc_class {s : Shared} {Q : Option Value → Shared → Prop} (KX : K.In s.heap) (T : ExcCls K C) (LT : Looks (model prog w) s.heap (typeOf (.ref x)) (.ref C)) (q : Q (some (.ref C)) { s with toks := s.toks + 1 }) :
    wpAny (model prog w) A (getAttr? (.ref x) "__class__") Q E s := by
  obtain ⟨hh, gg, dr, tt, oo⟩ := s
  have L1 := looks_findIn (M := model prog w) KX T.ga
  have L2 := looks_findIn (M := model prog w) KX T.gb
  have L3 := exc_find (M := model prog w) (x := x) KX T
  have L4 := looks_mroIn (M := model prog w) KX T.be
  have hk : builtinKind "BaseException.__getattribute__" = some .slot := by decide +kernel
  have hsp : splitId "BaseException.__getattribute__" = some ("BaseException", "__getattribute__") := by decide +kernel
  unfold getAttr? getAttrBy? getAttrBy
  refine wpAny_bind (wpAny_mkText (wpAny_bind (wpAny_attempt (wpAny_holding (wpAny_bind (LT.at (wpAny_bind (L1.at ?_))))))))
  show wpAny _ _ (getAttrByItsOwn (.ref x) _ (.ref C) (.builtin "BaseException.__getattribute__") false false) _ _ _
  unfold getAttrByItsOwn hookBefore
  rw [if_pos (show onTheHeap (Value.ref C) = true from rfl)]
  refine wpAny_bind (L2.at ?_)
  refine wpAny_bind (wpAny_attempt (wpAny_holding ?_))
  unfold callGetattribute
  rw [if_neg (by simp)]
  unfold boundAndCalled
  refine wpAny_bind (wpAny_of_eq (F.excAttr_ValueError.ga.bind (.ref x)) ?_)
  refine wpAny_call (codeAny_call_builtin F.excAttr_ValueError.ga.plain F.entry_bexc_ga ?_)
  have ha := F.args_bexc_ga (.ref x) (.str "__class__" tt)
  show wpAny _ _ (checkBuiltinCall "BaseException.__getattribute__" ⟨[.ref x, .str "__class__" tt], []⟩) _ _ _
  simp only [checkBuiltinCall, hk, hsp]
  refine wpAny_bind ?_
  unfold isInstance
  refine wpAny_bind (LT.at (L4.at ?_))
  repeat (any_goals (first | assumption | with_reducible refine Looks.at (by assumption) ?_ | wp_step))
  refine exc_classget (s := ⟨hh, gg, dr, tt + 1, oo⟩) KX T LT ?_
  refine wpAny_pure ?_
  repeat (any_goals (first | assumption | wp_step))
end
section
variable {K : Frag} {x C : Addr}
theorem kitx_exc (T : ExcCls K C) : KitX K (.ref x) (.ref C) (fun h => ∃ oe, h.get? x = some oe ∧ oe.cls = .ref C) where
  ty := fun M h _ ⟨oe, e, c⟩ => c ▸ (Looks.ld e).andThen .now
  it := fun M h KX _ => by
    obtain ⟨cd, e⟩ := Option.isSome_iff_exists.mp T.ct
    unfold clsIn at e
    split at e
    · rename_i look
      intro A' Q' E' s' k q
      unfold isType loadHead; exact wpAny_bind (wpAny_loadPart (k _ _ (KX _ _ look)) (wpAny_pure q))
    · cases e
  ne := fun h tp dd its n sl KX htp => by
    obtain ⟨cd, e⟩ := Option.isSome_iff_exists.mp T.ct
    refine Bool.eq_false_iff.mpr fun z => ?_
    have ee : C = tp := Value.ref.inj (beq_iff_eq.mp z)
    subst ee
    unfold clsIn at e
    split at e
    · rename_i look
      have z2 := (KX _ _ look).symm.trans htp
      cases z2
    · cases e
  ca := fun KX ⟨oe, e, c⟩ q => exc_class KX T (c ▸ (Looks.ld e).andThen .now) q
end
def clsV : V → Value → Prop
  | .ref D, u => u = .ref D
  | .ty n, u => u = .type n
  | _, _ => False
theorem clsV.rel {v : V} {u u' : Value} (h : clsV v u) (r : RelV v u') : u' = u := by
  cases v <;> first | exact h.elim | (cases h; cases r; rfl)
def rIsx (K : Frag) : List V → Hp → VK → Prop := fun xs H Q => ∃ (ea C : Addr) (c : V) (b : Bool), xs = [.ref ea, c] ∧ H ea = some (excO ea (.ref C)) ∧ ExcCls K C ∧
  ((∃ u, clsV c u ∧ kitOne K (.ref C) u = some b) ∨ ∃ (tp : Addr) (vs : List V) (us : List Value), c = .ref tp ∧ H tp = some (.tup vs) ∧ Paired clsV vs us ∧ kitAny K (.ref C) us = some b) ∧ Q (.bl b) H
theorem paired_cls : ∀ {vs : List V} {us us' : List Value}, Paired clsV vs us → Vals vs us' → us' = us
  | _, _, _, .nil, .nil => rfl
  | _, _, _, .cons a b, .cons c d => by rw [clsV.rel a c, paired_cls b d]
theorem call_isx {X : Cx} {K : Frag} (hK : X.K = K) : CallR X (.builtin "isinstance") (rIsx K) := by
  subst hK
  intro pins s σ H xs us Q I r h
  obtain ⟨ea, C, c, b, rfl, he, T, hc, q⟩ := h
  obtain ⟨u, u', rfl, rx, ry⟩ := vals2 r
  cases rx
  have ph : ∃ oe, s.heap.get? ea = some oe ∧ oe.cls = .ref C := (show ObjOk X.prog X.w H s.heap ea (excO ea (.ref C)) from I.hok ea _ he).1
  rcases hc with ⟨v, hv, e⟩ | ⟨tp, vs, ws, rfl, htp, hp, e⟩
  · rw [hv.rel ry]
    exact kia_one (kitx_exc T) I.kIn ph e (fun z => nomatch z) fun tk => ⟨.bl b, H, I.tok _, rfl, q⟩
  · cases ry
    obtain ⟨_, its, rv, o, ho, hcls, n, hd⟩ := (show ObjOk X.prog X.w H s.heap tp (.tup vs) from I.hok tp _ htp)
    have ei := paired_cls hp rv
    subst ei
    obtain ⟨oc, od, dt, sl⟩ := o
    dsimp only at hcls hd
    subst hcls hd
    exact kia_tup (kitx_exc T) I.kIn ph ho e (fun z => nomatch z) fun tk => ⟨.bl b, H, I.tok _, rfl, q⟩
end L2
set_option Elab.async false
set_option linter.all false
set_option maxRecDepth 100000
set_option maxHeartbeats 4000000
namespace L2
open PySem PySem.Spec PyProof.Rows
abbrev bmV : List Value := [.type "ValueError", .type "Exception", .type "BaseException", .type "object"]
section
variable {X : Cx} {pins : List (Addr × Obj)} {σ : St} {H : Hp} {s : Shared}
theorem Inv.laidN {a : Addr} {o : HO} {h' : Heap} {t' : Nat} (I : Inv X pins σ H s) (k : ∀ b u, s.heap.get? b = some u → h'.get? b = some u) (hp : s.heap.get? a = none) (new : ObjOk X.prog X.w (upd H a o) h' a o) :
    H a = none ∧ Inv X pins σ (upd H a o) { s with heap := h', toks := t' } := by
  have hn : H a = none := by
    cases z : H a with
    | none => rfl
    | some u =>
      obtain ⟨ob, e⟩ := (I.hok a u z).has
      rw [hp] at e; cases e
  refine ⟨hn, I.un ⟨fun b u q _ _ _ => k b u q, fun b u q _ _ _ => ⟨u.slots, k b u q⟩, fun b u q n _ => ?_, fun b u q _ => ⟨u, k b u q⟩, fun b xs q => ?_, fun b u xs q => ?_, fun b ps q => ?_⟩ fun b u e => ?_⟩
  · rw [upd_ne (fun z => by rw [z, hp] at q; cases q)]; exact n
  · rw [upd_ne (ne_of_none q hn)]; exact q
  · rw [upd_ne (ne_of_none q hn)]; exact q
  · exact ⟨#[], by rw [upd_ne (ne_of_none q hn), q]; simp⟩
  · by_cases hb : b = a
    · subst hb
      rw [upd_same] at e; cases e; exact new
    · rw [upd_ne hb] at e
      exact (I.hok b u e).stay (fun c v _ q => k c v q) (fun c q => by rw [upd_ne (ne_of_none q hn)]; exact q) fun c xs q => by rw [upd_ne (ne_of_none q hn)]; exact q
end
section
variable {X : Cx} {K : PySem.W.Frag} {C : Addr} {x : Str} {e : Expr} {es : List Expr} {t : TA} {p pos : Pos}
end
structure RoomU (k : Nat) (A : Around) : Prop where
  dp : A.depth + 3 * k + 5 < recursionLimit
  un : A.units + 16 * k + 200 < cLine
theorem Room.toU {k : Nat} {A : Around} (r : Room k A) : RoomU k A := ⟨r.dp, r.un⟩
theorem RoomU.mono {j k : Nat} {A : Around} (r : RoomU k A) (h : j ≤ k) : RoomU j A := ⟨by have := r.dp; omega, by have := r.un; omega⟩
theorem RoomU.units {k : Nat} {A : Around} (r : RoomU k A) : A.units + 64 < cLine := by have := r.un; omega
structure FnU (P : Program) (w : World) (K : PySem.W.Frag) (mg : Str → Option Value) (base : Heap) (CX : CXT) (k : Nat) (f : Addr) (fd : FuncData) (ps : List Str) (sp : Sp) : Prop where
  len : ∀ vs H Q E, sp vs H Q E → vs.length = ps.length
  run : ∀ (A : Around) (outer : List Env) (s : Shared) (H : Hp) (args : Args) (us : List Value) (vs : List V) (Q : VK) (E : XK), RoomU k A → Env0 P w K mg base A outer s H → BindsTo s fd args (ps.zip us) → Vals vs us → sp vs H Q E →
    codeAny (model P w) A (.call (.ref f) args) (CR CX outer P w H s Q E) s
theorem FnU.ok {P : Program} {w : World} {K : PySem.W.Frag} {mg : Str → Option Value} {base : Heap} {CX : CXT} {k : Nat} {f : Addr} {fd : FuncData} {ps : List Str} {sp : Sp} (F : FnU P w K mg base CX k f fd ps sp) : FnOk P w K mg base CX k f fd ps sp :=
  ⟨F.len, fun A outer s H args us vs Q E hr => F.run A outer s H args us vs Q E hr.toU⟩
abbrev cxU (CX : CXT) (P : Program) (w : World) (K : PySem.W.Frag) (mg : Str → Option Value) (base : Heap) (N : List Str) (qual : Str) (scope : Scope) (f : Addr) (cd : Value) (A : Around) (outer : List Env) (s : Shared) (H : Hp) (E : XK) : Cx :=
  { cxOf CX P w K mg base N qual scope f cd A outer s H E with calm := false, xe := fun _ _ => False }
section
variable {P : Program} {w : World} {K : PySem.W.Frag} {mg : Str → Option Value} {base : Heap} {CX : CXT}
theorem Fun.okU {x qual : Str} {st : Stmt} {f : Addr} {fd : FuncData} {N ps : List Str} {k : Nat} {sp : Sp} (F : Fun K x qual st f fd) (S : FnScope N ps (defScope st)) (len : ∀ vs H Q E, sp vs H Q E → vs.length = ps.length)
    (hbody : ∀ (cdv : Value) (A : Around) (outer : List Env) (s : Shared) (H : Hp) (vs : List V) (Q : VK) (E : XK), RoomU k (A.deeper (envOfC qual (defScope st) s.heap.objs.size f cdv)) → sp vs H Q E →
      ∃ t, PSs (cxU CX P w K mg base N qual (defScope st) f cdv A outer s H E) (defBody st) t ∧ t { nx := fun _ H' => Q .non H', rt := Q } (start N vs) H) : FnU P w K mg base CX (k + 1) f fd ps sp := by
  obtain ⟨oc, od, kV, doc, pm, an, cdv, ct, osl, rfl, lk, hcd⟩ := F.ex
  refine ⟨len, fun A outer s H args us vs Q E hr e0 hb r hsp => ?_⟩
  have hl := len _ _ _ _ hsp
  have KX : K.In s.heap := e0.mod.kin.keeps fun b o e => (e0.bs b o e).1
  have lim : s.heap.NoLimit := e0.mod.nolimit.keeps fun b o e => (e0.bs b o e).1
  have hkind : ∀ y ∈ ps.zip us, (defScope st).names.lookup y.1 = some .local ∨ ((defScope st).names.lookup y.1 = some .cell ∧ ((cellsFrom (s.heap.objs.size + 1) (defScope st).names []).lookup y.1).isSome = true) := fun ⟨n, v⟩ hy => by
    rcases S.par n (List.of_mem_zip hy).1 with q | q
    · exact .inl q
    · exact .inr ⟨q, PySem.W.cellsFrom_some _ _ _ (.inl q)⟩
  refine codeAny_call_function (by have := hr.dp; omega) (KX _ _ lk) rfl S.co S.gen rfl (PySem.W.codeRec_of KX hcd) (hb _ _ _ _ ?_)
  refine wpAny_newFunctionEnv_cells S.kind hkind fun env he s1 x => ?_
  subst he
  refine ⟨lim.keeps x.toInCall.keep, codeAny_func ?_⟩
  have hr' : RoomU k (A.deeper (envOfC qual (defScope st) s.heap.objs.size f cdv)) := ⟨by have := hr.dp; show A.depth + 1 + 3 * k + 5 < _; omega, by have := hr.un; show A.units + 3 + 16 * k + 200 < _; omega⟩
  obtain ⟨t, ht, hq⟩ := hbody cdv A outer s H vs Q E hr' hsp
  have I0 : Inv (cxOf CX P w K mg base N qual (defScope st) f cdv { A with handled := none } outer s H E) [] (start N vs) H s1 := inv_start S rfl ⟨e0.frames, e0.mod, e0.bs, e0.bsz, e0.funs, e0.frf, e0.hok, e0.bare⟩ hl r x
  have o := I0.ok
  have fr : (A.deeper (envOfC qual (defScope st) s.heap.objs.size f cdv)).frames = some (envOfC qual (defScope st) s.heap.objs.size f cdv :: outer) := Around.frames_deeper e0.frames
  have I : Inv (cxU CX P w K mg base N qual (defScope st) f cdv A outer s H E) [] (start N vs) H s1 :=
    ⟨⟨o.mod, o.kind, o.glob, o.blt, o.above, o.inj, o.has, o.cab, (fun z => nomatch z), fr, o.stk, o.exf, o.bs, o.bsz, o.noex, o.exfs, o.funs, o.frf⟩, I0.os, I0.bare, I0.base, I0.loc, I0.cell, I0.free, I0.freeC, I0.pin, I0.hok, I0.len⟩
  refine wpAny_mono (ht [] s1 (start N vs) H _ I hq) (fun fl s' hs => ?_) fun e s' hs => hs.elim
  have fin : ∀ {σ' : St} {H' : Hp} {v : V} {u : Value}, Inv (cxU CX P w K mg base N qual (defScope st) f cdv A outer s H E) [] σ' H' s' → RelV v u → Q v H' → CE outer P w H s Q u s' :=
    fun {σ' H' v u} J rv q => ⟨v, H', J.os, J.bare, J.base, J.hok, rv, q⟩
  cases fl with
  | ret u => obtain ⟨v, σ', H', J, rv, q⟩ := hs; exact fin J rv q
  | next => obtain ⟨σ', H', J, q⟩ := hs; exact fin (v := V.non) (u := Value.none) J rfl q
  | brk => obtain ⟨_, _, _, q⟩ := hs; exact False.elim q
  | cont => obtain ⟨_, _, _, q⟩ := hs; exact False.elim q
end
def OwnU (P : Program) (w : World) (K : PySem.W.Frag) (mg : Str → Option Value) (base : Heap) (CX : CXT) (k : Nat) (x : Str) (ps : List Str) (sp : Sp) : Prop :=
  ∃ (f : Addr) (fd : FuncData), FnU P w K mg base CX k f fd ps sp ∧ mg x = some (.ref f) ∧ PySem.W.keepIn K (.ref f) = true ∧ Binds K fd ps []
theorem OwnU.own {P : Program} {w : World} {K : PySem.W.Frag} {mg : Str → Option Value} {base : Heap} {CX : CXT} {k : Nat} {x : Str} {ps : List Str} {sp : Sp} (O : OwnU P w K mg base CX k x ps sp) : Own P w K mg base CX k x ps sp :=
  let ⟨f, fd, F, r⟩ := O; ⟨f, fd, F.ok, r⟩
section
variable {X : Cx} {CX : CXT} {k : Nat} {x : Str} {ps : List Str} {sp : Sp} {e : Expr} {es : List Expr} {t : TA} {p pos : Pos}
theorem pe_ownU (O : OwnU X.prog X.w X.K X.mg X.base CX k x ps sp) (hX : NoX CX) (hr : RoomU k X.A) (hg : Gl X x) (ha : PA X (e :: es) t) (hdb : (x == ("__debug__" : Str)) = false := by decide)
    (he : starEach (e :: es) X.env = (false, eval e X.env) :: starEach es X.env := by rfl) (hpl : (backTo pos (starEach es X.env)).any (·.1) = false := by rfl) : PE X (.Call (.Name x p) (e :: es) [] pos) (tCall sp [] E0 t) := by
  obtain ⟨f, fd, F, hm, hk, hb⟩ := O
  intro pins s σ H Q I h
  refine wpAny_Call_Name_kw (ld_glob I hg hm ?_ hdb)
  refine PySem.W.callWith_K (h₀ := X.base) I.ok.mod.kin hk (thn (ha pos pins s σ H _ I h) fun us s1 ⟨vs, H1, I1, r, q⟩ => ⟨I1.kIn, ?_⟩) he hpl
  have hl : us.length = ps.length := by rw [← r.length, ← F.len _ _ _ _ q]; simp
  have bnd := hb s1 us I1.kIn (by simpa using hl)
  rw [List.append_nil] at bnd
  have q' : sp vs H1 Q E0 := by simpa using q
  refine wpAny_call (codeAny_mono (F.run X.A X.stack s1 H1 ⟨us, []⟩ us vs Q E0 hr I1.env0 bnd r q') fun r s' hq => ?_)
  cases r with
  | error e => exact (hX _ _ _ _ _ hq).elim
  | ok fl =>
    cases fl with
    | ret u => exact I1.after hq
    | next => exact False.elim hq
    | brk => exact False.elim hq
    | cont => exact False.elim hq
end
end L2
set_option Elab.async false
set_option linter.all false
set_option maxRecDepth 100000
set_option maxHeartbeats 4000000
namespace L2
open PySem PySem.Spec PyProof.Rows
mutual
theorem Is.same {K : PySem.W.Frag} {H H' : Hp} (s : Same H H') : ∀ {v : V} {d : PyData}, Is K H v d → Is K H' v d
  | _, _, .non => .non
  | _, _, .bl b => .bl b
  | _, _, .int i => .int i
  | _, _, .str x => .str x
  | _, _, .lst h hs => .lst (Same.seq s h) (IsAll.same s hs)
  | _, _, .tup h hs => .tup (by
      rcases h with (e | ⟨o, e⟩) | e
      · exact .inl (.inl (s _ _ e))
      · exact .inl (.inr ⟨o, s _ _ e⟩)
      · exact .inr e) (IsAll.same s hs)
  | _, _, .dc h => .dc (s _ _ h)
theorem IsAll.same {K : PySem.W.Frag} {H H' : Hp} (s : Same H H') : ∀ {vs : List V} {ds : List PyData}, IsAll K H vs ds → IsAll K H' vs ds
  | _, _, .nil => .nil
  | _, _, .cons h hs => .cons (Is.same s h) (IsAll.same s hs)
end
theorem IsAll.len {K : PySem.W.Frag} {H : Hp} : ∀ {vs : List V} {ds : List PyData}, IsAll K H vs ds → vs.length = ds.length
  | _, _, .nil => rfl
  | _, _, .cons _ hs => by simp [IsAll.len hs]
theorem IsAll.get {K : PySem.W.Frag} {H : Hp} : ∀ {vs : List V} {ds : List PyData} {i : Nat} {v : V}, IsAll K H vs ds → vs[i]? = some v → ∃ d, ds[i]? = some d ∧ Is K H v d
  | _, _, _, _, .nil, e => by simp at e
  | _, _, 0, _, .cons h _, e => by simp at e; subst e; exact ⟨_, rfl, h⟩
  | _, _, i + 1, v, .cons _ t, e => by
    obtain ⟨u, h1, h2⟩ := IsAll.get (i := i) (v := v) t (by simpa using e)
    exact ⟨u, by simpa using h1, h2⟩
theorem IsAll.get' {K : PySem.W.Frag} {H : Hp} : ∀ {vs : List V} {ds : List PyData} {i : Nat} {d : PyData}, IsAll K H vs ds → ds[i]? = some d → ∃ v, vs[i]? = some v ∧ Is K H v d
  | _, _, _, _, .nil, e => by simp at e
  | _, _, 0, _, .cons h _, e => by simp at e; subst e; exact ⟨_, rfl, h⟩
  | _, _, i + 1, v, .cons _ t, e => by
    obtain ⟨u, h1, h2⟩ := IsAll.get' (i := i) (d := v) t (by simpa using e)
    exact ⟨u, by simpa using h1, h2⟩
theorem IsAll.snoc {K : PySem.W.Frag} {H : Hp} {v : V} {d : PyData} (h : Is K H v d) : ∀ {vs : List V} {ds : List PyData}, IsAll K H vs ds → IsAll K H (vs ++ [v]) (ds ++ [d])
  | _, _, .nil => .cons h .nil
  | _, _, .cons a b => .cons a (IsAll.snoc h b)
theorem IsAll.app {K : PySem.W.Frag} {H : Hp} {us : List V} {es : List PyData} (h : IsAll K H us es) : ∀ {vs : List V} {ds : List PyData}, IsAll K H vs ds → IsAll K H (vs ++ us) (ds ++ es)
  | _, _, .nil => h
  | _, _, .cons a b => .cons a (IsAll.app h b)
theorem IsAll.drop {K : PySem.W.Frag} {H : Hp} : ∀ {vs : List V} {ds : List PyData} (n : Nat), IsAll K H vs ds → IsAll K H (vs.drop n) (ds.drop n)
  | _, _, 0, h => h
  | _, _, _ + 1, .nil => .nil
  | _, _, n + 1, .cons _ t => IsAll.drop n t
theorem IsAll.take {K : PySem.W.Frag} {H : Hp} : ∀ {vs : List V} {ds : List PyData} (n : Nat), IsAll K H vs ds → IsAll K H (vs.take n) (ds.take n)
  | _, _, 0, h => .nil
  | _, _, _ + 1, .nil => .nil
  | _, _, n + 1, .cons h t => .cons h (IsAll.take n t)
theorem IsAll.rev {K : PySem.W.Frag} {H : Hp} : ∀ {vs : List V} {ds : List PyData}, IsAll K H vs ds → IsAll K H vs.reverse ds.reverse
  | _, _, .nil => .nil
  | _, _, .cons h t => by simpa using IsAll.snoc h (IsAll.rev t)
theorem IsAll.ints_of {K : PySem.W.Frag} {H : Hp} : ∀ {vs : List V} {ns : List Int}, IsAll K H vs (ns.map PyData.int) → vs = ns.map V.int
  | _, [], .nil => rfl
  | _, _ :: _, .cons h t => by cases h; rw [IsAll.ints_of t]; rfl
theorem IsAll.bools_of {K : PySem.W.Frag} {H : Hp} : ∀ {vs : List V} {ns : List Bool}, IsAll K H vs (ns.map PyData.bool) → vs = ns.map V.bl
  | _, [], .nil => rfl
  | _, _ :: _, .cons h t => by cases h; rw [IsAll.bools_of t]; rfl
structure Stb where
  R : V → Hp → Prop
  st : ∀ v H H', Same H H' → R v H → R v H'
inductive En where
  | d (x : PyData)
  | m (a : Addr)
  | x (r : Stb)
  | ty (n : String)
inductive MO where
  | pot (M : Int)
  | lst (ds : List PyData)
  | refs (as : List Addr)
abbrev Mu := List (Addr × MO)
def mask (μ : Mu) (H : Hp) : Hp := fun a => if a ∈ μ.map Prod.fst then none else H a
theorem mask_nil {H : Hp} : mask [] H = H := by funext a; simp [mask]
theorem mask_le {μ : Mu} {H : Hp} : Same (mask μ H) H := fun b o e => by
  unfold mask at e
  split at e
  · cases e
  · exact e
theorem mask_some {μ : Mu} {H : Hp} {b : Addr} {o : HO} (e : mask μ H b = some o) : b ∉ μ.map Prod.fst ∧ H b = some o := by
  unfold mask at e
  split at e
  · cases e
  · exact ⟨by assumption, e⟩
theorem mask_of {μ : Mu} {H : Hp} {b : Addr} (h : b ∉ μ.map Prod.fst) : mask μ H b = H b := by unfold mask; rw [if_neg h]
theorem mask_sub {μ μ' : Mu} {H : Hp} (h : ∀ a, a ∈ μ'.map Prod.fst → a ∈ μ.map Prod.fst) : Same (mask μ H) (mask μ' H) := fun b o e => by
  obtain ⟨h1, h2⟩ := mask_some e
  rw [mask_of (fun z => h1 (h _ z))]; exact h2
def IsE (K : PySem.W.Frag) (μ : Mu) (H : Hp) (v : V) : En → Prop
  | .d x => Is K (mask μ H) v x
  | .m a => v = .ref a
  | .x r => r.R v (mask μ H)
  | .ty n => v = .ty n
theorem IsE.same {K : PySem.W.Frag} {μ μ' : Mu} {H H' : Hp} {v : V} {e : En} (s : Same (mask μ H) (mask μ' H')) (h : IsE K μ H v e) : IsE K μ' H' v e := by
  cases e with
  | d x => exact Is.same s h
  | m a => exact h
  | x r => exact r.st _ _ _ s h
  | ty n => exact h
def ObjR (K : PySem.W.Frag) (μ : Mu) (H : Hp) (a : Addr) : MO → Prop
  | .pot M => Pot M H a
  | .lst ds => ∃ xs, H a = some (.lst xs) ∧ IsAll K (mask μ H) xs ds
  | .refs as => H a = some (.lst (as.map V.ref))
theorem ObjR.some {K : PySem.W.Frag} {μ : Mu} {H : Hp} {a : Addr} {o : MO} (h : ObjR K μ H a o) : ∃ xs, H a = some (.lst xs) := by
  cases o with
  | pot M => obtain ⟨p0, p1, e, _⟩ := h; exact ⟨_, e⟩
  | lst ds => obtain ⟨xs, e, _⟩ := h; exact ⟨_, e⟩
  | refs as => exact ⟨_, h⟩
structure RelM (K : PySem.W.Frag) (μ : Mu) (H : Hp) : Prop where
  nd : (μ.map Prod.fst).Nodup
  ob : ∀ a o, (a, o) ∈ μ → ObjR K μ H a o
theorem RelM.nil {K : PySem.W.Frag} {H : Hp} : RelM K [] H := ⟨by simp, fun _ _ h => nomatch h⟩
theorem ObjR.same {K : PySem.W.Frag} {μ μ' : Mu} {H H' : Hp} {a : Addr} {o : MO} (s : Same (mask μ H) (mask μ' H')) (e : H' a = H a) (h : ObjR K μ H a o) : ObjR K μ' H' a o := by
  cases o with
  | pot M => obtain ⟨p0, p1, q, r⟩ := h; exact ⟨p0, p1, e.trans q, r⟩
  | lst ds => obtain ⟨xs, q, r⟩ := h; exact ⟨xs, e.trans q, IsAll.same s r⟩
  | refs as => exact e.trans h
theorem RelM.same {K : PySem.W.Frag} {μ : Mu} {H H' : Hp} (h : RelM K μ H) (s : Same H H') : RelM K μ H' ∧ Same (mask μ H) (mask μ H') := by
  have ss : Same (mask μ H) (mask μ H') := fun b o e => by
    obtain ⟨h1, h2⟩ := mask_some e
    rw [mask_of h1]; exact s _ _ h2
  refine ⟨⟨h.nd, fun a o ho => ?_⟩, ss⟩
  have := h.ob a o ho
  obtain ⟨xs, e⟩ := this.some
  exact this.same ss ((s _ _ e).trans e.symm)
theorem RelM.laid {K : PySem.W.Frag} {μ : Mu} {H : Hp} {p : Addr} {o : HO} (h : RelM K μ H) (e : H p = none) : RelM K μ (upd H p o) ∧ Same (mask μ H) (mask μ (upd H p o)) ∧ p ∉ μ.map Prod.fst := by
  obtain ⟨h1, h2⟩ := h.same (Same.upd (o := o) e)
  refine ⟨h1, h2, fun z => ?_⟩
  obtain ⟨⟨a, q⟩, hq, rfl⟩ := List.mem_map.mp z
  obtain ⟨xs, e'⟩ := (h.ob a q hq).some
  rw [e'] at e; cases e
theorem mem_key {μ : Mu} {a : Addr} {o : MO} (h : (a, o) ∈ μ) : a ∈ μ.map Prod.fst := List.mem_map.mpr ⟨_, h, rfl⟩
theorem RelM.write {K : PySem.W.Frag} {μ1 μ2 : Mu} {H H' : Hp} {a : Addr} {o o' : MO} (h : RelM K (μ1 ++ (a, o) :: μ2) H) (k : ∀ b u, H b = some u → b ≠ a → H' b = some u)
    (new : Same (mask (μ1 ++ (a, o) :: μ2) H) (mask (μ1 ++ (a, o') :: μ2) H') → ObjR K (μ1 ++ (a, o') :: μ2) H' a o') :
    RelM K (μ1 ++ (a, o') :: μ2) H' ∧ Same (mask (μ1 ++ (a, o) :: μ2) H) (mask (μ1 ++ (a, o') :: μ2) H') := by
  have ks : (μ1 ++ (a, o') :: μ2).map Prod.fst = (μ1 ++ (a, o) :: μ2).map Prod.fst := by simp
  have ss : Same (mask (μ1 ++ (a, o) :: μ2) H) (mask (μ1 ++ (a, o') :: μ2) H') := fun b u e => by
    obtain ⟨h1, h2⟩ := mask_some e
    rw [mask_of (by rw [ks]; exact h1)]
    exact k b u h2 fun z => h1 (by rw [z]; simp)
  refine ⟨⟨by rw [ks]; exact h.nd, fun b q hq => ?_⟩, ss⟩
  have nd := h.nd
  simp only [List.map_append, List.map_cons, List.nodup_append, List.nodup_cons] at nd
  have hcase : (b, q) = (a, o') ∨ ((b, q) ∈ μ1 ++ (a, o) :: μ2 ∧ b ≠ a) := by
    rcases List.mem_append.mp hq with z | z
    · exact .inr ⟨List.mem_append_left _ z, fun e => nd.2.2 b (mem_key z) a (by simp) e⟩
    · rcases List.mem_cons.mp z with z | z
      · exact .inl z
      · exact .inr ⟨List.mem_append_right _ (List.mem_cons_of_mem _ z), fun e => nd.2.1.1 (e ▸ mem_key z)⟩
  rcases hcase with z | ⟨z, hne⟩
  · cases z; exact new ss
  · have := h.ob b q z
    obtain ⟨xs, e⟩ := this.some
    exact this.same ss ((k b _ e hne).trans e.symm)
theorem RelM.drop {K : PySem.W.Frag} {μ1 μ2 : Mu} {H : Hp} {a : Addr} {o : MO} (h : RelM K (μ1 ++ (a, o) :: μ2) H) : RelM K (μ1 ++ μ2) H ∧ Same (mask (μ1 ++ (a, o) :: μ2) H) (mask (μ1 ++ μ2) H) ∧ a ∉ (μ1 ++ μ2).map Prod.fst := by
  have nd := h.nd
  have ss : Same (mask (μ1 ++ (a, o) :: μ2) H) (mask (μ1 ++ μ2) H) := mask_sub fun b hb => by
    simp only [List.map_append, List.map_cons, List.mem_append, List.mem_cons] at *
    rcases hb with z | z
    · exact .inl z
    · exact .inr (.inr z)
  simp only [List.map_append, List.map_cons, List.nodup_append, List.nodup_cons] at nd
  refine ⟨⟨?_, fun b q hq => ?_⟩, ss, ?_⟩
  · simp only [List.map_append, List.nodup_append]
    exact ⟨nd.1, nd.2.1.2, fun x hx y hy => nd.2.2 x hx y (List.mem_cons_of_mem _ hy)⟩
  · have : (b, q) ∈ μ1 ++ (a, o) :: μ2 := by
      rcases List.mem_append.mp hq with z | z
      · exact List.mem_append_left _ z
      · exact List.mem_append_right _ (List.mem_cons_of_mem _ z)
    exact (h.ob b q this).same ss rfl
  · simp only [List.map_append, List.mem_append, not_or]
    exact ⟨fun z => nd.2.2 a z a (by simp) rfl, nd.2.1.1⟩
theorem RelM.new {K : PySem.W.Frag} {μ : Mu} {H : Hp} {p : Addr} {u : HO} {o : MO} (h : RelM K μ H) (e : H p = none) (new : Same (mask μ H) (mask ((p, o) :: μ) (upd H p u)) → ObjR K ((p, o) :: μ) (upd H p u) p o) :
    RelM K ((p, o) :: μ) (upd H p u) ∧ Same (mask μ H) (mask ((p, o) :: μ) (upd H p u)) := by
  obtain ⟨h1, h2, h3⟩ := h.laid (o := u) e
  have ss : Same (mask μ H) (mask ((p, o) :: μ) (upd H p u)) := fun b q z => by
    obtain ⟨z1, z2⟩ := mask_some z
    have hb : b ≠ p := ne_of_none z2 e
    rw [mask_of (by simp only [List.map_cons, List.mem_cons, not_or]; exact ⟨hb, z1⟩), upd_ne hb]; exact z2
  refine ⟨⟨by simp only [List.map_cons, List.nodup_cons]; exact ⟨h3, h.nd⟩, fun b q hq => ?_⟩, ss⟩
  rcases List.mem_cons.mp hq with z | z
  · cases z; exact new ss
  · have := h.ob b q z
    obtain ⟨xs, e'⟩ := this.some
    exact this.same ss (upd_ne (ne_of_none e' e))
abbrev Rho := List (Option En)
structure RelS (K : PySem.W.Frag) (ρ : Rho) (μ : Mu) (σ : St) (H : Hp) : Prop where
  len : ρ.length = σ.length
  get : ∀ (i : Nat) (e : En), ρ[i]? = some (some e) → ∃ v, σ[i]? = some (some v) ∧ IsE K μ H v e
theorem RelS.same {K : PySem.W.Frag} {ρ : Rho} {μ μ' : Mu} {σ : St} {H H' : Hp} (h : RelS K ρ μ σ H) (s : Same (mask μ H) (mask μ' H')) : RelS K ρ μ' σ H' :=
  ⟨h.len, fun i e q => let ⟨v, e1, e2⟩ := h.get i e q; ⟨v, e1, e2.same s⟩⟩
theorem RelS.set {K : PySem.W.Frag} {ρ : Rho} {μ : Mu} {σ : St} {H : Hp} {i : Nat} {v : V} {e : En} (h : RelS K ρ μ σ H) (r : IsE K μ H v e) : RelS K (ρ.set i (some e)) μ (σ.set i (some v)) H := by
  refine ⟨by simp [h.len], fun j x q => ?_⟩
  by_cases hj : i = j
  · subst hj
    have hi : i < ρ.length := by
      have := (List.getElem?_eq_some_iff.mp q).1
      simpa using this
    rw [List.getElem?_set_self (by rw [← h.len]; exact hi)]
    rw [List.getElem?_set_self hi] at q
    cases q
    exact ⟨v, rfl, r⟩
  · rw [List.getElem?_set_ne hj] at *
    exact h.get j x q
def Wk (ρ : Rho) (μ : Mu) (ρ' : Rho) (μ' : Mu) : Prop := ∀ (K : PySem.W.Frag) (σ : St) (H : Hp), RelS K ρ μ σ H → RelM K μ H → RelS K ρ' μ' σ H ∧ RelM K μ' H ∧ Same (mask μ H) (mask μ' H)
theorem Wk.refl {ρ : Rho} {μ : Mu} : Wk ρ μ ρ μ := fun _ _ _ h1 h2 => ⟨h1, h2, Same.refl _⟩
theorem Wk.trans {ρ ρ1 ρ2 : Rho} {μ μ1 μ2 : Mu} (h : Wk ρ μ ρ1 μ1) (h' : Wk ρ1 μ1 ρ2 μ2) : Wk ρ μ ρ2 μ2 := fun K σ H a b => by
  obtain ⟨a1, b1, s1⟩ := h K σ H a b
  obtain ⟨a2, b2, s2⟩ := h' K σ H a1 b1
  exact ⟨a2, b2, s1.trans s2⟩
def Lt (ρ' ρ : Rho) : Prop := ρ'.length = ρ.length ∧ ∀ (i : Nat) (e : En), ρ'[i]? = some (some e) → ρ[i]? = some (some e)
theorem Wk.names {ρ ρ' : Rho} {μ : Mu} (h : Lt ρ' ρ) : Wk ρ μ ρ' μ := fun _ _ _ h1 h2 => ⟨⟨h.1.trans h1.len, fun i e q => h1.get i e (h.2 i e q)⟩, h2, Same.refl _⟩
theorem Wk.drop {ρ : Rho} {μ1 μ2 : Mu} {a : Addr} {o : MO} : Wk ρ (μ1 ++ (a, o) :: μ2) ρ (μ1 ++ μ2) := fun _ _ _ h1 h2 => by
  obtain ⟨x, y, _⟩ := h2.drop
  exact ⟨h1.same y, x, y⟩
theorem Lt.nil : Lt [] [] := ⟨rfl, fun i e h => h⟩
theorem Lt.forget {ρ' ρ : Rho} {e : Option En} (h : Lt ρ' ρ) : Lt (none :: ρ') (e :: ρ) := ⟨by simp [h.1], fun i x q => by
  cases i with
  | zero => simp at q
  | succ i => simp at q; simpa using h.2 i x q⟩
theorem Lt.keep {ρ' ρ : Rho} {e : Option En} (h : Lt ρ' ρ) : Lt (e :: ρ') (e :: ρ) := ⟨by simp [h.1], fun i x q => by
  cases i with
  | zero => simpa using q
  | succ i => simp at q; simpa using h.2 i x q⟩
theorem Lt.refl (ρ : Rho) : Lt ρ ρ := ⟨rfl, fun i e h => h⟩
abbrev TEd := Rho → Mu → (En → Mu → Prop) → Prop
abbrev TTd := Rho → Mu → (Bool → Mu → Prop) → Prop
abbrev TAd := Rho → Mu → (List En → Mu → Prop) → Prop
structure EndsD where
  nx : Rho → Mu → Prop
  rt : En → Mu → Prop
  bk : Rho → Mu → Prop := fun _ _ => False
  ct : Rho → Mu → Prop := fun _ _ => False
abbrev TSd := EndsD → Rho → Mu → Prop
def Cl (K : PySem.W.Frag) (μ : Mu) (H : Hp) (Q0 : En → Mu → Prop) (Q : VK) : Prop := ∀ e μ' v H', Q0 e μ' → RelM K μ' H' → Same (mask μ H) (mask μ' H') → IsE K μ' H' v e → Q v H'
def ClT (K : PySem.W.Frag) (μ : Mu) (H : Hp) (Q0 : Bool → Mu → Prop) (Q : Bool → Hp → Prop) : Prop := ∀ b μ' H', Q0 b μ' → RelM K μ' H' → Same (mask μ H) (mask μ' H') → Q b H'
def ClA (K : PySem.W.Frag) (μ : Mu) (H : Hp) (Q0 : List En → Mu → Prop) (Q : List V → Hp → Prop) : Prop := ∀ es μ' vs H', Q0 es μ' → RelM K μ' H' → Same (mask μ H) (mask μ' H') → Paired (IsE K μ' H') vs es → Q vs H'
def ClR (K : PySem.W.Frag) (μ : Mu) (H : Hp) (Q0 : Rho → Mu → Prop) (Q : St → Hp → Prop) : Prop := ∀ ρ' μ' σ' H', Q0 ρ' μ' → RelS K ρ' μ' σ' H' → RelM K μ' H' → Same (mask μ H) (mask μ' H') → Q σ' H'
structure ClS (K : PySem.W.Frag) (μ : Mu) (H : Hp) (D0 : EndsD) (D : Ends) : Prop where
  nx : ClR K μ H D0.nx D.nx
  rt : Cl K μ H D0.rt D.rt
  bk : ClR K μ H D0.bk D.bk
  ct : ClR K μ H D0.ct D.ct
theorem Cl.same {K : PySem.W.Frag} {μ μ1 : Mu} {H H1 : Hp} {Q0 : En → Mu → Prop} {Q : VK} (h : Cl K μ H Q0 Q) (s : Same (mask μ H) (mask μ1 H1)) : Cl K μ1 H1 Q0 Q := fun e μ' v H' a b c d => h e μ' v H' a b (s.trans c) d
theorem ClT.same {K : PySem.W.Frag} {μ μ1 : Mu} {H H1 : Hp} {Q0 : Bool → Mu → Prop} {Q : Bool → Hp → Prop} (h : ClT K μ H Q0 Q) (s : Same (mask μ H) (mask μ1 H1)) : ClT K μ1 H1 Q0 Q := fun e μ' H' a b c => h e μ' H' a b (s.trans c)
theorem ClR.same {K : PySem.W.Frag} {μ μ1 : Mu} {H H1 : Hp} {Q0 : Rho → Mu → Prop} {Q : St → Hp → Prop} (h : ClR K μ H Q0 Q) (s : Same (mask μ H) (mask μ1 H1)) : ClR K μ1 H1 Q0 Q := fun e μ' v H' a b c d => h e μ' v H' a b c (s.trans d)
theorem ClS.same {K : PySem.W.Frag} {μ μ1 : Mu} {H H1 : Hp} {D0 : EndsD} {D : Ends} (h : ClS K μ H D0 D) (s : Same (mask μ H) (mask μ1 H1)) : ClS K μ1 H1 D0 D := ⟨h.nx.same s, h.rt.same s, h.bk.same s, h.ct.same s⟩
def up (K : PySem.W.Frag) (t : TEd) : TE := fun σ H Q => ∃ ρ μ Q0, RelS K ρ μ σ H ∧ RelM K μ H ∧ t ρ μ Q0 ∧ Cl K μ H Q0 Q
def upT (K : PySem.W.Frag) (t : TTd) : TT := fun σ H Q => ∃ ρ μ Q0, RelS K ρ μ σ H ∧ RelM K μ H ∧ t ρ μ Q0 ∧ ClT K μ H Q0 Q
def upA (K : PySem.W.Frag) (t : TAd) : TA := fun σ H Q => ∃ ρ μ Q0, RelS K ρ μ σ H ∧ RelM K μ H ∧ t ρ μ Q0 ∧ ClA K μ H Q0 Q
def upS (K : PySem.W.Frag) (t : TSd) : TS := fun D σ H => ∃ ρ μ D0, RelS K ρ μ σ H ∧ RelM K μ H ∧ t D0 ρ μ ∧ ClS K μ H D0 D
def DE (K : PySem.W.Frag) (X : Cx) (e : Expr) (t : TEd) : Prop := PE X e (up K t)
def DT (K : PySem.W.Frag) (X : Cx) (e : Expr) (t : TTd) : Prop := PT X e (upT K t)
def DW (K : PySem.W.Frag) (X : Cx) (e : Expr) (t : TTd) : Prop := PW X e (upT K t)
def DA (K : PySem.W.Frag) (X : Cx) (es : List Expr) (t : TAd) : Prop := PA X es (upA K t)
def DS (K : PySem.W.Frag) (X : Cx) (st : Stmt) (t : TSd) : Prop := PS X st (upS K t)
def DSs (K : PySem.W.Frag) (X : Cx) (st : List Stmt) (t : TSd) : Prop := PSs X st (upS K t)
section
variable {X : Cx} {K : PySem.W.Frag}
theorem PE.mono {e : Expr} {t t' : TE} (h : PE X e t) (f : ∀ σ H Q, t' σ H Q → t σ H Q) : PE X e t' := fun pins s σ H Q I q => h pins s σ H Q I (f _ _ _ q)
theorem PT.mono {e : Expr} {t t' : TT} (h : PT X e t) (f : ∀ σ H Q, t' σ H Q → t σ H Q) : PT X e t' := fun pins s σ H Q I q => h pins s σ H Q I (f _ _ _ q)
theorem PW.mono {e : Expr} {t t' : TT} (h : PW X e t) (f : ∀ σ H Q, t' σ H Q → t σ H Q) : PW X e t' := fun wh pins s σ H Q I q => h wh pins s σ H Q I (f _ _ _ q)
theorem PA.mono {e : List Expr} {t t' : TA} (h : PA X e t) (f : ∀ σ H Q, t' σ H Q → t σ H Q) : PA X e t' := fun p pins s σ H Q I q => h p pins s σ H Q I (f _ _ _ q)
theorem PS.mono {e : Stmt} {t t' : TS} (h : PS X e t) (f : ∀ D σ H, t' D σ H → t D σ H) : PS X e t' := fun pins s σ H D I q => h pins s σ H D I (f _ _ _ q)
theorem PSs.mono {e : List Stmt} {t t' : TS} (h : PSs X e t) (f : ∀ D σ H, t' D σ H → t D σ H) : PSs X e t' := fun pins s σ H D I q => h pins s σ H D I (f _ _ _ q)
theorem OpR.mono {f : Value → Value → Sem Value} {r r' : R2} (h : OpR X f r) (g : ∀ x y H Q, r' x y H Q → r x y H Q) : OpR X f r' := fun pins s σ H x y v u Q I a b c => h pins s σ H x y v u Q I a b (g _ _ _ _ c)
theorem UnR.mono {f : Value → Sem Value} {r r' : V → Hp → VK → Prop} (h : UnR X f r) (g : ∀ x H Q, r' x H Q → r x H Q) : UnR X f r' := fun pins s σ H x v Q I a c => h pins s σ H x v Q I a (g _ _ _ c)
theorem CallR.mono {f : Value} {r r' : List V → Hp → VK → Prop} (h : CallR X f r) (g : ∀ x H Q, r' x H Q → r x H Q) : CallR X f r' := fun pins s σ H x v Q I a c => h pins s σ H x v Q I a (g _ _ _ c)
theorem IxR.mono {r r' : R2} (h : IxR X r) (g : ∀ x y H Q, r' x y H Q → r x y H Q) : IxR X r' := fun a b pins s σ H x y v u Q I p q c => h a b pins s σ H x y v u Q I p q (g _ _ _ _ c)
theorem MtM.mono {id : String} {r r' : V → List V → Hp → VK → Prop} (h : MtM X id r) (g : ∀ x y H Q, r' x y H Q → r x y H Q) : MtM X id r' := fun pins s σ H x xs v us Q I a b c => h pins s σ H x xs v us Q I a b (g _ _ _ _ c)
theorem MtR.mono {id : String} {r r' : V → List V → Hp → VK → Prop} (h : MtR X id r) (g : ∀ x y H Q, r' x y H Q → r x y H Q) : MtR X id r' := fun pins s σ H x xs v us Q I a b c => h pins s σ H x xs v us Q I a b (g _ _ _ _ c)
def dVar (i : Nat) : TEd := fun ρ μ Q => match ρ[i]? with
  | some (some e) => Q e μ
  | _ => False
def dC (x : PyData) : TEd := fun _ μ Q => Q (.d x) μ
theorem dv (i : Nat) {x : Str} {pos : Pos} (hN : X.N[i]? = some x := by rfl) (hv : Vis X.env.scope x := by first | exact Or.inl rfl | exact Or.inr (Or.inl rfl) | exact Or.inr (Or.inr rfl)) (hd : (x == ("__debug__" : Str)) = false := by decide)
    (hcd : (x == ("__classdict__" : Str)) = false := by decide) : DE K X (.Name x pos) (dVar i) := by
  refine PE.mono (pe_var hN hv hd hcd) fun σ H Q ⟨ρ, μ, Q0, hS, hM, h, cl⟩ => ?_
  unfold dVar at h
  split at h
  · rename_i e he
    obtain ⟨v, e1, e2⟩ := hS.get i e he
    exact ⟨v, e1, cl e μ v H h hM (Same.refl _) e2⟩
  · exact h.elim
theorem d_int {i : Int} {j pos} : DE K X (.Constant (.int i) j pos) (dC (.int i)) := PE.mono pe_int fun σ H Q ⟨ρ, μ, Q0, hS, hM, h, cl⟩ => cl _ μ (.int i) H h hM (Same.refl _) (.int i)
theorem d_bl {b : Bool} {j pos} : DE K X (.Constant (.bool b) j pos) (dC (.bool b)) := PE.mono pe_bl fun σ H Q ⟨ρ, μ, Q0, hS, hM, h, cl⟩ => cl _ μ (.bl b) H h hM (Same.refl _) (.bl b)
theorem d_non {j pos} : DE K X (.Constant .none j pos) (dC .none) := PE.mono pe_non fun σ H Q ⟨ρ, μ, Q0, hS, hM, h, cl⟩ => cl _ μ .non H h hM (Same.refl _) .non
theorem d_str {x : Str} {j pos} : DE K X (.Constant (.str x) j pos) (dC (.str x)) := PE.mono pe_str fun σ H Q ⟨ρ, μ, Q0, hS, hM, h, cl⟩ => cl _ μ (.str x) H h hM (Same.refl _) (.str x)
theorem up2 {σ : St} {H : Hp} {ta tb : TEd} {R : V → V → Hp → Prop} {ρ : Rho} {μ : Mu} {R0 : En → En → Mu → Prop} (hS : RelS K ρ μ σ H) (hM : RelM K μ H) (h : ta ρ μ fun x μ1 => tb ρ μ1 fun y μ2 => R0 x y μ2)
    (f : ∀ x y μ2 v u H2, R0 x y μ2 → RelM K μ2 H2 → Same (mask μ H) (mask μ2 H2) → IsE K μ2 H2 v x → IsE K μ2 H2 u y → R v u H2) : up K ta σ H fun v H1 => up K tb σ H1 fun u H2 => R v u H2 := by
  refine ⟨ρ, μ, _, hS, hM, h, fun x μ1 v H1 q1 M1 s1 i1 => ⟨ρ, μ1, _, hS.same s1, M1, q1, fun y μ2 u H2 q2 M2 s2 i2 => ?_⟩⟩
  exact f x y μ2 v u H2 q2 M2 (s1.trans s2) (i1.same s2) i2
abbrev R2d := En → En → Mu → (En → Mu → Prop) → Prop
abbrev R1d := En → Mu → (En → Mu → Prop) → Prop
abbrev RAd := List En → Mu → (En → Mu → Prop) → Prop
def upR (K : PySem.W.Frag) (r : R2d) : R2 := fun x y H Q => ∃ μ e e' Q0, RelM K μ H ∧ IsE K μ H x e ∧ IsE K μ H y e' ∧ r e e' μ Q0 ∧ Cl K μ H Q0 Q
def upU (K : PySem.W.Frag) (r : R1d) : V → Hp → VK → Prop := fun x H Q => ∃ μ e Q0, RelM K μ H ∧ IsE K μ H x e ∧ r e μ Q0 ∧ Cl K μ H Q0 Q
def upC (K : PySem.W.Frag) (r : RAd) : List V → Hp → VK → Prop := fun xs H Q => ∃ μ es Q0, RelM K μ H ∧ Paired (IsE K μ H) xs es ∧ r es μ Q0 ∧ Cl K μ H Q0 Q
variable {a b c : Expr} {ta tb tc : TEd} {pos : Pos}
def dOp (r : R2d) (ta tb : TEd) : TEd := fun ρ μ Q => ta ρ μ fun x μ1 => tb ρ μ1 fun y μ2 => r x y μ2 Q
def dUn (r : R1d) (ta : TEd) : TEd := fun ρ μ Q => ta ρ μ fun x μ1 => r x μ1 Q
theorem up_op {r : R2d} {σ : St} {H : Hp} {Q : VK} (h : up K (dOp r ta tb) σ H Q) : tOp (upR K r) (up K ta) (up K tb) σ H Q := by
  obtain ⟨ρ, μ, Q0, hS, hM, h, cl⟩ := h
  exact up2 hS hM h fun x y μ2 v u H2 q M2 s2 i1 i2 => ⟨μ2, x, y, Q0, M2, i1, i2, q, cl.same s2⟩
theorem d_op {op : Operator} {r : R2d} (ho : OpR X (binaryOp op) (upR K r)) (ha : DE K X a ta) (hb : DE K X b tb) : DE K X (.BinOp a op b pos) (dOp r ta tb) := PE.mono (pe_op ho ha hb) fun _ _ _ => up_op
theorem d_cmp {op : CmpOp} {r : R2d} (ho : OpR X (compareOp op) (upR K r)) (ha : DE K X a ta) (hb : DE K X b tb) (hm : behindInMarks op b = false) : DE K X (.Compare a [op] [b] pos) (dOp r ta tb) := PE.mono (pe_cmpR ho ha hb hm) fun _ _ _ => up_op
def dTest (t : TEd) : TTd := fun ρ μ Q => t ρ μ fun e μ1 => match e with
  | .d (.bool k) => Q k μ1
  | _ => False
theorem up_test {t : TEd} {σ : St} {H : Hp} {Q : Bool → Hp → Prop} (h : upT K (dTest t) σ H Q) : up K t σ H fun x H1 => ∃ k, x = .bl k ∧ Q k H1 := by
  obtain ⟨ρ, μ, Q0, hS, hM, h, cl⟩ := h
  refine ⟨ρ, μ, _, hS, hM, h, fun e μ1 v H1 q M1 s1 i1 => ?_⟩
  split at q
  · cases i1
    exact ⟨_, rfl, cl _ μ1 H1 q M1 s1⟩
  · exact q.elim
theorem dt_cmp {op : CmpOp} {r : R2d} (ho : OpR X (compareOp op) (upR K r)) (ha : DE K X a ta) (hb : DE K X b tb) (hm : behindInMarks op b = false) : DT K X (.Compare a [op] [b] pos) (dTest (dOp r ta tb)) := by
  refine PT.mono (pt_cmpR ho ha hb hm) fun σ H Q h => ?_
  obtain ⟨ρ, μ, Q0, hS, hM, h, cl⟩ := h
  refine up2 hS hM h fun x y μ2 v u H2 q M2 s2 i1 i2 => ⟨μ2, x, y, _, M2, i1, i2, q, fun e μ3 w H3 q3 M3 s3 i3 => ?_⟩
  split at q3
  · cases i3
    exact ⟨_, rfl, cl _ μ3 H3 q3 M3 (s2.trans s3)⟩
  · exact q3.elim
theorem dt_val {t : TEd} (h : DE K X a t) (he : ∀ whole, isTrue a X.env whole = (do let v ← whole; standAt a.pos; holding [v] (truthy v)) := by intro _; rfl) : DT K X a (dTest t) := PT.mono (pt_val h he) fun _ _ _ => up_test
theorem d_un {op : UnaryOp} {r : R1d} (ho : UnR X (unaryOp op) (upU K r)) (ha : DE K X a ta) : DE K X (.UnaryOp op a pos) (dUn r ta) := by
  refine PE.mono (pe_un ho ha) fun σ H Q ⟨ρ, μ, Q0, hS, hM, h, cl⟩ => ?_
  exact ⟨ρ, μ, _, hS, hM, h, fun e μ1 v H1 q M1 s1 i1 => ⟨μ1, e, Q0, M1, i1, q, cl.same s1⟩⟩
def rdI (C : Int → Int → Prop) (g : Int → Int → PyData) : R2d := fun x y μ Q => match x, y with
  | .d (.int i), .d (.int j) => C i j ∧ Q (.d (g i j)) μ
  | _, _ => False
def rdI0 (g : Int → Int → PyData) : R2d := fun x y μ Q => match x, y with
  | .d (.int i), .d (.int j) => Q (.d (g i j)) μ
  | _, _ => False
def rdU (g : Int → PyData) : R1d := fun x μ Q => match x with
  | .d (.int i) => Q (.d (g i)) μ
  | _ => False
theorem up_rI {C : Int → Int → Prop} {g : Int → Int → Int} {x y : V} {H : Hp} {Q : VK} (h : upR K (rdI C fun i j => .int (g i j)) x y H Q) : rI C (fun i j => .int (g i j)) x y H Q := by
  obtain ⟨μ, e, e', Q0, M, i1, i2, q, cl⟩ := h
  unfold rdI at q
  split at q
  · cases i1; cases i2
    exact ⟨_, _, rfl, rfl, q.1, cl _ μ _ H q.2 M (Same.refl _) (.int _)⟩
  · exact q.elim
theorem up_rI0 {g : Int → Int → Int} {x y : V} {H : Hp} {Q : VK} (h : upR K (rdI0 fun i j => .int (g i j)) x y H Q) : rI0 (fun i j => .int (g i j)) x y H Q := by
  obtain ⟨μ, e, e', Q0, M, i1, i2, q, cl⟩ := h
  unfold rdI0 at q
  split at q
  · cases i1; cases i2
    exact ⟨_, _, rfl, rfl, cl _ μ _ H q M (Same.refl _) (.int _)⟩
  · exact q.elim
theorem up_rB0 {g : Int → Int → Bool} {x y : V} {H : Hp} {Q : VK} (h : upR K (rdI0 fun i j => .bool (g i j)) x y H Q) : rI0 (fun i j => .bl (g i j)) x y H Q := by
  obtain ⟨μ, e, e', Q0, M, i1, i2, q, cl⟩ := h
  unfold rdI0 at q
  split at q
  · cases i1; cases i2
    exact ⟨_, _, rfl, rfl, cl _ μ _ H q M (Same.refl _) (.bl _)⟩
  · exact q.elim
theorem do_add : OpR X (binaryOp .Add) (upR K (rdI0 fun i j => .int (i + j))) := op_add.mono fun _ _ _ _ => up_rI0
theorem do_sub : OpR X (binaryOp .Sub) (upR K (rdI0 fun i j => .int (i - j))) := op_sub.mono fun _ _ _ _ => up_rI0
theorem do_mul : OpR X (binaryOp .Mult) (upR K (rdI CMulB fun i j => .int (i * j))) := op_mulB.mono fun _ _ _ _ => up_rI
theorem do_fdiv : OpR X (binaryOp .FloorDiv) (upR K (rdI CDivB fun i j => .int (i.fdiv j))) := op_fdivB.mono fun _ _ _ _ => up_rI
theorem do_mod : OpR X (binaryOp .Mod) (upR K (rdI (fun _ j => 0 < j) fun i j => .int (i % j))) := op_mod.mono fun _ _ _ _ => up_rI
theorem do_pow : OpR X (binaryOp .Pow) (upR K (rdI CPow fun i j => .int (i ^ j.toNat))) := op_pow.mono fun _ _ _ _ => up_rI
theorem do_lt : OpR X (compareOp .Lt) (upR K (rdI0 fun i j => .bool (decide (i < j)))) := op_lt.mono fun _ _ _ _ => up_rB0
theorem do_le : OpR X (compareOp .LtE) (upR K (rdI0 fun i j => .bool (decide (i ≤ j)))) := op_le.mono fun _ _ _ _ => up_rB0
theorem do_gt : OpR X (compareOp .Gt) (upR K (rdI0 fun i j => .bool (decide (j < i)))) := op_gt.mono fun _ _ _ _ => up_rB0
theorem du_neg : UnR X (unaryOp .USub) (upU K (rdU fun i => .int (-i))) := un_neg.mono fun x H Q h => by
  obtain ⟨μ, e, Q0, M, i1, q, cl⟩ := h
  unfold rdU at q
  split at q
  · cases i1
    exact ⟨_, rfl, cl _ μ _ H q M (Same.refl _) (.int _)⟩
  · exact q.elim
inductive LstOf (μ : Mu) : En → List PyData → Prop
  | d (ds : List PyData) : LstOf μ (.d (.list ds)) ds
  | m {a : Addr} {ds : List PyData} (h : (a, .lst ds) ∈ μ) : LstOf μ (.m a) ds
theorem LstOf.get {μ : Mu} {e : En} {ds : List PyData} {H : Hp} {v : V} (h : LstOf μ e ds) (M : RelM K μ H) (i : IsE K μ H v e) : ∃ p xs, v = .ref p ∧ SqL K H p xs ∧ IsAll K (mask μ H) xs ds := by
  cases h with
  | d ds =>
    cases i with
    | lst h hs => exact ⟨_, _, rfl, Same.seq mask_le h, hs⟩
  | m h =>
    obtain ⟨xs, e, hs⟩ := M.ob _ _ h
    exact ⟨_, xs, i, SqL.of e, hs⟩
inductive DatOf (μ : Mu) : En → PyData → Prop
  | d (x : PyData) : DatOf μ (.d x) x
  | m {a : Addr} {ds : List PyData} (h : (a, .lst ds) ∈ μ) : DatOf μ (.m a) (.list ds)
theorem DatOf.is {μ : Mu} {e : En} {x : PyData} {H : Hp} {v : V} (h : DatOf μ e x) (M : RelM K μ H) (i : IsE K μ H v e) : Is K H v x := by
  cases h with
  | d x => exact Is.same mask_le i
  | m h =>
    obtain ⟨xs, e, hs⟩ := M.ob _ _ h
    have i : v = _ := i
    subst i
    exact .lst (SqL.of e) (IsAll.same mask_le hs)
def rdEq (neg : Bool) : R2d := fun x y μ Q => match x, y with
  | .d (.int i), .d (.int j) => Q (.d (.bool (if neg then !decide (i = j) else decide (i = j)))) μ
  | _, _ => ∃ d d', DatOf μ x d ∧ DatOf μ y d' ∧ SeqAt.shaped d = true ∧ SeqAt.shaped d' = true ∧ Q (.d (.bool (if neg then !PyData.eqv d d' else PyData.eqv d d'))) μ
theorem eqv_int (i j : Int) : PyData.eqv (.int i) (.int j) = decide (i = j) := by
  by_cases h : i = j <;> simp [PyData.eqv, h]
theorem rdEq_dat {neg : Bool} {x y : En} {μ : Mu} {Q : En → Mu → Prop} (h : rdEq neg x y μ Q) : ∃ d d', DatOf μ x d ∧ DatOf μ y d' ∧ SeqAt.shaped d = true ∧ SeqAt.shaped d' = true ∧ Q (.d (.bool (if neg then !PyData.eqv d d' else PyData.eqv d d'))) μ := by
  unfold rdEq at h
  split at h
  · exact ⟨_, _, .d _, .d _, rfl, rfl, by rw [eqv_int]; exact h⟩
  · exact h
theorem do_eq (hu : X.A.units + 64 < cLine) (hK : X.K = K := by rfl) : OpR X (compareOp .Eq) (upR K (rdEq false)) := by
  subst hK
  refine (op_eqD hu).mono fun x y H Q h => ?_
  obtain ⟨μ, e, e', Q0, M, i1, i2, q, cl⟩ := h
  obtain ⟨d, d', h1, h2, h3, h4, q⟩ := rdEq_dat q
  exact ⟨d, d', h1.is M i1, h2.is M i2, h3, h4, cl _ μ _ H q M (Same.refl _) (.bl _)⟩
theorem do_ne (hu : X.A.units + 64 < cLine) (hK : X.K = K := by rfl) : OpR X (compareOp .NotEq) (upR K (rdEq true)) := by
  subst hK
  refine (op_neD hu).mono fun x y H Q h => ?_
  obtain ⟨μ, e, e', Q0, M, i1, i2, q, cl⟩ := h
  obtain ⟨d, d', h1, h2, h3, h4, q⟩ := rdEq_dat q
  exact ⟨d, d', h1.is M i1, h2.is M i2, h3, h4, cl _ μ _ H q M (Same.refl _) (.bl _)⟩
def dAnd (t u : TTd) : TTd := fun ρ μ Q => t ρ μ fun k μ1 => if k = true then u ρ μ1 Q else Q false μ1
def dOr (t u : TTd) : TTd := fun ρ μ Q => t ρ μ fun k μ1 => if k = true then Q true μ1 else u ρ μ1 Q
def dNot (t : TTd) : TTd := fun ρ μ Q => t ρ μ fun k μ1 => Q (!k) μ1
variable {tA tB : TTd} {rest : List Expr}
theorem dw_and1 (ha : DT K X a tA) : DW K X (.BoolOp .And [a] pos) tA := pw_and1 ha
theorem dw_or1 (ha : DT K X a tA) : DW K X (.BoolOp .Or [a] pos) tA := pw_or1 ha
theorem dw_and (ha : DT K X a tA) (hb : DW K X (.BoolOp .And (b :: rest) pos) tB) : DW K X (.BoolOp .And (a :: b :: rest) pos) (dAnd tA tB) := by
  refine PW.mono (pw_and ha hb) fun σ H Q ⟨ρ, μ, Q0, hS, hM, h, cl⟩ => ⟨ρ, μ, _, hS, hM, h, fun k μ1 H1 q M1 s1 => ?_⟩
  cases k with
  | true => exact ⟨ρ, μ1, Q0, hS.same s1, M1, by simpa using q, cl.same s1⟩
  | false => exact cl _ μ1 H1 (by simpa using q) M1 s1
theorem dw_or (ha : DT K X a tA) (hb : DW K X (.BoolOp .Or (b :: rest) pos) tB) : DW K X (.BoolOp .Or (a :: b :: rest) pos) (dOr tA tB) := by
  refine PW.mono (pw_or ha hb) fun σ H Q ⟨ρ, μ, Q0, hS, hM, h, cl⟩ => ⟨ρ, μ, _, hS, hM, h, fun k μ1 H1 q M1 s1 => ?_⟩
  cases k with
  | false => exact ⟨ρ, μ1, Q0, hS.same s1, M1, by simpa using q, cl.same s1⟩
  | true => exact cl _ μ1 H1 (by simpa using q) M1 s1
theorem dt_w (h : DW K X a tA) : DT K X a tA := PW.pt h
theorem dt_not (ha : DT K X a tA) : DT K X (.UnaryOp .Not a pos) (dNot tA) := PT.mono (pt_not ha) fun σ H Q ⟨ρ, μ, Q0, hS, hM, h, cl⟩ => ⟨ρ, μ, _, hS, hM, h, fun k μ1 H1 q M1 s1 => cl _ μ1 H1 q M1 s1⟩
def dAndV (ta tb : TEd) : TEd := fun ρ μ Q => ta ρ μ fun x μ1 => match x with
  | .d (.bool k) => if k = true then tb ρ μ1 Q else Q (.d (.bool false)) μ1
  | _ => False
def dNotV (ta : TEd) : TEd := fun ρ μ Q => ta ρ μ fun x μ1 => match x with
  | .d (.bool k) => Q (.d (.bool (!k))) μ1
  | _ => False
theorem d_one {op} {t : TEd} (h : DE K X a t) : DE K X (.BoolOp op [a] pos) t := pe_one h
theorem d_and (ha : DE K X a ta) (hb : DE K X (.BoolOp .And (b :: rest) pos) tb) : DE K X (.BoolOp .And (a :: b :: rest) pos) (dAndV ta tb) := by
  refine PE.mono (pe_and ha hb) fun σ H Q ⟨ρ, μ, Q0, hS, hM, h, cl⟩ => ⟨ρ, μ, _, hS, hM, h, fun e μ1 v H1 q M1 s1 i1 => ?_⟩
  split at q
  · rename_i k
    cases i1
    refine ⟨k, rfl, ?_⟩
    cases k with
    | true => exact iteT ⟨ρ, μ1, Q0, hS.same s1, M1, by simpa using q, cl.same s1⟩
    | false => exact iteF (cl (.d (.bool false)) μ1 _ H1 (by simpa using q) M1 s1 (Is.bl _))
  · exact q.elim
theorem d_not (ha : DE K X a ta) : DE K X (.UnaryOp .Not a pos) (dNotV ta) := by
  refine PE.mono (pe_not ha) fun σ H Q ⟨ρ, μ, Q0, hS, hM, h, cl⟩ => ⟨ρ, μ, _, hS, hM, h, fun e μ1 v H1 q M1 s1 i1 => ?_⟩
  split at q
  · cases i1
    exact ⟨_, rfl, cl _ μ1 _ H1 q M1 s1 (.bl _)⟩
  · exact q.elim
def dIf (t : TTd) (ta tb : TEd) : TEd := fun ρ μ Q => t ρ μ fun k μ1 => if k = true then ta ρ μ1 Q else tb ρ μ1 Q
theorem d_ifExp (hc : DT K X c tA) (ha : DE K X a ta) (hb : DE K X b tb) : DE K X (.IfExp c a b pos) (dIf tA ta tb) := by
  refine PE.mono (pe_ifExp hc ha hb) fun σ H Q ⟨ρ, μ, Q0, hS, hM, h, cl⟩ => ⟨ρ, μ, _, hS, hM, h, fun k μ1 H1 q M1 s1 => ?_⟩
  cases k with
  | true => exact iteT ⟨ρ, μ1, Q0, hS.same s1, M1, by simpa using q, cl.same s1⟩
  | false => exact iteF ⟨ρ, μ1, Q0, hS.same s1, M1, by simpa using q, cl.same s1⟩
variable {es : List Expr} {tr : TAd}
def dNil : TAd := fun _ μ Q => Q [] μ
def dCons (ta : TEd) (tr : TAd) : TAd := fun ρ μ Q => ta ρ μ fun x μ1 => tr ρ μ1 fun xs μ2 => Q (x :: xs) μ2
theorem da_nil : DA K X [] dNil := PA.mono pa_nil fun σ H Q ⟨ρ, μ, Q0, hS, hM, h, cl⟩ => cl _ μ _ H h hM (Same.refl _) .nil
theorem da_cons (ha : DE K X a ta) (hr : DA K X es tr) (hs : starEach (a :: es) X.env = (false, eval a X.env) :: starEach es X.env := by rfl) : DA K X (a :: es) (dCons ta tr) := by
  refine PA.mono (pa_cons ha hr hs) fun σ H Q ⟨ρ, μ, Q0, hS, hM, h, cl⟩ => ⟨ρ, μ, _, hS, hM, h, fun e μ1 v H1 q M1 s1 i1 => ⟨ρ, μ1, _, hS.same s1, M1, q, fun es' μ2 vs H2 q2 M2 s2 i2 => ?_⟩⟩
  exact cl _ μ2 _ H2 q2 M2 (s1.trans s2) (.cons (i1.same s2) i2)
def allD : List En → Option (List PyData)
  | [] => some []
  | .d x :: r => (allD r).map (x :: ·)
  | _ :: _ => none
theorem allD_is {μ : Mu} {H : Hp} : ∀ {es : List En} {ds : List PyData} {vs : List V}, allD es = some ds → Paired (IsE K μ H) vs es → IsAll K (mask μ H) vs ds
  | [], _, _, e, .nil => by cases e; exact .nil
  | .d x :: r, _, _, e, .cons h t => by
    simp only [allD] at e
    cases q : allD r with
    | none => rw [q] at e; cases e
    | some ds' => rw [q] at e; cases e; exact .cons h (allD_is q t)
  | .m a :: r, _, _, e, _ => by cases e
  | .x a :: r, _, _, e, _ => by cases e
  | .ty a :: r, _, _, e, _ => by cases e
def dTup (tr : TAd) : TEd := fun ρ μ Q => tr ρ μ fun es μ1 => match allD es with
  | some ds => ds.length ≤ 1000 ∧ Q (.d (.tuple ds)) μ1
  | none => False
def dLst (tr : TAd) : TEd := fun ρ μ Q => tr ρ μ fun es μ1 => match allD es with
  | some ds => ds.length ≤ 1000 ∧ Q (.d (.list ds)) μ1
  | none => False
theorem d_tup {x1} (h : DA K X es tr) : DE K X (.Tuple es x1 pos) (dTup tr) := by
  refine PE.mono (pe_tup h) fun σ H Q ⟨ρ, μ, Q0, hS, hM, h, cl⟩ => ⟨ρ, μ, _, hS, hM, h, fun es' μ1 vs H1 q M1 s1 i1 => ?_⟩
  split at q
  · rename_i ds e
    have hA := allD_is e i1
    refine ⟨Nat.le_of_lt (small1000 (by rw [hA.len]; exact q.1)), fun p hp => ?_⟩
    obtain ⟨M2, s2, hn⟩ := M1.laid (o := .tup vs) hp
    exact cl _ μ1 _ _ q.2 M2 (s1.trans s2) (.tup (SqT.of (by rw [mask_of hn]; exact upd_same)) (IsAll.same s2 hA))
  · exact q.elim
theorem d_lst (h : DA K X es tr) : DE K X (.List es pos) (dLst tr) := by
  refine PE.mono (pe_lst h) fun σ H Q ⟨ρ, μ, Q0, hS, hM, h, cl⟩ => ⟨ρ, μ, _, hS, hM, h, fun es' μ1 vs H1 q M1 s1 i1 => ?_⟩
  split at q
  · rename_i ds e
    have hA := allD_is e i1
    refine ⟨Nat.le_of_lt (small1000 (by rw [hA.len]; exact q.1)), fun p hp => ?_⟩
    obtain ⟨M2, s2, hn⟩ := M1.laid (o := .lst vs) hp
    exact cl _ μ1 _ _ q.2 M2 (s1.trans s2) (.lst (SqL.of (by rw [mask_of hn]; exact upd_same)) (IsAll.same s2 hA))
  · exact q.elim
def dLstM (tr : TAd) : TEd := fun ρ μ Q => tr ρ μ fun es μ1 => match allD es with
  | some ds => ds.length ≤ 1000 ∧ ∀ p, p ∉ μ1.map Prod.fst → Q (.m p) ((p, .lst ds) :: μ1)
  | none => False
theorem d_lstM (h : DA K X es tr) : DE K X (.List es pos) (dLstM tr) := by
  refine PE.mono (pe_lst h) fun σ H Q ⟨ρ, μ, Q0, hS, hM, h, cl⟩ => ⟨ρ, μ, _, hS, hM, h, fun es' μ1 vs H1 q M1 s1 i1 => ?_⟩
  split at q
  · rename_i ds e
    have hA := allD_is e i1
    refine ⟨Nat.le_of_lt (small1000 (by rw [hA.len]; exact q.1)), fun p hp => ?_⟩
    obtain ⟨_, _, hn⟩ := M1.laid (o := .lst vs) hp
    obtain ⟨M2, s2⟩ := M1.new (u := .lst vs) (o := .lst ds) hp fun ss => ⟨vs, upd_same, IsAll.same ss hA⟩
    exact cl _ _ _ _ (q.2 p hn) M2 (s1.trans s2) rfl
  · exact q.elim
end
end L2
set_option Elab.async false
set_option linter.all false
set_option maxRecDepth 100000
set_option maxHeartbeats 4000000
namespace L2
open PySem PySem.Spec PyProof.Rows
theorem IsAll.atI {K : PySem.W.Frag} {H : Hp} {vs : List V} {ds : List PyData} {i : Int} {z : PyData} (h : IsAll K H vs ds) (e : L2.atI ds i = some z) : ∃ v, L2.atI vs i = some v ∧ Is K H v z := by
  unfold L2.atI at *
  rw [h.len]
  cases q : ixN ds.length i with
  | none => rw [q] at e; cases e
  | some j =>
    rw [q] at e
    obtain ⟨v, e1, e2⟩ := h.get' (i := j) e
    exact ⟨v, e1, e2⟩
section
variable {X : Cx} {K : PySem.W.Frag} {a b c : Expr} {ta tb tc : TEd} {tA tB : TTd} {pos : Pos} {es : List Expr} {tr : TAd}
def rdIxL : R2d := fun x y μ Q => match y with
  | .d (.int i) => ∃ ds z, LstOf μ x ds ∧ atI ds i = some z ∧ Q (.d z) μ
  | _ => False
def rdIxT : R2d := fun x y μ Q => match x, y with
  | .d (.tuple ds), .d (.int i) => ∃ z, atI ds i = some z ∧ Q (.d z) μ
  | _, _ => False
theorem dx_list (hK : X.K = K := by rfl) : IxR X (upR K rdIxL) := by
  subst hK
  refine ix_list.mono fun x y H Q h => ?_
  obtain ⟨μ, e, e', Q0, M, i1, i2, q, cl⟩ := h
  unfold rdIxL at q
  split at q
  · obtain ⟨ds, z, h1, h2, q⟩ := q
    cases i2
    obtain ⟨p, xs, rfl, h3, h4⟩ := h1.get M i1
    obtain ⟨v, e1, e2⟩ := h4.atI h2
    exact ⟨p, xs, _, v, rfl, rfl, h3, e1, cl _ μ v H q M (Same.refl _) e2⟩
  · exact q.elim
theorem dx_tup (hK : X.K = K := by rfl) : IxR X (upR K rdIxT) := by
  subst hK
  refine ix_tup.mono fun x y H Q h => ?_
  obtain ⟨μ, e, e', Q0, M, i1, i2, q, cl⟩ := h
  unfold rdIxT at q
  split at q
  · obtain ⟨z, h2, q⟩ := q
    cases i2
    have i1' := Is.same mask_le (show Is X.K (mask μ H) x _ from i1)
    cases i1 with
    | tup h3 h4 =>
      obtain ⟨v, e1, e2⟩ := h4.atI h2
      cases i1' with
      | tup h5 h6 =>
        refine ⟨_, _, _, v, rfl, rfl, ?_, e1, cl _ μ v H q M (Same.refl _) e2⟩
        rcases h3 with (e | ⟨o, e⟩) | e
        · exact .inl (.inl (mask_le _ _ e))
        · exact .inl (.inr ⟨o, mask_le _ _ e⟩)
        · exact .inr e
  · exact q.elim
theorem d_ix {r : R2d} (hr : IxR X (upR K r)) (ha : DE K X a ta) (hb : DE K X b tb) (hs : PlainIx b) : DE K X (.Subscript a b pos) (dOp r ta tb) := PE.mono (pe_ix hr ha hb hs) fun _ _ _ => up_op
def cutD (xs : List PyData) (lo hi : Option Int) : List PyData := (xs.drop (HT.sIx xs.length 0 lo)).take (HT.sIx xs.length xs.length hi - HT.sIx xs.length 0 lo)
theorem IsAll.cut {H : Hp} {vs : List V} {ds : List PyData} {lo hi : Option Int} (h : IsAll K H vs ds) : IsAll K H (cutV vs lo hi) (cutD ds lo hi) := by
  unfold cutV cutD
  rw [h.len]
  exact (h.drop _).take _
abbrev TOd := Rho → Mu → (Option Int → Mu → Prop) → Prop
def upO (K : PySem.W.Frag) (t : TOd) : TO := fun σ H Q => ∃ ρ μ Q0, RelS K ρ μ σ H ∧ RelM K μ H ∧ t ρ μ Q0 ∧ ∀ o μ' H', Q0 o μ' → RelM K μ' H' → Same (mask μ H) (mask μ' H') → Q o H'
def DO (K : PySem.W.Frag) (X : Cx) (e : Option Expr) (t : TOd) : Prop := PO X e (upO K t)
theorem PO.mono {e : Option Expr} {t t' : TO} (h : PO X e t) (f : ∀ σ H Q, t' σ H Q → t σ H Q) : PO X e t' := fun pins s σ H Q I q => h pins s σ H Q I (f _ _ _ q)
def dNoPart : TOd := fun _ μ Q => Q none μ
def dPart (t : TEd) : TOd := fun ρ μ Q => t ρ μ fun x μ1 => match x with
  | .d (.int i) => Q (some i) μ1
  | _ => False
theorem dp_none : DO K X none dNoPart := PO.mono po_none fun σ H Q ⟨ρ, μ, Q0, hS, hM, h, cl⟩ => cl none μ H h hM (Same.refl _)
theorem dp_some (h : DE K X a ta) : DO K X (some a) (dPart ta) := PO.mono (po_some h) fun σ H Q ⟨ρ, μ, Q0, hS, hM, h, cl⟩ => ⟨ρ, μ, _, hS, hM, h, fun e μ1 v H1 q M1 s1 i1 => by
  split at q
  · cases i1; exact ⟨_, rfl, cl _ μ1 H1 q M1 s1⟩
  · exact q.elim⟩
def dSl (r : En → Option Int → Option Int → Mu → (En → Mu → Prop) → Prop) (te : TEd) (tl th : TOd) : TEd := fun ρ μ Q => te ρ μ fun x μ1 => tl ρ μ1 fun l μ2 => th ρ μ2 fun u μ3 => r x l u μ3 Q
def rdSlL : En → Option Int → Option Int → Mu → (En → Mu → Prop) → Prop := fun x l u μ Q => ∃ ds, LstOf μ x ds ∧ Q (.d (.list (cutD ds l u))) μ
def rdSlT : En → Option Int → Option Int → Mu → (En → Mu → Prop) → Prop := fun x l u μ Q => match x with
  | .d (.tuple ds) => ¬ (HT.sIx ds.length 0 l = 0 ∧ HT.sIx ds.length ds.length u = ds.length) ∧ Q (.d (.tuple (cutD ds l u))) μ
  | _ => False
theorem d_slice {lo hi : Option Expr} {p2 : Pos} {tl th : TOd} (ha : DE K X a ta) (hl : DO K X lo tl) (hu : DO K X hi th) (hK : X.K = K := by rfl) : DE K X (.Subscript a (.Slice lo hi none p2) pos) (dSl rdSlL ta tl th) := by
  subst hK
  refine PE.mono (pe_slice sl_list ha hl hu) fun σ H Q ⟨ρ, μ, Q0, hS, hM, h, cl⟩ => ⟨ρ, μ, _, hS, hM, h, fun e μ1 v H1 q1 M1 s1 i1 => ⟨ρ, μ1, _, hS.same s1, M1, q1, fun l μ2 H2 q2 M2 s2 => ⟨ρ, μ2, _, hS.same (s1.trans s2), M2, q2, fun u μ3 H3 q3 M3 s3 => ?_⟩⟩⟩
  obtain ⟨ds, h1, q⟩ := q3
  have i3 := i1.same (s2.trans s3)
  obtain ⟨p, xs, rfl, h3, h4⟩ := h1.get M3 i3
  refine ⟨p, xs, rfl, h3, fun l hl => ?_⟩
  obtain ⟨M4, s4, hn⟩ := M3.laid (o := .lst (cutV xs _ _)) hl
  exact cl _ _ _ _ q M4 ((s1.trans s2).trans (s3.trans s4)) (.lst (SqL.of (by rw [mask_of hn]; exact upd_same)) (IsAll.same s4 h4.cut))
theorem d_sliceT {lo hi : Option Expr} {p2 : Pos} {tl th : TOd} (ha : DE K X a ta) (hl : DO K X lo tl) (hu : DO K X hi th) (hK : X.K = K := by rfl) : DE K X (.Subscript a (.Slice lo hi none p2) pos) (dSl rdSlT ta tl th) := by
  subst hK
  refine PE.mono (pe_slice sl_tup ha hl hu) fun σ H Q ⟨ρ, μ, Q0, hS, hM, h, cl⟩ => ⟨ρ, μ, _, hS, hM, h, fun e μ1 v H1 q1 M1 s1 i1 => ⟨ρ, μ1, _, hS.same s1, M1, q1, fun l μ2 H2 q2 M2 s2 => ⟨ρ, μ2, _, hS.same (s1.trans s2), M2, q2, fun u μ3 H3 q3 M3 s3 => ?_⟩⟩⟩
  have i3 := i1.same (s2.trans s3)
  unfold rdSlT at q3
  split at q3
  · cases i3 with
    | tup h3 h4 =>
      rename_i a1 xs1
      have h5 : SqT X.K H3 a1 xs1 := by
        rcases h3 with (e | ⟨o, e⟩) | e
        · exact .inl (.inl (mask_le _ _ e))
        · exact .inl (.inr ⟨o, mask_le _ _ e⟩)
        · exact .inr e
      refine ⟨_, _, rfl, h5, by rw [h4.len]; exact q3.1, fun l hl => ?_⟩
      obtain ⟨M4, s4, hn⟩ := M3.laid (o := .tup (cutV _ _ _)) hl
      exact cl _ _ _ _ q3.2 M4 ((s1.trans s2).trans (s3.trans s4)) (.tup (SqT.of (by rw [mask_of hn]; exact upd_same)) (IsAll.same s4 h4.cut))
  · exact q3.elim
def dCB (r : RAd) (tr : TAd) : TEd := fun ρ μ Q => tr ρ μ fun es μ1 => r es μ1 Q
theorem up_cb {r : RAd} {σ : St} {H : Hp} {Q : VK} (h : up K (dCB r tr) σ H Q) : tCB (upC K r) (upA K tr) σ H Q := by
  obtain ⟨ρ, μ, Q0, hS, hM, h, cl⟩ := h
  exact ⟨ρ, μ, _, hS, hM, h, fun es μ1 vs H1 q M1 s1 i1 => ⟨μ1, es, Q0, M1, i1, q, cl.same s1⟩⟩
theorem d_callB {id : String} {x : Str} {r : RAd} {e : Expr} {p : Pos} (hc : CallR X (.builtin id) (upC K r)) (hg : Gl X x) (hm : X.mg x = none) (hv : bootBuiltins x = some (.builtin id)) (ha : DA K X (e :: es) tr) (hn : x ≠ "__name__" := by decide) (hdb : (x == ("__debug__" : Str)) = false := by decide)
    (he : starEach (e :: es) X.env = (false, eval e X.env) :: starEach es X.env := by rfl) (hpl : (backTo pos (starEach es X.env)).any (·.1) = false := by rfl) : DE K X (.Call (.Name x p) (e :: es) [] pos) (dCB r tr) := PE.mono (pe_callB hc hg hm hv ha hn hdb he hpl) fun _ _ _ => up_cb
theorem d_callTy {T : String} {x : Str} {r : RAd} {e : Expr} {p : Pos} (hc : CallR X (.type T) (upC K r)) (hg : Gl X x) (hm : X.mg x = none) (hv : bootBuiltins x = some (.type T)) (ha : DA K X (e :: es) tr) (hn : x ≠ "__name__" := by decide) (hdb : (x == ("__debug__" : Str)) = false := by decide)
    (he : starEach (e :: es) X.env = (false, eval e X.env) :: starEach es X.env := by rfl) (hpl : (backTo pos (starEach es X.env)).any (·.1) = false := by rfl) : DE K X (.Call (.Name x p) (e :: es) [] pos) (dCB r tr) := PE.mono (pe_callTy hc hg hm hv ha hn hdb he hpl) fun _ _ _ => up_cb
theorem pair1 {μ : Mu} {H : Hp} {vs : List V} {e : En} (h : Paired (IsE K μ H) vs [e]) : ∃ v, vs = [v] ∧ IsE K μ H v e := by
  cases h with | cons a b => cases b; exact ⟨_, rfl, a⟩
theorem pair2 {μ : Mu} {H : Hp} {vs : List V} {e e' : En} (h : Paired (IsE K μ H) vs [e, e']) : ∃ v v', vs = [v, v'] ∧ IsE K μ H v e ∧ IsE K μ H v' e' := by
  cases h with | cons a b => cases b with | cons c d => cases d; exact ⟨_, _, rfl, a, c⟩
def rdAbs : RAd := fun es μ Q => match es with
  | [.d (.int i)] => Q (.d (.int (i.natAbs : Int))) μ
  | _ => False
theorem dc_abs : CallR X (.builtin "abs") (upC K rdAbs) := call_abs.mono fun xs H Q h => by
  obtain ⟨μ, es, Q0, M, hp, q, cl⟩ := h
  unfold rdAbs at q
  split at q
  · rename_i i
    obtain ⟨v, rfl, i1⟩ := pair1 hp
    cases i1
    have e : (if i < 0 then -i else i) = (i.natAbs : Int) := by split <;> omega
    exact ⟨_, rfl, by rw [e]; exact cl _ μ _ H q M (Same.refl _) (.int _)⟩
  · exact q.elim
def rd2I (g : Int → Int → Int) : RAd := fun es μ Q => match es with
  | [.d (.int i), .d (.int j)] => Q (.d (.int (g i j))) μ
  | _ => False
theorem dc_max (hc : X.calm = true) : CallR X (.builtin "max") (upC K (rd2I fun i j => if i < j then j else i)) := (call_max2 hc).mono fun xs H Q h => by
  obtain ⟨μ, es, Q0, M, hp, q, cl⟩ := h
  unfold rd2I at q
  split at q
  · obtain ⟨v, v', rfl, i1, i2⟩ := pair2 hp
    cases i1; cases i2
    exact ⟨_, _, rfl, cl _ μ _ H q M (Same.refl _) (.int _)⟩
  · exact q.elim
theorem dc_min (hc : X.calm = true) : CallR X (.builtin "min") (upC K (rd2I fun i j => if j < i then j else i)) := (call_min2 hc).mono fun xs H Q h => by
  obtain ⟨μ, es, Q0, M, hp, q, cl⟩ := h
  unfold rd2I at q
  split at q
  · obtain ⟨v, v', rfl, i1, i2⟩ := pair2 hp
    cases i1; cases i2
    exact ⟨_, _, rfl, cl _ μ _ H q M (Same.refl _) (.int _)⟩
  · exact q.elim
def rdInt : RAd := fun es μ Q => match es with
  | [.d (.int i)] => Q (.d (.int i)) μ
  | [.d (.bool k)] => Q (.d (.int (if k = true then 1 else 0))) μ
  | _ => False
theorem dc_int : CallR X (.type "int") (upC K rdInt) := call_int1.mono fun xs H Q h => by
  obtain ⟨μ, es, Q0, M, hp, q, cl⟩ := h
  unfold rdInt at q
  split at q
  · obtain ⟨v, rfl, i1⟩ := pair1 hp
    cases i1
    exact .inl ⟨_, rfl, cl _ μ _ H q M (Same.refl _) (.int _)⟩
  · obtain ⟨v, rfl, i1⟩ := pair1 hp
    cases i1
    exact .inr ⟨_, rfl, cl _ μ _ H q M (Same.refl _) (.int _)⟩
  · exact q.elim
inductive SeqOf (μ : Mu) : En → List PyData → Prop
  | l {e : En} {ds : List PyData} (h : LstOf μ e ds) : SeqOf μ e ds
  | t (ds : List PyData) : SeqOf μ (.d (.tuple ds)) ds
theorem SeqOf.get {μ : Mu} {e : En} {ds : List PyData} {H : Hp} {v : V} (h : SeqOf μ e ds) (M : RelM K μ H) (i : IsE K μ H v e) : ∃ p xs, v = .ref p ∧ (SqL K H p xs ∨ SqT K H p xs) ∧ IsAll K (mask μ H) xs ds := by
  cases h with
  | l h => obtain ⟨p, xs, h1, h2, h3⟩ := h.get M i; exact ⟨p, xs, h1, .inl h2, h3⟩
  | t ds =>
    cases i with
    | tup h hs =>
      refine ⟨_, _, rfl, .inr ?_, hs⟩
      rcases h with (e | ⟨o, e⟩) | e
      · exact .inl (.inl (mask_le _ _ e))
      · exact .inl (.inr ⟨o, mask_le _ _ e⟩)
      · exact .inr e
def rdLen : RAd := fun es μ Q => match es with
  | [e] => ∃ ds, SeqOf μ e ds ∧ Q (.d (.int (ds.length : Int))) μ
  | _ => False
theorem dc_len (hK : X.K = K := by rfl) : CallR X (.builtin "len") (upC K rdLen) := by
  subst hK
  refine call_len_seq.mono fun xs H Q h => ?_
  obtain ⟨μ, es, Q0, M, hp, q, cl⟩ := h
  unfold rdLen at q
  split at q
  · obtain ⟨v, rfl, i1⟩ := pair1 hp
    obtain ⟨ds, h1, q⟩ := q
    obtain ⟨p, ys, rfl, h2, h3⟩ := h1.get M i1
    exact ⟨p, ys, rfl, h2, by rw [h3.len]; exact cl _ μ _ H q M (Same.refl _) (.int _)⟩
  · exact q.elim
def rdAll (f : List Bool → Bool) : RAd := fun es μ Q => match es with
  | [e] => ∃ bs, LstOf μ e (bs.map PyData.bool) ∧ Q (.d (.bool (f bs))) μ
  | _ => False
theorem dc_all (hc : X.calm = true) (hK : X.K = K := by rfl) : CallR X (.builtin "all") (upC K (rdAll fun bs => bs.all id)) := by
  subst hK
  refine (call_all hc).mono fun xs H Q h => ?_
  obtain ⟨μ, es, Q0, M, hp, q, cl⟩ := h
  unfold rdAll at q
  split at q
  · obtain ⟨v, rfl, i1⟩ := pair1 hp
    obtain ⟨bs, h1, q⟩ := q
    obtain ⟨p, ys, rfl, h2, h3⟩ := h1.get M i1
    rw [h3.bools_of] at h2
    exact ⟨p, bs, rfl, h2, cl _ μ _ H q M (Same.refl _) (.bl _)⟩
  · exact q.elim
def isTy (n : String) : PyData → Bool
  | .none => false
  | .bool _ => n == "bool" || n == "int"
  | .int _ => n == "int"
  | .str _ => n == "str"
  | .list _ => n == "list"
  | .tuple _ => n == "tuple"
  | .dict _ => false
abbrev SpD := List En → Mu → (En → Mu → Prop) → Prop
def spUp (K : PySem.W.Frag) (s : SpD) : Sp := fun vs H Q _ => ∃ μ es Q0, RelM K μ H ∧ Paired (IsE K μ H) vs es ∧ s es μ Q0 ∧ Cl K μ H Q0 Q
theorem d_own {CX : CXT} {k : Nat} {x : Str} {ps : List Str} {s : SpD} {e : Expr} {p : Pos} (O : Own X.prog X.w X.K X.mg X.base CX k x ps (spUp K s)) (hX : NoX CX) (hr : Room k X.A) (hg : Gl X x) (ha : DA K X (e :: es) tr) (hdb : (x == ("__debug__" : Str)) = false := by decide)
    (he : starEach (e :: es) X.env = (false, eval e X.env) :: starEach es X.env := by rfl) (hpl : (backTo pos (starEach es X.env)).any (·.1) = false := by rfl) : DE K X (.Call (.Name x p) (e :: es) [] pos) (dCB s tr) := by
  refine PE.mono (pe_own O hX hr hg ha hdb he hpl) fun σ H Q ⟨ρ, μ, Q0, hS, hM, h, cl⟩ => ?_
  exact ⟨ρ, μ, _, hS, hM, h, fun es μ1 vs H1 q M1 s1 i1 => ⟨μ1, es, Q0, M1, by simpa using i1, q, cl.same s1⟩⟩
theorem IsAll.flat {H H' : Hp} : ∀ {vs : List V} {ds : List PyData}, ds.all (fun | .list _ => false | .dict _ => false | .tuple _ => false | _ => true) = true → IsAll K H vs ds → IsAll K H' vs ds
  | _, [], _, .nil => .nil
  | _, d :: ds, h, .cons a b => by
    simp only [List.all_cons, Bool.and_eq_true] at h
    refine .cons ?_ (IsAll.flat h.2 b)
    cases a with
    | non => exact .non
    | bl b => exact .bl b
    | int i => exact .int i
    | str x => exact .str x
    | lst _ _ => exact absurd h.1 (by simp)
    | tup _ _ => exact absurd h.1 (by simp)
    | dc _ => exact absurd h.1 (by simp)
inductive Thaw (a : Addr) (ds : List PyData) : List En → List En → Prop
  | nil : Thaw a ds [] []
  | me {es es' : List En} : Thaw a ds es es' → Thaw a ds (.m a :: es) (.d (.list ds) :: es')
  | ot {e : En} {es es' : List En} : Thaw a ds es es' → Thaw a ds (e :: es) (e :: es')
theorem Thaw.is {μ1 μ2 : Mu} {a : Addr} {ds : List PyData} {H : Hp} (M : RelM K (μ1 ++ (a, .lst ds) :: μ2) H) : ∀ {es es' : List En} {vs : List V}, Thaw a ds es es' → Paired (IsE K (μ1 ++ (a, .lst ds) :: μ2) H) vs es → Paired (IsE K (μ1 ++ μ2) H) vs es'
  | _, _, _, .nil, .nil => .nil
  | _, _, _, .me t, .cons i r => by
    obtain ⟨M', s, hn⟩ := M.drop
    obtain ⟨xs, e, hs⟩ := M.ob a (.lst ds) (by simp)
    refine .cons ?_ (Thaw.is M t r)
    have i : _ = V.ref a := i
    subst i
    exact .lst (SqL.of (by rw [mask_of hn]; exact e)) (IsAll.same s hs)
  | _, _, _, .ot t, .cons i r => .cons (i.same M.drop.2.1) (Thaw.is M t r)
end
end L2
set_option Elab.async false
set_option linter.all false
set_option maxRecDepth 100000
set_option maxHeartbeats 4000000
namespace L2
open PySem PySem.Spec PyProof.Rows
section
variable {X : Cx} {K : PySem.W.Frag} {a b c : Expr} {ta tb tc : TEd} {tA tB : TTd} {pos : Pos} {es : List Expr} {tr : TAd}
def tys : List String := ["int", "bool", "str", "list", "tuple"]
theorem d_ty {x : Str} {n : String} {p : Pos} (hg : Gl X x) (hm : X.mg x = none) (hv : bootBuiltins x = some (.type n)) (hn : x ≠ "__name__" := by decide) (hd : (x == ("__debug__" : Str)) = false := by decide) : DE K X (.Name x p) (fun _ μ Q => Q (.ty n) μ) :=
  PE.mono (pe_bltn (v := .ty n) hg hm hv rfl hn hd) fun σ H Q ⟨ρ, μ, Q0, hS, hM, h, cl⟩ => cl _ μ (.ty n) H h hM (Same.refl _) rfl
theorem call_isD : CallR X (.builtin "isinstance") (fun xs H Q => ∃ x n d, xs = [x, .ty n] ∧ Is X.K H x d ∧ n ∈ tys ∧ Q (.bl (isTy n d)) H) := by
  intro pins s σ H xs us Q I r h
  obtain ⟨x, n, d, rfl, ty, hn, q⟩ := h
  obtain ⟨u, u', rfl, rx, ry⟩ := vals2 r
  cases ry
  have fin : ∀ tk, EP X pins σ Q (.bool (isTy n d)) { s with toks := tk } := fun tk => ⟨.bl _, H, I.tok _, rfl, q⟩
  have hn : n = "int" ∨ n = "bool" ∨ n = "str" ∨ n = "list" ∨ n = "tuple" := by simpa [tys] using hn
  cases ty with
  | non => cases (show u = Value.none from rx); exact PySem.W.kia_one PySem.W.kitx_none I.kIn True.intro (by rcases hn with rfl | rfl | rfl | rfl | rfl <;> rfl) (fun z => nomatch z) fin
  | bl y => cases (show u = Value.bool y from rx); exact PySem.W.kia_one PySem.W.kitx_bool I.kIn True.intro (by rcases hn with rfl | rfl | rfl | rfl | rfl <;> rfl) (fun z => nomatch z) fin
  | int i => obtain ⟨t, z⟩ := (show ∃ t, u = Value.int i t from rx); cases z; exact PySem.W.kia_one PySem.W.kitx_int I.kIn True.intro (by rcases hn with rfl | rfl | rfl | rfl | rfl <;> rfl) (fun z => nomatch z) fin
  | str y => obtain ⟨t, z⟩ := (show ∃ t, u = Value.str y t from rx); cases z; exact PySem.W.kia_one PySem.W.kitx_str I.kIn True.intro (by rcases hn with rfl | rfl | rfl | rfl | rfl <;> rfl) (fun z => nomatch z) fin
  | @lst a xs ds hq _ =>
    cases (show u = Value.ref a from rx)
    obtain ⟨its, _, ⟨o, n', h1, h2, _⟩, _⟩ := I.list hq
    exact PySem.W.kia_one PySem.W.kitx_list I.kIn ⟨o, h1, h2⟩ (by rcases hn with rfl | rfl | rfl | rfl | rfl <;> rfl) (fun z => nomatch z) fin
  | @dc a hq =>
    cases (show u = Value.ref a from rx)
    obtain ⟨_, _, vs, _, o, es, ep, h1, h2, _⟩ := (show ObjOk X.prog X.w H s.heap a (.dK []) from I.hok a _ hq)
    exact PySem.W.kia_one PySem.W.kitx_dict I.kIn ⟨o, h1, h2.1⟩ (by rcases hn with rfl | rfl | rfl | rfl | rfl <;> rfl) (fun z => nomatch z) fin
  | @tup a xs ds hq _ =>
    cases (show u = Value.ref a from rx)
    obtain ⟨its, _, ⟨o, h1, h2, _⟩, _⟩ := I.tuple hq
    exact PySem.W.kia_one PySem.W.kitx_tuple I.kIn ⟨o, h1, h2⟩ (by rcases hn with rfl | rfl | rfl | rfl | rfl <;> rfl) (fun z => nomatch z) fin
def rdIsi : RAd := fun es μ Q => match es with
  | [.d x, .ty n] => n ∈ tys ∧ Q (.d (.bool (isTy n x))) μ
  | [.m a, .ty n] => n ∈ tys ∧ ∃ ds, (a, .lst ds) ∈ μ ∧ Q (.d (.bool (n == "list"))) μ
  | _ => False
theorem dc_isi (hK : X.K = K := by rfl) : CallR X (.builtin "isinstance") (upC K rdIsi) := by
  subst hK
  refine call_isD.mono fun xs H Q h => ?_
  obtain ⟨μ, es, Q0, M, hp, q, cl⟩ := h
  unfold rdIsi at q
  split at q
  · obtain ⟨v, v', rfl, i1, i2⟩ := pair2 hp
    have i2 : v' = _ := i2
    subst i2
    exact ⟨_, _, _, rfl, Is.same mask_le i1, q.1, cl _ μ _ H q.2 M (Same.refl _) (.bl _)⟩
  · obtain ⟨v, v', rfl, i1, i2⟩ := pair2 hp
    have i2 : v' = _ := i2
    subst i2
    obtain ⟨hn, ds, hm, q⟩ := q
    have hi := (DatOf.m hm).is M i1
    exact ⟨_, _, _, rfl, hi, hn, cl _ μ _ H q M (Same.refl _) (.bl _)⟩
  · exact q.elim
abbrev TGd := En → Rho → Mu → (Rho → Mu → Prop) → Prop
abbrev TGsd := List PyData → Rho → Mu → (Rho → Mu → Prop) → Prop
def upG (K : PySem.W.Frag) (t : TGd) : TG := fun v σ H Q => ∃ e ρ μ Q0, IsE K μ H v e ∧ RelS K ρ μ σ H ∧ RelM K μ H ∧ t e ρ μ Q0 ∧ ClR K μ H Q0 Q
def upGs (K : PySem.W.Frag) (t : TGsd) : TGs := fun vs σ H Q => ∃ ds ρ μ Q0, IsAll K (mask μ H) vs ds ∧ RelS K ρ μ σ H ∧ RelM K μ H ∧ t ds ρ μ Q0 ∧ ClR K μ H Q0 Q
def DG (K : PySem.W.Frag) (X : Cx) (tg : Expr) (t : TGd) : Prop := PG X tg (upG K t)
def DGs (K : PySem.W.Frag) (X : Cx) (tg : List Expr) (t : TGsd) : Prop := PGs X tg (upGs K t)
theorem PG.mono {tg : Expr} {t t' : TG} (h : PG X tg t) (f : ∀ v σ H Q, t' v σ H Q → t v σ H Q) : PG X tg t' := fun pins s σ H v u Q I r q => h pins s σ H v u Q I r (f _ _ _ _ q)
theorem PGs.mono {tg : List Expr} {t t' : TGs} (h : PGs X tg t) (f : ∀ v σ H Q, t' v σ H Q → t v σ H Q) : PGs X tg t' := fun pins s σ H v u Q I r q => h pins s σ H v u Q I r (f _ _ _ _ q)
def dgName (i : Nat) : TGd := fun e ρ μ Q => Q (ρ.set i (some e)) μ
theorem dg_name {i : Nat} {x : Str} (hN : X.N.Nodup) (hi : X.N[i]? = some x) (hx : Loc X.env.scope x) (hf : X.fn x = true ∨ X.env.scope.names.lookup x = some .local := by first | exact .inl rfl | exact .inr rfl | assumption) : DG K X (.Name x pos) (dgName i) :=
  PG.mono (pg_name hN hi hx hf) fun v σ H Q ⟨e, ρ, μ, Q0, i1, hS, hM, h, cl⟩ => cl _ μ _ H h (hS.set i1) hM (Same.refl _)
def dgNil : TGsd := fun ds ρ μ Q => match ds with
  | [] => Q ρ μ
  | _ => False
def dgCons (t : TGd) (u : TGsd) : TGsd := fun ds ρ μ Q => match ds with
  | x :: r => t (.d x) ρ μ fun ρ' μ' => u r ρ' μ' Q
  | [] => False
theorem dgs_nil : DGs K X [] dgNil := PGs.mono pgs_nil fun vs σ H Q ⟨ds, ρ, μ, Q0, i1, hS, hM, h, cl⟩ => by
  unfold dgNil at h
  split at h
  · cases i1; exact ⟨rfl, cl _ μ _ H h hS hM (Same.refl _)⟩
  · exact h.elim
theorem dgs_cons {e : Expr} {es : List Expr} {t : TGd} {u : TGsd} (h1 : DG K X e t) (h2 : DGs K X es u)
    (hs : (assignEach (e :: es) X.env).map (·.2) = assign e X.env :: (assignEach es X.env).map (·.2) := by rfl) : DGs K X (e :: es) (dgCons t u) := PGs.mono (pgs_cons h1 h2 hs) fun vs σ H Q ⟨ds, ρ, μ, Q0, i1, hS, hM, h, cl⟩ => by
  unfold dgCons at h
  split at h
  · cases i1 with
    | cons i1 i2 =>
      refine ⟨_, _, rfl, .d _, ρ, μ, _, i1, hS, hM, h, fun ρ' μ' σ' H' q S' M' s' => ?_⟩
      exact ⟨_, ρ', μ', Q0, IsAll.same s' i2, S', M', q, cl.same s'⟩
  · exact h.elim
def dgTup (n : Nat) (t : TGsd) : TGd := fun e ρ μ Q => match e with
  | .d (.tuple ds) => ds.length = n ∧ t ds ρ μ Q
  | _ => False
theorem dg_tup {es : List Expr} {k : Nat} {t : TGsd} {n : Nat} (hc : X.calm = true) (h : DGs K X es t) (hK : X.K = K := by rfl)
    (hn : (assignEach es X.env).length = n := by rfl) (hst : (assignEach es X.env).findIdx? (·.1) = none := by rfl) : DG K X (.Tuple es k pos) (dgTup n t) := by
  subst hK
  refine PG.mono (pg_tup hc h hn hst) fun v σ H Q ⟨e, ρ, μ, Q0, i1, hS, hM, h, cl⟩ => ?_
  unfold dgTup at h
  split at h
  · obtain ⟨p, xs, rfl, hq, hA⟩ := (SeqOf.t _).get hM i1
    cases i1 with
    | tup h1 h2 =>
      refine ⟨_, _, rfl, ?_, by rw [h2.len]; exact h.1, _, ρ, μ, Q0, h2, hS, hM, h.2, cl⟩
      rcases h1 with (e | ⟨o, e⟩) | e
      · exact .inl (.inl (mask_le _ _ e))
      · exact .inl (.inr ⟨o, mask_le _ _ e⟩)
      · exact .inr e
  · exact h.elim
variable {st : Stmt} {rest : List Stmt} {t u : TSd} {e : Expr} {te : TEd}
def dNext : TSd := fun D ρ μ => D.nx ρ μ
def dSeq (t u : TSd) : TSd := fun D ρ μ => t { D with nx := u D } ρ μ
theorem ds_nil : DSs K X [] dNext := PSs.mono pss_nil fun D σ H ⟨ρ, μ, D0, hS, hM, h, cl⟩ => cl.nx _ μ _ H h hS hM (Same.refl _)
theorem ds_cons (h1 : DS K X st t) (h2 : DSs K X rest u) : DSs K X (st :: rest) (dSeq t u) := PSs.mono (pss_cons h1 h2) fun D σ H ⟨ρ, μ, D0, hS, hM, h, cl⟩ =>
  ⟨ρ, μ, _, hS, hM, h, ⟨fun ρ' μ' σ' H' q S' M' s' => ⟨ρ', μ', D0, S', M', q, cl.same s'⟩, cl.rt, cl.bk, cl.ct⟩⟩
theorem ds_one (h1 : DS K X st t) : DSs K X [st] t := pss_one h1
theorem ds_never : DS K X st (fun _ _ _ => False) := PS.mono ps_never fun D σ H ⟨ρ, μ, D0, hS, hM, h, cl⟩ => h
def dDrop (te : TEd) : TSd := fun D ρ μ => te ρ μ fun _ μ1 => D.nx ρ μ1
theorem ds_expr (he : DE K X e te) (hs : swapsWith e none pos.line X.env = pure false := by rfl) : DS K X (.Expr e pos) (dDrop te) := PS.mono (ps_expr he hs) fun D σ H ⟨ρ, μ, D0, hS, hM, h, cl⟩ =>
  ⟨ρ, μ, _, hS, hM, h, fun e' μ1 v H1 q M1 s1 i1 => cl.nx _ μ1 _ H1 q (hS.same s1) M1 s1⟩
def dRet (te : TEd) : TSd := fun D ρ μ => te ρ μ D.rt
theorem ds_ret (he : DE K X e te) : DS K X (.Return (some e) pos) (dRet te) := PS.mono (ps_ret he) fun D σ H ⟨ρ, μ, D0, hS, hM, h, cl⟩ => ⟨ρ, μ, _, hS, hM, h, cl.rt⟩
def FzR (μ : Mu) (e : En) (μ' : Mu) (e' : En) : Prop := ∀ (K : PySem.W.Frag) (v : V) (H : Hp), RelM K μ H → IsE K μ H v e → RelM K μ' H ∧ IsE K μ' H v e' ∧ Same (mask μ H) (mask μ' H)
theorem FzR.refl {μ : Mu} {e : En} : FzR μ e μ e := fun _ _ _ h i => ⟨h, i, Same.refl _⟩
theorem FzR.trans {μ μ1 μ2 : Mu} {e e1 e2 : En} (h : FzR μ e μ1 e1) (h' : FzR μ1 e1 μ2 e2) : FzR μ e μ2 e2 := fun K v H a b => by
  obtain ⟨a1, b1, s1⟩ := h K v H a b
  obtain ⟨a2, b2, s2⟩ := h' K v H a1 b1
  exact ⟨a2, b2, s1.trans s2⟩
theorem FzR.list {μ1 μ2 : Mu} {p : Addr} {ds : List PyData} : FzR (μ1 ++ (p, .lst ds) :: μ2) (.m p) (μ1 ++ μ2) (.d (.list ds)) := fun K v H h i => by
  obtain ⟨M', s, hn⟩ := h.drop
  obtain ⟨xs, e, hs⟩ := h.ob p (.lst ds) (by simp)
  have i : v = _ := i
  subst i
  exact ⟨M', .lst (SqL.of (by rw [mask_of hn]; exact e)) (IsAll.same s hs), s⟩
theorem FzR.list1 {μ2 : Mu} {p : Addr} {ds : List PyData} : FzR ((p, .lst ds) :: μ2) (.m p) μ2 (.d (.list ds)) := FzR.list (μ1 := [])
theorem FzR.drop {μ1 μ2 : Mu} {p : Addr} {o : MO} {e : En} : FzR (μ1 ++ (p, o) :: μ2) e (μ1 ++ μ2) e := fun K v H h i => by
  obtain ⟨M', s, hn⟩ := h.drop
  exact ⟨M', i.same s, s⟩
def dRetF (te : TEd) : TSd := fun D ρ μ => te ρ μ fun e μ1 => ∃ μ2 e2, FzR μ1 e μ2 e2 ∧ D.rt e2 μ2
theorem ds_retF (he : DE K X e te) : DS K X (.Return (some e) pos) (dRetF te) := PS.mono (ps_ret he) fun D σ H ⟨ρ, μ, D0, hS, hM, h, cl⟩ => ⟨ρ, μ, _, hS, hM, h, fun e' μ1 v H1 q M1 s1 i1 => by
  obtain ⟨μ2, e2, f, q⟩ := q
  obtain ⟨M2, i2, s2⟩ := f K v H1 M1 i1
  exact cl.rt _ μ2 _ H1 q M2 (s1.trans s2) i2⟩
def dIfS (c : TTd) (t u : TSd) : TSd := fun D ρ μ => c ρ μ fun b μ1 => if b = true then t D ρ μ1 else u D ρ μ1
theorem ds_if {c : Expr} {a b : List Stmt} {tc : TTd} (hc : DT K X c tc) (ha : DSs K X a t) (hb : DSs K X b u) : DS K X (.If c a b pos) (dIfS tc t u) := PS.mono (ps_if hc ha hb) fun D σ H ⟨ρ, μ, D0, hS, hM, h, cl⟩ =>
  ⟨ρ, μ, _, hS, hM, h, fun k μ1 H1 q M1 s1 => by
    cases k with
    | true => exact iteT ⟨ρ, μ1, D0, hS.same s1, M1, by simpa using q, cl.same s1⟩
    | false => exact iteF ⟨ρ, μ1, D0, hS.same s1, M1, by simpa using q, cl.same s1⟩⟩
def dAsg (te : TEd) (g : TGd) : TSd := fun D ρ μ => te ρ μ fun e μ1 => g e ρ μ1 D.nx
theorem ds_set {i : Nat} {x : Str} {pos' : Pos} (hN : X.N.Nodup) (hi : X.N[i]? = some x) (hx : Loc X.env.scope x) (he : DE K X e te) (hs : swapsWith e (some (.Name x pos')) pos.line X.env = pure false := by rfl) (hf : X.fn x = true ∨ X.env.scope.names.lookup x = some .local := by first | exact .inl rfl | exact .inr rfl | assumption) :
    DS K X (.Assign [.Name x pos'] e pos) (dAsg te (dgName i)) := PS.mono (ps_set hN hi hx he hs hf) fun D σ H ⟨ρ, μ, D0, hS, hM, h, cl⟩ =>
  ⟨ρ, μ, _, hS, hM, h, fun e' μ1 v H1 q M1 s1 i1 => cl.nx _ μ1 _ H1 q ((hS.same s1).set i1) M1 s1⟩
theorem ds_asg {tg : Expr} {g : TGd} (he : DE K X e te) (hg : DG K X tg g) (hs : swapsWithSole [tg] e pos.line X.env = pure false := by rfl) (hw : swappedStores [tg] e X.env = pure none := by rfl)
    (h1 : (assignEach [tg] X.env).map (·.2) = [assign tg X.env] := by rfl) : DS K X (.Assign [tg] e pos) (dAsg te g) := PS.mono (ps_asg he hg hs hw h1) fun D σ H ⟨ρ, μ, D0, hS, hM, h, cl⟩ =>
  ⟨ρ, μ, _, hS, hM, h, fun e' μ1 v H1 q M1 s1 i1 => ⟨e', ρ, μ1, D0.nx, i1, hS.same s1, M1, q, cl.nx.same s1⟩⟩
def dPar (i j : Nat) (ta : TAd) : TSd := fun D ρ μ => ta ρ μ fun es μ1 => match es with
  | [e, e'] => D.nx ((ρ.set i (some e)).set j (some e')) μ1
  | _ => False
theorem ds_par {i j : Nat} {x y : Str} {a b : Expr} {ta : TAd} {px py pt : Pos} {kt k2 pt2} (hc : X.calm = true) (hN : X.N.Nodup) (hi : X.N[i]? = some x) (hj : X.N[j]? = some y) (hij : i ≠ j)
    (hx : X.env.scope.names.lookup x = some .local) (hy : X.env.scope.names.lookup y = some .local) (ha : DA K X [a, b] ta)
    (hw : swappedStores [.Tuple [.Name x px, .Name y py] kt pt] (.Tuple [a, b] k2 pt2) X.env = pure (some [x, y]))
    (hs : swapsWithSole [.Tuple [.Name x px, .Name y py] kt pt] (.Tuple [a, b] k2 pt2) pos.line X.env = pure false := by rfl) :
    DS K X (.Assign [.Tuple [.Name x px, .Name y py] kt pt] (.Tuple [a, b] k2 pt2) pos) (dPar i j ta) := PS.mono (ps_par hc hN hi hj hij hx hy ha hw hs) fun D σ H ⟨ρ, μ, D0, hS, hM, h, cl⟩ =>
  ⟨ρ, μ, _, hS, hM, h, fun es μ1 vs H1 q M1 s1 i1 => by
    split at q
    · obtain ⟨v, v', rfl, h1, h2⟩ := pair2 i1
      exact ⟨_, _, rfl, cl.nx _ μ1 _ H1 q (((hS.same s1).set h1).set h2) M1 s1⟩
    · exact q.elim⟩
structure Itd where
  n : Nat
  item : Nat → En
  ok : Mu → Prop
abbrev TId := Rho → Mu → (Itd → Mu → Prop) → Prop
def Sim (K : PySem.W.Frag) (J0 : Itd) (μ1 : Mu) (H1 : Hp) (J : It) : Prop := ∀ μ' H', RelM K μ' H' → Same (mask μ1 H1) (mask μ' H') → J0.ok μ' → ∀ i,
  (i < J0.n → J.go i H' ∧ ∀ x H2, J.yld i H' x H2 → RelM K μ' H2 ∧ Same (mask μ' H') (mask μ' H2) ∧ IsE K μ' H2 x (J0.item i)) ∧ (J0.n ≤ i → J.stop i H')
def upI (K : PySem.W.Frag) (t : TId) : TI := fun σ H R => ∃ ρ μ Q0, RelS K ρ μ σ H ∧ RelM K μ H ∧ t ρ μ Q0 ∧ ∀ J0 μ1 J H1, Q0 J0 μ1 → RelM K μ1 H1 → Same (mask μ H) (mask μ1 H1) → Sim K J0 μ1 H1 J → R J H1
def DI (K : PySem.W.Frag) (X : Cx) (tg iter : Expr) (t : TId) : Prop := PI X tg iter (upI K t)
variable {tg iter : Expr}
theorem PI.mono {wi wi' : TI} (h : PI X tg iter wi) (f : ∀ σ H R, wi' σ H R → wi σ H R) : PI X tg iter wi' := fun pins s σ H R I q => h pins s σ H R I (f _ _ _ q)
def itL (e : En) (ds : List PyData) : Itd := ⟨ds.length, fun i => .d (ds.getD i .none), fun μ => LstOf μ e ds⟩
def itT (ds : List PyData) : Itd := ⟨ds.length, fun i => .d (ds.getD i .none), fun _ => True⟩
def itR (lo : Int) (n : Nat) : Itd := ⟨n, fun i => .d (.int (lo + i)), fun _ => True⟩
def diL (te : TEd) : TId := fun ρ μ Q => te ρ μ fun e μ1 => ∃ ds, LstOf μ1 e ds ∧ Q (itL e ds) μ1
def diT (te : TEd) : TId := fun ρ μ Q => te ρ μ fun e μ1 => match e with
  | .d (.tuple ds) => Q (itT ds) μ1
  | _ => False
def diR1 (ta : TAd) : TId := fun ρ μ Q => ta ρ μ fun es μ1 => match es with
  | [.d (.int j)] => -(2 ^ 62) ≤ j ∧ j < 2 ^ 62 ∧ Q (itR 0 j.toNat) μ1
  | _ => False
theorem getD_get {ds : List PyData} {i : Nat} {x : PyData} (h : ds[i]? = some x) : ds.getD i .none = x := by rw [List.getD_eq_getElem?_getD, h]; rfl
theorem di_list {l : Expr} (hl : DE K X l te) (hK : X.K = K := by rfl) : DI K X tg l (diL te) := by
  subst hK
  refine PI.mono (pi_list hl) fun σ H R ⟨ρ, μ, Q0, hS, hM, h, cl⟩ => ⟨ρ, μ, _, hS, hM, h, fun e μ1 v H1 q M1 s1 i1 => ?_⟩
  obtain ⟨ds, hL, q⟩ := q
  obtain ⟨p, xs, rfl, h1, h2⟩ := hL.get M1 i1
  refine ⟨p, rfl, ⟨xs, h1⟩, cl _ μ1 _ H1 q M1 s1 fun μ' H' M' s' hok i => ?_⟩
  obtain ⟨p', xs', e', h3, h4⟩ := LstOf.get hok M' (i1.same s')
  cases e'
  have hl := h4.len
  refine ⟨fun hi => ⟨⟨xs', xs'[i]'(by rw [hl]; exact hi), h3, by simp⟩, ?_⟩, fun hi => ⟨xs', h3, by rw [hl]; exact hi⟩⟩
  rintro x H2 ⟨rfl, hx⟩
  refine ⟨M', Same.refl _, ?_⟩
  obtain ⟨d, e1, e2⟩ := h4.get (hx xs' h3)
  show Is X.K (mask μ' H2) x (ds.getD i .none)
  rw [getD_get e1]
  exact e2
theorem SqT.up {μ : Mu} {H : Hp} {p : Addr} {xs : List V} (h : SqT K (mask μ H) p xs) : SqT K H p xs := by
  rcases h with (e | ⟨o, e⟩) | e
  · exact .inl (.inl (mask_le _ _ e))
  · exact .inl (.inr ⟨o, mask_le _ _ e⟩)
  · exact .inr e
theorem SqT.same {H H' : Hp} {p : Addr} {xs : List V} (s : Same H H') (h : SqT K H p xs) : SqT K H' p xs := by
  rcases h with (e | ⟨o, e⟩) | e
  · exact .inl (.inl (s _ _ e))
  · exact .inl (.inr ⟨o, s _ _ e⟩)
  · exact .inr e
theorem di_tup {l : Expr} (hl : DE K X l te) (hK : X.K = K := by rfl) : DI K X tg l (diT te) := by
  subst hK
  refine PI.mono (pi_tup hl) fun σ H R ⟨ρ, μ, Q0, hS, hM, h, cl⟩ => ⟨ρ, μ, _, hS, hM, h, fun e μ1 v H1 q M1 s1 i1 => ?_⟩
  split at q
  · rename_i ds
    cases i1 with
    | @tup p xs _ h1 h2 =>
      refine ⟨p, rfl, ⟨xs, h1.up⟩, cl _ μ1 _ H1 q M1 s1 fun μ' H' M' s' hok i => ?_⟩
      have h3 := (SqT.same s' h1).up
      have h4 := IsAll.same s' h2
      have hl := h4.len
      refine ⟨fun hi => ⟨⟨xs, xs[i]'(by rw [hl]; exact hi), h3, by simp⟩, ?_⟩, fun hi => ⟨xs, h3, by rw [hl]; exact hi⟩⟩
      rintro x H2 ⟨rfl, hx⟩
      refine ⟨M', Same.refl _, ?_⟩
      obtain ⟨d, e1, e2⟩ := h4.get (hx xs h3)
      show Is X.K (mask μ' H2) x (ds.getD i .none)
      rw [getD_get e1]
      exact e2
  · exact q.elim
theorem sim_range {lo : Int} {n : Nat} {μ1 : Mu} {H1 : Hp} : Sim K (itR lo n) μ1 H1 (Itr lo n) := fun μ' H' M' s' _ i =>
  ⟨fun hi => ⟨hi, fun x H2 ⟨e, y⟩ => by subst e y; exact ⟨M', Same.refl _, .int _⟩⟩, fun hi => hi⟩
theorem di_range1 {a : Expr} {ta : TAd} {p : Pos} (hg : Gl X "range") (hm : X.mg "range" = none) (ha : DA K X [a] ta) (hs : starEach [a] X.env = [(false, eval a X.env)] := by rfl) : DI K X tg (.Call (.Name "range" p) [a] [] pos) (diR1 ta) :=
  PI.mono (pi_range1 hg hm ha hs) fun σ H R ⟨ρ, μ, Q0, hS, hM, h, cl⟩ => ⟨ρ, μ, _, hS, hM, h, fun es μ1 vs H1 q M1 s1 i1 => by
    split at q
    · obtain ⟨v, rfl, h1⟩ := pair1 i1
      cases h1
      exact ⟨_, rfl, q.1, q.2.1, cl _ μ1 _ H1 q.2.2 M1 s1 sim_range⟩
    · exact q.elim⟩
def Wks (P : Rho → Mu → Prop) : Rho → Mu → Prop := fun ρ μ => ∃ ρ' μ', Wk ρ μ ρ' μ' ∧ P ρ' μ'
theorem Wks.of {P : Rho → Mu → Prop} {ρ : Rho} {μ : Mu} (h : P ρ μ) : Wks P ρ μ := ⟨ρ, μ, Wk.refl, h⟩
def dFor (ti : TId) (g : TGd) (tb : TSd) : TSd := fun D ρ μ => ti ρ μ fun J μ1 => ∃ Pv : Nat → Rho → Mu → Prop, Pv 0 ρ μ1 ∧ (∀ i ρ' μ', i ≤ J.n → Pv i ρ' μ' → J.ok μ') ∧
  (∀ i ρ' μ', i < J.n → Pv i ρ' μ' → g (J.item i) ρ' μ' fun ρ2 μ2 => tb { D with nx := Wks (Pv (i + 1)), ct := Wks (Pv (i + 1)), bk := D.nx } ρ2 μ2) ∧ ∀ ρ' μ', Pv J.n ρ' μ' → D.nx ρ' μ'
theorem ds_for {body : List Stmt} {ti : TId} {g : TGd} {tb : TSd} (hp : PassesOwn (model X.prog X.w) X.A X.env X.xe) (hc : X.calm = true) (hi : DI K X tg iter ti) (hg : DG K X tg g) (hb : DSs K X body tb)
    (hs : ∀ x, foldedSetIterable iter X.env x = pure x := by intro _; rfl) : DS K X (.For tg iter body [] pos) (dFor ti g tb) := by
  refine PS.mono (ps_for hp hc hi hg hb hs) fun D σ H ⟨ρ, μ, D0, hS, hM, h, cl⟩ => ⟨ρ, μ, _, hS, hM, h, fun J0 μ1 J H1 q M1 s1 sim => ?_⟩
  obtain ⟨Pv, h0, hok, hstep, hend⟩ := q
  refine ⟨fun i m σ' H' => m = J0.n - i ∧ i ≤ J0.n ∧ ∃ ρ' μ', RelS K ρ' μ' σ' H' ∧ RelM K μ' H' ∧ Same (mask μ1 H1) (mask μ' H') ∧ Pv i ρ' μ', ⟨_, rfl, Nat.zero_le _, ρ, μ1, hS.same s1, M1, Same.refl _, h0⟩, ?_⟩
  rintro i m σ' H' ⟨rfl, hi, ρ', μ', S', M', s', p⟩
  have sm := sim μ' H' M' s' (hok i ρ' μ' hi p) i
  by_cases hlt : i < J0.n
  · obtain ⟨hgo, hy⟩ := sm.1 hlt
    refine .inr ⟨hgo, fun σ2 H2 => ∃ ρ' μ', RelS K ρ' μ' σ2 H2 ∧ RelM K μ' H2 ∧ Same (mask μ1 H1) (mask μ' H2) ∧ Pv (i + 1) ρ' μ', fun σ2 H2 z => ⟨J0.n - (i + 1), by omega, rfl, hlt, z⟩, fun x H2 y => ?_⟩
    obtain ⟨M2, s2, i2⟩ := hy x H2 y
    refine ⟨_, ρ', μ', _, i2, S'.same s2, M2, hstep i ρ' μ' hlt p, fun ρ3 μ3 σ3 H3 q3 S3 M3 s3 => ⟨ρ3, μ3, _, S3, M3, q3, ?_⟩⟩
    have st := (s'.trans s2).trans s3
    have again : ∀ {ρ4 μ4 σ4 H4}, Wks (Pv (i + 1)) ρ4 μ4 → RelS K ρ4 μ4 σ4 H4 → RelM K μ4 H4 → Same (mask μ3 H3) (mask μ4 H4) → ∃ ρ' μ', RelS K ρ' μ' σ4 H4 ∧ RelM K μ' H4 ∧ Same (mask μ1 H1) (mask μ' H4) ∧ Pv (i + 1) ρ' μ' := by
      rintro ρ4 μ4 σ4 H4 ⟨ρ5, μ5, wk, p5⟩ S4 M4 s4
      obtain ⟨S5, M5, s5⟩ := wk K σ4 H4 S4 M4
      exact ⟨ρ5, μ5, S5, M5, (st.trans s4).trans s5, p5⟩
    exact ⟨fun _ _ _ _ a b c d => again a b c d, cl.rt.same (s1.trans st), cl.nx.same (s1.trans st), fun _ _ _ _ a b c d => again a b c d⟩
  · have e : i = J0.n := by omega
    subst e
    exact .inl ⟨sm.2 (Nat.le_refl _), cl.nx _ μ' _ H' (hend ρ' μ' p) S' M' (s1.trans s')⟩
def dWhile (c : TTd) (tb : TSd) : TSd := fun D ρ μ => ∃ Pv : Nat → Rho → Mu → Prop, (∃ m, Pv m ρ μ) ∧ ∀ m ρ' μ', Pv m ρ' μ' → c ρ' μ' fun b μ1 => if b = true then
  tb { D with nx := fun ρ2 μ2 => ∃ m', m' < m ∧ Wks (Pv m') ρ2 μ2, ct := fun ρ2 μ2 => ∃ m', m' < m ∧ Wks (Pv m') ρ2 μ2, bk := D.nx } ρ' μ1 else D.nx ρ' μ1
theorem ds_while {c : Expr} {body : List Stmt} {tc : TTd} {tb : TSd} (hp : PassesOwn (model X.prog X.w) X.A X.env X.xe) (hc : DT K X c tc) (hb : DSs K X body tb) : DS K X (.While c body [] pos) (dWhile tc tb) := by
  refine PS.mono (ps_while hp hc hb) fun D σ H ⟨ρ, μ, D0, hS, hM, h, cl⟩ => ?_
  obtain ⟨Pv, ⟨m0, h0⟩, hstep⟩ := h
  refine ⟨fun m σ' H' => ∃ ρ' μ', RelS K ρ' μ' σ' H' ∧ RelM K μ' H' ∧ Same (mask μ H) (mask μ' H') ∧ Pv m ρ' μ', ⟨m0, ρ, μ, hS, hM, Same.refl _, h0⟩, ?_⟩
  rintro m σ' H' ⟨ρ', μ', S', M', s', p⟩
  refine ⟨ρ', μ', _, S', M', hstep m ρ' μ' p, fun k μ1 H1 q M1 s1 => ?_⟩
  cases k with
  | true =>
    refine iteT ⟨fun σ2 H2 => ∃ m', m' < m ∧ ∃ ρ' μ', RelS K ρ' μ' σ2 H2 ∧ RelM K μ' H2 ∧ Same (mask μ H) (mask μ' H2) ∧ Pv m' ρ' μ', fun σ2 H2 z => z, ρ', μ1, _, S'.same s1, M1, by simpa using q, ?_⟩
    have st := s'.trans s1
    have again : ∀ {ρ4 μ4 σ4 H4}, (∃ m', m' < m ∧ Wks (Pv m') ρ4 μ4) → RelS K ρ4 μ4 σ4 H4 → RelM K μ4 H4 → Same (mask μ1 H1) (mask μ4 H4) → ∃ m', m' < m ∧ ∃ ρ' μ', RelS K ρ' μ' σ4 H4 ∧ RelM K μ' H4 ∧ Same (mask μ H) (mask μ' H4) ∧ Pv m' ρ' μ' := by
      rintro ρ4 μ4 σ4 H4 ⟨m', hm, ρ5, μ5, wk, p5⟩ S4 M4 s4
      obtain ⟨S5, M5, s5⟩ := wk K σ4 H4 S4 M4
      exact ⟨m', hm, ρ5, μ5, S5, M5, (st.trans s4).trans s5, p5⟩
    exact ⟨fun _ _ _ _ a b c d => again a b c d, cl.rt.same st, cl.nx.same st, fun _ _ _ _ a b c d => again a b c d⟩
  | false => exact iteF (cl.nx _ μ1 _ H1 (by simpa using q) (S'.same s1) M1 (s'.trans s1))
def dYes : TTd := fun _ μ Q => Q true μ
def DIfs (K : PySem.W.Frag) (X : Cx) (ifs : List Expr) (t : TTd) : Prop := Ifs X ifs (upT K t)
theorem dfs_nil : DIfs K X [] dYes := fun pins s σ H Q I ⟨ρ, μ, Q0, hS, hM, h, cl⟩ => ifs_nil pins s σ H Q I (cl true μ H h hM (Same.refl _))
def Fin1 (Q : En → Mu → Prop) (ys : List PyData) (μ : Mu) : Prop := Q (.d (.list ys)) μ
def dComp (k : Nat) (ti : TId) (g : TGd) (tt : TTd) (te : TEd) : TEd := fun ρ μ Q => ti ρ μ fun J μ1 => J.n ≤ 1000 ∧ ∃ Pv : Nat → List PyData → Rho → Mu → Prop, Pv 0 [] (ρ ++ List.replicate k none) μ1 ∧ (∀ i ys ρ' μ', i ≤ J.n → Pv i ys ρ' μ' → J.ok μ') ∧
  (∀ i ys ρ' μ', i < J.n → Pv i ys ρ' μ' → g (J.item i) ρ' μ' fun ρ2 μ2 => tt ρ2 μ2 fun b μ3 => if b = true then te ρ2 μ3 fun y μ4 => ∃ z, y = .d z ∧ Pv (i + 1) (ys ++ [z]) ρ2 μ4 else Pv (i + 1) ys ρ2 μ3) ∧
  ∀ ys ρ' μ', Pv J.n ys ρ' μ' → Fin1 Q ys μ'
theorem up_comp {k : Nat} {ti : TId} {g : TGd} {tt : TTd} {te : TEd} {σ : St} {H : Hp} {Q : VK} (h : up K (dComp k ti g tt te) σ H Q) : tComp k (upI K ti) (upG K g) (upT K tt) (up K te) σ H Q := by
  obtain ⟨ρ, μ, Q0, hS, hM, h, cl⟩ := h
  refine ⟨ρ, μ, _, hS, hM, h, fun J0 μ1 J H1 q M1 s1 sim => ?_⟩
  obtain ⟨hn, Pv, h0, hok, hstep, hend⟩ := q
  have S0 : RelS K (ρ ++ List.replicate k none) μ1 (σ ++ List.replicate k none) H1 := by
    have S1 := hS.same s1
    refine ⟨by simp [S1.len], fun i e he => ?_⟩
    by_cases hi : i < ρ.length
    · rw [List.getElem?_append_left hi] at he
      rw [List.getElem?_append_left (by rw [← S1.len]; exact hi)]
      exact S1.get i e he
    · rw [List.getElem?_append_right (by omega), List.getElem?_replicate] at he
      split at he <;> cases he
  refine ⟨fun i m ys σ' H' => m = J0.n - i ∧ i ≤ J0.n ∧ ys.length ≤ i ∧ ∃ ds ρ' μ', RelS K ρ' μ' σ' H' ∧ RelM K μ' H' ∧ Same (mask μ1 H1) (mask μ' H') ∧ IsAll K (mask μ' H') ys ds ∧ Pv i ds ρ' μ', ⟨_, rfl, Nat.zero_le _, Nat.le_refl _, [], _, μ1, S0, M1, Same.refl _, .nil, h0⟩, ?_⟩
  rintro i m ys σ' H' ⟨rfl, hi, hy, ds, ρ', μ', S', M', s', hA, p⟩
  have sm := sim μ' H' M' s' (hok i ds ρ' μ' hi p) i
  by_cases hlt : i < J0.n
  · obtain ⟨hgo, hyl⟩ := sm.1 hlt
    refine .inr ⟨hgo, small1000 (by omega), fun ys2 σ2 H2 => ys2.length ≤ i + 1 ∧ ∃ ds ρ' μ', RelS K ρ' μ' σ2 H2 ∧ RelM K μ' H2 ∧ Same (mask μ1 H1) (mask μ' H2) ∧ IsAll K (mask μ' H2) ys2 ds ∧ Pv (i + 1) ds ρ' μ', fun ys2 σ2 H2 z => ⟨J0.n - (i + 1), by omega, rfl, hlt, z⟩, fun x H2 y => ?_⟩
    obtain ⟨M2, s2, i2⟩ := hyl x H2 y
    refine ⟨_, ρ', μ', _, i2, S'.same s2, M2, hstep i ds ρ' μ' hlt p, fun ρ3 μ3 σ3 H3 q3 S3 M3 s3 => ⟨ρ3, μ3, _, S3, M3, q3, fun b μ4 H4 q4 M4 s4 => ?_⟩⟩
    have st := ((s'.trans s2).trans s3).trans s4
    cases b with
    | true =>
      refine iteT ⟨ρ3, μ4, _, S3.same s4, M4, (by simpa using q4), fun e μ5 v H5 q5 M5 s5 i5 => ?_⟩
      obtain ⟨z, rfl, q5⟩ := q5
      exact ⟨by simp; omega, _, ρ3, μ5, (S3.same s4).same s5, M5, st.trans s5, IsAll.snoc i5 (IsAll.same (((s2.trans s3).trans s4).trans s5) hA), q5⟩
    | false => exact iteF ⟨by omega, _, ρ3, μ4, S3.same s4, M4, st, IsAll.same ((s2.trans s3).trans s4) hA, by simpa using q4⟩
  · have e : i = J0.n := by omega
    subst e
    refine .inl ⟨sm.2 (Nat.le_refl _), fun D hD => ?_⟩
    obtain ⟨M4, s4, hn⟩ := M'.laid (o := .lst ys) hD
    exact cl _ μ' _ _ (hend ds ρ' μ' p) M4 ((s1.trans s').trans s4) (.lst (SqL.of (by rw [mask_of hn]; exact upd_same)) (IsAll.same s4 hA))
theorem d_comp {L : List Str} {scope sc : Scope} {N : List Str} {elt : Expr} {ifs : List Expr} {ti : TId} {g : TGd} {tt : TTd} {te : TEd}
    (hc : X.calm = true) (hsc : X.env.scope = sc) (hN : X.N = N) (ok : compOk sc N L scope = true)
    (hi : DI K X tg iter ti) (hg : ∀ cl C s₂ H₂ fp, DG K (compCx X L scope cl C s₂ H₂ fp) tg g) (hf : ∀ cl C s₂ H₂ fp, DIfs K (compCx X L scope cl C s₂ H₂ fp) ifs tt) (he : ∀ cl C s₂ H₂ fp, DE K (compCx X L scope cl C s₂ H₂ fp) elt te)
    (hs : ∀ x, foldedSetIterable iter X.env x = pure x := by intro _; rfl) :
    DE K X (.ListComp elt [⟨tg, iter, ifs, 0⟩] scope pos) (dComp L.length ti g tt te) := PE.mono (pe_comp hc hsc hN ok hi hg hf he hs) fun _ _ _ => up_comp
theorem ds_setc {i : Nat} {x : Str} {pos' spos : Pos} {L : List Str} {scope sc : Scope} {N : List Str} {elt : Expr} {ifs : List Expr} {ti : TId} {g : TGd} {tt : TTd} {te : TEd}
    (hNd : X.N.Nodup) (hxi : X.N[i]? = some x) (hx : Loc X.env.scope x)
    (hc : X.calm = true) (hsc : X.env.scope = sc) (hN : X.N = N) (ok : compOk sc N L scope = true)
    (hi : DI K X tg iter ti) (hg : ∀ cl C s₂ H₂ fp, DG K (compCx X L scope cl C s₂ H₂ fp) tg g) (hf : ∀ cl C s₂ H₂ fp, DIfs K (compCx X L scope cl C s₂ H₂ fp) ifs tt) (he : ∀ cl C s₂ H₂ fp, DE K (compCx X L scope cl C s₂ H₂ fp) elt te)
    (hsw : swapsWith (.ListComp elt [⟨tg, iter, ifs, 0⟩] scope pos) (some (.Name x pos')) spos.line X.env = pure true := by rfl)
    (hs : ∀ x, foldedSetIterable iter X.env x = pure x := by intro _; rfl)
    (hfn : X.fn x = true ∨ X.env.scope.names.lookup x = some .local := by first | exact .inl rfl | exact .inr rfl | assumption) :
    DS K X (.Assign [.Name x pos'] (.ListComp elt [⟨tg, iter, ifs, 0⟩] scope pos) spos) (dAsg (dComp L.length ti g tt te) (dgName i)) :=
  PS.mono (ps_setc hNd hxi hx hc hsc hN ok hi hg hf he hsw hs hfn) fun D σ H ⟨ρ, μ, D0, hS, hM, h, cl⟩ => up_comp (Q := fun x H1 => gName i x σ H1 D.nx) ⟨ρ, μ, _, hS, hM, h, fun e' μ1 v H1 q M1 s1 i1 => cl.nx _ μ1 _ H1 q ((hS.same s1).set i1) M1 s1⟩
end
section
variable {P : Program} {w : World} {K : PySem.W.Frag} {mg : Str → Option Value} {base : Heap} {CX : CXT}
theorem Paired.mapSome {K : PySem.W.Frag} {μ : Mu} {H : Hp} {vs : List V} {es : List En} (h : Paired (IsE K μ H) vs es) (n m : Nat) (hn : n - vs.length = m - es.length) : RelS K (es.map some ++ List.replicate (m - es.length) none) μ (vs.map some ++ List.replicate (n - vs.length) none) H := by
  have hl : vs.length = es.length := PySem.Paired.length h
  refine ⟨by simp [hl] at *; omega, fun i e he => ?_⟩
  by_cases hi : i < es.length
  · rw [List.getElem?_append_left (by simpa using hi), List.getElem?_map] at he
    rw [List.getElem?_append_left (by simp; omega), List.getElem?_map]
    cases q : es[i]? with
    | none => rw [q] at he; cases he
    | some e' =>
      rw [q] at he
      cases he
      obtain ⟨v, e1, e2⟩ := L2.Paired.get' h q
      exact ⟨v, by rw [e1]; rfl, e2⟩
  · rw [List.getElem?_append_right (by simp; omega), List.getElem?_replicate] at he
    split at he <;> cases he
theorem Fun.okD {x qual : Str} {st : Stmt} {f : Addr} {fd : FuncData} {N ps : List Str} {k : Nat} {sp : SpD} (F : Fun K x qual st f fd) (S : FnScope N ps (defScope st)) (len : ∀ es μ Q, sp es μ Q → es.length = ps.length)
    (hbody : ∀ (cdv : Value) (A : Around) (outer : List Env) (s : Shared) (H : Hp) (E : XK) (es : List En) (μ : Mu) (Q : En → Mu → Prop), Room k (A.deeper (envOfC qual (defScope st) s.heap.objs.size f cdv)) → sp es μ Q →
      ∃ t, DSs K (cxOf CX P w K mg base N qual (defScope st) f cdv A outer s H E).nox (defBody st) t ∧ t { nx := fun _ μ' => Q (.d .none) μ', rt := Q } (es.map some ++ List.replicate (N.length - es.length) none) μ) : FnOk P w K mg base CX (k + 1) f fd ps (spUp K sp) := by
  refine F.okG S (fun vs H Q E ⟨μ, es, Q0, M, hp, h, cl⟩ => (PySem.Paired.length hp).trans (len es μ Q0 h)) (fun cdv A outer s H vs Q E hr ⟨μ, es, Q0, M, hp, h, cl⟩ => ?_)
  obtain ⟨t, ht, hq⟩ := hbody cdv A outer s H E es μ Q0 hr h
  have hl : vs.length = es.length := PySem.Paired.length hp
  refine ⟨upS K t, ht, _, μ, _, Paired.mapSome hp N.length N.length (by rw [hl]), M, hq, ⟨fun ρ' μ' σ' H' q S' M' s' => cl _ μ' .non H' q M' s' .non, cl, fun _ _ _ _ q => q.elim, fun _ _ _ _ q => q.elim⟩⟩
theorem Own.imp {k : Nat} {x : Str} {ps : List Str} {sp sp' : Sp} (O : Own P w K mg base CX k x ps sp) (h : ∀ vs H Q E, sp' vs H Q E → sp vs H Q E) : Own P w K mg base CX k x ps sp' := by
  obtain ⟨f, fd, F, r⟩ := O
  exact ⟨f, fd, F.imp h, r⟩
end
end L2
set_option Elab.async false
set_option linter.all false
set_option maxRecDepth 100000
set_option maxHeartbeats 4000000
namespace L2
open PySem PySem.Spec PyProof.Rows
section
variable {X : Cx} {K : PySem.W.Frag} {a b c : Expr} {ta tb tc : TEd} {tA tB : TTd} {pos : Pos} {es : List Expr} {tr : TAd}
def rdIx : R2d := fun x y μ Q => match x, y with
  | .d (.tuple ds), .d (.int i) => ∃ z, atI ds i = some z ∧ Q (.d z) μ
  | .d (.list ds), .d (.int i) => ∃ z, atI ds i = some z ∧ Q (.d z) μ
  | .m p, .d (.int i) => ∃ ds z, (p, .lst ds) ∈ μ ∧ atI ds i = some z ∧ Q (.d z) μ
  | _, _ => False
theorem dx_seq (hK : X.K = K := by rfl) : IxR X (upR K rdIx) := by
  refine (IxR.or (dx_list (K := K) hK) (dx_tup (K := K) hK)).mono fun x y H Q h => ?_
  obtain ⟨μ, e, e', Q0, M, i1, i2, q, cl⟩ := h
  unfold rdIx at q
  split at q
  · exact .inr ⟨μ, _, _, Q0, M, i1, i2, q, cl⟩
  · obtain ⟨z, h1, q⟩ := q
    exact .inl ⟨μ, _, _, Q0, M, i1, i2, ⟨_, z, .d _, h1, q⟩, cl⟩
  · obtain ⟨ds, z, h0, h1, q⟩ := q
    exact .inl ⟨μ, _, _, Q0, M, i1, i2, ⟨ds, z, .m h0, h1, q⟩, cl⟩
  · exact q.elim
def rdCat : R2d := fun x y μ Q => match x, y with
  | .d (.int i), .d (.int j) => Q (.d (.int (i + j))) μ
  | _, _ => ∃ ds es, LstOf μ x ds ∧ LstOf μ y es ∧ ds.length + es.length ≤ 1000 ∧ Q (.d (.list (ds ++ es))) μ
section forms
variable {g : TGd} {tb : TSd} {D : EndsD} {ρ : Rho} {μ : Mu} {te : TEd} {tt : TTd} {Q : En → Mu → Prop}
theorem forL {e : En} {ds : List PyData} (Pv : Nat → Rho → Mu → Prop) (h0 : Pv 0 ρ μ) (hok : ∀ i ρ' μ', Pv i ρ' μ' → LstOf μ' e ds)
    (hs : ∀ i x ρ' μ', ds[i]? = some x → Pv i ρ' μ' → g (.d x) ρ' μ' fun ρ2 μ2 => tb { D with nx := Wks (Pv (i + 1)), ct := Wks (Pv (i + 1)), bk := D.nx } ρ2 μ2) (hd : ∀ ρ' μ', Pv ds.length ρ' μ' → D.nx ρ' μ') :
    ∃ Pv : Nat → Rho → Mu → Prop, Pv 0 ρ μ ∧ (∀ i ρ' μ', i ≤ (itL e ds).n → Pv i ρ' μ' → (itL e ds).ok μ') ∧
      (∀ i ρ' μ', i < (itL e ds).n → Pv i ρ' μ' → g ((itL e ds).item i) ρ' μ' fun ρ2 μ2 => tb { D with nx := Wks (Pv (i + 1)), ct := Wks (Pv (i + 1)), bk := D.nx } ρ2 μ2) ∧ ∀ ρ' μ', Pv (itL e ds).n ρ' μ' → D.nx ρ' μ' := by
  refine ⟨Pv, h0, fun i ρ' μ' _ p => hok i ρ' μ' p, fun i ρ' μ' hi p => ?_, hd⟩
  have hi : i < ds.length := hi
  have e1 : ds[i]? = some ds[i] := List.getElem?_eq_getElem hi
  show g (.d (ds.getD i .none)) ρ' μ' _
  rw [getD_get e1]
  exact hs i _ ρ' μ' e1 p
theorem forT {ds : List PyData} (Pv : Nat → Rho → Mu → Prop) (h0 : Pv 0 ρ μ)
    (hs : ∀ i x ρ' μ', ds[i]? = some x → Pv i ρ' μ' → g (.d x) ρ' μ' fun ρ2 μ2 => tb { D with nx := Wks (Pv (i + 1)), ct := Wks (Pv (i + 1)), bk := D.nx } ρ2 μ2) (hd : ∀ ρ' μ', Pv ds.length ρ' μ' → D.nx ρ' μ') :
    ∃ Pv : Nat → Rho → Mu → Prop, Pv 0 ρ μ ∧ (∀ i ρ' μ', i ≤ (itT ds).n → Pv i ρ' μ' → (itT ds).ok μ') ∧
      (∀ i ρ' μ', i < (itT ds).n → Pv i ρ' μ' → g ((itT ds).item i) ρ' μ' fun ρ2 μ2 => tb { D with nx := Wks (Pv (i + 1)), ct := Wks (Pv (i + 1)), bk := D.nx } ρ2 μ2) ∧ ∀ ρ' μ', Pv (itT ds).n ρ' μ' → D.nx ρ' μ' := by
  refine ⟨Pv, h0, fun i ρ' μ' _ p => trivial, fun i ρ' μ' hi p => ?_, hd⟩
  have hi : i < ds.length := hi
  have e1 : ds[i]? = some ds[i] := List.getElem?_eq_getElem hi
  show g (.d (ds.getD i .none)) ρ' μ' _
  rw [getD_get e1]
  exact hs i _ ρ' μ' e1 p
theorem forR {lo : Int} {n : Nat} (Pv : Nat → Rho → Mu → Prop) (h0 : Pv 0 ρ μ)
    (hs : ∀ i ρ' μ', i < n → Pv i ρ' μ' → g (.d (.int (lo + i))) ρ' μ' fun ρ2 μ2 => tb { D with nx := Wks (Pv (i + 1)), ct := Wks (Pv (i + 1)), bk := D.nx } ρ2 μ2) (hd : ∀ ρ' μ', Pv n ρ' μ' → D.nx ρ' μ') :
    ∃ Pv : Nat → Rho → Mu → Prop, Pv 0 ρ μ ∧ (∀ i ρ' μ', i ≤ (itR lo n).n → Pv i ρ' μ' → (itR lo n).ok μ') ∧
      (∀ i ρ' μ', i < (itR lo n).n → Pv i ρ' μ' → g ((itR lo n).item i) ρ' μ' fun ρ2 μ2 => tb { D with nx := Wks (Pv (i + 1)), ct := Wks (Pv (i + 1)), bk := D.nx } ρ2 μ2) ∧ ∀ ρ' μ', Pv (itR lo n).n ρ' μ' → D.nx ρ' μ' :=
  ⟨Pv, h0, fun i ρ' μ' _ p => trivial, fun i ρ' μ' hi p => hs i ρ' μ' hi p, hd⟩
abbrev CompG (k : Nat) (J : Itd) (g : TGd) (tt : TTd) (te : TEd) (ρ : Rho) (μ1 : Mu) (Q : En → Mu → Prop) : Prop := ∃ Pv : Nat → List PyData → Rho → Mu → Prop, Pv 0 [] (ρ ++ List.replicate k none) μ1 ∧ (∀ i ys ρ' μ', i ≤ J.n → Pv i ys ρ' μ' → J.ok μ') ∧
  (∀ i ys ρ' μ', i < J.n → Pv i ys ρ' μ' → g (J.item i) ρ' μ' fun ρ2 μ2 => tt ρ2 μ2 fun b μ3 => if b = true then te ρ2 μ3 fun y μ4 => ∃ z, y = .d z ∧ Pv (i + 1) (ys ++ [z]) ρ2 μ4 else Pv (i + 1) ys ρ2 μ3) ∧
  ∀ ys ρ' μ', Pv J.n ys ρ' μ' → Fin1 Q ys μ'
theorem take_snoc {α : Type} {ds : List α} {i : Nat} {x : α} (h : ds[i]? = some x) : ds.take (i + 1) = ds.take i ++ [x] := by rw [List.take_add_one, h]; rfl
structure Src (J : Itd) (ds : List PyData) (μ : Mu) : Prop where
  n : J.n = ds.length
  it : ∀ i x, ds[i]? = some x → J.item i = .d x
  ok : J.ok μ
theorem Src.l {e : En} {ds : List PyData} {μ : Mu} (h : LstOf μ e ds) : Src (itL e ds) ds μ := ⟨rfl, fun i x e => by show En.d (ds.getD i .none) = _; rw [getD_get e], h⟩
theorem Src.d {ds : List PyData} {μ : Mu} : Src (itL (.d (.list ds)) ds) ds μ := Src.l (.d ds)
theorem Src.t {ds : List PyData} {μ : Mu} : Src (itT ds) ds μ := ⟨rfl, fun i x e => by show En.d (ds.getD i .none) = _; rw [getD_get e], trivial⟩
def rng (lo : Int) (n : Nat) : List PyData := (List.range n).map fun (i : Nat) => PyData.int (lo + (i : Int))
theorem Src.r {lo : Int} {n : Nat} {μ : Mu} : Src (itR lo n) (rng lo n) μ := by
  refine ⟨by simp [rng, itR], fun i x e => ?_, trivial⟩
  unfold rng at e
  rw [List.getElem?_map] at e
  by_cases hi : i < n
  · rw [List.getElem?_range hi] at e
    cases e
    rfl
  · rw [List.getElem?_eq_none (by simpa using hi)] at e
    exact nomatch e
theorem compN {J : Itd} {ds : List PyData} (P : PyData → PyData → Prop) (S : Src J ds μ)
    (hs : ∀ x, x ∈ ds → ∀ R : En → Mu → Prop, (∀ y, P x y → R (.d y) μ) → te (ρ ++ [some (.d x)]) μ R) (hq : ∀ ys, Paired P ds ys → Q (.d (.list ys)) μ) : CompG 1 J (dgName ρ.length) dYes te ρ μ Q := by
  refine ⟨fun i ys ρ' μ' => μ' = μ ∧ Paired P (ds.take i) ys ∧ ∃ v, ρ' = ρ ++ [v], ⟨rfl, .nil, none, rfl⟩, fun i ys ρ' μ' _ ⟨h, _⟩ => by subst h; exact S.ok, ?_, ?_⟩
  · rintro i ys ρ' μ' hi ⟨rfl, hp, v, rfl⟩
    rw [S.n] at hi
    rw [S.it i _ (List.getElem?_eq_getElem hi)]
    unfold dgName dYes
    have e2 : (ρ ++ [v]).set ρ.length (some (.d ds[i])) = ρ ++ [some (.d ds[i])] := by simp
    rw [e2]
    exact iteT (hs ds[i] (List.getElem_mem hi) _ fun y hy => ⟨_, rfl, rfl, by rw [take_snoc (List.getElem?_eq_getElem hi)]; exact PySem.Paired.snoc hp hy, _, rfl⟩)
  · rintro ys ρ' μ' ⟨rfl, hp, _⟩
    rw [S.n, List.take_length] at hp
    exact hq ys hp
theorem comp2F {J : Itd} {α : Type} {as : List α} {h1 h2 : α → PyData} (p : α → Bool) (f : α → PyData) (S : Src J (as.map fun a => .tuple [h1 a, h2 a]) μ)
    (ht : ∀ a, a ∈ as → ∀ R : Bool → Mu → Prop, R (p a) μ → tt (ρ ++ [some (.d (h1 a)), some (.d (h2 a))]) μ R)
    (hs : ∀ a, a ∈ as → p a = true → ∀ R : En → Mu → Prop, R (.d (f a)) μ → te (ρ ++ [some (.d (h1 a)), some (.d (h2 a))]) μ R) (hq : Q (.d (.list ((as.filter p).map f))) μ) : CompG 2 J (dgTup 2 (dgCons (dgName ρ.length) (dgCons (dgName (ρ.length + 1)) dgNil))) tt te ρ μ Q := by
  have hl : J.n = as.length := by rw [S.n]; simp
  refine ⟨fun i ys ρ' μ' => μ' = μ ∧ ys = ((as.take i).filter p).map f ∧ ∃ v w, ρ' = ρ ++ [v, w], ⟨rfl, rfl, none, none, rfl⟩, fun i ys ρ' μ' _ ⟨h, _⟩ => by subst h; exact S.ok, ?_, ?_⟩
  · rintro i ys ρ' μ' hi ⟨rfl, rfl, v, w, rfl⟩
    rw [hl] at hi
    rw [S.it i (.tuple [h1 as[i], h2 as[i]]) (by rw [List.getElem?_map, List.getElem?_eq_getElem hi]; rfl)]
    refine ⟨rfl, ?_⟩
    show tt (((ρ ++ [v, w]).set ρ.length _).set (ρ.length + 1) _) μ' _
    have e2 : ((ρ ++ [v, w]).set ρ.length (some (.d (h1 as[i])))).set (ρ.length + 1) (some (.d (h2 as[i]))) = ρ ++ [some (.d (h1 as[i])), some (.d (h2 as[i]))] := by simp [List.set_append]
    rw [e2]
    refine ht as[i] (List.getElem_mem hi) _ ?_
    cases hp : p as[i] with
    | true =>
      refine iteT (hs as[i] (List.getElem_mem hi) hp _ ⟨_, rfl, rfl, ?_, _, _, rfl⟩)
      rw [take_snoc (List.getElem?_eq_getElem hi), List.filter_append, List.map_append]
      simp [hp]
    | false =>
      refine iteF ⟨rfl, ?_, _, _, rfl⟩
      rw [take_snoc (List.getElem?_eq_getElem hi), List.filter_append, List.map_append]
      simp [hp]
  · rintro ys ρ' μ' ⟨rfl, rfl, _⟩
    rw [hl, List.take_length]
    exact hq
theorem comp2L {J : Itd} {α : Type} {as : List α} {h1 h2 : α → PyData} (f : α → PyData) (S : Src J (as.map fun a => .tuple [h1 a, h2 a]) μ)
    (hs : ∀ a, a ∈ as → ∀ R : En → Mu → Prop, R (.d (f a)) μ → te (ρ ++ [some (.d (h1 a)), some (.d (h2 a))]) μ R) (hq : Q (.d (.list (as.map f))) μ) : CompG 2 J (dgTup 2 (dgCons (dgName ρ.length) (dgCons (dgName (ρ.length + 1)) dgNil))) dYes te ρ μ Q :=
  comp2F (fun _ => true) f S (fun a _ R h => h) (fun a ha _ => hs a ha) (by rw [List.filter_eq_self.mpr (fun _ _ => rfl)]; exact hq)
end forms
end
end L2
set_option Elab.async false
set_option linter.all false
set_option maxRecDepth 100000
set_option maxHeartbeats 4000000
namespace L2
open PySem PySem.Spec PyProof.Rows
def Num (n : Int) : Prop := -1000000000000000000000000000000 < n ∧ n < 1000000000000000000000000000000
def dvs (a b : Int) : Int := if a < 0 ∨ (a = 0 ∧ b < 0) then -(Int.gcd a b : Int) else (Int.gcd a b : Int)
theorem gcd_pos {a b : Int} (h : a ≠ 0 ∨ b ≠ 0) : 0 < Int.gcd a b := Int.gcd_pos_iff.mpr h
theorem dvs_ne {a b : Int} (h : a ≠ 0 ∨ b ≠ 0) : dvs a b ≠ 0 := by
  have := gcd_pos h
  unfold dvs
  split <;> omega
theorem gcd_le_l {a b : Int} : (Int.gcd a b : Int) ∣ a := Int.gcd_dvd_left ..
theorem gcd_le_r {a b : Int} : (Int.gcd a b : Int) ∣ b := Int.gcd_dvd_right ..
theorem gcd_bound {a b : Int} {B : Nat} (h : a ≠ 0 ∨ b ≠ 0) (ha : a.natAbs ≤ B) (hb : b.natAbs ≤ B) : Int.gcd a b ≤ B := by
  rcases h with h | h
  · exact Nat.le_trans (Nat.le_of_dvd (by omega) (Int.natAbs_dvd_natAbs.mpr (gcd_le_l (a := a) (b := b)))) ha
  · exact Nat.le_trans (Nat.le_of_dvd (by omega) (Int.natAbs_dvd_natAbs.mpr (gcd_le_r (a := a) (b := b)))) hb
theorem dvs_abs (a b : Int) : (dvs a b).natAbs = Int.gcd a b := by
  unfold dvs
  split <;> omega
theorem dvs_dvd_l (a b : Int) : dvs a b ∣ a := by
  unfold dvs
  split
  · exact Int.neg_dvd.mpr gcd_le_l
  · exact gcd_le_l
theorem dvs_dvd_r (a b : Int) : dvs a b ∣ b := by
  unfold dvs
  split
  · exact Int.neg_dvd.mpr gcd_le_r
  · exact gcd_le_r
theorem fdiv_abs {a d : Int} (hd : d ≠ 0) (h : d ∣ a) : (a.fdiv d).natAbs ≤ a.natAbs := by
  obtain ⟨c, rfl⟩ := h
  rw [Int.mul_fdiv_cancel_left _ hd, Int.natAbs_mul]
  exact Nat.le_mul_of_pos_left _ (by omega)
theorem gcd_step {f r : Nat} : Nat.gcd r (f % r) = Nat.gcd f r := by
  rw [Nat.gcd_comm r (f % r), ← Nat.gcd_rec, Nat.gcd_comm]
def nrm (a b : Int) : Pt := (a.fdiv (dvs a b), b.fdiv (dvs a b))
def IsN (q : Pt) : Prop := Int.gcd q.1 q.2 = 1 ∧ (0 < q.1 ∨ (q.1 = 0 ∧ q.2 = 1))
def Bd (B : Nat) (q : Pt) : Prop := q.1.natAbs ≤ B ∧ q.2.natAbs ≤ B
theorem nrm_bd {a b : Int} {B : Nat} (h : a ≠ 0 ∨ b ≠ 0) (ha : a.natAbs ≤ B) (hb : b.natAbs ≤ B) : Bd B (nrm a b) :=
  ⟨Nat.le_trans (fdiv_abs (dvs_ne h) (dvs_dvd_l a b)) ha, Nat.le_trans (fdiv_abs (dvs_ne h) (dvs_dvd_r a b)) hb⟩
theorem IsN.nrm {q : Pt} (h : IsN q) : nrm q.1 q.2 = q := by
  have : dvs q.1 q.2 = 1 := by
    unfold dvs
    rw [h.1, if_neg (by rcases h.2 with z | z <;> omega)]
    rfl
  unfold L2.nrm
  rw [this]
  simp
theorem fdiv_big {a d : Int} {B : Nat} (hB : B < 2 ^ 1000) (h0 : d ≠ 0) (hd : d.natAbs ≤ B) : CDivB a d := ⟨h0, Nat.lt_of_le_of_lt hd hB⟩
def crs (p q : Pt) : Int := p.1 * q.2 - p.2 * q.1
theorem FzR.pot {M a b : Int} {μ : Mu} {p : Addr} (ha : 0 ≤ a) (hb : 0 ≤ b) (hm : b < M) : FzR ((p, .lst [.int a, .int b]) :: μ) (.m p) ((p, .pot M) :: μ) (.m p) := fun K v H h i => by
  have e : mask ((p, .lst [.int a, .int b]) :: μ) H = mask ((p, .pot M) :: μ) H := rfl
  refine ⟨⟨by simpa using h.nd, fun b' o ho => ?_⟩, i, by rw [e]; exact Same.refl _⟩
  rcases List.mem_cons.mp ho with z | z
  · cases z
    obtain ⟨xs, e1, hs⟩ := h.ob p _ List.mem_cons_self
    have := IsAll.ints_of (ns := [a, b]) hs
    subst this
    exact ⟨a, b, e1, ha, hb, hm⟩
  · have := h.ob b' o (List.mem_cons_of_mem _ z)
    exact this.same (by rw [e]; exact Same.refl _) rfl
def spTakeM (M : Int) : Sp := fun vs H Q _ => ∃ (p : Addr) (m : Int), vs = [.ref p, .int m] ∧ Pot M H p ∧ 0 < m ∧ m ≤ 100000000 ∧ ∀ d H', 0 ≤ d → d < m → Pot M H' p → Stp p H H' → Q (.int d) H'
def sDraw (M : Int) : SpD := fun es μ Q => ∃ (p : Addr) (m : Int), es = [.m p, .d (.int m)] ∧ (p, .pot M) ∈ μ ∧ 0 < m ∧ m ≤ 100000000 ∧ ∀ d, 0 ≤ d → d < m → Q (.d (.int d)) μ
def sNum (M : Int) : SpD := fun es μ Q => ∃ (p : Addr), es = [.m p] ∧ (p, .pot M) ∈ μ ∧ ∀ n, Num n → Q (.d (.int n)) μ
theorem pot_stp {K : PySem.W.Frag} {μ : Mu} {H H' : Hp} {p : Addr} {M : Int} (h : RelM K μ H) (hp : (p, .pot M) ∈ μ) (hP : Pot M H' p) (s : Stp p H H') : RelM K μ H' ∧ Same (mask μ H) (mask μ H') := by
  obtain ⟨μ1, μ2, rfl⟩ := List.append_of_mem hp
  exact h.write (fun b u e n => s b u e n) fun _ => hP
theorem draw_up {K : PySem.W.Frag} {M : Int} {vs : List V} {H : Hp} {Q : VK} {E : XK} (h : spUp K (sDraw M) vs H Q E) : spTakeM M vs H Q E := by
  obtain ⟨μ, es, Q0, hM, hp, ⟨p, m, rfl, hpot, m0, m1, q⟩, cl⟩ := h
  obtain ⟨v, v', rfl, i1, i2⟩ := pair2 hp
  have i1 : v = _ := i1
  subst i1
  cases i2
  refine ⟨p, m, rfl, hM.ob _ _ hpot, m0, m1, fun d H' d0 d1 hP s => ?_⟩
  obtain ⟨M', s'⟩ := pot_stp hM hpot hP s
  exact cl _ μ _ H' (q d d0 d1) M' s' (.int d)
theorem zl0 : 0 ≤ 1000 := by decide
theorem zl1 : 1 ≤ 1000 := by decide
theorem zl2 : 2 ≤ 1000 := by decide
theorem zl3 : 3 ≤ 1000 := by decide
theorem zl4 : 4 ≤ 1000 := by decide
end L2
namespace L2
open PySem PySem.Spec PyProof.Rows
def spLaw (K : PySem.W.Frag) : Sp := fun vs H Q _ => ∃ (a : Addr) (ns : List Int), vs = [.ref a] ∧ SqL K H a (ns.map V.int) ∧ ns.length ≤ 63 ∧ ∀ H', Q (.bl true) H'
def sLaw : SpD := fun es μ Q => ∃ ns : List Int, es = [.d (.list (ns.map .int))] ∧ ns.length ≤ 63 ∧ μ = [] ∧ ∀ μ', Q (.d (.bool true)) μ'
theorem law_up {K : PySem.W.Frag} {vs : List V} {H : Hp} {Q : VK} {E : XK} (h : spLaw K vs H Q E) : spUp K sLaw vs H Q E := by
  obtain ⟨a, ns, rfl, hS, hl, q⟩ := h
  refine ⟨[], [.d (.list (ns.map .int))], fun e _ => e = .d (.bool true), RelM.nil, .cons ?_ .nil, ⟨ns, rfl, hl, rfl, fun _ => rfl⟩, ?_⟩
  · show Is K (mask [] H) (.ref a) _
    rw [mask_nil]
    exact .lst hS (IsAll.ints ns)
  · rintro e μ' v H' rfl _ _ i
    cases i
    exact q H'
theorem shaped_pt (p : Pt) : SeqAt.shaped (ptD p) = true := shaped_ints [p.1, p.2]
end L2
set_option Elab.async false
set_option linter.all false
set_option maxRecDepth 100000
set_option maxHeartbeats 4000000
namespace L2
open PySem PySem.Spec PyProof.Rows
def srt (ns : List Int) : List Int := ns.mergeSort (fun a b => decide (a ≤ b))
theorem srt_perm (ns : List Int) : (srt ns).Perm ns := List.mergeSort_perm ..
theorem srt_sorted (ns : List Int) : (srt ns).Pairwise (· ≤ ·) := by
  have := List.pairwise_mergeSort (le := fun a b : Int => decide (a ≤ b)) (fun a b c h1 h2 => by simp at *; omega) (fun a b => by simp; omega) ns
  exact this.imp fun h => by simpa using h
theorem srt_len (ns : List Int) : (srt ns).length = ns.length := (srt_perm ns).length_eq
section
variable {X : Cx} {K : PySem.W.Frag} {a b c : Expr} {ta tb tc : TEd} {tA tB : TTd} {pos : Pos} {es : List Expr} {tr : TAd}
def rCatS (K : PySem.W.Frag) : R2 := fun x y H Q => ∃ l b xs zs, x = .ref l ∧ y = .ref b ∧ SqL K H l xs ∧ SqL K H b zs ∧ xs.length + zs.length ≤ sizeLine ∧ ∀ p, H p = none → Q (.ref p) (upd H p (.lst (xs ++ zs)))
theorem op_catS : OpR X (binaryOp .Add) (rCatS X.K) := by
  intro pins s σ H x y v u Q I rx ry h
  obtain ⟨l, b, xs, zs, rfl, rfl, hH, hB, hz, q⟩ := h
  cases rx
  cases ry
  obtain ⟨its, r, pl, _⟩ := I.list hH
  obtain ⟨its2, r2, pl2, _⟩ := I.list hB
  obtain ⟨⟨cls, dd, data, sl⟩, ho, hc, n, hd⟩ := pl.isList
  obtain ⟨⟨cls2, dd2, data2, sl2⟩, ho2, hc2, n2, hd2⟩ := pl2.isList
  simp only at hc hd hc2 hd2
  subst hc hd hc2 hd2
  have h1 := r.length
  have h2 := r2.length
  have e : its.toArray ++ its2.toArray = (its ++ its2).toArray := by simp
  refine concat_meets ⟨_, ho, rfl⟩ ⟨_, ho2, rfl⟩ noFill_list_add seq_list_add PySem.F.slot_list_add PySem.F.entry_list_add (PySem.F.args_list_add_2 _ _) (list_addW l b its.toArray its2.toArray n n2 dd dd2 sl sl2 (by simp; omega)) ⟨ho, ho2, ?_⟩
  rw [e]
  exact ⟨.ref _, _, I.lnew (t' := s.toks) (r.append r2) (by rw [List.length_append]; omega), rfl, q _ I.fresh⟩
theorem do_cat (hK : X.K = K := by rfl) : OpR X (binaryOp .Add) (upR K rdCat) := by
  subst hK
  refine (OpR.or (op_add (X := X)) op_catS).mono fun x y H Q h => ?_
  obtain ⟨μ, e, e', Q0, M, i1, i2, q, cl⟩ := h
  unfold rdCat at q
  split at q
  · cases i1; cases i2
    exact .inl ⟨_, _, rfl, rfl, cl _ μ _ H q M (Same.refl _) (.int _)⟩
  · obtain ⟨ds, es, h1, h2, hl, q⟩ := q
    obtain ⟨p, xs, rfl, a1, a2⟩ := h1.get M i1
    obtain ⟨p', xs', rfl, b1, b2⟩ := h2.get M i2
    refine .inr ⟨p, p', xs, xs', rfl, rfl, a1, b1, Nat.le_of_lt (small1000 (by rw [a2.len, b2.len]; exact hl)), fun l hl => ?_⟩
    obtain ⟨M4, s4, hn⟩ := M.laid (o := .lst (xs ++ xs')) hl
    exact cl _ μ _ _ q M4 s4 (.lst (SqL.of (by rw [mask_of hn]; exact upd_same)) (IsAll.same s4 (IsAll.app b2 a2)))
def dChain (r r' : R2d) (ta tb tc : TEd) : TEd := fun ρ μ Q => ta ρ μ fun x μ1 => tb ρ μ1 fun y μ2 => r x y μ2 fun z μ3 => match z with
  | .d (.bool k) => if k = true then tc ρ μ3 fun u μ4 => r' y u μ4 Q else Q (.d (.bool false)) μ3
  | _ => False
theorem d_chain {op op' : CmpOp} {r r' : R2d} (ho : OpR X (compareOp op) (upR K r)) (ho' : OpR X (compareOp op') (upR K r')) (ha : DE K X a ta) (hb : DE K X b tb) (hc : DE K X c tc)
    (h1 : behindInMarks op b = false) (h2 : behindInMarks op' c = false) (hm : lastMarks [op, op'] [b, c] = false := by with_unfolding_all rfl) : DE K X (.Compare a [op, op'] [b, c] pos) (dChain r r' ta tb tc) := by
  refine PE.mono (pe_chain ho ho' ha hb hc hm) fun σ H Q ⟨ρ, μ, Q0, hS, hM, h, cl⟩ => ?_
  refine up2 hS hM h fun x y μ2 v u H2 q M2 s2 i1 i2 => ⟨μ2, x, y, _, M2, i1, i2, q, fun e μ3 w H3 q3 M3 s3 i3 => ?_⟩
  split at q3
  · rename_i k
    cases i3
    refine ⟨k, rfl, ?_⟩
    cases k with
    | true => exact iteT ⟨ρ, μ3, _, (hS.same s2).same s3, M3, by simpa using q3, fun e4 μ4 w4 H4 q4 M4 s4 i4 => ⟨μ4, y, e4, Q0, M4, i2.same (s3.trans s4), i4, q4, cl.same ((s2.trans s3).trans s4)⟩⟩
    | false => exact iteF (cl (.d (.bool false)) μ3 _ H3 (by simpa using q3) M3 (s2.trans s3) (Is.bl _))
  · exact q3.elim
def dCount (to : TEd) (tr : TAd) : TEd := fun ρ μ Q => to ρ μ fun x μ1 => ∃ ns : List Int, LstOf μ1 x (ns.map PyData.int) ∧ tr ρ μ1 fun es μ2 => LstOf μ2 x (ns.map PyData.int) ∧ match es with
  | [.d (.int k)] => Q (.d (.int (ns.count k : Nat))) μ2
  | _ => False
theorem d_count {o e : Expr} {to : TEd} {p1 : Pos} (ho : DE K X o to) (ha : DA K X [e] tr) (hK : X.K = K := by rfl)
    (h : PE X (.Call (.Attribute o "count" p1) [e] [] pos) (tBM X.K "list" (rCount X.K) (up K to) (upA K tr))) : DE K X (.Call (.Attribute o "count" p1) [e] [] pos) (dCount to tr) := by
  subst hK
  refine PE.mono h fun σ H Q ⟨ρ, μ, Q0, hS, hM, h, cl⟩ => ⟨ρ, μ, _, hS, hM, h, fun x μ1 v H1 q M1 s1 i1 => ?_⟩
  obtain ⟨ns, h1, q⟩ := q
  obtain ⟨p, xs, rfl, a1, a2⟩ := h1.get M1 i1
  refine ⟨.inl ⟨rfl, _, a1⟩, ρ, μ1, _, hS.same s1, M1, q, fun es μ2 vs H2 q2 M2 s2 i2 => ?_⟩
  obtain ⟨h2, q2⟩ := q2
  obtain ⟨p', xs', e', b1, b2⟩ := h2.get M2 (i1.same s2)
  cases e'
  rw [b2.ints_of] at b1
  split at q2
  · obtain ⟨v, rfl, h3⟩ := pair1 i2
    cases h3
    exact ⟨p, ns, _, rfl, rfl, b1, cl _ μ2 _ H2 q2 M2 (s1.trans s2) (.int _)⟩
  · exact q2.elim
end
section
variable {P : Program} {w : World} {K : PySem.W.Frag} {mg : Str → Option Value} {base : Heap} {CX : CXT} {k : Nat} {x : Str} {ps : List Str} {sp sp' : Sp} {f : Addr} {fd : FuncData}
def spOr (sp sp' : Sp) : Sp := fun vs H Q E => sp vs H Q E ∨ sp' vs H Q E
theorem FnOk.or (h : FnOk P w K mg base CX k f fd ps sp) (h' : FnOk P w K mg base CX k f fd ps sp') : FnOk P w K mg base CX k f fd ps (spOr sp sp') :=
  ⟨fun vs H Q E q => q.elim (h.len vs H Q E) (h'.len vs H Q E), fun A outer s H args us vs Q E hr he hb hv q => q.elim (h.run A outer s H args us vs Q E hr he hb hv) (h'.run A outer s H args us vs Q E hr he hb hv)⟩
theorem Own.l (O : Own P w K mg base CX k x ps (spOr sp sp')) : Own P w K mg base CX k x ps sp := O.imp fun _ _ _ _ h => .inl h
theorem Own.r (O : Own P w K mg base CX k x ps (spOr sp sp')) : Own P w K mg base CX k x ps sp' := O.imp fun _ _ _ _ h => .inr h
theorem okX {qual : Str} {st : Stmt} {N : List Str} (F : Fun K x qual st f fd) (S : FnScope N ps (defScope st)) (len : ∀ vs H Q E, sp vs H Q E → vs.length = ps.length)
    (hbody : ∀ (cdv : Value) (A : Around) (outer : List Env) (s : Shared) (H : Hp) (vs : List V) (Q : VK) (E : XK), Room k (A.deeper (PyProof.Rows.envOfC qual (defScope st) s.heap.objs.size f cdv)) → sp vs H Q E →
      ∃ t, PSs (cxOf CX P w K mg base N qual (defScope st) f cdv A outer s H E) (defBody st) t ∧ t { nx := fun _ H' => Q .non H', rt := Q } (start N vs) H) : FnOk P w K mg base CX (k + 1) f fd ps sp := by
  obtain ⟨oc, od, kV, doc, pm, an, cdv, ct, osl, rfl, lk, hcd⟩ := F.ex
  exact fn_of lk hcd S len fun A outer s H vs Q E hr hsp => hbody cdv A outer s H vs Q E hr hsp
theorem test_at {t : TTd} {ρ : Rho} {σ : St} {H : Hp} {Q : Bool → Hp → Prop} (b : Bool) (hS : RelS K ρ [] σ H) (ht : ∀ R : Bool → Mu → Prop, R b [] → t ρ [] R) (k : ∀ H', Same H H' → Q b H') : upT K t σ H Q := by
  refine ⟨ρ, [], fun c μ => c = b ∧ μ = [], hS, RelM.nil, ht _ ⟨rfl, rfl⟩, ?_⟩
  rintro c μ' H' ⟨rfl, rfl⟩ _ s
  rw [mask_nil, mask_nil] at s
  exact k H' s
theorem RelS.of {vs : List V} {es : List En} {H : Hp} (n : Nat) (h : Paired (IsE K [] H) vs es) : RelS K (es.map some ++ List.replicate n none) [] (vs.map some ++ List.replicate n none) H := by
  have := Paired.mapSome (K := K) h (vs.length + n) (es.length + n) (by omega)
  simpa using this
theorem IsE.nil {H : Hp} {v : V} {d : PyData} (h : Is K H v d) : IsE K [] H v (.d d) := by
  show Is K (mask [] H) v d
  rw [mask_nil]; exact h
theorem up_at {s : SpD} {vs : List V} {H : Hp} {Q : VK} {E : XK} (h : spUp K s vs H Q E) : ∃ μ es Q0, RelM K μ H ∧ Paired (IsE K μ H) vs es ∧ s es μ Q0 ∧ ∀ e v H', Q0 e μ → Same H H' → IsE K μ H' v e → Q v H' := by
  obtain ⟨μ, es, Q0, M, hp, hs, cl⟩ := h
  exact ⟨μ, es, Q0, M, hp, hs, fun e v H' q s i => by obtain ⟨M', s'⟩ := M.same s; exact cl e μ v H' q M' s' i⟩
end
end L2
set_option Elab.async false
set_option linter.all false
set_option maxRecDepth 100000
set_option maxHeartbeats 4000000
namespace L2
open PySem PySem.Spec PyProof.Rows
section
variable {g : TGd} {tb : TSd} {D : EndsD} {ρ : Rho} {μ : Mu} {te : TEd} {tt : TTd} {Q : En → Mu → Prop}
theorem compAF {J : Itd} {α : Type} {as : List α} {h : α → PyData} (p : α → Bool) (f : α → PyData) (S : Src J (as.map h) μ)
    (ht : ∀ a, a ∈ as → ∀ R : Bool → Mu → Prop, R (p a) μ → tt (ρ ++ [some (.d (h a))]) μ R)
    (hs : ∀ a, a ∈ as → p a = true → ∀ R : En → Mu → Prop, R (.d (f a)) μ → te (ρ ++ [some (.d (h a))]) μ R) (hq : Q (.d (.list ((as.filter p).map f))) μ) : CompG 1 J (dgName ρ.length) tt te ρ μ Q := by
  have hl : J.n = as.length := by rw [S.n]; simp
  refine ⟨fun i ys ρ' μ' => μ' = μ ∧ ys = ((as.take i).filter p).map f ∧ ∃ v, ρ' = ρ ++ [v], ⟨rfl, rfl, none, rfl⟩, fun i ys ρ' μ' _ ⟨h, _⟩ => by subst h; exact S.ok, ?_, ?_⟩
  · rintro i ys ρ' μ' hi ⟨rfl, rfl, v, rfl⟩
    rw [hl] at hi
    rw [S.it i (h as[i]) (by rw [List.getElem?_map, List.getElem?_eq_getElem hi]; rfl)]
    unfold dgName
    have e2 : (ρ ++ [v]).set ρ.length (some (.d (h as[i]))) = ρ ++ [some (.d (h as[i]))] := by simp
    rw [e2]
    refine ht as[i] (List.getElem_mem hi) _ ?_
    cases hp : p as[i] with
    | true =>
      refine iteT (hs as[i] (List.getElem_mem hi) hp _ ⟨_, rfl, rfl, ?_, _, rfl⟩)
      rw [take_snoc (List.getElem?_eq_getElem hi), List.filter_append, List.map_append]
      simp [hp]
    | false =>
      refine iteF ⟨rfl, ?_, _, rfl⟩
      rw [take_snoc (List.getElem?_eq_getElem hi), List.filter_append, List.map_append]
      simp [hp]
  · rintro ys ρ' μ' ⟨rfl, rfl, _⟩
    rw [hl, List.take_length]
    exact hq
theorem compAL {J : Itd} {α : Type} {as : List α} {h : α → PyData} (f : α → PyData) (S : Src J (as.map h) μ)
    (hs : ∀ a, a ∈ as → ∀ R : En → Mu → Prop, R (.d (f a)) μ → te (ρ ++ [some (.d (h a))]) μ R) (hq : Q (.d (.list (as.map f))) μ) : CompG 1 J (dgName ρ.length) dYes te ρ μ Q :=
  compAF (fun _ => true) f S (fun a _ R h => h) (fun a ha _ => hs a ha) (by rw [List.filter_eq_self.mpr (fun _ _ => rfl)]; exact hq)
end
def cLt (c : Int) (ns : List Int) : Nat := ns.countP (fun v => decide (v < c))
def cGt (c : Int) (ns : List Int) : Nat := ns.countP (fun v => decide (c < v))
def hlvI (c : Int) (ns : List Int) : Bool := decide (2 * cLt c ns ≤ ns.length) && decide (2 * cGt c ns ≤ ns.length)
def midLo (ns : List Int) : Int := (srt ns).getD ((ns.length - 1) / 2) 0
def midHi (ns : List Int) : Int := (srt ns).getD (ns.length / 2) 0
theorem sorted_get {s : List Int} (h : s.Pairwise (· ≤ ·)) {i j : Nat} (hi : i ≤ j) (hj : j < s.length) : s.getD i 0 ≤ s.getD j 0 := by
  rw [List.getD_eq_getElem?_getD, List.getD_eq_getElem?_getD, List.getElem?_eq_getElem hj, List.getElem?_eq_getElem (by omega)]
  show s[i] ≤ s[j]
  by_cases e : i = j
  · subst e; exact Int.le_refl _
  · exact List.pairwise_iff_getElem.mp h i j (by omega) hj (by omega)
theorem cnt_split (p : Int → Bool) (s : List Int) (j : Nat) : s.countP p = (s.take j).countP p + (s.drop j).countP p := by
  rw [← List.countP_append, List.take_append_drop]
theorem cnt_zero {p : Int → Bool} {l : List Int} (h : ∀ x ∈ l, p x = false) : l.countP p = 0 := by
  rw [List.countP_eq_zero]
  intro x hx
  simp [h x hx]
theorem cnt_all {p : Int → Bool} {l : List Int} (h : ∀ x ∈ l, p x = true) : l.countP p = l.length := by
  rw [List.countP_eq_length]
  exact h
theorem mem_take_le {s : List Int} (h : s.Pairwise (· ≤ ·)) {j : Nat} (hj : j < s.length) {x : Int} (hx : x ∈ s.take (j + 1)) : x ≤ s.getD j 0 := by
  obtain ⟨i, hi, rfl⟩ := List.mem_iff_getElem.mp hx
  have : i < j + 1 := by simp at hi; omega
  have := sorted_get h (i := i) (j := j) (by omega) hj
  rw [List.getD_eq_getElem?_getD (l := s) (i := i), List.getElem?_eq_getElem (by omega)] at this
  simpa using this
theorem mem_drop_ge {s : List Int} (h : s.Pairwise (· ≤ ·)) {j : Nat} (hj : j < s.length) {x : Int} (hx : x ∈ s.drop j) : s.getD j 0 ≤ x := by
  obtain ⟨i, hi, rfl⟩ := List.mem_iff_getElem.mp hx
  have hl : j + i < s.length := by simp at hi; omega
  have := sorted_get h (i := j) (j := j + i) (by omega) hl
  rw [List.getD_eq_getElem?_getD (l := s) (i := j + i), List.getElem?_eq_getElem hl] at this
  simpa using this
section
variable {s : List Int} (h : s.Pairwise (· ≤ ·)) {j : Nat} (hj : j < s.length) {c : Int}
include h hj
theorem cA (hc : c ≤ s.getD j 0) : cLt c s ≤ j := by
  unfold cLt
  rw [cnt_split _ s j, cnt_zero (l := s.drop j)]
  · have := List.countP_le_length (p := fun v => decide (v < c)) (l := s.take j)
    simp at this ⊢
    omega
  · intro x hx
    have := mem_drop_ge h hj hx
    simp; omega
theorem cB (hc : s.getD j 0 ≤ c) : cGt c s ≤ s.length - 1 - j := by
  unfold cGt
  rw [cnt_split _ s (j + 1), cnt_zero (l := s.take (j + 1))]
  · have := List.countP_le_length (p := fun v => decide (c < v)) (l := s.drop (j + 1))
    simp at this ⊢
    omega
  · intro x hx
    have := mem_take_le h hj hx
    simp; omega
theorem cC (hc : c < s.getD j 0) : s.length - j ≤ cGt c s := by
  unfold cGt
  rw [cnt_split _ s j, cnt_all (l := s.drop j)]
  · simp
  · intro x hx
    have := mem_drop_ge h hj hx
    simp; omega
theorem cD (hc : s.getD j 0 < c) : j + 1 ≤ cLt c s := by
  unfold cLt
  rw [cnt_split _ s (j + 1), cnt_all (l := s.take (j + 1))]
  · simp; omega
  · intro x hx
    have := mem_take_le h hj hx
    simp; omega
end
theorem cLt_srt (c : Int) (ns : List Int) : cLt c (srt ns) = cLt c ns := (srt_perm ns).countP_eq _
theorem cGt_srt (c : Int) (ns : List Int) : cGt c (srt ns) = cGt c ns := (srt_perm ns).countP_eq _
theorem mid_le {ns : List Int} (h0 : ns ≠ []) : midLo ns ≤ midHi ns := by
  have hl : 0 < ns.length := List.length_pos_iff.mpr h0
  exact sorted_get (srt_sorted ns) (by omega) (by rw [srt_len]; omega)
theorem mid_halves {ns : List Int} (h0 : ns ≠ []) (c : Int) : hlvI c ns = true ↔ midLo ns ≤ c ∧ c ≤ midHi ns := by
  have hl : 0 < ns.length := List.length_pos_iff.mpr h0
  have hs := srt_sorted ns
  have hn := srt_len ns
  have h1 : (ns.length - 1) / 2 < (srt ns).length := by omega
  have h2 : ns.length / 2 < (srt ns).length := by omega
  unfold hlvI
  rw [← cLt_srt, ← cGt_srt]
  simp only [Bool.and_eq_true, decide_eq_true_eq]
  constructor
  · rintro ⟨a, b⟩
    constructor
    · apply Int.not_lt.mp
      intro z
      have := cC hs h1 (c := c) z
      omega
    · apply Int.not_lt.mp
      intro z
      have := cD hs h2 (c := c) z
      omega
  · rintro ⟨a, b⟩
    have := cA hs h2 (c := c) b
    have := cB hs h1 (c := c) a
    omega
def twice : List Int → List Int
  | [] => []
  | x :: l => x :: x :: twice l
end L2
set_option Elab.async false
set_option linter.all false
set_option maxRecDepth 100000
set_option maxHeartbeats 4000000
namespace L2
open PySem PySem.Spec PyProof.Rows
mutual
theorem eqv_refl : ∀ d : PyData, PyData.canLay0 d = true → PyData.eqv d d = true
  | .none, _ => by simp [PyData.eqv]
  | .bool b, _ => by simp [PyData.eqv]
  | .int i, _ => by simp [PyData.eqv]
  | .str x, _ => by simp [PyData.eqv]
  | .list xs, h => by
    simp only [PyData.canLay0] at h
    simp only [PyData.eqv]
    exact eqvAll_refl xs h
  | .tuple xs, h => by
    simp only [PyData.canLay0] at h
    simp only [PyData.eqv]
    exact eqvAll_refl xs h
  | .dict xs, h => by simp [PyData.canLay0] at h
theorem eqvAll_refl : ∀ ds : List PyData, PyData.canLayAll0 ds = true → PyData.eqvAll ds ds = true
  | [], _ => by simp [PyData.eqvAll]
  | d :: ds, h => by
    simp only [PyData.canLayAll0, Bool.and_eq_true] at h
    simp only [PyData.eqvAll, Bool.and_eq_true]
    exact ⟨eqv_refl d h.1, eqvAll_refl ds h.2⟩
end
theorem shaped_eqv {d : PyData} (h : SeqAt.shaped d = true) : PyData.eqv d d = true := eqv_refl d (SeqAt.canLay_of_shaped h)
theorem canLay_all {α : Type} {f : α → PyData} (hf : ∀ a, PyData.canLay0 (f a) = true) : ∀ as : List α, PyData.canLayAll0 (as.map f) = true
  | [] => by simp [PyData.canLayAll0]
  | a :: as => by simp [PyData.canLayAll0, hf a, canLay_all hf as]
theorem depth_all {α : Type} {f : α → PyData} {n : Nat} (hf : ∀ a, PyData.depth (f a) ≤ n) : ∀ as : List α, PyData.depthAll (as.map f) ≤ n + 1
  | [] => by simp [PyData.depthAll]
  | a :: as => by
    have := depth_all hf as
    have := hf a
    simp only [List.map_cons, PyData.depthAll]
    omega
section
variable {X : Cx} {K : PySem.W.Frag} {a b c : Expr} {ta tb tc : TEd} {tA tB : TTd} {pos : Pos} {es : List Expr} {tr : TAd}
end
theorem RoomU.mark {k : Nat} {A : Around} {v : Option Value} (r : RoomU k A) : RoomU k (A.mark v) := ⟨r.dp, r.un⟩
end L2
set_option Elab.async false
set_option linter.all false
set_option maxRecDepth 100000
set_option maxHeartbeats 4000000
namespace L2
open PySem PySem.Spec PyProof.Rows
section
variable {P : Program} {w : World} {K : PySem.W.Frag} {mg : Str → Option Value} {base : Heap} {N : List Str} {qual : Str} {scope : Scope} {f : Addr} {cd : Value} {A : Around} {outer : List Env} {s : Shared} {H : Hp} {E : XK}
theorem passX : Passes (XC P w) (cxOf (XC P w) P w K mg base N qual scope f cd A outer s H E) E := by
  intro pins σ H1 s1 e s' I hx
  generalize hX : cxOf (XC P w) P w K mg base N qual scope f cd A outer s H E = X at *
  have xst : X.stack = X.env :: X.outer := by rw [← hX]; rfl
  have xfr : X.env.frame = some X.env.locals := by rw [← hX]; rfl
  have xex : X.ex = [] := by rw [← hX]; rfl
  have xe : X.xe = fun e s' => wpAny (model X.prog X.w) X.A (leaving X.env e) (fun _ s'' => XC X.prog X.w X.outer X.H₀ X.s₀ E e s'') (fun e' s'' => XC X.prog X.w X.outer X.H₀ X.s₀ E e' s'') s' := by rw [← hX]; rfl
  have xP : X.prog = P := by rw [← hX]; rfl
  have xw : X.w = w := by rw [← hX]; rfl
  obtain ⟨ea, cls, a0, H', B, rfl, hos, hg, un, ok', fl, cov, hea, hE⟩ := hx
  rw [xe]
  have fsub : ∀ b ∈ frs X.stack, b = X.env.locals ∨ b ∈ X.fs := fun b hb => List.mem_cons.mp (I.stkSub b hb)
  have hfs : ∀ b ∈ X.fs, b ∈ frs X.stack := fun b hb => by
    rw [xst]
    obtain ⟨e, he, hfe⟩ := List.mem_filterMap.mp hb
    exact List.mem_filterMap.mpr ⟨e, List.mem_cons_of_mem _ he, hfe⟩
  have bs : Un X.fs [] X.H₀ H1 X.s₀.heap s1.heap := by have := I.base; rw [xex] at this; exact this
  have oldnf : ∀ b o, X.s₀.heap.get? b = some o → b ∉ X.fs → b ∉ frs X.stack := fun b o eb nb z => by
    rcases fsub b z with z | z
    · exact absurd (Nat.lt_of_lt_of_le (Heap.lt_size eb) I.ok.above) (by rw [z]; exact Nat.lt_irrefl _)
    · exact nb z
  have trk : ∀ b u, H' b = some u → b ∉ frs X.stack := fun b u eb z => by
    obtain ⟨_, o, ho, _⟩ := I.stack.mem z
    have := un.free b o ho (I.stkFree b z) (by simp)
    rw [this] at eb; cases eb
  refine wpAny_leaves_onW (by rw [← xst]; exact I.ok.frames) xfr (by rw [← xst]; exact fl) fun h'' fl2 ups => ?_
  have kept : ∀ b o, s'.heap.get? b = some o → b ∉ frs X.stack → ((∃ o₀, s1.heap.get? b = some o₀) ∨ ∃ u, H' b = some u) → h''.get? b = some o := fun b o eb nb c => fl2.1 b o (cov b o eb nb c)
  have slotK : ∀ b, b ∈ frs X.stack → ∀ o1, s1.heap.get? b = some o1 → ∃ sl, h''.get? b = some { cls := o1.cls, dict := o1.dict, data := o1.data, slots := sl } := fun b hb o1 e1 => by
    obtain ⟨sl, e2⟩ := un.slot b o1 e1 (I.stkFree b hb) hb (by simp)
    obtain ⟨_, o', ho', hd'⟩ := I.stack.mem hb
    rw [e1] at ho'; cases ho'
    obtain ⟨sl2, e3⟩ := ups b { cls := o1.cls, dict := o1.dict, data := o1.data, slots := sl } e2 hd'
    exact ⟨sl2, e3⟩
  refine ⟨ea, cls, a0, H', B, rfl, hos.trans I.os, hg, ⟨fun b o eb n nf _ => ?_, fun b o eb n nf _ => ?_, fun b o eb n _ => ?_, fun b o eb _ => ?_, fun b xs q => un.tups b xs (bs.tups b xs q), fun b o u q => un.frzs b o u (bs.frzs b o u q), fun b ps q => ?_⟩, fun b u eb => ?_, fl2, fun b o eb nb c => ?_, hea, hE⟩
  · have e1 := bs.keep b o eb n nf (by simp)
    have nb := oldnf b o eb nf
    exact kept b o (un.keep b o e1 (bs.free b o eb n (by simp)) nb (by simp)) nb (.inl ⟨o, e1⟩)
  · obtain ⟨sl, e1⟩ := bs.slot b o eb n nf (by simp)
    obtain ⟨sl2, e2⟩ := slotK b (hfs b nf) _ e1
    exact ⟨sl2, e2⟩
  · obtain ⟨o1, e1⟩ := bs.there b o eb (by simp)
    exact un.free b o1 e1 (bs.free b o eb n (by simp)) (by simp)
  · obtain ⟨o1, e1⟩ := bs.there b o eb (by simp)
    by_cases nb : b ∈ frs X.stack
    · obtain ⟨sl, e2⟩ := slotK b nb o1 e1
      exact ⟨_, e2⟩
    · obtain ⟨o2, e2⟩ := un.there b o1 e1 (by simp)
      exact ⟨o2, kept b o2 e2 nb (.inl ⟨o1, e1⟩)⟩
  · obtain ⟨m1, e1⟩ := bs.tbls b ps q
    obtain ⟨m2, e2⟩ := un.tbls b _ e1
    exact ⟨m1 ++ m2, by rw [e2, Array.append_assoc]⟩
  · rw [xP, xw]
    refine (ok' b u eb).stay (fun c v hc e1 => ?_) (fun _ z => z) fun _ _ z => z
    rcases hc with rfl | hc
    · exact kept c v e1 (trk c u eb) (.inr ⟨u, eb⟩)
    · exact kept c v e1 (trk c _ hc) (.inr ⟨_, hc⟩)
  · rcases c with ⟨o0, e0⟩ | ⟨u, eu⟩
    · have nb2 := oldnf b o0 e0 nb
      obtain ⟨o1, e1⟩ := bs.there b o0 e0 (by simp)
      obtain ⟨o2, e2⟩ := un.there b o1 e1 (by simp)
      have := kept b o2 e2 nb2 (.inl ⟨o1, e1⟩)
      rw [eb] at this; cases this
      exact cov b o e2 nb2 (.inl ⟨o1, e1⟩)
    · have nb2 := trk b u eu
      obtain ⟨o2, e2⟩ := (ok' b u eu).has
      have := kept b o2 e2 nb2 (.inr ⟨u, eu⟩)
      rw [eb] at this; cases this
      exact cov b o e2 nb2 (.inr ⟨u, eu⟩)
end
end L2
set_option Elab.async false
set_option linter.all false
set_option maxRecDepth 100000
set_option maxHeartbeats 4000000
namespace L2
open PySem PySem.Spec PyProof.Rows
section
variable {X : Cx} {K : PySem.W.Frag} {pos : Pos}
theorem Inv.room0 {pins : List (Addr × Obj)} {σ : St} {H : Hp} {s : Shared} (I : Inv X pins σ H s) : sysModules < s.heap.objs.size :=
  Nat.lt_trans (show sysModules < mainGlobals by decide) (I.mod.glob.keeps I.bk).lt
theorem emp_ok {P : Program} {w : World} {H : Hp} {h : Heap} (hb : sysModules < h.objs.size) : ObjOk P w H (h.push { cls := .type "dict", data := .dict #[] }) h.objs.size (.dK []) := by
  refine ⟨Nat.zero_le _, ?_, [], .nil, Heap.DictOf.new h⟩
  rw [beq_eq_false_iff_ne]
  exact Ne.symm (Nat.ne_of_lt hb)
theorem d_emp : DE K X (.Dict [] [] pos) (dC (.dict [])) := by
  intro pins s σ H Q I h
  obtain ⟨ρ, μ, Q0, hS, hM, q, cl⟩ := h
  have fr : H s.heap.objs.size = none := I.hok.fresh (Nat.le_refl _)
  have J := I.laid (a := s.heap.objs.size) (o := .dK []) (t' := s.toks) (h' := s.heap.push { cls := .type "dict", data := .dict #[] }) (fun _ _ z => Heap.get?_push_of_some _ z) (Nat.le_refl _) (emp_ok I.room0)
  obtain ⟨M4, s4, hn⟩ := hM.laid (o := .dK []) fr
  exact wpAny_Dict_empty ⟨.ref s.heap.objs.size, _, J, rfl, cl _ μ _ _ q M4 s4 (.dc (by rw [mask_of hn]; exact upd_same))⟩
end
end L2
set_option Elab.async false
set_option linter.all false
set_option maxRecDepth 100000
set_option maxHeartbeats 4000000
namespace L2
open PySem PySem.Spec PyProof.Rows
section
variable {X : Cx} {pins : List (Addr × Obj)} {σ : St} {H : Hp} {s : Shared}
theorem Inv.turnedL {fp : List Addr} {a : Addr} {o : HO} {h' : Heap} {t' : Nat} (I : Inv X pins σ H s) (hf : ∀ b ∈ fp, FpOk X pins H b) (k : ∀ b u, b ∉ fp → s.heap.get? b = some u → h'.get? b = some u)
    (hp : s.heap.objs.size ≤ a) (new : ObjOk X.prog X.w (upd H a o) h' a o) : Inv X pins σ (upd H a o) { s with heap := h', toks := t' } := by
  have hn : H a = none := I.hok.fresh hp
  have ha : ∀ b u, s.heap.get? b = some u → b ≠ a := fun b u e z => absurd (Nat.lt_of_lt_of_le (Heap.lt_size e) hp) (by rw [z]; exact Nat.lt_irrefl _)
  have nfp : ∀ b u, H b = some u → b ∉ fp := fun b u e z => by
    have := (hf b z).1
    rw [this] at e; cases e
  refine I.step (g' := s.gens) (d' := s.drawn) (ch := fp) (fun b hb => ?_) (fun b u _ _ hc e _ => k b u hc e) (fun b u _ _ hc e _ => ⟨u.slots, k b u hc e⟩) (fun b u _ e n => by rw [upd_ne (ha b u e)]; exact n)
    (fun b u hc e => ⟨u, k b u hc e⟩) (fun b xs e => by rw [upd_ne (ne_of_none e hn)]; exact e) (fun b u v e => by rw [upd_ne (ne_of_none e hn)]; exact e) (fun b ps e => ⟨#[], by rw [upd_ne (ne_of_none e hn), e]; simp⟩) (fun m hm => ?_) (fun b u e => ?_) I.bare
  · obtain ⟨_, f1, _, f3, f4, f5⟩ := hf b hb
    exact ⟨f3, f1, f4, f5⟩
  · obtain ⟨u, es, ep, ho, r⟩ := hm
    exact ⟨u, es, ep, k _ u (fun z => (hf _ z).2.1 rfl) ho, r⟩
  · by_cases hb : b = a
    · subst hb
      rw [upd_same] at e; cases e; exact new
    · rw [upd_ne hb] at e
      refine (I.hok b u e).stay (fun c v hc q => k c v ?_ q) (fun c q => by rw [upd_ne (ne_of_none q hn)]; exact q) fun c xs q => by rw [upd_ne (ne_of_none q hn)]; exact q
      rcases hc with z | z
      · rw [z]; exact nfp b u e
      · exact nfp c _ z
theorem Inv.turnedF {fp : List Addr} {h' : Heap} {t' : Nat} (I : Inv X pins σ H s) (hf : ∀ b ∈ fp, FpOk X pins H b) (k : ∀ b u, b ∉ fp → s.heap.get? b = some u → h'.get? b = some u) : Inv X pins σ H { s with heap := h', toks := t' } := by
  have nfp : ∀ b u, H b = some u → b ∉ fp := fun b u e z => by
    have := (hf b z).1
    rw [this] at e; cases e
  refine I.step (g' := s.gens) (d' := s.drawn) (ch := fp) (fun b hb => ?_) (fun b u _ _ hc e _ => k b u hc e) (fun b u _ _ hc e _ => ⟨u.slots, k b u hc e⟩) (fun b u _ e n => n)
    (fun b u hc e => ⟨u, k b u hc e⟩) (fun b xs e => e) (fun b u v e => e) (fun b ps e => ⟨#[], by rw [e]; simp⟩) (fun m hm => ?_) (fun b u e => ?_) I.bare
  · obtain ⟨_, f1, _, f3, f4, f5⟩ := hf b hb
    exact ⟨f3, f1, f4, f5⟩
  · obtain ⟨u, es, ep, ho, r⟩ := hm
    exact ⟨u, es, ep, k _ u (fun z => (hf _ z).2.1 rfl) ho, r⟩
  · refine (I.hok b u e).stay (fun c v hc q => k c v ?_ q) (fun _ q => q) fun _ _ q => q
    rcases hc with z | z
    · rw [z]; exact nfp b u e
    · exact nfp c _ z
end
def Ite (K : PySem.W.Frag) (a : Addr) : It :=
  ⟨fun i H => ∃ xs x, SqL K H a xs ∧ xs[i]? = some x, fun i H v H' => ∃ t x, H t = none ∧ v = .ref t ∧ H' = upd H t (.tup [.int i, x]) ∧ ∀ xs, SqL K H a xs → xs[i]? = some x, fun i H => ∃ xs, SqL K H a xs ∧ xs.length ≤ i⟩
theorem turn_enum {P : Program} {w : World} {K : PySem.W.Frag} {elts : List Expr} {x1} {pos : Pos} (a e it : Addr) (hne : e ≠ it) : Turn P w K (.Tuple elts x1 pos) (Ite K a) [e, it] e (fun i h => (∃ old, IsEnum h e it ((i : Nat) : Int) old) ∧ h.IsListIter it a i) where
  mem := by simp
  obj := fun i h st b hb => by
    obtain ⟨⟨old, he⟩, o, ho, _, hd⟩ := st
    rcases List.mem_cons.mp hb with rfl | hb
    · exact ⟨_, he, fun v z => by cases z⟩
    · have : b = it := by simpa using hb
      subst this
      exact ⟨o, ho, fun v z => by rw [hd] at z; cases z⟩
  keep := fun i h h' st k => by
    obtain ⟨⟨old, he⟩, hi⟩ := st
    exact ⟨⟨old, k e (by simp) _ he⟩, hi.at fun o q => k it (by simp) o q⟩
  item := by
    intro X hP hw hK hc i pins s σ H E I hf st hg
    subst hP hw hK
    obtain ⟨⟨old, he⟩, hi⟩ := st
    obtain ⟨xs, x, hq, hx⟩ := hg
    obtain ⟨its, rv, p, hz⟩ := I.list hq
    obtain ⟨u, hu, ru⟩ := rv.get hx
    have hes : e < s.heap.objs.size := Heap.lt_size he
    refine wpAny_pyNext_enum_item he hi p.isList (x := u) (by simpa using hu) hne fun h' heo hi' ht hsz hk => ⟨_, rfl, wpAny_letOwnedTupleGo_enum heo fun h2 he2 hs2 => ?_⟩
    have hs2 : Heap.SameBut e h' h2 := hs2
    have fr : H s.heap.objs.size = none := I.hok.fresh (Nat.le_refl _)
    have keep : ∀ b o, b ∉ [e, it] → s.heap.get? b = some o → h2.get? b = some o := fun b o hb q => by
      simp only [List.mem_cons, List.mem_nil_iff, or_false, not_or] at hb
      exact hs2.extBut b o hb.1 (hk b o hb.1 hb.2 q)
    have ht2 : h2.get? s.heap.objs.size = some { cls := .type "tuple", data := .seq #[.int i s.toks, u] } := (hs2.2 _ (Nat.ne_of_gt hes)).trans ht
    have I2 : Inv X pins σ (upd H s.heap.objs.size (.tup [.int i, x])) { s with heap := h2, toks := s.toks + 1 } := I.turnedL hf keep (Nat.le_refl _) ⟨sz2, [.int i s.toks, u], .cons ⟨_, rfl⟩ (.cons ru .nil), ⟨_, ht2, rfl, _, rfl⟩⟩
    refine ⟨.ref s.heap.objs.size, _, I2, rfl, ⟨_, x, fr, rfl, rfl, fun ys hy => by rw [I.list_inj hy hq]; exact hx⟩, ⟨⟨u, ?_⟩, ?_⟩, fun b hb => ?_⟩
    · have : ((i + 1 : Nat) : Int) = (i : Int) + 1 := by omega
      rw [this]; exact he2
    · exact hi'.extBut hs2.extBut (Ne.symm hne)
    · have hb' := (hf b hb).1
      have : b ≠ s.heap.objs.size := by
        rcases List.mem_cons.mp hb with rfl | hb
        · exact Nat.ne_of_lt hes
        · have : b = it := by simpa using hb
          subst this
          obtain ⟨o, ho, _⟩ := hi
          exact Nat.ne_of_lt (Heap.lt_size ho)
      rw [upd_ne this]; exact hb'
  done := by
    intro X hP hw hK hc i pins s σ H E I hf st hg
    subst hP hw hK
    obtain ⟨⟨old, he⟩, hi⟩ := st
    obtain ⟨xs, hq, hx⟩ := hg
    obtain ⟨its, rv, p, hz⟩ := I.list hq
    have hl := rv.length
    refine wpAny_pyNext_enum_end (I.ok.hd hc) he hi p.isList (by simp; omega) fun h' eb => ⟨rfl, ?_⟩
    exact I.turnedF (t' := s.toks) hf fun b o hb q => eb b o (fun z => hb (by simp [z])) q
  self := fun _ _ _ _ _ st h => wpAny_pyIter_enum (Classical.choose_spec st.1) h
def iEnum (K : PySem.W.Frag) (ta : TA) : TI := fun σ H R => ta σ H fun vs H1 => ∃ a, vs = [.ref a] ∧ (∃ xs, SqL K H1 a xs) ∧ R (Ite K a) H1
section
variable {X : Cx} {K : PySem.W.Frag}
theorem pi_enum {l : Expr} {ta : TA} {elts : List Expr} {x1} {tpos p pos : Pos} (hg : Gl X "enumerate") (hm : X.mg "enumerate" = none) (ha : PA X [l] ta) (hs : starEach [l] X.env = [(false, eval l X.env)] := by rfl) :
    PI X (.Tuple elts x1 tpos) (.Call (.Name "enumerate" p) [l] [] pos) (iEnum X.K ta) := by
  intro pins s σ H R I h
  refine Call_ (ld_blt I hg hm boot_enumerate (PyProof.Rows.callWith_type1 (thn (ha pos pins s σ H _ I h) fun us s1 ⟨vs, H1, I1, r1, q1⟩ => ?_) hs rfl))
  obtain ⟨a, e, ⟨xs, hq⟩, q⟩ := q1
  subst e
  obtain ⟨u, rfl, rx⟩ := vals1 r1
  cases rx
  obtain ⟨its, rv, pl, hz⟩ := I1.list hq
  refine call_enumerate_list pl.isList fun h' he hi hsz hk => ?_
  have I2 : Inv X pins σ H1 { s1 with heap := h' } := I1.kept (t' := s1.toks) hk
  refine wpAny_pyIter_enum he ?_
  refine ⟨s1.heap.objs.size + 1, [s1.heap.objs.size + 1, s1.heap.objs.size], _, _, H1, rfl, I2, turn_enum a _ _ (Nat.ne_of_gt (Nat.lt_succ_self _)), ⟨⟨_, he⟩, hi⟩, fun b hb => ?_, q⟩
  have hb' : s1.heap.objs.size ≤ b := by
    rcases List.mem_cons.mp hb with z | z
    · rw [z]; exact Nat.le_succ _
    · have : b = s1.heap.objs.size := by simpa using z
      rw [this]; exact Nat.le_refl _
  exact I1.fpOk hb' (I1.hok.fresh hb')
def enumD (ds : List PyData) : List PyData := (List.range ds.length).map fun (i : Nat) => .tuple [.int (i : Int), ds.getD i .none]
def itE (e : En) (ds : List PyData) : Itd := ⟨ds.length, fun i => .d (.tuple [.int (i : Int), ds.getD i .none]), fun μ => LstOf μ e ds⟩
def diE (ta : TAd) : TId := fun ρ μ Q => ta ρ μ fun es μ1 => match es with
  | [e] => ∃ ds, LstOf μ1 e ds ∧ Q (itE e ds) μ1
  | _ => False
theorem di_enum {l : Expr} {ta : TAd} {elts : List Expr} {x1} {tpos p pos : Pos} (hg : Gl X "enumerate") (hm : X.mg "enumerate" = none) (ha : DA K X [l] ta) (hK : X.K = K := by rfl) (hs : starEach [l] X.env = [(false, eval l X.env)] := by rfl) :
    DI K X (.Tuple elts x1 tpos) (.Call (.Name "enumerate" p) [l] [] pos) (diE ta) := by
  subst hK
  refine PI.mono (pi_enum hg hm ha hs) fun σ H R ⟨ρ, μ, Q0, hS, hM, h, cl⟩ => ⟨ρ, μ, _, hS, hM, h, fun es μ1 vs H1 q M1 s1 i1 => ?_⟩
  split at q
  · rename_i e
    obtain ⟨v, rfl, h1⟩ := pair1 i1
    obtain ⟨ds, hL, q⟩ := q
    obtain ⟨p, xs, rfl, a1, a2⟩ := hL.get M1 h1
    refine ⟨p, rfl, ⟨xs, a1⟩, cl _ μ1 _ H1 q M1 s1 fun μ' H' M' s' hok i => ?_⟩
    obtain ⟨p', xs', e', h3, h4⟩ := LstOf.get hok M' (h1.same s')
    cases e'
    have hl := h4.len
    refine ⟨fun hi => ⟨⟨xs', xs'[i]'(by rw [hl]; exact hi), h3, by simp⟩, ?_⟩, fun hi => ⟨xs', h3, by rw [hl]; exact hi⟩⟩
    rintro x H2 ⟨t, y, ht, rfl, rfl, hx⟩
    obtain ⟨M2, s2, hn⟩ := M'.laid (o := .tup [.int i, y]) ht
    obtain ⟨d, e1, e2⟩ := h4.get (hx xs' h3)
    refine ⟨M2, s2, ?_⟩
    show Is X.K (mask μ' (upd H' t (.tup [.int i, y]))) (.ref t) (.tuple [.int i, ds.getD i .none])
    rw [getD_get e1]
    exact .tup (SqT.of (by rw [mask_of hn]; exact upd_same)) (.cons (.int _) (.cons (Is.same s2 e2) .nil))
  · exact q.elim
theorem enumD_len (ds : List PyData) : (enumD ds).length = ds.length := by simp [enumD]
theorem enumD_get {ds : List PyData} {i : Nat} {x : PyData} (h : ds[i]? = some x) : (enumD ds)[i]? = some (.tuple [.int (i : Int), x]) := by
  have hi : i < ds.length := (List.getElem?_eq_some_iff.mp h).1
  unfold enumD
  rw [List.getElem?_map, List.getElem?_range hi, ← getD_get h]
  rfl
theorem Src.e {e : En} {ds : List PyData} {μ : Mu} (h : LstOf μ e ds) : Src (itE e ds) (enumD ds) μ := by
  refine ⟨(enumD_len ds).symm, fun i x q => ?_, h⟩
  have hi : i < ds.length := by
    have := (List.getElem?_eq_some_iff.mp q).1
    rwa [enumD_len] at this
  rw [enumD_get (List.getElem?_eq_getElem hi)] at q
  cases q
  show En.d (.tuple [.int (i : Int), ds.getD i .none]) = _
  rw [getD_get (List.getElem?_eq_getElem hi)]
end
end L2
set_option Elab.async false
set_option linter.all false
set_option maxRecDepth 100000
set_option maxHeartbeats 4000000
namespace PySem
open Sem (wp)
section
variable {prog : Program} {w : World} {A : Around} {E : Value → Shared → Prop} {s : Shared}
end
structure Nx (prog : Program) (w : World) (A : Around) (fr : List Addr) (it : Addr) (st : Nat → Heap → Prop) (xs : Array Value) : Prop where
  mem : it ∈ fr
  obj : ∀ i h, st i h → ∃ o, h.get? it = some o ∧ ∀ v, o.data ≠ .cell v
  keep : ∀ i h h', st i h → (∀ b ∈ fr, ∀ o, h.get? b = some o → h'.get? b = some o) → st i h'
  item : ∀ (i : Nat) (s : Shared) (x : Value) (Q : Value → Shared → Prop) (E : Value → Shared → Prop), st i s.heap → xs[i]? = some x →
    (∀ h', st (i + 1) h' → Heap.SameBut it s.heap h' → Q x { s with heap := h' }) → wpAny (model prog w) A (Builtin.SmallTypes.nextOf (.ref it)) Q E s
  stop : ∀ (i : Nat) (s : Shared) (Q : Value → Shared → Prop) (E : Value → Shared → Prop), st i s.heap → xs[i]? = none →
    (∀ h' e, Heap.ExtBut it s.heap h' → (∃ o, h'.get? e = some o ∧ o.cls = .type "StopIteration") → E (.ref e) { s with heap := h' }) → wpAny (model prog w) A (Builtin.SmallTypes.nextOf (.ref it)) Q E s
theorem nx_lst {prog : Program} {w : World} {A : Around} {it t : Addr} {xs : Array Value} (hh : A.handled = none) (hne : t ≠ it) : Nx prog w A [it, t] it (fun i h => h.IsListIter it t i ∧ h.IsList t xs) xs where
  mem := by simp
  obj := fun i h ⟨⟨o, ho, _, hd⟩, _⟩ => ⟨o, ho, fun v z => by rw [hd] at z; cases z⟩
  keep := fun i h h' st k => ⟨st.1.at fun o e => k _ (by simp) o e, st.2.at fun o e => k _ (by simp) o e⟩
  item := fun i s x Q E st hx hQ => wpAny_nextOf_list_item st.1 st.2 hx fun h' hi hs => hQ h' ⟨hi, st.2.extBut hs.extBut hne⟩ hs
  stop := fun i s Q E st hx hE => wpAny_nextOf_list_end hh st.1 st.2 hx hE
structure ZAp (z TI TO i1 i2 : Addr) (f1 f2 : List Addr) : Prop where
  TIz : TI ≠ z
  TOz : TO ≠ z
  TITO : TI ≠ TO
  z1 : z ∉ f1
  z2 : z ∉ f2
  o1 : TO ∉ f1
  o2 : TO ∉ f2
  t1 : TI ≠ i1
  t2 : TI ≠ i2
  a12 : i1 ∉ f2
  a21 : i2 ∉ f1
section
variable {prog : Program} {w : World} {A : Around} {E : Value → Shared → Prop} {s : Shared} {z TI TO i1 i2 : Addr} {f1 f2 : List Addr} {s1 s2 : Nat → Heap → Prop} {xs ys : Array Value} {k1 k2 : Nat} {x y a b : Value}
theorem ne_of_mem {l : List Addr} {p q : Addr} (hq : q ∈ l) (hp : p ∉ l) : q ≠ p := fun e => hp (e ▸ hq)
theorem zp_item {Q : Value → Shared → Prop} (D : ZAp z TI TO i1 i2 f1 f2) (N1 : Nx prog w A f1 i1 s1 xs) (N2 : Nx prog w A f2 i2 s2 ys)
    (hz : IsZip s.heap z TI TO .none) (hTI : IsPair s.heap TI (.ref i1) (.ref i2)) (hTO : IsPair s.heap TO a b)
    (h1 : s1 k1 s.heap) (h2 : s2 k2 s.heap) (hx : xs[k1]? = some x) (hy : ys[k2]? = some y)
    (hQ : ∀ h', IsZip h' z TI TO (rawInt s.heap.objs.size) → IsPair h' TO x y → s1 (k1 + 1) h' → s2 (k2 + 1) h' → IsPair h' s.heap.objs.size x y → h'.objs.size = s.heap.objs.size + 1 →
      (∀ c o, c ≠ z → c ≠ TO → c ≠ i1 → c ≠ i2 → s.heap.get? c = some o → h'.get? c = some o) → Q (.ref s.heap.objs.size) { s with heap := h' }) :
    wpAny (model prog w) A (Builtin.«zip.__next__» ⟨[.ref z], []⟩) (fun fin s' => ∃ v, fin = .done (.ret v) ∧ Q v s') E s := by
  have i1z : i1 ≠ z := ne_of_mem N1.mem D.z1
  have i2z : i2 ≠ z := ne_of_mem N2.mem D.z2
  have i1o : i1 ≠ TO := ne_of_mem N1.mem D.o1
  have i2o : i2 ≠ TO := ne_of_mem N2.mem D.o2
  have i12 : i1 ≠ i2 := ne_of_mem N1.mem D.a21
  have up1 : ∀ {c : Addr} {h h' : Heap} {k : Nat}, Heap.ExtBut c h h' → c ∉ f1 → s1 k h → s1 k h' := fun e n st => N1.keep _ _ _ st fun b hb o q => e b o (ne_of_mem hb n) q
  have up2 : ∀ {c : Addr} {h h' : Heap} {k : Nat}, Heap.ExtBut c h h' → c ∉ f2 → s2 k h → s2 k h' := fun e n st => N2.keep _ _ _ st fun b hb o q => e b o (ne_of_mem hb n) q
  show wpAny _ _ (field (.ref z) 2 >>= _) _ _ _
  refine wpAny_bind (wpAny_field hz rfl (x := .bool false) rfl ?_)
  show wpAny _ _ (field (.ref z) 3 >>= _) _ _ _
  refine wpAny_bind (wpAny_field hz rfl (x := .ref TI) rfl ?_)
  refine wpAny_bind (wpAny_seqItems hTI rfl ?_)
  show wpAny _ _ (Builtin.SmallTypes.ownedTupleIsFree (.ref z) >>= _) _ _ _
  refine wpAny_bind ?_
  unfold Builtin.SmallTypes.ownedTupleIsFree
  refine wpAny_bind (wpAny_field hz rfl (x := .none) rfl (wpAny_pure ?_))
  simp only [if_true]
  refine wpAny_bind (wpAny_rule ?_)
  refine wpAny_bind (wpAny_field hz rfl (x := .ref TO) rfl ?_)
  refine wpAny_bind (wpAny_setField_rec hz (by simp) fun hA zA sA => ?_)
  replace zA : IsZip hA z TI TO .ellipsis := zA
  refine wpAny_bind ?_
  simp only [List.zipIdx_cons, List.zipIdx_nil, List.forIn_cons, List.forIn_nil]
  refine wpAny_bind (wpAny_bind (wpAny_onRaise ?_))
  show wpAny _ _ (Builtin.SmallTypes.nextOf (.ref i1) >>= _) _ _ _
  refine wpAny_bind (N1.item k1 _ x _ _ (up1 sA.extBut D.z1 h1) hx fun hB h1B sB => wpAny_pure ?_)
  have oB : IsPair hB TO a b := sB.extBut _ _ i1o.symm (sA.extBut _ _ D.TOz hTO)
  refine wpAny_bind (wpAny_seqItems oB rfl ?_)
  refine wpAny_bind (wpAny_updateSeq_pair oB fun hC oC sC => ?_)
  replace oC : IsPair hC TO x b := oC
  refine wpAny_bind (wpAny_letGo (wpAny_pure ?_))
  refine wpAny_bind (wpAny_bind (wpAny_onRaise ?_))
  show wpAny _ _ (Builtin.SmallTypes.nextOf (.ref i2) >>= _) _ _ _
  refine wpAny_bind (N2.item k2 _ y _ _ (up2 sC.extBut D.o2 (up2 sB.extBut D.a12 (up2 sA.extBut D.z2 h2))) hy fun hD h2D sD => wpAny_pure ?_)
  have oD : IsPair hD TO x b := sD.extBut _ _ i2o.symm oC
  refine wpAny_bind (wpAny_seqItems oD rfl ?_)
  refine wpAny_bind (wpAny_updateSeq_pair oD fun hF oF sF => ?_)
  replace oF : IsPair hF TO x y := oF
  refine wpAny_bind (wpAny_letGo (wpAny_pure (wpAny_pure ?_)))
  refine wpAny_bind (wpAny_seqItems oF rfl ?_)
  refine wpAny_bind (wpAny_newTuple ?_)
  have hsz : hF.objs.size = s.heap.objs.size := by rw [sF.1, sD.1, sC.1, sB.1, sA.1]
  have zF : IsZip hF z TI TO .ellipsis := sF.extBut _ _ D.TOz.symm (sD.extBut _ _ i2z.symm (sC.extBut _ _ D.TOz.symm (sB.extBut _ _ i1z.symm zA)))
  have kF : ∀ c o, c ≠ z → c ≠ TO → c ≠ i1 → c ≠ i2 → s.heap.get? c = some o → hF.get? c = some o := fun c o c1 c2 c3 c4 e =>
    sF.extBut _ _ c2 (sD.extBut _ _ c4 (sC.extBut _ _ c2 (sB.extBut _ _ c3 (sA.extBut _ _ c1 e))))
  have t1F : s1 (k1 + 1) hF := up1 sF.extBut D.o1 (up1 sD.extBut D.a21 (up1 sC.extBut D.o1 h1B))
  have t2F : s2 (k2 + 1) hF := up2 sF.extBut D.o2 h2D
  have zlt : z < hF.objs.size := Heap.lt_size zF
  show wpAny _ _ (Builtin.SmallTypes.ownedTupleHandOut (.ref z) (.ref hF.objs.size) >>= _) _ _ _
  refine wpAny_bind ?_
  unfold Builtin.SmallTypes.ownedTupleHandOut
  have zG : IsZip (hF.push { cls := .type "tuple", data := .seq #[x, y] }) z TI TO .ellipsis := Heap.get?_push_of_some _ zF
  refine wpAny_bind (wpAny_setField_rec zG (by simp) fun hI zI sI => ?_)
  replace zI : IsZip hI z TI TO (rawInt hF.objs.size) := zI
  refine wpAny_setField_rec zI (by simp) fun hJ zJ sJ => ?_
  replace zJ : IsZip hJ z TI TO (rawInt hF.objs.size) := zJ
  have up : ∀ c o, c ≠ z → hF.get? c = some o → hJ.get? c = some o := fun c o c1 e => sJ.extBut _ _ c1 (sI.extBut _ _ c1 (Heap.get?_push_of_some _ e))
  have tJ : IsPair hJ hF.objs.size x y := sJ.extBut _ _ (Nat.ne_of_gt zlt) (sI.extBut _ _ (Nat.ne_of_gt zlt) (Heap.get?_push_size _ rfl))
  have sz : hJ.objs.size = hF.objs.size + 1 := by rw [sJ.1, sI.1, Heap.size_push]
  rw [hsz] at zJ tJ sz
  refine wpAny_pure ⟨_, rfl, ?_⟩
  show Q (.ref hF.objs.size) _
  rw [hsz]
  exact hQ hJ zJ (up _ _ D.TOz oF) (N1.keep _ _ _ t1F fun b hb o q => up b o (ne_of_mem hb D.z1) q) (N2.keep _ _ _ t2F fun b hb o q => up b o (ne_of_mem hb D.z2) q) tJ sz fun c o c1 c2 c3 c4 e => up c o c1 (kF c o c1 c2 c3 c4 e)
theorem zp_end {Q : PySem.Fin → Shared → Prop} (D : ZAp z TI TO i1 i2 f1 f2) (N1 : Nx prog w A f1 i1 s1 xs) (N2 : Nx prog w A f2 i2 s2 ys)
    (hz : IsZip s.heap z TI TO .none) (hTI : IsPair s.heap TI (.ref i1) (.ref i2)) (hTO : IsPair s.heap TO a b)
    (h1 : s1 k1 s.heap) (h2 : s2 k2 s.heap) (hend : xs[k1]? = none ∨ ys[k2]? = none)
    (hE : ∀ h' e, (∀ c o, c ≠ z → c ≠ TO → c ≠ i1 → c ≠ i2 → s.heap.get? c = some o → h'.get? c = some o) → (∃ o, h'.get? e = some o ∧ o.cls = .type "StopIteration") → E (.ref e) { s with heap := h' }) :
    wpAny (model prog w) A (Builtin.«zip.__next__» ⟨[.ref z], []⟩) Q E s := by
  have i1z : i1 ≠ z := ne_of_mem N1.mem D.z1
  have i2z : i2 ≠ z := ne_of_mem N2.mem D.z2
  have i1o : i1 ≠ TO := ne_of_mem N1.mem D.o1
  have i2o : i2 ≠ TO := ne_of_mem N2.mem D.o2
  have up1 : ∀ {c : Addr} {h h' : Heap} {k : Nat}, Heap.ExtBut c h h' → c ∉ f1 → s1 k h → s1 k h' := fun e n st => N1.keep _ _ _ st fun b hb o q => e b o (ne_of_mem hb n) q
  have up2 : ∀ {c : Addr} {h h' : Heap} {k : Nat}, Heap.ExtBut c h h' → c ∉ f2 → s2 k h → s2 k h' := fun e n st => N2.keep _ _ _ st fun b hb o q => e b o (ne_of_mem hb n) q
  show wpAny _ _ (field (.ref z) 2 >>= _) _ _ _
  refine wpAny_bind (wpAny_field hz rfl (x := .bool false) rfl ?_)
  show wpAny _ _ (field (.ref z) 3 >>= _) _ _ _
  refine wpAny_bind (wpAny_field hz rfl (x := .ref TI) rfl ?_)
  refine wpAny_bind (wpAny_seqItems hTI rfl ?_)
  show wpAny _ _ (Builtin.SmallTypes.ownedTupleIsFree (.ref z) >>= _) _ _ _
  refine wpAny_bind ?_
  unfold Builtin.SmallTypes.ownedTupleIsFree
  refine wpAny_bind (wpAny_field hz rfl (x := .none) rfl (wpAny_pure ?_))
  simp only [if_true]
  refine wpAny_bind (wpAny_rule ?_)
  refine wpAny_bind (wpAny_field hz rfl (x := .ref TO) rfl ?_)
  refine wpAny_bind (wpAny_setField_rec hz (by simp) fun hA zA sA => ?_)
  replace zA : IsZip hA z TI TO .ellipsis := zA
  refine wpAny_bind ?_
  simp only [List.zipIdx_cons, List.zipIdx_nil, List.forIn_cons, List.forIn_nil]
  refine wpAny_bind (wpAny_bind (wpAny_onRaise ?_))
  show wpAny _ _ (Builtin.SmallTypes.nextOf (.ref i1) >>= _) _ _ _
  cases hx : xs[k1]? with
  | none =>
    refine wpAny_bind (N1.stop k1 _ _ _ (up1 sA.extBut D.z1 h1) hx fun hB e eB he => ?_)
    obtain ⟨oe, hoe, hce⟩ := he
    have zB : IsZip hB z TI TO .ellipsis := eB _ _ i1z.symm zA
    have hez : e ≠ z := fun x => by subst x; rw [zB] at hoe; cases hoe; simp at hce
    refine wpAny_setField_rec zB (by simp) fun hC _ sC => hE hC e (fun c o c1 _ c3 _ x => sC.extBut _ _ c1 (eB _ _ c3 (sA.extBut _ _ c1 x))) ⟨oe, sC.extBut _ _ hez hoe, hce⟩
  | some x =>
    have hy : ys[k2]? = none := by rcases hend with h | h; rw [hx] at h; cases h; exact h
    refine wpAny_bind (N1.item k1 _ x _ _ (up1 sA.extBut D.z1 h1) hx fun hB h1B sB => wpAny_pure ?_)
    have oB : IsPair hB TO a b := sB.extBut _ _ i1o.symm (sA.extBut _ _ D.TOz hTO)
    refine wpAny_bind (wpAny_seqItems oB rfl ?_)
    refine wpAny_bind (wpAny_updateSeq_pair oB fun hC oC sC => ?_)
    refine wpAny_bind (wpAny_letGo (wpAny_pure ?_))
    refine wpAny_bind (wpAny_bind (wpAny_onRaise ?_))
    show wpAny _ _ (Builtin.SmallTypes.nextOf (.ref i2) >>= _) _ _ _
    refine wpAny_bind (N2.stop k2 _ _ _ (up2 sC.extBut D.o2 (up2 sB.extBut D.a12 (up2 sA.extBut D.z2 h2))) hy fun hD e eD he => ?_)
    obtain ⟨oe, hoe, hce⟩ := he
    have zD : IsZip hD z TI TO .ellipsis := eD _ _ i2z.symm (sC.extBut _ _ D.TOz.symm (sB.extBut _ _ i1z.symm zA))
    have hez : e ≠ z := fun x => by subst x; rw [zD] at hoe; cases hoe; simp at hce
    refine wpAny_setField_rec zD (by simp) fun hF _ sF => hE hF e (fun c o c1 c2 c3 c4 x => sF.extBut _ _ c1 (eD _ _ c4 (sC.extBut _ _ c2 (sB.extBut _ _ c3 (sA.extBut _ _ c1 x))))) ⟨oe, sF.extBut _ _ hez hoe, hce⟩
theorem pyNext_zp_item {Q : Option Value → Shared → Prop} (hh : A.handled = none) (D : ZAp z TI TO i1 i2 f1 f2) (N1 : ∀ A : Around, A.handled = none → Nx prog w A f1 i1 s1 xs) (N2 : ∀ A : Around, A.handled = none → Nx prog w A f2 i2 s2 ys)
    (hz : IsZip s.heap z TI TO .none) (hTI : IsPair s.heap TI (.ref i1) (.ref i2)) (hTO : IsPair s.heap TO a b)
    (h1 : s1 k1 s.heap) (h2 : s2 k2 s.heap) (hx : xs[k1]? = some x) (hy : ys[k2]? = some y)
    (hQ : ∀ h', IsZip h' z TI TO (rawInt s.heap.objs.size) → IsPair h' TO x y → s1 (k1 + 1) h' → s2 (k2 + 1) h' → IsPair h' s.heap.objs.size x y → h'.objs.size = s.heap.objs.size + 1 →
      (∀ c o, c ≠ z → c ≠ TO → c ≠ i1 → c ≠ i2 → s.heap.get? c = some o → h'.get? c = some o) → Q (some (.ref s.heap.objs.size)) { s with heap := h' }) :
    wpAny (model prog w) A (pyNext (.ref z)) Q E s := by
  have hT : s.TypeIs (.ref z) "zip" := ⟨_, hz, rfl⟩
  unfold pyNext
  exact wpAny_bind (wpAny_attempt (wpAny_callSpecial?_slot (name := Str.ofString "__next__") hT F.slot_zip_next
    (wpAny_call_entry F.slot_zip_next hT F.entry_zip_next
      (zp_item D (N1 _ hh) (N2 _ hh) hz hTI hTO h1 h2 hx hy fun h' a1 a2 a3 a4 a5 a6 a7 => wpAny_pure (hQ h' a1 a2 a3 a4 a5 a6 a7)) (F.args_zip_next_1 _))))
theorem pyNext_zp_end {Q : Option Value → Shared → Prop} (hh : A.handled = none) (D : ZAp z TI TO i1 i2 f1 f2) (N1 : ∀ A : Around, A.handled = none → Nx prog w A f1 i1 s1 xs) (N2 : ∀ A : Around, A.handled = none → Nx prog w A f2 i2 s2 ys)
    (hz : IsZip s.heap z TI TO .none) (hTI : IsPair s.heap TI (.ref i1) (.ref i2)) (hTO : IsPair s.heap TO a b)
    (h1 : s1 k1 s.heap) (h2 : s2 k2 s.heap) (hend : xs[k1]? = none ∨ ys[k2]? = none)
    (hQ : ∀ h', (∀ c o, c ≠ z → c ≠ TO → c ≠ i1 → c ≠ i2 → s.heap.get? c = some o → h'.get? c = some o) → Q none { s with heap := h' }) : wpAny (model prog w) A (pyNext (.ref z)) Q E s := by
  have hT : s.TypeIs (.ref z) "zip" := ⟨_, hz, rfl⟩
  unfold pyNext
  refine wpAny_bind (wpAny_attempt (wpAny_callSpecial?_slot (name := Str.ofString "__next__") hT F.slot_zip_next
    (wpAny_call_entry F.slot_zip_next hT F.entry_zip_next (zp_end D (N1 _ hh) (N2 _ hh) hz hTI hTO h1 h2 hend fun h' e hk he => ?_) (F.args_zip_next_1 _))))
  obtain ⟨o, ho, hc⟩ := he
  refine wpAny_bind (wpAny_isInstance (T := "StopIteration") (b := true) ⟨o, ho, hc⟩ isSubtype_stop ?_)
  exact wpAny_pure (hQ _ hk)
end
section
variable {prog : Program} {w : World} {A : Around} {E : Value → Shared → Prop} {s : Shared}
end
end PySem
set_option Elab.async false
set_option linter.all false
set_option maxRecDepth 100000
set_option maxHeartbeats 4000000
namespace L2
open PySem PySem.Spec PyProof.Rows
theorem boot_zip : bootBuiltins "zip" = some (.type "zip") := by decide +kernel
section
variable {X : Cx} {K : PySem.W.Frag}
theorem zap {n a b : Addr} (ha : a < n) (hb : b < n) : ZAp (n + 4) (n + 2) (n + 3) n (n + 1) [n, a] [n + 1, b] := by
  have q1 : ∀ k : Nat, a ≠ n + k := fun k => Nat.ne_of_lt (Nat.lt_of_lt_of_le ha (Nat.le_add_right _ _))
  have q2 : ∀ k : Nat, b ≠ n + k := fun k => Nat.ne_of_lt (Nat.lt_of_lt_of_le hb (Nat.le_add_right _ _))
  have r : ∀ i j : Nat, i ≠ j → n + i ≠ n + j := fun i j h e => h (Nat.add_left_cancel e)
  have r0 : ∀ j : Nat, j ≠ 0 → n ≠ n + j := fun j h e => h (Nat.left_eq_add.mp e)
  refine ⟨r _ _ (by decide), r _ _ (by decide), r _ _ (by decide), ?_, ?_, ?_, ?_, (r0 2 (by decide)).symm, r 2 1 (by decide), ?_, ?_⟩ <;> simp only [List.mem_cons, List.mem_nil_iff, or_false, not_or]
  · exact ⟨(r0 4 (by decide)).symm, (q1 4).symm⟩
  · exact ⟨r 4 1 (by decide), (q2 4).symm⟩
  · exact ⟨(r0 3 (by decide)).symm, (q1 3).symm⟩
  · exact ⟨r 3 1 (by decide), (q2 3).symm⟩
  · exact ⟨r0 1 (by decide), (Nat.ne_of_lt hb).symm⟩
  · exact ⟨(r0 1 (by decide)).symm, (q1 1).symm⟩
def itZ (ds es : List PyData) : Itd := ⟨min ds.length es.length, fun i => .d (.tuple [ds.getD i .none, es.getD i .none]), fun _ => True⟩
def zipD (ds es : List PyData) : List PyData := List.zipWith (fun a b => .tuple [a, b]) ds es
theorem Src.z {ds es : List PyData} {μ : Mu} : Src (itZ ds es) (zipD ds es) μ := by
  refine ⟨by simp [zipD, itZ], fun i x q => ?_, trivial⟩
  unfold zipD at q
  rw [List.getElem?_zipWith] at q
  show En.d (.tuple [ds.getD i .none, es.getD i .none]) = _
  cases e1 : ds[i]? with
  | none => rw [e1] at q; simp at q
  | some a =>
    cases e2 : es[i]? with
    | none => rw [e1, e2] at q; simp at q
    | some b =>
      rw [e1, e2] at q
      rw [getD_get e1, getD_get e2]
      simpa using q
end
end L2
set_option Elab.async false
set_option linter.all false
set_option maxRecDepth 100000
set_option maxHeartbeats 4000000
namespace L2
open PySem PySem.Spec PyProof.Rows
def ItzL (K : PySem.W.Frag) (a b : Addr) : It :=
  ⟨fun i H => ∃ xs ys x y, SqL K H a xs ∧ SqL K H b ys ∧ xs[i]? = some x ∧ ys[i]? = some y,
   fun i H v H' => ∃ t x y, H t = none ∧ v = .ref t ∧ H' = upd H t (.tup [x, y]) ∧ (∀ xs, SqL K H a xs → xs[i]? = some x) ∧ ∀ ys, SqL K H b ys → ys[i]? = some y,
   fun i H => ∃ xs ys, SqL K H a xs ∧ SqL K H b ys ∧ (xs.length ≤ i ∨ ys.length ≤ i)⟩
def zStL (a b z TI TO i1 i2 : Addr) (i : Nat) (h : Heap) : Prop :=
  IsZip h z TI TO .none ∧ IsPair h TI (.ref i1) (.ref i2) ∧ (∃ p q, IsPair h TO p q) ∧ h.IsListIter i1 a i ∧ h.IsListIter i2 b i
theorem turn_zipL {P : Program} {w : World} {K : PySem.W.Frag} {elts : List Expr} {x1} {pos : Pos} (a b z TI TO i1 i2 : Addr) (D : ZAp z TI TO i1 i2 [i1, a] [i2, b]) (ha : a ≠ i1) (hb : b ≠ i2) :
    Turn P w K (.Tuple elts x1 pos) (ItzL K a b) [z, TI, TO, i1, i2] z (zStL a b z TI TO i1 i2) where
  mem := by simp
  obj := fun i h ⟨hz, hI, ⟨p, q, hO⟩, ⟨o1, g1, _, d1⟩, ⟨o2, g2, _, d2⟩⟩ c hc => by
    simp only [List.mem_cons, List.mem_nil_iff, or_false] at hc
    rcases hc with rfl | rfl | rfl | rfl | rfl
    · exact ⟨_, hz, fun v e => by cases e⟩
    · exact ⟨_, hI, fun v e => by cases e⟩
    · exact ⟨_, hO, fun v e => by cases e⟩
    · exact ⟨_, g1, fun v e => by rw [d1] at e; cases e⟩
    · exact ⟨_, g2, fun v e => by rw [d2] at e; cases e⟩
  keep := fun i h h' ⟨hz, hI, ⟨p, q, hO⟩, h1, h2⟩ k => ⟨k _ (by simp) _ hz, k _ (by simp) _ hI, ⟨p, q, k _ (by simp) _ hO⟩, h1.at fun o e => k _ (by simp) o e, h2.at fun o e => k _ (by simp) o e⟩
  item := by
    intro X hP hw hK hc i pins s σ H E I hf st hg
    subst hP hw hK
    obtain ⟨hz, hI, ⟨p, q, hO⟩, h1, h2⟩ := st
    obtain ⟨xs, ys, x, y, hq1, hq2, hx, hy⟩ := hg
    obtain ⟨is1, rv1, p1, _⟩ := I.list hq1
    obtain ⟨is2, rv2, p2, _⟩ := I.list hq2
    obtain ⟨u, hu, ru⟩ := rv1.get hx
    obtain ⟨v, hv, rw'⟩ := rv2.get hy
    have fr : H s.heap.objs.size = none := I.hok.fresh (Nat.le_refl _)
    have hzs : z < s.heap.objs.size := Heap.lt_size hz
    refine pyNext_zp_item (I.ok.hd hc) D (fun A hh => nx_lst hh ha) (fun A hh => nx_lst hh hb) hz hI hO ⟨h1, p1.isList⟩ ⟨h2, p2.isList⟩ (x := u) (y := v) (by simpa using hu) (by simpa using hv) fun h' hz' hO' t1 t2 ht hsz hk => ⟨_, rfl, wpAny_letOwnedTupleGo_zip hz' fun hA zA sA => ?_⟩
    have sA : Heap.SameBut z h' hA := sA
    have keep : ∀ c o, c ∉ [z, TI, TO, i1, i2] → s.heap.get? c = some o → hA.get? c = some o := fun c o hc q => by
      simp only [List.mem_cons, List.mem_nil_iff, or_false, not_or] at hc
      exact sA.extBut c o hc.1 (hk c o hc.1 hc.2.2.1 hc.2.2.2.1 hc.2.2.2.2 q)
    have htA : hA.get? s.heap.objs.size = some { cls := .type "tuple", data := .seq #[u, v] } := (sA.2 _ (Nat.ne_of_gt hzs)).trans ht
    have I2 : Inv X pins σ (upd H s.heap.objs.size (.tup [x, y])) { s with heap := hA, toks := s.toks } := I.turnedL hf keep (Nat.le_refl _) ⟨sz2, [u, v], .cons ru (.cons rw' .nil), ⟨_, htA, rfl, _, rfl⟩⟩
    have hlt : ∀ c ∈ [z, TI, TO, i1, i2], c ≠ s.heap.objs.size := fun c hc => by
      simp only [List.mem_cons, List.mem_nil_iff, or_false] at hc
      obtain ⟨o1, g1, _⟩ := h1
      obtain ⟨o2, g2, _⟩ := h2
      rcases hc with rfl | rfl | rfl | rfl | rfl
      · exact Nat.ne_of_lt hzs
      · exact Nat.ne_of_lt (Heap.lt_size hI)
      · exact Nat.ne_of_lt (Heap.lt_size hO)
      · exact Nat.ne_of_lt (Heap.lt_size g1)
      · exact Nat.ne_of_lt (Heap.lt_size g2)
    have i1z : i1 ≠ z := ne_of_mem (l := [i1, a]) (by simp) D.z1
    have i2z : i2 ≠ z := ne_of_mem (l := [i2, b]) (by simp) D.z2
    refine ⟨.ref s.heap.objs.size, _, I2, rfl, ⟨_, x, y, fr, rfl, rfl, fun zs hz => by rw [I.list_inj hz hq1]; exact hx, fun zs hz => by rw [I.list_inj hz hq2]; exact hy⟩, ⟨zA, ?_, ⟨u, v, ?_⟩, ?_, ?_⟩, fun c hc => ?_⟩
    · exact sA.extBut _ _ D.TIz (hk _ _ D.TIz D.TITO D.t1 D.t2 hI)
    · exact sA.extBut _ _ D.TOz hO'
    · exact t1.1.extBut sA.extBut i1z
    · exact t2.1.extBut sA.extBut i2z
    · rw [upd_ne (hlt c hc)]; exact (hf c hc).1
  done := by
    intro X hP hw hK hc i pins s σ H E I hf st hg
    subst hP hw hK
    obtain ⟨hz, hI, ⟨p, q, hO⟩, h1, h2⟩ := st
    obtain ⟨xs, ys, hq1, hq2, hx⟩ := hg
    obtain ⟨is1, rv1, p1, _⟩ := I.list hq1
    obtain ⟨is2, rv2, p2, _⟩ := I.list hq2
    have hl1 := rv1.length
    have hl2 := rv2.length
    refine pyNext_zp_end (I.ok.hd hc) D (fun A hh => nx_lst hh ha) (fun A hh => nx_lst hh hb) hz hI hO ⟨h1, p1.isList⟩ ⟨h2, p2.isList⟩ (by
      rcases hx with e | e
      · left; simp; omega
      · right; simp; omega) fun h' k => ⟨rfl, ?_⟩
    exact I.turnedF (t' := s.toks) hf fun c o hb q => by
      simp only [List.mem_cons, List.mem_nil_iff, or_false, not_or] at hb
      exact k c o hb.1 hb.2.2.1 hb.2.2.2.1 hb.2.2.2.2 q
  self := fun _ _ _ _ _ st h => wpAny_pyIter_zip st.1 h
def iZipL (K : PySem.W.Frag) (ta : TA) : TI := fun σ H R => ta σ H fun vs H1 => ∃ a b, vs = [.ref a, .ref b] ∧ (∃ xs, SqL K H1 a xs) ∧ (∃ ys, SqL K H1 b ys) ∧ R (ItzL K a b) H1
section
variable {X : Cx} {K : PySem.W.Frag}
theorem pi_zipL {l m : Expr} {ta : TA} {elts : List Expr} {x1} {tpos p pos : Pos} (hg : Gl X "zip") (hm : X.mg "zip" = none) (ha : PA X [l, m] ta) (hs : starEach [l, m] X.env = [(false, eval l X.env), (false, eval m X.env)] := by rfl) (hs2 : starEach [m] X.env = [(false, eval m X.env)] := by rfl) :
    PI X (.Tuple elts x1 tpos) (.Call (.Name "zip" p) [l, m] [] pos) (iZipL X.K ta) := by
  intro pins s σ H R I h
  refine Call_ (ld_blt I hg hm boot_zip (PyProof.Rows.callWith_type1 (thn (ha pos pins s σ H _ I h) fun us s1 ⟨vs, H1, I1, r1, q1⟩ => ?_) (by rw [hs, hs2]) (by rw [hs2]; rfl)))
  obtain ⟨a, b, e, ⟨xs, hq1⟩, ⟨ys, hq2⟩, q⟩ := q1
  subst e
  obtain ⟨u, v, rfl, rx, ry⟩ := vals2 r1
  cases rx
  cases ry
  obtain ⟨is1, rv1, p1, _⟩ := I1.list hq1
  obtain ⟨is2, rv2, p2, _⟩ := I1.list hq2
  have la : a < s1.heap.objs.size := by obtain ⟨o, ho, _⟩ := p1.isList; exact Heap.lt_size ho
  have lb : b < s1.heap.objs.size := by obtain ⟨o, ho, _⟩ := p2.isList; exact Heap.lt_size ho
  refine call_zip_2 p1.isList p2.isList fun h' hz hI hO h1 h2 hsz hk => ?_
  have I2 : Inv X pins σ H1 { s1 with heap := h' } := I1.kept (t' := s1.toks) hk
  refine wpAny_pyIter_zip hz ?_
  refine ⟨s1.heap.objs.size + 4, [s1.heap.objs.size + 4, s1.heap.objs.size + 2, s1.heap.objs.size + 3, s1.heap.objs.size, s1.heap.objs.size + 1], _, _, H1, rfl, I2, turn_zipL a b _ _ _ _ _ (zap la lb) (Nat.ne_of_lt la) (Nat.ne_of_lt (Nat.lt_succ_of_lt lb)), ⟨hz, hI, ⟨_, _, hO⟩, h1, h2⟩, fun c hc => ?_, q⟩
  have hc' : s1.heap.objs.size ≤ c := by
    simp only [List.mem_cons, List.mem_nil_iff, or_false] at hc
    rcases hc with rfl | rfl | rfl | rfl | rfl
    · exact Nat.le_add_right _ _
    · exact Nat.le_add_right _ _
    · exact Nat.le_add_right _ _
    · exact Nat.le_refl _
    · exact Nat.le_add_right _ _
  exact I1.fpOk hc' (I1.hok.fresh hc')
def diZL (ta : TAd) : TId := fun ρ μ Q => ta ρ μ fun es μ1 => match es with
  | [.d (.list ds), .d (.list es)] => Q (itZ ds es) μ1
  | _ => False
theorem di_zipL {l m : Expr} {ta : TAd} {elts : List Expr} {x1} {tpos p pos : Pos} (hg : Gl X "zip") (hm : X.mg "zip" = none) (ha : DA K X [l, m] ta) (hK : X.K = K := by rfl) (hs : starEach [l, m] X.env = [(false, eval l X.env), (false, eval m X.env)] := by rfl) (hs2 : starEach [m] X.env = [(false, eval m X.env)] := by rfl) :
    DI K X (.Tuple elts x1 tpos) (.Call (.Name "zip" p) [l, m] [] pos) (diZL ta) := by
  subst hK
  refine PI.mono (pi_zipL hg hm ha hs hs2) fun σ H R ⟨ρ, μ, Q0, hS, hM, h, cl⟩ => ⟨ρ, μ, _, hS, hM, h, fun es μ1 vs H1 q M1 s1 i1 => ?_⟩
  split at q
  · rename_i ds es
    obtain ⟨v, v', rfl, g1, g2⟩ := pair2 i1
    cases g1 with
    | @lst p xs _ h1 h2 =>
    cases g2 with
    | @lst p' ys _ h1' h2' =>
      refine ⟨p, p', rfl, ⟨xs, Same.seq mask_le h1⟩, ⟨ys, Same.seq mask_le h1'⟩, cl _ μ1 _ H1 q M1 s1 fun μ' H' M' s' hok i => ?_⟩
      have h3 := Same.seq mask_le (Same.seq s' h1)
      have h4 := IsAll.same s' h2
      have hl := h4.len
      have h3' := Same.seq mask_le (Same.seq s' h1')
      have h4' := IsAll.same s' h2'
      have hl' := h4'.len
      refine ⟨fun hi => ?_, fun hi => ⟨xs, ys, h3, h3', ?_⟩⟩
      · have hi : i < min ds.length es.length := hi
        have hi1 : i < xs.length := by omega
        have hi2 : i < ys.length := by omega
        refine ⟨⟨xs, ys, xs[i], ys[i], h3, h3', by simp, by simp⟩, ?_⟩
        rintro x H2 ⟨t, y, y', ht, rfl, rfl, hx, hy⟩
        obtain ⟨M2, s2, hn⟩ := M'.laid (o := .tup [y, y']) ht
        obtain ⟨d, e1, e2⟩ := h4.get (hx xs h3)
        obtain ⟨d', e1', e2'⟩ := h4'.get (hy ys h3')
        refine ⟨M2, s2, ?_⟩
        show Is X.K (mask μ' (upd H' t (.tup [y, y']))) (.ref t) (.tuple [ds.getD i .none, es.getD i .none])
        rw [getD_get e1, getD_get e1']
        exact .tup (SqT.of (by rw [mask_of hn]; exact upd_same)) (.cons (Is.same s2 e2) (.cons (Is.same s2 e2') .nil))
      · have hi : min ds.length es.length ≤ i := hi
        omega
  · exact q.elim
end
end L2
set_option Elab.async false
set_option linter.all false
set_option maxRecDepth 100000
set_option maxHeartbeats 4000000
namespace L2
open PySem PySem.Spec PyProof.Rows
section
variable {X : Cx} {K : PySem.W.Frag}
end
end L2
set_option Elab.async false
set_option linter.all false
set_option maxRecDepth 100000
set_option maxHeartbeats 4000000
namespace L2
open PySem PySem.Spec PyProof.Rows
section
variable {X : Cx} {K : PySem.W.Frag} {pos : Pos}
end
end L2
set_option Elab.async false
set_option linter.all false
set_option maxRecDepth 100000
set_option maxHeartbeats 4000000
namespace L2
open PySem PySem.Spec PyProof.Rows
def renN (X : Cx) (N' : List Str) : Cx := { X with N := N' }
theorem set_none {σ : List (Option V)} {i j : Nat} {v : V} (h : (σ.set j none)[i]? = some (some v)) : i ≠ j ∧ σ[i]? = some (some v) := by
  by_cases e : i = j
  · subst e
    rw [List.getElem?_set_self' ] at h
    cases hh : σ[i]? with
    | none => rw [hh] at h; cases h
    | some a => rw [hh] at h; cases h
  · exact ⟨e, by rwa [List.getElem?_set_ne (Ne.symm e)] at h⟩
theorem Cx.Ok.ren {X : Cx} {N' : List Str} (ok : X.Ok) : (renN X N').Ok :=
  ⟨ok.mod, ok.kind, ok.glob, ok.blt, ok.above, ok.inj, ok.has, ok.cab, ok.hd, ok.frames, ok.stk, ok.exf, ok.bs, ok.bsz, ok.noex, ok.exfs, ok.funs, ok.frf⟩
theorem Cx.Ok.unren {X : Cx} {N' : List Str} (ok : (renN X N').Ok) : X.Ok :=
  ⟨ok.mod, ok.kind, ok.glob, ok.blt, ok.above, ok.inj, ok.has, ok.cab, ok.hd, ok.frames, ok.stk, ok.exf, ok.bs, ok.bsz, ok.noex, ok.exfs, ok.funs, ok.frf⟩
section
variable {X : Cx} {K : PySem.W.Frag} {pins : List (Addr × Obj)} {σ : List (Option V)} {H : Hp} {s : Shared}
theorem Inv.ren {j : Nat} {d : Str} (I : Inv X pins σ H s) : Inv (renN X (X.N.set j d)) pins (σ.set j none) H s :=
  ⟨Cx.Ok.ren I.ok, I.os, I.bare, I.base, by
    obtain ⟨m, hn, h⟩ := I.loc
    refine ⟨m, hn, fun i x v e1 e2 hv => ?_⟩
    obtain ⟨hij, e2⟩ := set_none e2
    have e1 : (X.N.set j d)[i]? = some x := e1
    rw [List.getElem?_set_ne (Ne.symm hij)] at e1
    exact h i x v e1 e2 hv, I.cell, I.free, I.freeC, I.pin, I.hok, by
    show (σ.set j none).length = (X.N.set j d).length
    rw [List.length_set, List.length_set]; exact I.len⟩
theorem Inv.unren {j : Nat} {d : Str} (I : Inv (renN X (X.N.set j d)) pins σ H s) : Inv X pins (σ.set j none) H s :=
  ⟨Cx.Ok.unren I.ok, I.os, I.bare, I.base, by
    obtain ⟨m, hn, h⟩ := I.loc
    refine ⟨m, hn, fun i x v e1 e2 hv => ?_⟩
    obtain ⟨hij, e2⟩ := set_none e2
    exact h i x v (show (X.N.set j d)[i]? = some x by rw [List.getElem?_set_ne (Ne.symm hij)]; exact e1) e2 hv, I.cell, I.free, I.freeC, I.pin, I.hok, by
    have := I.len
    have this : σ.length = (X.N.set j d).length := this
    rw [List.length_set] at this
    rw [List.length_set]; exact this⟩
theorem RelS.forget {ρ : Rho} {μ : Mu} (j : Nat) (h : RelS K ρ μ σ H) : RelS K (ρ.set j none) μ (σ.set j none) H := by
  refine ⟨by simp [h.len], fun i e q => ?_⟩
  by_cases hj : i = j
  · subst hj
    rw [List.getElem?_set_self'] at q
    cases hh : ρ[i]? with
    | none => rw [hh] at q; cases q
    | some a => rw [hh] at q; cases q
  · rw [List.getElem?_set_ne (Ne.symm hj)] at q
    obtain ⟨v, e1, e2⟩ := h.get i e q
    exact ⟨v, by rw [List.getElem?_set_ne (Ne.symm hj)]; exact e1, e2⟩
def dForget (j : Nat) (t : TSd) : TSd := fun D ρ μ => t { nx := fun ρ' μ' => D.nx (ρ'.set j none) μ', rt := D.rt, bk := fun ρ' μ' => D.bk (ρ'.set j none) μ', ct := fun ρ' μ' => D.ct (ρ'.set j none) μ' } (ρ.set j none) μ
theorem ds_forget {st : Stmt} {t : TSd} (j : Nat) (d : Str) {N' : List Str} (hN : X.N.set j d = N') (h : DS K (renN X N') st t) : DS K X st (dForget j t) := by
  subst hN
  intro pins s σ H D I ⟨ρ, μ, D0, hS, hM, ht, cl⟩
  let D' : Ends := { nx := fun σ' H' => D.nx (σ'.set j none) H', rt := D.rt, bk := fun σ' H' => D.bk (σ'.set j none) H', ct := fun σ' H' => D.ct (σ'.set j none) H' }
  refine wpAny_mono (h pins s (σ.set j none) H D' I.ren ⟨ρ.set j none, μ, _, hS.forget j, hM, ht, ?_⟩) (fun f s' q => ?_) (fun _ _ x => x)
  · exact ⟨fun ρ' μ' σ' H' a b c d => cl.nx _ μ' _ H' a (b.forget j) c d, cl.rt, fun ρ' μ' σ' H' a b c d => cl.bk _ μ' _ H' a (b.forget j) c d, fun ρ' μ' σ' H' a b c d => cl.ct _ μ' _ H' a (b.forget j) c d⟩
  · cases f with
    | next => obtain ⟨σ', H', J, q⟩ := q; exact ⟨_, H', J.unren, q⟩
    | brk => obtain ⟨σ', H', J, q⟩ := q; exact ⟨_, H', J.unren, q⟩
    | cont => obtain ⟨σ', H', J, q⟩ := q; exact ⟨_, H', J.unren, q⟩
    | ret u => obtain ⟨v, σ', H', J, r, q⟩ := q; exact ⟨v, _, H', J.unren, r, q⟩
end
end L2
set_option Elab.async false
set_option linter.all false
set_option maxRecDepth 100000
set_option maxHeartbeats 4000000
namespace L2
open PySem PySem.Spec PyProof.Rows
section
variable {X : Cx} {K : PySem.W.Frag} {pos : Pos}
theorem IsAll.set {H : Hp} {v : V} {d : PyData} (h : Is K H v d) : ∀ {vs : List V} {ds : List PyData} (j : Nat), IsAll K H vs ds → IsAll K H (vs.set j v) (ds.set j d)
  | _, _, _, .nil => .nil
  | _, _, 0, .cons _ r => .cons h r
  | _, _, j + 1, .cons i r => .cons i (IsAll.set h j r)
end
end L2
set_option Elab.async false
set_option linter.all false
set_option maxRecDepth 100000
set_option maxHeartbeats 4000000
namespace L2
open PySem PySem.Spec PyProof.Rows
section
variable {X : Cx} {K : PySem.W.Frag} {pos : Pos}
def dgPut (to ti : TEd) : TGd := fun e ρ μ R => to ρ μ fun o μ1 => ti ρ μ1 fun i μ2 => match e, o, i with
  | .d d, .m p, .d (.int k) => ∃ μ3 μ4 ds, μ2 = μ3 ++ (p, .lst ds) :: μ4 ∧ 0 ≤ k ∧ k.toNat < ds.length ∧ R ρ (μ3 ++ (p, .lst (ds.set k.toNat d)) :: μ4)
  | _, _, _ => False
theorem dg_sub {o i : Expr} {to ti : TEd} (ho : DE K X o to) (hi : DE K X i ti)
    (ha : ∀ v, assign (.Subscript o i pos) X.env v = (do
      let ov ← holding [v] (eval o X.env)
      let iv ← holding [v, ov] (eval i X.env)
      standAt pos
      holding [v, ov, iv] (setItem ov iv v)
      release [v, ov, iv] []) := by intro _; rfl) : DG K X (.Subscript o i pos) (dgPut to ti) := by
  refine PG.mono (pg_sub ho hi set_list ha) fun v σ H Q ⟨e, ρ, μ, Q0, i0, hS, hM, h, cl⟩ => ⟨ρ, μ, _, hS, hM, h, fun o μ1 v1 H1 q M1 s1 i1 => ⟨ρ, μ1, _, hS.same s1, M1, q, fun i μ2 v2 H2 q2 M2 s2 i2 => ?_⟩⟩
  split at q2
  · rename_i d p k
    have i1 : v1 = .ref p := i1
    subst i1
    cases i2
    obtain ⟨μ3, μ4, ds, rfl, hk, hlt, q2⟩ := q2
    obtain ⟨xs, ex, hA⟩ := M2.ob p (.lst ds) (by simp)
    have i0' := i0.same (s1.trans s2)
    have hx : ixN xs.length k = some k.toNat := by
      unfold ixN
      rw [if_pos hk, if_pos (by rw [hA.len]; omega)]
    refine ⟨p, xs, k, k.toNat, rfl, rfl, ex, hx, ?_⟩
    obtain ⟨M4, s4⟩ := M2.write (H' := upd H2 p (.lst (xs.set k.toNat v))) (o' := .lst (ds.set k.toNat d)) (fun b u e n => by rw [upd_ne n]; exact e) fun ss => ⟨_, upd_same, IsAll.set (Is.same ss i0') _ (IsAll.same ss hA)⟩
    exact cl _ _ _ _ q2 (hS.same ((s1.trans s2).trans s4)) M4 ((s1.trans s2).trans s4)
  · exact q2.elim
end
end L2
set_option Elab.async false
set_option linter.all false
set_option maxRecDepth 100000
set_option maxHeartbeats 4000000
namespace L2
open PySem PySem.Spec PyProof.Rows
section
variable {X : Cx} {K : PySem.W.Frag} {tg iter : Expr} {pos : Pos}
def FinM (Q : En → Mu → Prop) (ys : List PyData) (μ : Mu) : Prop := ∀ p, p ∉ μ.map Prod.fst → Q (.m p) ((p, .lst ys) :: μ)
def dCompM (k : Nat) (ti : TId) (g : TGd) (tt : TTd) (te : TEd) : TEd := fun ρ μ Q => ti ρ μ fun J μ1 => J.n ≤ 1000 ∧ ∃ Pv : Nat → List PyData → Rho → Mu → Prop, Pv 0 [] (ρ ++ List.replicate k none) μ1 ∧ (∀ i ys ρ' μ', i ≤ J.n → Pv i ys ρ' μ' → J.ok μ') ∧
  (∀ i ys ρ' μ', i < J.n → Pv i ys ρ' μ' → g (J.item i) ρ' μ' fun ρ2 μ2 => tt ρ2 μ2 fun b μ3 => if b = true then te ρ2 μ3 fun y μ4 => ∃ z, y = .d z ∧ Pv (i + 1) (ys ++ [z]) ρ2 μ4 else Pv (i + 1) ys ρ2 μ3) ∧
  ∀ ys ρ' μ', Pv J.n ys ρ' μ' → FinM Q ys μ'
theorem up_compM {k : Nat} {ti : TId} {g : TGd} {tt : TTd} {te : TEd} {σ : St} {H : Hp} {Q : VK} (h : up K (dCompM k ti g tt te) σ H Q) : tComp k (upI K ti) (upG K g) (upT K tt) (up K te) σ H Q := by
  obtain ⟨ρ, μ, Q0, hS, hM, h, cl⟩ := h
  refine ⟨ρ, μ, _, hS, hM, h, fun J0 μ1 J H1 q M1 s1 sim => ?_⟩
  obtain ⟨hn, Pv, h0, hok, hstep, hend⟩ := q
  have S0 : RelS K (ρ ++ List.replicate k none) μ1 (σ ++ List.replicate k none) H1 := by
    have S1 := hS.same s1
    refine ⟨by simp [S1.len], fun i e he => ?_⟩
    by_cases hi : i < ρ.length
    · rw [List.getElem?_append_left hi] at he
      rw [List.getElem?_append_left (by rw [← S1.len]; exact hi)]
      exact S1.get i e he
    · rw [List.getElem?_append_right (by omega), List.getElem?_replicate] at he
      split at he <;> cases he
  refine ⟨fun i m ys σ' H' => m = J0.n - i ∧ i ≤ J0.n ∧ ys.length ≤ i ∧ ∃ ds ρ' μ', RelS K ρ' μ' σ' H' ∧ RelM K μ' H' ∧ Same (mask μ1 H1) (mask μ' H') ∧ IsAll K (mask μ' H') ys ds ∧ Pv i ds ρ' μ', ⟨_, rfl, Nat.zero_le _, Nat.le_refl _, [], _, μ1, S0, M1, Same.refl _, .nil, h0⟩, ?_⟩
  rintro i m ys σ' H' ⟨rfl, hi, hy, ds, ρ', μ', S', M', s', hA, p⟩
  have sm := sim μ' H' M' s' (hok i ds ρ' μ' hi p) i
  by_cases hlt : i < J0.n
  · obtain ⟨hgo, hyl⟩ := sm.1 hlt
    refine .inr ⟨hgo, small1000 (by omega), fun ys2 σ2 H2 => ys2.length ≤ i + 1 ∧ ∃ ds ρ' μ', RelS K ρ' μ' σ2 H2 ∧ RelM K μ' H2 ∧ Same (mask μ1 H1) (mask μ' H2) ∧ IsAll K (mask μ' H2) ys2 ds ∧ Pv (i + 1) ds ρ' μ', fun ys2 σ2 H2 z => ⟨J0.n - (i + 1), by omega, rfl, hlt, z⟩, fun x H2 y => ?_⟩
    obtain ⟨M2, s2, i2⟩ := hyl x H2 y
    refine ⟨_, ρ', μ', _, i2, S'.same s2, M2, hstep i ds ρ' μ' hlt p, fun ρ3 μ3 σ3 H3 q3 S3 M3 s3 => ⟨ρ3, μ3, _, S3, M3, q3, fun b μ4 H4 q4 M4 s4 => ?_⟩⟩
    have st := ((s'.trans s2).trans s3).trans s4
    cases b with
    | true =>
      refine iteT ⟨ρ3, μ4, _, S3.same s4, M4, (by simpa using q4), fun e μ5 v H5 q5 M5 s5 i5 => ?_⟩
      obtain ⟨z, rfl, q5⟩ := q5
      exact ⟨by simp; omega, _, ρ3, μ5, (S3.same s4).same s5, M5, st.trans s5, IsAll.snoc i5 (IsAll.same (((s2.trans s3).trans s4).trans s5) hA), q5⟩
    | false => exact iteF ⟨by omega, _, ρ3, μ4, S3.same s4, M4, st, IsAll.same ((s2.trans s3).trans s4) hA, by simpa using q4⟩
  · have e : i = J0.n := by omega
    subst e
    refine .inl ⟨sm.2 (Nat.le_refl _), fun D hD => ?_⟩
    have hm : D ∉ μ'.map Prod.fst := fun z => by
      obtain ⟨⟨a, q⟩, hq, rfl⟩ := List.mem_map.mp z
      obtain ⟨xs, e'⟩ := (M'.ob a q hq).some
      rw [e'] at hD; cases hD
    obtain ⟨M4, s4⟩ := M'.new (u := .lst ys) (o := .lst ds) hD fun ss => ⟨ys, upd_same, IsAll.same ss hA⟩
    exact cl _ _ _ _ (hend ds ρ' μ' p D hm) M4 ((s1.trans s').trans s4) rfl
theorem ds_setcM {i : Nat} {x : Str} {pos' spos : Pos} {L : List Str} {scope sc : Scope} {N : List Str} {elt : Expr} {ifs : List Expr} {ti : TId} {g : TGd} {tt : TTd} {te : TEd}
    (hNd : X.N.Nodup) (hxi : X.N[i]? = some x) (hx : Loc X.env.scope x)
    (hc : X.calm = true) (hsc : X.env.scope = sc) (hN : X.N = N) (ok : compOk sc N L scope = true)
    (hi : DI K X tg iter ti) (hg : ∀ cl C s₂ H₂ fp, DG K (compCx X L scope cl C s₂ H₂ fp) tg g) (hf : ∀ cl C s₂ H₂ fp, DIfs K (compCx X L scope cl C s₂ H₂ fp) ifs tt) (he : ∀ cl C s₂ H₂ fp, DE K (compCx X L scope cl C s₂ H₂ fp) elt te)
    (hsw : swapsWith (.ListComp elt [⟨tg, iter, ifs, 0⟩] scope pos) (some (.Name x pos')) spos.line X.env = pure true := by rfl)
    (hs : ∀ x, foldedSetIterable iter X.env x = pure x := by intro _; rfl)
    (hfn : X.fn x = true ∨ X.env.scope.names.lookup x = some .local := by first | exact .inl rfl | exact .inr rfl | assumption) :
    DS K X (.Assign [.Name x pos'] (.ListComp elt [⟨tg, iter, ifs, 0⟩] scope pos) spos) (dAsg (dCompM L.length ti g tt te) (dgName i)) :=
  PS.mono (ps_setc hNd hxi hx hc hsc hN ok hi hg hf he hsw hs hfn) fun D σ H ⟨ρ, μ, D0, hS, hM, h, cl⟩ => up_compM (Q := fun x H1 => gName i x σ H1 D.nx) ⟨ρ, μ, _, hS, hM, h, fun e' μ1 v H1 q M1 s1 i1 => cl.nx _ μ1 _ H1 q ((hS.same s1).set i1) M1 s1⟩
end
end L2
set_option Elab.async false
set_option linter.all false
set_option maxRecDepth 100000
set_option maxHeartbeats 4000000
namespace L2
open PySem PySem.Spec PyProof.Rows PySem.W
structure Ord (f : Nat → Nat → Bool) : Prop where
  asym : ∀ a b, f a b = true → f b a = false
  neg : ∀ a b c, f a c = true → f a b = true ∨ f b c = true
abbrev gD (p : Array Nat) (i : Nat) : Nat := p.getD i 0
theorem gD_of {p q : Array Nat} {i j : Nat} (h : p[i]? = q[j]?) : gD p i = gD q j := by
  simp only [gD, Array.getD_eq_getD_getElem?, h]
section
variable {f : Nat → Nat → Bool}
theorem Ord.irr (O : Ord f) (a : Nat) : f a a = false := by
  cases h : f a a with
  | false => rfl
  | true => rw [O.asym a a h] at h; cases h
theorem Ord.le (O : Ord f) {a b c : Nat} (h1 : f b a = false) (h2 : f c b = false) : f c a = false := by
  cases h : f c a with
  | false => rfl
  | true => rcases O.neg _ b _ h with z | z <;> simp_all
theorem Ord.ltl (O : Ord f) {a b c : Nat} (h1 : f a b = true) (h2 : f c b = false) : f a c = true := by
  rcases O.neg _ c _ h1 with z | z
  · exact z
  · rw [h2] at z; cases z
theorem Ord.lel (O : Ord f) {a b c : Nat} (h1 : f b a = false) (h2 : f b c = true) : f a c = true := by
  rcases O.neg _ a _ h2 with z | z
  · rw [h1] at z; cases z
  · exact z
def UpTo (f : Nat → Nat → Bool) (p : Array Nat) (k : Nat) : Prop := ∀ i j, i ≤ j → j < k → f (gD p j) (gD p i) = false
def DnTo (f : Nat → Nat → Bool) (p : Array Nat) (k : Nat) : Prop := ∀ i j, i ≤ j → j < k → f (gD p i) (gD p j) = false
def Eqv (f : Nat → Nat → Bool) (a b : Nat) : Prop := f a b = false ∧ f b a = false
theorem Eqv.refl (O : Ord f) (a : Nat) : Eqv f a a := ⟨O.irr a, O.irr a⟩
theorem Eqv.symm {a b : Nat} (h : Eqv f a b) : Eqv f b a := ⟨h.2, h.1⟩
theorem Eqv.trans (O : Ord f) {a b c : Nat} (h : Eqv f a b) (g : Eqv f b c) : Eqv f a c := ⟨O.le g.1 h.1, O.le h.2 g.2⟩
theorem UpTo.one (O : Ord f) (p : Array Nat) : UpTo f p 1 := fun i j h1 h2 => by
  have : i = j := by omega
  subst this; exact O.irr _
theorem UpTo.succ (O : Ord f) {p : Array Nat} {k : Nat} (h0 : 1 ≤ k) (h : UpTo f p k) (g : f (gD p k) (gD p (k - 1)) = false) : UpTo f p (k + 1) := fun i j hij hj => by
  by_cases e : j = k
  · subst e
    by_cases e2 : i = j
    · subst e2; exact O.irr _
    · exact O.le (h i (j - 1) (by omega) (by omega)) g
  · exact h i j hij (by omega)
theorem DnTo.succ (O : Ord f) {p : Array Nat} {k : Nat} (h0 : 1 ≤ k) (h : DnTo f p k) (g : f (gD p (k - 1)) (gD p k) = false) : DnTo f p (k + 1) := fun i j hij hj => by
  by_cases e : j = k
  · subst e
    by_cases e2 : i = j
    · subst e2; exact O.irr _
    · exact O.le g (h i (j - 1) (by omega) (by omega))
  · exact h i j hij (by omega)
def Arr (n : Nat) (p : Array Nat) : Prop := p.Perm (List.range n).toArray
theorem Arr.size {n : Nat} {p : Array Nat} (h : Arr n p) : p.size = n := by rw [h.size_eq]; simp
theorem Arr.lt {n : Nat} {p : Array Nat} (h : Arr n p) {i : Nat} (hi : i < n) : gD p i < n := by
  have hs := h.size
  have hi' : i < p.size := by omega
  have e : gD p i = p[i] := by simp [gD, Array.getD, hi']
  rw [e]
  have : p[i] ∈ p.toList := by simp
  have := (Array.perm_iff_toList_perm.mp h).mem_iff.mp this
  simpa using this
theorem Arr.rev {n : Nat} {p : Array Nat} (h : Arr n p) (i j : Nat) : Arr n (kas_rev p i j) := (mirror_perm p i j _).trans h
theorem gD_rev {p : Array Nat} {i j : Nat} (hj : j ≤ p.size) (k : Nat) : gD (kas_rev p i j) k = if i ≤ k ∧ k < j then gD p (i + j - 1 - k) else gD p k := by
  have e := getElem?_mirror_all (i := i) hj k
  unfold kas_rev
  by_cases h1 : i ≤ k ∧ k < j
  · rw [if_pos h1] at e ⊢; exact gD_of e
  · rw [if_neg h1] at e ⊢; exact gD_of e
theorem rev_eqv (O : Ord f) {p : Array Nat} {i j : Nat} (hj : j ≤ p.size) (h : ∀ a b, i ≤ a → a < j → i ≤ b → b < j → Eqv f (gD p a) (gD p b)) (k : Nat) : Eqv f (gD (kas_rev p i j) k) (gD p k) := by
  rw [gD_rev hj]
  split
  · exact h _ _ (by omega) (by omega) (by omega) (by omega)
  · exact Eqv.refl O _
theorem eqv_l (O : Ord f) {a b c : Nat} (h : Eqv f a b) : f a c = f b c := by
  cases h1 : f b c with
  | true => exact O.lel h.2 h1
  | false =>
    cases h2 : f a c with
    | false => rfl
    | true =>
      have := O.lel h.1 h2
      rw [h1] at this; cases this
theorem eqv_r (O : Ord f) {a b c : Nat} (h : Eqv f a b) : f c a = f c b := by
  cases h1 : f c b with
  | true => exact O.ltl h1 h.1
  | false =>
    cases h2 : f c a with
    | false => rfl
    | true =>
      have := O.ltl h2 h.2
      rw [h1] at this; cases this
theorem DnTo.eqv (O : Ord f) {p q : Array Nat} {k : Nat} (h : DnTo f p k) (e : ∀ i, Eqv f (gD q i) (gD p i)) : DnTo f q k := fun i j h1 h2 => by
  rw [eqv_l O (e i), eqv_r O (e j)]; exact h i j h1 h2
theorem UpTo.ofRev {p : Array Nat} {k : Nat} (hk : k ≤ p.size) (h : DnTo f p k) : UpTo f (kas_rev p 0 k) k := fun i j h1 h2 => by
  rw [gD_rev hk, gD_rev hk, if_pos (by omega), if_pos (by omega)]
  exact h _ _ (by omega) (by omega)
section
variable {n : Nat} {cmp : Nat → Nat → (Bool → Shared → Prop) → Shared → Prop} {s : Shared}
def Ans (f : Nat → Nat → Bool) (n : Nat) (cmp : Nat → Nat → (Bool → Shared → Prop) → Shared → Prop) (s : Shared) : Prop := ∀ i j C, i < n → j < n → C (f i j) s → cmp i j C s
theorem wp_asc (O : Ord f) (hA : Ans f n cmp s) {p : Array Nat} (hp : Arr n p) {G : Nat → Shared → Prop} : ∀ (fu m : Nat), 1 ≤ m → m + fu ≤ n → UpTo f p m → (∀ m', m ≤ m' → m' ≤ m + fu → UpTo f p m' → (m' < m + fu → f (gD p m') (gD p (m' - 1)) = true) → G m' s) → (kas_asc p fu m).kasWp cmp G s
  | 0, m, h1, h2, h3, k => k m (Nat.le_refl _) (Nat.le_refl _) h3 fun z => absurd z (by omega)
  | fu + 1, m, h1, h2, h3, k => by
    refine hA _ _ _ (hp.lt (by omega)) (hp.lt (by omega)) ?_
    cases c : f (gD p m) (gD p (m - 1)) with
    | true => exact k m (Nat.le_refl _) (by omega) h3 fun _ => c
    | false => exact wp_asc O hA hp fu (m + 1) (by omega) (by omega) (h3.succ O h1 c) fun m' a b d e => k m' (by omega) (by omega) d fun z => e (by omega)
theorem wp_desc (O : Ord f) (hA : Ans f n cmp s) {G : Array Nat × Nat × Nat → Shared → Prop} : ∀ (fu : Nat) (p : Array Nat) (m q : Nat), Arr n p → q + 1 ≤ m → m + fu ≤ n → DnTo f p m → (∀ a b, m - (q + 1) ≤ a → a < m → m - (q + 1) ≤ b → b < m → Eqv f (gD p a) (gD p b)) →
    (∀ p' m' q', Arr n p' → q' + 1 ≤ m' → m ≤ m' → m' ≤ m + fu → DnTo f p' m' → (∀ a b, m' - (q' + 1) ≤ a → a < m' → m' - (q' + 1) ≤ b → b < m' → Eqv f (gD p' a) (gD p' b)) → G (p', m', q') s) → (kas_desc fu p m q).kasWp cmp G s
  | 0, p, m, q, hp, h1, h2, h3, h4, k => k p m q hp h1 (Nat.le_refl _) (Nat.le_refl _) h3 h4
  | fu + 1, p, m, q, hp, h1, h2, h3, h4, k => by
    have hz := hp.size
    refine hA _ _ _ (hp.lt (by omega)) (hp.lt (by omega)) ?_
    cases c : f (gD p m) (gD p (m - 1)) with
    | true =>
      show KasT.kasWp cmp (if q > 0 then _ else _) G s
      have one : ∀ (p' : Array Nat) (a b : Nat), m + 1 - (0 + 1) ≤ a → a < m + 1 → m + 1 - (0 + 1) ≤ b → b < m + 1 → Eqv f (gD p' a) (gD p' b) := fun p' a b _ _ _ _ => by
        have : a = b := by omega
        subst this; exact Eqv.refl O _
      by_cases hq : q > 0
      · rw [if_pos hq]
        have ev := rev_eqv O (p := p) (i := m - (q + 1)) (j := m) (by omega) h4
        refine wp_desc O hA fu _ (m + 1) 0 (hp.rev _ _) (by omega) (by omega) ?_ (one _) fun p' m' q' a1 a2 a3 a4 a5 a6 => k p' m' q' a1 a2 (by omega) (by omega) a5 a6
        exact (h3.succ O (by omega) (O.asym _ _ c)).eqv O ev
      · rw [if_neg hq]
        exact wp_desc O hA fu _ (m + 1) 0 hp (by omega) (by omega) (h3.succ O (by omega) (O.asym _ _ c)) (one _) fun p' m' q' a1 a2 a3 a4 a5 a6 => k p' m' q' a1 a2 (by omega) (by omega) a5 a6
    | false =>
      show KasT.kasWp cmp (KasT.ask _ _ _) G s
      refine hA _ _ _ (hp.lt (by omega)) (hp.lt (by omega)) ?_
      cases d : f (gD p (m - 1)) (gD p m) with
      | true => exact k p m q hp h1 (Nat.le_refl _) (by omega) h3 h4
      | false =>
        refine wp_desc O hA fu p (m + 1) (q + 1) hp (by omega) (by omega) (h3.succ O (by omega) d) (fun a b a1 a2 b1 b2 => ?_) fun p' m' q' a1 a2 a3 a4 a5 a6 => k p' m' q' a1 a2 (by omega) (by omega) a5 a6
        have last : Eqv f (gD p m) (gD p (m - 1)) := ⟨c, d⟩
        have key : ∀ x, m + 1 - (q + 1 + 1) ≤ x → x < m + 1 → Eqv f (gD p x) (gD p (m - 1)) := fun x x1 x2 => by
          by_cases e : x = m
          · subst e; exact last
          · exact h4 _ _ (by omega) (by omega) (by omega) (by omega)
        exact (key a a1 a2).trans O (key b b1 b2).symm
theorem wp_tail3 (O : Ord f) (hA : Ans f n cmp s) {p : Array Nat} {m : Nat} (hp : Arr n p) (h1 : 1 ≤ m) (h2 : m ≤ n) (h3 : DnTo f p m) {G : Nat × Array Nat → Shared → Prop} (k : ∀ m' p', Arr n p' → 1 ≤ m' → m' ≤ n → UpTo f p' m' → G (m', p') s) : (kas_tail3 m n p).kasWp cmp G s := by
  unfold kas_tail3
  rw [KasT.kasWp_bind]
  exact wp_asc O hA (hp.rev 0 m) (n - m) m h1 (by omega) (UpTo.ofRev (by rw [hp.size]; exact h2) h3) fun m' a1 a2 a3 _ => k m' _ (hp.rev 0 m) (by omega) (by omega) a3
theorem wp_descPart (O : Ord f) (hA : Ans f n cmp s) {p : Array Nat} {m : Nat} (hp : Arr n p) (h1 : 1 ≤ m) (h2 : m + 1 ≤ n) (h3 : DnTo f p (m + 1)) {G : Nat × Array Nat → Shared → Prop} (k : ∀ m' p', Arr n p' → 1 ≤ m' → m' ≤ n → UpTo f p' m' → G (m', p') s) : (kas_descPart m n p).kasWp cmp G s := by
  unfold kas_descPart
  rw [KasT.kasWp_bind]
  refine wp_desc O hA (n - (m + 1)) p (m + 1) 0 hp (by omega) (by omega) h3 (fun a b _ _ _ _ => ?_) fun p' m' q' a1 a2 a3 a4 a5 a6 => ?_
  · have : a = b := by omega
    subst this; exact Eqv.refl O _
  · show KasT.kasWp cmp (if q' > 0 then kas_tail3 m' n (kas_rev p' (m' - (q' + 1)) m') else kas_tail3 m' n p') G s
    by_cases hq : q' > 0
    · rw [if_pos hq]
      exact wp_tail3 O hA (a1.rev _ _) (by omega) (by omega) (a5.eqv O (rev_eqv O (by rw [a1.size]; omega) a6)) k
    · rw [if_neg hq]
      exact wp_tail3 O hA a1 (by omega) (by omega) a5 k
theorem wp_count (O : Ord f) (hA : Ans f n cmp s) (h1 : 1 ≤ n) {p : Array Nat} (hp : Arr n p) {G : Nat × Array Nat → Shared → Prop} (k : ∀ m' p', Arr n p' → 1 ≤ m' → m' ≤ n → UpTo f p' m' → G (m', p') s) : (kas_count n p).kasWp cmp G s := by
  unfold kas_count
  rw [KasT.kasWp_bind]
  refine wp_asc O hA hp (n - 1) 1 (Nat.le_refl _) (by omega) (UpTo.one O p) fun m a1 a2 a3 a4 => ?_
  show KasT.kasWp cmp (if (m == n) = true then _ else _) G s
  by_cases e : m = n
  · rw [if_pos (by rw [e]; exact beq_self_eq_true _)]
    exact k m p hp a1 (by omega) a3
  · rw [if_neg (by simpa using e)]
    have hz := hp.size
    have hlt := a4 (by omega)
    by_cases e2 : m > 1
    · rw [if_pos e2]
      refine hA _ _ _ (hp.lt (by omega)) (hp.lt (by omega)) ?_
      cases c : f (gD p 0) (gD p (m - 1)) with
      | true => exact k m p hp a1 (by omega) a3
      | false =>
        have al : ∀ a b, 0 ≤ a → a < m → 0 ≤ b → b < m → Eqv f (gD p a) (gD p b) := fun a b _ ha _ hb => by
          have key : ∀ x, x < m → Eqv f (gD p x) (gD p 0) := fun x hx => ⟨a3 0 x (by omega) hx, O.le (a3 x (m - 1) (by omega) (by omega)) c⟩
          exact (key a ha).trans O (key b hb).symm
        have ev := rev_eqv O (p := p) (i := 0) (j := m) (by omega) al
        have dn : DnTo f p m := fun i j hi hj => (al i j (by omega) (by omega) (by omega) hj).1
        exact wp_descPart O hA (hp.rev _ _) a1 (by omega) ((dn.succ O a1 (O.asym _ _ hlt)).eqv O ev) k
    · rw [if_neg e2]
      have m1 : m = 1 := by omega
      subst m1
      have dn : DnTo f p 1 := fun i j hi hj => by
        have : i = j := by omega
        subst this; exact O.irr _
      exact wp_descPart O hA hp (Nat.le_refl _) (by omega) (dn.succ O (Nat.le_refl _) (O.asym _ _ hlt)) k
theorem wp_place (O : Ord f) (hA : Ans f n cmp s) {p : Array Nat} (hp : Arr n p) {k : Nat} (hk : k < n) (hs : UpTo f p k) {G : Nat → Shared → Prop} : ∀ (fu l r : Nat), l ≤ r → r ≤ k → r ≤ l + fu → (∀ i, i < l → f (gD p k) (gD p i) = false) → (∀ i, r ≤ i → i < k → f (gD p k) (gD p i) = true) →
    (∀ l', l' ≤ k → (∀ i, i < l' → f (gD p k) (gD p i) = false) → (∀ i, l' ≤ i → i < k → f (gD p k) (gD p i) = true) → G l' s) → (kas_place p k fu l r).kasWp cmp G s
  | 0, l, r, h1, h2, h3, h4, h5, kk => kk l (by omega) h4 fun i a b => h5 i (by omega) b
  | fu + 1, l, r, h1, h2, h3, h4, h5, kk => by
    show KasT.kasWp cmp (if l ≥ r then _ else _) G s
    by_cases e : l ≥ r
    · rw [if_pos e]
      exact kk l (by omega) h4 fun i a b => h5 i (by omega) b
    · rw [if_neg e]
      refine hA _ _ _ (hp.lt hk) (hp.lt (by omega)) ?_
      cases c : f (gD p k) (gD p ((l + r) / 2)) with
      | true =>
        refine wp_place O hA hp hk hs fu l ((l + r) / 2) (by omega) (by omega) (by omega) h4 (fun i a b => ?_) kk
        exact O.ltl c (hs _ _ a b)
      | false =>
        refine wp_place O hA hp hk hs fu ((l + r) / 2 + 1) r (by omega) (by omega) (by omega) (fun i a => ?_) h5 kk
        exact O.le (hs _ _ (by omega) (by omega)) c
theorem gD_bubble {p : Array Nat} {src d : Nat} (hs : src < p.size) (hd : d ≤ src) (k : Nat) : gD (bubble p src d) k = if k = src - d then gD p src else if src - d < k ∧ k ≤ src then gD p (k - 1) else gD p k := by
  have e := getElem?_bubble hs d hd k
  by_cases h1 : k = src - d
  · rw [if_pos h1] at e ⊢; exact gD_of e
  · rw [if_neg h1] at e ⊢
    by_cases h2 : src - d < k ∧ k ≤ src
    · rw [if_pos h2] at e ⊢; exact gD_of e
    · rw [if_neg h2] at e ⊢; exact gD_of e
theorem wp_bin (O : Ord f) (hA : Ans f n cmp s) {G : Array Nat → Shared → Prop} (kk : ∀ p, Arr n p → UpTo f p n → G p s) : ∀ (fu : Nat) (p : Array Nat) (k : Nat), Arr n p → k + fu = n → UpTo f p k → (kas_bin fu p k).kasWp cmp G s
  | 0, p, k, hp, h1, h2 => by
    have : k = n := by omega
    subst this
    exact kk p hp h2
  | fu + 1, p, k, hp, h1, h2 => by
    show KasT.kasWp cmp (KasT.bind _ _) G s
    rw [KasT.kasWp_bind]
    have hz := hp.size
    refine wp_place O hA hp (by omega) h2 k 0 k (by omega) (by omega) (by omega) (fun i z => absurd z (by omega)) (fun i a b => absurd b (by omega)) fun l hl ha hb => ?_
    refine wp_bin O hA kk fu (bubble p k (k - l)) (k + 1) ((bubble_perm p k _).trans hp) (by omega) fun i j hij hj => ?_
    rw [gD_bubble (by omega) (by omega), gD_bubble (by omega) (by omega)]
    have e : k - (k - l) = l := by omega
    rw [e]
    by_cases j1 : j = l
    · rw [if_pos j1]
      by_cases i1 : i = l
      · rw [if_pos i1]; exact O.irr _
      · rw [if_neg i1, if_neg (by omega)]
        exact ha i (by omega)
    · rw [if_neg j1]
      by_cases j2 : l < j ∧ j ≤ k
      · rw [if_pos j2]
        by_cases i1 : i = l
        · rw [if_pos i1]; exact O.asym _ _ (hb (j - 1) (by omega) (by omega))
        · rw [if_neg i1]
          by_cases i2 : l < i ∧ i ≤ k
          · rw [if_pos i2]; exact h2 _ _ (by omega) (by omega)
          · rw [if_neg i2]; exact h2 _ _ (by omega) (by omega)
      · rw [if_neg j2, if_neg (by omega), if_neg (by omega)]
        exact h2 _ _ (by omega) (by omega)
theorem wp_sort (O : Ord f) (hA : Ans f n cmp s) (h1 : 1 ≤ n) {G : Array Nat → Shared → Prop} (kk : ∀ p, Arr n p → UpTo f p n → G p s) : (kas_sort n).kasWp cmp G s := by
  unfold kas_sort
  rw [KasT.kasWp_bind]
  refine wp_count O hA h1 (Array.Perm.refl _) fun m p hp a1 a2 a3 => ?_
  show KasT.kasWp cmp (if m < n then _ else _) G s
  by_cases e : m < n
  · rw [if_pos e]
    have em : max m 1 = m := by omega
    show KasT.kasWp cmp (kas_bin (n - max m 1) p (max m 1)) G s
    rw [em]
    exact wp_bin O hA kk (n - m) p m hp (by omega) a3
  · rw [if_neg e]
    have : m = n := by omega
    subst this
    exact kk p hp a3
end
end
end L2
set_option Elab.async false
set_option linter.all false
set_option maxRecDepth 100000
set_option maxHeartbeats 4000000
namespace L2
open PySem PySem.Spec PyProof.Rows PySem.W
def lexF (fin : Bool) : List Int → List Int → Bool
  | x :: r, y :: t => if x = y then lexF fin r t else decide (x < y)
  | _, _ => fin
theorem lexF_lt : ∀ ns ms : List Int, lexF (decide (ns.length < ms.length)) ns ms = decide (ns < ms)
  | [], [] => by simp [lexF]
  | [], _ :: _ => by simp [lexF]
  | _ :: _, [] => by simp [lexF]
  | x :: r, y :: t => by
    have ih := lexF_lt r t
    simp only [lexF, List.length_cons, Nat.add_lt_add_iff_right]
    by_cases e : x = y
    · subst e
      rw [if_pos rfl, ih]
      simp [List.cons_lt_cons_iff]
    · rw [if_neg e]
      simp [List.cons_lt_cons_iff, e]
theorem ltL_asym {a b : List Int} (h : a < b) : ¬ b < a := fun g => List.lt_irrefl a (List.lt_trans h g)
theorem ltL_ord (ks : Nat → List Int) : Ord fun i j => decide (ks i < ks j) where
  asym a b h := decide_eq_false (ltL_asym (of_decide_eq_true h))
  neg a b c h := by
    have h := of_decide_eq_true h
    by_cases e : ks a < ks b
    · exact .inl (decide_eq_true e)
    · exact .inr (decide_eq_true (List.lt_of_le_of_lt (List.not_lt.mp e) h))
def TupK (h : Heap) (v : Value) (ks : List Int) : Prop := ∃ b o xs n, v = .ref b ∧ h.get? b = some o ∧ o.cls = .type "tuple" ∧ o.data = .seq xs n ∧ IntsAre xs.toList ks ∧ ks ≠ []
theorem TupK.kept {h h' : Heap} {v : Value} {ks : List Int} (k : ∀ b o, h.get? b = some o → o.cls = .type "tuple" → h'.get? b = some o) (t : TupK h v ks) : TupK h' v ks := by
  obtain ⟨b, o, xs, n, e, ho, hc, r⟩ := t
  exact ⟨b, o, xs, n, e, k b o ho hc, hc, r⟩
section
variable {prog : Program} {w : World} {A : Around} {E : Value → Shared → Prop} {s : Shared}
theorem lex_wp {fin : Bool} {Q : Bool → Shared → Prop} : ∀ {xs ys : List Value} {ns ms : List Int} (i : Nat), IntsAre xs ns → IntsAre ys ms → Q (lexF fin ns ms) s → KatLex prog w A true fin Q (xs.zip ys) i s
  | _, _, _, _, i, .nil, _, q => kat_nil (by simpa [lexF] using q)
  | _, _, _, _, i, .cons _ _ _, .nil, q => kat_nil (by simpa [lexF] using q)
  | _, _, _, _, i, .cons x t hx, .cons y u hy, q => by
    refine kat_cons (wpAny_eqBool_int ?_)
    by_cases e : x = y
    · subst e
      rw [beq_self_eq_true]
      exact kat_yes (lex_wp (i + 1) hx hy (by simpa [lexF] using q))
    · have hb : (x == y) = false := by simpa using e
      rw [hb]
      have q' : Q (decide (x < y)) s := by simpa [lexF, e] using q
      refine kat_no ?_
      cases i with
      | zero => exact oneLt_int q'
      | succ i => exact kat_one _ _ (lt_int q')
theorem lt_wp {v u : Value} {ns ms : List Int} {Q : Bool → Shared → Prop} (h1 : TupK s.heap v ns) (h2 : TupK s.heap u ms) (q : Q (decide (ns < ms)) s) : wpAny (model prog w) A (keyLt' (tuples' true) v u) Q E s := by
  obtain ⟨a, o, xs, n, rfl, ho, _, hd, hi, _⟩ := h1
  obtain ⟨b, o', ys, n', rfl, ho', _, hd', hi', _⟩ := h2
  refine kat_lt ho hd ho' hd' (lex_wp 0 hi hi' ?_)
  have e1 := IntsAre.length hi
  have e2 := IntsAre.length hi'
  simp only [Array.length_toList] at e1 e2
  rw [e1, e2, lexF_lt]
  exact q
theorem tups_firsts {h : Heap} : ∀ {vs : List Value} {kss : List (List Int)}, PySem.Paired (TupK h) vs kss → ∃ fs : List Value, KatTups h vs fs ∧ fs.length = vs.length ∧ ∀ v ∈ fs, ∃ i t, v = .int i t
  | _, _, .nil => ⟨[], trivial, rfl, fun _ z => nomatch z⟩
  | _, _, .cons ⟨a, o, xs, n, e, ho, hc, hd, hi, hn⟩ r => by
    obtain ⟨fs, k, hl, hf⟩ := tups_firsts r
    subst e
    obtain ⟨l⟩ := xs
    cases hi with
    | nil => exact absurd rfl hn
    | cons i t hr =>
      refine ⟨.int i t :: fs, KatTups.cons ho hc hd rfl k, by simp [hl], fun v hv => ?_⟩
      rcases List.mem_cons.mp hv with rfl | hv
      · exact ⟨i, t, rfl⟩
      · exact hf v hv
theorem kind_wp {vs : List Value} {kss : List (List Int)} {Q : SortKind → Shared → Prop} (hT : PySem.Paired (TupK s.heap) vs kss) (h2 : 0 < vs.length) (q : Q (tuples' true) s) : wpAny (model prog w) A (keyKind' vs.toArray) Q E s := by
  obtain ⟨fs, k, hl, hf⟩ := tups_firsts hT
  refine kat_kind (T := .type "int") k (by omega) (fun v hv => ?_) rfl q
  obtain ⟨i, t, rfl⟩ := hf v hv
  exact Looks.now
end
end L2
set_option Elab.async false
set_option linter.all false
set_option maxRecDepth 100000
set_option maxHeartbeats 4000000
namespace L2
open PySem PySem.Spec PyProof.Rows PySem.W
def arrV (vs : List Value) (p : Array Nat) : List Value := p.toList.map fun i => vs.getD i Value.none
def ltK (kss : List (List Int)) : Nat → Nat → Bool := fun i j => decide (kss.getD i [] < kss.getD j [])
theorem paired_getD {h : Heap} : ∀ {vs : List Value} {kss : List (List Int)}, PySem.Paired (TupK h) vs kss → ∀ i, i < vs.length → TupK h (vs.getD i Value.none) (kss.getD i [])
  | _, _, .nil, i, z => by simp at z
  | _, _, .cons r t, 0, _ => r
  | _, _, .cons r t, i + 1, z => paired_getD t i (by simpa using z)
theorem arrV_len {vs : List Value} {p : Array Nat} (hp : Arr vs.length p) : (arrV vs p).length = vs.length := by
  unfold arrV
  rw [List.length_map, Array.length_toList, hp.size]
section
variable {prog : Program} {w : World} {A : Around} {E : Value → Shared → Prop} {s : Shared}
theorem sort_tups {a : Addr} {vs : List Value} {kss : List (List Int)} {n : Nat} {P : PySem.Fin → Shared → Prop} (ho : s.heap.get? a = some (seqObj "list" vs.toArray n)) (hT : PySem.Paired (TupK s.heap) vs kss) (h64 : vs.length < 64)
    (h : ∀ p, Arr vs.length p → UpTo (ltK kss) p vs.length → P (.done (.ret .none)) { s with heap := sortedHeap s.heap a vs (arrV vs p).toArray }) :
    wpAny (model prog w) A (Builtin.«list.sort» ⟨[.ref a], []⟩) P E s := by
  rw [list_sort_plain]
  have hlt : a < s.heap.objs.size := Heap.lt_size ho
  have hn64 : vs.length ≤ sizeLine := by rw [sizeLine_eq]; omega
  refine wpAny_bind (listItems_at ho rfl (wpAny_bind (listUpdate_at ho rfl ?_ (by rw [List.size_toArray]; exact hn64) (Nat.zero_le _))))
  obtain ⟨ep, hc⟩ : ∃ ep, (s.heap.update a (Obj.mapSeq fun _ => (#[] : Array Value))).get? a = some (seqObj "list" #[] ep) := ⟨_, get?_update_seq ho fun _ => #[]⟩
  refine wpAny_bind (seqEpoch_at hc rfl (wpAny_bind (wpAny_newTuple (wpAny_bind (wpAny_newList (wpAny_holding ?_) (Nat.zero_le _))) (by show vs.length ≤ _; exact hn64))))
  generalize hh : ((s.heap.update a (Obj.mapSeq fun _ => (#[] : Array Value))).push (seqObj "tuple" vs.toArray 0)).push (seqObj "list" #[] 0) = h6
  have at6 : h6.get? a = some (seqObj "list" #[] ep) := by
    rw [← hh]
    exact Heap.get?_push_of_some _ (Heap.get?_push_of_some _ hc)
  have old6 : ∀ b o, s.heap.get? b = some o → b ≠ a → h6.get? b = some o := fun b o e ne => by
    rw [← hh]
    refine Heap.get?_push_of_some _ (Heap.get?_push_of_some _ ?_)
    rw [Heap.get?_update_ne _ _ _ _ ne]
    exact e
  have hT6 : PySem.Paired (TupK h6) vs kss := Paired.mapP hT fun v ks t => t.kept fun b o e hcl => old6 b o e fun z => by
    subst z
    rw [ho] at e
    cases e
    exact absurd (show Value.type "list" = Value.type "tuple" from hcl) (by decide)
  have fin6 : ∀ p, Arr vs.length p → UpTo (ltK kss) p vs.length → P (.done (.ret .none)) { s with heap := h6.update a (Obj.mapSeq fun _ => (arrV vs p).toArray) } := fun p hp hs => by
    have := h p hp hs
    unfold sortedHeap at this
    rw [hh] at this
    exact this
  show wpAny (model prog w) A _ P E { s with heap := h6 }
  dsimp only
  have sz : vs.toArray.size = vs.length := List.size_toArray ..
  have zipE : vs.toArray.zip vs.toArray = pairsOf vs := rfl
  have snd : ∀ p, ((p.map (kas_item (pairsOf vs))).map (·.2)) = (arrV vs p).toArray := fun p => by
    apply Array.toList_inj.mp
    simp only [Array.toList_map, List.map_map, arrV]
    exact List.map_congr_left fun i _ => by simp [kas_item_eq]
  by_cases c2 : vs.toArray.size < 2
  · rw [if_pos c2, if_pos c2]
    refine wpAny_bind (wpAny_pure ?_)
    rw [StateT.run_pure]
    refine wpAny_bind (wpAny_pure ?_)
    dsimp only
    have e0 : ((vs.toArray.zip vs.toArray).map (·.2)) = (arrV vs (List.range vs.length).toArray).toArray := by
      have z := snd (List.range vs.length).toArray
      have y := kas_range (pairsOf vs)
      rw [pairsOf_size] at y
      rw [← z, y, zipE]
    refine wpAny_bind (seqEpoch_at at6 rfl (wpAny_bind (listUpdate_at at6 rfl ?_ (Nat.zero_le _) ?_)))
    · simp only [bne_self_eq_false, Bool.false_eq_true, if_false]
      refine wpAny_pure ?_
      have f0 := fin6 (List.range vs.length).toArray (Array.Perm.refl _) fun i j hij hj => by
        have : i = j := by rw [sz] at c2; omega
        subst this
        exact (ltL_ord fun i => kss.getD i []).irr _
      rw [← e0] at f0
      exact f0
    · show ((vs.toArray.zip vs.toArray).map (·.2)).size ≤ _
      rw [e0, List.size_toArray, arrV_len (Array.Perm.refl _)]
      omega
  · rw [if_neg c2, if_neg c2]
    refine wpAny_bind (kind_wp (s := { s with heap := h6 }) hT6 (by rw [sz] at c2; omega) ?_)
    have O := ltL_ord fun i => kss.getD i []
    have st0 : SortSt.mk' (tuples' true) (vs.toArray.zip vs.toArray) #[] 7 none = kas_st (tuples' true) (pairsOf vs) (List.toArray (List.range vs.length)) := by
      have y := kas_range (pairsOf vs)
      rw [pairsOf_size] at y
      unfold kas_st
      rw [y]
      rfl
    rw [st0]
    have run := kas_runs (prog := prog) (w := w) (A := A) (E := E) (it := pairsOf vs) (κ := tuples' true) (s := { s with heap := h6 })
      (Q := fun _ st' s' => ∃ p, s' = { s with heap := h6 } ∧ Arr vs.length p ∧ UpTo (ltK kss) p vs.length ∧ arrOf st' = p.map (kas_item (pairsOf vs)) ∧ failedOf st' = none)
      (G := fun p s' => s' = { s with heap := h6 } ∧ Arr vs.length p ∧ UpTo (ltK kss) p vs.length) (n := vs.length) (by rw [sz] at c2; omega) h64
      (fun p' st' s' _ e1 e2 ⟨g1, g2, g3⟩ => ⟨p', g1, g2, g3, e1, e2⟩)
      (wp_sort O (fun i j C hi hj hC => by
        unfold kas_cmp
        rw [kas_item_eq, kas_item_eq]
        exact lt_wp (paired_getD hT6 i hi) (paired_getD hT6 j hj) hC) (by rw [sz] at c2; omega) fun p a1 a2 => ⟨rfl, a1, a2⟩)
    refine wpAny_bind (wpAny_mono (show wpAny (model prog w) A (sortRuns'.run _) _ E _ from run) ?_ fun _ _ e => e)
    rintro ⟨⟨⟩, st'⟩ s' ⟨p, rfl, hp, hs, e1, e2⟩
    dsimp only
    refine wpAny_bind (seqEpoch_at at6 rfl (wpAny_bind (listUpdate_at at6 rfl ?_ (Nat.zero_le _) ?_)))
    · rw [e2]
      simp only [bne_self_eq_false, Bool.false_eq_true, if_false]
      refine wpAny_pure ?_
      rw [e1, snd p]
      exact fin6 p hp hs
    · show ((arrOf st').map (·.2)).size ≤ _
      rw [e1, snd p, List.size_toArray, arrV_len hp]
      omega
end
end L2
set_option Elab.async false
set_option linter.all false
set_option maxRecDepth 100000
set_option maxHeartbeats 4000000
namespace L2
open PySem PySem.Spec PyProof.Rows PySem.W
abbrev Keeps (h h' : Heap) : Prop := ∀ b o, h.get? b = some o → h'.get? b = some o
section
variable {prog : Program} {w : World} {A : Around} {E : Value → Shared → Prop} {s : Shared}
def Gives (s : Shared) (R : List Value → List (List Int) → Prop) (vs : List Value) (s1 : Shared) : Prop :=
  ∃ h1 tk kss, s1 = { s with heap := h1, toks := tk } ∧ Keeps s.heap h1 ∧ PySem.Paired (TupK h1) vs kss ∧ vs.length < 64 ∧ R vs kss
theorem sorted_wp {x : Value} {R : List Value → List (List Int) → Prop} {Q : Value → Shared → Prop} (hcol : ∀ E', wpAny (model prog w) A.in1 (collect x) (Gives s R) E' s)
    (h : ∀ vs kss p h' tk D e, R vs kss → Arr vs.length p → UpTo (ltK kss) p vs.length → PySem.Paired (TupK h') vs kss → vs.length < 64 → Keeps s.heap h' → s.heap.get? D = none → h'.get? D = some (seqObj "list" (arrV vs p).toArray e) → Q (.ref D) { s with heap := h', toks := tk }) :
    wpAny (model prog w) A (call (.builtin "sorted") [x]) Q E s := by
  refine Calls.call_function_entry kind_sorted plain_sorted entry_sorted (args_sorted1 _) ?_
  unfold Builtin.«sorted»
  refine wpAny_bind (m := checkCount "sorted" 1 1 _) (wpAny_pure (wpAny_bind ?_))
  refine wpAny_mono (hcol _) (fun vs s1 ⟨h1, tk, kss, e1, kp, hT, h64, hR⟩ => ?_) fun _ _ z => z
  subst e1
  have hn64 : vs.length ≤ sizeLine := by rw [sizeLine_eq]; omega
  refine wpAny_bind (wpAny_newList ?_ hn64)
  have hD : (h1.push (seqObj "list" vs.toArray 0)).get? h1.objs.size = some (seqObj "list" vs.toArray 0) := Heap.get?_push_size _ rfl
  have hT2 : PySem.Paired (TupK (h1.push (seqObj "list" vs.toArray 0))) vs kss := Paired.mapP hT fun v ks t => t.kept fun b o e _ => Heap.get?_push_of_some _ e
  refine wpAny_bind (wpAny_holding (wpAny_call_entry slot_list_sort ⟨_, hD, rfl⟩ entry_list_sort (sort_tups (s := { s with heap := h1.push (seqObj "list" vs.toArray 0), toks := tk }) hD hT2 h64 fun p hp hs => ⟨_, rfl, ?_⟩) (args_list_sort _)))
  obtain ⟨e, he⟩ := sortedHeap_at (vs := vs) (out := (arrV vs p).toArray) hD
  have kp2 : Keeps h1 (sortedHeap (h1.push (seqObj "list" vs.toArray 0)) h1.objs.size vs (arrV vs p).toArray) := fun b o q1 => by
    have hlt : b < h1.objs.size := Heap.lt_size q1
    rw [sortedHeap_old (Nat.ne_of_lt hlt) (by rw [size_push']; exact Nat.lt_succ_of_lt hlt)]
    exact Heap.get?_push_of_some _ q1
  refine wpAny_pure ⟨_, rfl, h vs kss p _ tk h1.objs.size e hR hp hs (Paired.mapP hT fun v ks t => t.kept fun b o e _ => kp2 b o e) h64 (fun b o q => kp2 b o (kp b o q)) ?_ he⟩
  · cases z : s.heap.get? h1.objs.size with
    | none => rfl
    | some o =>
      have := Heap.lt_size (kp _ _ z)
      exact absurd this (Nat.lt_irrefl _)
theorem gives_list {l : Addr} {vs : List Value} {kss : List (List Int)} (hl : s.heap.IsList l vs.toArray) (hT : PySem.Paired (TupK s.heap) vs kss) (h64 : vs.length < 64) (E' : Value → Shared → Prop) :
    wpAny (model prog w) A (collect (.ref l)) (Gives s fun us ms => us = vs ∧ ms = kss) E' s := by
  have kp : Keeps s.heap ((s.heap.push (seqObj "list" #[] 0)).update s.heap.objs.size (Obj.mapSeq (· ++ vs.toArray))) := fun b o q => by
    have hlt : b < s.heap.objs.size := Heap.lt_size q
    rw [Heap.get?_update_ne _ _ _ _ (Nat.ne_of_lt hlt)]
    exact Heap.get?_push_of_some _ q
  exact collect_list hl ⟨_, s.toks, kss, rfl, kp, Paired.mapP hT fun v ks t => t.kept fun b o e _ => kp b o e, h64, rfl, rfl⟩ (by rw [sizeLine_eq]; omega)
end
end L2
set_option Elab.async false
set_option linter.all false
set_option maxRecDepth 100000
set_option maxHeartbeats 4000000
namespace L2
open PySem PySem.SetTable
def adv (m : Nat) (p : Probe) : Probe :=
  if p.more > 0 then { p with j := p.j + 1, more := p.more - 1 } else
  { p with j := (leap m p.i p.perturb).1, more := runEnd m (leap m p.i p.perturb).1 - (leap m p.i p.perturb).1, i := (leap m p.i p.perturb).1, perturb := (leap m p.i p.perturb).2 }
theorem advance_eq (t : SetTable) (p : Probe) : t.advance p = adv t.mask p := rfl
def at0 (m i e : Nat) : Probe := { j := i, more := runEnd m i - i, i := i, perturb := e, dummy := none }
def stp (m : Nat) (h : Int) : Nat → Probe
  | 0 => at0 m (bits h % (m + 1)) (bits h)
  | k + 1 => adv m (stp m h k)
theorem start_eq (t : SetTable) (h : Int) : t.probeStart h = stp t.mask h 0 := rfl
theorem stp_dummy (m : Nat) (h : Int) : ∀ k, (stp m h k).dummy = none
  | 0 => rfl
  | k + 1 => by
    have := stp_dummy m h k
    simp only [stp, adv]
    split <;> simpa using this
def lp (m : Nat) (h : Int) : Nat → Nat × Nat
  | 0 => (bits h % (m + 1), bits h)
  | L + 1 => leap m (lp m h L).1 (lp m h L).2
theorem run_in {m : Nat} {h : Int} {k i e : Nat} (h0 : stp m h k = at0 m i e) : ∀ r, r ≤ runEnd m i - i → stp m h (k + r) = { j := i + r, more := runEnd m i - i - r, i := i, perturb := e, dummy := none }
  | 0, _ => h0
  | r + 1, hr => by
    have ih := run_in h0 r (by omega)
    show adv m (stp m h (k + r)) = _
    rw [ih]
    unfold adv
    rw [if_pos (show runEnd m i - i - r > 0 by omega)]
    simp only [Probe.mk.injEq, true_and, and_true]
    omega
theorem run_on {m : Nat} {h : Int} {k i e : Nat} (h0 : stp m h k = at0 m i e) : stp m h (k + (runEnd m i - i) + 1) = at0 m (leap m i e).1 (leap m i e).2 := by
  have ih := run_in h0 (runEnd m i - i) (Nat.le_refl _)
  show adv m (stp m h (k + (runEnd m i - i))) = _
  rw [ih]
  unfold adv
  rw [if_neg (show ¬ runEnd m i - i - (runEnd m i - i) > 0 by omega)]
  rfl
theorem run_len (m i : Nat) : runEnd m i - i ≤ 9 := by unfold runEnd; split <;> omega
theorem run_at (m : Nat) (h : Int) : ∀ L, ∃ k, k ≤ 10 * L ∧ stp m h k = at0 m (lp m h L).1 (lp m h L).2
  | 0 => ⟨0, Nat.le_refl _, rfl⟩
  | L + 1 => by
    obtain ⟨k, hk, e⟩ := run_at m h L
    have := run_len m (lp m h L).1
    exact ⟨_, by omega, run_on e⟩
def lcg (M i : Nat) : Nat := (i * 5 + 1) % M
def itn (M : Nat) : Nat → Nat → Nat
  | 0, i => i
  | n + 1, i => lcg M (itn M n i)
theorem itn_add (M : Nat) (i : Nat) : ∀ a b, itn M (b + a) i = itn M b (itn M a i)
  | a, 0 => by rw [Nat.zero_add]; rfl
  | a, b + 1 => by
    rw [show b + 1 + a = (b + a) + 1 by omega]
    show lcg M (itn M (b + a) i) = lcg M (itn M b (itn M a i))
    rw [itn_add M i a b]
structure Full (m : Nat) : Prop where
  all : ∀ q, q ≤ m → ∃ b, b ≤ m ∧ itn (m + 1) b 0 = q
  back : itn (m + 1) (m + 1) 0 = 0
theorem Full.go {m : Nat} (F : Full m) {i q : Nat} (hi : i ≤ m) (hq : q ≤ m) : ∃ b, b ≤ m ∧ itn (m + 1) b i = q := by
  obtain ⟨x, hx, rfl⟩ := F.all i hi
  obtain ⟨y, hy, rfl⟩ := F.all q hq
  by_cases c : x ≤ y
  · exact ⟨y - x, by omega, by rw [← itn_add, show y - x + x = y by omega]⟩
  · refine ⟨y + (m + 1) - x, by omega, ?_⟩
    rw [← itn_add, show y + (m + 1) - x + x = y + (m + 1) by omega, itn_add, F.back]
theorem lp_pert (m : Nat) (h : Int) : ∀ L, (lp m h L).2 = bits h / 32 ^ L
  | 0 => by simp [lp]
  | L + 1 => by
    show (lp m h L).2 / 32 = _
    rw [lp_pert m h L, Nat.div_div_eq_div_mul, Nat.pow_succ]
theorem bits_lt (h : Int) : bits h < 18446744073709551616 := by
  unfold bits
  have := Int.emod_lt_of_pos h (show (0 : Int) < 2 ^ 64 by decide)
  have := Int.emod_nonneg h (show (2 ^ 64 : Int) ≠ 0 by decide)
  omega
theorem lp_le (m : Nat) (h : Int) : ∀ L, (lp m h L).1 ≤ m
  | 0 => by
    have := Nat.mod_lt (bits h) (show 0 < m + 1 by omega)
    show bits h % (m + 1) ≤ m
    omega
  | L + 1 => by
    show ((lp m h L).1 * 5 + 1 + (lp m h L).2 / 32) % (m + 1) ≤ m
    have := Nat.mod_lt ((lp m h L).1 * 5 + 1 + (lp m h L).2 / 32) (show 0 < m + 1 by omega)
    omega
theorem lp_late (m : Nat) (h : Int) : ∀ b, (lp m h (12 + b)).1 = itn (m + 1) b (lp m h 12).1
  | 0 => rfl
  | b + 1 => by
    have ih := lp_late m h b
    show ((lp m h (12 + b)).1 * 5 + 1 + (lp m h (12 + b)).2 / 32) % (m + 1) = lcg (m + 1) (itn (m + 1) b (lp m h 12).1)
    rw [← ih]
    have hb := bits_lt h
    have z : (lp m h (12 + b)).2 / 32 = 0 := by
      rw [lp_pert, Nat.div_div_eq_div_mul]
      apply Nat.div_eq_of_lt
      have : (32 : Nat) ^ (12 + b) = 32 ^ 12 * 32 ^ b := Nat.pow_add ..
      rw [this]
      have p1 : 1 ≤ 32 ^ b := Nat.one_le_pow _ _ (by decide)
      have : (32 : Nat) ^ 12 * 1 ≤ 32 ^ 12 * 32 ^ b := Nat.mul_le_mul_left _ p1
      have e12 : (32 : Nat) ^ 12 = 1152921504606846976 := by decide
      omega
    rw [z]
    rfl
theorem Full.lp {m : Nat} (F : Full m) (h : Int) {q : Nat} (hq : q ≤ m) : ∃ L, L ≤ m + 12 ∧ (lp m h L).1 = q := by
  obtain ⟨b, hb, e⟩ := F.go (lp_le m h 12) hq
  exact ⟨12 + b, by omega, by rw [lp_late, e]⟩
theorem Full.walk {m : Nat} (F : Full m) (h : Int) {q : Nat} (hq : q ≤ m) : ∃ k, k ≤ 10 * (m + 12) ∧ (stp m h k).j = q := by
  obtain ⟨L, hL, e⟩ := F.lp h hq
  obtain ⟨k, hk, e2⟩ := run_at m h L
  exact ⟨k, by omega, by rw [e2]; exact e⟩
theorem stp_le (m : Nat) (h : Int) (k : Nat) : (stp m h k).j ≤ m := by
  have key : ∀ k, (stp m h k).i ≤ m ∧ (stp m h k).j + (stp m h k).more ≤ m := by
    intro k
    induction k with
    | zero =>
      have := Nat.mod_lt (bits h) (show 0 < m + 1 by omega)
      refine ⟨by show bits h % (m + 1) ≤ m; omega, ?_⟩
      show bits h % (m + 1) + (runEnd m (bits h % (m + 1)) - bits h % (m + 1)) ≤ m
      unfold runEnd
      split <;> omega
    | succ k ih =>
      obtain ⟨h1, h2⟩ := ih
      show (adv m (stp m h k)).i ≤ m ∧ (adv m (stp m h k)).j + (adv m (stp m h k)).more ≤ m
      unfold adv
      split
      · exact ⟨h1, by simp only; omega⟩
      · have := Nat.mod_lt ((stp m h k).i * 5 + 1 + (stp m h k).perturb / 32) (show 0 < m + 1 by omega)
        have e : (leap m (stp m h k).i (stp m h k).perturb).1 = ((stp m h k).i * 5 + 1 + (stp m h k).perturb / 32) % (m + 1) := rfl
        simp only [e]
        refine ⟨by omega, ?_⟩
        unfold runEnd
        split <;> omega
  have := (key k).2
  omega
def chk (m : Nat) : Bool := (List.range (m + 1)).all (fun q => (List.range (m + 1)).any fun b => itn (m + 1) b 0 == q) && itn (m + 1) (m + 1) 0 == 0
theorem full_of {m : Nat} (h : chk m = true) : Full m := by
  unfold chk at h
  rw [Bool.and_eq_true] at h
  obtain ⟨h1, h2⟩ := h
  refine ⟨fun q hq => ?_, by simpa using h2⟩
  have := List.all_eq_true.mp h1 q (List.mem_range.mpr (by omega))
  obtain ⟨b, hb, e⟩ := List.any_eq_true.mp this
  exact ⟨b, by have := List.mem_range.mp hb; omega, by simpa using e⟩
theorem full7 : Full 7 := full_of (by decide +kernel)
theorem full31 : Full 31 := full_of (by decide +kernel)
end L2
set_option Elab.async false
set_option linter.all false
set_option maxRecDepth 100000
set_option maxHeartbeats 4000000
namespace L2
open PySem PySem.SetTable
theorem full127 : Full 127 := full_of (by decide +kernel)
def Rise (xs : Array Nat) : Prop := ∀ i j, i < j → j < xs.size → xs.getD i 0 < xs.getD j 0
theorem getD_some {xs : Array Nat} {i d : Nat} (h : i < xs.size) : xs[i]? = some (xs.getD i d) := by
  simp [Array.getD, h]
theorem below_go {xs : Array Nat} {j : Nat} (hr : Rise xs) : ∀ (fu lo hi : Nat), lo ≤ hi → hi ≤ xs.size → hi - lo ≤ fu → (∀ i, i < lo → xs.getD i 0 < j) → (∀ i, hi ≤ i → i < xs.size → j ≤ xs.getD i 0) →
    (∀ i, i < below.go xs j fu lo hi → xs.getD i 0 < j) ∧ (∀ i, below.go xs j fu lo hi ≤ i → i < xs.size → j ≤ xs.getD i 0) ∧ below.go xs j fu lo hi ≤ xs.size
  | 0, lo, hi, h1, h2, h3, h4, h5 => by
    have : lo = hi := by omega
    subst this
    exact ⟨h4, h5, h2⟩
  | fu + 1, lo, hi, h1, h2, h3, h4, h5 => by
    unfold below.go
    by_cases c : lo < hi
    · rw [if_pos c]
      dsimp only
      have hm : (lo + hi) / 2 < xs.size := by omega
      have e : xs.getD ((lo + hi) / 2) j = xs.getD ((lo + hi) / 2) 0 := by simp [Array.getD, hm]
      rw [e]
      by_cases d : xs.getD ((lo + hi) / 2) 0 < j
      · rw [if_pos d]
        refine below_go hr fu _ hi (by omega) h2 (by omega) (fun i hi' => ?_) h5
        by_cases q : i = (lo + hi) / 2
        · subst q; exact d
        · exact Nat.lt_trans (hr i ((lo + hi) / 2) (by omega) hm) d
      · rw [if_neg d]
        refine below_go hr fu lo _ (by omega) (by omega) (by omega) h4 fun i hi' hlt => ?_
        by_cases q : i = (lo + hi) / 2
        · subst q; omega
        · have := hr ((lo + hi) / 2) i (by omega) hlt
          omega
    · rw [if_neg c]
      have : lo = hi := by omega
      subst this
      exact ⟨h4, h5, h2⟩
theorem below_ok {xs : Array Nat} (hr : Rise xs) (j : Nat) : (∀ i, i < below xs j → xs.getD i 0 < j) ∧ (∀ i, below xs j ≤ i → i < xs.size → j ≤ xs.getD i 0) ∧ below xs j ≤ xs.size :=
  below_go hr xs.size 0 xs.size (Nat.zero_le _) (Nat.le_refl _) (by omega) (fun i z => absurd z (by omega)) fun i a b => absurd b (by omega)
theorem below_at {xs : Array Nat} (hr : Rise xs) {i j : Nat} (h : xs[i]? = some j) : below xs j = i := by
  obtain ⟨h1, h2, h3⟩ := below_ok hr j
  have hi : i < xs.size := by
    rcases Nat.lt_or_ge i xs.size with z | z
    · exact z
    · rw [Array.getElem?_eq_none z] at h; cases h
  have e : xs.getD i 0 = j := by
    have := getD_some (d := 0) hi
    rw [h] at this
    exact (Option.some.inj this).symm
  rcases Nat.lt_trichotomy (below xs j) i with z | z | z
  · have a := h2 (below xs j) (Nat.le_refl _) (by omega)
    have b := hr (below xs j) i z hi
    omega
  · exact z
  · have := h1 i z
    omega
theorem rise_inj {xs : Array Nat} (hr : Rise xs) {i i' j : Nat} (h : xs[i]? = some j) (h' : xs[i']? = some j) : i = i' := (below_at hr h).symm.trans (below_at hr h')
structure Tab (t : SetTable) (m n : Nat) : Prop where
  mask : t.mask = m
  dm : t.dummies = #[]
  size : t.place.size = n
  rise : Rise t.place
  le : ∀ i j : Nat, t.place[i]? = some j → j ≤ m
def Fl (t : SetTable) (j : Nat) : Prop := ∃ i : Nat, t.place[i]? = some j
theorem has_nil (j : Nat) : has #[] j = false := by simp [has]
section
variable {t : SetTable} {m n : Nat}
theorem Tab.live (T : Tab t m n) {i j : Nat} (h : t.place[i]? = some j) : t.slot j = .live i := by
  unfold slot
  have e := below_at T.rise h
  simp only [e, h, beq_self_eq_true, if_true]
theorem Tab.empty (T : Tab t m n) {j : Nat} (h : ¬ Fl t j) : t.slot j = .empty := by
  unfold slot
  have e : (t.place[below t.place j]? == some j) = false := by
    rw [Bool.eq_false_iff]
    intro z
    exact h ⟨_, by simpa using z⟩
  simp only [e, T.dm, has_nil, Bool.false_eq_true, if_false]
theorem Tab.free (T : Tab t m n) (hn : n ≤ m) : ∃ q, q ≤ m ∧ ¬ Fl t q := by
  refine Classical.byContradiction fun hc => ?_
  have all : ∀ q, q ≤ m → Fl t q := fun q hq => Classical.byContradiction fun z => hc ⟨q, hq, z⟩
  have sub : List.range (m + 1) ⊆ t.place.toList := fun q hq => by
    obtain ⟨i, e⟩ := all q (by have := List.mem_range.mp hq; omega)
    exact List.mem_of_getElem? (by rw [Array.getElem?_toList]; exact e)
  have := List.Nodup.length_le_of_subset List.nodup_range sub
  rw [List.length_range, Array.length_toList, T.size] at this
  omega
theorem Tab.probe_go (T : Tab t m n) {hashAt : Nat → Int} {h : Int} {K : Nat} (hK : ¬ Fl t (stp m h K).j) : ∀ (fu k : Nat), k ≤ K → K - k < fu →
    ∃ x, k ≤ x ∧ x ≤ K ∧ (∀ l, k ≤ l → l < x → ∃ i : Nat, t.place[i]? = some (stp m h l).j ∧ hashAt i ≠ h) ∧
      ((¬ Fl t (stp m h x).j ∧ probe.go t hashAt h fu (stp m h k) = some (.empty (stp m h x).j none)) ∨
        ∃ i : Nat, t.place[i]? = some (stp m h x).j ∧ hashAt i = h ∧ probe.go t hashAt h fu (stp m h k) = some (.candidate (stp m h x).j i (stp m h (x + 1))))
  | 0, k, _, z => absurd z (by omega)
  | fu + 1, k, hk, hf => by
    unfold probe.go
    by_cases c : Fl t (stp m h k).j
    · obtain ⟨i, e⟩ := id c
      rw [T.live e]
      dsimp only
      have adv1 : t.advance (stp m h k) = stp m h (k + 1) := by rw [advance_eq, T.mask]; rfl
      by_cases d : hashAt i = h
      · refine ⟨k, Nat.le_refl _, hk, fun l a b => absurd b (by omega), .inr ⟨i, e, d, ?_⟩⟩
        rw [if_pos (by rw [d]; exact beq_self_eq_true _), adv1]
      · rw [if_neg (by simpa using d), adv1]
        have hne : k ≠ K := fun z => hK (z ▸ c)
        obtain ⟨x, x1, x2, x3, x4⟩ := T.probe_go hK fu (k + 1) (by omega) (by omega)
        refine ⟨x, by omega, x2, fun l a b => ?_, x4⟩
        by_cases q : l = k
        · subst q; exact ⟨i, e, d⟩
        · exact x3 l (by omega) b
    · rw [T.empty c]
      dsimp only
      exact ⟨k, Nat.le_refl _, hk, fun l a b => absurd b (by omega), .inl ⟨c, by rw [stp_dummy]⟩⟩
end
theorem tins_get {α : Type} {xs : Array α} {p : Nat} {x : α} (hp : p ≤ xs.size) (i : Nat) : (insertAt xs p x)[i]? = if i < p then xs[i]? else if i = p then some x else xs[i - 1]? := by
  unfold insertAt
  have s1 : ((xs.extract 0 p).push x).size = p + 1 := by simp [Array.size_push, Array.size_extract]; omega
  have s0 : (xs.extract 0 p).size = p := by simp [Array.size_extract]; omega
  rw [Array.getElem?_append, s1]
  by_cases c : i < p
  · rw [if_pos (by omega), if_pos c, Array.getElem?_push, s0, if_neg (by omega), Array.getElem?_extract, if_pos (by omega), Nat.zero_add]
  · rw [if_neg c]
    by_cases d : i = p
    · subst d
      rw [if_pos (by omega), if_pos rfl, Array.getElem?_push, s0, if_pos rfl]
    · rw [if_neg d, if_neg (by omega), Array.getElem?_extract]
      by_cases e : i - 1 < xs.size
      · rw [if_pos (by omega)]
        congr 1
        omega
      · rw [if_neg (by omega), Array.getElem?_eq_none (by omega)]
theorem ins_size {α : Type} {xs : Array α} {p : Nat} {x : α} (hp : p ≤ xs.size) : (insertAt xs p x).size = xs.size + 1 := by
  unfold insertAt
  simp [Array.size_extract]
  omega
def AtS {α : Type} (place : Array Nat) (es : Array α) (j : Nat) (e : α) : Prop := ∃ i : Nat, place[i]? = some j ∧ es[i]? = some e
theorem ins_at {α : Type} {place : Array Nat} {es : Array α} {p j j' : Nat} {e e' : α} (hp : p ≤ place.size) (hq : p ≤ es.size) : AtS (insertAt place p j) (insertAt es p e) j' e' ↔ AtS place es j' e' ∨ (j' = j ∧ e' = e) := by
  constructor
  · rintro ⟨i, h1, h2⟩
    rw [tins_get hp] at h1
    rw [tins_get hq] at h2
    by_cases c : i < p
    · rw [if_pos c] at h1 h2
      exact .inl ⟨i, h1, h2⟩
    · rw [if_neg c] at h1 h2
      by_cases d : i = p
      · rw [if_pos d] at h1 h2
        exact .inr ⟨(Option.some.inj h1).symm, (Option.some.inj h2).symm⟩
      · rw [if_neg d] at h1 h2
        exact .inl ⟨i - 1, h1, h2⟩
  · rintro (⟨i, h1, h2⟩ | ⟨rfl, rfl⟩)
    · by_cases c : i < p
      · exact ⟨i, by rw [tins_get hp, if_pos c]; exact h1, by rw [tins_get hq, if_pos c]; exact h2⟩
      · exact ⟨i + 1, by rw [tins_get hp, if_neg (by omega), if_neg (by omega)]; exact h1, by rw [tins_get hq, if_neg (by omega), if_neg (by omega)]; exact h2⟩
    · exact ⟨p, by rw [tins_get hp, if_neg (by omega), if_pos rfl], by rw [tins_get hq, if_neg (by omega), if_pos rfl]⟩
theorem rise_ins {xs : Array Nat} (hr : Rise xs) {j : Nat} (hj : ¬ ∃ i : Nat, xs[i]? = some j) : Rise (insertAt xs (below xs j) j) := by
  obtain ⟨h1, h2, h3⟩ := below_ok hr j
  have val : ∀ i, i < xs.size + 1 → (insertAt xs (below xs j) j).getD i 0 = if i < below xs j then xs.getD i 0 else if i = below xs j then j else xs.getD (i - 1) 0 := fun i hi => by
    have e := tins_get (x := j) h3 i
    simp only [Array.getD_eq_getD_getElem?, e]
    split
    · rfl
    · split <;> rfl
  have gt : ∀ i, below xs j ≤ i → i < xs.size → j < xs.getD i 0 := fun i a b => by
    have := h2 i a b
    have ne : xs.getD i 0 ≠ j := fun z => hj ⟨i, by rw [getD_some (d := 0) b, z]⟩
    omega
  intro a b hab hb
  rw [ins_size h3] at hb
  rw [val a (by omega), val b hb]
  by_cases b1 : b < below xs j
  · rw [if_pos b1, if_pos (by omega)]
    exact hr a b hab (by omega)
  · rw [if_neg b1]
    by_cases b2 : b = below xs j
    · rw [if_pos b2, if_pos (by omega)]
      exact h1 a (by omega)
    · rw [if_neg b2]
      by_cases a1 : a < below xs j
      · rw [if_pos a1]
        exact hr a (b - 1) (by omega) (by omega)
      · rw [if_neg a1]
        by_cases a2 : a = below xs j
        · rw [if_pos a2]
          exact gt (b - 1) (by omega) (by omega)
        · rw [if_neg a2]
          exact hr (a - 1) (b - 1) (by omega) (by omega)
theorem Tab.put {t : SetTable} {m n : Nat} (T : Tab t m n) {j : Nat} (hj : ¬ Fl t j) (hm : j ≤ m) : Tab (t.put j).1 m (n + 1) ∧ (t.put j).2 = below t.place j ∧ (t.put j).1.place = insertAt t.place (below t.place j) j := by
  obtain ⟨h1, h2, h3⟩ := below_ok T.rise j
  refine ⟨⟨T.mask, ?_, ?_, rise_ins T.rise hj, fun i j' e => ?_⟩, rfl, rfl⟩
  · show (if has t.dummies j = true then _ else t.dummies) = #[]
    rw [T.dm, has_nil, if_neg (by simp)]
  · show (insertAt t.place (below t.place j) j).size = n + 1
    rw [ins_size h3, T.size]
  · have e : (insertAt t.place (below t.place j) j)[i]? = some j' := e
    rw [tins_get h3] at e
    split at e
    · exact T.le _ _ e
    · split at e
      · rw [← Option.some.inj e]; exact hm
      · exact T.le _ _ e
end L2
set_option Elab.async false
set_option linter.all false
set_option maxRecDepth 100000
set_option maxHeartbeats 4000000
namespace L2
open PySem PySem.SetTable
def Rch (fl : Nat → Prop) (m : Nat) (h : Int) (j : Nat) : Prop := ∃ k, (stp m h k).j = j ∧ ∀ l, l < k → fl (stp m h l).j
theorem Rch.mono {fl fl' : Nat → Prop} {m : Nat} {h : Int} {j : Nat} (f : ∀ q, fl q → fl' q) (r : Rch fl m h j) : Rch fl' m h j := by
  obtain ⟨k, e, a⟩ := r
  exact ⟨k, e, fun l hl => f _ (a l hl)⟩
structure SetI {α : Type} (t : SetTable) (es : Array (Int × α)) (m n : Nat) : Prop where
  tab : Tab t m n
  sz : es.size = n
  rch : ∀ (j : Nat) (e : Int × α), AtS t.place es j e → Rch (Fl t) m e.1 j
def fO (owner : Array (Option Nat)) (j : Nat) : Prop := (owner.getD j (some 0)).isSome = true
theorem free_ok {m : Nat} {owner : Array (Option Nat)} {h : Int} : ∀ (fu L k0 : Nat), stp m h k0 = at0 m (lp m h L).1 (lp m h L).2 → (∀ l, l < k0 → fO owner (stp m h l).j) → (∃ L', L ≤ L' ∧ L' < L + fu ∧ ¬ fO owner (lp m h L').1) →
    ∃ j, layClean.free m owner fu (lp m h L).1 (lp m h L).2 = some j ∧ ¬ fO owner j ∧ Rch (fO owner) m h j
  | 0, L, k0, _, _, ⟨L', a, b, _⟩ => absurd b (by omega)
  | fu + 1, L, k0, hk, hf, ⟨L', a, b, c⟩ => by
    unfold layClean.free
    have ri := run_in hk
    cases hfind : (List.range (runEnd m (lp m h L).1 + 1 - (lp m h L).1)).find? fun k => (owner.getD ((lp m h L).1 + k) (some 0)).isNone with
    | some kk =>
      obtain ⟨p1, p2, p3⟩ := List.find?_range_eq_some.mp hfind
      have hkk := List.mem_range.mp p2
      refine ⟨(lp m h L).1 + kk, rfl, fun z => ?_, k0 + kk, by rw [ri kk (by omega)], fun l hl => ?_⟩
      · unfold fO at z
        rw [Option.isNone_iff_eq_none.mp p1] at z
        cases z
      · by_cases d : l < k0
        · exact hf l d
        · obtain ⟨r, rfl⟩ : ∃ r, l = k0 + r := ⟨l - k0, by omega⟩
          rw [ri r (by omega)]
          have := p3 r (by omega)
          unfold fO
          rw [Bool.not_eq_true', Option.isNone_eq_false_iff] at this
          exact this
    | none =>
      have pn := List.find?_eq_none.mp hfind
      have fil : ∀ r, r ≤ runEnd m (lp m h L).1 - (lp m h L).1 → fO owner ((lp m h L).1 + r) := fun r hr => by
        have hge : (lp m h L).1 ≤ runEnd m (lp m h L).1 := by unfold runEnd; split <;> omega
        have := pn r (List.mem_range.mpr (by omega))
        unfold fO
        rw [Bool.not_eq_true, Option.isNone_eq_false_iff] at this
        exact this
      have hne : L' ≠ L := by
        rintro rfl
        exact c (by simpa using fil 0 (Nat.zero_le _))
      refine free_ok fu (L + 1) (k0 + (runEnd m (lp m h L).1 - (lp m h L).1) + 1) (run_on hk) (fun l hl => ?_) ⟨L', by omega, by omega, c⟩
      by_cases d : l < k0
      · exact hf l d
      · obtain ⟨r, rfl⟩ : ∃ r, l = k0 + r := ⟨l - k0, by omega⟩
        rw [ri r (by omega)]
        exact fil r (by omega)
structure OW (m : Nat) (hs : Nat → Int) (owner : Array (Option Nat)) (k : Nat) : Prop where
  sz : owner.size = m + 1
  own : ∀ j i : Nat, owner[j]? = some (some i) → i < k ∧ Rch (fO owner) m (hs i) j
  ex : ∀ i, i < k → ∃ j : Nat, owner[j]? = some (some i)
  inj : ∀ j j' i : Nat, owner[j]? = some (some i) → owner[j']? = some (some i) → j = j'
def idxs (m : Nat) (owner : Array (Option Nat)) : List Nat := (List.range (m + 1)).filterMap fun j => owner.getD j none
theorem own_get {owner : Array (Option Nat)} {j i : Nat} : owner.getD j none = some i ↔ owner[j]? = some (some i) := by
  rw [Array.getD_eq_getD_getElem?]
  cases owner[j]? with
  | none => simp
  | some o => simp
theorem OW.nodup {m k : Nat} {hs : Nat → Int} {owner : Array (Option Nat)} (W : OW m hs owner k) : (idxs m owner).Nodup := by
  refine List.Pairwise.filterMap _ (fun a a' hne b e b' e' z => ?_) List.nodup_range
  subst z
  exact hne (W.inj _ _ _ (own_get.mp e) (own_get.mp e'))
theorem OW.len {m k : Nat} {hs : Nat → Int} {owner : Array (Option Nat)} (W : OW m hs owner k) : (idxs m owner).length = k := by
  apply Nat.le_antisymm
  · have sub : idxs m owner ⊆ List.range k := fun i hi => by
      obtain ⟨j, _, e⟩ := List.mem_filterMap.mp hi
      exact List.mem_range.mpr (W.own j i (own_get.mp e)).1
    have := List.Nodup.length_le_of_subset W.nodup sub
    rwa [List.length_range] at this
  · have sub : List.range k ⊆ idxs m owner := fun i hi => by
      obtain ⟨j, e⟩ := W.ex i (List.mem_range.mp hi)
      have hj : j < owner.size := by
        rcases Nat.lt_or_ge j owner.size with z | z
        · exact z
        · rw [Array.getElem?_eq_none z] at e; cases e
      exact List.mem_filterMap.mpr ⟨j, List.mem_range.mpr (by rw [W.sz] at hj; exact hj), own_get.mpr e⟩
    have := List.Nodup.length_le_of_subset List.nodup_range sub
    rwa [List.length_range] at this
theorem OW.free {m k : Nat} {hs : Nat → Int} {owner : Array (Option Nat)} (W : OW m hs owner k) (hk : k ≤ m) : ∃ q, q ≤ m ∧ ¬ fO owner q := by
  refine Classical.byContradiction fun hc => ?_
  have all : ∀ q, q ≤ m → fO owner q := fun q hq => Classical.byContradiction fun z => hc ⟨q, hq, z⟩
  have h1 := W.len
  unfold idxs at h1
  rw [List.length_filterMap_eq_countP] at h1
  have h2 : List.countP (fun j => (owner.getD j none).isSome) (List.range (m + 1)) = (List.range (m + 1)).length := List.countP_eq_length.mpr fun j hj => by
    have hj := List.mem_range.mp hj
    have a := all j (by omega)
    have hlt : j < owner.size := by rw [W.sz]; exact hj
    unfold fO at a
    simpa [Array.getD, hlt] using a
  rw [h2, List.length_range] at h1
  omega
theorem OW.step {m k : Nat} {hs : Nat → Int} {owner : Array (Option Nat)} (W : OW m hs owner k) {j : Nat} (hj : ¬ fO owner j) (hr : Rch (fO owner) m (hs k) j) : OW m hs (owner.setIfInBounds j (some k)) (k + 1) := by
  have hlt : j < owner.size := by
    rcases Nat.lt_or_ge j owner.size with z | z
    · exact z
    · refine absurd ?_ hj
      unfold fO
      simp [Array.getD, Nat.not_lt.mpr z]
  have nn : owner[j]? = some none := by
    cases e : owner[j]? with
    | none => rw [Array.getElem?_eq_none_iff] at e; omega
    | some o =>
      cases o with
      | none => rfl
      | some i =>
        refine absurd ?_ hj
        unfold fO
        rw [Array.getD_eq_getD_getElem?, e]
        rfl
  have get : ∀ q : Nat, (owner.setIfInBounds j (some k))[q]? = if q = j then some (some k) else owner[q]? := fun q => by
    rw [Array.getElem?_setIfInBounds]
    by_cases c : q = j
    · subst c; simp [hlt]
    · rw [if_neg c, if_neg (fun z => c z.symm)]
  have up : ∀ q, fO owner q → fO (owner.setIfInBounds j (some k)) q := fun q hq => by
    unfold fO at hq ⊢
    rw [Array.getD_eq_getD_getElem?] at hq ⊢
    rw [get]
    split
    · rfl
    · exact hq
  refine ⟨by rw [Array.size_setIfInBounds]; exact W.sz, fun q i e => ?_, fun i hi => ?_, fun q q' i e e' => ?_⟩
  · rw [get] at e
    by_cases c : q = j
    · rw [if_pos c] at e
      have : k = i := Option.some.inj (Option.some.inj e)
      subst this
      subst c
      exact ⟨by omega, hr.mono up⟩
    · rw [if_neg c] at e
      obtain ⟨a, b⟩ := W.own q i e
      exact ⟨by omega, b.mono up⟩
  · by_cases c : i = k
    · subst c
      exact ⟨j, by rw [get, if_pos rfl]⟩
    · obtain ⟨q, e⟩ := W.ex i (by omega)
      refine ⟨q, ?_⟩
      rw [get, if_neg (fun z => by rw [z, nn] at e; cases e)]
      exact e
  · rw [get] at e e'
    by_cases c : q = j
    · rw [if_pos c] at e
      have hik : k = i := Option.some.inj (Option.some.inj e)
      by_cases c' : q' = j
      · rw [c, c']
      · rw [if_neg c'] at e'
        have := (W.own q' i e').1
        omega
    · rw [if_neg c] at e
      by_cases c' : q' = j
      · rw [if_pos c'] at e'
        have hik : k = i := Option.some.inj (Option.some.inj e')
        have := (W.own q i e).1
        omega
      · rw [if_neg c'] at e'
        exact W.inj q q' i e e'
theorem OW.init (m : Nat) (hs : Nat → Int) : OW m hs (Array.replicate (m + 1) none) 0 := by
  have z : ∀ j i : Nat, (Array.replicate (m + 1) (none : Option Nat))[j]? = some (some i) → False := fun j i e => by
    rw [Array.getElem?_replicate] at e
    split at e <;> simp at e
  exact ⟨by simp, fun j i e => (z j i e).elim, fun i hi => absurd hi (by omega), fun j j' i e => (z j i e).elim⟩
def layStep (m : Nat) (acc : Option (Array (Option Nat) × Nat)) (h : Int) : Option (Array (Option Nat) × Nat) := do
  let (owner, k) ← acc
  let j ← layClean.free m owner (turns m) (bits h % (m + 1)) (bits h)
  pure (owner.setIfInBounds j (some k), k + 1)
theorem layClean_eq (m : Nat) (hashes : Array Int) : layClean m hashes = (hashes.foldl (layStep m) (some (Array.replicate (m + 1) none, 0))).map (·.1) := rfl
theorem fold_ok {m : Nat} (F : Full m) {hs : Nat → Int} : ∀ (l : List Int) (owner : Array (Option Nat)) (k : Nat), OW m hs owner k → (∀ i (h : Int), l[i]? = some h → hs (k + i) = h) → k + l.length ≤ m + 1 →
    ∃ owner', l.foldl (layStep m) (some (owner, k)) = some (owner', k + l.length) ∧ OW m hs owner' (k + l.length)
  | [], owner, k, W, _, _ => ⟨owner, rfl, W⟩
  | h :: l, owner, k, W, hl, hk => by
    simp only [List.length_cons] at hk ⊢
    obtain ⟨q, hq, hq2⟩ := W.free (by omega)
    obtain ⟨L', a, b⟩ := F.lp h hq
    obtain ⟨j, e, j1, j2⟩ := free_ok (m := m) (owner := owner) (h := h) (turns m) 0 0 rfl (fun l z => absurd z (by omega)) ⟨L', by omega, by unfold turns; omega, by rw [b]; exact hq2⟩
    have hk0 : hs k = h := hl 0 h rfl
    have W' := W.step j1 (by rw [hk0]; exact j2)
    obtain ⟨o', e', W''⟩ := fold_ok F l _ (k + 1) W' (fun i h' e => by rw [show k + 1 + i = k + (i + 1) by omega]; exact hl (i + 1) h' (by simpa using e)) (by omega)
    refine ⟨o', ?_, by rw [show k + (l.length + 1) = k + 1 + l.length by omega]; exact W''⟩
    rw [List.foldl_cons]
    have e0 : layStep m (some (owner, k)) h = some (owner.setIfInBounds j (some k), k + 1) := by
      show (layClean.free m owner (turns m) (bits h % (m + 1)) (bits h) >>= fun j => pure (owner.setIfInBounds j (some k), k + 1)) = _
      have e : layClean.free m owner (turns m) (bits h % (m + 1)) (bits h) = some j := e
      rw [e]
      rfl
    rw [e0, e', show k + (l.length + 1) = k + 1 + l.length by omega]
theorem fm_get {α β : Type} {f : α → Option β} : ∀ {l : List α}, (∀ x ∈ l, (f x).isSome = true) → ∀ i : Nat, (l.filterMap f)[i]? = l[i]?.bind f
  | [], _, i => by simp
  | x :: l, h, i => by
    obtain ⟨y, e⟩ := Option.isSome_iff_exists.mp (h x List.mem_cons_self)
    rw [List.filterMap_cons_some e]
    cases i with
    | zero => simp [e]
    | succ i => simpa using fm_get (fun z hz => h z (List.mem_cons_of_mem _ hz)) i
theorem fm_len {α β : Type} {f : α → Option β} {l : List α} (h : ∀ x ∈ l, (f x).isSome = true) : (l.filterMap f).length = l.length := by
  rw [List.length_filterMap_eq_countP, List.countP_eq_length.mpr h]
theorem laid_ok {α : Type} {m n fi mv : Nat} (F : Full m) {ld pl : Bool} {es : Array (Int × α)} (hn : es.size = n) (hm : n ≤ m + 1) :
    ∃ (t : SetTable) (order : Array Nat), laid m fi mv ld pl (es.map (·.1)) = some (t, order) ∧ t.led = ld ∧ t.plain = pl ∧ (order.filterMap (es[·]?)).size = es.size ∧ SetI t (order.filterMap (es[·]?)) m n ∧
      (∀ e, e ∈ (order.filterMap (es[·]?)).toList ↔ e ∈ es.toList) ∧
      ∀ (i i' : Nat) (e e' : Int × α), (order.filterMap (es[·]?))[i]? = some e → (order.filterMap (es[·]?))[i']? = some e' → (∀ y y' : Nat, es[y]? = some e → es[y']? = some e' → y = y') → i = i' := by
  obtain ⟨owner, eo, W⟩ := fold_ok F (hs := fun i => ((es.map (·.1)).getD i 0)) (es.map (·.1)).toList (Array.replicate (m + 1) none) 0 (OW.init m _) (fun i h e => by
    rw [Nat.zero_add, Array.getD_eq_getD_getElem?, ← Array.getElem?_toList, e]; rfl) (by simp; omega)
  have hlen : (es.map (·.1)).toList.length = n := by simp [hn]
  rw [Nat.zero_add, hlen] at eo W
  have live : ∃ live : List (Nat × Nat), live = (List.range (m + 1)).filterMap fun j => (owner.getD j none).map (j, ·) := ⟨_, rfl⟩
  obtain ⟨live, el⟩ := live
  have lmem : ∀ j i, (j, i) ∈ live ↔ owner[j]? = some (some i) := fun j i => by
    rw [el, List.mem_filterMap]
    constructor
    · rintro ⟨q, _, e⟩
      cases o : owner.getD q none with
      | none => rw [o] at e; cases e
      | some x =>
        rw [o] at e
        cases e
        exact own_get.mp o
    · intro e
      have hj : j < owner.size := by
        rcases Nat.lt_or_ge j owner.size with z | z
        · exact z
        · rw [Array.getElem?_eq_none z] at e; cases e
      exact ⟨j, List.mem_range.mpr (by rw [W.sz] at hj; exact hj), by rw [own_get.mpr e]; rfl⟩
  have llen : live.length = n := by
    have := W.len
    unfold idxs at this
    rw [List.length_filterMap_eq_countP] at this
    rw [el, List.length_filterMap_eq_countP, ← this]
    congr 1
    funext j
    cases owner.getD j none <;> rfl
  have lsort : live.Pairwise fun a b => a.1 < b.1 := by
    rw [el]
    refine List.Pairwise.filterMap _ (fun a a' hlt b e b' e' => ?_) List.pairwise_lt_range
    cases o : owner.getD a none with
    | none => rw [o] at e; cases e
    | some x =>
      cases o' : owner.getD a' none with
      | none => rw [o'] at e'; cases e'
      | some x' =>
        rw [o] at e; rw [o'] at e'
        cases e; cases e'
        exact hlt
  have some1 : ∀ x ∈ live.map (·.2), (es[x]?).isSome = true := fun x hx => by
    obtain ⟨⟨j, i⟩, hji, rfl⟩ := List.mem_map.mp hx
    have := (W.own j i ((lmem j i).mp hji)).1
    simp [hn, this]
  have es' : ((live.map (·.2)).toArray.filterMap (es[·]?)) = ((live.map (·.2)).filterMap (es[·]?)).toArray := by simp
  have get' : ∀ i : Nat, ((live.map (·.2)).toArray.filterMap (es[·]?))[i]? = live[i]?.bind fun x => es[x.2]? := fun i => by
    rw [es', List.getElem?_toArray, fm_get some1, List.getElem?_map]
    cases live[i]? <;> rfl
  have size' : ((live.map (·.2)).toArray.filterMap (es[·]?)).size = n := by
    rw [es', List.size_toArray, fm_len some1, List.length_map, llen]
  have pget : ∀ i : Nat, (live.map (·.1)).toArray[i]? = live[i]?.map (·.1) := fun i => by rw [List.getElem?_toArray, List.getElem?_map]
  refine ⟨{ mask := m, place := (live.map (·.1)).toArray, dummies := #[], finger := fi, led := ld, moves := mv, plain := pl }, (live.map (·.2)).toArray, ?_, rfl, rfl, by rw [size', hn], ⟨⟨rfl, rfl, by simp [llen], ?_, ?_⟩, size', ?_⟩, fun e => ?_, fun i i' e e' h1 h2 hyy => ?_⟩
  · unfold laid
    rw [layClean_eq, ← Array.foldl_toList, eo, el]
    rfl
  · intro a b hab hb
    have hb' : b < live.length := by simpa using hb
    have ha' : a < live.length := by omega
    have := List.pairwise_iff_getElem.mp lsort a b ha' hb' hab
    simpa [Array.getD, ha', hb'] using this
  · intro i j e
    rw [show ({ mask := m, place := (live.map (·.1)).toArray, dummies := #[], finger := fi, led := ld, moves := mv, plain := pl } : SetTable).place[i]? = live[i]?.map (·.1) from pget i] at e
    cases o : live[i]? with
    | none => rw [o] at e; cases e
    | some x =>
      rw [o] at e
      obtain ⟨q, y⟩ := x
      have hq := (lmem q y).mp (List.mem_of_getElem? o)
      have : q = j := Option.some.inj e
      subst this
      have hj : q < owner.size := by
        rcases Nat.lt_or_ge q owner.size with z | z
        · exact z
        · rw [Array.getElem?_eq_none z] at hq; cases hq
      rw [W.sz] at hj
      omega
  · rintro j e ⟨i, h1, h2⟩
    rw [show ({ mask := m, place := (live.map (·.1)).toArray, dummies := #[], finger := fi, led := ld, moves := mv, plain := pl } : SetTable).place[i]? = live[i]?.map (·.1) from pget i] at h1
    rw [get'] at h2
    cases o : live[i]? with
    | none => rw [o] at h1; cases h1
    | some x =>
      rw [o] at h1 h2
      obtain ⟨q, y⟩ := x
      have e1 : q = j := Option.some.inj h1
      subst e1
      have h2 : es[y]? = some e := h2
      have hr := (W.own q y ((lmem q y).mp (List.mem_of_getElem? o))).2
      have eh : ((es.map (·.1)).getD y 0) = e.1 := by
        rw [Array.getD_eq_getD_getElem?, Array.getElem?_map, h2]; rfl
      rw [← eh]
      obtain ⟨k, ek, ak⟩ := hr
      refine ⟨k, ek, fun l hl => ?_⟩
      have hp := ak l hl
      have hle := stp_le m ((es.map (·.1)).getD y 0) l
      generalize (stp m ((es.map (·.1)).getD y 0) l).j = p at hp hle
      unfold fO at hp
      rw [Array.getD_eq_getD_getElem?] at hp
      cases oo : owner[p]? with
      | none =>
        rw [Array.getElem?_eq_none_iff, W.sz] at oo
        omega
      | some v =>
        rw [oo] at hp
        cases v with
        | none => cases hp
        | some z =>
          obtain ⟨a, ea⟩ := List.getElem?_of_mem ((lmem p z).mpr oo)
          exact ⟨a, by rw [show ({ mask := m, place := (live.map (·.1)).toArray, dummies := #[], finger := fi, led := ld, moves := mv, plain := pl } : SetTable).place[a]? = live[a]?.map (·.1) from pget a, ea]; rfl⟩
  · constructor
    · intro he
      obtain ⟨i, ei⟩ := List.getElem?_of_mem he
      rw [Array.getElem?_toList, get'] at ei
      cases o : live[i]? with
      | none => rw [o] at ei; cases ei
      | some x =>
        rw [o] at ei
        exact List.mem_of_getElem? (by rw [Array.getElem?_toList]; exact ei)
    · intro he
      obtain ⟨y, ey⟩ := List.getElem?_of_mem he
      rw [Array.getElem?_toList] at ey
      have hy : y < n := by
        rcases Nat.lt_or_ge y es.size with z | z
        · omega
        · rw [Array.getElem?_eq_none z] at ey; cases ey
      obtain ⟨j, ej⟩ := W.ex y hy
      obtain ⟨i, ei⟩ := List.getElem?_of_mem ((lmem j y).mpr ej)
      refine List.mem_of_getElem? (i := i) ?_
      rw [Array.getElem?_toList, get', ei]
      exact ey
  · rw [get'] at h1 h2
    cases o : live[i]? with
    | none => rw [o] at h1; cases h1
    | some x =>
      cases o' : live[i']? with
      | none => rw [o'] at h2; cases h2
      | some x' =>
        rw [o] at h1; rw [o'] at h2
        have hxx : x.2 = x'.2 := hyy _ _ h1 h2
        have j1 := (lmem x.1 x.2).mp (List.mem_of_getElem? o)
        have j2 := (lmem x'.1 x'.2).mp (List.mem_of_getElem? o')
        rw [← hxx] at j2
        have jj := W.inj _ _ _ j1 j2
        have hi : i < live.length := (List.getElem?_eq_some_iff.mp o).1
        have hi' : i' < live.length := (List.getElem?_eq_some_iff.mp o').1
        have e1 : live[i] = x := (List.getElem?_eq_some_iff.mp o).2
        have e2 : live[i'] = x' := (List.getElem?_eq_some_iff.mp o').2
        rcases Nat.lt_trichotomy i i' with z | z | z
        · have := List.pairwise_iff_getElem.mp lsort i i' hi hi' z
          rw [e1, e2] at this
          omega
        · exact z
        · have := List.pairwise_iff_getElem.mp lsort i' i hi' hi z
          rw [e1, e2] at this
          omega
end L2
set_option Elab.async false
set_option linter.all false
set_option maxRecDepth 100000
set_option maxHeartbeats 4000000
namespace L2
open PySem PySem.Spec PyProof.Rows PySem.W
section
variable {prog : Program} {w : World} {A : Around} {E : Value → Shared → Prop} {s : Shared}
theorem items_of {vs : List Value} {ns : List Int} (h : IntsAre vs ns) : ItemsAre (intKind prog w) ns vs := by
  induction h with
  | nil => exact .nil
  | cons n t _ ih => exact .cons (intKind_is _ _ _ _) ih
theorem TupK.key {h : Heap} {b : Addr} {ks : List Int} (t : TupK h (.ref b) ks) : IsTupleKey (intKind prog w) h ks b := by
  obtain ⟨b', o, xs, n, e, ho, hc, hd, hi, _⟩ := t
  cases e
  exact ⟨o, xs, n, ho, hc, hd, items_of hi⟩
abbrev hashT (prog : Program) (w : World) (ks : List Int) : Int := tupleKeyHash (intKind prog w) ks
theorem hbv_tup {b : Addr} {ks : List Int} {Q : Bool → Shared → Prop} (t : TupK s.heap (.ref b) ks) (q : Q true s) : wpAny (model prog w) A (hashByValue 8 (.ref b)) Q E s := by
  have hT := (t.key (prog := prog) (w := w)).typeIs
  obtain ⟨b', o, xs, n, e, ho, hc, hd, hi, _⟩ := t
  cases e
  unfold hashByValue
  refine wpAny_bind (wpAny_specialOf hT F.slot_tuple_hash.lookup ?_)
  show wpAny _ _ (seqItems? (.ref b) >>= _) _ _ s
  refine wpAny_bind (wpAny_seqItems ho hd ?_)
  refine wpAny_bind ?_
  show wpAny _ _ (forIn xs _ _) _ _ s
  rw [← Array.forIn_toList]
  refine wpAny_forIn_list _ (fun rest r s' => r.1 = none ∧ s' = s ∧ ∃ ns, IntsAre rest ns) _ ?_ ?_ _ _ ⟨rfl, rfl, _, hi⟩
  · rintro v rest r s' ⟨hr, rfl, ns, hi'⟩
    cases hi' with
    | cons i t hi'' =>
      refine wpAny_bind (wpAny_pure ?_)
      simp only [Bool.not_true, Bool.false_eq_true, if_false]
      exact wpAny_pure ⟨rfl, rfl, _, hi''⟩
  · rintro ⟨r1, r2⟩ s' ⟨hr, rfl, _⟩
    simp only at hr
    subst hr
    exact wpAny_pure q
theorem cls_tup {b : Addr} {ks : List Int} {Q : Bool → Shared → Prop} (t : TupK s.heap (.ref b) ks) (q : Q false s) : wpAny (model prog w) A (ofAClassStatement 8 (.ref b)) Q E s := by
  have hT := (t.key (prog := prog) (w := w)).typeIs
  obtain ⟨b', o, xs, n, e, ho, hc, hd, hi, _⟩ := t
  cases e
  unfold ofAClassStatement
  refine wpAny_bind (wpAny_typeOf hT ?_)
  dsimp only
  rw [if_pos (show ("tuple" == "tuple") = true by decide)]
  refine wpAny_bind (wpAny_pure ?_)
  simp only [Bool.not_true, Bool.false_eq_true, if_false]
  refine wpAny_bind (wpAny_seqItems ho hd ?_)
  dsimp only
  refine wpAny_bind ?_
  show wpAny _ _ (forIn xs _ _) _ _ s
  rw [← Array.forIn_toList]
  refine wpAny_forIn_list _ (fun rest r s' => r.1 = none ∧ s' = s ∧ ∃ ns, IntsAre rest ns) _ ?_ ?_ _ _ ⟨rfl, rfl, _, hi⟩
  · rintro v rest r s' ⟨hr, rfl, ns, hi'⟩
    cases hi' with
    | cons i t hi'' =>
      refine wpAny_bind (wpAny_pure ?_)
      simp only [Bool.false_eq_true, if_false]
      exact wpAny_pure ⟨rfl, rfl, _, hi''⟩
  · rintro ⟨r1, r2⟩ s' ⟨hr, rfl, _⟩
    simp only at hr
    subst hr
    exact wpAny_pure q
theorem seen_no {b : Addr} {ks : List Int} (t : TupK s.heap (.ref b) ks) {ys : List Value} {Q : Bool → Shared → Prop} (hy : ∀ y ∈ ys, ∃ c ks', y = .ref c ∧ TupK s.heap (.ref c) ks') (q : Q false s) : wpAny (model prog w) A (searchCouldBeSeen (.ref b) ys) Q E s := by
  unfold searchCouldBeSeen
  refine wpAny_bind ?_
  refine wpAny_forIn_list _ (fun rest r s' => r.1 = none ∧ s' = s ∧ ∀ y ∈ rest, ∃ c ks', y = .ref c ∧ TupK s.heap (.ref c) ks') _ ?_ ?_ _ _ ⟨rfl, rfl, hy⟩
  · rintro v rest r s' ⟨hr, rfl, hy'⟩
    obtain ⟨c, ks', rfl, tc⟩ := hy' v List.mem_cons_self
    have rest' : ∀ y ∈ rest, ∃ c ks', y = .ref c ∧ TupK s'.heap (.ref c) ks' := fun y h => hy' y (List.mem_cons_of_mem _ h)
    dsimp only
    by_cases e : (b == c) = true
    · rw [e]
      simp only [Bool.true_or, if_true]
      exact wpAny_pure ⟨rfl, rfl, rest'⟩
    · have e : (b == c) = false := by simpa using e
      rw [e]
      simp only [carriedByValue, Bool.false_and, Bool.or_false, Bool.false_eq_true, if_false]
      refine wpAny_bind (wpAny_eqIsQuiet_tuple (t.key (prog := prog) (w := w)) ?_)
      simp only [Bool.not_true, Bool.false_eq_true, if_false]
      refine wpAny_bind (wpAny_eqIsQuiet_tuple (tc.key (prog := prog) (w := w)) ?_)
      simp only [Bool.not_true, Bool.false_eq_true, if_false]
      refine wpAny_bind (cls_tup t ?_)
      simp only [Bool.false_eq_true, if_false]
      refine wpAny_bind (cls_tup tc ?_)
      simp only [Bool.false_eq_true, if_false]
      exact wpAny_pure ⟨rfl, rfl, rest'⟩
  · rintro ⟨r1, r2⟩ s' ⟨hr, rfl, _⟩
    simp only at hr
    subst hr
    exact wpAny_pure q
end
end L2
set_option Elab.async false
set_option linter.all false
set_option maxRecDepth 100000
set_option maxHeartbeats 4000000
namespace L2
open PySem PySem.Spec PyProof.Rows PySem.W PySem.SetTable
def MaskOk (m n : Nat) : Prop := (m = 7 ∧ n < 5) ∨ (m = 31 ∧ n < 19) ∨ (m = 127 ∧ n < 77)
theorem MaskOk.full {m n : Nat} (h : MaskOk m n) : Full m := by
  rcases h with ⟨rfl, _⟩ | ⟨rfl, _⟩ | ⟨rfl, _⟩
  · exact full7
  · exact full31
  · exact full127
theorem MaskOk.le {m n : Nat} (h : MaskOk m n) : n < m ∧ n < 77 := by unfold MaskOk at h; omega
theorem MaskOk.odd {m n : Nat} (h : MaskOk m n) : (m % 2 == 0) = false := by
  rcases h with ⟨rfl, _⟩ | ⟨rfl, _⟩ | ⟨rfl, _⟩ <;> decide
def EntK (prog : Program) (w : World) (h : Heap) (e : Int × Value) (ks : List Int) : Prop := TupK h e.2 ks ∧ e.1 = hashT prog w ks
abbrev byText (w : World) : Bool := w.params.followText "set-order"
structure SetD (prog : Program) (w : World) (Pv : Value → Prop) (h : Heap) (a : Addr) (o : Obj) (es : Array (Int × Value)) (ep : Nat) (t : SetTable) (m : Nat) (kss : List (List Int)) : Prop where
  ho : h.get? a = some o
  ex : o.ExactSet
  hd : o.data = .set es ep t
  pl : t.plain = true
  ld : t.led = !byText w
  mok : MaskOk m es.size
  si : SetI t es m es.size
  en : PySem.Paired (EntK prog w h) es.toList kss
  nd : kss.Nodup
  own : ∀ e ∈ es.toList, Pv e.2
section
variable {prog : Program} {w : World} {Pv : Value → Prop} {A : Around} {E : Value → Shared → Prop} {s : Shared} {a : Addr} {o : Obj} {es : Array (Int × Value)} {ep : Nat} {t : SetTable} {m : Nat} {kss : List (List Int)}
theorem SetD.fits (D : SetD prog w Pv s.heap a o es ep t m kss) : t.fits es.size = true := by
  have := D.mok.le
  unfold SetTable.fits SetTable.fill
  rw [D.si.tab.dm, D.si.tab.size, D.si.tab.mask]
  simp
  omega
theorem SetD.len (D : SetD prog w Pv s.heap a o es ep t m kss) : kss.length = es.size := by
  have := PySem.Paired.length D.en
  rw [Array.length_toList] at this
  exact this.symm
theorem SetD.ent (D : SetD prog w Pv s.heap a o es ep t m kss) {i : Nat} {e : Int × Value} (h : es[i]? = some e) : ∃ ks, kss[i]? = some ks ∧ EntK prog w s.heap e ks := L2.Paired.get D.en (by rw [Array.getElem?_toList]; exact h)
theorem SetD.ent' (D : SetD prog w Pv s.heap a o es ep t m kss) {i : Nat} {ks : List Int} (h : kss[i]? = some ks) : ∃ e, es[i]? = some e ∧ EntK prog w s.heap e ks := by
  obtain ⟨e, h1, h2⟩ := L2.Paired.get' D.en h
  exact ⟨e, by rw [Array.getElem?_toList] at h1; exact h1, h2⟩
theorem SetD.place (D : SetD prog w Pv s.heap a o es ep t m kss) {i j : Nat} (h : t.place[i]? = some j) : ∃ e, es[i]? = some e := by
  have hi : i < t.place.size := by
    rcases Nat.lt_or_ge i t.place.size with z | z
    · exact z
    · rw [Array.getElem?_eq_none z] at h; cases h
  rw [D.si.tab.size] at hi
  exact ⟨es[i], by simp [hi]⟩
theorem search_wp (D : SetD prog w Pv s.heap a o es ep t m kss) {b : Addr} {ks : List Int} (tb : TupK s.heap (.ref b) ks) (hu : A.units < cLine) {adding : Bool} {Q : SetFound → Shared → Prop}
    (hin : ∀ i : Nat, kss[i]? = some ks → Q (.there (if adding = true then none else some i)) s)
    (hout : ks ∉ kss → ∀ j, ¬ Fl t j → j ≤ m → Rch (Fl t) m (hashT prog w ks) j → Q (.free j false) s) {K : Nat} (hK : ¬ Fl t (stp m (hashT prog w ks) K).j) (hK2 : K ≤ 10 * (m + 12)) :
    ∀ (fu k : Nat) (stand : Option Probe), stand.getD (t.probeStart (hashT prog w ks)) = stp m (hashT prog w ks) k → k ≤ K → K - k < fu →
      (∀ l, l < k → ∃ i : Nat, t.place[i]? = some (stp m (hashT prog w ks) l).j ∧ kss[i]? ≠ some ks) → wpAny (model prog w) A (setSearchFrom a (.ref b) (hashT prog w ks) adding fu stand) Q E s
  | 0, k, stand, _, _, z, _ => absurd z (by omega)
  | fu + 1, k, stand, hst, hk, hf, hl => by
    have T := D.si.tab
    unfold setSearchFrom
    refine wpAny_bind (wpAny_setState_of D.ho D.hd D.fits ?_)
    dsimp only
    have gw : t.gaveWay = false := by unfold SetTable.gaveWay; rw [T.mask]; exact D.mok.odd
    rw [gw]
    simp only [Bool.false_eq_true, if_false]
    rw [hst]
    obtain ⟨x, x1, x2, x3, x4⟩ := T.probe_go (hashAt := fun i => (es[i]?.map (·.1)).getD 0) hK (10 * turns t.mask) k hk (by rw [T.mask]; unfold turns; omega)
    -- up to x none is it
    have before : ∀ l, l < x → ∃ i : Nat, t.place[i]? = some (stp m (hashT prog w ks) l).j ∧ kss[i]? ≠ some ks := fun l hlx => by
      by_cases c : l < k
      · exact hl l c
      · obtain ⟨i, e1, e2⟩ := x3 l (by omega) hlx
        refine ⟨i, e1, fun z => e2 ?_⟩
        obtain ⟨e, h1, _, h3⟩ := D.ent' z
        simp only [h1, Option.map_some, Option.getD_some, h3]
    rcases x4 with ⟨n1, n2⟩ | ⟨i, e1, e2, e3⟩
    · have pe : t.probe (fun i => (es[i]?.map (·.1)).getD 0) (hashT prog w ks) (stp m (hashT prog w ks) k) = some (.empty (stp m (hashT prog w ks) x).j none) := n2
      have no : ks ∉ kss := fun hm => by
        obtain ⟨i, ei⟩ := List.getElem?_of_mem hm
        obtain ⟨e, h1, _, h3⟩ := D.ent' ei
        have hi : i < t.place.size := by
          rw [T.size]
          rcases Nat.lt_or_ge i es.size with z | z
          · exact z
          · rw [Array.getElem?_eq_none z] at h1; cases h1
        obtain ⟨k', ek, ak⟩ := D.si.rch (t.place[i]) e ⟨i, by simp [hi], h1⟩
        rw [h3] at ek ak
        rcases Nat.lt_trichotomy k' x with z | z | z
        · obtain ⟨i', p1, p2⟩ := before k' z
          rw [ek] at p1
          have : i' = i := rise_inj T.rise p1 (by simp [hi])
          subst this
          exact p2 ei
        · subst z
          exact n1 ⟨i, by rw [ek]; simp [hi]⟩
        · exact n1 (ak x z)
      have fin := hout no _ n1 (stp_le _ _ _) ⟨x, rfl, fun l hlx => let ⟨i, p, _⟩ := before l hlx; ⟨i, p⟩⟩
      generalize hp : t.probe _ (hashT prog w ks) (stp m (hashT prog w ks) k) = r
      have er := hp.symm.trans pe
      subst er
      exact wpAny_pure fin
    · have pe : t.probe (fun i => (es[i]?.map (·.1)).getD 0) (hashT prog w ks) (stp m (hashT prog w ks) k) = some (.candidate (stp m (hashT prog w ks) x).j i (stp m (hashT prog w ks) (x + 1))) := e3
      generalize hp : t.probe _ (hashT prog w ks) (stp m (hashT prog w ks) k) = r
      have er := hp.symm.trans pe
      subst er
      dsimp only
      obtain ⟨⟨h', y⟩, ee⟩ := D.place e1
      obtain ⟨ks', ek, ty, hh⟩ := D.ent ee
      obtain ⟨c, oc, xs, nn, ey, hoc⟩ := id ty
      have ey : y = .ref c := ey
      subst ey
      have ty : TupK s.heap (.ref c) ks' := ty
      have hstored : ∀ y ∈ List.map (fun x => x.snd) (Array.filter (fun x => x.fst == hashT prog w ks) es).toList, ∃ c ks', y = .ref c ∧ TupK s.heap (.ref c) ks' := fun y hy => by
        obtain ⟨e, he, rfl⟩ := List.mem_map.mp hy
        have he' : e ∈ es.toList := by
          rw [Array.toList_filter] at he
          exact (List.mem_filter.mp he).1
        obtain ⟨q, eq⟩ := List.getElem?_of_mem he'
        rw [Array.getElem?_toList] at eq
        obtain ⟨ks2, _, t2, _⟩ := D.ent eq
        obtain ⟨c2, _, _, _, e2, _⟩ := id t2
        exact ⟨c2, ks2, e2, by rw [← e2]; exact t2⟩
      have sm : t.sameMemory t.moves t.mask = some true := by unfold SetTable.sameMemory; rw [if_pos (beq_self_eq_true _)]
      -- once it stands that nobody sees it
      have core : wpAny (model prog w) A (do
          let equal ← holding [Value.ref c] (eqBool (Value.ref c) (Value.ref b))
          let __x ← setState a
          if (adding && equal) = true then pure (SetFound.there none)
            else
              match __x.2.snd.sameMemory t.moves t.mask with
              | some sme =>
                match if sme = true then __x.2.snd.slot (stp m (hashT prog w ks) x).j else Slot.empty with
                | Slot.live i' =>
                  match __x.fst[i']? with
                  | some (fst, y') => do
                    let __do_lift ← isSame y' (Value.ref c)
                    let still ← pure (if __do_lift = true then some i' else none)
                    match still with
                      | none => do
                        rule "set.search.anew"
                        setSearchFrom a (Value.ref b) (hashT prog w ks) adding fu none
                      | some i' =>
                        if equal = true then pure (SetFound.there (some i'))
                        else setSearchFrom a (Value.ref b) (hashT prog w ks) adding fu (some (stp m (hashT prog w ks) (x + 1)))
                  | none => do
                    let still ← pure none
                    match still with
                      | none => do
                        rule "set.search.anew"
                        setSearchFrom a (Value.ref b) (hashT prog w ks) adding fu none
                      | some i' =>
                        if equal = true then pure (SetFound.there (some i'))
                        else setSearchFrom a (Value.ref b) (hashT prog w ks) adding fu (some (stp m (hashT prog w ks) (x + 1)))
                | x_1 => do
                  let still ← pure none
                  match still with
                    | none => do
                      rule "set.search.anew"
                      setSearchFrom a (Value.ref b) (hashT prog w ks) adding fu none
                    | some i' =>
                      if equal = true then pure (SetFound.there (some i'))
                      else setSearchFrom a (Value.ref b) (hashT prog w ks) adding fu (some (stp m (hashT prog w ks) (x + 1)))
              | x_1 => unsupported "set.changed-during-lookup:is-the-new-block-at-the-old-address") Q E s := by
        refine wpAny_bind (wpAny_holding (wpAny_eqBool_tuple hu (ty.key (prog := prog) (w := w)) (tb.key (prog := prog) (w := w)) ?_))
        refine wpAny_bind (wpAny_setState_of D.ho D.hd D.fits ?_)
        dsimp only
        have go : ∀ eq : Bool, (eq = true → kss[i]? = some ks) → (eq = false → kss[i]? ≠ some ks) → wpAny (model prog w) A (do
            let __do_lift ← isSame (Value.ref c) (Value.ref c)
            let still ← pure (if __do_lift = true then some i else none)
            match still with
              | none => do
                rule "set.search.anew"
                setSearchFrom a (Value.ref b) (hashT prog w ks) adding fu none
              | some i' =>
                if eq = true then pure (SetFound.there (some i'))
                else setSearchFrom a (Value.ref b) (hashT prog w ks) adding fu (some (stp m (hashT prog w ks) (x + 1)))) (fun r s' => adding = true ∧ eq = true ∨ Q r s') E s := fun eq q1 q2 => by
          refine wpAny_bind ?_
          unfold isSame
          dsimp only
          rw [if_pos (beq_self_eq_true _)]
          refine wpAny_pure (wpAny_bind (wpAny_pure ?_))
          simp only [if_true]
          cases eq with
          | true =>
            simp only [if_true]
            refine wpAny_pure ?_
            cases adding with
            | true => exact .inl (by simp)
            | false => exact .inr (by simpa using hin i (q1 rfl))
          | false =>
            simp only [Bool.false_eq_true, if_false]
            refine wpAny_mono (search_wp D tb hu hin hout hK hK2 fu (x + 1) _ rfl ?_ ?_ fun l hlx => ?_) (fun r s' q => .inr q) fun _ _ z => z
            · have : x ≠ K := fun z => hK (z ▸ ⟨i, e1⟩)
              omega
            · have : x ≠ K := fun z => hK (z ▸ ⟨i, e1⟩)
              omega
            · by_cases z : l = x
              · subst z; exact ⟨i, e1, q2 rfl⟩
              · exact before l (by omega)
        by_cases kk : ks' = ks
        · rw [decide_eq_true kk]
          cases ha : adding with
          | true =>
            simp only [Bool.and_self, if_true]
            refine wpAny_pure ?_
            have := hin i (by rw [ek, kk])
            rw [ha] at this
            simpa using this
          | false =>
            simp only [Bool.and_true, Bool.false_eq_true, if_false, sm, if_true, T.live e1, ee]
            refine wpAny_mono (by have := go true (fun _ => by rw [ek, kk]) (fun z => by cases z); rw [ha] at this; simpa using this) (fun r s' q => ?_) fun _ _ z => z
            exact q
        · rw [decide_eq_false kk]
          simp only [Bool.and_false, Bool.false_eq_true, if_false, sm, if_true, T.live e1, ee]
          refine wpAny_mono (by have := go false (fun z => by cases z) (fun _ z => kk (by rw [ek] at z; exact Option.some.inj z)); simpa using this) (fun r s' q => ?_) fun _ _ z => z
          exact q
      cases hled : t.led with
      | true =>
        simp only [Bool.not_true, Bool.false_eq_true, if_false, ee]
        exact core
      | false =>
        simp only [Bool.not_false, if_true]
        refine wpAny_bind (seen_no tb hstored ?_)
        simp only [Bool.false_eq_true, if_false, ee]
        exact core
end
end L2
set_option Elab.async false
set_option linter.all false
set_option maxRecDepth 100000
set_option maxHeartbeats 4000000
namespace L2
open PySem PySem.Spec PyProof.Rows PySem.W PySem.SetTable
def SetT (prog : Program) (w : World) (Pv : Value → Prop) (h : Heap) (a : Addr) (kss : List (List Int)) : Prop := ∃ o es ep t m, SetD prog w Pv h a o es ep t m kss
theorem EntK.kept {prog : Program} {w : World} {h h' : Heap} {e : Int × Value} {ks : List Int} (k : ∀ b o, h.get? b = some o → o.cls = .type "tuple" → h'.get? b = some o) (t : EntK prog w h e ks) : EntK prog w h' e ks := ⟨t.1.kept k, t.2⟩
theorem SetT.kept {prog : Program} {w : World} {Pv : Value → Prop} {h h' : Heap} {a : Addr} {kss : List (List Int)} (k : Keeps h h') (S : SetT prog w Pv h a kss) : SetT prog w Pv h' a kss := by
  obtain ⟨o, es, ep, t, m, D⟩ := S
  exact ⟨o, es, ep, t, m, k _ _ D.ho, D.ex, D.hd, D.pl, D.ld, D.mok, D.si, Paired.mapP D.en fun e ks t => t.kept fun b o e _ => k b o e, D.nd, D.own⟩
theorem ent_but {prog : Program} {w : World} {h h' : Heap} {a : Addr} {o : Obj} (ho : h.get? a = some o) (hc : o.cls = .type "set") (sb : Heap.SameBut a h h') {e : Int × Value} {ks : List Int} (t : EntK prog w h e ks) : EntK prog w h' e ks :=
  t.kept fun b o' e hcl => by
    have ne : b ≠ a := by
      rintro rfl
      rw [ho] at e
      cases e
      rw [hc] at hcl
      exact absurd hcl (by decide)
    rw [sb.2 b ne]; exact e
section
variable {prog : Program} {w : World} {A : Around} {E : Value → Shared → Prop} {s : Shared} {a : Addr} {o : Obj} {es : Array (Int × Value)} {ep : Nat} {t : SetTable} {m : Nat} {kss : List (List Int)}
theorem relay_eq (a : Addr) (wanted : Nat) : setRelay a wanted = (do
    let (es, _, t) ← setState a
    if SetTable.sizeAbove wanted > sizeLine then unsupported "set:memory"
    let (es, t) ← (do
      let some (t, order) := t.relaid (es.map (·.1)) wanted | unsupported "internal:set-table-without-room"
      let es' := order.filterMap (es[·]?)
      if es'.size != es.size then unsupported "internal:set-table-lost-an-element"
      pure (es', t))
    storeSet a es t) := rfl
theorem SetI.put {j : Nat} {x : Int × Value} (I : SetI t es m es.size) (hj : ¬ Fl t j) (hm : j ≤ m) (hr : Rch (Fl t) m x.1 j) : SetI (t.put j).1 (insertAt es (t.put j).2 x) m (es.size + 1) := by
  obtain ⟨T', e2, e3⟩ := I.tab.put hj hm
  have hb := (below_ok I.tab.rise j).2.2
  have hb2 : below t.place j ≤ es.size := by rw [← I.tab.size]; exact hb
  have up : ∀ q, Fl t q → Fl (t.put j).1 q := fun q ⟨i, e⟩ => by
    unfold Fl
    rw [e3]
    by_cases c : i < below t.place j
    · exact ⟨i, by rw [tins_get hb, if_pos c]; exact e⟩
    · exact ⟨i + 1, by rw [tins_get hb, if_neg (by omega), if_neg (by omega)]; exact e⟩
  refine ⟨T', by rw [e2, ins_size hb2], fun j' e' hA => ?_⟩
  rw [e3, e2] at hA
  rcases (ins_at hb hb2).mp hA with h | ⟨rfl, rfl⟩
  · exact (I.rch j' e' h).mono up
  · exact hr.mono up
theorem paired_ins {α β : Type} {R : α → β → Prop} : ∀ {xs : List α} {ys : List β} (p : Nat) {x : α} {y : β}, PySem.Paired R xs ys → R x y → PySem.Paired R (xs.take p ++ x :: xs.drop p) (ys.take p ++ y :: ys.drop p)
  | _, _, 0, x, y, h, r => .cons r h
  | _, _, p + 1, x, y, .nil, r => by simpa using PySem.Paired.cons r .nil
  | _, _, p + 1, x, y, .cons h t, r => .cons h (paired_ins p t r)
theorem ins_list {α : Type} {xs : Array α} {p : Nat} {x : α} (hp : p ≤ xs.size) : (insertAt xs p x).toList = xs.toList.take p ++ x :: xs.toList.drop p := by
  unfold insertAt
  simp [List.take_of_length_le]
theorem mem_ins {α : Type} {xs : List α} {p : Nat} {x y : α} : y ∈ xs.take p ++ x :: xs.drop p ↔ y = x ∨ y ∈ xs := by
  have : y ∈ xs ↔ y ∈ xs.take p ∨ y ∈ xs.drop p := by rw [← List.mem_append, List.take_append_drop]
  simp only [List.mem_append, List.mem_cons, this]
  constructor
  · rintro (h | h | h)
    · exact .inr (.inl h)
    · exact .inl h
    · exact .inr (.inr h)
  · rintro (h | h | h)
    · exact .inr (.inl h)
    · exact .inl h
    · exact .inr (.inr h)
theorem nodup_ins {α : Type} {xs : List α} {p : Nat} {x : α} (h : xs.Nodup) (hx : x ∉ xs) : (xs.take p ++ x :: xs.drop p).Nodup := by
  have e : (xs.take p ++ x :: xs.drop p).Perm (x :: xs) := by
    have := List.perm_middle (a := x) (l₁ := xs.take p) (l₂ := xs.drop p)
    rwa [List.take_append_drop] at this
  exact e.nodup_iff.mpr (List.nodup_cons.mpr ⟨hx, h⟩)
end
end L2
set_option Elab.async false
set_option linter.all false
set_option maxRecDepth 100000
set_option maxHeartbeats 4000000
namespace L2
open PySem PySem.Spec PyProof.Rows PySem.W PySem.SetTable
theorem paired_choice {α β : Type} {R : α → β → Prop} : ∀ {l : List α}, (∀ e ∈ l, ∃ k, R e k) → ∃ ks, PySem.Paired R l ks
  | [], _ => ⟨[], .nil⟩
  | e :: l, h => by
    obtain ⟨k, hk⟩ := h e List.mem_cons_self
    obtain ⟨ks, hks⟩ := paired_choice (fun x hx => h x (List.mem_cons_of_mem _ hx))
    exact ⟨k :: ks, .cons hk hks⟩
section
variable {prog : Program} {w : World} {Pv : Value → Prop} {A : Around} {E : Value → Shared → Prop} {s : Shared} {a : Addr} {o : Obj} {es : Array (Int × Value)} {ep : Nat} {t : SetTable} {m : Nat} {kss : List (List Int)}
theorem EntK.inj {h : Heap} {e : Int × Value} {k k' : List Int} (h1 : EntK prog w h e k) (h2 : EntK prog w h e k') : k = k' := by
  obtain ⟨b, _, _, _, e1, _⟩ := id h1.1
  have t1 : TupK h (.ref b) k := e1 ▸ h1.1
  have t2 : TupK h (.ref b) k' := e1 ▸ h2.1
  exact (t1.key (prog := prog) (w := w)).inj (t2.key (prog := prog) (w := w))
theorem get_store (ho : s.heap.get? a = some o) (hd : o.data = .set es ep t) (es' : Array (Int × Value)) (t' : SetTable) : (s.heap.update a (Obj.putSet es' t')).get? a = some { o with data := .set es' (ep + 1) t' } := by
  have := Heap.get?_update_self (Obj.putSet es' t') ho (by rw [putSet_of es' t' hd]; rfl)
  rw [putSet_of es' t' hd] at this
  exact this
theorem relay_wp {m' n : Nat} {wanted : Nat} {Q : Unit → Shared → Prop} (ho : s.heap.get? a = some o) (ex : o.ExactSet) (hd : o.data = .set es ep t) (pl : t.plain = true) (le : t.led = !byText w) (hf : t.fits es.size = true) (en : PySem.Paired (EntK prog w s.heap) es.toList kss) (nd : kss.Nodup) (ow : ∀ e ∈ es.toList, Pv e.2)
    (hw : sizeAbove wanted = m' + 1) (mo : MaskOk m' es.size) (h : ∀ h' kss', Heap.SameBut a s.heap h' → SetT prog w Pv h' a kss' → (∀ k, k ∈ kss' ↔ k ∈ kss) → Q () { s with heap := h' }) : wpAny (model prog w) A (setRelay a wanted) Q E s := by
  rw [relay_eq]
  refine wpAny_bind (wpAny_setState_of ho hd hf ?_)
  dsimp only
  have hle := mo.le
  have m127 : m' ≤ 127 := by unfold MaskOk at mo; omega
  rw [if_neg (by rw [hw, sizeLine_eq]; omega)]
  obtain ⟨t', order, e1, e2, e3, e4, e5, e6, e7⟩ := laid_ok (m := m') (n := es.size) (fi := t.finger) (mv := t.movedTo (sizeAbove wanted - 1)) (ld := t.led) (pl := t.plain) mo.full (es := es) rfl (by omega)
  have er : t.relaid (es.map (·.1)) wanted = some (t', order) := by
    unfold SetTable.relaid
    rw [show sizeAbove wanted - 1 = m' by omega] at e1 ⊢
    exact e1
  rw [er]
  dsimp only
  have e4' : ((order.filterMap (es[·]?)).size != es.size) = false := by rw [e4]; simp
  rw [e4']
  simp only [Bool.false_eq_true, if_false, pure_bind]
  generalize order.filterMap (es[·]?) = es2 at *
  refine wpAny_storeSet_of ho hd ?_ (by rw [e4, sizeLine_eq]; omega)
  have sb : Heap.SameBut a s.heap (s.heap.update a (Obj.putSet es2 t')) := Heap.SameBut.update s.heap a _
  have old : ∀ e ∈ es2.toList, ∃ k, EntK prog w s.heap e k ∧ k ∈ kss := fun e he => by
    obtain ⟨i, ei⟩ := List.getElem?_of_mem ((e6 e).mp he)
    obtain ⟨k, k1, k2⟩ := L2.Paired.get en ei
    exact ⟨k, k2, List.mem_of_getElem? k1⟩
  obtain ⟨kss2, en2⟩ := paired_choice (R := EntK prog w s.heap) (l := es2.toList) fun e he => let ⟨k, k1, _⟩ := old e he; ⟨k, k1⟩
  refine h _ kss2 sb ⟨_, es2, ep + 1, t', m', get_store ho hd es2 t', ⟨ex.1, ex.2.1, ex.2.2⟩, rfl, by rw [e3]; exact pl, by rw [e2]; exact le, by rw [e4]; exact mo, by rw [e4]; exact e5, Paired.mapP en2 fun e ks tt => ent_but ho ex.1 sb tt, ?_, fun e he => ow e ((e6 e).mp he)⟩ fun k => ⟨fun hk => ?_, fun hk => ?_⟩
  · refine List.pairwise_iff_getElem.mpr fun i i' hi hi' hlt z => ?_
    obtain ⟨x, x1, x2⟩ := L2.Paired.get' en2 (List.getElem?_eq_getElem hi)
    obtain ⟨x', x1', x2'⟩ := L2.Paired.get' en2 (List.getElem?_eq_getElem hi')
    rw [Array.getElem?_toList] at x1 x1'
    have := e7 i i' x x' x1 x1' fun y y' ey ey' => by
      obtain ⟨k, k1, k2⟩ := L2.Paired.get en (show es.toList[y]? = some x by rw [Array.getElem?_toList]; exact ey)
      obtain ⟨k', k1', k2'⟩ := L2.Paired.get en (show es.toList[y']? = some x' by rw [Array.getElem?_toList]; exact ey')
      have q1 := k2.inj x2
      have q2 := k2'.inj x2'
      rw [q1] at k1
      rw [q2, ← z] at k1'
      have hy : y < kss.length := (List.getElem?_eq_some_iff.mp k1).1
      have hy' : y' < kss.length := (List.getElem?_eq_some_iff.mp k1').1
      have g1 := (List.getElem?_eq_some_iff.mp k1).2
      have g2 := (List.getElem?_eq_some_iff.mp k1').2
      exact (List.getElem_inj nd).mp (g1.trans g2.symm)
    omega
  · obtain ⟨i, ei⟩ := List.getElem?_of_mem hk
    obtain ⟨x, x1, x2⟩ := L2.Paired.get' en2 ei
    obtain ⟨k', k1, k2⟩ := old x (List.mem_of_getElem? x1)
    rw [x2.inj k1]; exact k2
  · obtain ⟨i, ei⟩ := List.getElem?_of_mem hk
    obtain ⟨x, x1, x2⟩ := L2.Paired.get' en ei
    have hx := (e6 x).mpr (List.mem_of_getElem? x1)
    obtain ⟨i2, ei2⟩ := List.getElem?_of_mem hx
    obtain ⟨k2, q1, q2⟩ := L2.Paired.get en2 ei2
    rw [x2.inj q2]
    exact List.mem_of_getElem? q1
theorem add_wp (S : SetT prog w Pv s.heap a kss) {b : Addr} {ks : List Int} (tb : TupK s.heap (.ref b) ks) (pb : Pv (.ref b)) (hu : A.units < cLine) (hn : kss.length < 76) {Q : Bool → Shared → Prop} (hin : ks ∈ kss → Q false s)
    (hout : ks ∉ kss → ∀ h' kss', Heap.SameBut a s.heap h' → SetT prog w Pv h' a kss' → (∀ k, k ∈ kss' ↔ k = ks ∨ k ∈ kss) → Q true { s with heap := h' }) : wpAny (model prog w) A (setAddHashed a (.ref b) (hashT prog w ks)) Q E s := by
  obtain ⟨o, es, ep, t, m, D⟩ := S
  have T := D.si.tab
  have hl := D.len
  have hle := D.mok.le
  obtain ⟨q, q1, q2⟩ := T.free (Nat.le_of_lt hle.1)
  obtain ⟨K, K1, K2⟩ := D.mok.full.walk (hashT prog w ks) q1
  unfold setAddHashed
  refine wpAny_holding ?_
  show wpAny (model prog w) A (setAddHashedIn a (.ref b) (hashT prog w ks) (99999 + 1)) Q E s
  unfold setAddHashedIn
  refine wpAny_bind (wpAny_setState_of D.ho D.hd D.fits ?_)
  dsimp only
  rw [if_neg (by simp [byScan, Value.scannable])]
  refine wpAny_bind ?_
  have m127 : m ≤ 127 := by have := D.mok; unfold MaskOk at this; omega
  refine search_wp D tb hu (adding := true) (fun i ei => ?_) (fun no j n1 n2 n3 => ?_) (K := K) (by rw [K2]; exact q2) K1 100000 0 none (by show t.probeStart _ = _; rw [start_eq, T.mask]) (Nat.zero_le _) (by omega) fun l z => absurd z (by omega)
  · simp only [if_true]
    exact wpAny_pure (hin (List.mem_of_getElem? ei))
  · dsimp only
    refine wpAny_bind (wpAny_setState_of D.ho D.hd D.fits ?_)
    dsimp only
    have I1 := D.si.put (x := (hashT prog w ks, Value.ref b)) n1 n2 n3
    obtain ⟨T1, p2, p3⟩ := T.put n1 n2
    have hb := (below_ok T.rise j).2.2
    have hb2 : below t.place j ≤ es.size := by rw [← T.size]; exact hb
    have pl1 : (t.put j).1.plain = true := D.pl
    have le1 : (t.put j).1.led = !byText w := D.ld
    rw [pl1]
    simp only [if_true]
    refine wpAny_bind (hbv_tup tb ?_)
    simp only [if_true]
    have sz1 : (insertAt es (t.put j).2 (hashT prog w ks, Value.ref b)).size = es.size + 1 := by rw [p2, ins_size hb2]
    have en1 : PySem.Paired (EntK prog w s.heap) (insertAt es (t.put j).2 (hashT prog w ks, Value.ref b)).toList (kss.take (below t.place j) ++ ks :: kss.drop (below t.place j)) := by
      rw [p2, ins_list hb2]
      exact paired_ins _ D.en ⟨tb, rfl⟩
    have ow1 : ∀ e ∈ (insertAt es (t.put j).2 (hashT prog w ks, Value.ref b)).toList, Pv e.2 := fun e he => by
      rw [p2, ins_list hb2] at he
      rcases mem_ins.mp he with rfl | he
      · exact pb
      · exact D.own e he
    have nd1 := nodup_ins (p := below t.place j) D.nd no
    have fits1 : (t.put j).1.fits (es.size + 1) = true := by
      unfold SetTable.fits SetTable.fill
      rw [T1.dm, T1.size, T1.mask]
      simp
      omega
    generalize (t.put j).1 = t1 at *
    generalize insertAt es (t.put j).2 (hashT prog w ks, Value.ref b) = es1 at *
    generalize hk1 : kss.take (below t.place j) ++ ks :: kss.drop (below t.place j) = kss1 at *
    have mem1 : ∀ k, k ∈ kss1 ↔ k = ks ∨ k ∈ kss := fun k => by rw [← hk1]; exact mem_ins
    refine wpAny_bind (wpAny_storeSet_of D.ho D.hd ?_ (by rw [sz1, sizeLine_eq]; omega))
    have sb : Heap.SameBut a s.heap (s.heap.update a (Obj.putSet es1 t1)) := Heap.SameBut.update s.heap a _
    have g1 := get_store D.ho D.hd es1 t1
    have en2 : PySem.Paired (EntK prog w (s.heap.update a (Obj.putSet es1 t1))) es1.toList kss1 := Paired.mapP en1 fun e k tt => ent_but D.ho D.ex.1 sb tt
    generalize s.heap.update a (Obj.putSet es1 t1) = h1 at *
    have tf : t1.tooFull = decide ((es.size + 1) * 5 ≥ m * 3) := by
      unfold SetTable.tooFull SetTable.fill
      rw [T1.dm, T1.size, T1.mask]
      rfl
    rw [tf]
    simp only [Bool.not_false, Bool.true_and, decide_eq_true_eq]
    by_cases c : (es.size + 1) * 5 ≥ m * 3
    · rw [if_pos c]
      have big : ∃ m', sizeAbove (grown (es.size + 1)) = m' + 1 ∧ MaskOk m' (es.size + 1) := by
        rcases D.mok with ⟨rfl, hlt⟩ | ⟨rfl, hlt⟩ | ⟨rfl, hlt⟩
        · have : es.size = 4 := by omega
          rw [this]
          exact ⟨31, by decide, .inr (.inl ⟨rfl, by omega⟩)⟩
        · have : es.size = 18 := by omega
          rw [this]
          exact ⟨127, by decide, .inr (.inr ⟨rfl, by omega⟩)⟩
        · omega
      obtain ⟨m', w1, w2⟩ := big
      refine wpAny_bind (relay_wp (s := { s with heap := h1 }) (n := 0) g1 ⟨D.ex.1, D.ex.2.1, D.ex.2.2⟩ rfl pl1 le1 (by rw [sz1]; exact fits1) en2 nd1 ow1 w1 (by rw [sz1]; exact w2) fun h' kss' sb' S' mem' => ?_)
      exact wpAny_pure (hout no h' kss' ⟨sb'.1.trans sb.1, fun b' ne => (sb'.2 b' ne).trans (sb.2 b' ne)⟩ S' fun k => (mem' k).trans (mem1 k))
    · rw [if_neg c]
      refine wpAny_pure (hout no h1 kss1 sb ⟨_, es1, ep + 1, t1, m, g1, ⟨D.ex.1, D.ex.2.1, D.ex.2.2⟩, rfl, pl1, le1, ?_, by rw [sz1]; exact I1, en2, nd1, ow1⟩ mem1)
      rw [sz1]
      rcases D.mok with ⟨rfl, hlt⟩ | ⟨rfl, hlt⟩ | ⟨rfl, hlt⟩
      · exact .inl ⟨rfl, by omega⟩
      · exact .inr (.inl ⟨rfl, by omega⟩)
      · exact .inr (.inr ⟨rfl, by omega⟩)
end
end L2
set_option Elab.async false
set_option linter.all false
set_option maxRecDepth 100000
set_option maxHeartbeats 4000000
namespace L2
open PySem PySem.Spec PyProof.Rows PySem.W PySem.SetTable
theorem paired_mem {α β : Type} {R R' : α → β → Prop} : ∀ {xs : List α} {ys : List β}, PySem.Paired R xs ys → (∀ x ∈ xs, ∀ y, R x y → R' x y) → PySem.Paired R' xs ys
  | _, _, .nil, _ => .nil
  | _, _, .cons r t, h => .cons (h _ List.mem_cons_self _ r) (paired_mem t fun x hx => h x (List.mem_cons_of_mem _ hx))
def In0 (h0 : Heap) (Pv : Value → Prop) : Prop := ∀ v, Pv v → ∃ b o, v = .ref b ∧ h0.get? b = some o
theorem TupK.move {h0 h h' : Heap} {b : Addr} {o : Obj} {ks : List Int} (e : h0.get? b = some o) (k0 : Keeps h0 h) (k1 : Keeps h0 h') (t : TupK h (.ref b) ks) : TupK h' (.ref b) ks := by
  obtain ⟨b', o', xs, n, eb, ho, r⟩ := t
  cases eb
  have := k0 _ _ e
  rw [this] at ho
  cases ho
  exact ⟨b, o, xs, n, rfl, k1 _ _ e, r⟩
theorem SetT.move {prog : Program} {w : World} {Pv : Value → Prop} {h0 h h' : Heap} {a : Addr} {kss : List (List Int)} (S : SetT prog w Pv h a kss) (hPv : In0 h0 Pv) (k0 : Keeps h0 h) (k1 : Keeps h0 h') (hs : ∀ o, h.get? a = some o → h'.get? a = some o) : SetT prog w Pv h' a kss := by
  obtain ⟨o, es, ep, t, m, D⟩ := S
  refine ⟨o, es, ep, t, m, hs _ D.ho, D.ex, D.hd, D.pl, D.ld, D.mok, D.si, paired_mem D.en fun e he ks ek => ?_, D.nd, D.own⟩
  obtain ⟨hh, v⟩ := e
  obtain ⟨b, o0, rfl, e0⟩ := hPv v (D.own _ he)
  exact ⟨TupK.move e0 k0 k1 ek.1, ek.2⟩
section
variable {prog : Program} {w : World} {Pv : Value → Prop} {A : Around} {R : Result → Shared → Prop} {I : Addr} {fp wr : List Addr} {n : Nat} {P : Nat → Value → Prop} {St : Nat → Shared → Prop}
theorem set_loop {h0 : Heap} {key : Nat → List Int} (W : WalksS prog w A.in1 I fp wr (fun a b => b = a) n P St) {S : Addr} (hSf : S ∉ fp) (hS0 : h0.get? S = none) (hwr : ∀ b ∈ wr, h0.get? b = none) (hPv : In0 h0 Pv)
    (hval : ∀ i v, P i v → TupK h0 v (key i) ∧ Pv v) (hn : ∀ ms : List (List Int), ms.Nodup → (∀ q ∈ ms, ∃ j, j < n ∧ key j = q) → ms.length < 76) (hu : A.units + 8 < cLine) :
    ∀ (k i : Nat) (s : Shared) (kss : List (List Int)), n - i = k → i ≤ n → St i s → Keeps h0 s.heap → SetT prog w Pv s.heap S kss → (∀ q, q ∈ kss ↔ ∃ j, j < i ∧ key j = q) → kss.length ≤ i →
      (∀ s' kss', Moved (S :: wr) (fun a b => b = a) s s' → Keeps h0 s'.heap → SetT prog w Pv s'.heap S kss' → (∀ q, q ∈ kss' ↔ ∃ j, j < n ∧ key j = q) → kss'.length ≤ n → R (.ok (.ret .none)) s') →
      codeAny (model prog w) A (.builtin "set.update.loop" ⟨[.ref S, .ref I], []⟩) R s := by
  have hSw : S ∉ wr := fun h => hSf (W.sub _ h)
  have hsub : ∀ b ∈ wr, b ∈ S :: wr := fun b hb => List.mem_cons_of_mem _ hb
  have kp : ∀ {s s' : Shared}, Keeps h0 s.heap → Moved wr (fun a b => b = a) s s' → Keeps h0 s'.heap := fun k0 hm b o e => hm.heap b o (fun z => by rw [hwr b z] at e; cases e) (k0 b o e)
  intro k
  induction k with
  | zero =>
    intro i s kss hk hi hst k0 hS hmem hlen hR
    have hin : i = n := by omega
    subst hin
    refine codeAny_builtin F.entry_set_update_loop ?_
    rw [Around.under_plainId F.plain_set_update_loop _]
    refine wpAny_bind (m := pyNext (.ref I)) (W.done s _ _ hst fun s' hm => ?_)
    refine wpAny_pure (hR s' kss (hm.mono hsub) (kp k0 hm) ?_ hmem hlen)
    exact hS.move hPv k0 (kp k0 hm) fun o e => hm.heap S o hSw e
  | succ k ih =>
    intro i s kss hk hi hst k0 hS hmem hlen hR
    have hlt : i < n := by omega
    refine codeAny_builtin F.entry_set_update_loop ?_
    rw [Around.under_plainId F.plain_set_update_loop _]
    refine wpAny_bind (m := pyNext (.ref I)) (W.item i s _ _ hlt hst fun v s' hP hst' hm => ?_)
    have k1 := kp k0 hm
    have hS' := hS.move hPv k0 k1 fun o e => hm.heap S o hSw e
    obtain ⟨tv, pv⟩ := hval i v hP
    obtain ⟨b, o0, rfl, e0⟩ := hPv v pv
    have tb : TupK s'.heap (.ref b) (key i) := TupK.move e0 (fun _ _ z => z) k1 tv
    refine wpAny_bind (m := holding [Value.ref b] (setAdd S (.ref b))) (wpAny_holding ?_)
    unfold setAdd
    refine wpAny_holding ?_
    have hu1 : A.in1.units < cLine := by show A.units + _ < _; omega
    refine wpAny_bind (wpAny_pyHash_tuple hu1 (tb.key (prog := prog) (w := w)) ?_)
    refine add_wp (s := { s' with toks := s'.toks + ((key i).length + 1) }) hS' tb pv hu1 (hn kss (let ⟨_, _, _, _, _, D⟩ := hS; D.nd) fun q hq => let ⟨j, hj, e⟩ := (hmem q).mp hq; ⟨j, Nat.lt_trans hj hlt, e⟩) (fun hin => ?_) fun hout h' kss' sb S2 mem2 => ?_
    · refine wpAny_pure ⟨plainId_quiet F.plain_set_update_loop _, ih (i + 1) _ kss (by omega) hlt (W.frame _ s' s'.heap _ hst' (by omega) fun b hb o e => e) k1 hS' (fun q => ?_) (by omega) fun s'' kss'' hm'' k2 S'' mem'' len'' => ?_⟩
      · rw [hmem q]
        constructor
        · rintro ⟨j, hj, e⟩; exact ⟨j, by omega, e⟩
        · rintro ⟨j, hj, e⟩
          by_cases c : j < i
          · exact ⟨j, c, e⟩
          · have : j = i := by omega
            subst this
            rw [e] at hin
            exact (hmem q).mp hin
      · exact hR s'' kss'' (Moved.trans W.gtrans ((hm.mono hsub).then_heap (h' := s'.heap) (tk := s'.toks + ((key i).length + 1)) (by omega) fun b o hb e => e) hm'') k2 S'' mem'' len''
    · have k1' : Keeps h0 h' := fun b o e => by
        rw [sb.2 b (fun z => by rw [z, hS0] at e; cases e)]
        exact k1 b o e
      have hl' : kss'.length ≤ i + 1 := by
        obtain ⟨_, _, _, _, _, D1⟩ := hS'
        obtain ⟨_, _, _, _, _, D2⟩ := S2
        have : kss'.length ≤ (key i :: kss).length := List.Nodup.length_le_of_subset D2.nd fun q hq => by
          rcases (mem2 q).mp hq with rfl | z
          · exact List.mem_cons_self
          · exact List.mem_cons_of_mem _ z
        simp only [List.length_cons] at this
        omega
      refine wpAny_pure ⟨plainId_quiet F.plain_set_update_loop _, ih (i + 1) _ kss' (by omega) hlt (W.frame _ s' h' (s'.toks + ((key i).length + 1)) hst' (by omega) fun b hb o e => ?_) k1' S2 (fun q => ?_) hl' fun s'' kss'' hm'' k2 S'' mem'' len'' => ?_⟩
      · rw [sb.2 b (fun h : b = S => hSf (by rw [← h]; exact hb))]; exact e
      · rw [mem2 q, hmem q]
        constructor
        · rintro (rfl | ⟨j, hj, e⟩)
          · exact ⟨i, by omega, rfl⟩
          · exact ⟨j, by omega, e⟩
        · rintro ⟨j, hj, e⟩
          by_cases c : j < i
          · exact .inr ⟨j, c, e⟩
          · have : j = i := by omega
            subst this
            exact .inl e.symm
      · refine hR s'' kss'' (Moved.trans W.gtrans ((hm.mono hsub).then_heap (h' := h') (tk := s'.toks + ((key i).length + 1)) (by omega) fun b o hb e => ?_) hm'') k2 S'' mem'' len''
        rw [sb.2 b (fun h : b = S => hb (by rw [h]; exact List.mem_cons_self))]; exact e
end
end L2
set_option Elab.async false
set_option linter.all false
set_option maxRecDepth 100000
set_option maxHeartbeats 4000000
namespace L2
open PySem PySem.Spec PyProof.Rows PySem.W PySem.SetTable
abbrev noneS (w : World) : Obj := { cls := .type "set", dict := none, data := .set #[] 0 (.fresh 0 0 (!byText w)) }
theorem rise_none : Rise #[] := fun i j a b => absurd b (by simp)
theorem noneS_ok {prog : Program} {w : World} {Pv : Value → Prop} {h : Heap} {a : Addr} (e : h.get? a = some (noneS w)) : SetT prog w Pv h a [] :=
  ⟨_, #[], 0, _, 7, e, ⟨rfl, rfl, rfl⟩, rfl, rfl, rfl, .inl ⟨rfl, by decide⟩, ⟨⟨rfl, rfl, rfl, rise_none, fun i j z => by simp [SetTable.fresh] at z⟩, rfl, fun j e ⟨i, z, _⟩ => by simp [SetTable.fresh] at z⟩, .nil, List.nodup_nil, fun e z => by simp at z⟩
section
variable {prog : Program} {w : World} {A : Around} {E : Value → Shared → Prop} {s : Shared}
theorem set_new1 (x : Value) {Q₁ : Value → Shared → Prop} (q : Q₁ (.ref s.heap.objs.size) { s with heap := s.heap.push (noneS w) }) :
    codeAny (model prog w) A (.call (.builtin "set.__new__") ⟨[.type "set", x], []⟩) (wants Q₁ E) s := by
  refine codeAny_of_tree ?_
  refine wpAny_bind (m := checkBuiltinCall "set.__new__" ⟨[.type "set", x], []⟩) (wpAny_of_eq (F.newCall_set_1 x) (wpAny_pure ⟨plainId_quiet F.plain_set_new _, codeAny_builtin F.entry_set_new ?_⟩))
  rw [Around.under_plainId F.plain_set_new _]
  unfold Builtin.«set.__new__» Builtin.Frozenset.newClass
  have hsub := sub_set_self
  obtain ⟨hp, g, d, tk, os⟩ := s
  dsimp only
  wp_walk
  refine wpAny_askSetting (wpAny_pure ?_)
  dsimp only
  simp only [newObj]
  refine wpAny_bind (wpAny_alloc (wpAny_pure (wpAny_pure q)))
theorem setT_listB {l : Addr} {vs : List Value} {kss : List (List Int)} {Q : Value → Shared → Prop} (hh : A.handled = none) (hl : s.heap.IsList l vs.toArray) (hT : PySem.Paired (TupK s.heap) vs kss) (hn : ∀ ms : List (List Int), ms.Nodup → (∀ q ∈ ms, q ∈ kss) → ms.length < 76) (hu : A.units + 64 < cLine)
    (h : ∀ h' tk ms, SetT prog w (· ∈ vs) h' s.heap.objs.size ms → (∀ q, q ∈ ms ↔ q ∈ kss) → Keeps s.heap h' → Q (.ref s.heap.objs.size) { s with heap := h', toks := tk }) : wpAny (model prog w) A (call (.type "set") [.ref l]) Q E s := by
  obtain ⟨c, tl, hmro⟩ := F.called_set.mro
  have made := F.called_set.made
  have sub := F.called_set.sub
  refine wpAny_call (codeAny_of_tree ?_)
  show wpAny (model prog w) _ (callAny (.type "set") _) _ _ s
  refine wpAny_pure ⟨Code.quiet_builtin _ (by decide +kernel), codeAny_builtin F.entry_type_call ?_⟩
  rw [Around.under_plain (weight_type_call_type "set" [Value.ref l] []) rfl]
  have t1 := F.called_set.notType
  have t2 := F.called_set.canCreate
  have t3 := F.typeCall_set_1 (Value.ref l)
  repeat (any_goals first | assumption | wp_step)
  refine codeAny_mono (set_new1 (prog := prog) (.ref l) (E := E) (Q₁ := fun v s₁ => v = .ref s.heap.objs.size ∧ s₁ = { s with heap := s.heap.push (noneS w) }) ⟨rfl, rfl⟩) fun r s₁ hr => ?_
  cases r with
  | error e => exact hr
  | ok fl =>
    cases fl with
    | next => exact hr.elim
    | brk => exact hr.elim
    | cont => exact hr.elim
    | ret v =>
      obtain ⟨rfl, rfl⟩ := hr
      have hS : (s.heap.push (noneS w)).get? s.heap.objs.size = some (noneS w) := Heap.get?_push_size _ rfl
      have hTy : Shared.TypeIs { s with heap := s.heap.push (noneS w) } (.ref s.heap.objs.size) "set" := ⟨_, hS, rfl⟩
      have i1 := F.called_set.init.lookup
      have i2 := F.called_set.init.bind (.ref s.heap.objs.size)
      repeat (any_goals first | assumption | wp_step)
      refine codeAny_mono (codeAny_call_builtin (R := wants (fun r s₂ => r = .none ∧ ∃ h' tk ms, s₂ = { s with heap := h', toks := tk } ∧ SetT prog w (· ∈ vs) h' s.heap.objs.size ms ∧ (∀ q, q ∈ ms ↔ q ∈ kss) ∧ Keeps s.heap h') E)
        F.called_set.init.plain F.entry_set_init (check_set_init_1 hTy ?_)) fun r₂ s₂ hr₂ => ?_
      · obtain ⟨ol, hol, hcl, nl, hdl⟩ := hl
        obtain ⟨ocls, odict, odata, oslots⟩ := ol
        simp only at hcl hdl
        subst hcl; subst hdl
        have hlt : l < s.heap.objs.size := Heap.lt_size hol
        have hol1 : (s.heap.push (noneS w)).get? l = some { cls := .type "list", dict := odict, data := .seq vs.toArray nl, slots := oslots } := Heap.get?_push_of_some _ hol
        have s1 := F.sub_list_set
        have s2 := F.sub_list_frozenset
        have s3 : (Value.type "list" == Value.type "dict") = false := by decide
        have hl1 : (s.heap.push (noneS w)).IsList l vs.toArray := ⟨_, hol1, rfl, nl, rfl⟩
        unfold Builtin.«set.__init__» noKeywords Builtin.Frozenset.updateFrom
        generalize hPI : pyIter = PI
        wp_walk
        subst hPI
        refine wpAny_pyIter_list hl1 (wpAny_bind (wpAny_runValue ?_))
        have sz1 : (s.heap.push (noneS w)).objs.size = s.heap.objs.size + 1 := Heap.size_push ..
        have kp2 : Keeps s.heap ((s.heap.push (noneS w)).push { cls := .type "list_iterator", data := .fields #[.ref l, .int 0 0] }) := fun b o e => Heap.get?_push_of_some _ (Heap.get?_push_of_some _ e)
        have no : ∀ b, s.heap.objs.size ≤ b → s.heap.get? b = none := fun b hb => by
          cases z : s.heap.get? b with
          | none => rfl
          | some o => exact absurd (Heap.lt_size z) (Nat.not_lt.mpr hb)
        have hin : In0 s.heap (· ∈ vs) := fun v hv => by
          obtain ⟨i, ei⟩ := List.getElem?_of_mem hv
          obtain ⟨ks, _, b, o, xs, n, e, ho, _⟩ := L2.Paired.get hT ei
          exact ⟨b, o, e, ho⟩
        refine set_loop (A := A.in1.in1) (key := fun i => kss.getD i []) (h0 := s.heap) (Pv := (· ∈ vs)) (Walks.list (by simp [hh]) _ l (by rw [sz1]; exact Nat.ne_of_lt (Nat.lt_succ_of_lt hlt)) vs.toArray).toS (S := s.heap.objs.size) ?_ (no _ (Nat.le_refl _)) (fun b hb => ?_) hin
          (fun i v hv => ?_) (fun ms nd hm => hn ms nd fun q hq => by
            obtain ⟨j, hj, e⟩ := hm q hq
            have hk : j < kss.length := by
              rw [← L2.Paired.len hT]
              simpa using hj
            rw [List.getD_eq_getElem?_getD, List.getElem?_eq_getElem hk] at e
            rw [← e]
            exact List.getElem_mem hk) (by show A.units + 1 + 1 + 8 < _; omega) (vs.toArray.size - 0) 0 _ [] rfl (Nat.zero_le _) ⟨⟨_, Heap.get?_push_size _ rfl, rfl, rfl⟩, hl1.push _⟩ kp2 (noneS_ok (Heap.get?_push_of_some _ hS)) (fun q => by simp) (Nat.zero_le _) fun s' ms hm k2 S2 mem2 _ => ?_
        · rw [sz1]; simp only [List.mem_cons, List.not_mem_nil, or_false, not_or]; exact ⟨Nat.ne_of_lt (Nat.lt_succ_self _), Nat.ne_of_gt hlt⟩
        · rw [List.mem_singleton.mp hb, sz1]; exact no _ (Nat.le_succ _)
        · have hv' : vs[i]? = some v := by simpa using hv
          have hi : i < vs.length := (List.getElem?_eq_some_iff.mp hv').1
          have := paired_getD hT i hi
          rw [List.getD_eq_getElem?_getD, hv'] at this
          exact ⟨this, List.mem_of_getElem? hv'⟩
        · obtain ⟨h', g', d', tk', os'⟩ := s'
          have e1 : g' = s.gens := hm.gens
          have e2 : d' = s.drawn := hm.drawn
          have e3 : os' = s.os := hm.os
          subst e1; subst e2; subst e3
          refine wpAny_pure ?_
          refine wpAny_pure ⟨rfl, h', tk', ms, rfl, S2, fun q => ?_, k2⟩
          rw [mem2 q, List.size_toArray, L2.Paired.len hT]
          constructor
          · rintro ⟨j, hj, e⟩
            rw [List.getD_eq_getElem?_getD, List.getElem?_eq_getElem hj] at e
            exact e ▸ List.getElem_mem hj
          · intro hq
            obtain ⟨j, hj, e⟩ := List.getElem_of_mem hq
            exact ⟨j, hj, by rw [List.getD_eq_getElem?_getD, List.getElem?_eq_getElem hj]; exact e⟩
      · cases r₂ with
        | error e => exact hr₂
        | ok fl₂ =>
          cases fl₂ with
          | next => exact hr₂.elim
          | brk => exact hr₂.elim
          | cont => exact hr₂.elim
          | ret r =>
            obtain ⟨rfl, h', tk, ms, rfl, q1, q2, q3⟩ := hr₂
            repeat (any_goals first | assumption | wp_step)
            exact h _ _ _ q1 q2 q3
theorem nodup_lenB {α : Type} [DecidableEq α] : ∀ {ms kss : List α}, ms.Nodup → (∀ q ∈ ms, q ∈ kss) → ms.length ≤ kss.length
  | [], _, _, _ => Nat.zero_le _
  | a :: ms, kss, hn, h => by
    have ha := h a List.mem_cons_self
    have h1 := nodup_lenB (ms := ms) (kss := kss.erase a) (List.nodup_cons.mp hn).2 (fun q hq => by
      have hne : q ≠ a := fun z => (List.nodup_cons.mp hn).1 (z ▸ hq)
      exact (List.mem_erase_of_ne hne).mpr (h q (List.mem_cons_of_mem _ hq)))
    rw [List.length_erase_of_mem ha] at h1
    have := List.length_pos_of_mem ha
    simp only [List.length_cons]
    omega
end
end L2
set_option Elab.async false
set_option linter.all false
set_option maxRecDepth 100000
set_option maxHeartbeats 4000000
namespace L2
open PySem PySem.Spec PyProof.Rows PySem.W PySem.SetTable
theorem slot_si_next : Slot "set_iterator" "__next__" "set_iterator.__next__" :=
  .of (owner := "set_iterator") (n := "__next__") (by rw [typeLookup_type, builtinLookup_eq_fast]; kernel_rfl) (by decide +kernel) (by decide +kernel) (by decide +kernel) (by first | exact .inl (by decide +kernel) | exact .inr (by decide +kernel)) (by rw [isSubtype_type]; kernel_rfl)
theorem slot_si_iter : Slot "set_iterator" "__iter__" "set_iterator.__iter__" :=
  .of (owner := "set_iterator") (n := "__iter__") (by rw [typeLookup_type, builtinLookup_eq_fast]; kernel_rfl) (by decide +kernel) (by decide +kernel) (by decide +kernel) (by first | exact .inl (by decide +kernel) | exact .inr (by decide +kernel)) (by rw [isSubtype_type]; kernel_rfl)
theorem entry_si_next : entryFor table "set_iterator.__next__" = some Builtin.«set_iterator.__next__» := entryFor_of_fast (by kernel_rfl)
theorem entry_si_iter : entryFor table "set_iterator.__iter__" = some Builtin.«dict_keyiterator.__iter__» := entryFor_alias (id' := "dict_keyiterator.__iter__") (by kernel_rfl) rfl (by decide +kernel) (by kernel_rfl)
theorem args_si_next (a : Value) : argsOk "set_iterator.__next__" ⟨[a], []⟩ := by unfold argsOk; kernel_rfl
theorem args_si_iter (a : Value) : argsOk "set_iterator.__iter__" ⟨[a], []⟩ := by unfold argsOk; kernel_rfl
theorem entry_s_iter : entryFor table "set.__iter__" = some Builtin.«frozenset.__iter__» := entryFor_alias (id' := "frozenset.__iter__") (by kernel_rfl) rfl (by decide +kernel) (by kernel_rfl)
theorem erase_perm {α : Type} {l : List α} {i : Nat} (h : i < l.length) : (l[i] :: l.eraseIdx i).Perm l := by
  rw [List.eraseIdx_eq_take_drop_succ]
  have e : l = l.take i ++ l[i] :: l.drop (i + 1) := by rw [← List.drop_eq_getElem_cons h, List.take_append_drop]
  exact List.perm_middle.symm.trans (List.Perm.of_eq e.symm)
theorem pick_go {α : Type} (next : Nat → Nat) : ∀ (fu k : Nat) (left : List α) (out : Array α), left.length = fu → (pickOrder.go next fu k left out).toList.Perm (out.toList ++ left)
  | 0, k, left, out, h => by
    cases List.length_eq_zero_iff.mp h
    simp [pickOrder.go]
  | fu + 1, k, left, out, h => by
    unfold pickOrder.go
    have hlt : next k % left.length < left.length := Nat.mod_lt _ (by omega)
    simp only [List.getElem?_eq_getElem hlt]
    have ih := pick_go next fu (k + 1) (left.eraseIdx (next k % left.length)) (out.push left[next k % left.length]) (by rw [List.length_eraseIdx_of_lt hlt]; omega)
    refine ih.trans ?_
    rw [Array.toList_push, List.append_assoc]
    exact List.Perm.append_left _ (erase_perm hlt)
def ordS (w : World) (S : Addr) (ep : Nat) (es : Array (Int × Value)) : Array (Int × Value) := if byText w = true then pickOrder (w.params.setOrder S ep) es else es
theorem ordS_perm (w : World) (S : Addr) (ep : Nat) (es : Array (Int × Value)) : (ordS w S ep es).toList.Perm es.toList := by
  unfold ordS
  split
  · have := pick_go (w.params.setOrder S ep) es.size 0 es.toList #[] (by simp)
    have this : (pickOrder.go (w.params.setOrder S ep) es.size 0 es.toList #[]).toList.Perm es.toList := by simpa using this
    exact this
  · exact List.Perm.refl _
theorem ordS_size (w : World) (S : Addr) (ep : Nat) (es : Array (Int × Value)) : (ordS w S ep es).size = es.size := by
  have := (ordS_perm w S ep es).length_eq
  simpa using this
theorem paired_perm {α β : Type} {R : α → β → Prop} {xs xs' : List α} (p : xs.Perm xs') : ∀ {ys : List β}, PySem.Paired R xs ys → ∃ ys', PySem.Paired R xs' ys' ∧ ys.Perm ys' := by
  induction p with
  | nil => intro ys h; exact ⟨ys, h, List.Perm.refl _⟩
  | cons x _ ih =>
    intro ys h
    cases h with
    | cons r t =>
      obtain ⟨zs, h1, h2⟩ := ih t
      exact ⟨_, .cons r h1, h2.cons _⟩
  | swap x y l =>
    intro ys h
    cases h with
    | cons r t =>
      cases t with
      | cons r' t' => exact ⟨_, .cons r' (.cons r t'), List.Perm.swap ..⟩
  | trans _ _ ih1 ih2 =>
    intro ys h
    obtain ⟨y1, a1, b1⟩ := ih1 h
    obtain ⟨y2, a2, b2⟩ := ih2 a1
    exact ⟨y2, a2, b1.trans b2⟩
section
variable {prog : Program} {w : World} {Pv : Value → Prop} {A : Around} {E : Value → Shared → Prop} {s : Shared} {a : Addr} {o : Obj} {es : Array (Int × Value)} {ep : Nat} {t : SetTable} {m : Nat} {kss : List (List Int)}
structure SetB (w : World) (h : Heap) (a : Addr) (o : Obj) (es : Array (Int × Value)) (ep : Nat) (t : SetTable) (m : Nat) : Prop where
  ho : h.get? a = some o
  ex : o.ExactSet
  hd : o.data = .set es ep t
  fits : t.fits es.size = true
  pl : t.plain = true
  ld : t.led = !byText w
  tab : Tab t m es.size
theorem SetD.toB (D : SetD prog w Pv s.heap a o es ep t m kss) : SetB w s.heap a o es ep t m := ⟨D.ho, D.ex, D.hd, D.fits, D.pl, D.ld, D.si.tab⟩
theorem SetB.at {h h' : Heap} (B : SetB w h a o es ep t m) (k : h.get? a = some o → h'.get? a = some o) : SetB w h' a o es ep t m := ⟨k B.ho, B.ex, B.hd, B.fits, B.pl, B.ld, B.tab⟩
theorem walk_wp (D : SetB w s.heap a o es ep t m) {Q : Array (Int × Value) → Shared → Prop} (q : Q (ordS w a ep es) s) : wpAny (model prog w) A (setWalk a) Q E s := by
  unfold setWalk setsByText
  refine wpAny_bind (wpAny_setState_of D.ho D.hd D.fits ?_)
  dsimp only
  refine wpAny_bind (wpAny_bind (wpAny_askSetting (wpAny_pure ?_)))
  show wpAny _ _ (if byText w = true then _ else _) _ _ _
  cases hb : byText w with
  | true =>
    rw [if_pos rfl]
    refine wpAny_bind (wpAny_askSetting (wpAny_pure ?_))
    unfold ordS at q
    rw [if_pos hb] at q
    exact q
  | false =>
    unfold ordS at q
    rw [if_neg (by rw [hb]; decide)] at q
    have hled : t.led = true := by rw [D.ld, hb]; rfl
    rw [if_neg (by decide)]
    show wpAny _ _ (if (!t.plain && decide (es.size > 1)) = true then _ else _) _ _ _
    rw [if_neg (by rw [D.pl]; simp)]
    refine wpAny_bind (show wpAny _ _ (if (!t.led && decide (es.size > 1)) = true then _ else _) _ _ _ from ?_)
    rw [if_neg (by rw [hled]; simp)]
    exact wpAny_pure (wpAny_pure q)
theorem next_wp (D : SetB w s.heap a o es ep t m) {slot i : Nat} (hb : byText w = false → below t.place slot = i) {Q : Option (Value × Nat) → Shared → Prop}
    (q : ∀ nx, (byText w = false → i < es.size → below t.place nx = i + 1) → Q (((ordS w a ep es)[i]?).map fun e => (e.2, nx)) s) : wpAny (model prog w) A (setNext a slot i ep) Q E s := by
  unfold setNext setsByText
  refine wpAny_bind (wpAny_setState_of D.ho D.hd D.fits ?_)
  dsimp only
  refine wpAny_bind (wpAny_bind (wpAny_askSetting (wpAny_pure ?_)))
  show wpAny _ _ (if byText w = true then _ else _) _ _ _
  cases hb' : byText w with
  | true =>
    rw [if_pos rfl, if_neg (by simp)]
    refine wpAny_bind (walk_wp D (wpAny_pure (q slot fun z => ?_)))
    rw [hb'] at z; cases z
  | false =>
    have hled : t.led = true := by rw [D.ld, hb']; rfl
    rw [if_neg (by decide)]
    show wpAny _ _ (if (!t.plain && decide (es.size > 1)) = true then _ else _) _ _ _
    rw [if_neg (by rw [D.pl]; simp)]
    refine wpAny_bind (show wpAny _ _ (if (!t.led && !es.isEmpty) = true then _ else _) _ _ _ from ?_)
    rw [if_neg (by rw [hled]; simp)]
    refine wpAny_pure ?_
    rw [hb hb']
    have T := D.tab
    have eo : ordS w a ep es = es := by unfold ordS; rw [if_neg (by rw [hb']; decide)]
    rw [eo] at q
    refine wpAny_pure ?_
    by_cases hi : i < es.size
    · have hp : t.place[i]? = some (t.place.getD i 0) := getD_some (by rw [T.size]; exact hi)
      have he : es[i]? = some es[i] := by simp [hi]
      have nx := q (t.place.getD i 0 + 1) fun _ _ => by
        obtain ⟨b1, b2, b3⟩ := below_ok T.rise (t.place.getD i 0 + 1)
        rw [T.size] at b2 b3
        rcases Nat.lt_trichotomy (below t.place (t.place.getD i 0 + 1)) (i + 1) with z | z | z
        · have := b2 i (by omega) hi
          omega
        · exact z
        · have c := b1 (i + 1) z
          have d := T.rise i (i + 1) (by omega) (by rw [T.size]; omega)
          omega
      rw [he] at nx
      rw [hp, he]
      exact nx
    · have he : es[i]? = none := by simp; omega
      have nx := q 0 fun _ z => absurd z hi
      rw [he] at nx
      rw [he]
      exact nx
end
def SIt (h : Heap) (I S : Addr) (slot i n ep : Nat) : Prop := ∃ o, h.get? I = some o ∧ o.cls = .type "set_iterator" ∧ o.data = .fields #[.int slot 0, .int i 0, .ref S, .int n 0, .int ep 0]
theorem SIt.typeIs {s : Shared} {I S : Addr} {slot i n ep : Nat} (h : SIt s.heap I S slot i n ep) : s.TypeIs (.ref I) "set_iterator" := let ⟨o, ho, hc, _⟩ := h; ⟨o, ho, hc⟩
section
variable {prog : Program} {w : World} {Pv : Value → Prop} {A : Around} {E : Value → Shared → Prop} {s : Shared} {S I : Addr} {o : Obj} {es : Array (Int × Value)} {ep : Nat} {t : SetTable} {m : Nat} {kss : List (List Int)}
structure StS (w : World) (h : Heap) (I S : Addr) (o : Obj) (es : Array (Int × Value)) (ep : Nat) (t : SetTable) (m i : Nat) : Prop where
  it : ∃ slot, SIt h I S slot i es.size ep ∧ (byText w = false → i ≤ es.size → below t.place slot = i)
  st : SetB w h S o es ep t m
theorem item_wp {i : Nat} (hI : I ≠ S) (st : StS w s.heap I S o es ep t m i) (hi : i ≤ es.size) {Q : Option Value → Shared → Prop}
    (hit : ∀ e h', (ordS w S ep es)[i]? = some e → StS w h' I S o es ep t m (i + 1) → (∀ b ob, b ≠ I → s.heap.get? b = some ob → h'.get? b = some ob) → Q (some e.2) { s with heap := h' })
    (hend : i = es.size → A.handled = none ∧ ∀ h', (∀ b ob, b ≠ I → s.heap.get? b = some ob → h'.get? b = some ob) → Q none { s with heap := h' }) : wpAny (model prog w) A (pyNext (.ref I)) Q E s := by
  obtain ⟨⟨slot, hs, hb⟩, B⟩ := st
  obtain ⟨oi, hoi, hci, hdi⟩ := id hs
  unfold pyNext
  refine wpAny_bind (wpAny_attempt (wpAny_callSpecial?_slot (name := Str.ofString "__next__") hs.typeIs slot_si_next (wpAny_call_entry slot_si_next hs.typeIs entry_si_next ?_ (args_si_next _))))
  unfold Builtin.«set_iterator.__next__»
  refine wpAny_bind (m := slotArgs "__next__" 0 ⟨[.ref I], []⟩) (wpAny_pure ?_)
  dsimp only
  refine wpAny_bind (wpAny_fieldsOf hoi hdi ?_)
  dsimp only
  refine wpAny_bind (wpAny_setEntries_of B.ho B.hd B.fits ?_)
  rw [if_neg (by simp)]
  refine wpAny_bind ?_
  simp only [Int.toNat_natCast]
  refine next_wp B (fun z => hb z hi) fun nx hnx => ?_
  by_cases hlt : i < es.size
  · have hlt' : i < (ordS w S ep es).size := by rw [ordS_size]; exact hlt
    have eq : (ordS w S ep es)[i]? = some (ordS w S ep es)[i] := by simp [hlt']
    rw [eq]
    dsimp only [Option.map_some]
    refine wpAny_bind (wpAny_setField hoi hdi (by simp) ?_)
    have h1 := Heap.get?_update_self (Obj.mapFields (·.setIfInBounds 0 (rawInt nx))) hoi (Obj.isFreed_of_fields (Obj.data_mapFields hdi _))
    have d1 := Obj.data_mapFields hdi (·.setIfInBounds 0 (rawInt (nx : Int)))
    refine wpAny_bind (wpAny_setField h1 d1 (by simp) (wpAny_pure ⟨_, rfl, wpAny_pure ?_⟩))
    have h2 := Heap.get?_update_self (Obj.mapFields (·.setIfInBounds 1 (rawInt ((i : Int) + 1)))) h1 (Obj.isFreed_of_fields (Obj.data_mapFields d1 _))
    have kp : ∀ b ob, b ≠ I → s.heap.get? b = some ob → ((s.heap.update I (Obj.mapFields (·.setIfInBounds 0 (rawInt nx)))).update I (Obj.mapFields (·.setIfInBounds 1 (rawInt ((i : Int) + 1))))).get? b = some ob := fun b ob hb e =>
      (Heap.get?_update_other _ _ (Ne.symm hb)).trans ((Heap.get?_update_other _ _ (Ne.symm hb)).trans e)
    refine hit _ _ eq ⟨⟨nx, ⟨_, h2, ?_, ?_⟩, fun z _ => hnx z hlt⟩, B.at (kp S _ (Ne.symm hI))⟩ kp
    · rw [Obj.cls_mapFields, Obj.cls_mapFields]; exact hci
    · rw [Obj.data_mapFields d1]; simp [rawInt]
  · have he : i = es.size := by omega
    obtain ⟨hh, hq⟩ := hend he
    have eq : (ordS w S ep es)[i]? = none := by simp [ordS_size]; omega
    rw [eq]
    dsimp only [Option.map_none]
    refine wpAny_bind (wpAny_setField hoi hdi (by simp) ?_)
    refine wpAny_bind ?_
    simp only [newExc, newTuple]
    refine wpAny_bind (wpAny_newObj_type ?_ (by size_fits))
    refine wpAny_bind (m := firstArgMember _ _) (wpAny_of_eq (a := Value.none) (by first | rfl | (simp only [firstArgMember]; rfl)) ?_)
    refine wpAny_newObj_type ?_ (by size_fits)
    simp only [raiseNew]
    refine wpAny_bind (wpAny_handled ?_)
    rw [show A.in1.handled = none from hh]
    refine wpAny_bind (wpAny_pure (wpAny_throw ?_))
    refine wpAny_bind (wpAny_isInstance (T := "StopIteration") (b := true) ⟨_, Heap.get?_push_size _ rfl, rfl⟩ isSubtype_stop ?_)
    refine wpAny_pure (hq _ fun b ob hb e => ?_)
    exact Heap.get?_push_of_some _ (Heap.get?_push_of_some _ ((Heap.get?_update_other _ _ (Ne.symm hb)).trans e))
theorem walks_set (hh : A.handled = none) (hI : I ≠ S) : Walks prog w A I [I, S] [I] es.size (fun i v => ((ordS w S ep es)[i]?).map (·.2) = some v) (fun i h => StS w h I S o es ep t m i) where
  sub := fun b hb => by simp at hb; simp [hb]
  frame := fun i h h' st hk => by
    obtain ⟨⟨slot, ⟨oi, e1, e2⟩, hb⟩, B⟩ := st
    exact ⟨⟨slot, ⟨oi, hk I (by simp) _ e1, e2⟩, hb⟩, B.at (hk S (by simp) _)⟩
  item := fun i s Q E hi st hQ => item_wp hI st (by omega) (fun e h' eo st' kp => hQ e.2 h' s.toks (by rw [eo]; rfl) st' fun b ob hb => kp b ob fun z => hb (by simp [z])) fun z => absurd z (by omega)
  done := fun s Q E st hQ => item_wp hI st (Nat.le_refl _) (fun e h' eo _ _ => by
    have : (ordS w S ep es)[es.size]? = none := by simp [ordS_size]
    rw [this] at eo; cases eo) fun _ => ⟨hh, fun h' kp => hQ h' s.toks fun b ob hb => kp b ob fun z => hb (by simp [z])⟩
  self := fun i s Q E st hQ => by
    obtain ⟨⟨slot, hs, hb⟩, B⟩ := st
    refine wpAny_pyIter_slot hs.typeIs slot_si_iter (wpAny_call_entry slot_si_iter hs.typeIs entry_si_iter ?_ (args_si_iter _))
    show wpAny _ _ (ret (.ref I)) _ _ s
    exact wpAny_pure ⟨_, rfl, "set_iterator", _, hs.typeIs, slot_si_next.lookup, hQ⟩
theorem iter_set (B : SetB w s.heap S o es ep t m) {Q : Value → Shared → Prop} (q : ∀ h', Keeps s.heap h' → StS w h' s.heap.objs.size S o es ep t m 0 → h'.objs.size = s.heap.objs.size + 1 → Q (.ref s.heap.objs.size) { s with heap := h' }) : wpAny (model prog w) A (pyIter (.ref S)) Q E s := by
  have hT : s.TypeIs (.ref S) "set" := ⟨o, B.ho, B.ex.1⟩
  refine wpAny_pyIter_slot hT F.slot_set_iter (wpAny_call_entry F.slot_set_iter hT entry_s_iter ?_ (F.args_set_iter_1 _))
  unfold Builtin.«frozenset.__iter__» Builtin.Frozenset.slot0
  refine wpAny_bind (wpAny_bind (m := slotArgs "__iter__" 0 ⟨[.ref S], []⟩) (wpAny_pure (wpAny_pure ?_)))
  unfold Builtin.Frozenset.sizeOf setDrawn setsByText setEpoch
  refine wpAny_bind (wpAny_bind (wpAny_setEntries_of B.ho B.hd B.fits (wpAny_pure ?_)))
  refine wpAny_bind (wpAny_bind (wpAny_setState_of B.ho B.hd B.fits ?_))
  dsimp only
  refine wpAny_bind (wpAny_bind (wpAny_askSetting (wpAny_pure (wpAny_pure ?_))))
  rw [if_neg (by show ¬ ((!byText w && (!t.plain && decide (es.size > 1))) = true); rw [B.pl]; simp)]
  refine wpAny_bind (wpAny_pure ?_)
  refine wpAny_bind (wpAny_bind (wpAny_setState_of B.ho B.hd B.fits (wpAny_pure ?_)))
  refine wpAny_bind (wpAny_newObj_type (wpAny_pure ⟨_, rfl, "set_iterator", _, ⟨_, Heap.get?_push_size _ rfl, rfl⟩, slot_si_next.lookup, q _ (fun b ob e => Heap.get?_push_of_some _ e) ⟨⟨0, ⟨_, Heap.get?_push_size _ rfl, rfl, rfl⟩, fun _ _ => ?_⟩, B.at (Heap.get?_push_of_some _)⟩ (Heap.size_push ..)⟩))
  obtain ⟨b1, b2, b3⟩ := below_ok B.tab.rise 0
  rcases Nat.eq_zero_or_pos (below t.place 0) with z | z
  · exact z
  · exact absurd (b1 0 z) (by omega)
theorem collect_set (hh : A.handled = none) (B : SetB w s.heap S o es ep t m) (hz : es.size < 77) {Q : List Value → Shared → Prop} (hQ : ∀ h' tk, Keeps s.heap h' → Q ((ordS w S ep es).toList.map (·.2)) { s with heap := h', toks := tk }) : wpAny (model prog w) A (collect (.ref S)) Q E s := by
  have hlt : S < s.heap.objs.size := Heap.lt_size B.ho
  unfold collect
  refine wpAny_bind (wpAny_runValue (codeAny_builtin F.entry_proto_collect ?_))
  rw [Around.under_plainId F.plain_proto_collect _]
  refine wpAny_bind (m := newList []) (wpAny_newObj_type ?_)
  refine wpAny_pure ⟨plainId_quiet F.plain_list_iadd _, codeAny_builtin F.entry_list_iadd ?_⟩
  rw [Around.under_plainId F.plain_list_iadd _]
  have B1 : SetB w (s.heap.push { cls := .type "list", data := .seq ([] : List Value).toArray }) S o es ep t m := B.at (Heap.get?_push_of_some _)
  have hL : (s.heap.push { cls := .type "list", data := .seq ([] : List Value).toArray }).get? s.heap.objs.size = some { cls := .type "list", data := .seq ([] : List Value).toArray } := Heap.get?_push_size _ rfl
  have kp1 : Keeps s.heap (s.heap.push { cls := .type "list", data := .seq ([] : List Value).toArray }) := fun b ob e => Heap.get?_push_of_some _ e
  have sz1 : (s.heap.push { cls := .type "list", data := .seq ([] : List Value).toArray }).objs.size = s.heap.objs.size + 1 := Heap.size_push ..
  show wpAny (model prog w) A.in1 (Builtin.List.listExtendWith (.ref s.heap.objs.size) (.ref S) (.ref s.heap.objs.size)) _ _ { s with heap := s.heap.push { cls := .type "list", data := .seq ([] : List Value).toArray } }
  generalize s.heap.push { cls := .type "list", data := .seq ([] : List Value).toArray } = h1 at *
  have hT : Shared.TypeIs { s with heap := h1 } (.ref S) "set" := ⟨o, B1.ho, B1.ex.1⟩
  have ne : Builtin.List.listSameRef (.ref s.heap.objs.size) (.ref S) = false := by simp only [Builtin.List.listSameRef]; exact beq_false_of_ne (Nat.ne_of_gt hlt)
  unfold Builtin.List.listExtendWith
  refine wpAny_bind (wpAny_typeOf hT ?_)
  rw [if_neg (by rw [ne]; decide)]
  refine wpAny_bind (iter_set (s := { s with heap := h1 }) B1 fun h2 kp2 st2 sz2 => ?_)
  have hT2 : Shared.TypeIs { s with heap := h2 } (.ref S) "set" := ⟨o, st2.st.ho, B1.ex.1⟩
  have hL2 := kp2 _ _ hL
  refine wpAny_bind (wpAny_holding ?_)
  unfold Builtin.List.listLengthHint
  refine wpAny_bind (wpAny_specialOf hT2 F.slot_set_len.lookup ?_)
  generalize hid : ("set.__len__" : String) = id0
  wp_delta
  rw [show splitId id0 = some ("set", "__len__") from by subst hid; decide +kernel]
  subst hid
  refine wpAny_bind (wpAny_isInstance (b := true) hT2 sub_set_self ?_)
  refine wpAny_bind (m := typeOf (.ref S)) (wpAny_typeOf hT2 (wpAny_pure ?_))
  show wpAny (model prog w) A.in1 (rule "list.extend.makes-room" >>= fun _ => Builtin.List.listTouch (.ref s.heap.objs.size) >>= fun _ => again (.builtin "list.extend.loop" ⟨[.ref s.heap.objs.size, .ref h1.objs.size, .ref s.heap.objs.size], []⟩)) _ _ _
  refine wpAny_bind (wpAny_rule (wpAny_bind ?_))
  show wpAny (model prog w) A.in1 (updateSeq s.heap.objs.size (·.push .none) >>= fun _ => updateSeq s.heap.objs.size (·.pop)) _ _ _
  refine wpAny_bind (wpAny_updateSeq hL2 rfl ?_)
  have hL3 := Heap.get?_update_self (Obj.mapSeq (·.push Value.none)) hL2 rfl
  refine wpAny_updateSeq hL3 rfl ?_
  have hL4 := Heap.get?_update_self (Obj.mapSeq (·.pop)) hL3 rfl
  have oth : ∀ b ob, b ≠ s.heap.objs.size → h2.get? b = some ob → ((h2.update s.heap.objs.size (Obj.mapSeq (·.push Value.none))).update s.heap.objs.size (Obj.mapSeq (·.pop))).get? b = some ob :=
    fun b ob hb e => (Heap.get?_update_other _ _ (Ne.symm hb)).trans ((Heap.get?_update_other _ _ (Ne.symm hb)).trans e)
  have hI : h1.objs.size ≠ S := fun z => by
    have := Heap.lt_size B1.ho
    rw [← z] at this
    exact Nat.lt_irrefl _ this
  have hIL : h1.objs.size ≠ s.heap.objs.size := by rw [sz1]; exact Nat.ne_of_gt (Nat.lt_succ_self _)
  have W : WalksS prog w A.in1 h1.objs.size [h1.objs.size, S] [h1.objs.size] (fun a b => b = a) es.size (fun i v => ((ordS w S ep es)[i]?).map (·.2) = some v) (fun i s => StS w s.heap h1.objs.size S o es ep t m i) := (walks_set (A := A.in1) hh hI).toS
  refine wpAny_pure ⟨plainId_quiet F.plain_extend_loop _, codeAny_extend_loopS W (by rw [sizeLine_eq]; omega) s.heap.objs.size (fun hm => ?_) _ es.size 0 _ _ _ rfl (Nat.zero_le _) ?_ hL4 (ItemsOf.nil _) fun s' acc' c' hm hS' hacc => ?_⟩
  · rcases List.mem_cons.mp hm with z | z
    · exact hIL z.symm
    · exact Nat.ne_of_gt hlt (List.mem_singleton.mp z)
  · obtain ⟨⟨slot, ⟨oi, e1, e2⟩, hb⟩, B2⟩ := st2
    exact ⟨⟨slot, ⟨oi, oth _ _ hIL e1, e2⟩, hb⟩, B2.at (oth _ _ (Nat.ne_of_lt hlt))⟩
  · refine wpAny_bind (m := load s.heap.objs.size) (wpAny_load hS' ?_)
    have kp : Keeps s.heap s'.heap := fun b ob e => by
      have hb : b < s.heap.objs.size := Heap.lt_size e
      refine hm.heap b ob (fun z => ?_) (oth b ob (Nat.ne_of_lt hb) (kp2 _ _ (kp1 _ _ e)))
      rcases List.mem_cons.mp z with z | z
      · exact Nat.ne_of_lt hb z
      · rw [List.mem_singleton.mp z, sz1] at hb
        exact absurd hb (Nat.not_lt.mpr (Nat.le_succ _))
    have ea : acc'.toList = (ordS w S ep es).toList.map (·.2) := by
      apply List.ext_getElem?
      intro i
      rw [List.getElem?_map, Array.getElem?_toList, Array.getElem?_toList]
      cases z : acc'[i]? with
      | some v => exact (hacc.2 i v z).symm
      | none =>
        have : acc'.size ≤ i := by simpa using z
        rw [hacc.1, ← ordS_size w S ep es] at this
        rw [Array.getElem?_eq_none this]
        rfl
    have fin := hQ s'.heap s'.toks kp
    rw [← ea] at fin
    obtain ⟨h', g', d', tk', os'⟩ := s'
    have e1 : g' = s.gens := hm.gens
    have e2 : d' = s.drawn := hm.drawn
    have e3 : os' = s.os := hm.os
    subst e1; subst e2; subst e3
    exact wpAny_pure fin
end
end L2
set_option Elab.async false
set_option linter.all false
set_option maxRecDepth 100000
set_option maxHeartbeats 4000000
namespace L2
open PySem PySem.Spec PyProof.Rows PySem.W PySem.SetTable
section
variable {prog : Program} {w : World} {Pv Pv' : Value → Prop} {A : Around} {E : Value → Shared → Prop} {s : Shared} {S1 S2 : Addr} {k1 k2 : List (List Int)}
end
end L2
set_option Elab.async false
set_option linter.all false
set_option maxRecDepth 100000
set_option maxHeartbeats 4000000
namespace L2
open PySem PySem.Spec PyProof.Rows PySem.W PySem.SetTable
def TupN (K : PySem.W.Frag) (H : Hp) (v : V) (ks : List Int) : Prop := (∃ a, v = .ref a ∧ SqT K H a (ks.map V.int)) ∧ ks ≠ []
theorem TupN.same {K : PySem.W.Frag} {H H' : Hp} {v : V} {ks : List Int} (h : TupN K H v ks) (s : Same H H') : TupN K H' v ks := by
  obtain ⟨⟨a, e, q⟩, n⟩ := h
  exact ⟨⟨a, e, SqT.same s q⟩, n⟩
def Srt (ms : List (List Int)) : Prop := ms.Pairwise fun a b => ¬ b < a
def setP (P : Program) (w : World) (a : Addr) (bs : List (Addr × List Int)) (h : Heap) : Prop :=
  ∃ o es ep t m, h.get? a = some o ∧ o.ExactSet ∧ o.data = .set es ep t ∧ t.plain = true ∧ t.led = (!byText w) ∧ MaskOk m es.size ∧ SetI t es m es.size ∧ es.toList = bs.map (fun b => (hashT P w b.2, Value.ref b.1)) ∧ (bs.map (·.2)).Nodup
def setO (P : Program) (w : World) (a : Addr) (bs : List (Addr × List Int)) : HO := .ext (setP P w a bs)
def InS (K : PySem.W.Frag) (H : Hp) (bs : List (Addr × List Int)) : Prop := ∀ b ∈ bs, TupN K H (.ref b.1) b.2
theorem InS.same {K : PySem.W.Frag} {H H' : Hp} {bs : List (Addr × List Int)} (h : InS K H bs) (s : Same H H') : InS K H' bs := fun b hb => (h b hb).same s
theorem setP.stay {P : Program} {w : World} {a : Addr} {bs : List (Addr × List Int)} {h1 h2 : Heap} (p : setP P w a bs h1) (k : ∀ o, h1.get? a = some o → h2.get? a = some o) : setP P w a bs h2 := by
  obtain ⟨o, es, ep, t, m, ho, r⟩ := p
  exact ⟨o, es, ep, t, m, k o ho, r⟩
theorem setP.ok {P : Program} {w : World} {H : Hp} {a : Addr} {bs : List (Addr × List Int)} {h : Heap} (p : setP P w a bs h) : ObjOk P w H h a (setO P w a bs) := by
  refine ⟨p, ?_, fun h1 h2 p1 k => p1.stay k⟩
  obtain ⟨o, _, _, _, _, ho, _⟩ := p
  exact ⟨o, ho⟩
theorem ents_bs {P : Program} {w : World} {h : Heap} : ∀ {l : List (Int × Value)} {ms : List (List Int)}, PySem.Paired (EntK P w h) l ms → ∃ bs : List (Addr × List Int), l = bs.map (fun b => (hashT P w b.2, Value.ref b.1)) ∧ bs.map (·.2) = ms ∧ ∀ b ∈ bs, TupK h (.ref b.1) b.2
  | _, _, .nil => ⟨[], rfl, rfl, (fun _ z => nomatch z)⟩
  | _, _, .cons (a := e) (b := ks) r t => by
    obtain ⟨bs, e1, e2, e3⟩ := ents_bs t
    obtain ⟨hh, v⟩ := e
    obtain ⟨r1, r2⟩ := r
    obtain ⟨b, _, _, _, eb, _⟩ := id r1
    dsimp only at eb r1 r2
    subst eb
    refine ⟨(b, ks) :: bs, ?_, ?_, fun c hc => ?_⟩
    · rw [List.map_cons, ← e1, r2]
    · rw [List.map_cons, e2]
    · rcases List.mem_cons.mp hc with rfl | hc
      · exact r1
      · exact e3 c hc
theorem bs_ents {P : Program} {w : World} {h : Heap} : ∀ {bs : List (Addr × List Int)}, (∀ b ∈ bs, TupK h (.ref b.1) b.2) → PySem.Paired (EntK P w h) (bs.map (fun b => (hashT P w b.2, Value.ref b.1))) (bs.map (·.2))
  | [], _ => .nil
  | b :: bs, k => .cons ⟨k b List.mem_cons_self, rfl⟩ (bs_ents fun c hc => k c (List.mem_cons_of_mem _ hc))
section
variable {X : Cx} {pins : List (Addr × Obj)} {σ : St} {H : Hp} {s : Shared}
theorem intsT : ∀ {ns : List Int} {us : List Value}, Vals (ns.map V.int) us → IntsAre us ns
  | [], _, .nil => .nil
  | n :: ns, _, .cons ⟨t, e⟩ r => by
    subst e
    exact .cons n t (intsT r)
theorem Inv.tupK (I : Inv X pins σ H s) {a : Addr} {ks : List Int} (h : TupN X.K H (.ref a) ks) : TupK s.heap (.ref a) ks := by
  obtain ⟨⟨a', e, ha⟩, hn⟩ := h
  cases e
  obtain ⟨its, r, ⟨o, ho, hc, n, hd⟩, hz⟩ := I.tuple ha
  exact ⟨a, o, its.toArray, n, rfl, ho, hc, hd, by simpa using intsT r, hn⟩
theorem Inv.tupsK (I : Inv X pins σ H s) : ∀ {us : List V} {its : List Value} {kss : List (List Int)}, PySem.Paired (TupN X.K H) us kss → Vals us its → PySem.Paired (TupK s.heap) its kss
  | _, _, _, .nil, .nil => .nil
  | _, _, _, .cons h t, .cons r q => by
    obtain ⟨⟨a, e, ha⟩, hn⟩ := id h
    subst e
    cases r
    exact .cons (I.tupK h) (Inv.tupsK I t q)
theorem Inv.setT (I : Inv X pins σ H s) {a : Addr} {bs : List (Addr × List Int)} (h : H a = some (setO X.prog X.w a bs)) (hb : InS X.K H bs) : SetT X.prog X.w (fun v => ∃ b ∈ bs, v = Value.ref b.1) s.heap a (bs.map (·.2)) := by
  obtain ⟨⟨o, es, ep, t, m, ho, ex, hd, pl, ld, mo, si, ee, nd⟩, _⟩ := I.hok a _ h
  refine ⟨o, es, ep, t, m, ho, ex, hd, pl, ld, mo, si, ?_, nd, fun e he => ?_⟩
  · rw [ee]
    exact bs_ents fun b hbb => I.tupK (hb b hbb)
  · rw [ee] at he
    obtain ⟨b, h1, rfl⟩ := List.mem_map.mp he
    exact ⟨b, h1, rfl⟩
theorem vals_ref {us : List V} {its : List Value} (r : Vals us its) {kss : List (List Int)} (h : PySem.Paired (TupN X.K H) us kss) {b : Addr} (hb : Value.ref b ∈ its) : ∃ i : Nat, us[i]? = some (V.ref b) := by
  obtain ⟨i, ei⟩ := List.getElem?_of_mem hb
  have hi : i < us.length := by rw [r.length]; exact (List.getElem?_eq_some_iff.mp ei).1
  obtain ⟨ks, _, ⟨⟨a, e, _⟩, _⟩⟩ := L2.Paired.get h (List.getElem?_eq_getElem hi)
  obtain ⟨u, e1, e2⟩ := Vals.get r (List.getElem?_eq_getElem hi)
  rw [ei] at e1
  cases e1
  rw [e] at e2
  have : Value.ref b = Value.ref a := e2
  cases this
  exact ⟨i, by rw [List.getElem?_eq_getElem hi, e]⟩
def rSet (X : Cx) : List V → Hp → VK → Prop := fun xs H Q => ∃ (p : Addr) (us : List V) (kss : List (List Int)), xs = [.ref p] ∧ SqL X.K H p us ∧ PySem.Paired (TupN X.K H) us kss ∧ (∀ ms : List (List Int), ms.Nodup → (∀ q ∈ ms, q ∈ kss) → ms.length < 64) ∧
  ∀ S bs, H S = none → InS X.K H bs → (∀ b ∈ bs, ∃ i : Nat, us[i]? = some (V.ref b.1) ∧ kss[i]? = some b.2) → (∀ q, q ∈ bs.map (·.2) ↔ q ∈ kss) → (bs.map (·.2)).Nodup → bs.length < 77 → Q (.ref S) (upd H S (setO X.prog X.w S bs))
theorem call_setT (hc : X.calm = true) (hu : X.A.units + 64 < cLine) : CallR X (.type "set") (rSet X) := by
  intro pins s σ H xs us Q I r h
  obtain ⟨p, vs, kss, rfl, hS, hT, hl, q⟩ := h
  obtain ⟨u, rfl, rx⟩ := vals1 r
  cases rx
  obtain ⟨its, rv, pl, _⟩ := I.list hS
  have hK := I.tupsK hT rv
  have hlen := rv.length
  refine setT_listB (I.ok.hd hc) pl.isList hK (fun ms nd hm => Nat.lt_trans (hl ms nd hm) (by decide)) hu fun h' tk ms S2 mem kp => ?_
  obtain ⟨o, es, ep, t, m, D⟩ := S2
  obtain ⟨bs, e1, e2, e3⟩ := ents_bs D.en
  subst e2
  have fr : H s.heap.objs.size = none := I.hok.fresh (Nat.le_refl _)
  have own : ∀ b ∈ bs, ∃ i : Nat, vs[i]? = some (V.ref b.1) := fun b hb => by
    refine vals_ref rv hT (D.own (hashT X.prog X.w b.2, Value.ref b.1) ?_)
    rw [e1]
    exact List.mem_map.mpr ⟨b, hb, rfl⟩
  have inS2 : ∀ b ∈ bs, TupN X.K H (.ref b.1) b.2 ∧ ∃ i : Nat, vs[i]? = some (V.ref b.1) ∧ kss[i]? = some b.2 := fun b hb => by
    obtain ⟨i, ei⟩ := own b hb
    obtain ⟨ks, ek, tn⟩ := L2.Paired.get hT ei
    have k1 : TupK h' (.ref b.1) ks := (I.tupK tn).kept fun c ob e _ => kp c ob e
    have := (k1.key (prog := X.prog) (w := X.w)).inj ((e3 b hb).key (prog := X.prog) (w := X.w))
    rw [← this]
    exact ⟨tn, i, ei, ek⟩
  have inS : InS X.K H bs := fun b hb => (inS2 b hb).1
  have lt : bs.length < 77 := by
    have := D.mok.le
    have z : es.toList.length = bs.length := by rw [e1, List.length_map]
    rw [Array.length_toList] at z
    omega
  refine ⟨.ref s.heap.objs.size, _, I.laid (t' := tk) kp (Nat.le_refl _) (o := setO X.prog X.w s.heap.objs.size bs) (setP.ok ⟨o, es, ep, t, m, D.ho, D.ex, D.hd, D.pl, D.ld, D.mok, D.si, e1, D.nd⟩), rfl, q _ bs fr inS (fun b hb => (inS2 b hb).2) mem D.nd lt⟩
theorem arr_keys {h : Heap} {vs : List Value} {kss : List (List Int)} {p : Array Nat} (hT : PySem.Paired (TupK h) vs kss) (hp : Arr vs.length p) :
    PySem.Paired (TupK h) (arrV vs p) (p.toList.map fun i => kss.getD i []) ∧ (p.toList.map fun i => kss.getD i []).Perm kss := by
  have lt : ∀ i ∈ p.toList, i < vs.length := fun i hi => by
    have := (Array.Perm.mem_iff hp (a := i)).mp (Array.mem_toList_iff.mp hi)
    simpa using this
  constructor
  · unfold arrV
    generalize p.toList = l at lt
    induction l with
    | nil => exact .nil
    | cons i l ih => exact .cons (paired_getD hT i (lt i List.mem_cons_self)) (ih fun j hj => lt j (List.mem_cons_of_mem _ hj))
  · have p1 : p.toList.Perm (List.range vs.length) := by
      have := Array.perm_iff_toList_perm.mp hp
      simpa using this
    refine (p1.map fun i => kss.getD i []).trans ?_
    rw [L2.Paired.len hT]
    refine List.Perm.of_eq ?_
    apply List.ext_getElem?
    intro i
    simp only [List.getElem?_map, List.getElem?_range]
    by_cases hi : i < kss.length
    · simp [hi]
    · simp [hi]
theorem arr_srt {kss : List (List Int)} {n : Nat} {p : Array Nat} (hp : Arr n p) (hs : UpTo (ltK kss) p n) : Srt (p.toList.map fun i => kss.getD i []) := by
  unfold Srt
  rw [List.pairwise_map]
  refine List.pairwise_iff_getElem.mpr fun i j hi hj hij => ?_
  have hj' : j < n := by
    have := hp.size
    simp at hj
    omega
  have := hs i j (Nat.le_of_lt hij) hj'
  unfold ltK at this
  have := of_decide_eq_false this
  have e1 : gD p i = p.toList[i] := by simp at hi; simp [gD, hi]
  have e2 : gD p j = p.toList[j] := by simp at hj; simp [gD, hj]
  rw [e1, e2] at this
  exact this
def SrtOf (H : Hp) (Pv : V → List Int → Prop) (kss : List (List Int)) (Q : VK) : Prop := ∀ D vs ms, H D = none → PySem.Paired Pv vs ms → ms.Perm kss → Srt ms → Q (.ref D) (upd H D (.lst vs))
theorem sorted_fin {Q : VK} {x : Value} {Pv : V → List Int → Prop} {kss : List (List Int)} (I : Inv X pins σ H s) (q : SrtOf H Pv kss Q) {R : List Value → List (List Int) → Prop}
    (hR : ∀ vs ms, R vs ms → (∀ v ∈ vs, ∃ b ks, v = Value.ref b ∧ TupN X.K H (.ref b) ks ∧ Pv (.ref b) ks) ∧ ms.Perm kss) (hcol : ∀ E', wpAny (model X.prog X.w) X.A.in1 (collect x) (Gives s R) E' s) : wpAny (model X.prog X.w) X.A (call (.builtin "sorted") [x]) (EP X pins σ Q) X.xe s := by
  refine sorted_wp hcol fun vs ms p h' tk D e hr hp hs hT hz kp hD he => ?_
  obtain ⟨r1, r2⟩ := hR vs ms hr
  obtain ⟨a1, a2⟩ := arr_keys hT hp
  have hV : ∀ l : List Value, (∀ v ∈ l, ∃ b ks, v = Value.ref b ∧ TupN X.K H (.ref b) ks ∧ Pv (.ref b) ks) → ∃ ws : List V, Vals ws l ∧ ∀ ks, PySem.Paired (TupK h') l ks → PySem.Paired Pv ws ks := by
    intro l
    induction l with
    | nil => exact fun _ => ⟨[], .nil, fun ks z => (by cases z; exact .nil)⟩
    | cons v l ih =>
      intro hl
      obtain ⟨ws, w1, w3⟩ := ih fun u hu => hl u (List.mem_cons_of_mem _ hu)
      obtain ⟨b, ks, rfl, tn, pv⟩ := hl v List.mem_cons_self
      refine ⟨.ref b :: ws, .cons rfl w1, fun ks' z => ?_⟩
      cases z with
        | cons z1 z2 =>
          refine .cons ?_ (w3 _ z2)
          have k1 : TupK h' (.ref b) ks := (I.tupK tn).kept fun c ob e _ => kp c ob e
          have := (k1.key (prog := X.prog) (w := X.w)).inj (z1.key (prog := X.prog) (w := X.w))
          rw [← this]
          exact pv
  obtain ⟨ws, w1, w3⟩ := hV (arrV vs p) fun v hv => by
    obtain ⟨i, hi, rfl⟩ := List.mem_map.mp hv
    have hlt : i < vs.length := by
      have := (Array.Perm.mem_iff hp (a := i)).mp (Array.mem_toList_iff.mp hi)
      simpa using this
    rw [List.getD_eq_getElem?_getD, List.getElem?_eq_getElem hlt]
    exact r1 _ (List.getElem_mem hlt)
  have hwl : ws.length ≤ sizeLine := by
    rw [w1.length, arrV_len hp, sizeLine_eq]
    omega
  obtain ⟨hn, J⟩ := I.laidN (t' := tk) (o := .lst ws) kp hD ⟨hwl, arrV vs p, e, w1, he⟩
  exact ⟨.ref D, _, J, rfl, q D ws _ hn (w3 _ a1) (a2.trans r2) (arr_srt hp hs)⟩
def rSortL (X : Cx) : List V → Hp → VK → Prop := fun xs H Q => ∃ (p : Addr) (us : List V) (kss : List (List Int)), xs = [.ref p] ∧ SqL X.K H p us ∧ PySem.Paired (TupN X.K H) us kss ∧ us.length < 64 ∧ SrtOf H (fun v ks => ∃ i : Nat, us[i]? = some v ∧ kss[i]? = some ks) kss Q
theorem call_sortL : CallR X (.builtin "sorted") (rSortL X) := by
  intro pins s σ H xs us Q I r h
  obtain ⟨p, vs, kss, rfl, hS, hT, hl, q⟩ := h
  obtain ⟨u, rfl, rx⟩ := vals1 r
  cases rx
  obtain ⟨its, rv, pl, _⟩ := I.list hS
  have hlen := rv.length
  refine sorted_fin I q (R := fun us ms => us = its ∧ ms = kss) ?_ fun E' => gives_list pl.isList (I.tupsK hT rv) (by omega) E'
  rintro _ _ ⟨rfl, rfl⟩
  refine ⟨fun v hv => ?_, List.Perm.refl _⟩
  obtain ⟨i, ei⟩ := List.getElem?_of_mem hv
  have hi : i < vs.length := by rw [hlen]; exact (List.getElem?_eq_some_iff.mp ei).1
  obtain ⟨ks, ek, tn⟩ := L2.Paired.get hT (List.getElem?_eq_getElem hi)
  obtain ⟨⟨a, e, _⟩, _⟩ := id tn
  obtain ⟨u, e1, e2⟩ := Vals.get rv (List.getElem?_eq_getElem hi)
  rw [ei] at e1
  cases e1
  rw [e] at e2 tn
  exact ⟨a, ks, e2, tn, i, by rw [← e]; exact List.getElem?_eq_getElem hi, ek⟩
def rSortS (X : Cx) : List V → Hp → VK → Prop := fun xs H Q => ∃ (S : Addr) (bs : List (Addr × List Int)), xs = [.ref S] ∧ H S = some (setO X.prog X.w S bs) ∧ InS X.K H bs ∧ bs.length < 64 ∧ SrtOf H (fun v ks => ∃ b ∈ bs, v = V.ref b.1 ∧ ks = b.2) (bs.map (·.2)) Q
theorem call_sortS (hc : X.calm = true) : CallR X (.builtin "sorted") (rSortS X) := by
  intro pins s σ H xs us Q I r h
  obtain ⟨S, bs, rfl, hS, hI, hl, q⟩ := h
  obtain ⟨u, rfl, rx⟩ := vals1 r
  cases rx
  obtain ⟨o, es, ep, t, m, D⟩ := I.setT hS hI
  have hz := D.len
  rw [List.length_map] at hz
  refine sorted_fin I q (R := fun us ms => (∀ v ∈ us, ∃ b ∈ bs, v = Value.ref b.1) ∧ (bs.map (·.2)).Perm ms) ?_ fun E' => collect_set (by show X.A.handled = none; exact I.ok.hd hc) D.toB (by omega) fun h' tk kp => ?_
  · rintro us ms ⟨h1, h2⟩
    refine ⟨fun v hv => ?_, h2.symm⟩
    obtain ⟨b, hb, rfl⟩ := h1 v hv
    exact ⟨b.1, b.2, rfl, hI b hb, b, hb, rfl, rfl⟩
  · obtain ⟨ms, m1, m2⟩ := paired_perm (ordS_perm X.w S ep es).symm D.en
    refine ⟨h', tk, ms, rfl, kp, ?_, ?_, ?_, m2⟩
    · have : ∀ {l : List (Int × Value)} {ks : List (List Int)}, PySem.Paired (EntK X.prog X.w s.heap) l ks → PySem.Paired (TupK h') (l.map (·.2)) ks := by
        intro l ks z
        induction z with
        | nil => exact .nil
        | cons r _ ih => exact .cons (r.1.kept fun b o e _ => kp b o e) ih
      exact this m1
    · rw [List.length_map, Array.length_toList, ordS_size]; omega
    · intro v hv
      obtain ⟨e, he, rfl⟩ := List.mem_map.mp hv
      exact D.own e ((ordS_perm X.w S ep es).mem_iff.mp he)
def tupD (ks : List Int) : PyData := .tuple (ks.map PyData.int)
variable {K : PySem.W.Frag}
theorem IsAll.tups {H : Hp} : ∀ {us : List V} {kss : List (List Int)}, IsAll K H us (kss.map tupD) → (∀ k ∈ kss, k ≠ []) → PySem.Paired (TupN K H) us kss
  | _, [], .nil, _ => .nil
  | _, k :: kss, .cons h t, hn => by
    refine .cons ?_ (IsAll.tups t fun z hz => hn z (List.mem_cons_of_mem _ hz))
    unfold tupD at h
    cases h with
    | @tup a xs _ h1 h2 =>
      rw [h2.ints_of] at h1
      exact ⟨⟨a, rfl, h1⟩, hn _ List.mem_cons_self⟩
theorem TupN.is {H : Hp} {v : V} {ks : List Int} (h : TupN K H v ks) : Is K H v (tupD ks) := by
  obtain ⟨⟨a, rfl, h1⟩, _⟩ := h
  exact .tup h1 (IsAll.ints ks)
theorem TupN.up {μ : Mu} {H : Hp} {v : V} {ks : List Int} (h : TupN K (mask μ H) v ks) : TupN K H v ks := h.same mask_le
def stSet (P : Program) (w : World) (K : PySem.W.Frag) (ms : List (List Int)) : Stb where
  R v H := ∃ S bs, v = .ref S ∧ H S = some (setO P w S bs) ∧ InS K H bs ∧ bs.map (·.2) = ms ∧ ms.Nodup ∧ ms.length < 77
  st := fun v H H' s ⟨S, bs, e, h1, h2, h3, h4, h5⟩ => ⟨S, bs, e, s _ _ h1, h2.same s, h3, h4, h5⟩
def rdSetB (P : Program) (w : World) (K : PySem.W.Frag) : RAd := fun es μ Q => match es with
  | [e] => ∃ kss : List (List Int), LstOf μ e (kss.map tupD) ∧ (∀ k ∈ kss, k ≠ []) ∧ (∀ ms : List (List Int), ms.Nodup → (∀ q ∈ ms, q ∈ kss) → ms.length < 64) ∧ ∀ ms, (∀ q, q ∈ ms ↔ q ∈ kss) → ms.Nodup → ms.length < 77 → Q (.x (stSet P w K ms)) μ
  | _ => False
theorem dc_setB {P : Program} {w : World} (hc : X.calm = true) (hu : X.A.units + 64 < cLine) (hK : X.K = K := by rfl) (hP : X.prog = P := by rfl) (hw : X.w = w := by rfl) : CallR X (.type "set") (upC K (rdSetB P w K)) := by
  subst hK hP hw
  refine (call_setT hc hu).mono fun xs H Q h => ?_
  obtain ⟨μ, es, Q0, M, hp, q, cl⟩ := h
  unfold rdSetB at q
  split at q
  · obtain ⟨v, rfl, i1⟩ := pair1 hp
    obtain ⟨kss, h1, hne, h64, q⟩ := q
    obtain ⟨p, ys, rfl, h2, h3⟩ := h1.get M i1
    have hT := IsAll.tups h3 hne
    refine ⟨p, ys, kss, rfl, h2, paired_mem hT (fun x _ y h => h.up), h64, fun S bs hS _ ix mem nd lt => ?_⟩
    obtain ⟨M4, s4, hn⟩ := M.laid (o := setO X.prog X.w S bs) hS
    refine cl _ μ _ _ (q (bs.map (·.2)) mem nd (by rw [List.length_map]; exact lt)) M4 s4 ⟨S, bs, rfl, ?_, fun b hb => ?_, rfl, nd, by rw [List.length_map]; exact lt⟩
    · rw [mask_of hn]; exact upd_same
    · obtain ⟨i, e1, e2⟩ := ix b hb
      obtain ⟨ks, e3, tn⟩ := L2.Paired.get hT e1
      rw [e2] at e3
      cases e3
      exact tn.same s4
  · exact q.elim
def rdSet (P : Program) (w : World) (K : PySem.W.Frag) : RAd := fun es μ Q => match es with
  | [e] => ∃ kss : List (List Int), LstOf μ e (kss.map tupD) ∧ (∀ k ∈ kss, k ≠ []) ∧ kss.length < 64 ∧ ∀ ms, (∀ q, q ∈ ms ↔ q ∈ kss) → ms.Nodup → ms.length < 77 → Q (.x (stSet P w K ms)) μ
  | _ => False
theorem dc_set {P : Program} {w : World} (hc : X.calm = true) (hu : X.A.units + 64 < cLine) (hK : X.K = K := by rfl) (hP : X.prog = P := by rfl) (hw : X.w = w := by rfl) : CallR X (.type "set") (upC K (rdSet P w K)) := by
  refine (dc_setB hc hu hK hP hw).mono fun xs H Q h => ?_
  obtain ⟨μ, es, Q0, M, hp, q, cl⟩ := h
  refine ⟨μ, es, Q0, M, hp, ?_, cl⟩
  unfold rdSet at q
  unfold rdSetB
  split at q
  · obtain ⟨kss, h1, hne, h64, q⟩ := q
    exact ⟨kss, h1, hne, fun ms nd hm => Nat.lt_of_le_of_lt (nodup_lenB nd hm) h64, q⟩
  · exact q
def rdSortS (P : Program) (w : World) (K : PySem.W.Frag) : RAd := fun es μ Q => ∃ ms, es = [.x (stSet P w K ms)] ∧ ms.length < 64 ∧ ∀ ks, ks.Perm ms → Srt ks → Q (.d (.list (ks.map tupD))) μ
theorem pairs_is {Pv : V → List Int → Prop} {H : Hp} : ∀ {vs : List V} {ms : List (List Int)}, PySem.Paired Pv vs ms → (∀ v k, Pv v k → Is K H v (tupD k)) → IsAll K H vs (ms.map tupD)
  | _, _, .nil, _ => .nil
  | _, _, .cons h t, f => .cons (f _ _ h) (pairs_is t f)
theorem dc_sortS {P : Program} {w : World} (hc : X.calm = true) (hK : X.K = K := by rfl) (hP : X.prog = P := by rfl) (hw : X.w = w := by rfl) : CallR X (.builtin "sorted") (upC K (rdSortS P w K)) := by
  subst hK hP hw
  refine (call_sortS hc).mono fun xs H Q h => ?_
  obtain ⟨μ, es, Q0, M, hp, q, cl⟩ := h
  obtain ⟨ms, rfl, h64, q⟩ := q
  obtain ⟨v, rfl, i1⟩ := pair1 hp
  obtain ⟨S, bs, rfl, h1, h2, rfl, h4, h5⟩ := i1
  rw [List.length_map] at h64
  refine ⟨S, bs, rfl, mask_le _ _ h1, fun b hb => (h2 b hb).up, h64, fun D vs ks hD hP hp hs => ?_⟩
  obtain ⟨M4, s4, hn⟩ := M.laid (o := .lst vs) hD
  refine cl _ μ _ _ (q ks hp hs) M4 s4 (.lst (SqL.of (by rw [mask_of hn]; exact upd_same)) (pairs_is hP fun v k hv => ?_))
  obtain ⟨b, hb, rfl, rfl⟩ := hv
  exact ((h2 b hb).same s4).is
def rdSortT : RAd := fun es μ Q => match es with
  | [e] => ∃ kss : List (List Int), LstOf μ e (kss.map tupD) ∧ (∀ k ∈ kss, k ≠ []) ∧ kss.length < 64 ∧ ∀ ks, ks.Perm kss → Srt ks → Q (.d (.list (ks.map tupD))) μ
  | _ => False
theorem dc_sortT (hK : X.K = K := by rfl) : CallR X (.builtin "sorted") (upC K rdSortT) := by
  subst hK
  refine call_sortL.mono fun xs H Q h => ?_
  obtain ⟨μ, es, Q0, M, hp, q, cl⟩ := h
  unfold rdSortT at q
  split at q
  · obtain ⟨v, rfl, i1⟩ := pair1 hp
    obtain ⟨kss, h1, hne, h64, q⟩ := q
    obtain ⟨p, ys, rfl, h2, h3⟩ := h1.get M i1
    have hT := IsAll.tups h3 hne
    refine ⟨p, ys, kss, rfl, h2, paired_mem hT (fun x _ y h => h.up), by rw [h3.len, List.length_map]; exact h64, fun D vs ks hD hP hp hs => ?_⟩
    obtain ⟨M4, s4, hn⟩ := M.laid (o := .lst vs) hD
    refine cl _ μ _ _ (q ks hp hs) M4 s4 (.lst (SqL.of (by rw [mask_of hn]; exact upd_same)) (pairs_is hP fun v k hv => ?_))
    obtain ⟨i, e1, e2⟩ := hv
    obtain ⟨ks, e3, tn⟩ := L2.Paired.get hT e1
    rw [e2] at e3
    cases e3
    exact (tn.same s4).is
  · exact q.elim
end
end L2
set_option Elab.async false
set_option linter.all false
set_option maxRecDepth 100000
set_option maxHeartbeats 4000000
namespace L2
open PySem PySem.Spec PyProof.Rows
section
variable {X : Cx} {K : PySem.W.Frag}
theorem LstOf.is {μ : Mu} {e : En} {ds : List PyData} {H : Hp} {v : V} (h : LstOf μ e ds) (M : RelM K μ H) (i : IsE K μ H v e) : Is K H v (.list ds) := by
  obtain ⟨p, xs, rfl, h1, h2⟩ := h.get M i
  exact .lst h1 (IsAll.same mask_le h2)
end
end L2
set_option Elab.async false
set_option linter.all false
set_option maxRecDepth 100000
set_option maxHeartbeats 4000000
namespace L2
open PySem PySem.Spec PyProof.Rows
section
variable {X : Cx} {K : PySem.W.Frag}
def rMulL (K : PySem.W.Frag) : R2 := fun x y H Q => ∃ l xs k, x = .ref l ∧ y = .int k ∧ SqL K H l xs ∧ 0 ≤ k ∧ xs ≠ [] ∧ xs.length * k.toNat ≤ 1000 ∧ ∀ p, H p = none → Q (.ref p) (upd H p (.lst (List.replicate k.toNat xs).flatten))
theorem vals_flat {xs : List V} {its : List Value} (h : Vals xs its) : ∀ n, Vals (List.replicate n xs).flatten (List.replicate n its).flatten
  | 0 => .nil
  | n + 1 => by
    rw [List.replicate_succ, List.replicate_succ, List.flatten_cons, List.flatten_cons]
    exact h.append (vals_flat h n)
theorem fold_flat {α : Type} (its : List α) : ∀ (n : Nat) (acc : Array α), (List.foldl (fun x1 x2 => x1 ++ x2) acc (List.replicate n its.toArray)).toList = acc.toList ++ (List.replicate n its).flatten
  | 0, acc => by simp
  | n + 1, acc => by
    rw [List.replicate_succ, List.foldl_cons, fold_flat its n, List.replicate_succ, List.flatten_cons]
    simp
theorem flat_len {α : Type} (xs : List α) (n : Nat) : (List.replicate n xs).flatten.length = n * xs.length := by simp
theorem op_mulL : OpR X (binaryOp .Mult) (rMulL X.K) := by
  intro pins s σ H x y v u Q I rx ry h
  obtain ⟨l, xs, k, rfl, rfl, hH, hk, hne, hz, q⟩ := h
  cases rx
  obtain ⟨t, rfl⟩ := ry
  obtain ⟨its, r, pl, _⟩ := I.list hH
  obtain ⟨⟨cls, dd, data, sl⟩, ho, hc, n, hd⟩ := pl.isList
  simp only at hc hd
  subst hc hd
  have h1 := r.length
  have hpos : 0 < its.length := by rw [← h1]; exact List.length_pos_iff.mpr hne
  have hk2 : k.toNat ≤ 1000 := Nat.le_trans (Nat.le_mul_of_pos_left _ (by rw [h1]; exact hpos)) hz
  rw [h1] at hz
  refine wpAny_binaryOp_repeat_ref (T := "list") (U := "int") (by decide +kernel) ⟨_, ho, rfl⟩ (fun s' => typeIs_int s' k t) noFill_list_mul F.fills_int_mul F.slot_int_rmul repeat_list F.slot_int_index.lookup
    (call_meets F.slot_int_rmul (typeIs_int s k t) F.entry_int_rmul (F.args_int_rmul_2 _ _) (lm_int_rmul_list_any k t l its.toArray n dd sl) ⟨ho, rfl, ⟨_, ho, rfl⟩, ?_⟩)
  refine call_meets F.slot_list_mul ⟨_, ho, rfl⟩ F.entry_list_mul (F.args_list_mul_2 _ _) (lm_list_mul_any l its.toArray n dd sl k t ?_ ?_ ?_) ⟨ho, ?_⟩
  · unfold Builtin.List.listFitsIndex
    simp
    omega
  · simp only [List.size_toArray]; omega
  · unfold Builtin.List.listTooLong
    simp only [List.size_toArray, decide_eq_true_eq]
    rw [sizeLine_eq]
    omega
  · have he : its.toArray.isEmpty = false := by
      rw [Array.isEmpty_eq_false_iff]
      intro z
      have : its = [] := by simpa using z
      rw [this] at hpos
      simp at hpos
    rw [he]
    have e : (List.foldl (fun x1 x2 => x1 ++ x2) #[] (List.replicate (if false = true then 0 else k.toNat) its.toArray)) = (List.replicate k.toNat its).flatten.toArray := by
      have := fold_flat its k.toNat #[]
      rw [if_neg (by decide)]
      apply Array.ext'
      rw [this]
      simp
    rw [e]
    have hl := flat_len xs k.toNat
    exact ⟨.ref _, _, I.lnew (t' := s.toks) (vals_flat r k.toNat) (by rw [hl, h1, Nat.mul_comm, sizeLine_eq]; omega), rfl, q _ I.fresh⟩
def rdMulL : R2d := fun x y μ Q => ∃ ds k, LstOf μ x ds ∧ y = .d (.int k) ∧ 0 ≤ k ∧ ds ≠ [] ∧ ds.length * k.toNat ≤ 1000 ∧ Q (.d (.list (List.replicate k.toNat ds).flatten)) μ
theorem IsAll.rep {H : Hp} {xs : List V} {ds : List PyData} (h : IsAll K H xs ds) : ∀ n, IsAll K H (List.replicate n xs).flatten (List.replicate n ds).flatten
  | 0 => .nil
  | n + 1 => by
    rw [List.replicate_succ, List.replicate_succ, List.flatten_cons, List.flatten_cons]
    exact (IsAll.rep h n).app h
theorem do_mulL (hK : X.K = K := by rfl) : OpR X (binaryOp .Mult) (upR K rdMulL) := by
  subst hK
  refine op_mulL.mono fun x y H Q h => ?_
  obtain ⟨μ, e, e', Q0, M, i1, i2, q, cl⟩ := h
  obtain ⟨ds, k, h1, rfl, hk, hne, hz, q⟩ := q
  cases i2
  obtain ⟨p, xs, rfl, h2, h3⟩ := h1.get M i1
  have hle := h3.len
  refine ⟨p, xs, k, rfl, rfl, h2, hk, fun z => hne ?_, by rw [hle]; exact hz, fun r hr => ?_⟩
  · rw [z] at hle
    exact List.length_eq_zero_iff.mp hle.symm
  · obtain ⟨M4, s4, hn⟩ := M.laid (o := .lst (List.replicate k.toNat xs).flatten) hr
    exact cl _ μ _ _ q M4 s4 (.lst (SqL.of (by rw [mask_of hn]; exact upd_same)) (IsAll.same s4 (h3.rep _)))
end
end L2
set_option Elab.async false
set_option linter.all false
set_option maxRecDepth 100000
set_option maxHeartbeats 4000000
namespace L2
open PySem PySem.Spec PyProof.Rows
section
variable {prog : Program} {w : World} {A : Around} {R : Result → Shared → Prop} {s : Shared}
abbrev two (elt t1 i1 t2 i2 : Expr) (f1 f2 : List Expr) (scope : Scope) (pos : Pos) : Expr := .ListComp elt [⟨t1, i1, f1, 0⟩, ⟨t2, i2, f2, 0⟩] scope pos
theorem codeAny_start_two {elt t1 i1 t2 i2 : Expr} {f1 f2 : List Expr} {scope : Scope} {pos : Pos} {it acc : Value} {env : Env}
    (h0 : codeAny (model prog w) A (.compLoop (two elt t1 i1 t2 i2 f1 f2 scope pos) 1 it acc env) R s)
    (h : wpAny (model prog w) A (pyIter it) (fun it' s' => codeAny (model prog w) A (.compLoop (two elt t1 i1 t2 i2 f1 f2 scope pos) 1 it' acc env) R s') (notedBy (model prog w) A env fun x s' => R (Except.error x) s') s) :
    codeAny (model prog w) A (.compStart (two elt t1 i1 t2 i2 f1 f2 scope pos) 1 it acc env) R s := by
  refine codeAny_of_tree ?_
  refine wpAny_notedAt ?_
  refine wpAny_bind (wpAny_askSetting (wpAny_ite ?_))
  split
  · exact wpAny_bind (wpAny_pure (wpAny_pure ⟨rfl, h0⟩))
  · exact wpAny_bind (wpAny_rule (wpAny_bind (wpAny_standAt (wpAny_bind (wpAny_mono h (fun it' s' h' => wpAny_pure ⟨rfl, h'⟩) fun _ _ z => z)))))
theorem loop_in {elt t1 i1 t2 i2 : Expr} {f1 f2 : List Expr} {scope : Scope} {pos : Pos} {it acc : Value} {env : Env} (I : Nat → Shared → Prop)
    (turn : ∀ n s, I n s → wpAny (model prog w) A (pyNext it) (fun r s₁ => match r with
      | none => R (.ok .next) s₁
      | some v => wpAny (model prog w) A (letOwnedTupleGo t2 it v) (fun _ s₁' => wpAny (model prog w) A (assign t2 env v) (fun _ s₂ =>
          wpAny (model prog w) A (forIn f2 true fun c r => if r = true then do let ok ← isTrue c env (eval c env); pure (ForInStep.yield ok) else pure (ForInStep.yield r)) (fun ok s₃ =>
            if ok = true then wpAny (model prog w) A (eval elt env) (fun x s₄ =>
              wpAny (model prog w) A (call (.builtin "list.append") [acc, x]) (fun _ s₅ => ∃ m, m < n ∧ I m s₅) (fun _ _ => False) s₄) (fun _ _ => False) s₃
            else ∃ m, m < n ∧ I m s₃) (fun _ _ => False) s₂) (fun _ _ => False) s₁') (fun _ _ => False) s₁) (fun _ _ => False) s)
    (n : Nat) (h : I n s) : codeAny (model prog w) A (.compLoop (two elt t1 i1 t2 i2 f1 f2 scope pos) 1 it acc env) R s := by
  refine codeAny_loop rfl I (fun n s hI => ?_) n h
  show wpAny _ A ((compTurn (two elt t1 i1 t2 i2 f1 f2 scope pos) 1 it acc env).onRaise (fun x => do noteFrame x env; theTreesLotGoes x)) _ _ s
  refine wpAny_noted ?_
  show wpAny _ A (do
    standAt i2.pos
    let o ← pyNext it
    match o with
      | none => pure (Fin.done Flow.next)
      | some v => do
        letOwnedTupleGo t2 it v
        assign t2 env v
        let ok ← forIn f2 true fun c r => if r = true then do let ok ← isTrue c env (eval c env); pure (ForInStep.yield ok) else pure (ForInStep.yield r)
        if ok = true then do
            let _ ← (do let x ← eval elt env; let _ ← call (.builtin "list.append") [acc, x]; pure ())
            again (.compLoop (two elt t1 i1 t2 i2 f1 f2 scope pos) 1 it acc env)
          else again (.compLoop (two elt t1 i1 t2 i2 f1 f2 scope pos) 1 it acc env)) _ _ s
  refine wpAny_bind (wpAny_standAt (wpAny_bind (wpAny_mono (turn n s hI) (fun r s₁ h₁ => ?_) fun _ _ h' => h'.elim)))
  cases r with
  | none => exact wpAny_pure h₁
  | some v =>
    refine wpAny_bind (wpAny_mono h₁ (fun _ s₁' h₁' => ?_) fun _ _ h' => h'.elim)
    refine wpAny_bind (wpAny_mono h₁' (fun _ s₂ h₂ => wpAny_bind (wpAny_mono h₂ (fun ok s₃ h₃ => ?_) fun _ _ h' => h'.elim)) fun _ _ h' => h'.elim)
    cases ok with
    | false => exact wpAny_pure ⟨rfl, h₃⟩
    | true =>
      exact wpAny_bind (wpAny_bind (wpAny_mono h₃ (fun x s₄ h₄ => wpAny_bind (wpAny_mono h₄ (fun _ s₅ h₅ => wpAny_pure (wpAny_pure ⟨rfl, h₅⟩)) fun _ _ h' => h'.elim)) fun _ _ h' => h'.elim))
theorem loop_out {elt t1 i1 t2 i2 : Expr} {f1 f2 : List Expr} {scope : Scope} {pos : Pos} {it acc : Value} {env : Env} (hs : ∀ x, foldedSetIterable i2 env x = pure x) (I : Nat → Shared → Prop)
    (turn : ∀ n s, I n s → wpAny (model prog w) A (pyNext it) (fun r s₁ => match r with
      | none => R (.ok .next) s₁
      | some v => wpAny (model prog w) A (letOwnedTupleGo t1 it v) (fun _ s₁' => wpAny (model prog w) A (assign t1 env v) (fun _ s₂ =>
          wpAny (model prog w) A (forIn f1 true fun c r => if r = true then do let ok ← isTrue c env (eval c env); pure (ForInStep.yield ok) else pure (ForInStep.yield r)) (fun ok s₃ =>
            if ok = true then wpAny (model prog w) A (eval i2 env) (fun x s₄ =>
              wpAny (model prog w) A (pyIter x) (fun it2 s₅ => codeAny (model prog w) A (.compStart (two elt t1 i1 t2 i2 f1 f2 scope pos) 1 it2 acc env) (fun r s₆ => r = .ok .next ∧ ∃ m, m < n ∧ I m s₆) s₅) (fun _ _ => False) s₄) (fun _ _ => False) s₃
            else ∃ m, m < n ∧ I m s₃) (fun _ _ => False) s₂) (fun _ _ => False) s₁') (fun _ _ => False) s₁) (fun _ _ => False) s)
    (n : Nat) (h : I n s) : codeAny (model prog w) A (.compLoop (two elt t1 i1 t2 i2 f1 f2 scope pos) 0 it acc env) R s := by
  refine codeAny_loop rfl I (fun n s hI => ?_) n h
  show wpAny _ A ((compTurn (two elt t1 i1 t2 i2 f1 f2 scope pos) 0 it acc env).onRaise (fun x => do noteFrame x env; theTreesLotGoes x)) _ _ s
  refine wpAny_noted ?_
  show wpAny _ A (do
    standAt i1.pos
    let o ← pyNext it
    match o with
      | none => pure (Fin.done Flow.next)
      | some v => do
        letOwnedTupleGo t1 it v
        assign t1 env v
        let ok ← forIn f1 true fun c r => if r = true then do let ok ← isTrue c env (eval c env); pure (ForInStep.yield ok) else pure (ForInStep.yield r)
        if ok = true then do
            let x ← eval i2 env
            standAt i2.pos
            let x ← foldedSetIterable i2 env x
            let it2 ← holding [x] (pyIter x)
            let _ ← runOwn (.compStart (two elt t1 i1 t2 i2 f1 f2 scope pos) 1 it2 acc env) env
            again (.compLoop (two elt t1 i1 t2 i2 f1 f2 scope pos) 0 it acc env)
          else again (.compLoop (two elt t1 i1 t2 i2 f1 f2 scope pos) 0 it acc env)) _ _ s
  refine wpAny_bind (wpAny_standAt (wpAny_bind (wpAny_mono (turn n s hI) (fun r s₁ h₁ => ?_) fun _ _ h' => h'.elim)))
  cases r with
  | none => exact wpAny_pure h₁
  | some v =>
    refine wpAny_bind (wpAny_mono h₁ (fun _ s₁' h₁' => ?_) fun _ _ h' => h'.elim)
    refine wpAny_bind (wpAny_mono h₁' (fun _ s₂ h₂ => wpAny_bind (wpAny_mono h₂ (fun ok s₃ h₃ => ?_) fun _ _ h' => h'.elim)) fun _ _ h' => h'.elim)
    cases ok with
    | false => exact wpAny_pure ⟨rfl, h₃⟩
    | true =>
      refine wpAny_bind (wpAny_mono h₃ (fun x s₄ h₄ => wpAny_bind (wpAny_standAt ?_)) fun _ _ h' => h'.elim)
      rw [hs]
      refine wpAny_bind (wpAny_pure (wpAny_bind (wpAny_holding (wpAny_mono h₄ (fun it2 s₅ h₅ => ?_) fun _ _ h' => h'.elim))))
      refine wpAny_bind (wpAny_runOwn (h := none) (codeAny_mono h₅ fun r s₆ ⟨e, h₆⟩ => ?_))
      subst e
      exact wpAny_pure ⟨rfl, h₆⟩
end
def tComp2J (k : Nat) (g : TG) (tt : TT) (wi2 : TI) (g2 : TG) (tt2 : TT) (te : TE) (σ : St) (Q : VK) (J : It) (H1 : Hp) : Prop := ∃ W : Nat → Nat → List V → St → Hp → Prop, (∃ m, W 0 m [] (σ ++ List.replicate k none) H1) ∧ ∀ i m ys σ' H, W i m ys σ' H →
  (J.stop i H ∧ ∀ D, H D = none → Q (.ref D) (upd H D (.lst ys))) ∨
  (J.go i H ∧ ∃ N : List V → St → Hp → Prop, (∀ ys' σ' H', N ys' σ' H' → ∃ m', m' < m ∧ W (i + 1) m' ys' σ' H') ∧
    ∀ x H', J.yld i H x H' → g x σ' H' fun σ2 H2 => tt σ2 H2 fun b H3 => if b = true then wi2 σ2 H3 fun J2 H4 =>
      ∃ W2 : Nat → Nat → List V → St → Hp → Prop, (∃ m, W2 0 m ys σ2 H4) ∧ ∀ i m ys σ' H, W2 i m ys σ' H →
        (J2.stop i H ∧ N ys σ' H) ∨
        (J2.go i H ∧ ys.length < sizeLine ∧ ∃ N2 : List V → St → Hp → Prop, (∀ ys' σ' H', N2 ys' σ' H' → ∃ m', m' < m ∧ W2 (i + 1) m' ys' σ' H') ∧
          ∀ x H', J2.yld i H x H' → g2 x σ' H' fun σ2 H2 => tt2 σ2 H2 fun b H3 => if b = true then te σ2 H3 fun y H4 => N2 (ys ++ [y]) σ2 H4 else N2 ys σ2 H3)
      else N ys σ2 H3)
def tComp2 (k : Nat) (wi : TI) (g : TG) (tt : TT) (wi2 : TI) (g2 : TG) (tt2 : TT) (te : TE) : TE := fun σ H Q => wi σ H (tComp2J k g tt wi2 g2 tt2 te σ Q)
section
variable {X : Cx}
theorem comp_block2 {pins : List (Addr × Obj)} {σ : St} {H : Hp} {s₂ : Shared} {L : List Str} {scope : Scope} {cl : List (Str × Addr)} {fp : List Addr} {sc : Scope} {N : List Str} {tg elt iter tg2 iter2 : Expr} {ifs ifs2 : List Expr} {pos : Pos}
    {g : TG} {tt : TT} {wi2 : TI} {g2 : TG} {tt2 : TT} {te : TE} {Q : VK} {J : It} {it : Addr} {tn : Nat → Heap → Prop} {RR : Value → Addr → Result → Shared → Prop} {E : Value → Shared → Prop}
    (hc : X.calm = true) (hsc : X.env.scope = sc) (hN : X.N = N) (ok : compOk sc N L scope = true) (hc1 : ∀ x c, cl.lookup x = some c → X.env.cells.lookup x = some c)
    (hc2 : ∀ y ∈ scope.names, y.2 = .free → ∃ c, cl.lookup y.1 = some c)
    (hg : ∀ cl C s₂ H₂ fp, PG (compCx X L scope cl C s₂ H₂ fp) tg g) (hi : ∀ cl C s₂ H₂ fp, Ifs (compCx X L scope cl C s₂ H₂ fp) ifs tt) (hi2 : ∀ cl C s₂ H₂ fp, PI (compCx X L scope cl C s₂ H₂ fp) tg2 iter2 wi2) (hg2 : ∀ cl C s₂ H₂ fp, PG (compCx X L scope cl C s₂ H₂ fp) tg2 g2) (hf2 : ∀ cl C s₂ H₂ fp, Ifs (compCx X L scope cl C s₂ H₂ fp) ifs2 tt2) (he : ∀ cl C s₂ H₂ fp, PE (compCx X L scope cl C s₂ H₂ fp) elt te)
    (hs2 : ∀ env x, foldedSetIterable iter2 env x = pure x)
    (I : Inv X pins σ H s₂) (T : Turn X.prog X.w X.K tg J fp it tn) (st : tn 0 s₂.heap) (hf : ∀ b ∈ fp, FpOk X pins H b) (hw : tComp2J L.length g tt wi2 g2 tt2 te σ Q J H)
    (hR : ∀ D C m H' s' ys, s'.heap.Ns C m → s₂.heap.objs.size = D → s₂.heap.objs.size < C → H' C = none → D ≠ C → Inv X pins σ (upd H' D (.lst ys)) s' → Q (.ref D) (upd H' D (.lst ys)) → RR (.ref D) C (.ok .next) s') :
    wpAny (model X.prog X.w) X.A (newList []) (fun acc s₃ => wpAny (model X.prog X.w) X.A (newFunctionEnv scope X.env.globals cl [] X.env.qual none .none (some X.env)) (fun cenv s₄ =>
      codeAny (model X.prog X.w) X.A (.compStart (two elt tg iter tg2 iter2 ifs ifs2 scope pos) 0 (.ref it) acc { cenv with scope := relabel scope X.env }) (RR acc cenv.locals) s₄) E s₃) E s₂ := by
  refine wpAny_newObj_type (wpAny_newFunctionEnv (fun y hy => (compOk_at ok hy).1) (by intro y hy; simp at hy) (fun h₁ hns₁ hsb₁ => ?_) (compOk_kind ok))
  dsimp only at hns₁ hsb₁ ⊢
  generalize hH2 : s₂.heap.push { cls := .type "list", dict := none, data := .seq ([] : List Value).toArray } = H2 at hns₁ hsb₁ ⊢
  have hC : H2.objs.size = s₂.heap.objs.size + 1 := by rw [← hH2, Heap.size_push]
  have hCle : s₂.heap.objs.size ≤ H2.objs.size := by rw [hC]; exact Nat.le_succ _
  have hDC : s₂.heap.objs.size ≠ H2.objs.size := by rw [hC]; exact Nat.ne_of_lt (Nat.lt_succ_self _)
  have hlt : ∀ b ∈ fp, b < s₂.heap.objs.size := fun b hb => by
    obtain ⟨o, e, _⟩ := T.obj 0 _ st b hb
    exact Heap.lt_size e
  have below : ∀ b, b < s₂.heap.objs.size → b ≠ H2.objs.size := fun b hb => by rw [hC]; exact Nat.ne_of_lt (Nat.lt_succ_of_lt hb)
  have old : ∀ b o, s₂.heap.get? b = some o → h₁.get? b = some o := fun b o e => hsb₁.extBut b o (below b (Heap.lt_size e)) (Heap.get?_push_of_some _ (hH2 ▸ Heap.get?_push_of_some _ e))
  have hacc : h₁.get? s₂.heap.objs.size = some { cls := .type "list", data := .seq ([] : List Value).toArray 0 } := hsb₁.extBut _ _ hDC (Heap.get?_push_of_some _ (hH2 ▸ Heap.get?_push_size _ rfl))
  have Yok := comp_ok (L := L) (scope := scope) (cl := cl) (C := H2.objs.size) (fp := fp) I hsc hN ok hc1 hc2 hf hlt hCle
  generalize hDn : s₂.heap.objs.size = D at *
  generalize hCn : H2.objs.size = C at *
  have st₁ : tn 0 h₁ := T.keep _ _ _ st fun b _ o e => old b o e
  -- the block's own iterators
  have cellD : ∀ x c, cl.lookup x = some c → c ≠ D := fun x c e => by
    obtain ⟨v, q⟩ := I.cell x c (hc1 x c e)
    rw [← hDn]
    exact Nat.ne_of_lt q.lt
  have fpY : ∀ {H' : Hp} {its : List Value} {n : Nat}, (∀ b ∈ fp, H' b = none) → ∀ b ∈ fp, FpOk (compCx X L scope cl C s₂ H fp) [(D, { cls := .type "list", data := .seq its.toArray n })] H' b := fun {H' its n} hn b hb => by
    refine ⟨hn b hb, (Yok.exf b hb).1, Yok.exfs b hb, .inl hb, (Yok.exf b hb).2, fun p hp => ?_⟩
    have e : p = (D, { cls := .type "list", data := .seq its.toArray n }) := by
      have : p ∈ [(D, ({ cls := .type "list", data := .seq its.toArray n } : Obj))] := hp
      simpa using this
    subst e
    exact Ne.symm (Nat.ne_of_lt (hlt b hb))
  have nfsD : D ∉ (compCx X L scope cl C s₂ H fp).fs := fun z => by
    obtain ⟨_, o, ho, _⟩ := Yok.funs.mem z
    exact absurd (show D < s₂.heap.objs.size from Heap.lt_size ho) (by rw [hDn]; exact Nat.lt_irrefl _)
  have pinD : ∀ {σ' : St} {H' : Hp} {s' : Shared} {pl : List (Addr × Obj)} {its : List Value} {n : Nat}, Inv (compCx X L scope cl C s₂ H fp) pl σ' H' s' → s'.heap.get? D = some { cls := .type "list", data := .seq its.toArray n } → H' D = none →
      Inv (compCx X L scope cl C s₂ H fp) [(D, { cls := .type "list", data := .seq its.toArray n })] σ' H' s' := fun {σ' H' s' pl its n} J e hn => J.pins_of fun p hp => by
    have e' : p = (D, { cls := .type "list", data := .seq its.toArray n }) := by simpa using hp
    subst e'
    exact ⟨e, hn, hDC, nfsD, fun v z => by cases z⟩
  have I₁ : Inv (compCx X L scope cl C s₂ H fp) [] (σ ++ List.replicate L.length none) H { s₂ with heap := h₁, toks := s₂.toks + ([] : List (Str × Value)).length } :=
    comp_start I hsc hN ok hc1 Yok (by rw [hDn]; exact hCle) rfl I.bare old hns₁
  have HD : H D = none := I.hok.fresh (by rw [hDn]; exact Nat.le_refl _)
  obtain ⟨W, ⟨m0, w0⟩, turn⟩ := hw
  have loop : codeAny (model X.prog X.w) X.A (.compLoop (two elt tg iter tg2 iter2 ifs ifs2 scope pos) 0 (.ref it) (.ref D) (compEnvC scope cl C X.env)) (RR (.ref D) C)
      { s₂ with heap := h₁, toks := s₂.toks + ([] : List (Str × Value)).length } := by
    refine loop_out (hs2 _) (fun n s' => ∃ i ys its k σ' H', Inv (compCx X L scope cl C s₂ H fp) [(D, { cls := .type "list", data := .seq its.toArray k })] σ' H' s' ∧ Vals ys its ∧ ys.length ≤ sizeLine ∧ tn i s'.heap ∧ (∀ b ∈ fp, H' b = none) ∧ W i n ys σ' H')
      ?_ m0 ⟨0, [], [], 0, _, H, pinD I₁ hacc HD, .nil, Nat.zero_le _, st₁, fun b hb => (hf b hb).1, w0⟩
    rintro n s3 ⟨i, ys, its, k, σ3, H3, I3, hv3, hz3, st3, fr3, w3⟩
    have hp3 := I3.pin (D, { cls := .type "list", data := .seq its.toArray k }) (by simp)
    rcases turn i n ys σ3 H3 w3 with ⟨stop, q⟩ | ⟨go, Nx, hNx, step⟩
    · refine thn (T.done (compCx X L scope cl C s₂ H fp) rfl rfl rfl hc i _ s3 σ3 H3 _ I3 (fpY fr3) st3 stop) fun r s4 ⟨hr, I4⟩ => ?_
      subst hr
      have hp4 := I4.pin (D, { cls := .type "list", data := .seq its.toArray k }) (by simp)
      obtain ⟨m4, hn4, _⟩ := I4.loc
      exact hR D C m4 H3 s4 ys hn4 rfl (by rw [hC]; exact Nat.lt_succ_self _) I4.free hDC (comp_back I hf hDn I4 hp4.1 hp4.2.1 hv3 hz3) (q D hp4.2.1)
    · refine thn (T.item (compCx X L scope cl C s₂ H fp) rfl rfl rfl hc i _ s3 σ3 H3 _ I3 (fpY fr3) st3 go) fun r s4 ⟨u, hr, h4⟩ => ?_
      subst hr
      refine thn h4 fun _ s5 ⟨x, H5, I5, r5, y5, st5, fr5⟩ => ?_
      have I5' := I5.pinned (fpY fr5) (T.obj _ _ st5)
      refine thn (hg cl C s₂ H fp _ s5 σ3 H5 x u _ I5' r5 (step x H5 y5)) fun _ s6 ⟨σ6, H6, I6, q6⟩ => ?_
      refine thn (hi cl C s₂ H fp _ s6 σ6 H6 _ I6 q6) fun ok s7 ⟨H7, I7, q7⟩ => ?_
      have later : ∀ {σ' : St} {H' : Hp} {s' : Shared}, Inv (compCx X L scope cl C s₂ H fp) ([(D, { cls := .type "list", data := .seq its.toArray k })] ++ pinsAt fp s5.heap) σ' H' s' →
          tn (i + 1) s'.heap ∧ (∀ b ∈ fp, H' b = none) ∧ s'.heap.get? D = some { cls := .type "list", data := .seq its.toArray k } ∧ H' D = none := fun {σ' H' s'} J => by
        refine ⟨T.keep _ _ _ st5 fun b hb o e => (J.pin (b, o) (List.mem_append_right _ (List.mem_append_right _ (mem_pinsAt hb e)))).1, fun b hb => ?_, ?_⟩
        · obtain ⟨o, e, d⟩ := T.obj _ _ st5 b hb
          exact (J.pin (b, o) (List.mem_append_right _ (List.mem_append_right _ (mem_pinsAt hb e)))).2.1
        · have z := J.pin (D, { cls := .type "list", data := .seq its.toArray k }) (List.mem_append_right _ (List.mem_append_left _ (by simp)))
          exact ⟨z.1, z.2.1⟩
      cases ok with
      | false =>
        rw [if_neg (by simp)] at q7 ⊢
        obtain ⟨m', hm', w'⟩ := hNx _ _ _ q7
        obtain ⟨t1, t2, t3, t4⟩ := later I7
        exact ⟨m', hm', i + 1, ys, its, k, σ6, H7, pinD I7 t3 t4, hv3, hz3, t1, t2, w'⟩
      | true =>
        rw [if_pos rfl] at q7 ⊢
        refine thn (hi2 cl C s₂ H fp _ s7 σ6 H7 _ I7 q7) fun v2 s8 h8 => thn h8 fun itv s9 h9 => ?_
        obtain ⟨it2, fp2, tn2, J2, H9, e9, I9, T2, st9, f9, W2, ⟨m2, w9⟩, turn2⟩ := h9
        subst e9
        have fp2Y : ∀ {H' : Hp} {its' : List Value} {k' : Nat}, (∀ b ∈ fp2, H' b = none) → ∀ b ∈ fp2, FpOk (compCx X L scope cl C s₂ H fp) ([(D, { cls := .type "list", data := .seq its'.toArray k' })] ++ pinsAt fp s5.heap) H' b := fun {H' its' k'} hn b hb => by
          obtain ⟨_, z1, z2, z3, z4, z5⟩ := f9 b hb
          refine ⟨hn b hb, z1, z2, z3, z4, fun p hp => ?_⟩
          rcases List.mem_append.mp hp with hp | hp
          · exact z5 p (List.mem_append_left _ hp)
          · rcases List.mem_append.mp hp with hp | hp
            · have e : p = (D, { cls := .type "list", data := .seq its'.toArray k' }) := by simpa using hp
              subst e
              exact z5 (D, { cls := .type "list", data := .seq its.toArray k }) (List.mem_append_right _ (List.mem_append_left _ (by simp)))
            · exact z5 p (List.mem_append_right _ (List.mem_append_right _ hp))
        have nbD : ∀ b ∈ fp, b ≠ D := fun b hb => Nat.ne_of_lt (hlt b hb)
        have outer : ∀ {σ' : St} {H' : Hp} {s' : Shared} {ys' : List V} {its' : List Value} {k' : Nat} {pl : List (Addr × Obj)}, Inv (compCx X L scope cl C s₂ H fp) ([(D, { cls := .type "list", data := .seq its'.toArray k' })] ++ pinsAt fp s5.heap) σ' H' s' → Vals ys' its' → ys'.length ≤ sizeLine → Nx ys' σ' H' →
            ∃ m', m' < n ∧ ∃ i ys its k σ' H', Inv (compCx X L scope cl C s₂ H fp) [(D, { cls := .type "list", data := .seq its.toArray k })] σ' H' s' ∧ Vals ys its ∧ ys.length ≤ sizeLine ∧ tn i s'.heap ∧ (∀ b ∈ fp, H' b = none) ∧ W i m' ys σ' H' := fun {σ' H' s' ys' its' k' pl} J hv hz nx => by
          obtain ⟨m', hm', w'⟩ := hNx _ _ _ nx
          have z := J.pin (D, { cls := .type "list", data := .seq its'.toArray k' }) (List.mem_append_right _ (List.mem_append_left _ (by simp)))
          refine ⟨m', hm', i + 1, ys', its', k', σ', H', pinD J z.1 z.2.1, hv, hz, ?_, fun b hb => ?_, w'⟩
          · exact T.keep _ _ _ st5 fun b hb o e => (J.pin (b, o) (List.mem_append_right _ (List.mem_append_right _ (mem_pinsAt hb e)))).1
          · obtain ⟨o, e, d⟩ := T.obj _ _ st5 b hb
            exact (J.pin (b, o) (List.mem_append_right _ (List.mem_append_right _ (mem_pinsAt hb e)))).2.1
        have loop2 : codeAny (model X.prog X.w) X.A (.compLoop (two elt tg iter tg2 iter2 ifs ifs2 scope pos) 1 (.ref it2) (.ref D) (compEnvC scope cl C X.env)) (fun r s₆ => r = .ok .next ∧ ∃ m', m' < n ∧ ∃ i ys its k σ' H', Inv (compCx X L scope cl C s₂ H fp) [(D, { cls := .type "list", data := .seq its.toArray k })] σ' H' s₆ ∧ Vals ys its ∧ ys.length ≤ sizeLine ∧ tn i s₆.heap ∧ (∀ b ∈ fp, H' b = none) ∧ W i m' ys σ' H') s9 := by
          refine loop_in (fun n2 s' => ∃ j ys2 its2 k2 σ' H', Inv (compCx X L scope cl C s₂ H fp) ([(D, { cls := .type "list", data := .seq its2.toArray k2 })] ++ pinsAt fp s5.heap) σ' H' s' ∧ Vals ys2 its2 ∧ ys2.length ≤ sizeLine ∧ tn2 j s'.heap ∧ (∀ b ∈ fp2, H' b = none) ∧ W2 j n2 ys2 σ' H')
            ?_ m2 ⟨0, ys, its, k, σ6, H9, I9, hv3, hz3, st9, fun b hb => (f9 b hb).1, w9⟩
          rintro n2 t3 ⟨j, ys2, its2, k2, ρ3, G3, I3', hv3', hz3', st3', fr3', w3'⟩
          rcases turn2 j n2 ys2 ρ3 G3 w3' with ⟨stop2, q2⟩ | ⟨go2, hlen2, N2, hN2, step2⟩
          · refine thn (T2.done (compCx X L scope cl C s₂ H fp) rfl rfl rfl hc j _ t3 ρ3 G3 _ I3' (fp2Y fr3') st3' stop2) fun r s4 ⟨hr, I4⟩ => ?_
            subst hr
            exact ⟨rfl, outer (pl := []) I4 hv3' hz3' q2⟩
          · refine thn (T2.item (compCx X L scope cl C s₂ H fp) rfl rfl rfl hc j _ t3 ρ3 G3 _ I3' (fp2Y fr3') st3' go2) fun r s4 ⟨u, hr, h4⟩ => ?_
            subst hr
            refine thn h4 fun _ t5 ⟨x, G5, J5, r5', y5', st5', fr5'⟩ => ?_
            have J5' := J5.pinned (fp2Y fr5') (T2.obj _ _ st5')
            refine thn (hg2 cl C s₂ H fp _ t5 ρ3 G5 x u _ J5' r5' (step2 x G5 y5')) fun _ t6 ⟨ρ6, G6, J6, q6'⟩ => ?_
            refine thn (hf2 cl C s₂ H fp _ t6 ρ6 G6 _ J6 q6') fun ok t7 ⟨G7, J7, q7'⟩ => ?_
            have later2 : ∀ {σ' : St} {H' : Hp} {s' : Shared}, Inv (compCx X L scope cl C s₂ H fp) (([(D, { cls := .type "list", data := .seq its2.toArray k2 })] ++ pinsAt fp s5.heap) ++ pinsAt fp2 t5.heap) σ' H' s' →
                tn2 (j + 1) s'.heap ∧ (∀ b ∈ fp2, H' b = none) ∧ s'.heap.get? D = some { cls := .type "list", data := .seq its2.toArray k2 } ∧ H' D = none := fun {σ' H' s'} J => by
              refine ⟨T2.keep _ _ _ st5' fun b hb o e => (J.pin (b, o) (List.mem_append_right _ (List.mem_append_right _ (mem_pinsAt hb e)))).1, fun b hb => ?_, ?_⟩
              · obtain ⟨o, e, d⟩ := T2.obj _ _ st5' b hb
                exact (J.pin (b, o) (List.mem_append_right _ (List.mem_append_right _ (mem_pinsAt hb e)))).2.1
              · have z := J.pin (D, { cls := .type "list", data := .seq its2.toArray k2 }) (List.mem_append_right _ (List.mem_append_left _ (List.mem_append_left _ (by simp))))
                exact ⟨z.1, z.2.1⟩
            cases ok with
            | false =>
              rw [if_neg (by simp)] at q7' ⊢
              obtain ⟨m', hm', w'⟩ := hN2 _ _ _ q7'
              obtain ⟨t1, t2, t3, t4⟩ := later2 J7
              exact ⟨m', hm', j + 1, ys2, its2, k2, ρ6, G7, J7.unpinned, hv3', hz3', t1, t2, w'⟩
            | true =>
              rw [if_pos rfl] at q7' ⊢
              refine thn (he cl C s₂ H fp _ t7 ρ6 G7 _ J7 q7') fun y t8 ⟨v, G8, J8, r8, q8⟩ => ?_
              obtain ⟨m', hm', w'⟩ := hN2 _ _ _ q8
              obtain ⟨t1, t2, t3, t4⟩ := later2 J8
              refine append_at (hsz := by rw [List.size_toArray, ← hv3'.length]; exact hz3') t3 fun h9 hs9 hD9 => ?_
              have nb2D : ∀ b ∈ fp2, b ≠ D := fun b hb z => (f9 b hb).2.2.2.2.2 (D, { cls := .type "list", data := .seq its.toArray k }) (List.mem_append_right _ (List.mem_append_left _ (by simp))) z.symm
              have J9 : Inv (compCx X L scope cl C s₂ H fp) [] ρ6 G8 { t8 with heap := h9 } := (J8.pins_of (pins' := []) (fun p hp => by simp at hp)).turned (it := D) (t' := t8.toks) (fun b o hb e => hs9.extBut b o hb e) t4 hDC
                (.inr (by show s₂.heap.objs.size ≤ D; rw [hDn]; exact Nat.le_refl _)) cellD (fun p hp => by
                  have : p ∈ ([] : List (Addr × Obj)) := hp
                  simp at this)
              have J9' : Inv (compCx X L scope cl C s₂ H fp) ([(D, { cls := .type "list", data := .seq (its2 ++ [y]).toArray (k2 + 1) })] ++ pinsAt fp s5.heap) ρ6 G8 { t8 with heap := h9 } := J9.pins_of fun p hp => by
                rcases List.mem_append.mp hp with hp | hp
                · have e' : p = (D, { cls := .type "list", data := .seq (its2 ++ [y]).toArray (k2 + 1) }) := by simpa using hp
                  subst e'
                  exact ⟨(by rw [hD9]; simp), t4, hDC, nfsD, fun v z => by cases z⟩
                · have z := J8.pin p (List.mem_append_right _ (List.mem_append_left _ (List.mem_append_right _ hp)))
                  have hpD : p.1 ≠ D := by
                    exact nbD p.1 (of_pinsAt hp).1
                  exact ⟨hs9.extBut _ _ hpD z.1, z.2⟩
              refine ⟨m', hm', j + 1, ys2 ++ [v], its2 ++ [y], k2 + 1, ρ6, G8, J9', hv3'.append (.cons r8 .nil), by simp; omega, T2.keep _ _ _ t1 fun b hb o e => hs9.extBut b o (nb2D b hb) e, t2, w'⟩
        exact codeAny_start_two loop2 (T2.self _ 0 _ _ _ st9 loop2)
  exact codeAny_compStart_list loop (T.self _ 0 _ _ _ st₁ loop)
theorem pe_comp2 {L : List Str} {scope sc : Scope} {N : List Str} {tg elt iter tg2 iter2 : Expr} {ifs ifs2 : List Expr} {pos : Pos} {wi : TI} {g : TG} {tt : TT} {wi2 : TI} {g2 : TG} {tt2 : TT} {te : TE}
    (hc : X.calm = true) (hsc : X.env.scope = sc) (hN : X.N = N) (ok : compOk sc N L scope = true)
    (hi : PI X tg iter wi) (hg : ∀ cl C s₂ H₂ fp, PG (compCx X L scope cl C s₂ H₂ fp) tg g) (hf : ∀ cl C s₂ H₂ fp, Ifs (compCx X L scope cl C s₂ H₂ fp) ifs tt) (hi2 : ∀ cl C s₂ H₂ fp, PI (compCx X L scope cl C s₂ H₂ fp) tg2 iter2 wi2) (hg2 : ∀ cl C s₂ H₂ fp, PG (compCx X L scope cl C s₂ H₂ fp) tg2 g2) (hf2 : ∀ cl C s₂ H₂ fp, Ifs (compCx X L scope cl C s₂ H₂ fp) ifs2 tt2) (he : ∀ cl C s₂ H₂ fp, PE (compCx X L scope cl C s₂ H₂ fp) elt te)
    (hs : ∀ x, foldedSetIterable iter X.env x = pure x := by intro _; rfl) (hs2 : ∀ env x, foldedSetIterable iter2 env x = pure x := by intro _ _; rfl) :
    PE X (two elt tg iter tg2 iter2 ifs ifs2 scope pos) (tComp2 L.length wi g tt wi2 g2 tt2 te) := by
  intro pins s σ H Q I h
  obtain ⟨cl, hcl, hc1, hc2⟩ := closure_of (env := X.env) (scope := scope) fun y hy hfr => by
    refine I.ok.has y.1 ?_
    have z := (compOk_at ok hy).2.2 hfr
    rw [← hsc] at z
    exact z
  rw [eval_ListComp]
  refine wpAny_comprehension_free (use := none) rfl hs hcl (compOk_kind ok) (fun y hy hl => ((compOk_at ok hy).2.1 hl).1) (thn (hi pins s σ H _ I h) fun v s1 h1 => thn h1 fun itv s2 h2 => ?_)
  obtain ⟨it, fp, tn, J, H2, e, I2, T, st2, f2, hw⟩ := h2
  subst e
  refine comp_block2 (RR := fun acc C => compPost (model X.prog X.w) X.A X.xe none (EP X pins σ Q) acc C) hc hsc hN ok hc1 hc2 hg hf hi2 hg2 hf2 he hs2 I2 T st2 f2 hw ?_
  intro D C m H' s' ys hns hD hC hHC hDC J' q
  refine ⟨m, hns, fun h'' hs'' => ⟨.ref D, upd H' D (.lst ys), ?_, rfl, q⟩⟩
  have hsz := I2.sz
  refine J'.turned (it := C) (t' := s'.toks) (fun b o hb e => hs''.extBut b o hb e) (by rw [upd_ne (Ne.symm hDC)]; exact hHC) (Ne.symm (Nat.ne_of_lt (Nat.lt_trans I2.lt hC))) (.inr (Nat.le_trans hsz (Nat.le_of_lt hC))) (fun x c e => ?_) (fun p hp => ?_)
  · obtain ⟨v, z⟩ := I2.cell x c e
    exact Nat.ne_of_lt (Nat.lt_trans z.lt hC)
  · exact Nat.ne_of_lt (Nat.lt_trans (Heap.lt_size (I2.pin p hp).1) hC)
end
end L2
set_option Elab.async false
set_option linter.all false
set_option maxRecDepth 100000
set_option maxHeartbeats 4000000
namespace L2
open PySem PySem.Spec PyProof.Rows
section
variable {X : Cx} {K : PySem.W.Frag} {tg iter tg2 iter2 : Expr} {pos : Pos}
def dComp2 (k : Nat) (ti : TId) (g : TGd) (tt : TTd) (ti2 : TId) (g2 : TGd) (tt2 : TTd) (te : TEd) : TEd := fun ρ μ Q => ti ρ μ fun J μ1 => ∃ Pv : Nat → List PyData → Rho → Mu → Prop, Pv 0 [] (ρ ++ List.replicate k none) μ1 ∧ (∀ i ys ρ' μ', i ≤ J.n → Pv i ys ρ' μ' → J.ok μ') ∧
  (∀ i ys ρ' μ', i < J.n → Pv i ys ρ' μ' → g (J.item i) ρ' μ' fun ρ2 μ2 => tt ρ2 μ2 fun b μ3 => if b = true then ti2 ρ2 μ3 fun J2 μ4 =>
      ∃ Pv2 : Nat → List PyData → Rho → Mu → Prop, Pv2 0 ys ρ2 μ4 ∧ (∀ j ys ρ' μ', j ≤ J2.n → Pv2 j ys ρ' μ' → J2.ok μ' ∧ ys.length < 1000) ∧
        (∀ j ys ρ' μ', j < J2.n → Pv2 j ys ρ' μ' → g2 (J2.item j) ρ' μ' fun ρ2 μ2 => tt2 ρ2 μ2 fun b μ3 => if b = true then te ρ2 μ3 fun y μ4 => ∃ z, y = .d z ∧ Pv2 (j + 1) (ys ++ [z]) ρ2 μ4 else Pv2 (j + 1) ys ρ2 μ3) ∧
        ∀ ys ρ' μ', Pv2 J2.n ys ρ' μ' → Pv (i + 1) ys ρ' μ'
    else Pv (i + 1) ys ρ2 μ3) ∧
  ∀ ys ρ' μ', Pv J.n ys ρ' μ' → Fin1 Q ys μ'
theorem up_comp2 {k : Nat} {ti : TId} {g : TGd} {tt : TTd} {ti2 : TId} {g2 : TGd} {tt2 : TTd} {te : TEd} {σ : St} {H : Hp} {Q : VK} (h : up K (dComp2 k ti g tt ti2 g2 tt2 te) σ H Q) : tComp2 k (upI K ti) (upG K g) (upT K tt) (upI K ti2) (upG K g2) (upT K tt2) (up K te) σ H Q := by
  obtain ⟨ρ, μ, Q0, hS, hM, h, cl⟩ := h
  refine ⟨ρ, μ, _, hS, hM, h, fun J0 μ1 J H1 q M1 s1 sim => ?_⟩
  obtain ⟨Pv, h0, hok, hstep, hend⟩ := q
  have S0 : RelS K (ρ ++ List.replicate k none) μ1 (σ ++ List.replicate k none) H1 := by
    have S1 := hS.same s1
    refine ⟨by simp [S1.len], fun i e he => ?_⟩
    by_cases hi : i < ρ.length
    · rw [List.getElem?_append_left hi] at he
      rw [List.getElem?_append_left (by rw [← S1.len]; exact hi)]
      exact S1.get i e he
    · rw [List.getElem?_append_right (by omega), List.getElem?_replicate] at he
      split at he <;> cases he
  refine ⟨fun i m ys σ' H' => m = J0.n - i ∧ i ≤ J0.n ∧ ∃ ds ρ' μ', RelS K ρ' μ' σ' H' ∧ RelM K μ' H' ∧ Same (mask μ1 H1) (mask μ' H') ∧ IsAll K (mask μ' H') ys ds ∧ Pv i ds ρ' μ', ⟨_, rfl, Nat.zero_le _, [], _, μ1, S0, M1, Same.refl _, .nil, h0⟩, ?_⟩
  rintro i m ys σ' H' ⟨rfl, hi, ds, ρ', μ', S', M', s', hA, p⟩
  have sm := sim μ' H' M' s' (hok i ds ρ' μ' hi p) i
  by_cases hlt : i < J0.n
  · obtain ⟨hgo, hyl⟩ := sm.1 hlt
    refine .inr ⟨hgo, fun ys2 σ2 H2 => ∃ ds ρ' μ', RelS K ρ' μ' σ2 H2 ∧ RelM K μ' H2 ∧ Same (mask μ1 H1) (mask μ' H2) ∧ IsAll K (mask μ' H2) ys2 ds ∧ Pv (i + 1) ds ρ' μ', fun ys2 σ2 H2 z => ⟨J0.n - (i + 1), by omega, rfl, hlt, z⟩, fun x H2 y => ?_⟩
    obtain ⟨M2, s2, i2⟩ := hyl x H2 y
    refine ⟨_, ρ', μ', _, i2, S'.same s2, M2, hstep i ds ρ' μ' hlt p, fun ρ3 μ3 σ3 H3 q3 S3 M3 s3 => ⟨ρ3, μ3, _, S3, M3, q3, fun b μ4 H4 q4 M4 s4 => ?_⟩⟩
    have st := ((s'.trans s2).trans s3).trans s4
    have hA4 := IsAll.same ((s2.trans s3).trans s4) hA
    cases b with
    | true =>
      refine iteT ⟨ρ3, μ4, _, S3.same s4, M4, (by simpa using q4), fun K0 ν1 K1 G1 r N1 u1 sim2 => ?_⟩
      obtain ⟨Pv2, g0, gok, gstep, gend⟩ := r
      refine ⟨fun j m ys σ' H' => m = K0.n - j ∧ j ≤ K0.n ∧ ∃ ds ρ' μ', RelS K ρ' μ' σ' H' ∧ RelM K μ' H' ∧ Same (mask ν1 G1) (mask μ' H') ∧ IsAll K (mask μ' H') ys ds ∧ Pv2 j ds ρ' μ', ⟨_, rfl, Nat.zero_le _, ds, ρ3, ν1, (S3.same s4).same u1, N1, Same.refl _, IsAll.same u1 hA4, g0⟩, ?_⟩
      rintro j m zs σ' H' ⟨rfl, hj, es, ρ', μ', R', M', v', hB, p2⟩
      obtain ⟨ok2, len2⟩ := gok j es ρ' μ' hj p2
      have sm2 := sim2 μ' H' M' v' ok2 j
      have hle := hB.len
      by_cases hlt2 : j < K0.n
      · obtain ⟨hgo2, hyl2⟩ := sm2.1 hlt2
        refine .inr ⟨hgo2, small1000 (by omega), fun ys2 σ2 H2 => ∃ ds ρ' μ', RelS K ρ' μ' σ2 H2 ∧ RelM K μ' H2 ∧ Same (mask ν1 G1) (mask μ' H2) ∧ IsAll K (mask μ' H2) ys2 ds ∧ Pv2 (j + 1) ds ρ' μ', fun ys2 σ2 H2 z => ⟨K0.n - (j + 1), by omega, rfl, hlt2, z⟩, fun x H2 y => ?_⟩
        obtain ⟨M2, s2, i2⟩ := hyl2 x H2 y
        refine ⟨_, ρ', μ', _, i2, R'.same s2, M2, gstep j es ρ' μ' hlt2 p2, fun ρ3 μ3 σ3 H3 q3 S3 M3 s3 => ⟨ρ3, μ3, _, S3, M3, q3, fun b μ4 H4 q4 M4 s4 => ?_⟩⟩
        have st2 := ((v'.trans s2).trans s3).trans s4
        cases b with
        | true =>
          refine iteT ⟨ρ3, μ4, _, S3.same s4, M4, (by simpa using q4), fun e μ5 v H5 q5 M5 s5 i5 => ?_⟩
          obtain ⟨z, rfl, q5⟩ := q5
          exact ⟨_, ρ3, μ5, (S3.same s4).same s5, M5, st2.trans s5, IsAll.snoc i5 (IsAll.same (((s2.trans s3).trans s4).trans s5) hB), q5⟩
        | false => exact iteF ⟨_, ρ3, μ4, S3.same s4, M4, st2, IsAll.same ((s2.trans s3).trans s4) hB, by simpa using q4⟩
      · have e : j = K0.n := by omega
        subst e
        exact .inl ⟨sm2.2 (Nat.le_refl _), es, ρ', μ', R', M', (st.trans u1).trans v', hB, gend es ρ' μ' p2⟩
    | false => exact iteF ⟨_, ρ3, μ4, S3.same s4, M4, st, hA4, by simpa using q4⟩
  · have e : i = J0.n := by omega
    subst e
    refine .inl ⟨sm.2 (Nat.le_refl _), fun D hD => ?_⟩
    obtain ⟨M4, s4, hn⟩ := M'.laid (o := .lst ys) hD
    exact cl _ μ' _ _ (hend ds ρ' μ' p) M4 ((s1.trans s').trans s4) (.lst (SqL.of (by rw [mask_of hn]; exact upd_same)) (IsAll.same s4 hA))
theorem d_comp2 {L : List Str} {scope sc : Scope} {N : List Str} {elt : Expr} {ifs ifs2 : List Expr} {ti : TId} {g : TGd} {tt : TTd} {ti2 : TId} {g2 : TGd} {tt2 : TTd} {te : TEd}
    (hc : X.calm = true) (hsc : X.env.scope = sc) (hN : X.N = N) (ok : compOk sc N L scope = true)
    (hi : DI K X tg iter ti) (hg : ∀ cl C s₂ H₂ fp, DG K (compCx X L scope cl C s₂ H₂ fp) tg g) (hf : ∀ cl C s₂ H₂ fp, DIfs K (compCx X L scope cl C s₂ H₂ fp) ifs tt)
    (hi2 : ∀ cl C s₂ H₂ fp, DI K (compCx X L scope cl C s₂ H₂ fp) tg2 iter2 ti2) (hg2 : ∀ cl C s₂ H₂ fp, DG K (compCx X L scope cl C s₂ H₂ fp) tg2 g2) (hf2 : ∀ cl C s₂ H₂ fp, DIfs K (compCx X L scope cl C s₂ H₂ fp) ifs2 tt2)
    (he : ∀ cl C s₂ H₂ fp, DE K (compCx X L scope cl C s₂ H₂ fp) elt te)
    (hs : ∀ x, foldedSetIterable iter X.env x = pure x := by intro _; rfl) (hs2 : ∀ env x, foldedSetIterable iter2 env x = pure x := by intro _ _; rfl) :
    DE K X (.ListComp elt [⟨tg, iter, ifs, 0⟩, ⟨tg2, iter2, ifs2, 0⟩] scope pos) (dComp2 L.length ti g tt ti2 g2 tt2 te) := PE.mono (pe_comp2 hc hsc hN ok hi hg hf hi2 hg2 hf2 he hs hs2) fun _ _ _ => up_comp2
end
end L2
set_option Elab.async false
set_option linter.all false
set_option maxRecDepth 100000
set_option maxHeartbeats 4000000
namespace L2
def vl (n p : Pt) : Int := n.1 * p.1 + n.2 * p.2
def vls (n : Pt) (ps : List Pt) : List Int := ps.map fun q => n.1 * q.1 + n.2 * q.2
theorem vls_len (n : Pt) (ps : List Pt) : (vls n ps).length = ps.length := by unfold vls; rw [List.length_map]
def Hv (n a : Pt) (A : List Pt) : Prop := hlvI (vl n a) (vls n A) = true
theorem cLt_vls (c : Int) (n : Pt) (A : List Pt) : cLt c (vls n A) = A.countP fun p => decide (vl n p < c) := by
  unfold cLt vls
  rw [List.countP_map]; rfl
theorem cGt_vls (c : Int) (n : Pt) (A : List Pt) : cGt c (vls n A) = A.countP fun p => decide (c < vl n p) := by
  unfold cGt vls
  rw [List.countP_map]; rfl
theorem hv_iff {n a : Pt} {A : List Pt} : Hv n a A ↔ 2 * (A.countP fun p => decide (vl n p < vl n a)) ≤ A.length ∧ 2 * (A.countP fun p => decide (vl n a < vl n p)) ≤ A.length := by
  unfold Hv hlvI
  rw [Bool.and_eq_true, cLt_vls, cGt_vls, vls_len]
  simp only [decide_eq_true_eq]
theorem hv_mono {n m a b : Pt} {A : List Pt} (h1 : ∀ p ∈ A, vl m p < vl m b → vl n p < vl n a) (h2 : ∀ p ∈ A, vl m b < vl m p → vl n a < vl n p) (h : Hv n a A) : Hv m b A := by
  rw [hv_iff] at h ⊢
  have e1 : (A.countP fun p => decide (vl m p < vl m b)) ≤ A.countP fun p => decide (vl n p < vl n a) := List.countP_mono_left fun p hp z => decide_eq_true (h1 p hp (of_decide_eq_true z))
  have e2 : (A.countP fun p => decide (vl m b < vl m p)) ≤ A.countP fun p => decide (vl n a < vl n p) := List.countP_mono_left fun p hp z => decide_eq_true (h2 p hp (of_decide_eq_true z))
  omega
theorem hv_nil (n a : Pt) : Hv n a [] := by rw [hv_iff]; simp
theorem hv_mid (n : Pt) {A : List Pt} (h : A ≠ []) : ∃ a ∈ A, Hv n a A := by
  have hn : vls n A ≠ [] := fun z => h (by unfold vls at z; exact List.map_eq_nil_iff.mp z)
  have hl : 0 < (vls n A).length := List.length_pos_iff.mpr hn
  have hm : midLo (vls n A) ∈ vls n A := by
    unfold midLo
    have hj : ((vls n A).length - 1) / 2 < (srt (vls n A)).length := by rw [srt_len]; omega
    rw [List.getD_eq_getElem?_getD, List.getElem?_eq_getElem hj]
    exact (srt_perm _).mem_iff.mp (List.getElem_mem hj)
  have hm' := hm
  unfold vls at hm'
  obtain ⟨a, ha, ea⟩ := List.mem_map.mp hm'
  refine ⟨a, ha, ?_⟩
  unfold Hv
  have : vl n a = midLo (vls n A) := ea
  rw [this]
  exact (mid_halves hn _).mpr ⟨Int.le_refl _, mid_le hn⟩
theorem hv_amid {n a b c : Pt} {A : List Pt} (h1 : Hv n a A) (h2 : Hv n b A) (l1 : vl n a ≤ vl n c) (l2 : vl n c ≤ vl n b) : Hv n c A := by
  rw [hv_iff] at h1 h2 ⊢
  have e1 : (A.countP fun p => decide (vl n p < vl n c)) ≤ A.countP fun p => decide (vl n p < vl n b) := List.countP_mono_left fun p hp z => by
    have := of_decide_eq_true z
    exact decide_eq_true (by omega)
  have e2 : (A.countP fun p => decide (vl n c < vl n p)) ≤ A.countP fun p => decide (vl n a < vl n p) := List.countP_mono_left fun p hp z => by
    have := of_decide_eq_true z
    exact decide_eq_true (by omega)
  omega
def ng (n : Pt) : Pt := (-n.1, -n.2)
theorem vl_ng (n p : Pt) : vl (ng n) p = - vl n p := by unfold vl ng; grind
theorem hv_ng {n a : Pt} {A : List Pt} (h : Hv n a A) : Hv (ng n) a A := by
  rw [hv_iff] at h ⊢
  simp only [vl_ng, Int.neg_lt_neg_iff]
  exact ⟨h.2, h.1⟩
def wy (p q : Pt) : Pt := (q.2 - p.2, p.1 - q.1)
section
variable {A B : List Pt}
def Done (A B : List Pt) : Prop := ∃ (n a : Pt), a ∈ A ++ B ∧ n ≠ (0, 0) ∧ Hv n a A ∧ Hv n a B
def Lw (A B : List Pt) (n : Pt) : Prop := ∀ a ∈ A, ∀ b ∈ B, Hv n a A → Hv n b B → vl n a < vl n b
theorem lw_or (hA : A ≠ []) (hB : B ≠ []) (nd : ¬ Done A B) {n : Pt} (hn : n ≠ (0, 0)) : Lw A B n ∨ Lw B A n := by
  obtain ⟨a0, ha0, va0⟩ := hv_mid n hA
  obtain ⟨b0, hb0, vb0⟩ := hv_mid n hB
  have noA : ∀ a ∈ A, Hv n a A → ¬ Hv n a B := fun a ha h1 h2 => nd ⟨n, a, List.mem_append_left _ ha, hn, h1, h2⟩
  have noB : ∀ b ∈ B, Hv n b B → ¬ Hv n b A := fun b hb h1 h2 => nd ⟨n, b, List.mem_append_right _ hb, hn, h2, h1⟩
  have key : ∀ a ∈ A, ∀ b ∈ B, Hv n a A → Hv n b B → ∀ a' ∈ A, ∀ b' ∈ B, Hv n a' A → Hv n b' B → vl n a < vl n b → vl n a' < vl n b' := by
    intro a ha b hb h1 h2 a' ha' b' hb' h1' h2' hlt
    by_cases z : vl n a' < vl n b'
    · exact z
    · exfalso
      by_cases y : vl n b ≤ vl n a'
      · exact noB b hb h2 (hv_amid h1 h1' (by omega) y)
      · exact noA a' ha' h1' (hv_amid h2' h2 (by omega) (by omega))
  by_cases c : vl n a0 < vl n b0
  · exact .inl fun a ha b hb h1 h2 => key a0 ha0 b0 hb0 va0 vb0 a ha b hb h1 h2 c
  · refine .inr fun b hb a ha h2 h1 => ?_
    by_cases z : vl n b < vl n a
    · exact z
    · exfalso
      by_cases y : vl n a < vl n b
      · exact c (key a ha b hb h1 h2 a0 ha0 b0 hb0 va0 vb0 y)
      · have e : vl n a = vl n b := by omega
        exact noA a ha h1 (hv_amid h2 h2 (by omega) (by omega))
theorem lw_not (hA : A ≠ []) (hB : B ≠ []) {n : Pt} (h1 : Lw A B n) (h2 : Lw B A n) : False := by
  obtain ⟨a0, ha0, va0⟩ := hv_mid n hA
  obtain ⟨b0, hb0, vb0⟩ := hv_mid n hB
  have := h1 a0 ha0 b0 hb0 va0 vb0
  have := h2 b0 hb0 a0 ha0 vb0 va0
  omega
theorem ng_ng (n : Pt) : ng (ng n) = n := by unfold ng; simp
theorem lw_ng {n : Pt} (h : Lw A B n) : Lw B A (ng n) := fun b hb a ha h2 h1 => by
  have k1 := hv_ng h1
  have k2 := hv_ng h2
  rw [ng_ng] at k1 k2
  have := h a ha b hb k1 k2
  rw [vl_ng, vl_ng]
  omega
def Btw (d e x : Pt) : Bool := decide (0 < crs d x) && decide (0 < crs x e)
theorem btw_iff {d e x : Pt} : Btw d e x = true ↔ 0 < crs d x ∧ 0 < crs x e := by
  unfold Btw
  rw [Bool.and_eq_true, decide_eq_true_eq, decide_eq_true_eq]
def ways (P : List Pt) : List Pt := P.flatMap fun p => P.map fun q => wy p q
theorem ways_mem {P : List Pt} {p q : Pt} (hp : p ∈ P) (hq : q ∈ P) : wy p q ∈ ways P := List.mem_flatMap.mpr ⟨p, hp, List.mem_map.mpr ⟨q, hq, rfl⟩⟩
theorem crs_wy (d p q : Pt) : crs d (wy p q) = vl d p - vl d q := by unfold crs wy vl; grind
theorem wy_crs (d p q : Pt) : crs (wy p q) d = vl d q - vl d p := by unfold crs wy vl; grind
theorem vl_add (d e p : Pt) : vl (d.1 + e.1, d.2 + e.2) p = vl d p + vl e p := by unfold vl; grind
theorem pass {P : List Pt} {d e : Pt} (no : ∀ x ∈ ways P, Btw d e x = false) {p a : Pt} (hp : p ∈ P) (ha : a ∈ P) : ¬ (vl d p < vl d a ∧ vl e a < vl e p) := fun ⟨h1, h2⟩ => by
  have := no (wy a p) (ways_mem ha hp)
  have z : Btw d e (wy a p) = true := btw_iff.mpr ⟨by rw [crs_wy]; omega, by rw [wy_crs]; omega⟩
  rw [z] at this
  exact absurd this (by decide)
theorem moved {P A : List Pt} (hP : ∀ p ∈ A, p ∈ P) {d e : Pt} (no : ∀ x ∈ ways P, Btw d e x = false) {a : Pt} (ha : a ∈ P) (h : Hv (d.1 + e.1, d.2 + e.2) a A) : Hv d a A ∧ Hv e a A := by
  refine ⟨hv_mono (fun p hp z => ?_) (fun p hp z => ?_) h, hv_mono (fun p hp z => ?_) (fun p hp z => ?_) h⟩
  all_goals
    have k1 := pass no (hP p hp) ha
    have k2 := pass no ha (hP p hp)
    rw [vl_add, vl_add]
    omega
theorem lw_near (hA : A ≠ []) (hB : B ≠ []) (nd : ¬ Done A B) {d e : Pt} (hde : 0 < crs d e) (no : ∀ x ∈ ways (A ++ B), Btw d e x = false) (h : Lw A B d) : Lw A B e := by
  have he : e ≠ (0, 0) := fun z => by rw [z] at hde; unfold crs at hde; simp at hde
  rcases lw_or hA hB nd he with h1 | h1
  · exact h1
  exfalso
  obtain ⟨a, ha, va⟩ := hv_mid (d.1 + e.1, d.2 + e.2) hA
  obtain ⟨b, hb, vb⟩ := hv_mid (d.1 + e.1, d.2 + e.2) hB
  have ma : a ∈ A ++ B := List.mem_append_left _ ha
  have mb : b ∈ A ++ B := List.mem_append_right _ hb
  obtain ⟨a1, a2⟩ := moved (fun p hp => List.mem_append_left _ hp) no ma va
  obtain ⟨b1, b2⟩ := moved (fun p hp => List.mem_append_right _ hp) no mb vb
  have l1 := h a ha b hb a1 b1
  have l2 := h1 b hb a ha b2 a2
  exact pass no ma mb ⟨l1, l2⟩
theorem cnt_lt {α : Type} {p q : α → Bool} {l : List α} (h : ∀ x ∈ l, p x = true → q x = true) {x : α} (hx : x ∈ l) (h1 : q x = true) (h2 : p x = false) : l.countP p < l.countP q := by
  induction l with
  | nil => exact (nomatch hx)
  | cons y l ih =>
    have sub : l.countP p ≤ l.countP q := List.countP_mono_left fun z hz => h z (List.mem_cons_of_mem _ hz)
    rcases List.mem_cons.mp hx with rfl | hx
    · rw [List.countP_cons_of_neg (by rw [h2]; decide), List.countP_cons_of_pos h1]; omega
    · have := ih (fun z hz => h z (List.mem_cons_of_mem _ hz)) hx
      have hy := h y List.mem_cons_self
      rw [List.countP_cons, List.countP_cons]
      by_cases z : p y = true
      · rw [if_pos z, if_pos (hy z)]; omega
      · rw [if_neg z]; omega
theorem plk (a b c d : Pt) : crs a b * crs c d = crs a c * crs b d - crs a d * crs b c := by unfold crs; grind
theorem crs_anti (a b : Pt) : crs a b = - crs b a := by unfold crs; grind
theorem pos_of_mul {x y : Int} (hx : 0 < x) (h : 0 < x * y) : 0 < y := by
  rcases Int.lt_trichotomy y 0 with z | z | z
  · have := Int.mul_neg_of_pos_of_neg hx z; omega
  · rw [z, Int.mul_zero] at h; omega
  · exact z
theorem btw_l {d e x y : Pt} (hde : 0 < crs d e) (h1 : 0 < crs d x) (h2 : 0 < crs x e) (k1 : 0 < crs d y) (k2 : 0 < crs y x) : 0 < crs y e := by
  refine pos_of_mul h1 ?_
  rw [plk d x y e, crs_anti x y]
  have := Int.mul_pos k1 h2
  have := Int.mul_pos hde k2
  rw [Int.mul_neg]
  omega
theorem btw_r {d e x y : Pt} (hde : 0 < crs d e) (h1 : 0 < crs d x) (h2 : 0 < crs x e) (k1 : 0 < crs x y) (k2 : 0 < crs y e) : 0 < crs d y := by
  refine pos_of_mul h2 ?_
  have e1 := plk d x y e
  have := Int.mul_pos h1 k2
  have := Int.mul_pos hde k1
  have e2 : crs x e * crs d y = crs d y * crs x e := Int.mul_comm ..
  omega
theorem crs_self0 (x : Pt) : crs x x = 0 := by unfold crs; grind
theorem lw_turn (hA : A ≠ []) (hB : B ≠ []) (nd : ¬ Done A B) : ∀ (k : Nat) (d e : Pt), (ways (A ++ B)).countP (Btw d e) ≤ k → 0 < crs d e → Lw A B d → Lw A B e := by
  intro k
  induction k with
  | zero =>
    intro d e hk hde h
    refine lw_near hA hB nd hde (fun x hx => ?_) h
    have : (ways (A ++ B)).countP (Btw d e) = 0 := by omega
    rw [List.countP_eq_zero] at this
    exact Bool.eq_false_iff.mpr (this x hx)
  | succ k ih =>
    intro d e hk hde h
    by_cases hx : ∃ x ∈ ways (A ++ B), Btw d e x = true
    · obtain ⟨x, hx, bx⟩ := hx
      obtain ⟨b1, b2⟩ := btw_iff.mp bx
      have c1 : (ways (A ++ B)).countP (Btw d x) < (ways (A ++ B)).countP (Btw d e) := by
        refine cnt_lt (fun y _ hy => ?_) hx bx ?_
        · obtain ⟨y1, y2⟩ := btw_iff.mp hy
          exact btw_iff.mpr ⟨y1, btw_l hde b1 b2 y1 y2⟩
        · unfold Btw; rw [crs_self0]; simp
      have c2 : (ways (A ++ B)).countP (Btw x e) < (ways (A ++ B)).countP (Btw d e) := by
        refine cnt_lt (fun y _ hy => ?_) hx bx ?_
        · obtain ⟨y1, y2⟩ := btw_iff.mp hy
          exact btw_iff.mpr ⟨btw_r hde b1 b2 y1 y2, y2⟩
        · unfold Btw; rw [crs_self0]; simp
      exact ih x e (by omega) b2 (ih d x (by omega) b1 h)
    · refine lw_near hA hB nd hde (fun x hx' => ?_) h
      exact Bool.eq_false_iff.mpr fun z => hx ⟨x, hx', z⟩
theorem done (h : A ++ B ≠ []) : Done A B := by
  by_cases hA : A = []
  · subst hA
    obtain ⟨b, hb, vb⟩ := hv_mid (1, 0) (A := B) (by simpa using h)
    exact ⟨(1, 0), b, by simpa using hb, by simp, hv_nil _ _, vb⟩
  by_cases hB : B = []
  · subst hB
    obtain ⟨a, ha, va⟩ := hv_mid (1, 0) hA
    exact ⟨(1, 0), a, List.mem_append_left _ ha, by simp, va, hv_nil _ _⟩
  by_cases nd : Done A B
  · exact nd
  exfalso
  have turn := fun (d e : Pt) => lw_turn hA hB nd _ d e (Nat.le_refl _)
  have e1 : ng (1, 0) = (-1, 0) := rfl
  rcases lw_or hA hB nd (n := (1, 0)) (by simp) with h1 | h1
  · have h2 := turn (1, 0) (0, 1) (by decide) h1
    have h3 := turn (0, 1) (-1, 0) (by decide) h2
    have h4 := lw_ng h3
    exact lw_not hA hB h1 h4
  · have h2 := lw_ng h1
    rw [e1] at h2
    have h3 := turn (-1, 0) (0, -1) (by decide) h2
    have h4 := turn (0, -1) (1, 0) (by decide) h3
    exact lw_not hA hB h4 h1
end
end L2
set_option Elab.async false
set_option linter.all false
set_option maxRecDepth 100000
set_option maxHeartbeats 4000000
local macro_rules | `(tactic| walk_at "i") => `(tactic| first | refine ite2 (fun c => ?_) (fun c => ?_))
namespace K83
open PySem L2
def top (i : Nat) : Stmt := PySem.Challenge.pw_halveline_k83_shares_refused.main.body.getD i (.Pass ⟨0, 0, 0, 0⟩)
structure Txt (mg : Str → Option Value) : Prop where
  len_ : mg "len" = none
  range_ : mg "range" = none
  max_ : mg "max" = none
  min_ : mg "min" = none
  abs_ : mg "abs" = none
  int_ : mg "int" = none
  isinstance_ : mg "isinstance" = none
  tuple_ : mg "tuple" = none
  bool_ : mg "bool" = none
  list_ : mg "list" = none
  all_ : mg "all" = none
  any_ : mg "any" = none
  set_ : mg "set" = none
  sorted_ : mg "sorted" = none
  str_ : mg "str" = none
  enumerate_ : mg "enumerate" = none
  zip_ : mg "zip" = none
  divmod_ : mg "divmod" = none
abbrev sis_whole : Stmt := top 12
abbrev ssign : Stmt := top 13
abbrev scommon_divisor : Stmt := top 14
abbrev ssign_counts : Stmt := top 15
abbrev slead : Stmt := top 17
abbrev sthrough : Stmt := top 18
abbrev sside : Stmt := top 19
abbrev scounts : Stmt := top 20
abbrev splaces : Stmt := top 22
abbrev splace_pairs : Stmt := top 23
abbrev sturned_about : Stmt := top 25
abbrev scheck_share : Stmt := top 27
abbrev sparts : Stmt := top 28
abbrev sparting : Stmt := top 29
abbrev sis_row : Stmt := top 31
abbrev srow_line : Stmt := top 32
abbrev s_law_pot : Stmt := top 34
abbrev s_law_take : Stmt := top 35
abbrev s_law_wide : Stmt := top 36
abbrev s_law_number : Stmt := top 37
abbrev s_law_row : Stmt := top 38
abbrev s_law_thing : Stmt := top 39
abbrev s_law_is_number : Stmt := top 40
abbrev s_law_class_of : Stmt := top 41
abbrev s_law_told : Stmt := top 42
abbrev s_law_due : Stmt := top 43
abbrev s_law_right : Stmt := top 44
abbrev slaw : Stmt := top 45
structure TxtC (K : PySem.W.Frag) (mg : Str → Option Value) (CL CS CR C1 C2 C3 C4 C5 C6 C7 : Addr) : Prop where
  isinstance_ : mg "isinstance" = none
  ValueError_ : mg "ValueError" = none
  cls_LineError : mg "LineError" = some (.ref CL)
  cls_NoShare : mg "NoShare" = some (.ref CS)
  cls_NoRows : mg "NoRows" = some (.ref CR)
  cls_Empty : mg "Empty" = some (.ref C1)
  cls_Lacking : mg "Lacking" = some (.ref C2)
  cls_NoFlat : mg "NoFlat" = some (.ref C3)
  cls_NoLine : mg "NoLine" = some (.ref C4)
  cls_NoName : mg "NoName" = some (.ref C5)
  cls_NoRow : mg "NoRow" = some (.ref C6)
  cls_NoText : mg "NoText" = some (.ref C7)
  eS : PySem.W.excIn K CS bmV "ValueError.__new__" = true
  xS : ExcCls K CS
  mS : PySem.W.exmOne K (.ref CS) (.ref CL) = some true
  vS : PySem.W.kitOne K (.ref CS) (.type "ValueError") = some true
  aS : PySem.W.kitAny K (.ref CS) [.ref C1, .ref C2, .ref C3, .ref C4, .ref C5, .ref C6, .ref C7] = some false
  oS : PySem.W.kitOne K (.ref CS) (.ref CR) = some false
  eR : PySem.W.excIn K CR bmV "ValueError.__new__" = true
  xR : ExcCls K CR
  mR : PySem.W.exmOne K (.ref CR) (.ref CL) = some true
  vR : PySem.W.kitOne K (.ref CR) (.type "ValueError") = some true
  aR : PySem.W.kitAny K (.ref CR) [.ref C1, .ref C2, .ref C3, .ref C4, .ref C5, .ref C6, .ref C7] = some false
  oR : PySem.W.kitOne K (.ref CR) (.ref CS) = some false
section
variable {P : Program} {w : World} {K : PySem.W.Frag} {mg : Str → Option Value} {base : Heap} {CX : CXT}
abbrev PA0 : MO := .pot 2147483629
def sPot : SpD := fun es μ Q => ∃ (ns : List Int) (k : Nat), es = [.d (.list (ns.map .int)), .d (.int k)] ∧ ns.length ≤ 63 ∧ k ≤ 63 ∧ ∀ p, p ∉ μ.map Prod.fst → Q (.m p) ((p, PA0) :: μ)
theorem cutD_int {ns : List Int} {lo hi : Option Int} {i : Nat} {x : PyData} (h : (cutD (ns.map PyData.int) lo hi)[i]? = some x) : ∃ y, x = .int y := by
  obtain ⟨y, _, e⟩ := List.mem_map.mp (List.mem_of_mem_drop (List.mem_of_mem_take (List.mem_of_getElem? h)))
  exact ⟨y, e.symm⟩
theorem sc_pot : FnScope ["_law_script", "_law_k", "_law_cell", "_law_mixed", "_law_one"] ["_law_script", "_law_k"] (defScope s_law_pot) := ⟨rfl, rfl, rfl, by decide +kernel, rfl, by decide +kernel, by decide +kernel⟩
theorem ok_pot {f : Addr} {fd : FuncData} (F : Fun K "_law_pot" "_law_pot" s_law_pot f fd) (T : Txt mg) : FnOk P w K mg base CX 1 f fd ["_law_script", "_law_k"] (spUp K sPot) := by
  refine F.okD sc_pot (fun es μ Q ⟨ns, k, e, _⟩ => by subst e; rfl) (fun cdv A outer s H E es μ Q hr ⟨ns, n, e, hl, hn, k⟩ => ?_)
  subst e
  have nd := sc_pot.nd
  have key : ∃ t, DSs K (cxOf CX P w K mg base ["_law_script", "_law_k", "_law_cell", "_law_mixed", "_law_one"] "_law_pot" (defScope s_law_pot) f cdv A outer s H E).nox ((defBody s_law_pot).drop 1) t ∧
      ∀ cell : Int, t { nx := fun _ μ' => Q (.d .none) μ', rt := Q } [some (.d (.list (ns.map .int))), some (.d (.int n)), some (.d (.int cell)), none, none] μ := by
    refine ⟨_, (ds_cons (ds_set (i := 3) nd rfl (by first | exact Or.inl rfl | exact Or.inr rfl) (d_op do_add d_int (d_op do_mul d_int (dv 1))))
      (ds_cons (ds_for PassesOwn.never rfl (di_list (d_slice (dv 0) dp_none (dp_some d_int))) (dg_name (i := 4) nd rfl (by first | exact Or.inl rfl | exact Or.inr rfl)) (ds_one (ds_set (i := 3) nd rfl (by first | exact Or.inl rfl | exact Or.inr rfl) (d_op do_mod (d_op do_add (d_op do_mul (dv 3) d_int) (dv 4)) d_int))))
      (ds_one (ds_retF (d_lstM (da_cons (d_callB (dc_max rfl) (by rfl) T.max_ bt_max (da_cons d_int (da_cons (d_op do_sub (dv 2) (d_op do_pow d_int d_int)) da_nil))) (da_cons (dv 3) da_nil))))))), fun cell => ?_⟩
    refine ⟨⟨bigN (by decide) (by decide), bigN (by omega) (by omega)⟩, _, .d _, _, .d _, ?_⟩
    refine forL (fun i ρ' μ' => μ' = μ ∧ ∃ (z : Int) (v : Option En), ρ' = [some (.d (.list (ns.map .int))), some (.d (.int n)), some (.d (.int cell)), some (.d (.int z)), v] ∧ 0 ≤ z ∧ z < 2147483629) ⟨rfl, _, _, rfl, by omega, by omega⟩ (fun _ _ _ _ => .d _) ?_ ?_
    · rintro i x ρ' μ' hx ⟨rfl, z, v, rfl, z0, z1⟩
      obtain ⟨y, rfl⟩ := cutD_int hx
      exact ⟨⟨bigN (by omega) (by omega), bigN (by decide) (by decide)⟩, (show (0 : Int) < 2147483629 by decide), Wks.of ⟨rfl, _, _, rfl, Int.emod_nonneg _ (by decide), Int.emod_lt_of_pos _ (by decide)⟩⟩
    · rintro ρ' μ' ⟨rfl, z, v, rfl, z0, z1⟩
      refine ⟨⟨by decide, by decide, by decide⟩, zl2, fun p hp => ⟨_, _, FzR.pot ?_ z0 z1, k p hp⟩⟩
      dsimp only
      split <;> omega
  obtain ⟨t, ht, hk⟩ := key
  refine ⟨_, (ds_cons (ds_set (i := 2) nd rfl (by first | exact Or.inl rfl | exact Or.inr rfl) (d_ifExp (dt_cmp do_lt (dv 1) (d_callB dc_len (by rfl) T.len_ bt_len (da_cons (dv 0) da_nil)) (nomark _)) (d_ix dx_seq (dv 0) (dv 1) (fun _ _ => rfl)) d_int))
      ht), ?_⟩
  refine ⟨_, .l (.d _), ?_⟩
  rw [List.length_map]
  refine ite2 (fun c => ?_) (fun c => ?_)
  · have hc : (n : Int) < (ns.length : Int) := of_decide_eq_true c
    have hn2 : n < ns.length := by omega
    exact ⟨.int ns[n], atI_nat (by rw [List.getElem?_map, List.getElem?_eq_getElem hn2]; rfl), hk ns[n]⟩
  · exact hk 0
theorem sc_take : FnScope ["_law_pot_here", "_law_many", "_law_digit"] ["_law_pot_here", "_law_many"] (defScope s_law_take) := ⟨rfl, rfl, rfl, by decide +kernel, rfl, by decide +kernel, by decide +kernel⟩
theorem ok_take {f : Addr} {fd : FuncData} (F : Fun K "_law_take" "_law_take" s_law_take f fd) : FnOk P w K mg base CX 1 f fd ["_law_pot_here", "_law_many"] (spUp K (sDraw 2147483629)) := by
  refine FnOk.imp (sp := spTakeM 2147483629) ?_ fun _ _ _ _ h => draw_up h
  refine F.okG sc_take (fun vs H Q E h => ?_) (fun cdv A outer s H vs Q E hr h => ?_)
  · obtain ⟨p, m, rfl, _⟩ := h
    rfl
  · obtain ⟨p, m, rfl, ⟨p0, p1, e, h0, h1, h2⟩, m0, m1, k⟩ := h
    have nd := sc_take.nd
    refine ⟨_, (pss_cons (ps_if (pt_cmpR op_gt (pe_ix ix_list (pv 0) pe_int (fun _ _ => rfl)) pe_int (nomark _)) (pss_cons (ps_set (i := 2) nd rfl (by first | exact Or.inl rfl | exact Or.inr rfl) (pe_op op_mod (pe_ix ix_list (pv 0) pe_int (fun _ _ => rfl)) (pv 1)))
      (pss_cons (ps_asg (pe_op op_fdiv (pe_ix ix_list (pv 0) pe_int (fun _ _ => rfl)) (pv 1)) (pg_sub (pv 0) pe_int set_list))
      (pss_one (ps_ret (pv 2))))) pss_nil)
      (pss_cons (ps_asg (pe_op op_mod (pe_op op_add (pe_op op_mulB (pe_ix ix_list (pv 0) pe_int (fun _ _ => rfl)) pe_int) pe_int) pe_int) (pg_sub (pv 0) pe_int set_list))
      (pss_one (ps_ret (pe_op op_mod (pe_op op_fdiv (pe_op op_mod (pe_op op_mulB (pe_ix ix_list (pv 0) pe_int (fun _ _ => rfl)) (pe_ix ix_list (pv 0) pe_int (fun _ _ => rfl))) pe_int) pe_int) (pv 1)))))), ?_⟩
    refine ⟨_, rfl, p, _, _, _, rfl, rfl, SqL.of e, rfl, _, _, rfl, rfl, _, rfl, ?_⟩
    refine ite2 (fun c => ?_) (fun c => ?_)
    · have hc : 0 < p0 := of_decide_eq_true c
      refine ⟨_, rfl, p, _, _, _, rfl, rfl, SqL.of e, rfl, _, rfl, _, _, rfl, rfl, m0, ?_⟩
      refine ⟨_, rfl, p, _, _, _, rfl, rfl, SqL.of e, rfl, _, rfl, _, _, rfl, rfl, ⟨m0, by omega⟩, _, rfl, p, _, _, _, rfl, rfl, e, rfl, ?_⟩
      refine ⟨_, rfl, ?_⟩
      refine k _ _ (Int.emod_nonneg _ (by omega)) (Int.emod_lt_of_pos _ m0) ⟨p0 / m, p1, upd_same, Int.ediv_nonneg h0 (by omega), h1, h2⟩ Stp.upd
    · refine ⟨_, rfl, p, _, _, _, rfl, rfl, SqL.of e, rfl, _, _, rfl, rfl, ⟨Big.of 2147483629 (by decide) (by omega) (by omega), Big.of 39373 (by decide) (by decide) (by decide)⟩, _, _, rfl, rfl, _, _, rfl, rfl, (show (0 : Int) < 2147483629 by decide), _, rfl, p, _, _, _, rfl, rfl, e, rfl, ?_⟩
      have g0 : 0 ≤ (p1 * 39373 + 2311) % 2147483629 := Int.emod_nonneg _ (by decide)
      have g1 : (p1 * 39373 + 2311) % 2147483629 < 2147483629 := Int.emod_lt_of_pos _ (by decide)
      have e' : ∀ z, (upd H p (.lst [V.int p0, V.int z])) p = some (.lst [V.int p0, V.int z]) := fun z => upd_same
      refine ⟨_, rfl, p, _, _, _, rfl, rfl, SqL.of (e' _), rfl, _, rfl, p, _, _, _, rfl, rfl, SqL.of (e' _), rfl, _, _, rfl, rfl, ⟨Big.of 2147483629 (by decide) (by omega) (by omega), Big.of 2147483629 (by decide) (by omega) (by omega)⟩, _, _, rfl, rfl, (show (0 : Int) < 2147483587 by decide), _, _, rfl, rfl, ⟨by decide, by decide⟩, _, rfl, _, _, rfl, rfl, m0, ?_⟩
      exact k _ _ (Int.emod_nonneg _ (by omega)) (Int.emod_lt_of_pos _ m0) ⟨p0, _, e' _, h0, g0, g1⟩ Stp.upd
theorem e8 : (10 : Int) ^ (8 : Int).toNat = 100000000 := by decide
theorem e30 : (10 : Int) ^ (30 : Int).toNat = 1000000000000000000000000000000 := by decide
theorem sc_wide : FnScope ["_law_pot_here", "_law_found", "_law_k"] ["_law_pot_here"] (defScope s_law_wide) := ⟨rfl, rfl, rfl, by decide +kernel, rfl, by decide +kernel, by decide +kernel⟩
theorem ok_wide {f : Addr} {fd : FuncData} (F : Fun K "_law_wide" "_law_wide" s_law_wide f fd) (T : Txt mg) (hX : NoX CX) (O_law_take : Own P w K mg base CX 1 "_law_take" ["_law_pot_here", "_law_many"] (spUp K (sDraw 2147483629))) : FnOk P w K mg base CX 2 f fd ["_law_pot_here"] (spUp K (sNum 2147483629)) := by
  refine F.okD sc_wide (fun es μ Q ⟨p, e, _⟩ => by subst e; rfl) (fun cdv A outer s H E es μ Q hr ⟨p, e, hp, k⟩ => ?_)
  subst e
  have nd := sc_wide.nd
  refine ⟨_, (ds_cons (ds_set (i := 1) nd rfl (by first | exact Or.inl rfl | exact Or.inr rfl) d_int)
      (ds_cons (ds_for PassesOwn.never rfl (di_range1 rfl T.range_ (da_cons d_int da_nil)) (dg_name (i := 2) nd rfl (by first | exact Or.inl rfl | exact Or.inr rfl)) (ds_one (ds_set (i := 1) nd rfl (by first | exact Or.inl rfl | exact Or.inr rfl) (d_op do_add (d_op do_mul (dv 1) (d_op do_pow d_int d_int)) (d_own O_law_take hX (hr.mono (by decide)) rfl (da_cons (dv 0) (da_cons (d_op do_pow d_int d_int) da_nil)))))))
      (ds_one (ds_ret (d_op do_add (d_op do_sub (d_op do_mod (dv 1) (d_op do_sub (d_op do_mul d_int (d_op do_pow d_int d_int)) d_int)) (d_op do_pow d_int d_int)) d_int))))), ?_⟩
  refine ⟨by decide, by decide, forR (fun i ρ' μ' => μ' = μ ∧ ∃ (z : Int) (v : Option En), ρ' = [some (.m p), some (.d (.int z)), v] ∧ 0 ≤ z ∧ z < 100000000 ^ i) ⟨rfl, 0, none, rfl, by decide, by decide⟩ ?_ ?_⟩
  · rintro i ρ' μ' hi ⟨rfl, z, v, rfl, z0, z1⟩
    have hb : z < 10000000000000000000000000000000000000000 := by
      have : i = 0 ∨ i = 1 ∨ i = 2 ∨ i = 3 := by have hi : i < 4 := hi; omega
      rcases this with rfl | rfl | rfl | rfl <;> simp at z1 <;> omega
    refine ⟨⟨by decide, by decide, by decide⟩, ⟨bigN (by omega) (by omega), by rw [e8]; exact bigN (by decide) (by decide)⟩, ⟨by decide, by decide, by decide⟩, p, _, rfl, hp, by rw [e8]; decide, by rw [e8]; decide, fun d d0 d1 => Wks.of ⟨rfl, _, _, rfl, ?_, ?_⟩⟩
    · rw [e8] at *; omega
    · rw [e8] at *
      rw [Int.pow_succ]
      generalize (100000000 : Int) ^ i = y at z1
      omega
  · rintro ρ' μ' ⟨rfl, z, v, rfl, z0, z1⟩
    refine ⟨⟨by decide, by decide, by decide⟩, ⟨bigN (by decide) (by decide), by rw [e30]; exact bigN (by decide) (by decide)⟩, by rw [e30]; show (0 : Int) < 2 * 1000000000000000000000000000000 - 1; decide, ⟨by decide, by decide, by decide⟩, k _ ?_⟩
    rw [e30]
    unfold Num
    omega
theorem sc_number : FnScope ["_law_pot_here"] ["_law_pot_here"] (defScope s_law_number) := ⟨rfl, rfl, rfl, by decide +kernel, rfl, by decide +kernel, by decide +kernel⟩
theorem ok_number {f : Addr} {fd : FuncData} (F : Fun K "_law_number" "_law_number" s_law_number f fd) (hX : NoX CX) (O_law_take : Own P w K mg base CX 1 "_law_take" ["_law_pot_here", "_law_many"] (spUp K (sDraw 2147483629))) (O_law_wide : Own P w K mg base CX 2 "_law_wide" ["_law_pot_here"] (spUp K (sNum 2147483629))) : FnOk P w K mg base CX 3 f fd ["_law_pot_here"] (spUp K (sNum 2147483629)) := by
  refine F.okD sc_number (fun es μ Q ⟨p, e, _⟩ => by subst e; rfl) (fun cdv A outer s H E es μ Q hr ⟨p, e, hp, k⟩ => ?_)
  subst e
  have nd := sc_number.nd
  refine ⟨_, (ds_cons (ds_if (dt_cmp (do_eq hr.units) (d_own O_law_take hX (hr.mono (by decide)) rfl (da_cons (dv 0) (da_cons d_int da_nil))) d_int (nomark _)) (ds_one (ds_ret (d_own O_law_wide hX (hr.mono (by decide)) rfl (da_cons (dv 0) da_nil)))) ds_nil)
      (ds_one (ds_ret (d_op do_sub (d_own O_law_take hX (hr.mono (by decide)) rfl (da_cons (dv 0) (da_cons d_int da_nil))) d_int)))), ?_⟩
  refine ⟨p, _, rfl, hp, by decide, by decide, fun d d0 d1 => ite2 (fun c => ?_) (fun c => ?_)⟩
  · exact ⟨p, rfl, hp, fun n hn => k n hn⟩
  · refine ⟨p, _, rfl, hp, by decide, by decide, fun d d0 d1 => k _ ?_⟩
    unfold Num
    omega
end
end K83
set_option Elab.async false
set_option linter.all false
set_option maxRecDepth 100000
set_option maxHeartbeats 4000000
local macro_rules | `(tactic| walk_at "i") => `(tactic| first | refine ite2 (fun c => ?_) (fun c => ?_))
namespace K83
open PySem L2
section
variable {P : Program} {w : World} {K : PySem.W.Frag} {mg : Str → Option Value} {base : Heap} {CX : CXT}
def sGcd : SpD := fun es μ Q => ∃ a b : Int, es = [.d (.int a), .d (.int b)] ∧ Q (.d (.int (Int.gcd a b : Nat))) μ
def sLead : SpD := fun es μ Q => ∃ a b : Int, es = [.d (.int a), .d (.int b)] ∧ (a ≠ 0 ∨ b ≠ 0) ∧ a.natAbs ≤ 10000000000000000000000000000000000000000 ∧ b.natAbs ≤ 10000000000000000000000000000000000000000 ∧ Q (.d (ptD (nrm a b))) μ
def nOf (p q : Pt) : Pt := nrm (q.2 - p.2) (p.1 - q.1)
def thr (p q : Pt) : List Int := [(nOf p q).1, (nOf p q).2, (nOf p q).1 * p.1 + (nOf p q).2 * p.2]
abbrev B40 : Nat := 10000000000000000000000000000000000000000
def sThr : SpD := fun es μ Q => ∃ p q : Pt, es = [.d (ptD p), .d (ptD q)] ∧ Bd 1000000000000000000000000000000 p ∧ Bd 1000000000000000000000000000000 q ∧ p ≠ q ∧ Q (.d (tupD (thr p q))) μ
theorem dif_ne {p q : Pt} (h : p ≠ q) : q.2 - p.2 ≠ 0 ∨ p.1 - q.1 ≠ 0 := by
  by_cases z : q.2 - p.2 = 0
  · refine .inr fun z2 => h ?_
    have e1 : p.1 = q.1 := by omega
    have e2 : p.2 = q.2 := by omega
    exact Prod.ext e1 e2
  · exact .inl z
theorem num_sub {a b : Int} (ha : a.natAbs ≤ 1000000000000000000000000000000) (hb : b.natAbs ≤ 1000000000000000000000000000000) : (a - b).natAbs ≤ 2000000000000000000000000000000 := by omega
theorem num_abs {a : Int} (ha : a.natAbs ≤ 1000000000000000000000000000000) : a.natAbs ≤ 1000000000000000000000000000000 := ha
theorem nOf_bd {p q : Pt} (hp : Bd 1000000000000000000000000000000 p) (hq : Bd 1000000000000000000000000000000 q) (h : p ≠ q) : Bd 2000000000000000000000000000000 (nOf p q) := nrm_bd (dif_ne h) (num_sub hq.2 hp.2) (num_sub hp.1 hq.1)
theorem b40 : B40 < 2 ^ 1000 := by decide +kernel
theorem mul40 {a b : Int} (ha : a.natAbs ≤ B40) (hb : b.natAbs ≤ B40) : CMulB a b := ⟨Nat.lt_of_le_of_lt ha b40, Nat.lt_of_le_of_lt hb b40⟩
theorem eqv_pt {p q : Pt} : PyData.eqv (ptD p) (ptD q) = decide (p = q) := by
  obtain ⟨a, b⟩ := p
  obtain ⟨c, d⟩ := q
  simp only [ptD, PyData.eqv, PyData.eqvAll, Prod.mk.injEq]
  by_cases h1 : a = c <;> by_cases h2 : b = d <;> simp [h1, h2]
theorem sc_cd : FnScope ["one", "other", "divisor", "rest"] ["one", "other"] (defScope scommon_divisor) := ⟨rfl, rfl, rfl, by decide +kernel, rfl, by decide +kernel, by decide +kernel⟩
theorem ok_cd {f : Addr} {fd : FuncData} (F : Fun K "common_divisor" "common_divisor" scommon_divisor f fd) (T : Txt mg) : FnOk P w K mg base CX 1 f fd ["one", "other"] (spUp K sGcd) := by
  refine F.okD sc_cd (fun es μ Q ⟨a, b, e, _⟩ => by subst e; rfl) (fun cdv A outer s H E es μ Q hr ⟨a, b, e, k⟩ => ?_)
  subst e
  have nd := sc_cd.nd
  refine ⟨_, (ds_cons (ds_set (i := 2) nd rfl (by first | exact Or.inl rfl | exact Or.inr rfl) (d_callB dc_abs (by rfl) T.abs_ bt_abs (da_cons (dv 0) da_nil)))
      (ds_cons (ds_set (i := 3) nd rfl (by first | exact Or.inl rfl | exact Or.inr rfl) (d_callB dc_abs (by rfl) T.abs_ bt_abs (da_cons (dv 1) da_nil)))
      (ds_cons (ds_while PassesOwn.never (dt_cmp (do_ne hr.units) (dv 3) d_int (nomark _)) (ds_one (ds_par (i := 2) (j := 3) rfl nd rfl rfl (by decide) rfl rfl (da_cons (dv 3) (da_cons (d_op do_mod (dv 2) (dv 3)) da_nil)) rfl)))
      (ds_one (ds_ret (dv 2)))))), ?_⟩
  refine ⟨fun m ρ' μ' => μ' = μ ∧ ∃ f r : Nat, ρ' = [some (.d (.int a)), some (.d (.int b)), some (.d (.int f)), some (.d (.int r))] ∧ m = r ∧ Nat.gcd f r = Int.gcd a b, ⟨_, rfl, _, _, rfl, rfl, rfl⟩, ?_⟩
  rintro m ρ' μ' ⟨rfl, f, r, rfl, rfl, g⟩
  refine ite2 (fun c => ?_) (fun c => ?_)
  · have hm : m ≠ 0 := by
      rintro rfl
      exact absurd c (by decide)
    refine ⟨(show (0 : Int) < (m : Int) by omega), f % m, Nat.mod_lt _ (by omega), Wks.of ⟨rfl, m, f % m, ?_, rfl, by rw [gcd_step]; exact g⟩⟩
    rw [Int.natCast_emod]; rfl
  · have : m = 0 := by
      by_cases z : m = 0
      · exact z
      · exact absurd (show (!decide ((m : Int) = 0)) = true by simp; omega) c
    subst this
    rw [Nat.gcd_zero_right] at g
    subst g
    exact k
theorem sc_lead : FnScope ["a", "b", "divisor"] ["a", "b"] (defScope slead) := ⟨rfl, rfl, rfl, by decide +kernel, rfl, by decide +kernel, by decide +kernel⟩
theorem ok_lead {f : Addr} {fd : FuncData} (F : Fun K "lead" "lead" slead f fd) (hX : NoX CX) (Ocommon_divisor : Own P w K mg base CX 1 "common_divisor" ["one", "other"] (spUp K sGcd)) : FnOk P w K mg base CX 2 f fd ["a", "b"] (spUp K sLead) := by
  refine F.okD sc_lead (fun es μ Q ⟨a, b, e, _⟩ => by subst e; rfl) (fun cdv A outer s H E es μ Q hr ⟨a, b, e, h0, ha, hb, k⟩ => ?_)
  subst e
  have nd := sc_lead.nd
  have d0 := dvs_ne h0
  have dB : (dvs a b).natAbs ≤ B40 := by rw [dvs_abs]; exact gcd_bound h0 ha hb
  have dC : ∀ z, CDivB z (dvs a b) := fun z => fdiv_big b40 d0 dB
  refine ⟨_, (ds_cons (ds_set (i := 2) nd rfl (by first | exact Or.inl rfl | exact Or.inr rfl) (d_own Ocommon_divisor hX (hr.mono (by decide)) rfl (da_cons (dv 0) (da_cons (dv 1) da_nil))))
      (ds_cons (ds_if (dt_w (dw_or (dt_cmp do_lt (dv 0) d_int (nomark _)) (dw_or1 (dt_w (dw_and (dt_cmp (do_eq hr.units) (dv 0) d_int (nomark _)) (dw_and1 (dt_cmp do_lt (dv 1) d_int (nomark _)))))))) (ds_one (ds_set (i := 2) nd rfl (by first | exact Or.inl rfl | exact Or.inr rfl) (d_un du_neg (dv 2)))) ds_nil)
      (ds_one (ds_ret (d_tup (da_cons (d_op do_fdiv (dv 0) (dv 2)) (da_cons (d_op do_fdiv (dv 1) (dv 2)) da_nil))))))), ?_⟩
  refine ⟨a, b, rfl, ?_⟩
  refine ite2 (fun c => ?_) (fun c => ?_)
  · have c : a < 0 := of_decide_eq_true c
    refine iteT ?_
    have e : -(Int.gcd a b : Int) = dvs a b := by unfold dvs; rw [if_pos (.inl c)]
    exact ⟨by rw [e]; exact dC _, by rw [e]; exact dC _, zl2, by rw [e]; exact k⟩
  · have c : ¬ a < 0 := fun z => c (decide_eq_true z)
    refine ite2 (fun c2 => ?_) (fun c2 => ?_)
    · have c2 : a = 0 := of_decide_eq_true c2
      refine ite2 (fun c3 => ?_) (fun c3 => ?_)
      · have c3 : b < 0 := of_decide_eq_true c3
        have e : -(Int.gcd a b : Int) = dvs a b := by unfold dvs; rw [if_pos (.inr ⟨c2, c3⟩)]
        exact ⟨by rw [e]; exact dC _, by rw [e]; exact dC _, zl2, by rw [e]; exact k⟩
      · have c3 : ¬ b < 0 := fun z => c3 (decide_eq_true z)
        have e : (Int.gcd a b : Int) = dvs a b := by unfold dvs; rw [if_neg (by omega)]
        exact ⟨by rw [e]; exact dC _, by rw [e]; exact dC _, zl2, by rw [e]; exact k⟩
    · have c2 : ¬ a = 0 := fun z => c2 (decide_eq_true z)
      have e : (Int.gcd a b : Int) = dvs a b := by unfold dvs; rw [if_neg (by omega)]
      refine iteF ?_
      exact ⟨by rw [e]; exact dC _, by rw [e]; exact dC _, zl2, by rw [e]; exact k⟩
theorem sc_through : FnScope ["one", "other", "x", "y", "a", "b"] ["one", "other"] (defScope sthrough) := ⟨rfl, rfl, rfl, by decide +kernel, rfl, by decide +kernel, by decide +kernel⟩
theorem ok_through {f : Addr} {fd : FuncData} (F : Fun K "through" "through" sthrough f fd) (hX : NoX CX) (Olead : Own P w K mg base CX 2 "lead" ["a", "b"] (spUp K sLead)) : FnOk P w K mg base CX 3 f fd ["one", "other"] (spUp K sThr) := by
  refine F.okD sc_through (fun es μ Q ⟨p, q, e, _⟩ => by subst e; rfl) (fun cdv A outer s H E es μ Q hr ⟨p, q, e, hp, hq, h0, k⟩ => ?_)
  subst e
  have nd := sc_through.nd
  refine ⟨_, (ds_cons (ds_if (dt_cmp (do_eq hr.units) (dv 0) (dv 1) (nomark _)) (ds_one ds_never) ds_nil)
      (ds_cons (ds_asg (dv 0) (dg_tup (n := 2) rfl (dgs_cons (dg_name (i := 2) nd rfl (by first | exact Or.inl rfl | exact Or.inr rfl)) (dgs_cons (dg_name (i := 3) nd rfl (by first | exact Or.inl rfl | exact Or.inr rfl)) dgs_nil))))
      (ds_cons (ds_asg (d_own Olead hX (hr.mono (by decide)) rfl (da_cons (d_op do_sub (d_ix dx_seq (dv 1) d_int (fun _ _ => rfl)) (dv 3)) (da_cons (d_op do_sub (dv 2) (d_ix dx_seq (dv 1) d_int (fun _ _ => rfl))) da_nil))) (dg_tup (n := 2) rfl (dgs_cons (dg_name (i := 4) nd rfl (by first | exact Or.inl rfl | exact Or.inr rfl)) (dgs_cons (dg_name (i := 5) nd rfl (by first | exact Or.inl rfl | exact Or.inr rfl)) dgs_nil))))
      (ds_one (ds_ret (d_tup (da_cons (dv 4) (da_cons (dv 5) (da_cons (d_op do_add (d_op do_mul (dv 4) (dv 2)) (d_op do_mul (dv 5) (dv 3))) da_nil))))))))), ?_⟩
  have hb := nOf_bd hp hq h0
  have h1 := num_sub hq.2 hp.2
  have h2 := num_sub hp.1 hq.1
  have h3 := num_abs hp.1
  have h4 := num_abs hp.2
  refine ⟨_, _, .d _, .d _, shaped_pt p, shaped_pt q, ite2 (fun c => ?_) (fun c => ?_)⟩
  · have c : PyData.eqv (ptD p) (ptD q) = true := c
    rw [eqv_pt] at c
    exact absurd (of_decide_eq_true c) h0
  refine ⟨rfl, _, rfl, _, rfl, _, _, rfl, dif_ne h0, ?_, ?_, rfl, ?_⟩
  · exact Nat.le_trans h1 (by decide)
  · exact Nat.le_trans h2 (by decide)
  · refine ⟨mul40 (Nat.le_trans hb.1 (by decide)) (Nat.le_trans h3 (by decide)), mul40 (Nat.le_trans hb.2 (by decide)) (Nat.le_trans h4 (by decide)), zl3, k⟩
abbrev B30 : Nat := 1000000000000000000000000000000
def hpD (ps : List Pt) : PyData := .list (ps.map ptD)
def Bds (ps : List Pt) : Prop := ∀ q ∈ ps, Bd B30 q
def sSign : SpD := fun es μ Q => ∃ n : Int, es = [.d (.int n)] ∧ Q (.d (.int n.sign)) μ
theorem sc_sign : FnScope ["number"] ["number"] (defScope ssign) := ⟨rfl, rfl, rfl, by decide +kernel, rfl, by decide +kernel, by decide +kernel⟩
theorem ok_sign {f : Addr} {fd : FuncData} (F : Fun K "sign" "sign" ssign f fd)  : FnOk P w K mg base CX 1 f fd ["number"] (spUp K sSign) := by
  refine F.okD sc_sign (fun es μ Q ⟨a, e, _⟩ => by subst e; rfl) (fun cdv A outer s H E es μ Q hr ⟨a, e, k⟩ => ?_)
  subst e
  have nd := sc_sign.nd
  refine ⟨_, (ds_cons (ds_if (dt_cmp do_gt (dv 0) d_int (nomark _)) (ds_one (ds_ret d_int)) ds_nil)
      (ds_cons (ds_if (dt_cmp do_lt (dv 0) d_int (nomark _)) (ds_one (ds_ret (d_un du_neg d_int))) ds_nil)
      (ds_one (ds_ret d_int)))), ?_⟩
  refine ite2 (fun c => ?_) (fun c => ite2 (fun c2 => ?_) (fun c2 => ?_))
  · have c : 0 < a := of_decide_eq_true c
    rw [Int.sign_eq_one_of_pos c] at k; exact k
  · have c2 : a < 0 := of_decide_eq_true c2
    rw [Int.sign_eq_neg_one_of_neg c2] at k; exact k
  · have c : ¬ 0 < a := fun z => c (decide_eq_true z)
    have c2 : ¬ a < 0 := fun z => c2 (decide_eq_true z)
    have : a = 0 := by omega
    subst this; exact k
def sSide : SpD := fun es μ Q => ∃ (a b c : Int) (q : Pt), es = [.d (tupD [a, b, c]), .d (ptD q)] ∧ a.natAbs ≤ B40 ∧ b.natAbs ≤ B40 ∧ Bd B30 q ∧ Q (.d (.int (a * q.1 + b * q.2 - c).sign)) μ
theorem sc_side : FnScope ["line", "point", "a", "b", "c", "x", "y"] ["line", "point"] (defScope sside) := ⟨rfl, rfl, rfl, by decide +kernel, rfl, by decide +kernel, by decide +kernel⟩
theorem ok_side {f : Addr} {fd : FuncData} (F : Fun K "side" "side" sside f fd) (hX : NoX CX) (Osign : Own P w K mg base CX 1 "sign" ["number"] (spUp K sSign)) : FnOk P w K mg base CX 2 f fd ["line", "point"] (spUp K sSide) := by
  refine F.okD sc_side (fun es μ Q ⟨a, b, c, q, e, _⟩ => by subst e; rfl) (fun cdv A outer s H E es μ Q hr ⟨a, b, c, q, e, ha, hb, hq, k⟩ => ?_)
  subst e
  have nd := sc_side.nd
  refine ⟨_, (ds_cons (ds_asg (dv 0) (dg_tup (n := 3) rfl (dgs_cons (dg_name (i := 2) nd rfl (by first | exact Or.inl rfl | exact Or.inr rfl)) (dgs_cons (dg_name (i := 3) nd rfl (by first | exact Or.inl rfl | exact Or.inr rfl)) (dgs_cons (dg_name (i := 4) nd rfl (by first | exact Or.inl rfl | exact Or.inr rfl)) dgs_nil)))))
      (ds_cons (ds_asg (dv 1) (dg_tup (n := 2) rfl (dgs_cons (dg_name (i := 5) nd rfl (by first | exact Or.inl rfl | exact Or.inr rfl)) (dgs_cons (dg_name (i := 6) nd rfl (by first | exact Or.inl rfl | exact Or.inr rfl)) dgs_nil))))
      (ds_one (ds_ret (d_own Osign hX (hr.mono (by decide)) rfl (da_cons (d_op do_sub (d_op do_add (d_op do_mul (dv 2) (dv 5)) (d_op do_mul (dv 3) (dv 6))) (dv 4)) da_nil)))))), ?_⟩
  exact ⟨rfl, rfl, mul40 ha (Nat.le_trans hq.1 (by decide)), mul40 hb (Nat.le_trans hq.2 (by decide)), _, rfl, k⟩
def sSC : SpD := fun es μ Q => ∃ ns : List Int, es = [.d (.list (ns.map .int))] ∧ Q (.d (.tuple [.int (ns.count (-1) : Nat), .int (ns.count 0 : Nat), .int (ns.count 1 : Nat)])) μ
theorem sc_scs : FnScope ["signs"] ["signs"] (defScope ssign_counts) := ⟨rfl, rfl, rfl, by decide +kernel, rfl, by decide +kernel, by decide +kernel⟩
theorem ok_scs {f : Addr} {fd : FuncData} (F : Fun K "sign_counts" "sign_counts" ssign_counts f fd)  : FnOk P w K mg base CX 1 f fd ["signs"] (spUp K sSC) := by
  refine F.okD sc_scs (fun es μ Q ⟨ns, e, _⟩ => by subst e; rfl) (fun cdv A outer s H E es μ Q hr ⟨ns, e, k⟩ => ?_)
  subst e
  have nd := sc_scs.nd
  refine ⟨_, (ds_one (ds_ret (d_tup (da_cons (d_count (dv 0) (da_cons (d_un du_neg d_int) da_nil) (h := pe_bm PySem.F.plainAttrs_list PySem.F.slot_list_count PySem.F.type_list_count mt_count (dv 0) (da_cons (d_un du_neg d_int) da_nil))) (da_cons (d_count (dv 0) (da_cons d_int da_nil) (h := pe_bm PySem.F.plainAttrs_list PySem.F.slot_list_count PySem.F.type_list_count mt_count (dv 0) (da_cons d_int da_nil))) (da_cons (d_count (dv 0) (da_cons d_int da_nil) (h := pe_bm PySem.F.plainAttrs_list PySem.F.slot_list_count PySem.F.type_list_count mt_count (dv 0) (da_cons d_int da_nil))) da_nil)))))), ?_⟩
  exact ⟨ns, .d _, .d _, ns, .d _, .d _, ns, .d _, .d _, zl3, k⟩
def sgs (c : Int) (vs : List Int) : List Int := vs.map fun v => (v - c).sign
def sCnt : SpD := fun es μ Q => ∃ (a b c : Int) (ps : List Pt), es = [.d (tupD [a, b, c]), .d (hpD ps)] ∧ a.natAbs ≤ B40 ∧ b.natAbs ≤ B40 ∧ Bds ps ∧ ps.length ≤ 1000 ∧ Q (.d (.tuple [.int ((sgs c (vls (a, b) ps)).count (-1) : Nat), .int ((sgs c (vls (a, b) ps)).count 0 : Nat), .int ((sgs c (vls (a, b) ps)).count 1 : Nat)])) μ
theorem sc_counts : FnScope ["line", "heap"] ["line", "heap"] (defScope scounts) := ⟨rfl, rfl, rfl, by decide +kernel, rfl, by decide +kernel, by decide +kernel⟩
theorem ok_counts {f : Addr} {fd : FuncData} (F : Fun K "counts" "counts" scounts f fd) (hX : NoX CX) (Osign_counts : Own P w K mg base CX 1 "sign_counts" ["signs"] (spUp K sSC)) (Oside : Own P w K mg base CX 2 "side" ["line", "point"] (spUp K sSide)) : FnOk P w K mg base CX 3 f fd ["line", "heap"] (spUp K sCnt) := by
  refine F.okD sc_counts (fun es μ Q ⟨a, b, c, ps, e, _⟩ => by subst e; rfl) (fun cdv A outer s H E es μ Q hr ⟨a, b, c, ps, e, ha, hb, hp, hl, k⟩ => ?_)
  subst e
  have nd := sc_counts.nd
  refine ⟨_, (ds_one (ds_ret (d_own Osign_counts hX (hr.mono (by decide)) rfl (da_cons (d_comp (L := ["point"]) (sc := defScope scounts) (N := ["line", "heap"]) rfl rfl rfl (by decide +kernel) (di_list (dv 1)) (fun _ _ _ _ _ => (dg_name (i := 2) (show List.Nodup (["line", "heap", "point"] : List Str) from by decide +kernel) rfl (by first | exact Or.inl rfl | exact Or.inr rfl))) (fun _ _ _ _ _ => dfs_nil) (fun _ _ _ _ _ => (d_own Oside hX (hr.mono (by decide)) rfl (da_cons (dv 0) (da_cons (dv 2) da_nil))))) da_nil)))), ?_⟩
  refine ⟨_, .d _, (show (ps.map ptD).length ≤ 1000 by rw [List.length_map]; exact hl), compAL (as := ps) (h := ptD) (fun q => .int (a * q.1 + b * q.2 - c).sign) (Src.l (.d _)) (fun q hq R h => ⟨a, b, c, q, rfl, ha, hb, hp q hq, h⟩) ?_⟩
  refine ⟨sgs c (vls (a, b) ps), ?_, k⟩
  unfold sgs vls
  rw [List.map_map, List.map_map]; rfl
def ptK (p : Pt) : List Int := [p.1, p.2]
theorem ptK_inj {p q : Pt} (h : ptK p = ptK q) : p = q := by
  unfold ptK at h
  have h1 := List.cons.inj h
  have h2 := List.cons.inj h1.2
  exact Prod.ext h1.1 h2.1
theorem ptK_map (ps : List Pt) : ps.map ptD = (ps.map ptK).map tupD := by rw [List.map_map]; rfl
theorem ptK_ne (ps : List Pt) : ∀ k ∈ ps.map ptK, k ≠ [] := fun k hk => by
  obtain ⟨x, _, rfl⟩ := List.mem_map.mp hk
  exact fun z => nomatch z
def Plc (ps qs : List Pt) : Prop := qs.Nodup ∧ Srt (qs.map ptK) ∧ ∀ p, p ∈ qs ↔ p ∈ ps
theorem plc_uniq {ps qs rs : List Pt} (h1 : Plc ps qs) (h2 : Plc ps rs) : qs = rs := by
  have hp : qs.Perm rs := (List.perm_ext_iff_of_nodup h1.1 h2.1).mpr fun p => (h1.2.2 p).trans (h2.2.2 p).symm
  have s1 := h1.2.1
  have s2 := h2.2.1
  unfold Srt at s1 s2
  rw [List.pairwise_map] at s1 s2
  refine List.Perm.eq_of_pairwise (fun a b _ _ k1 k2 => ptK_inj ?_) s1 s2 hp
  exact List.le_antisymm k1 k2
open Classical in
noncomputable def plc (ps : List Pt) : List Pt := epsilon fun qs => Plc ps qs
theorem plc_of {ps qs : List Pt} (h : Plc ps qs) : qs = plc ps ∧ Plc ps (plc ps) := by
  have := Classical.epsilon_spec (p := fun qs => Plc ps qs) ⟨qs, h⟩
  exact ⟨plc_uniq h this, this⟩
theorem pts_of {ks : List (List Int)} {ps : List Pt} : (∀ k ∈ ks, k ∈ ps.map ptK) → ∃ qs : List Pt, ks = qs.map ptK := by
  induction ks with
  | nil => exact fun _ => ⟨[], rfl⟩
  | cons k ks ih =>
    intro h
    obtain ⟨qs, e⟩ := ih fun z hz => h z (List.mem_cons_of_mem _ hz)
    obtain ⟨a, _, ea⟩ := List.mem_map.mp (h k List.mem_cons_self)
    exact ⟨a :: qs, by rw [e, ← ea]; rfl⟩
theorem plc_set {ps : List Pt} {ms ks : List (List Int)} (hm : ∀ q, q ∈ ms ↔ q ∈ ps.map ptK) (hn : ms.Nodup) (hp : ks.Perm ms) (hs : Srt ks) : ∃ qs : List Pt, ks = qs.map ptK ∧ Plc ps qs := by
  obtain ⟨qs, rfl⟩ := pts_of fun k hk => (hm k).mp (hp.mem_iff.mp hk)
  have hnd : (qs.map ptK).Nodup := hp.nodup_iff.mpr hn
  refine ⟨qs, rfl, (List.pairwise_map.mp hnd).imp fun h z => h (by rw [z]), hs, fun p => ?_⟩
  have := (hp.mem_iff (a := ptK p)).trans (hm _)
  constructor
  · intro h
    obtain ⟨b, hb, eb⟩ := List.mem_map.mp (this.mp (List.mem_map.mpr ⟨p, h, rfl⟩))
    rw [← ptK_inj eb]; exact hb
  · intro h
    obtain ⟨b, hb, eb⟩ := List.mem_map.mp (this.mpr (List.mem_map.mpr ⟨p, h, rfl⟩))
    rw [← ptK_inj eb]; exact hb
theorem nodup_len {α : Type} [DecidableEq α] : ∀ {ms kss : List α}, ms.Nodup → (∀ q ∈ ms, q ∈ kss) → ms.length ≤ kss.length
  | [], _, _, _ => Nat.zero_le _
  | a :: ms, kss, hn, h => by
    have ha := h a List.mem_cons_self
    have h1 := nodup_len (ms := ms) (kss := kss.erase a) (List.nodup_cons.mp hn).2 (fun q hq => by
      have hne : q ≠ a := fun z => (List.nodup_cons.mp hn).1 (z ▸ hq)
      exact (List.mem_erase_of_ne hne).mpr (h q (List.mem_cons_of_mem _ hq)))
    rw [List.length_erase_of_mem ha] at h1
    have := List.length_pos_of_mem ha
    simp only [List.length_cons]
    omega
def sPlc : SpD := fun es μ Q => ∃ ps : List Pt, es = [.d (hpD ps)] ∧ ps.length < 64 ∧ (Plc ps (plc ps) → Q (.d (hpD (plc ps))) μ)
theorem sc_places : FnScope ["heap"] ["heap"] (defScope splaces) := ⟨rfl, rfl, rfl, by decide +kernel, rfl, by decide +kernel, by decide +kernel⟩
theorem ok_places {f : Addr} {fd : FuncData} (F : Fun K "places" "places" splaces f fd) (T : Txt mg) : FnOk P w K mg base CX 1 f fd ["heap"] (spUp K sPlc) := by
  refine F.okD sc_places (fun es μ Q ⟨ps, e, _⟩ => by subst e; rfl) (fun cdv A outer s H E es μ Q hr ⟨ps, e, hl, k⟩ => ?_)
  subst e
  have nd := sc_places.nd
  refine ⟨_, (ds_one (ds_ret (d_callB (dc_sortS (P := P) (w := w) (K := K) rfl) (by rfl) T.sorted_ bt_sorted (da_cons (d_callTy (dc_set (P := P) (w := w) (K := K) rfl hr.units) (by rfl) T.set_ bt_set (da_cons (dv 0) da_nil)) da_nil)))), ?_⟩
  refine ⟨ps.map ptK, by rw [← ptK_map]; exact .d _, ptK_ne ps, by rw [List.length_map]; exact hl, fun ms hm hn h77 => ⟨ms, rfl, ?_, fun ks hp hs => ?_⟩⟩
  · have := nodup_len hn fun q hq => (hm q).mp hq
    rw [List.length_map] at this
    omega
  · obtain ⟨qs, rfl, h⟩ := plc_set hm hn hp hs
    obtain ⟨rfl, h2⟩ := plc_of h
    rw [← ptK_map]
    exact k h2
def prs : List Pt → List (Pt × Pt)
  | [] => []
  | a :: t => t.map (fun b => (a, b)) ++ prs t
def prD (p : Pt × Pt) : PyData := .tuple [ptD p.1, ptD p.2]
theorem prs_len : ∀ l : List Pt, 2 * (prs l).length + l.length = l.length * l.length
  | [] => rfl
  | a :: t => by
    have := prs_len t
    simp only [prs, List.length_append, List.length_map, List.length_cons]
    have e : (t.length + 1) * (t.length + 1) = t.length * t.length + 2 * t.length + 1 := by
      rw [Nat.add_mul, Nat.mul_add]; omega
    omega
theorem prs_lt {l : List Pt} (h : l.length ≤ 44) : (prs l).length < 1000 := by
  have := prs_len l
  have : l.length * l.length ≤ 44 * 44 := Nat.mul_le_mul h h
  by_cases z : l.length = 44
  · omega
  · have : l.length * l.length ≤ 43 * 43 := Nat.mul_le_mul (by omega) (by omega)
    omega
theorem cut_from (ds : List PyData) (i : Nat) (h : i ≤ ds.length) : cutD ds (some (i : Int)) none = ds.drop i := by
  have e : HT.sIx ds.length 0 (some (i : Int)) = i := by
    unfold HT.sIx
    simp
    rw [if_neg (by omega)]
    omega
  unfold cutD
  rw [e]
  have e2 : HT.sIx ds.length ds.length none = ds.length := rfl
  rw [e2]
  exact List.take_of_length_le (by simp)
def sPp : SpD := fun es μ Q => ∃ ps : List Pt, es = [.d (hpD ps)] ∧ ps.length ≤ 44 ∧ (Plc ps (plc ps) → Q (.d (.list ((prs (plc ps)).map prD))) μ)
theorem sc_pp : FnScope ["heap", "unlike"] ["heap"] (defScope splace_pairs) := ⟨rfl, rfl, rfl, by decide +kernel, rfl, by decide +kernel, by decide +kernel⟩
theorem ok_pp {f : Addr} {fd : FuncData} (F : Fun K "place_pairs" "place_pairs" splace_pairs f fd) (T : Txt mg) (hX : NoX CX) (Oplaces : Own P w K mg base CX 1 "places" ["heap"] (spUp K sPlc)) : FnOk P w K mg base CX 2 f fd ["heap"] (spUp K sPp) := by
  refine F.okD sc_pp (fun es μ Q ⟨ps, e, _⟩ => by subst e; rfl) (fun cdv A outer s H E es μ Q hr ⟨ps, e, hl, k⟩ => ?_)
  subst e
  have nd := sc_pp.nd
  refine ⟨_, (ds_cons (ds_set (i := 1) nd rfl (by first | exact Or.inl rfl | exact Or.inr rfl) (d_own Oplaces hX (hr.mono (by decide)) rfl (da_cons (dv 0) da_nil)))
      (ds_one (ds_ret (d_comp2 (L := ["at", "one", "other"]) (sc := defScope splace_pairs) (N := ["heap", "unlike"]) rfl rfl rfl (by decide +kernel) (di_enum rfl T.enumerate_ (da_cons (dv 1) da_nil)) (fun _ _ _ _ _ => (dg_tup (n := 2) rfl (dgs_cons (dg_name (i := 2) (show List.Nodup (["heap", "unlike", "at", "one", "other"] : List Str) from by decide +kernel) rfl (by first | exact Or.inl rfl | exact Or.inr rfl)) (dgs_cons (dg_name (i := 3) (show List.Nodup (["heap", "unlike", "at", "one", "other"] : List Str) from by decide +kernel) rfl (by first | exact Or.inl rfl | exact Or.inr rfl)) dgs_nil)))) (fun _ _ _ _ _ => dfs_nil) (fun _ _ _ _ _ => (di_list (d_slice (dv 1) (dp_some (d_op do_add (dv 2) d_int)) dp_none))) (fun _ _ _ _ _ => (dg_name (i := 4) (show List.Nodup (["heap", "unlike", "at", "one", "other"] : List Str) from by decide +kernel) rfl (by first | exact Or.inl rfl | exact Or.inr rfl))) (fun _ _ _ _ _ => dfs_nil) (fun _ _ _ _ _ => (d_tup (da_cons (dv 3) (da_cons (dv 4) da_nil)))))))), ?_⟩
  refine ⟨ps, rfl, by omega, fun hP => ?_⟩
  have hq : (plc ps).length ≤ 44 := Nat.le_trans (nodup_len hP.1 fun q hq => (hP.2.2 q).mp hq) hl
  have kk := k hP
  generalize plc ps = qs at *
  have h1000 := prs_lt hq
  have nthe : ∀ i, i < qs.length → ∃ a, qs[i]? = some a ∧ (qs.map ptD).getD i .none = ptD a ∧ qs.drop i = a :: qs.drop (i + 1) := fun i hi => by
    refine ⟨qs[i], List.getElem?_eq_getElem hi, ?_, List.drop_eq_getElem_cons hi⟩
    rw [List.getD_eq_getElem?_getD, List.getElem?_map, List.getElem?_eq_getElem hi]; rfl
  refine ⟨_, .d _, fun i ys ρ' μ' => μ' = μ ∧ (∃ don, don ++ prs (qs.drop i) = prs qs ∧ ys = don.map prD) ∧ ∃ v2 v3 v4, ρ' = [some (.d (hpD ps)), some (.d (hpD qs)), v2, v3, v4], ⟨rfl, ⟨[], rfl, rfl⟩, _, _, _, rfl⟩, (fun i ys ρ' μ' _ _ => .d _), ?_, ?_⟩
  · rintro i ys ρ' μ' hi ⟨rfl, ⟨don, hd, rfl⟩, v2, v3, v4, rfl⟩
    have hi : i < (qs.map ptD).length := hi
    rw [List.length_map] at hi
    obtain ⟨a, ha, ea, ed⟩ := nthe i hi
    refine ⟨rfl, _, .d _, _, .d _, ?_⟩
    have ec : cutD (qs.map ptD) (some ((i : Int) + 1)) none = (qs.drop (i + 1)).map ptD := by
      have := cut_from (qs.map ptD) (i + 1) (by rw [List.length_map]; omega)
      rw [Int.natCast_add] at this
      rw [List.map_drop]
      exact this
    have hlen : don.length + (prs (qs.drop i)).length = (prs qs).length := by rw [← hd, List.length_append]
    have e3 : prs (qs.drop i) = (qs.drop (i + 1)).map (fun b => (a, b)) ++ prs (qs.drop (i + 1)) := by rw [ed]; rfl
    have hsum : don.length + (qs.drop (i + 1)).length ≤ (prs qs).length := by
      rw [← hlen, e3, List.length_append, List.length_map]; omega
    refine ⟨fun j ys ρ' μ' => μ' = μ' ∧ μ' = _ ∧ j ≤ (qs.drop (i + 1)).length ∧ ys = (don ++ ((qs.drop (i + 1)).take j).map fun b => (a, b)).map prD ∧ ∃ v4, ρ' = [some (.d (hpD ps)), some (.d (hpD qs)), some (.d (.int (i : Int))), some (.d (ptD a)), v4], ⟨rfl, rfl, Nat.zero_le _, (by simp), v4, ?_⟩, ?_, ?_, ?_⟩
    · rw [← ea]; rfl
    · rintro j ys ρ' μ' hj ⟨_, rfl, hj2, rfl, v4, rfl⟩
      refine ⟨.d _, ?_⟩
      rw [List.length_map, List.length_append, List.length_map, List.length_take]
      omega
    · rintro j ys ρ' μ' hj ⟨_, rfl, hj2, rfl, v4, rfl⟩
      have hj : j < (cutD (qs.map ptD) (some ((i : Int) + 1)) none).length := hj
      rw [ec, List.length_map] at hj
      have eb : (itL (.d (.list (cutD (qs.map ptD) (some ((i : Int) + 1)) none))) (cutD (qs.map ptD) (some ((i : Int) + 1)) none)).item j = .d (ptD (qs.drop (i + 1))[j]) := by
        show En.d ((cutD (qs.map ptD) (some ((i : Int) + 1)) none).getD j .none) = _
        rw [ec, List.getD_eq_getElem?_getD, List.getElem?_map, List.getElem?_eq_getElem hj]; rfl
      rw [eb]
      refine ⟨zl2, _, rfl, rfl, rfl, hj, ?_, _, rfl⟩
      rw [take_snoc (List.getElem?_eq_getElem hj)]
      simp only [List.map_append, List.append_assoc, List.map_cons, List.map_nil]
      rfl
    · rintro ys ρ' μ' ⟨_, rfl, hj2, rfl, v4, rfl⟩
      have hn : (itL (.d (.list (cutD (qs.map ptD) (some ((i : Int) + 1)) none))) (cutD (qs.map ptD) (some ((i : Int) + 1)) none)).n = (qs.drop (i + 1)).length := by
        show (cutD (qs.map ptD) (some ((i : Int) + 1)) none).length = _
        rw [ec, List.length_map]
      refine ⟨rfl, ⟨_, ?_, rfl⟩, _, _, _, rfl⟩
      rw [hn, List.take_length, List.append_assoc, ← e3]
      exact hd
  · rintro ys ρ' μ' ⟨rfl, ⟨don, hd, rfl⟩, v2, v3, v4, rfl⟩
    have : qs.drop (qs.map ptD).length = [] := by rw [List.length_map]; exact List.drop_length
    have hd : don ++ prs (qs.drop (qs.map ptD).length) = prs qs := hd
    rw [this] at hd
    have hd : don ++ [] = prs qs := hd
    rw [List.append_nil] at hd
    rw [hd]
    exact kk
end
end K83
set_option Elab.async false
set_option linter.all false
set_option maxRecDepth 100000
set_option maxHeartbeats 4000000
local macro_rules | `(tactic| walk_at "i") => `(tactic| first | refine ite2 (fun c => ?_) (fun c => ?_))
namespace K83
open PySem L2
section
variable {P : Program} {w : World} {K : PySem.W.Frag} {mg : Str → Option Value} {base : Heap} {CX : CXT}
variable {CL CS CR C1 C2 C3 C4 C5 C6 C7 : Addr}
def isW : PyData → Bool
  | .int _ => true
  | _ => false
def sIsW : SpD := fun es μ Q => ∃ x, es = [.d x] ∧ Q (.d (.bool (isW x))) μ
theorem sc_is_whole : FnScope ["thing"] ["thing"] (defScope sis_whole) := ⟨rfl, rfl, rfl, by decide +kernel, rfl, by decide +kernel, by decide +kernel⟩
theorem ok_is_whole {f : Addr} {fd : FuncData} (F : Fun K "is_whole" "is_whole" sis_whole f fd) (T : Txt mg) : FnOk P w K mg base CX 1 f fd ["thing"] (spUp K sIsW) := by
  refine F.okD sc_is_whole (fun es μ Q ⟨x, e, _⟩ => by subst e; rfl) (fun cdv A outer s H E es μ Q hr ⟨x, e, k⟩ => ?_)
  subst e
  have nd := sc_is_whole.nd
  refine ⟨_, (ds_one (ds_ret (d_and (d_callB dc_isi (by rfl) T.isinstance_ bt_isinstance (da_cons (dv 0) (da_cons (d_ty rfl T.int_ bt_int) da_nil))) (d_one (d_not (d_callB dc_isi (by rfl) T.isinstance_ bt_isinstance (da_cons (dv 0) (da_cons (d_ty rfl T.bool_ bt_bool) da_nil)))))))), ?_⟩
  refine ⟨by decide, ?_⟩
  cases x <;> first | exact iteT ⟨by decide, k⟩ | exact iteF k
def Bad (x : PyData) (l m : Int) : Prop := isW x = false ∨ ∃ n, x = .int n ∧ (n < l ∨ m < n)
def sChk : SpD := fun es μ Q => ∃ n l m : Int, es = [.d (.int n), .d (.int l), .d (.int m)] ∧ l ≤ n ∧ n ≤ m ∧ Q (.d .none) μ
theorem sc_chk0 : FnScope ["thing", "least", "most"] ["thing", "least", "most"] (defScope scheck_share) := ⟨rfl, rfl, rfl, by decide +kernel, rfl, by decide +kernel, by decide +kernel⟩
theorem ok_chk0 {f : Addr} {fd : FuncData} (F : Fun K "check_share" "check_share" scheck_share f fd) (hX : NoX CX) (Ois_whole : Own P w K mg base CX 1 "is_whole" ["thing"] (spUp K sIsW)) : FnOk P w K mg base CX 2 f fd ["thing", "least", "most"] (spUp K sChk) := by
  refine F.okD sc_chk0 (fun es μ Q ⟨n, l, m, e, _⟩ => by subst e; rfl) (fun cdv A outer s H E es μ Q hr ⟨n, l, m, e, h1, h2, k⟩ => ?_)
  subst e
  have nd := sc_chk0.nd
  refine ⟨_, (ds_one (ds_if (dt_w (dw_or (dt_not (dt_val (d_own Ois_whole hX (hr.mono (by decide)) rfl (da_cons (dv 0) da_nil)))) (dw_or (dt_cmp do_lt (dv 0) (dv 1) (nomark _)) (dw_or1 (dt_cmp do_gt (dv 0) (dv 2) (nomark _)))))) (ds_one ds_never) ds_nil)), ?_⟩
  refine ⟨.int n, rfl, iteF (ite2 (fun c => ?_) (fun _ => ite2 (fun c => ?_) (fun _ => k)))⟩
  · exact absurd (of_decide_eq_true c) (by omega)
  · exact absurd (of_decide_eq_true c) (by omega)
def spChkX (K : PySem.W.Frag) (C : Addr) : Sp := fun vs H Q E => ∃ (v : V) (x : PyData) (l m : Int), vs = [v, .int l, .int m] ∧ Is K H v x ∧ Bad x l m ∧ ∀ H', Same H H' → E (.ref C) none H'
theorem ok_chkX {f : Addr} {fd : FuncData} (F : Fun K "check_share" "check_share" scheck_share f fd) (hX : NoX (XC P w)) (T : TxtC K mg CL CS CR C1 C2 C3 C4 C5 C6 C7) (Ois_whole : Own P w K mg base (XC P w) 1 "is_whole" ["thing"] (spUp K sIsW)) : FnOk P w K mg base (XC P w) 2 f fd ["thing", "least", "most"] (spChkX K CS) := by
  refine okX F (N := ["thing", "least", "most"]) ⟨rfl, rfl, rfl, by decide +kernel, rfl, by decide +kernel, by decide +kernel⟩ (fun vs H Q E h => ?_) (fun cdv A outer s H vs Q E hr h => ?_)
  · obtain ⟨v, x, l, m, rfl, _⟩ := h
    rfl
  · obtain ⟨v, x, l, m, rfl, i1, hb, kE⟩ := h
    refine ⟨_, pss_one (ps_if (dt_w (dw_or (dt_not (dt_val (d_own Ois_whole hX (hr.mono (by decide)) rfl (da_cons (dv 0) da_nil)))) (dw_or (dt_cmp do_lt (dv 0) (dv 1) (nomark _)) (dw_or1 (dt_cmp do_gt (dv 0) (dv 2) (nomark _)))))) (pss_one (ps_raise (C := CS) T.eS PySem.F.excBase_ValueError T.cls_NoShare rfl (pa_cons pe_str pa_nil))) pss_nil), ?_⟩
    have hS0 : RelS K [some (.d x), some (.d (.int l)), some (.d (.int m))] [] (start ["thing", "least", "most"] [v, .int l, .int m]) H := RelS.of (K := K) 0 (.cons (IsE.nil i1) (.cons (IsE.nil (.int l)) (.cons (IsE.nil (.int m)) .nil)))
    refine test_at true hS0 (fun R h => ⟨x, rfl, ?_⟩) fun H' s => iteT ⟨sz1, kE H' s⟩
    rcases hb with hb | ⟨n, rfl, hb⟩
    · change (if (!isW x) = true then _ else _)
      rw [hb]
      exact iteT h
    · refine iteF (ite2 (fun c => h) (fun c => ?_))
      have c : ¬ n < l := fun z => c (decide_eq_true z)
      have : m < n := by rcases hb with h | h; exact absurd h c; exact h
      change R (decide (m < n)) []
      rw [decide_eq_true this]
      exact h
theorem ok_chk {f : Addr} {fd : FuncData} (F : Fun K "check_share" "check_share" scheck_share f fd) (hX : NoX (XC P w)) (T : TxtC K mg CL CS CR C1 C2 C3 C4 C5 C6 C7) (Ois_whole : Own P w K mg base (XC P w) 1 "is_whole" ["thing"] (spUp K sIsW)) : FnOk P w K mg base (XC P w) 2 f fd ["thing", "least", "most"] (spOr (spUp K sChk) (spChkX K CS)) :=
  (ok_chk0 F hX Ois_whole).or (ok_chkX F hX T Ois_whole)
theorem args_at {tr : TAd} {ρ : Rho} {σ : St} {H : Hp} {Q : List V → Hp → Prop} (es : List En) (hS : RelS K ρ [] σ H) (ht : ∀ R : List En → Mu → Prop, R es [] → tr ρ [] R) (k : ∀ vs H', Same H H' → Paired (IsE K [] H') vs es → Q vs H') : upA K tr σ H Q := by
  refine ⟨ρ, [], fun c μ => c = es ∧ μ = [], hS, RelM.nil, ht _ ⟨rfl, rfl⟩, ?_⟩
  rintro c μ' vs H' ⟨rfl, rfl⟩ _ s i
  rw [mask_nil, mask_nil] at s
  exact k vs H' s i
theorem RelS.up {ρ : Rho} {σ : St} {H H' : Hp} (h : RelS K ρ [] σ H) (s : Same H H') : RelS K ρ [] σ H' := h.same (by rw [mask_nil, mask_nil]; exact s)
theorem isE_nil {H : Hp} {v : V} {x : PyData} (h : IsE K [] H v (.d x)) : Is K H v x := by
  have h : Is K (mask [] H) v x := h
  rwa [mask_nil] at h
theorem pairC {α β : Type} {R : α → β → Prop} {vs : List α} {e : β} {es : List β} (h : PySem.Paired R vs (e :: es)) : ∃ v vs', vs = v :: vs' ∧ R v e ∧ PySem.Paired R vs' es := by
  cases h with
  | cons a b => exact ⟨_, _, rfl, a, b⟩
theorem chk_bad {tr : TAd} {ρ : Rho} {σ : St} {H : Hp} {D : Ends} {E : XK} {C : Addr} {x : PyData} {l m : Int} (hS : RelS K ρ [] σ H) (ht : ∀ R : List En → Mu → Prop, R [.d x, .d (.int l), .d (.int m)] [] → tr ρ [] R) (hb : Bad x l m) (k : ∀ H', Same H H' → E (.ref C) none H') :
    tDrop (tCall (spOr (spUp K sChk) (spChkX K C)) [] E (upA K tr)) D σ H := by
  refine args_at _ hS ht fun vs H' s i => .inr ?_
  obtain ⟨v1, vs, rfl, i1, i⟩ := pairC i
  obtain ⟨v2, vs, rfl, i2, i⟩ := pairC i
  obtain ⟨v3, vs, rfl, i3, i⟩ := pairC i
  cases i
  cases isE_nil i2
  cases isE_nil i3
  exact ⟨v1, x, l, m, rfl, isE_nil i1, hb, fun H'' s2 => k H'' (s.trans s2)⟩
theorem chk_good {tr : TAd} {ρ : Rho} {σ : St} {H : Hp} {D : Ends} {E : XK} {C : Addr} {n l m : Int} (hS : RelS K ρ [] σ H) (ht : ∀ R : List En → Mu → Prop, R [.d (.int n), .d (.int l), .d (.int m)] [] → tr ρ [] R) (h1 : l ≤ n) (h2 : n ≤ m) (k : ∀ H', Same H H' → D.nx σ H') :
    tDrop (tCall (spOr (spUp K sChk) (spChkX K C)) [] E (upA K tr)) D σ H := by
  refine args_at _ hS ht fun vs H' s i => .inl ?_
  refine ⟨[], _, fun _ μ => μ = [], RelM.nil, by rw [List.append_nil]; exact i, ⟨n, l, m, rfl, h1, h2, rfl⟩, ?_⟩
  rintro e μ' v H'' rfl _ s2 _
  rw [mask_nil, mask_nil] at s2
  exact k H'' (s.trans s2)
end
end K83
set_option Elab.async false
set_option linter.all false
set_option maxRecDepth 100000
set_option maxHeartbeats 4000000
local macro_rules | `(tactic| walk_at "i") => `(tactic| first | refine ite2 (fun c => ?_) (fun c => ?_))
namespace K83
open PySem L2
section
variable {P : Program} {w : World} {K : PySem.W.Frag} {mg : Str → Option Value} {base : Heap} {CX : CXT}
variable {CL CS CR C1 C2 C3 C4 C5 C6 C7 : Addr}
def sParts : SpD := fun es μ Q => ∃ (a b c k : Int) (ps : List Pt), es = [.d (tupD [a, b, c]), .d (hpD ps), .d (.int k)] ∧ a.natAbs ≤ B40 ∧ b.natAbs ≤ B40 ∧ Bds ps ∧ ps.length ≤ 1000 ∧ ∀ r, Q (.d (.bool r)) μ
theorem sc_parts : FnScope ["line", "heap", "k", "below", "on", "above"] ["line", "heap", "k"] (defScope sparts) := ⟨rfl, rfl, rfl, by decide +kernel, rfl, by decide +kernel, by decide +kernel⟩
theorem ok_parts {f : Addr} {fd : FuncData} (F : Fun K "parts" "parts" sparts f fd) (T : Txt mg) (hX : NoX CX) (Ocounts : Own P w K mg base CX 3 "counts" ["line", "heap"] (spUp K sCnt)) : FnOk P w K mg base CX 4 f fd ["line", "heap", "k"] (spUp K sParts) := by
  refine F.okD sc_parts (fun es μ Q ⟨a, b, c, k, ps, e, _⟩ => by subst e; rfl) (fun cdv A outer s H E es μ Q hr ⟨a, b, c, k, ps, e, ha, hb, hp, hl, q⟩ => ?_)
  subst e
  have nd := sc_parts.nd
  refine ⟨_, (ds_cons (ds_asg (d_own Ocounts hX (hr.mono (by decide)) rfl (da_cons (dv 0) (da_cons (dv 1) da_nil))) (dg_tup (n := 3) rfl (dgs_cons (dg_name (i := 3) nd rfl (by first | exact Or.inl rfl | exact Or.inr rfl)) (dgs_cons (dg_name (i := 4) nd rfl (by first | exact Or.inl rfl | exact Or.inr rfl)) (dgs_cons (dg_name (i := 5) nd rfl (by first | exact Or.inl rfl | exact Or.inr rfl)) dgs_nil)))))
      (ds_one (ds_ret (d_and (d_cmp do_le (dv 3) (dv 2) (nomark _)) (d_one (d_cmp do_le (dv 5) (d_op do_sub (d_callB dc_len (by rfl) T.len_ bt_len (da_cons (dv 1) da_nil)) (dv 2)) (nomark _))))))), ?_⟩
  refine ⟨a, b, c, ps, rfl, ha, hb, hp, hl, rfl, ite2 (fun z => ⟨_, .l (.d _), q _⟩) (fun z => q _)⟩
def sTurn : SpD := fun es μ Q => ∃ a b : Int, es = [.d (.tuple [.int a, .int b])] ∧ Q (.d (.tuple [.int (-a), .int (-b)])) μ
theorem sc_turned : FnScope ["arrow"] ["arrow"] (defScope sturned_about) := ⟨rfl, rfl, rfl, by decide +kernel, rfl, by decide +kernel, by decide +kernel⟩
theorem ok_turned {f : Addr} {fd : FuncData} (F : Fun K "turned_about" "turned_about" sturned_about f fd)  : FnOk P w K mg base CX 1 f fd ["arrow"] (spUp K sTurn) := by
  refine F.okD sc_turned (fun es μ Q ⟨a, b, e, _⟩ => by subst e; rfl) (fun cdv A outer s H E es μ Q hr ⟨a, b, e, q⟩ => ?_)
  subst e
  have nd := sc_turned.nd
  refine ⟨_, (ds_one (ds_ret (d_tup (da_cons (d_un du_neg (d_ix dx_seq (dv 0) d_int (fun _ _ => rfl))) (da_cons (d_un du_neg (d_ix dx_seq (dv 0) d_int (fun _ _ => rfl))) da_nil))))), ?_⟩
  exact ⟨_, rfl, _, rfl, zl2, q⟩
theorem prs_ne {l : List Pt} (hn : l.Nodup) {p : Pt × Pt} (h : p ∈ prs l) : p.1 ∈ l ∧ p.2 ∈ l ∧ p.1 ≠ p.2 := by
  induction l with
  | nil => exact (nomatch h)
  | cons a t ih =>
    obtain ⟨h1, h2⟩ := List.nodup_cons.mp hn
    rcases List.mem_append.mp h with h | h
    · obtain ⟨b, hb, rfl⟩ := List.mem_map.mp h
      exact ⟨List.mem_cons_self, List.mem_cons_of_mem _ hb, fun z => h1 (by have z : a = b := z; rw [z]; exact hb)⟩
    · obtain ⟨a1, a2, a3⟩ := ih h2 h
      exact ⟨List.mem_cons_of_mem _ a1, List.mem_cons_of_mem _ a2, a3⟩
def sPart : SpD := fun es μ Q => ∃ (A B : List Pt) (k m : Int), es = [.d (hpD A), .d (.int k), .d (hpD B), .d (.int m)] ∧ 0 ≤ k ∧ k ≤ A.length ∧ 0 ≤ m ∧ m ≤ B.length ∧ A.length + B.length ≤ 44 ∧ Bds A ∧ Bds B ∧ ∀ x, Q (.d x) μ
theorem sc_parting0 : FnScope ["one", "k", "other", "m", "first", "second", "line", "normal"] ["one", "k", "other", "m"] (defScope sparting) := ⟨rfl, rfl, rfl, by decide +kernel, rfl, by decide +kernel, by decide +kernel⟩
theorem ok_parting0 {f : Addr} {fd : FuncData} (F : Fun K "parting" "parting" sparting f fd) (T : Txt mg) (hX : NoX CX) (Ocheck_share : Own P w K mg base CX 2 "check_share" ["thing", "least", "most"] (spOr (spUp K sChk) (spChkX K CS))) (Oplace_pairs : Own P w K mg base CX 2 "place_pairs" ["heap"] (spUp K sPp)) (Othrough : Own P w K mg base CX 3 "through" ["one", "other"] (spUp K sThr)) (Oparts : Own P w K mg base CX 4 "parts" ["line", "heap", "k"] (spUp K sParts)) (Oturned_about : Own P w K mg base CX 1 "turned_about" ["arrow"] (spUp K sTurn)) : FnOk P w K mg base CX 5 f fd ["one", "k", "other", "m"] (spUp K sPart) := by
  refine F.okD sc_parting0 (fun es μ Q ⟨A, B, k, m, e, _⟩ => by subst e; rfl) (fun cdv A' outer s H E es μ Q hr ⟨A, B, k, m, e, k0, k1, m0, m1, hl, hA, hB, q⟩ => ?_)
  subst e
  have nd := sc_parting0.nd
  refine ⟨_, (ds_cons (ds_expr (d_own Ocheck_share.l hX (hr.mono (by decide)) rfl (da_cons (dv 1) (da_cons d_int (da_cons (d_callB dc_len (by rfl) T.len_ bt_len (da_cons (dv 0) da_nil)) da_nil)))))
      (ds_cons (ds_expr (d_own Ocheck_share.l hX (hr.mono (by decide)) rfl (da_cons (dv 3) (da_cons d_int (da_cons (d_callB dc_len (by rfl) T.len_ bt_len (da_cons (dv 2) da_nil)) da_nil)))))
      (ds_cons (ds_for PassesOwn.never rfl (di_list (d_own Oplace_pairs hX (hr.mono (by decide)) rfl (da_cons (d_op do_cat (dv 0) (dv 2)) da_nil))) (dg_tup (n := 2) rfl (dgs_cons (dg_name (i := 4) nd rfl (by first | exact Or.inl rfl | exact Or.inr rfl)) (dgs_cons (dg_name (i := 5) nd rfl (by first | exact Or.inl rfl | exact Or.inr rfl)) dgs_nil))) (ds_cons (ds_set (i := 6) nd rfl (by first | exact Or.inl rfl | exact Or.inr rfl) (d_own Othrough hX (hr.mono (by decide)) rfl (da_cons (dv 4) (da_cons (dv 5) da_nil))))
      (ds_cons (ds_set (i := 7) nd rfl (by first | exact Or.inl rfl | exact Or.inr rfl) (d_sliceT (dv 6) dp_none (dp_some d_int)))
      (ds_cons (ds_if (dt_w (dw_and (dt_val (d_own Oparts hX (hr.mono (by decide)) rfl (da_cons (dv 6) (da_cons (dv 0) (da_cons (dv 1) da_nil))))) (dw_and1 (dt_val (d_own Oparts hX (hr.mono (by decide)) rfl (da_cons (dv 6) (da_cons (dv 2) (da_cons (dv 3) da_nil)))))))) (ds_one (ds_ret (d_tup (da_cons (dv 7) (da_cons (dv 6) (da_cons (dv 4) (da_cons (dv 5) da_nil))))))) ds_nil)
      (ds_one (ds_if (dt_w (dw_and (dt_val (d_own Oparts hX (hr.mono (by decide)) rfl (da_cons (dv 6) (da_cons (dv 0) (da_cons (d_op do_sub (d_callB dc_len (by rfl) T.len_ bt_len (da_cons (dv 0) da_nil)) (dv 1)) da_nil))))) (dw_and1 (dt_val (d_own Oparts hX (hr.mono (by decide)) rfl (da_cons (dv 6) (da_cons (dv 2) (da_cons (d_op do_sub (d_callB dc_len (by rfl) T.len_ bt_len (da_cons (dv 2) da_nil)) (dv 3)) da_nil)))))))) (ds_one (ds_ret (d_tup (da_cons (d_own Oturned_about hX (hr.mono (by decide)) rfl (da_cons (dv 7) da_nil)) (da_cons (dv 6) (da_cons (dv 4) (da_cons (dv 5) da_nil))))))) ds_nil))))))
      (ds_one (ds_ret d_non))))), ?_⟩
  have la : (A.map ptD).length = A.length := List.length_map ..
  have lb : (B.map ptD).length = B.length := List.length_map ..
  refine ⟨_, .l (.d _), k, 0, _, rfl, k0, by omega, _, .l (.d _), m, 0, _, rfl, m0, by omega, ?_⟩
  refine ⟨_, _, .d _, .d _, by omega, A ++ B, (by show [En.d (.list (A.map ptD ++ B.map ptD))] = _; rw [← List.map_append]; rfl), (by rw [List.length_append]; exact hl), fun hP => ⟨_, .d _, ?_⟩⟩
  have hne : ∀ p ∈ prs (plc (A ++ B)), Bd B30 p.1 ∧ Bd B30 p.2 ∧ p.1 ≠ p.2 := fun p hp => by
    obtain ⟨h1, h2, h3⟩ := prs_ne hP.1 hp
    have hb : ∀ z ∈ A ++ B, Bd B30 z := fun z hz => by
      rcases List.mem_append.mp hz with h | h
      · exact hA z h
      · exact hB z h
    exact ⟨hb _ ((hP.2.2 _).mp h1), hb _ ((hP.2.2 _).mp h2), h3⟩
  generalize prs (plc (A ++ B)) = L at *
  refine forL (fun i ρ' μ' => μ' = μ ∧ ∃ v4 v5 v6 v7, ρ' = [some (.d (hpD A)), some (.d (.int k)), some (.d (hpD B)), some (.d (.int m)), v4, v5, v6, v7]) ⟨rfl, _, _, _, _, rfl⟩ (fun _ _ _ _ => .d _) ?_ ?_
  · rintro i x ρ' μ' hx ⟨rfl, v4, v5, v6, v7, rfl⟩
    rw [List.getElem?_map] at hx
    obtain ⟨p, hp, rfl⟩ := Option.map_eq_some_iff.mp hx
    obtain ⟨b1, b2, h3⟩ := hne p (List.mem_of_getElem? hp)
    have hb := nOf_bd b1 b2 h3
    have n1 : (nOf p.1 p.2).1.natAbs ≤ B40 := Nat.le_trans hb.1 (by decide)
    have n2 : (nOf p.1 p.2).2.natAbs ≤ B40 := Nat.le_trans hb.2 (by decide)
    refine ⟨rfl, p.1, p.2, rfl, b1, b2, h3, ?_⟩
    refine ⟨(by rintro ⟨_, z⟩; exact absurd (show HT.sIx 3 3 (some 2) = 3 from z) (by decide)), _, _, _, k, A, rfl, n1, n2, hA, by omega, fun r1 => ite2 (fun _ => ?_) (fun _ => ?_)⟩
    · refine ⟨_, _, _, m, B, rfl, n1, n2, hB, by omega, fun r2 => ite2 (fun _ => ⟨zl4, q _⟩) (fun _ => ?_)⟩
      exact ⟨_, .l (.d _), _, _, _, _, A, rfl, n1, n2, hA, by omega, fun r3 => ite2 (fun _ => ⟨_, .l (.d _), _, _, _, _, B, rfl, n1, n2, hB, by omega, fun r4 => ite2 (fun _ => ⟨_, _, rfl, zl4, q _⟩) (fun _ => Wks.of ⟨rfl, _, _, _, _, rfl⟩)⟩) (fun _ => Wks.of ⟨rfl, _, _, _, _, rfl⟩)⟩
    · exact ⟨_, .l (.d _), _, _, _, _, A, rfl, n1, n2, hA, by omega, fun r3 => ite2 (fun _ => ⟨_, .l (.d _), _, _, _, _, B, rfl, n1, n2, hB, by omega, fun r4 => ite2 (fun _ => ⟨_, _, rfl, zl4, q _⟩) (fun _ => Wks.of ⟨rfl, _, _, _, _, rfl⟩)⟩) (fun _ => Wks.of ⟨rfl, _, _, _, _, rfl⟩)⟩
  · rintro ρ' μ' ⟨rfl, v4, v5, v6, v7, rfl⟩
    exact q _
def spPartX (K : PySem.W.Frag) (C : Addr) : Sp := fun vs H Q E => ∃ (v1 v2 v3 v4 : V) (A B : List Pt) (x y : PyData), vs = [v1, v2, v3, v4] ∧ Is K H v1 (hpD A) ∧ Is K H v2 x ∧ Is K H v3 (hpD B) ∧ Is K H v4 y ∧
  (Bad x 0 A.length ∨ ((∃ n, x = .int n ∧ 0 ≤ n ∧ n ≤ A.length) ∧ Bad y 0 B.length)) ∧ ∀ H', Same H H' → E (.ref C) none H'
theorem ok_partX {f : Addr} {fd : FuncData} (F : Fun K "parting" "parting" sparting f fd) (T : Txt mg) (Ocheck_share : Own P w K mg base (XC P w) 2 "check_share" ["thing", "least", "most"] (spOr (spUp K sChk) (spChkX K CS))) : FnOk P w K mg base (XC P w) 5 f fd ["one", "k", "other", "m"] (spPartX K CS) := by
  refine okX F (N := ["one", "k", "other", "m", "first", "second", "line", "normal"]) ⟨rfl, rfl, rfl, by decide +kernel, rfl, by decide +kernel, by decide +kernel⟩ (fun vs H Q E h => ?_) (fun cdv A' outer s H vs Q E hr h => ?_)
  · obtain ⟨v1, v2, v3, v4, A, B, x, y, rfl, _⟩ := h
    rfl
  · obtain ⟨v1, v2, v3, v4, A, B, x, y, rfl, i1, i2, i3, i4, hb, kE⟩ := h
    refine ⟨_, pss_cons (ps_expr (pe_ownX Ocheck_share passX (hr.mono (by decide)) rfl (da_cons (dv 1) (da_cons d_int (da_cons (d_callB dc_len (by rfl) T.len_ bt_len (da_cons (dv 0) da_nil)) da_nil))))) (pss_cons (ps_expr (pe_ownX Ocheck_share passX (hr.mono (by decide)) rfl (da_cons (dv 3) (da_cons d_int (da_cons (d_callB dc_len (by rfl) T.len_ bt_len (da_cons (dv 2) da_nil)) da_nil))))) pss_never), ?_⟩
    have hS0 : RelS K [some (.d (hpD A)), some (.d x), some (.d (hpD B)), some (.d y), none, none, none, none] [] (start ["one", "k", "other", "m", "first", "second", "line", "normal"] [v1, v2, v3, v4]) H := RelS.of (K := K) 4 (.cons (IsE.nil i1) (.cons (IsE.nil i2) (.cons (IsE.nil i3) (.cons (IsE.nil i4) .nil))))
    have la : ((A.map ptD).length : Int) = A.length := by rw [List.length_map]
    have lb : ((B.map ptD).length : Int) = B.length := by rw [List.length_map]
    rcases hb with hb | ⟨⟨n, rfl, n0, n1⟩, hb⟩
    · refine chk_bad hS0 (fun R h => ⟨_, .l (.d _), ?_⟩) hb kE
      rw [la]; exact h
    · refine chk_good hS0 (l := 0) (m := A.length) (fun R h => ⟨_, .l (.d _), ?_⟩) n0 n1 fun H' s => ?_
      · rw [la]; exact h
      · refine chk_bad (RelS.up hS0 s) (fun R h => ⟨_, .l (.d _), ?_⟩) hb fun H'' s2 => kE H'' (s.trans s2)
        rw [lb]; exact h
theorem ok_part {f : Addr} {fd : FuncData} (F : Fun K "parting" "parting" sparting f fd) (T : Txt mg) (hX : NoX (XC P w)) (Ocheck_share : Own P w K mg base (XC P w) 2 "check_share" ["thing", "least", "most"] (spOr (spUp K sChk) (spChkX K CS))) (Oplace_pairs : Own P w K mg base (XC P w) 2 "place_pairs" ["heap"] (spUp K sPp)) (Othrough : Own P w K mg base (XC P w) 3 "through" ["one", "other"] (spUp K sThr)) (Oparts : Own P w K mg base (XC P w) 4 "parts" ["line", "heap", "k"] (spUp K sParts)) (Oturned_about : Own P w K mg base (XC P w) 1 "turned_about" ["arrow"] (spUp K sTurn)) : FnOk P w K mg base (XC P w) 5 f fd ["one", "k", "other", "m"] (spOr (spUp K sPart) (spPartX K CS)) :=
  (ok_parting0 F T hX Ocheck_share Oplace_pairs Othrough Oparts Oturned_about).or (ok_partX F T Ocheck_share)
end
end K83
set_option Elab.async false
set_option linter.all false
set_option maxRecDepth 100000
set_option maxHeartbeats 4000000
local macro_rules | `(tactic| walk_at "i") => `(tactic| first | refine ite2 (fun c => ?_) (fun c => ?_))
namespace K83
open PySem L2
section
variable {P : Program} {w : World} {K : PySem.W.Frag} {mg : Str → Option Value} {base : Heap} {CX : CXT}
variable {CL CS CR C1 C2 C3 C4 C5 C6 C7 : Addr}
def inRow (h : Int) (ps : List Pt) : Bool := ps.all fun p => decide (p.2 = h)
def sIsRow : SpD := fun es μ Q => ∃ (ps : List Pt) (h : Int), es = [.d (hpD ps), .d (.int h)] ∧ ps.length ≤ 1000 ∧ Q (.d (.bool (inRow h ps))) μ
theorem sc_isrow : FnScope ["heap", "height"] ["heap", "height"] (defScope sis_row) := ⟨rfl, rfl, rfl, by decide +kernel, rfl, by decide +kernel, by decide +kernel⟩
theorem ok_isrow {f : Addr} {fd : FuncData} (F : Fun K "is_row" "is_row" sis_row f fd) (T : Txt mg) : FnOk P w K mg base CX 1 f fd ["heap", "height"] (spUp K sIsRow) := by
  refine F.okD sc_isrow (fun es μ Q ⟨xs, y, e, _⟩ => by subst e; rfl) (fun cdv A outer s H E es μ Q hr ⟨ps, h, e, hl, k⟩ => ?_)
  subst e
  have nd := sc_isrow.nd
  refine ⟨_, (ds_one (ds_ret (d_callB (dc_all rfl) (by rfl) T.all_ bt_all (da_cons (d_comp (L := ["x", "y"]) (sc := defScope sis_row) (N := ["heap", "height"]) rfl rfl rfl (by decide +kernel) (di_list (dv 0)) (fun _ _ _ _ _ => (dg_tup (n := 2) rfl (dgs_cons (dg_name (i := 2) (show List.Nodup (["heap", "height", "x", "y"] : List Str) from by decide +kernel) rfl (by first | exact Or.inl rfl | exact Or.inr rfl)) (dgs_cons (dg_name (i := 3) (show List.Nodup (["heap", "height", "x", "y"] : List Str) from by decide +kernel) rfl (by first | exact Or.inl rfl | exact Or.inr rfl)) dgs_nil)))) (fun _ _ _ _ _ => dfs_nil) (fun _ _ _ _ _ => (d_cmp (do_eq hr.units) (dv 3) (dv 1) (nomark _)))) da_nil)))), ?_⟩
  refine ⟨_, .d _, (show (ps.map ptD).length ≤ 1000 by rw [List.length_map]; exact hl), comp2L (as := ps) (h1 := fun p => .int p.1) (h2 := fun p => .int p.2) (fun p => .bool (decide (p.2 = h))) (Src.l (.d _)) (fun a ha R h => h) ?_⟩
  refine ⟨ps.map fun p => decide (p.2 = h), ?_, ?_⟩
  · rw [List.map_map]; exact .d _
  · have e : (ps.map fun p => decide (p.2 = h)).all id = inRow h ps := by
      unfold inRow
      rw [List.all_map]; rfl
    change Q (.d (.bool ((ps.map fun p => decide (p.2 = h)).all id))) μ
    rw [e]; exact k
theorem inRow_at {h : Int} {ps : List Pt} (e : inRow h ps = true) : ∀ p ∈ ps, p.2 = h := fun p hp => of_decide_eq_true (List.all_eq_true.mp e p hp)
def sRl : SpD := fun es μ Q => ∃ (A B : List Pt) (k m : Int), es = [.d (hpD A), .d (.int k), .d (hpD B), .d (.int m)] ∧ 1 ≤ k ∧ k ≤ A.length ∧ 1 ≤ m ∧ m ≤ B.length ∧ A.length < 64 ∧ B.length < 64 ∧ inRow 0 A = true ∧ inRow 1 B = true ∧ Bds A ∧ Bds B ∧ ∀ x, Q (.d x) μ
theorem at_ks {ks : List (List Int)} {ps : List Pt} (hp : ks.Perm (ps.map ptK)) {k : Int} (k1 : 1 ≤ k) (k2 : k ≤ ps.length) : ∃ q ∈ ps, atI (ks.map tupD) (k - 1) = some (ptD q) := by
  have hl : ks.length = ps.length := by rw [hp.length_eq, List.length_map]
  have hj : (k - 1).toNat < ks.length := by omega
  obtain ⟨q, hq, eq⟩ := List.mem_map.mp (hp.mem_iff.mp (List.getElem_mem hj))
  refine ⟨q, hq, ?_⟩
  have := atI_nat (xs := ks.map tupD) (j := (k - 1).toNat) (v := ptD q) (by
    rw [List.getElem?_map, List.getElem?_eq_getElem hj, ← eq]; rfl)
  rwa [show (((k - 1).toNat : Nat) : Int) = k - 1 by omega] at this
theorem sc_rl0 : FnScope ["one", "k", "other", "m"] ["one", "k", "other", "m"] (defScope srow_line) := ⟨rfl, rfl, rfl, by decide +kernel, rfl, by decide +kernel, by decide +kernel⟩
theorem ok_rl0 {f : Addr} {fd : FuncData} (F : Fun K "row_line" "row_line" srow_line f fd) (T : Txt mg) (hX : NoX CX) (Ocheck_share : Own P w K mg base CX 2 "check_share" ["thing", "least", "most"] (spOr (spUp K sChk) (spChkX K CS))) (Ois_row : Own P w K mg base CX 1 "is_row" ["heap", "height"] (spUp K sIsRow)) (Othrough : Own P w K mg base CX 3 "through" ["one", "other"] (spUp K sThr)) : FnOk P w K mg base CX 5 f fd ["one", "k", "other", "m"] (spUp K sRl) := by
  refine F.okD sc_rl0 (fun es μ Q ⟨A, B, k, m, e, _⟩ => by subst e; rfl) (fun cdv A' outer s H E es μ Q hr ⟨A, B, k, m, e, k1, k2, m1, m2, lA, lB, rA, rB, hA, hB, q⟩ => ?_)
  subst e
  have nd := sc_rl0.nd
  refine ⟨_, (ds_cons (ds_if (dt_w (dw_or (dt_not (dt_val (d_own Ois_row hX (hr.mono (by decide)) rfl (da_cons (dv 0) (da_cons d_int da_nil))))) (dw_or1 (dt_not (dt_val (d_own Ois_row hX (hr.mono (by decide)) rfl (da_cons (dv 2) (da_cons d_int da_nil)))))))) (ds_one ds_never) ds_nil)
      (ds_cons (ds_expr (d_own Ocheck_share.l hX (hr.mono (by decide)) rfl (da_cons (dv 1) (da_cons d_int (da_cons (d_callB dc_len (by rfl) T.len_ bt_len (da_cons (dv 0) da_nil)) da_nil)))))
      (ds_cons (ds_expr (d_own Ocheck_share.l hX (hr.mono (by decide)) rfl (da_cons (dv 3) (da_cons d_int (da_cons (d_callB dc_len (by rfl) T.len_ bt_len (da_cons (dv 2) da_nil)) da_nil)))))
      (ds_one (ds_ret (d_own Othrough hX (hr.mono (by decide)) rfl (da_cons (d_ix dx_seq (d_callB dc_sortT (by rfl) T.sorted_ bt_sorted (da_cons (dv 0) da_nil)) (d_op do_sub (dv 1) d_int) (fun _ _ => rfl)) (da_cons (d_ix dx_seq (d_callB dc_sortT (by rfl) T.sorted_ bt_sorted (da_cons (dv 2) da_nil)) (d_op do_sub (dv 3) d_int) (fun _ _ => rfl)) da_nil)))))))), ?_⟩
  have la : (A.map ptD).length = A.length := List.length_map ..
  have lb : (B.map ptD).length = B.length := List.length_map ..
  refine ⟨A, 0, rfl, by omega, ?_⟩
  change (if (!inRow 0 A) = true then _ else _)
  rw [rA]
  refine iteF ⟨B, 1, rfl, by omega, ?_⟩
  change (if (!inRow 1 B) = true then _ else _)
  rw [rB]
  refine iteF ⟨_, .l (.d _), k, 1, _, rfl, k1, by omega, _, .l (.d _), m, 1, _, rfl, m1, by omega, ?_⟩
  refine ⟨A.map ptK, by rw [← ptK_map]; exact .d _, ptK_ne A, by rw [List.length_map]; exact lA, fun ks hp hs => ?_⟩
  obtain ⟨p, hpA, ep⟩ := at_ks hp k1 k2
  refine ⟨_, ep, B.map ptK, by rw [← ptK_map]; exact .d _, ptK_ne B, by rw [List.length_map]; exact lB, fun ks2 hp2 hs2 => ?_⟩
  obtain ⟨r, hrB, er⟩ := at_ks hp2 m1 m2
  refine ⟨_, er, p, r, rfl, hA p hpA, hB r hrB, fun z => ?_, q _⟩
  have y1 := inRow_at rA p hpA
  have y2 := inRow_at rB r hrB
  rw [z, y2] at y1
  exact absurd y1 (by decide)
def spRlX (K : PySem.W.Frag) (CR CS : Addr) : Sp := fun vs H Q E => ∃ (v1 v2 v3 v4 : V) (A B : List Pt) (x y : PyData), vs = [v1, v2, v3, v4] ∧ Is K H v1 (hpD A) ∧ Is K H v2 x ∧ Is K H v3 (hpD B) ∧ Is K H v4 y ∧ A.length ≤ 1000 ∧ B.length ≤ 1000 ∧
  (((inRow 0 A = false ∨ inRow 1 B = false) ∧ ∀ H', Same H H' → E (.ref CR) none H') ∨
   (inRow 0 A = true ∧ inRow 1 B = true ∧ (Bad x 1 A.length ∨ ((∃ n, x = .int n ∧ 1 ≤ n ∧ n ≤ A.length) ∧ Bad y 1 B.length)) ∧ ∀ H', Same H H' → E (.ref CS) none H'))
theorem ok_rlX {f : Addr} {fd : FuncData} (F : Fun K "row_line" "row_line" srow_line f fd) (T : Txt mg) (hX : NoX (XC P w)) (TC : TxtC K mg CL CS CR C1 C2 C3 C4 C5 C6 C7) (Ocheck_share : Own P w K mg base (XC P w) 2 "check_share" ["thing", "least", "most"] (spOr (spUp K sChk) (spChkX K CS))) (Ois_row : Own P w K mg base (XC P w) 1 "is_row" ["heap", "height"] (spUp K sIsRow)) : FnOk P w K mg base (XC P w) 5 f fd ["one", "k", "other", "m"] (spRlX K CR CS) := by
  refine okX F (N := ["one", "k", "other", "m"]) ⟨rfl, rfl, rfl, by decide +kernel, rfl, by decide +kernel, by decide +kernel⟩ (fun vs H Q E h => ?_) (fun cdv A' outer s H vs Q E hr h => ?_)
  · obtain ⟨v1, v2, v3, v4, A, B, x, y, rfl, _⟩ := h
    rfl
  · obtain ⟨v1, v2, v3, v4, A, B, x, y, rfl, i1, i2, i3, i4, l1, l2, hb⟩ := h
    refine ⟨_, pss_cons (ps_if (dt_w (dw_or (dt_not (dt_val (d_own Ois_row hX (hr.mono (by decide)) rfl (da_cons (dv 0) (da_cons d_int da_nil))))) (dw_or1 (dt_not (dt_val (d_own Ois_row hX (hr.mono (by decide)) rfl (da_cons (dv 2) (da_cons d_int da_nil)))))))) (pss_one (ps_raise (C := CR) TC.eR PySem.F.excBase_ValueError TC.cls_NoRows rfl (pa_cons pe_str pa_nil))) pss_nil)
      (pss_cons (ps_expr (pe_ownX Ocheck_share passX (hr.mono (by decide)) rfl (da_cons (dv 1) (da_cons d_int (da_cons (d_callB dc_len (by rfl) T.len_ bt_len (da_cons (dv 0) da_nil)) da_nil))))) (pss_cons (ps_expr (pe_ownX Ocheck_share passX (hr.mono (by decide)) rfl (da_cons (dv 3) (da_cons d_int (da_cons (d_callB dc_len (by rfl) T.len_ bt_len (da_cons (dv 2) da_nil)) da_nil))))) pss_never)), ?_⟩
    have hS0 : RelS K [some (.d (hpD A)), some (.d x), some (.d (hpD B)), some (.d y)] [] (start ["one", "k", "other", "m"] [v1, v2, v3, v4]) H := RelS.of (K := K) 0 (.cons (IsE.nil i1) (.cons (IsE.nil i2) (.cons (IsE.nil i3) (.cons (IsE.nil i4) .nil))))
    have la : ((A.map ptD).length : Int) = A.length := by rw [List.length_map]
    have lb : ((B.map ptD).length : Int) = B.length := by rw [List.length_map]
    rcases hb with ⟨hr0, kE⟩ | ⟨rA, rB, hb, kE⟩
    · refine test_at true hS0 (fun R h => ⟨A, 0, rfl, l1, ?_⟩) fun H' s => iteT ⟨sz1, kE H' s⟩
      change (if (!inRow 0 A) = true then _ else _)
      cases e : inRow 0 A with
      | false => exact iteT h
      | true =>
        rcases hr0 with z | z
        · rw [e] at z; cases z
        · refine iteF ⟨B, 1, rfl, l2, ?_⟩
          change R (!inRow 1 B) []
          rw [z]; exact h
    · refine test_at false hS0 (fun R h => ⟨A, 0, rfl, l1, ?_⟩) fun H' s => iteF ?_
      · change (if (!inRow 0 A) = true then _ else _)
        rw [rA]
        refine iteF ⟨B, 1, rfl, l2, ?_⟩
        change R (!inRow 1 B) []
        rw [rB]; exact h
      · rcases hb with hb | ⟨⟨n, rfl, n0, n1⟩, hb⟩
        · refine chk_bad (RelS.up hS0 s) (fun R h => ⟨_, .l (.d _), ?_⟩) hb fun H'' s2 => kE H'' (s.trans s2)
          rw [la]; exact h
        · refine chk_good (RelS.up hS0 s) (l := 1) (m := A.length) (fun R h => ⟨_, .l (.d _), ?_⟩) n0 n1 fun H1 s1 => ?_
          · rw [la]; exact h
          · refine chk_bad (RelS.up hS0 (s.trans s1)) (fun R h => ⟨_, .l (.d _), ?_⟩) hb fun H'' s2 => kE H'' ((s.trans s1).trans s2)
            rw [lb]; exact h
theorem ok_rl {f : Addr} {fd : FuncData} (F : Fun K "row_line" "row_line" srow_line f fd) (T : Txt mg) (hX : NoX (XC P w)) (TC : TxtC K mg CL CS CR C1 C2 C3 C4 C5 C6 C7) (Ocheck_share : Own P w K mg base (XC P w) 2 "check_share" ["thing", "least", "most"] (spOr (spUp K sChk) (spChkX K CS))) (Ois_row : Own P w K mg base (XC P w) 1 "is_row" ["heap", "height"] (spUp K sIsRow)) (Othrough : Own P w K mg base (XC P w) 3 "through" ["one", "other"] (spUp K sThr)) : FnOk P w K mg base (XC P w) 5 f fd ["one", "k", "other", "m"] (spOr (spUp K sRl) (spRlX K CR CS)) :=
  (ok_rl0 F T hX Ocheck_share Ois_row Othrough).or (ok_rlX F T hX TC Ocheck_share Ois_row)
end
end K83
set_option Elab.async false
set_option linter.all false
set_option maxRecDepth 100000
set_option maxHeartbeats 4000000
local macro_rules | `(tactic| walk_at "i") => `(tactic| first | refine ite2 (fun c => ?_) (fun c => ?_))
namespace K83
open PySem L2
section
variable {P : Program} {w : World} {K : PySem.W.Frag} {mg : Str → Option Value} {base : Heap} {CX : CXT}
theorem shapedHp (A : List Pt) : SeqAt.shaped (hpD A) = true := by
  have h1 : PyData.canLayAll0 (A.map ptD) = true := canLay_all (fun p => rfl) A
  have d2 : PyData.depthAll (A.map ptD) ≤ 3 := depth_all (n := 2) (fun p => by unfold ptD; simp [PyData.depth, PyData.depthAll]) A
  unfold SeqAt.shaped
  rw [Bool.and_eq_true]
  refine ⟨by unfold hpD; simp only [PyData.canLay0, h1], decide_eq_true ?_⟩
  unfold hpD
  simp only [PyData.depth]
  omega
def sRow : SpD := fun es μ Q => ∃ (p : Addr) (y : Int), es = [.m p, .d (.int y)] ∧ (p, PA0) ∈ μ ∧ -10 ≤ y ∧ y ≤ 10 ∧ ∀ ps : List Pt, ps.length ≤ 5 → Bds ps → Q (.d (hpD ps)) μ
theorem numB {a b : Int} (ha : Num a) (hb : Num b) : Bd B30 (a, b) := by
  unfold Num at ha hb
  exact ⟨(show a.natAbs ≤ 1000000000000000000000000000000 by omega), (show b.natAbs ≤ 1000000000000000000000000000000 by omega)⟩
theorem at_hp {ps : List Pt} {d : Int} (d0 : 0 ≤ d) (d1 : d < ps.length) : ∃ q ∈ ps, atI (ps.map ptD) d = some (ptD q) := by
  have hd : d.toNat < ps.length := by omega
  refine ⟨ps[d.toNat], List.getElem_mem hd, ?_⟩
  have := atI_nat (xs := ps.map ptD) (j := d.toNat) (v := ptD ps[d.toNat]) (by rw [List.getElem?_map, List.getElem?_eq_getElem hd]; rfl)
  rwa [show ((d.toNat : Nat) : Int) = d by omega] at this
theorem at3 {a b c d : Int} (d0 : 0 ≤ d) (d1 : d < 3) : ∃ n : Int, (n = a ∨ n = b ∨ n = c) ∧ atI [PyData.int a, .int b, .int c] d = some (.int n) := by
  have : d = 0 ∨ d = 1 ∨ d = 2 := by omega
  rcases this with rfl | rfl | rfl
  · exact ⟨a, .inl rfl, rfl⟩
  · exact ⟨b, .inr (.inl rfl), rfl⟩
  · exact ⟨c, .inr (.inr rfl), rfl⟩
theorem sc_row : FnScope ["_law_pot_here", "_law_y", "_law_heap", "_law_at"] ["_law_pot_here", "_law_y"] (defScope s_law_row) := ⟨rfl, rfl, rfl, by decide +kernel, rfl, by decide +kernel, by decide +kernel⟩
theorem ok_row {f : Addr} {fd : FuncData} (F : Fun K "_law_row" "_law_row" s_law_row f fd) (T : Txt mg) (hX : NoX CX) (O_law_take : Own P w K mg base CX 1 "_law_take" ["_law_pot_here", "_law_many"] (spUp K (sDraw 2147483629))) (O_law_number : Own P w K mg base CX 3 "_law_number" ["_law_pot_here"] (spUp K (sNum 2147483629))) : FnOk P w K mg base CX 4 f fd ["_law_pot_here", "_law_y"] (spUp K sRow) := by
  refine F.okD sc_row (fun es μ Q ⟨p, y, e, _⟩ => by subst e; rfl) (fun cdv A outer s H E es μ Q hr ⟨p, y, e, hp0, y0, y1, k⟩ => ?_)
  subst e
  have nd := sc_row.nd
  refine ⟨_, (ds_cons (ds_setcM (i := 2) nd rfl (by first | exact Or.inl rfl | exact Or.inr rfl) (L := ["_law_k"]) (sc := defScope s_law_row) (N := ["_law_pot_here", "_law_y", "_law_heap", "_law_at"]) rfl rfl rfl (by decide +kernel) (di_range1 rfl T.range_ (da_cons (d_own O_law_take hX (hr.mono (by decide)) rfl (da_cons (dv 0) (da_cons d_int da_nil))) da_nil)) (fun _ _ _ _ _ => (dg_name (i := 4) (show List.Nodup (["_law_pot_here", "_law_y", "_law_heap", "_law_at", "_law_k"] : List Str) from by decide +kernel) rfl (by first | exact Or.inl rfl | exact Or.inr rfl))) (fun _ _ _ _ _ => dfs_nil) (fun _ _ _ _ _ => (d_tup (da_cons (d_own O_law_number hX (hr.mono (by decide)) rfl (da_cons (dv 0) da_nil)) (da_cons (dv 1) da_nil)))))
      (ds_cons (ds_if (dt_w (dw_and (dt_cmp (do_ne hr.units) (dv 2) (d_lst da_nil) (nomark _)) (dw_and1 (dt_cmp (do_eq hr.units) (d_own O_law_take hX (hr.mono (by decide)) rfl (da_cons (dv 0) (da_cons d_int da_nil))) d_int (nomark _))))) (ds_cons (ds_set (i := 3) nd rfl (by first | exact Or.inl rfl | exact Or.inr rfl) (d_own O_law_take hX (hr.mono (by decide)) rfl (da_cons (dv 0) (da_cons (d_callB dc_len (by rfl) T.len_ bt_len (da_cons (dv 2) da_nil)) da_nil))))
      (ds_one (ds_asg (d_tup (da_cons (d_ix dx_seq (d_ix dx_seq (dv 2) (dv 3) (fun _ _ => rfl)) d_int (fun _ _ => rfl)) (da_cons (d_ix dx_seq (d_lst (da_cons (d_op do_add (dv 1) d_int) (da_cons (d_op do_sub (dv 1) d_int) (da_cons (d_own O_law_number hX (hr.mono (by decide)) rfl (da_cons (dv 0) da_nil)) da_nil)))) (d_own O_law_take hX (hr.mono (by decide)) rfl (da_cons (dv 0) (da_cons d_int da_nil))) (fun _ _ => rfl)) da_nil))) (dg_sub (dv 2) (dv 3))))) ds_nil)
      (ds_one (ds_retF (dv 2))))), ?_⟩
  refine ⟨p, _, rfl, hp0, by decide, by decide, fun n n0 n1 => ⟨by omega, by omega, (show n.toNat ≤ 1000 by omega), ?_⟩⟩
  have ny : Num y := by unfold Num; omega
  refine ⟨fun i ys ρ' μ' => μ' = μ ∧ (∃ v, ρ' = [some (.m p), some (.d (.int y)), none, none, v]) ∧ ∃ ps : List Pt, ys = ps.map ptD ∧ ps.length = i ∧ Bds ps, ⟨rfl, ⟨_, rfl⟩, [], rfl, rfl, fun _ h => (nomatch h)⟩, fun _ _ _ _ _ _ => trivial, ?_, ?_⟩
  · rintro i ys ρ' μ' hi ⟨rfl, ⟨v, rfl⟩, ps, rfl, hl, hb⟩
    refine ⟨p, rfl, hp0, fun a ha => ⟨zl2, _, rfl, rfl, ⟨_, rfl⟩, ps ++ [(a, y)], by rw [List.map_append]; rfl, by simp [hl], fun z hz => ?_⟩⟩
    rcases List.mem_append.mp hz with h | h
    · exact hb z h
    · rw [List.mem_singleton.mp h]; exact numB ha ny
  · rintro ys ρ' μ' ⟨rfl, ⟨v, rfl⟩, ps, rfl, hl, hb⟩
    have hl : ps.length = n.toNat := hl
    intro l hlm
    have hp : ∀ z : MO, (p, PA0) ∈ (l, z) :: μ' := fun z => List.mem_cons_of_mem _ hp0
    have ln : ((ps.map ptD).length : Int) = ps.length := by rw [List.length_map]
    refine ⟨zl0, _, _, .m List.mem_cons_self, .d _, shapedHp ps, rfl, ite2 (fun c => ?_) (fun c => ⟨_, _, FzR.list1, k ps (by omega) hb⟩)⟩
    have hne : 0 < ps.length := by
      cases ps with
      | nil => exact absurd c (by decide)
      | cons a b => simp
    refine ⟨p, _, rfl, hp _, by decide, by decide, fun d d0 d1 => ite2 (fun c2 => ?_) (fun c2 => ⟨_, _, FzR.list1, k ps (by omega) hb⟩)⟩
    refine ⟨_, .l (.m List.mem_cons_self), p, _, rfl, hp _, by omega, by omega, fun e e0 e1 => ?_⟩
    obtain ⟨q, hq, eq⟩ := at_hp (ps := ps) e0 (by omega)
    refine ⟨_, _, List.mem_cons_self, eq, _, rfl, p, rfl, hp _, fun z hz => ⟨zl3, p, _, rfl, hp _, by decide, by decide, fun g g0 g1 => ?_⟩⟩
    obtain ⟨m, hm, em⟩ := at3 (a := y + 1) (b := y - 1) (c := z) g0 g1
    have nm : Num m := by
      unfold Num at hz ⊢
      rcases hm with rfl | rfl | rfl <;> omega
    refine ⟨_, em, zl2, [], μ', _, rfl, e0, by omega, _, _, FzR.list1, ?_⟩
    have es : (ps.map ptD).set e.toNat (ptD (q.1, m)) = (ps.set e.toNat (q.1, m)).map ptD := by rw [List.map_set]
    change Q (.d (.list ((ps.map ptD).set e.toNat (ptD (q.1, m))))) μ'
    rw [es]
    refine k _ (by rw [List.length_set]; omega) fun w hw => ?_
    rcases List.mem_or_eq_of_mem_set hw with h | h
    · exact hb w h
    · rw [h]
      have := (hb q hq).1
      exact ⟨this, (numB nm nm).1⟩
def sIsN : SpD := fun es μ Q => ∃ (x : PyData) (l m : Int), es = [.d x, .d (.int l), .d (.int m)] ∧ ((Bad x l m ∧ Q (.d (.bool false)) μ) ∨ ((∃ n, x = .int n ∧ l ≤ n ∧ n ≤ m) ∧ Q (.d (.bool true)) μ))
theorem sc_isn : FnScope ["_law_thing_here", "_law_least", "_law_most"] ["_law_thing_here", "_law_least", "_law_most"] (defScope s_law_is_number) := ⟨rfl, rfl, rfl, by decide +kernel, rfl, by decide +kernel, by decide +kernel⟩
theorem ok_isn {f : Addr} {fd : FuncData} (F : Fun K "_law_is_number" "_law_is_number" s_law_is_number f fd) (T : Txt mg) : FnOk P w K mg base CX 1 f fd ["_law_thing_here", "_law_least", "_law_most"] (spUp K sIsN) := by
  refine F.okD sc_isn (fun es μ Q ⟨x, l, m, e, _⟩ => by subst e; rfl) (fun cdv A outer s H E es μ Q hr ⟨x, l, m, e, k⟩ => ?_)
  subst e
  have nd := sc_isn.nd
  refine ⟨_, (ds_one (ds_ret (d_and (d_callB dc_isi (by rfl) T.isinstance_ bt_isinstance (da_cons (dv 0) (da_cons (d_ty rfl T.int_ bt_int) da_nil))) (d_and (d_not (d_callB dc_isi (by rfl) T.isinstance_ bt_isinstance (da_cons (dv 0) (da_cons (d_ty rfl T.bool_ bt_bool) da_nil)))) (d_one (d_chain do_le do_le (dv 1) (dv 0) (dv 2) (nomark _) (nomark _))))))), ?_⟩
  refine ⟨by decide, ?_⟩
  rcases k with ⟨hb, q⟩ | ⟨⟨n, rfl, n0, n1⟩, q⟩
  · rcases hb with hb | ⟨n, rfl, hb⟩
    · cases x with
      | int n => simp [isW] at hb
      | bool b => exact iteT ⟨by decide, iteF q⟩
      | _ => exact iteF q
    · refine iteT ⟨by decide, iteT ?_⟩
      refine ite2 (fun c => ?_) (fun c => q)
      have c : l ≤ n := of_decide_eq_true c
      change Q (.d (.bool (decide (n ≤ m)))) μ
      rw [decide_eq_false (by omega)]
      exact q
  · refine iteT ⟨by decide, iteT ?_⟩
    refine ite2 (fun c => ?_) (fun c => absurd (decide_eq_true n0) c)
    change Q (.d (.bool (decide (n ≤ m)))) μ
    rw [decide_eq_true n1]
    exact q
end
end K83
set_option Elab.async false
set_option linter.all false
set_option maxRecDepth 100000
set_option maxHeartbeats 4000000
local macro_rules | `(tactic| walk_at "i") => `(tactic| first | refine ite2 (fun c => ?_) (fun c => ?_))
namespace K83
open PySem L2
section
variable {P : Program} {w : World} {K : PySem.W.Frag} {mg : Str → Option Value} {base : Heap} {CX : CXT}
structure QD (K : PySem.W.Frag) (X : Cx) (a : Expr) (ρ : Rho) (d : PyData) : Prop where
  h : ∃ t, DE K X a t ∧ ∀ μ Q, Q (.d d) μ → t ρ μ Q
structure QA (K : PySem.W.Frag) (X : Cx) (es : List Expr) (ρ : Rho) (ds : List PyData) : Prop where
  h : ∃ t, DA K X es t ∧ ∀ μ Q, Q (ds.map En.d) μ → t ρ μ Q
section
variable {X : Cx} {es : List Expr} {ρ : Rho} {d : PyData} {ds : List PyData} {a b : Expr} {p : Pos} {k : Nat}
theorem qa_nil : QA K X [] ρ [] := ⟨_, da_nil, fun μ Q h => h⟩
theorem qa_cons (ha : QD K X a ρ d) (h : QA K X es ρ ds) (hs : starEach (a :: es) X.env = (false, eval a X.env) :: starEach es X.env) : QA K X (a :: es) ρ (d :: ds) :=
  have ⟨t, h1, h2⟩ := h
  have ⟨u, a1, a2⟩ := ha
  ⟨_, da_cons a1 h1 hs, fun μ Q q => a2 μ _ (h2 μ _ q)⟩
theorem qa_C {c : Const} (ha : QD K X (.Constant c k p) ρ d) (h : QA K X es ρ ds) : QA K X (.Constant c k p :: es) ρ (d :: ds) := qa_cons ha h rfl
theorem qa_U {o : UnaryOp} (ha : QD K X (.UnaryOp o a p) ρ d) (h : QA K X es ρ ds) : QA K X (.UnaryOp o a p :: es) ρ (d :: ds) := qa_cons ha h rfl
theorem qa_B {o : Operator} (ha : QD K X (.BinOp a o b p) ρ d) (h : QA K X es ρ ds) : QA K X (.BinOp a o b p :: es) ρ (d :: ds) := qa_cons ha h rfl
theorem qa_L {l : List Expr} (ha : QD K X (.List l p) ρ d) (h : QA K X es ρ ds) : QA K X (.List l p :: es) ρ (d :: ds) := qa_cons ha h rfl
theorem qa_T {l : List Expr} (ha : QD K X (.Tuple l k p) ρ d) (h : QA K X es ρ ds) : QA K X (.Tuple l k p :: es) ρ (d :: ds) := qa_cons ha h rfl
theorem qa_D (ha : QD K X (.Dict [] [] p) ρ d) (h : QA K X es ρ ds) : QA K X (.Dict [] [] p :: es) ρ (d :: ds) := qa_cons ha h rfl
theorem allD_map : ∀ ds : List PyData, allD (ds.map En.d) = some ds
  | [] => rfl
  | d :: ds => by
    have := allD_map ds
    simp only [List.map_cons, allD, this]
    rfl
theorem QA.lst (h : QA K X es ρ ds) (hl : ds.length ≤ 1000) : QD K X (.List es p) ρ (.list ds) :=
  have ⟨t, h1, h2⟩ := h
  ⟨_, d_lst h1, fun μ Q q => h2 μ _ (by
    show (match allD (ds.map En.d) with | some ds => ds.length ≤ 1000 ∧ Q (.d (.list ds)) μ | none => False)
    rw [allD_map]
    exact ⟨hl, q⟩)⟩
theorem q_bl {i : Bool} : QD K X (.Constant (.bool i) k p) ρ (.bool i) := ⟨_, d_bl, fun μ Q h => h⟩
theorem q_non : QD K X (.Constant .none k p) ρ .none := ⟨_, d_non, fun μ Q h => h⟩
theorem q_str {i : Str} : QD K X (.Constant (.str i) k p) ρ (.str i) := ⟨_, d_str, fun μ Q h => h⟩
theorem q_emp : QD K X (.Dict [] [] p) ρ (.dict []) := ⟨_, d_emp, fun μ Q h => h⟩
theorem q_l0 : QD K X (.List [] p) ρ (.list []) := ⟨_, d_lst da_nil, fun μ Q h => ⟨zl0, h⟩⟩
theorem q_l1 {i : Int} {p2 : Pos} : QD K X (.List [.Constant (.int i) k p2] p) ρ (.list [.int i]) := ⟨_, d_lst (da_cons d_int da_nil), fun μ Q h => ⟨zl1, h⟩⟩
theorem q_t0 : QD K X (.Tuple [] k p) ρ (.tuple []) := ⟨_, d_tup da_nil, fun μ Q h => ⟨zl0, h⟩⟩
theorem q_t1 {i : Int} {p2 : Pos} {k2 : Nat} : QD K X (.Tuple [.Constant (.int i) k p2] k2 p) ρ (.tuple [.int i]) := ⟨_, d_tup (da_cons d_int da_nil), fun μ Q h => ⟨zl1, h⟩⟩
theorem q_neg {i : Int} {p2 : Pos} : QD K X (.UnaryOp .USub (.Constant (.int i) k p2) p) ρ (.int (-i)) := ⟨_, d_un du_neg d_int, fun μ Q h => h⟩
end
def odds (m : Int) : List PyData := [.int (-1), .int (m + 1), .int (m + 7), .int (-m - 2), .int (10 ^ 40), .bool true, .bool false, .none, .str "1", .str "", .list [], .list [.int 1], .tuple [], .tuple [.int 1], .dict []]
def sThing : SpD := fun es μ Q => ∃ (p : Addr) (m : Int), es = [.m p, .d (.int m)] ∧ (p, PA0) ∈ μ ∧ 0 ≤ m ∧ m ≤ 100 ∧ (∀ x ∈ odds m, Q (.d x) μ) ∧ ∀ n, 0 ≤ n → n ≤ m → Q (.d (.int n)) μ
abbrev thE : List Expr := match (defBody (top 39)).head? with | some (.Assign _ (.List es _) _) => es | _ => []
abbrev thT := match (defBody (top 39)).head? with | some (.Assign ts (.List _ _) _) => ts | _ => []
abbrev thP := match (defBody (top 39)).head? with | some (.Assign _ (.List _ p) _) => p | _ => default
abbrev thQ := match (defBody (top 39)).head? with | some (.Assign _ (.List _ _) q) => q | _ => default
structure QS (K : PySem.W.Frag) (X : Cx) (b : List Stmt) (D : EndsD) (ρ : Rho) (μ : Mu) : Prop where
  h : ∃ t, DSs K X b t ∧ t D ρ μ
theorem sc_thing : FnScope ["_law_pot_here", "_law_many", "_law_odd"] ["_law_pot_here", "_law_many"] (defScope s_law_thing) := ⟨rfl, rfl, rfl, by decide +kernel, rfl, by decide +kernel, by decide +kernel⟩
theorem ok_thing {f : Addr} {fd : FuncData} (F : Fun K "_law_thing" "_law_thing" s_law_thing f fd) (T : Txt mg) (hX : NoX CX) (O_law_take : Own P w K mg base CX 1 "_law_take" ["_law_pot_here", "_law_many"] (spUp K (sDraw 2147483629))) : FnOk P w K mg base CX 3 f fd ["_law_pot_here", "_law_many"] (spUp K sThing) := by
  refine F.okD sc_thing (fun es μ Q ⟨p, m, e, _⟩ => by subst e; rfl) (fun cdv A outer s H E es μ Q hr ⟨p, m, e, hp, m0, m1, k1, k2⟩ => ?_)
  subst e
  have nd := sc_thing.nd
  have key : ∃ t, DSs K (cxOf CX P w K mg base ["_law_pot_here", "_law_many", "_law_odd"] "_law_thing" (defScope s_law_thing) f cdv A outer s H E).nox ((defBody s_law_thing).drop 1) t ∧ t { nx := fun _ μ' => Q (.d .none) μ', rt := Q } [some (.m p), some (.d (.int m)), some (.d (.list (odds m)))] μ := by
    refine ⟨_, (ds_cons (ds_if (dt_cmp (do_eq hr.units) (d_own O_law_take hX (hr.mono (by decide)) rfl (da_cons (dv 0) (da_cons d_int da_nil))) d_int (nomark _)) (ds_one (ds_ret (d_ix dx_seq (dv 2) (d_own O_law_take hX (hr.mono (by decide)) rfl (da_cons (dv 0) (da_cons (d_callB dc_len (by rfl) T.len_ bt_len (da_cons (dv 2) da_nil)) da_nil))) (fun _ _ => rfl)))) ds_nil)
      (ds_one (ds_ret (d_own O_law_take hX (hr.mono (by decide)) rfl (da_cons (dv 0) (da_cons (d_op do_add (dv 1) d_int) da_nil)))))), ?_⟩
    refine ⟨p, _, rfl, hp, by decide, by decide, fun d d0 d1 => ite2 (fun c => ?_) (fun c => ?_)⟩
    · refine ⟨_, .l (.d _), p, _, rfl, hp, (show (0 : Int) < 15 by decide), (show (15 : Int) ≤ 100000000 by decide), fun g g0 g1 => ?_⟩
      have g1 : g < 15 := g1
      have hg : g.toNat < (odds m).length := (show g.toNat < 15 by omega)
      refine ⟨(odds m)[g.toNat], ?_, k1 _ (List.getElem_mem hg)⟩
      have := atI_nat (xs := odds m) (j := g.toNat) (v := (odds m)[g.toNat]) (List.getElem?_eq_getElem hg)
      rwa [show ((g.toNat : Nat) : Int) = g by omega] at this
    · exact ⟨p, _, rfl, hp, by omega, by omega, fun g g0 g1 => k2 g g0 (by omega)⟩
  obtain ⟨t1, ht1, hk1⟩ := key
  have key2 : ∀ E0 : List Expr, (∀ pos, QD K (cxOf CX P w K mg base ["_law_pot_here", "_law_many", "_law_odd"] "_law_thing" (defScope s_law_thing) f cdv A outer s H E).nox (.List E0 pos) [some (.m p), some (.d (.int m)), none] (.list (odds m))) → QS K (cxOf CX P w K mg base ["_law_pot_here", "_law_many", "_law_odd"] "_law_thing" (defScope s_law_thing) f cdv A outer s H E).nox (.Assign thT (.List E0 thP) thQ :: (defBody s_law_thing).drop 1) { nx := fun _ μ' => Q (.d .none) μ', rt := Q } [some (.m p), some (.d (.int m)), none] μ :=
    fun E0 h0 => by
      obtain ⟨te, h1, h2⟩ := (h0 thP).h
      exact ⟨_, ds_cons (ds_set (i := 2) nd rfl (by first | exact Or.inl rfl | exact Or.inr rfl) h1) ht1, h2 μ _ hk1⟩
  have hq := key2 thE fun pos => @QA.lst K (cxOf CX P w K mg base ["_law_pot_here", "_law_many", "_law_odd"] "_law_thing" (defScope s_law_thing) f cdv A outer s H E).nox thE [some (.m p), some (.d (.int m)), none] (odds m) pos
    (qa_U q_neg (qa_B ⟨_, d_op do_add (dv 1) d_int, fun μ Q h => h⟩ (qa_B ⟨_, d_op do_add (dv 1) d_int, fun μ Q h => h⟩ (qa_B ⟨_, d_op do_sub (d_un du_neg (dv 1)) d_int, fun μ Q h => h⟩ (qa_B ⟨_, d_op do_pow d_int d_int, fun μ Q h => ⟨⟨by decide, by decide, by decide⟩, h⟩⟩
      (qa_C q_bl (qa_C q_bl (qa_C q_non (qa_C q_str (qa_C q_str (qa_L q_l0 (qa_L q_l1 (qa_T q_t0 (qa_T q_t1 (qa_D q_emp qa_nil))))))))))))))) (show 15 ≤ 1000 by decide)
  have e : .Assign thT (.List thE thP) thQ :: (defBody s_law_thing).drop 1 = defBody s_law_thing := rfl
  rw [e] at hq
  exact hq.h
end
end K83
set_option Elab.async false
set_option linter.all false
set_option maxRecDepth 100000
set_option maxHeartbeats 4000000
local macro_rules | `(tactic| walk_at "i") => `(tactic| first | refine ite2 (fun c => ?_) (fun c => ?_))
namespace K83
open PySem L2
section
variable {P : Program} {w : World} {K : PySem.W.Frag} {mg : Str → Option Value} {base : Heap} {CX : CXT}
variable {CL CS CR C1 C2 C3 C4 C5 C6 C7 : Addr}
theorem bt_ValueError : bootBuiltins "ValueError" = some (.type "ValueError") := by decide +kernel
def spCls (CS CR : Addr) : Sp := fun vs H Q _ => ∃ (ea C : Addr) (t : Str), vs = [.ref ea] ∧ H ea = some (excO ea (.ref C)) ∧ ((C = CS ∧ t = "share") ∨ (C = CR ∧ t = "rows")) ∧ ∀ H', Same H H' → Q (.str t) H'
theorem sc_cls : FnScope ["_law_e"] ["_law_e"] (defScope s_law_class_of) := ⟨rfl, rfl, rfl, by decide +kernel, rfl, by decide +kernel, by decide +kernel⟩
theorem ok_cls {f : Addr} {fd : FuncData} (F : Fun K "_law_class_of" "_law_class_of" s_law_class_of f fd) (T : TxtC K mg CL CS CR C1 C2 C3 C4 C5 C6 C7) : FnU P w K mg base (XC P w) 1 f fd ["_law_e"] (spCls CS CR) := by
  refine F.okU sc_cls (fun vs H Q E h => ?_) (fun cdv A outer s H vs Q E hr h => ?_)
  · obtain ⟨ea, C, t, rfl, _⟩ := h
    rfl
  · obtain ⟨ea, C, t, rfl, ee, hc, k⟩ := h
    have nd := sc_cls.nd
    refine ⟨_, (pss_cons (ps_if (PW.pt (pw_or (pt_val (pe_callB (call_isx (K := K) rfl) (by rfl) T.isinstance_ bt_isinstance (pa_cons (pv 0) (pa_cons (pe_tup (pa_cons (pe_glob (v := V.ref _) rfl T.cls_Empty rfl) (pa_cons (pe_glob (v := V.ref _) rfl T.cls_Lacking rfl) (pa_cons (pe_glob (v := V.ref _) rfl T.cls_NoFlat rfl) (pa_cons (pe_glob (v := V.ref _) rfl T.cls_NoLine rfl) (pa_cons (pe_glob (v := V.ref _) rfl T.cls_NoName rfl) (pa_cons (pe_glob (v := V.ref _) rfl T.cls_NoRow rfl) (pa_cons (pe_glob (v := V.ref _) rfl T.cls_NoText rfl) pa_nil)))))))) pa_nil)))) (pw_or1 (pt_not (pt_val (pe_callB (call_isx (K := K) rfl) (by rfl) T.isinstance_ bt_isinstance (pa_cons (pv 0) (pa_cons (pe_bltn (v := V.ty "ValueError") rfl T.ValueError_ bt_ValueError rfl) pa_nil)))))))) (pss_one (ps_ret pe_str)) pss_nil)
      (pss_cons (ps_if (pt_cmpR op_eq (pe_callB (call_isx (K := K) rfl) (by rfl) T.isinstance_ bt_isinstance (pa_cons (pv 0) (pa_cons (pe_glob (v := V.ref _) rfl T.cls_NoShare rfl) pa_nil))) (pe_callB (call_isx (K := K) rfl) (by rfl) T.isinstance_ bt_isinstance (pa_cons (pv 0) (pa_cons (pe_glob (v := V.ref _) rfl T.cls_NoRows rfl) pa_nil))) (nomark _)) (pss_one (ps_ret pe_str)) pss_nil)
      (pss_one (ps_ret (pe_ifExp (pt_val (pe_callB (call_isx (K := K) rfl) (by rfl) T.isinstance_ bt_isinstance (pa_cons (pv 0) (pa_cons (pe_glob (v := V.ref _) rfl T.cls_NoRows rfl) pa_nil)))) pe_str pe_str))))), ?_⟩
    refine ⟨_, rfl, (by show 7 ≤ sizeLine; decide), fun tp htp => ?_⟩
    have sb := Same.upd (o := .tup [.ref C1, .ref C2, .ref C3, .ref C4, .ref C5, .ref C6, .ref C7]) htp
    have eb := sb _ _ ee
    rcases hc with ⟨rfl, rfl⟩ | ⟨rfl, rfl⟩
    · refine ⟨ea, C, _, false, rfl, eb, T.xS, .inr ⟨tp, _, _, rfl, upd_same, .cons rfl (.cons rfl (.cons rfl (.cons rfl (.cons rfl (.cons rfl (.cons rfl .nil)))))), T.aS⟩, _, rfl, iteF ?_⟩
      refine ⟨_, rfl, ea, C, _, true, rfl, eb, T.xS, .inl ⟨_, rfl, T.vS⟩, _, rfl, iteF ?_⟩
      refine ⟨_, rfl, ea, C, _, true, rfl, eb, T.xS, .inl ⟨_, rfl, by simp [PySem.W.kitOne]⟩, _, rfl, ea, C, _, false, rfl, eb, T.xS, .inl ⟨_, rfl, T.oS⟩, rfl, _, rfl, iteF ?_⟩
      exact ⟨_, rfl, ea, C, _, false, rfl, eb, T.xS, .inl ⟨_, rfl, T.oS⟩, _, rfl, iteF (k _ sb)⟩
    · refine ⟨ea, C, _, false, rfl, eb, T.xR, .inr ⟨tp, _, _, rfl, upd_same, .cons rfl (.cons rfl (.cons rfl (.cons rfl (.cons rfl (.cons rfl (.cons rfl .nil)))))), T.aR⟩, _, rfl, iteF ?_⟩
      refine ⟨_, rfl, ea, C, _, true, rfl, eb, T.xR, .inl ⟨_, rfl, T.vR⟩, _, rfl, iteF ?_⟩
      refine ⟨_, rfl, ea, C, _, false, rfl, eb, T.xR, .inl ⟨_, rfl, T.oR⟩, _, rfl, ea, C, _, true, rfl, eb, T.xR, .inl ⟨_, rfl, by simp [PySem.W.kitOne]⟩, rfl, _, rfl, iteF ?_⟩
      exact ⟨_, rfl, ea, C, _, true, rfl, eb, T.xR, .inl ⟨_, rfl, by simp [PySem.W.kitOne]⟩, _, rfl, iteT (k _ sb)⟩
def numB2 (x : PyData) (l m : Int) : Bool := match x with
  | .int n => decide (l ≤ n) && decide (n ≤ m)
  | _ => false
theorem num_cases (x : PyData) (l m : Int) : (numB2 x l m = false ∧ Bad x l m) ∨ (numB2 x l m = true ∧ ∃ n, x = .int n ∧ l ≤ n ∧ n ≤ m) := by
  cases x with
  | int n =>
    by_cases h1 : l ≤ n
    · by_cases h2 : n ≤ m
      · exact .inr ⟨by simp [numB2, h1, h2], n, rfl, h1, h2⟩
      · exact .inl ⟨by simp [numB2, h2], .inr ⟨n, rfl, .inr (by omega)⟩⟩
    · exact .inl ⟨by simp [numB2, h1], .inr ⟨n, rfl, .inl (by omega)⟩⟩
  | _ => exact .inl ⟨rfl, .inl rfl⟩
def lst (b : Bool) : Int := if b = true then 1 else 0
def dueS (b : Bool) (A B : List Pt) (x y : PyData) : Str := if (b && !(inRow 0 A && inRow 1 B)) = true then "rows" else if (numB2 x (lst b) A.length && numB2 y (lst b) B.length) = true then "answered" else "share"
def spTold (K : PySem.W.Frag) : Sp := fun vs H Q _ => ∃ (b : Bool) (v1 v2 v3 v4 : V) (A B : List Pt) (x y : PyData), vs = [.bl b, v1, v2, v3, v4] ∧ Is K H v1 (hpD A) ∧ Is K H v2 x ∧ Is K H v3 (hpD B) ∧ Is K H v4 y ∧ A.length ≤ 20 ∧ B.length ≤ 20 ∧ Bds A ∧ Bds B ∧ ∀ H', Same H H' → Q (.str (dueS b A B x y)) H'
def sTold : SpD := fun es μ Q => ∃ (b : Bool) (A B : List Pt) (x y : PyData), es = [.d (.bool b), .d (hpD A), .d x, .d (hpD B), .d y] ∧ A.length ≤ 20 ∧ B.length ≤ 20 ∧ Bds A ∧ Bds B ∧ Q (.d (.str (dueS b A B x y))) μ
theorem up_plain {s : SpD} {vs : List V} {es : List En} {H : Hp} {Q : VK} {E : XK} (hp : Paired (IsE K [] H) vs es) (hs : s es [] fun _ μ => μ = []) (k : ∀ v H', Same H H' → Q v H') : spUp K s vs H Q E := by
  refine ⟨[], es, _, RelM.nil, hp, hs, ?_⟩
  rintro e μ' v H' rfl _ s2 _
  rw [mask_nil, mask_nil] at s2
  exact k v H' s2
theorem sc_told : FnScope ["_law_in_rows", "_law_one", "_law_k", "_law_other", "_law_m", "_law_told_here", "_law_e"] ["_law_in_rows", "_law_one", "_law_k", "_law_other", "_law_m"] (defScope s_law_told) := ⟨rfl, rfl, rfl, by decide +kernel, rfl, by decide +kernel, by decide +kernel⟩
theorem ok_told {f : Addr} {fd : FuncData} (F : Fun K "_law_told" "_law_told" s_law_told f fd) (hX : NoX (XC P w)) (T : TxtC K mg CL CS CR C1 C2 C3 C4 C5 C6 C7) (Orow_line : Own P w K mg base (XC P w) 5 "row_line" ["one", "k", "other", "m"] (spOr (spUp K sRl) (spRlX K CR CS))) (Oparting : Own P w K mg base (XC P w) 5 "parting" ["one", "k", "other", "m"] (spOr (spUp K sPart) (spPartX K CS))) (U_law_class_of : OwnU P w K mg base (XC P w) 1 "_law_class_of" ["_law_e"] (spCls CS CR)) : FnOk P w K mg base (XC P w) 6 f fd ["_law_in_rows", "_law_one", "_law_k", "_law_other", "_law_m"] (spUp K sTold) := by
  refine FnOk.imp (sp := spTold K) ?_ ?_
  · refine F.okG sc_told (fun vs H Q E h => ?_) (fun cdv A' outer s H vs Q E hr h => ?_)
    · obtain ⟨b, v1, v2, v3, v4, A, B, x, y, rfl, _⟩ := h
      rfl
    · obtain ⟨b, v1, v2, v3, v4, A, B, x, y, rfl, i1, i2, i3, i4, lA, lB, hA, hB, k⟩ := h
      have nd := sc_told.nd
      refine ⟨_, (pss_cons (ps_set (i := 5) nd rfl (by first | exact Or.inl rfl | exact Or.inr rfl) pe_str)
      (pss_cons (ps_try (i := 6) (k := 7) rfl rfl nd rfl rfl rfl rfl T.cls_LineError (fun E pn xe hp => (pss_one (ps_if (pt_val (pv 0)) (pss_one (ps_expr (pe_ownX Orow_line hp (hr.mono (by decide)) rfl (pa_cons (pv 1) (pa_cons (pv 2) (pa_cons (pv 3) (pa_cons (pv 4) pa_nil))))))) (pss_one (ps_expr (pe_ownX Oparting hp (hr.mono (by decide)) rfl (pa_cons (pv 1) (pa_cons (pv 2) (pa_cons (pv 3) (pa_cons (pv 4) pa_nil)))))))))) (fun ea => (pss_one (ps_set (i := 5) nd rfl (by first | exact Or.inl rfl | exact Or.inr rfl) (pe_ownU U_law_class_of hX (RoomU.mark (hr.toU.mono (by decide))) rfl (pa_cons (pv 6) pa_nil))))))
      (pss_one (ps_ret (pv 5))))), ?_⟩
      have hp : Paired (IsE K [] H) [v1, v2, v3, v4] [.d (hpD A), .d x, .d (hpD B), .d y] := .cons (IsE.nil i1) (.cons (IsE.nil i2) (.cons (IsE.nil i3) (.cons (IsE.nil i4) .nil)))
      have shr : (dueS b A B x y = "share") → ∀ H', Same H H' → PySem.W.exmOne K (.ref CS) (.ref CL) = some true ∧ True := fun _ _ _ => ⟨T.mS, trivial⟩
      cases b with
      | true =>
        refine ⟨_, rfl, true, rfl, _, rfl, _, rfl, _, rfl, _, rfl, ?_⟩
        cases hr0 : (inRow 0 A && inRow 1 B) with
        | false =>
          have e : dueS true A B x y = "rows" := by unfold dueS; rw [hr0]; rfl
          rw [e] at k
          refine .inr ⟨v1, v2, v3, v4, A, B, x, y, rfl, i1, i2, i3, i4, by omega, by omega, .inl ⟨Bool.and_eq_false_iff.mp hr0, fun H0 s0 => ⟨T.mR, fun ea hea => ?_⟩⟩⟩
          exact ⟨_, rfl, ea, CR, _, rfl, upd_same, .inr ⟨rfl, rfl⟩, fun H2 s2 => ⟨_, rfl, k _ ((s0.trans (Same.upd hea)).trans s2)⟩⟩
        | true =>
          obtain ⟨rA, rB⟩ := Bool.and_eq_true_iff.mp hr0
          rcases num_cases x 1 A.length with ⟨n1, b1⟩ | ⟨n1, n, rfl, x0, x1⟩
          · have e : dueS true A B x y = "share" := by unfold dueS lst; rw [hr0]; simp [n1]
            rw [e] at k
            refine .inr ⟨v1, v2, v3, v4, A, B, x, y, rfl, i1, i2, i3, i4, by omega, by omega, .inr ⟨rA, rB, .inl b1, fun H0 s0 => ⟨T.mS, fun ea hea => ?_⟩⟩⟩
            exact ⟨_, rfl, ea, CS, _, rfl, upd_same, .inl ⟨rfl, rfl⟩, fun H2 s2 => ⟨_, rfl, k _ ((s0.trans (Same.upd hea)).trans s2)⟩⟩
          · rcases num_cases y 1 B.length with ⟨n2, b2⟩ | ⟨n2, m, rfl, y0, y1⟩
            · have e : dueS true A B (.int n) y = "share" := by unfold dueS lst; rw [hr0]; simp [n2]
              rw [e] at k
              refine .inr ⟨v1, v2, v3, v4, A, B, _, y, rfl, i1, i2, i3, i4, by omega, by omega, .inr ⟨rA, rB, .inr ⟨⟨n, rfl, x0, x1⟩, b2⟩, fun H0 s0 => ⟨T.mS, fun ea hea => ?_⟩⟩⟩
              exact ⟨_, rfl, ea, CS, _, rfl, upd_same, .inl ⟨rfl, rfl⟩, fun H2 s2 => ⟨_, rfl, k _ ((s0.trans (Same.upd hea)).trans s2)⟩⟩
            · have e : dueS true A B (.int n) (.int m) = "answered" := by unfold dueS lst; rw [hr0]; simp [n1, n2]
              rw [e] at k
              refine .inl (up_plain hp ⟨A, B, n, m, rfl, x0, x1, y0, y1, by omega, by omega, rA, rB, hA, hB, fun _ => rfl⟩ fun v H' s2 => ?_)
              exact ⟨_, rfl, k _ s2⟩
      | false =>
        refine ⟨_, rfl, false, rfl, _, rfl, _, rfl, _, rfl, _, rfl, ?_⟩
        rcases num_cases x 0 A.length with ⟨n1, b1⟩ | ⟨n1, n, rfl, x0, x1⟩
        · have e : dueS false A B x y = "share" := by unfold dueS lst; simp [n1]
          rw [e] at k
          refine .inr ⟨v1, v2, v3, v4, A, B, x, y, rfl, i1, i2, i3, i4, .inl b1, fun H0 s0 => ⟨T.mS, fun ea hea => ?_⟩⟩
          exact ⟨_, rfl, ea, CS, _, rfl, upd_same, .inl ⟨rfl, rfl⟩, fun H2 s2 => ⟨_, rfl, k _ ((s0.trans (Same.upd hea)).trans s2)⟩⟩
        · rcases num_cases y 0 B.length with ⟨n2, b2⟩ | ⟨n2, m, rfl, y0, y1⟩
          · have e : dueS false A B (.int n) y = "share" := by unfold dueS lst; simp [n2]
            rw [e] at k
            refine .inr ⟨v1, v2, v3, v4, A, B, _, y, rfl, i1, i2, i3, i4, .inr ⟨⟨n, rfl, x0, x1⟩, b2⟩, fun H0 s0 => ⟨T.mS, fun ea hea => ?_⟩⟩
            exact ⟨_, rfl, ea, CS, _, rfl, upd_same, .inl ⟨rfl, rfl⟩, fun H2 s2 => ⟨_, rfl, k _ ((s0.trans (Same.upd hea)).trans s2)⟩⟩
          · have e : dueS false A B (.int n) (.int m) = "answered" := by unfold dueS lst; simp [n1, n2]
            rw [e] at k
            refine .inl (up_plain hp ⟨A, B, n, m, rfl, x0, x1, y0, y1, by omega, hA, hB, fun _ => rfl⟩ fun v H' s2 => ?_)
            exact ⟨_, rfl, k _ s2⟩
  · intro vs H Q E h
    obtain ⟨μ, es, Q0, M, hp, ⟨b, A, B, x, y, rfl, lA, lB, hA, hB, q⟩, cl⟩ := up_at h
    obtain ⟨v0, vs, rfl, i0, hp⟩ := pairC hp
    obtain ⟨v1, vs, rfl, i1, hp⟩ := pairC hp
    obtain ⟨v2, vs, rfl, i2, hp⟩ := pairC hp
    obtain ⟨v3, vs, rfl, i3, hp⟩ := pairC hp
    obtain ⟨v4, vs, rfl, i4, hp⟩ := pairC hp
    cases hp
    have i0 : Is K (mask μ H) v0 (.bool b) := i0
    cases i0
    exact ⟨b, v1, v2, v3, v4, A, B, x, y, rfl, Is.same mask_le i1, Is.same mask_le i2, Is.same mask_le i3, Is.same mask_le i4, lA, lB, hA, hB, fun H' s => cl _ _ H' q s (.str _)⟩
end
end K83
set_option Elab.async false
set_option linter.all false
set_option maxRecDepth 100000
set_option maxHeartbeats 4000000
local macro_rules | `(tactic| walk_at "i") => `(tactic| first | refine ite2 (fun c => ?_) (fun c => ?_))
namespace K83
open PySem L2
section
variable {P : Program} {w : World} {K : PySem.W.Frag} {mg : Str → Option Value} {base : Heap} {CX : CXT}
variable {CL CS CR C1 C2 C3 C4 C5 C6 C7 : Addr}
theorem eqv_ints : ∀ xs ys : List Int, PyData.eqvAll (xs.map PyData.int) (ys.map PyData.int) = decide (xs = ys)
  | [], [] => rfl
  | [], y :: ys => by simp [PyData.eqvAll]
  | x :: xs, [] => by simp [PyData.eqvAll]
  | x :: xs, y :: ys => by
    simp only [List.map_cons, PyData.eqvAll, eqv_ints xs ys, eqv_int, List.cons.injEq]
    by_cases h : x = y <;> by_cases h2 : xs = ys <;> simp [h, h2]
theorem rep_int (n : Nat) (h : Int) : (List.replicate n [PyData.int h]).flatten = (List.replicate n h).map PyData.int := by
  induction n with
  | zero => rfl
  | succ n ih => rw [List.replicate_succ, List.flatten_cons, ih, List.replicate_succ]; rfl
theorem row_eqv (h : Int) (A : List Pt) : PyData.eqv (.list ((A.map fun p => p.2).map PyData.int)) (.list ((List.replicate A.length h).map PyData.int)) = inRow h A := by
  simp only [PyData.eqv, eqv_ints]
  rw [Bool.eq_iff_iff, decide_eq_true_eq]
  unfold inRow
  rw [List.all_eq_true]
  induction A with
  | nil => simp
  | cons a t ih =>
    simp only [List.map_cons, List.length_cons, List.replicate_succ, List.cons.injEq, List.forall_mem_cons, decide_eq_true_eq] at ih ⊢
    constructor
    · rintro ⟨h1, h2⟩; exact ⟨h1, ih.mp h2⟩
    · rintro ⟨h1, h2⟩; exact ⟨h1, ih.mpr h2⟩
theorem shapedLi (ns : List Int) : SeqAt.shaped (.list (ns.map PyData.int)) = true := by
  have := ints_depth ns
  unfold SeqAt.shaped
  rw [Bool.and_eq_true]
  refine ⟨by simp only [PyData.canLay0, ints_canLay], decide_eq_true ?_⟩
  simp only [PyData.depth]
  omega
def sDue : SpD := fun es μ Q => ∃ (b : Bool) (A B : List Pt) (x y : PyData), es = [.d (.bool b), .d (.list [hpD A, hpD B]), .d (.list [x, y])] ∧ A.length ≤ 20 ∧ B.length ≤ 20 ∧ Q (.d (.str (dueS b A B x y))) μ
theorem sc_due : FnScope ["_law_in_rows", "_law_heaps", "_law_numbers", "_law_rows", "_law_heap", "_law_number_here"] ["_law_in_rows", "_law_heaps", "_law_numbers"] (defScope s_law_due) := ⟨rfl, rfl, rfl, by decide +kernel, rfl, by decide +kernel, by decide +kernel⟩
theorem ok_due {f : Addr} {fd : FuncData} (F : Fun K "_law_due" "_law_due" s_law_due f fd) (T : Txt mg) (hX : NoX CX) (O_law_is_number : Own P w K mg base CX 1 "_law_is_number" ["_law_thing_here", "_law_least", "_law_most"] (spUp K sIsN)) : FnOk P w K mg base CX 2 f fd ["_law_in_rows", "_law_heaps", "_law_numbers"] (spUp K sDue) := by
  refine F.okD sc_due (fun es μ Q ⟨b, A, B, x, y, e, _⟩ => by subst e; rfl) (fun cdv A' outer s H E es μ Q hr ⟨b, A, B, x, y, e, lA, lB, q⟩ => ?_)
  subst e
  have nd := sc_due.nd
  have key : (b && !(inRow 0 A && inRow 1 B)) = false → ∃ t, DSs K (cxOf CX P w K mg base ["_law_in_rows", "_law_heaps", "_law_numbers", "_law_rows", "_law_heap", "_law_number_here"] "_law_due" (defScope s_law_due) f cdv A' outer s H E).nox ((defBody s_law_due).drop 2) t ∧ ∀ v3 v4 v5 : Option En, t { nx := fun _ μ' => Q (.d .none) μ', rt := Q } [some (.d (.bool b)), some (.d (.list [hpD A, hpD B])), some (.d (.list [x, y])), v3, v4, v5] μ := by
    intro hb
    refine ⟨_, (ds_cons (ds_for PassesOwn.never rfl (di_zipL rfl T.zip_ (da_cons (dv 1) (da_cons (dv 2) da_nil))) (dg_tup (n := 2) rfl (dgs_cons (dg_name (i := 4) nd rfl (by first | exact Or.inl rfl | exact Or.inr rfl)) (dgs_cons (dg_name (i := 5) nd rfl (by first | exact Or.inl rfl | exact Or.inr rfl)) dgs_nil))) (ds_one (ds_if (dt_not (dt_val (d_own O_law_is_number hX (hr.mono (by decide)) rfl (da_cons (dv 5) (da_cons (d_callTy dc_int (by rfl) T.int_ bt_int (da_cons (dv 0) da_nil)) (da_cons (d_callB dc_len (by rfl) T.len_ bt_len (da_cons (dv 4) da_nil)) da_nil)))))) (ds_one (ds_ret d_str)) ds_nil)))
      (ds_one (ds_ret d_str))), fun v3 v4 v5 => ?_⟩
    have q0 : Q (.d (.str (if (numB2 x (lst b) A.length && numB2 y (lst b) B.length) = true then "answered" else "share"))) μ := by
      unfold dueS at q
      rw [hb] at q
      exact q
    refine ⟨fun i ρ' μ' => μ' = μ ∧ (1 ≤ i → numB2 x (lst b) A.length = true) ∧ (2 ≤ i → numB2 y (lst b) B.length = true) ∧ ∃ v3 v4 v5 : Option En, ρ' = [some (.d (.bool b)), some (.d (.list [hpD A, hpD B])), some (.d (.list [x, y])), v3, v4, v5], ⟨rfl, fun h => absurd h (by omega), fun h => absurd h (by omega), _, _, _, rfl⟩, fun _ _ _ _ _ => trivial, ?_, ?_⟩
    · rintro i ρ' μ' hi ⟨rfl, h1, h2, w3, w4, w5, rfl⟩
      have hi : i = 0 ∨ i = 1 := by have hi : i < 2 := hi; omega
      have la : ((A.map ptD).length : Int) = A.length := by rw [List.length_map]
      have lb : ((B.map ptD).length : Int) = B.length := by rw [List.length_map]
      rcases hi with rfl | rfl
      · refine ⟨rfl, _, .l (.d _), x, lst b, A.length, (by rw [la]; rfl), ?_⟩
        rcases num_cases x (lst b) A.length with ⟨n1, b1⟩ | ⟨n1, g1⟩
        · refine .inl ⟨b1, ?_⟩
          rw [n1] at q0
          exact q0
        · exact .inr ⟨g1, Wks.of ⟨rfl, fun _ => n1, fun h => absurd h (by omega), _, _, _, rfl⟩⟩
      · refine ⟨rfl, _, .l (.d _), y, lst b, B.length, (by rw [lb]; rfl), ?_⟩
        rcases num_cases y (lst b) B.length with ⟨n1, b1⟩ | ⟨n1, g1⟩
        · refine .inl ⟨b1, ?_⟩
          rw [n1, Bool.and_false] at q0
          exact q0
        · exact .inr ⟨g1, Wks.of ⟨rfl, fun _ => h1 (by omega), fun _ => n1, _, _, _, rfl⟩⟩
    · rintro ρ' μ' ⟨rfl, h1, h2, w3, w4, w5, rfl⟩
      have h1 := h1 (show 1 ≤ 2 by decide)
      have h2 := h2 (show 2 ≤ 2 by decide)
      rw [h1, h2] at q0
      exact q0
  have hin : ∀ ps : List Pt, (ps.map fun p => PyData.int p.2) = (ps.map fun p => p.2).map PyData.int := fun ps => by rw [List.map_map]; rfl
  have hlen : ∀ ps ∈ [A, B], ps.length ≤ 20 := fun ps hps => by
    rcases List.mem_cons.mp hps with rfl | h
    · exact lA
    · rw [List.mem_singleton.mp h]; exact lB
  have eq : ∀ (h : Int) (ps : List Pt), PyData.eqv (.list (ps.map fun p => PyData.int p.2)) (.list (List.replicate (((ps.map fun p => PyData.int p.2).length : Nat) : Int).toNat [PyData.int h]).flatten) = inRow h ps := fun h ps => by
    rw [hin, rep_int, List.length_map, List.length_map]
    exact row_eqv h ps
  have sh1 : ∀ ps : List Pt, SeqAt.shaped (.list (ps.map fun p => PyData.int p.2)) = true := fun ps => by rw [hin]; exact shapedLi _
  have sh2 : ∀ (n : Nat) (h : Int), SeqAt.shaped (.list (List.replicate n [PyData.int h]).flatten) = true := fun n h => by rw [rep_int]; exact shapedLi _
  have ll : ∀ ps : List Pt, (ps.map fun p => PyData.int p.2).length = ps.length := fun ps => List.length_map ..
  cases hrows : (b && !(inRow 0 A && inRow 1 B)) with
  | true =>
    refine ⟨_, (ds_cons (ds_forget 4 "_hid4" (N' := ["_law_in_rows", "_law_heaps", "_law_numbers", "_law_rows", "_hid4", "_law_number_here"]) rfl (ds_setc (i := 3) (show List.Nodup (["_law_in_rows", "_law_heaps", "_law_numbers", "_law_rows", "_hid4", "_law_number_here"] : List Str) from by decide +kernel) rfl (by first | exact Or.inl rfl | exact Or.inr rfl) (L := ["_law_heap"]) (sc := defScope s_law_due) (N := ["_law_in_rows", "_law_heaps", "_law_numbers", "_law_rows", "_hid4", "_law_number_here"]) rfl rfl rfl (by decide +kernel) (di_list (dv 1)) (fun _ _ _ _ _ => (dg_name (i := 6) (show List.Nodup (["_law_in_rows", "_law_heaps", "_law_numbers", "_law_rows", "_hid4", "_law_number_here", "_law_heap"] : List Str) from by decide +kernel) rfl (by first | exact Or.inl rfl | exact Or.inr rfl))) (fun _ _ _ _ _ => dfs_nil) (fun _ _ _ _ _ => (d_comp (L := ["_law_point"]) (N := ["_law_in_rows", "_law_heaps", "_law_numbers", "_law_rows", "_hid4", "_law_number_here", "_law_heap"]) rfl rfl rfl (by rfl) (di_list (dv 6)) (fun _ _ _ _ _ => (dg_name (i := 7) (show List.Nodup (["_law_in_rows", "_law_heaps", "_law_numbers", "_law_rows", "_hid4", "_law_number_here", "_law_heap", "_law_point"] : List Str) from by decide +kernel) rfl (by first | exact Or.inl rfl | exact Or.inr rfl))) (fun _ _ _ _ _ => dfs_nil) (fun _ _ _ _ _ => (d_ix dx_seq (dv 7) d_int (fun _ _ => rfl)))))))
      (ds_cons (ds_if (dt_w (dw_and (dt_val (dv 0)) (dw_and1 (dt_w (dw_or (dt_cmp (do_ne hr.units) (d_ix dx_seq (dv 3) d_int (fun _ _ => rfl)) (d_op do_mulL (d_lst (da_cons d_int da_nil)) (d_callB dc_len (by rfl) T.len_ bt_len (da_cons (d_ix dx_seq (dv 3) d_int (fun _ _ => rfl)) da_nil))) (nomark _)) (dw_or1 (dt_cmp (do_ne hr.units) (d_ix dx_seq (dv 3) d_int (fun _ _ => rfl)) (d_op do_mulL (d_lst (da_cons d_int da_nil)) (d_callB dc_len (by rfl) T.len_ bt_len (da_cons (d_ix dx_seq (dv 3) d_int (fun _ _ => rfl)) da_nil))) (nomark _)))))))) (ds_one (ds_ret d_str)) ds_nil)
      (ds_cons (ds_for PassesOwn.never rfl (di_zipL rfl T.zip_ (da_cons (dv 1) (da_cons (dv 2) da_nil))) (dg_tup (n := 2) rfl (dgs_cons (dg_name (i := 4) nd rfl (by first | exact Or.inl rfl | exact Or.inr rfl)) (dgs_cons (dg_name (i := 5) nd rfl (by first | exact Or.inl rfl | exact Or.inr rfl)) dgs_nil))) (ds_one (ds_if (dt_not (dt_val (d_own O_law_is_number hX (hr.mono (by decide)) rfl (da_cons (dv 5) (da_cons (d_callTy dc_int (by rfl) T.int_ bt_int (da_cons (dv 0) da_nil)) (da_cons (d_callB dc_len (by rfl) T.len_ bt_len (da_cons (dv 4) da_nil)) da_nil)))))) (ds_one (ds_ret d_str)) ds_nil)))
      (ds_one (ds_ret d_str))))), ?_⟩
    refine ⟨_, .d _, zl2, compAL (as := [A, B]) (h := hpD) (fun ps => .list (ps.map fun p => .int p.2)) (Src.l (.d _)) (fun ps hps R h => ⟨_, .d _, (show (ps.map ptD).length ≤ 1000 by rw [List.length_map]; have := hlen ps hps; omega), compAL (as := ps) (h := ptD) (fun p => .int p.2) (Src.l (.d _)) (fun q _ R h => ⟨_, rfl, h⟩) h⟩) ?_⟩
    have qr : Q (.d (.str "rows")) μ := by
      unfold dueS at q
      rw [hrows] at q
      exact q
    obtain ⟨hb, hr0⟩ := Bool.and_eq_true_iff.mp hrows
    subst hb
    have hr0 : (inRow 0 A && inRow 1 B) = false := by
      cases z : (inRow 0 A && inRow 1 B) with
      | false => rfl
      | true => rw [z] at hr0; exact absurd hr0 (by decide)
    refine ⟨_, rfl, zl1, _, rfl, _, .l (.d _), _, _, .d _, rfl, Int.natCast_nonneg _, (fun z => nomatch z), (by have := ll A; simp; omega), _, _, .d _, .d _, sh1 A, sh2 _ _, ?_⟩
    change (if (!PyData.eqv (.list (A.map fun p => PyData.int p.2)) (.list (List.replicate (((A.map fun p => PyData.int p.2).length : Nat) : Int).toNat [PyData.int 0]).flatten)) = true then _ else _)
    rw [eq]
    cases e : inRow 0 A with
    | false => exact iteT qr
    | true =>
      rw [e, Bool.true_and] at hr0
      refine iteF ⟨_, rfl, zl1, _, rfl, _, .l (.d _), _, _, .d _, rfl, Int.natCast_nonneg _, (fun z => nomatch z), (by have := ll B; simp; omega), _, _, .d _, .d _, sh1 B, sh2 _ _, ?_⟩
      change (if (!PyData.eqv (.list (B.map fun p => PyData.int p.2)) (.list (List.replicate (((B.map fun p => PyData.int p.2).length : Nat) : Int).toNat [PyData.int 1]).flatten)) = true then _ else _)
      rw [eq, hr0]
      exact iteT qr
  | false =>
    obtain ⟨t, ht, hk⟩ := key hrows
    refine ⟨_, (ds_cons (ds_forget 4 "_hid4" (N' := ["_law_in_rows", "_law_heaps", "_law_numbers", "_law_rows", "_hid4", "_law_number_here"]) rfl (ds_setc (i := 3) (show List.Nodup (["_law_in_rows", "_law_heaps", "_law_numbers", "_law_rows", "_hid4", "_law_number_here"] : List Str) from by decide +kernel) rfl (by first | exact Or.inl rfl | exact Or.inr rfl) (L := ["_law_heap"]) (sc := defScope s_law_due) (N := ["_law_in_rows", "_law_heaps", "_law_numbers", "_law_rows", "_hid4", "_law_number_here"]) rfl rfl rfl (by decide +kernel) (di_list (dv 1)) (fun _ _ _ _ _ => (dg_name (i := 6) (show List.Nodup (["_law_in_rows", "_law_heaps", "_law_numbers", "_law_rows", "_hid4", "_law_number_here", "_law_heap"] : List Str) from by decide +kernel) rfl (by first | exact Or.inl rfl | exact Or.inr rfl))) (fun _ _ _ _ _ => dfs_nil) (fun _ _ _ _ _ => (d_comp (L := ["_law_point"]) (N := ["_law_in_rows", "_law_heaps", "_law_numbers", "_law_rows", "_hid4", "_law_number_here", "_law_heap"]) rfl rfl rfl (by rfl) (di_list (dv 6)) (fun _ _ _ _ _ => (dg_name (i := 7) (show List.Nodup (["_law_in_rows", "_law_heaps", "_law_numbers", "_law_rows", "_hid4", "_law_number_here", "_law_heap", "_law_point"] : List Str) from by decide +kernel) rfl (by first | exact Or.inl rfl | exact Or.inr rfl))) (fun _ _ _ _ _ => dfs_nil) (fun _ _ _ _ _ => (d_ix dx_seq (dv 7) d_int (fun _ _ => rfl)))))))
      (ds_cons (ds_if (dt_w (dw_and (dt_val (dv 0)) (dw_and1 (dt_w (dw_or (dt_cmp (do_ne hr.units) (d_ix dx_seq (dv 3) d_int (fun _ _ => rfl)) (d_op do_mulL (d_lst (da_cons d_int da_nil)) (d_callB dc_len (by rfl) T.len_ bt_len (da_cons (d_ix dx_seq (dv 3) d_int (fun _ _ => rfl)) da_nil))) (nomark _)) (dw_or1 (dt_cmp (do_ne hr.units) (d_ix dx_seq (dv 3) d_int (fun _ _ => rfl)) (d_op do_mulL (d_lst (da_cons d_int da_nil)) (d_callB dc_len (by rfl) T.len_ bt_len (da_cons (d_ix dx_seq (dv 3) d_int (fun _ _ => rfl)) da_nil))) (nomark _)))))))) (ds_one (ds_ret d_str)) ds_nil)
      ht)), ?_⟩
    refine ⟨_, .d _, zl2, compAL (as := [A, B]) (h := hpD) (fun ps => .list (ps.map fun p => .int p.2)) (Src.l (.d _)) (fun ps hps R h => ⟨_, .d _, (show (ps.map ptD).length ≤ 1000 by rw [List.length_map]; have := hlen ps hps; omega), compAL (as := ps) (h := ptD) (fun p => .int p.2) (Src.l (.d _)) (fun q _ R h => ⟨_, rfl, h⟩) h⟩) ?_⟩
    cases b with
    | false => exact hk _ _ _
    | true =>
      have hr0 : (inRow 0 A && inRow 1 B) = true := by
        cases z : (inRow 0 A && inRow 1 B) with
        | true => rfl
        | false => rw [z] at hrows; exact absurd hrows (by decide)
      obtain ⟨rA, rB⟩ := Bool.and_eq_true_iff.mp hr0
      refine ⟨_, rfl, zl1, _, rfl, _, .l (.d _), _, _, .d _, rfl, Int.natCast_nonneg _, (fun z => nomatch z), (by have := ll A; simp; omega), _, _, .d _, .d _, sh1 A, sh2 _ _, ?_⟩
      change (if (!PyData.eqv (.list (A.map fun p => PyData.int p.2)) (.list (List.replicate (((A.map fun p => PyData.int p.2).length : Nat) : Int).toNat [PyData.int 0]).flatten)) = true then _ else _)
      rw [eq, rA]
      refine iteF ⟨_, rfl, zl1, _, rfl, _, .l (.d _), _, _, .d _, rfl, Int.natCast_nonneg _, (fun z => nomatch z), (by have := ll B; simp; omega), _, _, .d _, .d _, sh1 B, sh2 _ _, ?_⟩
      change (if (!PyData.eqv (.list (B.map fun p => PyData.int p.2)) (.list (List.replicate (((B.map fun p => PyData.int p.2).length : Nat) : Int).toNat [PyData.int 1]).flatten)) = true then _ else _)
      rw [eq, rB]
      exact iteF (hk _ _ _)
end
end K83
set_option Elab.async false
set_option linter.all false
set_option maxRecDepth 100000
set_option maxHeartbeats 4000000
local macro_rules | `(tactic| walk_at "i") => `(tactic| first | refine ite2 (fun c => ?_) (fun c => ?_))
namespace K83
open PySem L2
section
variable {P : Program} {w : World} {K : PySem.W.Frag} {mg : Str → Option Value} {base : Heap} {CX : CXT}
variable {CL CS CR C1 C2 C3 C4 C5 C6 C7 : Addr}
theorem shapedDue (b : Bool) (A B : List Pt) (x y : PyData) : SeqAt.shaped (.str (dueS b A B x y)) = true := by
  unfold dueS
  split
  · decide +kernel
  · split
    · decide +kernel
    · decide +kernel
def sRt : SpD := fun es μ Q => ∃ p : Addr, es = [.m p] ∧ (p, PA0) ∈ μ ∧ Q (.d (.bool true)) μ
theorem er {B : PyData} (h : SeqAt.shaped B = true) : ¬ (!PyData.eqv B B) = true := fun z => by
  rw [shaped_eqv h] at z; exact absurd z (by decide)
theorem pairs2 {R : PyData → PyData → Prop} {a b : PyData} {ys : List PyData} (h : PySem.Paired R [a, b] ys) : ∃ c d, ys = [c, d] ∧ R a c ∧ R b d := by
  cases h with
  | cons h1 t =>
    cases t with
    | cons h2 t =>
      cases t
      exact ⟨_, _, rfl, h1, h2⟩
theorem sc_right : FnScope ["_law_pot_here", "_law_heaps", "_law_again", "_law_numbers", "_law_in_rows", "_law_told_here"] ["_law_pot_here"] (defScope s_law_right) := ⟨rfl, rfl, rfl, by decide +kernel, rfl, by decide +kernel, by decide +kernel⟩
theorem ok_right {f : Addr} {fd : FuncData} (F : Fun K "_law_right" "_law_right" s_law_right f fd) (T : Txt mg) (hX : NoX CX) (O_law_row : Own P w K mg base CX 4 "_law_row" ["_law_pot_here", "_law_y"] (spUp K sRow)) (O_law_thing : Own P w K mg base CX 3 "_law_thing" ["_law_pot_here", "_law_many"] (spUp K sThing)) (O_law_told : Own P w K mg base CX 6 "_law_told" ["_law_in_rows", "_law_one", "_law_k", "_law_other", "_law_m"] (spUp K sTold)) (O_law_due : Own P w K mg base CX 2 "_law_due" ["_law_in_rows", "_law_heaps", "_law_numbers"] (spUp K sDue)) : FnOk P w K mg base CX 7 f fd ["_law_pot_here"] (spUp K sRt) := by
  refine F.okD sc_right (fun es μ Q ⟨p, e, _⟩ => by subst e; rfl) (fun cdv A' outer s H E es μ Q hr ⟨p, e, hp, q⟩ => ?_)
  subst e
  have nd := sc_right.nd
  refine ⟨_, (ds_cons (ds_set (i := 1) nd rfl (by first | exact Or.inl rfl | exact Or.inr rfl) (d_lst (da_cons (d_own O_law_row hX (hr.mono (by decide)) rfl (da_cons (dv 0) (da_cons d_int da_nil))) (da_cons (d_own O_law_row hX (hr.mono (by decide)) rfl (da_cons (dv 0) (da_cons d_int da_nil))) da_nil))))
      (ds_cons (ds_for PassesOwn.never rfl (di_range1 rfl T.range_ (da_cons d_int da_nil)) (dg_name (i := 2) nd rfl (by first | exact Or.inl rfl | exact Or.inr rfl)) (ds_cons (ds_setc (i := 3) nd rfl (by first | exact Or.inl rfl | exact Or.inr rfl) (L := ["_law_heap"]) (sc := defScope s_law_right) (N := ["_law_pot_here", "_law_heaps", "_law_again", "_law_numbers", "_law_in_rows", "_law_told_here"]) rfl rfl rfl (by decide +kernel) (di_list (dv 1)) (fun _ _ _ _ _ => (dg_name (i := 6) (show List.Nodup (["_law_pot_here", "_law_heaps", "_law_again", "_law_numbers", "_law_in_rows", "_law_told_here", "_law_heap"] : List Str) from by decide +kernel) rfl (by first | exact Or.inl rfl | exact Or.inr rfl))) (fun _ _ _ _ _ => dfs_nil) (fun _ _ _ _ _ => (d_own O_law_thing hX (hr.mono (by decide)) rfl (da_cons (dv 0) (da_cons (d_callB dc_len (by rfl) T.len_ bt_len (da_cons (dv 6) da_nil)) da_nil)))))
      (ds_one (ds_for PassesOwn.never rfl (di_tup (d_tup (da_cons d_bl (da_cons d_bl da_nil)))) (dg_name (i := 4) nd rfl (by first | exact Or.inl rfl | exact Or.inr rfl)) (ds_cons (ds_set (i := 5) nd rfl (by first | exact Or.inl rfl | exact Or.inr rfl) (d_own O_law_told hX (hr.mono (by decide)) rfl (da_cons (dv 4) (da_cons (d_ix dx_seq (dv 1) d_int (fun _ _ => rfl)) (da_cons (d_ix dx_seq (dv 3) d_int (fun _ _ => rfl)) (da_cons (d_ix dx_seq (dv 1) d_int (fun _ _ => rfl)) (da_cons (d_ix dx_seq (dv 3) d_int (fun _ _ => rfl)) da_nil)))))))
      (ds_one (ds_if (dt_cmp (do_ne hr.units) (dv 5) (d_own O_law_due hX (hr.mono (by decide)) rfl (da_cons (dv 4) (da_cons (dv 1) (da_cons (dv 3) da_nil)))) (nomark _)) (ds_one (ds_ret d_bl)) ds_nil)))))))
      (ds_one (ds_ret d_bl)))), ?_⟩
  refine ⟨p, 0, rfl, hp, by decide, by decide, fun A lA hA => ⟨p, 1, rfl, hp, by decide, by decide, fun B lB hB => ⟨zl2, by decide, by decide, ?_⟩⟩⟩
  refine forR (fun i ρ' μ' => μ' = μ ∧ ∃ v2 v3 v4 v5, ρ' = [some (.m p), some (.d (.list [hpD A, hpD B])), v2, v3, v4, v5]) ⟨rfl, _, _, _, _, rfl⟩ ?_ ?_
  · rintro i ρ' μ' hi ⟨rfl, v2, v3, v4, v5, rfl⟩
    have hlist : ∀ z, z ∈ [hpD A, hpD B] → ∃ ps : List Pt, z = hpD ps ∧ ps.length ≤ 5 := fun z hz => by
      rcases List.mem_cons.mp hz with h | h
      · exact ⟨A, h, lA⟩
      · exact ⟨B, List.mem_singleton.mp h, lB⟩
    refine ⟨_, .d _, zl2, compN (fun _ _ => True) (Src.l (.d _)) (fun z hz R h => ?_) fun ns hns => ?_⟩
    · obtain ⟨ps, rfl, l5⟩ := hlist z hz
      have la : ((ps.map ptD).length : Int) = ps.length := by rw [List.length_map]
      exact ⟨_, .l (.d _), p, _, rfl, hp, by omega, by omega, fun x _ => h x trivial, fun n _ _ => h _ trivial⟩
    obtain ⟨x, y, rfl, _, _⟩ := pairs2 hns
    refine ⟨zl2, ?_⟩
    refine forT (fun i ρ' μ' => μ' = μ' ∧ μ' = _ ∧ ∃ v2 v4 v5, ρ' = [some (.m p), some (.d (.list [hpD A, hpD B])), v2, some (.d (.list [x, y])), v4, v5]) ⟨rfl, rfl, _, _, _, rfl⟩ ?_ ?_
    · rintro j z ρ' μ' hz ⟨_, rfl, w2, w4, w5, rfl⟩
      have hz2 : ∃ b, z = .bool b := by
        have := List.mem_of_getElem? hz
        rcases List.mem_cons.mp this with h | h
        · exact ⟨false, h⟩
        · exact ⟨true, List.mem_singleton.mp h⟩
      obtain ⟨b, rfl⟩ := hz2
      refine ⟨_, rfl, _, rfl, _, rfl, _, rfl, b, A, B, x, y, rfl, by omega, by omega, hA, hB, ?_⟩
      refine ⟨b, A, B, x, y, rfl, by omega, by omega, _, _, .d _, .d _, shapedDue _ _ _ _ _, shapedDue _ _ _ _ _, ite2 (fun c => absurd c (er (shapedDue b A B x y))) (fun _ => Wks.of ⟨rfl, rfl, _, _, _, rfl⟩)⟩
    · rintro ρ' μ' ⟨_, rfl, w2, w4, w5, rfl⟩
      exact Wks.of ⟨rfl, _, _, _, _, rfl⟩
  · rintro ρ' μ' ⟨rfl, v2, v3, v4, v5, rfl⟩
    exact q
theorem sc_law : FnScope ["_law_script"] ["_law_script"] (defScope slaw) := ⟨rfl, rfl, rfl, by decide +kernel, rfl, by decide +kernel, by decide +kernel⟩
theorem ok_law {f : Addr} {fd : FuncData} (F : Fun K "law" "law" slaw f fd) (T : Txt mg) (hX : NoX CX) (O_law_pot : Own P w K mg base CX 1 "_law_pot" ["_law_script", "_law_k"] (spUp K sPot)) (O_law_right : Own P w K mg base CX 7 "_law_right" ["_law_pot_here"] (spUp K sRt)) : FnOk P w K mg base CX 8 f fd ["_law_script"] (spUp K sLaw) := by
  refine F.okD sc_law (fun es μ Q ⟨ns, e, _⟩ => by subst e; rfl) (fun cdv A outer s H E es μ Q hr ⟨ns, e, hl, e0, k⟩ => ?_)
  subst e e0
  have nd := sc_law.nd
  refine ⟨_, (ds_one (ds_ret (d_callB (dc_all rfl) (by rfl) T.all_ bt_all (da_cons (d_comp (L := ["_law_k"]) (sc := defScope slaw) (N := ["_law_script"]) rfl rfl rfl (by decide +kernel) (di_range1 rfl T.range_ (da_cons (d_callB (dc_max rfl) (by rfl) T.max_ bt_max (da_cons d_int (da_cons (d_callB (dc_min rfl) (by rfl) T.min_ bt_min (da_cons (d_callB dc_len (by rfl) T.len_ bt_len (da_cons (dv 0) da_nil)) (da_cons d_int da_nil))) da_nil))) da_nil)) (fun _ _ _ _ _ => (dg_name (i := 1) (show List.Nodup (["_law_script", "_law_k"] : List Str) from by decide +kernel) rfl (by first | exact Or.inl rfl | exact Or.inr rfl))) (fun _ _ _ _ _ => dfs_nil) (fun _ _ _ _ _ => (d_own O_law_right hX (hr.mono (by decide)) rfl (da_cons (d_own O_law_pot hX (hr.mono (by decide)) rfl (da_cons (dv 0) (da_cons (dv 1) da_nil))) da_nil)))) da_nil)))), ?_⟩
  refine ⟨_, .l (.d _), ?_⟩
  rw [List.length_map]
  obtain ⟨m, em, hm⟩ : ∃ m : Int, (if (1 : Int) < (if (5 : Int) < (ns.length : Int) then 5 else (ns.length : Int)) then (if (5 : Int) < (ns.length : Int) then 5 else (ns.length : Int)) else 1) = m ∧ (1 ≤ m ∧ m ≤ 5) := ⟨_, rfl, by split <;> (try split) <;> omega⟩
  refine ⟨?_, ?_, ?_, fun i ys ρ' μ' => ys = (List.replicate i true).map PyData.bool ∧ ∃ v, ρ' = [some (.d (.list (ns.map .int))), v], ⟨rfl, _, rfl⟩, fun _ _ _ _ _ _ => trivial, ?_, ?_⟩
  · exact le_of_le_of_eq (show -(2 ^ 62) ≤ m by omega) em.symm
  · exact lt_of_eq_of_lt em (show m < 2 ^ 62 by omega)
  · exact le_of_eq_of_le (congrArg Int.toNat em) (show m.toNat ≤ 1000 by omega)
  · rintro i ys ρ' μ' hi ⟨rfl, v, rfl⟩
    have hi : i < Int.toNat _ := hi
    have hi2 : i < m.toNat := lt_of_lt_of_eq hi (congrArg Int.toNat em)
    refine ⟨ns, i, (by show [_, En.d (PyData.int (0 + (i : Int)))] = _; simp), hl, by omega, fun p hp => ⟨p, rfl, List.mem_cons_self, _, rfl, ?_, _, rfl⟩⟩
    rw [List.replicate_succ', List.map_append]
    rfl
  · rintro ys ρ' μ' ⟨rfl, v, rfl⟩
    refine ⟨_, .d _, ?_⟩
    have e : ∀ n, (List.replicate n true).all id = true := fun n => by simp
    change Q (.d (.bool ((List.replicate _ true).all id))) _
    rw [e]
    exact k _
end
end K83
set_option Elab.async false
set_option linter.all false
set_option maxRecDepth 100000
set_option maxHeartbeats 4000000
namespace K83
open PySem L2
theorem all_mk {l : PySem.W.OpenLaw} {w : World} {K : PySem.W.Frag} {h : Heap} {mg : Str → Option Value} {fa : Addr} (X : K.In h) (G : h.Ns mainGlobals mg) (hfa : mg "law" = some (.ref fa))
    {f0 : Addr} {od0 an0 : Option Addr} {sl0 : Array (Option Value)} {oc0 kV0 dc0 pm0 cd0 ct0 : Value}
    {f1 : Addr} {od1 an1 : Option Addr} {sl1 : Array (Option Value)} {oc1 kV1 dc1 pm1 cd1 ct1 : Value}
    {f2 : Addr} {od2 an2 : Option Addr} {sl2 : Array (Option Value)} {oc2 kV2 dc2 pm2 cd2 ct2 : Value}
    {f3 : Addr} {od3 an3 : Option Addr} {sl3 : Array (Option Value)} {oc3 kV3 dc3 pm3 cd3 ct3 : Value}
    {f4 : Addr} {od4 an4 : Option Addr} {sl4 : Array (Option Value)} {oc4 kV4 dc4 pm4 cd4 ct4 : Value}
    {f5 : Addr} {od5 an5 : Option Addr} {sl5 : Array (Option Value)} {oc5 kV5 dc5 pm5 cd5 ct5 : Value}
    {f6 : Addr} {od6 an6 : Option Addr} {sl6 : Array (Option Value)} {oc6 kV6 dc6 pm6 cd6 ct6 : Value}
    {f7 : Addr} {od7 an7 : Option Addr} {sl7 : Array (Option Value)} {oc7 kV7 dc7 pm7 cd7 ct7 : Value}
    {f8 : Addr} {od8 an8 : Option Addr} {sl8 : Array (Option Value)} {oc8 kV8 dc8 pm8 cd8 ct8 : Value}
    {f9 : Addr} {od9 an9 : Option Addr} {sl9 : Array (Option Value)} {oc9 kV9 dc9 pm9 cd9 ct9 : Value}
    {f10 : Addr} {od10 an10 : Option Addr} {sl10 : Array (Option Value)} {oc10 kV10 dc10 pm10 cd10 ct10 : Value}
    {f11 : Addr} {od11 an11 : Option Addr} {sl11 : Array (Option Value)} {oc11 kV11 dc11 pm11 cd11 ct11 : Value}
    {f12 : Addr} {od12 an12 : Option Addr} {sl12 : Array (Option Value)} {oc12 kV12 dc12 pm12 cd12 ct12 : Value}
    {f13 : Addr} {od13 an13 : Option Addr} {sl13 : Array (Option Value)} {oc13 kV13 dc13 pm13 cd13 ct13 : Value}
    {f14 : Addr} {od14 an14 : Option Addr} {sl14 : Array (Option Value)} {oc14 kV14 dc14 pm14 cd14 ct14 : Value}
    {f15 : Addr} {od15 an15 : Option Addr} {sl15 : Array (Option Value)} {oc15 kV15 dc15 pm15 cd15 ct15 : Value}
    {f16 : Addr} {od16 an16 : Option Addr} {sl16 : Array (Option Value)} {oc16 kV16 dc16 pm16 cd16 ct16 : Value}
    {f17 : Addr} {od17 an17 : Option Addr} {sl17 : Array (Option Value)} {oc17 kV17 dc17 pm17 cd17 ct17 : Value}
    {f18 : Addr} {od18 an18 : Option Addr} {sl18 : Array (Option Value)} {oc18 kV18 dc18 pm18 cd18 ct18 : Value}
    {f19 : Addr} {od19 an19 : Option Addr} {sl19 : Array (Option Value)} {oc19 kV19 dc19 pm19 cd19 ct19 : Value}
    {f20 : Addr} {od20 an20 : Option Addr} {sl20 : Array (Option Value)} {oc20 kV20 dc20 pm20 cd20 ct20 : Value}
    {f21 : Addr} {od21 an21 : Option Addr} {sl21 : Array (Option Value)} {oc21 kV21 dc21 pm21 cd21 ct21 : Value}
    {f22 : Addr} {od22 an22 : Option Addr} {sl22 : Array (Option Value)} {oc22 kV22 dc22 pm22 cd22 ct22 : Value}
    {f23 : Addr} {od23 an23 : Option Addr} {sl23 : Array (Option Value)} {oc23 kV23 dc23 pm23 cd23 ct23 : Value}
    {f24 : Addr} {od24 an24 : Option Addr} {sl24 : Array (Option Value)} {oc24 kV24 dc24 pm24 cd24 ct24 : Value}
    {f25 : Addr} {od25 an25 : Option Addr} {sl25 : Array (Option Value)} {oc25 kV25 dc25 pm25 cd25 ct25 : Value}
    {f26 : Addr} {od26 an26 : Option Addr} {sl26 : Array (Option Value)} {oc26 kV26 dc26 pm26 cd26 ct26 : Value}
    {f27 : Addr} {od27 an27 : Option Addr} {sl27 : Array (Option Value)} {oc27 kV27 dc27 pm27 cd27 ct27 : Value}
    {f28 : Addr} {od28 an28 : Option Addr} {sl28 : Array (Option Value)} {oc28 kV28 dc28 pm28 cd28 ct28 : Value}
    {f29 : Addr} {od29 an29 : Option Addr} {sl29 : Array (Option Value)} {oc29 kV29 dc29 pm29 cd29 ct29 : Value}
    {f30 : Addr} {od30 an30 : Option Addr} {sl30 : Array (Option Value)} {oc30 kV30 dc30 pm30 cd30 ct30 : Value}
    (a0 : PySem.W.nsIn K mainGlobals "_law_pot" = some (some (.ref f0))) (l0 : K.lookup f0 = some ⟨oc0, od0, .func (PySem.W.fnOf "_law_pot" "_law_pot" (defArgs s_law_pot) (defBody s_law_pot) (defScope s_law_pot) .none kV0 dc0 pm0 an0 cd0 ct0), sl0⟩) (c0 : PySem.W.codeIn K cd0 "_law_pot" = true) (k0 : PySem.W.keepIn K (.ref f0) = true)
    (a1 : PySem.W.nsIn K mainGlobals "_law_take" = some (some (.ref f1))) (l1 : K.lookup f1 = some ⟨oc1, od1, .func (PySem.W.fnOf "_law_take" "_law_take" (defArgs s_law_take) (defBody s_law_take) (defScope s_law_take) .none kV1 dc1 pm1 an1 cd1 ct1), sl1⟩) (c1 : PySem.W.codeIn K cd1 "_law_take" = true) (k1 : PySem.W.keepIn K (.ref f1) = true)
    (a2 : PySem.W.nsIn K mainGlobals "_law_wide" = some (some (.ref f2))) (l2 : K.lookup f2 = some ⟨oc2, od2, .func (PySem.W.fnOf "_law_wide" "_law_wide" (defArgs s_law_wide) (defBody s_law_wide) (defScope s_law_wide) .none kV2 dc2 pm2 an2 cd2 ct2), sl2⟩) (c2 : PySem.W.codeIn K cd2 "_law_wide" = true) (k2 : PySem.W.keepIn K (.ref f2) = true)
    (a3 : PySem.W.nsIn K mainGlobals "_law_number" = some (some (.ref f3))) (l3 : K.lookup f3 = some ⟨oc3, od3, .func (PySem.W.fnOf "_law_number" "_law_number" (defArgs s_law_number) (defBody s_law_number) (defScope s_law_number) .none kV3 dc3 pm3 an3 cd3 ct3), sl3⟩) (c3 : PySem.W.codeIn K cd3 "_law_number" = true) (k3 : PySem.W.keepIn K (.ref f3) = true)
    (a4 : PySem.W.nsIn K mainGlobals "common_divisor" = some (some (.ref f4))) (l4 : K.lookup f4 = some ⟨oc4, od4, .func (PySem.W.fnOf "common_divisor" "common_divisor" (defArgs scommon_divisor) (defBody scommon_divisor) (defScope scommon_divisor) .none kV4 dc4 pm4 an4 cd4 ct4), sl4⟩) (c4 : PySem.W.codeIn K cd4 "common_divisor" = true) (k4 : PySem.W.keepIn K (.ref f4) = true)
    (a5 : PySem.W.nsIn K mainGlobals "lead" = some (some (.ref f5))) (l5 : K.lookup f5 = some ⟨oc5, od5, .func (PySem.W.fnOf "lead" "lead" (defArgs slead) (defBody slead) (defScope slead) .none kV5 dc5 pm5 an5 cd5 ct5), sl5⟩) (c5 : PySem.W.codeIn K cd5 "lead" = true) (k5 : PySem.W.keepIn K (.ref f5) = true)
    (a6 : PySem.W.nsIn K mainGlobals "through" = some (some (.ref f6))) (l6 : K.lookup f6 = some ⟨oc6, od6, .func (PySem.W.fnOf "through" "through" (defArgs sthrough) (defBody sthrough) (defScope sthrough) .none kV6 dc6 pm6 an6 cd6 ct6), sl6⟩) (c6 : PySem.W.codeIn K cd6 "through" = true) (k6 : PySem.W.keepIn K (.ref f6) = true)
    (a7 : PySem.W.nsIn K mainGlobals "sign" = some (some (.ref f7))) (l7 : K.lookup f7 = some ⟨oc7, od7, .func (PySem.W.fnOf "sign" "sign" (defArgs ssign) (defBody ssign) (defScope ssign) .none kV7 dc7 pm7 an7 cd7 ct7), sl7⟩) (c7 : PySem.W.codeIn K cd7 "sign" = true) (k7 : PySem.W.keepIn K (.ref f7) = true)
    (a8 : PySem.W.nsIn K mainGlobals "side" = some (some (.ref f8))) (l8 : K.lookup f8 = some ⟨oc8, od8, .func (PySem.W.fnOf "side" "side" (defArgs sside) (defBody sside) (defScope sside) .none kV8 dc8 pm8 an8 cd8 ct8), sl8⟩) (c8 : PySem.W.codeIn K cd8 "side" = true) (k8 : PySem.W.keepIn K (.ref f8) = true)
    (a9 : PySem.W.nsIn K mainGlobals "sign_counts" = some (some (.ref f9))) (l9 : K.lookup f9 = some ⟨oc9, od9, .func (PySem.W.fnOf "sign_counts" "sign_counts" (defArgs ssign_counts) (defBody ssign_counts) (defScope ssign_counts) .none kV9 dc9 pm9 an9 cd9 ct9), sl9⟩) (c9 : PySem.W.codeIn K cd9 "sign_counts" = true) (k9 : PySem.W.keepIn K (.ref f9) = true)
    (a10 : PySem.W.nsIn K mainGlobals "counts" = some (some (.ref f10))) (l10 : K.lookup f10 = some ⟨oc10, od10, .func (PySem.W.fnOf "counts" "counts" (defArgs scounts) (defBody scounts) (defScope scounts) .none kV10 dc10 pm10 an10 cd10 ct10), sl10⟩) (c10 : PySem.W.codeIn K cd10 "counts" = true) (k10 : PySem.W.keepIn K (.ref f10) = true)
    (a11 : PySem.W.nsIn K mainGlobals "places" = some (some (.ref f11))) (l11 : K.lookup f11 = some ⟨oc11, od11, .func (PySem.W.fnOf "places" "places" (defArgs splaces) (defBody splaces) (defScope splaces) .none kV11 dc11 pm11 an11 cd11 ct11), sl11⟩) (c11 : PySem.W.codeIn K cd11 "places" = true) (k11 : PySem.W.keepIn K (.ref f11) = true)
    (a12 : PySem.W.nsIn K mainGlobals "place_pairs" = some (some (.ref f12))) (l12 : K.lookup f12 = some ⟨oc12, od12, .func (PySem.W.fnOf "place_pairs" "place_pairs" (defArgs splace_pairs) (defBody splace_pairs) (defScope splace_pairs) .none kV12 dc12 pm12 an12 cd12 ct12), sl12⟩) (c12 : PySem.W.codeIn K cd12 "place_pairs" = true) (k12 : PySem.W.keepIn K (.ref f12) = true)
    (a13 : PySem.W.nsIn K mainGlobals "is_whole" = some (some (.ref f13))) (l13 : K.lookup f13 = some ⟨oc13, od13, .func (PySem.W.fnOf "is_whole" "is_whole" (defArgs sis_whole) (defBody sis_whole) (defScope sis_whole) .none kV13 dc13 pm13 an13 cd13 ct13), sl13⟩) (c13 : PySem.W.codeIn K cd13 "is_whole" = true) (k13 : PySem.W.keepIn K (.ref f13) = true)
    (a14 : PySem.W.nsIn K mainGlobals "check_share" = some (some (.ref f14))) (l14 : K.lookup f14 = some ⟨oc14, od14, .func (PySem.W.fnOf "check_share" "check_share" (defArgs scheck_share) (defBody scheck_share) (defScope scheck_share) .none kV14 dc14 pm14 an14 cd14 ct14), sl14⟩) (c14 : PySem.W.codeIn K cd14 "check_share" = true) (k14 : PySem.W.keepIn K (.ref f14) = true)
    (a15 : PySem.W.nsIn K mainGlobals "check_share" = some (some (.ref f15))) (l15 : K.lookup f15 = some ⟨oc15, od15, .func (PySem.W.fnOf "check_share" "check_share" (defArgs scheck_share) (defBody scheck_share) (defScope scheck_share) .none kV15 dc15 pm15 an15 cd15 ct15), sl15⟩) (c15 : PySem.W.codeIn K cd15 "check_share" = true) (k15 : PySem.W.keepIn K (.ref f15) = true)
    (a16 : PySem.W.nsIn K mainGlobals "parts" = some (some (.ref f16))) (l16 : K.lookup f16 = some ⟨oc16, od16, .func (PySem.W.fnOf "parts" "parts" (defArgs sparts) (defBody sparts) (defScope sparts) .none kV16 dc16 pm16 an16 cd16 ct16), sl16⟩) (c16 : PySem.W.codeIn K cd16 "parts" = true) (k16 : PySem.W.keepIn K (.ref f16) = true)
    (a17 : PySem.W.nsIn K mainGlobals "turned_about" = some (some (.ref f17))) (l17 : K.lookup f17 = some ⟨oc17, od17, .func (PySem.W.fnOf "turned_about" "turned_about" (defArgs sturned_about) (defBody sturned_about) (defScope sturned_about) .none kV17 dc17 pm17 an17 cd17 ct17), sl17⟩) (c17 : PySem.W.codeIn K cd17 "turned_about" = true) (k17 : PySem.W.keepIn K (.ref f17) = true)
    (a18 : PySem.W.nsIn K mainGlobals "parting" = some (some (.ref f18))) (l18 : K.lookup f18 = some ⟨oc18, od18, .func (PySem.W.fnOf "parting" "parting" (defArgs sparting) (defBody sparting) (defScope sparting) .none kV18 dc18 pm18 an18 cd18 ct18), sl18⟩) (c18 : PySem.W.codeIn K cd18 "parting" = true) (k18 : PySem.W.keepIn K (.ref f18) = true)
    (a19 : PySem.W.nsIn K mainGlobals "parting" = some (some (.ref f19))) (l19 : K.lookup f19 = some ⟨oc19, od19, .func (PySem.W.fnOf "parting" "parting" (defArgs sparting) (defBody sparting) (defScope sparting) .none kV19 dc19 pm19 an19 cd19 ct19), sl19⟩) (c19 : PySem.W.codeIn K cd19 "parting" = true) (k19 : PySem.W.keepIn K (.ref f19) = true)
    (a20 : PySem.W.nsIn K mainGlobals "is_row" = some (some (.ref f20))) (l20 : K.lookup f20 = some ⟨oc20, od20, .func (PySem.W.fnOf "is_row" "is_row" (defArgs sis_row) (defBody sis_row) (defScope sis_row) .none kV20 dc20 pm20 an20 cd20 ct20), sl20⟩) (c20 : PySem.W.codeIn K cd20 "is_row" = true) (k20 : PySem.W.keepIn K (.ref f20) = true)
    (a21 : PySem.W.nsIn K mainGlobals "row_line" = some (some (.ref f21))) (l21 : K.lookup f21 = some ⟨oc21, od21, .func (PySem.W.fnOf "row_line" "row_line" (defArgs srow_line) (defBody srow_line) (defScope srow_line) .none kV21 dc21 pm21 an21 cd21 ct21), sl21⟩) (c21 : PySem.W.codeIn K cd21 "row_line" = true) (k21 : PySem.W.keepIn K (.ref f21) = true)
    (a22 : PySem.W.nsIn K mainGlobals "row_line" = some (some (.ref f22))) (l22 : K.lookup f22 = some ⟨oc22, od22, .func (PySem.W.fnOf "row_line" "row_line" (defArgs srow_line) (defBody srow_line) (defScope srow_line) .none kV22 dc22 pm22 an22 cd22 ct22), sl22⟩) (c22 : PySem.W.codeIn K cd22 "row_line" = true) (k22 : PySem.W.keepIn K (.ref f22) = true)
    (a23 : PySem.W.nsIn K mainGlobals "_law_row" = some (some (.ref f23))) (l23 : K.lookup f23 = some ⟨oc23, od23, .func (PySem.W.fnOf "_law_row" "_law_row" (defArgs s_law_row) (defBody s_law_row) (defScope s_law_row) .none kV23 dc23 pm23 an23 cd23 ct23), sl23⟩) (c23 : PySem.W.codeIn K cd23 "_law_row" = true) (k23 : PySem.W.keepIn K (.ref f23) = true)
    (a24 : PySem.W.nsIn K mainGlobals "_law_is_number" = some (some (.ref f24))) (l24 : K.lookup f24 = some ⟨oc24, od24, .func (PySem.W.fnOf "_law_is_number" "_law_is_number" (defArgs s_law_is_number) (defBody s_law_is_number) (defScope s_law_is_number) .none kV24 dc24 pm24 an24 cd24 ct24), sl24⟩) (c24 : PySem.W.codeIn K cd24 "_law_is_number" = true) (k24 : PySem.W.keepIn K (.ref f24) = true)
    (a25 : PySem.W.nsIn K mainGlobals "_law_thing" = some (some (.ref f25))) (l25 : K.lookup f25 = some ⟨oc25, od25, .func (PySem.W.fnOf "_law_thing" "_law_thing" (defArgs s_law_thing) (defBody s_law_thing) (defScope s_law_thing) .none kV25 dc25 pm25 an25 cd25 ct25), sl25⟩) (c25 : PySem.W.codeIn K cd25 "_law_thing" = true) (k25 : PySem.W.keepIn K (.ref f25) = true)
    (a26 : PySem.W.nsIn K mainGlobals "_law_class_of" = some (some (.ref f26))) (l26 : K.lookup f26 = some ⟨oc26, od26, .func (PySem.W.fnOf "_law_class_of" "_law_class_of" (defArgs s_law_class_of) (defBody s_law_class_of) (defScope s_law_class_of) .none kV26 dc26 pm26 an26 cd26 ct26), sl26⟩) (c26 : PySem.W.codeIn K cd26 "_law_class_of" = true) (k26 : PySem.W.keepIn K (.ref f26) = true)
    (a27 : PySem.W.nsIn K mainGlobals "_law_told" = some (some (.ref f27))) (l27 : K.lookup f27 = some ⟨oc27, od27, .func (PySem.W.fnOf "_law_told" "_law_told" (defArgs s_law_told) (defBody s_law_told) (defScope s_law_told) .none kV27 dc27 pm27 an27 cd27 ct27), sl27⟩) (c27 : PySem.W.codeIn K cd27 "_law_told" = true) (k27 : PySem.W.keepIn K (.ref f27) = true)
    (a28 : PySem.W.nsIn K mainGlobals "_law_due" = some (some (.ref f28))) (l28 : K.lookup f28 = some ⟨oc28, od28, .func (PySem.W.fnOf "_law_due" "_law_due" (defArgs s_law_due) (defBody s_law_due) (defScope s_law_due) .none kV28 dc28 pm28 an28 cd28 ct28), sl28⟩) (c28 : PySem.W.codeIn K cd28 "_law_due" = true) (k28 : PySem.W.keepIn K (.ref f28) = true)
    (a29 : PySem.W.nsIn K mainGlobals "_law_right" = some (some (.ref f29))) (l29 : K.lookup f29 = some ⟨oc29, od29, .func (PySem.W.fnOf "_law_right" "_law_right" (defArgs s_law_right) (defBody s_law_right) (defScope s_law_right) .none kV29 dc29 pm29 an29 cd29 ct29), sl29⟩) (c29 : PySem.W.codeIn K cd29 "_law_right" = true) (k29 : PySem.W.keepIn K (.ref f29) = true)
    (a30 : PySem.W.nsIn K mainGlobals "law" = some (some (.ref f30))) (l30 : K.lookup f30 = some ⟨oc30, od30, .func (PySem.W.fnOf "law" "law" (defArgs slaw) (defBody slaw) (defScope slaw) .none kV30 dc30 pm30 an30 cd30 ct30), sl30⟩) (c30 : PySem.W.codeIn K cd30 "law" = true) (k30 : PySem.W.keepIn K (.ref f30) = true)
    (z0 : PySem.W.nsIn K mainGlobals "len" = some none)
    (z1 : PySem.W.nsIn K mainGlobals "range" = some none)
    (z2 : PySem.W.nsIn K mainGlobals "max" = some none)
    (z3 : PySem.W.nsIn K mainGlobals "min" = some none)
    (z4 : PySem.W.nsIn K mainGlobals "abs" = some none)
    (z5 : PySem.W.nsIn K mainGlobals "int" = some none)
    (z6 : PySem.W.nsIn K mainGlobals "isinstance" = some none)
    (z7 : PySem.W.nsIn K mainGlobals "tuple" = some none)
    (z8 : PySem.W.nsIn K mainGlobals "bool" = some none)
    (z9 : PySem.W.nsIn K mainGlobals "list" = some none)
    (z10 : PySem.W.nsIn K mainGlobals "all" = some none)
    (z11 : PySem.W.nsIn K mainGlobals "any" = some none)
    (z12 : PySem.W.nsIn K mainGlobals "set" = some none)
    (z13 : PySem.W.nsIn K mainGlobals "sorted" = some none)
    (z14 : PySem.W.nsIn K mainGlobals "str" = some none)
    (z15 : PySem.W.nsIn K mainGlobals "enumerate" = some none)
    (z16 : PySem.W.nsIn K mainGlobals "zip" = some none)
    (z17 : PySem.W.nsIn K mainGlobals "divmod" = some none)
    {CL CS CR C1 C2 C3 C4 C5 C6 C7 : Addr} (aL : PySem.W.nsIn K mainGlobals "LineError" = some (some (.ref CL)))
    (aS : PySem.W.nsIn K mainGlobals "NoShare" = some (some (.ref CS)))
    (aR : PySem.W.nsIn K mainGlobals "NoRows" = some (some (.ref CR)))
    (b1_ : PySem.W.nsIn K mainGlobals "Empty" = some (some (.ref C1)))
    (b2_ : PySem.W.nsIn K mainGlobals "Lacking" = some (some (.ref C2)))
    (b3_ : PySem.W.nsIn K mainGlobals "NoFlat" = some (some (.ref C3)))
    (b4_ : PySem.W.nsIn K mainGlobals "NoLine" = some (some (.ref C4)))
    (b5_ : PySem.W.nsIn K mainGlobals "NoName" = some (some (.ref C5)))
    (b6_ : PySem.W.nsIn K mainGlobals "NoRow" = some (some (.ref C6)))
    (b7_ : PySem.W.nsIn K mainGlobals "NoText" = some (some (.ref C7)))
    (zV : PySem.W.nsIn K mainGlobals "ValueError" = some none)
    (x4 : PySem.W.specialIn K (.builtin "object.__class__") "__get__" = some (some (.builtin "getset_descriptor.__get__")))
    (x5 : PySem.W.takesIn K (.builtin "object.__class__") = some true)
    (q1S : PySem.W.excIn K CS bmV "ValueError.__new__" = true)
    (x1S : PySem.W.findIn K (.ref CS) "__getattribute__" = some (some (.builtin "BaseException.__getattribute__")))
    (x2S : PySem.W.findIn K (.ref CS) "__getattr__" = some none)
    (x3S : PySem.W.findIn K (.ref CS) "__class__" = some (some (.builtin "object.__class__")))
    (x6S : PySem.W.mroIn K CS (.type "object") = some true)
    (x7S : PySem.W.mroIn K CS (.type "BaseException") = some true)
    (x8S : (PySem.W.clsIn K CS).isSome = true)
    (m1S : PySem.W.exmOne K (.ref CS) (.ref CL) = some true)
    (i1S : PySem.W.kitOne K (.ref CS) (.type "ValueError") = some true)
    (i2S : PySem.W.kitAny K (.ref CS) [.ref C1, .ref C2, .ref C3, .ref C4, .ref C5, .ref C6, .ref C7] = some false)
    (i3S : PySem.W.kitOne K (.ref CS) (.ref CR) = some false)
    (q1R : PySem.W.excIn K CR bmV "ValueError.__new__" = true)
    (x1R : PySem.W.findIn K (.ref CR) "__getattribute__" = some (some (.builtin "BaseException.__getattribute__")))
    (x2R : PySem.W.findIn K (.ref CR) "__getattr__" = some none)
    (x3R : PySem.W.findIn K (.ref CR) "__class__" = some (some (.builtin "object.__class__")))
    (x6R : PySem.W.mroIn K CR (.type "object") = some true)
    (x7R : PySem.W.mroIn K CR (.type "BaseException") = some true)
    (x8R : (PySem.W.clsIn K CR).isSome = true)
    (m1R : PySem.W.exmOne K (.ref CR) (.ref CL) = some true)
    (i1R : PySem.W.kitOne K (.ref CR) (.type "ValueError") = some true)
    (i2R : PySem.W.kitAny K (.ref CR) [.ref C1, .ref C2, .ref C3, .ref C4, .ref C5, .ref C6, .ref C7] = some false)
    (i3R : PySem.W.kitOne K (.ref CR) (.ref CS) = some false)
    : ∃ fd : FuncData, (∀ (s : Shared) (v : Value), BindsTo s fd ⟨[v], []⟩ [("_law_script", v)]) ∧ ∀ base : Heap, K.In base → base.Ns mainGlobals mg → FnOk l.prog w K mg base (XC l.prog w) 8 fa fd ["_law_script"] (spLaw K) := by
  have e := hfa.symm.trans (PySem.W.mg_of X G a30)
  cases e
  have T : Txt mg := ⟨PySem.W.mg_none_of X G z0, PySem.W.mg_none_of X G z1, PySem.W.mg_none_of X G z2, PySem.W.mg_none_of X G z3, PySem.W.mg_none_of X G z4, PySem.W.mg_none_of X G z5, PySem.W.mg_none_of X G z6, PySem.W.mg_none_of X G z7, PySem.W.mg_none_of X G z8, PySem.W.mg_none_of X G z9, PySem.W.mg_none_of X G z10, PySem.W.mg_none_of X G z11, PySem.W.mg_none_of X G z12, PySem.W.mg_none_of X G z13, PySem.W.mg_none_of X G z14, PySem.W.mg_none_of X G z15, PySem.W.mg_none_of X G z16, PySem.W.mg_none_of X G z17⟩
  have TC : TxtC K mg CL CS CR C1 C2 C3 C4 C5 C6 C7 := ⟨T.isinstance_, PySem.W.mg_none_of X G zV, PySem.W.mg_of X G aL, PySem.W.mg_of X G aS, PySem.W.mg_of X G aR, PySem.W.mg_of X G b1_, PySem.W.mg_of X G b2_, PySem.W.mg_of X G b3_, PySem.W.mg_of X G b4_, PySem.W.mg_of X G b5_, PySem.W.mg_of X G b6_, PySem.W.mg_of X G b7_, q1S, ⟨x1S, x2S, x3S, x4, x5, x6S, x7S, x8S⟩, m1S, i1S, i2S, i3S, q1R, ⟨x1R, x2R, x3R, x4, x5, x6R, x7R, x8R⟩, m1R, i1R, i2R, i3R⟩
  have F0 := fun_mk (st := s_law_pot) l0 c0 k0
  have b0 := F0.binds (ps := ["_law_script", "_law_k"]) fun _ _ _ _ _ _ us hl => match us, hl with | [_, _], _ => rfl
  have F1 := fun_mk (st := s_law_take) l1 c1 k1
  have b1 := F1.binds (ps := ["_law_pot_here", "_law_many"]) fun _ _ _ _ _ _ us hl => match us, hl with | [_, _], _ => rfl
  have F2 := fun_mk (st := s_law_wide) l2 c2 k2
  have b2 := F2.binds (ps := ["_law_pot_here"]) fun _ _ _ _ _ _ us hl => match us, hl with | [_], _ => rfl
  have F3 := fun_mk (st := s_law_number) l3 c3 k3
  have b3 := F3.binds (ps := ["_law_pot_here"]) fun _ _ _ _ _ _ us hl => match us, hl with | [_], _ => rfl
  have F4 := fun_mk (st := scommon_divisor) l4 c4 k4
  have b4 := F4.binds (ps := ["one", "other"]) fun _ _ _ _ _ _ us hl => match us, hl with | [_, _], _ => rfl
  have F5 := fun_mk (st := slead) l5 c5 k5
  have b5 := F5.binds (ps := ["a", "b"]) fun _ _ _ _ _ _ us hl => match us, hl with | [_, _], _ => rfl
  have F6 := fun_mk (st := sthrough) l6 c6 k6
  have b6 := F6.binds (ps := ["one", "other"]) fun _ _ _ _ _ _ us hl => match us, hl with | [_, _], _ => rfl
  have F7 := fun_mk (st := ssign) l7 c7 k7
  have b7 := F7.binds (ps := ["number"]) fun _ _ _ _ _ _ us hl => match us, hl with | [_], _ => rfl
  have F8 := fun_mk (st := sside) l8 c8 k8
  have b8 := F8.binds (ps := ["line", "point"]) fun _ _ _ _ _ _ us hl => match us, hl with | [_, _], _ => rfl
  have F9 := fun_mk (st := ssign_counts) l9 c9 k9
  have b9 := F9.binds (ps := ["signs"]) fun _ _ _ _ _ _ us hl => match us, hl with | [_], _ => rfl
  have F10 := fun_mk (st := scounts) l10 c10 k10
  have b10 := F10.binds (ps := ["line", "heap"]) fun _ _ _ _ _ _ us hl => match us, hl with | [_, _], _ => rfl
  have F11 := fun_mk (st := splaces) l11 c11 k11
  have b11 := F11.binds (ps := ["heap"]) fun _ _ _ _ _ _ us hl => match us, hl with | [_], _ => rfl
  have F12 := fun_mk (st := splace_pairs) l12 c12 k12
  have b12 := F12.binds (ps := ["heap"]) fun _ _ _ _ _ _ us hl => match us, hl with | [_], _ => rfl
  have F13 := fun_mk (st := sis_whole) l13 c13 k13
  have b13 := F13.binds (ps := ["thing"]) fun _ _ _ _ _ _ us hl => match us, hl with | [_], _ => rfl
  have F14 := fun_mk (st := scheck_share) l14 c14 k14
  have b14 := F14.binds (ps := ["thing", "least", "most"]) fun _ _ _ _ _ _ us hl => match us, hl with | [_, _, _], _ => rfl
  have F15 := fun_mk (st := scheck_share) l15 c15 k15
  have b15 := F15.binds (ps := ["thing", "least", "most"]) fun _ _ _ _ _ _ us hl => match us, hl with | [_, _, _], _ => rfl
  have F16 := fun_mk (st := sparts) l16 c16 k16
  have b16 := F16.binds (ps := ["line", "heap", "k"]) fun _ _ _ _ _ _ us hl => match us, hl with | [_, _, _], _ => rfl
  have F17 := fun_mk (st := sturned_about) l17 c17 k17
  have b17 := F17.binds (ps := ["arrow"]) fun _ _ _ _ _ _ us hl => match us, hl with | [_], _ => rfl
  have F18 := fun_mk (st := sparting) l18 c18 k18
  have b18 := F18.binds (ps := ["one", "k", "other", "m"]) fun _ _ _ _ _ _ us hl => match us, hl with | [_, _, _, _], _ => rfl
  have F19 := fun_mk (st := sparting) l19 c19 k19
  have b19 := F19.binds (ps := ["one", "k", "other", "m"]) fun _ _ _ _ _ _ us hl => match us, hl with | [_, _, _, _], _ => rfl
  have F20 := fun_mk (st := sis_row) l20 c20 k20
  have b20 := F20.binds (ps := ["heap", "height"]) fun _ _ _ _ _ _ us hl => match us, hl with | [_, _], _ => rfl
  have F21 := fun_mk (st := srow_line) l21 c21 k21
  have b21 := F21.binds (ps := ["one", "k", "other", "m"]) fun _ _ _ _ _ _ us hl => match us, hl with | [_, _, _, _], _ => rfl
  have F22 := fun_mk (st := srow_line) l22 c22 k22
  have b22 := F22.binds (ps := ["one", "k", "other", "m"]) fun _ _ _ _ _ _ us hl => match us, hl with | [_, _, _, _], _ => rfl
  have F23 := fun_mk (st := s_law_row) l23 c23 k23
  have b23 := F23.binds (ps := ["_law_pot_here", "_law_y"]) fun _ _ _ _ _ _ us hl => match us, hl with | [_, _], _ => rfl
  have F24 := fun_mk (st := s_law_is_number) l24 c24 k24
  have b24 := F24.binds (ps := ["_law_thing_here", "_law_least", "_law_most"]) fun _ _ _ _ _ _ us hl => match us, hl with | [_, _, _], _ => rfl
  have F25 := fun_mk (st := s_law_thing) l25 c25 k25
  have b25 := F25.binds (ps := ["_law_pot_here", "_law_many"]) fun _ _ _ _ _ _ us hl => match us, hl with | [_, _], _ => rfl
  have F26 := fun_mk (st := s_law_class_of) l26 c26 k26
  have b26 := F26.binds (ps := ["_law_e"]) fun _ _ _ _ _ _ us hl => match us, hl with | [_], _ => rfl
  have F27 := fun_mk (st := s_law_told) l27 c27 k27
  have b27 := F27.binds (ps := ["_law_in_rows", "_law_one", "_law_k", "_law_other", "_law_m"]) fun _ _ _ _ _ _ us hl => match us, hl with | [_, _, _, _, _], _ => rfl
  have F28 := fun_mk (st := s_law_due) l28 c28 k28
  have b28 := F28.binds (ps := ["_law_in_rows", "_law_heaps", "_law_numbers"]) fun _ _ _ _ _ _ us hl => match us, hl with | [_, _, _], _ => rfl
  have F29 := fun_mk (st := s_law_right) l29 c29 k29
  have b29 := F29.binds (ps := ["_law_pot_here"]) fun _ _ _ _ _ _ us hl => match us, hl with | [_], _ => rfl
  have F30 := fun_mk (st := slaw) l30 c30 k30
  have b30 := F30.binds (ps := ["_law_script"]) fun _ _ _ _ _ _ us hl => match us, hl with | [_], _ => rfl
  refine ⟨PySem.W.fnOf "law" "law" (defArgs slaw) (defBody slaw) (defScope slaw) .none kV30 dc30 pm30 an30 cd30 ct30, fun s v => .of_eq rfl, fun base Kb Gb => ?_⟩
  have O_law_pot : Own l.prog w K mg base (XC l.prog w) 1 "_law_pot" ["_law_script", "_law_k"] (spUp K sPot) := ⟨_, _, ok_pot F0 T, PySem.W.mg_of X G a0, k0, b0⟩
  have O_law_take : Own l.prog w K mg base (XC l.prog w) 1 "_law_take" ["_law_pot_here", "_law_many"] (spUp K (sDraw 2147483629)) := ⟨_, _, ok_take F1 , PySem.W.mg_of X G a1, k1, b1⟩
  have O_law_wide : Own l.prog w K mg base (XC l.prog w) 2 "_law_wide" ["_law_pot_here"] (spUp K (sNum 2147483629)) := ⟨_, _, ok_wide F2 T noXC O_law_take, PySem.W.mg_of X G a2, k2, b2⟩
  have O_law_number : Own l.prog w K mg base (XC l.prog w) 3 "_law_number" ["_law_pot_here"] (spUp K (sNum 2147483629)) := ⟨_, _, ok_number F3 noXC O_law_take O_law_wide, PySem.W.mg_of X G a3, k3, b3⟩
  have Ocommon_divisor : Own l.prog w K mg base (XC l.prog w) 1 "common_divisor" ["one", "other"] (spUp K sGcd) := ⟨_, _, ok_cd F4 T, PySem.W.mg_of X G a4, k4, b4⟩
  have Olead : Own l.prog w K mg base (XC l.prog w) 2 "lead" ["a", "b"] (spUp K sLead) := ⟨_, _, ok_lead F5 noXC Ocommon_divisor, PySem.W.mg_of X G a5, k5, b5⟩
  have Othrough : Own l.prog w K mg base (XC l.prog w) 3 "through" ["one", "other"] (spUp K sThr) := ⟨_, _, ok_through F6 noXC Olead, PySem.W.mg_of X G a6, k6, b6⟩
  have Osign : Own l.prog w K mg base (XC l.prog w) 1 "sign" ["number"] (spUp K sSign) := ⟨_, _, ok_sign F7 , PySem.W.mg_of X G a7, k7, b7⟩
  have Oside : Own l.prog w K mg base (XC l.prog w) 2 "side" ["line", "point"] (spUp K sSide) := ⟨_, _, ok_side F8 noXC Osign, PySem.W.mg_of X G a8, k8, b8⟩
  have Osign_counts : Own l.prog w K mg base (XC l.prog w) 1 "sign_counts" ["signs"] (spUp K sSC) := ⟨_, _, ok_scs F9 , PySem.W.mg_of X G a9, k9, b9⟩
  have Ocounts : Own l.prog w K mg base (XC l.prog w) 3 "counts" ["line", "heap"] (spUp K sCnt) := ⟨_, _, ok_counts F10 noXC Osign_counts Oside, PySem.W.mg_of X G a10, k10, b10⟩
  have Oplaces : Own l.prog w K mg base (XC l.prog w) 1 "places" ["heap"] (spUp K sPlc) := ⟨_, _, ok_places F11 T, PySem.W.mg_of X G a11, k11, b11⟩
  have Oplace_pairs : Own l.prog w K mg base (XC l.prog w) 2 "place_pairs" ["heap"] (spUp K sPp) := ⟨_, _, ok_pp F12 T noXC Oplaces, PySem.W.mg_of X G a12, k12, b12⟩
  have Ois_whole : Own l.prog w K mg base (XC l.prog w) 1 "is_whole" ["thing"] (spUp K sIsW) := ⟨_, _, ok_is_whole F13 T, PySem.W.mg_of X G a13, k13, b13⟩
  have Ocheck_share : Own l.prog w K mg base (XC l.prog w) 2 "check_share" ["thing", "least", "most"] (spUp K sChk) := ⟨_, _, ok_chk0 F14 noXC Ois_whole, PySem.W.mg_of X G a14, k14, b14⟩
  have Ocheck_share : Own l.prog w K mg base (XC l.prog w) 2 "check_share" ["thing", "least", "most"] (spOr (spUp K sChk) (spChkX K CS)) := ⟨_, _, ok_chk F15 noXC TC Ois_whole, PySem.W.mg_of X G a15, k15, b15⟩
  have Oparts : Own l.prog w K mg base (XC l.prog w) 4 "parts" ["line", "heap", "k"] (spUp K sParts) := ⟨_, _, ok_parts F16 T noXC Ocounts, PySem.W.mg_of X G a16, k16, b16⟩
  have Oturned_about : Own l.prog w K mg base (XC l.prog w) 1 "turned_about" ["arrow"] (spUp K sTurn) := ⟨_, _, ok_turned F17 , PySem.W.mg_of X G a17, k17, b17⟩
  have Oparting : Own l.prog w K mg base (XC l.prog w) 5 "parting" ["one", "k", "other", "m"] (spUp K sPart) := ⟨_, _, ok_parting0 F18 T noXC Ocheck_share Oplace_pairs Othrough Oparts Oturned_about, PySem.W.mg_of X G a18, k18, b18⟩
  have Oparting : Own l.prog w K mg base (XC l.prog w) 5 "parting" ["one", "k", "other", "m"] (spOr (spUp K sPart) (spPartX K CS)) := ⟨_, _, ok_part F19 T noXC Ocheck_share Oplace_pairs Othrough Oparts Oturned_about, PySem.W.mg_of X G a19, k19, b19⟩
  have Ois_row : Own l.prog w K mg base (XC l.prog w) 1 "is_row" ["heap", "height"] (spUp K sIsRow) := ⟨_, _, ok_isrow F20 T, PySem.W.mg_of X G a20, k20, b20⟩
  have Orow_line : Own l.prog w K mg base (XC l.prog w) 5 "row_line" ["one", "k", "other", "m"] (spUp K sRl) := ⟨_, _, ok_rl0 F21 T noXC Ocheck_share Ois_row Othrough, PySem.W.mg_of X G a21, k21, b21⟩
  have Orow_line : Own l.prog w K mg base (XC l.prog w) 5 "row_line" ["one", "k", "other", "m"] (spOr (spUp K sRl) (spRlX K CR CS)) := ⟨_, _, ok_rl F22 T noXC TC Ocheck_share Ois_row Othrough, PySem.W.mg_of X G a22, k22, b22⟩
  have O_law_row : Own l.prog w K mg base (XC l.prog w) 4 "_law_row" ["_law_pot_here", "_law_y"] (spUp K sRow) := ⟨_, _, ok_row F23 T noXC O_law_take O_law_number, PySem.W.mg_of X G a23, k23, b23⟩
  have O_law_is_number : Own l.prog w K mg base (XC l.prog w) 1 "_law_is_number" ["_law_thing_here", "_law_least", "_law_most"] (spUp K sIsN) := ⟨_, _, ok_isn F24 T, PySem.W.mg_of X G a24, k24, b24⟩
  have O_law_thing : Own l.prog w K mg base (XC l.prog w) 3 "_law_thing" ["_law_pot_here", "_law_many"] (spUp K sThing) := ⟨_, _, ok_thing F25 T noXC O_law_take, PySem.W.mg_of X G a25, k25, b25⟩
  have U_law_class_of : OwnU l.prog w K mg base (XC l.prog w) 1 "_law_class_of" ["_law_e"] (spCls CS CR) := ⟨_, _, ok_cls F26 TC, PySem.W.mg_of X G a26, k26, b26⟩
  have O_law_class_of := U_law_class_of.own
  have O_law_told : Own l.prog w K mg base (XC l.prog w) 6 "_law_told" ["_law_in_rows", "_law_one", "_law_k", "_law_other", "_law_m"] (spUp K sTold) := ⟨_, _, ok_told F27 noXC TC Orow_line Oparting U_law_class_of, PySem.W.mg_of X G a27, k27, b27⟩
  have O_law_due : Own l.prog w K mg base (XC l.prog w) 2 "_law_due" ["_law_in_rows", "_law_heaps", "_law_numbers"] (spUp K sDue) := ⟨_, _, ok_due F28 T noXC O_law_is_number, PySem.W.mg_of X G a28, k28, b28⟩
  have O_law_right : Own l.prog w K mg base (XC l.prog w) 7 "_law_right" ["_law_pot_here"] (spUp K sRt) := ⟨_, _, ok_right F29 T noXC O_law_row O_law_thing O_law_told O_law_due, PySem.W.mg_of X G a29, k29, b29⟩
  exact (ok_law F30 T noXC O_law_pot O_law_right).imp (fun _ _ _ _ h => law_up h)
theorem walk {l : PySem.W.OpenLaw} {q : Program} {loose : List Str} {XP : (Str → Option Value) → Heap → Prop} {YP : World → Heap → Prop} {d : DefRec} {K : Params → PySem.W.Frag} (hn : l.most = some 63) (hdf : d.params.defaults = [])
    (hY : ∀ (w : World) (h : Heap), YP w h → (K w.params).In h)
    (F : ∀ (w : World) (mg : Str → Option Value) (fa : Addr) (h : Heap), (K w.params).In h → h.Ns mainGlobals mg → mg d.name = some (.ref fa) →
      ∃ fd : FuncData, (∀ (s : Shared) (u : Value), BindsTo s fd ⟨[u], []⟩ [("_law_script", u)]) ∧ ∀ base : Heap, (K w.params).In base → base.Ns mainGlobals mg → FnOk l.prog w (K w.params) mg base (XC l.prog w) 8 fa fd ["_law_script"] (spLaw (K w.params))) :
    PySem.W.WalkO q loose XP YP l.row.toRowW d [] (fun f vs => PySem.call f vs) :=
  L2.walk_of (n := 63) (k := 8) (x := "_law_script") (CX := fun w => (XC l.prog w)) (sp := fun w => spLaw (K w.params)) hn (by decide) hdf ⟨rfl, by decide, by decide⟩ hY F (fun _ _ a ns hl _ hS => ⟨a, ns, rfl, hS, hl, fun _ => rfl⟩) fun _ _ _ _ _ z => noXC _ _ _ _ _ z
end K83
structure PySem.W.Fast:Prop where
 (tw7872661535411124076 tw14854276143116622994 tw8913225898241694311 tw15326282088748047127 tw1072515414484225078 tw8572671615355590871 tw3396491194968065939 tw13457909434525985950 tw17471303257583434348 tw7476809980976115657 tw11400337437854325736 tw3930451920702321436 tw241224149123582382 tw16364546826021322604 tw13466844442208171182 tw11960371294352472436 tw6475347608848038294 tw3541721039588682119 tw9679377613338491066 tw1687598456915897209 tw7390763116412656742 tw17499423190961554190 tw5088667261596608686 tw3806297069034861957 tw17423446732279294137 tw16431976241315369979 tw18296101681805028142 tw11915624479844087094 tw17150456522744096274 tw3385782350205626049 tw11754452198605375151 tw9141988305487834810 tw3855479922433771959 tw6951537070029182772 tw10564028270854222490 tw5324260067422016293 tw11529770311866028160 tw614353970375840741 tw9142956742543578297 tw14972678211137993829 tw15985952046832962080 tw14178473072618243363 tw11704049491120292052 tw1469842699207949232 tw7556557630143710159 tw15179443640452940534 tw5953691532360861861 tw14737740728218983288 tw1356921325319048059 tw2314254743199077784 tw3615822323971722555 tw12704871384008179065 tw9244768252623619583 tw9373113847253785727 tw12675248007582732129 tw14497870878801664513 tw7160337298445377776 tw13837833901034102625 tw9836940710260919894 tw7423592950629422308 tw10537424327104828606 tw16969283790302461066 tw11650748532277966305 tw10433519005636156369 tw1881303171554026381 tw5380184970622532336 tw8605509588823425206 tw1687151479106734941 tw7731280191134164068 tw17608773657325988973 tw4719912586820891654 tw1512435078599386544 tw16610260633772247068 tw2755352320597998389 tw15137120842378206889 tw12347716602163426844 tw3280098644918371260 tw13290568673906869053 tw1961431428558530619 tw10274493866455828317 tw4193111827963389511 tw11561527932613876387 tw3473454779539057343 tw7764778940373621022 tw11952323264464505190 tw17764061382766984367 tw8578437485419341378 tw3551759665072489258 tw17980963480919277317 tw5575729956091376525 tw7978494557236758524 tw369974695984321750 tw17633554159583847972 tw2196234004627848561 tw8226417146383382470 tw11990857143603106348 tw8923291526789867588 tw42688256057773728 tw6235838729011854433 tw12404128137815834477 tw533741475882410882 tw17713100700707215649 tw11493988169746308848 tw14000840473956703064 tw13345045898549082750 tw4791144307592743358 tw4475725874193899911 tw12360262571274708136 tw12256960922519337681 tw10502077503831063919 tw17863138106355950925 tw13982209598121388385 tw2712402005780769244 tw17817612374932660563 tw14260359387217168206 tw9468381249171155171 tw3882098683847232087 tw18262023005907603319 tw7567960694747295879 tw8323300748957351627 tw17615584975941739207 tw14919621839536147042 tw10288866913469750545 tw1492947502908487447 tw1137578025356587505 tw1855482352872900734 tw4464308108637221076 tw17216641987105118221 tw8385775531958867873 tw10499490474972329895 tw5327972115543102175 tw1478240388501537659 tw2586454979836050610 tw12390620879057488215 tw9668693516292421416 tw8833512658496544085 tw11626909063178073931 tw3844822044821406267 tw14495867843542703496 tw11929283522998870459 tw5666248276974685781 tw6116356976597785676 tw3454657002313679105 tw1497045889473540975 tw14856523930277363814 tw17144130149544285596 tw2466939128437829550 tw10950401813700072839 tw13126889453008077784 tw9516016282189177767 tw2365126698784844862 tw13001069041470932092 tw8786510601083982642 tw9772112494763231784 tw11545464078593620087 tw629090995845590311 tw1022297578763132598 tw9533109527964294623 tw5542726712214670844 tw6333555663735016789 tw17001798764929886149 tw6008751081048733840 tw1368912046345474786 tw16951133336924017605 tw4022013935152471646 tw17682536323868953434 tw6295285327700277045 tw2774049088763660124 tw4074614505320628010 tw15952680593667017969 tw13692677433117745154 tw10614368863556184308 tw11215385530324289020 tw7519696331515437281 tw13521012526491532317 tw2683757355098502561 tw4561376023428294594 tw5117005197491636207 tw15568293831681356469 tw4246468031858312866 tw11825263217321362831 tw14947842392273293416 tw7745559890055315233 tw4856127864706701818 tw3778645985590532353 tw8238199371731602665 tw14374651487223657059 tw13387266812919709089 tw16227370363410902978 tw16054097613548868628 tw10767173327577869071 tw15654044664453087225 tw16665420942307706217 tw13976915964384759722 tw6397546818953362048 tw3760524242237662695 tw15660445279971875214 tw6307464412621129292 tw4056603039741166617 tw14327708315662359506 tw7078974312373386614 tw6084295809201629525 tw15171297434075828882 tw11358499562686591048 tw18417274365279560841 tw1251943765287203911 tw4104532535821971151 tw7807433978596970847 tw13067141298120248014 tw17853665304165794843 tw13232927583308827316 tw8145701985108289824 tw1419308116307205854 tw721965617723852589 tw15888701629278999033 tw7582307532663744838 tw9031450681586454764 tw7424612808185354470 tw10763063912600212364 tw2419048690723108087 tw15756199231416480916 tw9936598155433356907 tw8136372262089635107 tw17670606857152504313 tw6122370356653695224 tw6017043568821213105 tw18320395579492809520 tw6230508102653891142 tw10863513939283998791 tw918694086903049234 tw2713421919762889407 tw13911654193736998026 tw83503940082842431 tw12595564700584244283 tw3859280740746576070 tw18110681279503116175 tw15320236723375870675 tw17836718814458812948 tw16820790605552608490 tw6950968186750699761 tw18097039018552846825 tw2224957118093681274 tw11880175590019000220 tw8128109111200441836 tw13514868905016627630 tw3340298175330958511 tw2948625424137419881 tw6953180406485380816 tw12488991386357389754 tw17391604957279700604 tw4554290834975656480 tw14079277039347027206 tw1111393383692554684 tw11482564404103971330 tw6278350876664715543 tw6206502197104027146 tw13949149893282970674 tw1708664269366684598 tw8607280425196989701 tw4179281153010851153 tw17667903344894444231 tw12420571790876072293 tw1669219056926867018 tw1209359385034524187 tw3523281345324787143 tw10984893841668562786 tw12035469530905865022 tw5286383689353829049 tw7775183017851913007 tw11105627020168556728 tw168904297279205062 tw4247149315583329987 tw7498716792522423165 tw4578518773566056149 tw9478453010651178811 tw12192516596799626276 tw6979773739119266303 tw14521865879184102486 tw5146157453392760163 tw13808454020422239974 tw16833731658138866806 tw8440104952147315189 tw8757914824828222548 tw4162388990706309782 tw6128348701753755687 tw11043372472138248390 tw15661021766803861416 tw4399567433236763140 tw1282045934140998273 tw3770398331889225993 tw2234149754584185540 tw12605926724348617880 tw16590524735069492346 tw16540881846568436633 tw10304859404658408950 tw13726364102724922401 tw3692610365841330690 tw17285601436062227403 tw6118152346434535813 tw1084085311438969597 tw816497838868931359 tw8461951280310186416 tw5857342538572250808 tw13795124143133494339 tw1187325721820995858 tw2671395008757218183 tw2671492771689568653 tw18340002062307824903 tw6905755342396776985 tw13248068090193612814 tw8725781062209969058 tw12389461143677123380 tw16631667294497655086 tw7096962549695186434 tw1846197524731103323 tw10485541537521893 tw6654471889632276263 tw8264972520480505179 tw11099974270213242910 tw3310944622312696801 tw3273685665569056275:True)
open PySem PySem.W PyProof.Rows
set_option maxRecDepth 100000 in
set_option maxHeartbeats 0 in
theorem PySem.Challenge.cw_halveline_k83_shares_refused_holds : PySem.Challenge.rw_halveline_k83_shares_refused.Holds := by
  w_on; o_law; k_head; (case hw => w_witness2)
  k_fill
  refine K83.walk (l := PySem.Challenge.rw_halveline_k83_shares_refused) rfl rfl (fun w h Y => PySem.W.kIn_of Y) ?F
  case F =>
    intro w mg fa h KX G hmg
    refine' K83.all_mk KX G hmg ?a0 ?l0 ?c0 ?k0 ?a1 ?l1 ?c1 ?k1 ?a2 ?l2 ?c2 ?k2 ?a3 ?l3 ?c3 ?k3 ?a4 ?l4 ?c4 ?k4 ?a5 ?l5 ?c5 ?k5 ?a6 ?l6 ?c6 ?k6 ?a7 ?l7 ?c7 ?k7 ?a8 ?l8 ?c8 ?k8 ?a9 ?l9 ?c9 ?k9 ?a10 ?l10 ?c10 ?k10 ?a11 ?l11 ?c11 ?k11 ?a12 ?l12 ?c12 ?k12 ?a13 ?l13 ?c13 ?k13 ?a14 ?l14 ?c14 ?k14 ?a15 ?l15 ?c15 ?k15 ?a16 ?l16 ?c16 ?k16 ?a17 ?l17 ?c17 ?k17 ?a18 ?l18 ?c18 ?k18 ?a19 ?l19 ?c19 ?k19 ?a20 ?l20 ?c20 ?k20 ?a21 ?l21 ?c21 ?k21 ?a22 ?l22 ?c22 ?k22 ?a23 ?l23 ?c23 ?k23 ?a24 ?l24 ?c24 ?k24 ?a25 ?l25 ?c25 ?k25 ?a26 ?l26 ?c26 ?k26 ?a27 ?l27 ?c27 ?k27 ?a28 ?l28 ?c28 ?k28 ?a29 ?l29 ?c29 ?k29 ?a30 ?l30 ?c30 ?k30 ?z0 ?z1 ?z2 ?z3 ?z4 ?z5 ?z6 ?z7 ?z8 ?z9 ?z10 ?z11 ?z12 ?z13 ?z14 ?z15 ?z16 ?z17 ?aL ?aS ?aR ?b1_ ?b2_ ?b3_ ?b4_ ?b5_ ?b6_ ?b7_ ?zV ?x4 ?x5 ?q1S ?x1S ?x2S ?x3S ?x6S ?x7S ?x8S ?m1S ?i1S ?i2S ?i3S ?q1R ?x1R ?x2R ?x3R ?x6R ?x7R ?x8R ?m1R ?i1R ?i2R ?i3R
    (case a0 => k_is)
    (case l0 => k_is)
    (case c0 => k_is)
    (case k0 => k_is)
    (case a1 => k_is)
    (case l1 => k_is)
    (case c1 => k_is)
    (case k1 => k_is)
    (case a2 => k_is)
    (case l2 => k_is)
    (case c2 => k_is)
    (case k2 => k_is)
    (case a3 => k_is)
    (case l3 => k_is)
    (case c3 => k_is)
    (case k3 => k_is)
    (case a4 => k_is)
    (case l4 => k_is)
    (case c4 => k_is)
    (case k4 => k_is)
    (case a5 => k_is)
    (case l5 => k_is)
    (case c5 => k_is)
    (case k5 => k_is)
    (case a6 => k_is)
    (case l6 => k_is)
    (case c6 => k_is)
    (case k6 => k_is)
    (case a7 => k_is)
    (case l7 => k_is)
    (case c7 => k_is)
    (case k7 => k_is)
    (case a8 => k_is)
    (case l8 => k_is)
    (case c8 => k_is)
    (case k8 => k_is)
    (case a9 => k_is)
    (case l9 => k_is)
    (case c9 => k_is)
    (case k9 => k_is)
    (case a10 => k_is)
    (case l10 => k_is)
    (case c10 => k_is)
    (case k10 => k_is)
    (case a11 => k_is)
    (case l11 => k_is)
    (case c11 => k_is)
    (case k11 => k_is)
    (case a12 => k_is)
    (case l12 => k_is)
    (case c12 => k_is)
    (case k12 => k_is)
    (case a13 => k_is)
    (case l13 => k_is)
    (case c13 => k_is)
    (case k13 => k_is)
    (case a14 => k_is)
    (case l14 => k_is)
    (case c14 => k_is)
    (case k14 => k_is)
    (case a15 => k_is)
    (case l15 => k_is)
    (case c15 => k_is)
    (case k15 => k_is)
    (case a16 => k_is)
    (case l16 => k_is)
    (case c16 => k_is)
    (case k16 => k_is)
    (case a17 => k_is)
    (case l17 => k_is)
    (case c17 => k_is)
    (case k17 => k_is)
    (case a18 => k_is)
    (case l18 => k_is)
    (case c18 => k_is)
    (case k18 => k_is)
    (case a19 => k_is)
    (case l19 => k_is)
    (case c19 => k_is)
    (case k19 => k_is)
    (case a20 => k_is)
    (case l20 => k_is)
    (case c20 => k_is)
    (case k20 => k_is)
    (case a21 => k_is)
    (case l21 => k_is)
    (case c21 => k_is)
    (case k21 => k_is)
    (case a22 => k_is)
    (case l22 => k_is)
    (case c22 => k_is)
    (case k22 => k_is)
    (case a23 => k_is)
    (case l23 => k_is)
    (case c23 => k_is)
    (case k23 => k_is)
    (case a24 => k_is)
    (case l24 => k_is)
    (case c24 => k_is)
    (case k24 => k_is)
    (case a25 => k_is)
    (case l25 => k_is)
    (case c25 => k_is)
    (case k25 => k_is)
    (case a26 => k_is)
    (case l26 => k_is)
    (case c26 => k_is)
    (case k26 => k_is)
    (case a27 => k_is)
    (case l27 => k_is)
    (case c27 => k_is)
    (case k27 => k_is)
    (case a28 => k_is)
    (case l28 => k_is)
    (case c28 => k_is)
    (case k28 => k_is)
    (case a29 => k_is)
    (case l29 => k_is)
    (case c29 => k_is)
    (case k29 => k_is)
    (case a30 => k_is)
    (case l30 => k_is)
    (case c30 => k_is)
    (case k30 => k_is)
    (case z0 => k_is)
    (case z1 => k_is)
    (case z2 => k_is)
    (case z3 => k_is)
    (case z4 => k_is)
    (case z5 => k_is)
    (case z6 => k_is)
    (case z7 => k_is)
    (case z8 => k_is)
    (case z9 => k_is)
    (case z10 => k_is)
    (case z11 => k_is)
    (case z12 => k_is)
    (case z13 => k_is)
    (case z14 => k_is)
    (case z15 => k_is)
    (case z16 => k_is)
    (case z17 => k_is)
    (case aL => k_is)
    (case aS => k_is)
    (case aR => k_is)
    (case b1_ => k_is)
    (case b2_ => k_is)
    (case b3_ => k_is)
    (case b4_ => k_is)
    (case b5_ => k_is)
    (case b6_ => k_is)
    (case b7_ => k_is)
    (case zV => k_is)
    (case x4 => k_is)
    (case x5 => k_is)
    (case q1S => k_exc)
    (case x1S => k_is)
    (case x2S => k_is)
    (case x3S => k_is)
    (case x6S => k_is)
    (case x7S => k_is)
    (case x8S => kernel_rfl)
    (case m1S => kernel_rfl)
    (case i1S => kernel_rfl)
    (case i2S => kernel_rfl)
    (case i3S => kernel_rfl)
    (case q1R => k_exc)
    (case x1R => k_is)
    (case x2R => k_is)
    (case x3R => k_is)
    (case x6R => k_is)
    (case x7R => k_is)
    (case x8R => kernel_rfl)
    (case m1R => kernel_rfl)
    (case i1R => kernel_rfl)
    (case i2R => kernel_rfl)
    (case i3R => kernel_rfl)
