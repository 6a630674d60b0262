import PyProof.Rows.All
import Wide.All
import OpenK.AllK
import Wide.FinOn
import Lean
import PyProof.EqAt
import PyProof.EqKinds
import PyProof.TupleCall
import PyProof.EnumFor
import PyProof.EnumMake
import PyProof.ZipIter
import PyProof.WalkInts
import PyProof.SeqI3
import PySem.Challenge.RW_halveline_k15_what_is_none
set_option Elab.async false
set_option linter.all false
set_option maxRecDepth 100000
namespace L2
open PySem PySem.Spec PyProof.Rows
abbrev Key := Sum Int Str
def keyIs : Key → Value → Bool
  | .inl k, v => Value.isInt k v
  | .inr x, v => Value.isStrOf x v
def keyH (w : World) : Key → Int
  | .inl k => hashInt k
  | .inr x => hashStr w x
theorem keyIs_shape : ∀ {k : Key} {v : Value}, keyIs k v = true → (∃ i t, k = Sum.inl i ∧ v = Value.int i t) ∨ (∃ x t, k = Sum.inr x ∧ v = Value.str x t)
  | .inl i, v, h => by
    obtain ⟨t, e⟩ := Value.isInt_shape (k := i) (v := v) h
    exact .inl ⟨i, t, rfl, e⟩
  | .inr x, v, h => by
    obtain ⟨t, e⟩ := Value.isStrOf_shape (x := x) (v := v) h
    exact .inr ⟨x, t, rfl, e⟩
theorem key_ll (a b : Int) : decide ((Sum.inl a : Key) = Sum.inl b) = (a == b) := by
  by_cases e : a = b
  · subst e; simp
  · have h : ¬ (Sum.inl a : Key) = Sum.inl b := fun q => e (Sum.inl.inj q)
    rw [decide_eq_false h]
    exact (beq_eq_false_iff_ne.mpr e).symm
theorem key_rr (a b : Str) : decide ((Sum.inr a : Key) = Sum.inr b) = decide (a = b) := by
  by_cases e : a = b
  · subst e; simp
  · have h : ¬ (Sum.inr a : Key) = Sum.inr b := fun q => e (Sum.inr.inj q)
    rw [decide_eq_false h, decide_eq_false e]
theorem key_lr (a : Int) (b : Str) : decide ((Sum.inl a : Key) = Sum.inr b) = false := decide_eq_false (fun q => nomatch q)
theorem key_rl (a : Str) (b : Int) : decide ((Sum.inr a : Key) = Sum.inl b) = false := decide_eq_false (fun q => nomatch q)
def mixKind (prog : Program) (w : World) : PySem.KeyKind prog w Key where
  is := keyIs
  hash := keyH w
  inj := fun v a b ha hb => by
    rcases keyIs_shape ha with ⟨i, t, rfl, rfl⟩ | ⟨x, t, rfl, rfl⟩
    · rcases keyIs_shape hb with ⟨j, u, rfl, e⟩ | ⟨y, u, rfl, e⟩
      · injection e with e1 _; rw [e1]
      · exact nomatch e
    · rcases keyIs_shape hb with ⟨j, u, rfl, e⟩ | ⟨y, u, rfl, e⟩
      · exact nomatch e
      · injection e with e1 _; rw [e1]
  byValue := fun k v h => by
    rcases keyIs_shape h with ⟨i, t, rfl, rfl⟩ | ⟨x, t, rfl, rfl⟩ <;> rfl
  pyHash := fun hv h => by
    rcases keyIs_shape hv with ⟨i, t, rfl, rfl⟩ | ⟨x, t, rfl, rfl⟩
    · exact wpAny_pyHash_int h
    · exact wpAny_pyHash_str h
  eqBool := fun hu hv h => by
    rcases keyIs_shape hu with ⟨i, t, rfl, rfl⟩ | ⟨x, t, rfl, rfl⟩
    · rcases keyIs_shape hv with ⟨j, u, rfl, rfl⟩ | ⟨y, u, rfl, rfl⟩
      · rw [key_ll] at h; exact wpAny_eqBool_int h
      · rw [key_lr] at h; exact SeqAt.EqAt.int_str i t y u _ _ _ _ h
    · rcases keyIs_shape hv with ⟨j, u, rfl, rfl⟩ | ⟨y, u, rfl, rfl⟩
      · rw [key_rl] at h; exact SeqAt.EqAt.str_int x t j u _ _ _ _ h
      · rw [key_rr] at h; exact wpAny_eqBool_str h
  «strs» := fun k x t v h => by
    rcases keyIs_shape h with ⟨i, u, rfl, e⟩ | ⟨y, u, rfl, e⟩
    · exact nomatch e
    · injection e with e1 _
      subst e1
      cases v <;> rfl
end L2
namespace L2
open PySem PySem.Spec PyProof.Rows
inductive V where
  | non | bl (b : Bool) | int (i : Int) | str (x : Str) | byt (b : Array UInt8) | flt (b : UInt64) | ref (a : Addr) | ty (n : String)
  deriving DecidableEq
def RelV : V → Value → Prop
  | .non, u => u = Value.none
  | .bl b, u => u = Value.bool b
  | .int i, u => ∃ t, u = Value.int i t
  | .str x, u => ∃ t, u = Value.str x t
  | .byt b, u => ∃ t, u = Value.bytes b t
  | .flt b, u => ∃ t, u = Value.float b t
  | .ref a, u => u = Value.ref a
  | .ty n, u => u = Value.type n
abbrev Vals : List V → List Value → Prop := Paired RelV
theorem Vals.length {xs : List V} {us : List Value} (r : Vals xs us) : xs.length = us.length := Paired.length r
theorem Vals.get : ∀ {xs : List V} {us : List Value} {i : Nat} {x : V}, Vals xs us → xs[i]? = some x → ∃ u, us[i]? = some u ∧ RelV x u
  | _, _, _, _, .nil, e => by simp at e
  | _, _, 0, _, .cons r _, e => by simp at e; subst e; exact ⟨_, rfl, r⟩
  | _, _, i + 1, x, .cons _ t, e => by
    obtain ⟨u, h1, h2⟩ := Vals.get (i := i) (x := x) t (by simpa using e)
    exact ⟨u, by simpa using h1, h2⟩
theorem Vals.set {x : V} {u : Value} (r : RelV x u) : ∀ {xs : List V} {us : List Value} (i : Nat), Vals xs us → Vals (xs.set i x) (us.set i u)
  | _, _, _, .nil => .nil
  | _, _, 0, .cons _ t => .cons r t
  | _, _, i + 1, .cons q t => .cons q (Vals.set r i t)
theorem Vals.append : ∀ {xs ys : List V} {us ws : List Value}, Vals xs us → Vals ys ws → Vals (xs ++ ys) (us ++ ws)
  | _, _, _, _, .nil, s => s
  | _, _, _, _, .cons r t, s => .cons r (Vals.append t s)
theorem Vals.take : ∀ {xs : List V} {us : List Value} (n : Nat), Vals xs us → Vals (xs.take n) (us.take n)
  | _, _, 0, _ => .nil
  | _, _, _ + 1, .nil => .nil
  | _, _, n + 1, .cons r t => .cons r (Vals.take n t)
theorem Vals.drop : ∀ {xs : List V} {us : List Value} (n : Nat), Vals xs us → Vals (xs.drop n) (us.drop n)
  | _, _, 0, r => r
  | _, _, _ + 1, .nil => .nil
  | _, _, n + 1, .cons _ t => Vals.drop n t
def RelO : Option V → Option Value → Prop
  | some v, some u => RelV v u
  | none, none => True
  | _, _ => False
def KV {κ : Type} : List (κ × V) → List (κ × Value) → Prop := Paired fun (p : κ × V) (q : κ × Value) => p.1 = q.1 ∧ RelV p.2 q.2
def kV : Key → V
  | .inl i => .int i
  | .inr x => .str x
inductive HO where
  /-- a list -/
  | lst (xs : List V)
  /-- a tuple (never changes) -/
  | tup (xs : List V)
  /-- a dict whose keys are ints and texts; one whose keys are tuples of ints and texts (the empty one is both) -/
  | dK (kvs : List (Key × V)) | dT (kvs : List (List Key × V))
  /-- a set of ints: its members, its size -/
  | set (S : Int → Bool) (n : Nat)
  /-- an instance of the class at C, its dict at dx, its attributes -/
  | ins (C dx : Addr) (fs : List (Str × V))
  /-- the dict of the instance at x -/
  | own (x : Addr)
  /-- the dict of an exception -/
  | xd (fs : List (Str × V))
  /-- a bound method, f of x -/
  | met (f x : Addr)
  /-- a range object lo, lo + 1, .. below hi -/
  | rng (lo hi : Int)
  /-- a thing that is known to the object (the script; a dict while a loop walks it): read, never written while it is so -/
  | frz (o : Obj) (u : HO)
  /-- a code object's table -/
  | tbl (ps : Array Value)
  /-- any other thing, by what is true of its one object (a def of one's own: SetO a S n := HO.ext fun h => ..) -/
  | ext (φ : Heap → Prop)
abbrev Hp := Addr → Option HO
def upd (H : Hp) (a : Addr) (o : HO) : Hp := fun b => if b = a then some o else H b
theorem upd_same {H : Hp} {a : Addr} {o : HO} : upd H a o a = some o := by unfold upd; rw [if_pos rfl]
theorem upd_ne {H : Hp} {a b : Addr} {o : HO} (h : b ≠ a) : upd H a o b = H b := by unfold upd; rw [if_neg h]
theorem ne_of {H : Hp} {a b : Addr} {o u : HO} (h : H a = some o) (h' : H b = some u) (d : o ≠ u) : a ≠ b := by
  intro e; subst e; rw [h] at h'; exact d (Option.some.inj h')
theorem ne_of_none {H : Hp} {a b : Addr} {o : HO} (h : H a = some o) (h' : H b = none) : a ≠ b := by
  intro e; subst e; rw [h] at h'; cases h'
section
variable (P : Program) (w : World)
def ObjOk (H : Hp) (h : Heap) (a : Addr) : HO → Prop
  | .lst xs => xs.length ≤ sizeLine ∧ ∃ (its : List Value) (n : Nat), Vals xs its ∧ h.get? a = some { cls := .type "list", data := .seq its.toArray n }
  | .tup xs => xs.length ≤ sizeLine ∧ ∃ its : List Value, Vals xs its ∧ IsTup h a its.toArray
  | .dK kvs => kvs.length ≤ sizeLine ∧ (a == sysModules) = false ∧ ∃ vs, KV kvs vs ∧ h.DictOf (mixKind P w) a vs
  | .dT kvs => kvs.length ≤ sizeLine ∧ (a == sysModules) = false ∧ ∃ xs : List (List Key × Addr × Value),
      Paired (fun (p : List Key × V) (q : List Key × Addr × Value) => p.1 = q.1 ∧ H q.2.1 = some (.tup (p.1.map kV)) ∧ RelV p.2 q.2.2) kvs xs ∧
      ∃ o es ep, h.get? a = some o ∧ o.ExactDict ∧ o.data = .dict es ep ∧ es.toList = xs.map (entryOfKey (tupleKind (mixKind P w))) ∧ (xs.map (·.1)).Nodup
  | .set S n => h.SetOf (intKind P w) a S n
  | .ins C dx fs => H dx = some (.own a) ∧ fs.length ≤ 1000 ∧ dx ≠ a ∧ h.get? a = some (PySem.W.instObj C dx) ∧
      ∃ mA, h.Ns1 dx mA ∧ (∀ f, RelO (fs.lookup f) (mA f)) ∧ PySem.Within mA (fs.map (·.1))
  | .own _ => ∃ o, h.get? a = some o
  | .xd fs => ∃ mA, h.Ns1 a mA ∧ ∀ f, RelO (fs.lookup f) (mA f)
  | .rng lo hi => ∃ t u v, h.get? a = some { cls := .type "range", data := .fields #[.int lo t, .int hi u, .int 1 v] }
  | .frz o u => h.get? a = some o ∧ ObjOk H h a u
  | .tbl ps => h.get? a = some { cls := .none, data := .fields ps }
  | .met f x => h.get? a = some (PySem.W.methodObj (.ref f) (.ref x))
  | .ext φ => φ h ∧ (∃ o, h.get? a = some o) ∧ ∀ h1 h2 : Heap, φ h1 → (∀ o, h1.get? a = some o → h2.get? a = some o) → φ h2
def HOk (H : Hp) (h : Heap) : Prop := ∀ a o, H a = some o → ObjOk P w H h a o
end
section
variable {P : Program} {w : World} {H H' : Hp} {h h' : Heap} {a : Addr} {o : HO}
theorem ObjOk.lt (x : ObjOk P w H h a o) : a < h.objs.size := by
  cases o with
  | lst xs => obtain ⟨_, _, _, _, e⟩ := x; exact Heap.lt_size e
  | tup xs => obtain ⟨_, _, _, p⟩ := x; exact p.lt
  | dK kvs => obtain ⟨_, _, _, _, o, _, _, e, _⟩ := x; exact Heap.lt_size e
  | dT kvs => obtain ⟨_, _, _, _, o, _, _, e, _⟩ := x; exact Heap.lt_size e
  | set S n => obtain ⟨o, _, _, _, e, _⟩ := x; exact Heap.lt_size e
  | ins C dx fs => obtain ⟨_, _, _, e, _⟩ := x; exact Heap.lt_size e
  | own y => obtain ⟨_, e⟩ := x; exact Heap.lt_size e
  | xd fs => obtain ⟨_, ⟨_, _, _, e, _⟩, _⟩ := x; exact Heap.lt_size e
  | rng lo hi => obtain ⟨_, _, _, e⟩ := x; exact Heap.lt_size e
  | frz ob u => obtain ⟨e, _⟩ := x; exact Heap.lt_size e
  | tbl ps => exact Heap.lt_size (show h.get? a = some _ from x)
  | met f y => exact Heap.lt_size (show h.get? a = some _ from x)
  | ext φ => obtain ⟨_, ⟨_, e⟩, _⟩ := x; exact Heap.lt_size e
theorem Paired.mapP {α β : Type} {F G : α → β → Prop} : ∀ {l₁ : List α} {l₂ : List β}, Paired F l₁ l₂ → (∀ a b, F a b → G a b) → Paired G l₁ l₂
  | _, _, .nil, _ => .nil
  | _, _, .cons r t, f => .cons (f _ _ r) (Paired.mapP t f)
theorem ObjOk.stay (x : ObjOk P w H h a o) (k : ∀ b u, (b = a ∨ H b = some (.own a)) → h.get? b = some u → h'.get? b = some u)
    (ho : ∀ b, H b = some (.own a) → H' b = some (.own a)) (ht : ∀ b xs, H b = some (.tup xs) → H' b = some (.tup xs)) : ObjOk P w H' h' a o := by
  induction o with
  | lst xs => obtain ⟨z, its, n, r, e⟩ := x; exact ⟨z, its, n, r, k _ _ (.inl rfl) e⟩
  | tup xs => obtain ⟨z, its, r, ob, e, c⟩ := x; exact ⟨z, its, r, ob, k _ _ (.inl rfl) e, c⟩
  | dK kvs => obtain ⟨z, y, vs, r, ob, es, ep, e, c⟩ := x; exact ⟨z, y, vs, r, ob, es, ep, k _ _ (.inl rfl) e, c⟩
  | dT kvs =>
    obtain ⟨z, y, xs, r, ob, es, ep, e, c⟩ := x
    exact ⟨z, y, xs, Paired.mapP r fun p q z => ⟨z.1, ht _ _ z.2.1, z.2.2⟩, ob, es, ep, k _ _ (.inl rfl) e, c⟩
  | set S n => obtain ⟨ob, es, ep, t, e, c⟩ := x; exact ⟨ob, es, ep, t, k _ _ (.inl rfl) e, c⟩
  | ins C dx fs =>
    obtain ⟨d, z, ne, e, mA, ⟨od, es, ep, e2, c⟩, r⟩ := x
    exact ⟨ho _ d, z, ne, k _ _ (.inl rfl) e, mA, ⟨od, es, ep, k _ _ (.inr d) e2, c⟩, r⟩
  | own y => obtain ⟨ob, e⟩ := x; exact ⟨ob, k _ _ (.inl rfl) e⟩
  | xd fs => obtain ⟨mA, ⟨od, es, ep, e, c⟩, r⟩ := x; exact ⟨mA, ⟨od, es, ep, k _ _ (.inl rfl) e, c⟩, r⟩
  | rng lo hi => obtain ⟨t, u, v, e⟩ := x; exact ⟨t, u, v, k _ _ (.inl rfl) e⟩
  | frz ob u ih => obtain ⟨e, q⟩ := x; exact ⟨k _ _ (.inl rfl) e, ih q⟩
  | tbl ps =>
    have e : h.get? a = some { cls := .none, data := .fields ps } := x
    show h'.get? a = some { cls := .none, data := .fields ps }
    exact k a _ (.inl rfl) e
  | met f y =>
    have e : h.get? a = some (PySem.W.methodObj (.ref f) (.ref y)) := x
    show h'.get? a = some (PySem.W.methodObj (.ref f) (.ref y))
    exact k a _ (.inl rfl) e
  | ext φ => obtain ⟨p, ⟨o, e⟩, st⟩ := x; exact ⟨st _ _ p fun o q => k _ _ (.inl rfl) q, ⟨o, k _ _ (.inl rfl) e⟩, st⟩
theorem HOk.lt (x : HOk P w H h) (e : H a = some o) : a < h.objs.size := (x a o e).lt
theorem HOk.fresh (x : HOk P w H h) (e : h.objs.size ≤ a) : H a = none := by
  cases q : H a with
  | none => rfl
  | some u => exact absurd (Nat.lt_of_lt_of_le (x.lt q) e) (Nat.lt_irrefl _)
theorem HOk.kept (x : HOk P w H h) (k : ∀ b u, h.get? b = some u → h'.get? b = some u) : HOk P w H h' := fun a o e =>
  (x a o e).stay (fun b u _ q => k b u q) (fun _ q => q) fun _ _ q => q
theorem HOk.laid (x : HOk P w H h) (k : ∀ b u, h.get? b = some u → h'.get? b = some u) (hp : h.objs.size ≤ a) (new : ObjOk P w (upd H a o) h' a o) : HOk P w (upd H a o) h' := fun b u e => by
  have hn := x.fresh hp
  by_cases hb : b = a
  · subst hb; rw [upd_same] at e; cases e; exact new
  · rw [upd_ne hb] at e
    exact (x b u e).stay (fun c v _ q => k c v q) (fun c q => by rw [upd_ne (ne_of_none q hn)]; exact q) fun c xs q => by rw [upd_ne (ne_of_none q hn)]; exact q
end
def Rd (H : Hp) (a : Addr) (u : HO) : Prop := H a = some u ∨ ∃ o, H a = some (.frz o u)
theorem Rd.of {H : Hp} {a : Addr} {u : HO} (h : H a = some u) : Rd H a u := .inl h
theorem Rd.ok {P : Program} {w : World} {H : Hp} {h : Heap} {a : Addr} {u : HO} (r : Rd H a u) (x : HOk P w H h) : ObjOk P w H h a u := by
  rcases r with r | ⟨o, r⟩
  · exact x a u r
  · obtain ⟨_, q⟩ := x a _ r
    exact q
def Mut : Option HO → Prop
  | some (.lst _) => True
  | some (.dK _) => True
  | some (.dT _) => True
  | some (.set _ _) => True
  | some (.ins _ _ _) => True
  | some (.ext _) => True
  | _ => False
section
variable {P : Program} {w : World} {H : Hp} {h h' : Heap} {x e : Addr} {o' : HO}
theorem HOk.write (ok : HOk P w H h) (mu : Mut (H x)) (he : e = x ∨ H e = some (.own x)) (k : ∀ b u, b ≠ e → h.get? b = some u → h'.get? b = some u) (heo : ∃ u, h'.get? e = some u)
    (new : ObjOk P w (upd H x o') h' x o') : HOk P w (upd H x o') h' := fun b u q => by
  have nown : ∀ c y, H c = some (.own y) → c ≠ x := fun c y r z => by subst z; rw [r] at mu; exact mu
  have ntup : ∀ c xs, H c = some (.tup xs) → c ≠ x := fun c xs r z => by subst z; rw [r] at mu; exact mu
  by_cases hb : b = x
  · subst hb; rw [upd_same] at q; cases q; exact new
  · rw [upd_ne hb] at q
    by_cases hbe : b = e
    · have q' : H b = some (.own x) := by
        rcases he with z | z
        · exact absurd (hbe.trans z) hb
        · rw [hbe]; exact z
      rw [q] at q'; cases q'
      obtain ⟨v, hv⟩ := heo
      exact ⟨v, by rw [hbe]; exact hv⟩
    · refine (ok b u q).stay (fun c v hc r => k c v ?_ r) (fun c r => by rw [upd_ne (nown c b r)]; exact r) fun c xs r => by rw [upd_ne (ntup c xs r)]; exact r
      rcases hc with rfl | hc
      · exact hbe
      · rintro rfl
        rcases he with z | z
        · exact nown c b hc z
        · rw [hc] at z; cases z; exact hb rfl
end
structure Un (fs ex : List Addr) (H H' : Hp) (h h' : Heap) : Prop where
  keep : ∀ b o, h.get? b = some o → H b = none → b ∉ fs → b ∉ ex → h'.get? b = some o
  slot : ∀ b o, h.get? b = some o → H b = none → b ∈ fs → b ∉ ex → ∃ sl, h'.get? b = some { o with slots := sl }
  free : ∀ b o, h.get? b = some o → H b = none → b ∉ ex → H' b = none
  there : ∀ b o, h.get? b = some o → b ∉ ex → ∃ o', h'.get? b = some o'
  tups : ∀ b xs, H b = some (.tup xs) → H' b = some (.tup xs)
  frzs : ∀ b o u, H b = some (.frz o u) → H' b = some (.frz o u)
  tbls : ∀ b ps, H b = some (.tbl ps) → ∃ more, H' b = some (.tbl (ps ++ more))
section
variable {fs fs' ex ex' : List Addr} {H H1 H2 : Hp} {h h1 h2 h' : Heap} {a x e : Addr} {o : HO}
theorem Un.any (u : Un fs ex H H1 h h1) {b : Addr} {ob : Obj} (q : h.get? b = some ob) (n : H b = none) (hx : b ∉ ex) : ∃ sl, h1.get? b = some { ob with slots := sl } := by
  by_cases hb : b ∈ fs
  · exact u.slot b ob q n hb hx
  · exact ⟨ob.slots, u.keep b ob q n hb hx⟩
theorem Un.trans (a : Un fs ex H H1 h h1) (b : Un fs ex H1 H2 h1 h2) : Un fs ex H H2 h h2 where
  keep := fun c ob q n hc hx => b.keep c ob (a.keep c ob q n hc hx) (a.free c ob q n hx) hc hx
  slot := fun c ob q n hc hx => by
    obtain ⟨sl, e1⟩ := a.slot c ob q n hc hx
    obtain ⟨sl', e2⟩ := b.slot c _ e1 (a.free c ob q n hx) hc hx
    exact ⟨sl', e2⟩
  free := fun c ob q n hx => by
    obtain ⟨o', e1⟩ := a.there c ob q hx
    exact b.free c o' e1 (a.free c ob q n hx) hx
  there := fun c ob q hx => by
    obtain ⟨o', e1⟩ := a.there c ob q hx
    exact b.there c o' e1 hx
  tups := fun c xs q => b.tups c xs (a.tups c xs q)
  frzs := fun c ob xs q => b.frzs c ob xs (a.frzs c ob xs q)
  tbls := fun c ps q => by
    obtain ⟨m1, e1⟩ := a.tbls c ps q
    obtain ⟨m2, e2⟩ := b.tbls c _ e1
    exact ⟨m1 ++ m2, by rw [e2, Array.append_assoc]⟩
theorem Un.kept (k : ∀ b u, h.get? b = some u → h'.get? b = some u) : Un fs ex H H h h' :=
  ⟨fun b ob q _ _ _ => k b ob q, fun b ob q _ _ _ => ⟨ob.slots, k b ob q⟩, fun _ _ _ n _ => n, fun b ob q _ => ⟨ob, k b ob q⟩, fun _ _ q => q, fun _ _ _ q => q, fun _ ps q => ⟨#[], by rw [q]; simp⟩⟩
theorem Un.refl : Un fs ex H H h h := Un.kept fun _ _ q => q
theorem Un.laid (k : ∀ b u, h.get? b = some u → h'.get? b = some u) (hp : h.objs.size ≤ a) (hn : H a = none) : Un fs ex H (upd H a o) h h' where
  keep := fun b u q _ _ _ => k b u q
  slot := fun b u q _ _ _ => ⟨u.slots, k b u q⟩
  free := fun b u q n _ => by rw [upd_ne (Nat.ne_of_lt (Nat.lt_of_lt_of_le (Heap.lt_size q) hp))]; exact n
  there := fun b u q _ => ⟨u, k b u q⟩
  tups := fun b xs q => by rw [upd_ne (ne_of_none q hn)]; exact q
  frzs := fun b u xs q => by rw [upd_ne (ne_of_none q hn)]; exact q
  tbls := fun b ps q => ⟨#[], by rw [upd_ne (ne_of_none q hn), q]; simp⟩
theorem Un.write (mu : Mut (H x)) (he : e = x ∨ H e = some (.own x)) (k : ∀ b u, b ≠ e → h.get? b = some u → h'.get? b = some u) (heo : ∃ u, h'.get? e = some u) : Un fs ex H (upd H x o) h h' := by
  have hx : ∀ b, H b = none → b ≠ x := fun b n z => by subst z; rw [n] at mu; exact mu
  have hb : ∀ b, H b = none → b ≠ e := fun b n z => by
    subst z
    rcases he with r | r
    · exact hx b n r
    · rw [n] at r; cases r
  have hm : ∀ b u, H b = some u → ¬ Mut (some u) → b ≠ x := fun b u q nm z => by subst z; rw [q] at mu; exact nm mu
  refine ⟨fun b u q n _ _ => k b u (hb b n) q, fun b u q n _ _ => ⟨u.slots, k b u (hb b n) q⟩, fun b u q n _ => by rw [upd_ne (hx b n)]; exact n, fun b u q _ => ?_,
    fun b xs q => by rw [upd_ne (hm b _ q fun z => z)]; exact q, fun b u xs q => by rw [upd_ne (hm b _ q fun z => z)]; exact q, fun b ps q => ⟨#[], by rw [upd_ne (hm b _ q fun z => z), q]; simp⟩⟩
  by_cases hbe : b = e
  · subst hbe; exact heo
  · exact ⟨u, k b u hbe q⟩
theorem Un.mono (u : Un fs ex H H1 h h1) (hs : ∀ b ∈ fs, b ∈ fs') (hx : ∀ b ∈ ex, b ∈ ex') : Un fs' ex' H H1 h h1 :=
  ⟨fun b ob q n hb he => u.keep b ob q n (fun z => hb (hs b z)) fun z => he (hx b z), fun _ _ q n _ he => u.any q n fun z => he (hx _ z), fun b ob q n he => u.free b ob q n fun z => he (hx b z), fun b ob q he => u.there b ob q fun z => he (hx b z), u.tups, u.frzs, u.tbls⟩
end
def trk (h : Heap) (H : Hp) : List Addr := (List.range h.objs.size).filter fun a => (H a).isSome
def hidT (h : Heap) (H : Hp) : Heap := PySem.W.hideAll h (trk h H)
theorem hidT_size (h : Heap) (H : Hp) : (hidT h H).objs.size = h.objs.size := PySem.W.hideAll_size _ _
theorem hidT_get {h : Heap} {H : Hp} {b : Addr} {o : Obj} (e : h.get? b = some o) (n : H b = none) : (hidT h H).get? b = some o :=
  PySem.W.hideAll_get _ e fun hm => by
    have q : (H b).isSome = true := (List.mem_filter.mp hm).2
    rw [n] at q; simp at q
theorem of_hidT {h : Heap} {H : Hp} {b : Addr} {o : Obj} (e : (hidT h H).get? b = some o) : h.get? b = some o ∧ H b = none := by
  have e' : h.get? b = some o := PySem.W.of_hideAll (trk h H) e
  refine ⟨e', ?_⟩
  cases q : H b with
  | none => rfl
  | some x =>
    have hm : b ∈ trk h H := List.mem_filter.mpr ⟨List.mem_range.mpr (Heap.lt_size e'), by simp [q]⟩
    have z : (hidT h H).get? b = none := PySem.W.hideAll_none (trk h H) hm
    rw [z] at e; cases e
def allNews (g h : Heap) (L : Addr) : List (Addr × Obj) := (List.range h.objs.size).filterMap fun a => if a = L ∨ (g.get? a).isSome = true then none else (h.get? a).map fun o => (a, o)
def rest (g h : Heap) (L d : Addr) : List (Addr × Obj) := (allNews g h L).filter fun p => decide (p.1 ≠ d)
end L2
namespace L2
open PySem PySem.Spec PyProof.Rows
structure Mod (K : PySem.W.Frag) (mg : Str → Option Value) (base : Heap) : Prop where
  kin : K.In base
  glob : base.Ns mainGlobals mg
  blt : ∃ mb, base.Ns builtinsNs mb ∧ ∀ x : Str, x ≠ "__name__" → mb x = bootBuiltins x
  nolimit : base.NoLimit
structure Cx where
  prog : Program
  w : World
  K : PySem.W.Frag
  mg : Str → Option Value
  base : Heap
  A : Around
  N : List Str
  s₀ : Shared
  H₀ : Hp
  env : Env
  outer : List Env
  stack : List Env
  ex : List Addr
  fn : Str → Bool
  calm : Bool
  pn : List (Addr × Obj)
  xe : Value → Shared → Prop
def frs (l : List Env) : List Addr := l.filterMap (·.frame)
abbrev Cx.fs (X : Cx) : List Addr := frs X.outer
def Vis (sc : Scope) (x : Str) : Prop := sc.names.lookup x = some .local ∨ sc.names.lookup x = some .cell ∨ sc.names.lookup x = some .free
def Loc (sc : Scope) (x : Str) : Prop := sc.names.lookup x = some .local ∨ sc.names.lookup x = some .cell
def Look (env : Env) (h : Heap) (m : Str → Option Value) (x : Str) (u : Value) : Prop :=
  (env.kindOf x = some .local ∧ m x = some u) ∨ ((env.kindOf x = some .cell ∨ env.kindOf x = some .free) ∧ ∃ c, env.cells.lookup x = some c ∧ h.IsCell c (some u))
structure Cx.Ok (X : Cx) : Prop where
  mod : Mod X.K X.mg X.base
  kind : X.env.scope.kind = .function
  glob : X.env.globals = mainGlobals
  blt : X.env.builtins = builtinsNs
  above : X.s₀.heap.objs.size ≤ X.env.locals
  inj : ∀ x y c, X.env.cells.lookup x = some c → X.env.cells.lookup y = some c → x = y
  has : ∀ x, (X.env.kindOf x = some .cell ∨ X.env.kindOf x = some .free) → ∃ c, X.env.cells.lookup x = some c
  cab : ∀ x c, X.fn x = true → X.env.cells.lookup x = some c → X.s₀.heap.objs.size ≤ c
  hd : X.calm = true → X.A.handled = none
  frames : X.A.frames = some X.stack
  stk : X.stack = X.outer ∨ (X.stack = X.env :: X.outer ∧ X.env.frame = some X.env.locals)
  exf : ∀ b ∈ X.ex, b ≠ X.env.locals ∧ ∀ x c, X.env.cells.lookup x = some c → c ≠ b
  bs : ∀ b o, X.base.get? b = some o → X.s₀.heap.get? b = some o ∧ X.H₀ b = none
  bsz : X.base.objs.size ≤ X.s₀.heap.objs.size
  noex : ∀ b o, X.base.get? b = some o → b ∉ X.ex
  exfs : ∀ b ∈ X.ex, b ∉ X.fs
  funs : X.s₀.heap.FunFrames X.base X.outer
  frf : ∀ b ∈ X.fs, X.H₀ b = none
structure Inv (X : Cx) (pins : List (Addr × Obj)) (σ : List (Option V)) (H : Hp) (s : Shared) : Prop where
  ok : X.Ok
  os : s.os = X.s₀.os
  bare : AllBare s.gens
  base : Un X.fs X.ex X.H₀ H X.s₀.heap s.heap
  loc : ∃ m, s.heap.Ns X.env.locals m ∧ ∀ (i : Nat) (x : Str) (v : V), X.N[i]? = some x → σ[i]? = some (some v) → Vis X.env.scope x → ∃ u, RelV v u ∧ Look X.env s.heap m x u
  cell : ∀ x c, X.env.cells.lookup x = some c → ∃ v, s.heap.IsCell c v
  free : H X.env.locals = none
  freeC : ∀ x c, X.env.cells.lookup x = some c → H c = none
  pin : ∀ p ∈ X.pn ++ pins, s.heap.get? p.1 = some p.2 ∧ H p.1 = none ∧ p.1 ≠ X.env.locals ∧ p.1 ∉ X.fs ∧ ∀ v, p.2.data ≠ .cell v
  hok : HOk X.prog X.w H s.heap
  len : σ.length = X.N.length
section
variable {X : Cx} {pins : List (Addr × Obj)} {σ : List (Option V)} {H H' : Hp} {s : Shared} {h' : Heap}
theorem Cx.Ok.nofr (ok : X.Ok) {b : Addr} {o : Obj} (e : X.base.get? b = some o) : b ∉ X.fs := fun hb => by
  have := (ok.funs.mem hb).1
  rw [e] at this; cases this
theorem Inv.bs (I : Inv X pins σ H s) : ∀ b o, X.base.get? b = some o → s.heap.get? b = some o ∧ H b = none := fun b o e =>
  ⟨I.base.keep b o (I.ok.bs b o e).1 (I.ok.bs b o e).2 (I.ok.nofr e) (I.ok.noex b o e), I.base.free b o (I.ok.bs b o e).1 (I.ok.bs b o e).2 (I.ok.noex b o e)⟩
theorem Inv.bk (I : Inv X pins σ H s) : ∀ b o, X.base.get? b = some o → s.heap.get? b = some o := fun b o e => (I.bs b o e).1
theorem Inv.mod (I : Inv X pins σ H s) : Mod X.K X.mg X.base := I.ok.mod
theorem Inv.kIn (I : Inv X pins σ H s) : X.K.In s.heap := I.ok.mod.kin.keeps I.bk
theorem Inv.nolimit (I : Inv X pins σ H s) : s.heap.NoLimit := I.ok.mod.nolimit.keeps I.bk
theorem Inv.fr (I : Inv X pins σ H s) : ∃ m, Fr X.base X.env.locals s.heap m :=
  let ⟨m, hn, _⟩ := I.loc
  ⟨m, hn, I.bk, Nat.le_trans I.ok.bsz I.ok.above⟩
theorem Inv.lt (I : Inv X pins σ H s) : X.env.locals < s.heap.objs.size := let ⟨_, hn, _⟩ := I.loc; hn.lt
theorem Inv.sz (I : Inv X pins σ H s) : X.s₀.heap.objs.size ≤ s.heap.objs.size := Nat.le_trans I.ok.above (Nat.le_of_lt I.lt)
theorem Inv.nofs (I : Inv X pins σ H s) {a : Addr} (h : s.heap.objs.size ≤ a) : a ∉ X.fs := fun hb => by
  obtain ⟨_, o, ho, _⟩ := I.ok.funs.mem hb
  exact absurd (Nat.lt_of_lt_of_le (Heap.lt_size ho) (Nat.le_trans I.sz h)) (Nat.lt_irrefl _)
theorem Inv.cne (I : Inv X pins σ H s) : ∀ x c, X.env.cells.lookup x = some c → c ≠ X.env.locals := fun x c e z => by
  obtain ⟨v, o, ho, hd⟩ := I.cell x c e
  obtain ⟨m, ⟨o', es, ep, ho', hd', _⟩, _⟩ := I.loc
  rw [z, ho'] at ho; cases ho; rw [hd'] at hd; cases hd
theorem Inv.funs (I : Inv X pins σ H s) : s.heap.FunFrames X.base X.outer := by
  have all : ∀ (l : List Env), (∀ b ∈ frs l, b ∈ X.fs) → X.s₀.heap.FunFrames X.base l → s.heap.FunFrames X.base l := by
    intro l
    induction l with
    | nil => intro _ _; trivial
    | cons env r ih =>
      intro hs hl
      obtain ⟨hk, ⟨L, o, hf, hn, ho, hd⟩, hr⟩ := hl
      have hL : L ∈ X.fs := hs L (by unfold frs; rw [List.filterMap_cons, hf]; exact List.mem_cons_self)
      obtain ⟨sl, e⟩ := I.base.slot L o ho (I.ok.frf L hL) hL fun z => I.ok.exfs L z hL
      exact ⟨hk, ⟨L, _, hf, hn, e, hd⟩, ih (fun b hb => hs b (by unfold frs; rw [List.filterMap_cons, hf]; exact List.mem_cons_of_mem _ hb)) hr⟩
  exact all X.outer (fun _ hb => hb) I.ok.funs
theorem Inv.stack (I : Inv X pins σ H s) : s.heap.FunFrames X.base X.stack := by
  rcases I.ok.stk with e | ⟨e, hf⟩
  · rw [e]; exact I.funs
  · rw [e]
    obtain ⟨m, hn, _⟩ := I.loc
    refine .cons (by rw [I.ok.kind]; decide) hf hn ?_ I.funs
    exact Heap.get?_none_of_le (Nat.le_trans I.ok.bsz I.ok.above)
theorem Inv.stkSub (I : Inv X pins σ H s) : ∀ b ∈ frs X.stack, b ∈ X.env.locals :: X.fs := fun b hb => by
  rcases I.ok.stk with e | ⟨e, hf⟩
  · rw [e] at hb; exact List.mem_cons_of_mem _ hb
  · rw [e] at hb
    unfold frs at hb
    rw [List.filterMap_cons, hf] at hb
    exact hb
theorem Inv.stkFree (I : Inv X pins σ H s) : ∀ b ∈ frs X.stack, H b = none := fun b hb => by
  rcases List.mem_cons.mp (I.stkSub b hb) with e | hb
  · rw [e]; exact I.free
  · obtain ⟨_, o, ho, _⟩ := I.ok.funs.mem hb
    exact I.base.free b o ho (I.ok.frf b hb) fun z => I.ok.exfs b z hb
theorem Inv.step {g' : Array GenState} {t' : Nat} {d' : Drawn} {ch : List Addr} (I : Inv X pins σ H s)
    (hch : ∀ b ∈ ch, (b ∈ X.ex ∨ X.s₀.heap.objs.size ≤ b) ∧ b ≠ X.env.locals ∧ (∀ x c, X.env.cells.lookup x = some c → c ≠ b) ∧ ∀ p ∈ X.pn ++ pins, p.1 ≠ b)
    (keep : ∀ b o, b ≠ X.env.locals → b ∉ X.fs → b ∉ ch → s.heap.get? b = some o → H b = none → h'.get? b = some o)
    (slot : ∀ b o, b ≠ X.env.locals → b ∈ X.fs → b ∉ ch → s.heap.get? b = some o → H b = none → ∃ sl, h'.get? b = some { o with slots := sl }) (free : ∀ b o, b ∉ ch → s.heap.get? b = some o → H b = none → H' b = none)
    (there : ∀ b o, b ∉ ch → s.heap.get? b = some o → ∃ o', h'.get? b = some o')
    (tups : ∀ b xs, H b = some (.tup xs) → H' b = some (.tup xs)) (frzs : ∀ b o u, H b = some (.frz o u) → H' b = some (.frz o u)) (tbls : ∀ b ps, H b = some (.tbl ps) → ∃ more, H' b = some (.tbl (ps ++ more)))
    (ns : ∀ m, s.heap.Ns X.env.locals m → h'.Ns X.env.locals m) (hok : HOk X.prog X.w H' h') (hg : AllBare g') :
    Inv X pins σ H' { s with heap := h', gens := g', drawn := d', toks := t' } := by
  have neL : ∀ b o, X.s₀.heap.get? b = some o → b ≠ X.env.locals := fun b o e => Nat.ne_of_lt (Nat.lt_of_lt_of_le (Heap.lt_size e) I.ok.above)
  have neC : ∀ b o, X.s₀.heap.get? b = some o → b ∉ X.ex → b ∉ ch := fun b o e hx hb => by
    rcases (hch b hb).1 with z | z
    · exact hx z
    · exact absurd (Nat.lt_of_lt_of_le (Heap.lt_size e) z) (Nat.lt_irrefl _)
  have cellK : ∀ x c, X.env.cells.lookup x = some c → ∀ v, s.heap.IsCell c v → h'.IsCell c v := fun x c e v ⟨o, ho, hd⟩ => by
    have nch : c ∉ ch := fun z => (hch c z).2.2.1 x c e rfl
    by_cases hc : c ∈ X.fs
    · obtain ⟨sl, q⟩ := slot c o (I.cne x c e) hc nch ho (I.freeC x c e)
      exact ⟨_, q, hd⟩
    · exact ⟨o, keep c o (I.cne x c e) hc nch ho (I.freeC x c e), hd⟩
  refine ⟨I.ok, I.os, hg, ⟨fun b o e n hb hx => ?_, fun b o e n hb hx => ?_, fun b o e n hx => ?_, fun b o e hx => ?_, fun b xs e => tups b xs (I.base.tups b xs e), fun b o xs e => frzs b o xs (I.base.frzs b o xs e), fun b ps e => ?_⟩, ?_, fun x c e => ?_, ?_, fun x c e => ?_, fun p hp => ?_, hok, I.len⟩
  · exact keep b o (neL b o e) hb (neC b o e hx) (I.base.keep b o e n hb hx) (I.base.free b o e n hx)
  · obtain ⟨sl, e1⟩ := I.base.slot b o e n hb hx
    obtain ⟨sl', e2⟩ := slot b _ (neL b o e) hb (neC b o e hx) e1 (I.base.free b o e n hx)
    exact ⟨sl', e2⟩
  · obtain ⟨o', e1⟩ := I.base.there b o e hx
    exact free b o' (neC b o e hx) e1 (I.base.free b o e n hx)
  · obtain ⟨o', e1⟩ := I.base.there b o e hx
    exact there b o' (neC b o e hx) e1
  · obtain ⟨m1, e1⟩ := I.base.tbls b ps e
    obtain ⟨m2, e2⟩ := tbls b _ e1
    exact ⟨m1 ++ m2, by rw [e2, Array.append_assoc]⟩
  · obtain ⟨m, hn, hl⟩ := I.loc
    refine ⟨m, ns m hn, fun i x v e1 e2 e3 => ?_⟩
    obtain ⟨u, r, l⟩ := hl i x v e1 e2 e3
    refine ⟨u, r, ?_⟩
    rcases l with l | ⟨k, c, e, z⟩
    · exact .inl l
    · exact .inr ⟨k, c, e, cellK x c e _ z⟩
  · obtain ⟨v, z⟩ := I.cell x c e
    exact ⟨v, cellK x c e v z⟩
  · obtain ⟨m, ⟨o, _, _, ho, _⟩, _⟩ := I.loc
    exact free _ o (fun z => (hch _ z).2.1 rfl) ho I.free
  · obtain ⟨v, o, ho, hd⟩ := I.cell x c e
    exact free c o (fun z => (hch c z).2.2.1 x c e rfl) ho (I.freeC x c e)
  · obtain ⟨e, n, ne, nf, d⟩ := I.pin p hp
    have nch : p.1 ∉ ch := fun z => (hch p.1 z).2.2.2 p hp rfl
    exact ⟨keep p.1 p.2 ne nf nch e n, free p.1 p.2 nch e n, ne, nf, d⟩
theorem Inv.un {t' : Nat} (I : Inv X pins σ H s) (u : Un X.fs [] H H' s.heap h') (hok : HOk X.prog X.w H' h') : Inv X pins σ H' { s with heap := h', toks := t' } := by
  obtain ⟨m, ⟨o, es, ep, ho, r⟩, _⟩ := id I.loc
  obtain ⟨sl, hL⟩ := u.any ho I.free (by simp)
  exact I.step (g' := s.gens) (d' := s.drawn) (ch := []) (fun _ z => nomatch z) (fun b o _ hb _ e n => u.keep b o e n hb (by simp)) (fun b o _ hb _ e n => u.slot b o e n hb (by simp)) (fun b o _ e n => u.free b o e n (by simp)) (fun b o _ e => u.there b o e (by simp)) u.tups u.frzs u.tbls (fun m' hm => by
    obtain ⟨o', es', ep', ho', r'⟩ := hm
    rw [ho] at ho'; cases ho'
    exact ⟨_, es', ep', hL, r'⟩) hok I.bare
theorem Inv.call {g' : Array GenState} {t' : Nat} {d' : Drawn} {ch : List Addr} (I : Inv X pins σ H s) (u : Un (frs X.stack) ch H H' s.heap h') (hok : HOk X.prog X.w H' h') (hg : AllBare g')
    (hch : ∀ b ∈ ch, (b ∈ X.ex ∨ X.s₀.heap.objs.size ≤ b) ∧ b ≠ X.env.locals ∧ (∀ x c, X.env.cells.lookup x = some c → c ≠ b) ∧ ∀ p ∈ X.pn ++ pins, p.1 ≠ b) :
    Inv X pins σ H' { s with heap := h', gens := g', drawn := d', toks := t' } := by
  obtain ⟨m, ⟨o, es, ep, ho, r⟩, _⟩ := id I.loc
  obtain ⟨sl, hL⟩ := u.any ho I.free fun z => (hch _ z).2.1 rfl
  exact I.step (ch := ch) hch (fun b o hL hb hc e n => u.keep b o e n (fun z => (List.mem_cons.mp (I.stkSub b z)).elim hL hb) hc) (fun b o _ _ hc e n => u.any e n hc) (fun b o hc e n => u.free b o e n hc) (fun b o hc e => u.there b o e hc) u.tups u.frzs u.tbls (fun m' hm => by
    obtain ⟨o', es', ep', ho', r'⟩ := hm
    rw [ho] at ho'; cases ho'
    exact ⟨_, es', ep', hL, r'⟩) hok hg
theorem Inv.turned {t' : Nat} {it : Addr} (I : Inv X pins σ H s) (k : ∀ b o, b ≠ it → s.heap.get? b = some o → h'.get? b = some o) (hn : H it = none) (hL : it ≠ X.env.locals)
    (h1 : it ∈ X.ex ∨ X.s₀.heap.objs.size ≤ it) (h2 : ∀ x c, X.env.cells.lookup x = some c → c ≠ it) (h3 : ∀ p ∈ X.pn ++ pins, p.1 ≠ it) : Inv X pins σ H { s with heap := h', toks := t' } := by
  have nit : ∀ b u, H b = some u → b ≠ it := fun b u e z => by rw [z, hn] at e; cases e
  refine I.step (g' := s.gens) (d' := s.drawn) (ch := [it]) (fun b hb => ?_) (fun b o _ _ hc e _ => k b o (fun z => hc (by simp [z])) e) (fun b o _ _ hc e _ => ⟨o.slots, k b o (fun z => hc (by simp [z])) e⟩) (fun _ _ _ _ n => n)
    (fun b o hc e => ⟨o, k b o (fun z => hc (by simp [z])) e⟩) (fun _ _ e => e) (fun _ _ _ e => e) (fun b ps e => ⟨#[], by rw [e]; simp⟩) (fun m hm => ?_) (fun b u e => ?_) I.bare
  · have e : b = it := by simpa using hb
    subst e
    exact ⟨h1, hL, h2, h3⟩
  · obtain ⟨o, es, ep, ho, r⟩ := hm
    exact ⟨o, es, ep, k _ o (Ne.symm hL) ho, r⟩
  · refine (I.hok b u e).stay (fun c v hc q => k c v ?_ q) (fun _ q => q) fun _ _ q => q
    rcases hc with z | z
    · rw [z]; exact nit b u e
    · exact nit c _ z
theorem Inv.tok (I : Inv X pins σ H s) (t : Nat) : Inv X pins σ H { s with toks := t } := I.un (h' := s.heap) (t' := t) Un.refl I.hok
theorem Inv.kept {t' : Nat} (I : Inv X pins σ H s) (k : ∀ b u, s.heap.get? b = some u → h'.get? b = some u) : Inv X pins σ H { s with heap := h', toks := t' } := I.un (Un.kept k) (I.hok.kept k)
theorem Inv.laid {a : Addr} {o : HO} {t' : Nat} (I : Inv X pins σ H s) (k : ∀ b u, s.heap.get? b = some u → h'.get? b = some u) (hp : s.heap.objs.size ≤ a) (new : ObjOk X.prog X.w (upd H a o) h' a o) :
    Inv X pins σ (upd H a o) { s with heap := h', toks := t' } := I.un (Un.laid k hp (I.hok.fresh hp)) (I.hok.laid k hp new)
theorem Inv.write {x e : Addr} {o : HO} {t' : Nat} (I : Inv X pins σ H s) (mu : Mut (H x)) (he : e = x ∨ H e = some (.own x)) (k : ∀ b u, b ≠ e → s.heap.get? b = some u → h'.get? b = some u) (heo : ∃ u, h'.get? e = some u)
    (new : ObjOk X.prog X.w (upd H x o) h' x o) : Inv X pins σ (upd H x o) { s with heap := h', toks := t' } := I.un (Un.write mu he k heo) (I.hok.write mu he k heo new)
theorem Inv.weak {σ' : List (Option V)} (I : Inv X pins σ H s) (hl : σ'.length = σ.length) (w : ∀ (i : Nat) v, σ'[i]? = some (some v) → σ[i]? = some (some v)) : Inv X pins σ' H s :=
  ⟨I.ok, I.os, I.bare, I.base, let ⟨m, hn, hl'⟩ := I.loc; ⟨m, hn, fun i x v e1 e2 e3 => hl' i x v e1 (w i v e2) e3⟩, I.cell, I.free, I.freeC, I.pin, I.hok, hl.trans I.len⟩
theorem Inv.pins_of {pins' : List (Addr × Obj)} (I : Inv X pins σ H s) (h : ∀ p ∈ pins', s.heap.get? p.1 = some p.2 ∧ H p.1 = none ∧ p.1 ≠ X.env.locals ∧ p.1 ∉ X.fs ∧ ∀ v, p.2.data ≠ .cell v) : Inv X pins' σ H s :=
  ⟨I.ok, I.os, I.bare, I.base, I.loc, I.cell, I.free, I.freeC, fun p hp => (List.mem_append.mp hp).elim (fun z => I.pin p (List.mem_append_left _ z)) (h p), I.hok, I.len⟩
theorem nodup_ix {N : List Str} (hN : N.Nodup) {i j : Nat} {x : Str} (a : N[i]? = some x) (b : N[j]? = some x) : i = j := by
  obtain ⟨h1, e1⟩ := List.getElem?_eq_some_iff.mp a
  obtain ⟨h2, e2⟩ := List.getElem?_eq_some_iff.mp b
  exact (List.getElem_inj hN).mp (e1.trans e2.symm)
theorem store_ok2 {M : Model} {A : Around} {E : Value → Shared → Prop} {i : Nat} {x : Str} {v : V} {u : Value} {Q : Unit → Shared → Prop} (I : Inv X pins σ H s) (hN : X.N.Nodup) (hi : X.N[i]? = some x) (hx : Loc X.env.scope x) (r : RelV v u)
    (h : ∀ s', Inv X pins (σ.set i (some v)) H s' → (∃ a, Heap.SameBut a s.heap s'.heap ∧ (a = X.env.locals ∨ X.env.cells.lookup x = some a)) → Q () s') (hf : X.fn x = true ∨ X.env.scope.names.lookup x = some .local := by first | exact .inl rfl | exact .inr rfl | assumption) : wpAny M A (storeName X.env x u) Q E s := by
  obtain ⟨m, hn, hl⟩ := id I.loc
  have hcls : (X.env.scope.kind == .class || (X.env.scope.kind == .module && X.env.locals != X.env.globals)) = false := by rw [I.ok.kind]; rfl
  have hiσ : i < σ.length := by rw [I.len]; exact (List.getElem?_eq_some_iff.mp hi).1
  have cne := I.cne
  have tracked : ∀ {a : Addr} {h' : Heap}, (∃ o, s.heap.get? a = some o ∧ H a = none) → Heap.SameBut a s.heap h' → HOk X.prog X.w H h' := fun {a h'} ha hs b ob e => by
    obtain ⟨_, _, hfree⟩ := ha
    refine (I.hok b ob e).stay (fun c w' hc q => (hs.2 c ?_).trans q) (fun _ q => q) fun _ _ q => q
    rintro rfl
    rcases hc with rfl | hc
    · rw [hfree] at e; cases e
    · rw [hfree] at hc; cases hc
  rcases hx with hk | hk
  · refine wpAny_storeName_local hk hn (fun h' hn' hs => ?_) hcls
    obtain ⟨oL, _, _, hoL, _⟩ := id hn
    refine h _ ⟨I.ok, I.os, I.bare, ⟨fun b o e n hb hx => ?_, fun b o e n hb hx => ?_, I.base.free, fun b o e hx => ?_, I.base.tups, I.base.frzs, I.base.tbls⟩, ⟨_, hn', fun j y v' e1 e2 e3 => ?_⟩, fun y c e => ?_, I.free, I.freeC, fun p hp => ?_, tracked ⟨oL, hoL, I.free⟩ hs, by simpa using I.len⟩ ⟨_, hs, .inl rfl⟩
    · exact (hs.2 b (Nat.ne_of_lt (Nat.lt_of_lt_of_le (Heap.lt_size e) I.ok.above))).trans (I.base.keep b o e n hb hx)
    · obtain ⟨sl, e1⟩ := I.base.slot b o e n hb hx
      exact ⟨sl, (hs.2 b (Nat.ne_of_lt (Nat.lt_of_lt_of_le (Heap.lt_size e) I.ok.above))).trans e1⟩
    · obtain ⟨o', e1⟩ := I.base.there b o e hx
      exact ⟨o', (hs.2 b (Nat.ne_of_lt (Nat.lt_of_lt_of_le (Heap.lt_size e) I.ok.above))).trans e1⟩
    · by_cases hj : j = i
      · subst hj
        rw [hi] at e1; cases e1
        rw [List.getElem?_set_self hiσ] at e2
        cases e2
        exact ⟨u, r, .inl ⟨hk, by simp⟩⟩
      · rw [List.getElem?_set_ne (Ne.symm hj)] at e2
        obtain ⟨u', r', q⟩ := hl j y v' e1 e2 e3
        refine ⟨u', r', ?_⟩
        rcases q with ⟨k, e⟩ | ⟨k, c, e, z⟩
        · refine .inl ⟨k, ?_⟩
          have : y ≠ x := fun e => hj (nodup_ix hN e1 (e ▸ hi))
          simp [this, e]
        · exact .inr ⟨k, c, e, z.sameBut hs (cne y c e)⟩
    · obtain ⟨w', z⟩ := I.cell y c e
      exact ⟨w', z.sameBut hs (cne y c e)⟩
    · obtain ⟨e, n, ne, nf, d⟩ := I.pin p hp
      exact ⟨(hs.2 p.1 ne).trans e, n, ne, nf, d⟩
  · have hfn : X.fn x = true := by
      rcases hf with z | z
      · exact z
      · rw [z] at hk; cases hk
    obtain ⟨c, hc⟩ := I.ok.has x (.inl hk)
    obtain ⟨w', z⟩ := I.cell x c hc
    refine wpAny_storeName_cell I.ok.kind hk hc z (fun h' hc' hs => ?_)
    obtain ⟨oc, hoc, hocd⟩ := id z
    refine h { s with heap := h' } ⟨I.ok, I.os, I.bare, ⟨fun b o e n hb hx => ?_, fun b o e n hb hx => ?_, I.base.free, fun b o e hx => ?_, I.base.tups, I.base.frzs, I.base.tbls⟩, ⟨m, hn.sameBut hs (Ne.symm (cne x c hc)), fun j y v' e1 e2 e3 => ?_⟩, fun y c' e => ?_, I.free, I.freeC, fun p hp => ?_, tracked ⟨oc, hoc, I.freeC x c hc⟩ hs, by simpa using I.len⟩ ⟨c, hs, .inr hc⟩
    · exact (hs.2 b (Nat.ne_of_lt (Nat.lt_of_lt_of_le (Heap.lt_size e) (I.ok.cab x c hfn hc)))).trans (I.base.keep b o e n hb hx)
    · obtain ⟨sl, e1⟩ := I.base.slot b o e n hb hx
      exact ⟨sl, (hs.2 b (Nat.ne_of_lt (Nat.lt_of_lt_of_le (Heap.lt_size e) (I.ok.cab x c hfn hc)))).trans e1⟩
    · obtain ⟨o', e1⟩ := I.base.there b o e hx
      exact ⟨o', (hs.2 b (Nat.ne_of_lt (Nat.lt_of_lt_of_le (Heap.lt_size e) (I.ok.cab x c hfn hc)))).trans e1⟩
    · by_cases hj : j = i
      · subst hj
        rw [hi] at e1; cases e1
        rw [List.getElem?_set_self hiσ] at e2
        cases e2
        exact ⟨u, r, .inr ⟨.inl hk, c, hc, hc'⟩⟩
      · rw [List.getElem?_set_ne (Ne.symm hj)] at e2
        obtain ⟨u', r', q⟩ := hl j y v' e1 e2 e3
        refine ⟨u', r', ?_⟩
        rcases q with q | ⟨k, c', e, z'⟩
        · exact .inl q
        · refine .inr ⟨k, c', e, z'.sameBut hs ?_⟩
          rintro rfl
          exact hj (nodup_ix hN e1 (I.ok.inj _ _ _ e hc ▸ hi))
    · by_cases hcc : c' = c
      · subst hcc; exact ⟨_, hc'⟩
      · obtain ⟨w2, z2⟩ := I.cell y c' e
        exact ⟨w2, z2.sameBut hs hcc⟩
    · obtain ⟨e, n, ne, nf, d⟩ := I.pin p hp
      refine ⟨(hs.2 p.1 ?_).trans e, n, ne, nf, d⟩
      intro q
      rw [q, hoc] at e
      have q' : oc = p.2 := Option.some.inj e
      exact d w' (by rw [← q']; exact hocd)
theorem store_ok {M : Model} {A : Around} {E : Value → Shared → Prop} {i : Nat} {x : Str} {v : V} {u : Value} {Q : Unit → Shared → Prop} (I : Inv X pins σ H s) (hN : X.N.Nodup) (hi : X.N[i]? = some x) (hx : Loc X.env.scope x) (r : RelV v u)
    (h : ∀ s', Inv X pins (σ.set i (some v)) H s' → Q () s') (hf : X.fn x = true ∨ X.env.scope.names.lookup x = some .local := by first | exact .inl rfl | exact .inr rfl | assumption) : wpAny M A (storeName X.env x u) Q E s :=
  store_ok2 I hN hi hx r (fun s' I' _ => h s' I') hf
theorem Inv.call' {s' : Shared} {ch : List Addr} (I : Inv X pins σ H s) (ho : s'.os = s.os) (u : Un (frs X.stack) ch H H' s.heap s'.heap) (hok : HOk X.prog X.w H' s'.heap) (hg : AllBare s'.gens)
    (hch : ∀ b ∈ ch, (b ∈ X.ex ∨ X.s₀.heap.objs.size ≤ b) ∧ b ≠ X.env.locals ∧ (∀ x c, X.env.cells.lookup x = some c → c ≠ b) ∧ ∀ p ∈ X.pn ++ pins, p.1 ≠ b) : Inv X pins σ H' s' := by
  obtain ⟨h', g', d', t', o'⟩ := s'
  have e : o' = s.os := ho
  subst e
  exact I.call (g' := g') (t' := t') (d' := d') u hok hg hch
end
abbrev XK := Value → Option Addr → Hp → Prop
abbrev St := List (Option V)
abbrev VK := V → Hp → Prop
abbrev TE := St → Hp → VK → Prop
abbrev TT := St → Hp → (Bool → Hp → Prop) → Prop
abbrev TA := St → Hp → (List V → Hp → Prop) → Prop
structure Ends where
  nx : St → Hp → Prop
  rt : VK
  bk : St → Hp → Prop := fun _ _ => False
  ct : St → Hp → Prop := fun _ _ => False
abbrev TS := Ends → St → Hp → Prop
def EP (X : Cx) (pins : List (Addr × Obj)) (σ : St) (Q : VK) (u : Value) (s' : Shared) : Prop := ∃ v H', Inv X pins σ H' s' ∧ RelV v u ∧ Q v H'
def TP (X : Cx) (pins : List (Addr × Obj)) (σ : St) (Q : Bool → Hp → Prop) (b : Bool) (s' : Shared) : Prop := ∃ H', Inv X pins σ H' s' ∧ Q b H'
def AP (X : Cx) (pins : List (Addr × Obj)) (σ : St) (Q : List V → Hp → Prop) (us : List Value) (s' : Shared) : Prop := ∃ vs H', Inv X pins σ H' s' ∧ Vals vs us ∧ Q vs H'
def SP (X : Cx) (pins : List (Addr × Obj)) (D : Ends) (f : Flow) (s' : Shared) : Prop :=
  match f with
  | .next => ∃ σ' H', Inv X pins σ' H' s' ∧ D.nx σ' H'
  | .brk => ∃ σ' H', Inv X pins σ' H' s' ∧ D.bk σ' H'
  | .cont => ∃ σ' H', Inv X pins σ' H' s' ∧ D.ct σ' H'
  | .ret u => ∃ v σ' H', Inv X pins σ' H' s' ∧ RelV v u ∧ D.rt v H'
def PE (X : Cx) (e : Expr) (t : TE) : Prop :=
  ∀ (pins : List (Addr × Obj)) (s : Shared) (σ : St) (H : Hp) (Q : VK), Inv X pins σ H s → t σ H Q → wpAny (model X.prog X.w) X.A (eval e X.env) (EP X pins σ Q) X.xe s
def PT (X : Cx) (e : Expr) (t : TT) : Prop :=
  ∀ (pins : List (Addr × Obj)) (s : Shared) (σ : St) (H : Hp) (Q : Bool → Hp → Prop), Inv X pins σ H s → t σ H Q → wpAny (model X.prog X.w) X.A (isTrue e X.env (eval e X.env)) (TP X pins σ Q) X.xe s
def PW (X : Cx) (e : Expr) (t : TT) : Prop :=
  ∀ (whole : Sem Value) (pins : List (Addr × Obj)) (s : Shared) (σ : St) (H : Hp) (Q : Bool → Hp → Prop), Inv X pins σ H s → t σ H Q → wpAny (model X.prog X.w) X.A (isTrue e X.env whole) (TP X pins σ Q) X.xe s
theorem PW.pt {X : Cx} {e : Expr} {t : TT} (h : PW X e t) : PT X e t := h _
def PA (X : Cx) (es : List Expr) (t : TA) : Prop :=
  ∀ (pos : Pos) (pins : List (Addr × Obj)) (s : Shared) (σ : St) (H : Hp) (Q : List V → Hp → Prop), Inv X pins σ H s → t σ H Q → wpAny (model X.prog X.w) X.A (spliced (backTo pos (starEach es X.env))) (AP X pins σ Q) X.xe s
def PS (X : Cx) (st : Stmt) (t : TS) : Prop :=
  ∀ (pins : List (Addr × Obj)) (s : Shared) (σ : St) (H : Hp) (D : Ends), Inv X pins σ H s → t D σ H → wpAny (model X.prog X.w) X.A (exec st X.env) (SP X pins D) X.xe s
def PSs (X : Cx) (st : List Stmt) (t : TS) : Prop :=
  ∀ (pins : List (Addr × Obj)) (s : Shared) (σ : St) (H : Hp) (D : Ends), Inv X pins σ H s → t D σ H → wpAny (model X.prog X.w) X.A (execs st X.env) (SP X pins D) X.xe s
theorem thn {α : Type} {t : Sem α} {Q Q' : α → Shared → Prop} {M : Model} {A : Around} {E : Value → Shared → Prop} {s : Shared} (h : wpAny M A t Q E s) (hQ : ∀ a s, Q a s → Q' a s) : wpAny M A t Q' E s := wpAny_mono h hQ fun _ _ x => x
end L2
namespace L2
open PySem PySem.Spec PyProof.Rows
section
variable {X : Cx}
def tVar (i : Nat) : TE := fun σ H Q => ∃ v, σ[i]? = some (some v) ∧ Q v H
def tC (v : V) : TE := fun _ H Q => Q v H
theorem pe_var {i : Nat} {x : Str} {pos : Pos} (hN : X.N[i]? = some x) (hv : Vis X.env.scope x) (hd : (x == ("__debug__" : Str)) = false := by decide) (hcd : (x == ("__classdict__" : Str)) = false := by decide) : PE X (.Name x pos) (tVar i) := by
  intro pins s σ H Q I h
  obtain ⟨v, e, h⟩ := h
  obtain ⟨m, hn, hl⟩ := I.loc
  obtain ⟨u, r, l⟩ := hl i x v hN e hv
  have fin : EP X pins σ Q u s := ⟨v, H, I, r, h⟩
  rcases l with ⟨hk, hm⟩ | ⟨hk, c, hc, hcell⟩
  · exact wpAny_Name (wpAny_loadName_local I.ok.kind hk hn hm fin) hd
  · rcases hk with hk | hk
    · exact wpAny_Name (wpAny_loadName_cell I.ok.kind hk hc hcell fin) hd
    · exact wpAny_Name (wpAny_loadName_free I.ok.kind hk hc hcell fin hcd) hd
theorem pe_int {i j pos} : PE X (.Constant (.int i) j pos) (tC (.int i)) := fun _ _ _ H _ I h => wpAny_Constant_int ⟨.int i, H, I.tok _, ⟨_, rfl⟩, h⟩
theorem pe_bl {b j pos} : PE X (.Constant (.bool b) j pos) (tC (.bl b)) := fun _ _ _ H _ I h => Constant_bool ⟨.bl b, H, I, rfl, h⟩
theorem pe_non {j pos} : PE X (.Constant .none j pos) (tC .non) := fun _ _ _ H _ I h => Constant_none ⟨.non, H, I, rfl, h⟩
theorem pe_str {x j pos} : PE X (.Constant (.str x) j pos) (tC (.str x)) := fun _ _ _ H _ I h => Calls.Constant_str ⟨.str x, H, I.tok _, ⟨_, rfl⟩, h⟩
def Gl (X : Cx) (x : Str) : Prop := X.env.kindOf x = some .globalImplicit
theorem ld_glob {E : Value → Shared → Prop} {pins : List (Addr × Obj)} {s : Shared} {σ : St} {H : Hp} {x : Str} {u : Value} {pos : Pos} {Q : Value → Shared → Prop} (I : Inv X pins σ H s) (hg : Gl X x) (hm : X.mg x = some u) (h : Q u s)
    (hd : (x == ("__debug__" : Str)) = false := by decide) : wpAny (model X.prog X.w) X.A (eval (.Name x pos) X.env) Q E s :=
  Calls.Name_function_global I.ok.kind hg (Calls.loadGlobal_global (by rw [I.ok.glob]; exact I.mod.glob.keeps I.bk) hm h) hd
theorem ld_blt {E : Value → Shared → Prop} {pins : List (Addr × Obj)} {s : Shared} {σ : St} {H : Hp} {x : Str} {u : Value} {pos : Pos} {Q : Value → Shared → Prop} (I : Inv X pins σ H s) (hg : Gl X x) (hm : X.mg x = none) (hv : bootBuiltins x = some u) (h : Q u s)
    (hn : x ≠ "__name__" := by decide) (hd : (x == ("__debug__" : Str)) = false := by decide) : wpAny (model X.prog X.w) X.A (eval (.Name x pos) X.env) Q E s := by
  obtain ⟨mb, h1, h2⟩ := I.mod.blt
  exact Calls.Name_function_global I.ok.kind hg (Calls.loadGlobal_builtin (by rw [I.ok.glob]; exact I.mod.glob.keeps I.bk) hm (by rw [I.ok.blt]; exact h1.keeps I.bk) ((h2 x hn).trans hv) h) hd
theorem pe_glob {x : Str} {v : V} {u : Value} {pos : Pos} (hg : Gl X x) (hm : X.mg x = some u) (r : RelV v u) (hd : (x == ("__debug__" : Str)) = false := by decide) : PE X (.Name x pos) (tC v) :=
  fun _ _ _ H _ I h => ld_glob I hg hm ⟨v, H, I, r, h⟩ hd
theorem pe_bltn {x : Str} {v : V} {u : Value} {pos : Pos} (hg : Gl X x) (hm : X.mg x = none) (hv : bootBuiltins x = some u) (r : RelV v u) (hn : x ≠ "__name__" := by decide) (hd : (x == ("__debug__" : Str)) = false := by decide) : PE X (.Name x pos) (tC v) :=
  fun _ _ _ H _ I h => ld_blt I hg hm hv ⟨v, H, I, r, h⟩ hn hd
variable {a b : Expr} {ta tb : TE} {pos : Pos}
def tB (t : TE) : TT := fun σ H Q => t σ H fun x H1 => ∃ c, x = .bl c ∧ Q c H1
theorem pt_val {e : Expr} {t : TE} (h : PE X e t) (he : ∀ whole, isTrue e X.env whole = (do let v ← whole; standAt e.pos; holding [v] (truthy v)) := by intro _; rfl) : PT X e (tB t) := by
  intro pins s σ H Q I hw
  refine isTrue_plain (thn (h pins s σ H _ I hw) fun v s1 ⟨x, H1, I1, r1, q1⟩ => ?_) (he _)
  obtain ⟨d, rfl, q⟩ := q1
  cases r1
  exact wpAny_truthy_bool ⟨H1, I1, q⟩
variable {tA tB' : TT} {rest : List Expr}
def tAnd (t u : TT) : TT := fun σ H Q => t σ H fun c H1 => if c = true then u σ H1 Q else Q false H1
def tOr (t u : TT) : TT := fun σ H Q => t σ H fun c H1 => if c = true then Q true H1 else u σ H1 Q
def tNot (t : TT) : TT := fun σ H Q => t σ H fun c H1 => Q (!c) H1
theorem pw_and1 (ha : PT X a tA) : PW X (.BoolOp .And [a] pos) tA := by
  intro wh pins s σ H Q I h
  refine isTrue_and (thn (ha pins s σ H Q I h) fun c s1 e => ?_)
  cases c with
  | true => exact isTrue_and_nil e
  | false => exact e
theorem pw_or1 (ha : PT X a tA) : PW X (.BoolOp .Or [a] pos) tA := by
  intro wh pins s σ H Q I h
  refine isTrue_or (thn (ha pins s σ H Q I h) fun c s1 e => ?_)
  cases c with
  | false => exact isTrue_or_nil e
  | true => exact e
theorem pw_and (ha : PT X a tA) (hb : PW X (.BoolOp .And (b :: rest) pos) tB') : PW X (.BoolOp .And (a :: b :: rest) pos) (tAnd tA tB') := by
  intro wh pins s σ H Q I h
  refine isTrue_and (thn (ha pins s σ H _ I h) fun c s1 ⟨H1, I1, q1⟩ => ?_)
  cases c with
  | true => exact hb wh pins s1 σ H1 Q I1 q1
  | false => exact ⟨H1, I1, q1⟩
theorem pw_or (ha : PT X a tA) (hb : PW X (.BoolOp .Or (b :: rest) pos) tB') : PW X (.BoolOp .Or (a :: b :: rest) pos) (tOr tA tB') := by
  intro wh pins s σ H Q I h
  refine isTrue_or (thn (ha pins s σ H _ I h) fun c s1 ⟨H1, I1, q1⟩ => ?_)
  cases c with
  | true => exact ⟨H1, I1, q1⟩
  | false => exact hb wh pins s1 σ H1 Q I1 q1
theorem pt_not (ha : PT X a tA) : PT X (.UnaryOp .Not a pos) (tNot tA) := by
  intro pins s σ H Q I h
  exact isTrue_not (ha pins s σ H (fun c H1 => Q (!c) H1) I h)
def tAndV (ta tb : TE) : TE := fun σ H Q => ta σ H fun x H1 => ∃ c, x = .bl c ∧ if c = true then tb σ H1 Q else Q (.bl false) H1
def tOrV (ta tb : TE) : TE := fun σ H Q => ta σ H fun x H1 => ∃ c, x = .bl c ∧ if c = true then Q (.bl true) H1 else tb σ H1 Q
def tNotV (ta : TE) : TE := fun σ H Q => ta σ H fun x H1 => ∃ c, x = .bl c ∧ Q (.bl (!c)) H1
theorem pe_one {op} {t : TE} (h : PE X a t) : PE X (.BoolOp op [a] pos) t := fun pins s σ H Q I hw => BoolOp_one (h pins s σ H Q I hw)
theorem pe_and (ha : PE X a ta) (hb : PE X (.BoolOp .And (b :: rest) pos) tb) : PE X (.BoolOp .And (a :: b :: rest) pos) (tAndV ta tb) := by
  intro pins s σ H Q I h
  refine BoolOp_and (thn (ha pins s σ H _ I h) fun v s1 ⟨x, H1, I1, r1, q1⟩ => ?_)
  obtain ⟨c, rfl, q1⟩ := q1
  cases r1
  refine wpAny_truthy_bool ?_
  cases c with
  | true => exact hb pins s1 σ H1 Q I1 q1
  | false => exact ⟨.bl false, H1, I1, rfl, q1⟩
theorem pe_or (ha : PE X a ta) (hb : PE X (.BoolOp .Or (b :: rest) pos) tb) : PE X (.BoolOp .Or (a :: b :: rest) pos) (tOrV ta tb) := by
  intro pins s σ H Q I h
  refine BoolOp_or (thn (ha pins s σ H _ I h) fun v s1 ⟨x, H1, I1, r1, q1⟩ => ?_)
  obtain ⟨c, rfl, q1⟩ := q1
  cases r1
  refine wpAny_truthy_bool ?_
  cases c with
  | false => exact hb pins s1 σ H1 Q I1 q1
  | true => exact ⟨.bl true, H1, I1, rfl, q1⟩
theorem pe_not (ha : PE X a ta) : PE X (.UnaryOp .Not a pos) (tNotV ta) := by
  intro pins s σ H Q I h
  refine UnaryOp_ (thn (ha pins s σ H _ I h) fun v s1 ⟨x, H1, I1, r1, q1⟩ => ?_)
  obtain ⟨c, rfl, q1⟩ := q1
  cases r1
  exact not_of (wpAny_truthy_bool ⟨.bl (!c), H1, I1, rfl, q1⟩)
def tIf (t : TT) (ta tb : TE) : TE := fun σ H Q => t σ H fun c H1 => if c = true then ta σ H1 Q else tb σ H1 Q
theorem pe_ifExp {c : Expr} (hc : PT X c tA) (ha : PE X a ta) (hb : PE X b tb) : PE X (.IfExp c a b pos) (tIf tA ta tb) := by
  intro pins s σ H Q I h
  refine wpAny_IfExp (thn (hc pins s σ H _ I h) fun d s1 ⟨H1, I1, q1⟩ => ?_)
  cases d with
  | true => exact ha pins s1 σ H1 Q I1 q1
  | false => exact hb pins s1 σ H1 Q I1 q1
end
end L2
namespace L2
open PySem PySem.Spec PyProof.Rows
def SqL (K : PySem.W.Frag) (H : Hp) (a : Addr) (xs : List V) : Prop :=
  Rd H a (.lst xs) ∨
    ∃ (o : Obj) (its : Array Value) (n : Nat), K.lookup a = some o ∧ o.cls = .type "list" ∧ o.dict = none ∧ o.data = .seq its n ∧ its.size ≤ sizeLine ∧ Vals xs its.toList
def SqT (K : PySem.W.Frag) (H : Hp) (a : Addr) (xs : List V) : Prop :=
  Rd H a (.tup xs) ∨
    ∃ (o : Obj) (its : Array Value) (n : Nat), K.lookup a = some o ∧ o.cls = .type "tuple" ∧ o.data = .seq its n ∧ its.size ≤ sizeLine ∧ Vals xs its.toList
def absV : Value → Option V
  | .none => some .non
  | .bool b => some (.bl b)
  | .int i _ => some (.int i)
  | .str x _ => some (.str x)
  | .bytes b _ => some (.byt b)
  | .float b _ => some (.flt b)
  | .ref a => some (.ref a)
  | .type n => some (.ty n)
  | _ => none
theorem RelV.abs {x : V} {u : Value} (r : RelV x u) : absV u = some x := by
  cases x with
  | non => cases r; rfl
  | bl _ => cases r; rfl
  | int _ => obtain ⟨t, rfl⟩ := r; rfl
  | str _ => obtain ⟨t, rfl⟩ := r; rfl
  | byt _ => obtain ⟨t, rfl⟩ := r; rfl
  | flt _ => obtain ⟨t, rfl⟩ := r; rfl
  | ref _ => cases r; rfl
  | ty _ => cases r; rfl
theorem RelV.inj {x y : V} {u : Value} (r : RelV x u) (q : RelV y u) : x = y := Option.some.inj (r.abs.symm.trans q.abs)
theorem Vals.inj : ∀ {xs ys : List V} {us : List Value}, Vals xs us → Vals ys us → xs = ys
  | _, _, _, .nil, .nil => rfl
  | _, _, _, .cons r t, .cons r' t' => by rw [r.inj r', Vals.inj t t']
section
variable {X : Cx} {pins : List (Addr × Obj)} {σ : St} {H : Hp} {s : Shared} {a : Addr} {xs ys : List V}
theorem SqL.of {K : PySem.W.Frag} (h : H a = some (.lst xs)) : SqL K H a xs := .inl (.inl h)
theorem SqT.of {K : PySem.W.Frag} (h : H a = some (.tup xs)) : SqT K H a xs := .inl (.inl h)
theorem Inv.list (I : Inv X pins σ H s) (h : SqL X.K H a xs) : ∃ its : List Value, Vals xs its ∧ PlainL s.heap a its.toArray ∧ xs.length ≤ sizeLine := by
  rcases h with h | ⟨o, its, n, hk, hc, hd, hs, hz, r⟩
  · obtain ⟨z, its, n, r, e⟩ := h.ok I.hok
    exact ⟨its, r, ⟨_, n, e, rfl, rfl, rfl⟩, z⟩
  · refine ⟨its.toList, r, ⟨o, n, I.kIn a o hk, hc, hd, by simpa using hs⟩, ?_⟩
    have e := r.length
    simp only [Array.length_toList] at e
    omega
theorem Inv.tuple (I : Inv X pins σ H s) (h : SqT X.K H a xs) : ∃ its : List Value, Vals xs its ∧ IsTup s.heap a its.toArray ∧ xs.length ≤ sizeLine := by
  rcases h with h | ⟨o, its, n, hk, hc, hs, hz, r⟩
  · obtain ⟨z, its, r, p⟩ := h.ok I.hok
    exact ⟨its, r, p, z⟩
  · refine ⟨its.toList, r, ⟨o, I.kIn a o hk, hc, n, by simpa using hs⟩, ?_⟩
    have e := r.length
    simp only [Array.length_toList] at e
    omega
theorem Inv.list_inj (I : Inv X pins σ H s) (h : SqL X.K H a xs) (h' : SqL X.K H a ys) : xs = ys := by
  obtain ⟨its, r, ⟨o, n, e, _, _, d⟩, _⟩ := I.list h
  obtain ⟨its', r', ⟨o', n', e', _, _, d'⟩, _⟩ := I.list h'
  rw [e] at e'; cases e'
  rw [d] at d'
  injection d' with d1 _
  have : its = its' := by simpa using congrArg Array.toList d1
  subst this
  exact r.inj r'
theorem Inv.tuple_inj (I : Inv X pins σ H s) (h : SqT X.K H a xs) (h' : SqT X.K H a ys) : xs = ys := by
  obtain ⟨its, r, ⟨o, e, _, n, d⟩, _⟩ := I.tuple h
  obtain ⟨its', r', ⟨o', e', _, n', d'⟩, _⟩ := I.tuple h'
  rw [e] at e'; cases e'
  rw [d] at d'
  injection d' with d1 _
  have : its = its' := by simpa using congrArg Array.toList d1
  subst this
  exact r.inj r'
end
abbrev Cx.wish (X : Cx) (E : Value → Shared → Prop) : Cx := { X with xe := E }
abbrev Cx.nox (X : Cx) : Cx := X.wish fun _ _ => False
theorem Cx.Ok.wish {X : Cx} (ok : X.Ok) (E : Value → Shared → Prop) : (X.wish E).Ok :=
  ⟨ok.mod, ok.kind, ok.glob, ok.blt, ok.above, ok.inj, ok.has, ok.cab, ok.hd, ok.frames, ok.stk, ok.exf, ok.bs, ok.bsz, ok.noex, ok.exfs, ok.funs, ok.frf⟩
theorem Cx.Ok.unwish {X : Cx} {E : Value → Shared → Prop} (ok : (X.wish E).Ok) : X.Ok :=
  ⟨ok.mod, ok.kind, ok.glob, ok.blt, ok.above, ok.inj, ok.has, ok.cab, ok.hd, ok.frames, ok.stk, ok.exf, ok.bs, ok.bsz, ok.noex, ok.exfs, ok.funs, ok.frf⟩
section
variable {X : Cx} {pins : List (Addr × Obj)} {σ : St} {H : Hp} {s : Shared} {E : Value → Shared → Prop}
theorem Inv.wish (I : Inv X pins σ H s) (E : Value → Shared → Prop) : Inv (X.wish E) pins σ H s := ⟨I.ok.wish E, I.os, I.bare, I.base, I.loc, I.cell, I.free, I.freeC, I.pin, I.hok, I.len⟩
theorem Inv.unwish (I : Inv (X.wish E) pins σ H s) : Inv X pins σ H s := ⟨I.ok.unwish, I.os, I.bare, I.base, I.loc, I.cell, I.free, I.freeC, I.pin, I.hok, I.len⟩
theorem SP.unwish {D : Ends} {f : Flow} {s' : Shared} (h : SP (X.wish E) pins D f s') : SP X pins D f s' := by
  cases f with
  | next => obtain ⟨σ', H', I, q⟩ := h; exact ⟨σ', H', I.unwish, q⟩
  | brk => obtain ⟨σ', H', I, q⟩ := h; exact ⟨σ', H', I.unwish, q⟩
  | cont => obtain ⟨σ', H', I, q⟩ := h; exact ⟨σ', H', I.unwish, q⟩
  | ret u => obtain ⟨v, σ', H', I, r, q⟩ := h; exact ⟨v, σ', H', I.unwish, r, q⟩
theorem PE.nox {e : Expr} {t : TE} (h : PE X.nox e t) : PE X e t := fun pins s σ H Q I hw =>
  wpAny_mono (h pins s σ H Q (I.wish _) hw) (fun _ _ ⟨v, H', I', r, q⟩ => ⟨v, H', I'.unwish, r, q⟩) fun _ _ z => False.elim z
theorem PT.nox {e : Expr} {t : TT} (h : PT X.nox e t) : PT X e t := fun pins s σ H Q I hw =>
  wpAny_mono (h pins s σ H Q (I.wish _) hw) (fun _ _ ⟨H', I', q⟩ => ⟨H', I'.unwish, q⟩) fun _ _ z => False.elim z
theorem PSs.nox {st : List Stmt} {t : TS} (h : PSs X.nox st t) : PSs X st t := fun pins s σ H D I hw =>
  wpAny_mono (h pins s σ H D (I.wish _) hw) (fun _ _ q => q.unwish) fun _ _ z => False.elim z
end
section
variable {X : Cx} {st : Stmt} {rest : List Stmt} {t u : TS} {e : Expr} {te : TE} {pos : Pos}
def tNext : TS := fun D σ H => D.nx σ H
def tSeq (t u : TS) : TS := fun D σ H => t { D with nx := u D } σ H
theorem pss_nil : PSs X [] tNext := fun _ _ σ H _ I h => wpAny_execs_nil ⟨σ, H, I, h⟩
theorem pss_cons (h1 : PS X st t) (h2 : PSs X rest u) : PSs X (st :: rest) (tSeq t u) := by
  intro pins s σ H D I h
  refine wpAny_execs_cons (thn (h1 pins s σ H { D with nx := u D } I h) fun f s1 q => ?_)
  cases f with
  | next =>
    obtain ⟨σ', H', I', q⟩ := q
    exact h2 pins s1 σ' H' D I' q
  | ret v => exact q
  | brk => exact q
  | cont => exact q
theorem pss_one (h1 : PS X st t) : PSs X [st] t := by
  intro pins s σ H D I h
  refine wpAny_execs_cons (thn (h1 pins s σ H D I h) fun f s1 q => ?_)
  cases f with
  | next => exact wpAny_execs_nil q
  | ret v => exact q
  | brk => exact q
  | cont => exact q
theorem Inv.quiet {pins : List (Addr × Obj)} {σ : St} {H : Hp} {s : Shared} (I : Inv X pins σ H s) : interactive X.env = false := by simp [interactive, I.ok.kind]
def tDrop (te : TE) : TS := fun D σ H => te σ H fun _ H1 => D.nx σ H1
theorem ps_expr (he : PE X e te) (hs : swapsWith e none pos.line X.env = pure false := by rfl) : PS X (.Expr e pos) (tDrop te) := by
  intro pins s σ H D I h
  exact wpAny_Expr_any (thn (he pins s σ H _ I h) fun v s1 ⟨x, H1, I1, r1, q1⟩ => ⟨σ, H1, I1, q1⟩) I.quiet hs
def tRet (te : TE) : TS := fun D σ H => te σ H D.rt
theorem ps_ret (he : PE X e te) : PS X (.Return (some e) pos) (tRet te) := by
  intro pins s σ H D I h
  exact wpAny_Return_some (thn (he pins s σ H _ I h) fun v s1 ⟨x, H1, I1, r1, q1⟩ => ⟨x, σ, H1, I1, r1, q1⟩)
def tIfS (c : TT) (t u : TS) : TS := fun D σ H => c σ H fun b H1 => if b = true then t D σ H1 else u D σ H1
theorem ps_if {c : Expr} {a b : List Stmt} {tc : TT} (hc : PT X c tc) (ha : PSs X a t) (hb : PSs X b u) : PS X (.If c a b pos) (tIfS tc t u) := by
  intro pins s σ H D I h
  refine wpAny_If (thn (hc pins s σ H _ I h) fun d s1 ⟨H1, I1, q1⟩ => ?_)
  cases d with
  | true => exact ha pins s1 σ H1 D I1 q1
  | false => exact hb pins s1 σ H1 D I1 q1
def tNever : TS := fun _ _ _ => False
theorem pss_never {sts : List Stmt} : PSs X sts tNever := fun _ _ _ _ _ _ h => h.elim
end
abbrev TG := V → St → Hp → (St → Hp → Prop) → Prop
abbrev TGs := List V → St → Hp → (St → Hp → Prop) → Prop
def PG (X : Cx) (target : Expr) (t : TG) : Prop :=
  ∀ (pins : List (Addr × Obj)) (s : Shared) (σ : St) (H : Hp) (v : V) (u : Value) (Q : St → Hp → Prop), Inv X pins σ H s → RelV v u → t v σ H Q →
    wpAny (model X.prog X.w) X.A (assign target X.env u) (fun _ s' => ∃ σ' H', Inv X pins σ' H' s' ∧ Q σ' H') X.xe s
def PGs (X : Cx) (ts : List Expr) (t : TGs) : Prop :=
  ∀ (pins : List (Addr × Obj)) (s : Shared) (σ : St) (H : Hp) (vs : List V) (us : List Value) (Q : St → Hp → Prop), Inv X pins σ H s → Vals vs us → t vs σ H Q →
    wpAny (model X.prog X.w) X.A (assignInOrder ((assignEach ts X.env).map (·.2)) us) (fun _ s' => ∃ σ' H', Inv X pins σ' H' s' ∧ Q σ' H') X.xe s
abbrev TSet := V → V → V → Hp → (Hp → Prop) → Prop
def PSet (X : Cx) (t : TSet) : Prop :=
  ∀ (pins : List (Addr × Obj)) (s : Shared) (σ : St) (H : Hp) (o i v : V) (ov iv u : Value) (Q : Hp → Prop), Inv X pins σ H s → RelV o ov → RelV i iv → RelV v u → t o i v H Q →
    wpAny (model X.prog X.w) X.A (setItem ov iv u) (fun _ s' => ∃ H', Inv X pins σ H' s' ∧ Q H') X.xe s
section
variable {X : Cx} {pos : Pos}
def gName (i : Nat) : TG := fun v σ H Q => Q (σ.set i (some v)) H
theorem pg_name {i : Nat} {x : Str} (hN : X.N.Nodup) (hi : X.N[i]? = some x) (hx : Loc X.env.scope x) (hf : X.fn x = true ∨ X.env.scope.names.lookup x = some .local := by first | exact .inl rfl | exact .inr rfl | assumption) : PG X (.Name x pos) (gName i) := by
  intro pins s σ H v u Q I r h
  exact wpAny_assign_Name (store_ok I hN hi hx r (fun s' I' => ⟨_, H, I', h⟩) hf)
def gNil : TGs := fun vs σ H Q => vs = [] ∧ Q σ H
def gCons (t : TG) (u : TGs) : TGs := fun vs σ H Q => ∃ v r, vs = v :: r ∧ t v σ H fun σ' H' => u r σ' H' Q
theorem pgs_nil : PGs X [] gNil := by
  intro pins s σ H vs us Q I r h
  obtain ⟨e, h⟩ := h
  subst e
  cases r
  exact assignInOrder_nil ⟨σ, H, I, h⟩
theorem pgs_cons {e : Expr} {es : List Expr} {t : TG} {u : TGs} (h1 : PG X e t) (h2 : PGs X es u)
    (hs : (assignEach (e :: es) X.env).map (·.2) = assign e X.env :: (assignEach es X.env).map (·.2) := by rfl) : PGs X (e :: es) (gCons t u) := by
  intro pins s σ H vs us Q I r h
  obtain ⟨v, vr, e1, h⟩ := h
  subst e1
  cases r with
  | cons r rr =>
    rw [hs]
    refine assignInOrder_cons (thn (h1 pins s σ H _ _ _ I r h) fun _ s1 ⟨σ1, H1, I1, q1⟩ => ?_)
    exact h2 pins s1 σ1 H1 _ _ Q I1 rr q1
def gTup (K : PySem.W.Frag) (n : Nat) (t : TGs) : TG := fun v σ H Q => ∃ a xs, v = .ref a ∧ SqT K H a xs ∧ xs.length = n ∧ t xs σ H Q
theorem pg_tup {es : List Expr} {k : Nat} {t : TGs} {n : Nat} (hc : X.calm = true) (h : PGs X es t)
    (hn : (assignEach es X.env).length = n := by rfl) (hst : (assignEach es X.env).findIdx? (·.1) = none := by rfl) : PG X (.Tuple es k pos) (gTup X.K n t) := by
  intro pins s σ H v u Q I r hw
  obtain ⟨a, xs, e1, hq, hl, hw⟩ := hw
  subst e1
  cases r
  obtain ⟨its, rv, ht, hz⟩ := I.tuple hq
  refine assign_Tuple_tuple (I.ok.hd hc) ht (by simp [hn, ← hl, rv.length]) hst fun h' hx => ?_
  have I1 : Inv X pins σ H { s with heap := h' } := I.kept (t' := s.toks) fun b o e => hx b o (Nat.ne_of_lt (Heap.lt_size e)) e
  exact h pins _ σ H xs _ Q I1 (by simpa using rv) hw
def gSub (to ti : TE) (t : TSet) : TG := fun v σ H Q => to σ H fun o H1 => ti σ H1 fun i H2 => t o i v H2 fun H3 => Q σ H3
theorem pg_sub {o i : Expr} {to ti : TE} {t : TSet} (ho : PE X o to) (hi : PE X i ti) (hs : PSet X t)
    (ha : ∀ v, assign (.Subscript o i pos) X.env v = (do
      let ov ← holding [v] (eval o X.env)
      let iv ← holding [v, ov] (eval i X.env)
      standAt pos
      holding [v, ov, iv] (setItem ov iv v)
      release [v, ov, iv] []) := by intro _; rfl) : PG X (.Subscript o i pos) (gSub to ti t) := by
  intro pins s σ H v u Q I r h
  rw [ha]
  refine wpAny_bind (wpAny_holding (thn (ho pins s σ H _ I h) fun ov s1 ⟨x, H1, I1, r1, q1⟩ => ?_))
  refine wpAny_bind (wpAny_holding (thn (hi pins s1 σ H1 _ I1 q1) fun iv s2 ⟨y, H2, I2, r2, q2⟩ => ?_))
  refine wpAny_bind (wpAny_standAt (wpAny_bind (wpAny_holding (thn (hs pins s2 σ H2 x y v ov iv u _ I2 r1 r2 r q2) fun _ s3 ⟨H3, I3, q3⟩ => ?_))))
  exact wpAny_release ⟨σ, H3, I3, q3⟩
def tAsg (te : TE) (g : TG) : TS := fun D σ H => te σ H fun x H1 => g x σ H1 D.nx
theorem ps_asg {tg e : Expr} {te : TE} {g : TG} (he : PE X e te) (hg : PG X tg g) (hs : swapsWithSole [tg] e pos.line X.env = pure false := by rfl) (hw : swappedStores [tg] e X.env = pure none := by rfl)
    (h1 : (assignEach [tg] X.env).map (·.2) = [assign tg X.env] := by rfl) : PS X (.Assign [tg] e pos) (tAsg te g) := by
  intro pins s σ H D I h
  refine wpAny_Assign_stores (thn (he pins s σ H _ I h) fun v s1 ⟨x, H1, I1, r1, q1⟩ => ?_) hs hw
  rw [h1]
  exact thn (hg pins s1 σ H1 x v _ I1 r1 q1) fun _ s2 q => q
theorem ps_set {i : Nat} {x : Str} {e : Expr} {te : TE} {pos' : Pos} (hN : X.N.Nodup) (hi : X.N[i]? = some x) (hx : Loc X.env.scope x) (he : PE X e te) (hs : swapsWith e (some (.Name x pos')) pos.line X.env = pure false := by rfl) (hf : X.fn x = true ∨ X.env.scope.names.lookup x = some .local := by first | exact .inl rfl | exact .inr rfl | assumption) :
    PS X (.Assign [.Name x pos'] e pos) (tAsg te (gName i)) := by
  intro pins s σ H D I h
  refine wpAny_Assign_Name (thn (he pins s σ H _ I h) fun v s1 ⟨y, H1, I1, r1, q1⟩ => ?_) hs
  exact store_ok I1 hN hi hx r1 (fun s2 I2 => ⟨_, H1, I2, q1⟩) hf
def tPar (i j : Nat) (ta : TA) : TS := fun D σ H => ta σ H fun vs H1 => ∃ v w, vs = [v, w] ∧ D.nx ((σ.set i (some v)).set j (some w)) H1
theorem ps_par {i j : Nat} {x y : Str} {a b : Expr} {ta : TA} {px py pt : Pos} {kt k2 pt2} (hc : X.calm = true) (hN : X.N.Nodup) (hi : X.N[i]? = some x) (hj : X.N[j]? = some y) (hij : i ≠ j)
    (hx : X.env.scope.names.lookup x = some .local) (hy : X.env.scope.names.lookup y = some .local) (ha : PA X [a, b] ta)
    (hw : swappedStores [.Tuple [.Name x px, .Name y py] kt pt] (.Tuple [a, b] k2 pt2) X.env = pure (some [x, y]))
    (hs : swapsWithSole [.Tuple [.Name x px, .Name y py] kt pt] (.Tuple [a, b] k2 pt2) pos.line X.env = pure false := by rfl) :
    PS X (.Assign [.Tuple [.Name x px, .Name y py] kt pt] (.Tuple [a, b] k2 pt2) pos) (tPar i j ta) := by
  intro pins s σ H D I h
  rw [exec_Assign_arm]
  refine wpAny_bind (wpAny_standAt ?_)
  rw [hs]
  refine wpAny_bind (wpAny_pure ?_)
  rw [if_neg (by decide)]
  refine wpAny_bind (Tuple_ (thn (ha _ pins s σ H _ I h) fun us s1 ⟨vs, H1, I1, r1, q1⟩ => ?_))
  obtain ⟨v, w, e1, q1⟩ := q1
  subst e1
  obtain ⟨u1, u2, rfl, rv, rw'⟩ : ∃ u1 u2, us = [u1, u2] ∧ RelV v u1 ∧ RelV w u2 := by
    cases r1 with
    | cons p q =>
      cases q with
      | cons p' q' =>
        cases q'
        exact ⟨_, _, rfl, p, p'⟩
  refine wpAny_newObj_type ?_ (by show 2 ≤ sizeLine; decide)
  have I2 : Inv X pins σ H1 { s1 with heap := s1.heap.push { cls := .type "tuple", data := .seq [u1, u2].toArray } } := I1.kept (t' := s1.toks) fun b o e => Heap.get?_push_of_some _ e
  rw [hw]
  refine wpAny_bind (wpAny_pure ?_)
  show wpAny (model X.prog X.w) X.A (do rule "assign.swapped-stores"; let items ← unpackItems (.ref s1.heap.objs.size) 2 none; assignInOrder [fun v => bindName X.env y v, fun v => bindName X.env x v] items.reverse; pure Flow.next) _ _ _
  refine wpAny_bind (wpAny_rule (wpAny_bind (unpackItems_tuple (items := #[u1, u2]) (I.ok.hd hc) (IsTup.new s1.heap _) fun h' hx' => ?_)))
  have I3 := I2.kept (h' := h') (t' := s1.toks) fun b o e => hx' b o (Nat.ne_of_lt (Heap.lt_size e)) e
  show wpAny _ _ (assignInOrder [fun v => bindName X.env y v, fun v => bindName X.env x v] [u2, u1] >>= fun _ => pure Flow.next) _ _ _
  refine wpAny_bind (assignInOrder_cons (wpAny_bindName (store_ok I3 hN hj (.inl hy) rw' (fun s2 I4 => ?_) (.inr hy))))
  refine assignInOrder_cons (wpAny_bindName (store_ok I4 hN hi (.inl hx) rv (fun s3 I5 => assignInOrder_nil (wpAny_pure ?_)) (.inr hx)))
  rw [List.set_comm _ _ (Ne.symm hij)] at I5
  exact ⟨_, H1, I5, q1⟩
end
section
variable {X : Cx} {pos : Pos}
def tWhile (c : TT) (tb : TS) : TS := fun D σ H => ∃ W : Nat → St → Hp → Prop, (∃ m, W m σ H) ∧ ∀ m σ H, W m σ H →
  c σ H fun b H1 => if b = true then ∃ N : St → Hp → Prop, (∀ σ' H', N σ' H' → ∃ m', m' < m ∧ W m' σ' H') ∧ tb { D with nx := N, ct := N, bk := D.nx } σ H1 else D.nx σ H1
theorem ps_while {c : Expr} {body : List Stmt} {tc : TT} {tb : TS} (hp : PassesOwn (model X.prog X.w) X.A X.env X.xe) (hc : PT X c tc) (hb : PSs X body tb) : PS X (.While c body [] pos) (tWhile tc tb) := by
  intro pins s σ H D I h
  obtain ⟨W, ⟨m0, w0⟩, turn⟩ := h
  refine wpAny_While (codeAny_whileLoop (fun n s' => ∃ σ' H', Inv X pins σ' H' s' ∧ W n σ' H') ?_ m0 ⟨σ, H, I, w0⟩)
  rintro n s1 ⟨σ1, H1, I1, w1⟩
  refine wpAny_passesOwn hp (thn (hc pins s1 σ1 H1 _ I1 (turn n σ1 H1 w1)) fun b s2 ⟨H2, I2, q2⟩ => ?_)
  cases b with
  | true =>
    obtain ⟨N, hN, q2⟩ := q2
    rw [if_pos rfl]
    refine wpAny_passesOwn hp (thn (hb pins s2 σ1 H2 _ I2 q2) fun f s3 q3 => ?_)
    cases f with
    | next =>
      obtain ⟨σ3, H3, I3, n3⟩ := q3
      obtain ⟨m', hm, w3⟩ := hN σ3 H3 n3
      exact ⟨m', hm, σ3, H3, I3, w3⟩
    | cont =>
      obtain ⟨σ3, H3, I3, n3⟩ := q3
      obtain ⟨m', hm, w3⟩ := hN σ3 H3 n3
      exact ⟨m', hm, σ3, H3, I3, w3⟩
    | brk => exact q3
    | ret v => exact q3
  | false =>
    rw [if_neg Bool.false_ne_true]
    exact wpAny_execs_nil ⟨σ1, H2, I2, q2⟩
end
structure It where
  go : Nat → Hp → Prop
  yld : Nat → Hp → V → Hp → Prop
  stop : Nat → Hp → Prop
def FpOk (X : Cx) (pins : List (Addr × Obj)) (H : Hp) (b : Addr) : Prop :=
  H b = none ∧ b ≠ X.env.locals ∧ b ∉ X.fs ∧ (b ∈ X.ex ∨ X.s₀.heap.objs.size ≤ b) ∧ (∀ x c, X.env.cells.lookup x = some c → c ≠ b) ∧ ∀ p ∈ X.pn ++ pins, p.1 ≠ b
theorem Inv.fpOk {X : Cx} {pins : List (Addr × Obj)} {σ : St} {H H' : Hp} {s : Shared} {b : Addr} (I : Inv X pins σ H s) (hb : s.heap.objs.size ≤ b) (hn : H' b = none) : FpOk X pins H' b := by
  refine ⟨hn, Nat.ne_of_gt (Nat.lt_of_lt_of_le I.lt hb), I.nofs hb, .inr (Nat.le_trans I.sz hb), fun x c e z => ?_, fun p hp z => ?_⟩
  · obtain ⟨v, q⟩ := I.cell x c e
    exact absurd (Nat.lt_of_lt_of_le q.lt (by rw [z]; exact hb)) (Nat.lt_irrefl _)
  · exact absurd (Nat.lt_of_lt_of_le (Heap.lt_size (I.pin p hp).1) (by rw [z]; exact hb)) (Nat.lt_irrefl _)
structure Turn (P : Program) (w : World) (K : PySem.W.Frag) (tg : Expr) (J : It) (fp : List Addr) (it : Addr) (tn : Nat → Heap → Prop) : Prop where
  mem : it ∈ fp
  obj : ∀ i h, tn i h → ∀ b ∈ fp, ∃ o, h.get? b = some o ∧ ∀ v, o.data ≠ .cell v
  keep : ∀ i h h', tn i h → (∀ b ∈ fp, ∀ o, h.get? b = some o → h'.get? b = some o) → tn i h'
  item : ∀ (X : Cx), X.prog = P → X.w = w → X.K = K → X.calm = true → ∀ (i : Nat) (pins : List (Addr × Obj)) (s : Shared) (σ : St) (H : Hp) (E : Value → Shared → Prop), Inv X pins σ H s → (∀ b ∈ fp, FpOk X pins H b) → tn i s.heap → J.go i H →
    wpAny (model P w) X.A (pyNext (.ref it)) (fun r s1 => ∃ u, r = some u ∧
      wpAny (model P w) X.A (letOwnedTupleGo tg (.ref it) u) (fun _ s2 => ∃ x H', Inv X pins σ H' s2 ∧ RelV x u ∧ J.yld i H x H' ∧ tn (i + 1) s2.heap ∧ ∀ b ∈ fp, H' b = none) E s1) E s
  done : ∀ (X : Cx), X.prog = P → X.w = w → X.K = K → X.calm = true → ∀ (i : Nat) (pins : List (Addr × Obj)) (s : Shared) (σ : St) (H : Hp) (E : Value → Shared → Prop), Inv X pins σ H s → (∀ b ∈ fp, FpOk X pins H b) → tn i s.heap → J.stop i H →
    wpAny (model P w) X.A (pyNext (.ref it)) (fun r s1 => r = none ∧ Inv X pins σ H s1) E s
  self : ∀ (A : Around) (i : Nat) (s : Shared) (Q : Value → Shared → Prop) (E : Value → Shared → Prop), tn i s.heap → Q (.ref it) s → wpAny (model P w) A (pyIter (.ref it)) Q E s
abbrev TI := St → Hp → (It → Hp → Prop) → Prop
def PIE (X : Cx) (pins : List (Addr × Obj)) (σ : St) (tg : Expr) (R : It → Hp → Prop) (itv : Value) (s2 : Shared) : Prop :=
  ∃ (it : Addr) (fp : List Addr) (tn : Nat → Heap → Prop) (J : It) (H' : Hp), itv = .ref it ∧ Inv X pins σ H' s2 ∧ Turn X.prog X.w X.K tg J fp it tn ∧ tn 0 s2.heap ∧ (∀ b ∈ fp, FpOk X pins H' b) ∧ R J H'
def PI (X : Cx) (tg iter : Expr) (wi : TI) : Prop :=
  ∀ (pins : List (Addr × Obj)) (s : Shared) (σ : St) (H : Hp) (R : It → Hp → Prop), Inv X pins σ H s → wi σ H R →
    wpAny (model X.prog X.w) X.A (eval iter X.env) (fun v s1 => wpAny (model X.prog X.w) X.A (pyIter v) (PIE X pins σ tg R) X.xe s1) X.xe s
theorem go_of {M : Model} {A : Around} {E : Value → Shared → Prop} {s : Shared} {tg : Expr} {it : Addr} {u : Value} {o : Obj} {n : String} {vs : Array Value} {Q : Unit → Shared → Prop} (ho : s.heap.get? it = some o) (hc : o.cls = .type n) (hd : o.data = .fields vs)
    (hn : ["enumerate", "zip", "dict_itemiterator", "dict_reverseitemiterator", "odict_iterator", "itertools.zip_longest", "itertools.pairwise"].contains n = false) (hQ : Q () s) : wpAny M A (letOwnedTupleGo tg (.ref it) u) Q E s := by
  unfold letOwnedTupleGo
  cases tg <;> first
    | exact wpAny_pure hQ
    | (cases u <;> first
        | exact wpAny_pure hQ
        | (refine wpAny_bind (wpAny_load ho ?_)
           rw [hc, hd]
           show wpAny M A (if (["enumerate", "zip", "dict_itemiterator", "dict_reverseitemiterator", "odict_iterator", "itertools.zip_longest", "itertools.pairwise"].contains n && vs[0]? == some (rawInt _)) = true then _ else _) Q E s
           rw [if_neg (by intro h; rw [hn, Bool.false_and] at h; cases h)]
           exact wpAny_pure hQ))
def Itl (K : PySem.W.Frag) (a : Addr) : It :=
  ⟨fun i H => ∃ xs x, SqL K H a xs ∧ xs[i]? = some x, fun i H x H' => H' = H ∧ ∀ xs, SqL K H a xs → xs[i]? = some x, fun i H => ∃ xs, SqL K H a xs ∧ xs.length ≤ i⟩
def Itt (K : PySem.W.Frag) (a : Addr) : It :=
  ⟨fun i H => ∃ xs x, SqT K H a xs ∧ xs[i]? = some x, fun i H x H' => H' = H ∧ ∀ xs, SqT K H a xs → xs[i]? = some x, fun i H => ∃ xs, SqT K H a xs ∧ xs.length ≤ i⟩
def Itr (lo : Int) (n : Nat) : It := ⟨fun i _ => i < n, fun i H x H' => H' = H ∧ x = .int (lo + i), fun i _ => n ≤ i⟩
theorem turn_list {P : Program} {w : World} {K : PySem.W.Frag} {tg : Expr} (a it : Addr) : Turn P w K tg (Itl K a) [it] it (fun i h => h.IsListIter it a i) where
  mem := by simp
  obj := fun i h st b hb => by
    have e : b = it := by simpa using hb
    subst e
    obtain ⟨o, e, c, d⟩ := st
    exact ⟨o, e, fun v z => by rw [d] at z; cases z⟩
  keep := fun i h h' st k => st.at fun o e => k it (by simp) o e
  item := by
    intro X hP hw hK hc i pins s σ H E I hf st hg
    subst hP hw hK
    obtain ⟨xs, x, hq, hx⟩ := hg
    obtain ⟨its, rv, p, hz⟩ := I.list hq
    obtain ⟨u, hu, ru⟩ := rv.get hx
    obtain ⟨f0, f1, f2, f3, f4, f5⟩ := hf it (by simp)
    refine wpAny_pyNext_list_item st p.isList (x := u) (by simpa using hu) fun h' st' sb => ?_
    have I1 : Inv X pins σ H { s with heap := h' } := I.turned (t' := s.toks) (fun b o hb e => (sb.2 b hb).trans e) f0 f1 f3 f4 f5
    obtain ⟨o, e, c, d⟩ := id st'
    exact ⟨u, rfl, go_of (s := { s with heap := h' }) e c d (by decide) ⟨x, H, I1, ru, ⟨rfl, fun ys hy => by rw [I.list_inj hy hq]; exact hx⟩, st', fun b hb => (hf b hb).1⟩⟩
  done := by
    intro X hP hw hK hc i pins s σ H E I hf st hg
    subst hP hw hK
    obtain ⟨xs, hq, hx⟩ := hg
    obtain ⟨its, rv, p, hz⟩ := I.list hq
    obtain ⟨f0, f1, f2, f3, f4, f5⟩ := hf it (by simp)
    have hl := rv.length
    exact wpAny_pyNext_list_end (I.ok.hd hc) st p.isList (by simp; omega) fun h' eb => ⟨rfl, I.turned (t' := s.toks) (fun b o hb e => eb b o hb e) f0 f1 f3 f4 f5⟩
  self := fun _ _ _ _ _ st h => wpAny_pyIter_listiter st h
theorem turn_tuple {P : Program} {w : World} {K : PySem.W.Frag} {tg : Expr} (a it : Addr) : Turn P w K tg (Itt K a) [it] it (fun i h => h.IsTupleIter it a i) where
  mem := by simp
  obj := fun i h st b hb => by
    have e : b = it := by simpa using hb
    subst e
    obtain ⟨o, e, c, d⟩ := st
    exact ⟨o, e, fun v z => by rw [d] at z; cases z⟩
  keep := fun i h h' st k => st.at fun o e => k it (by simp) o e
  item := by
    intro X hP hw hK hc i pins s σ H E I hf st hg
    subst hP hw hK
    obtain ⟨xs, x, hq, hx⟩ := hg
    obtain ⟨its, rv, p, hz⟩ := I.tuple hq
    obtain ⟨u, hu, ru⟩ := rv.get hx
    obtain ⟨f0, f1, f2, f3, f4, f5⟩ := hf it (by simp)
    refine wpAny_pyNext_tuple_item st (show s.heap.IsTuple a its.toArray from p) (x := u) (by simpa using hu) fun h' st' sb => ?_
    have I1 : Inv X pins σ H { s with heap := h' } := I.turned (t' := s.toks) (fun b o hb e => (sb.2 b hb).trans e) f0 f1 f3 f4 f5
    obtain ⟨o, e, c, d⟩ := id st'
    exact ⟨u, rfl, go_of (s := { s with heap := h' }) e c d (by decide) ⟨x, H, I1, ru, ⟨rfl, fun ys hy => by rw [I.tuple_inj hy hq]; exact hx⟩, st', fun b hb => (hf b hb).1⟩⟩
  done := by
    intro X hP hw hK hc i pins s σ H E I hf st hg
    subst hP hw hK
    obtain ⟨xs, hq, hx⟩ := hg
    obtain ⟨its, rv, p, hz⟩ := I.tuple hq
    obtain ⟨f0, f1, f2, f3, f4, f5⟩ := hf it (by simp)
    have hl := rv.length
    exact wpAny_pyNext_tuple_end (I.ok.hd hc) st (show s.heap.IsTuple a its.toArray from p) (by simp; omega) fun h' eb => ⟨rfl, I.turned (t' := s.toks) (fun b o hb e => eb b o hb e) f0 f1 f3 f4 f5⟩
  self := fun _ _ _ _ _ st h => wpAny_pyIter_tupleiter st h
theorem turn_range {P : Program} {w : World} {K : PySem.W.Frag} {tg : Expr} (it : Addr) (lo : Int) (n : Nat) : Turn P w K tg (Itr lo n) [it] it (fun i h => IsRangeIter h it (lo + (i : Nat) * 1) ((n : Int) - (i : Nat)) 1) where
  mem := by simp
  obj := fun i h st b hb => by
    have e : b = it := by simpa using hb
    subst e
    exact ⟨_, st, fun v z => by
      have z' : Data.fields _ = Data.cell v := z
      cases z'⟩
  keep := fun i h h' st k => k it (by simp) _ st
  item := by
    intro X hP hw hK hc i pins s σ H E I hf st hg
    subst hP hw hK
    obtain ⟨f0, f1, f2, f3, f4, f5⟩ := hf it (by simp)
    have W := Walks.range (prog := X.prog) (w := X.w) (I.ok.hd hc) it lo 1 n
    refine W.item i s _ _ hg st fun v h' tk hv st' kk => ?_
    obtain ⟨t, rfl⟩ := hv
    have I1 : Inv X pins σ H { s with heap := h', toks := tk } := I.turned (fun b o hb e => kk b o (by simpa using hb) e) f0 f1 f3 f4 f5
    refine ⟨_, rfl, go_of (s := { s with heap := h', toks := tk }) (n := "range_iterator") st' rfl rfl (by decide) ⟨.int (lo + i), H, I1, ⟨t, ?_⟩, ⟨rfl, rfl⟩, st', fun b hb => (hf b hb).1⟩⟩
    rw [Int.mul_one]
  done := by
    intro X hP hw hK hc i pins s σ H E I hf st hg
    subst hP hw hK
    obtain ⟨f0, f1, f2, f3, f4, f5⟩ := hf it (by simp)
    exact wpAny_pyNext_range_end (I.ok.hd hc) st (by have : n ≤ i := hg; omega) fun h' eb => ⟨rfl, I.turned (t' := s.toks) (fun b o hb e => eb b o hb e) f0 f1 f3 f4 f5⟩
  self := fun _ _ _ _ _ st h => wpAny_pyIter_rangeiter st h
end L2
namespace L2
open PySem PySem.Spec PyProof.Rows
section
variable {X : Cx} {tg : Expr}
def iList (K : PySem.W.Frag) (tl : TE) : TI := fun σ H R => tl σ H fun x H1 => ∃ a, x = .ref a ∧ (∃ xs, SqL K H1 a xs) ∧ R (Itl K a) H1
def iTup (K : PySem.W.Frag) (tl : TE) : TI := fun σ H R => tl σ H fun x H1 => ∃ a, x = .ref a ∧ (∃ xs, SqT K H1 a xs) ∧ R (Itt K a) H1
theorem pi_list {l : Expr} {tl : TE} (hl : PE X l tl) : PI X tg l (iList X.K tl) := by
  intro pins s σ H R I h
  refine thn (hl pins s σ H _ I h) fun v s1 ⟨x, H1, I1, r1, q1⟩ => ?_
  obtain ⟨a, e, ⟨xs, hq⟩, q⟩ := q1
  subst e
  cases r1
  obtain ⟨its, rv, p, hz⟩ := I1.list hq
  refine wpAny_pyIter_list p.isList ?_
  refine ⟨s1.heap.objs.size, [s1.heap.objs.size], _, _, H1, rfl, I1.kept (t' := s1.toks) fun b o e => Heap.get?_push_of_some _ e, turn_list a _, ⟨_, Heap.get?_push_size _ rfl, rfl, rfl⟩, fun b hb => ?_, q⟩
  have e : b = s1.heap.objs.size := by simpa using hb
  subst e
  exact I1.fpOk (Nat.le_refl _) (I1.hok.fresh (Nat.le_refl _))
theorem pi_tup {l : Expr} {tl : TE} (hl : PE X l tl) : PI X tg l (iTup X.K tl) := by
  intro pins s σ H R I h
  refine thn (hl pins s σ H _ I h) fun v s1 ⟨x, H1, I1, r1, q1⟩ => ?_
  obtain ⟨a, e, ⟨xs, hq⟩, q⟩ := q1
  subst e
  cases r1
  obtain ⟨its, rv, p, hz⟩ := I1.tuple hq
  refine wpAny_pyIter_tuple (show s1.heap.IsTuple a its.toArray from p) ?_
  refine ⟨s1.heap.objs.size, [s1.heap.objs.size], _, _, H1, rfl, I1.kept (t' := s1.toks) fun b o e => Heap.get?_push_of_some _ e, turn_tuple a _, ⟨_, Heap.get?_push_size _ rfl, rfl, rfl⟩, fun b hb => ?_, q⟩
  have e : b = s1.heap.objs.size := by simpa using hb
  subst e
  exact I1.fpOk (Nat.le_refl _) (I1.hok.fresh (Nat.le_refl _))
theorem range_it {pins : List (Addr × Obj)} {σ : St} {H : Hp} {s : Shared} {R : It → Hp → Prop} {E : Value → Shared → Prop} {lo hi : Int} {t u v : Tok} {tk : Nat} (I : Inv X pins σ H s) (h1 : -(2 ^ 62) ≤ lo) (h2 : lo < 2 ^ 62) (h3 : -(2 ^ 62) ≤ hi) (h4 : hi < 2 ^ 62)
    (q : R (Itr lo (hi - lo).toNat) H) : wpAny (model X.prog X.w) X.A (pyIter (.ref s.heap.objs.size)) (PIE X pins σ tg R) E { s with heap := s.heap.push { cls := .type "range", data := .fields #[.int lo t, .int hi u, .int 1 v] }, toks := tk } := by
  refine wpAny_pyIter_range (IsRange.new ..) (small_one h1 h2 h3 h4) ?_
  have I1 : Inv X pins σ H { s with heap := s.heap.push { cls := .type "range", data := .fields #[.int lo t, .int hi u, .int 1 v] }, toks := tk } := I.kept fun b o e => Heap.get?_push_of_some _ e
  refine ⟨(s.heap.push { cls := .type "range", data := .fields #[.int lo t, .int hi u, .int 1 v] }).objs.size, [(s.heap.push { cls := .type "range", data := .fields #[.int lo t, .int hi u, .int 1 v] }).objs.size], _, _, H, rfl,
    I1.kept (t' := tk) fun b o e => Heap.get?_push_of_some _ e, turn_range _ lo (hi - lo).toNat, ?_, fun b hb => ?_, q⟩
  · have e1 : lo + ((0 : Nat) : Int) * 1 = lo := by simp
    have e2 : (((hi - lo).toNat : Nat) : Int) - ((0 : Nat) : Int) = Builtin.Range.rangeSize lo hi 1 := by rw [rangeSize_one]; split <;> omega
    show IsRangeIter _ _ (lo + ((0 : Nat) : Int) * 1) ((((hi - lo).toNat : Nat) : Int) - ((0 : Nat) : Int)) 1
    rw [e1, e2]
    exact Heap.get?_push_size _ rfl
  · have e : b = (s.heap.push { cls := .type "range", data := .fields #[.int lo t, .int hi u, .int 1 v] }).objs.size := by simpa using hb
    subst e
    exact I1.fpOk (Nat.le_refl _) (I1.hok.fresh (Nat.le_refl _))
def iRng1 (ta : TA) : TI := fun σ H R => ta σ H fun vs H1 => ∃ j : Int, vs = [.int j] ∧ -(2 ^ 62) ≤ j ∧ j < 2 ^ 62 ∧ R (Itr 0 j.toNat) H1
theorem pi_range1 {a : Expr} {ta : TA} {p pos : Pos} (hg : Gl X "range") (hm : X.mg "range" = none) (ha : PA X [a] ta) (hs : starEach [a] X.env = [(false, eval a X.env)] := by rfl) : PI X tg (.Call (.Name "range" p) [a] [] pos) (iRng1 ta) := by
  intro pins s σ H R I h
  refine Call_ (ld_blt I hg hm boot_range (PyProof.Rows.callWith_type1 (thn (ha pos pins s σ H _ I h) fun us s1 ⟨vs, H1, I1, r1, q1⟩ => ?_) hs rfl))
  obtain ⟨j, e, q1, q2, q⟩ := q1
  subst e
  cases r1 with
  | cons r rr =>
    cases rr
    obtain ⟨t, rfl⟩ := r
    exact call_range_1 (range_it I1 (by omega) (by omega) q1 q2 (by simpa using q))
def tFor (wi : TI) (g : TG) (tb : TS) : TS := fun D σ H => wi σ H fun J H1 => ∃ W : Nat → Nat → St → Hp → Prop, (∃ m, W 0 m σ H1) ∧ ∀ i m σ H, W i m σ H →
  (J.stop i H ∧ D.nx σ H) ∨ (J.go i H ∧ ∃ N : St → Hp → Prop, (∀ σ' H', N σ' H' → ∃ m', m' < m ∧ W (i + 1) m' σ' H') ∧ ∀ x H', J.yld i H x H' → g x σ H' fun σ2 H2 => tb { D with nx := N, ct := N, bk := D.nx } σ2 H2)
def pinsAt (fp : List Addr) (h : Heap) : List (Addr × Obj) := fp.filterMap fun b => (h.get? b).map fun o => (b, o)
theorem mem_pinsAt {fp : List Addr} {h : Heap} {b : Addr} {o : Obj} (hb : b ∈ fp) (e : h.get? b = some o) : (b, o) ∈ pinsAt fp h := List.mem_filterMap.mpr ⟨b, hb, by rw [e]; rfl⟩
theorem of_pinsAt {fp : List Addr} {h : Heap} {p : Addr × Obj} (hp : p ∈ pinsAt fp h) : p.1 ∈ fp ∧ h.get? p.1 = some p.2 := by
  obtain ⟨b, hb, e⟩ := List.mem_filterMap.mp hp
  cases q : h.get? b with
  | none => rw [q] at e; cases e
  | some o =>
    rw [q] at e
    have e' : (b, o) = p := Option.some.inj e
    subst e'
    exact ⟨hb, q⟩
theorem Inv.pinned {pins : List (Addr × Obj)} {σ : St} {H : Hp} {s : Shared} {fp : List Addr} (I : Inv X pins σ H s) (hf : ∀ b ∈ fp, FpOk X pins H b) (ho : ∀ b ∈ fp, ∃ o, s.heap.get? b = some o ∧ ∀ v, o.data ≠ .cell v) : Inv X (pins ++ pinsAt fp s.heap) σ H s :=
  I.pins_of fun p hp => (List.mem_append.mp hp).elim (fun z => I.pin p (List.mem_append_right _ z)) fun z => by
    obtain ⟨hb, e⟩ := of_pinsAt z
    obtain ⟨f0, f1, f2, _⟩ := hf p.1 hb
    obtain ⟨o, e', d⟩ := ho p.1 hb
    rw [e] at e'; cases e'
    exact ⟨e, f0, f1, f2, d⟩
theorem Inv.unpinned {pins pl : List (Addr × Obj)} {σ : St} {H : Hp} {s : Shared} (I : Inv X (pins ++ pl) σ H s) : Inv X pins σ H s := I.pins_of fun p hp => I.pin p (List.mem_append_right _ (List.mem_append_left _ hp))
theorem ps_for {iter : Expr} {body : List Stmt} {wi : TI} {g : TG} {tb : TS} {pos : Pos} (hp : PassesOwn (model X.prog X.w) X.A X.env X.xe) (hc : X.calm = true) (hi : PI X tg iter wi) (hg : PG X tg g) (hb : PSs X body tb)
    (hs : ∀ x, foldedSetIterable iter X.env x = pure x := by intro _; rfl) : PS X (.For tg iter body [] pos) (tFor wi g tb) := by
  intro pins s σ H D I h
  refine wpAny_For (thn (hi pins s σ H _ I h) fun v s1 h1 => thn h1 fun itv s2 h2 => ?_) hs
  obtain ⟨it, fp, tn, J, H2, e, I2, T, st2, f2, W, ⟨m0, w0⟩, turn⟩ := h2
  subst e
  -- what stays true of the iterator's objects through the loop
  have stat : ∀ {H' : Hp}, (∀ b ∈ fp, H' b = none) → ∀ b ∈ fp, FpOk X pins H' b := fun hn b hb => ⟨hn b hb, (f2 b hb).2⟩
  refine codeAny_forLoop_any (fun n s' => ∃ i σ' H', Inv X pins σ' H' s' ∧ tn i s'.heap ∧ (∀ b ∈ fp, H' b = none) ∧ W i n σ' H') ?_ m0 ⟨0, σ, H2, I2, st2, fun b hb => (f2 b hb).1, w0⟩
  rintro n s3 ⟨i, σ3, H3, I3, st3, fr3, w3⟩
  rcases turn i n σ3 H3 w3 with ⟨stop, qn⟩ | ⟨go, N, hN, step⟩
  · refine wpAny_passesOwn hp (thn (T.done X rfl rfl rfl hc i pins s3 σ3 H3 X.xe I3 (stat fr3) st3 stop) fun r s4 ⟨hr, I4⟩ => ?_)
    subst hr
    exact wpAny_execs_nil ⟨σ3, H3, I4, qn⟩
  · refine wpAny_passesOwn hp (thn (T.item X rfl rfl rfl hc i pins s3 σ3 H3 X.xe I3 (stat fr3) st3 go) fun r s4 ⟨u, hr, h4⟩ => ?_)
    subst hr
    refine wpAny_passesOwn hp (thn h4 fun _ s5 ⟨x, H5, I5, r5, y5, st5, fr5⟩ => ?_)
    have I5' := I5.pinned (stat fr5) (T.obj _ _ st5)
    refine wpAny_passesOwn hp (thn (hg _ s5 σ3 H5 x u _ I5' r5 (step x H5 y5)) fun _ s6 ⟨σ6, H6, I6, q6⟩ => ?_)
    refine wpAny_passesOwn hp (thn (hb _ s6 σ6 H6 _ I6 q6) fun f s7 q7 => ?_)
    have again : ∀ {σ7 : St} {H7 : Hp}, Inv X (pins ++ pinsAt fp s5.heap) σ7 H7 s7 → N σ7 H7 → ∃ m, m < n ∧ ∃ i σ' H', Inv X pins σ' H' s7 ∧ tn i s7.heap ∧ (∀ b ∈ fp, H' b = none) ∧ W i m σ' H' := fun {σ7 H7} I7 n7 => by
      obtain ⟨m', hm, w7⟩ := hN σ7 H7 n7
      refine ⟨m', hm, i + 1, σ7, H7, I7.unpinned, T.keep _ _ _ st5 fun b hb o e => (I7.pin (b, o) (List.mem_append_right _ (List.mem_append_right _ (mem_pinsAt hb e)))).1, fun b hb => ?_, w7⟩
      obtain ⟨o, e, d⟩ := T.obj _ _ st5 b hb
      exact (I7.pin (b, o) (List.mem_append_right _ (List.mem_append_right _ (mem_pinsAt hb e)))).2.1
    cases f with
    | next => obtain ⟨σ7, H7, I7, n7⟩ := q7; exact again I7 n7
    | cont => obtain ⟨σ7, H7, I7, n7⟩ := q7; exact again I7 n7
    | brk => obtain ⟨σ7, H7, I7, q7⟩ := q7; exact ⟨σ7, H7, I7.unpinned, q7⟩
    | ret v => obtain ⟨x7, σ7, H7, I7, r7, q7⟩ := q7; exact ⟨x7, σ7, H7, I7.unpinned, r7, q7⟩
end
end L2
namespace L2
open PySem PySem.Spec PyProof.Rows
abbrev R2 := V → V → Hp → VK → Prop
def OpR (X : Cx) (f : Value → Value → Sem Value) (r : R2) : Prop :=
  ∀ (pins : List (Addr × Obj)) (s : Shared) (σ : St) (H : Hp) (x y : V) (v u : Value) (Q : VK), Inv X pins σ H s → RelV x v → RelV y u → r x y H Q →
    wpAny (model X.prog X.w) X.A (f v u) (EP X pins σ Q) X.xe s
def UnR (X : Cx) (f : Value → Sem Value) (r : V → Hp → VK → Prop) : Prop :=
  ∀ (pins : List (Addr × Obj)) (s : Shared) (σ : St) (H : Hp) (x : V) (v : Value) (Q : VK), Inv X pins σ H s → RelV x v → r x H Q →
    wpAny (model X.prog X.w) X.A (f v) (EP X pins σ Q) X.xe s
def CallR (X : Cx) (f : Value) (r : List V → Hp → VK → Prop) : Prop :=
  ∀ (pins : List (Addr × Obj)) (s : Shared) (σ : St) (H : Hp) (xs : List V) (us : List Value) (Q : VK), Inv X pins σ H s → Vals xs us → r xs H Q →
    wpAny (model X.prog X.w) X.A (call f us) (EP X pins σ Q) X.xe s
def tOp (r : R2) (ta tb : TE) : TE := fun σ H Q => ta σ H fun x H1 => tb σ H1 fun y H2 => r x y H2 Q
def tUn (r : V → Hp → VK → Prop) (ta : TE) : TE := fun σ H Q => ta σ H fun x H1 => r x H1 Q
def rI (C : Int → Int → Prop) (g : Int → Int → V) : R2 := fun x y H Q => ∃ i j, x = .int i ∧ y = .int j ∧ C i j ∧ Q (g i j) H
def rI0 (g : Int → Int → V) : R2 := fun x y H Q => ∃ i j, x = .int i ∧ y = .int j ∧ Q (g i j) H
def rU (g : Int → V) : V → Hp → VK → Prop := fun x H Q => ∃ i, x = .int i ∧ Q (g i) H
section
variable {X : Cx} {a b c : Expr} {ta tb tc : TE} {pos : Pos}
theorem binT (ha : PE X a ta) (hb : PE X b tb) {pins : List (Addr × Obj)} {s : Shared} {σ : St} {H : Hp} {R : V → V → Hp → Prop} (I : Inv X pins σ H s)
    (h : ta σ H fun x H1 => tb σ H1 fun y H2 => R x y H2) {Q : Value → Shared → Prop} {f : Value → Value → Sem Value}
    (hf : ∀ v u s2 x y H2, Inv X pins σ H2 s2 → RelV x v → RelV y u → R x y H2 → wpAny (model X.prog X.w) X.A (f v u) Q X.xe s2) :
    wpAny (model X.prog X.w) X.A (eval a X.env) (fun v s₁ => wpAny (model X.prog X.w) X.A (eval b X.env) (fun u s₂ => wpAny (model X.prog X.w) X.A (f v u) Q X.xe s₂) X.xe s₁) X.xe s := by
  refine thn (ha pins s σ H _ I h) fun v s1 ⟨x, H1, I1, r1, q1⟩ => ?_
  refine thn (hb pins s1 σ H1 _ I1 q1) fun u s2 ⟨y, H2, I2, r2, q2⟩ => ?_
  exact hf v u s2 x y H2 I2 r1 r2 q2
theorem pe_op {op : Operator} {r : R2} (ho : OpR X (binaryOp op) r) (ha : PE X a ta) (hb : PE X b tb) : PE X (.BinOp a op b pos) (tOp r ta tb) := by
  intro pins s σ H Q I h
  exact wpAny_BinOp (binT ha hb I h fun v u s2 x y H2 I2 rx ry q => ho pins s2 σ H2 x y v u Q I2 rx ry q)
theorem pe_un {op : UnaryOp} {r : V → Hp → VK → Prop} (ho : UnR X (unaryOp op) r) (ha : PE X a ta) : PE X (.UnaryOp op a pos) (tUn r ta) := by
  intro pins s σ H Q I h
  exact UnaryOp_ (thn (ha pins s σ H _ I h) fun v s1 ⟨x, H1, I1, r1, q1⟩ => ho pins s1 σ H1 x v Q I1 r1 q1)
theorem opI {f : Value → Value → Sem Value} {C : Int → Int → Prop} {g : Int → Int → Int}
    (rule : ∀ (i j : Int) (t u : Tok) (s : Shared) (Q : Value → Shared → Prop) (E : Value → Shared → Prop), C i j → Q (.int (g i j) s.toks) { s with toks := s.toks + 1 } → wpAny (model X.prog X.w) X.A (f (.int i t) (.int j u)) Q E s) :
    OpR X f (rI C fun i j => .int (g i j)) := by
  intro pins s σ H x y v u Q I rx ry h
  obtain ⟨i, j, rfl, rfl, hc, q⟩ := h
  obtain ⟨t, rfl⟩ := rx
  obtain ⟨t', rfl⟩ := ry
  exact rule i j t t' s _ _ hc ⟨.int (g i j), H, I.tok _, ⟨_, rfl⟩, q⟩
theorem opI0 {f : Value → Value → Sem Value} {g : Int → Int → Int}
    (rule : ∀ (i j : Int) (t u : Tok) (s : Shared) (Q : Value → Shared → Prop) (E : Value → Shared → Prop), Q (.int (g i j) s.toks) { s with toks := s.toks + 1 } → wpAny (model X.prog X.w) X.A (f (.int i t) (.int j u)) Q E s) :
    OpR X f (rI0 fun i j => .int (g i j)) := by
  intro pins s σ H x y v u Q I rx ry h
  obtain ⟨i, j, rfl, rfl, q⟩ := h
  obtain ⟨t, rfl⟩ := rx
  obtain ⟨t', rfl⟩ := ry
  exact rule i j t t' s _ _ ⟨.int (g i j), H, I.tok _, ⟨_, rfl⟩, q⟩
theorem opB0 {f : Value → Value → Sem Value} {g : Int → Int → Bool}
    (rule : ∀ (i j : Int) (t u : Tok) (s : Shared) (Q : Value → Shared → Prop) (E : Value → Shared → Prop), Q (.bool (g i j)) s → wpAny (model X.prog X.w) X.A (f (.int i t) (.int j u)) Q E s) :
    OpR X f (rI0 fun i j => .bl (g i j)) := by
  intro pins s σ H x y v u Q I rx ry h
  obtain ⟨i, j, rfl, rfl, q⟩ := h
  obtain ⟨t, rfl⟩ := rx
  obtain ⟨t', rfl⟩ := ry
  exact rule i j t t' s _ _ ⟨.bl (g i j), H, I, rfl, q⟩
def CDiv (i j : Int) : Prop := 0 < j ∧ j < 1073741824
def CPow (i j : Int) : Prop := 0 ≤ j ∧ j ≤ 1000000 ∧ i.natAbs < 2 ^ 64
def CMul (i j : Int) : Prop := (-(2 ^ 64) < i ∧ i < 2 ^ 64) ∨ (-(2 ^ 64) < j ∧ j < 2 ^ 64)
theorem CMul.ok {i j : Int} (h : CMul i j) : IntMulOk i j := by
  rcases h with ⟨h1, h2⟩ | ⟨h1, h2⟩
  · exact .of_left (intBits_le_64 h1 h2)
  · exact .of_right (intBits_le_64 h1 h2)
theorem op_add : OpR X (binaryOp .Add) (rI0 fun i j => .int (i + j)) := opI0 fun _ _ _ _ _ _ _ q => add_int q
theorem op_sub : OpR X (binaryOp .Sub) (rI0 fun i j => .int (i - j)) := opI0 fun _ _ _ _ _ _ _ q => sub_int q
theorem op_fdiv : OpR X (binaryOp .FloorDiv) (rI CDiv fun i j => .int (i / j)) := opI fun i j _ _ _ _ _ hc q => by
  have h1 : (0 : Int) < j := hc.1
  have h2 : j < 1073741824 := hc.2
  exact floordiv_int (by omega) (by rw [Int.fdiv_eq_ediv_of_nonneg i (by omega)]; exact q) (.inl (PyProof.noPylong_small (by omega)))
theorem op_mod : OpR X (binaryOp .Mod) (rI (fun _ j => 0 < j) fun i j => .int (i % j)) := opI fun i j _ _ _ _ _ hc q => by
  have h1 : (0 : Int) < j := hc
  exact mod_int' (by omega) (by rw [Int.fmod_eq_emod_of_nonneg i (by omega)]; exact q)
theorem op_pow : OpR X (binaryOp .Pow) (rI CPow fun i j => .int (i ^ j.toNat)) := opI fun _ _ _ _ _ _ _ hc q => pow_int_small hc.1 hc.2.1 hc.2.2 q
theorem unI {f : Value → Sem Value} {g : Int → Int}
    (rule : ∀ (i : Int) (t : Tok) (s : Shared) (Q : Value → Shared → Prop) (E : Value → Shared → Prop), Q (.int (g i) s.toks) { s with toks := s.toks + 1 } → wpAny (model X.prog X.w) X.A (f (.int i t)) Q E s) :
    UnR X f (rU fun i => .int (g i)) := by
  intro pins s σ H x v Q I rx h
  obtain ⟨i, rfl, q⟩ := h
  obtain ⟨t, rfl⟩ := rx
  exact rule i t s _ _ ⟨.int (g i), H, I.tok _, ⟨_, rfl⟩, q⟩
theorem un_neg : UnR X (unaryOp .USub) (rU fun i => .int (-i)) := unI fun _ _ _ _ _ q => neg_int q
end
def scal : V → V → Bool
  | .non, .non => true | .non, .int _ => true | .int _, .non => true | .non, .bl _ => true | .bl _, .non => true | .non, .str _ => true | .str _, .non => true
  | .int _, .int _ => true | .bl _, .bl _ => true | .str _, .str _ => true | .byt _, .byt _ => true
  | .int _, .str _ => true | .str _, .int _ => true | .bl _, .str _ => true | .str _, .bl _ => true
  | _, _ => false
def rEq : R2 := fun x y H Q => scal x y = true ∧ Q (.bl (decide (x = y))) H
theorem dec_int {i j : Int} : decide (V.int i = V.int j) = (i == j) := by
  rw [Bool.eq_iff_iff]
  simp
theorem dec_bl {i j : Bool} : decide (V.bl i = V.bl j) = (i == j) := by
  rw [Bool.eq_iff_iff]
  simp
theorem dec_str {i j : Str} : decide (V.str i = V.str j) = (i == j) := by
  rw [Bool.eq_iff_iff]
  simp
theorem dec_byt {i j : Array UInt8} : decide (V.byt i = V.byt j) = (i.toList == j.toList) := by
  rw [Bool.eq_iff_iff]
  cases i
  cases j
  simp
section
variable {X : Cx} {a b c : Expr} {ta tb tc : TE} {pos : Pos}
theorem fin_bl {pins : List (Addr × Obj)} {σ : St} {H : Hp} {s : Shared} {Q : VK} {k k' : Bool} (I : Inv X pins σ H s) (q : Q (.bl k) H) (e : k = k') : EP X pins σ Q (.bool k') s := by
  subst e
  exact ⟨.bl k, H, I, rfl, q⟩
theorem op_eq : OpR X (compareOp .Eq) rEq := by
  intro pins s σ H x y v u Q I rx ry h
  obtain ⟨hs, q⟩ := h
  cases x with
  | non =>
    cases rx
    cases y with
    | non => cases ry; exact PySem.EqNone.eq_none_none (fin_bl I q (by simp))
    | bl j => cases ry; exact PySem.EqNone.eq_none_bool (fin_bl I q (by simp))
    | int j => obtain ⟨t', rfl⟩ := ry; exact PySem.EqNone.eq_none_int (fin_bl I q (by simp))
    | str j => obtain ⟨t', rfl⟩ := ry; exact PySem.EqNone.eq_none_str (fin_bl I q (by simp))
    | _ => exact absurd (show false = true from hs) Bool.false_ne_true
  | bl i =>
    cases rx
    cases y with
    | non => cases ry; exact PySem.EqNone.eq_bool_none (fin_bl I q (by simp))
    | bl j => cases ry; exact eq_bool (fin_bl I q dec_bl)
    | str j => obtain ⟨t', rfl⟩ := ry; exact PySem.EqMixed.eq_bool_str (fin_bl I q (by simp))
    | _ => exact absurd (show false = true from hs) Bool.false_ne_true
  | int i =>
    obtain ⟨t, rfl⟩ := rx
    cases y with
    | non => cases ry; exact PySem.EqNone.eq_int_none (fin_bl I q (by simp))
    | int j => obtain ⟨t', rfl⟩ := ry; exact eq_int (fin_bl I q dec_int)
    | str j => obtain ⟨t', rfl⟩ := ry; exact PySem.EqMixed.eq_int_str (fin_bl I q (by simp))
    | _ => exact absurd (show false = true from hs) Bool.false_ne_true
  | str i =>
    obtain ⟨t, rfl⟩ := rx
    cases y with
    | non => cases ry; exact PySem.EqNone.eq_str_none (fin_bl I q (by simp))
    | bl j => cases ry; exact PySem.EqMixed.eq_str_bool (fin_bl I q (by simp))
    | int j => obtain ⟨t', rfl⟩ := ry; exact PySem.EqMixed.eq_str_int (fin_bl I q (by simp))
    | str j => obtain ⟨t', rfl⟩ := ry; exact eq_str (fin_bl I q dec_str)
    | _ => exact absurd (show false = true from hs) Bool.false_ne_true
  | byt i =>
    obtain ⟨t, rfl⟩ := rx
    cases y with
    | byt j => obtain ⟨t', rfl⟩ := ry; exact PySem.W.eq_bytes (fin_bl I q dec_byt)
    | _ => exact absurd (show false = true from hs) Bool.false_ne_true
  | _ => cases y <;> exact absurd (show false = true from hs) Bool.false_ne_true
theorem op_lt : OpR X (compareOp .Lt) (rI0 fun i j => .bl (decide (i < j))) := opB0 fun _ _ _ _ _ _ _ q => lt_int q
theorem op_gt : OpR X (compareOp .Gt) (rI0 fun i j => .bl (decide (j < i))) := opB0 fun _ _ _ _ _ _ _ q => gt_int q
theorem OpR.or {f : Value → Value → Sem Value} {r r' : R2} (h : OpR X f r) (h' : OpR X f r') : OpR X f (fun x y H Q => r x y H Q ∨ r' x y H Q) := by
  intro pins s σ H x y v u Q I rx ry q
  rcases q with q | q
  · exact h pins s σ H x y v u Q I rx ry q
  · exact h' pins s σ H x y v u Q I rx ry q
theorem nomark (b : Expr) {op : CmpOp} (h : op ≠ .In := by decide) (h2 : op ≠ .NotIn := by decide) : behindInMarks op b = false := by
  have e1 : (op == CmpOp.In) = false := by cases op <;> first | rfl | exact absurd rfl h
  have e2 : (op == CmpOp.NotIn) = false := by cases op <;> first | rfl | exact absurd rfl h2
  cases b <;> simp [behindInMarks, e1, e2]
theorem pe_cmpR {op : CmpOp} {r : R2} (ho : OpR X (compareOp op) r) (ha : PE X a ta) (hb : PE X b tb) (hm : behindInMarks op b = false) : PE X (.Compare a [op] [b] pos) (tOp r ta tb) := by
  intro pins s σ H Q I h
  exact wpAny_Compare1 (binT ha hb I h fun v u s2 x y H2 I2 rx ry q => ho pins s2 σ H2 x y v u Q I2 rx ry q) hm
def tTest (t : TE) : TT := fun σ H Q => t σ H fun x H' => ∃ k, x = .bl k ∧ Q k H'
theorem pt_cmpR {op : CmpOp} {r : R2} (ho : OpR X (compareOp op) r) (ha : PE X a ta) (hb : PE X b tb) (hm : behindInMarks op b = false) : PT X (.Compare a [op] [b] pos) (tTest (tOp r ta tb)) := by
  intro pins s σ H Q I h
  refine wpAny_isTrue_Compare1 (thn (ha pins s σ H _ I h) fun v s1 ⟨x, H1, I1, r1, q1⟩ => thn (hb pins s1 σ H1 _ I1 q1) fun u s2 ⟨y, H2, I2, r2, q2⟩ =>
    thn (ho pins s2 σ H2 x y v u _ I2 r1 r2 q2) fun c s3 ⟨z, H3, I3, r3, k, e, q3⟩ => ?_) hm
  subst e
  cases r3
  exact wpAny_truthy_bool ⟨H3, I3, q3⟩
def tChain (r r' : R2) (ta tb tc : TE) : TE := fun σ H Q => ta σ H fun x H1 => tb σ H1 fun y H2 => r x y H2 fun z H3 => ∃ k, z = .bl k ∧
  (if k = true then tc σ H3 fun w' H4 => r' y w' H4 Q else Q (.bl false) H3)
theorem pe_chain {op op' : CmpOp} {r r' : R2} (ho : OpR X (compareOp op) r) (ho' : OpR X (compareOp op') r') (ha : PE X a ta) (hb : PE X b tb) (hc : PE X c tc)
    (hm : lastMarks [op, op'] [b, c] = false := by with_unfolding_all rfl) : PE X (.Compare a [op, op'] [b, c] pos) (tChain r r' ta tb tc) := by
  intro pins s σ H Q I h
  refine Compare_chain (thn (ha pins s σ H _ I h) fun v s1 ⟨x, H1, I1, r1, q1⟩ => chain_link (thn (hb pins s1 σ H1 _ I1 q1) fun u s2 ⟨y, H2, I2, r2, q2⟩ =>
    thn (ho pins s2 σ H2 x y v u _ I2 r1 r2 q2) fun d s3 ⟨z, H3, I3, r3, k, e, q3⟩ => ?_)) hm
  subst e
  cases r3
  refine wpAny_truthy_bool ?_
  cases k with
  | false => exact ite_ff ⟨.bl false, H3, I3, rfl, q3⟩
  | true => exact ite_tt (chain_last (thn (hc pins s3 σ H3 _ I3 q3) fun w' s4 ⟨z', H4, I4, r4, q4⟩ => ho' pins s4 σ H4 y z' u w' Q I4 r2 r4 q4))
theorem line63 : (sizeLine : Nat) < 2 ^ 63 := by rw [sizeLine_eq]; decide
theorem vals1 {x : V} {us : List Value} (r : Vals [x] us) : ∃ u, us = [u] ∧ RelV x u := by
  cases r with
  | cons r1 r2 => cases r2; exact ⟨_, rfl, r1⟩
theorem vals2 {x y : V} {us : List Value} (r : Vals [x, y] us) : ∃ u w', us = [u, w'] ∧ RelV x u ∧ RelV y w' := by
  cases r with
  | cons r1 r2 =>
    cases r2 with
    | cons r3 r4 => cases r4; exact ⟨_, _, rfl, r1, r3⟩
theorem call_abs : CallR X (.builtin "abs") (fun xs H Q => ∃ i, xs = [.int i] ∧ Q (.int (if i < 0 then -i else i)) H) := by
  intro pins s σ H xs us Q I r h
  obtain ⟨i, rfl, q⟩ := h
  obtain ⟨u, rfl, t, rfl⟩ := vals1 r
  exact call_abs_int fun u tk => ⟨.int (if i < 0 then -i else i), H, I.tok _, ⟨_, rfl⟩, q⟩
theorem call_max2 (hc : X.calm = true) : CallR X (.builtin "max") (fun xs H Q => ∃ i j, xs = [.int i, .int j] ∧ Q (.int (if j > i then j else i)) H) := by
  intro pins s σ H xs us Q I r h
  obtain ⟨i, j, rfl, q⟩ := h
  obtain ⟨u, w', rfl, ⟨t, rfl⟩, ⟨t', rfl⟩⟩ := vals2 r
  refine max_two_ints (I.ok.hd hc) fun h' tk k => ⟨_, H, I.kept k, ?_, q⟩
  by_cases hj : j > i
  · rw [if_pos hj, if_pos hj]; exact ⟨_, rfl⟩
  · rw [if_neg hj, if_neg hj]; exact ⟨_, rfl⟩
theorem call_min2 (hc : X.calm = true) : CallR X (.builtin "min") (fun xs H Q => ∃ i j, xs = [.int i, .int j] ∧ Q (.int (if j < i then j else i)) H) := by
  intro pins s σ H xs us Q I r h
  obtain ⟨i, j, rfl, q⟩ := h
  obtain ⟨u, w', rfl, ⟨t, rfl⟩, ⟨t', rfl⟩⟩ := vals2 r
  refine min_two_ints (I.ok.hd hc) fun h' tk k => ⟨_, H, I.kept k, ?_, q⟩
  by_cases hj : j < i
  · rw [if_pos hj, if_pos hj]; exact ⟨_, rfl⟩
  · rw [if_neg hj, if_neg hj]; exact ⟨_, rfl⟩
end
end L2
namespace L2
open PySem PySem.Spec PyProof.Rows
structure ObjM (h : Heap) (x dx C : Addr) (mA : Str → Option Value) : Prop where
  obj : h.get? x = some (PySem.W.instObj C dx)
  ns : h.Ns1 dx mA
  ne : dx ≠ x
theorem lookIn_ns {h : Heap} {dx : Addr} {mA : Str → Option Value} (n : h.Ns1 dx mA) : ∃ od, h.get? dx = some od ∧ ∀ name, PySem.W.lookIn name od = some (mA name) := by
  obtain ⟨o, es, ep, ho, hd, hk, _, hm⟩ := n
  refine ⟨o, ho, fun name => ?_⟩
  have e := hm name
  unfold nsFind findBy at e
  rw [← Array.find?_toList] at e
  unfold PySem.W.lookIn
  rw [hd]
  dsimp only
  split
  · rename_i y q
    rw [q] at e
    exact congrArg some e
  · rename_i q
    rw [q] at e
    have a : es.toList.any (·.refKey) = false := by
      rw [List.any_eq_false]
      intro y hy
      obtain ⟨z, t, hkey⟩ := hk y (Array.mem_toList_iff.mp hy)
      simp [DictEntry.refKey, hkey]
    have a' : ¬ es.toList.any (·.refKey) = true := by rw [a]; exact Bool.false_ne_true
    rw [if_neg a']
    exact congrArg some e
theorem ObjM.look {h : Heap} {x dx C : Addr} {mA : Str → Option Value} (I : ObjM h x dx C mA) : ∃ od, PySem.W.InstAt h x (PySem.W.instObj C dx) C (some od) ∧ ∀ name, PySem.W.lookIn name od = some (mA name) :=
  let ⟨od, ho, hl⟩ := lookIn_ns I.ns
  ⟨od, ⟨I.obj, rfl, rfl, ho⟩, hl⟩
section
variable {prog : Program} {w : World} {A : Around} {E : Value → Shared → Prop} {s : Shared} {K : PySem.W.Frag} {x dx C f : Addr} {mA : Str → Option Value} {name : Str} {v : Value}
end
section
variable {P : Program} {w : World} {H H' : Hp} {h h' : Heap} {a C dx : Addr} {fs fs' : List (Str × V)}
end
structure Cls (K : PySem.W.Frag) (C : Addr) : Prop where
  pg : PySem.W.plainGet K C Str.empty = true
  hd : PySem.W.hasDictIn K C = true
  po : PySem.W.plainOver K C = true
  sa : PySem.W.findIn K (.ref C) "__setattr__" = some (some (.builtin "object.__setattr__"))
theorem Cls.get {K : PySem.W.Frag} {C : Addr} (c : Cls K C) (f : Str) : PySem.W.plainGet K C f = true := c.pg
structure Con (K : PySem.W.Frag) (C : Addr) (f : Str) (v : V) (u : Value) : Prop where
  at_ : PySem.W.findIn K (.ref C) f = some (some u)
  rel : RelV v u
  get : PySem.W.specialIn K u "__get__" = some none
  cp : PySem.W.copiedNames.contains f = false
structure Meth (K : PySem.W.Frag) (C : Addr) (m : Str) (f : Addr) : Prop where
  at_ : PySem.W.findIn K (.ref C) m = some (some (.ref f))
  fn : PySem.W.isFn K (.ref f) = true
  kp : PySem.W.keepIn K (.ref f) = true
section
variable {X : Cx} {pins : List (Addr × Obj)} {σ : St} {H : Hp} {s : Shared} {a C dx : Addr} {fs : List (Str × V)} {f : Str} {v : V} {A : Around} {E : Value → Shared → Prop}
theorem Inv.made (I : Inv X pins σ H s) : Inv X pins σ (upd (upd H s.heap.objs.size (.own (s.heap.objs.size + 1))) (s.heap.objs.size + 1) (.ins C s.heap.objs.size []))
    { s with heap := (s.heap.push PySem.W.emptyDict).push (PySem.W.instObj C s.heap.objs.size) } := by
  have e1 : (s.heap.push PySem.W.emptyDict).get? s.heap.objs.size = some PySem.W.emptyDict := Heap.get?_push_size s.heap rfl
  have e2 : ((s.heap.push PySem.W.emptyDict).push (PySem.W.instObj C s.heap.objs.size)).get? (s.heap.objs.size + 1) = some (PySem.W.instObj C s.heap.objs.size) := by
    have := Heap.get?_push_size (s.heap.push PySem.W.emptyDict) (o := PySem.W.instObj C s.heap.objs.size) rfl
    rwa [Heap.size_push] at this
  have e3 : (s.heap.push PySem.W.emptyDict).Ns s.heap.objs.size (fun _ => none) := ⟨PySem.W.emptyDict, #[], _, e1, rfl, (fun e he => absurd he (by simp)), fun _ => rfl⟩
  have I1 := I.laid (a := s.heap.objs.size) (o := .own (s.heap.objs.size + 1)) (h' := s.heap.push PySem.W.emptyDict) (t' := s.toks) (fun b u q => Heap.get?_push_of_some _ q) (Nat.le_refl _) ⟨_, e1⟩
  refine I1.laid (a := s.heap.objs.size + 1) (o := .ins C s.heap.objs.size []) (t' := s.toks) (fun b u q => Heap.get?_push_of_some _ q) (Nat.le_of_eq (Heap.size_push _ _)) ?_
  have ne : s.heap.objs.size ≠ s.heap.objs.size + 1 := Nat.ne_of_lt (Nat.lt_succ_self _)
  refine ⟨by rw [upd_ne ne, upd_same], Nat.zero_le _, ne, e2, fun _ => none, (Heap.Ns1.of_empty e3).at fun o q => Heap.get?_push_of_some _ q, fun _ => True.intro, fun y hy => absurd rfl hy⟩
end
section
variable {X : Cx} {o e value : Expr} {f : Str} {pos pos' tpos : Pos} {ta tv : TE}
end
section
variable {X : Cx} {pins : List (Addr × Obj)} {σ : St} {H : Hp} {s : Shared} {A : Around} {E : Value → Shared → Prop} {Q : Value → Shared → Prop} {c : Value} {b : Bool}
inductive TyOf (K : PySem.W.Frag) (H : Hp) : V → Value → Prop where
  | non : TyOf K H .non (.type "NoneType")
  | bl (x : Bool) : TyOf K H (.bl x) (.type "bool")
  | int (i : Int) : TyOf K H (.int i) (.type "int")
  | str (x : Str) : TyOf K H (.str x) (.type "str")
  | flt (x : UInt64) : TyOf K H (.flt x) (.type "float")
  | lst {a : Addr} {xs : List V} (e : H a = some (.lst xs)) : TyOf K H (.ref a) (.type "list")
  | frz {a : Addr} {o : Obj} {xs : List V} (e : H a = some (.frz o (.lst xs))) : TyOf K H (.ref a) (.type "list")
  | tup {a : Addr} {xs : List V} (e : H a = some (.tup xs)) : TyOf K H (.ref a) (.type "tuple")
  | dK {a : Addr} {kvs : List (Key × V)} (e : H a = some (.dK kvs)) : TyOf K H (.ref a) (.type "dict")
  | dT {a : Addr} {kvs : List (List Key × V)} (e : H a = some (.dT kvs)) : TyOf K H (.ref a) (.type "dict")
  | ins {a C dx : Addr} {fs : List (Str × V)} (e : H a = some (.ins C dx fs)) (cl : Cls K C) (ha : PySem.W.findIn K (.ref C) "__class__" = some (some (.builtin "object.__class__")))
      (hn : PySem.W.specialIn K (.builtin "object.__class__") "__get__" = some (some (.builtin "getset_descriptor.__get__"))) (htk : PySem.W.takesIn K (.builtin "object.__class__") = some true)
      (hm : PySem.W.mroIn K C (.type "object") = some true) : TyOf K H (.ref a) (.ref C)
end
end L2
namespace L2
open PySem PySem.Spec PyProof.Rows
structure Room (k : Nat) (A : Around) : Prop where
  hd : A.handled = none
  dp : A.depth + 3 * k + 5 < recursionLimit
  un : A.units + 16 * k + 200 < cLine
theorem Room.mono {j k : Nat} {A : Around} (r : Room k A) (h : j ≤ k) : Room j A := ⟨r.hd, by have := r.dp; omega, by have := r.un; omega⟩
theorem Room.deeper {k : Nat} {A : Around} (r : Room (k + 1) A) (env : Env) : Room k (A.deeper env) :=
  ⟨r.hd, by have := r.dp; show A.depth + 1 + 3 * k + 5 < _; omega, by have := r.un; show A.units + 3 + 16 * k + 200 < _; omega⟩
theorem Room.in1 {k : Nat} {A : Around} (r : Room (k + 1) A) : Room k A.in1 :=
  ⟨r.hd, by have := r.dp; show A.depth + 3 * k + 5 < _; omega, by have := r.un; show A.units + 1 + 16 * k + 200 < _; omega⟩
theorem Room.depth {k : Nat} {A : Around} (r : Room k A) : A.depth < recursionLimit := by have := r.dp; omega
theorem Room.units {k : Nat} {A : Around} (r : Room k A) : A.units + 64 < cLine := by have := r.un; omega
def tNil : TA := fun _ H Q => Q [] H
def tCons (ta : TE) (tr : TA) : TA := fun σ H Q => ta σ H fun x H1 => tr σ H1 fun xs H2 => Q (x :: xs) H2
section
variable {X : Cx} {e : Expr} {es : List Expr} {te : TE} {t : TA} {pos : Pos}
theorem pa_nil : PA X [] tNil := fun _ _ _ _ H Q I h => Calls.spliced_nil ⟨[], H, I, .nil, h⟩
theorem pa_cons (ha : PE X e te) (hr : PA X es t) (hs : starEach (e :: es) X.env = (false, eval e X.env) :: starEach es X.env := by rfl) : PA X (e :: es) (tCons te t) := by
  intro pos pins s σ H Q I h
  rw [hs]
  show wpAny _ _ (spliced ((false, eval e X.env) :: backTo pos (starEach es X.env))) _ _ s
  refine Calls.spliced_cons (thn (ha pins s σ H _ I h) fun u s1 ⟨x, H1, I1, r1, q1⟩ => ?_)
  exact thn (hr pos pins s1 σ H1 _ I1 q1) fun us s2 ⟨xs, H2, I2, r2, q2⟩ => ⟨x :: xs, H2, I2, .cons r1 r2, q2⟩
def tTup (t : TA) : TE := fun σ H Q => t σ H fun xs H1 => xs.length ≤ sizeLine ∧ ∀ p, H1 p = none → Q (.ref p) (upd H1 p (.tup xs))
def tLst (t : TA) : TE := fun σ H Q => t σ H fun xs H1 => xs.length ≤ sizeLine ∧ ∀ p, H1 p = none → Q (.ref p) (upd H1 p (.lst xs))
theorem pe_tup {x1} (h : PA X es t) : PE X (.Tuple es x1 pos) (tTup t) := by
  intro pins s σ H Q I hq
  refine wpAny_Tuple_spliced (thn (h pos pins s σ H _ I hq) fun us s1 ⟨xs, H1, I1, r, z, q⟩ => ⟨by rw [← r.length]; exact z, ?_⟩)
  have hf : H1 s1.heap.objs.size = none := I1.hok.fresh (Nat.le_refl _)
  refine ⟨.ref s1.heap.objs.size, upd H1 s1.heap.objs.size (.tup xs), I1.laid (t' := s1.toks) (fun b u e => Heap.get?_push_of_some _ e) (Nat.le_refl _) ?_, rfl, q _ hf⟩
  exact ⟨z, us, r, ⟨_, Heap.get?_push_size _ rfl, rfl, _, rfl⟩⟩
theorem pe_lst (h : PA X es t) : PE X (.List es pos) (tLst t) := by
  intro pins s σ H Q I hq
  refine wpAny_List_spliced (thn (h pos pins s σ H _ I hq) fun us s1 ⟨xs, H1, I1, r, z, q⟩ => ⟨by rw [← r.length]; exact z, ?_⟩)
  have hf : H1 s1.heap.objs.size = none := I1.hok.fresh (Nat.le_refl _)
  refine ⟨.ref s1.heap.objs.size, upd H1 s1.heap.objs.size (.lst xs), I1.laid (t' := s1.toks) (fun b u e => Heap.get?_push_of_some _ e) (Nat.le_refl _) ?_, rfl, q _ hf⟩
  exact ⟨z, us, 0, r, Heap.get?_push_size _ rfl⟩
end
abbrev Sp := List V → Hp → VK → XK → Prop
abbrev CXT := List Env → Hp → Shared → XK → Value → Shared → Prop
structure Env0 (P : Program) (w : World) (K : PySem.W.Frag) (mg : Str → Option Value) (base : Heap) (A : Around) (outer : List Env) (s : Shared) (H : Hp) : Prop where
  frames : A.frames = some outer
  mod : Mod K mg base
  bs : ∀ b o, base.get? b = some o → s.heap.get? b = some o ∧ H b = none
  bsz : base.objs.size ≤ s.heap.objs.size
  funs : s.heap.FunFrames base outer
  frf : ∀ b ∈ frs outer, H b = none
  hok : HOk P w H s.heap
  bare : AllBare s.gens
def CE (outer : List Env) (P : Program) (w : World) (H : Hp) (s : Shared) (Q : VK) (u : Value) (s' : Shared) : Prop :=
  ∃ v H', s'.os = s.os ∧ AllBare s'.gens ∧ Un (frs outer) [] H H' s.heap s'.heap ∧ HOk P w H' s'.heap ∧ RelV v u ∧ Q v H'
def CR (CX : CXT) (outer : List Env) (P : Program) (w : World) (H : Hp) (s : Shared) (Q : VK) (E : XK) (r : Result) (s' : Shared) : Prop :=
  match r with
  | .ok (.ret u) => CE outer P w H s Q u s'
  | .ok _ => False
  | .error e => CX outer H s E e s'
structure FnOk (P : Program) (w : World) (K : PySem.W.Frag) (mg : Str → Option Value) (base : Heap) (CX : CXT) (k : Nat) (f : Addr) (fd : FuncData) (ps : List Str) (sp : Sp) : Prop where
  len : ∀ vs H Q E, sp vs H Q E → vs.length = ps.length
  run : ∀ (A : Around) (outer : List Env) (s : Shared) (H : Hp) (args : Args) (us : List Value) (vs : List V) (Q : VK) (E : XK), Room k A → Env0 P w K mg base A outer s H → BindsTo s fd args (ps.zip us) → Vals vs us → sp vs H Q E →
    codeAny (model P w) A (.call (.ref f) args) (CR CX outer P w H s Q E) s
theorem FnOk.mono {P : Program} {w : World} {K : PySem.W.Frag} {mg : Str → Option Value} {base : Heap} {CX : CXT} {j k : Nat} {f : Addr} {fd : FuncData} {ps : List Str} {sp : Sp} (F : FnOk P w K mg base CX j f fd ps sp) (h : j ≤ k) :
    FnOk P w K mg base CX k f fd ps sp := ⟨F.len, fun A outer s H args us vs Q E hr => F.run A outer s H args us vs Q E (hr.mono h)⟩
theorem FnOk.imp {P : Program} {w : World} {K : PySem.W.Frag} {mg : Str → Option Value} {base : Heap} {CX : CXT} {k : Nat} {f : Addr} {fd : FuncData} {ps : List Str} {sp sp' : Sp} (F : FnOk P w K mg base CX k f fd ps sp)
    (h : ∀ vs H Q E, sp' vs H Q E → sp vs H Q E) : FnOk P w K mg base CX k f fd ps sp' :=
  ⟨fun vs H Q E q => F.len vs H Q E (h _ _ _ _ q), fun A outer s H args us vs Q E hr he hb hv hs => F.run A outer s H args us vs Q E hr he hb hv (h _ _ _ _ hs)⟩
theorem Env0.in1 {P : Program} {w : World} {K : PySem.W.Frag} {mg : Str → Option Value} {base : Heap} {A : Around} {outer : List Env} {s : Shared} {H : Hp} (e : Env0 P w K mg base A outer s H) :
    Env0 P w K mg base A.in1 outer s H := ⟨e.frames, e.mod, e.bs, e.bsz, e.funs, e.frf, e.hok, e.bare⟩
section
variable {X : Cx} {pins : List (Addr × Obj)} {σ : St} {H : Hp} {s s' : Shared}
theorem Inv.env0 (I : Inv X pins σ H s) : Env0 X.prog X.w X.K X.mg X.base X.A X.stack s H :=
  ⟨I.ok.frames, I.ok.mod, I.bs, Nat.le_trans I.ok.bsz I.sz, I.stack, I.stkFree, I.hok, I.bare⟩
theorem Inv.after {Q : VK} {u : Value} (I : Inv X pins σ H s) (h : CE X.stack X.prog X.w H s Q u s') : EP X pins σ Q u s' := by
  obtain ⟨v, H', os, bare, un, hok, r, q⟩ := h
  obtain ⟨hh, g, d, t, os'⟩ := s'
  obtain rfl : os' = s.os := os
  exact ⟨v, H', I.call (h' := hh) (g' := g) (d' := d) (t' := t) (ch := []) un hok bare (fun b z => absurd z (by simp)), r, q⟩
end
def tCall (sp : Sp) (dvs : List V) (E : XK) (t : TA) : TE := fun σ H Q => t σ H fun vs H1 => sp (vs ++ dvs) H1 Q E
def Binds (K : PySem.W.Frag) (fd : FuncData) (ps : List Str) (ds : List Value) : Prop :=
  ∀ (s : Shared) (us : List Value), K.In s.heap → (us ++ ds).length = ps.length → BindsTo s fd ⟨us, []⟩ (ps.zip (us ++ ds))
theorem Binds.all {K : PySem.W.Frag} {fd : FuncData} {ps : List Str} (h : ∀ us : List Value, us.length = ps.length → bindArgs fd ⟨us, []⟩ = pure (ps.zip us)) : Binds K fd ps [] := fun s us _ hl => by
  rw [List.append_nil] at hl ⊢
  exact .of_eq (h us hl)
def Passes (CX : CXT) (X : Cx) (E : XK) : Prop := ∀ (pins : List (Addr × Obj)) (σ : St) (H : Hp) (s : Shared) (e : Value) (s' : Shared), Inv X pins σ H s → CX X.stack H s E e s' → X.xe e s'
section
variable {X : Cx} {CX : CXT} {k : Nat} {f C : Addr} {fd : FuncData} {ps : List Str} {sp : Sp} {dvs : List V} {ds : List Value} {E : XK} {x m : Str} {p pos apos : Pos} {e o : Expr} {es : List Expr} {ta : TE} {t : TA}
theorem run_fn {pins : List (Addr × Obj)} {σ : St} {H : Hp} {s : Shared} {Q : VK} {us : List Value} {vs : List V} (F : FnOk X.prog X.w X.K X.mg X.base CX k f fd ps sp) (hr : Room k X.A) (hb : Binds X.K fd ps ds) (hd : Vals dvs ds) (hx : Passes CX X E)
    (I : Inv X pins σ H s) (r : Vals vs us) (h : sp (vs ++ dvs) H Q E) : wpAny (model X.prog X.w) X.A (call (.ref f) us) (EP X pins σ Q) X.xe s := by
  have r2 : Vals (vs ++ dvs) (us ++ ds) := r.append hd
  have hl : (us ++ ds).length = ps.length := by rw [← r2.length]; exact F.len _ _ _ _ h
  refine wpAny_call (codeAny_mono (F.run X.A X.stack s H ⟨us, []⟩ (us ++ ds) (vs ++ dvs) Q E hr I.env0 (hb s us I.kIn hl) r2 h) fun r s' hq => ?_)
  cases r with
  | error e => exact hx pins σ H s e s' I hq
  | ok fl =>
    cases fl with
    | ret u => exact I.after hq
    | next => exact False.elim hq
    | brk => exact False.elim hq
    | cont => exact False.elim hq
theorem pe_call (F : FnOk X.prog X.w X.K X.mg X.base CX k f fd ps sp) (hr : Room k X.A) (hg : Gl X x) (hm : X.mg x = some (.ref f)) (hk : PySem.W.keepIn X.K (.ref f) = true) (hb : Binds X.K fd ps ds) (hd : Vals dvs ds) (hx : Passes CX X E)
    (ha : PA X (e :: es) t) (hdb : (x == ("__debug__" : Str)) = false := by decide) (he : starEach (e :: es) X.env = (false, eval e X.env) :: starEach es X.env := by rfl) (hpl : (backTo pos (starEach es X.env)).any (·.1) = false := by rfl) :
    PE X (.Call (.Name x p) (e :: es) [] pos) (tCall sp dvs E t) := by
  intro pins s σ H Q I h
  refine wpAny_Call_Name_kw (ld_glob I hg hm ?_ hdb)
  refine PySem.W.callWith_K (h₀ := X.base) I.ok.mod.kin hk (thn (ha pos pins s σ H _ I h) fun us s1 ⟨vs, H1, I1, r, q⟩ => ⟨I1.kIn, ?_⟩) he hpl
  exact run_fn F hr hb hd hx I1 r q
structure Mk (K : PySem.W.Frag) (C f : Addr) : Prop where
  makes : PySem.W.makesIn K C = true
  init : PySem.W.findIn K (.ref C) "__init__" = some (some (.ref f))
  fn : PySem.W.isFn K (.ref f) = true
  kp : PySem.W.keepIn K (.ref C) = true
end
section
variable {X : Cx} {CX : CXT} {k : Nat} {f C : Addr} {fd : FuncData} {ps ks : List Str} {sp : Sp} {E : XK} {x m : Str} {p pos apos kpos : Pos} {e o : Expr} {es : List Expr} {kws : List Keyword} {te ta : TE} {t tk : TA} {nm : Option Str}
structure KBinds (K : PySem.W.Frag) (fd : FuncData) (ps ks : List Str) (g : List Value → List Value → List Value) (gV : List V → List V → List V) : Prop where
  to : ∀ (s : Shared) (us ws : List Value), K.In s.heap → (g us ws).length = ps.length → BindsTo s fd ⟨us, ks.zip ws⟩ (ps.zip (g us ws))
  rel : ∀ {vs : List V} {us : List Value} {zs : List V} {ws : List Value}, Vals vs us → Vals zs ws → Vals (gV vs zs) (g us ws)
variable {g : List Value → List Value → List Value} {gV : List V → List V → List V}
end
structure FnScope (N P : List Str) (sc : Scope) : Prop where
  kind : sc.kind = .function
  co : sc.isCoroutine = false
  gen : sc.isGenerator = false
  nd : N.Nodup
  pre : N.take P.length = P
  par : ∀ x ∈ P, sc.names.lookup x = some .local ∨ sc.names.lookup x = some .cell
  nofree : ∀ y ∈ sc.names, y.2 ≠ .free
theorem bindL_out {kindOf : Str → Option NameKind} {x : Str} : ∀ {binds : List (Str × Value)} {m : Str → Option Value}, (∀ v, (x, v) ∉ binds) → bindL kindOf binds m x = m x
  | [], _, _ => rfl
  | (n, v) :: r, m, h => by
    unfold bindL
    rw [bindL_out fun w hw => h w (List.mem_cons_of_mem _ hw)]
    split
    · have : x ≠ n := by rintro rfl; exact h v List.mem_cons_self
      simp [this]
    · rfl
theorem bindC_out {kindOf : Str → Option NameKind} {x : Str} : ∀ {binds : List (Str × Value)} {m : Str → Option Value}, (∀ v, (x, v) ∉ binds) → bindC kindOf binds m x = m x
  | [], _, _ => rfl
  | (n, v) :: r, m, h => by
    unfold bindC
    rw [bindC_out fun w hw => h w (List.mem_cons_of_mem _ hw)]
    split
    · rfl
    · have : x ≠ n := by rintro rfl; exact h v List.mem_cons_self
      simp [this]
theorem bindL_get {kindOf : Str → Option NameKind} {x : Str} {v : Value} : ∀ {P : List Str} {vs : List Value} {i : Nat} {m : Str → Option Value}, P.Nodup → P[i]? = some x → vs[i]? = some v → kindOf x = some .local →
    bindL kindOf (P.zip vs) m x = some v
  | [], _, _, _, _, h, _, _ => by simp at h
  | _ :: _, [], _, _, _, _, h, _ => by simp at h
  | p :: P, w :: vs, 0, m, nd, h1, h2, hk => by
    simp at h1 h2; subst h1; subst h2
    show bindL kindOf ((p, w) :: P.zip vs) m p = _
    unfold bindL
    rw [bindL_out fun v hv => (List.nodup_cons.mp nd).1 (List.of_mem_zip hv).1, if_pos hk]
    simp
  | p :: P, w :: vs, i + 1, m, nd, h1, h2, hk => by
    show bindL kindOf ((p, w) :: P.zip vs) m x = _
    unfold bindL
    exact bindL_get (i := i) (List.nodup_cons.mp nd).2 (by simpa using h1) (by simpa using h2) hk
theorem bindC_get {kindOf : Str → Option NameKind} {x : Str} {v : Value} : ∀ {P : List Str} {vs : List Value} {i : Nat} {m : Str → Option Value}, P.Nodup → P[i]? = some x → vs[i]? = some v → kindOf x ≠ some .local →
    bindC kindOf (P.zip vs) m x = some v
  | [], _, _, _, _, h, _, _ => by simp at h
  | _ :: _, [], _, _, _, _, h, _ => by simp at h
  | p :: P, w :: vs, 0, m, nd, h1, h2, hk => by
    simp at h1 h2; subst h1; subst h2
    show bindC kindOf ((p, w) :: P.zip vs) m p = _
    unfold bindC
    rw [bindC_out fun v hv => (List.nodup_cons.mp nd).1 (List.of_mem_zip hv).1, if_neg hk]
    simp
  | p :: P, w :: vs, i + 1, m, nd, h1, h2, hk => by
    show bindC kindOf ((p, w) :: P.zip vs) m x = _
    unfold bindC
    exact bindC_get (i := i) (List.nodup_cons.mp nd).2 (by simpa using h1) (by simpa using h2) hk
def start (N : List Str) (vs : List V) : St := vs.map some ++ List.replicate (N.length - vs.length) none
def cxOf (CX : CXT) (P : Program) (w : World) (K : PySem.W.Frag) (mg : Str → Option Value) (base : Heap) (N : List Str) (qual : Str) (scope : Scope) (f : Addr) (cd : Value) (A : Around) (outer : List Env) (s : Shared) (H : Hp) (E : XK) : Cx where
  prog := P
  w := w
  K := K
  mg := mg
  base := base
  A := A.deeper (envOfC qual scope s.heap.objs.size f cd)
  N := N
  s₀ := s
  H₀ := H
  env := envOfC qual scope s.heap.objs.size f cd
  outer := outer
  stack := envOfC qual scope s.heap.objs.size f cd :: outer
  ex := []
  calm := true
  fn := fun _ => true
  pn := []
  xe := fun e s' => wpAny (model P w) (A.deeper (envOfC qual scope s.heap.objs.size f cd)) (leaving (envOfC qual scope s.heap.objs.size f cd) e) (fun _ s'' => CX outer H s E e s'') (fun e' s'' => CX outer H s E e' s'') s'
theorem cell_has {sc : Scope} {n : Nat} {x : Str} (h : sc.names.lookup x = some .cell) : ∃ c, (cellsFrom n sc.names []).lookup x = some c := by
  have q := PySem.W.cellsFrom_some sc.names n [] (.inl h)
  exact Option.isSome_iff_exists.mp q
theorem inv_start {CX : CXT} {P : Program} {w : World} {K : PySem.W.Frag} {mg : Str → Option Value} {base : Heap} {N ps : List Str} {qual : Str} {scope : Scope} {f : Addr} {cd : Value} {A : Around} {outer : List Env} {s s1 : Shared} {H : Hp} {E : XK} {us : List Value} {vs : List V}
    (S : FnScope N ps scope) (hd : A.handled = none) (e0 : Env0 P w K mg base A outer s H) (hl : vs.length = ps.length) (r : Vals vs us)
    (x : InCallC s s.heap.objs.size (bindL (envOfC qual scope s.heap.objs.size f cd).kindOf (ps.zip us) fun _ => none) (cellsFrom (s.heap.objs.size + 1) scope.names []) (bindC (envOfC qual scope s.heap.objs.size f cd).kindOf (ps.zip us) fun _ => none) s1) :
    Inv (cxOf CX P w K mg base N qual scope f cd A outer s H E) [] (start N vs) H s1 := by
  have hpl : ps.length ≤ N.length := by have := congrArg List.length S.pre; rw [List.length_take] at this; omega
  obtain ⟨h1, tk, rfl, hk⟩ := x.done
  have noA : ∀ b : Addr, b ∉ (cxOf CX P w K mg base N qual scope f cd A outer s H E).ex := fun b z => absurd (show b ∈ ([] : List Addr) from z) (by simp)
  refine ⟨⟨e0.mod, S.kind, rfl, rfl, Nat.le_refl _, fun y z c h1 h2 => ?_, fun y hy => ?_, fun y c _ h => ?_, fun _ => hd, Around.frames_deeper e0.frames, .inr ⟨rfl, rfl⟩, fun b z => absurd z (noA b), e0.bs, e0.bsz, fun b _ _ => noA b, fun b z => absurd z (noA b), e0.funs, e0.frf⟩,
    rfl, e0.bare, Un.kept hk, ⟨_, x.toInCall.ns, fun i y v h1 h2 h3 => ?_⟩, fun y c h => ⟨_, x.cell y c h⟩, e0.hok.fresh (Nat.le_refl _), fun y c h => ?_, fun p hp => absurd (show p ∈ ([] : List (Addr × Obj)) from hp) (by simp), e0.hok.kept hk, ?_⟩
  · exact name_of_addr x.apart (PySem.mem_of_lookup h1) (PySem.mem_of_lookup h2)
  · have hy : scope.names.lookup y = some .cell ∨ scope.names.lookup y = some .free := hy
    rcases hy with hy | hy
    · exact cell_has hy
    · exact absurd rfl (S.nofree _ (PySem.mem_of_lookup hy))
  · exact Nat.le_of_lt (x.above y c (PySem.mem_of_lookup h))
  · have hi : i < vs.length := by
      unfold start at h2
      by_cases hi : i < vs.length
      · exact hi
      · rw [List.getElem?_append_right (by simpa using hi)] at h2
        rw [List.getElem?_replicate] at h2
        split at h2 <;> cases h2
    have ha : vs[i]? = some v := by
      unfold start at h2
      rw [List.getElem?_append_left (by simpa using hi), List.getElem?_map] at h2
      cases e : vs[i]? with
      | none => rw [e] at h2; cases h2
      | some a => rw [e] at h2; cases h2; rfl
    obtain ⟨u, hu, rv⟩ := r.get ha
    have hp : ps[i]? = some y := by
      rw [← S.pre, List.getElem?_take_of_lt (by omega)]; exact h1
    have ndP : ps.Nodup := by rw [← S.pre]; exact S.nd.sublist (List.take_sublist _ _)
    refine ⟨u, rv, ?_⟩
    rcases S.par y (List.mem_of_getElem? hp) with k | k
    · exact .inl ⟨k, bindL_get ndP hp hu k⟩
    · obtain ⟨c, e⟩ := cell_has (n := s.heap.objs.size + 1) k
      refine .inr ⟨.inl k, c, e, ?_⟩
      have q := x.cell y c e
      rw [bindC_get ndP hp hu (by show scope.names.lookup y ≠ _; rw [k]; decide)] at q
      exact q
  · exact e0.hok.fresh (Nat.le_of_lt (x.above y c (PySem.mem_of_lookup h)))
  · unfold start
    show _ = N.length
    rw [List.length_append, List.length_map, List.length_replicate]
    omega
theorem fn_of {CX : CXT} {P : Program} {w : World} {K : PySem.W.Frag} {mg : Str → Option Value} {base : Heap} {k : Nat} {f : Addr} {name qual : Str} {params : Arguments} {body : List Stmt} {scope : Scope} {dV kV doc pm cdv ct oc : Value} {an od : Option Addr}
    {osl : Array (Option Value)} {N ps : List Str} {sp : Sp} (lk : K.lookup f = some ⟨oc, od, .func (PySem.W.fnOf name qual params body scope dV kV doc pm an cdv ct), osl⟩) (hcd : PySem.W.codeIn K cdv qual = true) (S : FnScope N ps scope)
    (len : ∀ vs H Q E, sp vs H Q E → vs.length = ps.length)
    (hbody : ∀ (A : Around) (outer : List Env) (s : Shared) (H : Hp) (vs : List V) (Q : VK) (E : XK), Room k (A.deeper (envOfC qual scope s.heap.objs.size f cdv)) → sp vs H Q E →
      ∃ t, PSs (cxOf CX P w K mg base N qual scope f cdv A outer s H E) body t ∧ t { nx := fun _ H' => Q .non H', rt := Q } (start N vs) H) :
    FnOk P w K mg base CX (k + 1) f (PySem.W.fnOf name qual params body scope dV kV doc pm an cdv ct) ps sp := by
  refine ⟨len, fun A outer s H args us vs Q E hr e0 hb r hsp => ?_⟩
  have hl := len _ _ _ _ hsp
  have KX : K.In s.heap := e0.mod.kin.keeps fun b o e => (e0.bs b o e).1
  have lim : s.heap.NoLimit := e0.mod.nolimit.keeps fun b o e => (e0.bs b o e).1
  have hkind : ∀ y ∈ ps.zip us, scope.names.lookup y.1 = some .local ∨ (scope.names.lookup y.1 = some .cell ∧ ((cellsFrom (s.heap.objs.size + 1) scope.names []).lookup y.1).isSome = true) := fun ⟨n, v⟩ hy => by
    rcases S.par n (List.of_mem_zip hy).1 with q | q
    · exact .inl q
    · exact .inr ⟨q, PySem.W.cellsFrom_some _ _ _ (.inl q)⟩
  refine codeAny_call_function hr.depth (KX _ _ lk) rfl S.co S.gen rfl (PySem.W.codeRec_of KX hcd) (hb _ _ _ _ ?_)
  refine wpAny_newFunctionEnv_cells S.kind hkind fun env he s1 x => ?_
  subst he
  refine ⟨lim.keeps x.toInCall.keep, codeAny_func ?_⟩
  obtain ⟨t, ht, hq⟩ := hbody A outer s H vs Q E (hr.deeper _) hsp
  have I : Inv (cxOf CX P w K mg base N qual scope f cdv A outer s H E) [] (start N vs) H s1 := inv_start S hr.hd e0 hl r x
  refine wpAny_mono (ht [] s1 (start N vs) H _ I hq) (fun fl s' hs => ?_) fun e s' hs => hs
  have fin : ∀ {σ' : St} {H' : Hp} {v : V} {u : Value}, Inv (cxOf CX P w K mg base N qual scope f cdv A outer s H E) [] σ' H' s' → RelV v u → Q v H' → CE outer P w H s Q u s' :=
    fun {σ' H' v u} J rv q => ⟨v, H', J.os, J.bare, J.base, J.hok, rv, q⟩
  cases fl with
  | ret u =>
    obtain ⟨v, σ', H', J, rv, q⟩ := hs
    exact fin J rv q
  | next =>
    obtain ⟨σ', H', J, q⟩ := hs
    exact fin (v := V.non) (u := Value.none) J rfl q
  | brk =>
    obtain ⟨_, _, _, q⟩ := hs
    exact False.elim q
  | cont =>
    obtain ⟨_, _, _, q⟩ := hs
    exact False.elim q
end L2
namespace L2
open PySem PySem.Spec PyProof.Rows
section
variable {X : Cx} {x : Str} {p pos : Pos} {e : Expr} {es : List Expr} {t : TA} {id T : String} {r : List V → Hp → VK → Prop}
def tCB (r : List V → Hp → VK → Prop) (t : TA) : TE := fun σ H Q => t σ H fun vs H1 => r vs H1 Q
theorem pe_callB (hc : CallR X (.builtin id) r) (hg : Gl X x) (hm : X.mg x = none) (hv : bootBuiltins x = some (.builtin id)) (ha : PA X (e :: es) t) (hn : x ≠ "__name__" := by decide) (hdb : (x == ("__debug__" : Str)) = false := by decide)
    (he : starEach (e :: es) X.env = (false, eval e X.env) :: starEach es X.env := by rfl) (hpl : (backTo pos (starEach es X.env)).any (·.1) = false := by rfl) : PE X (.Call (.Name x p) (e :: es) [] pos) (tCB r t) := by
  intro pins s σ H Q I h
  refine wpAny_Call_Name_kw (ld_blt I hg hm hv ?_ hn hdb)
  exact PyProof.Rows.callWith_builtin1 (thn (ha pos pins s σ H _ I h) fun us s1 ⟨vs, H1, I1, r1, q1⟩ => hc pins s1 σ H1 vs us Q I1 r1 q1) he hpl
theorem pe_callTy (hc : CallR X (.type T) r) (hg : Gl X x) (hm : X.mg x = none) (hv : bootBuiltins x = some (.type T)) (ha : PA X (e :: es) t) (hn : x ≠ "__name__" := by decide) (hdb : (x == ("__debug__" : Str)) = false := by decide)
    (he : starEach (e :: es) X.env = (false, eval e X.env) :: starEach es X.env := by rfl) (hpl : (backTo pos (starEach es X.env)).any (·.1) = false := by rfl) : PE X (.Call (.Name x p) (e :: es) [] pos) (tCB r t) := by
  intro pins s σ H Q I h
  refine wpAny_Call_Name_kw (ld_blt I hg hm hv ?_ hn hdb)
  exact PyProof.Rows.callWith_type1 (thn (ha pos pins s σ H _ I h) fun us s1 ⟨vs, H1, I1, r1, q1⟩ => hc pins s1 σ H1 vs us Q I1 r1 q1) he hpl
end
end L2
namespace HT
open PySem PyProof.Rows
section
open PySem.SeqAt
open PySem.AutoSeq1 (wpAny_loadPart')
open PySem.MeetsSeq PySem.MeetsSeq2 PySem.MeetsSeq3
end
section
variable {prog : Program} {w : World} {A : Around} {E : Value → Shared → Prop} {s : Shared}
def sIx (n d : Nat) : Option Int → Nat
  | none => d
  | some v => if v < 0 then (v + (n : Int)).toNat else min v.toNat n
theorem sIx_le (n d : Nat) (hd : d ≤ n) (o : Option Int) : sIx n d o ≤ n := by
  cases o with
  | none => exact hd
  | some v =>
    show (if v < 0 then (v + (n : Int)).toNat else min v.toNat n) ≤ n
    by_cases hv : v < 0
    · rw [if_pos hv]; omega
    · rw [if_neg hv]; exact Nat.min_le_right _ _
theorem clip_eq (v : Int) (n d : Nat) : (if v < 0 then max (v + (n : Int)) 0 else min v (n : Int)) = ((sIx n d (some v) : Nat) : Int) := by
  show (if v < 0 then max (v + (n : Int)) 0 else min v (n : Int)) = (((if v < 0 then (v + (n : Int)).toNat else min v.toNat n) : Nat) : Int)
  by_cases hv : v < 0
  · simp only [if_pos hv]; omega
  · simp only [if_neg hv]; omega
theorem adjust_gen (lo hi : Option Int) (n : Nat) : Builtin.Slice.sliceAdjust lo hi 1 (n : Int) = (((sIx n 0 lo : Nat) : Int), ((sIx n n hi : Nat) : Int)) := by
  have h1 : ¬ ((1 : Int) < 0) := by omega
  unfold Builtin.Slice.sliceAdjust
  simp only [h1, if_false]
  refine Prod.ext ?_ ?_
  · cases lo with
    | none => rfl
    | some v => exact clip_eq v n 0
  · cases hi with
    | none => rfl
    | some v => exact clip_eq v n n
theorem places_gen (i j : Nat) : Builtin.Slice.slicePlaces (i : Int) (j : Int) 1 = j - i := by
  unfold Builtin.Slice.slicePlaces
  have h1 : (1 : Int) > 0 := by omega
  simp only [h1, if_true, Int.ediv_one]
  split <;> omega
theorem slicePart_ {v : Value} {o : Option Int} {Q : Option Int → Shared → Prop} (p : IsPart v o) (h : Q o s) : wpAny (model prog w) A (Builtin.Slice.slicePartIndex v) Q E s := by
  cases p with
  | none => exact slicePart_none h
  | int i t => exact slicePart_int h
theorem sliceApplied_gen {sl : Addr} {vl vu : Value} {lo hi : Option Int} {n : Nat} {Q : Int × Int × Nat → Shared → Prop} (hs : s.heap.IsSliceOf sl vl vu .none) (pl : IsPart vl lo) (pu : IsPart vu hi)
    (h : Q (((sIx n 0 lo : Nat) : Int), 1, sIx n n hi - sIx n 0 lo) s) : wpAny (model prog w) A (Builtin.Slice.sliceApplied (.ref sl) (pure (n : Int))) Q E s := by
  obtain ⟨os, hos, hcs, hds⟩ := id hs
  unfold Builtin.Slice.sliceApplied Builtin.Slice.sliceFields
  refine wpAny_bind (wpAny_bind (wpAny_field hos hds (x := vl) rfl (wpAny_bind (wpAny_field hos hds (x := vu) rfl (wpAny_bind (wpAny_field hos hds (x := .none) rfl (wpAny_pure ?_)))))))
  refine wpAny_bind (slicePart_none ?_)
  show wpAny _ _ (if ((1 : Int) == 0) = true then _ else _) _ _ s
  rw [if_neg (by decide)]
  refine wpAny_bind (slicePart_ pl (wpAny_bind (slicePart_ pu (wpAny_bind (wpAny_pure ?_)))))
  show wpAny _ _ (match Builtin.Slice.sliceAdjust lo hi 1 (n : Int) with | (lo, hi) => pure (lo, (1 : Int), Builtin.Slice.slicePlaces lo hi 1)) _ _ s
  rw [adjust_gen lo hi n]
  show wpAny _ _ (pure (((sIx n 0 lo : Nat) : Int), (1 : Int), Builtin.Slice.slicePlaces ((sIx n 0 lo : Nat) : Int) ((sIx n n hi : Nat) : Int) 1)) _ _ s
  rw [places_gen]
  exact wpAny_pure h
theorem pick_gen (xs : Array Value) (i k : Nat) : ((List.range k).filterMap fun (m : Nat) => xs[((i : Int) + (m : Int) * 1).toNat]?).toArray = ((xs.toList.drop i).take k).toArray := by
  have e : (fun (m : Nat) => xs[((i : Int) + (m : Int) * 1).toNat]?) = fun m => xs[i + m]? := by
    funext m
    have : ((i : Int) + (m : Int) * 1).toNat = i + m := by omega
    rw [this]
  rw [e]
  have := pick_run xs i k
  rw [List.filterMap_map] at this
  have e2 : ((fun x => xs[x]?) ∘ fun x => i + x) = fun m => xs[i + m]? := rfl
  rw [e2] at this
  rw [this]
theorem getItem_tuple_cut {t sl : Addr} {items : Array Value} {vl vu : Value} {lo hi : Option Int} {Q : Value → Shared → Prop} (ht : IsTup s.heap t items) (hs : s.heap.IsSliceOf sl vl vu .none) (pl : IsPart vl lo) (pu : IsPart vu hi)
    (hw : ¬ (sIx items.size 0 lo = 0 ∧ sIx items.size items.size hi = items.size))
    (h : Q (.ref s.heap.objs.size) { s with heap := s.heap.push { cls := .type "tuple", data := .seq ((items.toList.drop (sIx items.size 0 lo)).take (sIx items.size items.size hi - sIx items.size 0 lo)).toArray } })
    (hsz : items.size ≤ sizeLine) : wpAny (model prog w) A (getItem (.ref t) (.ref sl)) Q E s := by
  have htake : sizeOk (.seq ((items.toList.drop (sIx items.size 0 lo)).take (sIx items.size items.size hi - sIx items.size 0 lo)).toArray) := by
    show ((items.toList.drop (sIx items.size 0 lo)).take (sIx items.size items.size hi - sIx items.size 0 lo)).toArray.size ≤ sizeLine
    rw [List.size_toArray, List.length_take, List.length_drop, Array.length_toList]
    omega
  have hj : sIx items.size items.size hi ≤ items.size := sIx_le _ _ (Nat.le_refl _) hi
  obtain ⟨os, hos, hcs, hds⟩ := id hs
  have hTs : s.TypeIs (.ref sl) "slice" := ⟨os, hos, hcs⟩
  unfold getItem
  try with_reducible refine wpAny_holding ?_
  first | refine wpAny_bind (wpAny_pure ?_) | skip
  refine wpAny_bind (wpAny_sequenceKey ht.typeIs (by decide) ?_)
  refine wpAny_bind (wpAny_callSpecial?_slot (name := Str.ofString "__getitem__") ht.typeIs PyProof.Rows.slot_tuple_getitem
    (wpAny_call_entry PyProof.Rows.slot_tuple_getitem ht.typeIs entry_tuple_getitem ?_ (args_tuple_getitem _ _)))
  show wpAny _ _ (Builtin.Tuple.tupleItemsOf (.ref t) >>= _) _ _ s
  refine wpAny_bind (tupleItemsOf_ ht ?_)
  refine wpAny_bind (wpAny_typeOf hTs ?_)
  rw [if_pos (by decide)]
  refine wpAny_bind (sliceApplied_gen hs pl pu ?_)
  have hno : ¬ ((((sIx items.size 0 lo : Nat) : Int) == 0 && (1 : Int) == 1 && (sIx items.size items.size hi - sIx items.size 0 lo) == items.size) = true) := by
    intro q
    rw [Bool.and_eq_true, Bool.and_eq_true] at q
    have q1 : ((sIx items.size 0 lo : Nat) : Int) = 0 := eq_of_beq q.1.1
    have q2 : sIx items.size items.size hi - sIx items.size 0 lo = items.size := eq_of_beq q.2
    exact hw ⟨by omega, by omega⟩
  show wpAny _ _ (if (((sIx items.size 0 lo : Nat) : Int) == 0 && (1 : Int) == 1 && (sIx items.size items.size hi - sIx items.size 0 lo) == items.size) = true then _ else _) _ _ s
  rw [if_neg hno, pick_gen]
  first
    | exact wpAny_bind (m := Builtin.Tuple.tupleExact _) (wpAny_newObj_type (wpAny_pure ⟨_, rfl, wpAny_pure h⟩) htake)
    | exact wpAny_bind (m := Builtin.Tuple.tupleExact _) (wpAny_newObj_type (wpAny_bind (wpAny_pure (wpAny_pure ⟨_, rfl, wpAny_pure h⟩))) htake)
    | exact wpAny_bind (wpAny_bind (m := Builtin.Tuple.tupleExact _) (wpAny_newObj_type (wpAny_pure (wpAny_pure ⟨_, rfl, wpAny_pure h⟩)) htake))
    | exact wpAny_bind (wpAny_bind (m := Builtin.Tuple.tupleExact _) (wpAny_newObj_type (wpAny_pure ⟨_, rfl, wpAny_pure h⟩) htake))
end
end HT
namespace L2
open PySem PySem.Spec PyProof.Rows
abbrev TO := St → Hp → (Option Int → Hp → Prop) → Prop
def PO (X : Cx) (e : Option Expr) (t : TO) : Prop :=
  ∀ (pins : List (Addr × Obj)) (s : Shared) (σ : St) (H : Hp) (Q : Option Int → Hp → Prop), Inv X pins σ H s → t σ H Q →
    wpAny (model X.prog X.w) X.A (evalPart e X.env) (fun u s' => ∃ o H', Inv X pins σ H' s' ∧ IsPart u o ∧ Q o H') X.xe s
def tNoPart : TO := fun _ H Q => Q none H
def tPart (t : TE) : TO := fun σ H Q => t σ H fun x H1 => ∃ i, x = .int i ∧ Q (some i) H1
section
variable {X : Cx} {e : Expr} {te : TE} {lo hi : Option Expr} {tl th : TO} {pos p2 : Pos}
theorem po_none : PO X none tNoPart := by
  intro pins s σ H Q I h
  rw [evalPart_none]
  exact wpAny_pure ⟨none, H, I, .none, h⟩
theorem po_some (h : PE X e te) : PO X (some e) (tPart te) := by
  intro pins s σ H Q I hw
  rw [evalPart_some]
  refine thn (h pins s σ H _ I hw) fun u s1 ⟨x, H1, I1, r1, q1⟩ => ?_
  obtain ⟨i, rfl, q⟩ := q1
  obtain ⟨t, rfl⟩ := r1
  exact ⟨some i, H1, I1, .int i t, q⟩
def SlR (X : Cx) (r : V → Option Int → Option Int → Hp → VK → Prop) : Prop :=
  ∀ (pins : List (Addr × Obj)) (s : Shared) (σ : St) (H : Hp) (x : V) (v vl vu : Value) (lo hi : Option Int) (sl : Addr) (Q : VK), Inv X pins σ H s → RelV x v → s.heap.IsSliceOf sl vl vu .none → IsPart vl lo → IsPart vu hi → r x lo hi H Q →
    ∃ T id, typeLookup (.type T) "__getitem__" = pure (some (.builtin id)) ∧ s.TypeIs v T ∧ wpAny (model X.prog X.w) X.A (getItem v (.ref sl)) (EP X pins σ Q) X.xe s
theorem SlR.or {r r' : V → Option Int → Option Int → Hp → VK → Prop} (h : SlR X r) (h' : SlR X r') : SlR X (fun x lo hi H Q => r x lo hi H Q ∨ r' x lo hi H Q) := by
  intro pins s σ H x v vl vu lo hi sl Q I rx hs pl pu q
  rcases q with q | q
  · exact h pins s σ H x v vl vu lo hi sl Q I rx hs pl pu q
  · exact h' pins s σ H x v vl vu lo hi sl Q I rx hs pl pu q
def tSl (r : V → Option Int → Option Int → Hp → VK → Prop) (te : TE) (tl th : TO) : TE := fun σ H Q => te σ H fun x H1 => tl σ H1 fun l H2 => th σ H2 fun u H3 => r x l u H3 Q
theorem pe_slice {r : V → Option Int → Option Int → Hp → VK → Prop} (hr : SlR X r) (he : PE X e te) (hl : PO X lo tl) (hu : PO X hi th) : PE X (.Subscript e (.Slice lo hi none p2) pos) (tSl r te tl th) := by
  intro pins s σ H Q I h
  refine Subscript_ (thn (he pins s σ H _ I h) fun v s1 ⟨x, H1, I1, r1, q1⟩ => ?_)
  refine wpAny_Slice (thn (hl pins s1 σ H1 _ I1 q1) fun vl s2 ⟨l, H2, I2, pl, q2⟩ => thn (hu pins s2 σ H2 _ I2 q2) fun vu s3 ⟨u, H3, I3, pu, q3⟩ => ?_)
  rw [evalPart_none]
  refine wpAny_pure ?_
  have I4 : Inv X pins σ H3 { s3 with heap := s3.heap.push { cls := .type "slice", data := .fields #[vl, vu, .none] } } := I3.kept (t' := s3.toks) fun b ob q => Heap.get?_push_of_some _ q
  obtain ⟨T, id, hT, ht, hg⟩ := hr pins { s3 with heap := s3.heap.push { cls := .type "slice", data := .fields #[vl, vu, .none] } } σ H3 x v vl vu l u s3.heap.objs.size Q I4 r1 (Heap.IsSliceOf.new ..) pl pu q3
  show wpAny (model X.prog X.w) X.A (subscriptTail e (.Slice lo hi none p2) v (.ref s3.heap.objs.size)) (EP X pins σ Q) X.xe { s3 with heap := s3.heap.push { cls := .type "slice", data := .fields #[vl, vu, .none] } }
  exact tail_any (ops := [.ref s3.heap.objs.size, v]) ht hT hg (by with_unfolding_all rfl)
def cutV (xs : List V) (lo hi : Option Int) : List V := (xs.drop (HT.sIx xs.length 0 lo)).take (HT.sIx xs.length xs.length hi - HT.sIx xs.length 0 lo)
theorem cutV_length (xs : List V) (lo hi : Option Int) : (cutV xs lo hi).length ≤ xs.length := by
  unfold cutV
  rw [List.length_take, List.length_drop]
  omega
def rSlT (K : PySem.W.Frag) : V → Option Int → Option Int → Hp → VK → Prop := fun x lo hi H Q => ∃ a xs, x = .ref a ∧ SqT K H a xs ∧
  ¬ (HT.sIx xs.length 0 lo = 0 ∧ HT.sIx xs.length xs.length hi = xs.length) ∧ ∀ p, H p = none → Q (.ref p) (upd H p (.tup (cutV xs lo hi)))
theorem sl_tup : SlR X (rSlT X.K) := by
  intro pins s σ H x v vl vu lo hi sl Q I rx hs pl pu h
  obtain ⟨a, xs, rfl, hx, hw, q⟩ := h
  cases rx
  obtain ⟨its, r, ht, hz⟩ := I.tuple hx
  have hlen : its.toArray.size = xs.length := by rw [List.size_toArray]; exact r.length.symm
  refine ⟨"tuple", _, PyProof.Rows.slot_tuple_getitem.lookup, ht.typeIs, ?_⟩
  refine HT.getItem_tuple_cut ht hs pl pu (by rw [hlen]; exact hw) ?_ (by rw [hlen]; exact hz)
  rw [hlen]
  refine ⟨.ref s.heap.objs.size, _, I.laid (t' := s.toks) (o := .tup (cutV xs lo hi)) (fun b ob q => Heap.get?_push_of_some _ q) (Nat.le_refl _) ?_, rfl, q _ (I.hok.fresh (Nat.le_refl _))⟩
  exact ⟨Nat.le_trans (cutV_length xs lo hi) hz, _, (r.drop (HT.sIx xs.length 0 lo)).take (HT.sIx xs.length xs.length hi - HT.sIx xs.length 0 lo), IsTup.new _ _⟩
end
end L2
namespace L2
open PySem PySem.Spec PyProof.Rows
def ixN (n : Nat) (i : Int) : Option Nat := if 0 ≤ i then (if i < n then some i.toNat else none) else if -(n : Int) ≤ i then some (i + n).toNat else none
def atI {α : Type} (xs : List α) (i : Int) : Option α := (ixN xs.length i).bind fun j => xs[j]?
theorem ixN_seq {n : Nat} {i : Int} {j : Nat} (h : ixN n i = some j) : seqIndex? i n = some j ∧ j < n ∧ -(n : Int) ≤ i ∧ i < n := by
  unfold ixN at h
  by_cases h0 : 0 ≤ i
  · rw [if_pos h0] at h
    by_cases h1 : i < n
    · rw [if_pos h1] at h
      have e : i.toNat = j := Option.some.inj h
      exact ⟨by rw [seqIndex_of h0 h1, e], by omega, by omega, h1⟩
    · rw [if_neg h1] at h; cases h
  · rw [if_neg h0] at h
    by_cases h1 : -(n : Int) ≤ i
    · rw [if_pos h1] at h
      have e : (i + n).toNat = j := Option.some.inj h
      exact ⟨by rw [seqIndex_neg (by omega) h1, e], by omega, h1, by omega⟩
    · rw [if_neg h1] at h; cases h
theorem atI_get {α : Type} {xs : List α} {i : Int} {v : α} (h : atI xs i = some v) : ∃ j, seqIndex? i xs.length = some j ∧ xs[j]? = some v ∧ j < xs.length ∧ -(xs.length : Int) ≤ i ∧ i < xs.length := by
  unfold atI at h
  cases e : ixN xs.length i with
  | none => rw [e] at h; cases h
  | some j =>
    rw [e] at h
    obtain ⟨h1, h2, h3, h4⟩ := ixN_seq e
    exact ⟨j, h1, h, h2, h3, h4⟩
theorem atI_nat {α : Type} {xs : List α} {j : Nat} {v : α} (h : xs[j]? = some v) : atI xs (j : Int) = some v := by
  have hj : j < xs.length := (List.getElem?_eq_some_iff.mp h).1
  have e : ixN xs.length (j : Int) = some j := by
    unfold ixN
    rw [if_pos (by omega), if_pos (by omega)]; simp
  unfold atI; rw [e]; exact h
def PlainIx (b : Expr) : Prop := ∀ o i, subscripted b false o i = operate [o, i] (getItem o i)
def IxR (X : Cx) (r : R2) : Prop :=
  ∀ (value slice : Expr) (pins : List (Addr × Obj)) (s : Shared) (σ : St) (H : Hp) (x y : V) (v u : Value) (Q : VK), Inv X pins σ H s → RelV x v → RelV y u → r x y H Q →
    subscripted slice false v u = operate [v, u] (getItem v u) → wpAny (model X.prog X.w) X.A (subscriptTail value slice v u) (EP X pins σ Q) X.xe s
def MtR (X : Cx) (id : String) (r : V → List V → Hp → VK → Prop) : Prop :=
  ∀ (pins : List (Addr × Obj)) (s : Shared) (σ : St) (H : Hp) (x : V) (xs : List V) (v : Value) (us : List Value) (Q : VK), Inv X pins σ H s → RelV x v → Vals xs us → r x xs H Q →
    wpAny (model X.prog X.w) X.A (call (.builtin id) (v :: us)) (EP X pins σ Q) X.xe s
section
variable {X : Cx} {a b : Expr} {ta tb : TE} {pos : Pos}
theorem IxR.or {r r' : R2} (h : IxR X r) (h' : IxR X r') : IxR X (fun x y H Q => r x y H Q ∨ r' x y H Q) := by
  intro value slice pins s σ H x y v u Q I rx ry q hs
  rcases q with q | q
  · exact h value slice pins s σ H x y v u Q I rx ry q hs
  · exact h' value slice pins s σ H x y v u Q I rx ry q hs
theorem MtR.or {id : String} {r r' : V → List V → Hp → VK → Prop} (h : MtR X id r) (h' : MtR X id r') : MtR X id (fun x xs H Q => r x xs H Q ∨ r' x xs H Q) := by
  intro pins s σ H x xs v us Q I rx rs q
  rcases q with q | q
  · exact h pins s σ H x xs v us Q I rx rs q
  · exact h' pins s σ H x xs v us Q I rx rs q
theorem pe_ix {r : R2} (hr : IxR X r) (ha : PE X a ta) (hb : PE X b tb) (hs : PlainIx b) : PE X (.Subscript a b pos) (tOp r ta tb) := by
  intro pins s σ H Q I h
  exact Subscript_ (binT ha hb I h fun v u s2 x y H2 I2 rx ry q => hr a b pins s2 σ H2 x y v u Q I2 rx ry q (hs _ _))
def rIxL (K : PySem.W.Frag) : R2 := fun x y H Q => ∃ p xs i v, x = .ref p ∧ y = .int i ∧ SqL K H p xs ∧ atI xs i = some v ∧ Q v H
def rIxT (K : PySem.W.Frag) : R2 := fun x y H Q => ∃ p xs i v, x = .ref p ∧ y = .int i ∧ SqT K H p xs ∧ atI xs i = some v ∧ Q v H
theorem ix_list : IxR X (rIxL X.K) := by
  intro value slice pins s σ H x y v u Q I rx ry h hs
  obtain ⟨p, xs, i, z, rfl, rfl, hq, he, q⟩ := h
  cases rx
  obtain ⟨t, rfl⟩ := ry
  obtain ⟨its, r, pl, hz⟩ := I.list hq
  obtain ⟨j, h1, h2, h3, h4, h5⟩ := atI_get he
  obtain ⟨w, ew, rw'⟩ := r.get h2
  have hl := r.length
  have hn := line63
  have fin : EP X pins σ Q w s := ⟨z, H, I, rw', q⟩
  by_cases h0 : 0 ≤ i
  · have hj : i.toNat = j := by
      rw [seqIndex_of h0 h5] at h1
      exact Option.some.inj h1
    exact item_listR pl.isList h0 (by omega) (by rw [hj]; simpa using ew) fin hs
  · have hj : (i + (its.toArray.size : Int)).toNat = j := by
      rw [seqIndex_neg (by omega) h4] at h1
      rw [List.size_toArray, ← hl]
      exact Option.some.inj h1
    exact subscriptTail_builtinR (x := w) pl.isList.typeIs slot_list_getitem.lookup
      (wpAny_getItem_list_neg (Q := fun r s' => r = w ∧ EP X pins σ Q r s') pl.isList (by omega) (by rw [List.size_toArray] <;> omega) (by omega) (by rw [hj]; simpa using ew) ⟨rfl, fin⟩) hs
theorem ix_tup : IxR X (rIxT X.K) := by
  intro value slice pins s σ H x y v u Q I rx ry h hs
  obtain ⟨p, xs, i, z, rfl, rfl, hq, he, q⟩ := h
  cases rx
  obtain ⟨t, rfl⟩ := ry
  obtain ⟨its, r, pl, hz⟩ := I.tuple hq
  obtain ⟨j, h1, h2, h3, h4, h5⟩ := atI_get he
  obtain ⟨w, ew, rw'⟩ := r.get h2
  have hl := r.length
  have hn := line63
  have fin : EP X pins σ Q w s := ⟨z, H, I, rw', q⟩
  exact subscriptTail_builtinR (x := w) pl.typeIs slot_tuple_getitem.lookup
    (getItem_tuple (j := j) (Q := fun r s' => r = w ∧ EP X pins σ Q r s') pl (by omega) (by omega) (by rw [List.size_toArray, ← hl]; exact h1) (by simpa using ew) ⟨rfl, fin⟩) hs
theorem mapSeq_set (its : List Value) (n j : Nat) (u : Value) : Obj.mapSeq (·.setIfInBounds j u) { cls := .type "list", data := .seq its.toArray n } = { cls := .type "list", data := .seq (its.set j u).toArray n } := by
  simp [Obj.mapSeq]
theorem Inv.lst {pins : List (Addr × Obj)} {σ : St} {H : Hp} {s : Shared} {p : Addr} {xs : List V} (I : Inv X pins σ H s) (h : H p = some (.lst xs)) :
    ∃ (its : List Value) (n : Nat), Vals xs its ∧ s.heap.get? p = some { cls := .type "list", data := .seq its.toArray n } ∧ xs.length ≤ sizeLine := by
  obtain ⟨z, its, n, r, e⟩ := I.hok p _ h
  exact ⟨its, n, r, e, z⟩
theorem Inv.lstUpd {pins : List (Addr × Obj)} {σ : St} {H : Hp} {s : Shared} {p : Addr} {xs ys : List V} {its its' : List Value} {n n' : Nat} {f : Obj → Obj} (I : Inv X pins σ H s) (h : H p = some (.lst xs))
    (ho : s.heap.get? p = some { cls := .type "list", data := .seq its.toArray n }) (hf : f { cls := .type "list", data := .seq its.toArray n } = { cls := .type "list", data := .seq its'.toArray n' }) (r : Vals ys its') (hz : ys.length ≤ sizeLine) (t : Nat) :
    Inv X pins σ (upd H p (.lst ys)) { s with heap := s.heap.update p f, toks := t } := by
  have e : (s.heap.update p f).get? p = some { cls := .type "list", data := .seq its'.toArray n' } := by
    rw [Heap.get?_update_self f ho (by rw [hf] <;> rfl), hf]
  refine I.write (x := p) (e := p) (by rw [h]; trivial) (.inl rfl) (fun b u hb q => (Heap.get?_update_other _ _ (Ne.symm hb)).trans q) ⟨_, e⟩ ?_
  exact ⟨hz, its', n', r, e⟩
def rSetL : V → V → V → Hp → (Hp → Prop) → Prop := fun o i v H Q => ∃ p xs k j, o = .ref p ∧ i = .int k ∧ H p = some (.lst xs) ∧ ixN xs.length k = some j ∧ Q (upd H p (.lst (xs.set j v)))
theorem set_list : PSet X rSetL := by
  intro pins s σ H o i v ov iv u Q I ro ri rv h
  obtain ⟨p, xs, k, j, rfl, rfl, hp, hj, q⟩ := h
  cases ro
  obtain ⟨t, rfl⟩ := ri
  obtain ⟨its, n, r, ho, hz⟩ := I.lst hp
  obtain ⟨h1, h2, h3, h4⟩ := ixN_seq hj
  have hl := r.length
  have hn := line63
  have I' : Inv X pins σ (upd H p (.lst (xs.set j v))) { s with heap := s.heap.update p (Obj.mapSeq (·.setIfInBounds j u)) } :=
    I.lstUpd hp ho (mapSeq_set its n j u) (r.set rv j) (by rw [List.length_set]; exact hz) s.toks
  by_cases h0 : 0 ≤ k
  · have hk : k.toNat = j := by
      rw [seqIndex_of h0 h4] at h1
      exact Option.some.inj h1
    exact PySem.W.ki_setAt ho h0 (by omega) (by rw [List.size_toArray, ← hl]; exact h4) (by rw [hk]; exact ⟨_, I', q⟩)
  · have hk : (k + (its.toArray.size : Int)).toNat = j := by
      rw [seqIndex_neg (by omega) h3] at h1
      rw [List.size_toArray, ← hl]
      exact Option.some.inj h1
    exact PySem.W.ki_setBack ho (by omega) (by rw [List.size_toArray, ← hl]; exact h3) (by omega) (by rw [hk]; exact ⟨_, I', q⟩)
theorem slice_bounds (lo hi : Option Int) (n : Nat) : (sliceBounds lo hi none n).1 = ((HT.sIx n 0 lo : Nat) : Int) ∧ (sliceBounds lo hi none n).2.1 = ((HT.sIx n n hi : Nat) : Int) ∧ (sliceBounds lo hi none n).2.2 = 1 := by
  refine ⟨?_, ?_, rfl⟩
  · cases lo with
    | none => simp [sliceBounds, HT.sIx]
    | some i =>
      simp only [sliceBounds, HT.sIx, Option.getD_none, show (1 : Int) > 0 by decide, if_true]
      by_cases h : i < 0
      · simp only [h, if_true] <;> omega
      · simp only [h, if_false] <;> omega
  · cases hi with
    | none => simp [sliceBounds, HT.sIx]
    | some i =>
      simp only [sliceBounds, HT.sIx, Option.getD_none, show (1 : Int) > 0 by decide, if_true]
      by_cases h : i < 0
      · simp only [h, if_true] <;> omega
      · simp only [h, if_false] <;> omega
theorem slicePick_cut (its : List Value) (lo hi : Option Int) : slicePick its.toArray lo hi none = ((its.drop (HT.sIx its.length 0 lo)).take (HT.sIx its.length its.length hi - HT.sIx its.length 0 lo)).toArray := by
  obtain ⟨h1, h2, h3⟩ := slice_bounds lo hi its.toArray.size
  unfold slicePick
  rw [h1, h2, h3]
  simp only [sliceRange_one, pick_run, List.size_toArray] <;> rfl
def rSlL (K : PySem.W.Frag) : V → Option Int → Option Int → Hp → VK → Prop := fun x lo hi H Q => ∃ a xs, x = .ref a ∧ SqL K H a xs ∧ ∀ p, H p = none → Q (.ref p) (upd H p (.lst (cutV xs lo hi)))
theorem sl_list : SlR X (rSlL X.K) := by
  intro pins s σ H x v vl vu lo hi sl Q I rx hs pl pu h
  obtain ⟨a, xs, rfl, hx, q⟩ := h
  cases rx
  obtain ⟨its, r, ht, hz⟩ := I.list hx
  have hlen := r.length
  refine ⟨"list", _, slot_list_getitem.lookup, ht.isList.typeIs, ?_⟩
  refine wpAny_getItem_list_slice ht.isList hs pl pu .none (by simp) ?_ (by rw [List.size_toArray] <;> omega)
  rw [slicePick_cut, ← hlen]
  refine ⟨.ref s.heap.objs.size, _, I.laid (t' := s.toks) (o := .lst (cutV xs lo hi)) (fun b ob q => Heap.get?_push_of_some _ q) (Nat.le_refl _) ?_, rfl, q _ (I.hok.fresh (Nat.le_refl _))⟩
  exact ⟨Nat.le_trans (cutV_length xs lo hi) hz, _, 0, (r.drop (HT.sIx xs.length 0 lo)).take (HT.sIx xs.length xs.length hi - HT.sIx xs.length 0 lo), Heap.get?_push_size _ rfl⟩
theorem call_len_seq : CallR X (.builtin "len") (fun xs H Q => ∃ p ys, xs = [.ref p] ∧ (SqL X.K H p ys ∨ SqT X.K H p ys) ∧ Q (.int ys.length) H) := by
  intro pins s σ H xs us Q I r h
  obtain ⟨p, ys, rfl, hq, q⟩ := h
  obtain ⟨u, rfl, rx⟩ := vals1 r
  cases rx
  have hn := line63
  rcases hq with hq | hq
  · obtain ⟨its, r', pl, hz⟩ := I.list hq
    have hlen := r'.length
    exact Calls.call_len_list pl.isList (by simp only [List.size_toArray] <;> omega) ⟨.int ys.length, H, I.tok _, ⟨s.toks + 1, by rw [List.size_toArray, hlen]⟩, q⟩
  · obtain ⟨its, r', pl, hz⟩ := I.tuple hq
    have hlen := r'.length
    exact len_tuple pl (by simp only [List.size_toArray] <;> omega) ⟨.int ys.length, H, I.tok _, ⟨s.toks + 1, by rw [List.size_toArray, hlen]⟩, q⟩
theorem CallR.or {f : Value} {r r' : List V → Hp → VK → Prop} (h : CallR X f r) (h' : CallR X f r') : CallR X f (fun xs H Q => r xs H Q ∨ r' xs H Q) := by
  intro pins s σ H xs us Q I rs q
  rcases q with q | q
  · exact h pins s σ H xs us Q I rs q
  · exact h' pins s σ H xs us Q I rs q
theorem call_list_of : CallR X (.type "list") (fun xs H Q => ∃ p ys, xs = [.ref p] ∧ (SqL X.K H p ys ∨ SqT X.K H p ys) ∧ ∀ l, H l = none → Q (.ref l) (upd H l (.lst ys))) := by
  intro pins s σ H xs us Q I r h
  obtain ⟨p, ys, rfl, hq, q⟩ := h
  obtain ⟨u, rfl, rx⟩ := vals1 r
  cases rx
  have fin : ∀ (its : List Value), Vals ys its → ys.length ≤ sizeLine → ∀ (h' : Heap) (c' : Nat), (∀ b o', s.heap.get? b = some o' → h'.get? b = some o') →
      h'.get? s.heap.objs.size = some { cls := .type "list", dict := none, data := .seq its.toArray c', slots := #[] } → EP X pins σ Q (.ref s.heap.objs.size) { s with heap := h' } := fun its r' hz h' c' kp e =>
    ⟨.ref s.heap.objs.size, _, I.laid (t' := s.toks) kp (Nat.le_refl _) (show ObjOk X.prog X.w _ h' _ (.lst ys) from ⟨hz, its, c', r', e⟩), rfl, q _ (I.hok.fresh (Nat.le_refl _))⟩
  rcases hq with hq | hq
  · obtain ⟨its, r', pl, hz⟩ := I.list hq
    have hlen := r'.length
    obtain ⟨o, ho, hc, n, hd⟩ := pl.isList
    exact call_list_seq p (.inl rfl) ho hc hd (fun h' c' kp e => fin its r' hz h' c' kp e) (by simp only [List.size_toArray] <;> omega)
  · obtain ⟨its, r', pl, hz⟩ := I.tuple hq
    have hlen := r'.length
    obtain ⟨o, ho, hc, n, hd⟩ := pl
    exact call_list_seq p (.inr rfl) ho hc hd (fun h' c' kp e => fin its r' hz h' c' kp e) (by simp only [List.size_toArray] <;> omega)
theorem call_tuple_of : CallR X (.type "tuple") (fun xs H Q => ∃ p ys, xs = [.ref p] ∧ ((SqL X.K H p ys ∧ ∀ l, H l = none → Q (.ref l) (upd H l (.tup ys))) ∨ (SqT X.K H p ys ∧ Q (.ref p) H))) := by
  intro pins s σ H xs us Q I r h
  obtain ⟨p, ys, rfl, h⟩ := h
  obtain ⟨u, rfl, rx⟩ := vals1 r
  cases rx
  rcases h with ⟨hq, q⟩ | ⟨hq, q⟩
  · obtain ⟨its, r', pl, hz⟩ := I.list hq
    have hlen := r'.length
    refine call_tuple_list pl.isList (fun h' kp => ?_) (by simp only [List.size_toArray] <;> omega)
    have I1 : Inv X pins σ H { s with heap := h' } := I.kept (t' := s.toks) kp
    have I2 : Inv X pins σ (upd H h'.objs.size (.tup ys)) { s with heap := h'.push { cls := .type "tuple", data := .seq its.toArray } } :=
      I1.laid (t' := s.toks) (fun b o e => Heap.get?_push_of_some _ e) (Nat.le_refl _) (show ObjOk X.prog X.w _ _ _ (.tup ys) from ⟨hz, its, r', IsTup.new _ _⟩)
    exact ⟨.ref h'.objs.size, _, I2, rfl, q _ (I1.hok.fresh (Nat.le_refl _))⟩
  · obtain ⟨its, r', pl, hz⟩ := I.tuple hq
    exact call_tuple_same pl ⟨.ref p, H, I, rfl, q⟩
variable {o e : Expr} {es : List Expr} {to : TE} {t : TA} {name : Str} {apos cpos : Pos} {T id : String} {r : V → List V → Hp → VK → Prop}
end
end L2
namespace L2
open PySem PySem.Spec PyProof.Rows
def MtM (X : Cx) (id : String) (r : V → List V → Hp → VK → Prop) : Prop :=
  ∀ (pins : List (Addr × Obj)) (s : Shared) (σ : St) (H : Hp) (x : V) (xs : List V) (v : Value) (us : List Value) (Q : VK), Inv X pins σ H s → RelV x v → Vals xs us → r x xs H Q →
    wpAny (model X.prog X.w) X.A (call (.builtin id) (v :: us)) (EP X pins σ Q) X.xe s
theorem Vals.one : ∀ {x : V} {us : List Value}, Vals [x] us → ∃ u, us = [u] ∧ RelV x u
  | _, _, .cons r .nil => ⟨_, rfl, r⟩
theorem Vals.two : ∀ {x y : V} {us : List Value}, Vals [x, y] us → ∃ u v, us = [u, v] ∧ RelV x u ∧ RelV y v
  | _, _, _, .cons r (.cons q .nil) => ⟨_, _, rfl, r, q⟩
theorem Vals.zero : ∀ {us : List Value}, Vals [] us → us = []
  | _, .nil => rfl
theorem Vals.reverse {xs : List V} {us : List Value} (h : Vals xs us) : Vals xs.reverse us.reverse := by
  induction h with
  | nil => exact .nil
  | cons r t ih => rw [List.reverse_cons, List.reverse_cons]; exact Vals.append ih (.cons r .nil)
section
variable {X : Cx} {pins : List (Addr × Obj)} {σ : St} {H : Hp} {s : Shared} {l b : Addr} {xs ys zs : List V}
theorem Inv.lnew {its : List Value} {t' : Nat} (I : Inv X pins σ H s) (hv : Vals ys its) (hz : ys.length ≤ sizeLine) :
    Inv X pins σ (upd H s.heap.objs.size (.lst ys)) { s with heap := s.heap.push { cls := .type "list", data := .seq its.toArray }, toks := t' } :=
  I.laid (fun _ _ q => Heap.get?_push_of_some _ q) (Nat.le_refl _) ⟨hz, its, 0, hv, Heap.get?_push_size _ rfl⟩
theorem Inv.fresh (I : Inv X pins σ H s) : H s.heap.objs.size = none := I.hok.fresh (Nat.le_refl _)
end
section
variable {X : Cx}
end
section
variable {prog : Program} {w : World} {A : Around} {E : Value → Shared → Prop} {s : Shared}
set_option maxRecDepth 100000 in
end
section
variable {X : Cx}
end
end L2
namespace Att
open PySem PySem.W PySem.Calls PyProof.Rows
theorem ints_of_wellAll {P : Params} {h : Heap} : ∀ (ns : List Int) (vs : List Value), WellAll P h vs (ns.map WData.int) → IntsAre vs ns := by
  intro ns
  induction ns with
  | nil =>
    intro vs w
    rw [List.map_nil] at w
    cases w
    exact .nil
  | cons n ns ih =>
    intro vs w
    rw [List.map_cons] at w
    cases w with
    | cons a b =>
      cases a
      exact .cons _ _ (ih _ b)
theorem script_of {l : OpenLaw} {n : Nat} (hn : l.most = some n) {P : Params} {h : Heap} {args : List WData} {vals : List Value}
    (hpre : l.row.toRowW.claim.pre args = true) (hwl : WellAll P h vals args) :
    ∃ a vs ns, vals = [Value.ref a] ∧ args = [WData.list (ns.map WData.int)] ∧ h.get? a = some { cls := .type "list", data := .seq vs.toArray } ∧ IntsAre vs ns ∧ ns.length ≤ n := by
  have hsh : WShape.hasAll [] args [.list .int] = true := (pre_splitW hpre).1
  have hc : l.pre.holds [] { args := args } = true := (pre_splitW hpre).2
  obtain ⟨d, r, rfl, h1, h2⟩ := hasAllW_cons hsh
  obtain rfl := hasAllW_nil h2
  obtain ⟨xs, rfl, h3⟩ := hasW_list h1
  obtain ⟨ns, rfl⟩ := items_int h3
  have hlen : ns.length ≤ n := by
    unfold OpenLaw.pre at hc
    have h4 : (WTm.not (.lt (.lit (.int (n : Int))) (.len (.arg 0)))).holds [] { args := [.list (ns.map .int)] } = true := by
      have h4 := (holds_andW hc).1
      rw [hn] at h4
      exact h4
    have h5 := condW_of h4 (w_not (w_lt w_lit (w_len_list (w_arg rfl))))
    rw [List.length_map] at h5
    refine Nat.le_of_not_lt fun q => ?_
    have q' : (n : Int) < ((ns.length : Nat) : Int) := by omega
    first
      | (rw [decide_eq_true q'] at h5; exact absurd h5 (by decide))
      | (simp at h5; omega)
  cases hwl with
  | cons w1 w2 =>
    cases w2
    cases w1 with
    | list ho hall => exact ⟨_, _, ns, rfl, rfl, ho, ints_of_wellAll ns _ hall, hlen⟩
theorem post_true (l : OpenLaw) (args : List WData) : l.row.toRowW.claim.post args (.bool true) args = true :=
  postW_of (r := l.row.toRowW) (X := (true == true))
    (show WShape.has [] (.bool true) .bool = true by first | rfl | decide | simp [WShape.has, WShape.arms, WShape.armsAll])
    (show (WTm.eq .res (.lit (.bool true))).value [] { args := args, res := some (.bool true), after := args } = some (.bool (true == true)) from w_eq_bool (w_res rfl) w_lit) rfl
theorem attach_call {l : OpenLaw} {n : Nat} {q : Program} {loose : List Str} {XP : (Str → Option Value) → Heap → Prop} {YP : World → Heap → Prop} {d : DefRec}
    (hn : l.most = some n) (hdf : d.params.defaults = [])
    (call : ∀ (w : World) (s₀ s₁ : Shared) (mg mb : Str → Option Value) (fa : Addr) (o : Obj) (pm cd doc : Value) (a : Addr) (vs : List Value) (ns : List Int),
      Ground q loose [] XP w s₀ mg mb s₁.heap → YP w s₁.heap →
      s₁.heap.get? fa = some o → o.data = .func (docDef d.name d.params d.body d.scope pm cd doc) → s₁.heap.CodeRec cd d.name → mg d.name = some (.ref fa) →
      s₁.heap.get? a = some { cls := .type "list", data := .seq vs.toArray } → IntsAre vs ns → ns.length ≤ n → s₁.gens = #[] →
      codeAny (model l.prog w) callerA (.call (.ref fa) ⟨[.ref a], []⟩) (fun r s' => r = .ok (.ret (.bool true)) ∧ OldK s₁.heap s'.heap ∧ s'.os = s₁.os ∧ AllBare s'.gens) s₁) :
    WalkO q loose XP YP l.row.toRowW d [] (fun f vs => PySem.call f vs) := by
  intro w s₀ s₁ mg mb G Y fa o pm cd doc dV kV ho hd hcd hD hmg hg args vals as hpre hlay hrd hwl hlo
  obtain rfl : dV = .none := Dflts.none hD hdf
  obtain rfl : kV = .none := Dflts.noKw hD
  obtain ⟨a, vs, ns, rfl, rfl, hobj, hints, hlen⟩ := script_of hn hpre hwl
  refine enter_call (codeAny_mono (call w s₀ s₁ mg mb fa o pm cd doc a vs ns G Y ho (fd_plain hd) hcd hmg hobj hints hlen hg) fun r s' hq => ?_)
  obtain ⟨rfl, h2, h3, h4⟩ := hq
  exact ⟨.inl ⟨.bool true, .bool true, [], rfl, fun _ => rfl, .bool true, post_true l _, fun _ => ⟨List.Pairwise.nil, fun _ hm => (nomatch hm)⟩⟩, h2, h3, h4⟩
section
variable {prog : Program} {w : World} {A : Around} {E : Value → Shared → Prop} {s : Shared} {K : Frag}
def ledger (h : Heap) (L d : Addr) : List (Addr × Obj) := (List.range h.objs.size).filterMap fun a => if a = L ∨ a = d then none else (h.get? a).map fun o => (a, o)
end
end Att
namespace L2
open PySem PySem.Spec PyProof.Rows
theorem vals_ints : ∀ {vs : List Value} {ns : List Int}, IntsAre vs ns → Vals (ns.map V.int) vs
  | _, _, .nil => .nil
  | _, _, .cons n t h => .cons ⟨t, rfl⟩ (vals_ints h)
def Only (H : Hp) : Prop := ∀ b, H b = none ∨ ∃ o xs, H b = some (.frz o (.lst xs))
theorem law_call {P : Program} {w : World} {K : PySem.W.Frag} {mg mb : Str → Option Value} {CX : CXT} {k : Nat} {fa a : Addr} {fd : FuncData} {x : Str} {sp : Sp} {s₁ : Shared} {vs : List Value} {ns : List Int}
    (KX : K.In s₁.heap) (hns : s₁.heap.Ns mainGlobals mg) (hb : s₁.heap.Ns builtinsNs mb) (hbb : ∀ x : Str, x ≠ "__name__" → mb x = bootBuiltins x) (hlim : s₁.heap.NoLimit) (hg : s₁.gens = #[])
    (ha : s₁.heap.get? a = some { cls := .type "list", data := .seq vs.toArray }) (hi : IntsAre vs ns) (hl : ns.length ≤ sizeLine) (hr : Room k callerA)
    (F : ∀ base : Heap, K.In base → base.Ns mainGlobals mg → FnOk P w K mg base CX k fa fd [x] sp) (hbind : ∀ (s : Shared) (u : Value), BindsTo s fd ⟨[u], []⟩ [(x, u)])
    (hsp : ∀ H : Hp, Only H → SqL K H a (ns.map V.int) → sp [.ref a] H (fun v _ => v = .bl true) fun _ _ _ => False)
    (hCX : ∀ H e s', CX [] H s₁ (fun _ _ _ => False) e s' → False) :
    codeAny (model P w) callerA (.call (.ref fa) ⟨[.ref a], []⟩) (fun r s' => r = .ok (.ret (.bool true)) ∧ OldK s₁.heap s'.heap ∧ s'.os = s₁.os ∧ AllBare s'.gens) s₁ := by
  have rv := vals_ints hi
  have lenV := hi.length
  -- from an abstract heap in which nothing but the script may be tracked
  have core : ∀ H : Hp, Only H → SqL K H a (ns.map V.int) → HOk P w H s₁.heap → (∀ b, H b ≠ none → b = a) → (H a ≠ none → K.lookup a = none) →
      codeAny (model P w) callerA (.call (.ref fa) ⟨[.ref a], []⟩) (fun r s' => r = .ok (.ret (.bool true)) ∧ OldK s₁.heap s'.heap ∧ s'.os = s₁.os ∧ AllBare s'.gens) s₁ := by
    intro H hO hS hok hA hK
    have base_of : ∀ {b : Addr} {o : Obj}, s₁.heap.get? b = some o → H b = none → (hidT s₁.heap H).get? b = some o := fun e n => hidT_get e n
    have noA : ∀ {b : Addr} {o : Obj} {es : Array DictEntry} {ep : Nat}, s₁.heap.get? b = some o → o.data = .dict es ep → H b = none := fun {b o es ep} e d => by
      cases q : H b with
      | none => rfl
      | some u =>
        have e' : b = a := hA b (by rw [q]; simp)
        subst e'
        rw [ha] at e; cases e
        have d' : Data.seq vs.toArray _ = Data.dict es ep := d
        cases d'
    have nsK : ∀ {b : Addr} {m : Str → Option Value}, s₁.heap.Ns b m → (hidT s₁.heap H).Ns b m := fun {b m} ⟨o, es, ep, e, d, r⟩ => ⟨o, es, ep, base_of e (noA e d), d, r⟩
    have hKb : K.In (hidT s₁.heap H) := fun b o e => base_of (KX b o e) (by
      cases q : H b with
      | none => rfl
      | some u =>
        have e' : b = a := hA b (by rw [q]; simp)
        subst e'
        rw [hK (by rw [q]; simp)] at e; cases e)
    have hM : Mod K mg (hidT s₁.heap H) := ⟨hKb, nsK hns, ⟨mb, nsK hb, hbb⟩, let ⟨mc, h1, h2⟩ := hlim; ⟨mc, nsK h1, h2⟩⟩
    have e0 : Env0 P w K mg (hidT s₁.heap H) callerA [] s₁ H := ⟨rfl, hM, fun b o e => of_hidT e, Nat.le_of_eq (hidT_size _ _), trivial, fun b hb => absurd (show b ∈ ([] : List Addr) from hb) (by simp), hok, .of_eq hg⟩
    refine codeAny_mono ((F _ hKb (nsK hns)).run callerA [] s₁ H ⟨[.ref a], []⟩ [.ref a] [.ref a] _ _ hr e0 (hbind s₁ (.ref a)) (.cons rfl .nil) (hsp H hO hS)) fun r s' h => ?_
    cases r with
    | error e => exact (hCX H e s' h).elim
    | ok fl =>
      cases fl with
      | next => exact False.elim h
      | brk => exact False.elim h
      | cont => exact False.elim h
      | ret u =>
        obtain ⟨v, H', os, bare, un, hok', r', q⟩ := h
        have q' : v = .bl true := q
        subst q'
        obtain rfl : u = Value.bool true := r'
        refine ⟨rfl, OldK.of_keep fun b o e => ?_, os, bare⟩
        cases q : H b with
        | none => exact un.keep b o e q (by intro z; exact absurd (show b ∈ ([] : List Addr) from z) (by simp)) (by simp)
        | some u =>
          rcases hO b with z | ⟨ob, xs, z⟩
          · rw [q] at z; cases z
          · have z2 := un.frzs b ob _ z
            obtain ⟨e1, _⟩ := hok b _ z
            obtain ⟨e2, _⟩ := hok' b _ z2
            rw [e] at e1; cases e1
            exact e2
  cases hk : K.lookup a with
  | some o =>
    -- the script is one of the module's own objects
    have e := KX a o hk
    rw [ha] at e
    cases e
    refine core (fun _ => none) (fun _ => .inl rfl) (.inr ⟨_, vs.toArray, _, hk, rfl, rfl, rfl, by rw [List.size_toArray, lenV]; exact hl, by simpa using rv⟩) (fun b u z => by have z' : (none : Option HO) = some u := z; cases z') (fun b z => absurd rfl z) fun z => absurd rfl z
  | none =>
    refine core (fun b => if b = a then some (.frz { cls := .type "list", data := .seq vs.toArray } (.lst (ns.map V.int))) else none) (fun b => ?_) (.inl (.inr ⟨{ cls := .type "list", data := .seq vs.toArray }, if_pos rfl⟩)) (fun b u z => ?_) (fun b z => ?_) fun _ => hk
    · by_cases hb : b = a
      · exact .inr ⟨_, _, if_pos hb⟩
      · exact .inl (if_neg hb)
    · by_cases hb : b = a
      · have z' := (if_pos hb).symm.trans z
        cases z'
        subst hb
        exact ⟨ha, by rw [List.length_map]; exact hl, vs, _, rv, ha⟩
      · have z' := (if_neg hb).symm.trans z
        cases z'
    · by_cases hb : b = a
      · exact hb
      · exact absurd (if_neg hb) z
end L2
namespace L2
open PySem PySem.Spec PyProof.Rows
abbrev KOf {K : PySem.W.Frag} {h : Heap} (_ : K.In h) : PySem.W.Frag := K
theorem walk_of {l : PySem.W.OpenLaw} {n k : Nat} {q : Program} {loose : List Str} {XP : (Str → Option Value) → Heap → Prop} {YP : World → Heap → Prop} {d : DefRec} {K : Params → PySem.W.Frag} {CX : World → CXT} {sp : World → Sp} {x : Str}
    (hn : l.most = some n) (hn2 : n ≤ sizeLine) (hdf : d.params.defaults = []) (hr : Room k callerA)
    (hY : ∀ (w : World) (h : Heap), YP w h → (K w.params).In h)
    (F : ∀ (w : World) (mg : Str → Option Value) (fa : Addr) (h : Heap), (K w.params).In h → h.Ns mainGlobals mg → mg d.name = some (.ref fa) →
      ∃ fd : FuncData, (∀ (s : Shared) (u : Value), BindsTo s fd ⟨[u], []⟩ [(x, u)]) ∧
        ∀ base : Heap, (K w.params).In base → base.Ns mainGlobals mg → FnOk l.prog w (K w.params) mg base (CX w) k fa fd [x] (sp w))
    (hsp : ∀ (w : World) (H : Hp) (a : Addr) (ns : List Int), ns.length ≤ n → Only H → SqL (K w.params) H a (ns.map V.int) → sp w [.ref a] H (fun v _ => v = .bl true) fun _ _ _ => False)
    (hCX : ∀ (w : World) (H : Hp) (s : Shared) (e : Value) (s' : Shared), CX w [] H s (fun _ _ _ => False) e s' → False) :
    PySem.W.WalkO q loose XP YP l.row.toRowW d [] (fun f vs => PySem.call f vs) := by
  refine Att.attach_call hn hdf fun w s₀ s₁ mg mb fa o pm cd doc a vs ns G Y ho hd hcd hmg hobj hints hlen hg => ?_
  have KX := hY w _ Y
  obtain ⟨fd, hb, hF⟩ := F w mg fa _ KX G.T.g hmg
  exact law_call KX G.T.g G.T.b G.T.builtins G.T.nolimit hg hobj hints (Nat.le_trans hlen hn2) hr hF hb (fun H hO hS => hsp w H a ns hlen hO hS) fun H e s' => hCX w H s₁ e s'
end L2
namespace L2
open PySem PySem.Spec PyProof.Rows
def defArgs (s : Stmt) : Arguments := match s with
  | .FunctionDef _ a _ _ _ _ _ _ _ _ => a
  | _ => { posonlyargs := [], args := [], vararg := none, kwonlyargs := [], kw_defaults := [], kwarg := none, defaults := [] }
def defBody (s : Stmt) : List Stmt := match s with
  | .FunctionDef _ _ b _ _ _ _ _ _ _ => b
  | _ => []
def defScope (s : Stmt) : Scope := match s with
  | .FunctionDef _ _ _ _ _ _ sc _ _ _ => sc
  | _ => { kind := .function, names := [], isGenerator := false, isCoroutine := false }
abbrev CX0 : CXT := fun _ _ _ _ _ _ => False
abbrev E0 : XK := fun _ _ _ => False
structure Fun (K : PySem.W.Frag) (x qual : Str) (st : Stmt) (f : Addr) (fd : FuncData) : Prop where
  ex : ∃ (oc : Value) (od : Option Addr) (kV doc pm : Value) (an : Option Addr) (cdv ct : Value) (osl : Array (Option Value)),
    fd = PySem.W.fnOf x qual (defArgs st) (defBody st) (defScope st) .none kV doc pm an cdv ct ∧ K.lookup f = some ⟨oc, od, .func fd, osl⟩ ∧ PySem.W.codeIn K cdv qual = true
  kp : PySem.W.keepIn K (.ref f) = true
section
variable {P : Program} {w : World} {K : PySem.W.Frag} {mg : Str → Option Value} {base : Heap}
theorem Fun.ok {x qual : Str} {st : Stmt} {f : Addr} {fd : FuncData} {N ps : List Str} {k : Nat} {sp : Sp} (F : Fun K x qual st f fd) (S : FnScope N ps (defScope st)) (len : ∀ vs H Q E, sp vs H Q E → vs.length = ps.length)
    (hbody : ∀ (cdv : Value) (A : Around) (outer : List Env) (s : Shared) (H : Hp) (vs : List V) (Q : VK) (E : XK), Room k (A.deeper (envOfC qual (defScope st) s.heap.objs.size f cdv)) → sp vs H Q E →
      ∃ t, PSs (cxOf CX0 P w K mg base N qual (defScope st) f cdv A outer s H E).nox (defBody st) t ∧ t { nx := fun _ H' => Q .non H', rt := Q } (start N vs) H) : FnOk P w K mg base CX0 (k + 1) f fd ps sp := by
  obtain ⟨oc, od, kV, doc, pm, an, cdv, ct, osl, rfl, lk, hcd⟩ := F.ex
  refine fn_of lk hcd S len fun A outer s H vs Q E hr hsp => ?_
  obtain ⟨t, h, q⟩ := hbody cdv A outer s H vs Q E hr hsp
  exact ⟨t, h.nox, q⟩
theorem Fun.binds {x qual : Str} {st : Stmt} {f : Addr} {fd : FuncData} {ps : List Str} (F : Fun K x qual st f fd)
    (h : ∀ (kV doc pm : Value) (an : Option Addr) (cdv ct : Value) (us : List Value), us.length = ps.length → bindArgs (PySem.W.fnOf x qual (defArgs st) (defBody st) (defScope st) .none kV doc pm an cdv ct) ⟨us, []⟩ = pure (ps.zip us)) : Binds K fd ps [] := by
  obtain ⟨oc, od, kV, doc, pm, an, cdv, ct, osl, rfl, lk, hcd⟩ := F.ex
  exact .all (h kV doc pm an cdv ct)
theorem fun_mk {x qual : Str} {st : Stmt} {f : Addr} {oc : Value} {od an : Option Addr} {osl : Array (Option Value)} {kV doc pm cdv ct : Value} (l : K.lookup f = some ⟨oc, od, .func (PySem.W.fnOf x qual (defArgs st) (defBody st) (defScope st) .none kV doc pm an cdv ct), osl⟩)
    (c : PySem.W.codeIn K cdv qual = true) (k : PySem.W.keepIn K (.ref f) = true) : Fun K x qual st f (PySem.W.fnOf x qual (defArgs st) (defBody st) (defScope st) .none kV doc pm an cdv ct) := ⟨⟨oc, od, kV, doc, pm, an, cdv, ct, osl, rfl, l, c⟩, k⟩
end
theorem small1000 {n : Nat} (h : n ≤ 1000) : n < sizeLine := Nat.lt_of_le_of_lt h (by decide)
section
variable {X : Cx}
theorem pv (i : Nat) {x : Str} {pos : Pos} (hN : X.N[i]? = some x := by rfl) (hv : Vis X.env.scope x := by first | exact Or.inl rfl | exact Or.inr (Or.inl rfl) | exact Or.inr (Or.inr rfl)) (hd : (x == ("__debug__" : Str)) = false := by decide)
    (hcd : (x == ("__classdict__" : Str)) = false := by decide) : PE X (.Name x pos) (tVar i) := pe_var hN hv hd hcd
end
theorem iteF {A B : Prop} (h : B) : if false = true then A else B := by
  rw [if_neg Bool.false_ne_true]
  exact h
theorem iteT {A B : Prop} (h : A) : if true = true then A else B := by
  rw [if_pos rfl]
  exact h
theorem ite2 {c A B : Prop} [Decidable c] (h1 : c → A) (h2 : ¬ c → B) : if c then A else B := by
  by_cases h : c
  · rw [if_pos h]
    exact h1 h
  · rw [if_neg h]
    exact h2 h
def Same (H H' : Hp) : Prop := ∀ b o, H b = some o → H' b = some o
theorem Same.refl (H : Hp) : Same H H := fun _ _ h => h
theorem Same.trans {H H1 H2 : Hp} (a : Same H H1) (b : Same H1 H2) : Same H H2 := fun c o h => b c o (a c o h)
theorem Same.free {H H' : Hp} (e : Same H H') {l : Addr} (h : H' l = Option.none) : H l = Option.none := by
  cases q : H l with
  | none => rfl
  | some o =>
    rw [e l o q] at h
    cases h
theorem Same.seq {K : PySem.W.Frag} {H H' : Hp} {a : Addr} {xs : List V} (e : Same H H') (h : SqL K H a xs) : SqL K H' a xs := by
  rcases h with (h | ⟨o, h⟩) | h
  · exact .inl (.inl (e _ _ h))
  · exact .inl (.inr ⟨o, e _ _ h⟩)
  · exact .inr h
end L2
set_option Elab.async false
set_option linter.all false
set_option maxRecDepth 100000
set_option maxHeartbeats 4000000
namespace L2
open PySem PySem.Spec PyProof.Rows
def compCx (X : Cx) (L : List Str) (scope : Scope) (cl : List (Str × Addr)) (C : Addr) (s₂ : Shared) (H₂ : Hp) (fp : List Addr) : Cx where
  prog := X.prog
  w := X.w
  K := X.K
  mg := X.mg
  base := X.base
  A := X.A
  N := X.N ++ L
  s₀ := s₂
  H₀ := H₂
  env := compEnvC scope cl C X.env
  outer := X.stack
  stack := X.stack
  ex := fp
  fn := fun _ => false
  calm := X.calm
  pn := []
  xe := fun _ _ => False
def compOk (sc : Scope) (N L : List Str) (scope : Scope) : Bool :=
  decide (scope.kind = .function) && scope.names.all (fun y => decide (y.2 ≠ .cell) && (decide (y.2 ≠ .local) || (decide (scope.names.lookup y.1 = some .local) && decide (y.1 ∉ N))) &&
    (decide (y.2 ≠ .free) || decide (sc.names.lookup y.1 = some .cell) || decide (sc.names.lookup y.1 = some .free))) && decide ((N ++ L).Nodup)
theorem compOk_kind {sc : Scope} {N L : List Str} {scope : Scope} (h : compOk sc N L scope = true) : scope.kind = .function := by
  simp only [compOk, Bool.and_eq_true, decide_eq_true_eq] at h
  exact h.1.1
theorem compOk_at {sc : Scope} {N L : List Str} {scope : Scope} (h : compOk sc N L scope = true) {y : Str × NameKind} (hy : y ∈ scope.names) :
    y.2 ≠ .cell ∧ (y.2 = .local → scope.names.lookup y.1 = some .local ∧ y.1 ∉ N) ∧ (y.2 = .free → sc.names.lookup y.1 = some .cell ∨ sc.names.lookup y.1 = some .free) := by
  simp only [compOk, Bool.and_eq_true, decide_eq_true_eq, List.all_eq_true, Bool.or_eq_true] at h
  have q := h.1.2 y hy
  obtain ⟨⟨q1, q2⟩, q3⟩ := q
  refine ⟨q1, fun e => ?_, fun e => ?_⟩
  · rcases q2 with q2 | q2
    · exact absurd e q2
    · exact q2
  · rcases q3 with (q3 | q3) | q3
    · exact absurd e q3
    · exact .inl q3
    · exact .inr q3
theorem closure_fold {env : Env} : ∀ (names : List (Str × NameKind)) (acc : List (Str × Addr)), (∀ y ∈ names, y.2 = .free → ∃ c, env.cells.lookup y.1 = some c) →
    (∀ x c, acc.lookup x = some c → env.cells.lookup x = some c) →
    ∃ cl, (forIn names acc (fun (x : Str × NameKind) (cs : List (Str × Addr)) => match x with
      | (name, kind) => if (kind == NameKind.free) = true then do let a ← cellOf env name; pure (ForInStep.yield ((name, a) :: cs)) else pure (ForInStep.yield cs)) : Sem (List (Str × Addr))) = pure cl ∧
      (∀ x c, cl.lookup x = some c → env.cells.lookup x = some c) ∧ (∀ y ∈ names, y.2 = .free → ∃ c, cl.lookup y.1 = some c) ∧ (∀ x c, acc.lookup x = some c → ∃ c', cl.lookup x = some c')
  | [], acc, _, ha => ⟨acc, rfl, ha, fun _ h => (nomatch h), fun _ c e => ⟨c, e⟩⟩
  | (n, k) :: r, acc, hf, ha => by
    by_cases hk : k = .free
    · subst hk
      obtain ⟨c, hc⟩ := hf (n, .free) List.mem_cons_self rfl
      have ha' : ∀ x c', ((n, c) :: acc).lookup x = some c' → env.cells.lookup x = some c' := fun x c' e => by
        by_cases hx : x = n
        · subst hx
          simp [List.lookup_cons] at e
          rw [← e]; exact hc
        · have : (x == n) = false := by simpa using hx
          simp [List.lookup_cons, this] at e
          exact ha x c' e
      obtain ⟨cl, e1, e2, e3, e4⟩ := closure_fold r ((n, c) :: acc) (fun y hy => hf y (List.mem_cons_of_mem _ hy)) ha'
      refine ⟨cl, ?_, e2, fun y hy hfr => ?_, fun x c' e => ?_⟩
      · rw [List.forIn_cons]
        show (if (NameKind.free == NameKind.free) = true then (do let a ← cellOf env n; pure (ForInStep.yield ((n, a) :: acc))) else pure (ForInStep.yield acc)) >>= _ = _
        rw [if_pos (by decide)]
        unfold cellOf
        rw [hc]
        simp only [pure_bind]
        exact e1
      · rcases List.mem_cons.mp hy with rfl | hy
        · exact e4 n c (by simp [List.lookup_cons])
        · exact e3 y hy hfr
      · by_cases hx : x = n
        · subst hx
          exact e4 x c (by simp [List.lookup_cons])
        · have : (x == n) = false := by simpa using hx
          exact e4 x c' (by simp [List.lookup_cons, this]; exact e)
    · obtain ⟨cl, e1, e2, e3, e4⟩ := closure_fold r acc (fun y hy => hf y (List.mem_cons_of_mem _ hy)) ha
      refine ⟨cl, ?_, e2, fun y hy hfr => ?_, e4⟩
      · rw [List.forIn_cons]
        have hb : (k == NameKind.free) = false := by simpa using hk
        show (if (k == NameKind.free) = true then (do let a ← cellOf env n; pure (ForInStep.yield ((n, a) :: acc))) else pure (ForInStep.yield acc)) >>= _ = _
        rw [hb, if_neg (by simp)]
        simp only [pure_bind]
        exact e1
      · rcases List.mem_cons.mp hy with rfl | hy
        · exact absurd hfr hk
        · exact e3 y hy hfr
theorem closure_of {env : Env} {scope : Scope} (hf : ∀ y ∈ scope.names, y.2 = .free → ∃ c, env.cells.lookup y.1 = some c) :
    ∃ cl, closureFor scope env = pure cl ∧ (∀ x c, cl.lookup x = some c → env.cells.lookup x = some c) ∧ (∀ y ∈ scope.names, y.2 = .free → ∃ c, cl.lookup y.1 = some c) := by
  obtain ⟨cl, e1, e2, e3, _⟩ := closure_fold scope.names [] hf (fun x c e => by simp at e)
  refine ⟨cl, ?_, e2, e3⟩
  unfold closureFor
  simp only [bind_pure_comp, map_pure] at *
  first
    | exact e1
    | (rw [e1]; rfl)
    | (simp only [bind_pure]; exact e1)
theorem lookup_mem {names : List (Str × NameKind)} {x : Str} {k : NameKind} (h : names.lookup x = some k) : (x, k) ∈ names := PySem.mem_of_lookup h
theorem of_relabel {env : Env} : ∀ {names : List (Str × NameKind)} {x : Str} {k : NameKind},
    (names.map fun (n, k) => if (k == NameKind.free && env.scope.kind == .function && env.kindOf n == some .cell) then (n, NameKind.cell) else (n, k)).lookup x = some k →
    ∃ k', names.lookup x = some k' ∧ (k = k' ∨ (k' = .free ∧ k = .cell))
  | [], _, _, h => by simp at h
  | (n, k0) :: r, x, k, h => by
    cases hx : x == n with
    | true =>
      by_cases hc : (k0 == NameKind.free && env.scope.kind == .function && env.kindOf n == some .cell) = true
      · simp only [List.map_cons, if_pos hc, List.lookup_cons, hx] at h
        have hk : k0 = .free := by
          simp only [Bool.and_eq_true, beq_iff_eq] at hc
          exact hc.1.1
        exact ⟨k0, by simp [List.lookup_cons, hx], .inr ⟨hk, (Option.some.inj h).symm⟩⟩
      · simp only [List.map_cons, if_neg hc, List.lookup_cons, hx] at h
        exact ⟨k0, by simp [List.lookup_cons, hx], .inl (Option.some.inj h).symm⟩
    | false =>
      have h' : (r.map fun (n, k) => if (k == NameKind.free && env.scope.kind == .function && env.kindOf n == some .cell) then (n, NameKind.cell) else (n, k)).lookup x = some k := by
        by_cases hc : (k0 == NameKind.free && env.scope.kind == .function && env.kindOf n == some .cell) = true
        · simp only [List.map_cons, if_pos hc, List.lookup_cons, hx] at h; exact h
        · simp only [List.map_cons, if_neg hc, List.lookup_cons, hx] at h; exact h
      obtain ⟨k', e, q⟩ := of_relabel h'
      exact ⟨k', by simp [List.lookup_cons, hx]; exact e, q⟩
def Ifs (X : Cx) (ifs : List Expr) (tt : TT) : Prop :=
  ∀ (pins : List (Addr × Obj)) (s : Shared) (σ : St) (H : Hp) (Q : Bool → Hp → Prop), Inv X pins σ H s → tt σ H Q →
    wpAny (model X.prog X.w) X.A (forIn ifs true fun c r => if r = true then do let ok ← isTrue c X.env (eval c X.env); pure (ForInStep.yield ok) else pure (ForInStep.yield r)) (TP X pins σ Q) X.xe s
def tYes : TT := fun _ H Q => Q true H
theorem ifs_nil {X : Cx} : Ifs X [] tYes := fun pins s σ H Q I h => wpAny_tests_nil ⟨H, I, h⟩
def tCompJ (k : Nat) (g : TG) (tt : TT) (te : TE) (σ : St) (Q : VK) (J : It) (H1 : Hp) : Prop := ∃ W : Nat → Nat → List V → St → Hp → Prop, (∃ m, W 0 m [] (σ ++ List.replicate k none) H1) ∧ ∀ i m ys σ' H, W i m ys σ' H →
  (J.stop i H ∧ ∀ D, H D = none → Q (.ref D) (upd H D (.lst ys))) ∨
  (J.go i H ∧ ys.length < sizeLine ∧ ∃ N : List V → St → Hp → Prop, (∀ ys' σ' H', N ys' σ' H' → ∃ m', m' < m ∧ W (i + 1) m' ys' σ' H') ∧
    ∀ x H', J.yld i H x H' → g x σ' H' fun σ2 H2 => tt σ2 H2 fun b H3 => if b = true then te σ2 H3 fun y H4 => N (ys ++ [y]) σ2 H4 else N ys σ2 H3)
def tComp (k : Nat) (wi : TI) (g : TG) (tt : TT) (te : TE) : TE := fun σ H Q => wi σ H (tCompJ k g tt te σ Q)
section
variable {prog : Program} {w : World} {A : Around} {R : Result → Shared → Prop} {s : Shared}
theorem codeAny_compLoop_own {elt target iter : Expr} {ifs : List Expr} {scope : Scope} {pos : Pos} {it acc : Value} {env : Env} (I : Nat → Shared → Prop)
    (turn : ∀ n s, I n s → wpAny (model prog w) A (pyNext it) (fun r s₁ => match r with
      | none => R (.ok .next) s₁
      | some v => wpAny (model prog w) A (letOwnedTupleGo target it v) (fun _ s₁' => wpAny (model prog w) A (assign target env v) (fun _ s₂ =>
          wpAny (model prog w) A (forIn ifs true fun c r => if r = true then do let ok ← isTrue c env (eval c env); pure (ForInStep.yield ok) else pure (ForInStep.yield r)) (fun ok s₃ =>
            if ok = true then wpAny (model prog w) A (eval elt env) (fun x s₄ =>
              wpAny (model prog w) A (call (.builtin "list.append") [acc, x]) (fun _ s₅ => ∃ m, m < n ∧ I m s₅) (fun _ _ => False) s₄) (fun _ _ => False) s₃
            else ∃ m, m < n ∧ I m s₃) (fun _ _ => False) s₂) (fun _ _ => False) s₁') (fun _ _ => False) s₁) (fun _ _ => False) s)
    (n : Nat) (h : I n s) :
    codeAny (model prog w) A (.compLoop (.ListComp elt [⟨target, iter, ifs, 0⟩] scope pos) 0 it acc env) R s := by
  refine codeAny_loop rfl I (fun n s hI => ?_) n h
  show wpAny _ A ((compTurn (.ListComp elt [⟨target, iter, ifs, 0⟩] scope pos) 0 it acc env).onRaise (fun x => do noteFrame x env; theTreesLotGoes x)) _ _ s
  refine wpAny_noted ?_
  rw [compTurn_list]
  refine wpAny_bind (wpAny_standAt (wpAny_bind (wpAny_mono (turn n s hI) (fun r s₁ h₁ => ?_) fun _ _ h' => h'.elim)))
  cases r with
  | none => exact wpAny_pure h₁
  | some v =>
    refine wpAny_bind (wpAny_mono h₁ (fun _ s₁' h₁' => ?_) fun _ _ h' => h'.elim)
    refine wpAny_bind (wpAny_mono h₁' (fun _ s₂ h₂ => wpAny_bind (wpAny_mono h₂ (fun ok s₃ h₃ => ?_) fun _ _ h' => h'.elim)) fun _ _ h' => h'.elim)
    cases ok with
    | false => exact wpAny_pure ⟨rfl, h₃⟩
    | true =>
      exact wpAny_bind (wpAny_bind (wpAny_mono h₃ (fun x s₄ h₄ => wpAny_bind (wpAny_mono h₄ (fun _ s₅ h₅ => wpAny_pure (wpAny_pure ⟨rfl, h₅⟩)) fun _ _ h' => h'.elim)) fun _ _ h' => h'.elim))
end
section
variable {X : Cx}
theorem comp_ok {pins : List (Addr × Obj)} {σ : St} {H : Hp} {s₂ : Shared} {L : List Str} {scope : Scope} {cl : List (Str × Addr)} {C : Addr} {fp : List Addr} {sc : Scope} {N : List Str}
    (I : Inv X pins σ H s₂) (hsc : X.env.scope = sc) (hN : X.N = N) (ok : compOk sc N L scope = true) (hc1 : ∀ x c, cl.lookup x = some c → X.env.cells.lookup x = some c)
    (hc2 : ∀ y ∈ scope.names, y.2 = .free → ∃ c, cl.lookup y.1 = some c) (hf : ∀ b ∈ fp, FpOk X pins H b) (hlt : ∀ b ∈ fp, b < s₂.heap.objs.size) (hC : s₂.heap.objs.size ≤ C) :
    (compCx X L scope cl C s₂ H fp).Ok where
  mod := I.ok.mod
  kind := (show scope.kind = .function from compOk_kind ok)
  glob := I.ok.glob
  blt := I.ok.blt
  above := hC
  inj := fun x y c h1 h2 => I.ok.inj x y c (hc1 x c h1) (hc1 y c h2)
  has := fun x hx => by
    have hx' : ∃ k, (relabel scope X.env).names.lookup x = some k ∧ (k = .cell ∨ k = .free) := by
      rcases hx with h | h
      · exact ⟨_, h, .inl rfl⟩
      · exact ⟨_, h, .inr rfl⟩
    obtain ⟨k, e, hk⟩ := hx'
    obtain ⟨k', e', q⟩ := of_relabel e
    have hm := lookup_mem e'
    have nc := (compOk_at ok hm).1
    have hfree : k' = .free := by
      rcases q with q | q
      · rcases hk with hk | hk
        · exact absurd (q.symm.trans hk) nc
        · exact q.symm.trans hk
      · exact q.1
    exact hc2 (x, k') hm hfree
  cab := fun x c h _ => by cases h
  hd := I.ok.hd
  frames := I.ok.frames
  stk := .inl rfl
  exf := fun b hb => ⟨Nat.ne_of_lt (Nat.lt_of_lt_of_le (hlt b hb) hC), fun x c e => (hf b hb).2.2.2.2.1 x c (hc1 x c e)⟩
  bs := I.bs
  bsz := Nat.le_trans I.ok.bsz I.sz
  noex := fun b o e hb => by
    rcases (hf b hb).2.2.2.1 with z | z
    · exact I.ok.noex b o e z
    · exact absurd (Nat.lt_of_lt_of_le (Heap.lt_size (I.ok.bs b o e).1) z) (Nat.lt_irrefl _)
  exfs := fun b hb z => by
    rcases List.mem_cons.mp (I.stkSub b z) with q | q
    · exact (hf b hb).2.1 q
    · exact (hf b hb).2.2.1 q
  funs := I.stack
  frf := I.stkFree
theorem comp_start {pins : List (Addr × Obj)} {σ : St} {H : Hp} {s₂ s₄ : Shared} {L : List Str} {scope : Scope} {cl : List (Str × Addr)} {C : Addr} {fp : List Addr} {sc : Scope} {N : List Str} {m : Str → Option Value}
    (I : Inv X pins σ H s₂) (hsc : X.env.scope = sc) (hN : X.N = N) (ok : compOk sc N L scope = true) (hc1 : ∀ x c, cl.lookup x = some c → X.env.cells.lookup x = some c)
    (Y : (compCx X L scope cl C s₂ H fp).Ok) (hC : s₂.heap.objs.size ≤ C) (hos : s₄.os = s₂.os) (hg : AllBare s₄.gens)
    (old : ∀ b o, s₂.heap.get? b = some o → s₄.heap.get? b = some o) (hns : s₄.heap.Ns C m) : Inv (compCx X L scope cl C s₂ H fp) [] (σ ++ List.replicate L.length none) H s₄ where
  ok := Y
  os := hos
  bare := hg
  base := Un.kept old
  loc := by
    refine ⟨m, hns, fun i x v e1 e2 e3 => ?_⟩
    have hl : σ.length = X.N.length := I.len
    have hi : i < σ.length := by
      by_cases h : i < σ.length
      · exact h
      · rw [List.getElem?_append_right (by omega), List.getElem?_replicate] at e2
        split at e2 <;> cases e2
    rw [List.getElem?_append_left hi] at e2
    have e1' : X.N[i]? = some x := by
      have : (X.N ++ L)[i]? = some x := e1
      rwa [List.getElem?_append_left (by omega)] at this
    have e3' : ∃ k, (relabel scope X.env).names.lookup x = some k ∧ (k = .local ∨ k = .cell ∨ k = .free) := by
      rcases e3 with h | h | h
      · exact ⟨_, h, .inl rfl⟩
      · exact ⟨_, h, .inr (.inl rfl)⟩
      · exact ⟨_, h, .inr (.inr rfl)⟩
    obtain ⟨k, ek, hk⟩ := e3'
    obtain ⟨k', e', q⟩ := of_relabel ek
    have hm := lookup_mem e'
    obtain ⟨nc, nl, fr⟩ := compOk_at ok hm
    have hk' : k' = .free := by
      rcases q with q | q
      · rcases hk with hk | hk | hk
        · have hl' : k' = .local := q.symm.trans hk
          exact absurd (hN ▸ List.mem_of_getElem? e1') (nl hl').2
        · exact absurd (q.symm.trans hk) nc
        · exact q.symm.trans hk
      · exact q.1
    have hX : X.env.kindOf x = some .cell ∨ X.env.kindOf x = some .free := by
      have := fr hk'
      rw [← hsc] at this
      exact this
    obtain ⟨m₀, hn₀, hl₀⟩ := I.loc
    obtain ⟨u, r, look⟩ := hl₀ i x v e1' e2 (.inr hX)
    refine ⟨u, r, .inr ⟨?_, ?_⟩⟩
    · show (relabel scope X.env).names.lookup x = some .cell ∨ (relabel scope X.env).names.lookup x = some .free
      rcases hk with hk | hk | hk
      · exfalso
        rcases q with q | q
        · rw [hk] at q; rw [hk'] at q; cases q
        · rw [hk] at q; exact nomatch q.2
      · exact .inl (hk ▸ ek)
      · exact .inr (hk ▸ ek)
    · rcases look with ⟨z, _⟩ | ⟨_, c, ec, hcell⟩
      · exfalso
        rcases hX with h | h <;> rw [h] at z <;> cases z
      · obtain ⟨c', ec'⟩ := Y.has x (by
          rcases hk with hk | hk | hk
          · exfalso
            rcases q with q | q
            · rw [hk] at q; rw [hk'] at q; cases q
            · rw [hk] at q; exact nomatch q.2
          · exact .inl (hk ▸ ek)
          · exact .inr (hk ▸ ek))
        have hcl : cl.lookup x = some c' := ec'
        have : c' = c := Option.some.inj ((hc1 x c' hcl).symm.trans ec)
        subst this
        refine ⟨c', hcl, ?_⟩
        obtain ⟨o, ho, hd⟩ := hcell
        exact ⟨o, old _ _ ho, hd⟩
  cell := fun x c e => by
    obtain ⟨v, o, ho, hd⟩ := I.cell x c (hc1 x c e)
    exact ⟨v, o, old _ _ ho, hd⟩
  free := I.hok.fresh hC
  freeC := fun x c e => I.freeC x c (hc1 x c e)
  pin := fun p hp => absurd (show p ∈ ([] : List (Addr × Obj)) from hp) (by simp)
  hok := I.hok.kept old
  len := by
    show _ = (X.N ++ L).length
    have hl : σ.length = X.N.length := I.len
    simp [hl]
theorem comp_back {pins : List (Addr × Obj)} {σ σ' : St} {H H' : Hp} {s₂ s' : Shared} {L : List Str} {scope : Scope} {cl : List (Str × Addr)} {fp : List Addr} {its : List Value} {ys : List V} {D C : Addr} {n : Nat} {pl : List (Addr × Obj)}
    (I : Inv X pins σ H s₂) (hf : ∀ b ∈ fp, FpOk X pins H b) (hD : s₂.heap.objs.size = D)
    (J : Inv (compCx X L scope cl C s₂ H fp) pl σ' H' s') (hpD : s'.heap.get? D = some { cls := .type "list", data := .seq its.toArray n }) (hHD : H' D = none) (hv : Vals ys its) (hz : ys.length ≤ sizeLine) :
    Inv X pins σ (upd H' D (.lst ys)) s' := by
  have B : Un (frs X.stack) fp H H' s₂.heap s'.heap := J.base
  have neD : ∀ b o, s₂.heap.get? b = some o → b ≠ D := fun b o e => by rw [← hD]; exact Nat.ne_of_lt (Heap.lt_size e)
  refine I.call' (ch := fp) J.os ⟨B.keep, B.slot, fun b o e hn hx => ?_, B.there, fun b xs e => ?_, fun b o u e => ?_, fun b ps e => ?_⟩ (fun b o e => ?_) J.bare (fun b hb => ⟨(hf b hb).2.2.2.1, (hf b hb).2.1, (hf b hb).2.2.2.2.1, (hf b hb).2.2.2.2.2⟩)
  · rw [upd_ne (neD b o e)]; exact B.free b o e hn hx
  · have := B.tups b xs e
    rw [upd_ne (ne_of_none this hHD)]; exact this
  · have := B.frzs b o u e
    rw [upd_ne (ne_of_none this hHD)]; exact this
  · obtain ⟨more, this⟩ := B.tbls b ps e
    exact ⟨more, by rw [upd_ne (ne_of_none this hHD)]; exact this⟩
  · by_cases hb : b = D
    · subst hb
      rw [upd_same] at e
      cases e
      exact ⟨hz, its, n, hv, hpD⟩
    · rw [upd_ne hb] at e
      exact (J.hok b o e).stay (fun _ _ _ q => q) (fun c q => by rw [upd_ne (ne_of_none q hHD)]; exact q) fun c xs q => by rw [upd_ne (ne_of_none q hHD)]; exact q
theorem comp_block {pins : List (Addr × Obj)} {σ : St} {H : Hp} {s₂ : Shared} {L : List Str} {scope : Scope} {cl : List (Str × Addr)} {fp : List Addr} {sc : Scope} {N : List Str} {tg elt iter : Expr} {ifs : List Expr} {pos : Pos}
    {g : TG} {tt : TT} {te : TE} {Q : VK} {J : It} {it : Addr} {tn : Nat → Heap → Prop} {RR : Value → Addr → Result → Shared → Prop} {E : Value → Shared → Prop}
    (hc : X.calm = true) (hsc : X.env.scope = sc) (hN : X.N = N) (ok : compOk sc N L scope = true) (hc1 : ∀ x c, cl.lookup x = some c → X.env.cells.lookup x = some c)
    (hc2 : ∀ y ∈ scope.names, y.2 = .free → ∃ c, cl.lookup y.1 = some c)
    (hg : ∀ cl C s₂ H₂ fp, PG (compCx X L scope cl C s₂ H₂ fp) tg g) (hi : ∀ cl C s₂ H₂ fp, Ifs (compCx X L scope cl C s₂ H₂ fp) ifs tt) (he : ∀ cl C s₂ H₂ fp, PE (compCx X L scope cl C s₂ H₂ fp) elt te)
    (I : Inv X pins σ H s₂) (T : Turn X.prog X.w X.K tg J fp it tn) (st : tn 0 s₂.heap) (hf : ∀ b ∈ fp, FpOk X pins H b) (hw : tCompJ L.length g tt te σ Q J H)
    (hR : ∀ D C m H' s' ys, s'.heap.Ns C m → s₂.heap.objs.size = D → s₂.heap.objs.size < C → H' C = none → D ≠ C → Inv X pins σ (upd H' D (.lst ys)) s' → Q (.ref D) (upd H' D (.lst ys)) → RR (.ref D) C (.ok .next) s') :
    wpAny (model X.prog X.w) X.A (newList []) (fun acc s₃ => wpAny (model X.prog X.w) X.A (newFunctionEnv scope X.env.globals cl [] X.env.qual none .none (some X.env)) (fun cenv s₄ =>
      codeAny (model X.prog X.w) X.A (.compStart (.ListComp elt [⟨tg, iter, ifs, 0⟩] scope pos) 0 (.ref it) acc { cenv with scope := relabel scope X.env }) (RR acc cenv.locals) s₄) E s₃) E s₂ := by
  refine wpAny_newObj_type (wpAny_newFunctionEnv (fun y hy => (compOk_at ok hy).1) (by intro y hy; simp at hy) (fun h₁ hns₁ hsb₁ => ?_) (compOk_kind ok))
  dsimp only at hns₁ hsb₁ ⊢
  generalize hH2 : s₂.heap.push { cls := .type "list", dict := none, data := .seq ([] : List Value).toArray } = H2 at hns₁ hsb₁ ⊢
  have hC : H2.objs.size = s₂.heap.objs.size + 1 := by rw [← hH2, Heap.size_push]
  have hCle : s₂.heap.objs.size ≤ H2.objs.size := by rw [hC]; exact Nat.le_succ _
  have hDC : s₂.heap.objs.size ≠ H2.objs.size := by rw [hC]; exact Nat.ne_of_lt (Nat.lt_succ_self _)
  have hlt : ∀ b ∈ fp, b < s₂.heap.objs.size := fun b hb => by
    obtain ⟨o, e, _⟩ := T.obj 0 _ st b hb
    exact Heap.lt_size e
  have below : ∀ b, b < s₂.heap.objs.size → b ≠ H2.objs.size := fun b hb => by rw [hC]; exact Nat.ne_of_lt (Nat.lt_succ_of_lt hb)
  have old : ∀ b o, s₂.heap.get? b = some o → h₁.get? b = some o := fun b o e => hsb₁.extBut b o (below b (Heap.lt_size e)) (Heap.get?_push_of_some _ (hH2 ▸ Heap.get?_push_of_some _ e))
  have hacc : h₁.get? s₂.heap.objs.size = some { cls := .type "list", data := .seq ([] : List Value).toArray 0 } := hsb₁.extBut _ _ hDC (Heap.get?_push_of_some _ (hH2 ▸ Heap.get?_push_size _ rfl))
  have Yok := comp_ok (L := L) (scope := scope) (cl := cl) (C := H2.objs.size) (fp := fp) I hsc hN ok hc1 hc2 hf hlt hCle
  generalize hDn : s₂.heap.objs.size = D at *
  generalize hCn : H2.objs.size = C at *
  have st₁ : tn 0 h₁ := T.keep _ _ _ st fun b _ o e => old b o e
  -- the block's own iterators
  have cellD : ∀ x c, cl.lookup x = some c → c ≠ D := fun x c e => by
    obtain ⟨v, q⟩ := I.cell x c (hc1 x c e)
    rw [← hDn]
    exact Nat.ne_of_lt q.lt
  have fpY : ∀ {H' : Hp} {its : List Value} {n : Nat}, (∀ b ∈ fp, H' b = none) → ∀ b ∈ fp, FpOk (compCx X L scope cl C s₂ H fp) [(D, { cls := .type "list", data := .seq its.toArray n })] H' b := fun {H' its n} hn b hb => by
    refine ⟨hn b hb, (Yok.exf b hb).1, Yok.exfs b hb, .inl hb, (Yok.exf b hb).2, fun p hp => ?_⟩
    have e : p = (D, { cls := .type "list", data := .seq its.toArray n }) := by
      have : p ∈ [(D, ({ cls := .type "list", data := .seq its.toArray n } : Obj))] := hp
      simpa using this
    subst e
    exact Ne.symm (Nat.ne_of_lt (hlt b hb))
  have nfsD : D ∉ (compCx X L scope cl C s₂ H fp).fs := fun z => by
    obtain ⟨_, o, ho, _⟩ := Yok.funs.mem z
    exact absurd (show D < s₂.heap.objs.size from Heap.lt_size ho) (by rw [hDn]; exact Nat.lt_irrefl _)
  have pinD : ∀ {σ' : St} {H' : Hp} {s' : Shared} {pl : List (Addr × Obj)} {its : List Value} {n : Nat}, Inv (compCx X L scope cl C s₂ H fp) pl σ' H' s' → s'.heap.get? D = some { cls := .type "list", data := .seq its.toArray n } → H' D = none →
      Inv (compCx X L scope cl C s₂ H fp) [(D, { cls := .type "list", data := .seq its.toArray n })] σ' H' s' := fun {σ' H' s' pl its n} J e hn => J.pins_of fun p hp => by
    have e' : p = (D, { cls := .type "list", data := .seq its.toArray n }) := by simpa using hp
    subst e'
    exact ⟨e, hn, hDC, nfsD, fun v z => by cases z⟩
  have I₁ : Inv (compCx X L scope cl C s₂ H fp) [] (σ ++ List.replicate L.length none) H { s₂ with heap := h₁, toks := s₂.toks + ([] : List (Str × Value)).length } :=
    comp_start I hsc hN ok hc1 Yok (by rw [hDn]; exact hCle) rfl I.bare old hns₁
  have HD : H D = none := I.hok.fresh (by rw [hDn]; exact Nat.le_refl _)
  obtain ⟨W, ⟨m0, w0⟩, turn⟩ := hw
  have loop : codeAny (model X.prog X.w) X.A (.compLoop (.ListComp elt [⟨tg, iter, ifs, 0⟩] scope pos) 0 (.ref it) (.ref D) (compEnvC scope cl C X.env)) (RR (.ref D) C)
      { s₂ with heap := h₁, toks := s₂.toks + ([] : List (Str × Value)).length } := by
    refine codeAny_compLoop_own (fun n s' => ∃ i ys its k σ' H', Inv (compCx X L scope cl C s₂ H fp) [(D, { cls := .type "list", data := .seq its.toArray k })] σ' H' s' ∧ Vals ys its ∧ ys.length ≤ sizeLine ∧ tn i s'.heap ∧ (∀ b ∈ fp, H' b = none) ∧ W i n ys σ' H')
      ?_ m0 ⟨0, [], [], 0, _, H, pinD I₁ hacc HD, .nil, Nat.zero_le _, st₁, fun b hb => (hf b hb).1, w0⟩
    rintro n s3 ⟨i, ys, its, k, σ3, H3, I3, hv3, hz3, st3, fr3, w3⟩
    have hp3 := I3.pin (D, { cls := .type "list", data := .seq its.toArray k }) (by simp)
    rcases turn i n ys σ3 H3 w3 with ⟨stop, q⟩ | ⟨go, hlen, Nx, hNx, step⟩
    · refine thn (T.done (compCx X L scope cl C s₂ H fp) rfl rfl rfl hc i _ s3 σ3 H3 _ I3 (fpY fr3) st3 stop) fun r s4 ⟨hr, I4⟩ => ?_
      subst hr
      have hp4 := I4.pin (D, { cls := .type "list", data := .seq its.toArray k }) (by simp)
      obtain ⟨m4, hn4, _⟩ := I4.loc
      exact hR D C m4 H3 s4 ys hn4 rfl (by rw [hC]; exact Nat.lt_succ_self _) I4.free hDC (comp_back I hf hDn I4 hp4.1 hp4.2.1 hv3 hz3) (q D hp4.2.1)
    · refine thn (T.item (compCx X L scope cl C s₂ H fp) rfl rfl rfl hc i _ s3 σ3 H3 _ I3 (fpY fr3) st3 go) fun r s4 ⟨u, hr, h4⟩ => ?_
      subst hr
      refine thn h4 fun _ s5 ⟨x, H5, I5, r5, y5, st5, fr5⟩ => ?_
      have I5' := I5.pinned (fpY fr5) (T.obj _ _ st5)
      refine thn (hg cl C s₂ H fp _ s5 σ3 H5 x u _ I5' r5 (step x H5 y5)) fun _ s6 ⟨σ6, H6, I6, q6⟩ => ?_
      refine thn (hi cl C s₂ H fp _ s6 σ6 H6 _ I6 q6) fun ok s7 ⟨H7, I7, q7⟩ => ?_
      have later : ∀ {σ' : St} {H' : Hp} {s' : Shared}, Inv (compCx X L scope cl C s₂ H fp) ([(D, { cls := .type "list", data := .seq its.toArray k })] ++ pinsAt fp s5.heap) σ' H' s' →
          tn (i + 1) s'.heap ∧ (∀ b ∈ fp, H' b = none) ∧ s'.heap.get? D = some { cls := .type "list", data := .seq its.toArray k } ∧ H' D = none := fun {σ' H' s'} J => by
        refine ⟨T.keep _ _ _ st5 fun b hb o e => (J.pin (b, o) (List.mem_append_right _ (List.mem_append_right _ (mem_pinsAt hb e)))).1, fun b hb => ?_, ?_⟩
        · obtain ⟨o, e, d⟩ := T.obj _ _ st5 b hb
          exact (J.pin (b, o) (List.mem_append_right _ (List.mem_append_right _ (mem_pinsAt hb e)))).2.1
        · have z := J.pin (D, { cls := .type "list", data := .seq its.toArray k }) (List.mem_append_right _ (List.mem_append_left _ (by simp)))
          exact ⟨z.1, z.2.1⟩
      cases ok with
      | false =>
        rw [if_neg (by simp)] at q7 ⊢
        obtain ⟨m', hm', w'⟩ := hNx _ _ _ q7
        obtain ⟨t1, t2, t3, t4⟩ := later I7
        exact ⟨m', hm', i + 1, ys, its, k, σ6, H7, pinD I7 t3 t4, hv3, hz3, t1, t2, w'⟩
      | true =>
        rw [if_pos rfl] at q7 ⊢
        refine thn (he cl C s₂ H fp _ s7 σ6 H7 _ I7 q7) fun y s8 ⟨v, H8, I8, r8, q8⟩ => ?_
        obtain ⟨m', hm', w'⟩ := hNx _ _ _ q8
        obtain ⟨t1, t2, t3, t4⟩ := later I8
        refine append_at (hsz := by rw [List.size_toArray, ← hv3.length]; exact hz3) t3 fun h9 hs9 hD9 => ?_
        have nbD : ∀ b ∈ fp, b ≠ D := fun b hb => Nat.ne_of_lt (hlt b hb)
        have I9 : Inv (compCx X L scope cl C s₂ H fp) [] σ6 H8 { s8 with heap := h9 } := (I8.pins_of (pins' := []) (fun p hp => by simp at hp)).turned (it := D) (t' := s8.toks) (fun b o hb e => hs9.extBut b o hb e) t4 hDC
          (.inr (by show s₂.heap.objs.size ≤ D; rw [hDn]; exact Nat.le_refl _)) cellD (fun p hp => by
            have : p ∈ ([] : List (Addr × Obj)) := hp
            simp at this)
        refine ⟨m', hm', i + 1, ys ++ [v], its ++ [y], k + 1, σ6, H8, pinD I9 (by rw [hD9]; simp) t4, hv3.append (.cons r8 .nil), by simp; omega, T.keep _ _ _ t1 fun b hb o e => hs9.extBut b o (nbD b hb) e, t2, w'⟩
  exact codeAny_compStart_list loop (T.self _ 0 _ _ _ st₁ loop)
end
end L2
set_option Elab.async false
set_option linter.all false
set_option maxRecDepth 100000
set_option maxHeartbeats 4000000
namespace L2
open PySem PySem.Spec PyProof.Rows
section
variable {X : Cx}
theorem pe_comp {L : List Str} {scope sc : Scope} {N : List Str} {tg elt iter : Expr} {ifs : List Expr} {pos : Pos} {wi : TI} {g : TG} {tt : TT} {te : TE}
    (hc : X.calm = true) (hsc : X.env.scope = sc) (hN : X.N = N) (ok : compOk sc N L scope = true)
    (hi : PI X tg iter wi) (hg : ∀ cl C s₂ H₂ fp, PG (compCx X L scope cl C s₂ H₂ fp) tg g) (hf : ∀ cl C s₂ H₂ fp, Ifs (compCx X L scope cl C s₂ H₂ fp) ifs tt) (he : ∀ cl C s₂ H₂ fp, PE (compCx X L scope cl C s₂ H₂ fp) elt te)
    (hs : ∀ x, foldedSetIterable iter X.env x = pure x := by intro _; rfl) :
    PE X (.ListComp elt [⟨tg, iter, ifs, 0⟩] scope pos) (tComp L.length wi g tt te) := by
  intro pins s σ H Q I h
  obtain ⟨cl, hcl, hc1, hc2⟩ := closure_of (env := X.env) (scope := scope) fun y hy hfr => by
    refine I.ok.has y.1 ?_
    have z := (compOk_at ok hy).2.2 hfr
    rw [← hsc] at z
    exact z
  rw [eval_ListComp]
  refine wpAny_comprehension_free (use := none) rfl hs hcl (compOk_kind ok) (fun y hy hl => ((compOk_at ok hy).2.1 hl).1) (thn (hi pins s σ H _ I h) fun v s1 h1 => thn h1 fun itv s2 h2 => ?_)
  obtain ⟨it, fp, tn, J, H2, e, I2, T, st2, f2, hw⟩ := h2
  subst e
  refine comp_block (RR := fun acc C => compPost (model X.prog X.w) X.A X.xe none (EP X pins σ Q) acc C) hc hsc hN ok hc1 hc2 hg hf he I2 T st2 f2 hw ?_
  intro D C m H' s' ys hns hD hC hHC hDC J' q
  refine ⟨m, hns, fun h'' hs'' => ⟨.ref D, upd H' D (.lst ys), ?_, rfl, q⟩⟩
  have hsz := I2.sz
  refine J'.turned (it := C) (t' := s'.toks) (fun b o hb e => hs''.extBut b o hb e) (by rw [upd_ne (Ne.symm hDC)]; exact hHC) (Ne.symm (Nat.ne_of_lt (Nat.lt_trans I2.lt hC))) (.inr (Nat.le_trans hsz (Nat.le_of_lt hC))) (fun x c e => ?_) (fun p hp => ?_)
  · obtain ⟨v, z⟩ := I2.cell x c e
    exact Nat.ne_of_lt (Nat.lt_trans z.lt hC)
  · exact Nat.ne_of_lt (Nat.lt_trans (Heap.lt_size (I2.pin p hp).1) hC)
end
end L2
set_option Elab.async false
set_option linter.all false
set_option maxRecDepth 100000
set_option maxHeartbeats 4000000
namespace L2
open PySem PySem.Spec PyProof.Rows
section
variable {X : Cx}
def Big (i : Int) : Prop := i.natAbs < 2 ^ 1000
theorem Big.of {i : Int} (b : Int) (hb : b < 2 ^ 1000) (h1 : -b ≤ i) (h2 : i ≤ b) : Big i := by
  unfold Big
  have : (i.natAbs : Int) ≤ b := by omega
  have h3 : (i.natAbs : Int) < 2 ^ 1000 := Int.lt_of_le_of_lt this hb
  exact_mod_cast h3
theorem Big.bits {i : Int} (h : Big i) : Builtin.Int.intBits i ≤ 2 ^ 20 := by
  unfold Builtin.Int.intBits
  by_cases h0 : i.natAbs = 0
  · have : i = 0 := by omega
    subst this
    decide
  · have := (Nat.log2_lt h0).mpr h
    split <;> omega
def CMulB (i j : Int) : Prop := Big i ∧ Big j
theorem op_mulB : OpR X (binaryOp .Mult) (rI CMulB fun i j => .int (i * j)) := opI fun _ _ _ _ _ _ _ hc q => mul_int q (IntMulOk.of_bits hc.1.bits hc.2.bits)
end
mutual
inductive Is (K : PySem.W.Frag) (H : Hp) : V → PyData → Prop
  | non : Is K H .non .none
  | bl (b : Bool) : Is K H (.bl b) (.bool b)
  | int (i : Int) : Is K H (.int i) (.int i)
  | str (x : Str) : Is K H (.str x) (.str x)
  | lst {a : Addr} {xs : List V} {ds : List PyData} : SqL K H a xs → IsAll K H xs ds → Is K H (.ref a) (.list ds)
  | tup {a : Addr} {xs : List V} {ds : List PyData} : SqT K H a xs → IsAll K H xs ds → Is K H (.ref a) (.tuple ds)
  | dc {a : Addr} : H a = some (.dK []) → Is K H (.ref a) (.dict [])
inductive IsAll (K : PySem.W.Frag) (H : Hp) : List V → List PyData → Prop
  | nil : IsAll K H [] []
  | cons {x : V} {xs : List V} {d : PyData} {ds : List PyData} : Is K H x d → IsAll K H xs ds → IsAll K H (x :: xs) (d :: ds)
end
theorem IsAll.ints {K : PySem.W.Frag} {H : Hp} : ∀ ns : List Int, IsAll K H (ns.map V.int) (ns.map PyData.int)
  | [] => .nil
  | n :: ns => .cons (.int n) (IsAll.ints ns)
theorem IsAll.bools {K : PySem.W.Frag} {H : Hp} : ∀ ns : List Bool, IsAll K H (ns.map V.bl) (ns.map PyData.bool)
  | [] => .nil
  | n :: ns => .cons (.bl n) (IsAll.bools ns)
section
variable {X : Cx} {pins : List (Addr × Obj)} {σ : St} {H : Hp} {s : Shared}
mutual
theorem Is.reads (I : Inv X pins σ H s) : ∀ {x : V} {d : PyData} {u : Value}, Is X.K H x d → RelV x u → ∃ as, Reads s.heap u d as
  | _, _, _, .non, r => by cases r; exact ⟨_, .none⟩
  | _, _, _, .bl b, r => by cases r; exact ⟨_, .bool b⟩
  | _, _, _, .int i, r => by obtain ⟨t, rfl⟩ := r; exact ⟨_, .int i t⟩
  | _, _, _, .str i, r => by obtain ⟨t, rfl⟩ := r; exact ⟨_, .str i t⟩
  | _, _, _, .lst hq hs, r => by
    cases r
    obtain ⟨its, rv, pl, hz⟩ := I.list hq
    obtain ⟨as, ra⟩ := IsAll.reads I hs rv
    obtain ⟨o, ho, hc, n, hd⟩ := pl.isList
    exact ⟨_, .list ho hc hd (by simpa using ra)⟩
  | _, _, _, .tup hq hs, r => by
    cases r
    obtain ⟨its, rv, pl, hz⟩ := I.tuple hq
    obtain ⟨as, ra⟩ := IsAll.reads I hs rv
    obtain ⟨o, ho, hc, n, hd⟩ := pl
    exact ⟨_, .tuple ho hc hd (by simpa using ra)⟩
  | _, _, _, .dc (a := a) e, r => by
    cases r
    obtain ⟨_, _, vs, kv, o, es, ep, h1, h2, h3, h4, h5, h6⟩ := (show ObjOk X.prog X.w H s.heap a (.dK []) from I.hok a _ e)
    have hv : vs = [] := by cases kv; rfl
    subst hv
    have he : es.toList = [] := by
      generalize es.toList = l at h5
      cases h5
      rfl
    exact ⟨_, .dict h1 h2.1 h3 (by rw [he]; exact .nil) (by rw [he]; exact .nil)⟩
theorem IsAll.reads (I : Inv X pins σ H s) : ∀ {xs : List V} {ds : List PyData} {us : List Value}, IsAll X.K H xs ds → Vals xs us → ∃ as, ReadsAll s.heap us ds as
  | _, _, _, .nil, r => by cases r; exact ⟨_, .nil⟩
  | _, _, _, .cons h hs, r => by
    cases r with
    | cons r1 r2 =>
      obtain ⟨as, ra⟩ := Is.reads I h r1
      obtain ⟨bs, rb⟩ := IsAll.reads I hs r2
      exact ⟨_, .cons ra rb⟩
end
end
section
variable {X : Cx}
def rEqD (K : PySem.W.Frag) : R2 := fun x y H Q => ∃ d d', Is K H x d ∧ Is K H y d' ∧ SeqAt.shaped d = true ∧ SeqAt.shaped d' = true ∧ Q (.bl (PyData.eqv d d')) H
def rNeD (K : PySem.W.Frag) : R2 := fun x y H Q => ∃ d d', Is K H x d ∧ Is K H y d' ∧ SeqAt.shaped d = true ∧ SeqAt.shaped d' = true ∧ Q (.bl (!PyData.eqv d d')) H
theorem op_eqD (hu : X.A.units + 64 < cLine) : OpR X (compareOp .Eq) (rEqD X.K) := by
  intro pins s σ H x y v u Q I rx ry h
  obtain ⟨d, d', h1, h2, h3, h4, q⟩ := h
  obtain ⟨as, ra⟩ := h1.reads I rx
  obtain ⟨bs, rb⟩ := h2.reads I ry
  exact eq_dataH ra rb h3 h4 hu ⟨.bl _, H, I, rfl, q⟩
theorem op_neD (hu : X.A.units + 64 < cLine) : OpR X (compareOp .NotEq) (rNeD X.K) := by
  intro pins s σ H x y v u Q I rx ry h
  obtain ⟨d, d', h1, h2, h3, h4, q⟩ := h
  obtain ⟨as, ra⟩ := h1.reads I rx
  obtain ⟨bs, rb⟩ := h2.reads I ry
  exact ne_dataH ra rb h3 h4 hu ⟨.bl _, H, I, rfl, q⟩
theorem bls_at {bs : List Bool} {its : List Value} (r : Vals (bs.map V.bl) its) {i : Nat} {v : Value} (e : its[i]? = some v) : v = .bool (bs.getD i false) := by
  have hl := r.length
  rw [List.length_map] at hl
  have hi : i < its.length := (List.getElem?_eq_some_iff.mp e).1
  have hb : (bs.map V.bl)[i]? = some (V.bl (bs.getD i false)) := by
    rw [List.getElem?_map]
    have : bs[i]? = some (bs.getD i false) := by
      rw [List.getD_eq_getElem?_getD, List.getElem?_eq_getElem (by omega)]; rfl
    rw [this]; rfl
  obtain ⟨u, eu, ru⟩ := r.get hb
  rw [e] at eu
  cases eu
  exact ru
theorem range_all (bs : List Bool) : (List.range bs.length).all (fun i => bs.getD i false) = bs.all id := by
  rw [Bool.eq_iff_iff]
  simp only [List.all_eq_true, List.mem_range, id]
  constructor
  · intro h b hb
    obtain ⟨i, hi, rfl⟩ := List.mem_iff_getElem.mp hb
    have := h i hi
    rwa [List.getD_eq_getElem?_getD, List.getElem?_eq_getElem hi] at this
  · intro h i hi
    rw [List.getD_eq_getElem?_getD, List.getElem?_eq_getElem hi]
    exact h _ (List.getElem_mem hi)
theorem call_all (hc : X.calm = true) : CallR X (.builtin "all") (fun xs H Q => ∃ (p : Addr) (bs : List Bool), xs = [.ref p] ∧ SqL X.K H p (bs.map V.bl) ∧ Q (.bl (bs.all id)) H) := by
  intro pins s σ H xs us Q I r h
  obtain ⟨p, bs, rfl, hq, q⟩ := h
  obtain ⟨u, rfl, rx⟩ := vals1 r
  cases rx
  obtain ⟨its, rv, pl, hz⟩ := I.list hq
  have hl := rv.length
  rw [List.length_map] at hl
  refine call_all_walk (wpAny_pyIter_list pl.isList ?_)
  have hlt : p < s.heap.objs.size := by obtain ⟨o, e, _⟩ := pl.isList; exact Heap.lt_size e
  refine ⟨s.heap.objs.size, _, _, _, _, _, fun i => bs.getD i false, rfl, Walks.list (A := X.A.in1) (I.ok.hd hc) s.heap.objs.size p (Nat.ne_of_lt hlt) its.toArray, ⟨⟨_, Heap.get?_push_size _ rfl, rfl, rfl⟩, pl.isList.push _⟩, ?_, fun h' tk k => ?_⟩
  · intro i v s Q E e hQ
    have e' : its[i]? = some v := by simpa using e
    rw [bls_at rv e']
    exact wpAny_truthy_bool hQ
  · rw [List.size_toArray, ← hl, range_all]
    refine ⟨.bl _, H, I.kept (fun b o e => k b o (fun hb => ?_) (Heap.get?_push_of_some _ e)), rfl, q⟩
    have : b = s.heap.objs.size := by simpa using hb
    exact absurd (this ▸ Heap.lt_size e) (Nat.lt_irrefl _)
end
end L2
set_option Elab.async false
set_option linter.all false
set_option maxRecDepth 100000
set_option maxHeartbeats 4000000
namespace L2
open PySem PySem.Spec PyProof.Rows
theorem bt_len : bootBuiltins "len" = some (.builtin "len") := by decide +kernel
theorem bt_abs : bootBuiltins "abs" = some (.builtin "abs") := by decide +kernel
theorem bt_max : bootBuiltins "max" = some (.builtin "max") := by decide +kernel
theorem bt_min : bootBuiltins "min" = some (.builtin "min") := by decide +kernel
theorem bt_all : bootBuiltins "all" = some (.builtin "all") := by decide +kernel
theorem bt_isinstance : bootBuiltins "isinstance" = some (.builtin "isinstance") := by decide +kernel
theorem bt_int : bootBuiltins "int" = some (.type "int") := by decide +kernel
theorem bt_bool : bootBuiltins "bool" = some (.type "bool") := by decide +kernel
theorem bt_str : bootBuiltins "str" = some (.type "str") := by decide +kernel
theorem bt_list : bootBuiltins "list" = some (.type "list") := by decide +kernel
theorem bt_tuple : bootBuiltins "tuple" = some (.type "tuple") := by decide +kernel
def NoX (CX : CXT) : Prop := ∀ o H s e s', CX o H s E0 e s' → False
theorem passN {CX : CXT} {X : Cx} (h : NoX CX) : Passes CX X E0 := fun _ _ _ _ _ _ _ q => (h _ _ _ _ _ q).elim
def Own (P : Program) (w : World) (K : PySem.W.Frag) (mg : Str → Option Value) (base : Heap) (CX : CXT) (k : Nat) (x : Str) (ps : List Str) (sp : Sp) : Prop :=
  ∃ (f : Addr) (fd : FuncData), FnOk P w K mg base CX k f fd ps sp ∧ mg x = some (.ref f) ∧ PySem.W.keepIn K (.ref f) = true ∧ Binds K fd ps []
section
variable {X : Cx} {CX : CXT} {k : Nat} {x : Str} {ps : List Str} {sp : Sp} {e : Expr} {es : List Expr} {t : TA} {p pos : Pos}
theorem pe_own (O : Own X.prog X.w X.K X.mg X.base CX k x ps sp) (hX : NoX CX) (hr : Room k X.A) (hg : Gl X x) (ha : PA X (e :: es) t) (hdb : (x == ("__debug__" : Str)) = false := by decide)
    (he : starEach (e :: es) X.env = (false, eval e X.env) :: starEach es X.env := by rfl) (hpl : (backTo pos (starEach es X.env)).any (·.1) = false := by rfl) : PE X (.Call (.Name x p) (e :: es) [] pos) (tCall sp [] E0 t) := by
  obtain ⟨f, fd, F, hm, hk, hb⟩ := O
  exact pe_call F hr hg hm hk hb .nil (passN hX) ha hdb he hpl
end
section
variable {P : Program} {w : World} {K : PySem.W.Frag} {mg : Str → Option Value} {base : Heap} {CX : CXT}
theorem Fun.okG {x qual : Str} {st : Stmt} {f : Addr} {fd : FuncData} {N ps : List Str} {k : Nat} {sp : Sp} (F : Fun K x qual st f fd) (S : FnScope N ps (defScope st)) (len : ∀ vs H Q E, sp vs H Q E → vs.length = ps.length)
    (hbody : ∀ (cdv : Value) (A : Around) (outer : List Env) (s : Shared) (H : Hp) (vs : List V) (Q : VK) (E : XK), Room k (A.deeper (envOfC qual (defScope st) s.heap.objs.size f cdv)) → sp vs H Q E →
      ∃ t, PSs (cxOf CX P w K mg base N qual (defScope st) f cdv A outer s H E).nox (defBody st) t ∧ t { nx := fun _ H' => Q .non H', rt := Q } (start N vs) H) : FnOk P w K mg base CX (k + 1) f fd ps sp := by
  obtain ⟨oc, od, kV, doc, pm, an, cdv, ct, osl, rfl, lk, hcd⟩ := F.ex
  refine fn_of lk hcd S len fun A outer s H vs Q E hr hsp => ?_
  obtain ⟨t, h, q⟩ := hbody cdv A outer s H vs Q E hr hsp
  exact ⟨t, h.nox, q⟩
end
def Pot (M : Int) (H : Hp) (p : Addr) : Prop := ∃ p0 p1 : Int, H p = some (.lst [.int p0, .int p1]) ∧ 0 ≤ p0 ∧ 0 ≤ p1 ∧ p1 < M
def Stp (p : Addr) (H H' : Hp) : Prop := ∀ b o, H b = some o → b ≠ p → H' b = some o
theorem Stp.refl {p : Addr} {H : Hp} : Stp p H H := fun _ _ e _ => e
theorem Stp.trans {p : Addr} {H H1 H2 : Hp} (a : Stp p H H1) (b : Stp p H1 H2) : Stp p H H2 := fun c o e n => b c o (a c o e n) n
theorem Stp.upd {p : Addr} {H : Hp} {o : HO} : Stp p H (upd H p o) := fun b u e n => by rw [upd_ne n]; exact e
theorem Same.upd {p : Addr} {H : Hp} {o : HO} (h : H p = none) : Same H (upd H p o) := fun b u e => by rw [upd_ne (ne_of_none e h)]; exact e
theorem Stp.free {p : Addr} {H H' : Hp} (h : Stp p H H') {l : Addr} (e : H' l = none) (hp : ∃ o, H' p = some o) : H l = none := by
  cases q : H l with
  | none => rfl
  | some o =>
    by_cases hl : l = p
    · subst hl
      obtain ⟨u, hu⟩ := hp
      rw [hu] at e; cases e
    · rw [h l o q hl] at e; cases e
theorem Pot.some {M : Int} {H : Hp} {p : Addr} (h : Pot M H p) : ∃ o, H p = some o := let ⟨_, _, e, _⟩ := h; ⟨_, e⟩
theorem Stp.lst {K : PySem.W.Frag} {p a : Addr} {H H' : Hp} {xs : List V} (h : Stp p H H') (e : SqL K H a xs) (n : a ≠ p) : SqL K H' a xs := by
  rcases e with (e | ⟨o, e⟩) | e
  · exact .inl (.inl (h _ _ e n))
  · exact .inl (.inr ⟨o, h _ _ e n⟩)
  · exact .inr e
def TupI (H : Hp) (v : V) (ns : List Int) : Prop := ∃ a, v = .ref a ∧ H a = some (.tup (ns.map V.int))
theorem TupI.is {K : PySem.W.Frag} {H : Hp} {v : V} {ns : List Int} (h : TupI H v ns) : Is K H v (.tuple (ns.map PyData.int)) := by
  obtain ⟨a, rfl, e⟩ := h
  exact .tup (SqT.of e) (IsAll.ints ns)
theorem TupI.same {H H' : Hp} {v : V} {ns : List Int} (s : Same H H') (h : TupI H v ns) : TupI H' v ns := by
  obtain ⟨a, rfl, e⟩ := h
  exact ⟨a, rfl, s _ _ e⟩
abbrev Pt := Int × Int
def PtAt (H : Hp) (v : V) (q : Pt) : Prop := TupI H v [q.1, q.2]
abbrev Pts (H : Hp) : List V → List Pt → Prop := Paired (PtAt H)
theorem Paired.get {α β : Type} {R : α → β → Prop} : ∀ {xs : List α} {ys : List β} {i : Nat} {x : α}, Paired R xs ys → xs[i]? = some x → ∃ y, ys[i]? = some y ∧ R x y
  | _, _, _, _, .nil, e => by simp at e
  | _, _, 0, _, .cons r _, e => by simp at e; subst e; exact ⟨_, rfl, r⟩
  | _, _, i + 1, x, .cons _ t, e => by
    obtain ⟨u, h1, h2⟩ := Paired.get (i := i) (x := x) t (by simpa using e)
    exact ⟨u, by simpa using h1, h2⟩
theorem Paired.get' {α β : Type} {R : α → β → Prop} : ∀ {xs : List α} {ys : List β} {i : Nat} {y : β}, Paired R xs ys → ys[i]? = some y → ∃ x, xs[i]? = some x ∧ R x y
  | _, _, _, _, .nil, e => by simp at e
  | _, _, 0, _, .cons r _, e => by simp at e; subst e; exact ⟨_, rfl, r⟩
  | _, _, i + 1, x, .cons _ t, e => by
    obtain ⟨u, h1, h2⟩ := Paired.get' (i := i) (y := x) t (by simpa using e)
    exact ⟨u, by simpa using h1, h2⟩
theorem Paired.len {α β : Type} {R : α → β → Prop} {xs : List α} {ys : List β} (h : Paired R xs ys) : xs.length = ys.length := PySem.Paired.length h
theorem Pts.same {H H' : Hp} {vs : List V} {ps : List Pt} (s : Same H H') (h : Pts H vs ps) : Pts H' vs ps := Paired.mapP h fun _ _ q => TupI.same s q
def ptD (q : Pt) : PyData := .tuple [.int q.1, .int q.2]
theorem Pts.is {K : PySem.W.Frag} {H : Hp} : ∀ {vs : List V} {ps : List Pt}, Pts H vs ps → IsAll K H vs (ps.map ptD)
  | _, _, .nil => .nil
  | _, _, .cons r t => .cons (TupI.is r) (Pts.is t)
theorem bigN {n : Int} (h1 : -10000000000000000000000000000000000000000 ≤ n) (h2 : n ≤ 10000000000000000000000000000000000000000) : Big n := Big.of 10000000000000000000000000000000000000000 (by decide) h1 h2
theorem sz1 : 1 ≤ sizeLine := by decide
theorem Pot.upd {M : Int} {H : Hp} {p l : Addr} {o : HO} (h : Pot M H p) (n : p ≠ l) : Pot M (upd H l o) p := by
  obtain ⟨p0, p1, e, r⟩ := h
  exact ⟨p0, p1, by rw [upd_ne n]; exact e, r⟩
theorem Pot.same {M : Int} {H H' : Hp} {p : Addr} (h : Pot M H p) (s : Same H H') : Pot M H' p := by
  obtain ⟨p0, p1, e, r⟩ := h
  exact ⟨p0, p1, s _ _ e, r⟩
theorem Pts.upd {H : Hp} {l : Addr} {us vs xs : List V} {ps : List Pt} (h : Pts H vs ps) (e : H l = some (.lst us)) : Pts (upd H l (.lst xs)) vs ps :=
  Paired.mapP h fun _ _ ⟨a, r, q⟩ => ⟨a, r, by rw [upd_ne (ne_of q e (by intro z; cases z))]; exact q⟩
section
variable {X : Cx} {K : PySem.W.Frag}
end
end L2
set_option Elab.async false
set_option linter.all false
set_option maxRecDepth 100000
set_option maxHeartbeats 4000000
namespace L2
open PySem PySem.Spec PyProof.Rows
section
variable {P : Program} {w : World} {H : Hp} {h : Heap} {a : Addr} {o : HO}
theorem ObjOk.has (x : ObjOk P w H h a o) : ∃ ob, h.get? a = some ob := by
  cases o with
  | lst xs => obtain ⟨_, _, _, _, e⟩ := x; exact ⟨_, e⟩
  | tup xs => obtain ⟨_, _, _, ob, e, _⟩ := x; exact ⟨_, e⟩
  | dK kvs => obtain ⟨_, _, _, _, ob, _, _, e, _⟩ := x; exact ⟨_, e⟩
  | dT kvs => obtain ⟨_, _, _, _, ob, _, _, e, _⟩ := x; exact ⟨_, e⟩
  | set S n => obtain ⟨ob, _, _, _, e, _⟩ := x; exact ⟨_, e⟩
  | ins C dx fs => obtain ⟨_, _, _, e, _⟩ := x; exact ⟨_, e⟩
  | own y => exact x
  | xd fs => obtain ⟨_, ⟨_, _, _, e, _⟩, _⟩ := x; exact ⟨_, e⟩
  | rng lo hi => obtain ⟨_, _, _, e⟩ := x; exact ⟨_, e⟩
  | frz ob u => obtain ⟨e, _⟩ := x; exact ⟨_, e⟩
  | tbl ps => exact ⟨_, (show h.get? a = some _ from x)⟩
  | met f y => exact ⟨_, (show h.get? a = some _ from x)⟩
  | ext φ => obtain ⟨_, e, _⟩ := x; exact e
end
def Cov (B : Heap) (H' : Hp) (h₀ h : Heap) (fs : List Addr) : Prop := ∀ b o, h.get? b = some o → b ∉ fs → ((∃ o₀, h₀.get? b = some o₀) ∨ ∃ u, H' b = some u) → B.get? b = some o
def XC (P : Program) (w : World) : CXT := fun outer H s E e s' => ∃ (ea : Addr) (cls a0 : Value) (H' : Hp) (B : Heap), e = .ref ea ∧ s'.os = s.os ∧ AllBare s'.gens ∧ Un (frs outer) [] H H' s.heap s'.heap ∧ HOk P w H' s'.heap ∧
  Heap.FlyingW B outer ea cls a0 s'.heap ∧ Cov B H' s.heap s'.heap (frs outer) ∧ H' ea = none ∧ E cls none H'
theorem noXC {P : Program} {w : World} : NoX (XC P w) := fun _ _ _ _ _ ⟨_, _, _, _, _, _, _, _, _, _, _, _, _, z⟩ => z
theorem exc_obj {K : PySem.W.Frag} {h : Heap} {C : Addr} {bmB : List Value} {newId : String} (KX : K.In h) (q : PySem.W.excIn K C bmB newId = true) :
    ∃ bm N nm qn bs hd sn sub ab col dd k0 k1 k2 k3 k5 mN, h.get? C = some (excClassObj nm qn C N bs bm hd sn sub ab col dd k0 k1 k2 k3 k5 newId) ∧ h.Ns N mN ∧ mN "__init__" = none ∧ OwnTail h bmB bm := by
  unfold PySem.W.excIn at q
  split at q
  · rename_i dd cd sl look
    split at q
    · rename_i C2 bm s0 s1 s2 s3 nid s5 emro esl
      simp only [Bool.and_eq_true, beq_iff_eq, Bool.not_eq_true'] at q
      obtain ⟨⟨⟨⟨⟨rfl, rfl⟩, nodel⟩, tl⟩, nsok⟩, noinit⟩ := q
      obtain ⟨nm, bs, mro, ns, qn, hd, sn, sub, ab, col, del⟩ := cd
      dsimp only at emro nodel nsok noinit
      subst emro nodel
      obtain rfl : sl = #[s0, s1, s2, s3, some (.builtin nid), s5] := by
        obtain ⟨l⟩ := sl
        simp only at esl
        rw [esl]
      exact ⟨bm, ns, nm, qn, bs, hd, sn, sub, ab, col, dd, s0, s1, s2, s3, s5, _, KX _ _ look, .of_isNs (PySem.W.isNs_of_in KX nsok), PySem.W.nsMap_none_of_in KX nsok noinit, PySem.W.tail_of_in KX tl⟩
    · cases q
  · cases q
theorem frames_hide {h base : Heap} {fs : List Addr} : ∀ {l : List Env}, h.FunFrames base l → (∀ b ∈ frs l, b ∈ fs) → h.FunFrames (PySem.W.hideAll h fs) l
  | [], _, _ => trivial
  | env :: r, ⟨hk, ⟨L, o, hf, hn, ho, hd⟩, hr⟩, hs => by
    have hm : L ∈ frs (env :: r) := List.mem_filterMap.mpr ⟨env, List.mem_cons_self, hf⟩
    refine ⟨hk, ⟨L, o, hf, PySem.W.hideAll_none _ (hs L hm), ho, hd⟩, frames_hide hr fun b hb => hs b ?_⟩
    obtain ⟨e, he, hfe⟩ := List.mem_filterMap.mp hb
    exact List.mem_filterMap.mpr ⟨e, List.mem_cons_of_mem _ he, hfe⟩
def tRaise (E : XK) (cls : Value) (t : TA) : TS := fun _ σ H => t σ H fun vs H2 => vs.length ≤ sizeLine ∧ E cls none H2
section
variable {P : Program} {w : World} {K : PySem.W.Frag} {mg : Str → Option Value} {base : Heap} {N : List Str} {qual : Str} {scope : Scope} {f C : Addr} {cd : Value} {A : Around} {outer : List Env} {s : Shared} {H : Hp} {E : XK}
  {x : Str} {B newId initId : String} {bmB : List Value} {e₀ : Expr} {rest : List Expr} {t : TA} {np cpos pos : Pos}
theorem ps_raise (q : PySem.W.excIn K C bmB newId = true) (FB : ExcBaseFacts B newId initId bmB) (hm : mg x = some (.ref C)) (hg : Gl (cxOf (XC P w) P w K mg base N qual scope f cd A outer s H E) x)
    (ha : PA (cxOf (XC P w) P w K mg base N qual scope f cd A outer s H E) (e₀ :: rest) t)
    (he : starEach (e₀ :: rest) (cxOf (XC P w) P w K mg base N qual scope f cd A outer s H E).env = (false, eval e₀ (cxOf (XC P w) P w K mg base N qual scope f cd A outer s H E).env) :: starEach rest (cxOf (XC P w) P w K mg base N qual scope f cd A outer s H E).env := by rfl)
    (hpl : (backTo cpos (starEach rest (cxOf (XC P w) P w K mg base N qual scope f cd A outer s H E).env)).any (·.1) = false := by rfl) (hdb : (x == ("__debug__" : Str)) = false := by decide) :
    PS (cxOf (XC P w) P w K mg base N qual scope f cd A outer s H E) (.Raise (some (.Call (.Name x np) (e₀ :: rest) [] cpos)) none pos) (tRaise E (.ref C) t) := by
  intro pins s1 σ H1 D I h
  generalize hX : cxOf (XC P w) P w K mg base N qual scope f cd A outer s H E = X at *
  have xK : X.K = K := by rw [← hX]; rfl
  have xmg : X.mg = mg := by rw [← hX]; rfl
  have xst : X.stack = X.env :: X.outer := by rw [← hX]; rfl
  have xfr : X.env.frame = some X.env.locals := by rw [← hX]; rfl
  have xex : X.ex = [] := by rw [← hX]; rfl
  obtain ⟨tl, Nn, nm, qn, bs, hdct, sn, sub, ab, col, dd, k0, k1, k2, k3, k5, mN, hC, hN, hni, T⟩ := exc_obj (K := K) (xK ▸ I.ok.mod.kin) q
  have hhd : X.A.handled = none := I.ok.hd (by rw [← hX]; rfl)
  refine wpAny_Raise_call_subT (C := C) (nm := nm) (q := qn) (N := Nn) (bs := bs) (bm := tl) (hdct := hdct) (sn := sn) (sub := sub) (ab := ab) (col := col) (dd := dd) (k0 := k0) (k1 := k1) (k2 := k2) (k3 := k3) (k5 := k5)
    FB (mN := mN) (T.hasType FB.hasBase) hhd (by rw [he]; show (false || (backTo cpos (starEach rest X.env)).any (·.1)) = false; rw [hpl]; rfl) hni (ld_glob I hg (xmg ▸ hm) ⟨rfl, ?_⟩ hdb)
  have hA := ha cpos pins s1 σ H1 _ I h
  rw [he] at hA ⊢
  refine Calls.evalArgs_plain (wpAny_mono hA (fun us s2 ⟨vs, H2, I2, r2, hz, hE⟩ => ⟨rfl, by rw [← r2.length]; exact hz, I2.bk _ _ hC, hN.keeps I2.bk, T.keeps I2.bk, fun h' e made => ?_⟩) fun _ _ y => y)
  -- the frame is left
  have fsub : ∀ b ∈ frs X.stack, b = X.env.locals ∨ b ∈ X.fs := fun b hb => List.mem_cons.mp (I2.stkSub b hb)
  have hfs : ∀ b ∈ X.fs, b ∈ frs X.stack := fun b hb => by
    rw [xst]
    obtain ⟨e, he, hfe⟩ := List.mem_filterMap.mp hb
    exact List.mem_filterMap.mpr ⟨e, List.mem_cons_of_mem _ he, hfe⟩
  have leave : wpAny (model X.prog X.w) X.A (leaving X.env (.ref e)) (fun _ s'' => XC X.prog X.w X.outer X.H₀ X.s₀ E (.ref e) s'') (fun e' s'' => XC X.prog X.w X.outer X.H₀ X.s₀ E e' s'') { s2 with heap := h' } := by
    refine wpAny_leaves_madeW (base := PySem.W.hideAll s2.heap (frs X.stack)) (h := s2.heap) (by rw [← xst]; exact I2.ok.frames) xfr (fun b o hb => PySem.W.of_hideAll _ hb) (by rw [← xst]; exact frames_hide I2.stack fun b hb => hb) made fun h'' t fl _ _ ups => ?_
    have kept : ∀ b o, s2.heap.get? b = some o → b ∉ frs X.stack → h''.get? b = some o := fun b o eb nb => fl.1 b o (PySem.W.hideAll_get _ eb nb)
    have bs : Un X.fs [] X.H₀ H2 X.s₀.heap s2.heap := by have := I2.base; rw [xex] at this; exact this
    have oldnf : ∀ b o, X.s₀.heap.get? b = some o → b ∉ X.fs → b ∉ frs X.stack := fun b o eb nb z => by
      rcases fsub b z with z | z
      · exact absurd (Nat.lt_of_lt_of_le (Heap.lt_size eb) I2.ok.above) (by rw [z]; exact Nat.lt_irrefl _)
      · exact nb z
    have trk : ∀ b u, H2 b = some u → b ∉ frs X.stack := fun b u eb z => by
      have := I2.stkFree b z
      rw [this] at eb; cases eb
    refine ⟨e, .ref C, .ref t, H2, _, rfl, I2.os, I2.bare, ⟨fun b o eb n nf _ => ?_, fun b o eb n nf _ => ?_, bs.free, fun b o eb _ => ?_, bs.tups, bs.frzs, bs.tbls⟩, fun b u eb => ?_, fl, fun b o eb nb cov => ?_, ?_, hE⟩
    · exact kept b o (bs.keep b o eb n nf (by simp)) (oldnf b o eb nf)
    · obtain ⟨sl, e1⟩ := bs.slot b o eb n nf (by simp)
      obtain ⟨_, o', ho', hd'⟩ := I2.stack.mem (hfs b nf)
      rw [e1] at ho'; cases ho'
      obtain ⟨sl2, e2⟩ := ups b _ (made.keeps b _ e1) hd'
      exact ⟨sl2, e2⟩
    · obtain ⟨o', e1⟩ := bs.there b o eb (by simp)
      by_cases nb : b ∈ frs X.stack
      · obtain ⟨_, o2, ho2, hd2⟩ := I2.stack.mem nb
        rw [e1] at ho2; cases ho2
        obtain ⟨sl2, e2⟩ := ups b _ (made.keeps b _ e1) hd2
        exact ⟨_, e2⟩
      · exact ⟨o', kept b o' e1 nb⟩
    · refine (I2.hok b u eb).stay (fun c v hc e1 => kept c v e1 ?_) (fun _ z => z) fun _ _ z => z
      rcases hc with rfl | hc
      · exact trk c u eb
      · exact trk c _ hc
    · have nfr : b ∉ frs X.stack := by
        rcases cov with ⟨o0, e0⟩ | ⟨u, eu⟩
        · exact oldnf b o0 e0 nb
        · exact trk b u eu
      have there : ∃ o2, s2.heap.get? b = some o2 := by
        rcases cov with ⟨o0, e0⟩ | ⟨u, eu⟩
        · exact bs.there b o0 e0 (by simp)
        · exact (I2.hok b u eu).has
      obtain ⟨o2, e2⟩ := there
      have := kept b o2 e2 nfr
      rw [eb] at this; cases this
      exact PySem.W.hideAll_get _ e2 nfr
    · cases z : H2 e with
      | none => rfl
      | some u =>
        obtain ⟨o2, e2⟩ := (I2.hok e u z).has
        have := made.new
        rw [e2] at this; cases this
  rw [← hX] at leave ⊢
  exact leave
end
end L2
set_option Elab.async false
set_option linter.all false
set_option maxRecDepth 100000
set_option maxHeartbeats 4000000
namespace L2
open PySem PySem.Spec PyProof.Rows
abbrev tryCx (X : Cx) (pn : List (Addr × Obj)) (xe : Value → Shared → Prop) : Cx := { X with pn := pn, xe := xe }
abbrev sufCx (X : Cx) (ea : Addr) : Cx := { X with A := X.A.mark (some (.ref ea)), calm := false, xe := fun _ _ => False }
theorem Cx.Ok.tryC {X : Cx} {pn : List (Addr × Obj)} {xe : Value → Shared → Prop} (o : X.Ok) : (tryCx X pn xe).Ok :=
  ⟨o.mod, o.kind, o.glob, o.blt, o.above, o.inj, o.has, o.cab, o.hd, o.frames, o.stk, o.exf, o.bs, o.bsz, o.noex, o.exfs, o.funs, o.frf⟩
theorem Cx.Ok.sufC {X : Cx} {ea : Addr} (o : X.Ok) : (sufCx X ea).Ok :=
  ⟨o.mod, o.kind, o.glob, o.blt, o.above, o.inj, o.has, o.cab, (fun z => nomatch z), o.frames, o.stk, o.exf, o.bs, o.bsz, o.noex, o.exfs, o.funs, o.frf⟩
section
variable {X : Cx} {pins : List (Addr × Obj)} {σ : St} {H H' : Hp} {s : Shared}
theorem Inv.tryC {xe : Value → Shared → Prop} (I : Inv X pins σ H s) : Inv (tryCx X (X.pn ++ pins) xe) [] σ H s :=
  ⟨I.ok.tryC, I.os, I.bare, I.base, I.loc, I.cell, I.free, I.freeC, fun p hp => I.pin p (by simpa using hp), I.hok, I.len⟩
theorem Cx.Ok.untry {pn : List (Addr × Obj)} {xe : Value → Shared → Prop} (o : (tryCx X pn xe).Ok) : X.Ok :=
  ⟨o.mod, o.kind, o.glob, o.blt, o.above, o.inj, o.has, o.cab, o.hd, o.frames, o.stk, o.exf, o.bs, o.bsz, o.noex, o.exfs, o.funs, o.frf⟩
theorem Inv.untry {pl : List (Addr × Obj)} {xe : Value → Shared → Prop} (I : Inv (tryCx X (X.pn ++ pins) xe) pl σ H s) : Inv X pins σ H s :=
  ⟨I.ok.untry, I.os, I.bare, I.base, I.loc, I.cell, I.free, I.freeC, fun p hp => I.pin p (List.mem_append_left _ hp), I.hok, I.len⟩
theorem Inv.sufC {ea : Addr} (I : Inv X pins σ H s) : Inv (sufCx X ea) pins σ H s :=
  ⟨I.ok.sufC, I.os, I.bare, I.base, I.loc, I.cell, I.free, I.freeC, I.pin, I.hok, I.len⟩
theorem Inv.unsuf {ea : Addr} (o : X.Ok) (I : Inv (sufCx X ea) pins σ H s) : Inv X pins σ H s :=
  ⟨o, I.os, I.bare, I.base, I.loc, I.cell, I.free, I.freeC, I.pin, I.hok, I.len⟩
theorem Inv.goes {i : Nat} {n : Str} {h' : Heap} {m : Str → Option Value} {v : Option Value} (I : Inv X pins σ H s) (hN : X.N.Nodup) (hi : X.N[i]? = some n) (hn : s.heap.Ns X.env.locals m)
    (hl : ∀ (j : Nat) (x : Str) (v : V), X.N[j]? = some x → σ[j]? = some (some v) → Vis X.env.scope x → ∃ u, RelV v u ∧ Look X.env s.heap m x u)
    (hn' : h'.Ns X.env.locals (fun x => if x = n then v else m x)) (hs : Heap.SameBut X.env.locals s.heap h') (tk : Nat) : Inv X pins (σ.set i none) H { s with heap := h', toks := tk } := by
  have keepb : ∀ b o, b ≠ X.env.locals → s.heap.get? b = some o → h'.get? b = some o := fun b o hb e => (hs.2 b hb).trans e
  have neL : ∀ b o, X.s₀.heap.get? b = some o → b ≠ X.env.locals := fun b o e => Nat.ne_of_lt (Nat.lt_of_lt_of_le (Heap.lt_size e) I.ok.above)
  refine ⟨I.ok, I.os, I.bare, ⟨fun b o e n hb hx => keepb b o (neL b o e) (I.base.keep b o e n hb hx), fun b o e n hb hx => ?_, I.base.free, fun b o e hx => ?_, I.base.tups, I.base.frzs, I.base.tbls⟩, ⟨_, hn', fun j y u e1 e2 e3 => ?_⟩, fun y c e => ?_, I.free, I.freeC, fun p hp => ?_, fun b u e => ?_, by simpa using I.len⟩
  · obtain ⟨sl, e1⟩ := I.base.slot b o e n hb hx
    exact ⟨sl, keepb b _ (neL b o e) e1⟩
  · obtain ⟨o', e1⟩ := I.base.there b o e hx
    exact ⟨o', keepb b _ (neL b o e) e1⟩
  · have hji : j ≠ i := by
      rintro rfl
      rw [List.getElem?_set] at e2
      simp only [if_true] at e2
      split at e2 <;> cases e2
    rw [List.getElem?_set_ne (Ne.symm hji)] at e2
    obtain ⟨u', r, q⟩ := hl j y u e1 e2 e3
    refine ⟨u', r, ?_⟩
    rcases q with ⟨k, e⟩ | ⟨k, c, e, z⟩
    · refine .inl ⟨k, ?_⟩
      have hy : y ≠ n := fun z => hji (nodup_ix hN e1 (z ▸ hi))
      simp [hy, e]
    · exact .inr ⟨k, c, e, z.sameBut hs (I.cne y c e)⟩
  · obtain ⟨v', z⟩ := I.cell y c e
    exact ⟨v', z.sameBut hs (I.cne y c e)⟩
  · obtain ⟨e, n, ne, nf, d⟩ := I.pin p hp
    exact ⟨keepb _ _ ne e, n, ne, nf, d⟩
  · refine (I.hok b u e).stay (fun c v hc q => keepb c v ?_ q) (fun _ q => q) fun _ _ q => q
    rintro rfl
    rcases hc with z | z
    · rw [← z, I.free] at e; cases e
    · rw [I.free] at z; cases z
end
def excO (ea : Addr) (cls : Value) : HO := .ext fun h => ∃ oe, h.get? ea = some oe ∧ oe.cls = cls
abbrev blank (n : Nat) : St := List.replicate n none
def tTry (K : PySem.W.Frag) (c0 : Value) (n i : Nat) (tb : XK → TS) (ts : TS) : TS := fun D σ H => tb (fun cls _ H' => PySem.W.exmOne K cls c0 = some true ∧
  ∀ ea, H' ea = none → ts { nx := fun σ' H2 => D.nx (σ'.set i none) H2, rt := D.rt, bk := fun σ' H2 => D.bk (σ'.set i none) H2, ct := fun σ' H2 => D.ct (σ'.set i none) H2 } ((blank n).set i (some (.ref ea))) (upd H' ea (excO ea cls))) D σ H
section
variable {X : Cx}
theorem exc_back {pins : List (Addr × Obj)} {σ1 : St} {H1 H' : Hp} {s1 s' : Shared} {B h6 : Heap} {ea : Addr} {cls a0 : Value} (I1 : Inv X pins σ1 H1 s1) (os : s'.os = s1.os) (bare : AllBare s'.gens)
    (un : Un (frs X.stack) [] H1 H' s1.heap s'.heap) (hok : HOk X.prog X.w H' s'.heap) (cov : Cov B H' s1.heap s'.heap (frs X.stack)) (hn : H' ea = none)
    (fl : Heap.FlyingW B X.stack ea cls a0 h6) (fl0 : Heap.FlyingW B X.stack ea cls a0 s'.heap) (ups : s'.heap.UpToSlots h6) :
    Inv X pins σ1 H' { s' with heap := h6 } ∧ Inv X pins σ1 (upd H' ea (excO ea cls)) { s' with heap := h6 } := by
  have notold : ∀ o, s1.heap.get? ea ≠ some o := fun o e => by
    obtain ⟨_, nB, _, oe, vs, _, _, _, he, _, hd, _⟩ := id fl0
    have nf : ea ∉ frs X.stack := fun z => by
      obtain ⟨_, o2, ho2, hd2⟩ := fl0.2.2.1.mem z
      rw [he] at ho2; cases ho2
      exact hd2 _ hd
    have := cov ea oe he nf (.inl ⟨o, e⟩)
    rw [nB] at this; cases this
  have keepc : ∀ b o, s'.heap.get? b = some o → b ∉ frs X.stack → ((∃ o₀, s1.heap.get? b = some o₀) ∨ ∃ u, H' b = some u) → h6.get? b = some o := fun b o e nb c => fl.1 b o (cov b o e nb c)
  have trk : ∀ b u, H' b = some u → b ∉ frs X.stack := fun b u eb z => by
    obtain ⟨_, o0, ho0, _⟩ := I1.stack.mem z
    have := un.free b o0 ho0 (I1.stkFree b z) (by simp)
    rw [this] at eb; cases eb
  have un6 : ∀ H2 : Hp, (∀ b, b ≠ ea → H2 b = H' b) → Un (frs X.stack) [] H1 H2 s1.heap h6 := fun H2 hH => by
    refine ⟨fun b o e n nf hx => keepc b o (un.keep b o e n nf hx) nf (.inl ⟨o, e⟩), fun b o e n nf hx => ?_, fun b o e n hx => ?_, fun b o e hx => ?_, fun b xs e => ?_, fun b o u e => ?_, fun b ps e => ?_⟩
    · obtain ⟨sl, e1⟩ := un.slot b o e n nf hx
      obtain ⟨_, o2, ho2, hd2⟩ := I1.stack.mem nf
      rw [e] at ho2; cases ho2
      obtain ⟨sl2, e2⟩ := ups b _ e1 hd2
      exact ⟨sl2, e2⟩
    · have hb : b ≠ ea := by rintro rfl; exact notold _ e
      rw [hH b hb]; exact un.free b o e n hx
    · obtain ⟨o', e1⟩ := un.there b o e hx
      by_cases nb : b ∈ frs X.stack
      · obtain ⟨_, o2, ho2, hd2⟩ := I1.stack.mem nb
        rw [e] at ho2; cases ho2
        obtain ⟨sl, e3⟩ := un.slot b o e (I1.stkFree b nb) nb hx
        obtain ⟨sl2, e2⟩ := ups b _ e3 hd2
        exact ⟨_, e2⟩
      · exact ⟨o', keepc b o' e1 nb (.inl ⟨o, e⟩)⟩
    · have := un.tups b xs e
      rw [hH b (ne_of_none this hn)]; exact this
    · have := un.frzs b o u e
      rw [hH b (ne_of_none this hn)]; exact this
    · obtain ⟨more, this⟩ := un.tbls b ps e
      exact ⟨more, by rw [hH b (ne_of_none this hn)]; exact this⟩
  have hok6 : HOk X.prog X.w H' h6 := fun b u e => (hok b u e).stay (fun c v hc q => by
    rcases hc with rfl | hc
    · exact keepc c v q (trk c u e) (.inr ⟨u, e⟩)
    · exact keepc c v q (trk c _ hc) (.inr ⟨_, hc⟩)) (fun _ q => q) fun _ _ q => q
  refine ⟨I1.call' (s' := { s' with heap := h6 }) (ch := []) os (un6 H' fun _ _ => rfl) hok6 bare (fun b z => nomatch z), ?_⟩
  refine I1.call' (s' := { s' with heap := h6 }) (ch := []) os (un6 _ fun b hb => upd_ne hb) (fun b u e => ?_) bare (fun b z => nomatch z)
  by_cases hb : b = ea
  · subst hb
    rw [upd_same] at e
    cases e
    obtain ⟨oe, vs, he, hc, hd, _⟩ := fl.first
    exact ⟨⟨oe, he, hc⟩, ⟨oe, he⟩, fun h1 h2 ⟨o, e1, e2⟩ k => ⟨o, k o e1, e2⟩⟩
  · rw [upd_ne hb] at e
    exact (hok6 b u e).stay (fun _ _ _ q => q) (fun c q => by rw [upd_ne (ne_of_none q hn)]; exact q) fun c xs q => by rw [upd_ne (ne_of_none q hn)]; exact q
theorem ps_try {body : List Stmt} {b₀ : Stmt} {suite : List Stmt} {cx n : Str} {np hpos pos : Pos} {c0 : Value} {i k : Nat} {tb : XK → TS} {ts : TS}
    (hst : X.stack = X.env :: X.outer) (hfr : X.env.frame = some X.env.locals) (hN : X.N.Nodup) (hi : X.N[i]? = some n) (hl : X.env.scope.names.lookup n = some .local) (hk : X.N.length = k)
    (hg : Gl X cx) (hm : X.mg cx = some c0)
    (hb : ∀ (E : XK) (pn : List (Addr × Obj)) (xe : Value → Shared → Prop), Passes (XC X.prog X.w) (tryCx X pn xe) E → PSs (tryCx X pn xe) body (tb E))
    (hs : ∀ ea, PSs (sufCx X ea) (b₀ :: suite) ts) (hdb : (cx == ("__debug__" : Str)) = false := by decide) :
    PS X (.Try body [.ExceptHandler (some (.Name cx np)) (some n) (b₀ :: suite) hpos] [] [] pos) (tTry X.K c0 k i tb ts) := by
  intro pins s σ H D I h
  refine wpAny_Try_except (wpAny_mono (hb _ (X.pn ++ pins) (fun e s' => ∃ σ1 H1 s1, Inv X pins σ1 H1 s1 ∧ XC X.prog X.w X.stack H1 s1 _ e s') (fun pl σ1 H1 s1 e s' J q => ⟨σ1, H1, s1, J.untry, q⟩) [] s σ H D I.tryC h) (fun f s1 q => ?_) (fun e s' q => ?_))
  · cases f with
    | next => obtain ⟨σ1, H1, J, q⟩ := q; exact wpAny_execs_nil ⟨σ1, H1, J.untry, q⟩
    | brk => obtain ⟨σ1, H1, J, q⟩ := q; exact ⟨σ1, H1, J.untry, q⟩
    | cont => obtain ⟨σ1, H1, J, q⟩ := q; exact ⟨σ1, H1, J.untry, q⟩
    | ret u => obtain ⟨v, σ1, H1, J, r, q⟩ := q; exact ⟨v, σ1, H1, J.untry, r, q⟩
  · obtain ⟨σ1, H1, s1, I1, ea, cls, a0, H', B, rfl, os, bare, un, hok, fl, cov, hn, hex, hE⟩ := q
    have fl' := fl
    rw [hst] at fl'
    refine wpAny_looks_onW (by rw [← hst]; exact I1.ok.frames) hfr fl' fun h4 held sm4 => wpAny_landsW held fun h5 fl5 sm5 => ?_
    have fl5' : Heap.FlyingW B X.stack ea cls a0 h5 := by rw [hst]; exact fl5
    have J5 := (exc_back I1 os bare un hok cov hn fl5' fl (sm4.trans sm5)).1
    obtain ⟨oe, heo, hcls⟩ := fl5.there
    have LT : PySem.W.Looks (model X.prog X.w) h5 (typeOf (.ref ea)) cls := hcls ▸ (PySem.W.Looks.ld heo).andThen .now
    refine wpAny_handleBy_cons (codeAny_handlers_test (ld_glob (X := sufCx X ea) J5.sufC hg hm ?_ hdb)) (by intro z; cases z)
    refine (PySem.W.exm_one (K := X.K) J5.kIn LT hex).here ?_
    refine codeAny_handlers_suite_as ?_
    refine lands_againW fl5 fun h6 fl6 sm6 => ?_
    have fl6' : Heap.FlyingW B X.stack ea cls a0 h6 := by rw [hst]; exact fl6
    have J6 := (exc_back I1 os bare un hok cov hn fl6' fl ((sm4.trans sm5).trans sm6)).2
    have J6b := J6.weak (σ' := blank k) (by rw [J6.len, hk]; simp [blank]) (fun j v e => by
      simp only [blank, List.getElem?_replicate] at e
      split at e <;> cases e)
    refine store_ok (X := sufCx X ea) J6b.sufC hN hi (.inl hl) (v := .ref ea) rfl (fun s7 J7 => ?_) (.inr hl)
    refine wpAny_mono (hs ea pins s7 _ _ _ J7 (hE ea hn)) (fun f s8 q => ?_) (fun _ _ z => z.elim)
    have fin : ∀ {σ8 : St} {H8 : Hp}, Inv (sufCx X ea) pins σ8 H8 s8 → (∀ s9, Inv X pins (σ8.set i none) H8 s9 → SP X pins D f s9) →
        wpAny (model X.prog X.w) X.A (do bindName X.env n .none; unbindBehindTheSuite X.env n hpos) (fun _ s9 => SP X pins D f s9) X.xe s8 := fun {σ8 H8} J8 kk => by
      have J8' := J8.unsuf I1.ok
      obtain ⟨m, hns, hloc⟩ := id J8'.loc
      refine wpAny_nameGoes_keeps hl hns (by rw [I1.ok.kind]; rfl) fun h9 v hn9 hs9 => kk _ ?_
      exact J8'.goes hN hi hns hloc hn9 hs9 _
    cases f with
    | next => obtain ⟨σ8, H8, J8, q⟩ := q; exact fin J8 fun s9 J9 => ⟨_, _, J9, q⟩
    | brk => obtain ⟨σ8, H8, J8, q⟩ := q; exact fin J8 fun s9 J9 => ⟨_, _, J9, q⟩
    | cont => obtain ⟨σ8, H8, J8, q⟩ := q; exact fin J8 fun s9 J9 => ⟨_, _, J9, q⟩
    | ret u => obtain ⟨v, σ8, H8, J8, r, q⟩ := q; exact fin J8 fun s9 J9 => ⟨v, _, _, J9, r, q⟩
theorem pe_ownX {CX : CXT} {k : Nat} {x : Str} {ps : List Str} {sp : Sp} {e : Expr} {es : List Expr} {t : TA} {p pos : Pos} {E : XK} (O : Own X.prog X.w X.K X.mg X.base CX k x ps sp) (hx : Passes CX X E) (hr : Room k X.A) (hg : Gl X x) (ha : PA X (e :: es) t) (hdb : (x == ("__debug__" : Str)) = false := by decide)
    (he : starEach (e :: es) X.env = (false, eval e X.env) :: starEach es X.env := by rfl) (hpl : (backTo pos (starEach es X.env)).any (·.1) = false := by rfl) : PE X (.Call (.Name x p) (e :: es) [] pos) (tCall sp [] E t) := by
  obtain ⟨f, fd, F, hm, hk, hb⟩ := O
  exact pe_call F hr hg hm hk hb .nil hx ha hdb he hpl
end
end L2
set_option Elab.async false
set_option linter.all false
set_option maxRecDepth 100000
set_option maxHeartbeats 4000000
namespace L2
open PySem PySem.Spec PyProof.Rows PySem.W Builtin Builtin.ObjectAttr Builtin.Getset_descriptor
section
variable {prog : Program} {w : World} {A : Around} {E : Value → Shared → Prop} {K : Frag} {x C : Addr}
structure ExcCls (K : Frag) (C : Addr) : Prop where
  ga : findIn K (.ref C) "__getattribute__" = some (some (.builtin "BaseException.__getattribute__"))
  gb : findIn K (.ref C) "__getattr__" = some none
  cl : findIn K (.ref C) "__class__" = some (some (.builtin "object.__class__"))
  gt : specialIn K (.builtin "object.__class__") "__get__" = some (some (.builtin "getset_descriptor.__get__"))
  tk : takesIn K (.builtin "object.__class__") = some true
  ob : mroIn K C (.type "object") = some true
  be : mroIn K C (.type "BaseException") = some true
  ct : (clsIn K C).isSome = true
theorem exc_find {h : Heap} {M : Model} (KX : K.In h) (T : ExcCls K C) : Looks M h (find (.ref x) (.ref C) "__class__") (.bind (.builtin "getset_descriptor.__get__") (.builtin "object.__class__")) := by
  have f1 := looks_findIn (M := M) KX T.cl
  have f2 : Looks M h (getOf (some (.builtin "object.__class__"))) (some (.builtin "getset_descriptor.__get__")) := looks_specialIn KX T.gt
  have f3 := looks_takesIn (M := M) KX T.tk
  exact f1.andThen (f2.andThen ((show Looks M h (dataDescriptor? (some (.builtin "object.__class__")) (some (.builtin "getset_descriptor.__get__"))) (some (.builtin "getset_descriptor.__get__", .builtin "object.__class__")) from f3.andThen .now).andThen (Looks.tag .now)))
theorem exc_classget {s : Shared} {R : Result → Shared → Prop} {tp : Value} (KX : K.In s.heap) (T : ExcCls K C) (LT : Looks (model prog w) s.heap (typeOf (.ref x)) (.ref C)) (q : R (.ok (.ret (.ref C))) s) :
    codeAny (model prog w) A (.call (.builtin "getset_descriptor.__get__") ⟨[.builtin "object.__class__", .ref x, tp], []⟩) R s := by
  obtain ⟨hh, gg, dr, tt, oo⟩ := s
  have L1 := looks_mroIn (M := model prog w) KX T.ob
  refine codeAny_call_builtin KF.slot_gs.plain KF.entry_gs (KF.slot_gs.check _ _ _ _ _ _ _ _ KF.type_class (KF.args_gs _ _ _) ?_)
  unfold Builtin.«getset_descriptor.__get__» descrGet; rw [dga_obj]
  refine wpAny_bind (wpAny_pure ?_); unfold descrGetter descrCheckInstance descrNameAndClass isInstance
  simp only [KF.owner_class]; repeat lk
  refine ⟨Code.quiet_builtin _ (by decide +kernel), codeAny_builtin KF.entry_class ?_⟩; unfold Builtin.«object.__class__» shownTypeOf
  repeat lk
  exact q
theorem exc_class {s : Shared} {Q : Option Value → Shared → Prop} (KX : K.In s.heap) (T : ExcCls K C) (LT : Looks (model prog w) s.heap (typeOf (.ref x)) (.ref C)) (q : Q (some (.ref C)) { s with toks := s.toks + 1 }) :
    wpAny (model prog w) A (getAttr? (.ref x) "__class__") Q E s := by
  obtain ⟨hh, gg, dr, tt, oo⟩ := s
  have L1 := looks_findIn (M := model prog w) KX T.ga
  have L2 := looks_findIn (M := model prog w) KX T.gb
  have L3 := exc_find (M := model prog w) (x := x) KX T
  have L4 := looks_mroIn (M := model prog w) KX T.be
  have hk : builtinKind "BaseException.__getattribute__" = some .slot := by decide +kernel
  have hsp : splitId "BaseException.__getattribute__" = some ("BaseException", "__getattribute__") := by decide +kernel
  unfold getAttr? getAttrBy? getAttrBy
  refine wpAny_bind (wpAny_mkText (wpAny_bind (wpAny_attempt (wpAny_holding (wpAny_bind (LT.at (wpAny_bind (L1.at ?_))))))))
  show wpAny _ _ (getAttrByItsOwn (.ref x) _ (.ref C) (.builtin "BaseException.__getattribute__") false false) _ _ _
  unfold getAttrByItsOwn hookBefore
  rw [if_pos (show onTheHeap (Value.ref C) = true from rfl)]
  refine wpAny_bind (L2.at ?_)
  refine wpAny_bind (wpAny_attempt (wpAny_holding ?_))
  unfold callGetattribute
  rw [if_neg (by simp)]
  unfold boundAndCalled
  refine wpAny_bind (wpAny_of_eq (F.excAttr_ValueError.ga.bind (.ref x)) ?_)
  refine wpAny_call (codeAny_call_builtin F.excAttr_ValueError.ga.plain F.entry_bexc_ga ?_)
  have ha := F.args_bexc_ga (.ref x) (.str "__class__" tt)
  show wpAny _ _ (checkBuiltinCall "BaseException.__getattribute__" ⟨[.ref x, .str "__class__" tt], []⟩) _ _ _
  simp only [checkBuiltinCall, hk, hsp]
  refine wpAny_bind ?_
  unfold isInstance
  refine wpAny_bind (LT.at (L4.at ?_))
  repeat (any_goals (first | assumption | with_reducible refine Looks.at (by assumption) ?_ | wp_step))
  refine exc_classget (s := ⟨hh, gg, dr, tt + 1, oo⟩) KX T LT ?_
  refine wpAny_pure ?_
  repeat (any_goals (first | assumption | wp_step))
end
section
variable {K : Frag} {x C : Addr}
theorem kitx_exc (T : ExcCls K C) : KitX K (.ref x) (.ref C) (fun h => ∃ oe, h.get? x = some oe ∧ oe.cls = .ref C) where
  ty := fun M h _ ⟨oe, e, c⟩ => c ▸ (Looks.ld e).andThen .now
  it := fun M h KX _ => by
    obtain ⟨cd, e⟩ := Option.isSome_iff_exists.mp T.ct
    unfold clsIn at e
    split at e
    · rename_i look
      intro A' Q' E' s' k q
      unfold isType loadHead; exact wpAny_bind (wpAny_loadPart (k _ _ (KX _ _ look)) (wpAny_pure q))
    · cases e
  ne := fun h tp dd its n sl KX htp => by
    obtain ⟨cd, e⟩ := Option.isSome_iff_exists.mp T.ct
    refine Bool.eq_false_iff.mpr fun z => ?_
    have ee : C = tp := Value.ref.inj (beq_iff_eq.mp z)
    subst ee
    unfold clsIn at e
    split at e
    · rename_i look
      have z2 := (KX _ _ look).symm.trans htp
      cases z2
    · cases e
  ca := fun KX ⟨oe, e, c⟩ q => exc_class KX T (c ▸ (Looks.ld e).andThen .now) q
end
def clsV : V → Value → Prop
  | .ref D, u => u = .ref D
  | .ty n, u => u = .type n
  | _, _ => False
theorem clsV.rel {v : V} {u u' : Value} (h : clsV v u) (r : RelV v u') : u' = u := by
  cases v <;> first | exact h.elim | (cases h; cases r; rfl)
def rIsx (K : Frag) : List V → Hp → VK → Prop := fun xs H Q => ∃ (ea C : Addr) (c : V) (b : Bool), xs = [.ref ea, c] ∧ H ea = some (excO ea (.ref C)) ∧ ExcCls K C ∧
  ((∃ u, clsV c u ∧ kitOne K (.ref C) u = some b) ∨ ∃ (tp : Addr) (vs : List V) (us : List Value), c = .ref tp ∧ H tp = some (.tup vs) ∧ Paired clsV vs us ∧ kitAny K (.ref C) us = some b) ∧ Q (.bl b) H
theorem paired_cls : ∀ {vs : List V} {us us' : List Value}, Paired clsV vs us → Vals vs us' → us' = us
  | _, _, _, .nil, .nil => rfl
  | _, _, _, .cons a b, .cons c d => by rw [clsV.rel a c, paired_cls b d]
theorem call_isx {X : Cx} {K : Frag} (hK : X.K = K) : CallR X (.builtin "isinstance") (rIsx K) := by
  subst hK
  intro pins s σ H xs us Q I r h
  obtain ⟨ea, C, c, b, rfl, he, T, hc, q⟩ := h
  obtain ⟨u, u', rfl, rx, ry⟩ := vals2 r
  cases rx
  have ph : ∃ oe, s.heap.get? ea = some oe ∧ oe.cls = .ref C := (show ObjOk X.prog X.w H s.heap ea (excO ea (.ref C)) from I.hok ea _ he).1
  rcases hc with ⟨v, hv, e⟩ | ⟨tp, vs, ws, rfl, htp, hp, e⟩
  · rw [hv.rel ry]
    exact kia_one (kitx_exc T) I.kIn ph e (fun z => nomatch z) fun tk => ⟨.bl b, H, I.tok _, rfl, q⟩
  · cases ry
    obtain ⟨_, its, rv, o, ho, hcls, n, hd⟩ := (show ObjOk X.prog X.w H s.heap tp (.tup vs) from I.hok tp _ htp)
    have ei := paired_cls hp rv
    subst ei
    obtain ⟨oc, od, dt, sl⟩ := o
    dsimp only at hcls hd
    subst hcls hd
    exact kia_tup (kitx_exc T) I.kIn ph ho e (fun z => nomatch z) fun tk => ⟨.bl b, H, I.tok _, rfl, q⟩
end L2
set_option Elab.async false
set_option linter.all false
set_option maxRecDepth 100000
set_option maxHeartbeats 4000000
namespace L2
open PySem PySem.Spec PyProof.Rows
abbrev bmV : List Value := [.type "ValueError", .type "Exception", .type "BaseException", .type "object"]
section
variable {X : Cx} {pins : List (Addr × Obj)} {σ : St} {H : Hp} {s : Shared}
end
section
variable {X : Cx} {K : PySem.W.Frag} {C : Addr} {x : Str} {e : Expr} {es : List Expr} {t : TA} {p pos : Pos}
end
structure RoomU (k : Nat) (A : Around) : Prop where
  dp : A.depth + 3 * k + 5 < recursionLimit
  un : A.units + 16 * k + 200 < cLine
theorem Room.toU {k : Nat} {A : Around} (r : Room k A) : RoomU k A := ⟨r.dp, r.un⟩
theorem RoomU.mono {j k : Nat} {A : Around} (r : RoomU k A) (h : j ≤ k) : RoomU j A := ⟨by have := r.dp; omega, by have := r.un; omega⟩
theorem RoomU.units {k : Nat} {A : Around} (r : RoomU k A) : A.units + 64 < cLine := by have := r.un; omega
structure FnU (P : Program) (w : World) (K : PySem.W.Frag) (mg : Str → Option Value) (base : Heap) (CX : CXT) (k : Nat) (f : Addr) (fd : FuncData) (ps : List Str) (sp : Sp) : Prop where
  len : ∀ vs H Q E, sp vs H Q E → vs.length = ps.length
  run : ∀ (A : Around) (outer : List Env) (s : Shared) (H : Hp) (args : Args) (us : List Value) (vs : List V) (Q : VK) (E : XK), RoomU k A → Env0 P w K mg base A outer s H → BindsTo s fd args (ps.zip us) → Vals vs us → sp vs H Q E →
    codeAny (model P w) A (.call (.ref f) args) (CR CX outer P w H s Q E) s
theorem FnU.ok {P : Program} {w : World} {K : PySem.W.Frag} {mg : Str → Option Value} {base : Heap} {CX : CXT} {k : Nat} {f : Addr} {fd : FuncData} {ps : List Str} {sp : Sp} (F : FnU P w K mg base CX k f fd ps sp) : FnOk P w K mg base CX k f fd ps sp :=
  ⟨F.len, fun A outer s H args us vs Q E hr => F.run A outer s H args us vs Q E hr.toU⟩
abbrev cxU (CX : CXT) (P : Program) (w : World) (K : PySem.W.Frag) (mg : Str → Option Value) (base : Heap) (N : List Str) (qual : Str) (scope : Scope) (f : Addr) (cd : Value) (A : Around) (outer : List Env) (s : Shared) (H : Hp) (E : XK) : Cx :=
  { cxOf CX P w K mg base N qual scope f cd A outer s H E with calm := false, xe := fun _ _ => False }
section
variable {P : Program} {w : World} {K : PySem.W.Frag} {mg : Str → Option Value} {base : Heap} {CX : CXT}
theorem Fun.okU {x qual : Str} {st : Stmt} {f : Addr} {fd : FuncData} {N ps : List Str} {k : Nat} {sp : Sp} (F : Fun K x qual st f fd) (S : FnScope N ps (defScope st)) (len : ∀ vs H Q E, sp vs H Q E → vs.length = ps.length)
    (hbody : ∀ (cdv : Value) (A : Around) (outer : List Env) (s : Shared) (H : Hp) (vs : List V) (Q : VK) (E : XK), RoomU k (A.deeper (envOfC qual (defScope st) s.heap.objs.size f cdv)) → sp vs H Q E →
      ∃ t, PSs (cxU CX P w K mg base N qual (defScope st) f cdv A outer s H E) (defBody st) t ∧ t { nx := fun _ H' => Q .non H', rt := Q } (start N vs) H) : FnU P w K mg base CX (k + 1) f fd ps sp := by
  obtain ⟨oc, od, kV, doc, pm, an, cdv, ct, osl, rfl, lk, hcd⟩ := F.ex
  refine ⟨len, fun A outer s H args us vs Q E hr e0 hb r hsp => ?_⟩
  have hl := len _ _ _ _ hsp
  have KX : K.In s.heap := e0.mod.kin.keeps fun b o e => (e0.bs b o e).1
  have lim : s.heap.NoLimit := e0.mod.nolimit.keeps fun b o e => (e0.bs b o e).1
  have hkind : ∀ y ∈ ps.zip us, (defScope st).names.lookup y.1 = some .local ∨ ((defScope st).names.lookup y.1 = some .cell ∧ ((cellsFrom (s.heap.objs.size + 1) (defScope st).names []).lookup y.1).isSome = true) := fun ⟨n, v⟩ hy => by
    rcases S.par n (List.of_mem_zip hy).1 with q | q
    · exact .inl q
    · exact .inr ⟨q, PySem.W.cellsFrom_some _ _ _ (.inl q)⟩
  refine codeAny_call_function (by have := hr.dp; omega) (KX _ _ lk) rfl S.co S.gen rfl (PySem.W.codeRec_of KX hcd) (hb _ _ _ _ ?_)
  refine wpAny_newFunctionEnv_cells S.kind hkind fun env he s1 x => ?_
  subst he
  refine ⟨lim.keeps x.toInCall.keep, codeAny_func ?_⟩
  have hr' : RoomU k (A.deeper (envOfC qual (defScope st) s.heap.objs.size f cdv)) := ⟨by have := hr.dp; show A.depth + 1 + 3 * k + 5 < _; omega, by have := hr.un; show A.units + 3 + 16 * k + 200 < _; omega⟩
  obtain ⟨t, ht, hq⟩ := hbody cdv A outer s H vs Q E hr' hsp
  have I0 : Inv (cxOf CX P w K mg base N qual (defScope st) f cdv { A with handled := none } outer s H E) [] (start N vs) H s1 := inv_start S rfl ⟨e0.frames, e0.mod, e0.bs, e0.bsz, e0.funs, e0.frf, e0.hok, e0.bare⟩ hl r x
  have o := I0.ok
  have fr : (A.deeper (envOfC qual (defScope st) s.heap.objs.size f cdv)).frames = some (envOfC qual (defScope st) s.heap.objs.size f cdv :: outer) := Around.frames_deeper e0.frames
  have I : Inv (cxU CX P w K mg base N qual (defScope st) f cdv A outer s H E) [] (start N vs) H s1 :=
    ⟨⟨o.mod, o.kind, o.glob, o.blt, o.above, o.inj, o.has, o.cab, (fun z => nomatch z), fr, o.stk, o.exf, o.bs, o.bsz, o.noex, o.exfs, o.funs, o.frf⟩, I0.os, I0.bare, I0.base, I0.loc, I0.cell, I0.free, I0.freeC, I0.pin, I0.hok, I0.len⟩
  refine wpAny_mono (ht [] s1 (start N vs) H _ I hq) (fun fl s' hs => ?_) fun e s' hs => hs.elim
  have fin : ∀ {σ' : St} {H' : Hp} {v : V} {u : Value}, Inv (cxU CX P w K mg base N qual (defScope st) f cdv A outer s H E) [] σ' H' s' → RelV v u → Q v H' → CE outer P w H s Q u s' :=
    fun {σ' H' v u} J rv q => ⟨v, H', J.os, J.bare, J.base, J.hok, rv, q⟩
  cases fl with
  | ret u => obtain ⟨v, σ', H', J, rv, q⟩ := hs; exact fin J rv q
  | next => obtain ⟨σ', H', J, q⟩ := hs; exact fin (v := V.non) (u := Value.none) J rfl q
  | brk => obtain ⟨_, _, _, q⟩ := hs; exact False.elim q
  | cont => obtain ⟨_, _, _, q⟩ := hs; exact False.elim q
end
def OwnU (P : Program) (w : World) (K : PySem.W.Frag) (mg : Str → Option Value) (base : Heap) (CX : CXT) (k : Nat) (x : Str) (ps : List Str) (sp : Sp) : Prop :=
  ∃ (f : Addr) (fd : FuncData), FnU P w K mg base CX k f fd ps sp ∧ mg x = some (.ref f) ∧ PySem.W.keepIn K (.ref f) = true ∧ Binds K fd ps []
theorem OwnU.own {P : Program} {w : World} {K : PySem.W.Frag} {mg : Str → Option Value} {base : Heap} {CX : CXT} {k : Nat} {x : Str} {ps : List Str} {sp : Sp} (O : OwnU P w K mg base CX k x ps sp) : Own P w K mg base CX k x ps sp :=
  let ⟨f, fd, F, r⟩ := O; ⟨f, fd, F.ok, r⟩
section
variable {X : Cx} {CX : CXT} {k : Nat} {x : Str} {ps : List Str} {sp : Sp} {e : Expr} {es : List Expr} {t : TA} {p pos : Pos}
theorem pe_ownU (O : OwnU X.prog X.w X.K X.mg X.base CX k x ps sp) (hX : NoX CX) (hr : RoomU k X.A) (hg : Gl X x) (ha : PA X (e :: es) t) (hdb : (x == ("__debug__" : Str)) = false := by decide)
    (he : starEach (e :: es) X.env = (false, eval e X.env) :: starEach es X.env := by rfl) (hpl : (backTo pos (starEach es X.env)).any (·.1) = false := by rfl) : PE X (.Call (.Name x p) (e :: es) [] pos) (tCall sp [] E0 t) := by
  obtain ⟨f, fd, F, hm, hk, hb⟩ := O
  intro pins s σ H Q I h
  refine wpAny_Call_Name_kw (ld_glob I hg hm ?_ hdb)
  refine PySem.W.callWith_K (h₀ := X.base) I.ok.mod.kin hk (thn (ha pos pins s σ H _ I h) fun us s1 ⟨vs, H1, I1, r, q⟩ => ⟨I1.kIn, ?_⟩) he hpl
  have hl : us.length = ps.length := by rw [← r.length, ← F.len _ _ _ _ q]; simp
  have bnd := hb s1 us I1.kIn (by simpa using hl)
  rw [List.append_nil] at bnd
  have q' : sp vs H1 Q E0 := by simpa using q
  refine wpAny_call (codeAny_mono (F.run X.A X.stack s1 H1 ⟨us, []⟩ us vs Q E0 hr I1.env0 bnd r q') fun r s' hq => ?_)
  cases r with
  | error e => exact (hX _ _ _ _ _ hq).elim
  | ok fl =>
    cases fl with
    | ret u => exact I1.after hq
    | next => exact False.elim hq
    | brk => exact False.elim hq
    | cont => exact False.elim hq
end
end L2
set_option Elab.async false
set_option linter.all false
set_option maxRecDepth 100000
set_option maxHeartbeats 4000000
namespace L2
open PySem PySem.Spec PyProof.Rows
mutual
theorem Is.same {K : PySem.W.Frag} {H H' : Hp} (s : Same H H') : ∀ {v : V} {d : PyData}, Is K H v d → Is K H' v d
  | _, _, .non => .non
  | _, _, .bl b => .bl b
  | _, _, .int i => .int i
  | _, _, .str x => .str x
  | _, _, .lst h hs => .lst (Same.seq s h) (IsAll.same s hs)
  | _, _, .tup h hs => .tup (by
      rcases h with (e | ⟨o, e⟩) | e
      · exact .inl (.inl (s _ _ e))
      · exact .inl (.inr ⟨o, s _ _ e⟩)
      · exact .inr e) (IsAll.same s hs)
  | _, _, .dc h => .dc (s _ _ h)
theorem IsAll.same {K : PySem.W.Frag} {H H' : Hp} (s : Same H H') : ∀ {vs : List V} {ds : List PyData}, IsAll K H vs ds → IsAll K H' vs ds
  | _, _, .nil => .nil
  | _, _, .cons h hs => .cons (Is.same s h) (IsAll.same s hs)
end
theorem IsAll.len {K : PySem.W.Frag} {H : Hp} : ∀ {vs : List V} {ds : List PyData}, IsAll K H vs ds → vs.length = ds.length
  | _, _, .nil => rfl
  | _, _, .cons _ hs => by simp [IsAll.len hs]
theorem IsAll.get {K : PySem.W.Frag} {H : Hp} : ∀ {vs : List V} {ds : List PyData} {i : Nat} {v : V}, IsAll K H vs ds → vs[i]? = some v → ∃ d, ds[i]? = some d ∧ Is K H v d
  | _, _, _, _, .nil, e => by simp at e
  | _, _, 0, _, .cons h _, e => by simp at e; subst e; exact ⟨_, rfl, h⟩
  | _, _, i + 1, v, .cons _ t, e => by
    obtain ⟨u, h1, h2⟩ := IsAll.get (i := i) (v := v) t (by simpa using e)
    exact ⟨u, by simpa using h1, h2⟩
theorem IsAll.get' {K : PySem.W.Frag} {H : Hp} : ∀ {vs : List V} {ds : List PyData} {i : Nat} {d : PyData}, IsAll K H vs ds → ds[i]? = some d → ∃ v, vs[i]? = some v ∧ Is K H v d
  | _, _, _, _, .nil, e => by simp at e
  | _, _, 0, _, .cons h _, e => by simp at e; subst e; exact ⟨_, rfl, h⟩
  | _, _, i + 1, v, .cons _ t, e => by
    obtain ⟨u, h1, h2⟩ := IsAll.get' (i := i) (d := v) t (by simpa using e)
    exact ⟨u, by simpa using h1, h2⟩
theorem IsAll.snoc {K : PySem.W.Frag} {H : Hp} {v : V} {d : PyData} (h : Is K H v d) : ∀ {vs : List V} {ds : List PyData}, IsAll K H vs ds → IsAll K H (vs ++ [v]) (ds ++ [d])
  | _, _, .nil => .cons h .nil
  | _, _, .cons a b => .cons a (IsAll.snoc h b)
theorem IsAll.app {K : PySem.W.Frag} {H : Hp} {us : List V} {es : List PyData} (h : IsAll K H us es) : ∀ {vs : List V} {ds : List PyData}, IsAll K H vs ds → IsAll K H (vs ++ us) (ds ++ es)
  | _, _, .nil => h
  | _, _, .cons a b => .cons a (IsAll.app h b)
theorem IsAll.drop {K : PySem.W.Frag} {H : Hp} : ∀ {vs : List V} {ds : List PyData} (n : Nat), IsAll K H vs ds → IsAll K H (vs.drop n) (ds.drop n)
  | _, _, 0, h => h
  | _, _, _ + 1, .nil => .nil
  | _, _, n + 1, .cons _ t => IsAll.drop n t
theorem IsAll.take {K : PySem.W.Frag} {H : Hp} : ∀ {vs : List V} {ds : List PyData} (n : Nat), IsAll K H vs ds → IsAll K H (vs.take n) (ds.take n)
  | _, _, 0, h => .nil
  | _, _, _ + 1, .nil => .nil
  | _, _, n + 1, .cons h t => .cons h (IsAll.take n t)
theorem IsAll.ints_of {K : PySem.W.Frag} {H : Hp} : ∀ {vs : List V} {ns : List Int}, IsAll K H vs (ns.map PyData.int) → vs = ns.map V.int
  | _, [], .nil => rfl
  | _, _ :: _, .cons h t => by cases h; rw [IsAll.ints_of t]; rfl
theorem IsAll.bools_of {K : PySem.W.Frag} {H : Hp} : ∀ {vs : List V} {ns : List Bool}, IsAll K H vs (ns.map PyData.bool) → vs = ns.map V.bl
  | _, [], .nil => rfl
  | _, _ :: _, .cons h t => by cases h; rw [IsAll.bools_of t]; rfl
structure Stb where
  R : V → Hp → Prop
  st : ∀ v H H', Same H H' → R v H → R v H'
inductive En where
  | d (x : PyData)
  | m (a : Addr)
  | x (r : Stb)
  | ty (n : String)
inductive MO where
  | pot (M : Int)
  | lst (ds : List PyData)
  | refs (as : List Addr)
abbrev Mu := List (Addr × MO)
def mask (μ : Mu) (H : Hp) : Hp := fun a => if a ∈ μ.map Prod.fst then none else H a
theorem mask_nil {H : Hp} : mask [] H = H := by funext a; simp [mask]
theorem mask_le {μ : Mu} {H : Hp} : Same (mask μ H) H := fun b o e => by
  unfold mask at e
  split at e
  · cases e
  · exact e
theorem mask_some {μ : Mu} {H : Hp} {b : Addr} {o : HO} (e : mask μ H b = some o) : b ∉ μ.map Prod.fst ∧ H b = some o := by
  unfold mask at e
  split at e
  · cases e
  · exact ⟨by assumption, e⟩
theorem mask_of {μ : Mu} {H : Hp} {b : Addr} (h : b ∉ μ.map Prod.fst) : mask μ H b = H b := by unfold mask; rw [if_neg h]
theorem mask_sub {μ μ' : Mu} {H : Hp} (h : ∀ a, a ∈ μ'.map Prod.fst → a ∈ μ.map Prod.fst) : Same (mask μ H) (mask μ' H) := fun b o e => by
  obtain ⟨h1, h2⟩ := mask_some e
  rw [mask_of (fun z => h1 (h _ z))]; exact h2
def IsE (K : PySem.W.Frag) (μ : Mu) (H : Hp) (v : V) : En → Prop
  | .d x => Is K (mask μ H) v x
  | .m a => v = .ref a
  | .x r => r.R v (mask μ H)
  | .ty n => v = .ty n
theorem IsE.same {K : PySem.W.Frag} {μ μ' : Mu} {H H' : Hp} {v : V} {e : En} (s : Same (mask μ H) (mask μ' H')) (h : IsE K μ H v e) : IsE K μ' H' v e := by
  cases e with
  | d x => exact Is.same s h
  | m a => exact h
  | x r => exact r.st _ _ _ s h
  | ty n => exact h
def ObjR (K : PySem.W.Frag) (μ : Mu) (H : Hp) (a : Addr) : MO → Prop
  | .pot M => Pot M H a
  | .lst ds => ∃ xs, H a = some (.lst xs) ∧ IsAll K (mask μ H) xs ds
  | .refs as => H a = some (.lst (as.map V.ref))
theorem ObjR.some {K : PySem.W.Frag} {μ : Mu} {H : Hp} {a : Addr} {o : MO} (h : ObjR K μ H a o) : ∃ xs, H a = some (.lst xs) := by
  cases o with
  | pot M => obtain ⟨p0, p1, e, _⟩ := h; exact ⟨_, e⟩
  | lst ds => obtain ⟨xs, e, _⟩ := h; exact ⟨_, e⟩
  | refs as => exact ⟨_, h⟩
structure RelM (K : PySem.W.Frag) (μ : Mu) (H : Hp) : Prop where
  nd : (μ.map Prod.fst).Nodup
  ob : ∀ a o, (a, o) ∈ μ → ObjR K μ H a o
theorem RelM.nil {K : PySem.W.Frag} {H : Hp} : RelM K [] H := ⟨by simp, fun _ _ h => nomatch h⟩
theorem ObjR.same {K : PySem.W.Frag} {μ μ' : Mu} {H H' : Hp} {a : Addr} {o : MO} (s : Same (mask μ H) (mask μ' H')) (e : H' a = H a) (h : ObjR K μ H a o) : ObjR K μ' H' a o := by
  cases o with
  | pot M => obtain ⟨p0, p1, q, r⟩ := h; exact ⟨p0, p1, e.trans q, r⟩
  | lst ds => obtain ⟨xs, q, r⟩ := h; exact ⟨xs, e.trans q, IsAll.same s r⟩
  | refs as => exact e.trans h
theorem RelM.same {K : PySem.W.Frag} {μ : Mu} {H H' : Hp} (h : RelM K μ H) (s : Same H H') : RelM K μ H' ∧ Same (mask μ H) (mask μ H') := by
  have ss : Same (mask μ H) (mask μ H') := fun b o e => by
    obtain ⟨h1, h2⟩ := mask_some e
    rw [mask_of h1]; exact s _ _ h2
  refine ⟨⟨h.nd, fun a o ho => ?_⟩, ss⟩
  have := h.ob a o ho
  obtain ⟨xs, e⟩ := this.some
  exact this.same ss ((s _ _ e).trans e.symm)
theorem RelM.laid {K : PySem.W.Frag} {μ : Mu} {H : Hp} {p : Addr} {o : HO} (h : RelM K μ H) (e : H p = none) : RelM K μ (upd H p o) ∧ Same (mask μ H) (mask μ (upd H p o)) ∧ p ∉ μ.map Prod.fst := by
  obtain ⟨h1, h2⟩ := h.same (Same.upd (o := o) e)
  refine ⟨h1, h2, fun z => ?_⟩
  obtain ⟨⟨a, q⟩, hq, rfl⟩ := List.mem_map.mp z
  obtain ⟨xs, e'⟩ := (h.ob a q hq).some
  rw [e'] at e; cases e
theorem mem_key {μ : Mu} {a : Addr} {o : MO} (h : (a, o) ∈ μ) : a ∈ μ.map Prod.fst := List.mem_map.mpr ⟨_, h, rfl⟩
theorem RelM.write {K : PySem.W.Frag} {μ1 μ2 : Mu} {H H' : Hp} {a : Addr} {o o' : MO} (h : RelM K (μ1 ++ (a, o) :: μ2) H) (k : ∀ b u, H b = some u → b ≠ a → H' b = some u)
    (new : Same (mask (μ1 ++ (a, o) :: μ2) H) (mask (μ1 ++ (a, o') :: μ2) H') → ObjR K (μ1 ++ (a, o') :: μ2) H' a o') :
    RelM K (μ1 ++ (a, o') :: μ2) H' ∧ Same (mask (μ1 ++ (a, o) :: μ2) H) (mask (μ1 ++ (a, o') :: μ2) H') := by
  have ks : (μ1 ++ (a, o') :: μ2).map Prod.fst = (μ1 ++ (a, o) :: μ2).map Prod.fst := by simp
  have ss : Same (mask (μ1 ++ (a, o) :: μ2) H) (mask (μ1 ++ (a, o') :: μ2) H') := fun b u e => by
    obtain ⟨h1, h2⟩ := mask_some e
    rw [mask_of (by rw [ks]; exact h1)]
    exact k b u h2 fun z => h1 (by rw [z]; simp)
  refine ⟨⟨by rw [ks]; exact h.nd, fun b q hq => ?_⟩, ss⟩
  have nd := h.nd
  simp only [List.map_append, List.map_cons, List.nodup_append, List.nodup_cons] at nd
  have hcase : (b, q) = (a, o') ∨ ((b, q) ∈ μ1 ++ (a, o) :: μ2 ∧ b ≠ a) := by
    rcases List.mem_append.mp hq with z | z
    · exact .inr ⟨List.mem_append_left _ z, fun e => nd.2.2 b (mem_key z) a (by simp) e⟩
    · rcases List.mem_cons.mp z with z | z
      · exact .inl z
      · exact .inr ⟨List.mem_append_right _ (List.mem_cons_of_mem _ z), fun e => nd.2.1.1 (e ▸ mem_key z)⟩
  rcases hcase with z | ⟨z, hne⟩
  · cases z; exact new ss
  · have := h.ob b q z
    obtain ⟨xs, e⟩ := this.some
    exact this.same ss ((k b _ e hne).trans e.symm)
theorem RelM.drop {K : PySem.W.Frag} {μ1 μ2 : Mu} {H : Hp} {a : Addr} {o : MO} (h : RelM K (μ1 ++ (a, o) :: μ2) H) : RelM K (μ1 ++ μ2) H ∧ Same (mask (μ1 ++ (a, o) :: μ2) H) (mask (μ1 ++ μ2) H) ∧ a ∉ (μ1 ++ μ2).map Prod.fst := by
  have nd := h.nd
  have ss : Same (mask (μ1 ++ (a, o) :: μ2) H) (mask (μ1 ++ μ2) H) := mask_sub fun b hb => by
    simp only [List.map_append, List.map_cons, List.mem_append, List.mem_cons] at *
    rcases hb with z | z
    · exact .inl z
    · exact .inr (.inr z)
  simp only [List.map_append, List.map_cons, List.nodup_append, List.nodup_cons] at nd
  refine ⟨⟨?_, fun b q hq => ?_⟩, ss, ?_⟩
  · simp only [List.map_append, List.nodup_append]
    exact ⟨nd.1, nd.2.1.2, fun x hx y hy => nd.2.2 x hx y (List.mem_cons_of_mem _ hy)⟩
  · have : (b, q) ∈ μ1 ++ (a, o) :: μ2 := by
      rcases List.mem_append.mp hq with z | z
      · exact List.mem_append_left _ z
      · exact List.mem_append_right _ (List.mem_cons_of_mem _ z)
    exact (h.ob b q this).same ss rfl
  · simp only [List.map_append, List.mem_append, not_or]
    exact ⟨fun z => nd.2.2 a z a (by simp) rfl, nd.2.1.1⟩
theorem RelM.new {K : PySem.W.Frag} {μ : Mu} {H : Hp} {p : Addr} {u : HO} {o : MO} (h : RelM K μ H) (e : H p = none) (new : Same (mask μ H) (mask ((p, o) :: μ) (upd H p u)) → ObjR K ((p, o) :: μ) (upd H p u) p o) :
    RelM K ((p, o) :: μ) (upd H p u) ∧ Same (mask μ H) (mask ((p, o) :: μ) (upd H p u)) := by
  obtain ⟨h1, h2, h3⟩ := h.laid (o := u) e
  have ss : Same (mask μ H) (mask ((p, o) :: μ) (upd H p u)) := fun b q z => by
    obtain ⟨z1, z2⟩ := mask_some z
    have hb : b ≠ p := ne_of_none z2 e
    rw [mask_of (by simp only [List.map_cons, List.mem_cons, not_or]; exact ⟨hb, z1⟩), upd_ne hb]; exact z2
  refine ⟨⟨by simp only [List.map_cons, List.nodup_cons]; exact ⟨h3, h.nd⟩, fun b q hq => ?_⟩, ss⟩
  rcases List.mem_cons.mp hq with z | z
  · cases z; exact new ss
  · have := h.ob b q z
    obtain ⟨xs, e'⟩ := this.some
    exact this.same ss (upd_ne (ne_of_none e' e))
abbrev Rho := List (Option En)
structure RelS (K : PySem.W.Frag) (ρ : Rho) (μ : Mu) (σ : St) (H : Hp) : Prop where
  len : ρ.length = σ.length
  get : ∀ (i : Nat) (e : En), ρ[i]? = some (some e) → ∃ v, σ[i]? = some (some v) ∧ IsE K μ H v e
theorem RelS.same {K : PySem.W.Frag} {ρ : Rho} {μ μ' : Mu} {σ : St} {H H' : Hp} (h : RelS K ρ μ σ H) (s : Same (mask μ H) (mask μ' H')) : RelS K ρ μ' σ H' :=
  ⟨h.len, fun i e q => let ⟨v, e1, e2⟩ := h.get i e q; ⟨v, e1, e2.same s⟩⟩
theorem RelS.set {K : PySem.W.Frag} {ρ : Rho} {μ : Mu} {σ : St} {H : Hp} {i : Nat} {v : V} {e : En} (h : RelS K ρ μ σ H) (r : IsE K μ H v e) : RelS K (ρ.set i (some e)) μ (σ.set i (some v)) H := by
  refine ⟨by simp [h.len], fun j x q => ?_⟩
  by_cases hj : i = j
  · subst hj
    have hi : i < ρ.length := by
      have := (List.getElem?_eq_some_iff.mp q).1
      simpa using this
    rw [List.getElem?_set_self (by rw [← h.len]; exact hi)]
    rw [List.getElem?_set_self hi] at q
    cases q
    exact ⟨v, rfl, r⟩
  · rw [List.getElem?_set_ne hj] at *
    exact h.get j x q
def Wk (ρ : Rho) (μ : Mu) (ρ' : Rho) (μ' : Mu) : Prop := ∀ (K : PySem.W.Frag) (σ : St) (H : Hp), RelS K ρ μ σ H → RelM K μ H → RelS K ρ' μ' σ H ∧ RelM K μ' H ∧ Same (mask μ H) (mask μ' H)
theorem Wk.refl {ρ : Rho} {μ : Mu} : Wk ρ μ ρ μ := fun _ _ _ h1 h2 => ⟨h1, h2, Same.refl _⟩
theorem Wk.trans {ρ ρ1 ρ2 : Rho} {μ μ1 μ2 : Mu} (h : Wk ρ μ ρ1 μ1) (h' : Wk ρ1 μ1 ρ2 μ2) : Wk ρ μ ρ2 μ2 := fun K σ H a b => by
  obtain ⟨a1, b1, s1⟩ := h K σ H a b
  obtain ⟨a2, b2, s2⟩ := h' K σ H a1 b1
  exact ⟨a2, b2, s1.trans s2⟩
def Lt (ρ' ρ : Rho) : Prop := ρ'.length = ρ.length ∧ ∀ (i : Nat) (e : En), ρ'[i]? = some (some e) → ρ[i]? = some (some e)
theorem Wk.names {ρ ρ' : Rho} {μ : Mu} (h : Lt ρ' ρ) : Wk ρ μ ρ' μ := fun _ _ _ h1 h2 => ⟨⟨h.1.trans h1.len, fun i e q => h1.get i e (h.2 i e q)⟩, h2, Same.refl _⟩
theorem Wk.drop {ρ : Rho} {μ1 μ2 : Mu} {a : Addr} {o : MO} : Wk ρ (μ1 ++ (a, o) :: μ2) ρ (μ1 ++ μ2) := fun _ _ _ h1 h2 => by
  obtain ⟨x, y, _⟩ := h2.drop
  exact ⟨h1.same y, x, y⟩
theorem Lt.nil : Lt [] [] := ⟨rfl, fun i e h => h⟩
theorem Lt.keep {ρ' ρ : Rho} {e : Option En} (h : Lt ρ' ρ) : Lt (e :: ρ') (e :: ρ) := ⟨by simp [h.1], fun i x q => by
  cases i with
  | zero => simpa using q
  | succ i => simp at q; simpa using h.2 i x q⟩
theorem Lt.refl (ρ : Rho) : Lt ρ ρ := ⟨rfl, fun i e h => h⟩
abbrev TEd := Rho → Mu → (En → Mu → Prop) → Prop
abbrev TTd := Rho → Mu → (Bool → Mu → Prop) → Prop
abbrev TAd := Rho → Mu → (List En → Mu → Prop) → Prop
structure EndsD where
  nx : Rho → Mu → Prop
  rt : En → Mu → Prop
  bk : Rho → Mu → Prop := fun _ _ => False
  ct : Rho → Mu → Prop := fun _ _ => False
abbrev TSd := EndsD → Rho → Mu → Prop
def Cl (K : PySem.W.Frag) (μ : Mu) (H : Hp) (Q0 : En → Mu → Prop) (Q : VK) : Prop := ∀ e μ' v H', Q0 e μ' → RelM K μ' H' → Same (mask μ H) (mask μ' H') → IsE K μ' H' v e → Q v H'
def ClT (K : PySem.W.Frag) (μ : Mu) (H : Hp) (Q0 : Bool → Mu → Prop) (Q : Bool → Hp → Prop) : Prop := ∀ b μ' H', Q0 b μ' → RelM K μ' H' → Same (mask μ H) (mask μ' H') → Q b H'
def ClA (K : PySem.W.Frag) (μ : Mu) (H : Hp) (Q0 : List En → Mu → Prop) (Q : List V → Hp → Prop) : Prop := ∀ es μ' vs H', Q0 es μ' → RelM K μ' H' → Same (mask μ H) (mask μ' H') → Paired (IsE K μ' H') vs es → Q vs H'
def ClR (K : PySem.W.Frag) (μ : Mu) (H : Hp) (Q0 : Rho → Mu → Prop) (Q : St → Hp → Prop) : Prop := ∀ ρ' μ' σ' H', Q0 ρ' μ' → RelS K ρ' μ' σ' H' → RelM K μ' H' → Same (mask μ H) (mask μ' H') → Q σ' H'
structure ClS (K : PySem.W.Frag) (μ : Mu) (H : Hp) (D0 : EndsD) (D : Ends) : Prop where
  nx : ClR K μ H D0.nx D.nx
  rt : Cl K μ H D0.rt D.rt
  bk : ClR K μ H D0.bk D.bk
  ct : ClR K μ H D0.ct D.ct
theorem Cl.same {K : PySem.W.Frag} {μ μ1 : Mu} {H H1 : Hp} {Q0 : En → Mu → Prop} {Q : VK} (h : Cl K μ H Q0 Q) (s : Same (mask μ H) (mask μ1 H1)) : Cl K μ1 H1 Q0 Q := fun e μ' v H' a b c d => h e μ' v H' a b (s.trans c) d
theorem ClT.same {K : PySem.W.Frag} {μ μ1 : Mu} {H H1 : Hp} {Q0 : Bool → Mu → Prop} {Q : Bool → Hp → Prop} (h : ClT K μ H Q0 Q) (s : Same (mask μ H) (mask μ1 H1)) : ClT K μ1 H1 Q0 Q := fun e μ' H' a b c => h e μ' H' a b (s.trans c)
theorem ClR.same {K : PySem.W.Frag} {μ μ1 : Mu} {H H1 : Hp} {Q0 : Rho → Mu → Prop} {Q : St → Hp → Prop} (h : ClR K μ H Q0 Q) (s : Same (mask μ H) (mask μ1 H1)) : ClR K μ1 H1 Q0 Q := fun e μ' v H' a b c d => h e μ' v H' a b c (s.trans d)
theorem ClS.same {K : PySem.W.Frag} {μ μ1 : Mu} {H H1 : Hp} {D0 : EndsD} {D : Ends} (h : ClS K μ H D0 D) (s : Same (mask μ H) (mask μ1 H1)) : ClS K μ1 H1 D0 D := ⟨h.nx.same s, h.rt.same s, h.bk.same s, h.ct.same s⟩
def up (K : PySem.W.Frag) (t : TEd) : TE := fun σ H Q => ∃ ρ μ Q0, RelS K ρ μ σ H ∧ RelM K μ H ∧ t ρ μ Q0 ∧ Cl K μ H Q0 Q
def upT (K : PySem.W.Frag) (t : TTd) : TT := fun σ H Q => ∃ ρ μ Q0, RelS K ρ μ σ H ∧ RelM K μ H ∧ t ρ μ Q0 ∧ ClT K μ H Q0 Q
def upA (K : PySem.W.Frag) (t : TAd) : TA := fun σ H Q => ∃ ρ μ Q0, RelS K ρ μ σ H ∧ RelM K μ H ∧ t ρ μ Q0 ∧ ClA K μ H Q0 Q
def upS (K : PySem.W.Frag) (t : TSd) : TS := fun D σ H => ∃ ρ μ D0, RelS K ρ μ σ H ∧ RelM K μ H ∧ t D0 ρ μ ∧ ClS K μ H D0 D
def DE (K : PySem.W.Frag) (X : Cx) (e : Expr) (t : TEd) : Prop := PE X e (up K t)
def DT (K : PySem.W.Frag) (X : Cx) (e : Expr) (t : TTd) : Prop := PT X e (upT K t)
def DW (K : PySem.W.Frag) (X : Cx) (e : Expr) (t : TTd) : Prop := PW X e (upT K t)
def DA (K : PySem.W.Frag) (X : Cx) (es : List Expr) (t : TAd) : Prop := PA X es (upA K t)
def DS (K : PySem.W.Frag) (X : Cx) (st : Stmt) (t : TSd) : Prop := PS X st (upS K t)
def DSs (K : PySem.W.Frag) (X : Cx) (st : List Stmt) (t : TSd) : Prop := PSs X st (upS K t)
section
variable {X : Cx} {K : PySem.W.Frag}
theorem PE.mono {e : Expr} {t t' : TE} (h : PE X e t) (f : ∀ σ H Q, t' σ H Q → t σ H Q) : PE X e t' := fun pins s σ H Q I q => h pins s σ H Q I (f _ _ _ q)
theorem PT.mono {e : Expr} {t t' : TT} (h : PT X e t) (f : ∀ σ H Q, t' σ H Q → t σ H Q) : PT X e t' := fun pins s σ H Q I q => h pins s σ H Q I (f _ _ _ q)
theorem PW.mono {e : Expr} {t t' : TT} (h : PW X e t) (f : ∀ σ H Q, t' σ H Q → t σ H Q) : PW X e t' := fun wh pins s σ H Q I q => h wh pins s σ H Q I (f _ _ _ q)
theorem PA.mono {e : List Expr} {t t' : TA} (h : PA X e t) (f : ∀ σ H Q, t' σ H Q → t σ H Q) : PA X e t' := fun p pins s σ H Q I q => h p pins s σ H Q I (f _ _ _ q)
theorem PS.mono {e : Stmt} {t t' : TS} (h : PS X e t) (f : ∀ D σ H, t' D σ H → t D σ H) : PS X e t' := fun pins s σ H D I q => h pins s σ H D I (f _ _ _ q)
theorem PSs.mono {e : List Stmt} {t t' : TS} (h : PSs X e t) (f : ∀ D σ H, t' D σ H → t D σ H) : PSs X e t' := fun pins s σ H D I q => h pins s σ H D I (f _ _ _ q)
theorem OpR.mono {f : Value → Value → Sem Value} {r r' : R2} (h : OpR X f r) (g : ∀ x y H Q, r' x y H Q → r x y H Q) : OpR X f r' := fun pins s σ H x y v u Q I a b c => h pins s σ H x y v u Q I a b (g _ _ _ _ c)
theorem UnR.mono {f : Value → Sem Value} {r r' : V → Hp → VK → Prop} (h : UnR X f r) (g : ∀ x H Q, r' x H Q → r x H Q) : UnR X f r' := fun pins s σ H x v Q I a c => h pins s σ H x v Q I a (g _ _ _ c)
theorem CallR.mono {f : Value} {r r' : List V → Hp → VK → Prop} (h : CallR X f r) (g : ∀ x H Q, r' x H Q → r x H Q) : CallR X f r' := fun pins s σ H x v Q I a c => h pins s σ H x v Q I a (g _ _ _ c)
theorem IxR.mono {r r' : R2} (h : IxR X r) (g : ∀ x y H Q, r' x y H Q → r x y H Q) : IxR X r' := fun a b pins s σ H x y v u Q I p q c => h a b pins s σ H x y v u Q I p q (g _ _ _ _ c)
theorem MtM.mono {id : String} {r r' : V → List V → Hp → VK → Prop} (h : MtM X id r) (g : ∀ x y H Q, r' x y H Q → r x y H Q) : MtM X id r' := fun pins s σ H x xs v us Q I a b c => h pins s σ H x xs v us Q I a b (g _ _ _ _ c)
theorem MtR.mono {id : String} {r r' : V → List V → Hp → VK → Prop} (h : MtR X id r) (g : ∀ x y H Q, r' x y H Q → r x y H Q) : MtR X id r' := fun pins s σ H x xs v us Q I a b c => h pins s σ H x xs v us Q I a b (g _ _ _ _ c)
def dVar (i : Nat) : TEd := fun ρ μ Q => match ρ[i]? with
  | some (some e) => Q e μ
  | _ => False
def dC (x : PyData) : TEd := fun _ μ Q => Q (.d x) μ
theorem dv (i : Nat) {x : Str} {pos : Pos} (hN : X.N[i]? = some x := by rfl) (hv : Vis X.env.scope x := by first | exact Or.inl rfl | exact Or.inr (Or.inl rfl) | exact Or.inr (Or.inr rfl)) (hd : (x == ("__debug__" : Str)) = false := by decide)
    (hcd : (x == ("__classdict__" : Str)) = false := by decide) : DE K X (.Name x pos) (dVar i) := by
  refine PE.mono (pe_var hN hv hd hcd) fun σ H Q ⟨ρ, μ, Q0, hS, hM, h, cl⟩ => ?_
  unfold dVar at h
  split at h
  · rename_i e he
    obtain ⟨v, e1, e2⟩ := hS.get i e he
    exact ⟨v, e1, cl e μ v H h hM (Same.refl _) e2⟩
  · exact h.elim
theorem d_int {i : Int} {j pos} : DE K X (.Constant (.int i) j pos) (dC (.int i)) := PE.mono pe_int fun σ H Q ⟨ρ, μ, Q0, hS, hM, h, cl⟩ => cl _ μ (.int i) H h hM (Same.refl _) (.int i)
theorem d_bl {b : Bool} {j pos} : DE K X (.Constant (.bool b) j pos) (dC (.bool b)) := PE.mono pe_bl fun σ H Q ⟨ρ, μ, Q0, hS, hM, h, cl⟩ => cl _ μ (.bl b) H h hM (Same.refl _) (.bl b)
theorem d_non {j pos} : DE K X (.Constant .none j pos) (dC .none) := PE.mono pe_non fun σ H Q ⟨ρ, μ, Q0, hS, hM, h, cl⟩ => cl _ μ .non H h hM (Same.refl _) .non
theorem d_str {x : Str} {j pos} : DE K X (.Constant (.str x) j pos) (dC (.str x)) := PE.mono pe_str fun σ H Q ⟨ρ, μ, Q0, hS, hM, h, cl⟩ => cl _ μ (.str x) H h hM (Same.refl _) (.str x)
theorem up2 {σ : St} {H : Hp} {ta tb : TEd} {R : V → V → Hp → Prop} {ρ : Rho} {μ : Mu} {R0 : En → En → Mu → Prop} (hS : RelS K ρ μ σ H) (hM : RelM K μ H) (h : ta ρ μ fun x μ1 => tb ρ μ1 fun y μ2 => R0 x y μ2)
    (f : ∀ x y μ2 v u H2, R0 x y μ2 → RelM K μ2 H2 → Same (mask μ H) (mask μ2 H2) → IsE K μ2 H2 v x → IsE K μ2 H2 u y → R v u H2) : up K ta σ H fun v H1 => up K tb σ H1 fun u H2 => R v u H2 := by
  refine ⟨ρ, μ, _, hS, hM, h, fun x μ1 v H1 q1 M1 s1 i1 => ⟨ρ, μ1, _, hS.same s1, M1, q1, fun y μ2 u H2 q2 M2 s2 i2 => ?_⟩⟩
  exact f x y μ2 v u H2 q2 M2 (s1.trans s2) (i1.same s2) i2
abbrev R2d := En → En → Mu → (En → Mu → Prop) → Prop
abbrev R1d := En → Mu → (En → Mu → Prop) → Prop
abbrev RAd := List En → Mu → (En → Mu → Prop) → Prop
def upR (K : PySem.W.Frag) (r : R2d) : R2 := fun x y H Q => ∃ μ e e' Q0, RelM K μ H ∧ IsE K μ H x e ∧ IsE K μ H y e' ∧ r e e' μ Q0 ∧ Cl K μ H Q0 Q
def upU (K : PySem.W.Frag) (r : R1d) : V → Hp → VK → Prop := fun x H Q => ∃ μ e Q0, RelM K μ H ∧ IsE K μ H x e ∧ r e μ Q0 ∧ Cl K μ H Q0 Q
def upC (K : PySem.W.Frag) (r : RAd) : List V → Hp → VK → Prop := fun xs H Q => ∃ μ es Q0, RelM K μ H ∧ Paired (IsE K μ H) xs es ∧ r es μ Q0 ∧ Cl K μ H Q0 Q
variable {a b c : Expr} {ta tb tc : TEd} {pos : Pos}
def dOp (r : R2d) (ta tb : TEd) : TEd := fun ρ μ Q => ta ρ μ fun x μ1 => tb ρ μ1 fun y μ2 => r x y μ2 Q
def dUn (r : R1d) (ta : TEd) : TEd := fun ρ μ Q => ta ρ μ fun x μ1 => r x μ1 Q
theorem up_op {r : R2d} {σ : St} {H : Hp} {Q : VK} (h : up K (dOp r ta tb) σ H Q) : tOp (upR K r) (up K ta) (up K tb) σ H Q := by
  obtain ⟨ρ, μ, Q0, hS, hM, h, cl⟩ := h
  exact up2 hS hM h fun x y μ2 v u H2 q M2 s2 i1 i2 => ⟨μ2, x, y, Q0, M2, i1, i2, q, cl.same s2⟩
theorem d_op {op : Operator} {r : R2d} (ho : OpR X (binaryOp op) (upR K r)) (ha : DE K X a ta) (hb : DE K X b tb) : DE K X (.BinOp a op b pos) (dOp r ta tb) := PE.mono (pe_op ho ha hb) fun _ _ _ => up_op
theorem d_cmp {op : CmpOp} {r : R2d} (ho : OpR X (compareOp op) (upR K r)) (ha : DE K X a ta) (hb : DE K X b tb) (hm : behindInMarks op b = false) : DE K X (.Compare a [op] [b] pos) (dOp r ta tb) := PE.mono (pe_cmpR ho ha hb hm) fun _ _ _ => up_op
def dTest (t : TEd) : TTd := fun ρ μ Q => t ρ μ fun e μ1 => match e with
  | .d (.bool k) => Q k μ1
  | _ => False
theorem up_test {t : TEd} {σ : St} {H : Hp} {Q : Bool → Hp → Prop} (h : upT K (dTest t) σ H Q) : up K t σ H fun x H1 => ∃ k, x = .bl k ∧ Q k H1 := by
  obtain ⟨ρ, μ, Q0, hS, hM, h, cl⟩ := h
  refine ⟨ρ, μ, _, hS, hM, h, fun e μ1 v H1 q M1 s1 i1 => ?_⟩
  split at q
  · cases i1
    exact ⟨_, rfl, cl _ μ1 H1 q M1 s1⟩
  · exact q.elim
theorem dt_cmp {op : CmpOp} {r : R2d} (ho : OpR X (compareOp op) (upR K r)) (ha : DE K X a ta) (hb : DE K X b tb) (hm : behindInMarks op b = false) : DT K X (.Compare a [op] [b] pos) (dTest (dOp r ta tb)) := by
  refine PT.mono (pt_cmpR ho ha hb hm) fun σ H Q h => ?_
  obtain ⟨ρ, μ, Q0, hS, hM, h, cl⟩ := h
  refine up2 hS hM h fun x y μ2 v u H2 q M2 s2 i1 i2 => ⟨μ2, x, y, _, M2, i1, i2, q, fun e μ3 w H3 q3 M3 s3 i3 => ?_⟩
  split at q3
  · cases i3
    exact ⟨_, rfl, cl _ μ3 H3 q3 M3 (s2.trans s3)⟩
  · exact q3.elim
theorem dt_val {t : TEd} (h : DE K X a t) (he : ∀ whole, isTrue a X.env whole = (do let v ← whole; standAt a.pos; holding [v] (truthy v)) := by intro _; rfl) : DT K X a (dTest t) := PT.mono (pt_val h he) fun _ _ _ => up_test
theorem d_un {op : UnaryOp} {r : R1d} (ho : UnR X (unaryOp op) (upU K r)) (ha : DE K X a ta) : DE K X (.UnaryOp op a pos) (dUn r ta) := by
  refine PE.mono (pe_un ho ha) fun σ H Q ⟨ρ, μ, Q0, hS, hM, h, cl⟩ => ?_
  exact ⟨ρ, μ, _, hS, hM, h, fun e μ1 v H1 q M1 s1 i1 => ⟨μ1, e, Q0, M1, i1, q, cl.same s1⟩⟩
def rdI (C : Int → Int → Prop) (g : Int → Int → PyData) : R2d := fun x y μ Q => match x, y with
  | .d (.int i), .d (.int j) => C i j ∧ Q (.d (g i j)) μ
  | _, _ => False
def rdI0 (g : Int → Int → PyData) : R2d := fun x y μ Q => match x, y with
  | .d (.int i), .d (.int j) => Q (.d (g i j)) μ
  | _, _ => False
def rdU (g : Int → PyData) : R1d := fun x μ Q => match x with
  | .d (.int i) => Q (.d (g i)) μ
  | _ => False
theorem up_rI {C : Int → Int → Prop} {g : Int → Int → Int} {x y : V} {H : Hp} {Q : VK} (h : upR K (rdI C fun i j => .int (g i j)) x y H Q) : rI C (fun i j => .int (g i j)) x y H Q := by
  obtain ⟨μ, e, e', Q0, M, i1, i2, q, cl⟩ := h
  unfold rdI at q
  split at q
  · cases i1; cases i2
    exact ⟨_, _, rfl, rfl, q.1, cl _ μ _ H q.2 M (Same.refl _) (.int _)⟩
  · exact q.elim
theorem up_rI0 {g : Int → Int → Int} {x y : V} {H : Hp} {Q : VK} (h : upR K (rdI0 fun i j => .int (g i j)) x y H Q) : rI0 (fun i j => .int (g i j)) x y H Q := by
  obtain ⟨μ, e, e', Q0, M, i1, i2, q, cl⟩ := h
  unfold rdI0 at q
  split at q
  · cases i1; cases i2
    exact ⟨_, _, rfl, rfl, cl _ μ _ H q M (Same.refl _) (.int _)⟩
  · exact q.elim
theorem up_rB0 {g : Int → Int → Bool} {x y : V} {H : Hp} {Q : VK} (h : upR K (rdI0 fun i j => .bool (g i j)) x y H Q) : rI0 (fun i j => .bl (g i j)) x y H Q := by
  obtain ⟨μ, e, e', Q0, M, i1, i2, q, cl⟩ := h
  unfold rdI0 at q
  split at q
  · cases i1; cases i2
    exact ⟨_, _, rfl, rfl, cl _ μ _ H q M (Same.refl _) (.bl _)⟩
  · exact q.elim
theorem do_add : OpR X (binaryOp .Add) (upR K (rdI0 fun i j => .int (i + j))) := op_add.mono fun _ _ _ _ => up_rI0
theorem do_sub : OpR X (binaryOp .Sub) (upR K (rdI0 fun i j => .int (i - j))) := op_sub.mono fun _ _ _ _ => up_rI0
theorem do_mul : OpR X (binaryOp .Mult) (upR K (rdI CMulB fun i j => .int (i * j))) := op_mulB.mono fun _ _ _ _ => up_rI
theorem do_mod : OpR X (binaryOp .Mod) (upR K (rdI (fun _ j => 0 < j) fun i j => .int (i % j))) := op_mod.mono fun _ _ _ _ => up_rI
theorem do_pow : OpR X (binaryOp .Pow) (upR K (rdI CPow fun i j => .int (i ^ j.toNat))) := op_pow.mono fun _ _ _ _ => up_rI
theorem do_lt : OpR X (compareOp .Lt) (upR K (rdI0 fun i j => .bool (decide (i < j)))) := op_lt.mono fun _ _ _ _ => up_rB0
theorem do_gt : OpR X (compareOp .Gt) (upR K (rdI0 fun i j => .bool (decide (j < i)))) := op_gt.mono fun _ _ _ _ => up_rB0
theorem du_neg : UnR X (unaryOp .USub) (upU K (rdU fun i => .int (-i))) := un_neg.mono fun x H Q h => by
  obtain ⟨μ, e, Q0, M, i1, q, cl⟩ := h
  unfold rdU at q
  split at q
  · cases i1
    exact ⟨_, rfl, cl _ μ _ H q M (Same.refl _) (.int _)⟩
  · exact q.elim
inductive LstOf (μ : Mu) : En → List PyData → Prop
  | d (ds : List PyData) : LstOf μ (.d (.list ds)) ds
  | m {a : Addr} {ds : List PyData} (h : (a, .lst ds) ∈ μ) : LstOf μ (.m a) ds
theorem LstOf.get {μ : Mu} {e : En} {ds : List PyData} {H : Hp} {v : V} (h : LstOf μ e ds) (M : RelM K μ H) (i : IsE K μ H v e) : ∃ p xs, v = .ref p ∧ SqL K H p xs ∧ IsAll K (mask μ H) xs ds := by
  cases h with
  | d ds =>
    cases i with
    | lst h hs => exact ⟨_, _, rfl, Same.seq mask_le h, hs⟩
  | m h =>
    obtain ⟨xs, e, hs⟩ := M.ob _ _ h
    exact ⟨_, xs, i, SqL.of e, hs⟩
inductive DatOf (μ : Mu) : En → PyData → Prop
  | d (x : PyData) : DatOf μ (.d x) x
  | m {a : Addr} {ds : List PyData} (h : (a, .lst ds) ∈ μ) : DatOf μ (.m a) (.list ds)
theorem DatOf.is {μ : Mu} {e : En} {x : PyData} {H : Hp} {v : V} (h : DatOf μ e x) (M : RelM K μ H) (i : IsE K μ H v e) : Is K H v x := by
  cases h with
  | d x => exact Is.same mask_le i
  | m h =>
    obtain ⟨xs, e, hs⟩ := M.ob _ _ h
    have i : v = _ := i
    subst i
    exact .lst (SqL.of e) (IsAll.same mask_le hs)
def rdEq (neg : Bool) : R2d := fun x y μ Q => match x, y with
  | .d (.int i), .d (.int j) => Q (.d (.bool (if neg then !decide (i = j) else decide (i = j)))) μ
  | _, _ => ∃ d d', DatOf μ x d ∧ DatOf μ y d' ∧ SeqAt.shaped d = true ∧ SeqAt.shaped d' = true ∧ Q (.d (.bool (if neg then !PyData.eqv d d' else PyData.eqv d d'))) μ
theorem eqv_int (i j : Int) : PyData.eqv (.int i) (.int j) = decide (i = j) := by
  by_cases h : i = j <;> simp [PyData.eqv, h]
theorem rdEq_dat {neg : Bool} {x y : En} {μ : Mu} {Q : En → Mu → Prop} (h : rdEq neg x y μ Q) : ∃ d d', DatOf μ x d ∧ DatOf μ y d' ∧ SeqAt.shaped d = true ∧ SeqAt.shaped d' = true ∧ Q (.d (.bool (if neg then !PyData.eqv d d' else PyData.eqv d d'))) μ := by
  unfold rdEq at h
  split at h
  · exact ⟨_, _, .d _, .d _, rfl, rfl, by rw [eqv_int]; exact h⟩
  · exact h
theorem do_eq (hu : X.A.units + 64 < cLine) (hK : X.K = K := by rfl) : OpR X (compareOp .Eq) (upR K (rdEq false)) := by
  subst hK
  refine (op_eqD hu).mono fun x y H Q h => ?_
  obtain ⟨μ, e, e', Q0, M, i1, i2, q, cl⟩ := h
  obtain ⟨d, d', h1, h2, h3, h4, q⟩ := rdEq_dat q
  exact ⟨d, d', h1.is M i1, h2.is M i2, h3, h4, cl _ μ _ H q M (Same.refl _) (.bl _)⟩
theorem do_ne (hu : X.A.units + 64 < cLine) (hK : X.K = K := by rfl) : OpR X (compareOp .NotEq) (upR K (rdEq true)) := by
  subst hK
  refine (op_neD hu).mono fun x y H Q h => ?_
  obtain ⟨μ, e, e', Q0, M, i1, i2, q, cl⟩ := h
  obtain ⟨d, d', h1, h2, h3, h4, q⟩ := rdEq_dat q
  exact ⟨d, d', h1.is M i1, h2.is M i2, h3, h4, cl _ μ _ H q M (Same.refl _) (.bl _)⟩
def dAnd (t u : TTd) : TTd := fun ρ μ Q => t ρ μ fun k μ1 => if k = true then u ρ μ1 Q else Q false μ1
def dOr (t u : TTd) : TTd := fun ρ μ Q => t ρ μ fun k μ1 => if k = true then Q true μ1 else u ρ μ1 Q
def dNot (t : TTd) : TTd := fun ρ μ Q => t ρ μ fun k μ1 => Q (!k) μ1
variable {tA tB : TTd} {rest : List Expr}
theorem dw_and1 (ha : DT K X a tA) : DW K X (.BoolOp .And [a] pos) tA := pw_and1 ha
theorem dw_or1 (ha : DT K X a tA) : DW K X (.BoolOp .Or [a] pos) tA := pw_or1 ha
theorem dw_and (ha : DT K X a tA) (hb : DW K X (.BoolOp .And (b :: rest) pos) tB) : DW K X (.BoolOp .And (a :: b :: rest) pos) (dAnd tA tB) := by
  refine PW.mono (pw_and ha hb) fun σ H Q ⟨ρ, μ, Q0, hS, hM, h, cl⟩ => ⟨ρ, μ, _, hS, hM, h, fun k μ1 H1 q M1 s1 => ?_⟩
  cases k with
  | true => exact ⟨ρ, μ1, Q0, hS.same s1, M1, by simpa using q, cl.same s1⟩
  | false => exact cl _ μ1 H1 (by simpa using q) M1 s1
theorem dw_or (ha : DT K X a tA) (hb : DW K X (.BoolOp .Or (b :: rest) pos) tB) : DW K X (.BoolOp .Or (a :: b :: rest) pos) (dOr tA tB) := by
  refine PW.mono (pw_or ha hb) fun σ H Q ⟨ρ, μ, Q0, hS, hM, h, cl⟩ => ⟨ρ, μ, _, hS, hM, h, fun k μ1 H1 q M1 s1 => ?_⟩
  cases k with
  | false => exact ⟨ρ, μ1, Q0, hS.same s1, M1, by simpa using q, cl.same s1⟩
  | true => exact cl _ μ1 H1 (by simpa using q) M1 s1
theorem dt_w (h : DW K X a tA) : DT K X a tA := PW.pt h
theorem dt_not (ha : DT K X a tA) : DT K X (.UnaryOp .Not a pos) (dNot tA) := PT.mono (pt_not ha) fun σ H Q ⟨ρ, μ, Q0, hS, hM, h, cl⟩ => ⟨ρ, μ, _, hS, hM, h, fun k μ1 H1 q M1 s1 => cl _ μ1 H1 q M1 s1⟩
def dAndV (ta tb : TEd) : TEd := fun ρ μ Q => ta ρ μ fun x μ1 => match x with
  | .d (.bool k) => if k = true then tb ρ μ1 Q else Q (.d (.bool false)) μ1
  | _ => False
def dOrV (ta tb : TEd) : TEd := fun ρ μ Q => ta ρ μ fun x μ1 => match x with
  | .d (.bool k) => if k = true then Q (.d (.bool true)) μ1 else tb ρ μ1 Q
  | _ => False
def dNotV (ta : TEd) : TEd := fun ρ μ Q => ta ρ μ fun x μ1 => match x with
  | .d (.bool k) => Q (.d (.bool (!k))) μ1
  | _ => False
theorem d_one {op} {t : TEd} (h : DE K X a t) : DE K X (.BoolOp op [a] pos) t := pe_one h
theorem d_and (ha : DE K X a ta) (hb : DE K X (.BoolOp .And (b :: rest) pos) tb) : DE K X (.BoolOp .And (a :: b :: rest) pos) (dAndV ta tb) := by
  refine PE.mono (pe_and ha hb) fun σ H Q ⟨ρ, μ, Q0, hS, hM, h, cl⟩ => ⟨ρ, μ, _, hS, hM, h, fun e μ1 v H1 q M1 s1 i1 => ?_⟩
  split at q
  · rename_i k
    cases i1
    refine ⟨k, rfl, ?_⟩
    cases k with
    | true => exact iteT ⟨ρ, μ1, Q0, hS.same s1, M1, by simpa using q, cl.same s1⟩
    | false => exact iteF (cl (.d (.bool false)) μ1 _ H1 (by simpa using q) M1 s1 (Is.bl _))
  · exact q.elim
theorem d_or (ha : DE K X a ta) (hb : DE K X (.BoolOp .Or (b :: rest) pos) tb) : DE K X (.BoolOp .Or (a :: b :: rest) pos) (dOrV ta tb) := by
  refine PE.mono (pe_or ha hb) fun σ H Q ⟨ρ, μ, Q0, hS, hM, h, cl⟩ => ⟨ρ, μ, _, hS, hM, h, fun e μ1 v H1 q M1 s1 i1 => ?_⟩
  split at q
  · rename_i k
    cases i1
    refine ⟨k, rfl, ?_⟩
    cases k with
    | false => exact iteF ⟨ρ, μ1, Q0, hS.same s1, M1, by simpa using q, cl.same s1⟩
    | true => exact iteT (cl (.d (.bool true)) μ1 _ H1 (by simpa using q) M1 s1 (Is.bl _))
  · exact q.elim
theorem d_not (ha : DE K X a ta) : DE K X (.UnaryOp .Not a pos) (dNotV ta) := by
  refine PE.mono (pe_not ha) fun σ H Q ⟨ρ, μ, Q0, hS, hM, h, cl⟩ => ⟨ρ, μ, _, hS, hM, h, fun e μ1 v H1 q M1 s1 i1 => ?_⟩
  split at q
  · cases i1
    exact ⟨_, rfl, cl _ μ1 _ H1 q M1 s1 (.bl _)⟩
  · exact q.elim
def dIf (t : TTd) (ta tb : TEd) : TEd := fun ρ μ Q => t ρ μ fun k μ1 => if k = true then ta ρ μ1 Q else tb ρ μ1 Q
theorem d_ifExp (hc : DT K X c tA) (ha : DE K X a ta) (hb : DE K X b tb) : DE K X (.IfExp c a b pos) (dIf tA ta tb) := by
  refine PE.mono (pe_ifExp hc ha hb) fun σ H Q ⟨ρ, μ, Q0, hS, hM, h, cl⟩ => ⟨ρ, μ, _, hS, hM, h, fun k μ1 H1 q M1 s1 => ?_⟩
  cases k with
  | true => exact iteT ⟨ρ, μ1, Q0, hS.same s1, M1, by simpa using q, cl.same s1⟩
  | false => exact iteF ⟨ρ, μ1, Q0, hS.same s1, M1, by simpa using q, cl.same s1⟩
variable {es : List Expr} {tr : TAd}
def dNil : TAd := fun _ μ Q => Q [] μ
def dCons (ta : TEd) (tr : TAd) : TAd := fun ρ μ Q => ta ρ μ fun x μ1 => tr ρ μ1 fun xs μ2 => Q (x :: xs) μ2
theorem da_nil : DA K X [] dNil := PA.mono pa_nil fun σ H Q ⟨ρ, μ, Q0, hS, hM, h, cl⟩ => cl _ μ _ H h hM (Same.refl _) .nil
theorem da_cons (ha : DE K X a ta) (hr : DA K X es tr) (hs : starEach (a :: es) X.env = (false, eval a X.env) :: starEach es X.env := by rfl) : DA K X (a :: es) (dCons ta tr) := by
  refine PA.mono (pa_cons ha hr hs) fun σ H Q ⟨ρ, μ, Q0, hS, hM, h, cl⟩ => ⟨ρ, μ, _, hS, hM, h, fun e μ1 v H1 q M1 s1 i1 => ⟨ρ, μ1, _, hS.same s1, M1, q, fun es' μ2 vs H2 q2 M2 s2 i2 => ?_⟩⟩
  exact cl _ μ2 _ H2 q2 M2 (s1.trans s2) (.cons (i1.same s2) i2)
def allD : List En → Option (List PyData)
  | [] => some []
  | .d x :: r => (allD r).map (x :: ·)
  | _ :: _ => none
theorem allD_is {μ : Mu} {H : Hp} : ∀ {es : List En} {ds : List PyData} {vs : List V}, allD es = some ds → Paired (IsE K μ H) vs es → IsAll K (mask μ H) vs ds
  | [], _, _, e, .nil => by cases e; exact .nil
  | .d x :: r, _, _, e, .cons h t => by
    simp only [allD] at e
    cases q : allD r with
    | none => rw [q] at e; cases e
    | some ds' => rw [q] at e; cases e; exact .cons h (allD_is q t)
  | .m a :: r, _, _, e, _ => by cases e
  | .x a :: r, _, _, e, _ => by cases e
  | .ty a :: r, _, _, e, _ => by cases e
def dTup (tr : TAd) : TEd := fun ρ μ Q => tr ρ μ fun es μ1 => match allD es with
  | some ds => ds.length ≤ 1000 ∧ Q (.d (.tuple ds)) μ1
  | none => False
def dLst (tr : TAd) : TEd := fun ρ μ Q => tr ρ μ fun es μ1 => match allD es with
  | some ds => ds.length ≤ 1000 ∧ Q (.d (.list ds)) μ1
  | none => False
theorem d_tup {x1} (h : DA K X es tr) : DE K X (.Tuple es x1 pos) (dTup tr) := by
  refine PE.mono (pe_tup h) fun σ H Q ⟨ρ, μ, Q0, hS, hM, h, cl⟩ => ⟨ρ, μ, _, hS, hM, h, fun es' μ1 vs H1 q M1 s1 i1 => ?_⟩
  split at q
  · rename_i ds e
    have hA := allD_is e i1
    refine ⟨Nat.le_of_lt (small1000 (by rw [hA.len]; exact q.1)), fun p hp => ?_⟩
    obtain ⟨M2, s2, hn⟩ := M1.laid (o := .tup vs) hp
    exact cl _ μ1 _ _ q.2 M2 (s1.trans s2) (.tup (SqT.of (by rw [mask_of hn]; exact upd_same)) (IsAll.same s2 hA))
  · exact q.elim
theorem d_lst (h : DA K X es tr) : DE K X (.List es pos) (dLst tr) := by
  refine PE.mono (pe_lst h) fun σ H Q ⟨ρ, μ, Q0, hS, hM, h, cl⟩ => ⟨ρ, μ, _, hS, hM, h, fun es' μ1 vs H1 q M1 s1 i1 => ?_⟩
  split at q
  · rename_i ds e
    have hA := allD_is e i1
    refine ⟨Nat.le_of_lt (small1000 (by rw [hA.len]; exact q.1)), fun p hp => ?_⟩
    obtain ⟨M2, s2, hn⟩ := M1.laid (o := .lst vs) hp
    exact cl _ μ1 _ _ q.2 M2 (s1.trans s2) (.lst (SqL.of (by rw [mask_of hn]; exact upd_same)) (IsAll.same s2 hA))
  · exact q.elim
def dLstM (tr : TAd) : TEd := fun ρ μ Q => tr ρ μ fun es μ1 => match allD es with
  | some ds => ds.length ≤ 1000 ∧ ∀ p, p ∉ μ1.map Prod.fst → Q (.m p) ((p, .lst ds) :: μ1)
  | none => False
theorem d_lstM (h : DA K X es tr) : DE K X (.List es pos) (dLstM tr) := by
  refine PE.mono (pe_lst h) fun σ H Q ⟨ρ, μ, Q0, hS, hM, h, cl⟩ => ⟨ρ, μ, _, hS, hM, h, fun es' μ1 vs H1 q M1 s1 i1 => ?_⟩
  split at q
  · rename_i ds e
    have hA := allD_is e i1
    refine ⟨Nat.le_of_lt (small1000 (by rw [hA.len]; exact q.1)), fun p hp => ?_⟩
    obtain ⟨_, _, hn⟩ := M1.laid (o := .lst vs) hp
    obtain ⟨M2, s2⟩ := M1.new (u := .lst vs) (o := .lst ds) hp fun ss => ⟨vs, upd_same, IsAll.same ss hA⟩
    exact cl _ _ _ _ (q.2 p hn) M2 (s1.trans s2) rfl
  · exact q.elim
end
end L2
set_option Elab.async false
set_option linter.all false
set_option maxRecDepth 100000
set_option maxHeartbeats 4000000
namespace L2
open PySem PySem.Spec PyProof.Rows
theorem IsAll.atI {K : PySem.W.Frag} {H : Hp} {vs : List V} {ds : List PyData} {i : Int} {z : PyData} (h : IsAll K H vs ds) (e : L2.atI ds i = some z) : ∃ v, L2.atI vs i = some v ∧ Is K H v z := by
  unfold L2.atI at *
  rw [h.len]
  cases q : ixN ds.length i with
  | none => rw [q] at e; cases e
  | some j =>
    rw [q] at e
    obtain ⟨v, e1, e2⟩ := h.get' (i := j) e
    exact ⟨v, e1, e2⟩
section
variable {X : Cx} {K : PySem.W.Frag} {a b c : Expr} {ta tb tc : TEd} {tA tB : TTd} {pos : Pos} {es : List Expr} {tr : TAd}
def rdIxL : R2d := fun x y μ Q => match y with
  | .d (.int i) => ∃ ds z, LstOf μ x ds ∧ atI ds i = some z ∧ Q (.d z) μ
  | _ => False
def rdIxT : R2d := fun x y μ Q => match x, y with
  | .d (.tuple ds), .d (.int i) => ∃ z, atI ds i = some z ∧ Q (.d z) μ
  | _, _ => False
theorem dx_list (hK : X.K = K := by rfl) : IxR X (upR K rdIxL) := by
  subst hK
  refine ix_list.mono fun x y H Q h => ?_
  obtain ⟨μ, e, e', Q0, M, i1, i2, q, cl⟩ := h
  unfold rdIxL at q
  split at q
  · obtain ⟨ds, z, h1, h2, q⟩ := q
    cases i2
    obtain ⟨p, xs, rfl, h3, h4⟩ := h1.get M i1
    obtain ⟨v, e1, e2⟩ := h4.atI h2
    exact ⟨p, xs, _, v, rfl, rfl, h3, e1, cl _ μ v H q M (Same.refl _) e2⟩
  · exact q.elim
theorem dx_tup (hK : X.K = K := by rfl) : IxR X (upR K rdIxT) := by
  subst hK
  refine ix_tup.mono fun x y H Q h => ?_
  obtain ⟨μ, e, e', Q0, M, i1, i2, q, cl⟩ := h
  unfold rdIxT at q
  split at q
  · obtain ⟨z, h2, q⟩ := q
    cases i2
    have i1' := Is.same mask_le (show Is X.K (mask μ H) x _ from i1)
    cases i1 with
    | tup h3 h4 =>
      obtain ⟨v, e1, e2⟩ := h4.atI h2
      cases i1' with
      | tup h5 h6 =>
        refine ⟨_, _, _, v, rfl, rfl, ?_, e1, cl _ μ v H q M (Same.refl _) e2⟩
        rcases h3 with (e | ⟨o, e⟩) | e
        · exact .inl (.inl (mask_le _ _ e))
        · exact .inl (.inr ⟨o, mask_le _ _ e⟩)
        · exact .inr e
  · exact q.elim
theorem d_ix {r : R2d} (hr : IxR X (upR K r)) (ha : DE K X a ta) (hb : DE K X b tb) (hs : PlainIx b) : DE K X (.Subscript a b pos) (dOp r ta tb) := PE.mono (pe_ix hr ha hb hs) fun _ _ _ => up_op
def cutD (xs : List PyData) (lo hi : Option Int) : List PyData := (xs.drop (HT.sIx xs.length 0 lo)).take (HT.sIx xs.length xs.length hi - HT.sIx xs.length 0 lo)
theorem IsAll.cut {H : Hp} {vs : List V} {ds : List PyData} {lo hi : Option Int} (h : IsAll K H vs ds) : IsAll K H (cutV vs lo hi) (cutD ds lo hi) := by
  unfold cutV cutD
  rw [h.len]
  exact (h.drop _).take _
abbrev TOd := Rho → Mu → (Option Int → Mu → Prop) → Prop
def upO (K : PySem.W.Frag) (t : TOd) : TO := fun σ H Q => ∃ ρ μ Q0, RelS K ρ μ σ H ∧ RelM K μ H ∧ t ρ μ Q0 ∧ ∀ o μ' H', Q0 o μ' → RelM K μ' H' → Same (mask μ H) (mask μ' H') → Q o H'
def DO (K : PySem.W.Frag) (X : Cx) (e : Option Expr) (t : TOd) : Prop := PO X e (upO K t)
theorem PO.mono {e : Option Expr} {t t' : TO} (h : PO X e t) (f : ∀ σ H Q, t' σ H Q → t σ H Q) : PO X e t' := fun pins s σ H Q I q => h pins s σ H Q I (f _ _ _ q)
def dNoPart : TOd := fun _ μ Q => Q none μ
def dPart (t : TEd) : TOd := fun ρ μ Q => t ρ μ fun x μ1 => match x with
  | .d (.int i) => Q (some i) μ1
  | _ => False
theorem dp_none : DO K X none dNoPart := PO.mono po_none fun σ H Q ⟨ρ, μ, Q0, hS, hM, h, cl⟩ => cl none μ H h hM (Same.refl _)
theorem dp_some (h : DE K X a ta) : DO K X (some a) (dPart ta) := PO.mono (po_some h) fun σ H Q ⟨ρ, μ, Q0, hS, hM, h, cl⟩ => ⟨ρ, μ, _, hS, hM, h, fun e μ1 v H1 q M1 s1 i1 => by
  split at q
  · cases i1; exact ⟨_, rfl, cl _ μ1 H1 q M1 s1⟩
  · exact q.elim⟩
def dSl (r : En → Option Int → Option Int → Mu → (En → Mu → Prop) → Prop) (te : TEd) (tl th : TOd) : TEd := fun ρ μ Q => te ρ μ fun x μ1 => tl ρ μ1 fun l μ2 => th ρ μ2 fun u μ3 => r x l u μ3 Q
def rdSlL : En → Option Int → Option Int → Mu → (En → Mu → Prop) → Prop := fun x l u μ Q => ∃ ds, LstOf μ x ds ∧ Q (.d (.list (cutD ds l u))) μ
def rdSlT : En → Option Int → Option Int → Mu → (En → Mu → Prop) → Prop := fun x l u μ Q => match x with
  | .d (.tuple ds) => ¬ (HT.sIx ds.length 0 l = 0 ∧ HT.sIx ds.length ds.length u = ds.length) ∧ Q (.d (.tuple (cutD ds l u))) μ
  | _ => False
theorem d_slice {lo hi : Option Expr} {p2 : Pos} {tl th : TOd} (ha : DE K X a ta) (hl : DO K X lo tl) (hu : DO K X hi th) (hK : X.K = K := by rfl) : DE K X (.Subscript a (.Slice lo hi none p2) pos) (dSl rdSlL ta tl th) := by
  subst hK
  refine PE.mono (pe_slice sl_list ha hl hu) fun σ H Q ⟨ρ, μ, Q0, hS, hM, h, cl⟩ => ⟨ρ, μ, _, hS, hM, h, fun e μ1 v H1 q1 M1 s1 i1 => ⟨ρ, μ1, _, hS.same s1, M1, q1, fun l μ2 H2 q2 M2 s2 => ⟨ρ, μ2, _, hS.same (s1.trans s2), M2, q2, fun u μ3 H3 q3 M3 s3 => ?_⟩⟩⟩
  obtain ⟨ds, h1, q⟩ := q3
  have i3 := i1.same (s2.trans s3)
  obtain ⟨p, xs, rfl, h3, h4⟩ := h1.get M3 i3
  refine ⟨p, xs, rfl, h3, fun l hl => ?_⟩
  obtain ⟨M4, s4, hn⟩ := M3.laid (o := .lst (cutV xs _ _)) hl
  exact cl _ _ _ _ q M4 ((s1.trans s2).trans (s3.trans s4)) (.lst (SqL.of (by rw [mask_of hn]; exact upd_same)) (IsAll.same s4 h4.cut))
theorem d_sliceT {lo hi : Option Expr} {p2 : Pos} {tl th : TOd} (ha : DE K X a ta) (hl : DO K X lo tl) (hu : DO K X hi th) (hK : X.K = K := by rfl) : DE K X (.Subscript a (.Slice lo hi none p2) pos) (dSl rdSlT ta tl th) := by
  subst hK
  refine PE.mono (pe_slice sl_tup ha hl hu) fun σ H Q ⟨ρ, μ, Q0, hS, hM, h, cl⟩ => ⟨ρ, μ, _, hS, hM, h, fun e μ1 v H1 q1 M1 s1 i1 => ⟨ρ, μ1, _, hS.same s1, M1, q1, fun l μ2 H2 q2 M2 s2 => ⟨ρ, μ2, _, hS.same (s1.trans s2), M2, q2, fun u μ3 H3 q3 M3 s3 => ?_⟩⟩⟩
  have i3 := i1.same (s2.trans s3)
  unfold rdSlT at q3
  split at q3
  · cases i3 with
    | tup h3 h4 =>
      rename_i a1 xs1
      have h5 : SqT X.K H3 a1 xs1 := by
        rcases h3 with (e | ⟨o, e⟩) | e
        · exact .inl (.inl (mask_le _ _ e))
        · exact .inl (.inr ⟨o, mask_le _ _ e⟩)
        · exact .inr e
      refine ⟨_, _, rfl, h5, by rw [h4.len]; exact q3.1, fun l hl => ?_⟩
      obtain ⟨M4, s4, hn⟩ := M3.laid (o := .tup (cutV _ _ _)) hl
      exact cl _ _ _ _ q3.2 M4 ((s1.trans s2).trans (s3.trans s4)) (.tup (SqT.of (by rw [mask_of hn]; exact upd_same)) (IsAll.same s4 h4.cut))
  · exact q3.elim
def dCB (r : RAd) (tr : TAd) : TEd := fun ρ μ Q => tr ρ μ fun es μ1 => r es μ1 Q
theorem up_cb {r : RAd} {σ : St} {H : Hp} {Q : VK} (h : up K (dCB r tr) σ H Q) : tCB (upC K r) (upA K tr) σ H Q := by
  obtain ⟨ρ, μ, Q0, hS, hM, h, cl⟩ := h
  exact ⟨ρ, μ, _, hS, hM, h, fun es μ1 vs H1 q M1 s1 i1 => ⟨μ1, es, Q0, M1, i1, q, cl.same s1⟩⟩
theorem d_callB {id : String} {x : Str} {r : RAd} {e : Expr} {p : Pos} (hc : CallR X (.builtin id) (upC K r)) (hg : Gl X x) (hm : X.mg x = none) (hv : bootBuiltins x = some (.builtin id)) (ha : DA K X (e :: es) tr) (hn : x ≠ "__name__" := by decide) (hdb : (x == ("__debug__" : Str)) = false := by decide)
    (he : starEach (e :: es) X.env = (false, eval e X.env) :: starEach es X.env := by rfl) (hpl : (backTo pos (starEach es X.env)).any (·.1) = false := by rfl) : DE K X (.Call (.Name x p) (e :: es) [] pos) (dCB r tr) := PE.mono (pe_callB hc hg hm hv ha hn hdb he hpl) fun _ _ _ => up_cb
theorem d_callTy {T : String} {x : Str} {r : RAd} {e : Expr} {p : Pos} (hc : CallR X (.type T) (upC K r)) (hg : Gl X x) (hm : X.mg x = none) (hv : bootBuiltins x = some (.type T)) (ha : DA K X (e :: es) tr) (hn : x ≠ "__name__" := by decide) (hdb : (x == ("__debug__" : Str)) = false := by decide)
    (he : starEach (e :: es) X.env = (false, eval e X.env) :: starEach es X.env := by rfl) (hpl : (backTo pos (starEach es X.env)).any (·.1) = false := by rfl) : DE K X (.Call (.Name x p) (e :: es) [] pos) (dCB r tr) := PE.mono (pe_callTy hc hg hm hv ha hn hdb he hpl) fun _ _ _ => up_cb
theorem pair1 {μ : Mu} {H : Hp} {vs : List V} {e : En} (h : Paired (IsE K μ H) vs [e]) : ∃ v, vs = [v] ∧ IsE K μ H v e := by
  cases h with | cons a b => cases b; exact ⟨_, rfl, a⟩
theorem pair2 {μ : Mu} {H : Hp} {vs : List V} {e e' : En} (h : Paired (IsE K μ H) vs [e, e']) : ∃ v v', vs = [v, v'] ∧ IsE K μ H v e ∧ IsE K μ H v' e' := by
  cases h with | cons a b => cases b with | cons c d => cases d; exact ⟨_, _, rfl, a, c⟩
def rdAbs : RAd := fun es μ Q => match es with
  | [.d (.int i)] => Q (.d (.int (i.natAbs : Int))) μ
  | _ => False
theorem dc_abs : CallR X (.builtin "abs") (upC K rdAbs) := call_abs.mono fun xs H Q h => by
  obtain ⟨μ, es, Q0, M, hp, q, cl⟩ := h
  unfold rdAbs at q
  split at q
  · rename_i i
    obtain ⟨v, rfl, i1⟩ := pair1 hp
    cases i1
    have e : (if i < 0 then -i else i) = (i.natAbs : Int) := by split <;> omega
    exact ⟨_, rfl, by rw [e]; exact cl _ μ _ H q M (Same.refl _) (.int _)⟩
  · exact q.elim
def rd2I (g : Int → Int → Int) : RAd := fun es μ Q => match es with
  | [.d (.int i), .d (.int j)] => Q (.d (.int (g i j))) μ
  | _ => False
theorem dc_max (hc : X.calm = true) : CallR X (.builtin "max") (upC K (rd2I fun i j => if i < j then j else i)) := (call_max2 hc).mono fun xs H Q h => by
  obtain ⟨μ, es, Q0, M, hp, q, cl⟩ := h
  unfold rd2I at q
  split at q
  · obtain ⟨v, v', rfl, i1, i2⟩ := pair2 hp
    cases i1; cases i2
    exact ⟨_, _, rfl, cl _ μ _ H q M (Same.refl _) (.int _)⟩
  · exact q.elim
theorem dc_min (hc : X.calm = true) : CallR X (.builtin "min") (upC K (rd2I fun i j => if j < i then j else i)) := (call_min2 hc).mono fun xs H Q h => by
  obtain ⟨μ, es, Q0, M, hp, q, cl⟩ := h
  unfold rd2I at q
  split at q
  · obtain ⟨v, v', rfl, i1, i2⟩ := pair2 hp
    cases i1; cases i2
    exact ⟨_, _, rfl, cl _ μ _ H q M (Same.refl _) (.int _)⟩
  · exact q.elim
inductive SeqOf (μ : Mu) : En → List PyData → Prop
  | l {e : En} {ds : List PyData} (h : LstOf μ e ds) : SeqOf μ e ds
  | t (ds : List PyData) : SeqOf μ (.d (.tuple ds)) ds
theorem SeqOf.get {μ : Mu} {e : En} {ds : List PyData} {H : Hp} {v : V} (h : SeqOf μ e ds) (M : RelM K μ H) (i : IsE K μ H v e) : ∃ p xs, v = .ref p ∧ (SqL K H p xs ∨ SqT K H p xs) ∧ IsAll K (mask μ H) xs ds := by
  cases h with
  | l h => obtain ⟨p, xs, h1, h2, h3⟩ := h.get M i; exact ⟨p, xs, h1, .inl h2, h3⟩
  | t ds =>
    cases i with
    | tup h hs =>
      refine ⟨_, _, rfl, .inr ?_, hs⟩
      rcases h with (e | ⟨o, e⟩) | e
      · exact .inl (.inl (mask_le _ _ e))
      · exact .inl (.inr ⟨o, mask_le _ _ e⟩)
      · exact .inr e
def rdLen : RAd := fun es μ Q => match es with
  | [e] => ∃ ds, SeqOf μ e ds ∧ Q (.d (.int (ds.length : Int))) μ
  | _ => False
theorem dc_len (hK : X.K = K := by rfl) : CallR X (.builtin "len") (upC K rdLen) := by
  subst hK
  refine call_len_seq.mono fun xs H Q h => ?_
  obtain ⟨μ, es, Q0, M, hp, q, cl⟩ := h
  unfold rdLen at q
  split at q
  · obtain ⟨v, rfl, i1⟩ := pair1 hp
    obtain ⟨ds, h1, q⟩ := q
    obtain ⟨p, ys, rfl, h2, h3⟩ := h1.get M i1
    exact ⟨p, ys, rfl, h2, by rw [h3.len]; exact cl _ μ _ H q M (Same.refl _) (.int _)⟩
  · exact q.elim
def rdList : RAd := fun es μ Q => match es with
  | [e] => ∃ ds, SeqOf μ e ds ∧ Q (.d (.list ds)) μ
  | _ => False
theorem dc_list (hK : X.K = K := by rfl) : CallR X (.type "list") (upC K rdList) := by
  subst hK
  refine call_list_of.mono fun xs H Q h => ?_
  obtain ⟨μ, es, Q0, M, hp, q, cl⟩ := h
  unfold rdList at q
  split at q
  · obtain ⟨v, rfl, i1⟩ := pair1 hp
    obtain ⟨ds, h1, q⟩ := q
    obtain ⟨p, ys, rfl, h2, h3⟩ := h1.get M i1
    refine ⟨p, ys, rfl, h2, fun l hl => ?_⟩
    obtain ⟨M4, s4, hn⟩ := M.laid (o := .lst ys) hl
    exact cl _ μ _ _ q M4 s4 (.lst (SqL.of (by rw [mask_of hn]; exact upd_same)) (IsAll.same s4 h3))
  · exact q.elim
def rdTuple : RAd := fun es μ Q => match es with
  | [e] => ∃ ds, LstOf μ e ds ∧ Q (.d (.tuple ds)) μ
  | _ => False
theorem dc_tuple (hK : X.K = K := by rfl) : CallR X (.type "tuple") (upC K rdTuple) := by
  subst hK
  refine call_tuple_of.mono fun xs H Q h => ?_
  obtain ⟨μ, es, Q0, M, hp, q, cl⟩ := h
  unfold rdTuple at q
  split at q
  · obtain ⟨v, rfl, i1⟩ := pair1 hp
    obtain ⟨ds, h1, q⟩ := q
    obtain ⟨p, ys, rfl, h2, h3⟩ := h1.get M i1
    refine ⟨p, ys, rfl, .inl ⟨h2, fun l hl => ?_⟩⟩
    obtain ⟨M4, s4, hn⟩ := M.laid (o := .tup ys) hl
    exact cl _ μ _ _ q M4 s4 (.tup (SqT.of (by rw [mask_of hn]; exact upd_same)) (IsAll.same s4 h3))
  · exact q.elim
def rdAll (f : List Bool → Bool) : RAd := fun es μ Q => match es with
  | [e] => ∃ bs, LstOf μ e (bs.map PyData.bool) ∧ Q (.d (.bool (f bs))) μ
  | _ => False
theorem dc_all (hc : X.calm = true) (hK : X.K = K := by rfl) : CallR X (.builtin "all") (upC K (rdAll fun bs => bs.all id)) := by
  subst hK
  refine (call_all hc).mono fun xs H Q h => ?_
  obtain ⟨μ, es, Q0, M, hp, q, cl⟩ := h
  unfold rdAll at q
  split at q
  · obtain ⟨v, rfl, i1⟩ := pair1 hp
    obtain ⟨bs, h1, q⟩ := q
    obtain ⟨p, ys, rfl, h2, h3⟩ := h1.get M i1
    rw [h3.bools_of] at h2
    exact ⟨p, bs, rfl, h2, cl _ μ _ H q M (Same.refl _) (.bl _)⟩
  · exact q.elim
def isTy (n : String) : PyData → Bool
  | .none => false
  | .bool _ => n == "bool" || n == "int"
  | .int _ => n == "int"
  | .str _ => n == "str"
  | .list _ => n == "list"
  | .tuple _ => n == "tuple"
  | .dict _ => false
abbrev SpD := List En → Mu → (En → Mu → Prop) → Prop
def spUp (K : PySem.W.Frag) (s : SpD) : Sp := fun vs H Q _ => ∃ μ es Q0, RelM K μ H ∧ Paired (IsE K μ H) vs es ∧ s es μ Q0 ∧ Cl K μ H Q0 Q
theorem d_own {CX : CXT} {k : Nat} {x : Str} {ps : List Str} {s : SpD} {e : Expr} {p : Pos} (O : Own X.prog X.w X.K X.mg X.base CX k x ps (spUp K s)) (hX : NoX CX) (hr : Room k X.A) (hg : Gl X x) (ha : DA K X (e :: es) tr) (hdb : (x == ("__debug__" : Str)) = false := by decide)
    (he : starEach (e :: es) X.env = (false, eval e X.env) :: starEach es X.env := by rfl) (hpl : (backTo pos (starEach es X.env)).any (·.1) = false := by rfl) : DE K X (.Call (.Name x p) (e :: es) [] pos) (dCB s tr) := by
  refine PE.mono (pe_own O hX hr hg ha hdb he hpl) fun σ H Q ⟨ρ, μ, Q0, hS, hM, h, cl⟩ => ?_
  exact ⟨ρ, μ, _, hS, hM, h, fun es μ1 vs H1 q M1 s1 i1 => ⟨μ1, es, Q0, M1, by simpa using i1, q, cl.same s1⟩⟩
theorem IsAll.flat {H H' : Hp} : ∀ {vs : List V} {ds : List PyData}, ds.all (fun | .list _ => false | .dict _ => false | .tuple _ => false | _ => true) = true → IsAll K H vs ds → IsAll K H' vs ds
  | _, [], _, .nil => .nil
  | _, d :: ds, h, .cons a b => by
    simp only [List.all_cons, Bool.and_eq_true] at h
    refine .cons ?_ (IsAll.flat h.2 b)
    cases a with
    | non => exact .non
    | bl b => exact .bl b
    | int i => exact .int i
    | str x => exact .str x
    | lst _ _ => exact absurd h.1 (by simp)
    | tup _ _ => exact absurd h.1 (by simp)
    | dc _ => exact absurd h.1 (by simp)
inductive Thaw (a : Addr) (ds : List PyData) : List En → List En → Prop
  | nil : Thaw a ds [] []
  | me {es es' : List En} : Thaw a ds es es' → Thaw a ds (.m a :: es) (.d (.list ds) :: es')
  | ot {e : En} {es es' : List En} : Thaw a ds es es' → Thaw a ds (e :: es) (e :: es')
theorem Thaw.is {μ1 μ2 : Mu} {a : Addr} {ds : List PyData} {H : Hp} (M : RelM K (μ1 ++ (a, .lst ds) :: μ2) H) : ∀ {es es' : List En} {vs : List V}, Thaw a ds es es' → Paired (IsE K (μ1 ++ (a, .lst ds) :: μ2) H) vs es → Paired (IsE K (μ1 ++ μ2) H) vs es'
  | _, _, _, .nil, .nil => .nil
  | _, _, _, .me t, .cons i r => by
    obtain ⟨M', s, hn⟩ := M.drop
    obtain ⟨xs, e, hs⟩ := M.ob a (.lst ds) (by simp)
    refine .cons ?_ (Thaw.is M t r)
    have i : _ = V.ref a := i
    subst i
    exact .lst (SqL.of (by rw [mask_of hn]; exact e)) (IsAll.same s hs)
  | _, _, _, .ot t, .cons i r => .cons (i.same M.drop.2.1) (Thaw.is M t r)
end
end L2
set_option Elab.async false
set_option linter.all false
set_option maxRecDepth 100000
set_option maxHeartbeats 4000000
namespace L2
open PySem PySem.Spec PyProof.Rows
section
variable {X : Cx} {K : PySem.W.Frag} {a b c : Expr} {ta tb tc : TEd} {tA tB : TTd} {pos : Pos} {es : List Expr} {tr : TAd}
def tys : List String := ["int", "bool", "str", "list", "tuple"]
theorem d_ty {x : Str} {n : String} {p : Pos} (hg : Gl X x) (hm : X.mg x = none) (hv : bootBuiltins x = some (.type n)) (hn : x ≠ "__name__" := by decide) (hd : (x == ("__debug__" : Str)) = false := by decide) : DE K X (.Name x p) (fun _ μ Q => Q (.ty n) μ) :=
  PE.mono (pe_bltn (v := .ty n) hg hm hv rfl hn hd) fun σ H Q ⟨ρ, μ, Q0, hS, hM, h, cl⟩ => cl _ μ (.ty n) H h hM (Same.refl _) rfl
theorem call_isD : CallR X (.builtin "isinstance") (fun xs H Q => ∃ x n d, xs = [x, .ty n] ∧ Is X.K H x d ∧ n ∈ tys ∧ Q (.bl (isTy n d)) H) := by
  intro pins s σ H xs us Q I r h
  obtain ⟨x, n, d, rfl, ty, hn, q⟩ := h
  obtain ⟨u, u', rfl, rx, ry⟩ := vals2 r
  cases ry
  have fin : ∀ tk, EP X pins σ Q (.bool (isTy n d)) { s with toks := tk } := fun tk => ⟨.bl _, H, I.tok _, rfl, q⟩
  have hn : n = "int" ∨ n = "bool" ∨ n = "str" ∨ n = "list" ∨ n = "tuple" := by simpa [tys] using hn
  cases ty with
  | non => cases (show u = Value.none from rx); exact PySem.W.kia_one PySem.W.kitx_none I.kIn True.intro (by rcases hn with rfl | rfl | rfl | rfl | rfl <;> rfl) (fun z => nomatch z) fin
  | bl y => cases (show u = Value.bool y from rx); exact PySem.W.kia_one PySem.W.kitx_bool I.kIn True.intro (by rcases hn with rfl | rfl | rfl | rfl | rfl <;> rfl) (fun z => nomatch z) fin
  | int i => obtain ⟨t, z⟩ := (show ∃ t, u = Value.int i t from rx); cases z; exact PySem.W.kia_one PySem.W.kitx_int I.kIn True.intro (by rcases hn with rfl | rfl | rfl | rfl | rfl <;> rfl) (fun z => nomatch z) fin
  | str y => obtain ⟨t, z⟩ := (show ∃ t, u = Value.str y t from rx); cases z; exact PySem.W.kia_one PySem.W.kitx_str I.kIn True.intro (by rcases hn with rfl | rfl | rfl | rfl | rfl <;> rfl) (fun z => nomatch z) fin
  | @lst a xs ds hq _ =>
    cases (show u = Value.ref a from rx)
    obtain ⟨its, _, ⟨o, n', h1, h2, _⟩, _⟩ := I.list hq
    exact PySem.W.kia_one PySem.W.kitx_list I.kIn ⟨o, h1, h2⟩ (by rcases hn with rfl | rfl | rfl | rfl | rfl <;> rfl) (fun z => nomatch z) fin
  | @dc a hq =>
    cases (show u = Value.ref a from rx)
    obtain ⟨_, _, vs, _, o, es, ep, h1, h2, _⟩ := (show ObjOk X.prog X.w H s.heap a (.dK []) from I.hok a _ hq)
    exact PySem.W.kia_one PySem.W.kitx_dict I.kIn ⟨o, h1, h2.1⟩ (by rcases hn with rfl | rfl | rfl | rfl | rfl <;> rfl) (fun z => nomatch z) fin
  | @tup a xs ds hq _ =>
    cases (show u = Value.ref a from rx)
    obtain ⟨its, _, ⟨o, h1, h2, _⟩, _⟩ := I.tuple hq
    exact PySem.W.kia_one PySem.W.kitx_tuple I.kIn ⟨o, h1, h2⟩ (by rcases hn with rfl | rfl | rfl | rfl | rfl <;> rfl) (fun z => nomatch z) fin
def rdIsi : RAd := fun es μ Q => match es with
  | [.d x, .ty n] => n ∈ tys ∧ Q (.d (.bool (isTy n x))) μ
  | [.m a, .ty n] => n ∈ tys ∧ ∃ ds, (a, .lst ds) ∈ μ ∧ Q (.d (.bool (n == "list"))) μ
  | _ => False
theorem dc_isi (hK : X.K = K := by rfl) : CallR X (.builtin "isinstance") (upC K rdIsi) := by
  subst hK
  refine call_isD.mono fun xs H Q h => ?_
  obtain ⟨μ, es, Q0, M, hp, q, cl⟩ := h
  unfold rdIsi at q
  split at q
  · obtain ⟨v, v', rfl, i1, i2⟩ := pair2 hp
    have i2 : v' = _ := i2
    subst i2
    exact ⟨_, _, _, rfl, Is.same mask_le i1, q.1, cl _ μ _ H q.2 M (Same.refl _) (.bl _)⟩
  · obtain ⟨v, v', rfl, i1, i2⟩ := pair2 hp
    have i2 : v' = _ := i2
    subst i2
    obtain ⟨hn, ds, hm, q⟩ := q
    have hi := (DatOf.m hm).is M i1
    exact ⟨_, _, _, rfl, hi, hn, cl _ μ _ H q M (Same.refl _) (.bl _)⟩
  · exact q.elim
abbrev TGd := En → Rho → Mu → (Rho → Mu → Prop) → Prop
abbrev TGsd := List PyData → Rho → Mu → (Rho → Mu → Prop) → Prop
def upG (K : PySem.W.Frag) (t : TGd) : TG := fun v σ H Q => ∃ e ρ μ Q0, IsE K μ H v e ∧ RelS K ρ μ σ H ∧ RelM K μ H ∧ t e ρ μ Q0 ∧ ClR K μ H Q0 Q
def upGs (K : PySem.W.Frag) (t : TGsd) : TGs := fun vs σ H Q => ∃ ds ρ μ Q0, IsAll K (mask μ H) vs ds ∧ RelS K ρ μ σ H ∧ RelM K μ H ∧ t ds ρ μ Q0 ∧ ClR K μ H Q0 Q
def DG (K : PySem.W.Frag) (X : Cx) (tg : Expr) (t : TGd) : Prop := PG X tg (upG K t)
def DGs (K : PySem.W.Frag) (X : Cx) (tg : List Expr) (t : TGsd) : Prop := PGs X tg (upGs K t)
theorem PG.mono {tg : Expr} {t t' : TG} (h : PG X tg t) (f : ∀ v σ H Q, t' v σ H Q → t v σ H Q) : PG X tg t' := fun pins s σ H v u Q I r q => h pins s σ H v u Q I r (f _ _ _ _ q)
theorem PGs.mono {tg : List Expr} {t t' : TGs} (h : PGs X tg t) (f : ∀ v σ H Q, t' v σ H Q → t v σ H Q) : PGs X tg t' := fun pins s σ H v u Q I r q => h pins s σ H v u Q I r (f _ _ _ _ q)
def dgName (i : Nat) : TGd := fun e ρ μ Q => Q (ρ.set i (some e)) μ
theorem dg_name {i : Nat} {x : Str} (hN : X.N.Nodup) (hi : X.N[i]? = some x) (hx : Loc X.env.scope x) (hf : X.fn x = true ∨ X.env.scope.names.lookup x = some .local := by first | exact .inl rfl | exact .inr rfl | assumption) : DG K X (.Name x pos) (dgName i) :=
  PG.mono (pg_name hN hi hx hf) fun v σ H Q ⟨e, ρ, μ, Q0, i1, hS, hM, h, cl⟩ => cl _ μ _ H h (hS.set i1) hM (Same.refl _)
def dgNil : TGsd := fun ds ρ μ Q => match ds with
  | [] => Q ρ μ
  | _ => False
def dgCons (t : TGd) (u : TGsd) : TGsd := fun ds ρ μ Q => match ds with
  | x :: r => t (.d x) ρ μ fun ρ' μ' => u r ρ' μ' Q
  | [] => False
theorem dgs_nil : DGs K X [] dgNil := PGs.mono pgs_nil fun vs σ H Q ⟨ds, ρ, μ, Q0, i1, hS, hM, h, cl⟩ => by
  unfold dgNil at h
  split at h
  · cases i1; exact ⟨rfl, cl _ μ _ H h hS hM (Same.refl _)⟩
  · exact h.elim
theorem dgs_cons {e : Expr} {es : List Expr} {t : TGd} {u : TGsd} (h1 : DG K X e t) (h2 : DGs K X es u)
    (hs : (assignEach (e :: es) X.env).map (·.2) = assign e X.env :: (assignEach es X.env).map (·.2) := by rfl) : DGs K X (e :: es) (dgCons t u) := PGs.mono (pgs_cons h1 h2 hs) fun vs σ H Q ⟨ds, ρ, μ, Q0, i1, hS, hM, h, cl⟩ => by
  unfold dgCons at h
  split at h
  · cases i1 with
    | cons i1 i2 =>
      refine ⟨_, _, rfl, .d _, ρ, μ, _, i1, hS, hM, h, fun ρ' μ' σ' H' q S' M' s' => ?_⟩
      exact ⟨_, ρ', μ', Q0, IsAll.same s' i2, S', M', q, cl.same s'⟩
  · exact h.elim
def dgTup (n : Nat) (t : TGsd) : TGd := fun e ρ μ Q => match e with
  | .d (.tuple ds) => ds.length = n ∧ t ds ρ μ Q
  | _ => False
theorem dg_tup {es : List Expr} {k : Nat} {t : TGsd} {n : Nat} (hc : X.calm = true) (h : DGs K X es t) (hK : X.K = K := by rfl)
    (hn : (assignEach es X.env).length = n := by rfl) (hst : (assignEach es X.env).findIdx? (·.1) = none := by rfl) : DG K X (.Tuple es k pos) (dgTup n t) := by
  subst hK
  refine PG.mono (pg_tup hc h hn hst) fun v σ H Q ⟨e, ρ, μ, Q0, i1, hS, hM, h, cl⟩ => ?_
  unfold dgTup at h
  split at h
  · obtain ⟨p, xs, rfl, hq, hA⟩ := (SeqOf.t _).get hM i1
    cases i1 with
    | tup h1 h2 =>
      refine ⟨_, _, rfl, ?_, by rw [h2.len]; exact h.1, _, ρ, μ, Q0, h2, hS, hM, h.2, cl⟩
      rcases h1 with (e | ⟨o, e⟩) | e
      · exact .inl (.inl (mask_le _ _ e))
      · exact .inl (.inr ⟨o, mask_le _ _ e⟩)
      · exact .inr e
  · exact h.elim
variable {st : Stmt} {rest : List Stmt} {t u : TSd} {e : Expr} {te : TEd}
def dNext : TSd := fun D ρ μ => D.nx ρ μ
def dSeq (t u : TSd) : TSd := fun D ρ μ => t { D with nx := u D } ρ μ
theorem ds_nil : DSs K X [] dNext := PSs.mono pss_nil fun D σ H ⟨ρ, μ, D0, hS, hM, h, cl⟩ => cl.nx _ μ _ H h hS hM (Same.refl _)
theorem ds_cons (h1 : DS K X st t) (h2 : DSs K X rest u) : DSs K X (st :: rest) (dSeq t u) := PSs.mono (pss_cons h1 h2) fun D σ H ⟨ρ, μ, D0, hS, hM, h, cl⟩ =>
  ⟨ρ, μ, _, hS, hM, h, ⟨fun ρ' μ' σ' H' q S' M' s' => ⟨ρ', μ', D0, S', M', q, cl.same s'⟩, cl.rt, cl.bk, cl.ct⟩⟩
theorem ds_one (h1 : DS K X st t) : DSs K X [st] t := pss_one h1
def dRet (te : TEd) : TSd := fun D ρ μ => te ρ μ D.rt
theorem ds_ret (he : DE K X e te) : DS K X (.Return (some e) pos) (dRet te) := PS.mono (ps_ret he) fun D σ H ⟨ρ, μ, D0, hS, hM, h, cl⟩ => ⟨ρ, μ, _, hS, hM, h, cl.rt⟩
def FzR (μ : Mu) (e : En) (μ' : Mu) (e' : En) : Prop := ∀ (K : PySem.W.Frag) (v : V) (H : Hp), RelM K μ H → IsE K μ H v e → RelM K μ' H ∧ IsE K μ' H v e' ∧ Same (mask μ H) (mask μ' H)
theorem FzR.refl {μ : Mu} {e : En} : FzR μ e μ e := fun _ _ _ h i => ⟨h, i, Same.refl _⟩
theorem FzR.trans {μ μ1 μ2 : Mu} {e e1 e2 : En} (h : FzR μ e μ1 e1) (h' : FzR μ1 e1 μ2 e2) : FzR μ e μ2 e2 := fun K v H a b => by
  obtain ⟨a1, b1, s1⟩ := h K v H a b
  obtain ⟨a2, b2, s2⟩ := h' K v H a1 b1
  exact ⟨a2, b2, s1.trans s2⟩
theorem FzR.list {μ1 μ2 : Mu} {p : Addr} {ds : List PyData} : FzR (μ1 ++ (p, .lst ds) :: μ2) (.m p) (μ1 ++ μ2) (.d (.list ds)) := fun K v H h i => by
  obtain ⟨M', s, hn⟩ := h.drop
  obtain ⟨xs, e, hs⟩ := h.ob p (.lst ds) (by simp)
  have i : v = _ := i
  subst i
  exact ⟨M', .lst (SqL.of (by rw [mask_of hn]; exact e)) (IsAll.same s hs), s⟩
theorem FzR.drop {μ1 μ2 : Mu} {p : Addr} {o : MO} {e : En} : FzR (μ1 ++ (p, o) :: μ2) e (μ1 ++ μ2) e := fun K v H h i => by
  obtain ⟨M', s, hn⟩ := h.drop
  exact ⟨M', i.same s, s⟩
def dRetF (te : TEd) : TSd := fun D ρ μ => te ρ μ fun e μ1 => ∃ μ2 e2, FzR μ1 e μ2 e2 ∧ D.rt e2 μ2
theorem ds_retF (he : DE K X e te) : DS K X (.Return (some e) pos) (dRetF te) := PS.mono (ps_ret he) fun D σ H ⟨ρ, μ, D0, hS, hM, h, cl⟩ => ⟨ρ, μ, _, hS, hM, h, fun e' μ1 v H1 q M1 s1 i1 => by
  obtain ⟨μ2, e2, f, q⟩ := q
  obtain ⟨M2, i2, s2⟩ := f K v H1 M1 i1
  exact cl.rt _ μ2 _ H1 q M2 (s1.trans s2) i2⟩
def dIfS (c : TTd) (t u : TSd) : TSd := fun D ρ μ => c ρ μ fun b μ1 => if b = true then t D ρ μ1 else u D ρ μ1
theorem ds_if {c : Expr} {a b : List Stmt} {tc : TTd} (hc : DT K X c tc) (ha : DSs K X a t) (hb : DSs K X b u) : DS K X (.If c a b pos) (dIfS tc t u) := PS.mono (ps_if hc ha hb) fun D σ H ⟨ρ, μ, D0, hS, hM, h, cl⟩ =>
  ⟨ρ, μ, _, hS, hM, h, fun k μ1 H1 q M1 s1 => by
    cases k with
    | true => exact iteT ⟨ρ, μ1, D0, hS.same s1, M1, by simpa using q, cl.same s1⟩
    | false => exact iteF ⟨ρ, μ1, D0, hS.same s1, M1, by simpa using q, cl.same s1⟩⟩
def dAsg (te : TEd) (g : TGd) : TSd := fun D ρ μ => te ρ μ fun e μ1 => g e ρ μ1 D.nx
theorem ds_set {i : Nat} {x : Str} {pos' : Pos} (hN : X.N.Nodup) (hi : X.N[i]? = some x) (hx : Loc X.env.scope x) (he : DE K X e te) (hs : swapsWith e (some (.Name x pos')) pos.line X.env = pure false := by rfl) (hf : X.fn x = true ∨ X.env.scope.names.lookup x = some .local := by first | exact .inl rfl | exact .inr rfl | assumption) :
    DS K X (.Assign [.Name x pos'] e pos) (dAsg te (dgName i)) := PS.mono (ps_set hN hi hx he hs hf) fun D σ H ⟨ρ, μ, D0, hS, hM, h, cl⟩ =>
  ⟨ρ, μ, _, hS, hM, h, fun e' μ1 v H1 q M1 s1 i1 => cl.nx _ μ1 _ H1 q ((hS.same s1).set i1) M1 s1⟩
theorem ds_asg {tg : Expr} {g : TGd} (he : DE K X e te) (hg : DG K X tg g) (hs : swapsWithSole [tg] e pos.line X.env = pure false := by rfl) (hw : swappedStores [tg] e X.env = pure none := by rfl)
    (h1 : (assignEach [tg] X.env).map (·.2) = [assign tg X.env] := by rfl) : DS K X (.Assign [tg] e pos) (dAsg te g) := PS.mono (ps_asg he hg hs hw h1) fun D σ H ⟨ρ, μ, D0, hS, hM, h, cl⟩ =>
  ⟨ρ, μ, _, hS, hM, h, fun e' μ1 v H1 q M1 s1 i1 => ⟨e', ρ, μ1, D0.nx, i1, hS.same s1, M1, q, cl.nx.same s1⟩⟩
def dPar (i j : Nat) (ta : TAd) : TSd := fun D ρ μ => ta ρ μ fun es μ1 => match es with
  | [e, e'] => D.nx ((ρ.set i (some e)).set j (some e')) μ1
  | _ => False
theorem ds_par {i j : Nat} {x y : Str} {a b : Expr} {ta : TAd} {px py pt : Pos} {kt k2 pt2} (hc : X.calm = true) (hN : X.N.Nodup) (hi : X.N[i]? = some x) (hj : X.N[j]? = some y) (hij : i ≠ j)
    (hx : X.env.scope.names.lookup x = some .local) (hy : X.env.scope.names.lookup y = some .local) (ha : DA K X [a, b] ta)
    (hw : swappedStores [.Tuple [.Name x px, .Name y py] kt pt] (.Tuple [a, b] k2 pt2) X.env = pure (some [x, y]))
    (hs : swapsWithSole [.Tuple [.Name x px, .Name y py] kt pt] (.Tuple [a, b] k2 pt2) pos.line X.env = pure false := by rfl) :
    DS K X (.Assign [.Tuple [.Name x px, .Name y py] kt pt] (.Tuple [a, b] k2 pt2) pos) (dPar i j ta) := PS.mono (ps_par hc hN hi hj hij hx hy ha hw hs) fun D σ H ⟨ρ, μ, D0, hS, hM, h, cl⟩ =>
  ⟨ρ, μ, _, hS, hM, h, fun es μ1 vs H1 q M1 s1 i1 => by
    split at q
    · obtain ⟨v, v', rfl, h1, h2⟩ := pair2 i1
      exact ⟨_, _, rfl, cl.nx _ μ1 _ H1 q (((hS.same s1).set h1).set h2) M1 s1⟩
    · exact q.elim⟩
structure Itd where
  n : Nat
  item : Nat → En
  ok : Mu → Prop
abbrev TId := Rho → Mu → (Itd → Mu → Prop) → Prop
def Sim (K : PySem.W.Frag) (J0 : Itd) (μ1 : Mu) (H1 : Hp) (J : It) : Prop := ∀ μ' H', RelM K μ' H' → Same (mask μ1 H1) (mask μ' H') → J0.ok μ' → ∀ i,
  (i < J0.n → J.go i H' ∧ ∀ x H2, J.yld i H' x H2 → RelM K μ' H2 ∧ Same (mask μ' H') (mask μ' H2) ∧ IsE K μ' H2 x (J0.item i)) ∧ (J0.n ≤ i → J.stop i H')
def upI (K : PySem.W.Frag) (t : TId) : TI := fun σ H R => ∃ ρ μ Q0, RelS K ρ μ σ H ∧ RelM K μ H ∧ t ρ μ Q0 ∧ ∀ J0 μ1 J H1, Q0 J0 μ1 → RelM K μ1 H1 → Same (mask μ H) (mask μ1 H1) → Sim K J0 μ1 H1 J → R J H1
def DI (K : PySem.W.Frag) (X : Cx) (tg iter : Expr) (t : TId) : Prop := PI X tg iter (upI K t)
variable {tg iter : Expr}
theorem PI.mono {wi wi' : TI} (h : PI X tg iter wi) (f : ∀ σ H R, wi' σ H R → wi σ H R) : PI X tg iter wi' := fun pins s σ H R I q => h pins s σ H R I (f _ _ _ q)
def itL (e : En) (ds : List PyData) : Itd := ⟨ds.length, fun i => .d (ds.getD i .none), fun μ => LstOf μ e ds⟩
def itT (ds : List PyData) : Itd := ⟨ds.length, fun i => .d (ds.getD i .none), fun _ => True⟩
def itR (lo : Int) (n : Nat) : Itd := ⟨n, fun i => .d (.int (lo + i)), fun _ => True⟩
def diL (te : TEd) : TId := fun ρ μ Q => te ρ μ fun e μ1 => ∃ ds, LstOf μ1 e ds ∧ Q (itL e ds) μ1
def diT (te : TEd) : TId := fun ρ μ Q => te ρ μ fun e μ1 => match e with
  | .d (.tuple ds) => Q (itT ds) μ1
  | _ => False
def diR1 (ta : TAd) : TId := fun ρ μ Q => ta ρ μ fun es μ1 => match es with
  | [.d (.int j)] => -(2 ^ 62) ≤ j ∧ j < 2 ^ 62 ∧ Q (itR 0 j.toNat) μ1
  | _ => False
theorem getD_get {ds : List PyData} {i : Nat} {x : PyData} (h : ds[i]? = some x) : ds.getD i .none = x := by rw [List.getD_eq_getElem?_getD, h]; rfl
theorem di_list {l : Expr} (hl : DE K X l te) (hK : X.K = K := by rfl) : DI K X tg l (diL te) := by
  subst hK
  refine PI.mono (pi_list hl) fun σ H R ⟨ρ, μ, Q0, hS, hM, h, cl⟩ => ⟨ρ, μ, _, hS, hM, h, fun e μ1 v H1 q M1 s1 i1 => ?_⟩
  obtain ⟨ds, hL, q⟩ := q
  obtain ⟨p, xs, rfl, h1, h2⟩ := hL.get M1 i1
  refine ⟨p, rfl, ⟨xs, h1⟩, cl _ μ1 _ H1 q M1 s1 fun μ' H' M' s' hok i => ?_⟩
  obtain ⟨p', xs', e', h3, h4⟩ := LstOf.get hok M' (i1.same s')
  cases e'
  have hl := h4.len
  refine ⟨fun hi => ⟨⟨xs', xs'[i]'(by rw [hl]; exact hi), h3, by simp⟩, ?_⟩, fun hi => ⟨xs', h3, by rw [hl]; exact hi⟩⟩
  rintro x H2 ⟨rfl, hx⟩
  refine ⟨M', Same.refl _, ?_⟩
  obtain ⟨d, e1, e2⟩ := h4.get (hx xs' h3)
  show Is X.K (mask μ' H2) x (ds.getD i .none)
  rw [getD_get e1]
  exact e2
theorem SqT.up {μ : Mu} {H : Hp} {p : Addr} {xs : List V} (h : SqT K (mask μ H) p xs) : SqT K H p xs := by
  rcases h with (e | ⟨o, e⟩) | e
  · exact .inl (.inl (mask_le _ _ e))
  · exact .inl (.inr ⟨o, mask_le _ _ e⟩)
  · exact .inr e
theorem SqT.same {H H' : Hp} {p : Addr} {xs : List V} (s : Same H H') (h : SqT K H p xs) : SqT K H' p xs := by
  rcases h with (e | ⟨o, e⟩) | e
  · exact .inl (.inl (s _ _ e))
  · exact .inl (.inr ⟨o, s _ _ e⟩)
  · exact .inr e
theorem di_tup {l : Expr} (hl : DE K X l te) (hK : X.K = K := by rfl) : DI K X tg l (diT te) := by
  subst hK
  refine PI.mono (pi_tup hl) fun σ H R ⟨ρ, μ, Q0, hS, hM, h, cl⟩ => ⟨ρ, μ, _, hS, hM, h, fun e μ1 v H1 q M1 s1 i1 => ?_⟩
  split at q
  · rename_i ds
    cases i1 with
    | @tup p xs _ h1 h2 =>
      refine ⟨p, rfl, ⟨xs, h1.up⟩, cl _ μ1 _ H1 q M1 s1 fun μ' H' M' s' hok i => ?_⟩
      have h3 := (SqT.same s' h1).up
      have h4 := IsAll.same s' h2
      have hl := h4.len
      refine ⟨fun hi => ⟨⟨xs, xs[i]'(by rw [hl]; exact hi), h3, by simp⟩, ?_⟩, fun hi => ⟨xs, h3, by rw [hl]; exact hi⟩⟩
      rintro x H2 ⟨rfl, hx⟩
      refine ⟨M', Same.refl _, ?_⟩
      obtain ⟨d, e1, e2⟩ := h4.get (hx xs h3)
      show Is X.K (mask μ' H2) x (ds.getD i .none)
      rw [getD_get e1]
      exact e2
  · exact q.elim
theorem sim_range {lo : Int} {n : Nat} {μ1 : Mu} {H1 : Hp} : Sim K (itR lo n) μ1 H1 (Itr lo n) := fun μ' H' M' s' _ i =>
  ⟨fun hi => ⟨hi, fun x H2 ⟨e, y⟩ => by subst e y; exact ⟨M', Same.refl _, .int _⟩⟩, fun hi => hi⟩
theorem di_range1 {a : Expr} {ta : TAd} {p : Pos} (hg : Gl X "range") (hm : X.mg "range" = none) (ha : DA K X [a] ta) (hs : starEach [a] X.env = [(false, eval a X.env)] := by rfl) : DI K X tg (.Call (.Name "range" p) [a] [] pos) (diR1 ta) :=
  PI.mono (pi_range1 hg hm ha hs) fun σ H R ⟨ρ, μ, Q0, hS, hM, h, cl⟩ => ⟨ρ, μ, _, hS, hM, h, fun es μ1 vs H1 q M1 s1 i1 => by
    split at q
    · obtain ⟨v, rfl, h1⟩ := pair1 i1
      cases h1
      exact ⟨_, rfl, q.1, q.2.1, cl _ μ1 _ H1 q.2.2 M1 s1 sim_range⟩
    · exact q.elim⟩
def Wks (P : Rho → Mu → Prop) : Rho → Mu → Prop := fun ρ μ => ∃ ρ' μ', Wk ρ μ ρ' μ' ∧ P ρ' μ'
theorem Wks.of {P : Rho → Mu → Prop} {ρ : Rho} {μ : Mu} (h : P ρ μ) : Wks P ρ μ := ⟨ρ, μ, Wk.refl, h⟩
def dFor (ti : TId) (g : TGd) (tb : TSd) : TSd := fun D ρ μ => ti ρ μ fun J μ1 => ∃ Pv : Nat → Rho → Mu → Prop, Pv 0 ρ μ1 ∧ (∀ i ρ' μ', i ≤ J.n → Pv i ρ' μ' → J.ok μ') ∧
  (∀ i ρ' μ', i < J.n → Pv i ρ' μ' → g (J.item i) ρ' μ' fun ρ2 μ2 => tb { D with nx := Wks (Pv (i + 1)), ct := Wks (Pv (i + 1)), bk := D.nx } ρ2 μ2) ∧ ∀ ρ' μ', Pv J.n ρ' μ' → D.nx ρ' μ'
theorem ds_for {body : List Stmt} {ti : TId} {g : TGd} {tb : TSd} (hp : PassesOwn (model X.prog X.w) X.A X.env X.xe) (hc : X.calm = true) (hi : DI K X tg iter ti) (hg : DG K X tg g) (hb : DSs K X body tb)
    (hs : ∀ x, foldedSetIterable iter X.env x = pure x := by intro _; rfl) : DS K X (.For tg iter body [] pos) (dFor ti g tb) := by
  refine PS.mono (ps_for hp hc hi hg hb hs) fun D σ H ⟨ρ, μ, D0, hS, hM, h, cl⟩ => ⟨ρ, μ, _, hS, hM, h, fun J0 μ1 J H1 q M1 s1 sim => ?_⟩
  obtain ⟨Pv, h0, hok, hstep, hend⟩ := q
  refine ⟨fun i m σ' H' => m = J0.n - i ∧ i ≤ J0.n ∧ ∃ ρ' μ', RelS K ρ' μ' σ' H' ∧ RelM K μ' H' ∧ Same (mask μ1 H1) (mask μ' H') ∧ Pv i ρ' μ', ⟨_, rfl, Nat.zero_le _, ρ, μ1, hS.same s1, M1, Same.refl _, h0⟩, ?_⟩
  rintro i m σ' H' ⟨rfl, hi, ρ', μ', S', M', s', p⟩
  have sm := sim μ' H' M' s' (hok i ρ' μ' hi p) i
  by_cases hlt : i < J0.n
  · obtain ⟨hgo, hy⟩ := sm.1 hlt
    refine .inr ⟨hgo, fun σ2 H2 => ∃ ρ' μ', RelS K ρ' μ' σ2 H2 ∧ RelM K μ' H2 ∧ Same (mask μ1 H1) (mask μ' H2) ∧ Pv (i + 1) ρ' μ', fun σ2 H2 z => ⟨J0.n - (i + 1), by omega, rfl, hlt, z⟩, fun x H2 y => ?_⟩
    obtain ⟨M2, s2, i2⟩ := hy x H2 y
    refine ⟨_, ρ', μ', _, i2, S'.same s2, M2, hstep i ρ' μ' hlt p, fun ρ3 μ3 σ3 H3 q3 S3 M3 s3 => ⟨ρ3, μ3, _, S3, M3, q3, ?_⟩⟩
    have st := (s'.trans s2).trans s3
    have again : ∀ {ρ4 μ4 σ4 H4}, Wks (Pv (i + 1)) ρ4 μ4 → RelS K ρ4 μ4 σ4 H4 → RelM K μ4 H4 → Same (mask μ3 H3) (mask μ4 H4) → ∃ ρ' μ', RelS K ρ' μ' σ4 H4 ∧ RelM K μ' H4 ∧ Same (mask μ1 H1) (mask μ' H4) ∧ Pv (i + 1) ρ' μ' := by
      rintro ρ4 μ4 σ4 H4 ⟨ρ5, μ5, wk, p5⟩ S4 M4 s4
      obtain ⟨S5, M5, s5⟩ := wk K σ4 H4 S4 M4
      exact ⟨ρ5, μ5, S5, M5, (st.trans s4).trans s5, p5⟩
    exact ⟨fun _ _ _ _ a b c d => again a b c d, cl.rt.same (s1.trans st), cl.nx.same (s1.trans st), fun _ _ _ _ a b c d => again a b c d⟩
  · have e : i = J0.n := by omega
    subst e
    exact .inl ⟨sm.2 (Nat.le_refl _), cl.nx _ μ' _ H' (hend ρ' μ' p) S' M' (s1.trans s')⟩
def dWhile (c : TTd) (tb : TSd) : TSd := fun D ρ μ => ∃ Pv : Nat → Rho → Mu → Prop, (∃ m, Pv m ρ μ) ∧ ∀ m ρ' μ', Pv m ρ' μ' → c ρ' μ' fun b μ1 => if b = true then
  tb { D with nx := fun ρ2 μ2 => ∃ m', m' < m ∧ Wks (Pv m') ρ2 μ2, ct := fun ρ2 μ2 => ∃ m', m' < m ∧ Wks (Pv m') ρ2 μ2, bk := D.nx } ρ' μ1 else D.nx ρ' μ1
theorem ds_while {c : Expr} {body : List Stmt} {tc : TTd} {tb : TSd} (hp : PassesOwn (model X.prog X.w) X.A X.env X.xe) (hc : DT K X c tc) (hb : DSs K X body tb) : DS K X (.While c body [] pos) (dWhile tc tb) := by
  refine PS.mono (ps_while hp hc hb) fun D σ H ⟨ρ, μ, D0, hS, hM, h, cl⟩ => ?_
  obtain ⟨Pv, ⟨m0, h0⟩, hstep⟩ := h
  refine ⟨fun m σ' H' => ∃ ρ' μ', RelS K ρ' μ' σ' H' ∧ RelM K μ' H' ∧ Same (mask μ H) (mask μ' H') ∧ Pv m ρ' μ', ⟨m0, ρ, μ, hS, hM, Same.refl _, h0⟩, ?_⟩
  rintro m σ' H' ⟨ρ', μ', S', M', s', p⟩
  refine ⟨ρ', μ', _, S', M', hstep m ρ' μ' p, fun k μ1 H1 q M1 s1 => ?_⟩
  cases k with
  | true =>
    refine iteT ⟨fun σ2 H2 => ∃ m', m' < m ∧ ∃ ρ' μ', RelS K ρ' μ' σ2 H2 ∧ RelM K μ' H2 ∧ Same (mask μ H) (mask μ' H2) ∧ Pv m' ρ' μ', fun σ2 H2 z => z, ρ', μ1, _, S'.same s1, M1, by simpa using q, ?_⟩
    have st := s'.trans s1
    have again : ∀ {ρ4 μ4 σ4 H4}, (∃ m', m' < m ∧ Wks (Pv m') ρ4 μ4) → RelS K ρ4 μ4 σ4 H4 → RelM K μ4 H4 → Same (mask μ1 H1) (mask μ4 H4) → ∃ m', m' < m ∧ ∃ ρ' μ', RelS K ρ' μ' σ4 H4 ∧ RelM K μ' H4 ∧ Same (mask μ H) (mask μ' H4) ∧ Pv m' ρ' μ' := by
      rintro ρ4 μ4 σ4 H4 ⟨m', hm, ρ5, μ5, wk, p5⟩ S4 M4 s4
      obtain ⟨S5, M5, s5⟩ := wk K σ4 H4 S4 M4
      exact ⟨m', hm, ρ5, μ5, S5, M5, (st.trans s4).trans s5, p5⟩
    exact ⟨fun _ _ _ _ a b c d => again a b c d, cl.rt.same st, cl.nx.same st, fun _ _ _ _ a b c d => again a b c d⟩
  | false => exact iteF (cl.nx _ μ1 _ H1 (by simpa using q) (S'.same s1) M1 (s'.trans s1))
def dYes : TTd := fun _ μ Q => Q true μ
def DIfs (K : PySem.W.Frag) (X : Cx) (ifs : List Expr) (t : TTd) : Prop := Ifs X ifs (upT K t)
theorem dfs_nil : DIfs K X [] dYes := fun pins s σ H Q I ⟨ρ, μ, Q0, hS, hM, h, cl⟩ => ifs_nil pins s σ H Q I (cl true μ H h hM (Same.refl _))
def Fin1 (Q : En → Mu → Prop) (ys : List PyData) (μ : Mu) : Prop := Q (.d (.list ys)) μ
def dComp (k : Nat) (ti : TId) (g : TGd) (tt : TTd) (te : TEd) : TEd := fun ρ μ Q => ti ρ μ fun J μ1 => J.n ≤ 1000 ∧ ∃ Pv : Nat → List PyData → Rho → Mu → Prop, Pv 0 [] (ρ ++ List.replicate k none) μ1 ∧ (∀ i ys ρ' μ', i ≤ J.n → Pv i ys ρ' μ' → J.ok μ') ∧
  (∀ i ys ρ' μ', i < J.n → Pv i ys ρ' μ' → g (J.item i) ρ' μ' fun ρ2 μ2 => tt ρ2 μ2 fun b μ3 => if b = true then te ρ2 μ3 fun y μ4 => ∃ z, y = .d z ∧ Pv (i + 1) (ys ++ [z]) ρ2 μ4 else Pv (i + 1) ys ρ2 μ3) ∧
  ∀ ys ρ' μ', Pv J.n ys ρ' μ' → Fin1 Q ys μ'
theorem up_comp {k : Nat} {ti : TId} {g : TGd} {tt : TTd} {te : TEd} {σ : St} {H : Hp} {Q : VK} (h : up K (dComp k ti g tt te) σ H Q) : tComp k (upI K ti) (upG K g) (upT K tt) (up K te) σ H Q := by
  obtain ⟨ρ, μ, Q0, hS, hM, h, cl⟩ := h
  refine ⟨ρ, μ, _, hS, hM, h, fun J0 μ1 J H1 q M1 s1 sim => ?_⟩
  obtain ⟨hn, Pv, h0, hok, hstep, hend⟩ := q
  have S0 : RelS K (ρ ++ List.replicate k none) μ1 (σ ++ List.replicate k none) H1 := by
    have S1 := hS.same s1
    refine ⟨by simp [S1.len], fun i e he => ?_⟩
    by_cases hi : i < ρ.length
    · rw [List.getElem?_append_left hi] at he
      rw [List.getElem?_append_left (by rw [← S1.len]; exact hi)]
      exact S1.get i e he
    · rw [List.getElem?_append_right (by omega), List.getElem?_replicate] at he
      split at he <;> cases he
  refine ⟨fun i m ys σ' H' => m = J0.n - i ∧ i ≤ J0.n ∧ ys.length ≤ i ∧ ∃ ds ρ' μ', RelS K ρ' μ' σ' H' ∧ RelM K μ' H' ∧ Same (mask μ1 H1) (mask μ' H') ∧ IsAll K (mask μ' H') ys ds ∧ Pv i ds ρ' μ', ⟨_, rfl, Nat.zero_le _, Nat.le_refl _, [], _, μ1, S0, M1, Same.refl _, .nil, h0⟩, ?_⟩
  rintro i m ys σ' H' ⟨rfl, hi, hy, ds, ρ', μ', S', M', s', hA, p⟩
  have sm := sim μ' H' M' s' (hok i ds ρ' μ' hi p) i
  by_cases hlt : i < J0.n
  · obtain ⟨hgo, hyl⟩ := sm.1 hlt
    refine .inr ⟨hgo, small1000 (by omega), fun ys2 σ2 H2 => ys2.length ≤ i + 1 ∧ ∃ ds ρ' μ', RelS K ρ' μ' σ2 H2 ∧ RelM K μ' H2 ∧ Same (mask μ1 H1) (mask μ' H2) ∧ IsAll K (mask μ' H2) ys2 ds ∧ Pv (i + 1) ds ρ' μ', fun ys2 σ2 H2 z => ⟨J0.n - (i + 1), by omega, rfl, hlt, z⟩, fun x H2 y => ?_⟩
    obtain ⟨M2, s2, i2⟩ := hyl x H2 y
    refine ⟨_, ρ', μ', _, i2, S'.same s2, M2, hstep i ds ρ' μ' hlt p, fun ρ3 μ3 σ3 H3 q3 S3 M3 s3 => ⟨ρ3, μ3, _, S3, M3, q3, fun b μ4 H4 q4 M4 s4 => ?_⟩⟩
    have st := ((s'.trans s2).trans s3).trans s4
    cases b with
    | true =>
      refine iteT ⟨ρ3, μ4, _, S3.same s4, M4, (by simpa using q4), fun e μ5 v H5 q5 M5 s5 i5 => ?_⟩
      obtain ⟨z, rfl, q5⟩ := q5
      exact ⟨by simp; omega, _, ρ3, μ5, (S3.same s4).same s5, M5, st.trans s5, IsAll.snoc i5 (IsAll.same (((s2.trans s3).trans s4).trans s5) hA), q5⟩
    | false => exact iteF ⟨by omega, _, ρ3, μ4, S3.same s4, M4, st, IsAll.same ((s2.trans s3).trans s4) hA, by simpa using q4⟩
  · have e : i = J0.n := by omega
    subst e
    refine .inl ⟨sm.2 (Nat.le_refl _), fun D hD => ?_⟩
    obtain ⟨M4, s4, hn⟩ := M'.laid (o := .lst ys) hD
    exact cl _ μ' _ _ (hend ds ρ' μ' p) M4 ((s1.trans s').trans s4) (.lst (SqL.of (by rw [mask_of hn]; exact upd_same)) (IsAll.same s4 hA))
theorem d_comp {L : List Str} {scope sc : Scope} {N : List Str} {elt : Expr} {ifs : List Expr} {ti : TId} {g : TGd} {tt : TTd} {te : TEd}
    (hc : X.calm = true) (hsc : X.env.scope = sc) (hN : X.N = N) (ok : compOk sc N L scope = true)
    (hi : DI K X tg iter ti) (hg : ∀ cl C s₂ H₂ fp, DG K (compCx X L scope cl C s₂ H₂ fp) tg g) (hf : ∀ cl C s₂ H₂ fp, DIfs K (compCx X L scope cl C s₂ H₂ fp) ifs tt) (he : ∀ cl C s₂ H₂ fp, DE K (compCx X L scope cl C s₂ H₂ fp) elt te)
    (hs : ∀ x, foldedSetIterable iter X.env x = pure x := by intro _; rfl) :
    DE K X (.ListComp elt [⟨tg, iter, ifs, 0⟩] scope pos) (dComp L.length ti g tt te) := PE.mono (pe_comp hc hsc hN ok hi hg hf he hs) fun _ _ _ => up_comp
end
section
variable {P : Program} {w : World} {K : PySem.W.Frag} {mg : Str → Option Value} {base : Heap} {CX : CXT}
theorem Paired.mapSome {K : PySem.W.Frag} {μ : Mu} {H : Hp} {vs : List V} {es : List En} (h : Paired (IsE K μ H) vs es) (n m : Nat) (hn : n - vs.length = m - es.length) : RelS K (es.map some ++ List.replicate (m - es.length) none) μ (vs.map some ++ List.replicate (n - vs.length) none) H := by
  have hl : vs.length = es.length := PySem.Paired.length h
  refine ⟨by simp [hl] at *; omega, fun i e he => ?_⟩
  by_cases hi : i < es.length
  · rw [List.getElem?_append_left (by simpa using hi), List.getElem?_map] at he
    rw [List.getElem?_append_left (by simp; omega), List.getElem?_map]
    cases q : es[i]? with
    | none => rw [q] at he; cases he
    | some e' =>
      rw [q] at he
      cases he
      obtain ⟨v, e1, e2⟩ := L2.Paired.get' h q
      exact ⟨v, by rw [e1]; rfl, e2⟩
  · rw [List.getElem?_append_right (by simp; omega), List.getElem?_replicate] at he
    split at he <;> cases he
theorem Fun.okD {x qual : Str} {st : Stmt} {f : Addr} {fd : FuncData} {N ps : List Str} {k : Nat} {sp : SpD} (F : Fun K x qual st f fd) (S : FnScope N ps (defScope st)) (len : ∀ es μ Q, sp es μ Q → es.length = ps.length)
    (hbody : ∀ (cdv : Value) (A : Around) (outer : List Env) (s : Shared) (H : Hp) (E : XK) (es : List En) (μ : Mu) (Q : En → Mu → Prop), Room k (A.deeper (envOfC qual (defScope st) s.heap.objs.size f cdv)) → sp es μ Q →
      ∃ t, DSs K (cxOf CX P w K mg base N qual (defScope st) f cdv A outer s H E).nox (defBody st) t ∧ t { nx := fun _ μ' => Q (.d .none) μ', rt := Q } (es.map some ++ List.replicate (N.length - es.length) none) μ) : FnOk P w K mg base CX (k + 1) f fd ps (spUp K sp) := by
  refine F.okG S (fun vs H Q E ⟨μ, es, Q0, M, hp, h, cl⟩ => (PySem.Paired.length hp).trans (len es μ Q0 h)) (fun cdv A outer s H vs Q E hr ⟨μ, es, Q0, M, hp, h, cl⟩ => ?_)
  obtain ⟨t, ht, hq⟩ := hbody cdv A outer s H E es μ Q0 hr h
  have hl : vs.length = es.length := PySem.Paired.length hp
  refine ⟨upS K t, ht, _, μ, _, Paired.mapSome hp N.length N.length (by rw [hl]), M, hq, ⟨fun ρ' μ' σ' H' q S' M' s' => cl _ μ' .non H' q M' s' .non, cl, fun _ _ _ _ q => q.elim, fun _ _ _ _ q => q.elim⟩⟩
theorem Own.imp {k : Nat} {x : Str} {ps : List Str} {sp sp' : Sp} (O : Own P w K mg base CX k x ps sp) (h : ∀ vs H Q E, sp' vs H Q E → sp vs H Q E) : Own P w K mg base CX k x ps sp' := by
  obtain ⟨f, fd, F, r⟩ := O
  exact ⟨f, fd, F.imp h, r⟩
end
end L2
set_option Elab.async false
set_option linter.all false
set_option maxRecDepth 100000
set_option maxHeartbeats 4000000
namespace L2
open PySem PySem.Spec PyProof.Rows
section
variable {X : Cx} {K : PySem.W.Frag} {a b c : Expr} {ta tb tc : TEd} {tA tB : TTd} {pos : Pos} {es : List Expr} {tr : TAd}
def rdIx : R2d := fun x y μ Q => match x, y with
  | .d (.tuple ds), .d (.int i) => ∃ z, atI ds i = some z ∧ Q (.d z) μ
  | .d (.list ds), .d (.int i) => ∃ z, atI ds i = some z ∧ Q (.d z) μ
  | .m p, .d (.int i) => ∃ ds z, (p, .lst ds) ∈ μ ∧ atI ds i = some z ∧ Q (.d z) μ
  | _, _ => False
theorem dx_seq (hK : X.K = K := by rfl) : IxR X (upR K rdIx) := by
  refine (IxR.or (dx_list (K := K) hK) (dx_tup (K := K) hK)).mono fun x y H Q h => ?_
  obtain ⟨μ, e, e', Q0, M, i1, i2, q, cl⟩ := h
  unfold rdIx at q
  split at q
  · exact .inr ⟨μ, _, _, Q0, M, i1, i2, q, cl⟩
  · obtain ⟨z, h1, q⟩ := q
    exact .inl ⟨μ, _, _, Q0, M, i1, i2, ⟨_, z, .d _, h1, q⟩, cl⟩
  · obtain ⟨ds, z, h0, h1, q⟩ := q
    exact .inl ⟨μ, _, _, Q0, M, i1, i2, ⟨ds, z, .m h0, h1, q⟩, cl⟩
  · exact q.elim
def rdCat : R2d := fun x y μ Q => match x, y with
  | .d (.int i), .d (.int j) => Q (.d (.int (i + j))) μ
  | _, _ => ∃ ds es, LstOf μ x ds ∧ LstOf μ y es ∧ ds.length + es.length ≤ 1000 ∧ Q (.d (.list (ds ++ es))) μ
section forms
variable {g : TGd} {tb : TSd} {D : EndsD} {ρ : Rho} {μ : Mu} {te : TEd} {tt : TTd} {Q : En → Mu → Prop}
theorem forL {e : En} {ds : List PyData} (Pv : Nat → Rho → Mu → Prop) (h0 : Pv 0 ρ μ) (hok : ∀ i ρ' μ', Pv i ρ' μ' → LstOf μ' e ds)
    (hs : ∀ i x ρ' μ', ds[i]? = some x → Pv i ρ' μ' → g (.d x) ρ' μ' fun ρ2 μ2 => tb { D with nx := Wks (Pv (i + 1)), ct := Wks (Pv (i + 1)), bk := D.nx } ρ2 μ2) (hd : ∀ ρ' μ', Pv ds.length ρ' μ' → D.nx ρ' μ') :
    ∃ Pv : Nat → Rho → Mu → Prop, Pv 0 ρ μ ∧ (∀ i ρ' μ', i ≤ (itL e ds).n → Pv i ρ' μ' → (itL e ds).ok μ') ∧
      (∀ i ρ' μ', i < (itL e ds).n → Pv i ρ' μ' → g ((itL e ds).item i) ρ' μ' fun ρ2 μ2 => tb { D with nx := Wks (Pv (i + 1)), ct := Wks (Pv (i + 1)), bk := D.nx } ρ2 μ2) ∧ ∀ ρ' μ', Pv (itL e ds).n ρ' μ' → D.nx ρ' μ' := by
  refine ⟨Pv, h0, fun i ρ' μ' _ p => hok i ρ' μ' p, fun i ρ' μ' hi p => ?_, hd⟩
  have hi : i < ds.length := hi
  have e1 : ds[i]? = some ds[i] := List.getElem?_eq_getElem hi
  show g (.d (ds.getD i .none)) ρ' μ' _
  rw [getD_get e1]
  exact hs i _ ρ' μ' e1 p
theorem forR {lo : Int} {n : Nat} (Pv : Nat → Rho → Mu → Prop) (h0 : Pv 0 ρ μ)
    (hs : ∀ i ρ' μ', i < n → Pv i ρ' μ' → g (.d (.int (lo + i))) ρ' μ' fun ρ2 μ2 => tb { D with nx := Wks (Pv (i + 1)), ct := Wks (Pv (i + 1)), bk := D.nx } ρ2 μ2) (hd : ∀ ρ' μ', Pv n ρ' μ' → D.nx ρ' μ') :
    ∃ Pv : Nat → Rho → Mu → Prop, Pv 0 ρ μ ∧ (∀ i ρ' μ', i ≤ (itR lo n).n → Pv i ρ' μ' → (itR lo n).ok μ') ∧
      (∀ i ρ' μ', i < (itR lo n).n → Pv i ρ' μ' → g ((itR lo n).item i) ρ' μ' fun ρ2 μ2 => tb { D with nx := Wks (Pv (i + 1)), ct := Wks (Pv (i + 1)), bk := D.nx } ρ2 μ2) ∧ ∀ ρ' μ', Pv (itR lo n).n ρ' μ' → D.nx ρ' μ' :=
  ⟨Pv, h0, fun i ρ' μ' _ p => trivial, fun i ρ' μ' hi p => hs i ρ' μ' hi p, hd⟩
abbrev CompG (k : Nat) (J : Itd) (g : TGd) (tt : TTd) (te : TEd) (ρ : Rho) (μ1 : Mu) (Q : En → Mu → Prop) : Prop := ∃ Pv : Nat → List PyData → Rho → Mu → Prop, Pv 0 [] (ρ ++ List.replicate k none) μ1 ∧ (∀ i ys ρ' μ', i ≤ J.n → Pv i ys ρ' μ' → J.ok μ') ∧
  (∀ i ys ρ' μ', i < J.n → Pv i ys ρ' μ' → g (J.item i) ρ' μ' fun ρ2 μ2 => tt ρ2 μ2 fun b μ3 => if b = true then te ρ2 μ3 fun y μ4 => ∃ z, y = .d z ∧ Pv (i + 1) (ys ++ [z]) ρ2 μ4 else Pv (i + 1) ys ρ2 μ3) ∧
  ∀ ys ρ' μ', Pv J.n ys ρ' μ' → Fin1 Q ys μ'
theorem take_snoc {α : Type} {ds : List α} {i : Nat} {x : α} (h : ds[i]? = some x) : ds.take (i + 1) = ds.take i ++ [x] := by rw [List.take_add_one, h]; rfl
theorem takeN {α β : Type} (f : α → β) {ds : List α} {i : Nat} (hi : i < ds.length) : (ds.take (i + 1)).map f = (ds.take i).map f ++ [f ds[i]] := by
  rw [take_snoc (List.getElem?_eq_getElem hi), List.map_append]; rfl
structure Src (J : Itd) (ds : List PyData) (μ : Mu) : Prop where
  n : J.n = ds.length
  it : ∀ i x, ds[i]? = some x → J.item i = .d x
  ok : J.ok μ
theorem Src.l {e : En} {ds : List PyData} {μ : Mu} (h : LstOf μ e ds) : Src (itL e ds) ds μ := ⟨rfl, fun i x e => by show En.d (ds.getD i .none) = _; rw [getD_get e], h⟩
theorem Src.d {ds : List PyData} {μ : Mu} : Src (itL (.d (.list ds)) ds) ds μ := Src.l (.d ds)
theorem Src.t {ds : List PyData} {μ : Mu} : Src (itT ds) ds μ := ⟨rfl, fun i x e => by show En.d (ds.getD i .none) = _; rw [getD_get e], trivial⟩
def rng (lo : Int) (n : Nat) : List PyData := (List.range n).map fun (i : Nat) => PyData.int (lo + (i : Int))
theorem Src.r {lo : Int} {n : Nat} {μ : Mu} : Src (itR lo n) (rng lo n) μ := by
  refine ⟨by simp [rng, itR], fun i x e => ?_, trivial⟩
  unfold rng at e
  rw [List.getElem?_map] at e
  by_cases hi : i < n
  · rw [List.getElem?_range hi] at e
    cases e
    rfl
  · rw [List.getElem?_eq_none (by simpa using hi)] at e
    exact nomatch e
theorem compL {J : Itd} {ds : List PyData} (f : PyData → PyData) (S : Src J ds μ)
    (hs : ∀ x, x ∈ ds → ∀ R : En → Mu → Prop, R (.d (f x)) μ → te (ρ ++ [some (.d x)]) μ R) (hq : Q (.d (.list (ds.map f))) μ) : CompG 1 J (dgName ρ.length) dYes te ρ μ Q := by
  refine ⟨fun i ys ρ' μ' => μ' = μ ∧ ys = (ds.take i).map f ∧ ∃ v, ρ' = ρ ++ [v], ⟨rfl, rfl, none, rfl⟩, fun i ys ρ' μ' _ ⟨h, _⟩ => by subst h; exact S.ok, ?_, ?_⟩
  · rintro i ys ρ' μ' hi ⟨rfl, rfl, v, rfl⟩
    rw [S.n] at hi
    rw [S.it i _ (List.getElem?_eq_getElem hi)]
    unfold dgName dYes
    have e2 : (ρ ++ [v]).set ρ.length (some (.d ds[i])) = ρ ++ [some (.d ds[i])] := by simp
    rw [e2]
    exact iteT (hs ds[i] (List.getElem_mem hi) _ ⟨_, rfl, rfl, (takeN f hi).symm, _, rfl⟩)
  · rintro ys ρ' μ' ⟨rfl, rfl, _⟩
    rw [S.n, List.take_length]
    exact hq
end forms
end
end L2
set_option Elab.async false
set_option linter.all false
set_option maxRecDepth 100000
set_option maxHeartbeats 4000000
namespace L2
open PySem PySem.Spec PyProof.Rows
def Num (n : Int) : Prop := -1000000000000000000000000000000 < n ∧ n < 1000000000000000000000000000000
def dvs (a b : Int) : Int := if a < 0 ∨ (a = 0 ∧ b < 0) then -(Int.gcd a b : Int) else (Int.gcd a b : Int)
theorem gcd_step {f r : Nat} : Nat.gcd r (f % r) = Nat.gcd f r := by
  rw [Nat.gcd_comm r (f % r), ← Nat.gcd_rec, Nat.gcd_comm]
theorem FzR.pot {M a b : Int} {μ : Mu} {p : Addr} (ha : 0 ≤ a) (hb : 0 ≤ b) (hm : b < M) : FzR ((p, .lst [.int a, .int b]) :: μ) (.m p) ((p, .pot M) :: μ) (.m p) := fun K v H h i => by
  have e : mask ((p, .lst [.int a, .int b]) :: μ) H = mask ((p, .pot M) :: μ) H := rfl
  refine ⟨⟨by simpa using h.nd, fun b' o ho => ?_⟩, i, by rw [e]; exact Same.refl _⟩
  rcases List.mem_cons.mp ho with z | z
  · cases z
    obtain ⟨xs, e1, hs⟩ := h.ob p _ List.mem_cons_self
    have := IsAll.ints_of (ns := [a, b]) hs
    subst this
    exact ⟨a, b, e1, ha, hb, hm⟩
  · have := h.ob b' o (List.mem_cons_of_mem _ z)
    exact this.same (by rw [e]; exact Same.refl _) rfl
def spTakeM (M : Int) : Sp := fun vs H Q _ => ∃ (p : Addr) (m : Int), vs = [.ref p, .int m] ∧ Pot M H p ∧ 0 < m ∧ m ≤ 100000000 ∧ ∀ d H', 0 ≤ d → d < m → Pot M H' p → Stp p H H' → Q (.int d) H'
def sDraw (M : Int) : SpD := fun es μ Q => ∃ (p : Addr) (m : Int), es = [.m p, .d (.int m)] ∧ (p, .pot M) ∈ μ ∧ 0 < m ∧ m ≤ 100000000 ∧ ∀ d, 0 ≤ d → d < m → Q (.d (.int d)) μ
def sNum (M : Int) : SpD := fun es μ Q => ∃ (p : Addr), es = [.m p] ∧ (p, .pot M) ∈ μ ∧ ∀ n, Num n → Q (.d (.int n)) μ
theorem pot_stp {K : PySem.W.Frag} {μ : Mu} {H H' : Hp} {p : Addr} {M : Int} (h : RelM K μ H) (hp : (p, .pot M) ∈ μ) (hP : Pot M H' p) (s : Stp p H H') : RelM K μ H' ∧ Same (mask μ H) (mask μ H') := by
  obtain ⟨μ1, μ2, rfl⟩ := List.append_of_mem hp
  exact h.write (fun b u e n => s b u e n) fun _ => hP
theorem draw_up {K : PySem.W.Frag} {M : Int} {vs : List V} {H : Hp} {Q : VK} {E : XK} (h : spUp K (sDraw M) vs H Q E) : spTakeM M vs H Q E := by
  obtain ⟨μ, es, Q0, hM, hp, ⟨p, m, rfl, hpot, m0, m1, q⟩, cl⟩ := h
  obtain ⟨v, v', rfl, i1, i2⟩ := pair2 hp
  have i1 : v = _ := i1
  subst i1
  cases i2
  refine ⟨p, m, rfl, hM.ob _ _ hpot, m0, m1, fun d H' d0 d1 hP s => ?_⟩
  obtain ⟨M', s'⟩ := pot_stp hM hpot hP s
  exact cl _ μ _ H' (q d d0 d1) M' s' (.int d)
theorem zl0 : 0 ≤ 1000 := by decide
theorem zl2 : 2 ≤ 1000 := by decide
theorem zl3 : 3 ≤ 1000 := by decide
theorem zl4 : 4 ≤ 1000 := by decide
end L2
namespace L2
open PySem PySem.Spec PyProof.Rows
def spLaw (K : PySem.W.Frag) : Sp := fun vs H Q _ => ∃ (a : Addr) (ns : List Int), vs = [.ref a] ∧ SqL K H a (ns.map V.int) ∧ ns.length ≤ 63 ∧ ∀ H', Q (.bl true) H'
def sLaw : SpD := fun es μ Q => ∃ ns : List Int, es = [.d (.list (ns.map .int))] ∧ ns.length ≤ 63 ∧ μ = [] ∧ ∀ μ', Q (.d (.bool true)) μ'
theorem law_up {K : PySem.W.Frag} {vs : List V} {H : Hp} {Q : VK} {E : XK} (h : spLaw K vs H Q E) : spUp K sLaw vs H Q E := by
  obtain ⟨a, ns, rfl, hS, hl, q⟩ := h
  refine ⟨[], [.d (.list (ns.map .int))], fun e _ => e = .d (.bool true), RelM.nil, .cons ?_ .nil, ⟨ns, rfl, hl, rfl, fun _ => rfl⟩, ?_⟩
  · show Is K (mask [] H) (.ref a) _
    rw [mask_nil]
    exact .lst hS (IsAll.ints ns)
  · rintro e μ' v H' rfl _ _ i
    cases i
    exact q H'
end L2
set_option Elab.async false
set_option linter.all false
set_option maxRecDepth 100000
set_option maxHeartbeats 4000000
namespace L2
open PySem PySem.Spec PyProof.Rows
section
variable {X : Cx} {K : PySem.W.Frag} {a b c : Expr} {ta tb tc : TEd} {tA tB : TTd} {pos : Pos} {es : List Expr} {tr : TAd}
def rCatS (K : PySem.W.Frag) : R2 := fun x y H Q => ∃ l b xs zs, x = .ref l ∧ y = .ref b ∧ SqL K H l xs ∧ SqL K H b zs ∧ xs.length + zs.length ≤ sizeLine ∧ ∀ p, H p = none → Q (.ref p) (upd H p (.lst (xs ++ zs)))
theorem op_catS : OpR X (binaryOp .Add) (rCatS X.K) := by
  intro pins s σ H x y v u Q I rx ry h
  obtain ⟨l, b, xs, zs, rfl, rfl, hH, hB, hz, q⟩ := h
  cases rx
  cases ry
  obtain ⟨its, r, pl, _⟩ := I.list hH
  obtain ⟨its2, r2, pl2, _⟩ := I.list hB
  obtain ⟨⟨cls, dd, data, sl⟩, ho, hc, n, hd⟩ := pl.isList
  obtain ⟨⟨cls2, dd2, data2, sl2⟩, ho2, hc2, n2, hd2⟩ := pl2.isList
  simp only at hc hd hc2 hd2
  subst hc hd hc2 hd2
  have h1 := r.length
  have h2 := r2.length
  have e : its.toArray ++ its2.toArray = (its ++ its2).toArray := by simp
  refine concat_meets ⟨_, ho, rfl⟩ ⟨_, ho2, rfl⟩ noFill_list_add seq_list_add PySem.F.slot_list_add PySem.F.entry_list_add (PySem.F.args_list_add_2 _ _) (list_addW l b its.toArray its2.toArray n n2 dd dd2 sl sl2 (by simp; omega)) ⟨ho, ho2, ?_⟩
  rw [e]
  exact ⟨.ref _, _, I.lnew (t' := s.toks) (r.append r2) (by rw [List.length_append]; omega), rfl, q _ I.fresh⟩
theorem do_cat (hK : X.K = K := by rfl) : OpR X (binaryOp .Add) (upR K rdCat) := by
  subst hK
  refine (OpR.or (op_add (X := X)) op_catS).mono fun x y H Q h => ?_
  obtain ⟨μ, e, e', Q0, M, i1, i2, q, cl⟩ := h
  unfold rdCat at q
  split at q
  · cases i1; cases i2
    exact .inl ⟨_, _, rfl, rfl, cl _ μ _ H q M (Same.refl _) (.int _)⟩
  · obtain ⟨ds, es, h1, h2, hl, q⟩ := q
    obtain ⟨p, xs, rfl, a1, a2⟩ := h1.get M i1
    obtain ⟨p', xs', rfl, b1, b2⟩ := h2.get M i2
    refine .inr ⟨p, p', xs, xs', rfl, rfl, a1, b1, Nat.le_of_lt (small1000 (by rw [a2.len, b2.len]; exact hl)), fun l hl => ?_⟩
    obtain ⟨M4, s4, hn⟩ := M.laid (o := .lst (xs ++ xs')) hl
    exact cl _ μ _ _ q M4 s4 (.lst (SqL.of (by rw [mask_of hn]; exact upd_same)) (IsAll.same s4 (IsAll.app b2 a2)))
def dChain (r r' : R2d) (ta tb tc : TEd) : TEd := fun ρ μ Q => ta ρ μ fun x μ1 => tb ρ μ1 fun y μ2 => r x y μ2 fun z μ3 => match z with
  | .d (.bool k) => if k = true then tc ρ μ3 fun u μ4 => r' y u μ4 Q else Q (.d (.bool false)) μ3
  | _ => False
theorem d_chain {op op' : CmpOp} {r r' : R2d} (ho : OpR X (compareOp op) (upR K r)) (ho' : OpR X (compareOp op') (upR K r')) (ha : DE K X a ta) (hb : DE K X b tb) (hc : DE K X c tc)
    (h1 : behindInMarks op b = false) (h2 : behindInMarks op' c = false) (hm : lastMarks [op, op'] [b, c] = false := by with_unfolding_all rfl) : DE K X (.Compare a [op, op'] [b, c] pos) (dChain r r' ta tb tc) := by
  refine PE.mono (pe_chain ho ho' ha hb hc hm) fun σ H Q ⟨ρ, μ, Q0, hS, hM, h, cl⟩ => ?_
  refine up2 hS hM h fun x y μ2 v u H2 q M2 s2 i1 i2 => ⟨μ2, x, y, _, M2, i1, i2, q, fun e μ3 w H3 q3 M3 s3 i3 => ?_⟩
  split at q3
  · rename_i k
    cases i3
    refine ⟨k, rfl, ?_⟩
    cases k with
    | true => exact iteT ⟨ρ, μ3, _, (hS.same s2).same s3, M3, by simpa using q3, fun e4 μ4 w4 H4 q4 M4 s4 i4 => ⟨μ4, y, e4, Q0, M4, i2.same (s3.trans s4), i4, q4, cl.same ((s2.trans s3).trans s4)⟩⟩
    | false => exact iteF (cl (.d (.bool false)) μ3 _ H3 (by simpa using q3) M3 (s2.trans s3) (Is.bl _))
  · exact q3.elim
end
section
variable {P : Program} {w : World} {K : PySem.W.Frag} {mg : Str → Option Value} {base : Heap} {CX : CXT} {k : Nat} {x : Str} {ps : List Str} {sp sp' : Sp} {f : Addr} {fd : FuncData}
def spOr (sp sp' : Sp) : Sp := fun vs H Q E => sp vs H Q E ∨ sp' vs H Q E
theorem FnOk.or (h : FnOk P w K mg base CX k f fd ps sp) (h' : FnOk P w K mg base CX k f fd ps sp') : FnOk P w K mg base CX k f fd ps (spOr sp sp') :=
  ⟨fun vs H Q E q => q.elim (h.len vs H Q E) (h'.len vs H Q E), fun A outer s H args us vs Q E hr he hb hv q => q.elim (h.run A outer s H args us vs Q E hr he hb hv) (h'.run A outer s H args us vs Q E hr he hb hv)⟩
theorem Own.l (O : Own P w K mg base CX k x ps (spOr sp sp')) : Own P w K mg base CX k x ps sp := O.imp fun _ _ _ _ h => .inl h
theorem Own.r (O : Own P w K mg base CX k x ps (spOr sp sp')) : Own P w K mg base CX k x ps sp' := O.imp fun _ _ _ _ h => .inr h
theorem okX {qual : Str} {st : Stmt} {N : List Str} (F : Fun K x qual st f fd) (S : FnScope N ps (defScope st)) (len : ∀ vs H Q E, sp vs H Q E → vs.length = ps.length)
    (hbody : ∀ (cdv : Value) (A : Around) (outer : List Env) (s : Shared) (H : Hp) (vs : List V) (Q : VK) (E : XK), Room k (A.deeper (PyProof.Rows.envOfC qual (defScope st) s.heap.objs.size f cdv)) → sp vs H Q E →
      ∃ t, PSs (cxOf CX P w K mg base N qual (defScope st) f cdv A outer s H E) (defBody st) t ∧ t { nx := fun _ H' => Q .non H', rt := Q } (start N vs) H) : FnOk P w K mg base CX (k + 1) f fd ps sp := by
  obtain ⟨oc, od, kV, doc, pm, an, cdv, ct, osl, rfl, lk, hcd⟩ := F.ex
  exact fn_of lk hcd S len fun A outer s H vs Q E hr hsp => hbody cdv A outer s H vs Q E hr hsp
theorem test_at {t : TTd} {ρ : Rho} {σ : St} {H : Hp} {Q : Bool → Hp → Prop} (b : Bool) (hS : RelS K ρ [] σ H) (ht : ∀ R : Bool → Mu → Prop, R b [] → t ρ [] R) (k : ∀ H', Same H H' → Q b H') : upT K t σ H Q := by
  refine ⟨ρ, [], fun c μ => c = b ∧ μ = [], hS, RelM.nil, ht _ ⟨rfl, rfl⟩, ?_⟩
  rintro c μ' H' ⟨rfl, rfl⟩ _ s
  rw [mask_nil, mask_nil] at s
  exact k H' s
theorem RelS.of {vs : List V} {es : List En} {H : Hp} (n : Nat) (h : Paired (IsE K [] H) vs es) : RelS K (es.map some ++ List.replicate n none) [] (vs.map some ++ List.replicate n none) H := by
  have := Paired.mapSome (K := K) h (vs.length + n) (es.length + n) (by omega)
  simpa using this
theorem IsE.nil {H : Hp} {v : V} {d : PyData} (h : Is K H v d) : IsE K [] H v (.d d) := by
  show Is K (mask [] H) v d
  rw [mask_nil]; exact h
theorem up_at {s : SpD} {vs : List V} {H : Hp} {Q : VK} {E : XK} (h : spUp K s vs H Q E) : ∃ μ es Q0, RelM K μ H ∧ Paired (IsE K μ H) vs es ∧ s es μ Q0 ∧ ∀ e v H', Q0 e μ → Same H H' → IsE K μ H' v e → Q v H' := by
  obtain ⟨μ, es, Q0, M, hp, hs, cl⟩ := h
  exact ⟨μ, es, Q0, M, hp, hs, fun e v H' q s i => by obtain ⟨M', s'⟩ := M.same s; exact cl e μ v H' q M' s' i⟩
end
end L2
set_option Elab.async false
set_option linter.all false
set_option maxRecDepth 100000
set_option maxHeartbeats 4000000
namespace L2
open PySem PySem.Spec PyProof.Rows
section
variable {g : TGd} {tb : TSd} {D : EndsD} {ρ : Rho} {μ : Mu} {te : TEd} {tt : TTd} {Q : En → Mu → Prop}
end
section
variable {s : List Int} (h : s.Pairwise (· ≤ ·)) {j : Nat} (hj : j < s.length) {c : Int}
include h hj
end
def twice : List Int → List Int
  | [] => []
  | x :: l => x :: x :: twice l
end L2
set_option Elab.async false
set_option linter.all false
set_option maxRecDepth 100000
set_option maxHeartbeats 4000000
namespace L2
open PySem PySem.Spec PyProof.Rows
mutual
theorem eqv_refl : ∀ d : PyData, PyData.canLay0 d = true → PyData.eqv d d = true
  | .none, _ => by simp [PyData.eqv]
  | .bool b, _ => by simp [PyData.eqv]
  | .int i, _ => by simp [PyData.eqv]
  | .str x, _ => by simp [PyData.eqv]
  | .list xs, h => by
    simp only [PyData.canLay0] at h
    simp only [PyData.eqv]
    exact eqvAll_refl xs h
  | .tuple xs, h => by
    simp only [PyData.canLay0] at h
    simp only [PyData.eqv]
    exact eqvAll_refl xs h
  | .dict xs, h => by simp [PyData.canLay0] at h
theorem eqvAll_refl : ∀ ds : List PyData, PyData.canLayAll0 ds = true → PyData.eqvAll ds ds = true
  | [], _ => by simp [PyData.eqvAll]
  | d :: ds, h => by
    simp only [PyData.canLayAll0, Bool.and_eq_true] at h
    simp only [PyData.eqvAll, Bool.and_eq_true]
    exact ⟨eqv_refl d h.1, eqvAll_refl ds h.2⟩
end
theorem shaped_eqv {d : PyData} (h : SeqAt.shaped d = true) : PyData.eqv d d = true := eqv_refl d (SeqAt.canLay_of_shaped h)
section
variable {X : Cx} {K : PySem.W.Frag} {a b c : Expr} {ta tb tc : TEd} {tA tB : TTd} {pos : Pos} {es : List Expr} {tr : TAd}
end
theorem RoomU.mark {k : Nat} {A : Around} {v : Option Value} (r : RoomU k A) : RoomU k (A.mark v) := ⟨r.dp, r.un⟩
end L2
set_option Elab.async false
set_option linter.all false
set_option maxRecDepth 100000
set_option maxHeartbeats 4000000
namespace L2
open PySem PySem.Spec PyProof.Rows
section
variable {P : Program} {w : World} {K : PySem.W.Frag} {mg : Str → Option Value} {base : Heap} {N : List Str} {qual : Str} {scope : Scope} {f : Addr} {cd : Value} {A : Around} {outer : List Env} {s : Shared} {H : Hp} {E : XK}
theorem passX : Passes (XC P w) (cxOf (XC P w) P w K mg base N qual scope f cd A outer s H E) E := by
  intro pins σ H1 s1 e s' I hx
  generalize hX : cxOf (XC P w) P w K mg base N qual scope f cd A outer s H E = X at *
  have xst : X.stack = X.env :: X.outer := by rw [← hX]; rfl
  have xfr : X.env.frame = some X.env.locals := by rw [← hX]; rfl
  have xex : X.ex = [] := by rw [← hX]; rfl
  have xe : X.xe = fun e s' => wpAny (model X.prog X.w) X.A (leaving X.env e) (fun _ s'' => XC X.prog X.w X.outer X.H₀ X.s₀ E e s'') (fun e' s'' => XC X.prog X.w X.outer X.H₀ X.s₀ E e' s'') s' := by rw [← hX]; rfl
  have xP : X.prog = P := by rw [← hX]; rfl
  have xw : X.w = w := by rw [← hX]; rfl
  obtain ⟨ea, cls, a0, H', B, rfl, hos, hg, un, ok', fl, cov, hea, hE⟩ := hx
  rw [xe]
  have fsub : ∀ b ∈ frs X.stack, b = X.env.locals ∨ b ∈ X.fs := fun b hb => List.mem_cons.mp (I.stkSub b hb)
  have hfs : ∀ b ∈ X.fs, b ∈ frs X.stack := fun b hb => by
    rw [xst]
    obtain ⟨e, he, hfe⟩ := List.mem_filterMap.mp hb
    exact List.mem_filterMap.mpr ⟨e, List.mem_cons_of_mem _ he, hfe⟩
  have bs : Un X.fs [] X.H₀ H1 X.s₀.heap s1.heap := by have := I.base; rw [xex] at this; exact this
  have oldnf : ∀ b o, X.s₀.heap.get? b = some o → b ∉ X.fs → b ∉ frs X.stack := fun b o eb nb z => by
    rcases fsub b z with z | z
    · exact absurd (Nat.lt_of_lt_of_le (Heap.lt_size eb) I.ok.above) (by rw [z]; exact Nat.lt_irrefl _)
    · exact nb z
  have trk : ∀ b u, H' b = some u → b ∉ frs X.stack := fun b u eb z => by
    obtain ⟨_, o, ho, _⟩ := I.stack.mem z
    have := un.free b o ho (I.stkFree b z) (by simp)
    rw [this] at eb; cases eb
  refine wpAny_leaves_onW (by rw [← xst]; exact I.ok.frames) xfr (by rw [← xst]; exact fl) fun h'' fl2 ups => ?_
  have kept : ∀ b o, s'.heap.get? b = some o → b ∉ frs X.stack → ((∃ o₀, s1.heap.get? b = some o₀) ∨ ∃ u, H' b = some u) → h''.get? b = some o := fun b o eb nb c => fl2.1 b o (cov b o eb nb c)
  have slotK : ∀ b, b ∈ frs X.stack → ∀ o1, s1.heap.get? b = some o1 → ∃ sl, h''.get? b = some { cls := o1.cls, dict := o1.dict, data := o1.data, slots := sl } := fun b hb o1 e1 => by
    obtain ⟨sl, e2⟩ := un.slot b o1 e1 (I.stkFree b hb) hb (by simp)
    obtain ⟨_, o', ho', hd'⟩ := I.stack.mem hb
    rw [e1] at ho'; cases ho'
    obtain ⟨sl2, e3⟩ := ups b { cls := o1.cls, dict := o1.dict, data := o1.data, slots := sl } e2 hd'
    exact ⟨sl2, e3⟩
  refine ⟨ea, cls, a0, H', B, rfl, hos.trans I.os, hg, ⟨fun b o eb n nf _ => ?_, fun b o eb n nf _ => ?_, fun b o eb n _ => ?_, fun b o eb _ => ?_, fun b xs q => un.tups b xs (bs.tups b xs q), fun b o u q => un.frzs b o u (bs.frzs b o u q), fun b ps q => ?_⟩, fun b u eb => ?_, fl2, fun b o eb nb c => ?_, hea, hE⟩
  · have e1 := bs.keep b o eb n nf (by simp)
    have nb := oldnf b o eb nf
    exact kept b o (un.keep b o e1 (bs.free b o eb n (by simp)) nb (by simp)) nb (.inl ⟨o, e1⟩)
  · obtain ⟨sl, e1⟩ := bs.slot b o eb n nf (by simp)
    obtain ⟨sl2, e2⟩ := slotK b (hfs b nf) _ e1
    exact ⟨sl2, e2⟩
  · obtain ⟨o1, e1⟩ := bs.there b o eb (by simp)
    exact un.free b o1 e1 (bs.free b o eb n (by simp)) (by simp)
  · obtain ⟨o1, e1⟩ := bs.there b o eb (by simp)
    by_cases nb : b ∈ frs X.stack
    · obtain ⟨sl, e2⟩ := slotK b nb o1 e1
      exact ⟨_, e2⟩
    · obtain ⟨o2, e2⟩ := un.there b o1 e1 (by simp)
      exact ⟨o2, kept b o2 e2 nb (.inl ⟨o1, e1⟩)⟩
  · obtain ⟨m1, e1⟩ := bs.tbls b ps q
    obtain ⟨m2, e2⟩ := un.tbls b _ e1
    exact ⟨m1 ++ m2, by rw [e2, Array.append_assoc]⟩
  · rw [xP, xw]
    refine (ok' b u eb).stay (fun c v hc e1 => ?_) (fun _ z => z) fun _ _ z => z
    rcases hc with rfl | hc
    · exact kept c v e1 (trk c u eb) (.inr ⟨u, eb⟩)
    · exact kept c v e1 (trk c _ hc) (.inr ⟨_, hc⟩)
  · rcases c with ⟨o0, e0⟩ | ⟨u, eu⟩
    · have nb2 := oldnf b o0 e0 nb
      obtain ⟨o1, e1⟩ := bs.there b o0 e0 (by simp)
      obtain ⟨o2, e2⟩ := un.there b o1 e1 (by simp)
      have := kept b o2 e2 nb2 (.inl ⟨o1, e1⟩)
      rw [eb] at this; cases this
      exact cov b o e2 nb2 (.inl ⟨o1, e1⟩)
    · have nb2 := trk b u eu
      obtain ⟨o2, e2⟩ := (ok' b u eu).has
      have := kept b o2 e2 nb2 (.inr ⟨u, eu⟩)
      rw [eb] at this; cases this
      exact cov b o e2 nb2 (.inr ⟨u, eu⟩)
end
end L2
set_option Elab.async false
set_option linter.all false
set_option maxRecDepth 100000
set_option maxHeartbeats 4000000
namespace L2
open PySem PySem.Spec PyProof.Rows
section
variable {X : Cx} {K : PySem.W.Frag} {pos : Pos}
theorem Inv.room0 {pins : List (Addr × Obj)} {σ : St} {H : Hp} {s : Shared} (I : Inv X pins σ H s) : sysModules < s.heap.objs.size :=
  Nat.lt_trans (show sysModules < mainGlobals by decide) (I.mod.glob.keeps I.bk).lt
theorem emp_ok {P : Program} {w : World} {H : Hp} {h : Heap} (hb : sysModules < h.objs.size) : ObjOk P w H (h.push { cls := .type "dict", data := .dict #[] }) h.objs.size (.dK []) := by
  refine ⟨Nat.zero_le _, ?_, [], .nil, Heap.DictOf.new h⟩
  rw [beq_eq_false_iff_ne]
  exact Ne.symm (Nat.ne_of_lt hb)
theorem d_emp : DE K X (.Dict [] [] pos) (dC (.dict [])) := by
  intro pins s σ H Q I h
  obtain ⟨ρ, μ, Q0, hS, hM, q, cl⟩ := h
  have fr : H s.heap.objs.size = none := I.hok.fresh (Nat.le_refl _)
  have J := I.laid (a := s.heap.objs.size) (o := .dK []) (t' := s.toks) (h' := s.heap.push { cls := .type "dict", data := .dict #[] }) (fun _ _ z => Heap.get?_push_of_some _ z) (Nat.le_refl _) (emp_ok I.room0)
  obtain ⟨M4, s4, hn⟩ := hM.laid (o := .dK []) fr
  exact wpAny_Dict_empty ⟨.ref s.heap.objs.size, _, J, rfl, cl _ μ _ _ q M4 s4 (.dc (by rw [mask_of hn]; exact upd_same))⟩
end
end L2
set_option Elab.async false
set_option linter.all false
set_option maxRecDepth 100000
set_option maxHeartbeats 4000000
namespace L2
open PySem PySem.Spec PyProof.Rows
section
variable {X : Cx} {pins : List (Addr × Obj)} {σ : St} {H : Hp} {s : Shared}
end
section
variable {X : Cx} {K : PySem.W.Frag}
def enumD (ds : List PyData) : List PyData := (List.range ds.length).map fun (i : Nat) => .tuple [.int (i : Int), ds.getD i .none]
def itE (e : En) (ds : List PyData) : Itd := ⟨ds.length, fun i => .d (.tuple [.int (i : Int), ds.getD i .none]), fun μ => LstOf μ e ds⟩
theorem enumD_len (ds : List PyData) : (enumD ds).length = ds.length := by simp [enumD]
theorem enumD_get {ds : List PyData} {i : Nat} {x : PyData} (h : ds[i]? = some x) : (enumD ds)[i]? = some (.tuple [.int (i : Int), x]) := by
  have hi : i < ds.length := (List.getElem?_eq_some_iff.mp h).1
  unfold enumD
  rw [List.getElem?_map, List.getElem?_range hi, ← getD_get h]
  rfl
theorem Src.e {e : En} {ds : List PyData} {μ : Mu} (h : LstOf μ e ds) : Src (itE e ds) (enumD ds) μ := by
  refine ⟨(enumD_len ds).symm, fun i x q => ?_, h⟩
  have hi : i < ds.length := by
    have := (List.getElem?_eq_some_iff.mp q).1
    rwa [enumD_len] at this
  rw [enumD_get (List.getElem?_eq_getElem hi)] at q
  cases q
  show En.d (.tuple [.int (i : Int), ds.getD i .none]) = _
  rw [getD_get (List.getElem?_eq_getElem hi)]
end
end L2
set_option Elab.async false
set_option linter.all false
set_option maxRecDepth 100000
set_option maxHeartbeats 4000000
namespace PySem
open Sem (wp)
section
variable {prog : Program} {w : World} {A : Around} {E : Value → Shared → Prop} {s : Shared}
end
structure Nx (prog : Program) (w : World) (A : Around) (fr : List Addr) (it : Addr) (st : Nat → Heap → Prop) (xs : Array Value) : Prop where
  mem : it ∈ fr
  obj : ∀ i h, st i h → ∃ o, h.get? it = some o ∧ ∀ v, o.data ≠ .cell v
  keep : ∀ i h h', st i h → (∀ b ∈ fr, ∀ o, h.get? b = some o → h'.get? b = some o) → st i h'
  item : ∀ (i : Nat) (s : Shared) (x : Value) (Q : Value → Shared → Prop) (E : Value → Shared → Prop), st i s.heap → xs[i]? = some x →
    (∀ h', st (i + 1) h' → Heap.SameBut it s.heap h' → Q x { s with heap := h' }) → wpAny (model prog w) A (Builtin.SmallTypes.nextOf (.ref it)) Q E s
  stop : ∀ (i : Nat) (s : Shared) (Q : Value → Shared → Prop) (E : Value → Shared → Prop), st i s.heap → xs[i]? = none →
    (∀ h' e, Heap.ExtBut it s.heap h' → (∃ o, h'.get? e = some o ∧ o.cls = .type "StopIteration") → E (.ref e) { s with heap := h' }) → wpAny (model prog w) A (Builtin.SmallTypes.nextOf (.ref it)) Q E s
structure ZAp (z TI TO i1 i2 : Addr) (f1 f2 : List Addr) : Prop where
  TIz : TI ≠ z
  TOz : TO ≠ z
  TITO : TI ≠ TO
  z1 : z ∉ f1
  z2 : z ∉ f2
  o1 : TO ∉ f1
  o2 : TO ∉ f2
  t1 : TI ≠ i1
  t2 : TI ≠ i2
  a12 : i1 ∉ f2
  a21 : i2 ∉ f1
section
variable {prog : Program} {w : World} {A : Around} {E : Value → Shared → Prop} {s : Shared} {z TI TO i1 i2 : Addr} {f1 f2 : List Addr} {s1 s2 : Nat → Heap → Prop} {xs ys : Array Value} {k1 k2 : Nat} {x y a b : Value}
end
section
variable {prog : Program} {w : World} {A : Around} {E : Value → Shared → Prop} {s : Shared}
end
end PySem
set_option Elab.async false
set_option linter.all false
set_option maxRecDepth 100000
set_option maxHeartbeats 4000000
namespace L2
open PySem PySem.Spec PyProof.Rows
section
variable {X : Cx} {K : PySem.W.Frag}
def itZ (ds es : List PyData) : Itd := ⟨min ds.length es.length, fun i => .d (.tuple [ds.getD i .none, es.getD i .none]), fun _ => True⟩
def zipD (ds es : List PyData) : List PyData := List.zipWith (fun a b => .tuple [a, b]) ds es
theorem Src.z {ds es : List PyData} {μ : Mu} : Src (itZ ds es) (zipD ds es) μ := by
  refine ⟨by simp [zipD, itZ], fun i x q => ?_, trivial⟩
  unfold zipD at q
  rw [List.getElem?_zipWith] at q
  show En.d (.tuple [ds.getD i .none, es.getD i .none]) = _
  cases e1 : ds[i]? with
  | none => rw [e1] at q; simp at q
  | some a =>
    cases e2 : es[i]? with
    | none => rw [e1, e2] at q; simp at q
    | some b =>
      rw [e1, e2] at q
      rw [getD_get e1, getD_get e2]
      simpa using q
end
end L2
set_option Elab.async false
set_option linter.all false
set_option maxRecDepth 100000
set_option maxHeartbeats 4000000
namespace L2
open PySem PySem.Spec PyProof.Rows
section
variable {X : Cx} {K : PySem.W.Frag}
end
end L2
set_option Elab.async false
set_option linter.all false
set_option maxRecDepth 100000
set_option maxHeartbeats 4000000
namespace L2
open PySem PySem.Spec PyProof.Rows
section
variable {X : Cx} {K : PySem.W.Frag} {pos : Pos}
end
end L2
set_option Elab.async false
set_option linter.all false
set_option maxRecDepth 100000
set_option maxHeartbeats 4000000
namespace L2
open PySem PySem.Spec PyProof.Rows
section
variable {X : Cx} {K : PySem.W.Frag} {pins : List (Addr × Obj)} {σ : List (Option V)} {H : Hp} {s : Shared}
end
end L2
set_option Elab.async false
set_option linter.all false
set_option maxRecDepth 100000
set_option maxHeartbeats 4000000
namespace L2
open PySem PySem.Spec PyProof.Rows
section
variable {X : Cx} {K : PySem.W.Frag} {pos : Pos}
theorem IsAll.set {H : Hp} {v : V} {d : PyData} (h : Is K H v d) : ∀ {vs : List V} {ds : List PyData} (j : Nat), IsAll K H vs ds → IsAll K H (vs.set j v) (ds.set j d)
  | _, _, _, .nil => .nil
  | _, _, 0, .cons _ r => .cons h r
  | _, _, j + 1, .cons i r => .cons i (IsAll.set h j r)
end
end L2
set_option Elab.async false
set_option linter.all false
set_option maxRecDepth 100000
set_option maxHeartbeats 4000000
namespace L2
open PySem PySem.Spec PyProof.Rows
section
variable {X : Cx} {K : PySem.W.Frag} {pos : Pos}
end
end L2
set_option Elab.async false
set_option linter.all false
set_option maxRecDepth 100000
set_option maxHeartbeats 4000000
namespace L2
open PySem PySem.Spec PyProof.Rows
section
variable {X : Cx} {K : PySem.W.Frag} {tg iter : Expr} {pos : Pos}
end
end L2
set_option Elab.async false
set_option linter.all false
set_option maxRecDepth 100000
set_option maxHeartbeats 4000000
local macro_rules | `(tactic| walk_at "i") => `(tactic| first | refine ite2 (fun c => ?_) (fun c => ?_))
namespace K15
open PySem L2
def top (i : Nat) : Stmt := PySem.Challenge.pw_halveline_k15_what_is_none.main.body.getD i (.Pass ⟨0, 0, 0, 0⟩)
structure Txt (mg : Str → Option Value) : Prop where
  len_ : mg "len" = none
  range_ : mg "range" = none
  max_ : mg "max" = none
  min_ : mg "min" = none
  abs_ : mg "abs" = none
  int_ : mg "int" = none
  isinstance_ : mg "isinstance" = none
  tuple_ : mg "tuple" = none
  bool_ : mg "bool" = none
  list_ : mg "list" = none
  all_ : mg "all" = none
  any_ : mg "any" = none
  set_ : mg "set" = none
  sorted_ : mg "sorted" = none
  str_ : mg "str" = none
  enumerate_ : mg "enumerate" = none
  zip_ : mg "zip" = none
  divmod_ : mg "divmod" = none
abbrev sis_whole : Stmt := top 12
abbrev sare_whole : Stmt := top 13
abbrev shas_few_figures : Stmt := top 14
abbrev scommon_divisor : Stmt := top 15
abbrev sis_lead : Stmt := top 17
abbrev sis_line : Stmt := top 18
abbrev sis_point : Stmt := top 20
abbrev sis_heap : Stmt := top 21
abbrev ssplit_text : Stmt := top 23
abbrev sread_numbers : Stmt := top 25
abbrev sread_point : Stmt := top 26
abbrev sread_heap : Stmt := top 27
abbrev sread_line : Stmt := top 28
abbrev s_law_pot : Stmt := top 30
abbrev s_law_take : Stmt := top 31
abbrev s_law_wide : Stmt := top 32
abbrev s_law_number : Stmt := top 33
abbrev s_law_bare : Stmt := top 34
abbrev s_law_within : Stmt := top 35
abbrev s_law_thing : Stmt := top 36
abbrev s_law_whole : Stmt := top 37
abbrev s_law_is_point : Stmt := top 38
abbrev s_law_is_heap : Stmt := top 39
abbrev s_law_is_line : Stmt := top 40
abbrev s_law_is_no_text : Stmt := top 41
abbrev s_law_refused : Stmt := top 42
abbrev s_law_right : Stmt := top 43
abbrev slaw : Stmt := top 44
theorem bt_ValueError : bootBuiltins "ValueError" = some (.type "ValueError") := by decide +kernel
structure TxtC (K : PySem.W.Frag) (mg : Str → Option Value) (CL CN C1 C2 C3 C4 C5 C6 C7 C8 : Addr) : Prop where
  isinstance_ : mg "isinstance" = none
  ValueError_ : mg "ValueError" = none
  cls_LineError : mg "LineError" = some (.ref CL)
  cls_NoText : mg "NoText" = some (.ref CN)
  cls_NoLine : mg "NoLine" = some (.ref C1)
  cls_Empty : mg "Empty" = some (.ref C2)
  cls_NoFlat : mg "NoFlat" = some (.ref C3)
  cls_NoShare : mg "NoShare" = some (.ref C4)
  cls_NoRows : mg "NoRows" = some (.ref C5)
  cls_Lacking : mg "Lacking" = some (.ref C6)
  cls_NoRow : mg "NoRow" = some (.ref C7)
  cls_NoName : mg "NoName" = some (.ref C8)
  exc : PySem.W.excIn K CN bmV "ValueError.__new__" = true
  xc : ExcCls K CN
  mL : PySem.W.exmOne K (.ref CN) (.ref CL) = some true
  iV : PySem.W.kitOne K (.ref CN) (.type "ValueError") = some true
  iA : PySem.W.kitAny K (.ref CN) [.ref C1, .ref C2, .ref C3, .ref C4, .ref C5, .ref C6, .ref C7, .ref C8] = some false
  mN : PySem.W.exmOne K (.ref CN) (.ref CN) = some true
section
variable {P : Program} {w : World} {K : PySem.W.Frag} {mg : Str → Option Value} {base : Heap} {CX : CXT}
abbrev PA0 : MO := .pot 2147483629
def sPot : SpD := fun es μ Q => ∃ (ns : List Int) (k : Nat), es = [.d (.list (ns.map .int)), .d (.int k)] ∧ ns.length ≤ 63 ∧ k ≤ 63 ∧ ∀ p, p ∉ μ.map Prod.fst → Q (.m p) ((p, PA0) :: μ)
theorem cutD_int {ns : List Int} {lo hi : Option Int} {i : Nat} {x : PyData} (h : (cutD (ns.map PyData.int) lo hi)[i]? = some x) : ∃ y, x = .int y := by
  obtain ⟨y, _, e⟩ := List.mem_map.mp (List.mem_of_mem_drop (List.mem_of_mem_take (List.mem_of_getElem? h)))
  exact ⟨y, e.symm⟩
theorem sc_pot : FnScope ["_law_script", "_law_k", "_law_cell", "_law_mixed", "_law_one"] ["_law_script", "_law_k"] (defScope s_law_pot) := ⟨rfl, rfl, rfl, by decide +kernel, rfl, by decide +kernel, by decide +kernel⟩
theorem ok_pot {f : Addr} {fd : FuncData} (F : Fun K "_law_pot" "_law_pot" s_law_pot f fd) (T : Txt mg) : FnOk P w K mg base CX 1 f fd ["_law_script", "_law_k"] (spUp K sPot) := by
  refine F.okD sc_pot (fun es μ Q ⟨ns, k, e, _⟩ => by subst e; rfl) (fun cdv A outer s H E es μ Q hr ⟨ns, n, e, hl, hn, k⟩ => ?_)
  subst e
  have nd := sc_pot.nd
  have key : ∃ t, DSs K (cxOf CX P w K mg base ["_law_script", "_law_k", "_law_cell", "_law_mixed", "_law_one"] "_law_pot" (defScope s_law_pot) f cdv A outer s H E).nox ((defBody s_law_pot).drop 1) t ∧
      ∀ cell : Int, t { nx := fun _ μ' => Q (.d .none) μ', rt := Q } [some (.d (.list (ns.map .int))), some (.d (.int n)), some (.d (.int cell)), none, none] μ := by
    refine ⟨_, (ds_cons (ds_set (i := 3) nd rfl (by first | exact Or.inl rfl | exact Or.inr rfl) (d_op do_add d_int (d_op do_mul d_int (dv 1))))
      (ds_cons (ds_for PassesOwn.never rfl (di_list (d_slice (dv 0) dp_none (dp_some d_int))) (dg_name (i := 4) nd rfl (by first | exact Or.inl rfl | exact Or.inr rfl)) (ds_one (ds_set (i := 3) nd rfl (by first | exact Or.inl rfl | exact Or.inr rfl) (d_op do_mod (d_op do_add (d_op do_mul (dv 3) d_int) (dv 4)) d_int))))
      (ds_one (ds_retF (d_lstM (da_cons (d_callB (dc_max rfl) (by rfl) T.max_ bt_max (da_cons d_int (da_cons (d_op do_sub (dv 2) (d_op do_pow d_int d_int)) da_nil))) (da_cons (dv 3) da_nil))))))), fun cell => ?_⟩
    refine ⟨⟨bigN (by decide) (by decide), bigN (by omega) (by omega)⟩, _, .d _, _, .d _, ?_⟩
    refine forL (fun i ρ' μ' => μ' = μ ∧ ∃ (z : Int) (v : Option En), ρ' = [some (.d (.list (ns.map .int))), some (.d (.int n)), some (.d (.int cell)), some (.d (.int z)), v] ∧ 0 ≤ z ∧ z < 2147483629) ⟨rfl, _, _, rfl, by omega, by omega⟩ (fun _ _ _ _ => .d _) ?_ ?_
    · rintro i x ρ' μ' hx ⟨rfl, z, v, rfl, z0, z1⟩
      obtain ⟨y, rfl⟩ := cutD_int hx
      exact ⟨⟨bigN (by omega) (by omega), bigN (by decide) (by decide)⟩, (show (0 : Int) < 2147483629 by decide), Wks.of ⟨rfl, _, _, rfl, Int.emod_nonneg _ (by decide), Int.emod_lt_of_pos _ (by decide)⟩⟩
    · rintro ρ' μ' ⟨rfl, z, v, rfl, z0, z1⟩
      refine ⟨⟨by decide, by decide, by decide⟩, zl2, fun p hp => ⟨_, _, FzR.pot ?_ z0 z1, k p hp⟩⟩
      dsimp only
      split <;> omega
  obtain ⟨t, ht, hk⟩ := key
  refine ⟨_, (ds_cons (ds_set (i := 2) nd rfl (by first | exact Or.inl rfl | exact Or.inr rfl) (d_ifExp (dt_cmp do_lt (dv 1) (d_callB dc_len (by rfl) T.len_ bt_len (da_cons (dv 0) da_nil)) (nomark _)) (d_ix dx_seq (dv 0) (dv 1) (fun _ _ => rfl)) d_int))
      ht), ?_⟩
  refine ⟨_, .l (.d _), ?_⟩
  rw [List.length_map]
  refine ite2 (fun c => ?_) (fun c => ?_)
  · have hc : (n : Int) < (ns.length : Int) := of_decide_eq_true c
    have hn2 : n < ns.length := by omega
    exact ⟨.int ns[n], atI_nat (by rw [List.getElem?_map, List.getElem?_eq_getElem hn2]; rfl), hk ns[n]⟩
  · exact hk 0
theorem sc_take : FnScope ["_law_pot_here", "_law_many", "_law_digit"] ["_law_pot_here", "_law_many"] (defScope s_law_take) := ⟨rfl, rfl, rfl, by decide +kernel, rfl, by decide +kernel, by decide +kernel⟩
theorem ok_take {f : Addr} {fd : FuncData} (F : Fun K "_law_take" "_law_take" s_law_take f fd) : FnOk P w K mg base CX 1 f fd ["_law_pot_here", "_law_many"] (spUp K (sDraw 2147483629)) := by
  refine FnOk.imp (sp := spTakeM 2147483629) ?_ fun _ _ _ _ h => draw_up h
  refine F.okG sc_take (fun vs H Q E h => ?_) (fun cdv A outer s H vs Q E hr h => ?_)
  · obtain ⟨p, m, rfl, _⟩ := h
    rfl
  · obtain ⟨p, m, rfl, ⟨p0, p1, e, h0, h1, h2⟩, m0, m1, k⟩ := h
    have nd := sc_take.nd
    refine ⟨_, (pss_cons (ps_if (pt_cmpR op_gt (pe_ix ix_list (pv 0) pe_int (fun _ _ => rfl)) pe_int (nomark _)) (pss_cons (ps_set (i := 2) nd rfl (by first | exact Or.inl rfl | exact Or.inr rfl) (pe_op op_mod (pe_ix ix_list (pv 0) pe_int (fun _ _ => rfl)) (pv 1)))
      (pss_cons (ps_asg (pe_op op_fdiv (pe_ix ix_list (pv 0) pe_int (fun _ _ => rfl)) (pv 1)) (pg_sub (pv 0) pe_int set_list))
      (pss_one (ps_ret (pv 2))))) pss_nil)
      (pss_cons (ps_asg (pe_op op_mod (pe_op op_add (pe_op op_mulB (pe_ix ix_list (pv 0) pe_int (fun _ _ => rfl)) pe_int) pe_int) pe_int) (pg_sub (pv 0) pe_int set_list))
      (pss_one (ps_ret (pe_op op_mod (pe_op op_fdiv (pe_op op_mod (pe_op op_mulB (pe_ix ix_list (pv 0) pe_int (fun _ _ => rfl)) (pe_ix ix_list (pv 0) pe_int (fun _ _ => rfl))) pe_int) pe_int) (pv 1)))))), ?_⟩
    refine ⟨_, rfl, p, _, _, _, rfl, rfl, SqL.of e, rfl, _, _, rfl, rfl, _, rfl, ?_⟩
    refine ite2 (fun c => ?_) (fun c => ?_)
    · have hc : 0 < p0 := of_decide_eq_true c
      refine ⟨_, rfl, p, _, _, _, rfl, rfl, SqL.of e, rfl, _, rfl, _, _, rfl, rfl, m0, ?_⟩
      refine ⟨_, rfl, p, _, _, _, rfl, rfl, SqL.of e, rfl, _, rfl, _, _, rfl, rfl, ⟨m0, by omega⟩, _, rfl, p, _, _, _, rfl, rfl, e, rfl, ?_⟩
      refine ⟨_, rfl, ?_⟩
      refine k _ _ (Int.emod_nonneg _ (by omega)) (Int.emod_lt_of_pos _ m0) ⟨p0 / m, p1, upd_same, Int.ediv_nonneg h0 (by omega), h1, h2⟩ Stp.upd
    · refine ⟨_, rfl, p, _, _, _, rfl, rfl, SqL.of e, rfl, _, _, rfl, rfl, ⟨Big.of 2147483629 (by decide) (by omega) (by omega), Big.of 39373 (by decide) (by decide) (by decide)⟩, _, _, rfl, rfl, _, _, rfl, rfl, (show (0 : Int) < 2147483629 by decide), _, rfl, p, _, _, _, rfl, rfl, e, rfl, ?_⟩
      have g0 : 0 ≤ (p1 * 39373 + 2311) % 2147483629 := Int.emod_nonneg _ (by decide)
      have g1 : (p1 * 39373 + 2311) % 2147483629 < 2147483629 := Int.emod_lt_of_pos _ (by decide)
      have e' : ∀ z, (upd H p (.lst [V.int p0, V.int z])) p = some (.lst [V.int p0, V.int z]) := fun z => upd_same
      refine ⟨_, rfl, p, _, _, _, rfl, rfl, SqL.of (e' _), rfl, _, rfl, p, _, _, _, rfl, rfl, SqL.of (e' _), rfl, _, _, rfl, rfl, ⟨Big.of 2147483629 (by decide) (by omega) (by omega), Big.of 2147483629 (by decide) (by omega) (by omega)⟩, _, _, rfl, rfl, (show (0 : Int) < 2147483587 by decide), _, _, rfl, rfl, ⟨by decide, by decide⟩, _, rfl, _, _, rfl, rfl, m0, ?_⟩
      exact k _ _ (Int.emod_nonneg _ (by omega)) (Int.emod_lt_of_pos _ m0) ⟨p0, _, e' _, h0, g0, g1⟩ Stp.upd
theorem e8 : (10 : Int) ^ (8 : Int).toNat = 100000000 := by decide
theorem e30 : (10 : Int) ^ (30 : Int).toNat = 1000000000000000000000000000000 := by decide
theorem sc_wide : FnScope ["_law_pot_here", "_law_found", "_law_k"] ["_law_pot_here"] (defScope s_law_wide) := ⟨rfl, rfl, rfl, by decide +kernel, rfl, by decide +kernel, by decide +kernel⟩
theorem ok_wide {f : Addr} {fd : FuncData} (F : Fun K "_law_wide" "_law_wide" s_law_wide f fd) (T : Txt mg) (hX : NoX CX) (O_law_take : Own P w K mg base CX 1 "_law_take" ["_law_pot_here", "_law_many"] (spUp K (sDraw 2147483629))) : FnOk P w K mg base CX 2 f fd ["_law_pot_here"] (spUp K (sNum 2147483629)) := by
  refine F.okD sc_wide (fun es μ Q ⟨p, e, _⟩ => by subst e; rfl) (fun cdv A outer s H E es μ Q hr ⟨p, e, hp, k⟩ => ?_)
  subst e
  have nd := sc_wide.nd
  refine ⟨_, (ds_cons (ds_set (i := 1) nd rfl (by first | exact Or.inl rfl | exact Or.inr rfl) d_int)
      (ds_cons (ds_for PassesOwn.never rfl (di_range1 rfl T.range_ (da_cons d_int da_nil)) (dg_name (i := 2) nd rfl (by first | exact Or.inl rfl | exact Or.inr rfl)) (ds_one (ds_set (i := 1) nd rfl (by first | exact Or.inl rfl | exact Or.inr rfl) (d_op do_add (d_op do_mul (dv 1) (d_op do_pow d_int d_int)) (d_own O_law_take hX (hr.mono (by decide)) rfl (da_cons (dv 0) (da_cons (d_op do_pow d_int d_int) da_nil)))))))
      (ds_one (ds_ret (d_op do_add (d_op do_sub (d_op do_mod (dv 1) (d_op do_sub (d_op do_mul d_int (d_op do_pow d_int d_int)) d_int)) (d_op do_pow d_int d_int)) d_int))))), ?_⟩
  refine ⟨by decide, by decide, forR (fun i ρ' μ' => μ' = μ ∧ ∃ (z : Int) (v : Option En), ρ' = [some (.m p), some (.d (.int z)), v] ∧ 0 ≤ z ∧ z < 100000000 ^ i) ⟨rfl, 0, none, rfl, by decide, by decide⟩ ?_ ?_⟩
  · rintro i ρ' μ' hi ⟨rfl, z, v, rfl, z0, z1⟩
    have hb : z < 10000000000000000000000000000000000000000 := by
      have : i = 0 ∨ i = 1 ∨ i = 2 ∨ i = 3 := by have hi : i < 4 := hi; omega
      rcases this with rfl | rfl | rfl | rfl <;> simp at z1 <;> omega
    refine ⟨⟨by decide, by decide, by decide⟩, ⟨bigN (by omega) (by omega), by rw [e8]; exact bigN (by decide) (by decide)⟩, ⟨by decide, by decide, by decide⟩, p, _, rfl, hp, by rw [e8]; decide, by rw [e8]; decide, fun d d0 d1 => Wks.of ⟨rfl, _, _, rfl, ?_, ?_⟩⟩
    · rw [e8] at *; omega
    · rw [e8] at *
      rw [Int.pow_succ]
      generalize (100000000 : Int) ^ i = y at z1
      omega
  · rintro ρ' μ' ⟨rfl, z, v, rfl, z0, z1⟩
    refine ⟨⟨by decide, by decide, by decide⟩, ⟨bigN (by decide) (by decide), by rw [e30]; exact bigN (by decide) (by decide)⟩, by rw [e30]; show (0 : Int) < 2 * 1000000000000000000000000000000 - 1; decide, ⟨by decide, by decide, by decide⟩, k _ ?_⟩
    rw [e30]
    unfold Num
    omega
theorem sc_number : FnScope ["_law_pot_here"] ["_law_pot_here"] (defScope s_law_number) := ⟨rfl, rfl, rfl, by decide +kernel, rfl, by decide +kernel, by decide +kernel⟩
theorem ok_number {f : Addr} {fd : FuncData} (F : Fun K "_law_number" "_law_number" s_law_number f fd) (hX : NoX CX) (O_law_take : Own P w K mg base CX 1 "_law_take" ["_law_pot_here", "_law_many"] (spUp K (sDraw 2147483629))) (O_law_wide : Own P w K mg base CX 2 "_law_wide" ["_law_pot_here"] (spUp K (sNum 2147483629))) : FnOk P w K mg base CX 3 f fd ["_law_pot_here"] (spUp K (sNum 2147483629)) := by
  refine F.okD sc_number (fun es μ Q ⟨p, e, _⟩ => by subst e; rfl) (fun cdv A outer s H E es μ Q hr ⟨p, e, hp, k⟩ => ?_)
  subst e
  have nd := sc_number.nd
  refine ⟨_, (ds_cons (ds_if (dt_cmp (do_eq hr.units) (d_own O_law_take hX (hr.mono (by decide)) rfl (da_cons (dv 0) (da_cons d_int da_nil))) d_int (nomark _)) (ds_one (ds_ret (d_own O_law_wide hX (hr.mono (by decide)) rfl (da_cons (dv 0) da_nil)))) ds_nil)
      (ds_one (ds_ret (d_op do_sub (d_own O_law_take hX (hr.mono (by decide)) rfl (da_cons (dv 0) (da_cons d_int da_nil))) d_int)))), ?_⟩
  refine ⟨p, _, rfl, hp, by decide, by decide, fun d d0 d1 => ite2 (fun c => ?_) (fun c => ?_)⟩
  · exact ⟨p, rfl, hp, fun n hn => k n hn⟩
  · refine ⟨p, _, rfl, hp, by decide, by decide, fun d d0 d1 => k _ ?_⟩
    unfold Num
    omega
end
end K15
set_option Elab.async false
set_option linter.all false
set_option maxRecDepth 100000
set_option maxHeartbeats 4000000
local macro_rules | `(tactic| walk_at "i") => `(tactic| first | refine ite2 (fun c => ?_) (fun c => ?_))
namespace K15
open PySem L2
section
variable {P : Program} {w : World} {K : PySem.W.Frag} {mg : Str → Option Value} {base : Heap} {CX : CXT}
def sGcd : SpD := fun es μ Q => ∃ a b : Int, es = [.d (.int a), .d (.int b)] ∧ Q (.d (.int (Int.gcd a b : Nat))) μ
def isW : PyData → Bool
  | .int _ => true
  | _ => false
def isL (a b : Int) : Bool := decide (Int.gcd a b = 1) && (decide (0 < a) || (decide (a = 0) && decide (b = 1)))
def smallT : PyData → Prop
  | .tuple ds => ds.length ≤ 1000
  | _ => True
def sIsW : SpD := fun es μ Q => ∃ x, es = [.d x] ∧ Q (.d (.bool (isW x))) μ
def sAreW : SpD := fun es μ Q => ∃ ds, es = [.d (.tuple ds)] ∧ ds.length ≤ 1000 ∧ Q (.d (.bool (ds.all isW))) μ
def sIsL : SpD := fun es μ Q => ∃ a b : Int, es = [.d (.int a), .d (.int b)] ∧ Q (.d (.bool (isL a b))) μ
theorem sc_is_whole : FnScope ["thing"] ["thing"] (defScope sis_whole) := ⟨rfl, rfl, rfl, by decide +kernel, rfl, by decide +kernel, by decide +kernel⟩
theorem ok_is_whole {f : Addr} {fd : FuncData} (F : Fun K "is_whole" "is_whole" sis_whole f fd) (T : Txt mg) : FnOk P w K mg base CX 1 f fd ["thing"] (spUp K sIsW) := by
  refine F.okD sc_is_whole (fun es μ Q ⟨x, e, _⟩ => by subst e; rfl) (fun cdv A outer s H E es μ Q hr ⟨x, e, k⟩ => ?_)
  subst e
  have nd := sc_is_whole.nd
  refine ⟨_, (ds_one (ds_ret (d_and (d_callB dc_isi (by rfl) T.isinstance_ bt_isinstance (da_cons (dv 0) (da_cons (d_ty rfl T.int_ bt_int) da_nil))) (d_one (d_not (d_callB dc_isi (by rfl) T.isinstance_ bt_isinstance (da_cons (dv 0) (da_cons (d_ty rfl T.bool_ bt_bool) da_nil)))))))), ?_⟩
  refine ⟨by decide, ?_⟩
  cases x <;> first | exact iteT ⟨by decide, k⟩ | exact iteF k
theorem sc_are_whole : FnScope ["things"] ["things"] (defScope sare_whole) := ⟨rfl, rfl, rfl, by decide +kernel, rfl, by decide +kernel, by decide +kernel⟩
theorem ok_are_whole {f : Addr} {fd : FuncData} (F : Fun K "are_whole" "are_whole" sare_whole f fd) (T : Txt mg) (hX : NoX CX) (Ois_whole : Own P w K mg base CX 1 "is_whole" ["thing"] (spUp K sIsW)) : FnOk P w K mg base CX 2 f fd ["things"] (spUp K sAreW) := by
  refine F.okD sc_are_whole (fun es μ Q ⟨x, e, _⟩ => by subst e; rfl) (fun cdv A outer s H E es μ Q hr ⟨ds, e, hl, k⟩ => ?_)
  subst e
  have nd := sc_are_whole.nd
  refine ⟨_, (ds_one (ds_ret (d_callB (dc_all rfl) (by rfl) T.all_ bt_all (da_cons (d_comp (L := ["thing"]) (sc := defScope sare_whole) (N := ["things"]) rfl rfl rfl (by decide +kernel) (di_tup (dv 0)) (fun _ _ _ _ _ => (dg_name (i := 1) (show List.Nodup (["things", "thing"] : List Str) from by decide +kernel) rfl (by first | exact Or.inl rfl | exact Or.inr rfl))) (fun _ _ _ _ _ => dfs_nil) (fun _ _ _ _ _ => (d_own Ois_whole hX (hr.mono (by decide)) rfl (da_cons (dv 1) da_nil)))) da_nil)))), ?_⟩
  refine ⟨hl, compL (fun x => .bool (isW x)) Src.t (fun x _ R h => ?_) ?_⟩
  · exact ⟨x, rfl, h⟩
  refine ⟨ds.map isW, by rw [List.map_map]; exact .d _, ?_⟩
  have e : (ds.map isW).all id = ds.all isW := by rw [List.all_map]; rfl
  rw [← e] at k
  exact k
theorem sc_cd : FnScope ["one", "other", "divisor", "rest"] ["one", "other"] (defScope scommon_divisor) := ⟨rfl, rfl, rfl, by decide +kernel, rfl, by decide +kernel, by decide +kernel⟩
theorem ok_cd {f : Addr} {fd : FuncData} (F : Fun K "common_divisor" "common_divisor" scommon_divisor f fd) (T : Txt mg) : FnOk P w K mg base CX 1 f fd ["one", "other"] (spUp K sGcd) := by
  refine F.okD sc_cd (fun es μ Q ⟨a, b, e, _⟩ => by subst e; rfl) (fun cdv A outer s H E es μ Q hr ⟨a, b, e, k⟩ => ?_)
  subst e
  have nd := sc_cd.nd
  refine ⟨_, (ds_cons (ds_set (i := 2) nd rfl (by first | exact Or.inl rfl | exact Or.inr rfl) (d_callB dc_abs (by rfl) T.abs_ bt_abs (da_cons (dv 0) da_nil)))
      (ds_cons (ds_set (i := 3) nd rfl (by first | exact Or.inl rfl | exact Or.inr rfl) (d_callB dc_abs (by rfl) T.abs_ bt_abs (da_cons (dv 1) da_nil)))
      (ds_cons (ds_while PassesOwn.never (dt_cmp (do_ne hr.units) (dv 3) d_int (nomark _)) (ds_one (ds_par (i := 2) (j := 3) rfl nd rfl rfl (by decide) rfl rfl (da_cons (dv 3) (da_cons (d_op do_mod (dv 2) (dv 3)) da_nil)) rfl)))
      (ds_one (ds_ret (dv 2)))))), ?_⟩
  refine ⟨fun m ρ' μ' => μ' = μ ∧ ∃ f r : Nat, ρ' = [some (.d (.int a)), some (.d (.int b)), some (.d (.int f)), some (.d (.int r))] ∧ m = r ∧ Nat.gcd f r = Int.gcd a b, ⟨_, rfl, _, _, rfl, rfl, rfl⟩, ?_⟩
  rintro m ρ' μ' ⟨rfl, f, r, rfl, rfl, g⟩
  refine ite2 (fun c => ?_) (fun c => ?_)
  · have hm : m ≠ 0 := by
      rintro rfl
      exact absurd c (by decide)
    refine ⟨(show (0 : Int) < (m : Int) by omega), f % m, Nat.mod_lt _ (by omega), Wks.of ⟨rfl, m, f % m, ?_, rfl, by rw [gcd_step]; exact g⟩⟩
    rw [Int.natCast_emod]; rfl
  · have : m = 0 := by
      by_cases z : m = 0
      · exact z
      · exact absurd (show (!decide ((m : Int) = 0)) = true by simp; omega) c
    subst this
    rw [Nat.gcd_zero_right] at g
    subst g
    exact k
theorem sc_is_lead : FnScope ["a", "b"] ["a", "b"] (defScope sis_lead) := ⟨rfl, rfl, rfl, by decide +kernel, rfl, by decide +kernel, by decide +kernel⟩
theorem ok_is_lead {f : Addr} {fd : FuncData} (F : Fun K "is_lead" "is_lead" sis_lead f fd) (hX : NoX CX) (Ocommon_divisor : Own P w K mg base CX 1 "common_divisor" ["one", "other"] (spUp K sGcd)) : FnOk P w K mg base CX 2 f fd ["a", "b"] (spUp K sIsL) := by
  refine F.okD sc_is_lead (fun es μ Q ⟨a, b, e, _⟩ => by subst e; rfl) (fun cdv A outer s H E es μ Q hr ⟨a, b, e, k⟩ => ?_)
  subst e
  have nd := sc_is_lead.nd
  refine ⟨_, (ds_one (ds_ret (d_and (d_cmp (do_eq hr.units) (d_own Ocommon_divisor hX (hr.mono (by decide)) rfl (da_cons (dv 0) (da_cons (dv 1) da_nil))) d_int (nomark _)) (d_one (d_or (d_cmp do_gt (dv 0) d_int (nomark _)) (d_one (d_and (d_cmp (do_eq hr.units) (dv 0) d_int (nomark _)) (d_one (d_cmp (do_eq hr.units) (dv 1) d_int (nomark _)))))))))), ?_⟩
  refine ⟨a, b, rfl, ?_⟩
  unfold isL at k
  refine ite2 (fun c => ?_) (fun c => ?_)
  · have c : ((Int.gcd a b : Nat) : Int) = 1 := of_decide_eq_true c
    rw [decide_eq_true (show Int.gcd a b = 1 by omega), Bool.true_and] at k
    refine ite2 (fun c2 => ?_) (fun c2 => ?_)
    · rw [c2, Bool.true_or] at k; exact k
    · rw [Bool.eq_false_iff.mpr c2, Bool.false_or] at k
      refine ite2 (fun c3 => ?_) (fun c3 => ?_)
      · have c3 : decide (a = 0) = true := c3
        rw [c3, Bool.true_and] at k; exact k
      · have c3 : ¬ decide (a = 0) = true := c3
        rw [Bool.eq_false_iff.mpr c3, Bool.false_and] at k; exact k
  · have c : ¬ ((Int.gcd a b : Nat) : Int) = 1 := fun z => c (decide_eq_true z)
    rw [decide_eq_false (show ¬ Int.gcd a b = 1 by omega), Bool.false_and] at k
    exact k
def few (n : Int) : Bool := decide (n.natAbs < 1000000000000000000000000000000)
def sFew : SpD := fun es μ Q => ∃ n : Int, es = [.d (.int n)] ∧ Q (.d (.bool (few n))) μ
theorem e30' : (10 : Int) ^ (30 : Int).toNat = 1000000000000000000000000000000 := by decide +kernel
theorem sc_few : FnScope ["number"] ["number"] (defScope shas_few_figures) := ⟨rfl, rfl, rfl, by decide +kernel, rfl, by decide +kernel, by decide +kernel⟩
theorem ok_few {f : Addr} {fd : FuncData} (F : Fun K "has_few_figures" "has_few_figures" shas_few_figures f fd) (T : Txt mg) : FnOk P w K mg base CX 1 f fd ["number"] (spUp K sFew) := by
  refine F.okD sc_few (fun es μ Q ⟨n, e, _⟩ => by subst e; rfl) (fun cdv A outer s H E es μ Q hr ⟨n, e, k⟩ => ?_)
  subst e
  have nd := sc_few.nd
  refine ⟨_, (ds_one (ds_ret (d_cmp do_lt (d_callB dc_abs (by rfl) T.abs_ bt_abs (da_cons (dv 0) da_nil)) (d_op do_pow d_int d_int) (nomark _)))), ?_⟩
  refine ⟨⟨by decide, by decide, by decide⟩, ?_⟩
  have e : few n = decide ((n.natAbs : Int) < 1000000000000000000000000000000) := by unfold few; rw [decide_eq_decide]; omega
  change Q (.d (.bool (decide ((n.natAbs : Int) < (10 : Int) ^ (30 : Int).toNat)))) μ
  rw [e30', ← e]
  exact k
def isPt : PyData → Bool
  | .tuple [.int a, .int b] => few a && few b
  | _ => false
def isHp : PyData → Bool
  | .list ds => ds.all isPt
  | _ => false
def isLn : PyData → Bool
  | .tuple [.int a, .int b, .int _] => isL a b
  | _ => false
def Sm : PyData → Prop
  | .list ds => ds.length ≤ 1000 ∧ ∀ d ∈ ds, smallT d
  | .tuple ds => ds.length ≤ 1000
  | _ => True
def sIsPt : SpD := fun es μ Q => ∃ x, es = [.d x] ∧ smallT x ∧ Q (.d (.bool (isPt x))) μ
def sIsHp : SpD := fun es μ Q => ∃ x, es = [.d x] ∧ Sm x ∧ Q (.d (.bool (isHp x))) μ
def sIsLn : SpD := fun es μ Q => ∃ x, es = [.d x] ∧ smallT x ∧ Q (.d (.bool (isLn x))) μ
theorem sc_is_point : FnScope ["thing"] ["thing"] (defScope sis_point) := ⟨rfl, rfl, rfl, by decide +kernel, rfl, by decide +kernel, by decide +kernel⟩
theorem ok_is_point {f : Addr} {fd : FuncData} (F : Fun K "is_point" "is_point" sis_point f fd) (T : Txt mg) (hX : NoX CX) (Oare_whole : Own P w K mg base CX 2 "are_whole" ["things"] (spUp K sAreW)) (Ohas_few_figures : Own P w K mg base CX 1 "has_few_figures" ["number"] (spUp K sFew)) : FnOk P w K mg base CX 3 f fd ["thing"] (spUp K sIsPt) := by
  refine F.okD sc_is_point (fun es μ Q ⟨x, e, _⟩ => by subst e; rfl) (fun cdv A outer s H E es μ Q hr ⟨x, e, hs, k⟩ => ?_)
  subst e
  have nd := sc_is_point.nd
  refine ⟨_, (ds_cons (ds_if (dt_w (dw_or (dt_not (dt_val (d_callB dc_isi (by rfl) T.isinstance_ bt_isinstance (da_cons (dv 0) (da_cons (d_ty rfl T.tuple_ bt_tuple) da_nil))))) (dw_or (dt_cmp (do_ne hr.units) (d_callB dc_len (by rfl) T.len_ bt_len (da_cons (dv 0) da_nil)) d_int (nomark _)) (dw_or1 (dt_not (dt_val (d_own Oare_whole hX (hr.mono (by decide)) rfl (da_cons (dv 0) da_nil)))))))) (ds_one (ds_ret d_bl)) ds_nil)
      (ds_one (ds_ret (d_and (d_own Ohas_few_figures hX (hr.mono (by decide)) rfl (da_cons (d_ix dx_seq (dv 0) d_int (fun _ _ => rfl)) da_nil)) (d_one (d_own Ohas_few_figures hX (hr.mono (by decide)) rfl (da_cons (d_ix dx_seq (dv 0) d_int (fun _ _ => rfl)) da_nil))))))), ?_⟩
  refine ⟨by decide, ?_⟩
  cases x with
  | tuple ds =>
    refine ⟨_, .t _, ?_⟩
    match ds, hs, k with
    | [], hs, k => exact k
    | [h], hs, k => cases h <;> exact k
    | [u, v], hs, k =>
      refine ⟨_, rfl, zl2, ?_⟩
      cases u <;> first
        | exact k
        | (cases v <;> first
            | exact k
            | (refine ⟨_, rfl, _, rfl, ite2 (fun c => ?_) (fun c => ?_)⟩
               · have c : few _ = true := c
                 change Q (.d (.bool (few _ && few _))) μ at k
                 rw [c, Bool.true_and] at k
                 exact ⟨_, rfl, _, rfl, k⟩
               · have c : ¬ few _ = true := c
                 change Q (.d (.bool (few _ && few _))) μ at k
                 rw [Bool.eq_false_iff.mpr c, Bool.false_and] at k
                 exact k))
    | u :: v :: w :: r, hs, k =>
      cases u <;> first
        | exact k
        | (cases v <;> exact k)
  | _ => exact k
theorem sc_is_heap : FnScope ["thing"] ["thing"] (defScope sis_heap) := ⟨rfl, rfl, rfl, by decide +kernel, rfl, by decide +kernel, by decide +kernel⟩
theorem ok_is_heap {f : Addr} {fd : FuncData} (F : Fun K "is_heap" "is_heap" sis_heap f fd) (T : Txt mg) (hX : NoX CX) (Ois_point : Own P w K mg base CX 3 "is_point" ["thing"] (spUp K sIsPt)) : FnOk P w K mg base CX 4 f fd ["thing"] (spUp K sIsHp) := by
  refine F.okD sc_is_heap (fun es μ Q ⟨x, e, _⟩ => by subst e; rfl) (fun cdv A outer s H E es μ Q hr ⟨x, e, hs, k⟩ => ?_)
  subst e
  have nd := sc_is_heap.nd
  refine ⟨_, (ds_one (ds_ret (d_and (d_callB dc_isi (by rfl) T.isinstance_ bt_isinstance (da_cons (dv 0) (da_cons (d_ty rfl T.list_ bt_list) da_nil))) (d_one (d_callB (dc_all rfl) (by rfl) T.all_ bt_all (da_cons (d_comp (L := ["part"]) (sc := defScope sis_heap) (N := ["thing"]) rfl rfl rfl (by decide +kernel) (di_list (dv 0)) (fun _ _ _ _ _ => (dg_name (i := 1) (show List.Nodup (["thing", "part"] : List Str) from by decide +kernel) rfl (by first | exact Or.inl rfl | exact Or.inr rfl))) (fun _ _ _ _ _ => dfs_nil) (fun _ _ _ _ _ => (d_own Ois_point hX (hr.mono (by decide)) rfl (da_cons (dv 1) da_nil)))) da_nil)))))), ?_⟩
  refine ⟨by decide, ?_⟩
  cases x with
  | list ds =>
    obtain ⟨hl, hd⟩ := hs
    refine iteT ⟨_, .d _, hl, compL (fun x => .bool (isPt x)) (Src.l (.d _)) (fun x hx R h => ⟨x, rfl, hd x hx, h⟩) ?_⟩
    refine ⟨ds.map isPt, by rw [List.map_map]; exact .d _, ?_⟩
    have e : (ds.map isPt).all id = ds.all isPt := by rw [List.all_map]; rfl
    change Q (.d (.bool ((ds.map isPt).all id))) μ
    rw [e]
    exact k
  | _ => exact iteF k
theorem sc_is_line : FnScope ["thing"] ["thing"] (defScope sis_line) := ⟨rfl, rfl, rfl, by decide +kernel, rfl, by decide +kernel, by decide +kernel⟩
theorem ok_is_line {f : Addr} {fd : FuncData} (F : Fun K "is_line" "is_line" sis_line f fd) (T : Txt mg) (hX : NoX CX) (Oare_whole : Own P w K mg base CX 2 "are_whole" ["things"] (spUp K sAreW)) (Ois_lead : Own P w K mg base CX 2 "is_lead" ["a", "b"] (spUp K sIsL)) : FnOk P w K mg base CX 3 f fd ["thing"] (spUp K sIsLn) := by
  refine F.okD sc_is_line (fun es μ Q ⟨x, e, _⟩ => by subst e; rfl) (fun cdv A outer s H E es μ Q hr ⟨x, e, hs, k⟩ => ?_)
  subst e
  have nd := sc_is_line.nd
  refine ⟨_, (ds_cons (ds_if (dt_w (dw_or (dt_not (dt_val (d_callB dc_isi (by rfl) T.isinstance_ bt_isinstance (da_cons (dv 0) (da_cons (d_ty rfl T.tuple_ bt_tuple) da_nil))))) (dw_or (dt_cmp (do_ne hr.units) (d_callB dc_len (by rfl) T.len_ bt_len (da_cons (dv 0) da_nil)) d_int (nomark _)) (dw_or1 (dt_not (dt_val (d_own Oare_whole hX (hr.mono (by decide)) rfl (da_cons (dv 0) da_nil)))))))) (ds_one (ds_ret d_bl)) ds_nil)
      (ds_one (ds_ret (d_own Ois_lead hX (hr.mono (by decide)) rfl (da_cons (d_ix dx_seq (dv 0) d_int (fun _ _ => rfl)) (da_cons (d_ix dx_seq (dv 0) d_int (fun _ _ => rfl)) da_nil)))))), ?_⟩
  refine ⟨by decide, ?_⟩
  cases x with
  | tuple ds =>
    refine ⟨_, .t _, ?_⟩
    match ds, hs, k with
    | [], hs, k => exact k
    | [h], hs, k => cases h <;> exact k
    | [u, v], hs, k => cases u <;> first | exact k | (cases v <;> exact k)
    | [u, v, w], hs, k =>
      refine ⟨_, rfl, zl3, ?_⟩
      cases u <;> first
        | exact k
        | (cases v <;> first
            | exact k
            | (cases w <;> first
                | exact k
                | exact ⟨_, rfl, _, rfl, _, _, rfl, k⟩))
    | u :: v :: w :: z :: r, hs, k =>
      cases u <;> first
        | exact k
        | (cases v <;> first | exact k | (cases w <;> exact k))
  | _ => exact k
end
end K15
set_option Elab.async false
set_option linter.all false
set_option maxRecDepth 100000
set_option maxHeartbeats 4000000
local macro_rules | `(tactic| walk_at "i") => `(tactic| first | refine ite2 (fun c => ?_) (fun c => ?_))
namespace K15
open PySem L2
section
variable {P : Program} {w : World} {K : PySem.W.Frag} {mg : Str → Option Value} {base : Heap} {CX : CXT}
variable {CL CN C1 C2 C3 C4 C5 C6 C7 C8 : Addr}
def isStr : PyData → Bool
  | .str _ => true
  | _ => false
def spNo1 (K : PySem.W.Frag) (C : Addr) : Sp := fun vs H Q E => ∃ (v : V) (x : PyData), vs = [v] ∧ Is K H v x ∧ isStr x = false ∧ ∀ H', Same H H' → E (.ref C) none H'
def spNo2 (K : PySem.W.Frag) (C : Addr) : Sp := fun vs H Q E => ∃ (v : V) (m : Str) (x : PyData), vs = [v, .str m] ∧ Is K H v x ∧ isStr x = false ∧ ∀ H', Same H H' → E (.ref C) none H'
theorem pe_nev {X : Cx} {e : Expr} : PE X e (fun _ _ _ => False) := fun _ _ _ _ _ _ h => h.elim
theorem pg_nev {X : Cx} {e : Expr} : PG X e (fun _ _ _ _ => False) := fun _ _ _ _ _ _ _ _ _ h => h.elim
theorem call_nev {X : Cx} {T : String} : CallR X (.type T) (fun _ _ _ => False) := fun _ _ _ _ _ _ _ _ _ h => h.elim
theorem args1 {tr : TAd} {ρ : Rho} {σ : St} {H : Hp} {Q : List V → Hp → Prop} (es : List En) (hS : RelS K ρ [] σ H) (ht : ∀ R : List En → Mu → Prop, R es [] → tr ρ [] R) (k : ∀ vs H', Same H H' → Paired (IsE K [] H') vs es → Q vs H') : upA K tr σ H Q := by
  refine ⟨ρ, [], fun c μ => c = es ∧ μ = [], hS, RelM.nil, ht _ ⟨rfl, rfl⟩, ?_⟩
  rintro c μ' vs H' ⟨rfl, rfl⟩ _ s i
  rw [mask_nil, mask_nil] at s
  exact k vs H' s i
theorem isE_nil {H : Hp} {v : V} {x : PyData} (h : IsE K [] H v (.d x)) : Is K H v x := by
  have h : Is K (mask [] H) v x := h
  rwa [mask_nil] at h
theorem no2_at {tr : TAd} {ρ : Rho} {σ : St} {H : Hp} {E : XK} {C : Addr} {x : PyData} {m : Str} {Q : VK} (hS : RelS K ρ [] σ H) (ht : ∀ R : List En → Mu → Prop, R [.d x, .d (.str m)] [] → tr ρ [] R) (hb : isStr x = false) (k : ∀ H', Same H H' → E (.ref C) none H') : tCall (spNo2 K C) [] E (upA K tr) σ H Q := by
  refine args1 _ hS ht fun vs H' s i => ?_
  obtain ⟨v, v', rfl, i1, i2⟩ := pair2 i
  cases isE_nil i2
  exact ⟨v, m, x, rfl, isE_nil i1, hb, fun H'' s2 => k H'' (s.trans s2)⟩
theorem ok_splX {f : Addr} {fd : FuncData} (F : Fun K "split_text" "split_text" ssplit_text f fd) (T : Txt mg) (TC : TxtC K mg CL CN C1 C2 C3 C4 C5 C6 C7 C8) : FnOk P w K mg base (XC P w) 1 f fd ["text", "mark"] (spNo2 K CN) := by
  refine okX F (N := ["text", "mark"]) ⟨rfl, rfl, rfl, by decide +kernel, rfl, by decide +kernel, by decide +kernel⟩ (fun vs H Q E h => ?_) (fun cdv A outer s H vs Q E hr h => ?_)
  · obtain ⟨v, m, x, rfl, _⟩ := h
    rfl
  · obtain ⟨v, m, x, rfl, i1, hx, kE⟩ := h
    refine ⟨_, pss_cons (ps_if (dt_not (dt_val (d_callB dc_isi (by rfl) T.isinstance_ bt_isinstance (da_cons (dv 0) (da_cons (d_ty rfl T.str_ bt_str) da_nil))))) (pss_one (ps_raise (C := CN) TC.exc PySem.F.excBase_ValueError TC.cls_NoText rfl (pa_cons pe_str pa_nil))) pss_nil) pss_never, ?_⟩
    have hS0 : RelS K [some (.d x), none] [] (start ["text", "mark"] [v, .str m]) H := by
      refine ⟨rfl, fun i e q => ?_⟩
      match i, q with
      | 0, q => cases q; exact ⟨v, rfl, IsE.nil i1⟩
      | 1, q => cases q
    refine test_at true hS0 (fun R h => ⟨by decide, ?_⟩) fun H' s => iteT ⟨sz1, kE H' s⟩
    have e : isTy "str" x = false := by
      cases x <;> first | rfl | exact absurd hx (by decide) | (simp [isStr] at hx)
    change R (!isTy "str" x) []
    rw [e]
    exact h
theorem ok_rnX {f : Addr} {fd : FuncData} (F : Fun K "read_numbers" "read_numbers" sread_numbers f fd) (T : Txt mg) (Osplit_text : Own P w K mg base (XC P w) 1 "split_text" ["text", "mark"] (spNo2 K CN)) : FnOk P w K mg base (XC P w) 2 f fd ["text", "mark"] (spNo2 K CN) := by
  refine okX F (N := ["text", "mark"]) ⟨rfl, rfl, rfl, by decide +kernel, rfl, by decide +kernel, by decide +kernel⟩ (fun vs H Q E h => ?_) (fun cdv A outer s H vs Q E hr h => ?_)
  · obtain ⟨v, m, x, rfl, _⟩ := h
    rfl
  · obtain ⟨v, m, x, rfl, i1, hx, kE⟩ := h
    refine ⟨_, pss_one (ps_ret (pe_callTy call_nev rfl T.tuple_ bt_tuple (pa_cons (pe_comp (L := ["word"]) (sc := defScope sread_numbers) (N := ["text", "mark"]) rfl rfl rfl (by decide +kernel) (pi_list (pe_ownX Osplit_text passX (hr.mono (by decide)) rfl (da_cons (K := K) (dv 0) (da_cons (dv 1) da_nil)))) (fun _ _ _ _ _ => pg_nev) (fun _ _ _ _ _ => ifs_nil) (fun _ _ _ _ _ => pe_nev)) pa_nil))), ?_⟩
    have hS0 : RelS K [some (.d x), some (.d (.str m))] [] (start ["text", "mark"] [v, .str m]) H := RelS.of (K := K) 0 (.cons (IsE.nil i1) (.cons (IsE.nil (.str m)) .nil))
    exact no2_at hS0 (fun R h => h) hx kE
theorem ok_rpX {f : Addr} {fd : FuncData} (F : Fun K "read_point" "read_point" sread_point f fd) (Oread_numbers : Own P w K mg base (XC P w) 2 "read_numbers" ["text", "mark"] (spNo2 K CN)) : FnOk P w K mg base (XC P w) 3 f fd ["text"] (spNo1 K CN) := by
  refine okX F (N := ["text", "point"]) ⟨rfl, rfl, rfl, by decide +kernel, rfl, by decide +kernel, by decide +kernel⟩ (fun vs H Q E h => ?_) (fun cdv A outer s H vs Q E hr h => ?_)
  · obtain ⟨v, x, rfl, _⟩ := h
    rfl
  · obtain ⟨v, x, rfl, i1, hx, kE⟩ := h
    have nd : List.Nodup (["text", "point"] : List Str) := by decide +kernel
    refine ⟨_, pss_cons (ps_set (i := 1) nd rfl (by first | exact Or.inl rfl | exact Or.inr rfl) (pe_ownX Oread_numbers passX (hr.mono (by decide)) rfl (da_cons (K := K) (dv 0) (da_cons d_str da_nil)))) pss_never, ?_⟩
    have hS0 : RelS K [some (.d x), none] [] (start ["text", "point"] [v]) H := RelS.of (K := K) 1 (.cons (IsE.nil i1) .nil)
    exact no2_at hS0 (fun R h => h) hx kE
theorem ok_rlX {f : Addr} {fd : FuncData} (F : Fun K "read_line" "read_line" sread_line f fd) (Oread_numbers : Own P w K mg base (XC P w) 2 "read_numbers" ["text", "mark"] (spNo2 K CN)) : FnOk P w K mg base (XC P w) 3 f fd ["text"] (spNo1 K CN) := by
  refine okX F (N := ["text", "line"]) ⟨rfl, rfl, rfl, by decide +kernel, rfl, by decide +kernel, by decide +kernel⟩ (fun vs H Q E h => ?_) (fun cdv A outer s H vs Q E hr h => ?_)
  · obtain ⟨v, x, rfl, _⟩ := h
    rfl
  · obtain ⟨v, x, rfl, i1, hx, kE⟩ := h
    have nd : List.Nodup (["text", "line"] : List Str) := by decide +kernel
    refine ⟨_, pss_cons (ps_set (i := 1) nd rfl (by first | exact Or.inl rfl | exact Or.inr rfl) (pe_ownX Oread_numbers passX (hr.mono (by decide)) rfl (da_cons (K := K) (dv 0) (da_cons d_str da_nil)))) pss_never, ?_⟩
    have hS0 : RelS K [some (.d x), none] [] (start ["text", "line"] [v]) H := RelS.of (K := K) 1 (.cons (IsE.nil i1) .nil)
    exact no2_at hS0 (fun R h => h) hx kE
theorem ok_rhX {f : Addr} {fd : FuncData} (F : Fun K "read_heap" "read_heap" sread_heap f fd) (Osplit_text : Own P w K mg base (XC P w) 1 "split_text" ["text", "mark"] (spNo2 K CN)) : FnOk P w K mg base (XC P w) 2 f fd ["text"] (spNo1 K CN) := by
  refine okX F (N := ["text", "words"]) ⟨rfl, rfl, rfl, by decide +kernel, rfl, by decide +kernel, by decide +kernel⟩ (fun vs H Q E h => ?_) (fun cdv A outer s H vs Q E hr h => ?_)
  · obtain ⟨v, x, rfl, _⟩ := h
    rfl
  · obtain ⟨v, x, rfl, i1, hx, kE⟩ := h
    have nd : List.Nodup (["text", "words"] : List Str) := by decide +kernel
    refine ⟨_, pss_cons (ps_set (i := 1) nd rfl (by first | exact Or.inl rfl | exact Or.inr rfl) (pe_ownX Osplit_text passX (hr.mono (by decide)) rfl (da_cons (K := K) (dv 0) (da_cons d_str da_nil)))) pss_never, ?_⟩
    have hS0 : RelS K [some (.d x), none] [] (start ["text", "words"] [v]) H := RelS.of (K := K) 1 (.cons (IsE.nil i1) .nil)
    exact no2_at hS0 (fun R h => h) hx kE
end
end K15
set_option Elab.async false
set_option linter.all false
set_option maxRecDepth 100000
set_option maxHeartbeats 4000000
local macro_rules | `(tactic| walk_at "i") => `(tactic| first | refine ite2 (fun c => ?_) (fun c => ?_))
namespace K15
open PySem L2
section
variable {P : Program} {w : World} {K : PySem.W.Frag} {mg : Str → Option Value} {base : Heap} {CX : CXT}
variable {CL CN C1 C2 C3 C4 C5 C6 C7 C8 : Addr}
theorem pairC {α β : Type} {R : α → β → Prop} {vs : List α} {e : β} {es : List β} (h : PySem.Paired R vs (e :: es)) : ∃ v vs', vs = v :: vs' ∧ R v e ∧ PySem.Paired R vs' es := by
  cases h with
  | cons a b => exact ⟨_, _, rfl, a, b⟩
def spEmp (C : Addr) : Sp := fun vs H Q _ => ∃ ea, vs = [.ref ea] ∧ H ea = some (excO ea (.ref C)) ∧ ∀ H', Same H H' → Q (.bl true) H'
theorem sc_nt : FnScope ["_law_e"] ["_law_e"] (defScope s_law_is_no_text) := ⟨rfl, rfl, rfl, by decide +kernel, rfl, by decide +kernel, by decide +kernel⟩
theorem ok_nt {f : Addr} {fd : FuncData} (F : Fun K "_law_is_no_text" "_law_is_no_text" s_law_is_no_text f fd) (T : TxtC K mg CL CN C1 C2 C3 C4 C5 C6 C7 C8) : FnU P w K mg base (XC P w) 1 f fd ["_law_e"] (spEmp CN) := by
  refine F.okU sc_nt (fun vs H Q E h => ?_) (fun cdv A outer s H vs Q E hr h => ?_)
  · obtain ⟨ea, rfl, _⟩ := h
    rfl
  · obtain ⟨ea, rfl, ee, k⟩ := h
    have nd := sc_nt.nd
    refine ⟨_, (pss_cons (ps_if (pt_val (pe_callB (call_isx (K := K) rfl) (by rfl) T.isinstance_ bt_isinstance (pa_cons (pv 0) (pa_cons (pe_tup (pa_cons (pe_glob (v := V.ref _) rfl T.cls_NoLine rfl) (pa_cons (pe_glob (v := V.ref _) rfl T.cls_Empty rfl) (pa_cons (pe_glob (v := V.ref _) rfl T.cls_NoFlat rfl) (pa_cons (pe_glob (v := V.ref _) rfl T.cls_NoShare rfl) (pa_cons (pe_glob (v := V.ref _) rfl T.cls_NoRows rfl) (pa_cons (pe_glob (v := V.ref _) rfl T.cls_Lacking rfl) (pa_cons (pe_glob (v := V.ref _) rfl T.cls_NoRow rfl) (pa_cons (pe_glob (v := V.ref _) rfl T.cls_NoName rfl) pa_nil))))))))) pa_nil)))) (pss_one (ps_ret pe_bl)) pss_nil)
      (pss_one (ps_ret (pe_and (pe_callB (call_isx (K := K) rfl) (by rfl) T.isinstance_ bt_isinstance (pa_cons (pv 0) (pa_cons (pe_glob (v := V.ref _) rfl T.cls_NoText rfl) pa_nil))) (pe_one (pe_callB (call_isx (K := K) rfl) (by rfl) T.isinstance_ bt_isinstance (pa_cons (pv 0) (pa_cons (pe_bltn (v := V.ty "ValueError") rfl T.ValueError_ bt_ValueError rfl) pa_nil)))))))), ?_⟩
    refine ⟨_, rfl, (by show 8 ≤ sizeLine; decide), fun tp htp => ?_⟩
    have sb := Same.upd (o := .tup [.ref C1, .ref C2, .ref C3, .ref C4, .ref C5, .ref C6, .ref C7, .ref C8]) htp
    have eb := sb _ _ ee
    refine ⟨ea, CN, _, false, rfl, eb, T.xc, .inr ⟨tp, _, _, rfl, upd_same, .cons rfl (.cons rfl (.cons rfl (.cons rfl (.cons rfl (.cons rfl (.cons rfl (.cons rfl .nil))))))), T.iA⟩, ?_⟩
    refine ⟨_, rfl, iteF ⟨_, rfl, ea, CN, _, true, rfl, eb, T.xc, .inl ⟨_, rfl, by simp [PySem.W.kitOne]⟩, _, rfl, iteT ?_⟩⟩
    exact ⟨_, rfl, ea, CN, _, true, rfl, eb, T.xc, .inl ⟨_, rfl, T.iV⟩, k _ sb⟩
def spRef (K : PySem.W.Frag) : Sp := fun vs H Q _ => ∃ (n : Int) (v : V) (x : PyData), vs = [.int n, v] ∧ Is K H v x ∧ isStr x = false ∧ ∀ H', Same H H' → Q (.bl true) H'
def sRef : SpD := fun es μ Q => ∃ (n : Int) (x : PyData), es = [.d (.int n), .d x] ∧ isStr x = false ∧ Q (.d (.bool true)) μ
theorem sc_refused : FnScope ["_law_way", "_law_thing_here", "_law_told", "_law_e"] ["_law_way", "_law_thing_here"] (defScope s_law_refused) := ⟨rfl, rfl, rfl, by decide +kernel, rfl, by decide +kernel, by decide +kernel⟩
theorem ok_refused {f : Addr} {fd : FuncData} (F : Fun K "_law_refused" "_law_refused" s_law_refused f fd) (T : TxtC K mg CL CN C1 C2 C3 C4 C5 C6 C7 C8) (Oread_point : Own P w K mg base (XC P w) 3 "read_point" ["text"] (spNo1 K CN)) (Oread_heap : Own P w K mg base (XC P w) 2 "read_heap" ["text"] (spNo1 K CN)) (Oread_line : Own P w K mg base (XC P w) 3 "read_line" ["text"] (spNo1 K CN)) (U_law_is_no_text : OwnU P w K mg base (XC P w) 1 "_law_is_no_text" ["_law_e"] (spEmp CN)) : FnOk P w K mg base (XC P w) 4 f fd ["_law_way", "_law_thing_here"] (spUp K sRef) := by
  refine FnOk.imp (sp := spRef K) ?_ ?_
  · refine F.okG sc_refused (fun vs H Q E h => ?_) (fun cdv A outer s H vs Q E hr h => ?_)
    · obtain ⟨n, v, x, rfl, _⟩ := h
      rfl
    · obtain ⟨n, v, x, rfl, i1, hx, k⟩ := h
      have nd := sc_refused.nd
      have hX : NoX (XC P w) := noXC
      refine ⟨_, (pss_cons (ps_set (i := 2) nd rfl (by first | exact Or.inl rfl | exact Or.inr rfl) pe_bl)
      (pss_cons (ps_try (i := 3) (k := 4) rfl rfl nd rfl rfl rfl rfl T.cls_LineError (fun E pn xe hp => (pss_one (ps_if (pt_cmpR op_eq (pv 0) pe_int (nomark _)) (pss_one (ps_expr (pe_ownX Oread_point hp (hr.mono (by decide)) rfl (pa_cons (pv 1) pa_nil)))) (pss_one (ps_if (pt_cmpR op_eq (pv 0) pe_int (nomark _)) (pss_one (ps_expr (pe_ownX Oread_heap hp (hr.mono (by decide)) rfl (pa_cons (pv 1) pa_nil)))) (pss_one (ps_expr (pe_ownX Oread_line hp (hr.mono (by decide)) rfl (pa_cons (pv 1) pa_nil))))))))) (fun ea => (pss_one (ps_set (i := 2) nd rfl (by first | exact Or.inl rfl | exact Or.inr rfl) (pe_ownU U_law_is_no_text hX (RoomU.mark (hr.toU.mono (by decide))) rfl (pa_cons (pv 3) pa_nil))))))
      (pss_one (ps_ret (pv 2))))), ?_⟩
      have fin : ∀ H0, Same H H0 → PySem.W.exmOne K (.ref CN) (.ref CL) = some true ∧ ∀ ea, H0 ea = none → tAsg (tCall (spEmp CN) [] E0 (tCons (tVar 3) tNil)) (gName 2) { nx := fun σ' H2 => tRet (tVar 2) { nx := fun _ H' => Q V.non H', rt := Q } (σ'.set 3 none) H2, rt := Q, bk := fun σ' H2 => False, ct := fun σ' H2 => False } ((blank 4).set 3 (some (.ref ea))) (upd H0 ea (excO ea (.ref CN))) :=
        fun H0 s0 => ⟨T.mL, fun ea hea => ⟨_, rfl, ea, rfl, upd_same, fun H2 s2 => ⟨_, rfl, k _ ((s0.trans (Same.upd hea)).trans s2)⟩⟩⟩
      refine ⟨_, rfl, rfl, _, rfl, ite2 (fun _ => ?_) (fun _ => ⟨_, rfl, rfl, _, rfl, ite2 (fun _ => ?_) (fun _ => ?_)⟩)⟩
      all_goals exact ⟨_, rfl, v, x, rfl, i1, hx, fun H0 s0 => fin H0 s0⟩
  · intro vs H Q E h
    obtain ⟨μ, es, Q0, M, hp, ⟨n, x, rfl, hx, q⟩, cl⟩ := up_at h
    obtain ⟨v0, vs, rfl, i0, hp⟩ := pairC hp
    obtain ⟨v1, vs, rfl, i1, hp⟩ := pairC hp
    cases hp
    have i0 : Is K (mask μ H) v0 (.int n) := i0
    cases i0
    exact ⟨n, v1, x, rfl, Is.same mask_le i1, hx, fun H' s => cl _ _ H' q s (.bl _)⟩
end
end K15
set_option Elab.async false
set_option linter.all false
set_option maxRecDepth 100000
set_option maxHeartbeats 4000000
local macro_rules | `(tactic| walk_at "i") => `(tactic| first | refine ite2 (fun c => ?_) (fun c => ?_))
namespace K15
open PySem L2
section
variable {P : Program} {w : World} {K : PySem.W.Frag} {mg : Str → Option Value} {base : Heap} {CX : CXT}
theorem sc_lw : FnScope ["_law_thing_here"] ["_law_thing_here"] (defScope s_law_whole) := ⟨rfl, rfl, rfl, by decide +kernel, rfl, by decide +kernel, by decide +kernel⟩
theorem ok_lw {f : Addr} {fd : FuncData} (F : Fun K "_law_whole" "_law_whole" s_law_whole f fd) (T : Txt mg) : FnOk P w K mg base CX 1 f fd ["_law_thing_here"] (spUp K sIsW) := by
  refine F.okD sc_lw (fun es μ Q ⟨x, e, _⟩ => by subst e; rfl) (fun cdv A outer s H E es μ Q hr ⟨x, e, k⟩ => ?_)
  subst e
  have nd := sc_lw.nd
  refine ⟨_, (ds_one (ds_ret (d_and (d_callB dc_isi (by rfl) T.isinstance_ bt_isinstance (da_cons (dv 0) (da_cons (d_ty rfl T.int_ bt_int) da_nil))) (d_one (d_not (d_callB dc_isi (by rfl) T.isinstance_ bt_isinstance (da_cons (dv 0) (da_cons (d_ty rfl T.bool_ bt_bool) da_nil)))))))), ?_⟩
  refine ⟨by decide, ?_⟩
  cases x <;> first | exact iteT ⟨by decide, k⟩ | exact iteF k
def isF : PyData → Bool
  | .int n => few n
  | _ => false
theorem few_chain (n : Int) : few n = (decide (-(1000000000000000000000000000000 : Int) < n) && decide (n < 1000000000000000000000000000000)) := by
  unfold few
  rw [Bool.eq_iff_iff]
  simp only [decide_eq_true_eq, Bool.and_eq_true]
  omega
theorem pt_all {ds : List PyData} (h : ds.length = 2) : isPt (.tuple ds) = ds.all isF := by
  match ds, h with
  | [u, v], _ => cases u <;> cases v <;> simp [isPt, isF]
theorem pt_ne {ds : List PyData} (h : ds.length ≠ 2) : isPt (.tuple ds) = false := by
  match ds, h with
  | [], _ => rfl
  | [u], _ => cases u <;> rfl
  | [u, v], h => exact absurd rfl h
  | u :: v :: w :: r, _ => cases u <;> cases v <;> rfl
theorem sc_lpt : FnScope ["_law_thing_here"] ["_law_thing_here"] (defScope s_law_is_point) := ⟨rfl, rfl, rfl, by decide +kernel, rfl, by decide +kernel, by decide +kernel⟩
theorem ok_lpt {f : Addr} {fd : FuncData} (F : Fun K "_law_is_point" "_law_is_point" s_law_is_point f fd) (T : Txt mg) (hX : NoX CX) (O_law_whole : Own P w K mg base CX 1 "_law_whole" ["_law_thing_here"] (spUp K sIsW)) : FnOk P w K mg base CX 2 f fd ["_law_thing_here"] (spUp K sIsPt) := by
  refine F.okD sc_lpt (fun es μ Q ⟨x, e, _⟩ => by subst e; rfl) (fun cdv A outer s H E es μ Q hr ⟨x, e, hs, k⟩ => ?_)
  subst e
  have nd := sc_lpt.nd
  refine ⟨_, (ds_cons (ds_if (dt_w (dw_or (dt_not (dt_val (d_callB dc_isi (by rfl) T.isinstance_ bt_isinstance (da_cons (dv 0) (da_cons (d_ty rfl T.tuple_ bt_tuple) da_nil))))) (dw_or1 (dt_cmp (do_ne hr.units) (d_callB dc_len (by rfl) T.len_ bt_len (da_cons (dv 0) da_nil)) d_int (nomark _))))) (ds_one (ds_ret d_bl)) ds_nil)
      (ds_one (ds_ret (d_callB (dc_all rfl) (by rfl) T.all_ bt_all (da_cons (d_comp (L := ["_law_number_here"]) (sc := defScope s_law_is_point) (N := ["_law_thing_here"]) rfl rfl rfl (by decide +kernel) (di_tup (dv 0)) (fun _ _ _ _ _ => (dg_name (i := 1) (show List.Nodup (["_law_thing_here", "_law_number_here"] : List Str) from by decide +kernel) rfl (by first | exact Or.inl rfl | exact Or.inr rfl))) (fun _ _ _ _ _ => dfs_nil) (fun _ _ _ _ _ => (d_and (d_own O_law_whole hX (hr.mono (by decide)) rfl (da_cons (dv 1) da_nil)) (d_one (d_chain do_lt do_lt (d_un du_neg (d_op do_pow d_int d_int)) (dv 1) (d_op do_pow d_int d_int) (nomark _) (nomark _)))))) da_nil))))), ?_⟩
  refine ⟨by decide, ?_⟩
  cases x with
  | tuple ds =>
    refine iteF ⟨_, .t _, ite2 (fun c => ?_) (fun c => ?_)⟩
    · have c : (!decide ((ds.length : Int) = 2)) = true := c
      rw [pt_ne (by intro z; rw [z] at c; exact absurd c (by decide))] at k
      exact k
    · have c : ¬ (!decide ((ds.length : Int) = 2)) = true := c
      have hl : ds.length = 2 := by
        by_cases z : ds.length = 2
        · exact z
        · exact absurd (show (!decide ((ds.length : Int) = 2)) = true by simp; omega) c
      rw [pt_all hl] at k
      refine ⟨(by show ds.length ≤ 1000; omega), compL (fun x => .bool (isF x)) Src.t (fun x _ R h => ?_) ?_⟩
      · refine ⟨x, rfl, ?_⟩
        cases x with
        | int n =>
          have h : R (.d (.bool (few n))) μ := h
          rw [few_chain] at h
          refine iteT ⟨⟨by decide, by decide, by decide⟩, ite2 (fun c => ⟨⟨by decide, by decide, by decide⟩, ?_⟩) (fun c => ?_)⟩
          · have c : decide (-((10 : Int) ^ (30 : Int).toNat) < n) = true := c
            rw [e30'] at c
            rw [c, Bool.true_and] at h
            change R (.d (.bool (decide (n < (10 : Int) ^ (30 : Int).toNat)))) μ
            rw [e30']
            exact h
          · have c : ¬ decide (-((10 : Int) ^ (30 : Int).toNat) < n) = true := c
            rw [e30'] at c
            rw [Bool.eq_false_iff.mpr c, Bool.false_and] at h
            exact h
        | _ => exact iteF h
      · refine ⟨ds.map isF, by rw [List.map_map]; exact .d _, ?_⟩
        have e : (ds.map isF).all id = ds.all isF := by rw [List.all_map]; rfl
        change Q (.d (.bool ((ds.map isF).all id))) μ
        rw [e]
        exact k
  | _ => exact iteT k
theorem sc_lhp : FnScope ["_law_thing_here"] ["_law_thing_here"] (defScope s_law_is_heap) := ⟨rfl, rfl, rfl, by decide +kernel, rfl, by decide +kernel, by decide +kernel⟩
theorem ok_lhp {f : Addr} {fd : FuncData} (F : Fun K "_law_is_heap" "_law_is_heap" s_law_is_heap f fd) (T : Txt mg) (hX : NoX CX) (O_law_is_point : Own P w K mg base CX 2 "_law_is_point" ["_law_thing_here"] (spUp K sIsPt)) : FnOk P w K mg base CX 3 f fd ["_law_thing_here"] (spUp K sIsHp) := by
  refine F.okD sc_lhp (fun es μ Q ⟨x, e, _⟩ => by subst e; rfl) (fun cdv A outer s H E es μ Q hr ⟨x, e, hs, k⟩ => ?_)
  subst e
  have nd := sc_lhp.nd
  refine ⟨_, (ds_one (ds_ret (d_and (d_callB dc_isi (by rfl) T.isinstance_ bt_isinstance (da_cons (dv 0) (da_cons (d_ty rfl T.list_ bt_list) da_nil))) (d_one (d_callB (dc_all rfl) (by rfl) T.all_ bt_all (da_cons (d_comp (L := ["_law_point"]) (sc := defScope s_law_is_heap) (N := ["_law_thing_here"]) rfl rfl rfl (by decide +kernel) (di_list (dv 0)) (fun _ _ _ _ _ => (dg_name (i := 1) (show List.Nodup (["_law_thing_here", "_law_point"] : List Str) from by decide +kernel) rfl (by first | exact Or.inl rfl | exact Or.inr rfl))) (fun _ _ _ _ _ => dfs_nil) (fun _ _ _ _ _ => (d_own O_law_is_point hX (hr.mono (by decide)) rfl (da_cons (dv 1) da_nil)))) da_nil)))))), ?_⟩
  refine ⟨by decide, ?_⟩
  cases x with
  | list ds =>
    obtain ⟨hl, hd⟩ := hs
    refine iteT ⟨_, .d _, hl, compL (fun x => .bool (isPt x)) (Src.l (.d _)) (fun x hx R h => ⟨x, rfl, hd x hx, h⟩) ?_⟩
    refine ⟨ds.map isPt, by rw [List.map_map]; exact .d _, ?_⟩
    have e : (ds.map isPt).all id = ds.all isPt := by rw [List.all_map]; rfl
    change Q (.d (.bool ((ds.map isPt).all id))) μ
    rw [e]
    exact k
  | _ => exact iteF k
theorem ln_ne {ds : List PyData} (h : ds.length ≠ 3) : isLn (.tuple ds) = false := by
  match ds, h with
  | [], _ => rfl
  | [u], _ => cases u <;> rfl
  | [u, v], _ => cases u <;> cases v <;> rfl
  | [u, v, w], h => exact absurd rfl h
  | u :: v :: w :: z :: r, _ => cases u <;> cases v <;> cases w <;> rfl
theorem ln_all {ds : List PyData} (h : ds.length = 3) : (∃ a b c : Int, ds = [.int a, .int b, .int c]) ∨ (ds.all isW = false ∧ isLn (.tuple ds) = false) := by
  match ds, h with
  | [u, v, w], _ =>
    by_cases hu : ∃ a, u = .int a
    · obtain ⟨a, rfl⟩ := hu
      by_cases hv : ∃ a, v = .int a
      · obtain ⟨b, rfl⟩ := hv
        cases w with
        | int c => exact .inl ⟨a, b, c, rfl⟩
        | _ => exact .inr ⟨rfl, rfl⟩
      · cases v with
        | int c => exact absurd ⟨_, rfl⟩ hv
        | _ => exact .inr ⟨rfl, rfl⟩
    · cases u with
      | int c => exact absurd ⟨_, rfl⟩ hu
      | _ => exact .inr ⟨rfl, rfl⟩
theorem sc_lln : FnScope ["_law_thing_here", "_law_a", "_law_b", "_law_found", "_law_rest"] ["_law_thing_here"] (defScope s_law_is_line) := ⟨rfl, rfl, rfl, by decide +kernel, rfl, by decide +kernel, by decide +kernel⟩
theorem ok_lln {f : Addr} {fd : FuncData} (F : Fun K "_law_is_line" "_law_is_line" s_law_is_line f fd) (T : Txt mg) (hX : NoX CX) (O_law_whole : Own P w K mg base CX 1 "_law_whole" ["_law_thing_here"] (spUp K sIsW)) : FnOk P w K mg base CX 2 f fd ["_law_thing_here"] (spUp K sIsLn) := by
  refine F.okD sc_lln (fun es μ Q ⟨x, e, _⟩ => by subst e; rfl) (fun cdv A outer s H E es μ Q hr ⟨x, e, hs, k⟩ => ?_)
  subst e
  have nd := sc_lln.nd
  refine ⟨_, (ds_cons (ds_if (dt_w (dw_or (dt_not (dt_val (d_callB dc_isi (by rfl) T.isinstance_ bt_isinstance (da_cons (dv 0) (da_cons (d_ty rfl T.tuple_ bt_tuple) da_nil))))) (dw_or (dt_cmp (do_ne hr.units) (d_callB dc_len (by rfl) T.len_ bt_len (da_cons (dv 0) da_nil)) d_int (nomark _)) (dw_or1 (dt_not (dt_val (d_callB (dc_all rfl) (by rfl) T.all_ bt_all (da_cons (d_comp (L := ["_law_number_here"]) (sc := defScope s_law_is_line) (N := ["_law_thing_here", "_law_a", "_law_b", "_law_found", "_law_rest"]) rfl rfl rfl (by decide +kernel) (di_tup (dv 0)) (fun _ _ _ _ _ => (dg_name (i := 5) (show List.Nodup (["_law_thing_here", "_law_a", "_law_b", "_law_found", "_law_rest", "_law_number_here"] : List Str) from by decide +kernel) rfl (by first | exact Or.inl rfl | exact Or.inr rfl))) (fun _ _ _ _ _ => dfs_nil) (fun _ _ _ _ _ => (d_own O_law_whole hX (hr.mono (by decide)) rfl (da_cons (dv 5) da_nil)))) da_nil)))))))) (ds_one (ds_ret d_bl)) ds_nil)
      (ds_cons (ds_asg (d_sliceT (dv 0) dp_none (dp_some d_int)) (dg_tup (n := 2) rfl (dgs_cons (dg_name (i := 1) nd rfl (by first | exact Or.inl rfl | exact Or.inr rfl)) (dgs_cons (dg_name (i := 2) nd rfl (by first | exact Or.inl rfl | exact Or.inr rfl)) dgs_nil))))
      (ds_cons (ds_set (i := 3) nd rfl (by first | exact Or.inl rfl | exact Or.inr rfl) (d_callB dc_abs (by rfl) T.abs_ bt_abs (da_cons (dv 1) da_nil)))
      (ds_cons (ds_set (i := 4) nd rfl (by first | exact Or.inl rfl | exact Or.inr rfl) (d_callB dc_abs (by rfl) T.abs_ bt_abs (da_cons (dv 2) da_nil)))
      (ds_cons (ds_while PassesOwn.never (dt_cmp (do_ne hr.units) (dv 4) d_int (nomark _)) (ds_one (ds_par (i := 3) (j := 4) rfl nd rfl rfl (by decide) rfl rfl (da_cons (dv 4) (da_cons (d_op do_mod (dv 3) (dv 4)) da_nil)) rfl)))
      (ds_one (ds_ret (d_and (d_cmp (do_eq hr.units) (dv 3) d_int (nomark _)) (d_one (d_or (d_cmp do_gt (dv 1) d_int (nomark _)) (d_one (d_and (d_cmp (do_eq hr.units) (dv 1) d_int (nomark _)) (d_one (d_cmp (do_eq hr.units) (dv 2) d_int (nomark _))))))))))))))), ?_⟩
  refine ⟨by decide, ?_⟩
  cases x with
  | tuple ds =>
    refine iteF ⟨_, .t _, ite2 (fun c => ?_) (fun c => ?_)⟩
    · have c : (!decide ((ds.length : Int) = 3)) = true := c
      rw [ln_ne (by intro z; rw [z] at c; exact absurd c (by decide))] at k
      exact k
    · have c : ¬ (!decide ((ds.length : Int) = 3)) = true := c
      have hl : ds.length = 3 := by
        by_cases z : ds.length = 3
        · exact z
        · exact absurd (show (!decide ((ds.length : Int) = 3)) = true by simp; omega) c
      refine ⟨(by show ds.length ≤ 1000; omega), compL (fun x => .bool (isW x)) Src.t (fun x _ R h => ⟨x, rfl, h⟩) ?_⟩
      refine ⟨ds.map isW, by rw [List.map_map]; exact .d _, ?_⟩
      have e : (ds.map isW).all id = ds.all isW := by rw [List.all_map]; rfl
      change (if (!(ds.map isW).all id) = true then _ else _)
      rw [e]
      rcases ln_all hl with ⟨a, b, z, rfl⟩ | ⟨h1, h2⟩
      · refine iteF ⟨(show ¬ (HT.sIx 3 0 none = 0 ∧ HT.sIx 3 3 (some 2) = 3) by decide), rfl, ?_⟩
        refine ⟨fun m ρ' μ' => μ' = μ ∧ ∃ f r : Nat, ρ' = [some (.d (.tuple [.int a, .int b, .int z])), some (.d (.int a)), some (.d (.int b)), some (.d (.int f)), some (.d (.int r))] ∧ m = r ∧ Nat.gcd f r = Int.gcd a b, ⟨_, rfl, _, _, rfl, rfl, rfl⟩, ?_⟩
        rintro m ρ' μ' ⟨rfl, f, r, rfl, rfl, g⟩
        refine ite2 (fun c => ?_) (fun c => ?_)
        · have hm : m ≠ 0 := by
            rintro rfl
            exact absurd c (by decide)
          refine ⟨(show (0 : Int) < (m : Int) by omega), f % m, Nat.mod_lt _ (by omega), Wks.of ⟨rfl, m, f % m, ?_, rfl, by rw [gcd_step]; exact g⟩⟩
          rw [Int.natCast_emod]; rfl
        · have : m = 0 := by
            by_cases z : m = 0
            · exact z
            · exact absurd (show (!decide ((m : Int) = 0)) = true by simp; omega) c
          subst this
          rw [Nat.gcd_zero_right] at g
          subst g
          have k : Q (.d (.bool (isL a b))) μ' := k
          unfold isL at k
          refine ite2 (fun c => ?_) (fun c => ?_)
          · have c : ((Int.gcd a b : Nat) : Int) = 1 := of_decide_eq_true c
            rw [decide_eq_true (show Int.gcd a b = 1 by omega), Bool.true_and] at k
            refine ite2 (fun c2 => ?_) (fun c2 => ?_)
            · rw [c2, Bool.true_or] at k; exact k
            · rw [Bool.eq_false_iff.mpr c2, Bool.false_or] at k
              refine ite2 (fun c3 => ?_) (fun c3 => ?_)
              · have c3 : decide (a = 0) = true := c3
                rw [c3, Bool.true_and] at k; exact k
              · have c3 : ¬ decide (a = 0) = true := c3
                rw [Bool.eq_false_iff.mpr c3, Bool.false_and] at k; exact k
          · have c : ¬ ((Int.gcd a b : Nat) : Int) = 1 := fun z => c (decide_eq_true z)
            rw [decide_eq_false (show ¬ Int.gcd a b = 1 by omega), Bool.false_and] at k
            exact k
      · rw [h1]
        rw [h2] at k
        exact iteT k
  | _ => exact iteT k
end
end K15
set_option Elab.async false
set_option linter.all false
set_option maxRecDepth 100000
set_option maxHeartbeats 4000000
local macro_rules | `(tactic| walk_at "i") => `(tactic| first | refine ite2 (fun c => ?_) (fun c => ?_))
namespace K15
open PySem L2
section
variable {P : Program} {w : World} {K : PySem.W.Frag} {mg : Str → Option Value} {base : Heap} {CX : CXT}
structure QD (K : PySem.W.Frag) (X : Cx) (a : Expr) (ρ : Rho) (d : PyData) : Prop where
  h : ∃ t, DE K X a t ∧ ∀ μ Q, Q (.d d) μ → t ρ μ Q
structure QA (K : PySem.W.Frag) (X : Cx) (es : List Expr) (ρ : Rho) (ds : List PyData) : Prop where
  h : ∃ t, DA K X es t ∧ ∀ μ Q, Q (ds.map En.d) μ → t ρ μ Q
section
variable {X : Cx} {es : List Expr} {ρ : Rho} {d : PyData} {ds : List PyData} {a b : Expr} {p : Pos} {k : Nat}
theorem qa_nil : QA K X [] ρ [] := ⟨_, da_nil, fun μ Q h => h⟩
theorem qa_cons (ha : QD K X a ρ d) (h : QA K X es ρ ds) (hs : starEach (a :: es) X.env = (false, eval a X.env) :: starEach es X.env) : QA K X (a :: es) ρ (d :: ds) :=
  have ⟨t, h1, h2⟩ := h
  have ⟨u, a1, a2⟩ := ha
  ⟨_, da_cons a1 h1 hs, fun μ Q q => a2 μ _ (h2 μ _ q)⟩
theorem qa_C {c : Const} (ha : QD K X (.Constant c k p) ρ d) (h : QA K X es ρ ds) : QA K X (.Constant c k p :: es) ρ (d :: ds) := qa_cons ha h rfl
theorem qa_U {o : UnaryOp} (ha : QD K X (.UnaryOp o a p) ρ d) (h : QA K X es ρ ds) : QA K X (.UnaryOp o a p :: es) ρ (d :: ds) := qa_cons ha h rfl
theorem qa_B {o : Operator} (ha : QD K X (.BinOp a o b p) ρ d) (h : QA K X es ρ ds) : QA K X (.BinOp a o b p :: es) ρ (d :: ds) := qa_cons ha h rfl
theorem qa_L {l : List Expr} (ha : QD K X (.List l p) ρ d) (h : QA K X es ρ ds) : QA K X (.List l p :: es) ρ (d :: ds) := qa_cons ha h rfl
theorem qa_T {l : List Expr} (ha : QD K X (.Tuple l k p) ρ d) (h : QA K X es ρ ds) : QA K X (.Tuple l k p :: es) ρ (d :: ds) := qa_cons ha h rfl
theorem qa_N {x : Str} (ha : QD K X (.Name x p) ρ d) (h : QA K X es ρ ds) : QA K X (.Name x p :: es) ρ (d :: ds) := qa_cons ha h rfl
theorem qa_D (ha : QD K X (.Dict [] [] p) ρ d) (h : QA K X es ρ ds) : QA K X (.Dict [] [] p :: es) ρ (d :: ds) := qa_cons ha h rfl
theorem allD_map : ∀ ds : List PyData, allD (ds.map En.d) = some ds
  | [] => rfl
  | d :: ds => by
    have := allD_map ds
    simp only [List.map_cons, allD, this]
    rfl
theorem QA.lst (h : QA K X es ρ ds) (hl : ds.length ≤ 1000) : QD K X (.List es p) ρ (.list ds) :=
  have ⟨t, h1, h2⟩ := h
  ⟨_, d_lst h1, fun μ Q q => h2 μ _ (by
    show (match allD (ds.map En.d) with | some ds => ds.length ≤ 1000 ∧ Q (.d (.list ds)) μ | none => False)
    rw [allD_map]
    exact ⟨hl, q⟩)⟩
theorem q_int {i : Int} : QD K X (.Constant (.int i) k p) ρ (.int i) := ⟨_, d_int, fun μ Q h => h⟩
theorem q_bl {i : Bool} : QD K X (.Constant (.bool i) k p) ρ (.bool i) := ⟨_, d_bl, fun μ Q h => h⟩
theorem q_non : QD K X (.Constant .none k p) ρ .none := ⟨_, d_non, fun μ Q h => h⟩
theorem q_str {i : Str} : QD K X (.Constant (.str i) k p) ρ (.str i) := ⟨_, d_str, fun μ Q h => h⟩
theorem q_emp : QD K X (.Dict [] [] p) ρ (.dict []) := ⟨_, d_emp, fun μ Q h => h⟩
theorem q_l0 : QD K X (.List [] p) ρ (.list []) := ⟨_, d_lst da_nil, fun μ Q h => ⟨zl0, h⟩⟩
theorem q_t0 : QD K X (.Tuple [] k p) ρ (.tuple []) := ⟨_, d_tup da_nil, fun μ Q h => ⟨zl0, h⟩⟩
theorem q_neg {i : Int} {p2 : Pos} : QD K X (.UnaryOp .USub (.Constant (.int i) k p2) p) ρ (.int (-i)) := ⟨_, d_un du_neg d_int, fun μ Q h => h⟩
end
structure QS (K : PySem.W.Frag) (X : Cx) (b : List Stmt) (D : EndsD) (ρ : Rho) (μ : Mu) : Prop where
  h : ∃ t, DSs K X b t ∧ t D ρ μ
def Th (x : PyData) : Prop := Sm x ∧ smallT x
def bnd : Int := 10 ^ (30 : Int).toNat - 1
def menu : List PyData := [.none, .bool true, .bool false, .str "", .str "1,2", .str "1 2 3", .int 0, .int 1, .int (-1), .int bnd, .int (-bnd), .int (bnd + 1), .int (-bnd - 1), .tuple [], .list [], .dict []]
theorem th_menu {x : PyData} (h : x ∈ menu) : Th x := by
  unfold menu at h
  simp only [List.mem_cons, List.not_mem_nil, or_false] at h
  rcases h with rfl | rfl | rfl | rfl | rfl | rfl | rfl | rfl | rfl | rfl | rfl | rfl | rfl | rfl | rfl | rfl <;> simp [Th, Sm, smallT]
theorem th_int (n : Int) : Th (.int n) := by simp [Th, Sm, smallT]
def sThg : SpD := fun es μ Q => ∃ (p : Addr), es = [.m p] ∧ (p, PA0) ∈ μ ∧ ∀ x, Th x → Q (.d x) μ
abbrev bE : List Expr := match ((defBody (top 34)).drop 1).head? with | some (.Assign _ (.List es _) _) => es | _ => []
abbrev bT := match ((defBody (top 34)).drop 1).head? with | some (.Assign ts (.List _ _) _) => ts | _ => []
abbrev bP := match ((defBody (top 34)).drop 1).head? with | some (.Assign _ (.List _ p) _) => p | _ => default
abbrev bQ := match ((defBody (top 34)).drop 1).head? with | some (.Assign _ (.List _ _) q) => q | _ => default
theorem sc_bare : FnScope ["_law_pot_here", "_law_bound", "_law_some"] ["_law_pot_here"] (defScope s_law_bare) := ⟨rfl, rfl, rfl, by decide +kernel, rfl, by decide +kernel, by decide +kernel⟩
theorem ok_bare {f : Addr} {fd : FuncData} (F : Fun K "_law_bare" "_law_bare" s_law_bare f fd) (T : Txt mg) (hX : NoX CX) (O_law_take : Own P w K mg base CX 1 "_law_take" ["_law_pot_here", "_law_many"] (spUp K (sDraw 2147483629))) (O_law_number : Own P w K mg base CX 3 "_law_number" ["_law_pot_here"] (spUp K (sNum 2147483629))) : FnOk P w K mg base CX 4 f fd ["_law_pot_here"] (spUp K sThg) := by
  refine F.okD sc_bare (fun es μ Q ⟨p, e, _⟩ => by subst e; rfl) (fun cdv A outer s H E es μ Q hr ⟨p, e, hp, k⟩ => ?_)
  subst e
  have nd := sc_bare.nd
  have key : ∃ t, DSs K (cxOf CX P w K mg base ["_law_pot_here", "_law_bound", "_law_some"] "_law_bare" (defScope s_law_bare) f cdv A outer s H E).nox ((defBody s_law_bare).drop 2) t ∧ t { nx := fun _ μ' => Q (.d .none) μ', rt := Q } [some (.m p), some (.d (.int bnd)), some (.d (.list menu))] μ := by
    refine ⟨_, (ds_cons (ds_set (i := 2) nd rfl (by first | exact Or.inl rfl | exact Or.inr rfl) (d_op do_cat (dv 2) (d_lst (da_cons (d_own O_law_number hX (hr.mono (by decide)) rfl (da_cons (dv 0) da_nil)) (da_cons (d_own O_law_number hX (hr.mono (by decide)) rfl (da_cons (dv 0) da_nil)) (da_cons d_int (da_cons d_int da_nil)))))))
      (ds_one (ds_ret (d_ix dx_seq (dv 2) (d_own O_law_take hX (hr.mono (by decide)) rfl (da_cons (dv 0) (da_cons (d_callB dc_len (by rfl) T.len_ bt_len (da_cons (dv 2) da_nil)) da_nil))) (fun _ _ => rfl))))), ?_⟩
    refine ⟨p, rfl, hp, fun n hn => ⟨p, rfl, hp, fun n2 hn2 => ⟨zl4, ?_⟩⟩⟩
    have hall : ∀ x ∈ menu ++ [PyData.int n, .int n2, .int 2, .int 3], Th x := fun x hx => by
      rcases List.mem_append.mp hx with h | h
      · exact th_menu h
      · simp only [List.mem_cons, List.not_mem_nil, or_false] at h
        rcases h with rfl | rfl | rfl | rfl <;> exact th_int _
    refine ⟨_, _, .d _, .d _, (show 16 + 4 ≤ 1000 by decide), ?_⟩
    generalize hm : menu ++ [PyData.int n, .int n2, .int 2, .int 3] = xs at hall ⊢
    have hlen : xs.length = 20 := by rw [← hm]; rfl
    refine ⟨_, .l (.d _), p, _, rfl, hp, (by rw [hlen]; decide), (by rw [hlen]; decide), fun g g0 g1 => ?_⟩
    have g1 : g < 20 := by rw [hlen] at g1; exact g1
    have hg : g.toNat < xs.length := by omega
    refine ⟨xs[g.toNat], ?_, k _ (hall _ (List.getElem_mem hg))⟩
    have := atI_nat (xs := xs) (j := g.toNat) (v := xs[g.toNat]) (List.getElem?_eq_getElem hg)
    rwa [show ((g.toNat : Nat) : Int) = g by omega] at this
  obtain ⟨t1, ht1, hk1⟩ := key
  have key2 : ∀ E0 : List Expr, (∀ pos, QD K (cxOf CX P w K mg base ["_law_pot_here", "_law_bound", "_law_some"] "_law_bare" (defScope s_law_bare) f cdv A outer s H E).nox (.List E0 pos) [some (.m p), some (.d (.int bnd)), none] (.list menu)) → QS K (cxOf CX P w K mg base ["_law_pot_here", "_law_bound", "_law_some"] "_law_bare" (defScope s_law_bare) f cdv A outer s H E).nox (.Assign bT (.List E0 bP) bQ :: (defBody s_law_bare).drop 2) { nx := fun _ μ' => Q (.d .none) μ', rt := Q } [some (.m p), some (.d (.int bnd)), none] μ :=
    fun E0 h0 => by
      obtain ⟨te, h1, h2⟩ := (h0 bP).h
      exact ⟨_, ds_cons (ds_set (i := 2) nd rfl (by first | exact Or.inl rfl | exact Or.inr rfl) h1) ht1, h2 μ _ hk1⟩
  have hq := key2 bE fun pos => @QA.lst K (cxOf CX P w K mg base ["_law_pot_here", "_law_bound", "_law_some"] "_law_bare" (defScope s_law_bare) f cdv A outer s H E).nox bE [some (.m p), some (.d (.int bnd)), none] menu pos
    (qa_C q_non (qa_C q_bl (qa_C q_bl (qa_C q_str (qa_C q_str (qa_C q_str (qa_C q_int (qa_C q_int (qa_U q_neg (qa_N ⟨_, dv 1, fun μ Q h => h⟩ (qa_U ⟨_, d_un du_neg (dv 1), fun μ Q h => h⟩ (qa_B ⟨_, d_op do_add (dv 1) d_int, fun μ Q h => h⟩ (qa_B ⟨_, d_op do_sub (d_un du_neg (dv 1)) d_int, fun μ Q h => h⟩
      (qa_T q_t0 (qa_L q_l0 (qa_D q_emp qa_nil)))))))))))))))) (show 16 ≤ 1000 by decide)
  have e : .Assign bT (.List bE bP) bQ :: (defBody s_law_bare).drop 2 = (defBody s_law_bare).drop 1 := rfl
  rw [e] at hq
  obtain ⟨t, ht, hk⟩ := hq.h
  refine ⟨_, (ds_cons (ds_set (i := 1) nd rfl (by first | exact Or.inl rfl | exact Or.inr rfl) (d_op do_sub (d_op do_pow d_int d_int) d_int))
      ht), ?_⟩
  exact ⟨⟨by decide, by decide, by decide⟩, hk⟩
def sWit : SpD := fun es μ Q => ∃ (p : Addr) (ds : List PyData), es = [.m p, .d (.list ds)] ∧ (p, PA0) ∈ μ ∧ Q (.d (.list ds)) μ ∧ Q (.d (.tuple ds)) μ
theorem sc_within : FnScope ["_law_pot_here", "_law_parts"] ["_law_pot_here", "_law_parts"] (defScope s_law_within) := ⟨rfl, rfl, rfl, by decide +kernel, rfl, by decide +kernel, by decide +kernel⟩
theorem ok_within {f : Addr} {fd : FuncData} (F : Fun K "_law_within" "_law_within" s_law_within f fd) (T : Txt mg) (hX : NoX CX) (O_law_take : Own P w K mg base CX 1 "_law_take" ["_law_pot_here", "_law_many"] (spUp K (sDraw 2147483629))) : FnOk P w K mg base CX 2 f fd ["_law_pot_here", "_law_parts"] (spUp K sWit) := by
  refine F.okD sc_within (fun es μ Q ⟨p, ds, e, _⟩ => by subst e; rfl) (fun cdv A outer s H E es μ Q hr ⟨p, ds, e, hp, k1, k2⟩ => ?_)
  subst e
  have nd := sc_within.nd
  refine ⟨_, (ds_cons (ds_if (dt_cmp (do_eq hr.units) (d_own O_law_take hX (hr.mono (by decide)) rfl (da_cons (dv 0) (da_cons d_int da_nil))) d_int (nomark _)) (ds_one (ds_ret (d_callTy dc_list (by rfl) T.list_ bt_list (da_cons (dv 1) da_nil)))) ds_nil)
      (ds_one (ds_ret (d_callTy dc_tuple (by rfl) T.tuple_ bt_tuple (da_cons (dv 1) da_nil))))), ?_⟩
  refine ⟨p, _, rfl, hp, by decide, by decide, fun d d0 d1 => ite2 (fun c => ⟨_, .l (.d _), k1⟩) (fun c => ⟨_, .d _, k2⟩)⟩
end
end K15
set_option Elab.async false
set_option linter.all false
set_option maxRecDepth 100000
set_option maxHeartbeats 4000000
local macro_rules | `(tactic| walk_at "i") => `(tactic| first | refine ite2 (fun c => ?_) (fun c => ?_))
namespace K15
open PySem L2
section
variable {P : Program} {w : World} {K : PySem.W.Frag} {mg : Str → Option Value} {base : Heap} {CX : CXT}
def sThing (d : Nat) : SpD := fun es μ Q => ∃ (p : Addr) (n : Int), es = [.m p, .d (.int n)] ∧ 0 ≤ n ∧ n < d ∧ (p, PA0) ∈ μ ∧ ∀ x, Th x → Q (.d x) μ
theorem th_list {ds : List PyData} (h : ds.length ≤ 1000) (ha : ∀ x ∈ ds, Th x) : Th (.list ds) := ⟨⟨h, fun x hx => (ha x hx).2⟩, trivial⟩
theorem th_tup {ds : List PyData} (h : ds.length ≤ 1000) : Th (.tuple ds) := ⟨h, h⟩
theorem sc_thing : FnScope ["_law_pot_here", "_law_deep", "_law_way"] ["_law_pot_here", "_law_deep"] (defScope s_law_thing) := ⟨rfl, rfl, rfl, by decide +kernel, rfl, by decide +kernel, by decide +kernel⟩
theorem ok_thing {f : Addr} {fd : FuncData} (F : Fun K "_law_thing" "_law_thing" s_law_thing f fd) (T : Txt mg) (hX : NoX CX) (hm : mg "_law_thing" = some (.ref f)) (hk : PySem.W.keepIn K (.ref f) = true) (hb : Binds K fd ["_law_pot_here", "_law_deep"] []) (O_law_take : Own P w K mg base CX 1 "_law_take" ["_law_pot_here", "_law_many"] (spUp K (sDraw 2147483629))) (O_law_number : Own P w K mg base CX 3 "_law_number" ["_law_pot_here"] (spUp K (sNum 2147483629))) (O_law_bare : Own P w K mg base CX 4 "_law_bare" ["_law_pot_here"] (spUp K sThg)) (O_law_within : Own P w K mg base CX 2 "_law_within" ["_law_pot_here", "_law_parts"] (spUp K sWit)) : ∀ d : Nat, FnOk P w K mg base CX (4 + d) f fd ["_law_pot_here", "_law_deep"] (spUp K (sThing d))
  | 0 => by
    have no : ∀ vs H Q E, spUp K (sThing 0) vs H Q E → False := fun vs H Q E h => by
      obtain ⟨μ, es, Q0, M, hp, ⟨p, n, _, h1, h2, _⟩, cl⟩ := h
      omega
    exact ⟨fun vs H Q E h => (no _ _ _ _ h).elim, fun A outer s H args us vs Q E _ _ _ _ h => (no _ _ _ _ h).elim⟩
  | d + 1 => by
    have O_law_thing : Own P w K mg base CX (4 + d) "_law_thing" ["_law_pot_here", "_law_deep"] (spUp K (sThing d)) := ⟨f, fd, ok_thing F T hX hm hk hb O_law_take O_law_number O_law_bare O_law_within d, hm, hk, hb⟩
    refine F.okD (k := 4 + d) sc_thing (fun es μ Q ⟨p, n, e, _⟩ => by subst e; rfl) (fun cdv A outer s H E es μ Q hr ⟨p, n, e, n0, n1, hp, k⟩ => ?_)
    subst e
    have nd := sc_thing.nd
    refine ⟨_, (ds_cons (ds_set (i := 2) nd rfl (by first | exact Or.inl rfl | exact Or.inr rfl) (d_own O_law_take hX (hr.mono (by omega)) rfl (da_cons (dv 0) (da_cons d_int da_nil))))
      (ds_cons (ds_if (dt_cmp (do_eq hr.units) (dv 2) d_int (nomark _)) (ds_one (ds_ret (d_tup (da_cons (d_own O_law_number hX (hr.mono (by omega)) rfl (da_cons (dv 0) da_nil)) (da_cons (d_own O_law_number hX (hr.mono (by omega)) rfl (da_cons (dv 0) da_nil)) da_nil))))) ds_nil)
      (ds_cons (ds_if (dt_cmp (do_eq hr.units) (dv 2) d_int (nomark _)) (ds_one (ds_ret (d_comp (L := ["_law_k"]) (sc := defScope s_law_thing) (N := ["_law_pot_here", "_law_deep", "_law_way"]) rfl rfl rfl (by decide +kernel) (di_range1 rfl T.range_ (da_cons (d_own O_law_take hX (hr.mono (by omega)) rfl (da_cons (dv 0) (da_cons d_int da_nil))) da_nil)) (fun _ _ _ _ _ => (dg_name (i := 3) (show List.Nodup (["_law_pot_here", "_law_deep", "_law_way", "_law_k"] : List Str) from by decide +kernel) rfl (by first | exact Or.inl rfl | exact Or.inr rfl))) (fun _ _ _ _ _ => dfs_nil) (fun _ _ _ _ _ => (d_tup (da_cons (d_own O_law_number hX (hr.mono (by omega)) rfl (da_cons (dv 0) da_nil)) (da_cons (d_own O_law_number hX (hr.mono (by omega)) rfl (da_cons (dv 0) da_nil)) da_nil))))))) ds_nil)
      (ds_cons (ds_if (dt_cmp (do_eq hr.units) (dv 2) d_int (nomark _)) (ds_one (ds_ret (d_tup (da_cons (d_own O_law_take hX (hr.mono (by omega)) rfl (da_cons (dv 0) (da_cons d_int da_nil))) (da_cons (d_op do_sub (d_own O_law_take hX (hr.mono (by omega)) rfl (da_cons (dv 0) (da_cons d_int da_nil))) d_int) (da_cons (d_own O_law_number hX (hr.mono (by omega)) rfl (da_cons (dv 0) da_nil)) da_nil)))))) ds_nil)
      (ds_cons (ds_if (dt_w (dw_and (dt_cmp do_lt (dv 2) d_int (nomark _)) (dw_and1 (dt_cmp do_gt (dv 1) d_int (nomark _))))) (ds_one (ds_ret (d_own O_law_within hX (hr.mono (by omega)) rfl (da_cons (dv 0) (da_cons (d_comp (L := ["_law_k"]) (sc := defScope s_law_thing) (N := ["_law_pot_here", "_law_deep", "_law_way"]) rfl rfl rfl (by decide +kernel) (di_range1 rfl T.range_ (da_cons (d_own O_law_take hX (hr.mono (by omega)) rfl (da_cons (dv 0) (da_cons d_int da_nil))) da_nil)) (fun _ _ _ _ _ => (dg_name (i := 3) (show List.Nodup (["_law_pot_here", "_law_deep", "_law_way", "_law_k"] : List Str) from by decide +kernel) rfl (by first | exact Or.inl rfl | exact Or.inr rfl))) (fun _ _ _ _ _ => dfs_nil) (fun _ _ _ _ _ => (d_own O_law_thing hX (hr.mono (by omega)) rfl (da_cons (dv 0) (da_cons (d_op do_sub (dv 1) d_int) da_nil))))) da_nil))))) ds_nil)
      (ds_one (ds_ret (d_own O_law_bare hX (hr.mono (by omega)) rfl (da_cons (dv 0) da_nil))))))))), ?_⟩
    refine ⟨p, _, rfl, hp, by decide, by decide, fun g g0 g1 => ite2 (fun c => ?_) (fun c => ite2 (fun c1 => ?_) (fun c1 => ite2 (fun c2 => ?_) (fun c2 => ?_)))⟩
    · exact ⟨p, rfl, hp, fun a _ => ⟨p, rfl, hp, fun b _ => ⟨zl2, k _ (th_tup (show 2 ≤ 1000 by decide))⟩⟩⟩
    · refine ⟨p, _, rfl, hp, by decide, by decide, fun z z0 z1 => ⟨by omega, by omega, (show z.toNat ≤ 1000 by omega), ?_⟩⟩
      refine ⟨fun i ys ρ' μ' => μ' = μ ∧ (∃ v, ρ' = [some (.m p), some (.d (.int n)), some (.d (.int g)), v]) ∧ (∀ y ∈ ys, Th y) ∧ ys.length = i, ⟨rfl, ⟨_, rfl⟩, fun _ h => (nomatch h), rfl⟩, fun _ _ _ _ _ _ => trivial, ?_, ?_⟩
      · rintro i ys ρ' μ' hi ⟨rfl, ⟨v, rfl⟩, h1, h2⟩
        refine ⟨p, rfl, hp, fun a _ => ⟨p, rfl, hp, fun b _ => ⟨zl2, _, rfl, rfl, ⟨_, rfl⟩, fun y hy => ?_, by simp [h2]⟩⟩⟩
        rcases List.mem_append.mp hy with h | h
        · exact h1 y h
        · rw [List.mem_singleton.mp h]; exact th_tup (show 2 ≤ 1000 by decide)
      · rintro ys ρ' μ' ⟨rfl, ⟨v, rfl⟩, h1, h2⟩
        have h2 : ys.length = z.toNat := h2
        exact k _ (th_list (by omega) h1)
    · exact ⟨p, _, rfl, hp, by decide, by decide, fun a _ _ => ⟨p, _, rfl, hp, by decide, by decide, fun b _ _ => ⟨p, rfl, hp, fun c _ => ⟨zl3, k _ (th_tup (show 3 ≤ 1000 by decide))⟩⟩⟩⟩
    · refine ite2 (fun c3 => ite2 (fun c4 => ?_) (fun c4 => ⟨p, rfl, hp, k⟩)) (fun c3 => ⟨p, rfl, hp, k⟩)
      have c4 : 0 < n := of_decide_eq_true c4
      refine ⟨p, _, rfl, hp, by decide, by decide, fun z z0 z1 => ⟨by omega, by omega, (show z.toNat ≤ 1000 by omega), ?_⟩⟩
      refine ⟨fun i ys ρ' μ' => μ' = μ ∧ (∃ v, ρ' = [some (.m p), some (.d (.int n)), some (.d (.int g)), v]) ∧ (∀ y ∈ ys, Th y) ∧ ys.length = i, ⟨rfl, ⟨_, rfl⟩, fun _ h => (nomatch h), rfl⟩, fun _ _ _ _ _ _ => trivial, ?_, ?_⟩
      · rintro i ys ρ' μ' hi ⟨rfl, ⟨v, rfl⟩, h1, h2⟩
        refine ⟨p, n - 1, rfl, by omega, by omega, hp, fun x hx => ⟨_, rfl, rfl, ⟨_, rfl⟩, fun y hy => ?_, by simp [h2]⟩⟩
        rcases List.mem_append.mp hy with h | h
        · exact h1 y h
        · rw [List.mem_singleton.mp h]; exact hx
      · rintro ys ρ' μ' ⟨rfl, ⟨v, rfl⟩, h1, h2⟩
        have h2 : ys.length = z.toNat := h2
        exact ⟨p, ys, rfl, hp, k _ (th_list (by omega) h1), k _ (th_tup (by omega))⟩
theorem sh3 (a b c : Bool) : SeqAt.shaped (.list [.bool a, .bool b, .bool c]) = true := by cases a <;> cases b <;> cases c <;> decide +kernel
theorem er {B : PyData} (h : SeqAt.shaped B = true) : ¬ (!PyData.eqv B B) = true := fun z => by
  rw [shaped_eqv h] at z; exact absurd z (by decide)
theorem iteF' {c : Prop} {d : Decidable c} {a b : Prop} (h : ¬ c) (hb : b) : @ite Prop c d a b := by rw [if_neg h]; exact hb
def sRt : SpD := fun es μ Q => ∃ x, es = [.d x] ∧ Th x ∧ Q (.d (.bool true)) μ
theorem sc_right : FnScope ["_law_thing_here", "_law_told"] ["_law_thing_here"] (defScope s_law_right) := ⟨rfl, rfl, rfl, by decide +kernel, rfl, by decide +kernel, by decide +kernel⟩
theorem ok_right {f : Addr} {fd : FuncData} (F : Fun K "_law_right" "_law_right" s_law_right f fd) (T : Txt mg) (hX : NoX CX) (Ois_point : Own P w K mg base CX 3 "is_point" ["thing"] (spUp K sIsPt)) (Ois_heap : Own P w K mg base CX 4 "is_heap" ["thing"] (spUp K sIsHp)) (Ois_line : Own P w K mg base CX 3 "is_line" ["thing"] (spUp K sIsLn)) (O_law_is_point : Own P w K mg base CX 2 "_law_is_point" ["_law_thing_here"] (spUp K sIsPt)) (O_law_is_heap : Own P w K mg base CX 3 "_law_is_heap" ["_law_thing_here"] (spUp K sIsHp)) (O_law_is_line : Own P w K mg base CX 2 "_law_is_line" ["_law_thing_here"] (spUp K sIsLn)) (O_law_refused : Own P w K mg base CX 4 "_law_refused" ["_law_way", "_law_thing_here"] (spUp K sRef)) : FnOk P w K mg base CX 5 f fd ["_law_thing_here"] (spUp K sRt) := by
  refine F.okD sc_right (fun es μ Q ⟨x, e, _⟩ => by subst e; rfl) (fun cdv A' outer s H E es μ Q hr ⟨x, e, ⟨hs, hs2⟩, q⟩ => ?_)
  subst e
  have nd := sc_right.nd
  refine ⟨_, (ds_cons (ds_set (i := 1) nd rfl (by first | exact Or.inl rfl | exact Or.inr rfl) (d_lst (da_cons (d_own Ois_point hX (hr.mono (by decide)) rfl (da_cons (dv 0) da_nil)) (da_cons (d_own Ois_heap hX (hr.mono (by decide)) rfl (da_cons (dv 0) da_nil)) (da_cons (d_own Ois_line hX (hr.mono (by decide)) rfl (da_cons (dv 0) da_nil)) da_nil)))))
      (ds_cons (ds_if (dt_not (dt_val (d_callB (dc_all rfl) (by rfl) T.all_ bt_all (da_cons (d_comp (L := ["_law_found"]) (sc := defScope s_law_right) (N := ["_law_thing_here", "_law_told"]) rfl rfl rfl (by decide +kernel) (di_list (dv 1)) (fun _ _ _ _ _ => (dg_name (i := 2) (show List.Nodup (["_law_thing_here", "_law_told", "_law_found"] : List Str) from by decide +kernel) rfl (by first | exact Or.inl rfl | exact Or.inr rfl))) (fun _ _ _ _ _ => dfs_nil) (fun _ _ _ _ _ => (d_callB dc_isi (by rfl) T.isinstance_ bt_isinstance (da_cons (dv 2) (da_cons (d_ty rfl T.bool_ bt_bool) da_nil))))) da_nil)))) (ds_one (ds_ret d_bl)) ds_nil)
      (ds_cons (ds_if (dt_cmp (do_ne hr.units) (dv 1) (d_lst (da_cons (d_own O_law_is_point hX (hr.mono (by decide)) rfl (da_cons (dv 0) da_nil)) (da_cons (d_own O_law_is_heap hX (hr.mono (by decide)) rfl (da_cons (dv 0) da_nil)) (da_cons (d_own O_law_is_line hX (hr.mono (by decide)) rfl (da_cons (dv 0) da_nil)) da_nil)))) (nomark _)) (ds_one (ds_ret d_bl)) ds_nil)
      (ds_one (ds_ret (d_or (d_callB dc_isi (by rfl) T.isinstance_ bt_isinstance (da_cons (dv 0) (da_cons (d_ty rfl T.str_ bt_str) da_nil))) (d_one (d_callB (dc_all rfl) (by rfl) T.all_ bt_all (da_cons (d_comp (L := ["_law_way"]) (sc := defScope s_law_right) (N := ["_law_thing_here", "_law_told"]) rfl rfl rfl (by decide +kernel) (di_range1 rfl T.range_ (da_cons d_int da_nil)) (fun _ _ _ _ _ => (dg_name (i := 2) (show List.Nodup (["_law_thing_here", "_law_told", "_law_way"] : List Str) from by decide +kernel) rfl (by first | exact Or.inl rfl | exact Or.inr rfl))) (fun _ _ _ _ _ => dfs_nil) (fun _ _ _ _ _ => (d_own O_law_refused hX (hr.mono (by decide)) rfl (da_cons (dv 2) (da_cons (dv 0) da_nil))))) da_nil))))))))), ?_⟩
  refine ⟨x, rfl, hs2, x, rfl, hs, x, rfl, hs2, zl3, _, .d _, zl3, compL (fun _ => .bool true) (Src.l (.d _)) (fun z hz R h => ⟨by decide, ?_⟩) ?_⟩
  · have : ∃ b, z = .bool b := by
      simp only [List.mem_cons, List.not_mem_nil, or_false] at hz
      rcases hz with rfl | rfl | rfl <;> exact ⟨_, rfl⟩
    obtain ⟨b, rfl⟩ := this
    exact h
  refine ⟨[true, true, true], .d _, iteF ⟨x, rfl, hs2, x, rfl, hs, x, rfl, hs2, zl3, _, _, .d _, .d _, sh3 _ _ _, sh3 _ _ _, ite2 (fun c => absurd c (er (sh3 (isPt x) (isHp x) (isLn x)))) (fun _ => ⟨by decide, ?_⟩)⟩⟩
  cases hx : isStr x with
  | true =>
    cases x with
    | str _ => exact iteT q
    | _ => exact absurd hx (by simp [isStr])
  | false =>
    have e : isTy "str" x = false := by
      cases x <;> first | rfl | exact absurd hx (by simp [isStr])
    have e2 : ¬ isTy "str" x = true := by rw [e]; exact Bool.false_ne_true
    refine @iteF' _ _ _ _ e2 ?_
    refine ⟨by decide, by decide, (show (3 : Int).toNat ≤ 1000 by decide), fun i ys ρ' μ' => μ' = μ ∧ ys = (List.replicate i true).map PyData.bool ∧ ∃ v, ρ' = [some (.d x), some (.d (.list [.bool (isPt x), .bool (isHp x), .bool (isLn x)])), v], ⟨rfl, rfl, _, rfl⟩, fun _ _ _ _ _ _ => trivial, ?_, ?_⟩
    · rintro i ys ρ' μ' hi ⟨rfl, rfl, v, rfl⟩
      refine ⟨_, x, rfl, hx, _, rfl, rfl, ?_, _, rfl⟩
      rw [List.replicate_succ', List.map_append]
      rfl
    · rintro ys ρ' μ' ⟨rfl, rfl, v, rfl⟩
      exact ⟨_, .d _, q⟩
theorem sc_law : FnScope ["_law_script"] ["_law_script"] (defScope slaw) := ⟨rfl, rfl, rfl, by decide +kernel, rfl, by decide +kernel, by decide +kernel⟩
theorem ok_law {f : Addr} {fd : FuncData} (F : Fun K "law" "law" slaw f fd) (T : Txt mg) (hX : NoX CX) (O_law_pot : Own P w K mg base CX 1 "_law_pot" ["_law_script", "_law_k"] (spUp K sPot)) (O_law_thing : Own P w K mg base CX 8 "_law_thing" ["_law_pot_here", "_law_deep"] (spUp K (sThing 4))) (O_law_right : Own P w K mg base CX 5 "_law_right" ["_law_thing_here"] (spUp K sRt)) : FnOk P w K mg base CX 9 f fd ["_law_script"] (spUp K sLaw) := by
  refine F.okD sc_law (fun es μ Q ⟨ns, e, _⟩ => by subst e; rfl) (fun cdv A outer s H E es μ Q hr ⟨ns, e, hl, e0, k⟩ => ?_)
  subst e e0
  have nd := sc_law.nd
  refine ⟨_, (ds_one (ds_ret (d_callB (dc_all rfl) (by rfl) T.all_ bt_all (da_cons (d_comp (L := ["_law_k"]) (sc := defScope slaw) (N := ["_law_script"]) rfl rfl rfl (by decide +kernel) (di_range1 rfl T.range_ (da_cons (d_callB (dc_max rfl) (by rfl) T.max_ bt_max (da_cons d_int (da_cons (d_callB (dc_min rfl) (by rfl) T.min_ bt_min (da_cons (d_callB dc_len (by rfl) T.len_ bt_len (da_cons (dv 0) da_nil)) (da_cons d_int da_nil))) da_nil))) da_nil)) (fun _ _ _ _ _ => (dg_name (i := 1) (show List.Nodup (["_law_script", "_law_k"] : List Str) from by decide +kernel) rfl (by first | exact Or.inl rfl | exact Or.inr rfl))) (fun _ _ _ _ _ => dfs_nil) (fun _ _ _ _ _ => (d_own O_law_right hX (hr.mono (by decide)) rfl (da_cons (d_own O_law_thing hX (hr.mono (by decide)) rfl (da_cons (d_own O_law_pot hX (hr.mono (by decide)) rfl (da_cons (dv 0) (da_cons (dv 1) da_nil))) (da_cons d_int da_nil))) da_nil)))) da_nil)))), ?_⟩
  refine ⟨_, .l (.d _), ?_⟩
  rw [List.length_map]
  obtain ⟨m, em, hm⟩ : ∃ m : Int, (if (1 : Int) < (if (8 : Int) < (ns.length : Int) then 8 else (ns.length : Int)) then (if (8 : Int) < (ns.length : Int) then 8 else (ns.length : Int)) else 1) = m ∧ (1 ≤ m ∧ m ≤ 8) := ⟨_, rfl, by split <;> (try split) <;> omega⟩
  refine ⟨?_, ?_, ?_, fun i ys ρ' μ' => ys = (List.replicate i true).map PyData.bool ∧ ∃ v, ρ' = [some (.d (.list (ns.map .int))), v], ⟨rfl, _, rfl⟩, fun _ _ _ _ _ _ => trivial, ?_, ?_⟩
  · exact le_of_le_of_eq (show -(2 ^ 62) ≤ m by omega) em.symm
  · exact lt_of_eq_of_lt em (show m < 2 ^ 62 by omega)
  · exact le_of_eq_of_le (congrArg Int.toNat em) (show m.toNat ≤ 1000 by omega)
  · rintro i ys ρ' μ' hi ⟨rfl, v, rfl⟩
    have hi : i < Int.toNat _ := hi
    have hi2 : i < m.toNat := lt_of_lt_of_eq hi (congrArg Int.toNat em)
    refine ⟨ns, i, (by show [_, En.d (PyData.int (0 + (i : Int)))] = _; simp), hl, by omega, fun p hp => ⟨p, 3, rfl, by decide, by decide, List.mem_cons_self, fun x hx => ⟨x, rfl, hx, _, rfl, ?_, _, rfl⟩⟩⟩
    rw [List.replicate_succ', List.map_append]
    rfl
  · rintro ys ρ' μ' ⟨rfl, v, rfl⟩
    refine ⟨_, .d _, ?_⟩
    have e : ∀ n, (List.replicate n true).all id = true := fun n => by simp
    change Q (.d (.bool ((List.replicate _ true).all id))) _
    rw [e]
    exact k _
end
end K15
set_option Elab.async false
set_option linter.all false
set_option maxRecDepth 100000
set_option maxHeartbeats 4000000
namespace K15
open PySem L2
theorem all_mk {l : PySem.W.OpenLaw} {w : World} {K : PySem.W.Frag} {h : Heap} {mg : Str → Option Value} {fa : Addr} (X : K.In h) (G : h.Ns mainGlobals mg) (hfa : mg "law" = some (.ref fa))
    {f0 : Addr} {od0 an0 : Option Addr} {sl0 : Array (Option Value)} {oc0 kV0 dc0 pm0 cd0 ct0 : Value}
    {f1 : Addr} {od1 an1 : Option Addr} {sl1 : Array (Option Value)} {oc1 kV1 dc1 pm1 cd1 ct1 : Value}
    {f2 : Addr} {od2 an2 : Option Addr} {sl2 : Array (Option Value)} {oc2 kV2 dc2 pm2 cd2 ct2 : Value}
    {f3 : Addr} {od3 an3 : Option Addr} {sl3 : Array (Option Value)} {oc3 kV3 dc3 pm3 cd3 ct3 : Value}
    {f4 : Addr} {od4 an4 : Option Addr} {sl4 : Array (Option Value)} {oc4 kV4 dc4 pm4 cd4 ct4 : Value}
    {f5 : Addr} {od5 an5 : Option Addr} {sl5 : Array (Option Value)} {oc5 kV5 dc5 pm5 cd5 ct5 : Value}
    {f6 : Addr} {od6 an6 : Option Addr} {sl6 : Array (Option Value)} {oc6 kV6 dc6 pm6 cd6 ct6 : Value}
    {f7 : Addr} {od7 an7 : Option Addr} {sl7 : Array (Option Value)} {oc7 kV7 dc7 pm7 cd7 ct7 : Value}
    {f8 : Addr} {od8 an8 : Option Addr} {sl8 : Array (Option Value)} {oc8 kV8 dc8 pm8 cd8 ct8 : Value}
    {f9 : Addr} {od9 an9 : Option Addr} {sl9 : Array (Option Value)} {oc9 kV9 dc9 pm9 cd9 ct9 : Value}
    {f10 : Addr} {od10 an10 : Option Addr} {sl10 : Array (Option Value)} {oc10 kV10 dc10 pm10 cd10 ct10 : Value}
    {f11 : Addr} {od11 an11 : Option Addr} {sl11 : Array (Option Value)} {oc11 kV11 dc11 pm11 cd11 ct11 : Value}
    {f12 : Addr} {od12 an12 : Option Addr} {sl12 : Array (Option Value)} {oc12 kV12 dc12 pm12 cd12 ct12 : Value}
    {f13 : Addr} {od13 an13 : Option Addr} {sl13 : Array (Option Value)} {oc13 kV13 dc13 pm13 cd13 ct13 : Value}
    {f14 : Addr} {od14 an14 : Option Addr} {sl14 : Array (Option Value)} {oc14 kV14 dc14 pm14 cd14 ct14 : Value}
    {f15 : Addr} {od15 an15 : Option Addr} {sl15 : Array (Option Value)} {oc15 kV15 dc15 pm15 cd15 ct15 : Value}
    {f16 : Addr} {od16 an16 : Option Addr} {sl16 : Array (Option Value)} {oc16 kV16 dc16 pm16 cd16 ct16 : Value}
    {f17 : Addr} {od17 an17 : Option Addr} {sl17 : Array (Option Value)} {oc17 kV17 dc17 pm17 cd17 ct17 : Value}
    {f18 : Addr} {od18 an18 : Option Addr} {sl18 : Array (Option Value)} {oc18 kV18 dc18 pm18 cd18 ct18 : Value}
    {f19 : Addr} {od19 an19 : Option Addr} {sl19 : Array (Option Value)} {oc19 kV19 dc19 pm19 cd19 ct19 : Value}
    {f20 : Addr} {od20 an20 : Option Addr} {sl20 : Array (Option Value)} {oc20 kV20 dc20 pm20 cd20 ct20 : Value}
    {f21 : Addr} {od21 an21 : Option Addr} {sl21 : Array (Option Value)} {oc21 kV21 dc21 pm21 cd21 ct21 : Value}
    {f22 : Addr} {od22 an22 : Option Addr} {sl22 : Array (Option Value)} {oc22 kV22 dc22 pm22 cd22 ct22 : Value}
    {f23 : Addr} {od23 an23 : Option Addr} {sl23 : Array (Option Value)} {oc23 kV23 dc23 pm23 cd23 ct23 : Value}
    {f24 : Addr} {od24 an24 : Option Addr} {sl24 : Array (Option Value)} {oc24 kV24 dc24 pm24 cd24 ct24 : Value}
    {f25 : Addr} {od25 an25 : Option Addr} {sl25 : Array (Option Value)} {oc25 kV25 dc25 pm25 cd25 ct25 : Value}
    {f26 : Addr} {od26 an26 : Option Addr} {sl26 : Array (Option Value)} {oc26 kV26 dc26 pm26 cd26 ct26 : Value}
    {f27 : Addr} {od27 an27 : Option Addr} {sl27 : Array (Option Value)} {oc27 kV27 dc27 pm27 cd27 ct27 : Value}
    (a0 : PySem.W.nsIn K mainGlobals "_law_pot" = some (some (.ref f0))) (l0 : K.lookup f0 = some ⟨oc0, od0, .func (PySem.W.fnOf "_law_pot" "_law_pot" (defArgs s_law_pot) (defBody s_law_pot) (defScope s_law_pot) .none kV0 dc0 pm0 an0 cd0 ct0), sl0⟩) (c0 : PySem.W.codeIn K cd0 "_law_pot" = true) (k0 : PySem.W.keepIn K (.ref f0) = true)
    (a1 : PySem.W.nsIn K mainGlobals "_law_take" = some (some (.ref f1))) (l1 : K.lookup f1 = some ⟨oc1, od1, .func (PySem.W.fnOf "_law_take" "_law_take" (defArgs s_law_take) (defBody s_law_take) (defScope s_law_take) .none kV1 dc1 pm1 an1 cd1 ct1), sl1⟩) (c1 : PySem.W.codeIn K cd1 "_law_take" = true) (k1 : PySem.W.keepIn K (.ref f1) = true)
    (a2 : PySem.W.nsIn K mainGlobals "_law_wide" = some (some (.ref f2))) (l2 : K.lookup f2 = some ⟨oc2, od2, .func (PySem.W.fnOf "_law_wide" "_law_wide" (defArgs s_law_wide) (defBody s_law_wide) (defScope s_law_wide) .none kV2 dc2 pm2 an2 cd2 ct2), sl2⟩) (c2 : PySem.W.codeIn K cd2 "_law_wide" = true) (k2 : PySem.W.keepIn K (.ref f2) = true)
    (a3 : PySem.W.nsIn K mainGlobals "_law_number" = some (some (.ref f3))) (l3 : K.lookup f3 = some ⟨oc3, od3, .func (PySem.W.fnOf "_law_number" "_law_number" (defArgs s_law_number) (defBody s_law_number) (defScope s_law_number) .none kV3 dc3 pm3 an3 cd3 ct3), sl3⟩) (c3 : PySem.W.codeIn K cd3 "_law_number" = true) (k3 : PySem.W.keepIn K (.ref f3) = true)
    (a4 : PySem.W.nsIn K mainGlobals "is_whole" = some (some (.ref f4))) (l4 : K.lookup f4 = some ⟨oc4, od4, .func (PySem.W.fnOf "is_whole" "is_whole" (defArgs sis_whole) (defBody sis_whole) (defScope sis_whole) .none kV4 dc4 pm4 an4 cd4 ct4), sl4⟩) (c4 : PySem.W.codeIn K cd4 "is_whole" = true) (k4 : PySem.W.keepIn K (.ref f4) = true)
    (a5 : PySem.W.nsIn K mainGlobals "are_whole" = some (some (.ref f5))) (l5 : K.lookup f5 = some ⟨oc5, od5, .func (PySem.W.fnOf "are_whole" "are_whole" (defArgs sare_whole) (defBody sare_whole) (defScope sare_whole) .none kV5 dc5 pm5 an5 cd5 ct5), sl5⟩) (c5 : PySem.W.codeIn K cd5 "are_whole" = true) (k5 : PySem.W.keepIn K (.ref f5) = true)
    (a6 : PySem.W.nsIn K mainGlobals "common_divisor" = some (some (.ref f6))) (l6 : K.lookup f6 = some ⟨oc6, od6, .func (PySem.W.fnOf "common_divisor" "common_divisor" (defArgs scommon_divisor) (defBody scommon_divisor) (defScope scommon_divisor) .none kV6 dc6 pm6 an6 cd6 ct6), sl6⟩) (c6 : PySem.W.codeIn K cd6 "common_divisor" = true) (k6 : PySem.W.keepIn K (.ref f6) = true)
    (a7 : PySem.W.nsIn K mainGlobals "is_lead" = some (some (.ref f7))) (l7 : K.lookup f7 = some ⟨oc7, od7, .func (PySem.W.fnOf "is_lead" "is_lead" (defArgs sis_lead) (defBody sis_lead) (defScope sis_lead) .none kV7 dc7 pm7 an7 cd7 ct7), sl7⟩) (c7 : PySem.W.codeIn K cd7 "is_lead" = true) (k7 : PySem.W.keepIn K (.ref f7) = true)
    (a8 : PySem.W.nsIn K mainGlobals "has_few_figures" = some (some (.ref f8))) (l8 : K.lookup f8 = some ⟨oc8, od8, .func (PySem.W.fnOf "has_few_figures" "has_few_figures" (defArgs shas_few_figures) (defBody shas_few_figures) (defScope shas_few_figures) .none kV8 dc8 pm8 an8 cd8 ct8), sl8⟩) (c8 : PySem.W.codeIn K cd8 "has_few_figures" = true) (k8 : PySem.W.keepIn K (.ref f8) = true)
    (a9 : PySem.W.nsIn K mainGlobals "is_point" = some (some (.ref f9))) (l9 : K.lookup f9 = some ⟨oc9, od9, .func (PySem.W.fnOf "is_point" "is_point" (defArgs sis_point) (defBody sis_point) (defScope sis_point) .none kV9 dc9 pm9 an9 cd9 ct9), sl9⟩) (c9 : PySem.W.codeIn K cd9 "is_point" = true) (k9 : PySem.W.keepIn K (.ref f9) = true)
    (a10 : PySem.W.nsIn K mainGlobals "is_heap" = some (some (.ref f10))) (l10 : K.lookup f10 = some ⟨oc10, od10, .func (PySem.W.fnOf "is_heap" "is_heap" (defArgs sis_heap) (defBody sis_heap) (defScope sis_heap) .none kV10 dc10 pm10 an10 cd10 ct10), sl10⟩) (c10 : PySem.W.codeIn K cd10 "is_heap" = true) (k10 : PySem.W.keepIn K (.ref f10) = true)
    (a11 : PySem.W.nsIn K mainGlobals "is_line" = some (some (.ref f11))) (l11 : K.lookup f11 = some ⟨oc11, od11, .func (PySem.W.fnOf "is_line" "is_line" (defArgs sis_line) (defBody sis_line) (defScope sis_line) .none kV11 dc11 pm11 an11 cd11 ct11), sl11⟩) (c11 : PySem.W.codeIn K cd11 "is_line" = true) (k11 : PySem.W.keepIn K (.ref f11) = true)
    (a12 : PySem.W.nsIn K mainGlobals "split_text" = some (some (.ref f12))) (l12 : K.lookup f12 = some ⟨oc12, od12, .func (PySem.W.fnOf "split_text" "split_text" (defArgs ssplit_text) (defBody ssplit_text) (defScope ssplit_text) .none kV12 dc12 pm12 an12 cd12 ct12), sl12⟩) (c12 : PySem.W.codeIn K cd12 "split_text" = true) (k12 : PySem.W.keepIn K (.ref f12) = true)
    (a13 : PySem.W.nsIn K mainGlobals "read_numbers" = some (some (.ref f13))) (l13 : K.lookup f13 = some ⟨oc13, od13, .func (PySem.W.fnOf "read_numbers" "read_numbers" (defArgs sread_numbers) (defBody sread_numbers) (defScope sread_numbers) .none kV13 dc13 pm13 an13 cd13 ct13), sl13⟩) (c13 : PySem.W.codeIn K cd13 "read_numbers" = true) (k13 : PySem.W.keepIn K (.ref f13) = true)
    (a14 : PySem.W.nsIn K mainGlobals "read_point" = some (some (.ref f14))) (l14 : K.lookup f14 = some ⟨oc14, od14, .func (PySem.W.fnOf "read_point" "read_point" (defArgs sread_point) (defBody sread_point) (defScope sread_point) .none kV14 dc14 pm14 an14 cd14 ct14), sl14⟩) (c14 : PySem.W.codeIn K cd14 "read_point" = true) (k14 : PySem.W.keepIn K (.ref f14) = true)
    (a15 : PySem.W.nsIn K mainGlobals "read_line" = some (some (.ref f15))) (l15 : K.lookup f15 = some ⟨oc15, od15, .func (PySem.W.fnOf "read_line" "read_line" (defArgs sread_line) (defBody sread_line) (defScope sread_line) .none kV15 dc15 pm15 an15 cd15 ct15), sl15⟩) (c15 : PySem.W.codeIn K cd15 "read_line" = true) (k15 : PySem.W.keepIn K (.ref f15) = true)
    (a16 : PySem.W.nsIn K mainGlobals "read_heap" = some (some (.ref f16))) (l16 : K.lookup f16 = some ⟨oc16, od16, .func (PySem.W.fnOf "read_heap" "read_heap" (defArgs sread_heap) (defBody sread_heap) (defScope sread_heap) .none kV16 dc16 pm16 an16 cd16 ct16), sl16⟩) (c16 : PySem.W.codeIn K cd16 "read_heap" = true) (k16 : PySem.W.keepIn K (.ref f16) = true)
    (a17 : PySem.W.nsIn K mainGlobals "_law_is_no_text" = some (some (.ref f17))) (l17 : K.lookup f17 = some ⟨oc17, od17, .func (PySem.W.fnOf "_law_is_no_text" "_law_is_no_text" (defArgs s_law_is_no_text) (defBody s_law_is_no_text) (defScope s_law_is_no_text) .none kV17 dc17 pm17 an17 cd17 ct17), sl17⟩) (c17 : PySem.W.codeIn K cd17 "_law_is_no_text" = true) (k17 : PySem.W.keepIn K (.ref f17) = true)
    (a18 : PySem.W.nsIn K mainGlobals "_law_refused" = some (some (.ref f18))) (l18 : K.lookup f18 = some ⟨oc18, od18, .func (PySem.W.fnOf "_law_refused" "_law_refused" (defArgs s_law_refused) (defBody s_law_refused) (defScope s_law_refused) .none kV18 dc18 pm18 an18 cd18 ct18), sl18⟩) (c18 : PySem.W.codeIn K cd18 "_law_refused" = true) (k18 : PySem.W.keepIn K (.ref f18) = true)
    (a19 : PySem.W.nsIn K mainGlobals "_law_whole" = some (some (.ref f19))) (l19 : K.lookup f19 = some ⟨oc19, od19, .func (PySem.W.fnOf "_law_whole" "_law_whole" (defArgs s_law_whole) (defBody s_law_whole) (defScope s_law_whole) .none kV19 dc19 pm19 an19 cd19 ct19), sl19⟩) (c19 : PySem.W.codeIn K cd19 "_law_whole" = true) (k19 : PySem.W.keepIn K (.ref f19) = true)
    (a20 : PySem.W.nsIn K mainGlobals "_law_is_point" = some (some (.ref f20))) (l20 : K.lookup f20 = some ⟨oc20, od20, .func (PySem.W.fnOf "_law_is_point" "_law_is_point" (defArgs s_law_is_point) (defBody s_law_is_point) (defScope s_law_is_point) .none kV20 dc20 pm20 an20 cd20 ct20), sl20⟩) (c20 : PySem.W.codeIn K cd20 "_law_is_point" = true) (k20 : PySem.W.keepIn K (.ref f20) = true)
    (a21 : PySem.W.nsIn K mainGlobals "_law_is_heap" = some (some (.ref f21))) (l21 : K.lookup f21 = some ⟨oc21, od21, .func (PySem.W.fnOf "_law_is_heap" "_law_is_heap" (defArgs s_law_is_heap) (defBody s_law_is_heap) (defScope s_law_is_heap) .none kV21 dc21 pm21 an21 cd21 ct21), sl21⟩) (c21 : PySem.W.codeIn K cd21 "_law_is_heap" = true) (k21 : PySem.W.keepIn K (.ref f21) = true)
    (a22 : PySem.W.nsIn K mainGlobals "_law_is_line" = some (some (.ref f22))) (l22 : K.lookup f22 = some ⟨oc22, od22, .func (PySem.W.fnOf "_law_is_line" "_law_is_line" (defArgs s_law_is_line) (defBody s_law_is_line) (defScope s_law_is_line) .none kV22 dc22 pm22 an22 cd22 ct22), sl22⟩) (c22 : PySem.W.codeIn K cd22 "_law_is_line" = true) (k22 : PySem.W.keepIn K (.ref f22) = true)
    (a23 : PySem.W.nsIn K mainGlobals "_law_bare" = some (some (.ref f23))) (l23 : K.lookup f23 = some ⟨oc23, od23, .func (PySem.W.fnOf "_law_bare" "_law_bare" (defArgs s_law_bare) (defBody s_law_bare) (defScope s_law_bare) .none kV23 dc23 pm23 an23 cd23 ct23), sl23⟩) (c23 : PySem.W.codeIn K cd23 "_law_bare" = true) (k23 : PySem.W.keepIn K (.ref f23) = true)
    (a24 : PySem.W.nsIn K mainGlobals "_law_within" = some (some (.ref f24))) (l24 : K.lookup f24 = some ⟨oc24, od24, .func (PySem.W.fnOf "_law_within" "_law_within" (defArgs s_law_within) (defBody s_law_within) (defScope s_law_within) .none kV24 dc24 pm24 an24 cd24 ct24), sl24⟩) (c24 : PySem.W.codeIn K cd24 "_law_within" = true) (k24 : PySem.W.keepIn K (.ref f24) = true)
    (a25 : PySem.W.nsIn K mainGlobals "_law_thing" = some (some (.ref f25))) (l25 : K.lookup f25 = some ⟨oc25, od25, .func (PySem.W.fnOf "_law_thing" "_law_thing" (defArgs s_law_thing) (defBody s_law_thing) (defScope s_law_thing) .none kV25 dc25 pm25 an25 cd25 ct25), sl25⟩) (c25 : PySem.W.codeIn K cd25 "_law_thing" = true) (k25 : PySem.W.keepIn K (.ref f25) = true)
    (a26 : PySem.W.nsIn K mainGlobals "_law_right" = some (some (.ref f26))) (l26 : K.lookup f26 = some ⟨oc26, od26, .func (PySem.W.fnOf "_law_right" "_law_right" (defArgs s_law_right) (defBody s_law_right) (defScope s_law_right) .none kV26 dc26 pm26 an26 cd26 ct26), sl26⟩) (c26 : PySem.W.codeIn K cd26 "_law_right" = true) (k26 : PySem.W.keepIn K (.ref f26) = true)
    (a27 : PySem.W.nsIn K mainGlobals "law" = some (some (.ref f27))) (l27 : K.lookup f27 = some ⟨oc27, od27, .func (PySem.W.fnOf "law" "law" (defArgs slaw) (defBody slaw) (defScope slaw) .none kV27 dc27 pm27 an27 cd27 ct27), sl27⟩) (c27 : PySem.W.codeIn K cd27 "law" = true) (k27 : PySem.W.keepIn K (.ref f27) = true)
    (z0 : PySem.W.nsIn K mainGlobals "len" = some none)
    (z1 : PySem.W.nsIn K mainGlobals "range" = some none)
    (z2 : PySem.W.nsIn K mainGlobals "max" = some none)
    (z3 : PySem.W.nsIn K mainGlobals "min" = some none)
    (z4 : PySem.W.nsIn K mainGlobals "abs" = some none)
    (z5 : PySem.W.nsIn K mainGlobals "int" = some none)
    (z6 : PySem.W.nsIn K mainGlobals "isinstance" = some none)
    (z7 : PySem.W.nsIn K mainGlobals "tuple" = some none)
    (z8 : PySem.W.nsIn K mainGlobals "bool" = some none)
    (z9 : PySem.W.nsIn K mainGlobals "list" = some none)
    (z10 : PySem.W.nsIn K mainGlobals "all" = some none)
    (z11 : PySem.W.nsIn K mainGlobals "any" = some none)
    (z12 : PySem.W.nsIn K mainGlobals "set" = some none)
    (z13 : PySem.W.nsIn K mainGlobals "sorted" = some none)
    (z14 : PySem.W.nsIn K mainGlobals "str" = some none)
    (z15 : PySem.W.nsIn K mainGlobals "enumerate" = some none)
    (z16 : PySem.W.nsIn K mainGlobals "zip" = some none)
    (z17 : PySem.W.nsIn K mainGlobals "divmod" = some none)
    {CL CN C1 C2 C3 C4 C5 C6 C7 C8 : Addr} (aL : PySem.W.nsIn K mainGlobals "LineError" = some (some (.ref CL)))
    (aN : PySem.W.nsIn K mainGlobals "NoText" = some (some (.ref CN)))
    (b1_ : PySem.W.nsIn K mainGlobals "NoLine" = some (some (.ref C1)))
    (b2_ : PySem.W.nsIn K mainGlobals "Empty" = some (some (.ref C2)))
    (b3_ : PySem.W.nsIn K mainGlobals "NoFlat" = some (some (.ref C3)))
    (b4_ : PySem.W.nsIn K mainGlobals "NoShare" = some (some (.ref C4)))
    (b5_ : PySem.W.nsIn K mainGlobals "NoRows" = some (some (.ref C5)))
    (b6_ : PySem.W.nsIn K mainGlobals "Lacking" = some (some (.ref C6)))
    (b7_ : PySem.W.nsIn K mainGlobals "NoRow" = some (some (.ref C7)))
    (b8_ : PySem.W.nsIn K mainGlobals "NoName" = some (some (.ref C8)))
    (zV : PySem.W.nsIn K mainGlobals "ValueError" = some none)
    (q1 : PySem.W.excIn K CN bmV "ValueError.__new__" = true)
    (x1 : PySem.W.findIn K (.ref CN) "__getattribute__" = some (some (.builtin "BaseException.__getattribute__")))
    (x2 : PySem.W.findIn K (.ref CN) "__getattr__" = some none)
    (x3 : PySem.W.findIn K (.ref CN) "__class__" = some (some (.builtin "object.__class__")))
    (x4 : PySem.W.specialIn K (.builtin "object.__class__") "__get__" = some (some (.builtin "getset_descriptor.__get__")))
    (x5 : PySem.W.takesIn K (.builtin "object.__class__") = some true)
    (x6 : PySem.W.mroIn K CN (.type "object") = some true)
    (x7 : PySem.W.mroIn K CN (.type "BaseException") = some true)
    (x8 : (PySem.W.clsIn K CN).isSome = true)
    (m1 : PySem.W.exmOne K (.ref CN) (.ref CL) = some true)
    (i1 : PySem.W.kitOne K (.ref CN) (.type "ValueError") = some true)
    (i2 : PySem.W.kitAny K (.ref CN) [.ref C1, .ref C2, .ref C3, .ref C4, .ref C5, .ref C6, .ref C7, .ref C8] = some false)
    (m2 : PySem.W.exmOne K (.ref CN) (.ref CN) = some true)
    : ∃ fd : FuncData, (∀ (s : Shared) (v : Value), BindsTo s fd ⟨[v], []⟩ [("_law_script", v)]) ∧ ∀ base : Heap, K.In base → base.Ns mainGlobals mg → FnOk l.prog w K mg base (XC l.prog w) 9 fa fd ["_law_script"] (spLaw K) := by
  have e := hfa.symm.trans (PySem.W.mg_of X G a27)
  cases e
  have T : Txt mg := ⟨PySem.W.mg_none_of X G z0, PySem.W.mg_none_of X G z1, PySem.W.mg_none_of X G z2, PySem.W.mg_none_of X G z3, PySem.W.mg_none_of X G z4, PySem.W.mg_none_of X G z5, PySem.W.mg_none_of X G z6, PySem.W.mg_none_of X G z7, PySem.W.mg_none_of X G z8, PySem.W.mg_none_of X G z9, PySem.W.mg_none_of X G z10, PySem.W.mg_none_of X G z11, PySem.W.mg_none_of X G z12, PySem.W.mg_none_of X G z13, PySem.W.mg_none_of X G z14, PySem.W.mg_none_of X G z15, PySem.W.mg_none_of X G z16, PySem.W.mg_none_of X G z17⟩
  have TC : TxtC K mg CL CN C1 C2 C3 C4 C5 C6 C7 C8 := ⟨T.isinstance_, PySem.W.mg_none_of X G zV, PySem.W.mg_of X G aL, PySem.W.mg_of X G aN, PySem.W.mg_of X G b1_, PySem.W.mg_of X G b2_, PySem.W.mg_of X G b3_, PySem.W.mg_of X G b4_, PySem.W.mg_of X G b5_, PySem.W.mg_of X G b6_, PySem.W.mg_of X G b7_, PySem.W.mg_of X G b8_, q1, ⟨x1, x2, x3, x4, x5, x6, x7, x8⟩, m1, i1, i2, m2⟩
  have F0 := fun_mk (st := s_law_pot) l0 c0 k0
  have b0 := F0.binds (ps := ["_law_script", "_law_k"]) fun _ _ _ _ _ _ us hl => match us, hl with | [_, _], _ => rfl
  have F1 := fun_mk (st := s_law_take) l1 c1 k1
  have b1 := F1.binds (ps := ["_law_pot_here", "_law_many"]) fun _ _ _ _ _ _ us hl => match us, hl with | [_, _], _ => rfl
  have F2 := fun_mk (st := s_law_wide) l2 c2 k2
  have b2 := F2.binds (ps := ["_law_pot_here"]) fun _ _ _ _ _ _ us hl => match us, hl with | [_], _ => rfl
  have F3 := fun_mk (st := s_law_number) l3 c3 k3
  have b3 := F3.binds (ps := ["_law_pot_here"]) fun _ _ _ _ _ _ us hl => match us, hl with | [_], _ => rfl
  have F4 := fun_mk (st := sis_whole) l4 c4 k4
  have b4 := F4.binds (ps := ["thing"]) fun _ _ _ _ _ _ us hl => match us, hl with | [_], _ => rfl
  have F5 := fun_mk (st := sare_whole) l5 c5 k5
  have b5 := F5.binds (ps := ["things"]) fun _ _ _ _ _ _ us hl => match us, hl with | [_], _ => rfl
  have F6 := fun_mk (st := scommon_divisor) l6 c6 k6
  have b6 := F6.binds (ps := ["one", "other"]) fun _ _ _ _ _ _ us hl => match us, hl with | [_, _], _ => rfl
  have F7 := fun_mk (st := sis_lead) l7 c7 k7
  have b7 := F7.binds (ps := ["a", "b"]) fun _ _ _ _ _ _ us hl => match us, hl with | [_, _], _ => rfl
  have F8 := fun_mk (st := shas_few_figures) l8 c8 k8
  have b8 := F8.binds (ps := ["number"]) fun _ _ _ _ _ _ us hl => match us, hl with | [_], _ => rfl
  have F9 := fun_mk (st := sis_point) l9 c9 k9
  have b9 := F9.binds (ps := ["thing"]) fun _ _ _ _ _ _ us hl => match us, hl with | [_], _ => rfl
  have F10 := fun_mk (st := sis_heap) l10 c10 k10
  have b10 := F10.binds (ps := ["thing"]) fun _ _ _ _ _ _ us hl => match us, hl with | [_], _ => rfl
  have F11 := fun_mk (st := sis_line) l11 c11 k11
  have b11 := F11.binds (ps := ["thing"]) fun _ _ _ _ _ _ us hl => match us, hl with | [_], _ => rfl
  have F12 := fun_mk (st := ssplit_text) l12 c12 k12
  have b12 := F12.binds (ps := ["text", "mark"]) fun _ _ _ _ _ _ us hl => match us, hl with | [_, _], _ => rfl
  have F13 := fun_mk (st := sread_numbers) l13 c13 k13
  have b13 := F13.binds (ps := ["text", "mark"]) fun _ _ _ _ _ _ us hl => match us, hl with | [_, _], _ => rfl
  have F14 := fun_mk (st := sread_point) l14 c14 k14
  have b14 := F14.binds (ps := ["text"]) fun _ _ _ _ _ _ us hl => match us, hl with | [_], _ => rfl
  have F15 := fun_mk (st := sread_line) l15 c15 k15
  have b15 := F15.binds (ps := ["text"]) fun _ _ _ _ _ _ us hl => match us, hl with | [_], _ => rfl
  have F16 := fun_mk (st := sread_heap) l16 c16 k16
  have b16 := F16.binds (ps := ["text"]) fun _ _ _ _ _ _ us hl => match us, hl with | [_], _ => rfl
  have F17 := fun_mk (st := s_law_is_no_text) l17 c17 k17
  have b17 := F17.binds (ps := ["_law_e"]) fun _ _ _ _ _ _ us hl => match us, hl with | [_], _ => rfl
  have F18 := fun_mk (st := s_law_refused) l18 c18 k18
  have b18 := F18.binds (ps := ["_law_way", "_law_thing_here"]) fun _ _ _ _ _ _ us hl => match us, hl with | [_, _], _ => rfl
  have F19 := fun_mk (st := s_law_whole) l19 c19 k19
  have b19 := F19.binds (ps := ["_law_thing_here"]) fun _ _ _ _ _ _ us hl => match us, hl with | [_], _ => rfl
  have F20 := fun_mk (st := s_law_is_point) l20 c20 k20
  have b20 := F20.binds (ps := ["_law_thing_here"]) fun _ _ _ _ _ _ us hl => match us, hl with | [_], _ => rfl
  have F21 := fun_mk (st := s_law_is_heap) l21 c21 k21
  have b21 := F21.binds (ps := ["_law_thing_here"]) fun _ _ _ _ _ _ us hl => match us, hl with | [_], _ => rfl
  have F22 := fun_mk (st := s_law_is_line) l22 c22 k22
  have b22 := F22.binds (ps := ["_law_thing_here"]) fun _ _ _ _ _ _ us hl => match us, hl with | [_], _ => rfl
  have F23 := fun_mk (st := s_law_bare) l23 c23 k23
  have b23 := F23.binds (ps := ["_law_pot_here"]) fun _ _ _ _ _ _ us hl => match us, hl with | [_], _ => rfl
  have F24 := fun_mk (st := s_law_within) l24 c24 k24
  have b24 := F24.binds (ps := ["_law_pot_here", "_law_parts"]) fun _ _ _ _ _ _ us hl => match us, hl with | [_, _], _ => rfl
  have F25 := fun_mk (st := s_law_thing) l25 c25 k25
  have b25 := F25.binds (ps := ["_law_pot_here", "_law_deep"]) fun _ _ _ _ _ _ us hl => match us, hl with | [_, _], _ => rfl
  have F26 := fun_mk (st := s_law_right) l26 c26 k26
  have b26 := F26.binds (ps := ["_law_thing_here"]) fun _ _ _ _ _ _ us hl => match us, hl with | [_], _ => rfl
  have F27 := fun_mk (st := slaw) l27 c27 k27
  have b27 := F27.binds (ps := ["_law_script"]) fun _ _ _ _ _ _ us hl => match us, hl with | [_], _ => rfl
  refine ⟨PySem.W.fnOf "law" "law" (defArgs slaw) (defBody slaw) (defScope slaw) .none kV27 dc27 pm27 an27 cd27 ct27, fun s v => .of_eq rfl, fun base Kb Gb => ?_⟩
  have O_law_pot : Own l.prog w K mg base (XC l.prog w) 1 "_law_pot" ["_law_script", "_law_k"] (spUp K sPot) := ⟨_, _, ok_pot F0 T, PySem.W.mg_of X G a0, k0, b0⟩
  have O_law_take : Own l.prog w K mg base (XC l.prog w) 1 "_law_take" ["_law_pot_here", "_law_many"] (spUp K (sDraw 2147483629)) := ⟨_, _, ok_take F1 , PySem.W.mg_of X G a1, k1, b1⟩
  have O_law_wide : Own l.prog w K mg base (XC l.prog w) 2 "_law_wide" ["_law_pot_here"] (spUp K (sNum 2147483629)) := ⟨_, _, ok_wide F2 T noXC O_law_take, PySem.W.mg_of X G a2, k2, b2⟩
  have O_law_number : Own l.prog w K mg base (XC l.prog w) 3 "_law_number" ["_law_pot_here"] (spUp K (sNum 2147483629)) := ⟨_, _, ok_number F3 noXC O_law_take O_law_wide, PySem.W.mg_of X G a3, k3, b3⟩
  have Ois_whole : Own l.prog w K mg base (XC l.prog w) 1 "is_whole" ["thing"] (spUp K sIsW) := ⟨_, _, ok_is_whole F4 T, PySem.W.mg_of X G a4, k4, b4⟩
  have Oare_whole : Own l.prog w K mg base (XC l.prog w) 2 "are_whole" ["things"] (spUp K sAreW) := ⟨_, _, ok_are_whole F5 T noXC Ois_whole, PySem.W.mg_of X G a5, k5, b5⟩
  have Ocommon_divisor : Own l.prog w K mg base (XC l.prog w) 1 "common_divisor" ["one", "other"] (spUp K sGcd) := ⟨_, _, ok_cd F6 T, PySem.W.mg_of X G a6, k6, b6⟩
  have Ois_lead : Own l.prog w K mg base (XC l.prog w) 2 "is_lead" ["a", "b"] (spUp K sIsL) := ⟨_, _, ok_is_lead F7 noXC Ocommon_divisor, PySem.W.mg_of X G a7, k7, b7⟩
  have Ohas_few_figures : Own l.prog w K mg base (XC l.prog w) 1 "has_few_figures" ["number"] (spUp K sFew) := ⟨_, _, ok_few F8 T, PySem.W.mg_of X G a8, k8, b8⟩
  have Ois_point : Own l.prog w K mg base (XC l.prog w) 3 "is_point" ["thing"] (spUp K sIsPt) := ⟨_, _, ok_is_point F9 T noXC Oare_whole Ohas_few_figures, PySem.W.mg_of X G a9, k9, b9⟩
  have Ois_heap : Own l.prog w K mg base (XC l.prog w) 4 "is_heap" ["thing"] (spUp K sIsHp) := ⟨_, _, ok_is_heap F10 T noXC Ois_point, PySem.W.mg_of X G a10, k10, b10⟩
  have Ois_line : Own l.prog w K mg base (XC l.prog w) 3 "is_line" ["thing"] (spUp K sIsLn) := ⟨_, _, ok_is_line F11 T noXC Oare_whole Ois_lead, PySem.W.mg_of X G a11, k11, b11⟩
  have Osplit_text : Own l.prog w K mg base (XC l.prog w) 1 "split_text" ["text", "mark"] (spNo2 K CN) := ⟨_, _, ok_splX F12 T TC, PySem.W.mg_of X G a12, k12, b12⟩
  have Oread_numbers : Own l.prog w K mg base (XC l.prog w) 2 "read_numbers" ["text", "mark"] (spNo2 K CN) := ⟨_, _, ok_rnX F13 T Osplit_text, PySem.W.mg_of X G a13, k13, b13⟩
  have Oread_point : Own l.prog w K mg base (XC l.prog w) 3 "read_point" ["text"] (spNo1 K CN) := ⟨_, _, ok_rpX F14 Oread_numbers, PySem.W.mg_of X G a14, k14, b14⟩
  have Oread_line : Own l.prog w K mg base (XC l.prog w) 3 "read_line" ["text"] (spNo1 K CN) := ⟨_, _, ok_rlX F15 Oread_numbers, PySem.W.mg_of X G a15, k15, b15⟩
  have Oread_heap : Own l.prog w K mg base (XC l.prog w) 2 "read_heap" ["text"] (spNo1 K CN) := ⟨_, _, ok_rhX F16 Osplit_text, PySem.W.mg_of X G a16, k16, b16⟩
  have U_law_is_no_text : OwnU l.prog w K mg base (XC l.prog w) 1 "_law_is_no_text" ["_law_e"] (spEmp CN) := ⟨_, _, ok_nt F17 TC, PySem.W.mg_of X G a17, k17, b17⟩
  have O_law_is_no_text := U_law_is_no_text.own
  have O_law_refused : Own l.prog w K mg base (XC l.prog w) 4 "_law_refused" ["_law_way", "_law_thing_here"] (spUp K sRef) := ⟨_, _, ok_refused F18 TC Oread_point Oread_heap Oread_line U_law_is_no_text, PySem.W.mg_of X G a18, k18, b18⟩
  have O_law_whole : Own l.prog w K mg base (XC l.prog w) 1 "_law_whole" ["_law_thing_here"] (spUp K sIsW) := ⟨_, _, ok_lw F19 T, PySem.W.mg_of X G a19, k19, b19⟩
  have O_law_is_point : Own l.prog w K mg base (XC l.prog w) 2 "_law_is_point" ["_law_thing_here"] (spUp K sIsPt) := ⟨_, _, ok_lpt F20 T noXC O_law_whole, PySem.W.mg_of X G a20, k20, b20⟩
  have O_law_is_heap : Own l.prog w K mg base (XC l.prog w) 3 "_law_is_heap" ["_law_thing_here"] (spUp K sIsHp) := ⟨_, _, ok_lhp F21 T noXC O_law_is_point, PySem.W.mg_of X G a21, k21, b21⟩
  have O_law_is_line : Own l.prog w K mg base (XC l.prog w) 2 "_law_is_line" ["_law_thing_here"] (spUp K sIsLn) := ⟨_, _, ok_lln F22 T noXC O_law_whole, PySem.W.mg_of X G a22, k22, b22⟩
  have O_law_bare : Own l.prog w K mg base (XC l.prog w) 4 "_law_bare" ["_law_pot_here"] (spUp K sThg) := ⟨_, _, ok_bare F23 T noXC O_law_take O_law_number, PySem.W.mg_of X G a23, k23, b23⟩
  have O_law_within : Own l.prog w K mg base (XC l.prog w) 2 "_law_within" ["_law_pot_here", "_law_parts"] (spUp K sWit) := ⟨_, _, ok_within F24 T noXC O_law_take, PySem.W.mg_of X G a24, k24, b24⟩
  have O_law_thing : Own l.prog w K mg base (XC l.prog w) 8 "_law_thing" ["_law_pot_here", "_law_deep"] (spUp K (sThing 4)) := ⟨_, _, ok_thing F25 T noXC (PySem.W.mg_of X G a25) k25 b25 O_law_take O_law_number O_law_bare O_law_within 4, PySem.W.mg_of X G a25, k25, b25⟩
  have O_law_right : Own l.prog w K mg base (XC l.prog w) 5 "_law_right" ["_law_thing_here"] (spUp K sRt) := ⟨_, _, ok_right F26 T noXC Ois_point Ois_heap Ois_line O_law_is_point O_law_is_heap O_law_is_line O_law_refused, PySem.W.mg_of X G a26, k26, b26⟩
  exact (ok_law F27 T noXC O_law_pot O_law_thing O_law_right).imp (fun _ _ _ _ h => law_up h)
theorem walk {l : PySem.W.OpenLaw} {q : Program} {loose : List Str} {XP : (Str → Option Value) → Heap → Prop} {YP : World → Heap → Prop} {d : DefRec} {K : Params → PySem.W.Frag} (hn : l.most = some 63) (hdf : d.params.defaults = [])
    (hY : ∀ (w : World) (h : Heap), YP w h → (K w.params).In h)
    (F : ∀ (w : World) (mg : Str → Option Value) (fa : Addr) (h : Heap), (K w.params).In h → h.Ns mainGlobals mg → mg d.name = some (.ref fa) →
      ∃ fd : FuncData, (∀ (s : Shared) (u : Value), BindsTo s fd ⟨[u], []⟩ [("_law_script", u)]) ∧ ∀ base : Heap, (K w.params).In base → base.Ns mainGlobals mg → FnOk l.prog w (K w.params) mg base (XC l.prog w) 9 fa fd ["_law_script"] (spLaw (K w.params))) :
    PySem.W.WalkO q loose XP YP l.row.toRowW d [] (fun f vs => PySem.call f vs) :=
  L2.walk_of (n := 63) (k := 9) (x := "_law_script") (CX := fun w => (XC l.prog w)) (sp := fun w => spLaw (K w.params)) hn (by decide) hdf ⟨rfl, by decide, by decide⟩ hY F (fun _ _ a ns hl _ hS => ⟨a, ns, rfl, hS, hl, fun _ => rfl⟩) fun _ _ _ _ _ z => noXC _ _ _ _ _ z
end K15
open PySem PySem.W PyProof.Rows
set_option maxRecDepth 100000 in
set_option maxHeartbeats 0 in
theorem PySem.Challenge.cw_halveline_k15_what_is_none_holds : PySem.Challenge.rw_halveline_k15_what_is_none.Holds := by
  w_on; o_law; k_head; (case hw => w_witness2)
  k_fill
  refine K15.walk (l := PySem.Challenge.rw_halveline_k15_what_is_none) rfl rfl (fun w h Y => PySem.W.kIn_of Y) ?F
  case F =>
    intro w mg fa h KX G hmg
    refine' K15.all_mk KX G hmg ?a0 ?l0 ?c0 ?k0 ?a1 ?l1 ?c1 ?k1 ?a2 ?l2 ?c2 ?k2 ?a3 ?l3 ?c3 ?k3 ?a4 ?l4 ?c4 ?k4 ?a5 ?l5 ?c5 ?k5 ?a6 ?l6 ?c6 ?k6 ?a7 ?l7 ?c7 ?k7 ?a8 ?l8 ?c8 ?k8 ?a9 ?l9 ?c9 ?k9 ?a10 ?l10 ?c10 ?k10 ?a11 ?l11 ?c11 ?k11 ?a12 ?l12 ?c12 ?k12 ?a13 ?l13 ?c13 ?k13 ?a14 ?l14 ?c14 ?k14 ?a15 ?l15 ?c15 ?k15 ?a16 ?l16 ?c16 ?k16 ?a17 ?l17 ?c17 ?k17 ?a18 ?l18 ?c18 ?k18 ?a19 ?l19 ?c19 ?k19 ?a20 ?l20 ?c20 ?k20 ?a21 ?l21 ?c21 ?k21 ?a22 ?l22 ?c22 ?k22 ?a23 ?l23 ?c23 ?k23 ?a24 ?l24 ?c24 ?k24 ?a25 ?l25 ?c25 ?k25 ?a26 ?l26 ?c26 ?k26 ?a27 ?l27 ?c27 ?k27 ?z0 ?z1 ?z2 ?z3 ?z4 ?z5 ?z6 ?z7 ?z8 ?z9 ?z10 ?z11 ?z12 ?z13 ?z14 ?z15 ?z16 ?z17 ?aL ?aN ?b1_ ?b2_ ?b3_ ?b4_ ?b5_ ?b6_ ?b7_ ?b8_ ?zV ?q1 ?x1 ?x2 ?x3 ?x4 ?x5 ?x6 ?x7 ?x8 ?m1 ?i1 ?i2 ?m2
    (case a0 => k_is)
    (case l0 => k_is)
    (case c0 => k_is)
    (case k0 => k_is)
    (case a1 => k_is)
    (case l1 => k_is)
    (case c1 => k_is)
    (case k1 => k_is)
    (case a2 => k_is)
    (case l2 => k_is)
    (case c2 => k_is)
    (case k2 => k_is)
    (case a3 => k_is)
    (case l3 => k_is)
    (case c3 => k_is)
    (case k3 => k_is)
    (case a4 => k_is)
    (case l4 => k_is)
    (case c4 => k_is)
    (case k4 => k_is)
    (case a5 => k_is)
    (case l5 => k_is)
    (case c5 => k_is)
    (case k5 => k_is)
    (case a6 => k_is)
    (case l6 => k_is)
    (case c6 => k_is)
    (case k6 => k_is)
    (case a7 => k_is)
    (case l7 => k_is)
    (case c7 => k_is)
    (case k7 => k_is)
    (case a8 => k_is)
    (case l8 => k_is)
    (case c8 => k_is)
    (case k8 => k_is)
    (case a9 => k_is)
    (case l9 => k_is)
    (case c9 => k_is)
    (case k9 => k_is)
    (case a10 => k_is)
    (case l10 => k_is)
    (case c10 => k_is)
    (case k10 => k_is)
    (case a11 => k_is)
    (case l11 => k_is)
    (case c11 => k_is)
    (case k11 => k_is)
    (case a12 => k_is)
    (case l12 => k_is)
    (case c12 => k_is)
    (case k12 => k_is)
    (case a13 => k_is)
    (case l13 => k_is)
    (case c13 => k_is)
    (case k13 => k_is)
    (case a14 => k_is)
    (case l14 => k_is)
    (case c14 => k_is)
    (case k14 => k_is)
    (case a15 => k_is)
    (case l15 => k_is)
    (case c15 => k_is)
    (case k15 => k_is)
    (case a16 => k_is)
    (case l16 => k_is)
    (case c16 => k_is)
    (case k16 => k_is)
    (case a17 => k_is)
    (case l17 => k_is)
    (case c17 => k_is)
    (case k17 => k_is)
    (case a18 => k_is)
    (case l18 => k_is)
    (case c18 => k_is)
    (case k18 => k_is)
    (case a19 => k_is)
    (case l19 => k_is)
    (case c19 => k_is)
    (case k19 => k_is)
    (case a20 => k_is)
    (case l20 => k_is)
    (case c20 => k_is)
    (case k20 => k_is)
    (case a21 => k_is)
    (case l21 => k_is)
    (case c21 => k_is)
    (case k21 => k_is)
    (case a22 => k_is)
    (case l22 => k_is)
    (case c22 => k_is)
    (case k22 => k_is)
    (case a23 => k_is)
    (case l23 => k_is)
    (case c23 => k_is)
    (case k23 => k_is)
    (case a24 => k_is)
    (case l24 => k_is)
    (case c24 => k_is)
    (case k24 => k_is)
    (case a25 => k_is)
    (case l25 => k_is)
    (case c25 => k_is)
    (case k25 => k_is)
    (case a26 => k_is)
    (case l26 => k_is)
    (case c26 => k_is)
    (case k26 => k_is)
    (case a27 => k_is)
    (case l27 => k_is)
    (case c27 => k_is)
    (case k27 => k_is)
    (case z0 => k_is)
    (case z1 => k_is)
    (case z2 => k_is)
    (case z3 => k_is)
    (case z4 => k_is)
    (case z5 => k_is)
    (case z6 => k_is)
    (case z7 => k_is)
    (case z8 => k_is)
    (case z9 => k_is)
    (case z10 => k_is)
    (case z11 => k_is)
    (case z12 => k_is)
    (case z13 => k_is)
    (case z14 => k_is)
    (case z15 => k_is)
    (case z16 => k_is)
    (case z17 => k_is)
    (case aL => k_is)
    (case aN => k_is)
    (case b1_ => k_is)
    (case b2_ => k_is)
    (case b3_ => k_is)
    (case b4_ => k_is)
    (case b5_ => k_is)
    (case b6_ => k_is)
    (case b7_ => k_is)
    (case b8_ => k_is)
    (case zV => k_is)
    (case q1 => k_exc)
    (case x1 => k_is)
    (case x2 => k_is)
    (case x3 => k_is)
    (case x4 => k_is)
    (case x5 => k_is)
    (case x6 => k_is)
    (case x7 => k_is)
    (case x8 => kernel_rfl)
    (case m1 => kernel_rfl)
    (case i1 => kernel_rfl)
    (case i2 => kernel_rfl)
    (case m2 => kernel_rfl)
