import PyProof.Rows.All
import Wide.All
import OpenK.AllK
import Wide.FinOn
import Lean
import PyProof.EqAt
import PyProof.EqKinds
import PyProof.TupleCall
import KE.KSortTup
import PyProof.Rows.SortWalk
import PyProof.Rows.SetFrom
import PyProof.CollectIter
import PyProof.SeqI3
import PyProof.EnumFor
import PyProof.EnumMake
import PyProof.ZipIter
import PyProof.WalkInts
import PyProof.Rows.SumAny
import KE.KUnpackStar
import KE.KRevIter
import PySem.Challenge.RW_halveline_k72_parts_below
set_option Elab.async false
set_option linter.all false
set_option maxRecDepth 100000
noncomputable section
section
open PySem PySem.Spec PyProof.Rows
theorem qb:type_of% @wpAny_bind:=@wpAny_bind
theorem qc:type_of% @Heap.get?_push_of_some:=@Heap.get?_push_of_some
theorem qd:type_of% @wpAny_pure:=@wpAny_pure
theorem qe:type_of% @wpS_bind:=@wpS_bind
theorem qf:type_of% @Heap.lt_size:=@Heap.lt_size
theorem qh:type_of% @Array.getElem?_toList:=@Array.getElem?_toList
theorem qi:type_of% @List.mem_cons_of_mem:=@List.mem_cons_of_mem
theorem qj:type_of% @wpS_pure:=@wpS_pure
theorem qk:type_of% @Nat.le_refl:=@Nat.le_refl
theorem ql:type_of% @List.append_assoc:=@List.append_assoc
theorem qm:type_of% @List.mem_cons_self:=@List.mem_cons_self
theorem qo:type_of% @List.getElem?_eq_some_iff:=@List.getElem?_eq_some_iff
theorem qq:type_of% @Nat.ne_of_lt:=@Nat.ne_of_lt
theorem qt:type_of% @Heap.get?_push_size:=@Heap.get?_push_size
theorem qv:type_of% @List.take_append_drop:=@List.take_append_drop
theorem qw:type_of% @List.getD_eq_getElem?_getD:=@List.getD_eq_getElem?_getD
theorem qx:type_of% @List.mem_singleton:=@List.mem_singleton
theorem qy:type_of% @List.mem_append_right:=@List.mem_append_right
theorem qz:type_of% @Nat.le_trans:=@Nat.le_trans
theorem qA:type_of% @Nat.lt_of_lt_of_le:=@Nat.lt_of_lt_of_le
theorem qD:type_of% @List.pairwise_append:=@List.pairwise_append
theorem qE:type_of% @List.getElem_mem:=@List.getElem_mem
theorem qF:type_of% @List.pairwise_iff_getElem:=@List.pairwise_iff_getElem
theorem qI:type_of% @List.mem_map:=@List.mem_map
theorem qJ:type_of% @Nat.mod_eq_of_lt:=@Nat.mod_eq_of_lt
theorem qM:type_of% @List.getElem?_append_right:=@List.getElem?_append_right
theorem qN:type_of% @of_decide_eq_true:=@of_decide_eq_true
theorem qO:type_of% @decide_eq_true:=@decide_eq_true
theorem qP:type_of% @List.getElem?_append_left:=@List.getElem?_append_left
theorem qR:type_of% @List.getElem?_of_mem:=@List.getElem?_of_mem
theorem qT:type_of% @List.take_length:=@List.take_length
theorem qU:type_of% @List.length_take:=@List.length_take
theorem qX:type_of% @Array.getElem?_eq_none:=@Array.getElem?_eq_none
theorem ya:type_of% @wpS_forRange:=@wpS_forRange
theorem yc:type_of% @Nat.zero_le:=@Nat.zero_le
theorem yd:type_of% @List.length_drop:=@List.length_drop
theorem yf:type_of% @List.mem_of_mem_take:=@List.mem_of_mem_take
theorem yj:type_of% @wpAny_holding:=@wpAny_holding
theorem yl:type_of% @List.length_pos_iff:=@List.length_pos_iff
theorem yp:type_of% @Nat.le_of_lt:=@Nat.le_of_lt
theorem yq:type_of% @List.length_range:=@List.length_range
theorem yu:type_of% @Nat.lt_of_le_of_lt:=@Nat.lt_of_le_of_lt
theorem yv:type_of% @List.mem_append_left:=@List.mem_append_left
theorem yx:type_of% @Array.perm_iff_toList_perm:=@Array.perm_iff_toList_perm
theorem yz:type_of% @Heap.get?_update_other:=@Heap.get?_update_other
theorem yD:type_of% @wpAny_mono:=@wpAny_mono
theorem yH:type_of% @List.mem_of_mem_drop:=@List.mem_of_mem_drop
theorem yJ:type_of% @Nat.lt_irrefl:=@Nat.lt_irrefl
theorem yM:type_of% @wpAny_setState_of:=@wpAny_setState_of
theorem yN:type_of% @Nat.mod_lt:=@Nat.mod_lt
theorem yQ:type_of% @wpS_mono:=@wpS_mono
theorem yZ:type_of% @Heap.get?_update_self:=@Heap.get?_update_self
theorem y4:type_of% @Int.natAbs_mul:=@Int.natAbs_mul
theorem y6:type_of% @Array.getElem?_eq_getElem:=@Array.getElem?_eq_getElem
theorem y7:type_of% @List.mem_iff_getElem:=@List.mem_iff_getElem
theorem y8:type_of% @wpS_modify:=@wpS_modify
theorem jm:type_of% @Int.mul_pos:=@Int.mul_pos
theorem jr:type_of% @Int.mul_nonneg:=@Int.mul_nonneg
end
namespace L2
theorem lenIs1 {α:Type}{us:List α}{n:Nat}(h:us.length=n) (e:n=1):∃ a0,us=[a0]:=by
  subst e
  cases us with
  | nil=>simp at h
  | cons a0 us =>
    cases us with
    | nil=>exact ⟨_,rfl⟩
    | cons a b=>simp at h
theorem lenIs2 {α:Type}{us:List α}{n:Nat}(h:us.length=n) (e:n=2):∃ a0 a1,us=[a0,a1]:=by
  subst e
  cases us with
  | nil=>simp at h
  | cons a0 us =>
    cases us with
    | nil=>simp at h
    | cons a1 us =>
      cases us with
      | nil=>exact ⟨_,_,rfl⟩
      | cons a b=>simp at h
theorem lenIs3 {α:Type}{us:List α}{n:Nat}(h:us.length=n) (e:n=3):∃ a0 a1 a2,us=[a0,a1,a2]:=by
  subst e
  cases us with
  | nil=>simp at h
  | cons a0 us =>
    cases us with
    | nil=>simp at h
    | cons a1 us =>
      cases us with
      | nil=>simp at h
      | cons a2 us =>
        cases us with
        | nil=>exact ⟨_,_,_,rfl⟩
        | cons a b=>simp at h
theorem lenIs4 {α:Type}{us:List α}{n:Nat}(h:us.length=n) (e:n=4):∃ a0 a1 a2 a3,us=[a0,a1,a2,a3]:=by
  subst e
  cases us with
  | nil=>simp at h
  | cons a0 us =>
    cases us with
    | nil=>simp at h
    | cons a1 us =>
      cases us with
      | nil=>simp at h
      | cons a2 us =>
        cases us with
        | nil=>simp at h
        | cons a3 us =>
          cases us with
          | nil=>exact ⟨_,_,_,_,rfl⟩
          | cons a b=>simp at h
open PySem PySem.Spec PyProof.Rows
abbrev Key:=Sum Int Str
def qh9:Key->Value->Bool
  | .inl k,v=>Value.isInt k v
  | .inr x,v=>Value.isStrOf x v
def keyH (w:World):Key->Int
  | .inl k=>hashInt k
  | .inr x=>hashStr w x
theorem yy:∀ {k:Key}{v:Value},qh9 k v=true->(∃ i t,k=Sum.inl i/\v=Value.int i t)\/(∃ x t,k=Sum.inr x/\v=Value.str x t)
  | .inl i,v,h=>by
    obtain ⟨t,e⟩:=Value.isInt_shape (k:=i) (v:=v) h
    exact .inl ⟨i,t,rfl,e⟩
  | .inr x,v,h=>by
    obtain ⟨t,e⟩:=Value.isStrOf_shape (x:=x) (v:=v) h
    exact .inr ⟨x,t,rfl,e⟩
theorem qh8 (a b:Int):decide ((Sum.inl a:Key)=Sum.inl b)=(a == b):=by
  by_cases e:a=b
  · subst e;simp
  · have h:¬ (Sum.inl a:Key)=Sum.inl b:=fun q=>e (Sum.inl.inj q)
    rw [decide_eq_false h]
    exact (beq_eq_false_iff_ne.mpr e).symm
theorem qh5 (a b:Str):decide ((Sum.inr a:Key)=Sum.inr b)=decide (a=b):=by
  by_cases e:a=b
  · subst e;simp
  · have h:¬ (Sum.inr a:Key)=Sum.inr b:=fun q=>e (Sum.inr.inj q)
    rw [decide_eq_false h,decide_eq_false e]
theorem qh7 (a:Int) (b:Str):decide ((Sum.inl a:Key)=Sum.inr b)=false:=decide_eq_false (fun q=>nomatch q)
theorem qh6 (a:Str) (b:Int):decide ((Sum.inr a:Key)=Sum.inl b)=false:=decide_eq_false (fun q=>nomatch q)
def qb5 (prog:Program) (w:World):PySem.KeyKind prog w Key where
  is:=qh9
  hash:=keyH w
  inj:=fun v a b ha hb=>by
    rcases yy ha with ⟨i,t,rfl,rfl⟩ | ⟨x,t,rfl,rfl⟩
    · rcases yy hb with ⟨j,u,rfl,e⟩ | ⟨y,u,rfl,e⟩
      · injection e with e1 _;rw [e1]
      · exact nomatch e
    · rcases yy hb with ⟨j,u,rfl,e⟩ | ⟨y,u,rfl,e⟩
      · exact nomatch e
      · injection e with e1 _;rw [e1]
  byValue:=fun k v h=>by
    rcases yy h with ⟨i,t,rfl,rfl⟩ | ⟨x,t,rfl,rfl⟩ <;> rfl
  pyHash:=fun hv h=>by
    rcases yy hv with ⟨i,t,rfl,rfl⟩ | ⟨x,t,rfl,rfl⟩
    · exact wpAny_pyHash_int h
    · exact wpAny_pyHash_str h
  eqBool:=fun hu hv h=>by
    rcases yy hu with ⟨i,t,rfl,rfl⟩ | ⟨x,t,rfl,rfl⟩
    · rcases yy hv with ⟨j,u,rfl,rfl⟩ | ⟨y,u,rfl,rfl⟩
      · rw [qh8] at h;exact wpAny_eqBool_int h
      · rw [qh7] at h;exact SeqAt.EqAt.int_str i t y u _ _ _ _ h
    · rcases yy hv with ⟨j,u,rfl,rfl⟩ | ⟨y,u,rfl,rfl⟩
      · rw [qh6] at h;exact SeqAt.EqAt.str_int x t j u _ _ _ _ h
      · rw [qh5] at h;exact wpAny_eqBool_str h
  «strs»:=fun k x t v h=>by
    rcases yy h with ⟨i,u,rfl,e⟩ | ⟨y,u,rfl,e⟩
    · exact nomatch e
    · injection e with e1 _
      subst e1
      cases v <;> rfl
inductive V where
  | non | bl (b:Bool) | int (i:Int) | str (x:Str) | byt (b:Array UInt8) | flt (b:UInt64) | ref (a:Addr) | ty (n:String)
  deriving DecidableEq
def jl:V->Value->Prop
  | .non,u=>u=Value.none
  | .bl b,u=>u=Value.bool b
  | .int i,u=>∃ t,u=Value.int i t
  | .str x,u=>∃ t,u=Value.str x t
  | .byt b,u=>∃ t,u=Value.bytes b t
  | .flt b,u=>∃ t,u=Value.float b t
  | .ref a,u=>u=Value.ref a
  | .ty n,u=>u=Value.type n
abbrev yo:List V->List Value->Prop:=Paired jl
theorem yo.length {xs:List V}{us:List Value}(r:yo xs us):xs.length=us.length:=Paired.length r
theorem yo.get:∀ {xs:List V}{us:List Value}{i:Nat}{x:V},yo xs us->xs[i]?=some x->∃ u,us[i]?=some u/\jl x u
  | _,_,_,_,.nil,e=>by simp at e
  | _,_,0,_,.cons r _,e=>by simp at e;subst e;exact ⟨_,rfl,r⟩
  | _,_,i+1,x,.cons _ t,e=>by
    obtain ⟨u,h1,h2⟩:=yo.get (i:=i) (x:=x) t (by simpa using e)
    exact ⟨u,by simpa using h1,h2⟩
theorem yo.set {x:V}{u:Value}(r:jl x u):∀ {xs:List V}{us:List Value}(i:Nat),yo xs us->yo (xs.set i x) (us.set i u)
  | _,_,_,.nil=>.nil
  | _,_,0,.cons _ t=>.cons r t
  | _,_,i+1,.cons q t=>.cons q (yo.set r i t)
theorem yo.append:∀ {xs ys:List V}{us ws:List Value},yo xs us->yo ys ws->yo (xs++ys) (us++ws)
  | _,_,_,_,.nil,s=>s
  | _,_,_,_,.cons r t,s=>.cons r (yo.append t s)
theorem yo.take:∀ {xs:List V}{us:List Value}(n:Nat),yo xs us->yo (xs.take n) (us.take n)
  | _,_,0,_=>.nil
  | _,_,_+1,.nil=>.nil
  | _,_,n+1,.cons r t=>.cons r (yo.take n t)
theorem yo.drop:∀ {xs:List V}{us:List Value}(n:Nat),yo xs us->yo (xs.drop n) (us.drop n)
  | _,_,0,r=>r
  | _,_,_+1,.nil=>.nil
  | _,_,n+1,.cons _ t=>yo.drop n t
def RelO:Option V->Option Value->Prop
  | some v,some u=>jl v u
  | none,none=>True
  | _,_=>False
def KV {κ:Type}:List (κ×V)->List (κ×Value)->Prop:=Paired fun (p:κ×V) (q:κ×Value)=>p.1=q.1/\jl p.2 q.2
def kV:Key->V
  | .inl i=>.int i
  | .inr x=>.str x
inductive HO where
    | lst (xs:List V)
    | tup (xs:List V)
    | dK (kvs:List (Key×V)) | dT (kvs:List (List Key×V))
    | set (S:Int->Bool) (n:Nat)
    | ins (C dx:Addr) (fs:List (Str×V))
    | own (x:Addr)
    | xd (fs:List (Str×V))
    | met (f x:Addr)
    | rng (lo hi:Int)
    | frz (o:Obj) (u:HO)
    | tbl (ps:Array Value)
    | ext (φ:Heap->Prop)
abbrev Hp:=Addr->Option HO
def upd (H:Hp) (a:Addr) (o:HO):Hp:=fun b=>if b=a then some o else H b
theorem yb {H:Hp}{a:Addr}{o:HO}:upd H a o a=some o:=by unfold upd;rw [if_pos rfl]
theorem qV {H:Hp}{a b:Addr}{o:HO}(h:b≠a):upd H a o b=H b:=by unfold upd;rw [if_neg h]
theorem qhY {H:Hp}{a b:Addr}{o u:HO}(h:H a=some o) (h':H b=some u) (d:o≠u):a≠b:=by
  intro e;subst e;rw [h] at h';exact d (Option.some.inj h')
theorem qS {H:Hp}{a b:Addr}{o:HO}(h:H a=some o) (h':H b=none):a≠b:=by
  intro e;subst e;rw [h] at h';cases h'
section
variable (P:Program) (w:World)
def jq (H:Hp) (h:Heap) (a:Addr):HO->Prop
  | .lst xs=>xs.length<=sizeLine/\∃ (its:List Value) (n:Nat),yo xs its/\h.get? a=some { cls:=.type "list",data:=.seq its.toArray n }
  | .tup xs=>xs.length<=sizeLine/\∃ its:List Value,yo xs its/\IsTup h a its.toArray
  | .dK kvs=>kvs.length<=sizeLine/\(a == sysModules)=false/\∃ vs,KV kvs vs/\h.DictOf (qb5 P w) a vs
  | .dT kvs=>kvs.length<=sizeLine/\(a == sysModules)=false/\∃ xs:List (List Key×Addr×Value),
      Paired (fun (p:List Key×V) (q:List Key×Addr×Value)=>p.1=q.1/\H q.2.1=some (.tup (p.1.map kV))/\jl p.2 q.2.2) kvs xs ∧
      ∃ o es ep,h.get? a=some o/\o.ExactDict/\o.data = .dict es ep/\es.toList=xs.map (entryOfKey (tupleKind (qb5 P w)))/\(xs.map (·.1)).Nodup
  | .set S n=>h.SetOf (intKind P w) a S n
  | .ins C dx fs=>H dx=some (.own a)/\fs.length<=1000/\dx≠a/\h.get? a=some (W.instObj C dx) ∧
      ∃ mA,h.Ns1 dx mA/\(∀ f,RelO (fs.lookup f) (mA f))/\PySem.Within mA (fs.map (·.1))
  | .own _=>∃ o,h.get? a=some o
  | .xd fs=>∃ mA,h.Ns1 a mA/\∀ f,RelO (fs.lookup f) (mA f)
  | .rng lo hi=>∃ t u v,h.get? a=some { cls:=.type "range",data:=.fields #[.int lo t,.int hi u,.int 1 v] }
  | .frz o u=>h.get? a=some o/\jq H h a u
  | .tbl ps=>h.get? a=some { cls:=.none,data:=.fields ps }
  | .met f x=>h.get? a=some (W.methodObj (.ref f) (.ref x))
  | .ext φ=>φ h/\(∃ o,h.get? a=some o)/\∀ h1 h2:Heap,φ h1->(∀ o,h1.get? a=some o->h2.get? a=some o)->φ h2
def HOk (H:Hp) (h:Heap):Prop:=∀ a o,H a=some o->jq P w H h a o
end
section
variable {P:Program}{w:World}{H H':Hp}{h h':Heap}{a:Addr}{o:HO}
theorem jq.lt (x:jq P w H h a o):a<h.objs.size:=by
  cases o with
  | lst xs=>obtain ⟨_,_,_,_,e⟩:=x;exact qf e
  | tup xs=>obtain ⟨_,_,_,p⟩:=x;exact p.lt
  | dK kvs=>obtain ⟨_,_,_,_,o,_,_,e,_⟩:=x;exact qf e
  | dT kvs=>obtain ⟨_,_,_,_,o,_,_,e,_⟩:=x;exact qf e
  | set S n=>obtain ⟨o,_,_,_,e,_⟩:=x;exact qf e
  | ins C dx fs=>obtain ⟨_,_,_,e,_⟩:=x;exact qf e
  | own y=>obtain ⟨_,e⟩:=x;exact qf e
  | xd fs=>obtain ⟨_,⟨_,_,_,e,_⟩,_⟩:=x;exact qf e
  | rng lo hi=>obtain ⟨_,_,_,e⟩:=x;exact qf e
  | frz ob u=>obtain ⟨e,_⟩:=x;exact qf e
  | tbl ps=>exact qf (show h.get? a=some _ from x)
  | met f y=>exact qf (show h.get? a=some _ from x)
  | ext φ=>obtain ⟨_,⟨_,e⟩,_⟩:=x;exact qf e
theorem Paired.mapP {α β:Type}{F G:α->β->Prop}:∀ {l₁:List α}{l₂:List β},Paired F l₁ l₂->(∀ a b,F a b->G a b)->Paired G l₁ l₂
  | _,_,.nil,_=>.nil
  | _,_,.cons r t,f=>.cons (f _ _ r) (Paired.mapP t f)
theorem jq.stay (x:jq P w H h a o) (k:∀ b u,(b=a\/H b=some (.own a))->h.get? b=some u->h'.get? b=some u)
    (ho:∀ b,H b=some (.own a)->H' b=some (.own a)) (ht:∀ b xs,H b=some (.tup xs)->H' b=some (.tup xs)):jq P w H' h' a o:=by
  induction o with
  | lst xs=>obtain ⟨z,its,n,r,e⟩:=x;exact ⟨z,its,n,r,k _ _ (.inl rfl) e⟩
  | tup xs=>obtain ⟨z,its,r,ob,e,c⟩:=x;exact ⟨z,its,r,ob,k _ _ (.inl rfl) e,c⟩
  | dK kvs=>obtain ⟨z,y,vs,r,ob,es,ep,e,c⟩:=x;exact ⟨z,y,vs,r,ob,es,ep,k _ _ (.inl rfl) e,c⟩
  | dT kvs =>
    obtain ⟨z,y,xs,r,ob,es,ep,e,c⟩:=x
    exact ⟨z,y,xs,Paired.mapP r fun p q z=>⟨z.1,ht _ _ z.2.1,z.2.2⟩,ob,es,ep,k _ _ (.inl rfl) e,c⟩
  | set S n=>obtain ⟨ob,es,ep,t,e,c⟩:=x;exact ⟨ob,es,ep,t,k _ _ (.inl rfl) e,c⟩
  | ins C dx fs =>
    obtain ⟨d,z,ne,e,mA,⟨od,es,ep,e2,c⟩,r⟩:=x
    exact ⟨ho _ d,z,ne,k _ _ (.inl rfl) e,mA,⟨od,es,ep,k _ _ (.inr d) e2,c⟩,r⟩
  | own y=>obtain ⟨ob,e⟩:=x;exact ⟨ob,k _ _ (.inl rfl) e⟩
  | xd fs=>obtain ⟨mA,⟨od,es,ep,e,c⟩,r⟩:=x;exact ⟨mA,⟨od,es,ep,k _ _ (.inl rfl) e,c⟩,r⟩
  | rng lo hi=>obtain ⟨t,u,v,e⟩:=x;exact ⟨t,u,v,k _ _ (.inl rfl) e⟩
  | frz ob u ih=>obtain ⟨e,q⟩:=x;exact ⟨k _ _ (.inl rfl) e,ih q⟩
  | tbl ps =>
    have e:h.get? a=some { cls:=.none,data:=.fields ps }:=x
    show h'.get? a=some { cls:=.none,data:=.fields ps }
    exact k a _ (.inl rfl) e
  | met f y =>
    have e:h.get? a=some (W.methodObj (.ref f) (.ref y)):=x
    show h'.get? a=some (W.methodObj (.ref f) (.ref y))
    exact k a _ (.inl rfl) e
  | ext φ=>obtain ⟨p,⟨o,e⟩,st⟩:=x;exact ⟨st _ _ p fun o q=>k _ _ (.inl rfl) q,⟨o,k _ _ (.inl rfl) e⟩,st⟩
theorem HOk.lt (x:HOk P w H h) (e:H a=some o):a<h.objs.size:=(x a o e).lt
theorem HOk.fresh (x:HOk P w H h) (e:h.objs.size<=a):H a=none:=by
  cases q:H a with
  | none=>rfl
  | some u=>exact absurd (qA (x.lt q) e) (yJ _)
theorem HOk.kept (x:HOk P w H h) (k:∀ b u,h.get? b=some u->h'.get? b=some u):HOk P w H h':=fun a o e =>
  (x a o e).stay (fun b u _ q=>k b u q) (fun _ q=>q) fun _ _ q=>q
theorem HOk.laid (x:HOk P w H h) (k:∀ b u,h.get? b=some u->h'.get? b=some u) (hp:h.objs.size<=a) (new:jq P w (upd H a o) h' a o):HOk P w (upd H a o) h':=fun b u e=>by
  have hn:=x.fresh hp
  by_cases hb:b=a
  · subst hb;rw [yb] at e;cases e;exact new
  · rw [qV hb] at e
    exact (x b u e).stay (fun c v _ q=>k c v q) (fun c q=>by rw [qV (qS q hn)];exact q) fun c xs q=>by rw [qV (qS q hn)];exact q
end
def Rd (H:Hp) (a:Addr) (u:HO):Prop:=H a=some u\/∃ o,H a=some (.frz o u)
theorem Rd.of {H:Hp}{a:Addr}{u:HO}(h:H a=some u):Rd H a u:=.inl h
theorem Rd.ok {P:Program}{w:World}{H:Hp}{h:Heap}{a:Addr}{u:HO}(r:Rd H a u) (x:HOk P w H h):jq P w H h a u:=by
  rcases r with r | ⟨o,r⟩
  · exact x a u r
  · obtain ⟨_,q⟩:=x a _ r
    exact q
def Mut:Option HO->Prop
  | some (.lst _)=>True
  | some (.dK _)=>True
  | some (.dT _)=>True
  | some (.set _ _)=>True
  | some (.ins _ _ _)=>True
  | some (.ext _)=>True
  | _=>False
section
variable {P:Program}{w:World}{H:Hp}{h h':Heap}{x e:Addr}{o':HO}
theorem HOk.write (ok:HOk P w H h) (mu:Mut (H x)) (he:e=x\/H e=some (.own x)) (k:∀ b u,b≠e->h.get? b=some u->h'.get? b=some u) (heo:∃ u,h'.get? e=some u)
    (new:jq P w (upd H x o') h' x o'):HOk P w (upd H x o') h':=fun b u q=>by
  have nown:∀ c y,H c=some (.own y)->c≠x:=fun c y r z=>by subst z;rw [r] at mu;exact mu
  have ntup:∀ c xs,H c=some (.tup xs)->c≠x:=fun c xs r z=>by subst z;rw [r] at mu;exact mu
  by_cases hb:b=x
  · subst hb;rw [yb] at q;cases q;exact new
  · rw [qV hb] at q
    by_cases hbe:b=e
    · have q':H b=some (.own x):=by
        rcases he with z | z
        · exact absurd (hbe.trans z) hb
        · rw [hbe];exact z
      rw [q] at q';cases q'
      obtain ⟨v,hv⟩:=heo
      exact ⟨v,by rw [hbe];exact hv⟩
    · refine (ok b u q).stay (fun c v hc r=>k c v ?_ r) (fun c r=>by rw [qV (nown c b r)];exact r) fun c xs r=>by rw [qV (ntup c xs r)];exact r
      rcases hc with rfl | hc
      · exact hbe
      · rintro rfl
        rcases he with z | z
        · exact nown c b hc z
        · rw [hc] at z;cases z;exact hb rfl
end
structure Un (fs ex:List Addr) (H H':Hp) (h h':Heap):Prop where
  keep:∀ b o,h.get? b=some o->H b=none->b∉fs->b∉ex->h'.get? b=some o
  slot:∀ b o,h.get? b=some o->H b=none->b∈fs->b∉ex->∃ sl,h'.get? b=some { o with slots:=sl }
  free:∀ b o,h.get? b=some o->H b=none->b∉ex->H' b=none
  there:∀ b o,h.get? b=some o->b∉ex->∃ o',h'.get? b=some o'
  tups:∀ b xs,H b=some (.tup xs)->H' b=some (.tup xs)
  frzs:∀ b o u,H b=some (.frz o u)->H' b=some (.frz o u)
  tbls:∀ b ps,H b=some (.tbl ps)->∃ more,H' b=some (.tbl (ps++more))
section
variable {fs fs' ex ex':List Addr}{H H1 H2:Hp}{h h1 h2 h':Heap}{a x e:Addr}{o:HO}
theorem Un.any (u:Un fs ex H H1 h h1) {b:Addr}{ob:Obj}(q:h.get? b=some ob) (n:H b=none) (hx:b∉ex):∃ sl,h1.get? b=some { ob with slots:=sl }:=by
  by_cases hb:b∈fs
  · exact u.slot b ob q n hb hx
  · exact ⟨ob.slots,u.keep b ob q n hb hx⟩
theorem Un.trans (a:Un fs ex H H1 h h1) (b:Un fs ex H1 H2 h1 h2):Un fs ex H H2 h h2 where
  keep:=fun c ob q n hc hx=>b.keep c ob (a.keep c ob q n hc hx) (a.free c ob q n hx) hc hx
  slot:=fun c ob q n hc hx=>by
    obtain ⟨sl,e1⟩:=a.slot c ob q n hc hx
    obtain ⟨sl',e2⟩:=b.slot c _ e1 (a.free c ob q n hx) hc hx
    exact ⟨sl',e2⟩
  free:=fun c ob q n hx=>by
    obtain ⟨o',e1⟩:=a.there c ob q hx
    exact b.free c o' e1 (a.free c ob q n hx) hx
  there:=fun c ob q hx=>by
    obtain ⟨o',e1⟩:=a.there c ob q hx
    exact b.there c o' e1 hx
  tups:=fun c xs q=>b.tups c xs (a.tups c xs q)
  frzs:=fun c ob xs q=>b.frzs c ob xs (a.frzs c ob xs q)
  tbls:=fun c ps q=>by
    obtain ⟨m1,e1⟩:=a.tbls c ps q
    obtain ⟨m2,e2⟩:=b.tbls c _ e1
    exact ⟨m1++m2,by rw [e2,Array.append_assoc]⟩
theorem Un.kept (k:∀ b u,h.get? b=some u->h'.get? b=some u):Un fs ex H H h h' :=
  ⟨fun b ob q _ _ _=>k b ob q,fun b ob q _ _ _=>⟨ob.slots,k b ob q⟩,fun _ _ _ n _=>n,fun b ob q _=>⟨ob,k b ob q⟩,fun _ _ q=>q,fun _ _ _ q=>q,fun _ ps q=>⟨#[],by rw [q];simp⟩⟩
theorem Un.refl:Un fs ex H H h h:=Un.kept fun _ _ q=>q
theorem Un.laid (k:∀ b u,h.get? b=some u->h'.get? b=some u) (hp:h.objs.size<=a) (hn:H a=none):Un fs ex H (upd H a o) h h' where
  keep:=fun b u q _ _ _=>k b u q
  slot:=fun b u q _ _ _=>⟨u.slots,k b u q⟩
  free:=fun b u q n _=>by rw [qV (qq (qA (qf q) hp))];exact n
  there:=fun b u q _=>⟨u,k b u q⟩
  tups:=fun b xs q=>by rw [qV (qS q hn)];exact q
  frzs:=fun b u xs q=>by rw [qV (qS q hn)];exact q
  tbls:=fun b ps q=>⟨#[],by rw [qV (qS q hn),q];simp⟩
theorem Un.write (mu:Mut (H x)) (he:e=x\/H e=some (.own x)) (k:∀ b u,b≠e->h.get? b=some u->h'.get? b=some u) (heo:∃ u,h'.get? e=some u):Un fs ex H (upd H x o) h h':=by
  have hx:∀ b,H b=none->b≠x:=fun b n z=>by subst z;rw [n] at mu;exact mu
  have hb:∀ b,H b=none->b≠e:=fun b n z=>by
    subst z
    rcases he with r | r
    · exact hx b n r
    · rw [n] at r;cases r
  have hm:∀ b u,H b=some u->¬ Mut (some u)->b≠x:=fun b u q nm z=>by subst z;rw [q] at mu;exact nm mu
  refine ⟨fun b u q n _ _=>k b u (hb b n) q,fun b u q n _ _=>⟨u.slots,k b u (hb b n) q⟩,fun b u q n _=>by rw [qV (hx b n)];exact n,fun b u q _=>?_,
    fun b xs q=>by rw [qV (hm b _ q fun z=>z)];exact q,fun b u xs q=>by rw [qV (hm b _ q fun z=>z)];exact q,fun b ps q=>⟨#[],by rw [qV (hm b _ q fun z=>z),q];simp⟩⟩
  by_cases hbe:b=e
  · subst hbe;exact heo
  · exact ⟨u,k b u hbe q⟩
theorem Un.mono (u:Un fs ex H H1 h h1) (hs:∀ b∈fs,b∈fs') (hx:∀ b∈ex,b∈ex'):Un fs' ex' H H1 h h1 :=
  ⟨fun b ob q n hb he=>u.keep b ob q n (fun z=>hb (hs b z)) fun z=>he (hx b z),fun _ _ q n _ he=>u.any q n fun z=>he (hx _ z),fun b ob q n he=>u.free b ob q n fun z=>he (hx b z),fun b ob q he=>u.there b ob q fun z=>he (hx b z),u.tups,u.frzs,u.tbls⟩
end
def trk (h:Heap) (H:Hp):List Addr:=(List.range h.objs.size).filter fun a=>(H a).isSome
def qdU (h:Heap) (H:Hp):Heap:=W.hideAll h (trk h H)
theorem qcm (h:Heap) (H:Hp):(qdU h H).objs.size=h.objs.size:=W.hideAll_size _ _
theorem qdT {h:Heap}{H:Hp}{b:Addr}{o:Obj}(e:h.get? b=some o) (n:H b=none):(qdU h H).get? b=some o :=
  W.hideAll_get _ e fun hm=>by
    have q:(H b).isSome=true:=(List.mem_filter.mp hm).2
    rw [n] at q;simp at q
theorem qgd {h:Heap}{H:Hp}{b:Addr}{o:Obj}(e:(qdU h H).get? b=some o):h.get? b=some o/\H b=none:=by
  have e':h.get? b=some o:=W.of_hideAll (trk h H) e
  refine ⟨e',?_⟩
  cases q:H b with
  | none=>rfl
  | some x =>
    have hm:b∈trk h H:=List.mem_filter.mpr ⟨List.mem_range.mpr (qf e'),by simp [q]⟩
    have z:(qdU h H).get? b=none:=W.hideAll_none (trk h H) hm
    rw [z] at e;cases e
def qgL (g h:Heap) (L:Addr):List (Addr×Obj):=(List.range h.objs.size).filterMap fun a=>if a=L\/(g.get? a).isSome=true then none else (h.get? a).map fun o=>(a,o)
def yP (g h:Heap) (L d:Addr):List (Addr×Obj):=(qgL g h L).filter fun p=>decide (p.1≠d)
structure Mod (K:W.Frag) (mg:Str->Option Value) (base:Heap):Prop where
  kin:K.In base
  glob:base.Ns mainGlobals mg
  blt:∃ mb,base.Ns builtinsNs mb/\∀ x:Str,x ≠ "__name__" -> mb x=bootBuiltins x
  nolimit:base.NoLimit
structure Cx where
  prog:Program
  w:World
  K:W.Frag
  mg:Str->Option Value
  base:Heap
  A:Around
  N:List Str
  s₀:Shared
  H₀:Hp
  env:Env
  outer:List Env
  stack:List Env
  ex:List Addr
  fn:Str->Bool
  calm:Bool
  pn:List (Addr×Obj)
  xe:Value->Shared->Prop
def frs (l:List Env):List Addr:=l.filterMap (·.frame)
abbrev Cx.fs (X:Cx):List Addr:=frs X.outer
def Vis (sc:Scope) (x:Str):Prop:=sc.names.lookup x=some .local\/sc.names.lookup x=some .cell\/sc.names.lookup x=some .free
def Loc (sc:Scope) (x:Str):Prop:=sc.names.lookup x=some .local\/sc.names.lookup x=some .cell
def Look (env:Env) (h:Heap) (m:Str->Option Value) (x:Str) (u:Value):Prop :=
  (env.kindOf x=some .local/\m x=some u)\/((env.kindOf x=some .cell\/env.kindOf x=some .free)/\∃ c,env.cells.lookup x=some c/\h.IsCell c (some u))
structure Cx.Ok (X:Cx):Prop where
  mod:Mod X.K X.mg X.base
  kind:X.env.scope.kind = .function
  glob:X.env.globals=mainGlobals
  blt:X.env.builtins=builtinsNs
  above:X.s₀.heap.objs.size<=X.env.locals
  inj:∀ x y c,X.env.cells.lookup x=some c->X.env.cells.lookup y=some c->x=y
  has:∀ x,(X.env.kindOf x=some .cell\/X.env.kindOf x=some .free)->∃ c,X.env.cells.lookup x=some c
  cab:∀ x c,X.fn x=true->X.env.cells.lookup x=some c->X.s₀.heap.objs.size<=c
  hd:X.calm=true->X.A.handled=none
  frames:X.A.frames=some X.stack
  stk:X.stack=X.outer\/(X.stack=X.env::X.outer/\X.env.frame=some X.env.locals)
  exf:∀ b∈X.ex,b≠X.env.locals/\∀ x c,X.env.cells.lookup x=some c->c≠b
  bs:∀ b o,X.base.get? b=some o->X.s₀.heap.get? b=some o/\X.H₀ b=none
  bsz:X.base.objs.size<=X.s₀.heap.objs.size
  noex:∀ b o,X.base.get? b=some o->b∉X.ex
  exfs:∀ b∈X.ex,b∉X.fs
  funs:X.s₀.heap.FunFrames X.base X.outer
  frf:∀ b∈X.fs,X.H₀ b=none
structure Inv (X:Cx) (pins:List (Addr×Obj)) (σ:List (Option V)) (H:Hp) (s:Shared):Prop where
  ok:X.Ok
  os:s.os=X.s₀.os
  bare:AllBare s.gens
  base:Un X.fs X.ex X.H₀ H X.s₀.heap s.heap
  loc:∃ m,s.heap.Ns X.env.locals m/\∀ (i:Nat) (x:Str) (v:V),X.N[i]?=some x->σ[i]?=some (some v)->Vis X.env.scope x->∃ u,jl v u/\Look X.env s.heap m x u
  cell:∀ x c,X.env.cells.lookup x=some c->∃ v,s.heap.IsCell c v
  free:H X.env.locals=none
  freeC:∀ x c,X.env.cells.lookup x=some c->H c=none
  pin:∀ p∈X.pn++pins,s.heap.get? p.1=some p.2/\H p.1=none/\p.1≠X.env.locals/\p.1∉X.fs/\∀ v,p.2.data≠.cell v
  hok:HOk X.prog X.w H s.heap
  len:σ.length=X.N.length
section
variable {X:Cx}{pins:List (Addr×Obj)}{σ:List (Option V)}{H H':Hp}{s:Shared}{h':Heap}
theorem Cx.Ok.nofr (ok:X.Ok) {b:Addr}{o:Obj}(e:X.base.get? b=some o):b∉X.fs:=fun hb=>by
  have:=(ok.funs.mem hb).1
  rw [e] at this;cases this
theorem Inv.bs (I:Inv X pins σ H s):∀ b o,X.base.get? b=some o->s.heap.get? b=some o/\H b=none:=fun b o e =>
  ⟨I.base.keep b o (I.ok.bs b o e).1 (I.ok.bs b o e).2 (I.ok.nofr e) (I.ok.noex b o e),I.base.free b o (I.ok.bs b o e).1 (I.ok.bs b o e).2 (I.ok.noex b o e)⟩
theorem Inv.bk (I:Inv X pins σ H s):∀ b o,X.base.get? b=some o->s.heap.get? b=some o:=fun b o e=>(I.bs b o e).1
theorem Inv.mod (I:Inv X pins σ H s):Mod X.K X.mg X.base:=I.ok.mod
theorem Inv.kIn (I:Inv X pins σ H s):X.K.In s.heap:=I.ok.mod.kin.keeps I.bk
theorem Inv.nolimit (I:Inv X pins σ H s):s.heap.NoLimit:=I.ok.mod.nolimit.keeps I.bk
theorem Inv.fr (I:Inv X pins σ H s):∃ m,Fr X.base X.env.locals s.heap m :=
  let ⟨m,hn,_⟩:=I.loc
  ⟨m,hn,I.bk,qz I.ok.bsz I.ok.above⟩
theorem Inv.lt (I:Inv X pins σ H s):X.env.locals<s.heap.objs.size:=let ⟨_,hn,_⟩:=I.loc;hn.lt
theorem Inv.sz (I:Inv X pins σ H s):X.s₀.heap.objs.size<=s.heap.objs.size:=qz I.ok.above (yp I.lt)
theorem Inv.nofs (I:Inv X pins σ H s) {a:Addr}(h:s.heap.objs.size<=a):a∉X.fs:=fun hb=>by
  obtain ⟨_,o,ho,_⟩:=I.ok.funs.mem hb
  exact absurd (qA (qf ho) (qz I.sz h)) (yJ _)
theorem Inv.cne (I:Inv X pins σ H s):∀ x c,X.env.cells.lookup x=some c->c≠X.env.locals:=fun x c e z=>by
  obtain ⟨v,o,ho,hd⟩:=I.cell x c e
  obtain ⟨m,⟨o',es,ep,ho',hd',_⟩,_⟩:=I.loc
  rw [z,ho'] at ho;cases ho;rw [hd'] at hd;cases hd
theorem Inv.funs (I:Inv X pins σ H s):s.heap.FunFrames X.base X.outer:=by
  have all:∀ (l:List Env),(∀ b∈frs l,b∈X.fs)->X.s₀.heap.FunFrames X.base l->s.heap.FunFrames X.base l:=by
    intro l
    induction l with
    | nil=>intro _ _;trivial
    | cons env r ih =>
      intro hs hl
      obtain ⟨hk,⟨L,o,hf,hn,ho,hd⟩,hr⟩:=hl
      have hL:L∈X.fs:=hs L (by unfold frs;rw [List.filterMap_cons,hf];exact qm)
      obtain ⟨sl,e⟩:=I.base.slot L o ho (I.ok.frf L hL) hL fun z=>I.ok.exfs L z hL
      exact ⟨hk,⟨L,_,hf,hn,e,hd⟩,ih (fun b hb=>hs b (by unfold frs;rw [List.filterMap_cons,hf];exact qi _ hb)) hr⟩
  exact all X.outer (fun _ hb=>hb) I.ok.funs
theorem Inv.stack (I:Inv X pins σ H s):s.heap.FunFrames X.base X.stack:=by
  rcases I.ok.stk with e | ⟨e,hf⟩
  · rw [e];exact I.funs
  · rw [e]
    obtain ⟨m,hn,_⟩:=I.loc
    refine .cons (by rw [I.ok.kind];decide) hf hn ?_ I.funs
    exact Heap.get?_none_of_le (qz I.ok.bsz I.ok.above)
theorem Inv.stkSub (I:Inv X pins σ H s):∀ b∈frs X.stack,b∈X.env.locals::X.fs:=fun b hb=>by
  rcases I.ok.stk with e | ⟨e,hf⟩
  · rw [e] at hb;exact qi _ hb
  · rw [e] at hb
    unfold frs at hb
    rw [List.filterMap_cons,hf] at hb
    exact hb
theorem Inv.stkFree (I:Inv X pins σ H s):∀ b∈frs X.stack,H b=none:=fun b hb=>by
  rcases List.mem_cons.mp (I.stkSub b hb) with e | hb
  · rw [e];exact I.free
  · obtain ⟨_,o,ho,_⟩:=I.ok.funs.mem hb
    exact I.base.free b o ho (I.ok.frf b hb) fun z=>I.ok.exfs b z hb
theorem Inv.step {g':Array GenState}{t':Nat}{d':Drawn}{ch:List Addr}(I:Inv X pins σ H s)
    (hch:∀ b∈ch,(b∈X.ex\/X.s₀.heap.objs.size<=b)/\b≠X.env.locals/\(∀ x c,X.env.cells.lookup x=some c->c≠b)/\∀ p∈X.pn++pins,p.1≠b)
    (keep:∀ b o,b≠X.env.locals->b∉X.fs->b∉ch->s.heap.get? b=some o->H b=none->h'.get? b=some o)
    (slot:∀ b o,b≠X.env.locals->b∈X.fs->b∉ch->s.heap.get? b=some o->H b=none->∃ sl,h'.get? b=some { o with slots:=sl }) (free:∀ b o,b∉ch->s.heap.get? b=some o->H b=none->H' b=none)
    (there:∀ b o,b∉ch->s.heap.get? b=some o->∃ o',h'.get? b=some o')
    (tups:∀ b xs,H b=some (.tup xs)->H' b=some (.tup xs)) (frzs:∀ b o u,H b=some (.frz o u)->H' b=some (.frz o u)) (tbls:∀ b ps,H b=some (.tbl ps)->∃ more,H' b=some (.tbl (ps++more)))
    (ns:∀ m,s.heap.Ns X.env.locals m->h'.Ns X.env.locals m) (hok:HOk X.prog X.w H' h') (hg:AllBare g') :
    Inv X pins σ H' { s with heap:=h',gens:=g',drawn:=d',toks:=t' }:=by
  have neL:∀ b o,X.s₀.heap.get? b=some o->b≠X.env.locals:=fun b o e=>qq (qA (qf e) I.ok.above)
  have neC:∀ b o,X.s₀.heap.get? b=some o->b∉X.ex->b∉ch:=fun b o e hx hb=>by
    rcases (hch b hb).1 with z | z
    · exact hx z
    · exact absurd (qA (qf e) z) (yJ _)
  have cellK:∀ x c,X.env.cells.lookup x=some c->∀ v,s.heap.IsCell c v->h'.IsCell c v:=fun x c e v ⟨o,ho,hd⟩=>by
    have nch:c∉ch:=fun z=>(hch c z).2.2.1 x c e rfl
    by_cases hc:c∈X.fs
    · obtain ⟨sl,q⟩:=slot c o (I.cne x c e) hc nch ho (I.freeC x c e)
      exact ⟨_,q,hd⟩
    · exact ⟨o,keep c o (I.cne x c e) hc nch ho (I.freeC x c e),hd⟩
  refine ⟨I.ok,I.os,hg,⟨fun b o e n hb hx=>?_,fun b o e n hb hx=>?_,fun b o e n hx=>?_,fun b o e hx=>?_,fun b xs e=>tups b xs (I.base.tups b xs e),fun b o xs e=>frzs b o xs (I.base.frzs b o xs e),fun b ps e=>?_⟩,?_,fun x c e=>?_,?_,fun x c e=>?_,fun p hp=>?_,hok,I.len⟩
  · exact keep b o (neL b o e) hb (neC b o e hx) (I.base.keep b o e n hb hx) (I.base.free b o e n hx)
  · obtain ⟨sl,e1⟩:=I.base.slot b o e n hb hx
    obtain ⟨sl',e2⟩:=slot b _ (neL b o e) hb (neC b o e hx) e1 (I.base.free b o e n hx)
    exact ⟨sl',e2⟩
  · obtain ⟨o',e1⟩:=I.base.there b o e hx
    exact free b o' (neC b o e hx) e1 (I.base.free b o e n hx)
  · obtain ⟨o',e1⟩:=I.base.there b o e hx
    exact there b o' (neC b o e hx) e1
  · obtain ⟨m1,e1⟩:=I.base.tbls b ps e
    obtain ⟨m2,e2⟩:=tbls b _ e1
    exact ⟨m1++m2,by rw [e2,Array.append_assoc]⟩
  · obtain ⟨m,hn,hl⟩:=I.loc
    refine ⟨m,ns m hn,fun i x v e1 e2 e3=>?_⟩
    obtain ⟨u,r,l⟩:=hl i x v e1 e2 e3
    refine ⟨u,r,?_⟩
    rcases l with l | ⟨k,c,e,z⟩
    · exact .inl l
    · exact .inr ⟨k,c,e,cellK x c e _ z⟩
  · obtain ⟨v,z⟩:=I.cell x c e
    exact ⟨v,cellK x c e v z⟩
  · obtain ⟨m,⟨o,_,_,ho,_⟩,_⟩:=I.loc
    exact free _ o (fun z=>(hch _ z).2.1 rfl) ho I.free
  · obtain ⟨v,o,ho,hd⟩:=I.cell x c e
    exact free c o (fun z=>(hch c z).2.2.1 x c e rfl) ho (I.freeC x c e)
  · obtain ⟨e,n,ne,nf,d⟩:=I.pin p hp
    have nch:p.1∉ch:=fun z=>(hch p.1 z).2.2.2 p hp rfl
    exact ⟨keep p.1 p.2 ne nf nch e n,free p.1 p.2 nch e n,ne,nf,d⟩
theorem Inv.un {t':Nat}(I:Inv X pins σ H s) (u:Un X.fs [] H H' s.heap h') (hok:HOk X.prog X.w H' h'):Inv X pins σ H' { s with heap:=h',toks:=t' }:=by
  obtain ⟨m,⟨o,es,ep,ho,r⟩,_⟩:=id I.loc
  obtain ⟨sl,hL⟩:=u.any ho I.free (by simp)
  exact I.step (g':=s.gens) (d':=s.drawn) (ch:=[]) (fun _ z=>nomatch z) (fun b o _ hb _ e n=>u.keep b o e n hb (by simp)) (fun b o _ hb _ e n=>u.slot b o e n hb (by simp)) (fun b o _ e n=>u.free b o e n (by simp)) (fun b o _ e=>u.there b o e (by simp)) u.tups u.frzs u.tbls (fun m' hm=>by
    obtain ⟨o',es',ep',ho',r'⟩:=hm
    rw [ho] at ho';cases ho'
    exact ⟨_,es',ep',hL,r'⟩) hok I.bare
theorem Inv.call {g':Array GenState}{t':Nat}{d':Drawn}{ch:List Addr}(I:Inv X pins σ H s) (u:Un (frs X.stack) ch H H' s.heap h') (hok:HOk X.prog X.w H' h') (hg:AllBare g')
    (hch:∀ b∈ch,(b∈X.ex\/X.s₀.heap.objs.size<=b)/\b≠X.env.locals/\(∀ x c,X.env.cells.lookup x=some c->c≠b)/\∀ p∈X.pn++pins,p.1≠b) :
    Inv X pins σ H' { s with heap:=h',gens:=g',drawn:=d',toks:=t' }:=by
  obtain ⟨m,⟨o,es,ep,ho,r⟩,_⟩:=id I.loc
  obtain ⟨sl,hL⟩:=u.any ho I.free fun z=>(hch _ z).2.1 rfl
  exact I.step (ch:=ch) hch (fun b o hL hb hc e n=>u.keep b o e n (fun z=>(List.mem_cons.mp (I.stkSub b z)).elim hL hb) hc) (fun b o _ _ hc e n=>u.any e n hc) (fun b o hc e n=>u.free b o e n hc) (fun b o hc e=>u.there b o e hc) u.tups u.frzs u.tbls (fun m' hm=>by
    obtain ⟨o',es',ep',ho',r'⟩:=hm
    rw [ho] at ho';cases ho'
    exact ⟨_,es',ep',hL,r'⟩) hok hg
theorem Inv.turned {t':Nat}{it:Addr}(I:Inv X pins σ H s) (k:∀ b o,b≠it->s.heap.get? b=some o->h'.get? b=some o) (hn:H it=none) (hL:it≠X.env.locals)
    (h1:it∈X.ex\/X.s₀.heap.objs.size<=it) (h2:∀ x c,X.env.cells.lookup x=some c->c≠it) (h3:∀ p∈X.pn++pins,p.1≠it):Inv X pins σ H { s with heap:=h',toks:=t' }:=by
  have nit:∀ b u,H b=some u->b≠it:=fun b u e z=>by rw [z,hn] at e;cases e
  refine I.step (g':=s.gens) (d':=s.drawn) (ch:=[it]) (fun b hb=>?_) (fun b o _ _ hc e _=>k b o (fun z=>hc (by simp [z])) e) (fun b o _ _ hc e _=>⟨o.slots,k b o (fun z=>hc (by simp [z])) e⟩) (fun _ _ _ _ n=>n)
    (fun b o hc e=>⟨o,k b o (fun z=>hc (by simp [z])) e⟩) (fun _ _ e=>e) (fun _ _ _ e=>e) (fun b ps e=>⟨#[],by rw [e];simp⟩) (fun m hm=>?_) (fun b u e=>?_) I.bare
  · have e:b=it:=by simpa using hb
    subst e
    exact ⟨h1,hL,h2,h3⟩
  · obtain ⟨o,es,ep,ho,r⟩:=hm
    exact ⟨o,es,ep,k _ o (Ne.symm hL) ho,r⟩
  · refine (I.hok b u e).stay (fun c v hc q=>k c v ?_ q) (fun _ q=>q) fun _ _ q=>q
    rcases hc with z | z
    · rw [z];exact nit b u e
    · exact nit c _ z
theorem Inv.tok (I:Inv X pins σ H s) (t:Nat):Inv X pins σ H { s with toks:=t }:=I.un (h':=s.heap) (t':=t) Un.refl I.hok
theorem Inv.kept {t':Nat}(I:Inv X pins σ H s) (k:∀ b u,s.heap.get? b=some u->h'.get? b=some u):Inv X pins σ H { s with heap:=h',toks:=t' }:=I.un (Un.kept k) (I.hok.kept k)
theorem Inv.laid {a:Addr}{o:HO}{t':Nat}(I:Inv X pins σ H s) (k:∀ b u,s.heap.get? b=some u->h'.get? b=some u) (hp:s.heap.objs.size<=a) (new:jq X.prog X.w (upd H a o) h' a o) :
    Inv X pins σ (upd H a o) { s with heap:=h',toks:=t' }:=I.un (Un.laid k hp (I.hok.fresh hp)) (I.hok.laid k hp new)
theorem Inv.write {x e:Addr}{o:HO}{t':Nat}(I:Inv X pins σ H s) (mu:Mut (H x)) (he:e=x\/H e=some (.own x)) (k:∀ b u,b≠e->s.heap.get? b=some u->h'.get? b=some u) (heo:∃ u,h'.get? e=some u)
    (new:jq X.prog X.w (upd H x o) h' x o):Inv X pins σ (upd H x o) { s with heap:=h',toks:=t' }:=I.un (Un.write mu he k heo) (I.hok.write mu he k heo new)
theorem Inv.pins_of {pins':List (Addr×Obj)}(I:Inv X pins σ H s) (h:∀ p∈pins',s.heap.get? p.1=some p.2/\H p.1=none/\p.1≠X.env.locals/\p.1∉X.fs/\∀ v,p.2.data≠.cell v):Inv X pins' σ H s :=
  ⟨I.ok,I.os,I.bare,I.base,I.loc,I.cell,I.free,I.freeC,fun p hp=>(List.mem_append.mp hp).elim (fun z=>I.pin p (yv _ z)) (h p),I.hok,I.len⟩
theorem YA {N:List Str}(hN:N.Nodup) {i j:Nat}{x:Str}(a:N[i]?=some x) (b:N[j]?=some x):i=j:=by
  obtain ⟨h1,e1⟩:=qo.mp a
  obtain ⟨h2,e2⟩:=qo.mp b
  exact (List.getElem_inj hN).mp (e1.trans e2.symm)
theorem YY {M:Model}{A:Around}{E:Value->Shared->Prop}{i:Nat}{x:Str}{v:V}{u:Value}{Q:Unit->Shared->Prop}(I:Inv X pins σ H s) (hN:X.N.Nodup) (hi:X.N[i]?=some x) (hx:Loc X.env.scope x) (r:jl v u)
    (h:∀ s',Inv X pins (σ.set i (some v)) H s'->(∃ a,Heap.SameBut a s.heap s'.heap/\(a=X.env.locals\/X.env.cells.lookup x=some a))->Q () s') (hf:X.fn x=true\/X.env.scope.names.lookup x=some .local:=by first | exact .inl rfl | exact .inr rfl | assumption):wpAny M A (storeName X.env x u) Q E s:=by
  obtain ⟨m,hn,hl⟩:=id I.loc
  have hcls:(X.env.scope.kind == .class || (X.env.scope.kind == .module && X.env.locals != X.env.globals))=false:=by rw [I.ok.kind];rfl
  have hiσ:i<σ.length:=by rw [I.len];exact (qo.mp hi).1
  have cne:=I.cne
  have tracked:∀ {a:Addr}{h':Heap},(∃ o,s.heap.get? a=some o/\H a=none)->Heap.SameBut a s.heap h'->HOk X.prog X.w H h':=fun {a h'} ha hs b ob e=>by
    obtain ⟨_,_,hfree⟩:=ha
    refine (I.hok b ob e).stay (fun c w' hc q=>(hs.2 c ?_).trans q) (fun _ q=>q) fun _ _ q=>q
    rintro rfl
    rcases hc with rfl | hc
    · rw [hfree] at e;cases e
    · rw [hfree] at hc;cases hc
  rcases hx with hk | hk
  · refine wpAny_storeName_local hk hn (fun h' hn' hs=>?_) hcls
    obtain ⟨oL,_,_,hoL,_⟩:=id hn
    refine h _ ⟨I.ok,I.os,I.bare,⟨fun b o e n hb hx=>?_,fun b o e n hb hx=>?_,I.base.free,fun b o e hx=>?_,I.base.tups,I.base.frzs,I.base.tbls⟩,⟨_,hn',fun j y v' e1 e2 e3=>?_⟩,fun y c e=>?_,I.free,I.freeC,fun p hp=>?_,tracked ⟨oL,hoL,I.free⟩ hs,by simpa using I.len⟩ ⟨_,hs,.inl rfl⟩
    · exact (hs.2 b (qq (qA (qf e) I.ok.above))).trans (I.base.keep b o e n hb hx)
    · obtain ⟨sl,e1⟩:=I.base.slot b o e n hb hx
      exact ⟨sl,(hs.2 b (qq (qA (qf e) I.ok.above))).trans e1⟩
    · obtain ⟨o',e1⟩:=I.base.there b o e hx
      exact ⟨o',(hs.2 b (qq (qA (qf e) I.ok.above))).trans e1⟩
    · by_cases hj:j=i
      · subst hj
        rw [hi] at e1;cases e1
        rw [List.getElem?_set_self hiσ] at e2
        cases e2
        exact ⟨u,r,.inl ⟨hk,by simp⟩⟩
      · rw [List.getElem?_set_ne (Ne.symm hj)] at e2
        obtain ⟨u',r',q⟩:=hl j y v' e1 e2 e3
        refine ⟨u',r',?_⟩
        rcases q with ⟨k,e⟩ | ⟨k,c,e,z⟩
        · refine .inl ⟨k,?_⟩
          have:y≠x:=fun e=>hj (YA hN e1 (e ▸ hi))
          simp [this,e]
        · exact .inr ⟨k,c,e,z.sameBut hs (cne y c e)⟩
    · obtain ⟨w',z⟩:=I.cell y c e
      exact ⟨w',z.sameBut hs (cne y c e)⟩
    · obtain ⟨e,n,ne,nf,d⟩:=I.pin p hp
      exact ⟨(hs.2 p.1 ne).trans e,n,ne,nf,d⟩
  · have hfn:X.fn x=true:=by
      rcases hf with z | z
      · exact z
      · rw [z] at hk;cases hk
    obtain ⟨c,hc⟩:=I.ok.has x (.inl hk)
    obtain ⟨w',z⟩:=I.cell x c hc
    refine wpAny_storeName_cell I.ok.kind hk hc z (fun h' hc' hs=>?_)
    obtain ⟨oc,hoc,hocd⟩:=id z
    refine h { s with heap:=h' } ⟨I.ok,I.os,I.bare,⟨fun b o e n hb hx=>?_,fun b o e n hb hx=>?_,I.base.free,fun b o e hx=>?_,I.base.tups,I.base.frzs,I.base.tbls⟩,⟨m,hn.sameBut hs (Ne.symm (cne x c hc)),fun j y v' e1 e2 e3=>?_⟩,fun y c' e=>?_,I.free,I.freeC,fun p hp=>?_,tracked ⟨oc,hoc,I.freeC x c hc⟩ hs,by simpa using I.len⟩ ⟨c,hs,.inr hc⟩
    · exact (hs.2 b (qq (qA (qf e) (I.ok.cab x c hfn hc)))).trans (I.base.keep b o e n hb hx)
    · obtain ⟨sl,e1⟩:=I.base.slot b o e n hb hx
      exact ⟨sl,(hs.2 b (qq (qA (qf e) (I.ok.cab x c hfn hc)))).trans e1⟩
    · obtain ⟨o',e1⟩:=I.base.there b o e hx
      exact ⟨o',(hs.2 b (qq (qA (qf e) (I.ok.cab x c hfn hc)))).trans e1⟩
    · by_cases hj:j=i
      · subst hj
        rw [hi] at e1;cases e1
        rw [List.getElem?_set_self hiσ] at e2
        cases e2
        exact ⟨u,r,.inr ⟨.inl hk,c,hc,hc'⟩⟩
      · rw [List.getElem?_set_ne (Ne.symm hj)] at e2
        obtain ⟨u',r',q⟩:=hl j y v' e1 e2 e3
        refine ⟨u',r',?_⟩
        rcases q with q | ⟨k,c',e,z'⟩
        · exact .inl q
        · refine .inr ⟨k,c',e,z'.sameBut hs ?_⟩
          rintro rfl
          exact hj (YA hN e1 (I.ok.inj _ _ _ e hc ▸ hi))
    · by_cases hcc:c'=c
      · subst hcc;exact ⟨_,hc'⟩
      · obtain ⟨w2,z2⟩:=I.cell y c' e
        exact ⟨w2,z2.sameBut hs hcc⟩
    · obtain ⟨e,n,ne,nf,d⟩:=I.pin p hp
      refine ⟨(hs.2 p.1 ?_).trans e,n,ne,nf,d⟩
      intro q
      rw [q,hoc] at e
      have q':oc=p.2:=Option.some.inj e
      exact d w' (by rw [<- q'];exact hocd)
theorem JI {M:Model}{A:Around}{E:Value->Shared->Prop}{i:Nat}{x:Str}{v:V}{u:Value}{Q:Unit->Shared->Prop}(I:Inv X pins σ H s) (hN:X.N.Nodup) (hi:X.N[i]?=some x) (hx:Loc X.env.scope x) (r:jl v u)
    (h:∀ s',Inv X pins (σ.set i (some v)) H s'->Q () s') (hf:X.fn x=true\/X.env.scope.names.lookup x=some .local:=by first | exact .inl rfl | exact .inr rfl | assumption):wpAny M A (storeName X.env x u) Q E s :=
  YY I hN hi hx r (fun s' I' _=>h s' I') hf
theorem Inv.call' {s':Shared}{ch:List Addr}(I:Inv X pins σ H s) (ho:s'.os=s.os) (u:Un (frs X.stack) ch H H' s.heap s'.heap) (hok:HOk X.prog X.w H' s'.heap) (hg:AllBare s'.gens)
    (hch:∀ b∈ch,(b∈X.ex\/X.s₀.heap.objs.size<=b)/\b≠X.env.locals/\(∀ x c,X.env.cells.lookup x=some c->c≠b)/\∀ p∈X.pn++pins,p.1≠b):Inv X pins σ H' s':=by
  obtain ⟨h',g',d',t',o'⟩:=s'
  have e:o'=s.os:=ho
  subst e
  exact I.call (g':=g') (t':=t') (d':=d') u hok hg hch
end
abbrev XK:=Value->Option Addr->Hp->Prop
abbrev St:=List (Option V)
abbrev VK:=V->Hp->Prop
abbrev TE:=St->Hp->VK->Prop
abbrev TT:=St->Hp->(Bool->Hp->Prop)->Prop
abbrev TA:=St->Hp->(List V->Hp->Prop)->Prop
structure Ends where
  nx:St->Hp->Prop
  rt:VK
  bk:St->Hp->Prop:=fun _ _=>False
  ct:St->Hp->Prop:=fun _ _=>False
abbrev TS:=Ends->St->Hp->Prop
def EP (X:Cx) (pins:List (Addr×Obj)) (σ:St) (Q:VK) (u:Value) (s':Shared):Prop:=∃ v H',Inv X pins σ H' s'/\jl v u/\Q v H'
def TP (X:Cx) (pins:List (Addr×Obj)) (σ:St) (Q:Bool->Hp->Prop) (b:Bool) (s':Shared):Prop:=∃ H',Inv X pins σ H' s'/\Q b H'
def AP (X:Cx) (pins:List (Addr×Obj)) (σ:St) (Q:List V->Hp->Prop) (us:List Value) (s':Shared):Prop:=∃ vs H',Inv X pins σ H' s'/\yo vs us/\Q vs H'
def SP (X:Cx) (pins:List (Addr×Obj)) (D:Ends) (f:Flow) (s':Shared):Prop :=
  match f with
  | .next=>∃ σ' H',Inv X pins σ' H' s'/\D.nx σ' H'
  | .brk=>∃ σ' H',Inv X pins σ' H' s'/\D.bk σ' H'
  | .cont=>∃ σ' H',Inv X pins σ' H' s'/\D.ct σ' H'
  | .ret u=>∃ v σ' H',Inv X pins σ' H' s'/\jl v u/\D.rt v H'
def PE (X:Cx) (e:Expr) (t:TE):Prop :=
  ∀ (pins:List (Addr×Obj)) (s:Shared) (σ:St) (H:Hp) (Q:VK),Inv X pins σ H s->t σ H Q->wpAny (model X.prog X.w) X.A (eval e X.env) (EP X pins σ Q) X.xe s
def PT (X:Cx) (e:Expr) (t:TT):Prop :=
  ∀ (pins:List (Addr×Obj)) (s:Shared) (σ:St) (H:Hp) (Q:Bool->Hp->Prop),Inv X pins σ H s->t σ H Q->wpAny (model X.prog X.w) X.A (isTrue e X.env (eval e X.env)) (TP X pins σ Q) X.xe s
def PW (X:Cx) (e:Expr) (t:TT):Prop :=
  ∀ (whole:Sem Value) (pins:List (Addr×Obj)) (s:Shared) (σ:St) (H:Hp) (Q:Bool->Hp->Prop),Inv X pins σ H s->t σ H Q->wpAny (model X.prog X.w) X.A (isTrue e X.env whole) (TP X pins σ Q) X.xe s
theorem PW.pt {X:Cx}{e:Expr}{t:TT}(h:PW X e t):PT X e t:=h _
def PA (X:Cx) (es:List Expr) (t:TA):Prop :=
  ∀ (pos:Pos) (pins:List (Addr×Obj)) (s:Shared) (σ:St) (H:Hp) (Q:List V->Hp->Prop),Inv X pins σ H s->t σ H Q->wpAny (model X.prog X.w) X.A (spliced (backTo pos (starEach es X.env))) (AP X pins σ Q) X.xe s
def PS (X:Cx) (st:Stmt) (t:TS):Prop :=
  ∀ (pins:List (Addr×Obj)) (s:Shared) (σ:St) (H:Hp) (D:Ends),Inv X pins σ H s->t D σ H->wpAny (model X.prog X.w) X.A (exec st X.env) (SP X pins D) X.xe s
def PSs (X:Cx) (st:List Stmt) (t:TS):Prop :=
  ∀ (pins:List (Addr×Obj)) (s:Shared) (σ:St) (H:Hp) (D:Ends),Inv X pins σ H s->t D σ H->wpAny (model X.prog X.w) X.A (execs st X.env) (SP X pins D) X.xe s
theorem thn {α:Type}{t:Sem α}{Q Q':α->Shared->Prop}{M:Model}{A:Around}{E:Value->Shared->Prop}{s:Shared}(h:wpAny M A t Q E s) (hQ:∀ a s,Q a s->Q' a s):wpAny M A t Q' E s:=yD h hQ fun _ _ x=>x
section
variable {X:Cx}
def tVar (i:Nat):TE:=fun σ H Q=>∃ v,σ[i]?=some (some v)/\Q v H
def tC (v:V):TE:=fun _ H Q=>Q v H
theorem qeT {i:Nat}{x:Str}{pos:Pos}(hN:X.N[i]?=some x) (hv:Vis X.env.scope x) (hd:(x == ("__debug__" : Str))=false:=by decide) (hcd:(x == ("__classdict__" : Str))=false:=by decide):PE X (.Name x pos) (tVar i):=by
  intro pins s σ H Q I h
  obtain ⟨v,e,h⟩:=h
  obtain ⟨m,hn,hl⟩:=I.loc
  obtain ⟨u,r,l⟩:=hl i x v hN e hv
  have fin:EP X pins σ Q u s:=⟨v,H,I,r,h⟩
  rcases l with ⟨hk,hm⟩ | ⟨hk,c,hc,hcell⟩
  · exact wpAny_Name (wpAny_loadName_local I.ok.kind hk hn hm fin) hd
  · rcases hk with hk | hk
    · exact wpAny_Name (wpAny_loadName_cell I.ok.kind hk hc hcell fin) hd
    · exact wpAny_Name (wpAny_loadName_free I.ok.kind hk hc hcell fin hcd) hd
theorem jd {i j pos}:PE X (.Constant (.int i) j pos) (tC (.int i)):=fun _ _ _ H _ I h=>wpAny_Constant_int ⟨.int i,H,I.tok _,⟨_,rfl⟩,h⟩
theorem pe_bl {b j pos}:PE X (.Constant (.bool b) j pos) (tC (.bl b)):=fun _ _ _ H _ I h=>Constant_bool ⟨.bl b,H,I,rfl,h⟩
def Gl (X:Cx) (x:Str):Prop:=X.env.kindOf x=some .globalImplicit
theorem qgg {E:Value->Shared->Prop}{pins:List (Addr×Obj)}{s:Shared}{σ:St}{H:Hp}{x:Str}{u:Value}{pos:Pos}{Q:Value->Shared->Prop}(I:Inv X pins σ H s) (hg:Gl X x) (hm:X.mg x=some u) (h:Q u s)
    (hd:(x == ("__debug__" : Str))=false:=by decide):wpAny (model X.prog X.w) X.A (eval (.Name x pos) X.env) Q E s :=
  Calls.Name_function_global I.ok.kind hg (Calls.loadGlobal_global (by rw [I.ok.glob];exact I.mod.glob.keeps I.bk) hm h) hd
theorem Yj {E:Value->Shared->Prop}{pins:List (Addr×Obj)}{s:Shared}{σ:St}{H:Hp}{x:Str}{u:Value}{pos:Pos}{Q:Value->Shared->Prop}(I:Inv X pins σ H s) (hg:Gl X x) (hm:X.mg x=none) (hv:bootBuiltins x=some u) (h:Q u s)
    (hn:x ≠ "__name__" := by decide) (hd:(x == ("__debug__" : Str))=false:=by decide):wpAny (model X.prog X.w) X.A (eval (.Name x pos) X.env) Q E s:=by
  obtain ⟨mb,h1,h2⟩:=I.mod.blt
  exact Calls.Name_function_global I.ok.kind hg (Calls.loadGlobal_builtin (by rw [I.ok.glob];exact I.mod.glob.keeps I.bk) hm (by rw [I.ok.blt];exact h1.keeps I.bk) ((h2 x hn).trans hv) h) hd
theorem qf1 {x:Str}{v:V}{u:Value}{pos:Pos}(hg:Gl X x) (hm:X.mg x=none) (hv:bootBuiltins x=some u) (r:jl v u) (hn:x ≠ "__name__" := by decide) (hd:(x == ("__debug__" : Str))=false:=by decide):PE X (.Name x pos) (tC v) :=
  fun _ _ _ H _ I h=>Yj I hg hm hv ⟨v,H,I,r,h⟩ hn hd
variable {a b:Expr}{ta tb:TE}{pos:Pos}
def tB (t:TE):TT:=fun σ H Q=>t σ H fun x H1=>∃ c,x = .bl c/\Q c H1
theorem qhr {e:Expr}{t:TE}(h:PE X e t) (he:∀ whole,isTrue e X.env whole=(do let v <- whole;standAt e.pos;holding [v] (truthy v)):=by intro _;rfl):PT X e (tB t):=by
  intro pins s σ H Q I hw
  refine isTrue_plain (thn (h pins s σ H _ I hw) fun v s1 ⟨x,H1,I1,r1,q1⟩=>?_) (he _)
  obtain ⟨d,rfl,q⟩:=q1
  cases r1
  exact wpAny_truthy_bool ⟨H1,I1,q⟩
variable {tA tB':TT}{yP:List Expr}
def tAnd (t u:TT):TT:=fun σ H Q=>t σ H fun c H1=>if c=true then u σ H1 Q else Q false H1
def tOr (t u:TT):TT:=fun σ H Q=>t σ H fun c H1=>if c=true then Q true H1 else u σ H1 Q
def tNot (t:TT):TT:=fun σ H Q=>t σ H fun c H1=>Q (!c) H1
theorem qfJ (ha:PT X a tA):PW X (.BoolOp .And [a] pos) tA:=by
  intro wh pins s σ H Q I h
  refine isTrue_and (thn (ha pins s σ H Q I h) fun c s1 e=>?_)
  cases c with
  | true=>exact isTrue_and_nil e
  | false=>exact e
theorem qho (ha:PT X a tA):PW X (.BoolOp .Or [a] pos) tA:=by
  intro wh pins s σ H Q I h
  refine isTrue_or (thn (ha pins s σ H Q I h) fun c s1 e=>?_)
  cases c with
  | false=>exact isTrue_or_nil e
  | true=>exact e
theorem qhp (ha:PT X a tA) (hb:PW X (.BoolOp .And (b::yP) pos) tB'):PW X (.BoolOp .And (a::b::yP) pos) (tAnd tA tB'):=by
  intro wh pins s σ H Q I h
  refine isTrue_and (thn (ha pins s σ H _ I h) fun c s1 ⟨H1,I1,q1⟩=>?_)
  cases c with
  | true=>exact hb wh pins s1 σ H1 Q I1 q1
  | false=>exact ⟨H1,I1,q1⟩
theorem pw_or (ha:PT X a tA) (hb:PW X (.BoolOp .Or (b::yP) pos) tB'):PW X (.BoolOp .Or (a::b::yP) pos) (tOr tA tB'):=by
  intro wh pins s σ H Q I h
  refine isTrue_or (thn (ha pins s σ H _ I h) fun c s1 ⟨H1,I1,q1⟩=>?_)
  cases c with
  | true=>exact ⟨H1,I1,q1⟩
  | false=>exact hb wh pins s1 σ H1 Q I1 q1
theorem qhs (ha:PT X a tA):PT X (.UnaryOp .Not a pos) (tNot tA):=by
  intro pins s σ H Q I h
  exact isTrue_not (ha pins s σ H (fun c H1=>Q (!c) H1) I h)
def tAndV (ta tb:TE):TE:=fun σ H Q=>ta σ H fun x H1=>∃ c,x = .bl c/\if c=true then tb σ H1 Q else Q (.bl false) H1
def tNotV (ta:TE):TE:=fun σ H Q=>ta σ H fun x H1=>∃ c,x = .bl c/\Q (.bl (!c)) H1
theorem qhC {op} {t:TE}(h:PE X a t):PE X (.BoolOp op [a] pos) t:=fun pins s σ H Q I hw=>BoolOp_one (h pins s σ H Q I hw)
theorem qhF (ha:PE X a ta) (hb:PE X (.BoolOp .And (b::yP) pos) tb):PE X (.BoolOp .And (a::b::yP) pos) (tAndV ta tb):=by
  intro pins s σ H Q I h
  refine BoolOp_and (thn (ha pins s σ H _ I h) fun v s1 ⟨x,H1,I1,r1,q1⟩=>?_)
  obtain ⟨c,rfl,q1⟩:=q1
  cases r1
  refine wpAny_truthy_bool ?_
  cases c with
  | true=>exact hb pins s1 σ H1 Q I1 q1
  | false=>exact ⟨.bl false,H1,I1,rfl,q1⟩
theorem qhD (ha:PE X a ta):PE X (.UnaryOp .Not a pos) (tNotV ta):=by
  intro pins s σ H Q I h
  refine UnaryOp_ (thn (ha pins s σ H _ I h) fun v s1 ⟨x,H1,I1,r1,q1⟩=>?_)
  obtain ⟨c,rfl,q1⟩:=q1
  cases r1
  exact not_of (wpAny_truthy_bool ⟨.bl (!c),H1,I1,rfl,q1⟩)
def tIf (t:TT) (ta tb:TE):TE:=fun σ H Q=>t σ H fun c H1=>if c=true then ta σ H1 Q else tb σ H1 Q
theorem qdF {c:Expr}(hc:PT X c tA) (ha:PE X a ta) (hb:PE X b tb):PE X (.IfExp c a b pos) (tIf tA ta tb):=by
  intro pins s σ H Q I h
  refine wpAny_IfExp (thn (hc pins s σ H _ I h) fun d s1 ⟨H1,I1,q1⟩=>?_)
  cases d with
  | true=>exact ha pins s1 σ H1 Q I1 q1
  | false=>exact hb pins s1 σ H1 Q I1 q1
end
def SqL (K:W.Frag) (H:Hp) (a:Addr) (xs:List V):Prop :=
  Rd H a (.lst xs) ∨
    ∃ (o:Obj) (its:Array Value) (n:Nat),K.lookup a=some o/\o.cls = .type "list" /\ o.dict=none/\o.data = .seq its n/\its.size<=sizeLine/\yo xs its.toList
def SqT (K:W.Frag) (H:Hp) (a:Addr) (xs:List V):Prop :=
  Rd H a (.tup xs) ∨
    ∃ (o:Obj) (its:Array Value) (n:Nat),K.lookup a=some o/\o.cls = .type "tuple" /\ o.data = .seq its n/\its.size<=sizeLine/\yo xs its.toList
def absV:Value->Option V
  | .none=>some .non
  | .bool b=>some (.bl b)
  | .int i _=>some (.int i)
  | .str x _=>some (.str x)
  | .bytes b _=>some (.byt b)
  | .float b _=>some (.flt b)
  | .ref a=>some (.ref a)
  | .type n=>some (.ty n)
  | _=>none
theorem jl.abs {x:V}{u:Value}(r:jl x u):absV u=some x:=by
  cases x with
  | non=>cases r;rfl
  | bl _=>cases r;rfl
  | int _=>obtain ⟨t,rfl⟩:=r;rfl
  | str _=>obtain ⟨t,rfl⟩:=r;rfl
  | byt _=>obtain ⟨t,rfl⟩:=r;rfl
  | flt _=>obtain ⟨t,rfl⟩:=r;rfl
  | ref _=>cases r;rfl
  | ty _=>cases r;rfl
theorem jl.inj {x y:V}{u:Value}(r:jl x u) (q:jl y u):x=y:=Option.some.inj (r.abs.symm.trans q.abs)
theorem yo.inj:∀ {xs ys:List V}{us:List Value},yo xs us->yo ys us->xs=ys
  | _,_,_,.nil,.nil=>rfl
  | _,_,_,.cons r t,.cons r' t'=>by rw [r.inj r',yo.inj t t']
section
variable {X:Cx}{pins:List (Addr×Obj)}{σ:St}{H:Hp}{s:Shared}{a:Addr}{xs ys:List V}
theorem SqL.of {K:W.Frag}(h:H a=some (.lst xs)):SqL K H a xs:=.inl (.inl h)
theorem SqT.of {K:W.Frag}(h:H a=some (.tup xs)):SqT K H a xs:=.inl (.inl h)
theorem Inv.list (I:Inv X pins σ H s) (h:SqL X.K H a xs):∃ its:List Value,yo xs its/\PlainL s.heap a its.toArray/\xs.length<=sizeLine:=by
  rcases h with h | ⟨o,its,n,hk,hc,hd,hs,hz,r⟩
  · obtain ⟨z,its,n,r,e⟩:=h.ok I.hok
    exact ⟨its,r,⟨_,n,e,rfl,rfl,rfl⟩,z⟩
  · refine ⟨its.toList,r,⟨o,n,I.kIn a o hk,hc,hd,by simpa using hs⟩,?_⟩
    have e:=r.length
    simp only [Array.length_toList] at e
    omega
theorem Inv.tuple (I:Inv X pins σ H s) (h:SqT X.K H a xs):∃ its:List Value,yo xs its/\IsTup s.heap a its.toArray/\xs.length<=sizeLine:=by
  rcases h with h | ⟨o,its,n,hk,hc,hs,hz,r⟩
  · obtain ⟨z,its,r,p⟩:=h.ok I.hok
    exact ⟨its,r,p,z⟩
  · refine ⟨its.toList,r,⟨o,I.kIn a o hk,hc,n,by simpa using hs⟩,?_⟩
    have e:=r.length
    simp only [Array.length_toList] at e
    omega
theorem Inv.list_inj (I:Inv X pins σ H s) (h:SqL X.K H a xs) (h':SqL X.K H a ys):xs=ys:=by
  obtain ⟨its,r,⟨o,n,e,_,_,d⟩,_⟩:=I.list h
  obtain ⟨its',r',⟨o',n',e',_,_,d'⟩,_⟩:=I.list h'
  rw [e] at e';cases e'
  rw [d] at d'
  injection d' with d1 _
  have:its=its':=by simpa using congrArg Array.toList d1
  subst this
  exact r.inj r'
theorem Inv.tuple_inj (I:Inv X pins σ H s) (h:SqT X.K H a xs) (h':SqT X.K H a ys):xs=ys:=by
  obtain ⟨its,r,⟨o,e,_,n,d⟩,_⟩:=I.tuple h
  obtain ⟨its',r',⟨o',e',_,n',d'⟩,_⟩:=I.tuple h'
  rw [e] at e';cases e'
  rw [d] at d'
  injection d' with d1 _
  have:its=its':=by simpa using congrArg Array.toList d1
  subst this
  exact r.inj r'
end
abbrev Cx.wish (X:Cx) (E:Value->Shared->Prop):Cx:={ X with xe:=E }
abbrev Cx.nox (X:Cx):Cx:=X.wish fun _ _=>False
theorem Cx.Ok.wish {X:Cx}(ok:X.Ok) (E:Value->Shared->Prop):(X.wish E).Ok :=
  ⟨ok.mod,ok.kind,ok.glob,ok.blt,ok.above,ok.inj,ok.has,ok.cab,ok.hd,ok.frames,ok.stk,ok.exf,ok.bs,ok.bsz,ok.noex,ok.exfs,ok.funs,ok.frf⟩
theorem Cx.Ok.unwish {X:Cx}{E:Value->Shared->Prop}(ok:(X.wish E).Ok):X.Ok :=
  ⟨ok.mod,ok.kind,ok.glob,ok.blt,ok.above,ok.inj,ok.has,ok.cab,ok.hd,ok.frames,ok.stk,ok.exf,ok.bs,ok.bsz,ok.noex,ok.exfs,ok.funs,ok.frf⟩
section
variable {X:Cx}{pins:List (Addr×Obj)}{σ:St}{H:Hp}{s:Shared}{E:Value->Shared->Prop}
theorem Inv.wish (I:Inv X pins σ H s) (E:Value->Shared->Prop):Inv (X.wish E) pins σ H s:=⟨I.ok.wish E,I.os,I.bare,I.base,I.loc,I.cell,I.free,I.freeC,I.pin,I.hok,I.len⟩
theorem Inv.unwish (I:Inv (X.wish E) pins σ H s):Inv X pins σ H s:=⟨I.ok.unwish,I.os,I.bare,I.base,I.loc,I.cell,I.free,I.freeC,I.pin,I.hok,I.len⟩
theorem SP.unwish {D:Ends}{f:Flow}{s':Shared}(h:SP (X.wish E) pins D f s'):SP X pins D f s':=by
  cases f with
  | next=>obtain ⟨σ',H',I,q⟩:=h;exact ⟨σ',H',I.unwish,q⟩
  | brk=>obtain ⟨σ',H',I,q⟩:=h;exact ⟨σ',H',I.unwish,q⟩
  | cont=>obtain ⟨σ',H',I,q⟩:=h;exact ⟨σ',H',I.unwish,q⟩
  | ret u=>obtain ⟨v,σ',H',I,r,q⟩:=h;exact ⟨v,σ',H',I.unwish,r,q⟩
theorem PE.nox {e:Expr}{t:TE}(h:PE X.nox e t):PE X e t:=fun pins s σ H Q I hw =>
  yD (h pins s σ H Q (I.wish _) hw) (fun _ _ ⟨v,H',I',r,q⟩=>⟨v,H',I'.unwish,r,q⟩) fun _ _ z=>False.elim z
theorem PT.nox {e:Expr}{t:TT}(h:PT X.nox e t):PT X e t:=fun pins s σ H Q I hw =>
  yD (h pins s σ H Q (I.wish _) hw) (fun _ _ ⟨H',I',q⟩=>⟨H',I'.unwish,q⟩) fun _ _ z=>False.elim z
theorem PSs.nox {st:List Stmt}{t:TS}(h:PSs X.nox st t):PSs X st t:=fun pins s σ H D I hw =>
  yD (h pins s σ H D (I.wish _) hw) (fun _ _ q=>q.unwish) fun _ _ z=>False.elim z
end
section
variable {X:Cx}{st:Stmt}{yP:List Stmt}{t u:TS}{e:Expr}{te:TE}{pos:Pos}
def tNext:TS:=fun D σ H=>D.nx σ H
def tSeq (t u:TS):TS:=fun D σ H=>t { D with nx:=u D } σ H
theorem qbN:PSs X [] tNext:=fun _ _ σ H _ I h=>wpAny_execs_nil ⟨σ,H,I,h⟩
theorem Jc (h1:PS X st t) (h2:PSs X yP u):PSs X (st::yP) (tSeq t u):=by
  intro pins s σ H D I h
  refine wpAny_execs_cons (thn (h1 pins s σ H { D with nx:=u D } I h) fun f s1 q=>?_)
  cases f with
  | next =>
    obtain ⟨σ',H',I',q⟩:=q
    exact h2 pins s1 σ' H' D I' q
  | ret v=>exact q
  | brk=>exact q
  | cont=>exact q
theorem ZI (h1:PS X st t):PSs X [st] t:=by
  intro pins s σ H D I h
  refine wpAny_execs_cons (thn (h1 pins s σ H D I h) fun f s1 q=>?_)
  cases f with
  | next=>exact wpAny_execs_nil q
  | ret v=>exact q
  | brk=>exact q
  | cont=>exact q
theorem Inv.quiet {pins:List (Addr×Obj)}{σ:St}{H:Hp}{s:Shared}(I:Inv X pins σ H s):interactive X.env=false:=by simp [interactive,I.ok.kind]
def tDrop (te:TE):TS:=fun D σ H=>te σ H fun _ H1=>D.nx σ H1
theorem qfO (he:PE X e te) (hs:swapsWith e none pos.line X.env=pure false:=by rfl):PS X (.Expr e pos) (tDrop te):=by
  intro pins s σ H D I h
  exact wpAny_Expr_any (thn (he pins s σ H _ I h) fun v s1 ⟨x,H1,I1,r1,q1⟩=>⟨σ,H1,I1,q1⟩) I.quiet hs
def tRet (te:TE):TS:=fun D σ H=>te σ H D.rt
theorem qaj (he:PE X e te):PS X (.Return (some e) pos) (tRet te):=by
  intro pins s σ H D I h
  exact wpAny_Return_some (thn (he pins s σ H _ I h) fun v s1 ⟨x,H1,I1,r1,q1⟩=>⟨x,σ,H1,I1,r1,q1⟩)
def tIfS (c:TT) (t u:TS):TS:=fun D σ H=>c σ H fun b H1=>if b=true then t D σ H1 else u D σ H1
theorem qhw {c:Expr}{a b:List Stmt}{tc:TT}(hc:PT X c tc) (ha:PSs X a t) (hb:PSs X b u):PS X (.If c a b pos) (tIfS tc t u):=by
  intro pins s σ H D I h
  refine wpAny_If (thn (hc pins s σ H _ I h) fun d s1 ⟨H1,I1,q1⟩=>?_)
  cases d with
  | true=>exact ha pins s1 σ H1 D I1 q1
  | false=>exact hb pins s1 σ H1 D I1 q1
end
abbrev TG:=V->St->Hp->(St->Hp->Prop)->Prop
abbrev TGs:=List V->St->Hp->(St->Hp->Prop)->Prop
def PG (X:Cx) (target:Expr) (t:TG):Prop :=
  ∀ (pins:List (Addr×Obj)) (s:Shared) (σ:St) (H:Hp) (v:V) (u:Value) (Q:St->Hp->Prop),Inv X pins σ H s->jl v u->t v σ H Q →
    wpAny (model X.prog X.w) X.A (assign target X.env u) (fun _ s'=>∃ σ' H',Inv X pins σ' H' s'/\Q σ' H') X.xe s
def PGs (X:Cx) (ts:List Expr) (t:TGs):Prop :=
  ∀ (pins:List (Addr×Obj)) (s:Shared) (σ:St) (H:Hp) (vs:List V) (us:List Value) (Q:St->Hp->Prop),Inv X pins σ H s->yo vs us->t vs σ H Q →
    wpAny (model X.prog X.w) X.A (assignInOrder ((assignEach ts X.env).map (·.2)) us) (fun _ s'=>∃ σ' H',Inv X pins σ' H' s'/\Q σ' H') X.xe s
abbrev TSet:=V->V->V->Hp->(Hp->Prop)->Prop
def PSet (X:Cx) (t:TSet):Prop :=
  ∀ (pins:List (Addr×Obj)) (s:Shared) (σ:St) (H:Hp) (o i v:V) (ov iv u:Value) (Q:Hp->Prop),Inv X pins σ H s->jl o ov->jl i iv->jl v u->t o i v H Q →
    wpAny (model X.prog X.w) X.A (setItem ov iv u) (fun _ s'=>∃ H',Inv X pins σ H' s'/\Q H') X.xe s
section
variable {X:Cx}{pos:Pos}
def qdV (i:Nat):TG:=fun v σ H Q=>Q (σ.set i (some v)) H
theorem qfV {i:Nat}{x:Str}(hN:X.N.Nodup) (hi:X.N[i]?=some x) (hx:Loc X.env.scope x) (hf:X.fn x=true\/X.env.scope.names.lookup x=some .local:=by first | exact .inl rfl | exact .inr rfl | assumption):PG X (.Name x pos) (qdV i):=by
  intro pins s σ H v u Q I r h
  exact wpAny_assign_Name (JI I hN hi hx r (fun s' I'=>⟨_,H,I',h⟩) hf)
def gNil:TGs:=fun vs σ H Q=>vs=[]/\Q σ H
def qif (t:TG) (u:TGs):TGs:=fun vs σ H Q=>∃ v r,vs=v::r/\t v σ H fun σ' H'=>u r σ' H' Q
theorem qfT:PGs X [] gNil:=by
  intro pins s σ H vs us Q I r h
  obtain ⟨e,h⟩:=h
  subst e
  cases r
  exact assignInOrder_nil ⟨σ,H,I,h⟩
theorem qdB {e:Expr}{es:List Expr}{t:TG}{u:TGs}(h1:PG X e t) (h2:PGs X es u)
    (hs:(assignEach (e::es) X.env).map (·.2)=assign e X.env::(assignEach es X.env).map (·.2):=by rfl):PGs X (e::es) (qif t u):=by
  intro pins s σ H vs us Q I r h
  obtain ⟨v,vr,e1,h⟩:=h
  subst e1
  cases r with
  | cons r rr =>
    rw [hs]
    refine assignInOrder_cons (thn (h1 pins s σ H _ _ _ I r h) fun _ s1 ⟨σ1,H1,I1,q1⟩=>?_)
    exact h2 pins s1 σ1 H1 _ _ Q I1 rr q1
def gTup (K:W.Frag) (n:Nat) (t:TGs):TG:=fun v σ H Q=>∃ a xs,v = .ref a/\SqT K H a xs/\xs.length=n/\t xs σ H Q
theorem qhz {es:List Expr}{k:Nat}{t:TGs}{n:Nat}(hc:X.calm=true) (h:PGs X es t)
    (hn:(assignEach es X.env).length=n:=by rfl) (hst:(assignEach es X.env).findIdx? (·.1)=none:=by rfl):PG X (.Tuple es k pos) (gTup X.K n t):=by
  intro pins s σ H v u Q I r hw
  obtain ⟨a,xs,e1,hq,hl,hw⟩:=hw
  subst e1
  cases r
  obtain ⟨its,rv,ht,hz⟩:=I.tuple hq
  refine assign_Tuple_tuple (I.ok.hd hc) ht (by simp [hn,<- hl,rv.length]) hst fun h' hx=>?_
  have I1:Inv X pins σ H { s with heap:=h' }:=I.kept (t':=s.toks) fun b o e=>hx b o (qq (qf e)) e
  exact h pins _ σ H xs _ Q I1 (by simpa using rv) hw
def gSub (to ti:TE) (t:TSet):TG:=fun v σ H Q=>to σ H fun o H1=>ti σ H1 fun i H2=>t o i v H2 fun H3=>Q σ H3
theorem qeS {o i:Expr}{to ti:TE}{t:TSet}(ho:PE X o to) (hi:PE X i ti) (hs:PSet X t)
    (ha:∀ v,assign (.Subscript o i pos) X.env v=(do
      let ov <- holding [v] (eval o X.env)
      let iv <- holding [v,ov] (eval i X.env)
      standAt pos
      holding [v,ov,iv] (setItem ov iv v)
      release [v,ov,iv] []):=by intro _;rfl):PG X (.Subscript o i pos) (gSub to ti t):=by
  intro pins s σ H v u Q I r h
  rw [ha]
  refine qb (yj (thn (ho pins s σ H _ I h) fun ov s1 ⟨x,H1,I1,r1,q1⟩=>?_))
  refine qb (yj (thn (hi pins s1 σ H1 _ I1 q1) fun iv s2 ⟨y,H2,I2,r2,q2⟩=>?_))
  refine qb (wpAny_standAt (qb (yj (thn (hs pins s2 σ H2 x y v ov iv u _ I2 r1 r2 r q2) fun _ s3 ⟨H3,I3,q3⟩=>?_))))
  exact wpAny_release ⟨σ,H3,I3,q3⟩
def tAsg (te:TE) (g:TG):TS:=fun D σ H=>te σ H fun x H1=>g x σ H1 D.nx
theorem qbP {tg e:Expr}{te:TE}{g:TG}(he:PE X e te) (hg:PG X tg g) (hs:swapsWithSole [tg] e pos.line X.env=pure false:=by rfl) (hw:swappedStores [tg] e X.env=pure none:=by rfl)
    (h1:(assignEach [tg] X.env).map (·.2)=[assign tg X.env]:=by rfl):PS X (.Assign [tg] e pos) (tAsg te g):=by
  intro pins s σ H D I h
  refine wpAny_Assign_stores (thn (he pins s σ H _ I h) fun v s1 ⟨x,H1,I1,r1,q1⟩=>?_) hs hw
  rw [h1]
  exact thn (hg pins s1 σ H1 x v _ I1 r1 q1) fun _ s2 q=>q
theorem qeR {i:Nat}{x:Str}{e:Expr}{te:TE}{pos':Pos}(hN:X.N.Nodup) (hi:X.N[i]?=some x) (hx:Loc X.env.scope x) (he:PE X e te) (hs:swapsWith e (some (.Name x pos')) pos.line X.env=pure false:=by rfl) (hf:X.fn x=true\/X.env.scope.names.lookup x=some .local:=by first | exact .inl rfl | exact .inr rfl | assumption) :
    PS X (.Assign [.Name x pos'] e pos) (tAsg te (qdV i)):=by
  intro pins s σ H D I h
  refine wpAny_Assign_Name (thn (he pins s σ H _ I h) fun v s1 ⟨y,H1,I1,r1,q1⟩=>?_) hs
  exact JI I1 hN hi hx r1 (fun s2 I2=>⟨_,H1,I2,q1⟩) hf
def tPar (i j:Nat) (ta:TA):TS:=fun D σ H=>ta σ H fun vs H1=>∃ v w,vs=[v,w]/\D.nx ((σ.set i (some v)).set j (some w)) H1
theorem qhv {i j:Nat}{x y:Str}{a b:Expr}{ta:TA}{px py pt:Pos}{kt k2 pt2} (hc:X.calm=true) (hN:X.N.Nodup) (hi:X.N[i]?=some x) (hj:X.N[j]?=some y) (hij:i≠j)
    (hx:X.env.scope.names.lookup x=some .local) (hy:X.env.scope.names.lookup y=some .local) (ha:PA X [a,b] ta)
    (hw:swappedStores [.Tuple [.Name x px,.Name y py] kt pt] (.Tuple [a,b] k2 pt2) X.env=pure (some [x,y]))
    (hs:swapsWithSole [.Tuple [.Name x px,.Name y py] kt pt] (.Tuple [a,b] k2 pt2) pos.line X.env=pure false:=by rfl) :
    PS X (.Assign [.Tuple [.Name x px,.Name y py] kt pt] (.Tuple [a,b] k2 pt2) pos) (tPar i j ta):=by
  intro pins s σ H D I h
  rw [exec_Assign_arm]
  refine qb (wpAny_standAt ?_)
  rw [hs]
  refine qb (qd ?_)
  rw [if_neg (by decide)]
  refine qb (Tuple_ (thn (ha _ pins s σ H _ I h) fun us s1 ⟨vs,H1,I1,r1,q1⟩=>?_))
  obtain ⟨v,w,e1,q1⟩:=q1
  subst e1
  obtain ⟨u1,u2,rfl,rv,rw'⟩:∃ u1 u2,us=[u1,u2]/\jl v u1/\jl w u2:=by
    cases r1 with
    | cons p q =>
      cases q with
      | cons p' q' =>
        cases q'
        exact ⟨_,_,rfl,p,p'⟩
  refine wpAny_newObj_type ?_ (by show 2<=sizeLine;decide)
  have I2:Inv X pins σ H1 { s1 with heap:=s1.heap.push { cls:=.type "tuple",data:=.seq [u1,u2].toArray } }:=I1.kept (t':=s1.toks) fun b o e=>qc _ e
  rw [hw]
  refine qb (qd ?_)
  show wpAny (model X.prog X.w) X.A (do rule "assign.swapped-stores";let items <- unpackItems (.ref s1.heap.objs.size) 2 none;assignInOrder [fun v=>bindName X.env y v,fun v=>bindName X.env x v] items.reverse;pure Flow.next) _ _ _
  refine qb (wpAny_rule (qb (unpackItems_tuple (items:=#[u1,u2]) (I.ok.hd hc) (IsTup.new s1.heap _) fun h' hx'=>?_)))
  have I3:=I2.kept (h':=h') (t':=s1.toks) fun b o e=>hx' b o (qq (qf e)) e
  show wpAny _ _ (assignInOrder [fun v=>bindName X.env y v,fun v=>bindName X.env x v] [u2,u1] >>= fun _=>pure Flow.next) _ _ _
  refine qb (assignInOrder_cons (wpAny_bindName (JI I3 hN hj (.inl hy) rw' (fun s2 I4=>?_) (.inr hy))))
  refine assignInOrder_cons (wpAny_bindName (JI I4 hN hi (.inl hx) rv (fun s3 I5=>assignInOrder_nil (qd ?_)) (.inr hx)))
  rw [List.set_comm _ _ (Ne.symm hij)] at I5
  exact ⟨_,H1,I5,q1⟩
end
section
variable {X:Cx}{pos:Pos}
def qg2 (c:TT) (tb:TS):TS:=fun D σ H=>∃ W:Nat->St->Hp->Prop,(∃ m,W m σ H)/\∀ m σ H,W m σ H →
  c σ H fun b H1=>if b=true then ∃ N:St->Hp->Prop,(∀ σ' H',N σ' H'->∃ m',m'<m/\W m' σ' H')/\tb { D with nx:=N,ct:=N,bk:=D.nx } σ H1 else D.nx σ H1
theorem qdz {c:Expr}{body:List Stmt}{tc:TT}{tb:TS}(hp:PassesOwn (model X.prog X.w) X.A X.env X.xe) (hc:PT X c tc) (hb:PSs X body tb):PS X (.While c body [] pos) (qg2 tc tb):=by
  intro pins s σ H D I h
  obtain ⟨W,⟨m0,w0⟩,turn⟩:=h
  refine wpAny_While (codeAny_whileLoop (fun n s'=>∃ σ' H',Inv X pins σ' H' s'/\W n σ' H') ?_ m0 ⟨σ,H,I,w0⟩)
  rintro n s1 ⟨σ1,H1,I1,w1⟩
  refine wpAny_passesOwn hp (thn (hc pins s1 σ1 H1 _ I1 (turn n σ1 H1 w1)) fun b s2 ⟨H2,I2,q2⟩=>?_)
  cases b with
  | true =>
    obtain ⟨N,hN,q2⟩:=q2
    rw [if_pos rfl]
    refine wpAny_passesOwn hp (thn (hb pins s2 σ1 H2 _ I2 q2) fun f s3 q3=>?_)
    cases f with
    | next =>
      obtain ⟨σ3,H3,I3,n3⟩:=q3
      obtain ⟨m',hm,w3⟩:=hN σ3 H3 n3
      exact ⟨m',hm,σ3,H3,I3,w3⟩
    | cont =>
      obtain ⟨σ3,H3,I3,n3⟩:=q3
      obtain ⟨m',hm,w3⟩:=hN σ3 H3 n3
      exact ⟨m',hm,σ3,H3,I3,w3⟩
    | brk=>exact q3
    | ret v=>exact q3
  | false =>
    rw [if_neg Bool.false_ne_true]
    exact wpAny_execs_nil ⟨σ1,H2,I2,q2⟩
end
structure It where
  go:Nat->Hp->Prop
  yld:Nat->Hp->V->Hp->Prop
  stop:Nat->Hp->Prop
def qdb (X:Cx) (pins:List (Addr×Obj)) (H:Hp) (b:Addr):Prop :=
  H b=none/\b≠X.env.locals/\b∉X.fs/\(b∈X.ex\/X.s₀.heap.objs.size<=b)/\(∀ x c,X.env.cells.lookup x=some c->c≠b)/\∀ p∈X.pn++pins,p.1≠b
theorem Inv.fpOk {X:Cx}{pins:List (Addr×Obj)}{σ:St}{H H':Hp}{s:Shared}{b:Addr}(I:Inv X pins σ H s) (hb:s.heap.objs.size<=b) (hn:H' b=none):qdb X pins H' b:=by
  refine ⟨hn,Nat.ne_of_gt (qA I.lt hb),I.nofs hb,.inr (qz I.sz hb),fun x c e z=>?_,fun p hp z=>?_⟩
  · obtain ⟨v,q⟩:=I.cell x c e
    exact absurd (qA q.lt (by rw [z];exact hb)) (yJ _)
  · exact absurd (qA (qf (I.pin p hp).1) (by rw [z];exact hb)) (yJ _)
structure Turn (P:Program) (w:World) (K:W.Frag) (tg:Expr) (J:It) (fp:List Addr) (it:Addr) (tn:Nat->Heap->Prop):Prop where
  mem:it∈fp
  obj:∀ i h,tn i h->∀ b∈fp,∃ o,h.get? b=some o/\∀ v,o.data≠.cell v
  keep:∀ i h h',tn i h->(∀ b∈fp,∀ o,h.get? b=some o->h'.get? b=some o)->tn i h'
  item:∀ (X:Cx),X.prog=P->X.w=w->X.K=K->X.calm=true->∀ (i:Nat) (pins:List (Addr×Obj)) (s:Shared) (σ:St) (H:Hp) (E:Value->Shared->Prop),Inv X pins σ H s->(∀ b∈fp,qdb X pins H b)->tn i s.heap->J.go i H →
    wpAny (model P w) X.A (pyNext (.ref it)) (fun r s1=>∃ u,r=some u ∧
      wpAny (model P w) X.A (letOwnedTupleGo tg (.ref it) u) (fun _ s2=>∃ x H',Inv X pins σ H' s2/\jl x u/\J.yld i H x H'/\tn (i+1) s2.heap/\∀ b∈fp,H' b=none) E s1) E s
  done:∀ (X:Cx),X.prog=P->X.w=w->X.K=K->X.calm=true->∀ (i:Nat) (pins:List (Addr×Obj)) (s:Shared) (σ:St) (H:Hp) (E:Value->Shared->Prop),Inv X pins σ H s->(∀ b∈fp,qdb X pins H b)->tn i s.heap->J.stop i H →
    wpAny (model P w) X.A (pyNext (.ref it)) (fun r s1=>r=none/\Inv X pins σ H s1) E s
  self:∀ (A:Around) (i:Nat) (s:Shared) (Q:Value->Shared->Prop) (E:Value->Shared->Prop),tn i s.heap->Q (.ref it) s->wpAny (model P w) A (pyIter (.ref it)) Q E s
abbrev TI:=St->Hp->(It->Hp->Prop)->Prop
def PIE (X:Cx) (pins:List (Addr×Obj)) (σ:St) (tg:Expr) (R:It->Hp->Prop) (itv:Value) (s2:Shared):Prop :=
  ∃ (it:Addr) (fp:List Addr) (tn:Nat->Heap->Prop) (J:It) (H':Hp),itv = .ref it/\Inv X pins σ H' s2/\Turn X.prog X.w X.K tg J fp it tn/\tn 0 s2.heap/\(∀ b∈fp,qdb X pins H' b)/\R J H'
def PI (X:Cx) (tg iter:Expr) (wi:TI):Prop :=
  ∀ (pins:List (Addr×Obj)) (s:Shared) (σ:St) (H:Hp) (R:It->Hp->Prop),Inv X pins σ H s->wi σ H R →
    wpAny (model X.prog X.w) X.A (eval iter X.env) (fun v s1=>wpAny (model X.prog X.w) X.A (pyIter v) (PIE X pins σ tg R) X.xe s1) X.xe s
theorem qgo {M:Model}{A:Around}{E:Value->Shared->Prop}{s:Shared}{tg:Expr}{it:Addr}{u:Value}{o:Obj}{n:String}{vs:Array Value}{Q:Unit->Shared->Prop}(ho:s.heap.get? it=some o) (hc:o.cls = .type n) (hd:o.data = .fields vs)
    (hn:["enumerate", "zip", "dict_itemiterator", "dict_reverseitemiterator", "odict_iterator", "itertools.zip_longest", "itertools.pairwise"].contains n=false) (hQ:Q () s):wpAny M A (letOwnedTupleGo tg (.ref it) u) Q E s:=by
  unfold letOwnedTupleGo
  cases tg <;> first
    | exact qd hQ
    | (cases u <;> first
        | exact qd hQ
        | (refine qb (wpAny_load ho ?_)
           rw [hc,hd]
           show wpAny M A (if (["enumerate", "zip", "dict_itemiterator", "dict_reverseitemiterator", "odict_iterator", "itertools.zip_longest", "itertools.pairwise"].contains n && vs[0]? == some (rawInt _))=true then _ else _) Q E s
           rw [if_neg (by intro h;rw [hn,Bool.false_and] at h;cases h)]
           exact qd hQ))
def Itl (K:W.Frag) (a:Addr):It :=
  ⟨fun i H=>∃ xs x,SqL K H a xs/\xs[i]?=some x,fun i H x H'=>H'=H/\∀ xs,SqL K H a xs->xs[i]?=some x,fun i H=>∃ xs,SqL K H a xs/\xs.length<=i⟩
def Itt (K:W.Frag) (a:Addr):It :=
  ⟨fun i H=>∃ xs x,SqT K H a xs/\xs[i]?=some x,fun i H x H'=>H'=H/\∀ xs,SqT K H a xs->xs[i]?=some x,fun i H=>∃ xs,SqT K H a xs/\xs.length<=i⟩
def Itr (lo:Int) (n:Nat):It:=⟨fun i _=>i<n,fun i H x H'=>H'=H/\x = .int (lo+i),fun i _=>n<=i⟩
theorem qbi {P:Program}{w:World}{K:W.Frag}{tg:Expr}(a it:Addr):Turn P w K tg (Itl K a) [it] it (fun i h=>h.IsListIter it a i) where
  mem:=by simp
  obj:=fun i h st b hb=>by
    have e:b=it:=by simpa using hb
    subst e
    obtain ⟨o,e,c,d⟩:=st
    exact ⟨o,e,fun v z=>by rw [d] at z;cases z⟩
  keep:=fun i h h' st k=>st.at fun o e=>k it (by simp) o e
  item:=by
    intro X hP hw hK hc i pins s σ H E I hf st hg
    subst hP hw hK
    obtain ⟨xs,x,hq,hx⟩:=hg
    obtain ⟨its,rv,p,hz⟩:=I.list hq
    obtain ⟨u,hu,ru⟩:=rv.get hx
    obtain ⟨f0,f1,f2,f3,f4,f5⟩:=hf it (by simp)
    refine wpAny_pyNext_list_item st p.isList (x:=u) (by simpa using hu) fun h' st' sb=>?_
    have I1:Inv X pins σ H { s with heap:=h' }:=I.turned (t':=s.toks) (fun b o hb e=>(sb.2 b hb).trans e) f0 f1 f3 f4 f5
    obtain ⟨o,e,c,d⟩:=id st'
    exact ⟨u,rfl,qgo (s:={ s with heap:=h' }) e c d (by decide) ⟨x,H,I1,ru,⟨rfl,fun ys hy=>by rw [I.list_inj hy hq];exact hx⟩,st',fun b hb=>(hf b hb).1⟩⟩
  done:=by
    intro X hP hw hK hc i pins s σ H E I hf st hg
    subst hP hw hK
    obtain ⟨xs,hq,hx⟩:=hg
    obtain ⟨its,rv,p,hz⟩:=I.list hq
    obtain ⟨f0,f1,f2,f3,f4,f5⟩:=hf it (by simp)
    have hl:=rv.length
    exact wpAny_pyNext_list_end (I.ok.hd hc) st p.isList (by simp;omega) fun h' eb=>⟨rfl,I.turned (t':=s.toks) (fun b o hb e=>eb b o hb e) f0 f1 f3 f4 f5⟩
  self:=fun _ _ _ _ _ st h=>wpAny_pyIter_listiter st h
theorem qaJ {P:Program}{w:World}{K:W.Frag}{tg:Expr}(a it:Addr):Turn P w K tg (Itt K a) [it] it (fun i h=>h.IsTupleIter it a i) where
  mem:=by simp
  obj:=fun i h st b hb=>by
    have e:b=it:=by simpa using hb
    subst e
    obtain ⟨o,e,c,d⟩:=st
    exact ⟨o,e,fun v z=>by rw [d] at z;cases z⟩
  keep:=fun i h h' st k=>st.at fun o e=>k it (by simp) o e
  item:=by
    intro X hP hw hK hc i pins s σ H E I hf st hg
    subst hP hw hK
    obtain ⟨xs,x,hq,hx⟩:=hg
    obtain ⟨its,rv,p,hz⟩:=I.tuple hq
    obtain ⟨u,hu,ru⟩:=rv.get hx
    obtain ⟨f0,f1,f2,f3,f4,f5⟩:=hf it (by simp)
    refine wpAny_pyNext_tuple_item st (show s.heap.IsTuple a its.toArray from p) (x:=u) (by simpa using hu) fun h' st' sb=>?_
    have I1:Inv X pins σ H { s with heap:=h' }:=I.turned (t':=s.toks) (fun b o hb e=>(sb.2 b hb).trans e) f0 f1 f3 f4 f5
    obtain ⟨o,e,c,d⟩:=id st'
    exact ⟨u,rfl,qgo (s:={ s with heap:=h' }) e c d (by decide) ⟨x,H,I1,ru,⟨rfl,fun ys hy=>by rw [I.tuple_inj hy hq];exact hx⟩,st',fun b hb=>(hf b hb).1⟩⟩
  done:=by
    intro X hP hw hK hc i pins s σ H E I hf st hg
    subst hP hw hK
    obtain ⟨xs,hq,hx⟩:=hg
    obtain ⟨its,rv,p,hz⟩:=I.tuple hq
    obtain ⟨f0,f1,f2,f3,f4,f5⟩:=hf it (by simp)
    have hl:=rv.length
    exact wpAny_pyNext_tuple_end (I.ok.hd hc) st (show s.heap.IsTuple a its.toArray from p) (by simp;omega) fun h' eb=>⟨rfl,I.turned (t':=s.toks) (fun b o hb e=>eb b o hb e) f0 f1 f3 f4 f5⟩
  self:=fun _ _ _ _ _ st h=>wpAny_pyIter_tupleiter st h
theorem qaK {P:Program}{w:World}{K:W.Frag}{tg:Expr}(it:Addr) (lo:Int) (n:Nat):Turn P w K tg (Itr lo n) [it] it (fun i h=>IsRangeIter h it (lo+(i:Nat) * 1) ((n:Int) - (i:Nat)) 1) where
  mem:=by simp
  obj:=fun i h st b hb=>by
    have e:b=it:=by simpa using hb
    subst e
    exact ⟨_,st,fun v z=>by
      have z':Data.fields _=Data.cell v:=z
      cases z'⟩
  keep:=fun i h h' st k=>k it (by simp) _ st
  item:=by
    intro X hP hw hK hc i pins s σ H E I hf st hg
    subst hP hw hK
    obtain ⟨f0,f1,f2,f3,f4,f5⟩:=hf it (by simp)
    have W:=Walks.range (prog:=X.prog) (w:=X.w) (I.ok.hd hc) it lo 1 n
    refine W.item i s _ _ hg st fun v h' tk hv st' kk=>?_
    obtain ⟨t,rfl⟩:=hv
    have I1:Inv X pins σ H { s with heap:=h',toks:=tk }:=I.turned (fun b o hb e=>kk b o (by simpa using hb) e) f0 f1 f3 f4 f5
    refine ⟨_,rfl,qgo (s:={ s with heap:=h',toks:=tk }) (n := "range_iterator") st' rfl rfl (by decide) ⟨.int (lo+i),H,I1,⟨t,?_⟩,⟨rfl,rfl⟩,st',fun b hb=>(hf b hb).1⟩⟩
    rw [Int.mul_one]
  done:=by
    intro X hP hw hK hc i pins s σ H E I hf st hg
    subst hP hw hK
    obtain ⟨f0,f1,f2,f3,f4,f5⟩:=hf it (by simp)
    exact wpAny_pyNext_range_end (I.ok.hd hc) st (by have:n<=i:=hg;omega) fun h' eb=>⟨rfl,I.turned (t':=s.toks) (fun b o hb e=>eb b o hb e) f0 f1 f3 f4 f5⟩
  self:=fun _ _ _ _ _ st h=>wpAny_pyIter_rangeiter st h
section
variable {X:Cx}{tg:Expr}
def iList (K:W.Frag) (tl:TE):TI:=fun σ H R=>tl σ H fun x H1=>∃ a,x = .ref a/\(∃ xs,SqL K H1 a xs)/\R (Itl K a) H1
def iTup (K:W.Frag) (tl:TE):TI:=fun σ H R=>tl σ H fun x H1=>∃ a,x = .ref a/\(∃ xs,SqT K H1 a xs)/\R (Itt K a) H1
theorem qfS {l:Expr}{tl:TE}(hl:PE X l tl):PI X tg l (iList X.K tl):=by
  intro pins s σ H R I h
  refine thn (hl pins s σ H _ I h) fun v s1 hq9=>?_
  obtain ⟨x,H1,I1,r1,q1⟩:=hq9
  obtain ⟨a,e,⟨xs,hq⟩,q⟩:=q1
  subst e
  cases r1
  obtain ⟨its,rv,p,hz⟩:=I1.list hq
  refine wpAny_pyIter_list p.isList ?_
  refine ⟨s1.heap.objs.size,[s1.heap.objs.size],_,_,H1,rfl,I1.kept (t':=s1.toks) fun b o e=>qc _ e,qbi a _,⟨_,qt _ rfl,rfl,rfl⟩,fun b hb=>?_,q⟩
  have e:b=s1.heap.objs.size:=by simpa using hb
  subst e
  exact I1.fpOk (qk _) (I1.hok.fresh (qk _))
theorem qhy {l:Expr}{tl:TE}(hl:PE X l tl):PI X tg l (iTup X.K tl):=by
  intro pins s σ H R I h
  refine thn (hl pins s σ H _ I h) fun v s1 hq9=>?_
  obtain ⟨x,H1,I1,r1,q1⟩:=hq9
  obtain ⟨a,e,⟨xs,hq⟩,q⟩:=q1
  subst e
  cases r1
  obtain ⟨its,rv,p,hz⟩:=I1.tuple hq
  refine wpAny_pyIter_tuple (show s1.heap.IsTuple a its.toArray from p) ?_
  refine ⟨s1.heap.objs.size,[s1.heap.objs.size],_,_,H1,rfl,I1.kept (t':=s1.toks) fun b o e=>qc _ e,qaJ a _,⟨_,qt _ rfl,rfl,rfl⟩,fun b hb=>?_,q⟩
  have e:b=s1.heap.objs.size:=by simpa using hb
  subst e
  exact I1.fpOk (qk _) (I1.hok.fresh (qk _))
theorem qdy {pins:List (Addr×Obj)}{σ:St}{H:Hp}{s:Shared}{R:It->Hp->Prop}{E:Value->Shared->Prop}{lo hi:Int}{t u v:Tok}{tk:Nat}(I:Inv X pins σ H s) (h1:-(2 ^ 62)<=lo) (h2:lo<2 ^ 62) (h3:-(2 ^ 62)<=hi) (h4:hi<2 ^ 62)
    (q:R (Itr lo (hi - lo).toNat) H):wpAny (model X.prog X.w) X.A (pyIter (.ref s.heap.objs.size)) (PIE X pins σ tg R) E { s with heap:=s.heap.push { cls:=.type "range",data:=.fields #[.int lo t,.int hi u,.int 1 v] },toks:=tk }:=by
  refine wpAny_pyIter_range (IsRange.new ..) (small_one h1 h2 h3 h4) ?_
  have I1:Inv X pins σ H { s with heap:=s.heap.push { cls:=.type "range",data:=.fields #[.int lo t,.int hi u,.int 1 v] },toks:=tk }:=I.kept fun b o e=>qc _ e
  refine ⟨(s.heap.push { cls:=.type "range",data:=.fields #[.int lo t,.int hi u,.int 1 v] }).objs.size,[(s.heap.push { cls:=.type "range",data:=.fields #[.int lo t,.int hi u,.int 1 v] }).objs.size],_,_,H,rfl,
    I1.kept (t':=tk) fun b o e=>qc _ e,qaK _ lo (hi - lo).toNat,?_,fun b hb=>?_,q⟩
  · have e1:lo+((0:Nat):Int) * 1=lo:=by simp
    have e2:(((hi - lo).toNat:Nat):Int) - ((0:Nat):Int)=Builtin.Range.rangeSize lo hi 1:=by rw [rangeSize_one];split <;> omega
    show IsRangeIter _ _ (lo+((0:Nat):Int) * 1) ((((hi - lo).toNat:Nat):Int) - ((0:Nat):Int)) 1
    rw [e1,e2]
    exact qt _ rfl
  · have e:b=(s.heap.push { cls:=.type "range",data:=.fields #[.int lo t,.int hi u,.int 1 v] }).objs.size:=by simpa using hb
    subst e
    exact I1.fpOk (qk _) (I1.hok.fresh (qk _))
def iRng1 (ta:TA):TI:=fun σ H R=>ta σ H fun vs H1=>∃ j:Int,vs=[.int j]/\-(2 ^ 62)<=j/\j<2 ^ 62/\R (Itr 0 j.toNat) H1
theorem qbV {a:Expr}{ta:TA}{p pos:Pos}(hg:Gl X "range") (hm:X.mg "range" = none) (ha:PA X [a] ta) (hs:starEach [a] X.env=[(false,eval a X.env)]:=by rfl):PI X tg (.Call (.Name "range" p) [a] [] pos) (iRng1 ta):=by
  intro pins s σ H R I h
  refine Call_ (Yj I hg hm boot_range (PyProof.Rows.callWith_type1 (thn (ha pos pins s σ H _ I h) fun us s1 ⟨vs,H1,I1,r1,q1⟩=>?_) hs rfl))
  obtain ⟨j,e,q1,q2,q⟩:=q1
  subst e
  cases r1 with
  | cons r rr =>
    cases rr
    obtain ⟨t,rfl⟩:=r
    exact call_range_1 (qdy I1 (by omega) (by omega) q1 q2 (by simpa using q))
def tFor (wi:TI) (g:TG) (tb:TS):TS:=fun D σ H=>wi σ H fun J H1=>∃ W:Nat->Nat->St->Hp->Prop,(∃ m,W 0 m σ H1)/\∀ i m σ H,W i m σ H →
  (J.stop i H/\D.nx σ H)\/(J.go i H/\∃ N:St->Hp->Prop,(∀ σ' H',N σ' H'->∃ m',m'<m/\W (i+1) m' σ' H')/\∀ x H',J.yld i H x H'->g x σ H' fun σ2 H2=>tb { D with nx:=N,ct:=N,bk:=D.nx } σ2 H2)
def Y5 (fp:List Addr) (h:Heap):List (Addr×Obj):=fp.filterMap fun b=>(h.get? b).map fun o=>(b,o)
theorem jU {fp:List Addr}{h:Heap}{b:Addr}{o:Obj}(hb:b∈fp) (e:h.get? b=some o):(b,o)∈Y5 fp h:=List.mem_filterMap.mpr ⟨b,hb,by rw [e];rfl⟩
theorem qb1 {fp:List Addr}{h:Heap}{p:Addr×Obj}(hp:p∈Y5 fp h):p.1∈fp/\h.get? p.1=some p.2:=by
  obtain ⟨b,hb,e⟩:=List.mem_filterMap.mp hp
  cases q:h.get? b with
  | none=>rw [q] at e;cases e
  | some o =>
    rw [q] at e
    have e':(b,o)=p:=Option.some.inj e
    subst e'
    exact ⟨hb,q⟩
theorem Inv.pinned {pins:List (Addr×Obj)}{σ:St}{H:Hp}{s:Shared}{fp:List Addr}(I:Inv X pins σ H s) (hf:∀ b∈fp,qdb X pins H b) (ho:∀ b∈fp,∃ o,s.heap.get? b=some o/\∀ v,o.data≠.cell v):Inv X (pins++Y5 fp s.heap) σ H s :=
  I.pins_of fun p hp=>(List.mem_append.mp hp).elim (fun z=>I.pin p (qy _ z)) fun z=>by
    obtain ⟨hb,e⟩:=qb1 z
    obtain ⟨f0,f1,f2,_⟩:=hf p.1 hb
    obtain ⟨o,e',d⟩:=ho p.1 hb
    rw [e] at e';cases e'
    exact ⟨e,f0,f1,f2,d⟩
theorem Inv.unpinned {pins pl:List (Addr×Obj)}{σ:St}{H:Hp}{s:Shared}(I:Inv X (pins++pl) σ H s):Inv X pins σ H s:=I.pins_of fun p hp=>I.pin p (qy _ (yv _ hp))
theorem qhx {iter:Expr}{body:List Stmt}{wi:TI}{g:TG}{tb:TS}{pos:Pos}(hp:PassesOwn (model X.prog X.w) X.A X.env X.xe) (hc:X.calm=true) (hi:PI X tg iter wi) (hg:PG X tg g) (hb:PSs X body tb)
    (hs:∀ x,foldedSetIterable iter X.env x=pure x:=by intro _;rfl):PS X (.For tg iter body [] pos) (tFor wi g tb):=by
  intro pins s σ H D I h
  refine wpAny_For (thn (hi pins s σ H _ I h) fun v s1 h1=>thn h1 fun itv s2 h2=>?_) hs
  obtain ⟨it,fp,tn,J,H2,e,I2,T,st2,f2,W,⟨m0,w0⟩,turn⟩:=h2
  subst e
  -- what stays true of the iterator's objects through the loop
  have stat:∀ {H':Hp},(∀ b∈fp,H' b=none)->∀ b∈fp,qdb X pins H' b:=fun hn b hb=>⟨hn b hb,(f2 b hb).2⟩
  refine codeAny_forLoop_any (fun n s'=>∃ i σ' H',Inv X pins σ' H' s'/\tn i s'.heap/\(∀ b∈fp,H' b=none)/\W i n σ' H') ?_ m0 ⟨0,σ,H2,I2,st2,fun b hb=>(f2 b hb).1,w0⟩
  rintro n s3 ⟨i,σ3,H3,I3,st3,fr3,w3⟩
  rcases turn i n σ3 H3 w3 with ⟨stop,qn⟩ | ⟨go,N,hN,step⟩
  · refine wpAny_passesOwn hp (thn (T.done X rfl rfl rfl hc i pins s3 σ3 H3 X.xe I3 (stat fr3) st3 stop) fun r s4 ⟨hr,I4⟩=>?_)
    subst hr
    exact wpAny_execs_nil ⟨σ3,H3,I4,qn⟩
  · refine wpAny_passesOwn hp (thn (T.item X rfl rfl rfl hc i pins s3 σ3 H3 X.xe I3 (stat fr3) st3 go) fun r s4 ⟨u,hr,h4⟩=>?_)
    subst hr
    refine wpAny_passesOwn hp (thn h4 fun _ s5 ⟨x,H5,I5,r5,y5,st5,fr5⟩=>?_)
    have I5':=I5.pinned (stat fr5) (T.obj _ _ st5)
    refine wpAny_passesOwn hp (thn (hg _ s5 σ3 H5 x u _ I5' r5 (step x H5 y5)) fun _ s6 ⟨σ6,H6,I6,q6⟩=>?_)
    refine wpAny_passesOwn hp (thn (hb _ s6 σ6 H6 _ I6 q6) fun f s7 q7=>?_)
    have again:∀ {σ7:St}{H7:Hp},Inv X (pins++Y5 fp s5.heap) σ7 H7 s7->N σ7 H7->∃ m,m<n/\∃ i σ' H',Inv X pins σ' H' s7/\tn i s7.heap/\(∀ b∈fp,H' b=none)/\W i m σ' H':=fun {σ7 H7} I7 n7=>by
      obtain ⟨m',hm,w7⟩:=hN σ7 H7 n7
      refine ⟨m',hm,i+1,σ7,H7,I7.unpinned,T.keep _ _ _ st5 fun b hb o e=>(I7.pin (b,o) (qy _ (qy _ (jU hb e)))).1,fun b hb=>?_,w7⟩
      obtain ⟨o,e,d⟩:=T.obj _ _ st5 b hb
      exact (I7.pin (b,o) (qy _ (qy _ (jU hb e)))).2.1
    cases f with
    | next=>obtain ⟨σ7,H7,I7,n7⟩:=q7;exact again I7 n7
    | cont=>obtain ⟨σ7,H7,I7,n7⟩:=q7;exact again I7 n7
    | brk=>obtain ⟨σ7,H7,I7,q7⟩:=q7;exact ⟨σ7,H7,I7.unpinned,q7⟩
    | ret v=>obtain ⟨x7,σ7,H7,I7,r7,q7⟩:=q7;exact ⟨x7,σ7,H7,I7.unpinned,r7,q7⟩
end
abbrev R2:=V->V->Hp->VK->Prop
def OpR (X:Cx) (f:Value->Value->Sem Value) (r:R2):Prop :=
  ∀ (pins:List (Addr×Obj)) (s:Shared) (σ:St) (H:Hp) (x y:V) (v u:Value) (Q:VK),Inv X pins σ H s->jl x v->jl y u->r x y H Q →
    wpAny (model X.prog X.w) X.A (f v u) (EP X pins σ Q) X.xe s
def UnR (X:Cx) (f:Value->Sem Value) (r:V->Hp->VK->Prop):Prop :=
  ∀ (pins:List (Addr×Obj)) (s:Shared) (σ:St) (H:Hp) (x:V) (v:Value) (Q:VK),Inv X pins σ H s->jl x v->r x H Q →
    wpAny (model X.prog X.w) X.A (f v) (EP X pins σ Q) X.xe s
def yA (X:Cx) (f:Value) (r:List V->Hp->VK->Prop):Prop :=
  ∀ (pins:List (Addr×Obj)) (s:Shared) (σ:St) (H:Hp) (xs:List V) (us:List Value) (Q:VK),Inv X pins σ H s->yo xs us->r xs H Q →
    wpAny (model X.prog X.w) X.A (call f us) (EP X pins σ Q) X.xe s
def tOp (r:R2) (ta tb:TE):TE:=fun σ H Q=>ta σ H fun x H1=>tb σ H1 fun y H2=>r x y H2 Q
def tUn (r:V->Hp->VK->Prop) (ta:TE):TE:=fun σ H Q=>ta σ H fun x H1=>r x H1 Q
def rI (C:Int->Int->Prop) (g:Int->Int->V):R2:=fun x y H Q=>∃ i j,x = .int i/\y = .int j/\C i j/\Q (g i j) H
def rI0 (g:Int->Int->V):R2:=fun x y H Q=>∃ i j,x = .int i/\y = .int j/\Q (g i j) H
def rU (g:Int->V):V->Hp->VK->Prop:=fun x H Q=>∃ i,x = .int i/\Q (g i) H
section
variable {X:Cx}{a b c:Expr}{ta tb tc:TE}{pos:Pos}
theorem binT (ha:PE X a ta) (hb:PE X b tb) {pins:List (Addr×Obj)}{s:Shared}{σ:St}{H:Hp}{R:V->V->Hp->Prop}(I:Inv X pins σ H s)
    (h:ta σ H fun x H1=>tb σ H1 fun y H2=>R x y H2) {Q:Value->Shared->Prop}{f:Value->Value->Sem Value}
    (hf:∀ v u s2 x y H2,Inv X pins σ H2 s2->jl x v->jl y u->R x y H2->wpAny (model X.prog X.w) X.A (f v u) Q X.xe s2) :
    wpAny (model X.prog X.w) X.A (eval a X.env) (fun v s₁=>wpAny (model X.prog X.w) X.A (eval b X.env) (fun u s₂=>wpAny (model X.prog X.w) X.A (f v u) Q X.xe s₂) X.xe s₁) X.xe s:=by
  refine thn (ha pins s σ H _ I h) fun v s1 hq9=>?_
  obtain ⟨x,H1,I1,r1,q1⟩:=hq9
  refine thn (hb pins s1 σ H1 _ I1 q1) fun u s2 hq9=>?_
  obtain ⟨y,H2,I2,r2,q2⟩:=hq9
  exact hf v u s2 x y H2 I2 r1 r2 q2
theorem Ya {op:Operator}{r:R2}(ho:OpR X (binaryOp op) r) (ha:PE X a ta) (hb:PE X b tb):PE X (.BinOp a op b pos) (tOp r ta tb):=by
  intro pins s σ H Q I h
  exact wpAny_BinOp (binT ha hb I h fun v u s2 x y H2 I2 rx ry q=>ho pins s2 σ H2 x y v u Q I2 rx ry q)
theorem pe_un {op:UnaryOp}{r:V->Hp->VK->Prop}(ho:UnR X (unaryOp op) r) (ha:PE X a ta):PE X (.UnaryOp op a pos) (tUn r ta):=by
  intro pins s σ H Q I h
  exact UnaryOp_ (thn (ha pins s σ H _ I h) fun v s1 ⟨x,H1,I1,r1,q1⟩=>ho pins s1 σ H1 x v Q I1 r1 q1)
theorem opI {f:Value->Value->Sem Value}{C:Int->Int->Prop}{g:Int->Int->Int}
    (rule:∀ (i j:Int) (t u:Tok) (s:Shared) (Q:Value->Shared->Prop) (E:Value->Shared->Prop),C i j->Q (.int (g i j) s.toks) { s with toks:=s.toks+1 }->wpAny (model X.prog X.w) X.A (f (.int i t) (.int j u)) Q E s) :
    OpR X f (rI C fun i j=>.int (g i j)):=by
  intro pins s σ H x y v u Q I rx ry h
  obtain ⟨i,j,rfl,rfl,hc,q⟩:=h
  obtain ⟨t,rfl⟩:=rx
  obtain ⟨t',rfl⟩:=ry
  exact rule i j t t' s _ _ hc ⟨.int (g i j),H,I.tok _,⟨_,rfl⟩,q⟩
theorem opI0 {f:Value->Value->Sem Value}{g:Int->Int->Int}
    (rule:∀ (i j:Int) (t u:Tok) (s:Shared) (Q:Value->Shared->Prop) (E:Value->Shared->Prop),Q (.int (g i j) s.toks) { s with toks:=s.toks+1 }->wpAny (model X.prog X.w) X.A (f (.int i t) (.int j u)) Q E s) :
    OpR X f (rI0 fun i j=>.int (g i j)):=by
  intro pins s σ H x y v u Q I rx ry h
  obtain ⟨i,j,rfl,rfl,q⟩:=h
  obtain ⟨t,rfl⟩:=rx
  obtain ⟨t',rfl⟩:=ry
  exact rule i j t t' s _ _ ⟨.int (g i j),H,I.tok _,⟨_,rfl⟩,q⟩
theorem opB0 {f:Value->Value->Sem Value}{g:Int->Int->Bool}
    (rule:∀ (i j:Int) (t u:Tok) (s:Shared) (Q:Value->Shared->Prop) (E:Value->Shared->Prop),Q (.bool (g i j)) s->wpAny (model X.prog X.w) X.A (f (.int i t) (.int j u)) Q E s) :
    OpR X f (rI0 fun i j=>.bl (g i j)):=by
  intro pins s σ H x y v u Q I rx ry h
  obtain ⟨i,j,rfl,rfl,q⟩:=h
  obtain ⟨t,rfl⟩:=rx
  obtain ⟨t',rfl⟩:=ry
  exact rule i j t t' s _ _ ⟨.bl (g i j),H,I,rfl,q⟩
def CPow (i j:Int):Prop:=0<=j/\j<=1000000/\i.natAbs<2 ^ 64
def CMul (i j:Int):Prop:=(-(2 ^ 64)<i/\i<2 ^ 64)\/(-(2 ^ 64)<j/\j<2 ^ 64)
theorem CMul.ok {i j:Int}(h:CMul i j):IntMulOk i j:=by
  rcases h with ⟨h1,h2⟩ | ⟨h1,h2⟩
  · exact .of_left (intBits_le_64 h1 h2)
  · exact .of_right (intBits_le_64 h1 h2)
theorem qbZ:OpR X (binaryOp .Add) (rI0 fun i j=>.int (i+j)):=opI0 fun _ _ _ _ _ _ _ q=>add_int q
theorem qhH:OpR X (binaryOp .Sub) (rI0 fun i j=>.int (i - j)):=opI0 fun _ _ _ _ _ _ _ q=>sub_int q
theorem Y8:OpR X (binaryOp .Mod) (rI (fun _ j=>0<j) fun i j=>.int (i % j)):=opI fun i j _ _ _ _ _ hc q=>by
  have h1:(0:Int)<j:=hc
  exact mod_int' (by omega) (by rw [Int.fmod_eq_emod_of_nonneg i (by omega)];exact q)
theorem qhI:OpR X (binaryOp .Pow) (rI CPow fun i j=>.int (i ^ j.toNat)):=opI fun _ _ _ _ _ _ _ hc q=>pow_int_small hc.1 hc.2.1 hc.2.2 q
theorem unI {f:Value->Sem Value}{g:Int->Int}
    (rule:∀ (i:Int) (t:Tok) (s:Shared) (Q:Value->Shared->Prop) (E:Value->Shared->Prop),Q (.int (g i) s.toks) { s with toks:=s.toks+1 }->wpAny (model X.prog X.w) X.A (f (.int i t)) Q E s) :
    UnR X f (rU fun i=>.int (g i)):=by
  intro pins s σ H x v Q I rx h
  obtain ⟨i,rfl,q⟩:=h
  obtain ⟨t,rfl⟩:=rx
  exact rule i t s _ _ ⟨.int (g i),H,I.tok _,⟨_,rfl⟩,q⟩
theorem qg1:UnR X (unaryOp .USub) (rU fun i=>.int (-i)):=unI fun _ _ _ _ _ q=>neg_int q
end
section
variable {X:Cx}{a b c:Expr}{ta tb tc:TE}{pos:Pos}
theorem op_lt:OpR X (compareOp .Lt) (rI0 fun i j=>.bl (decide (i<j))):=opB0 fun _ _ _ _ _ _ _ q=>lt_int q
theorem op_le:OpR X (compareOp .LtE) (rI0 fun i j=>.bl (decide (i<=j))):=opB0 fun _ _ _ _ _ _ _ q=>le_int q
theorem qhK:OpR X (compareOp .Gt) (rI0 fun i j=>.bl (decide (j<i))):=opB0 fun _ _ _ _ _ _ _ q=>gt_int q
theorem OpR.or {f:Value->Value->Sem Value}{r r':R2}(h:OpR X f r) (h':OpR X f r'):OpR X f (fun x y H Q=>r x y H Q\/r' x y H Q):=by
  intro pins s σ H x y v u Q I rx ry q
  rcases q with q | q
  · exact h pins s σ H x y v u Q I rx ry q
  · exact h' pins s σ H x y v u Q I rx ry q
theorem yB (b:Expr) {op:CmpOp}(h:op≠.In:=by decide) (h2:op≠.NotIn:=by decide):behindInMarks op b=false:=by
  have e1:(op == CmpOp.In)=false:=by cases op <;> first | rfl | exact absurd rfl h
  have e2:(op == CmpOp.NotIn)=false:=by cases op <;> first | rfl | exact absurd rfl h2
  cases b <;> simp [behindInMarks,e1,e2]
theorem qfY {op:CmpOp}{r:R2}(ho:OpR X (compareOp op) r) (ha:PE X a ta) (hb:PE X b tb) (hm:behindInMarks op b=false):PE X (.Compare a [op] [b] pos) (tOp r ta tb):=by
  intro pins s σ H Q I h
  exact wpAny_Compare1 (binT ha hb I h fun v u s2 x y H2 I2 rx ry q=>ho pins s2 σ H2 x y v u Q I2 rx ry q) hm
def tTest (t:TE):TT:=fun σ H Q=>t σ H fun x H'=>∃ k,x = .bl k/\Q k H'
theorem qbK {op:CmpOp}{r:R2}(ho:OpR X (compareOp op) r) (ha:PE X a ta) (hb:PE X b tb) (hm:behindInMarks op b=false):PT X (.Compare a [op] [b] pos) (tTest (tOp r ta tb)):=by
  intro pins s σ H Q I h
  refine wpAny_isTrue_Compare1 (thn (ha pins s σ H _ I h) fun v s1 ⟨x,H1,I1,r1,q1⟩=>thn (hb pins s1 σ H1 _ I1 q1) fun u s2 ⟨y,H2,I2,r2,q2⟩ =>
    thn (ho pins s2 σ H2 x y v u _ I2 r1 r2 q2) fun c s3 ⟨z,H3,I3,r3,k,e,q3⟩=>?_) hm
  subst e
  cases r3
  exact wpAny_truthy_bool ⟨H3,I3,q3⟩
theorem qas:(sizeLine:Nat)<2 ^ 63:=by rw [sizeLine_eq];decide
theorem J9 {x:V}{us:List Value}(r:yo [x] us):∃ u,us=[u]/\jl x u:=by
  cases r with
  | cons r1 r2=>cases r2;exact ⟨_,rfl,r1⟩
theorem qfq {x y:V}{us:List Value}(r:yo [x,y] us):∃ u w',us=[u,w']/\jl x u/\jl y w':=by
  cases r with
  | cons r1 r2 =>
    cases r2 with
    | cons r3 r4=>cases r4;exact ⟨_,_,rfl,r1,r3⟩
theorem qeg:yA X (.builtin "abs") (fun xs H Q=>∃ i,xs=[.int i]/\Q (.int (if i<0 then -i else i)) H):=by
  intro pins s σ H xs us Q I r h
  obtain ⟨i,rfl,q⟩:=h
  obtain ⟨u,rfl,t,rfl⟩:=J9 r
  exact call_abs_int fun u tk=>⟨.int (if i<0 then -i else i),H,I.tok _,⟨_,rfl⟩,q⟩
theorem qcU (hc:X.calm=true):yA X (.builtin "max") (fun xs H Q=>∃ i j,xs=[.int i,.int j]/\Q (.int (if j > i then j else i)) H):=by
  intro pins s σ H xs us Q I r h
  obtain ⟨i,j,rfl,q⟩:=h
  obtain ⟨u,w',rfl,⟨t,rfl⟩,⟨t',rfl⟩⟩:=qfq r
  refine max_two_ints (I.ok.hd hc) fun h' tk k=>⟨_,H,I.kept k,?_,q⟩
  by_cases hj:j > i
  · rw [if_pos hj,if_pos hj];exact ⟨_,rfl⟩
  · rw [if_neg hj,if_neg hj];exact ⟨_,rfl⟩
theorem qcT (hc:X.calm=true):yA X (.builtin "min") (fun xs H Q=>∃ i j,xs=[.int i,.int j]/\Q (.int (if j<i then j else i)) H):=by
  intro pins s σ H xs us Q I r h
  obtain ⟨i,j,rfl,q⟩:=h
  obtain ⟨u,w',rfl,⟨t,rfl⟩,⟨t',rfl⟩⟩:=qfq r
  refine min_two_ints (I.ok.hd hc) fun h' tk k=>⟨_,H,I.kept k,?_,q⟩
  by_cases hj:j<i
  · rw [if_pos hj,if_pos hj];exact ⟨_,rfl⟩
  · rw [if_neg hj,if_neg hj];exact ⟨_,rfl⟩
end
structure ObjM (h:Heap) (x dx C:Addr) (mA:Str->Option Value):Prop where
  obj:h.get? x=some (W.instObj C dx)
  ns:h.Ns1 dx mA
  ne:dx≠x
theorem qcc {h:Heap}{dx:Addr}{mA:Str->Option Value}(n:h.Ns1 dx mA):∃ od,h.get? dx=some od/\∀ name,W.lookIn name od=some (mA name):=by
  obtain ⟨o,es,ep,ho,hd,hk,_,hm⟩:=n
  refine ⟨o,ho,fun name=>?_⟩
  have e:=hm name
  unfold nsFind findBy at e
  rw [<- Array.find?_toList] at e
  unfold W.lookIn
  rw [hd]
  dsimp only
  split
  · rename_i y q
    rw [q] at e
    exact congrArg some e
  · rename_i q
    rw [q] at e
    have a:es.toList.any (·.refKey)=false:=by
      rw [List.any_eq_false]
      intro y hy
      obtain ⟨z,t,hkey⟩:=hk y (Array.mem_toList_iff.mp hy)
      simp [DictEntry.refKey,hkey]
    have a':¬ es.toList.any (·.refKey)=true:=by rw [a];exact Bool.false_ne_true
    rw [if_neg a']
    exact congrArg some e
theorem ObjM.look {h:Heap}{x dx C:Addr}{mA:Str->Option Value}(I:ObjM h x dx C mA):∃ od,W.InstAt h x (W.instObj C dx) C (some od)/\∀ name,W.lookIn name od=some (mA name) :=
  let ⟨od,ho,hl⟩:=qcc I.ns
  ⟨od,⟨I.obj,rfl,rfl,ho⟩,hl⟩
section
variable {prog:Program}{w:World}{A:Around}{E:Value->Shared->Prop}{s:Shared}{K:W.Frag}{x dx C f:Addr}{mA:Str->Option Value}{name:Str}{v:Value}
end
section
variable {P:Program}{w:World}{H H':Hp}{h h':Heap}{a C dx:Addr}{fs fs':List (Str×V)}
end
structure Cls (K:W.Frag) (C:Addr):Prop where
  pg:W.plainGet K C Str.empty=true
  hd:W.hasDictIn K C=true
  po:W.plainOver K C=true
  sa:W.findIn K (.ref C) "__setattr__" = some (some (.builtin "object.__setattr__"))
theorem Cls.get {K:W.Frag}{C:Addr}(c:Cls K C) (f:Str):W.plainGet K C f=true:=c.pg
structure Con (K:W.Frag) (C:Addr) (f:Str) (v:V) (u:Value):Prop where
  at_:W.findIn K (.ref C) f=some (some u)
  rel:jl v u
  get:W.specialIn K u "__get__" = some none
  cp:W.copiedNames.contains f=false
structure Meth (K:W.Frag) (C:Addr) (m:Str) (f:Addr):Prop where
  at_:W.findIn K (.ref C) m=some (some (.ref f))
  fn:W.isFn K (.ref f)=true
  kp:W.keepIn K (.ref f)=true
section
variable {X:Cx}{pins:List (Addr×Obj)}{σ:St}{H:Hp}{s:Shared}{a C dx:Addr}{fs:List (Str×V)}{f:Str}{v:V}{A:Around}{E:Value->Shared->Prop}
theorem Inv.made (I:Inv X pins σ H s):Inv X pins σ (upd (upd H s.heap.objs.size (.own (s.heap.objs.size+1))) (s.heap.objs.size+1) (.ins C s.heap.objs.size []))
    { s with heap:=(s.heap.push W.emptyDict).push (W.instObj C s.heap.objs.size) }:=by
  have e1:(s.heap.push W.emptyDict).get? s.heap.objs.size=some W.emptyDict:=qt s.heap rfl
  have e2:((s.heap.push W.emptyDict).push (W.instObj C s.heap.objs.size)).get? (s.heap.objs.size+1)=some (W.instObj C s.heap.objs.size):=by
    have:=qt (s.heap.push W.emptyDict) (o:=W.instObj C s.heap.objs.size) rfl
    rwa [Heap.size_push] at this
  have e3:(s.heap.push W.emptyDict).Ns s.heap.objs.size (fun _=>none):=⟨W.emptyDict,#[],_,e1,rfl,(fun e he=>absurd he (by simp)),fun _=>rfl⟩
  have I1:=I.laid (a:=s.heap.objs.size) (o:=.own (s.heap.objs.size+1)) (h':=s.heap.push W.emptyDict) (t':=s.toks) (fun b u q=>qc _ q) (qk _) ⟨_,e1⟩
  refine I1.laid (a:=s.heap.objs.size+1) (o:=.ins C s.heap.objs.size []) (t':=s.toks) (fun b u q=>qc _ q) (Nat.le_of_eq (Heap.size_push _ _)) ?_
  have ne:s.heap.objs.size≠s.heap.objs.size+1:=qq (Nat.lt_succ_self _)
  refine ⟨by rw [qV ne,yb],yc _,ne,e2,fun _=>none,(Heap.Ns1.of_empty e3).at fun o q=>qc _ q,fun _=>True.intro,fun y hy=>absurd rfl hy⟩
end
section
variable {X:Cx}{o e value:Expr}{f:Str}{pos pos' tpos:Pos}{ta tv:TE}
end
section
variable {X:Cx}{pins:List (Addr×Obj)}{σ:St}{H:Hp}{s:Shared}{A:Around}{E:Value->Shared->Prop}{Q:Value->Shared->Prop}{c:Value}{b:Bool}
inductive TyOf (K:W.Frag) (H:Hp):V->Value->Prop where
  | non:TyOf K H .non (.type "NoneType")
  | bl (x:Bool):TyOf K H (.bl x) (.type "bool")
  | int (i:Int):TyOf K H (.int i) (.type "int")
  | str (x:Str):TyOf K H (.str x) (.type "str")
  | flt (x:UInt64):TyOf K H (.flt x) (.type "float")
  | lst {a:Addr}{xs:List V}(e:H a=some (.lst xs)):TyOf K H (.ref a) (.type "list")
  | frz {a:Addr}{o:Obj}{xs:List V}(e:H a=some (.frz o (.lst xs))):TyOf K H (.ref a) (.type "list")
  | tup {a:Addr}{xs:List V}(e:H a=some (.tup xs)):TyOf K H (.ref a) (.type "tuple")
  | dK {a:Addr}{kvs:List (Key×V)}(e:H a=some (.dK kvs)):TyOf K H (.ref a) (.type "dict")
  | dT {a:Addr}{kvs:List (List Key×V)}(e:H a=some (.dT kvs)):TyOf K H (.ref a) (.type "dict")
  | ins {a C dx:Addr}{fs:List (Str×V)}(e:H a=some (.ins C dx fs)) (cl:Cls K C) (ha:W.findIn K (.ref C) "__class__" = some (some (.builtin "object.__class__")))
      (hn:W.specialIn K (.builtin "object.__class__") "__get__" = some (some (.builtin "getset_descriptor.__get__"))) (htk:W.takesIn K (.builtin "object.__class__")=some true)
      (hm:W.mroIn K C (.type "object")=some true):TyOf K H (.ref a) (.ref C)
end
structure Room (k:Nat) (A:Around):Prop where
  hd:A.handled=none
  dp:A.depth+3 * k+5<recursionLimit
  un:A.units+16 * k+200<cLine
theorem Room.mono {j k:Nat}{A:Around}(r:Room k A) (h:j<=k):Room j A:=⟨r.hd,by have:=r.dp;omega,by have:=r.un;omega⟩
theorem Room.deeper {k:Nat}{A:Around}(r:Room (k+1) A) (env:Env):Room k (A.deeper env) :=
  ⟨r.hd,by have:=r.dp;show A.depth+1+3 * k+5<_;omega,by have:=r.un;show A.units+3+16 * k+200<_;omega⟩
theorem Room.in1 {k:Nat}{A:Around}(r:Room (k+1) A):Room k A.in1 :=
  ⟨r.hd,by have:=r.dp;show A.depth+3 * k+5<_;omega,by have:=r.un;show A.units+1+16 * k+200<_;omega⟩
theorem Room.depth {k:Nat}{A:Around}(r:Room k A):A.depth<recursionLimit:=by have:=r.dp;omega
theorem Room.units {k:Nat}{A:Around}(r:Room k A):A.units+64<cLine:=by have:=r.un;omega
def tNil:TA:=fun _ H Q=>Q [] H
def tCons (ta:TE) (tr:TA):TA:=fun σ H Q=>ta σ H fun x H1=>tr σ H1 fun xs H2=>Q (x::xs) H2
section
variable {X:Cx}{e:Expr}{es:List Expr}{te:TE}{t:TA}{pos:Pos}
theorem qhG:PA X [] tNil:=fun _ _ _ _ H Q I h=>Calls.spliced_nil ⟨[],H,I,.nil,h⟩
theorem qf2 (ha:PE X e te) (hr:PA X es t) (hs:starEach (e::es) X.env=(false,eval e X.env)::starEach es X.env:=by rfl):PA X (e::es) (tCons te t):=by
  intro pos pins s σ H Q I h
  rw [hs]
  show wpAny _ _ (spliced ((false,eval e X.env)::backTo pos (starEach es X.env))) _ _ s
  refine Calls.spliced_cons (thn (ha pins s σ H _ I h) fun u s1 ⟨x,H1,I1,r1,q1⟩=>?_)
  exact thn (hr pos pins s1 σ H1 _ I1 q1) fun us s2 ⟨xs,H2,I2,r2,q2⟩=>⟨x::xs,H2,I2,.cons r1 r2,q2⟩
def tTup (t:TA):TE:=fun σ H Q=>t σ H fun xs H1=>xs.length<=sizeLine/\∀ p,H1 p=none->Q (.ref p) (upd H1 p (.tup xs))
def tLst (t:TA):TE:=fun σ H Q=>t σ H fun xs H1=>xs.length<=sizeLine/\∀ p,H1 p=none->Q (.ref p) (upd H1 p (.lst xs))
theorem qhA {x1} (h:PA X es t):PE X (.Tuple es x1 pos) (tTup t):=by
  intro pins s σ H Q I hq
  refine wpAny_Tuple_spliced (thn (h pos pins s σ H _ I hq) fun us s1 ⟨xs,H1,I1,r,z,q⟩=>⟨by rw [<- r.length];exact z,?_⟩)
  have hf:H1 s1.heap.objs.size=none:=I1.hok.fresh (qk _)
  refine ⟨.ref s1.heap.objs.size,upd H1 s1.heap.objs.size (.tup xs),I1.laid (t':=s1.toks) (fun b u e=>qc _ e) (qk _) ?_,rfl,q _ hf⟩
  exact ⟨z,us,r,⟨_,qt _ rfl,rfl,_,rfl⟩⟩
theorem qeU (h:PA X es t):PE X (.List es pos) (tLst t):=by
  intro pins s σ H Q I hq
  refine wpAny_List_spliced (thn (h pos pins s σ H _ I hq) fun us s1 ⟨xs,H1,I1,r,z,q⟩=>⟨by rw [<- r.length];exact z,?_⟩)
  have hf:H1 s1.heap.objs.size=none:=I1.hok.fresh (qk _)
  refine ⟨.ref s1.heap.objs.size,upd H1 s1.heap.objs.size (.lst xs),I1.laid (t':=s1.toks) (fun b u e=>qc _ e) (qk _) ?_,rfl,q _ hf⟩
  exact ⟨z,us,0,r,qt _ rfl⟩
end
abbrev Sp:=List V->Hp->VK->XK->Prop
abbrev CXT:=List Env->Hp->Shared->XK->Value->Shared->Prop
structure Env0 (P:Program) (w:World) (K:W.Frag) (mg:Str->Option Value) (base:Heap) (A:Around) (outer:List Env) (s:Shared) (H:Hp):Prop where
  frames:A.frames=some outer
  mod:Mod K mg base
  bs:∀ b o,base.get? b=some o->s.heap.get? b=some o/\H b=none
  bsz:base.objs.size<=s.heap.objs.size
  funs:s.heap.FunFrames base outer
  frf:∀ b∈frs outer,H b=none
  hok:HOk P w H s.heap
  bare:AllBare s.gens
def CE (outer:List Env) (P:Program) (w:World) (H:Hp) (s:Shared) (Q:VK) (u:Value) (s':Shared):Prop :=
  ∃ v H',s'.os=s.os/\AllBare s'.gens/\Un (frs outer) [] H H' s.heap s'.heap/\HOk P w H' s'.heap/\jl v u/\Q v H'
def CR (CX:CXT) (outer:List Env) (P:Program) (w:World) (H:Hp) (s:Shared) (Q:VK) (E:XK) (r:Result) (s':Shared):Prop :=
  match r with
  | .ok (.ret u)=>CE outer P w H s Q u s'
  | .ok _=>False
  | .error e=>CX outer H s E e s'
structure FnOk (P:Program) (w:World) (K:W.Frag) (mg:Str->Option Value) (base:Heap) (CX:CXT) (k:Nat) (f:Addr) (fd:FuncData) (ps:List Str) (sp:Sp):Prop where
  len:∀ vs H Q E,sp vs H Q E->vs.length=ps.length
  run:∀ (A:Around) (outer:List Env) (s:Shared) (H:Hp) (args:Args) (us:List Value) (vs:List V) (Q:VK) (E:XK),Room k A->Env0 P w K mg base A outer s H->BindsTo s fd args (ps.zip us)->yo vs us->sp vs H Q E →
    codeAny (model P w) A (.call (.ref f) args) (CR CX outer P w H s Q E) s
theorem FnOk.mono {P:Program}{w:World}{K:W.Frag}{mg:Str->Option Value}{base:Heap}{CX:CXT}{j k:Nat}{f:Addr}{fd:FuncData}{ps:List Str}{sp:Sp}(F:FnOk P w K mg base CX j f fd ps sp) (h:j<=k) :
    FnOk P w K mg base CX k f fd ps sp:=⟨F.len,fun A outer s H args us vs Q E hr=>F.run A outer s H args us vs Q E (hr.mono h)⟩
theorem FnOk.imp {P:Program}{w:World}{K:W.Frag}{mg:Str->Option Value}{base:Heap}{CX:CXT}{k:Nat}{f:Addr}{fd:FuncData}{ps:List Str}{sp sp':Sp}(F:FnOk P w K mg base CX k f fd ps sp)
    (h:∀ vs H Q E,sp' vs H Q E->sp vs H Q E):FnOk P w K mg base CX k f fd ps sp' :=
  ⟨fun vs H Q E q=>F.len vs H Q E (h _ _ _ _ q),fun A outer s H args us vs Q E hr he hb hv hs=>F.run A outer s H args us vs Q E hr he hb hv (h _ _ _ _ hs)⟩
theorem Env0.in1 {P:Program}{w:World}{K:W.Frag}{mg:Str->Option Value}{base:Heap}{A:Around}{outer:List Env}{s:Shared}{H:Hp}(e:Env0 P w K mg base A outer s H) :
    Env0 P w K mg base A.in1 outer s H:=⟨e.frames,e.mod,e.bs,e.bsz,e.funs,e.frf,e.hok,e.bare⟩
section
variable {X:Cx}{pins:List (Addr×Obj)}{σ:St}{H:Hp}{s s':Shared}
theorem Inv.env0 (I:Inv X pins σ H s):Env0 X.prog X.w X.K X.mg X.base X.A X.stack s H :=
  ⟨I.ok.frames,I.ok.mod,I.bs,qz I.ok.bsz I.sz,I.stack,I.stkFree,I.hok,I.bare⟩
theorem Inv.after {Q:VK}{u:Value}(I:Inv X pins σ H s) (h:CE X.stack X.prog X.w H s Q u s'):EP X pins σ Q u s':=by
  obtain ⟨v,H',os,bare,un,hok,r,q⟩:=h
  obtain ⟨hh,g,d,t,os'⟩:=s'
  obtain rfl:os'=s.os:=os
  exact ⟨v,H',I.call (h':=hh) (g':=g) (d':=d) (t':=t) (ch:=[]) un hok bare (fun b z=>absurd z (by simp)),r,q⟩
end
def qg3 (sp:Sp) (dvs:List V) (E:XK) (t:TA):TE:=fun σ H Q=>t σ H fun vs H1=>sp (vs++dvs) H1 Q E
def Z2 (K:W.Frag) (fd:FuncData) (ps:List Str) (ds:List Value):Prop :=
  ∀ (s:Shared) (us:List Value),K.In s.heap->(us++ds).length=ps.length->BindsTo s fd ⟨us,[]⟩ (ps.zip (us++ds))
theorem Z2.all {K:W.Frag}{fd:FuncData}{ps:List Str}(h:∀ us:List Value,us.length=ps.length->bindArgs fd ⟨us,[]⟩=pure (ps.zip us)):Z2 K fd ps []:=fun s us _ hl=>by
  rw [List.append_nil] at hl ⊢
  exact .of_eq (h us hl)
def qc5 (CX:CXT) (X:Cx) (E:XK):Prop:=∀ (pins:List (Addr×Obj)) (σ:St) (H:Hp) (s:Shared) (e:Value) (s':Shared),Inv X pins σ H s->CX X.stack H s E e s'->X.xe e s'
section
variable {X:Cx}{CX:CXT}{k:Nat}{f C:Addr}{fd:FuncData}{ps:List Str}{sp:Sp}{dvs:List V}{ds:List Value}{E:XK}{x m:Str}{p pos apos:Pos}{e o:Expr}{es:List Expr}{ta:TE}{t:TA}
theorem qhc {pins:List (Addr×Obj)}{σ:St}{H:Hp}{s:Shared}{Q:VK}{us:List Value}{vs:List V}(F:FnOk X.prog X.w X.K X.mg X.base CX k f fd ps sp) (hr:Room k X.A) (hb:Z2 X.K fd ps ds) (hd:yo dvs ds) (hx:qc5 CX X E)
    (I:Inv X pins σ H s) (r:yo vs us) (h:sp (vs++dvs) H Q E):wpAny (model X.prog X.w) X.A (call (.ref f) us) (EP X pins σ Q) X.xe s:=by
  have r2:yo (vs++dvs) (us++ds):=r.append hd
  have hl:(us++ds).length=ps.length:=by rw [<- r2.length];exact F.len _ _ _ _ h
  refine wpAny_call (codeAny_mono (F.run X.A X.stack s H ⟨us,[]⟩ (us++ds) (vs++dvs) Q E hr I.env0 (hb s us I.kIn hl) r2 h) fun r s' hq=>?_)
  cases r with
  | error e=>exact hx pins σ H s e s' I hq
  | ok fl =>
    cases fl with
    | ret u=>exact I.after hq
    | next=>exact False.elim hq
    | brk=>exact False.elim hq
    | cont=>exact False.elim hq
theorem qfZ (F:FnOk X.prog X.w X.K X.mg X.base CX k f fd ps sp) (hr:Room k X.A) (hg:Gl X x) (hm:X.mg x=some (.ref f)) (hk:W.keepIn X.K (.ref f)=true) (hb:Z2 X.K fd ps ds) (hd:yo dvs ds) (hx:qc5 CX X E)
    (ha:PA X (e::es) t) (hdb:(x == ("__debug__" : Str))=false:=by decide) (he:starEach (e::es) X.env=(false,eval e X.env)::starEach es X.env:=by rfl) (hpl:(backTo pos (starEach es X.env)).any (·.1)=false:=by rfl) :
    PE X (.Call (.Name x p) (e::es) [] pos) (qg3 sp dvs E t):=by
  intro pins s σ H Q I h
  refine wpAny_Call_Name_kw (qgg I hg hm ?_ hdb)
  refine W.callWith_K (h₀:=X.base) I.ok.mod.kin hk (thn (ha pos pins s σ H _ I h) fun us s1 ⟨vs,H1,I1,r,q⟩=>⟨I1.kIn,?_⟩) he hpl
  exact qhc F hr hb hd hx I1 r q
structure Mk (K:W.Frag) (C f:Addr):Prop where
  makes:W.makesIn K C=true
  init:W.findIn K (.ref C) "__init__" = some (some (.ref f))
  fn:W.isFn K (.ref f)=true
  kp:W.keepIn K (.ref C)=true
end
section
variable {X:Cx}{CX:CXT}{k:Nat}{f C:Addr}{fd:FuncData}{ps ks:List Str}{sp:Sp}{E:XK}{x m:Str}{p pos apos kpos:Pos}{e o:Expr}{es:List Expr}{kws:List Keyword}{te ta:TE}{t tk:TA}{nm:Option Str}
structure KBinds (K:W.Frag) (fd:FuncData) (ps ks:List Str) (g:List Value->List Value->List Value) (gV:List V->List V->List V):Prop where
  to:∀ (s:Shared) (us ws:List Value),K.In s.heap->(g us ws).length=ps.length->BindsTo s fd ⟨us,ks.zip ws⟩ (ps.zip (g us ws))
  rel:∀ {vs:List V}{us:List Value}{zs:List V}{ws:List Value},yo vs us->yo zs ws->yo (gV vs zs) (g us ws)
variable {g:List Value->List Value->List Value}{gV:List V->List V->List V}
end
structure FnScope (N P:List Str) (sc:Scope):Prop where
  kind:sc.kind = .function
  co:sc.isCoroutine=false
  gen:sc.isGenerator=false
  nd:N.Nodup
  pre:N.take P.length=P
  par:∀ x∈P,sc.names.lookup x=some .local\/sc.names.lookup x=some .cell
  nofree:∀ y∈sc.names,y.2≠.free
theorem Zs {kindOf:Str->Option NameKind}{x:Str}:∀ {binds:List (Str×Value)}{m:Str->Option Value},(∀ v,(x,v)∉binds)->bindL kindOf binds m x=m x
  | [],_,_=>rfl
  | (n,v)::r,m,h=>by
    unfold bindL
    rw [Zs fun w hw=>h w (qi _ hw)]
    split
    · have:x≠n:=by rintro rfl;exact h v qm
      simp [this]
    · rfl
theorem Zu {kindOf:Str->Option NameKind}{x:Str}:∀ {binds:List (Str×Value)}{m:Str->Option Value},(∀ v,(x,v)∉binds)->bindC kindOf binds m x=m x
  | [],_,_=>rfl
  | (n,v)::r,m,h=>by
    unfold bindC
    rw [Zu fun w hw=>h w (qi _ hw)]
    split
    · rfl
    · have:x≠n:=by rintro rfl;exact h v qm
      simp [this]
theorem Zt {kindOf:Str->Option NameKind}{x:Str}{v:Value}:∀ {P:List Str}{vs:List Value}{i:Nat}{m:Str->Option Value},P.Nodup->P[i]?=some x->vs[i]?=some v->kindOf x=some .local →
    bindL kindOf (P.zip vs) m x=some v
  | [],_,_,_,_,h,_,_=>by simp at h
  | _::_,[],_,_,_,_,h,_=>by simp at h
  | p::P,w::vs,0,m,nd,h1,h2,hk=>by
    simp at h1 h2;subst h1;subst h2
    show bindL kindOf ((p,w)::P.zip vs) m p=_
    unfold bindL
    rw [Zs fun v hv=>(List.nodup_cons.mp nd).1 (List.of_mem_zip hv).1,if_pos hk]
    simp
  | p::P,w::vs,i+1,m,nd,h1,h2,hk=>by
    show bindL kindOf ((p,w)::P.zip vs) m x=_
    unfold bindL
    exact Zt (i:=i) (List.nodup_cons.mp nd).2 (by simpa using h1) (by simpa using h2) hk
theorem Zv {kindOf:Str->Option NameKind}{x:Str}{v:Value}:∀ {P:List Str}{vs:List Value}{i:Nat}{m:Str->Option Value},P.Nodup->P[i]?=some x->vs[i]?=some v->kindOf x≠some .local →
    bindC kindOf (P.zip vs) m x=some v
  | [],_,_,_,_,h,_,_=>by simp at h
  | _::_,[],_,_,_,_,h,_=>by simp at h
  | p::P,w::vs,0,m,nd,h1,h2,hk=>by
    simp at h1 h2;subst h1;subst h2
    show bindC kindOf ((p,w)::P.zip vs) m p=_
    unfold bindC
    rw [Zu fun v hv=>(List.nodup_cons.mp nd).1 (List.of_mem_zip hv).1,if_neg hk]
    simp
  | p::P,w::vs,i+1,m,nd,h1,h2,hk=>by
    show bindC kindOf ((p,w)::P.zip vs) m x=_
    unfold bindC
    exact Zv (i:=i) (List.nodup_cons.mp nd).2 (by simpa using h1) (by simpa using h2) hk
def Yq (N:List Str) (vs:List V):St:=vs.map some++List.replicate (N.length - vs.length) none
def qc9 (CX:CXT) (P:Program) (w:World) (K:W.Frag) (mg:Str->Option Value) (base:Heap) (N:List Str) (qual:Str) (scope:Scope) (f:Addr) (cd:Value) (A:Around) (outer:List Env) (s:Shared) (H:Hp) (E:XK):Cx where
  prog:=P
  w:=w
  K:=K
  mg:=mg
  base:=base
  A:=A.deeper (envOfC qual scope s.heap.objs.size f cd)
  N:=N
  s₀:=s
  H₀:=H
  env:=envOfC qual scope s.heap.objs.size f cd
  outer:=outer
  stack:=envOfC qual scope s.heap.objs.size f cd::outer
  ex:=[]
  calm:=true
  fn:=fun _=>true
  pn:=[]
  xe:=fun e s'=>wpAny (model P w) (A.deeper (envOfC qual scope s.heap.objs.size f cd)) (leaving (envOfC qual scope s.heap.objs.size f cd) e) (fun _ s''=>CX outer H s E e s'') (fun e' s''=>CX outer H s E e' s'') s'
theorem qaA {sc:Scope}{n:Nat}{x:Str}(h:sc.names.lookup x=some .cell):∃ c,(cellsFrom n sc.names []).lookup x=some c:=by
  have q:=W.cellsFrom_some sc.names n [] (.inl h)
  exact Option.isSome_iff_exists.mp q
theorem qcl {CX:CXT}{P:Program}{w:World}{K:W.Frag}{mg:Str->Option Value}{base:Heap}{N ps:List Str}{qual:Str}{scope:Scope}{f:Addr}{cd:Value}{A:Around}{outer:List Env}{s s1:Shared}{H:Hp}{E:XK}{us:List Value}{vs:List V}
    (S:FnScope N ps scope) (hd:A.handled=none) (e0:Env0 P w K mg base A outer s H) (hl:vs.length=ps.length) (r:yo vs us)
    (x:InCallC s s.heap.objs.size (bindL (envOfC qual scope s.heap.objs.size f cd).kindOf (ps.zip us) fun _=>none) (cellsFrom (s.heap.objs.size+1) scope.names []) (bindC (envOfC qual scope s.heap.objs.size f cd).kindOf (ps.zip us) fun _=>none) s1) :
    Inv (qc9 CX P w K mg base N qual scope f cd A outer s H E) [] (Yq N vs) H s1:=by
  have hpl:ps.length<=N.length:=by have:=congrArg List.length S.pre;rw [qU] at this;omega
  obtain ⟨h1,tk,rfl,hk⟩:=x.done
  have noA:∀ b:Addr,b∉(qc9 CX P w K mg base N qual scope f cd A outer s H E).ex:=fun b z=>absurd (show b∈([]:List Addr) from z) (by simp)
  refine ⟨⟨e0.mod,S.kind,rfl,rfl,qk _,fun y z c h1 h2=>?_,fun y hy=>?_,fun y c _ h=>?_,fun _=>hd,Around.frames_deeper e0.frames,.inr ⟨rfl,rfl⟩,fun b z=>absurd z (noA b),e0.bs,e0.bsz,fun b _ _=>noA b,fun b z=>absurd z (noA b),e0.funs,e0.frf⟩,
    rfl,e0.bare,Un.kept hk,⟨_,x.toInCall.ns,fun i y v h1 h2 h3=>?_⟩,fun y c h=>⟨_,x.cell y c h⟩,e0.hok.fresh (qk _),fun y c h=>?_,fun p hp=>absurd (show p∈([]:List (Addr×Obj)) from hp) (by simp),e0.hok.kept hk,?_⟩
  · exact name_of_addr x.apart (PySem.mem_of_lookup h1) (PySem.mem_of_lookup h2)
  · have hy:scope.names.lookup y=some .cell\/scope.names.lookup y=some .free:=hy
    rcases hy with hy | hy
    · exact qaA hy
    · exact absurd rfl (S.nofree _ (PySem.mem_of_lookup hy))
  · exact yp (x.above y c (PySem.mem_of_lookup h))
  · have hi:i<vs.length:=by
      unfold Yq at h2
      by_cases hi:i<vs.length
      · exact hi
      · rw [qM (by simpa using hi)] at h2
        rw [List.getElem?_replicate] at h2
        split at h2 <;> cases h2
    have ha:vs[i]?=some v:=by
      unfold Yq at h2
      rw [qP (by simpa using hi),List.getElem?_map] at h2
      cases e:vs[i]? with
      | none=>rw [e] at h2;cases h2
      | some a=>rw [e] at h2;cases h2;rfl
    obtain ⟨u,hu,rv⟩:=r.get ha
    have hp:ps[i]?=some y:=by
      rw [<- S.pre,List.getElem?_take_of_lt (by omega)];exact h1
    have ndP:ps.Nodup:=by rw [<- S.pre];exact S.nd.sublist (List.take_sublist _ _)
    refine ⟨u,rv,?_⟩
    rcases S.par y (List.mem_of_getElem? hp) with k | k
    · exact .inl ⟨k,Zt ndP hp hu k⟩
    · obtain ⟨c,e⟩:=qaA (n:=s.heap.objs.size+1) k
      refine .inr ⟨.inl k,c,e,?_⟩
      have q:=x.cell y c e
      rw [Zv ndP hp hu (by show scope.names.lookup y≠_;rw [k];decide)] at q
      exact q
  · exact e0.hok.fresh (yp (x.above y c (PySem.mem_of_lookup h)))
  · unfold Yq
    show _=N.length
    rw [List.length_append,List.length_map,List.length_replicate]
    omega
theorem qih {CX:CXT}{P:Program}{w:World}{K:W.Frag}{mg:Str->Option Value}{base:Heap}{k:Nat}{f:Addr}{name qual:Str}{params:Arguments}{body:List Stmt}{scope:Scope}{dV kV doc pm cdv ct oc:Value}{an od:Option Addr}
    {osl:Array (Option Value)}{N ps:List Str}{sp:Sp}(lk:K.lookup f=some ⟨oc,od,.func (W.fnOf name qual params body scope dV kV doc pm an cdv ct),osl⟩) (hcd:W.codeIn K cdv qual=true) (S:FnScope N ps scope)
    (len:∀ vs H Q E,sp vs H Q E->vs.length=ps.length)
    (hbody:∀ (A:Around) (outer:List Env) (s:Shared) (H:Hp) (vs:List V) (Q:VK) (E:XK),Room k (A.deeper (envOfC qual scope s.heap.objs.size f cdv))->sp vs H Q E →
      ∃ t,PSs (qc9 CX P w K mg base N qual scope f cdv A outer s H E) body t/\t { nx:=fun _ H'=>Q .non H',rt:=Q } (Yq N vs) H) :
    FnOk P w K mg base CX (k+1) f (W.fnOf name qual params body scope dV kV doc pm an cdv ct) ps sp:=by
  refine ⟨len,fun A outer s H args us vs Q E hr e0 hb r hsp=>?_⟩
  have hl:=len _ _ _ _ hsp
  have KX:K.In s.heap:=e0.mod.kin.keeps fun b o e=>(e0.bs b o e).1
  have lim:s.heap.NoLimit:=e0.mod.nolimit.keeps fun b o e=>(e0.bs b o e).1
  have hkind:∀ y∈ps.zip us,scope.names.lookup y.1=some .local\/(scope.names.lookup y.1=some .cell/\((cellsFrom (s.heap.objs.size+1) scope.names []).lookup y.1).isSome=true):=fun ⟨n,v⟩ hy=>by
    rcases S.par n (List.of_mem_zip hy).1 with q | q
    · exact .inl q
    · exact .inr ⟨q,W.cellsFrom_some _ _ _ (.inl q)⟩
  refine codeAny_call_function hr.depth (KX _ _ lk) rfl S.co S.gen rfl (W.codeRec_of KX hcd) (hb _ _ _ _ ?_)
  refine wpAny_newFunctionEnv_cells S.kind hkind fun env he s1 x=>?_
  subst he
  refine ⟨lim.keeps x.toInCall.keep,codeAny_func ?_⟩
  obtain ⟨t,ht,hq⟩:=hbody A outer s H vs Q E (hr.deeper _) hsp
  have I:Inv (qc9 CX P w K mg base N qual scope f cdv A outer s H E) [] (Yq N vs) H s1:=qcl S hr.hd e0 hl r x
  refine yD (ht [] s1 (Yq N vs) H _ I hq) (fun fl s' hs=>?_) fun e s' hs=>hs
  have fin:∀ {σ':St}{H':Hp}{v:V}{u:Value},Inv (qc9 CX P w K mg base N qual scope f cdv A outer s H E) [] σ' H' s'->jl v u->Q v H'->CE outer P w H s Q u s' :=
    fun {σ' H' v u} J rv q=>⟨v,H',J.os,J.bare,J.base,J.hok,rv,q⟩
  cases fl with
  | ret u =>
    obtain ⟨v,σ',H',J,rv,q⟩:=hs
    exact fin J rv q
  | next =>
    obtain ⟨σ',H',J,q⟩:=hs
    exact fin (v:=V.non) (u:=Value.none) J rfl q
  | brk =>
    obtain ⟨_,_,_,q⟩:=hs
    exact False.elim q
  | cont =>
    obtain ⟨_,_,_,q⟩:=hs
    exact False.elim q
section
variable {X:Cx}{x:Str}{p pos:Pos}{e:Expr}{es:List Expr}{t:TA}{id T:String}{r:List V->Hp->VK->Prop}
def tCB (r:List V->Hp->VK->Prop) (t:TA):TE:=fun σ H Q=>t σ H fun vs H1=>r vs H1 Q
theorem qdG (hc:yA X (.builtin id) r) (hg:Gl X x) (hm:X.mg x=none) (hv:bootBuiltins x=some (.builtin id)) (ha:PA X (e::es) t) (hn:x ≠ "__name__" := by decide) (hdb:(x == ("__debug__" : Str))=false:=by decide)
    (he:starEach (e::es) X.env=(false,eval e X.env)::starEach es X.env:=by rfl) (hpl:(backTo pos (starEach es X.env)).any (·.1)=false:=by rfl):PE X (.Call (.Name x p) (e::es) [] pos) (tCB r t):=by
  intro pins s σ H Q I h
  refine wpAny_Call_Name_kw (Yj I hg hm hv ?_ hn hdb)
  exact PyProof.Rows.callWith_builtin1 (thn (ha pos pins s σ H _ I h) fun us s1 ⟨vs,H1,I1,r1,q1⟩=>hc pins s1 σ H1 vs us Q I1 r1 q1) he hpl
theorem qbW (hc:yA X (.type T) r) (hg:Gl X x) (hm:X.mg x=none) (hv:bootBuiltins x=some (.type T)) (ha:PA X (e::es) t) (hn:x ≠ "__name__" := by decide) (hdb:(x == ("__debug__" : Str))=false:=by decide)
    (he:starEach (e::es) X.env=(false,eval e X.env)::starEach es X.env:=by rfl) (hpl:(backTo pos (starEach es X.env)).any (·.1)=false:=by rfl):PE X (.Call (.Name x p) (e::es) [] pos) (tCB r t):=by
  intro pins s σ H Q I h
  refine wpAny_Call_Name_kw (Yj I hg hm hv ?_ hn hdb)
  exact PyProof.Rows.callWith_type1 (thn (ha pos pins s σ H _ I h) fun us s1 ⟨vs,H1,I1,r1,q1⟩=>hc pins s1 σ H1 vs us Q I1 r1 q1) he hpl
end
end L2
namespace HT
open PySem PyProof.Rows
section
open PySem.SeqAt
open PySem.AutoSeq1 (wpAny_loadPart')
open PySem.MeetsSeq PySem.MeetsSeq2 PySem.MeetsSeq3
end
section
variable {prog:Program}{w:World}{A:Around}{E:Value->Shared->Prop}{s:Shared}
def sIx (n d:Nat):Option Int->Nat
  | none=>d
  | some v=>if v<0 then (v+(n:Int)).toNat else min v.toNat n
theorem sIx_none (n d:Nat):sIx n d none=d:=rfl
theorem sIx_nat (n d k:Nat):sIx n d (some (k:Int))=min k n:=by
  show (if (k:Int)<0 then ((k:Int)+(n:Int)).toNat else min (k:Int).toNat n)=min k n
  rw [if_neg (by omega),Int.toNat_natCast]
end
end HT
namespace L2
open PySem PySem.Spec PyProof.Rows
abbrev TO:=St->Hp->(Option Int->Hp->Prop)->Prop
def PO (X:Cx) (e:Option Expr) (t:TO):Prop :=
  ∀ (pins:List (Addr×Obj)) (s:Shared) (σ:St) (H:Hp) (Q:Option Int->Hp->Prop),Inv X pins σ H s->t σ H Q →
    wpAny (model X.prog X.w) X.A (evalPart e X.env) (fun u s'=>∃ o H',Inv X pins σ H' s'/\IsPart u o/\Q o H') X.xe s
def qft:TO:=fun _ H Q=>Q none H
def tPart (t:TE):TO:=fun σ H Q=>t σ H fun x H1=>∃ i,x = .int i/\Q (some i) H1
theorem qaS {ns:List Int}:∀ {us:List Value},yo (ns.map V.int) us->IntsAre us ns:=by
  induction ns with
  | nil=>intro us r;rw [List.map_nil] at r;cases r;exact .nil
  | cons n ns ih =>
    intro us r
    rw [List.map_cons] at r
    cases r with
    | cons r1 r2 =>
      obtain ⟨t,e⟩:=r1
      subst e
      exact .cons n t (ih r2)
section
variable {X:Cx}{e:Expr}{te:TE}{lo hi:Option Expr}{tl th:TO}{pos p2:Pos}
theorem qfQ:PO X none qft:=by
  intro pins s σ H Q I h
  rw [evalPart_none]
  exact qd ⟨none,H,I,.none,h⟩
theorem qfP (h:PE X e te):PO X (some e) (tPart te):=by
  intro pins s σ H Q I hw
  rw [evalPart_some]
  refine thn (h pins s σ H _ I hw) fun u s1 hq9=>?_
  obtain ⟨x,H1,I1,r1,q1⟩:=hq9
  obtain ⟨i,rfl,q⟩:=q1
  obtain ⟨t,rfl⟩:=r1
  exact ⟨some i,H1,I1,.int i t,q⟩
def SlR (X:Cx) (r:V->Option Int->Option Int->Hp->VK->Prop):Prop :=
  ∀ (pins:List (Addr×Obj)) (s:Shared) (σ:St) (H:Hp) (x:V) (v vl vu:Value) (lo hi:Option Int) (sl:Addr) (Q:VK),Inv X pins σ H s->jl x v->s.heap.IsSliceOf sl vl vu .none->IsPart vl lo->IsPart vu hi->r x lo hi H Q →
    ∃ T id,typeLookup (.type T) "__getitem__" = pure (some (.builtin id))/\s.TypeIs v T/\wpAny (model X.prog X.w) X.A (getItem v (.ref sl)) (EP X pins σ Q) X.xe s
theorem SlR.or {r r':V->Option Int->Option Int->Hp->VK->Prop}(h:SlR X r) (h':SlR X r'):SlR X (fun x lo hi H Q=>r x lo hi H Q\/r' x lo hi H Q):=by
  intro pins s σ H x v vl vu lo hi sl Q I rx hs pl pu q
  rcases q with q | q
  · exact h pins s σ H x v vl vu lo hi sl Q I rx hs pl pu q
  · exact h' pins s σ H x v vl vu lo hi sl Q I rx hs pl pu q
def tSl (r:V->Option Int->Option Int->Hp->VK->Prop) (te:TE) (tl th:TO):TE:=fun σ H Q=>te σ H fun x H1=>tl σ H1 fun l H2=>th σ H2 fun u H3=>r x l u H3 Q
theorem qdE {r:V->Option Int->Option Int->Hp->VK->Prop}(hr:SlR X r) (he:PE X e te) (hl:PO X lo tl) (hu:PO X hi th):PE X (.Subscript e (.Slice lo hi none p2) pos) (tSl r te tl th):=by
  intro pins s σ H Q I h
  refine Subscript_ (thn (he pins s σ H _ I h) fun v s1 ⟨x,H1,I1,r1,q1⟩=>?_)
  refine wpAny_Slice (thn (hl pins s1 σ H1 _ I1 q1) fun vl s2 ⟨l,H2,I2,pl,q2⟩=>thn (hu pins s2 σ H2 _ I2 q2) fun vu s3 ⟨u,H3,I3,pu,q3⟩=>?_)
  rw [evalPart_none]
  refine qd ?_
  have I4:Inv X pins σ H3 { s3 with heap:=s3.heap.push { cls:=.type "slice",data:=.fields #[vl,vu,.none] } }:=I3.kept (t':=s3.toks) fun b ob q=>qc _ q
  obtain ⟨T,id,hT,ht,hg⟩:=hr pins { s3 with heap:=s3.heap.push { cls:=.type "slice",data:=.fields #[vl,vu,.none] } } σ H3 x v vl vu l u s3.heap.objs.size Q I4 r1 (Heap.IsSliceOf.new ..) pl pu q3
  show wpAny (model X.prog X.w) X.A (subscriptTail e (.Slice lo hi none p2) v (.ref s3.heap.objs.size)) (EP X pins σ Q) X.xe { s3 with heap:=s3.heap.push { cls:=.type "slice",data:=.fields #[vl,vu,.none] } }
  exact tail_any (ops:=[.ref s3.heap.objs.size,v]) ht hT hg (by with_unfolding_all rfl)
def qgF (xs:List V) (lo hi:Option Int):List V:=(xs.drop (HT.sIx xs.length 0 lo)).take (HT.sIx xs.length xs.length hi - HT.sIx xs.length 0 lo)
theorem ZV (xs:List V) (lo hi:Option Int):(qgF xs lo hi).length<=xs.length:=by
  unfold qgF
  rw [qU,yd]
  omega
end
def ixN (n:Nat) (i:Int):Option Nat:=if 0<=i then (if i<n then some i.toNat else none) else if -(n:Int)<=i then some (i+n).toNat else none
def atI {α:Type}(xs:List α) (i:Int):Option α:=(ixN xs.length i).bind fun j=>xs[j]?
theorem qcj {n:Nat}{i:Int}{j:Nat}(h:ixN n i=some j):seqIndex? i n=some j/\j<n/\-(n:Int)<=i/\i<n:=by
  unfold ixN at h
  by_cases h0:0<=i
  · rw [if_pos h0] at h
    by_cases h1:i<n
    · rw [if_pos h1] at h
      have e:i.toNat=j:=Option.some.inj h
      exact ⟨by rw [seqIndex_of h0 h1,e],by omega,by omega,h1⟩
    · rw [if_neg h1] at h;cases h
  · rw [if_neg h0] at h
    by_cases h1:-(n:Int)<=i
    · rw [if_pos h1] at h
      have e:(i+n).toNat=j:=Option.some.inj h
      exact ⟨by rw [seqIndex_neg (by omega) h1,e],by omega,h1,by omega⟩
    · rw [if_neg h1] at h;cases h
theorem qc0 {α:Type}{xs:List α}{i:Int}{v:α}(h:atI xs i=some v):∃ j,seqIndex? i xs.length=some j/\xs[j]?=some v/\j<xs.length/\-(xs.length:Int)<=i/\i<xs.length:=by
  unfold atI at h
  cases e:ixN xs.length i with
  | none=>rw [e] at h;cases h
  | some j =>
    rw [e] at h
    obtain ⟨h1,h2,h3,h4⟩:=qcj e
    exact ⟨j,h1,h,h2,h3,h4⟩
theorem YO {α:Type}{xs:List α}{j:Nat}{v:α}(h:xs[j]?=some v):atI xs (j:Int)=some v:=by
  have hj:j<xs.length:=(qo.mp h).1
  have e:ixN xs.length (j:Int)=some j:=by
    unfold ixN
    rw [if_pos (by omega),if_pos (by omega)];simp
  unfold atI;rw [e];exact h
theorem qaB {α:Type}(xs:List α) (v:α):atI (xs++[v]) (-1)=some v:=by
  have hl:(xs++[v]).length=xs.length+1:=by simp
  have e:ixN (xs++[v]).length (-1)=some xs.length:=by
    unfold ixN
    rw [hl,if_neg (by decide),if_pos (by omega)]
    congr 1
    omega
  unfold atI
  rw [e]
  show (xs++[v])[xs.length]?=some v
  simp
def qc4 (b:Expr):Prop:=∀ o i,subscripted b false o i=operate [o,i] (getItem o i)
def IxR (X:Cx) (r:R2):Prop :=
  ∀ (value slice:Expr) (pins:List (Addr×Obj)) (s:Shared) (σ:St) (H:Hp) (x y:V) (v u:Value) (Q:VK),Inv X pins σ H s->jl x v->jl y u->r x y H Q →
    subscripted slice false v u=operate [v,u] (getItem v u)->wpAny (model X.prog X.w) X.A (subscriptTail value slice v u) (EP X pins σ Q) X.xe s
def MtR (X:Cx) (id:String) (r:V->List V->Hp->VK->Prop):Prop :=
  ∀ (pins:List (Addr×Obj)) (s:Shared) (σ:St) (H:Hp) (x:V) (xs:List V) (v:Value) (us:List Value) (Q:VK),Inv X pins σ H s->jl x v->yo xs us->r x xs H Q →
    wpAny (model X.prog X.w) X.A (call (.builtin id) (v::us)) (EP X pins σ Q) X.xe s
section
variable {X:Cx}{a b:Expr}{ta tb:TE}{pos:Pos}
theorem IxR.or {r r':R2}(h:IxR X r) (h':IxR X r'):IxR X (fun x y H Q=>r x y H Q\/r' x y H Q):=by
  intro value slice pins s σ H x y v u Q I rx ry q hs
  rcases q with q | q
  · exact h value slice pins s σ H x y v u Q I rx ry q hs
  · exact h' value slice pins s σ H x y v u Q I rx ry q hs
theorem MtR.or {id:String}{r r':V->List V->Hp->VK->Prop}(h:MtR X id r) (h':MtR X id r'):MtR X id (fun x xs H Q=>r x xs H Q\/r' x xs H Q):=by
  intro pins s σ H x xs v us Q I rx rs q
  rcases q with q | q
  · exact h pins s σ H x xs v us Q I rx rs q
  · exact h' pins s σ H x xs v us Q I rx rs q
theorem ZJ {r:R2}(hr:IxR X r) (ha:PE X a ta) (hb:PE X b tb) (hs:qc4 b):PE X (.Subscript a b pos) (tOp r ta tb):=by
  intro pins s σ H Q I h
  exact Subscript_ (binT ha hb I h fun v u s2 x y H2 I2 rx ry q=>hr a b pins s2 σ H2 x y v u Q I2 rx ry q (hs _ _))
def rIxL (K:W.Frag):R2:=fun x y H Q=>∃ p xs i v,x = .ref p/\y = .int i/\SqL K H p xs/\atI xs i=some v/\Q v H
def rIxT (K:W.Frag):R2:=fun x y H Q=>∃ p xs i v,x = .ref p/\y = .int i/\SqT K H p xs/\atI xs i=some v/\Q v H
theorem j5:IxR X (rIxL X.K):=by
  intro value slice pins s σ H x y v u Q I rx ry h hs
  obtain ⟨p,xs,i,z,rfl,rfl,hq,he,q⟩:=h
  cases rx
  obtain ⟨t,rfl⟩:=ry
  obtain ⟨its,r,pl,hz⟩:=I.list hq
  obtain ⟨j,h1,h2,h3,h4,h5⟩:=qc0 he
  obtain ⟨w,ew,rw'⟩:=r.get h2
  have hl:=r.length
  have hn:=qas
  have fin:EP X pins σ Q w s:=⟨z,H,I,rw',q⟩
  by_cases h0:0<=i
  · have hj:i.toNat=j:=by
      rw [seqIndex_of h0 h5] at h1
      exact Option.some.inj h1
    exact item_listR pl.isList h0 (by omega) (by rw [hj];simpa using ew) fin hs
  · have hj:(i+(its.toArray.size:Int)).toNat=j:=by
      rw [seqIndex_neg (by omega) h4] at h1
      rw [List.size_toArray,<- hl]
      exact Option.some.inj h1
    exact subscriptTail_builtinR (x:=w) pl.isList.typeIs slot_list_getitem.lookup
      (wpAny_getItem_list_neg (Q:=fun r s'=>r=w/\EP X pins σ Q r s') pl.isList (by omega) (by rw [List.size_toArray] <;> omega) (by omega) (by rw [hj];simpa using ew) ⟨rfl,fin⟩) hs
theorem qia:IxR X (rIxT X.K):=by
  intro value slice pins s σ H x y v u Q I rx ry h hs
  obtain ⟨p,xs,i,z,rfl,rfl,hq,he,q⟩:=h
  cases rx
  obtain ⟨t,rfl⟩:=ry
  obtain ⟨its,r,pl,hz⟩:=I.tuple hq
  obtain ⟨j,h1,h2,h3,h4,h5⟩:=qc0 he
  obtain ⟨w,ew,rw'⟩:=r.get h2
  have hl:=r.length
  have hn:=qas
  have fin:EP X pins σ Q w s:=⟨z,H,I,rw',q⟩
  exact subscriptTail_builtinR (x:=w) pl.typeIs slot_tuple_getitem.lookup
    (getItem_tuple (j:=j) (Q:=fun r s'=>r=w/\EP X pins σ Q r s') pl (by omega) (by omega) (by rw [List.size_toArray,<- hl];exact h1) (by simpa using ew) ⟨rfl,fin⟩) hs
theorem qaQ (its:List Value) (n j:Nat) (u:Value):Obj.mapSeq (·.setIfInBounds j u) { cls:=.type "list",data:=.seq its.toArray n }={ cls:=.type "list",data:=.seq (its.set j u).toArray n }:=by
  simp [Obj.mapSeq]
theorem Inv.lst {pins:List (Addr×Obj)}{σ:St}{H:Hp}{s:Shared}{p:Addr}{xs:List V}(I:Inv X pins σ H s) (h:H p=some (.lst xs)) :
    ∃ (its:List Value) (n:Nat),yo xs its/\s.heap.get? p=some { cls:=.type "list",data:=.seq its.toArray n }/\xs.length<=sizeLine:=by
  obtain ⟨z,its,n,r,e⟩:=I.hok p _ h
  exact ⟨its,n,r,e,z⟩
theorem Inv.lstUpd {pins:List (Addr×Obj)}{σ:St}{H:Hp}{s:Shared}{p:Addr}{xs ys:List V}{its its':List Value}{n n':Nat}{f:Obj->Obj}(I:Inv X pins σ H s) (h:H p=some (.lst xs))
    (ho:s.heap.get? p=some { cls:=.type "list",data:=.seq its.toArray n }) (hf:f { cls:=.type "list",data:=.seq its.toArray n }={ cls:=.type "list",data:=.seq its'.toArray n' }) (r:yo ys its') (hz:ys.length<=sizeLine) (t:Nat) :
    Inv X pins σ (upd H p (.lst ys)) { s with heap:=s.heap.update p f,toks:=t }:=by
  have e:(s.heap.update p f).get? p=some { cls:=.type "list",data:=.seq its'.toArray n' }:=by
    rw [yZ f ho (by rw [hf] <;> rfl),hf]
  refine I.write (x:=p) (e:=p) (by rw [h];trivial) (.inl rfl) (fun b u hb q=>(yz _ _ (Ne.symm hb)).trans q) ⟨_,e⟩ ?_
  exact ⟨hz,its',n',r,e⟩
def rSetL:V->V->V->Hp->(Hp->Prop)->Prop:=fun o i v H Q=>∃ p xs k j,o = .ref p/\i = .int k/\H p=some (.lst xs)/\ixN xs.length k=some j/\Q (upd H p (.lst (xs.set j v)))
theorem Z6:PSet X rSetL:=by
  intro pins s σ H o i v ov iv u Q I ro ri rv h
  obtain ⟨p,xs,k,j,rfl,rfl,hp,hj,q⟩:=h
  cases ro
  obtain ⟨t,rfl⟩:=ri
  obtain ⟨its,n,r,ho,hz⟩:=I.lst hp
  obtain ⟨h1,h2,h3,h4⟩:=qcj hj
  have hl:=r.length
  have hn:=qas
  have I':Inv X pins σ (upd H p (.lst (xs.set j v))) { s with heap:=s.heap.update p (Obj.mapSeq (·.setIfInBounds j u)) } :=
    I.lstUpd hp ho (qaQ its n j u) (r.set rv j) (by rw [List.length_set];exact hz) s.toks
  by_cases h0:0<=k
  · have hk:k.toNat=j:=by
      rw [seqIndex_of h0 h4] at h1
      exact Option.some.inj h1
    exact W.ki_setAt ho h0 (by omega) (by rw [List.size_toArray,<- hl];exact h4) (by rw [hk];exact ⟨_,I',q⟩)
  · have hk:(k+(its.toArray.size:Int)).toNat=j:=by
      rw [seqIndex_neg (by omega) h3] at h1
      rw [List.size_toArray,<- hl]
      exact Option.some.inj h1
    exact W.ki_setBack ho (by omega) (by rw [List.size_toArray,<- hl];exact h3) (by omega) (by rw [hk];exact ⟨_,I',q⟩)
theorem YZ (lo hi:Option Int) (n:Nat):(sliceBounds lo hi none n).1=((HT.sIx n 0 lo:Nat):Int)/\(sliceBounds lo hi none n).2.1=((HT.sIx n n hi:Nat):Int)/\(sliceBounds lo hi none n).2.2=1:=by
  refine ⟨?_,?_,rfl⟩
  · cases lo with
    | none=>simp [sliceBounds,HT.sIx]
    | some i =>
      simp only [sliceBounds,HT.sIx,Option.getD_none,show (1:Int) > 0 by decide,if_true]
      by_cases h:i<0
      · simp only [h,if_true] <;> omega
      · simp only [h,if_false] <;> omega
  · cases hi with
    | none=>simp [sliceBounds,HT.sIx]
    | some i =>
      simp only [sliceBounds,HT.sIx,Option.getD_none,show (1:Int) > 0 by decide,if_true]
      by_cases h:i<0
      · simp only [h,if_true] <;> omega
      · simp only [h,if_false] <;> omega
theorem Ys (its:List Value) (lo hi:Option Int):slicePick its.toArray lo hi none=((its.drop (HT.sIx its.length 0 lo)).take (HT.sIx its.length its.length hi - HT.sIx its.length 0 lo)).toArray:=by
  obtain ⟨h1,h2,h3⟩:=YZ lo hi its.toArray.size
  unfold slicePick
  rw [h1,h2,h3]
  simp only [sliceRange_one,pick_run,List.size_toArray] <;> rfl
def rSlL (K:W.Frag):V->Option Int->Option Int->Hp->VK->Prop:=fun x lo hi H Q=>∃ a xs,x = .ref a/\SqL K H a xs/\∀ p,H p=none->Q (.ref p) (upd H p (.lst (qgF xs lo hi)))
theorem qfy:SlR X (rSlL X.K):=by
  intro pins s σ H x v vl vu lo hi sl Q I rx hs pl pu h
  obtain ⟨a,xs,rfl,hx,q⟩:=h
  cases rx
  obtain ⟨its,r,ht,hz⟩:=I.list hx
  have hlen:=r.length
  refine ⟨"list",_,slot_list_getitem.lookup,ht.isList.typeIs,?_⟩
  refine wpAny_getItem_list_slice ht.isList hs pl pu .none (by simp) ?_ (by rw [List.size_toArray] <;> omega)
  rw [Ys,<- hlen]
  refine ⟨.ref s.heap.objs.size,_,I.laid (t':=s.toks) (o:=.lst (qgF xs lo hi)) (fun b ob q=>qc _ q) (qk _) ?_,rfl,q _ (I.hok.fresh (qk _))⟩
  exact ⟨qz (ZV xs lo hi) hz,_,0,(r.drop (HT.sIx xs.length 0 lo)).take (HT.sIx xs.length xs.length hi - HT.sIx xs.length 0 lo),qt _ rfl⟩
theorem Zp:yA X (.builtin "len") (fun xs H Q=>∃ p ys,xs=[.ref p]/\(SqL X.K H p ys\/SqT X.K H p ys)/\Q (.int ys.length) H):=by
  intro pins s σ H xs us Q I r h
  obtain ⟨p,ys,rfl,hq,q⟩:=h
  obtain ⟨u,rfl,rx⟩:=J9 r
  cases rx
  have hn:=qas
  rcases hq with hq | hq
  · obtain ⟨its,r',pl,hz⟩:=I.list hq
    have hlen:=r'.length
    exact Calls.call_len_list pl.isList (by simp only [List.size_toArray] <;> omega) ⟨.int ys.length,H,I.tok _,⟨s.toks+1,by rw [List.size_toArray,hlen]⟩,q⟩
  · obtain ⟨its,r',pl,hz⟩:=I.tuple hq
    have hlen:=r'.length
    exact len_tuple pl (by simp only [List.size_toArray] <;> omega) ⟨.int ys.length,H,I.tok _,⟨s.toks+1,by rw [List.size_toArray,hlen]⟩,q⟩
theorem yA.or {f:Value}{r r':List V->Hp->VK->Prop}(h:yA X f r) (h':yA X f r'):yA X f (fun xs H Q=>r xs H Q\/r' xs H Q):=by
  intro pins s σ H xs us Q I rs q
  rcases q with q | q
  · exact h pins s σ H xs us Q I rs q
  · exact h' pins s σ H xs us Q I rs q
theorem Zo:yA X (.type "list") (fun xs H Q=>∃ p ys,xs=[.ref p]/\(SqL X.K H p ys\/SqT X.K H p ys)/\∀ l,H l=none->Q (.ref l) (upd H l (.lst ys))):=by
  intro pins s σ H xs us Q I r h
  obtain ⟨p,ys,rfl,hq,q⟩:=h
  obtain ⟨u,rfl,rx⟩:=J9 r
  cases rx
  have fin:∀ (its:List Value),yo ys its->ys.length<=sizeLine->∀ (h':Heap) (c':Nat),(∀ b o',s.heap.get? b=some o'->h'.get? b=some o') →
      h'.get? s.heap.objs.size=some { cls:=.type "list",dict:=none,data:=.seq its.toArray c',slots:=#[] }->EP X pins σ Q (.ref s.heap.objs.size) { s with heap:=h' }:=fun its r' hz h' c' kp e =>
    ⟨.ref s.heap.objs.size,_,I.laid (t':=s.toks) kp (qk _) (show jq X.prog X.w _ h' _ (.lst ys) from ⟨hz,its,c',r',e⟩),rfl,q _ (I.hok.fresh (qk _))⟩
  rcases hq with hq | hq
  · obtain ⟨its,r',pl,hz⟩:=I.list hq
    have hlen:=r'.length
    obtain ⟨o,ho,hc,n,hd⟩:=pl.isList
    exact call_list_seq p (.inl rfl) ho hc hd (fun h' c' kp e=>fin its r' hz h' c' kp e) (by simp only [List.size_toArray] <;> omega)
  · obtain ⟨its,r',pl,hz⟩:=I.tuple hq
    have hlen:=r'.length
    obtain ⟨o,ho,hc,n,hd⟩:=pl
    exact call_list_seq p (.inr rfl) ho hc hd (fun h' c' kp e=>fin its r' hz h' c' kp e) (by simp only [List.size_toArray] <;> omega)
def tyV (K:W.Frag) (T:String) (x:V) (H:Hp):Prop:=match x with
  | .str _=>T = "str"
  | .int _=>T = "int"
  | .ref p=>(T = "list" /\ ∃ xs,SqL K H p xs)\/(T = "tuple" /\ ∃ o,K.lookup p=some o/\o.cls = .type "tuple" /\ o.dict=none) ∨
      (T = "dict" /\ ((∃ kvs,H p=some (.dK kvs))\/∃ kvs,H p=some (.dT kvs)))\/(T = "set" /\ ∃ S n,H p=some (.set S n))
  | _=>False
theorem qes {pins:List (Addr×Obj)}{σ:St}{H:Hp}{s:Shared}{T:String}{x:V}{v:Value}(I:Inv X pins σ H s) (r:jl x v) (ty:tyV X.K T x H) :
    s.TypeIs v T/\∀ a,v = .ref a->∃ ob,s.heap.get? a=some ob/\ob.dict=none:=by
  cases x with
  | str z =>
    obtain ⟨t,rfl⟩:=r
    cases (show T = "str" from ty)
    exact ⟨typeIs_str s z t,fun _ e=>nomatch e⟩
  | int i =>
    obtain ⟨t,rfl⟩:=r
    cases (show T = "int" from ty)
    exact ⟨typeIs_int s i t,fun _ e=>nomatch e⟩
  | ref p =>
    cases r
    rcases ty with ⟨rfl,xs,hq⟩ | ⟨rfl,o,hk,hc,hd⟩ | ⟨rfl,hk⟩ | ⟨rfl,S,n,hk⟩
    · obtain ⟨its,_,pl,_⟩:=I.list hq
      refine ⟨pl.isList.typeIs,fun a e=>?_⟩
      cases e
      obtain ⟨o,n,e,c,hd,_⟩:=pl
      exact ⟨o,e,hd⟩
    · refine ⟨⟨o,I.kIn p o hk,hc⟩,fun a e=>?_⟩
      cases e
      exact ⟨o,I.kIn _ o hk,hd⟩
    · have z:∃ o,s.heap.get? p=some o/\o.ExactDict:=by
        rcases hk with ⟨kvs,hk⟩ | ⟨kvs,hk⟩
        · obtain ⟨_,_,_,_,o,_,_,e,ex,_⟩:=I.hok p _ hk
          exact ⟨o,e,ex⟩
        · obtain ⟨_,_,_,_,o,_,_,e,ex,_⟩:=I.hok p _ hk
          exact ⟨o,e,ex⟩
      obtain ⟨o,e,ex⟩:=z
      refine ⟨⟨o,e,ex.1⟩,fun a e2=>?_⟩
      cases e2
      exact ⟨o,e,ex.2.1⟩
    · obtain ⟨o,_,_,_,e,ex,_⟩:=I.hok p _ hk
      refine ⟨⟨o,e,ex.1⟩,fun a e2=>?_⟩
      cases e2
      exact ⟨o,e,ex.2.1⟩
  | _=>exact False.elim ty
def tBM0 (K:W.Frag) (T:String) (r:V->List V->Hp->VK->Prop) (to:TE):TE:=fun σ H Q=>to σ H fun x H1=>tyV K T x H1/\r x [] H1 Q
def tBM (K:W.Frag) (T:String) (r:V->List V->Hp->VK->Prop) (to:TE) (t:TA):TE:=fun σ H Q=>to σ H fun x H1=>tyV K T x H1/\t σ H1 fun xs H2=>r x xs H2 Q
variable {o e:Expr}{es:List Expr}{to:TE}{t:TA}{name:Str}{apos cpos:Pos}{T id:String}{r:V->List V->Hp->VK->Prop}
theorem qhE (pa:PlainAttrs T) (slot:Slot T name id) (hty:typeOf (.builtin id)=pure (.type "method_descriptor")) (hm:MtR X id r) (ho:PE X o to)
    (hbase:attributeBase o name X.env (eval o X.env)=eval o X.env:=by rfl) (hline:(apos.endLine == cpos.line)=true:=by rfl):PE X (.Call (.Attribute o name apos) [] [] cpos) (tBM0 X.K T r to):=by
  intro pins s σ H Q I h
  refine wpAny_Call_method0_late hbase hline (thn (ho pins s σ H _ I h) fun v s1 ⟨x,H1,I1,r1,ty,q1⟩=>?_)
  obtain ⟨h1,h2⟩:=qes I1 r1 ty
  exact ⟨T,id,pa,slot,hty,h1,h2,Calls.callWith_builtin rfl (PySem.evalArgs_none (hm pins s1 σ H1 x [] v [] Q I1 r1 .nil q1))⟩
theorem qf0 (pa:PlainAttrs T) (slot:Slot T name id) (hty:typeOf (.builtin id)=pure (.type "method_descriptor")) (hm:MtR X id r) (ho:PE X o to) (ha:PA X (e::es) t)
    (hbase:attributeBase o name X.env (eval o X.env)=eval o X.env:=by rfl)
    (hfew:((backTo cpos (starEach (e::es) X.env)).all (fun x=>!x.1) && (backToKw cpos (keywordEach [] X.env)).all (fun x=>x.1.isSome)
      && decide ((e::es).length+([]:List Keyword).length+(if ([]:List Keyword).isEmpty then 0 else 1)<30))=true:=by rfl)
    (hline:(apos.endLine == cpos.line)=true:=by rfl) (hs:starEach (e::es) X.env=(false,eval e X.env)::starEach es X.env:=by rfl) (hplain:(backTo cpos (starEach es X.env)).any (·.1)=false:=by rfl) :
    PE X (.Call (.Attribute o name apos) (e::es) [] cpos) (tBM X.K T r to t):=by
  intro pins s σ H Q I h
  refine wpAny_Call_method_late hbase hfew hline rfl (thn (ho pins s σ H _ I h) fun v s1 ⟨x,H1,I1,r1,ty,q1⟩=>?_)
  obtain ⟨h1,h2⟩:=qes I1 r1 ty
  refine ⟨T,id,pa,slot,hty,h1,h2,?_⟩
  have hA:=ha cpos pins s1 σ H1 _ I1 q1
  rw [hs] at hA ⊢
  refine Calls.callWith_builtin (by show (false || (backTo cpos (starEach es X.env)).any (·.1))=false;rw [hplain] <;> rfl) (Calls.evalArgs_plain ?_)
  exact thn hA fun us s2 ⟨vs,H2,I2,r2,q2⟩=>hm pins s2 σ H2 x vs v us Q I2 r1 r2 q2
end
def MtM (X:Cx) (id:String) (r:V->List V->Hp->VK->Prop):Prop :=
  ∀ (pins:List (Addr×Obj)) (s:Shared) (σ:St) (H:Hp) (x:V) (xs:List V) (v:Value) (us:List Value) (Q:VK),Inv X pins σ H s->jl x v->yo xs us->r x xs H Q →
    wpAny (model X.prog X.w) X.A (call (.builtin id) (v::us)) (EP X pins σ Q) X.xe s
theorem yo.one:∀ {x:V}{us:List Value},yo [x] us->∃ u,us=[u]/\jl x u
  | _,_,.cons r .nil=>⟨_,rfl,r⟩
theorem yo.two:∀ {x y:V}{us:List Value},yo [x,y] us->∃ u v,us=[u,v]/\jl x u/\jl y v
  | _,_,_,.cons r (.cons q .nil)=>⟨_,_,rfl,r,q⟩
theorem yo.zero:∀ {us:List Value},yo [] us->us=[]
  | _,.nil=>rfl
theorem yo.dropLast {xs:List V}{us:List Value}(h:yo xs us):yo xs.dropLast us.dropLast:=by
  induction h with
  | nil=>exact .nil
  | cons r t ih =>
    cases t with
    | nil=>exact .nil
    | cons q t'=>exact .cons r ih
theorem yo.eraseIdx:∀ {xs:List V}{us:List Value}(i:Nat),yo xs us->yo (xs.eraseIdx i) (us.eraseIdx i)
  | _,_,_,.nil=>.nil
  | _,_,0,.cons _ t=>t
  | _,_,i+1,.cons r t=>.cons r (yo.eraseIdx i t)
theorem yo.reverse {xs:List V}{us:List Value}(h:yo xs us):yo xs.reverse us.reverse:=by
  induction h with
  | nil=>exact .nil
  | cons r t ih=>rw [List.reverse_cons,List.reverse_cons];exact yo.append ih (.cons r .nil)
theorem qaX {α:Type}(l:List α):l.eraseIdx (l.length - 1)=l.dropLast:=by
  induction l with
  | nil=>rfl
  | cons a r ih =>
    cases r with
    | nil=>rfl
    | cons b r =>
      have e:(a::b::r).length - 1=((b::r).length - 1)+1:=by
        have h1:(a::b::r).length=r.length+2:=rfl
        have h2:(b::r).length=r.length+1:=rfl
        omega
      rw [e,List.eraseIdx_cons_succ,ih]
      all_goals rfl
section
variable {X:Cx}{pins:List (Addr×Obj)}{σ:St}{H:Hp}{s:Shared}{l b:Addr}{xs ys zs:List V}
theorem Inv.lset {its its':List Value}{n:Nat}{f:Array Value->Array Value}{t':Nat}(I:Inv X pins σ H s) (hH:H l=some (.lst xs))
    (e:s.heap.get? l=some { cls:=.type "list",data:=.seq its.toArray n }) (hf:f its.toArray=its'.toArray) (hv:yo ys its') (hz:ys.length<=sizeLine) :
    Inv X pins σ (upd H l (.lst ys)) { s with heap:=s.heap.update l (Obj.mapSeq f),toks:=t' }:=by
  have q:=PySem.IsL.update e f
  rw [hf] at q
  refine I.write (x:=l) (e:=l) (by rw [hH];exact trivial) (.inl rfl) (fun b' u hb hu=>(yz s.heap (Obj.mapSeq f) (Ne.symm hb)).trans hu) ⟨_,q⟩ ?_
  exact ⟨hz,its',_,hv,q⟩
theorem Inv.lnew {its:List Value}{t':Nat}(I:Inv X pins σ H s) (hv:yo ys its) (hz:ys.length<=sizeLine) :
    Inv X pins σ (upd H s.heap.objs.size (.lst ys)) { s with heap:=s.heap.push { cls:=.type "list",data:=.seq its.toArray },toks:=t' } :=
  I.laid (fun _ _ q=>qc _ q) (qk _) ⟨hz,its,0,hv,qt _ rfl⟩
theorem Inv.fresh (I:Inv X pins σ H s):H s.heap.objs.size=none:=I.hok.fresh (qk _)
theorem Inv.lstM (I:Inv X pins σ H s) (hH:H l=some (.lst xs)):xs.length<=sizeLine/\∃ (its:List Value) (n:Nat),yo xs its/\xs.length=its.length/\s.heap.get? l=some { cls:=.type "list",data:=.seq its.toArray n }:=by
  obtain ⟨z,its,n,r,e⟩:=I.hok l _ hH
  exact ⟨z,its,n,r,r.length,e⟩
end
section
variable {X:Cx}
def rAppend:V->List V->Hp->VK->Prop:=fun x vs H Q=>∃ l xs y,x = .ref l/\vs=[y]/\H l=some (.lst xs)/\xs.length<sizeLine/\Q .non (upd H l (.lst (xs++[y])))
theorem J1:MtM X "list.append" rAppend:=by
  intro pins s σ H x vs v us Q I rx rv h
  obtain ⟨l,xs,y,rfl,rfl,hH,hz,q⟩:=h
  cases rx
  obtain ⟨u,rfl,ru⟩:=rv.one
  obtain ⟨z,its,n,r,hl,e⟩:=I.lstM hH
  refine call_meets F.slot_list_append ⟨_,e,rfl⟩ F.entry_list_append (F.args_list_append_2 _ _) (PySem.list_append l its.toArray n u (by rw [List.size_toArray];omega)) ⟨e,?_⟩
  refine ⟨.non,_,I.lset (its':=its++[u]) hH e (by simp) (r.append (.cons ru .nil)) ?_,rfl,q⟩
  rw [List.length_append,List.length_singleton]
  omega
def rPop:V->List V->Hp->VK->Prop:=fun x vs H Q=>∃ l xs y,x = .ref l/\vs=[]/\H l=some (.lst xs)/\xs[xs.length - 1]?=some y/\Q y (upd H l (.lst xs.dropLast))
theorem qhZ:MtM X "list.pop" rPop:=by
  intro pins s σ H x vs v us Q I rx rv h
  obtain ⟨l,xs,y,rfl,rfl,hH,hy,q⟩:=h
  cases rx
  have hus:=rv.zero
  subst hus
  obtain ⟨z,its,n,r,hl,e⟩:=I.lstM hH
  obtain ⟨u,hu,ru⟩:=r.get hy
  have hy':its.toArray[its.toArray.size - 1]?=some u:=by
    show its.toArray[its.length - 1]?=some u
    rw [<- qh,<- hl]
    exact hu
  refine call_meets F.slot_list_pop ⟨_,e,rfl⟩ F.entry_list_pop (F.args_list_pop_1 _) (MeetsSeq.list_pop_last l its.toArray n u hy' (by rw [List.size_toArray];omega)) ⟨e,?_⟩
  refine ⟨y,_,I.lset (its':=its.dropLast) hH e ?_ r.dropLast ?_,ru,q⟩
  · show its.toArray.eraseIdxIfInBounds (its.toArray.size - 1)=its.dropLast.toArray
    rw [List.size_toArray,List.eraseIdxIfInBounds_toArray,qaX]
  · rw [List.length_dropLast]
    omega
end
section
variable {prog:Program}{w:World}{A:Around}{E:Value->Shared->Prop}{s:Shared}
set_option maxRecDepth 100000 in
end
section
variable {X:Cx}
end
end L2
namespace Att
open PySem PySem.W PySem.Calls PyProof.Rows
theorem J3 {P:Params}{h:Heap}:∀ (ns:List Int) (vs:List Value),WellAll P h vs (ns.map WData.int)->IntsAre vs ns:=by
  intro ns
  induction ns with
  | nil =>
    intro vs w
    rw [List.map_nil] at w
    cases w
    exact .nil
  | cons n ns ih =>
    intro vs w
    rw [List.map_cons] at w
    cases w with
    | cons a b =>
      cases a
      exact .cons _ _ (ih _ b)
theorem qbq {l:OpenLaw}{n:Nat}(hn:l.most=some n) {P:Params}{h:Heap}{args:List WData}{vals:List Value}
    (hpre:l.row.toRowW.claim.pre args=true) (hwl:WellAll P h vals args) :
    ∃ a vs ns,vals=[Value.ref a]/\args=[WData.list (ns.map WData.int)]/\h.get? a=some { cls:=.type "list",data:=.seq vs.toArray }/\IntsAre vs ns/\ns.length<=n:=by
  have hsh:WShape.hasAll [] args [.list .int]=true:=(pre_splitW hpre).1
  have hc:l.pre.holds [] { args:=args }=true:=(pre_splitW hpre).2
  obtain ⟨d,r,rfl,h1,h2⟩:=hasAllW_cons hsh
  obtain rfl:=hasAllW_nil h2
  obtain ⟨xs,rfl,h3⟩:=hasW_list h1
  obtain ⟨ns,rfl⟩:=items_int h3
  have hlen:ns.length<=n:=by
    unfold OpenLaw.pre at hc
    have h4:(WTm.not (.lt (.lit (.int (n:Int))) (.len (.arg 0)))).holds [] { args:=[.list (ns.map .int)] }=true:=by
      have h4:=(holds_andW hc).1
      rw [hn] at h4
      exact h4
    have h5:=condW_of h4 (w_not (w_lt w_lit (w_len_list (w_arg rfl))))
    rw [List.length_map] at h5
    refine Nat.le_of_not_lt fun q=>?_
    have q':(n:Int)<((ns.length:Nat):Int):=by omega
    first
      | (rw [qO q'] at h5;exact absurd h5 (by decide))
      | (simp at h5;omega)
  cases hwl with
  | cons w1 w2 =>
    cases w2
    cases w1 with
    | list ho hall=>exact ⟨_,_,ns,rfl,rfl,ho,J3 ns _ hall,hlen⟩
theorem qbR (l:OpenLaw) (args:List WData):l.row.toRowW.claim.post args (.bool true) args=true :=
  postW_of (r:=l.row.toRowW) (X:=(true == true))
    (show WShape.has [] (.bool true) .bool=true by first | rfl | decide | simp [WShape.has,WShape.arms,WShape.armsAll])
    (show (WTm.eq .res (.lit (.bool true))).value [] { args:=args,res:=some (.bool true),after:=args }=some (.bool (true == true)) from w_eq_bool (w_res rfl) w_lit) rfl
theorem attach_call {l:OpenLaw}{n:Nat}{q:Program}{loose:List Str}{XP:(Str->Option Value)->Heap->Prop}{YP:World->Heap->Prop}{d:DefRec}
    (hn:l.most=some n) (hdf:d.params.defaults=[])
    (call:∀ (w:World) (s₀ s₁:Shared) (mg mb:Str->Option Value) (fa:Addr) (o:Obj) (pm cd doc:Value) (a:Addr) (vs:List Value) (ns:List Int),
      Ground q loose [] XP w s₀ mg mb s₁.heap->YP w s₁.heap →
      s₁.heap.get? fa=some o->o.data = .func (docDef d.name d.params d.body d.scope pm cd doc)->s₁.heap.CodeRec cd d.name->mg d.name=some (.ref fa) →
      s₁.heap.get? a=some { cls:=.type "list",data:=.seq vs.toArray }->IntsAre vs ns->ns.length<=n->s₁.gens=#[] →
      codeAny (model l.prog w) callerA (.call (.ref fa) ⟨[.ref a],[]⟩) (fun r s'=>r = .ok (.ret (.bool true))/\OldK s₁.heap s'.heap/\s'.os=s₁.os/\AllBare s'.gens) s₁) :
    WalkO q loose XP YP l.row.toRowW d [] (fun f vs=>PySem.call f vs):=by
  intro w s₀ s₁ mg mb G Y fa o pm cd doc dV kV ho hd hcd hD hmg hg args vals as hpre hlay hrd hwl hlo
  obtain rfl:dV = .none:=Dflts.none hD hdf
  obtain rfl:kV = .none:=Dflts.noKw hD
  obtain ⟨a,vs,ns,rfl,rfl,hobj,hints,hlen⟩:=qbq hn hpre hwl
  refine enter_call (codeAny_mono (call w s₀ s₁ mg mb fa o pm cd doc a vs ns G Y ho (fd_plain hd) hcd hmg hobj hints hlen hg) fun r s' hq=>?_)
  obtain ⟨rfl,h2,h3,h4⟩:=hq
  exact ⟨.inl ⟨.bool true,.bool true,[],rfl,fun _=>rfl,.bool true,qbR l _,fun _=>⟨List.Pairwise.nil,fun _ hm=>(nomatch hm)⟩⟩,h2,h3,h4⟩
section
variable {prog:Program}{w:World}{A:Around}{E:Value->Shared->Prop}{s:Shared}{K:Frag}
def ledger (h:Heap) (L d:Addr):List (Addr×Obj):=(List.range h.objs.size).filterMap fun a=>if a=L\/a=d then none else (h.get? a).map fun o=>(a,o)
end
end Att
namespace L2
open PySem PySem.Spec PyProof.Rows
theorem YV:∀ {vs:List Value}{ns:List Int},IntsAre vs ns->yo (ns.map V.int) vs
  | _,_,.nil=>.nil
  | _,_,.cons n t h=>.cons ⟨t,rfl⟩ (YV h)
def Only (H:Hp):Prop:=∀ b,H b=none\/∃ o xs,H b=some (.frz o (.lst xs))
theorem qdQ {P:Program}{w:World}{K:W.Frag}{mg mb:Str->Option Value}{CX:CXT}{k:Nat}{fa a:Addr}{fd:FuncData}{x:Str}{sp:Sp}{s₁:Shared}{vs:List Value}{ns:List Int}
    (KX:K.In s₁.heap) (hns:s₁.heap.Ns mainGlobals mg) (hb:s₁.heap.Ns builtinsNs mb) (hbb:∀ x:Str,x ≠ "__name__" -> mb x=bootBuiltins x) (hlim:s₁.heap.NoLimit) (hg:s₁.gens=#[])
    (ha:s₁.heap.get? a=some { cls:=.type "list",data:=.seq vs.toArray }) (hi:IntsAre vs ns) (hl:ns.length<=sizeLine) (hr:Room k callerA)
    (F:∀ base:Heap,K.In base->base.Ns mainGlobals mg->FnOk P w K mg base CX k fa fd [x] sp) (hbind:∀ (s:Shared) (u:Value),BindsTo s fd ⟨[u],[]⟩ [(x,u)])
    (hsp:∀ H:Hp,Only H->SqL K H a (ns.map V.int)->sp [.ref a] H (fun v _=>v = .bl true) fun _ _ _=>False)
    (hCX:∀ H e s',CX [] H s₁ (fun _ _ _=>False) e s'->False) :
    codeAny (model P w) callerA (.call (.ref fa) ⟨[.ref a],[]⟩) (fun r s'=>r = .ok (.ret (.bool true))/\OldK s₁.heap s'.heap/\s'.os=s₁.os/\AllBare s'.gens) s₁:=by
  have rv:=YV hi
  have lenV:=hi.length
  -- from an abstract heap in which nothing but the script may be tracked
  have core:∀ H:Hp,Only H->SqL K H a (ns.map V.int)->HOk P w H s₁.heap->(∀ b,H b≠none->b=a)->(H a≠none->K.lookup a=none) →
      codeAny (model P w) callerA (.call (.ref fa) ⟨[.ref a],[]⟩) (fun r s'=>r = .ok (.ret (.bool true))/\OldK s₁.heap s'.heap/\s'.os=s₁.os/\AllBare s'.gens) s₁:=by
    intro H hO hS hok hA hK
    have base_of:∀ {b:Addr}{o:Obj},s₁.heap.get? b=some o->H b=none->(qdU s₁.heap H).get? b=some o:=fun e n=>qdT e n
    have noA:∀ {b:Addr}{o:Obj}{es:Array DictEntry}{ep:Nat},s₁.heap.get? b=some o->o.data = .dict es ep->H b=none:=fun {b o es ep} e d=>by
      cases q:H b with
      | none=>rfl
      | some u =>
        have e':b=a:=hA b (by rw [q];simp)
        subst e'
        rw [ha] at e;cases e
        have d':Data.seq vs.toArray _=Data.dict es ep:=d
        cases d'
    have nsK:∀ {b:Addr}{m:Str->Option Value},s₁.heap.Ns b m->(qdU s₁.heap H).Ns b m:=fun {b m} ⟨o,es,ep,e,d,r⟩=>⟨o,es,ep,base_of e (noA e d),d,r⟩
    have hKb:K.In (qdU s₁.heap H):=fun b o e=>base_of (KX b o e) (by
      cases q:H b with
      | none=>rfl
      | some u =>
        have e':b=a:=hA b (by rw [q];simp)
        subst e'
        rw [hK (by rw [q];simp)] at e;cases e)
    have hM:Mod K mg (qdU s₁.heap H):=⟨hKb,nsK hns,⟨mb,nsK hb,hbb⟩,let ⟨mc,h1,h2⟩:=hlim;⟨mc,nsK h1,h2⟩⟩
    have e0:Env0 P w K mg (qdU s₁.heap H) callerA [] s₁ H:=⟨rfl,hM,fun b o e=>qgd e,Nat.le_of_eq (qcm _ _),trivial,fun b hb=>absurd (show b∈([]:List Addr) from hb) (by simp),hok,.of_eq hg⟩
    refine codeAny_mono ((F _ hKb (nsK hns)).run callerA [] s₁ H ⟨[.ref a],[]⟩ [.ref a] [.ref a] _ _ hr e0 (hbind s₁ (.ref a)) (.cons rfl .nil) (hsp H hO hS)) fun r s' h=>?_
    cases r with
    | error e=>exact (hCX H e s' h).elim
    | ok fl =>
      cases fl with
      | next=>exact False.elim h
      | brk=>exact False.elim h
      | cont=>exact False.elim h
      | ret u =>
        obtain ⟨v,H',os,bare,un,hok',r',q⟩:=h
        have q':v = .bl true:=q
        subst q'
        obtain rfl:u=Value.bool true:=r'
        refine ⟨rfl,OldK.of_keep fun b o e=>?_,os,bare⟩
        cases q:H b with
        | none=>exact un.keep b o e q (by intro z;exact absurd (show b∈([]:List Addr) from z) (by simp)) (by simp)
        | some u =>
          rcases hO b with z | ⟨ob,xs,z⟩
          · rw [q] at z;cases z
          · have z2:=un.frzs b ob _ z
            obtain ⟨e1,_⟩:=hok b _ z
            obtain ⟨e2,_⟩:=hok' b _ z2
            rw [e] at e1;cases e1
            exact e2
  cases hk:K.lookup a with
  | some o =>
    -- the script is one of the module's own objects
    have e:=KX a o hk
    rw [ha] at e
    cases e
    refine core (fun _=>none) (fun _=>.inl rfl) (.inr ⟨_,vs.toArray,_,hk,rfl,rfl,rfl,by rw [List.size_toArray,lenV];exact hl,by simpa using rv⟩) (fun b u z=>by have z':(none:Option HO)=some u:=z;cases z') (fun b z=>absurd rfl z) fun z=>absurd rfl z
  | none =>
    refine core (fun b=>if b=a then some (.frz { cls:=.type "list",data:=.seq vs.toArray } (.lst (ns.map V.int))) else none) (fun b=>?_) (.inl (.inr ⟨{ cls:=.type "list",data:=.seq vs.toArray },if_pos rfl⟩)) (fun b u z=>?_) (fun b z=>?_) fun _=>hk
    · by_cases hb:b=a
      · exact .inr ⟨_,_,if_pos hb⟩
      · exact .inl (if_neg hb)
    · by_cases hb:b=a
      · have z':=(if_pos hb).symm.trans z
        cases z'
        subst hb
        exact ⟨ha,by rw [List.length_map];exact hl,vs,_,rv,ha⟩
      · have z':=(if_neg hb).symm.trans z
        cases z'
    · by_cases hb:b=a
      · exact hb
      · exact absurd (if_neg hb) z
abbrev KOf {K:W.Frag}{h:Heap}(_:K.In h):W.Frag:=K
theorem walk_of {l:W.OpenLaw}{n k:Nat}{q:Program}{loose:List Str}{XP:(Str->Option Value)->Heap->Prop}{YP:World->Heap->Prop}{d:DefRec}{K:Params->W.Frag}{CX:World->CXT}{sp:World->Sp}{x:Str}
    (hn:l.most=some n) (hn2:n<=sizeLine) (hdf:d.params.defaults=[]) (hr:Room k callerA)
    (hY:∀ (w:World) (h:Heap),YP w h->(K w.params).In h)
    (F:∀ (w:World) (mg:Str->Option Value) (fa:Addr) (h:Heap),(K w.params).In h->h.Ns mainGlobals mg->mg d.name=some (.ref fa) →
      ∃ fd:FuncData,(∀ (s:Shared) (u:Value),BindsTo s fd ⟨[u],[]⟩ [(x,u)]) ∧
        ∀ base:Heap,(K w.params).In base->base.Ns mainGlobals mg->FnOk l.prog w (K w.params) mg base (CX w) k fa fd [x] (sp w))
    (hsp:∀ (w:World) (H:Hp) (a:Addr) (ns:List Int),ns.length<=n->Only H->SqL (K w.params) H a (ns.map V.int)->sp w [.ref a] H (fun v _=>v = .bl true) fun _ _ _=>False)
    (hCX:∀ (w:World) (H:Hp) (s:Shared) (e:Value) (s':Shared),CX w [] H s (fun _ _ _=>False) e s'->False) :
    W.WalkO q loose XP YP l.row.toRowW d [] (fun f vs=>PySem.call f vs):=by
  refine Att.attach_call hn hdf fun w s₀ s₁ mg mb fa o pm cd doc a vs ns G Y ho hd hcd hmg hobj hints hlen hg=>?_
  have KX:=hY w _ Y
  obtain ⟨fd,hb,hF⟩:=F w mg fa _ KX G.T.g hmg
  exact qdQ KX G.T.g G.T.b G.T.builtins G.T.nolimit hg hobj hints (qz hlen hn2) hr hF hb (fun H hO hS=>hsp w H a ns hlen hO hS) fun H e s'=>hCX w H s₁ e s'
def jO (s:Stmt):Arguments:=match s with
  | .FunctionDef _ a _ _ _ _ _ _ _ _=>a
  | _=>{ posonlyargs:=[],args:=[],vararg:=none,kwonlyargs:=[],kw_defaults:=[],kwarg:=none,defaults:=[] }
def yX (s:Stmt):List Stmt:=match s with
  | .FunctionDef _ _ b _ _ _ _ _ _ _=>b
  | _=>[]
def qu (s:Stmt):Scope:=match s with
  | .FunctionDef _ _ _ _ _ _ sc _ _ _=>sc
  | _=>{ kind:=.function,names:=[],isGenerator:=false,isCoroutine:=false }
abbrev CX0:CXT:=fun _ _ _ _ _ _=>False
abbrev E0:XK:=fun _ _ _=>False
structure Fun (K:W.Frag) (x qual:Str) (st:Stmt) (f:Addr) (fd:FuncData):Prop where
  ex:∃ (oc:Value) (od:Option Addr) (kV doc pm:Value) (an:Option Addr) (cdv ct:Value) (osl:Array (Option Value)),
    fd=W.fnOf x qual (jO st) (yX st) (qu st) .none kV doc pm an cdv ct/\K.lookup f=some ⟨oc,od,.func fd,osl⟩/\W.codeIn K cdv qual=true
  kp:W.keepIn K (.ref f)=true
section
variable {P:Program}{w:World}{K:W.Frag}{mg:Str->Option Value}{base:Heap}
theorem Fun.ok {x qual:Str}{st:Stmt}{f:Addr}{fd:FuncData}{N ps:List Str}{k:Nat}{sp:Sp}(F:Fun K x qual st f fd) (S:FnScope N ps (qu st)) (len:∀ vs H Q E,sp vs H Q E->vs.length=ps.length)
    (hbody:∀ (cdv:Value) (A:Around) (outer:List Env) (s:Shared) (H:Hp) (vs:List V) (Q:VK) (E:XK),Room k (A.deeper (envOfC qual (qu st) s.heap.objs.size f cdv))->sp vs H Q E →
      ∃ t,PSs (qc9 CX0 P w K mg base N qual (qu st) f cdv A outer s H E).nox (yX st) t/\t { nx:=fun _ H'=>Q .non H',rt:=Q } (Yq N vs) H):FnOk P w K mg base CX0 (k+1) f fd ps sp:=by
  obtain ⟨oc,od,kV,doc,pm,an,cdv,ct,osl,rfl,lk,hcd⟩:=F.ex
  refine qih lk hcd S len fun A outer s H vs Q E hr hsp=>?_
  obtain ⟨t,h,q⟩:=hbody cdv A outer s H vs Q E hr hsp
  exact ⟨t,h.nox,q⟩
theorem Fun.binds {x qual:Str}{st:Stmt}{f:Addr}{fd:FuncData}{ps:List Str}(F:Fun K x qual st f fd)
    (h:∀ (kV doc pm:Value) (an:Option Addr) (cdv ct:Value) (us:List Value),us.length=ps.length->bindArgs (W.fnOf x qual (jO st) (yX st) (qu st) .none kV doc pm an cdv ct) ⟨us,[]⟩=pure (ps.zip us)):Z2 K fd ps []:=by
  obtain ⟨oc,od,kV,doc,pm,an,cdv,ct,osl,rfl,lk,hcd⟩:=F.ex
  exact .all (h kV doc pm an cdv ct)
theorem qe4 {x qual:Str}{st:Stmt}{f:Addr}{oc:Value}{od an:Option Addr}{osl:Array (Option Value)}{kV doc pm cdv ct:Value}(l:K.lookup f=some ⟨oc,od,.func (W.fnOf x qual (jO st) (yX st) (qu st) .none kV doc pm an cdv ct),osl⟩)
    (c:W.codeIn K cdv qual=true) (k:W.keepIn K (.ref f)=true):Fun K x qual st f (W.fnOf x qual (jO st) (yX st) (qu st) .none kV doc pm an cdv ct):=⟨⟨oc,od,kV,doc,pm,an,cdv,ct,osl,rfl,l,c⟩,k⟩
end
section
variable {X:Cx}
theorem pv (i:Nat) {x:Str}{pos:Pos}(hN:X.N[i]?=some x:=by rfl) (hv:Vis X.env.scope x:=by first | exact Or.inl rfl | exact Or.inr (Or.inl rfl) | exact Or.inr (Or.inr rfl)) (hd:(x == ("__debug__" : Str))=false:=by decide)
    (hcd:(x == ("__classdict__" : Str))=false:=by decide):PE X (.Name x pos) (tVar i):=qeT hN hv hd hcd
end
theorem qc8 {A B:Prop}(h:B):if false=true then A else B:=by
  rw [if_neg Bool.false_ne_true]
  exact h
theorem qeZ {A B:Prop}(h:A):if true=true then A else B:=by
  rw [if_pos rfl]
  exact h
theorem J8 {c A B:Prop} [Decidable c] (h1:c->A) (h2:¬ c->B):if c then A else B:=by
  by_cases h:c
  · rw [if_pos h]
    exact h1 h
  · rw [if_neg h]
    exact h2 h
def qZ (H H':Hp):Prop:=∀ b o,H b=some o->H' b=some o
theorem qZ.refl (H:Hp):qZ H H:=fun _ _ h=>h
theorem qZ.trans {H H1 H2:Hp}(a:qZ H H1) (b:qZ H1 H2):qZ H H2:=fun c o h=>b c o (a c o h)
theorem qZ.free {H H':Hp}(e:qZ H H') {l:Addr}(h:H' l=Option.none):H l=Option.none:=by
  cases q:H l with
  | none=>rfl
  | some o =>
    rw [e l o q] at h
    cases h
theorem qZ.seq {K:W.Frag}{H H':Hp}{a:Addr}{xs:List V}(e:qZ H H') (h:SqL K H a xs):SqL K H' a xs:=by
  rcases h with (h | ⟨o,h⟩) | h
  · exact .inl (.inl (e _ _ h))
  · exact .inl (.inr ⟨o,e _ _ h⟩)
  · exact .inr h
end L2
set_option maxHeartbeats 4000000
namespace L2
open PySem PySem.Spec PyProof.Rows
theorem yI {n:Nat}(h:n<=4000):n<sizeLine:=yu h (by decide)
def yr (X:Cx) (L:List Str) (scope:Scope) (cl:List (Str×Addr)) (C:Addr) (s₂:Shared) (H₂:Hp) (fp:List Addr):Cx where
 prog:=X.prog
 w:=X.w
 K:=X.K
 mg:=X.mg
 base:=X.base
 A:=X.A
 N:=X.N++L
 s₀:=s₂
 H₀:=H₂
 env:=compEnvC scope cl C X.env
 outer:=X.stack
 stack:=X.stack
 ex:=fp
 fn:=fun _=>false
 calm:=X.calm
 pn:=[]
 xe:=fun _ _=>False
def jQ (sc:Scope) (N L:List Str) (scope:Scope):Bool :=
 decide (scope.kind = .function) && scope.names.all (fun y=>decide (y.2≠.cell) && (decide (y.2≠.local) || (decide (scope.names.lookup y.1=some .local) && decide (y.1∉N))) &&
  (decide (y.2≠.free) || decide (sc.names.lookup y.1=some .cell) || decide (sc.names.lookup y.1=some .free))) && decide ((N++L).Nodup)
theorem jF {sc:Scope}{N L:List Str}{scope:Scope}(h:jQ sc N L scope=true):scope.kind = .function:=by
 simp only [jQ,Bool.and_eq_true,decide_eq_true_eq] at h
 exact h.1.1
theorem ji {sc:Scope}{N L:List Str}{scope:Scope}(h:jQ sc N L scope=true) {y:Str×NameKind}(hy:y∈scope.names) :
  y.2≠.cell/\(y.2 = .local->scope.names.lookup y.1=some .local/\y.1∉N)/\(y.2 = .free->sc.names.lookup y.1=some .cell\/sc.names.lookup y.1=some .free):=by
 simp only [jQ,Bool.and_eq_true,decide_eq_true_eq,List.all_eq_true,Bool.or_eq_true] at h
 have q:=h.1.2 y hy
 obtain ⟨⟨q1,q2⟩,q3⟩:=q
 refine ⟨q1,fun e=>?_,fun e=>?_⟩
 ·rcases q2 with q2 | q2
  ·exact absurd e q2
  ·exact q2
 ·rcases q3 with (q3 | q3) | q3
  ·exact absurd e q3
  ·exact .inl q3
  ·exact .inr q3
theorem jR {env:Env}:∀ (names:List (Str×NameKind)) (acc:List (Str×Addr)),(∀ y∈names,y.2 = .free->∃ c,env.cells.lookup y.1=some c) →
  (∀ x c,acc.lookup x=some c->env.cells.lookup x=some c) →
  ∃ cl,(forIn names acc (fun (x:Str×NameKind) (cs:List (Str×Addr))=>match x with
   | (name,kind)=>if (kind == NameKind.free)=true then do let a <- cellOf env name;pure (ForInStep.yield ((name,a)::cs)) else pure (ForInStep.yield cs)):Sem (List (Str×Addr)))=pure cl ∧
   (∀ x c,cl.lookup x=some c->env.cells.lookup x=some c)/\(∀ y∈names,y.2 = .free->∃ c,cl.lookup y.1=some c)/\(∀ x c,acc.lookup x=some c->∃ c',cl.lookup x=some c')
 | [],acc,_,ha=>⟨acc,rfl,ha,fun _ h=>(nomatch h),fun _ c e=>⟨c,e⟩⟩
 | (n,k)::r,acc,hf,ha=>by
  by_cases hk:k = .free
  ·subst hk
   obtain ⟨c,hc⟩:=hf (n,.free) qm rfl
   have ha':∀ x c',((n,c)::acc).lookup x=some c'->env.cells.lookup x=some c':=fun x c' e=>by
    by_cases hx:x=n
    ·subst hx
     simp [List.lookup_cons] at e
     rw [<- e];exact hc
    ·have:(x == n)=false:=by simpa using hx
     simp [List.lookup_cons,this] at e
     exact ha x c' e
   obtain ⟨cl,e1,e2,e3,e4⟩:=jR r ((n,c)::acc) (fun y hy=>hf y (qi _ hy)) ha'
   refine ⟨cl,?_,e2,fun y hy hfr=>?_,fun x c' e=>?_⟩
   ·rw [List.forIn_cons]
    show (if (NameKind.free == NameKind.free)=true then (do let a <- cellOf env n;pure (ForInStep.yield ((n,a)::acc))) else pure (ForInStep.yield acc)) >>= _=_
    rw [if_pos (by decide)]
    unfold cellOf
    rw [hc]
    simp only [pure_bind]
    exact e1
   ·rcases List.mem_cons.mp hy with rfl | hy
    ·exact e4 n c (by simp [List.lookup_cons])
    ·exact e3 y hy hfr
   ·by_cases hx:x=n
    ·subst hx
     exact e4 x c (by simp [List.lookup_cons])
    ·have:(x == n)=false:=by simpa using hx
     exact e4 x c' (by simp [List.lookup_cons,this];exact e)
  ·obtain ⟨cl,e1,e2,e3,e4⟩:=jR r acc (fun y hy=>hf y (qi _ hy)) ha
   refine ⟨cl,?_,e2,fun y hy hfr=>?_,e4⟩
   ·rw [List.forIn_cons]
    have hb:(k == NameKind.free)=false:=by simpa using hk
    show (if (k == NameKind.free)=true then (do let a <- cellOf env n;pure (ForInStep.yield ((n,a)::acc))) else pure (ForInStep.yield acc)) >>= _=_
    rw [hb,if_neg (by simp)]
    simp only [pure_bind]
    exact e1
   ·rcases List.mem_cons.mp hy with rfl | hy
    ·exact absurd hfr hk
    ·exact e3 y hy hfr
theorem Yo {env:Env}{scope:Scope}(hf:∀ y∈scope.names,y.2 = .free->∃ c,env.cells.lookup y.1=some c) :
  ∃ cl,closureFor scope env=pure cl/\(∀ x c,cl.lookup x=some c->env.cells.lookup x=some c)/\(∀ y∈scope.names,y.2 = .free->∃ c,cl.lookup y.1=some c):=by
 obtain ⟨cl,e1,e2,e3,_⟩:=jR scope.names [] hf (fun x c e=>by simp at e)
 refine ⟨cl,?_,e2,e3⟩
 unfold closureFor
 simp only [bind_pure_comp,map_pure] at *
 first
  | exact e1
  | (rw [e1];rfl)
  | (simp only [bind_pure];exact e1)
theorem Yi {names:List (Str×NameKind)}{x:Str}{k:NameKind}(h:names.lookup x=some k):(x,k)∈names:=PySem.mem_of_lookup h
theorem Js {env:Env}:∀ {names:List (Str×NameKind)}{x:Str}{k:NameKind},
  (names.map fun (n,k)=>if (k == NameKind.free && env.scope.kind == .function && env.kindOf n == some .cell) then (n,NameKind.cell) else (n,k)).lookup x=some k →
  ∃ k',names.lookup x=some k'/\(k=k'\/(k' = .free/\k = .cell))
 | [],_,_,h=>by simp at h
 | (n,k0)::r,x,k,h=>by
  cases hx:x == n with
  | true =>
   by_cases hc:(k0 == NameKind.free && env.scope.kind == .function && env.kindOf n == some .cell)=true
   ·simp only [List.map_cons,if_pos hc,List.lookup_cons,hx] at h
    have hk:k0 = .free:=by
     simp only [Bool.and_eq_true,beq_iff_eq] at hc
     exact hc.1.1
    exact ⟨k0,by simp [List.lookup_cons,hx],.inr ⟨hk,(Option.some.inj h).symm⟩⟩
   ·simp only [List.map_cons,if_neg hc,List.lookup_cons,hx] at h
    exact ⟨k0,by simp [List.lookup_cons,hx],.inl (Option.some.inj h).symm⟩
  | false =>
   have h':(r.map fun (n,k)=>if (k == NameKind.free && env.scope.kind == .function && env.kindOf n == some .cell) then (n,NameKind.cell) else (n,k)).lookup x=some k:=by
    by_cases hc:(k0 == NameKind.free && env.scope.kind == .function && env.kindOf n == some .cell)=true
    ·simp only [List.map_cons,if_pos hc,List.lookup_cons,hx] at h;exact h
    ·simp only [List.map_cons,if_neg hc,List.lookup_cons,hx] at h;exact h
   obtain ⟨k',e,q⟩:=Js h'
   exact ⟨k',by simp [List.lookup_cons,hx];exact e,q⟩
def Ifs (X:Cx) (ifs:List Expr) (tt:TT):Prop :=
 ∀ (pins:List (Addr×Obj)) (s:Shared) (σ:St) (H:Hp) (Q:Bool->Hp->Prop),Inv X pins σ H s->tt σ H Q →
  wpAny (model X.prog X.w) X.A (forIn ifs true fun c r=>if r=true then do let ok <- isTrue c X.env (eval c X.env);pure (ForInStep.yield ok) else pure (ForInStep.yield r)) (TP X pins σ Q) X.xe s
def tYes:TT:=fun _ H Q=>Q true H
theorem qgm {X:Cx}:Ifs X [] tYes:=fun pins s σ H Q I h=>wpAny_tests_nil ⟨H,I,h⟩
def qet (k:Nat) (g:TG) (tt:TT) (te:TE) (σ:St) (Q:VK) (J:It) (H1:Hp):Prop:=∃ W:Nat->Nat->List V->St->Hp->Prop,(∃ m,W 0 m [] (σ++List.replicate k none) H1)/\∀ i m ys σ' H,W i m ys σ' H →
 (J.stop i H/\∀ D,H D=none->Q (.ref D) (upd H D (.lst ys))) ∨
 (J.go i H/\ys.length<sizeLine/\∃ N:List V->St->Hp->Prop,(∀ ys' σ' H',N ys' σ' H'->∃ m',m'<m/\W (i+1) m' ys' σ' H') ∧
  ∀ x H',J.yld i H x H'->g x σ' H' fun σ2 H2=>tt σ2 H2 fun b H3=>if b=true then te σ2 H3 fun y H4=>N (ys++[y]) σ2 H4 else N ys σ2 H3)
def qfu (k:Nat) (wi:TI) (g:TG) (tt:TT) (te:TE):TE:=fun σ H Q=>wi σ H (qet k g tt te σ Q)
section
variable {prog:Program}{w:World}{A:Around}{R:Result->Shared->Prop}{s:Shared}
theorem jV {elt target iter:Expr}{ifs:List Expr}{scope:Scope}{pos:Pos}{it acc:Value}{env:Env}(I:Nat->Shared->Prop)
  (turn:∀ n s,I n s->wpAny (model prog w) A (pyNext it) (fun r s₁=>match r with
   | none=>R (.ok .next) s₁
   | some v=>wpAny (model prog w) A (letOwnedTupleGo target it v) (fun _ s₁'=>wpAny (model prog w) A (assign target env v) (fun _ s₂ =>
     wpAny (model prog w) A (forIn ifs true fun c r=>if r=true then do let ok <- isTrue c env (eval c env);pure (ForInStep.yield ok) else pure (ForInStep.yield r)) (fun ok s₃ =>
      if ok=true then wpAny (model prog w) A (eval elt env) (fun x s₄ =>
       wpAny (model prog w) A (call (.builtin "list.append") [acc,x]) (fun _ s₅=>∃ m,m<n/\I m s₅) (fun _ _=>False) s₄) (fun _ _=>False) s₃
      else ∃ m,m<n/\I m s₃) (fun _ _=>False) s₂) (fun _ _=>False) s₁') (fun _ _=>False) s₁) (fun _ _=>False) s)
  (n:Nat) (h:I n s) :
  codeAny (model prog w) A (.compLoop (.ListComp elt [⟨target,iter,ifs,0⟩] scope pos) 0 it acc env) R s:=by
 refine codeAny_loop rfl I (fun n s hI=>?_) n h
 show wpAny _ A ((compTurn (.ListComp elt [⟨target,iter,ifs,0⟩] scope pos) 0 it acc env).onRaise (fun x=>do noteFrame x env;theTreesLotGoes x)) _ _ s
 refine wpAny_noted ?_
 rw [compTurn_list]
 refine qb (wpAny_standAt (qb (yD (turn n s hI) (fun r s₁ h₁=>?_) fun _ _ h'=>h'.elim)))
 cases r with
 | none=>exact qd h₁
 | some v =>
  refine qb (yD h₁ (fun _ s₁' h₁'=>?_) fun _ _ h'=>h'.elim)
  refine qb (yD h₁' (fun _ s₂ h₂=>qb (yD h₂ (fun ok s₃ h₃=>?_) fun _ _ h'=>h'.elim)) fun _ _ h'=>h'.elim)
  cases ok with
  | false=>exact qd ⟨rfl,h₃⟩
  | true =>
   exact qb (qb (yD h₃ (fun x s₄ h₄=>qb (yD h₄ (fun _ s₅ h₅=>qd (qd ⟨rfl,h₅⟩)) fun _ _ h'=>h'.elim)) fun _ _ h'=>h'.elim))
end
section
variable {X:Cx}
theorem qgG {pins:List (Addr×Obj)}{σ:St}{H:Hp}{s₂:Shared}{L:List Str}{scope:Scope}{cl:List (Str×Addr)}{C:Addr}{fp:List Addr}{sc:Scope}{N:List Str}
  (I:Inv X pins σ H s₂) (hsc:X.env.scope=sc) (hN:X.N=N) (ok:jQ sc N L scope=true) (hc1:∀ x c,cl.lookup x=some c->X.env.cells.lookup x=some c)
  (hc2:∀ y∈scope.names,y.2 = .free->∃ c,cl.lookup y.1=some c) (hf:∀ b∈fp,qdb X pins H b) (hlt:∀ b∈fp,b<s₂.heap.objs.size) (hC:s₂.heap.objs.size<=C) :
  (yr X L scope cl C s₂ H fp).Ok where
 mod:=I.ok.mod
 kind:=(show scope.kind = .function from jF ok)
 glob:=I.ok.glob
 blt:=I.ok.blt
 above:=hC
 inj:=fun x y c h1 h2=>I.ok.inj x y c (hc1 x c h1) (hc1 y c h2)
 has:=fun x hx=>by
  have hx':∃ k,(relabel scope X.env).names.lookup x=some k/\(k = .cell\/k = .free):=by
   rcases hx with h | h
   ·exact ⟨_,h,.inl rfl⟩
   ·exact ⟨_,h,.inr rfl⟩
  obtain ⟨k,e,hk⟩:=hx'
  obtain ⟨k',e',q⟩:=Js e
  have hm:=Yi e'
  have nc:=(ji ok hm).1
  have hfree:k' = .free:=by
   rcases q with q | q
   ·rcases hk with hk | hk
    ·exact absurd (q.symm.trans hk) nc
    ·exact q.symm.trans hk
   ·exact q.1
  exact hc2 (x,k') hm hfree
 cab:=fun x c h _=>by cases h
 hd:=I.ok.hd
 frames:=I.ok.frames
 stk:=.inl rfl
 exf:=fun b hb=>⟨qq (qA (hlt b hb) hC),fun x c e=>(hf b hb).2.2.2.2.1 x c (hc1 x c e)⟩
 bs:=I.bs
 bsz:=qz I.ok.bsz I.sz
 noex:=fun b o e hb=>by
  rcases (hf b hb).2.2.2.1 with z | z
  ·exact I.ok.noex b o e z
  ·exact absurd (qA (qf (I.ok.bs b o e).1) z) (yJ _)
 exfs:=fun b hb z=>by
  rcases List.mem_cons.mp (I.stkSub b z) with q | q
  ·exact (hf b hb).2.1 q
  ·exact (hf b hb).2.2.1 q
 funs:=I.stack
 frf:=I.stkFree
theorem qaY {pins:List (Addr×Obj)}{σ:St}{H:Hp}{s₂ s₄:Shared}{L:List Str}{scope:Scope}{cl:List (Str×Addr)}{C:Addr}{fp:List Addr}{sc:Scope}{N:List Str}{m:Str->Option Value}
  (I:Inv X pins σ H s₂) (hsc:X.env.scope=sc) (hN:X.N=N) (ok:jQ sc N L scope=true) (hc1:∀ x c,cl.lookup x=some c->X.env.cells.lookup x=some c)
  (Y:(yr X L scope cl C s₂ H fp).Ok) (hC:s₂.heap.objs.size<=C) (hos:s₄.os=s₂.os) (hg:AllBare s₄.gens)
  (old:∀ b o,s₂.heap.get? b=some o->s₄.heap.get? b=some o) (hns:s₄.heap.Ns C m):Inv (yr X L scope cl C s₂ H fp) [] (σ++List.replicate L.length none) H s₄ where
 ok:=Y
 os:=hos
 bare:=hg
 base:=Un.kept old
 loc:=by
  refine ⟨m,hns,fun i x v e1 e2 e3=>?_⟩
  have hl:σ.length=X.N.length:=I.len
  have hi:i<σ.length:=by
   by_cases h:i<σ.length
   ·exact h
   ·rw [qM (by omega),List.getElem?_replicate] at e2
    split at e2 <;> cases e2
  rw [qP hi] at e2
  have e1':X.N[i]?=some x:=by
   have:(X.N++L)[i]?=some x:=e1
   rwa [qP (by omega)] at this
  have e3':∃ k,(relabel scope X.env).names.lookup x=some k/\(k = .local\/k = .cell\/k = .free):=by
   rcases e3 with h | h | h
   ·exact ⟨_,h,.inl rfl⟩
   ·exact ⟨_,h,.inr (.inl rfl)⟩
   ·exact ⟨_,h,.inr (.inr rfl)⟩
  obtain ⟨k,ek,hk⟩:=e3'
  obtain ⟨k',e',q⟩:=Js ek
  have hm:=Yi e'
  obtain ⟨nc,nl,fr⟩:=ji ok hm
  have hk':k' = .free:=by
   rcases q with q | q
   ·rcases hk with hk | hk | hk
    ·have hl':k' = .local:=q.symm.trans hk
     exact absurd (hN ▸ List.mem_of_getElem? e1') (nl hl').2
    ·exact absurd (q.symm.trans hk) nc
    ·exact q.symm.trans hk
   ·exact q.1
  have hX:X.env.kindOf x=some .cell\/X.env.kindOf x=some .free:=by
   have:=fr hk'
   rw [<- hsc] at this
   exact this
  obtain ⟨m₀,hn₀,hl₀⟩:=I.loc
  obtain ⟨u,r,look⟩:=hl₀ i x v e1' e2 (.inr hX)
  refine ⟨u,r,.inr ⟨?_,?_⟩⟩
  ·show (relabel scope X.env).names.lookup x=some .cell\/(relabel scope X.env).names.lookup x=some .free
   rcases hk with hk | hk | hk
   ·exfalso
    rcases q with q | q
    ·rw [hk] at q;rw [hk'] at q;cases q
    ·rw [hk] at q;exact nomatch q.2
   ·exact .inl (hk ▸ ek)
   ·exact .inr (hk ▸ ek)
  ·rcases look with ⟨z,_⟩ | ⟨_,c,ec,hcell⟩
   ·exfalso
    rcases hX with h | h <;> rw [h] at z <;> cases z
   ·obtain ⟨c',ec'⟩:=Y.has x (by
     rcases hk with hk | hk | hk
     ·exfalso
      rcases q with q | q
      ·rw [hk] at q;rw [hk'] at q;cases q
      ·rw [hk] at q;exact nomatch q.2
     ·exact .inl (hk ▸ ek)
     ·exact .inr (hk ▸ ek))
    have hcl:cl.lookup x=some c':=ec'
    have:c'=c:=Option.some.inj ((hc1 x c' hcl).symm.trans ec)
    subst this
    refine ⟨c',hcl,?_⟩
    obtain ⟨o,ho,hd⟩:=hcell
    exact ⟨o,old _ _ ho,hd⟩
 cell:=fun x c e=>by
  obtain ⟨v,o,ho,hd⟩:=I.cell x c (hc1 x c e)
  exact ⟨v,o,old _ _ ho,hd⟩
 free:=I.hok.fresh hC
 freeC:=fun x c e=>I.freeC x c (hc1 x c e)
 pin:=fun p hp=>absurd (show p∈([]:List (Addr×Obj)) from hp) (by simp)
 hok:=I.hok.kept old
 len:=by
  show _=(X.N++L).length
  have hl:σ.length=X.N.length:=I.len
  simp [hl]
theorem qcM {pins:List (Addr×Obj)}{σ σ':St}{H H':Hp}{s₂ s':Shared}{L:List Str}{scope:Scope}{cl:List (Str×Addr)}{fp:List Addr}{its:List Value}{ys:List V}{D C:Addr}{n:Nat}{pl:List (Addr×Obj)}
  (I:Inv X pins σ H s₂) (hf:∀ b∈fp,qdb X pins H b) (hD:s₂.heap.objs.size=D)
  (J:Inv (yr X L scope cl C s₂ H fp) pl σ' H' s') (hpD:s'.heap.get? D=some { cls:=.type "list",data:=.seq its.toArray n }) (hHD:H' D=none) (hv:yo ys its) (hz:ys.length<=sizeLine) :
  Inv X pins σ (upd H' D (.lst ys)) s':=by
 have B:Un (frs X.stack) fp H H' s₂.heap s'.heap:=J.base
 have neD:∀ b o,s₂.heap.get? b=some o->b≠D:=fun b o e=>by rw [<- hD];exact qq (qf e)
 refine I.call' (ch:=fp) J.os ⟨B.keep,B.slot,fun b o e hn hx=>?_,B.there,fun b xs e=>?_,fun b o u e=>?_,fun b ps e=>?_⟩ (fun b o e=>?_) J.bare (fun b hb=>⟨(hf b hb).2.2.2.1,(hf b hb).2.1,(hf b hb).2.2.2.2.1,(hf b hb).2.2.2.2.2⟩)
 ·rw [qV (neD b o e)];exact B.free b o e hn hx
 ·have:=B.tups b xs e
  rw [qV (qS this hHD)];exact this
 ·have:=B.frzs b o u e
  rw [qV (qS this hHD)];exact this
 ·obtain ⟨more,this⟩:=B.tbls b ps e
  exact ⟨more,by rw [qV (qS this hHD)];exact this⟩
 ·by_cases hb:b=D
  ·subst hb
   rw [yb] at e
   cases e
   exact ⟨hz,its,n,hv,hpD⟩
  ·rw [qV hb] at e
   exact (J.hok b o e).stay (fun _ _ _ q=>q) (fun c q=>by rw [qV (qS q hHD)];exact q) fun c xs q=>by rw [qV (qS q hHD)];exact q
theorem Yn {pins:List (Addr×Obj)}{σ:St}{H:Hp}{s₂:Shared}{L:List Str}{scope:Scope}{cl:List (Str×Addr)}{fp:List Addr}{sc:Scope}{N:List Str}{tg elt iter:Expr}{ifs:List Expr}{pos:Pos}
  {g:TG}{tt:TT}{te:TE}{Q:VK}{J:It}{it:Addr}{tn:Nat->Heap->Prop}{RR:Value->Addr->Result->Shared->Prop}{E:Value->Shared->Prop}
  (hc:X.calm=true) (hsc:X.env.scope=sc) (hN:X.N=N) (ok:jQ sc N L scope=true) (hc1:∀ x c,cl.lookup x=some c->X.env.cells.lookup x=some c)
  (hc2:∀ y∈scope.names,y.2 = .free->∃ c,cl.lookup y.1=some c)
  (hg:∀ cl C s₂ H₂ fp,PG (yr X L scope cl C s₂ H₂ fp) tg g) (hi:∀ cl C s₂ H₂ fp,Ifs (yr X L scope cl C s₂ H₂ fp) ifs tt) (he:∀ cl C s₂ H₂ fp,PE (yr X L scope cl C s₂ H₂ fp) elt te)
  (I:Inv X pins σ H s₂) (T:Turn X.prog X.w X.K tg J fp it tn) (st:tn 0 s₂.heap) (hf:∀ b∈fp,qdb X pins H b) (hw:qet L.length g tt te σ Q J H)
  (hR:∀ D C m H' s' ys,s'.heap.Ns C m->s₂.heap.objs.size=D->s₂.heap.objs.size<C->H' C=none->D≠C->Inv X pins σ (upd H' D (.lst ys)) s'->Q (.ref D) (upd H' D (.lst ys))->RR (.ref D) C (.ok .next) s') :
  wpAny (model X.prog X.w) X.A (newList []) (fun acc s₃=>wpAny (model X.prog X.w) X.A (newFunctionEnv scope X.env.globals cl [] X.env.qual none .none (some X.env)) (fun cenv s₄ =>
   codeAny (model X.prog X.w) X.A (.compStart (.ListComp elt [⟨tg,iter,ifs,0⟩] scope pos) 0 (.ref it) acc { cenv with scope:=relabel scope X.env }) (RR acc cenv.locals) s₄) E s₃) E s₂:=by
 refine wpAny_newObj_type (wpAny_newFunctionEnv (fun y hy=>(ji ok hy).1) (by intro y hy;simp at hy) (fun h₁ hns₁ hsb₁=>?_) (jF ok))
 dsimp only at hns₁ hsb₁ ⊢
 generalize hH2:s₂.heap.push { cls:=.type "list",dict:=none,data:=.seq ([]:List Value).toArray }=H2 at hns₁ hsb₁ ⊢
 have hC:H2.objs.size=s₂.heap.objs.size+1:=by rw [<- hH2,Heap.size_push]
 have hCle:s₂.heap.objs.size<=H2.objs.size:=by rw [hC];exact Nat.le_succ _
 have hDC:s₂.heap.objs.size≠H2.objs.size:=by rw [hC];exact qq (Nat.lt_succ_self _)
 have hlt:∀ b∈fp,b<s₂.heap.objs.size:=fun b hb=>by
  obtain ⟨o,e,_⟩:=T.obj 0 _ st b hb
  exact qf e
 have below:∀ b,b<s₂.heap.objs.size->b≠H2.objs.size:=fun b hb=>by rw [hC];exact qq (Nat.lt_succ_of_lt hb)
 have old:∀ b o,s₂.heap.get? b=some o->h₁.get? b=some o:=fun b o e=>hsb₁.extBut b o (below b (qf e)) (qc _ (hH2 ▸ qc _ e))
 have hacc:h₁.get? s₂.heap.objs.size=some { cls:=.type "list",data:=.seq ([]:List Value).toArray 0 }:=hsb₁.extBut _ _ hDC (qc _ (hH2 ▸ qt _ rfl))
 have Yok:=qgG (L:=L) (scope:=scope) (cl:=cl) (C:=H2.objs.size) (fp:=fp) I hsc hN ok hc1 hc2 hf hlt hCle
 generalize hDn:s₂.heap.objs.size=D at *
 generalize hCn:H2.objs.size=C at *
 have st₁:tn 0 h₁:=T.keep _ _ _ st fun b _ o e=>old b o e
 -- the block's own iterators
 have cellD:∀ x c,cl.lookup x=some c->c≠D:=fun x c e=>by
  obtain ⟨v,q⟩:=I.cell x c (hc1 x c e)
  rw [<- hDn]
  exact qq q.lt
 have fpY:∀ {H':Hp}{its:List Value}{n:Nat},(∀ b∈fp,H' b=none)->∀ b∈fp,qdb (yr X L scope cl C s₂ H fp) [(D,{ cls:=.type "list",data:=.seq its.toArray n })] H' b:=fun {H' its n} hn b hb=>by
  refine ⟨hn b hb,(Yok.exf b hb).1,Yok.exfs b hb,.inl hb,(Yok.exf b hb).2,fun p hp=>?_⟩
  have e:p=(D,{ cls:=.type "list",data:=.seq its.toArray n }):=by
   have:p∈[(D,({ cls:=.type "list",data:=.seq its.toArray n }:Obj))]:=hp
   simpa using this
  subst e
  exact Ne.symm (qq (hlt b hb))
 have nfsD:D∉(yr X L scope cl C s₂ H fp).fs:=fun z=>by
  obtain ⟨_,o,ho,_⟩:=Yok.funs.mem z
  exact absurd (show D<s₂.heap.objs.size from qf ho) (by rw [hDn];exact yJ _)
 have pinD:∀ {σ':St}{H':Hp}{s':Shared}{pl:List (Addr×Obj)}{its:List Value}{n:Nat},Inv (yr X L scope cl C s₂ H fp) pl σ' H' s'->s'.heap.get? D=some { cls:=.type "list",data:=.seq its.toArray n }->H' D=none →
   Inv (yr X L scope cl C s₂ H fp) [(D,{ cls:=.type "list",data:=.seq its.toArray n })] σ' H' s':=fun {σ' H' s' pl its n} J e hn=>J.pins_of fun p hp=>by
  have e':p=(D,{ cls:=.type "list",data:=.seq its.toArray n }):=by simpa using hp
  subst e'
  exact ⟨e,hn,hDC,nfsD,fun v z=>by cases z⟩
 have I₁:Inv (yr X L scope cl C s₂ H fp) [] (σ++List.replicate L.length none) H { s₂ with heap:=h₁,toks:=s₂.toks+([]:List (Str×Value)).length } :=
  qaY I hsc hN ok hc1 Yok (by rw [hDn];exact hCle) rfl I.bare old hns₁
 have HD:H D=none:=I.hok.fresh (by rw [hDn];exact qk _)
 obtain ⟨W,⟨m0,w0⟩,turn⟩:=hw
 have loop:codeAny (model X.prog X.w) X.A (.compLoop (.ListComp elt [⟨tg,iter,ifs,0⟩] scope pos) 0 (.ref it) (.ref D) (compEnvC scope cl C X.env)) (RR (.ref D) C)
   { s₂ with heap:=h₁,toks:=s₂.toks+([]:List (Str×Value)).length }:=by
  refine jV (fun n s'=>∃ i ys its k σ' H',Inv (yr X L scope cl C s₂ H fp) [(D,{ cls:=.type "list",data:=.seq its.toArray k })] σ' H' s'/\yo ys its/\ys.length<=sizeLine/\tn i s'.heap/\(∀ b∈fp,H' b=none)/\W i n ys σ' H')
   ?_ m0 ⟨0,[],[],0,_,H,pinD I₁ hacc HD,.nil,yc _,st₁,fun b hb=>(hf b hb).1,w0⟩
  rintro n s3 ⟨i,ys,its,k,σ3,H3,I3,hv3,hz3,st3,fr3,w3⟩
  have hp3:=I3.pin (D,{ cls:=.type "list",data:=.seq its.toArray k }) (by simp)
  rcases turn i n ys σ3 H3 w3 with ⟨stop,q⟩ | ⟨go,hlen,Nx,hNx,step⟩
  ·refine thn (T.done (yr X L scope cl C s₂ H fp) rfl rfl rfl hc i _ s3 σ3 H3 _ I3 (fpY fr3) st3 stop) fun r s4 ⟨hr,I4⟩=>?_
   subst hr
   have hp4:=I4.pin (D,{ cls:=.type "list",data:=.seq its.toArray k }) (by simp)
   obtain ⟨m4,hn4,_⟩:=I4.loc
   exact hR D C m4 H3 s4 ys hn4 rfl (by rw [hC];exact Nat.lt_succ_self _) I4.free hDC (qcM I hf hDn I4 hp4.1 hp4.2.1 hv3 hz3) (q D hp4.2.1)
  ·refine thn (T.item (yr X L scope cl C s₂ H fp) rfl rfl rfl hc i _ s3 σ3 H3 _ I3 (fpY fr3) st3 go) fun r s4 ⟨u,hr,h4⟩=>?_
   subst hr
   refine thn h4 fun _ s5 hq9=>?_
   obtain ⟨x,H5,I5,r5,y5,st5,fr5⟩:=hq9
   have I5':=I5.pinned (fpY fr5) (T.obj _ _ st5)
   refine thn (hg cl C s₂ H fp _ s5 σ3 H5 x u _ I5' r5 (step x H5 y5)) fun _ s6 hq9=>?_
   obtain ⟨σ6,H6,I6,q6⟩:=hq9
   refine thn (hi cl C s₂ H fp _ s6 σ6 H6 _ I6 q6) fun ok s7 hq9=>?_
   obtain ⟨H7,I7,q7⟩:=hq9
   have later:∀ {σ':St}{H':Hp}{s':Shared},Inv (yr X L scope cl C s₂ H fp) ([(D,{ cls:=.type "list",data:=.seq its.toArray k })]++Y5 fp s5.heap) σ' H' s' →
     tn (i+1) s'.heap/\(∀ b∈fp,H' b=none)/\s'.heap.get? D=some { cls:=.type "list",data:=.seq its.toArray k }/\H' D=none:=fun {σ' H' s'} J=>by
    refine ⟨T.keep _ _ _ st5 fun b hb o e=>(J.pin (b,o) (qy _ (qy _ (jU hb e)))).1,fun b hb=>?_,?_⟩
    ·obtain ⟨o,e,d⟩:=T.obj _ _ st5 b hb
     exact (J.pin (b,o) (qy _ (qy _ (jU hb e)))).2.1
    ·have z:=J.pin (D,{ cls:=.type "list",data:=.seq its.toArray k }) (qy _ (yv _ (by simp)))
     exact ⟨z.1,z.2.1⟩
   cases ok with
   | false =>
    rw [if_neg (by simp)] at q7 ⊢
    obtain ⟨m',hm',w'⟩:=hNx _ _ _ q7
    obtain ⟨t1,t2,t3,t4⟩:=later I7
    exact ⟨m',hm',i+1,ys,its,k,σ6,H7,pinD I7 t3 t4,hv3,hz3,t1,t2,w'⟩
   | true =>
    rw [if_pos rfl] at q7 ⊢
    refine thn (he cl C s₂ H fp _ s7 σ6 H7 _ I7 q7) fun y s8 hq9=>?_
    obtain ⟨v,H8,I8,r8,q8⟩:=hq9
    obtain ⟨m',hm',w'⟩:=hNx _ _ _ q8
    obtain ⟨t1,t2,t3,t4⟩:=later I8
    refine append_at (hsz:=by rw [List.size_toArray,<- hv3.length];exact hz3) t3 fun h9 hs9 hD9=>?_
    have nbD:∀ b∈fp,b≠D:=fun b hb=>qq (hlt b hb)
    have I9:Inv (yr X L scope cl C s₂ H fp) [] σ6 H8 { s8 with heap:=h9 }:=(I8.pins_of (pins':=[]) (fun p hp=>by simp at hp)).turned (it:=D) (t':=s8.toks) (fun b o hb e=>hs9.extBut b o hb e) t4 hDC
     (.inr (by show s₂.heap.objs.size<=D;rw [hDn];exact qk _)) cellD (fun p hp=>by
      have:p∈([]:List (Addr×Obj)):=hp
      simp at this)
    refine ⟨m',hm',i+1,ys++[v],its++[y],k+1,σ6,H8,pinD I9 (by rw [hD9];simp) t4,hv3.append (.cons r8 .nil),by simp;omega,T.keep _ _ _ t1 fun b hb o e=>hs9.extBut b o (nbD b hb) e,t2,w'⟩
 exact codeAny_compStart_list loop (T.self _ 0 _ _ _ st₁ loop)
end
section
variable {X:Cx}
theorem qfX {L:List Str}{scope sc:Scope}{N:List Str}{tg elt iter:Expr}{ifs:List Expr}{pos:Pos}{wi:TI}{g:TG}{tt:TT}{te:TE}
  (hc:X.calm=true) (hsc:X.env.scope=sc) (hN:X.N=N) (ok:jQ sc N L scope=true)
  (hi:PI X tg iter wi) (hg:∀ cl C s₂ H₂ fp,PG (yr X L scope cl C s₂ H₂ fp) tg g) (hf:∀ cl C s₂ H₂ fp,Ifs (yr X L scope cl C s₂ H₂ fp) ifs tt) (he:∀ cl C s₂ H₂ fp,PE (yr X L scope cl C s₂ H₂ fp) elt te)
  (hs:∀ x,foldedSetIterable iter X.env x=pure x:=by intro _;rfl) :
  PE X (.ListComp elt [⟨tg,iter,ifs,0⟩] scope pos) (qfu L.length wi g tt te):=by
 intro pins s σ H Q I h
 obtain ⟨cl,hcl,hc1,hc2⟩:=Yo (env:=X.env) (scope:=scope) fun y hy hfr=>by
  refine I.ok.has y.1 ?_
  have z:=(ji ok hy).2.2 hfr
  rw [<- hsc] at z
  exact z
 rw [eval_ListComp]
 refine wpAny_comprehension_free (use:=none) rfl hs hcl (jF ok) (fun y hy hl=>((ji ok hy).2.1 hl).1) (thn (hi pins s σ H _ I h) fun v s1 h1=>thn h1 fun itv s2 h2=>?_)
 obtain ⟨it,fp,tn,J,H2,e,I2,T,st2,f2,hw⟩:=h2
 subst e
 refine Yn (RR:=fun acc C=>compPost (model X.prog X.w) X.A X.xe none (EP X pins σ Q) acc C) hc hsc hN ok hc1 hc2 hg hf he I2 T st2 f2 hw ?_
 intro D C m H' s' ys hns hD hC hHC hDC J' q
 refine ⟨m,hns,fun h'' hs''=>⟨.ref D,upd H' D (.lst ys),?_,rfl,q⟩⟩
 have hsz:=I2.sz
 refine J'.turned (it:=C) (t':=s'.toks) (fun b o hb e=>hs''.extBut b o hb e) (by rw [qV (Ne.symm hDC)];exact hHC) (Ne.symm (qq (Nat.lt_trans I2.lt hC))) (.inr (qz hsz (yp hC))) (fun x c e=>?_) (fun p hp=>?_)
 ·obtain ⟨v,z⟩:=I2.cell x c e
  exact qq (Nat.lt_trans z.lt hC)
 ·exact qq (Nat.lt_trans (qf (I2.pin p hp).1) hC)
theorem qfN {i:Nat}{x:Str}{pos' spos:Pos}{L:List Str}{scope sc:Scope}{N:List Str}{tg elt iter:Expr}{ifs:List Expr}{pos:Pos}{wi:TI}{g:TG}{tt:TT}{te:TE}
  (hNd:X.N.Nodup) (hxi:X.N[i]?=some x) (hx:Loc X.env.scope x)
  (hc:X.calm=true) (hsc:X.env.scope=sc) (hN:X.N=N) (ok:jQ sc N L scope=true)
  (hi:PI X tg iter wi) (hg:∀ cl C s₂ H₂ fp,PG (yr X L scope cl C s₂ H₂ fp) tg g) (hf:∀ cl C s₂ H₂ fp,Ifs (yr X L scope cl C s₂ H₂ fp) ifs tt) (he:∀ cl C s₂ H₂ fp,PE (yr X L scope cl C s₂ H₂ fp) elt te)
  (hsw:swapsWith (.ListComp elt [⟨tg,iter,ifs,0⟩] scope pos) (some (.Name x pos')) spos.line X.env=pure true:=by rfl)
  (hs:∀ x,foldedSetIterable iter X.env x=pure x:=by intro _;rfl)
  (hfn:X.fn x=true\/X.env.scope.names.lookup x=some .local:=by first | exact .inl rfl | exact .inr rfl | assumption) :
  PS X (.Assign [.Name x pos'] (.ListComp elt [⟨tg,iter,ifs,0⟩] scope pos) spos) (tAsg (qfu L.length wi g tt te) (qdV i)):=by
 intro pins s σ H D I h
 obtain ⟨cl,hcl,hc1,hc2⟩:=Yo (env:=X.env) (scope:=scope) fun y hy hfr=>by
  refine I.ok.has y.1 ?_
  have z:=(ji ok hy).2.2 hfr
  rw [<- hsc] at z
  exact z
 rw [exec_Assign_Name_used _ _ _ _ hsw]
 refine qb (wpAny_standAt (qb ?_))
 show wpAny _ X.A (do let _ <- comprehension (.ListComp elt [⟨tg,iter,ifs,0⟩] scope pos) scope X.env _ (newList []) false (eval iter X.env) (some (assign (.Name x pos') X.env))) _ _ s
 refine qb (yD (wpAny_comprehension_free (use:=some (assign (.Name x pos') X.env)) (Q:=fun _ s'=>SP X pins D .next s') rfl hs hcl (jF ok) (fun y hy hl=>((ji ok hy).2.1 hl).1)
  (thn (hi pins s σ H _ I h) fun v s1 h1=>thn h1 fun itv s2 h2=>?_)) (fun _ s' hq=>qd (qd hq)) fun _ _ e=>e)
 obtain ⟨it,fp,tn,J,H2,e,I2,T,st2,f2,hw⟩:=h2
 subst e
 refine Yn (RR:=fun acc C=>compPost (model X.prog X.w) X.A X.xe (some (assign (.Name x pos') X.env)) (fun _ s'=>SP X pins D .next s') acc C) hc hsc hN ok hc1 hc2 hg hf he I2 T st2 f2 hw ?_
 intro D' C m H' s' ys hns hD hC hHC hDC J' q
 have hsz:=I2.sz
 have neL:C≠X.env.locals:=Ne.symm (qq (Nat.lt_trans I2.lt hC))
 have neC:∀ x c,X.env.cells.lookup x=some c->c≠C:=fun x c e=>by
  obtain ⟨v,z⟩:=I2.cell x c e
  exact qq (Nat.lt_trans z.lt hC)
 show wpAny _ X.A (assign (.Name x pos') X.env (.ref D')) _ _ s'
 refine wpAny_assign_Name (YY J' hNd hxi hx (v:=.ref D') rfl (fun s'' J'' ⟨a,hsb,ha⟩=>?_) hfn)
 have haC:C≠a:=by
  rcases ha with ha | ha
  ·rw [ha];exact neL
  ·exact Ne.symm (neC x a ha)
 refine ⟨m,hns.sameBut hsb haC,fun h'' hs''=>⟨_,upd H' D' (.lst ys),?_,q⟩⟩
 refine J''.turned (it:=C) (t':=s''.toks) (fun b o hb e=>hs''.extBut b o hb e) (by rw [qV (Ne.symm hDC)];exact hHC) neL (.inr (qz hsz (yp hC))) neC (fun p hp=>?_)
 exact qq (Nat.lt_trans (qf (I2.pin p hp).1) hC)
end
section
variable {X:Cx}
def Big (i:Int):Prop:=i.natAbs<2 ^ 1000
theorem Big.of {i:Int}(b:Int) (hb:b<2 ^ 1000) (h1:-b<=i) (h2:i<=b):Big i:=by
 unfold Big
 have:(i.natAbs:Int)<=b:=by omega
 have h3:(i.natAbs:Int)<2 ^ 1000:=Int.lt_of_le_of_lt this hb
 exact_mod_cast h3
theorem Big.bits {i:Int}(h:Big i):Builtin.Int.intBits i<=2 ^ 20:=by
 unfold Builtin.Int.intBits
 by_cases h0:i.natAbs=0
 ·have:i=0:=by omega
  subst this
  decide
 ·have:=(Nat.log2_lt h0).mpr h
  split <;> omega
def qeq (i j:Int):Prop:=Big i/\Big j
theorem ZM:OpR X (binaryOp .Mult) (rI qeq fun i j=>.int (i * j)):=opI fun _ _ _ _ _ _ _ hc q=>mul_int q (IntMulOk.of_bits hc.1.bits hc.2.bits)
def qa3 (i j:Int):Prop:=j≠0/\Big j
theorem Yz:OpR X (binaryOp .FloorDiv) (rI qa3 fun i j=>.int (i.fdiv j)):=opI fun i j _ _ _ _ _ hc q=>floordiv_int hc.1 q (.inl (PyProof.noPylong_of_log2 (by
 by_cases h0:j.natAbs=0
 ·rw [h0];decide
 ·have:=(Nat.log2_lt h0).mpr hc.2
  omega)))
end
mutual
inductive Is (K:W.Frag) (H:Hp):V->PyData->Prop
 | non:Is K H .non .none
 | bl (b:Bool):Is K H (.bl b) (.bool b)
 | int (i:Int):Is K H (.int i) (.int i)
 | str (x:Str):Is K H (.str x) (.str x)
 | lst {a:Addr}{xs:List V}{ds:List PyData}:SqL K H a xs->IsAll K H xs ds->Is K H (.ref a) (.list ds)
 | tup {a:Addr}{xs:List V}{ds:List PyData}:SqT K H a xs->IsAll K H xs ds->Is K H (.ref a) (.tuple ds)
 | dc {a:Addr}:H a=some (.dK [])->Is K H (.ref a) (.dict [])
inductive IsAll (K:W.Frag) (H:Hp):List V->List PyData->Prop
 | nil:IsAll K H [] []
 | cons {x:V}{xs:List V}{d:PyData}{ds:List PyData}:Is K H x d->IsAll K H xs ds->IsAll K H (x::xs) (d::ds)
end
theorem IsAll.ints {K:W.Frag}{H:Hp}:∀ ns:List Int,IsAll K H (ns.map V.int) (ns.map PyData.int)
 | []=>.nil
 | n::ns=>.cons (.int n) (IsAll.ints ns)
theorem IsAll.bools {K:W.Frag}{H:Hp}:∀ ns:List Bool,IsAll K H (ns.map V.bl) (ns.map PyData.bool)
 | []=>.nil
 | n::ns=>.cons (.bl n) (IsAll.bools ns)
section
variable {X:Cx}{pins:List (Addr×Obj)}{σ:St}{H:Hp}{s:Shared}
mutual
theorem Is.reads (I:Inv X pins σ H s):∀ {x:V}{d:PyData}{u:Value},Is X.K H x d->jl x u->∃ as,Reads s.heap u d as
 | _,_,_,.non,r=>by cases r;exact ⟨_,.none⟩
 | _,_,_,.bl b,r=>by cases r;exact ⟨_,.bool b⟩
 | _,_,_,.int i,r=>by obtain ⟨t,rfl⟩:=r;exact ⟨_,.int i t⟩
 | _,_,_,.str i,r=>by obtain ⟨t,rfl⟩:=r;exact ⟨_,.str i t⟩
 | _,_,_,.lst hq hs,r=>by
  cases r
  obtain ⟨its,rv,pl,hz⟩:=I.list hq
  obtain ⟨as,ra⟩:=IsAll.reads I hs rv
  obtain ⟨o,ho,hc,n,hd⟩:=pl.isList
  exact ⟨_,.list ho hc hd (by simpa using ra)⟩
 | _,_,_,.tup hq hs,r=>by
  cases r
  obtain ⟨its,rv,pl,hz⟩:=I.tuple hq
  obtain ⟨as,ra⟩:=IsAll.reads I hs rv
  obtain ⟨o,ho,hc,n,hd⟩:=pl
  exact ⟨_,.tuple ho hc hd (by simpa using ra)⟩
 | _,_,_,.dc (a:=a) e,r=>by
  cases r
  obtain ⟨_,_,vs,kv,o,es,ep,h1,h2,h3,h4,h5,h6⟩:=(show jq X.prog X.w H s.heap a (.dK []) from I.hok a _ e)
  have hv:vs=[]:=by cases kv;rfl
  subst hv
  have he:es.toList=[]:=by
   generalize es.toList=l at h5
   cases h5
   rfl
  exact ⟨_,.dict h1 h2.1 h3 (by rw [he];exact .nil) (by rw [he];exact .nil)⟩
theorem IsAll.reads (I:Inv X pins σ H s):∀ {xs:List V}{ds:List PyData}{us:List Value},IsAll X.K H xs ds->yo xs us->∃ as,ReadsAll s.heap us ds as
 | _,_,_,.nil,r=>by cases r;exact ⟨_,.nil⟩
 | _,_,_,.cons h hs,r=>by
  cases r with
  | cons r1 r2 =>
   obtain ⟨as,ra⟩:=Is.reads I h r1
   obtain ⟨bs,rb⟩:=IsAll.reads I hs r2
   exact ⟨_,.cons ra rb⟩
end
end
section
variable {X:Cx}
def rEqD (K:W.Frag):R2:=fun x y H Q=>∃ d d',Is K H x d/\Is K H y d'/\SeqAt.shaped d=true/\SeqAt.shaped d'=true/\Q (.bl (PyData.eqv d d')) H
def rNeD (K:W.Frag):R2:=fun x y H Q=>∃ d d',Is K H x d/\Is K H y d'/\SeqAt.shaped d=true/\SeqAt.shaped d'=true/\Q (.bl (!PyData.eqv d d')) H
theorem qhL (hu:X.A.units+64<cLine):OpR X (compareOp .Eq) (rEqD X.K):=by
 intro pins s σ H x y v u Q I rx ry h
 obtain ⟨d,d',h1,h2,h3,h4,q⟩:=h
 obtain ⟨as,ra⟩:=h1.reads I rx
 obtain ⟨bs,rb⟩:=h2.reads I ry
 exact eq_dataH ra rb h3 h4 hu ⟨.bl _,H,I,rfl,q⟩
theorem qhJ (hu:X.A.units+64<cLine):OpR X (compareOp .NotEq) (rNeD X.K):=by
 intro pins s σ H x y v u Q I rx ry h
 obtain ⟨d,d',h1,h2,h3,h4,q⟩:=h
 obtain ⟨as,ra⟩:=h1.reads I rx
 obtain ⟨bs,rb⟩:=h2.reads I ry
 exact ne_dataH ra rb h3 h4 hu ⟨.bl _,H,I,rfl,q⟩
theorem qfe {bs:List Bool}{its:List Value}(r:yo (bs.map V.bl) its) {i:Nat}{v:Value}(e:its[i]?=some v):v = .bool (bs.getD i false):=by
 have hl:=r.length
 rw [List.length_map] at hl
 have hi:i<its.length:=(qo.mp e).1
 have hb:(bs.map V.bl)[i]?=some (V.bl (bs.getD i false)):=by
  rw [List.getElem?_map]
  have:bs[i]?=some (bs.getD i false):=by
   rw [qw,List.getElem?_eq_getElem (by omega)];rfl
  rw [this];rfl
 obtain ⟨u,eu,ru⟩:=r.get hb
 rw [e] at eu
 cases eu
 exact ru
theorem qbI (bs:List Bool):(List.range bs.length).all (fun i=>bs.getD i false)=bs.all id:=by
 rw [Bool.eq_iff_iff]
 simp only [List.all_eq_true,List.mem_range,id]
 constructor
 ·intro h b hb
  obtain ⟨i,hi,rfl⟩:=y7.mp hb
  have:=h i hi
  rwa [qw,List.getElem?_eq_getElem hi] at this
 ·intro h i hi
  rw [qw,List.getElem?_eq_getElem hi]
  exact h _ (qE hi)
theorem qbH (bs:List Bool):(List.range bs.length).any (fun i=>bs.getD i false)=bs.any id:=by
 rw [Bool.eq_iff_iff]
 simp only [List.any_eq_true,List.mem_range,id]
 constructor
 ·rintro ⟨i,hi,h⟩
  rw [qw,List.getElem?_eq_getElem hi] at h
  exact ⟨_,qE hi,h⟩
 ·rintro ⟨b,hb,h⟩
  obtain ⟨i,hi,rfl⟩:=y7.mp hb
  refine ⟨i,hi,?_⟩
  rw [qw,List.getElem?_eq_getElem hi]
  exact h
theorem qef (hc:X.calm=true):yA X (.builtin "all") (fun xs H Q=>∃ (p:Addr) (bs:List Bool),xs=[.ref p]/\SqL X.K H p (bs.map V.bl)/\Q (.bl (bs.all id)) H):=by
 intro pins s σ H xs us Q I r h
 obtain ⟨p,bs,rfl,hq,q⟩:=h
 obtain ⟨u,rfl,rx⟩:=J9 r
 cases rx
 obtain ⟨its,rv,pl,hz⟩:=I.list hq
 have hl:=rv.length
 rw [List.length_map] at hl
 refine call_all_walk (wpAny_pyIter_list pl.isList ?_)
 have hlt:p<s.heap.objs.size:=by obtain ⟨o,e,_⟩:=pl.isList;exact qf e
 refine ⟨s.heap.objs.size,_,_,_,_,_,fun i=>bs.getD i false,rfl,Walks.list (A:=X.A.in1) (I.ok.hd hc) s.heap.objs.size p (qq hlt) its.toArray,⟨⟨_,qt _ rfl,rfl,rfl⟩,pl.isList.push _⟩,?_,fun h' tk k=>?_⟩
 ·intro i v s Q E e hQ
  have e':its[i]?=some v:=by simpa using e
  rw [qfe rv e']
  exact wpAny_truthy_bool hQ
 ·rw [List.size_toArray,<- hl,qbI]
  refine ⟨.bl _,H,I.kept (fun b o e=>k b o (fun hb=>?_) (qc _ e)),rfl,q⟩
  have:b=s.heap.objs.size:=by simpa using hb
  exact absurd (this ▸ qf e) (yJ _)
theorem qee (hc:X.calm=true):yA X (.builtin "any") (fun xs H Q=>∃ (p:Addr) (bs:List Bool),xs=[.ref p]/\SqL X.K H p (bs.map V.bl)/\Q (.bl (bs.any id)) H):=by
 intro pins s σ H xs us Q I r h
 obtain ⟨p,bs,rfl,hq,q⟩:=h
 obtain ⟨u,rfl,rx⟩:=J9 r
 cases rx
 obtain ⟨its,rv,pl,hz⟩:=I.list hq
 have hl:=rv.length
 rw [List.length_map] at hl
 refine call_any_walk (wpAny_pyIter_list pl.isList ?_)
 have hlt:p<s.heap.objs.size:=by obtain ⟨o,e,_⟩:=pl.isList;exact qf e
 refine ⟨s.heap.objs.size,_,_,_,_,_,fun i=>bs.getD i false,rfl,Walks.list (A:=X.A.in1) (I.ok.hd hc) s.heap.objs.size p (qq hlt) its.toArray,⟨⟨_,qt _ rfl,rfl,rfl⟩,pl.isList.push _⟩,?_,fun h' tk k=>?_⟩
 ·intro i v s Q E e hQ
  have e':its[i]?=some v:=by simpa using e
  rw [qfe rv e']
  exact wpAny_truthy_bool hQ
 ·rw [List.size_toArray,<- hl,qbH]
  refine ⟨.bl _,H,I.kept (fun b o e=>k b o (fun hb=>?_) (qc _ e)),rfl,q⟩
  have:b=s.heap.objs.size:=by simpa using hb
  exact absurd (this ▸ qf e) (yJ _)
end
theorem jS:bootBuiltins "len" = some (.builtin "len"):=by decide +kernel
theorem Zr:bootBuiltins "abs" = some (.builtin "abs"):=by decide +kernel
theorem qcX:bootBuiltins "max" = some (.builtin "max"):=by decide +kernel
theorem qcW:bootBuiltins "min" = some (.builtin "min"):=by decide +kernel
theorem qiL:bootBuiltins "all" = some (.builtin "all"):=by decide +kernel
theorem qiK:bootBuiltins "any" = some (.builtin "any"):=by decide +kernel
theorem Zq:bootBuiltins "sorted" = some (.builtin "sorted"):=by decide +kernel
theorem Jh:bootBuiltins "isinstance" = some (.builtin "isinstance"):=by decide +kernel
theorem qgH:bootBuiltins "bool" = some (.type "bool"):=by decide +kernel
theorem ZZ:bootBuiltins "list" = some (.type "list"):=by decide +kernel
theorem qei:bootBuiltins "tuple" = some (.type "tuple"):=by decide +kernel
theorem qiI:bootBuiltins "set" = some (.type "set"):=by decide +kernel
def NoX (CX:CXT):Prop:=∀ o H s e s',CX o H s E0 e s'->False
theorem Y9:NoX CX0:=fun _ _ _ _ _ h=>h
theorem passN {CX:CXT}{X:Cx}(h:NoX CX):qc5 CX X E0:=fun _ _ _ _ _ _ _ q=>(h _ _ _ _ _ q).elim
def Own (P:Program) (w:World) (K:W.Frag) (mg:Str->Option Value) (base:Heap) (CX:CXT) (k:Nat) (x:Str) (ps:List Str) (sp:Sp):Prop :=
 ∃ (f:Addr) (fd:FuncData),FnOk P w K mg base CX k f fd ps sp/\mg x=some (.ref f)/\W.keepIn K (.ref f)=true/\Z2 K fd ps []
section
variable {X:Cx}{CX:CXT}{k:Nat}{x:Str}{ps:List Str}{sp:Sp}{e:Expr}{es:List Expr}{t:TA}{p pos:Pos}
theorem qhB (O:Own X.prog X.w X.K X.mg X.base CX k x ps sp) (hX:NoX CX) (hr:Room k X.A) (hg:Gl X x) (ha:PA X (e::es) t) (hdb:(x == ("__debug__" : Str))=false:=by decide)
  (he:starEach (e::es) X.env=(false,eval e X.env)::starEach es X.env:=by rfl) (hpl:(backTo pos (starEach es X.env)).any (·.1)=false:=by rfl):PE X (.Call (.Name x p) (e::es) [] pos) (qg3 sp [] E0 t):=by
 obtain ⟨f,fd,F,hm,hk,hb⟩:=O
 exact qfZ F hr hg hm hk hb .nil (passN hX) ha hdb he hpl
end
section
variable {P:Program}{w:World}{K:W.Frag}{mg:Str->Option Value}{base:Heap}{CX:CXT}
theorem Fun.okG {x qual:Str}{st:Stmt}{f:Addr}{fd:FuncData}{N ps:List Str}{k:Nat}{sp:Sp}(F:Fun K x qual st f fd) (S:FnScope N ps (qu st)) (len:∀ vs H Q E,sp vs H Q E->vs.length=ps.length)
  (hbody:∀ (cdv:Value) (A:Around) (outer:List Env) (s:Shared) (H:Hp) (vs:List V) (Q:VK) (E:XK),Room k (A.deeper (envOfC qual (qu st) s.heap.objs.size f cdv))->sp vs H Q E →
   ∃ t,PSs (qc9 CX P w K mg base N qual (qu st) f cdv A outer s H E).nox (yX st) t/\t { nx:=fun _ H'=>Q .non H',rt:=Q } (Yq N vs) H):FnOk P w K mg base CX (k+1) f fd ps sp:=by
 obtain ⟨oc,od,kV,doc,pm,an,cdv,ct,osl,rfl,lk,hcd⟩:=F.ex
 refine qih lk hcd S len fun A outer s H vs Q E hr hsp=>?_
 obtain ⟨t,h,q⟩:=hbody cdv A outer s H vs Q E hr hsp
 exact ⟨t,h.nox,q⟩
end
def Pot (M:Int) (H:Hp) (p:Addr):Prop:=∃ p0 p1:Int,H p=some (.lst [.int p0,.int p1])/\0<=p0/\0<=p1/\p1<M
def Stp (p:Addr) (H H':Hp):Prop:=∀ b o,H b=some o->b≠p->H' b=some o
theorem Stp.refl {p:Addr}{H:Hp}:Stp p H H:=fun _ _ e _=>e
theorem Stp.trans {p:Addr}{H H1 H2:Hp}(a:Stp p H H1) (b:Stp p H1 H2):Stp p H H2:=fun c o e n=>b c o (a c o e n) n
theorem Stp.upd {p:Addr}{H:Hp}{o:HO}:Stp p H (upd H p o):=fun b u e n=>by rw [qV n];exact e
theorem qZ.stp {p:Addr}{H H':Hp}(h:qZ H H'):Stp p H H':=fun b o e _=>h b o e
theorem qZ.upd {p:Addr}{H:Hp}{o:HO}(h:H p=none):qZ H (upd H p o):=fun b u e=>by rw [qV (qS e h)];exact e
theorem Stp.free {p:Addr}{H H':Hp}(h:Stp p H H') {l:Addr}(e:H' l=none) (hp:∃ o,H' p=some o):H l=none:=by
 cases q:H l with
 | none=>rfl
 | some o =>
  by_cases hl:l=p
  ·subst hl
   obtain ⟨u,hu⟩:=hp
   rw [hu] at e;cases e
  ·rw [h l o q hl] at e;cases e
theorem Pot.some {M:Int}{H:Hp}{p:Addr}(h:Pot M H p):∃ o,H p=some o:=let ⟨_,_,e,_⟩:=h;⟨_,e⟩
theorem Stp.lst {K:W.Frag}{p a:Addr}{H H':Hp}{xs:List V}(h:Stp p H H') (e:SqL K H a xs) (n:a≠p):SqL K H' a xs:=by
 rcases e with (e | ⟨o,e⟩) | e
 ·exact .inl (.inl (h _ _ e n))
 ·exact .inl (.inr ⟨o,h _ _ e n⟩)
 ·exact .inr e
def qa4 (H:Hp) (v:V) (ns:List Int):Prop:=∃ a,v = .ref a/\H a=some (.tup (ns.map V.int))
theorem qa4.is {K:W.Frag}{H:Hp}{v:V}{ns:List Int}(h:qa4 H v ns):Is K H v (.tuple (ns.map PyData.int)):=by
 obtain ⟨a,rfl,e⟩:=h
 exact .tup (SqT.of e) (IsAll.ints ns)
theorem qa4.same {H H':Hp}{v:V}{ns:List Int}(s:qZ H H') (h:qa4 H v ns):qa4 H' v ns:=by
 obtain ⟨a,rfl,e⟩:=h
 exact ⟨a,rfl,s _ _ e⟩
theorem qa4.stp {p:Addr}{M:Int}{H H':Hp}{v:V}{ns:List Int}(s:Stp p H H') (hp:Pot M H p) (h:qa4 H v ns):qa4 H' v ns:=by
 obtain ⟨a,rfl,e⟩:=h
 obtain ⟨_,_,q,_⟩:=hp
 exact ⟨a,rfl,s _ _ e (qhY e q (by intro z;cases z))⟩
abbrev Pt:=Int×Int
def PtAt (H:Hp) (v:V) (q:Pt):Prop:=qa4 H v [q.1,q.2]
abbrev Pts (H:Hp):List V->List Pt->Prop:=Paired (PtAt H)
theorem Paired.get {α β:Type}{R:α->β->Prop}:∀ {xs:List α}{ys:List β}{i:Nat}{x:α},Paired R xs ys->xs[i]?=some x->∃ y,ys[i]?=some y/\R x y
 | _,_,_,_,.nil,e=>by simp at e
 | _,_,0,_,.cons r _,e=>by simp at e;subst e;exact ⟨_,rfl,r⟩
 | _,_,i+1,x,.cons _ t,e=>by
  obtain ⟨u,h1,h2⟩:=Paired.get (i:=i) (x:=x) t (by simpa using e)
  exact ⟨u,by simpa using h1,h2⟩
theorem Paired.get' {α β:Type}{R:α->β->Prop}:∀ {xs:List α}{ys:List β}{i:Nat}{y:β},Paired R xs ys->ys[i]?=some y->∃ x,xs[i]?=some x/\R x y
 | _,_,_,_,.nil,e=>by simp at e
 | _,_,0,_,.cons r _,e=>by simp at e;subst e;exact ⟨_,rfl,r⟩
 | _,_,i+1,x,.cons _ t,e=>by
  obtain ⟨u,h1,h2⟩:=Paired.get' (i:=i) (y:=x) t (by simpa using e)
  exact ⟨u,by simpa using h1,h2⟩
theorem Paired.len {α β:Type}{R:α->β->Prop}{xs:List α}{ys:List β}(h:Paired R xs ys):xs.length=ys.length:=PySem.Paired.length h
theorem Pts.same {H H':Hp}{vs:List V}{ps:List Pt}(s:qZ H H') (h:Pts H vs ps):Pts H' vs ps:=Paired.mapP h fun _ _ q=>qa4.same s q
theorem Pts.stp {p:Addr}{M:Int}{H H':Hp}{vs:List V}{ps:List Pt}(s:Stp p H H') (hp:Pot M H p) (h:Pts H vs ps):Pts H' vs ps:=Paired.mapP h fun _ _ q=>qa4.stp s hp q
def ptD (q:Pt):PyData:=.tuple [.int q.1,.int q.2]
theorem Pts.is {K:W.Frag}{H:Hp}:∀ {vs:List V}{ps:List Pt},Pts H vs ps->IsAll K H vs (ps.map ptD)
 | _,_,.nil=>.nil
 | _,_,.cons r t=>.cons (qa4.is r) (Pts.is t)
theorem qff {n:Int}(h1:-10000000000000000000000000000000000000000<=n) (h2:n<=10000000000000000000000000000000000000000):Big n:=Big.of 10000000000000000000000000000000000000000 (by decide) h1 h2
theorem sz2:2<=sizeLine:=by decide
theorem sz1:1<=sizeLine:=by decide
theorem Pot.upd {M:Int}{H:Hp}{p l:Addr}{o:HO}(h:Pot M H p) (n:p≠l):Pot M (upd H l o) p:=by
 obtain ⟨p0,p1,e,r⟩:=h
 exact ⟨p0,p1,by rw [qV n];exact e,r⟩
theorem Pot.same {M:Int}{H H':Hp}{p:Addr}(h:Pot M H p) (s:qZ H H'):Pot M H' p:=by
 obtain ⟨p0,p1,e,r⟩:=h
 exact ⟨p0,p1,s _ _ e,r⟩
theorem Pts.upd {H:Hp}{l:Addr}{us vs xs:List V}{ps:List Pt}(h:Pts H vs ps) (e:H l=some (.lst us)):Pts (upd H l (.lst xs)) vs ps :=
 Paired.mapP h fun _ _ ⟨a,r,q⟩=>⟨a,r,by rw [qV (qhY q e (by intro z;cases z))];exact q⟩
section
variable {X:Cx}{K:W.Frag}
end
section
variable {P:Program}{w:World}{H:Hp}{h:Heap}{a:Addr}{o:HO}
theorem jq.has (x:jq P w H h a o):∃ ob,h.get? a=some ob:=by
 cases o with
 | lst xs=>obtain ⟨_,_,_,_,e⟩:=x;exact ⟨_,e⟩
 | tup xs=>obtain ⟨_,_,_,ob,e,_⟩:=x;exact ⟨_,e⟩
 | dK kvs=>obtain ⟨_,_,_,_,ob,_,_,e,_⟩:=x;exact ⟨_,e⟩
 | dT kvs=>obtain ⟨_,_,_,_,ob,_,_,e,_⟩:=x;exact ⟨_,e⟩
 | set S n=>obtain ⟨ob,_,_,_,e,_⟩:=x;exact ⟨_,e⟩
 | ins C dx fs=>obtain ⟨_,_,_,e,_⟩:=x;exact ⟨_,e⟩
 | own y=>exact x
 | xd fs=>obtain ⟨_,⟨_,_,_,e,_⟩,_⟩:=x;exact ⟨_,e⟩
 | rng lo hi=>obtain ⟨_,_,_,e⟩:=x;exact ⟨_,e⟩
 | frz ob u=>obtain ⟨e,_⟩:=x;exact ⟨_,e⟩
 | tbl ps=>exact ⟨_,(show h.get? a=some _ from x)⟩
 | met f y=>exact ⟨_,(show h.get? a=some _ from x)⟩
 | ext φ=>obtain ⟨_,e,_⟩:=x;exact e
end
section
variable {P:Program}{w:World}{K:W.Frag}{mg:Str->Option Value}{base:Heap}{N:List Str}{qual:Str}{scope:Scope}{f C:Addr}{cd:Value}{A:Around}{outer:List Env}{s:Shared}{H:Hp}{E:XK}
 {x:Str}{B newId initId:String}{bmB:List Value}{e₀:Expr}{yP:List Expr}{t:TA}{np cpos pos:Pos}
end
section
variable {X:Cx}{pins:List (Addr×Obj)}{σ:St}{H H':Hp}{s:Shared}
theorem Inv.goes {i:Nat}{n:Str}{h':Heap}{m:Str->Option Value}{v:Option Value}(I:Inv X pins σ H s) (hN:X.N.Nodup) (hi:X.N[i]?=some n) (hn:s.heap.Ns X.env.locals m)
  (hl:∀ (j:Nat) (x:Str) (v:V),X.N[j]?=some x->σ[j]?=some (some v)->Vis X.env.scope x->∃ u,jl v u/\Look X.env s.heap m x u)
  (hn':h'.Ns X.env.locals (fun x=>if x=n then v else m x)) (hs:Heap.SameBut X.env.locals s.heap h') (tk:Nat):Inv X pins (σ.set i none) H { s with heap:=h',toks:=tk }:=by
 have keepb:∀ b o,b≠X.env.locals->s.heap.get? b=some o->h'.get? b=some o:=fun b o hb e=>(hs.2 b hb).trans e
 have neL:∀ b o,X.s₀.heap.get? b=some o->b≠X.env.locals:=fun b o e=>qq (qA (qf e) I.ok.above)
 refine ⟨I.ok,I.os,I.bare,⟨fun b o e n hb hx=>keepb b o (neL b o e) (I.base.keep b o e n hb hx),fun b o e n hb hx=>?_,I.base.free,fun b o e hx=>?_,I.base.tups,I.base.frzs,I.base.tbls⟩,⟨_,hn',fun j y u e1 e2 e3=>?_⟩,fun y c e=>?_,I.free,I.freeC,fun p hp=>?_,fun b u e=>?_,by simpa using I.len⟩
 ·obtain ⟨sl,e1⟩:=I.base.slot b o e n hb hx
  exact ⟨sl,keepb b _ (neL b o e) e1⟩
 ·obtain ⟨o',e1⟩:=I.base.there b o e hx
  exact ⟨o',keepb b _ (neL b o e) e1⟩
 ·have hji:j≠i:=by
   rintro rfl
   rw [List.getElem?_set] at e2
   simp only [if_true] at e2
   split at e2 <;> cases e2
  rw [List.getElem?_set_ne (Ne.symm hji)] at e2
  obtain ⟨u',r,q⟩:=hl j y u e1 e2 e3
  refine ⟨u',r,?_⟩
  rcases q with ⟨k,e⟩ | ⟨k,c,e,z⟩
  ·refine .inl ⟨k,?_⟩
   have hy:y≠n:=fun z=>hji (YA hN e1 (z ▸ hi))
   simp [hy,e]
  ·exact .inr ⟨k,c,e,z.sameBut hs (I.cne y c e)⟩
 ·obtain ⟨v',z⟩:=I.cell y c e
  exact ⟨v',z.sameBut hs (I.cne y c e)⟩
 ·obtain ⟨e,n,ne,nf,d⟩:=I.pin p hp
  exact ⟨keepb _ _ ne e,n,ne,nf,d⟩
 ·refine (I.hok b u e).stay (fun c v hc q=>keepb c v ?_ q) (fun _ q=>q) fun _ _ q=>q
  rintro rfl
  rcases hc with z | z
  ·rw [<- z,I.free] at e;cases e
  ·rw [I.free] at z;cases z
end
abbrev blank (n:Nat):St:=List.replicate n none
section
variable {X:Cx}
end
end L2
namespace L2
open PySem PySem.Spec PyProof.Rows PySem.W Builtin Builtin.ObjectAttr Builtin.Getset_descriptor
section
variable {prog:Program}{w:World}{A:Around}{E:Value->Shared->Prop}{K:Frag}{x C:Addr}
structure ExcCls (K:Frag) (C:Addr):Prop where
 ga:findIn K (.ref C) "__getattribute__" = some (some (.builtin "BaseException.__getattribute__"))
 gb:findIn K (.ref C) "__getattr__" = some none
 cl:findIn K (.ref C) "__class__" = some (some (.builtin "object.__class__"))
 gt:specialIn K (.builtin "object.__class__") "__get__" = some (some (.builtin "getset_descriptor.__get__"))
 tk:takesIn K (.builtin "object.__class__")=some true
 ob:mroIn K C (.type "object")=some true
 be:mroIn K C (.type "BaseException")=some true
 ct:(clsIn K C).isSome=true
end
section
variable {K:Frag}{x C:Addr}
end
def clsV:V->Value->Prop
 | .ref D,u=>u = .ref D
 | .ty n,u=>u = .type n
 | _,_=>False
theorem clsV.rel {v:V}{u u':Value}(h:clsV v u) (r:jl v u'):u'=u:=by
 cases v <;> first | exact h.elim | (cases h;cases r;rfl)
open PySem PySem.Spec PyProof.Rows
section
variable {X:Cx}{pins:List (Addr×Obj)}{σ:St}{H:Hp}{s:Shared}
theorem Inv.laidN {a:Addr}{o:HO}{h':Heap}{t':Nat}(I:Inv X pins σ H s) (k:∀ b u,s.heap.get? b=some u->h'.get? b=some u) (hp:s.heap.get? a=none) (new:jq X.prog X.w (upd H a o) h' a o) :
  H a=none/\Inv X pins σ (upd H a o) { s with heap:=h',toks:=t' }:=by
 have hn:H a=none:=by
  cases z:H a with
  | none=>rfl
  | some u =>
   obtain ⟨ob,e⟩:=(I.hok a u z).has
   rw [hp] at e;cases e
 refine ⟨hn,I.un ⟨fun b u q _ _ _=>k b u q,fun b u q _ _ _=>⟨u.slots,k b u q⟩,fun b u q n _=>?_,fun b u q _=>⟨u,k b u q⟩,fun b xs q=>?_,fun b u xs q=>?_,fun b ps q=>?_⟩ fun b u e=>?_⟩
 ·rw [qV (fun z=>by rw [z,hp] at q;cases q)];exact n
 ·rw [qV (qS q hn)];exact q
 ·rw [qV (qS q hn)];exact q
 ·exact ⟨#[],by rw [qV (qS q hn),q];simp⟩
 ·by_cases hb:b=a
  ·subst hb
   rw [yb] at e;cases e;exact new
  ·rw [qV hb] at e
   exact (I.hok b u e).stay (fun c v _ q=>k c v q) (fun c q=>by rw [qV (qS q hn)];exact q) fun c xs q=>by rw [qV (qS q hn)];exact q
end
section
variable {X:Cx}{K:W.Frag}{C:Addr}{x:Str}{e:Expr}{es:List Expr}{t:TA}{p pos:Pos}
end
structure RoomU (k:Nat) (A:Around):Prop where
 dp:A.depth+3 * k+5<recursionLimit
 un:A.units+16 * k+200<cLine
theorem Room.toU {k:Nat}{A:Around}(r:Room k A):RoomU k A:=⟨r.dp,r.un⟩
theorem RoomU.mono {j k:Nat}{A:Around}(r:RoomU k A) (h:j<=k):RoomU j A:=⟨by have:=r.dp;omega,by have:=r.un;omega⟩
theorem RoomU.units {k:Nat}{A:Around}(r:RoomU k A):A.units+64<cLine:=by have:=r.un;omega
structure FnU (P:Program) (w:World) (K:W.Frag) (mg:Str->Option Value) (base:Heap) (CX:CXT) (k:Nat) (f:Addr) (fd:FuncData) (ps:List Str) (sp:Sp):Prop where
 len:∀ vs H Q E,sp vs H Q E->vs.length=ps.length
 run:∀ (A:Around) (outer:List Env) (s:Shared) (H:Hp) (args:Args) (us:List Value) (vs:List V) (Q:VK) (E:XK),RoomU k A->Env0 P w K mg base A outer s H->BindsTo s fd args (ps.zip us)->yo vs us->sp vs H Q E →
  codeAny (model P w) A (.call (.ref f) args) (CR CX outer P w H s Q E) s
theorem FnU.ok {P:Program}{w:World}{K:W.Frag}{mg:Str->Option Value}{base:Heap}{CX:CXT}{k:Nat}{f:Addr}{fd:FuncData}{ps:List Str}{sp:Sp}(F:FnU P w K mg base CX k f fd ps sp):FnOk P w K mg base CX k f fd ps sp :=
 ⟨F.len,fun A outer s H args us vs Q E hr=>F.run A outer s H args us vs Q E hr.toU⟩
section
variable {P:Program}{w:World}{K:W.Frag}{mg:Str->Option Value}{base:Heap}{CX:CXT}
end
def OwnU (P:Program) (w:World) (K:W.Frag) (mg:Str->Option Value) (base:Heap) (CX:CXT) (k:Nat) (x:Str) (ps:List Str) (sp:Sp):Prop :=
 ∃ (f:Addr) (fd:FuncData),FnU P w K mg base CX k f fd ps sp/\mg x=some (.ref f)/\W.keepIn K (.ref f)=true/\Z2 K fd ps []
theorem OwnU.own {P:Program}{w:World}{K:W.Frag}{mg:Str->Option Value}{base:Heap}{CX:CXT}{k:Nat}{x:Str}{ps:List Str}{sp:Sp}(O:OwnU P w K mg base CX k x ps sp):Own P w K mg base CX k x ps sp :=
 let ⟨f,fd,F,r⟩:=O;⟨f,fd,F.ok,r⟩
section
variable {X:Cx}{CX:CXT}{k:Nat}{x:Str}{ps:List Str}{sp:Sp}{e:Expr}{es:List Expr}{t:TA}{p pos:Pos}
end
end L2
namespace L2
open PySem PySem.Spec PyProof.Rows PySem.W
structure Ord (f:Nat->Nat->Bool):Prop where
 asym:∀ a b,f a b=true->f b a=false
 neg:∀ a b c,f a c=true->f a b=true\/f b c=true
abbrev gD (p:Array Nat) (i:Nat):Nat:=p.getD i 0
theorem qie {p q:Array Nat}{i j:Nat}(h:p[i]?=q[j]?):gD p i=gD q j:=by
 simp only [gD,Array.getD_eq_getD_getElem?,h]
section
variable {f:Nat->Nat->Bool}
theorem Ord.irr (O:Ord f) (a:Nat):f a a=false:=by
 cases h:f a a with
 | false=>rfl
 | true=>rw [O.asym a a h] at h;cases h
theorem Ord.le (O:Ord f) {a b c:Nat}(h1:f b a=false) (h2:f c b=false):f c a=false:=by
 cases h:f c a with
 | false=>rfl
 | true=>rcases O.neg _ b _ h with z | z <;> simp_all
theorem Ord.ltl (O:Ord f) {a b c:Nat}(h1:f a b=true) (h2:f c b=false):f a c=true:=by
 rcases O.neg _ c _ h1 with z | z
 ·exact z
 ·rw [h2] at z;cases z
theorem Ord.lel (O:Ord f) {a b c:Nat}(h1:f b a=false) (h2:f b c=true):f a c=true:=by
 rcases O.neg _ a _ h2 with z | z
 ·rw [h1] at z;cases z
 ·exact z
def qa2 (f:Nat->Nat->Bool) (p:Array Nat) (k:Nat):Prop:=∀ i j,i<=j->j<k->f (gD p j) (gD p i)=false
def qgQ (f:Nat->Nat->Bool) (p:Array Nat) (k:Nat):Prop:=∀ i j,i<=j->j<k->f (gD p i) (gD p j)=false
def Eqv (f:Nat->Nat->Bool) (a b:Nat):Prop:=f a b=false/\f b a=false
theorem Eqv.refl (O:Ord f) (a:Nat):Eqv f a a:=⟨O.irr a,O.irr a⟩
theorem Eqv.symm {a b:Nat}(h:Eqv f a b):Eqv f b a:=⟨h.2,h.1⟩
theorem Eqv.trans (O:Ord f) {a b c:Nat}(h:Eqv f a b) (g:Eqv f b c):Eqv f a c:=⟨O.le g.1 h.1,O.le h.2 g.2⟩
theorem qa2.one (O:Ord f) (p:Array Nat):qa2 f p 1:=fun i j h1 h2=>by
 have:i=j:=by omega
 subst this;exact O.irr _
theorem qa2.succ (O:Ord f) {p:Array Nat}{k:Nat}(h0:1<=k) (h:qa2 f p k) (g:f (gD p k) (gD p (k - 1))=false):qa2 f p (k+1):=fun i j hij hj=>by
 by_cases e:j=k
 ·subst e
  by_cases e2:i=j
  ·subst e2;exact O.irr _
  ·exact O.le (h i (j - 1) (by omega) (by omega)) g
 ·exact h i j hij (by omega)
theorem qgQ.succ (O:Ord f) {p:Array Nat}{k:Nat}(h0:1<=k) (h:qgQ f p k) (g:f (gD p (k - 1)) (gD p k)=false):qgQ f p (k+1):=fun i j hij hj=>by
 by_cases e:j=k
 ·subst e
  by_cases e2:i=j
  ·subst e2;exact O.irr _
  ·exact O.le g (h i (j - 1) (by omega) (by omega))
 ·exact h i j hij (by omega)
def Arr (n:Nat) (p:Array Nat):Prop:=p.Perm (List.range n).toArray
theorem Arr.size {n:Nat}{p:Array Nat}(h:Arr n p):p.size=n:=by rw [h.size_eq];simp
theorem Arr.lt {n:Nat}{p:Array Nat}(h:Arr n p) {i:Nat}(hi:i<n):gD p i<n:=by
 have hs:=h.size
 have hi':i<p.size:=by omega
 have e:gD p i=p[i]:=by simp [gD,Array.getD,hi']
 rw [e]
 have:p[i]∈p.toList:=by simp
 have:=(yx.mp h).mem_iff.mp this
 simpa using this
theorem Arr.rev {n:Nat}{p:Array Nat}(h:Arr n p) (i j:Nat):Arr n (kas_rev p i j):=(mirror_perm p i j _).trans h
theorem qe3 {p:Array Nat}{i j:Nat}(hj:j<=p.size) (k:Nat):gD (kas_rev p i j) k=if i<=k/\k<j then gD p (i+j - 1 - k) else gD p k:=by
 have e:=getElem?_mirror_all (i:=i) hj k
 unfold kas_rev
 by_cases h1:i<=k/\k<j
 ·rw [if_pos h1] at e ⊢;exact qie e
 ·rw [if_neg h1] at e ⊢;exact qie e
theorem eqv_l (O:Ord f) {a b c:Nat}(h:Eqv f a b):f a c=f b c:=by
 cases h1:f b c with
 | true=>exact O.lel h.2 h1
 | false =>
  cases h2:f a c with
  | false=>rfl
  | true =>
   have:=O.lel h.1 h2
   rw [h1] at this;cases this
theorem eqv_r (O:Ord f) {a b c:Nat}(h:Eqv f a b):f c a=f c b:=by
 cases h1:f c b with
 | true=>exact O.ltl h1 h.1
 | false =>
  cases h2:f c a with
  | false=>rfl
  | true =>
   have:=O.ltl h2 h.2
   rw [h1] at this;cases this
theorem qgQ.eqv (O:Ord f) {p q:Array Nat}{k:Nat}(h:qgQ f p k) (e:∀ i,Eqv f (gD q i) (gD p i)):qgQ f q k:=fun i j h1 h2=>by
 rw [eqv_l O (e i),eqv_r O (e j)];exact h i j h1 h2
theorem qa2.ofRev {p:Array Nat}{k:Nat}(hk:k<=p.size) (h:qgQ f p k):qa2 f (kas_rev p 0 k) k:=fun i j h1 h2=>by
 rw [qe3 hk,qe3 hk,if_pos (by omega),if_pos (by omega)]
 exact h _ _ (by omega) (by omega)
section
variable {n:Nat}{cmp:Nat->Nat->(Bool->Shared->Prop)->Shared->Prop}{s:Shared}
end
end
end L2
namespace L2
open PySem PySem.Spec PyProof.Rows PySem.W
def qce (fin:Bool):List Int->List Int->Bool
 | x::r,y::t=>if x=y then qce fin r t else decide (x<y)
 | _,_=>fin
theorem qcd:∀ ns ms:List Int,qce (decide (ns.length<ms.length)) ns ms=decide (ns<ms)
 | [],[]=>by simp [qce]
 | [],_::_=>by simp [qce]
 | _::_,[]=>by simp [qce]
 | x::r,y::t=>by
  have ih:=qcd r t
  simp only [qce,List.length_cons,Nat.add_lt_add_iff_right]
  by_cases e:x=y
  ·subst e
   rw [if_pos rfl,ih]
   simp [List.cons_lt_cons_iff]
  ·rw [if_neg e]
   simp [List.cons_lt_cons_iff,e]
theorem qap {a b:List Int}(h:a<b):¬ b<a:=fun g=>List.lt_irrefl a (List.lt_trans h g)
theorem qb8 (ks:Nat->List Int):Ord fun i j=>decide (ks i<ks j) where
 asym a b h:=decide_eq_false (qap (qN h))
 neg a b c h:=by
  have h:=qN h
  by_cases e:ks a<ks b
  ·exact .inl (qO e)
  ·exact .inr (qO (List.lt_of_le_of_lt (List.not_lt.mp e) h))
def y3 (h:Heap) (v:Value) (ks:List Int):Prop:=∃ b o xs n,v = .ref b/\h.get? b=some o/\o.cls = .type "tuple" /\ o.data = .seq xs n/\IntsAre xs.toList ks/\ks≠[]
theorem y3.kept {h h':Heap}{v:Value}{ks:List Int}(k:∀ b o,h.get? b=some o->o.cls = .type "tuple" -> h'.get? b=some o) (t:y3 h v ks):y3 h' v ks:=by
 obtain ⟨b,o,xs,n,e,ho,hc,r⟩:=t
 exact ⟨b,o,xs,n,e,k b o ho hc,hc,r⟩
section
variable {prog:Program}{w:World}{A:Around}{E:Value->Shared->Prop}{s:Shared}
theorem qeW {fin:Bool}{Q:Bool->Shared->Prop}:∀ {xs ys:List Value}{ns ms:List Int}(i:Nat),IntsAre xs ns->IntsAre ys ms->Q (qce fin ns ms) s->KatLex prog w A true fin Q (xs.zip ys) i s
 | _,_,_,_,i,.nil,_,q=>kat_nil (by simpa [qce] using q)
 | _,_,_,_,i,.cons _ _ _,.nil,q=>kat_nil (by simpa [qce] using q)
 | _,_,_,_,i,.cons x t hx,.cons y u hy,q=>by
  refine kat_cons (wpAny_eqBool_int ?_)
  by_cases e:x=y
  ·subst e
   rw [beq_self_eq_true]
   exact kat_yes (qeW (i+1) hx hy (by simpa [qce] using q))
  ·have hb:(x == y)=false:=by simpa using e
   rw [hb]
   have q':Q (decide (x<y)) s:=by simpa [qce,e] using q
   refine kat_no ?_
   cases i with
   | zero=>exact oneLt_int q'
   | succ i=>exact kat_one _ _ (lt_int q')
theorem lt_wp {v u:Value}{ns ms:List Int}{Q:Bool->Shared->Prop}(h1:y3 s.heap v ns) (h2:y3 s.heap u ms) (q:Q (decide (ns<ms)) s):wpAny (model prog w) A (keyLt' (tuples' true) v u) Q E s:=by
 obtain ⟨a,o,xs,n,rfl,ho,_,hd,hi,_⟩:=h1
 obtain ⟨b,o',ys,n',rfl,ho',_,hd',hi',_⟩:=h2
 refine kat_lt ho hd ho' hd' (qeW 0 hi hi' ?_)
 have e1:=IntsAre.length hi
 have e2:=IntsAre.length hi'
 simp only [Array.length_toList] at e1 e2
 rw [e1,e2,qcd]
 exact q
theorem JR {h:Heap}:∀ {vs:List Value}{kss:List (List Int)},PySem.Paired (y3 h) vs kss->∃ fs:List Value,KatTups h vs fs/\fs.length=vs.length/\∀ v∈fs,∃ i t,v = .int i t
 | _,_,.nil=>⟨[],trivial,rfl,fun _ z=>nomatch z⟩
 | _,_,.cons ⟨a,o,xs,n,e,ho,hc,hd,hi,hn⟩ r=>by
  obtain ⟨fs,k,hl,hf⟩:=JR r
  subst e
  obtain ⟨l⟩:=xs
  cases hi with
  | nil=>exact absurd rfl hn
  | cons i t hr =>
   refine ⟨.int i t::fs,KatTups.cons ho hc hd rfl k,by simp [hl],fun v hv=>?_⟩
   rcases List.mem_cons.mp hv with rfl | hv
   ·exact ⟨i,t,rfl⟩
   ·exact hf v hv
theorem qgi {vs:List Value}{kss:List (List Int)}{Q:SortKind->Shared->Prop}(hT:PySem.Paired (y3 s.heap) vs kss) (h2:0<vs.length) (q:Q (tuples' true) s):wpAny (model prog w) A (keyKind' vs.toArray) Q E s:=by
 obtain ⟨fs,k,hl,hf⟩:=JR hT
 refine kat_kind (T:=.type "int") k (by omega) (fun v hv=>?_) rfl q
 obtain ⟨i,t,rfl⟩:=hf v hv
 exact Looks.now
end
end L2
namespace L2
open PySem PySem.Spec PyProof.Rows PySem.W
structure OrdK (f:Keyed->Keyed->Bool):Prop where
 asym:∀ a b,f a b=true->f b a=false
 neg:∀ a b c,f a c=true->f a b=true\/f b c=true
section
variable {f:Keyed->Keyed->Bool}
theorem OrdK.irr (O:OrdK f) (a:Keyed):f a a=false:=by
 cases h:f a a with
 | false=>rfl
 | true=>rw [O.asym a a h] at h;cases h
theorem OrdK.le (O:OrdK f) {a b c:Keyed}(h1:f b a=false) (h2:f c b=false):f c a=false:=by
 cases h:f c a with
 | false=>rfl
 | true=>rcases O.neg _ b _ h with z | z <;> simp_all
theorem OrdK.ltl (O:OrdK f) {a b c:Keyed}(h1:f a b=true) (h2:f c b=false):f a c=true:=by
 rcases O.neg _ c _ h1 with z | z
 ·exact z
 ·rw [h2] at z;cases z
theorem OrdK.lel (O:OrdK f) {a b c:Keyed}(h1:f b a=false) (h2:f b c=true):f a c=true:=by
 rcases O.neg _ a _ h2 with z | z
 ·rw [h1] at z;cases z
 ·exact z
def SdK (f:Keyed->Keyed->Bool) (l:List Keyed):Prop:=l.Pairwise fun x y=>f y x=false
def Ask (prog:Program) (w:World) (A:Around) (E:Value->Shared->Prop) (s:Shared) (kd:SortKind) (D:Keyed->Prop) (f:Keyed->Keyed->Bool):Prop :=
 ∀ (x y:Keyed) (st:SortSt) (Q:Option Bool->SortSt->Prop),D x->D y->kindOf st=kd->Q (some (f x y)) st->wpS (model prog w) A E s (lt' x y) Q st
end
def yW:Bool->Keyed->Array Keyed->Nat->Nat->Nat->StateT SortSt Sem (Option Nat):=sortPriv% PySem.Builtin.gallop
def j7 (left:Bool) (key:Keyed) (arr:Array Keyed) (base i:Nat):StateT SortSt Sem (Option Bool):=do
  let x <- elem' arr (base+i)
  if left then lt' x key else return (<- lt' key x).map (!·)
theorem qaT (left:Bool) (key:Keyed) (arr:Array Keyed) (base n hint:Nat):yW left key arr base n hint=(do
 let mut lastofs:=0
 let mut ofs:=1
 let mut lo:=0
 let mut hi:=0
 let some right <- j7 left key arr base hint | return none
 if right then
  let maxofs:=n - hint
  for _ in [0:n] do
   if ofs ≥ maxofs then break
   let some more <- j7 left key arr base (hint+ofs) | return none
   if !more then break
   lastofs:=ofs
   ofs:=2 * ofs+1
  lo:=hint+lastofs+1
  hi:=hint+min ofs maxofs
 else
  let maxofs:=hint+1
  for _ in [0:n] do
   if ofs ≥ maxofs then break
   let some found <- j7 left key arr base (hint - ofs) | return none
   if found then break
   lastofs:=ofs
   ofs:=2 * ofs+1
  lo:=hint+1 - min ofs maxofs
  hi:=hint - lastofs
 for _ in [0:n] do
  if lo ≥ hi then break
  let m:=lo+(hi - lo) / 2
  let some more <- j7 left key arr base m | return none
  if more then lo:=m+1 else hi:=m
 return some hi):=rfl
section
variable {prog:Program}{w:World}{A:Around}{E:Value->Shared->Prop}{s:Shared}{kd:SortKind}{D:Keyed->Prop}{f:Keyed->Keyed->Bool}
def byd (f:Keyed->Keyed->Bool) (left:Bool) (key x:Keyed):Bool:=if left then f x key else !f key x
theorem qbd (hA:Ask prog w A E s kd D f) {left:Bool}{key x:Keyed}{arr:Array Keyed}{base i:Nat}{st:SortSt}{Q:Option Bool->SortSt->Prop}(hk:kindOf st=kd) (hx:arr[base+i]?=some x) (dk:D key) (dx:D x) (q:Q (some (byd f left key x)) st) :
  wpS (model prog w) A E s (j7 left key arr base i) Q st:=by
 unfold j7
 rw [elem'_eq,hx]
 refine qe (qj ?_)
 cases left with
 | true=>exact hA _ _ _ _ dx dk hk q
 | false=>exact qe (hA _ _ _ _ dk dx hk (qj q))
theorem qbc (hA:Ask prog w A E s kd D f) {left:Bool}{key:Keyed}{arr:Array Keyed}{base n hint:Nat}{st:SortSt}{Q:Option Nat->SortSt->Prop}(hk:kindOf st=kd) (xs:List Keyed)
  (hn:xs.length=n) (hx:∀ i (h:i<xs.length),arr[base+i]?=some xs[i]) (dk:D key) (dx:∀ x∈xs,D x) (hh:hint<n) (hm:∀ i j (hi:i<xs.length) (hj:j<xs.length),i<=j->byd f left key xs[j]=true->byd f left key xs[i]=true)
  (q:∀ k,k<=n->(∀ i (h:i<xs.length),i<k->byd f left key xs[i]=true)->(∀ i (h:i<xs.length),k<=i->byd f left key xs[i]=false)->Q (some k) st) :
  wpS (model prog w) A E s (yW left key arr base n hint) Q st:=by
 have ask:∀ (i:Nat) (h:i<xs.length) (Q:Option Bool->SortSt->Prop),Q (some (byd f left key xs[i])) st->wpS (model prog w) A E s (j7 left key arr base i) Q st:=fun i h Q q=>qbd hA hk (hx i h) dk (dx _ (qE h)) q
 generalize hp:(fun x=>byd f left key x)=p at *
 have hp':∀ x,byd f left key x=p x:=fun x=>by rw [<- hp]
 simp only [hp'] at hm q ask
 subst hn
 rw [qaT]
 dsimp only
 refine qe (ask hint hh _ ?_)
 dsimp only
 cases hc:p xs[hint] with
 | true =>
  simp only [if_true]
  refine qe (yQ (ya (I:=fun x c st'=>st'=st/\∃ l o,c=(none,l,o)/\l<o/\x+1<=o/\hint+l<xs.length/\(∀ h:hint+l<xs.length,p xs[hint+l]=true))
   (Q:=fun c st'=>st'=st/\∃ l o,c=(none,l,o)/\l<o/\hint+l<xs.length/\(∀ h:hint+l<xs.length,p xs[hint+l]=true)/\(xs.length<=hint+o\/∃ h:hint+o<xs.length,p xs[hint+o]=false)) ?step ?fin ⟨rfl,0,1,rfl,by omega,by omega,hh,fun _=>hc⟩) ?post)
  case fin =>
   rintro c st' ⟨rfl,l,o,rfl,a1,a2,a3,a4⟩
   exact ⟨rfl,l,o,rfl,a1,a3,a4,.inl (by omega)⟩
  case step =>
   rintro x c st' _ hx' ⟨rfl,l,o,rfl,a1,a2,a3,a4⟩
   dsimp only
   by_cases hge:o ≥ xs.length - hint
   ·rw [if_pos hge]
    exact qj ⟨rfl,l,o,rfl,a1,a3,a4,.inl (by omega)⟩
   ·rw [if_neg hge]
    have ho:hint+o<xs.length:=by omega
    refine qe (ask _ ho _ ?_)
    dsimp only
    cases hc2:p xs[hint+o] with
    | true =>
     simp only [Bool.not_true,Bool.false_eq_true,if_false]
     exact qj ⟨rfl,o,2 * o+1,rfl,by omega,by omega,ho,fun _=>hc2⟩
    | false =>
     simp only [Bool.not_false,if_true]
     exact qj ⟨rfl,l,o,rfl,a1,a3,a4,.inr ⟨ho,hc2⟩⟩
  case post =>
   rintro c st' ⟨rfl,l,o,rfl,a1,a3,a4,a5⟩
   dsimp only
   have h3:∀ i (h:i<xs.length),i<(hint+l+1)->p xs[i]=true:=fun i h hi=>by
    exact hm i (hint+l) h a3 (by omega) (a4 a3)
   have h4:∀ i (h:i<xs.length),(hint+min o (xs.length - hint))<=i->p xs[i]=false:=fun i h hi=>by
    rcases a5 with a5 | ⟨a5,a6⟩
    ·exact absurd h (by omega)
    ·cases hz:p xs[i] with
     | false=>rfl
     | true=>rw [hm (hint+o) i a5 h (by omega) hz] at a6;cases a6
   refine qe (yQ (ya (I:=fun x c sx=>sx=st'/\∃ l r,c=(none,l,r)/\l<=r/\r<=xs.length/\r - l<=xs.length - x/\(∀ i (h:i<xs.length),i<l->p xs[i]=true)/\(∀ i (h:i<xs.length),r<=i->p xs[i]=false))
    (Q:=fun c sx=>sx=st'/\∃ r,c=(none,r,r)/\r<=xs.length/\(∀ i (h:i<xs.length),i<r->p xs[i]=true)/\(∀ i (h:i<xs.length),r<=i->p xs[i]=false)) ?step0 ?fin0 ⟨rfl,(hint+l+1),(hint+min o (xs.length - hint)),rfl,by omega,by omega,by omega,h3,h4⟩) ?post0)
   case fin0 =>
    rintro c st' ⟨rfl,l,r,rfl,a1,a2,a3,a4,a5⟩
    have:l=r:=by omega
    subst this
    exact ⟨rfl,l,rfl,a2,a4,a5⟩
   case step0 =>
    rintro x c st' _ hx' ⟨rfl,l,r,rfl,a1,a2,a3,a4,a5⟩
    dsimp only
    by_cases hge:l ≥ r
    ·rw [if_pos hge]
     have:l=r:=by omega
     subst this
     exact qj ⟨rfl,l,rfl,a2,a4,a5⟩
    ·rw [if_neg hge]
     have hmid:l+(r - l) / 2<xs.length:=by omega
     refine qe (ask _ hmid _ ?_)
     dsimp only
     cases hc:p xs[l+(r - l) / 2] with
     | true =>
      simp only [if_true]
      refine qj ⟨rfl,_,_,rfl,by omega,by omega,by omega,fun i h hi=>?_,a5⟩
      exact hm i (l+(r - l) / 2) h hmid (by omega) hc
     | false =>
      simp only [Bool.false_eq_true,if_false]
      refine qj ⟨rfl,_,_,rfl,by omega,by omega,by omega,a4,fun i h hi=>?_⟩
      cases hz:p xs[i] with
      | false=>rfl
      | true=>rw [hm (l+(r - l) / 2) i hmid h hi hz] at hc;cases hc
   case post0 =>
    rintro c st' ⟨rfl,r,rfl,a2,a4,a5⟩
    exact qj (q r a2 a4 a5)
 | false =>
  simp only [Bool.false_eq_true,if_false]
  refine qe (yQ (ya (I:=fun x c st'=>st'=st/\∃ l o,c=(none,l,o)/\l<o/\x+1<=o/\l<=hint/\(∀ h:hint - l<xs.length,p xs[hint - l]=false))
   (Q:=fun c st'=>st'=st/\∃ l o,c=(none,l,o)/\l<o/\l<=hint/\(∀ h:hint - l<xs.length,p xs[hint - l]=false)/\(hint+1<=o\/(o<=hint/\∃ h:hint - o<xs.length,p xs[hint - o]=true))) ?step ?fin ⟨rfl,0,1,rfl,by omega,by omega,by omega,fun _=>hc⟩) ?post)
  case fin =>
   rintro c st' ⟨rfl,l,o,rfl,a1,a2,a3,a4⟩
   exact ⟨rfl,l,o,rfl,a1,a3,a4,.inl (by omega)⟩
  case step =>
   rintro x c st' _ hx' ⟨rfl,l,o,rfl,a1,a2,a3,a4⟩
   dsimp only
   by_cases hge:o ≥ hint+1
   ·rw [if_pos hge]
    exact qj ⟨rfl,l,o,rfl,a1,a3,a4,.inl (by omega)⟩
   ·rw [if_neg hge]
    have ho:hint - o<xs.length:=by omega
    refine qe (ask _ ho _ ?_)
    dsimp only
    cases hc2:p xs[hint - o] with
    | true =>
     simp only [if_true]
     exact qj ⟨rfl,l,o,rfl,a1,a3,a4,.inr ⟨by omega,ho,hc2⟩⟩
    | false =>
     simp only [Bool.false_eq_true,if_false]
     exact qj ⟨rfl,o,2 * o+1,rfl,by omega,by omega,by omega,fun _=>hc2⟩
  case post =>
   rintro c st' ⟨rfl,l,o,rfl,a1,a3,a4,a5⟩
   dsimp only
   have h3:∀ i (h:i<xs.length),i<(hint+1 - min o (hint+1))->p xs[i]=true:=fun i h hi=>by
    rcases a5 with a5 | ⟨a5,a6,a7⟩
    ·exact absurd hi (by omega)
    ·exact hm i (hint - o) h a6 (by omega) a7
   have h4:∀ i (h:i<xs.length),(hint - l)<=i->p xs[i]=false:=fun i h hi=>by
    have hz0:=a4 (by omega)
    cases hz:p xs[i] with
    | false=>rfl
    | true=>rw [hm (hint - l) i (by omega) h hi hz] at hz0;cases hz0
   refine qe (yQ (ya (I:=fun x c sx=>sx=st'/\∃ l r,c=(none,l,r)/\l<=r/\r<=xs.length/\r - l<=xs.length - x/\(∀ i (h:i<xs.length),i<l->p xs[i]=true)/\(∀ i (h:i<xs.length),r<=i->p xs[i]=false))
    (Q:=fun c sx=>sx=st'/\∃ r,c=(none,r,r)/\r<=xs.length/\(∀ i (h:i<xs.length),i<r->p xs[i]=true)/\(∀ i (h:i<xs.length),r<=i->p xs[i]=false)) ?step1 ?fin1 ⟨rfl,(hint+1 - min o (hint+1)),(hint - l),rfl,by omega,by omega,by omega,h3,h4⟩) ?post1)
   case fin1 =>
    rintro c st' ⟨rfl,l,r,rfl,a1,a2,a3,a4,a5⟩
    have:l=r:=by omega
    subst this
    exact ⟨rfl,l,rfl,a2,a4,a5⟩
   case step1 =>
    rintro x c st' _ hx' ⟨rfl,l,r,rfl,a1,a2,a3,a4,a5⟩
    dsimp only
    by_cases hge:l ≥ r
    ·rw [if_pos hge]
     have:l=r:=by omega
     subst this
     exact qj ⟨rfl,l,rfl,a2,a4,a5⟩
    ·rw [if_neg hge]
     have hmid:l+(r - l) / 2<xs.length:=by omega
     refine qe (ask _ hmid _ ?_)
     dsimp only
     cases hc:p xs[l+(r - l) / 2] with
     | true =>
      simp only [if_true]
      refine qj ⟨rfl,_,_,rfl,by omega,by omega,by omega,fun i h hi=>?_,a5⟩
      exact hm i (l+(r - l) / 2) h hmid (by omega) hc
     | false =>
      simp only [Bool.false_eq_true,if_false]
      refine qj ⟨rfl,_,_,rfl,by omega,by omega,by omega,a4,fun i h hi=>?_⟩
      cases hz:p xs[i] with
      | false=>rfl
      | true=>rw [hm (l+(r - l) / 2) i hmid h hi hz] at hc;cases hc
   case post1 =>
    rintro c st' ⟨rfl,r,rfl,a2,a4,a5⟩
    exact qj (q r a2 a4 a5)
end
end L2
namespace L2
open PySem PySem.Spec PyProof.Rows PySem.W
section
variable {f:Keyed->Keyed->Bool}
theorem qeh (O:OrdK f) {left:Bool}{key:Keyed}{xs:List Keyed}(hs:SdK f xs) (i j:Nat) (hi:i<xs.length) (hj:j<xs.length) (hij:i<=j) (h:byd f left key xs[j]=true):byd f left key xs[i]=true:=by
 have hle:f xs[j] xs[i]=false:=by
  by_cases e:i=j
  ·subst e;exact O.irr _
  ·exact qF.mp hs i j hi hj (by omega)
 unfold byd at *
 cases left with
 | true =>
  simp only [if_true] at *
  exact O.lel hle h
 | false =>
  simp only [Bool.false_eq_true,if_false,Bool.not_eq_true'] at *
  exact O.le hle h
theorem mv {out X A B:List Keyed}(h1:SdK f (out++(X++A))) (h2:SdK f (out++B)) (c:∀ x∈X,∀ y∈B,f y x=false):SdK f ((out++X)++A)/\SdK f ((out++X)++B):=by
 unfold SdK at *
 refine ⟨by rw [ql];exact h1,?_⟩
 rw [<- ql] at h1
 obtain ⟨g1,_,_⟩:=qD.mp h1
 obtain ⟨_,k2,k3⟩:=qD.mp h2
 refine qD.mpr ⟨g1,k2,fun x hx y hy=>?_⟩
 rcases List.mem_append.mp hx with h | h
 ·exact k3 x h y hy
 ·exact c x h y hy
theorem qi7 {O' X A B:List Keyed}(h1:SdK f ((A++X)++O')) (h2:SdK f (B++O')) (c:∀ x∈X,∀ y∈B,f x y=false):SdK f (A++(X++O'))/\SdK f (B++(X++O')):=by
 unfold SdK at *
 rw [ql] at h1
 refine ⟨h1,?_⟩
 obtain ⟨_,g1,_⟩:=qD.mp h1
 obtain ⟨k1,_,k3⟩:=qD.mp h2
 refine qD.mpr ⟨k1,g1,fun x hx y hy=>?_⟩
 rcases List.mem_append.mp hy with h | h
 ·exact c y h x hx
 ·exact k3 x hx y h
end
section
variable {prog:Program}{w:World}{A:Around}{E:Value->Shared->Prop}{s:Shared}{kd:SortKind}{D:Keyed->Prop}{f:Keyed->Keyed->Bool}
theorem Yf (hA:Ask prog w A E s kd D f) (O:OrdK f) {left:Bool}{key:Keyed}{arr:Array Keyed}{base n hint:Nat}{st:SortSt}{Q:Option Nat->SortSt->Prop}(hk:kindOf st=kd) (xs:List Keyed)
  (hn:xs.length=n) (hx:∀ i,i<xs.length->arr[base+i]?=xs[i]?) (dk:D key) (dx:∀ x∈xs,D x) (hh:hint<n) (hs:SdK f xs)
  (q:∀ k,k<=n->(∀ x∈xs.take k,byd f left key x=true)->(∀ x∈xs.drop k,byd f left key x=false)->Q (some k) st) :
  wpS (model prog w) A E s (yW left key arr base n hint) Q st:=by
 refine qbc hA hk xs hn (fun i h=>by rw [hx i h,List.getElem?_eq_getElem h]) dk dx hh (qeh O hs) fun k h1 h2 h3=>q k h1 (fun x hx=>?_) (fun x hx=>?_)
 ·obtain ⟨i,hi,rfl⟩:=y7.mp hx
  rw [List.getElem_take]
  exact h2 i _ (by rw [qU] at hi;omega)
 ·obtain ⟨i,hi,rfl⟩:=y7.mp hx
  rw [List.getElem_drop]
  exact h3 (k+i) _ (by omega)
end
def yt (st st':SortSt):Prop:=kindOf st'=kindOf st/\arrOf st'=arrOf st/\pendingOf st'=pendingOf st/\failedOf st'=failedOf st
theorem yt.refl (st:SortSt):yt st st:=⟨rfl,rfl,rfl,rfl⟩
theorem yt.trans {a b c:SortSt}(h:yt a b) (g:yt b c):yt a c:=⟨g.1.trans h.1,g.2.1.trans h.2.1,g.2.2.1.trans h.2.2.1,g.2.2.2.trans h.2.2.2⟩
def JJ:Array Keyed->Array Keyed->StateT SortSt Sem (Array Keyed):=sortPriv% PySem.Builtin.mergeLo
def yg:Nat->StateT SortSt Sem Unit:=sortPriv% PySem.Builtin.setMinGallop
theorem yL (g:Nat):yg g=modify fun s=>SortSt.mk' (kindOf s) (arrOf s) (pendingOf s) g (failedOf s):=rfl
abbrev GS:=Option (Array Keyed)×Array Keyed×Nat×Nat×Nat×Nat×Nat
abbrev CS:=Option (Array Keyed)×Array Keyed×Nat×Nat×Nat×Nat
def qi8 (a b:Array Keyed) (out:Array Keyed) (ia ib mg ac bc:Nat):StateT SortSt Sem (ForInStep GS):=do
 let x <- elem' a ia
 if (ia+1+1 == a.size)=true then pure (.done (some (out.push x++b.extract ib b.size++a.extract (ia+1) a.size),out.push x,ia+1,ib,mg,ac,bc))
 else if (decide (ac<7) && decide (bc<7))=true then pure (.done (none,out.push x,ia+1,ib,mg,ac,bc))
 else pure (.yield (none,out.push x,ia+1,ib,mg,ac,bc))
def loG3 (a b:Array Keyed) (out:Array Keyed) (ia ib mg ac bc:Nat):StateT SortSt Sem (ForInStep GS):=do
 let x <- elem' a ia
 let k <- yW true x b ib (b.size - ib) 0
 match k with
 | some k =>
  if k > 0 then
   if (ib+k == b.size)=true then pure (.done (some (out++b.extract ib (ib+k)++a.extract ia a.size++b.extract (ib+k) b.size),out++b.extract ib (ib+k),ia,ib+k,mg,ac,k))
   else qi8 a b (out++b.extract ib (ib+k)) ia (ib+k) mg ac k
  else qi8 a b out ia ib mg ac k
 | _=>pure (.done (some (out++a.extract ia a.size++b.extract ib b.size),out,ia,ib,mg,ac,bc))
def qi9 (a b:Array Keyed) (out:Array Keyed) (ia ib mg ac bc:Nat):StateT SortSt Sem (ForInStep GS):=do
 let x <- elem' b ib
 if (ib+1 == b.size)=true then pure (.done (some (out.push x++a.extract ia a.size++b.extract (ib+1) b.size),out.push x,ia,ib+1,mg,ac,bc))
 else loG3 a b (out.push x) ia (ib+1) mg ac bc
def qja (a b:Array Keyed) (out:Array Keyed) (ia ib mg ac bc:Nat):StateT SortSt Sem (ForInStep GS):=do
 yg mg
 let x <- elem' b ib
 let k <- yW false x a ia (a.size - ia) 0
 match k with
 | some k =>
  if k > 0 then
   if (ia+k+1 == a.size)=true then pure (.done (some (out++a.extract ia (ia+k)++b.extract ib b.size++a.extract (ia+k) a.size),out++a.extract ia (ia+k),ia+k,ib,mg,k,bc))
   else if (ia+k == a.size)=true then pure (.done (some (out++a.extract ia (ia+k)++a.extract (ia+k) a.size++b.extract ib b.size),out++a.extract ia (ia+k),ia+k,ib,mg,k,bc))
   else qi9 a b (out++a.extract ia (ia+k)) (ia+k) ib mg k bc
  else qi9 a b out ia ib mg k bc
 | _=>pure (.done (some (out++a.extract ia a.size++b.extract ib b.size),out,ia,ib,mg,ac,bc))
def loGB (a b:Array Keyed) (_:Nat) (c:GS):StateT SortSt Sem (ForInStep GS) :=
 if c.2.2.2.2.1 > 1 then qja a b c.2.1 c.2.2.1 c.2.2.2.1 (c.2.2.2.2.1 - 1) c.2.2.2.2.2.1 c.2.2.2.2.2.2 else qja a b c.2.1 c.2.2.1 c.2.2.2.1 c.2.2.2.2.1 c.2.2.2.2.2.1 c.2.2.2.2.2.2
def loCB (a b:Array Keyed) (mg:Nat) (_:Nat) (c:CS):StateT SortSt Sem (ForInStep CS):=do
 let y <- elem' b c.2.2.2.1
 let x <- elem' a c.2.2.1
 let r <- lt' y x
 match r with
 | some bWins =>
  if bWins=true then do
   let y <- elem' b c.2.2.2.1
   if (c.2.2.2.1+1 == b.size)=true then pure (.done (some (c.2.1.push y++a.extract c.2.2.1 a.size++b.extract (c.2.2.2.1+1) b.size),c.2.1.push y,c.2.2.1,c.2.2.2.1+1,0,c.2.2.2.2.2+1))
   else if c.2.2.2.2.2+1 ≥ mg then pure (.done (none,c.2.1.push y,c.2.2.1,c.2.2.2.1+1,0,c.2.2.2.2.2+1))
   else pure (.yield (none,c.2.1.push y,c.2.2.1,c.2.2.2.1+1,0,c.2.2.2.2.2+1))
  else do
   let x <- elem' a c.2.2.1
   if (c.2.2.1+1+1 == a.size)=true then pure (.done (some (c.2.1.push x++b.extract c.2.2.2.1 b.size++a.extract (c.2.2.1+1) a.size),c.2.1.push x,c.2.2.1+1,c.2.2.2.1,c.2.2.2.2.1+1,0))
   else if c.2.2.2.2.1+1 ≥ mg then pure (.done (none,c.2.1.push x,c.2.2.1+1,c.2.2.2.1,c.2.2.2.2.1+1,0))
   else pure (.yield (none,c.2.1.push x,c.2.2.1+1,c.2.2.2.1,c.2.2.2.2.1+1,0))
 | _=>pure (.done (some (c.2.1++a.extract c.2.2.1 a.size++b.extract c.2.2.2.1 b.size),c.2.1,c.2.2.1,c.2.2.2.1,c.2.2.2.2.1,c.2.2.2.2.2))
abbrev OS:=Option (Array Keyed)×Array Keyed×Nat×Nat×Nat
def loOB (a b:Array Keyed) (_:Nat) (c:OS):StateT SortSt Sem (ForInStep OS):=do
 let c1 <- forIn [0:a.size+b.size] ((none,c.2.1,c.2.2.1,c.2.2.2.1,0,0):CS) (loCB a b c.2.2.2.2)
 match c1.1 with
 | some r=>pure (.done (some r,c1.2.1,c1.2.2.1,c1.2.2.2.1,c.2.2.2.2))
 | none=>do
  liftM (rule "list.sort.gallop")
  let c2 <- forIn [0:a.size+b.size] ((none,c1.2.1,c1.2.2.1,c1.2.2.2.1,c.2.2.2.2+1,c1.2.2.2.2.1,c1.2.2.2.2.2):GS) (loGB a b)
  match c2.1 with
  | some r=>pure (.done (some r,c2.2.1,c2.2.2.1,c2.2.2.2.1,c2.2.2.2.2.1))
  | none=>do
   yg (c2.2.2.2.2.1+1)
   pure (.yield (none,c2.2.1,c2.2.2.1,c2.2.2.2.1,c2.2.2.2.2.1+1))
theorem Za (a b:Array Keyed):JJ a b=(do
 rule "list.sort.merge-lo"
 let total:=a.size+b.size
 let done (out:Array Keyed) (ia ib:Nat):=out++a.extract ia a.size++b.extract ib b.size
 let lastOfA (out:Array Keyed) (ia ib:Nat):=out++b.extract ib b.size++a.extract ia a.size
 let mut out:Array Keyed:=#[<- elem' b 0]
 let mut ia:=0
 let mut ib:=1
 if ib == b.size then return done out ia ib
 if ia+1 == a.size then return lastOfA out ia ib
 let mut minGallop:=gallopOf (<- get)
 for _ in [0:total] do
  let mut acount:=0
  let mut bcount:=0
  for _ in [0:total] do
   let some bWins <- lt' (<- elem' b ib) (<- elem' a ia) | return done out ia ib
   if bWins then
    out:=out.push (<- elem' b ib);ib:=ib+1;bcount:=bcount+1;acount:=0
    if ib == b.size then return done out ia ib
    if bcount ≥ minGallop then break
   else
    out:=out.push (<- elem' a ia);ia:=ia+1;acount:=acount+1;bcount:=0
    if ia+1 == a.size then return lastOfA out ia ib
    if acount ≥ minGallop then break
  rule "list.sort.gallop"
  minGallop:=minGallop+1
  for _ in [0:total] do
   if minGallop > 1 then minGallop:=minGallop - 1
   yg minGallop
   let some k <- yW false (<- elem' b ib) a ia (a.size - ia) 0 | return done out ia ib
   acount:=k
   if k > 0 then
    out:=out++a.extract ia (ia+k);ia:=ia+k
    if ia+1 == a.size then return lastOfA out ia ib
    if ia == a.size then return done out ia ib
   out:=out.push (<- elem' b ib);ib:=ib+1
   if ib == b.size then return done out ia ib
   let some k <- yW true (<- elem' a ia) b ib (b.size - ib) 0 | return done out ia ib
   bcount:=k
   if k > 0 then
    out:=out++b.extract ib (ib+k);ib:=ib+k
    if ib == b.size then return done out ia ib
   out:=out.push (<- elem' a ia);ia:=ia+1
   if ia+1 == a.size then return lastOfA out ia ib
   if acount<7 && bcount<7 then break
  minGallop:=minGallop+1
  yg minGallop
 unsupported "internal:list.sort.merge-bound"):=rfl
theorem ZN (a b:Array Keyed):JJ a b=(do
 liftM (rule "list.sort.merge-lo")
 let y <- elem' b 0
 if (1 == b.size)=true then pure (#[y]++a.extract 0 a.size++b.extract 1 b.size)
 else if (0+1 == a.size)=true then pure (#[y]++b.extract 1 b.size++a.extract 0 a.size)
 else do
  let g <- get
  let c <- forIn [0:a.size+b.size] ((none,#[y],0,1,gallopOf g):OS) (loOB a b)
  match c.1 with
  | some r=>pure r
  | none=>liftM (unsupported "internal:list.sort.merge-bound" : Sem (Array Keyed))):=by
 rw [Za]
 dsimp only
 congr 1
 funext _u
 congr 1
 funext y
 congr 1
 congr 1
 congr 1
 funext g
 congr 1
 ·congr 1
  funext i c
  unfold loOB
  congr 1
  funext c1
  obtain ⟨r1,o1,ia1,ib1,ac1,bc1⟩:=c1
  cases r1 with
  | some r=>rfl
  | none =>
   dsimp only
   congr 1
   funext _v
   congr 1
   funext c2
   obtain ⟨r2,o2,ia2,ib2,m2,ac2,bc2⟩:=c2
   cases r2 <;> rfl
 ·funext c
  obtain ⟨r,o,ia,ib,m⟩:=c
  cases r <;> rfl
section
variable {prog:Program}{w:World}{A:Around}{E:Value->Shared->Prop}{s:Shared}{kd:SortKind}{D:Keyed->Prop}{f:Keyed->Keyed->Bool}{a b:Array Keyed}
def j8 (f:Keyed->Keyed->Bool) (a b:Array Keyed) (o:Array Keyed):Prop:=SdK f o.toList/\o.toList.Perm (a.toList++b.toList)
structure JL (f:Keyed->Keyed->Bool) (a b out:Array Keyed) (ia ib:Nat):Prop where
 s1:SdK f (out.toList++a.toList.drop ia)
 s2:SdK f (out.toList++b.toList.drop ib)
 pm:(out.toList++(a.toList.drop ia++b.toList.drop ib)).Perm (a.toList++b.toList)
structure Both (D:Keyed->Prop) (f:Keyed->Keyed->Bool) (a b:Array Keyed):Prop where
 da:∀ x∈a.toList,D x
 db:∀ x∈b.toList,D x
 na:0<a.size
 nb:0<b.size
 last:∀ x∈b.toList,f x (a[a.size - 1]'(by omega))=true
 first:f (b[0]'nb) (a[0]'na)=true
 sa:SdK f a.toList
 sb:SdK f b.toList
theorem JL.size (j:JL f a b out ia ib) (h1:ia<=a.size) (h2:ib<=b.size):out.size=ia+ib:=by
 have:=j.pm.length_eq
 simp at this
 omega
theorem getD? {xs:Array Keyed}{i:Nat}(h:i<xs.size):xs[i]?=some xs[i]:=y6 h
theorem jg {xs:Array Keyed}{i:Nat}(h:i<xs.size):xs.toList.drop i=xs[i]::xs.toList.drop (i+1):=by
 rw [List.drop_eq_getElem_cons (by simpa using h)];rfl
theorem J2 (O:OrdK f) {xs:Array Keyed}{i:Nat}(hs:SdK f xs.toList) (h:i<xs.size) {y:Keyed}(hy:y∈xs.toList.drop i):f y xs[i]=false:=by
 rw [jg h] at hy
 rcases List.mem_cons.mp hy with rfl | hy
 ·exact O.irr _
 ·have:SdK f (xs.toList.drop i):=List.Pairwise.sublist (List.drop_sublist _ _) hs
  rw [jg h] at this
  exact (List.pairwise_cons.mp this).1 _ hy
theorem JL.pushB (O:OrdK f) (hb:Both D f a b) (j:JL f a b out ia ib) (h1:ia<a.size) (h2:ib<b.size) (h:f a[ia] b[ib]=false):JL f a b (out.push b[ib]) ia (ib+1):=by
 have e:=jg h2
 have s2:=j.s2
 have pm:=j.pm
 rw [e] at s2 pm
 obtain ⟨g1,g2⟩:=mv (X:=[b[ib]]) s2 j.s1 (fun x hx y hy=>by
  rw [qx.mp hx]
  exact O.le h (J2 O hb.sa h1 hy))
 refine ⟨by rw [Array.toList_push];exact g2,by rw [Array.toList_push];exact g1,?_⟩
 rw [Array.toList_push,ql]
 refine List.Perm.trans (List.Perm.append_left _ ?_) pm
 exact (List.perm_middle (l₁:=a.toList.drop ia) (l₂:=b.toList.drop (ib+1)) (a:=b[ib])).symm
theorem JL.pushA (O:OrdK f) (hb:Both D f a b) (j:JL f a b out ia ib) (h1:ia<a.size) (h2:ib<b.size) (h:f b[ib] a[ia]=false):JL f a b (out.push a[ia]) (ia+1) ib:=by
 have e:=jg h1
 have s1:=j.s1
 have pm:=j.pm
 rw [e] at s1 pm
 obtain ⟨g1,g2⟩:=mv (X:=[a[ia]]) s1 j.s2 (fun x hx y hy=>by
  rw [qx.mp hx]
  exact O.le h (J2 O hb.sb h2 hy))
 refine ⟨by rw [Array.toList_push];exact g1,by rw [Array.toList_push];exact g2,?_⟩
 rw [Array.toList_push,ql]
 exact pm
theorem jC (xs:Array Keyed) (i k:Nat):(xs.extract i (i+k)).toList=(xs.toList.drop i).take k:=by
 simp [Array.toList_extract,List.extract_eq_take_drop]
theorem jo (xs:Array Keyed) (i:Nat):(xs.extract i xs.size).toList=xs.toList.drop i:=by
 simp [Array.toList_extract,List.extract_eq_take_drop]
 exact List.take_of_length_le (by simp)
theorem Yl (xs:Array Keyed) (i k:Nat):xs.toList.drop i=(xs.toList.drop i).take k++xs.toList.drop (i+k):=by
 have:=(qv k (xs.toList.drop i)).symm
 rwa [List.drop_drop] at this
theorem JL.chunkA (O:OrdK f) (hb:Both D f a b) (j:JL f a b out ia ib) (h2:ib<b.size) {k:Nat}(h:∀ x∈(a.toList.drop ia).take k,f b[ib] x=false):JL f a b (out++a.extract ia (ia+k)) (ia+k) ib:=by
 have s1:=j.s1
 have pm:=j.pm
 rw [Yl a ia k] at s1 pm
 obtain ⟨g1,g2⟩:=mv s1 j.s2 (fun x hx y hy=>O.le (h x hx) (J2 O hb.sb h2 hy))
 refine ⟨by rw [Array.toList_append,jC];exact g1,by rw [Array.toList_append,jC];exact g2,?_⟩
 rw [Array.toList_append,jC,ql,<- ql ((a.toList.drop ia).take k)]
 exact pm
theorem JL.chunkB (O:OrdK f) (hb:Both D f a b) (j:JL f a b out ia ib) (h1:ia<a.size) {k:Nat}(h:∀ x∈(b.toList.drop ib).take k,f a[ia] x=false):JL f a b (out++b.extract ib (ib+k)) ia (ib+k):=by
 have s2:=j.s2
 have pm:=j.pm
 rw [Yl b ib k] at s2 pm
 obtain ⟨g1,g2⟩:=mv s2 j.s1 (fun x hx y hy=>O.le (h x hx) (J2 O hb.sa h1 hy))
 refine ⟨by rw [Array.toList_append,jC];exact g2,by rw [Array.toList_append,jC];exact g1,?_⟩
 rw [Array.toList_append,jC,ql]
 refine List.Perm.trans (List.Perm.append_left _ ?_) pm
 rw [<- ql,<- ql]
 exact List.Perm.append_right _ List.perm_append_comm
theorem JL.done (j:JL f a b out ia ib) (h:a.size<=ia\/b.size<=ib):j8 f a b (out++a.extract ia a.size++b.extract ib b.size):=by
 refine ⟨?_,?_⟩
 ·rw [Array.toList_append,Array.toList_append,jo,jo]
  rcases h with h | h
  ·rw [List.drop_of_length_le (show a.toList.length<=ia by simpa using h),List.append_nil]
   exact j.s2
  ·rw [List.drop_of_length_le (show b.toList.length<=ib by simpa using h),List.append_nil]
   exact j.s1
 ·rw [Array.toList_append,Array.toList_append,jo,jo,ql]
  exact j.pm
theorem JL.lastA (O:OrdK f) (hb:Both D f a b) (j:JL f a b out ia ib) (h:ia+1=a.size):j8 f a b (out++b.extract ib b.size++a.extract ia a.size):=by
 have e:a.toList.drop ia=[a[ia]]:=by
  rw [jg (show ia<a.size by omega),List.drop_of_length_le (by simp;omega)]
 refine ⟨?_,?_⟩
 ·rw [Array.toList_append,Array.toList_append,jo,jo]
  have s1:=j.s1
  rw [e] at s1 ⊢
  unfold SdK at *
  obtain ⟨_,_,g3⟩:=qD.mp s1
  refine qD.mpr ⟨j.s2,List.pairwise_singleton _ _,fun x hx y hy=>?_⟩
  rcases List.mem_append.mp hx with z | z
  ·exact g3 x z y hy
  ·rw [qx.mp hy]
   have:=hb.last x (yH z)
   have e2:a.size - 1=ia:=by omega
   simp only [e2] at this
   exact O.asym _ _ this
 ·rw [Array.toList_append,Array.toList_append,jo,jo,ql]
  exact List.Perm.trans (List.Perm.append_left _ List.perm_append_comm) j.pm
def qep (f:Keyed->Keyed->Bool) (a b:Array Keyed) (st:SortSt) (n0:Nat) (r:ForInStep GS) (st':SortSt):Prop:=yt st st'/\match r with
 | .done (some o,_)=>j8 f a b o
 | .done (none,out,ia,ib,_)=>JL f a b out ia ib/\ia+1<a.size/\ib<b.size/\n0<=ia+ib
 | .yield (none,out,ia,ib,_)=>JL f a b out ia ib/\ia+1<a.size/\ib<b.size/\n0<=ia+ib
 | .yield (some _,_)=>False
theorem yk {xs:Array Keyed}{i:Nat}(h:i<xs.size) {st:SortSt}{Q:Keyed->SortSt->Prop}(q:Q xs[i] st):wpS (model prog w) A E s (elem' xs i) Q st:=by
 rw [elem'_eq,getD? h]
 exact qj q
theorem qa6 (O:OrdK f) (hb:Both D f a b) {st0 st:SortSt}(hst:yt st0 st) {out:Array Keyed}{ia ib mg ac bc n0:Nat}(j:JL f a b out ia ib) (h1:ia+1<a.size) (h2:ib<b.size) (hn:n0<=ia+ib) (h:f b[ib] (a[ia]'(by omega))=false) :
  wpS (model prog w) A E s (qi8 a b out ia ib mg ac bc) (qep f a b st0 n0) st:=by
 unfold qi8
 refine qe (yk (show ia<a.size by omega) ?_)
 have j2:=j.pushA O hb (show ia<a.size by omega) h2 h
 by_cases e:ia+1+1=a.size
 ·rw [if_pos (by simpa using e)]
  exact qj ⟨hst,j2.lastA O hb e⟩
 ·rw [if_neg (by simpa using e)]
  split
  ·exact qj ⟨hst,j2,by omega,h2,by omega⟩
  ·exact qj ⟨hst,j2,by omega,h2,by omega⟩
theorem qfm (hA:Ask prog w A E s kd D f) (O:OrdK f) (hb:Both D f a b) {st0 st:SortSt}(hk:kindOf st0=kd) (hst:yt st0 st) {out:Array Keyed}{ia ib mg ac bc n0:Nat}(j:JL f a b out ia ib) (h1:ia+1<a.size) (h2:ib<b.size) (hn:n0<=ia+ib) :
  wpS (model prog w) A E s (loG3 a b out ia ib mg ac bc) (qep f a b st0 n0) st:=by
 unfold loG3
 refine qe (yk (show ia<a.size by omega) ?_)
 refine qe (Yf hA O (hst.1.trans hk) (b.toList.drop ib) (by simp) (fun i hi=>?_) (hb.da _ (by simp)) (fun x hx=>hb.db x (yH hx)) (by omega) (List.Pairwise.sublist (List.drop_sublist _ _) hb.sb) fun k hk1 hk2 hk3=>?_)
 ·rw [List.getElem?_drop,qh]
 have hlt:∀ x∈(b.toList.drop ib).take k,f x (a[ia]'(by omega))=true:=fun x hx=>hk2 x hx
 have hge:∀ x∈(b.toList.drop ib).drop k,f x (a[ia]'(by omega))=false:=fun x hx=>hk3 x hx
 have j2:=j.chunkB O hb (show ia<a.size by omega) (k:=k) (fun x hx=>O.asym _ _ (hlt x hx))
 have nxt:∀ h:ib+k<b.size,f b[ib+k] (a[ia]'(by omega))=false:=fun h=>hge _ (by
  rw [List.drop_drop,jg h]
  exact qm)
 dsimp only
 by_cases hk0:k > 0
 ·rw [if_pos hk0]
  by_cases e:ib+k=b.size
  ·rw [if_pos (by simpa using e)]
   exact qj ⟨hst,j2.done (.inr (by omega))⟩
  ·rw [if_neg (by simpa using e)]
   exact qa6 O hb hst j2 h1 (by omega) (by omega) (nxt (by omega))
 ·rw [if_neg hk0]
  have:k=0:=by omega
  subst this
  exact qa6 O hb hst j h1 h2 hn (nxt h2)
theorem qa7 (hA:Ask prog w A E s kd D f) (O:OrdK f) (hb:Both D f a b) {st0 st:SortSt}(hk:kindOf st0=kd) (hst:yt st0 st) {out:Array Keyed}{ia ib mg ac bc n0:Nat}(j:JL f a b out ia ib) (h1:ia+1<a.size) (h2:ib<b.size) (hn:n0<=ia+ib) (h:f (a[ia]'(by omega)) b[ib]=false) :
  wpS (model prog w) A E s (qi9 a b out ia ib mg ac bc) (qep f a b st0 n0) st:=by
 unfold qi9
 refine qe (yk h2 ?_)
 have j2:=j.pushB O hb (show ia<a.size by omega) h2 h
 by_cases e:ib+1=b.size
 ·rw [if_pos (by simpa using e)]
  exact qj ⟨hst,j2.done (.inr (by omega))⟩
 ·rw [if_neg (by simpa using e)]
  exact qfm hA O hb hk hst j2 h1 (by omega) (by omega)
theorem qa8 (hA:Ask prog w A E s kd D f) (O:OrdK f) (hb:Both D f a b) {st0 st:SortSt}(hk:kindOf st0=kd) (hst:yt st0 st) {out:Array Keyed}{ia ib mg ac bc n0:Nat}(j:JL f a b out ia ib) (h1:ia+1<a.size) (h2:ib<b.size) (hn:n0<=ia+ib) :
  wpS (model prog w) A E s (qja a b out ia ib mg ac bc) (qep f a b st0 n0) st:=by
 unfold qja
 rw [yL]
 refine qe (y8 ?_)
 have hst2:=hst.trans (show yt st (SortSt.mk' (kindOf st) (arrOf st) (pendingOf st) mg (failedOf st)) from ⟨rfl,rfl,rfl,rfl⟩)
 generalize SortSt.mk' (kindOf st) (arrOf st) (pendingOf st) mg (failedOf st)=st2 at hst2 ⊢
 refine qe (yk h2 ?_)
 refine qe (Yf hA O (hst2.1.trans hk) (a.toList.drop ia) (by simp) (fun i hi=>?_) (hb.db _ (by simp)) (fun x hx=>hb.da x (yH hx)) (by omega) (List.Pairwise.sublist (List.drop_sublist _ _) hb.sa) fun k hk1 hk2 hk3=>?_)
 ·rw [List.getElem?_drop,qh]
 have hle:∀ x∈(a.toList.drop ia).take k,f b[ib] x=false:=fun x hx=>by
  have:=hk2 x hx
  simpa [byd] using this
 have hgt:∀ x∈(a.toList.drop ia).drop k,f b[ib] x=true:=fun x hx=>by
  have:=hk3 x hx
  simpa [byd] using this
 have j2:=j.chunkA O hb h2 (k:=k) hle
 have nxt:∀ h:ia+k<a.size,f a[ia+k] b[ib]=false:=fun h=>O.asym _ _ (hgt _ (by
  rw [List.drop_drop,jg h]
  exact qm))
 dsimp only
 by_cases hk0:k > 0
 ·rw [if_pos hk0]
  by_cases e:ia+k+1=a.size
  ·rw [if_pos (by simpa using e)]
   exact qj ⟨hst2,j2.lastA O hb e⟩
  ·rw [if_neg (by simpa using e)]
   by_cases e2:ia+k=a.size
   ·rw [if_pos (by simpa using e2)]
    exact qj ⟨hst2,j2.done (.inl (by omega))⟩
   ·rw [if_neg (by simpa using e2)]
    exact qa7 hA O hb hk hst2 j2 (by omega) h2 (by omega) (nxt (by omega))
 ·rw [if_neg hk0]
  have:k=0:=by omega
  subst this
  exact qa7 hA O hb hk hst2 j h1 h2 hn (nxt (by omega))
def CPost (f:Keyed->Keyed->Bool) (a b:Array Keyed) (st:SortSt) (n0:Nat) (r:CS) (st':SortSt):Prop:=yt st st'/\match r with
 | (some o,_)=>j8 f a b o
 | (none,out,ia,ib,_)=>JL f a b out ia ib/\ia+1<a.size/\ib<b.size/\n0<ia+ib
theorem qgW (hA:Ask prog w A E s kd D f) (O:OrdK f) (hb:Both D f a b) {st:SortSt}(hk:kindOf st=kd) {out:Array Keyed}{ia ib mg:Nat}(j:JL f a b out ia ib) (h1:ia+1<a.size) (h2:ib<b.size) :
  wpS (model prog w) A E s (forIn [0:a.size+b.size] ((none,out,ia,ib,0,0):CS) (loCB a b mg)) (CPost f a b st (ia+ib)) st:=by
 refine ya (I:=fun x c st'=>yt st st'/\∃ out' ia' ib' ac bc,c=(none,out',ia',ib',ac,bc)/\JL f a b out' ia' ib'/\ia'+1<a.size/\ib'<b.size/\ia+ib+x<=ia'+ib') ?step ?fin ⟨yt.refl _,out,ia,ib,0,0,rfl,j,h1,h2,by omega⟩
 case fin =>
  rintro c st' ⟨hst,out',ia',ib',ac,bc,rfl,j',g1,g2,g3⟩
  exact ⟨hst,j',g1,g2,by omega⟩
 case step =>
  rintro x c st' _ hx ⟨hst,out',ia',ib',ac,bc,rfl,j',g1,g2,g3⟩
  unfold loCB
  dsimp only
  refine qe (yk g2 (qe (yk (show ia'<a.size by omega) ?_)))
  refine qe (hA _ _ _ _ (hb.db _ (by simp)) (hb.da _ (by simp)) (hst.1.trans hk) ?_)
  dsimp only
  cases c:f b[ib'] (a[ia']'(by omega)) with
  | true =>
   simp only [if_true]
   refine qe (yk g2 ?_)
   have j2:=j'.pushB O hb (show ia'<a.size by omega) g2 (O.asym _ _ c)
   by_cases e:ib'+1=b.size
   ·rw [if_pos (by simpa using e)]
    exact qj ⟨hst,j2.done (.inr (by omega))⟩
   ·rw [if_neg (by simpa using e)]
    split
    ·exact qj ⟨hst,j2,g1,by omega,by omega⟩
    ·exact qj ⟨hst,_,_,_,_,_,rfl,j2,g1,by omega,by omega⟩
  | false =>
   simp only [Bool.false_eq_true,if_false]
   refine qe (yk (show ia'<a.size by omega) ?_)
   have j2:=j'.pushA O hb (show ia'<a.size by omega) g2 c
   by_cases e:ia'+1+1=a.size
   ·rw [if_pos (by simpa using e)]
    exact qj ⟨hst,j2.lastA O hb e⟩
   ·rw [if_neg (by simpa using e)]
    split
    ·exact qj ⟨hst,j2,by omega,g2,by omega⟩
    ·exact qj ⟨hst,_,_,_,_,_,rfl,j2,by omega,g2,by omega⟩
def qi0 (f:Keyed->Keyed->Bool) (a b:Array Keyed) (st:SortSt) (n0:Nat) (r:GS) (st':SortSt):Prop:=yt st st'/\match r with
 | (some o,_)=>j8 f a b o
 | (none,out,ia,ib,_)=>JL f a b out ia ib/\ia+1<a.size/\ib<b.size/\n0<=ia+ib
theorem qgV (hA:Ask prog w A E s kd D f) (O:OrdK f) (hb:Both D f a b) {st0 st:SortSt}(hk:kindOf st0=kd) (hst:yt st0 st) {out:Array Keyed}{ia ib mg ac bc:Nat}(j:JL f a b out ia ib) (h1:ia+1<a.size) (h2:ib<b.size) :
  wpS (model prog w) A E s (forIn [0:a.size+b.size] ((none,out,ia,ib,mg,ac,bc):GS) (loGB a b)) (qi0 f a b st0 (ia+ib)) st:=by
 refine ya (I:=fun x c st'=>yt st0 st'/\∃ out' ia' ib' mg ac bc,c=(none,out',ia',ib',mg,ac,bc)/\JL f a b out' ia' ib'/\ia'+1<a.size/\ib'<b.size/\ia+ib<=ia'+ib') ?step ?fin ⟨hst,out,ia,ib,mg,ac,bc,rfl,j,h1,h2,by omega⟩
 case fin =>
  rintro c st' ⟨hst,out',ia',ib',mg,ac,bc,rfl,j',g1,g2,g3⟩
  exact ⟨hst,j',g1,g2,g3⟩
 case step =>
  rintro x c st' _ hx ⟨hst,out',ia',ib',mg,ac,bc,rfl,j',g1,g2,g3⟩
  unfold loGB
  dsimp only
  split
  ·refine yQ (qa8 hA O hb hk hst j' g1 g2 g3) fun r st'' h=>?_
   obtain ⟨h0,h⟩:=h
   match r,h with
   | .done (some o,_),h=>exact ⟨h0,h⟩
   | .done (none,out,ia,ib,_),h=>exact ⟨h0,h⟩
   | .yield (none,out,ia,ib,m,c,d),h=>exact ⟨h0,_,_,_,_,_,_,rfl,h⟩
  ·refine yQ (qa8 hA O hb hk hst j' g1 g2 g3) fun r st'' h=>?_
   obtain ⟨h0,h⟩:=h
   match r,h with
   | .done (some o,_),h=>exact ⟨h0,h⟩
   | .done (none,out,ia,ib,_),h=>exact ⟨h0,h⟩
   | .yield (none,out,ia,ib,m,c,d),h=>exact ⟨h0,_,_,_,_,_,_,rfl,h⟩
theorem qaF (hA:Ask prog w A E s kd D f) (O:OrdK f) (hb:Both D f a b) {st:SortSt}(hk:kindOf st=kd) {Q:Array Keyed->SortSt->Prop}(q:∀ o st',yt st st'->j8 f a b o->Q o st') :
  wpS (model prog w) A E s (JJ a b) Q st:=by
 rw [ZN]
 refine qe (wpS_lift (wpAny_rule ⟨rfl,?_⟩))
 refine qe (yk hb.nb ?_)
 have na:=hb.na
 have nb:=hb.nb
 have j0:JL f a b #[] 0 0:=⟨by simpa using hb.sa,by simpa using hb.sb,by simp⟩
 have j1:JL f a b #[b[0]'nb] 0 1:=by
  have:=j0.pushB O hb na nb (O.asym _ _ hb.first)
  simpa using this
 by_cases e:b.size=1
 ·rw [if_pos (by simp [e])]
  exact qj (q _ _ (yt.refl _) (j1.done (.inr (by omega))))
 ·rw [if_neg (by simpa using fun z:1=b.size=>e z.symm)]
  by_cases e2:0+1=a.size
  ·rw [if_pos (by simpa using e2)]
   exact qj (q _ _ (yt.refl _) (j1.lastA O hb e2))
  ·rw [if_neg (by simpa using e2)]
   refine qe (wpS_get ?_)
   refine qe (yQ (ya (I:=fun x c st'=>yt st st'/\∃ out ia ib mg,c=(none,out,ia,ib,mg)/\JL f a b out ia ib/\ia+1<a.size/\ib<b.size/\x+1<=ia+ib)
    (Q:=fun c st'=>yt st st'/\∃ o r,c=(some o,r)/\j8 f a b o) ?step ?fin ⟨yt.refl _,_,_,_,_,rfl,j1,by omega,by omega,by omega⟩) ?post)
   case fin =>
    rintro c st' ⟨hst,out,ia,ib,mg,rfl,j,g1,g2,g3⟩
    omega
   case post =>
    rintro c st' ⟨hst,o,r,rfl,h⟩
    exact qj (q o st' hst h)
   case step =>
    rintro x c st' _ hx ⟨hst,out,ia,ib,mg,rfl,j,g1,g2,g3⟩
    unfold loOB
    dsimp only
    refine qe (yQ (qgW hA O hb (hst.1.trans hk) j g1 g2) ?_)
    rintro c1 st1 ⟨hst1,h⟩
    match c1,h with
    | (some o,out,ia,ib,_),h=>exact qj ⟨hst.trans hst1,o,_,rfl,h⟩
    | (none,out1,ia1,ib1,ac,bc),⟨j1,k1,k2,k3⟩ =>
     dsimp only
     refine qe (wpS_lift (wpAny_rule ⟨rfl,?_⟩))
     refine qe (yQ (qgV hA O hb hk (hst.trans hst1) j1 k1 k2) ?_)
     rintro c2 st2 ⟨hst2,h⟩
     match c2,h with
     | (some o,out,ia,ib,mg,_),h=>exact qj ⟨hst2,o,_,rfl,h⟩
     | (none,out2,ia2,ib2,mg2,ac,bc),⟨j2,l1,l2,l3⟩ =>
      dsimp only
      rw [yL]
      refine qe (y8 (qj ⟨hst2.trans ⟨rfl,rfl,rfl,rfl⟩,_,_,_,_,rfl,j2,l1,l2,by omega⟩))
end
end L2
namespace L2
open PySem PySem.Spec PyProof.Rows PySem.W
def JK:Array Keyed->Array Keyed->StateT SortSt Sem (Array Keyed):=sortPriv% PySem.Builtin.mergeHi
abbrev GH:=Option (Array Keyed)×Nat×Nat×Array Keyed×Nat×Nat×Nat
abbrev CH:=Option (Array Keyed)×Nat×Nat×Array Keyed×Nat×Nat
abbrev OH:=Option (Array Keyed)×Nat×Nat×Array Keyed×Nat
def Ye (a b out:Array Keyed) (na nb:Nat):Array Keyed:=a.extract 0 na++b.extract 0 nb++out.reverse
def Yk (a b out:Array Keyed) (na nb:Nat):Array Keyed:=b.extract 0 nb++a.extract 0 na++out.reverse
def qjb (a b:Array Keyed) (na nb:Nat) (out:Array Keyed) (mg ac bc:Nat):StateT SortSt Sem (ForInStep GH):=do
 let x <- elem' a (na - 1)
 if (na - 1 == 0)=true then pure (.done (some (Ye a b (out.push x) (na - 1) nb),na - 1,nb,out.push x,mg,ac,bc))
 else if (decide (ac<7) && decide (bc<7))=true then pure (.done (none,na - 1,nb,out.push x,mg,ac,bc))
 else pure (.yield (none,na - 1,nb,out.push x,mg,ac,bc))
def hiG3 (a b:Array Keyed) (na nb:Nat) (out:Array Keyed) (mg ac bc:Nat):StateT SortSt Sem (ForInStep GH):=do
 let x <- elem' a (na - 1)
 let k <- yW true x b 0 nb (nb - 1)
 match k with
 | some at_ =>
  if nb - at_ > 0 then
   if (at_ == 1)=true then pure (.done (some (Yk a b (out++(b.extract at_ nb).reverse) na at_),na,at_,out++(b.extract at_ nb).reverse,mg,ac,nb - at_))
   else if (at_ == 0)=true then pure (.done (some (Ye a b (out++(b.extract at_ nb).reverse) na at_),na,at_,out++(b.extract at_ nb).reverse,mg,ac,nb - at_))
   else qjb a b na at_ (out++(b.extract at_ nb).reverse) mg ac (nb - at_)
  else qjb a b na nb out mg ac (nb - at_)
 | _=>pure (.done (some (Ye a b out na nb),na,nb,out,mg,ac,bc))
def qjc (a b:Array Keyed) (na nb:Nat) (out:Array Keyed) (mg ac bc:Nat):StateT SortSt Sem (ForInStep GH):=do
 let x <- elem' b (nb - 1)
 if (nb - 1 == 1)=true then pure (.done (some (Yk a b (out.push x) na (nb - 1)),na,nb - 1,out.push x,mg,ac,bc))
 else hiG3 a b na (nb - 1) (out.push x) mg ac bc
def qjd (a b:Array Keyed) (na nb:Nat) (out:Array Keyed) (mg ac bc:Nat):StateT SortSt Sem (ForInStep GH):=do
 yg mg
 let x <- elem' b (nb - 1)
 let k <- yW false x a 0 na (na - 1)
 match k with
 | some at_ =>
  if na - at_ > 0 then
   if (at_ == 0)=true then pure (.done (some (Ye a b (out++(a.extract at_ na).reverse) at_ nb),at_,nb,out++(a.extract at_ na).reverse,mg,na - at_,bc))
   else qjc a b at_ nb (out++(a.extract at_ na).reverse) mg (na - at_) bc
  else qjc a b na nb out mg (na - at_) bc
 | _=>pure (.done (some (Ye a b out na nb),na,nb,out,mg,ac,bc))
def hiGB (a b:Array Keyed) (_:Nat) (c:GH):StateT SortSt Sem (ForInStep GH) :=
 if c.2.2.2.2.1 > 1 then qjd a b c.2.1 c.2.2.1 c.2.2.2.1 (c.2.2.2.2.1 - 1) c.2.2.2.2.2.1 c.2.2.2.2.2.2 else qjd a b c.2.1 c.2.2.1 c.2.2.2.1 c.2.2.2.2.1 c.2.2.2.2.2.1 c.2.2.2.2.2.2
def hiCB (a b:Array Keyed) (mg:Nat) (_:Nat) (c:CH):StateT SortSt Sem (ForInStep CH):=do
 let y <- elem' b (c.2.2.1 - 1)
 let x <- elem' a (c.2.1 - 1)
 let r <- lt' y x
 match r with
 | some aWins =>
  if aWins=true then do
   let x <- elem' a (c.2.1 - 1)
   if (c.2.1 - 1 == 0)=true then pure (.done (some (Ye a b (c.2.2.2.1.push x) (c.2.1 - 1) c.2.2.1),c.2.1 - 1,c.2.2.1,c.2.2.2.1.push x,c.2.2.2.2.1+1,0))
   else if c.2.2.2.2.1+1 ≥ mg then pure (.done (none,c.2.1 - 1,c.2.2.1,c.2.2.2.1.push x,c.2.2.2.2.1+1,0))
   else pure (.yield (none,c.2.1 - 1,c.2.2.1,c.2.2.2.1.push x,c.2.2.2.2.1+1,0))
  else do
   let y <- elem' b (c.2.2.1 - 1)
   if (c.2.2.1 - 1 == 1)=true then pure (.done (some (Yk a b (c.2.2.2.1.push y) c.2.1 (c.2.2.1 - 1)),c.2.1,c.2.2.1 - 1,c.2.2.2.1.push y,0,c.2.2.2.2.2+1))
   else if c.2.2.2.2.2+1 ≥ mg then pure (.done (none,c.2.1,c.2.2.1 - 1,c.2.2.2.1.push y,0,c.2.2.2.2.2+1))
   else pure (.yield (none,c.2.1,c.2.2.1 - 1,c.2.2.2.1.push y,0,c.2.2.2.2.2+1))
 | _=>pure (.done (some (Ye a b c.2.2.2.1 c.2.1 c.2.2.1),c.2.1,c.2.2.1,c.2.2.2.1,c.2.2.2.2.1,c.2.2.2.2.2))
def hiOB (a b:Array Keyed) (_:Nat) (c:OH):StateT SortSt Sem (ForInStep OH):=do
 let c1 <- forIn [0:a.size+b.size] ((none,c.2.1,c.2.2.1,c.2.2.2.1,0,0):CH) (hiCB a b c.2.2.2.2)
 match c1.1 with
 | some r=>pure (.done (some r,c1.2.1,c1.2.2.1,c1.2.2.2.1,c.2.2.2.2))
 | none=>do
  liftM (rule "list.sort.gallop")
  let c2 <- forIn [0:a.size+b.size] ((none,c1.2.1,c1.2.2.1,c1.2.2.2.1,c.2.2.2.2+1,c1.2.2.2.2.1,c1.2.2.2.2.2):GH) (hiGB a b)
  match c2.1 with
  | some r=>pure (.done (some r,c2.2.1,c2.2.2.1,c2.2.2.2.1,c2.2.2.2.2.1))
  | none=>do
   yg (c2.2.2.2.2.1+1)
   pure (.yield (none,c2.2.1,c2.2.2.1,c2.2.2.2.1,c2.2.2.2.2.1+1))
theorem Zb (a b:Array Keyed):JK a b=(do
 rule "list.sort.merge-hi"
 let total:=a.size+b.size
 let done (out:Array Keyed) (na nb:Nat):=a.extract 0 na++b.extract 0 nb++out.reverse
 let firstOfB (out:Array Keyed) (na nb:Nat):=b.extract 0 nb++a.extract 0 na++out.reverse
 let mut na:=a.size - 1
 let mut nb:=b.size
 let mut out:Array Keyed:=#[<- elem' a na]
 if na == 0 then return done out na nb
 if nb == 1 then return firstOfB out na nb
 let mut minGallop:=gallopOf (<- get)
 for _ in [0:total] do
  let mut acount:=0
  let mut bcount:=0
  for _ in [0:total] do
   let some aWins <- lt' (<- elem' b (nb - 1)) (<- elem' a (na - 1)) | return done out na nb
   if aWins then
    na:=na - 1;out:=out.push (<- elem' a na);acount:=acount+1;bcount:=0
    if na == 0 then return done out na nb
    if acount ≥ minGallop then break
   else
    nb:=nb - 1;out:=out.push (<- elem' b nb);bcount:=bcount+1;acount:=0
    if nb == 1 then return firstOfB out na nb
    if bcount ≥ minGallop then break
  rule "list.sort.gallop"
  minGallop:=minGallop+1
  for _ in [0:total] do
   if minGallop > 1 then minGallop:=minGallop - 1
   yg minGallop
   let some at_ <- yW false (<- elem' b (nb - 1)) a 0 na (na - 1) | return done out na nb
   let k:=na - at_
   acount:=k
   if k > 0 then
    out:=out++(a.extract at_ na).reverse;na:=at_
    if na == 0 then return done out na nb
   nb:=nb - 1;out:=out.push (<- elem' b nb)
   if nb == 1 then return firstOfB out na nb
   let some at_ <- yW true (<- elem' a (na - 1)) b 0 nb (nb - 1) | return done out na nb
   let k:=nb - at_
   bcount:=k
   if k > 0 then
    out:=out++(b.extract at_ nb).reverse;nb:=at_
    if nb == 1 then return firstOfB out na nb
    if nb == 0 then return done out na nb
   na:=na - 1;out:=out.push (<- elem' a na)
   if na == 0 then return done out na nb
   if acount<7 && bcount<7 then break
  minGallop:=minGallop+1
  yg minGallop
 unsupported "internal:list.sort.merge-bound"):=rfl
theorem ZO (a b:Array Keyed):JK a b=(do
 liftM (rule "list.sort.merge-hi")
 let x <- elem' a (a.size - 1)
 if (a.size - 1 == 0)=true then pure (Ye a b #[x] (a.size - 1) b.size)
 else if (b.size == 1)=true then pure (Yk a b #[x] (a.size - 1) b.size)
 else do
  let g <- get
  let c <- forIn [0:a.size+b.size] ((none,a.size - 1,b.size,#[x],gallopOf g):OH) (hiOB a b)
  match c.1 with
  | some r=>pure r
  | none=>liftM (unsupported "internal:list.sort.merge-bound" : Sem (Array Keyed))):=by
 rw [Zb]
 dsimp only
 congr 1
 funext _u
 congr 1
 funext y
 congr 1
 congr 1
 congr 1
 funext g
 congr 1
 ·congr 1
  funext i c
  unfold hiOB
  congr 1
  funext c1
  obtain ⟨r1,na1,nb1,o1,ac1,bc1⟩:=c1
  cases r1 with
  | some r=>rfl
  | none =>
   dsimp only
   congr 1
   funext _v
   congr 1
   funext c2
   obtain ⟨r2,na2,nb2,o2,m2,ac2,bc2⟩:=c2
   cases r2 <;> rfl
 ·funext c
  obtain ⟨r,na,nb,o,m⟩:=c
  cases r <;> rfl
section
variable {prog:Program}{w:World}{A:Around}{E:Value->Shared->Prop}{s:Shared}{kd:SortKind}{D:Keyed->Prop}{f:Keyed->Keyed->Bool}{a b:Array Keyed}
structure JH (f:Keyed->Keyed->Bool) (a b:Array Keyed) (na nb:Nat) (out:Array Keyed):Prop where
 s1:SdK f (a.toList.take na++out.toList.reverse)
 s2:SdK f (b.toList.take nb++out.toList.reverse)
 pm:(a.toList.take na++(b.toList.take nb++out.toList.reverse)).Perm (a.toList++b.toList)
theorem yU {xs:Array Keyed}{i:Nat}(h:i<xs.size):xs.toList.take (i+1)=xs.toList.take i++[xs[i]]:=by
 rw [List.take_add_one,List.getElem?_eq_getElem (by simpa using h)];rfl
theorem YC (O:OrdK f) {xs:Array Keyed}{i:Nat}(hs:SdK f xs.toList) (h:i<xs.size) {y:Keyed}(hy:y∈xs.toList.take (i+1)):f xs[i] y=false:=by
 rw [yU h] at hy
 rcases List.mem_append.mp hy with hy | hy
 ·have:SdK f (xs.toList.take (i+1)):=List.Pairwise.sublist (List.take_sublist _ _) hs
  rw [yU h] at this
  exact (qD.mp this).2.2 y hy _ (qx.mpr rfl)
 ·rw [qx.mp hy]
  exact O.irr _
theorem JH.pushA (O:OrdK f) (hb:Both D f a b) (j:JH f a b na nb out) (h1:0<na) (h2:na<=a.size) (h3:0<nb) (h4:nb<=b.size) (h:f (a[na - 1]'(by omega)) (b[nb - 1]'(by omega))=false):JH f a b (na - 1) nb (out.push (a[na - 1]'(by omega))):=by
 have e:=yU (xs:=a) (i:=na - 1) (by omega)
 rw [show na - 1+1=na by omega] at e
 have s1:=j.s1
 have pm:=j.pm
 rw [e] at s1 pm
 obtain ⟨g1,g2⟩:=qi7 s1 j.s2 (fun x hx y hy=>by
  rw [qx.mp hx]
  have:=YC O hb.sb (i:=nb - 1) (by omega) (y:=y) (by rw [show nb - 1+1=nb by omega];exact hy)
  exact O.le this h)
 refine ⟨by simpa using g1,by simpa using g2,?_⟩
 refine List.Perm.trans ?_ pm
 rw [ql]
 refine List.Perm.append_left _ ?_
 simp only [Array.toList_push,List.reverse_append,List.reverse_cons,List.reverse_nil,List.nil_append]
 exact List.perm_middle
theorem JH.pushB (O:OrdK f) (hb:Both D f a b) (j:JH f a b na nb out) (h1:0<na) (h2:na<=a.size) (h3:0<nb) (h4:nb<=b.size) (h:f (b[nb - 1]'(by omega)) (a[na - 1]'(by omega))=false):JH f a b na (nb - 1) (out.push (b[nb - 1]'(by omega))):=by
 have e:=yU (xs:=b) (i:=nb - 1) (by omega)
 rw [show nb - 1+1=nb by omega] at e
 have s2:=j.s2
 have pm:=j.pm
 rw [e] at s2 pm
 obtain ⟨g1,g2⟩:=qi7 s2 j.s1 (fun x hx y hy=>by
  rw [qx.mp hx]
  have:=YC O hb.sa (i:=na - 1) (by omega) (y:=y) (by rw [show na - 1+1=na by omega];exact hy)
  exact O.le this h)
 refine ⟨by simpa using g2,by simpa using g1,?_⟩
 refine List.Perm.trans ?_ pm
 refine List.Perm.append_left _ ?_
 simp
theorem qcx (xs:Array Keyed) {i n:Nat}(h:i<=n) (hn:n<=xs.size):xs.toList.take n=xs.toList.take i++(xs.extract i n).toList:=by
 have e:(xs.extract i n).toList=(xs.toList.drop i).take (n - i):=by simp [Array.toList_extract,List.extract_eq_take_drop]
 rw [e,<- List.drop_take]
 have:=(qv i (xs.toList.take n)).symm
 rwa [List.take_take,Nat.min_eq_left h] at this
theorem JH.chunkA (O:OrdK f) (hb:Both D f a b) (j:JH f a b na nb out) {k:Nat}(hk:k<=na) (h2:na<=a.size) (h3:0<nb) (h4:nb<=b.size) (h:∀ x∈(a.extract k na).toList,f x (b[nb - 1]'(by omega))=false):JH f a b k nb (out++(a.extract k na).reverse):=by
 have s1:=j.s1
 have pm:=j.pm
 rw [qcx a hk h2] at s1 pm
 obtain ⟨g1,g2⟩:=qi7 s1 j.s2 (fun x hx y hy=>by
  have:=YC O hb.sb (i:=nb - 1) (by omega) (y:=y) (by rw [show nb - 1+1=nb by omega];exact hy)
  exact O.le this (h x hx))
 refine ⟨by simpa using g1,by simpa using g2,?_⟩
 refine List.Perm.trans ?_ pm
 rw [ql]
 refine List.Perm.append_left _ ?_
 simp only [Array.toList_append,Array.toList_reverse,List.reverse_append,List.reverse_reverse]
 rw [<- ql,<- ql]
 exact List.Perm.append_right _ List.perm_append_comm
theorem JH.chunkB (O:OrdK f) (hb:Both D f a b) (j:JH f a b na nb out) {k:Nat}(hk:k<=nb) (h2:nb<=b.size) (h3:0<na) (h4:na<=a.size) (h:∀ x∈(b.extract k nb).toList,f x (a[na - 1]'(by omega))=false):JH f a b na k (out++(b.extract k nb).reverse):=by
 have s2:=j.s2
 have pm:=j.pm
 rw [qcx b hk h2] at s2 pm
 obtain ⟨g1,g2⟩:=qi7 s2 j.s1 (fun x hx y hy=>by
  have:=YC O hb.sa (i:=na - 1) (by omega) (y:=y) (by rw [show na - 1+1=na by omega];exact hy)
  exact O.le this (h x hx))
 refine ⟨by simpa using g2,by simpa using g1,?_⟩
 refine List.Perm.trans ?_ pm
 refine List.Perm.append_left _ ?_
 simp
theorem qe7 (xs:Array Keyed) (n:Nat):(xs.extract 0 n).toList=xs.toList.take n:=by simp [Array.toList_extract,List.extract_eq_take_drop]
theorem JH.done (j:JH f a b na nb out) (h:na=0\/nb=0):j8 f a b (Ye a b out na nb):=by
 unfold Ye
 refine ⟨?_,?_⟩
 ·rw [Array.toList_append,Array.toList_append,qe7,qe7,Array.toList_reverse]
  rcases h with rfl | rfl
  ·simpa using j.s2
  ·simpa using j.s1
 ·rw [Array.toList_append,Array.toList_append,qe7,qe7,Array.toList_reverse,ql]
  exact j.pm
theorem JH.firstB (O:OrdK f) (hb:Both D f a b) (j:JH f a b na nb out) (h:nb=1):j8 f a b (Yk a b out na nb):=by
 subst h
 have nb:=hb.nb
 have e:b.toList.take 1=[b[0]'nb]:=by
  have:=yU (xs:=b) (i:=0) nb
  simpa using this
 unfold Yk
 refine ⟨?_,?_⟩
 ·rw [Array.toList_append,Array.toList_append,qe7,qe7,Array.toList_reverse]
  have s2:=j.s2
  rw [e] at s2 ⊢
  unfold SdK at *
  obtain ⟨_,_,g3⟩:=qD.mp s2
  rw [ql]
  refine qD.mpr ⟨List.pairwise_singleton _ _,j.s1,fun x hx y hy=>?_⟩
  rcases List.mem_append.mp hy with z | z
  ·rw [qx.mp hx]
   have h1:=J2 O hb.sa hb.na (y:=y) (by rw [List.drop_zero];exact yf z)
   exact O.le (O.asym _ _ hb.first) h1
  ·exact g3 x hx y z
 ·rw [Array.toList_append,Array.toList_append,qe7,qe7,Array.toList_reverse,ql]
  refine List.Perm.trans ?_ j.pm
  rw [<- ql,<- ql]
  exact List.Perm.append_right _ List.perm_append_comm
def InH (f:Keyed->Keyed->Bool) (a b:Array Keyed) (na nb:Nat) (out:Array Keyed):Prop:=JH f a b na nb out/\0<na/\na<=a.size/\1<nb/\nb<=b.size
def qeo (f:Keyed->Keyed->Bool) (a b:Array Keyed) (st:SortSt) (n0:Nat) (r:ForInStep GH) (st':SortSt):Prop:=yt st st'/\match r with
 | .done (some o,_)=>j8 f a b o
 | .done (none,na,nb,out,_)=>InH f a b na nb out/\na+nb<=n0
 | .yield (none,na,nb,out,_)=>InH f a b na nb out/\na+nb<=n0
 | .yield (some _,_)=>False
theorem qa9 (O:OrdK f) (hb:Both D f a b) {st0 st:SortSt}(hst:yt st0 st) {out:Array Keyed}{na nb mg ac bc n0:Nat}(j:InH f a b na nb out) (hn:na+nb<=n0) (h:∀ h1 h2,f (a[na - 1]'h1) (b[nb - 1]'h2)=false) :
  wpS (model prog w) A E s (qjb a b na nb out mg ac bc) (qeo f a b st0 n0) st:=by
 obtain ⟨j,h1,h2,h3,h4⟩:=j
 unfold qjb
 refine qe (yk (show na - 1<a.size by omega) ?_)
 have j2:=j.pushA O hb h1 h2 (by omega) h4 (h (by omega) (by omega))
 by_cases e:na - 1=0
 ·rw [if_pos (by simpa using e)]
  exact qj ⟨hst,j2.done (.inl e)⟩
 ·rw [if_neg (by simpa using e)]
  split
  ·exact qj ⟨hst,⟨j2,by omega,by omega,h3,h4⟩,by omega⟩
  ·exact qj ⟨hst,⟨j2,by omega,by omega,h3,h4⟩,by omega⟩
theorem qcy {xs:Array Keyed}{k n:Nat}(hn:n<=xs.size) {x:Keyed}(hx:x∈(xs.extract k n).toList):x∈(xs.toList.take n).drop k:=by
 have e:(xs.extract k n).toList=(xs.toList.drop k).take (n - k):=by simp [Array.toList_extract,List.extract_eq_take_drop]
 rw [e,<- List.drop_take] at hx
 exact hx
theorem qfn (hA:Ask prog w A E s kd D f) (O:OrdK f) (hb:Both D f a b) {st0 st:SortSt}(hk:kindOf st0=kd) (hst:yt st0 st) {out:Array Keyed}{na nb mg ac bc n0:Nat}(j:InH f a b na nb out) (hn:na+nb<=n0) :
  wpS (model prog w) A E s (hiG3 a b na nb out mg ac bc) (qeo f a b st0 n0) st:=by
 obtain ⟨j,h1,h2,h3,h4⟩:=j
 unfold hiG3
 refine qe (yk (show na - 1<a.size by omega) ?_)
 refine qe (Yf hA O (hst.1.trans hk) (b.toList.take nb) (by simp;omega) (fun i hi=>?_) (hb.da _ (by simp)) (fun x hx=>hb.db x (yf hx)) (by omega) (List.Pairwise.sublist (List.take_sublist _ _) hb.sb) fun k hk1 hk2 hk3=>?_)
 ·have hi:i<nb:=by simp at hi;omega
  rw [Nat.zero_add,List.getElem?_take,if_pos hi,qh]
 have hge:∀ x∈(b.extract k nb).toList,f x (a[na - 1]'(by omega))=false:=fun x hx=>hk3 x (qcy h4 hx)
 have hlt:∀ x∈(b.toList.take nb).take k,f x (a[na - 1]'(by omega))=true:=fun x hx=>hk2 x hx
 have j2:=j.chunkB O hb hk1 h4 h1 h2 hge
 have nxt:∀ (h0:0<k) (z1:na - 1<a.size) (z2:k - 1<b.size),f (a[na - 1]'z1) (b[k - 1]'z2)=false:=fun h0 z1 z2=>O.asym _ _ (hlt _ (by
  rw [List.take_take,Nat.min_eq_left hk1]
  have:=yU (xs:=b) (i:=k - 1) z2
  rw [show k - 1+1=k by omega] at this
  rw [this]
  exact qy _ (qx.mpr rfl)))
 dsimp only
 by_cases hk0:nb - k > 0
 ·rw [if_pos hk0]
  by_cases e:k=1
  ·rw [if_pos (by simpa using e)]
   exact qj ⟨hst,j2.firstB O hb e⟩
  ·rw [if_neg (by simpa using e)]
   by_cases e2:k=0
   ·rw [if_pos (by simpa using e2)]
    exact qj ⟨hst,j2.done (.inr e2)⟩
   ·rw [if_neg (by simpa using e2)]
    exact qa9 O hb hst ⟨j2,h1,h2,by omega,by omega⟩ (by omega) (nxt (by omega))
 ·rw [if_neg hk0]
  have:k=nb:=by omega
  subst this
  exact qa9 O hb hst ⟨j,h1,h2,h3,h4⟩ hn (nxt (by omega))
theorem qba (hA:Ask prog w A E s kd D f) (O:OrdK f) (hb:Both D f a b) {st0 st:SortSt}(hk:kindOf st0=kd) (hst:yt st0 st) {out:Array Keyed}{na nb mg ac bc n0:Nat}(j:InH f a b na nb out) (hn:na+nb<=n0) (h:∀ h1 h2,f (b[nb - 1]'h2) (a[na - 1]'h1)=false) :
  wpS (model prog w) A E s (qjc a b na nb out mg ac bc) (qeo f a b st0 n0) st:=by
 obtain ⟨j,h1,h2,h3,h4⟩:=j
 unfold qjc
 refine qe (yk (show nb - 1<b.size by omega) ?_)
 have j2:=j.pushB O hb h1 h2 (by omega) h4 (h (by omega) (by omega))
 by_cases e:nb - 1=1
 ·rw [if_pos (by simpa using e)]
  exact qj ⟨hst,j2.firstB O hb e⟩
 ·rw [if_neg (by simpa using e)]
  exact qfn hA O hb hk hst ⟨j2,h1,h2,by omega,by omega⟩ (by omega)
theorem qbb (hA:Ask prog w A E s kd D f) (O:OrdK f) (hb:Both D f a b) {st0 st:SortSt}(hk:kindOf st0=kd) (hst:yt st0 st) {out:Array Keyed}{na nb mg ac bc n0:Nat}(j:InH f a b na nb out) (hn:na+nb<=n0) :
  wpS (model prog w) A E s (qjd a b na nb out mg ac bc) (qeo f a b st0 n0) st:=by
 obtain ⟨j,h1,h2,h3,h4⟩:=j
 unfold qjd
 rw [yL]
 refine qe (y8 ?_)
 have hst2:=hst.trans (show yt st (SortSt.mk' (kindOf st) (arrOf st) (pendingOf st) mg (failedOf st)) from ⟨rfl,rfl,rfl,rfl⟩)
 generalize SortSt.mk' (kindOf st) (arrOf st) (pendingOf st) mg (failedOf st)=st2 at hst2 ⊢
 refine qe (yk (show nb - 1<b.size by omega) ?_)
 refine qe (Yf hA O (hst2.1.trans hk) (a.toList.take na) (by simp;omega) (fun i hi=>?_) (hb.db _ (by simp)) (fun x hx=>hb.da x (yf hx)) (by omega) (List.Pairwise.sublist (List.take_sublist _ _) hb.sa) fun k hk1 hk2 hk3=>?_)
 ·have hi:i<na:=by simp at hi;omega
  rw [Nat.zero_add,List.getElem?_take,if_pos hi,qh]
 have hgt:∀ x∈(a.extract k na).toList,f x (b[nb - 1]'(by omega))=false:=fun x hx=>by
  have:=hk3 x (qcy h2 hx)
  exact O.asym _ _ (by simpa [byd] using this)
 have hle:∀ x∈(a.toList.take na).take k,f (b[nb - 1]'(by omega)) x=false:=fun x hx=>by
  have:=hk2 x hx
  simpa [byd] using this
 have j2:=j.chunkA O hb hk1 h2 (by omega) h4 hgt
 have nxt:∀ (h0:0<k) (z1:k - 1<a.size) (z2:nb - 1<b.size),f (b[nb - 1]'z2) (a[k - 1]'z1)=false:=fun h0 z1 z2=>hle _ (by
  rw [List.take_take,Nat.min_eq_left hk1]
  have:=yU (xs:=a) (i:=k - 1) z1
  rw [show k - 1+1=k by omega] at this
  rw [this]
  exact qy _ (qx.mpr rfl))
 dsimp only
 by_cases hk0:na - k > 0
 ·rw [if_pos hk0]
  by_cases e:k=0
  ·rw [if_pos (by simpa using e)]
   exact qj ⟨hst2,j2.done (.inl e)⟩
  ·rw [if_neg (by simpa using e)]
   exact qba hA O hb hk hst2 ⟨j2,by omega,by omega,h3,h4⟩ (by omega) (nxt (by omega))
 ·rw [if_neg hk0]
  have:k=na:=by omega
  subst this
  exact qba hA O hb hk hst2 ⟨j,h1,h2,h3,h4⟩ hn (nxt (by omega))
def qi1 (f:Keyed->Keyed->Bool) (a b:Array Keyed) (st:SortSt) (n0:Nat) (r:CH) (st':SortSt):Prop:=yt st st'/\match r with
 | (some o,_)=>j8 f a b o
 | (none,na,nb,out,_)=>InH f a b na nb out/\na+nb<n0
theorem qgY (hA:Ask prog w A E s kd D f) (O:OrdK f) (hb:Both D f a b) {st:SortSt}(hk:kindOf st=kd) {out:Array Keyed}{na nb mg:Nat}(j:InH f a b na nb out) :
  wpS (model prog w) A E s (forIn [0:a.size+b.size] ((none,na,nb,out,0,0):CH) (hiCB a b mg)) (qi1 f a b st (na+nb)) st:=by
 have nz:=hb.na
 refine ya (I:=fun x c st'=>yt st st'/\∃ na' nb' out' ac bc,c=(none,na',nb',out',ac,bc)/\InH f a b na' nb' out'/\na'+nb'+x<=na+nb) ?step ?fin ⟨yt.refl _,na,nb,out,0,0,rfl,j,by omega⟩
 case fin =>
  rintro c st' ⟨hst,na',nb',out',ac,bc,rfl,j',g3⟩
  exact ⟨hst,j',by omega⟩
 case step =>
  rintro x c st' _ hx ⟨hst,na',nb',out',ac,bc,rfl,⟨j',h1,h2,h3,h4⟩,g3⟩
  unfold hiCB
  dsimp only
  refine qe (yk (show nb' - 1<b.size by omega) (qe (yk (show na' - 1<a.size by omega) ?_)))
  refine qe (hA _ _ _ _ (hb.db _ (by simp)) (hb.da _ (by simp)) (hst.1.trans hk) ?_)
  dsimp only
  cases c:f (b[nb' - 1]'(by omega)) (a[na' - 1]'(by omega)) with
  | true =>
   simp only [if_true]
   refine qe (yk (show na' - 1<a.size by omega) ?_)
   have j2:=j'.pushA O hb h1 h2 (by omega) h4 (O.asym _ _ c)
   by_cases e:na' - 1=0
   ·rw [if_pos (by simpa using e)]
    exact qj ⟨hst,j2.done (.inl e)⟩
   ·rw [if_neg (by simpa using e)]
    split
    ·exact qj ⟨hst,⟨j2,by omega,by omega,h3,h4⟩,by omega⟩
    ·exact qj ⟨hst,_,_,_,_,_,rfl,⟨j2,by omega,by omega,h3,h4⟩,by omega⟩
  | false =>
   simp only [Bool.false_eq_true,if_false]
   refine qe (yk (show nb' - 1<b.size by omega) ?_)
   have j2:=j'.pushB O hb h1 h2 (by omega) h4 c
   by_cases e:nb' - 1=1
   ·rw [if_pos (by simpa using e)]
    exact qj ⟨hst,j2.firstB O hb e⟩
   ·rw [if_neg (by simpa using e)]
    split
    ·exact qj ⟨hst,⟨j2,h1,h2,by omega,by omega⟩,by omega⟩
    ·exact qj ⟨hst,_,_,_,_,_,rfl,⟨j2,h1,h2,by omega,by omega⟩,by omega⟩
def qiY (f:Keyed->Keyed->Bool) (a b:Array Keyed) (st:SortSt) (n0:Nat) (r:GH) (st':SortSt):Prop:=yt st st'/\match r with
 | (some o,_)=>j8 f a b o
 | (none,na,nb,out,_)=>InH f a b na nb out/\na+nb<=n0
theorem qgX (hA:Ask prog w A E s kd D f) (O:OrdK f) (hb:Both D f a b) {st0 st:SortSt}(hk:kindOf st0=kd) (hst:yt st0 st) {out:Array Keyed}{na nb mg ac bc:Nat}(j:InH f a b na nb out) :
  wpS (model prog w) A E s (forIn [0:a.size+b.size] ((none,na,nb,out,mg,ac,bc):GH) (hiGB a b)) (qiY f a b st0 (na+nb)) st:=by
 refine ya (I:=fun x c st'=>yt st0 st'/\∃ na' nb' out' mg ac bc,c=(none,na',nb',out',mg,ac,bc)/\InH f a b na' nb' out'/\na'+nb'<=na+nb) ?step ?fin ⟨hst,na,nb,out,mg,ac,bc,rfl,j,by omega⟩
 case fin =>
  rintro c st' ⟨hst,na',nb',out',mg,ac,bc,rfl,j',g3⟩
  exact ⟨hst,j',g3⟩
 case step =>
  rintro x c st' _ hx ⟨hst,na',nb',out',mg,ac,bc,rfl,j',g3⟩
  unfold hiGB
  dsimp only
  split
  ·refine yQ (qbb hA O hb hk hst j' g3) fun r st'' h=>?_
   obtain ⟨h0,h⟩:=h
   match r,h with
   | .done (some o,_),h=>exact ⟨h0,h⟩
   | .done (none,na,nb,out,_),h=>exact ⟨h0,h⟩
   | .yield (none,na,nb,out,m,c,d),h=>exact ⟨h0,_,_,_,_,_,_,rfl,h⟩
  ·refine yQ (qbb hA O hb hk hst j' g3) fun r st'' h=>?_
   obtain ⟨h0,h⟩:=h
   match r,h with
   | .done (some o,_),h=>exact ⟨h0,h⟩
   | .done (none,na,nb,out,_),h=>exact ⟨h0,h⟩
   | .yield (none,na,nb,out,m,c,d),h=>exact ⟨h0,_,_,_,_,_,_,rfl,h⟩
theorem qaG (hA:Ask prog w A E s kd D f) (O:OrdK f) (hb:Both D f a b) {st:SortSt}(hk:kindOf st=kd) {Q:Array Keyed->SortSt->Prop}(q:∀ o st',yt st st'->j8 f a b o->Q o st') :
  wpS (model prog w) A E s (JK a b) Q st:=by
 have na:=hb.na
 have nb:=hb.nb
 rw [ZO]
 refine qe (wpS_lift (wpAny_rule ⟨rfl,?_⟩))
 refine qe (yk (show a.size - 1<a.size by omega) ?_)
 have j0:JH f a b a.size b.size #[]:=⟨by rw [<- Array.length_toList,qT];simpa using hb.sa,by rw [<- Array.length_toList,qT];simpa using hb.sb,by rw [<- Array.length_toList,qT,<- Array.length_toList,qT];simp⟩
 have j1:JH f a b (a.size - 1) b.size #[a[a.size - 1]]:=by
  have:=j0.pushA O hb na (qk _) nb (qk _) (O.asym _ _ (hb.last _ (by simp)))
  simpa using this
 by_cases e:a.size - 1=0
 ·rw [if_pos (by simpa using e)]
  exact qj (q _ _ (yt.refl _) (j1.done (.inl e)))
 ·rw [if_neg (by simpa using e)]
  by_cases e2:b.size=1
  ·rw [if_pos (by simpa using e2)]
   exact qj (q _ _ (yt.refl _) (j1.firstB O hb e2))
  ·rw [if_neg (by simpa using e2)]
   refine qe (wpS_get ?_)
   refine qe (yQ (ya (I:=fun x c st'=>yt st st'/\∃ na nb out mg,c=(none,na,nb,out,mg)/\InH f a b na nb out/\na+nb+x<=a.size+b.size)
    (Q:=fun c st'=>yt st st'/\∃ o r,c=(some o,r)/\j8 f a b o) ?step ?fin ⟨yt.refl _,_,_,_,_,rfl,⟨j1,by omega,by omega,by omega,qk _⟩,by omega⟩) ?post)
   case fin =>
    rintro c st' ⟨hst,na,nb,out,mg,rfl,⟨j,g1,g2,g3,g4⟩,g5⟩
    omega
   case post =>
    rintro c st' ⟨hst,o,r,rfl,h⟩
    exact qj (q o st' hst h)
   case step =>
    rintro x c st' _ hx ⟨hst,na,nb,out,mg,rfl,j,g3⟩
    unfold hiOB
    dsimp only
    refine qe (yQ (qgY hA O hb (hst.1.trans hk) j) ?_)
    rintro c1 st1 ⟨hst1,h⟩
    match c1,h with
    | (some o,na,nb,out,_),h=>exact qj ⟨hst.trans hst1,o,_,rfl,h⟩
    | (none,na1,nb1,out1,ac,bc),⟨j1,k3⟩ =>
     dsimp only
     refine qe (wpS_lift (wpAny_rule ⟨rfl,?_⟩))
     refine qe (yQ (qgX hA O hb hk (hst.trans hst1) j1) ?_)
     rintro c2 st2 ⟨hst2,h⟩
     match c2,h with
     | (some o,na,nb,out,mg,_),h=>exact qj ⟨hst2,o,_,rfl,h⟩
     | (none,na2,nb2,out2,mg2,ac,bc),⟨j2,l3⟩ =>
      dsimp only
      rw [yL]
      refine qe (y8 (qj ⟨hst2.trans ⟨rfl,rfl,rfl,rfl⟩,_,_,_,_,rfl,j2,by omega⟩))
end
end L2
namespace L2
open PySem PySem.Spec PyProof.Rows PySem.W
abbrev kD (xs:Array Keyed) (i:Nat):Keyed:=xs.getD i (.none,.none)
theorem qcf {xs ys:Array Keyed}{i j:Nat}(h:xs[i]?=ys[j]?):kD xs i=kD ys j:=by
 simp only [kD,Array.getD_eq_getD_getElem?,h]
theorem qci {xs:Array Keyed}{i:Nat}(h:i<xs.size):xs[i]?=some (kD xs i):=by
 rw [y6 h];simp [kD,Array.getD,h]
structure SV (lo:Nat) (st0 st:SortSt):Prop where
 kind:kindOf st=kindOf st0
 pend:pendingOf st=pendingOf st0
 fail:failedOf st=failedOf st0
 perm:(arrOf st).Perm (arrOf st0)
 pre:∀ k,k<lo->(arrOf st)[k]?=(arrOf st0)[k]?
theorem SV.refl (lo:Nat) (st:SortSt):SV lo st st:=⟨rfl,rfl,rfl,Array.Perm.refl _,fun _ _=>rfl⟩
theorem SV.size {lo:Nat}{st0 st:SortSt}(h:SV lo st0 st):(arrOf st).size=(arrOf st0).size:=h.perm.size_eq
theorem SV.trans {lo:Nat}{a b c:SortSt}(h:SV lo a b) (g:SV lo b c):SV lo a c:=⟨g.kind.trans h.kind,g.pend.trans h.pend,g.fail.trans h.fail,g.perm.trans h.perm,fun k hk=>(g.pre k hk).trans (h.pre k hk)⟩
def mir (xs:Array Keyed) (i j:Nat):Array Keyed:=mirror xs i j ((j - i) / 2)
theorem qcg {xs:Array Keyed}{i j:Nat}(hj:j<=xs.size) (k:Nat):kD (mir xs i j) k=if i<=k/\k<j then kD xs (i+j - 1 - k) else kD xs k:=by
 have e:=getElem?_mirror_all (i:=i) hj k
 unfold mir
 by_cases h1:i<=k/\k<j
 ·rw [if_pos h1] at e ⊢;exact qcf e
 ·rw [if_neg h1] at e ⊢;exact qcf e
theorem SV.mir {lo:Nat}{st0 st:SortSt}(h:SV lo st0 st) {i j:Nat}(hi:lo<=i) (hj:j<=(arrOf st).size):SV lo st0 (setArr st (L2.mir (arrOf st) i j)):=by
 refine ⟨h.kind,h.pend,h.fail,(mirror_perm _ _ _ _).trans h.perm,fun k hk=>?_⟩
 show (L2.mir (arrOf st) i j)[k]?=_
 unfold L2.mir
 rw [getElem?_mirror_all hj,if_neg (by omega)]
 exact h.pre k hk
section
variable {f:Keyed->Keyed->Bool}
def UpL (f:Keyed->Keyed->Bool) (lo:Nat) (p:Array Keyed) (k:Nat):Prop:=∀ i j,i<=j->j<k->f (kD p (lo+j)) (kD p (lo+i))=false
def DnL (f:Keyed->Keyed->Bool) (lo:Nat) (p:Array Keyed) (k:Nat):Prop:=∀ i j,i<=j->j<k->f (kD p (lo+i)) (kD p (lo+j))=false
def J7 (f:Keyed->Keyed->Bool) (a b:Keyed):Prop:=f a b=false/\f b a=false
theorem J7.refl (O:OrdK f) (a:Keyed):J7 f a a:=⟨O.irr a,O.irr a⟩
theorem J7.symm {a b:Keyed}(h:J7 f a b):J7 f b a:=⟨h.2,h.1⟩
theorem J7.trans (O:OrdK f) {a b c:Keyed}(h:J7 f a b) (g:J7 f b c):J7 f a c:=⟨O.le g.1 h.1,O.le h.2 g.2⟩
theorem qil (O:OrdK f) {a b c:Keyed}(h:J7 f a b):f a c=f b c:=by
 cases h1:f b c with
 | true=>exact O.lel h.2 h1
 | false =>
  cases h2:f a c with
  | false=>rfl
  | true =>
   have:=O.lel h.1 h2
   rw [h1] at this;cases this
theorem qik (O:OrdK f) {a b c:Keyed}(h:J7 f a b):f c a=f c b:=by
 cases h1:f c b with
 | true=>exact O.ltl h1 h.1
 | false =>
  cases h2:f c a with
  | false=>rfl
  | true =>
   have:=O.ltl h2 h.2
   rw [h1] at this;cases this
theorem UpL.one (O:OrdK f) (lo:Nat) (p:Array Keyed):UpL f lo p 1:=fun i j h1 h2=>by
 have:i=j:=by omega
 subst this;exact O.irr _
theorem UpL.succ (O:OrdK f) {lo:Nat}{p:Array Keyed}{k:Nat}(h0:1<=k) (h:UpL f lo p k) (g:f (kD p (lo+k)) (kD p (lo+k - 1))=false):UpL f lo p (k+1):=fun i j hij hj=>by
 by_cases e:j=k
 ·subst e
  by_cases e2:i=j
  ·subst e2;exact O.irr _
  ·have:=h i (j - 1) (by omega) (by omega)
   rw [show lo+(j - 1)=lo+j - 1 by omega] at this
   exact O.le this g
 ·exact h i j hij (by omega)
theorem DnL.succ (O:OrdK f) {lo:Nat}{p:Array Keyed}{k:Nat}(h0:1<=k) (h:DnL f lo p k) (g:f (kD p (lo+k - 1)) (kD p (lo+k))=false):DnL f lo p (k+1):=fun i j hij hj=>by
 by_cases e:j=k
 ·subst e
  by_cases e2:i=j
  ·subst e2;exact O.irr _
  ·have:=h i (j - 1) (by omega) (by omega)
   rw [show lo+(j - 1)=lo+j - 1 by omega] at this
   exact O.le g this
 ·exact h i j hij (by omega)
theorem DnL.eqv (O:OrdK f) {lo:Nat}{p q:Array Keyed}{k:Nat}(h:DnL f lo p k) (e:∀ i,J7 f (kD q i) (kD p i)):DnL f lo q k:=fun i j h1 h2=>by
 rw [qil O (e _),qik O (e _)];exact h i j h1 h2
theorem Yw (O:OrdK f) {p:Array Keyed}{i j:Nat}(hj:j<=p.size) (h:∀ a b,i<=a->a<j->i<=b->b<j->J7 f (kD p a) (kD p b)) (k:Nat):J7 f (kD (mir p i j) k) (kD p k):=by
 rw [qcg hj]
 split
 ·exact h _ _ (by omega) (by omega) (by omega) (by omega)
 ·exact J7.refl O _
theorem UpL.ofRev {lo:Nat}{p:Array Keyed}{k:Nat}(hk:lo+k<=p.size) (h:DnL f lo p k):UpL f lo (mir p lo (lo+k)) k:=fun i j h1 h2=>by
 rw [qcg hk,qcg hk,if_pos (by omega),if_pos (by omega)]
 have:=h (k - 1 - j) (k - 1 - i) (by omega) (by omega)
 rw [show lo+(lo+k) - 1 - (lo+j)=lo+(k - 1 - j) by omega,show lo+(lo+k) - 1 - (lo+i)=lo+(k - 1 - i) by omega]
 exact this
end
def qiQ (lo a nrem:Nat):StateT SortSt Sem (Option (Option Nat)×Nat) :=
 forIn [a:nrem] ((none,a):Option (Option Nat)×Nat) fun _ c=>do
  let x <- ltAt' (lo+c.2) (lo+c.2 - 1)
  match x with
  | some smaller=>if smaller=true then pure (ForInStep.done (none,c.2)) else pure (ForInStep.yield (none,c.2+1))
  | _=>pure (ForInStep.done (some none,c.2))
def YW (lo n nrem:Nat):StateT SortSt Sem (Option Nat):=do
 reverseSlice' lo (lo+n)
 let c <- qiQ lo n nrem
 match c.1 with
 | some r=>pure r
 | none=>pure (some c.2)
def qd4 (lo n nrem:Nat):StateT SortSt Sem (Option (Option Nat)×Nat×Nat) :=
 forIn [n:nrem] ((none,n,0):Option (Option Nat)×Nat×Nat) fun _ c=>do
  let x <- ltAt' (lo+c.2.1) (lo+c.2.1 - 1)
  match x with
  | some smaller =>
   if smaller=true then
    if c.2.2 > 0 then do
     reverseSlice' (lo+c.2.1 - (c.2.2+1)) (lo+c.2.1)
     pure (ForInStep.yield (none,c.2.1+1,0))
    else pure (ForInStep.yield (none,c.2.1+1,0))
   else do
    let y <- ltAt' (lo+c.2.1 - 1) (lo+c.2.1)
    match y with
    | some larger =>
     if larger=true then pure (ForInStep.done (none,c.2.1,c.2.2))
     else pure (ForInStep.yield (none,c.2.1+1,c.2.2+1))
    | _=>pure (ForInStep.done (some none,c.2.1,c.2.2))
  | _=>pure (ForInStep.done (some none,c.2.1,c.2.2))
def jN (lo n nrem:Nat):StateT SortSt Sem (Option Nat):=do
 liftM (rule "list.sort.descending-run")
 let c <- qd4 lo (n+1) nrem
 match c.1 with
 | some r=>pure r
 | none =>
  if c.2.2 > 0 then do
   reverseSlice' (lo+c.2.1 - (c.2.2+1)) (lo+c.2.1)
   YW lo c.2.1 nrem
  else YW lo c.2.1 nrem
theorem Zn (lo nrem:Nat):countRun' lo nrem=(do
  let c <- qiQ lo 1 nrem
  match c.1 with
  | some r=>pure r
  | none =>
   if (c.2 == nrem)=true then pure (some c.2)
   else if c.2 > 1 then do
    let x <- ltAt' lo (lo+c.2 - 1)
    match x with
    | some rose=>if rose=true then pure (some c.2) else do
      reverseSlice' lo (lo+c.2)
      jN lo c.2 nrem
    | _=>pure none
   else jN lo c.2 nrem):=by
 rw [countRun'_eq]
 unfold jN YW qd4 qiQ
 dsimp only
 congr 1
 funext c
 obtain ⟨r,n⟩:=c
 cases r with
 | some r=>rfl
 | none =>
  dsimp only
  split
  ·rfl
  ·split
   ·congr 1
    funext x
    cases x with
    | none=>rfl
    | some rose =>
     dsimp only
     split
     ·rfl
     ·congr 1
      funext _r
      congr 1
      funext _u
      congr 1
      funext s2
      obtain ⟨r2,n2,q2⟩:=s2
      cases r2 with
      | some r2=>rfl
      | none =>
       dsimp only
       split
       ·congr 1
        funext _v
        congr 1
        funext _w
        congr 1
        funext s3
        obtain ⟨r3,n3⟩:=s3
        cases r3 <;> rfl
       ·congr 1
        funext _w
        congr 1
        funext s3
        obtain ⟨r3,n3⟩:=s3
        cases r3 <;> rfl
   ·congr 1
    funext _u
    congr 1
    funext s2
    obtain ⟨r2,n2,q2⟩:=s2
    cases r2 with
    | some r2=>rfl
    | none =>
     dsimp only
     split
     ·congr 1
      funext _v
      congr 1
      funext _w
      congr 1
      funext s3
      obtain ⟨r3,n3⟩:=s3
      cases r3 <;> rfl
     ·congr 1
      funext _w
      congr 1
      funext s3
      obtain ⟨r3,n3⟩:=s3
      cases r3 <;> rfl
section
variable {prog:Program}{w:World}{A:Around}{E:Value->Shared->Prop}{s:Shared}{kd:SortKind}{D:Keyed->Prop}{f:Keyed->Keyed->Bool}{st0:SortSt}{lo nrem:Nat}
def qa5 (D:Keyed->Prop) (st:SortSt):Prop:=∀ x∈(arrOf st).toList,D x
theorem qa5.of {st st':SortSt}(h:qa5 D st) (p:(arrOf st').Perm (arrOf st)):qa5 D st':=fun x hx=>h x ((yx.mp p).mem_iff.mp hx)
theorem JQ (hA:Ask prog w A E s kd D f) {st:SortSt}(hk:kindOf st=kd) (hD:qa5 D st) {i j:Nat}(hi:i<(arrOf st).size) (hj:j<(arrOf st).size) {Q:Option Bool->SortSt->Prop}(q:Q (some (f (kD (arrOf st) i) (kD (arrOf st) j))) st):wpS (model prog w) A E s (ltAt' i j) Q st:=by
 rw [ltAt'_eq]
 refine qe (wpS_get ?_)
 show wpS _ _ _ _ (do let x <- elem' (arrOf st) i;let y <- elem' (arrOf st) j;lt' x y) Q st
 rw [elem'_eq,elem'_eq,qci hi,qci hj]
 refine qe (qj (qe (qj ?_)))
 have mem:∀ i,i<(arrOf st).size->kD (arrOf st) i∈(arrOf st).toList:=fun i h=>by
  have e:kD (arrOf st) i=(arrOf st)[i]:=by simp [kD,Array.getD,h]
  rw [e];simp
 exact hA _ _ _ _ (hD _ (mem i hi)) (hD _ (mem j hj)) hk q
theorem qbe (hA:Ask prog w A E s kd D f) (O:OrdK f) {st:SortSt}(hk:kindOf st=kd) (hD:qa5 D st) (hn:lo+nrem<=(arrOf st).size) {a:Nat}(ha:1<=a) (han:a<=nrem) (hs:UpL f lo (arrOf st) a) {Q:Option (Option Nat)×Nat->SortSt->Prop}
  (q:∀ n,a<=n->n<=nrem->UpL f lo (arrOf st) n->(n<nrem->f (kD (arrOf st) (lo+n)) (kD (arrOf st) (lo+n - 1))=true)->Q (none,n) st):wpS (model prog w) A E s (qiQ lo a nrem) Q st:=by
 unfold qiQ
 refine ya (I:=fun x c st'=>st'=st/\c=(none,x)/\UpL f lo (arrOf st) x) ?step ?fin ⟨rfl,rfl,hs⟩
 case fin =>
  rintro c st' ⟨rfl,rfl,hs'⟩
  rw [show max a nrem=nrem by omega] at hs' ⊢
  exact q nrem han (qk _) hs' fun z=>absurd z (by omega)
 case step =>
  rintro x c st' hax hxn ⟨rfl,rfl,hs'⟩
  dsimp only
  refine qe (JQ hA hk hD (by omega) (by omega) ?_)
  dsimp only
  cases c:f (kD (arrOf st') (lo+x)) (kD (arrOf st') (lo+x - 1)) with
  | true =>
   simp only [if_true]
   exact qj (q x hax (by omega) hs' fun _=>c)
  | false =>
   simp only [Bool.false_eq_true,if_false]
   exact qj ⟨rfl,rfl,hs'.succ O (by omega) c⟩
theorem Z4 {st:SortSt}{i j:Nat}{Q:Unit->SortSt->Prop}(h:Q () (setArr st (mir (arrOf st) i j))):wpS (model prog w) A E s (reverseSlice' i j) Q st:=by
 rw [reverseSlice'_eq];exact y8 h
def RunP (f:Keyed->Keyed->Bool) (lo nrem:Nat) (st0:SortSt) (Q:Option Nat->SortSt->Prop):Prop:=∀ n st',SV lo st0 st'->1<=n->n<=nrem->UpL f lo (arrOf st') n->Q (some n) st'
theorem YU (hA:Ask prog w A E s kd D f) (O:OrdK f) (hk:kindOf st0=kd) (hD:qa5 D st0) (hn:lo+nrem<=(arrOf st0).size) {st:SortSt}(hv:SV lo st0 st) {n:Nat}(h1:1<=n) (h2:n<=nrem) (h3:DnL f lo (arrOf st) n) {Q:Option Nat->SortSt->Prop}(q:RunP f lo nrem st0 Q) :
  wpS (model prog w) A E s (YW lo n nrem) Q st:=by
 unfold YW
 have hz:=hv.size
 refine qe (Z4 ?_)
 have hv2:=hv.mir (i:=lo) (j:=lo+n) (qk _) (by omega)
 have up:UpL f lo (arrOf (setArr st (mir (arrOf st) lo (lo+n)))) n:=UpL.ofRev (by omega) h3
 generalize setArr st (mir (arrOf st) lo (lo+n))=st2 at hv2 up ⊢
 have hz2:=hv2.size
 refine qe (qbe hA O (hv2.kind.trans hk) (hD.of hv2.perm) (by omega) h1 h2 up fun m a1 a2 a3 _=>?_)
 exact qj (q m st2 hv2 (by omega) a2 a3)
theorem qdc (hA:Ask prog w A E s kd D f) (O:OrdK f) (hk:kindOf st0=kd) (hD:qa5 D st0) (hn:lo+nrem<=(arrOf st0).size) {st:SortSt}(hv:SV lo st0 st) {n:Nat}(h1:1<=n) (h2:n<=nrem) (h3:DnL f lo (arrOf st) n) {Q:Option (Option Nat)×Nat×Nat->SortSt->Prop}
  (q:∀ m k st',SV lo st0 st'->k+1<=m->m<=nrem->DnL f lo (arrOf st') m->(∀ a b,lo+m - (k+1)<=a->a<lo+m->lo+m - (k+1)<=b->b<lo+m->J7 f (kD (arrOf st') a) (kD (arrOf st') b))->Q (none,m,k) st') :
  wpS (model prog w) A E s (qd4 lo n nrem) Q st:=by
 unfold qd4
 have one:∀ (p:Array Keyed) (m a b:Nat),1<=m->lo+m - (0+1)<=a->a<lo+m->lo+m - (0+1)<=b->b<lo+m->J7 f (kD p a) (kD p b):=fun p m a b _ _ _ _ _=>by
  have:a=b:=by omega
  subst this;exact J7.refl O _
 refine ya (I:=fun x c st'=>SV lo st0 st'/\∃ k,c=(none,x,k)/\k+1<=x/\DnL f lo (arrOf st') x/\(∀ a b,lo+x - (k+1)<=a->a<lo+x->lo+x - (k+1)<=b->b<lo+x->J7 f (kD (arrOf st') a) (kD (arrOf st') b))) ?step ?fin ⟨hv,0,rfl,by omega,h3,fun a b=>one _ n a b h1⟩
 case fin =>
  rintro c st' ⟨hv',k,rfl,g1,g2,g3⟩
  rw [show max n nrem=nrem by omega] at g1 g2 g3 ⊢
  exact q nrem k st' hv' g1 (qk _) g2 g3
 case step =>
  rintro x c st' hnx hx ⟨hv',k,rfl,g1,g2,g3⟩
  dsimp only
  have hz:=hv'.size
  refine qe (JQ hA (hv'.kind.trans hk) (hD.of hv'.perm) (by omega) (by omega) ?_)
  dsimp only
  cases c:f (kD (arrOf st') (lo+x)) (kD (arrOf st') (lo+x - 1)) with
  | true =>
   simp only [if_true]
   have dn:=g2.succ O (by omega) (O.asym _ _ c)
   by_cases hq:k > 0
   ·rw [if_pos hq]
    refine qe (Z4 ?_)
    have ev:=Yw O (p:=arrOf st') (i:=lo+x - (k+1)) (j:=lo+x) (by omega) g3
    exact qj ⟨hv'.mir (by omega) (by omega),0,rfl,by omega,dn.eqv O ev,fun a b=>one _ _ a b (by omega)⟩
   ·rw [if_neg hq]
    exact qj ⟨hv',0,rfl,by omega,dn,fun a b=>one _ _ a b (by omega)⟩
  | false =>
   simp only [Bool.false_eq_true,if_false]
   refine qe (JQ hA (hv'.kind.trans hk) (hD.of hv'.perm) (by omega) (by omega) ?_)
   dsimp only
   cases d:f (kD (arrOf st') (lo+x - 1)) (kD (arrOf st') (lo+x)) with
   | true =>
    simp only [if_true]
    exact qj (q x k st' hv' g1 (by omega) g2 g3)
   | false =>
    simp only [Bool.false_eq_true,if_false]
    refine qj ⟨hv',k+1,rfl,by omega,g2.succ O (by omega) d,fun a b a1 a2 b1 b2=>?_⟩
    have last:J7 f (kD (arrOf st') (lo+x)) (kD (arrOf st') (lo+x - 1)):=⟨c,d⟩
    have key:∀ y,lo+(x+1) - (k+1+1)<=y->y<lo+(x+1)->J7 f (kD (arrOf st') y) (kD (arrOf st') (lo+x - 1)):=fun y y1 y2=>by
     by_cases e:y=lo+x
     ·subst e;exact last
     ·exact g3 _ _ (by omega) (by omega) (by omega) (by omega)
    exact (key a a1 a2).trans O (key b b1 b2).symm
theorem Jz (hA:Ask prog w A E s kd D f) (O:OrdK f) (hk:kindOf st0=kd) (hD:qa5 D st0) (hn:lo+nrem<=(arrOf st0).size) {st:SortSt}(hv:SV lo st0 st) {n:Nat}(h1:1<=n) (h2:n+1<=nrem) (h3:DnL f lo (arrOf st) (n+1)) {Q:Option Nat->SortSt->Prop}(q:RunP f lo nrem st0 Q) :
  wpS (model prog w) A E s (jN lo n nrem) Q st:=by
 unfold jN
 refine qe (wpS_lift (wpAny_rule ⟨rfl,?_⟩))
 refine qe (qdc hA O hk hD hn hv (by omega) h2 h3 fun m k st' hv' g1 g2 g3 g4=>?_)
 dsimp only
 have hz:=hv'.size
 by_cases hq:k > 0
 ·rw [if_pos hq]
  refine qe (Z4 ?_)
  have ev:=Yw O (p:=arrOf st') (i:=lo+m - (k+1)) (j:=lo+m) (by omega) g4
  exact YU hA O hk hD hn (hv'.mir (by omega) (by omega)) (by omega) g2 (g3.eqv O ev) q
 ·rw [if_neg hq]
  exact YU hA O hk hD hn hv' (by omega) g2 g3 q
theorem ZA (hA:Ask prog w A E s kd D f) (O:OrdK f) (hk:kindOf st0=kd) (hD:qa5 D st0) (hn:lo+nrem<=(arrOf st0).size) (h1:1<=nrem) {Q:Option Nat->SortSt->Prop}(q:RunP f lo nrem st0 Q) :
  wpS (model prog w) A E s (countRun' lo nrem) Q st0:=by
 rw [Zn]
 refine qe (qbe hA O hk hD hn (qk _) h1 (UpL.one O lo _) fun m a1 a2 a3 a4=>?_)
 dsimp only
 by_cases e:m=nrem
 ·rw [if_pos (by simpa using e)]
  exact qj (q m st0 (SV.refl _ _) a1 a2 a3)
 ·rw [if_neg (by simpa using e)]
  have hlt:=a4 (by omega)
  by_cases e2:m > 1
  ·rw [if_pos e2]
   refine qe (JQ hA hk hD (by omega) (by omega) ?_)
   dsimp only
   cases c:f (kD (arrOf st0) lo) (kD (arrOf st0) (lo+m - 1)) with
   | true =>
    simp only [if_true]
    exact qj (q m st0 (SV.refl _ _) a1 a2 a3)
   | false =>
    simp only [Bool.false_eq_true,if_false]
    refine qe (Z4 ?_)
    have al:∀ a b,lo<=a->a<lo+m->lo<=b->b<lo+m->J7 f (kD (arrOf st0) a) (kD (arrOf st0) b):=fun a b ha1 ha hb1 hb=>by
     have key:∀ x,lo<=x->x<lo+m->J7 f (kD (arrOf st0) x) (kD (arrOf st0) lo):=fun x hx1 hx=>by
      have k1:=a3 0 (x - lo) (by omega) (by omega)
      have k2:=a3 (x - lo) (m - 1) (by omega) (by omega)
      rw [show lo+(x - lo)=x by omega] at k1 k2
      rw [show lo+(m - 1)=lo+m - 1 by omega] at k2
      exact ⟨k1,O.le k2 c⟩
     exact (key a ha1 ha).trans O (key b hb1 hb).symm
    have ev:=Yw O (p:=arrOf st0) (i:=lo) (j:=lo+m) (by omega) al
    have dn:DnL f lo (arrOf st0) m:=fun i j hi hj=>(al (lo+i) (lo+j) (by omega) (by omega) (by omega) (by omega)).1
    exact Jz hA O hk hD hn ((SV.refl lo st0).mir (qk _) (by omega)) a1 (by omega) ((dn.succ O a1 (O.asym _ _ hlt)).eqv O ev) q
  ·rw [if_neg e2]
   have m1:m=1:=by omega
   subst m1
   have dn:DnL f lo (arrOf st0) 1:=fun i j hi hj=>by
    have:i=j:=by omega
    subst this;exact O.irr _
   exact Jz hA O hk hD hn (SV.refl lo st0) (qk _) (by omega) (dn.succ O (qk _) (O.asym _ _ hlt)) q
theorem Zd {xs:Array Keyed}{src d:Nat}(hs:src<xs.size) (hd:d<=src) (k:Nat):kD (bubble xs src d) k=if k=src - d then kD xs src else if src - d<k/\k<=src then kD xs (k - 1) else kD xs k:=by
 have e:=getElem?_bubble hs d hd k
 by_cases h1:k=src - d
 ·rw [if_pos h1] at e ⊢;exact qcf e
 ·rw [if_neg h1] at e ⊢
  by_cases h2:src - d<k/\k<=src
  ·rw [if_pos h2] at e ⊢;exact qcf e
  ·rw [if_neg h2] at e ⊢;exact qcf e
theorem qaH (hA:Ask prog w A E s kd D f) (O:OrdK f) (hk:kindOf st0=kd) (hD:qa5 D st0) {n ok:Nat}(hn:lo+n<=(arrOf st0).size) (hok:ok<=n) (hs:UpL f lo (arrOf st0) ok) {Q:Bool->SortSt->Prop}(q:∀ st',SV lo st0 st'->UpL f lo (arrOf st') n->Q true st') :
  wpS (model prog w) A E s (binarySort' lo n ok) Q st0:=by
 rw [binarySort'_eq]
 refine qe (yQ (ya (I:=fun k c st'=>c=(none,())/\SV lo st0 st'/\UpL f lo (arrOf st') (min k n))
  (Q:=fun c st'=>c=(none,())/\SV lo st0 st'/\UpL f lo (arrOf st') n) ?step ?fin ?init) ?post)
 case post =>
  rintro c st' ⟨rfl,hB',hs'⟩
  exact qj (q st' hB' hs')
 case init =>
  refine ⟨rfl,SV.refl _ _,fun i j hij hj=>?_⟩
  by_cases h1:ok=0
  ·have:i=j:=by omega
   subst this;exact O.irr _
  ·exact hs i j hij (by omega)
 case fin =>
  rintro c st' ⟨hc,hB',hs'⟩
  refine ⟨hc,hB',?_⟩
  rwa [show min (max (max ok 1) n) n=n by omega] at hs'
 case step =>
  rintro k c st' hak hkn ⟨rfl,hB',hs'⟩
  rw [show min k n=k by omega] at hs'
  have hz:=hB'.size
  refine qe (yQ (ya (I:=fun x c st''=>st''=st'/\∃ l r,c=(none,l,r)/\l<=r/\r<=k/\r - l<=k - x ∧
    (∀ i,i<l->f (kD (arrOf st') (lo+k)) (kD (arrOf st') (lo+i))=false)/\(∀ i,r<=i->i<k->f (kD (arrOf st') (lo+k)) (kD (arrOf st') (lo+i))=true))
   (Q:=fun c st''=>st''=st'/\∃ l r,c=(none,l,r)/\l<=k ∧
    (∀ i,i<l->f (kD (arrOf st') (lo+k)) (kD (arrOf st') (lo+i))=false)/\(∀ i,l<=i->i<k->f (kD (arrOf st') (lo+k)) (kD (arrOf st') (lo+i))=true)) ?istep ?ifin ?iinit) ?ipost)
  case iinit=>exact ⟨rfl,0,k,rfl,by omega,by omega,by omega,fun i hi=>by omega,fun i h1 h2=>by omega⟩
  case ifin =>
   rintro c st'' ⟨rfl,l,r,rfl,hlr,hrk,hm,hlo,hhi⟩
   have:l=r:=by omega
   subst this
   exact ⟨rfl,l,l,rfl,hrk,hlo,hhi⟩
  case istep =>
   rintro x c st'' _ hxk ⟨rfl,l,r,rfl,hlr,hrk,hm,hlo,hhi⟩
   dsimp only
   by_cases hge:l ≥ r
   ·rw [if_pos hge]
    have:l=r:=by omega
    subst this
    exact qj ⟨rfl,l,l,rfl,hrk,hlo,hhi⟩
   ·rw [if_neg hge]
    refine qe (JQ hA (hB'.kind.trans hk) (hD.of hB'.perm) (by omega) (by omega) ?_)
    dsimp only
    cases c:f (kD (arrOf st'') (lo+k)) (kD (arrOf st'') (lo+(l+r) / 2)) with
    | true =>
     simp only [if_true]
     refine qj ⟨rfl,l,(l+r) / 2,rfl,by omega,by omega,by omega,hlo,fun i h1 h2=>?_⟩
     exact O.ltl c (hs' _ _ h1 h2)
    | false =>
     simp only [Bool.false_eq_true,if_false]
     refine qj ⟨rfl,(l+r) / 2+1,r,rfl,by omega,by omega,by omega,fun i h1=>?_,hhi⟩
     exact O.le (hs' i ((l+r) / 2) (by omega) (by omega)) c
  case ipost =>
   rintro c st'' ⟨rfl,l,r,rfl,hlk,hlo,hhi⟩
   show wpS _ _ _ _ (do moveDown' (lo+k) (lo+l);pure (ForInStep.yield (none,()))) _ _
   rw [moveDown'_eq]
   have hks:lo+k<(arrOf st'').size:=by omega
   have ed:lo+k - (lo+l)=k - l:=by omega
   refine qe (y8 (qj ⟨rfl,⟨hB'.kind,hB'.pend,hB'.fail,(bubble_perm _ _ _).trans hB'.perm,fun j hj=>?_⟩,?_⟩))
   ·show (bubble (arrOf st'') (lo+k) (lo+k - (lo+l)))[j]?=_
    rw [getElem?_bubble hks _ (by omega),if_neg (by omega),if_neg (by omega)]
    exact hB'.pre j hj
   rw [show min (k+1) n=k+1 by omega]
   intro i j hij hj
   show f (kD (bubble (arrOf st'') (lo+k) (lo+k - (lo+l))) (lo+j)) (kD (bubble (arrOf st'') (lo+k) (lo+k - (lo+l))) (lo+i))=false
   rw [Zd hks (by omega),Zd hks (by omega),ed,show lo+k - (k - l)=lo+l by omega]
   by_cases j1:j=l
   ·rw [if_pos (by omega)]
    by_cases i1:i=l
    ·rw [if_pos (by omega)];exact O.irr _
    ·rw [if_neg (by omega),if_neg (by omega)]
     exact hlo i (by omega)
   ·rw [if_neg (by omega)]
    by_cases j2:l<j/\j<=k
    ·rw [if_pos (by omega)]
     by_cases i1:i=l
     ·rw [if_pos (by omega)]
      have:=hhi (j - 1) (by omega) (by omega)
      rw [show lo+j - 1=lo+(j - 1) by omega]
      exact O.asym _ _ this
     ·rw [if_neg (by omega)]
      by_cases i2:l<i/\i<=k
      ·rw [if_pos (by omega),show lo+j - 1=lo+(j - 1) by omega,show lo+i - 1=lo+(i - 1) by omega];exact hs' _ _ (by omega) (by omega)
      ·rw [if_neg (by omega),show lo+j - 1=lo+(j - 1) by omega];exact hs' _ _ (by omega) (by omega)
    ·rw [if_neg (by omega),if_neg (by omega),if_neg (by omega)]
     exact hs' _ _ (by omega) (by omega)
end
end L2
namespace L2
open PySem PySem.Spec PyProof.Rows PySem.W
section
variable {f:Keyed->Keyed->Bool}
def ye (f:Keyed->Keyed->Bool):Nat->List (List Keyed)->List (Nat×Nat×Nat)->Prop
 | _,[],[]=>True
 | off,sg::sgs,p::ps=>p.1=off/\p.2.1=sg.length/\SdK f sg/\sg≠[]/\ye f (off+sg.length) sgs ps
 | _,_,_=>False
theorem ye.len:∀ {off:Nat}{segs:List (List Keyed)}{ps:List (Nat×Nat×Nat)},ye f off segs ps->segs.length=ps.length
 | _,[],[],_=>rfl
 | _,_::_,_::_,h=>by simp [ye.len h.2.2.2.2]
theorem ye.snoc:∀ {off:Nat}{segs:List (List Keyed)}{ps:List (Nat×Nat×Nat)}{sg:List Keyed}{pw:Nat},ye f off segs ps->SdK f sg->sg≠[]->ye f off (segs++[sg]) (ps++[(off+segs.flatten.length,sg.length,pw)])
 | _,[],[],_,_,_,h1,h2=>⟨by simp,rfl,h1,h2,trivial⟩
 | off,a::segs,p::ps,sg,pw,h,h1,h2=>by
  obtain ⟨g1,g2,g3,g4,g5⟩:=h
  have:=ye.snoc (pw:=pw) g5 h1 h2
  refine ⟨g1,g2,g3,g4,?_⟩
  simp only [List.flatten_cons,List.length_append]
  rw [Nat.add_assoc] at this
  exact this
theorem ye.split:∀ {p1:List (Nat×Nat×Nat)}{off:Nat}{segs:List (List Keyed)}{A B:Nat×Nat×Nat}{p2:List (Nat×Nat×Nat)},ye f off segs (p1++A::B::p2) →
  ∃ s1 X Y s2,segs=s1++X::Y::s2/\A.1=off+s1.flatten.length/\A.2.1=X.length/\B.1=off+s1.flatten.length+X.length/\B.2.1=Y.length/\SdK f X/\SdK f Y/\X≠[]/\Y≠[] ∧
   ∀ Z pw,SdK f Z->Z.length=X.length+Y.length->ye f off (s1++Z::s2) (p1++(A.1,X.length+Y.length,pw)::p2)
 | [],off,a::b::segs,A,B,p2,h=>by
  obtain ⟨g1,g2,g3,g4,h1,h2,h3,h4,h5⟩:=h
  refine ⟨[],a,b,segs,rfl,by simpa using g1,g2,by simpa using h1,h2,g3,h3,g4,h4,fun Z pw z1 z2=>⟨g1,z2.symm,z1,fun e=>?_,?_⟩⟩
  ·subst e
   simp at z2
   have:=yl.mpr g4
   omega
  ·rw [z2,<- Nat.add_assoc];exact h5
 | p::p1,off,a::segs,A,B,p2,h=>by
  obtain ⟨g1,g2,g3,g4,g5⟩:=h
  obtain ⟨s1,X,Y,s2,e,k1,k2,k3,k4,k5,k6,k7,k8,k9⟩:=ye.split g5
  refine ⟨a::s1,X,Y,s2,by rw [e];rfl,by rw [k1];simp;omega,k2,by rw [k3];simp;omega,k4,k5,k6,k7,k8,fun Z pw z1 z2=>⟨g1,g2,g3,g4,k9 Z pw z1 z2⟩⟩
theorem ye.repow {g:Nat×Nat×Nat->Nat×Nat×Nat}(hg:∀ p,(g p).1=p.1/\(g p).2.1=p.2.1):∀ {off:Nat}{segs:List (List Keyed)}{ps:List (Nat×Nat×Nat)}{i:Nat},ye f off segs ps->ye f off segs (ps.modify i g)
 | _,[],[],i,h=>by rw [List.modify_nil];exact h
 | _,a::segs,p::ps,0,h=>by
  obtain ⟨g1,g2,g3,g4,g5⟩:=h
  simp only [List.modify_zero_cons]
  exact ⟨(hg p).1.trans g1,(hg p).2.trans g2,g3,g4,g5⟩
 | _,a::segs,p::ps,i+1,h=>by
  obtain ⟨g1,g2,g3,g4,g5⟩:=h
  simp only [List.modify_succ_cons]
  exact ⟨g1,g2,g3,g4,ye.repow hg g5⟩
theorem ye.flat_pos:∀ {off:Nat}{segs:List (List Keyed)}{ps:List (Nat×Nat×Nat)},ye f off segs ps->ps.length<=segs.flatten.length
 | _,[],[],_=>qk _
 | _,a::segs,p::ps,h=>by
  have:=ye.flat_pos h.2.2.2.2
  have:=yl.mpr h.2.2.2.1
  rw [List.flatten_cons,List.length_append,List.length_cons];omega
end
def wrt (base:Nat) (a:Array Keyed) (l:List (Keyed×Nat)):Array Keyed:=l.foldl (fun a (p:Keyed×Nat)=>a.setIfInBounds (base+p.2) p.1) a
theorem Z3:∀ {M:List Keyed}{n base:Nat}{arr:Array Keyed}{A B C:List Keyed},arr.toList=A++(B++C)->A.length=base+n->M.length=B.length->(wrt base arr (M.zipIdx n)).toList=A++(M++C)
 | [],n,base,arr,A,B,C,h,_,hm=>by
  have:B=[]:=List.eq_nil_of_length_eq_zero hm.symm
  subst this
  simpa [wrt] using h
 | m::M,n,base,arr,A,[],C,h,_,hm=>by simp at hm
 | m::M,n,base,arr,A,b::B,C,h,ha,hm=>by
  have e:(arr.setIfInBounds (base+n) m).toList=(A++[m])++(B++C):=by
   rw [Array.toList_setIfInBounds,h,<- ha]
   simp
  have:=Z3 (M:=M) (n:=n+1) (base:=base) (arr:=arr.setIfInBounds (base+n) m) e (by simp;omega) (by simpa using hm)
  rw [List.zipIdx_cons]
  show (wrt base (arr.setIfInBounds (base+n) m) (M.zipIdx (n+1))).toList=_
  rw [this]
  simp
theorem Zc (i:Nat):mergeAt' i=(do
 let s <- get
 let (some (sa,na,power),some (sb,nb,_)):=((pendingOf s)[i]?,(pendingOf s)[i+1]?) | unsupported "internal:list.sort.pending"
 set (SortSt.mk' (PyProof.Rows.kindOf s) (arrOf s) (((pendingOf s).setIfInBounds i (sa,na+nb,power)).eraseIdxIfInBounds (i+1)) (gallopOf s) (failedOf s))
 let some k <- yW false (<- elem' (arrOf s) sb) (arrOf s) sa na 0 | return false
 let (sa,na):=(sa+k,na - k)
 if na == 0 then return true
 let some nb <- yW true (<- elem' (arrOf s) (sa+na - 1)) (arrOf s) sb nb (nb - 1) | return false
 if nb == 0 then return true
 let x:=(arrOf s).extract sa sb
 let y:=(arrOf s).extract sb (sb+nb)
 let merged <- if na<=nb then JJ x y else JK x y
 modify fun s=>SortSt.mk' (PyProof.Rows.kindOf s) (merged.toList.zipIdx.foldl (fun a (p,j)=>a.setIfInBounds (sa+j) p) (arrOf s)) (pendingOf s) (gallopOf s) (failedOf s)
 return (failedOf (<- get)).isNone):=rfl
section
variable {prog:Program}{w:World}{A:Around}{E:Value->Shared->Prop}{s:Shared}{kd:SortKind}{D:Keyed->Prop}{f:Keyed->Keyed->Bool}{st:SortSt}
theorem qfo {st st':SortSt}{Q:PUnit->SortSt->Prop}(h:Q ⟨⟩ st'):wpS (model prog w) A E s (set st':StateT SortSt Sem PUnit) Q st:=by
 unfold wpS;rw [StateT.run_set];exact qd ⟨rfl,h⟩
theorem qaW {p1 p2:List (Nat×Nat×Nat)}{a b v:Nat×Nat×Nat}{ps:Array (Nat×Nat×Nat)}(h:ps.toList=p1++a::b::p2):((ps.setIfInBounds p1.length v).eraseIdxIfInBounds (p1.length+1)).toList=p1++v::p2:=by
 have hz:ps.size=p1.length+2+p2.length:=by
  rw [<- Array.length_toList,h];simp;omega
 unfold Array.eraseIdxIfInBounds
 rw [dif_pos (by simp;omega),Array.toList_eraseIdx,Array.toList_setIfInBounds,h]
 simp
 rw [List.eraseIdx_append_of_length_le (by omega)]
 simp
theorem Yu {X Y:List Keyed}(h1:SdK f X) (h2:SdK f Y) (c:∀ x∈X,∀ y∈Y,f y x=false):SdK f (X++Y):=qD.mpr ⟨h1,h2,c⟩
theorem Jj (hA:Ask prog w A E s kd D f) (O:OrdK f) (hk:PyProof.Rows.kindOf st=kd) (hD:qa5 D st) (hf:failedOf st=none) {segs:List (List Keyed)}{yP:List Keyed}{i:Nat}(ha:(arrOf st).toList=segs.flatten++yP) (hp:ye f 0 segs (pendingOf st).toList) (hi:i+1<(pendingOf st).size) {Q:Bool->SortSt->Prop}
  (q:∀ st' segs',PyProof.Rows.kindOf st'=kd->failedOf st'=none->(arrOf st').Perm (arrOf st)->(arrOf st').toList=segs'.flatten++yP->segs'.flatten.length=segs.flatten.length->ye f 0 segs' (pendingOf st').toList->(pendingOf st').size+1=(pendingOf st).size->Q true st') :
  wpS (model prog w) A E s (mergeAt' i) Q st:=by
 have hlen:(pendingOf st).toList.length=(pendingOf st).size:=Array.length_toList
 obtain ⟨p1,a0,b0,p2,hpl,hp1⟩:∃ p1 a0 b0 p2,(pendingOf st).toList=p1++a0::b0::p2/\p1.length=i:=by
  refine ⟨(pendingOf st).toList.take i,(pendingOf st)[i],(pendingOf st)[i+1],(pendingOf st).toList.drop (i+2),?_,by simp;omega⟩
  have e1:=List.drop_eq_getElem_cons (l:=(pendingOf st).toList) (i:=i) (by omega)
  have e2:=List.drop_eq_getElem_cons (l:=(pendingOf st).toList) (i:=i+1) (by omega)
  have:=(qv i (pendingOf st).toList).symm
  rw [e1,e2] at this
  exact this
 rw [hpl] at hp
 obtain ⟨s1,X,Y,s2,rfl,k1,k2,k3,k4,k5,k6,k7,k8,k9⟩:=hp.split
 have g1:(pendingOf st)[i]?=some a0:=by
  rw [<- qh,hpl,<- hp1];simp
 have g2:(pendingOf st)[i+1]?=some b0:=by
  rw [<- qh,hpl,<- hp1]
  rw [qM (by omega)]
  simp
 obtain ⟨sa,na,pw⟩:=a0
 obtain ⟨sb,nb,pw2⟩:=b0
 simp only [Nat.zero_add] at k1 k2 k3 k4
 subst k2 k4
 rw [Zc]
 refine qe (wpS_get ?_)
 rw [g1,g2]
 dsimp only
 refine qe (qfo ?_)
 have hnp:(((pendingOf st).setIfInBounds i (sa,X.length+Y.length,pw)).eraseIdxIfInBounds (i+1)).toList=p1++(sa,X.length+Y.length,pw)::p2:=by
  rw [<- hp1];exact qaW hpl
 have hsz:(((pendingOf st).setIfInBounds i (sa,X.length+Y.length,pw)).eraseIdxIfInBounds (i+1)).size+1=(pendingOf st).size:=by
  rw [<- Array.length_toList,hnp,<- hlen,hpl];simp;omega
 generalize ((pendingOf st).setIfInBounds i (sa,X.length+Y.length,pw)).eraseIdxIfInBounds (i+1)=np at hnp hsz ⊢
 have harr:(arrOf st).toList=s1.flatten++(X++(Y++(s2.flatten++yP))):=by rw [ha];simp
 have hsz2:(arrOf st).size=s1.flatten.length+(X.length+(Y.length+(s2.flatten.length+yP.length))):=by
  rw [<- Array.length_toList,harr];simp
 have hX:0<X.length:=yl.mpr k7
 have hY:0<Y.length:=yl.mpr k8
 have getX:∀ j,j<X.length->(arrOf st)[sa+j]?=X[j]?:=fun j hj=>by
  rw [<- qh,harr,k1,qM (by omega),qP (by omega)]
  congr 1;omega
 have getY:∀ j,j<Y.length->(arrOf st)[sb+j]?=Y[j]?:=fun j hj=>by
  rw [<- qh,harr,k3,qM (by omega),qM (by omega),qP (by omega)]
  congr 1;omega
 have dX:∀ x∈X,D x:=fun x hx=>hD x (by rw [harr];simp [hx])
 have dY:∀ x∈Y,D x:=fun x hx=>hD x (by rw [harr];simp [hx])
 -- the end,by what stands there then
 have fin:∀ (st':SortSt) (Z:List Keyed),PyProof.Rows.kindOf st'=kd->failedOf st'=none->pendingOf st'=np->(arrOf st').toList=s1.flatten++(Z++(s2.flatten++yP))->SdK f Z->Z.Perm (X++Y)->Q true st':=fun st' Z z1 z2 z3 z4 z5 z6=>by
  have zl:=z6.length_eq
  rw [List.length_append] at zl
  refine q st' (s1++Z::s2) z1 z2 ?_ (by rw [z4];simp) (by simp [zl];omega) ?_ (by rw [z3];exact hsz)
  ·rw [yx,z4,harr]
   refine List.Perm.append_left _ ?_
   rw [<- ql X Y]
   exact List.Perm.append_right _ z6
  ·rw [z3,hnp]
   have:=k9 Z pw z5 zl
   simpa using this
 have fin0:SdK f (X++Y)->Q true (SortSt.mk' (PyProof.Rows.kindOf st) (arrOf st) np (gallopOf st) (failedOf st)):=fun h=>fin _ (X++Y) hk hf rfl (by rw [harr];simp) h (List.Perm.refl _)
 have y0:(arrOf st)[sb]?=some Y[0]:=by
  have:=getY 0 hY
  rwa [Nat.add_zero,List.getElem?_eq_getElem hY] at this
 rw [elem'_eq,y0]
 refine qe (qj ?_)
 refine qe (Yf hA O hk X rfl getX (dY _ (qE hY)) dX hX k5 fun k hk1 hk2 hk3=>?_)
 have leX:∀ x∈X.take k,f Y[0] x=false:=fun x hx=>by simpa [byd] using hk2 x hx
 have gtX:∀ x∈X.drop k,f Y[0] x=true:=fun x hx=>by simpa [byd] using hk3 x hx
 have Y0le:∀ y∈Y,f y Y[0]=false:=fun y hy=>by
  obtain ⟨j,hj,rfl⟩:=y7.mp hy
  by_cases e:j=0
  ·subst e;exact O.irr _
  ·exact qF.mp k6 0 j hY hj (by omega)
 dsimp only
 by_cases e:X.length - k=0
 ·rw [if_pos (by simpa using e)]
  refine qj (fin0 (Yu k5 k6 fun x hx y hy=>?_))
  have:X.take k=X:=List.take_of_length_le (by omega)
  exact O.le (leX x (by rw [this];exact hx)) (Y0le y hy)
 ·rw [if_neg (by simpa using e)]
  have hl:X.length - 1<X.length:=by omega
  have xl:(arrOf st)[sa+k+(X.length - k) - 1]?=some X[X.length - 1]:=by
   rw [show sa+k+(X.length - k) - 1=sa+(X.length - 1) by omega,getX _ hl,List.getElem?_eq_getElem hl]
  rw [elem'_eq,xl]
  refine qe (qj ?_)
  refine qe (Yf hA O hk Y rfl getY (dX _ (qE hl)) dY (by omega) k6 fun m hm1 hm2 hm3=>?_)
  have ltY:∀ x∈Y.take m,f x X[X.length - 1]=true:=fun x hx=>hm2 x hx
  have geY:∀ x∈Y.drop m,f x X[X.length - 1]=false:=fun x hx=>hm3 x hx
  have Xle:∀ x∈X,f X[X.length - 1] x=false:=fun x hx=>by
   obtain ⟨j,hj,rfl⟩:=y7.mp hx
   by_cases e:j=X.length - 1
   ·subst e;exact O.irr _
   ·exact qF.mp k5 j (X.length - 1) hj hl (by omega)
  dsimp only
  by_cases e2:m=0
  ·rw [if_pos (by simpa using e2)]
   subst e2
   refine qj (fin0 (Yu k5 k6 fun x hx y hy=>O.le (Xle x hx) (geY y (by simpa using hy))))
  ·rw [if_neg (by simpa using e2)]
   have ex:((arrOf st).extract (sa+k) sb).toList=X.drop k:=by
    have e:((arrOf st).extract (sa+k) sb).toList=((arrOf st).toList.drop (sa+k)).take (sb - (sa+k)):=by simp [Array.toList_extract,List.extract_eq_take_drop]
    rw [e,harr,k1,k3,List.drop_append,List.drop_of_length_le (by omega),List.nil_append,show s1.flatten.length+k - s1.flatten.length=k by omega,List.drop_append_of_le_length (by omega),List.take_append_of_le_length (by simp;omega)]
    exact List.take_of_length_le (by simp;omega)
   have ey:((arrOf st).extract sb (sb+m)).toList=Y.take m:=by
    rw [jC,harr,k3,List.drop_append,List.drop_of_length_le (by omega),List.nil_append,show s1.flatten.length+X.length - s1.flatten.length=X.length by omega,List.drop_left,List.take_append_of_le_length hm1]
   generalize (arrOf st).extract (sa+k) sb=ax at ex ⊢
   generalize (arrOf st).extract sb (sb+m)=ay at ey ⊢
   have hax:ax.size=X.length - k:=by rw [<- Array.length_toList,ex];simp
   have hay:ay.size=m:=by rw [<- Array.length_toList,ey];simp;omega
   have getax:∀ j (h:j<ax.size),ax[j]=X[k+j]'(by omega):=fun j h=>by
    have:ax.toList[j]'(by simpa using h)=(X.drop k)[j]'(by simp;omega):=by simp only [ex]
    rw [List.getElem_drop] at this
    exact this
   have getay:∀ j (h:j<ay.size),ay[j]=Y[j]'(by omega):=fun j h=>by
    have:ay.toList[j]'(by simpa using h)=(Y.take m)[j]'(by simp;omega):=by simp only [ey]
    rw [List.getElem_take] at this
    exact this
   have hB:Both D f ax ay:=by
    refine ⟨fun x hx=>dX x (yH (by rw [<- ex];exact hx)),fun x hx=>dY x (yf (by rw [<- ey];exact hx)),by omega,by omega,fun x hx=>?_,?_,?_,?_⟩
    ·rw [getax]
     have:=ltY x (by rw [<- ey];exact hx)
     simp only [hax,show k+(X.length - k - 1)=X.length - 1 by omega]
     exact this
    ·rw [getax,getay]
     exact gtX _ (y7.mpr ⟨0,by simp;omega,by rw [List.getElem_drop]⟩)
    ·rw [ex];exact List.Pairwise.sublist (List.drop_sublist _ _) k5
    ·rw [ey];exact List.Pairwise.sublist (List.take_sublist _ _) k6
   have key:∀ (o:Array Keyed) (st':SortSt),yt (SortSt.mk' (PyProof.Rows.kindOf st) (arrOf st) np (gallopOf st) (failedOf st)) st'->j8 f ax ay o->Q true (SortSt.mk' (PyProof.Rows.kindOf st') (wrt (sa+k) (arrOf st') o.toList.zipIdx) (pendingOf st') (gallopOf st') (failedOf st')):=fun o st' hs ⟨h1,h2⟩=>by
    rw [ex,ey] at h2
    have ol:=h2.length_eq
    refine fin _ (X.take k++(o.toList++Y.drop m)) (hs.1.trans hk) (hs.2.2.2.trans hf) hs.2.2.1 ?_ ?_ ?_
    ·show (wrt (sa+k) (arrOf st') o.toList.zipIdx).toList=_
     have ea:(arrOf st').toList=(s1.flatten++X.take k)++((X.drop k++Y.take m)++(Y.drop m++(s2.flatten++yP))):=by
      have:arrOf st'=arrOf st:=hs.2.1
      rw [this,harr]
      have e1:=qv k X
      have e2:=qv m Y
      rw [<- ql (X.drop k++Y.take m),ql (X.drop k),e2]
      rw [ql s1.flatten,<- ql (X.take k),<- ql (X.take k),e1]
      simp
     rw [Z3 (n:=0) ea (by rw [List.length_append,qU];omega) ol]
     simp
    ·refine Yu (List.Pairwise.sublist (List.take_sublist _ _) k5) (Yu h1 (List.Pairwise.sublist (List.drop_sublist _ _) k6) fun x hx y hy=>?_) fun x hx y hy=>?_
     ·have hx:=h2.mem_iff.mp hx
      rcases List.mem_append.mp hx with z | z
      ·exact O.le (Xle x (yH z)) (geY y hy)
      ·have hY2:=qv m Y
       have:SdK f (Y.take m++Y.drop m):=by rw [hY2];exact k6
       exact (qD.mp this).2.2 x z y hy
     ·rcases List.mem_append.mp hy with z | z
      ·have z:=h2.mem_iff.mp z
       rcases List.mem_append.mp z with z | z
       ·have hX2:=qv k X
        have:SdK f (X.take k++X.drop k):=by rw [hX2];exact k5
        exact (qD.mp this).2.2 x hx y z
       ·exact O.le (leX x hx) (Y0le y (yf z))
      ·exact O.le (leX x hx) (Y0le y (yH z))
    ·refine List.Perm.trans (List.Perm.append_left _ (List.Perm.append_right _ h2)) ?_
     rw [ql,qv m Y,<- ql,qv k X]
   by_cases e3:X.length - k<=m
   ·rw [if_pos e3]
    refine qe (qaF (st:=SortSt.mk' (PyProof.Rows.kindOf st) (arrOf st) np (gallopOf st) (failedOf st)) hA O hB hk fun o st' hs h=>?_)
    refine qe (y8 (qe (wpS_get (qj ?_))))
    have e0:(failedOf st').isNone=true:=by
     have:failedOf st'=none:=hs.2.2.2.trans hf
     rw [this];rfl
    show Q (failedOf st').isNone _
    rw [e0]
    exact key o st' hs h
   ·rw [if_neg e3]
    refine qe (qaG (st:=SortSt.mk' (PyProof.Rows.kindOf st) (arrOf st) np (gallopOf st) (failedOf st)) hA O hB hk fun o st' hs h=>?_)
    refine qe (y8 (qe (wpS_get (qj ?_))))
    have e0:(failedOf st').isNone=true:=by
     have:failedOf st'=none:=hs.2.2.2.trans hf
     rw [this];rfl
    show Q (failedOf st').isNone _
    rw [e0]
    exact key o st' hs h
structure RI (f:Keyed->Keyed->Bool) (kd:SortKind) (a0:Array Keyed) (lo:Nat) (st:SortSt):Prop where
 kind:PyProof.Rows.kindOf st=kd
 fail:failedOf st=none
 perm:(arrOf st).Perm a0
 segs:∃ segs yP,(arrOf st).toList=segs.flatten++yP/\segs.flatten.length=lo/\ye f 0 segs (pendingOf st).toList
theorem RI.size {a0:Array Keyed}{lo:Nat}(h:RI f kd a0 lo st):(arrOf st).size=a0.size:=h.perm.size_eq
theorem qch {xs:Array Keyed}{i:Nat}{l:List Keyed}{pre:List Keyed}{post:List Keyed}(h:xs.toList=pre++(l++post)) (hi:i<l.length):kD xs (pre.length+i)=l[i]:=by
 have hz:pre.length+i<xs.size:=by rw [<- Array.length_toList,h];simp;omega
 have:=qci hz
 rw [<- qh,h,qM (by omega),qP (by omega),Nat.add_sub_cancel_left,List.getElem?_eq_getElem hi] at this
 exact (Option.some.inj this).symm
theorem RI.run {a0:Array Keyed}{lo n:Nat}{st0 st:SortSt}(h:RI f kd a0 lo st0) (hv:SV lo st0 st) (h1:1<=n) (h2:lo+n<=a0.size) (hu:UpL f lo (arrOf st) n):∃ segs run yP,(arrOf st).toList=segs.flatten++(run++yP)/\segs.flatten.length=lo/\ye f 0 segs (pendingOf st).toList/\SdK f run/\run.length=n:=by
 obtain ⟨segs,yP,g1,g2,g3⟩:=h.segs
 have hz:(arrOf st).size=a0.size:=hv.size.trans h.size
 have hz0:=h.size
 have e1:(arrOf st).toList.take lo=segs.flatten:=by
  have:(arrOf st).toList.take lo=(arrOf st0).toList.take lo:=by
   apply List.ext_getElem?
   intro i
   rw [List.getElem?_take,List.getElem?_take]
   split
   ·rename_i hi
    rw [qh,qh]
    exact hv.pre i hi
   ·rfl
  rw [this,g1,<- g2,List.take_left]
 have hl:(arrOf st).toList.length=a0.size:=by rw [Array.length_toList];exact hz
 refine ⟨segs,((arrOf st).toList.drop lo).take n,((arrOf st).toList.drop lo).drop n,?_,g2,by rw [hv.pend];exact g3,?_,by simp;omega⟩
 ·rw [qv n,<- e1,qv]
 ·refine qF.mpr fun i j hi hj hij=>?_
  have hi':i<n:=by simp at hi;omega
  have hj':j<n:=by simp at hj;omega
  have:=hu i j (by omega) hj'
  have ed:(arrOf st).toList=segs.flatten++(((arrOf st).toList.drop lo).take n++((arrOf st).toList.drop lo).drop n):=by rw [qv n,<- e1,qv]
  subst g2
  rw [qch ed hi,qch ed hj] at this
  exact this
theorem RI.push {a0:Array Keyed}{lo n:Nat}{st:SortSt}(hk:PyProof.Rows.kindOf st=kd) (hf:failedOf st=none) (hp:(arrOf st).Perm a0) {segs:List (List Keyed)}{run yP:List Keyed}(g1:(arrOf st).toList=segs.flatten++(run++yP)) (g2:segs.flatten.length=lo) (g3:ye f 0 segs (pendingOf st).toList) (g4:SdK f run) (g5:run.length=n) (h1:1<=n) :
  RI f kd a0 (lo+n) (setPending st ((pendingOf st).push (lo,n,0))):=by
 refine ⟨hk,hf,hp,segs++[run],yP,by rw [show arrOf (setPending st ((pendingOf st).push (lo,n,0)))=arrOf st from rfl,g1];simp,by simp only [List.flatten_append,List.length_append,List.flatten_cons,List.flatten_nil,List.append_nil,g2,g5],?_⟩
 have:=g3.snoc (pw:=0) g4 (fun e=>by subst e;simp at g5;omega)
 rw [show (pendingOf (setPending st ((pendingOf st).push (lo,n,0)))).toList=(pendingOf st).toList++[(lo,n,0)] from Array.toList_push ..]
 rw [Nat.zero_add,g2,g5] at this
 exact this
theorem Zz (hA:Ask prog w A E s kd D f) (O:OrdK f) {a0:Array Keyed}(hk:PyProof.Rows.kindOf st=kd) (hf:failedOf st=none) (ha:arrOf st=a0) (hp0:pendingOf st=#[]) (hD:∀ x∈a0.toList,D x) (h2:2<=a0.size) {Q:Unit->SortSt->Prop}
  (q:∀ st',(arrOf st').Perm a0->failedOf st'=none->SdK f (arrOf st').toList->Q () st'):wpS (model prog w) A E s sortRuns' Q st:=by
 have hAll:∀ st',(arrOf st').Perm a0->qa5 D st':=fun st' h x hx=>hD x ((yx.mp h).mem_iff.mp hx)
 rw [sortRuns'_eq]
 refine qe (wpS_get ?_)
 dsimp only
 rw [ha]
 generalize minRun' a0.size a0.size 0=minrun
 refine qe (yQ (ya
  (I:=fun x c st'=>∃ lo,c=(none,lo)/\x<=lo/\lo<=a0.size/\RI f kd a0 lo st')
  (Q:=fun c st'=>c=(none,a0.size)/\RI f kd a0 a0.size st') ?step ?fin ⟨0,rfl,qk _,yc _,hk,hf,ha ▸ Array.Perm.refl _,[],a0.toList,by rw [ha];rfl,rfl,by rw [hp0];trivial⟩) ?post)
 case fin =>
  rintro c st' ⟨lo,rfl,g1,g2,g3⟩
  have:lo=a0.size:=by omega
  subst this
  exact ⟨rfl,g3⟩
 case step =>
  rintro x c st' _ hx ⟨lo,rfl,g1,g2,g3⟩
  dsimp only
  by_cases hge:lo ≥ a0.size
  ·rw [if_pos hge]
   have:lo=a0.size:=by omega
   subst this
   exact qj ⟨rfl,g3⟩
  ·rw [if_neg hge]
   have hz:=g3.size
   refine qe (ZA hA O g3.kind (hAll _ g3.perm) (by omega) (by omega) fun n st1 hv h1 hn hu=>?_)
   dsimp only
   -- with a run of n,merge and push
   have next:∀ (n:Nat) (st1:SortSt),SV lo st' st1->1<=n->lo+n<=a0.size->UpL f lo (arrOf st1) n->∃ segs run yP,PyProof.Rows.kindOf st1=kd/\failedOf st1=none/\(arrOf st1).Perm a0/\(arrOf st1).toList=segs.flatten++(run++yP)/\segs.flatten.length=lo/\ye f 0 segs (pendingOf st1).toList/\SdK f run/\run.length=n:=fun n st1 hv h1 hn hu=>by
    obtain ⟨segs,run,yP,e⟩:=g3.run hv h1 hn hu
    exact ⟨segs,run,yP,hv.kind.trans g3.kind,hv.fail.trans g3.fail,hv.perm.trans g3.perm,e⟩
   by_cases hlt:n<minrun
   ·rw [if_pos hlt]
    refine qe (wpS_lift (wpAny_rule ⟨rfl,?_⟩))
    have hz1:=hv.size
    refine qe (qaH (n:=min (a0.size - lo) minrun) (ok:=n) hA O (hv.kind.trans g3.kind) (hAll _ (hv.perm.trans g3.perm)) (by omega) (by omega) hu fun st2 hv2 hu2=>?_)
    simp only [Bool.not_true,Bool.false_eq_true,if_false]
    obtain ⟨segs,run,yP,b1,b2,b3,b4,b5,b6,b7,b8⟩:=next (min (a0.size - lo) minrun) st2 (hv.trans hv2) (by omega) (by omega) hu2
    have hnn:1<=min (a0.size - lo) minrun/\min (a0.size - lo) minrun<=a0.size - lo:=by omega
    generalize min (a0.size - lo) minrun=n at *
    have hn1:1<=n:=by omega
    refine qe (wpS_get ?_)
    cases hb:(pendingOf st2).back? with
    | none =>
     dsimp only
     exact qe (y8 (qj ⟨lo+n,rfl,by omega,by omega,RI.push b1 b2 b3 b4 b5 b6 b7 b8 hn1⟩))
    | some p =>
     obtain ⟨s1,n1,pw1⟩:=p
     dsimp only
     generalize power' a0.size (2 * s1+n1) (2 * s1+n1+n1+n) a0.size=pw
     refine qe (yQ (ya (I:=fun _ c sx=>c=(none,())/\∃ segs,PyProof.Rows.kindOf sx=kd/\failedOf sx=none/\(arrOf sx).Perm a0/\(arrOf sx).toList=segs.flatten++(run++yP)/\segs.flatten.length=lo/\ye f 0 segs (pendingOf sx).toList)
      (Q:=fun c sx=>c=(none,())/\∃ segs,PyProof.Rows.kindOf sx=kd/\failedOf sx=none/\(arrOf sx).Perm a0/\(arrOf sx).toList=segs.flatten++(run++yP)/\segs.flatten.length=lo/\ye f 0 segs (pendingOf sx).toList) ?mstep1 ?mfin1 ⟨rfl,segs,b1,b2,b3,b4,b5,b6⟩) ?mpost1)
     case mfin1=>exact fun c sx h=>h
     case mstep1 =>
      rintro y c sx _ _ ⟨rfl,segs,d1,d2,d3,d4,d5,d6⟩
      refine qe (wpS_get ?_)
      by_cases hs:(pendingOf sx).size > 1
      ·rw [if_pos hs]
       have e:(pendingOf sx)[(pendingOf sx).size - 2]?=some ((pendingOf sx)[(pendingOf sx).size - 2]):=y6 (by omega)
       rw [e]
       generalize (pendingOf sx)[(pendingOf sx).size - 2]=t
       obtain ⟨t1,t2,t3⟩:=t
       dsimp only
       split
       ·exact qj ⟨rfl,segs,d1,d2,d3,d4,d5,d6⟩
       ·refine qe (Jj hA O d1 (hAll _ d3) d2 d4 d6 (by omega) fun st4 segs' z1 z2 z3 z4 z5 z6 z7=>?_)
        simp only [Bool.not_true,Bool.false_eq_true,if_false]
        exact qj ⟨rfl,segs',z1,z2,z3.trans d3,z4,z5.trans d5,z6⟩
      ·rw [if_neg hs]
       exact qj ⟨rfl,segs,d1,d2,d3,d4,d5,d6⟩
     case mpost1 =>
      rintro c sx ⟨rfl,segs,d1,d2,d3,d4,d5,d6⟩
      dsimp only
      refine qe (y8 (qe (y8 (qj ⟨lo+n,rfl,by omega,by omega,?_⟩))))
      have d7:ye f 0 segs ((pendingOf sx).modify ((pendingOf sx).size - 1) fun x=>(x.1,x.2.1,pw)).toList:=by
       rw [Array.toList_modify];exact ye.repow (g:=fun x=>(x.1,x.2.1,pw)) (fun p=>⟨rfl,rfl⟩) d6
      exact RI.push (st:=setPending sx ((pendingOf sx).modify ((pendingOf sx).size - 1) fun x=>(x.1,x.2.1,pw))) d1 d2 d3 d4 d5 d7 b7 b8 hn1
   ·rw [if_neg hlt]
    obtain ⟨segs,run,yP,b1,b2,b3,b4,b5,b6,b7,b8⟩:=next n st1 hv h1 (by omega) hu
    have hn1:1<=n:=by omega
    refine qe (wpS_get ?_)
    cases hb:(pendingOf st1).back? with
    | none =>
     dsimp only
     exact qe (y8 (qj ⟨lo+n,rfl,by omega,by omega,RI.push b1 b2 b3 b4 b5 b6 b7 b8 hn1⟩))
    | some p =>
     obtain ⟨s1,n1,pw1⟩:=p
     dsimp only
     generalize power' a0.size (2 * s1+n1) (2 * s1+n1+n1+n) a0.size=pw
     refine qe (yQ (ya (I:=fun _ c sx=>c=(none,())/\∃ segs,PyProof.Rows.kindOf sx=kd/\failedOf sx=none/\(arrOf sx).Perm a0/\(arrOf sx).toList=segs.flatten++(run++yP)/\segs.flatten.length=lo/\ye f 0 segs (pendingOf sx).toList)
      (Q:=fun c sx=>c=(none,())/\∃ segs,PyProof.Rows.kindOf sx=kd/\failedOf sx=none/\(arrOf sx).Perm a0/\(arrOf sx).toList=segs.flatten++(run++yP)/\segs.flatten.length=lo/\ye f 0 segs (pendingOf sx).toList) ?mstep2 ?mfin2 ⟨rfl,segs,b1,b2,b3,b4,b5,b6⟩) ?mpost1)
     case mfin2=>exact fun c sx h=>h
     case mstep2 =>
      rintro y c sx _ _ ⟨rfl,segs,d1,d2,d3,d4,d5,d6⟩
      refine qe (wpS_get ?_)
      by_cases hs:(pendingOf sx).size > 1
      ·rw [if_pos hs]
       have e:(pendingOf sx)[(pendingOf sx).size - 2]?=some ((pendingOf sx)[(pendingOf sx).size - 2]):=y6 (by omega)
       rw [e]
       generalize (pendingOf sx)[(pendingOf sx).size - 2]=t
       obtain ⟨t1,t2,t3⟩:=t
       dsimp only
       split
       ·exact qj ⟨rfl,segs,d1,d2,d3,d4,d5,d6⟩
       ·refine qe (Jj hA O d1 (hAll _ d3) d2 d4 d6 (by omega) fun st4 segs' z1 z2 z3 z4 z5 z6 z7=>?_)
        simp only [Bool.not_true,Bool.false_eq_true,if_false]
        exact qj ⟨rfl,segs',z1,z2,z3.trans d3,z4,z5.trans d5,z6⟩
      ·rw [if_neg hs]
       exact qj ⟨rfl,segs,d1,d2,d3,d4,d5,d6⟩
     case mpost1 =>
      rintro c sx ⟨rfl,segs,d1,d2,d3,d4,d5,d6⟩
      dsimp only
      refine qe (y8 (qe (y8 (qj ⟨lo+n,rfl,by omega,by omega,?_⟩))))
      have d7:ye f 0 segs ((pendingOf sx).modify ((pendingOf sx).size - 1) fun x=>(x.1,x.2.1,pw)).toList:=by
       rw [Array.toList_modify];exact ye.repow (g:=fun x=>(x.1,x.2.1,pw)) (fun p=>⟨rfl,rfl⟩) d6
      exact RI.push (st:=setPending sx ((pendingOf sx).modify ((pendingOf sx).size - 1) fun x=>(x.1,x.2.1,pw))) d1 d2 d3 d4 d5 d7 b7 b8 hn1
 case post =>
  rintro c st' ⟨rfl,g3⟩
  dsimp only
  refine qe (yQ (ya (I:=fun x c sx=>c=(none,())/\RI f kd a0 a0.size sx/\(pendingOf sx).size+x<=a0.size+1)
   (Q:=fun c sx=>c=(none,())/\RI f kd a0 a0.size sx/\(pendingOf sx).size<=1) ?lstep ?lfin ⟨rfl,g3,?linit⟩) ?lpost)
  case linit =>
   obtain ⟨segs,yP,e1,e2,e3⟩:=g3.segs
   have:=e3.flat_pos
   rw [Array.length_toList] at this
   omega
  case lfin =>
   rintro c sx ⟨rfl,h,h'⟩
   exact ⟨rfl,h,by omega⟩
  case lstep =>
   rintro x c sx _ _ ⟨rfl,h,h'⟩
   refine qe (wpS_get ?_)
   by_cases hs:(pendingOf sx).size<=1
   ·rw [if_pos hs]
    exact qj ⟨rfl,h,hs⟩
   ·rw [if_neg hs]
    obtain ⟨segs,yP,e1,e2,e3⟩:=h.segs
    have go:∀ i,i+1<(pendingOf sx).size->wpS (model prog w) A E s (mergeAt' i) (fun r st4=>r=true/\RI f kd a0 a0.size st4/\(pendingOf st4).size+1=(pendingOf sx).size) sx:=fun i hi =>
     Jj hA O h.kind (hAll _ h.perm) h.fail e1 e3 hi fun st4 segs' z1 z2 z3 z4 z5 z6 z7=>⟨rfl,⟨z1,z2,z3.trans h.perm,segs',yP,z4,z5.trans e2,z6⟩,z7⟩
    refine qe (yQ (go _ ?_) fun r st4 hr=>?_)
    ·have two:∀ (c:Prop) [Decidable c] (a b z:Nat),a+1<z->b+1<z->(if c then a else b)+1<z:=fun c _ a b z h1 h2=>by split <;> assumption
     exact two _ _ _ _ (by omega) (by omega)
    ·obtain ⟨rfl,h4,h5⟩:=hr
     simp only [Bool.not_true,Bool.false_eq_true,if_false]
     exact qj ⟨rfl,h4,by omega⟩
  case lpost =>
   rintro c sx ⟨rfl,h,h'⟩
   dsimp only
   obtain ⟨segs,yP,e1,e2,e3⟩:=h.segs
   refine qj (q sx h.perm h.fail ?_)
   have hl:=e3.len
   rw [Array.length_toList] at hl
   have hz:=h.size
   match segs,hl,e1,e2,e3 with
   | [],_,_,e2,_=>simp at e2;omega
   | [Z],_,e1,e2,e3 =>
    have e1l:=congrArg List.length e1
    rw [List.length_append,Array.length_toList,e2,hz] at e1l
    have:yP=[]:=List.eq_nil_of_length_eq_zero (by omega)
    rw [e1,this,List.append_nil]
    match (pendingOf sx).toList,e3 with
    | [p],e3=>simpa using e3.2.2.1
   | _::_::_,hl,_,_,_=>simp at hl;omega
end
end L2
namespace L2
open PySem PySem.Spec PyProof.Rows PySem.W
def qaD (vs:List Value) (p:Array Nat):List Value:=p.toList.map fun i=>vs.getD i Value.none
def ltK (kss:List (List Int)):Nat->Nat->Bool:=fun i j=>decide (kss.getD i []<kss.getD j [])
theorem je {h:Heap}:∀ {vs:List Value}{kss:List (List Int)},PySem.Paired (y3 h) vs kss->∀ i,i<vs.length->y3 h (vs.getD i Value.none) (kss.getD i [])
 | _,_,.nil,i,z=>by simp at z
 | _,_,.cons r t,0,_=>r
 | _,_,.cons r t,i+1,z=>je t i (by simpa using z)
theorem YQ {vs:List Value}{p:Array Nat}(hp:Arr vs.length p):(qaD vs p).length=vs.length:=by
 unfold qaD
 rw [List.length_map,Array.length_toList,hp.size]
section
variable {prog:Program}{w:World}{A:Around}{E:Value->Shared->Prop}{s:Shared}
theorem J4:∀ {vs:List Value}{a b:List Int},IntsAre vs a->IntsAre vs b->a=b
 | _,_,_,.nil,.nil=>rfl
 | _,_,_,.cons _ _ h,.cons _ _ g=>by rw [J4 h g]
open Classical in
noncomputable def kf (h:Heap) (v:Value):List Int:=epsilon fun ks=>y3 h v ks
theorem qgj {h:Heap}{v:Value}{ks:List Int}(t:y3 h v ks):kf h v=ks:=by
 have t2:=Classical.epsilon_spec (p:=fun ks=>y3 h v ks) ⟨ks,t⟩
 obtain ⟨a,o,xs,n,rfl,ho,_,hd,hi,_⟩:=t
 obtain ⟨a',o',xs',n',e,ho',_,hd',hi',_⟩:=t2
 cases e
 rw [ho] at ho'
 cases ho'
 rw [hd] at hd'
 cases hd'
 exact J4 hi' hi
noncomputable def kfF (h:Heap):Keyed->Keyed->Bool:=fun x y=>decide (kf h x.1<kf h y.1)
theorem qh4 (h:Heap):OrdK (kfF h) where
 asym a b h:=decide_eq_false (qap (qN h))
 neg a b c h1:=by
  have h1:=qN h1
  by_cases e:kf h a.1<kf h b.1
  ·exact .inl (qO e)
  ·exact .inr (qO (List.lt_of_le_of_lt (List.not_lt.mp e) h1))
theorem qel:Ask prog w A E s (tuples' true) (fun x=>∃ ks,y3 s.heap x.1 ks) (kfF s.heap):=by
 intro x y st Q ⟨k1,t1⟩ ⟨k2,t2⟩ hk q
 rw [lt'_eq]
 refine qe (wpS_get ?_)
 rw [hk]
 refine qe (wpS_lift (wpAny_attempt (lt_wp t1 t2 ⟨rfl,?_⟩)))
 unfold kfF at q
 rw [qgj t1,qgj t2] at q
 exact qj q
theorem qdC {α β:Type}(g:β->α) {xs ys:List α}(h:xs.Perm ys):∀ {l:List β},ys=l.map g->∃ l':List β,l'.Perm l/\xs=l'.map g:=by
 induction h with
 | nil =>
  intro l e
  exact ⟨l,List.Perm.refl _,e⟩
 | cons x p ih =>
  intro l e
  cases l with
  | nil=>cases e
  | cons b l =>
   rw [List.map_cons] at e
   obtain ⟨e1,e2⟩:=List.cons.inj e
   obtain ⟨l',p',e'⟩:=ih e2
   exact ⟨b::l',p'.cons b,by rw [List.map_cons,e',e1]⟩
 | swap x y l0 =>
  intro l e
  match l,e with
  | b::c::l,e =>
   simp only [List.map_cons,List.cons.injEq] at e
   obtain ⟨e1,e2,e3⟩:=e
   exact ⟨c::b::l,List.Perm.swap _ _ _,by simp [e1,e2,e3]⟩
 | trans p1 p2 ih1 ih2 =>
  intro l e
  obtain ⟨l',q1,e1⟩:=ih2 e
  obtain ⟨l'',q2,e2⟩:=ih1 e1
  exact ⟨l'',q2.trans q1,e2⟩
theorem qdD {h:Heap}{vs:List Value}{kss:List (List Int)}(hT:PySem.Paired (y3 h) vs kss) {xs:Array Keyed}(hp:xs.Perm (pairsOf vs)) (hs:SdK (kfF h) xs.toList):∃ p,Arr vs.length p/\qa2 (ltK kss) p vs.length/\xs=p.map (kas_item (pairsOf vs)):=by
 have y:=kas_range (pairsOf vs)
 rw [pairsOf_size] at y
 have hp:=yx.mp hp
 rw [<- y,Array.toList_map] at hp
 obtain ⟨l,p1,e⟩:=qdC _ hp rfl
 have p1:l.Perm (List.range vs.length):=by simpa using p1
 have hl:l.length=vs.length:=by rw [p1.length_eq,yq]
 refine ⟨l.toArray,yx.mpr (by simpa using p1),fun i j hij hj=>?_,Array.toList_inj.mp (by rw [e,Array.toList_map])⟩
 have gi:∀ i (hi:i<l.length),gD l.toArray i=l[i]:=fun i hi=>by simp [gD,Array.getD,hi]
 rw [gi i (by omega),gi j (by omega)]
 have lt:∀ i (hi:i<l.length),l[i]<vs.length:=fun i hi=>List.mem_range.mp (p1.mem_iff.mp (qE hi))
 have key:∀ i (hi:i<l.length),kf h ((kas_item (pairsOf vs) l[i]).1)=kss.getD l[i] []:=fun i hi=>by
  rw [kas_item_eq]
  exact qgj (je hT _ (lt i hi))
 by_cases c:i=j
 ·subst c
  exact (qb8 fun i=>kss.getD i []).irr _
 ·rw [e] at hs
  have:=qF.mp hs i j (by simp;omega) (by simp;omega) (by omega)
  simp only [List.getElem_map] at this
  unfold kfF at this
  rw [key i (by omega),key j (by omega)] at this
  exact this
theorem qbn {a:Addr}{vs:List Value}{kss:List (List Int)}{n:Nat}{P:PySem.Fin->Shared->Prop}(ho:s.heap.get? a=some (seqObj "list" vs.toArray n)) (hT:PySem.Paired (y3 s.heap) vs kss) (h64:vs.length<4915)
  (h:∀ p,Arr vs.length p->qa2 (ltK kss) p vs.length->P (.done (.ret .none)) { s with heap:=sortedHeap s.heap a vs (qaD vs p).toArray }) :
  wpAny (model prog w) A (Builtin.«list.sort» ⟨[.ref a],[]⟩) P E s:=by
 rw [list_sort_plain]
 have hlt:a<s.heap.objs.size:=qf ho
 have hn64:vs.length<=sizeLine:=by rw [sizeLine_eq];omega
 refine qb (listItems_at ho rfl (qb (listUpdate_at ho rfl ?_ (by rw [List.size_toArray];exact hn64) (yc _))))
 obtain ⟨ep,hc⟩:∃ ep,(s.heap.update a (Obj.mapSeq fun _=>(#[]:Array Value))).get? a=some (seqObj "list" #[] ep):=⟨_,get?_update_seq ho fun _=>#[]⟩
 refine qb (seqEpoch_at hc rfl (qb (wpAny_newTuple (qb (wpAny_newList (yj ?_) (yc _))) (by show vs.length<=_;exact hn64))))
 generalize hh:((s.heap.update a (Obj.mapSeq fun _=>(#[]:Array Value))).push (seqObj "tuple" vs.toArray 0)).push (seqObj "list" #[] 0)=h6
 have at6:h6.get? a=some (seqObj "list" #[] ep):=by
  rw [<- hh]
  exact qc _ (qc _ hc)
 have old6:∀ b o,s.heap.get? b=some o->b≠a->h6.get? b=some o:=fun b o e ne=>by
  rw [<- hh]
  refine qc _ (qc _ ?_)
  rw [Heap.get?_update_ne _ _ _ _ ne]
  exact e
 have hT6:PySem.Paired (y3 h6) vs kss:=Paired.mapP hT fun v ks t=>t.kept fun b o e hcl=>old6 b o e fun z=>by
  subst z
  rw [ho] at e
  cases e
  exact absurd (show Value.type "list" = Value.type "tuple" from hcl) (by decide)
 have fin6:∀ p,Arr vs.length p->qa2 (ltK kss) p vs.length->P (.done (.ret .none)) { s with heap:=h6.update a (Obj.mapSeq fun _=>(qaD vs p).toArray) }:=fun p hp hs=>by
  have:=h p hp hs
  unfold sortedHeap at this
  rw [hh] at this
  exact this
 show wpAny (model prog w) A _ P E { s with heap:=h6 }
 dsimp only
 have sz:vs.toArray.size=vs.length:=List.size_toArray ..
 have zipE:vs.toArray.zip vs.toArray=pairsOf vs:=rfl
 have snd:∀ p,((p.map (kas_item (pairsOf vs))).map (·.2))=(qaD vs p).toArray:=fun p=>by
  apply Array.toList_inj.mp
  simp only [Array.toList_map,List.map_map,qaD]
  exact List.map_congr_left fun i _=>by simp [kas_item_eq]
 by_cases c2:vs.toArray.size<2
 ·rw [if_pos c2,if_pos c2]
  refine qb (qd ?_)
  rw [StateT.run_pure]
  refine qb (qd ?_)
  dsimp only
  have e0:((vs.toArray.zip vs.toArray).map (·.2))=(qaD vs (List.range vs.length).toArray).toArray:=by
   have z:=snd (List.range vs.length).toArray
   have y:=kas_range (pairsOf vs)
   rw [pairsOf_size] at y
   rw [<- z,y,zipE]
  refine qb (seqEpoch_at at6 rfl (qb (listUpdate_at at6 rfl ?_ (yc _) ?_)))
  ·simp only [bne_self_eq_false,Bool.false_eq_true,if_false]
   refine qd ?_
   have f0:=fin6 (List.range vs.length).toArray (Array.Perm.refl _) fun i j hij hj=>by
    have:i=j:=by rw [sz] at c2;omega
    subst this
    exact (qb8 fun i=>kss.getD i []).irr _
   rw [<- e0] at f0
   exact f0
  ·show ((vs.toArray.zip vs.toArray).map (·.2)).size<=_
   rw [e0,List.size_toArray,YQ (Array.Perm.refl _)]
   omega
 ·rw [if_neg c2,if_neg c2]
  refine qb (qgi (s:={ s with heap:=h6 }) hT6 (by rw [sz] at c2;omega) ?_)
  have hD6:∀ x∈(pairsOf vs).toList,∃ ks,y3 h6 x.1 ks:=fun x hx=>by
   have y:=kas_range (pairsOf vs)
   rw [pairsOf_size] at y
   rw [<- y,Array.toList_map] at hx
   obtain ⟨i,hi,rfl⟩:=qI.mp hx
   rw [kas_item_eq]
   exact ⟨_,je hT6 i (by simpa using hi)⟩
  have run:=Zz (prog:=prog) (w:=w) (A:=A) (E:=E) (s:={ s with heap:=h6 }) (st:=SortSt.mk' (tuples' true) (pairsOf vs) #[] 7 none) (a0:=pairsOf vs)
   (Q:=fun _ st'=>∃ p,Arr vs.length p/\qa2 (ltK kss) p vs.length/\arrOf st'=p.map (kas_item (pairsOf vs))/\failedOf st'=none)
   (qel (s:={ s with heap:=h6 })) (qh4 h6) rfl rfl rfl rfl hD6 (by rw [pairsOf_size];rw [sz] at c2;omega) (fun st' hp hf hs=>by
    obtain ⟨p,p1,p2,p3⟩:=qdD hT6 hp hs
    exact ⟨p,p1,p2,p3,hf⟩)
  refine qb (yD (show wpAny (model prog w) A (sortRuns'.run _) _ E _ from run) ?_ fun _ _ e=>e)
  rintro ⟨⟨⟩,st'⟩ s' ⟨rfl,p,hp,hs,e1,e2⟩
  dsimp only
  refine qb (seqEpoch_at at6 rfl (qb (listUpdate_at at6 rfl ?_ (yc _) ?_)))
  ·rw [e2]
   simp only [bne_self_eq_false,Bool.false_eq_true,if_false]
   refine qd ?_
   rw [e1,snd p]
   exact fin6 p hp hs
  ·show ((arrOf st').map (·.2)).size<=_
   rw [e1,snd p,List.size_toArray,YQ hp]
   omega
end
end L2
namespace L2
open PySem PySem.Spec PyProof.Rows PySem.W
abbrev jw (h h':Heap):Prop:=∀ b o,h.get? b=some o->h'.get? b=some o
section
variable {prog:Program}{w:World}{A:Around}{E:Value->Shared->Prop}{s:Shared}
def qiZ (s:Shared) (R:List Value->List (List Int)->Prop) (vs:List Value) (s1:Shared):Prop :=
 ∃ h1 tk kss,s1={ s with heap:=h1,toks:=tk }/\jw s.heap h1/\PySem.Paired (y3 h1) vs kss/\vs.length<4915/\R vs kss
theorem qbm {x:Value}{R:List Value->List (List Int)->Prop}{Q:Value->Shared->Prop}(hcol:∀ E',wpAny (model prog w) A.in1 (collect x) (qiZ s R) E' s)
  (h:∀ vs kss p h' tk D e,R vs kss->Arr vs.length p->qa2 (ltK kss) p vs.length->PySem.Paired (y3 h') vs kss->vs.length<4915->jw s.heap h'->s.heap.get? D=none->h'.get? D=some (seqObj "list" (qaD vs p).toArray e)->Q (.ref D) { s with heap:=h',toks:=tk }) :
  wpAny (model prog w) A (call (.builtin "sorted") [x]) Q E s:=by
 refine Calls.call_function_entry kind_sorted plain_sorted entry_sorted (args_sorted1 _) ?_
 unfold Builtin.«sorted»
 refine qb (m:=checkCount "sorted" 1 1 _) (qd (qb ?_))
 refine yD (hcol _) (fun vs s1 ⟨h1,tk,kss,e1,kp,hT,h64,hR⟩=>?_) fun _ _ z=>z
 subst e1
 have hn64:vs.length<=sizeLine:=by rw [sizeLine_eq];omega
 refine qb (wpAny_newList ?_ hn64)
 have hD:(h1.push (seqObj "list" vs.toArray 0)).get? h1.objs.size=some (seqObj "list" vs.toArray 0):=qt _ rfl
 have hT2:PySem.Paired (y3 (h1.push (seqObj "list" vs.toArray 0))) vs kss:=Paired.mapP hT fun v ks t=>t.kept fun b o e _=>qc _ e
 refine qb (yj (wpAny_call_entry slot_list_sort ⟨_,hD,rfl⟩ entry_list_sort (qbn (s:={ s with heap:=h1.push (seqObj "list" vs.toArray 0),toks:=tk }) hD hT2 h64 fun p hp hs=>⟨_,rfl,?_⟩) (args_list_sort _)))
 obtain ⟨e,he⟩:=sortedHeap_at (vs:=vs) (out:=(qaD vs p).toArray) hD
 have kp2:jw h1 (sortedHeap (h1.push (seqObj "list" vs.toArray 0)) h1.objs.size vs (qaD vs p).toArray):=fun b o q1=>by
  have hlt:b<h1.objs.size:=qf q1
  rw [sortedHeap_old (qq hlt) (by rw [size_push'];exact Nat.lt_succ_of_lt hlt)]
  exact qc _ q1
 refine qd ⟨_,rfl,h vs kss p _ tk h1.objs.size e hR hp hs (Paired.mapP hT fun v ks t=>t.kept fun b o e _=>kp2 b o e) h64 (fun b o q=>kp2 b o (kp b o q)) ?_ he⟩
 ·cases z:s.heap.get? h1.objs.size with
  | none=>rfl
  | some o =>
   have:=qf (kp _ _ z)
   exact absurd this (yJ _)
end
end L2
namespace L2
open PySem PySem.SetTable
def adv (m:Nat) (p:Probe):Probe :=
 if p.more > 0 then { p with j:=p.j+1,more:=p.more - 1 } else
 { p with j:=(leap m p.i p.perturb).1,more:=runEnd m (leap m p.i p.perturb).1 - (leap m p.i p.perturb).1,i:=(leap m p.i p.perturb).1,perturb:=(leap m p.i p.perturb).2 }
theorem qa1 (t:SetTable) (p:Probe):t.advance p=adv t.mask p:=rfl
def at0 (m i e:Nat):Probe:={ j:=i,more:=runEnd m i - i,i:=i,perturb:=e,dummy:=none }
def stp (m:Nat) (h:Int):Nat->Probe
 | 0=>at0 m (bits h % (m+1)) (bits h)
 | k+1=>adv m (stp m h k)
theorem qdi (t:SetTable) (h:Int):t.probeStart h=stp t.mask h 0:=rfl
theorem YX (m:Nat) (h:Int):∀ k,(stp m h k).dummy=none
 | 0=>rfl
 | k+1=>by
  have:=YX m h k
  simp only [stp,adv]
  split <;> simpa using this
def lp (m:Nat) (h:Int):Nat->Nat×Nat
 | 0=>(bits h % (m+1),bits h)
 | L+1=>leap m (lp m h L).1 (lp m h L).2
theorem qbB {m:Nat}{h:Int}{k i e:Nat}(h0:stp m h k=at0 m i e):∀ r,r<=runEnd m i - i->stp m h (k+r)={ j:=i+r,more:=runEnd m i - i - r,i:=i,perturb:=e,dummy:=none }
 | 0,_=>h0
 | r+1,hr=>by
  have ih:=qbB h0 r (by omega)
  show adv m (stp m h (k+r))=_
  rw [ih]
  unfold adv
  rw [if_pos (show runEnd m i - i - r > 0 by omega)]
  simp only [Probe.mk.injEq,true_and,and_true]
  omega
theorem qeK {m:Nat}{h:Int}{k i e:Nat}(h0:stp m h k=at0 m i e):stp m h (k+(runEnd m i - i)+1)=at0 m (leap m i e).1 (leap m i e).2:=by
 have ih:=qbB h0 (runEnd m i - i) (qk _)
 show adv m (stp m h (k+(runEnd m i - i)))=_
 rw [ih]
 unfold adv
 rw [if_neg (show ¬ runEnd m i - i - (runEnd m i - i) > 0 by omega)]
 rfl
theorem qfH (m i:Nat):runEnd m i - i<=9:=by unfold runEnd;split <;> omega
theorem qeL (m:Nat) (h:Int):∀ L,∃ k,k<=10 * L/\stp m h k=at0 m (lp m h L).1 (lp m h L).2
 | 0=>⟨0,qk _,rfl⟩
 | L+1=>by
  obtain ⟨k,hk,e⟩:=qeL m h L
  have:=qfH m (lp m h L).1
  exact ⟨_,by omega,qeK e⟩
def lcg (M i:Nat):Nat:=(i * 5+1) % M
def itn (M:Nat):Nat->Nat->Nat
 | 0,i=>i
 | n+1,i=>lcg M (itn M n i)
theorem YB (M:Nat) (i:Nat):∀ a b,itn M (b+a) i=itn M b (itn M a i)
 | a,0=>by rw [Nat.zero_add];rfl
 | a,b+1=>by
  rw [show b+1+a=(b+a)+1 by omega]
  show lcg M (itn M (b+a) i)=lcg M (itn M b (itn M a i))
  rw [YB M i a b]
structure Full (m:Nat):Prop where
 all:∀ q,q<=m->∃ b,b<=m/\itn (m+1) b 0=q
 back:itn (m+1) (m+1) 0=0
theorem Full.go {m:Nat}(F:Full m) {i q:Nat}(hi:i<=m) (hq:q<=m):∃ b,b<=m/\itn (m+1) b i=q:=by
 obtain ⟨x,hx,rfl⟩:=F.all i hi
 obtain ⟨y,hy,rfl⟩:=F.all q hq
 by_cases c:x<=y
 ·exact ⟨y - x,by omega,by rw [<- YB,show y - x+x=y by omega]⟩
 ·refine ⟨y+(m+1) - x,by omega,?_⟩
  rw [<- YB,show y+(m+1) - x+x=y+(m+1) by omega,YB,F.back]
theorem qca (m:Nat) (h:Int):∀ L,(lp m h L).2=bits h / 32 ^ L
 | 0=>by simp [lp]
 | L+1=>by
  show (lp m h L).2 / 32=_
  rw [qca m h L,Nat.div_div_eq_div_mul,Nat.pow_succ]
theorem qgI (h:Int):bits h<18446744073709551616:=by
 unfold bits
 have:=Int.emod_lt_of_pos h (show (0:Int)<2 ^ 64 by decide)
 have:=Int.emod_nonneg h (show (2 ^ 64:Int)≠0 by decide)
 omega
theorem lp_le (m:Nat) (h:Int):∀ L,(lp m h L).1<=m
 | 0=>by
  have:=yN (bits h) (show 0<m+1 by omega)
  show bits h % (m+1)<=m
  omega
 | L+1=>by
  show ((lp m h L).1 * 5+1+(lp m h L).2 / 32) % (m+1)<=m
  have:=yN ((lp m h L).1 * 5+1+(lp m h L).2 / 32) (show 0<m+1 by omega)
  omega
theorem qcb (m:Nat) (h:Int):∀ b,(lp m h (12+b)).1=itn (m+1) b (lp m h 12).1
 | 0=>rfl
 | b+1=>by
  have ih:=qcb m h b
  show ((lp m h (12+b)).1 * 5+1+(lp m h (12+b)).2 / 32) % (m+1)=lcg (m+1) (itn (m+1) b (lp m h 12).1)
  rw [<- ih]
  have hb:=qgI h
  have z:(lp m h (12+b)).2 / 32=0:=by
   rw [qca,Nat.div_div_eq_div_mul]
   apply Nat.div_eq_of_lt
   have:(32:Nat) ^ (12+b)=32 ^ 12 * 32 ^ b:=Nat.pow_add ..
   rw [this]
   have p1:1<=32 ^ b:=Nat.one_le_pow _ _ (by decide)
   have:(32:Nat) ^ 12 * 1<=32 ^ 12 * 32 ^ b:=Nat.mul_le_mul_left _ p1
   have e12:(32:Nat) ^ 12=1152921504606846976:=by decide
   omega
  rw [z]
  rfl
theorem Full.lp {m:Nat}(F:Full m) (h:Int) {q:Nat}(hq:q<=m):∃ L,L<=m+12/\(lp m h L).1=q:=by
 obtain ⟨b,hb,e⟩:=F.go (lp_le m h 12) hq
 exact ⟨12+b,by omega,by rw [qcb,e]⟩
theorem Full.walk {m:Nat}(F:Full m) (h:Int) {q:Nat}(hq:q<=m):∃ k,k<=10 * (m+12)/\(stp m h k).j=q:=by
 obtain ⟨L,hL,e⟩:=F.lp h hq
 obtain ⟨k,hk,e2⟩:=qeL m h L
 exact ⟨k,by omega,by rw [e2];exact e⟩
theorem qev (m:Nat) (h:Int) (k:Nat):(stp m h k).j<=m:=by
 have key:∀ k,(stp m h k).i<=m/\(stp m h k).j+(stp m h k).more<=m:=by
  intro k
  induction k with
  | zero =>
   have:=yN (bits h) (show 0<m+1 by omega)
   refine ⟨by show bits h % (m+1)<=m;omega,?_⟩
   show bits h % (m+1)+(runEnd m (bits h % (m+1)) - bits h % (m+1))<=m
   unfold runEnd
   split <;> omega
  | succ k ih =>
   obtain ⟨h1,h2⟩:=ih
   show (adv m (stp m h k)).i<=m/\(adv m (stp m h k)).j+(adv m (stp m h k)).more<=m
   unfold adv
   split
   ·exact ⟨h1,by simp only;omega⟩
   ·have:=yN ((stp m h k).i * 5+1+(stp m h k).perturb / 32) (show 0<m+1 by omega)
    have e:(leap m (stp m h k).i (stp m h k).perturb).1=((stp m h k).i * 5+1+(stp m h k).perturb / 32) % (m+1):=rfl
    simp only [e]
    refine ⟨by omega,?_⟩
    unfold runEnd
    split <;> omega
 have:=(key k).2
 omega
def chk (m:Nat):Bool:=(List.range (m+1)).all (fun q=>(List.range (m+1)).any fun b=>itn (m+1) b 0 == q) && itn (m+1) (m+1) 0 == 0
theorem qct {m:Nat}(h:chk m=true):Full m:=by
 unfold chk at h
 rw [Bool.and_eq_true] at h
 obtain ⟨h1,h2⟩:=h
 refine ⟨fun q hq=>?_,by simpa using h2⟩
 have:=List.all_eq_true.mp h1 q (List.mem_range.mpr (by omega))
 obtain ⟨b,hb,e⟩:=List.any_eq_true.mp this
 exact ⟨b,by have:=List.mem_range.mp hb;omega,by simpa using e⟩
theorem full7:Full 7:=qct (by decide +kernel)
theorem qig:Full 31:=qct (by decide +kernel)
end L2
namespace L2
open PySem PySem.SetTable
def S5:Nat->Nat
 | 0=>0
 | n+1=>5 * S5 n+1
theorem qfj (a b:Nat):S5 (a+b)=5 ^ b * S5 a+S5 b:=by
 induction b with
 | zero=>simp [S5]
 | succ b ih =>
  rw [<- Nat.add_assoc]
  show 5 * S5 (a+b)+1=5 ^ (b+1) * S5 a+(5 * S5 b+1)
  rw [ih,Nat.pow_succ]
  grind
theorem p5 (e:Nat):∃ q,5 ^ e+1=2 * (2 * q+1):=by
 induction e with
 | zero=>exact ⟨0,rfl⟩
 | succ e ih =>
  obtain ⟨q,hq⟩:=ih
  refine ⟨5 * q+1,?_⟩
  rw [Nat.pow_succ]
  omega
theorem qc3 (e:Nat):S5 (2 * e)=(5 ^ e+1) * S5 e:=by
 rw [show 2 * e=e+e by omega,qfj]
 grind
theorem qiW (e:Nat):S5 (2 * e+1) % 2=1:=by
 show (5 * S5 (2 * e)+1) % 2=1
 obtain ⟨q,hq⟩:=p5 e
 rw [qc3,hq,Nat.mul_assoc]
 omega
theorem qfi:∀ (k d:Nat),2 ^ k ∣ S5 d->2 ^ k ∣ d
 | 0,d,_=>by simp
 | k+1,d,h=>by
  have hev:d % 2=0:=by
   apply Nat.eq_zero_of_not_pos
   intro z
   have hd:d=2 * (d / 2)+1:=by omega
   have h2:2 ∣ S5 d:=Nat.dvd_trans ⟨2 ^ k,by rw [Nat.pow_succ];omega⟩ h
   rw [hd] at h2
   have:=qiW (d / 2)
   omega
  obtain ⟨e,rfl⟩:∃ e,d=2 * e:=⟨d / 2,by omega⟩
  obtain ⟨q,hq⟩:=p5 e
  rw [qc3,hq,Nat.pow_succ,Nat.mul_comm (2 ^ k),Nat.mul_assoc] at h
  have h3:=Nat.dvd_of_mul_dvd_mul_left (by decide) h
  have co:Nat.Coprime (2 ^ k) (2 * q+1):=Nat.Coprime.pow_left _ (by
   unfold Nat.Coprime
   rw [Nat.gcd_rec]
   simp [Nat.add_mod])
  have h4:=qfi k e (co.dvd_of_dvd_mul_left h3)
  rw [Nat.pow_succ,Nat.mul_comm]
  exact Nat.mul_dvd_mul_left 2 h4
theorem qfh:∀ k,2 ^ k ∣ S5 (2 ^ k)
 | 0=>by simp
 | k+1=>by
  obtain ⟨q,hq⟩:=p5 (2 ^ k)
  rw [Nat.pow_succ,Nat.mul_comm (2 ^ k) 2,qc3,hq,Nat.mul_assoc]
  exact Nat.mul_dvd_mul_left 2 (Nat.dvd_trans (qfh k) (Nat.dvd_mul_left _ _))
theorem qeY (M:Nat):∀ b,itn M b 0 % M=S5 b % M
 | 0=>rfl
 | b+1=>by
  show (itn M b 0 * 5+1) % M % M=(5 * S5 b+1) % M
  rw [Nat.mod_mod,Nat.add_mod,Nat.mul_mod,qeY M b,<- Nat.mul_mod,<- Nat.add_mod,Nat.mul_comm]
theorem qeX {M:Nat}(hM:0<M):∀ b,itn M b 0<M
 | 0=>hM
 | b+1=>yN _ hM
theorem qiX {k a b:Nat}(hab:a<=b) (hb:b<2 ^ k) (h:S5 a % 2 ^ k=S5 b % 2 ^ k):a=b:=by
 obtain ⟨d,rfl⟩:∃ d,b=d+a:=⟨b - a,by omega⟩
 rw [qfj] at h
 have h1:2 ^ k ∣ 5 ^ a * S5 d:=by
  have:=Nat.sub_mod_eq_zero_of_mod_eq h.symm
  rw [Nat.add_sub_cancel] at this
  exact Nat.dvd_of_mod_eq_zero this
 have co:Nat.Coprime (2 ^ k) (5 ^ a):=Nat.Coprime.pow _ _ (by decide)
 have h2:=qfi k d (co.dvd_of_dvd_mul_left h1)
 have:d=0:=Nat.eq_zero_of_dvd_of_lt h2 (by omega)
 omega
theorem qb4:∀ {n:Nat}{l:List Nat},l.Nodup->(∀ x∈l,x<n)->l.length=n->∀ q,q<n->q∈l:=fun {n l} h1 h2 h3 q hq=>by
 have hp:l.Perm (List.range n):=by
  have sub:∀ (l r:List Nat),l.Nodup->(∀ x∈l,x∈r)->∃ r',(l++r').Perm r:=by
   intro l
   induction l with
   | nil=>exact fun r _ _=>⟨r,List.Perm.refl _⟩
   | cons a l ih =>
    intro r hn hs
    have ha:=hs a qm
    obtain ⟨r',hr'⟩:=ih (r.erase a) (List.nodup_cons.mp hn).2 (fun x hx=>by
     have:x≠a:=fun z=>(List.nodup_cons.mp hn).1 (z ▸ hx)
     exact (List.mem_erase_of_ne this).mpr (hs x (qi _ hx)))
    exact ⟨r',(hr'.cons a).trans (List.perm_cons_erase ha).symm⟩
  obtain ⟨r',hr'⟩:=sub l (List.range n) h1 fun x hx=>List.mem_range.mpr (h2 x hx)
  have:=hr'.length_eq
  rw [List.length_append,yq] at this
  have:r'=[]:=List.eq_nil_of_length_eq_zero (by omega)
  rw [this,List.append_nil] at hr'
  exact hr'
 exact hp.mem_iff.mpr (List.mem_range.mpr hq)
theorem JO (k m:Nat) (hm:m+1=2 ^ k):Full m:=by
 have hM:0<2 ^ k:=by omega
 have red:∀ b,itn (2 ^ k) b 0=S5 b % 2 ^ k:=fun b=>by
  have:=qeY (2 ^ k) b
  rwa [qJ (qeX hM b)] at this
 refine ⟨fun q hq=>?_,?_⟩
 ·have hnd:((List.range (2 ^ k)).map fun b=>itn (2 ^ k) b 0).Nodup:=by
   refine List.pairwise_map.mpr (qF.mpr fun i j hi hj hij z=>?_)
   rw [yq] at hi hj
   rw [List.getElem_range,List.getElem_range,red,red] at z
   have:=qiX (yp hij) hj z
   omega
  have:=qb4 hnd (fun x hx=>by
   obtain ⟨b,_,rfl⟩:=qI.mp hx
   exact qeX hM b) (by simp) q (by omega)
  obtain ⟨b,hb,e⟩:=qI.mp this
  have:=List.mem_range.mp hb
  exact ⟨b,by omega,by rw [hm];exact e⟩
 ·rw [hm,red]
  exact Nat.mod_eq_zero_of_dvd (qfh k)
theorem qgr:Full 127:=JO 7 127 (by decide)
theorem qgq:Full 511:=JO 9 511 (by decide)
theorem qdX:Full 2047:=JO 11 2047 (by decide)
theorem qdW:Full 8191:=JO 13 8191 (by decide)
def qfk (xs:Array Nat):Prop:=∀ i j,i<j->j<xs.size->xs.getD i 0<xs.getD j 0
theorem getD_some {xs:Array Nat}{i d:Nat}(h:i<xs.size):xs[i]?=some (xs.getD i d):=by
 simp [Array.getD,h]
theorem YL {xs:Array Nat}{j:Nat}(hr:qfk xs):∀ (fu lo hi:Nat),lo<=hi->hi<=xs.size->hi - lo<=fu->(∀ i,i<lo->xs.getD i 0<j)->(∀ i,hi<=i->i<xs.size->j<=xs.getD i 0) →
  (∀ i,i<below.go xs j fu lo hi->xs.getD i 0<j)/\(∀ i,below.go xs j fu lo hi<=i->i<xs.size->j<=xs.getD i 0)/\below.go xs j fu lo hi<=xs.size
 | 0,lo,hi,h1,h2,h3,h4,h5=>by
  have:lo=hi:=by omega
  subst this
  exact ⟨h4,h5,h2⟩
 | fu+1,lo,hi,h1,h2,h3,h4,h5=>by
  unfold below.go
  by_cases c:lo<hi
  ·rw [if_pos c]
   dsimp only
   have hm:(lo+hi) / 2<xs.size:=by omega
   have e:xs.getD ((lo+hi) / 2) j=xs.getD ((lo+hi) / 2) 0:=by simp [Array.getD,hm]
   rw [e]
   by_cases d:xs.getD ((lo+hi) / 2) 0<j
   ·rw [if_pos d]
    refine YL hr fu _ hi (by omega) h2 (by omega) (fun i hi'=>?_) h5
    by_cases q:i=(lo+hi) / 2
    ·subst q;exact d
    ·exact Nat.lt_trans (hr i ((lo+hi) / 2) (by omega) hm) d
   ·rw [if_neg d]
    refine YL hr fu lo _ (by omega) (by omega) (by omega) h4 fun i hi' hlt=>?_
    by_cases q:i=(lo+hi) / 2
    ·subst q;omega
    ·have:=hr ((lo+hi) / 2) i (by omega) hlt
     omega
  ·rw [if_neg c]
   have:lo=hi:=by omega
   subst this
   exact ⟨h4,h5,h2⟩
theorem jG {xs:Array Nat}(hr:qfk xs) (j:Nat):(∀ i,i<below xs j->xs.getD i 0<j)/\(∀ i,below xs j<=i->i<xs.size->j<=xs.getD i 0)/\below xs j<=xs.size :=
 YL hr xs.size 0 xs.size (yc _) (qk _) (by omega) (fun i z=>absurd z (by omega)) fun i a b=>absurd b (by omega)
theorem YM {xs:Array Nat}(hr:qfk xs) {i j:Nat}(h:xs[i]?=some j):below xs j=i:=by
 obtain ⟨h1,h2,h3⟩:=jG hr j
 have hi:i<xs.size:=by
  rcases Nat.lt_or_ge i xs.size with z | z
  ·exact z
  ·rw [qX z] at h;cases h
 have e:xs.getD i 0=j:=by
  have:=getD_some (d:=0) hi
  rw [h] at this
  exact (Option.some.inj this).symm
 rcases Nat.lt_trichotomy (below xs j) i with z | z | z
 ·have a:=h2 (below xs j) (qk _) (by omega)
  have b:=hr (below xs j) i z hi
  omega
 ·exact z
 ·have:=h1 i z
  omega
theorem qds {xs:Array Nat}(hr:qfk xs) {i i' j:Nat}(h:xs[i]?=some j) (h':xs[i']?=some j):i=i':=(YM hr h).symm.trans (YM hr h')
structure Tab (t:SetTable) (m n:Nat):Prop where
 mask:t.mask=m
 dm:t.dummies=#[]
 size:t.place.size=n
 rise:qfk t.place
 le:∀ i j:Nat,t.place[i]?=some j->j<=m
def Fl (t:SetTable) (j:Nat):Prop:=∃ i:Nat,t.place[i]?=some j
theorem qcn (j:Nat):has #[] j=false:=by simp [has]
section
variable {t:SetTable}{m n:Nat}
theorem Tab.live (T:Tab t m n) {i j:Nat}(h:t.place[i]?=some j):t.slot j = .live i:=by
 unfold slot
 have e:=YM T.rise h
 simp only [e,h,beq_self_eq_true,if_true]
theorem Tab.empty (T:Tab t m n) {j:Nat}(h:¬ Fl t j):t.slot j = .empty:=by
 unfold slot
 have e:(t.place[below t.place j]? == some j)=false:=by
  rw [Bool.eq_false_iff]
  intro z
  exact h ⟨_,by simpa using z⟩
 simp only [e,T.dm,qcn,Bool.false_eq_true,if_false]
theorem Tab.free (T:Tab t m n) (hn:n<=m):∃ q,q<=m/\¬ Fl t q:=by
 refine Classical.byContradiction fun hc=>?_
 have all:∀ q,q<=m->Fl t q:=fun q hq=>Classical.byContradiction fun z=>hc ⟨q,hq,z⟩
 have sub:List.range (m+1) ⊆ t.place.toList:=fun q hq=>by
  obtain ⟨i,e⟩:=all q (by have:=List.mem_range.mp hq;omega)
  exact List.mem_of_getElem? (by rw [qh];exact e)
 have:=List.Nodup.length_le_of_subset List.nodup_range sub
 rw [yq,Array.length_toList,T.size] at this
 omega
theorem Tab.probe_go (T:Tab t m n) {hashAt:Nat->Int}{h:Int}{K:Nat}(hK:¬ Fl t (stp m h K).j):∀ (fu k:Nat),k<=K->K - k<fu →
  ∃ x,k<=x/\x<=K/\(∀ l,k<=l->l<x->∃ i:Nat,t.place[i]?=some (stp m h l).j/\hashAt i≠h) ∧
   ((¬ Fl t (stp m h x).j/\probe.go t hashAt h fu (stp m h k)=some (.empty (stp m h x).j none)) ∨
    ∃ i:Nat,t.place[i]?=some (stp m h x).j/\hashAt i=h/\probe.go t hashAt h fu (stp m h k)=some (.candidate (stp m h x).j i (stp m h (x+1))))
 | 0,k,_,z=>absurd z (by omega)
 | fu+1,k,hk,hf=>by
  unfold probe.go
  by_cases c:Fl t (stp m h k).j
  ·obtain ⟨i,e⟩:=id c
   rw [T.live e]
   dsimp only
   have adv1:t.advance (stp m h k)=stp m h (k+1):=by rw [qa1,T.mask];rfl
   by_cases d:hashAt i=h
   ·refine ⟨k,qk _,hk,fun l a b=>absurd b (by omega),.inr ⟨i,e,d,?_⟩⟩
    rw [if_pos (by rw [d];exact beq_self_eq_true _),adv1]
   ·rw [if_neg (by simpa using d),adv1]
    have hne:k≠K:=fun z=>hK (z ▸ c)
    obtain ⟨x,x1,x2,x3,x4⟩:=T.probe_go hK fu (k+1) (by omega) (by omega)
    refine ⟨x,by omega,x2,fun l a b=>?_,x4⟩
    by_cases q:l=k
    ·subst q;exact ⟨i,e,d⟩
    ·exact x3 l (by omega) b
  ·rw [T.empty c]
   dsimp only
   exact ⟨k,qk _,hk,fun l a b=>absurd b (by omega),.inl ⟨c,by rw [YX]⟩⟩
end
theorem yK {α:Type}{xs:Array α}{p:Nat}{x:α}(hp:p<=xs.size) (i:Nat):(insertAt xs p x)[i]?=if i<p then xs[i]? else if i=p then some x else xs[i - 1]?:=by
 unfold insertAt
 have s1:((xs.extract 0 p).push x).size=p+1:=by simp [Array.size_push,Array.size_extract];omega
 have s0:(xs.extract 0 p).size=p:=by simp [Array.size_extract];omega
 rw [Array.getElem?_append,s1]
 by_cases c:i<p
 ·rw [if_pos (by omega),if_pos c,Array.getElem?_push,s0,if_neg (by omega),Array.getElem?_extract,if_pos (by omega),Nat.zero_add]
 ·rw [if_neg c]
  by_cases d:i=p
  ·subst d
   rw [if_pos (by omega),if_pos rfl,Array.getElem?_push,s0,if_pos rfl]
  ·rw [if_neg d,if_neg (by omega),Array.getElem?_extract]
   by_cases e:i - 1<xs.size
   ·rw [if_pos (by omega)]
    congr 1
    omega
   ·rw [if_neg (by omega),qX (by omega)]
theorem JN {α:Type}{xs:Array α}{p:Nat}{x:α}(hp:p<=xs.size):(insertAt xs p x).size=xs.size+1:=by
 unfold insertAt
 simp [Array.size_extract]
 omega
def AtS {α:Type}(place:Array Nat) (es:Array α) (j:Nat) (e:α):Prop:=∃ i:Nat,place[i]?=some j/\es[i]?=some e
theorem qic {α:Type}{place:Array Nat}{es:Array α}{p j j':Nat}{e e':α}(hp:p<=place.size) (hq:p<=es.size):AtS (insertAt place p j) (insertAt es p e) j' e' ↔ AtS place es j' e'\/(j'=j/\e'=e):=by
 constructor
 ·rintro ⟨i,h1,h2⟩
  rw [yK hp] at h1
  rw [yK hq] at h2
  by_cases c:i<p
  ·rw [if_pos c] at h1 h2
   exact .inl ⟨i,h1,h2⟩
  ·rw [if_neg c] at h1 h2
   by_cases d:i=p
   ·rw [if_pos d] at h1 h2
    exact .inr ⟨(Option.some.inj h1).symm,(Option.some.inj h2).symm⟩
   ·rw [if_neg d] at h1 h2
    exact .inl ⟨i - 1,h1,h2⟩
 ·rintro (⟨i,h1,h2⟩ | ⟨rfl,rfl⟩)
  ·by_cases c:i<p
   ·exact ⟨i,by rw [yK hp,if_pos c];exact h1,by rw [yK hq,if_pos c];exact h2⟩
   ·exact ⟨i+1,by rw [yK hp,if_neg (by omega),if_neg (by omega)];exact h1,by rw [yK hq,if_neg (by omega),if_neg (by omega)];exact h2⟩
  ·exact ⟨p,by rw [yK hp,if_neg (by omega),if_pos rfl],by rw [yK hq,if_neg (by omega),if_pos rfl]⟩
theorem qdr {xs:Array Nat}(hr:qfk xs) {j:Nat}(hj:¬ ∃ i:Nat,xs[i]?=some j):qfk (insertAt xs (below xs j) j):=by
 obtain ⟨h1,h2,h3⟩:=jG hr j
 have val:∀ i,i<xs.size+1->(insertAt xs (below xs j) j).getD i 0=if i<below xs j then xs.getD i 0 else if i=below xs j then j else xs.getD (i - 1) 0:=fun i hi=>by
  have e:=yK (x:=j) h3 i
  simp only [Array.getD_eq_getD_getElem?,e]
  split
  ·rfl
  ·split <;> rfl
 have gt:∀ i,below xs j<=i->i<xs.size->j<xs.getD i 0:=fun i a b=>by
  have:=h2 i a b
  have ne:xs.getD i 0≠j:=fun z=>hj ⟨i,by rw [getD_some (d:=0) b,z]⟩
  omega
 intro a b hab hb
 rw [JN h3] at hb
 rw [val a (by omega),val b hb]
 by_cases b1:b<below xs j
 ·rw [if_pos b1,if_pos (by omega)]
  exact hr a b hab (by omega)
 ·rw [if_neg b1]
  by_cases b2:b=below xs j
  ·rw [if_pos b2,if_pos (by omega)]
   exact h1 a (by omega)
  ·rw [if_neg b2]
   by_cases a1:a<below xs j
   ·rw [if_pos a1]
    exact hr a (b - 1) (by omega) (by omega)
   ·rw [if_neg a1]
    by_cases a2:a=below xs j
    ·rw [if_pos a2]
     exact gt (b - 1) (by omega) (by omega)
    ·rw [if_neg a2]
     exact hr (a - 1) (b - 1) (by omega) (by omega)
theorem Tab.put {t:SetTable}{m n:Nat}(T:Tab t m n) {j:Nat}(hj:¬ Fl t j) (hm:j<=m):Tab (t.put j).1 m (n+1)/\(t.put j).2=below t.place j/\(t.put j).1.place=insertAt t.place (below t.place j) j:=by
 obtain ⟨h1,h2,h3⟩:=jG T.rise j
 refine ⟨⟨T.mask,?_,?_,qdr T.rise hj,fun i j' e=>?_⟩,rfl,rfl⟩
 ·show (if has t.dummies j=true then _ else t.dummies)=#[]
  rw [T.dm,qcn,if_neg (by simp)]
 ·show (insertAt t.place (below t.place j) j).size=n+1
  rw [JN h3,T.size]
 ·have e:(insertAt t.place (below t.place j) j)[i]?=some j':=e
  rw [yK h3] at e
  split at e
  ·exact T.le _ _ e
  ·split at e
   ·rw [<- Option.some.inj e];exact hm
   ·exact T.le _ _ e
end L2
namespace L2
open PySem PySem.SetTable
def Rch (fl:Nat->Prop) (m:Nat) (h:Int) (j:Nat):Prop:=∃ k,(stp m h k).j=j/\∀ l,l<k->fl (stp m h l).j
theorem Rch.mono {fl fl':Nat->Prop}{m:Nat}{h:Int}{j:Nat}(f:∀ q,fl q->fl' q) (r:Rch fl m h j):Rch fl' m h j:=by
 obtain ⟨k,e,a⟩:=r
 exact ⟨k,e,fun l hl=>f _ (a l hl)⟩
structure SetI {α:Type}(t:SetTable) (es:Array (Int×α)) (m n:Nat):Prop where
 tab:Tab t m n
 sz:es.size=n
 rch:∀ (j:Nat) (e:Int×α),AtS t.place es j e->Rch (Fl t) m e.1 j
def fO (owner:Array (Option Nat)) (j:Nat):Prop:=(owner.getD j (some 0)).isSome=true
theorem qcu {m:Nat}{owner:Array (Option Nat)}{h:Int}:∀ (fu L k0:Nat),stp m h k0=at0 m (lp m h L).1 (lp m h L).2->(∀ l,l<k0->fO owner (stp m h l).j)->(∃ L',L<=L'/\L'<L+fu/\¬ fO owner (lp m h L').1) →
  ∃ j,layClean.free m owner fu (lp m h L).1 (lp m h L).2=some j/\¬ fO owner j/\Rch (fO owner) m h j
 | 0,L,k0,_,_,⟨L',a,b,_⟩=>absurd b (by omega)
 | fu+1,L,k0,hk,hf,⟨L',a,b,c⟩=>by
  unfold layClean.free
  have ri:=qbB hk
  cases hfind:(List.range (runEnd m (lp m h L).1+1 - (lp m h L).1)).find? fun k=>(owner.getD ((lp m h L).1+k) (some 0)).isNone with
  | some kk =>
   obtain ⟨p1,p2,p3⟩:=List.find?_range_eq_some.mp hfind
   have hkk:=List.mem_range.mp p2
   refine ⟨(lp m h L).1+kk,rfl,fun z=>?_,k0+kk,by rw [ri kk (by omega)],fun l hl=>?_⟩
   ·unfold fO at z
    rw [Option.isNone_iff_eq_none.mp p1] at z
    cases z
   ·by_cases d:l<k0
    ·exact hf l d
    ·obtain ⟨r,rfl⟩:∃ r,l=k0+r:=⟨l - k0,by omega⟩
     rw [ri r (by omega)]
     have:=p3 r (by omega)
     unfold fO
     rw [Bool.not_eq_true',Option.isNone_eq_false_iff] at this
     exact this
  | none =>
   have pn:=List.find?_eq_none.mp hfind
   have fil:∀ r,r<=runEnd m (lp m h L).1 - (lp m h L).1->fO owner ((lp m h L).1+r):=fun r hr=>by
    have hge:(lp m h L).1<=runEnd m (lp m h L).1:=by unfold runEnd;split <;> omega
    have:=pn r (List.mem_range.mpr (by omega))
    unfold fO
    rw [Bool.not_eq_true,Option.isNone_eq_false_iff] at this
    exact this
   have hne:L'≠L:=by
    rintro rfl
    exact c (by simpa using fil 0 (yc _))
   refine qcu fu (L+1) (k0+(runEnd m (lp m h L).1 - (lp m h L).1)+1) (qeK hk) (fun l hl=>?_) ⟨L',by omega,by omega,c⟩
   by_cases d:l<k0
   ·exact hf l d
   ·obtain ⟨r,rfl⟩:∃ r,l=k0+r:=⟨l - k0,by omega⟩
    rw [ri r (by omega)]
    exact fil r (by omega)
structure OW (m:Nat) (hs:Nat->Int) (owner:Array (Option Nat)) (k:Nat):Prop where
 sz:owner.size=m+1
 own:∀ j i:Nat,owner[j]?=some (some i)->i<k/\Rch (fO owner) m (hs i) j
 ex:∀ i,i<k->∃ j:Nat,owner[j]?=some (some i)
 inj:∀ j j' i:Nat,owner[j]?=some (some i)->owner[j']?=some (some i)->j=j'
def qgS (m:Nat) (owner:Array (Option Nat)):List Nat:=(List.range (m+1)).filterMap fun j=>owner.getD j none
theorem Jr {owner:Array (Option Nat)}{j i:Nat}:owner.getD j none=some i ↔ owner[j]?=some (some i):=by
 rw [Array.getD_eq_getD_getElem?]
 cases owner[j]? with
 | none=>simp
 | some o=>simp
theorem OW.nodup {m k:Nat}{hs:Nat->Int}{owner:Array (Option Nat)}(W:OW m hs owner k):(qgS m owner).Nodup:=by
 refine List.Pairwise.filterMap _ (fun a a' hne b e b' e' z=>?_) List.nodup_range
 subst z
 exact hne (W.inj _ _ _ (Jr.mp e) (Jr.mp e'))
theorem OW.len {m k:Nat}{hs:Nat->Int}{owner:Array (Option Nat)}(W:OW m hs owner k):(qgS m owner).length=k:=by
 apply Nat.le_antisymm
 ·have sub:qgS m owner ⊆ List.range k:=fun i hi=>by
   obtain ⟨j,_,e⟩:=List.mem_filterMap.mp hi
   exact List.mem_range.mpr (W.own j i (Jr.mp e)).1
  have:=List.Nodup.length_le_of_subset W.nodup sub
  rwa [yq] at this
 ·have sub:List.range k ⊆ qgS m owner:=fun i hi=>by
   obtain ⟨j,e⟩:=W.ex i (List.mem_range.mp hi)
   have hj:j<owner.size:=by
    rcases Nat.lt_or_ge j owner.size with z | z
    ·exact z
    ·rw [qX z] at e;cases e
   exact List.mem_filterMap.mpr ⟨j,List.mem_range.mpr (by rw [W.sz] at hj;exact hj),Jr.mpr e⟩
  have:=List.Nodup.length_le_of_subset List.nodup_range sub
  rwa [yq] at this
theorem OW.free {m k:Nat}{hs:Nat->Int}{owner:Array (Option Nat)}(W:OW m hs owner k) (hk:k<=m):∃ q,q<=m/\¬ fO owner q:=by
 refine Classical.byContradiction fun hc=>?_
 have all:∀ q,q<=m->fO owner q:=fun q hq=>Classical.byContradiction fun z=>hc ⟨q,hq,z⟩
 have h1:=W.len
 unfold qgS at h1
 rw [List.length_filterMap_eq_countP] at h1
 have h2:List.countP (fun j=>(owner.getD j none).isSome) (List.range (m+1))=(List.range (m+1)).length:=List.countP_eq_length.mpr fun j hj=>by
  have hj:=List.mem_range.mp hj
  have a:=all j (by omega)
  have hlt:j<owner.size:=by rw [W.sz];exact hj
  unfold fO at a
  simpa [Array.getD,hlt] using a
 rw [h2,yq] at h1
 omega
theorem OW.step {m k:Nat}{hs:Nat->Int}{owner:Array (Option Nat)}(W:OW m hs owner k) {j:Nat}(hj:¬ fO owner j) (hr:Rch (fO owner) m (hs k) j):OW m hs (owner.setIfInBounds j (some k)) (k+1):=by
 have hlt:j<owner.size:=by
  rcases Nat.lt_or_ge j owner.size with z | z
  ·exact z
  ·refine absurd ?_ hj
   unfold fO
   simp [Array.getD,Nat.not_lt.mpr z]
 have nn:owner[j]?=some none:=by
  cases e:owner[j]? with
  | none=>rw [Array.getElem?_eq_none_iff] at e;omega
  | some o =>
   cases o with
   | none=>rfl
   | some i =>
    refine absurd ?_ hj
    unfold fO
    rw [Array.getD_eq_getD_getElem?,e]
    rfl
 have get:∀ q:Nat,(owner.setIfInBounds j (some k))[q]?=if q=j then some (some k) else owner[q]?:=fun q=>by
  rw [Array.getElem?_setIfInBounds]
  by_cases c:q=j
  ·subst c;simp [hlt]
  ·rw [if_neg c,if_neg (fun z=>c z.symm)]
 have up:∀ q,fO owner q->fO (owner.setIfInBounds j (some k)) q:=fun q hq=>by
  unfold fO at hq ⊢
  rw [Array.getD_eq_getD_getElem?] at hq ⊢
  rw [get]
  split
  ·rfl
  ·exact hq
 refine ⟨by rw [Array.size_setIfInBounds];exact W.sz,fun q i e=>?_,fun i hi=>?_,fun q q' i e e'=>?_⟩
 ·rw [get] at e
  by_cases c:q=j
  ·rw [if_pos c] at e
   have:k=i:=Option.some.inj (Option.some.inj e)
   subst this
   subst c
   exact ⟨by omega,hr.mono up⟩
  ·rw [if_neg c] at e
   obtain ⟨a,b⟩:=W.own q i e
   exact ⟨by omega,b.mono up⟩
 ·by_cases c:i=k
  ·subst c
   exact ⟨j,by rw [get,if_pos rfl]⟩
  ·obtain ⟨q,e⟩:=W.ex i (by omega)
   refine ⟨q,?_⟩
   rw [get,if_neg (fun z=>by rw [z,nn] at e;cases e)]
   exact e
 ·rw [get] at e e'
  by_cases c:q=j
  ·rw [if_pos c] at e
   have hik:k=i:=Option.some.inj (Option.some.inj e)
   by_cases c':q'=j
   ·rw [c,c']
   ·rw [if_neg c'] at e'
    have:=(W.own q' i e').1
    omega
  ·rw [if_neg c] at e
   by_cases c':q'=j
   ·rw [if_pos c'] at e'
    have hik:k=i:=Option.some.inj (Option.some.inj e')
    have:=(W.own q i e).1
    omega
   ·rw [if_neg c'] at e'
    exact W.inj q q' i e e'
theorem OW.init (m:Nat) (hs:Nat->Int):OW m hs (Array.replicate (m+1) none) 0:=by
 have z:∀ j i:Nat,(Array.replicate (m+1) (none:Option Nat))[j]?=some (some i)->False:=fun j i e=>by
  rw [Array.getElem?_replicate] at e
  split at e <;> simp at e
 exact ⟨by simp,fun j i e=>(z j i e).elim,fun i hi=>absurd hi (by omega),fun j j' i e=>(z j i e).elim⟩
def ZQ (m:Nat) (acc:Option (Array (Option Nat)×Nat)) (h:Int):Option (Array (Option Nat)×Nat):=do
 let (owner,k) <- acc
 let j <- layClean.free m owner (turns m) (bits h % (m+1)) (bits h)
 pure (owner.setIfInBounds j (some k),k+1)
theorem ZR (m:Nat) (hashes:Array Int):layClean m hashes=(hashes.foldl (ZQ m) (some (Array.replicate (m+1) none,0))).map (·.1):=rfl
theorem qcv {m:Nat}(F:Full m) {hs:Nat->Int}:∀ (l:List Int) (owner:Array (Option Nat)) (k:Nat),OW m hs owner k->(∀ i (h:Int),l[i]?=some h->hs (k+i)=h)->k+l.length<=m+1 →
  ∃ owner',l.foldl (ZQ m) (some (owner,k))=some (owner',k+l.length)/\OW m hs owner' (k+l.length)
 | [],owner,k,W,_,_=>⟨owner,rfl,W⟩
 | h::l,owner,k,W,hl,hk=>by
  simp only [List.length_cons] at hk ⊢
  obtain ⟨q,hq,hq2⟩:=W.free (by omega)
  obtain ⟨L',a,b⟩:=F.lp h hq
  obtain ⟨j,e,j1,j2⟩:=qcu (m:=m) (owner:=owner) (h:=h) (turns m) 0 0 rfl (fun l z=>absurd z (by omega)) ⟨L',by omega,by unfold turns;omega,by rw [b];exact hq2⟩
  have hk0:hs k=h:=hl 0 h rfl
  have W':=W.step j1 (by rw [hk0];exact j2)
  obtain ⟨o',e',W''⟩:=qcv F l _ (k+1) W' (fun i h' e=>by rw [show k+1+i=k+(i+1) by omega];exact hl (i+1) h' (by simpa using e)) (by omega)
  refine ⟨o',?_,by rw [show k+(l.length+1)=k+1+l.length by omega];exact W''⟩
  rw [List.foldl_cons]
  have e0:ZQ m (some (owner,k)) h=some (owner.setIfInBounds j (some k),k+1):=by
   show (layClean.free m owner (turns m) (bits h % (m+1)) (bits h) >>= fun j=>pure (owner.setIfInBounds j (some k),k+1))=_
   have e:layClean.free m owner (turns m) (bits h % (m+1)) (bits h)=some j:=e
   rw [e]
   rfl
  rw [e0,e',show k+(l.length+1)=k+1+l.length by omega]
theorem qe6 {α β:Type}{f:α->Option β}:∀ {l:List α},(∀ x∈l,(f x).isSome=true)->∀ i:Nat,(l.filterMap f)[i]?=l[i]?.bind f
 | [],_,i=>by simp
 | x::l,h,i=>by
  obtain ⟨y,e⟩:=Option.isSome_iff_exists.mp (h x qm)
  rw [List.filterMap_cons_some e]
  cases i with
  | zero=>simp [e]
  | succ i=>simpa using qe6 (fun z hz=>h z (qi _ hz)) i
theorem qii {α β:Type}{f:α->Option β}{l:List α}(h:∀ x∈l,(f x).isSome=true):(l.filterMap f).length=l.length:=by
 rw [List.length_filterMap_eq_countP,List.countP_eq_length.mpr h]
theorem qgh {α:Type}{m n fi mv:Nat}(F:Full m) {ld pl:Bool}{es:Array (Int×α)}(hn:es.size=n) (hm:n<=m+1) :
  ∃ (t:SetTable) (order:Array Nat),laid m fi mv ld pl (es.map (·.1))=some (t,order)/\t.led=ld/\t.plain=pl/\(order.filterMap (es[·]?)).size=es.size/\SetI t (order.filterMap (es[·]?)) m n ∧
   (∀ e,e∈(order.filterMap (es[·]?)).toList ↔ e∈es.toList) ∧
   ∀ (i i':Nat) (e e':Int×α),(order.filterMap (es[·]?))[i]?=some e->(order.filterMap (es[·]?))[i']?=some e'->(∀ y y':Nat,es[y]?=some e->es[y']?=some e'->y=y')->i=i':=by
 obtain ⟨owner,eo,W⟩:=qcv F (hs:=fun i=>((es.map (·.1)).getD i 0)) (es.map (·.1)).toList (Array.replicate (m+1) none) 0 (OW.init m _) (fun i h e=>by
  rw [Nat.zero_add,Array.getD_eq_getD_getElem?,<- qh,e];rfl) (by simp;omega)
 have hlen:(es.map (·.1)).toList.length=n:=by simp [hn]
 rw [Nat.zero_add,hlen] at eo W
 have live:∃ live:List (Nat×Nat),live=(List.range (m+1)).filterMap fun j=>(owner.getD j none).map (j,·):=⟨_,rfl⟩
 obtain ⟨live,el⟩:=live
 have lmem:∀ j i,(j,i)∈live ↔ owner[j]?=some (some i):=fun j i=>by
  rw [el,List.mem_filterMap]
  constructor
  ·rintro ⟨q,_,e⟩
   cases o:owner.getD q none with
   | none=>rw [o] at e;cases e
   | some x =>
    rw [o] at e
    cases e
    exact Jr.mp o
  ·intro e
   have hj:j<owner.size:=by
    rcases Nat.lt_or_ge j owner.size with z | z
    ·exact z
    ·rw [qX z] at e;cases e
   exact ⟨j,List.mem_range.mpr (by rw [W.sz] at hj;exact hj),by rw [Jr.mpr e];rfl⟩
 have llen:live.length=n:=by
  have:=W.len
  unfold qgS at this
  rw [List.length_filterMap_eq_countP] at this
  rw [el,List.length_filterMap_eq_countP,<- this]
  congr 1
  funext j
  cases owner.getD j none <;> rfl
 have lsort:live.Pairwise fun a b=>a.1<b.1:=by
  rw [el]
  refine List.Pairwise.filterMap _ (fun a a' hlt b e b' e'=>?_) List.pairwise_lt_range
  cases o:owner.getD a none with
  | none=>rw [o] at e;cases e
  | some x =>
   cases o':owner.getD a' none with
   | none=>rw [o'] at e';cases e'
   | some x' =>
    rw [o] at e;rw [o'] at e'
    cases e;cases e'
    exact hlt
 have some1:∀ x∈live.map (·.2),(es[x]?).isSome=true:=fun x hx=>by
  obtain ⟨⟨j,i⟩,hji,rfl⟩:=qI.mp hx
  have:=(W.own j i ((lmem j i).mp hji)).1
  simp [hn,this]
 have es':((live.map (·.2)).toArray.filterMap (es[·]?))=((live.map (·.2)).filterMap (es[·]?)).toArray:=by simp
 have get':∀ i:Nat,((live.map (·.2)).toArray.filterMap (es[·]?))[i]?=live[i]?.bind fun x=>es[x.2]?:=fun i=>by
  rw [es',List.getElem?_toArray,qe6 some1,List.getElem?_map]
  cases live[i]? <;> rfl
 have size':((live.map (·.2)).toArray.filterMap (es[·]?)).size=n:=by
  rw [es',List.size_toArray,qii some1,List.length_map,llen]
 have pget:∀ i:Nat,(live.map (·.1)).toArray[i]?=live[i]?.map (·.1):=fun i=>by rw [List.getElem?_toArray,List.getElem?_map]
 refine ⟨{ mask:=m,place:=(live.map (·.1)).toArray,dummies:=#[],finger:=fi,led:=ld,moves:=mv,plain:=pl },(live.map (·.2)).toArray,?_,rfl,rfl,by rw [size',hn],⟨⟨rfl,rfl,by simp [llen],?_,?_⟩,size',?_⟩,fun e=>?_,fun i i' e e' h1 h2 hyy=>?_⟩
 ·unfold laid
  rw [ZR,<- Array.foldl_toList,eo,el]
  rfl
 ·intro a b hab hb
  have hb':b<live.length:=by simpa using hb
  have ha':a<live.length:=by omega
  have:=qF.mp lsort a b ha' hb' hab
  simpa [Array.getD,ha',hb'] using this
 ·intro i j e
  rw [show ({ mask:=m,place:=(live.map (·.1)).toArray,dummies:=#[],finger:=fi,led:=ld,moves:=mv,plain:=pl }:SetTable).place[i]?=live[i]?.map (·.1) from pget i] at e
  cases o:live[i]? with
  | none=>rw [o] at e;cases e
  | some x =>
   rw [o] at e
   obtain ⟨q,y⟩:=x
   have hq:=(lmem q y).mp (List.mem_of_getElem? o)
   have:q=j:=Option.some.inj e
   subst this
   have hj:q<owner.size:=by
    rcases Nat.lt_or_ge q owner.size with z | z
    ·exact z
    ·rw [qX z] at hq;cases hq
   rw [W.sz] at hj
   omega
 ·rintro j e ⟨i,h1,h2⟩
  rw [show ({ mask:=m,place:=(live.map (·.1)).toArray,dummies:=#[],finger:=fi,led:=ld,moves:=mv,plain:=pl }:SetTable).place[i]?=live[i]?.map (·.1) from pget i] at h1
  rw [get'] at h2
  cases o:live[i]? with
  | none=>rw [o] at h1;cases h1
  | some x =>
   rw [o] at h1 h2
   obtain ⟨q,y⟩:=x
   have e1:q=j:=Option.some.inj h1
   subst e1
   have h2:es[y]?=some e:=h2
   have hr:=(W.own q y ((lmem q y).mp (List.mem_of_getElem? o))).2
   have eh:((es.map (·.1)).getD y 0)=e.1:=by
    rw [Array.getD_eq_getD_getElem?,Array.getElem?_map,h2];rfl
   rw [<- eh]
   obtain ⟨k,ek,ak⟩:=hr
   refine ⟨k,ek,fun l hl=>?_⟩
   have hp:=ak l hl
   have hle:=qev m ((es.map (·.1)).getD y 0) l
   generalize (stp m ((es.map (·.1)).getD y 0) l).j=p at hp hle
   unfold fO at hp
   rw [Array.getD_eq_getD_getElem?] at hp
   cases oo:owner[p]? with
   | none =>
    rw [Array.getElem?_eq_none_iff,W.sz] at oo
    omega
   | some v =>
    rw [oo] at hp
    cases v with
    | none=>cases hp
    | some z =>
     obtain ⟨a,ea⟩:=qR ((lmem p z).mpr oo)
     exact ⟨a,by rw [show ({ mask:=m,place:=(live.map (·.1)).toArray,dummies:=#[],finger:=fi,led:=ld,moves:=mv,plain:=pl }:SetTable).place[a]?=live[a]?.map (·.1) from pget a,ea];rfl⟩
 ·constructor
  ·intro he
   obtain ⟨i,ei⟩:=qR he
   rw [qh,get'] at ei
   cases o:live[i]? with
   | none=>rw [o] at ei;cases ei
   | some x =>
    rw [o] at ei
    exact List.mem_of_getElem? (by rw [qh];exact ei)
  ·intro he
   obtain ⟨y,ey⟩:=qR he
   rw [qh] at ey
   have hy:y<n:=by
    rcases Nat.lt_or_ge y es.size with z | z
    ·omega
    ·rw [qX z] at ey;cases ey
   obtain ⟨j,ej⟩:=W.ex y hy
   obtain ⟨i,ei⟩:=qR ((lmem j y).mpr ej)
   refine List.mem_of_getElem? (i:=i) ?_
   rw [qh,get',ei]
   exact ey
 ·rw [get'] at h1 h2
  cases o:live[i]? with
  | none=>rw [o] at h1;cases h1
  | some x =>
   cases o':live[i']? with
   | none=>rw [o'] at h2;cases h2
   | some x' =>
    rw [o] at h1;rw [o'] at h2
    have hxx:x.2=x'.2:=hyy _ _ h1 h2
    have j1:=(lmem x.1 x.2).mp (List.mem_of_getElem? o)
    have j2:=(lmem x'.1 x'.2).mp (List.mem_of_getElem? o')
    rw [<- hxx] at j2
    have jj:=W.inj _ _ _ j1 j2
    have hi:i<live.length:=(qo.mp o).1
    have hi':i'<live.length:=(qo.mp o').1
    have e1:live[i]=x:=(qo.mp o).2
    have e2:live[i']=x':=(qo.mp o').2
    rcases Nat.lt_trichotomy i i' with z | z | z
    ·have:=qF.mp lsort i i' hi hi' z
     rw [e1,e2] at this
     omega
    ·exact z
    ·have:=qF.mp lsort i' i hi' hi z
     rw [e1,e2] at this
     omega
end L2
namespace L2
open PySem PySem.Spec PyProof.Rows PySem.W
section
variable {prog:Program}{w:World}{A:Around}{E:Value->Shared->Prop}{s:Shared}
theorem qdS {vs:List Value}{ns:List Int}(h:IntsAre vs ns):ItemsAre (intKind prog w) ns vs:=by
 induction h with
 | nil=>exact .nil
 | cons n t _ ih=>exact .cons (intKind_is _ _ _ _) ih
theorem y3.key {h:Heap}{b:Addr}{ks:List Int}(t:y3 h (.ref b) ks):IsTupleKey (intKind prog w) h ks b:=by
 obtain ⟨b',o,xs,n,e,ho,hc,hd,hi,_⟩:=t
 cases e
 exact ⟨o,xs,n,ho,hc,hd,qdS hi⟩
abbrev yn (prog:Program) (w:World) (ks:List Int):Int:=tupleKeyHash (intKind prog w) ks
theorem qgn {b:Addr}{ks:List Int}{Q:Bool->Shared->Prop}(t:y3 s.heap (.ref b) ks) (q:Q true s):wpAny (model prog w) A (hashByValue 8 (.ref b)) Q E s:=by
 have hT:=(t.key (prog:=prog) (w:=w)).typeIs
 obtain ⟨b',o,xs,n,e,ho,hc,hd,hi,_⟩:=t
 cases e
 unfold hashByValue
 refine qb (wpAny_specialOf hT F.slot_tuple_hash.lookup ?_)
 show wpAny _ _ (seqItems? (.ref b) >>= _) _ _ s
 refine qb (wpAny_seqItems ho hd ?_)
 refine qb ?_
 show wpAny _ _ (forIn xs _ _) _ _ s
 rw [<- Array.forIn_toList]
 refine wpAny_forIn_list _ (fun yP r s'=>r.1=none/\s'=s/\∃ ns,IntsAre yP ns) _ ?_ ?_ _ _ ⟨rfl,rfl,_,hi⟩
 ·rintro v yP r s' ⟨hr,rfl,ns,hi'⟩
  cases hi' with
  | cons i t hi'' =>
   refine qb (qd ?_)
   simp only [Bool.not_true,Bool.false_eq_true,if_false]
   exact qd ⟨rfl,rfl,_,hi''⟩
 ·rintro ⟨r1,r2⟩ s' ⟨hr,rfl,_⟩
  simp only at hr
  subst hr
  exact qd q
theorem qcO {b:Addr}{ks:List Int}{Q:Bool->Shared->Prop}(t:y3 s.heap (.ref b) ks) (q:Q false s):wpAny (model prog w) A (ofAClassStatement 8 (.ref b)) Q E s:=by
 have hT:=(t.key (prog:=prog) (w:=w)).typeIs
 obtain ⟨b',o,xs,n,e,ho,hc,hd,hi,_⟩:=t
 cases e
 unfold ofAClassStatement
 refine qb (wpAny_typeOf hT ?_)
 dsimp only
 rw [if_pos (show ("tuple" == "tuple")=true by decide)]
 refine qb (qd ?_)
 simp only [Bool.not_true,Bool.false_eq_true,if_false]
 refine qb (wpAny_seqItems ho hd ?_)
 dsimp only
 refine qb ?_
 show wpAny _ _ (forIn xs _ _) _ _ s
 rw [<- Array.forIn_toList]
 refine wpAny_forIn_list _ (fun yP r s'=>r.1=none/\s'=s/\∃ ns,IntsAre yP ns) _ ?_ ?_ _ _ ⟨rfl,rfl,_,hi⟩
 ·rintro v yP r s' ⟨hr,rfl,ns,hi'⟩
  cases hi' with
  | cons i t hi'' =>
   refine qb (qd ?_)
   simp only [Bool.false_eq_true,if_false]
   exact qd ⟨rfl,rfl,_,hi''⟩
 ·rintro ⟨r1,r2⟩ s' ⟨hr,rfl,_⟩
  simp only at hr
  subst hr
  exact qd q
theorem qfB {b:Addr}{ks:List Int}(t:y3 s.heap (.ref b) ks) {ys:List Value}{Q:Bool->Shared->Prop}(hy:∀ y∈ys,∃ c ks',y = .ref c/\y3 s.heap (.ref c) ks') (q:Q false s):wpAny (model prog w) A (searchCouldBeSeen (.ref b) ys) Q E s:=by
 unfold searchCouldBeSeen
 refine qb ?_
 refine wpAny_forIn_list _ (fun yP r s'=>r.1=none/\s'=s/\∀ y∈yP,∃ c ks',y = .ref c/\y3 s.heap (.ref c) ks') _ ?_ ?_ _ _ ⟨rfl,rfl,hy⟩
 ·rintro v yP r s' ⟨hr,rfl,hy'⟩
  obtain ⟨c,ks',rfl,tc⟩:=hy' v qm
  have rest':∀ y∈yP,∃ c ks',y = .ref c/\y3 s'.heap (.ref c) ks':=fun y h=>hy' y (qi _ h)
  dsimp only
  by_cases e:(b == c)=true
  ·rw [e]
   simp only [Bool.true_or,if_true]
   exact qd ⟨rfl,rfl,rest'⟩
  ·have e:(b == c)=false:=by simpa using e
   rw [e]
   simp only [carriedByValue,Bool.false_and,Bool.or_false,Bool.false_eq_true,if_false]
   refine qb (wpAny_eqIsQuiet_tuple (t.key (prog:=prog) (w:=w)) ?_)
   simp only [Bool.not_true,Bool.false_eq_true,if_false]
   refine qb (wpAny_eqIsQuiet_tuple (tc.key (prog:=prog) (w:=w)) ?_)
   simp only [Bool.not_true,Bool.false_eq_true,if_false]
   refine qb (qcO t ?_)
   simp only [Bool.false_eq_true,if_false]
   refine qb (qcO tc ?_)
   simp only [Bool.false_eq_true,if_false]
   exact qd ⟨rfl,rfl,rest'⟩
 ·rintro ⟨r1,r2⟩ s' ⟨hr,rfl,_⟩
  simp only at hr
  subst hr
  exact qd q
end
end L2
namespace L2
open PySem PySem.Spec PyProof.Rows PySem.W PySem.SetTable
def jv (m n:Nat):Prop:=(m=7/\n<5)\/(m=31/\n<19)\/(m=127/\n<77)\/(m=511/\n<307)\/(m=2047/\n<1229)\/(m=8191/\n<4915)
theorem jv.full {m n:Nat}(h:jv m n):Full m:=by
 rcases h with ⟨rfl,_⟩ | ⟨rfl,_⟩ | ⟨rfl,_⟩ | ⟨rfl,_⟩ | ⟨rfl,_⟩ | ⟨rfl,_⟩
 ·exact full7
 ·exact qig
 ·exact qgr
 ·exact qgq
 ·exact qdX
 ·exact qdW
theorem jv.le {m n:Nat}(h:jv m n):n<m/\n<4915:=by unfold jv at h;omega
theorem jv.odd {m n:Nat}(h:jv m n):(m % 2 == 0)=false:=by
 rcases h with ⟨rfl,_⟩ | ⟨rfl,_⟩ | ⟨rfl,_⟩ | ⟨rfl,_⟩ | ⟨rfl,_⟩ | ⟨rfl,_⟩ <;> decide
def YS (prog:Program) (w:World) (h:Heap) (e:Int×Value) (ks:List Int):Prop:=y3 h e.2 ks/\e.1=yn prog w ks
abbrev jk (w:World):Bool:=w.params.followText "set-order"
structure SetD (prog:Program) (w:World) (Pv:Value->Prop) (h:Heap) (a:Addr) (o:Obj) (es:Array (Int×Value)) (ep:Nat) (t:SetTable) (m:Nat) (kss:List (List Int)):Prop where
 ho:h.get? a=some o
 ex:o.ExactSet
 hd:o.data = .set es ep t
 pl:t.plain=true
 ld:t.led=!jk w
 mok:jv m es.size
 si:SetI t es m es.size
 en:PySem.Paired (YS prog w h) es.toList kss
 nd:kss.Nodup
 own:∀ e∈es.toList,Pv e.2
section
variable {prog:Program}{w:World}{Pv:Value->Prop}{A:Around}{E:Value->Shared->Prop}{s:Shared}{a:Addr}{o:Obj}{es:Array (Int×Value)}{ep:Nat}{t:SetTable}{m:Nat}{kss:List (List Int)}
theorem SetD.fits (D:SetD prog w Pv s.heap a o es ep t m kss):t.fits es.size=true:=by
 have:=D.mok.le
 unfold SetTable.fits SetTable.fill
 rw [D.si.tab.dm,D.si.tab.size,D.si.tab.mask]
 simp
 omega
theorem SetD.len (D:SetD prog w Pv s.heap a o es ep t m kss):kss.length=es.size:=by
 have:=PySem.Paired.length D.en
 rw [Array.length_toList] at this
 exact this.symm
theorem SetD.ent (D:SetD prog w Pv s.heap a o es ep t m kss) {i:Nat}{e:Int×Value}(h:es[i]?=some e):∃ ks,kss[i]?=some ks/\YS prog w s.heap e ks:=L2.Paired.get D.en (by rw [qh];exact h)
theorem SetD.ent' (D:SetD prog w Pv s.heap a o es ep t m kss) {i:Nat}{ks:List Int}(h:kss[i]?=some ks):∃ e,es[i]?=some e/\YS prog w s.heap e ks:=by
 obtain ⟨e,h1,h2⟩:=L2.Paired.get' D.en h
 exact ⟨e,by rw [qh] at h1;exact h1,h2⟩
theorem SetD.place (D:SetD prog w Pv s.heap a o es ep t m kss) {i j:Nat}(h:t.place[i]?=some j):∃ e,es[i]?=some e:=by
 have hi:i<t.place.size:=by
  rcases Nat.lt_or_ge i t.place.size with z | z
  ·exact z
  ·rw [qX z] at h;cases h
 rw [D.si.tab.size] at hi
 exact ⟨es[i],by simp [hi]⟩
theorem Y0 (D:SetD prog w Pv s.heap a o es ep t m kss) {b:Addr}{ks:List Int}(tb:y3 s.heap (.ref b) ks) (hu:A.units<cLine) {adding:Bool}{Q:SetFound->Shared->Prop}
  (hin:∀ i:Nat,kss[i]?=some ks->Q (.there (if adding=true then none else some i)) s)
  (hout:ks∉kss->∀ j,¬ Fl t j->j<=m->Rch (Fl t) m (yn prog w ks) j->Q (.free j false) s) {K:Nat}(hK:¬ Fl t (stp m (yn prog w ks) K).j) (hK2:K<=10 * (m+12)) :
  ∀ (fu k:Nat) (stand:Option Probe),stand.getD (t.probeStart (yn prog w ks))=stp m (yn prog w ks) k->k<=K->K - k<fu →
   (∀ l,l<k->∃ i:Nat,t.place[i]?=some (stp m (yn prog w ks) l).j/\kss[i]?≠some ks)->wpAny (model prog w) A (setSearchFrom a (.ref b) (yn prog w ks) adding fu stand) Q E s
 | 0,k,stand,_,_,z,_=>absurd z (by omega)
 | fu+1,k,stand,hst,hk,hf,hl=>by
  have T:=D.si.tab
  unfold setSearchFrom
  refine qb (yM D.ho D.hd D.fits ?_)
  dsimp only
  have gw:t.gaveWay=false:=by unfold SetTable.gaveWay;rw [T.mask];exact D.mok.odd
  rw [gw]
  simp only [Bool.false_eq_true,if_false]
  rw [hst]
  obtain ⟨x,x1,x2,x3,x4⟩:=T.probe_go (hashAt:=fun i=>(es[i]?.map (·.1)).getD 0) hK (10 * turns t.mask) k hk (by rw [T.mask];unfold turns;omega)
  -- up to x none is it
  have before:∀ l,l<x->∃ i:Nat,t.place[i]?=some (stp m (yn prog w ks) l).j/\kss[i]?≠some ks:=fun l hlx=>by
   by_cases c:l<k
   ·exact hl l c
   ·obtain ⟨i,e1,e2⟩:=x3 l (by omega) hlx
    refine ⟨i,e1,fun z=>e2 ?_⟩
    obtain ⟨e,h1,_,h3⟩:=D.ent' z
    simp only [h1,Option.map_some,Option.getD_some,h3]
  rcases x4 with ⟨n1,n2⟩ | ⟨i,e1,e2,e3⟩
  ·have pe:t.probe (fun i=>(es[i]?.map (·.1)).getD 0) (yn prog w ks) (stp m (yn prog w ks) k)=some (.empty (stp m (yn prog w ks) x).j none):=n2
   have no:ks∉kss:=fun hm=>by
    obtain ⟨i,ei⟩:=qR hm
    obtain ⟨e,h1,_,h3⟩:=D.ent' ei
    have hi:i<t.place.size:=by
     rw [T.size]
     rcases Nat.lt_or_ge i es.size with z | z
     ·exact z
     ·rw [qX z] at h1;cases h1
    obtain ⟨k',ek,ak⟩:=D.si.rch (t.place[i]) e ⟨i,by simp [hi],h1⟩
    rw [h3] at ek ak
    rcases Nat.lt_trichotomy k' x with z | z | z
    ·obtain ⟨i',p1,p2⟩:=before k' z
     rw [ek] at p1
     have:i'=i:=qds T.rise p1 (by simp [hi])
     subst this
     exact p2 ei
    ·subst z
     exact n1 ⟨i,by rw [ek];simp [hi]⟩
    ·exact n1 (ak x z)
   have fin:=hout no _ n1 (qev _ _ _) ⟨x,rfl,fun l hlx=>let ⟨i,p,_⟩:=before l hlx;⟨i,p⟩⟩
   generalize hp:t.probe _ (yn prog w ks) (stp m (yn prog w ks) k)=r
   have er:=hp.symm.trans pe
   subst er
   exact qd fin
  ·have pe:t.probe (fun i=>(es[i]?.map (·.1)).getD 0) (yn prog w ks) (stp m (yn prog w ks) k)=some (.candidate (stp m (yn prog w ks) x).j i (stp m (yn prog w ks) (x+1))):=e3
   generalize hp:t.probe _ (yn prog w ks) (stp m (yn prog w ks) k)=r
   have er:=hp.symm.trans pe
   subst er
   dsimp only
   obtain ⟨⟨h',y⟩,ee⟩:=D.place e1
   obtain ⟨ks',ek,ty,hh⟩:=D.ent ee
   obtain ⟨c,oc,xs,nn,ey,hoc⟩:=id ty
   have ey:y = .ref c:=ey
   subst ey
   have ty:y3 s.heap (.ref c) ks':=ty
   have hstored:∀ y∈List.map (fun x=>x.snd) (Array.filter (fun x=>x.fst == yn prog w ks) es).toList,∃ c ks',y = .ref c/\y3 s.heap (.ref c) ks':=fun y hy=>by
    obtain ⟨e,he,rfl⟩:=qI.mp hy
    have he':e∈es.toList:=by
     rw [Array.toList_filter] at he
     exact (List.mem_filter.mp he).1
    obtain ⟨q,eq⟩:=qR he'
    rw [qh] at eq
    obtain ⟨ks2,_,t2,_⟩:=D.ent eq
    obtain ⟨c2,_,_,_,e2,_⟩:=id t2
    exact ⟨c2,ks2,e2,by rw [<- e2];exact t2⟩
   have sm:t.sameMemory t.moves t.mask=some true:=by unfold SetTable.sameMemory;rw [if_pos (beq_self_eq_true _)]
   -- once it stands that nobody sees it
   have core:wpAny (model prog w) A (do
     let equal <- holding [Value.ref c] (eqBool (Value.ref c) (Value.ref b))
     let __x <- setState a
     if (adding && equal)=true then pure (SetFound.there none)
      else
       match __x.2.snd.sameMemory t.moves t.mask with
       | some sme =>
        match if sme=true then __x.2.snd.slot (stp m (yn prog w ks) x).j else Slot.empty with
        | Slot.live i' =>
         match __x.fst[i']? with
         | some (fst,y')=>do
          let __do_lift <- isSame y' (Value.ref c)
          let still <- pure (if __do_lift=true then some i' else none)
          match still with
           | none=>do
            rule "set.search.anew"
            setSearchFrom a (Value.ref b) (yn prog w ks) adding fu none
           | some i' =>
            if equal=true then pure (SetFound.there (some i'))
            else setSearchFrom a (Value.ref b) (yn prog w ks) adding fu (some (stp m (yn prog w ks) (x+1)))
         | none=>do
          let still <- pure none
          match still with
           | none=>do
            rule "set.search.anew"
            setSearchFrom a (Value.ref b) (yn prog w ks) adding fu none
           | some i' =>
            if equal=true then pure (SetFound.there (some i'))
            else setSearchFrom a (Value.ref b) (yn prog w ks) adding fu (some (stp m (yn prog w ks) (x+1)))
        | x_1=>do
         let still <- pure none
         match still with
          | none=>do
           rule "set.search.anew"
           setSearchFrom a (Value.ref b) (yn prog w ks) adding fu none
          | some i' =>
           if equal=true then pure (SetFound.there (some i'))
           else setSearchFrom a (Value.ref b) (yn prog w ks) adding fu (some (stp m (yn prog w ks) (x+1)))
       | x_1=>unsupported "set.changed-during-lookup:is-the-new-block-at-the-old-address") Q E s:=by
    refine qb (yj (wpAny_eqBool_tuple hu (ty.key (prog:=prog) (w:=w)) (tb.key (prog:=prog) (w:=w)) ?_))
    refine qb (yM D.ho D.hd D.fits ?_)
    dsimp only
    have go:∀ eq:Bool,(eq=true->kss[i]?=some ks)->(eq=false->kss[i]?≠some ks)->wpAny (model prog w) A (do
      let __do_lift <- isSame (Value.ref c) (Value.ref c)
      let still <- pure (if __do_lift=true then some i else none)
      match still with
       | none=>do
        rule "set.search.anew"
        setSearchFrom a (Value.ref b) (yn prog w ks) adding fu none
       | some i' =>
        if eq=true then pure (SetFound.there (some i'))
        else setSearchFrom a (Value.ref b) (yn prog w ks) adding fu (some (stp m (yn prog w ks) (x+1)))) (fun r s'=>adding=true/\eq=true\/Q r s') E s:=fun eq q1 q2=>by
     refine qb ?_
     unfold isSame
     dsimp only
     rw [if_pos (beq_self_eq_true _)]
     refine qd (qb (qd ?_))
     simp only [if_true]
     cases eq with
     | true =>
      simp only [if_true]
      refine qd ?_
      cases adding with
      | true=>exact .inl (by simp)
      | false=>exact .inr (by simpa using hin i (q1 rfl))
     | false =>
      simp only [Bool.false_eq_true,if_false]
      refine yD (Y0 D tb hu hin hout hK hK2 fu (x+1) _ rfl ?_ ?_ fun l hlx=>?_) (fun r s' q=>.inr q) fun _ _ z=>z
      ·have:x≠K:=fun z=>hK (z ▸ ⟨i,e1⟩)
       omega
      ·have:x≠K:=fun z=>hK (z ▸ ⟨i,e1⟩)
       omega
      ·by_cases z:l=x
       ·subst z;exact ⟨i,e1,q2 rfl⟩
       ·exact before l (by omega)
    by_cases kk:ks'=ks
    ·rw [qO kk]
     cases ha:adding with
     | true =>
      simp only [Bool.and_self,if_true]
      refine qd ?_
      have:=hin i (by rw [ek,kk])
      rw [ha] at this
      simpa using this
     | false =>
      simp only [Bool.and_true,Bool.false_eq_true,if_false,sm,if_true,T.live e1,ee]
      refine yD (by have:=go true (fun _=>by rw [ek,kk]) (fun z=>by cases z);rw [ha] at this;simpa using this) (fun r s' q=>?_) fun _ _ z=>z
      exact q
    ·rw [decide_eq_false kk]
     simp only [Bool.and_false,Bool.false_eq_true,if_false,sm,if_true,T.live e1,ee]
     refine yD (by have:=go false (fun z=>by cases z) (fun _ z=>kk (by rw [ek] at z;exact Option.some.inj z));simpa using this) (fun r s' q=>?_) fun _ _ z=>z
     exact q
   cases hled:t.led with
   | true =>
    simp only [Bool.not_true,Bool.false_eq_true,if_false,ee]
    exact core
   | false =>
    simp only [Bool.not_false,if_true]
    refine qb (qfB tb hstored ?_)
    simp only [Bool.false_eq_true,if_false,ee]
    exact core
end
end L2
namespace L2
open PySem PySem.Spec PyProof.Rows PySem.W PySem.SetTable
def Z1 (prog:Program) (w:World) (Pv:Value->Prop) (h:Heap) (a:Addr) (kss:List (List Int)):Prop:=∃ o es ep t m,SetD prog w Pv h a o es ep t m kss
theorem YS.kept {prog:Program}{w:World}{h h':Heap}{e:Int×Value}{ks:List Int}(k:∀ b o,h.get? b=some o->o.cls = .type "tuple" -> h'.get? b=some o) (t:YS prog w h e ks):YS prog w h' e ks:=⟨t.1.kept k,t.2⟩
theorem Z1.kept {prog:Program}{w:World}{Pv:Value->Prop}{h h':Heap}{a:Addr}{kss:List (List Int)}(k:jw h h') (S:Z1 prog w Pv h a kss):Z1 prog w Pv h' a kss:=by
 obtain ⟨o,es,ep,t,m,D⟩:=S
 exact ⟨o,es,ep,t,m,k _ _ D.ho,D.ex,D.hd,D.pl,D.ld,D.mok,D.si,Paired.mapP D.en fun e ks t=>t.kept fun b o e _=>k b o e,D.nd,D.own⟩
theorem qcC {prog:Program}{w:World}{h h':Heap}{a:Addr}{o:Obj}(ho:h.get? a=some o) (hc:o.cls = .type "set") (sb:Heap.SameBut a h h') {e:Int×Value}{ks:List Int}(t:YS prog w h e ks):YS prog w h' e ks :=
 t.kept fun b o' e hcl=>by
  have ne:b≠a:=by
   rintro rfl
   rw [ho] at e
   cases e
   rw [hc] at hcl
   exact absurd hcl (by decide)
  rw [sb.2 b ne];exact e
section
variable {prog:Program}{w:World}{A:Around}{E:Value->Shared->Prop}{s:Shared}{a:Addr}{o:Obj}{es:Array (Int×Value)}{ep:Nat}{t:SetTable}{m:Nat}{kss:List (List Int)}
theorem qdv (a:Addr) (wanted:Nat):setRelay a wanted=(do
  let (es,_,t) <- setState a
  if SetTable.sizeAbove wanted > sizeLine then unsupported "set:memory"
  let (es,t) <- (do
   let some (t,order):=t.relaid (es.map (·.1)) wanted | unsupported "internal:set-table-without-room"
   let es':=order.filterMap (es[·]?)
   if es'.size != es.size then unsupported "internal:set-table-lost-an-element"
   pure (es',t))
  storeSet a es t):=rfl
theorem SetI.put {j:Nat}{x:Int×Value}(I:SetI t es m es.size) (hj:¬ Fl t j) (hm:j<=m) (hr:Rch (Fl t) m x.1 j):SetI (t.put j).1 (insertAt es (t.put j).2 x) m (es.size+1):=by
 obtain ⟨T',e2,e3⟩:=I.tab.put hj hm
 have hb:=(jG I.tab.rise j).2.2
 have hb2:below t.place j<=es.size:=by rw [<- I.tab.size];exact hb
 have up:∀ q,Fl t q->Fl (t.put j).1 q:=fun q ⟨i,e⟩=>by
  unfold Fl
  rw [e3]
  by_cases c:i<below t.place j
  ·exact ⟨i,by rw [yK hb,if_pos c];exact e⟩
  ·exact ⟨i+1,by rw [yK hb,if_neg (by omega),if_neg (by omega)];exact e⟩
 refine ⟨T',by rw [e2,JN hb2],fun j' e' hA=>?_⟩
 rw [e3,e2] at hA
 rcases (qic hb hb2).mp hA with h | ⟨rfl,rfl⟩
 ·exact (I.rch j' e' h).mono up
 ·exact hr.mono up
theorem Yg {α β:Type}{R:α->β->Prop}:∀ {xs:List α}{ys:List β}(p:Nat) {x:α}{y:β},PySem.Paired R xs ys->R x y->PySem.Paired R (xs.take p++x::xs.drop p) (ys.take p++y::ys.drop p)
 | _,_,0,x,y,h,r=>.cons r h
 | _,_,p+1,x,y,.nil,r=>by simpa using PySem.Paired.cons r .nil
 | _,_,p+1,x,y,.cons h t,r=>.cons h (Yg p t r)
theorem qat {α:Type}{xs:Array α}{p:Nat}{x:α}(hp:p<=xs.size):(insertAt xs p x).toList=xs.toList.take p++x::xs.toList.drop p:=by
 unfold insertAt
 simp [List.take_of_length_le]
theorem qb7 {α:Type}{xs:List α}{p:Nat}{x y:α}:y∈xs.take p++x::xs.drop p ↔ y=x\/y∈xs:=by
 have:y∈xs ↔ y∈xs.take p\/y∈xs.drop p:=by rw [<- List.mem_append,qv]
 simp only [List.mem_append,List.mem_cons,this]
 constructor
 ·rintro (h | h | h)
  ·exact .inr (.inl h)
  ·exact .inl h
  ·exact .inr (.inr h)
 ·rintro (h | h | h)
  ·exact .inr (.inl h)
  ·exact .inl h
  ·exact .inr (.inr h)
theorem qb3 {α:Type}{xs:List α}{p:Nat}{x:α}(h:xs.Nodup) (hx:x∉xs):(xs.take p++x::xs.drop p).Nodup:=by
 have e:(xs.take p++x::xs.drop p).Perm (x::xs):=by
  have:=List.perm_middle (a:=x) (l₁:=xs.take p) (l₂:=xs.drop p)
  rwa [qv] at this
 exact e.nodup_iff.mpr (List.nodup_cons.mpr ⟨hx,h⟩)
end
end L2
namespace L2
open PySem PySem.Spec PyProof.Rows PySem.W PySem.SetTable
theorem Jd {α β:Type}{R:α->β->Prop}:∀ {l:List α},(∀ e∈l,∃ k,R e k)->∃ ks,PySem.Paired R l ks
 | [],_=>⟨[],.nil⟩
 | e::l,h=>by
  obtain ⟨k,hk⟩:=h e qm
  obtain ⟨ks,hks⟩:=Jd (fun x hx=>h x (qi _ hx))
  exact ⟨k::ks,.cons hk hks⟩
section
variable {prog:Program}{w:World}{Pv:Value->Prop}{A:Around}{E:Value->Shared->Prop}{s:Shared}{a:Addr}{o:Obj}{es:Array (Int×Value)}{ep:Nat}{t:SetTable}{m:Nat}{kss:List (List Int)}
theorem YS.inj {h:Heap}{e:Int×Value}{k k':List Int}(h1:YS prog w h e k) (h2:YS prog w h e k'):k=k':=by
 obtain ⟨b,_,_,_,e1,_⟩:=id h1.1
 have t1:y3 h (.ref b) k:=e1 ▸ h1.1
 have t2:y3 h (.ref b) k':=e1 ▸ h2.1
 exact (t1.key (prog:=prog) (w:=w)).inj (t2.key (prog:=prog) (w:=w))
theorem Ze (ho:s.heap.get? a=some o) (hd:o.data = .set es ep t) (es':Array (Int×Value)) (t':SetTable):(s.heap.update a (Obj.putSet es' t')).get? a=some { o with data:=.set es' (ep+1) t' }:=by
 have:=yZ (Obj.putSet es' t') ho (by rw [putSet_of es' t' hd];rfl)
 rw [putSet_of es' t' hd] at this
 exact this
theorem qdu {m' n:Nat}{wanted:Nat}{Q:Unit->Shared->Prop}(ho:s.heap.get? a=some o) (ex:o.ExactSet) (hd:o.data = .set es ep t) (pl:t.plain=true) (le:t.led=!jk w) (hf:t.fits es.size=true) (en:PySem.Paired (YS prog w s.heap) es.toList kss) (nd:kss.Nodup) (ow:∀ e∈es.toList,Pv e.2)
  (hw:sizeAbove wanted=m'+1) (mo:jv m' es.size) (h:∀ h' kss',Heap.SameBut a s.heap h'->Z1 prog w Pv h' a kss'->(∀ k,k∈kss' ↔ k∈kss)->Q () { s with heap:=h' }):wpAny (model prog w) A (setRelay a wanted) Q E s:=by
 rw [qdv]
 refine qb (yM ho hd hf ?_)
 dsimp only
 have hle:=mo.le
 have m127:m'<=8191:=by unfold jv at mo;omega
 rw [if_neg (by rw [hw,sizeLine_eq];omega)]
 obtain ⟨t',order,e1,e2,e3,e4,e5,e6,e7⟩:=qgh (m:=m') (n:=es.size) (fi:=t.finger) (mv:=t.movedTo (sizeAbove wanted - 1)) (ld:=t.led) (pl:=t.plain) mo.full (es:=es) rfl (by omega)
 have er:t.relaid (es.map (·.1)) wanted=some (t',order):=by
  unfold SetTable.relaid
  rw [show sizeAbove wanted - 1=m' by omega] at e1 ⊢
  exact e1
 rw [er]
 dsimp only
 have e4':((order.filterMap (es[·]?)).size != es.size)=false:=by rw [e4];simp
 rw [e4']
 simp only [Bool.false_eq_true,if_false,pure_bind]
 generalize order.filterMap (es[·]?)=es2 at *
 refine wpAny_storeSet_of ho hd ?_ (by rw [e4,sizeLine_eq];omega)
 have sb:Heap.SameBut a s.heap (s.heap.update a (Obj.putSet es2 t')):=Heap.SameBut.update s.heap a _
 have old:∀ e∈es2.toList,∃ k,YS prog w s.heap e k/\k∈kss:=fun e he=>by
  obtain ⟨i,ei⟩:=qR ((e6 e).mp he)
  obtain ⟨k,k1,k2⟩:=L2.Paired.get en ei
  exact ⟨k,k2,List.mem_of_getElem? k1⟩
 obtain ⟨kss2,en2⟩:=Jd (R:=YS prog w s.heap) (l:=es2.toList) fun e he=>let ⟨k,k1,_⟩:=old e he;⟨k,k1⟩
 refine h _ kss2 sb ⟨_,es2,ep+1,t',m',Ze ho hd es2 t',⟨ex.1,ex.2.1,ex.2.2⟩,rfl,by rw [e3];exact pl,by rw [e2];exact le,by rw [e4];exact mo,by rw [e4];exact e5,Paired.mapP en2 fun e ks tt=>qcC ho ex.1 sb tt,?_,fun e he=>ow e ((e6 e).mp he)⟩ fun k=>⟨fun hk=>?_,fun hk=>?_⟩
 ·refine qF.mpr fun i i' hi hi' hlt z=>?_
  obtain ⟨x,x1,x2⟩:=L2.Paired.get' en2 (List.getElem?_eq_getElem hi)
  obtain ⟨x',x1',x2'⟩:=L2.Paired.get' en2 (List.getElem?_eq_getElem hi')
  rw [qh] at x1 x1'
  have:=e7 i i' x x' x1 x1' fun y y' ey ey'=>by
   obtain ⟨k,k1,k2⟩:=L2.Paired.get en (show es.toList[y]?=some x by rw [qh];exact ey)
   obtain ⟨k',k1',k2'⟩:=L2.Paired.get en (show es.toList[y']?=some x' by rw [qh];exact ey')
   have q1:=k2.inj x2
   have q2:=k2'.inj x2'
   rw [q1] at k1
   rw [q2,<- z] at k1'
   have hy:y<kss.length:=(qo.mp k1).1
   have hy':y'<kss.length:=(qo.mp k1').1
   have g1:=(qo.mp k1).2
   have g2:=(qo.mp k1').2
   exact (List.getElem_inj nd).mp (g1.trans g2.symm)
  omega
 ·obtain ⟨i,ei⟩:=qR hk
  obtain ⟨x,x1,x2⟩:=L2.Paired.get' en2 ei
  obtain ⟨k',k1,k2⟩:=old x (List.mem_of_getElem? x1)
  rw [x2.inj k1];exact k2
 ·obtain ⟨i,ei⟩:=qR hk
  obtain ⟨x,x1,x2⟩:=L2.Paired.get' en ei
  have hx:=(e6 x).mpr (List.mem_of_getElem? x1)
  obtain ⟨i2,ei2⟩:=qR hx
  obtain ⟨k2,q1,q2⟩:=L2.Paired.get en2 ei2
  rw [x2.inj q2]
  exact List.mem_of_getElem? q1
theorem qiT (S:Z1 prog w Pv s.heap a kss) {b:Addr}{ks:List Int}(tb:y3 s.heap (.ref b) ks) (pb:Pv (.ref b)) (hu:A.units<cLine) (hn:kss.length<4914) {Q:Bool->Shared->Prop}(hin:ks∈kss->Q false s)
  (hout:ks∉kss->∀ h' kss',Heap.SameBut a s.heap h'->Z1 prog w Pv h' a kss'->(∀ k,k∈kss' ↔ k=ks\/k∈kss)->Q true { s with heap:=h' }):wpAny (model prog w) A (setAddHashed a (.ref b) (yn prog w ks)) Q E s:=by
 obtain ⟨o,es,ep,t,m,D⟩:=S
 have T:=D.si.tab
 have hl:=D.len
 have hle:=D.mok.le
 obtain ⟨q,q1,q2⟩:=T.free (yp hle.1)
 obtain ⟨K,K1,K2⟩:=D.mok.full.walk (yn prog w ks) q1
 unfold setAddHashed
 refine yj ?_
 show wpAny (model prog w) A (setAddHashedIn a (.ref b) (yn prog w ks) (99999+1)) Q E s
 unfold setAddHashedIn
 refine qb (yM D.ho D.hd D.fits ?_)
 dsimp only
 rw [if_neg (by simp [byScan,Value.scannable])]
 refine qb ?_
 have m127:m<=8191:=by have:=D.mok;unfold jv at this;omega
 refine Y0 D tb hu (adding:=true) (fun i ei=>?_) (fun no j n1 n2 n3=>?_) (K:=K) (by rw [K2];exact q2) K1 100000 0 none (by show t.probeStart _=_;rw [qdi,T.mask]) (yc _) (by omega) fun l z=>absurd z (by omega)
 ·simp only [if_true]
  exact qd (hin (List.mem_of_getElem? ei))
 ·dsimp only
  refine qb (yM D.ho D.hd D.fits ?_)
  dsimp only
  have I1:=D.si.put (x:=(yn prog w ks,Value.ref b)) n1 n2 n3
  obtain ⟨T1,p2,p3⟩:=T.put n1 n2
  have hb:=(jG T.rise j).2.2
  have hb2:below t.place j<=es.size:=by rw [<- T.size];exact hb
  have pl1:(t.put j).1.plain=true:=D.pl
  have le1:(t.put j).1.led=!jk w:=D.ld
  rw [pl1]
  simp only [if_true]
  refine qb (qgn tb ?_)
  simp only [if_true]
  have sz1:(insertAt es (t.put j).2 (yn prog w ks,Value.ref b)).size=es.size+1:=by rw [p2,JN hb2]
  have en1:PySem.Paired (YS prog w s.heap) (insertAt es (t.put j).2 (yn prog w ks,Value.ref b)).toList (kss.take (below t.place j)++ks::kss.drop (below t.place j)):=by
   rw [p2,qat hb2]
   exact Yg _ D.en ⟨tb,rfl⟩
  have ow1:∀ e∈(insertAt es (t.put j).2 (yn prog w ks,Value.ref b)).toList,Pv e.2:=fun e he=>by
   rw [p2,qat hb2] at he
   rcases qb7.mp he with rfl | he
   ·exact pb
   ·exact D.own e he
  have nd1:=qb3 (p:=below t.place j) D.nd no
  have fits1:(t.put j).1.fits (es.size+1)=true:=by
   unfold SetTable.fits SetTable.fill
   rw [T1.dm,T1.size,T1.mask]
   simp
   omega
  generalize (t.put j).1=t1 at *
  generalize insertAt es (t.put j).2 (yn prog w ks,Value.ref b)=es1 at *
  generalize hk1:kss.take (below t.place j)++ks::kss.drop (below t.place j)=kss1 at *
  have mem1:∀ k,k∈kss1 ↔ k=ks\/k∈kss:=fun k=>by rw [<- hk1];exact qb7
  refine qb (wpAny_storeSet_of D.ho D.hd ?_ (by rw [sz1,sizeLine_eq];omega))
  have sb:Heap.SameBut a s.heap (s.heap.update a (Obj.putSet es1 t1)):=Heap.SameBut.update s.heap a _
  have g1:=Ze D.ho D.hd es1 t1
  have en2:PySem.Paired (YS prog w (s.heap.update a (Obj.putSet es1 t1))) es1.toList kss1:=Paired.mapP en1 fun e k tt=>qcC D.ho D.ex.1 sb tt
  generalize s.heap.update a (Obj.putSet es1 t1)=h1 at *
  have tf:t1.tooFull=decide ((es.size+1) * 5 ≥ m * 3):=by
   unfold SetTable.tooFull SetTable.fill
   rw [T1.dm,T1.size,T1.mask]
   rfl
  rw [tf]
  simp only [Bool.not_false,Bool.true_and,decide_eq_true_eq]
  by_cases c:(es.size+1) * 5 ≥ m * 3
  ·rw [if_pos c]
   have big:∃ m',sizeAbove (grown (es.size+1))=m'+1/\jv m' (es.size+1):=by
    rcases D.mok with ⟨rfl,hlt⟩ | ⟨rfl,hlt⟩ | ⟨rfl,hlt⟩ | ⟨rfl,hlt⟩ | ⟨rfl,hlt⟩ | ⟨rfl,hlt⟩
    ·have:es.size=4:=by omega
     rw [this]
     exact ⟨31,by decide,.inr (.inl ⟨rfl,by omega⟩)⟩
    ·have:es.size=18:=by omega
     rw [this]
     exact ⟨127,by decide,.inr (.inr (.inl ⟨rfl,by omega⟩))⟩
    ·have:es.size=76:=by omega
     rw [this]
     exact ⟨511,by decide +kernel,.inr (.inr (.inr (.inl ⟨rfl,by omega⟩)))⟩
    ·have:es.size=306:=by omega
     rw [this]
     exact ⟨2047,by decide +kernel,.inr (.inr (.inr (.inr (.inl ⟨rfl,by omega⟩))))⟩
    ·have:es.size=1228:=by omega
     rw [this]
     exact ⟨8191,by decide +kernel,.inr (.inr (.inr (.inr (.inr ⟨rfl,by omega⟩))))⟩
    ·omega
   obtain ⟨m',w1,w2⟩:=big
   refine qb (qdu (s:={ s with heap:=h1 }) (n:=0) g1 ⟨D.ex.1,D.ex.2.1,D.ex.2.2⟩ rfl pl1 le1 (by rw [sz1];exact fits1) en2 nd1 ow1 w1 (by rw [sz1];exact w2) fun h' kss' sb' S' mem'=>?_)
   exact qd (hout no h' kss' ⟨sb'.1.trans sb.1,fun b' ne=>(sb'.2 b' ne).trans (sb.2 b' ne)⟩ S' fun k=>(mem' k).trans (mem1 k))
  ·rw [if_neg c]
   refine qd (hout no h1 kss1 sb ⟨_,es1,ep+1,t1,m,g1,⟨D.ex.1,D.ex.2.1,D.ex.2.2⟩,rfl,pl1,le1,?_,by rw [sz1];exact I1,en2,nd1,ow1⟩ mem1)
   rw [sz1]
   rcases D.mok with ⟨rfl,hlt⟩ | ⟨rfl,hlt⟩ | ⟨rfl,hlt⟩ | ⟨rfl,hlt⟩ | ⟨rfl,hlt⟩ | ⟨rfl,hlt⟩
   ·exact .inl ⟨rfl,by omega⟩
   ·exact .inr (.inl ⟨rfl,by omega⟩)
   ·exact .inr (.inr (.inl ⟨rfl,by omega⟩))
   ·exact .inr (.inr (.inr (.inl ⟨rfl,by omega⟩)))
   ·exact .inr (.inr (.inr (.inr (.inl ⟨rfl,by omega⟩))))
   ·exact .inr (.inr (.inr (.inr (.inr ⟨rfl,by omega⟩))))
end
end L2
namespace L2
open PySem PySem.Spec PyProof.Rows PySem.W PySem.SetTable
theorem Jq {α β:Type}{R R':α->β->Prop}:∀ {xs:List α}{ys:List β},PySem.Paired R xs ys->(∀ x∈xs,∀ y,R x y->R' x y)->PySem.Paired R' xs ys
 | _,_,.nil,_=>.nil
 | _,_,.cons r t,h=>.cons (h _ qm _ r) (Jq t fun x hx=>h x (qi _ hx))
def In0 (h0:Heap) (Pv:Value->Prop):Prop:=∀ v,Pv v->∃ b o,v = .ref b/\h0.get? b=some o
theorem y3.move {h0 h h':Heap}{b:Addr}{o:Obj}{ks:List Int}(e:h0.get? b=some o) (k0:jw h0 h) (k1:jw h0 h') (t:y3 h (.ref b) ks):y3 h' (.ref b) ks:=by
 obtain ⟨b',o',xs,n,eb,ho,r⟩:=t
 cases eb
 have:=k0 _ _ e
 rw [this] at ho
 cases ho
 exact ⟨b,o,xs,n,rfl,k1 _ _ e,r⟩
theorem Z1.move {prog:Program}{w:World}{Pv:Value->Prop}{h0 h h':Heap}{a:Addr}{kss:List (List Int)}(S:Z1 prog w Pv h a kss) (hPv:In0 h0 Pv) (k0:jw h0 h) (k1:jw h0 h') (hs:∀ o,h.get? a=some o->h'.get? a=some o):Z1 prog w Pv h' a kss:=by
 obtain ⟨o,es,ep,t,m,D⟩:=S
 refine ⟨o,es,ep,t,m,hs _ D.ho,D.ex,D.hd,D.pl,D.ld,D.mok,D.si,Jq D.en fun e he ks ek=>?_,D.nd,D.own⟩
 obtain ⟨hh,v⟩:=e
 obtain ⟨b,o0,rfl,e0⟩:=hPv v (D.own _ he)
 exact ⟨y3.move e0 k0 k1 ek.1,ek.2⟩
section
variable {prog:Program}{w:World}{Pv:Value->Prop}{A:Around}{R:Result->Shared->Prop}{I:Addr}{fp wr:List Addr}{n:Nat}{P:Nat->Value->Prop}{St:Nat->Shared->Prop}
theorem qdl {h0:Heap}{key:Nat->List Int}(W:WalksS prog w A.in1 I fp wr (fun a b=>b=a) n P St) {S:Addr}(hSf:S∉fp) (hS0:h0.get? S=none) (hwr:∀ b∈wr,h0.get? b=none) (hPv:In0 h0 Pv)
  (hval:∀ i v,P i v->y3 h0 v (key i)/\Pv v) (hn:∀ ms:List (List Int),ms.Nodup->(∀ q∈ms,∃ j,j<n/\key j=q)->ms.length<4914) (hu:A.units+8<cLine) :
  ∀ (k i:Nat) (s:Shared) (kss:List (List Int)),n - i=k->i<=n->St i s->jw h0 s.heap->Z1 prog w Pv s.heap S kss->(∀ q,q∈kss ↔ ∃ j,j<i/\key j=q)->kss.length<=i →
   (∀ s' kss',Moved (S::wr) (fun a b=>b=a) s s'->jw h0 s'.heap->Z1 prog w Pv s'.heap S kss'->(∀ q,q∈kss' ↔ ∃ j,j<n/\key j=q)->kss'.length<=n->R (.ok (.ret .none)) s') →
   codeAny (model prog w) A (.builtin "set.update.loop" ⟨[.ref S,.ref I],[]⟩) R s:=by
 have hSw:S∉wr:=fun h=>hSf (W.sub _ h)
 have hsub:∀ b∈wr,b∈S::wr:=fun b hb=>qi _ hb
 have kp:∀ {s s':Shared},jw h0 s.heap->Moved wr (fun a b=>b=a) s s'->jw h0 s'.heap:=fun k0 hm b o e=>hm.heap b o (fun z=>by rw [hwr b z] at e;cases e) (k0 b o e)
 intro k
 induction k with
 | zero =>
  intro i s kss hk hi hst k0 hS hmem hlen hR
  have hin:i=n:=by omega
  subst hin
  refine codeAny_builtin F.entry_set_update_loop ?_
  rw [Around.under_plainId F.plain_set_update_loop _]
  refine qb (m:=pyNext (.ref I)) (W.done s _ _ hst fun s' hm=>?_)
  refine qd (hR s' kss (hm.mono hsub) (kp k0 hm) ?_ hmem hlen)
  exact hS.move hPv k0 (kp k0 hm) fun o e=>hm.heap S o hSw e
 | succ k ih =>
  intro i s kss hk hi hst k0 hS hmem hlen hR
  have hlt:i<n:=by omega
  refine codeAny_builtin F.entry_set_update_loop ?_
  rw [Around.under_plainId F.plain_set_update_loop _]
  refine qb (m:=pyNext (.ref I)) (W.item i s _ _ hlt hst fun v s' hP hst' hm=>?_)
  have k1:=kp k0 hm
  have hS':=hS.move hPv k0 k1 fun o e=>hm.heap S o hSw e
  obtain ⟨tv,pv⟩:=hval i v hP
  obtain ⟨b,o0,rfl,e0⟩:=hPv v pv
  have tb:y3 s'.heap (.ref b) (key i):=y3.move e0 (fun _ _ z=>z) k1 tv
  refine qb (m:=holding [Value.ref b] (setAdd S (.ref b))) (yj ?_)
  unfold setAdd
  refine yj ?_
  have hu1:A.in1.units<cLine:=by show A.units+_<_;omega
  refine qb (wpAny_pyHash_tuple hu1 (tb.key (prog:=prog) (w:=w)) ?_)
  refine qiT (s:={ s' with toks:=s'.toks+((key i).length+1) }) hS' tb pv hu1 (hn kss (let ⟨_,_,_,_,_,D⟩:=hS;D.nd) fun q hq=>let ⟨j,hj,e⟩:=(hmem q).mp hq;⟨j,Nat.lt_trans hj hlt,e⟩) (fun hin=>?_) fun hout h' kss' sb S2 mem2=>?_
  ·refine qd ⟨plainId_quiet F.plain_set_update_loop _,ih (i+1) _ kss (by omega) hlt (W.frame _ s' s'.heap _ hst' (by omega) fun b hb o e=>e) k1 hS' (fun q=>?_) (by omega) fun s'' kss'' hm'' k2 S'' mem'' len''=>?_⟩
   ·rw [hmem q]
    constructor
    ·rintro ⟨j,hj,e⟩;exact ⟨j,by omega,e⟩
    ·rintro ⟨j,hj,e⟩
     by_cases c:j<i
     ·exact ⟨j,c,e⟩
     ·have:j=i:=by omega
      subst this
      rw [e] at hin
      exact (hmem q).mp hin
   ·exact hR s'' kss'' (Moved.trans W.gtrans ((hm.mono hsub).then_heap (h':=s'.heap) (tk:=s'.toks+((key i).length+1)) (by omega) fun b o hb e=>e) hm'') k2 S'' mem'' len''
  ·have k1':jw h0 h':=fun b o e=>by
    rw [sb.2 b (fun z=>by rw [z,hS0] at e;cases e)]
    exact k1 b o e
   have hl':kss'.length<=i+1:=by
    obtain ⟨_,_,_,_,_,D1⟩:=hS'
    obtain ⟨_,_,_,_,_,D2⟩:=S2
    have:kss'.length<=(key i::kss).length:=List.Nodup.length_le_of_subset D2.nd fun q hq=>by
     rcases (mem2 q).mp hq with rfl | z
     ·exact qm
     ·exact qi _ z
    simp only [List.length_cons] at this
    omega
   refine qd ⟨plainId_quiet F.plain_set_update_loop _,ih (i+1) _ kss' (by omega) hlt (W.frame _ s' h' (s'.toks+((key i).length+1)) hst' (by omega) fun b hb o e=>?_) k1' S2 (fun q=>?_) hl' fun s'' kss'' hm'' k2 S'' mem'' len''=>?_⟩
   ·rw [sb.2 b (fun h:b=S=>hSf (by rw [<- h];exact hb))];exact e
   ·rw [mem2 q,hmem q]
    constructor
    ·rintro (rfl | ⟨j,hj,e⟩)
     ·exact ⟨i,by omega,rfl⟩
     ·exact ⟨j,by omega,e⟩
    ·rintro ⟨j,hj,e⟩
     by_cases c:j<i
     ·exact .inr ⟨j,c,e⟩
     ·have:j=i:=by omega
      subst this
      exact .inl e.symm
   ·refine hR s'' kss'' (Moved.trans W.gtrans ((hm.mono hsub).then_heap (h':=h') (tk:=s'.toks+((key i).length+1)) (by omega) fun b o hb e=>?_) hm'') k2 S'' mem'' len''
    rw [sb.2 b (fun h:b=S=>hb (by rw [h];exact qm))];exact e
end
end L2
namespace L2
open PySem PySem.Spec PyProof.Rows PySem.W PySem.SetTable
abbrev Yb (w:World):Obj:={ cls:=.type "set",dict:=none,data:=.set #[] 0 (.fresh 0 0 (!jk w)) }
theorem qbE:qfk #[]:=fun i j a b=>absurd b (by simp)
theorem qdO {prog:Program}{w:World}{Pv:Value->Prop}{h:Heap}{a:Addr}(e:h.get? a=some (Yb w)):Z1 prog w Pv h a [] :=
 ⟨_,#[],0,_,7,e,⟨rfl,rfl,rfl⟩,rfl,rfl,rfl,.inl ⟨rfl,by decide⟩,⟨⟨rfl,rfl,rfl,qbE,fun i j z=>by simp [SetTable.fresh] at z⟩,rfl,fun j e ⟨i,z,_⟩=>by simp [SetTable.fresh] at z⟩,.nil,List.nodup_nil,fun e z=>by simp at z⟩
section
variable {prog:Program}{w:World}{A:Around}{E:Value->Shared->Prop}{s:Shared}
theorem qdk (x:Value) {Q₁:Value->Shared->Prop}(q:Q₁ (.ref s.heap.objs.size) { s with heap:=s.heap.push (Yb w) }) :
  codeAny (model prog w) A (.call (.builtin "set.__new__") ⟨[.type "set",x],[]⟩) (wants Q₁ E) s:=by
 refine codeAny_of_tree ?_
 refine qb (m:=checkBuiltinCall "set.__new__" ⟨[.type "set",x],[]⟩) (wpAny_of_eq (F.newCall_set_1 x) (qd ⟨plainId_quiet F.plain_set_new _,codeAny_builtin F.entry_set_new ?_⟩))
 rw [Around.under_plainId F.plain_set_new _]
 unfold Builtin.«set.__new__» Builtin.Frozenset.newClass
 have hsub:=sub_set_self
 obtain ⟨hp,g,d,tk,os⟩:=s
 dsimp only
 wp_walk
 refine wpAny_askSetting (qd ?_)
 dsimp only
 simp only [newObj]
 refine qb (wpAny_alloc (qd (qd q)))
theorem qaN {l:Addr}{vs:List Value}{kss:List (List Int)}{Q:Value->Shared->Prop}(hh:A.handled=none) (hl:s.heap.IsList l vs.toArray) (hT:PySem.Paired (y3 s.heap) vs kss) (hn:∀ ms:List (List Int),ms.Nodup->(∀ q∈ms,q∈kss)->ms.length<4914) (hu:A.units+64<cLine)
  (h:∀ h' tk ms,Z1 prog w (·∈vs) h' s.heap.objs.size ms->(∀ q,q∈ms ↔ q∈kss)->jw s.heap h'->Q (.ref s.heap.objs.size) { s with heap:=h',toks:=tk }):wpAny (model prog w) A (call (.type "set") [.ref l]) Q E s:=by
 obtain ⟨c,tl,hmro⟩:=F.called_set.mro
 have made:=F.called_set.made
 have sub:=F.called_set.sub
 refine wpAny_call (codeAny_of_tree ?_)
 show wpAny (model prog w) _ (callAny (.type "set") _) _ _ s
 refine qd ⟨Code.quiet_builtin _ (by decide +kernel),codeAny_builtin F.entry_type_call ?_⟩
 rw [Around.under_plain (weight_type_call_type "set" [Value.ref l] []) rfl]
 have t1:=F.called_set.notType
 have t2:=F.called_set.canCreate
 have t3:=F.typeCall_set_1 (Value.ref l)
 repeat (any_goals first | assumption | wp_step)
 refine codeAny_mono (qdk (prog:=prog) (.ref l) (E:=E) (Q₁:=fun v s₁=>v = .ref s.heap.objs.size/\s₁={ s with heap:=s.heap.push (Yb w) }) ⟨rfl,rfl⟩) fun r s₁ hr=>?_
 cases r with
 | error e=>exact hr
 | ok fl =>
  cases fl with
  | next=>exact hr.elim
  | brk=>exact hr.elim
  | cont=>exact hr.elim
  | ret v =>
   obtain ⟨rfl,rfl⟩:=hr
   have hS:(s.heap.push (Yb w)).get? s.heap.objs.size=some (Yb w):=qt _ rfl
   have hTy:Shared.TypeIs { s with heap:=s.heap.push (Yb w) } (.ref s.heap.objs.size) "set" := ⟨_,hS,rfl⟩
   have i1:=F.called_set.init.lookup
   have i2:=F.called_set.init.bind (.ref s.heap.objs.size)
   repeat (any_goals first | assumption | wp_step)
   refine codeAny_mono (codeAny_call_builtin (R:=wants (fun r s₂=>r = .none/\∃ h' tk ms,s₂={ s with heap:=h',toks:=tk }/\Z1 prog w (·∈vs) h' s.heap.objs.size ms/\(∀ q,q∈ms ↔ q∈kss)/\jw s.heap h') E)
    F.called_set.init.plain F.entry_set_init (check_set_init_1 hTy ?_)) fun r₂ s₂ hr₂=>?_
   ·obtain ⟨ol,hol,hcl,nl,hdl⟩:=hl
    obtain ⟨ocls,odict,odata,oslots⟩:=ol
    simp only at hcl hdl
    subst hcl;subst hdl
    have hlt:l<s.heap.objs.size:=qf hol
    have hol1:(s.heap.push (Yb w)).get? l=some { cls:=.type "list",dict:=odict,data:=.seq vs.toArray nl,slots:=oslots }:=qc _ hol
    have s1:=F.sub_list_set
    have s2:=F.sub_list_frozenset
    have s3:(Value.type "list" == Value.type "dict")=false:=by decide
    have hl1:(s.heap.push (Yb w)).IsList l vs.toArray:=⟨_,hol1,rfl,nl,rfl⟩
    unfold Builtin.«set.__init__» noKeywords Builtin.Frozenset.updateFrom
    generalize hPI:pyIter=PI
    wp_walk
    subst hPI
    refine wpAny_pyIter_list hl1 (qb (wpAny_runValue ?_))
    have sz1:(s.heap.push (Yb w)).objs.size=s.heap.objs.size+1:=Heap.size_push ..
    have kp2:jw s.heap ((s.heap.push (Yb w)).push { cls:=.type "list_iterator",data:=.fields #[.ref l,.int 0 0] }):=fun b o e=>qc _ (qc _ e)
    have no:∀ b,s.heap.objs.size<=b->s.heap.get? b=none:=fun b hb=>by
     cases z:s.heap.get? b with
     | none=>rfl
     | some o=>exact absurd (qf z) (Nat.not_lt.mpr hb)
    have hin:In0 s.heap (·∈vs):=fun v hv=>by
     obtain ⟨i,ei⟩:=qR hv
     obtain ⟨ks,_,b,o,xs,n,e,ho,_⟩:=L2.Paired.get hT ei
     exact ⟨b,o,e,ho⟩
    refine qdl (A:=A.in1.in1) (key:=fun i=>kss.getD i []) (h0:=s.heap) (Pv:=(·∈vs)) (Walks.list (by simp [hh]) _ l (by rw [sz1];exact qq (Nat.lt_succ_of_lt hlt)) vs.toArray).toS (S:=s.heap.objs.size) ?_ (no _ (qk _)) (fun b hb=>?_) hin
     (fun i v hv=>?_) (fun ms nd hm=>hn ms nd fun q hq=>by
      obtain ⟨j,hj,e⟩:=hm q hq
      have hk:j<kss.length:=by
       rw [<- L2.Paired.len hT]
       simpa using hj
      rw [qw,List.getElem?_eq_getElem hk] at e
      rw [<- e]
      exact qE hk) (by show A.units+1+1+8<_;omega) (vs.toArray.size - 0) 0 _ [] rfl (yc _) ⟨⟨_,qt _ rfl,rfl,rfl⟩,hl1.push _⟩ kp2 (qdO (qc _ hS)) (fun q=>by simp) (yc _) fun s' ms hm k2 S2 mem2 _=>?_
    ·rw [sz1];simp only [List.mem_cons,List.not_mem_nil,or_false,not_or];exact ⟨qq (Nat.lt_succ_self _),Nat.ne_of_gt hlt⟩
    ·rw [qx.mp hb,sz1];exact no _ (Nat.le_succ _)
    ·have hv':vs[i]?=some v:=by simpa using hv
     have hi:i<vs.length:=(qo.mp hv').1
     have:=je hT i hi
     rw [qw,hv'] at this
     exact ⟨this,List.mem_of_getElem? hv'⟩
    ·obtain ⟨h',g',d',tk',os'⟩:=s'
     have e1:g'=s.gens:=hm.gens
     have e2:d'=s.drawn:=hm.drawn
     have e3:os'=s.os:=hm.os
     subst e1;subst e2;subst e3
     refine qd ?_
     refine qd ⟨rfl,h',tk',ms,rfl,S2,fun q=>?_,k2⟩
     rw [mem2 q,List.size_toArray,L2.Paired.len hT]
     constructor
     ·rintro ⟨j,hj,e⟩
      rw [qw,List.getElem?_eq_getElem hj] at e
      exact e ▸ qE hj
     ·intro hq
      obtain ⟨j,hj,e⟩:=List.getElem_of_mem hq
      exact ⟨j,hj,by rw [qw,List.getElem?_eq_getElem hj];exact e⟩
   ·cases r₂ with
    | error e=>exact hr₂
    | ok fl₂ =>
     cases fl₂ with
     | next=>exact hr₂.elim
     | brk=>exact hr₂.elim
     | cont=>exact hr₂.elim
     | ret r =>
      obtain ⟨rfl,h',tk,ms,rfl,q1,q2,q3⟩:=hr₂
      repeat (any_goals first | assumption | wp_step)
      exact h _ _ _ q1 q2 q3
theorem Yh {α:Type} [DecidableEq α]:∀ {ms kss:List α},ms.Nodup->(∀ q∈ms,q∈kss)->ms.length<=kss.length
 | [],_,_,_=>yc _
 | a::ms,kss,hn,h=>by
  have ha:=h a qm
  have h1:=Yh (ms:=ms) (kss:=kss.erase a) (List.nodup_cons.mp hn).2 (fun q hq=>by
   have hne:q≠a:=fun z=>(List.nodup_cons.mp hn).1 (z ▸ hq)
   exact (List.mem_erase_of_ne hne).mpr (h q (qi _ hq)))
  rw [List.length_erase_of_mem ha] at h1
  have:=List.length_pos_of_mem ha
  simp only [List.length_cons]
  omega
end
end L2
namespace L2
open PySem PySem.Spec PyProof.Rows PySem.W PySem.SetTable
theorem jn:Slot "set_iterator" "__next__" "set_iterator.__next__" :=
 .of (owner := "set_iterator") (n := "__next__") (by rw [typeLookup_type,builtinLookup_eq_fast];kernel_rfl) (by decide +kernel) (by decide +kernel) (by decide +kernel) (by first | exact .inl (by decide +kernel) | exact .inr (by decide +kernel)) (by rw [isSubtype_type];kernel_rfl)
theorem JB:Slot "set_iterator" "__iter__" "set_iterator.__iter__" :=
 .of (owner := "set_iterator") (n := "__iter__") (by rw [typeLookup_type,builtinLookup_eq_fast];kernel_rfl) (by decide +kernel) (by decide +kernel) (by decide +kernel) (by first | exact .inl (by decide +kernel) | exact .inr (by decide +kernel)) (by rw [isSubtype_type];kernel_rfl)
theorem YD:entryFor table "set_iterator.__next__" = some Builtin.«set_iterator.__next__»:=entryFor_of_fast (by kernel_rfl)
theorem YE:entryFor table "set_iterator.__iter__" = some Builtin.«dict_keyiterator.__iter__»:=entryFor_alias (id' := "dict_keyiterator.__iter__") (by kernel_rfl) rfl (by decide +kernel) (by kernel_rfl)
theorem Zw (a:Value):argsOk "set_iterator.__next__" ⟨[a],[]⟩:=by unfold argsOk;kernel_rfl
theorem Zx (a:Value):argsOk "set_iterator.__iter__" ⟨[a],[]⟩:=by unfold argsOk;kernel_rfl
theorem Zi:entryFor table "set.__iter__" = some Builtin.«frozenset.__iter__»:=entryFor_alias (id' := "frozenset.__iter__") (by kernel_rfl) rfl (by decide +kernel) (by kernel_rfl)
theorem qaV {α:Type}{l:List α}{i:Nat}(h:i<l.length):(l[i]::l.eraseIdx i).Perm l:=by
 rw [List.eraseIdx_eq_take_drop_succ]
 have e:l=l.take i++l[i]::l.drop (i+1):=by rw [<- List.drop_eq_getElem_cons h,qv]
 exact List.perm_middle.symm.trans (List.Perm.of_eq e.symm)
theorem qbU {α:Type}(next:Nat->Nat):∀ (fu k:Nat) (left:List α) (out:Array α),left.length=fu->(pickOrder.go next fu k left out).toList.Perm (out.toList++left)
 | 0,k,left,out,h=>by
  cases List.length_eq_zero_iff.mp h
  simp [pickOrder.go]
 | fu+1,k,left,out,h=>by
  unfold pickOrder.go
  have hlt:next k % left.length<left.length:=yN _ (by omega)
  simp only [List.getElem?_eq_getElem hlt]
  have ih:=qbU next fu (k+1) (left.eraseIdx (next k % left.length)) (out.push left[next k % left.length]) (by rw [List.length_eraseIdx_of_lt hlt];omega)
  refine ih.trans ?_
  rw [Array.toList_push,ql]
  exact List.Perm.append_left _ (qaV hlt)
def Yy (w:World) (S:Addr) (ep:Nat) (es:Array (Int×Value)):Array (Int×Value):=if jk w=true then pickOrder (w.params.setOrder S ep) es else es
theorem JX (w:World) (S:Addr) (ep:Nat) (es:Array (Int×Value)):(Yy w S ep es).toList.Perm es.toList:=by
 unfold Yy
 split
 ·have:=qbU (w.params.setOrder S ep) es.size 0 es.toList #[] (by simp)
  have this:(pickOrder.go (w.params.setOrder S ep) es.size 0 es.toList #[]).toList.Perm es.toList:=by simpa using this
  exact this
 ·exact List.Perm.refl _
theorem jL (w:World) (S:Addr) (ep:Nat) (es:Array (Int×Value)):(Yy w S ep es).size=es.size:=by
 have:=(JX w S ep es).length_eq
 simpa using this
theorem ZK {α β:Type}{R:α->β->Prop}{xs xs':List α}(p:xs.Perm xs'):∀ {ys:List β},PySem.Paired R xs ys->∃ ys',PySem.Paired R xs' ys'/\ys.Perm ys':=by
 induction p with
 | nil=>intro ys h;exact ⟨ys,h,List.Perm.refl _⟩
 | cons x _ ih =>
  intro ys h
  cases h with
  | cons r t =>
   obtain ⟨zs,h1,h2⟩:=ih t
   exact ⟨_,.cons r h1,h2.cons _⟩
 | swap x y l =>
  intro ys h
  cases h with
  | cons r t =>
   cases t with
   | cons r' t'=>exact ⟨_,.cons r' (.cons r t'),List.Perm.swap ..⟩
 | trans _ _ ih1 ih2 =>
  intro ys h
  obtain ⟨y1,a1,b1⟩:=ih1 h
  obtain ⟨y2,a2,b2⟩:=ih2 a1
  exact ⟨y2,a2,b1.trans b2⟩
section
variable {prog:Program}{w:World}{Pv:Value->Prop}{A:Around}{E:Value->Shared->Prop}{s:Shared}{a:Addr}{o:Obj}{es:Array (Int×Value)}{ep:Nat}{t:SetTable}{m:Nat}{kss:List (List Int)}
structure SetB (w:World) (h:Heap) (a:Addr) (o:Obj) (es:Array (Int×Value)) (ep:Nat) (t:SetTable) (m:Nat):Prop where
 ho:h.get? a=some o
 ex:o.ExactSet
 hd:o.data = .set es ep t
 fits:t.fits es.size=true
 pl:t.plain=true
 ld:t.led=!jk w
 tab:Tab t m es.size
theorem SetD.toB (D:SetD prog w Pv s.heap a o es ep t m kss):SetB w s.heap a o es ep t m:=⟨D.ho,D.ex,D.hd,D.fits,D.pl,D.ld,D.si.tab⟩
theorem SetB.at {h h':Heap}(B:SetB w h a o es ep t m) (k:h.get? a=some o->h'.get? a=some o):SetB w h' a o es ep t m:=⟨k B.ho,B.ex,B.hd,B.fits,B.pl,B.ld,B.tab⟩
theorem qfp (D:SetB w s.heap a o es ep t m) {Q:Array (Int×Value)->Shared->Prop}(q:Q (Yy w a ep es) s):wpAny (model prog w) A (setWalk a) Q E s:=by
 unfold setWalk setsByText
 refine qb (yM D.ho D.hd D.fits ?_)
 dsimp only
 refine qb (qb (wpAny_askSetting (qd ?_)))
 show wpAny _ _ (if jk w=true then _ else _) _ _ _
 cases hb:jk w with
 | true =>
  rw [if_pos rfl]
  refine qb (wpAny_askSetting (qd ?_))
  unfold Yy at q
  rw [if_pos hb] at q
  exact q
 | false =>
  unfold Yy at q
  rw [if_neg (by rw [hb];decide)] at q
  have hled:t.led=true:=by rw [D.ld,hb];rfl
  rw [if_neg (by decide)]
  show wpAny _ _ (if (!t.plain && decide (es.size > 1))=true then _ else _) _ _ _
  rw [if_neg (by rw [D.pl];simp)]
  refine qb (show wpAny _ _ (if (!t.led && decide (es.size > 1))=true then _ else _) _ _ _ from ?_)
  rw [if_neg (by rw [hled];simp)]
  exact qd (qd q)
theorem qge (D:SetB w s.heap a o es ep t m) {slot i:Nat}(hb:jk w=false->below t.place slot=i) {Q:Option (Value×Nat)->Shared->Prop}
  (q:∀ nx,(jk w=false->i<es.size->below t.place nx=i+1)->Q (((Yy w a ep es)[i]?).map fun e=>(e.2,nx)) s):wpAny (model prog w) A (setNext a slot i ep) Q E s:=by
 unfold setNext setsByText
 refine qb (yM D.ho D.hd D.fits ?_)
 dsimp only
 refine qb (qb (wpAny_askSetting (qd ?_)))
 show wpAny _ _ (if jk w=true then _ else _) _ _ _
 cases hb':jk w with
 | true =>
  rw [if_pos rfl,if_neg (by simp)]
  refine qb (qfp D (qd (q slot fun z=>?_)))
  rw [hb'] at z;cases z
 | false =>
  have hled:t.led=true:=by rw [D.ld,hb'];rfl
  rw [if_neg (by decide)]
  show wpAny _ _ (if (!t.plain && decide (es.size > 1))=true then _ else _) _ _ _
  rw [if_neg (by rw [D.pl];simp)]
  refine qb (show wpAny _ _ (if (!t.led && !es.isEmpty)=true then _ else _) _ _ _ from ?_)
  rw [if_neg (by rw [hled];simp)]
  refine qd ?_
  rw [hb hb']
  have T:=D.tab
  have eo:Yy w a ep es=es:=by unfold Yy;rw [if_neg (by rw [hb'];decide)]
  rw [eo] at q
  refine qd ?_
  by_cases hi:i<es.size
  ·have hp:t.place[i]?=some (t.place.getD i 0):=getD_some (by rw [T.size];exact hi)
   have he:es[i]?=some es[i]:=by simp [hi]
   have nx:=q (t.place.getD i 0+1) fun _ _=>by
    obtain ⟨b1,b2,b3⟩:=jG T.rise (t.place.getD i 0+1)
    rw [T.size] at b2 b3
    rcases Nat.lt_trichotomy (below t.place (t.place.getD i 0+1)) (i+1) with z | z | z
    ·have:=b2 i (by omega) hi
     omega
    ·exact z
    ·have c:=b1 (i+1) z
     have d:=T.rise i (i+1) (by omega) (by rw [T.size];omega)
     omega
   rw [he] at nx
   rw [hp,he]
   exact nx
  ·have he:es[i]?=none:=by simp;omega
   have nx:=q 0 fun _ z=>absurd z hi
   rw [he] at nx
   rw [he]
   exact nx
end
def SIt (h:Heap) (I S:Addr) (slot i n ep:Nat):Prop:=∃ o,h.get? I=some o/\o.cls = .type "set_iterator" /\ o.data = .fields #[.int slot 0,.int i 0,.ref S,.int n 0,.int ep 0]
theorem SIt.typeIs {s:Shared}{I S:Addr}{slot i n ep:Nat}(h:SIt s.heap I S slot i n ep):s.TypeIs (.ref I) "set_iterator" := let ⟨o,ho,hc,_⟩:=h;⟨o,ho,hc⟩
section
variable {prog:Program}{w:World}{Pv:Value->Prop}{A:Around}{E:Value->Shared->Prop}{s:Shared}{S I:Addr}{o:Obj}{es:Array (Int×Value)}{ep:Nat}{t:SetTable}{m:Nat}{kss:List (List Int)}
structure StS (w:World) (h:Heap) (I S:Addr) (o:Obj) (es:Array (Int×Value)) (ep:Nat) (t:SetTable) (m i:Nat):Prop where
 it:∃ slot,SIt h I S slot i es.size ep/\(jk w=false->i<=es.size->below t.place slot=i)
 st:SetB w h S o es ep t m
theorem qck {i:Nat}(hI:I≠S) (st:StS w s.heap I S o es ep t m i) (hi:i<=es.size) {Q:Option Value->Shared->Prop}
  (hit:∀ e h',(Yy w S ep es)[i]?=some e->StS w h' I S o es ep t m (i+1)->(∀ b ob,b≠I->s.heap.get? b=some ob->h'.get? b=some ob)->Q (some e.2) { s with heap:=h' })
  (hend:i=es.size->A.handled=none/\∀ h',(∀ b ob,b≠I->s.heap.get? b=some ob->h'.get? b=some ob)->Q none { s with heap:=h' }):wpAny (model prog w) A (pyNext (.ref I)) Q E s:=by
 obtain ⟨⟨slot,hs,hb⟩,B⟩:=st
 obtain ⟨oi,hoi,hci,hdi⟩:=id hs
 unfold pyNext
 refine qb (wpAny_attempt (wpAny_callSpecial?_slot (name:=Str.ofString "__next__") hs.typeIs jn (wpAny_call_entry jn hs.typeIs YD ?_ (Zw _))))
 unfold Builtin.«set_iterator.__next__»
 refine qb (m:=slotArgs "__next__" 0 ⟨[.ref I],[]⟩) (qd ?_)
 dsimp only
 refine qb (wpAny_fieldsOf hoi hdi ?_)
 dsimp only
 refine qb (wpAny_setEntries_of B.ho B.hd B.fits ?_)
 rw [if_neg (by simp)]
 refine qb ?_
 simp only [Int.toNat_natCast]
 refine qge B (fun z=>hb z hi) fun nx hnx=>?_
 by_cases hlt:i<es.size
 ·have hlt':i<(Yy w S ep es).size:=by rw [jL];exact hlt
  have eq:(Yy w S ep es)[i]?=some (Yy w S ep es)[i]:=by simp [hlt']
  rw [eq]
  dsimp only [Option.map_some]
  refine qb (wpAny_setField hoi hdi (by simp) ?_)
  have h1:=yZ (Obj.mapFields (·.setIfInBounds 0 (rawInt nx))) hoi (Obj.isFreed_of_fields (Obj.data_mapFields hdi _))
  have d1:=Obj.data_mapFields hdi (·.setIfInBounds 0 (rawInt (nx:Int)))
  refine qb (wpAny_setField h1 d1 (by simp) (qd ⟨_,rfl,qd ?_⟩))
  have h2:=yZ (Obj.mapFields (·.setIfInBounds 1 (rawInt ((i:Int)+1)))) h1 (Obj.isFreed_of_fields (Obj.data_mapFields d1 _))
  have kp:∀ b ob,b≠I->s.heap.get? b=some ob->((s.heap.update I (Obj.mapFields (·.setIfInBounds 0 (rawInt nx)))).update I (Obj.mapFields (·.setIfInBounds 1 (rawInt ((i:Int)+1))))).get? b=some ob:=fun b ob hb e =>
   (yz _ _ (Ne.symm hb)).trans ((yz _ _ (Ne.symm hb)).trans e)
  refine hit _ _ eq ⟨⟨nx,⟨_,h2,?_,?_⟩,fun z _=>hnx z hlt⟩,B.at (kp S _ (Ne.symm hI))⟩ kp
  ·rw [Obj.cls_mapFields,Obj.cls_mapFields];exact hci
  ·rw [Obj.data_mapFields d1];simp [rawInt]
 ·have he:i=es.size:=by omega
  obtain ⟨hh,hq⟩:=hend he
  have eq:(Yy w S ep es)[i]?=none:=by simp [jL];omega
  rw [eq]
  dsimp only [Option.map_none]
  refine qb (wpAny_setField hoi hdi (by simp) ?_)
  refine qb ?_
  simp only [newExc,newTuple]
  refine qb (wpAny_newObj_type ?_ (by size_fits))
  refine qb (m:=firstArgMember _ _) (wpAny_of_eq (a:=Value.none) (by first | rfl | (simp only [firstArgMember];rfl)) ?_)
  refine wpAny_newObj_type ?_ (by size_fits)
  simp only [raiseNew]
  refine qb (wpAny_handled ?_)
  rw [show A.in1.handled=none from hh]
  refine qb (qd (wpAny_throw ?_))
  refine qb (wpAny_isInstance (T := "StopIteration") (b:=true) ⟨_,qt _ rfl,rfl⟩ isSubtype_stop ?_)
  refine qd (hq _ fun b ob hb e=>?_)
  exact qc _ (qc _ ((yz _ _ (Ne.symm hb)).trans e))
theorem qbf (hh:A.handled=none) (hI:I≠S):Walks prog w A I [I,S] [I] es.size (fun i v=>((Yy w S ep es)[i]?).map (·.2)=some v) (fun i h=>StS w h I S o es ep t m i) where
 sub:=fun b hb=>by simp at hb;simp [hb]
 frame:=fun i h h' st hk=>by
  obtain ⟨⟨slot,⟨oi,e1,e2⟩,hb⟩,B⟩:=st
  exact ⟨⟨slot,⟨oi,hk I (by simp) _ e1,e2⟩,hb⟩,B.at (hk S (by simp) _)⟩
 item:=fun i s Q E hi st hQ=>qck hI st (by omega) (fun e h' eo st' kp=>hQ e.2 h' s.toks (by rw [eo];rfl) st' fun b ob hb=>kp b ob fun z=>hb (by simp [z])) fun z=>absurd z (by omega)
 done:=fun s Q E st hQ=>qck hI st (qk _) (fun e h' eo _ _=>by
  have:(Yy w S ep es)[es.size]?=none:=by simp [jL]
  rw [this] at eo;cases eo) fun _=>⟨hh,fun h' kp=>hQ h' s.toks fun b ob hb=>kp b ob fun z=>hb (by simp [z])⟩
 self:=fun i s Q E st hQ=>by
  obtain ⟨⟨slot,hs,hb⟩,B⟩:=st
  refine wpAny_pyIter_slot hs.typeIs JB (wpAny_call_entry JB hs.typeIs YE ?_ (Zx _))
  show wpAny _ _ (ret (.ref I)) _ _ s
  exact qd ⟨_,rfl, "set_iterator",_,hs.typeIs,jn.lookup,hQ⟩
theorem qdR (B:SetB w s.heap S o es ep t m) {Q:Value->Shared->Prop}(q:∀ h',jw s.heap h'->StS w h' s.heap.objs.size S o es ep t m 0->h'.objs.size=s.heap.objs.size+1->Q (.ref s.heap.objs.size) { s with heap:=h' }):wpAny (model prog w) A (pyIter (.ref S)) Q E s:=by
 have hT:s.TypeIs (.ref S) "set" := ⟨o,B.ho,B.ex.1⟩
 refine wpAny_pyIter_slot hT F.slot_set_iter (wpAny_call_entry F.slot_set_iter hT Zi ?_ (F.args_set_iter_1 _))
 unfold Builtin.«frozenset.__iter__» Builtin.Frozenset.slot0
 refine qb (qb (m:=slotArgs "__iter__" 0 ⟨[.ref S],[]⟩) (qd (qd ?_)))
 unfold Builtin.Frozenset.sizeOf setDrawn setsByText setEpoch
 refine qb (qb (wpAny_setEntries_of B.ho B.hd B.fits (qd ?_)))
 refine qb (qb (yM B.ho B.hd B.fits ?_))
 dsimp only
 refine qb (qb (wpAny_askSetting (qd (qd ?_))))
 rw [if_neg (by show ¬ ((!jk w && (!t.plain && decide (es.size > 1)))=true);rw [B.pl];simp)]
 refine qb (qd ?_)
 refine qb (qb (yM B.ho B.hd B.fits (qd ?_)))
 refine qb (wpAny_newObj_type (qd ⟨_,rfl, "set_iterator",_,⟨_,qt _ rfl,rfl⟩,jn.lookup,q _ (fun b ob e=>qc _ e) ⟨⟨0,⟨_,qt _ rfl,rfl,rfl⟩,fun _ _=>?_⟩,B.at (qc _)⟩ (Heap.size_push ..)⟩))
 obtain ⟨b1,b2,b3⟩:=jG B.tab.rise 0
 rcases Nat.eq_zero_or_pos (below t.place 0) with z | z
 ·exact z
 ·exact absurd (b1 0 z) (by omega)
theorem ZX (hh:A.handled=none) (B:SetB w s.heap S o es ep t m) (hz:es.size<4915) {Q:List Value->Shared->Prop}(hQ:∀ h' tk,jw s.heap h'->Q ((Yy w S ep es).toList.map (·.2)) { s with heap:=h',toks:=tk }):wpAny (model prog w) A (collect (.ref S)) Q E s:=by
 have hlt:S<s.heap.objs.size:=qf B.ho
 unfold collect
 refine qb (wpAny_runValue (codeAny_builtin F.entry_proto_collect ?_))
 rw [Around.under_plainId F.plain_proto_collect _]
 refine qb (m:=newList []) (wpAny_newObj_type ?_)
 refine qd ⟨plainId_quiet F.plain_list_iadd _,codeAny_builtin F.entry_list_iadd ?_⟩
 rw [Around.under_plainId F.plain_list_iadd _]
 have B1:SetB w (s.heap.push { cls:=.type "list",data:=.seq ([]:List Value).toArray }) S o es ep t m:=B.at (qc _)
 have hL:(s.heap.push { cls:=.type "list",data:=.seq ([]:List Value).toArray }).get? s.heap.objs.size=some { cls:=.type "list",data:=.seq ([]:List Value).toArray }:=qt _ rfl
 have kp1:jw s.heap (s.heap.push { cls:=.type "list",data:=.seq ([]:List Value).toArray }):=fun b ob e=>qc _ e
 have sz1:(s.heap.push { cls:=.type "list",data:=.seq ([]:List Value).toArray }).objs.size=s.heap.objs.size+1:=Heap.size_push ..
 show wpAny (model prog w) A.in1 (Builtin.List.listExtendWith (.ref s.heap.objs.size) (.ref S) (.ref s.heap.objs.size)) _ _ { s with heap:=s.heap.push { cls:=.type "list",data:=.seq ([]:List Value).toArray } }
 generalize s.heap.push { cls:=.type "list",data:=.seq ([]:List Value).toArray }=h1 at *
 have hT:Shared.TypeIs { s with heap:=h1 } (.ref S) "set" := ⟨o,B1.ho,B1.ex.1⟩
 have ne:Builtin.List.listSameRef (.ref s.heap.objs.size) (.ref S)=false:=by simp only [Builtin.List.listSameRef];exact beq_false_of_ne (Nat.ne_of_gt hlt)
 unfold Builtin.List.listExtendWith
 refine qb (wpAny_typeOf hT ?_)
 rw [if_neg (by rw [ne];decide)]
 refine qb (qdR (s:={ s with heap:=h1 }) B1 fun h2 kp2 st2 sz2=>?_)
 have hT2:Shared.TypeIs { s with heap:=h2 } (.ref S) "set" := ⟨o,st2.st.ho,B1.ex.1⟩
 have hL2:=kp2 _ _ hL
 refine qb (yj ?_)
 unfold Builtin.List.listLengthHint
 refine qb (wpAny_specialOf hT2 F.slot_set_len.lookup ?_)
 generalize hid:("set.__len__" : String)=id0
 wp_delta
 rw [show splitId id0=some ("set", "__len__") from by subst hid;decide +kernel]
 subst hid
 refine qb (wpAny_isInstance (b:=true) hT2 sub_set_self ?_)
 refine qb (m:=typeOf (.ref S)) (wpAny_typeOf hT2 (qd ?_))
 show wpAny (model prog w) A.in1 (rule "list.extend.makes-room" >>= fun _=>Builtin.List.listTouch (.ref s.heap.objs.size) >>= fun _=>again (.builtin "list.extend.loop" ⟨[.ref s.heap.objs.size,.ref h1.objs.size,.ref s.heap.objs.size],[]⟩)) _ _ _
 refine qb (wpAny_rule (qb ?_))
 show wpAny (model prog w) A.in1 (updateSeq s.heap.objs.size (·.push .none) >>= fun _=>updateSeq s.heap.objs.size (·.pop)) _ _ _
 refine qb (wpAny_updateSeq hL2 rfl ?_)
 have hL3:=yZ (Obj.mapSeq (·.push Value.none)) hL2 rfl
 refine wpAny_updateSeq hL3 rfl ?_
 have hL4:=yZ (Obj.mapSeq (·.pop)) hL3 rfl
 have oth:∀ b ob,b≠s.heap.objs.size->h2.get? b=some ob->((h2.update s.heap.objs.size (Obj.mapSeq (·.push Value.none))).update s.heap.objs.size (Obj.mapSeq (·.pop))).get? b=some ob :=
  fun b ob hb e=>(yz _ _ (Ne.symm hb)).trans ((yz _ _ (Ne.symm hb)).trans e)
 have hI:h1.objs.size≠S:=fun z=>by
  have:=qf B1.ho
  rw [<- z] at this
  exact yJ _ this
 have hIL:h1.objs.size≠s.heap.objs.size:=by rw [sz1];exact Nat.ne_of_gt (Nat.lt_succ_self _)
 have W:WalksS prog w A.in1 h1.objs.size [h1.objs.size,S] [h1.objs.size] (fun a b=>b=a) es.size (fun i v=>((Yy w S ep es)[i]?).map (·.2)=some v) (fun i s=>StS w s.heap h1.objs.size S o es ep t m i):=(qbf (A:=A.in1) hh hI).toS
 refine qd ⟨plainId_quiet F.plain_extend_loop _,codeAny_extend_loopS W (by rw [sizeLine_eq];omega) s.heap.objs.size (fun hm=>?_) _ es.size 0 _ _ _ rfl (yc _) ?_ hL4 (ItemsOf.nil _) fun s' acc' c' hm hS' hacc=>?_⟩
 ·rcases List.mem_cons.mp hm with z | z
  ·exact hIL z.symm
  ·exact Nat.ne_of_gt hlt (qx.mp z)
 ·obtain ⟨⟨slot,⟨oi,e1,e2⟩,hb⟩,B2⟩:=st2
  exact ⟨⟨slot,⟨oi,oth _ _ hIL e1,e2⟩,hb⟩,B2.at (oth _ _ (qq hlt))⟩
 ·refine qb (m:=load s.heap.objs.size) (wpAny_load hS' ?_)
  have kp:jw s.heap s'.heap:=fun b ob e=>by
   have hb:b<s.heap.objs.size:=qf e
   refine hm.heap b ob (fun z=>?_) (oth b ob (qq hb) (kp2 _ _ (kp1 _ _ e)))
   rcases List.mem_cons.mp z with z | z
   ·exact qq hb z
   ·rw [qx.mp z,sz1] at hb
    exact absurd hb (Nat.not_lt.mpr (Nat.le_succ _))
  have ea:acc'.toList=(Yy w S ep es).toList.map (·.2):=by
   apply List.ext_getElem?
   intro i
   rw [List.getElem?_map,qh,qh]
   cases z:acc'[i]? with
   | some v=>exact (hacc.2 i v z).symm
   | none =>
    have:acc'.size<=i:=by simpa using z
    rw [hacc.1,<- jL w S ep es] at this
    rw [qX this]
    rfl
  have fin:=hQ s'.heap s'.toks kp
  rw [<- ea] at fin
  obtain ⟨h',g',d',tk',os'⟩:=s'
  have e1:g'=s.gens:=hm.gens
  have e2:d'=s.drawn:=hm.drawn
  have e3:os'=s.os:=hm.os
  subst e1;subst e2;subst e3
  exact qd fin
end
end L2
namespace L2
open PySem PySem.Spec PyProof.Rows PySem.W PySem.SetTable
section
variable {prog:Program}{w:World}{Pv Pv':Value->Prop}{A:Around}{E:Value->Shared->Prop}{s:Shared}{S1 S2:Addr}{k1 k2:List (List Int)}
end
open PySem PySem.Spec PyProof.Rows
mutual
theorem Is.same {K:W.Frag}{H H':Hp}(s:qZ H H'):∀ {v:V}{d:PyData},Is K H v d->Is K H' v d
 | _,_,.non=>.non
 | _,_,.bl b=>.bl b
 | _,_,.int i=>.int i
 | _,_,.str x=>.str x
 | _,_,.lst h hs=>.lst (qZ.seq s h) (IsAll.same s hs)
 | _,_,.tup h hs=>.tup (by
   rcases h with (e | ⟨o,e⟩) | e
   ·exact .inl (.inl (s _ _ e))
   ·exact .inl (.inr ⟨o,s _ _ e⟩)
   ·exact .inr e) (IsAll.same s hs)
 | _,_,.dc h=>.dc (s _ _ h)
theorem IsAll.same {K:W.Frag}{H H':Hp}(s:qZ H H'):∀ {vs:List V}{ds:List PyData},IsAll K H vs ds->IsAll K H' vs ds
 | _,_,.nil=>.nil
 | _,_,.cons h hs=>.cons (Is.same s h) (IsAll.same s hs)
end
theorem IsAll.len {K:W.Frag}{H:Hp}:∀ {vs:List V}{ds:List PyData},IsAll K H vs ds->vs.length=ds.length
 | _,_,.nil=>rfl
 | _,_,.cons _ hs=>by simp [IsAll.len hs]
theorem IsAll.get {K:W.Frag}{H:Hp}:∀ {vs:List V}{ds:List PyData}{i:Nat}{v:V},IsAll K H vs ds->vs[i]?=some v->∃ d,ds[i]?=some d/\Is K H v d
 | _,_,_,_,.nil,e=>by simp at e
 | _,_,0,_,.cons h _,e=>by simp at e;subst e;exact ⟨_,rfl,h⟩
 | _,_,i+1,v,.cons _ t,e=>by
  obtain ⟨u,h1,h2⟩:=IsAll.get (i:=i) (v:=v) t (by simpa using e)
  exact ⟨u,by simpa using h1,h2⟩
theorem IsAll.get' {K:W.Frag}{H:Hp}:∀ {vs:List V}{ds:List PyData}{i:Nat}{d:PyData},IsAll K H vs ds->ds[i]?=some d->∃ v,vs[i]?=some v/\Is K H v d
 | _,_,_,_,.nil,e=>by simp at e
 | _,_,0,_,.cons h _,e=>by simp at e;subst e;exact ⟨_,rfl,h⟩
 | _,_,i+1,v,.cons _ t,e=>by
  obtain ⟨u,h1,h2⟩:=IsAll.get' (i:=i) (d:=v) t (by simpa using e)
  exact ⟨u,by simpa using h1,h2⟩
theorem IsAll.snoc {K:W.Frag}{H:Hp}{v:V}{d:PyData}(h:Is K H v d):∀ {vs:List V}{ds:List PyData},IsAll K H vs ds->IsAll K H (vs++[v]) (ds++[d])
 | _,_,.nil=>.cons h .nil
 | _,_,.cons a b=>.cons a (IsAll.snoc h b)
theorem IsAll.app {K:W.Frag}{H:Hp}{us:List V}{es:List PyData}(h:IsAll K H us es):∀ {vs:List V}{ds:List PyData},IsAll K H vs ds->IsAll K H (vs++us) (ds++es)
 | _,_,.nil=>h
 | _,_,.cons a b=>.cons a (IsAll.app h b)
theorem IsAll.drop {K:W.Frag}{H:Hp}:∀ {vs:List V}{ds:List PyData}(n:Nat),IsAll K H vs ds->IsAll K H (vs.drop n) (ds.drop n)
 | _,_,0,h=>h
 | _,_,_+1,.nil=>.nil
 | _,_,n+1,.cons _ t=>IsAll.drop n t
theorem IsAll.take {K:W.Frag}{H:Hp}:∀ {vs:List V}{ds:List PyData}(n:Nat),IsAll K H vs ds->IsAll K H (vs.take n) (ds.take n)
 | _,_,0,h=>.nil
 | _,_,_+1,.nil=>.nil
 | _,_,n+1,.cons h t=>.cons h (IsAll.take n t)
theorem IsAll.rev {K:W.Frag}{H:Hp}:∀ {vs:List V}{ds:List PyData},IsAll K H vs ds->IsAll K H vs.reverse ds.reverse
 | _,_,.nil=>.nil
 | _,_,.cons h t=>by simpa using IsAll.snoc h (IsAll.rev t)
theorem IsAll.ints_of {K:W.Frag}{H:Hp}:∀ {vs:List V}{ns:List Int},IsAll K H vs (ns.map PyData.int)->vs=ns.map V.int
 | _,[],.nil=>rfl
 | _,_::_,.cons h t=>by cases h;rw [IsAll.ints_of t];rfl
theorem IsAll.bools_of {K:W.Frag}{H:Hp}:∀ {vs:List V}{ns:List Bool},IsAll K H vs (ns.map PyData.bool)->vs=ns.map V.bl
 | _,[],.nil=>rfl
 | _,_::_,.cons h t=>by cases h;rw [IsAll.bools_of t];rfl
structure Stb where
 R:V->Hp->Prop
 st:∀ v H H',qZ H H'->R v H->R v H'
inductive En where
 | d (x:PyData)
 | m (a:Addr)
 | x (r:Stb)
 | ty (n:String)
structure MSt where
 R:Hp->HO->Prop
 st:∀ H H' u,qZ H H'->R H u->R H' u
 nt:∀ H u xs,R H u->u≠.tup xs
 ml:∀ H H' a xs u,H a=some (.lst xs)->(∀ b o,H b=some o->b≠a->H' b=some o)->R H u->R H' u
inductive MO where
 | any (r:MSt)
 | pot (M:Int)
 | lst (ds:List PyData)
 | refs (as:List Addr)
 | dct (ks:List (List Int))
abbrev Mu:=List (Addr×MO)
def mask (μ:Mu) (H:Hp):Hp:=fun a=>if a∈μ.map Prod.fst then none else H a
theorem qao {H:Hp}:mask [] H=H:=by funext a;simp [mask]
theorem yF {μ:Mu}{H:Hp}:qZ (mask μ H) H:=fun b o e=>by
 unfold mask at e
 split at e
 ·cases e
 ·exact e
theorem Jf {μ:Mu}{H:Hp}{b:Addr}{o:HO}(e:mask μ H b=some o):b∉μ.map Prod.fst/\H b=some o:=by
 unfold mask at e
 split at e
 ·cases e
 ·exact ⟨by assumption,e⟩
theorem yC {μ:Mu}{H:Hp}{b:Addr}(h:b∉μ.map Prod.fst):mask μ H b=H b:=by unfold mask;rw [if_neg h]
theorem qdP {μ μ':Mu}{H:Hp}(h:∀ a,a∈μ'.map Prod.fst->a∈μ.map Prod.fst):qZ (mask μ H) (mask μ' H):=fun b o e=>by
 obtain ⟨h1,h2⟩:=Jf e
 rw [yC (fun z=>h1 (h _ z))];exact h2
def IsE (K:W.Frag) (μ:Mu) (H:Hp) (v:V):En->Prop
 | .d x=>Is K (mask μ H) v x
 | .m a=>v = .ref a
 | .x r=>r.R v (mask μ H)
 | .ty n=>v = .ty n
theorem IsE.same {K:W.Frag}{μ μ':Mu}{H H':Hp}{v:V}{e:En}(s:qZ (mask μ H) (mask μ' H')) (h:IsE K μ H v e):IsE K μ' H' v e:=by
 cases e with
 | d x=>exact Is.same s h
 | m a=>exact h
 | x r=>exact r.st _ _ _ s h
 | ty n=>exact h
def qfl (K:W.Frag) (μ:Mu) (H:Hp) (a:Addr):MO->Prop
 | .any r=>∃ u,H a=some u/\r.R (mask μ H) u
 | .pot M=>Pot M H a
 | .lst ds=>∃ xs,H a=some (.lst xs)/\IsAll K (mask μ H) xs ds
 | .refs as=>H a=some (.lst (as.map V.ref))
 | .dct ks=>H a=some (.dT (ks.map fun ns=>(ns.map Sum.inl,V.bl true)))
theorem qfl.some {K:W.Frag}{μ:Mu}{H:Hp}{a:Addr}{o:MO}(h:qfl K μ H a o):∃ u,H a=some u:=by
 cases o with
 | any r=>obtain ⟨u,e,_⟩:=h;exact ⟨_,e⟩
 | pot M=>obtain ⟨p0,p1,e,_⟩:=h;exact ⟨_,e⟩
 | lst ds=>obtain ⟨xs,e,_⟩:=h;exact ⟨_,e⟩
 | refs as=>exact ⟨_,h⟩
 | dct kvs=>exact ⟨_,h⟩
structure RelM (K:W.Frag) (μ:Mu) (H:Hp):Prop where
 nd:(μ.map Prod.fst).Nodup
 ob:∀ a o,(a,o)∈μ->qfl K μ H a o
theorem RelM.nil {K:W.Frag}{H:Hp}:RelM K [] H:=⟨by simp,fun _ _ h=>nomatch h⟩
theorem qfl.same {K:W.Frag}{μ μ':Mu}{H H':Hp}{a:Addr}{o:MO}(s:qZ (mask μ H) (mask μ' H')) (e:H' a=H a) (h:qfl K μ H a o):qfl K μ' H' a o:=by
 cases o with
 | any r=>obtain ⟨u,q,z⟩:=h;exact ⟨u,e.trans q,r.st _ _ _ s z⟩
 | pot M=>obtain ⟨p0,p1,q,r⟩:=h;exact ⟨p0,p1,e.trans q,r⟩
 | lst ds=>obtain ⟨xs,q,r⟩:=h;exact ⟨xs,e.trans q,IsAll.same s r⟩
 | refs as=>exact e.trans h
 | dct kvs=>exact e.trans h
theorem RelM.same {K:W.Frag}{μ:Mu}{H H':Hp}(h:RelM K μ H) (s:qZ H H'):RelM K μ H'/\qZ (mask μ H) (mask μ H'):=by
 have ss:qZ (mask μ H) (mask μ H'):=fun b o e=>by
  obtain ⟨h1,h2⟩:=Jf e
  rw [yC h1];exact s _ _ h2
 refine ⟨⟨h.nd,fun a o ho=>?_⟩,ss⟩
 have:=h.ob a o ho
 obtain ⟨xs,e⟩:=this.some
 exact this.same ss ((s _ _ e).trans e.symm)
theorem RelM.laid {K:W.Frag}{μ:Mu}{H:Hp}{p:Addr}{o:HO}(h:RelM K μ H) (e:H p=none):RelM K μ (upd H p o)/\qZ (mask μ H) (mask μ (upd H p o))/\p∉μ.map Prod.fst:=by
 obtain ⟨h1,h2⟩:=h.same (qZ.upd (o:=o) e)
 refine ⟨h1,h2,fun z=>?_⟩
 obtain ⟨⟨a,q⟩,hq,rfl⟩:=qI.mp z
 obtain ⟨xs,e'⟩:=(h.ob a q hq).some
 rw [e'] at e;cases e
theorem qb6 {μ:Mu}{a:Addr}{o:MO}(h:(a,o)∈μ):a∈μ.map Prod.fst:=qI.mpr ⟨_,h,rfl⟩
theorem RelM.write {K:W.Frag}{μ1 μ2:Mu}{H H':Hp}{a:Addr}{o o':MO}(h:RelM K (μ1++(a,o)::μ2) H) (k:∀ b u,H b=some u->b≠a->H' b=some u)
  (new:qZ (mask (μ1++(a,o)::μ2) H) (mask (μ1++(a,o')::μ2) H')->qfl K (μ1++(a,o')::μ2) H' a o') :
  RelM K (μ1++(a,o')::μ2) H'/\qZ (mask (μ1++(a,o)::μ2) H) (mask (μ1++(a,o')::μ2) H'):=by
 have ks:(μ1++(a,o')::μ2).map Prod.fst=(μ1++(a,o)::μ2).map Prod.fst:=by simp
 have ss:qZ (mask (μ1++(a,o)::μ2) H) (mask (μ1++(a,o')::μ2) H'):=fun b u e=>by
  obtain ⟨h1,h2⟩:=Jf e
  rw [yC (by rw [ks];exact h1)]
  exact k b u h2 fun z=>h1 (by rw [z];simp)
 refine ⟨⟨by rw [ks];exact h.nd,fun b q hq=>?_⟩,ss⟩
 have nd:=h.nd
 simp only [List.map_append,List.map_cons,List.nodup_append,List.nodup_cons] at nd
 have hcase:(b,q)=(a,o')\/((b,q)∈μ1++(a,o)::μ2/\b≠a):=by
  rcases List.mem_append.mp hq with z | z
  ·exact .inr ⟨yv _ z,fun e=>nd.2.2 b (qb6 z) a (by simp) e⟩
  ·rcases List.mem_cons.mp z with z | z
   ·exact .inl z
   ·exact .inr ⟨qy _ (qi _ z),fun e=>nd.2.1.1 (e ▸ qb6 z)⟩
 rcases hcase with z | ⟨z,hne⟩
 ·cases z;exact new ss
 ·have:=h.ob b q z
  obtain ⟨xs,e⟩:=this.some
  exact this.same ss ((k b _ e hne).trans e.symm)
theorem RelM.drop {K:W.Frag}{μ1 μ2:Mu}{H:Hp}{a:Addr}{o:MO}(h:RelM K (μ1++(a,o)::μ2) H):RelM K (μ1++μ2) H/\qZ (mask (μ1++(a,o)::μ2) H) (mask (μ1++μ2) H)/\a∉(μ1++μ2).map Prod.fst:=by
 have nd:=h.nd
 have ss:qZ (mask (μ1++(a,o)::μ2) H) (mask (μ1++μ2) H):=qdP fun b hb=>by
  simp only [List.map_append,List.map_cons,List.mem_append,List.mem_cons] at *
  rcases hb with z | z
  ·exact .inl z
  ·exact .inr (.inr z)
 simp only [List.map_append,List.map_cons,List.nodup_append,List.nodup_cons] at nd
 refine ⟨⟨?_,fun b q hq=>?_⟩,ss,?_⟩
 ·simp only [List.map_append,List.nodup_append]
  exact ⟨nd.1,nd.2.1.2,fun x hx y hy=>nd.2.2 x hx y (qi _ hy)⟩
 ·have:(b,q)∈μ1++(a,o)::μ2:=by
   rcases List.mem_append.mp hq with z | z
   ·exact yv _ z
   ·exact qy _ (qi _ z)
  exact (h.ob b q this).same ss rfl
 ·simp only [List.map_append,List.mem_append,not_or]
  exact ⟨fun z=>nd.2.2 a z a (by simp) rfl,nd.2.1.1⟩
theorem RelM.new {K:W.Frag}{μ:Mu}{H:Hp}{p:Addr}{u:HO}{o:MO}(h:RelM K μ H) (e:H p=none) (new:qZ (mask μ H) (mask ((p,o)::μ) (upd H p u))->qfl K ((p,o)::μ) (upd H p u) p o) :
  RelM K ((p,o)::μ) (upd H p u)/\qZ (mask μ H) (mask ((p,o)::μ) (upd H p u)):=by
 obtain ⟨h1,h2,h3⟩:=h.laid (o:=u) e
 have ss:qZ (mask μ H) (mask ((p,o)::μ) (upd H p u)):=fun b q z=>by
  obtain ⟨z1,z2⟩:=Jf z
  have hb:b≠p:=qS z2 e
  rw [yC (by simp only [List.map_cons,List.mem_cons,not_or];exact ⟨hb,z1⟩),qV hb];exact z2
 refine ⟨⟨by simp only [List.map_cons,List.nodup_cons];exact ⟨h3,h.nd⟩,fun b q hq=>?_⟩,ss⟩
 rcases List.mem_cons.mp hq with z | z
 ·cases z;exact new ss
 ·have:=h.ob b q z
  obtain ⟨xs,e'⟩:=this.some
  exact this.same ss (qV (qS e' e))
abbrev Rho:=List (Option En)
structure RelS (K:W.Frag) (ρ:Rho) (μ:Mu) (σ:St) (H:Hp):Prop where
 len:ρ.length=σ.length
 get:∀ (i:Nat) (e:En),ρ[i]?=some (some e)->∃ v,σ[i]?=some (some v)/\IsE K μ H v e
theorem RelS.same {K:W.Frag}{ρ:Rho}{μ μ':Mu}{σ:St}{H H':Hp}(h:RelS K ρ μ σ H) (s:qZ (mask μ H) (mask μ' H')):RelS K ρ μ' σ H' :=
 ⟨h.len,fun i e q=>let ⟨v,e1,e2⟩:=h.get i e q;⟨v,e1,e2.same s⟩⟩
theorem RelS.set {K:W.Frag}{ρ:Rho}{μ:Mu}{σ:St}{H:Hp}{i:Nat}{v:V}{e:En}(h:RelS K ρ μ σ H) (r:IsE K μ H v e):RelS K (ρ.set i (some e)) μ (σ.set i (some v)) H:=by
 refine ⟨by simp [h.len],fun j x q=>?_⟩
 by_cases hj:i=j
 ·subst hj
  have hi:i<ρ.length:=by
   have:=(qo.mp q).1
   simpa using this
  rw [List.getElem?_set_self (by rw [<- h.len];exact hi)]
  rw [List.getElem?_set_self hi] at q
  cases q
  exact ⟨v,rfl,r⟩
 ·rw [List.getElem?_set_ne hj] at *
  exact h.get j x q
def Wk (ρ:Rho) (μ:Mu) (ρ':Rho) (μ':Mu):Prop:=∀ (K:W.Frag) (σ:St) (H:Hp),RelS K ρ μ σ H->RelM K μ H->RelS K ρ' μ' σ H/\RelM K μ' H/\qZ (mask μ H) (mask μ' H)
theorem Wk.refl {ρ:Rho}{μ:Mu}:Wk ρ μ ρ μ:=fun _ _ _ h1 h2=>⟨h1,h2,qZ.refl _⟩
theorem Wk.trans {ρ ρ1 ρ2:Rho}{μ μ1 μ2:Mu}(h:Wk ρ μ ρ1 μ1) (h':Wk ρ1 μ1 ρ2 μ2):Wk ρ μ ρ2 μ2:=fun K σ H a b=>by
 obtain ⟨a1,b1,s1⟩:=h K σ H a b
 obtain ⟨a2,b2,s2⟩:=h' K σ H a1 b1
 exact ⟨a2,b2,s1.trans s2⟩
def Lt (ρ' ρ:Rho):Prop:=ρ'.length=ρ.length/\∀ (i:Nat) (e:En),ρ'[i]?=some (some e)->ρ[i]?=some (some e)
theorem Wk.names {ρ ρ':Rho}{μ:Mu}(h:Lt ρ' ρ):Wk ρ μ ρ' μ:=fun _ _ _ h1 h2=>⟨⟨h.1.trans h1.len,fun i e q=>h1.get i e (h.2 i e q)⟩,h2,qZ.refl _⟩
theorem Wk.drop {ρ:Rho}{μ1 μ2:Mu}{a:Addr}{o:MO}:Wk ρ (μ1++(a,o)::μ2) ρ (μ1++μ2):=fun _ _ _ h1 h2=>by
 obtain ⟨x,y,_⟩:=h2.drop
 exact ⟨h1.same y,x,y⟩
theorem Wk.drop1 {ρ:Rho}{μ2:Mu}{a:Addr}{o:MO}:Wk ρ ((a,o)::μ2) ρ μ2:=Wk.drop (μ1:=[])
theorem Lt.nil:Lt [] []:=⟨rfl,fun i e h=>h⟩
theorem Lt.keep {ρ' ρ:Rho}{e:Option En}(h:Lt ρ' ρ):Lt (e::ρ') (e::ρ):=⟨by simp [h.1],fun i x q=>by
 cases i with
 | zero=>simpa using q
 | succ i=>simp at q;simpa using h.2 i x q⟩
theorem Lt.refl (ρ:Rho):Lt ρ ρ:=⟨rfl,fun i e h=>h⟩
abbrev TEd:=Rho->Mu->(En->Mu->Prop)->Prop
abbrev TTd:=Rho->Mu->(Bool->Mu->Prop)->Prop
abbrev TAd:=Rho->Mu->(List En->Mu->Prop)->Prop
structure EndsD where
 nx:Rho->Mu->Prop
 rt:En->Mu->Prop
 bk:Rho->Mu->Prop:=fun _ _=>False
 ct:Rho->Mu->Prop:=fun _ _=>False
abbrev TSd:=EndsD->Rho->Mu->Prop
def Cl (K:W.Frag) (μ:Mu) (H:Hp) (Q0:En->Mu->Prop) (Q:VK):Prop:=∀ e μ' v H',Q0 e μ'->RelM K μ' H'->qZ (mask μ H) (mask μ' H')->IsE K μ' H' v e->Q v H'
def ClT (K:W.Frag) (μ:Mu) (H:Hp) (Q0:Bool->Mu->Prop) (Q:Bool->Hp->Prop):Prop:=∀ b μ' H',Q0 b μ'->RelM K μ' H'->qZ (mask μ H) (mask μ' H')->Q b H'
def ClA (K:W.Frag) (μ:Mu) (H:Hp) (Q0:List En->Mu->Prop) (Q:List V->Hp->Prop):Prop:=∀ es μ' vs H',Q0 es μ'->RelM K μ' H'->qZ (mask μ H) (mask μ' H')->Paired (IsE K μ' H') vs es->Q vs H'
def ClR (K:W.Frag) (μ:Mu) (H:Hp) (Q0:Rho->Mu->Prop) (Q:St->Hp->Prop):Prop:=∀ ρ' μ' σ' H',Q0 ρ' μ'->RelS K ρ' μ' σ' H'->RelM K μ' H'->qZ (mask μ H) (mask μ' H')->Q σ' H'
structure ClS (K:W.Frag) (μ:Mu) (H:Hp) (D0:EndsD) (D:Ends):Prop where
 nx:ClR K μ H D0.nx D.nx
 rt:Cl K μ H D0.rt D.rt
 bk:ClR K μ H D0.bk D.bk
 ct:ClR K μ H D0.ct D.ct
theorem Cl.same {K:W.Frag}{μ μ1:Mu}{H H1:Hp}{Q0:En->Mu->Prop}{Q:VK}(h:Cl K μ H Q0 Q) (s:qZ (mask μ H) (mask μ1 H1)):Cl K μ1 H1 Q0 Q:=fun e μ' v H' a b c d=>h e μ' v H' a b (s.trans c) d
theorem ClT.same {K:W.Frag}{μ μ1:Mu}{H H1:Hp}{Q0:Bool->Mu->Prop}{Q:Bool->Hp->Prop}(h:ClT K μ H Q0 Q) (s:qZ (mask μ H) (mask μ1 H1)):ClT K μ1 H1 Q0 Q:=fun e μ' H' a b c=>h e μ' H' a b (s.trans c)
theorem ClR.same {K:W.Frag}{μ μ1:Mu}{H H1:Hp}{Q0:Rho->Mu->Prop}{Q:St->Hp->Prop}(h:ClR K μ H Q0 Q) (s:qZ (mask μ H) (mask μ1 H1)):ClR K μ1 H1 Q0 Q:=fun e μ' v H' a b c d=>h e μ' v H' a b c (s.trans d)
theorem ClS.same {K:W.Frag}{μ μ1:Mu}{H H1:Hp}{D0:EndsD}{D:Ends}(h:ClS K μ H D0 D) (s:qZ (mask μ H) (mask μ1 H1)):ClS K μ1 H1 D0 D:=⟨h.nx.same s,h.rt.same s,h.bk.same s,h.ct.same s⟩
def up (K:W.Frag) (t:TEd):TE:=fun σ H Q=>∃ ρ μ Q0,RelS K ρ μ σ H/\RelM K μ H/\t ρ μ Q0/\Cl K μ H Q0 Q
def upT (K:W.Frag) (t:TTd):TT:=fun σ H Q=>∃ ρ μ Q0,RelS K ρ μ σ H/\RelM K μ H/\t ρ μ Q0/\ClT K μ H Q0 Q
def upA (K:W.Frag) (t:TAd):TA:=fun σ H Q=>∃ ρ μ Q0,RelS K ρ μ σ H/\RelM K μ H/\t ρ μ Q0/\ClA K μ H Q0 Q
def upS (K:W.Frag) (t:TSd):TS:=fun D σ H=>∃ ρ μ D0,RelS K ρ μ σ H/\RelM K μ H/\t D0 ρ μ/\ClS K μ H D0 D
def DE (K:W.Frag) (X:Cx) (e:Expr) (t:TEd):Prop:=PE X e (up K t)
def DT (K:W.Frag) (X:Cx) (e:Expr) (t:TTd):Prop:=PT X e (upT K t)
def DW (K:W.Frag) (X:Cx) (e:Expr) (t:TTd):Prop:=PW X e (upT K t)
def DA (K:W.Frag) (X:Cx) (es:List Expr) (t:TAd):Prop:=PA X es (upA K t)
def DS (K:W.Frag) (X:Cx) (st:Stmt) (t:TSd):Prop:=PS X st (upS K t)
def DSs (K:W.Frag) (X:Cx) (st:List Stmt) (t:TSd):Prop:=PSs X st (upS K t)
section
variable {X:Cx}{K:W.Frag}
theorem PE.mono {e:Expr}{t t':TE}(h:PE X e t) (f:∀ σ H Q,t' σ H Q->t σ H Q):PE X e t':=fun pins s σ H Q I q=>h pins s σ H Q I (f _ _ _ q)
theorem PT.mono {e:Expr}{t t':TT}(h:PT X e t) (f:∀ σ H Q,t' σ H Q->t σ H Q):PT X e t':=fun pins s σ H Q I q=>h pins s σ H Q I (f _ _ _ q)
theorem PW.mono {e:Expr}{t t':TT}(h:PW X e t) (f:∀ σ H Q,t' σ H Q->t σ H Q):PW X e t':=fun wh pins s σ H Q I q=>h wh pins s σ H Q I (f _ _ _ q)
theorem PA.mono {e:List Expr}{t t':TA}(h:PA X e t) (f:∀ σ H Q,t' σ H Q->t σ H Q):PA X e t':=fun p pins s σ H Q I q=>h p pins s σ H Q I (f _ _ _ q)
theorem PS.mono {e:Stmt}{t t':TS}(h:PS X e t) (f:∀ D σ H,t' D σ H->t D σ H):PS X e t':=fun pins s σ H D I q=>h pins s σ H D I (f _ _ _ q)
theorem PSs.mono {e:List Stmt}{t t':TS}(h:PSs X e t) (f:∀ D σ H,t' D σ H->t D σ H):PSs X e t':=fun pins s σ H D I q=>h pins s σ H D I (f _ _ _ q)
theorem OpR.mono {f:Value->Value->Sem Value}{r r':R2}(h:OpR X f r) (g:∀ x y H Q,r' x y H Q->r x y H Q):OpR X f r':=fun pins s σ H x y v u Q I a b c=>h pins s σ H x y v u Q I a b (g _ _ _ _ c)
theorem UnR.mono {f:Value->Sem Value}{r r':V->Hp->VK->Prop}(h:UnR X f r) (g:∀ x H Q,r' x H Q->r x H Q):UnR X f r':=fun pins s σ H x v Q I a c=>h pins s σ H x v Q I a (g _ _ _ c)
theorem yA.mono {f:Value}{r r':List V->Hp->VK->Prop}(h:yA X f r) (g:∀ x H Q,r' x H Q->r x H Q):yA X f r':=fun pins s σ H x v Q I a c=>h pins s σ H x v Q I a (g _ _ _ c)
theorem IxR.mono {r r':R2}(h:IxR X r) (g:∀ x y H Q,r' x y H Q->r x y H Q):IxR X r':=fun a b pins s σ H x y v u Q I p q c=>h a b pins s σ H x y v u Q I p q (g _ _ _ _ c)
theorem MtM.mono {id:String}{r r':V->List V->Hp->VK->Prop}(h:MtM X id r) (g:∀ x y H Q,r' x y H Q->r x y H Q):MtM X id r':=fun pins s σ H x xs v us Q I a b c=>h pins s σ H x xs v us Q I a b (g _ _ _ _ c)
theorem MtR.mono {id:String}{r r':V->List V->Hp->VK->Prop}(h:MtR X id r) (g:∀ x y H Q,r' x y H Q->r x y H Q):MtR X id r':=fun pins s σ H x xs v us Q I a b c=>h pins s σ H x xs v us Q I a b (g _ _ _ _ c)
def dVar (i:Nat):TEd:=fun ρ μ Q=>match ρ[i]? with
 | some (some e)=>Q e μ
 | _=>False
def dC (x:PyData):TEd:=fun _ μ Q=>Q (.d x) μ
theorem dv (i:Nat) {x:Str}{pos:Pos}(hN:X.N[i]?=some x:=by rfl) (hv:Vis X.env.scope x:=by first | exact Or.inl rfl | exact Or.inr (Or.inl rfl) | exact Or.inr (Or.inr rfl)) (hd:(x == ("__debug__" : Str))=false:=by decide)
  (hcd:(x == ("__classdict__" : Str))=false:=by decide):DE K X (.Name x pos) (dVar i):=by
 refine PE.mono (qeT hN hv hd hcd) fun σ H Q hq9=>?_
 obtain ⟨ρ,μ,Q0,hS,hM,h,cl⟩:=hq9
 unfold dVar at h
 split at h
 ·rename_i e he
  obtain ⟨v,e1,e2⟩:=hS.get i e he
  exact ⟨v,e1,cl e μ v H h hM (qZ.refl _) e2⟩
 ·exact h.elim
theorem qr {i:Int}{j pos}:DE K X (.Constant (.int i) j pos) (dC (.int i)):=PE.mono jd fun σ H Q ⟨ρ,μ,Q0,hS,hM,h,cl⟩=>cl _ μ (.int i) H h hM (qZ.refl _) (.int i)
theorem d_bl {b:Bool}{j pos}:DE K X (.Constant (.bool b) j pos) (dC (.bool b)):=PE.mono pe_bl fun σ H Q ⟨ρ,μ,Q0,hS,hM,h,cl⟩=>cl _ μ (.bl b) H h hM (qZ.refl _) (.bl b)
theorem up2 {σ:St}{H:Hp}{ta tb:TEd}{R:V->V->Hp->Prop}{ρ:Rho}{μ:Mu}{R0:En->En->Mu->Prop}(hS:RelS K ρ μ σ H) (hM:RelM K μ H) (h:ta ρ μ fun x μ1=>tb ρ μ1 fun y μ2=>R0 x y μ2)
  (f:∀ x y μ2 v u H2,R0 x y μ2->RelM K μ2 H2->qZ (mask μ H) (mask μ2 H2)->IsE K μ2 H2 v x->IsE K μ2 H2 u y->R v u H2):up K ta σ H fun v H1=>up K tb σ H1 fun u H2=>R v u H2:=by
 refine ⟨ρ,μ,_,hS,hM,h,fun x μ1 v H1 q1 M1 s1 i1=>⟨ρ,μ1,_,hS.same s1,M1,q1,fun y μ2 u H2 q2 M2 s2 i2=>?_⟩⟩
 exact f x y μ2 v u H2 q2 M2 (s1.trans s2) (i1.same s2) i2
abbrev R2d:=En->En->Mu->(En->Mu->Prop)->Prop
abbrev R1d:=En->Mu->(En->Mu->Prop)->Prop
abbrev RAd:=List En->Mu->(En->Mu->Prop)->Prop
def upR (K:W.Frag) (r:R2d):R2:=fun x y H Q=>∃ μ e e' Q0,RelM K μ H/\IsE K μ H x e/\IsE K μ H y e'/\r e e' μ Q0/\Cl K μ H Q0 Q
def upU (K:W.Frag) (r:R1d):V->Hp->VK->Prop:=fun x H Q=>∃ μ e Q0,RelM K μ H/\IsE K μ H x e/\r e μ Q0/\Cl K μ H Q0 Q
def upC (K:W.Frag) (r:RAd):List V->Hp->VK->Prop:=fun xs H Q=>∃ μ es Q0,RelM K μ H/\Paired (IsE K μ H) xs es/\r es μ Q0/\Cl K μ H Q0 Q
variable {a b c:Expr}{ta tb tc:TEd}{pos:Pos}
def dOp (r:R2d) (ta tb:TEd):TEd:=fun ρ μ Q=>ta ρ μ fun x μ1=>tb ρ μ1 fun y μ2=>r x y μ2 Q
def dUn (r:R1d) (ta:TEd):TEd:=fun ρ μ Q=>ta ρ μ fun x μ1=>r x μ1 Q
theorem qfs {r:R2d}{σ:St}{H:Hp}{Q:VK}(h:up K (dOp r ta tb) σ H Q):tOp (upR K r) (up K ta) (up K tb) σ H Q:=by
 obtain ⟨ρ,μ,Q0,hS,hM,h,cl⟩:=h
 exact up2 hS hM h fun x y μ2 v u H2 q M2 s2 i1 i2=>⟨μ2,x,y,Q0,M2,i1,i2,q,cl.same s2⟩
theorem qQ {op:Operator}{r:R2d}(ho:OpR X (binaryOp op) (upR K r)) (ha:DE K X a ta) (hb:DE K X b tb):DE K X (.BinOp a op b pos) (dOp r ta tb):=PE.mono (Ya ho ha hb) fun _ _ _=>qfs
theorem qd8 {op:CmpOp}{r:R2d}(ho:OpR X (compareOp op) (upR K r)) (ha:DE K X a ta) (hb:DE K X b tb) (hm:behindInMarks op b=false):DE K X (.Compare a [op] [b] pos) (dOp r ta tb):=PE.mono (qfY ho ha hb hm) fun _ _ _=>qfs
def qgC (t:TEd):TTd:=fun ρ μ Q=>t ρ μ fun e μ1=>match e with
 | .d (.bool k)=>Q k μ1
 | _=>False
theorem qfr {t:TEd}{σ:St}{H:Hp}{Q:Bool->Hp->Prop}(h:upT K (qgC t) σ H Q):up K t σ H fun x H1=>∃ k,x = .bl k/\Q k H1:=by
 obtain ⟨ρ,μ,Q0,hS,hM,h,cl⟩:=h
 refine ⟨ρ,μ,_,hS,hM,h,fun e μ1 v H1 q M1 s1 i1=>?_⟩
 split at q
 ·cases i1
  exact ⟨_,rfl,cl _ μ1 H1 q M1 s1⟩
 ·exact q.elim
theorem yT {op:CmpOp}{r:R2d}(ho:OpR X (compareOp op) (upR K r)) (ha:DE K X a ta) (hb:DE K X b tb) (hm:behindInMarks op b=false):DT K X (.Compare a [op] [b] pos) (qgC (dOp r ta tb)):=by
 refine PT.mono (qbK ho ha hb hm) fun σ H Q h=>?_
 obtain ⟨ρ,μ,Q0,hS,hM,h,cl⟩:=h
 refine up2 hS hM h fun x y μ2 v u H2 q M2 s2 i1 i2=>⟨μ2,x,y,_,M2,i1,i2,q,fun e μ3 w H3 q3 M3 s3 i3=>?_⟩
 split at q3
 ·cases i3
  exact ⟨_,rfl,cl _ μ3 H3 q3 M3 (s2.trans s3)⟩
 ·exact q3.elim
theorem qcE {t:TEd}(h:DE K X a t) (he:∀ whole,isTrue a X.env whole=(do let v <- whole;standAt a.pos;holding [v] (truthy v)):=by intro _;rfl):DT K X a (qgC t):=PT.mono (qhr h he) fun _ _ _=>qfr
theorem qaz {op:UnaryOp}{r:R1d}(ho:UnR X (unaryOp op) (upU K r)) (ha:DE K X a ta):DE K X (.UnaryOp op a pos) (dUn r ta):=by
 refine PE.mono (pe_un ho ha) fun σ H Q hq9=>?_
 obtain ⟨ρ,μ,Q0,hS,hM,h,cl⟩:=hq9
 exact ⟨ρ,μ,_,hS,hM,h,fun e μ1 v H1 q M1 s1 i1=>⟨μ1,e,Q0,M1,i1,q,cl.same s1⟩⟩
def rdI (C:Int->Int->Prop) (g:Int->Int->PyData):R2d:=fun x y μ Q=>match x,y with
 | .d (.int i),.d (.int j)=>C i j/\Q (.d (g i j)) μ
 | _,_=>False
def qdw (g:Int->Int->PyData):R2d:=fun x y μ Q=>match x,y with
 | .d (.int i),.d (.int j)=>Q (.d (g i j)) μ
 | _,_=>False
def rdU (g:Int->PyData):R1d:=fun x μ Q=>match x with
 | .d (.int i)=>Q (.d (g i)) μ
 | _=>False
theorem qaI {C:Int->Int->Prop}{g:Int->Int->Int}{x y:V}{H:Hp}{Q:VK}(h:upR K (rdI C fun i j=>.int (g i j)) x y H Q):rI C (fun i j=>.int (g i j)) x y H Q:=by
 obtain ⟨μ,e,e',Q0,M,i1,i2,q,cl⟩:=h
 unfold rdI at q
 split at q
 ·cases i1;cases i2
  exact ⟨_,_,rfl,rfl,q.1,cl _ μ _ H q.2 M (qZ.refl _) (.int _)⟩
 ·exact q.elim
theorem qer {g:Int->Int->Int}{x y:V}{H:Hp}{Q:VK}(h:upR K (qdw fun i j=>.int (g i j)) x y H Q):rI0 (fun i j=>.int (g i j)) x y H Q:=by
 obtain ⟨μ,e,e',Q0,M,i1,i2,q,cl⟩:=h
 unfold qdw at q
 split at q
 ·cases i1;cases i2
  exact ⟨_,_,rfl,rfl,cl _ μ _ H q M (qZ.refl _) (.int _)⟩
 ·exact q.elim
theorem qbg {g:Int->Int->Bool}{x y:V}{H:Hp}{Q:VK}(h:upR K (qdw fun i j=>.bool (g i j)) x y H Q):rI0 (fun i j=>.bl (g i j)) x y H Q:=by
 obtain ⟨μ,e,e',Q0,M,i1,i2,q,cl⟩:=h
 unfold qdw at q
 split at q
 ·cases i1;cases i2
  exact ⟨_,_,rfl,rfl,cl _ μ _ H q M (qZ.refl _) (.bl _)⟩
 ·exact q.elim
theorem ym:OpR X (binaryOp .Add) (upR K (qdw fun i j=>.int (i+j))):=qbZ.mono fun _ _ _ _=>qer
theorem yw:OpR X (binaryOp .Sub) (upR K (qdw fun i j=>.int (i - j))):=qhH.mono fun _ _ _ _=>qer
theorem jh:OpR X (binaryOp .Mult) (upR K (rdI qeq fun i j=>.int (i * j))):=ZM.mono fun _ _ _ _=>qaI
theorem qcF:OpR X (binaryOp .FloorDiv) (upR K (rdI qa3 fun i j=>.int (i.fdiv j))):=Yz.mono fun _ _ _ _=>qaI
theorem qax:OpR X (binaryOp .Mod) (upR K (rdI (fun _ j=>0<j) fun i j=>.int (i % j))):=Y8.mono fun _ _ _ _=>qaI
theorem Ym:OpR X (binaryOp .Pow) (upR K (rdI CPow fun i j=>.int (i ^ j.toNat))):=qhI.mono fun _ _ _ _=>qaI
theorem qd0:OpR X (compareOp .Lt) (upR K (qdw fun i j=>.bool (decide (i<j)))):=op_lt.mono fun _ _ _ _=>qbg
theorem qgw:OpR X (compareOp .LtE) (upR K (qdw fun i j=>.bool (decide (i<=j)))):=op_le.mono fun _ _ _ _=>qbg
theorem qgx:OpR X (compareOp .Gt) (upR K (qdw fun i j=>.bool (decide (j<i)))):=qhK.mono fun _ _ _ _=>qbg
theorem jp:UnR X (unaryOp .USub) (upU K (rdU fun i=>.int (-i))):=qg1.mono fun x H Q h=>by
 obtain ⟨μ,e,Q0,M,i1,q,cl⟩:=h
 unfold rdU at q
 split at q
 ·cases i1
  exact ⟨_,rfl,cl _ μ _ H q M (qZ.refl _) (.int _)⟩
 ·exact q.elim
inductive LstOf (μ:Mu):En->List PyData->Prop
 | d (ds:List PyData):LstOf μ (.d (.list ds)) ds
 | m {a:Addr}{ds:List PyData}(h:(a,.lst ds)∈μ):LstOf μ (.m a) ds
theorem LstOf.get {μ:Mu}{e:En}{ds:List PyData}{H:Hp}{v:V}(h:LstOf μ e ds) (M:RelM K μ H) (i:IsE K μ H v e):∃ p xs,v = .ref p/\SqL K H p xs/\IsAll K (mask μ H) xs ds:=by
 cases h with
 | d ds =>
  cases i with
  | lst h hs=>exact ⟨_,_,rfl,qZ.seq yF h,hs⟩
 | m h =>
  obtain ⟨xs,e,hs⟩:=M.ob _ _ h
  exact ⟨_,xs,i,SqL.of e,hs⟩
inductive DatOf (μ:Mu):En->PyData->Prop
 | d (x:PyData):DatOf μ (.d x) x
 | m {a:Addr}{ds:List PyData}(h:(a,.lst ds)∈μ):DatOf μ (.m a) (.list ds)
theorem DatOf.is {μ:Mu}{e:En}{x:PyData}{H:Hp}{v:V}(h:DatOf μ e x) (M:RelM K μ H) (i:IsE K μ H v e):Is K H v x:=by
 cases h with
 | d x=>exact Is.same yF i
 | m h =>
  obtain ⟨xs,e,hs⟩:=M.ob _ _ h
  have i:v=_:=i
  subst i
  exact .lst (SqL.of e) (IsAll.same yF hs)
def qi5 (neg:Bool):R2d:=fun x y μ Q=>match x,y with
 | .d (.int i),.d (.int j)=>Q (.d (.bool (if neg then !decide (i=j) else decide (i=j)))) μ
 | _,_=>∃ d d',DatOf μ x d/\DatOf μ y d'/\SeqAt.shaped d=true/\SeqAt.shaped d'=true/\Q (.d (.bool (if neg then !PyData.eqv d d' else PyData.eqv d d'))) μ
theorem qgs (i j:Int):PyData.eqv (.int i) (.int j)=decide (i=j):=by
 by_cases h:i=j <;> simp [PyData.eqv,h]
theorem qai {neg:Bool}{x y:En}{μ:Mu}{Q:En->Mu->Prop}(h:qi5 neg x y μ Q):∃ d d',DatOf μ x d/\DatOf μ y d'/\SeqAt.shaped d=true/\SeqAt.shaped d'=true/\Q (.d (.bool (if neg then !PyData.eqv d d' else PyData.eqv d d'))) μ:=by
 unfold qi5 at h
 split at h
 ·exact ⟨_,_,.d _,.d _,rfl,rfl,by rw [qgs];exact h⟩
 ·exact h
theorem Zk (hu:X.A.units+64<cLine) (hK:X.K=K:=by rfl):OpR X (compareOp .Eq) (upR K (qi5 false)):=by
 subst hK
 refine (qhL hu).mono fun x y H Q h=>?_
 obtain ⟨μ,e,e',Q0,M,i1,i2,q,cl⟩:=h
 obtain ⟨d,d',h1,h2,h3,h4,q⟩:=qai q
 exact ⟨d,d',h1.is M i1,h2.is M i2,h3,h4,cl _ μ _ H q M (qZ.refl _) (.bl _)⟩
theorem qdZ (hu:X.A.units+64<cLine) (hK:X.K=K:=by rfl):OpR X (compareOp .NotEq) (upR K (qi5 true)):=by
 subst hK
 refine (qhJ hu).mono fun x y H Q h=>?_
 obtain ⟨μ,e,e',Q0,M,i1,i2,q,cl⟩:=h
 obtain ⟨d,d',h1,h2,h3,h4,q⟩:=qai q
 exact ⟨d,d',h1.is M i1,h2.is M i2,h3,h4,cl _ μ _ H q M (qZ.refl _) (.bl _)⟩
def dAnd (t u:TTd):TTd:=fun ρ μ Q=>t ρ μ fun k μ1=>if k=true then u ρ μ1 Q else Q false μ1
def dOr (t u:TTd):TTd:=fun ρ μ Q=>t ρ μ fun k μ1=>if k=true then Q true μ1 else u ρ μ1 Q
def dNot (t:TTd):TTd:=fun ρ μ Q=>t ρ μ fun k μ1=>Q (!k) μ1
variable {tA tB:TTd}{yP:List Expr}
theorem ZT (ha:DT K X a tA):DW K X (.BoolOp .And [a] pos) tA:=qfJ ha
theorem qip (ha:DT K X a tA):DW K X (.BoolOp .Or [a] pos) tA:=qho ha
theorem qcD (ha:DT K X a tA) (hb:DW K X (.BoolOp .And (b::yP) pos) tB):DW K X (.BoolOp .And (a::b::yP) pos) (dAnd tA tB):=by
 refine PW.mono (qhp ha hb) fun σ H Q hq9=>?_
 obtain ⟨ρ,μ,Q0,hS,hM,h,cl⟩:=hq9
 refine ⟨ρ,μ,_,hS,hM,h,fun k μ1 H1 q M1 s1=>?_⟩
 cases k with
 | true=>exact ⟨ρ,μ1,Q0,hS.same s1,M1,by simpa using q,cl.same s1⟩
 | false=>exact cl _ μ1 H1 (by simpa using q) M1 s1
theorem dw_or (ha:DT K X a tA) (hb:DW K X (.BoolOp .Or (b::yP) pos) tB):DW K X (.BoolOp .Or (a::b::yP) pos) (dOr tA tB):=by
 refine PW.mono (pw_or ha hb) fun σ H Q hq9=>?_
 obtain ⟨ρ,μ,Q0,hS,hM,h,cl⟩:=hq9
 refine ⟨ρ,μ,_,hS,hM,h,fun k μ1 H1 q M1 s1=>?_⟩
 cases k with
 | false=>exact ⟨ρ,μ1,Q0,hS.same s1,M1,by simpa using q,cl.same s1⟩
 | true=>exact cl _ μ1 H1 (by simpa using q) M1 s1
theorem qjf (h:DW K X a tA):DT K X a tA:=PW.pt h
theorem qe9 (ha:DT K X a tA):DT K X (.UnaryOp .Not a pos) (dNot tA):=PT.mono (qhs ha) fun σ H Q ⟨ρ,μ,Q0,hS,hM,h,cl⟩=>⟨ρ,μ,_,hS,hM,h,fun k μ1 H1 q M1 s1=>cl _ μ1 H1 q M1 s1⟩
def dAndV (ta tb:TEd):TEd:=fun ρ μ Q=>ta ρ μ fun x μ1=>match x with
 | .d (.bool k)=>if k=true then tb ρ μ1 Q else Q (.d (.bool false)) μ1
 | _=>False
def dNotV (ta:TEd):TEd:=fun ρ μ Q=>ta ρ μ fun x μ1=>match x with
 | .d (.bool k)=>Q (.d (.bool (!k))) μ1
 | _=>False
theorem qiv {op} {t:TEd}(h:DE K X a t):DE K X (.BoolOp op [a] pos) t:=qhC h
theorem qix (ha:DE K X a ta) (hb:DE K X (.BoolOp .And (b::yP) pos) tb):DE K X (.BoolOp .And (a::b::yP) pos) (dAndV ta tb):=by
 refine PE.mono (qhF ha hb) fun σ H Q hq9=>?_
 obtain ⟨ρ,μ,Q0,hS,hM,h,cl⟩:=hq9
 refine ⟨ρ,μ,_,hS,hM,h,fun e μ1 v H1 q M1 s1 i1=>?_⟩
 split at q
 ·rename_i k
  cases i1
  refine ⟨k,rfl,?_⟩
  cases k with
  | true=>exact qeZ ⟨ρ,μ1,Q0,hS.same s1,M1,by simpa using q,cl.same s1⟩
  | false=>exact qc8 (cl (.d (.bool false)) μ1 _ H1 (by simpa using q) M1 s1 (Is.bl _))
 ·exact q.elim
theorem d_not (ha:DE K X a ta):DE K X (.UnaryOp .Not a pos) (dNotV ta):=by
 refine PE.mono (qhD ha) fun σ H Q hq9=>?_
 obtain ⟨ρ,μ,Q0,hS,hM,h,cl⟩:=hq9
 refine ⟨ρ,μ,_,hS,hM,h,fun e μ1 v H1 q M1 s1 i1=>?_⟩
 split at q
 ·cases i1
  exact ⟨_,rfl,cl _ μ1 _ H1 q M1 s1 (.bl _)⟩
 ·exact q.elim
def dIf (t:TTd) (ta tb:TEd):TEd:=fun ρ μ Q=>t ρ μ fun k μ1=>if k=true then ta ρ μ1 Q else tb ρ μ1 Q
theorem qcJ (hc:DT K X c tA) (ha:DE K X a ta) (hb:DE K X b tb):DE K X (.IfExp c a b pos) (dIf tA ta tb):=by
 refine PE.mono (qdF hc ha hb) fun σ H Q hq9=>?_
 obtain ⟨ρ,μ,Q0,hS,hM,h,cl⟩:=hq9
 refine ⟨ρ,μ,_,hS,hM,h,fun k μ1 H1 q M1 s1=>?_⟩
 cases k with
 | true=>exact qeZ ⟨ρ,μ1,Q0,hS.same s1,M1,by simpa using q,cl.same s1⟩
 | false=>exact qc8 ⟨ρ,μ1,Q0,hS.same s1,M1,by simpa using q,cl.same s1⟩
variable {es:List Expr}{tr:TAd}
def dNil:TAd:=fun _ μ Q=>Q [] μ
def dCons (ta:TEd) (tr:TAd):TAd:=fun ρ μ Q=>ta ρ μ fun x μ1=>tr ρ μ1 fun xs μ2=>Q (x::xs) μ2
theorem qg:DA K X [] dNil:=PA.mono qhG fun σ H Q ⟨ρ,μ,Q0,hS,hM,h,cl⟩=>cl _ μ _ H h hM (qZ.refl _) .nil
theorem qa (ha:DE K X a ta) (hr:DA K X es tr) (hs:starEach (a::es) X.env=(false,eval a X.env)::starEach es X.env:=by rfl):DA K X (a::es) (dCons ta tr):=by
 refine PA.mono (qf2 ha hr hs) fun σ H Q hq9=>?_
 obtain ⟨ρ,μ,Q0,hS,hM,h,cl⟩:=hq9
 refine ⟨ρ,μ,_,hS,hM,h,fun e μ1 v H1 q M1 s1 i1=>⟨ρ,μ1,_,hS.same s1,M1,q,fun es' μ2 vs H2 q2 M2 s2 i2=>?_⟩⟩
 exact cl _ μ2 _ H2 q2 M2 (s1.trans s2) (.cons (i1.same s2) i2)
def qgM:List En->Option (List PyData)
 | []=>some []
 | .d x::r=>(qgM r).map (x::·)
 | _::_=>none
theorem YR {μ:Mu}{H:Hp}:∀ {es:List En}{ds:List PyData}{vs:List V},qgM es=some ds->Paired (IsE K μ H) vs es->IsAll K (mask μ H) vs ds
 | [],_,_,e,.nil=>by cases e;exact .nil
 | .d x::r,_,_,e,.cons h t=>by
  simp only [qgM] at e
  cases q:qgM r with
  | none=>rw [q] at e;cases e
  | some ds'=>rw [q] at e;cases e;exact .cons h (YR q t)
 | .m a::r,_,_,e,_=>by cases e
 | .x a::r,_,_,e,_=>by cases e
 | .ty a::r,_,_,e,_=>by cases e
def dTup (tr:TAd):TEd:=fun ρ μ Q=>tr ρ μ fun es μ1=>match qgM es with
 | some ds=>ds.length<=4000/\Q (.d (.tuple ds)) μ1
 | none=>False
def dLst (tr:TAd):TEd:=fun ρ μ Q=>tr ρ μ fun es μ1=>match qgM es with
 | some ds=>ds.length<=4000/\Q (.d (.list ds)) μ1
 | none=>False
theorem yG {x1} (h:DA K X es tr):DE K X (.Tuple es x1 pos) (dTup tr):=by
 refine PE.mono (qhA h) fun σ H Q hq9=>?_
 obtain ⟨ρ,μ,Q0,hS,hM,h,cl⟩:=hq9
 refine ⟨ρ,μ,_,hS,hM,h,fun es' μ1 vs H1 q M1 s1 i1=>?_⟩
 split at q
 ·rename_i ds e
  have hA:=YR e i1
  refine ⟨yp (yI (by rw [hA.len];exact q.1)),fun p hp=>?_⟩
  obtain ⟨M2,s2,hn⟩:=M1.laid (o:=.tup vs) hp
  exact cl _ μ1 _ _ q.2 M2 (s1.trans s2) (.tup (SqT.of (by rw [yC hn];exact yb)) (IsAll.same s2 hA))
 ·exact q.elim
theorem qd7 (h:DA K X es tr):DE K X (.List es pos) (dLst tr):=by
 refine PE.mono (qeU h) fun σ H Q hq9=>?_
 obtain ⟨ρ,μ,Q0,hS,hM,h,cl⟩:=hq9
 refine ⟨ρ,μ,_,hS,hM,h,fun es' μ1 vs H1 q M1 s1 i1=>?_⟩
 split at q
 ·rename_i ds e
  have hA:=YR e i1
  refine ⟨yp (yI (by rw [hA.len];exact q.1)),fun p hp=>?_⟩
  obtain ⟨M2,s2,hn⟩:=M1.laid (o:=.lst vs) hp
  exact cl _ μ1 _ _ q.2 M2 (s1.trans s2) (.lst (SqL.of (by rw [yC hn];exact yb)) (IsAll.same s2 hA))
 ·exact q.elim
def dLstM (tr:TAd):TEd:=fun ρ μ Q=>tr ρ μ fun es μ1=>match qgM es with
 | some ds=>ds.length<=4000/\∀ p,p∉μ1.map Prod.fst->Q (.m p) ((p,.lst ds)::μ1)
 | none=>False
theorem qcI (h:DA K X es tr):DE K X (.List es pos) (dLstM tr):=by
 refine PE.mono (qeU h) fun σ H Q hq9=>?_
 obtain ⟨ρ,μ,Q0,hS,hM,h,cl⟩:=hq9
 refine ⟨ρ,μ,_,hS,hM,h,fun es' μ1 vs H1 q M1 s1 i1=>?_⟩
 split at q
 ·rename_i ds e
  have hA:=YR e i1
  refine ⟨yp (yI (by rw [hA.len];exact q.1)),fun p hp=>?_⟩
  obtain ⟨_,_,hn⟩:=M1.laid (o:=.lst vs) hp
  obtain ⟨M2,s2⟩:=M1.new (u:=.lst vs) (o:=.lst ds) hp fun ss=>⟨vs,yb,IsAll.same ss hA⟩
  exact cl _ _ _ _ (q.2 p hn) M2 (s1.trans s2) rfl
 ·exact q.elim
end
theorem IsAll.atI {K:W.Frag}{H:Hp}{vs:List V}{ds:List PyData}{i:Int}{z:PyData}(h:IsAll K H vs ds) (e:L2.atI ds i=some z):∃ v,L2.atI vs i=some v/\Is K H v z:=by
 unfold L2.atI at *
 rw [h.len]
 cases q:ixN ds.length i with
 | none=>rw [q] at e;cases e
 | some j =>
  rw [q] at e
  obtain ⟨v,e1,e2⟩:=h.get' (i:=j) e
  exact ⟨v,e1,e2⟩
section
variable {X:Cx}{K:W.Frag}{a b c:Expr}{ta tb tc:TEd}{tA tB:TTd}{pos:Pos}{es:List Expr}{tr:TAd}
def qhi:R2d:=fun x y μ Q=>match y with
 | .d (.int i)=>∃ ds z,LstOf μ x ds/\atI ds i=some z/\Q (.d z) μ
 | _=>False
def qhh:R2d:=fun x y μ Q=>match x,y with
 | .d (.tuple ds),.d (.int i)=>∃ z,atI ds i=some z/\Q (.d z) μ
 | _,_=>False
theorem qgu (hK:X.K=K:=by rfl):IxR X (upR K qhi):=by
 subst hK
 refine j5.mono fun x y H Q h=>?_
 obtain ⟨μ,e,e',Q0,M,i1,i2,q,cl⟩:=h
 unfold qhi at q
 split at q
 ·obtain ⟨ds,z,h1,h2,q⟩:=q
  cases i2
  obtain ⟨p,xs,rfl,h3,h4⟩:=h1.get M i1
  obtain ⟨v,e1,e2⟩:=h4.atI h2
  exact ⟨p,xs,_,v,rfl,rfl,h3,e1,cl _ μ v H q M (qZ.refl _) e2⟩
 ·exact q.elim
theorem qio (hK:X.K=K:=by rfl):IxR X (upR K qhh):=by
 subst hK
 refine qia.mono fun x y H Q h=>?_
 obtain ⟨μ,e,e',Q0,M,i1,i2,q,cl⟩:=h
 unfold qhh at q
 split at q
 ·obtain ⟨z,h2,q⟩:=q
  cases i2
  have i1':=Is.same yF (show Is X.K (mask μ H) x _ from i1)
  cases i1 with
  | tup h3 h4 =>
   obtain ⟨v,e1,e2⟩:=h4.atI h2
   cases i1' with
   | tup h5 h6 =>
    refine ⟨_,_,_,v,rfl,rfl,?_,e1,cl _ μ v H q M (qZ.refl _) e2⟩
    rcases h3 with (e | ⟨o,e⟩) | e
    ·exact .inl (.inl (yF _ _ e))
    ·exact .inl (.inr ⟨o,yF _ _ e⟩)
    ·exact .inr e
 ·exact q.elim
theorem yR {r:R2d}(hr:IxR X (upR K r)) (ha:DE K X a ta) (hb:DE K X b tb) (hs:qc4 b):DE K X (.Subscript a b pos) (dOp r ta tb):=PE.mono (ZJ hr ha hb hs) fun _ _ _=>qfs
def YT (xs:List PyData) (lo hi:Option Int):List PyData:=(xs.drop (HT.sIx xs.length 0 lo)).take (HT.sIx xs.length xs.length hi - HT.sIx xs.length 0 lo)
theorem IsAll.cut {H:Hp}{vs:List V}{ds:List PyData}{lo hi:Option Int}(h:IsAll K H vs ds):IsAll K H (qgF vs lo hi) (YT ds lo hi):=by
 unfold qgF YT
 rw [h.len]
 exact (h.drop _).take _
abbrev TOd:=Rho->Mu->(Option Int->Mu->Prop)->Prop
def upO (K:W.Frag) (t:TOd):TO:=fun σ H Q=>∃ ρ μ Q0,RelS K ρ μ σ H/\RelM K μ H/\t ρ μ Q0/\∀ o μ' H',Q0 o μ'->RelM K μ' H'->qZ (mask μ H) (mask μ' H')->Q o H'
def DO (K:W.Frag) (X:Cx) (e:Option Expr) (t:TOd):Prop:=PO X e (upO K t)
theorem PO.mono {e:Option Expr}{t t':TO}(h:PO X e t) (f:∀ σ H Q,t' σ H Q->t σ H Q):PO X e t':=fun pins s σ H Q I q=>h pins s σ H Q I (f _ _ _ q)
def qgD:TOd:=fun _ μ Q=>Q none μ
def dPart (t:TEd):TOd:=fun ρ μ Q=>t ρ μ fun x μ1=>match x with
 | .d (.int i)=>Q (some i) μ1
 | _=>False
theorem Jx:DO K X none qgD:=PO.mono qfQ fun σ H Q ⟨ρ,μ,Q0,hS,hM,h,cl⟩=>cl none μ H h hM (qZ.refl _)
theorem Jw (h:DE K X a ta):DO K X (some a) (dPart ta):=PO.mono (qfP h) fun σ H Q ⟨ρ,μ,Q0,hS,hM,h,cl⟩=>⟨ρ,μ,_,hS,hM,h,fun e μ1 v H1 q M1 s1 i1=>by
 split at q
 ·cases i1;exact ⟨_,rfl,cl _ μ1 H1 q M1 s1⟩
 ·exact q.elim⟩
def dSl (r:En->Option Int->Option Int->Mu->(En->Mu->Prop)->Prop) (te:TEd) (tl th:TOd):TEd:=fun ρ μ Q=>te ρ μ fun x μ1=>tl ρ μ1 fun l μ2=>th ρ μ2 fun u μ3=>r x l u μ3 Q
def rdSlL:En->Option Int->Option Int->Mu->(En->Mu->Prop)->Prop:=fun x l u μ Q=>∃ ds,LstOf μ x ds/\Q (.d (.list (YT ds l u))) μ
theorem Jy {lo hi:Option Expr}{p2:Pos}{tl th:TOd}(ha:DE K X a ta) (hl:DO K X lo tl) (hu:DO K X hi th) (hK:X.K=K:=by rfl):DE K X (.Subscript a (.Slice lo hi none p2) pos) (dSl rdSlL ta tl th):=by
 subst hK
 refine PE.mono (qdE qfy ha hl hu) fun σ H Q hq9=>?_
 obtain ⟨ρ,μ,Q0,hS,hM,h,cl⟩:=hq9
 refine ⟨ρ,μ,_,hS,hM,h,fun e μ1 v H1 q1 M1 s1 i1=>⟨ρ,μ1,_,hS.same s1,M1,q1,fun l μ2 H2 q2 M2 s2=>⟨ρ,μ2,_,hS.same (s1.trans s2),M2,q2,fun u μ3 H3 q3 M3 s3=>?_⟩⟩⟩
 obtain ⟨ds,h1,q⟩:=q3
 have i3:=i1.same (s2.trans s3)
 obtain ⟨p,xs,rfl,h3,h4⟩:=h1.get M3 i3
 refine ⟨p,xs,rfl,h3,fun l hl=>?_⟩
 obtain ⟨M4,s4,hn⟩:=M3.laid (o:=.lst (qgF xs _ _)) hl
 exact cl _ _ _ _ q M4 ((s1.trans s2).trans (s3.trans s4)) (.lst (SqL.of (by rw [yC hn];exact yb)) (IsAll.same s4 h4.cut))
def dCB (r:RAd) (tr:TAd):TEd:=fun ρ μ Q=>tr ρ μ fun es μ1=>r es μ1 Q
theorem qg0 {r:RAd}{σ:St}{H:Hp}{Q:VK}(h:up K (dCB r tr) σ H Q):tCB (upC K r) (upA K tr) σ H Q:=by
 obtain ⟨ρ,μ,Q0,hS,hM,h,cl⟩:=h
 exact ⟨ρ,μ,_,hS,hM,h,fun es μ1 vs H1 q M1 s1 i1=>⟨μ1,es,Q0,M1,i1,q,cl.same s1⟩⟩
theorem qW {id:String}{x:Str}{r:RAd}{e:Expr}{p:Pos}(hc:yA X (.builtin id) (upC K r)) (hg:Gl X x) (hm:X.mg x=none) (hv:bootBuiltins x=some (.builtin id)) (ha:DA K X (e::es) tr) (hn:x ≠ "__name__" := by decide) (hdb:(x == ("__debug__" : Str))=false:=by decide)
  (he:starEach (e::es) X.env=(false,eval e X.env)::starEach es X.env:=by rfl) (hpl:(backTo pos (starEach es X.env)).any (·.1)=false:=by rfl):DE K X (.Call (.Name x p) (e::es) [] pos) (dCB r tr):=PE.mono (qdG hc hg hm hv ha hn hdb he hpl) fun _ _ _=>qg0
theorem YH {T:String}{x:Str}{r:RAd}{e:Expr}{p:Pos}(hc:yA X (.type T) (upC K r)) (hg:Gl X x) (hm:X.mg x=none) (hv:bootBuiltins x=some (.type T)) (ha:DA K X (e::es) tr) (hn:x ≠ "__name__" := by decide) (hdb:(x == ("__debug__" : Str))=false:=by decide)
  (he:starEach (e::es) X.env=(false,eval e X.env)::starEach es X.env:=by rfl) (hpl:(backTo pos (starEach es X.env)).any (·.1)=false:=by rfl):DE K X (.Call (.Name x p) (e::es) [] pos) (dCB r tr):=PE.mono (qbW hc hg hm hv ha hn hdb he hpl) fun _ _ _=>qg0
theorem JF {μ:Mu}{H:Hp}{vs:List V}{e:En}(h:Paired (IsE K μ H) vs [e]):∃ v,vs=[v]/\IsE K μ H v e:=by
 cases h with | cons a b=>cases b;exact ⟨_,rfl,a⟩
theorem ZL {μ:Mu}{H:Hp}{vs:List V}{e e':En}(h:Paired (IsE K μ H) vs [e,e']):∃ v v',vs=[v,v']/\IsE K μ H v e/\IsE K μ H v' e':=by
 cases h with | cons a b=>cases b with | cons c d=>cases d;exact ⟨_,_,rfl,a,c⟩
def qhl:RAd:=fun es μ Q=>match es with
 | [.d (.int i)]=>Q (.d (.int (i.natAbs:Int))) μ
 | _=>False
theorem Zm:yA X (.builtin "abs") (upC K qhl):=qeg.mono fun xs H Q h=>by
 obtain ⟨μ,es,Q0,M,hp,q,cl⟩:=h
 unfold qhl at q
 split at q
 ·rename_i i
  obtain ⟨v,rfl,i1⟩:=JF hp
  cases i1
  have e:(if i<0 then -i else i)=(i.natAbs:Int):=by split <;> omega
  exact ⟨_,rfl,by rw [e];exact cl _ μ _ H q M (qZ.refl _) (.int _)⟩
 ·exact q.elim
def qi6 (g:Int->Int->Int):RAd:=fun es μ Q=>match es with
 | [.d (.int i),.d (.int j)]=>Q (.d (.int (g i j))) μ
 | _=>False
theorem qcG (hc:X.calm=true):yA X (.builtin "max") (upC K (qi6 fun i j=>if i<j then j else i)):=(qcU hc).mono fun xs H Q h=>by
 obtain ⟨μ,es,Q0,M,hp,q,cl⟩:=h
 unfold qi6 at q
 split at q
 ·obtain ⟨v,v',rfl,i1,i2⟩:=ZL hp
  cases i1;cases i2
  exact ⟨_,_,rfl,cl _ μ _ H q M (qZ.refl _) (.int _)⟩
 ·exact q.elim
theorem qfa (hc:X.calm=true):yA X (.builtin "min") (upC K (qi6 fun i j=>if j<i then j else i)):=(qcT hc).mono fun xs H Q h=>by
 obtain ⟨μ,es,Q0,M,hp,q,cl⟩:=h
 unfold qi6 at q
 split at q
 ·obtain ⟨v,v',rfl,i1,i2⟩:=ZL hp
  cases i1;cases i2
  exact ⟨_,_,rfl,cl _ μ _ H q M (qZ.refl _) (.int _)⟩
 ·exact q.elim
inductive SeqOf (μ:Mu):En->List PyData->Prop
 | l {e:En}{ds:List PyData}(h:LstOf μ e ds):SeqOf μ e ds
 | t (ds:List PyData):SeqOf μ (.d (.tuple ds)) ds
theorem SeqOf.get {μ:Mu}{e:En}{ds:List PyData}{H:Hp}{v:V}(h:SeqOf μ e ds) (M:RelM K μ H) (i:IsE K μ H v e):∃ p xs,v = .ref p/\(SqL K H p xs\/SqT K H p xs)/\IsAll K (mask μ H) xs ds:=by
 cases h with
 | l h=>obtain ⟨p,xs,h1,h2,h3⟩:=h.get M i;exact ⟨p,xs,h1,.inl h2,h3⟩
 | t ds =>
  cases i with
  | tup h hs =>
   refine ⟨_,_,rfl,.inr ?_,hs⟩
   rcases h with (e | ⟨o,e⟩) | e
   ·exact .inl (.inl (yF _ _ e))
   ·exact .inl (.inr ⟨o,yF _ _ e⟩)
   ·exact .inr e
def qhg:RAd:=fun es μ Q=>match es with
 | [e]=>∃ ds,SeqOf μ e ds/\Q (.d (.int (ds.length:Int))) μ
 | _=>False
theorem jP (hK:X.K=K:=by rfl):yA X (.builtin "len") (upC K qhg):=by
 subst hK
 refine Zp.mono fun xs H Q h=>?_
 obtain ⟨μ,es,Q0,M,hp,q,cl⟩:=h
 unfold qhg at q
 split at q
 ·obtain ⟨v,rfl,i1⟩:=JF hp
  obtain ⟨ds,h1,q⟩:=q
  obtain ⟨p,ys,rfl,h2,h3⟩:=h1.get M i1
  exact ⟨p,ys,rfl,h2,by rw [h3.len];exact cl _ μ _ H q M (qZ.refl _) (.int _)⟩
 ·exact q.elim
def qeP:RAd:=fun es μ Q=>match es with
 | [e]=>∃ ds,SeqOf μ e ds/\Q (.d (.list ds)) μ
 | _=>False
theorem qcH (hK:X.K=K:=by rfl):yA X (.type "list") (upC K qeP):=by
 subst hK
 refine Zo.mono fun xs H Q h=>?_
 obtain ⟨μ,es,Q0,M,hp,q,cl⟩:=h
 unfold qeP at q
 split at q
 ·obtain ⟨v,rfl,i1⟩:=JF hp
  obtain ⟨ds,h1,q⟩:=q
  obtain ⟨p,ys,rfl,h2,h3⟩:=h1.get M i1
  refine ⟨p,ys,rfl,h2,fun l hl=>?_⟩
  obtain ⟨M4,s4,hn⟩:=M.laid (o:=.lst ys) hl
  exact cl _ μ _ _ q M4 s4 (.lst (SqL.of (by rw [yC hn];exact yb)) (IsAll.same s4 h3))
 ·exact q.elim
def qdx (f:List Bool->Bool):RAd:=fun es μ Q=>match es with
 | [e]=>∃ bs,LstOf μ e (bs.map PyData.bool)/\Q (.d (.bool (f bs))) μ
 | _=>False
theorem qiu (hc:X.calm=true) (hK:X.K=K:=by rfl):yA X (.builtin "all") (upC K (qdx fun bs=>bs.all id)):=by
 subst hK
 refine (qef hc).mono fun xs H Q h=>?_
 obtain ⟨μ,es,Q0,M,hp,q,cl⟩:=h
 unfold qdx at q
 split at q
 ·obtain ⟨v,rfl,i1⟩:=JF hp
  obtain ⟨bs,h1,q⟩:=q
  obtain ⟨p,ys,rfl,h2,h3⟩:=h1.get M i1
  rw [h3.bools_of] at h2
  exact ⟨p,bs,rfl,h2,cl _ μ _ H q M (qZ.refl _) (.bl _)⟩
 ·exact q.elim
theorem qit (hc:X.calm=true) (hK:X.K=K:=by rfl):yA X (.builtin "any") (upC K (qdx fun bs=>bs.any id)):=by
 subst hK
 refine (qee hc).mono fun xs H Q h=>?_
 obtain ⟨μ,es,Q0,M,hp,q,cl⟩:=h
 unfold qdx at q
 split at q
 ·obtain ⟨v,rfl,i1⟩:=JF hp
  obtain ⟨bs,h1,q⟩:=q
  obtain ⟨p,ys,rfl,h2,h3⟩:=h1.get M i1
  rw [h3.bools_of] at h2
  exact ⟨p,bs,rfl,h2,cl _ μ _ H q M (qZ.refl _) (.bl _)⟩
 ·exact q.elim
def isTy (n:String):PyData->Bool
 | .none=>false
 | .bool _=>n == "bool" || n == "int"
 | .int _=>n == "int"
 | .str _=>n == "str"
 | .list _=>n == "list"
 | .tuple _=>n == "tuple"
 | .dict _=>false
abbrev SpD:=List En->Mu->(En->Mu->Prop)->Prop
def yh (K:W.Frag) (s:SpD):Sp:=fun vs H Q _=>∃ μ es Q0,RelM K μ H/\Paired (IsE K μ H) vs es/\s es μ Q0/\Cl K μ H Q0 Q
theorem qY {CX:CXT}{k:Nat}{x:Str}{ps:List Str}{s:SpD}{e:Expr}{p:Pos}(O:Own X.prog X.w X.K X.mg X.base CX k x ps (yh K s)) (hX:NoX CX) (hr:Room k X.A) (hg:Gl X x) (ha:DA K X (e::es) tr) (hdb:(x == ("__debug__" : Str))=false:=by decide)
  (he:starEach (e::es) X.env=(false,eval e X.env)::starEach es X.env:=by rfl) (hpl:(backTo pos (starEach es X.env)).any (·.1)=false:=by rfl):DE K X (.Call (.Name x p) (e::es) [] pos) (dCB s tr):=by
 refine PE.mono (qhB O hX hr hg ha hdb he hpl) fun σ H Q hq9=>?_
 obtain ⟨ρ,μ,Q0,hS,hM,h,cl⟩:=hq9
 exact ⟨ρ,μ,_,hS,hM,h,fun es μ1 vs H1 q M1 s1 i1=>⟨μ1,es,Q0,M1,by simpa using i1,q,cl.same s1⟩⟩
theorem IsAll.flat {H H':Hp}:∀ {vs:List V}{ds:List PyData},ds.all (fun | .list _=>false | .dict _=>false | .tuple _=>false | _=>true)=true->IsAll K H vs ds->IsAll K H' vs ds
 | _,[],_,.nil=>.nil
 | _,d::ds,h,.cons a b=>by
  simp only [List.all_cons,Bool.and_eq_true] at h
  refine .cons ?_ (IsAll.flat h.2 b)
  cases a with
  | non=>exact .non
  | bl b=>exact .bl b
  | int i=>exact .int i
  | str x=>exact .str x
  | lst _ _=>exact absurd h.1 (by simp)
  | tup _ _=>exact absurd h.1 (by simp)
  | dc _=>exact absurd h.1 (by simp)
inductive Thaw (a:Addr) (ds:List PyData):List En->List En->Prop
 | nil:Thaw a ds [] []
 | me {es es':List En}:Thaw a ds es es'->Thaw a ds (.m a::es) (.d (.list ds)::es')
 | ot {e:En}{es es':List En}:Thaw a ds es es'->Thaw a ds (e::es) (e::es')
theorem Thaw.is {μ1 μ2:Mu}{a:Addr}{ds:List PyData}{H:Hp}(M:RelM K (μ1++(a,.lst ds)::μ2) H):∀ {es es':List En}{vs:List V},Thaw a ds es es'->Paired (IsE K (μ1++(a,.lst ds)::μ2) H) vs es->Paired (IsE K (μ1++μ2) H) vs es'
 | _,_,_,.nil,.nil=>.nil
 | _,_,_,.me t,.cons i r=>by
  obtain ⟨M',s,hn⟩:=M.drop
  obtain ⟨xs,e,hs⟩:=M.ob a (.lst ds) (by simp)
  refine .cons ?_ (Thaw.is M t r)
  have i:_=V.ref a:=i
  subst i
  exact .lst (SqL.of (by rw [yC hn];exact e)) (IsAll.same s hs)
 | _,_,_,.ot t,.cons i r=>.cons (i.same M.drop.2.1) (Thaw.is M t r)
end
section
variable {X:Cx}{K:W.Frag}{a b c:Expr}{ta tb tc:TEd}{tA tB:TTd}{pos:Pos}{es:List Expr}{tr:TAd}
def tys:List String:=["int", "bool", "str", "list", "tuple"]
theorem d_ty {x:Str}{n:String}{p:Pos}(hg:Gl X x) (hm:X.mg x=none) (hv:bootBuiltins x=some (.type n)) (hn:x ≠ "__name__" := by decide) (hd:(x == ("__debug__" : Str))=false:=by decide):DE K X (.Name x p) (fun _ μ Q=>Q (.ty n) μ) :=
 PE.mono (qf1 (v:=.ty n) hg hm hv rfl hn hd) fun σ H Q ⟨ρ,μ,Q0,hS,hM,h,cl⟩=>cl _ μ (.ty n) H h hM (qZ.refl _) rfl
theorem qed:yA X (.builtin "isinstance") (fun xs H Q=>∃ x n d,xs=[x,.ty n]/\Is X.K H x d/\n∈tys/\Q (.bl (isTy n d)) H):=by
 intro pins s σ H xs us Q I r h
 obtain ⟨x,n,d,rfl,ty,hn,q⟩:=h
 obtain ⟨u,u',rfl,rx,ry⟩:=qfq r
 cases ry
 have fin:∀ tk,EP X pins σ Q (.bool (isTy n d)) { s with toks:=tk }:=fun tk=>⟨.bl _,H,I.tok _,rfl,q⟩
 have hn:n = "int" \/ n = "bool" \/ n = "str" \/ n = "list" \/ n = "tuple" := by simpa [tys] using hn
 cases ty with
 | non=>cases (show u=Value.none from rx);exact W.kia_one W.kitx_none I.kIn True.intro (by rcases hn with rfl | rfl | rfl | rfl | rfl <;> rfl) (fun z=>nomatch z) fin
 | bl y=>cases (show u=Value.bool y from rx);exact W.kia_one W.kitx_bool I.kIn True.intro (by rcases hn with rfl | rfl | rfl | rfl | rfl <;> rfl) (fun z=>nomatch z) fin
 | int i=>obtain ⟨t,z⟩:=(show ∃ t,u=Value.int i t from rx);cases z;exact W.kia_one W.kitx_int I.kIn True.intro (by rcases hn with rfl | rfl | rfl | rfl | rfl <;> rfl) (fun z=>nomatch z) fin
 | str y=>obtain ⟨t,z⟩:=(show ∃ t,u=Value.str y t from rx);cases z;exact W.kia_one W.kitx_str I.kIn True.intro (by rcases hn with rfl | rfl | rfl | rfl | rfl <;> rfl) (fun z=>nomatch z) fin
 | @lst a xs ds hq _ =>
  cases (show u=Value.ref a from rx)
  obtain ⟨its,_,⟨o,n',h1,h2,_⟩,_⟩:=I.list hq
  exact W.kia_one W.kitx_list I.kIn ⟨o,h1,h2⟩ (by rcases hn with rfl | rfl | rfl | rfl | rfl <;> rfl) (fun z=>nomatch z) fin
 | @dc a hq =>
  cases (show u=Value.ref a from rx)
  obtain ⟨_,_,vs,_,o,es,ep,h1,h2,_⟩:=(show jq X.prog X.w H s.heap a (.dK []) from I.hok a _ hq)
  exact W.kia_one W.kitx_dict I.kIn ⟨o,h1,h2.1⟩ (by rcases hn with rfl | rfl | rfl | rfl | rfl <;> rfl) (fun z=>nomatch z) fin
 | @tup a xs ds hq _ =>
  cases (show u=Value.ref a from rx)
  obtain ⟨its,_,⟨o,h1,h2,_⟩,_⟩:=I.tuple hq
  exact W.kia_one W.kitx_tuple I.kIn ⟨o,h1,h2⟩ (by rcases hn with rfl | rfl | rfl | rfl | rfl <;> rfl) (fun z=>nomatch z) fin
def qhj:RAd:=fun es μ Q=>match es with
 | [.d x,.ty n]=>n∈tys/\Q (.d (.bool (isTy n x))) μ
 | [.m a,.ty n]=>n∈tys/\∃ ds,(a,.lst ds)∈μ/\Q (.d (.bool (n == "list"))) μ
 | _=>False
theorem qfb (hK:X.K=K:=by rfl):yA X (.builtin "isinstance") (upC K qhj):=by
 subst hK
 refine qed.mono fun xs H Q h=>?_
 obtain ⟨μ,es,Q0,M,hp,q,cl⟩:=h
 unfold qhj at q
 split at q
 ·obtain ⟨v,v',rfl,i1,i2⟩:=ZL hp
  have i2:v'=_:=i2
  subst i2
  exact ⟨_,_,_,rfl,Is.same yF i1,q.1,cl _ μ _ H q.2 M (qZ.refl _) (.bl _)⟩
 ·obtain ⟨v,v',rfl,i1,i2⟩:=ZL hp
  have i2:v'=_:=i2
  subst i2
  obtain ⟨hn,ds,hm,q⟩:=q
  have hi:=(DatOf.m hm).is M i1
  exact ⟨_,_,_,rfl,hi,hn,cl _ μ _ H q M (qZ.refl _) (.bl _)⟩
 ·exact q.elim
abbrev TGd:=En->Rho->Mu->(Rho->Mu->Prop)->Prop
abbrev qc2:=List PyData->Rho->Mu->(Rho->Mu->Prop)->Prop
def upG (K:W.Frag) (t:TGd):TG:=fun v σ H Q=>∃ e ρ μ Q0,IsE K μ H v e/\RelS K ρ μ σ H/\RelM K μ H/\t e ρ μ Q0/\ClR K μ H Q0 Q
def upGs (K:W.Frag) (t:qc2):TGs:=fun vs σ H Q=>∃ ds ρ μ Q0,IsAll K (mask μ H) vs ds/\RelS K ρ μ σ H/\RelM K μ H/\t ds ρ μ Q0/\ClR K μ H Q0 Q
def DG (K:W.Frag) (X:Cx) (tg:Expr) (t:TGd):Prop:=PG X tg (upG K t)
def DGs (K:W.Frag) (X:Cx) (tg:List Expr) (t:qc2):Prop:=PGs X tg (upGs K t)
theorem PG.mono {tg:Expr}{t t':TG}(h:PG X tg t) (f:∀ v σ H Q,t' v σ H Q->t v σ H Q):PG X tg t':=fun pins s σ H v u Q I r q=>h pins s σ H v u Q I r (f _ _ _ _ q)
theorem PGs.mono {tg:List Expr}{t t':TGs}(h:PGs X tg t) (f:∀ v σ H Q,t' v σ H Q->t v σ H Q):PGs X tg t':=fun pins s σ H v u Q I r q=>h pins s σ H v u Q I r (f _ _ _ _ q)
def jI (i:Nat):TGd:=fun e ρ μ Q=>Q (ρ.set i (some e)) μ
theorem qC {i:Nat}{x:Str}(hN:X.N.Nodup) (hi:X.N[i]?=some x) (hx:Loc X.env.scope x) (hf:X.fn x=true\/X.env.scope.names.lookup x=some .local:=by first | exact .inl rfl | exact .inr rfl | assumption):DG K X (.Name x pos) (jI i) :=
 PG.mono (qfV hN hi hx hf) fun v σ H Q ⟨e,ρ,μ,Q0,i1,hS,hM,h,cl⟩=>cl _ μ _ H h (hS.set i1) hM (qZ.refl _)
def qd3:qc2:=fun ds ρ μ Q=>match ds with
 | []=>Q ρ μ
 | _=>False
def JD (t:TGd) (u:qc2):qc2:=fun ds ρ μ Q=>match ds with
 | x::r=>t (.d x) ρ μ fun ρ' μ'=>u r ρ' μ' Q
 | []=>False
theorem yS:DGs K X [] qd3:=PGs.mono qfT fun vs σ H Q ⟨ds,ρ,μ,Q0,i1,hS,hM,h,cl⟩=>by
 unfold qd3 at h
 split at h
 ·cases i1;exact ⟨rfl,cl _ μ _ H h hS hM (qZ.refl _)⟩
 ·exact h.elim
theorem qH {e:Expr}{es:List Expr}{t:TGd}{u:qc2}(h1:DG K X e t) (h2:DGs K X es u)
  (hs:(assignEach (e::es) X.env).map (·.2)=assign e X.env::(assignEach es X.env).map (·.2):=by rfl):DGs K X (e::es) (JD t u):=PGs.mono (qdB h1 h2 hs) fun vs σ H Q ⟨ds,ρ,μ,Q0,i1,hS,hM,h,cl⟩=>by
 unfold JD at h
 split at h
 ·cases i1 with
  | cons i1 i2 =>
   refine ⟨_,_,rfl,.d _,ρ,μ,_,i1,hS,hM,h,fun ρ' μ' σ' H' q S' M' s'=>?_⟩
   exact ⟨_,ρ',μ',Q0,IsAll.same s' i2,S',M',q,cl.same s'⟩
 ·exact h.elim
def qd2 (n:Nat) (t:qc2):TGd:=fun e ρ μ Q=>match e with
 | .d (.tuple ds)=>ds.length=n/\t ds ρ μ Q
 | _=>False
theorem ju {es:List Expr}{k:Nat}{t:qc2}{n:Nat}(hc:X.calm=true) (h:DGs K X es t) (hK:X.K=K:=by rfl)
  (hn:(assignEach es X.env).length=n:=by rfl) (hst:(assignEach es X.env).findIdx? (·.1)=none:=by rfl):DG K X (.Tuple es k pos) (qd2 n t):=by
 subst hK
 refine PG.mono (qhz hc h hn hst) fun v σ H Q hq9=>?_
 obtain ⟨e,ρ,μ,Q0,i1,hS,hM,h,cl⟩:=hq9
 unfold qd2 at h
 split at h
 ·obtain ⟨p,xs,rfl,hq,hA⟩:=(SeqOf.t _).get hM i1
  cases i1 with
  | tup h1 h2 =>
   refine ⟨_,_,rfl,?_,by rw [h2.len];exact h.1,_,ρ,μ,Q0,h2,hS,hM,h.2,cl⟩
   rcases h1 with (e | ⟨o,e⟩) | e
   ·exact .inl (.inl (yF _ _ e))
   ·exact .inl (.inr ⟨o,yF _ _ e⟩)
   ·exact .inr e
 ·exact h.elim
variable {st:Stmt}{yP:List Stmt}{t u:TSd}{e:Expr}{te:TEd}
def dNext:TSd:=fun D ρ μ=>D.nx ρ μ
def dSeq (t u:TSd):TSd:=fun D ρ μ=>t { D with nx:=u D } ρ μ
theorem jH:DSs K X [] dNext:=PSs.mono qbN fun D σ H ⟨ρ,μ,D0,hS,hM,h,cl⟩=>cl.nx _ μ _ H h hS hM (qZ.refl _)
theorem qp (h1:DS K X st t) (h2:DSs K X yP u):DSs K X (st::yP) (dSeq t u):=PSs.mono (Jc h1 h2) fun D σ H ⟨ρ,μ,D0,hS,hM,h,cl⟩ =>
 ⟨ρ,μ,_,hS,hM,h,⟨fun ρ' μ' σ' H' q S' M' s'=>⟨ρ',μ',D0,S',M',q,cl.same s'⟩,cl.rt,cl.bk,cl.ct⟩⟩
theorem qL (h1:DS K X st t):DSs K X [st] t:=ZI h1
def dDrop (te:TEd):TSd:=fun D ρ μ=>te ρ μ fun _ μ1=>D.nx ρ μ1
theorem YG (he:DE K X e te) (hs:swapsWith e none pos.line X.env=pure false:=by rfl):DS K X (.Expr e pos) (dDrop te):=PS.mono (qfO he hs) fun D σ H ⟨ρ,μ,D0,hS,hM,h,cl⟩ =>
 ⟨ρ,μ,_,hS,hM,h,fun e' μ1 v H1 q M1 s1 i1=>cl.nx _ μ1 _ H1 q (hS.same s1) M1 s1⟩
def dRet (te:TEd):TSd:=fun D ρ μ=>te ρ μ D.rt
theorem yi (he:DE K X e te):DS K X (.Return (some e) pos) (dRet te):=PS.mono (qaj he) fun D σ H ⟨ρ,μ,D0,hS,hM,h,cl⟩=>⟨ρ,μ,_,hS,hM,h,cl.rt⟩
def FzR (μ:Mu) (e:En) (μ':Mu) (e':En):Prop:=∀ (K:W.Frag) (v:V) (H:Hp),RelM K μ H->IsE K μ H v e->RelM K μ' H/\IsE K μ' H v e'/\qZ (mask μ H) (mask μ' H)
theorem FzR.refl {μ:Mu}{e:En}:FzR μ e μ e:=fun _ _ _ h i=>⟨h,i,qZ.refl _⟩
theorem FzR.trans {μ μ1 μ2:Mu}{e e1 e2:En}(h:FzR μ e μ1 e1) (h':FzR μ1 e1 μ2 e2):FzR μ e μ2 e2:=fun K v H a b=>by
 obtain ⟨a1,b1,s1⟩:=h K v H a b
 obtain ⟨a2,b2,s2⟩:=h' K v H a1 b1
 exact ⟨a2,b2,s1.trans s2⟩
theorem FzR.list {μ1 μ2:Mu}{p:Addr}{ds:List PyData}:FzR (μ1++(p,.lst ds)::μ2) (.m p) (μ1++μ2) (.d (.list ds)):=fun K v H h i=>by
 obtain ⟨M',s,hn⟩:=h.drop
 obtain ⟨xs,e,hs⟩:=h.ob p (.lst ds) (by simp)
 have i:v=_:=i
 subst i
 exact ⟨M',.lst (SqL.of (by rw [yC hn];exact e)) (IsAll.same s hs),s⟩
theorem FzR.list1 {μ2:Mu}{p:Addr}{ds:List PyData}:FzR ((p,.lst ds)::μ2) (.m p) μ2 (.d (.list ds)):=FzR.list (μ1:=[])
theorem FzR.drop {μ1 μ2:Mu}{p:Addr}{o:MO}{e:En}:FzR (μ1++(p,o)::μ2) e (μ1++μ2) e:=fun K v H h i=>by
 obtain ⟨M',s,hn⟩:=h.drop
 exact ⟨M',i.same s,s⟩
theorem FzR.drop1 {μ2:Mu}{p:Addr}{o:MO}{e:En}:FzR ((p,o)::μ2) e μ2 e:=FzR.drop (μ1:=[])
def dRetF (te:TEd):TSd:=fun D ρ μ=>te ρ μ fun e μ1=>∃ μ2 e2,FzR μ1 e μ2 e2/\D.rt e2 μ2
theorem ZU (he:DE K X e te):DS K X (.Return (some e) pos) (dRetF te):=PS.mono (qaj he) fun D σ H ⟨ρ,μ,D0,hS,hM,h,cl⟩=>⟨ρ,μ,_,hS,hM,h,fun e' μ1 v H1 q M1 s1 i1=>by
 obtain ⟨μ2,e2,f,q⟩:=q
 obtain ⟨M2,i2,s2⟩:=f K v H1 M1 i1
 exact cl.rt _ μ2 _ H1 q M2 (s1.trans s2) i2⟩
def dIfS (c:TTd) (t u:TSd):TSd:=fun D ρ μ=>c ρ μ fun b μ1=>if b=true then t D ρ μ1 else u D ρ μ1
theorem JG {c:Expr}{a b:List Stmt}{tc:TTd}(hc:DT K X c tc) (ha:DSs K X a t) (hb:DSs K X b u):DS K X (.If c a b pos) (dIfS tc t u):=PS.mono (qhw hc ha hb) fun D σ H ⟨ρ,μ,D0,hS,hM,h,cl⟩ =>
 ⟨ρ,μ,_,hS,hM,h,fun k μ1 H1 q M1 s1=>by
  cases k with
  | true=>exact qeZ ⟨ρ,μ1,D0,hS.same s1,M1,by simpa using q,cl.same s1⟩
  | false=>exact qc8 ⟨ρ,μ1,D0,hS.same s1,M1,by simpa using q,cl.same s1⟩⟩
def dAsg (te:TEd) (g:TGd):TSd:=fun D ρ μ=>te ρ μ fun e μ1=>g e ρ μ1 D.nx
theorem qK {i:Nat}{x:Str}{pos':Pos}(hN:X.N.Nodup) (hi:X.N[i]?=some x) (hx:Loc X.env.scope x) (he:DE K X e te) (hs:swapsWith e (some (.Name x pos')) pos.line X.env=pure false:=by rfl) (hf:X.fn x=true\/X.env.scope.names.lookup x=some .local:=by first | exact .inl rfl | exact .inr rfl | assumption) :
  DS K X (.Assign [.Name x pos'] e pos) (dAsg te (jI i)):=PS.mono (qeR hN hi hx he hs hf) fun D σ H ⟨ρ,μ,D0,hS,hM,h,cl⟩ =>
 ⟨ρ,μ,_,hS,hM,h,fun e' μ1 v H1 q M1 s1 i1=>cl.nx _ μ1 _ H1 q ((hS.same s1).set i1) M1 s1⟩
theorem JC {tg:Expr}{g:TGd}(he:DE K X e te) (hg:DG K X tg g) (hs:swapsWithSole [tg] e pos.line X.env=pure false:=by rfl) (hw:swappedStores [tg] e X.env=pure none:=by rfl)
  (h1:(assignEach [tg] X.env).map (·.2)=[assign tg X.env]:=by rfl):DS K X (.Assign [tg] e pos) (dAsg te g):=PS.mono (qbP he hg hs hw h1) fun D σ H ⟨ρ,μ,D0,hS,hM,h,cl⟩ =>
 ⟨ρ,μ,_,hS,hM,h,fun e' μ1 v H1 q M1 s1 i1=>⟨e',ρ,μ1,D0.nx,i1,hS.same s1,M1,q,cl.nx.same s1⟩⟩
def dPar (i j:Nat) (ta:TAd):TSd:=fun D ρ μ=>ta ρ μ fun es μ1=>match es with
 | [e,e']=>D.nx ((ρ.set i (some e)).set j (some e')) μ1
 | _=>False
theorem Zj {i j:Nat}{x y:Str}{a b:Expr}{ta:TAd}{px py pt:Pos}{kt k2 pt2} (hc:X.calm=true) (hN:X.N.Nodup) (hi:X.N[i]?=some x) (hj:X.N[j]?=some y) (hij:i≠j)
  (hx:X.env.scope.names.lookup x=some .local) (hy:X.env.scope.names.lookup y=some .local) (ha:DA K X [a,b] ta)
  (hw:swappedStores [.Tuple [.Name x px,.Name y py] kt pt] (.Tuple [a,b] k2 pt2) X.env=pure (some [x,y]))
  (hs:swapsWithSole [.Tuple [.Name x px,.Name y py] kt pt] (.Tuple [a,b] k2 pt2) pos.line X.env=pure false:=by rfl) :
  DS K X (.Assign [.Tuple [.Name x px,.Name y py] kt pt] (.Tuple [a,b] k2 pt2) pos) (dPar i j ta):=PS.mono (qhv hc hN hi hj hij hx hy ha hw hs) fun D σ H ⟨ρ,μ,D0,hS,hM,h,cl⟩ =>
 ⟨ρ,μ,_,hS,hM,h,fun es μ1 vs H1 q M1 s1 i1=>by
  split at q
  ·obtain ⟨v,v',rfl,h1,h2⟩:=ZL i1
   exact ⟨_,_,rfl,cl.nx _ μ1 _ H1 q (((hS.same s1).set h1).set h2) M1 s1⟩
  ·exact q.elim⟩
def dApp (to:TEd) (tr:TAd):TEd:=fun ρ μ Q=>to ρ μ fun x μ1=>match x with
 | .m p=>(∃ ds0,(p,.lst ds0)∈μ1)/\tr ρ μ1 fun es μ2=>match es with
  | [.d z]=>∃ μ3 μ4 ds,μ2=μ3++(p,.lst ds)::μ4/\ds.length<4000/\Q (.d .none) (μ3++(p,.lst (ds++[z]))::μ4)
  | _=>False
 | _=>False
theorem YI {o e:Expr}{to:TEd}{p1:Pos}(ho:DE K X o to) (ha:DA K X [e] tr) (hK:X.K=K:=by rfl)
  (h:PE X (.Call (.Attribute o "append" p1) [e] [] pos) (tBM X.K "list" rAppend (up K to) (upA K tr))):DE K X (.Call (.Attribute o "append" p1) [e] [] pos) (dApp to tr):=by
 subst hK
 refine PE.mono h fun σ H Q hq9=>?_
 obtain ⟨ρ,μ,Q0,hS,hM,h,cl⟩:=hq9
 refine ⟨ρ,μ,_,hS,hM,h,fun x μ1 v H1 q M1 s1 i1=>?_⟩
 split at q
 ·rename_i x' p
  obtain ⟨⟨ds0,hd0⟩,q⟩:=q
  have i1:v=_:=i1
  subst i1
  obtain ⟨xs0,e0,_⟩:=M1.ob _ _ hd0
  refine ⟨.inl ⟨rfl,_,SqL.of e0⟩,ρ,μ1,_,hS.same s1,M1,q,fun es μ2 vs H2 q2 M2 s2 i2=>?_⟩
  split at q2
  ·rename_i es' z
   obtain ⟨μ3,μ4,ds,rfl,hl,q2⟩:=q2
   obtain ⟨v,rfl,h1⟩:=JF i2
   obtain ⟨xs,ex,hA⟩:=M2.ob p (.lst ds) (by simp)
   refine ⟨p,xs,v,rfl,rfl,ex,yI (by rw [hA.len];omega),?_⟩
   obtain ⟨M3,s3⟩:=M2.write (H':=upd H2 p (.lst (xs++[v]))) (o':=.lst (ds++[z])) (fun b u e n=>by rw [qV n];exact e) fun ss=>⟨_,yb,IsAll.snoc (Is.same ss h1) (IsAll.same ss hA)⟩
   exact cl _ _ .non _ q2 M3 ((s1.trans s2).trans s3) .non
  ·exact q2.elim
 ·exact q.elim
structure Itd where
 n:Nat
 item:Nat->En
 ok:Mu->Prop
abbrev TId:=Rho->Mu->(Itd->Mu->Prop)->Prop
def Sim (K:W.Frag) (J0:Itd) (μ1:Mu) (H1:Hp) (J:It):Prop:=∀ μ' H',RelM K μ' H'->qZ (mask μ1 H1) (mask μ' H')->J0.ok μ'->∀ i,
 (i<J0.n->J.go i H'/\∀ x H2,J.yld i H' x H2->RelM K μ' H2/\qZ (mask μ' H') (mask μ' H2)/\IsE K μ' H2 x (J0.item i))/\(J0.n<=i->J.stop i H')
def upI (K:W.Frag) (t:TId):TI:=fun σ H R=>∃ ρ μ Q0,RelS K ρ μ σ H/\RelM K μ H/\t ρ μ Q0/\∀ J0 μ1 J H1,Q0 J0 μ1->RelM K μ1 H1->qZ (mask μ H) (mask μ1 H1)->Sim K J0 μ1 H1 J->R J H1
def DI (K:W.Frag) (X:Cx) (tg iter:Expr) (t:TId):Prop:=PI X tg iter (upI K t)
variable {tg iter:Expr}
theorem PI.mono {wi wi':TI}(h:PI X tg iter wi) (f:∀ σ H R,wi' σ H R->wi σ H R):PI X tg iter wi':=fun pins s σ H R I q=>h pins s σ H R I (f _ _ _ q)
def itL (e:En) (ds:List PyData):Itd:=⟨ds.length,fun i=>.d (ds.getD i .none),fun μ=>LstOf μ e ds⟩
def itT (ds:List PyData):Itd:=⟨ds.length,fun i=>.d (ds.getD i .none),fun _=>True⟩
def itR (lo:Int) (n:Nat):Itd:=⟨n,fun i=>.d (.int (lo+i)),fun _=>True⟩
def diL (te:TEd):TId:=fun ρ μ Q=>te ρ μ fun e μ1=>∃ ds,LstOf μ1 e ds/\Q (itL e ds) μ1
def diT (te:TEd):TId:=fun ρ μ Q=>te ρ μ fun e μ1=>match e with
 | .d (.tuple ds)=>Q (itT ds) μ1
 | _=>False
def diR1 (ta:TAd):TId:=fun ρ μ Q=>ta ρ μ fun es μ1=>match es with
 | [.d (.int j)]=>-(2 ^ 62)<=j/\j<2 ^ 62/\Q (itR 0 j.toNat) μ1
 | _=>False
theorem ja {ds:List PyData}{i:Nat}{x:PyData}(h:ds[i]?=some x):ds.getD i .none=x:=by rw [qw,h];rfl
theorem jD {l:Expr}(hl:DE K X l te) (hK:X.K=K:=by rfl):DI K X tg l (diL te):=by
 subst hK
 refine PI.mono (qfS hl) fun σ H R hq9=>?_
 obtain ⟨ρ,μ,Q0,hS,hM,h,cl⟩:=hq9
 refine ⟨ρ,μ,_,hS,hM,h,fun e μ1 v H1 q M1 s1 i1=>?_⟩
 obtain ⟨ds,hL,q⟩:=q
 obtain ⟨p,xs,rfl,h1,h2⟩:=hL.get M1 i1
 refine ⟨p,rfl,⟨xs,h1⟩,cl _ μ1 _ H1 q M1 s1 fun μ' H' M' s' hok i=>?_⟩
 obtain ⟨p',xs',e',h3,h4⟩:=LstOf.get hok M' (i1.same s')
 cases e'
 have hl:=h4.len
 refine ⟨fun hi=>⟨⟨xs',xs'[i]'(by rw [hl];exact hi),h3,by simp⟩,?_⟩,fun hi=>⟨xs',h3,by rw [hl];exact hi⟩⟩
 rintro x H2 ⟨rfl,hx⟩
 refine ⟨M',qZ.refl _,?_⟩
 obtain ⟨d,e1,e2⟩:=h4.get (hx xs' h3)
 show Is X.K (mask μ' H2) x (ds.getD i .none)
 rw [ja e1]
 exact e2
theorem SqT.up {μ:Mu}{H:Hp}{p:Addr}{xs:List V}(h:SqT K (mask μ H) p xs):SqT K H p xs:=by
 rcases h with (e | ⟨o,e⟩) | e
 ·exact .inl (.inl (yF _ _ e))
 ·exact .inl (.inr ⟨o,yF _ _ e⟩)
 ·exact .inr e
theorem SqT.same {H H':Hp}{p:Addr}{xs:List V}(s:qZ H H') (h:SqT K H p xs):SqT K H' p xs:=by
 rcases h with (e | ⟨o,e⟩) | e
 ·exact .inl (.inl (s _ _ e))
 ·exact .inl (.inr ⟨o,s _ _ e⟩)
 ·exact .inr e
theorem qiq {l:Expr}(hl:DE K X l te) (hK:X.K=K:=by rfl):DI K X tg l (diT te):=by
 subst hK
 refine PI.mono (qhy hl) fun σ H R hq9=>?_
 obtain ⟨ρ,μ,Q0,hS,hM,h,cl⟩:=hq9
 refine ⟨ρ,μ,_,hS,hM,h,fun e μ1 v H1 q M1 s1 i1=>?_⟩
 split at q
 ·rename_i ds
  cases i1 with
  | @tup p xs _ h1 h2 =>
   refine ⟨p,rfl,⟨xs,h1.up⟩,cl _ μ1 _ H1 q M1 s1 fun μ' H' M' s' hok i=>?_⟩
   have h3:=(SqT.same s' h1).up
   have h4:=IsAll.same s' h2
   have hl:=h4.len
   refine ⟨fun hi=>⟨⟨xs,xs[i]'(by rw [hl];exact hi),h3,by simp⟩,?_⟩,fun hi=>⟨xs,h3,by rw [hl];exact hi⟩⟩
   rintro x H2 ⟨rfl,hx⟩
   refine ⟨M',qZ.refl _,?_⟩
   obtain ⟨d,e1,e2⟩:=h4.get (hx xs h3)
   show Is X.K (mask μ' H2) x (ds.getD i .none)
   rw [ja e1]
   exact e2
 ·exact q.elim
theorem qbo {lo:Int}{n:Nat}{μ1:Mu}{H1:Hp}:Sim K (itR lo n) μ1 H1 (Itr lo n):=fun μ' H' M' s' _ i =>
 ⟨fun hi=>⟨hi,fun x H2 ⟨e,y⟩=>by subst e y;exact ⟨M',qZ.refl _,.int _⟩⟩,fun hi=>hi⟩
theorem jt {a:Expr}{ta:TAd}{p:Pos}(hg:Gl X "range") (hm:X.mg "range" = none) (ha:DA K X [a] ta) (hs:starEach [a] X.env=[(false,eval a X.env)]:=by rfl):DI K X tg (.Call (.Name "range" p) [a] [] pos) (diR1 ta) :=
 PI.mono (qbV hg hm ha hs) fun σ H R ⟨ρ,μ,Q0,hS,hM,h,cl⟩=>⟨ρ,μ,_,hS,hM,h,fun es μ1 vs H1 q M1 s1 i1=>by
  split at q
  ·obtain ⟨v,rfl,h1⟩:=JF i1
   cases h1
   exact ⟨_,rfl,q.1,q.2.1,cl _ μ1 _ H1 q.2.2 M1 s1 qbo⟩
  ·exact q.elim⟩
def Wks (P:Rho->Mu->Prop):Rho->Mu->Prop:=fun ρ μ=>∃ ρ' μ',Wk ρ μ ρ' μ'/\P ρ' μ'
theorem Wks.of {P:Rho->Mu->Prop}{ρ:Rho}{μ:Mu}(h:P ρ μ):Wks P ρ μ:=⟨ρ,μ,Wk.refl,h⟩
def dFor (ti:TId) (g:TGd) (tb:TSd):TSd:=fun D ρ μ=>ti ρ μ fun J μ1=>∃ Pv:Nat->Rho->Mu->Prop,Pv 0 ρ μ1/\(∀ i ρ' μ',i<=J.n->Pv i ρ' μ'->J.ok μ') ∧
 (∀ i ρ' μ',i<J.n->Pv i ρ' μ'->g (J.item i) ρ' μ' fun ρ2 μ2=>tb { D with nx:=Wks (Pv (i+1)),ct:=Wks (Pv (i+1)),bk:=D.nx } ρ2 μ2)/\∀ ρ' μ',Pv J.n ρ' μ'->D.nx ρ' μ'
theorem J6 {body:List Stmt}{ti:TId}{g:TGd}{tb:TSd}(hp:PassesOwn (model X.prog X.w) X.A X.env X.xe) (hc:X.calm=true) (hi:DI K X tg iter ti) (hg:DG K X tg g) (hb:DSs K X body tb)
  (hs:∀ x,foldedSetIterable iter X.env x=pure x:=by intro _;rfl):DS K X (.For tg iter body [] pos) (dFor ti g tb):=by
 refine PS.mono (qhx hp hc hi hg hb hs) fun D σ H hq9=>?_
 obtain ⟨ρ,μ,D0,hS,hM,h,cl⟩:=hq9
 refine ⟨ρ,μ,_,hS,hM,h,fun J0 μ1 J H1 q M1 s1 sim=>?_⟩
 obtain ⟨Pv,h0,hok,hstep,hend⟩:=q
 refine ⟨fun i m σ' H'=>m=J0.n - i/\i<=J0.n/\∃ ρ' μ',RelS K ρ' μ' σ' H'/\RelM K μ' H'/\qZ (mask μ1 H1) (mask μ' H')/\Pv i ρ' μ',⟨_,rfl,yc _,ρ,μ1,hS.same s1,M1,qZ.refl _,h0⟩,?_⟩
 rintro i m σ' H' ⟨rfl,hi,ρ',μ',S',M',s',p⟩
 have sm:=sim μ' H' M' s' (hok i ρ' μ' hi p) i
 by_cases hlt:i<J0.n
 ·obtain ⟨hgo,hy⟩:=sm.1 hlt
  refine .inr ⟨hgo,fun σ2 H2=>∃ ρ' μ',RelS K ρ' μ' σ2 H2/\RelM K μ' H2/\qZ (mask μ1 H1) (mask μ' H2)/\Pv (i+1) ρ' μ',fun σ2 H2 z=>⟨J0.n - (i+1),by omega,rfl,hlt,z⟩,fun x H2 y=>?_⟩
  obtain ⟨M2,s2,i2⟩:=hy x H2 y
  refine ⟨_,ρ',μ',_,i2,S'.same s2,M2,hstep i ρ' μ' hlt p,fun ρ3 μ3 σ3 H3 q3 S3 M3 s3=>⟨ρ3,μ3,_,S3,M3,q3,?_⟩⟩
  have st:=(s'.trans s2).trans s3
  have again:∀ {ρ4 μ4 σ4 H4},Wks (Pv (i+1)) ρ4 μ4->RelS K ρ4 μ4 σ4 H4->RelM K μ4 H4->qZ (mask μ3 H3) (mask μ4 H4)->∃ ρ' μ',RelS K ρ' μ' σ4 H4/\RelM K μ' H4/\qZ (mask μ1 H1) (mask μ' H4)/\Pv (i+1) ρ' μ':=by
   rintro ρ4 μ4 σ4 H4 ⟨ρ5,μ5,wk,p5⟩ S4 M4 s4
   obtain ⟨S5,M5,s5⟩:=wk K σ4 H4 S4 M4
   exact ⟨ρ5,μ5,S5,M5,(st.trans s4).trans s5,p5⟩
  exact ⟨fun _ _ _ _ a b c d=>again a b c d,cl.rt.same (s1.trans st),cl.nx.same (s1.trans st),fun _ _ _ _ a b c d=>again a b c d⟩
 ·have e:i=J0.n:=by omega
  subst e
  exact .inl ⟨sm.2 (qk _),cl.nx _ μ' _ H' (hend ρ' μ' p) S' M' (s1.trans s')⟩
def qiz (c:TTd) (tb:TSd):TSd:=fun D ρ μ=>∃ Pv:Nat->Rho->Mu->Prop,(∃ m,Pv m ρ μ)/\∀ m ρ' μ',Pv m ρ' μ'->c ρ' μ' fun b μ1=>if b=true then
 tb { D with nx:=fun ρ2 μ2=>∃ m',m'<m/\Wks (Pv m') ρ2 μ2,ct:=fun ρ2 μ2=>∃ m',m'<m/\Wks (Pv m') ρ2 μ2,bk:=D.nx } ρ' μ1 else D.nx ρ' μ1
theorem YF {c:Expr}{body:List Stmt}{tc:TTd}{tb:TSd}(hp:PassesOwn (model X.prog X.w) X.A X.env X.xe) (hc:DT K X c tc) (hb:DSs K X body tb):DS K X (.While c body [] pos) (qiz tc tb):=by
 refine PS.mono (qdz hp hc hb) fun D σ H hq9=>?_
 obtain ⟨ρ,μ,D0,hS,hM,h,cl⟩:=hq9
 obtain ⟨Pv,⟨m0,h0⟩,hstep⟩:=h
 refine ⟨fun m σ' H'=>∃ ρ' μ',RelS K ρ' μ' σ' H'/\RelM K μ' H'/\qZ (mask μ H) (mask μ' H')/\Pv m ρ' μ',⟨m0,ρ,μ,hS,hM,qZ.refl _,h0⟩,?_⟩
 rintro m σ' H' ⟨ρ',μ',S',M',s',p⟩
 refine ⟨ρ',μ',_,S',M',hstep m ρ' μ' p,fun k μ1 H1 q M1 s1=>?_⟩
 cases k with
 | true =>
  refine qeZ ⟨fun σ2 H2=>∃ m',m'<m/\∃ ρ' μ',RelS K ρ' μ' σ2 H2/\RelM K μ' H2/\qZ (mask μ H) (mask μ' H2)/\Pv m' ρ' μ',fun σ2 H2 z=>z,ρ',μ1,_,S'.same s1,M1,by simpa using q,?_⟩
  have st:=s'.trans s1
  have again:∀ {ρ4 μ4 σ4 H4},(∃ m',m'<m/\Wks (Pv m') ρ4 μ4)->RelS K ρ4 μ4 σ4 H4->RelM K μ4 H4->qZ (mask μ1 H1) (mask μ4 H4)->∃ m',m'<m/\∃ ρ' μ',RelS K ρ' μ' σ4 H4/\RelM K μ' H4/\qZ (mask μ H) (mask μ' H4)/\Pv m' ρ' μ':=by
   rintro ρ4 μ4 σ4 H4 ⟨m',hm,ρ5,μ5,wk,p5⟩ S4 M4 s4
   obtain ⟨S5,M5,s5⟩:=wk K σ4 H4 S4 M4
   exact ⟨m',hm,ρ5,μ5,S5,M5,(st.trans s4).trans s5,p5⟩
  exact ⟨fun _ _ _ _ a b c d=>again a b c d,cl.rt.same st,cl.nx.same st,fun _ _ _ _ a b c d=>again a b c d⟩
 | false=>exact qc8 (cl.nx _ μ1 _ H1 (by simpa using q) (S'.same s1) M1 (s'.trans s1))
def qiy:TTd:=fun _ μ Q=>Q true μ
def DIfs (K:W.Frag) (X:Cx) (ifs:List Expr) (t:TTd):Prop:=Ifs X ifs (upT K t)
theorem jE:DIfs K X [] qiy:=fun pins s σ H Q I ⟨ρ,μ,Q0,hS,hM,h,cl⟩=>qgm pins s σ H Q I (cl true μ H h hM (qZ.refl _))
def Fin1 (Q:En->Mu->Prop) (ys:List PyData) (μ:Mu):Prop:=Q (.d (.list ys)) μ
def qgE (k:Nat) (ti:TId) (g:TGd) (tt:TTd) (te:TEd):TEd:=fun ρ μ Q=>ti ρ μ fun J μ1=>J.n<=4000/\∃ Pv:Nat->List PyData->Rho->Mu->Prop,Pv 0 [] (ρ++List.replicate k none) μ1/\(∀ i ys ρ' μ',i<=J.n->Pv i ys ρ' μ'->J.ok μ') ∧
 (∀ i ys ρ' μ',i<J.n->Pv i ys ρ' μ'->g (J.item i) ρ' μ' fun ρ2 μ2=>tt ρ2 μ2 fun b μ3=>if b=true then te ρ2 μ3 fun y μ4=>∃ z,y = .d z/\Pv (i+1) (ys++[z]) ρ2 μ4 else Pv (i+1) ys ρ2 μ3) ∧
 ∀ ys ρ' μ',Pv J.n ys ρ' μ'->Fin1 Q ys μ'
theorem qbh {k:Nat}{ti:TId}{g:TGd}{tt:TTd}{te:TEd}{σ:St}{H:Hp}{Q:VK}(h:up K (qgE k ti g tt te) σ H Q):qfu k (upI K ti) (upG K g) (upT K tt) (up K te) σ H Q:=by
 obtain ⟨ρ,μ,Q0,hS,hM,h,cl⟩:=h
 refine ⟨ρ,μ,_,hS,hM,h,fun J0 μ1 J H1 q M1 s1 sim=>?_⟩
 obtain ⟨hn,Pv,h0,hok,hstep,hend⟩:=q
 have S0:RelS K (ρ++List.replicate k none) μ1 (σ++List.replicate k none) H1:=by
  have S1:=hS.same s1
  refine ⟨by simp [S1.len],fun i e he=>?_⟩
  by_cases hi:i<ρ.length
  ·rw [qP hi] at he
   rw [qP (by rw [<- S1.len];exact hi)]
   exact S1.get i e he
  ·rw [qM (by omega),List.getElem?_replicate] at he
   split at he <;> cases he
 refine ⟨fun i m ys σ' H'=>m=J0.n - i/\i<=J0.n/\ys.length<=i/\∃ ds ρ' μ',RelS K ρ' μ' σ' H'/\RelM K μ' H'/\qZ (mask μ1 H1) (mask μ' H')/\IsAll K (mask μ' H') ys ds/\Pv i ds ρ' μ',⟨_,rfl,yc _,qk _,[],_,μ1,S0,M1,qZ.refl _,.nil,h0⟩,?_⟩
 rintro i m ys σ' H' ⟨rfl,hi,hy,ds,ρ',μ',S',M',s',hA,p⟩
 have sm:=sim μ' H' M' s' (hok i ds ρ' μ' hi p) i
 by_cases hlt:i<J0.n
 ·obtain ⟨hgo,hyl⟩:=sm.1 hlt
  refine .inr ⟨hgo,yI (by omega),fun ys2 σ2 H2=>ys2.length<=i+1/\∃ ds ρ' μ',RelS K ρ' μ' σ2 H2/\RelM K μ' H2/\qZ (mask μ1 H1) (mask μ' H2)/\IsAll K (mask μ' H2) ys2 ds/\Pv (i+1) ds ρ' μ',fun ys2 σ2 H2 z=>⟨J0.n - (i+1),by omega,rfl,hlt,z⟩,fun x H2 y=>?_⟩
  obtain ⟨M2,s2,i2⟩:=hyl x H2 y
  refine ⟨_,ρ',μ',_,i2,S'.same s2,M2,hstep i ds ρ' μ' hlt p,fun ρ3 μ3 σ3 H3 q3 S3 M3 s3=>⟨ρ3,μ3,_,S3,M3,q3,fun b μ4 H4 q4 M4 s4=>?_⟩⟩
  have st:=((s'.trans s2).trans s3).trans s4
  cases b with
  | true =>
   refine qeZ ⟨ρ3,μ4,_,S3.same s4,M4,(by simpa using q4),fun e μ5 v H5 q5 M5 s5 i5=>?_⟩
   obtain ⟨z,rfl,q5⟩:=q5
   exact ⟨by simp;omega,_,ρ3,μ5,(S3.same s4).same s5,M5,st.trans s5,IsAll.snoc i5 (IsAll.same (((s2.trans s3).trans s4).trans s5) hA),q5⟩
  | false=>exact qc8 ⟨by omega,_,ρ3,μ4,S3.same s4,M4,st,IsAll.same ((s2.trans s3).trans s4) hA,by simpa using q4⟩
 ·have e:i=J0.n:=by omega
  subst e
  refine .inl ⟨sm.2 (qk _),fun D hD=>?_⟩
  obtain ⟨M4,s4,hn⟩:=M'.laid (o:=.lst ys) hD
  exact cl _ μ' _ _ (hend ds ρ' μ' p) M4 ((s1.trans s').trans s4) (.lst (SqL.of (by rw [yC hn];exact yb)) (IsAll.same s4 hA))
theorem JE {L:List Str}{scope sc:Scope}{N:List Str}{elt:Expr}{ifs:List Expr}{ti:TId}{g:TGd}{tt:TTd}{te:TEd}
  (hc:X.calm=true) (hsc:X.env.scope=sc) (hN:X.N=N) (ok:jQ sc N L scope=true)
  (hi:DI K X tg iter ti) (hg:∀ cl C s₂ H₂ fp,DG K (yr X L scope cl C s₂ H₂ fp) tg g) (hf:∀ cl C s₂ H₂ fp,DIfs K (yr X L scope cl C s₂ H₂ fp) ifs tt) (he:∀ cl C s₂ H₂ fp,DE K (yr X L scope cl C s₂ H₂ fp) elt te)
  (hs:∀ x,foldedSetIterable iter X.env x=pure x:=by intro _;rfl) :
  DE K X (.ListComp elt [⟨tg,iter,ifs,0⟩] scope pos) (qgE L.length ti g tt te):=PE.mono (qfX hc hsc hN ok hi hg hf he hs) fun _ _ _=>qbh
theorem qgv {i:Nat}{x:Str}{pos' spos:Pos}{L:List Str}{scope sc:Scope}{N:List Str}{elt:Expr}{ifs:List Expr}{ti:TId}{g:TGd}{tt:TTd}{te:TEd}
  (hNd:X.N.Nodup) (hxi:X.N[i]?=some x) (hx:Loc X.env.scope x)
  (hc:X.calm=true) (hsc:X.env.scope=sc) (hN:X.N=N) (ok:jQ sc N L scope=true)
  (hi:DI K X tg iter ti) (hg:∀ cl C s₂ H₂ fp,DG K (yr X L scope cl C s₂ H₂ fp) tg g) (hf:∀ cl C s₂ H₂ fp,DIfs K (yr X L scope cl C s₂ H₂ fp) ifs tt) (he:∀ cl C s₂ H₂ fp,DE K (yr X L scope cl C s₂ H₂ fp) elt te)
  (hsw:swapsWith (.ListComp elt [⟨tg,iter,ifs,0⟩] scope pos) (some (.Name x pos')) spos.line X.env=pure true:=by rfl)
  (hs:∀ x,foldedSetIterable iter X.env x=pure x:=by intro _;rfl)
  (hfn:X.fn x=true\/X.env.scope.names.lookup x=some .local:=by first | exact .inl rfl | exact .inr rfl | assumption) :
  DS K X (.Assign [.Name x pos'] (.ListComp elt [⟨tg,iter,ifs,0⟩] scope pos) spos) (dAsg (qgE L.length ti g tt te) (jI i)) :=
 PS.mono (qfN hNd hxi hx hc hsc hN ok hi hg hf he hsw hs hfn) fun D σ H ⟨ρ,μ,D0,hS,hM,h,cl⟩=>qbh (Q:=fun x H1=>qdV i x σ H1 D.nx) ⟨ρ,μ,_,hS,hM,h,fun e' μ1 v H1 q M1 s1 i1=>cl.nx _ μ1 _ H1 q ((hS.same s1).set i1) M1 s1⟩
end
section
variable {P:Program}{w:World}{K:W.Frag}{mg:Str->Option Value}{base:Heap}{CX:CXT}
theorem Paired.mapSome {K:W.Frag}{μ:Mu}{H:Hp}{vs:List V}{es:List En}(h:Paired (IsE K μ H) vs es) (n m:Nat) (hn:n - vs.length=m - es.length):RelS K (es.map some++List.replicate (m - es.length) none) μ (vs.map some++List.replicate (n - vs.length) none) H:=by
 have hl:vs.length=es.length:=PySem.Paired.length h
 refine ⟨by simp [hl] at *;omega,fun i e he=>?_⟩
 by_cases hi:i<es.length
 ·rw [qP (by simpa using hi),List.getElem?_map] at he
  rw [qP (by simp;omega),List.getElem?_map]
  cases q:es[i]? with
  | none=>rw [q] at he;cases he
  | some e' =>
   rw [q] at he
   cases he
   obtain ⟨v,e1,e2⟩:=L2.Paired.get' h q
   exact ⟨v,by rw [e1];rfl,e2⟩
 ·rw [qM (by simp;omega),List.getElem?_replicate] at he
  split at he <;> cases he
theorem Fun.okD {x qual:Str}{st:Stmt}{f:Addr}{fd:FuncData}{N ps:List Str}{k:Nat}{sp:SpD}(F:Fun K x qual st f fd) (S:FnScope N ps (qu st)) (len:∀ es μ Q,sp es μ Q->es.length=ps.length)
  (hbody:∀ (cdv:Value) (A:Around) (outer:List Env) (s:Shared) (H:Hp) (E:XK) (es:List En) (μ:Mu) (Q:En->Mu->Prop),Room k (A.deeper (envOfC qual (qu st) s.heap.objs.size f cdv))->sp es μ Q →
   ∃ t,DSs K (qc9 CX P w K mg base N qual (qu st) f cdv A outer s H E).nox (yX st) t/\t { nx:=fun _ μ'=>Q (.d .none) μ',rt:=Q } (es.map some++List.replicate (N.length - es.length) none) μ):FnOk P w K mg base CX (k+1) f fd ps (yh K sp):=by
 refine F.okG S (fun vs H Q E ⟨μ,es,Q0,M,hp,h,cl⟩=>(PySem.Paired.length hp).trans (len es μ Q0 h)) (fun cdv A outer s H vs Q E hr ⟨μ,es,Q0,M,hp,h,cl⟩=>?_)
 obtain ⟨t,ht,hq⟩:=hbody cdv A outer s H E es μ Q0 hr h
 have hl:vs.length=es.length:=PySem.Paired.length hp
 refine ⟨upS K t,ht,_,μ,_,Paired.mapSome hp N.length N.length (by rw [hl]),M,hq,⟨fun ρ' μ' σ' H' q S' M' s'=>cl _ μ' .non H' q M' s' .non,cl,fun _ _ _ _ q=>q.elim,fun _ _ _ _ q=>q.elim⟩⟩
theorem Own.imp {k:Nat}{x:Str}{ps:List Str}{sp sp':Sp}(O:Own P w K mg base CX k x ps sp) (h:∀ vs H Q E,sp' vs H Q E->sp vs H Q E):Own P w K mg base CX k x ps sp':=by
 obtain ⟨f,fd,F,r⟩:=O
 exact ⟨f,fd,F.imp h,r⟩
end
section
variable {X:Cx}{K:W.Frag}{a b c:Expr}{ta tb tc:TEd}{tA tB:TTd}{pos:Pos}{es:List Expr}{tr:TAd}
def rdIx:R2d:=fun x y μ Q=>match x,y with
 | .d (.tuple ds),.d (.int i)=>∃ z,atI ds i=some z/\Q (.d z) μ
 | .d (.list ds),.d (.int i)=>∃ z,atI ds i=some z/\Q (.d z) μ
 | .m p,.d (.int i)=>∃ ds z,(p,.lst ds)∈μ/\atI ds i=some z/\Q (.d z) μ
 | _,_=>False
theorem qG (hK:X.K=K:=by rfl):IxR X (upR K rdIx):=by
 refine (IxR.or (qgu (K:=K) hK) (qio (K:=K) hK)).mono fun x y H Q h=>?_
 obtain ⟨μ,e,e',Q0,M,i1,i2,q,cl⟩:=h
 unfold rdIx at q
 split at q
 ·exact .inr ⟨μ,_,_,Q0,M,i1,i2,q,cl⟩
 ·obtain ⟨z,h1,q⟩:=q
  exact .inl ⟨μ,_,_,Q0,M,i1,i2,⟨_,z,.d _,h1,q⟩,cl⟩
 ·obtain ⟨ds,z,h0,h1,q⟩:=q
  exact .inl ⟨μ,_,_,Q0,M,i1,i2,⟨ds,z,.m h0,h1,q⟩,cl⟩
 ·exact q.elim
def qhk:R2d:=fun x y μ Q=>match x,y with
 | .d (.int i),.d (.int j)=>Q (.d (.int (i+j))) μ
 | _,_=>∃ ds es,LstOf μ x ds/\LstOf μ y es/\ds.length+es.length<=4000/\Q (.d (.list (ds++es))) μ
section forms
variable {g:TGd}{tb:TSd}{D:EndsD}{ρ:Rho}{μ:Mu}{te:TEd}{tt:TTd}{Q:En->Mu->Prop}
theorem qje {e:En}{ds:List PyData}(Pv:Nat->Rho->Mu->Prop) (h0:Pv 0 ρ μ) (hok:∀ i ρ' μ',Pv i ρ' μ'->LstOf μ' e ds)
  (hs:∀ i x ρ' μ',ds[i]?=some x->Pv i ρ' μ'->g (.d x) ρ' μ' fun ρ2 μ2=>tb { D with nx:=Wks (Pv (i+1)),ct:=Wks (Pv (i+1)),bk:=D.nx } ρ2 μ2) (hd:∀ ρ' μ',Pv ds.length ρ' μ'->D.nx ρ' μ') :
  ∃ Pv:Nat->Rho->Mu->Prop,Pv 0 ρ μ/\(∀ i ρ' μ',i<=(itL e ds).n->Pv i ρ' μ'->(itL e ds).ok μ') ∧
   (∀ i ρ' μ',i<(itL e ds).n->Pv i ρ' μ'->g ((itL e ds).item i) ρ' μ' fun ρ2 μ2=>tb { D with nx:=Wks (Pv (i+1)),ct:=Wks (Pv (i+1)),bk:=D.nx } ρ2 μ2)/\∀ ρ' μ',Pv (itL e ds).n ρ' μ'->D.nx ρ' μ':=by
 refine ⟨Pv,h0,fun i ρ' μ' _ p=>hok i ρ' μ' p,fun i ρ' μ' hi p=>?_,hd⟩
 have hi:i<ds.length:=hi
 have e1:ds[i]?=some ds[i]:=List.getElem?_eq_getElem hi
 show g (.d (ds.getD i .none)) ρ' μ' _
 rw [ja e1]
 exact hs i _ ρ' μ' e1 p
theorem forR {lo:Int}{n:Nat}(Pv:Nat->Rho->Mu->Prop) (h0:Pv 0 ρ μ)
  (hs:∀ i ρ' μ',i<n->Pv i ρ' μ'->g (.d (.int (lo+i))) ρ' μ' fun ρ2 μ2=>tb { D with nx:=Wks (Pv (i+1)),ct:=Wks (Pv (i+1)),bk:=D.nx } ρ2 μ2) (hd:∀ ρ' μ',Pv n ρ' μ'->D.nx ρ' μ') :
  ∃ Pv:Nat->Rho->Mu->Prop,Pv 0 ρ μ/\(∀ i ρ' μ',i<=(itR lo n).n->Pv i ρ' μ'->(itR lo n).ok μ') ∧
   (∀ i ρ' μ',i<(itR lo n).n->Pv i ρ' μ'->g ((itR lo n).item i) ρ' μ' fun ρ2 μ2=>tb { D with nx:=Wks (Pv (i+1)),ct:=Wks (Pv (i+1)),bk:=D.nx } ρ2 μ2)/\∀ ρ' μ',Pv (itR lo n).n ρ' μ'->D.nx ρ' μ' :=
 ⟨Pv,h0,fun i ρ' μ' _ p=>trivial,fun i ρ' μ' hi p=>hs i ρ' μ' hi p,hd⟩
abbrev qc6 (k:Nat) (J:Itd) (g:TGd) (tt:TTd) (te:TEd) (ρ:Rho) (μ1:Mu) (Q:En->Mu->Prop):Prop:=∃ Pv:Nat->List PyData->Rho->Mu->Prop,Pv 0 [] (ρ++List.replicate k none) μ1/\(∀ i ys ρ' μ',i<=J.n->Pv i ys ρ' μ'->J.ok μ') ∧
 (∀ i ys ρ' μ',i<J.n->Pv i ys ρ' μ'->g (J.item i) ρ' μ' fun ρ2 μ2=>tt ρ2 μ2 fun b μ3=>if b=true then te ρ2 μ3 fun y μ4=>∃ z,y = .d z/\Pv (i+1) (ys++[z]) ρ2 μ4 else Pv (i+1) ys ρ2 μ3) ∧
 ∀ ys ρ' μ',Pv J.n ys ρ' μ'->Fin1 Q ys μ'
theorem js {α:Type}{ds:List α}{i:Nat}{x:α}(h:ds[i]?=some x):ds.take (i+1)=ds.take i++[x]:=by rw [List.take_add_one,h];rfl
theorem takeN {α β:Type}(f:α->β) {ds:List α}{i:Nat}(hi:i<ds.length):(ds.take (i+1)).map f=(ds.take i).map f++[f ds[i]]:=by
 rw [js (List.getElem?_eq_getElem hi),List.map_append];rfl
structure Src (J:Itd) (ds:List PyData) (μ:Mu):Prop where
 n:J.n=ds.length
 it:∀ i x,ds[i]?=some x->J.item i = .d x
 ok:J.ok μ
theorem Src.l {e:En}{ds:List PyData}{μ:Mu}(h:LstOf μ e ds):Src (itL e ds) ds μ:=⟨rfl,fun i x e=>by show En.d (ds.getD i .none)=_;rw [ja e],h⟩
theorem Src.d {ds:List PyData}{μ:Mu}:Src (itL (.d (.list ds)) ds) ds μ:=Src.l (.d ds)
theorem Src.t {ds:List PyData}{μ:Mu}:Src (itT ds) ds μ:=⟨rfl,fun i x e=>by show En.d (ds.getD i .none)=_;rw [ja e],trivial⟩
def rng (lo:Int) (n:Nat):List PyData:=(List.range n).map fun (i:Nat)=>PyData.int (lo+(i:Int))
theorem Src.r {lo:Int}{n:Nat}{μ:Mu}:Src (itR lo n) (rng lo n) μ:=by
 refine ⟨by simp [rng,itR],fun i x e=>?_,trivial⟩
 unfold rng at e
 rw [List.getElem?_map] at e
 by_cases hi:i<n
 ·rw [List.getElem?_range hi] at e
  cases e
  rfl
 ·rw [List.getElem?_eq_none (by simpa using hi)] at e
  exact nomatch e
theorem compL {J:Itd}{ds:List PyData}(f:PyData->PyData) (S:Src J ds μ)
  (hs:∀ x,x∈ds->∀ R:En->Mu->Prop,R (.d (f x)) μ->te (ρ++[some (.d x)]) μ R) (hq:Q (.d (.list (ds.map f))) μ):qc6 1 J (jI ρ.length) qiy te ρ μ Q:=by
 refine ⟨fun i ys ρ' μ'=>μ'=μ/\ys=(ds.take i).map f/\∃ v,ρ'=ρ++[v],⟨rfl,rfl,none,rfl⟩,fun i ys ρ' μ' _ ⟨h,_⟩=>by subst h;exact S.ok,?_,?_⟩
 ·rintro i ys ρ' μ' hi ⟨rfl,rfl,v,rfl⟩
  rw [S.n] at hi
  rw [S.it i _ (List.getElem?_eq_getElem hi)]
  unfold jI qiy
  have e2:(ρ++[v]).set ρ.length (some (.d ds[i]))=ρ++[some (.d ds[i])]:=by simp
  rw [e2]
  exact qeZ (hs ds[i] (qE hi) _ ⟨_,rfl,rfl,(takeN f hi).symm,_,rfl⟩)
 ·rintro ys ρ' μ' ⟨rfl,rfl,_⟩
  rw [S.n,qT]
  exact hq
theorem qiE {J:Itd}{α:Type}{as:List α}{h1 h2:α->PyData}(p:α->Bool) (f:α->PyData) (S:Src J (as.map fun a=>.tuple [h1 a,h2 a]) μ)
  (ht:∀ a,a∈as->∀ R:Bool->Mu->Prop,R (p a) μ->tt (ρ++[some (.d (h1 a)),some (.d (h2 a))]) μ R)
  (hs:∀ a,a∈as->p a=true->∀ R:En->Mu->Prop,R (.d (f a)) μ->te (ρ++[some (.d (h1 a)),some (.d (h2 a))]) μ R) (hq:Q (.d (.list ((as.filter p).map f))) μ):qc6 2 J (qd2 2 (JD (jI ρ.length) (JD (jI (ρ.length+1)) qd3))) tt te ρ μ Q:=by
 have hl:J.n=as.length:=by rw [S.n];simp
 refine ⟨fun i ys ρ' μ'=>μ'=μ/\ys=((as.take i).filter p).map f/\∃ v w,ρ'=ρ++[v,w],⟨rfl,rfl,none,none,rfl⟩,fun i ys ρ' μ' _ ⟨h,_⟩=>by subst h;exact S.ok,?_,?_⟩
 ·rintro i ys ρ' μ' hi ⟨rfl,rfl,v,w,rfl⟩
  rw [hl] at hi
  rw [S.it i (.tuple [h1 as[i],h2 as[i]]) (by rw [List.getElem?_map,List.getElem?_eq_getElem hi];rfl)]
  refine ⟨rfl,?_⟩
  show tt (((ρ++[v,w]).set ρ.length _).set (ρ.length+1) _) μ' _
  have e2:((ρ++[v,w]).set ρ.length (some (.d (h1 as[i])))).set (ρ.length+1) (some (.d (h2 as[i])))=ρ++[some (.d (h1 as[i])),some (.d (h2 as[i]))]:=by simp [List.set_append]
  rw [e2]
  refine ht as[i] (qE hi) _ ?_
  cases hp:p as[i] with
  | true =>
   refine qeZ (hs as[i] (qE hi) hp _ ⟨_,rfl,rfl,?_,_,_,rfl⟩)
   rw [js (List.getElem?_eq_getElem hi),List.filter_append,List.map_append]
   simp [hp]
  | false =>
   refine qc8 ⟨rfl,?_,_,_,rfl⟩
   rw [js (List.getElem?_eq_getElem hi),List.filter_append,List.map_append]
   simp [hp]
 ·rintro ys ρ' μ' ⟨rfl,rfl,_⟩
  rw [hl,qT]
  exact hq
theorem qcN {J:Itd}{α:Type}{as:List α}{h1 h2:α->PyData}(f:α->PyData) (S:Src J (as.map fun a=>.tuple [h1 a,h2 a]) μ)
  (hs:∀ a,a∈as->∀ R:En->Mu->Prop,R (.d (f a)) μ->te (ρ++[some (.d (h1 a)),some (.d (h2 a))]) μ R) (hq:Q (.d (.list (as.map f))) μ):qc6 2 J (qd2 2 (JD (jI ρ.length) (JD (jI (ρ.length+1)) qd3))) qiy te ρ μ Q :=
 qiE (fun _=>true) f S (fun a _ R h=>h) (fun a ha _=>hs a ha) (by rw [List.filter_eq_self.mpr (fun _ _=>rfl)];exact hq)
end forms
end
def Num (n:Int):Prop:=-1000000000000000000000000000000<n/\n<1000000000000000000000000000000
def qaE (p:Pt):Prop:=Num p.1/\Num p.2
def dvs (a b:Int):Int:=if a<0\/(a=0/\b<0) then -(Int.gcd a b:Int) else (Int.gcd a b:Int)
theorem qau {f r:Nat}:Nat.gcd r (f % r)=Nat.gcd f r:=by
 rw [Nat.gcd_comm r (f % r),<- Nat.gcd_rec,Nat.gcd_comm]
def Bd (B:Nat) (q:Pt):Prop:=q.1.natAbs<=B/\q.2.natAbs<=B
theorem qdY {a d:Int}{B:Nat}(hB:B<2 ^ 1000) (h0:d≠0) (hd:d.natAbs<=B):qa3 a d:=⟨h0,yu hd hB⟩
def crs (p q:Pt):Int:=p.1 * q.2 - p.2 * q.1
theorem FzR.pot {M a b:Int}{μ:Mu}{p:Addr}(ha:0<=a) (hb:0<=b) (hm:b<M):FzR ((p,.lst [.int a,.int b])::μ) (.m p) ((p,.pot M)::μ) (.m p):=fun K v H h i=>by
 have e:mask ((p,.lst [.int a,.int b])::μ) H=mask ((p,.pot M)::μ) H:=rfl
 refine ⟨⟨by simpa using h.nd,fun b' o ho=>?_⟩,i,by rw [e];exact qZ.refl _⟩
 rcases List.mem_cons.mp ho with z | z
 ·cases z
  obtain ⟨xs,e1,hs⟩:=h.ob p _ qm
  have:=IsAll.ints_of (ns:=[a,b]) hs
  subst this
  exact ⟨a,b,e1,ha,hb,hm⟩
 ·have:=h.ob b' o (qi _ z)
  exact this.same (by rw [e];exact qZ.refl _) rfl
def spTakeM (M:Int):Sp:=fun vs H Q _=>∃ (p:Addr) (m:Int),vs=[.ref p,.int m]/\Pot M H p/\0<m/\m<=100000000/\∀ d H',0<=d->d<m->Pot M H' p->Stp p H H'->Q (.int d) H'
def sDraw (M:Int):SpD:=fun es μ Q=>∃ (p:Addr) (m:Int),es=[.m p,.d (.int m)]/\(p,.pot M)∈μ/\0<m/\m<=100000000/\∀ d,0<=d->d<m->Q (.d (.int d)) μ
def qi4 (M:Int):SpD:=fun es μ Q=>∃ (p:Addr),es=[.m p]/\(p,.pot M)∈μ/\∀ n,Num n->Q (.d (.int n)) μ
theorem qbQ {K:W.Frag}{μ:Mu}{H H':Hp}{p:Addr}{M:Int}(h:RelM K μ H) (hp:(p,.pot M)∈μ) (hP:Pot M H' p) (s:Stp p H H'):RelM K μ H'/\qZ (mask μ H) (mask μ H'):=by
 obtain ⟨μ1,μ2,rfl⟩:=List.append_of_mem hp
 exact h.write (fun b u e n=>s b u e n) fun _=>hP
theorem draw_up {K:W.Frag}{M:Int}{vs:List V}{H:Hp}{Q:VK}{E:XK}(h:yh K (sDraw M) vs H Q E):spTakeM M vs H Q E:=by
 obtain ⟨μ,es,Q0,hM,hp,⟨p,m,rfl,hpot,m0,m1,q⟩,cl⟩:=h
 obtain ⟨v,v',rfl,i1,i2⟩:=ZL hp
 have i1:v=_:=i1
 subst i1
 cases i2
 refine ⟨p,m,rfl,hM.ob _ _ hpot,m0,m1,fun d H' d0 d1 hP s=>?_⟩
 obtain ⟨M',s'⟩:=qbQ hM hpot hP s
 exact cl _ μ _ H' (q d d0 d1) M' s' (.int d)
theorem zl0:0<=4000:=by decide
theorem zl2:2<=4000:=by decide
theorem zl3:3<=4000:=by decide
theorem zl4:4<=4000:=by decide
def qdj (K:W.Frag):Sp:=fun vs H Q _=>∃ (a:Addr) (ns:List Int),vs=[.ref a]/\SqL K H a (ns.map V.int)/\ns.length<=63/\∀ H',Q (.bl true) H'
def sLaw:SpD:=fun es μ Q=>∃ ns:List Int,es=[.d (.list (ns.map .int))]/\ns.length<=63/\μ=[]/\∀ μ',Q (.d (.bool true)) μ'
theorem qh3 {K:W.Frag}{vs:List V}{H:Hp}{Q:VK}{E:XK}(h:qdj K vs H Q E):yh K sLaw vs H Q E:=by
 obtain ⟨a,ns,rfl,hS,hl,q⟩:=h
 refine ⟨[],[.d (.list (ns.map .int))],fun e _=>e = .d (.bool true),RelM.nil,.cons ?_ .nil,⟨ns,rfl,hl,rfl,fun _=>rfl⟩,?_⟩
 ·show Is K (mask [] H) (.ref a) _
  rw [qao]
  exact .lst hS (IsAll.ints ns)
 ·rintro e μ' v H' rfl _ _ i
  cases i
  exact q H'
def srt (ns:List Int):List Int:=ns.mergeSort (fun a b=>decide (a<=b))
theorem Yr (ns:List Int):(srt ns).Perm ns:=List.mergeSort_perm ..
theorem qaL (ns:List Int):(srt ns).Pairwise (· <= ·):=by
 have:=List.pairwise_mergeSort (le:=fun a b:Int=>decide (a<=b)) (fun a b c h1 h2=>by simp at *;omega) (fun a b=>by simp;omega) ns
 exact this.imp fun h=>by simpa using h
theorem qg7 {ns ms:List Int}(hp:ms.Perm ns) (hs:ms.Pairwise (· <= ·)):ms=srt ns:=W.ksm_same (hp.trans (Yr ns).symm) hs (qaL ns)
theorem qbl (ns:List Int):(srt ns).length=ns.length:=(Yr ns).length_eq
theorem JA:∀ {vs:List Value}{ns:List Int},IntsAre vs ns->yo (ns.map V.int) vs
 | _,_,.nil=>.nil
 | _,_,.cons n t r=>.cons ⟨t,rfl⟩ (JA r)
section
variable {X:Cx}{K:W.Frag}{a b c:Expr}{ta tb tc:TEd}{tA tB:TTd}{pos:Pos}{es:List Expr}{tr:TAd}
def qhn (K:W.Frag):List V->Hp->VK->Prop:=fun xs H Q=>∃ (p:Addr) (ns:List Int),xs=[.ref p]/\SqL K H p (ns.map V.int)/\ns.length<64/\∀ l,H l=none->Q (.ref l) (upd H l (.lst ((srt ns).map V.int)))
theorem qa0:yA X (.builtin "sorted") (qhn X.K):=by
 intro pins s σ H xs us Q I r h
 obtain ⟨p,ns,rfl,hq,h64,q⟩:=h
 obtain ⟨u,rfl,rx⟩:=J9 r
 cases rx
 obtain ⟨its,rv,pl,hz⟩:=I.list hq
 have hl:=rv.length
 rw [List.length_map] at hl
 refine sorted_ints pl.isList (qaS rv) (by omega) fun out ns' a1 a2 a3=>?_
 have e:=qg7 a2 a3
 subst e
 obtain ⟨n,he⟩:=sortedAll_at s.heap its out
 have hsz:H (s.heap.objs.size+1)=none:=I.hok.fresh (Nat.le_succ _)
 refine ⟨.ref (s.heap.objs.size+1),upd H (s.heap.objs.size+1) (.lst ((srt ns).map V.int)),I.laid (t':=s.toks) (fun b o e=>sortedAll_old e) (Nat.le_succ _) ?_,rfl,q _ hsz⟩
 refine ⟨by rw [List.length_map,qbl];exact yp (yI (by omega)),out.toList,n,JA a1,?_⟩
 simpa [seqObj] using he
def qbF:RAd:=fun es μ Q=>match es with
 | [e]=>∃ ns:List Int,LstOf μ e (ns.map PyData.int)/\ns.length<64/\Q (.d (.list ((srt ns).map PyData.int))) μ
 | _=>False
theorem qd6 (hK:X.K=K:=by rfl):yA X (.builtin "sorted") (upC K qbF):=by
 subst hK
 refine qa0.mono fun xs H Q h=>?_
 obtain ⟨μ,es,Q0,M,hp,q,cl⟩:=h
 unfold qbF at q
 split at q
 ·obtain ⟨v,rfl,i1⟩:=JF hp
  obtain ⟨ns,h1,h64,q⟩:=q
  obtain ⟨p,ys,rfl,h2,h3⟩:=h1.get M i1
  rw [h3.ints_of] at h2
  refine ⟨p,ns,rfl,h2,h64,fun l hl=>?_⟩
  obtain ⟨M4,s4,hn⟩:=M.laid (o:=.lst ((srt ns).map V.int)) hl
  exact cl _ μ _ _ q M4 s4 (.lst (SqL.of (by rw [yC hn];exact yb)) (IsAll.ints _))
 ·exact q.elim
def rCatS (K:W.Frag):R2:=fun x y H Q=>∃ l b xs zs,x = .ref l/\y = .ref b/\SqL K H l xs/\SqL K H b zs/\xs.length+zs.length<=sizeLine/\∀ p,H p=none->Q (.ref p) (upd H p (.lst (xs++zs)))
theorem qf5:OpR X (binaryOp .Add) (rCatS X.K):=by
 intro pins s σ H x y v u Q I rx ry h
 obtain ⟨l,b,xs,zs,rfl,rfl,hH,hB,hz,q⟩:=h
 cases rx
 cases ry
 obtain ⟨its,r,pl,_⟩:=I.list hH
 obtain ⟨its2,r2,pl2,_⟩:=I.list hB
 obtain ⟨⟨cls,dd,data,sl⟩,ho,hc,n,hd⟩:=pl.isList
 obtain ⟨⟨cls2,dd2,data2,sl2⟩,ho2,hc2,n2,hd2⟩:=pl2.isList
 simp only at hc hd hc2 hd2
 subst hc hd hc2 hd2
 have h1:=r.length
 have h2:=r2.length
 have e:its.toArray++its2.toArray=(its++its2).toArray:=by simp
 refine concat_meets ⟨_,ho,rfl⟩ ⟨_,ho2,rfl⟩ noFill_list_add seq_list_add PySem.F.slot_list_add PySem.F.entry_list_add (PySem.F.args_list_add_2 _ _) (list_addW l b its.toArray its2.toArray n n2 dd dd2 sl sl2 (by simp;omega)) ⟨ho,ho2,?_⟩
 rw [e]
 exact ⟨.ref _,_,I.lnew (t':=s.toks) (r.append r2) (by rw [List.length_append];omega),rfl,q _ I.fresh⟩
theorem qay (hK:X.K=K:=by rfl):OpR X (binaryOp .Add) (upR K qhk):=by
 subst hK
 refine (OpR.or (qbZ (X:=X)) qf5).mono fun x y H Q h=>?_
 obtain ⟨μ,e,e',Q0,M,i1,i2,q,cl⟩:=h
 unfold qhk at q
 split at q
 ·cases i1;cases i2
  exact .inl ⟨_,_,rfl,rfl,cl _ μ _ H q M (qZ.refl _) (.int _)⟩
 ·obtain ⟨ds,es,h1,h2,hl,q⟩:=q
  obtain ⟨p,xs,rfl,a1,a2⟩:=h1.get M i1
  obtain ⟨p',xs',rfl,b1,b2⟩:=h2.get M i2
  refine .inr ⟨p,p',xs,xs',rfl,rfl,a1,b1,yp (yI (by rw [a2.len,b2.len];exact hl)),fun l hl=>?_⟩
  obtain ⟨M4,s4,hn⟩:=M.laid (o:=.lst (xs++xs')) hl
  exact cl _ μ _ _ q M4 s4 (.lst (SqL.of (by rw [yC hn];exact yb)) (IsAll.same s4 (IsAll.app b2 a2)))
end
section
variable {P:Program}{w:World}{K:W.Frag}{mg:Str->Option Value}{base:Heap}{CX:CXT}{k:Nat}{x:Str}{ps:List Str}{sp sp':Sp}{f:Addr}{fd:FuncData}
def spOr (sp sp':Sp):Sp:=fun vs H Q E=>sp vs H Q E\/sp' vs H Q E
theorem FnOk.or (h:FnOk P w K mg base CX k f fd ps sp) (h':FnOk P w K mg base CX k f fd ps sp'):FnOk P w K mg base CX k f fd ps (spOr sp sp') :=
 ⟨fun vs H Q E q=>q.elim (h.len vs H Q E) (h'.len vs H Q E),fun A outer s H args us vs Q E hr he hb hv q=>q.elim (h.run A outer s H args us vs Q E hr he hb hv) (h'.run A outer s H args us vs Q E hr he hb hv)⟩
theorem Own.l (O:Own P w K mg base CX k x ps (spOr sp sp')):Own P w K mg base CX k x ps sp:=O.imp fun _ _ _ _ h=>.inl h
theorem Own.r (O:Own P w K mg base CX k x ps (spOr sp sp')):Own P w K mg base CX k x ps sp':=O.imp fun _ _ _ _ h=>.inr h
theorem RelS.of {vs:List V}{es:List En}{H:Hp}(n:Nat) (h:Paired (IsE K [] H) vs es):RelS K (es.map some++List.replicate n none) [] (vs.map some++List.replicate n none) H:=by
 have:=Paired.mapSome (K:=K) h (vs.length+n) (es.length+n) (by omega)
 simpa using this
theorem IsE.nil {H:Hp}{v:V}{d:PyData}(h:Is K H v d):IsE K [] H v (.d d):=by
 show Is K (mask [] H) v d
 rw [qao];exact h
end
section
variable {g:TGd}{tb:TSd}{D:EndsD}{ρ:Rho}{μ:Mu}{te:TEd}{tt:TTd}{Q:En->Mu->Prop}
theorem qiD {J:Itd}{α:Type}{as:List α}{h:α->PyData}(p:α->Bool) (f:α->PyData) (S:Src J (as.map h) μ)
  (ht:∀ a,a∈as->∀ R:Bool->Mu->Prop,R (p a) μ->tt (ρ++[some (.d (h a))]) μ R)
  (hs:∀ a,a∈as->p a=true->∀ R:En->Mu->Prop,R (.d (f a)) μ->te (ρ++[some (.d (h a))]) μ R) (hq:Q (.d (.list ((as.filter p).map f))) μ):qc6 1 J (jI ρ.length) tt te ρ μ Q:=by
 have hl:J.n=as.length:=by rw [S.n];simp
 refine ⟨fun i ys ρ' μ'=>μ'=μ/\ys=((as.take i).filter p).map f/\∃ v,ρ'=ρ++[v],⟨rfl,rfl,none,rfl⟩,fun i ys ρ' μ' _ ⟨h,_⟩=>by subst h;exact S.ok,?_,?_⟩
 ·rintro i ys ρ' μ' hi ⟨rfl,rfl,v,rfl⟩
  rw [hl] at hi
  rw [S.it i (h as[i]) (by rw [List.getElem?_map,List.getElem?_eq_getElem hi];rfl)]
  unfold jI
  have e2:(ρ++[v]).set ρ.length (some (.d (h as[i])))=ρ++[some (.d (h as[i]))]:=by simp
  rw [e2]
  refine ht as[i] (qE hi) _ ?_
  cases hp:p as[i] with
  | true =>
   refine qeZ (hs as[i] (qE hi) hp _ ⟨_,rfl,rfl,?_,_,rfl⟩)
   rw [js (List.getElem?_eq_getElem hi),List.filter_append,List.map_append]
   simp [hp]
  | false =>
   refine qc8 ⟨rfl,?_,_,rfl⟩
   rw [js (List.getElem?_eq_getElem hi),List.filter_append,List.map_append]
   simp [hp]
 ·rintro ys ρ' μ' ⟨rfl,rfl,_⟩
  rw [hl,qT]
  exact hq
theorem qiC {J:Itd}{α:Type}{as:List α}{h:α->PyData}(f:α->PyData) (S:Src J (as.map h) μ)
  (hs:∀ a,a∈as->∀ R:En->Mu->Prop,R (.d (f a)) μ->te (ρ++[some (.d (h a))]) μ R) (hq:Q (.d (.list (as.map f))) μ):qc6 1 J (jI ρ.length) qiy te ρ μ Q :=
 qiD (fun _=>true) f S (fun a _ R h=>h) (fun a ha _=>hs a ha) (by rw [List.filter_eq_self.mpr (fun _ _=>rfl)];exact hq)
end
section
variable {s:List Int}(h:s.Pairwise (· <= ·)) {j:Nat}(hj:j<s.length) {c:Int}
include h hj
end
def twice:List Int->List Int
 | []=>[]
 | x::l=>x::x::twice l
mutual
theorem qav:∀ d:PyData,PyData.canLay0 d=true->PyData.eqv d d=true
 | .none,_=>by simp [PyData.eqv]
 | .bool b,_=>by simp [PyData.eqv]
 | .int i,_=>by simp [PyData.eqv]
 | .str x,_=>by simp [PyData.eqv]
 | .list xs,h=>by
  simp only [PyData.canLay0] at h
  simp only [PyData.eqv]
  exact j6 xs h
 | .tuple xs,h=>by
  simp only [PyData.canLay0] at h
  simp only [PyData.eqv]
  exact j6 xs h
 | .dict xs,h=>by simp [PyData.canLay0] at h
theorem j6:∀ ds:List PyData,PyData.canLayAll0 ds=true->PyData.eqvAll ds ds=true
 | [],_=>by simp [PyData.eqvAll]
 | d::ds,h=>by
  simp only [PyData.canLayAll0,Bool.and_eq_true] at h
  simp only [PyData.eqvAll,Bool.and_eq_true]
  exact ⟨qav d h.1,j6 ds h.2⟩
end
theorem Jl {d:PyData}(h:SeqAt.shaped d=true):PyData.eqv d d=true:=qav d (SeqAt.canLay_of_shaped h)
theorem Yp {α:Type}{f:α->PyData}(hf:∀ a,PyData.canLay0 (f a)=true):∀ as:List α,PyData.canLayAll0 (as.map f)=true
 | []=>by simp [PyData.canLayAll0]
 | a::as=>by simp [PyData.canLayAll0,hf a,Yp hf as]
theorem Zl {α:Type}{f:α->PyData}{n:Nat}(hf:∀ a,PyData.depth (f a)<=n):∀ as:List α,PyData.depthAll (as.map f)<=n+1
 | []=>by simp [PyData.depthAll]
 | a::as=>by
  have:=Zl hf as
  have:=hf a
  simp only [List.map_cons,PyData.depthAll]
  omega
section
variable {X:Cx}{K:W.Frag}{a b c:Expr}{ta tb tc:TEd}{tA tB:TTd}{pos:Pos}{es:List Expr}{tr:TAd}
end
theorem qd9 {ds:List PyData}(h:ds≠[]):YT ds none (some (-1))=ds.dropLast:=by
 have hl:0<ds.length:=yl.mpr h
 unfold YT HT.sIx
 simp only [List.drop_zero,Nat.sub_zero]
 rw [List.dropLast_eq_take]
 congr 1
 simp
 omega
end L2
namespace L2
open PySem PySem.Spec PyProof.Rows PySem.W PySem.SetTable
def Zy (K:W.Frag) (H:Hp) (v:V) (ks:List Int):Prop:=(∃ a,v = .ref a/\SqT K H a (ks.map V.int))/\ks≠[]
theorem Zy.same {K:W.Frag}{H H':Hp}{v:V}{ks:List Int}(h:Zy K H v ks) (s:qZ H H'):Zy K H' v ks:=by
 obtain ⟨⟨a,e,q⟩,n⟩:=h
 exact ⟨⟨a,e,SqT.same s q⟩,n⟩
def Srt (ms:List (List Int)):Prop:=ms.Pairwise fun a b=>¬ b<a
def qfz (P:Program) (w:World) (a:Addr) (bs:List (Addr×List Int)) (h:Heap):Prop :=
 ∃ o es ep t m,h.get? a=some o/\o.ExactSet/\o.data = .set es ep t/\t.plain=true/\t.led=(!jk w)/\jv m es.size/\SetI t es m es.size/\es.toList=bs.map (fun b=>(yn P w b.2,Value.ref b.1))/\(bs.map (·.2)).Nodup
def qfA (P:Program) (w:World) (a:Addr) (bs:List (Addr×List Int)):HO:=.ext (qfz P w a bs)
def InS (K:W.Frag) (H:Hp) (bs:List (Addr×List Int)):Prop:=∀ b∈bs,Zy K H (.ref b.1) b.2
theorem InS.same {K:W.Frag}{H H':Hp}{bs:List (Addr×List Int)}(h:InS K H bs) (s:qZ H H'):InS K H' bs:=fun b hb=>(h b hb).same s
theorem qfz.stay {P:Program}{w:World}{a:Addr}{bs:List (Addr×List Int)}{h1 h2:Heap}(p:qfz P w a bs h1) (k:∀ o,h1.get? a=some o->h2.get? a=some o):qfz P w a bs h2:=by
 obtain ⟨o,es,ep,t,m,ho,r⟩:=p
 exact ⟨o,es,ep,t,m,k o ho,r⟩
theorem qfz.ok {P:Program}{w:World}{H:Hp}{a:Addr}{bs:List (Addr×List Int)}{h:Heap}(p:qfz P w a bs h):jq P w H h a (qfA P w a bs):=by
 refine ⟨p,?_,fun h1 h2 p1 k=>p1.stay k⟩
 obtain ⟨o,_,_,_,_,ho,_⟩:=p
 exact ⟨o,ho⟩
theorem qcB {P:Program}{w:World}{h:Heap}:∀ {l:List (Int×Value)}{ms:List (List Int)},PySem.Paired (YS P w h) l ms->∃ bs:List (Addr×List Int),l=bs.map (fun b=>(yn P w b.2,Value.ref b.1))/\bs.map (·.2)=ms/\∀ b∈bs,y3 h (.ref b.1) b.2
 | _,_,.nil=>⟨[],rfl,rfl,(fun _ z=>nomatch z)⟩
 | _,_,.cons (a:=e) (b:=ks) r t=>by
  obtain ⟨bs,e1,e2,e3⟩:=qcB t
  obtain ⟨hh,v⟩:=e
  obtain ⟨r1,r2⟩:=r
  obtain ⟨b,_,_,_,eb,_⟩:=id r1
  dsimp only at eb r1 r2
  subst eb
  refine ⟨(b,ks)::bs,?_,?_,fun c hc=>?_⟩
  ·rw [List.map_cons,<- e1,r2]
  ·rw [List.map_cons,e2]
  ·rcases List.mem_cons.mp hc with rfl | hc
   ·exact r1
   ·exact e3 c hc
theorem qcY {P:Program}{w:World}{h:Heap}:∀ {bs:List (Addr×List Int)},(∀ b∈bs,y3 h (.ref b.1) b.2)->PySem.Paired (YS P w h) (bs.map (fun b=>(yn P w b.2,Value.ref b.1))) (bs.map (·.2))
 | [],_=>.nil
 | b::bs,k=>.cons ⟨k b qm,rfl⟩ (qcY fun c hc=>k c (qi _ hc))
section
variable {X:Cx}{pins:List (Addr×Obj)}{σ:St}{H:Hp}{s:Shared}
theorem qib:∀ {ns:List Int}{us:List Value},yo (ns.map V.int) us->IntsAre us ns
 | [],_,.nil=>.nil
 | n::ns,_,.cons ⟨t,e⟩ r=>by
  subst e
  exact .cons n t (qib r)
theorem Inv.tupK (I:Inv X pins σ H s) {a:Addr}{ks:List Int}(h:Zy X.K H (.ref a) ks):y3 s.heap (.ref a) ks:=by
 obtain ⟨⟨a',e,ha⟩,hn⟩:=h
 cases e
 obtain ⟨its,r,⟨o,ho,hc,n,hd⟩,hz⟩:=I.tuple ha
 exact ⟨a,o,its.toArray,n,rfl,ho,hc,hd,by simpa using qib r,hn⟩
theorem Inv.tupsK (I:Inv X pins σ H s):∀ {us:List V}{its:List Value}{kss:List (List Int)},PySem.Paired (Zy X.K H) us kss->yo us its->PySem.Paired (y3 s.heap) its kss
 | _,_,_,.nil,.nil=>.nil
 | _,_,_,.cons h t,.cons r q=>by
  obtain ⟨⟨a,e,ha⟩,hn⟩:=id h
  subst e
  cases r
  exact .cons (I.tupK h) (Inv.tupsK I t q)
theorem Inv.setT (I:Inv X pins σ H s) {a:Addr}{bs:List (Addr×List Int)}(h:H a=some (qfA X.prog X.w a bs)) (hb:InS X.K H bs):Z1 X.prog X.w (fun v=>∃ b∈bs,v=Value.ref b.1) s.heap a (bs.map (·.2)):=by
 obtain ⟨⟨o,es,ep,t,m,ho,ex,hd,pl,ld,mo,si,ee,nd⟩,_⟩:=I.hok a _ h
 refine ⟨o,es,ep,t,m,ho,ex,hd,pl,ld,mo,si,?_,nd,fun e he=>?_⟩
 ·rw [ee]
  exact qcY fun b hbb=>I.tupK (hb b hbb)
 ·rw [ee] at he
  obtain ⟨b,h1,rfl⟩:=qI.mp he
  exact ⟨b,h1,rfl⟩
theorem qde {us:List V}{its:List Value}(r:yo us its) {kss:List (List Int)}(h:PySem.Paired (Zy X.K H) us kss) {b:Addr}(hb:Value.ref b∈its):∃ i:Nat,us[i]?=some (V.ref b):=by
 obtain ⟨i,ei⟩:=qR hb
 have hi:i<us.length:=by rw [r.length];exact (qo.mp ei).1
 obtain ⟨ks,_,⟨⟨a,e,_⟩,_⟩⟩:=L2.Paired.get h (List.getElem?_eq_getElem hi)
 obtain ⟨u,e1,e2⟩:=yo.get r (List.getElem?_eq_getElem hi)
 rw [ei] at e1
 cases e1
 rw [e] at e2
 have:Value.ref b=Value.ref a:=e2
 cases this
 exact ⟨i,by rw [List.getElem?_eq_getElem hi,e]⟩
def rSet (X:Cx):List V->Hp->VK->Prop:=fun xs H Q=>∃ (p:Addr) (us:List V) (kss:List (List Int)),xs=[.ref p]/\SqL X.K H p us/\PySem.Paired (Zy X.K H) us kss/\(∀ ms:List (List Int),ms.Nodup->(∀ q∈ms,q∈kss)->ms.length<4900) ∧
 ∀ S bs,H S=none->InS X.K H bs->(∀ b∈bs,∃ i:Nat,us[i]?=some (V.ref b.1)/\kss[i]?=some b.2)->(∀ q,q∈bs.map (·.2) ↔ q∈kss)->(bs.map (·.2)).Nodup->bs.length<4915->Q (.ref S) (upd H S (qfA X.prog X.w S bs))
theorem qcR (hc:X.calm=true) (hu:X.A.units+64<cLine):yA X (.type "set") (rSet X):=by
 intro pins s σ H xs us Q I r h
 obtain ⟨p,vs,kss,rfl,hS,hT,hl,q⟩:=h
 obtain ⟨u,rfl,rx⟩:=J9 r
 cases rx
 obtain ⟨its,rv,pl,_⟩:=I.list hS
 have hK:=I.tupsK hT rv
 have hlen:=rv.length
 refine qaN (I.ok.hd hc) pl.isList hK (fun ms nd hm=>Nat.lt_trans (hl ms nd hm) (by decide)) hu fun h' tk ms S2 mem kp=>?_
 obtain ⟨o,es,ep,t,m,D⟩:=S2
 obtain ⟨bs,e1,e2,e3⟩:=qcB D.en
 subst e2
 have fr:H s.heap.objs.size=none:=I.hok.fresh (qk _)
 have own:∀ b∈bs,∃ i:Nat,vs[i]?=some (V.ref b.1):=fun b hb=>by
  refine qde rv hT (D.own (yn X.prog X.w b.2,Value.ref b.1) ?_)
  rw [e1]
  exact qI.mpr ⟨b,hb,rfl⟩
 have inS2:∀ b∈bs,Zy X.K H (.ref b.1) b.2/\∃ i:Nat,vs[i]?=some (V.ref b.1)/\kss[i]?=some b.2:=fun b hb=>by
  obtain ⟨i,ei⟩:=own b hb
  obtain ⟨ks,ek,tn⟩:=L2.Paired.get hT ei
  have k1:y3 h' (.ref b.1) ks:=(I.tupK tn).kept fun c ob e _=>kp c ob e
  have:=(k1.key (prog:=X.prog) (w:=X.w)).inj ((e3 b hb).key (prog:=X.prog) (w:=X.w))
  rw [<- this]
  exact ⟨tn,i,ei,ek⟩
 have inS:InS X.K H bs:=fun b hb=>(inS2 b hb).1
 have lt:bs.length<4915:=by
  have:=D.mok.le
  have z:es.toList.length=bs.length:=by rw [e1,List.length_map]
  rw [Array.length_toList] at z
  omega
 refine ⟨.ref s.heap.objs.size,_,I.laid (t':=tk) kp (qk _) (o:=qfA X.prog X.w s.heap.objs.size bs) (qfz.ok ⟨o,es,ep,t,m,D.ho,D.ex,D.hd,D.pl,D.ld,D.mok,D.si,e1,D.nd⟩),rfl,q _ bs fr inS (fun b hb=>(inS2 b hb).2) mem D.nd lt⟩
theorem qem {h:Heap}{vs:List Value}{kss:List (List Int)}{p:Array Nat}(hT:PySem.Paired (y3 h) vs kss) (hp:Arr vs.length p) :
  PySem.Paired (y3 h) (qaD vs p) (p.toList.map fun i=>kss.getD i [])/\(p.toList.map fun i=>kss.getD i []).Perm kss:=by
 have lt:∀ i∈p.toList,i<vs.length:=fun i hi=>by
  have:=(Array.Perm.mem_iff hp (a:=i)).mp (Array.mem_toList_iff.mp hi)
  simpa using this
 constructor
 ·unfold qaD
  generalize p.toList=l at lt
  induction l with
  | nil=>exact .nil
  | cons i l ih=>exact .cons (je hT i (lt i qm)) (ih fun j hj=>lt j (qi _ hj))
 ·have p1:p.toList.Perm (List.range vs.length):=by
   have:=yx.mp hp
   simpa using this
  refine (p1.map fun i=>kss.getD i []).trans ?_
  rw [L2.Paired.len hT]
  refine List.Perm.of_eq ?_
  apply List.ext_getElem?
  intro i
  simp only [List.getElem?_map,List.getElem?_range]
  by_cases hi:i<kss.length
  ·simp [hi]
  ·simp [hi]
theorem qgK {kss:List (List Int)}{n:Nat}{p:Array Nat}(hp:Arr n p) (hs:qa2 (ltK kss) p n):Srt (p.toList.map fun i=>kss.getD i []):=by
 unfold Srt
 rw [List.pairwise_map]
 refine qF.mpr fun i j hi hj hij=>?_
 have hj':j<n:=by
  have:=hp.size
  simp at hj
  omega
 have:=hs i j (yp hij) hj'
 unfold ltK at this
 have:=of_decide_eq_false this
 have e1:gD p i=p.toList[i]:=by simp at hi;simp [gD,hi]
 have e2:gD p j=p.toList[j]:=by simp at hj;simp [gD,hj]
 rw [e1,e2] at this
 exact this
def qiV (H:Hp) (Pv:V->List Int->Prop) (kss:List (List Int)) (Q:VK):Prop:=∀ D vs ms,H D=none->PySem.Paired Pv vs ms->ms.Perm kss->Srt ms->Q (.ref D) (upd H D (.lst vs))
theorem qaM {Q:VK}{x:Value}{Pv:V->List Int->Prop}{kss:List (List Int)}(I:Inv X pins σ H s) (q:qiV H Pv kss Q) {R:List Value->List (List Int)->Prop}
  (hR:∀ vs ms,R vs ms->(∀ v∈vs,∃ b ks,v=Value.ref b/\Zy X.K H (.ref b) ks/\Pv (.ref b) ks)/\ms.Perm kss) (hcol:∀ E',wpAny (model X.prog X.w) X.A.in1 (collect x) (qiZ s R) E' s):wpAny (model X.prog X.w) X.A (call (.builtin "sorted") [x]) (EP X pins σ Q) X.xe s:=by
 refine qbm hcol fun vs ms p h' tk D e hr hp hs hT hz kp hD he=>?_
 obtain ⟨r1,r2⟩:=hR vs ms hr
 obtain ⟨a1,a2⟩:=qem hT hp
 have hV:∀ l:List Value,(∀ v∈l,∃ b ks,v=Value.ref b/\Zy X.K H (.ref b) ks/\Pv (.ref b) ks)->∃ ws:List V,yo ws l/\∀ ks,PySem.Paired (y3 h') l ks->PySem.Paired Pv ws ks:=by
  intro l
  induction l with
  | nil=>exact fun _=>⟨[],.nil,fun ks z=>(by cases z;exact .nil)⟩
  | cons v l ih =>
   intro hl
   obtain ⟨ws,w1,w3⟩:=ih fun u hu=>hl u (qi _ hu)
   obtain ⟨b,ks,rfl,tn,pv⟩:=hl v qm
   refine ⟨.ref b::ws,.cons rfl w1,fun ks' z=>?_⟩
   cases z with
    | cons z1 z2 =>
     refine .cons ?_ (w3 _ z2)
     have k1:y3 h' (.ref b) ks:=(I.tupK tn).kept fun c ob e _=>kp c ob e
     have:=(k1.key (prog:=X.prog) (w:=X.w)).inj (z1.key (prog:=X.prog) (w:=X.w))
     rw [<- this]
     exact pv
 obtain ⟨ws,w1,w3⟩:=hV (qaD vs p) fun v hv=>by
  obtain ⟨i,hi,rfl⟩:=qI.mp hv
  have hlt:i<vs.length:=by
   have:=(Array.Perm.mem_iff hp (a:=i)).mp (Array.mem_toList_iff.mp hi)
   simpa using this
  rw [qw,List.getElem?_eq_getElem hlt]
  exact r1 _ (qE hlt)
 have hwl:ws.length<=sizeLine:=by
  rw [w1.length,YQ hp,sizeLine_eq]
  omega
 obtain ⟨hn,J⟩:=I.laidN (t':=tk) (o:=.lst ws) kp hD ⟨hwl,qaD vs p,e,w1,he⟩
 exact ⟨.ref D,_,J,rfl,q D ws _ hn (w3 _ a1) (a2.trans r2) (qgK hp hs)⟩
def qhm (X:Cx):List V->Hp->VK->Prop:=fun xs H Q=>∃ (S:Addr) (bs:List (Addr×List Int)),xs=[.ref S]/\H S=some (qfA X.prog X.w S bs)/\InS X.K H bs/\bs.length<4900/\qiV H (fun v ks=>∃ b∈bs,v=V.ref b.1/\ks=b.2) (bs.map (·.2)) Q
theorem qaZ (hc:X.calm=true):yA X (.builtin "sorted") (qhm X):=by
 intro pins s σ H xs us Q I r h
 obtain ⟨S,bs,rfl,hS,hI,hl,q⟩:=h
 obtain ⟨u,rfl,rx⟩:=J9 r
 cases rx
 obtain ⟨o,es,ep,t,m,D⟩:=I.setT hS hI
 have hz:=D.len
 rw [List.length_map] at hz
 refine qaM I q (R:=fun us ms=>(∀ v∈us,∃ b∈bs,v=Value.ref b.1)/\(bs.map (·.2)).Perm ms) ?_ fun E'=>ZX (by show X.A.handled=none;exact I.ok.hd hc) D.toB (by omega) fun h' tk kp=>?_
 ·rintro us ms ⟨h1,h2⟩
  refine ⟨fun v hv=>?_,h2.symm⟩
  obtain ⟨b,hb,rfl⟩:=h1 v hv
  exact ⟨b.1,b.2,rfl,hI b hb,b,hb,rfl,rfl⟩
 ·obtain ⟨ms,m1,m2⟩:=ZK (JX X.w S ep es).symm D.en
  refine ⟨h',tk,ms,rfl,kp,?_,?_,?_,m2⟩
  ·have:∀ {l:List (Int×Value)}{ks:List (List Int)},PySem.Paired (YS X.prog X.w s.heap) l ks->PySem.Paired (y3 h') (l.map (·.2)) ks:=by
    intro l ks z
    induction z with
    | nil=>exact .nil
    | cons r _ ih=>exact .cons (r.1.kept fun b o e _=>kp b o e) ih
   exact this m1
  ·rw [List.length_map,Array.length_toList,jL];omega
  ·intro v hv
   obtain ⟨e,he,rfl⟩:=qI.mp hv
   exact D.own e ((JX X.w S ep es).mem_iff.mp he)
def qdf (ks:List Int):PyData:=.tuple (ks.map PyData.int)
variable {K:W.Frag}
theorem IsAll.tups {H:Hp}:∀ {us:List V}{kss:List (List Int)},IsAll K H us (kss.map qdf)->(∀ k∈kss,k≠[])->PySem.Paired (Zy K H) us kss
 | _,[],.nil,_=>.nil
 | _,k::kss,.cons h t,hn=>by
  refine .cons ?_ (IsAll.tups t fun z hz=>hn z (qi _ hz))
  unfold qdf at h
  cases h with
  | @tup a xs _ h1 h2 =>
   rw [h2.ints_of] at h1
   exact ⟨⟨a,rfl,h1⟩,hn _ qm⟩
theorem Zy.is {H:Hp}{v:V}{ks:List Int}(h:Zy K H v ks):Is K H v (qdf ks):=by
 obtain ⟨⟨a,rfl,h1⟩,_⟩:=h
 exact .tup h1 (IsAll.ints ks)
theorem Zy.up {μ:Mu}{H:Hp}{v:V}{ks:List Int}(h:Zy K (mask μ H) v ks):Zy K H v ks:=h.same yF
def qfx (P:Program) (w:World) (K:W.Frag) (ms:List (List Int)):Stb where
 R v H:=∃ S bs,v = .ref S/\H S=some (qfA P w S bs)/\InS K H bs/\bs.map (·.2)=ms/\ms.Nodup/\ms.length<4915
 st:=fun v H H' s ⟨S,bs,e,h1,h2,h3,h4,h5⟩=>⟨S,bs,e,s _ _ h1,h2.same s,h3,h4,h5⟩
def qbG (P:Program) (w:World) (K:W.Frag):RAd:=fun es μ Q=>match es with
 | [e]=>∃ kss:List (List Int),LstOf μ e (kss.map qdf)/\(∀ k∈kss,k≠[])/\(∀ ms:List (List Int),ms.Nodup->(∀ q∈ms,q∈kss)->ms.length<4900)/\∀ ms,(∀ q,q∈ms ↔ q∈kss)->ms.Nodup->ms.length<4915->Q (.x (qfx P w K ms)) μ
 | _=>False
theorem qgA {P:Program}{w:World}(hc:X.calm=true) (hu:X.A.units+64<cLine) (hK:X.K=K:=by rfl) (hP:X.prog=P:=by rfl) (hw:X.w=w:=by rfl):yA X (.type "set") (upC K (qbG P w K)):=by
 subst hK hP hw
 refine (qcR hc hu).mono fun xs H Q h=>?_
 obtain ⟨μ,es,Q0,M,hp,q,cl⟩:=h
 unfold qbG at q
 split at q
 ·obtain ⟨v,rfl,i1⟩:=JF hp
  obtain ⟨kss,h1,hne,h64,q⟩:=q
  obtain ⟨p,ys,rfl,h2,h3⟩:=h1.get M i1
  have hT:=IsAll.tups h3 hne
  refine ⟨p,ys,kss,rfl,h2,Jq hT (fun x _ y h=>h.up),h64,fun S bs hS _ ix mem nd lt=>?_⟩
  obtain ⟨M4,s4,hn⟩:=M.laid (o:=qfA X.prog X.w S bs) hS
  refine cl _ μ _ _ (q (bs.map (·.2)) mem nd (by rw [List.length_map];exact lt)) M4 s4 ⟨S,bs,rfl,?_,fun b hb=>?_,rfl,nd,by rw [List.length_map];exact lt⟩
  ·rw [yC hn];exact yb
  ·obtain ⟨i,e1,e2⟩:=ix b hb
   obtain ⟨ks,e3,tn⟩:=L2.Paired.get hT e1
   rw [e2] at e3
   cases e3
   exact tn.same s4
 ·exact q.elim
def qhf (P:Program) (w:World) (K:W.Frag):RAd:=fun es μ Q=>match es with
 | [e]=>∃ kss:List (List Int),LstOf μ e (kss.map qdf)/\(∀ k∈kss,k≠[])/\kss.length<4900/\∀ ms,(∀ q,q∈ms ↔ q∈kss)->ms.Nodup->ms.length<4915->Q (.x (qfx P w K ms)) μ
 | _=>False
theorem qis {P:Program}{w:World}(hc:X.calm=true) (hu:X.A.units+64<cLine) (hK:X.K=K:=by rfl) (hP:X.prog=P:=by rfl) (hw:X.w=w:=by rfl):yA X (.type "set") (upC K (qhf P w K)):=by
 refine (qgA hc hu hK hP hw).mono fun xs H Q h=>?_
 obtain ⟨μ,es,Q0,M,hp,q,cl⟩:=h
 refine ⟨μ,es,Q0,M,hp,?_,cl⟩
 unfold qhf at q
 unfold qbG
 split at q
 ·obtain ⟨kss,h1,hne,h64,q⟩:=q
  exact ⟨kss,h1,hne,fun ms nd hm=>yu (Yh nd hm) h64,q⟩
 ·exact q
def qfI (P:Program) (w:World) (K:W.Frag):RAd:=fun es μ Q=>∃ ms,es=[.x (qfx P w K ms)]/\ms.length<4900/\∀ ks,ks.Perm ms->Srt ks->Q (.d (.list (ks.map qdf))) μ
theorem qam {Pv:V->List Int->Prop}{H:Hp}:∀ {vs:List V}{ms:List (List Int)},PySem.Paired Pv vs ms->(∀ v k,Pv v k->Is K H v (qdf k))->IsAll K H vs (ms.map qdf)
 | _,_,.nil,_=>.nil
 | _,_,.cons h t,f=>.cons (f _ _ h) (qam t f)
theorem qd5 {P:Program}{w:World}(hc:X.calm=true) (hK:X.K=K:=by rfl) (hP:X.prog=P:=by rfl) (hw:X.w=w:=by rfl):yA X (.builtin "sorted") (upC K (qfI P w K)):=by
 subst hK hP hw
 refine (qaZ hc).mono fun xs H Q h=>?_
 obtain ⟨μ,es,Q0,M,hp,q,cl⟩:=h
 obtain ⟨ms,rfl,h64,q⟩:=q
 obtain ⟨v,rfl,i1⟩:=JF hp
 obtain ⟨S,bs,rfl,h1,h2,rfl,h4,h5⟩:=i1
 rw [List.length_map] at h64
 refine ⟨S,bs,rfl,yF _ _ h1,fun b hb=>(h2 b hb).up,h64,fun D vs ks hD hP hp hs=>?_⟩
 obtain ⟨M4,s4,hn⟩:=M.laid (o:=.lst vs) hD
 refine cl _ μ _ _ (q ks hp hs) M4 s4 (.lst (SqL.of (by rw [yC hn];exact yb)) (qam hP fun v k hv=>?_))
 obtain ⟨b,hb,rfl,rfl⟩:=hv
 exact ((h2 b hb).same s4).is
end
open PySem PySem.Spec PyProof.Rows
section
variable {X:Cx}{K:W.Frag}
theorem LstOf.is {μ:Mu}{e:En}{ds:List PyData}{H:Hp}{v:V}(h:LstOf μ e ds) (M:RelM K μ H) (i:IsE K μ H v e):Is K H v (.list ds):=by
 obtain ⟨p,xs,rfl,h1,h2⟩:=h.get M i
 exact .lst h1 (IsAll.same yF h2)
end
section
variable {X:Cx}{pins:List (Addr×Obj)}{σ:St}{H:Hp}{s:Shared}
end
section
variable {X:Cx}{K:W.Frag}
def qcA (ds:List PyData):List PyData:=(List.range ds.length).map fun (i:Nat)=>.tuple [.int (i:Int),ds.getD i .none]
def itE (e:En) (ds:List PyData):Itd:=⟨ds.length,fun i=>.d (.tuple [.int (i:Int),ds.getD i .none]),fun μ=>LstOf μ e ds⟩
theorem Zh (ds:List PyData):(qcA ds).length=ds.length:=by simp [qcA]
theorem qcz {ds:List PyData}{i:Nat}{x:PyData}(h:ds[i]?=some x):(qcA ds)[i]?=some (.tuple [.int (i:Int),x]):=by
 have hi:i<ds.length:=(qo.mp h).1
 unfold qcA
 rw [List.getElem?_map,List.getElem?_range hi,<- ja h]
 rfl
theorem Src.e {e:En}{ds:List PyData}{μ:Mu}(h:LstOf μ e ds):Src (itE e ds) (qcA ds) μ:=by
 refine ⟨(Zh ds).symm,fun i x q=>?_,h⟩
 have hi:i<ds.length:=by
  have:=(qo.mp q).1
  rwa [Zh] at this
 rw [qcz (List.getElem?_eq_getElem hi)] at q
 cases q
 show En.d (.tuple [.int (i:Int),ds.getD i .none])=_
 rw [ja (List.getElem?_eq_getElem hi)]
end
section
variable {prog:Program}{w:World}{A:Around}{R:Result->Shared->Prop}{s:Shared}
abbrev two (elt t1 i1 t2 i2:Expr) (f1 f2:List Expr) (scope:Scope) (pos:Pos):Expr:=.ListComp elt [⟨t1,i1,f1,0⟩,⟨t2,i2,f2,0⟩] scope pos
end
section
variable {X:Cx}
end
section
variable {X:Cx}{K:W.Frag}{tg iter tg2 iter2:Expr}{pos:Pos}
end
end L2
namespace PySem
open Sem (wp)
section
variable {prog:Program}{w:World}{A:Around}{E:Value->Shared->Prop}{s:Shared}
end
structure Nx (prog:Program) (w:World) (A:Around) (fr:List Addr) (it:Addr) (st:Nat->Heap->Prop) (xs:Array Value):Prop where
 mem:it∈fr
 obj:∀ i h,st i h->∃ o,h.get? it=some o/\∀ v,o.data≠.cell v
 keep:∀ i h h',st i h->(∀ b∈fr,∀ o,h.get? b=some o->h'.get? b=some o)->st i h'
 item:∀ (i:Nat) (s:Shared) (x:Value) (Q:Value->Shared->Prop) (E:Value->Shared->Prop),st i s.heap->xs[i]?=some x →
  (∀ h',st (i+1) h'->Heap.SameBut it s.heap h'->Q x { s with heap:=h' })->wpAny (model prog w) A (Builtin.SmallTypes.nextOf (.ref it)) Q E s
 stop:∀ (i:Nat) (s:Shared) (Q:Value->Shared->Prop) (E:Value->Shared->Prop),st i s.heap->xs[i]?=none →
  (∀ h' e,Heap.ExtBut it s.heap h'->(∃ o,h'.get? e=some o/\o.cls = .type "StopIteration")->E (.ref e) { s with heap:=h' })->wpAny (model prog w) A (Builtin.SmallTypes.nextOf (.ref it)) Q E s
structure ZAp (z TI TO i1 i2:Addr) (f1 f2:List Addr):Prop where
 TIz:TI≠z
 TOz:TO≠z
 TITO:TI≠TO
 z1:z∉f1
 z2:z∉f2
 o1:TO∉f1
 o2:TO∉f2
 t1:TI≠i1
 t2:TI≠i2
 a12:i1∉f2
 a21:i2∉f1
section
variable {prog:Program}{w:World}{A:Around}{E:Value->Shared->Prop}{s:Shared}{z TI TO i1 i2:Addr}{f1 f2:List Addr}{s1 s2:Nat->Heap->Prop}{xs ys:Array Value}{k1 k2:Nat}{x y a b:Value}
end
section
variable {prog:Program}{w:World}{A:Around}{E:Value->Shared->Prop}{s:Shared}
end
end PySem
namespace L2
open PySem PySem.Spec PyProof.Rows
section
variable {X:Cx}{K:W.Frag}
def itZ (ds es:List PyData):Itd:=⟨min ds.length es.length,fun i=>.d (.tuple [ds.getD i .none,es.getD i .none]),fun _=>True⟩
def zipD (ds es:List PyData):List PyData:=List.zipWith (fun a b=>.tuple [a,b]) ds es
theorem Src.z {ds es:List PyData}{μ:Mu}:Src (itZ ds es) (zipD ds es) μ:=by
 refine ⟨by simp [zipD,itZ],fun i x q=>?_,trivial⟩
 unfold zipD at q
 rw [List.getElem?_zipWith] at q
 show En.d (.tuple [ds.getD i .none,es.getD i .none])=_
 cases e1:ds[i]? with
 | none=>rw [e1] at q;simp at q
 | some a =>
  cases e2:es[i]? with
  | none=>rw [e1,e2] at q;simp at q
  | some b =>
   rw [e1,e2] at q
   rw [ja e1,ja e2]
   exact congrArg En.d (by simpa using q)
end
theorem Jt:∀ {ns:List Int}{its:List Value},yo (ns.map V.int) its->∃ xs:List (Int×Tok),its=xs.map (fun p=>.int p.1 p.2)/\xs.map Prod.fst=ns
 | [],_,.nil=>⟨[],rfl,rfl⟩
 | n::ns,_,.cons r t=>by
  obtain ⟨u,rfl⟩:=r
  obtain ⟨xs,rfl,e⟩:=Jt t
  exact ⟨(n,u)::xs,rfl,by simp [e]⟩
section
variable {X:Cx}{K:W.Frag}
end
section
variable {X:Cx}{K:W.Frag}{pos:Pos}
end
section
variable {X:Cx}{K:W.Frag}{pins:List (Addr×Obj)}{σ:List (Option V)}{H:Hp}{s:Shared}
end
section
variable {X:Cx}{K:W.Frag}{pos:Pos}
theorem IsAll.set {H:Hp}{v:V}{d:PyData}(h:Is K H v d):∀ {vs:List V}{ds:List PyData}(j:Nat),IsAll K H vs ds->IsAll K H (vs.set j v) (ds.set j d)
 | _,_,_,.nil=>.nil
 | _,_,0,.cons _ r=>.cons h r
 | _,_,j+1,.cons i r=>.cons i (IsAll.set h j r)
end
section
variable {X:Cx}{K:W.Frag}{pos:Pos}
end
section
variable {X:Cx}{K:W.Frag}
theorem JV:∀ (ys:List (Int×Tok)) (n:Nat),n<=ys.length->preSum (numAt ys.toArray) n=((ys.map Prod.fst).take n).sum
 | ys,0,_=>by simp [preSum]
 | ys,n+1,h=>by
  have hn:n<(ys.map Prod.fst).length:=by rw [List.length_map];omega
  rw [preSum,JV ys n (by omega),List.take_add_one,List.getElem?_eq_getElem hn,List.sum_append]
  simp [numAt,show n<ys.length by omega]
theorem qcQ (hc:X.calm=true):yA X (.builtin "sum") (fun xs H Q=>∃ (p:Addr) (ns:List Int),xs=[.ref p]/\SqL X.K H p (ns.map V.int)/\Q (.int ns.sum) H):=by
 intro pins s σ H xs us Q I r h
 obtain ⟨p,ns,rfl,hq,q⟩:=h
 obtain ⟨u,rfl,rx⟩:=J9 r
 cases rx
 obtain ⟨its,rv,pl,_⟩:=I.list hq
 obtain ⟨ys,rfl,e⟩:=Jt rv
 have hl:s.heap.IsList p (intItems ys.toArray):=by
  have:=pl.isList
  simpa [intItems] using this
 refine sum_intListG (I.ok.hd hc) hl fun h' tk t' hk=>?_
 have es:preSum (numAt ys.toArray) ys.toArray.size=ns.sum:=by
  rw [List.size_toArray,JV ys _ (qk _),<- e,List.take_of_length_le (by rw [List.length_map];exact qk _)]
 rw [es]
 exact ⟨.int _,H,I.kept hk,⟨_,rfl⟩,q⟩
def qeN:RAd:=fun es μ Q=>match es with
 | [e]=>∃ ns:List Int,LstOf μ e (ns.map PyData.int)/\Q (.d (.int ns.sum)) μ
 | _=>False
theorem qgz (hc:X.calm=true) (hK:X.K=K:=by rfl):yA X (.builtin "sum") (upC K qeN):=by
 subst hK
 refine (qcQ hc).mono fun xs H Q h=>?_
 obtain ⟨μ,es,Q0,M,hp,q,cl⟩:=h
 unfold qeN at q
 split at q
 ·obtain ⟨v,rfl,i1⟩:=JF hp
  obtain ⟨ns,h1,q⟩:=q
  obtain ⟨p,ys,rfl,h2,h3⟩:=h1.get M i1
  rw [h3.ints_of] at h2
  exact ⟨p,ns,rfl,h2,cl _ μ _ _ q M (qZ.refl _) (.int _)⟩
 ·exact q.elim
theorem qiH:bootBuiltins "sum" = some (.builtin "sum"):=by decide +kernel
theorem ZY:bootBuiltins "reversed" = some (.type "reversed"):=by decide +kernel
variable {pos:Pos}{tr:TAd}
def dPop (to:TEd):TEd:=fun ρ μ Q=>to ρ μ fun x μ1=>match x with
 | .m p=>∃ μ3 μ4 ds z,μ1=μ3++(p,.lst (ds++[z]))::μ4/\Q (.d z) (μ3++(p,.lst ds)::μ4)
 | _=>False
theorem qaR {H:Hp}{xs:List V}{ds:List PyData}{z:PyData}(h:IsAll K H xs (ds++[z])):∃ ys v,xs=ys++[v]/\IsAll K H ys ds/\Is K H v z:=by
 induction ds generalizing xs with
 | nil =>
  cases h with
  | cons a b =>
   cases b
   exact ⟨[],_,rfl,.nil,a⟩
 | cons d ds ih =>
  cases h with
  | cons a b =>
   obtain ⟨ys,v,rfl,h1,h2⟩:=ih b
   exact ⟨_::ys,v,rfl,.cons a h1,h2⟩
theorem d_pop {o:Expr}{to:TEd}{p1:Pos}(ho:DE K X o to) (hK:X.K=K:=by rfl)
  (h:PE X (.Call (.Attribute o "pop" p1) [] [] pos) (tBM0 X.K "list" rPop (up K to))):DE K X (.Call (.Attribute o "pop" p1) [] [] pos) (dPop to):=by
 subst hK
 refine PE.mono h fun σ H Q hq9=>?_
 obtain ⟨ρ,μ,Q0,hS,hM,h,cl⟩:=hq9
 refine ⟨ρ,μ,_,hS,hM,h,fun x μ1 v H1 q M1 s1 i1=>?_⟩
 split at q
 ·rename_i x' p
  obtain ⟨μ3,μ4,ds,z,rfl,q⟩:=q
  have i1:v=_:=i1
  subst i1
  obtain ⟨xs0,e0,hA⟩:=M1.ob p (.lst (ds++[z])) (by simp)
  obtain ⟨ys,y,rfl,h1,h2⟩:=qaR hA
  refine ⟨.inl ⟨rfl,_,SqL.of e0⟩,p,ys++[y],y,rfl,rfl,e0,by simp,?_⟩
  rw [List.dropLast_concat]
  obtain ⟨M3,s3⟩:=M1.write (H':=upd H1 p (.lst ys)) (o':=.lst ds) (fun b u e n=>by rw [qV n];exact e) fun ss=>⟨_,yb,IsAll.same ss h1⟩
  exact cl _ _ y _ q M3 (s1.trans s3) (Is.same s3 h2)
 ·exact q.elim
end
namespace F2
theorem nolen_lr:typeLookup (.type "list_reverseiterator") "__len__" = pure none:=by rw [typeLookup_type,builtinLookup_eq_fast];kernel_rfl
theorem hint_lr:typeLookup (.type "list_reverseiterator") "__length_hint__" = pure (some (.builtin "list_reverseiterator.__length_hint__")):=by rw [typeLookup_type,builtinLookup_eq_fast];kernel_rfl
end F2
section
variable {prog:Program}{w:World}{A:Around}{s:Shared}{R:Result->Shared->Prop}
variable {I:Addr}{fp wr:List Addr}{G:Array GenState->Array GenState->Prop}{n:Nat}{P:Nat->Value->Prop}{St:Nat->Shared->Prop}
theorem qaU (W:WalksS prog w A.in1 I fp wr G n P St) (hT:∀ i s,St i s->s.TypeIs (.ref I) "list_reverseiterator") (S:Addr) (res:Value) (c₀:Nat) (hst:St 0 s) (hSf:S∉fp) (hI:I∈fp)
  (hS:s.heap.get? S=some { cls:=.type "list",data:=.seq #[] c₀ })
  (hR:∀ s' acc' c',Moved (S::wr) G s s'->s'.heap.get? S=some { cls:=.type "list",dict:=none,data:=.seq acc' c',slots:=#[] }->ItemsOf P acc' n->R (.ok (.ret res)) s') (hn:n<=sizeLine) :
  wpAny (model prog w) A.in1 (Builtin.List.listExtendWith (.ref S) (.ref I) res)
   (fun fin s'=>match fin with | .done f=>R (.ok f) s' | .again c'=>c'.quiet=true/\codeAny (model prog w) A c' R s') (fun e s'=>R (.error e) s') s:=by
 have hSI:S≠I:=fun e=>hSf (e ▸ hI)
 unfold Builtin.List.listExtendWith
 refine qb (wpAny_typeOf (hT 0 _ hst) ?_)
 have h1:Builtin.List.listSameRef (.ref S) (.ref I)=false:=by simp [Builtin.List.listSameRef,hSI]
 rw [if_neg (by rw [h1];decide)]
 refine qb (W.self 0 _ _ _ hst ?_)
 refine qb (yj ?_)
 unfold Builtin.List.listLengthHint
 refine qb (wpAny_specialOf (hT 0 _ hst) F2.nolen_lr ?_)
 show wpAny _ A.in1 (specialOf (Value.ref I) (Str.ofString "__length_hint__") >>= _) _ _ _
 refine qb (wpAny_specialOf (hT 0 _ hst) F2.hint_lr ?_)
 generalize hid:("list_reverseiterator.__length_hint__" : String)=id0
 wp_delta
 rw [show splitId id0=some ("list_reverseiterator", "__length_hint__") from by subst hid;decide +kernel]
 subst hid
 refine qb (wpAny_isInstance (b:=true) (hT 0 _ hst) (by rw [isSubtype_type];kernel_rfl) ?_)
 refine qd ?_
 rw [if_neg (by decide)]
 exact qd ⟨plainId_quiet PySem.F.plain_extend_loop _,codeAny_extend_loopS W hn _ hSf _ n 0 _ _ _ rfl (yc _) hst hS (ItemsOf.nil P) hR⟩
end
section
variable {prog:Program}{w:World}{A:Around}{E:Value->Shared->Prop}{s:Shared}
theorem YK {I l:Addr}{items:Array Value}{Q:Value->Shared->Prop}(hh:A.handled=none) (hI:s.heap.IsRevIter I l ((items.size:Int) - 1)) (hl:s.heap.IsList l items) (hne:l≠I) (hn:items.size<=sizeLine)
  (hQ:∀ h' tk acc' c',(∀ b o,b≠I->s.heap.get? b=some o->h'.get? b=some o)->h'.get? s.heap.objs.size=some { cls:=.type "list",dict:=none,data:=.seq acc' c',slots:=#[] }->acc'.toList=items.toList.reverse->Q (.ref s.heap.objs.size) { s with heap:=h',toks:=tk }) :
  wpAny (model prog w) A (call (.type "list") [.ref I]) Q E s:=by
 have hIl:I<s.heap.objs.size:=by obtain ⟨o,ho,_⟩:=hI;exact qf ho
 have hll:l<s.heap.objs.size:=by obtain ⟨o,ho,_⟩:=hl;exact qf ho
 have W:=Walks.listRev (prog:=prog) (w:=w) (A:=A.in1.in1) hh I l hne items
 have hSf:s.heap.objs.size∉[I,l]:=by
  simp only [List.mem_cons,List.not_mem_nil,or_false,not_or]
  exact ⟨Nat.ne_of_gt hIl,Nat.ne_of_gt hll⟩
 refine callType_codes (Q₁:=fun obj s₁=>obj = .ref s.heap.objs.size/\s₁={ s with heap:=s.heap.push { cls:=.type "list",data:=.seq #[] } }) PySem.F.called_list (PySem.F.typeCall_list_1 _) PySem.F.entry_list_init
  (code_list_new _ ⟨rfl,rfl⟩) fun obj s₁ h₁=>?_
 obtain ⟨rfl,rfl⟩:=h₁
 have hS:(s.heap.push { cls:=.type "list",data:=.seq #[] }).get? s.heap.objs.size=some { cls:=.type "list",data:=.seq #[] }:=qt _ rfl
 refine ⟨⟨_,hS,rfl⟩,PySem.F.args_list_init_2 _ _,?_⟩
 show wpAny _ A.in1.in1 (do let old <- Builtin.List.listItems (.ref s.heap.objs.size);Builtin.List.listUpdate (.ref s.heap.objs.size) (fun _=>#[]);letGo old.toList.reverse;Builtin.List.listExtendWith (.ref s.heap.objs.size) (.ref I) .none) _ _ _
 refine qb ?_
 unfold Builtin.List.listItems
 refine qb (wpAny_seqItems hS rfl (qd ?_))
 show wpAny _ A.in1.in1 (updateSeq s.heap.objs.size (fun _=>#[]) >>= fun _=>letGo (#[]:Array Value).toList.reverse >>= fun _=>Builtin.List.listExtendWith (.ref s.heap.objs.size) (.ref I) .none) _ _ _
 refine qb (wpAny_updateSeq hS rfl ?_)
 have hS₂:=yZ (Obj.mapSeq (fun _=>(#[]:Array Value))) hS rfl
 have oth:∀ b o,b≠s.heap.objs.size->(s.heap.push { cls:=.type "list",data:=.seq #[] }).get? b=some o->((s.heap.push { cls:=.type "list",data:=.seq #[] }).update s.heap.objs.size (Obj.mapSeq (fun _=>(#[]:Array Value)))).get? b=some o :=
  fun b o hb e=>(yz _ _ (Ne.symm hb)).trans e
 have old:∀ b o,s.heap.get? b=some o->((s.heap.push { cls:=.type "list",data:=.seq #[] }).update s.heap.objs.size (Obj.mapSeq (fun _=>(#[]:Array Value)))).get? b=some o :=
  fun b o e=>oth b o (qq (qf e)) (qc _ e)
 refine qb (wpAny_letGo ?_)
 refine qaU W.toS (fun i u st=>st.2.1.typeIs) s.heap.objs.size .none _ ?_ hSf qm hS₂ (fun s' acc' c' hm hS' hacc=>⟨rfl,?_⟩) hn
 ·refine ⟨yc _,?_,hl.at fun o e=>old l o e⟩
  have:=hI.at fun o e=>old I o e
  simpa using this
 ·have hm1:=hm.heap
  obtain ⟨h',g',d',t',o'⟩:=s'
  obtain ⟨m1,m2,m3,m4,m5⟩:=hm
  have m2:g'=s.gens:=m2
  have m3:d'=s.drawn:=m3
  have m4:o'=s.os:=m4
  subst m2 m3 m4
  refine hQ h' t' acc' c' (fun b o hb e=>m1 b o (by simp only [List.mem_cons,List.not_mem_nil,or_false,not_or];exact ⟨qq (qf e),hb⟩) (old b o e)) hS' ?_
  apply List.ext_getElem?
  intro j
  rw [qh]
  by_cases hj:j<items.size
  ·have hj2:j<acc'.size:=by rw [hacc.1];exact hj
   have e1:=hacc.2 j _ (y6 hj2)
   rw [y6 hj2,List.getElem?_reverse (by simpa using hj),qh,Array.length_toList]
   exact e1.symm
  ·rw [qX (by rw [hacc.1];omega),List.getElem?_eq_none (by simp;omega)]
end
theorem yo.rev:∀ {xs:List V}{us:List Value},yo xs us->yo xs.reverse us.reverse
 | [],[],.nil=>.nil
 | x::xs,u::us,.cons r t=>by
  rw [List.reverse_cons,List.reverse_cons]
  exact (yo.rev t).append (.cons r .nil)
section
variable {X:Cx}{K:W.Frag}{e:Expr}{te:TE}{p1 p2 p3 pos:Pos}
def tLRev (K:W.Frag) (te:TE):TE:=fun σ H Q=>te σ H fun v H1=>∃ p ys,v = .ref p/\SqL K H1 p ys/\∀ l,H1 l=none->Q (.ref l) (upd H1 l (.lst ys.reverse))
theorem qfW (hc:X.calm=true) (hgl:Gl X "list") (hml:X.mg "list" = none) (hgr:Gl X "reversed") (hmr:X.mg "reversed" = none) (he:PE X e te)
  (h1:starEach [e] X.env=(false,eval e X.env)::starEach [] X.env:=by rfl)
  (h2:starEach [.Call (.Name "reversed" p2) [e] [] p3] X.env=(false,eval (.Call (.Name "reversed" p2) [e] [] p3) X.env)::starEach [] X.env:=by rfl) :
  PE X (.Call (.Name "list" p1) [.Call (.Name "reversed" p2) [e] [] p3] [] pos) (tLRev X.K te):=by
 intro pins s σ H Q I h
 refine wpAny_Call_Name_kw (Yj I hgl hml ZZ ?_ (by decide) (by decide))
 refine PyProof.Rows.callWith_type1 ?_ h2 rfl
 rw [h2]
 show wpAny _ _ (spliced ((false,eval (.Call (.Name "reversed" p2) [e] [] p3) X.env)::backTo pos (starEach [] X.env))) _ _ s
 refine Calls.spliced_cons ?_
 refine wpAny_Call_Name_kw (Yj I hgr hmr ZY ?_ (by decide) (by decide))
 refine PyProof.Rows.callWith_type1 ?_ h1 rfl
 rw [h1]
 show wpAny _ _ (spliced ((false,eval e X.env)::backTo p3 (starEach [] X.env))) _ _ s
 refine Calls.spliced_cons (thn (he pins s σ H _ I h) fun u s1 ⟨x,H1,I1,r1,q1⟩=>?_)
 refine Calls.spliced_nil ?_
 obtain ⟨p,ys,rfl,hq,q⟩:=q1
 cases r1
 obtain ⟨its,rv,pl,hz⟩:=I1.list hq
 refine call_reversed_list pl.isList ?_
 refine Calls.spliced_nil ?_
 have hlt:p<s1.heap.objs.size:=by obtain ⟨o,ho,_⟩:=pl.isList;exact qf ho
 have hlen:=rv.length
 refine YK (items:=its.toArray) (I1.ok.hd hc) ⟨_,qt _ rfl,rfl,rfl⟩ (pl.isList.at fun o e=>qc _ e) (qq hlt) (by rw [List.size_toArray];omega) fun h' tk acc' c' kp e ea=>?_
 have kp2:∀ b o,s1.heap.get? b=some o->h'.get? b=some o:=fun b o e=>kp b o (qq (qf e)) (qc _ e)
 refine ⟨.ref _,_,I1.laid (t':=tk) kp2 (a:=(s1.heap.push (revObj p ((its.toArray.size:Int) - 1))).objs.size) (by first | exact Nat.le_succ _ | (simp [Heap.push])) (show jq X.prog X.w _ h' _ (.lst ys.reverse) from ⟨?_,acc'.toList,c',?_,?_⟩),rfl,q _ (I1.hok.fresh (by first | exact Nat.le_succ _ | (simp [Heap.push])))⟩
 ·rw [List.length_reverse];exact hz
 ·rw [ea];exact yo.rev rv
 ·rw [e]
def dLRev (te:TEd):TEd:=fun ρ μ Q=>te ρ μ fun e μ1=>∃ ds,LstOf μ1 e ds/\Q (.d (.list ds.reverse)) μ1
theorem qiw {te:TEd}(hc:X.calm=true) (hgl:Gl X "list") (hml:X.mg "list" = none) (hgr:Gl X "reversed") (hmr:X.mg "reversed" = none) (he:DE K X e te) (hK:X.K=K:=by rfl)
  (h1:starEach [e] X.env=(false,eval e X.env)::starEach [] X.env:=by rfl)
  (h2:starEach [.Call (.Name "reversed" p2) [e] [] p3] X.env=(false,eval (.Call (.Name "reversed" p2) [e] [] p3) X.env)::starEach [] X.env:=by rfl) :
  DE K X (.Call (.Name "list" p1) [.Call (.Name "reversed" p2) [e] [] p3] [] pos) (dLRev te):=by
 subst hK
 refine PE.mono (qfW hc hgl hml hgr hmr he h1 h2) fun σ H Q hq9=>?_
 obtain ⟨ρ,μ,Q0,hS,hM,h,cl⟩:=hq9
 refine ⟨ρ,μ,_,hS,hM,h,fun x μ1 v H1 q M1 s1 i1=>?_⟩
 obtain ⟨ds,hL,q⟩:=q
 obtain ⟨p,ys,rfl,h2,h3⟩:=hL.get M1 i1
 refine ⟨p,ys,rfl,h2,fun l hl=>?_⟩
 obtain ⟨M4,s4,hn⟩:=M1.laid (o:=.lst ys.reverse) hl
 exact cl _ μ1 _ _ q M4 (s1.trans s4) (.lst (SqL.of (by rw [yC hn];exact yb)) (IsAll.rev (IsAll.same s4 h3)))
theorem ZC {prog:Program}{w:World}{A:Around}{E:Value->Shared->Prop}{s:Shared}{l:Addr}{items:Array Value}{i:Nat}{Q:List Value->Shared->Prop}(hl:s.heap.IsList l items) (hh:A.handled=none) (hi:i<=items.size) (hz:items.size<=4000)
  (h:∀ D h' tk,(∀ b o,s.heap.get? b=some o->h'.get? b=some o)->s.heap.get? D=none->h'.get? D=some { cls:=.type "list",data:=.seq (items.toList.drop i).toArray }->Q (items.toList.take i++[.ref D]) { s with heap:=h',toks:=tk }) :
  wpAny (model prog w) A (unpackItems (.ref l) (i+1) (some i)) Q E s:=by
 have hlt:l≠s.heap.objs.size:=by obtain ⟨o,ho,_⟩:=hl;exact qq (qf ho)
 unfold unpackItems
 refine qb ?_
 unfold notIterableAtAll
 refine qb (wpAny_specialOf hl.typeIs slot_list_iter.lookup ?_)
 refine qd ?_
 simp only [Bool.false_eq_true,if_false]
 refine qb (yj (wpAny_pyIter_list hl ?_))
 refine qb (yj (W.kun_draw hlt i 0 _ _ ⟨_,qt _ rfl,rfl,rfl⟩ (hl.push _) (by omega) fun h₁ hit₁ hs₁=>?_))
 have hl₁:h₁.IsList l items:=(hl.push _).extBut hs₁.extBut hlt
 rw [Nat.zero_add] at hit₁
 have hit₁':=hit₁
 obtain ⟨oi,hoi,_⟩:=hit₁'
 have hl₁':=hl₁
 obtain ⟨ol,hol,_⟩:=hl₁'
 rw [List.drop_zero]
 have hfl:(items.toList.take i).length=i:=by rw [qU,Array.length_toList];omega
 rw [if_neg (show ¬ ((items.toList.take i).length<i) by rw [hfl];omega)]
 refine qb (yj (W.kun_collect (s:={ s with heap:=h₁ }) (T := "list_iterator") (.inr (.inr (.inl rfl))) (Walks.list (A:=A.in1) hh s.heap.objs.size l hlt items) (fun j u st=>st.1.typeIs) (k:=i) (by omega) ⟨hit₁,hl₁⟩ (qf hoi) (qf hol) (fun h₂ tk hk=>?_) (yp (yI hz))))
 show wpAny _ _ (if (items.toList.drop i).length<i+1 - 1 - i then _ else _) _ _ _
 rw [if_neg (by omega)]
 show wpAny _ _ (newList ((items.toList.drop i).take ((items.toList.drop i).length - (i+1 - 1 - i))) >>= fun d=>pure (items.toList.take i++[d]++(items.toList.drop i).drop ((items.toList.drop i).length - (i+1 - 1 - i)))) _ _ _
 have hmid:(items.toList.drop i).length - (i+1 - 1 - i)=(items.toList.drop i).length:=by omega
 rw [hmid,qT,List.drop_length]
 have he:∀ b o,s.heap.get? b=some o->h₂.get? b=some o:=fun b o e=>hk b o (qq (qf e)) (hs₁.extBut b o (qq (qf e)) (qc _ e))
 have hno:s.heap.get? h₂.objs.size=none:=by
  cases z:s.heap.get? h₂.objs.size with
  | none=>rfl
  | some o=>exact absurd (qf (he _ _ z)) (yJ _)
 refine qb (wpAny_newObj_type (qd (by rw [List.append_nil];exact h _ _ tk (fun b o e=>qc _ (he b o e)) hno (qt _ rfl))) ?_)
 ·have:(items.toList.drop i).length<=4000:=by rw [yd,Array.length_toList];omega
  have:=yI this
  show ((items.toList.drop i).toArray).size<=_
  rw [List.size_toArray]
  omega
end
section
variable {X:Cx}{K:W.Frag}{pos:Pos}
def gStar (K:W.Frag) (i:Nat) (t:TGs):TG:=fun v σ H Q=>∃ p xs,v = .ref p/\SqL K H p xs/\i<=xs.length/\xs.length<=4000/\∀ D,H D=none->t (xs.take i++[.ref D]) σ (upd H D (.lst (xs.drop i))) Q
theorem qfU {es:List Expr}{k:Nat}{t:TGs}{i:Nat}(hc:X.calm=true) (h:PGs X es t)
  (hn:(assignEach es X.env).length=i+1:=by rfl) (hst:(assignEach es X.env).findIdx? (·.1)=some i:=by rfl):PG X (.Tuple es k pos) (gStar X.K i t):=by
 intro pins s σ H v u Q I r hw
 obtain ⟨p,xs,rfl,hq,hi,hz,hw⟩:=hw
 cases r
 obtain ⟨its,rv,pl,_⟩:=I.list hq
 have hlen:=rv.length
 rw [assign_Tuple]
 refine qb (wpAny_standAt ?_)
 unfold unpack
 rw [hn,hst]
 refine qb (yj (ZC pl.isList (I.ok.hd hc) (by rw [List.size_toArray];omega) (by rw [List.size_toArray];omega) fun D h' tk kp hD e=>?_))
 obtain ⟨hN,I1⟩:=I.laidN (t':=tk) (a:=D) (o:=.lst (xs.drop i)) kp hD (show jq X.prog X.w _ h' _ (.lst (xs.drop i)) from ⟨by rw [yd];exact yp (yI (by omega)),its.drop i,_,rv.drop i,by rw [e]⟩)
 exact h pins _ σ _ _ _ Q I1 (by
  show yo (xs.take i++[.ref D]) (its.take i++[.ref D])
  exact (rv.take i).append (.cons rfl .nil)) (hw D hN)
theorem qdA {e:Expr}{p:Pos}{es:List Expr}{t:TG}{u:TGs}(h1:PG X e t) (h2:PGs X es u)
  (hs:(assignEach (.Starred e p::es) X.env).map (·.2)=assign e X.env::(assignEach es X.env).map (·.2):=by rfl):PGs X (.Starred e p::es) (qif t u):=by
 intro pins s σ H vs us Q I r h
 obtain ⟨v,vr,e1,h⟩:=h
 subst e1
 cases r with
 | cons r rr =>
  rw [hs]
  refine assignInOrder_cons (thn (h1 pins s σ H _ _ _ I r h) fun _ s1 ⟨σ1,H1,I1,q1⟩=>?_)
  exact h2 pins s1 σ1 H1 _ _ Q I1 rr q1
theorem qd1 {e:Expr}{p:Pos}{es:List Expr}{t:TGd}{u:qc2}(h1:DG K X e t) (h2:DGs K X es u)
  (hs:(assignEach (.Starred e p::es) X.env).map (·.2)=assign e X.env::(assignEach es X.env).map (·.2):=by rfl):DGs K X (.Starred e p::es) (JD t u):=PGs.mono (qdA h1 h2 hs) fun vs σ H Q ⟨ds,ρ,μ,Q0,i1,hS,hM,h,cl⟩=>by
 unfold JD at h
 split at h
 ·cases i1 with
  | cons i1 i2 =>
   refine ⟨_,_,rfl,.d _,ρ,μ,_,i1,hS,hM,h,fun ρ' μ' σ' H' q S' M' s'=>?_⟩
   exact ⟨_,ρ',μ',Q0,IsAll.same s' i2,S',M',q,cl.same s'⟩
 ·exact h.elim
def qir (i:Nat) (t:qc2):TGd:=fun e ρ μ Q=>∃ ds,LstOf μ e ds/\i<=ds.length/\ds.length<=4000/\t (ds.take i++[.list (ds.drop i)]) ρ μ Q
theorem qgy {es:List Expr}{k:Nat}{t:qc2}{i:Nat}(hc:X.calm=true) (h:DGs K X es t) (hK:X.K=K:=by rfl)
  (hn:(assignEach es X.env).length=i+1:=by rfl) (hst:(assignEach es X.env).findIdx? (·.1)=some i:=by rfl):DG K X (.Tuple es k pos) (qir i t):=by
 subst hK
 refine PG.mono (qfU hc h hn hst) fun v σ H Q hq9=>?_
 obtain ⟨e,ρ,μ,Q0,i1,hS,hM,h,cl⟩:=hq9
 obtain ⟨ds,hL,hi,hz,h⟩:=h
 obtain ⟨p,xs,rfl,h2,h3⟩:=hL.get hM i1
 have hl:=h3.len
 refine ⟨p,xs,rfl,h2,by omega,by omega,fun D hD=>?_⟩
 obtain ⟨M4,s4,hn⟩:=hM.laid (o:=.lst (xs.drop i)) hD
 refine ⟨_,ρ,μ,Q0,IsAll.snoc (.lst (SqL.of (by rw [yC hn];exact yb)) (IsAll.drop i (IsAll.same s4 h3))) (IsAll.take i (IsAll.same s4 h3)),hS.same s4,M4,h,cl.same s4⟩
end
section
variable {X:Cx}{K:W.Frag}{pos:Pos}
end
end L2
namespace L2
def ac (a b c:Pt):Int:=(b.1 - a.1) * (c.2 - a.2) - (b.2 - a.2) * (c.1 - a.1)
def Ps (v:Pt):Prop:=0<v.1\/(v.1=0/\0<v.2)
def sb2 (p q:Pt):Pt:=(p.1 - q.1,p.2 - q.2)
theorem mulP {a b:Int}(hb:0<b) (h:0<a * b):0<a:=by
 rcases Int.lt_or_le 0 a with z | z
 ·exact z
 ·have:=Int.mul_le_mul_of_nonneg_right z (Int.le_of_lt hb)
  omega
theorem mulN {a b:Int}(hb:0<b) (h:0<=a * b):0<=a:=by
 rcases Int.lt_or_le a 0 with z | z
 ·have:=Int.mul_lt_mul_of_pos_right z hb
  omega
 ·exact z
theorem ZW (u v w:Pt):crs u w * v.1=crs u v * w.1+crs v w * u.1:=by unfold crs;grind
theorem qfM {v:Pt}(h:Ps v):0<=v.1:=by rcases h with h | h <;> omega
theorem tr0 {u v w:Pt}(hu:Ps u) (hv:Ps v) (hw:Ps w) (h1:0<=crs u v) (h2:0<=crs v w):0<=crs u w:=by
 have id:=ZW u v w
 have ux:=qfM hu
 have wx:=qfM hw
 rcases hv with hv | ⟨v1,v2⟩
 ·have a:=jr h1 wx
  have b:=jr h2 ux
  exact mulN hv (by omega)
 ·unfold crs at h2 ⊢
  rw [v1] at h2
  have w1:w.1=0:=by
   rcases Int.lt_or_le 0 w.1 with z | z
   ·have:=jm v2 z
    omega
   ·omega
  have w2:0<w.2:=by rcases hw with hw | hw <;> omega
  rw [w1]
  have:=jr ux (Int.le_of_lt w2)
  omega
theorem tr1 {u v w:Pt}(hu:Ps u) (hv:Ps v) (hw:Ps w) (h1:0<crs u v) (h2:0<=crs v w):0<crs u w:=by
 have id:=ZW u v w
 have ux:=qfM hu
 have wx:=qfM hw
 have u1:0<u.1:=by
  rcases hu with hu | ⟨e1,e2⟩
  ·exact hu
  ·unfold crs at h1
   rw [e1] at h1
   have:=jr (Int.le_of_lt e2) (qfM hv)
   omega
 rcases hw with hw | ⟨w1,w2⟩
 ·rcases hv with hv | ⟨v1,v2⟩
  ·have a:=jm h1 hw
   have b:=jr h2 ux
   exact mulP hv (by omega)
  ·unfold crs at h2
   rw [v1] at h2
   have:=jm v2 hw
   omega
 ·unfold crs
  rw [w1]
  have:=jm u1 w2
  omega
theorem tr2 {u v w:Pt}(hu:Ps u) (hv:Ps v) (hw:Ps w) (h1:0<=crs u v) (h2:0<crs v w):0<crs u w:=by
 have id:=ZW u v w
 have ux:=qfM hu
 have wx:=qfM hw
 have v1:0<v.1:=by
  rcases hv with hv | ⟨e1,e2⟩
  ·exact hv
  ·unfold crs at h2
   rw [e1] at h2
   have:=jr (Int.le_of_lt e2) wx
   omega
 rcases hu with hu | ⟨u1,u2⟩
 ·have a:=jr h1 wx
  have b:=jm h2 hu
  exact mulP v1 (by omega)
 ·unfold crs at h1
  rw [u1] at h1
  have:=jm u2 v1
  omega
theorem qeQ (a b:Pt):a=b\/Ps (sb2 a b)\/Ps (sb2 b a):=by
 unfold Ps sb2
 dsimp only
 by_cases h:a=b
 ·exact .inl h
 ·refine .inr ?_
  have:¬ (a.1=b.1/\a.2=b.2):=fun z=>h (Prod.ext z.1 z.2)
  omega
theorem qaO {a b:Pt}(h:Ps (sb2 a b)) (g:Ps (sb2 b a)):False:=by
 unfold Ps sb2 at *
 dsimp only at *
 omega
theorem qbO {a:Pt}(h:Ps (sb2 a a)):False:=qaO h h
theorem qhu {a b c:Pt}(h:Ps (sb2 a b)) (g:Ps (sb2 b c)):Ps (sb2 a c):=by
 unfold Ps sb2 at *
 dsimp only at *
 omega
theorem ac_e (a b c:Pt):ac a b c=crs (sb2 b a) (sb2 c b):=by unfold ac crs sb2;grind
theorem ac_w (a b c:Pt):ac a b c=crs (sb2 b c) (sb2 b a):=by unfold ac crs sb2;grind
theorem ac_c (a b c:Pt):ac a b c=ac b c a:=by unfold ac;grind
theorem ac_1 (a b:Pt):ac a b b=0:=by unfold ac;grind
theorem qjg (a b:Pt):ac a b a=0:=by unfold ac;grind
theorem qfg (a b q r:Pt):ac a q r = - ac a b q+ac a b r+ac b q r:=by unfold ac;grind
theorem qiU (a b c:Pt):ac (-a.1,-a.2) (-b.1,-b.2) (-c.1,-c.2)=ac a b c:=by unfold ac;grind
def Gd (D:List Pt):List Pt->Prop
 | []=>D=[]
 | [a]=>a∈D/\∀ r∈D,r=a\/Ps (sb2 r a)
 | b::a::t=>b∈D/\Ps (sb2 b a)/\(∀ r∈D,0<=ac a b r)/\(∀ z∈t.head?,0<ac z a b)/\Gd D (a::t)
theorem Gd.mem {D:List Pt}{b:Pt}:∀ {t:List Pt},Gd D (b::t)->b∈D
 | [],h=>h.1
 | _::_,h=>h.1
def JW (q:Pt):List Pt->List Pt
 | b::a::t=>if ac a b q<=0 then JW q (a::t) else b::a::t
 | l=>l
theorem qbT {D:List Pt}{q:Pt}(hq:∀ r∈D,Ps (sb2 q r)):∀ {t:List Pt}{b:Pt},Gd D (b::t)->(∀ r∈D,Ps (sb2 r b)->0<=ac b q r) →
  ∃ b' t',JW q (b::t)=b'::t'/\Gd D (b'::t')/\(∀ r∈D,Ps (sb2 r b')->0<=ac b' q r)/\∀ z∈t'.head?,0<ac z b' q
 | [],b,h,c=>⟨b,[],rfl,h,c,fun _ z=>by cases z⟩
 | a::t,b,h,c=>by
  unfold JW
  by_cases z:ac a b q<=0
  ·rw [if_pos z]
   refine qbT hq h.2.2.2.2 fun r hr hra=>?_
   have e:=h.2.2.1 r hr
   rcases qeQ r b with rfl | k | k
   ·have:=qfg a r q r
    rw [ac_1,show ac r q r=0 from qjg _ _] at this
    omega
   ·have:=c r hr k
    have:=qfg a b q r
    omega
   ·-- a<r<b
    have g:=hq a h.2.2.2.2.mem
    have e1:0<=crs (sb2 q a) (sb2 b a):=by
     have:ac a b q = - crs (sb2 q a) (sb2 b a):=by unfold ac crs sb2;grind
     omega
    have e2:0<=crs (sb2 b a) (sb2 r a):=by
     have:ac a b r=crs (sb2 b a) (sb2 r a):=by unfold ac crs sb2;grind
     omega
    have:=tr0 g h.2.1 hra e1 e2
    have e3:ac a q r=crs (sb2 q a) (sb2 r a):=by unfold ac crs sb2;grind
    omega
  ·rw [if_neg z]
   refine ⟨b,a::t,rfl,h,c,fun y hy=>?_⟩
   cases hy
   omega
theorem ZS {D:List Pt}{q:Pt}:∀ {t:List Pt}{a b:Pt},Gd D (b::a::t)->Ps (sb2 q b)->0<ac a b q->∀ {X Y:List Pt}{x y:Pt},b::a::t=X++y::x::Y->0<ac x y q
 | t,a,b,_,_,h,[],Y,x,y,e=>by
  cases e
  exact h
 | [],a,b,_,_,_,c::X,Y,x,y,e=>by
  have:=congrArg List.length e
  simp at this
  omega
 | z::t,a,b,g,hq,h,c::X,Y,x,y,e=>by
  have e2:a::z::t=X++y::x::Y:=(List.cons.inj e).2
  have g2:=g.2.2.2.2
  have hz:=g.2.2.2.1 z rfl
  refine ZS g2 (qhu hq g.2.1) ?_ e2
  rw [ac_e] at h hz
  have:=tr2 g2.2.1 g.2.1 hq (Int.le_of_lt hz) h
  have s:ac z a q=crs (sb2 a z) (sb2 b a)+crs (sb2 a z) (sb2 q b):=by unfold ac crs sb2;grind
  omega
theorem qe0 {D:List Pt}{q:Pt}(hq:∀ r∈D,Ps (sb2 q r)):∀ {t:List Pt}{b:Pt},Gd D (b::t)->(∀ z∈t.head?,0<ac z b q)->Gd (D++[q]) (b::t)
 | [],b,h,_=>⟨yv _ h.1,fun r hr=>by
   rcases List.mem_append.mp hr with z | z
   ·exact h.2 r z
   ·rw [qx.mp z];exact .inr (hq b h.1)⟩
 | a::t,b,h,k=>by
  have h0:=k a rfl
  refine ⟨yv _ h.1,h.2.1,fun r hr=>?_,h.2.2.2.1,qe0 hq h.2.2.2.2 fun z hz=>?_⟩
  ·rcases List.mem_append.mp hr with z | z
   ·exact h.2.2.1 r z
   ·rw [qx.mp z];omega
  ·cases t with
   | nil=>cases hz
   | cons y t =>
    cases hz
    exact ZS h (hq b h.1) h0 (X:=[b]) (Y:=t) rfl
theorem qfL {D S:List Pt}{q:Pt}(hq:∀ r∈D,Ps (sb2 q r)) (hS:Gd D S) (ht:∀ b∈S.head?,∀ r∈D,r=b\/Ps (sb2 b r)):Gd (D++[q]) (q::JW q S):=by
 cases S with
 | nil =>
  have hD:D=[]:=hS
  subst hD
  exact ⟨by simp,fun r hr=>.inl (by simpa using hr)⟩
 | cons b t =>
  obtain ⟨b',t',e,g,c,k⟩:=qbT hq hS fun r hr hrb=>by
   rcases ht b rfl r hr with z | z
   ·rw [z] at hrb;exact (qbO hrb).elim
   ·exact (qaO hrb z).elim
  rw [e]
  have hb:=g.mem
  refine ⟨by simp,hq b' hb,fun r hr=>?_,k,qe0 hq g k⟩
  rcases List.mem_append.mp hr with z | z
  ·rcases qeQ r b' with y | y | y
   ·rw [y,qjg];omega
   ·exact c r z y
   ·cases t' with
    | nil =>
     rcases g.2 r z with x | x
     ·rw [x,qjg];omega
     ·exact (qaO y x).elim
    | cons a t' =>
     have h0:=k a rfl
     have h1:=g.2.2.1 r z
     rw [ac_w] at h1
     rw [ac_e] at h0
     have:=tr2 y g.2.1 (hq b' hb) h1 h0
     have s:ac b' q r=crs (sb2 b' r) (sb2 q b'):=by unfold ac crs sb2;grind
     omega
  ·rw [qx.mp z,ac_1];omega
def stk (ps:List Pt):List Pt:=ps.foldl (fun S q=>q::JW q S) []
def Asc (ps:List Pt):Prop:=ps.Pairwise fun a b=>Ps (sb2 b a)
theorem Jb (ps:List Pt) (q:Pt):stk (ps++[q])=q::JW q (stk ps):=by unfold stk;rw [List.foldl_append];rfl
theorem qdh {ps:List Pt}{q:Pt}:(stk (ps++[q])).head?=some q:=by rw [Jb];rfl
theorem qaC {ps:List Pt}{q:Pt}(h:Asc (ps++[q])):Asc ps/\∀ r∈ps,Ps (sb2 q r):=by
 unfold Asc at *
 rw [qD] at h
 exact ⟨h.1,fun r hr=>h.2.2 r hr q (by simp)⟩
theorem ZE {ps:List Pt}(h:Asc ps):∀ b∈(stk ps).head?,∀ r∈ps,r=b\/Ps (sb2 b r):=by
 rcases List.eq_nil_or_concat ps with rfl | ⟨qs,q,rfl⟩
 ·intro b hb;cases hb
 ·rw [List.concat_eq_append] at *
  intro b hb r hr
  rw [qdh] at hb
  cases hb
  rcases List.mem_append.mp hr with z | z
  ·exact .inr ((qaC h).2 r z)
  ·exact .inl (by simpa using z)
theorem qbk:∀ (n:Nat) {ps:List Pt},ps.length=n->Asc ps->Gd ps (stk ps)
 | 0,ps,e,_=>by rw [List.length_eq_zero_iff.mp e];rfl
 | n+1,ps,e,h=>by
  rcases List.eq_nil_or_concat ps with rfl | ⟨qs,q,rfl⟩
  ·cases e
  ·rw [List.concat_eq_append] at *
   obtain ⟨h1,h2⟩:=qaC h
   rw [Jb]
   exact qfL h2 (qbk n (by simpa using e) h1) (ZE h1)
end L2
namespace L2
def gP (P:List Pt) (i:Nat):Pt:=P.getD i (0,0)
theorem jb {P:List Pt}{i:Nat}(h:i<P.length):gP P i=P[i]:=by unfold gP;rw [qw,List.getElem?_eq_getElem h];rfl
theorem jM {P:List Pt}{i:Nat}(h:i<P.length):gP P i∈P:=by rw [jb h];exact qE h
theorem qgT {S:List Pt}{k:Nat}(h:k<S.length):S.drop k=gP S k::S.drop (k+1):=by rw [jb h];exact List.drop_eq_getElem_cons h
theorem dec2 {S:List Pt}{k:Nat}(h:k+1<S.length):S=S.take k++gP S k::gP S (k+1)::S.drop (k+2):=by
 rw [<- qgT h,<- qgT (show k<S.length by omega),qv]
theorem dec3 {S:List Pt}{k:Nat}(h:k+2<S.length):S=S.take k++gP S k::gP S (k+1)::gP S (k+2)::S.drop (k+3):=by
 rw [<- qgT h,<- qgT (show k+1<S.length by omega),<- qgT (show k<S.length by omega),qv]
theorem qgk {S:List Pt}{k p:Nat}(h:p<k) (hk:k<=S.length):gP S p∈S.take k:=by
 have:p<(S.take k).length:=by rw [qU];omega
 have e:(S.take k)[p]=S[p]:=List.getElem_take
 rw [jb (by omega),<- e]
 exact qE this
theorem qgl {S:List Pt}{k p:Nat}(h:k<=p) (hp:p<S.length):gP S p∈S.drop k:=by
 have hl:p - k<(S.drop k).length:=by rw [yd];omega
 have e:(S.drop k)[p - k]=S[k+(p - k)]:=List.getElem_drop
 rw [jb hp]
 have e2:S[k+(p - k)]=S[p]:=by congr 1;omega
 rw [<- e2,<- e]
 exact qE hl
theorem Gd.tail {D:List Pt}{x:Pt}:∀ {S:List Pt},Gd D (x::S)->S≠[]->Gd D S
 | [],_,h=>absurd rfl h
 | _::_,h,_=>h.2.2.2.2
theorem Gd.edge {D:List Pt}:∀ {X S:List Pt}{a b:Pt}{Y:List Pt},Gd D S->S=X++b::a::Y->Ps (sb2 b a)/\(∀ r∈D,0<=ac a b r)/\a∈D/\b∈D
 | [],S,a,b,Y,h,e=>by
  subst e
  exact ⟨h.2.1,h.2.2.1,h.2.2.2.2.mem,h.1⟩
 | x::X,S,a,b,Y,h,e=>by
  subst e
  exact Gd.edge (h.tail (by simp)) rfl
theorem Gd.turn {D:List Pt}:∀ {X S:List Pt}{a b c:Pt}{Y:List Pt},Gd D S->S=X++c::b::a::Y->0<ac a b c
 | [],S,a,b,c,Y,h,e=>by
  subst e
  exact h.2.2.2.1 a rfl
 | x::X,S,a,b,c,Y,h,e=>by
  subst e
  exact Gd.turn (h.tail (by simp)) rfl
theorem low {D:List Pt}:∀ {Y:List Pt}{a b:Pt},Gd D (b::a::Y)->∀ c∈Y,0<ac a b c/\Ps (sb2 a c)
 | [],_,_,_,_,hc=>nomatch hc
 | z::Y,a,b,h,c,hc=>by
  have g:=h.2.2.2.2
  have t:=h.2.2.2.1 z rfl
  rcases List.mem_cons.mp hc with rfl | hc
  ·exact ⟨by rw [<- ac_c];exact t,g.2.1⟩
  ·obtain ⟨k1,k2⟩:=low g c hc
   have ps:=qhu g.2.1 k2
   refine ⟨?_,ps⟩
   rw [ac_w] at k1
   rw [ac_e] at t
   have:=tr1 ps g.2.1 h.2.1 k1 (Int.le_of_lt t)
   have s:ac a b c=crs (sb2 a c) (sb2 b a):=by unfold ac crs sb2;grind
   omega
theorem sc {D:List Pt}:∀ {X S:List Pt}{a b:Pt}{Y:List Pt},Gd D S->S=X++b::a::Y->∀ c∈X++Y,0<ac a b c
 | [],S,a,b,Y,h,e,c,hc=>by
  subst e
  exact (low h c hc).1
 | x::X,S,a,b,Y,h,e,c,hc=>by
  subst e
  rcases List.mem_cons.mp hc with rfl | hc
  ·cases X with
   | nil=>exact h.2.2.2.1 a rfl
   | cons y X =>
    have g:Gd D (y::(X++b::a::Y)):=h.tail (by simp)
    cases hX:X++b::a::Y with
    | nil=>simp at hX
    | cons z t =>
     rw [hX] at g
     have h':Gd D (c::y::z::t):=by rw [<- hX];exact h
     refine ZS g h'.2.1 (h'.2.2.2.1 z rfl) (X:=y::X) (Y:=Y) ?_
     rw [<- hX];rfl
  ·exact sc (h.tail (by simp)) rfl c hc
theorem qid {a b c u v:Pt}(hd:Ps (sb2 b a)) (hu:Ps (sb2 u c)) (hv:Ps (sb2 c v)) (t:0<ac u c v) (h0:0<=ac a b c) (h1:0<=ac a b u) (h2:0<=ac a b v):0<ac a b c:=by
 rcases Int.lt_or_le 0 (ac a b c) with z | z
 ·exact z
 have z:ac a b c=0:=by omega
 have e1:ac a b u=ac a b c+crs (sb2 b a) (sb2 u c):=by unfold ac crs sb2;grind
 have e2:ac a b v=ac a b c+crs (sb2 c v) (sb2 b a):=by unfold ac crs sb2;grind
 have e3:ac u c v=crs (sb2 u c) (sb2 c v):=by unfold ac crs sb2;grind
 have:=tr1 hu hv hd (by omega) (show 0<=crs (sb2 c v) (sb2 b a) by omega)
 have e4:crs (sb2 b a) (sb2 u c) = - crs (sb2 u c) (sb2 b a):=by unfold crs sb2;grind
 omega
def nP (p:Pt):Pt:=(-p.1,-p.2)
theorem Yc (p:Pt):nP (nP p)=p:=by unfold nP;simp
theorem qeV (D:List Pt):(D.map nP).map nP=D:=by rw [List.map_map];exact (List.map_congr_left fun p _=>Yc p).trans (List.map_id' D)
theorem qgN (a b c:Pt):ac (nP a) (nP b) (nP c)=ac a b c:=qiU a b c
theorem qdm (a b:Pt):sb2 (nP a) (nP b)=sb2 b a:=by unfold sb2 nP;ext <;> dsimp only <;> omega
theorem Ju {P:List Pt}{i:Nat}(h:i<P.length):gP (P.map nP) i=nP (gP P i):=by
 rw [jb h,jb (by rw [List.length_map];exact h),List.getElem_map]
def Half (A B:List Pt):Prop:=∀ i j,i<A.length->j<(A++B).length->j≠i->j≠(i+1) % (A++B).length->0<ac (gP (A++B) i) (gP (A++B) ((i+1) % (A++B).length)) (gP (A++B) j)
def Cvx (P:List Pt):Prop:=∀ i j,i<P.length->j<P.length->j≠i->j≠(i+1) % P.length->0<ac (gP P i) (gP P ((i+1) % P.length)) (gP P j)
theorem qe2 {A B:List Pt}{i:Nat}(h:i<A.length):gP (A++B) i=gP A i:=by
 rw [jb h,jb (by rw [List.length_append];omega),List.getElem_append_left h]
theorem qgp {A B:List Pt}{i:Nat}(h:A.length<=i) (hi:i<(A++B).length):gP (A++B) i=gP B (i - A.length):=by
 rw [jb hi,jb (by rw [List.length_append] at hi;omega),List.getElem_append_right h]
theorem Zf {S:List Pt}{i:Nat}(h:i<S.length):gP S.reverse i=gP S (S.length - 1 - i):=by
 rw [jb (by rw [List.length_reverse];exact h),jb (by omega),List.getElem_reverse]
theorem J5 (x:Pt) (S:List Pt) (i:Nat):gP (x::S) (i+1)=gP S i:=rfl
theorem qco {D S T:List Pt}{s t:Pt}(gS:Gd D (s::S)) (gT:Gd (D.map nP) ((t::T).map nP)) (e1:gP (t::T) T.length=s) (e2:gP (s::S) S.length=t):Half S.reverse T.reverse:=by
 intro i j hi hj n1 n2
 rw [List.length_reverse] at hi
 have hn:(S.reverse++T.reverse).length=S.length+T.length:=by simp
 rw [hn] at hj n2 ⊢
 have hT:0<T.length:=by
  rcases Nat.eq_zero_or_pos T.length with z | z
  ·exfalso
   have e3:t=s:=by rw [z] at e1;exact e1
   -- the top and the bottom of S are one
   have hm:gP (s::S) S.length∈S:=by
    obtain ⟨m,em⟩:∃ m,S.length=m+1:=⟨S.length - 1,by omega⟩
    rw [em,J5]
    exact jM (by omega)
   rw [e2,e3] at hm
   cases S with
   | nil=>simp at hi
   | cons a S =>
    rcases List.mem_cons.mp hm with y | y
    ·rw [y] at gS;exact qbO gS.2.1
    ·exact qaO gS.2.1 (low gS s y).2
  ·exact z
 -- the side
 have hk:S.length - i - 1+1<(s::S).length:=by rw [List.length_cons];omega
 have dS:=dec2 hk
 have ea:gP (S.reverse++T.reverse) i=gP (s::S) (S.length - i - 1+1):=by
  rw [qe2 (by rw [List.length_reverse];exact hi),Zf hi,J5]
  congr 1;omega
 have et:gP T.reverse 0=s:=by
  rw [Zf hT,<- e1]
  obtain ⟨m,em⟩:∃ m,T.length=m+1:=⟨T.length - 1,by omega⟩
  rw [em,J5]
  rfl
 have eb:gP (S.reverse++T.reverse) ((i+1) % (S.length+T.length))=gP (s::S) (S.length - i - 1):=by
  rw [qJ (by omega)]
  by_cases z:i+1<S.length
  ·rw [qe2 (by rw [List.length_reverse];exact z),Zf z]
   rw [show S.length - i - 1=(S.length - 1 - (i+1))+1 by omega,J5]
  ·rw [qgp (by rw [List.length_reverse];omega) (by rw [hn];omega),show i+1 - S.reverse.length=0 by rw [List.length_reverse];omega,et,show S.length - i - 1=0 by omega]
   rfl
 rw [qJ (by omega)] at n2
 rw [ea,eb]
 obtain ⟨hd,hull,_,_⟩:=gS.edge dS
 have hlen:(s::S).length=S.length+1:=rfl
 -- a corner of S
 have own:∀ p,p<(s::S).length->p<S.length - i - 1\/S.length - i - 1+2<=p->0<ac (gP (s::S) (S.length - i - 1+1)) (gP (s::S) (S.length - i - 1)) (gP (s::S) p):=fun p hp hpp=>by
  refine sc gS dS _ ?_
  rcases hpp with z | z
  ·exact yv _ (qgk z (by omega))
  ·exact qy _ (qgl z hp)
 by_cases z:j<S.length
 ·rw [qe2 (by rw [List.length_reverse];exact z),Zf z,show gP S (S.length - 1 - j)=gP (s::S) (S.length - 1 - j+1) from rfl]
  refine own _ (by omega) ?_
  omega
 ·rw [qgp (by rw [List.length_reverse];omega) (by rw [hn];omega),List.length_reverse]
  by_cases y:j=S.length
  ·rw [y,Nat.sub_self,et]
   exact own 0 (by omega) (by omega)
  ·-- an qid corner of T
   obtain ⟨q,hq⟩:∃ q,q=j - S.length:=⟨_,rfl⟩
   rw [<- hq,Zf (by omega)]
   have hlT:((t::T).map nP).length=T.length+1:=by simp
   have ht2:(t::T).length=T.length+1:=rfl
   have dT:=dec3 (S:=(t::T).map nP) (k:=T.length - q - 1) (by omega)
   have tn:=gT.turn dT
   have d1:=gT.edge (X:=((t::T).map nP).take (T.length - q - 1)) dT
   have d2:=gT.edge (X:=((t::T).map nP).take (T.length - q - 1)++[gP ((t::T).map nP) (T.length - q - 1)]) (by rw [ql];exact dT)
   rw [Ju (by omega),Ju (by omega)] at d1
   rw [Ju (by omega),Ju (by omega)] at d2
   rw [Ju (by omega),Ju (by omega),Ju (by omega)] at tn
   have back:∀ p,nP p∈D.map nP->p∈D:=fun p hp=>by
    obtain ⟨r,hr,er⟩:=qI.mp hp
    have:=congrArg nP er
    rw [Yc,Yc] at this
    rw [<- this];exact hr
   rw [qgN] at tn
   have s1:=d1.1
   have s2:=d2.1
   rw [qdm] at s1 s2
   have ec:gP T (T.length - 1 - q)=gP (t::T) (T.length - q - 1+1):=by rw [J5];congr 1;omega
   rw [ec]
   exact qid hd s2 s1 tn (hull _ (back _ d1.2.2.1)) (hull _ (back _ d2.2.2.1)) (hull _ (back _ d1.2.2.2))
theorem qg5 {A B:List Pt}(h1:Half A B) (h2:Half B A):Cvx (A++B):=by
 intro i j hi hj n1 n2
 by_cases z:i<A.length
 ·exact h1 i j z hj n1 n2
 ·have l1:(A++B).length=A.length+B.length:=List.length_append
  have l2:(B++A).length=A.length+B.length:=by rw [List.length_append];omega
  have mv:∀ p,p<A.length+B.length->gP (A++B) p=gP (B++A) (if p<A.length then p+B.length else p - A.length):=fun p hp=>by
   by_cases y:p<A.length
   ·rw [if_pos y,qe2 y,qgp (by omega) (by omega)]
    congr 1;omega
   ·rw [if_neg y,qgp (by omega) (by omega),qe2 (by omega)]
  rw [l1] at hi hj n2 ⊢
  have hm:(i+1) % (A.length+B.length)<A.length+B.length:=yN _ (by omega)
  have key:(if (i+1) % (A.length+B.length)<A.length then (i+1) % (A.length+B.length)+B.length else (i+1) % (A.length+B.length) - A.length)=((i - A.length)+1) % (A.length+B.length):=by
   by_cases y:i+1=A.length+B.length
   ·rw [y,Nat.mod_self]
    by_cases x:A.length=0
    ·rw [if_neg (by omega),Nat.zero_sub,show i - A.length+1=A.length+B.length by omega,Nat.mod_self]
    ·rw [if_pos (by omega),qJ (by omega)];omega
   ·rw [qJ (show i+1<A.length+B.length by omega),if_neg (by omega),qJ (by omega)];omega
  rw [mv i hi,mv j hj,mv _ hm,key,if_neg z]
  have:=h2 (i - A.length) (if j<A.length then j+B.length else j - A.length) (by omega) (by rw [l2];split <;> omega) (by split <;> omega) (by
   rw [l2,<- key]
   split <;> split <;> omega)
  rw [l2] at this
  exact this
end L2
namespace L2
def outer (row:List Pt):List Pt:=(stk row).tail.reverse++(stk row.reverse).tail.reverse
theorem qbS (q:Pt):∀ S:List Pt,JW (nP q) (S.map nP)=(JW q S).map nP
 | []=>rfl
 | [_]=>rfl
 | b::a::t=>by
  show JW (nP q) (nP b::nP a::t.map nP)=_
  unfold JW
  rw [qgN]
  split
  ·exact qbS q (a::t)
  ·rfl
theorem qcw:∀ (ps S:List Pt),(ps.map nP).foldl (fun S q=>q::JW q S) (S.map nP)=(ps.foldl (fun S q=>q::JW q S) S).map nP
 | [],_=>rfl
 | p::ps,S=>by
  rw [List.map_cons,List.foldl_cons,List.foldl_cons,qbS]
  exact qcw ps (p::JW p S)
theorem qex (ps:List Pt):stk (ps.map nP)=(stk ps).map nP:=qcw ps []
theorem qc1 {row:List Pt}(h:Asc row):Asc (row.reverse.map nP):=by
 unfold Asc at *
 rw [List.pairwise_map,List.pairwise_reverse]
 exact h.imp fun {a b} k=>by rw [qdm];exact k
theorem Gd.bot {D:List Pt}:∀ {S:List Pt}{s:Pt},Gd D (s::S)->gP (s::S) S.length∈D/\∀ r∈D,r=gP (s::S) S.length\/Ps (sb2 r (gP (s::S) S.length))
 | [],s,h=>h
 | a::S,s,h=>Gd.bot (S:=S) (s:=a) h.2.2.2.2
theorem qew {ps:List Pt}(h:ps≠[]):∃ s S,stk ps=s::S/\s∈ps:=by
 rcases List.eq_nil_or_concat ps with rfl | ⟨qs,q,rfl⟩
 ·exact absurd rfl h
 ·rw [List.concat_eq_append]
  exact ⟨q,_,Jb qs q,by simp⟩
theorem qcq {D D':List Pt}(h:∀ p,p∈D ↔ p∈D'):∀ {S:List Pt},S≠[]->Gd D S->Gd D' S
 | [],n,_=>absurd rfl n
 | [a],_,g=>⟨(h a).mp g.1,fun r hr=>g.2 r ((h r).mpr hr)⟩
 | b::a::t,_,g=>⟨(h b).mp g.1,g.2.1,fun r hr=>g.2.2.1 r ((h r).mpr hr),g.2.2.2.1,qcq h (by simp) g.2.2.2.2⟩
theorem Y6 {row:List Pt}(h:Asc row):Cvx (outer row):=by
 by_cases z:row=[]
 ·subst z
  intro i j hi
  exact absurd hi (Nat.not_lt_zero i)
 obtain ⟨s,S,eS,ms⟩:=qew z
 obtain ⟨t,T,eT,mt⟩:=qew (ps:=row.reverse) (by simpa using z)
 have g1:Gd row (s::S):=by rw [<- eS];exact qbk _ rfl h
 have g2':Gd (row.reverse.map nP) ((t::T).map nP):=by rw [<- eT,<- qex];exact qbk _ rfl (qc1 h)
 have g2:Gd (row.map nP) ((t::T).map nP):=qcq (fun p=>by simp) (by simp) g2'
 have top1:=ZE h s (by rw [eS];rfl)
 have top2:=ZE (qc1 h) (nP t) (by rw [qex,eT];rfl)
 have b1:=g1.bot
 have b2:=Gd.bot (S:=T.map nP) (s:=nP t) g2
 have e1:gP (t::T) T.length=s:=by
  have ee:gP (nP t::T.map nP) (T.map nP).length=nP (gP (t::T) T.length):=by
   have:=Ju (P:=t::T) (i:=T.length) (by simp)
   rw [List.length_map];exact this
  rw [ee] at b2
  have mm:gP (t::T) T.length∈row:=by
   obtain ⟨r,hr,er⟩:=qI.mp b2.1
   have:=congrArg nP er
   rw [Yc,Yc] at this
   rw [<- this];exact hr
  rcases top1 _ mm with k | k
  ·exact k
  ·rcases b2.2 (nP s) (qI.mpr ⟨s,ms,rfl⟩) with y | y
   ·have:=congrArg nP y
    rw [Yc,Yc] at this
    exact this.symm
   ·rw [qdm] at y
    exact (qaO k y).elim
 have e2:gP (s::S) S.length=t:=by
  have mt2:t∈row:=List.mem_reverse.mp mt
  rcases b1.2 t mt2 with k | k
  ·exact k.symm
  ·rcases top2 (nP (gP (s::S) S.length)) (qI.mpr ⟨_,by simpa using b1.1,rfl⟩) with y | y
   ·have:=congrArg nP y
    rw [Yc,Yc] at this
    exact this
   ·rw [qdm] at y
    exact (qaO k y).elim
 unfold outer
 rw [eS,eT]
 refine qg5 (qco g1 g2 e1 e2) ?_
 -- the way back,turned about
 have hb:=qco (D:=row.map nP) (S:=T.map nP) (T:=S.map nP) (s:=nP t) (t:=nP s) g2 (by
   have ee:(nP s::S.map nP).map nP=s::S:=by rw [List.map_cons,Yc,qeV]
   rw [qeV,ee]
   exact g1)
  (by have:=Ju (P:=s::S) (i:=S.length) (by simp);rw [List.length_map];rw [e2] at this;exact this)
  (by have:=Ju (P:=t::T) (i:=T.length) (by simp);rw [List.length_map];rw [e1] at this;exact this)
 intro i j hi hj n1 n2
 have em:(T.map nP).reverse++(S.map nP).reverse=(T.reverse++S.reverse).map nP:=by rw [List.map_append,List.map_reverse,List.map_reverse]
 have hl:((T.map nP).reverse++(S.map nP).reverse).length=(T.reverse++S.reverse).length:=by rw [em,List.length_map]
 have hi':i<T.reverse.length:=hi
 have hj':j<(T.reverse++S.reverse).length:=hj
 have:=hb i j (by rw [List.length_reverse,List.length_map];rw [List.length_reverse] at hi';exact hi') (by rw [hl];exact hj') n1 (by rw [hl];exact n2)
 rw [hl,em] at this
 have hlen:(T.reverse++S.reverse).length=T.reverse.length+S.reverse.length:=List.length_append
 rw [Ju (by omega),Ju (yN _ (by omega)),Ju hj',qgN] at this
 exact this
def nx (P:List Pt) (i:Nat):Pt:=gP P ((i+1) % P.length)
theorem qfv {a b c:Pt}(h:0<ac a b c):Cvx [a,b,c]:=by
 have h2:0<ac b c a:=by rw [<- ac_c];exact h
 have h3:0<ac c a b:=by rw [<- ac_c];exact h2
 intro i j hi hj n1 n2
 have hi:i<3:=hi
 have hj:j<3:=hj
 have n2:j≠(i+1) % 3:=n2
 have:(i=0/\j=2)\/(i=1/\j=0)\/(i=2/\j=1):=by omega
 rcases this with ⟨rfl,rfl⟩ | ⟨rfl,rfl⟩ | ⟨rfl,rfl⟩
 ·exact h
 ·exact h2
 ·show 0<ac (gP [a,b,c] 2) (gP [a,b,c] (3 % 3)) (gP [a,b,c] 1)
  rw [Nat.mod_self]
  exact h3
theorem qfw {A B:List Pt}(h:Cvx (A++B)):Cvx (B++A):=by
 have l1:(A++B).length=A.length+B.length:=List.length_append
 have l2:(B++A).length=A.length+B.length:=by rw [List.length_append];omega
 have mv:∀ p,p<A.length+B.length->gP (B++A) p=gP (A++B) (if p<B.length then p+A.length else p - B.length):=fun p hp=>by
  by_cases y:p<B.length
  ·rw [if_pos y,qe2 y,qgp (by omega) (by omega)]
   congr 1;omega
  ·rw [if_neg y,qgp (by omega) (by omega),qe2 (by omega)]
 intro i j hi hj n1 n2
 rw [l2] at hi hj n2 ⊢
 have hm:(i+1) % (A.length+B.length)<A.length+B.length:=yN _ (by omega)
 have key:∀ k,k<A.length+B.length->(if (k+1) % (A.length+B.length)<B.length then (k+1) % (A.length+B.length)+A.length else (k+1) % (A.length+B.length) - B.length)=((if k<B.length then k+A.length else k - B.length)+1) % (A.length+B.length):=fun k hk=>by
  by_cases y:k+1=A.length+B.length
  ·rw [y,Nat.mod_self]
   by_cases x:B.length=0
   ·rw [if_neg (by omega),Nat.zero_sub,if_neg (by omega),show k - B.length+1=A.length+B.length by omega,Nat.mod_self]
   ·rw [if_pos (by omega)]
    by_cases u:k<B.length
    ·rw [if_pos u,show k+A.length+1=(A.length+B.length)+A.length by omega,Nat.add_mod_left,qJ (by omega)];omega
    ·rw [if_neg u,qJ (by omega)];omega
  ·rw [qJ (show k+1<A.length+B.length by omega)]
   by_cases u:k<B.length
   ·rw [if_pos u]
    by_cases v:k+1<B.length
    ·rw [if_pos v,qJ (by omega)];omega
    ·rw [if_neg v,show k+A.length+1=A.length+B.length by omega,Nat.mod_self];omega
   ·rw [if_neg u,if_neg (by omega),qJ (by omega)];omega
 rw [mv i hi,mv j hj,mv _ hm,key i hi]
 have:=h (if i<B.length then i+A.length else i - B.length) (if j<B.length then j+A.length else j - B.length) (by rw [l1];split <;> omega) (by rw [l1];split <;> omega) (by split <;> split <;> omega) (by
  rw [l1,<- key i hi]
  split <;> split <;> omega)
 rw [l1] at this
 exact this
theorem ac_aa (a c:Pt):ac a a c=0:=by unfold ac;grind
theorem qcK {P:List Pt}(h:Cvx P) (h3:3<=P.length):P.Nodup:=by
 unfold List.Nodup
 rw [qF]
 intro i j hi hj hij e
 have e':gP P i=gP P j:=by rw [jb hi,jb hj];exact e
 have hm:(i+1) % P.length=i+1:=qJ (by omega)
 by_cases z:j=i+1
 ·obtain ⟨k,hk,k1,k2⟩:∃ k,k<P.length/\k≠i/\k≠i+1:=by
   by_cases y:i=0
   ·exact ⟨2,by omega,by omega,by omega⟩
   ·exact ⟨0,by omega,by omega,by omega⟩
  have:=h i k hi hk k1 (by rw [hm];exact k2)
  rw [hm,<- z,<- e',ac_aa] at this
  omega
 ·have:=h i j hi hj (by omega) (by rw [hm];exact z)
  rw [<- e',qjg] at this
  omega
def qda (P:List Pt):Int:=((List.range P.length).map fun k=>crs (gP P k) (nx P k)).sum
end L2
namespace L2
abbrev Qt:=Rat×Rat
def cq (A B:Qt):Rat:=A.1 * B.2 - A.2 * B.1
section
variable (a b t:Rat)
def uQ (A:Qt):Rat:=a * A.1+b * A.2 - t
def rQ (A:Qt):Rat:=a * A.2 - b * A.1
def gQ (A B:Qt):Rat:=(rQ a b B - rQ a b A) * (uQ a b t A+uQ a b t B)
theorem qiB (A B:Qt):(a * a+b * b) * cq A B=gQ a b t A B - (uQ a b t B * rQ a b B - uQ a b t A * rQ a b A)+t * (rQ a b B - rQ a b A):=by
 unfold cq gQ uQ rQ
 grind
def xQ (A B:Qt):Qt:=((A.1 * uQ a b t B - B.1 * uQ a b t A) / (uQ a b t B - uQ a b t A),(A.2 * uQ a b t B - B.2 * uQ a b t A) / (uQ a b t B - uQ a b t A))
theorem x_u {A B:Qt}(h:uQ a b t B - uQ a b t A≠0):uQ a b t (xQ a b t A B)=0:=by
 have e:uQ a b t (xQ a b t A B)=(a * (A.1 * uQ a b t B - B.1 * uQ a b t A)+b * (A.2 * uQ a b t B - B.2 * uQ a b t A)) / (uQ a b t B - uQ a b t A) - t:=by
  unfold xQ
  show a * ((A.1 * uQ a b t B - B.1 * uQ a b t A) / (uQ a b t B - uQ a b t A))+b * ((A.2 * uQ a b t B - B.2 * uQ a b t A) / (uQ a b t B - uQ a b t A)) - t=_
  grind
 rw [e]
 have e2:a * (A.1 * uQ a b t B - B.1 * uQ a b t A)+b * (A.2 * uQ a b t B - B.2 * uQ a b t A)=t * (uQ a b t B - uQ a b t A):=by
  unfold uQ
  grind
 rw [e2]
 grind
theorem x_r {A B:Qt}(h:uQ a b t B - uQ a b t A≠0):rQ a b (xQ a b t A B)=(rQ a b A * uQ a b t B - rQ a b B * uQ a b t A) / (uQ a b t B - uQ a b t A):=by
 have e:rQ a b (xQ a b t A B)=(a * (A.2 * uQ a b t B - B.2 * uQ a b t A) - b * (A.1 * uQ a b t B - B.1 * uQ a b t A)) / (uQ a b t B - uQ a b t A):=by
  unfold xQ
  show a * ((A.2 * uQ a b t B - B.2 * uQ a b t A) / (uQ a b t B - uQ a b t A)) - b * ((A.1 * uQ a b t B - B.1 * uQ a b t A) / (uQ a b t B - uQ a b t A))=_
  grind
 rw [e]
 have e2:a * (A.2 * uQ a b t B - B.2 * uQ a b t A) - b * (A.1 * uQ a b t B - B.1 * uQ a b t A)=rQ a b A * uQ a b t B - rQ a b B * uQ a b t A:=by
  unfold rQ
  grind
 rw [e2]
def em (A B:Qt):List Qt:=(if uQ a b t A * uQ a b t B<0 then [xQ a b t A B] else [])++(if uQ a b t B<=0 then [B] else [])
def qaP (A B:Qt):Rat :=
 if uQ a b t A<=0 then
  if uQ a b t B<=0 then gQ a b t A B else -(rQ a b B - rQ a b A) * (uQ a b t A * uQ a b t A) / (uQ a b t B - uQ a b t A)
 else if uQ a b t B<=0 then -(rQ a b B - rQ a b A) * (uQ a b t B * uQ a b t B) / (uQ a b t A - uQ a b t B) else 0
def gp:Qt->List Qt->Rat
 | _,[]=>0
 | Z,W::l=>gQ a b t Z W+gp W l
def lst:Qt->List Qt->Qt
 | Z,[]=>Z
 | _,W::l=>lst W l
def Sta (Z A:Qt):Prop:=(uQ a b t A<=0->Z=A)/\(0<uQ a b t A->uQ a b t Z=0)
theorem qgt {Z A B:Qt}(h:Sta a b t Z A):gp a b t Z (em a b t A B)=qaP a b t A B/\Sta a b t (lst Z (em a b t A B)) B:=by
 obtain ⟨h1,h2⟩:=h
 unfold em qaP
 by_cases hA:uQ a b t A<=0
 ·have hZ:=h1 hA
  subst hZ
  rw [if_pos hA]
  by_cases hB:uQ a b t B<=0
  ·have hn:¬ uQ a b t Z * uQ a b t B<0:=by
    have:=Rat.mul_nonneg (a:=-uQ a b t Z) (b:=-uQ a b t B) (by grind) (by grind)
    grind
   rw [if_neg hn,if_pos hB,if_pos hB]
   refine ⟨?_,fun _=>rfl,fun z=>?_⟩
   ·show gQ a b t Z B+0=_
    grind
   ·grind
  ·rw [if_neg hB,if_neg hB]
   by_cases z:uQ a b t Z=0
   ·have hn:¬ uQ a b t Z * uQ a b t B<0:=by rw [z];grind
    rw [if_neg hn]
    refine ⟨?_,fun y=>absurd y hB,fun _=>z⟩
    show (0:Rat)=_
    rw [z]
    grind
   ·have hy:uQ a b t Z * uQ a b t B<0:=by
     have:=Rat.mul_pos (a:=-uQ a b t Z) (b:=uQ a b t B) (by grind) (by grind)
     grind
    have hne:uQ a b t B - uQ a b t Z≠0:=by grind
    rw [if_pos hy]
    have xu:=x_u a b t hne
    refine ⟨?_,fun y=>absurd y hB,fun _=>xu⟩
    show gQ a b t Z (xQ a b t Z B)+0=_
    unfold gQ
    rw [xu,x_r a b t hne]
    grind
 ·rw [if_neg hA]
  have hZ:=h2 (by grind)
  by_cases hB:uQ a b t B<=0
  ·rw [if_pos hB,if_pos hB]
   by_cases z:uQ a b t B=0
   ·have hn:¬ uQ a b t A * uQ a b t B<0:=by rw [z];grind
    rw [if_neg hn]
    refine ⟨?_,fun _=>rfl,fun y=>by grind⟩
    show gQ a b t Z B+0=_
    unfold gQ
    rw [z,hZ]
    grind
   ·have hy:uQ a b t A * uQ a b t B<0:=by
     have:=Rat.mul_pos (a:=uQ a b t A) (b:=-uQ a b t B) (by grind) (by grind)
     grind
    have hne:uQ a b t B - uQ a b t A≠0:=by grind
    rw [if_pos hy]
    have xu:=x_u a b t hne
    refine ⟨?_,fun _=>rfl,fun y=>by grind⟩
    show gQ a b t Z (xQ a b t A B)+(gQ a b t (xQ a b t A B) B+0)=_
    unfold gQ
    rw [xu,hZ,x_r a b t hne]
    have hne2:uQ a b t A - uQ a b t B≠0:=by grind
    grind
  ·have hn:¬ uQ a b t A * uQ a b t B<0:=by
    have:=Rat.mul_pos (a:=uQ a b t A) (b:=uQ a b t B) (by grind) (by grind)
    grind
   rw [if_neg hn,if_neg hB,if_neg hB]
   refine ⟨rfl,fun y=>absurd y hB,fun _=>hZ⟩
end
end L2
namespace L2
def j9 (f:Qt->Qt->Rat):Qt->List Qt->Rat
 | _,[]=>0
 | A,B::l=>f A B+j9 f B l
theorem ZP (Z:Qt):∀ x y:List Qt,lst Z (x++y)=lst (lst Z x) y
 | [],_=>rfl
 | W::x,y=>ZP W x y
theorem JM (Z W:Qt) (x:List Qt):lst Z (x++[W])=W:=by rw [ZP];rfl
theorem qh0 {Z Z':Qt}:∀ {x:List Qt},x≠[]->lst Z x=lst Z' x
 | [],h=>absurd rfl h
 | _::_,_=>rfl
theorem JP (f:Qt->Qt->Rat) (Z:Qt):∀ x y:List Qt,j9 f Z (x++y)=j9 f Z x+j9 f (lst Z x) y
 | [],_=>by show _=0+_;grind [j9,lst]
 | W::x,y=>by
  show f Z W+j9 f W (x++y)=f Z W+j9 f W x+_
  rw [JP f W x y]
  show _=_+j9 f (lst W x) y
  grind
section
variable (a b t:Rat)
def Jv:Qt->List Qt->List Qt
 | _,[]=>[]
 | A,B::l=>em a b t A B++Jv B l
theorem qcp (Z:Qt):∀ l:List Qt,gp a b t Z l=j9 (gQ a b t) Z l
 | []=>rfl
 | W::l=>by show _+gp a b t W l=_+j9 _ W l;rw [qcp W l]
theorem Yx:∀ (l:List Qt) {Z A:Qt},Sta a b t Z A->j9 (gQ a b t) Z (Jv a b t A l)=j9 (qaP a b t) A l/\Sta a b t (lst Z (Jv a b t A l)) (lst A l)
 | [],Z,A,h=>⟨rfl,h⟩
 | B::l,Z,A,h=>by
  obtain ⟨e1,s1⟩:=qgt a b t (B:=B) h
  rw [qcp] at e1
  obtain ⟨e2,s2⟩:=Yx l s1
  show j9 _ Z (em a b t A B++Jv a b t B l)=qaP a b t A B+j9 _ B l/\Sta a b t (lst Z (em a b t A B++Jv a b t B l)) (lst B l)
  rw [JP,ZP,e1,e2]
  exact ⟨rfl,s2⟩
theorem qfc (Z:Qt):∀ l:List Qt,(a * a+b * b) * j9 cq Z l=j9 (gQ a b t) Z l - (uQ a b t (lst Z l) * rQ a b (lst Z l) - uQ a b t Z * rQ a b Z)+t * (rQ a b (lst Z l) - rQ a b Z)
 | []=>by
  show (a * a+b * b) * 0=0 - _+_
  show (a * a+b * b) * 0=0 - (uQ a b t Z * rQ a b Z - uQ a b t Z * rQ a b Z)+t * (rQ a b Z - rQ a b Z)
  grind
 | W::l=>by
  have ih:=qfc W l
  have e:=qiB a b t Z W
  show (a * a+b * b) * (cq Z W+j9 cq W l)=gQ a b t Z W+j9 (gQ a b t) W l - (uQ a b t (lst W l) * rQ a b (lst W l) - uQ a b t Z * rQ a b Z)+t * (rQ a b (lst W l) - rQ a b Z)
  generalize j9 cq W l=x at *
  generalize j9 (gQ a b t) W l=y at *
  generalize lst W l=V at *
  generalize cq Z W=c at *
  generalize gQ a b t Z W=g at *
  generalize uQ a b t V * rQ a b V=p at *
  generalize uQ a b t W * rQ a b W=q at *
  generalize uQ a b t Z * rQ a b Z=s at *
  generalize rQ a b V=r1 at *
  generalize rQ a b W=r2 at *
  generalize rQ a b Z=r3 at *
  grind
theorem qg6 (hL:a * a+b * b≠0) (A:Qt):∃ Z,Sta a b t Z A:=by
 by_cases h:uQ a b t A<=0
 ·exact ⟨A,fun _=>rfl,fun z=>by grind⟩
 ·refine ⟨(a * t / (a * a+b * b),b * t / (a * a+b * b)),fun z=>absurd z h,fun _=>?_⟩
  show a * (a * t / (a * a+b * b))+b * (b * t / (a * a+b * b)) - t=0
  grind
theorem qeb (hL:a * a+b * b≠0) {A:Qt}{l:List Qt}(hA:lst A l=A) (Z:Qt) (hZ:Jv a b t A l≠[]->lst Z (Jv a b t A l)=Z) :
  (a * a+b * b) * j9 cq Z (Jv a b t A l)=j9 (qaP a b t) A l:=by
 obtain ⟨Z0,s0⟩:=qg6 a b t hL A
 obtain ⟨e0,s1⟩:=Yx a b t l s0
 rw [hA] at s1
 by_cases c:Jv a b t A l=[]
 ·rw [c] at e0 ⊢
  rw [<- e0]
  show (a * a+b * b) * 0=0
  grind
 ·have hz:=hZ c
  have ez:lst Z0 (Jv a b t A l)=Z:=by rw [qh0 (Z':=Z) c];exact hz
  rw [ez] at s1
  obtain ⟨e2,_⟩:=Yx a b t l s1
  rw [qfc,hz,e2]
  grind
end
open PySem PySem.Spec PyProof.Rows
def Sz (k:Nat) (i:Int):Prop:=i.natAbs<2 ^ k
theorem Sz.mul {j k:Nat}{a b:Int}(ha:Sz j a) (hb:Sz k b):Sz (j+k) (a * b):=by
 unfold Sz at *
 rw [y4,Nat.pow_add]
 exact Nat.mul_lt_mul'' ha hb
theorem Sz.mono {j k:Nat}{a:Int}(h:j<=k) (ha:Sz j a):Sz k a:=qA ha (Nat.pow_le_pow_right (by decide) h)
theorem Sz.add {k:Nat}{a b:Int}(ha:Sz k a) (hb:Sz k b):Sz (k+1) (a+b):=by
 unfold Sz at *
 have:=Int.natAbs_add_le a b
 rw [Nat.pow_succ]
 omega
theorem Sz.neg {k:Nat}{a:Int}(ha:Sz k a):Sz k (-a):=by unfold Sz at *;rw [Int.natAbs_neg];exact ha
theorem Sz.sub {k:Nat}{a b:Int}(ha:Sz k a) (hb:Sz k b):Sz (k+1) (a - b):=by rw [Int.sub_eq_add_neg];exact ha.add hb.neg
theorem Sz.of {k:Nat}{a:Int}(n:Nat) (h:a.natAbs<=n) (hn:n<2 ^ k):Sz k a:=yu h hn
theorem Sz.bits {k:Nat}{i:Int}(h:Sz k i) (hk:k<2 ^ 20):Builtin.Int.intBits i<=2 ^ 20:=by
 unfold Builtin.Int.intBits
 by_cases h0:i.natAbs=0
 ·have:i=0:=by omega
  subst this
  decide
 ·have:=(Nat.log2_lt h0).mpr h
  split <;> omega
section
variable {X:Cx}{K:W.Frag}
def qgR (i j:Int):Prop:=∃ k,k<2 ^ 20/\Sz k i/\Sz k j
theorem qf4:OpR X (binaryOp .Mult) (rI qgR fun i j=>.int (i * j)):=opI fun _ _ _ _ _ _ _ ⟨k,hk,h1,h2⟩ q=>mul_int q (IntMulOk.of_bits (h1.bits hk) (h2.bits hk))
def qi2 (i j:Int):Prop:=j≠0/\Sz 9000 j
theorem qdH:OpR X (binaryOp .FloorDiv) (rI qi2 fun i j=>.int (i.fdiv j)):=opI fun i j _ _ _ _ _ hc q=>floordiv_int hc.1 q (.inl (PyProof.noPylong_of_log2 (by
 by_cases h0:j.natAbs=0
 ·exact absurd (by omega) hc.1
 ·exact (Nat.log2_lt h0).mpr hc.2)))
theorem qB:OpR X (binaryOp .Mult) (upR K (rdI qgR fun i j=>.int (i * j))):=qf4.mono fun _ _ _ _=>qaI
theorem Jg:OpR X (binaryOp .FloorDiv) (upR K (rdI qi2 fun i j=>.int (i.fdiv j))):=qdH.mono fun _ _ _ _=>qaI
theorem jf {j k:Nat}{a b:Int}(ha:Sz j a) (hb:Sz k b) (h:j+k<2 ^ 20):qgR a b:=⟨j+k,h,ha.mono (by omega),hb.mono (by omega)⟩
end
end L2
namespace L2
abbrev Tr:=Int×Int×Int
def fr (v:Pt) (n d:Int) (q:Pt):Int:=d * (v.1 * q.1+v.2 * q.2) - n
def emI (v:Pt) (n d:Int) (A B:Pt):List Tr:=(if fr v n d A * fr v n d B<0 then [(A.1 * fr v n d B - B.1 * fr v n d A,A.2 * fr v n d B - B.2 * fr v n d A,fr v n d B - fr v n d A)] else [])++(if fr v n d B<=0 then [(B.1,B.2,1)] else [])
def lsP:Pt->List Pt->Pt
 | Z,[]=>Z
 | _,W::l=>lsP W l
def emL (v:Pt) (n d:Int):Pt->List Pt->List Tr
 | _,[]=>[]
 | A,B::l=>emI v n d A B++emL v n d B l
theorem qaw (v:Pt) (n d:Int):∀ (l:List Pt) (A B:Pt),emL v n d A (l++[B])=emL v n d A l++emI v n d (lsP A l) B
 | [],A,B=>by simp [emL,lsP]
 | C::l,A,B=>by
  show emI v n d A C++emL v n d C (l++[B])=(emI v n d A C++emL v n d C l)++emI v n d (lsP C l) B
  rw [qaw v n d l C B,ql]
def tq (x:Tr):Qt:=((x.1:Rat) / x.2.2,(x.2.1:Rat) / x.2.2)
def pq (p:Pt):Qt:=((p.1:Rat),(p.2:Rat))
theorem fr_u {v:Pt}{n d:Int}(hd:0<d) (q:Pt):(fr v n d q:Rat)=d * uQ v.1 v.2 ((n:Rat) / d) (pq q):=by
 have d2:(d:Rat)≠0:=fun z=>by
  have:d=0:=Rat.intCast_inj.mp (by rw [z];rfl)
  omega
 unfold fr uQ pq
 simp only [Rat.intCast_sub,Rat.intCast_mul,Rat.intCast_add]
 grind
theorem yY {d:Int}(h:d≠0):(d:Rat)≠0:=fun z=>h (Rat.intCast_inj.mp (by rw [z];rfl))
theorem qe5 {d:Rat}(a b x y:Rat) (hd:d≠0) (h:y - x≠0):(a * (d * y) - b * (d * x)) / (d * y - d * x)=(a * y - b * x) / (y - x):=by
 have h2:d * y - d * x≠0:=by
  intro z
  have:d * (y - x)=0:=by grind
  rcases Rat.mul_eq_zero.mp this with c | c
  ·exact hd c
  ·exact h c
 grind
theorem emI_q {v:Pt}{n d:Int}(hd:0<d) (A B:Pt):(emI v n d A B).map tq=em v.1 v.2 ((n:Rat) / d) (pq A) (pq B):=by
 have fA:=fr_u (v:=v) (n:=n) hd A
 have fB:=fr_u (v:=v) (n:=n) hd B
 have hd':(0:Rat)<(d:Rat):=Rat.intCast_pos.mpr hd
 have hd2:(d:Rat)≠0:=yY (by omega)
 have c1:fr v n d A * fr v n d B<0 ↔ uQ v.1 v.2 ((n:Rat) / d) (pq A) * uQ v.1 v.2 ((n:Rat) / d) (pq B)<0:=by
  rw [<- Rat.intCast_lt_intCast,Rat.intCast_mul,fA,fB]
  generalize uQ (v.1:Rat) (v.2:Rat) ((n:Rat) / d) (pq A)=x
  generalize uQ (v.1:Rat) (v.2:Rat) ((n:Rat) / d) (pq B)=y
  have e:(d:Rat) * x * (d * y)=(d * d) * (x * y):=by grind
  have p:(0:Rat)<(d:Rat) * d:=Rat.mul_pos hd' hd'
  show (d:Rat) * x * (d * y)<0 ↔ _
  rw [e]
  generalize x * y=z
  generalize (d:Rat) * d=k at p
  constructor
  ·intro h
   by_cases c:z<0
   ·exact c
   ·have:=Rat.mul_nonneg (Rat.le_of_lt p) (show 0<=z by grind)
    grind
  ·intro h
   have:=Rat.mul_pos p (show 0 < -z by grind)
   grind
 have c2:fr v n d B<=0 ↔ uQ v.1 v.2 ((n:Rat) / d) (pq B)<=0:=by
  rw [<- Rat.intCast_le_intCast,fB]
  generalize uQ (v.1:Rat) (v.2:Rat) ((n:Rat) / d) (pq B)=y
  show (d:Rat) * y<=0 ↔ _
  constructor
  ·intro h
   by_cases c:0<y
   ·have:=Rat.mul_pos hd' c
    grind
   ·grind
  ·intro h
   have:=Rat.mul_nonneg (Rat.le_of_lt hd') (show 0 <= -y by grind)
   grind
 unfold emI em
 rw [List.map_append]
 congr 1
 ·by_cases h:fr v n d A * fr v n d B<0
  ·rw [if_pos h,if_pos (c1.mp h)]
   show [tq _]=_
   congr 1
   unfold tq xQ
   simp only [Rat.intCast_sub,Rat.intCast_mul,fA,fB]
   have hne:uQ v.1 v.2 ((n:Rat) / d) (pq B) - uQ v.1 v.2 ((n:Rat) / d) (pq A)≠0:=by
    have:=c1.mp h
    intro z
    have e:uQ v.1 v.2 ((n:Rat) / d) (pq B)=uQ v.1 v.2 ((n:Rat) / d) (pq A):=by grind
    rw [e] at this
    generalize uQ (v.1:Rat) (v.2:Rat) ((n:Rat) / d) (pq A)=x at this
    by_cases c:0<x
    ·have:=Rat.mul_pos c c;grind
    ·have:=Rat.mul_nonneg (a:=-x) (b:=-x) (by grind) (by grind);grind
   exact Prod.ext (qe5 _ _ _ _ hd2 hne) (qe5 _ _ _ _ hd2 hne)
  ·rw [if_neg h,if_neg fun z=>h (c1.mpr z)]
   rfl
 ·by_cases h:fr v n d B<=0
  ·rw [if_pos h,if_pos (c2.mp h)]
   show [tq (B.1,B.2,1)]=[pq B]
   unfold tq pq
   congr 1
   show ((B.1:Rat) / ((1:Int):Rat),(B.2:Rat) / ((1:Int):Rat))=_
   ext <;> grind
  ·rw [if_neg h,if_neg fun z=>h (c2.mpr z)]
   rfl
theorem qim {v:Pt}{n d:Int}(hd:0<d):∀ (l:List Pt) (A:Pt),(emL v n d A l).map tq=Jv v.1 v.2 ((n:Rat) / d) (pq A) (l.map pq)
 | [],_=>rfl
 | B::l,A=>by
  show (emI v n d A B++emL v n d B l).map tq=em v.1 v.2 ((n:Rat) / d) (pq A) (pq B)++Jv v.1 v.2 ((n:Rat) / d) (pq B) (l.map pq)
  rw [List.map_append,emI_q hd,qim hd l B]
def bt (x:Tr):Nat:=if x.2.2=1 then 0 else 245
def bts (l:List Tr):Nat:=(l.map bt).sum
def qgP (x:Tr):Prop:=x.2.2≠0/\Sz 400 x.1/\Sz 400 x.2.1/\Sz 245 x.2.2
theorem qcV (a b:List Tr):bts (a++b)=bts a+bts b:=by unfold bts;rw [List.map_append,List.sum_append]
theorem qin {v:Pt}{n d:Int}{A B:Pt}(a1:Sz 101 A.1) (a2:Sz 101 A.2) (b1:Sz 101 B.1) (b2:Sz 101 B.2) (fA:Sz 244 (fr v n d A)) (fB:Sz 244 (fr v n d B)) :
  (∀ x∈emI v n d A B,qgP x)/\bts (emI v n d A B)<=245/\(emI v n d A B).length<=2:=by
 unfold emI
 refine ⟨fun x hx=>?_,?_,?_⟩
 ·rcases List.mem_append.mp hx with h | h
  ·by_cases c:fr v n d A * fr v n d B<0
   ·rw [if_pos c] at h
    rw [qx.mp h]
    refine ⟨fun z=>?_,((a1.mul fB).sub (b1.mul fA)).mono (by decide),((a2.mul fB).sub (b2.mul fA)).mono (by decide),fB.sub fA⟩
    have e:fr v n d B=fr v n d A:=by
     have z:fr v n d B - fr v n d A=0:=z
     omega
    rw [e] at c
    rcases Int.le_total 0 (fr v n d A) with y | y
    ·have:=jr y y;omega
    ·have:=Int.mul_nonneg_of_nonpos_of_nonpos y y;omega
   ·rw [if_neg c] at h;exact nomatch h
  ·by_cases c:fr v n d B<=0
   ·rw [if_pos c] at h
    rw [qx.mp h]
    exact ⟨(show (1:Int)≠0 by decide),b1.mono (by decide),b2.mono (by decide),(show Sz 245 (1:Int) by unfold Sz;decide +kernel)⟩
   ·rw [if_neg c] at h;exact nomatch h
 ·rw [qcV]
  have e1:bts (if fr v n d A * fr v n d B<0 then [(A.1 * fr v n d B - B.1 * fr v n d A,A.2 * fr v n d B - B.2 * fr v n d A,fr v n d B - fr v n d A)] else [])<=245:=by
   split
   ·unfold bts bt
    simp only [List.map_cons,List.map_nil,List.sum_cons,List.sum_nil]
    split <;> omega
   ·exact yc _
  have e2:bts (if fr v n d B<=0 then [((B.1,B.2,1):Tr)] else [])=0:=by
   split
   ·rfl
   ·rfl
  omega
 ·rw [List.length_append]
  split <;> split <;> simp
theorem qe8 {v:Pt}{n d:Int}:∀ {l:List Pt}{A:Pt},(∀ q∈A::l,Sz 101 q.1/\Sz 101 q.2/\Sz 244 (fr v n d q))->(∀ x∈emL v n d A l,qgP x)/\bts (emL v n d A l)<=245 * l.length/\(emL v n d A l).length<=2 * l.length
 | [],A,_=>⟨fun _ h=>(nomatch h),qk _,qk _⟩
 | B::l,A,h=>by
  obtain ⟨a1,a2,a3⟩:=h A (by simp)
  obtain ⟨b1,b2,b3⟩:=h B (by simp)
  obtain ⟨i1,i2,i3⟩:=qin (v:=v) (n:=n) (d:=d) a1 a2 b1 b2 a3 b3
  obtain ⟨j1,j2,j3⟩:=qe8 (l:=l) (A:=B) fun q hq=>h q (qi _ hq)
  show (∀ x∈emI v n d A B++emL v n d B l,qgP x)/\bts (emI v n d A B++emL v n d B l)<=_/\(emI v n d A B++emL v n d B l).length<=_
  refine ⟨fun x hx=>?_,?_,?_⟩
  ·rcases List.mem_append.mp hx with z | z
   ·exact i1 x z
   ·exact j1 x z
  ·rw [qcV,List.length_cons];omega
  ·rw [List.length_append,List.length_cons];omega
end L2
namespace L2
def jB (f:Nat->Rat):Nat->Rat
 | 0=>0
 | n+1=>jB f n+f n
theorem yV {f g:Nat->Rat}:∀ {n:Nat},(∀ k,k<n->f k=g k)->jB f n=jB g n
 | 0,_=>rfl
 | n+1,h=>by
  show jB f n+f n=jB g n+g n
  rw [yV (n:=n) fun k hk=>h k (by omega),h n (by omega)]
def gT (C:List Tr) (k:Nat):Tr:=C.getD k (0,0,1)
def pvT (C:List Tr) (k:Nat):Tr:=if k=0 then gT C (C.length - 1) else gT C (k - 1)
theorem qcs {C:List Tr}{k:Nat}(h:k<C.length):gT C k=C[k]:=by unfold gT;rw [qw,List.getElem?_eq_getElem h];rfl
theorem qcr {C:List Tr}{k:Nat}(h:k<C.length):gT C k∈C:=by rw [qcs h];exact qE h
theorem qbJ {C:List Tr}{k:Nat}(h:k<C.length):pvT C k∈C:=by unfold pvT;split <;> exact qcr (by omega)
theorem Ja {C:List Tr}{i:Nat}(h:i<C.length):C.take (i+1)=C.take i++[gT C i]:=by
 rw [List.take_add_one,List.getElem?_eq_getElem h,qcs h];rfl
theorem qaq {C:List Tr}:∀ i,i<C.length->lst (tq (gT C (C.length - 1))) ((C.take i).map tq)=tq (pvT C i)
 | 0,_=>rfl
 | i+1,h=>by
  rw [Ja (by omega),List.map_append]
  show lst _ ((C.take i).map tq++[tq (gT C i)])=_
  rw [JM]
  unfold pvT
  rw [if_neg (by omega)]
  rfl
theorem Y4 {C:List Tr}:∀ i,i<=C.length->jB (fun k=>cq (tq (pvT C k)) (tq (gT C k))) i=j9 cq (tq (gT C (C.length - 1))) ((C.take i).map tq)
 | 0,_=>rfl
 | i+1,h=>by
  rw [Ja (by omega),List.map_append,JP,qaq i (by omega)]
  show jB _ i+_=_+(cq (tq (pvT C i)) (tq (gT C i))+0)
  rw [Y4 i (by omega)]
  grind
def Rnd (C:List Tr) (i:Nat) (ov un:Int):Prop:=un≠0/\Sz (2000 * i+1) ov/\Sz (500 * i+1) un/\un.natAbs<=2 ^ ((C.take i).map bt).sum * 2 ^ (((List.range i).map fun k=>bt (pvT C k)).sum) ∧
 (ov:Rat) / un=jB (fun k=>cq (tq (pvT C k)) (tq (gT C k))) i
theorem qiJ {x:Tr}(h:qgP x):x.2.2.natAbs<=2 ^ bt x:=by
 unfold bt
 split
 ·rename_i e;rw [e];decide
 ·exact yp h.2.2.2
theorem qdq {C:List Tr}{i:Nat}{ov un:Int}(ok:∀ x∈C,qgP x) (hi:i<C.length) (h:Rnd C i ov un) :
  Rnd C (i+1) (ov * (pvT C i).2.2 * (gT C i).2.2+((pvT C i).1 * (gT C i).2.1 - (gT C i).1 * (pvT C i).2.1) * un) (un * (pvT C i).2.2 * (gT C i).2.2):=by
 obtain ⟨h0,s1,s2,b,e⟩:=h
 have k1:=ok _ (qbJ hi)
 have k2:=ok _ (qcr hi)
 have l1:=qiJ k1
 have l2:=qiJ k2
 obtain ⟨p0,p1,p2,p3⟩:=k1
 obtain ⟨q0,q1,q2,q3⟩:=k2
 refine ⟨Int.mul_ne_zero (Int.mul_ne_zero h0 p0) q0,?_,((s2.mul p3).mul q3).mono (by omega),?_,?_⟩
 ·have a:=((s1.mul p3).mul q3).mono (show 2000 * i+1+245+245<=2000 * i+1500 by omega)
  have c:=(((p1.mul q2).sub (q1.mul p2)).mul s2).mono (show 400+400+1+(500 * i+1)<=2000 * i+1500 by omega)
  exact (a.add c).mono (by omega)
 ·rw [y4,y4,Ja hi,List.map_append,List.sum_append,List.range_succ,List.map_append,List.sum_append]
  simp only [List.map_cons,List.map_nil,List.sum_cons,List.sum_nil,Nat.add_zero]
  rw [Nat.pow_add,Nat.pow_add]
  have:=Nat.mul_le_mul (Nat.mul_le_mul b l1) l2
  calc un.natAbs * (pvT C i).2.2.natAbs * (gT C i).2.2.natAbs<=_:=this
   _=_:=by grind
 ·show _=jB _ i+cq (tq (pvT C i)) (tq (gT C i))
  rw [<- e]
  have c0:=yY h0
  have c1:=yY p0
  have c2:=yY q0
  unfold cq tq
  simp only [Rat.intCast_mul,Rat.intCast_add,Rat.intCast_sub]
  grind
theorem qhe {C:List Tr}{ov un:Int}(h:Rnd C C.length ov un) (hb:bts C<=2940) (hp:((List.range C.length).map fun k=>bt (pvT C k)).sum<=bts C):Sz 9000 un:=by
 obtain ⟨_,_,_,b,_⟩:=h
 rw [qT] at b
 unfold Sz
 have hb':(C.map bt).sum<=2940:=hb
 refine yu b ?_
 rw [<- Nat.pow_add]
 refine Nat.pow_lt_pow_right (by decide) ?_
 have:(C.map bt).sum=bts C:=rfl
 omega
theorem qfK {C:List Tr}:((List.range C.length).map fun k=>bt (pvT C k)).sum=bts C:=by
 cases h:C.length with
 | zero =>
  have:C=[]:=List.length_eq_zero_iff.mp h
  subst this
  rfl
 | succ m =>
  rw [List.range_succ_eq_map,List.map_cons,List.map_map,List.sum_cons]
  have e0:bt (pvT C 0)=bt (gT C m):=by unfold pvT;rw [if_pos rfl,h];rfl
  have e1:(List.range m).map ((fun k=>bt (pvT C k)) ∘ Nat.succ)=(List.range m).map fun k=>bt (gT C k):=List.map_congr_left fun k _=>by
   show bt (pvT C (k+1))=_
   unfold pvT
   rw [if_neg (by omega)]
   rfl
  rw [e0,e1]
  have e2:C.map bt=(List.range m).map (fun k=>bt (gT C k))++[bt (gT C m)]:=by
   have:(List.range m).map (fun k=>bt (gT C k))++[bt (gT C m)]=(List.range (m+1)).map fun k=>bt (gT C k):=by rw [List.range_succ,List.map_append];rfl
   rw [this]
   apply List.ext_getElem
   ·simp [h]
   ·intro i h1 h2
    rw [List.getElem_map,List.getElem_map,List.getElem_range,qcs (by simpa using h1)]
  unfold bts
  rw [e2,List.sum_append]
  simp
  omega
theorem Zg (f:Qt->Qt->Rat) {P:List Pt}(h0:0<P.length):∀ i,i+1<=P.length->j9 f (pq (gP P 0)) (((P.drop 1).take i).map pq)=jB (fun k=>f (pq (gP P k)) (pq (gP P (k+1)))) i/\lst (pq (gP P 0)) (((P.drop 1).take i).map pq)=pq (gP P i)
 | 0,_=>⟨rfl,rfl⟩
 | i+1,h=>by
  obtain ⟨e1,e2⟩:=Zg f h0 i (by omega)
  have hx:i<(P.drop 1).length:=by rw [yd];omega
  have et:(P.drop 1).take (i+1)=(P.drop 1).take i++[gP P (i+1)]:=by
   rw [List.take_add_one,List.getElem?_eq_getElem hx,jb (by omega),List.getElem_drop]
   simp [Nat.add_comm]
  rw [et,List.map_append]
  refine ⟨?_,?_⟩
  ·rw [JP,e1,e2]
   show _+(f (pq (gP P i)) (pq (gP P (i+1)))+0)=jB _ i+_
   grind
  ·show lst _ (((P.drop 1).take i).map pq++[pq (gP P (i+1))])=_
   rw [JM]
theorem qdt (f:Qt->Qt->Rat) {P:List Pt}(h0:0<P.length):j9 f (pq (gP P (P.length - 1))) (P.map pq)=jB (fun k=>f (pq (gP P k)) (pq (nx P k))) P.length:=by
 have d:=qgT (S:=P) (k:=0) h0
 rw [List.drop_zero] at d
 have hl:(P.drop 1).length=P.length - 1:=yd
 obtain ⟨e1,_⟩:=Zg f h0 (P.length - 1) (by omega)
 rw [List.take_of_length_le (by omega)] at e1
 have e2:j9 f (pq (gP P (P.length - 1))) (P.map pq)=f (pq (gP P (P.length - 1))) (pq (gP P 0))+j9 f (pq (gP P 0)) ((P.drop 1).map pq):=by
  have em:P.map pq=pq (gP P 0)::(P.drop 1).map pq:=congrArg (List.map pq) d
  rw [em]
  rfl
 rw [e2,e1]
 have e3:P.length=(P.length - 1)+1:=by omega
 conv=>rhs;rw [e3]
 show _=jB _ (P.length - 1)+f (pq (gP P (P.length - 1))) (pq (nx P (P.length - 1)))
 have e4:nx P (P.length - 1)=gP P 0:=by unfold nx;rw [show P.length - 1+1=P.length by omega,Nat.mod_self]
 rw [e4,yV (g:=fun k=>f (pq (gP P k)) (pq (nx P k))) fun k hk=>?_]
 ·grind
 ·unfold nx
  rw [qJ (by omega)]
end L2
local macro_rules | `(tactic| walk_at "i")=>`(tactic| first | refine J8 (fun c=>?_) (fun c=>?_))
namespace K72
open PySem L2
def top (i:Nat):Stmt:=PySem.Challenge.pw_halveline_k72_parts_below.main.body.getD i (.Pass ⟨0,0,0,0⟩)
structure Txt (mg:Str->Option Value):Prop where
 len_:mg "len" = none
 range_:mg "range" = none
 max_:mg "max" = none
 min_:mg "min" = none
 abs_:mg "abs" = none
 int_:mg "int" = none
 isinstance_:mg "isinstance" = none
 tuple_:mg "tuple" = none
 bool_:mg "bool" = none
 list_:mg "list" = none
 all_:mg "all" = none
 any_:mg "any" = none
 set_:mg "set" = none
 sorted_:mg "sorted" = none
 str_:mg "str" = none
 enumerate_:mg "enumerate" = none
 zip_:mg "zip" = none
 divmod_:mg "divmod" = none
 sum_:mg "sum" = none
 reversed_:mg "reversed" = none
abbrev jc:Stmt:=top 1
abbrev ZF:Stmt:=top 3
abbrev JT:Stmt:=top 4
abbrev qbj:Stmt:=top 6
abbrev qbp:Stmt:=top 7
abbrev yE:Stmt:=top 9
abbrev Z5:Stmt:=top 10
abbrev qdn:Stmt:=top 11
abbrev Jk:Stmt:=top 12
abbrev jx:Stmt:=top 13
abbrev qby:Stmt:=top 14
abbrev jJ:Stmt:=top 16
abbrev Jn:Stmt:=top 17
abbrev Jm:Stmt:=top 18
abbrev jK:Stmt:=top 20
abbrev jY:Stmt:=top 21
abbrev jX:Stmt:=top 22
abbrev Jp:Stmt:=top 23
abbrev jT:Stmt:=top 24
abbrev jz:Stmt:=top 25
abbrev j4:Stmt:=top 26
abbrev JU:Stmt:=top 27
abbrev jA:Stmt:=top 28
abbrev Jo:Stmt:=top 29
abbrev jZ:Stmt:=top 30
abbrev yO:Stmt:=top 31
abbrev y9:Stmt:=top 32
abbrev jy:Stmt:=top 33
abbrev qc7:Stmt:=top 34
section
variable {P:Program}{w:World}{K:W.Frag}{mg:Str->Option Value}{base:Heap}{CX:CXT}
def sDraw (M:Int):SpD:=fun es μ Q=>∃ (p:Addr) (m:Int),es=[.m p,.d (.int m)]/\(p,.pot M)∈μ/\0<m/\m<=10000000000000000000000000000000000000000/\∀ d,0<=d->d<m->Q (.d (.int d)) μ
def spTakeM (M:Int):Sp:=fun vs H Q _=>∃ (p:Addr) (m:Int),vs=[.ref p,.int m]/\Pot M H p/\0<m/\m<=10000000000000000000000000000000000000000/\∀ d H',0<=d->d<m->Pot M H' p->Stp p H H'->Q (.int d) H'
theorem draw_up {K:W.Frag}{M:Int}{vs:List V}{H:Hp}{Q:VK}{E:XK}(h:yh K (sDraw M) vs H Q E):spTakeM M vs H Q E:=by
 obtain ⟨μ,es,Q0,hM,hp,⟨p,m,rfl,hpot,m0,m1,q⟩,cl⟩:=h
 obtain ⟨v,v',rfl,i1,i2⟩:=ZL hp
 have i1:v=_:=i1
 subst i1
 cases i2
 refine ⟨p,m,rfl,hM.ob _ _ hpot,m0,m1,fun d H' d0 d1 hP s=>?_⟩
 obtain ⟨M',s'⟩:=qbQ hM hpot hP s
 exact cl _ μ _ H' (q d d0 d1) M' s' (.int d)
abbrev PA0:MO:=.pot 2147483629
def sPot:SpD:=fun es μ Q=>∃ (ns:List Int) (k:Nat),es=[.d (.list (ns.map .int)),.d (.int k)]/\ns.length<=63/\k<=63/\∀ p,p∉μ.map Prod.fst->Q (.m p) ((p,PA0)::μ)
theorem qea {ns:List Int}{lo hi:Option Int}{i:Nat}{x:PyData}(h:(YT (ns.map PyData.int) lo hi)[i]?=some x):∃ y,x = .int y:=by
 obtain ⟨y,_,e⟩:=qI.mp (yH (yf (List.mem_of_getElem? h)))
 exact ⟨y,e.symm⟩
theorem qez:FnScope ["_law_script", "_law_k", "_law_cell", "_law_mixed", "_law_one"] ["_law_script", "_law_k"] (qu jJ):=⟨rfl,rfl,rfl,by decide +kernel,rfl,by decide +kernel,by decide +kernel⟩
theorem qhN {f:Addr}{fd:FuncData}(F:Fun K "_law_pot" "_law_pot" jJ f fd) (T:Txt mg):FnOk P w K mg base CX 1 f fd ["_law_script", "_law_k"] (yh K sPot):=by
 refine F.okD qez (fun es μ Q hq0=>by obtain ⟨ns,k,e,_⟩:=hq0;subst e;rfl) (fun cdv A outer s H E es μ Q hr hq0=>?_)
 obtain ⟨ns,n,e,hl,hn,k⟩:=hq0
 subst e
 have nd:=qez.nd
 have key:∃ t,DSs K (qc9 CX P w K mg base ["_law_script", "_law_k", "_law_cell", "_law_mixed", "_law_one"] "_law_pot" (qu jJ) f cdv A outer s H E).nox ((yX jJ).drop 1) t ∧
   ∀ cell:Int,t { nx:=fun _ μ'=>Q (.d .none) μ',rt:=Q } [some (.d (.list (ns.map .int))),some (.d (.int n)),some (.d (.int cell)),none,none] μ:=by
  refine ⟨_,(qp (qK (i:=3) nd rfl (by first | exact Or.inl rfl | exact Or.inr rfl) (qQ ym qr (qQ jh qr (dv 1))))
   (qp (J6 PassesOwn.never rfl (jD (Jy (dv 0) Jx (Jw qr))) (qC (i:=4) nd rfl (by first | exact Or.inl rfl | exact Or.inr rfl)) (qL (qK (i:=3) nd rfl (by first | exact Or.inl rfl | exact Or.inr rfl) (qQ qax (qQ ym (qQ jh (dv 3) qr) (dv 4)) qr))))
   (qL (ZU (qcI (qa (qW (qcG rfl) (by rfl) T.max_ qcX (qa qr (qa (qQ yw (dv 2) (qQ Ym qr qr)) qg))) (qa (dv 3) qg))))))),fun cell=>?_⟩
  refine ⟨⟨qff (by decide) (by decide),qff (by omega) (by omega)⟩,_,.d _,_,.d _,?_⟩
  refine qje (fun i ρ' μ'=>μ'=μ/\∃ (z:Int) (v:Option En),ρ'=[some (.d (.list (ns.map .int))),some (.d (.int n)),some (.d (.int cell)),some (.d (.int z)),v]/\0<=z/\z<2147483629) ⟨rfl,_,_,rfl,by omega,by omega⟩ (fun _ _ _ _=>.d _) ?_ ?_
  ·rintro i x ρ' μ' hx ⟨rfl,z,v,rfl,z0,z1⟩
   obtain ⟨y,rfl⟩:=qea hx
   exact ⟨⟨qff (by omega) (by omega),qff (by decide) (by decide)⟩,(show (0:Int)<2147483629 by decide),Wks.of ⟨rfl,_,_,rfl,Int.emod_nonneg _ (by decide),Int.emod_lt_of_pos _ (by decide)⟩⟩
  ·rintro ρ' μ' ⟨rfl,z,v,rfl,z0,z1⟩
   refine ⟨⟨by decide,by decide,by decide⟩,zl2,fun p hp=>⟨_,_,FzR.pot ?_ z0 z1,k p hp⟩⟩
   dsimp only
   split <;> omega
 obtain ⟨t,ht,hk⟩:=key
 refine ⟨_,(qp (qK (i:=2) nd rfl (by first | exact Or.inl rfl | exact Or.inr rfl) (qcJ (yT qd0 (dv 1) (qW jP (by rfl) T.len_ jS (qa (dv 0) qg)) (yB _)) (yR qG (dv 0) (dv 1) (fun _ _=>rfl)) qr))
   ht),?_⟩
 refine ⟨_,.l (.d _),?_⟩
 rw [List.length_map]
 refine J8 (fun c=>?_) (fun c=>?_)
 ·have hc:(n:Int)<(ns.length:Int):=qN c
  have hn2:n<ns.length:=by omega
  exact ⟨.int ns[n],YO (by rw [List.getElem?_map,List.getElem?_eq_getElem hn2];rfl),hk ns[n]⟩
 ·exact hk 0
theorem qbs:FnScope ["_law_pot_here", "_law_many", "_law_digit"] ["_law_pot_here", "_law_many"] (qu Jn):=⟨rfl,rfl,rfl,by decide +kernel,rfl,by decide +kernel,by decide +kernel⟩
theorem qf7 {f:Addr}{fd:FuncData}(F:Fun K "_law_take" "_law_take" Jn f fd):FnOk P w K mg base CX 1 f fd ["_law_pot_here", "_law_many"] (yh K (sDraw 2147483629)):=by
 refine FnOk.imp (sp:=spTakeM 2147483629) ?_ fun _ _ _ _ h=>draw_up h
 refine F.okG qbs (fun vs H Q E h=>?_) (fun cdv A outer s H vs Q E hr h=>?_)
 ·obtain ⟨p,m,rfl,_⟩:=h
  rfl
 ·obtain ⟨p,m,rfl,⟨p0,p1,e,h0,h1,h2⟩,m0,m1,k⟩:=h
  have nd:=qbs.nd
  refine ⟨_,(Jc (qhw (qbK qhK (ZJ j5 (pv 0) jd (fun _ _=>rfl)) jd (yB _)) (Jc (qeR (i:=2) nd rfl (by first | exact Or.inl rfl | exact Or.inr rfl) (Ya Y8 (ZJ j5 (pv 0) jd (fun _ _=>rfl)) (pv 1)))
   (Jc (qbP (Ya Yz (ZJ j5 (pv 0) jd (fun _ _=>rfl)) (pv 1)) (qeS (pv 0) jd Z6))
   (ZI (qaj (pv 2))))) qbN)
   (Jc (qbP (Ya Y8 (Ya qbZ (Ya ZM (ZJ j5 (pv 0) jd (fun _ _=>rfl)) jd) jd) jd) (qeS (pv 0) jd Z6))
   (ZI (qaj (Ya Y8 (Ya Yz (Ya Y8 (Ya ZM (ZJ j5 (pv 0) jd (fun _ _=>rfl)) (ZJ j5 (pv 0) jd (fun _ _=>rfl))) jd) jd) (pv 1)))))),?_⟩
  refine ⟨_,rfl,p,_,_,_,rfl,rfl,SqL.of e,rfl,_,_,rfl,rfl,_,rfl,?_⟩
  refine J8 (fun c=>?_) (fun c=>?_)
  ·have hc:0<p0:=qN c
   refine ⟨_,rfl,p,_,_,_,rfl,rfl,SqL.of e,rfl,_,rfl,_,_,rfl,rfl,m0,?_⟩
   refine ⟨_,rfl,p,_,_,_,rfl,rfl,SqL.of e,rfl,_,rfl,_,_,rfl,rfl,⟨by omega,Big.of 10000000000000000000000000000000000000000 (by decide +kernel) (by omega) (by omega)⟩,_,rfl,p,_,_,_,rfl,rfl,e,rfl,?_⟩
   refine ⟨_,rfl,?_⟩
   refine k _ _ (Int.emod_nonneg _ (by omega)) (Int.emod_lt_of_pos _ m0) ⟨p0.fdiv m,p1,yb,Int.fdiv_nonneg h0 (by omega),h1,h2⟩ Stp.upd
  ·refine ⟨_,rfl,p,_,_,_,rfl,rfl,SqL.of e,rfl,_,_,rfl,rfl,⟨Big.of 2147483629 (by decide) (by omega) (by omega),Big.of 39373 (by decide) (by decide) (by decide)⟩,_,_,rfl,rfl,_,_,rfl,rfl,(show (0:Int)<2147483629 by decide),_,rfl,p,_,_,_,rfl,rfl,e,rfl,?_⟩
   have g0:0<=(p1 * 39373+2311) % 2147483629:=Int.emod_nonneg _ (by decide)
   have g1:(p1 * 39373+2311) % 2147483629<2147483629:=Int.emod_lt_of_pos _ (by decide)
   have e':∀ z,(upd H p (.lst [V.int p0,V.int z])) p=some (.lst [V.int p0,V.int z]):=fun z=>yb
   refine ⟨_,rfl,p,_,_,_,rfl,rfl,SqL.of (e' _),rfl,_,rfl,p,_,_,_,rfl,rfl,SqL.of (e' _),rfl,_,_,rfl,rfl,⟨Big.of 2147483629 (by decide) (by omega) (by omega),Big.of 2147483629 (by decide) (by omega) (by omega)⟩,_,_,rfl,rfl,(show (0:Int)<2147483587 by decide),_,_,rfl,rfl,⟨by decide,Big.of 17 (by decide +kernel) (by decide) (by decide)⟩,_,rfl,_,_,rfl,rfl,m0,?_⟩
   exact k _ _ (Int.emod_nonneg _ (by omega)) (Int.emod_lt_of_pos _ m0) ⟨p0,_,e' _,h0,g0,g1⟩ Stp.upd
theorem e8:(10:Int) ^ (8:Int).toNat=100000000:=by decide
theorem e30:(10:Int) ^ (30:Int).toNat=1000000000000000000000000000000:=by decide
theorem qbr:FnScope ["_law_pot_here", "_law_found", "_law_k"] ["_law_pot_here"] (qu Jm):=⟨rfl,rfl,rfl,by decide +kernel,rfl,by decide +kernel,by decide +kernel⟩
theorem qf6 {f:Addr}{fd:FuncData}(F:Fun K "_law_wide" "_law_wide" Jm f fd) (T:Txt mg) (hX:NoX CX) (O_law_take:Own P w K mg base CX 1 "_law_take" ["_law_pot_here", "_law_many"] (yh K (sDraw 2147483629))):FnOk P w K mg base CX 2 f fd ["_law_pot_here"] (yh K (qi4 2147483629)):=by
 refine F.okD qbr (fun es μ Q hq0=>by obtain ⟨p,e,_⟩:=hq0;subst e;rfl) (fun cdv A outer s H E es μ Q hr hq0=>?_)
 obtain ⟨p,e,hp,k⟩:=hq0
 subst e
 have nd:=qbr.nd
 refine ⟨_,(qp (qK (i:=1) nd rfl (by first | exact Or.inl rfl | exact Or.inr rfl) qr)
   (qp (J6 PassesOwn.never rfl (jt rfl T.range_ (qa qr qg)) (qC (i:=2) nd rfl (by first | exact Or.inl rfl | exact Or.inr rfl)) (qL (qK (i:=1) nd rfl (by first | exact Or.inl rfl | exact Or.inr rfl) (qQ ym (qQ jh (dv 1) (qQ Ym qr qr)) (qY O_law_take hX (hr.mono (by decide)) rfl (qa (dv 0) (qa (qQ Ym qr qr) qg)))))))
   (qL (yi (qQ ym (qQ yw (qQ qax (dv 1) (qQ yw (qQ jh qr (qQ Ym qr qr)) qr)) (qQ Ym qr qr)) qr))))),?_⟩
 refine ⟨by decide,by decide,forR (fun i ρ' μ'=>μ'=μ/\∃ (z:Int) (v:Option En),ρ'=[some (.m p),some (.d (.int z)),v]/\0<=z/\z<100000000 ^ i) ⟨rfl,0,none,rfl,by decide,by decide⟩ ?_ ?_⟩
 ·rintro i ρ' μ' hi ⟨rfl,z,v,rfl,z0,z1⟩
  have hb:z<10000000000000000000000000000000000000000:=by
   have:i=0\/i=1\/i=2\/i=3:=by have hi:i<4:=hi;omega
   rcases this with rfl | rfl | rfl | rfl <;> simp at z1 <;> omega
  refine ⟨⟨by decide,by decide,by decide⟩,⟨qff (by omega) (by omega),by rw [e8];exact qff (by decide) (by decide)⟩,⟨by decide,by decide,by decide⟩,p,_,rfl,hp,by rw [e8];decide,by rw [e8];decide,fun d d0 d1=>Wks.of ⟨rfl,_,_,rfl,?_,?_⟩⟩
  ·rw [e8] at *;omega
  ·rw [e8] at *
   rw [Int.pow_succ]
   generalize (100000000:Int) ^ i=y at z1
   omega
 ·rintro ρ' μ' ⟨rfl,z,v,rfl,z0,z1⟩
  refine ⟨⟨by decide,by decide,by decide⟩,⟨qff (by decide) (by decide),by rw [e30];exact qff (by decide) (by decide)⟩,by rw [e30];show (0:Int)<2 * 1000000000000000000000000000000 - 1;decide,⟨by decide,by decide,by decide⟩,k _ ?_⟩
  rw [e30]
  unfold Num
  omega
end
section
variable {P:Program}{w:World}{K:W.Frag}{mg:Str->Option Value}{base:Heap}{CX:CXT}
abbrev B40:Nat:=10000000000000000000000000000000000000000
abbrev B39:Nat:=1000000000000000000000000000000000000000
theorem b40:B40<2 ^ 1000:=by decide +kernel
theorem Yd {a b:Int}(ha:a.natAbs<=B40) (hb:b.natAbs<=B40):qeq a b:=⟨yu ha b40,yu hb b40⟩
theorem qdg {a b:Int}(ha:a.natAbs<=B39) (hb:b.natAbs<=B39):(a - b).natAbs<=B40:=by
 have ha:a.natAbs<=1000000000000000000000000000000000000000:=ha
 have hb:b.natAbs<=1000000000000000000000000000000000000000:=hb
 show (a - b).natAbs<=10000000000000000000000000000000000000000
 omega
def hpD (ps:List Pt):PyData:=.list (ps.map ptD)
def sAc:SpD:=fun es μ Q=>∃ a b c:Pt,es=[.d (ptD a),.d (ptD b),.d (ptD c)]/\Bd B39 a/\Bd B39 b/\Bd B39 c/\Q (.d (.int (ac a b c))) μ
theorem Y1:FnScope ["_law_one", "_law_two", "_law_three", "_law_found"] ["_law_one", "_law_two", "_law_three"] (qu jK):=⟨rfl,rfl,rfl,by decide +kernel,rfl,by decide +kernel,by decide +kernel⟩
theorem qb0 {f:Addr}{fd:FuncData}(F:Fun K "_law_across" "_law_across" jK f fd)  : FnOk P w K mg base CX 1 f fd ["_law_one", "_law_two", "_law_three"] (yh K sAc):=by
 refine F.okD Y1 (fun es μ Q hq0=>by obtain ⟨a,b,c,e,_⟩:=hq0;subst e;rfl) (fun cdv A outer s H E es μ Q hr hq0=>?_)
 obtain ⟨a,b,c,e,ha,hb,hc,k⟩:=hq0
 subst e
 have nd:=Y1.nd
 refine ⟨_,(qp (qK (i:=3) nd rfl (by first | exact Or.inl rfl | exact Or.inr rfl) (qQ jh (qQ yw (yR qG (dv 1) qr (fun _ _=>rfl)) (yR qG (dv 0) qr (fun _ _=>rfl))) (qQ yw (yR qG (dv 2) qr (fun _ _=>rfl)) (yR qG (dv 0) qr (fun _ _=>rfl)))))
   (qL (yi (qQ yw (dv 3) (qQ jh (qQ yw (yR qG (dv 1) qr (fun _ _=>rfl)) (yR qG (dv 0) qr (fun _ _=>rfl))) (qQ yw (yR qG (dv 2) qr (fun _ _=>rfl)) (yR qG (dv 0) qr (fun _ _=>rfl)))))))),?_⟩
 exact ⟨_,rfl,_,rfl,_,rfl,_,rfl,Yd (qdg hb.1 ha.1) (qdg hc.2 ha.2),_,rfl,_,rfl,_,rfl,_,rfl,Yd (qdg hb.2 ha.2) (qdg hc.1 ha.1),k⟩
theorem qak {q r:Pt}:∀ {S:List Pt},r∈JW q S->r∈S
 | [],h=>h
 | [_],h=>h
 | b::a::t,h=>by
  unfold JW at h
  split at h
  ·exact qi _ (qak h)
  ·exact h
theorem qal {q:Pt}:∀ {S:List Pt},(JW q S).length<=S.length
 | []=>qk _
 | [_]=>qk _
 | b::a::t=>by
  unfold JW
  split
  ·exact qz qal (Nat.le_succ _)
  ·exact qk _
theorem jW:∀ (n:Nat) {ps:List Pt},ps.length=n->(∀ r∈stk ps,r∈ps)/\(stk ps).length<=ps.length
 | 0,ps,e=>by rw [List.length_eq_zero_iff.mp e];exact ⟨fun _ h=>(nomatch h),qk _⟩
 | n+1,ps,e=>by
  rcases List.eq_nil_or_concat ps with rfl | ⟨qs,q,rfl⟩
  ·cases e
  ·rw [List.concat_eq_append] at *
   obtain ⟨h1,h2⟩:=jW n (ps:=qs) (by simpa using e)
   rw [Jb]
   refine ⟨fun r hr=>?_,?_⟩
   ·rcases List.mem_cons.mp hr with rfl | hr
    ·simp
    ·exact yv _ (h1 r (qak hr))
   ·have:=qal (q:=q) (S:=stk qs)
    simp only [List.length_cons,List.length_append,List.length_nil]
    omega
theorem qiM (t:List Pt) (b:Pt):atI ((b::t).reverse.map ptD) (-1)=some (ptD b):=by
 rw [List.reverse_cons,List.map_append]
 exact qaB _ _
theorem qiO (t:List Pt) (a b:Pt):atI ((b::a::t).reverse.map ptD) (-2)=some (ptD a):=by
 have e:ixN ((b::a::t).reverse.map ptD).length (-2)=some t.length:=by
  unfold ixN
  simp only [List.length_map,List.length_reverse,List.length_cons]
  rw [if_neg (by omega),if_pos (by omega)]
  congr 1
  omega
 unfold atI
 rw [e]
 show ((b::a::t).reverse.map ptD)[t.length]?=_
 rw [List.getElem?_map,List.reverse_cons,List.reverse_cons,ql,qM (by simp)]
 simp
def qbA:SpD:=fun es μ Q=>∃ row:List Pt,es=[.d (hpD row)]/\row.length<=40/\(∀ p∈row,Bd B39 p)/\Q (.d (hpD (stk row).tail.reverse)) μ
theorem qad:FnScope ["_law_points", "_law_found", "_law_point"] ["_law_points"] (qu jY):=⟨rfl,rfl,rfl,by decide +kernel,rfl,by decide +kernel,by decide +kernel⟩
theorem qdN {f:Addr}{fd:FuncData}(F:Fun K "_law_chain" "_law_chain" jY f fd) (T:Txt mg) (hX:NoX CX) (O_law_across:Own P w K mg base CX 1 "_law_across" ["_law_one", "_law_two", "_law_three"] (yh K sAc)):FnOk P w K mg base CX 2 f fd ["_law_points"] (yh K qbA):=by
 refine F.okD qad (fun es μ Q hq0=>by obtain ⟨row,e,_⟩:=hq0;subst e;rfl) (fun cdv A outer s H E es μ Q hr hq0=>?_)
 obtain ⟨row,e,hl,hb,k⟩:=hq0
 subst e
 have nd:=qad.nd
 refine ⟨_,(qp (qK (i:=1) nd rfl (by first | exact Or.inl rfl | exact Or.inr rfl) (qcI qg))
   (qp (J6 PassesOwn.never rfl (jD (dv 0)) (qC (i:=2) nd rfl (by first | exact Or.inl rfl | exact Or.inr rfl)) (qp (YF PassesOwn.never (qjf (qcD (yT qgx (qW jP (by rfl) T.len_ jS (qa (dv 1) qg)) qr (yB _)) (ZT (yT qgw (qY O_law_across hX (hr.mono (by decide)) rfl (qa (yR qG (dv 1) (qaz jp qr) (fun _ _=>rfl)) (qa (yR qG (dv 1) (qaz jp qr) (fun _ _=>rfl)) (qa (dv 2) qg)))) qr (yB _))))) (qL (YG (d_pop (dv 1) (h:=qhE PySem.F.plainAttrs_list PySem.F.slot_list_pop PySem.F.type_list_pop qhZ (dv 1))))))
   (qL (YG (YI (dv 1) (qa (dv 2) qg) (h:=qf0 PySem.F.plainAttrs_list PySem.F.slot_list_append PySem.F.type_list_append J1 (dv 1) (qa (dv 2) qg)))))))
   (qL (ZU (Jy (dv 1) Jx (Jw (qaz jp qr))))))),?_⟩
 refine ⟨zl0,fun l hl'=>⟨_,.d _,?_⟩⟩
 refine qje (fun i ρ' μ'=>μ'=(l,.lst ((stk (row.take i)).reverse.map ptD))::μ/\∃ v2,ρ'=[some (.d (hpD row)),some (.m l),v2]) ⟨rfl,_,rfl⟩ (fun _ _ _ _=>.d _) ?_ ?_
 ·rintro i x ρ' μ' hx ⟨rfl,v2,rfl⟩
  rw [List.getElem?_map] at hx
  obtain ⟨q,hq,rfl⟩:=Option.map_eq_some_iff.mp hx
  have bq:=hb q (List.mem_of_getElem? hq)
  have hsub:∀ r∈stk (row.take i),r∈row:=fun r hr=>yf ((jW _ rfl).1 r hr)
  have hlen:(stk (row.take i)).length<=40:=qz (jW _ rfl).2 (by rw [qU];omega)
  have hfin:stk (row.take (i+1))=q::JW q (stk (row.take i)):=by rw [js hq,Jb]
  generalize stk (row.take i)=S0 at *
  dsimp only [List.set_cons_zero,List.set_cons_succ]
  refine ⟨fun m ρ2 μ2=>∃ S:List Pt,m=S.length/\JW q S=JW q S0/\(∀ r∈S,r∈row)/\S.length<=40/\μ2=(l,.lst (S.reverse.map ptD))::μ/\ρ2=[some (.d (hpD row)),some (.m l),some (.d (ptD q))],⟨_,S0,rfl,rfl,hsub,hlen,rfl,rfl⟩,?_⟩
  rintro m ρ2 μ2 ⟨S,rfl,hp,hs,hsl,rfl,rfl⟩
  have hm:(l,MO.lst (S.reverse.map ptD))∈(l,MO.lst (S.reverse.map ptD))::μ:=qm
  have ln:(S.reverse.map ptD).length=S.length:=by simp
  have done:JW q S=S->∀ v:Option En,Wks (fun ρ' μ'=>μ'=(l,.lst ((stk (row.take (i+1))).reverse.map ptD))::μ/\∃ v2,ρ'=[some (.d (hpD row)),some (.m l),v2]) [some (.d (hpD row)),some (.m l),v] ((l,.lst (S.reverse.map ptD++[ptD q]))::μ):=fun e v=>by
   refine Wks.of ⟨?_,_,rfl⟩
   rw [hfin,<- hp,e,List.reverse_cons,List.map_append]
   rfl
  refine ⟨_,.l (.m hm),J8 (fun c=>?_) (fun c=>qc8 ?_)⟩
  ·have c:(1:Int)<((S.reverse.map ptD).length:Int):=qN c
   rw [ln] at c
   obtain ⟨b,a,t,rfl⟩:∃ b a t,S=b::a::t:=by
    match S,c with
    | b::a::t,_=>exact ⟨b,a,t,rfl⟩
   refine ⟨_,_,hm,qiO t a b,_,_,hm,qiM (a::t) b,a,b,q,rfl,hb a (hs a (by simp)),hb b (hs b (by simp)),bq,J8 (fun c2=>?_) (fun c2=>?_)⟩
   ·have c2:ac a b q<=0:=qN c2
    refine ⟨[],μ,(a::t).reverse.map ptD,ptD b,by rw [List.reverse_cons,List.map_append];rfl,(a::t).length,Nat.lt_succ_self _,Wks.of ⟨a::t,rfl,?_,fun r hr=>hs r (qi _ hr),qz (Nat.le_succ _) hsl,rfl,rfl⟩⟩
    rw [<- hp]
    conv=>rhs;unfold JW
    rw [if_pos c2]
   ·have c2:¬ ac a b q<=0:=fun z=>c2 (qO z)
    refine ⟨⟨_,hm⟩,[],μ,_,rfl,by rw [ln];omega,done ?_ _⟩
    unfold JW
    rw [if_neg c2]
  ·have c:¬ (1:Int)<((S.reverse.map ptD).length:Int):=fun z=>c (qO z)
   rw [ln] at c
   refine ⟨⟨_,hm⟩,[],μ,_,rfl,by rw [ln];omega,done ?_ _⟩
   match S,c with
   | [],_=>rfl
   | [_],_=>rfl
   | _::_::_,c=>exact absurd (by simp only [List.length_cons];omega) c
 ·rintro ρ' μ' ⟨rfl,v2,rfl⟩
  rw [List.length_map,qT]
  refine ⟨_,.m qm,_,_,FzR.drop1,?_⟩
  have e:YT ((stk row).reverse.map ptD) none (some (-1))=((stk row).tail.reverse).map ptD:=by
   cases h:stk row with
   | nil=>rfl
   | cons b t =>
    rw [qd9 (by simp),List.reverse_cons,List.map_append]
    exact List.dropLast_concat
  show Q (.d (.list (YT ((stk row).reverse.map ptD) none (some (-1))))) μ
  rw [e]
  exact k
end
section
variable {P:Program}{w:World}{K:W.Frag}{mg:Str->Option Value}{base:Heap}{CX:CXT}
def ptK (p:Pt):List Int:=[p.1,p.2]
theorem qbM {p q:Pt}(h:ptK p=ptK q):p=q:=by
 unfold ptK at h
 have h1:=List.cons.inj h
 have h2:=List.cons.inj h1.2
 exact Prod.ext h1.1 h2.1
theorem qbL (ps:List Pt):ps.map ptD=(ps.map ptK).map qdf:=by rw [List.map_map];rfl
theorem qht (ps:List Pt):∀ k∈ps.map ptK,k≠[]:=fun k hk=>by
 obtain ⟨x,_,rfl⟩:=qI.mp hk
 exact fun z=>nomatch z
def Plc (ps qs:List Pt):Prop:=qs.Nodup/\Srt (qs.map ptK)/\∀ p,p∈qs ↔ p∈ps
open Classical in
theorem qhq {ks:List (List Int)}{ps:List Pt}:(∀ k∈ks,k∈ps.map ptK)->∃ qs:List Pt,ks=qs.map ptK:=by
 induction ks with
 | nil=>exact fun _=>⟨[],rfl⟩
 | cons k ks ih =>
  intro h
  obtain ⟨qs,e⟩:=ih fun z hz=>h z (qi _ hz)
  obtain ⟨a,_,ea⟩:=qI.mp (h k qm)
  exact ⟨a::qs,by rw [e,<- ea];rfl⟩
theorem qfR {ps:List Pt}{ms ks:List (List Int)}(hm:∀ q,q∈ms ↔ q∈ps.map ptK) (hn:ms.Nodup) (hp:ks.Perm ms) (hs:Srt ks):∃ qs:List Pt,ks=qs.map ptK/\Plc ps qs:=by
 obtain ⟨qs,rfl⟩:=qhq fun k hk=>(hm k).mp (hp.mem_iff.mp hk)
 have hnd:(qs.map ptK).Nodup:=hp.nodup_iff.mpr hn
 refine ⟨qs,rfl,(List.pairwise_map.mp hnd).imp fun h z=>h (by rw [z]),hs,fun p=>?_⟩
 have:=(hp.mem_iff (a:=ptK p)).trans (hm _)
 constructor
 ·intro h
  obtain ⟨b,hb,eb⟩:=qI.mp (this.mp (qI.mpr ⟨p,h,rfl⟩))
  rw [<- qbM eb];exact hb
 ·intro h
  obtain ⟨b,hb,eb⟩:=qI.mp (this.mpr (qI.mpr ⟨p,h,rfl⟩))
  rw [<- qbM eb];exact hb
theorem Je {α:Type} [DecidableEq α]:∀ {ms kss:List α},ms.Nodup->(∀ q∈ms,q∈kss)->ms.length<=kss.length
 | [],_,_,_=>yc _
 | a::ms,kss,hn,h=>by
  have ha:=h a qm
  have h1:=Je (ms:=ms) (kss:=kss.erase a) (List.nodup_cons.mp hn).2 (fun q hq=>by
   have hne:q≠a:=fun z=>(List.nodup_cons.mp hn).1 (z ▸ hq)
   exact (List.mem_erase_of_ne hne).mpr (h q (qi _ hq)))
  rw [List.length_erase_of_mem ha] at h1
  have:=List.length_pos_of_mem ha
  simp only [List.length_cons]
  omega
theorem lt2 (a b:Pt):ptK a<ptK b ↔ a.1<b.1\/(a.1=b.1/\a.2<b.2):=by
 unfold ptK
 simp [List.cons_lt_cons_iff]
theorem qiP {qs:List Pt}(nd:qs.Nodup) (hs:Srt (qs.map ptK)):Asc qs:=by
 unfold Srt at hs
 rw [List.pairwise_map] at hs
 unfold Asc
 refine (List.Pairwise.and nd hs).imp fun {a b} h=>?_
 obtain ⟨h1,h2⟩:=h
 rw [lt2] at h2
 have h3:¬ (a.1=b.1/\a.2=b.2):=fun z=>h1 (Prod.ext z.1 z.2)
 unfold Ps sb2
 dsimp only
 omega
def sOut:SpD:=fun es μ Q=>∃ ps:List Pt,es=[.d (hpD ps)]/\ps.length<=40/\(∀ p∈ps,Bd B39 p)/\∀ row:List Pt,Asc row->(∀ p,p∈row ↔ p∈ps)->row.length<=ps.length->Q (.d (hpD (outer row))) μ
theorem qab:FnScope ["_law_some", "_law_row"] ["_law_some"] (qu jX):=⟨rfl,rfl,rfl,by decide +kernel,rfl,by decide +kernel,by decide +kernel⟩
theorem qdL {f:Addr}{fd:FuncData}(F:Fun K "_law_outer" "_law_outer" jX f fd) (T:Txt mg) (hX:NoX CX) (O_law_chain:Own P w K mg base CX 2 "_law_chain" ["_law_points"] (yh K qbA)):FnOk P w K mg base CX 3 f fd ["_law_some"] (yh K sOut):=by
 refine F.okD qab (fun es μ Q hq0=>by obtain ⟨ps,e,_⟩:=hq0;subst e;rfl) (fun cdv A outr s H E es μ Q hr hq0=>?_)
 obtain ⟨ps,e,hl,hb,k⟩:=hq0
 subst e
 have nd:=qab.nd
 refine ⟨_,(qp (qK (i:=1) nd rfl (by first | exact Or.inl rfl | exact Or.inr rfl) (qW (qd5 (P:=P) (w:=w) (K:=K) rfl) (by rfl) T.sorted_ Zq (qa (YH (qis (P:=P) (w:=w) (K:=K) rfl hr.units) (by rfl) T.set_ qiI (qa (dv 0) qg)) qg)))
   (qL (yi (qQ qay (qY O_law_chain hX (hr.mono (by decide)) rfl (qa (dv 1) qg)) (qY O_law_chain hX (hr.mono (by decide)) rfl (qa (qiw rfl (by rfl) T.list_ (by rfl) T.reversed_ (dv 1)) qg)))))),?_⟩
 refine ⟨ps.map ptK,by rw [<- qbL];exact .d _,qht ps,by rw [List.length_map];omega,fun ms hm hn h77=>⟨ms,rfl,?_,fun ks hp hs=>?_⟩⟩
 ·have:=Je hn fun q hq=>(hm q).mp hq
  rw [List.length_map] at this
  omega
 ·obtain ⟨qs,rfl,h⟩:=qfR hm hn hp hs
  have ha:=qiP h.1 h.2.1
  have hlen0:qs.length<=ps.length:=Je h.1 fun q hq=>(h.2.2 q).mp hq
  have hlen:qs.length<=40:=qz hlen0 hl
  have hbq:∀ p∈qs,Bd B39 p:=fun p hp'=>hb p ((h.2.2 p).mp hp')
  rw [<- qbL]
  refine ⟨qs,rfl,hlen,hbq,_,.d _,?_⟩
  rw [<- List.map_reverse]
  refine ⟨qs.reverse,rfl,by rw [List.length_reverse];exact hlen,fun p hp'=>hbq p (List.mem_reverse.mp hp'),_,_,.d _,.d _,?_,?_⟩
  ·have l1:=(jW _ (ps:=qs) rfl).2
   have l2:=(jW _ (ps:=qs.reverse) rfl).2
   rw [List.length_reverse] at l2
   simp only [List.length_map,List.length_reverse,List.length_tail]
   omega
  ·have:=k qs ha h.2.2 hlen0
   unfold outer hpD at this
   rw [List.map_append] at this
   exact this
def qfD:SpD:=fun es μ Q=>∃ (p:Addr) (b:Bool),es=[.m p,.d (.bool b)]/\(p,PA0)∈μ/\∀ n,Num n->Q (.d (.int n)) μ
theorem qbu:FnScope ["_law_pot_here", "_law_are_great"] ["_law_pot_here", "_law_are_great"] (qu Jp):=⟨rfl,rfl,rfl,by decide +kernel,rfl,by decide +kernel,by decide +kernel⟩
theorem qf9 {f:Addr}{fd:FuncData}(F:Fun K "_law_mark" "_law_mark" Jp f fd) (hX:NoX CX) (O_law_take:Own P w K mg base CX 1 "_law_take" ["_law_pot_here", "_law_many"] (yh K (sDraw 2147483629))) (O_law_wide:Own P w K mg base CX 2 "_law_wide" ["_law_pot_here"] (yh K (qi4 2147483629))):FnOk P w K mg base CX 3 f fd ["_law_pot_here", "_law_are_great"] (yh K qfD):=by
 refine F.okD qbu (fun es μ Q hq0=>by obtain ⟨p,b,e,_⟩:=hq0;subst e;rfl) (fun cdv A outr s H E es μ Q hr hq0=>?_)
 obtain ⟨p,b,e,hp,k⟩:=hq0
 subst e
 have nd:=qbu.nd
 refine ⟨_,(qp (JG (qjf (qcD (qcE (dv 1)) (ZT (yT (Zk hr.units) (qY O_law_take hX (hr.mono (by decide)) rfl (qa (dv 0) (qa qr qg))) qr (yB _))))) (qL (yi (qY O_law_wide hX (hr.mono (by decide)) rfl (qa (dv 0) qg)))) jH)
   (qL (yi (qQ yw (qY O_law_take hX (hr.mono (by decide)) rfl (qa (dv 0) (qa qr qg))) qr)))),?_⟩
 have fin:∀ d:Int,0<=d->d<13->Num (d - 6):=fun d h1 h2=>by unfold Num;omega
 cases b with
 | true =>
  refine ⟨p,_,rfl,hp,by decide,by decide,fun d d0 d1=>J8 (fun c=>?_) (fun c=>?_)⟩
  ·exact ⟨p,rfl,hp,fun n hn=>k n hn⟩
  ·exact ⟨p,_,rfl,hp,by decide,by decide,fun d d0 d1=>k _ (fin d d0 d1)⟩
 | false=>exact ⟨p,_,rfl,hp,by decide,by decide,fun d d0 d1=>k _ (fin d d0 d1)⟩
def Ck (P:List Pt):Prop:=Cvx P/\3<=P.length/\P.length<=12/\∀ p∈P,qaE p
theorem Y7 {row:List Pt}{p:Pt}(h:p∈outer row):p∈row:=by
 unfold outer at h
 rcases List.mem_append.mp h with z | z
 ·exact (jW _ rfl).1 p (List.mem_of_mem_tail (List.mem_reverse.mp z))
 ·exact List.mem_reverse.mp ((jW _ (ps:=row.reverse) rfl).1 p (List.mem_of_mem_tail (List.mem_reverse.mp z)))
theorem JY {p:Pt}(h:qaE p):Bd B39 p:=by
 obtain ⟨⟨a,b⟩,c,d⟩:=h
 constructor
 ·show p.1.natAbs<=1000000000000000000000000000000000000000
  omega
 ·show p.2.natAbs<=1000000000000000000000000000000000000000
  omega
theorem qcL (ds:List PyData) (i:Nat) (h:i<=ds.length):YT ds none (some (i:Int))=ds.take i:=by
 unfold YT
 rw [HT.sIx_nat,HT.sIx_none,Nat.min_eq_left h,List.drop_zero,Nat.sub_zero]
theorem YJ (ds:List PyData) (i:Nat) (h:i<=ds.length):YT ds (some (i:Int)) none=ds.drop i:=by
 unfold YT
 rw [HT.sIx_nat,HT.sIx_none,Nat.min_eq_left h]
 exact List.take_of_length_le (by rw [yd];omega)
def rot (P:List Pt) (k:Nat):List Pt:=P.drop k++P.take k
theorem qhd {P:List Pt}{k:Nat}(h:Ck P):Ck (rot P k):=by
 obtain ⟨h1,h2,h3,h4⟩:=h
 have hl:(rot P k).length=P.length:=by unfold rot;rw [List.length_append,yd,qU];omega
 refine ⟨?_,by omega,by omega,fun p hp=>?_⟩
 ·unfold rot
  refine qfw ?_
  rw [qv]
  exact h1
 ·unfold rot at hp
  rcases List.mem_append.mp hp with z | z
  ·exact h4 p (yH z)
  ·exact h4 p (yf z)
def qfF:SpD:=fun es μ Q=>∃ p:Addr,es=[.m p]/\(p,PA0)∈μ/\∀ P:List Pt,Ck P->Q (.d (hpD P)) μ
theorem qbw:FnScope ["_law_pot_here", "_law_are_great", "_law_many", "_law_found", "_law_x", "_law_y", "_law_at"] ["_law_pot_here"] (qu jT):=⟨rfl,rfl,rfl,by decide +kernel,rfl,by decide +kernel,by decide +kernel⟩
theorem qgb {f:Addr}{fd:FuncData}(F:Fun K "_law_cake" "_law_cake" jT f fd) (T:Txt mg) (hX:NoX CX) (O_law_take:Own P w K mg base CX 1 "_law_take" ["_law_pot_here", "_law_many"] (yh K (sDraw 2147483629))) (O_law_mark:Own P w K mg base CX 3 "_law_mark" ["_law_pot_here", "_law_are_great"] (yh K qfD)) (O_law_outer:Own P w K mg base CX 3 "_law_outer" ["_law_some"] (yh K sOut)):FnOk P w K mg base CX 4 f fd ["_law_pot_here"] (yh K qfF):=by
 refine F.okD qbw (fun es μ Q hq0=>by obtain ⟨p,e,_⟩:=hq0;subst e;rfl) (fun cdv A outr s H E es μ Q hr hq0=>?_)
 obtain ⟨p,e,hp,k⟩:=hq0
 subst e
 have nd:=qbw.nd
 refine ⟨_,(qp (qK (i:=1) nd rfl (by first | exact Or.inl rfl | exact Or.inr rfl) (qd8 (Zk hr.units) (qY O_law_take hX (hr.mono (by decide)) rfl (qa (dv 0) (qa qr qg))) qr (yB _)))
   (qp (qK (i:=2) nd rfl (by first | exact Or.inl rfl | exact Or.inr rfl) (qQ ym qr (qY O_law_take hX (hr.mono (by decide)) rfl (qa (dv 0) (qa qr qg)))))
   (qp (qK (i:=3) nd rfl (by first | exact Or.inl rfl | exact Or.inr rfl) (qY O_law_outer hX (hr.mono (by decide)) rfl (qa (JE (L:=["_law_k"]) (sc:=qu jT) (N:=["_law_pot_here", "_law_are_great", "_law_many", "_law_found", "_law_x", "_law_y", "_law_at"]) rfl rfl rfl (by decide +kernel) (jt rfl T.range_ (qa (dv 2) qg)) (fun _ _ _ _ _=>(qC (i:=7) (show List.Nodup (["_law_pot_here", "_law_are_great", "_law_many", "_law_found", "_law_x", "_law_y", "_law_at", "_law_k"]:List Str) from by decide +kernel) rfl (by first | exact Or.inl rfl | exact Or.inr rfl))) (fun _ _ _ _ _=>jE) (fun _ _ _ _ _=>(yG (qa (qY O_law_mark hX (hr.mono (by decide)) rfl (qa (dv 0) (qa (dv 1) qg))) (qa (qY O_law_mark hX (hr.mono (by decide)) rfl (qa (dv 0) (qa (dv 1) qg))) qg))))) qg)))
   (qp (JG (yT qd0 (qW jP (by rfl) T.len_ jS (qa (dv 3) qg)) qr (yB _)) (qp (Zj (i:=4) (j:=5) rfl nd rfl rfl (by decide) rfl rfl (qa (qQ yw (qY O_law_take hX (hr.mono (by decide)) rfl (qa (dv 0) (qa qr qg))) qr) (qa (qQ yw (qY O_law_take hX (hr.mono (by decide)) rfl (qa (dv 0) (qa qr qg))) qr) qg)) rfl)
   (qL (qK (i:=3) nd rfl (by first | exact Or.inl rfl | exact Or.inr rfl) (qd7 (qa (yG (qa (dv 4) (qa (dv 5) qg))) (qa (yG (qa (qQ ym (qQ ym (dv 4) qr) (qY O_law_take hX (hr.mono (by decide)) rfl (qa (dv 0) (qa qr qg)))) (qa (dv 5) qg))) (qa (yG (qa (qQ ym (dv 4) (qY O_law_take hX (hr.mono (by decide)) rfl (qa (dv 0) (qa qr qg)))) (qa (qQ ym (qQ ym (dv 5) qr) (qY O_law_take hX (hr.mono (by decide)) rfl (qa (dv 0) (qa qr qg)))) qg))) qg))))))) jH)
   (qp (qK (i:=6) nd rfl (by first | exact Or.inl rfl | exact Or.inr rfl) (qY O_law_take hX (hr.mono (by decide)) rfl (qa (dv 0) (qa (qW jP (by rfl) T.len_ jS (qa (dv 3) qg)) qg))))
   (qL (yi (qQ qay (Jy (dv 3) (Jw (dv 6)) Jx) (Jy (dv 3) Jx (Jw (dv 6))))))))))),?_⟩
 refine ⟨p,_,rfl,hp,by decide,by decide,fun g g0 g1=>?_⟩
 refine ⟨p,_,rfl,hp,by decide,by decide,fun n n0 n1=>?_⟩
 refine ⟨by omega,by omega,(show (3+n).toNat<=4000 by omega),fun i ys ρ' μ'=>μ'=μ/\∃ qs:List Pt,ys=qs.map ptD/\qs.length=i/\(∀ q∈qs,qaE q)/\∃ v,ρ'=[some (.m p),some (.d (.bool (decide (g=7)))),some (.d (.int (3+n))),none,none,none,none,v],⟨rfl,[],rfl,rfl,(fun _ h=>nomatch h),_,rfl⟩,fun _ _ _ _ _ _=>trivial,?_,?_⟩
 ·rintro i ys ρ' μ' hi ⟨rfl,qs,rfl,hlq,hq,v,rfl⟩
  refine ⟨p,_,rfl,hp,fun a ha=>⟨p,_,rfl,hp,fun b hb=>⟨zl2,?_⟩⟩⟩
  refine ⟨_,rfl,rfl,qs++[(a,b)],by rw [List.map_append];rfl,by rw [List.length_append,List.length_singleton];omega,fun q hq'=>?_,_,rfl⟩
  rcases List.mem_append.mp hq' with z | z
  ·exact hq q z
  ·rw [qx.mp z];exact ⟨ha,hb⟩
 ·rintro ys ρ' μ' ⟨rfl,qs,rfl,hlq,hq,v,rfl⟩
  have hlq:qs.length=(3+n).toNat:=hlq
  refine ⟨qs,rfl,by omega,fun q hq'=>JY (hq q hq'),fun row ha hm hl=>?_⟩
  dsimp only [List.set_cons_zero,List.set_cons_succ]
  have fin:∀ (P:List Pt) (d:Int),Ck P->0<=d->d<(((P.map ptD).length:Nat):Int)->Q (.d (.list (YT (P.map ptD) (some d) none++YT (P.map ptD) none (some d)))) μ':=fun P d hP d0 d1=>by
   rw [List.length_map] at d1
   have:=k (rot P d.toNat) (qhd hP)
   unfold rot hpD at this
   rw [List.map_append,List.map_drop,List.map_take] at this
   rw [show d=((d.toNat:Nat):Int) by omega,YJ _ _ (by rw [List.length_map];omega),qcL _ _ (by rw [List.length_map];omega)]
   exact this
  have cl:∀ (P:List Pt) (d:Int),Ck P->0<=d->d<(((P.map ptD).length:Nat):Int)->(YT (P.map ptD) (some d) none).length+(YT (P.map ptD) none (some d)).length<=4000:=fun P d hP d0 d1=>by
   rw [List.length_map] at d1
   have h3:=hP.2.2.1
   rw [show d=((d.toNat:Nat):Int) by omega,YJ _ _ (by rw [List.length_map];omega),qcL _ _ (by rw [List.length_map];omega),yd,qU,List.length_map]
   omega
  have ln:∀ P:List Pt,Ck P->(0:Int)<(((P.map ptD).length:Nat):Int)/\(((P.map ptD).length:Nat):Int)<=10000000000000000000000000000000000000000:=fun P hP=>by
   rw [List.length_map]
   have:=hP.2.1
   have:=hP.2.2.1
   omega
  refine ⟨_,.l (.d _),J8 (fun c=>?_) (fun c=>?_)⟩
  ·refine ⟨p,_,rfl,hp,by decide,by decide,fun x x0 x1=>⟨p,_,rfl,hp,by decide,by decide,fun y y0 y1=>?_⟩⟩
   dsimp only [List.set_cons_zero,List.set_cons_succ]
   refine ⟨zl2,p,_,rfl,hp,by decide,by decide,fun a a0 a1=>⟨zl2,p,_,rfl,hp,by decide,by decide,fun b b0 b1=>⟨p,_,rfl,hp,by decide,by decide,fun c' c0 c1=>⟨zl2,zl3,?_⟩⟩⟩⟩
   dsimp only [List.set_cons_zero,List.set_cons_succ]
   have hck:Ck [(x - 4,y - 4),(x - 4+1+a,y - 4),(x - 4+b,y - 4+1+c')]:=by
    refine ⟨qfv ?_,by simp,by simp,fun q hq'=>?_⟩
    ·have:ac (x - 4,y - 4) (x - 4+1+a,y - 4) (x - 4+b,y - 4+1+c')=(1+a) * (1+c'):=by unfold ac;dsimp only;grind
     rw [this]
     exact jm (by omega) (by omega)
    ·simp only [List.mem_cons,List.not_mem_nil,or_false] at hq'
     rcases hq' with rfl | rfl | rfl <;> (unfold qaE Num;dsimp only;omega)
   refine ⟨_,.l (.d _),p,_,rfl,hp,(ln _ hck).1,(ln _ hck).2,fun d d0 d1=>⟨_,.d _,_,.d _,_,_,.d _,.d _,cl _ d hck d0 d1,fin _ d hck d0 d1⟩⟩
  ·have c:¬ ((((outer row).map ptD).length:Nat):Int)<3:=fun z=>c (qO z)
   rw [List.length_map] at c
   have hol:(outer row).length<=row.length:=Je (qcK (Y6 ha) (by omega)) fun q hq'=>Y7 hq'
   have hck:Ck (outer row):=⟨Y6 ha,by omega,by omega,fun q hq'=>hq q ((hm q).mp (Y7 hq'))⟩
   refine ⟨_,.l (.d _),p,_,rfl,hp,(ln _ hck).1,(ln _ hck).2,fun d d0 d1=>⟨_,.d _,_,.d _,_,_,.d _,.d _,cl _ d hck d0 d1,fin _ d hck d0 d1⟩⟩
end
section
variable {P:Program}{w:World}{K:W.Frag}{mg:Str->Option Value}{base:Heap}{CX:CXT}
def qaf:SpD:=fun es μ Q=>∃ p q:Pt,es=[.d (ptD p),.d (ptD q)]/\Bd B40 p/\Bd B40 q/\Q (.d (.int (crs p q))) μ
theorem qac:FnScope ["one", "other"] ["one", "other"] (qu qbp):=⟨rfl,rfl,rfl,by decide +kernel,rfl,by decide +kernel,by decide +kernel⟩
theorem qdM {f:Addr}{fd:FuncData}(F:Fun K "cross" "cross" qbp f fd)  : FnOk P w K mg base CX 1 f fd ["one", "other"] (yh K qaf):=by
 refine F.okD qac (fun es μ Q hq0=>by obtain ⟨p,q,e,_⟩:=hq0;subst e;rfl) (fun cdv A outer s H E es μ Q hr hq0=>?_)
 obtain ⟨p,q,e,hp,hq,k⟩:=hq0
 subst e
 have nd:=qac.nd
 refine ⟨_,(qL (yi (qQ yw (qQ jh (yR qG (dv 0) qr (fun _ _=>rfl)) (yR qG (dv 1) qr (fun _ _=>rfl))) (qQ jh (yR qG (dv 0) qr (fun _ _=>rfl)) (yR qG (dv 1) qr (fun _ _=>rfl)))))),?_⟩
 exact ⟨_,rfl,_,rfl,Yd hp.1 hq.2,_,rfl,_,rfl,Yd hp.2 hq.1,k⟩
def qdo (P:List Pt):List (List Pt):=(List.range P.length).map (rot P)
def qfC:SpD:=fun es μ Q=>∃ P:List Pt,es=[.d (hpD P)]/\P.length<=1000/\Q (.d (.list ((qdo P).map hpD))) μ
theorem qbt:FnScope ["corners"] ["corners"] (qu yE):=⟨rfl,rfl,rfl,by decide +kernel,rfl,by decide +kernel,by decide +kernel⟩
theorem qf8 {f:Addr}{fd:FuncData}(F:Fun K "from_each_corner" "from_each_corner" yE f fd) (T:Txt mg):FnOk P w K mg base CX 1 f fd ["corners"] (yh K qfC):=by
 refine F.okD qbt (fun es μ Q hq0=>by obtain ⟨P,e,_⟩:=hq0;subst e;rfl) (fun cdv A outer s H E es μ Q hr hq0=>?_)
 obtain ⟨P,e,hl,k⟩:=hq0
 subst e
 have nd:=qbt.nd
 refine ⟨_,(qL (yi (JE (L:=["at"]) (sc:=qu yE) (N:=["corners"]) rfl rfl rfl (by decide +kernel) (jt rfl T.range_ (qa (qW jP (by rfl) T.len_ jS (qa (dv 0) qg)) qg)) (fun _ _ _ _ _=>(qC (i:=1) (show List.Nodup (["corners", "at"]:List Str) from by decide +kernel) rfl (by first | exact Or.inl rfl | exact Or.inr rfl))) (fun _ _ _ _ _=>jE) (fun _ _ _ _ _=>(qQ qay (Jy (dv 0) (Jw (dv 1)) Jx) (Jy (dv 0) Jx (Jw (dv 1)))))))),?_⟩
 have ln:(P.map ptD).length=P.length:=List.length_map ..
 refine ⟨_,.l (.d _),by omega,by omega,(show ((((P.map ptD).length:Nat):Int)).toNat<=4000 by omega),fun i ys ρ' μ'=>μ'=μ/\ys=((List.range i).map (rot P)).map hpD/\∃ v,ρ'=[some (.d (hpD P)),v],⟨rfl,rfl,_,rfl⟩,fun _ _ _ _ _ _=>trivial,?_,?_⟩
 ·rintro i ys ρ' μ' hi ⟨rfl,rfl,v,rfl⟩
  have hi:i<((((P.map ptD).length:Nat):Int)).toNat:=hi
  have hi2:i<=(P.map ptD).length:=by omega
  have e1:YT (P.map ptD) (some (0+(i:Int))) none=(P.drop i).map ptD:=by rw [Int.zero_add,YJ _ _ hi2,List.map_drop]
  have e2:YT (P.map ptD) none (some (0+(i:Int)))=(P.take i).map ptD:=by rw [Int.zero_add,qcL _ _ hi2,List.map_take]
  refine ⟨_,.d _,_,.d _,_,_,.d _,.d _,?_,?_⟩
  ·rw [e1,e2,List.length_map,List.length_map,yd,qU];omega
  ·refine ⟨_,rfl,rfl,?_,_,rfl⟩
   rw [e1,e2,List.range_succ,List.map_append,List.map_append,<- List.map_append]
   rfl
 ·rintro ys ρ' μ' ⟨rfl,rfl,v,rfl⟩
  have:((itR 0 ((((P.map ptD).length:Nat):Int)).toNat)).n=P.length:=by show ((((P.map ptD).length:Nat):Int)).toNat=_;omega
  rw [this]
  exact k
theorem qeM {P:List Pt}{k t:Nat}(hk:k<P.length) (ht:t<P.length):gP (rot P k) t=gP P ((k+t) % P.length):=by
 have hl:(rot P k).length=P.length:=by unfold rot;rw [List.length_append,yd,qU];omega
 have hd:(P.drop k).length=P.length - k:=yd ..
 by_cases h:t<P.length - k
 ·unfold rot
  rw [qe2 (by omega),qJ (by omega),jb (by omega),jb (show k+t<P.length by omega),List.getElem_drop]
 ·unfold rot at hl ⊢
  rw [qgp (by omega) (by omega),show (k+t) % P.length=k+t - P.length by rw [Nat.mod_eq_sub_mod (by omega),qJ (by omega)],hd,jb (by rw [qU];omega),jb (by omega),List.getElem_take]
  congr 1
  omega
theorem qbD (P:List Pt) (k:Nat):(rot P k).length=P.length:=by unfold rot;rw [List.length_append,yd,qU];omega
def rst (P:List Pt) (k:Nat):List Pt:=(rot P k).drop 2
theorem qdp {P:List Pt}{k:Nat}(hk:k<P.length) (h2:2<=P.length):rot P k=gP P k::nx P k::rst P k:=by
 have hl:=qbD P k
 have d:=dec2 (S:=rot P k) (k:=0) (by omega)
 rw [List.take_zero,List.nil_append,qeM hk (by omega),qeM hk (by omega),Nat.add_zero,qJ hk] at d
 exact d
def qae:SpD:=fun es μ Q=>∃ P:List Pt,es=[.d (hpD P)]/\2<=P.length/\P.length<=1000/\Q (.d (.list ((List.range P.length).map fun k=>.tuple [ptD (gP P k),ptD (nx P k)]))) μ
theorem Z9:FnScope ["corners"] ["corners"] (qu Z5):=⟨rfl,rfl,rfl,by decide +kernel,rfl,by decide +kernel,by decide +kernel⟩
theorem qdJ {f:Addr}{fd:FuncData}(F:Fun K "sides" "sides" Z5 f fd) (T:Txt mg) (hX:NoX CX) (Ofrom_each_corner:Own P w K mg base CX 1 "from_each_corner" ["corners"] (yh K qfC)):FnOk P w K mg base CX 2 f fd ["corners"] (yh K qae):=by
 refine F.okD Z9 (fun es μ Q hq0=>by obtain ⟨P,e,_⟩:=hq0;subst e;rfl) (fun cdv A outer s H E es μ Q hr hq0=>?_)
 obtain ⟨P,e,h2,hl,k⟩:=hq0
 subst e
 have nd:=Z9.nd
 refine ⟨_,(qL (yi (JE (L:=["start", "end", "rest"]) (sc:=qu Z5) (N:=["corners"]) rfl rfl rfl (by decide +kernel) (jD (qY Ofrom_each_corner hX (hr.mono (by decide)) rfl (qa (dv 0) qg))) (fun _ _ _ _ _=>(qgy (i:=2) rfl (qH (qC (i:=1) (show List.Nodup (["corners", "start", "end", "rest"]:List Str) from by decide +kernel) rfl (by first | exact Or.inl rfl | exact Or.inr rfl)) (qH (qC (i:=2) (show List.Nodup (["corners", "start", "end", "rest"]:List Str) from by decide +kernel) rfl (by first | exact Or.inl rfl | exact Or.inr rfl)) (qd1 (qC (i:=3) (show List.Nodup (["corners", "start", "end", "rest"]:List Str) from by decide +kernel) rfl (by first | exact Or.inl rfl | exact Or.inr rfl)) yS))))) (fun _ _ _ _ _=>jE) (fun _ _ _ _ _=>(yG (qa (dv 1) (qa (dv 2) qg))))))),?_⟩
 have rl:((qdo P).map hpD).length=P.length:=by unfold qdo;simp
 refine ⟨P,rfl,hl,_,.d _,(by show ((qdo P).map hpD).length<=4000;omega),fun i ys ρ' μ'=>μ'=μ/\ys=((List.range i).map fun k=>.tuple [ptD (gP P k),ptD (nx P k)])/\∃ v1 v2 v3,ρ'=[some (.d (hpD P)),v1,v2,v3],⟨rfl,rfl,_,_,_,rfl⟩,fun i ys ρ' μ' _ h=>.d _,?_,?_⟩
 ·rintro i ys ρ' μ' hi ⟨rfl,rfl,v1,v2,v3,rfl⟩
  have hi:i<((qdo P).map hpD).length:=hi
  rw [rl] at hi
  have ei:((qdo P).map hpD).getD i .none=hpD (rot P i):=by
   rw [qw,List.getElem?_map]
   unfold qdo
   rw [List.getElem?_map,List.getElem?_range hi]
   rfl
  have hrl:=qbD P i
  have et:((rot P i).map ptD).take 2++[.list (((rot P i).map ptD).drop 2)]=[ptD (gP P i),ptD (nx P i),hpD (rst P i)]:=by
   rw [qdp hi (by omega)];rfl
  refine ⟨(rot P i).map ptD,by show LstOf μ' (.d (((qdo P).map hpD).getD i .none)) _;rw [ei];exact .d _,by rw [List.length_map];omega,by rw [List.length_map];omega,?_⟩
  rw [et]
  refine ⟨zl2,_,rfl,rfl,?_,_,_,_,rfl⟩
  rw [List.range_succ,List.map_append]
  rfl
 ·rintro ys ρ' μ' ⟨rfl,rfl,v1,v2,v3,rfl⟩
  show Q (.d (.list ((List.range ((qdo P).map hpD).length).map fun k=>.tuple [ptD (gP P k),ptD (nx P k)]))) μ'
  rw [rl]
  exact k
def qfG:SpD:=fun es μ Q=>∃ P:List Pt,es=[.d (hpD P)]/\2<=P.length/\P.length<=1000/\(∀ p∈P,qaE p)/\Q (.d (.int (qda P))) μ
theorem qbx:FnScope ["cake"] ["cake"] (qu qdn):=⟨rfl,rfl,rfl,by decide +kernel,rfl,by decide +kernel,by decide +kernel⟩
theorem qgc {f:Addr}{fd:FuncData}(F:Fun K "area" "area" qdn f fd) (T:Txt mg) (hX:NoX CX) (Osides:Own P w K mg base CX 2 "sides" ["corners"] (yh K qae)) (Ocross:Own P w K mg base CX 1 "cross" ["one", "other"] (yh K qaf)):FnOk P w K mg base CX 3 f fd ["cake"] (yh K qfG):=by
 refine F.okD qbx (fun es μ Q hq0=>by obtain ⟨P,e,_⟩:=hq0;subst e;rfl) (fun cdv A outer s H E es μ Q hr hq0=>?_)
 obtain ⟨P,e,h2,hl,hn,k⟩:=hq0
 subst e
 have nd:=qbx.nd
 refine ⟨_,(qL (yi (qW (qgz rfl) (by rfl) T.sum_ qiH (qa (JE (L:=["start", "end"]) (sc:=qu qdn) (N:=["cake"]) rfl rfl rfl (by decide +kernel) (jD (qY Osides hX (hr.mono (by decide)) rfl (qa (dv 0) qg))) (fun _ _ _ _ _=>(ju (n:=2) rfl (qH (qC (i:=1) (show List.Nodup (["cake", "start", "end"]:List Str) from by decide +kernel) rfl (by first | exact Or.inl rfl | exact Or.inr rfl)) (qH (qC (i:=2) (show List.Nodup (["cake", "start", "end"]:List Str) from by decide +kernel) rfl (by first | exact Or.inl rfl | exact Or.inr rfl)) yS)))) (fun _ _ _ _ _=>jE) (fun _ _ _ _ _=>(qY Ocross hX (hr.mono (by decide)) rfl (qa (dv 1) (qa (dv 2) qg))))) qg)))),?_⟩
 have b40':∀ {p:Pt},qaE p->Bd B40 p:=fun h=>⟨qz (JY h).1 (by decide),qz (JY h).2 (by decide)⟩
 refine ⟨P,rfl,h2,hl,_,.d _,(by show (List.map _ (List.range P.length)).length<=4000;rw [List.length_map,yq];omega),qcN (as:=List.range P.length) (h1:=fun k=>ptD (gP P k)) (h2:=fun k=>ptD (nx P k)) (fun k=>.int (crs (gP P k) (nx P k))) (Src.l (.d _)) (fun i hi R h=>?_) ?_⟩
 ·have hi:=List.mem_range.mp hi
  exact ⟨gP P i,nx P i,rfl,b40' (hn _ (jM hi)),b40' (hn _ (jM (yN _ (by omega)))),h⟩
 ·refine ⟨(List.range P.length).map fun k=>crs (gP P k) (nx P k),by rw [List.map_map];exact .d _,k⟩
end
section
variable {P:Program}{w:World}{K:W.Frag}{mg:Str->Option Value}{base:Heap}{CX:CXT}
def qfE:SpD:=fun es μ Q=>∃ a b:Int,es=[.d (.int a),.d (.int b)]/\Q (.d (.int (Int.gcd a b:Nat))) μ
theorem qhb:FnScope ["one", "other", "divisor", "rest"] ["one", "other"] (qu jc):=⟨rfl,rfl,rfl,by decide +kernel,rfl,by decide +kernel,by decide +kernel⟩
theorem ok_cd {f:Addr}{fd:FuncData}(F:Fun K "common_divisor" "common_divisor" jc f fd) (T:Txt mg):FnOk P w K mg base CX 1 f fd ["one", "other"] (yh K qfE):=by
 refine F.okD qhb (fun es μ Q hq0=>by obtain ⟨a,b,e,_⟩:=hq0;subst e;rfl) (fun cdv A outer s H E es μ Q hr hq0=>?_)
 obtain ⟨a,b,e,k⟩:=hq0
 subst e
 have nd:=qhb.nd
 refine ⟨_,(qp (qK (i:=2) nd rfl (by first | exact Or.inl rfl | exact Or.inr rfl) (qW Zm (by rfl) T.abs_ Zr (qa (dv 0) qg)))
   (qp (qK (i:=3) nd rfl (by first | exact Or.inl rfl | exact Or.inr rfl) (qW Zm (by rfl) T.abs_ Zr (qa (dv 1) qg)))
   (qp (YF PassesOwn.never (yT (qdZ hr.units) (dv 3) qr (yB _)) (qL (Zj (i:=2) (j:=3) rfl nd rfl rfl (by decide) rfl rfl (qa (dv 3) (qa (qQ qax (dv 2) (dv 3)) qg)) rfl)))
   (qL (yi (dv 2)))))),?_⟩
 refine ⟨fun m ρ' μ'=>μ'=μ/\∃ f r:Nat,ρ'=[some (.d (.int a)),some (.d (.int b)),some (.d (.int f)),some (.d (.int r))]/\m=r/\Nat.gcd f r=Int.gcd a b,⟨_,rfl,_,_,rfl,rfl,rfl⟩,?_⟩
 rintro m ρ' μ' ⟨rfl,f,r,rfl,rfl,g⟩
 refine J8 (fun c=>?_) (fun c=>?_)
 ·have hm:m≠0:=by
   rintro rfl
   exact absurd c (by decide)
  refine ⟨(show (0:Int)<(m:Int) by omega),f % m,yN _ (by omega),Wks.of ⟨rfl,m,f % m,?_,rfl,by rw [qau];exact g⟩⟩
  rw [Int.natCast_emod];rfl
 ·have:m=0:=by
   by_cases z:m=0
   ·exact z
   ·exact absurd (show (!decide ((m:Int)=0))=true by simp;omega) c
  subst this
  rw [Nat.gcd_zero_right] at g
  subst g
  exact k
def qec (n d:Int):PyData:=.tuple [.int (n.fdiv (Int.gcd n d:Nat)),.int (d.fdiv (Int.gcd n d:Nat))]
theorem qe1 {n d:Int}(h:0<d) (hs:Sz 9000 d):((Int.gcd n d:Nat):Int)≠0/\Sz 9000 (Int.gcd n d:Nat):=by
 have h1:Int.gcd n d ∣ d.natAbs:=Int.gcd_dvd_natAbs_right n d
 have h2:0<d.natAbs:=by omega
 have h3:Int.gcd n d<=d.natAbs:=Nat.le_of_dvd h2 h1
 have h4:0<Int.gcd n d:=Nat.pos_of_ne_zero fun z=>by rw [z] at h1;exact absurd (Nat.eq_zero_of_zero_dvd h1) (by omega)
 refine ⟨by omega,?_⟩
 unfold Sz at *
 show (((Int.gcd n d:Nat):Int)).natAbs<_
 rw [Int.natAbs_natCast]
 exact yu h3 hs
def sLow:SpD:=fun es μ Q=>∃ n d:Int,es=[.d (.int n),.d (.int d)]/\0<d/\Sz 9000 d/\Q (.d (qec n d)) μ
theorem qeB:FnScope ["n", "d", "divisor"] ["n", "d"] (qu ZF):=⟨rfl,rfl,rfl,by decide +kernel,rfl,by decide +kernel,by decide +kernel⟩
theorem qhP {f:Addr}{fd:FuncData}(F:Fun K "lowest" "lowest" ZF f fd) (hX:NoX CX) (Ocommon_divisor:Own P w K mg base CX 1 "common_divisor" ["one", "other"] (yh K qfE)):FnOk P w K mg base CX 2 f fd ["n", "d"] (yh K sLow):=by
 refine F.okD qeB (fun es μ Q hq0=>by obtain ⟨n,d,e,_⟩:=hq0;subst e;rfl) (fun cdv A outer s H E es μ Q hr hq0=>?_)
 obtain ⟨n,d,e,h0,hs,k⟩:=hq0
 subst e
 have nd:=qeB.nd
 refine ⟨_,(qp (qK (i:=2) nd rfl (by first | exact Or.inl rfl | exact Or.inr rfl) (qY Ocommon_divisor hX (hr.mono (by decide)) rfl (qa (dv 0) (qa (dv 1) qg))))
   (qp (JG (yT qd0 (dv 1) qr (yB _)) (qL (qK (i:=2) nd rfl (by first | exact Or.inl rfl | exact Or.inr rfl) (qaz jp (dv 2)))) jH)
   (qL (yi (yG (qa (qQ Jg (dv 0) (dv 2)) (qa (qQ Jg (dv 1) (dv 2)) qg))))))),?_⟩
 have g:=qe1 (n:=n) h0 hs
 refine ⟨n,d,rfl,J8 (fun c=>?_) (fun c=>?_)⟩
 ·have c:d<0:=qN c
  omega
 ·exact ⟨g,g,zl2,k⟩
def cvA (sq on no n d:Int):Int:=sq * n * n+on * n * d+no * d * d
def sCvA:SpD:=fun es μ Q=>∃ sq on no n d:Int,es=[.d (.tuple [.int sq,.int on,.int no]),.d (.int n),.d (.int d)]/\Sz 8000 sq/\Sz 8000 on/\Sz 8000 no/\Sz 400 n/\Sz 400 d/\Q (.d (.int (cvA sq on no n d))) μ
theorem qeG:FnScope ["curve", "n", "d", "square", "one", "nought"] ["curve", "n", "d"] (qu JT):=⟨rfl,rfl,rfl,by decide +kernel,rfl,by decide +kernel,by decide +kernel⟩
theorem qhU {f:Addr}{fd:FuncData}(F:Fun K "curve_at" "curve_at" JT f fd)  : FnOk P w K mg base CX 1 f fd ["curve", "n", "d"] (yh K sCvA):=by
 refine F.okD qeG (fun es μ Q hq0=>by obtain ⟨sq,on,no,n,d,e,_⟩:=hq0;subst e;rfl) (fun cdv A outer s H E es μ Q hr hq0=>?_)
 obtain ⟨sq,on,no,n,d,e,h1,h2,h3,h4,h5,k⟩:=hq0
 subst e
 have nd:=qeG.nd
 refine ⟨_,(qp (JC (dv 0) (ju (n:=3) rfl (qH (qC (i:=3) nd rfl (by first | exact Or.inl rfl | exact Or.inr rfl)) (qH (qC (i:=4) nd rfl (by first | exact Or.inl rfl | exact Or.inr rfl)) (qH (qC (i:=5) nd rfl (by first | exact Or.inl rfl | exact Or.inr rfl)) yS)))))
   (qL (yi (qQ ym (qQ ym (qQ qB (qQ qB (dv 3) (dv 1)) (dv 1)) (qQ qB (qQ qB (dv 4) (dv 1)) (dv 2))) (qQ qB (qQ qB (dv 5) (dv 2)) (dv 2)))))),?_⟩
 exact ⟨rfl,jf h1 h4 (by decide),jf (h1.mul h4) h4 (by decide),jf h2 h4 (by decide),jf (h2.mul h4) h5 (by decide),jf h3 h5 (by decide),jf (h3.mul h5) h5 (by decide),k⟩
def vl' (n p:Pt):Int:=n.1 * p.1+n.2 * p.2
def sVal:SpD:=fun es μ Q=>∃ p q:Pt,es=[.d (ptD p),.d (ptD q)]/\Bd B40 p/\Bd B40 q/\Q (.d (.int (vl' p q))) μ
theorem Z8:FnScope ["normal", "point"] ["normal", "point"] (qu qbj):=⟨rfl,rfl,rfl,by decide +kernel,rfl,by decide +kernel,by decide +kernel⟩
theorem qdI {f:Addr}{fd:FuncData}(F:Fun K "value" "value" qbj f fd)  : FnOk P w K mg base CX 1 f fd ["normal", "point"] (yh K sVal):=by
 refine F.okD Z8 (fun es μ Q hq0=>by obtain ⟨p,q,e,_⟩:=hq0;subst e;rfl) (fun cdv A outer s H E es μ Q hr hq0=>?_)
 obtain ⟨p,q,e,hp,hq,k⟩:=hq0
 subst e
 have nd:=Z8.nd
 refine ⟨_,(qL (yi (qQ ym (qQ jh (yR qG (dv 0) qr (fun _ _=>rfl)) (yR qG (dv 1) qr (fun _ _=>rfl))) (qQ jh (yR qG (dv 0) qr (fun _ _=>rfl)) (yR qG (dv 1) qr (fun _ _=>rfl)))))),?_⟩
 exact ⟨_,rfl,_,rfl,Yd hp.1 hq.1,_,rfl,_,rfl,Yd hp.2 hq.2,k⟩
def SpV (A B:Pt) (low q1 q2 q3 q4:Int):Prop:=0<q4/\Sz 600 q1/\Sz 600 q2/\Sz 600 q3/\Sz 600 q4 ∧
 ((low<A.1/\low<B.1/\q1=0/\q2=0/\q3=0) ∨
  (A.1<=low/\B.1<=low/\q1=0/\q2 = -2 * (B.2 - A.2)/\q3=(A.1+B.1) * (B.2 - A.2)/\q4=1) ∨
  (A.1<=low/\low<B.1/\q1 = -(B.2 - A.2)/\q2=2 * A.1 * (B.2 - A.2)/\q3 = -(A.1 * A.1 * (B.2 - A.2))/\q4=B.1 - A.1) ∨
  (B.1<=low/\low<A.1/\q1 = -(B.2 - A.2)/\q2=2 * B.1 * (B.2 - A.2)/\q3 = -(B.1 * B.1 * (B.2 - A.2))/\q4=A.1 - B.1))
theorem qi3 {a:Int}(h:a.natAbs<=B40):Sz 134 a:=Sz.of B40 h (by decide +kernel)
def sSp:SpD:=fun es μ Q=>∃ (A B:Pt) (low:Int),es=[.d (ptD A),.d (ptD B),.d (.int low)]/\Bd B40 A/\Bd B40 B/\∀ q1 q2 q3 q4:Int,SpV A B low q1 q2 q3 q4->Q (.d (.tuple [.int q1,.int q2,.int q3,.int q4])) μ
theorem qg9:FnScope ["start", "end", "low", "least", "most", "across"] ["start", "end", "low"] (qu Jk):=⟨rfl,rfl,rfl,by decide +kernel,rfl,by decide +kernel,by decide +kernel⟩
theorem ok_sp {f:Addr}{fd:FuncData}(F:Fun K "side_part" "side_part" Jk f fd) (T:Txt mg):FnOk P w K mg base CX 1 f fd ["start", "end", "low"] (yh K sSp):=by
 refine F.okD qg9 (fun es μ Q hq0=>by obtain ⟨A,B,low,e,_⟩:=hq0;subst e;rfl) (fun cdv A' outer s H E es μ Q hr hq0=>?_)
 obtain ⟨A,B,low,e,hA,hB,k⟩:=hq0
 subst e
 have nd:=qg9.nd
 refine ⟨_,(qp (qK (i:=3) nd rfl (by first | exact Or.inl rfl | exact Or.inr rfl) (qW (qfa rfl) (by rfl) T.min_ qcW (qa (yR qG (dv 0) qr (fun _ _=>rfl)) (qa (yR qG (dv 1) qr (fun _ _=>rfl)) qg))))
   (qp (qK (i:=4) nd rfl (by first | exact Or.inl rfl | exact Or.inr rfl) (qW (qcG rfl) (by rfl) T.max_ qcX (qa (yR qG (dv 0) qr (fun _ _=>rfl)) (qa (yR qG (dv 1) qr (fun _ _=>rfl)) qg))))
   (qp (qK (i:=5) nd rfl (by first | exact Or.inl rfl | exact Or.inr rfl) (qQ yw (yR qG (dv 1) qr (fun _ _=>rfl)) (yR qG (dv 0) qr (fun _ _=>rfl))))
   (qp (JG (yT qgx (dv 3) (dv 2) (yB _)) (qL (yi (yG (qa qr (qa qr (qa qr (qa qr qg))))))) jH)
   (qp (JG (yT qgw (dv 4) (dv 2) (yB _)) (qL (yi (yG (qa qr (qa (qQ qB (qaz jp qr) (dv 5)) (qa (qQ qB (qQ ym (dv 3) (dv 4)) (dv 5)) (qa qr qg))))))) jH)
   (qL (yi (yG (qa (qaz jp (dv 5)) (qa (qQ qB (qQ qB qr (dv 3)) (dv 5)) (qa (qQ qB (qQ qB (qaz jp (dv 3)) (dv 3)) (dv 5)) (qa (qQ yw (dv 4) (dv 3)) qg)))))))))))),?_⟩
 have a1:=qi3 hA.1
 have a2:=qi3 hA.2
 have b1:=qi3 hB.1
 have b2:=qi3 hB.2
 have dd:Sz 135 (B.2 - A.2):=b2.sub a2
 refine ⟨_,rfl,_,rfl,_,rfl,_,rfl,_,rfl,_,rfl,?_⟩
 obtain ⟨l,hl,fl⟩:∃ l,(if B.1<A.1 then B.1 else A.1)=l/\((A.1<=B.1/\l=A.1)\/(B.1<A.1/\l=B.1)):=⟨_,rfl,by split <;> omega⟩
 obtain ⟨m,hm,fm⟩:∃ m,(if A.1<B.1 then B.1 else A.1)=m/\((A.1<B.1/\m=B.1)\/(B.1<=A.1/\m=A.1)):=⟨_,rfl,by split <;> omega⟩
 dsimp only [List.set_cons_zero,List.set_cons_succ]
 rw [hl,hm]
 have sl:Sz 134 l:=by rcases fl with ⟨_,rfl⟩ | ⟨_,rfl⟩ <;> assumption
 have sm:Sz 134 m:=by rcases fm with ⟨_,rfl⟩ | ⟨_,rfl⟩ <;> assumption
 have s2:Sz 134 2:=by unfold Sz;decide +kernel
 have sm2:Sz 134 (-2):=by unfold Sz;decide +kernel
 have s0:Sz 600 0:=by unfold Sz;decide +kernel
 have s1:Sz 600 1:=by unfold Sz;decide +kernel
 refine J8 (fun c1=>?_) (fun c1=>J8 (fun c2=>?_) (fun c2=>?_))
 ·have c1:low<l:=qN c1
  exact ⟨zl4,k 0 0 0 1 ⟨by decide,s0,s0,s0,s1,.inl ⟨by omega,by omega,rfl,rfl,rfl⟩⟩⟩
 ·have c2:m<=low:=qN c2
  refine ⟨jf sm2 dd (by decide),jf (sl.add sm) dd (by decide),zl4,k 0 (-2 * (B.2 - A.2)) ((l+m) * (B.2 - A.2)) 1 ⟨by decide,s0,(sm2.mul dd).mono (by decide),((sl.add sm).mul dd).mono (by decide),s1,.inr (.inl ⟨by omega,by omega,rfl,rfl,?_,rfl⟩)⟩⟩
  rw [show l+m=A.1+B.1 by omega]
 ·have c1:¬ low<l:=fun z=>c1 (qO z)
  have c2:¬ m<=low:=fun z=>c2 (qO z)
  refine ⟨jf s2 sl (by decide),jf (s2.mul sl) dd (by decide),jf sl.neg sl (by decide),jf (sl.neg.mul sl) dd (by decide),zl4,k (-(B.2 - A.2)) (2 * l * (B.2 - A.2)) (-l * l * (B.2 - A.2)) (m - l) ⟨by omega,dd.neg.mono (by decide),((s2.mul sl).mul dd).mono (by decide),((sl.neg.mul sl).mul dd).mono (by decide),(sm.sub sl).mono (by decide),?_⟩⟩
  rcases fl with ⟨h1,rfl⟩ | ⟨h1,rfl⟩
  ·exact .inr (.inr (.inl ⟨by omega,by omega,rfl,rfl,by rw [Int.neg_mul,Int.neg_mul],by omega⟩))
  ·exact .inr (.inr (.inr ⟨by omega,by omega,rfl,rfl,by rw [Int.neg_mul,Int.neg_mul],by omega⟩))
def ZH (v:Pt) (P:List Pt):List Pt:=P.map fun q=>(vl' v q,crs v q)
def Low (low:Int) (t:Rat):Prop:=∀ s:Int,s<=low ↔ (s:Rat)<=t
def pS (A B:Pt) (t:Rat):Rat :=
 if (A.1:Rat)<=t then
  if (B.1:Rat)<=t then ((B.2:Rat) - A.2) * ((A.1:Rat) - t+((B.1:Rat) - t)) else -((B.2:Rat) - A.2) * (((A.1:Rat) - t) * ((A.1:Rat) - t)) / ((B.1:Rat) - A.1)
 else if (B.1:Rat)<=t then -((B.2:Rat) - A.2) * (((B.1:Rat) - t) * ((B.1:Rat) - t)) / ((A.1:Rat) - B.1) else 0
theorem qg8 {A B:Pt}{low q1 q2 q3 q4:Int}{t:Rat}(hl:Low low t) (h:SpV A B low q1 q2 q3 q4):((q1:Rat) * t * t+q2 * t+q3) / q4=pS A B t:=by
 obtain ⟨h4,_,_,_,_,h⟩:=h
 unfold pS
 rcases h with ⟨x1,x2,rfl,rfl,rfl⟩ | ⟨x1,x2,rfl,rfl,rfl,rfl⟩ | ⟨x1,x2,rfl,rfl,rfl,rfl⟩ | ⟨x1,x2,rfl,rfl,rfl,rfl⟩
 ·have n1:¬ (A.1:Rat)<=t:=fun z=>by have:=(hl A.1).mpr z;omega
  have n2:¬ (B.1:Rat)<=t:=fun z=>by have:=(hl B.1).mpr z;omega
  rw [if_neg n1,if_neg n2]
  grind
 ·rw [if_pos ((hl A.1).mp x1),if_pos ((hl B.1).mp x2)]
  grind
 ·have n2:¬ (B.1:Rat)<=t:=fun z=>by have:=(hl B.1).mpr z;omega
  rw [if_pos ((hl A.1).mp x1),if_neg n2]
  have hne:(B.1:Rat) - A.1≠0:=by have:=(hl A.1).mp x1;grind
  grind
 ·have n1:¬ (A.1:Rat)<=t:=fun z=>by have:=(hl A.1).mpr z;omega
  rw [if_neg n1,if_pos ((hl B.1).mp x1)]
  have hne:(A.1:Rat) - B.1≠0:=by have:=(hl B.1).mp x1;grind
  grind
def Acc (S:List Pt) (low:Int) (i:Nat) (sq on no dv:Int):Prop:=0<dv/\Sz (601 * i+1) sq/\Sz (601 * i+1) on/\Sz (601 * i+1) no/\Sz (601 * i+1) dv ∧
 ∀ t:Rat,Low low t->((sq:Rat) * t * t+on * t+no) / dv=jB (fun k=>pS (gP S k) (nx S k) t) i
theorem qen {S:List Pt}{low:Int}{i:Nat}{sq on no dv q1 q2 q3 q4:Int}(h:Acc S low i sq on no dv) (h2:SpV (gP S i) (nx S i) low q1 q2 q3 q4) :
  Acc S low (i+1) (sq * q4+q1 * dv) (on * q4+q2 * dv) (no * q4+q3 * dv) (dv * q4):=by
 obtain ⟨h1,s1,s2,s3,s4,e⟩:=h
 have hv:=h2
 obtain ⟨p4,z1,z2,z3,z4,_⟩:=h2
 have st:∀ {x q:Int},Sz (601 * i+1) x->Sz 600 q->Sz (601 * (i+1)+1) (x * q4+q * dv):=fun {x q} hx hq=>by
  have a1:=hx.mul z4
  have a2:=(hq.mul s4).mono (show 600+(601 * i+1)<=601 * i+1+600 by omega)
  exact (a1.add a2).mono (by omega)
 refine ⟨jm h1 p4,st s1 z1,st s2 z2,st s3 z3,(s4.mul z4).mono (by omega),fun t ht=>?_⟩
 have e1:=e t ht
 have e2:=qg8 ht hv
 show _=jB _ i+pS (gP S i) (nx S i) t
 rw [<- e1,<- e2]
 have d1:(dv:Rat)≠0:=by
  intro z
  have:dv=0:=Rat.intCast_inj.mp (by rw [z];rfl)
  omega
 have d2:(q4:Rat)≠0:=by
  intro z
  have:q4=0:=Rat.intCast_inj.mp (by rw [z];rfl)
  omega
 simp only [Rat.intCast_mul,Rat.intCast_add]
 grind
end
section
variable {P:Program}{w:World}{K:W.Frag}{mg:Str->Option Value}{base:Heap}{CX:CXT}
def Ar (v:Pt):Prop:=Bd 1000000000 v/\v≠(0,0)
theorem Yt {v q:Pt}(hv:Ar v) (hq:qaE q):Bd B40 (vl' v q,crs v q):=by
 obtain ⟨⟨v1,v2⟩,_⟩:=hv
 obtain ⟨⟨a1,a2⟩,b1,b2⟩:=hq
 have m:∀ x y:Int,x.natAbs<=1000000000->y.natAbs<=1000000000000000000000000000000->(x * y).natAbs<=1000000000 * 1000000000000000000000000000000:=fun x y hx hy=>by rw [y4];exact Nat.mul_le_mul hx hy
 have m1:=m v.1 q.1 v1 (by omega)
 have m2:=m v.2 q.2 v2 (by omega)
 have m3:=m v.1 q.2 v1 (by omega)
 have m4:=m v.2 q.1 v2 (by omega)
 constructor
 ·show (v.1 * q.1+v.2 * q.2).natAbs<=10000000000000000000000000000000000000000
  omega
 ·show (v.1 * q.2 - v.2 * q.1).natAbs<=10000000000000000000000000000000000000000
  omega
theorem qiS {v:Pt}(h:Ar v):Bd B40 v:=⟨qz h.1.1 (by decide),qz h.1.2 (by decide)⟩
theorem qb2 {q:Pt}(h:qaE q):Bd B40 q:=⟨qz (JY h).1 (by decide),qz (JY h).2 (by decide)⟩
theorem ZG {v:Pt}{P:List Pt}{k:Nat}(hk:k<P.length):gP (ZH v P) k=(vl' v (gP P k),crs v (gP P k)):=by
 unfold ZH
 rw [jb (by rw [List.length_map];exact hk),List.getElem_map,jb hk]
theorem Z7 (v:Pt) (P:List Pt):(ZH v P).length=P.length:=by unfold ZH;rw [List.length_map]
theorem qdd {v:Pt}(hv:Ar v):0<vl' v v/\(vl' v v).natAbs<=2000000000000000000:=by
 obtain ⟨⟨v1,v2⟩,h0⟩:=hv
 have m1:(v.1 * v.1).natAbs<=1000000000 * 1000000000:=by rw [y4];exact Nat.mul_le_mul v1 v1
 have m2:(v.2 * v.2).natAbs<=1000000000 * 1000000000:=by rw [y4];exact Nat.mul_le_mul v2 v2
 have p:∀ x:Int,0<=x * x:=fun x=>by
  rcases Int.le_total 0 x with z | z
  ·exact jr z z
  ·exact Int.mul_nonneg_of_nonpos_of_nonpos z z
 have p2:∀ x:Int,x≠0->0<x * x:=fun x hx=>by
  rcases Int.lt_or_gt_of_ne hx with z | z
  ·exact Int.mul_pos_of_neg_of_neg z z
  ·exact jm z z
 have q1:=p v.1
 have q2:=p v.2
 refine ⟨?_,?_⟩
 ·show 0<v.1 * v.1+v.2 * v.2
  by_cases z:v.1=0
  ·have:v.2≠0:=fun y=>h0 (Prod.ext z y)
   have:=p2 _ this
   omega
  ·have:=p2 _ z
   omega
 ·show (v.1 * v.1+v.2 * v.2).natAbs<=_
  omega
theorem qg4 {v:Pt}(hv:Ar v):Sz 70 (vl' v v):=Sz.of _ (qdd hv).2 (by decide)
def sPc:SpD:=fun es μ Q=>∃ (P:List Pt) (v:Pt) (low:Int),es=[.d (hpD P),.d (ptD v),.d (.int low)]/\2<=P.length/\P.length<=12/\(∀ p∈P,qaE p)/\Ar v/\∀ sq on no dv:Int,Acc (ZH v P) low P.length sq on no dv->Q (.d (.tuple [.tuple [.int sq,.int on,.int no],.int (dv * vl' v v)])) μ
theorem qha:FnScope ["cake", "arrow", "low", "seen", "square", "one", "nought", "divisor", "start", "end", "more_square", "more_one", "more_nought", "more_divisor"] ["cake", "arrow", "low"] (qu jx):=⟨rfl,rfl,rfl,by decide +kernel,rfl,by decide +kernel,by decide +kernel⟩
theorem ok_pc {f:Addr}{fd:FuncData}(F:Fun K "part_curve" "part_curve" jx f fd) (T:Txt mg) (hX:NoX CX) (Ovalue:Own P w K mg base CX 1 "value" ["normal", "point"] (yh K sVal)) (Ocross:Own P w K mg base CX 1 "cross" ["one", "other"] (yh K qaf)) (Osides:Own P w K mg base CX 2 "sides" ["corners"] (yh K qae)) (Oside_part:Own P w K mg base CX 1 "side_part" ["start", "end", "low"] (yh K sSp)):FnOk P w K mg base CX 3 f fd ["cake", "arrow", "low"] (yh K sPc):=by
 refine F.okD qha (fun es μ Q hq0=>by obtain ⟨P,v,low,e,_⟩:=hq0;subst e;rfl) (fun cdv A' outer s H E es μ Q hr hq0=>?_)
 obtain ⟨P,v,low,e,l2,l12,hn,hv,k⟩:=hq0
 subst e
 have nd:=qha.nd
 refine ⟨_,(qp (qgv (i:=3) nd rfl (by first | exact Or.inl rfl | exact Or.inr rfl) (L:=["corner"]) (sc:=qu jx) (N:=["cake", "arrow", "low", "seen", "square", "one", "nought", "divisor", "start", "end", "more_square", "more_one", "more_nought", "more_divisor"]) rfl rfl rfl (by decide +kernel) (jD (dv 0)) (fun _ _ _ _ _=>(qC (i:=14) (show List.Nodup (["cake", "arrow", "low", "seen", "square", "one", "nought", "divisor", "start", "end", "more_square", "more_one", "more_nought", "more_divisor", "corner"]:List Str) from by decide +kernel) rfl (by first | exact Or.inl rfl | exact Or.inr rfl))) (fun _ _ _ _ _=>jE) (fun _ _ _ _ _=>(yG (qa (qY Ovalue hX (hr.mono (by decide)) rfl (qa (dv 1) (qa (dv 14) qg))) (qa (qY Ocross hX (hr.mono (by decide)) rfl (qa (dv 1) (qa (dv 14) qg))) qg)))))
   (qp (JC (yG (qa qr (qa qr (qa qr (qa qr qg))))) (ju (n:=4) rfl (qH (qC (i:=4) nd rfl (by first | exact Or.inl rfl | exact Or.inr rfl)) (qH (qC (i:=5) nd rfl (by first | exact Or.inl rfl | exact Or.inr rfl)) (qH (qC (i:=6) nd rfl (by first | exact Or.inl rfl | exact Or.inr rfl)) (qH (qC (i:=7) nd rfl (by first | exact Or.inl rfl | exact Or.inr rfl)) yS))))))
   (qp (J6 PassesOwn.never rfl (jD (qY Osides hX (hr.mono (by decide)) rfl (qa (dv 3) qg))) (ju (n:=2) rfl (qH (qC (i:=8) nd rfl (by first | exact Or.inl rfl | exact Or.inr rfl)) (qH (qC (i:=9) nd rfl (by first | exact Or.inl rfl | exact Or.inr rfl)) yS))) (qp (JC (qY Oside_part hX (hr.mono (by decide)) rfl (qa (dv 8) (qa (dv 9) (qa (dv 2) qg)))) (ju (n:=4) rfl (qH (qC (i:=10) nd rfl (by first | exact Or.inl rfl | exact Or.inr rfl)) (qH (qC (i:=11) nd rfl (by first | exact Or.inl rfl | exact Or.inr rfl)) (qH (qC (i:=12) nd rfl (by first | exact Or.inl rfl | exact Or.inr rfl)) (qH (qC (i:=13) nd rfl (by first | exact Or.inl rfl | exact Or.inr rfl)) yS))))))
   (qp (qK (i:=4) nd rfl (by first | exact Or.inl rfl | exact Or.inr rfl) (qQ ym (qQ qB (dv 4) (dv 13)) (qQ qB (dv 10) (dv 7))))
   (qp (qK (i:=5) nd rfl (by first | exact Or.inl rfl | exact Or.inr rfl) (qQ ym (qQ qB (dv 5) (dv 13)) (qQ qB (dv 11) (dv 7))))
   (qp (qK (i:=6) nd rfl (by first | exact Or.inl rfl | exact Or.inr rfl) (qQ ym (qQ qB (dv 6) (dv 13)) (qQ qB (dv 12) (dv 7))))
   (qL (qK (i:=7) nd rfl (by first | exact Or.inl rfl | exact Or.inr rfl) (qQ qB (dv 7) (dv 13)))))))))
   (qL (yi (yG (qa (yG (qa (dv 4) (qa (dv 5) (qa (dv 6) qg)))) (qa (qQ qB (dv 7) (qY Ovalue hX (hr.mono (by decide)) rfl (qa (dv 1) (qa (dv 1) qg)))) qg)))))))),?_⟩
 have v40:=qiS hv
 refine ⟨_,.d _,(by show (P.map ptD).length<=4000;rw [List.length_map];omega),qiC (as:=P) (h:=ptD) (fun q=>.tuple [.int (vl' v q),.int (crs v q)]) (Src.l (.d _)) (fun q hq R h=>⟨v,q,rfl,v40,qb2 (hn q hq),v,q,rfl,v40,qb2 (hn q hq),zl2,h⟩) ?_⟩
 have es:(P.map fun q=>PyData.tuple [.int (vl' v q),.int (crs v q)])=(ZH v P).map ptD:=by unfold ZH;rw [List.map_map];rfl
 rw [es]
 have sl:=Z7 v P
 have bS:∀ k,k<(ZH v P).length->Bd B40 (gP (ZH v P) k):=fun k hk=>by
  rw [ZG (by omega)]
  exact Yt hv (hn _ (jM (by omega)))
 generalize ZH v P=S at *
 refine ⟨zl4,rfl,S,rfl,by omega,by omega,_,.d _,?_⟩
 have s1:Sz 1 0:=by unfold Sz;decide
 refine qje (fun i ρ' μ'=>μ'=μ/\∃ sq on no dv:Int,Acc S low i sq on no dv/\∃ v1 v2 v3 v4 v5 v6,ρ'=[some (.d (hpD P)),some (.d (ptD v)),some (.d (.int low)),some (.d (hpD S)),some (.d (.int sq)),some (.d (.int on)),some (.d (.int no)),some (.d (.int dv)),v1,v2,v3,v4,v5,v6]) ?_ (fun _ _ _ _=>.d _) ?_ ?_
 ·exact ⟨rfl,0,0,0,1,⟨by decide,s1,s1,s1,by unfold Sz;decide,fun t _=>by show (((0:Int):Rat) * t * t+((0:Int):Rat) * t+((0:Int):Rat)) / ((1:Int):Rat)=0;grind⟩,_,_,_,_,_,_,rfl⟩
 ·rintro i x ρ' μ' hx ⟨rfl,sq,on,no,dv,ha,v1,v2,v3,v4,v5,v6,rfl⟩
  rw [List.getElem?_map] at hx
  obtain ⟨j,hj,rfl⟩:=Option.map_eq_some_iff.mp hx
  have hi:i<S.length:=by
   have:=(qo.mp hj).1
   rwa [yq] at this
  rw [List.getElem?_range hi] at hj
  cases hj
  have n0:0<S.length:=by omega
  refine ⟨rfl,gP S i,nx S i,low,rfl,bS i hi,bS _ (yN _ n0),fun q1 q2 q3 q4 hs=>?_⟩
  dsimp only [List.set_cons_zero,List.set_cons_succ]
  have hst:=qen ha hs
  obtain ⟨_,a1,a2,a3,a4,_⟩:=ha
  obtain ⟨_,z1,z2,z3,z4,_⟩:=hs
  have f:601 * i+1+600<2 ^ 20:=by omega
  have f2:600+(601 * i+1)<2 ^ 20:=by omega
  refine ⟨rfl,jf a1 z4 f,jf z1 a4 f2,jf a2 z4 f,jf z2 a4 f2,jf a3 z4 f,jf z3 a4 f2,jf a4 z4 f,Wks.of ⟨rfl,_,_,_,_,hst,_,_,_,_,_,_,rfl⟩⟩
 ·rintro ρ' μ' ⟨rfl,sq,on,no,dv,ha,v1,v2,v3,v4,v5,v6,rfl⟩
  rw [List.length_map,yq,sl] at ha
  have a4:=ha.2.2.2.2.1
  exact ⟨zl3,v,v,rfl,v40,v40,jf a4 (qg4 hv) (by omega),zl2,k sq on no dv ha⟩
theorem qh1 {n d:Int}(hd:0<d):Low (n.fdiv d) ((n:Rat) / (d:Rat)):=fun s=>by
 rw [Int.fdiv_eq_ediv_of_nonneg _ (Int.le_of_lt hd),Int.le_ediv_iff_mul_le hd]
 have hd':(0:Rat)<(d:Rat):=Rat.intCast_pos.mpr hd
 have e:(s:Rat)<=(n:Rat) / (d:Rat) ↔ (s:Rat) * (d:Rat)<=(n:Rat):=by
  constructor
  ·intro h
   have:=Rat.mul_le_mul_of_nonneg_right h (Rat.le_of_lt hd')
   have e2:(n:Rat) / d * d=n:=by grind
   rw [e2] at this
   exact this
  ·intro h
   have e2:(s:Rat)=(s:Rat) * d / d:=by grind
   rw [e2]
   have h2:=Rat.mul_le_mul_of_nonneg_right h (Rat.le_of_lt (Rat.inv_pos.mpr hd'))
   rw [Rat.div_def,Rat.div_def]
   exact h2
 rw [e,<- Rat.intCast_mul,Rat.intCast_le_intCast]
def sBel:SpD:=fun es μ Q=>∃ (P:List Pt) (v:Pt) (n d:Int),es=[.d (hpD P),.d (ptD v),.d (.int n),.d (.int d)]/\2<=P.length/\P.length<=12/\(∀ p∈P,qaE p)/\Ar v/\0<d/\Sz 300 n/\Sz 110 d ∧
 ∀ N D:Int,0<D->Sz 9000 N->Sz 9000 D->(N:Rat) / D * (vl' v v:Int)=jB (fun k=>pS (gP (ZH v P) k) (nx (ZH v P) k) ((n:Rat) / d)) P.length->Q (.d (qec N D)) μ
theorem qeI:FnScope ["cake", "arrow", "n", "d", "curve", "divisor"] ["cake", "arrow", "n", "d"] (qu qby):=⟨rfl,rfl,rfl,by decide +kernel,rfl,by decide +kernel,by decide +kernel⟩
theorem qhW {f:Addr}{fd:FuncData}(F:Fun K "below" "below" qby f fd) (hX:NoX CX) (Opart_curve:Own P w K mg base CX 3 "part_curve" ["cake", "arrow", "low"] (yh K sPc)) (Olowest:Own P w K mg base CX 2 "lowest" ["n", "d"] (yh K sLow)) (Ocurve_at:Own P w K mg base CX 1 "curve_at" ["curve", "n", "d"] (yh K sCvA)):FnOk P w K mg base CX 4 f fd ["cake", "arrow", "n", "d"] (yh K sBel):=by
 refine F.okD qeI (fun es μ Q hq0=>by obtain ⟨P,v,n,d,e,_⟩:=hq0;subst e;rfl) (fun cdv A' outer s H E es μ Q hr hq0=>?_)
 obtain ⟨P,v,n,d,e,l2,l12,hn,hv,hd,sn,sd,k⟩:=hq0
 subst e
 have nd:=qeI.nd
 refine ⟨_,(qp (JC (qY Opart_curve hX (hr.mono (by decide)) rfl (qa (dv 0) (qa (dv 1) (qa (qQ Jg (dv 2) (dv 3)) qg)))) (ju (n:=2) rfl (qH (qC (i:=4) nd rfl (by first | exact Or.inl rfl | exact Or.inr rfl)) (qH (qC (i:=5) nd rfl (by first | exact Or.inl rfl | exact Or.inr rfl)) yS))))
   (qL (yi (qY Olowest hX (hr.mono (by decide)) rfl (qa (qY Ocurve_at hX (hr.mono (by decide)) rfl (qa (dv 4) (qa (dv 2) (qa (dv 3) qg)))) (qa (qQ qB (qQ qB (dv 5) (dv 3)) (dv 3)) qg)))))),?_⟩
 refine ⟨⟨by omega,sd.mono (by decide)⟩,P,v,_,rfl,l2,l12,hn,hv,fun sq on no dv ha=>?_⟩
 obtain ⟨p1,s1,s2,s3,s4,e⟩:=ha
 have vv:=qdd hv
 have sv:=qg4 hv
 have mo:∀ {x:Int},Sz (601 * P.length+1) x->Sz 7300 x:=fun h=>h.mono (by omega)
 have sD:Sz (7300+70) (dv * vl' v v):=(mo s4).mul sv
 have et:=e _ (qh1 hd)
 have hD:0<dv * vl' v v * d * d:=jm (jm (jm p1 vv.1) hd) hd
 have sN:Sz 9000 (cvA sq on no n d):=by
  have sd':Sz 300 d:=sd.mono (by decide)
  have a1:Sz 7901 (sq * n * n):=(((mo s1).mul sn).mul sn).mono (by decide)
  have a2:Sz 7901 (on * n * d):=(((mo s2).mul sn).mul sd').mono (by decide)
  have a3:Sz 7902 (no * d * d):=(((mo s3).mul sd').mul sd').mono (by decide)
  exact ((a1.add a2).add a3).mono (by decide)
 refine ⟨rfl,sq,on,no,n,d,rfl,(mo s1).mono (by decide),(mo s2).mono (by decide),(mo s3).mono (by decide),sn.mono (by decide),sd.mono (by decide),jf sD sd (by decide),jf (sD.mul sd) sd (by decide),_,_,rfl,hD,((sD.mul sd).mul sd).mono (by decide),k _ _ hD sN (((sD.mul sd).mul sd).mono (by decide)) ?_⟩
 rw [<- et]
 have d1:(dv:Rat)≠0:=fun z=>by
  have:dv=0:=Rat.intCast_inj.mp (by rw [z];rfl)
  omega
 have d2:(d:Rat)≠0:=fun z=>by
  have:d=0:=Rat.intCast_inj.mp (by rw [z];rfl)
  omega
 have d3:((vl' v v:Int):Rat)≠0:=fun z=>by
  have:vl' v v=0:=Rat.intCast_inj.mp (by rw [z];rfl)
  omega
 unfold cvA
 simp only [Rat.intCast_mul,Rat.intCast_add]
 generalize ((vl' v v:Int):Rat)=L at *
 grind
end
section
variable {P:Program}{w:World}{K:W.Frag}{mg:Str->Option Value}{base:Heap}{CX:CXT}
theorem qeC:FnScope ["_law_one", "_law_two", "_law_found", "_law_rest"] ["_law_one", "_law_two"] (qu jz):=⟨rfl,rfl,rfl,by decide +kernel,rfl,by decide +kernel,by decide +kernel⟩
theorem qhQ {f:Addr}{fd:FuncData}(F:Fun K "_law_divisor" "_law_divisor" jz f fd) (T:Txt mg):FnOk P w K mg base CX 1 f fd ["_law_one", "_law_two"] (yh K qfE):=by
 refine F.okD qeC (fun es μ Q hq0=>by obtain ⟨a,b,e,_⟩:=hq0;subst e;rfl) (fun cdv A outer s H E es μ Q hr hq0=>?_)
 obtain ⟨a,b,e,k⟩:=hq0
 subst e
 have nd:=qeC.nd
 refine ⟨_,(qp (qK (i:=2) nd rfl (by first | exact Or.inl rfl | exact Or.inr rfl) (qW Zm (by rfl) T.abs_ Zr (qa (dv 0) qg)))
   (qp (qK (i:=3) nd rfl (by first | exact Or.inl rfl | exact Or.inr rfl) (qW Zm (by rfl) T.abs_ Zr (qa (dv 1) qg)))
   (qp (YF PassesOwn.never (yT (qdZ hr.units) (dv 3) qr (yB _)) (qL (Zj (i:=2) (j:=3) rfl nd rfl rfl (by decide) rfl rfl (qa (dv 3) (qa (qQ qax (dv 2) (dv 3)) qg)) rfl)))
   (qL (yi (dv 2)))))),?_⟩
 refine ⟨fun m ρ' μ'=>μ'=μ/\∃ f r:Nat,ρ'=[some (.d (.int a)),some (.d (.int b)),some (.d (.int f)),some (.d (.int r))]/\m=r/\Nat.gcd f r=Int.gcd a b,⟨_,rfl,_,_,rfl,rfl,rfl⟩,?_⟩
 rintro m ρ' μ' ⟨rfl,f,r,rfl,rfl,g⟩
 refine J8 (fun c=>?_) (fun c=>?_)
 ·have hm:m≠0:=by
   rintro rfl
   exact absurd c (by decide)
  refine ⟨(show (0:Int)<(m:Int) by omega),f % m,yN _ (by omega),Wks.of ⟨rfl,m,f % m,?_,rfl,by rw [qau];exact g⟩⟩
  rw [Int.natCast_emod];rfl
 ·have:m=0:=by
   by_cases z:m=0
   ·exact z
   ·exact absurd (show (!decide ((m:Int)=0))=true by simp;omega) c
  subst this
  rw [Nat.gcd_zero_right] at g
  subst g
  exact k
theorem qij {a b:Int}(h:a≠0\/b≠0):∃ x y:Int,a.fdiv (Int.gcd a b:Nat)=x/\b.fdiv (Int.gcd a b:Nat)=y/\x.natAbs<=a.natAbs/\y.natAbs<=b.natAbs/\(x≠0\/y≠0):=by
 have h4:0<Int.gcd a b:=Nat.pos_of_ne_zero fun z=>by
  have:=Int.gcd_eq_zero_iff.mp z
  omega
 obtain ⟨x,ex⟩:=Int.gcd_dvd_left a b
 obtain ⟨y,ey⟩:=Int.gcd_dvd_right a b
 have g0:((Int.gcd a b:Nat):Int)≠0:=by omega
 have f1:a.fdiv (Int.gcd a b:Nat)=x:=by
  have:=Int.mul_fdiv_cancel_left x g0
  rw [<- ex] at this
  exact this
 have f2:b.fdiv (Int.gcd a b:Nat)=y:=by
  have:=Int.mul_fdiv_cancel_left y g0
  rw [<- ey] at this
  exact this
 have na:a.natAbs=Int.gcd a b * x.natAbs:=by
  have:=congrArg Int.natAbs ex
  rw [y4,Int.natAbs_natCast] at this
  exact this
 have nb:b.natAbs=Int.gcd a b * y.natAbs:=by
  have:=congrArg Int.natAbs ey
  rw [y4,Int.natAbs_natCast] at this
  exact this
 refine ⟨x,y,f1,f2,by rw [na];exact Nat.le_mul_of_pos_left _ h4,by rw [nb];exact Nat.le_mul_of_pos_left _ h4,?_⟩
 by_cases z:x=0
 ·refine .inr fun w=>?_
  rw [z,Int.mul_zero] at ex
  rw [w,Int.mul_zero] at ey
  omega
 ·exact .inl z
theorem e9:(10:Int) ^ (9:Int).toNat=1000000000:=by decide
def sArw:SpD:=fun es μ Q=>∃ p:Addr,es=[.m p]/\(p,PA0)∈μ/\∀ v:Pt,Ar v->Q (.d (ptD v)) μ
theorem qeJ:FnScope ["_law_pot_here", "_law_most", "_law_a", "_law_b", "_law_by"] ["_law_pot_here"] (qu j4):=⟨rfl,rfl,rfl,by decide +kernel,rfl,by decide +kernel,by decide +kernel⟩
theorem qhX {f:Addr}{fd:FuncData}(F:Fun K "_law_arrow" "_law_arrow" j4 f fd) (T:Txt mg) (hX:NoX CX) (O_law_take:Own P w K mg base CX 1 "_law_take" ["_law_pot_here", "_law_many"] (yh K (sDraw 2147483629))) (O_law_divisor:Own P w K mg base CX 1 "_law_divisor" ["_law_one", "_law_two"] (yh K qfE)):FnOk P w K mg base CX 2 f fd ["_law_pot_here"] (yh K sArw):=by
 refine F.okD qeJ (fun es μ Q hq0=>by obtain ⟨p,e,_⟩:=hq0;subst e;rfl) (fun cdv A outer s H E es μ Q hr hq0=>?_)
 obtain ⟨p,e,hp,k⟩:=hq0
 subst e
 have nd:=qeJ.nd
 refine ⟨_,(qp (qK (i:=1) nd rfl (by first | exact Or.inl rfl | exact Or.inr rfl) (yR qG (qd7 (qa qr (qa qr (qa qr (qa (qQ Ym qr qr) qg))))) (qY O_law_take hX (hr.mono (by decide)) rfl (qa (dv 0) (qa qr qg))) (fun _ _=>rfl)))
   (qp (qK (i:=2) nd rfl (by first | exact Or.inl rfl | exact Or.inr rfl) (qQ yw (qY O_law_take hX (hr.mono (by decide)) rfl (qa (dv 0) (qa (qQ ym (qQ jh qr (dv 1)) qr) qg))) (dv 1)))
   (qp (qK (i:=3) nd rfl (by first | exact Or.inl rfl | exact Or.inr rfl) (qQ yw (qY O_law_take hX (hr.mono (by decide)) rfl (qa (dv 0) (qa (qQ ym (qQ jh qr (dv 1)) qr) qg))) (dv 1)))
   (qp (JG (qjf (qcD (yT (Zk hr.units) (dv 2) qr (yB _)) (ZT (yT (Zk hr.units) (dv 3) qr (yB _))))) (qL (yi (yG (qa qr (qa qr qg))))) jH)
   (qp (qK (i:=4) nd rfl (by first | exact Or.inl rfl | exact Or.inr rfl) (qY O_law_divisor hX (hr.mono (by decide)) rfl (qa (dv 2) (qa (dv 3) qg))))
   (qL (yi (yG (qa (qQ qcF (dv 2) (dv 4)) (qa (qQ qcF (dv 3) (dv 4)) qg)))))))))),?_⟩
 refine ⟨⟨by decide,by decide,by decide⟩,zl4,p,_,rfl,hp,by decide,by decide,fun i i0 i1=>?_⟩
 obtain ⟨M,eM,m1,m2⟩:∃ M:Int,atI [PyData.int 5,.int 5,.int 5,.int ((10:Int) ^ (9:Int).toNat)] i=some (.int M)/\1<=M/\M<=1000000000:=by
  have:i=0\/i=1\/i=2\/i=3:=by omega
  rcases this with rfl | rfl | rfl | rfl
  ·exact ⟨5,rfl,by decide,by decide⟩
  ·exact ⟨5,rfl,by decide,by decide⟩
  ·exact ⟨5,rfl,by decide,by decide⟩
  ·exact ⟨_,rfl,by rw [e9];decide,by rw [e9];decide⟩
 refine ⟨_,eM,?_⟩
 have m40:qeq 2 M:=Yd (by decide) (qz (show M.natAbs<=1000000000 by omega) (by decide))
 refine ⟨m40,p,_,rfl,hp,by omega,by omega,fun x x0 x1=>⟨m40,p,_,rfl,hp,by omega,by omega,fun y y0 y1=>?_⟩⟩
 dsimp only [List.set_cons_zero,List.set_cons_succ]
 have fin:∀ a b:Int,a.natAbs<=1000000000->b.natAbs<=1000000000->(a≠0\/b≠0)->∃ g:qa3 a (Int.gcd a b:Nat)/\qa3 b (Int.gcd a b:Nat),Q (.d (.tuple [.int (a.fdiv (Int.gcd a b:Nat)),.int (b.fdiv (Int.gcd a b:Nat))])) μ:=fun a b ha hb h=>by
  have h4:0<Int.gcd a b:=Nat.pos_of_ne_zero fun z=>by
   have:=Int.gcd_eq_zero_iff.mp z
   omega
  have hg:((Int.gcd a b:Nat):Int).natAbs<=B40:=by
   rw [Int.natAbs_natCast]
   rcases h with h | h
   ·exact qz (Nat.le_of_dvd (by omega) (Int.gcd_dvd_natAbs_left a b)) (qz ha (by decide))
   ·exact qz (Nat.le_of_dvd (by omega) (Int.gcd_dvd_natAbs_right a b)) (qz hb (by decide))
  have g:∀ z,qa3 z (Int.gcd a b:Nat):=fun z=>qdY b40 (by omega) hg
  obtain ⟨x,y,e1,e2,n1,n2,n3⟩:=qij h
  refine ⟨⟨g _,g _⟩,?_⟩
  rw [e1,e2]
  refine k (x,y) ⟨⟨qz n1 ha,qz n2 hb⟩,fun z=>?_⟩
  have z1:=congrArg Prod.fst z
  have z2:=congrArg Prod.snd z
  rcases n3 with h | h
  ·exact h z1
  ·exact h z2
 refine J8 (fun c=>J8 (fun c2=>?_) (fun c2=>?_)) (fun c=>qc8 ?_)
 ·exact ⟨zl2,k (1,0) ⟨⟨by decide,by decide⟩,by decide⟩⟩
 ·have c2:¬ y - M=0:=fun z=>c2 (qO z)
  obtain ⟨g,q⟩:=fin (x - M) (y - M) (by omega) (by omega) (.inr c2)
  exact ⟨_,_,rfl,g.1,g.2,zl2,q⟩
 ·have c:¬ x - M=0:=fun z=>c (qO z)
  obtain ⟨g,q⟩:=fin (x - M) (y - M) (by omega) (by omega) (.inl c)
  exact ⟨_,_,rfl,g.1,g.2,zl2,q⟩
def sFar:SpD:=fun es μ Q=>∃ (q v:Pt) (n d:Int),es=[.d (ptD q),.d (ptD v),.d (.int n),.d (.int d)]/\qaE q/\Ar v/\d.natAbs<=B40/\Q (.d (.int (fr v n d q))) μ
theorem qbv:FnScope ["_law_point", "_law_arrow_here", "_law_n", "_law_d"] ["_law_point", "_law_arrow_here", "_law_n", "_law_d"] (qu JU):=⟨rfl,rfl,rfl,by decide +kernel,rfl,by decide +kernel,by decide +kernel⟩
theorem qga {f:Addr}{fd:FuncData}(F:Fun K "_law_far" "_law_far" JU f fd)  : FnOk P w K mg base CX 1 f fd ["_law_point", "_law_arrow_here", "_law_n", "_law_d"] (yh K sFar):=by
 refine F.okD qbv (fun es μ Q hq0=>by obtain ⟨q,v,n,d,e,_⟩:=hq0;subst e;rfl) (fun cdv A outer s H E es μ Q hr hq0=>?_)
 obtain ⟨q,v,n,d,e,hq,hv,hd,k⟩:=hq0
 subst e
 have nd:=qbv.nd
 refine ⟨_,(qL (yi (qQ yw (qQ jh (dv 3) (qQ ym (qQ jh (yR qG (dv 1) qr (fun _ _=>rfl)) (yR qG (dv 0) qr (fun _ _=>rfl))) (qQ jh (yR qG (dv 1) qr (fun _ _=>rfl)) (yR qG (dv 0) qr (fun _ _=>rfl))))) (dv 2)))),?_⟩
 have v40:=qiS hv
 have q40:=qb2 hq
 have sb:=(Yt hv hq).1
 exact ⟨_,rfl,_,rfl,Yd v40.1 q40.1,_,rfl,_,rfl,Yd v40.2 q40.2,Yd hd sb,k⟩
end
section
variable {P:Program}{w:World}{K:W.Frag}{mg:Str->Option Value}{base:Heap}{CX:CXT}
def trD (x:Tr):PyData:=.tuple [.int x.1,.int x.2.1,.int x.2.2]
theorem qar (Z W:Pt):∀ l:List Pt,lsP Z (l++[W])=W
 | []=>rfl
 | C::l=>qar C W l
theorem YN {α:Type}(f:α->PyData) {C:List α}(h:C≠[]):atI (C.map f) (-1)=some (f (C.getLast h)):=by
 have e3:C.map f=C.dropLast.map f++[f (C.getLast h)]:=by
  have:=congrArg (List.map f) (List.dropLast_concat_getLast h).symm
  rw [List.map_append] at this
  exact this
 rw [e3]
 exact qaB _ _
theorem qiN {ps:List Pt}{i:Nat}(h:i<ps.length):atI (ps.map ptD) (0+(i:Int))=some (ptD (gP ps i)):=by
 rw [Int.zero_add]
 exact YO (by rw [List.getElem?_map,List.getElem?_eq_getElem h,jb h];rfl)
theorem ZD {P:List Pt}{i:Nat}(h:i<P.length):P.take (i+1)=P.take i++[gP P i]:=by
 rw [List.take_add_one,List.getElem?_eq_getElem h,jb h];rfl
theorem qgJ {P:List Pt}{i:Nat}(h:i<P.length):atI (P.map ptD) (0+(i:Int) - 1)=some (ptD (lsP (gP P (P.length - 1)) (P.take i))):=by
 cases i with
 | zero =>
  have hn:P≠[]:=yl.mp (by omega)
  have:=YN ptD hn
  rw [List.getLast_eq_getElem] at this
  show atI (P.map ptD) (-1)=some (ptD (gP P (P.length - 1)))
  rw [jb (by omega)]
  exact this
 | succ i =>
  have:=qiN (ps:=P) (i:=i) (by omega)
  rw [ZD (by omega),qar,show (0:Int)+((i+1:Nat):Int) - 1=0+(i:Int) by omega]
  exact this
theorem qb9 {Z:Pt}:∀ {l:List Pt},lsP Z l=Z\/lsP Z l∈l
 | []=>.inl rfl
 | W::l=>by
  rcases qb9 (Z:=W) (l:=l) with h | h
  ·exact .inr (by show lsP W l∈_;rw [h];simp)
  ·exact .inr (qi _ h)
def qgU (P:List Pt) (v:Pt) (n d:Int):Prop:=2<=P.length/\P.length<=12/\(∀ p∈P,qaE p)/\Ar v/\0<d/\d.natAbs<=B40/\∀ q∈P,Sz 244 (fr v n d q)
theorem qan {q:Pt}(h:qaE q):Sz 101 q.1/\Sz 101 q.2:=by
 obtain ⟨⟨a,b⟩,c,d⟩:=h
 exact ⟨Sz.of 1000000000000000000000000000000 (by omega) (by decide +kernel),Sz.of 1000000000000000000000000000000 (by omega) (by decide +kernel)⟩
def Cl (P:List Pt) (v:Pt) (n d:Int):List Tr:=emL v n d (gP P (P.length - 1)) P
def sClp:SpD:=fun es μ Q=>∃ (P:List Pt) (v:Pt) (n d:Int),es=[.d (hpD P),.d (ptD v),.d (.int n),.d (.int d)]/\qgU P v n d/\Q (.d (.list ((Cl P v n d).map trD))) μ
theorem qiG {P:List Pt}{v:Pt}{n d:Int}(h:qgU P v n d) {l:List Pt}(hl:∀ q∈l,q∈P):(∀ x∈emL v n d (gP P (P.length - 1)) l,qgP x)/\bts (emL v n d (gP P (P.length - 1)) l)<=245 * l.length/\(emL v n d (gP P (P.length - 1)) l).length<=2 * l.length:=by
 obtain ⟨h1,h2,h3,h4,h5,h6,h7⟩:=h
 refine qe8 fun q hq=>?_
 have hq':q∈P:=by
  rcases List.mem_cons.mp hq with z | z
  ·rw [z];exact jM (by omega)
  ·exact hl q z
 exact ⟨(qan (h3 q hq')).1,(qan (h3 q hq')).2,h7 q hq'⟩
theorem qeH:FnScope ["_law_cake_here", "_law_arrow_here", "_law_n", "_law_d", "_law_found", "_law_k", "_law_one", "_law_two", "_law_at_one", "_law_at_two", "_law_x", "_law_y"] ["_law_cake_here", "_law_arrow_here", "_law_n", "_law_d"] (qu jA):=⟨rfl,rfl,rfl,by decide +kernel,rfl,by decide +kernel,by decide +kernel⟩
theorem qhV {f:Addr}{fd:FuncData}(F:Fun K "_law_clipped" "_law_clipped" jA f fd) (T:Txt mg) (hX:NoX CX) (O_law_far:Own P w K mg base CX 1 "_law_far" ["_law_point", "_law_arrow_here", "_law_n", "_law_d"] (yh K sFar)):FnOk P w K mg base CX 2 f fd ["_law_cake_here", "_law_arrow_here", "_law_n", "_law_d"] (yh K sClp):=by
 refine F.okD qeH (fun es μ Q hq0=>by obtain ⟨P,v,n,d,e,_⟩:=hq0;subst e;rfl) (fun cdv A' outer s H E es μ Q hr hq0=>?_)
 obtain ⟨P,v,n,d,e,hc,k⟩:=hq0
 subst e
 have nd:=qeH.nd
 refine ⟨_,(qp (qK (i:=4) nd rfl (by first | exact Or.inl rfl | exact Or.inr rfl) (qcI qg))
   (qp (J6 PassesOwn.never rfl (jt rfl T.range_ (qa (qW jP (by rfl) T.len_ jS (qa (dv 0) qg)) qg)) (qC (i:=5) nd rfl (by first | exact Or.inl rfl | exact Or.inr rfl)) (qp (Zj (i:=6) (j:=7) rfl nd rfl rfl (by decide) rfl rfl (qa (yR qG (dv 0) (qQ yw (dv 5) qr) (fun _ _=>rfl)) (qa (yR qG (dv 0) (dv 5) (fun _ _=>rfl)) qg)) rfl)
   (qp (Zj (i:=8) (j:=9) rfl nd rfl rfl (by decide) rfl rfl (qa (qY O_law_far hX (hr.mono (by decide)) rfl (qa (dv 6) (qa (dv 1) (qa (dv 2) (qa (dv 3) qg))))) (qa (qY O_law_far hX (hr.mono (by decide)) rfl (qa (dv 7) (qa (dv 1) (qa (dv 2) (qa (dv 3) qg))))) qg)) rfl)
   (qp (JG (yT qd0 (qQ qB (dv 8) (dv 9)) qr (yB _)) (qp (qK (i:=10) nd rfl (by first | exact Or.inl rfl | exact Or.inr rfl) (qQ yw (qQ qB (yR qG (dv 6) qr (fun _ _=>rfl)) (dv 9)) (qQ qB (yR qG (dv 7) qr (fun _ _=>rfl)) (dv 8))))
   (qp (qK (i:=11) nd rfl (by first | exact Or.inl rfl | exact Or.inr rfl) (qQ yw (qQ qB (yR qG (dv 6) qr (fun _ _=>rfl)) (dv 9)) (qQ qB (yR qG (dv 7) qr (fun _ _=>rfl)) (dv 8))))
   (qL (YG (YI (dv 4) (qa (yG (qa (dv 10) (qa (dv 11) (qa (qQ yw (dv 9) (dv 8)) qg)))) qg) (h:=qf0 PySem.F.plainAttrs_list PySem.F.slot_list_append PySem.F.type_list_append J1 (dv 4) (qa (yG (qa (dv 10) (qa (dv 11) (qa (qQ yw (dv 9) (dv 8)) qg)))) qg))))))) jH)
   (qL (JG (yT qgw (dv 9) qr (yB _)) (qL (YG (YI (dv 4) (qa (yG (qa (yR qG (dv 7) qr (fun _ _=>rfl)) (qa (yR qG (dv 7) qr (fun _ _=>rfl)) (qa qr qg)))) qg) (h:=qf0 PySem.F.plainAttrs_list PySem.F.slot_list_append PySem.F.type_list_append J1 (dv 4) (qa (yG (qa (yR qG (dv 7) qr (fun _ _=>rfl)) (qa (yR qG (dv 7) qr (fun _ _=>rfl)) (qa qr qg)))) qg))))) jH))))))
   (qL (ZU (dv 4))))),?_⟩
 have hok:=fun {l:List Pt}=>qiG hc (l:=l)
 obtain ⟨l2,l12,hn,hv,hd,hd4,hf⟩:=hc
 have ln:(P.map ptD).length=P.length:=List.length_map ..
 have lt:((((P.map ptD).length:Nat):Int)).toNat=P.length:=by omega
 refine ⟨zl0,fun l hl=>⟨_,.l (.d _),by omega,by omega,?_⟩⟩
 refine forR (fun i ρ' μ'=>μ'=(l,.lst ((emL v n d (gP P (P.length - 1)) (P.take i)).map trD))::μ/\∃ v1 v2 v3 v4 v5 v6 v7,ρ'=[some (.d (hpD P)),some (.d (ptD v)),some (.d (.int n)),some (.d (.int d)),some (.m l),v1,v2,v3,v4,v5,v6,v7]) ?_ ?_ ?_
 ·exact ⟨rfl,_,_,_,_,_,_,_,rfl⟩
 ·rintro i ρ' μ' hi ⟨rfl,v1,v2,v3,v4,v5,v6,v7,rfl⟩
  have hi:i<((((P.map ptD).length:Nat):Int)).toNat:=hi
  rw [lt] at hi
  have mA:lsP (gP P (P.length - 1)) (P.take i)∈P:=by
   rcases qb9 (Z:=gP P (P.length - 1)) (l:=P.take i) with h | h
   ·rw [h];exact jM (by omega)
   ·exact yf h
  have mB:gP P i∈P:=jM hi
  have eA:=qgJ hi
  have eB:=qiN hi
  have eS:emL v n d (gP P (P.length - 1)) (P.take (i+1))=emL v n d (gP P (P.length - 1)) (P.take i)++emI v n d (lsP (gP P (P.length - 1)) (P.take i)) (gP P i):=by rw [ZD hi,qaw]
  have hlen:=(hok (l:=P.take i) fun q hq=>yf hq).2.2
  rw [qU] at hlen
  generalize lsP (gP P (P.length - 1)) (P.take i)=A at *
  generalize hE:emL v n d (gP P (P.length - 1)) (P.take i)=D at *
  generalize gP P i=B at *
  have fA:=hf A mA
  have fB:=hf B mB
  have sA:=qan (hn A mA)
  have sB:=qan (hn B mB)
  refine ⟨_,eA,_,eB,A,v,n,d,rfl,hn A mA,hv,hd4,B,v,n,d,rfl,hn B mB,hv,hd4,?_⟩
  have hlD:(D.map trD).length<=24:=by rw [List.length_map];omega
  refine ⟨jf fA fB (by decide),J8 (fun c=>?_) (fun c=>?_)⟩
  ·have c:fr v n d A * fr v n d B<0:=qN c
   refine ⟨_,rfl,jf sA.1 fB (by decide),_,rfl,jf sB.1 fA (by decide),_,rfl,jf sA.2 fB (by decide),_,rfl,jf sB.2 fA (by decide),⟨_,qm⟩,zl3,[],μ,_,rfl,by omega,J8 (fun c2=>?_) (fun c2=>?_)⟩
   ·have c2:fr v n d B<=0:=qN c2
    refine ⟨⟨_,qm⟩,_,rfl,_,rfl,zl3,[],μ,_,rfl,by rw [List.length_append];simp;omega,Wks.of ⟨?_,_,_,_,_,_,_,_,rfl⟩⟩
    rw [eS]
    unfold emI
    rw [if_pos c,if_pos c2,List.map_append]
    simp [trD]
   ·have c2:¬ fr v n d B<=0:=fun z=>c2 (qO z)
    refine Wks.of ⟨?_,_,_,_,_,_,_,_,rfl⟩
    rw [eS]
    unfold emI
    rw [if_pos c,if_neg c2,List.map_append]
    simp [trD]
  ·have c:¬ fr v n d A * fr v n d B<0:=fun z=>c (qO z)
   refine J8 (fun c2=>?_) (fun c2=>?_)
   ·have c2:fr v n d B<=0:=qN c2
    refine ⟨⟨_,qm⟩,_,rfl,_,rfl,zl3,[],μ,_,rfl,by omega,Wks.of ⟨?_,_,_,_,_,_,_,_,rfl⟩⟩
    rw [eS]
    unfold emI
    rw [if_neg c,if_pos c2,List.map_append]
    simp [trD]
   ·have c2:¬ fr v n d B<=0:=fun z=>c2 (qO z)
    refine Wks.of ⟨?_,_,_,_,_,_,_,_,rfl⟩
    rw [eS]
    unfold emI
    rw [if_neg c,if_neg c2]
    simp
 ·rintro ρ' μ' ⟨rfl,v1,v2,v3,v4,v5,v6,v7,rfl⟩
  rw [lt,qT]
  exact ⟨_,_,FzR.list1,k⟩
end
section
variable {P:Program}{w:World}{K:W.Frag}{mg:Str->Option Value}{base:Heap}{CX:CXT}
theorem at_T {C:List Tr}{i:Nat}(h:i<C.length):atI (C.map trD) (0+(i:Int))=some (trD (gT C i)):=by
 rw [Int.zero_add]
 exact YO (by rw [List.getElem?_map,List.getElem?_eq_getElem h,qcs h];rfl)
theorem at_pT {C:List Tr}{i:Nat}(h:i<C.length):atI (C.map trD) (0+(i:Int) - 1)=some (trD (pvT C i)):=by
 unfold pvT
 cases i with
 | zero =>
  have hn:C≠[]:=yl.mp (by omega)
  have:=YN trD hn
  rw [List.getLast_eq_getElem] at this
  show atI (C.map trD) (-1)=some (trD (gT C (C.length - 1)))
  rw [qcs (by omega)]
  exact this
 | succ i =>
  rw [if_neg (by omega),show (0:Int)+((i+1:Nat):Int) - 1=0+(i:Int) by omega]
  exact at_T (by omega)
def sPrt:SpD:=fun es μ Q=>∃ (P:List Pt) (v:Pt) (n d:Int),es=[.d (hpD P),.d (ptD v),.d (.int n),.d (.int d)]/\qgU P v n d/\∀ ov un:Int,0<un->Sz 9000 un->(ov:Rat) / un=j9 cq (tq (gT (Cl P v n d) ((Cl P v n d).length - 1))) ((Cl P v n d).map tq)->Q (.d (.tuple [.int ov,.int un])) μ
theorem qey:FnScope ["_law_cake_here", "_law_arrow_here", "_law_n", "_law_d", "_law_corners", "_law_over", "_law_under", "_law_k", "_law_x", "_law_y", "_law_by", "_law_p", "_law_q", "_law_wide_here"] ["_law_cake_here", "_law_arrow_here", "_law_n", "_law_d"] (qu Jo):=⟨rfl,rfl,rfl,by decide +kernel,rfl,by decide +kernel,by decide +kernel⟩
theorem qhM {f:Addr}{fd:FuncData}(F:Fun K "_law_part" "_law_part" Jo f fd) (T:Txt mg) (hX:NoX CX) (O_law_clipped:Own P w K mg base CX 2 "_law_clipped" ["_law_cake_here", "_law_arrow_here", "_law_n", "_law_d"] (yh K sClp)):FnOk P w K mg base CX 3 f fd ["_law_cake_here", "_law_arrow_here", "_law_n", "_law_d"] (yh K sPrt):=by
 refine F.okD qey (fun es μ Q hq0=>by obtain ⟨P,v,n,d,e,_⟩:=hq0;subst e;rfl) (fun cdv A' outer s H E es μ Q hr hq0=>?_)
 obtain ⟨P,v,n,d,e,hc,k⟩:=hq0
 subst e
 have nd:=qey.nd
 refine ⟨_,(qp (qK (i:=4) nd rfl (by first | exact Or.inl rfl | exact Or.inr rfl) (qY O_law_clipped hX (hr.mono (by decide)) rfl (qa (dv 0) (qa (dv 1) (qa (dv 2) (qa (dv 3) qg))))))
   (qp (JC (yG (qa qr (qa qr qg))) (ju (n:=2) rfl (qH (qC (i:=5) nd rfl (by first | exact Or.inl rfl | exact Or.inr rfl)) (qH (qC (i:=6) nd rfl (by first | exact Or.inl rfl | exact Or.inr rfl)) yS))))
   (qp (J6 PassesOwn.never rfl (jt rfl T.range_ (qa (qW jP (by rfl) T.len_ jS (qa (dv 4) qg)) qg)) (qC (i:=7) nd rfl (by first | exact Or.inl rfl | exact Or.inr rfl)) (qp (JC (yR qG (dv 4) (qQ yw (dv 7) qr) (fun _ _=>rfl)) (ju (n:=3) rfl (qH (qC (i:=8) nd rfl (by first | exact Or.inl rfl | exact Or.inr rfl)) (qH (qC (i:=9) nd rfl (by first | exact Or.inl rfl | exact Or.inr rfl)) (qH (qC (i:=10) nd rfl (by first | exact Or.inl rfl | exact Or.inr rfl)) yS)))))
   (qp (JC (yR qG (dv 4) (dv 7) (fun _ _=>rfl)) (ju (n:=3) rfl (qH (qC (i:=11) nd rfl (by first | exact Or.inl rfl | exact Or.inr rfl)) (qH (qC (i:=12) nd rfl (by first | exact Or.inl rfl | exact Or.inr rfl)) (qH (qC (i:=13) nd rfl (by first | exact Or.inl rfl | exact Or.inr rfl)) yS)))))
   (qp (qK (i:=5) nd rfl (by first | exact Or.inl rfl | exact Or.inr rfl) (qQ ym (qQ qB (qQ qB (dv 5) (dv 10)) (dv 13)) (qQ qB (qQ yw (qQ qB (dv 8) (dv 12)) (qQ qB (dv 11) (dv 9))) (dv 6))))
   (qL (qK (i:=6) nd rfl (by first | exact Or.inl rfl | exact Or.inr rfl) (qQ qB (qQ qB (dv 6) (dv 10)) (dv 13))))))))
   (qL (yi (qcJ (yT qgx (dv 6) qr (yB _)) (yG (qa (dv 5) (qa (dv 6) qg))) (yG (qa (qaz jp (dv 5)) (qa (qaz jp (dv 6)) qg))))))))),?_⟩
 obtain ⟨ok,hbt,hlen⟩:=qiG hc (l:=P) fun q hq=>hq
 have l12:=hc.2.1
 refine ⟨P,v,n,d,rfl,hc,?_⟩
 have ok:∀ x∈Cl P v n d,qgP x:=ok
 have hbt:bts (Cl P v n d)<=245 * P.length:=hbt
 have hlen:(Cl P v n d).length<=2 * P.length:=hlen
 generalize Cl P v n d=C at *
 have ln:(C.map trD).length=C.length:=List.length_map ..
 have lt:((((C.map trD).length:Nat):Int)).toNat=C.length:=by omega
 refine ⟨zl2,rfl,_,.l (.d _),by omega,by omega,?_⟩
 refine forR (fun i ρ' μ'=>μ'=μ/\∃ ov un:Int,Rnd C i ov un/\∃ w1 w2 w3 w4 w5 w6 w7,ρ'=[some (.d (hpD P)),some (.d (ptD v)),some (.d (.int n)),some (.d (.int d)),some (.d (.list (C.map trD))),some (.d (.int ov)),some (.d (.int un)),w1,w2,w3,w4,w5,w6,w7]) ?_ ?_ ?_
 ·refine ⟨rfl,0,1,⟨by decide,by unfold Sz;decide,by unfold Sz;decide,qk 1,?_⟩,_,_,_,_,_,_,_,rfl⟩
  show ((0:Int):Rat) / ((1:Int):Rat)=0
  grind
 ·rintro i ρ' μ' hi ⟨rfl,ov,un,hR,w1,w2,w3,w4,w5,w6,w7,rfl⟩
  have hi:i<((((C.map trD).length:Nat):Int)).toNat:=hi
  rw [lt] at hi
  have st:=qdq ok hi hR
  have k1:=ok _ (qbJ hi)
  have k2:=ok _ (qcr hi)
  obtain ⟨_,s1,s2,_,_⟩:=hR
  obtain ⟨_,p1,p2,p3⟩:=k1
  obtain ⟨_,q1,q2,q3⟩:=k2
  have f:∀ m,m<=100000->m<2 ^ 20:=fun m h=>by omega
  refine ⟨_,at_pT hi,rfl,_,at_T hi,rfl,?_⟩
  dsimp only [List.set_cons_zero,List.set_cons_succ]
  refine ⟨jf s1 p3 (f _ (by omega)),jf (s1.mul p3) q3 (f _ (by omega)),jf p1 q2 (by decide),jf q1 p2 (by decide),jf ((p1.mul q2).sub (q1.mul p2)) s2 (f _ (by omega)),jf s2 p3 (f _ (by omega)),jf (s2.mul p3) q3 (f _ (by omega)),Wks.of ⟨rfl,_,_,st,_,_,_,_,_,_,_,rfl⟩⟩
 ·rintro ρ' μ' ⟨rfl,ov,un,hR,w1,w2,w3,w4,w5,w6,w7,rfl⟩
  rw [lt] at hR
  have sz:=qhe hR (by omega) (by rw [qfK];exact qk _)
  obtain ⟨u0,_,_,_,e⟩:=hR
  rw [Y4 _ (qk _),qT] at e
  refine J8 (fun c=>?_) (fun c=>?_)
  ·have c:0<un:=qN c
   exact ⟨zl2,k ov un c sz e⟩
  ·have c:¬ 0<un:=fun z=>c (qO z)
   refine ⟨zl2,k (-ov) (-un) (by omega) sz.neg ?_⟩
   rw [<- e]
   have:=yY u0
   simp only [Rat.intCast_neg]
   grind
def sLbl:SpD:=fun es μ Q=>∃ (P:List Pt) (v:Pt) (n d:Int),es=[.d (hpD P),.d (ptD v),.d (.int n),.d (.int d)]/\qgU P v n d/\∀ ov un:Int,0<un->(ov:Rat) / un=j9 cq (tq (gT (Cl P v n d) ((Cl P v n d).length - 1))) ((Cl P v n d).map tq)->Q (.d (qec ov un)) μ
theorem qeD:FnScope ["_law_cake_here", "_law_arrow_here", "_law_n", "_law_d", "_law_over", "_law_under", "_law_share"] ["_law_cake_here", "_law_arrow_here", "_law_n", "_law_d"] (qu jZ):=⟨rfl,rfl,rfl,by decide +kernel,rfl,by decide +kernel,by decide +kernel⟩
theorem qhR {f:Addr}{fd:FuncData}(F:Fun K "_law_below" "_law_below" jZ f fd) (T:Txt mg) (hX:NoX CX) (O_law_part:Own P w K mg base CX 3 "_law_part" ["_law_cake_here", "_law_arrow_here", "_law_n", "_law_d"] (yh K sPrt)) (O_law_divisor:Own P w K mg base CX 1 "_law_divisor" ["_law_one", "_law_two"] (yh K qfE)):FnOk P w K mg base CX 4 f fd ["_law_cake_here", "_law_arrow_here", "_law_n", "_law_d"] (yh K sLbl):=by
 refine F.okD qeD (fun es μ Q hq0=>by obtain ⟨P,v,n,d,e,_⟩:=hq0;subst e;rfl) (fun cdv A' outer s H E es μ Q hr hq0=>?_)
 obtain ⟨P,v,n,d,e,hc,k⟩:=hq0
 subst e
 have nd:=qeD.nd
 refine ⟨_,(qp (JC (qY O_law_part hX (hr.mono (by decide)) rfl (qa (dv 0) (qa (dv 1) (qa (dv 2) (qa (dv 3) qg))))) (ju (n:=2) rfl (qH (qC (i:=4) nd rfl (by first | exact Or.inl rfl | exact Or.inr rfl)) (qH (qC (i:=5) nd rfl (by first | exact Or.inl rfl | exact Or.inr rfl)) yS))))
   (qp (qK (i:=6) nd rfl (by first | exact Or.inl rfl | exact Or.inr rfl) (qY O_law_divisor hX (hr.mono (by decide)) rfl (qa (dv 4) (qa (dv 5) qg))))
   (qL (yi (yG (qa (qQ Jg (dv 4) (dv 6)) (qa (qQ Jg (dv 5) (dv 6)) qg))))))),?_⟩
 refine ⟨P,v,n,d,rfl,hc,fun ov un u0 sz e=>?_⟩
 have g:=qe1 (n:=ov) u0 sz
 exact ⟨rfl,ov,un,rfl,g,g,zl2,k ov un u0 e⟩
theorem qf3 {v A B:Pt}{t:Rat}:pS (vl' v A,crs v A) (vl' v B,crs v B) t=qaP v.1 v.2 t (pq A) (pq B):=by
 have u:∀ q:Pt,((vl' v q:Int):Rat) - t=uQ v.1 v.2 t (pq q):=fun q=>by
  unfold vl' uQ pq
  simp only [Rat.intCast_add,Rat.intCast_mul]
 have r:∀ q:Pt,((crs v q:Int):Rat)=rQ v.1 v.2 (pq q):=fun q=>by
  unfold crs rQ pq
  simp only [Rat.intCast_sub,Rat.intCast_mul]
 have c:∀ q:Pt,((vl' v q:Int):Rat)<=t ↔ uQ v.1 v.2 t (pq q)<=0:=fun q=>by
  rw [<- u q]
  constructor <;> intro h <;> grind
 unfold pS qaP gQ
 simp only [c,r]
 have w:((vl' v B:Int):Rat) - ((vl' v A:Int):Rat)=uQ v.1 v.2 t (pq B) - uQ v.1 v.2 t (pq A):=by rw [<- u A,<- u B];grind
 have w2:((vl' v A:Int):Rat) - ((vl' v B:Int):Rat)=uQ v.1 v.2 t (pq A) - uQ v.1 v.2 t (pq B):=by rw [<- u A,<- u B];grind
 simp only [u,w,w2]
theorem ZB (v:Pt):((vl' v v:Int):Rat)=(v.1:Rat) * v.1+(v.2:Rat) * v.2:=by
 unfold vl'
 simp only [Rat.intCast_add,Rat.intCast_mul]
def qek (P:List Pt) (v:Pt) (t:Rat):Rat:=jB (fun k=>pS (gP (ZH v P) k) (nx (ZH v P) k) t) P.length
theorem Ji {P:List Pt}(h0:0<P.length) (v:Pt) (t:Rat):qek P v t=jB (fun k=>qaP v.1 v.2 t (pq (gP P k)) (pq (nx P k))) P.length:=by
 unfold qek
 refine yV fun k hk=>?_
 have e:nx (ZH v P) k=(vl' v (nx P k),crs v (nx P k)):=by
  unfold nx
  rw [Z7,ZG (yN _ h0)]
 rw [e,ZG hk,qf3]
theorem qiF {P:List Pt}{v:Pt}{n d:Int}(hc:qgU P v n d):((vl' v v:Int):Rat) * j9 cq (tq (gT (Cl P v n d) ((Cl P v n d).length - 1))) ((Cl P v n d).map tq)=qek P v ((n:Rat) / d):=by
 obtain ⟨l2,l12,hn,hv,hd,hd4,hf⟩:=hc
 have eC:(Cl P v n d).map tq=Jv v.1 v.2 ((n:Rat) / d) (pq (gP P (P.length - 1))) (P.map pq):=qim hd P _
 have hL:(v.1:Rat) * v.1+(v.2:Rat) * v.2≠0:=by
  rw [<- ZB]
  exact yY (by have:=(qdd hv).1;omega)
 have hl:lst (pq (gP P (P.length - 1))) (P.map pq)=pq (gP P (P.length - 1)):=by
  have e:P=P.take (P.length - 1)++[gP P (P.length - 1)]:=by
   have:=ZD (P:=P) (i:=P.length - 1) (by omega)
   rw [show P.length - 1+1=P.length by omega,qT] at this
   exact this
  have e2:P.map pq=(P.take (P.length - 1)).map pq++[pq (gP P (P.length - 1))]:=by
   have:=congrArg (List.map pq) e
   rw [List.map_append] at this
   exact this
  rw [e2,JM]
 rw [ZB,eC,Ji (by omega),<- qdt _ (by omega)]
 refine qeb _ _ _ hL hl _ fun hne=>?_
 rw [<- eC] at hne ⊢
 have h0:0<(Cl P v n d).length:=yl.mpr fun z=>hne (by rw [z];rfl)
 generalize Cl P v n d=C at *
 have:=qaq (C:=C) (C.length - 1) (by omega)
 have e:C.map tq=(C.take (C.length - 1)).map tq++[tq (gT C (C.length - 1))]:=by
  have:=Ja (C:=C) (i:=C.length - 1) (by omega)
  rw [show C.length - 1+1=C.length by omega,qT] at this
  have:=congrArg (List.map tq) this
  rw [List.map_append] at this
  exact this
 rw [e,JM]
end
end K72
namespace L2
theorem qh2 {N D N' D':Int}(h:0<D) (h':0<D') (e:(N:Rat) / D=(N':Rat) / D'):N.fdiv (Int.gcd N D:Nat)=N'.fdiv (Int.gcd N' D':Nat)/\D.fdiv (Int.gcd N D:Nat)=D'.fdiv (Int.gcd N' D':Nat):=by
 have d0:=yY (d:=D) (by omega)
 have d1:=yY (d:=D') (by omega)
 have x:N * D'=N' * D:=by
  have:(N:Rat) * D'=N' * D:=by grind
  rw [<- Rat.intCast_mul,<- Rat.intCast_mul] at this
  exact Rat.intCast_inj.mp this
 have g:((Int.gcd N D:Nat):Int) * D'=((Int.gcd N' D':Nat):Int) * D:=by
  have a:=Int.gcd_mul_right N D' D
  have b:=Int.gcd_mul_right N' D D'
  rw [x,Int.mul_comm D D'] at a
  rw [a] at b
  have b:=congrArg (fun n:Nat=>(n:Int)) b
  have b:((Int.gcd N D * D'.natAbs:Nat):Int)=((Int.gcd N' D' * D.natAbs:Nat):Int):=b
  rw [Int.natCast_mul,Int.natCast_mul,Int.natAbs_of_nonneg (Int.le_of_lt h),Int.natAbs_of_nonneg (Int.le_of_lt h')] at b
  exact b
 refine ⟨?_,?_⟩
 ·rw [<- Int.mul_fdiv_mul_of_pos N _ h',<- Int.mul_fdiv_mul_of_pos N' _ h,Int.mul_comm D' N,Int.mul_comm D' _,x,g,Int.mul_comm N' D,Int.mul_comm _ D]
 ·rw [<- Int.mul_fdiv_mul_of_pos D _ h',<- Int.mul_fdiv_mul_of_pos D' _ h,Int.mul_comm D' D,Int.mul_comm D' _,g,Int.mul_comm _ D]
theorem qbY (a b t:Rat) (A B:Qt):qaP a b t A B+qaP (-a) (-b) (-t) A B=gQ a b t A B:=by
 have u:∀ C:Qt,uQ (-a) (-b) (-t) C = -uQ a b t C:=fun C=>by unfold uQ;grind
 have r:∀ C:Qt,rQ (-a) (-b) C = -rQ a b C:=fun C=>by unfold rQ;grind
 unfold qaP gQ
 simp only [u,r]
 generalize uQ a b t A=p
 generalize uQ a b t B=q
 generalize rQ a b A=x
 generalize rQ a b B=y
 by_cases h1:p<=0 <;> by_cases h2:q<=0 <;> by_cases h3:-p<=0 <;> by_cases h4:-q<=0 <;> simp only [h1,h2,h3,h4,if_true,if_false]
 ·have:p=0:=by grind
  have:q=0:=by grind
  grind
 ·have:p=0:=by grind
  grind
 ·have:q=0:=by grind
  grind
 ·grind
 ·have:p=0:=by grind
  have:q≠0:=by grind
  grind
 ·grind
 ·have:q - p≠0:=by grind
  have:-q - -p≠0:=by grind
  have:-p - -q≠0:=by grind
  grind
 ·grind
 ·have:q=0:=by grind
  have:p≠0:=by grind
  grind
 ·have:q - p≠0:=by grind
  have:p - q≠0:=by grind
  have:-q - -p≠0:=by grind
  have:-p - -q≠0:=by grind
  grind
 ·grind
 ·grind
 ·grind
 ·grind
 ·grind
 ·grind
theorem qbX (a b t:Rat) {A B:Qt}(h1:0<=uQ a b t A) (h2:0<=uQ a b t B):qaP a b t A B=0:=by
 unfold qaP gQ
 generalize uQ a b t A=p at *
 generalize uQ a b t B=q at *
 by_cases h3:p<=0 <;> by_cases h4:q<=0 <;> simp only [h3,h4,if_true,if_false]
 ·have:p=0:=by grind
  have:q=0:=by grind
  grind
 ·have:p=0:=by grind
  grind
 ·have:q=0:=by grind
  grind
theorem qag (F:Nat->Rat):∀ m,jB (fun k=>F (k+1) - F k) m=F m - F 0
 | 0=>by show (0:Rat)=_;grind
 | m+1=>by
  show jB _ m+(F (m+1) - F m)=_
  rw [qag F m]
  grind
theorem qbC (F:Nat->Rat) {n:Nat}(h:0<n):jB (fun k=>F ((k+1) % n) - F k) n=0:=by
 obtain ⟨m,rfl⟩:∃ m,n=m+1:=⟨n - 1,by omega⟩
 show jB _ m+(F ((m+1) % (m+1)) - F m)=0
 rw [yV (g:=fun k=>F (k+1) - F k) fun k hk=>by rw [qJ (by omega)],qag,Nat.mod_self]
 grind
theorem Yv (f g:Nat->Rat):∀ n,jB (fun k=>f k+g k) n=jB f n+jB g n
 | 0=>by show (0:Rat)=0+0;grind
 | n+1=>by
  show jB _ n+(f n+g n)=jB f n+f n+(jB g n+g n)
  rw [Yv f g n]
  grind
theorem qah (c:Rat) (f:Nat->Rat):∀ n,jB (fun k=>c * f k) n=c * jB f n
 | 0=>by show (0:Rat)=c * 0;grind
 | n+1=>by
  show jB _ n+c * f n=c * (jB f n+f n)
  rw [qah c f n]
  grind
theorem Y2:∀ n,jB (fun _=>0) n=0
 | 0=>rfl
 | n+1=>by
  show jB _ n+0=0
  rw [Y2 n]
  grind
theorem Y3 (f:Nat->Int):∀ n,(((List.range n).map f).sum:Int)=jB (fun k=>(f k:Rat)) n
 | 0=>rfl
 | n+1=>by
  rw [List.range_succ,List.map_append,List.sum_append]
  show (((_+([f n].sum):Int)):Rat)=jB _ n+(f n:Rat)
  rw [Rat.intCast_add,Y3 f n]
  simp
theorem qiA (A B:Pt):((crs A B:Int):Rat)=cq (pq A) (pq B):=by
 unfold crs cq pq
 simp only [Rat.intCast_sub,Rat.intCast_mul]
theorem g_sum (a b t:Rat) {P:List Pt}(h:0<P.length):jB (fun k=>gQ a b t (pq (gP P k)) (pq (nx P k))) P.length=(a * a+b * b) * ((qda P:Int):Rat):=by
 unfold qda
 rw [Y3,<- qah]
 have e:=qbC (fun k=>uQ a b t (pq (gP P k)) * rQ a b (pq (gP P k)) - t * rQ a b (pq (gP P k))) h
 have z:jB (fun k=>gQ a b t (pq (gP P k)) (pq (nx P k))) P.length=jB (fun k=>(a * a+b * b) * ((crs (gP P k) (nx P k):Int):Rat)+((uQ a b t (pq (gP P ((k+1) % P.length))) * rQ a b (pq (gP P ((k+1) % P.length))) - t * rQ a b (pq (gP P ((k+1) % P.length)))) - (uQ a b t (pq (gP P k)) * rQ a b (pq (gP P k)) - t * rQ a b (pq (gP P k))))) P.length:=yV fun k hk=>by
  rw [qiA,qiB a b t]
  unfold nx
  grind
 rw [z,Yv,e]
 grind
open PySem PySem.Spec PyProof.Rows
section
variable {X:Cx}{K:W.Frag}
theorem qcS (hc:X.calm=true):yA X (.builtin "min") (fun xs H Q=>∃ p ns,xs=[.ref p]/\SqL X.K H p (ns.map V.int)/\ns≠[]/\∀ m:Int,m∈ns->(∀ a∈ns,m<=a)->Q (.int m) H):=by
 intro pins s σ H xs us Q I r h
 obtain ⟨p,ns,rfl,hq,hne,q⟩:=h
 obtain ⟨u,rfl,rx⟩:=J9 r
 cases rx
 obtain ⟨its,rv,pl,_⟩:=I.list hq
 obtain ⟨ys,rfl,e⟩:=Jt rv
 have hl:s.heap.IsList p (intItems ys.toArray):=by
  have:=pl.isList
  simpa [intItems] using this
 have hn:0<ys.length:=by
  have:=yl.mpr hne
  rw [<- e,List.length_map] at this
  exact this
 refine min_intList (I.ok.hd hc) hl (by simpa using hn) fun v h' tk hv hk=>?_
 obtain ⟨t,rfl⟩:=intItems_at hv
 obtain ⟨h1,h2⟩:=argBest_lt (numAt ys.toArray) (ys.toArray.size - 1)
 have na:∀ j,j<ys.length->∃ z,ns[j]?=some z/\numAt ys.toArray j=z:=fun j hj=>by
  refine ⟨ys[j].1,by rw [<- e];simp [hj],by simp [numAt,hj]⟩
 refine ⟨.int _,H,I.kept hk,⟨_,rfl⟩,q _ ?_ fun a ha=>?_⟩
 ·have h0:argBest (fun i j=>decide (numAt ys.toArray i<numAt ys.toArray j)) (ys.toArray.size - 1)<ys.length:=by
   simp only [List.size_toArray] at h1 ⊢;omega
  obtain ⟨z,e1,e2⟩:=na _ h0
  rw [e2]
  exact List.mem_of_getElem? e1
 ·obtain ⟨j,hj⟩:=List.mem_iff_getElem?.mp ha
  have hj2:j<ys.length:=by
   have:=(qo.mp hj).1
   rwa [<- e,List.length_map] at this
  obtain ⟨z,e1,e2⟩:=na j hj2
  rw [hj] at e1
  cases e1
  rw [<- e2]
  exact h2 j (by simp only [List.size_toArray];omega)
def qeO:RAd:=fun es μ Q=>match es with
 | [e]=>∃ ns:List Int,LstOf μ e (ns.map PyData.int)/\ns≠[]/\∀ m:Int,m∈ns->(∀ a∈ns,m<=a)->Q (.d (.int m)) μ
 | _=>False
theorem qgB (hc:X.calm=true) (hK:X.K=K:=by rfl):yA X (.builtin "min") (upC K qeO):=by
 subst hK
 refine (qcS hc).mono fun xs H Q h=>?_
 obtain ⟨μ,es,Q0,M,hp,q,cl⟩:=h
 unfold qeO at q
 split at q
 ·obtain ⟨v,rfl,i1⟩:=JF hp
  obtain ⟨ns,h1,hne,q⟩:=q
  obtain ⟨p,ys,rfl,h2,h3⟩:=h1.get M i1
  rw [h3.ints_of] at h2
  exact ⟨p,ns,rfl,h2,hne,fun m h4 h5=>cl _ μ _ _ (q m h4 h5) M (qZ.refl _) (.int _)⟩
 ·exact q.elim
end
end L2
namespace K72
open PySem L2
section
variable {P:Program}{w:World}{K:W.Frag}{mg:Str->Option Value}{base:Heap}{CX:CXT}
def Pla (x:Pt):Prop:=0<x.2/\x.2.natAbs<=10000000000000000000000000000000/\x.1.natAbs<=1000000000000000000000000000000000000000000000000000000000000000000000000
theorem JZ {x y:Int}{a b:Nat}(h:x.natAbs<=a) (h2:y.natAbs<=b):(x * y).natAbs<=a * b:=by rw [y4];exact Nat.mul_le_mul h h2
theorem szM {x:Int}(h:x.natAbs<=10000000000000000000000000000000000000000):Sz 140 x:=Sz.of _ h (by decide +kernel)
theorem qcZ {l:List Int}{i:Int}(h:0<=i) (h2:i<l.length):∃ x,x∈l/\atI (l.map PyData.int) i=some (.int x):=by
 obtain ⟨n,rfl⟩:∃ n:Nat,i=(n:Int):=⟨i.toNat,by omega⟩
 have hn:n<l.length:=by omega
 exact ⟨l[n],qE hn,YO (by rw [List.getElem?_map,List.getElem?_eq_getElem hn];rfl)⟩
def sPlc:SpD:=fun es μ Q=>∃ (p:Addr) (P:List Pt) (v:Pt),es=[.m p,.d (hpD P),.d (ptD v)]/\(p,PA0)∈μ/\Ck P/\Ar v/\∀ L:List Pt,(∀ x∈L,Pla x)->L.length<=8->Q (.d (hpD L)) μ
theorem qeA:FnScope ["_law_pot_here", "_law_cake_here", "_law_arrow_here", "_law_along", "_law_one", "_law_two", "_law_d", "_law_share", "_law_found"] ["_law_pot_here", "_law_cake_here", "_law_arrow_here"] (qu yO):=⟨rfl,rfl,rfl,by decide +kernel,rfl,by decide +kernel,by decide +kernel⟩
theorem qhO {f:Addr}{fd:FuncData}(F:Fun K "_law_places" "_law_places" yO f fd) (T:Txt mg) (hX:NoX CX) (O_law_take:Own P w K mg base CX 1 "_law_take" ["_law_pot_here", "_law_many"] (yh K (sDraw 2147483629))) (O_law_wide:Own P w K mg base CX 2 "_law_wide" ["_law_pot_here"] (yh K (qi4 2147483629))):FnOk P w K mg base CX 3 f fd ["_law_pot_here", "_law_cake_here", "_law_arrow_here"] (yh K sPlc):=by
 refine F.okD qeA (fun es μ Q hq0=>by obtain ⟨p,Z,v,e,_⟩:=hq0;subst e;rfl) (fun cdv A outer s H E es μ Q hr hq0=>?_)
 obtain ⟨p,Z,v,e,hp,hc,hv,k⟩:=hq0
 subst e
 have nd:=qeA.nd
 have key:∃ t,DSs K (qc9 CX P w K mg base ["_law_pot_here", "_law_cake_here", "_law_arrow_here", "_law_along", "_law_one", "_law_two", "_law_d", "_law_share", "_law_found"] "_law_places" (qu yO) f cdv A outer s H E).nox ((yX yO).drop 5) t ∧
   ∀ (l:List Int) (one two d:Int),0<l.length->(∀ x∈l,x.natAbs<=10000000000000000000000000000000000000000)->one∈l->two∈l->0<d->d<=1000000000000000000000000000001->t { nx:=fun _ μ'=>Q (.d .none) μ',rt:=Q } [some (.m p),some (.d (hpD Z)),some (.d (ptD v)),some (.d (.list (l.map .int))),some (.d (.int one)),some (.d (.int two)),some (.d (.int d)),none,none] μ:=by
  refine ⟨_,(qp (qK (i:=7) nd rfl (by first | exact Or.inl rfl | exact Or.inr rfl) (qQ ym (qQ qB (dv 4) (dv 6)) (qQ qB (qQ yw (dv 5) (dv 4)) (qY O_law_take hX (hr.mono (by decide)) rfl (qa (dv 0) (qa (qQ ym (dv 6) qr) qg))))))
   (qp (qK (i:=8) nd rfl (by first | exact Or.inl rfl | exact Or.inr rfl) (qd7 (qa (yG (qa (dv 4) (qa qr qg))) (qa (yG (qa (qQ qB (dv 4) (dv 6)) (qa (dv 6) qg))) (qa (yG (qa (qQ ym (dv 4) (dv 5)) (qa qr qg))) (qa (yG (qa (dv 7) (qa (dv 6) qg))) (qa (yG (qa (yR qG (dv 3) qr (fun _ _=>rfl)) (qa qr qg))) (qa (yG (qa (yR qG (dv 3) (qaz jp qr) (fun _ _=>rfl)) (qa qr qg))) qg))))))))
   (qL (yi (qQ qay (dv 8) (qd7 (qa (yG (qa (qQ yw (qQ qB (yR qG (dv 3) qr (fun _ _=>rfl)) (dv 6)) qr) (qa (dv 6) qg))) (qa (yG (qa (qQ ym (qQ qB (yR qG (dv 3) (qaz jp qr) (fun _ _=>rfl)) (dv 6)) qr) (qa (dv 6) qg))) qg)))))))),fun l one two d l0 hb h1 h2 d0 d1=>?_⟩
  have d2:d.natAbs<=1000000000000000000000000000001:=by omega
  have sd:Sz 110 d:=Sz.of _ d2 (by decide +kernel)
  have b1:=hb _ h1
  have b2:=hb _ h2
  refine ⟨jf (szM b1) sd (by decide),p,_,rfl,hp,by omega,by omega,fun c c0 c1=>⟨jf ((szM b2).sub (szM b1)) (Sz.of (k:=110) 1000000000000000000000000000001 (by omega) (by decide +kernel)) (by decide),?_⟩⟩
  obtain ⟨x0,m0,e0⟩:=qcZ (l:=l) (i:=0) (by omega) (by omega)
  have hne:l≠[]:=yl.mp l0
  have e9:=YN PyData.int hne
  have m9:=List.getLast_mem hne
  generalize l.getLast hne=x9 at e9 m9
  have b0:=hb _ m0
  have b9:=hb _ m9
  have q1:=JZ b1 d2
  have q2:=JZ (x:=two - one) (y:=c) (a:=20000000000000000000000000000000000000000) (b:=1000000000000000000000000000001) (by omega) (by omega)
  have q0:=JZ b0 d2
  have q9:=JZ b9 d2
  refine ⟨zl2,jf (szM b1) sd (by decide),zl2,zl2,zl2,_,e0,zl2,_,e9,zl2,(show 6<=4000 by decide),_,e0,jf (szM b0) sd (by decide),zl2,_,e9,jf (szM b9) sd (by decide),zl2,zl2,_,_,.d _,.d _,(show 8<=4000 by decide),?_⟩
  refine k [(one,1),(one * d,d),(one+two,2),(one * d+(two - one) * c,d),(x0,1),(x9,1),(x0 * d - 1,d),(x9 * d+1,d)] (fun x hx=>?_) (qk 8)
  simp only [List.mem_cons,List.not_mem_nil,or_false] at hx
  unfold Pla
  rcases hx with rfl | rfl | rfl | rfl | rfl | rfl | rfl | rfl <;> dsimp only <;> omega
 obtain ⟨t,ht,hk⟩:=key
 refine ⟨_,(qp (qK (i:=3) nd rfl (by first | exact Or.inl rfl | exact Or.inr rfl) (qW qd6 (by rfl) T.sorted_ Zq (qa (JE (L:=["_law_x", "_law_y"]) (sc:=qu yO) (N:=["_law_pot_here", "_law_cake_here", "_law_arrow_here", "_law_along", "_law_one", "_law_two", "_law_d", "_law_share", "_law_found"]) rfl rfl rfl (by decide +kernel) (jD (dv 1)) (fun _ _ _ _ _=>(ju (n:=2) rfl (qH (qC (i:=9) (show List.Nodup (["_law_pot_here", "_law_cake_here", "_law_arrow_here", "_law_along", "_law_one", "_law_two", "_law_d", "_law_share", "_law_found", "_law_x", "_law_y"]:List Str) from by decide +kernel) rfl (by first | exact Or.inl rfl | exact Or.inr rfl)) (qH (qC (i:=10) (show List.Nodup (["_law_pot_here", "_law_cake_here", "_law_arrow_here", "_law_along", "_law_one", "_law_two", "_law_d", "_law_share", "_law_found", "_law_x", "_law_y"]:List Str) from by decide +kernel) rfl (by first | exact Or.inl rfl | exact Or.inr rfl)) yS)))) (fun _ _ _ _ _=>jE) (fun _ _ _ _ _=>(qQ ym (qQ qB (yR qG (dv 2) qr (fun _ _=>rfl)) (dv 9)) (qQ qB (yR qG (dv 2) qr (fun _ _=>rfl)) (dv 10))))) qg)))
   (qp (qK (i:=4) nd rfl (by first | exact Or.inl rfl | exact Or.inr rfl) (yR qG (dv 3) (qY O_law_take hX (hr.mono (by decide)) rfl (qa (dv 0) (qa (qW jP (by rfl) T.len_ jS (qa (dv 3) qg)) qg))) (fun _ _=>rfl)))
   (qp (qK (i:=5) nd rfl (by first | exact Or.inl rfl | exact Or.inr rfl) (yR qG (dv 3) (qY O_law_take hX (hr.mono (by decide)) rfl (qa (dv 0) (qa (qW jP (by rfl) T.len_ jS (qa (dv 3) qg)) qg))) (fun _ _=>rfl)))
   (qp (qK (i:=6) nd rfl (by first | exact Or.inl rfl | exact Or.inr rfl) (qQ ym qr (qY O_law_take hX (hr.mono (by decide)) rfl (qa (dv 0) (qa qr qg)))))
   (qp (JG (yT (Zk hr.units) (qY O_law_take hX (hr.mono (by decide)) rfl (qa (dv 0) (qa qr qg))) qr (yB _)) (qL (qK (i:=6) nd rfl (by first | exact Or.inl rfl | exact Or.inr rfl) (qQ ym qr (qW Zm (by rfl) T.abs_ Zr (qa (qY O_law_wide hX (hr.mono (by decide)) rfl (qa (dv 0) qg)) qg))))) jH)
   ht))))),?_⟩
 have l12:=hc.2.2.1
 have l3:=hc.2.1
 have hb:∀ q∈Z,(vl' v q).natAbs<=10000000000000000000000000000000000000000:=fun q hq=>(Yt hv (hc.2.2.2 q hq)).1
 refine ⟨_,.d _,(by show (Z.map ptD).length<=4000;rw [List.length_map];omega),qcN (as:=Z) (fun q=>.int (vl' v q)) Src.d (fun q hq R h=>?_) ?_⟩
 ·have a1:=hv.1.1
  have a2:=hv.1.2
  obtain ⟨⟨x1,x2⟩,x3,x4⟩:=hc.2.2.2 q hq
  exact ⟨_,rfl,jf (szM (by omega)) (szM (by omega)) (by decide),_,rfl,jf (szM (by omega)) (szM (by omega)) (by decide),h⟩
 have em:Z.map (fun q=>PyData.int (vl' v q))=(Z.map (vl' v)).map PyData.int:=by rw [List.map_map];rfl
 rw [em]
 refine ⟨Z.map (vl' v),.d _,by rw [List.length_map];omega,?_⟩
 have hl:(srt (Z.map (vl' v))).length=Z.length:=by rw [qbl,List.length_map]
 have hm:∀ x∈srt (Z.map (vl' v)),x.natAbs<=10000000000000000000000000000000000000000:=fun x hx=>by
  obtain ⟨q,hq,rfl⟩:=qI.mp ((Yr _).mem_iff.mp hx)
  exact hb q hq
 generalize srt (Z.map (vl' v))=l at hl hm
 have hL:(l.map PyData.int).length=l.length:=List.length_map ..
 dsimp only [List.set_cons_zero,List.set_cons_succ]
 refine ⟨_,.l (.d _),p,_,rfl,hp,by omega,by omega,fun i i0 i1=>?_⟩
 obtain ⟨one,h1,e1⟩:=qcZ (l:=l) i0 (by omega)
 refine ⟨_,e1,_,.l (.d _),p,_,rfl,hp,by omega,by omega,fun j j0 j1=>?_⟩
 obtain ⟨two,h2,e2⟩:=qcZ (l:=l) j0 (by omega)
 refine ⟨_,e2,p,_,rfl,hp,by decide,by decide,fun d d0 d1=>?_⟩
 refine ⟨p,_,rfl,hp,by decide,by decide,fun c c0 c1=>J8 (fun _=>?_) (fun _=>?_)⟩
 ·refine ⟨p,rfl,hp,fun n hn=>?_⟩
  obtain ⟨n1,n2⟩:=hn
  exact hk l one two _ (by omega) hm h1 h2 (show (0:Int)<1+((n.natAbs:Nat):Int) by omega) (show 1+((n.natAbs:Nat):Int)<=_ by omega)
 ·exact hk l one two (1+d) (by omega) hm h1 h2 (by omega) (by omega)
theorem JS (A:List Pt):SeqAt.shaped (hpD A)=true:=by
 have d2:PyData.depthAll (A.map ptD)<=3:=Zl (n:=2) (fun p=>by unfold ptD;simp [PyData.depth,PyData.depthAll]) A
 have h1:PyData.canLayAll0 (A.map ptD)=true:=Yp (fun p=>rfl) A
 unfold SeqAt.shaped
 rw [Bool.and_eq_true]
 refine ⟨by unfold hpD;simp only [PyData.canLay0,h1],qO ?_⟩
 unfold hpD
 simp only [PyData.depth]
 omega
def sIsP:SpD:=fun es μ Q=>∃ a b:Int,es=[.d (.tuple [.int a,.int b]),.d (.tuple [.int a,.int b])]/\Q (.d (.bool true)) μ
theorem qeF:FnScope ["_law_found", "_law_due"] ["_law_found", "_law_due"] (qu y9):=⟨rfl,rfl,rfl,by decide +kernel,rfl,by decide +kernel,by decide +kernel⟩
theorem qhT {f:Addr}{fd:FuncData}(F:Fun K "_law_is_part" "_law_is_part" y9 f fd) (T:Txt mg):FnOk P w K mg base CX 1 f fd ["_law_found", "_law_due"] (yh K sIsP):=by
 refine F.okD qeF (fun es μ Q hq0=>by obtain ⟨a,b,e,_⟩:=hq0;subst e;rfl) (fun cdv A outer s H E es μ Q hr hq0=>?_)
 obtain ⟨a,b,e,k⟩:=hq0
 subst e
 have nd:=qeF.nd
 refine ⟨_,(qp (JG (qjf (dw_or (qe9 (qcE (qW qfb (by rfl) T.isinstance_ Jh (qa (dv 0) (qa (d_ty rfl T.tuple_ qei) qg))))) (qip (yT (qdZ hr.units) (qW jP (by rfl) T.len_ jS (qa (dv 0) qg)) qr (yB _))))) (qL (yi d_bl)) jH)
   (qL (yi (qix (qd8 (Zk hr.units) (dv 0) (dv 1) (yB _)) (qiv (d_not (qW (qit rfl) (by rfl) T.any_ qiK (qa (JE (L:=["_law_number_here"]) (sc:=qu y9) (N:=["_law_found", "_law_due"]) rfl rfl rfl (by decide +kernel) (qiq (dv 0)) (fun _ _ _ _ _=>(qC (i:=2) (show List.Nodup (["_law_found", "_law_due", "_law_number_here"]:List Str) from by decide +kernel) rfl (by first | exact Or.inl rfl | exact Or.inr rfl))) (fun _ _ _ _ _=>jE) (fun _ _ _ _ _=>(qW qfb (by rfl) T.isinstance_ Jh (qa (dv 2) (qa (d_ty rfl T.bool_ qgH) qg))))) qg)))))))),?_⟩
 have sh:SeqAt.shaped (.tuple [.int a,.int b])=true:=rfl
 refine ⟨by decide,qc8 ⟨_,.t _,_,_,.d _,.d _,sh,sh,J8 (fun c=>?_) (fun c=>absurd (Jl sh) c)⟩⟩
 refine ⟨zl2,compL (fun x=>.bool false) Src.t (fun x hx R h=>?_) ?_⟩
 ·simp only [List.mem_cons,List.not_mem_nil,or_false] at hx
  rcases hx with rfl | rfl <;> first | exact h | exact ⟨by decide,h⟩
 refine ⟨[false,false],.d _,?_⟩
 exact k
theorem qcP {N D:Int}(h:0<D) (s1:Sz 9000 N) (s2:Sz 9000 D):∃ a b:Int,qec N D = .tuple [.int a,.int b]/\0<b/\Sz 9000 a/\Sz 9000 b/\(a:Rat) / b=(N:Rat) / D:=by
 refine ⟨_,_,rfl,?_⟩
 have g0:0<Int.gcd N D:=Int.gcd_pos_of_ne_zero_right _ (by omega)
 obtain ⟨x,ex⟩:((Int.gcd N D:Nat):Int) ∣ N:=Int.gcd_dvd_left ..
 obtain ⟨y,ey⟩:((Int.gcd N D:Nat):Int) ∣ D:=Int.gcd_dvd_right ..
 generalize Int.gcd N D=g at *
 have gp:(0:Int)<(g:Int):=by omega
 have f1:N.fdiv (g:Int)=x:=by rw [ex,Int.mul_fdiv_cancel_left _ (by omega)]
 have f2:D.fdiv (g:Int)=y:=by rw [ey,Int.mul_fdiv_cancel_left _ (by omega)]
 rw [f1,f2]
 have y0:0<y:=by
  refine Int.lt_of_not_ge fun z=>?_
  have:=Int.mul_le_mul_of_nonneg_left z (Int.le_of_lt gp)
  rw [Int.mul_zero,<- ey] at this
  omega
 have le:∀ z:Int,z.natAbs<=((g:Int) * z).natAbs:=fun z=>by rw [y4];exact Nat.le_mul_of_pos_left _ (by omega)
 refine ⟨y0,yu (by rw [ex];exact le x) s1,yu (by rw [ey];exact le y) s2,?_⟩
 rw [ex,ey]
 simp only [Rat.intCast_mul]
 have a1:=yY (d:=(g:Int)) (by omega)
 have a2:=yY (d:=y) (by omega)
 grind
theorem qej {Z:List Pt}(h:0<Z.length) (v:Pt) (t:Rat):qek Z v t+qek Z (-v.1,-v.2) (-t)=((vl' v v:Int):Rat) * ((qda Z:Int):Rat):=by
 rw [Ji h,Ji h,<- Yv,ZB,<- g_sum v.1 v.2 t h]
 refine yV fun k _=>?_
 have:=qbY v.1 v.2 t (pq (gP Z k)) (pq (nx Z k))
 simp only [Rat.intCast_neg]
 exact this
theorem qgf {Z:List Pt}(h:0<Z.length) (v:Pt) {m:Int}(hm:∀ q∈Z,m<=vl' v q):qek Z v (m:Rat)=0:=by
 rw [Ji h,<- Y2 Z.length]
 refine yV fun k hk=>?_
 have u:∀ q∈Z,0<=uQ v.1 v.2 (m:Rat) (pq q):=fun q hq=>by
  have:=Rat.intCast_le_intCast.mpr (hm q hq)
  unfold vl' at this
  simp only [Rat.intCast_add,Rat.intCast_mul] at this
  unfold uQ pq
  show 0<=(v.1:Rat) * (q.1:Rat)+(v.2:Rat) * (q.2:Rat) - (m:Rat)
  grind
 exact qbX _ _ _ (u _ (jM hk)) (u _ (jM (yN _ h)))
theorem qeu {B:Nat}:∀ {l:List Int},(∀ x∈l,x.natAbs<=B)->l.sum.natAbs<=l.length * B
 | [],_=>by simp
 | x::l,h=>by
  have h1:=h x qm
  have h2:=qeu (l:=l) fun y hy=>h y (qi _ hy)
  rw [List.sum_cons,List.length_cons,Nat.succ_mul]
  omega
theorem qgO {Z:List Pt}(l12:Z.length<=12) (h3:0<Z.length) (hn:∀ q∈Z,qaE q):Sz 300 (qda Z):=by
 have hc:∀ x∈(List.range Z.length).map (fun k=>crs (gP Z k) (nx Z k)),x.natAbs<=2000000000000000000000000000000000000000000000000000000000000:=fun x hx=>by
  obtain ⟨k,hk,rfl⟩:=qI.mp hx
  have hk:=List.mem_range.mp hk
  obtain ⟨⟨a1,a2⟩,a3,a4⟩:=hn _ (jM hk)
  obtain ⟨⟨b1,b2⟩,b3,b4⟩:=hn _ (jM (yN (k+1) h3))
  unfold crs nx
  have p1:=JZ (x:=(gP Z k).1) (y:=(gP Z ((k+1) % Z.length)).2) (a:=1000000000000000000000000000000) (b:=1000000000000000000000000000000) (by omega) (by omega)
  have p2:=JZ (x:=(gP Z k).2) (y:=(gP Z ((k+1) % Z.length)).1) (a:=1000000000000000000000000000000) (b:=1000000000000000000000000000000) (by omega) (by omega)
  omega
 have:=qeu hc
 rw [List.length_map,yq] at this
 refine Sz.of 24000000000000000000000000000000000000000000000000000000000000 ?_ (by decide +kernel)
 unfold qda
 omega
theorem qfd {N D N' D':Int}(h:0<D) (h':0<D') (e:(N:Rat) / D=(N':Rat) / D'):qec N D=qec N' D':=by
 obtain ⟨e1,e2⟩:=qh2 h h' e
 unfold qec
 rw [e1,e2]
theorem qiR {v:Pt}(h:Ar v):Ar (-v.1,-v.2):=by
 obtain ⟨⟨a,b⟩,c⟩:=h
 refine ⟨⟨by show (-v.1).natAbs<=_;omega,by show (-v.2).natAbs<=_;omega⟩,fun z=>c ?_⟩
 have z1:=congrArg Prod.fst z
 have z2:=congrArg Prod.snd z
 exact Prod.ext (by dsimp only at z1 ⊢;omega) (by dsimp only at z2 ⊢;omega)
theorem qgZ (v:Pt):vl' (-v.1,-v.2) (-v.1,-v.2)=vl' v v:=by
 unfold vl'
 dsimp only
 rw [Int.neg_mul_neg,Int.neg_mul_neg]
def qbz:SpD:=fun es μ Q=>∃ p:Addr,es=[.m p]/\(p,PA0)∈μ/\Q (.d (.bool true)) μ
theorem qaa:FnScope ["_law_pot_here", "_law_cake_here", "_law_arrow_here", "_law_handed", "_law_whole", "_law_n", "_law_d", "_law_due", "_law_rest", "_law_low"] ["_law_pot_here"] (qu jy):=⟨rfl,rfl,rfl,by decide +kernel,rfl,by decide +kernel,by decide +kernel⟩
theorem qdK {f:Addr}{fd:FuncData}(F:Fun K "_law_right" "_law_right" jy f fd) (T:Txt mg) (hX:NoX CX) (O_law_cake:Own P w K mg base CX 4 "_law_cake" ["_law_pot_here"] (yh K qfF)) (O_law_arrow:Own P w K mg base CX 2 "_law_arrow" ["_law_pot_here"] (yh K sArw)) (Oarea:Own P w K mg base CX 3 "area" ["cake"] (yh K qfG)) (O_law_places:Own P w K mg base CX 3 "_law_places" ["_law_pot_here", "_law_cake_here", "_law_arrow_here"] (yh K sPlc)) (O_law_below:Own P w K mg base CX 4 "_law_below" ["_law_cake_here", "_law_arrow_here", "_law_n", "_law_d"] (yh K sLbl)) (O_law_is_part:Own P w K mg base CX 1 "_law_is_part" ["_law_found", "_law_due"] (yh K sIsP)) (Obelow:Own P w K mg base CX 4 "below" ["cake", "arrow", "n", "d"] (yh K sBel)):FnOk P w K mg base CX 5 f fd ["_law_pot_here"] (yh K qbz):=by
 refine F.okD qaa (fun es μ Q hq0=>by obtain ⟨p,e,_⟩:=hq0;subst e;rfl) (fun cdv A outer s H E es μ Q hr hq0=>?_)
 obtain ⟨p,e,hp,k⟩:=hq0
 subst e
 have nd:=qaa.nd
 refine ⟨_,(qp (qK (i:=1) nd rfl (by first | exact Or.inl rfl | exact Or.inr rfl) (qY O_law_cake hX (hr.mono (by decide)) rfl (qa (dv 0) qg)))
   (qp (qK (i:=2) nd rfl (by first | exact Or.inl rfl | exact Or.inr rfl) (qY O_law_arrow hX (hr.mono (by decide)) rfl (qa (dv 0) qg)))
   (qp (qK (i:=3) nd rfl (by first | exact Or.inl rfl | exact Or.inr rfl) (YH qcH (by rfl) T.list_ ZZ (qa (dv 1) qg)))
   (qp (qK (i:=4) nd rfl (by first | exact Or.inl rfl | exact Or.inr rfl) (qY Oarea hX (hr.mono (by decide)) rfl (qa (YH qcH (by rfl) T.list_ ZZ (qa (dv 1) qg)) qg)))
   (qp (J6 PassesOwn.never rfl (jD (qY O_law_places hX (hr.mono (by decide)) rfl (qa (dv 0) (qa (dv 1) (qa (dv 2) qg))))) (ju (n:=2) rfl (qH (qC (i:=5) nd rfl (by first | exact Or.inl rfl | exact Or.inr rfl)) (qH (qC (i:=6) nd rfl (by first | exact Or.inl rfl | exact Or.inr rfl)) yS))) (qp (qK (i:=7) nd rfl (by first | exact Or.inl rfl | exact Or.inr rfl) (qY O_law_below hX (hr.mono (by decide)) rfl (qa (dv 1) (qa (dv 2) (qa (dv 5) (qa (dv 6) qg))))))
   (qp (JG (qe9 (qcE (qY O_law_is_part hX (hr.mono (by decide)) rfl (qa (qY Obelow hX (hr.mono (by decide)) rfl (qa (dv 3) (qa (dv 2) (qa (dv 5) (qa (dv 6) qg))))) (qa (dv 7) qg))))) (qL (yi d_bl)) jH)
   (qp (qK (i:=8) nd rfl (by first | exact Or.inl rfl | exact Or.inr rfl) (qY Obelow hX (hr.mono (by decide)) rfl (qa (dv 3) (qa (yG (qa (qaz jp (yR qG (dv 2) qr (fun _ _=>rfl))) (qa (qaz jp (yR qG (dv 2) qr (fun _ _=>rfl))) qg))) (qa (qaz jp (dv 5)) (qa (dv 6) qg))))))
   (qL (JG (yT (qdZ hr.units) (qQ ym (qQ qB (yR qG (dv 8) qr (fun _ _=>rfl)) (yR qG (dv 7) qr (fun _ _=>rfl))) (qQ qB (yR qG (dv 7) qr (fun _ _=>rfl)) (yR qG (dv 8) qr (fun _ _=>rfl)))) (qQ qB (qQ qB (dv 4) (yR qG (dv 8) qr (fun _ _=>rfl))) (yR qG (dv 7) qr (fun _ _=>rfl))) (yB _)) (qL (yi d_bl)) jH))))))
   (qp (qK (i:=9) nd rfl (by first | exact Or.inl rfl | exact Or.inr rfl) (qW (qgB rfl) (by rfl) T.min_ qcW (qa (JE (L:=["_law_x", "_law_y"]) (sc:=qu jy) (N:=["_law_pot_here", "_law_cake_here", "_law_arrow_here", "_law_handed", "_law_whole", "_law_n", "_law_d", "_law_due", "_law_rest", "_law_low"]) rfl rfl rfl (by decide +kernel) (jD (dv 1)) (fun _ _ _ _ _=>(ju (n:=2) rfl (qH (qC (i:=10) (show List.Nodup (["_law_pot_here", "_law_cake_here", "_law_arrow_here", "_law_handed", "_law_whole", "_law_n", "_law_d", "_law_due", "_law_rest", "_law_low", "_law_x", "_law_y"]:List Str) from by decide +kernel) rfl (by first | exact Or.inl rfl | exact Or.inr rfl)) (qH (qC (i:=11) (show List.Nodup (["_law_pot_here", "_law_cake_here", "_law_arrow_here", "_law_handed", "_law_whole", "_law_n", "_law_d", "_law_due", "_law_rest", "_law_low", "_law_x", "_law_y"]:List Str) from by decide +kernel) rfl (by first | exact Or.inl rfl | exact Or.inr rfl)) yS)))) (fun _ _ _ _ _=>jE) (fun _ _ _ _ _=>(qQ ym (qQ qB (yR qG (dv 2) qr (fun _ _=>rfl)) (dv 10)) (qQ qB (yR qG (dv 2) qr (fun _ _=>rfl)) (dv 11))))) qg)))
   (qL (yi (qix (qd8 (Zk hr.units) (qY Obelow hX (hr.mono (by decide)) rfl (qa (dv 3) (qa (dv 2) (qa (dv 9) (qa qr qg))))) (yG (qa qr (qa qr qg))) (yB _)) (qiv (qd8 (Zk hr.units) (dv 3) (dv 1) (yB _)))))))))))),?_⟩
 refine ⟨p,rfl,hp,fun Z hc=>⟨p,rfl,hp,fun v hv=>?_⟩⟩
 have l3:=hc.2.1
 have l12:=hc.2.2.1
 refine ⟨_,.l (.d _),_,.l (.d _),Z,rfl,by omega,by omega,hc.2.2.2,p,Z,v,rfl,hp,hc,hv,fun L hL l8=>?_⟩
 refine ⟨_,.d _,?_⟩
 have hb:∀ q∈Z,(vl' v q).natAbs<=10000000000000000000000000000000000000000:=fun q hq=>(Yt hv (hc.2.2.2 q hq)).1
 have vv:=qdd hv
 have v0:=yY (d:=vl' v v) (by omega)
 have sA:=qgO l12 (by omega) hc.2.2.2
 refine qje (fun j ρ' μ'=>μ'=μ/\∃ w5 w6 w7 w8,ρ'=[some (.m p),some (.d (hpD Z)),some (.d (ptD v)),some (.d (hpD Z)),some (.d (.int (qda Z))),w5,w6,w7,w8,none]) (e:=.d (hpD L)) (ds:=L.map ptD) ?_ (fun _ _ _ _=>.d _) ?_ ?_
 ·exact ⟨rfl,_,_,_,_,rfl⟩
 ·rintro j x ρ' μ' hx ⟨rfl,w5,w6,w7,w8,rfl⟩
  rw [List.getElem?_map] at hx
  obtain ⟨⟨n,d⟩,hl,rfl⟩:=Option.map_eq_some_iff.mp hx
  obtain ⟨d0,d1,n1⟩:=hL _ (List.mem_of_getElem? hl)
  dsimp only at d0 d1 n1
  have sn:Sz 300 n:=Sz.of _ n1 (by decide +kernel)
  have sd:Sz 110 d:=Sz.of _ d1 (by decide +kernel)
  have ck:qgU Z v n d:=⟨by omega,l12,hc.2.2.2,hv,d0,qz d1 (by decide),fun q hq=>by
   have p1:=JZ d1 (hb q hq)
   refine Sz.of 1200000000000000000000000000000000000000000000000000000000000000000000000 ?_ (by decide +kernel)
   unfold fr
   unfold vl' at p1
   omega⟩
  refine ⟨rfl,Z,v,n,d,rfl,ck,fun ov un u0 eL=>?_⟩
  dsimp only [List.set_cons_zero,List.set_cons_succ]
  refine ⟨Z,v,n,d,rfl,by omega,l12,hc.2.2.2,hv,d0,sn,sd,fun N D D0 sN sD eB=>?_⟩
  have cs:=qiF ck
  rw [<- eL] at cs
  have eB:(N:Rat) / D * (vl' v v:Int)=qek Z v ((n:Rat) / d):=eB
  have eq:(ov:Rat) / un=(N:Rat) / D:=by grind
  rw [qfd u0 D0 eq]
  obtain ⟨a,b,eC,b0,sa,sb,eab⟩:=qcP D0 sN sD
  rw [eC]
  refine ⟨a,b,rfl,?_⟩
  refine ⟨_,rfl,_,rfl,zl2,Z,(-v.1,-v.2),-n,d,rfl,by omega,l12,hc.2.2.2,qiR hv,d0,sn.neg,sd,fun N2 D2 D20 sN2 sD2 eB2=>?_⟩
  obtain ⟨a2,b2,eC2,b20,sa2,sb2,eab2⟩:=qcP D20 sN2 sD2
  rw [eC2]
  dsimp only [List.set_cons_zero,List.set_cons_succ]
  have eB2:(N2:Rat) / D2 * (vl' (-v.1,-v.2) (-v.1,-v.2):Int)=qek Z (-v.1,-v.2) (((-n:Int):Rat) / d):=eB2
  have bs:=qej (Z:=Z) (by omega) v ((n:Rat) / d)
  have tn:((-n:Int):Rat) / d = -((n:Rat) / d):=by
   simp only [Rat.intCast_neg]
   grind
  rw [qgZ,tn] at eB2
  have all:a2 * b+a * b2=qda Z * b2 * b:=by
   have c1:=yY (d:=b) (by omega)
   have c2:=yY (d:=b2) (by omega)
   have s1:(a2:Rat) / b2+(a:Rat) / b=qda Z:=by grind
   refine Rat.intCast_inj.mp ?_
   simp only [Rat.intCast_add,Rat.intCast_mul]
   grind
  refine ⟨_,rfl,_,rfl,jf sa2 sb (by decide),_,rfl,_,rfl,jf sa sb2 (by decide),_,rfl,jf sA sb2 (by decide),_,rfl,jf (sA.mul sb2) sb (by decide),J8 (fun c=>?_) (fun _=>Wks.of ⟨rfl,_,_,_,_,rfl⟩)⟩
  have c:(!decide (a2 * b+a * b2=qda Z * b2 * b))=true:=c
  rw [all] at c
  simp at c
 ·rintro ρ' μ' ⟨rfl,w5,w6,w7,w8,rfl⟩
  refine ⟨_,.d _,(by show (Z.map ptD).length<=4000;rw [List.length_map];omega),qcN (as:=Z) (fun q=>.int (vl' v q)) Src.d (fun q hq R h=>?_) ?_⟩
  ·have a1:=hv.1.1
   have a2:=hv.1.2
   obtain ⟨⟨x1,x2⟩,x3,x4⟩:=hc.2.2.2 q hq
   exact ⟨_,rfl,jf (szM (by omega)) (szM (by omega)) (by decide),_,rfl,jf (szM (by omega)) (szM (by omega)) (by decide),h⟩
  have em:Z.map (fun q=>PyData.int (vl' v q))=(Z.map (vl' v)).map PyData.int:=by rw [List.map_map];rfl
  rw [em]
  refine ⟨Z.map (vl' v),.d _,(fun z=>by have z:Z=[]:=List.map_eq_nil_iff.mp z;rw [z] at l3;exact absurd l3 (by decide)),fun m hm hle=>?_⟩
  have m1:m.natAbs<=10000000000000000000000000000000000000000:=by
   obtain ⟨q,hq,rfl⟩:=qI.mp hm
   exact hb q hq
  dsimp only [List.set_cons_zero,List.set_cons_succ]
  refine ⟨Z,v,m,1,rfl,by omega,l12,hc.2.2.2,hv,by decide,Sz.of _ m1 (by decide +kernel),by unfold Sz;decide,fun N D D0 sN sD eB=>?_⟩
  have eB:(N:Rat) / D * (vl' v v:Int)=qek Z v ((m:Rat) / ((1:Int):Rat)):=eB
  have t1:(m:Rat) / ((1:Int):Rat)=m:=by grind
  rw [t1,qgf (by omega) v fun q hq=>hle _ (List.mem_map_of_mem hq)] at eB
  have eq:(N:Rat) / D=((0:Int):Rat) / ((1:Int):Rat):=by grind
  rw [qfd D0 (by decide) eq]
  have e01:qec 0 1 = .tuple [.int 0,.int 1]:=by unfold qec;rw [show Int.gcd 0 1=1 by decide];rfl
  rw [e01]
  have s01:SeqAt.shaped (.tuple [.int 0,.int 1])=true:=rfl
  refine ⟨zl2,_,_,.d _,.d _,s01,s01,J8 (fun _=>⟨_,_,.d _,.d _,JS Z,JS Z,?_⟩) (fun c=>absurd (Jl s01) c)⟩
  show Q (.d (.bool (PyData.eqv (hpD Z) (hpD Z)))) μ'
  rw [Jl (JS Z)]
  exact k
theorem qeE:FnScope ["_law_script"] ["_law_script"] (qu qc7):=⟨rfl,rfl,rfl,by decide +kernel,rfl,by decide +kernel,by decide +kernel⟩
theorem qhS {f:Addr}{fd:FuncData}(F:Fun K "law" "law" qc7 f fd) (T:Txt mg) (hX:NoX CX) (O_law_pot:Own P w K mg base CX 1 "_law_pot" ["_law_script", "_law_k"] (yh K sPot)) (O_law_right:Own P w K mg base CX 5 "_law_right" ["_law_pot_here"] (yh K qbz)):FnOk P w K mg base CX 6 f fd ["_law_script"] (yh K sLaw):=by
 refine F.okD qeE (fun es μ Q hq0=>by obtain ⟨ns,e,_⟩:=hq0;subst e;rfl) (fun cdv A outer s H E es μ Q hr hq0=>?_)
 obtain ⟨ns,e,hl,e0,k⟩:=hq0
 subst e e0
 have nd:=qeE.nd
 refine ⟨_,(qL (yi (qW (qiu rfl) (by rfl) T.all_ qiL (qa (JE (L:=["_law_k"]) (sc:=qu qc7) (N:=["_law_script"]) rfl rfl rfl (by decide +kernel) (jt rfl T.range_ (qa (qW (qcG rfl) (by rfl) T.max_ qcX (qa qr (qa (qW (qfa rfl) (by rfl) T.min_ qcW (qa (qW jP (by rfl) T.len_ jS (qa (dv 0) qg)) (qa qr qg))) qg))) qg)) (fun _ _ _ _ _=>(qC (i:=1) (show List.Nodup (["_law_script", "_law_k"]:List Str) from by decide +kernel) rfl (by first | exact Or.inl rfl | exact Or.inr rfl))) (fun _ _ _ _ _=>jE) (fun _ _ _ _ _=>(qY O_law_right hX (hr.mono (by decide)) rfl (qa (qY O_law_pot hX (hr.mono (by decide)) rfl (qa (dv 0) (qa (dv 1) qg))) qg)))) qg)))),?_⟩
 refine ⟨_,.l (.d _),?_⟩
 rw [List.length_map]
 obtain ⟨m,em,hm⟩:∃ m:Int,(if (1:Int)<(if (3:Int)<(ns.length:Int) then 3 else (ns.length:Int)) then (if (3:Int)<(ns.length:Int) then 3 else (ns.length:Int)) else 1)=m/\(1<=m/\m<=3):=⟨_,rfl,by split <;> (try split) <;> omega⟩
 refine ⟨?_,?_,?_,fun i ys ρ' μ'=>ys=(List.replicate i true).map PyData.bool/\∃ v,ρ'=[some (.d (.list (ns.map .int))),v],⟨rfl,_,rfl⟩,fun _ _ _ _ _ _=>trivial,?_,?_⟩
 ·exact le_of_le_of_eq (show -(2 ^ 62)<=m by omega) em.symm
 ·exact lt_of_eq_of_lt em (show m<2 ^ 62 by omega)
 ·exact le_of_eq_of_le (congrArg Int.toNat em) (show m.toNat<=4000 by omega)
 ·rintro i ys ρ' μ' hi ⟨rfl,v,rfl⟩
  have hi:i<Int.toNat _:=hi
  have hi2:i<m.toNat:=lt_of_lt_of_eq hi (congrArg Int.toNat em)
  refine ⟨ns,i,(by show [_,En.d (PyData.int (0+(i:Int)))]=_;simp),hl,by omega,fun p hp=>⟨p,rfl,qm,_,rfl,?_,_,rfl⟩⟩
  rw [List.replicate_succ',List.map_append]
  rfl
 ·rintro ys ρ' μ' ⟨rfl,v,rfl⟩
  refine ⟨_,.d _,?_⟩
  have e:∀ n,(List.replicate n true).all id=true:=fun n=>by simp
  change Q (.d (.bool ((List.replicate _ true).all id))) _
  rw [e]
  exact k _
end
structure FIn (K:W.Frag) (x:Str) (st:Stmt) (f:Addr) (fd:FuncData):Prop where
 a:W.nsIn K mainGlobals x=some (some (.ref f))
 F:Fun K x x st f fd
 k:W.keepIn K (.ref f)=true
theorem fin_mk {K:W.Frag}{x:Str}{st:Stmt}{f:Addr}{oc:Value}{od an:Option Addr}{sl:Array (Option Value)}{kV dc pm cd ct:Value}(a:W.nsIn K mainGlobals x=some (some (.ref f))) (l:K.lookup f=some ⟨oc,od,.func (W.fnOf x x (jO st) (yX st) (qu st) .none kV dc pm an cd ct),sl⟩) (c:W.codeIn K cd x=true) (k:W.keepIn K (.ref f)=true):FIn K x st f (W.fnOf x x (jO st) (yX st) (qu st) .none kV dc pm an cd ct):=⟨a,qe4 l c k,k⟩
theorem all_mk {l:W.OpenLaw}{w:World}{K:W.Frag}{h:Heap}{mg:Str->Option Value}{fa:Addr}(X:K.In h) (G:h.Ns mainGlobals mg) (hfa:mg "law" = some (.ref fa))
  {f0 f1 f2 f3 f4 f5 f6 f7 f8 f9 f10 f11 f12 f13 f14 f15 f16 f17 f18 f19 f20 f21 f22 f23 f24 f25 f26 f27:Addr}{d0 d1 d2 d3 d4 d5 d6 d7 d8 d9 d10 d11 d12 d13 d14 d15 d16 d17 d18 d19 d20 d21 d22 d23 d24 d25 d26 d27:FuncData}
  (g0:FIn K "_law_pot" jJ f0 d0)
  (g1:FIn K "_law_take" Jn f1 d1)
  (g2:FIn K "_law_wide" Jm f2 d2)
  (g3:FIn K "_law_across" jK f3 d3)
  (g4:FIn K "_law_chain" jY f4 d4)
  (g5:FIn K "_law_outer" jX f5 d5)
  (g6:FIn K "_law_mark" Jp f6 d6)
  (g7:FIn K "_law_cake" jT f7 d7)
  (g8:FIn K "cross" qbp f8 d8)
  (g9:FIn K "from_each_corner" yE f9 d9)
  (g10:FIn K "sides" Z5 f10 d10)
  (g11:FIn K "area" qdn f11 d11)
  (g12:FIn K "common_divisor" jc f12 d12)
  (g13:FIn K "lowest" ZF f13 d13)
  (g14:FIn K "curve_at" JT f14 d14)
  (g15:FIn K "value" qbj f15 d15)
  (g16:FIn K "side_part" Jk f16 d16)
  (g17:FIn K "part_curve" jx f17 d17)
  (g18:FIn K "below" qby f18 d18)
  (g19:FIn K "_law_divisor" jz f19 d19)
  (g20:FIn K "_law_arrow" j4 f20 d20)
  (g21:FIn K "_law_far" JU f21 d21)
  (g22:FIn K "_law_clipped" jA f22 d22)
  (g23:FIn K "_law_part" Jo f23 d23)
  (g24:FIn K "_law_below" jZ f24 d24)
  (g25:FIn K "_law_places" yO f25 d25)
  (g26:FIn K "_law_is_part" y9 f26 d26)
  (g27:FIn K "_law_right" jy f27 d27)
  {f28:Addr}{od28 an28:Option Addr}{sl28:Array (Option Value)}{oc28 kV28 dc28 pm28 cd28 ct28:Value}
  (a28:W.nsIn K mainGlobals "law" = some (some (.ref f28))) (l28:K.lookup f28=some ⟨oc28,od28,.func (W.fnOf "law" "law" (jO qc7) (yX qc7) (qu qc7) .none kV28 dc28 pm28 an28 cd28 ct28),sl28⟩) (c28:W.codeIn K cd28 "law" = true) (k28:W.keepIn K (.ref f28)=true)
  (z0:W.nsIn K mainGlobals "len" = some none)
  (z1:W.nsIn K mainGlobals "range" = some none)
  (z2:W.nsIn K mainGlobals "max" = some none)
  (z3:W.nsIn K mainGlobals "min" = some none)
  (z4:W.nsIn K mainGlobals "abs" = some none)
  (z5:W.nsIn K mainGlobals "int" = some none)
  (z6:W.nsIn K mainGlobals "isinstance" = some none)
  (z7:W.nsIn K mainGlobals "tuple" = some none)
  (z8:W.nsIn K mainGlobals "bool" = some none)
  (z9:W.nsIn K mainGlobals "list" = some none)
  (z10:W.nsIn K mainGlobals "all" = some none)
  (z11:W.nsIn K mainGlobals "any" = some none)
  (z12:W.nsIn K mainGlobals "set" = some none)
  (z13:W.nsIn K mainGlobals "sorted" = some none)
  (z14:W.nsIn K mainGlobals "str" = some none)
  (z15:W.nsIn K mainGlobals "enumerate" = some none)
  (z16:W.nsIn K mainGlobals "zip" = some none)
  (z17:W.nsIn K mainGlobals "divmod" = some none)
  (z18:W.nsIn K mainGlobals "sum" = some none)
  (z19:W.nsIn K mainGlobals "reversed" = some none)
  : ∃ fd:FuncData,(∀ (s:Shared) (v:Value),BindsTo s fd ⟨[v],[]⟩ [("_law_script",v)])/\∀ base:Heap,K.In base->base.Ns mainGlobals mg->FnOk l.prog w K mg base CX0 6 fa fd ["_law_script"] (qdj K):=by
 have e:=hfa.symm.trans (W.mg_of X G a28)
 cases e
 have T:Txt mg:=⟨W.mg_none_of X G z0,W.mg_none_of X G z1,W.mg_none_of X G z2,W.mg_none_of X G z3,W.mg_none_of X G z4,W.mg_none_of X G z5,W.mg_none_of X G z6,W.mg_none_of X G z7,W.mg_none_of X G z8,W.mg_none_of X G z9,W.mg_none_of X G z10,W.mg_none_of X G z11,W.mg_none_of X G z12,W.mg_none_of X G z13,W.mg_none_of X G z14,W.mg_none_of X G z15,W.mg_none_of X G z16,W.mg_none_of X G z17,W.mg_none_of X G z18,W.mg_none_of X G z19⟩
 have F0:=g0.F
 have b0:=F0.binds (ps:=["_law_script", "_law_k"]) fun _ _ _ _ _ _ us hl=>by obtain ⟨_,_,rfl⟩:=L2.lenIs2 hl rfl;rfl
 have F1:=g1.F
 have b1:=F1.binds (ps:=["_law_pot_here", "_law_many"]) fun _ _ _ _ _ _ us hl=>by obtain ⟨_,_,rfl⟩:=L2.lenIs2 hl rfl;rfl
 have F2:=g2.F
 have b2:=F2.binds (ps:=["_law_pot_here"]) fun _ _ _ _ _ _ us hl=>by obtain ⟨_,rfl⟩:=L2.lenIs1 hl rfl;rfl
 have F3:=g3.F
 have b3:=F3.binds (ps:=["_law_one", "_law_two", "_law_three"]) fun _ _ _ _ _ _ us hl=>by obtain ⟨_,_,_,rfl⟩:=L2.lenIs3 hl rfl;rfl
 have F4:=g4.F
 have b4:=F4.binds (ps:=["_law_points"]) fun _ _ _ _ _ _ us hl=>by obtain ⟨_,rfl⟩:=L2.lenIs1 hl rfl;rfl
 have F5:=g5.F
 have b5:=F5.binds (ps:=["_law_some"]) fun _ _ _ _ _ _ us hl=>by obtain ⟨_,rfl⟩:=L2.lenIs1 hl rfl;rfl
 have F6:=g6.F
 have b6:=F6.binds (ps:=["_law_pot_here", "_law_are_great"]) fun _ _ _ _ _ _ us hl=>by obtain ⟨_,_,rfl⟩:=L2.lenIs2 hl rfl;rfl
 have F7:=g7.F
 have b7:=F7.binds (ps:=["_law_pot_here"]) fun _ _ _ _ _ _ us hl=>by obtain ⟨_,rfl⟩:=L2.lenIs1 hl rfl;rfl
 have F8:=g8.F
 have b8:=F8.binds (ps:=["one", "other"]) fun _ _ _ _ _ _ us hl=>by obtain ⟨_,_,rfl⟩:=L2.lenIs2 hl rfl;rfl
 have F9:=g9.F
 have b9:=F9.binds (ps:=["corners"]) fun _ _ _ _ _ _ us hl=>by obtain ⟨_,rfl⟩:=L2.lenIs1 hl rfl;rfl
 have F10:=g10.F
 have b10:=F10.binds (ps:=["corners"]) fun _ _ _ _ _ _ us hl=>by obtain ⟨_,rfl⟩:=L2.lenIs1 hl rfl;rfl
 have F11:=g11.F
 have b11:=F11.binds (ps:=["cake"]) fun _ _ _ _ _ _ us hl=>by obtain ⟨_,rfl⟩:=L2.lenIs1 hl rfl;rfl
 have F12:=g12.F
 have b12:=F12.binds (ps:=["one", "other"]) fun _ _ _ _ _ _ us hl=>by obtain ⟨_,_,rfl⟩:=L2.lenIs2 hl rfl;rfl
 have F13:=g13.F
 have b13:=F13.binds (ps:=["n", "d"]) fun _ _ _ _ _ _ us hl=>by obtain ⟨_,_,rfl⟩:=L2.lenIs2 hl rfl;rfl
 have F14:=g14.F
 have b14:=F14.binds (ps:=["curve", "n", "d"]) fun _ _ _ _ _ _ us hl=>by obtain ⟨_,_,_,rfl⟩:=L2.lenIs3 hl rfl;rfl
 have F15:=g15.F
 have b15:=F15.binds (ps:=["normal", "point"]) fun _ _ _ _ _ _ us hl=>by obtain ⟨_,_,rfl⟩:=L2.lenIs2 hl rfl;rfl
 have F16:=g16.F
 have b16:=F16.binds (ps:=["start", "end", "low"]) fun _ _ _ _ _ _ us hl=>by obtain ⟨_,_,_,rfl⟩:=L2.lenIs3 hl rfl;rfl
 have F17:=g17.F
 have b17:=F17.binds (ps:=["cake", "arrow", "low"]) fun _ _ _ _ _ _ us hl=>by obtain ⟨_,_,_,rfl⟩:=L2.lenIs3 hl rfl;rfl
 have F18:=g18.F
 have b18:=F18.binds (ps:=["cake", "arrow", "n", "d"]) fun _ _ _ _ _ _ us hl=>by obtain ⟨_,_,_,_,rfl⟩:=L2.lenIs4 hl rfl;rfl
 have F19:=g19.F
 have b19:=F19.binds (ps:=["_law_one", "_law_two"]) fun _ _ _ _ _ _ us hl=>by obtain ⟨_,_,rfl⟩:=L2.lenIs2 hl rfl;rfl
 have F20:=g20.F
 have b20:=F20.binds (ps:=["_law_pot_here"]) fun _ _ _ _ _ _ us hl=>by obtain ⟨_,rfl⟩:=L2.lenIs1 hl rfl;rfl
 have F21:=g21.F
 have b21:=F21.binds (ps:=["_law_point", "_law_arrow_here", "_law_n", "_law_d"]) fun _ _ _ _ _ _ us hl=>by obtain ⟨_,_,_,_,rfl⟩:=L2.lenIs4 hl rfl;rfl
 have F22:=g22.F
 have b22:=F22.binds (ps:=["_law_cake_here", "_law_arrow_here", "_law_n", "_law_d"]) fun _ _ _ _ _ _ us hl=>by obtain ⟨_,_,_,_,rfl⟩:=L2.lenIs4 hl rfl;rfl
 have F23:=g23.F
 have b23:=F23.binds (ps:=["_law_cake_here", "_law_arrow_here", "_law_n", "_law_d"]) fun _ _ _ _ _ _ us hl=>by obtain ⟨_,_,_,_,rfl⟩:=L2.lenIs4 hl rfl;rfl
 have F24:=g24.F
 have b24:=F24.binds (ps:=["_law_cake_here", "_law_arrow_here", "_law_n", "_law_d"]) fun _ _ _ _ _ _ us hl=>by obtain ⟨_,_,_,_,rfl⟩:=L2.lenIs4 hl rfl;rfl
 have F25:=g25.F
 have b25:=F25.binds (ps:=["_law_pot_here", "_law_cake_here", "_law_arrow_here"]) fun _ _ _ _ _ _ us hl=>by obtain ⟨_,_,_,rfl⟩:=L2.lenIs3 hl rfl;rfl
 have F26:=g26.F
 have b26:=F26.binds (ps:=["_law_found", "_law_due"]) fun _ _ _ _ _ _ us hl=>by obtain ⟨_,_,rfl⟩:=L2.lenIs2 hl rfl;rfl
 have F27:=g27.F
 have b27:=F27.binds (ps:=["_law_pot_here"]) fun _ _ _ _ _ _ us hl=>by obtain ⟨_,rfl⟩:=L2.lenIs1 hl rfl;rfl
 have F28:=qe4 (st:=qc7) l28 c28 k28
 have b28:=F28.binds (ps:=["_law_script"]) fun _ _ _ _ _ _ us hl=>by obtain ⟨_,rfl⟩:=L2.lenIs1 hl rfl;rfl
 refine ⟨W.fnOf "law" "law" (jO qc7) (yX qc7) (qu qc7) .none kV28 dc28 pm28 an28 cd28 ct28,fun s v=>.of_eq rfl,fun base Kb Gb=>?_⟩
 have O_law_pot:Own l.prog w K mg base CX0 1 "_law_pot" ["_law_script", "_law_k"] (yh K sPot):=⟨_,_,qhN F0 T,W.mg_of X G g0.a,g0.k,b0⟩
 have O_law_take:Own l.prog w K mg base CX0 1 "_law_take" ["_law_pot_here", "_law_many"] (yh K (sDraw 2147483629)):=⟨_,_,qf7 F1 ,W.mg_of X G g1.a,g1.k,b1⟩
 have O_law_wide:Own l.prog w K mg base CX0 2 "_law_wide" ["_law_pot_here"] (yh K (qi4 2147483629)):=⟨_,_,qf6 F2 T Y9 O_law_take,W.mg_of X G g2.a,g2.k,b2⟩
 have O_law_across:Own l.prog w K mg base CX0 1 "_law_across" ["_law_one", "_law_two", "_law_three"] (yh K sAc):=⟨_,_,qb0 F3 ,W.mg_of X G g3.a,g3.k,b3⟩
 have O_law_chain:Own l.prog w K mg base CX0 2 "_law_chain" ["_law_points"] (yh K qbA):=⟨_,_,qdN F4 T Y9 O_law_across,W.mg_of X G g4.a,g4.k,b4⟩
 have O_law_outer:Own l.prog w K mg base CX0 3 "_law_outer" ["_law_some"] (yh K sOut):=⟨_,_,qdL F5 T Y9 O_law_chain,W.mg_of X G g5.a,g5.k,b5⟩
 have O_law_mark:Own l.prog w K mg base CX0 3 "_law_mark" ["_law_pot_here", "_law_are_great"] (yh K qfD):=⟨_,_,qf9 F6 Y9 O_law_take O_law_wide,W.mg_of X G g6.a,g6.k,b6⟩
 have O_law_cake:Own l.prog w K mg base CX0 4 "_law_cake" ["_law_pot_here"] (yh K qfF):=⟨_,_,qgb F7 T Y9 O_law_take O_law_mark O_law_outer,W.mg_of X G g7.a,g7.k,b7⟩
 have Ocross:Own l.prog w K mg base CX0 1 "cross" ["one", "other"] (yh K qaf):=⟨_,_,qdM F8 ,W.mg_of X G g8.a,g8.k,b8⟩
 have Ofrom_each_corner:Own l.prog w K mg base CX0 1 "from_each_corner" ["corners"] (yh K qfC):=⟨_,_,qf8 F9 T,W.mg_of X G g9.a,g9.k,b9⟩
 have Osides:Own l.prog w K mg base CX0 2 "sides" ["corners"] (yh K qae):=⟨_,_,qdJ F10 T Y9 Ofrom_each_corner,W.mg_of X G g10.a,g10.k,b10⟩
 have Oarea:Own l.prog w K mg base CX0 3 "area" ["cake"] (yh K qfG):=⟨_,_,qgc F11 T Y9 Osides Ocross,W.mg_of X G g11.a,g11.k,b11⟩
 have Ocommon_divisor:Own l.prog w K mg base CX0 1 "common_divisor" ["one", "other"] (yh K qfE):=⟨_,_,ok_cd F12 T,W.mg_of X G g12.a,g12.k,b12⟩
 have Olowest:Own l.prog w K mg base CX0 2 "lowest" ["n", "d"] (yh K sLow):=⟨_,_,qhP F13 Y9 Ocommon_divisor,W.mg_of X G g13.a,g13.k,b13⟩
 have Ocurve_at:Own l.prog w K mg base CX0 1 "curve_at" ["curve", "n", "d"] (yh K sCvA):=⟨_,_,qhU F14 ,W.mg_of X G g14.a,g14.k,b14⟩
 have Ovalue:Own l.prog w K mg base CX0 1 "value" ["normal", "point"] (yh K sVal):=⟨_,_,qdI F15 ,W.mg_of X G g15.a,g15.k,b15⟩
 have Oside_part:Own l.prog w K mg base CX0 1 "side_part" ["start", "end", "low"] (yh K sSp):=⟨_,_,ok_sp F16 T,W.mg_of X G g16.a,g16.k,b16⟩
 have Opart_curve:Own l.prog w K mg base CX0 3 "part_curve" ["cake", "arrow", "low"] (yh K sPc):=⟨_,_,ok_pc F17 T Y9 Ovalue Ocross Osides Oside_part,W.mg_of X G g17.a,g17.k,b17⟩
 have Obelow:Own l.prog w K mg base CX0 4 "below" ["cake", "arrow", "n", "d"] (yh K sBel):=⟨_,_,qhW F18 Y9 Opart_curve Olowest Ocurve_at,W.mg_of X G g18.a,g18.k,b18⟩
 have O_law_divisor:Own l.prog w K mg base CX0 1 "_law_divisor" ["_law_one", "_law_two"] (yh K qfE):=⟨_,_,qhQ F19 T,W.mg_of X G g19.a,g19.k,b19⟩
 have O_law_arrow:Own l.prog w K mg base CX0 2 "_law_arrow" ["_law_pot_here"] (yh K sArw):=⟨_,_,qhX F20 T Y9 O_law_take O_law_divisor,W.mg_of X G g20.a,g20.k,b20⟩
 have O_law_far:Own l.prog w K mg base CX0 1 "_law_far" ["_law_point", "_law_arrow_here", "_law_n", "_law_d"] (yh K sFar):=⟨_,_,qga F21 ,W.mg_of X G g21.a,g21.k,b21⟩
 have O_law_clipped:Own l.prog w K mg base CX0 2 "_law_clipped" ["_law_cake_here", "_law_arrow_here", "_law_n", "_law_d"] (yh K sClp):=⟨_,_,qhV F22 T Y9 O_law_far,W.mg_of X G g22.a,g22.k,b22⟩
 have O_law_part:Own l.prog w K mg base CX0 3 "_law_part" ["_law_cake_here", "_law_arrow_here", "_law_n", "_law_d"] (yh K sPrt):=⟨_,_,qhM F23 T Y9 O_law_clipped,W.mg_of X G g23.a,g23.k,b23⟩
 have O_law_below:Own l.prog w K mg base CX0 4 "_law_below" ["_law_cake_here", "_law_arrow_here", "_law_n", "_law_d"] (yh K sLbl):=⟨_,_,qhR F24 T Y9 O_law_part O_law_divisor,W.mg_of X G g24.a,g24.k,b24⟩
 have O_law_places:Own l.prog w K mg base CX0 3 "_law_places" ["_law_pot_here", "_law_cake_here", "_law_arrow_here"] (yh K sPlc):=⟨_,_,qhO F25 T Y9 O_law_take O_law_wide,W.mg_of X G g25.a,g25.k,b25⟩
 have O_law_is_part:Own l.prog w K mg base CX0 1 "_law_is_part" ["_law_found", "_law_due"] (yh K sIsP):=⟨_,_,qhT F26 T,W.mg_of X G g26.a,g26.k,b26⟩
 have O_law_right:Own l.prog w K mg base CX0 5 "_law_right" ["_law_pot_here"] (yh K qbz):=⟨_,_,qdK F27 T Y9 O_law_cake O_law_arrow Oarea O_law_places O_law_below O_law_is_part Obelow,W.mg_of X G g27.a,g27.k,b27⟩
 exact (qhS F28 T Y9 O_law_pot O_law_right).imp (fun _ _ _ _ h=>qh3 h)
theorem walk {l:W.OpenLaw}{q:Program}{loose:List Str}{XP:(Str->Option Value)->Heap->Prop}{YP:World->Heap->Prop}{d:DefRec}{K:Params->W.Frag}(hn:l.most=some 63) (hdf:d.params.defaults=[])
  (hY:∀ (w:World) (h:Heap),YP w h->(K w.params).In h)
  (F:∀ (w:World) (mg:Str->Option Value) (fa:Addr) (h:Heap),(K w.params).In h->h.Ns mainGlobals mg->mg d.name=some (.ref fa) →
   ∃ fd:FuncData,(∀ (s:Shared) (u:Value),BindsTo s fd ⟨[u],[]⟩ [("_law_script",u)])/\∀ base:Heap,(K w.params).In base->base.Ns mainGlobals mg->FnOk l.prog w (K w.params) mg base CX0 6 fa fd ["_law_script"] (qdj (K w.params))) :
  W.WalkO q loose XP YP l.row.toRowW d [] (fun f vs=>PySem.call f vs) :=
 L2.walk_of (n:=63) (k:=6) (x := "_law_script") (CX:=fun w=>CX0) (sp:=fun w=>qdj (K w.params)) hn (by decide) hdf ⟨rfl,by decide,by decide⟩ hY F (fun _ _ a ns hl _ hS=>⟨a,ns,rfl,hS,hl,fun _=>rfl⟩) fun _ _ _ _ _ z=>z
end K72
def PySem.W.Fast.tw6876985826099774051:Nat:=0
def PySem.W.Fast.tw15275940280413378149:Nat:=0
def PySem.W.Fast.tw2589736460704249712:Nat:=0
def PySem.W.Fast.tw17203869801469012254:Nat:=0
def PySem.W.Fast.tw3029724993202209859:Nat:=0
def PySem.W.Fast.tw2234098600663773444:Nat:=0
def PySem.W.Fast.tw14457578132694453578:Nat:=0
def PySem.W.Fast.tw14084849410508524410:Nat:=0
def PySem.W.Fast.tw1961955250138689146:Nat:=0
def PySem.W.Fast.tw16406400079158445191:Nat:=0
def PySem.W.Fast.tw3521603859389192780:Nat:=0
def PySem.W.Fast.tw17797765110845978798:Nat:=0
def PySem.W.Fast.tw14950189808605157125:Nat:=0
def PySem.W.Fast.tw14197120818074736069:Nat:=0
def PySem.W.Fast.tw17444702418876923576:Nat:=0
def PySem.W.Fast.tw5996310687966070867:Nat:=0
def PySem.W.Fast.tw3688176056758451111:Nat:=0
def PySem.W.Fast.tw10819510231508984951:Nat:=0
def PySem.W.Fast.tw12754165618117003729:Nat:=0
def PySem.W.Fast.tw14389616705146664018:Nat:=0
def PySem.W.Fast.tw9861539840539848433:Nat:=0
def PySem.W.Fast.tw4144421669437279440:Nat:=0
def PySem.W.Fast.tw739330056758255958:Nat:=0
def PySem.W.Fast.tw1181443865230117368:Nat:=0
def PySem.W.Fast.tw12256062269176127039:Nat:=0
def PySem.W.Fast.tw12014775811369775751:Nat:=0
def PySem.W.Fast.tw8937662170210080485:Nat:=0
def PySem.W.Fast.tw7333007719851439127:Nat:=0
def PySem.W.Fast.tw1508665624251292656:Nat:=0
def PySem.W.Fast.tw16236110230200755309:Nat:=0
def PySem.W.Fast.tw11820787632099938607:Nat:=0
def PySem.W.Fast.tw2081914093666045824:Nat:=0
def PySem.W.Fast.tw16280083351937443514:Nat:=0
def PySem.W.Fast.tw16195821769463642115:Nat:=0
def PySem.W.Fast.tw16622804638882746646:Nat:=0
def PySem.W.Fast.tw2958674164917548225:Nat:=0
def PySem.W.Fast.tw17347070245891023445:Nat:=0
def PySem.W.Fast.tw15984900338291129455:Nat:=0
def PySem.W.Fast.tw5497501726002324717:Nat:=0
def PySem.W.Fast.tw13086771942737002304:Nat:=0
def PySem.W.Fast.tw11556530539550232951:Nat:=0
def PySem.W.Fast.tw14652841372970007514:Nat:=0
def PySem.W.Fast.tw14199333665949519665:Nat:=0
def PySem.W.Fast.tw14082971568787446222:Nat:=0
def PySem.W.Fast.tw12281860031263495680:Nat:=0
def PySem.W.Fast.tw1203290983366041779:Nat:=0
def PySem.W.Fast.tw16160673426659899915:Nat:=0
def PySem.W.Fast.tw4498664074423416518:Nat:=0
def PySem.W.Fast.tw5178719371652550768:Nat:=0
def PySem.W.Fast.tw9875339510863289071:Nat:=0
def PySem.W.Fast.tw13703353083197003063:Nat:=0
def PySem.W.Fast.tw8586332909540549606:Nat:=0
def PySem.W.Fast.tw16112680436053418479:Nat:=0
def PySem.W.Fast.tw12928889822528721971:Nat:=0
def PySem.W.Fast.tw10156375069434993106:Nat:=0
def PySem.W.Fast.tw718435598152560657:Nat:=0
def PySem.W.Fast.tw5108543204511925892:Nat:=0
def PySem.W.Fast.tw14322515439048037517:Nat:=0
def PySem.W.Fast.tw643313370447368829:Nat:=0
def PySem.W.Fast.tw5879383729760351702:Nat:=0
def PySem.W.Fast.tw7928053716790753550:Nat:=0
def PySem.W.Fast.tw8565167896605698081:Nat:=0
def PySem.W.Fast.tw15665479587291427520:Nat:=0
def PySem.W.Fast.tw14399189536897374906:Nat:=0
def PySem.W.Fast.tw4222120613986388603:Nat:=0
def PySem.W.Fast.tw14529908517911707979:Nat:=0
def PySem.W.Fast.tw3747939199988108128:Nat:=0
def PySem.W.Fast.tw16693883101339105624:Nat:=0
def PySem.W.Fast.tw4079554614165004326:Nat:=0
def PySem.W.Fast.tw14806689360950432705:Nat:=0
open PySem PySem.W PyProof.Rows
set_option maxRecDepth 100000 in
set_option maxHeartbeats 0 in
theorem PySem.Challenge.cw_halveline_k72_parts_below_holds : PySem.Challenge.rw_halveline_k72_parts_below.Holds := by
 w_on;o_law;k_head;(case hw=>w_witness2)
 k_fill
 refine K72.walk (l:=PySem.Challenge.rw_halveline_k72_parts_below) rfl rfl (fun w h Y=>W.kIn_of Y) ?F
 case F =>
  intro w mg fa h KX G hmg
  refine' K72.all_mk KX G hmg (K72.fin_mk ?a0 ?l0 ?c0 ?k0) (K72.fin_mk ?a1 ?l1 ?c1 ?k1) (K72.fin_mk ?a2 ?l2 ?c2 ?k2) (K72.fin_mk ?a3 ?l3 ?c3 ?k3) (K72.fin_mk ?a4 ?l4 ?c4 ?k4) (K72.fin_mk ?a5 ?l5 ?c5 ?k5) (K72.fin_mk ?a6 ?l6 ?c6 ?k6) (K72.fin_mk ?a7 ?l7 ?c7 ?k7) (K72.fin_mk ?a8 ?l8 ?c8 ?k8) (K72.fin_mk ?a9 ?l9 ?c9 ?k9) (K72.fin_mk ?a10 ?l10 ?c10 ?k10) (K72.fin_mk ?a11 ?l11 ?c11 ?k11) (K72.fin_mk ?a12 ?l12 ?c12 ?k12) (K72.fin_mk ?a13 ?l13 ?c13 ?k13) (K72.fin_mk ?a14 ?l14 ?c14 ?k14) (K72.fin_mk ?a15 ?l15 ?c15 ?k15) (K72.fin_mk ?a16 ?l16 ?c16 ?k16) (K72.fin_mk ?a17 ?l17 ?c17 ?k17) (K72.fin_mk ?a18 ?l18 ?c18 ?k18) (K72.fin_mk ?a19 ?l19 ?c19 ?k19) (K72.fin_mk ?a20 ?l20 ?c20 ?k20) (K72.fin_mk ?a21 ?l21 ?c21 ?k21) (K72.fin_mk ?a22 ?l22 ?c22 ?k22) (K72.fin_mk ?a23 ?l23 ?c23 ?k23) (K72.fin_mk ?a24 ?l24 ?c24 ?k24) (K72.fin_mk ?a25 ?l25 ?c25 ?k25) (K72.fin_mk ?a26 ?l26 ?c26 ?k26) (K72.fin_mk ?a27 ?l27 ?c27 ?k27) ?a28 ?l28 ?c28 ?k28 ?z0 ?z1 ?z2 ?z3 ?z4 ?z5 ?z6 ?z7 ?z8 ?z9 ?z10 ?z11 ?z12 ?z13 ?z14 ?z15 ?z16 ?z17 ?z18 ?z19
  (case a0=>k_is)
  (case l0=>k_is)
  (case c0=>k_is)
  (case k0=>k_is)
  (case a1=>k_is)
  (case l1=>k_is)
  (case c1=>k_is)
  (case k1=>k_is)
  (case a2=>k_is)
  (case l2=>k_is)
  (case c2=>k_is)
  (case k2=>k_is)
  (case a3=>k_is)
  (case l3=>k_is)
  (case c3=>k_is)
  (case k3=>k_is)
  (case a4=>k_is)
  (case l4=>k_is)
  (case c4=>k_is)
  (case k4=>k_is)
  (case a5=>k_is)
  (case l5=>k_is)
  (case c5=>k_is)
  (case k5=>k_is)
  (case a6=>k_is)
  (case l6=>k_is)
  (case c6=>k_is)
  (case k6=>k_is)
  (case a7=>k_is)
  (case l7=>k_is)
  (case c7=>k_is)
  (case k7=>k_is)
  (case a8=>k_is)
  (case l8=>k_is)
  (case c8=>k_is)
  (case k8=>k_is)
  (case a9=>k_is)
  (case l9=>k_is)
  (case c9=>k_is)
  (case k9=>k_is)
  (case a10=>k_is)
  (case l10=>k_is)
  (case c10=>k_is)
  (case k10=>k_is)
  (case a11=>k_is)
  (case l11=>k_is)
  (case c11=>k_is)
  (case k11=>k_is)
  (case a12=>k_is)
  (case l12=>k_is)
  (case c12=>k_is)
  (case k12=>k_is)
  (case a13=>k_is)
  (case l13=>k_is)
  (case c13=>k_is)
  (case k13=>k_is)
  (case a14=>k_is)
  (case l14=>k_is)
  (case c14=>k_is)
  (case k14=>k_is)
  (case a15=>k_is)
  (case l15=>k_is)
  (case c15=>k_is)
  (case k15=>k_is)
  (case a16=>k_is)
  (case l16=>k_is)
  (case c16=>k_is)
  (case k16=>k_is)
  (case a17=>k_is)
  (case l17=>k_is)
  (case c17=>k_is)
  (case k17=>k_is)
  (case a18=>k_is)
  (case l18=>k_is)
  (case c18=>k_is)
  (case k18=>k_is)
  (case a19=>k_is)
  (case l19=>k_is)
  (case c19=>k_is)
  (case k19=>k_is)
  (case a20=>k_is)
  (case l20=>k_is)
  (case c20=>k_is)
  (case k20=>k_is)
  (case a21=>k_is)
  (case l21=>k_is)
  (case c21=>k_is)
  (case k21=>k_is)
  (case a22=>k_is)
  (case l22=>k_is)
  (case c22=>k_is)
  (case k22=>k_is)
  (case a23=>k_is)
  (case l23=>k_is)
  (case c23=>k_is)
  (case k23=>k_is)
  (case a24=>k_is)
  (case l24=>k_is)
  (case c24=>k_is)
  (case k24=>k_is)
  (case a25=>k_is)
  (case l25=>k_is)
  (case c25=>k_is)
  (case k25=>k_is)
  (case a26=>k_is)
  (case l26=>k_is)
  (case c26=>k_is)
  (case k26=>k_is)
  (case a27=>k_is)
  (case l27=>k_is)
  (case c27=>k_is)
  (case k27=>k_is)
  (case a28=>k_is)
  (case l28=>k_is)
  (case c28=>k_is)
  (case k28=>k_is)
  (case z0=>k_is)
  (case z1=>k_is)
  (case z2=>k_is)
  (case z3=>k_is)
  (case z4=>k_is)
  (case z5=>k_is)
  (case z6=>k_is)
  (case z7=>k_is)
  (case z8=>k_is)
  (case z9=>k_is)
  (case z10=>k_is)
  (case z11=>k_is)
  (case z12=>k_is)
  (case z13=>k_is)
  (case z14=>k_is)
  (case z15=>k_is)
  (case z16=>k_is)
  (case z17=>k_is)
  (case z18=>k_is)
  (case z19=>k_is)
