import PyProof.Rows.All
import Wide.All
import OpenK.AllK
import Wide.FinOn
import Lean
import PyProof.EqAt
import PyProof.EqKinds
import PyProof.TupleCall
import KE.KSortTup
import PyProof.Rows.SortWalk
import PyProof.Rows.SetFrom
import PyProof.CollectIter
import PyProof.SeqI3
import PyProof.EnumFor
import PyProof.EnumMake
import PyProof.ZipIter
import PyProof.WalkInts
import PyProof.Rows.SumAny
import KE.KUnpackStar
import KE.KRevIter
import PyProof.Rows.Range3
import PyProof.Rows.RuleM_int
import PySem.Challenge.RW_halveline_k75_orders_of_cuts
set_option Elab.async false
set_option linter.all false
set_option maxRecDepth 100000
noncomputable section
section
open PySem PySem.Spec PyProof.Rows
theorem qb:type_of% @wpAny_bind:=@wpAny_bind
theorem qc:type_of% @Heap.get?_push_of_some:=@Heap.get?_push_of_some
theorem qe:type_of% @wpAny_pure:=@wpAny_pure
theorem qf:type_of% @wpS_bind:=@wpS_bind
theorem qg:type_of% @List.mem_cons_of_mem:=@List.mem_cons_of_mem
theorem qi:type_of% @Heap.lt_size:=@Heap.lt_size
theorem qj:type_of% @Nat.le_refl:=@Nat.le_refl
theorem qk:type_of% @Array.getElem?_toList:=@Array.getElem?_toList
theorem ql:type_of% @List.mem_cons_self:=@List.mem_cons_self
theorem qm:type_of% @decide_eq_true:=@decide_eq_true
theorem qo:type_of% @wpS_pure:=@wpS_pure
theorem qp:type_of% @List.getElem?_eq_some_iff:=@List.getElem?_eq_some_iff
theorem qq:type_of% @List.append_assoc:=@List.append_assoc
theorem qx:type_of% @Nat.mod_eq_of_lt:=@Nat.mod_eq_of_lt
theorem qy:type_of% @of_decide_eq_true:=@of_decide_eq_true
theorem qz:type_of% @Nat.ne_of_lt:=@Nat.ne_of_lt
theorem qC:type_of% @Heap.get?_push_size:=@Heap.get?_push_size
theorem qD:type_of% @List.take_append_drop:=@List.take_append_drop
theorem qE:type_of% @List.mem_singleton:=@List.mem_singleton
theorem qF:type_of% @Nat.le_trans:=@Nat.le_trans
theorem qG:type_of% @List.mem_map:=@List.mem_map
theorem qI:type_of% @List.mem_append_right:=@List.mem_append_right
theorem qJ:type_of% @Nat.lt_of_lt_of_le:=@Nat.lt_of_lt_of_le
theorem qK:type_of% @List.getD_eq_getElem?_getD:=@List.getD_eq_getElem?_getD
theorem qL:type_of% @List.pairwise_append:=@List.pairwise_append
theorem qM:type_of% @List.pairwise_iff_getElem:=@List.pairwise_iff_getElem
theorem qT:type_of% @List.getElem?_append_right:=@List.getElem?_append_right
theorem qU:type_of% @List.getElem_mem:=@List.getElem_mem
theorem qV:type_of% @List.getElem?_append_left:=@List.getElem?_append_left
theorem qX:type_of% @List.getElem?_of_mem:=@List.getElem?_of_mem
theorem qZ:type_of% @Nat.zero_le:=@Nat.zero_le
theorem yb:type_of% @List.length_take:=@List.length_take
theorem ye:type_of% @Array.getElem?_eq_none:=@Array.getElem?_eq_none
theorem yg:type_of% @wpS_forRange:=@wpS_forRange
theorem yh:type_of% @List.take_length:=@List.take_length
theorem yi:type_of% @List.length_drop:=@List.length_drop
theorem yn:type_of% @List.mem_of_mem_take:=@List.mem_of_mem_take
theorem yp:type_of% @Nat.mod_lt:=@Nat.mod_lt
theorem yq:type_of% @wpAny_holding:=@wpAny_holding
theorem yt:type_of% @List.length_pos_iff:=@List.length_pos_iff
theorem yv:type_of% @List.length_range:=@List.length_range
theorem yB:type_of% @decide_eq_false:=@decide_eq_false
theorem yD:type_of% @Nat.lt_of_le_of_lt:=@Nat.lt_of_le_of_lt
theorem yE:type_of% @List.mem_append_left:=@List.mem_append_left
theorem yG:type_of% @Nat.mod_self:=@Nat.mod_self
theorem yH:type_of% @Nat.le_of_lt:=@Nat.le_of_lt
theorem yI:type_of% @Array.perm_iff_toList_perm:=@Array.perm_iff_toList_perm
theorem yK:type_of% @Heap.get?_update_other:=@Heap.get?_update_other
theorem yM:type_of% @Int.mul_pos:=@Int.mul_pos
theorem yS:type_of% @wpAny_mono:=@wpAny_mono
theorem yT:type_of% @Int.lt_or_gt_of_ne:=@Int.lt_or_gt_of_ne
theorem yV:type_of% @List.mem_of_mem_drop:=@List.mem_of_mem_drop
theorem y3:type_of% @wpAny_setState_of:=@wpAny_setState_of
theorem ja:type_of% @List.sum_append:=@List.sum_append
theorem jb:type_of% @List.range_succ:=@List.range_succ
theorem jc:type_of% @wpS_mono:=@wpS_mono
theorem jk:type_of% @Int.sign_eq_neg_one_of_neg:=@Int.sign_eq_neg_one_of_neg
theorem jo:type_of% @Nat.lt_irrefl:=@Nat.lt_irrefl
theorem jp:type_of% @Heap.get?_update_self:=@Heap.get?_update_self
theorem jv:type_of% @Int.natAbs_mul:=@Int.natAbs_mul
theorem jw:type_of% @Array.getElem?_eq_getElem:=@Array.getElem?_eq_getElem
theorem jy:type_of% @List.mem_iff_getElem:=@List.mem_iff_getElem
theorem jz:type_of% @wpS_modify:=@wpS_modify
theorem jA:type_of% @List.mem_filter:=@List.mem_filter
theorem jM:type_of% @Nat.lt_or_ge:=@Nat.lt_or_ge
theorem jN:type_of% @List.mem_map_of_mem:=@List.mem_map_of_mem
theorem jU:type_of% @Int.mul_nonneg:=@Int.mul_nonneg
theorem j8:type_of% @Int.sign_eq_one_of_pos:=@Int.sign_eq_one_of_pos
end
namespace L2
theorem lenIs1 {α:Type}{us:List α}{n:Nat}(h:us.length=n) (e:n=1):∃ a0,us=[a0]:=by
  subst e
  cases us with
  | nil=>simp at h
  | cons a0 us =>
    cases us with
    | nil=>exact ⟨_,rfl⟩
    | cons a b=>simp at h
theorem lenIs2 {α:Type}{us:List α}{n:Nat}(h:us.length=n) (e:n=2):∃ a0 a1,us=[a0,a1]:=by
  subst e
  cases us with
  | nil=>simp at h
  | cons a0 us =>
    cases us with
    | nil=>simp at h
    | cons a1 us =>
      cases us with
      | nil=>exact ⟨_,_,rfl⟩
      | cons a b=>simp at h
theorem lenIs3 {α:Type}{us:List α}{n:Nat}(h:us.length=n) (e:n=3):∃ a0 a1 a2,us=[a0,a1,a2]:=by
  subst e
  cases us with
  | nil=>simp at h
  | cons a0 us =>
    cases us with
    | nil=>simp at h
    | cons a1 us =>
      cases us with
      | nil=>simp at h
      | cons a2 us =>
        cases us with
        | nil=>exact ⟨_,_,_,rfl⟩
        | cons a b=>simp at h
theorem lenIs4 {α:Type}{us:List α}{n:Nat}(h:us.length=n) (e:n=4):∃ a0 a1 a2 a3,us=[a0,a1,a2,a3]:=by
  subst e
  cases us with
  | nil=>simp at h
  | cons a0 us =>
    cases us with
    | nil=>simp at h
    | cons a1 us =>
      cases us with
      | nil=>simp at h
      | cons a2 us =>
        cases us with
        | nil=>simp at h
        | cons a3 us =>
          cases us with
          | nil=>exact ⟨_,_,_,_,rfl⟩
          | cons a b=>simp at h
theorem lenIs5 {α:Type}{us:List α}{n:Nat}(h:us.length=n) (e:n=5):∃ a0 a1 a2 a3 a4,us=[a0,a1,a2,a3,a4]:=by
  subst e
  cases us with
  | nil=>simp at h
  | cons a0 us =>
    cases us with
    | nil=>simp at h
    | cons a1 us =>
      cases us with
      | nil=>simp at h
      | cons a2 us =>
        cases us with
        | nil=>simp at h
        | cons a3 us =>
          cases us with
          | nil=>simp at h
          | cons a4 us =>
            cases us with
            | nil=>exact ⟨_,_,_,_,_,rfl⟩
            | cons a b=>simp at h
open PySem PySem.Spec PyProof.Rows
abbrev Key:=Sum Int Str
def qkZ:Key->Value->Bool
  | .inl k,v=>Value.isInt k v
  | .inr x,v=>Value.isStrOf x v
def keyH (w:World):Key->Int
  | .inl k=>hashInt k
  | .inr x=>hashStr w x
theorem yJ:∀ {k:Key}{v:Value},qkZ k v=true->(∃ i t,k=Sum.inl i/\v=Value.int i t)\/(∃ x t,k=Sum.inr x/\v=Value.str x t)
  | .inl i,v,h=>by
    obtain ⟨t,e⟩:=Value.isInt_shape (k:=i) (v:=v) h
    exact .inl ⟨i,t,rfl,e⟩
  | .inr x,v,h=>by
    obtain ⟨t,e⟩:=Value.isStrOf_shape (x:=x) (v:=v) h
    exact .inr ⟨x,t,rfl,e⟩
theorem qkY (a b:Int):decide ((Sum.inl a:Key)=Sum.inl b)=(a == b):=by
  by_cases e:a=b
  · subst e;simp
  · have h:¬ (Sum.inl a:Key)=Sum.inl b:=fun q=>e (Sum.inl.inj q)
    rw [yB h]
    exact (beq_eq_false_iff_ne.mpr e).symm
theorem qkV (a b:Str):decide ((Sum.inr a:Key)=Sum.inr b)=decide (a=b):=by
  by_cases e:a=b
  · subst e;simp
  · have h:¬ (Sum.inr a:Key)=Sum.inr b:=fun q=>e (Sum.inr.inj q)
    rw [yB h,yB e]
theorem qkX (a:Int) (b:Str):decide ((Sum.inl a:Key)=Sum.inr b)=false:=yB (fun q=>nomatch q)
theorem qkW (a:Str) (b:Int):decide ((Sum.inr a:Key)=Sum.inl b)=false:=yB (fun q=>nomatch q)
def qdP (prog:Program) (w:World):PySem.KeyKind prog w Key where
  is:=qkZ
  hash:=keyH w
  inj:=fun v a b ha hb=>by
    rcases yJ ha with ⟨i,t,rfl,rfl⟩ | ⟨x,t,rfl,rfl⟩
    · rcases yJ hb with ⟨j,u,rfl,e⟩ | ⟨y,u,rfl,e⟩
      · injection e with e1 _;rw [e1]
      · exact nomatch e
    · rcases yJ hb with ⟨j,u,rfl,e⟩ | ⟨y,u,rfl,e⟩
      · exact nomatch e
      · injection e with e1 _;rw [e1]
  byValue:=fun k v h=>by
    rcases yJ h with ⟨i,t,rfl,rfl⟩ | ⟨x,t,rfl,rfl⟩ <;> rfl
  pyHash:=fun hv h=>by
    rcases yJ hv with ⟨i,t,rfl,rfl⟩ | ⟨x,t,rfl,rfl⟩
    · exact wpAny_pyHash_int h
    · exact wpAny_pyHash_str h
  eqBool:=fun hu hv h=>by
    rcases yJ hu with ⟨i,t,rfl,rfl⟩ | ⟨x,t,rfl,rfl⟩
    · rcases yJ hv with ⟨j,u,rfl,rfl⟩ | ⟨y,u,rfl,rfl⟩
      · rw [qkY] at h;exact wpAny_eqBool_int h
      · rw [qkX] at h;exact SeqAt.EqAt.int_str i t y u _ _ _ _ h
    · rcases yJ hv with ⟨j,u,rfl,rfl⟩ | ⟨y,u,rfl,rfl⟩
      · rw [qkW] at h;exact SeqAt.EqAt.str_int x t j u _ _ _ _ h
      · rw [qkV] at h;exact wpAny_eqBool_str h
  «strs»:=fun k x t v h=>by
    rcases yJ h with ⟨i,u,rfl,e⟩ | ⟨y,u,rfl,e⟩
    · exact nomatch e
    · injection e with e1 _
      subst e1
      cases v <;> rfl
inductive V where
  | non | bl (b:Bool) | int (i:Int) | str (x:Str) | byt (b:Array UInt8) | flt (b:UInt64) | ref (a:Addr) | ty (n:String)
  deriving DecidableEq
def jL:V->Value->Prop
  | .non,u=>u=Value.none
  | .bl b,u=>u=Value.bool b
  | .int i,u=>∃ t,u=Value.int i t
  | .str x,u=>∃ t,u=Value.str x t
  | .byt b,u=>∃ t,u=Value.bytes b t
  | .flt b,u=>∃ t,u=Value.float b t
  | .ref a,u=>u=Value.ref a
  | .ty n,u=>u=Value.type n
abbrev yz:List V->List Value->Prop:=Paired jL
theorem yz.length {xs:List V}{us:List Value}(r:yz xs us):xs.length=us.length:=Paired.length r
theorem yz.get:∀ {xs:List V}{us:List Value}{i:Nat}{x:V},yz xs us->xs[i]?=some x->∃ u,us[i]?=some u/\jL x u
  | _,_,_,_,.nil,e=>by simp at e
  | _,_,0,_,.cons r _,e=>by simp at e;subst e;exact ⟨_,rfl,r⟩
  | _,_,i+1,x,.cons _ t,e=>by
    obtain ⟨u,h1,h2⟩:=yz.get (i:=i) (x:=x) t (by simpa using e)
    exact ⟨u,by simpa using h1,h2⟩
theorem yz.set {x:V}{u:Value}(r:jL x u):∀ {xs:List V}{us:List Value}(i:Nat),yz xs us->yz (xs.set i x) (us.set i u)
  | _,_,_,.nil=>.nil
  | _,_,0,.cons _ t=>.cons r t
  | _,_,i+1,.cons q t=>.cons q (yz.set r i t)
theorem yz.append:∀ {xs ys:List V}{us ws:List Value},yz xs us->yz ys ws->yz (xs++ys) (us++ws)
  | _,_,_,_,.nil,s=>s
  | _,_,_,_,.cons r t,s=>.cons r (yz.append t s)
theorem yz.take:∀ {xs:List V}{us:List Value}(n:Nat),yz xs us->yz (xs.take n) (us.take n)
  | _,_,0,_=>.nil
  | _,_,_+1,.nil=>.nil
  | _,_,n+1,.cons r t=>.cons r (yz.take n t)
theorem yz.drop:∀ {xs:List V}{us:List Value}(n:Nat),yz xs us->yz (xs.drop n) (us.drop n)
  | _,_,0,r=>r
  | _,_,_+1,.nil=>.nil
  | _,_,n+1,.cons _ t=>yz.drop n t
def RelO:Option V->Option Value->Prop
  | some v,some u=>jL v u
  | none,none=>True
  | _,_=>False
def KV {κ:Type}:List (κ×V)->List (κ×Value)->Prop:=Paired fun (p:κ×V) (q:κ×Value)=>p.1=q.1/\jL p.2 q.2
def kV:Key->V
  | .inl i=>.int i
  | .inr x=>.str x
inductive HO where
    | lst (xs:List V)
    | tup (xs:List V)
    | dK (kvs:List (Key×V)) | dT (kvs:List (List Key×V))
    | set (S:Int->Bool) (n:Nat)
    | ins (C dx:Addr) (fs:List (Str×V))
    | own (x:Addr)
    | xd (fs:List (Str×V))
    | met (f x:Addr)
    | rng (lo hi:Int)
    | frz (o:Obj) (u:HO)
    | tbl (ps:Array Value)
    | ext (φ:Heap->Prop)
abbrev Hp:=Addr->Option HO
def upd (H:Hp) (a:Addr) (o:HO):Hp:=fun b=>if b=a then some o else H b
theorem yf {H:Hp}{a:Addr}{o:HO}:upd H a o a=some o:=by unfold upd;rw [if_pos rfl]
theorem ya {H:Hp}{a b:Addr}{o:HO}(h:b≠a):upd H a o b=H b:=by unfold upd;rw [if_neg h]
theorem qkQ {H:Hp}{a b:Addr}{o u:HO}(h:H a=some o) (h':H b=some u) (d:o≠u):a≠b:=by
  intro e;subst e;rw [h] at h';exact d (Option.some.inj h')
theorem q9 {H:Hp}{a b:Addr}{o:HO}(h:H a=some o) (h':H b=none):a≠b:=by
  intro e;subst e;rw [h] at h';cases h'
section
variable (P:Program) (w:World)
def jT (H:Hp) (h:Heap) (a:Addr):HO->Prop
  | .lst xs=>xs.length<=sizeLine/\∃ (its:List Value) (n:Nat),yz xs its/\h.get? a=some { cls:=.type "list",data:=.seq its.toArray n }
  | .tup xs=>xs.length<=sizeLine/\∃ its:List Value,yz xs its/\IsTup h a its.toArray
  | .dK kvs=>kvs.length<=sizeLine/\(a == sysModules)=false/\∃ vs,KV kvs vs/\h.DictOf (qdP P w) a vs
  | .dT kvs=>kvs.length<=sizeLine/\(a == sysModules)=false/\∃ xs:List (List Key×Addr×Value),
      Paired (fun (p:List Key×V) (q:List Key×Addr×Value)=>p.1=q.1/\H q.2.1=some (.tup (p.1.map kV))/\jL p.2 q.2.2) kvs xs ∧
      ∃ o es ep,h.get? a=some o/\o.ExactDict/\o.data = .dict es ep/\es.toList=xs.map (entryOfKey (tupleKind (qdP P w)))/\(xs.map (·.1)).Nodup
  | .set S n=>h.SetOf (intKind P w) a S n
  | .ins C dx fs=>H dx=some (.own a)/\fs.length<=1000/\dx≠a/\h.get? a=some (W.instObj C dx) ∧
      ∃ mA,h.Ns1 dx mA/\(∀ f,RelO (fs.lookup f) (mA f))/\PySem.Within mA (fs.map (·.1))
  | .own _=>∃ o,h.get? a=some o
  | .xd fs=>∃ mA,h.Ns1 a mA/\∀ f,RelO (fs.lookup f) (mA f)
  | .rng lo hi=>∃ t u v,h.get? a=some { cls:=.type "range",data:=.fields #[.int lo t,.int hi u,.int 1 v] }
  | .frz o u=>h.get? a=some o/\jT H h a u
  | .tbl ps=>h.get? a=some { cls:=.none,data:=.fields ps }
  | .met f x=>h.get? a=some (W.methodObj (.ref f) (.ref x))
  | .ext φ=>φ h/\(∃ o,h.get? a=some o)/\∀ h1 h2:Heap,φ h1->(∀ o,h1.get? a=some o->h2.get? a=some o)->φ h2
def HOk (H:Hp) (h:Heap):Prop:=∀ a o,H a=some o->jT P w H h a o
end
section
variable {P:Program}{w:World}{H H':Hp}{h h':Heap}{a:Addr}{o:HO}
theorem jT.lt (x:jT P w H h a o):a<h.objs.size:=by
  cases o with
  | lst xs=>obtain ⟨_,_,_,_,e⟩:=x;exact qi e
  | tup xs=>obtain ⟨_,_,_,p⟩:=x;exact p.lt
  | dK kvs=>obtain ⟨_,_,_,_,o,_,_,e,_⟩:=x;exact qi e
  | dT kvs=>obtain ⟨_,_,_,_,o,_,_,e,_⟩:=x;exact qi e
  | set S n=>obtain ⟨o,_,_,_,e,_⟩:=x;exact qi e
  | ins C dx fs=>obtain ⟨_,_,_,e,_⟩:=x;exact qi e
  | own y=>obtain ⟨_,e⟩:=x;exact qi e
  | xd fs=>obtain ⟨_,⟨_,_,_,e,_⟩,_⟩:=x;exact qi e
  | rng lo hi=>obtain ⟨_,_,_,e⟩:=x;exact qi e
  | frz ob u=>obtain ⟨e,_⟩:=x;exact qi e
  | tbl ps=>exact qi (show h.get? a=some _ from x)
  | met f y=>exact qi (show h.get? a=some _ from x)
  | ext φ=>obtain ⟨_,⟨_,e⟩,_⟩:=x;exact qi e
theorem Paired.mapP {α β:Type}{F G:α->β->Prop}:∀ {l₁:List α}{l₂:List β},Paired F l₁ l₂->(∀ a b,F a b->G a b)->Paired G l₁ l₂
  | _,_,.nil,_=>.nil
  | _,_,.cons r t,f=>.cons (f _ _ r) (Paired.mapP t f)
theorem jT.stay (x:jT P w H h a o) (k:∀ b u,(b=a\/H b=some (.own a))->h.get? b=some u->h'.get? b=some u)
    (ho:∀ b,H b=some (.own a)->H' b=some (.own a)) (ht:∀ b xs,H b=some (.tup xs)->H' b=some (.tup xs)):jT P w H' h' a o:=by
  induction o with
  | lst xs=>obtain ⟨z,its,n,r,e⟩:=x;exact ⟨z,its,n,r,k _ _ (.inl rfl) e⟩
  | tup xs=>obtain ⟨z,its,r,ob,e,c⟩:=x;exact ⟨z,its,r,ob,k _ _ (.inl rfl) e,c⟩
  | dK kvs=>obtain ⟨z,y,vs,r,ob,es,ep,e,c⟩:=x;exact ⟨z,y,vs,r,ob,es,ep,k _ _ (.inl rfl) e,c⟩
  | dT kvs =>
    obtain ⟨z,y,xs,r,ob,es,ep,e,c⟩:=x
    exact ⟨z,y,xs,Paired.mapP r fun p q z=>⟨z.1,ht _ _ z.2.1,z.2.2⟩,ob,es,ep,k _ _ (.inl rfl) e,c⟩
  | set S n=>obtain ⟨ob,es,ep,t,e,c⟩:=x;exact ⟨ob,es,ep,t,k _ _ (.inl rfl) e,c⟩
  | ins C dx fs =>
    obtain ⟨d,z,ne,e,mA,⟨od,es,ep,e2,c⟩,r⟩:=x
    exact ⟨ho _ d,z,ne,k _ _ (.inl rfl) e,mA,⟨od,es,ep,k _ _ (.inr d) e2,c⟩,r⟩
  | own y=>obtain ⟨ob,e⟩:=x;exact ⟨ob,k _ _ (.inl rfl) e⟩
  | xd fs=>obtain ⟨mA,⟨od,es,ep,e,c⟩,r⟩:=x;exact ⟨mA,⟨od,es,ep,k _ _ (.inl rfl) e,c⟩,r⟩
  | rng lo hi=>obtain ⟨t,u,v,e⟩:=x;exact ⟨t,u,v,k _ _ (.inl rfl) e⟩
  | frz ob u ih=>obtain ⟨e,q⟩:=x;exact ⟨k _ _ (.inl rfl) e,ih q⟩
  | tbl ps =>
    have e:h.get? a=some { cls:=.none,data:=.fields ps }:=x
    show h'.get? a=some { cls:=.none,data:=.fields ps }
    exact k a _ (.inl rfl) e
  | met f y =>
    have e:h.get? a=some (W.methodObj (.ref f) (.ref y)):=x
    show h'.get? a=some (W.methodObj (.ref f) (.ref y))
    exact k a _ (.inl rfl) e
  | ext φ=>obtain ⟨p,⟨o,e⟩,st⟩:=x;exact ⟨st _ _ p fun o q=>k _ _ (.inl rfl) q,⟨o,k _ _ (.inl rfl) e⟩,st⟩
theorem HOk.lt (x:HOk P w H h) (e:H a=some o):a<h.objs.size:=(x a o e).lt
theorem HOk.fresh (x:HOk P w H h) (e:h.objs.size<=a):H a=none:=by
  cases q:H a with
  | none=>rfl
  | some u=>exact absurd (qJ (x.lt q) e) (jo _)
theorem HOk.kept (x:HOk P w H h) (k:∀ b u,h.get? b=some u->h'.get? b=some u):HOk P w H h':=fun a o e =>
  (x a o e).stay (fun b u _ q=>k b u q) (fun _ q=>q) fun _ _ q=>q
theorem HOk.laid (x:HOk P w H h) (k:∀ b u,h.get? b=some u->h'.get? b=some u) (hp:h.objs.size<=a) (new:jT P w (upd H a o) h' a o):HOk P w (upd H a o) h':=fun b u e=>by
  have hn:=x.fresh hp
  by_cases hb:b=a
  · subst hb;rw [yf] at e;cases e;exact new
  · rw [ya hb] at e
    exact (x b u e).stay (fun c v _ q=>k c v q) (fun c q=>by rw [ya (q9 q hn)];exact q) fun c xs q=>by rw [ya (q9 q hn)];exact q
end
def Rd (H:Hp) (a:Addr) (u:HO):Prop:=H a=some u\/∃ o,H a=some (.frz o u)
theorem Rd.of {H:Hp}{a:Addr}{u:HO}(h:H a=some u):Rd H a u:=.inl h
theorem Rd.ok {P:Program}{w:World}{H:Hp}{h:Heap}{a:Addr}{u:HO}(r:Rd H a u) (x:HOk P w H h):jT P w H h a u:=by
  rcases r with r | ⟨o,r⟩
  · exact x a u r
  · obtain ⟨_,q⟩:=x a _ r
    exact q
def Mut:Option HO->Prop
  | some (.lst _)=>True
  | some (.dK _)=>True
  | some (.dT _)=>True
  | some (.set _ _)=>True
  | some (.ins _ _ _)=>True
  | some (.ext _)=>True
  | _=>False
section
variable {P:Program}{w:World}{H:Hp}{h h':Heap}{x e:Addr}{o':HO}
theorem HOk.write (ok:HOk P w H h) (mu:Mut (H x)) (he:e=x\/H e=some (.own x)) (k:∀ b u,b≠e->h.get? b=some u->h'.get? b=some u) (heo:∃ u,h'.get? e=some u)
    (new:jT P w (upd H x o') h' x o'):HOk P w (upd H x o') h':=fun b u q=>by
  have nown:∀ c y,H c=some (.own y)->c≠x:=fun c y r z=>by subst z;rw [r] at mu;exact mu
  have ntup:∀ c xs,H c=some (.tup xs)->c≠x:=fun c xs r z=>by subst z;rw [r] at mu;exact mu
  by_cases hb:b=x
  · subst hb;rw [yf] at q;cases q;exact new
  · rw [ya hb] at q
    by_cases hbe:b=e
    · have q':H b=some (.own x):=by
        rcases he with z | z
        · exact absurd (hbe.trans z) hb
        · rw [hbe];exact z
      rw [q] at q';cases q'
      obtain ⟨v,hv⟩:=heo
      exact ⟨v,by rw [hbe];exact hv⟩
    · refine (ok b u q).stay (fun c v hc r=>k c v ?_ r) (fun c r=>by rw [ya (nown c b r)];exact r) fun c xs r=>by rw [ya (ntup c xs r)];exact r
      rcases hc with rfl | hc
      · exact hbe
      · rintro rfl
        rcases he with z | z
        · exact nown c b hc z
        · rw [hc] at z;cases z;exact hb rfl
end
structure Un (fs ex:List Addr) (H H':Hp) (h h':Heap):Prop where
  keep:∀ b o,h.get? b=some o->H b=none->b∉fs->b∉ex->h'.get? b=some o
  slot:∀ b o,h.get? b=some o->H b=none->b∈fs->b∉ex->∃ sl,h'.get? b=some { o with slots:=sl }
  free:∀ b o,h.get? b=some o->H b=none->b∉ex->H' b=none
  there:∀ b o,h.get? b=some o->b∉ex->∃ o',h'.get? b=some o'
  tups:∀ b xs,H b=some (.tup xs)->H' b=some (.tup xs)
  frzs:∀ b o u,H b=some (.frz o u)->H' b=some (.frz o u)
  tbls:∀ b ps,H b=some (.tbl ps)->∃ more,H' b=some (.tbl (ps++more))
section
variable {fs fs' ex ex':List Addr}{H H1 H2:Hp}{h h1 h2 h':Heap}{a x e:Addr}{o:HO}
theorem Un.any (u:Un fs ex H H1 h h1) {b:Addr}{ob:Obj}(q:h.get? b=some ob) (n:H b=none) (hx:b∉ex):∃ sl,h1.get? b=some { ob with slots:=sl }:=by
  by_cases hb:b∈fs
  · exact u.slot b ob q n hb hx
  · exact ⟨ob.slots,u.keep b ob q n hb hx⟩
theorem Un.trans (a:Un fs ex H H1 h h1) (b:Un fs ex H1 H2 h1 h2):Un fs ex H H2 h h2 where
  keep:=fun c ob q n hc hx=>b.keep c ob (a.keep c ob q n hc hx) (a.free c ob q n hx) hc hx
  slot:=fun c ob q n hc hx=>by
    obtain ⟨sl,e1⟩:=a.slot c ob q n hc hx
    obtain ⟨sl',e2⟩:=b.slot c _ e1 (a.free c ob q n hx) hc hx
    exact ⟨sl',e2⟩
  free:=fun c ob q n hx=>by
    obtain ⟨o',e1⟩:=a.there c ob q hx
    exact b.free c o' e1 (a.free c ob q n hx) hx
  there:=fun c ob q hx=>by
    obtain ⟨o',e1⟩:=a.there c ob q hx
    exact b.there c o' e1 hx
  tups:=fun c xs q=>b.tups c xs (a.tups c xs q)
  frzs:=fun c ob xs q=>b.frzs c ob xs (a.frzs c ob xs q)
  tbls:=fun c ps q=>by
    obtain ⟨m1,e1⟩:=a.tbls c ps q
    obtain ⟨m2,e2⟩:=b.tbls c _ e1
    exact ⟨m1++m2,by rw [e2,Array.append_assoc]⟩
theorem Un.kept (k:∀ b u,h.get? b=some u->h'.get? b=some u):Un fs ex H H h h' :=
  ⟨fun b ob q _ _ _=>k b ob q,fun b ob q _ _ _=>⟨ob.slots,k b ob q⟩,fun _ _ _ n _=>n,fun b ob q _=>⟨ob,k b ob q⟩,fun _ _ q=>q,fun _ _ _ q=>q,fun _ ps q=>⟨#[],by rw [q];simp⟩⟩
theorem Un.refl:Un fs ex H H h h:=Un.kept fun _ _ q=>q
theorem Un.laid (k:∀ b u,h.get? b=some u->h'.get? b=some u) (hp:h.objs.size<=a) (hn:H a=none):Un fs ex H (upd H a o) h h' where
  keep:=fun b u q _ _ _=>k b u q
  slot:=fun b u q _ _ _=>⟨u.slots,k b u q⟩
  free:=fun b u q n _=>by rw [ya (qz (qJ (qi q) hp))];exact n
  there:=fun b u q _=>⟨u,k b u q⟩
  tups:=fun b xs q=>by rw [ya (q9 q hn)];exact q
  frzs:=fun b u xs q=>by rw [ya (q9 q hn)];exact q
  tbls:=fun b ps q=>⟨#[],by rw [ya (q9 q hn),q];simp⟩
theorem Un.write (mu:Mut (H x)) (he:e=x\/H e=some (.own x)) (k:∀ b u,b≠e->h.get? b=some u->h'.get? b=some u) (heo:∃ u,h'.get? e=some u):Un fs ex H (upd H x o) h h':=by
  have hx:∀ b,H b=none->b≠x:=fun b n z=>by subst z;rw [n] at mu;exact mu
  have hb:∀ b,H b=none->b≠e:=fun b n z=>by
    subst z
    rcases he with r | r
    · exact hx b n r
    · rw [n] at r;cases r
  have hm:∀ b u,H b=some u->¬ Mut (some u)->b≠x:=fun b u q nm z=>by subst z;rw [q] at mu;exact nm mu
  refine ⟨fun b u q n _ _=>k b u (hb b n) q,fun b u q n _ _=>⟨u.slots,k b u (hb b n) q⟩,fun b u q n _=>by rw [ya (hx b n)];exact n,fun b u q _=>?_,
    fun b xs q=>by rw [ya (hm b _ q fun z=>z)];exact q,fun b u xs q=>by rw [ya (hm b _ q fun z=>z)];exact q,fun b ps q=>⟨#[],by rw [ya (hm b _ q fun z=>z),q];simp⟩⟩
  by_cases hbe:b=e
  · subst hbe;exact heo
  · exact ⟨u,k b u hbe q⟩
theorem Un.mono (u:Un fs ex H H1 h h1) (hs:∀ b∈fs,b∈fs') (hx:∀ b∈ex,b∈ex'):Un fs' ex' H H1 h h1 :=
  ⟨fun b ob q n hb he=>u.keep b ob q n (fun z=>hb (hs b z)) fun z=>he (hx b z),fun _ _ q n _ he=>u.any q n fun z=>he (hx _ z),fun b ob q n he=>u.free b ob q n fun z=>he (hx b z),fun b ob q he=>u.there b ob q fun z=>he (hx b z),u.tups,u.frzs,u.tbls⟩
end
def trk (h:Heap) (H:Hp):List Addr:=(List.range h.objs.size).filter fun a=>(H a).isSome
def qfP (h:Heap) (H:Hp):Heap:=W.hideAll h (trk h H)
theorem qd7 (h:Heap) (H:Hp):(qfP h H).objs.size=h.objs.size:=W.hideAll_size _ _
theorem qfO {h:Heap}{H:Hp}{b:Addr}{o:Obj}(e:h.get? b=some o) (n:H b=none):(qfP h H).get? b=some o :=
  W.hideAll_get _ e fun hm=>by
    have q:(H b).isSome=true:=(jA.mp hm).2
    rw [n] at q;simp at q
theorem qiz {h:Heap}{H:Hp}{b:Addr}{o:Obj}(e:(qfP h H).get? b=some o):h.get? b=some o/\H b=none:=by
  have e':h.get? b=some o:=W.of_hideAll (trk h H) e
  refine ⟨e',?_⟩
  cases q:H b with
  | none=>rfl
  | some x =>
    have hm:b∈trk h H:=jA.mpr ⟨List.mem_range.mpr (qi e'),by simp [q]⟩
    have z:(qfP h H).get? b=none:=W.hideAll_none (trk h H) hm
    rw [z] at e;cases e
def qjg (g h:Heap) (L:Addr):List (Addr×Obj):=(List.range h.objs.size).filterMap fun a=>if a=L\/(g.get? a).isSome=true then none else (h.get? a).map fun o=>(a,o)
def y9 (g h:Heap) (L d:Addr):List (Addr×Obj):=(qjg g h L).filter fun p=>decide (p.1≠d)
structure Mod (K:W.Frag) (mg:Str->Option Value) (base:Heap):Prop where
  kin:K.In base
  glob:base.Ns mainGlobals mg
  blt:∃ mb,base.Ns builtinsNs mb/\∀ x:Str,x ≠ "__name__" -> mb x=bootBuiltins x
  nolimit:base.NoLimit
structure Cx where
  prog:Program
  w:World
  K:W.Frag
  mg:Str->Option Value
  base:Heap
  A:Around
  N:List Str
  s₀:Shared
  H₀:Hp
  env:Env
  outer:List Env
  stack:List Env
  ex:List Addr
  fn:Str->Bool
  calm:Bool
  pn:List (Addr×Obj)
  xe:Value->Shared->Prop
def frs (l:List Env):List Addr:=l.filterMap (·.frame)
abbrev Cx.fs (X:Cx):List Addr:=frs X.outer
def Vis (sc:Scope) (x:Str):Prop:=sc.names.lookup x=some .local\/sc.names.lookup x=some .cell\/sc.names.lookup x=some .free
def Loc (sc:Scope) (x:Str):Prop:=sc.names.lookup x=some .local\/sc.names.lookup x=some .cell
def Look (env:Env) (h:Heap) (m:Str->Option Value) (x:Str) (u:Value):Prop :=
  (env.kindOf x=some .local/\m x=some u)\/((env.kindOf x=some .cell\/env.kindOf x=some .free)/\∃ c,env.cells.lookup x=some c/\h.IsCell c (some u))
structure Cx.Ok (X:Cx):Prop where
  mod:Mod X.K X.mg X.base
  kind:X.env.scope.kind = .function
  glob:X.env.globals=mainGlobals
  blt:X.env.builtins=builtinsNs
  above:X.s₀.heap.objs.size<=X.env.locals
  inj:∀ x y c,X.env.cells.lookup x=some c->X.env.cells.lookup y=some c->x=y
  has:∀ x,(X.env.kindOf x=some .cell\/X.env.kindOf x=some .free)->∃ c,X.env.cells.lookup x=some c
  cab:∀ x c,X.fn x=true->X.env.cells.lookup x=some c->X.s₀.heap.objs.size<=c
  hd:X.calm=true->X.A.handled=none
  frames:X.A.frames=some X.stack
  stk:X.stack=X.outer\/(X.stack=X.env::X.outer/\X.env.frame=some X.env.locals)
  exf:∀ b∈X.ex,b≠X.env.locals/\∀ x c,X.env.cells.lookup x=some c->c≠b
  bs:∀ b o,X.base.get? b=some o->X.s₀.heap.get? b=some o/\X.H₀ b=none
  bsz:X.base.objs.size<=X.s₀.heap.objs.size
  noex:∀ b o,X.base.get? b=some o->b∉X.ex
  exfs:∀ b∈X.ex,b∉X.fs
  funs:X.s₀.heap.FunFrames X.base X.outer
  frf:∀ b∈X.fs,X.H₀ b=none
structure Inv (X:Cx) (pins:List (Addr×Obj)) (σ:List (Option V)) (H:Hp) (s:Shared):Prop where
  ok:X.Ok
  os:s.os=X.s₀.os
  bare:AllBare s.gens
  base:Un X.fs X.ex X.H₀ H X.s₀.heap s.heap
  loc:∃ m,s.heap.Ns X.env.locals m/\∀ (i:Nat) (x:Str) (v:V),X.N[i]?=some x->σ[i]?=some (some v)->Vis X.env.scope x->∃ u,jL v u/\Look X.env s.heap m x u
  cell:∀ x c,X.env.cells.lookup x=some c->∃ v,s.heap.IsCell c v
  free:H X.env.locals=none
  freeC:∀ x c,X.env.cells.lookup x=some c->H c=none
  pin:∀ p∈X.pn++pins,s.heap.get? p.1=some p.2/\H p.1=none/\p.1≠X.env.locals/\p.1∉X.fs/\∀ v,p.2.data≠.cell v
  hok:HOk X.prog X.w H s.heap
  len:σ.length=X.N.length
section
variable {X:Cx}{pins:List (Addr×Obj)}{σ:List (Option V)}{H H':Hp}{s:Shared}{h':Heap}
theorem Cx.Ok.nofr (ok:X.Ok) {b:Addr}{o:Obj}(e:X.base.get? b=some o):b∉X.fs:=fun hb=>by
  have:=(ok.funs.mem hb).1
  rw [e] at this;cases this
theorem Inv.bs (I:Inv X pins σ H s):∀ b o,X.base.get? b=some o->s.heap.get? b=some o/\H b=none:=fun b o e =>
  ⟨I.base.keep b o (I.ok.bs b o e).1 (I.ok.bs b o e).2 (I.ok.nofr e) (I.ok.noex b o e),I.base.free b o (I.ok.bs b o e).1 (I.ok.bs b o e).2 (I.ok.noex b o e)⟩
theorem Inv.bk (I:Inv X pins σ H s):∀ b o,X.base.get? b=some o->s.heap.get? b=some o:=fun b o e=>(I.bs b o e).1
theorem Inv.mod (I:Inv X pins σ H s):Mod X.K X.mg X.base:=I.ok.mod
theorem Inv.kIn (I:Inv X pins σ H s):X.K.In s.heap:=I.ok.mod.kin.keeps I.bk
theorem Inv.nolimit (I:Inv X pins σ H s):s.heap.NoLimit:=I.ok.mod.nolimit.keeps I.bk
theorem Inv.fr (I:Inv X pins σ H s):∃ m,Fr X.base X.env.locals s.heap m :=
  let ⟨m,hn,_⟩:=I.loc
  ⟨m,hn,I.bk,qF I.ok.bsz I.ok.above⟩
theorem Inv.lt (I:Inv X pins σ H s):X.env.locals<s.heap.objs.size:=let ⟨_,hn,_⟩:=I.loc;hn.lt
theorem Inv.sz (I:Inv X pins σ H s):X.s₀.heap.objs.size<=s.heap.objs.size:=qF I.ok.above (yH I.lt)
theorem Inv.nofs (I:Inv X pins σ H s) {a:Addr}(h:s.heap.objs.size<=a):a∉X.fs:=fun hb=>by
  obtain ⟨_,o,ho,_⟩:=I.ok.funs.mem hb
  exact absurd (qJ (qi ho) (qF I.sz h)) (jo _)
theorem Inv.cne (I:Inv X pins σ H s):∀ x c,X.env.cells.lookup x=some c->c≠X.env.locals:=fun x c e z=>by
  obtain ⟨v,o,ho,hd⟩:=I.cell x c e
  obtain ⟨m,⟨o',es,ep,ho',hd',_⟩,_⟩:=I.loc
  rw [z,ho'] at ho;cases ho;rw [hd'] at hd;cases hd
theorem Inv.funs (I:Inv X pins σ H s):s.heap.FunFrames X.base X.outer:=by
  have all:∀ (l:List Env),(∀ b∈frs l,b∈X.fs)->X.s₀.heap.FunFrames X.base l->s.heap.FunFrames X.base l:=by
    intro l
    induction l with
    | nil=>intro _ _;trivial
    | cons env r ih =>
      intro hs hl
      obtain ⟨hk,⟨L,o,hf,hn,ho,hd⟩,hr⟩:=hl
      have hL:L∈X.fs:=hs L (by unfold frs;rw [List.filterMap_cons,hf];exact ql)
      obtain ⟨sl,e⟩:=I.base.slot L o ho (I.ok.frf L hL) hL fun z=>I.ok.exfs L z hL
      exact ⟨hk,⟨L,_,hf,hn,e,hd⟩,ih (fun b hb=>hs b (by unfold frs;rw [List.filterMap_cons,hf];exact qg _ hb)) hr⟩
  exact all X.outer (fun _ hb=>hb) I.ok.funs
theorem Inv.stack (I:Inv X pins σ H s):s.heap.FunFrames X.base X.stack:=by
  rcases I.ok.stk with e | ⟨e,hf⟩
  · rw [e];exact I.funs
  · rw [e]
    obtain ⟨m,hn,_⟩:=I.loc
    refine .cons (by rw [I.ok.kind];decide) hf hn ?_ I.funs
    exact Heap.get?_none_of_le (qF I.ok.bsz I.ok.above)
theorem Inv.stkSub (I:Inv X pins σ H s):∀ b∈frs X.stack,b∈X.env.locals::X.fs:=fun b hb=>by
  rcases I.ok.stk with e | ⟨e,hf⟩
  · rw [e] at hb;exact qg _ hb
  · rw [e] at hb
    unfold frs at hb
    rw [List.filterMap_cons,hf] at hb
    exact hb
theorem Inv.stkFree (I:Inv X pins σ H s):∀ b∈frs X.stack,H b=none:=fun b hb=>by
  rcases List.mem_cons.mp (I.stkSub b hb) with e | hb
  · rw [e];exact I.free
  · obtain ⟨_,o,ho,_⟩:=I.ok.funs.mem hb
    exact I.base.free b o ho (I.ok.frf b hb) fun z=>I.ok.exfs b z hb
theorem Inv.step {g':Array GenState}{t':Nat}{d':Drawn}{ch:List Addr}(I:Inv X pins σ H s)
    (hch:∀ b∈ch,(b∈X.ex\/X.s₀.heap.objs.size<=b)/\b≠X.env.locals/\(∀ x c,X.env.cells.lookup x=some c->c≠b)/\∀ p∈X.pn++pins,p.1≠b)
    (keep:∀ b o,b≠X.env.locals->b∉X.fs->b∉ch->s.heap.get? b=some o->H b=none->h'.get? b=some o)
    (slot:∀ b o,b≠X.env.locals->b∈X.fs->b∉ch->s.heap.get? b=some o->H b=none->∃ sl,h'.get? b=some { o with slots:=sl }) (free:∀ b o,b∉ch->s.heap.get? b=some o->H b=none->H' b=none)
    (there:∀ b o,b∉ch->s.heap.get? b=some o->∃ o',h'.get? b=some o')
    (tups:∀ b xs,H b=some (.tup xs)->H' b=some (.tup xs)) (frzs:∀ b o u,H b=some (.frz o u)->H' b=some (.frz o u)) (tbls:∀ b ps,H b=some (.tbl ps)->∃ more,H' b=some (.tbl (ps++more)))
    (ns:∀ m,s.heap.Ns X.env.locals m->h'.Ns X.env.locals m) (hok:HOk X.prog X.w H' h') (hg:AllBare g') :
    Inv X pins σ H' { s with heap:=h',gens:=g',drawn:=d',toks:=t' }:=by
  have neL:∀ b o,X.s₀.heap.get? b=some o->b≠X.env.locals:=fun b o e=>qz (qJ (qi e) I.ok.above)
  have neC:∀ b o,X.s₀.heap.get? b=some o->b∉X.ex->b∉ch:=fun b o e hx hb=>by
    rcases (hch b hb).1 with z | z
    · exact hx z
    · exact absurd (qJ (qi e) z) (jo _)
  have cellK:∀ x c,X.env.cells.lookup x=some c->∀ v,s.heap.IsCell c v->h'.IsCell c v:=fun x c e v ⟨o,ho,hd⟩=>by
    have nch:c∉ch:=fun z=>(hch c z).2.2.1 x c e rfl
    by_cases hc:c∈X.fs
    · obtain ⟨sl,q⟩:=slot c o (I.cne x c e) hc nch ho (I.freeC x c e)
      exact ⟨_,q,hd⟩
    · exact ⟨o,keep c o (I.cne x c e) hc nch ho (I.freeC x c e),hd⟩
  refine ⟨I.ok,I.os,hg,⟨fun b o e n hb hx=>?_,fun b o e n hb hx=>?_,fun b o e n hx=>?_,fun b o e hx=>?_,fun b xs e=>tups b xs (I.base.tups b xs e),fun b o xs e=>frzs b o xs (I.base.frzs b o xs e),fun b ps e=>?_⟩,?_,fun x c e=>?_,?_,fun x c e=>?_,fun p hp=>?_,hok,I.len⟩
  · exact keep b o (neL b o e) hb (neC b o e hx) (I.base.keep b o e n hb hx) (I.base.free b o e n hx)
  · obtain ⟨sl,e1⟩:=I.base.slot b o e n hb hx
    obtain ⟨sl',e2⟩:=slot b _ (neL b o e) hb (neC b o e hx) e1 (I.base.free b o e n hx)
    exact ⟨sl',e2⟩
  · obtain ⟨o',e1⟩:=I.base.there b o e hx
    exact free b o' (neC b o e hx) e1 (I.base.free b o e n hx)
  · obtain ⟨o',e1⟩:=I.base.there b o e hx
    exact there b o' (neC b o e hx) e1
  · obtain ⟨m1,e1⟩:=I.base.tbls b ps e
    obtain ⟨m2,e2⟩:=tbls b _ e1
    exact ⟨m1++m2,by rw [e2,Array.append_assoc]⟩
  · obtain ⟨m,hn,hl⟩:=I.loc
    refine ⟨m,ns m hn,fun i x v e1 e2 e3=>?_⟩
    obtain ⟨u,r,l⟩:=hl i x v e1 e2 e3
    refine ⟨u,r,?_⟩
    rcases l with l | ⟨k,c,e,z⟩
    · exact .inl l
    · exact .inr ⟨k,c,e,cellK x c e _ z⟩
  · obtain ⟨v,z⟩:=I.cell x c e
    exact ⟨v,cellK x c e v z⟩
  · obtain ⟨m,⟨o,_,_,ho,_⟩,_⟩:=I.loc
    exact free _ o (fun z=>(hch _ z).2.1 rfl) ho I.free
  · obtain ⟨v,o,ho,hd⟩:=I.cell x c e
    exact free c o (fun z=>(hch c z).2.2.1 x c e rfl) ho (I.freeC x c e)
  · obtain ⟨e,n,ne,nf,d⟩:=I.pin p hp
    have nch:p.1∉ch:=fun z=>(hch p.1 z).2.2.2 p hp rfl
    exact ⟨keep p.1 p.2 ne nf nch e n,free p.1 p.2 nch e n,ne,nf,d⟩
theorem Inv.un {t':Nat}(I:Inv X pins σ H s) (u:Un X.fs [] H H' s.heap h') (hok:HOk X.prog X.w H' h'):Inv X pins σ H' { s with heap:=h',toks:=t' }:=by
  obtain ⟨m,⟨o,es,ep,ho,r⟩,_⟩:=id I.loc
  obtain ⟨sl,hL⟩:=u.any ho I.free (by simp)
  exact I.step (g':=s.gens) (d':=s.drawn) (ch:=[]) (fun _ z=>nomatch z) (fun b o _ hb _ e n=>u.keep b o e n hb (by simp)) (fun b o _ hb _ e n=>u.slot b o e n hb (by simp)) (fun b o _ e n=>u.free b o e n (by simp)) (fun b o _ e=>u.there b o e (by simp)) u.tups u.frzs u.tbls (fun m' hm=>by
    obtain ⟨o',es',ep',ho',r'⟩:=hm
    rw [ho] at ho';cases ho'
    exact ⟨_,es',ep',hL,r'⟩) hok I.bare
theorem Inv.call {g':Array GenState}{t':Nat}{d':Drawn}{ch:List Addr}(I:Inv X pins σ H s) (u:Un (frs X.stack) ch H H' s.heap h') (hok:HOk X.prog X.w H' h') (hg:AllBare g')
    (hch:∀ b∈ch,(b∈X.ex\/X.s₀.heap.objs.size<=b)/\b≠X.env.locals/\(∀ x c,X.env.cells.lookup x=some c->c≠b)/\∀ p∈X.pn++pins,p.1≠b) :
    Inv X pins σ H' { s with heap:=h',gens:=g',drawn:=d',toks:=t' }:=by
  obtain ⟨m,⟨o,es,ep,ho,r⟩,_⟩:=id I.loc
  obtain ⟨sl,hL⟩:=u.any ho I.free fun z=>(hch _ z).2.1 rfl
  exact I.step (ch:=ch) hch (fun b o hL hb hc e n=>u.keep b o e n (fun z=>(List.mem_cons.mp (I.stkSub b z)).elim hL hb) hc) (fun b o _ _ hc e n=>u.any e n hc) (fun b o hc e n=>u.free b o e n hc) (fun b o hc e=>u.there b o e hc) u.tups u.frzs u.tbls (fun m' hm=>by
    obtain ⟨o',es',ep',ho',r'⟩:=hm
    rw [ho] at ho';cases ho'
    exact ⟨_,es',ep',hL,r'⟩) hok hg
theorem Inv.turned {t':Nat}{it:Addr}(I:Inv X pins σ H s) (k:∀ b o,b≠it->s.heap.get? b=some o->h'.get? b=some o) (hn:H it=none) (hL:it≠X.env.locals)
    (h1:it∈X.ex\/X.s₀.heap.objs.size<=it) (h2:∀ x c,X.env.cells.lookup x=some c->c≠it) (h3:∀ p∈X.pn++pins,p.1≠it):Inv X pins σ H { s with heap:=h',toks:=t' }:=by
  have nit:∀ b u,H b=some u->b≠it:=fun b u e z=>by rw [z,hn] at e;cases e
  refine I.step (g':=s.gens) (d':=s.drawn) (ch:=[it]) (fun b hb=>?_) (fun b o _ _ hc e _=>k b o (fun z=>hc (by simp [z])) e) (fun b o _ _ hc e _=>⟨o.slots,k b o (fun z=>hc (by simp [z])) e⟩) (fun _ _ _ _ n=>n)
    (fun b o hc e=>⟨o,k b o (fun z=>hc (by simp [z])) e⟩) (fun _ _ e=>e) (fun _ _ _ e=>e) (fun b ps e=>⟨#[],by rw [e];simp⟩) (fun m hm=>?_) (fun b u e=>?_) I.bare
  · have e:b=it:=by simpa using hb
    subst e
    exact ⟨h1,hL,h2,h3⟩
  · obtain ⟨o,es,ep,ho,r⟩:=hm
    exact ⟨o,es,ep,k _ o (Ne.symm hL) ho,r⟩
  · refine (I.hok b u e).stay (fun c v hc q=>k c v ?_ q) (fun _ q=>q) fun _ _ q=>q
    rcases hc with z | z
    · rw [z];exact nit b u e
    · exact nit c _ z
theorem Inv.tok (I:Inv X pins σ H s) (t:Nat):Inv X pins σ H { s with toks:=t }:=I.un (h':=s.heap) (t':=t) Un.refl I.hok
theorem Inv.kept {t':Nat}(I:Inv X pins σ H s) (k:∀ b u,s.heap.get? b=some u->h'.get? b=some u):Inv X pins σ H { s with heap:=h',toks:=t' }:=I.un (Un.kept k) (I.hok.kept k)
theorem Inv.laid {a:Addr}{o:HO}{t':Nat}(I:Inv X pins σ H s) (k:∀ b u,s.heap.get? b=some u->h'.get? b=some u) (hp:s.heap.objs.size<=a) (new:jT X.prog X.w (upd H a o) h' a o) :
    Inv X pins σ (upd H a o) { s with heap:=h',toks:=t' }:=I.un (Un.laid k hp (I.hok.fresh hp)) (I.hok.laid k hp new)
theorem Inv.write {x e:Addr}{o:HO}{t':Nat}(I:Inv X pins σ H s) (mu:Mut (H x)) (he:e=x\/H e=some (.own x)) (k:∀ b u,b≠e->s.heap.get? b=some u->h'.get? b=some u) (heo:∃ u,h'.get? e=some u)
    (new:jT X.prog X.w (upd H x o) h' x o):Inv X pins σ (upd H x o) { s with heap:=h',toks:=t' }:=I.un (Un.write mu he k heo) (I.hok.write mu he k heo new)
theorem Inv.pins_of {pins':List (Addr×Obj)}(I:Inv X pins σ H s) (h:∀ p∈pins',s.heap.get? p.1=some p.2/\H p.1=none/\p.1≠X.env.locals/\p.1∉X.fs/\∀ v,p.2.data≠.cell v):Inv X pins' σ H s :=
  ⟨I.ok,I.os,I.bare,I.base,I.loc,I.cell,I.free,I.freeC,fun p hp=>(List.mem_append.mp hp).elim (fun z=>I.pin p (yE _ z)) (h p),I.hok,I.len⟩
theorem ZL {N:List Str}(hN:N.Nodup) {i j:Nat}{x:Str}(a:N[i]?=some x) (b:N[j]?=some x):i=j:=by
  obtain ⟨h1,e1⟩:=qp.mp a
  obtain ⟨h2,e2⟩:=qp.mp b
  exact (List.getElem_inj hN).mp (e1.trans e2.symm)
theorem qae {M:Model}{A:Around}{E:Value->Shared->Prop}{i:Nat}{x:Str}{v:V}{u:Value}{Q:Unit->Shared->Prop}(I:Inv X pins σ H s) (hN:X.N.Nodup) (hi:X.N[i]?=some x) (hx:Loc X.env.scope x) (r:jL v u)
    (h:∀ s',Inv X pins (σ.set i (some v)) H s'->(∃ a,Heap.SameBut a s.heap s'.heap/\(a=X.env.locals\/X.env.cells.lookup x=some a))->Q () s') (hf:X.fn x=true\/X.env.scope.names.lookup x=some .local:=by first | exact .inl rfl | exact .inr rfl | assumption):wpAny M A (storeName X.env x u) Q E s:=by
  obtain ⟨m,hn,hl⟩:=id I.loc
  have hcls:(X.env.scope.kind == .class || (X.env.scope.kind == .module && X.env.locals != X.env.globals))=false:=by rw [I.ok.kind];rfl
  have hiσ:i<σ.length:=by rw [I.len];exact (qp.mp hi).1
  have cne:=I.cne
  have tracked:∀ {a:Addr}{h':Heap},(∃ o,s.heap.get? a=some o/\H a=none)->Heap.SameBut a s.heap h'->HOk X.prog X.w H h':=fun {a h'} ha hs b ob e=>by
    obtain ⟨_,_,hfree⟩:=ha
    refine (I.hok b ob e).stay (fun c w' hc q=>(hs.2 c ?_).trans q) (fun _ q=>q) fun _ _ q=>q
    rintro rfl
    rcases hc with rfl | hc
    · rw [hfree] at e;cases e
    · rw [hfree] at hc;cases hc
  rcases hx with hk | hk
  · refine wpAny_storeName_local hk hn (fun h' hn' hs=>?_) hcls
    obtain ⟨oL,_,_,hoL,_⟩:=id hn
    refine h _ ⟨I.ok,I.os,I.bare,⟨fun b o e n hb hx=>?_,fun b o e n hb hx=>?_,I.base.free,fun b o e hx=>?_,I.base.tups,I.base.frzs,I.base.tbls⟩,⟨_,hn',fun j y v' e1 e2 e3=>?_⟩,fun y c e=>?_,I.free,I.freeC,fun p hp=>?_,tracked ⟨oL,hoL,I.free⟩ hs,by simpa using I.len⟩ ⟨_,hs,.inl rfl⟩
    · exact (hs.2 b (qz (qJ (qi e) I.ok.above))).trans (I.base.keep b o e n hb hx)
    · obtain ⟨sl,e1⟩:=I.base.slot b o e n hb hx
      exact ⟨sl,(hs.2 b (qz (qJ (qi e) I.ok.above))).trans e1⟩
    · obtain ⟨o',e1⟩:=I.base.there b o e hx
      exact ⟨o',(hs.2 b (qz (qJ (qi e) I.ok.above))).trans e1⟩
    · by_cases hj:j=i
      · subst hj
        rw [hi] at e1;cases e1
        rw [List.getElem?_set_self hiσ] at e2
        cases e2
        exact ⟨u,r,.inl ⟨hk,by simp⟩⟩
      · rw [List.getElem?_set_ne (Ne.symm hj)] at e2
        obtain ⟨u',r',q⟩:=hl j y v' e1 e2 e3
        refine ⟨u',r',?_⟩
        rcases q with ⟨k,e⟩ | ⟨k,c,e,z⟩
        · refine .inl ⟨k,?_⟩
          have:y≠x:=fun e=>hj (ZL hN e1 (e ▸ hi))
          simp [this,e]
        · exact .inr ⟨k,c,e,z.sameBut hs (cne y c e)⟩
    · obtain ⟨w',z⟩:=I.cell y c e
      exact ⟨w',z.sameBut hs (cne y c e)⟩
    · obtain ⟨e,n,ne,nf,d⟩:=I.pin p hp
      exact ⟨(hs.2 p.1 ne).trans e,n,ne,nf,d⟩
  · have hfn:X.fn x=true:=by
      rcases hf with z | z
      · exact z
      · rw [z] at hk;cases hk
    obtain ⟨c,hc⟩:=I.ok.has x (.inl hk)
    obtain ⟨w',z⟩:=I.cell x c hc
    refine wpAny_storeName_cell I.ok.kind hk hc z (fun h' hc' hs=>?_)
    obtain ⟨oc,hoc,hocd⟩:=id z
    refine h { s with heap:=h' } ⟨I.ok,I.os,I.bare,⟨fun b o e n hb hx=>?_,fun b o e n hb hx=>?_,I.base.free,fun b o e hx=>?_,I.base.tups,I.base.frzs,I.base.tbls⟩,⟨m,hn.sameBut hs (Ne.symm (cne x c hc)),fun j y v' e1 e2 e3=>?_⟩,fun y c' e=>?_,I.free,I.freeC,fun p hp=>?_,tracked ⟨oc,hoc,I.freeC x c hc⟩ hs,by simpa using I.len⟩ ⟨c,hs,.inr hc⟩
    · exact (hs.2 b (qz (qJ (qi e) (I.ok.cab x c hfn hc)))).trans (I.base.keep b o e n hb hx)
    · obtain ⟨sl,e1⟩:=I.base.slot b o e n hb hx
      exact ⟨sl,(hs.2 b (qz (qJ (qi e) (I.ok.cab x c hfn hc)))).trans e1⟩
    · obtain ⟨o',e1⟩:=I.base.there b o e hx
      exact ⟨o',(hs.2 b (qz (qJ (qi e) (I.ok.cab x c hfn hc)))).trans e1⟩
    · by_cases hj:j=i
      · subst hj
        rw [hi] at e1;cases e1
        rw [List.getElem?_set_self hiσ] at e2
        cases e2
        exact ⟨u,r,.inr ⟨.inl hk,c,hc,hc'⟩⟩
      · rw [List.getElem?_set_ne (Ne.symm hj)] at e2
        obtain ⟨u',r',q⟩:=hl j y v' e1 e2 e3
        refine ⟨u',r',?_⟩
        rcases q with q | ⟨k,c',e,z'⟩
        · exact .inl q
        · refine .inr ⟨k,c',e,z'.sameBut hs ?_⟩
          rintro rfl
          exact hj (ZL hN e1 (I.ok.inj _ _ _ e hc ▸ hi))
    · by_cases hcc:c'=c
      · subst hcc;exact ⟨_,hc'⟩
      · obtain ⟨w2,z2⟩:=I.cell y c' e
        exact ⟨w2,z2.sameBut hs hcc⟩
    · obtain ⟨e,n,ne,nf,d⟩:=I.pin p hp
      refine ⟨(hs.2 p.1 ?_).trans e,n,ne,nf,d⟩
      intro q
      rw [q,hoc] at e
      have q':oc=p.2:=Option.some.inj e
      exact d w' (by rw [<- q'];exact hocd)
theorem YE {M:Model}{A:Around}{E:Value->Shared->Prop}{i:Nat}{x:Str}{v:V}{u:Value}{Q:Unit->Shared->Prop}(I:Inv X pins σ H s) (hN:X.N.Nodup) (hi:X.N[i]?=some x) (hx:Loc X.env.scope x) (r:jL v u)
    (h:∀ s',Inv X pins (σ.set i (some v)) H s'->Q () s') (hf:X.fn x=true\/X.env.scope.names.lookup x=some .local:=by first | exact .inl rfl | exact .inr rfl | assumption):wpAny M A (storeName X.env x u) Q E s :=
  qae I hN hi hx r (fun s' I' _=>h s' I') hf
theorem Inv.call' {s':Shared}{ch:List Addr}(I:Inv X pins σ H s) (ho:s'.os=s.os) (u:Un (frs X.stack) ch H H' s.heap s'.heap) (hok:HOk X.prog X.w H' s'.heap) (hg:AllBare s'.gens)
    (hch:∀ b∈ch,(b∈X.ex\/X.s₀.heap.objs.size<=b)/\b≠X.env.locals/\(∀ x c,X.env.cells.lookup x=some c->c≠b)/\∀ p∈X.pn++pins,p.1≠b):Inv X pins σ H' s':=by
  obtain ⟨h',g',d',t',o'⟩:=s'
  have e:o'=s.os:=ho
  subst e
  exact I.call (g':=g') (t':=t') (d':=d') u hok hg hch
end
abbrev XK:=Value->Option Addr->Hp->Prop
abbrev St:=List (Option V)
abbrev VK:=V->Hp->Prop
abbrev TE:=St->Hp->VK->Prop
abbrev TT:=St->Hp->(Bool->Hp->Prop)->Prop
abbrev TA:=St->Hp->(List V->Hp->Prop)->Prop
structure Ends where
  nx:St->Hp->Prop
  rt:VK
  bk:St->Hp->Prop:=fun _ _=>False
  ct:St->Hp->Prop:=fun _ _=>False
abbrev TS:=Ends->St->Hp->Prop
def EP (X:Cx) (pins:List (Addr×Obj)) (σ:St) (Q:VK) (u:Value) (s':Shared):Prop:=∃ v H',Inv X pins σ H' s'/\jL v u/\Q v H'
def TP (X:Cx) (pins:List (Addr×Obj)) (σ:St) (Q:Bool->Hp->Prop) (b:Bool) (s':Shared):Prop:=∃ H',Inv X pins σ H' s'/\Q b H'
def AP (X:Cx) (pins:List (Addr×Obj)) (σ:St) (Q:List V->Hp->Prop) (us:List Value) (s':Shared):Prop:=∃ vs H',Inv X pins σ H' s'/\yz vs us/\Q vs H'
def SP (X:Cx) (pins:List (Addr×Obj)) (D:Ends) (f:Flow) (s':Shared):Prop :=
  match f with
  | .next=>∃ σ' H',Inv X pins σ' H' s'/\D.nx σ' H'
  | .brk=>∃ σ' H',Inv X pins σ' H' s'/\D.bk σ' H'
  | .cont=>∃ σ' H',Inv X pins σ' H' s'/\D.ct σ' H'
  | .ret u=>∃ v σ' H',Inv X pins σ' H' s'/\jL v u/\D.rt v H'
def PE (X:Cx) (e:Expr) (t:TE):Prop :=
  ∀ (pins:List (Addr×Obj)) (s:Shared) (σ:St) (H:Hp) (Q:VK),Inv X pins σ H s->t σ H Q->wpAny (model X.prog X.w) X.A (eval e X.env) (EP X pins σ Q) X.xe s
def PT (X:Cx) (e:Expr) (t:TT):Prop :=
  ∀ (pins:List (Addr×Obj)) (s:Shared) (σ:St) (H:Hp) (Q:Bool->Hp->Prop),Inv X pins σ H s->t σ H Q->wpAny (model X.prog X.w) X.A (isTrue e X.env (eval e X.env)) (TP X pins σ Q) X.xe s
def PW (X:Cx) (e:Expr) (t:TT):Prop :=
  ∀ (whole:Sem Value) (pins:List (Addr×Obj)) (s:Shared) (σ:St) (H:Hp) (Q:Bool->Hp->Prop),Inv X pins σ H s->t σ H Q->wpAny (model X.prog X.w) X.A (isTrue e X.env whole) (TP X pins σ Q) X.xe s
theorem PW.pt {X:Cx}{e:Expr}{t:TT}(h:PW X e t):PT X e t:=h _
def PA (X:Cx) (es:List Expr) (t:TA):Prop :=
  ∀ (pos:Pos) (pins:List (Addr×Obj)) (s:Shared) (σ:St) (H:Hp) (Q:List V->Hp->Prop),Inv X pins σ H s->t σ H Q->wpAny (model X.prog X.w) X.A (spliced (backTo pos (starEach es X.env))) (AP X pins σ Q) X.xe s
def PS (X:Cx) (st:Stmt) (t:TS):Prop :=
  ∀ (pins:List (Addr×Obj)) (s:Shared) (σ:St) (H:Hp) (D:Ends),Inv X pins σ H s->t D σ H->wpAny (model X.prog X.w) X.A (exec st X.env) (SP X pins D) X.xe s
def PSs (X:Cx) (st:List Stmt) (t:TS):Prop :=
  ∀ (pins:List (Addr×Obj)) (s:Shared) (σ:St) (H:Hp) (D:Ends),Inv X pins σ H s->t D σ H->wpAny (model X.prog X.w) X.A (execs st X.env) (SP X pins D) X.xe s
theorem thn {α:Type}{t:Sem α}{Q Q':α->Shared->Prop}{M:Model}{A:Around}{E:Value->Shared->Prop}{s:Shared}(h:wpAny M A t Q E s) (hQ:∀ a s,Q a s->Q' a s):wpAny M A t Q' E s:=yS h hQ fun _ _ x=>x
section
variable {X:Cx}
def tVar (i:Nat):TE:=fun σ H Q=>∃ v,σ[i]?=some (some v)/\Q v H
def tC (v:V):TE:=fun _ H Q=>Q v H
theorem qgY {i:Nat}{x:Str}{pos:Pos}(hN:X.N[i]?=some x) (hv:Vis X.env.scope x) (hd:(x == ("__debug__" : Str))=false:=by decide) (hcd:(x == ("__classdict__" : Str))=false:=by decide):PE X (.Name x pos) (tVar i):=by
  intro pins s σ H Q I h
  obtain ⟨v,e,h⟩:=h
  obtain ⟨m,hn,hl⟩:=I.loc
  obtain ⟨u,r,l⟩:=hl i x v hN e hv
  have fin:EP X pins σ Q u s:=⟨v,H,I,r,h⟩
  rcases l with ⟨hk,hm⟩ | ⟨hk,c,hc,hcell⟩
  · exact wpAny_Name (wpAny_loadName_local I.ok.kind hk hn hm fin) hd
  · rcases hk with hk | hk
    · exact wpAny_Name (wpAny_loadName_cell I.ok.kind hk hc hcell fin) hd
    · exact wpAny_Name (wpAny_loadName_free I.ok.kind hk hc hcell fin hcd) hd
theorem jF {i j pos}:PE X (.Constant (.int i) j pos) (tC (.int i)):=fun _ _ _ H _ I h=>wpAny_Constant_int ⟨.int i,H,I.tok _,⟨_,rfl⟩,h⟩
theorem pe_bl {b j pos}:PE X (.Constant (.bool b) j pos) (tC (.bl b)):=fun _ _ _ H _ I h=>Constant_bool ⟨.bl b,H,I,rfl,h⟩
theorem qki {j pos}:PE X (.Constant .none j pos) (tC .non):=fun _ _ _ H _ I h=>Constant_none ⟨.non,H,I,rfl,h⟩
def Gl (X:Cx) (x:Str):Prop:=X.env.kindOf x=some .globalImplicit
theorem qiD {E:Value->Shared->Prop}{pins:List (Addr×Obj)}{s:Shared}{σ:St}{H:Hp}{x:Str}{u:Value}{pos:Pos}{Q:Value->Shared->Prop}(I:Inv X pins σ H s) (hg:Gl X x) (hm:X.mg x=some u) (h:Q u s)
    (hd:(x == ("__debug__" : Str))=false:=by decide):wpAny (model X.prog X.w) X.A (eval (.Name x pos) X.env) Q E s :=
  Calls.Name_function_global I.ok.kind hg (Calls.loadGlobal_global (by rw [I.ok.glob];exact I.mod.glob.keeps I.bk) hm h) hd
theorem Y3 {E:Value->Shared->Prop}{pins:List (Addr×Obj)}{s:Shared}{σ:St}{H:Hp}{x:Str}{u:Value}{pos:Pos}{Q:Value->Shared->Prop}(I:Inv X pins σ H s) (hg:Gl X x) (hm:X.mg x=none) (hv:bootBuiltins x=some u) (h:Q u s)
    (hn:x ≠ "__name__" := by decide) (hd:(x == ("__debug__" : Str))=false:=by decide):wpAny (model X.prog X.w) X.A (eval (.Name x pos) X.env) Q E s:=by
  obtain ⟨mb,h1,h2⟩:=I.mod.blt
  exact Calls.Name_function_global I.ok.kind hg (Calls.loadGlobal_builtin (by rw [I.ok.glob];exact I.mod.glob.keeps I.bk) hm (by rw [I.ok.blt];exact h1.keeps I.bk) ((h2 x hn).trans hv) h) hd
theorem qii {x:Str}{v:V}{u:Value}{pos:Pos}(hg:Gl X x) (hm:X.mg x=none) (hv:bootBuiltins x=some u) (r:jL v u) (hn:x ≠ "__name__" := by decide) (hd:(x == ("__debug__" : Str))=false:=by decide):PE X (.Name x pos) (tC v) :=
  fun _ _ _ H _ I h=>Y3 I hg hm hv ⟨v,H,I,r,h⟩ hn hd
variable {a b:Expr}{ta tb:TE}{pos:Pos}
def tB (t:TE):TT:=fun σ H Q=>t σ H fun x H1=>∃ c,x = .bl c/\Q c H1
theorem qj5 {e:Expr}{t:TE}(h:PE X e t) (he:∀ whole,isTrue e X.env whole=(do let v <- whole;standAt e.pos;holding [v] (truthy v)):=by intro _;rfl):PT X e (tB t):=by
  intro pins s σ H Q I hw
  refine isTrue_plain (thn (h pins s σ H _ I hw) fun v s1 ⟨x,H1,I1,r1,q1⟩=>?_) (he _)
  obtain ⟨d,rfl,q⟩:=q1
  cases r1
  exact wpAny_truthy_bool ⟨H1,I1,q⟩
variable {tA tB':TT}{y9:List Expr}
def tAnd (t u:TT):TT:=fun σ H Q=>t σ H fun c H1=>if c=true then u σ H1 Q else Q false H1
def tOr (t u:TT):TT:=fun σ H Q=>t σ H fun c H1=>if c=true then Q true H1 else u σ H1 Q
def tNot (t:TT):TT:=fun σ H Q=>t σ H fun c H1=>Q (!c) H1
theorem qh1 (ha:PT X a tA):PW X (.BoolOp .And [a] pos) tA:=by
  intro wh pins s σ H Q I h
  refine isTrue_and (thn (ha pins s σ H Q I h) fun c s1 e=>?_)
  cases c with
  | true=>exact isTrue_and_nil e
  | false=>exact e
theorem qj2 (ha:PT X a tA):PW X (.BoolOp .Or [a] pos) tA:=by
  intro wh pins s σ H Q I h
  refine isTrue_or (thn (ha pins s σ H Q I h) fun c s1 e=>?_)
  cases c with
  | false=>exact isTrue_or_nil e
  | true=>exact e
theorem qj3 (ha:PT X a tA) (hb:PW X (.BoolOp .And (b::y9) pos) tB'):PW X (.BoolOp .And (a::b::y9) pos) (tAnd tA tB'):=by
  intro wh pins s σ H Q I h
  refine isTrue_and (thn (ha pins s σ H _ I h) fun c s1 ⟨H1,I1,q1⟩=>?_)
  cases c with
  | true=>exact hb wh pins s1 σ H1 Q I1 q1
  | false=>exact ⟨H1,I1,q1⟩
theorem pw_or (ha:PT X a tA) (hb:PW X (.BoolOp .Or (b::y9) pos) tB'):PW X (.BoolOp .Or (a::b::y9) pos) (tOr tA tB'):=by
  intro wh pins s σ H Q I h
  refine isTrue_or (thn (ha pins s σ H _ I h) fun c s1 ⟨H1,I1,q1⟩=>?_)
  cases c with
  | true=>exact ⟨H1,I1,q1⟩
  | false=>exact hb wh pins s1 σ H1 Q I1 q1
theorem qj6 (ha:PT X a tA):PT X (.UnaryOp .Not a pos) (tNot tA):=by
  intro pins s σ H Q I h
  exact isTrue_not (ha pins s σ H (fun c H1=>Q (!c) H1) I h)
def tAndV (ta tb:TE):TE:=fun σ H Q=>ta σ H fun x H1=>∃ c,x = .bl c/\if c=true then tb σ H1 Q else Q (.bl false) H1
def tNotV (ta:TE):TE:=fun σ H Q=>ta σ H fun x H1=>∃ c,x = .bl c/\Q (.bl (!c)) H1
theorem qkg {op} {t:TE}(h:PE X a t):PE X (.BoolOp op [a] pos) t:=fun pins s σ H Q I hw=>BoolOp_one (h pins s σ H Q I hw)
theorem qkk (ha:PE X a ta) (hb:PE X (.BoolOp .And (b::y9) pos) tb):PE X (.BoolOp .And (a::b::y9) pos) (tAndV ta tb):=by
  intro pins s σ H Q I h
  refine BoolOp_and (thn (ha pins s σ H _ I h) fun v s1 ⟨x,H1,I1,r1,q1⟩=>?_)
  obtain ⟨c,rfl,q1⟩:=q1
  cases r1
  refine wpAny_truthy_bool ?_
  cases c with
  | true=>exact hb pins s1 σ H1 Q I1 q1
  | false=>exact ⟨.bl false,H1,I1,rfl,q1⟩
theorem qkh (ha:PE X a ta):PE X (.UnaryOp .Not a pos) (tNotV ta):=by
  intro pins s σ H Q I h
  refine UnaryOp_ (thn (ha pins s σ H _ I h) fun v s1 ⟨x,H1,I1,r1,q1⟩=>?_)
  obtain ⟨c,rfl,q1⟩:=q1
  cases r1
  exact not_of (wpAny_truthy_bool ⟨.bl (!c),H1,I1,rfl,q1⟩)
def tIf (t:TT) (ta tb:TE):TE:=fun σ H Q=>t σ H fun c H1=>if c=true then ta σ H1 Q else tb σ H1 Q
theorem qfw {c:Expr}(hc:PT X c tA) (ha:PE X a ta) (hb:PE X b tb):PE X (.IfExp c a b pos) (tIf tA ta tb):=by
  intro pins s σ H Q I h
  refine wpAny_IfExp (thn (hc pins s σ H _ I h) fun d s1 ⟨H1,I1,q1⟩=>?_)
  cases d with
  | true=>exact ha pins s1 σ H1 Q I1 q1
  | false=>exact hb pins s1 σ H1 Q I1 q1
end
def SqL (K:W.Frag) (H:Hp) (a:Addr) (xs:List V):Prop :=
  Rd H a (.lst xs) ∨
    ∃ (o:Obj) (its:Array Value) (n:Nat),K.lookup a=some o/\o.cls = .type "list" /\ o.dict=none/\o.data = .seq its n/\its.size<=sizeLine/\yz xs its.toList
def SqT (K:W.Frag) (H:Hp) (a:Addr) (xs:List V):Prop :=
  Rd H a (.tup xs) ∨
    ∃ (o:Obj) (its:Array Value) (n:Nat),K.lookup a=some o/\o.cls = .type "tuple" /\ o.data = .seq its n/\its.size<=sizeLine/\yz xs its.toList
def absV:Value->Option V
  | .none=>some .non
  | .bool b=>some (.bl b)
  | .int i _=>some (.int i)
  | .str x _=>some (.str x)
  | .bytes b _=>some (.byt b)
  | .float b _=>some (.flt b)
  | .ref a=>some (.ref a)
  | .type n=>some (.ty n)
  | _=>none
theorem jL.abs {x:V}{u:Value}(r:jL x u):absV u=some x:=by
  cases x with
  | non=>cases r;rfl
  | bl _=>cases r;rfl
  | int _=>obtain ⟨t,rfl⟩:=r;rfl
  | str _=>obtain ⟨t,rfl⟩:=r;rfl
  | byt _=>obtain ⟨t,rfl⟩:=r;rfl
  | flt _=>obtain ⟨t,rfl⟩:=r;rfl
  | ref _=>cases r;rfl
  | ty _=>cases r;rfl
theorem jL.inj {x y:V}{u:Value}(r:jL x u) (q:jL y u):x=y:=Option.some.inj (r.abs.symm.trans q.abs)
theorem yz.inj:∀ {xs ys:List V}{us:List Value},yz xs us->yz ys us->xs=ys
  | _,_,_,.nil,.nil=>rfl
  | _,_,_,.cons r t,.cons r' t'=>by rw [r.inj r',yz.inj t t']
section
variable {X:Cx}{pins:List (Addr×Obj)}{σ:St}{H:Hp}{s:Shared}{a:Addr}{xs ys:List V}
theorem SqL.of {K:W.Frag}(h:H a=some (.lst xs)):SqL K H a xs:=.inl (.inl h)
theorem SqT.of {K:W.Frag}(h:H a=some (.tup xs)):SqT K H a xs:=.inl (.inl h)
theorem Inv.list (I:Inv X pins σ H s) (h:SqL X.K H a xs):∃ its:List Value,yz xs its/\PlainL s.heap a its.toArray/\xs.length<=sizeLine:=by
  rcases h with h | ⟨o,its,n,hk,hc,hd,hs,hz,r⟩
  · obtain ⟨z,its,n,r,e⟩:=h.ok I.hok
    exact ⟨its,r,⟨_,n,e,rfl,rfl,rfl⟩,z⟩
  · refine ⟨its.toList,r,⟨o,n,I.kIn a o hk,hc,hd,by simpa using hs⟩,?_⟩
    have e:=r.length
    simp only [Array.length_toList] at e
    omega
theorem Inv.tuple (I:Inv X pins σ H s) (h:SqT X.K H a xs):∃ its:List Value,yz xs its/\IsTup s.heap a its.toArray/\xs.length<=sizeLine:=by
  rcases h with h | ⟨o,its,n,hk,hc,hs,hz,r⟩
  · obtain ⟨z,its,r,p⟩:=h.ok I.hok
    exact ⟨its,r,p,z⟩
  · refine ⟨its.toList,r,⟨o,I.kIn a o hk,hc,n,by simpa using hs⟩,?_⟩
    have e:=r.length
    simp only [Array.length_toList] at e
    omega
theorem Inv.list_inj (I:Inv X pins σ H s) (h:SqL X.K H a xs) (h':SqL X.K H a ys):xs=ys:=by
  obtain ⟨its,r,⟨o,n,e,_,_,d⟩,_⟩:=I.list h
  obtain ⟨its',r',⟨o',n',e',_,_,d'⟩,_⟩:=I.list h'
  rw [e] at e';cases e'
  rw [d] at d'
  injection d' with d1 _
  have:its=its':=by simpa using congrArg Array.toList d1
  subst this
  exact r.inj r'
theorem Inv.tuple_inj (I:Inv X pins σ H s) (h:SqT X.K H a xs) (h':SqT X.K H a ys):xs=ys:=by
  obtain ⟨its,r,⟨o,e,_,n,d⟩,_⟩:=I.tuple h
  obtain ⟨its',r',⟨o',e',_,n',d'⟩,_⟩:=I.tuple h'
  rw [e] at e';cases e'
  rw [d] at d'
  injection d' with d1 _
  have:its=its':=by simpa using congrArg Array.toList d1
  subst this
  exact r.inj r'
end
abbrev Cx.wish (X:Cx) (E:Value->Shared->Prop):Cx:={ X with xe:=E }
abbrev Cx.nox (X:Cx):Cx:=X.wish fun _ _=>False
theorem Cx.Ok.wish {X:Cx}(ok:X.Ok) (E:Value->Shared->Prop):(X.wish E).Ok :=
  ⟨ok.mod,ok.kind,ok.glob,ok.blt,ok.above,ok.inj,ok.has,ok.cab,ok.hd,ok.frames,ok.stk,ok.exf,ok.bs,ok.bsz,ok.noex,ok.exfs,ok.funs,ok.frf⟩
theorem Cx.Ok.unwish {X:Cx}{E:Value->Shared->Prop}(ok:(X.wish E).Ok):X.Ok :=
  ⟨ok.mod,ok.kind,ok.glob,ok.blt,ok.above,ok.inj,ok.has,ok.cab,ok.hd,ok.frames,ok.stk,ok.exf,ok.bs,ok.bsz,ok.noex,ok.exfs,ok.funs,ok.frf⟩
section
variable {X:Cx}{pins:List (Addr×Obj)}{σ:St}{H:Hp}{s:Shared}{E:Value->Shared->Prop}
theorem Inv.wish (I:Inv X pins σ H s) (E:Value->Shared->Prop):Inv (X.wish E) pins σ H s:=⟨I.ok.wish E,I.os,I.bare,I.base,I.loc,I.cell,I.free,I.freeC,I.pin,I.hok,I.len⟩
theorem Inv.unwish (I:Inv (X.wish E) pins σ H s):Inv X pins σ H s:=⟨I.ok.unwish,I.os,I.bare,I.base,I.loc,I.cell,I.free,I.freeC,I.pin,I.hok,I.len⟩
theorem SP.unwish {D:Ends}{f:Flow}{s':Shared}(h:SP (X.wish E) pins D f s'):SP X pins D f s':=by
  cases f with
  | next=>obtain ⟨σ',H',I,q⟩:=h;exact ⟨σ',H',I.unwish,q⟩
  | brk=>obtain ⟨σ',H',I,q⟩:=h;exact ⟨σ',H',I.unwish,q⟩
  | cont=>obtain ⟨σ',H',I,q⟩:=h;exact ⟨σ',H',I.unwish,q⟩
  | ret u=>obtain ⟨v,σ',H',I,r,q⟩:=h;exact ⟨v,σ',H',I.unwish,r,q⟩
theorem PE.nox {e:Expr}{t:TE}(h:PE X.nox e t):PE X e t:=fun pins s σ H Q I hw =>
  yS (h pins s σ H Q (I.wish _) hw) (fun _ _ ⟨v,H',I',r,q⟩=>⟨v,H',I'.unwish,r,q⟩) fun _ _ z=>False.elim z
theorem PT.nox {e:Expr}{t:TT}(h:PT X.nox e t):PT X e t:=fun pins s σ H Q I hw =>
  yS (h pins s σ H Q (I.wish _) hw) (fun _ _ ⟨H',I',q⟩=>⟨H',I'.unwish,q⟩) fun _ _ z=>False.elim z
theorem PSs.nox {st:List Stmt}{t:TS}(h:PSs X.nox st t):PSs X st t:=fun pins s σ H D I hw =>
  yS (h pins s σ H D (I.wish _) hw) (fun _ _ q=>q.unwish) fun _ _ z=>False.elim z
end
section
variable {X:Cx}{st:Stmt}{y9:List Stmt}{t u:TS}{e:Expr}{te:TE}{pos:Pos}
def tNext:TS:=fun D σ H=>D.nx σ H
def tSeq (t u:TS):TS:=fun D σ H=>t { D with nx:=u D } σ H
theorem qds:PSs X [] tNext:=fun _ _ σ H _ I h=>wpAny_execs_nil ⟨σ,H,I,h⟩
theorem JW (h1:PS X st t) (h2:PSs X y9 u):PSs X (st::y9) (tSeq t u):=by
  intro pins s σ H D I h
  refine wpAny_execs_cons (thn (h1 pins s σ H { D with nx:=u D } I h) fun f s1 q=>?_)
  cases f with
  | next =>
    obtain ⟨σ',H',I',q⟩:=q
    exact h2 pins s1 σ' H' D I' q
  | ret v=>exact q
  | brk=>exact q
  | cont=>exact q
theorem qa2 (h1:PS X st t):PSs X [st] t:=by
  intro pins s σ H D I h
  refine wpAny_execs_cons (thn (h1 pins s σ H D I h) fun f s1 q=>?_)
  cases f with
  | next=>exact wpAny_execs_nil q
  | ret v=>exact q
  | brk=>exact q
  | cont=>exact q
theorem Inv.quiet {pins:List (Addr×Obj)}{σ:St}{H:Hp}{s:Shared}(I:Inv X pins σ H s):interactive X.env=false:=by simp [interactive,I.ok.kind]
def tDrop (te:TE):TS:=fun D σ H=>te σ H fun _ H1=>D.nx σ H1
theorem qh5 (he:PE X e te) (hs:swapsWith e none pos.line X.env=pure false:=by rfl):PS X (.Expr e pos) (tDrop te):=by
  intro pins s σ H D I h
  exact wpAny_Expr_any (thn (he pins s σ H _ I h) fun v s1 ⟨x,H1,I1,r1,q1⟩=>⟨σ,H1,I1,q1⟩) I.quiet hs
def tRet (te:TE):TS:=fun D σ H=>te σ H D.rt
theorem qbK (he:PE X e te):PS X (.Return (some e) pos) (tRet te):=by
  intro pins s σ H D I h
  exact wpAny_Return_some (thn (he pins s σ H _ I h) fun v s1 ⟨x,H1,I1,r1,q1⟩=>⟨x,σ,H1,I1,r1,q1⟩)
def tIfS (c:TT) (t u:TS):TS:=fun D σ H=>c σ H fun b H1=>if b=true then t D σ H1 else u D σ H1
theorem qka {c:Expr}{a b:List Stmt}{tc:TT}(hc:PT X c tc) (ha:PSs X a t) (hb:PSs X b u):PS X (.If c a b pos) (tIfS tc t u):=by
  intro pins s σ H D I h
  refine wpAny_If (thn (hc pins s σ H _ I h) fun d s1 ⟨H1,I1,q1⟩=>?_)
  cases d with
  | true=>exact ha pins s1 σ H1 D I1 q1
  | false=>exact hb pins s1 σ H1 D I1 q1
end
abbrev TG:=V->St->Hp->(St->Hp->Prop)->Prop
abbrev TGs:=List V->St->Hp->(St->Hp->Prop)->Prop
def PG (X:Cx) (target:Expr) (t:TG):Prop :=
  ∀ (pins:List (Addr×Obj)) (s:Shared) (σ:St) (H:Hp) (v:V) (u:Value) (Q:St->Hp->Prop),Inv X pins σ H s->jL v u->t v σ H Q →
    wpAny (model X.prog X.w) X.A (assign target X.env u) (fun _ s'=>∃ σ' H',Inv X pins σ' H' s'/\Q σ' H') X.xe s
def PGs (X:Cx) (ts:List Expr) (t:TGs):Prop :=
  ∀ (pins:List (Addr×Obj)) (s:Shared) (σ:St) (H:Hp) (vs:List V) (us:List Value) (Q:St->Hp->Prop),Inv X pins σ H s->yz vs us->t vs σ H Q →
    wpAny (model X.prog X.w) X.A (assignInOrder ((assignEach ts X.env).map (·.2)) us) (fun _ s'=>∃ σ' H',Inv X pins σ' H' s'/\Q σ' H') X.xe s
abbrev TSet:=V->V->V->Hp->(Hp->Prop)->Prop
def PSet (X:Cx) (t:TSet):Prop :=
  ∀ (pins:List (Addr×Obj)) (s:Shared) (σ:St) (H:Hp) (o i v:V) (ov iv u:Value) (Q:Hp->Prop),Inv X pins σ H s->jL o ov->jL i iv->jL v u->t o i v H Q →
    wpAny (model X.prog X.w) X.A (setItem ov iv u) (fun _ s'=>∃ H',Inv X pins σ H' s'/\Q H') X.xe s
section
variable {X:Cx}{pos:Pos}
def qfR (i:Nat):TG:=fun v σ H Q=>Q (σ.set i (some v)) H
theorem qic {i:Nat}{x:Str}(hN:X.N.Nodup) (hi:X.N[i]?=some x) (hx:Loc X.env.scope x) (hf:X.fn x=true\/X.env.scope.names.lookup x=some .local:=by first | exact .inl rfl | exact .inr rfl | assumption):PG X (.Name x pos) (qfR i):=by
  intro pins s σ H v u Q I r h
  exact wpAny_assign_Name (YE I hN hi hx r (fun s' I'=>⟨_,H,I',h⟩) hf)
def gNil:TGs:=fun vs σ H Q=>vs=[]/\Q σ H
def qk6 (t:TG) (u:TGs):TGs:=fun vs σ H Q=>∃ v r,vs=v::r/\t v σ H fun σ' H'=>u r σ' H' Q
theorem qia:PGs X [] gNil:=by
  intro pins s σ H vs us Q I r h
  obtain ⟨e,h⟩:=h
  subst e
  cases r
  exact assignInOrder_nil ⟨σ,H,I,h⟩
theorem qfs {e:Expr}{es:List Expr}{t:TG}{u:TGs}(h1:PG X e t) (h2:PGs X es u)
    (hs:(assignEach (e::es) X.env).map (·.2)=assign e X.env::(assignEach es X.env).map (·.2):=by rfl):PGs X (e::es) (qk6 t u):=by
  intro pins s σ H vs us Q I r h
  obtain ⟨v,vr,e1,h⟩:=h
  subst e1
  cases r with
  | cons r rr =>
    rw [hs]
    refine assignInOrder_cons (thn (h1 pins s σ H _ _ _ I r h) fun _ s1 ⟨σ1,H1,I1,q1⟩=>?_)
    exact h2 pins s1 σ1 H1 _ _ Q I1 rr q1
def gTup (K:W.Frag) (n:Nat) (t:TGs):TG:=fun v σ H Q=>∃ a xs,v = .ref a/\SqT K H a xs/\xs.length=n/\t xs σ H Q
theorem qkd {es:List Expr}{k:Nat}{t:TGs}{n:Nat}(hc:X.calm=true) (h:PGs X es t)
    (hn:(assignEach es X.env).length=n:=by rfl) (hst:(assignEach es X.env).findIdx? (·.1)=none:=by rfl):PG X (.Tuple es k pos) (gTup X.K n t):=by
  intro pins s σ H v u Q I r hw
  obtain ⟨a,xs,e1,hq,hl,hw⟩:=hw
  subst e1
  cases r
  obtain ⟨its,rv,ht,hz⟩:=I.tuple hq
  refine assign_Tuple_tuple (I.ok.hd hc) ht (by simp [hn,<- hl,rv.length]) hst fun h' hx=>?_
  have I1:Inv X pins σ H { s with heap:=h' }:=I.kept (t':=s.toks) fun b o e=>hx b o (qz (qi e)) e
  exact h pins _ σ H xs _ Q I1 (by simpa using rv) hw
def gSub (to ti:TE) (t:TSet):TG:=fun v σ H Q=>to σ H fun o H1=>ti σ H1 fun i H2=>t o i v H2 fun H3=>Q σ H3
theorem qdE {o i:Expr}{to ti:TE}{t:TSet}(ho:PE X o to) (hi:PE X i ti) (hs:PSet X t)
    (ha:∀ v,assign (.Subscript o i pos) X.env v=(do
      let ov <- holding [v] (eval o X.env)
      let iv <- holding [v,ov] (eval i X.env)
      standAt pos
      holding [v,ov,iv] (setItem ov iv v)
      release [v,ov,iv] []):=by intro _;rfl):PG X (.Subscript o i pos) (gSub to ti t):=by
  intro pins s σ H v u Q I r h
  rw [ha]
  refine qb (yq (thn (ho pins s σ H _ I h) fun ov s1 ⟨x,H1,I1,r1,q1⟩=>?_))
  refine qb (yq (thn (hi pins s1 σ H1 _ I1 q1) fun iv s2 ⟨y,H2,I2,r2,q2⟩=>?_))
  refine qb (wpAny_standAt (qb (yq (thn (hs pins s2 σ H2 x y v ov iv u _ I2 r1 r2 r q2) fun _ s3 ⟨H3,I3,q3⟩=>?_))))
  exact wpAny_release ⟨σ,H3,I3,q3⟩
def tAsg (te:TE) (g:TG):TS:=fun D σ H=>te σ H fun x H1=>g x σ H1 D.nx
theorem qdu {tg e:Expr}{te:TE}{g:TG}(he:PE X e te) (hg:PG X tg g) (hs:swapsWithSole [tg] e pos.line X.env=pure false:=by rfl) (hw:swappedStores [tg] e X.env=pure none:=by rfl)
    (h1:(assignEach [tg] X.env).map (·.2)=[assign tg X.env]:=by rfl):PS X (.Assign [tg] e pos) (tAsg te g):=by
  intro pins s σ H D I h
  refine wpAny_Assign_stores (thn (he pins s σ H _ I h) fun v s1 ⟨x,H1,I1,r1,q1⟩=>?_) hs hw
  rw [h1]
  exact thn (hg pins s1 σ H1 x v _ I1 r1 q1) fun _ s2 q=>q
theorem qgX {i:Nat}{x:Str}{e:Expr}{te:TE}{pos':Pos}(hN:X.N.Nodup) (hi:X.N[i]?=some x) (hx:Loc X.env.scope x) (he:PE X e te) (hs:swapsWith e (some (.Name x pos')) pos.line X.env=pure false:=by rfl) (hf:X.fn x=true\/X.env.scope.names.lookup x=some .local:=by first | exact .inl rfl | exact .inr rfl | assumption) :
    PS X (.Assign [.Name x pos'] e pos) (tAsg te (qfR i)):=by
  intro pins s σ H D I h
  refine wpAny_Assign_Name (thn (he pins s σ H _ I h) fun v s1 ⟨y,H1,I1,r1,q1⟩=>?_) hs
  exact YE I1 hN hi hx r1 (fun s2 I2=>⟨_,H1,I2,q1⟩) hf
def tPar (i j:Nat) (ta:TA):TS:=fun D σ H=>ta σ H fun vs H1=>∃ v w,vs=[v,w]/\D.nx ((σ.set i (some v)).set j (some w)) H1
theorem qj9 {i j:Nat}{x y:Str}{a b:Expr}{ta:TA}{px py pt:Pos}{kt k2 pt2} (hc:X.calm=true) (hN:X.N.Nodup) (hi:X.N[i]?=some x) (hj:X.N[j]?=some y) (hij:i≠j)
    (hx:X.env.scope.names.lookup x=some .local) (hy:X.env.scope.names.lookup y=some .local) (ha:PA X [a,b] ta)
    (hw:swappedStores [.Tuple [.Name x px,.Name y py] kt pt] (.Tuple [a,b] k2 pt2) X.env=pure (some [x,y]))
    (hs:swapsWithSole [.Tuple [.Name x px,.Name y py] kt pt] (.Tuple [a,b] k2 pt2) pos.line X.env=pure false:=by rfl) :
    PS X (.Assign [.Tuple [.Name x px,.Name y py] kt pt] (.Tuple [a,b] k2 pt2) pos) (tPar i j ta):=by
  intro pins s σ H D I h
  rw [exec_Assign_arm]
  refine qb (wpAny_standAt ?_)
  rw [hs]
  refine qb (qe ?_)
  rw [if_neg (by decide)]
  refine qb (Tuple_ (thn (ha _ pins s σ H _ I h) fun us s1 ⟨vs,H1,I1,r1,q1⟩=>?_))
  obtain ⟨v,w,e1,q1⟩:=q1
  subst e1
  obtain ⟨u1,u2,rfl,rv,rw'⟩:∃ u1 u2,us=[u1,u2]/\jL v u1/\jL w u2:=by
    cases r1 with
    | cons p q =>
      cases q with
      | cons p' q' =>
        cases q'
        exact ⟨_,_,rfl,p,p'⟩
  refine wpAny_newObj_type ?_ (by show 2<=sizeLine;decide)
  have I2:Inv X pins σ H1 { s1 with heap:=s1.heap.push { cls:=.type "tuple",data:=.seq [u1,u2].toArray } }:=I1.kept (t':=s1.toks) fun b o e=>qc _ e
  rw [hw]
  refine qb (qe ?_)
  show wpAny (model X.prog X.w) X.A (do rule "assign.swapped-stores";let items <- unpackItems (.ref s1.heap.objs.size) 2 none;assignInOrder [fun v=>bindName X.env y v,fun v=>bindName X.env x v] items.reverse;pure Flow.next) _ _ _
  refine qb (wpAny_rule (qb (unpackItems_tuple (items:=#[u1,u2]) (I.ok.hd hc) (IsTup.new s1.heap _) fun h' hx'=>?_)))
  have I3:=I2.kept (h':=h') (t':=s1.toks) fun b o e=>hx' b o (qz (qi e)) e
  show wpAny _ _ (assignInOrder [fun v=>bindName X.env y v,fun v=>bindName X.env x v] [u2,u1] >>= fun _=>pure Flow.next) _ _ _
  refine qb (assignInOrder_cons (wpAny_bindName (YE I3 hN hj (.inl hy) rw' (fun s2 I4=>?_) (.inr hy))))
  refine assignInOrder_cons (wpAny_bindName (YE I4 hN hi (.inl hx) rv (fun s3 I5=>assignInOrder_nil (qe ?_)) (.inr hx)))
  rw [List.set_comm _ _ (Ne.symm hij)] at I5
  exact ⟨_,H1,I5,q1⟩
end
section
variable {X:Cx}{pos:Pos}
def qjB (c:TT) (tb:TS):TS:=fun D σ H=>∃ W:Nat->St->Hp->Prop,(∃ m,W m σ H)/\∀ m σ H,W m σ H →
  c σ H fun b H1=>if b=true then ∃ N:St->Hp->Prop,(∀ σ' H',N σ' H'->∃ m',m'<m/\W m' σ' H')/\tb { D with nx:=N,ct:=N,bk:=D.nx } σ H1 else D.nx σ H1
theorem qfq {c:Expr}{body:List Stmt}{tc:TT}{tb:TS}(hp:PassesOwn (model X.prog X.w) X.A X.env X.xe) (hc:PT X c tc) (hb:PSs X body tb):PS X (.While c body [] pos) (qjB tc tb):=by
  intro pins s σ H D I h
  obtain ⟨W,⟨m0,w0⟩,turn⟩:=h
  refine wpAny_While (codeAny_whileLoop (fun n s'=>∃ σ' H',Inv X pins σ' H' s'/\W n σ' H') ?_ m0 ⟨σ,H,I,w0⟩)
  rintro n s1 ⟨σ1,H1,I1,w1⟩
  refine wpAny_passesOwn hp (thn (hc pins s1 σ1 H1 _ I1 (turn n σ1 H1 w1)) fun b s2 ⟨H2,I2,q2⟩=>?_)
  cases b with
  | true =>
    obtain ⟨N,hN,q2⟩:=q2
    rw [if_pos rfl]
    refine wpAny_passesOwn hp (thn (hb pins s2 σ1 H2 _ I2 q2) fun f s3 q3=>?_)
    cases f with
    | next =>
      obtain ⟨σ3,H3,I3,n3⟩:=q3
      obtain ⟨m',hm,w3⟩:=hN σ3 H3 n3
      exact ⟨m',hm,σ3,H3,I3,w3⟩
    | cont =>
      obtain ⟨σ3,H3,I3,n3⟩:=q3
      obtain ⟨m',hm,w3⟩:=hN σ3 H3 n3
      exact ⟨m',hm,σ3,H3,I3,w3⟩
    | brk=>exact q3
    | ret v=>exact q3
  | false =>
    rw [if_neg Bool.false_ne_true]
    exact wpAny_execs_nil ⟨σ1,H2,I2,q2⟩
end
structure It where
  go:Nat->Hp->Prop
  yld:Nat->Hp->V->Hp->Prop
  stop:Nat->Hp->Prop
def qe0 (X:Cx) (pins:List (Addr×Obj)) (H:Hp) (b:Addr):Prop :=
  H b=none/\b≠X.env.locals/\b∉X.fs/\(b∈X.ex\/X.s₀.heap.objs.size<=b)/\(∀ x c,X.env.cells.lookup x=some c->c≠b)/\∀ p∈X.pn++pins,p.1≠b
theorem Inv.fpOk {X:Cx}{pins:List (Addr×Obj)}{σ:St}{H H':Hp}{s:Shared}{b:Addr}(I:Inv X pins σ H s) (hb:s.heap.objs.size<=b) (hn:H' b=none):qe0 X pins H' b:=by
  refine ⟨hn,Nat.ne_of_gt (qJ I.lt hb),I.nofs hb,.inr (qF I.sz hb),fun x c e z=>?_,fun p hp z=>?_⟩
  · obtain ⟨v,q⟩:=I.cell x c e
    exact absurd (qJ q.lt (by rw [z];exact hb)) (jo _)
  · exact absurd (qJ (qi (I.pin p hp).1) (by rw [z];exact hb)) (jo _)
structure Turn (P:Program) (w:World) (K:W.Frag) (tg:Expr) (J:It) (fp:List Addr) (it:Addr) (tn:Nat->Heap->Prop):Prop where
  mem:it∈fp
  obj:∀ i h,tn i h->∀ b∈fp,∃ o,h.get? b=some o/\∀ v,o.data≠.cell v
  keep:∀ i h h',tn i h->(∀ b∈fp,∀ o,h.get? b=some o->h'.get? b=some o)->tn i h'
  item:∀ (X:Cx),X.prog=P->X.w=w->X.K=K->X.calm=true->∀ (i:Nat) (pins:List (Addr×Obj)) (s:Shared) (σ:St) (H:Hp) (E:Value->Shared->Prop),Inv X pins σ H s->(∀ b∈fp,qe0 X pins H b)->tn i s.heap->J.go i H →
    wpAny (model P w) X.A (pyNext (.ref it)) (fun r s1=>∃ u,r=some u ∧
      wpAny (model P w) X.A (letOwnedTupleGo tg (.ref it) u) (fun _ s2=>∃ x H',Inv X pins σ H' s2/\jL x u/\J.yld i H x H'/\tn (i+1) s2.heap/\∀ b∈fp,H' b=none) E s1) E s
  done:∀ (X:Cx),X.prog=P->X.w=w->X.K=K->X.calm=true->∀ (i:Nat) (pins:List (Addr×Obj)) (s:Shared) (σ:St) (H:Hp) (E:Value->Shared->Prop),Inv X pins σ H s->(∀ b∈fp,qe0 X pins H b)->tn i s.heap->J.stop i H →
    wpAny (model P w) X.A (pyNext (.ref it)) (fun r s1=>r=none/\Inv X pins σ H s1) E s
  self:∀ (A:Around) (i:Nat) (s:Shared) (Q:Value->Shared->Prop) (E:Value->Shared->Prop),tn i s.heap->Q (.ref it) s->wpAny (model P w) A (pyIter (.ref it)) Q E s
abbrev TI:=St->Hp->(It->Hp->Prop)->Prop
def PIE (X:Cx) (pins:List (Addr×Obj)) (σ:St) (tg:Expr) (R:It->Hp->Prop) (itv:Value) (s2:Shared):Prop :=
  ∃ (it:Addr) (fp:List Addr) (tn:Nat->Heap->Prop) (J:It) (H':Hp),itv = .ref it/\Inv X pins σ H' s2/\Turn X.prog X.w X.K tg J fp it tn/\tn 0 s2.heap/\(∀ b∈fp,qe0 X pins H' b)/\R J H'
def PI (X:Cx) (tg iter:Expr) (wi:TI):Prop :=
  ∀ (pins:List (Addr×Obj)) (s:Shared) (σ:St) (H:Hp) (R:It->Hp->Prop),Inv X pins σ H s->wi σ H R →
    wpAny (model X.prog X.w) X.A (eval iter X.env) (fun v s1=>wpAny (model X.prog X.w) X.A (pyIter v) (PIE X pins σ tg R) X.xe s1) X.xe s
theorem qiO {M:Model}{A:Around}{E:Value->Shared->Prop}{s:Shared}{tg:Expr}{it:Addr}{u:Value}{o:Obj}{n:String}{vs:Array Value}{Q:Unit->Shared->Prop}(ho:s.heap.get? it=some o) (hc:o.cls = .type n) (hd:o.data = .fields vs)
    (hn:["enumerate", "zip", "dict_itemiterator", "dict_reverseitemiterator", "odict_iterator", "itertools.zip_longest", "itertools.pairwise"].contains n=false) (hQ:Q () s):wpAny M A (letOwnedTupleGo tg (.ref it) u) Q E s:=by
  unfold letOwnedTupleGo
  cases tg <;> first
    | exact qe hQ
    | (cases u <;> first
        | exact qe hQ
        | (refine qb (wpAny_load ho ?_)
           rw [hc,hd]
           show wpAny M A (if (["enumerate", "zip", "dict_itemiterator", "dict_reverseitemiterator", "odict_iterator", "itertools.zip_longest", "itertools.pairwise"].contains n && vs[0]? == some (rawInt _))=true then _ else _) Q E s
           rw [if_neg (by intro h;rw [hn,Bool.false_and] at h;cases h)]
           exact qe hQ))
def Itl (K:W.Frag) (a:Addr):It :=
  ⟨fun i H=>∃ xs x,SqL K H a xs/\xs[i]?=some x,fun i H x H'=>H'=H/\∀ xs,SqL K H a xs->xs[i]?=some x,fun i H=>∃ xs,SqL K H a xs/\xs.length<=i⟩
def Itt (K:W.Frag) (a:Addr):It :=
  ⟨fun i H=>∃ xs x,SqT K H a xs/\xs[i]?=some x,fun i H x H'=>H'=H/\∀ xs,SqT K H a xs->xs[i]?=some x,fun i H=>∃ xs,SqT K H a xs/\xs.length<=i⟩
def Itr (lo:Int) (n:Nat):It:=⟨fun i _=>i<n,fun i H x H'=>H'=H/\x = .int (lo+i),fun i _=>n<=i⟩
theorem qcT {P:Program}{w:World}{K:W.Frag}{tg:Expr}(a it:Addr):Turn P w K tg (Itl K a) [it] it (fun i h=>h.IsListIter it a i) where
  mem:=by simp
  obj:=fun i h st b hb=>by
    have e:b=it:=by simpa using hb
    subst e
    obtain ⟨o,e,c,d⟩:=st
    exact ⟨o,e,fun v z=>by rw [d] at z;cases z⟩
  keep:=fun i h h' st k=>st.at fun o e=>k it (by simp) o e
  item:=by
    intro X hP hw hK hc i pins s σ H E I hf st hg
    subst hP hw hK
    obtain ⟨xs,x,hq,hx⟩:=hg
    obtain ⟨its,rv,p,hz⟩:=I.list hq
    obtain ⟨u,hu,ru⟩:=rv.get hx
    obtain ⟨f0,f1,f2,f3,f4,f5⟩:=hf it (by simp)
    refine wpAny_pyNext_list_item st p.isList (x:=u) (by simpa using hu) fun h' st' sb=>?_
    have I1:Inv X pins σ H { s with heap:=h' }:=I.turned (t':=s.toks) (fun b o hb e=>(sb.2 b hb).trans e) f0 f1 f3 f4 f5
    obtain ⟨o,e,c,d⟩:=id st'
    exact ⟨u,rfl,qiO (s:={ s with heap:=h' }) e c d (by decide) ⟨x,H,I1,ru,⟨rfl,fun ys hy=>by rw [I.list_inj hy hq];exact hx⟩,st',fun b hb=>(hf b hb).1⟩⟩
  done:=by
    intro X hP hw hK hc i pins s σ H E I hf st hg
    subst hP hw hK
    obtain ⟨xs,hq,hx⟩:=hg
    obtain ⟨its,rv,p,hz⟩:=I.list hq
    obtain ⟨f0,f1,f2,f3,f4,f5⟩:=hf it (by simp)
    have hl:=rv.length
    exact wpAny_pyNext_list_end (I.ok.hd hc) st p.isList (by simp;omega) fun h' eb=>⟨rfl,I.turned (t':=s.toks) (fun b o hb e=>eb b o hb e) f0 f1 f3 f4 f5⟩
  self:=fun _ _ _ _ _ st h=>wpAny_pyIter_listiter st h
theorem qci {P:Program}{w:World}{K:W.Frag}{tg:Expr}(a it:Addr):Turn P w K tg (Itt K a) [it] it (fun i h=>h.IsTupleIter it a i) where
  mem:=by simp
  obj:=fun i h st b hb=>by
    have e:b=it:=by simpa using hb
    subst e
    obtain ⟨o,e,c,d⟩:=st
    exact ⟨o,e,fun v z=>by rw [d] at z;cases z⟩
  keep:=fun i h h' st k=>st.at fun o e=>k it (by simp) o e
  item:=by
    intro X hP hw hK hc i pins s σ H E I hf st hg
    subst hP hw hK
    obtain ⟨xs,x,hq,hx⟩:=hg
    obtain ⟨its,rv,p,hz⟩:=I.tuple hq
    obtain ⟨u,hu,ru⟩:=rv.get hx
    obtain ⟨f0,f1,f2,f3,f4,f5⟩:=hf it (by simp)
    refine wpAny_pyNext_tuple_item st (show s.heap.IsTuple a its.toArray from p) (x:=u) (by simpa using hu) fun h' st' sb=>?_
    have I1:Inv X pins σ H { s with heap:=h' }:=I.turned (t':=s.toks) (fun b o hb e=>(sb.2 b hb).trans e) f0 f1 f3 f4 f5
    obtain ⟨o,e,c,d⟩:=id st'
    exact ⟨u,rfl,qiO (s:={ s with heap:=h' }) e c d (by decide) ⟨x,H,I1,ru,⟨rfl,fun ys hy=>by rw [I.tuple_inj hy hq];exact hx⟩,st',fun b hb=>(hf b hb).1⟩⟩
  done:=by
    intro X hP hw hK hc i pins s σ H E I hf st hg
    subst hP hw hK
    obtain ⟨xs,hq,hx⟩:=hg
    obtain ⟨its,rv,p,hz⟩:=I.tuple hq
    obtain ⟨f0,f1,f2,f3,f4,f5⟩:=hf it (by simp)
    have hl:=rv.length
    exact wpAny_pyNext_tuple_end (I.ok.hd hc) st (show s.heap.IsTuple a its.toArray from p) (by simp;omega) fun h' eb=>⟨rfl,I.turned (t':=s.toks) (fun b o hb e=>eb b o hb e) f0 f1 f3 f4 f5⟩
  self:=fun _ _ _ _ _ st h=>wpAny_pyIter_tupleiter st h
theorem qcj {P:Program}{w:World}{K:W.Frag}{tg:Expr}(it:Addr) (lo:Int) (n:Nat):Turn P w K tg (Itr lo n) [it] it (fun i h=>IsRangeIter h it (lo+(i:Nat) * 1) ((n:Int) - (i:Nat)) 1) where
  mem:=by simp
  obj:=fun i h st b hb=>by
    have e:b=it:=by simpa using hb
    subst e
    exact ⟨_,st,fun v z=>by
      have z':Data.fields _=Data.cell v:=z
      cases z'⟩
  keep:=fun i h h' st k=>k it (by simp) _ st
  item:=by
    intro X hP hw hK hc i pins s σ H E I hf st hg
    subst hP hw hK
    obtain ⟨f0,f1,f2,f3,f4,f5⟩:=hf it (by simp)
    have W:=Walks.range (prog:=X.prog) (w:=X.w) (I.ok.hd hc) it lo 1 n
    refine W.item i s _ _ hg st fun v h' tk hv st' kk=>?_
    obtain ⟨t,rfl⟩:=hv
    have I1:Inv X pins σ H { s with heap:=h',toks:=tk }:=I.turned (fun b o hb e=>kk b o (by simpa using hb) e) f0 f1 f3 f4 f5
    refine ⟨_,rfl,qiO (s:={ s with heap:=h',toks:=tk }) (n := "range_iterator") st' rfl rfl (by decide) ⟨.int (lo+i),H,I1,⟨t,?_⟩,⟨rfl,rfl⟩,st',fun b hb=>(hf b hb).1⟩⟩
    rw [Int.mul_one]
  done:=by
    intro X hP hw hK hc i pins s σ H E I hf st hg
    subst hP hw hK
    obtain ⟨f0,f1,f2,f3,f4,f5⟩:=hf it (by simp)
    exact wpAny_pyNext_range_end (I.ok.hd hc) st (by have:n<=i:=hg;omega) fun h' eb=>⟨rfl,I.turned (t':=s.toks) (fun b o hb e=>eb b o hb e) f0 f1 f3 f4 f5⟩
  self:=fun _ _ _ _ _ st h=>wpAny_pyIter_rangeiter st h
section
variable {X:Cx}{tg:Expr}
def iList (K:W.Frag) (tl:TE):TI:=fun σ H R=>tl σ H fun x H1=>∃ a,x = .ref a/\(∃ xs,SqL K H1 a xs)/\R (Itl K a) H1
def iTup (K:W.Frag) (tl:TE):TI:=fun σ H R=>tl σ H fun x H1=>∃ a,x = .ref a/\(∃ xs,SqT K H1 a xs)/\R (Itt K a) H1
theorem qh9 {l:Expr}{tl:TE}(hl:PE X l tl):PI X tg l (iList X.K tl):=by
  intro pins s σ H R I h
  refine thn (hl pins s σ H _ I h) fun v s1 hq9=>?_
  obtain ⟨x,H1,I1,r1,q1⟩:=hq9
  obtain ⟨a,e,⟨xs,hq⟩,q⟩:=q1
  subst e
  cases r1
  obtain ⟨its,rv,p,hz⟩:=I1.list hq
  refine wpAny_pyIter_list p.isList ?_
  refine ⟨s1.heap.objs.size,[s1.heap.objs.size],_,_,H1,rfl,I1.kept (t':=s1.toks) fun b o e=>qc _ e,qcT a _,⟨_,qC _ rfl,rfl,rfl⟩,fun b hb=>?_,q⟩
  have e:b=s1.heap.objs.size:=by simpa using hb
  subst e
  exact I1.fpOk (qj _) (I1.hok.fresh (qj _))
theorem qkc {l:Expr}{tl:TE}(hl:PE X l tl):PI X tg l (iTup X.K tl):=by
  intro pins s σ H R I h
  refine thn (hl pins s σ H _ I h) fun v s1 hq9=>?_
  obtain ⟨x,H1,I1,r1,q1⟩:=hq9
  obtain ⟨a,e,⟨xs,hq⟩,q⟩:=q1
  subst e
  cases r1
  obtain ⟨its,rv,p,hz⟩:=I1.tuple hq
  refine wpAny_pyIter_tuple (show s1.heap.IsTuple a its.toArray from p) ?_
  refine ⟨s1.heap.objs.size,[s1.heap.objs.size],_,_,H1,rfl,I1.kept (t':=s1.toks) fun b o e=>qc _ e,qci a _,⟨_,qC _ rfl,rfl,rfl⟩,fun b hb=>?_,q⟩
  have e:b=s1.heap.objs.size:=by simpa using hb
  subst e
  exact I1.fpOk (qj _) (I1.hok.fresh (qj _))
theorem qbJ {pins:List (Addr×Obj)}{σ:St}{H:Hp}{s:Shared}{R:It->Hp->Prop}{E:Value->Shared->Prop}{lo hi:Int}{t u v:Tok}{tk:Nat}(I:Inv X pins σ H s) (h1:-(2 ^ 62)<=lo) (h2:lo<2 ^ 62) (h3:-(2 ^ 62)<=hi) (h4:hi<2 ^ 62)
    (q:R (Itr lo (hi - lo).toNat) H):wpAny (model X.prog X.w) X.A (pyIter (.ref s.heap.objs.size)) (PIE X pins σ tg R) E { s with heap:=s.heap.push { cls:=.type "range",data:=.fields #[.int lo t,.int hi u,.int 1 v] },toks:=tk }:=by
  refine wpAny_pyIter_range (IsRange.new ..) (small_one h1 h2 h3 h4) ?_
  have I1:Inv X pins σ H { s with heap:=s.heap.push { cls:=.type "range",data:=.fields #[.int lo t,.int hi u,.int 1 v] },toks:=tk }:=I.kept fun b o e=>qc _ e
  refine ⟨(s.heap.push { cls:=.type "range",data:=.fields #[.int lo t,.int hi u,.int 1 v] }).objs.size,[(s.heap.push { cls:=.type "range",data:=.fields #[.int lo t,.int hi u,.int 1 v] }).objs.size],_,_,H,rfl,
    I1.kept (t':=tk) fun b o e=>qc _ e,qcj _ lo (hi - lo).toNat,?_,fun b hb=>?_,q⟩
  · have e1:lo+((0:Nat):Int) * 1=lo:=by simp
    have e2:(((hi - lo).toNat:Nat):Int) - ((0:Nat):Int)=Builtin.Range.rangeSize lo hi 1:=by rw [rangeSize_one];split <;> omega
    show IsRangeIter _ _ (lo+((0:Nat):Int) * 1) ((((hi - lo).toNat:Nat):Int) - ((0:Nat):Int)) 1
    rw [e1,e2]
    exact qC _ rfl
  · have e:b=(s.heap.push { cls:=.type "range",data:=.fields #[.int lo t,.int hi u,.int 1 v] }).objs.size:=by simpa using hb
    subst e
    exact I1.fpOk (qj _) (I1.hok.fresh (qj _))
def iRng1 (ta:TA):TI:=fun σ H R=>ta σ H fun vs H1=>∃ j:Int,vs=[.int j]/\-(2 ^ 62)<=j/\j<2 ^ 62/\R (Itr 0 j.toNat) H1
def iRng2 (ta:TA):TI:=fun σ H R=>ta σ H fun vs H1=>∃ i j:Int,vs=[.int i,.int j]/\(-(2 ^ 62)<=i/\i<2 ^ 62/\-(2 ^ 62)<=j/\j<2 ^ 62)/\R (Itr i (j - i).toNat) H1
theorem qdD {a:Expr}{ta:TA}{p pos:Pos}(hg:Gl X "range") (hm:X.mg "range" = none) (ha:PA X [a] ta) (hs:starEach [a] X.env=[(false,eval a X.env)]:=by rfl):PI X tg (.Call (.Name "range" p) [a] [] pos) (iRng1 ta):=by
  intro pins s σ H R I h
  refine Call_ (Y3 I hg hm boot_range (PyProof.Rows.callWith_type1 (thn (ha pos pins s σ H _ I h) fun us s1 ⟨vs,H1,I1,r1,q1⟩=>?_) hs rfl))
  obtain ⟨j,e,q1,q2,q⟩:=q1
  subst e
  cases r1 with
  | cons r rr =>
    cases rr
    obtain ⟨t,rfl⟩:=r
    exact call_range_1 (qbJ I1 (by omega) (by omega) q1 q2 (by simpa using q))
theorem qdC {a b:Expr}{ta:TA}{p pos:Pos}(hg:Gl X "range") (hm:X.mg "range" = none) (ha:PA X [a,b] ta) (hs:starEach [a,b] X.env=[(false,eval a X.env),(false,eval b X.env)]:=by rfl) (hs2:starEach [b] X.env=[(false,eval b X.env)]:=by rfl) :
    PI X tg (.Call (.Name "range" p) [a,b] [] pos) (iRng2 ta):=by
  intro pins s σ H R I h
  refine Call_ (Y3 I hg hm boot_range (PyProof.Rows.callWith_type1 (thn (ha pos pins s σ H _ I h) fun us s1 ⟨vs,H1,I1,r1,q1⟩=>?_) (by rw [hs,hs2]) (by rw [hs2];rfl)))
  obtain ⟨i,j,e,⟨q1,q2,q3,q4⟩,q⟩:=q1
  subst e
  cases r1 with
  | cons r rr =>
    cases rr with
    | cons r' rr =>
      cases rr
      obtain ⟨t,rfl⟩:=r
      obtain ⟨t',rfl⟩:=r'
      exact call_range_2 (qbJ I1 q1 q2 q3 q4 q)
def tFor (wi:TI) (g:TG) (tb:TS):TS:=fun D σ H=>wi σ H fun J H1=>∃ W:Nat->Nat->St->Hp->Prop,(∃ m,W 0 m σ H1)/\∀ i m σ H,W i m σ H →
  (J.stop i H/\D.nx σ H)\/(J.go i H/\∃ N:St->Hp->Prop,(∀ σ' H',N σ' H'->∃ m',m'<m/\W (i+1) m' σ' H')/\∀ x H',J.yld i H x H'->g x σ H' fun σ2 H2=>tb { D with nx:=N,ct:=N,bk:=D.nx } σ2 H2)
def qan (fp:List Addr) (h:Heap):List (Addr×Obj):=fp.filterMap fun b=>(h.get? b).map fun o=>(b,o)
theorem Jz {fp:List Addr}{h:Heap}{b:Addr}{o:Obj}(hb:b∈fp) (e:h.get? b=some o):(b,o)∈qan fp h:=List.mem_filterMap.mpr ⟨b,hb,by rw [e];rfl⟩
theorem qdJ {fp:List Addr}{h:Heap}{p:Addr×Obj}(hp:p∈qan fp h):p.1∈fp/\h.get? p.1=some p.2:=by
  obtain ⟨b,hb,e⟩:=List.mem_filterMap.mp hp
  cases q:h.get? b with
  | none=>rw [q] at e;cases e
  | some o =>
    rw [q] at e
    have e':(b,o)=p:=Option.some.inj e
    subst e'
    exact ⟨hb,q⟩
theorem Inv.pinned {pins:List (Addr×Obj)}{σ:St}{H:Hp}{s:Shared}{fp:List Addr}(I:Inv X pins σ H s) (hf:∀ b∈fp,qe0 X pins H b) (ho:∀ b∈fp,∃ o,s.heap.get? b=some o/\∀ v,o.data≠.cell v):Inv X (pins++qan fp s.heap) σ H s :=
  I.pins_of fun p hp=>(List.mem_append.mp hp).elim (fun z=>I.pin p (qI _ z)) fun z=>by
    obtain ⟨hb,e⟩:=qdJ z
    obtain ⟨f0,f1,f2,_⟩:=hf p.1 hb
    obtain ⟨o,e',d⟩:=ho p.1 hb
    rw [e] at e';cases e'
    exact ⟨e,f0,f1,f2,d⟩
theorem Inv.unpinned {pins pl:List (Addr×Obj)}{σ:St}{H:Hp}{s:Shared}(I:Inv X (pins++pl) σ H s):Inv X pins σ H s:=I.pins_of fun p hp=>I.pin p (qI _ (yE _ hp))
theorem qkb {iter:Expr}{body:List Stmt}{wi:TI}{g:TG}{tb:TS}{pos:Pos}(hp:PassesOwn (model X.prog X.w) X.A X.env X.xe) (hc:X.calm=true) (hi:PI X tg iter wi) (hg:PG X tg g) (hb:PSs X body tb)
    (hs:∀ x,foldedSetIterable iter X.env x=pure x:=by intro _;rfl):PS X (.For tg iter body [] pos) (tFor wi g tb):=by
  intro pins s σ H D I h
  refine wpAny_For (thn (hi pins s σ H _ I h) fun v s1 h1=>thn h1 fun itv s2 h2=>?_) hs
  obtain ⟨it,fp,tn,J,H2,e,I2,T,st2,f2,W,⟨m0,w0⟩,turn⟩:=h2
  subst e
  -- what stays true of the iterator's objects through the loop
  have stat:∀ {H':Hp},(∀ b∈fp,H' b=none)->∀ b∈fp,qe0 X pins H' b:=fun hn b hb=>⟨hn b hb,(f2 b hb).2⟩
  refine codeAny_forLoop_any (fun n s'=>∃ i σ' H',Inv X pins σ' H' s'/\tn i s'.heap/\(∀ b∈fp,H' b=none)/\W i n σ' H') ?_ m0 ⟨0,σ,H2,I2,st2,fun b hb=>(f2 b hb).1,w0⟩
  rintro n s3 ⟨i,σ3,H3,I3,st3,fr3,w3⟩
  rcases turn i n σ3 H3 w3 with ⟨stop,qn⟩ | ⟨go,N,hN,step⟩
  · refine wpAny_passesOwn hp (thn (T.done X rfl rfl rfl hc i pins s3 σ3 H3 X.xe I3 (stat fr3) st3 stop) fun r s4 ⟨hr,I4⟩=>?_)
    subst hr
    exact wpAny_execs_nil ⟨σ3,H3,I4,qn⟩
  · refine wpAny_passesOwn hp (thn (T.item X rfl rfl rfl hc i pins s3 σ3 H3 X.xe I3 (stat fr3) st3 go) fun r s4 ⟨u,hr,h4⟩=>?_)
    subst hr
    refine wpAny_passesOwn hp (thn h4 fun _ s5 ⟨x,H5,I5,r5,y5,st5,fr5⟩=>?_)
    have I5':=I5.pinned (stat fr5) (T.obj _ _ st5)
    refine wpAny_passesOwn hp (thn (hg _ s5 σ3 H5 x u _ I5' r5 (step x H5 y5)) fun _ s6 ⟨σ6,H6,I6,q6⟩=>?_)
    refine wpAny_passesOwn hp (thn (hb _ s6 σ6 H6 _ I6 q6) fun f s7 q7=>?_)
    have again:∀ {σ7:St}{H7:Hp},Inv X (pins++qan fp s5.heap) σ7 H7 s7->N σ7 H7->∃ m,m<n/\∃ i σ' H',Inv X pins σ' H' s7/\tn i s7.heap/\(∀ b∈fp,H' b=none)/\W i m σ' H':=fun {σ7 H7} I7 n7=>by
      obtain ⟨m',hm,w7⟩:=hN σ7 H7 n7
      refine ⟨m',hm,i+1,σ7,H7,I7.unpinned,T.keep _ _ _ st5 fun b hb o e=>(I7.pin (b,o) (qI _ (qI _ (Jz hb e)))).1,fun b hb=>?_,w7⟩
      obtain ⟨o,e,d⟩:=T.obj _ _ st5 b hb
      exact (I7.pin (b,o) (qI _ (qI _ (Jz hb e)))).2.1
    cases f with
    | next=>obtain ⟨σ7,H7,I7,n7⟩:=q7;exact again I7 n7
    | cont=>obtain ⟨σ7,H7,I7,n7⟩:=q7;exact again I7 n7
    | brk=>obtain ⟨σ7,H7,I7,q7⟩:=q7;exact ⟨σ7,H7,I7.unpinned,q7⟩
    | ret v=>obtain ⟨x7,σ7,H7,I7,r7,q7⟩:=q7;exact ⟨x7,σ7,H7,I7.unpinned,r7,q7⟩
end
abbrev R2:=V->V->Hp->VK->Prop
def OpR (X:Cx) (f:Value->Value->Sem Value) (r:R2):Prop :=
  ∀ (pins:List (Addr×Obj)) (s:Shared) (σ:St) (H:Hp) (x y:V) (v u:Value) (Q:VK),Inv X pins σ H s->jL x v->jL y u->r x y H Q →
    wpAny (model X.prog X.w) X.A (f v u) (EP X pins σ Q) X.xe s
def UnR (X:Cx) (f:Value->Sem Value) (r:V->Hp->VK->Prop):Prop :=
  ∀ (pins:List (Addr×Obj)) (s:Shared) (σ:St) (H:Hp) (x:V) (v:Value) (Q:VK),Inv X pins σ H s->jL x v->r x H Q →
    wpAny (model X.prog X.w) X.A (f v) (EP X pins σ Q) X.xe s
def yL (X:Cx) (f:Value) (r:List V->Hp->VK->Prop):Prop :=
  ∀ (pins:List (Addr×Obj)) (s:Shared) (σ:St) (H:Hp) (xs:List V) (us:List Value) (Q:VK),Inv X pins σ H s->yz xs us->r xs H Q →
    wpAny (model X.prog X.w) X.A (call f us) (EP X pins σ Q) X.xe s
def tOp (r:R2) (ta tb:TE):TE:=fun σ H Q=>ta σ H fun x H1=>tb σ H1 fun y H2=>r x y H2 Q
def tUn (r:V->Hp->VK->Prop) (ta:TE):TE:=fun σ H Q=>ta σ H fun x H1=>r x H1 Q
def rI (C:Int->Int->Prop) (g:Int->Int->V):R2:=fun x y H Q=>∃ i j,x = .int i/\y = .int j/\C i j/\Q (g i j) H
def rI0 (g:Int->Int->V):R2:=fun x y H Q=>∃ i j,x = .int i/\y = .int j/\Q (g i j) H
def rU (g:Int->V):V->Hp->VK->Prop:=fun x H Q=>∃ i,x = .int i/\Q (g i) H
section
variable {X:Cx}{a b c:Expr}{ta tb tc:TE}{pos:Pos}
theorem binT (ha:PE X a ta) (hb:PE X b tb) {pins:List (Addr×Obj)}{s:Shared}{σ:St}{H:Hp}{R:V->V->Hp->Prop}(I:Inv X pins σ H s)
    (h:ta σ H fun x H1=>tb σ H1 fun y H2=>R x y H2) {Q:Value->Shared->Prop}{f:Value->Value->Sem Value}
    (hf:∀ v u s2 x y H2,Inv X pins σ H2 s2->jL x v->jL y u->R x y H2->wpAny (model X.prog X.w) X.A (f v u) Q X.xe s2) :
    wpAny (model X.prog X.w) X.A (eval a X.env) (fun v s₁=>wpAny (model X.prog X.w) X.A (eval b X.env) (fun u s₂=>wpAny (model X.prog X.w) X.A (f v u) Q X.xe s₂) X.xe s₁) X.xe s:=by
  refine thn (ha pins s σ H _ I h) fun v s1 hq9=>?_
  obtain ⟨x,H1,I1,r1,q1⟩:=hq9
  refine thn (hb pins s1 σ H1 _ I1 q1) fun u s2 hq9=>?_
  obtain ⟨y,H2,I2,r2,q2⟩:=hq9
  exact hf v u s2 x y H2 I2 r1 r2 q2
theorem Zg {op:Operator}{r:R2}(ho:OpR X (binaryOp op) r) (ha:PE X a ta) (hb:PE X b tb):PE X (.BinOp a op b pos) (tOp r ta tb):=by
  intro pins s σ H Q I h
  exact wpAny_BinOp (binT ha hb I h fun v u s2 x y H2 I2 rx ry q=>ho pins s2 σ H2 x y v u Q I2 rx ry q)
theorem pe_un {op:UnaryOp}{r:V->Hp->VK->Prop}(ho:UnR X (unaryOp op) r) (ha:PE X a ta):PE X (.UnaryOp op a pos) (tUn r ta):=by
  intro pins s σ H Q I h
  exact UnaryOp_ (thn (ha pins s σ H _ I h) fun v s1 ⟨x,H1,I1,r1,q1⟩=>ho pins s1 σ H1 x v Q I1 r1 q1)
theorem opI {f:Value->Value->Sem Value}{C:Int->Int->Prop}{g:Int->Int->Int}
    (rule:∀ (i j:Int) (t u:Tok) (s:Shared) (Q:Value->Shared->Prop) (E:Value->Shared->Prop),C i j->Q (.int (g i j) s.toks) { s with toks:=s.toks+1 }->wpAny (model X.prog X.w) X.A (f (.int i t) (.int j u)) Q E s) :
    OpR X f (rI C fun i j=>.int (g i j)):=by
  intro pins s σ H x y v u Q I rx ry h
  obtain ⟨i,j,rfl,rfl,hc,q⟩:=h
  obtain ⟨t,rfl⟩:=rx
  obtain ⟨t',rfl⟩:=ry
  exact rule i j t t' s _ _ hc ⟨.int (g i j),H,I.tok _,⟨_,rfl⟩,q⟩
theorem opI0 {f:Value->Value->Sem Value}{g:Int->Int->Int}
    (rule:∀ (i j:Int) (t u:Tok) (s:Shared) (Q:Value->Shared->Prop) (E:Value->Shared->Prop),Q (.int (g i j) s.toks) { s with toks:=s.toks+1 }->wpAny (model X.prog X.w) X.A (f (.int i t) (.int j u)) Q E s) :
    OpR X f (rI0 fun i j=>.int (g i j)):=by
  intro pins s σ H x y v u Q I rx ry h
  obtain ⟨i,j,rfl,rfl,q⟩:=h
  obtain ⟨t,rfl⟩:=rx
  obtain ⟨t',rfl⟩:=ry
  exact rule i j t t' s _ _ ⟨.int (g i j),H,I.tok _,⟨_,rfl⟩,q⟩
theorem opB0 {f:Value->Value->Sem Value}{g:Int->Int->Bool}
    (rule:∀ (i j:Int) (t u:Tok) (s:Shared) (Q:Value->Shared->Prop) (E:Value->Shared->Prop),Q (.bool (g i j)) s->wpAny (model X.prog X.w) X.A (f (.int i t) (.int j u)) Q E s) :
    OpR X f (rI0 fun i j=>.bl (g i j)):=by
  intro pins s σ H x y v u Q I rx ry h
  obtain ⟨i,j,rfl,rfl,q⟩:=h
  obtain ⟨t,rfl⟩:=rx
  obtain ⟨t',rfl⟩:=ry
  exact rule i j t t' s _ _ ⟨.bl (g i j),H,I,rfl,q⟩
def CPow (i j:Int):Prop:=0<=j/\j<=1000000/\i.natAbs<2 ^ 64
def CMul (i j:Int):Prop:=(-(2 ^ 64)<i/\i<2 ^ 64)\/(-(2 ^ 64)<j/\j<2 ^ 64)
theorem CMul.ok {i j:Int}(h:CMul i j):IntMulOk i j:=by
  rcases h with ⟨h1,h2⟩ | ⟨h1,h2⟩
  · exact .of_left (intBits_le_64 h1 h2)
  · exact .of_right (intBits_le_64 h1 h2)
theorem qdH:OpR X (binaryOp .Add) (rI0 fun i j=>.int (i+j)):=opI0 fun _ _ _ _ _ _ _ q=>add_int q
theorem qkn:OpR X (binaryOp .Sub) (rI0 fun i j=>.int (i - j)):=opI0 fun _ _ _ _ _ _ _ q=>sub_int q
theorem qaq:OpR X (binaryOp .Mod) (rI (fun _ j=>0<j) fun i j=>.int (i % j)):=opI fun i j _ _ _ _ _ hc q=>by
  have h1:(0:Int)<j:=hc
  exact mod_int' (by omega) (by rw [Int.fmod_eq_emod_of_nonneg i (by omega)];exact q)
theorem qko:OpR X (binaryOp .Pow) (rI CPow fun i j=>.int (i ^ j.toNat)):=opI fun _ _ _ _ _ _ _ hc q=>pow_int_small hc.1 hc.2.1 hc.2.2 q
theorem unI {f:Value->Sem Value}{g:Int->Int}
    (rule:∀ (i:Int) (t:Tok) (s:Shared) (Q:Value->Shared->Prop) (E:Value->Shared->Prop),Q (.int (g i) s.toks) { s with toks:=s.toks+1 }->wpAny (model X.prog X.w) X.A (f (.int i t)) Q E s) :
    UnR X f (rU fun i=>.int (g i)):=by
  intro pins s σ H x v Q I rx h
  obtain ⟨i,rfl,q⟩:=h
  obtain ⟨t,rfl⟩:=rx
  exact rule i t s _ _ ⟨.int (g i),H,I.tok _,⟨_,rfl⟩,q⟩
theorem qjx:UnR X (unaryOp .USub) (rU fun i=>.int (-i)):=unI fun _ _ _ _ _ q=>neg_int q
end
section
variable {X:Cx}{a b c:Expr}{ta tb tc:TE}{pos:Pos}
theorem op_lt:OpR X (compareOp .Lt) (rI0 fun i j=>.bl (decide (i<j))):=opB0 fun _ _ _ _ _ _ _ q=>lt_int q
theorem op_le:OpR X (compareOp .LtE) (rI0 fun i j=>.bl (decide (i<=j))):=opB0 fun _ _ _ _ _ _ _ q=>le_int q
theorem qkr:OpR X (compareOp .Gt) (rI0 fun i j=>.bl (decide (j<i))):=opB0 fun _ _ _ _ _ _ _ q=>gt_int q
theorem OpR.or {f:Value->Value->Sem Value}{r r':R2}(h:OpR X f r) (h':OpR X f r'):OpR X f (fun x y H Q=>r x y H Q\/r' x y H Q):=by
  intro pins s σ H x y v u Q I rx ry q
  rcases q with q | q
  · exact h pins s σ H x y v u Q I rx ry q
  · exact h' pins s σ H x y v u Q I rx ry q
theorem qY (b:Expr) {op:CmpOp}(h:op≠.In:=by decide) (h2:op≠.NotIn:=by decide):behindInMarks op b=false:=by
  have e1:(op == CmpOp.In)=false:=by cases op <;> first | rfl | exact absurd rfl h
  have e2:(op == CmpOp.NotIn)=false:=by cases op <;> first | rfl | exact absurd rfl h2
  cases b <;> simp [behindInMarks,e1,e2]
theorem qif {op:CmpOp}{r:R2}(ho:OpR X (compareOp op) r) (ha:PE X a ta) (hb:PE X b tb) (hm:behindInMarks op b=false):PE X (.Compare a [op] [b] pos) (tOp r ta tb):=by
  intro pins s σ H Q I h
  exact wpAny_Compare1 (binT ha hb I h fun v u s2 x y H2 I2 rx ry q=>ho pins s2 σ H2 x y v u Q I2 rx ry q) hm
def tTest (t:TE):TT:=fun σ H Q=>t σ H fun x H'=>∃ k,x = .bl k/\Q k H'
theorem qdp {op:CmpOp}{r:R2}(ho:OpR X (compareOp op) r) (ha:PE X a ta) (hb:PE X b tb) (hm:behindInMarks op b=false):PT X (.Compare a [op] [b] pos) (tTest (tOp r ta tb)):=by
  intro pins s σ H Q I h
  refine wpAny_isTrue_Compare1 (thn (ha pins s σ H _ I h) fun v s1 ⟨x,H1,I1,r1,q1⟩=>thn (hb pins s1 σ H1 _ I1 q1) fun u s2 ⟨y,H2,I2,r2,q2⟩ =>
    thn (ho pins s2 σ H2 x y v u _ I2 r1 r2 q2) fun c s3 ⟨z,H3,I3,r3,k,e,q3⟩=>?_) hm
  subst e
  cases r3
  exact wpAny_truthy_bool ⟨H3,I3,q3⟩
def qjC (r r':R2) (ta tb tc:TE):TE:=fun σ H Q=>ta σ H fun x H1=>tb σ H1 fun y H2=>r x y H2 fun z H3=>∃ k,z = .bl k ∧
  (if k=true then tc σ H3 fun w' H4=>r' y w' H4 Q else Q (.bl false) H3)
theorem qfx {op op':CmpOp}{r r':R2}(ho:OpR X (compareOp op) r) (ho':OpR X (compareOp op') r') (ha:PE X a ta) (hb:PE X b tb) (hc:PE X c tc)
    (hm:lastMarks [op,op'] [b,c]=false:=by with_unfolding_all rfl):PE X (.Compare a [op,op'] [b,c] pos) (qjC r r' ta tb tc):=by
  intro pins s σ H Q I h
  refine Compare_chain (thn (ha pins s σ H _ I h) fun v s1 ⟨x,H1,I1,r1,q1⟩=>chain_link (thn (hb pins s1 σ H1 _ I1 q1) fun u s2 ⟨y,H2,I2,r2,q2⟩ =>
    thn (ho pins s2 σ H2 x y v u _ I2 r1 r2 q2) fun d s3 ⟨z,H3,I3,r3,k,e,q3⟩=>?_)) hm
  subst e
  cases r3
  refine wpAny_truthy_bool ?_
  cases k with
  | false=>exact ite_ff ⟨.bl false,H3,I3,rfl,q3⟩
  | true=>exact ite_tt (chain_last (thn (hc pins s3 σ H3 _ I3 q3) fun w' s4 ⟨z',H4,I4,r4,q4⟩=>ho' pins s4 σ H4 y z' u w' Q I4 r2 r4 q4))
theorem qbZ:(sizeLine:Nat)<2 ^ 63:=by rw [sizeLine_eq];decide
theorem YS {x:V}{us:List Value}(r:yz [x] us):∃ u,us=[u]/\jL x u:=by
  cases r with
  | cons r1 r2=>cases r2;exact ⟨_,rfl,r1⟩
theorem qhF {x y:V}{us:List Value}(r:yz [x,y] us):∃ u w',us=[u,w']/\jL x u/\jL y w':=by
  cases r with
  | cons r1 r2 =>
    cases r2 with
    | cons r3 r4=>cases r4;exact ⟨_,_,rfl,r1,r3⟩
theorem qf8:yL X (.builtin "abs") (fun xs H Q=>∃ i,xs=[.int i]/\Q (.int (if i<0 then -i else i)) H):=by
  intro pins s σ H xs us Q I r h
  obtain ⟨i,rfl,q⟩:=h
  obtain ⟨u,rfl,t,rfl⟩:=YS r
  exact call_abs_int fun u tk=>⟨.int (if i<0 then -i else i),H,I.tok _,⟨_,rfl⟩,q⟩
theorem qeK (hc:X.calm=true):yL X (.builtin "max") (fun xs H Q=>∃ i j,xs=[.int i,.int j]/\Q (.int (if j > i then j else i)) H):=by
  intro pins s σ H xs us Q I r h
  obtain ⟨i,j,rfl,q⟩:=h
  obtain ⟨u,w',rfl,⟨t,rfl⟩,⟨t',rfl⟩⟩:=qhF r
  refine max_two_ints (I.ok.hd hc) fun h' tk k=>⟨_,H,I.kept k,?_,q⟩
  by_cases hj:j > i
  · rw [if_pos hj,if_pos hj];exact ⟨_,rfl⟩
  · rw [if_neg hj,if_neg hj];exact ⟨_,rfl⟩
theorem qeI (hc:X.calm=true):yL X (.builtin "min") (fun xs H Q=>∃ i j,xs=[.int i,.int j]/\Q (.int (if j<i then j else i)) H):=by
  intro pins s σ H xs us Q I r h
  obtain ⟨i,j,rfl,q⟩:=h
  obtain ⟨u,w',rfl,⟨t,rfl⟩,⟨t',rfl⟩⟩:=qhF r
  refine min_two_ints (I.ok.hd hc) fun h' tk k=>⟨_,H,I.kept k,?_,q⟩
  by_cases hj:j<i
  · rw [if_pos hj,if_pos hj];exact ⟨_,rfl⟩
  · rw [if_neg hj,if_neg hj];exact ⟨_,rfl⟩
theorem qeL:yL X (.type "int") (fun xs H Q=>(∃ i,xs=[.int i]/\Q (.int i) H)\/∃ k,xs=[.bl k]/\Q (.int (if k then 1 else 0)) H):=by
  intro pins s σ H xs us Q I r h
  rcases h with ⟨i,rfl,q⟩ | ⟨k,rfl,q⟩
  · obtain ⟨u,rfl,t,rfl⟩:=YS r
    exact call_int_int ⟨.int i,H,I,⟨_,rfl⟩,q⟩
  · obtain ⟨u,rfl,r1⟩:=YS r
    cases r1
    exact call_int_bool ⟨.int (if k then 1 else 0),H,I.tok _,⟨_,rfl⟩,q⟩
end
structure ObjM (h:Heap) (x dx C:Addr) (mA:Str->Option Value):Prop where
  obj:h.get? x=some (W.instObj C dx)
  ns:h.Ns1 dx mA
  ne:dx≠x
theorem qdW {h:Heap}{dx:Addr}{mA:Str->Option Value}(n:h.Ns1 dx mA):∃ od,h.get? dx=some od/\∀ name,W.lookIn name od=some (mA name):=by
  obtain ⟨o,es,ep,ho,hd,hk,_,hm⟩:=n
  refine ⟨o,ho,fun name=>?_⟩
  have e:=hm name
  unfold nsFind findBy at e
  rw [<- Array.find?_toList] at e
  unfold W.lookIn
  rw [hd]
  dsimp only
  split
  · rename_i y q
    rw [q] at e
    exact congrArg some e
  · rename_i q
    rw [q] at e
    have a:es.toList.any (·.refKey)=false:=by
      rw [List.any_eq_false]
      intro y hy
      obtain ⟨z,t,hkey⟩:=hk y (Array.mem_toList_iff.mp hy)
      simp [DictEntry.refKey,hkey]
    have a':¬ es.toList.any (·.refKey)=true:=by rw [a];exact Bool.false_ne_true
    rw [if_neg a']
    exact congrArg some e
theorem ObjM.look {h:Heap}{x dx C:Addr}{mA:Str->Option Value}(I:ObjM h x dx C mA):∃ od,W.InstAt h x (W.instObj C dx) C (some od)/\∀ name,W.lookIn name od=some (mA name) :=
  let ⟨od,ho,hl⟩:=qdW I.ns
  ⟨od,⟨I.obj,rfl,rfl,ho⟩,hl⟩
section
variable {prog:Program}{w:World}{A:Around}{E:Value->Shared->Prop}{s:Shared}{K:W.Frag}{x dx C f:Addr}{mA:Str->Option Value}{name:Str}{v:Value}
end
section
variable {P:Program}{w:World}{H H':Hp}{h h':Heap}{a C dx:Addr}{fs fs':List (Str×V)}
end
structure Cls (K:W.Frag) (C:Addr):Prop where
  pg:W.plainGet K C Str.empty=true
  hd:W.hasDictIn K C=true
  po:W.plainOver K C=true
  sa:W.findIn K (.ref C) "__setattr__" = some (some (.builtin "object.__setattr__"))
theorem Cls.get {K:W.Frag}{C:Addr}(c:Cls K C) (f:Str):W.plainGet K C f=true:=c.pg
structure Con (K:W.Frag) (C:Addr) (f:Str) (v:V) (u:Value):Prop where
  at_:W.findIn K (.ref C) f=some (some u)
  rel:jL v u
  get:W.specialIn K u "__get__" = some none
  cp:W.copiedNames.contains f=false
structure Meth (K:W.Frag) (C:Addr) (m:Str) (f:Addr):Prop where
  at_:W.findIn K (.ref C) m=some (some (.ref f))
  fn:W.isFn K (.ref f)=true
  kp:W.keepIn K (.ref f)=true
section
variable {X:Cx}{pins:List (Addr×Obj)}{σ:St}{H:Hp}{s:Shared}{a C dx:Addr}{fs:List (Str×V)}{f:Str}{v:V}{A:Around}{E:Value->Shared->Prop}
theorem Inv.made (I:Inv X pins σ H s):Inv X pins σ (upd (upd H s.heap.objs.size (.own (s.heap.objs.size+1))) (s.heap.objs.size+1) (.ins C s.heap.objs.size []))
    { s with heap:=(s.heap.push W.emptyDict).push (W.instObj C s.heap.objs.size) }:=by
  have e1:(s.heap.push W.emptyDict).get? s.heap.objs.size=some W.emptyDict:=qC s.heap rfl
  have e2:((s.heap.push W.emptyDict).push (W.instObj C s.heap.objs.size)).get? (s.heap.objs.size+1)=some (W.instObj C s.heap.objs.size):=by
    have:=qC (s.heap.push W.emptyDict) (o:=W.instObj C s.heap.objs.size) rfl
    rwa [Heap.size_push] at this
  have e3:(s.heap.push W.emptyDict).Ns s.heap.objs.size (fun _=>none):=⟨W.emptyDict,#[],_,e1,rfl,(fun e he=>absurd he (by simp)),fun _=>rfl⟩
  have I1:=I.laid (a:=s.heap.objs.size) (o:=.own (s.heap.objs.size+1)) (h':=s.heap.push W.emptyDict) (t':=s.toks) (fun b u q=>qc _ q) (qj _) ⟨_,e1⟩
  refine I1.laid (a:=s.heap.objs.size+1) (o:=.ins C s.heap.objs.size []) (t':=s.toks) (fun b u q=>qc _ q) (Nat.le_of_eq (Heap.size_push _ _)) ?_
  have ne:s.heap.objs.size≠s.heap.objs.size+1:=qz (Nat.lt_succ_self _)
  refine ⟨by rw [ya ne,yf],qZ _,ne,e2,fun _=>none,(Heap.Ns1.of_empty e3).at fun o q=>qc _ q,fun _=>True.intro,fun y hy=>absurd rfl hy⟩
end
section
variable {X:Cx}{o e value:Expr}{f:Str}{pos pos' tpos:Pos}{ta tv:TE}
end
section
variable {X:Cx}{pins:List (Addr×Obj)}{σ:St}{H:Hp}{s:Shared}{A:Around}{E:Value->Shared->Prop}{Q:Value->Shared->Prop}{c:Value}{b:Bool}
inductive TyOf (K:W.Frag) (H:Hp):V->Value->Prop where
  | non:TyOf K H .non (.type "NoneType")
  | bl (x:Bool):TyOf K H (.bl x) (.type "bool")
  | int (i:Int):TyOf K H (.int i) (.type "int")
  | str (x:Str):TyOf K H (.str x) (.type "str")
  | flt (x:UInt64):TyOf K H (.flt x) (.type "float")
  | lst {a:Addr}{xs:List V}(e:H a=some (.lst xs)):TyOf K H (.ref a) (.type "list")
  | frz {a:Addr}{o:Obj}{xs:List V}(e:H a=some (.frz o (.lst xs))):TyOf K H (.ref a) (.type "list")
  | tup {a:Addr}{xs:List V}(e:H a=some (.tup xs)):TyOf K H (.ref a) (.type "tuple")
  | dK {a:Addr}{kvs:List (Key×V)}(e:H a=some (.dK kvs)):TyOf K H (.ref a) (.type "dict")
  | dT {a:Addr}{kvs:List (List Key×V)}(e:H a=some (.dT kvs)):TyOf K H (.ref a) (.type "dict")
  | ins {a C dx:Addr}{fs:List (Str×V)}(e:H a=some (.ins C dx fs)) (cl:Cls K C) (ha:W.findIn K (.ref C) "__class__" = some (some (.builtin "object.__class__")))
      (hn:W.specialIn K (.builtin "object.__class__") "__get__" = some (some (.builtin "getset_descriptor.__get__"))) (htk:W.takesIn K (.builtin "object.__class__")=some true)
      (hm:W.mroIn K C (.type "object")=some true):TyOf K H (.ref a) (.ref C)
end
structure Room (k:Nat) (A:Around):Prop where
  hd:A.handled=none
  dp:A.depth+3 * k+5<recursionLimit
  un:A.units+16 * k+200<cLine
theorem Room.mono {j k:Nat}{A:Around}(r:Room k A) (h:j<=k):Room j A:=⟨r.hd,by have:=r.dp;omega,by have:=r.un;omega⟩
theorem Room.deeper {k:Nat}{A:Around}(r:Room (k+1) A) (env:Env):Room k (A.deeper env) :=
  ⟨r.hd,by have:=r.dp;show A.depth+1+3 * k+5<_;omega,by have:=r.un;show A.units+3+16 * k+200<_;omega⟩
theorem Room.in1 {k:Nat}{A:Around}(r:Room (k+1) A):Room k A.in1 :=
  ⟨r.hd,by have:=r.dp;show A.depth+3 * k+5<_;omega,by have:=r.un;show A.units+1+16 * k+200<_;omega⟩
theorem Room.depth {k:Nat}{A:Around}(r:Room k A):A.depth<recursionLimit:=by have:=r.dp;omega
theorem Room.units {k:Nat}{A:Around}(r:Room k A):A.units+64<cLine:=by have:=r.un;omega
def tNil:TA:=fun _ H Q=>Q [] H
def tCons (ta:TE) (tr:TA):TA:=fun σ H Q=>ta σ H fun x H1=>tr σ H1 fun xs H2=>Q (x::xs) H2
section
variable {X:Cx}{e:Expr}{es:List Expr}{te:TE}{t:TA}{pos:Pos}
theorem qkl:PA X [] tNil:=fun _ _ _ _ H Q I h=>Calls.spliced_nil ⟨[],H,I,.nil,h⟩
theorem qij (ha:PE X e te) (hr:PA X es t) (hs:starEach (e::es) X.env=(false,eval e X.env)::starEach es X.env:=by rfl):PA X (e::es) (tCons te t):=by
  intro pos pins s σ H Q I h
  rw [hs]
  show wpAny _ _ (spliced ((false,eval e X.env)::backTo pos (starEach es X.env))) _ _ s
  refine Calls.spliced_cons (thn (ha pins s σ H _ I h) fun u s1 ⟨x,H1,I1,r1,q1⟩=>?_)
  exact thn (hr pos pins s1 σ H1 _ I1 q1) fun us s2 ⟨xs,H2,I2,r2,q2⟩=>⟨x::xs,H2,I2,.cons r1 r2,q2⟩
def tTup (t:TA):TE:=fun σ H Q=>t σ H fun xs H1=>xs.length<=sizeLine/\∀ p,H1 p=none->Q (.ref p) (upd H1 p (.tup xs))
def tLst (t:TA):TE:=fun σ H Q=>t σ H fun xs H1=>xs.length<=sizeLine/\∀ p,H1 p=none->Q (.ref p) (upd H1 p (.lst xs))
theorem qke {x1} (h:PA X es t):PE X (.Tuple es x1 pos) (tTup t):=by
  intro pins s σ H Q I hq
  refine wpAny_Tuple_spliced (thn (h pos pins s σ H _ I hq) fun us s1 ⟨xs,H1,I1,r,z,q⟩=>⟨by rw [<- r.length];exact z,?_⟩)
  have hf:H1 s1.heap.objs.size=none:=I1.hok.fresh (qj _)
  refine ⟨.ref s1.heap.objs.size,upd H1 s1.heap.objs.size (.tup xs),I1.laid (t':=s1.toks) (fun b u e=>qc _ e) (qj _) ?_,rfl,q _ hf⟩
  exact ⟨z,us,r,⟨_,qC _ rfl,rfl,_,rfl⟩⟩
theorem qgZ (h:PA X es t):PE X (.List es pos) (tLst t):=by
  intro pins s σ H Q I hq
  refine wpAny_List_spliced (thn (h pos pins s σ H _ I hq) fun us s1 ⟨xs,H1,I1,r,z,q⟩=>⟨by rw [<- r.length];exact z,?_⟩)
  have hf:H1 s1.heap.objs.size=none:=I1.hok.fresh (qj _)
  refine ⟨.ref s1.heap.objs.size,upd H1 s1.heap.objs.size (.lst xs),I1.laid (t':=s1.toks) (fun b u e=>qc _ e) (qj _) ?_,rfl,q _ hf⟩
  exact ⟨z,us,0,r,qC _ rfl⟩
end
abbrev Sp:=List V->Hp->VK->XK->Prop
abbrev CXT:=List Env->Hp->Shared->XK->Value->Shared->Prop
structure Env0 (P:Program) (w:World) (K:W.Frag) (mg:Str->Option Value) (base:Heap) (A:Around) (outer:List Env) (s:Shared) (H:Hp):Prop where
  frames:A.frames=some outer
  mod:Mod K mg base
  bs:∀ b o,base.get? b=some o->s.heap.get? b=some o/\H b=none
  bsz:base.objs.size<=s.heap.objs.size
  funs:s.heap.FunFrames base outer
  frf:∀ b∈frs outer,H b=none
  hok:HOk P w H s.heap
  bare:AllBare s.gens
def CE (outer:List Env) (P:Program) (w:World) (H:Hp) (s:Shared) (Q:VK) (u:Value) (s':Shared):Prop :=
  ∃ v H',s'.os=s.os/\AllBare s'.gens/\Un (frs outer) [] H H' s.heap s'.heap/\HOk P w H' s'.heap/\jL v u/\Q v H'
def CR (CX:CXT) (outer:List Env) (P:Program) (w:World) (H:Hp) (s:Shared) (Q:VK) (E:XK) (r:Result) (s':Shared):Prop :=
  match r with
  | .ok (.ret u)=>CE outer P w H s Q u s'
  | .ok _=>False
  | .error e=>CX outer H s E e s'
structure FnOk (P:Program) (w:World) (K:W.Frag) (mg:Str->Option Value) (base:Heap) (CX:CXT) (k:Nat) (f:Addr) (fd:FuncData) (ps:List Str) (sp:Sp):Prop where
  len:∀ vs H Q E,sp vs H Q E->vs.length=ps.length
  run:∀ (A:Around) (outer:List Env) (s:Shared) (H:Hp) (args:Args) (us:List Value) (vs:List V) (Q:VK) (E:XK),Room k A->Env0 P w K mg base A outer s H->BindsTo s fd args (ps.zip us)->yz vs us->sp vs H Q E →
    codeAny (model P w) A (.call (.ref f) args) (CR CX outer P w H s Q E) s
theorem FnOk.mono {P:Program}{w:World}{K:W.Frag}{mg:Str->Option Value}{base:Heap}{CX:CXT}{j k:Nat}{f:Addr}{fd:FuncData}{ps:List Str}{sp:Sp}(F:FnOk P w K mg base CX j f fd ps sp) (h:j<=k) :
    FnOk P w K mg base CX k f fd ps sp:=⟨F.len,fun A outer s H args us vs Q E hr=>F.run A outer s H args us vs Q E (hr.mono h)⟩
theorem FnOk.imp {P:Program}{w:World}{K:W.Frag}{mg:Str->Option Value}{base:Heap}{CX:CXT}{k:Nat}{f:Addr}{fd:FuncData}{ps:List Str}{sp sp':Sp}(F:FnOk P w K mg base CX k f fd ps sp)
    (h:∀ vs H Q E,sp' vs H Q E->sp vs H Q E):FnOk P w K mg base CX k f fd ps sp' :=
  ⟨fun vs H Q E q=>F.len vs H Q E (h _ _ _ _ q),fun A outer s H args us vs Q E hr he hb hv hs=>F.run A outer s H args us vs Q E hr he hb hv (h _ _ _ _ hs)⟩
theorem Env0.in1 {P:Program}{w:World}{K:W.Frag}{mg:Str->Option Value}{base:Heap}{A:Around}{outer:List Env}{s:Shared}{H:Hp}(e:Env0 P w K mg base A outer s H) :
    Env0 P w K mg base A.in1 outer s H:=⟨e.frames,e.mod,e.bs,e.bsz,e.funs,e.frf,e.hok,e.bare⟩
section
variable {X:Cx}{pins:List (Addr×Obj)}{σ:St}{H:Hp}{s s':Shared}
theorem Inv.env0 (I:Inv X pins σ H s):Env0 X.prog X.w X.K X.mg X.base X.A X.stack s H :=
  ⟨I.ok.frames,I.ok.mod,I.bs,qF I.ok.bsz I.sz,I.stack,I.stkFree,I.hok,I.bare⟩
theorem Inv.after {Q:VK}{u:Value}(I:Inv X pins σ H s) (h:CE X.stack X.prog X.w H s Q u s'):EP X pins σ Q u s':=by
  obtain ⟨v,H',os,bare,un,hok,r,q⟩:=h
  obtain ⟨hh,g,d,t,os'⟩:=s'
  obtain rfl:os'=s.os:=os
  exact ⟨v,H',I.call (h':=hh) (g':=g) (d':=d) (t':=t) (ch:=[]) un hok bare (fun b z=>absurd z (by simp)),r,q⟩
end
def qjD (sp:Sp) (dvs:List V) (E:XK) (t:TA):TE:=fun σ H Q=>t σ H fun vs H1=>sp (vs++dvs) H1 Q E
def qbr (K:W.Frag) (fd:FuncData) (ps:List Str) (ds:List Value):Prop :=
  ∀ (s:Shared) (us:List Value),K.In s.heap->(us++ds).length=ps.length->BindsTo s fd ⟨us,[]⟩ (ps.zip (us++ds))
theorem qbr.all {K:W.Frag}{fd:FuncData}{ps:List Str}(h:∀ us:List Value,us.length=ps.length->bindArgs fd ⟨us,[]⟩=pure (ps.zip us)):qbr K fd ps []:=fun s us _ hl=>by
  rw [List.append_nil] at hl ⊢
  exact .of_eq (h us hl)
def qeV (CX:CXT) (X:Cx) (E:XK):Prop:=∀ (pins:List (Addr×Obj)) (σ:St) (H:Hp) (s:Shared) (e:Value) (s':Shared),Inv X pins σ H s->CX X.stack H s E e s'->X.xe e s'
section
variable {X:Cx}{CX:CXT}{k:Nat}{f C:Addr}{fd:FuncData}{ps:List Str}{sp:Sp}{dvs:List V}{ds:List Value}{E:XK}{x m:Str}{p pos apos:Pos}{e o:Expr}{es:List Expr}{ta:TE}{t:TA}
theorem qjO {pins:List (Addr×Obj)}{σ:St}{H:Hp}{s:Shared}{Q:VK}{us:List Value}{vs:List V}(F:FnOk X.prog X.w X.K X.mg X.base CX k f fd ps sp) (hr:Room k X.A) (hb:qbr X.K fd ps ds) (hd:yz dvs ds) (hx:qeV CX X E)
    (I:Inv X pins σ H s) (r:yz vs us) (h:sp (vs++dvs) H Q E):wpAny (model X.prog X.w) X.A (call (.ref f) us) (EP X pins σ Q) X.xe s:=by
  have r2:yz (vs++dvs) (us++ds):=r.append hd
  have hl:(us++ds).length=ps.length:=by rw [<- r2.length];exact F.len _ _ _ _ h
  refine wpAny_call (codeAny_mono (F.run X.A X.stack s H ⟨us,[]⟩ (us++ds) (vs++dvs) Q E hr I.env0 (hb s us I.kIn hl) r2 h) fun r s' hq=>?_)
  cases r with
  | error e=>exact hx pins σ H s e s' I hq
  | ok fl =>
    cases fl with
    | ret u=>exact I.after hq
    | next=>exact False.elim hq
    | brk=>exact False.elim hq
    | cont=>exact False.elim hq
theorem qig (F:FnOk X.prog X.w X.K X.mg X.base CX k f fd ps sp) (hr:Room k X.A) (hg:Gl X x) (hm:X.mg x=some (.ref f)) (hk:W.keepIn X.K (.ref f)=true) (hb:qbr X.K fd ps ds) (hd:yz dvs ds) (hx:qeV CX X E)
    (ha:PA X (e::es) t) (hdb:(x == ("__debug__" : Str))=false:=by decide) (he:starEach (e::es) X.env=(false,eval e X.env)::starEach es X.env:=by rfl) (hpl:(backTo pos (starEach es X.env)).any (·.1)=false:=by rfl) :
    PE X (.Call (.Name x p) (e::es) [] pos) (qjD sp dvs E t):=by
  intro pins s σ H Q I h
  refine wpAny_Call_Name_kw (qiD I hg hm ?_ hdb)
  refine W.callWith_K (h₀:=X.base) I.ok.mod.kin hk (thn (ha pos pins s σ H _ I h) fun us s1 ⟨vs,H1,I1,r,q⟩=>⟨I1.kIn,?_⟩) he hpl
  exact qjO F hr hb hd hx I1 r q
structure Mk (K:W.Frag) (C f:Addr):Prop where
  makes:W.makesIn K C=true
  init:W.findIn K (.ref C) "__init__" = some (some (.ref f))
  fn:W.isFn K (.ref f)=true
  kp:W.keepIn K (.ref C)=true
end
section
variable {X:Cx}{CX:CXT}{k:Nat}{f C:Addr}{fd:FuncData}{ps ks:List Str}{sp:Sp}{E:XK}{x m:Str}{p pos apos kpos:Pos}{e o:Expr}{es:List Expr}{kws:List Keyword}{te ta:TE}{t tk:TA}{nm:Option Str}
structure KBinds (K:W.Frag) (fd:FuncData) (ps ks:List Str) (g:List Value->List Value->List Value) (gV:List V->List V->List V):Prop where
  to:∀ (s:Shared) (us ws:List Value),K.In s.heap->(g us ws).length=ps.length->BindsTo s fd ⟨us,ks.zip ws⟩ (ps.zip (g us ws))
  rel:∀ {vs:List V}{us:List Value}{zs:List V}{ws:List Value},yz vs us->yz zs ws->yz (gV vs zs) (g us ws)
variable {g:List Value->List Value->List Value}{gV:List V->List V->List V}
end
structure FnScope (N P:List Str) (sc:Scope):Prop where
  kind:sc.kind = .function
  co:sc.isCoroutine=false
  gen:sc.isGenerator=false
  nd:N.Nodup
  pre:N.take P.length=P
  par:∀ x∈P,sc.names.lookup x=some .local\/sc.names.lookup x=some .cell
  nofree:∀ y∈sc.names,y.2≠.free
theorem qaJ {kindOf:Str->Option NameKind}{x:Str}:∀ {binds:List (Str×Value)}{m:Str->Option Value},(∀ v,(x,v)∉binds)->bindL kindOf binds m x=m x
  | [],_,_=>rfl
  | (n,v)::r,m,h=>by
    unfold bindL
    rw [qaJ fun w hw=>h w (qg _ hw)]
    split
    · have:x≠n:=by rintro rfl;exact h v ql
      simp [this]
    · rfl
theorem qaL {kindOf:Str->Option NameKind}{x:Str}:∀ {binds:List (Str×Value)}{m:Str->Option Value},(∀ v,(x,v)∉binds)->bindC kindOf binds m x=m x
  | [],_,_=>rfl
  | (n,v)::r,m,h=>by
    unfold bindC
    rw [qaL fun w hw=>h w (qg _ hw)]
    split
    · rfl
    · have:x≠n:=by rintro rfl;exact h v ql
      simp [this]
theorem qaK {kindOf:Str->Option NameKind}{x:Str}{v:Value}:∀ {P:List Str}{vs:List Value}{i:Nat}{m:Str->Option Value},P.Nodup->P[i]?=some x->vs[i]?=some v->kindOf x=some .local →
    bindL kindOf (P.zip vs) m x=some v
  | [],_,_,_,_,h,_,_=>by simp at h
  | _::_,[],_,_,_,_,h,_=>by simp at h
  | p::P,w::vs,0,m,nd,h1,h2,hk=>by
    simp at h1 h2;subst h1;subst h2
    show bindL kindOf ((p,w)::P.zip vs) m p=_
    unfold bindL
    rw [qaJ fun v hv=>(List.nodup_cons.mp nd).1 (List.of_mem_zip hv).1,if_pos hk]
    simp
  | p::P,w::vs,i+1,m,nd,h1,h2,hk=>by
    show bindL kindOf ((p,w)::P.zip vs) m x=_
    unfold bindL
    exact qaK (i:=i) (List.nodup_cons.mp nd).2 (by simpa using h1) (by simpa using h2) hk
theorem qaM {kindOf:Str->Option NameKind}{x:Str}{v:Value}:∀ {P:List Str}{vs:List Value}{i:Nat}{m:Str->Option Value},P.Nodup->P[i]?=some x->vs[i]?=some v->kindOf x≠some .local →
    bindC kindOf (P.zip vs) m x=some v
  | [],_,_,_,_,h,_,_=>by simp at h
  | _::_,[],_,_,_,_,h,_=>by simp at h
  | p::P,w::vs,0,m,nd,h1,h2,hk=>by
    simp at h1 h2;subst h1;subst h2
    show bindC kindOf ((p,w)::P.zip vs) m p=_
    unfold bindC
    rw [qaL fun v hv=>(List.nodup_cons.mp nd).1 (List.of_mem_zip hv).1,if_neg hk]
    simp
  | p::P,w::vs,i+1,m,nd,h1,h2,hk=>by
    show bindC kindOf ((p,w)::P.zip vs) m x=_
    unfold bindC
    exact qaM (i:=i) (List.nodup_cons.mp nd).2 (by simpa using h1) (by simpa using h2) hk
def Zz (N:List Str) (vs:List V):St:=vs.map some++List.replicate (N.length - vs.length) none
def qcE (CX:CXT) (P:Program) (w:World) (K:W.Frag) (mg:Str->Option Value) (base:Heap) (N:List Str) (qual:Str) (scope:Scope) (f:Addr) (cd:Value) (A:Around) (outer:List Env) (s:Shared) (H:Hp) (E:XK):Cx where
  prog:=P
  w:=w
  K:=K
  mg:=mg
  base:=base
  A:=A.deeper (envOfC qual scope s.heap.objs.size f cd)
  N:=N
  s₀:=s
  H₀:=H
  env:=envOfC qual scope s.heap.objs.size f cd
  outer:=outer
  stack:=envOfC qual scope s.heap.objs.size f cd::outer
  ex:=[]
  calm:=true
  fn:=fun _=>true
  pn:=[]
  xe:=fun e s'=>wpAny (model P w) (A.deeper (envOfC qual scope s.heap.objs.size f cd)) (leaving (envOfC qual scope s.heap.objs.size f cd) e) (fun _ s''=>CX outer H s E e s'') (fun e' s''=>CX outer H s E e' s'') s'
theorem qb7 {sc:Scope}{n:Nat}{x:Str}(h:sc.names.lookup x=some .cell):∃ c,(cellsFrom n sc.names []).lookup x=some c:=by
  have q:=W.cellsFrom_some sc.names n [] (.inl h)
  exact Option.isSome_iff_exists.mp q
theorem qd5 {CX:CXT}{P:Program}{w:World}{K:W.Frag}{mg:Str->Option Value}{base:Heap}{N ps:List Str}{qual:Str}{scope:Scope}{f:Addr}{cd:Value}{A:Around}{outer:List Env}{s s1:Shared}{H:Hp}{E:XK}{us:List Value}{vs:List V}
    (S:FnScope N ps scope) (hd:A.handled=none) (e0:Env0 P w K mg base A outer s H) (hl:vs.length=ps.length) (r:yz vs us)
    (x:InCallC s s.heap.objs.size (bindL (envOfC qual scope s.heap.objs.size f cd).kindOf (ps.zip us) fun _=>none) (cellsFrom (s.heap.objs.size+1) scope.names []) (bindC (envOfC qual scope s.heap.objs.size f cd).kindOf (ps.zip us) fun _=>none) s1) :
    Inv (qcE CX P w K mg base N qual scope f cd A outer s H E) [] (Zz N vs) H s1:=by
  have hpl:ps.length<=N.length:=by have:=congrArg List.length S.pre;rw [yb] at this;omega
  obtain ⟨h1,tk,rfl,hk⟩:=x.done
  have noA:∀ b:Addr,b∉(qcE CX P w K mg base N qual scope f cd A outer s H E).ex:=fun b z=>absurd (show b∈([]:List Addr) from z) (by simp)
  refine ⟨⟨e0.mod,S.kind,rfl,rfl,qj _,fun y z c h1 h2=>?_,fun y hy=>?_,fun y c _ h=>?_,fun _=>hd,Around.frames_deeper e0.frames,.inr ⟨rfl,rfl⟩,fun b z=>absurd z (noA b),e0.bs,e0.bsz,fun b _ _=>noA b,fun b z=>absurd z (noA b),e0.funs,e0.frf⟩,
    rfl,e0.bare,Un.kept hk,⟨_,x.toInCall.ns,fun i y v h1 h2 h3=>?_⟩,fun y c h=>⟨_,x.cell y c h⟩,e0.hok.fresh (qj _),fun y c h=>?_,fun p hp=>absurd (show p∈([]:List (Addr×Obj)) from hp) (by simp),e0.hok.kept hk,?_⟩
  · exact name_of_addr x.apart (PySem.mem_of_lookup h1) (PySem.mem_of_lookup h2)
  · have hy:scope.names.lookup y=some .cell\/scope.names.lookup y=some .free:=hy
    rcases hy with hy | hy
    · exact qb7 hy
    · exact absurd rfl (S.nofree _ (PySem.mem_of_lookup hy))
  · exact yH (x.above y c (PySem.mem_of_lookup h))
  · have hi:i<vs.length:=by
      unfold Zz at h2
      by_cases hi:i<vs.length
      · exact hi
      · rw [qT (by simpa using hi)] at h2
        rw [List.getElem?_replicate] at h2
        split at h2 <;> cases h2
    have ha:vs[i]?=some v:=by
      unfold Zz at h2
      rw [qV (by simpa using hi),List.getElem?_map] at h2
      cases e:vs[i]? with
      | none=>rw [e] at h2;cases h2
      | some a=>rw [e] at h2;cases h2;rfl
    obtain ⟨u,hu,rv⟩:=r.get ha
    have hp:ps[i]?=some y:=by
      rw [<- S.pre,List.getElem?_take_of_lt (by omega)];exact h1
    have ndP:ps.Nodup:=by rw [<- S.pre];exact S.nd.sublist (List.take_sublist _ _)
    refine ⟨u,rv,?_⟩
    rcases S.par y (List.mem_of_getElem? hp) with k | k
    · exact .inl ⟨k,qaK ndP hp hu k⟩
    · obtain ⟨c,e⟩:=qb7 (n:=s.heap.objs.size+1) k
      refine .inr ⟨.inl k,c,e,?_⟩
      have q:=x.cell y c e
      rw [qaM ndP hp hu (by show scope.names.lookup y≠_;rw [k];decide)] at q
      exact q
  · exact e0.hok.fresh (yH (x.above y c (PySem.mem_of_lookup h)))
  · unfold Zz
    show _=N.length
    rw [List.length_append,List.length_map,List.length_replicate]
    omega
theorem qk8 {CX:CXT}{P:Program}{w:World}{K:W.Frag}{mg:Str->Option Value}{base:Heap}{k:Nat}{f:Addr}{name qual:Str}{params:Arguments}{body:List Stmt}{scope:Scope}{dV kV doc pm cdv ct oc:Value}{an od:Option Addr}
    {osl:Array (Option Value)}{N ps:List Str}{sp:Sp}(lk:K.lookup f=some ⟨oc,od,.func (W.fnOf name qual params body scope dV kV doc pm an cdv ct),osl⟩) (hcd:W.codeIn K cdv qual=true) (S:FnScope N ps scope)
    (len:∀ vs H Q E,sp vs H Q E->vs.length=ps.length)
    (hbody:∀ (A:Around) (outer:List Env) (s:Shared) (H:Hp) (vs:List V) (Q:VK) (E:XK),Room k (A.deeper (envOfC qual scope s.heap.objs.size f cdv))->sp vs H Q E →
      ∃ t,PSs (qcE CX P w K mg base N qual scope f cdv A outer s H E) body t/\t { nx:=fun _ H'=>Q .non H',rt:=Q } (Zz N vs) H) :
    FnOk P w K mg base CX (k+1) f (W.fnOf name qual params body scope dV kV doc pm an cdv ct) ps sp:=by
  refine ⟨len,fun A outer s H args us vs Q E hr e0 hb r hsp=>?_⟩
  have hl:=len _ _ _ _ hsp
  have KX:K.In s.heap:=e0.mod.kin.keeps fun b o e=>(e0.bs b o e).1
  have lim:s.heap.NoLimit:=e0.mod.nolimit.keeps fun b o e=>(e0.bs b o e).1
  have hkind:∀ y∈ps.zip us,scope.names.lookup y.1=some .local\/(scope.names.lookup y.1=some .cell/\((cellsFrom (s.heap.objs.size+1) scope.names []).lookup y.1).isSome=true):=fun ⟨n,v⟩ hy=>by
    rcases S.par n (List.of_mem_zip hy).1 with q | q
    · exact .inl q
    · exact .inr ⟨q,W.cellsFrom_some _ _ _ (.inl q)⟩
  refine codeAny_call_function hr.depth (KX _ _ lk) rfl S.co S.gen rfl (W.codeRec_of KX hcd) (hb _ _ _ _ ?_)
  refine wpAny_newFunctionEnv_cells S.kind hkind fun env he s1 x=>?_
  subst he
  refine ⟨lim.keeps x.toInCall.keep,codeAny_func ?_⟩
  obtain ⟨t,ht,hq⟩:=hbody A outer s H vs Q E (hr.deeper _) hsp
  have I:Inv (qcE CX P w K mg base N qual scope f cdv A outer s H E) [] (Zz N vs) H s1:=qd5 S hr.hd e0 hl r x
  refine yS (ht [] s1 (Zz N vs) H _ I hq) (fun fl s' hs=>?_) fun e s' hs=>hs
  have fin:∀ {σ':St}{H':Hp}{v:V}{u:Value},Inv (qcE CX P w K mg base N qual scope f cdv A outer s H E) [] σ' H' s'->jL v u->Q v H'->CE outer P w H s Q u s' :=
    fun {σ' H' v u} J rv q=>⟨v,H',J.os,J.bare,J.base,J.hok,rv,q⟩
  cases fl with
  | ret u =>
    obtain ⟨v,σ',H',J,rv,q⟩:=hs
    exact fin J rv q
  | next =>
    obtain ⟨σ',H',J,q⟩:=hs
    exact fin (v:=V.non) (u:=Value.none) J rfl q
  | brk =>
    obtain ⟨_,_,_,q⟩:=hs
    exact False.elim q
  | cont =>
    obtain ⟨_,_,_,q⟩:=hs
    exact False.elim q
section
variable {X:Cx}{x:Str}{p pos:Pos}{e:Expr}{es:List Expr}{t:TA}{id T:String}{r:List V->Hp->VK->Prop}
def tCB (r:List V->Hp->VK->Prop) (t:TA):TE:=fun σ H Q=>t σ H fun vs H1=>r vs H1 Q
theorem qfy (hc:yL X (.builtin id) r) (hg:Gl X x) (hm:X.mg x=none) (hv:bootBuiltins x=some (.builtin id)) (ha:PA X (e::es) t) (hn:x ≠ "__name__" := by decide) (hdb:(x == ("__debug__" : Str))=false:=by decide)
    (he:starEach (e::es) X.env=(false,eval e X.env)::starEach es X.env:=by rfl) (hpl:(backTo pos (starEach es X.env)).any (·.1)=false:=by rfl):PE X (.Call (.Name x p) (e::es) [] pos) (tCB r t):=by
  intro pins s σ H Q I h
  refine wpAny_Call_Name_kw (Y3 I hg hm hv ?_ hn hdb)
  exact PyProof.Rows.callWith_builtin1 (thn (ha pos pins s σ H _ I h) fun us s1 ⟨vs,H1,I1,r1,q1⟩=>hc pins s1 σ H1 vs us Q I1 r1 q1) he hpl
theorem qdF (hc:yL X (.type T) r) (hg:Gl X x) (hm:X.mg x=none) (hv:bootBuiltins x=some (.type T)) (ha:PA X (e::es) t) (hn:x ≠ "__name__" := by decide) (hdb:(x == ("__debug__" : Str))=false:=by decide)
    (he:starEach (e::es) X.env=(false,eval e X.env)::starEach es X.env:=by rfl) (hpl:(backTo pos (starEach es X.env)).any (·.1)=false:=by rfl):PE X (.Call (.Name x p) (e::es) [] pos) (tCB r t):=by
  intro pins s σ H Q I h
  refine wpAny_Call_Name_kw (Y3 I hg hm hv ?_ hn hdb)
  exact PyProof.Rows.callWith_type1 (thn (ha pos pins s σ H _ I h) fun us s1 ⟨vs,H1,I1,r1,q1⟩=>hc pins s1 σ H1 vs us Q I1 r1 q1) he hpl
end
end L2
namespace HT
open PySem PyProof.Rows
section
open PySem.SeqAt
open PySem.AutoSeq1 (wpAny_loadPart')
open PySem.MeetsSeq PySem.MeetsSeq2 PySem.MeetsSeq3
end
section
variable {prog:Program}{w:World}{A:Around}{E:Value->Shared->Prop}{s:Shared}
def sIx (n d:Nat):Option Int->Nat
  | none=>d
  | some v=>if v<0 then (v+(n:Int)).toNat else min v.toNat n
theorem sIx_none (n d:Nat):sIx n d none=d:=rfl
theorem sIx_nat (n d k:Nat):sIx n d (some (k:Int))=min k n:=by
  show (if (k:Int)<0 then ((k:Int)+(n:Int)).toNat else min (k:Int).toNat n)=min k n
  rw [if_neg (by omega),Int.toNat_natCast]
end
end HT
namespace L2
open PySem PySem.Spec PyProof.Rows
abbrev TO:=St->Hp->(Option Int->Hp->Prop)->Prop
def PO (X:Cx) (e:Option Expr) (t:TO):Prop :=
  ∀ (pins:List (Addr×Obj)) (s:Shared) (σ:St) (H:Hp) (Q:Option Int->Hp->Prop),Inv X pins σ H s->t σ H Q →
    wpAny (model X.prog X.w) X.A (evalPart e X.env) (fun u s'=>∃ o H',Inv X pins σ H' s'/\IsPart u o/\Q o H') X.xe s
def qhJ:TO:=fun _ H Q=>Q none H
def tPart (t:TE):TO:=fun σ H Q=>t σ H fun x H1=>∃ i,x = .int i/\Q (some i) H1
section
variable {X:Cx}{e:Expr}{te:TE}{lo hi:Option Expr}{tl th:TO}{pos p2:Pos}
theorem qh7:PO X none qhJ:=by
  intro pins s σ H Q I h
  rw [evalPart_none]
  exact qe ⟨none,H,I,.none,h⟩
theorem qh6 (h:PE X e te):PO X (some e) (tPart te):=by
  intro pins s σ H Q I hw
  rw [evalPart_some]
  refine thn (h pins s σ H _ I hw) fun u s1 hq9=>?_
  obtain ⟨x,H1,I1,r1,q1⟩:=hq9
  obtain ⟨i,rfl,q⟩:=q1
  obtain ⟨t,rfl⟩:=r1
  exact ⟨some i,H1,I1,.int i t,q⟩
def SlR (X:Cx) (r:V->Option Int->Option Int->Hp->VK->Prop):Prop :=
  ∀ (pins:List (Addr×Obj)) (s:Shared) (σ:St) (H:Hp) (x:V) (v vl vu:Value) (lo hi:Option Int) (sl:Addr) (Q:VK),Inv X pins σ H s->jL x v->s.heap.IsSliceOf sl vl vu .none->IsPart vl lo->IsPart vu hi->r x lo hi H Q →
    ∃ T id,typeLookup (.type T) "__getitem__" = pure (some (.builtin id))/\s.TypeIs v T/\wpAny (model X.prog X.w) X.A (getItem v (.ref sl)) (EP X pins σ Q) X.xe s
theorem SlR.or {r r':V->Option Int->Option Int->Hp->VK->Prop}(h:SlR X r) (h':SlR X r'):SlR X (fun x lo hi H Q=>r x lo hi H Q\/r' x lo hi H Q):=by
  intro pins s σ H x v vl vu lo hi sl Q I rx hs pl pu q
  rcases q with q | q
  · exact h pins s σ H x v vl vu lo hi sl Q I rx hs pl pu q
  · exact h' pins s σ H x v vl vu lo hi sl Q I rx hs pl pu q
def tSl (r:V->Option Int->Option Int->Hp->VK->Prop) (te:TE) (tl th:TO):TE:=fun σ H Q=>te σ H fun x H1=>tl σ H1 fun l H2=>th σ H2 fun u H3=>r x l u H3 Q
theorem qfv {r:V->Option Int->Option Int->Hp->VK->Prop}(hr:SlR X r) (he:PE X e te) (hl:PO X lo tl) (hu:PO X hi th):PE X (.Subscript e (.Slice lo hi none p2) pos) (tSl r te tl th):=by
  intro pins s σ H Q I h
  refine Subscript_ (thn (he pins s σ H _ I h) fun v s1 ⟨x,H1,I1,r1,q1⟩=>?_)
  refine wpAny_Slice (thn (hl pins s1 σ H1 _ I1 q1) fun vl s2 ⟨l,H2,I2,pl,q2⟩=>thn (hu pins s2 σ H2 _ I2 q2) fun vu s3 ⟨u,H3,I3,pu,q3⟩=>?_)
  rw [evalPart_none]
  refine qe ?_
  have I4:Inv X pins σ H3 { s3 with heap:=s3.heap.push { cls:=.type "slice",data:=.fields #[vl,vu,.none] } }:=I3.kept (t':=s3.toks) fun b ob q=>qc _ q
  obtain ⟨T,id,hT,ht,hg⟩:=hr pins { s3 with heap:=s3.heap.push { cls:=.type "slice",data:=.fields #[vl,vu,.none] } } σ H3 x v vl vu l u s3.heap.objs.size Q I4 r1 (Heap.IsSliceOf.new ..) pl pu q3
  show wpAny (model X.prog X.w) X.A (subscriptTail e (.Slice lo hi none p2) v (.ref s3.heap.objs.size)) (EP X pins σ Q) X.xe { s3 with heap:=s3.heap.push { cls:=.type "slice",data:=.fields #[vl,vu,.none] } }
  exact tail_any (ops:=[.ref s3.heap.objs.size,v]) ht hT hg (by with_unfolding_all rfl)
def qi8 (xs:List V) (lo hi:Option Int):List V:=(xs.drop (HT.sIx xs.length 0 lo)).take (HT.sIx xs.length xs.length hi - HT.sIx xs.length 0 lo)
theorem qbk (xs:List V) (lo hi:Option Int):(qi8 xs lo hi).length<=xs.length:=by
  unfold qi8
  rw [yb,yi]
  omega
end
def ixN (n:Nat) (i:Int):Option Nat:=if 0<=i then (if i<n then some i.toNat else none) else if -(n:Int)<=i then some (i+n).toNat else none
def atI {α:Type}(xs:List α) (i:Int):Option α:=(ixN xs.length i).bind fun j=>xs[j]?
theorem qd3 {n:Nat}{i:Int}{j:Nat}(h:ixN n i=some j):seqIndex? i n=some j/\j<n/\-(n:Int)<=i/\i<n:=by
  unfold ixN at h
  by_cases h0:0<=i
  · rw [if_pos h0] at h
    by_cases h1:i<n
    · rw [if_pos h1] at h
      have e:i.toNat=j:=Option.some.inj h
      exact ⟨by rw [seqIndex_of h0 h1,e],by omega,by omega,h1⟩
    · rw [if_neg h1] at h;cases h
  · rw [if_neg h0] at h
    by_cases h1:-(n:Int)<=i
    · rw [if_pos h1] at h
      have e:(i+n).toNat=j:=Option.some.inj h
      exact ⟨by rw [seqIndex_neg (by omega) h1,e],by omega,h1,by omega⟩
    · rw [if_neg h1] at h;cases h
theorem qeP {α:Type}{xs:List α}{i:Int}{v:α}(h:atI xs i=some v):∃ j,seqIndex? i xs.length=some j/\xs[j]?=some v/\j<xs.length/\-(xs.length:Int)<=i/\i<xs.length:=by
  unfold atI at h
  cases e:ixN xs.length i with
  | none=>rw [e] at h;cases h
  | some j =>
    rw [e] at h
    obtain ⟨h1,h2,h3,h4⟩:=qd3 e
    exact ⟨j,h1,h,h2,h3,h4⟩
theorem qbo {α:Type}{xs:List α}{j:Nat}{v:α}(h:xs[j]?=some v):atI xs (j:Int)=some v:=by
  have hj:j<xs.length:=(qp.mp h).1
  have e:ixN xs.length (j:Int)=some j:=by
    unfold ixN
    rw [if_pos (by omega),if_pos (by omega)];simp
  unfold atI;rw [e];exact h
theorem qcb {α:Type}(xs:List α) (v:α):atI (xs++[v]) (-1)=some v:=by
  have hl:(xs++[v]).length=xs.length+1:=by simp
  have e:ixN (xs++[v]).length (-1)=some xs.length:=by
    unfold ixN
    rw [hl,if_neg (by decide),if_pos (by omega)]
    congr 1
    omega
  unfold atI
  rw [e]
  show (xs++[v])[xs.length]?=some v
  simp
def qeU (b:Expr):Prop:=∀ o i,subscripted b false o i=operate [o,i] (getItem o i)
def IxR (X:Cx) (r:R2):Prop :=
  ∀ (value slice:Expr) (pins:List (Addr×Obj)) (s:Shared) (σ:St) (H:Hp) (x y:V) (v u:Value) (Q:VK),Inv X pins σ H s->jL x v->jL y u->r x y H Q →
    subscripted slice false v u=operate [v,u] (getItem v u)->wpAny (model X.prog X.w) X.A (subscriptTail value slice v u) (EP X pins σ Q) X.xe s
def MtR (X:Cx) (id:String) (r:V->List V->Hp->VK->Prop):Prop :=
  ∀ (pins:List (Addr×Obj)) (s:Shared) (σ:St) (H:Hp) (x:V) (xs:List V) (v:Value) (us:List Value) (Q:VK),Inv X pins σ H s->jL x v->yz xs us->r x xs H Q →
    wpAny (model X.prog X.w) X.A (call (.builtin id) (v::us)) (EP X pins σ Q) X.xe s
section
variable {X:Cx}{a b:Expr}{ta tb:TE}{pos:Pos}
theorem IxR.or {r r':R2}(h:IxR X r) (h':IxR X r'):IxR X (fun x y H Q=>r x y H Q\/r' x y H Q):=by
  intro value slice pins s σ H x y v u Q I rx ry q hs
  rcases q with q | q
  · exact h value slice pins s σ H x y v u Q I rx ry q hs
  · exact h' value slice pins s σ H x y v u Q I rx ry q hs
theorem MtR.or {id:String}{r r':V->List V->Hp->VK->Prop}(h:MtR X id r) (h':MtR X id r'):MtR X id (fun x xs H Q=>r x xs H Q\/r' x xs H Q):=by
  intro pins s σ H x xs v us Q I rx rs q
  rcases q with q | q
  · exact h pins s σ H x xs v us Q I rx rs q
  · exact h' pins s σ H x xs v us Q I rx rs q
theorem qa3 {r:R2}(hr:IxR X r) (ha:PE X a ta) (hb:PE X b tb) (hs:qeU b):PE X (.Subscript a b pos) (tOp r ta tb):=by
  intro pins s σ H Q I h
  exact Subscript_ (binT ha hb I h fun v u s2 x y H2 I2 rx ry q=>hr a b pins s2 σ H2 x y v u Q I2 rx ry q (hs _ _))
def rIxL (K:W.Frag):R2:=fun x y H Q=>∃ p xs i v,x = .ref p/\y = .int i/\SqL K H p xs/\atI xs i=some v/\Q v H
def rIxT (K:W.Frag):R2:=fun x y H Q=>∃ p xs i v,x = .ref p/\y = .int i/\SqT K H p xs/\atI xs i=some v/\Q v H
theorem JO:IxR X (rIxL X.K):=by
  intro value slice pins s σ H x y v u Q I rx ry h hs
  obtain ⟨p,xs,i,z,rfl,rfl,hq,he,q⟩:=h
  cases rx
  obtain ⟨t,rfl⟩:=ry
  obtain ⟨its,r,pl,hz⟩:=I.list hq
  obtain ⟨j,h1,h2,h3,h4,h5⟩:=qeP he
  obtain ⟨w,ew,rw'⟩:=r.get h2
  have hl:=r.length
  have hn:=qbZ
  have fin:EP X pins σ Q w s:=⟨z,H,I,rw',q⟩
  by_cases h0:0<=i
  · have hj:i.toNat=j:=by
      rw [seqIndex_of h0 h5] at h1
      exact Option.some.inj h1
    exact item_listR pl.isList h0 (by omega) (by rw [hj];simpa using ew) fin hs
  · have hj:(i+(its.toArray.size:Int)).toNat=j:=by
      rw [seqIndex_neg (by omega) h4] at h1
      rw [List.size_toArray,<- hl]
      exact Option.some.inj h1
    exact subscriptTail_builtinR (x:=w) pl.isList.typeIs slot_list_getitem.lookup
      (wpAny_getItem_list_neg (Q:=fun r s'=>r=w/\EP X pins σ Q r s') pl.isList (by omega) (by rw [List.size_toArray] <;> omega) (by omega) (by rw [hj];simpa using ew) ⟨rfl,fin⟩) hs
theorem qk0:IxR X (rIxT X.K):=by
  intro value slice pins s σ H x y v u Q I rx ry h hs
  obtain ⟨p,xs,i,z,rfl,rfl,hq,he,q⟩:=h
  cases rx
  obtain ⟨t,rfl⟩:=ry
  obtain ⟨its,r,pl,hz⟩:=I.tuple hq
  obtain ⟨j,h1,h2,h3,h4,h5⟩:=qeP he
  obtain ⟨w,ew,rw'⟩:=r.get h2
  have hl:=r.length
  have hn:=qbZ
  have fin:EP X pins σ Q w s:=⟨z,H,I,rw',q⟩
  exact subscriptTail_builtinR (x:=w) pl.typeIs slot_tuple_getitem.lookup
    (getItem_tuple (j:=j) (Q:=fun r s'=>r=w/\EP X pins σ Q r s') pl (by omega) (by omega) (by rw [List.size_toArray,<- hl];exact h1) (by simpa using ew) ⟨rfl,fin⟩) hs
theorem qcq (its:List Value) (n j:Nat) (u:Value):Obj.mapSeq (·.setIfInBounds j u) { cls:=.type "list",data:=.seq its.toArray n }={ cls:=.type "list",data:=.seq (its.set j u).toArray n }:=by
  simp [Obj.mapSeq]
theorem Inv.lst {pins:List (Addr×Obj)}{σ:St}{H:Hp}{s:Shared}{p:Addr}{xs:List V}(I:Inv X pins σ H s) (h:H p=some (.lst xs)) :
    ∃ (its:List Value) (n:Nat),yz xs its/\s.heap.get? p=some { cls:=.type "list",data:=.seq its.toArray n }/\xs.length<=sizeLine:=by
  obtain ⟨z,its,n,r,e⟩:=I.hok p _ h
  exact ⟨its,n,r,e,z⟩
theorem Inv.lstUpd {pins:List (Addr×Obj)}{σ:St}{H:Hp}{s:Shared}{p:Addr}{xs ys:List V}{its its':List Value}{n n':Nat}{f:Obj->Obj}(I:Inv X pins σ H s) (h:H p=some (.lst xs))
    (ho:s.heap.get? p=some { cls:=.type "list",data:=.seq its.toArray n }) (hf:f { cls:=.type "list",data:=.seq its.toArray n }={ cls:=.type "list",data:=.seq its'.toArray n' }) (r:yz ys its') (hz:ys.length<=sizeLine) (t:Nat) :
    Inv X pins σ (upd H p (.lst ys)) { s with heap:=s.heap.update p f,toks:=t }:=by
  have e:(s.heap.update p f).get? p=some { cls:=.type "list",data:=.seq its'.toArray n' }:=by
    rw [jp f ho (by rw [hf] <;> rfl),hf]
  refine I.write (x:=p) (e:=p) (by rw [h];trivial) (.inl rfl) (fun b u hb q=>(yK _ _ (Ne.symm hb)).trans q) ⟨_,e⟩ ?_
  exact ⟨hz,its',n',r,e⟩
def rSetL:V->V->V->Hp->(Hp->Prop)->Prop:=fun o i v H Q=>∃ p xs k j,o = .ref p/\i = .int k/\H p=some (.lst xs)/\ixN xs.length k=some j/\Q (upd H p (.lst (xs.set j v)))
theorem ZB:PSet X rSetL:=by
  intro pins s σ H o i v ov iv u Q I ro ri rv h
  obtain ⟨p,xs,k,j,rfl,rfl,hp,hj,q⟩:=h
  cases ro
  obtain ⟨t,rfl⟩:=ri
  obtain ⟨its,n,r,ho,hz⟩:=I.lst hp
  obtain ⟨h1,h2,h3,h4⟩:=qd3 hj
  have hl:=r.length
  have hn:=qbZ
  have I':Inv X pins σ (upd H p (.lst (xs.set j v))) { s with heap:=s.heap.update p (Obj.mapSeq (·.setIfInBounds j u)) } :=
    I.lstUpd hp ho (qcq its n j u) (r.set rv j) (by rw [List.length_set];exact hz) s.toks
  by_cases h0:0<=k
  · have hk:k.toNat=j:=by
      rw [seqIndex_of h0 h4] at h1
      exact Option.some.inj h1
    exact W.ki_setAt ho h0 (by omega) (by rw [List.size_toArray,<- hl];exact h4) (by rw [hk];exact ⟨_,I',q⟩)
  · have hk:(k+(its.toArray.size:Int)).toNat=j:=by
      rw [seqIndex_neg (by omega) h3] at h1
      rw [List.size_toArray,<- hl]
      exact Option.some.inj h1
    exact W.ki_setBack ho (by omega) (by rw [List.size_toArray,<- hl];exact h3) (by omega) (by rw [hk];exact ⟨_,I',q⟩)
theorem qag (lo hi:Option Int) (n:Nat):(sliceBounds lo hi none n).1=((HT.sIx n 0 lo:Nat):Int)/\(sliceBounds lo hi none n).2.1=((HT.sIx n n hi:Nat):Int)/\(sliceBounds lo hi none n).2.2=1:=by
  refine ⟨?_,?_,rfl⟩
  · cases lo with
    | none=>simp [sliceBounds,HT.sIx]
    | some i =>
      simp only [sliceBounds,HT.sIx,Option.getD_none,show (1:Int) > 0 by decide,if_true]
      by_cases h:i<0
      · simp only [h,if_true] <;> omega
      · simp only [h,if_false] <;> omega
  · cases hi with
    | none=>simp [sliceBounds,HT.sIx]
    | some i =>
      simp only [sliceBounds,HT.sIx,Option.getD_none,show (1:Int) > 0 by decide,if_true]
      by_cases h:i<0
      · simp only [h,if_true] <;> omega
      · simp only [h,if_false] <;> omega
theorem ZA (its:List Value) (lo hi:Option Int):slicePick its.toArray lo hi none=((its.drop (HT.sIx its.length 0 lo)).take (HT.sIx its.length its.length hi - HT.sIx its.length 0 lo)).toArray:=by
  obtain ⟨h1,h2,h3⟩:=qag lo hi its.toArray.size
  unfold slicePick
  rw [h1,h2,h3]
  simp only [sliceRange_one,pick_run,List.size_toArray] <;> rfl
def rSlL (K:W.Frag):V->Option Int->Option Int->Hp->VK->Prop:=fun x lo hi H Q=>∃ a xs,x = .ref a/\SqL K H a xs/\∀ p,H p=none->Q (.ref p) (upd H p (.lst (qi8 xs lo hi)))
theorem qhR:SlR X (rSlL X.K):=by
  intro pins s σ H x v vl vu lo hi sl Q I rx hs pl pu h
  obtain ⟨a,xs,rfl,hx,q⟩:=h
  cases rx
  obtain ⟨its,r,ht,hz⟩:=I.list hx
  have hlen:=r.length
  refine ⟨"list",_,slot_list_getitem.lookup,ht.isList.typeIs,?_⟩
  refine wpAny_getItem_list_slice ht.isList hs pl pu .none (by simp) ?_ (by rw [List.size_toArray] <;> omega)
  rw [ZA,<- hlen]
  refine ⟨.ref s.heap.objs.size,_,I.laid (t':=s.toks) (o:=.lst (qi8 xs lo hi)) (fun b ob q=>qc _ q) (qj _) ?_,rfl,q _ (I.hok.fresh (qj _))⟩
  exact ⟨qF (qbk xs lo hi) hz,_,0,(r.drop (HT.sIx xs.length 0 lo)).take (HT.sIx xs.length xs.length hi - HT.sIx xs.length 0 lo),qC _ rfl⟩
theorem qaH:yL X (.builtin "len") (fun xs H Q=>∃ p ys,xs=[.ref p]/\(SqL X.K H p ys\/SqT X.K H p ys)/\Q (.int ys.length) H):=by
  intro pins s σ H xs us Q I r h
  obtain ⟨p,ys,rfl,hq,q⟩:=h
  obtain ⟨u,rfl,rx⟩:=YS r
  cases rx
  have hn:=qbZ
  rcases hq with hq | hq
  · obtain ⟨its,r',pl,hz⟩:=I.list hq
    have hlen:=r'.length
    exact Calls.call_len_list pl.isList (by simp only [List.size_toArray] <;> omega) ⟨.int ys.length,H,I.tok _,⟨s.toks+1,by rw [List.size_toArray,hlen]⟩,q⟩
  · obtain ⟨its,r',pl,hz⟩:=I.tuple hq
    have hlen:=r'.length
    exact len_tuple pl (by simp only [List.size_toArray] <;> omega) ⟨.int ys.length,H,I.tok _,⟨s.toks+1,by rw [List.size_toArray,hlen]⟩,q⟩
theorem yL.or {f:Value}{r r':List V->Hp->VK->Prop}(h:yL X f r) (h':yL X f r'):yL X f (fun xs H Q=>r xs H Q\/r' xs H Q):=by
  intro pins s σ H xs us Q I rs q
  rcases q with q | q
  · exact h pins s σ H xs us Q I rs q
  · exact h' pins s σ H xs us Q I rs q
theorem YA:yL X (.type "list") (fun xs H Q=>∃ p ys,xs=[.ref p]/\(SqL X.K H p ys\/SqT X.K H p ys)/\∀ l,H l=none->Q (.ref l) (upd H l (.lst ys))):=by
  intro pins s σ H xs us Q I r h
  obtain ⟨p,ys,rfl,hq,q⟩:=h
  obtain ⟨u,rfl,rx⟩:=YS r
  cases rx
  have fin:∀ (its:List Value),yz ys its->ys.length<=sizeLine->∀ (h':Heap) (c':Nat),(∀ b o',s.heap.get? b=some o'->h'.get? b=some o') →
      h'.get? s.heap.objs.size=some { cls:=.type "list",dict:=none,data:=.seq its.toArray c',slots:=#[] }->EP X pins σ Q (.ref s.heap.objs.size) { s with heap:=h' }:=fun its r' hz h' c' kp e =>
    ⟨.ref s.heap.objs.size,_,I.laid (t':=s.toks) kp (qj _) (show jT X.prog X.w _ h' _ (.lst ys) from ⟨hz,its,c',r',e⟩),rfl,q _ (I.hok.fresh (qj _))⟩
  rcases hq with hq | hq
  · obtain ⟨its,r',pl,hz⟩:=I.list hq
    have hlen:=r'.length
    obtain ⟨o,ho,hc,n,hd⟩:=pl.isList
    exact call_list_seq p (.inl rfl) ho hc hd (fun h' c' kp e=>fin its r' hz h' c' kp e) (by simp only [List.size_toArray] <;> omega)
  · obtain ⟨its,r',pl,hz⟩:=I.tuple hq
    have hlen:=r'.length
    obtain ⟨o,ho,hc,n,hd⟩:=pl
    exact call_list_seq p (.inr rfl) ho hc hd (fun h' c' kp e=>fin its r' hz h' c' kp e) (by simp only [List.size_toArray] <;> omega)
def tyV (K:W.Frag) (T:String) (x:V) (H:Hp):Prop:=match x with
  | .str _=>T = "str"
  | .int _=>T = "int"
  | .ref p=>(T = "list" /\ ∃ xs,SqL K H p xs)\/(T = "tuple" /\ ∃ o,K.lookup p=some o/\o.cls = .type "tuple" /\ o.dict=none) ∨
      (T = "dict" /\ ((∃ kvs,H p=some (.dK kvs))\/∃ kvs,H p=some (.dT kvs)))\/(T = "set" /\ ∃ S n,H p=some (.set S n))
  | _=>False
theorem qgm {pins:List (Addr×Obj)}{σ:St}{H:Hp}{s:Shared}{T:String}{x:V}{v:Value}(I:Inv X pins σ H s) (r:jL x v) (ty:tyV X.K T x H) :
    s.TypeIs v T/\∀ a,v = .ref a->∃ ob,s.heap.get? a=some ob/\ob.dict=none:=by
  cases x with
  | str z =>
    obtain ⟨t,rfl⟩:=r
    cases (show T = "str" from ty)
    exact ⟨typeIs_str s z t,fun _ e=>nomatch e⟩
  | int i =>
    obtain ⟨t,rfl⟩:=r
    cases (show T = "int" from ty)
    exact ⟨typeIs_int s i t,fun _ e=>nomatch e⟩
  | ref p =>
    cases r
    rcases ty with ⟨rfl,xs,hq⟩ | ⟨rfl,o,hk,hc,hd⟩ | ⟨rfl,hk⟩ | ⟨rfl,S,n,hk⟩
    · obtain ⟨its,_,pl,_⟩:=I.list hq
      refine ⟨pl.isList.typeIs,fun a e=>?_⟩
      cases e
      obtain ⟨o,n,e,c,hd,_⟩:=pl
      exact ⟨o,e,hd⟩
    · refine ⟨⟨o,I.kIn p o hk,hc⟩,fun a e=>?_⟩
      cases e
      exact ⟨o,I.kIn _ o hk,hd⟩
    · have z:∃ o,s.heap.get? p=some o/\o.ExactDict:=by
        rcases hk with ⟨kvs,hk⟩ | ⟨kvs,hk⟩
        · obtain ⟨_,_,_,_,o,_,_,e,ex,_⟩:=I.hok p _ hk
          exact ⟨o,e,ex⟩
        · obtain ⟨_,_,_,_,o,_,_,e,ex,_⟩:=I.hok p _ hk
          exact ⟨o,e,ex⟩
      obtain ⟨o,e,ex⟩:=z
      refine ⟨⟨o,e,ex.1⟩,fun a e2=>?_⟩
      cases e2
      exact ⟨o,e,ex.2.1⟩
    · obtain ⟨o,_,_,_,e,ex,_⟩:=I.hok p _ hk
      refine ⟨⟨o,e,ex.1⟩,fun a e2=>?_⟩
      cases e2
      exact ⟨o,e,ex.2.1⟩
  | _=>exact False.elim ty
def tBM0 (K:W.Frag) (T:String) (r:V->List V->Hp->VK->Prop) (to:TE):TE:=fun σ H Q=>to σ H fun x H1=>tyV K T x H1/\r x [] H1 Q
def tBM (K:W.Frag) (T:String) (r:V->List V->Hp->VK->Prop) (to:TE) (t:TA):TE:=fun σ H Q=>to σ H fun x H1=>tyV K T x H1/\t σ H1 fun xs H2=>r x xs H2 Q
variable {o e:Expr}{es:List Expr}{to:TE}{t:TA}{name:Str}{apos cpos:Pos}{T id:String}{r:V->List V->Hp->VK->Prop}
theorem qkj (pa:PlainAttrs T) (slot:Slot T name id) (hty:typeOf (.builtin id)=pure (.type "method_descriptor")) (hm:MtR X id r) (ho:PE X o to)
    (hbase:attributeBase o name X.env (eval o X.env)=eval o X.env:=by rfl) (hline:(apos.endLine == cpos.line)=true:=by rfl):PE X (.Call (.Attribute o name apos) [] [] cpos) (tBM0 X.K T r to):=by
  intro pins s σ H Q I h
  refine wpAny_Call_method0_late hbase hline (thn (ho pins s σ H _ I h) fun v s1 ⟨x,H1,I1,r1,ty,q1⟩=>?_)
  obtain ⟨h1,h2⟩:=qgm I1 r1 ty
  exact ⟨T,id,pa,slot,hty,h1,h2,Calls.callWith_builtin rfl (PySem.evalArgs_none (hm pins s1 σ H1 x [] v [] Q I1 r1 .nil q1))⟩
theorem qih (pa:PlainAttrs T) (slot:Slot T name id) (hty:typeOf (.builtin id)=pure (.type "method_descriptor")) (hm:MtR X id r) (ho:PE X o to) (ha:PA X (e::es) t)
    (hbase:attributeBase o name X.env (eval o X.env)=eval o X.env:=by rfl)
    (hfew:((backTo cpos (starEach (e::es) X.env)).all (fun x=>!x.1) && (backToKw cpos (keywordEach [] X.env)).all (fun x=>x.1.isSome)
      && decide ((e::es).length+([]:List Keyword).length+(if ([]:List Keyword).isEmpty then 0 else 1)<30))=true:=by rfl)
    (hline:(apos.endLine == cpos.line)=true:=by rfl) (hs:starEach (e::es) X.env=(false,eval e X.env)::starEach es X.env:=by rfl) (hplain:(backTo cpos (starEach es X.env)).any (·.1)=false:=by rfl) :
    PE X (.Call (.Attribute o name apos) (e::es) [] cpos) (tBM X.K T r to t):=by
  intro pins s σ H Q I h
  refine wpAny_Call_method_late hbase hfew hline rfl (thn (ho pins s σ H _ I h) fun v s1 ⟨x,H1,I1,r1,ty,q1⟩=>?_)
  obtain ⟨h1,h2⟩:=qgm I1 r1 ty
  refine ⟨T,id,pa,slot,hty,h1,h2,?_⟩
  have hA:=ha cpos pins s1 σ H1 _ I1 q1
  rw [hs] at hA ⊢
  refine Calls.callWith_builtin (by show (false || (backTo cpos (starEach es X.env)).any (·.1))=false;rw [hplain] <;> rfl) (Calls.evalArgs_plain ?_)
  exact thn hA fun us s2 ⟨vs,H2,I2,r2,q2⟩=>hm pins s2 σ H2 x vs v us Q I2 r1 r2 q2
end
def MtM (X:Cx) (id:String) (r:V->List V->Hp->VK->Prop):Prop :=
  ∀ (pins:List (Addr×Obj)) (s:Shared) (σ:St) (H:Hp) (x:V) (xs:List V) (v:Value) (us:List Value) (Q:VK),Inv X pins σ H s->jL x v->yz xs us->r x xs H Q →
    wpAny (model X.prog X.w) X.A (call (.builtin id) (v::us)) (EP X pins σ Q) X.xe s
theorem yz.one:∀ {x:V}{us:List Value},yz [x] us->∃ u,us=[u]/\jL x u
  | _,_,.cons r .nil=>⟨_,rfl,r⟩
theorem yz.two:∀ {x y:V}{us:List Value},yz [x,y] us->∃ u v,us=[u,v]/\jL x u/\jL y v
  | _,_,_,.cons r (.cons q .nil)=>⟨_,_,rfl,r,q⟩
theorem yz.zero:∀ {us:List Value},yz [] us->us=[]
  | _,.nil=>rfl
theorem yz.dropLast {xs:List V}{us:List Value}(h:yz xs us):yz xs.dropLast us.dropLast:=by
  induction h with
  | nil=>exact .nil
  | cons r t ih =>
    cases t with
    | nil=>exact .nil
    | cons q t'=>exact .cons r ih
theorem yz.eraseIdx:∀ {xs:List V}{us:List Value}(i:Nat),yz xs us->yz (xs.eraseIdx i) (us.eraseIdx i)
  | _,_,_,.nil=>.nil
  | _,_,0,.cons _ t=>t
  | _,_,i+1,.cons r t=>.cons r (yz.eraseIdx i t)
theorem yz.reverse {xs:List V}{us:List Value}(h:yz xs us):yz xs.reverse us.reverse:=by
  induction h with
  | nil=>exact .nil
  | cons r t ih=>rw [List.reverse_cons,List.reverse_cons];exact yz.append ih (.cons r .nil)
theorem qcw {α:Type}(l:List α):l.eraseIdx (l.length - 1)=l.dropLast:=by
  induction l with
  | nil=>rfl
  | cons a r ih =>
    cases r with
    | nil=>rfl
    | cons b r =>
      have e:(a::b::r).length - 1=((b::r).length - 1)+1:=by
        have h1:(a::b::r).length=r.length+2:=rfl
        have h2:(b::r).length=r.length+1:=rfl
        omega
      rw [e,List.eraseIdx_cons_succ,ih]
      all_goals rfl
section
variable {X:Cx}{pins:List (Addr×Obj)}{σ:St}{H:Hp}{s:Shared}{l b:Addr}{xs ys zs:List V}
theorem Inv.lset {its its':List Value}{n:Nat}{f:Array Value->Array Value}{t':Nat}(I:Inv X pins σ H s) (hH:H l=some (.lst xs))
    (e:s.heap.get? l=some { cls:=.type "list",data:=.seq its.toArray n }) (hf:f its.toArray=its'.toArray) (hv:yz ys its') (hz:ys.length<=sizeLine) :
    Inv X pins σ (upd H l (.lst ys)) { s with heap:=s.heap.update l (Obj.mapSeq f),toks:=t' }:=by
  have q:=PySem.IsL.update e f
  rw [hf] at q
  refine I.write (x:=l) (e:=l) (by rw [hH];exact trivial) (.inl rfl) (fun b' u hb hu=>(yK s.heap (Obj.mapSeq f) (Ne.symm hb)).trans hu) ⟨_,q⟩ ?_
  exact ⟨hz,its',_,hv,q⟩
theorem Inv.lnew {its:List Value}{t':Nat}(I:Inv X pins σ H s) (hv:yz ys its) (hz:ys.length<=sizeLine) :
    Inv X pins σ (upd H s.heap.objs.size (.lst ys)) { s with heap:=s.heap.push { cls:=.type "list",data:=.seq its.toArray },toks:=t' } :=
  I.laid (fun _ _ q=>qc _ q) (qj _) ⟨hz,its,0,hv,qC _ rfl⟩
theorem Inv.fresh (I:Inv X pins σ H s):H s.heap.objs.size=none:=I.hok.fresh (qj _)
theorem Inv.lstM (I:Inv X pins σ H s) (hH:H l=some (.lst xs)):xs.length<=sizeLine/\∃ (its:List Value) (n:Nat),yz xs its/\xs.length=its.length/\s.heap.get? l=some { cls:=.type "list",data:=.seq its.toArray n }:=by
  obtain ⟨z,its,n,r,e⟩:=I.hok l _ hH
  exact ⟨z,its,n,r,r.length,e⟩
end
section
variable {X:Cx}
def rAppend:V->List V->Hp->VK->Prop:=fun x vs H Q=>∃ l xs y,x = .ref l/\vs=[y]/\H l=some (.lst xs)/\xs.length<sizeLine/\Q .non (upd H l (.lst (xs++[y])))
theorem Y1:MtM X "list.append" rAppend:=by
  intro pins s σ H x vs v us Q I rx rv h
  obtain ⟨l,xs,y,rfl,rfl,hH,hz,q⟩:=h
  cases rx
  obtain ⟨u,rfl,ru⟩:=rv.one
  obtain ⟨z,its,n,r,hl,e⟩:=I.lstM hH
  refine call_meets F.slot_list_append ⟨_,e,rfl⟩ F.entry_list_append (F.args_list_append_2 _ _) (PySem.list_append l its.toArray n u (by rw [List.size_toArray];omega)) ⟨e,?_⟩
  refine ⟨.non,_,I.lset (its':=its++[u]) hH e (by simp) (r.append (.cons ru .nil)) ?_,rfl,q⟩
  rw [List.length_append,List.length_singleton]
  omega
def rPop:V->List V->Hp->VK->Prop:=fun x vs H Q=>∃ l xs y,x = .ref l/\vs=[]/\H l=some (.lst xs)/\xs[xs.length - 1]?=some y/\Q y (upd H l (.lst xs.dropLast))
theorem qkR:MtM X "list.pop" rPop:=by
  intro pins s σ H x vs v us Q I rx rv h
  obtain ⟨l,xs,y,rfl,rfl,hH,hy,q⟩:=h
  cases rx
  have hus:=rv.zero
  subst hus
  obtain ⟨z,its,n,r,hl,e⟩:=I.lstM hH
  obtain ⟨u,hu,ru⟩:=r.get hy
  have hy':its.toArray[its.toArray.size - 1]?=some u:=by
    show its.toArray[its.length - 1]?=some u
    rw [<- qk,<- hl]
    exact hu
  refine call_meets F.slot_list_pop ⟨_,e,rfl⟩ F.entry_list_pop (F.args_list_pop_1 _) (MeetsSeq.list_pop_last l its.toArray n u hy' (by rw [List.size_toArray];omega)) ⟨e,?_⟩
  refine ⟨y,_,I.lset (its':=its.dropLast) hH e ?_ r.dropLast ?_,ru,q⟩
  · show its.toArray.eraseIdxIfInBounds (its.toArray.size - 1)=its.dropLast.toArray
    rw [List.size_toArray,List.eraseIdxIfInBounds_toArray,qcw]
  · rw [List.length_dropLast]
    omega
end
section
variable {prog:Program}{w:World}{A:Around}{E:Value->Shared->Prop}{s:Shared}
set_option maxRecDepth 100000 in
end
section
variable {X:Cx}
end
end L2
namespace Att
open PySem PySem.W PySem.Calls PyProof.Rows
theorem Y4 {P:Params}{h:Heap}:∀ (ns:List Int) (vs:List Value),WellAll P h vs (ns.map WData.int)->IntsAre vs ns:=by
  intro ns
  induction ns with
  | nil =>
    intro vs w
    rw [List.map_nil] at w
    cases w
    exact .nil
  | cons n ns ih =>
    intro vs w
    rw [List.map_cons] at w
    cases w with
    | cons a b =>
      cases a
      exact .cons _ _ (ih _ b)
theorem qc3 {l:OpenLaw}{n:Nat}(hn:l.most=some n) {P:Params}{h:Heap}{args:List WData}{vals:List Value}
    (hpre:l.row.toRowW.claim.pre args=true) (hwl:WellAll P h vals args) :
    ∃ a vs ns,vals=[Value.ref a]/\args=[WData.list (ns.map WData.int)]/\h.get? a=some { cls:=.type "list",data:=.seq vs.toArray }/\IntsAre vs ns/\ns.length<=n:=by
  have hsh:WShape.hasAll [] args [.list .int]=true:=(pre_splitW hpre).1
  have hc:l.pre.holds [] { args:=args }=true:=(pre_splitW hpre).2
  obtain ⟨d,r,rfl,h1,h2⟩:=hasAllW_cons hsh
  obtain rfl:=hasAllW_nil h2
  obtain ⟨xs,rfl,h3⟩:=hasW_list h1
  obtain ⟨ns,rfl⟩:=items_int h3
  have hlen:ns.length<=n:=by
    unfold OpenLaw.pre at hc
    have h4:(WTm.not (.lt (.lit (.int (n:Int))) (.len (.arg 0)))).holds [] { args:=[.list (ns.map .int)] }=true:=by
      have h4:=(holds_andW hc).1
      rw [hn] at h4
      exact h4
    have h5:=condW_of h4 (w_not (w_lt w_lit (w_len_list (w_arg rfl))))
    rw [List.length_map] at h5
    refine Nat.le_of_not_lt fun q=>?_
    have q':(n:Int)<((ns.length:Nat):Int):=by omega
    first
      | (rw [qm q'] at h5;exact absurd h5 (by decide))
      | (simp at h5;omega)
  cases hwl with
  | cons w1 w2 =>
    cases w2
    cases w1 with
    | list ho hall=>exact ⟨_,_,ns,rfl,rfl,ho,Y4 ns _ hall,hlen⟩
theorem qdw (l:OpenLaw) (args:List WData):l.row.toRowW.claim.post args (.bool true) args=true :=
  postW_of (r:=l.row.toRowW) (X:=(true == true))
    (show WShape.has [] (.bool true) .bool=true by first | rfl | decide | simp [WShape.has,WShape.arms,WShape.armsAll])
    (show (WTm.eq .res (.lit (.bool true))).value [] { args:=args,res:=some (.bool true),after:=args }=some (.bool (true == true)) from w_eq_bool (w_res rfl) w_lit) rfl
theorem attach_call {l:OpenLaw}{n:Nat}{q:Program}{loose:List Str}{XP:(Str->Option Value)->Heap->Prop}{YP:World->Heap->Prop}{d:DefRec}
    (hn:l.most=some n) (hdf:d.params.defaults=[])
    (call:∀ (w:World) (s₀ s₁:Shared) (mg mb:Str->Option Value) (fa:Addr) (o:Obj) (pm cd doc:Value) (a:Addr) (vs:List Value) (ns:List Int),
      Ground q loose [] XP w s₀ mg mb s₁.heap->YP w s₁.heap →
      s₁.heap.get? fa=some o->o.data = .func (docDef d.name d.params d.body d.scope pm cd doc)->s₁.heap.CodeRec cd d.name->mg d.name=some (.ref fa) →
      s₁.heap.get? a=some { cls:=.type "list",data:=.seq vs.toArray }->IntsAre vs ns->ns.length<=n->s₁.gens=#[] →
      codeAny (model l.prog w) callerA (.call (.ref fa) ⟨[.ref a],[]⟩) (fun r s'=>r = .ok (.ret (.bool true))/\OldK s₁.heap s'.heap/\s'.os=s₁.os/\AllBare s'.gens) s₁) :
    WalkO q loose XP YP l.row.toRowW d [] (fun f vs=>PySem.call f vs):=by
  intro w s₀ s₁ mg mb G Y fa o pm cd doc dV kV ho hd hcd hD hmg hg args vals as hpre hlay hrd hwl hlo
  obtain rfl:dV = .none:=Dflts.none hD hdf
  obtain rfl:kV = .none:=Dflts.noKw hD
  obtain ⟨a,vs,ns,rfl,rfl,hobj,hints,hlen⟩:=qc3 hn hpre hwl
  refine enter_call (codeAny_mono (call w s₀ s₁ mg mb fa o pm cd doc a vs ns G Y ho (fd_plain hd) hcd hmg hobj hints hlen hg) fun r s' hq=>?_)
  obtain ⟨rfl,h2,h3,h4⟩:=hq
  exact ⟨.inl ⟨.bool true,.bool true,[],rfl,fun _=>rfl,.bool true,qdw l _,fun _=>⟨List.Pairwise.nil,fun _ hm=>(nomatch hm)⟩⟩,h2,h3,h4⟩
section
variable {prog:Program}{w:World}{A:Around}{E:Value->Shared->Prop}{s:Shared}{K:Frag}
def ledger (h:Heap) (L d:Addr):List (Addr×Obj):=(List.range h.objs.size).filterMap fun a=>if a=L\/a=d then none else (h.get? a).map fun o=>(a,o)
end
end Att
namespace L2
open PySem PySem.Spec PyProof.Rows
theorem qab:∀ {vs:List Value}{ns:List Int},IntsAre vs ns->yz (ns.map V.int) vs
  | _,_,.nil=>.nil
  | _,_,.cons n t h=>.cons ⟨t,rfl⟩ (qab h)
def Only (H:Hp):Prop:=∀ b,H b=none\/∃ o xs,H b=some (.frz o (.lst xs))
theorem qfK {P:Program}{w:World}{K:W.Frag}{mg mb:Str->Option Value}{CX:CXT}{k:Nat}{fa a:Addr}{fd:FuncData}{x:Str}{sp:Sp}{s₁:Shared}{vs:List Value}{ns:List Int}
    (KX:K.In s₁.heap) (hns:s₁.heap.Ns mainGlobals mg) (hb:s₁.heap.Ns builtinsNs mb) (hbb:∀ x:Str,x ≠ "__name__" -> mb x=bootBuiltins x) (hlim:s₁.heap.NoLimit) (hg:s₁.gens=#[])
    (ha:s₁.heap.get? a=some { cls:=.type "list",data:=.seq vs.toArray }) (hi:IntsAre vs ns) (hl:ns.length<=sizeLine) (hr:Room k callerA)
    (F:∀ base:Heap,K.In base->base.Ns mainGlobals mg->FnOk P w K mg base CX k fa fd [x] sp) (hbind:∀ (s:Shared) (u:Value),BindsTo s fd ⟨[u],[]⟩ [(x,u)])
    (hsp:∀ H:Hp,Only H->SqL K H a (ns.map V.int)->sp [.ref a] H (fun v _=>v = .bl true) fun _ _ _=>False)
    (hCX:∀ H e s',CX [] H s₁ (fun _ _ _=>False) e s'->False) :
    codeAny (model P w) callerA (.call (.ref fa) ⟨[.ref a],[]⟩) (fun r s'=>r = .ok (.ret (.bool true))/\OldK s₁.heap s'.heap/\s'.os=s₁.os/\AllBare s'.gens) s₁:=by
  have rv:=qab hi
  have lenV:=hi.length
  -- from an abstract heap in which nothing but the script may be tracked
  have core:∀ H:Hp,Only H->SqL K H a (ns.map V.int)->HOk P w H s₁.heap->(∀ b,H b≠none->b=a)->(H a≠none->K.lookup a=none) →
      codeAny (model P w) callerA (.call (.ref fa) ⟨[.ref a],[]⟩) (fun r s'=>r = .ok (.ret (.bool true))/\OldK s₁.heap s'.heap/\s'.os=s₁.os/\AllBare s'.gens) s₁:=by
    intro H hO hS hok hA hK
    have base_of:∀ {b:Addr}{o:Obj},s₁.heap.get? b=some o->H b=none->(qfP s₁.heap H).get? b=some o:=fun e n=>qfO e n
    have noA:∀ {b:Addr}{o:Obj}{es:Array DictEntry}{ep:Nat},s₁.heap.get? b=some o->o.data = .dict es ep->H b=none:=fun {b o es ep} e d=>by
      cases q:H b with
      | none=>rfl
      | some u =>
        have e':b=a:=hA b (by rw [q];simp)
        subst e'
        rw [ha] at e;cases e
        have d':Data.seq vs.toArray _=Data.dict es ep:=d
        cases d'
    have nsK:∀ {b:Addr}{m:Str->Option Value},s₁.heap.Ns b m->(qfP s₁.heap H).Ns b m:=fun {b m} ⟨o,es,ep,e,d,r⟩=>⟨o,es,ep,base_of e (noA e d),d,r⟩
    have hKb:K.In (qfP s₁.heap H):=fun b o e=>base_of (KX b o e) (by
      cases q:H b with
      | none=>rfl
      | some u =>
        have e':b=a:=hA b (by rw [q];simp)
        subst e'
        rw [hK (by rw [q];simp)] at e;cases e)
    have hM:Mod K mg (qfP s₁.heap H):=⟨hKb,nsK hns,⟨mb,nsK hb,hbb⟩,let ⟨mc,h1,h2⟩:=hlim;⟨mc,nsK h1,h2⟩⟩
    have e0:Env0 P w K mg (qfP s₁.heap H) callerA [] s₁ H:=⟨rfl,hM,fun b o e=>qiz e,Nat.le_of_eq (qd7 _ _),trivial,fun b hb=>absurd (show b∈([]:List Addr) from hb) (by simp),hok,.of_eq hg⟩
    refine codeAny_mono ((F _ hKb (nsK hns)).run callerA [] s₁ H ⟨[.ref a],[]⟩ [.ref a] [.ref a] _ _ hr e0 (hbind s₁ (.ref a)) (.cons rfl .nil) (hsp H hO hS)) fun r s' h=>?_
    cases r with
    | error e=>exact (hCX H e s' h).elim
    | ok fl =>
      cases fl with
      | next=>exact False.elim h
      | brk=>exact False.elim h
      | cont=>exact False.elim h
      | ret u =>
        obtain ⟨v,H',os,bare,un,hok',r',q⟩:=h
        have q':v = .bl true:=q
        subst q'
        obtain rfl:u=Value.bool true:=r'
        refine ⟨rfl,OldK.of_keep fun b o e=>?_,os,bare⟩
        cases q:H b with
        | none=>exact un.keep b o e q (by intro z;exact absurd (show b∈([]:List Addr) from z) (by simp)) (by simp)
        | some u =>
          rcases hO b with z | ⟨ob,xs,z⟩
          · rw [q] at z;cases z
          · have z2:=un.frzs b ob _ z
            obtain ⟨e1,_⟩:=hok b _ z
            obtain ⟨e2,_⟩:=hok' b _ z2
            rw [e] at e1;cases e1
            exact e2
  cases hk:K.lookup a with
  | some o =>
    -- the script is one of the module's own objects
    have e:=KX a o hk
    rw [ha] at e
    cases e
    refine core (fun _=>none) (fun _=>.inl rfl) (.inr ⟨_,vs.toArray,_,hk,rfl,rfl,rfl,by rw [List.size_toArray,lenV];exact hl,by simpa using rv⟩) (fun b u z=>by have z':(none:Option HO)=some u:=z;cases z') (fun b z=>absurd rfl z) fun z=>absurd rfl z
  | none =>
    refine core (fun b=>if b=a then some (.frz { cls:=.type "list",data:=.seq vs.toArray } (.lst (ns.map V.int))) else none) (fun b=>?_) (.inl (.inr ⟨{ cls:=.type "list",data:=.seq vs.toArray },if_pos rfl⟩)) (fun b u z=>?_) (fun b z=>?_) fun _=>hk
    · by_cases hb:b=a
      · exact .inr ⟨_,_,if_pos hb⟩
      · exact .inl (if_neg hb)
    · by_cases hb:b=a
      · have z':=(if_pos hb).symm.trans z
        cases z'
        subst hb
        exact ⟨ha,by rw [List.length_map];exact hl,vs,_,rv,ha⟩
      · have z':=(if_neg hb).symm.trans z
        cases z'
    · by_cases hb:b=a
      · exact hb
      · exact absurd (if_neg hb) z
abbrev KOf {K:W.Frag}{h:Heap}(_:K.In h):W.Frag:=K
theorem walk_of {l:W.OpenLaw}{n k:Nat}{q:Program}{loose:List Str}{XP:(Str->Option Value)->Heap->Prop}{YP:World->Heap->Prop}{d:DefRec}{K:Params->W.Frag}{CX:World->CXT}{sp:World->Sp}{x:Str}
    (hn:l.most=some n) (hn2:n<=sizeLine) (hdf:d.params.defaults=[]) (hr:Room k callerA)
    (hY:∀ (w:World) (h:Heap),YP w h->(K w.params).In h)
    (F:∀ (w:World) (mg:Str->Option Value) (fa:Addr) (h:Heap),(K w.params).In h->h.Ns mainGlobals mg->mg d.name=some (.ref fa) →
      ∃ fd:FuncData,(∀ (s:Shared) (u:Value),BindsTo s fd ⟨[u],[]⟩ [(x,u)]) ∧
        ∀ base:Heap,(K w.params).In base->base.Ns mainGlobals mg->FnOk l.prog w (K w.params) mg base (CX w) k fa fd [x] (sp w))
    (hsp:∀ (w:World) (H:Hp) (a:Addr) (ns:List Int),ns.length<=n->Only H->SqL (K w.params) H a (ns.map V.int)->sp w [.ref a] H (fun v _=>v = .bl true) fun _ _ _=>False)
    (hCX:∀ (w:World) (H:Hp) (s:Shared) (e:Value) (s':Shared),CX w [] H s (fun _ _ _=>False) e s'->False) :
    W.WalkO q loose XP YP l.row.toRowW d [] (fun f vs=>PySem.call f vs):=by
  refine Att.attach_call hn hdf fun w s₀ s₁ mg mb fa o pm cd doc a vs ns G Y ho hd hcd hmg hobj hints hlen hg=>?_
  have KX:=hY w _ Y
  obtain ⟨fd,hb,hF⟩:=F w mg fa _ KX G.T.g hmg
  exact qfK KX G.T.g G.T.b G.T.builtins G.T.nolimit hg hobj hints (qF hlen hn2) hr hF hb (fun H hO hS=>hsp w H a ns hlen hO hS) fun H e s'=>hCX w H s₁ e s'
def Jq (s:Stmt):Arguments:=match s with
  | .FunctionDef _ a _ _ _ _ _ _ _ _=>a
  | _=>{ posonlyargs:=[],args:=[],vararg:=none,kwonlyargs:=[],kw_defaults:=[],kwarg:=none,defaults:=[] }
def y7 (s:Stmt):List Stmt:=match s with
  | .FunctionDef _ _ b _ _ _ _ _ _ _=>b
  | _=>[]
def qt (s:Stmt):Scope:=match s with
  | .FunctionDef _ _ _ _ _ _ sc _ _ _=>sc
  | _=>{ kind:=.function,names:=[],isGenerator:=false,isCoroutine:=false }
abbrev CX0:CXT:=fun _ _ _ _ _ _=>False
abbrev E0:XK:=fun _ _ _=>False
structure Fun (K:W.Frag) (x qual:Str) (st:Stmt) (f:Addr) (fd:FuncData):Prop where
  ex:∃ (oc:Value) (od:Option Addr) (kV doc pm:Value) (an:Option Addr) (cdv ct:Value) (osl:Array (Option Value)),
    fd=W.fnOf x qual (Jq st) (y7 st) (qt st) .none kV doc pm an cdv ct/\K.lookup f=some ⟨oc,od,.func fd,osl⟩/\W.codeIn K cdv qual=true
  kp:W.keepIn K (.ref f)=true
section
variable {P:Program}{w:World}{K:W.Frag}{mg:Str->Option Value}{base:Heap}
theorem Fun.ok {x qual:Str}{st:Stmt}{f:Addr}{fd:FuncData}{N ps:List Str}{k:Nat}{sp:Sp}(F:Fun K x qual st f fd) (S:FnScope N ps (qt st)) (len:∀ vs H Q E,sp vs H Q E->vs.length=ps.length)
    (hbody:∀ (cdv:Value) (A:Around) (outer:List Env) (s:Shared) (H:Hp) (vs:List V) (Q:VK) (E:XK),Room k (A.deeper (envOfC qual (qt st) s.heap.objs.size f cdv))->sp vs H Q E →
      ∃ t,PSs (qcE CX0 P w K mg base N qual (qt st) f cdv A outer s H E).nox (y7 st) t/\t { nx:=fun _ H'=>Q .non H',rt:=Q } (Zz N vs) H):FnOk P w K mg base CX0 (k+1) f fd ps sp:=by
  obtain ⟨oc,od,kV,doc,pm,an,cdv,ct,osl,rfl,lk,hcd⟩:=F.ex
  refine qk8 lk hcd S len fun A outer s H vs Q E hr hsp=>?_
  obtain ⟨t,h,q⟩:=hbody cdv A outer s H vs Q E hr hsp
  exact ⟨t,h.nox,q⟩
theorem Fun.binds {x qual:Str}{st:Stmt}{f:Addr}{fd:FuncData}{ps:List Str}(F:Fun K x qual st f fd)
    (h:∀ (kV doc pm:Value) (an:Option Addr) (cdv ct:Value) (us:List Value),us.length=ps.length->bindArgs (W.fnOf x qual (Jq st) (y7 st) (qt st) .none kV doc pm an cdv ct) ⟨us,[]⟩=pure (ps.zip us)):qbr K fd ps []:=by
  obtain ⟨oc,od,kV,doc,pm,an,cdv,ct,osl,rfl,lk,hcd⟩:=F.ex
  exact .all (h kV doc pm an cdv ct)
theorem qhb {x qual:Str}{st:Stmt}{f:Addr}{oc:Value}{od an:Option Addr}{osl:Array (Option Value)}{kV doc pm cdv ct:Value}(l:K.lookup f=some ⟨oc,od,.func (W.fnOf x qual (Jq st) (y7 st) (qt st) .none kV doc pm an cdv ct),osl⟩)
    (c:W.codeIn K cdv qual=true) (k:W.keepIn K (.ref f)=true):Fun K x qual st f (W.fnOf x qual (Jq st) (y7 st) (qt st) .none kV doc pm an cdv ct):=⟨⟨oc,od,kV,doc,pm,an,cdv,ct,osl,rfl,l,c⟩,k⟩
end
section
variable {X:Cx}
theorem pv (i:Nat) {x:Str}{pos:Pos}(hN:X.N[i]?=some x:=by rfl) (hv:Vis X.env.scope x:=by first | exact Or.inl rfl | exact Or.inr (Or.inl rfl) | exact Or.inr (Or.inr rfl)) (hd:(x == ("__debug__" : Str))=false:=by decide)
    (hcd:(x == ("__classdict__" : Str))=false:=by decide):PE X (.Name x pos) (tVar i):=qgY hN hv hd hcd
end
theorem qbd {A B:Prop}(h:B):if false=true then A else B:=by
  rw [if_neg Bool.false_ne_true]
  exact h
theorem qfN {A B:Prop}(h:A):if true=true then A else B:=by
  rw [if_pos rfl]
  exact h
theorem jB {c A B:Prop} [Decidable c] (h1:c->A) (h2:¬ c->B):if c then A else B:=by
  by_cases h:c
  · rw [if_pos h]
    exact h1 h
  · rw [if_neg h]
    exact h2 h
def yc (H H':Hp):Prop:=∀ b o,H b=some o->H' b=some o
theorem yc.refl (H:Hp):yc H H:=fun _ _ h=>h
theorem yc.trans {H H1 H2:Hp}(a:yc H H1) (b:yc H1 H2):yc H H2:=fun c o h=>b c o (a c o h)
theorem yc.free {H H':Hp}(e:yc H H') {l:Addr}(h:H' l=Option.none):H l=Option.none:=by
  cases q:H l with
  | none=>rfl
  | some o =>
    rw [e l o q] at h
    cases h
theorem yc.seq {K:W.Frag}{H H':Hp}{a:Addr}{xs:List V}(e:yc H H') (h:SqL K H a xs):SqL K H' a xs:=by
  rcases h with (h | ⟨o,h⟩) | h
  · exact .inl (.inl (e _ _ h))
  · exact .inl (.inr ⟨o,e _ _ h⟩)
  · exact .inr h
end L2
set_option maxHeartbeats 4000000
namespace L2
open PySem PySem.Spec PyProof.Rows
theorem jd {n:Nat}(h:n<=4000):n<sizeLine:=yD h (by decide)
def yy (X:Cx) (L:List Str) (scope:Scope) (cl:List (Str×Addr)) (C:Addr) (s₂:Shared) (H₂:Hp) (fp:List Addr):Cx where
 prog:=X.prog
 w:=X.w
 K:=X.K
 mg:=X.mg
 base:=X.base
 A:=X.A
 N:=X.N++L
 s₀:=s₂
 H₀:=H₂
 env:=compEnvC scope cl C X.env
 outer:=X.stack
 stack:=X.stack
 ex:=fp
 fn:=fun _=>false
 calm:=X.calm
 pn:=[]
 xe:=fun _ _=>False
def Jr (sc:Scope) (N L:List Str) (scope:Scope):Bool :=
 decide (scope.kind = .function) && scope.names.all (fun y=>decide (y.2≠.cell) && (decide (y.2≠.local) || (decide (scope.names.lookup y.1=some .local) && decide (y.1∉N))) &&
  (decide (y.2≠.free) || decide (sc.names.lookup y.1=some .cell) || decide (sc.names.lookup y.1=some .free))) && decide ((N++L).Nodup)
theorem Jf {sc:Scope}{N L:List Str}{scope:Scope}(h:Jr sc N L scope=true):scope.kind = .function:=by
 simp only [Jr,Bool.and_eq_true,decide_eq_true_eq] at h
 exact h.1.1
theorem jI {sc:Scope}{N L:List Str}{scope:Scope}(h:Jr sc N L scope=true) {y:Str×NameKind}(hy:y∈scope.names) :
  y.2≠.cell/\(y.2 = .local->scope.names.lookup y.1=some .local/\y.1∉N)/\(y.2 = .free->sc.names.lookup y.1=some .cell\/sc.names.lookup y.1=some .free):=by
 simp only [Jr,Bool.and_eq_true,decide_eq_true_eq,List.all_eq_true,Bool.or_eq_true] at h
 have q:=h.1.2 y hy
 obtain ⟨⟨q1,q2⟩,q3⟩:=q
 refine ⟨q1,fun e=>?_,fun e=>?_⟩
 ·rcases q2 with q2 | q2
  ·exact absurd e q2
  ·exact q2
 ·rcases q3 with (q3 | q3) | q3
  ·exact absurd e q3
  ·exact .inl q3
  ·exact .inr q3
theorem Js {env:Env}:∀ (names:List (Str×NameKind)) (acc:List (Str×Addr)),(∀ y∈names,y.2 = .free->∃ c,env.cells.lookup y.1=some c) →
  (∀ x c,acc.lookup x=some c->env.cells.lookup x=some c) →
  ∃ cl,(forIn names acc (fun (x:Str×NameKind) (cs:List (Str×Addr))=>match x with
   | (name,kind)=>if (kind == NameKind.free)=true then do let a <- cellOf env name;pure (ForInStep.yield ((name,a)::cs)) else pure (ForInStep.yield cs)):Sem (List (Str×Addr)))=pure cl ∧
   (∀ x c,cl.lookup x=some c->env.cells.lookup x=some c)/\(∀ y∈names,y.2 = .free->∃ c,cl.lookup y.1=some c)/\(∀ x c,acc.lookup x=some c->∃ c',cl.lookup x=some c')
 | [],acc,_,ha=>⟨acc,rfl,ha,fun _ h=>(nomatch h),fun _ c e=>⟨c,e⟩⟩
 | (n,k)::r,acc,hf,ha=>by
  by_cases hk:k = .free
  ·subst hk
   obtain ⟨c,hc⟩:=hf (n,.free) ql rfl
   have ha':∀ x c',((n,c)::acc).lookup x=some c'->env.cells.lookup x=some c':=fun x c' e=>by
    by_cases hx:x=n
    ·subst hx
     simp [List.lookup_cons] at e
     rw [<- e];exact hc
    ·have:(x == n)=false:=by simpa using hx
     simp [List.lookup_cons,this] at e
     exact ha x c' e
   obtain ⟨cl,e1,e2,e3,e4⟩:=Js r ((n,c)::acc) (fun y hy=>hf y (qg _ hy)) ha'
   refine ⟨cl,?_,e2,fun y hy hfr=>?_,fun x c' e=>?_⟩
   ·rw [List.forIn_cons]
    show (if (NameKind.free == NameKind.free)=true then (do let a <- cellOf env n;pure (ForInStep.yield ((n,a)::acc))) else pure (ForInStep.yield acc)) >>= _=_
    rw [if_pos (by decide)]
    unfold cellOf
    rw [hc]
    simp only [pure_bind]
    exact e1
   ·rcases List.mem_cons.mp hy with rfl | hy
    ·exact e4 n c (by simp [List.lookup_cons])
    ·exact e3 y hy hfr
   ·by_cases hx:x=n
    ·subst hx
     exact e4 x c (by simp [List.lookup_cons])
    ·have:(x == n)=false:=by simpa using hx
     exact e4 x c' (by simp [List.lookup_cons,this];exact e)
  ·obtain ⟨cl,e1,e2,e3,e4⟩:=Js r acc (fun y hy=>hf y (qg _ hy)) ha
   refine ⟨cl,?_,e2,fun y hy hfr=>?_,e4⟩
   ·rw [List.forIn_cons]
    have hb:(k == NameKind.free)=false:=by simpa using hk
    show (if (k == NameKind.free)=true then (do let a <- cellOf env n;pure (ForInStep.yield ((n,a)::acc))) else pure (ForInStep.yield acc)) >>= _=_
    rw [hb,if_neg (by simp)]
    simp only [pure_bind]
    exact e1
   ·rcases List.mem_cons.mp hy with rfl | hy
    ·exact absurd hfr hk
    ·exact e3 y hy hfr
theorem Zv {env:Env}{scope:Scope}(hf:∀ y∈scope.names,y.2 = .free->∃ c,env.cells.lookup y.1=some c) :
  ∃ cl,closureFor scope env=pure cl/\(∀ x c,cl.lookup x=some c->env.cells.lookup x=some c)/\(∀ y∈scope.names,y.2 = .free->∃ c,cl.lookup y.1=some c):=by
 obtain ⟨cl,e1,e2,e3,_⟩:=Js scope.names [] hf (fun x c e=>by simp at e)
 refine ⟨cl,?_,e2,e3⟩
 unfold closureFor
 simp only [bind_pure_comp,map_pure] at *
 first
  | exact e1
  | (rw [e1];rfl)
  | (simp only [bind_pure];exact e1)
theorem Zo {names:List (Str×NameKind)}{x:Str}{k:NameKind}(h:names.lookup x=some k):(x,k)∈names:=PySem.mem_of_lookup h
theorem Yk {env:Env}:∀ {names:List (Str×NameKind)}{x:Str}{k:NameKind},
  (names.map fun (n,k)=>if (k == NameKind.free && env.scope.kind == .function && env.kindOf n == some .cell) then (n,NameKind.cell) else (n,k)).lookup x=some k →
  ∃ k',names.lookup x=some k'/\(k=k'\/(k' = .free/\k = .cell))
 | [],_,_,h=>by simp at h
 | (n,k0)::r,x,k,h=>by
  cases hx:x == n with
  | true =>
   by_cases hc:(k0 == NameKind.free && env.scope.kind == .function && env.kindOf n == some .cell)=true
   ·simp only [List.map_cons,if_pos hc,List.lookup_cons,hx] at h
    have hk:k0 = .free:=by
     simp only [Bool.and_eq_true,beq_iff_eq] at hc
     exact hc.1.1
    exact ⟨k0,by simp [List.lookup_cons,hx],.inr ⟨hk,(Option.some.inj h).symm⟩⟩
   ·simp only [List.map_cons,if_neg hc,List.lookup_cons,hx] at h
    exact ⟨k0,by simp [List.lookup_cons,hx],.inl (Option.some.inj h).symm⟩
  | false =>
   have h':(r.map fun (n,k)=>if (k == NameKind.free && env.scope.kind == .function && env.kindOf n == some .cell) then (n,NameKind.cell) else (n,k)).lookup x=some k:=by
    by_cases hc:(k0 == NameKind.free && env.scope.kind == .function && env.kindOf n == some .cell)=true
    ·simp only [List.map_cons,if_pos hc,List.lookup_cons,hx] at h;exact h
    ·simp only [List.map_cons,if_neg hc,List.lookup_cons,hx] at h;exact h
   obtain ⟨k',e,q⟩:=Yk h'
   exact ⟨k',by simp [List.lookup_cons,hx];exact e,q⟩
def Ifs (X:Cx) (ifs:List Expr) (tt:TT):Prop :=
 ∀ (pins:List (Addr×Obj)) (s:Shared) (σ:St) (H:Hp) (Q:Bool->Hp->Prop),Inv X pins σ H s->tt σ H Q →
  wpAny (model X.prog X.w) X.A (forIn ifs true fun c r=>if r=true then do let ok <- isTrue c X.env (eval c X.env);pure (ForInStep.yield ok) else pure (ForInStep.yield r)) (TP X pins σ Q) X.xe s
def tYes:TT:=fun _ H Q=>Q true H
theorem qiK {X:Cx}:Ifs X [] tYes:=fun pins s σ H Q I h=>wpAny_tests_nil ⟨H,I,h⟩
theorem qiJ {X:Cx}{c:Expr}{t:TT}(h:PT X c t):Ifs X [c] t:=fun pins s σ H Q I q=>wpAny_tests_one (h pins s σ H Q I q)
def qgn (k:Nat) (g:TG) (tt:TT) (te:TE) (σ:St) (Q:VK) (J:It) (H1:Hp):Prop:=∃ W:Nat->Nat->List V->St->Hp->Prop,(∃ m,W 0 m [] (σ++List.replicate k none) H1)/\∀ i m ys σ' H,W i m ys σ' H →
 (J.stop i H/\∀ D,H D=none->Q (.ref D) (upd H D (.lst ys))) ∨
 (J.go i H/\ys.length<sizeLine/\∃ N:List V->St->Hp->Prop,(∀ ys' σ' H',N ys' σ' H'->∃ m',m'<m/\W (i+1) m' ys' σ' H') ∧
  ∀ x H',J.yld i H x H'->g x σ' H' fun σ2 H2=>tt σ2 H2 fun b H3=>if b=true then te σ2 H3 fun y H4=>N (ys++[y]) σ2 H4 else N ys σ2 H3)
def qhK (k:Nat) (wi:TI) (g:TG) (tt:TT) (te:TE):TE:=fun σ H Q=>wi σ H (qgn k g tt te σ Q)
section
variable {prog:Program}{w:World}{A:Around}{R:Result->Shared->Prop}{s:Shared}
theorem JB {elt target iter:Expr}{ifs:List Expr}{scope:Scope}{pos:Pos}{it acc:Value}{env:Env}(I:Nat->Shared->Prop)
  (turn:∀ n s,I n s->wpAny (model prog w) A (pyNext it) (fun r s₁=>match r with
   | none=>R (.ok .next) s₁
   | some v=>wpAny (model prog w) A (letOwnedTupleGo target it v) (fun _ s₁'=>wpAny (model prog w) A (assign target env v) (fun _ s₂ =>
     wpAny (model prog w) A (forIn ifs true fun c r=>if r=true then do let ok <- isTrue c env (eval c env);pure (ForInStep.yield ok) else pure (ForInStep.yield r)) (fun ok s₃ =>
      if ok=true then wpAny (model prog w) A (eval elt env) (fun x s₄ =>
       wpAny (model prog w) A (call (.builtin "list.append") [acc,x]) (fun _ s₅=>∃ m,m<n/\I m s₅) (fun _ _=>False) s₄) (fun _ _=>False) s₃
      else ∃ m,m<n/\I m s₃) (fun _ _=>False) s₂) (fun _ _=>False) s₁') (fun _ _=>False) s₁) (fun _ _=>False) s)
  (n:Nat) (h:I n s) :
  codeAny (model prog w) A (.compLoop (.ListComp elt [⟨target,iter,ifs,0⟩] scope pos) 0 it acc env) R s:=by
 refine codeAny_loop rfl I (fun n s hI=>?_) n h
 show wpAny _ A ((compTurn (.ListComp elt [⟨target,iter,ifs,0⟩] scope pos) 0 it acc env).onRaise (fun x=>do noteFrame x env;theTreesLotGoes x)) _ _ s
 refine wpAny_noted ?_
 rw [compTurn_list]
 refine qb (wpAny_standAt (qb (yS (turn n s hI) (fun r s₁ h₁=>?_) fun _ _ h'=>h'.elim)))
 cases r with
 | none=>exact qe h₁
 | some v =>
  refine qb (yS h₁ (fun _ s₁' h₁'=>?_) fun _ _ h'=>h'.elim)
  refine qb (yS h₁' (fun _ s₂ h₂=>qb (yS h₂ (fun ok s₃ h₃=>?_) fun _ _ h'=>h'.elim)) fun _ _ h'=>h'.elim)
  cases ok with
  | false=>exact qe ⟨rfl,h₃⟩
  | true =>
   exact qb (qb (yS h₃ (fun x s₄ h₄=>qb (yS h₄ (fun _ s₅ h₅=>qe (qe ⟨rfl,h₅⟩)) fun _ _ h'=>h'.elim)) fun _ _ h'=>h'.elim))
end
section
variable {X:Cx}
theorem qi9 {pins:List (Addr×Obj)}{σ:St}{H:Hp}{s₂:Shared}{L:List Str}{scope:Scope}{cl:List (Str×Addr)}{C:Addr}{fp:List Addr}{sc:Scope}{N:List Str}
  (I:Inv X pins σ H s₂) (hsc:X.env.scope=sc) (hN:X.N=N) (ok:Jr sc N L scope=true) (hc1:∀ x c,cl.lookup x=some c->X.env.cells.lookup x=some c)
  (hc2:∀ y∈scope.names,y.2 = .free->∃ c,cl.lookup y.1=some c) (hf:∀ b∈fp,qe0 X pins H b) (hlt:∀ b∈fp,b<s₂.heap.objs.size) (hC:s₂.heap.objs.size<=C) :
  (yy X L scope cl C s₂ H fp).Ok where
 mod:=I.ok.mod
 kind:=(show scope.kind = .function from Jf ok)
 glob:=I.ok.glob
 blt:=I.ok.blt
 above:=hC
 inj:=fun x y c h1 h2=>I.ok.inj x y c (hc1 x c h1) (hc1 y c h2)
 has:=fun x hx=>by
  have hx':∃ k,(relabel scope X.env).names.lookup x=some k/\(k = .cell\/k = .free):=by
   rcases hx with h | h
   ·exact ⟨_,h,.inl rfl⟩
   ·exact ⟨_,h,.inr rfl⟩
  obtain ⟨k,e,hk⟩:=hx'
  obtain ⟨k',e',q⟩:=Yk e
  have hm:=Zo e'
  have nc:=(jI ok hm).1
  have hfree:k' = .free:=by
   rcases q with q | q
   ·rcases hk with hk | hk
    ·exact absurd (q.symm.trans hk) nc
    ·exact q.symm.trans hk
   ·exact q.1
  exact hc2 (x,k') hm hfree
 cab:=fun x c h _=>by cases h
 hd:=I.ok.hd
 frames:=I.ok.frames
 stk:=.inl rfl
 exf:=fun b hb=>⟨qz (qJ (hlt b hb) hC),fun x c e=>(hf b hb).2.2.2.2.1 x c (hc1 x c e)⟩
 bs:=I.bs
 bsz:=qF I.ok.bsz I.sz
 noex:=fun b o e hb=>by
  rcases (hf b hb).2.2.2.1 with z | z
  ·exact I.ok.noex b o e z
  ·exact absurd (qJ (qi (I.ok.bs b o e).1) z) (jo _)
 exfs:=fun b hb z=>by
  rcases List.mem_cons.mp (I.stkSub b z) with q | q
  ·exact (hf b hb).2.1 q
  ·exact (hf b hb).2.2.1 q
 funs:=I.stack
 frf:=I.stkFree
theorem qcz {pins:List (Addr×Obj)}{σ:St}{H:Hp}{s₂ s₄:Shared}{L:List Str}{scope:Scope}{cl:List (Str×Addr)}{C:Addr}{fp:List Addr}{sc:Scope}{N:List Str}{m:Str->Option Value}
  (I:Inv X pins σ H s₂) (hsc:X.env.scope=sc) (hN:X.N=N) (ok:Jr sc N L scope=true) (hc1:∀ x c,cl.lookup x=some c->X.env.cells.lookup x=some c)
  (Y:(yy X L scope cl C s₂ H fp).Ok) (hC:s₂.heap.objs.size<=C) (hos:s₄.os=s₂.os) (hg:AllBare s₄.gens)
  (old:∀ b o,s₂.heap.get? b=some o->s₄.heap.get? b=some o) (hns:s₄.heap.Ns C m):Inv (yy X L scope cl C s₂ H fp) [] (σ++List.replicate L.length none) H s₄ where
 ok:=Y
 os:=hos
 bare:=hg
 base:=Un.kept old
 loc:=by
  refine ⟨m,hns,fun i x v e1 e2 e3=>?_⟩
  have hl:σ.length=X.N.length:=I.len
  have hi:i<σ.length:=by
   by_cases h:i<σ.length
   ·exact h
   ·rw [qT (by omega),List.getElem?_replicate] at e2
    split at e2 <;> cases e2
  rw [qV hi] at e2
  have e1':X.N[i]?=some x:=by
   have:(X.N++L)[i]?=some x:=e1
   rwa [qV (by omega)] at this
  have e3':∃ k,(relabel scope X.env).names.lookup x=some k/\(k = .local\/k = .cell\/k = .free):=by
   rcases e3 with h | h | h
   ·exact ⟨_,h,.inl rfl⟩
   ·exact ⟨_,h,.inr (.inl rfl)⟩
   ·exact ⟨_,h,.inr (.inr rfl)⟩
  obtain ⟨k,ek,hk⟩:=e3'
  obtain ⟨k',e',q⟩:=Yk ek
  have hm:=Zo e'
  obtain ⟨nc,nl,fr⟩:=jI ok hm
  have hk':k' = .free:=by
   rcases q with q | q
   ·rcases hk with hk | hk | hk
    ·have hl':k' = .local:=q.symm.trans hk
     exact absurd (hN ▸ List.mem_of_getElem? e1') (nl hl').2
    ·exact absurd (q.symm.trans hk) nc
    ·exact q.symm.trans hk
   ·exact q.1
  have hX:X.env.kindOf x=some .cell\/X.env.kindOf x=some .free:=by
   have:=fr hk'
   rw [<- hsc] at this
   exact this
  obtain ⟨m₀,hn₀,hl₀⟩:=I.loc
  obtain ⟨u,r,look⟩:=hl₀ i x v e1' e2 (.inr hX)
  refine ⟨u,r,.inr ⟨?_,?_⟩⟩
  ·show (relabel scope X.env).names.lookup x=some .cell\/(relabel scope X.env).names.lookup x=some .free
   rcases hk with hk | hk | hk
   ·exfalso
    rcases q with q | q
    ·rw [hk] at q;rw [hk'] at q;cases q
    ·rw [hk] at q;exact nomatch q.2
   ·exact .inl (hk ▸ ek)
   ·exact .inr (hk ▸ ek)
  ·rcases look with ⟨z,_⟩ | ⟨_,c,ec,hcell⟩
   ·exfalso
    rcases hX with h | h <;> rw [h] at z <;> cases z
   ·obtain ⟨c',ec'⟩:=Y.has x (by
     rcases hk with hk | hk | hk
     ·exfalso
      rcases q with q | q
      ·rw [hk] at q;rw [hk'] at q;cases q
      ·rw [hk] at q;exact nomatch q.2
     ·exact .inl (hk ▸ ek)
     ·exact .inr (hk ▸ ek))
    have hcl:cl.lookup x=some c':=ec'
    have:c'=c:=Option.some.inj ((hc1 x c' hcl).symm.trans ec)
    subst this
    refine ⟨c',hcl,?_⟩
    obtain ⟨o,ho,hd⟩:=hcell
    exact ⟨o,old _ _ ho,hd⟩
 cell:=fun x c e=>by
  obtain ⟨v,o,ho,hd⟩:=I.cell x c (hc1 x c e)
  exact ⟨v,o,old _ _ ho,hd⟩
 free:=I.hok.fresh hC
 freeC:=fun x c e=>I.freeC x c (hc1 x c e)
 pin:=fun p hp=>absurd (show p∈([]:List (Addr×Obj)) from hp) (by simp)
 hok:=I.hok.kept old
 len:=by
  show _=(X.N++L).length
  have hl:σ.length=X.N.length:=I.len
  simp [hl]
theorem qeC {pins:List (Addr×Obj)}{σ σ':St}{H H':Hp}{s₂ s':Shared}{L:List Str}{scope:Scope}{cl:List (Str×Addr)}{fp:List Addr}{its:List Value}{ys:List V}{D C:Addr}{n:Nat}{pl:List (Addr×Obj)}
  (I:Inv X pins σ H s₂) (hf:∀ b∈fp,qe0 X pins H b) (hD:s₂.heap.objs.size=D)
  (J:Inv (yy X L scope cl C s₂ H fp) pl σ' H' s') (hpD:s'.heap.get? D=some { cls:=.type "list",data:=.seq its.toArray n }) (hHD:H' D=none) (hv:yz ys its) (hz:ys.length<=sizeLine) :
  Inv X pins σ (upd H' D (.lst ys)) s':=by
 have B:Un (frs X.stack) fp H H' s₂.heap s'.heap:=J.base
 have neD:∀ b o,s₂.heap.get? b=some o->b≠D:=fun b o e=>by rw [<- hD];exact qz (qi e)
 refine I.call' (ch:=fp) J.os ⟨B.keep,B.slot,fun b o e hn hx=>?_,B.there,fun b xs e=>?_,fun b o u e=>?_,fun b ps e=>?_⟩ (fun b o e=>?_) J.bare (fun b hb=>⟨(hf b hb).2.2.2.1,(hf b hb).2.1,(hf b hb).2.2.2.2.1,(hf b hb).2.2.2.2.2⟩)
 ·rw [ya (neD b o e)];exact B.free b o e hn hx
 ·have:=B.tups b xs e
  rw [ya (q9 this hHD)];exact this
 ·have:=B.frzs b o u e
  rw [ya (q9 this hHD)];exact this
 ·obtain ⟨more,this⟩:=B.tbls b ps e
  exact ⟨more,by rw [ya (q9 this hHD)];exact this⟩
 ·by_cases hb:b=D
  ·subst hb
   rw [yf] at e
   cases e
   exact ⟨hz,its,n,hv,hpD⟩
  ·rw [ya hb] at e
   exact (J.hok b o e).stay (fun _ _ _ q=>q) (fun c q=>by rw [ya (q9 q hHD)];exact q) fun c xs q=>by rw [ya (q9 q hHD)];exact q
theorem Zu {pins:List (Addr×Obj)}{σ:St}{H:Hp}{s₂:Shared}{L:List Str}{scope:Scope}{cl:List (Str×Addr)}{fp:List Addr}{sc:Scope}{N:List Str}{tg elt iter:Expr}{ifs:List Expr}{pos:Pos}
  {g:TG}{tt:TT}{te:TE}{Q:VK}{J:It}{it:Addr}{tn:Nat->Heap->Prop}{RR:Value->Addr->Result->Shared->Prop}{E:Value->Shared->Prop}
  (hc:X.calm=true) (hsc:X.env.scope=sc) (hN:X.N=N) (ok:Jr sc N L scope=true) (hc1:∀ x c,cl.lookup x=some c->X.env.cells.lookup x=some c)
  (hc2:∀ y∈scope.names,y.2 = .free->∃ c,cl.lookup y.1=some c)
  (hg:∀ cl C s₂ H₂ fp,PG (yy X L scope cl C s₂ H₂ fp) tg g) (hi:∀ cl C s₂ H₂ fp,Ifs (yy X L scope cl C s₂ H₂ fp) ifs tt) (he:∀ cl C s₂ H₂ fp,PE (yy X L scope cl C s₂ H₂ fp) elt te)
  (I:Inv X pins σ H s₂) (T:Turn X.prog X.w X.K tg J fp it tn) (st:tn 0 s₂.heap) (hf:∀ b∈fp,qe0 X pins H b) (hw:qgn L.length g tt te σ Q J H)
  (hR:∀ D C m H' s' ys,s'.heap.Ns C m->s₂.heap.objs.size=D->s₂.heap.objs.size<C->H' C=none->D≠C->Inv X pins σ (upd H' D (.lst ys)) s'->Q (.ref D) (upd H' D (.lst ys))->RR (.ref D) C (.ok .next) s') :
  wpAny (model X.prog X.w) X.A (newList []) (fun acc s₃=>wpAny (model X.prog X.w) X.A (newFunctionEnv scope X.env.globals cl [] X.env.qual none .none (some X.env)) (fun cenv s₄ =>
   codeAny (model X.prog X.w) X.A (.compStart (.ListComp elt [⟨tg,iter,ifs,0⟩] scope pos) 0 (.ref it) acc { cenv with scope:=relabel scope X.env }) (RR acc cenv.locals) s₄) E s₃) E s₂:=by
 refine wpAny_newObj_type (wpAny_newFunctionEnv (fun y hy=>(jI ok hy).1) (by intro y hy;simp at hy) (fun h₁ hns₁ hsb₁=>?_) (Jf ok))
 dsimp only at hns₁ hsb₁ ⊢
 generalize hH2:s₂.heap.push { cls:=.type "list",dict:=none,data:=.seq ([]:List Value).toArray }=H2 at hns₁ hsb₁ ⊢
 have hC:H2.objs.size=s₂.heap.objs.size+1:=by rw [<- hH2,Heap.size_push]
 have hCle:s₂.heap.objs.size<=H2.objs.size:=by rw [hC];exact Nat.le_succ _
 have hDC:s₂.heap.objs.size≠H2.objs.size:=by rw [hC];exact qz (Nat.lt_succ_self _)
 have hlt:∀ b∈fp,b<s₂.heap.objs.size:=fun b hb=>by
  obtain ⟨o,e,_⟩:=T.obj 0 _ st b hb
  exact qi e
 have below:∀ b,b<s₂.heap.objs.size->b≠H2.objs.size:=fun b hb=>by rw [hC];exact qz (Nat.lt_succ_of_lt hb)
 have old:∀ b o,s₂.heap.get? b=some o->h₁.get? b=some o:=fun b o e=>hsb₁.extBut b o (below b (qi e)) (qc _ (hH2 ▸ qc _ e))
 have hacc:h₁.get? s₂.heap.objs.size=some { cls:=.type "list",data:=.seq ([]:List Value).toArray 0 }:=hsb₁.extBut _ _ hDC (qc _ (hH2 ▸ qC _ rfl))
 have Yok:=qi9 (L:=L) (scope:=scope) (cl:=cl) (C:=H2.objs.size) (fp:=fp) I hsc hN ok hc1 hc2 hf hlt hCle
 generalize hDn:s₂.heap.objs.size=D at *
 generalize hCn:H2.objs.size=C at *
 have st₁:tn 0 h₁:=T.keep _ _ _ st fun b _ o e=>old b o e
 -- the block's own iterators
 have cellD:∀ x c,cl.lookup x=some c->c≠D:=fun x c e=>by
  obtain ⟨v,q⟩:=I.cell x c (hc1 x c e)
  rw [<- hDn]
  exact qz q.lt
 have fpY:∀ {H':Hp}{its:List Value}{n:Nat},(∀ b∈fp,H' b=none)->∀ b∈fp,qe0 (yy X L scope cl C s₂ H fp) [(D,{ cls:=.type "list",data:=.seq its.toArray n })] H' b:=fun {H' its n} hn b hb=>by
  refine ⟨hn b hb,(Yok.exf b hb).1,Yok.exfs b hb,.inl hb,(Yok.exf b hb).2,fun p hp=>?_⟩
  have e:p=(D,{ cls:=.type "list",data:=.seq its.toArray n }):=by
   have:p∈[(D,({ cls:=.type "list",data:=.seq its.toArray n }:Obj))]:=hp
   simpa using this
  subst e
  exact Ne.symm (qz (hlt b hb))
 have nfsD:D∉(yy X L scope cl C s₂ H fp).fs:=fun z=>by
  obtain ⟨_,o,ho,_⟩:=Yok.funs.mem z
  exact absurd (show D<s₂.heap.objs.size from qi ho) (by rw [hDn];exact jo _)
 have pinD:∀ {σ':St}{H':Hp}{s':Shared}{pl:List (Addr×Obj)}{its:List Value}{n:Nat},Inv (yy X L scope cl C s₂ H fp) pl σ' H' s'->s'.heap.get? D=some { cls:=.type "list",data:=.seq its.toArray n }->H' D=none →
   Inv (yy X L scope cl C s₂ H fp) [(D,{ cls:=.type "list",data:=.seq its.toArray n })] σ' H' s':=fun {σ' H' s' pl its n} J e hn=>J.pins_of fun p hp=>by
  have e':p=(D,{ cls:=.type "list",data:=.seq its.toArray n }):=by simpa using hp
  subst e'
  exact ⟨e,hn,hDC,nfsD,fun v z=>by cases z⟩
 have I₁:Inv (yy X L scope cl C s₂ H fp) [] (σ++List.replicate L.length none) H { s₂ with heap:=h₁,toks:=s₂.toks+([]:List (Str×Value)).length } :=
  qcz I hsc hN ok hc1 Yok (by rw [hDn];exact hCle) rfl I.bare old hns₁
 have HD:H D=none:=I.hok.fresh (by rw [hDn];exact qj _)
 obtain ⟨W,⟨m0,w0⟩,turn⟩:=hw
 have loop:codeAny (model X.prog X.w) X.A (.compLoop (.ListComp elt [⟨tg,iter,ifs,0⟩] scope pos) 0 (.ref it) (.ref D) (compEnvC scope cl C X.env)) (RR (.ref D) C)
   { s₂ with heap:=h₁,toks:=s₂.toks+([]:List (Str×Value)).length }:=by
  refine JB (fun n s'=>∃ i ys its k σ' H',Inv (yy X L scope cl C s₂ H fp) [(D,{ cls:=.type "list",data:=.seq its.toArray k })] σ' H' s'/\yz ys its/\ys.length<=sizeLine/\tn i s'.heap/\(∀ b∈fp,H' b=none)/\W i n ys σ' H')
   ?_ m0 ⟨0,[],[],0,_,H,pinD I₁ hacc HD,.nil,qZ _,st₁,fun b hb=>(hf b hb).1,w0⟩
  rintro n s3 ⟨i,ys,its,k,σ3,H3,I3,hv3,hz3,st3,fr3,w3⟩
  have hp3:=I3.pin (D,{ cls:=.type "list",data:=.seq its.toArray k }) (by simp)
  rcases turn i n ys σ3 H3 w3 with ⟨stop,q⟩ | ⟨go,hlen,Nx,hNx,step⟩
  ·refine thn (T.done (yy X L scope cl C s₂ H fp) rfl rfl rfl hc i _ s3 σ3 H3 _ I3 (fpY fr3) st3 stop) fun r s4 ⟨hr,I4⟩=>?_
   subst hr
   have hp4:=I4.pin (D,{ cls:=.type "list",data:=.seq its.toArray k }) (by simp)
   obtain ⟨m4,hn4,_⟩:=I4.loc
   exact hR D C m4 H3 s4 ys hn4 rfl (by rw [hC];exact Nat.lt_succ_self _) I4.free hDC (qeC I hf hDn I4 hp4.1 hp4.2.1 hv3 hz3) (q D hp4.2.1)
  ·refine thn (T.item (yy X L scope cl C s₂ H fp) rfl rfl rfl hc i _ s3 σ3 H3 _ I3 (fpY fr3) st3 go) fun r s4 ⟨u,hr,h4⟩=>?_
   subst hr
   refine thn h4 fun _ s5 hq9=>?_
   obtain ⟨x,H5,I5,r5,y5,st5,fr5⟩:=hq9
   have I5':=I5.pinned (fpY fr5) (T.obj _ _ st5)
   refine thn (hg cl C s₂ H fp _ s5 σ3 H5 x u _ I5' r5 (step x H5 y5)) fun _ s6 hq9=>?_
   obtain ⟨σ6,H6,I6,q6⟩:=hq9
   refine thn (hi cl C s₂ H fp _ s6 σ6 H6 _ I6 q6) fun ok s7 hq9=>?_
   obtain ⟨H7,I7,q7⟩:=hq9
   have later:∀ {σ':St}{H':Hp}{s':Shared},Inv (yy X L scope cl C s₂ H fp) ([(D,{ cls:=.type "list",data:=.seq its.toArray k })]++qan fp s5.heap) σ' H' s' →
     tn (i+1) s'.heap/\(∀ b∈fp,H' b=none)/\s'.heap.get? D=some { cls:=.type "list",data:=.seq its.toArray k }/\H' D=none:=fun {σ' H' s'} J=>by
    refine ⟨T.keep _ _ _ st5 fun b hb o e=>(J.pin (b,o) (qI _ (qI _ (Jz hb e)))).1,fun b hb=>?_,?_⟩
    ·obtain ⟨o,e,d⟩:=T.obj _ _ st5 b hb
     exact (J.pin (b,o) (qI _ (qI _ (Jz hb e)))).2.1
    ·have z:=J.pin (D,{ cls:=.type "list",data:=.seq its.toArray k }) (qI _ (yE _ (by simp)))
     exact ⟨z.1,z.2.1⟩
   cases ok with
   | false =>
    rw [if_neg (by simp)] at q7 ⊢
    obtain ⟨m',hm',w'⟩:=hNx _ _ _ q7
    obtain ⟨t1,t2,t3,t4⟩:=later I7
    exact ⟨m',hm',i+1,ys,its,k,σ6,H7,pinD I7 t3 t4,hv3,hz3,t1,t2,w'⟩
   | true =>
    rw [if_pos rfl] at q7 ⊢
    refine thn (he cl C s₂ H fp _ s7 σ6 H7 _ I7 q7) fun y s8 hq9=>?_
    obtain ⟨v,H8,I8,r8,q8⟩:=hq9
    obtain ⟨m',hm',w'⟩:=hNx _ _ _ q8
    obtain ⟨t1,t2,t3,t4⟩:=later I8
    refine append_at (hsz:=by rw [List.size_toArray,<- hv3.length];exact hz3) t3 fun h9 hs9 hD9=>?_
    have nbD:∀ b∈fp,b≠D:=fun b hb=>qz (hlt b hb)
    have I9:Inv (yy X L scope cl C s₂ H fp) [] σ6 H8 { s8 with heap:=h9 }:=(I8.pins_of (pins':=[]) (fun p hp=>by simp at hp)).turned (it:=D) (t':=s8.toks) (fun b o hb e=>hs9.extBut b o hb e) t4 hDC
     (.inr (by show s₂.heap.objs.size<=D;rw [hDn];exact qj _)) cellD (fun p hp=>by
      have:p∈([]:List (Addr×Obj)):=hp
      simp at this)
    refine ⟨m',hm',i+1,ys++[v],its++[y],k+1,σ6,H8,pinD I9 (by rw [hD9];simp) t4,hv3.append (.cons r8 .nil),by simp;omega,T.keep _ _ _ t1 fun b hb o e=>hs9.extBut b o (nbD b hb) e,t2,w'⟩
 exact codeAny_compStart_list loop (T.self _ 0 _ _ _ st₁ loop)
end
section
variable {X:Cx}
theorem qie {L:List Str}{scope sc:Scope}{N:List Str}{tg elt iter:Expr}{ifs:List Expr}{pos:Pos}{wi:TI}{g:TG}{tt:TT}{te:TE}
  (hc:X.calm=true) (hsc:X.env.scope=sc) (hN:X.N=N) (ok:Jr sc N L scope=true)
  (hi:PI X tg iter wi) (hg:∀ cl C s₂ H₂ fp,PG (yy X L scope cl C s₂ H₂ fp) tg g) (hf:∀ cl C s₂ H₂ fp,Ifs (yy X L scope cl C s₂ H₂ fp) ifs tt) (he:∀ cl C s₂ H₂ fp,PE (yy X L scope cl C s₂ H₂ fp) elt te)
  (hs:∀ x,foldedSetIterable iter X.env x=pure x:=by intro _;rfl) :
  PE X (.ListComp elt [⟨tg,iter,ifs,0⟩] scope pos) (qhK L.length wi g tt te):=by
 intro pins s σ H Q I h
 obtain ⟨cl,hcl,hc1,hc2⟩:=Zv (env:=X.env) (scope:=scope) fun y hy hfr=>by
  refine I.ok.has y.1 ?_
  have z:=(jI ok hy).2.2 hfr
  rw [<- hsc] at z
  exact z
 rw [eval_ListComp]
 refine wpAny_comprehension_free (use:=none) rfl hs hcl (Jf ok) (fun y hy hl=>((jI ok hy).2.1 hl).1) (thn (hi pins s σ H _ I h) fun v s1 h1=>thn h1 fun itv s2 h2=>?_)
 obtain ⟨it,fp,tn,J,H2,e,I2,T,st2,f2,hw⟩:=h2
 subst e
 refine Zu (RR:=fun acc C=>compPost (model X.prog X.w) X.A X.xe none (EP X pins σ Q) acc C) hc hsc hN ok hc1 hc2 hg hf he I2 T st2 f2 hw ?_
 intro D C m H' s' ys hns hD hC hHC hDC J' q
 refine ⟨m,hns,fun h'' hs''=>⟨.ref D,upd H' D (.lst ys),?_,rfl,q⟩⟩
 have hsz:=I2.sz
 refine J'.turned (it:=C) (t':=s'.toks) (fun b o hb e=>hs''.extBut b o hb e) (by rw [ya (Ne.symm hDC)];exact hHC) (Ne.symm (qz (Nat.lt_trans I2.lt hC))) (.inr (qF hsz (yH hC))) (fun x c e=>?_) (fun p hp=>?_)
 ·obtain ⟨v,z⟩:=I2.cell x c e
  exact qz (Nat.lt_trans z.lt hC)
 ·exact qz (Nat.lt_trans (qi (I2.pin p hp).1) hC)
theorem qh4 {i:Nat}{x:Str}{pos' spos:Pos}{L:List Str}{scope sc:Scope}{N:List Str}{tg elt iter:Expr}{ifs:List Expr}{pos:Pos}{wi:TI}{g:TG}{tt:TT}{te:TE}
  (hNd:X.N.Nodup) (hxi:X.N[i]?=some x) (hx:Loc X.env.scope x)
  (hc:X.calm=true) (hsc:X.env.scope=sc) (hN:X.N=N) (ok:Jr sc N L scope=true)
  (hi:PI X tg iter wi) (hg:∀ cl C s₂ H₂ fp,PG (yy X L scope cl C s₂ H₂ fp) tg g) (hf:∀ cl C s₂ H₂ fp,Ifs (yy X L scope cl C s₂ H₂ fp) ifs tt) (he:∀ cl C s₂ H₂ fp,PE (yy X L scope cl C s₂ H₂ fp) elt te)
  (hsw:swapsWith (.ListComp elt [⟨tg,iter,ifs,0⟩] scope pos) (some (.Name x pos')) spos.line X.env=pure true:=by rfl)
  (hs:∀ x,foldedSetIterable iter X.env x=pure x:=by intro _;rfl)
  (hfn:X.fn x=true\/X.env.scope.names.lookup x=some .local:=by first | exact .inl rfl | exact .inr rfl | assumption) :
  PS X (.Assign [.Name x pos'] (.ListComp elt [⟨tg,iter,ifs,0⟩] scope pos) spos) (tAsg (qhK L.length wi g tt te) (qfR i)):=by
 intro pins s σ H D I h
 obtain ⟨cl,hcl,hc1,hc2⟩:=Zv (env:=X.env) (scope:=scope) fun y hy hfr=>by
  refine I.ok.has y.1 ?_
  have z:=(jI ok hy).2.2 hfr
  rw [<- hsc] at z
  exact z
 rw [exec_Assign_Name_used _ _ _ _ hsw]
 refine qb (wpAny_standAt (qb ?_))
 show wpAny _ X.A (do let _ <- comprehension (.ListComp elt [⟨tg,iter,ifs,0⟩] scope pos) scope X.env _ (newList []) false (eval iter X.env) (some (assign (.Name x pos') X.env))) _ _ s
 refine qb (yS (wpAny_comprehension_free (use:=some (assign (.Name x pos') X.env)) (Q:=fun _ s'=>SP X pins D .next s') rfl hs hcl (Jf ok) (fun y hy hl=>((jI ok hy).2.1 hl).1)
  (thn (hi pins s σ H _ I h) fun v s1 h1=>thn h1 fun itv s2 h2=>?_)) (fun _ s' hq=>qe (qe hq)) fun _ _ e=>e)
 obtain ⟨it,fp,tn,J,H2,e,I2,T,st2,f2,hw⟩:=h2
 subst e
 refine Zu (RR:=fun acc C=>compPost (model X.prog X.w) X.A X.xe (some (assign (.Name x pos') X.env)) (fun _ s'=>SP X pins D .next s') acc C) hc hsc hN ok hc1 hc2 hg hf he I2 T st2 f2 hw ?_
 intro D' C m H' s' ys hns hD hC hHC hDC J' q
 have hsz:=I2.sz
 have neL:C≠X.env.locals:=Ne.symm (qz (Nat.lt_trans I2.lt hC))
 have neC:∀ x c,X.env.cells.lookup x=some c->c≠C:=fun x c e=>by
  obtain ⟨v,z⟩:=I2.cell x c e
  exact qz (Nat.lt_trans z.lt hC)
 show wpAny _ X.A (assign (.Name x pos') X.env (.ref D')) _ _ s'
 refine wpAny_assign_Name (qae J' hNd hxi hx (v:=.ref D') rfl (fun s'' J'' ⟨a,hsb,ha⟩=>?_) hfn)
 have haC:C≠a:=by
  rcases ha with ha | ha
  ·rw [ha];exact neL
  ·exact Ne.symm (neC x a ha)
 refine ⟨m,hns.sameBut hsb haC,fun h'' hs''=>⟨_,upd H' D' (.lst ys),?_,q⟩⟩
 refine J''.turned (it:=C) (t':=s''.toks) (fun b o hb e=>hs''.extBut b o hb e) (by rw [ya (Ne.symm hDC)];exact hHC) neL (.inr (qF hsz (yH hC))) neC (fun p hp=>?_)
 exact qz (Nat.lt_trans (qi (I2.pin p hp).1) hC)
end
section
variable {X:Cx}
def Big (i:Int):Prop:=i.natAbs<2 ^ 1000
theorem Big.of {i:Int}(b:Int) (hb:b<2 ^ 1000) (h1:-b<=i) (h2:i<=b):Big i:=by
 unfold Big
 have:(i.natAbs:Int)<=b:=by omega
 have h3:(i.natAbs:Int)<2 ^ 1000:=Int.lt_of_le_of_lt this hb
 exact_mod_cast h3
theorem Big.bits {i:Int}(h:Big i):Builtin.Int.intBits i<=2 ^ 20:=by
 unfold Builtin.Int.intBits
 by_cases h0:i.natAbs=0
 ·have:i=0:=by omega
  subst this
  decide
 ·have:=(Nat.log2_lt h0).mpr h
  split <;> omega
def qgk (i j:Int):Prop:=Big i/\Big j
theorem qa5:OpR X (binaryOp .Mult) (rI qgk fun i j=>.int (i * j)):=opI fun _ _ _ _ _ _ _ hc q=>mul_int q (IntMulOk.of_bits hc.1.bits hc.2.bits)
def qcD (i j:Int):Prop:=j≠0/\Big j
theorem ZK:OpR X (binaryOp .FloorDiv) (rI qcD fun i j=>.int (i.fdiv j)):=opI fun i j _ _ _ _ _ hc q=>floordiv_int hc.1 q (.inl (PyProof.noPylong_of_log2 (by
 by_cases h0:j.natAbs=0
 ·rw [h0];decide
 ·have:=(Nat.log2_lt h0).mpr hc.2
  omega)))
end
mutual
inductive Is (K:W.Frag) (H:Hp):V->PyData->Prop
 | non:Is K H .non .none
 | bl (b:Bool):Is K H (.bl b) (.bool b)
 | int (i:Int):Is K H (.int i) (.int i)
 | str (x:Str):Is K H (.str x) (.str x)
 | lst {a:Addr}{xs:List V}{ds:List PyData}:SqL K H a xs->IsAll K H xs ds->Is K H (.ref a) (.list ds)
 | tup {a:Addr}{xs:List V}{ds:List PyData}:SqT K H a xs->IsAll K H xs ds->Is K H (.ref a) (.tuple ds)
 | dc {a:Addr}:H a=some (.dK [])->Is K H (.ref a) (.dict [])
inductive IsAll (K:W.Frag) (H:Hp):List V->List PyData->Prop
 | nil:IsAll K H [] []
 | cons {x:V}{xs:List V}{d:PyData}{ds:List PyData}:Is K H x d->IsAll K H xs ds->IsAll K H (x::xs) (d::ds)
end
theorem IsAll.ints {K:W.Frag}{H:Hp}:∀ ns:List Int,IsAll K H (ns.map V.int) (ns.map PyData.int)
 | []=>.nil
 | n::ns=>.cons (.int n) (IsAll.ints ns)
theorem IsAll.bools {K:W.Frag}{H:Hp}:∀ ns:List Bool,IsAll K H (ns.map V.bl) (ns.map PyData.bool)
 | []=>.nil
 | n::ns=>.cons (.bl n) (IsAll.bools ns)
section
variable {X:Cx}{pins:List (Addr×Obj)}{σ:St}{H:Hp}{s:Shared}
mutual
theorem Is.reads (I:Inv X pins σ H s):∀ {x:V}{d:PyData}{u:Value},Is X.K H x d->jL x u->∃ as,Reads s.heap u d as
 | _,_,_,.non,r=>by cases r;exact ⟨_,.none⟩
 | _,_,_,.bl b,r=>by cases r;exact ⟨_,.bool b⟩
 | _,_,_,.int i,r=>by obtain ⟨t,rfl⟩:=r;exact ⟨_,.int i t⟩
 | _,_,_,.str i,r=>by obtain ⟨t,rfl⟩:=r;exact ⟨_,.str i t⟩
 | _,_,_,.lst hq hs,r=>by
  cases r
  obtain ⟨its,rv,pl,hz⟩:=I.list hq
  obtain ⟨as,ra⟩:=IsAll.reads I hs rv
  obtain ⟨o,ho,hc,n,hd⟩:=pl.isList
  exact ⟨_,.list ho hc hd (by simpa using ra)⟩
 | _,_,_,.tup hq hs,r=>by
  cases r
  obtain ⟨its,rv,pl,hz⟩:=I.tuple hq
  obtain ⟨as,ra⟩:=IsAll.reads I hs rv
  obtain ⟨o,ho,hc,n,hd⟩:=pl
  exact ⟨_,.tuple ho hc hd (by simpa using ra)⟩
 | _,_,_,.dc (a:=a) e,r=>by
  cases r
  obtain ⟨_,_,vs,kv,o,es,ep,h1,h2,h3,h4,h5,h6⟩:=(show jT X.prog X.w H s.heap a (.dK []) from I.hok a _ e)
  have hv:vs=[]:=by cases kv;rfl
  subst hv
  have he:es.toList=[]:=by
   generalize es.toList=l at h5
   cases h5
   rfl
  exact ⟨_,.dict h1 h2.1 h3 (by rw [he];exact .nil) (by rw [he];exact .nil)⟩
theorem IsAll.reads (I:Inv X pins σ H s):∀ {xs:List V}{ds:List PyData}{us:List Value},IsAll X.K H xs ds->yz xs us->∃ as,ReadsAll s.heap us ds as
 | _,_,_,.nil,r=>by cases r;exact ⟨_,.nil⟩
 | _,_,_,.cons h hs,r=>by
  cases r with
  | cons r1 r2 =>
   obtain ⟨as,ra⟩:=Is.reads I h r1
   obtain ⟨bs,rb⟩:=IsAll.reads I hs r2
   exact ⟨_,.cons ra rb⟩
end
end
section
variable {X:Cx}
def rEqD (K:W.Frag):R2:=fun x y H Q=>∃ d d',Is K H x d/\Is K H y d'/\SeqAt.shaped d=true/\SeqAt.shaped d'=true/\Q (.bl (PyData.eqv d d')) H
def rNeD (K:W.Frag):R2:=fun x y H Q=>∃ d d',Is K H x d/\Is K H y d'/\SeqAt.shaped d=true/\SeqAt.shaped d'=true/\Q (.bl (!PyData.eqv d d')) H
theorem qks (hu:X.A.units+64<cLine):OpR X (compareOp .Eq) (rEqD X.K):=by
 intro pins s σ H x y v u Q I rx ry h
 obtain ⟨d,d',h1,h2,h3,h4,q⟩:=h
 obtain ⟨as,ra⟩:=h1.reads I rx
 obtain ⟨bs,rb⟩:=h2.reads I ry
 exact eq_dataH ra rb h3 h4 hu ⟨.bl _,H,I,rfl,q⟩
theorem qkp (hu:X.A.units+64<cLine):OpR X (compareOp .NotEq) (rNeD X.K):=by
 intro pins s σ H x y v u Q I rx ry h
 obtain ⟨d,d',h1,h2,h3,h4,q⟩:=h
 obtain ⟨as,ra⟩:=h1.reads I rx
 obtain ⟨bs,rb⟩:=h2.reads I ry
 exact ne_dataH ra rb h3 h4 hu ⟨.bl _,H,I,rfl,q⟩
theorem qly {bs:List Bool}{its:List Value}(r:yz (bs.map V.bl) its) {i:Nat}{v:Value}(e:its[i]?=some v):v = .bool (bs.getD i false):=by
 have hl:=r.length
 rw [List.length_map] at hl
 have hi:i<its.length:=(qp.mp e).1
 have hb:(bs.map V.bl)[i]?=some (V.bl (bs.getD i false)):=by
  rw [List.getElem?_map]
  have:bs[i]?=some (bs.getD i false):=by
   rw [qK,List.getElem?_eq_getElem (by omega)];rfl
  rw [this];rfl
 obtain ⟨u,eu,ru⟩:=r.get hb
 rw [e] at eu
 cases eu
 exact ru
theorem qdn (bs:List Bool):(List.range bs.length).all (fun i=>bs.getD i false)=bs.all id:=by
 rw [Bool.eq_iff_iff]
 simp only [List.all_eq_true,List.mem_range,id]
 constructor
 ·intro h b hb
  obtain ⟨i,hi,rfl⟩:=jy.mp hb
  have:=h i hi
  rwa [qK,List.getElem?_eq_getElem hi] at this
 ·intro h i hi
  rw [qK,List.getElem?_eq_getElem hi]
  exact h _ (qU hi)
theorem qf7 (hc:X.calm=true):yL X (.builtin "all") (fun xs H Q=>∃ (p:Addr) (bs:List Bool),xs=[.ref p]/\SqL X.K H p (bs.map V.bl)/\Q (.bl (bs.all id)) H):=by
 intro pins s σ H xs us Q I r h
 obtain ⟨p,bs,rfl,hq,q⟩:=h
 obtain ⟨u,rfl,rx⟩:=YS r
 cases rx
 obtain ⟨its,rv,pl,hz⟩:=I.list hq
 have hl:=rv.length
 rw [List.length_map] at hl
 refine call_all_walk (wpAny_pyIter_list pl.isList ?_)
 have hlt:p<s.heap.objs.size:=by obtain ⟨o,e,_⟩:=pl.isList;exact qi e
 refine ⟨s.heap.objs.size,_,_,_,_,_,fun i=>bs.getD i false,rfl,Walks.list (A:=X.A.in1) (I.ok.hd hc) s.heap.objs.size p (qz hlt) its.toArray,⟨⟨_,qC _ rfl,rfl,rfl⟩,pl.isList.push _⟩,?_,fun h' tk k=>?_⟩
 ·intro i v s Q E e hQ
  have e':its[i]?=some v:=by simpa using e
  rw [qly rv e']
  exact wpAny_truthy_bool hQ
 ·rw [List.size_toArray,<- hl,qdn]
  refine ⟨.bl _,H,I.kept (fun b o e=>k b o (fun hb=>?_) (qc _ e)),rfl,q⟩
  have:b=s.heap.objs.size:=by simpa using hb
  exact absurd (this ▸ qi e) (jo _)
end
theorem j5:bootBuiltins "len" = some (.builtin "len"):=by decide +kernel
theorem J6:bootBuiltins "abs" = some (.builtin "abs"):=by decide +kernel
theorem Zb:bootBuiltins "max" = some (.builtin "max"):=by decide +kernel
theorem qb9:bootBuiltins "min" = some (.builtin "min"):=by decide +kernel
theorem qlx:bootBuiltins "all" = some (.builtin "all"):=by decide +kernel
theorem qeM:bootBuiltins "sorted" = some (.builtin "sorted"):=by decide +kernel
theorem J5:bootBuiltins "isinstance" = some (.builtin "isinstance"):=by decide +kernel
theorem qeN:bootBuiltins "int" = some (.type "int"):=by decide +kernel
theorem qjc:bootBuiltins "bool" = some (.type "bool"):=by decide +kernel
theorem Yt:bootBuiltins "list" = some (.type "list"):=by decide +kernel
theorem qlw:bootBuiltins "set" = some (.type "set"):=by decide +kernel
def NoX (CX:CXT):Prop:=∀ o H s e s',CX o H s E0 e s'->False
theorem Yl:NoX CX0:=fun _ _ _ _ _ h=>h
theorem passN {CX:CXT}{X:Cx}(h:NoX CX):qeV CX X E0:=fun _ _ _ _ _ _ _ q=>(h _ _ _ _ _ q).elim
def Own (P:Program) (w:World) (K:W.Frag) (mg:Str->Option Value) (base:Heap) (CX:CXT) (k:Nat) (x:Str) (ps:List Str) (sp:Sp):Prop :=
 ∃ (f:Addr) (fd:FuncData),FnOk P w K mg base CX k f fd ps sp/\mg x=some (.ref f)/\W.keepIn K (.ref f)=true/\qbr K fd ps []
section
variable {X:Cx}{CX:CXT}{k:Nat}{x:Str}{ps:List Str}{sp:Sp}{e:Expr}{es:List Expr}{t:TA}{p pos:Pos}
theorem qkf (O:Own X.prog X.w X.K X.mg X.base CX k x ps sp) (hX:NoX CX) (hr:Room k X.A) (hg:Gl X x) (ha:PA X (e::es) t) (hdb:(x == ("__debug__" : Str))=false:=by decide)
  (he:starEach (e::es) X.env=(false,eval e X.env)::starEach es X.env:=by rfl) (hpl:(backTo pos (starEach es X.env)).any (·.1)=false:=by rfl):PE X (.Call (.Name x p) (e::es) [] pos) (qjD sp [] E0 t):=by
 obtain ⟨f,fd,F,hm,hk,hb⟩:=O
 exact qig F hr hg hm hk hb .nil (passN hX) ha hdb he hpl
end
section
variable {P:Program}{w:World}{K:W.Frag}{mg:Str->Option Value}{base:Heap}{CX:CXT}
theorem Fun.okG {x qual:Str}{st:Stmt}{f:Addr}{fd:FuncData}{N ps:List Str}{k:Nat}{sp:Sp}(F:Fun K x qual st f fd) (S:FnScope N ps (qt st)) (len:∀ vs H Q E,sp vs H Q E->vs.length=ps.length)
  (hbody:∀ (cdv:Value) (A:Around) (outer:List Env) (s:Shared) (H:Hp) (vs:List V) (Q:VK) (E:XK),Room k (A.deeper (envOfC qual (qt st) s.heap.objs.size f cdv))->sp vs H Q E →
   ∃ t,PSs (qcE CX P w K mg base N qual (qt st) f cdv A outer s H E).nox (y7 st) t/\t { nx:=fun _ H'=>Q .non H',rt:=Q } (Zz N vs) H):FnOk P w K mg base CX (k+1) f fd ps sp:=by
 obtain ⟨oc,od,kV,doc,pm,an,cdv,ct,osl,rfl,lk,hcd⟩:=F.ex
 refine qk8 lk hcd S len fun A outer s H vs Q E hr hsp=>?_
 obtain ⟨t,h,q⟩:=hbody cdv A outer s H vs Q E hr hsp
 exact ⟨t,h.nox,q⟩
end
def Pot (M:Int) (H:Hp) (p:Addr):Prop:=∃ p0 p1:Int,H p=some (.lst [.int p0,.int p1])/\0<=p0/\0<=p1/\p1<M
def Stp (p:Addr) (H H':Hp):Prop:=∀ b o,H b=some o->b≠p->H' b=some o
theorem Stp.refl {p:Addr}{H:Hp}:Stp p H H:=fun _ _ e _=>e
theorem Stp.trans {p:Addr}{H H1 H2:Hp}(a:Stp p H H1) (b:Stp p H1 H2):Stp p H H2:=fun c o e n=>b c o (a c o e n) n
theorem Stp.upd {p:Addr}{H:Hp}{o:HO}:Stp p H (upd H p o):=fun b u e n=>by rw [ya n];exact e
theorem yc.stp {p:Addr}{H H':Hp}(h:yc H H'):Stp p H H':=fun b o e _=>h b o e
theorem yc.upd {p:Addr}{H:Hp}{o:HO}(h:H p=none):yc H (upd H p o):=fun b u e=>by rw [ya (q9 e h)];exact e
theorem Stp.free {p:Addr}{H H':Hp}(h:Stp p H H') {l:Addr}(e:H' l=none) (hp:∃ o,H' p=some o):H l=none:=by
 cases q:H l with
 | none=>rfl
 | some o =>
  by_cases hl:l=p
  ·subst hl
   obtain ⟨u,hu⟩:=hp
   rw [hu] at e;cases e
  ·rw [h l o q hl] at e;cases e
theorem Pot.some {M:Int}{H:Hp}{p:Addr}(h:Pot M H p):∃ o,H p=some o:=let ⟨_,_,e,_⟩:=h;⟨_,e⟩
theorem Stp.lst {K:W.Frag}{p a:Addr}{H H':Hp}{xs:List V}(h:Stp p H H') (e:SqL K H a xs) (n:a≠p):SqL K H' a xs:=by
 rcases e with (e | ⟨o,e⟩) | e
 ·exact .inl (.inl (h _ _ e n))
 ·exact .inl (.inr ⟨o,h _ _ e n⟩)
 ·exact .inr e
def qcF (H:Hp) (v:V) (ns:List Int):Prop:=∃ a,v = .ref a/\H a=some (.tup (ns.map V.int))
theorem qcF.is {K:W.Frag}{H:Hp}{v:V}{ns:List Int}(h:qcF H v ns):Is K H v (.tuple (ns.map PyData.int)):=by
 obtain ⟨a,rfl,e⟩:=h
 exact .tup (SqT.of e) (IsAll.ints ns)
theorem qcF.same {H H':Hp}{v:V}{ns:List Int}(s:yc H H') (h:qcF H v ns):qcF H' v ns:=by
 obtain ⟨a,rfl,e⟩:=h
 exact ⟨a,rfl,s _ _ e⟩
theorem qcF.stp {p:Addr}{M:Int}{H H':Hp}{v:V}{ns:List Int}(s:Stp p H H') (hp:Pot M H p) (h:qcF H v ns):qcF H' v ns:=by
 obtain ⟨a,rfl,e⟩:=h
 obtain ⟨_,_,q,_⟩:=hp
 exact ⟨a,rfl,s _ _ e (qkQ e q (by intro z;cases z))⟩
abbrev Pt:=Int×Int
def PtAt (H:Hp) (v:V) (q:Pt):Prop:=qcF H v [q.1,q.2]
abbrev Pts (H:Hp):List V->List Pt->Prop:=Paired (PtAt H)
theorem Paired.get {α β:Type}{R:α->β->Prop}:∀ {xs:List α}{ys:List β}{i:Nat}{x:α},Paired R xs ys->xs[i]?=some x->∃ y,ys[i]?=some y/\R x y
 | _,_,_,_,.nil,e=>by simp at e
 | _,_,0,_,.cons r _,e=>by simp at e;subst e;exact ⟨_,rfl,r⟩
 | _,_,i+1,x,.cons _ t,e=>by
  obtain ⟨u,h1,h2⟩:=Paired.get (i:=i) (x:=x) t (by simpa using e)
  exact ⟨u,by simpa using h1,h2⟩
theorem Paired.get' {α β:Type}{R:α->β->Prop}:∀ {xs:List α}{ys:List β}{i:Nat}{y:β},Paired R xs ys->ys[i]?=some y->∃ x,xs[i]?=some x/\R x y
 | _,_,_,_,.nil,e=>by simp at e
 | _,_,0,_,.cons r _,e=>by simp at e;subst e;exact ⟨_,rfl,r⟩
 | _,_,i+1,x,.cons _ t,e=>by
  obtain ⟨u,h1,h2⟩:=Paired.get' (i:=i) (y:=x) t (by simpa using e)
  exact ⟨u,by simpa using h1,h2⟩
theorem Paired.len {α β:Type}{R:α->β->Prop}{xs:List α}{ys:List β}(h:Paired R xs ys):xs.length=ys.length:=PySem.Paired.length h
theorem Pts.same {H H':Hp}{vs:List V}{ps:List Pt}(s:yc H H') (h:Pts H vs ps):Pts H' vs ps:=Paired.mapP h fun _ _ q=>qcF.same s q
theorem Pts.stp {p:Addr}{M:Int}{H H':Hp}{vs:List V}{ps:List Pt}(s:Stp p H H') (hp:Pot M H p) (h:Pts H vs ps):Pts H' vs ps:=Paired.mapP h fun _ _ q=>qcF.stp s hp q
def ptD (q:Pt):PyData:=.tuple [.int q.1,.int q.2]
theorem Pts.is {K:W.Frag}{H:Hp}:∀ {vs:List V}{ps:List Pt},Pts H vs ps->IsAll K H vs (ps.map ptD)
 | _,_,.nil=>.nil
 | _,_,.cons r t=>.cons (qcF.is r) (Pts.is t)
theorem qht {n:Int}(h1:-10000000000000000000000000000000000000000<=n) (h2:n<=10000000000000000000000000000000000000000):Big n:=Big.of 10000000000000000000000000000000000000000 (by decide) h1 h2
theorem sz2:2<=sizeLine:=by decide
theorem sz1:1<=sizeLine:=by decide
theorem Pot.upd {M:Int}{H:Hp}{p l:Addr}{o:HO}(h:Pot M H p) (n:p≠l):Pot M (upd H l o) p:=by
 obtain ⟨p0,p1,e,r⟩:=h
 exact ⟨p0,p1,by rw [ya n];exact e,r⟩
theorem Pot.same {M:Int}{H H':Hp}{p:Addr}(h:Pot M H p) (s:yc H H'):Pot M H' p:=by
 obtain ⟨p0,p1,e,r⟩:=h
 exact ⟨p0,p1,s _ _ e,r⟩
theorem Pts.upd {H:Hp}{l:Addr}{us vs xs:List V}{ps:List Pt}(h:Pts H vs ps) (e:H l=some (.lst us)):Pts (upd H l (.lst xs)) vs ps :=
 Paired.mapP h fun _ _ ⟨a,r,q⟩=>⟨a,r,by rw [ya (qkQ q e (by intro z;cases z))];exact q⟩
section
variable {X:Cx}{K:W.Frag}
end
section
variable {P:Program}{w:World}{H:Hp}{h:Heap}{a:Addr}{o:HO}
theorem jT.has (x:jT P w H h a o):∃ ob,h.get? a=some ob:=by
 cases o with
 | lst xs=>obtain ⟨_,_,_,_,e⟩:=x;exact ⟨_,e⟩
 | tup xs=>obtain ⟨_,_,_,ob,e,_⟩:=x;exact ⟨_,e⟩
 | dK kvs=>obtain ⟨_,_,_,_,ob,_,_,e,_⟩:=x;exact ⟨_,e⟩
 | dT kvs=>obtain ⟨_,_,_,_,ob,_,_,e,_⟩:=x;exact ⟨_,e⟩
 | set S n=>obtain ⟨ob,_,_,_,e,_⟩:=x;exact ⟨_,e⟩
 | ins C dx fs=>obtain ⟨_,_,_,e,_⟩:=x;exact ⟨_,e⟩
 | own y=>exact x
 | xd fs=>obtain ⟨_,⟨_,_,_,e,_⟩,_⟩:=x;exact ⟨_,e⟩
 | rng lo hi=>obtain ⟨_,_,_,e⟩:=x;exact ⟨_,e⟩
 | frz ob u=>obtain ⟨e,_⟩:=x;exact ⟨_,e⟩
 | tbl ps=>exact ⟨_,(show h.get? a=some _ from x)⟩
 | met f y=>exact ⟨_,(show h.get? a=some _ from x)⟩
 | ext φ=>obtain ⟨_,e,_⟩:=x;exact e
end
section
variable {P:Program}{w:World}{K:W.Frag}{mg:Str->Option Value}{base:Heap}{N:List Str}{qual:Str}{scope:Scope}{f C:Addr}{cd:Value}{A:Around}{outer:List Env}{s:Shared}{H:Hp}{E:XK}
 {x:Str}{B newId initId:String}{bmB:List Value}{e₀:Expr}{y9:List Expr}{t:TA}{np cpos pos:Pos}
end
section
variable {X:Cx}{pins:List (Addr×Obj)}{σ:St}{H H':Hp}{s:Shared}
theorem Inv.goes {i:Nat}{n:Str}{h':Heap}{m:Str->Option Value}{v:Option Value}(I:Inv X pins σ H s) (hN:X.N.Nodup) (hi:X.N[i]?=some n) (hn:s.heap.Ns X.env.locals m)
  (hl:∀ (j:Nat) (x:Str) (v:V),X.N[j]?=some x->σ[j]?=some (some v)->Vis X.env.scope x->∃ u,jL v u/\Look X.env s.heap m x u)
  (hn':h'.Ns X.env.locals (fun x=>if x=n then v else m x)) (hs:Heap.SameBut X.env.locals s.heap h') (tk:Nat):Inv X pins (σ.set i none) H { s with heap:=h',toks:=tk }:=by
 have keepb:∀ b o,b≠X.env.locals->s.heap.get? b=some o->h'.get? b=some o:=fun b o hb e=>(hs.2 b hb).trans e
 have neL:∀ b o,X.s₀.heap.get? b=some o->b≠X.env.locals:=fun b o e=>qz (qJ (qi e) I.ok.above)
 refine ⟨I.ok,I.os,I.bare,⟨fun b o e n hb hx=>keepb b o (neL b o e) (I.base.keep b o e n hb hx),fun b o e n hb hx=>?_,I.base.free,fun b o e hx=>?_,I.base.tups,I.base.frzs,I.base.tbls⟩,⟨_,hn',fun j y u e1 e2 e3=>?_⟩,fun y c e=>?_,I.free,I.freeC,fun p hp=>?_,fun b u e=>?_,by simpa using I.len⟩
 ·obtain ⟨sl,e1⟩:=I.base.slot b o e n hb hx
  exact ⟨sl,keepb b _ (neL b o e) e1⟩
 ·obtain ⟨o',e1⟩:=I.base.there b o e hx
  exact ⟨o',keepb b _ (neL b o e) e1⟩
 ·have hji:j≠i:=by
   rintro rfl
   rw [List.getElem?_set] at e2
   simp only [if_true] at e2
   split at e2 <;> cases e2
  rw [List.getElem?_set_ne (Ne.symm hji)] at e2
  obtain ⟨u',r,q⟩:=hl j y u e1 e2 e3
  refine ⟨u',r,?_⟩
  rcases q with ⟨k,e⟩ | ⟨k,c,e,z⟩
  ·refine .inl ⟨k,?_⟩
   have hy:y≠n:=fun z=>hji (ZL hN e1 (z ▸ hi))
   simp [hy,e]
  ·exact .inr ⟨k,c,e,z.sameBut hs (I.cne y c e)⟩
 ·obtain ⟨v',z⟩:=I.cell y c e
  exact ⟨v',z.sameBut hs (I.cne y c e)⟩
 ·obtain ⟨e,n,ne,nf,d⟩:=I.pin p hp
  exact ⟨keepb _ _ ne e,n,ne,nf,d⟩
 ·refine (I.hok b u e).stay (fun c v hc q=>keepb c v ?_ q) (fun _ q=>q) fun _ _ q=>q
  rintro rfl
  rcases hc with z | z
  ·rw [<- z,I.free] at e;cases e
  ·rw [I.free] at z;cases z
end
abbrev blank (n:Nat):St:=List.replicate n none
section
variable {X:Cx}
end
end L2
namespace L2
open PySem PySem.Spec PyProof.Rows PySem.W Builtin Builtin.ObjectAttr Builtin.Getset_descriptor
section
variable {prog:Program}{w:World}{A:Around}{E:Value->Shared->Prop}{K:Frag}{x C:Addr}
structure ExcCls (K:Frag) (C:Addr):Prop where
 ga:findIn K (.ref C) "__getattribute__" = some (some (.builtin "BaseException.__getattribute__"))
 gb:findIn K (.ref C) "__getattr__" = some none
 cl:findIn K (.ref C) "__class__" = some (some (.builtin "object.__class__"))
 gt:specialIn K (.builtin "object.__class__") "__get__" = some (some (.builtin "getset_descriptor.__get__"))
 tk:takesIn K (.builtin "object.__class__")=some true
 ob:mroIn K C (.type "object")=some true
 be:mroIn K C (.type "BaseException")=some true
 ct:(clsIn K C).isSome=true
end
section
variable {K:Frag}{x C:Addr}
end
def clsV:V->Value->Prop
 | .ref D,u=>u = .ref D
 | .ty n,u=>u = .type n
 | _,_=>False
theorem clsV.rel {v:V}{u u':Value}(h:clsV v u) (r:jL v u'):u'=u:=by
 cases v <;> first | exact h.elim | (cases h;cases r;rfl)
open PySem PySem.Spec PyProof.Rows
section
variable {X:Cx}{pins:List (Addr×Obj)}{σ:St}{H:Hp}{s:Shared}
theorem Inv.laidN {a:Addr}{o:HO}{h':Heap}{t':Nat}(I:Inv X pins σ H s) (k:∀ b u,s.heap.get? b=some u->h'.get? b=some u) (hp:s.heap.get? a=none) (new:jT X.prog X.w (upd H a o) h' a o) :
  H a=none/\Inv X pins σ (upd H a o) { s with heap:=h',toks:=t' }:=by
 have hn:H a=none:=by
  cases z:H a with
  | none=>rfl
  | some u =>
   obtain ⟨ob,e⟩:=(I.hok a u z).has
   rw [hp] at e;cases e
 refine ⟨hn,I.un ⟨fun b u q _ _ _=>k b u q,fun b u q _ _ _=>⟨u.slots,k b u q⟩,fun b u q n _=>?_,fun b u q _=>⟨u,k b u q⟩,fun b xs q=>?_,fun b u xs q=>?_,fun b ps q=>?_⟩ fun b u e=>?_⟩
 ·rw [ya (fun z=>by rw [z,hp] at q;cases q)];exact n
 ·rw [ya (q9 q hn)];exact q
 ·rw [ya (q9 q hn)];exact q
 ·exact ⟨#[],by rw [ya (q9 q hn),q];simp⟩
 ·by_cases hb:b=a
  ·subst hb
   rw [yf] at e;cases e;exact new
  ·rw [ya hb] at e
   exact (I.hok b u e).stay (fun c v _ q=>k c v q) (fun c q=>by rw [ya (q9 q hn)];exact q) fun c xs q=>by rw [ya (q9 q hn)];exact q
end
section
variable {X:Cx}{K:W.Frag}{C:Addr}{x:Str}{e:Expr}{es:List Expr}{t:TA}{p pos:Pos}
end
structure RoomU (k:Nat) (A:Around):Prop where
 dp:A.depth+3 * k+5<recursionLimit
 un:A.units+16 * k+200<cLine
theorem Room.toU {k:Nat}{A:Around}(r:Room k A):RoomU k A:=⟨r.dp,r.un⟩
theorem RoomU.mono {j k:Nat}{A:Around}(r:RoomU k A) (h:j<=k):RoomU j A:=⟨by have:=r.dp;omega,by have:=r.un;omega⟩
theorem RoomU.units {k:Nat}{A:Around}(r:RoomU k A):A.units+64<cLine:=by have:=r.un;omega
structure FnU (P:Program) (w:World) (K:W.Frag) (mg:Str->Option Value) (base:Heap) (CX:CXT) (k:Nat) (f:Addr) (fd:FuncData) (ps:List Str) (sp:Sp):Prop where
 len:∀ vs H Q E,sp vs H Q E->vs.length=ps.length
 run:∀ (A:Around) (outer:List Env) (s:Shared) (H:Hp) (args:Args) (us:List Value) (vs:List V) (Q:VK) (E:XK),RoomU k A->Env0 P w K mg base A outer s H->BindsTo s fd args (ps.zip us)->yz vs us->sp vs H Q E →
  codeAny (model P w) A (.call (.ref f) args) (CR CX outer P w H s Q E) s
theorem FnU.ok {P:Program}{w:World}{K:W.Frag}{mg:Str->Option Value}{base:Heap}{CX:CXT}{k:Nat}{f:Addr}{fd:FuncData}{ps:List Str}{sp:Sp}(F:FnU P w K mg base CX k f fd ps sp):FnOk P w K mg base CX k f fd ps sp :=
 ⟨F.len,fun A outer s H args us vs Q E hr=>F.run A outer s H args us vs Q E hr.toU⟩
section
variable {P:Program}{w:World}{K:W.Frag}{mg:Str->Option Value}{base:Heap}{CX:CXT}
end
def OwnU (P:Program) (w:World) (K:W.Frag) (mg:Str->Option Value) (base:Heap) (CX:CXT) (k:Nat) (x:Str) (ps:List Str) (sp:Sp):Prop :=
 ∃ (f:Addr) (fd:FuncData),FnU P w K mg base CX k f fd ps sp/\mg x=some (.ref f)/\W.keepIn K (.ref f)=true/\qbr K fd ps []
theorem OwnU.own {P:Program}{w:World}{K:W.Frag}{mg:Str->Option Value}{base:Heap}{CX:CXT}{k:Nat}{x:Str}{ps:List Str}{sp:Sp}(O:OwnU P w K mg base CX k x ps sp):Own P w K mg base CX k x ps sp :=
 let ⟨f,fd,F,r⟩:=O;⟨f,fd,F.ok,r⟩
section
variable {X:Cx}{CX:CXT}{k:Nat}{x:Str}{ps:List Str}{sp:Sp}{e:Expr}{es:List Expr}{t:TA}{p pos:Pos}
end
end L2
namespace L2
open PySem PySem.Spec PyProof.Rows PySem.W
structure Ord (f:Nat->Nat->Bool):Prop where
 asym:∀ a b,f a b=true->f b a=false
 neg:∀ a b c,f a c=true->f a b=true\/f b c=true
abbrev gD (p:Array Nat) (i:Nat):Nat:=p.getD i 0
theorem qk5 {p q:Array Nat}{i j:Nat}(h:p[i]?=q[j]?):gD p i=gD q j:=by
 simp only [gD,Array.getD_eq_getD_getElem?,h]
section
variable {f:Nat->Nat->Bool}
theorem Ord.irr (O:Ord f) (a:Nat):f a a=false:=by
 cases h:f a a with
 | false=>rfl
 | true=>rw [O.asym a a h] at h;cases h
theorem Ord.le (O:Ord f) {a b c:Nat}(h1:f b a=false) (h2:f c b=false):f c a=false:=by
 cases h:f c a with
 | false=>rfl
 | true=>rcases O.neg _ b _ h with z | z <;> simp_all
theorem Ord.ltl (O:Ord f) {a b c:Nat}(h1:f a b=true) (h2:f c b=false):f a c=true:=by
 rcases O.neg _ c _ h1 with z | z
 ·exact z
 ·rw [h2] at z;cases z
theorem Ord.lel (O:Ord f) {a b c:Nat}(h1:f b a=false) (h2:f b c=true):f a c=true:=by
 rcases O.neg _ a _ h2 with z | z
 ·rw [h1] at z;cases z
 ·exact z
def qcC (f:Nat->Nat->Bool) (p:Array Nat) (k:Nat):Prop:=∀ i j,i<=j->j<k->f (gD p j) (gD p i)=false
def qjj (f:Nat->Nat->Bool) (p:Array Nat) (k:Nat):Prop:=∀ i j,i<=j->j<k->f (gD p i) (gD p j)=false
def Eqv (f:Nat->Nat->Bool) (a b:Nat):Prop:=f a b=false/\f b a=false
theorem Eqv.refl (O:Ord f) (a:Nat):Eqv f a a:=⟨O.irr a,O.irr a⟩
theorem Eqv.symm {a b:Nat}(h:Eqv f a b):Eqv f b a:=⟨h.2,h.1⟩
theorem Eqv.trans (O:Ord f) {a b c:Nat}(h:Eqv f a b) (g:Eqv f b c):Eqv f a c:=⟨O.le g.1 h.1,O.le h.2 g.2⟩
theorem qcC.one (O:Ord f) (p:Array Nat):qcC f p 1:=fun i j h1 h2=>by
 have:i=j:=by omega
 subst this;exact O.irr _
theorem qcC.succ (O:Ord f) {p:Array Nat}{k:Nat}(h0:1<=k) (h:qcC f p k) (g:f (gD p k) (gD p (k - 1))=false):qcC f p (k+1):=fun i j hij hj=>by
 by_cases e:j=k
 ·subst e
  by_cases e2:i=j
  ·subst e2;exact O.irr _
  ·exact O.le (h i (j - 1) (by omega) (by omega)) g
 ·exact h i j hij (by omega)
theorem qjj.succ (O:Ord f) {p:Array Nat}{k:Nat}(h0:1<=k) (h:qjj f p k) (g:f (gD p (k - 1)) (gD p k)=false):qjj f p (k+1):=fun i j hij hj=>by
 by_cases e:j=k
 ·subst e
  by_cases e2:i=j
  ·subst e2;exact O.irr _
  ·exact O.le g (h i (j - 1) (by omega) (by omega))
 ·exact h i j hij (by omega)
def Arr (n:Nat) (p:Array Nat):Prop:=p.Perm (List.range n).toArray
theorem Arr.size {n:Nat}{p:Array Nat}(h:Arr n p):p.size=n:=by rw [h.size_eq];simp
theorem Arr.lt {n:Nat}{p:Array Nat}(h:Arr n p) {i:Nat}(hi:i<n):gD p i<n:=by
 have hs:=h.size
 have hi':i<p.size:=by omega
 have e:gD p i=p[i]:=by simp [gD,Array.getD,hi']
 rw [e]
 have:p[i]∈p.toList:=by simp
 have:=(yI.mp h).mem_iff.mp this
 simpa using this
theorem Arr.rev {n:Nat}{p:Array Nat}(h:Arr n p) (i j:Nat):Arr n (kas_rev p i j):=(mirror_perm p i j _).trans h
theorem qha {p:Array Nat}{i j:Nat}(hj:j<=p.size) (k:Nat):gD (kas_rev p i j) k=if i<=k/\k<j then gD p (i+j - 1 - k) else gD p k:=by
 have e:=getElem?_mirror_all (i:=i) hj k
 unfold kas_rev
 by_cases h1:i<=k/\k<j
 ·rw [if_pos h1] at e ⊢;exact qk5 e
 ·rw [if_neg h1] at e ⊢;exact qk5 e
theorem eqv_l (O:Ord f) {a b c:Nat}(h:Eqv f a b):f a c=f b c:=by
 cases h1:f b c with
 | true=>exact O.lel h.2 h1
 | false =>
  cases h2:f a c with
  | false=>rfl
  | true =>
   have:=O.lel h.1 h2
   rw [h1] at this;cases this
theorem eqv_r (O:Ord f) {a b c:Nat}(h:Eqv f a b):f c a=f c b:=by
 cases h1:f c b with
 | true=>exact O.ltl h1 h.1
 | false =>
  cases h2:f c a with
  | false=>rfl
  | true =>
   have:=O.ltl h2 h.2
   rw [h1] at this;cases this
theorem qjj.eqv (O:Ord f) {p q:Array Nat}{k:Nat}(h:qjj f p k) (e:∀ i,Eqv f (gD q i) (gD p i)):qjj f q k:=fun i j h1 h2=>by
 rw [eqv_l O (e i),eqv_r O (e j)];exact h i j h1 h2
theorem qcC.ofRev {p:Array Nat}{k:Nat}(hk:k<=p.size) (h:qjj f p k):qcC f (kas_rev p 0 k) k:=fun i j h1 h2=>by
 rw [qha hk,qha hk,if_pos (by omega),if_pos (by omega)]
 exact h _ _ (by omega) (by omega)
section
variable {n:Nat}{cmp:Nat->Nat->(Bool->Shared->Prop)->Shared->Prop}{s:Shared}
end
end
end L2
namespace L2
open PySem PySem.Spec PyProof.Rows PySem.W
def qdY (fin:Bool):List Int->List Int->Bool
 | x::r,y::t=>if x=y then qdY fin r t else decide (x<y)
 | _,_=>fin
theorem qdX:∀ ns ms:List Int,qdY (decide (ns.length<ms.length)) ns ms=decide (ns<ms)
 | [],[]=>by simp [qdY]
 | [],_::_=>by simp [qdY]
 | _::_,[]=>by simp [qdY]
 | x::r,y::t=>by
  have ih:=qdX r t
  simp only [qdY,List.length_cons,Nat.add_lt_add_iff_right]
  by_cases e:x=y
  ·subst e
   rw [if_pos rfl,ih]
   simp [List.cons_lt_cons_iff]
  ·rw [if_neg e]
   simp [List.cons_lt_cons_iff,e]
theorem qbV {a b:List Int}(h:a<b):¬ b<a:=fun g=>List.lt_irrefl a (List.lt_trans h g)
theorem qdS (ks:Nat->List Int):Ord fun i j=>decide (ks i<ks j) where
 asym a b h:=yB (qbV (qy h))
 neg a b c h:=by
  have h:=qy h
  by_cases e:ks a<ks b
  ·exact .inl (qm e)
  ·exact .inr (qm (List.lt_of_le_of_lt (List.not_lt.mp e) h))
def ju (h:Heap) (v:Value) (ks:List Int):Prop:=∃ b o xs n,v = .ref b/\h.get? b=some o/\o.cls = .type "tuple" /\ o.data = .seq xs n/\IntsAre xs.toList ks/\ks≠[]
theorem ju.kept {h h':Heap}{v:Value}{ks:List Int}(k:∀ b o,h.get? b=some o->o.cls = .type "tuple" -> h'.get? b=some o) (t:ju h v ks):ju h' v ks:=by
 obtain ⟨b,o,xs,n,e,ho,hc,r⟩:=t
 exact ⟨b,o,xs,n,e,k b o ho hc,hc,r⟩
section
variable {prog:Program}{w:World}{A:Around}{E:Value->Shared->Prop}{s:Shared}
theorem qg4 {fin:Bool}{Q:Bool->Shared->Prop}:∀ {xs ys:List Value}{ns ms:List Int}(i:Nat),IntsAre xs ns->IntsAre ys ms->Q (qdY fin ns ms) s->KatLex prog w A true fin Q (xs.zip ys) i s
 | _,_,_,_,i,.nil,_,q=>kat_nil (by simpa [qdY] using q)
 | _,_,_,_,i,.cons _ _ _,.nil,q=>kat_nil (by simpa [qdY] using q)
 | _,_,_,_,i,.cons x t hx,.cons y u hy,q=>by
  refine kat_cons (wpAny_eqBool_int ?_)
  by_cases e:x=y
  ·subst e
   rw [beq_self_eq_true]
   exact kat_yes (qg4 (i+1) hx hy (by simpa [qdY] using q))
  ·have hb:(x == y)=false:=by simpa using e
   rw [hb]
   have q':Q (decide (x<y)) s:=by simpa [qdY,e] using q
   refine kat_no ?_
   cases i with
   | zero=>exact oneLt_int q'
   | succ i=>exact kat_one _ _ (lt_int q')
theorem lt_wp {v u:Value}{ns ms:List Int}{Q:Bool->Shared->Prop}(h1:ju s.heap v ns) (h2:ju s.heap u ms) (q:Q (decide (ns<ms)) s):wpAny (model prog w) A (keyLt' (tuples' true) v u) Q E s:=by
 obtain ⟨a,o,xs,n,rfl,ho,_,hd,hi,_⟩:=h1
 obtain ⟨b,o',ys,n',rfl,ho',_,hd',hi',_⟩:=h2
 refine kat_lt ho hd ho' hd' (qg4 0 hi hi' ?_)
 have e1:=IntsAre.length hi
 have e2:=IntsAre.length hi'
 simp only [Array.length_toList] at e1 e2
 rw [e1,e2,qdX]
 exact q
theorem YT {h:Heap}:∀ {vs:List Value}{kss:List (List Int)},PySem.Paired (ju h) vs kss->∃ fs:List Value,KatTups h vs fs/\fs.length=vs.length/\∀ v∈fs,∃ i t,v = .int i t
 | _,_,.nil=>⟨[],trivial,rfl,fun _ z=>nomatch z⟩
 | _,_,.cons ⟨a,o,xs,n,e,ho,hc,hd,hi,hn⟩ r=>by
  obtain ⟨fs,k,hl,hf⟩:=YT r
  subst e
  obtain ⟨l⟩:=xs
  cases hi with
  | nil=>exact absurd rfl hn
  | cons i t hr =>
   refine ⟨.int i t::fs,KatTups.cons ho hc hd rfl k,by simp [hl],fun v hv=>?_⟩
   rcases List.mem_cons.mp hv with rfl | hv
   ·exact ⟨i,t,rfl⟩
   ·exact hf v hv
theorem qiF {vs:List Value}{kss:List (List Int)}{Q:SortKind->Shared->Prop}(hT:PySem.Paired (ju s.heap) vs kss) (h2:0<vs.length) (q:Q (tuples' true) s):wpAny (model prog w) A (keyKind' vs.toArray) Q E s:=by
 obtain ⟨fs,k,hl,hf⟩:=YT hT
 refine kat_kind (T:=.type "int") k (by omega) (fun v hv=>?_) rfl q
 obtain ⟨i,t,rfl⟩:=hf v hv
 exact Looks.now
end
end L2
namespace L2
open PySem PySem.Spec PyProof.Rows PySem.W
structure OrdK (f:Keyed->Keyed->Bool):Prop where
 asym:∀ a b,f a b=true->f b a=false
 neg:∀ a b c,f a c=true->f a b=true\/f b c=true
section
variable {f:Keyed->Keyed->Bool}
theorem OrdK.irr (O:OrdK f) (a:Keyed):f a a=false:=by
 cases h:f a a with
 | false=>rfl
 | true=>rw [O.asym a a h] at h;cases h
theorem OrdK.le (O:OrdK f) {a b c:Keyed}(h1:f b a=false) (h2:f c b=false):f c a=false:=by
 cases h:f c a with
 | false=>rfl
 | true=>rcases O.neg _ b _ h with z | z <;> simp_all
theorem OrdK.ltl (O:OrdK f) {a b c:Keyed}(h1:f a b=true) (h2:f c b=false):f a c=true:=by
 rcases O.neg _ c _ h1 with z | z
 ·exact z
 ·rw [h2] at z;cases z
theorem OrdK.lel (O:OrdK f) {a b c:Keyed}(h1:f b a=false) (h2:f b c=true):f a c=true:=by
 rcases O.neg _ a _ h2 with z | z
 ·rw [h1] at z;cases z
 ·exact z
def SdK (f:Keyed->Keyed->Bool) (l:List Keyed):Prop:=l.Pairwise fun x y=>f y x=false
def Ask (prog:Program) (w:World) (A:Around) (E:Value->Shared->Prop) (s:Shared) (kd:SortKind) (D:Keyed->Prop) (f:Keyed->Keyed->Bool):Prop :=
 ∀ (x y:Keyed) (st:SortSt) (Q:Option Bool->SortSt->Prop),D x->D y->kindOf st=kd->Q (some (f x y)) st->wpS (model prog w) A E s (lt' x y) Q st
end
def jn:Bool->Keyed->Array Keyed->Nat->Nat->Nat->StateT SortSt Sem (Option Nat):=sortPriv% PySem.Builtin.gallop
def JQ (left:Bool) (key:Keyed) (arr:Array Keyed) (base i:Nat):StateT SortSt Sem (Option Bool):=do
  let x <- elem' arr (base+i)
  if left then lt' x key else return (<- lt' key x).map (!·)
theorem qcs (left:Bool) (key:Keyed) (arr:Array Keyed) (base n hint:Nat):jn left key arr base n hint=(do
 let mut lastofs:=0
 let mut ofs:=1
 let mut lo:=0
 let mut hi:=0
 let some right <- JQ left key arr base hint | return none
 if right then
  let maxofs:=n - hint
  for _ in [0:n] do
   if ofs ≥ maxofs then break
   let some more <- JQ left key arr base (hint+ofs) | return none
   if !more then break
   lastofs:=ofs
   ofs:=2 * ofs+1
  lo:=hint+lastofs+1
  hi:=hint+min ofs maxofs
 else
  let maxofs:=hint+1
  for _ in [0:n] do
   if ofs ≥ maxofs then break
   let some found <- JQ left key arr base (hint - ofs) | return none
   if found then break
   lastofs:=ofs
   ofs:=2 * ofs+1
  lo:=hint+1 - min ofs maxofs
  hi:=hint - lastofs
 for _ in [0:n] do
  if lo ≥ hi then break
  let m:=lo+(hi - lo) / 2
  let some more <- JQ left key arr base m | return none
  if more then lo:=m+1 else hi:=m
 return some hi):=rfl
section
variable {prog:Program}{w:World}{A:Around}{E:Value->Shared->Prop}{s:Shared}{kd:SortKind}{D:Keyed->Prop}{f:Keyed->Keyed->Bool}
def byd (f:Keyed->Keyed->Bool) (left:Bool) (key x:Keyed):Bool:=if left then f x key else !f key x
theorem qcO (hA:Ask prog w A E s kd D f) {left:Bool}{key x:Keyed}{arr:Array Keyed}{base i:Nat}{st:SortSt}{Q:Option Bool->SortSt->Prop}(hk:kindOf st=kd) (hx:arr[base+i]?=some x) (dk:D key) (dx:D x) (q:Q (some (byd f left key x)) st) :
  wpS (model prog w) A E s (JQ left key arr base i) Q st:=by
 unfold JQ
 rw [elem'_eq,hx]
 refine qf (qo ?_)
 cases left with
 | true=>exact hA _ _ _ _ dx dk hk q
 | false=>exact qf (hA _ _ _ _ dk dx hk (qo q))
theorem qcN (hA:Ask prog w A E s kd D f) {left:Bool}{key:Keyed}{arr:Array Keyed}{base n hint:Nat}{st:SortSt}{Q:Option Nat->SortSt->Prop}(hk:kindOf st=kd) (xs:List Keyed)
  (hn:xs.length=n) (hx:∀ i (h:i<xs.length),arr[base+i]?=some xs[i]) (dk:D key) (dx:∀ x∈xs,D x) (hh:hint<n) (hm:∀ i j (hi:i<xs.length) (hj:j<xs.length),i<=j->byd f left key xs[j]=true->byd f left key xs[i]=true)
  (q:∀ k,k<=n->(∀ i (h:i<xs.length),i<k->byd f left key xs[i]=true)->(∀ i (h:i<xs.length),k<=i->byd f left key xs[i]=false)->Q (some k) st) :
  wpS (model prog w) A E s (jn left key arr base n hint) Q st:=by
 have ask:∀ (i:Nat) (h:i<xs.length) (Q:Option Bool->SortSt->Prop),Q (some (byd f left key xs[i])) st->wpS (model prog w) A E s (JQ left key arr base i) Q st:=fun i h Q q=>qcO hA hk (hx i h) dk (dx _ (qU h)) q
 generalize hp:(fun x=>byd f left key x)=p at *
 have hp':∀ x,byd f left key x=p x:=fun x=>by rw [<- hp]
 simp only [hp'] at hm q ask
 subst hn
 rw [qcs]
 dsimp only
 refine qf (ask hint hh _ ?_)
 dsimp only
 cases hc:p xs[hint] with
 | true =>
  simp only [if_true]
  refine qf (jc (yg (I:=fun x c st'=>st'=st/\∃ l o,c=(none,l,o)/\l<o/\x+1<=o/\hint+l<xs.length/\(∀ h:hint+l<xs.length,p xs[hint+l]=true))
   (Q:=fun c st'=>st'=st/\∃ l o,c=(none,l,o)/\l<o/\hint+l<xs.length/\(∀ h:hint+l<xs.length,p xs[hint+l]=true)/\(xs.length<=hint+o\/∃ h:hint+o<xs.length,p xs[hint+o]=false)) ?step ?fin ⟨rfl,0,1,rfl,by omega,by omega,hh,fun _=>hc⟩) ?post)
  case fin =>
   rintro c st' ⟨rfl,l,o,rfl,a1,a2,a3,a4⟩
   exact ⟨rfl,l,o,rfl,a1,a3,a4,.inl (by omega)⟩
  case step =>
   rintro x c st' _ hx' ⟨rfl,l,o,rfl,a1,a2,a3,a4⟩
   dsimp only
   by_cases hge:o ≥ xs.length - hint
   ·rw [if_pos hge]
    exact qo ⟨rfl,l,o,rfl,a1,a3,a4,.inl (by omega)⟩
   ·rw [if_neg hge]
    have ho:hint+o<xs.length:=by omega
    refine qf (ask _ ho _ ?_)
    dsimp only
    cases hc2:p xs[hint+o] with
    | true =>
     simp only [Bool.not_true,Bool.false_eq_true,if_false]
     exact qo ⟨rfl,o,2 * o+1,rfl,by omega,by omega,ho,fun _=>hc2⟩
    | false =>
     simp only [Bool.not_false,if_true]
     exact qo ⟨rfl,l,o,rfl,a1,a3,a4,.inr ⟨ho,hc2⟩⟩
  case post =>
   rintro c st' ⟨rfl,l,o,rfl,a1,a3,a4,a5⟩
   dsimp only
   have h3:∀ i (h:i<xs.length),i<(hint+l+1)->p xs[i]=true:=fun i h hi=>by
    exact hm i (hint+l) h a3 (by omega) (a4 a3)
   have h4:∀ i (h:i<xs.length),(hint+min o (xs.length - hint))<=i->p xs[i]=false:=fun i h hi=>by
    rcases a5 with a5 | ⟨a5,a6⟩
    ·exact absurd h (by omega)
    ·cases hz:p xs[i] with
     | false=>rfl
     | true=>rw [hm (hint+o) i a5 h (by omega) hz] at a6;cases a6
   refine qf (jc (yg (I:=fun x c sx=>sx=st'/\∃ l r,c=(none,l,r)/\l<=r/\r<=xs.length/\r - l<=xs.length - x/\(∀ i (h:i<xs.length),i<l->p xs[i]=true)/\(∀ i (h:i<xs.length),r<=i->p xs[i]=false))
    (Q:=fun c sx=>sx=st'/\∃ r,c=(none,r,r)/\r<=xs.length/\(∀ i (h:i<xs.length),i<r->p xs[i]=true)/\(∀ i (h:i<xs.length),r<=i->p xs[i]=false)) ?step0 ?fin0 ⟨rfl,(hint+l+1),(hint+min o (xs.length - hint)),rfl,by omega,by omega,by omega,h3,h4⟩) ?post0)
   case fin0 =>
    rintro c st' ⟨rfl,l,r,rfl,a1,a2,a3,a4,a5⟩
    have:l=r:=by omega
    subst this
    exact ⟨rfl,l,rfl,a2,a4,a5⟩
   case step0 =>
    rintro x c st' _ hx' ⟨rfl,l,r,rfl,a1,a2,a3,a4,a5⟩
    dsimp only
    by_cases hge:l ≥ r
    ·rw [if_pos hge]
     have:l=r:=by omega
     subst this
     exact qo ⟨rfl,l,rfl,a2,a4,a5⟩
    ·rw [if_neg hge]
     have hmid:l+(r - l) / 2<xs.length:=by omega
     refine qf (ask _ hmid _ ?_)
     dsimp only
     cases hc:p xs[l+(r - l) / 2] with
     | true =>
      simp only [if_true]
      refine qo ⟨rfl,_,_,rfl,by omega,by omega,by omega,fun i h hi=>?_,a5⟩
      exact hm i (l+(r - l) / 2) h hmid (by omega) hc
     | false =>
      simp only [Bool.false_eq_true,if_false]
      refine qo ⟨rfl,_,_,rfl,by omega,by omega,by omega,a4,fun i h hi=>?_⟩
      cases hz:p xs[i] with
      | false=>rfl
      | true=>rw [hm (l+(r - l) / 2) i hmid h hi hz] at hc;cases hc
   case post0 =>
    rintro c st' ⟨rfl,r,rfl,a2,a4,a5⟩
    exact qo (q r a2 a4 a5)
 | false =>
  simp only [Bool.false_eq_true,if_false]
  refine qf (jc (yg (I:=fun x c st'=>st'=st/\∃ l o,c=(none,l,o)/\l<o/\x+1<=o/\l<=hint/\(∀ h:hint - l<xs.length,p xs[hint - l]=false))
   (Q:=fun c st'=>st'=st/\∃ l o,c=(none,l,o)/\l<o/\l<=hint/\(∀ h:hint - l<xs.length,p xs[hint - l]=false)/\(hint+1<=o\/(o<=hint/\∃ h:hint - o<xs.length,p xs[hint - o]=true))) ?step ?fin ⟨rfl,0,1,rfl,by omega,by omega,by omega,fun _=>hc⟩) ?post)
  case fin =>
   rintro c st' ⟨rfl,l,o,rfl,a1,a2,a3,a4⟩
   exact ⟨rfl,l,o,rfl,a1,a3,a4,.inl (by omega)⟩
  case step =>
   rintro x c st' _ hx' ⟨rfl,l,o,rfl,a1,a2,a3,a4⟩
   dsimp only
   by_cases hge:o ≥ hint+1
   ·rw [if_pos hge]
    exact qo ⟨rfl,l,o,rfl,a1,a3,a4,.inl (by omega)⟩
   ·rw [if_neg hge]
    have ho:hint - o<xs.length:=by omega
    refine qf (ask _ ho _ ?_)
    dsimp only
    cases hc2:p xs[hint - o] with
    | true =>
     simp only [if_true]
     exact qo ⟨rfl,l,o,rfl,a1,a3,a4,.inr ⟨by omega,ho,hc2⟩⟩
    | false =>
     simp only [Bool.false_eq_true,if_false]
     exact qo ⟨rfl,o,2 * o+1,rfl,by omega,by omega,by omega,fun _=>hc2⟩
  case post =>
   rintro c st' ⟨rfl,l,o,rfl,a1,a3,a4,a5⟩
   dsimp only
   have h3:∀ i (h:i<xs.length),i<(hint+1 - min o (hint+1))->p xs[i]=true:=fun i h hi=>by
    rcases a5 with a5 | ⟨a5,a6,a7⟩
    ·exact absurd hi (by omega)
    ·exact hm i (hint - o) h a6 (by omega) a7
   have h4:∀ i (h:i<xs.length),(hint - l)<=i->p xs[i]=false:=fun i h hi=>by
    have hz0:=a4 (by omega)
    cases hz:p xs[i] with
    | false=>rfl
    | true=>rw [hm (hint - l) i (by omega) h hi hz] at hz0;cases hz0
   refine qf (jc (yg (I:=fun x c sx=>sx=st'/\∃ l r,c=(none,l,r)/\l<=r/\r<=xs.length/\r - l<=xs.length - x/\(∀ i (h:i<xs.length),i<l->p xs[i]=true)/\(∀ i (h:i<xs.length),r<=i->p xs[i]=false))
    (Q:=fun c sx=>sx=st'/\∃ r,c=(none,r,r)/\r<=xs.length/\(∀ i (h:i<xs.length),i<r->p xs[i]=true)/\(∀ i (h:i<xs.length),r<=i->p xs[i]=false)) ?step1 ?fin1 ⟨rfl,(hint+1 - min o (hint+1)),(hint - l),rfl,by omega,by omega,by omega,h3,h4⟩) ?post1)
   case fin1 =>
    rintro c st' ⟨rfl,l,r,rfl,a1,a2,a3,a4,a5⟩
    have:l=r:=by omega
    subst this
    exact ⟨rfl,l,rfl,a2,a4,a5⟩
   case step1 =>
    rintro x c st' _ hx' ⟨rfl,l,r,rfl,a1,a2,a3,a4,a5⟩
    dsimp only
    by_cases hge:l ≥ r
    ·rw [if_pos hge]
     have:l=r:=by omega
     subst this
     exact qo ⟨rfl,l,rfl,a2,a4,a5⟩
    ·rw [if_neg hge]
     have hmid:l+(r - l) / 2<xs.length:=by omega
     refine qf (ask _ hmid _ ?_)
     dsimp only
     cases hc:p xs[l+(r - l) / 2] with
     | true =>
      simp only [if_true]
      refine qo ⟨rfl,_,_,rfl,by omega,by omega,by omega,fun i h hi=>?_,a5⟩
      exact hm i (l+(r - l) / 2) h hmid (by omega) hc
     | false =>
      simp only [Bool.false_eq_true,if_false]
      refine qo ⟨rfl,_,_,rfl,by omega,by omega,by omega,a4,fun i h hi=>?_⟩
      cases hz:p xs[i] with
      | false=>rfl
      | true=>rw [hm (l+(r - l) / 2) i hmid h hi hz] at hc;cases hc
   case post1 =>
    rintro c st' ⟨rfl,r,rfl,a2,a4,a5⟩
    exact qo (q r a2 a4 a5)
end
end L2
namespace L2
open PySem PySem.Spec PyProof.Rows PySem.W
section
variable {f:Keyed->Keyed->Bool}
theorem qf9 (O:OrdK f) {left:Bool}{key:Keyed}{xs:List Keyed}(hs:SdK f xs) (i j:Nat) (hi:i<xs.length) (hj:j<xs.length) (hij:i<=j) (h:byd f left key xs[j]=true):byd f left key xs[i]=true:=by
 have hle:f xs[j] xs[i]=false:=by
  by_cases e:i=j
  ·subst e;exact O.irr _
  ·exact qM.mp hs i j hi hj (by omega)
 unfold byd at *
 cases left with
 | true =>
  simp only [if_true] at *
  exact O.lel hle h
 | false =>
  simp only [Bool.false_eq_true,if_false,Bool.not_eq_true'] at *
  exact O.le hle h
theorem mv {out X A B:List Keyed}(h1:SdK f (out++(X++A))) (h2:SdK f (out++B)) (c:∀ x∈X,∀ y∈B,f y x=false):SdK f ((out++X)++A)/\SdK f ((out++X)++B):=by
 unfold SdK at *
 refine ⟨by rw [qq];exact h1,?_⟩
 rw [<- qq] at h1
 obtain ⟨g1,_,_⟩:=qL.mp h1
 obtain ⟨_,k2,k3⟩:=qL.mp h2
 refine qL.mpr ⟨g1,k2,fun x hx y hy=>?_⟩
 rcases List.mem_append.mp hx with h | h
 ·exact k3 x h y hy
 ·exact c x h y hy
theorem qlZ {O' X A B:List Keyed}(h1:SdK f ((A++X)++O')) (h2:SdK f (B++O')) (c:∀ x∈X,∀ y∈B,f x y=false):SdK f (A++(X++O'))/\SdK f (B++(X++O')):=by
 unfold SdK at *
 rw [qq] at h1
 refine ⟨h1,?_⟩
 obtain ⟨_,g1,_⟩:=qL.mp h1
 obtain ⟨k1,_,k3⟩:=qL.mp h2
 refine qL.mpr ⟨k1,g1,fun x hx y hy=>?_⟩
 rcases List.mem_append.mp hy with h | h
 ·exact c y h x hx
 ·exact k3 x hx y h
end
section
variable {prog:Program}{w:World}{A:Around}{E:Value->Shared->Prop}{s:Shared}{kd:SortKind}{D:Keyed->Prop}{f:Keyed->Keyed->Bool}
theorem Zl (hA:Ask prog w A E s kd D f) (O:OrdK f) {left:Bool}{key:Keyed}{arr:Array Keyed}{base n hint:Nat}{st:SortSt}{Q:Option Nat->SortSt->Prop}(hk:kindOf st=kd) (xs:List Keyed)
  (hn:xs.length=n) (hx:∀ i,i<xs.length->arr[base+i]?=xs[i]?) (dk:D key) (dx:∀ x∈xs,D x) (hh:hint<n) (hs:SdK f xs)
  (q:∀ k,k<=n->(∀ x∈xs.take k,byd f left key x=true)->(∀ x∈xs.drop k,byd f left key x=false)->Q (some k) st) :
  wpS (model prog w) A E s (jn left key arr base n hint) Q st:=by
 refine qcN hA hk xs hn (fun i h=>by rw [hx i h,List.getElem?_eq_getElem h]) dk dx hh (qf9 O hs) fun k h1 h2 h3=>q k h1 (fun x hx=>?_) (fun x hx=>?_)
 ·obtain ⟨i,hi,rfl⟩:=jy.mp hx
  rw [List.getElem_take]
  exact h2 i _ (by rw [yb] at hi;omega)
 ·obtain ⟨i,hi,rfl⟩:=jy.mp hx
  rw [List.getElem_drop]
  exact h3 (k+i) _ (by omega)
end
def yA (st st':SortSt):Prop:=kindOf st'=kindOf st/\arrOf st'=arrOf st/\pendingOf st'=pendingOf st/\failedOf st'=failedOf st
theorem yA.refl (st:SortSt):yA st st:=⟨rfl,rfl,rfl,rfl⟩
theorem yA.trans {a b c:SortSt}(h:yA a b) (g:yA b c):yA a c:=⟨g.1.trans h.1,g.2.1.trans h.2.1,g.2.2.1.trans h.2.2.1,g.2.2.2.trans h.2.2.2⟩
def YF:Array Keyed->Array Keyed->StateT SortSt Sem (Array Keyed):=sortPriv% PySem.Builtin.mergeLo
def yo:Nat->StateT SortSt Sem Unit:=sortPriv% PySem.Builtin.setMinGallop
theorem yY (g:Nat):yo g=modify fun s=>SortSt.mk' (kindOf s) (arrOf s) (pendingOf s) g (failedOf s):=rfl
abbrev GS:=Option (Array Keyed)×Array Keyed×Nat×Nat×Nat×Nat×Nat
abbrev CS:=Option (Array Keyed)×Array Keyed×Nat×Nat×Nat×Nat
def ql0 (a b:Array Keyed) (out:Array Keyed) (ia ib mg ac bc:Nat):StateT SortSt Sem (ForInStep GS):=do
 let x <- elem' a ia
 if (ia+1+1 == a.size)=true then pure (.done (some (out.push x++b.extract ib b.size++a.extract (ia+1) a.size),out.push x,ia+1,ib,mg,ac,bc))
 else if (decide (ac<7) && decide (bc<7))=true then pure (.done (none,out.push x,ia+1,ib,mg,ac,bc))
 else pure (.yield (none,out.push x,ia+1,ib,mg,ac,bc))
def loG3 (a b:Array Keyed) (out:Array Keyed) (ia ib mg ac bc:Nat):StateT SortSt Sem (ForInStep GS):=do
 let x <- elem' a ia
 let k <- jn true x b ib (b.size - ib) 0
 match k with
 | some k =>
  if k > 0 then
   if (ib+k == b.size)=true then pure (.done (some (out++b.extract ib (ib+k)++a.extract ia a.size++b.extract (ib+k) b.size),out++b.extract ib (ib+k),ia,ib+k,mg,ac,k))
   else ql0 a b (out++b.extract ib (ib+k)) ia (ib+k) mg ac k
  else ql0 a b out ia ib mg ac k
 | _=>pure (.done (some (out++a.extract ia a.size++b.extract ib b.size),out,ia,ib,mg,ac,bc))
def ql1 (a b:Array Keyed) (out:Array Keyed) (ia ib mg ac bc:Nat):StateT SortSt Sem (ForInStep GS):=do
 let x <- elem' b ib
 if (ib+1 == b.size)=true then pure (.done (some (out.push x++a.extract ia a.size++b.extract (ib+1) b.size),out.push x,ia,ib+1,mg,ac,bc))
 else loG3 a b (out.push x) ia (ib+1) mg ac bc
def ql2 (a b:Array Keyed) (out:Array Keyed) (ia ib mg ac bc:Nat):StateT SortSt Sem (ForInStep GS):=do
 yo mg
 let x <- elem' b ib
 let k <- jn false x a ia (a.size - ia) 0
 match k with
 | some k =>
  if k > 0 then
   if (ia+k+1 == a.size)=true then pure (.done (some (out++a.extract ia (ia+k)++b.extract ib b.size++a.extract (ia+k) a.size),out++a.extract ia (ia+k),ia+k,ib,mg,k,bc))
   else if (ia+k == a.size)=true then pure (.done (some (out++a.extract ia (ia+k)++a.extract (ia+k) a.size++b.extract ib b.size),out++a.extract ia (ia+k),ia+k,ib,mg,k,bc))
   else ql1 a b (out++a.extract ia (ia+k)) (ia+k) ib mg k bc
  else ql1 a b out ia ib mg k bc
 | _=>pure (.done (some (out++a.extract ia a.size++b.extract ib b.size),out,ia,ib,mg,ac,bc))
def loGB (a b:Array Keyed) (_:Nat) (c:GS):StateT SortSt Sem (ForInStep GS) :=
 if c.2.2.2.2.1 > 1 then ql2 a b c.2.1 c.2.2.1 c.2.2.2.1 (c.2.2.2.2.1 - 1) c.2.2.2.2.2.1 c.2.2.2.2.2.2 else ql2 a b c.2.1 c.2.2.1 c.2.2.2.1 c.2.2.2.2.1 c.2.2.2.2.2.1 c.2.2.2.2.2.2
def loCB (a b:Array Keyed) (mg:Nat) (_:Nat) (c:CS):StateT SortSt Sem (ForInStep CS):=do
 let y <- elem' b c.2.2.2.1
 let x <- elem' a c.2.2.1
 let r <- lt' y x
 match r with
 | some bWins =>
  if bWins=true then do
   let y <- elem' b c.2.2.2.1
   if (c.2.2.2.1+1 == b.size)=true then pure (.done (some (c.2.1.push y++a.extract c.2.2.1 a.size++b.extract (c.2.2.2.1+1) b.size),c.2.1.push y,c.2.2.1,c.2.2.2.1+1,0,c.2.2.2.2.2+1))
   else if c.2.2.2.2.2+1 ≥ mg then pure (.done (none,c.2.1.push y,c.2.2.1,c.2.2.2.1+1,0,c.2.2.2.2.2+1))
   else pure (.yield (none,c.2.1.push y,c.2.2.1,c.2.2.2.1+1,0,c.2.2.2.2.2+1))
  else do
   let x <- elem' a c.2.2.1
   if (c.2.2.1+1+1 == a.size)=true then pure (.done (some (c.2.1.push x++b.extract c.2.2.2.1 b.size++a.extract (c.2.2.1+1) a.size),c.2.1.push x,c.2.2.1+1,c.2.2.2.1,c.2.2.2.2.1+1,0))
   else if c.2.2.2.2.1+1 ≥ mg then pure (.done (none,c.2.1.push x,c.2.2.1+1,c.2.2.2.1,c.2.2.2.2.1+1,0))
   else pure (.yield (none,c.2.1.push x,c.2.2.1+1,c.2.2.2.1,c.2.2.2.2.1+1,0))
 | _=>pure (.done (some (c.2.1++a.extract c.2.2.1 a.size++b.extract c.2.2.2.1 b.size),c.2.1,c.2.2.1,c.2.2.2.1,c.2.2.2.2.1,c.2.2.2.2.2))
abbrev OS:=Option (Array Keyed)×Array Keyed×Nat×Nat×Nat
def loOB (a b:Array Keyed) (_:Nat) (c:OS):StateT SortSt Sem (ForInStep OS):=do
 let c1 <- forIn [0:a.size+b.size] ((none,c.2.1,c.2.2.1,c.2.2.2.1,0,0):CS) (loCB a b c.2.2.2.2)
 match c1.1 with
 | some r=>pure (.done (some r,c1.2.1,c1.2.2.1,c1.2.2.2.1,c.2.2.2.2))
 | none=>do
  liftM (rule "list.sort.gallop")
  let c2 <- forIn [0:a.size+b.size] ((none,c1.2.1,c1.2.2.1,c1.2.2.2.1,c.2.2.2.2+1,c1.2.2.2.2.1,c1.2.2.2.2.2):GS) (loGB a b)
  match c2.1 with
  | some r=>pure (.done (some r,c2.2.1,c2.2.2.1,c2.2.2.2.1,c2.2.2.2.2.1))
  | none=>do
   yo (c2.2.2.2.2.1+1)
   pure (.yield (none,c2.2.1,c2.2.2.1,c2.2.2.2.1,c2.2.2.2.2.1+1))
theorem qas (a b:Array Keyed):YF a b=(do
 rule "list.sort.merge-lo"
 let total:=a.size+b.size
 let done (out:Array Keyed) (ia ib:Nat):=out++a.extract ia a.size++b.extract ib b.size
 let lastOfA (out:Array Keyed) (ia ib:Nat):=out++b.extract ib b.size++a.extract ia a.size
 let mut out:Array Keyed:=#[<- elem' b 0]
 let mut ia:=0
 let mut ib:=1
 if ib == b.size then return done out ia ib
 if ia+1 == a.size then return lastOfA out ia ib
 let mut minGallop:=gallopOf (<- get)
 for _ in [0:total] do
  let mut acount:=0
  let mut bcount:=0
  for _ in [0:total] do
   let some bWins <- lt' (<- elem' b ib) (<- elem' a ia) | return done out ia ib
   if bWins then
    out:=out.push (<- elem' b ib);ib:=ib+1;bcount:=bcount+1;acount:=0
    if ib == b.size then return done out ia ib
    if bcount ≥ minGallop then break
   else
    out:=out.push (<- elem' a ia);ia:=ia+1;acount:=acount+1;bcount:=0
    if ia+1 == a.size then return lastOfA out ia ib
    if acount ≥ minGallop then break
  rule "list.sort.gallop"
  minGallop:=minGallop+1
  for _ in [0:total] do
   if minGallop > 1 then minGallop:=minGallop - 1
   yo minGallop
   let some k <- jn false (<- elem' b ib) a ia (a.size - ia) 0 | return done out ia ib
   acount:=k
   if k > 0 then
    out:=out++a.extract ia (ia+k);ia:=ia+k
    if ia+1 == a.size then return lastOfA out ia ib
    if ia == a.size then return done out ia ib
   out:=out.push (<- elem' b ib);ib:=ib+1
   if ib == b.size then return done out ia ib
   let some k <- jn true (<- elem' a ia) b ib (b.size - ib) 0 | return done out ia ib
   bcount:=k
   if k > 0 then
    out:=out++b.extract ib (ib+k);ib:=ib+k
    if ib == b.size then return done out ia ib
   out:=out.push (<- elem' a ia);ia:=ia+1
   if ia+1 == a.size then return lastOfA out ia ib
   if acount<7 && bcount<7 then break
  minGallop:=minGallop+1
  yo minGallop
 unsupported "internal:list.sort.merge-bound"):=rfl
theorem qa7 (a b:Array Keyed):YF a b=(do
 liftM (rule "list.sort.merge-lo")
 let y <- elem' b 0
 if (1 == b.size)=true then pure (#[y]++a.extract 0 a.size++b.extract 1 b.size)
 else if (0+1 == a.size)=true then pure (#[y]++b.extract 1 b.size++a.extract 0 a.size)
 else do
  let g <- get
  let c <- forIn [0:a.size+b.size] ((none,#[y],0,1,gallopOf g):OS) (loOB a b)
  match c.1 with
  | some r=>pure r
  | none=>liftM (unsupported "internal:list.sort.merge-bound" : Sem (Array Keyed))):=by
 rw [qas]
 dsimp only
 congr 1
 funext _u
 congr 1
 funext y
 congr 1
 congr 1
 congr 1
 funext g
 congr 1
 ·congr 1
  funext i c
  unfold loOB
  congr 1
  funext c1
  obtain ⟨r1,o1,ia1,ib1,ac1,bc1⟩:=c1
  cases r1 with
  | some r=>rfl
  | none =>
   dsimp only
   congr 1
   funext _v
   congr 1
   funext c2
   obtain ⟨r2,o2,ia2,ib2,m2,ac2,bc2⟩:=c2
   cases r2 <;> rfl
 ·funext c
  obtain ⟨r,o,ia,ib,m⟩:=c
  cases r <;> rfl
section
variable {prog:Program}{w:World}{A:Around}{E:Value->Shared->Prop}{s:Shared}{kd:SortKind}{D:Keyed->Prop}{f:Keyed->Keyed->Bool}{a b:Array Keyed}
def JR (f:Keyed->Keyed->Bool) (a b:Array Keyed) (o:Array Keyed):Prop:=SdK f o.toList/\o.toList.Perm (a.toList++b.toList)
structure JL (f:Keyed->Keyed->Bool) (a b out:Array Keyed) (ia ib:Nat):Prop where
 s1:SdK f (out.toList++a.toList.drop ia)
 s2:SdK f (out.toList++b.toList.drop ib)
 pm:(out.toList++(a.toList.drop ia++b.toList.drop ib)).Perm (a.toList++b.toList)
structure Both (D:Keyed->Prop) (f:Keyed->Keyed->Bool) (a b:Array Keyed):Prop where
 da:∀ x∈a.toList,D x
 db:∀ x∈b.toList,D x
 na:0<a.size
 nb:0<b.size
 last:∀ x∈b.toList,f x (a[a.size - 1]'(by omega))=true
 first:f (b[0]'nb) (a[0]'na)=true
 sa:SdK f a.toList
 sb:SdK f b.toList
theorem JL.size (j:JL f a b out ia ib) (h1:ia<=a.size) (h2:ib<=b.size):out.size=ia+ib:=by
 have:=j.pm.length_eq
 simp at this
 omega
theorem getD? {xs:Array Keyed}{i:Nat}(h:i<xs.size):xs[i]?=some xs[i]:=jw h
theorem jH {xs:Array Keyed}{i:Nat}(h:i<xs.size):xs.toList.drop i=xs[i]::xs.toList.drop (i+1):=by
 rw [List.drop_eq_getElem_cons (by simpa using h)];rfl
theorem Y2 (O:OrdK f) {xs:Array Keyed}{i:Nat}(hs:SdK f xs.toList) (h:i<xs.size) {y:Keyed}(hy:y∈xs.toList.drop i):f y xs[i]=false:=by
 rw [jH h] at hy
 rcases List.mem_cons.mp hy with rfl | hy
 ·exact O.irr _
 ·have:SdK f (xs.toList.drop i):=List.Pairwise.sublist (List.drop_sublist _ _) hs
  rw [jH h] at this
  exact (List.pairwise_cons.mp this).1 _ hy
theorem JL.pushB (O:OrdK f) (hb:Both D f a b) (j:JL f a b out ia ib) (h1:ia<a.size) (h2:ib<b.size) (h:f a[ia] b[ib]=false):JL f a b (out.push b[ib]) ia (ib+1):=by
 have e:=jH h2
 have s2:=j.s2
 have pm:=j.pm
 rw [e] at s2 pm
 obtain ⟨g1,g2⟩:=mv (X:=[b[ib]]) s2 j.s1 (fun x hx y hy=>by
  rw [qE.mp hx]
  exact O.le h (Y2 O hb.sa h1 hy))
 refine ⟨by rw [Array.toList_push];exact g2,by rw [Array.toList_push];exact g1,?_⟩
 rw [Array.toList_push,qq]
 refine List.Perm.trans (List.Perm.append_left _ ?_) pm
 exact (List.perm_middle (l₁:=a.toList.drop ia) (l₂:=b.toList.drop (ib+1)) (a:=b[ib])).symm
theorem JL.pushA (O:OrdK f) (hb:Both D f a b) (j:JL f a b out ia ib) (h1:ia<a.size) (h2:ib<b.size) (h:f b[ib] a[ia]=false):JL f a b (out.push a[ia]) (ia+1) ib:=by
 have e:=jH h1
 have s1:=j.s1
 have pm:=j.pm
 rw [e] at s1 pm
 obtain ⟨g1,g2⟩:=mv (X:=[a[ia]]) s1 j.s2 (fun x hx y hy=>by
  rw [qE.mp hx]
  exact O.le h (Y2 O hb.sb h2 hy))
 refine ⟨by rw [Array.toList_push];exact g1,by rw [Array.toList_push];exact g2,?_⟩
 rw [Array.toList_push,qq]
 exact pm
theorem Je (xs:Array Keyed) (i k:Nat):(xs.extract i (i+k)).toList=(xs.toList.drop i).take k:=by
 simp [Array.toList_extract,List.extract_eq_take_drop]
theorem jQ (xs:Array Keyed) (i:Nat):(xs.extract i xs.size).toList=xs.toList.drop i:=by
 simp [Array.toList_extract,List.extract_eq_take_drop]
 exact List.take_of_length_le (by simp)
theorem Zr (xs:Array Keyed) (i k:Nat):xs.toList.drop i=(xs.toList.drop i).take k++xs.toList.drop (i+k):=by
 have:=(qD k (xs.toList.drop i)).symm
 rwa [List.drop_drop] at this
theorem JL.chunkA (O:OrdK f) (hb:Both D f a b) (j:JL f a b out ia ib) (h2:ib<b.size) {k:Nat}(h:∀ x∈(a.toList.drop ia).take k,f b[ib] x=false):JL f a b (out++a.extract ia (ia+k)) (ia+k) ib:=by
 have s1:=j.s1
 have pm:=j.pm
 rw [Zr a ia k] at s1 pm
 obtain ⟨g1,g2⟩:=mv s1 j.s2 (fun x hx y hy=>O.le (h x hx) (Y2 O hb.sb h2 hy))
 refine ⟨by rw [Array.toList_append,Je];exact g1,by rw [Array.toList_append,Je];exact g2,?_⟩
 rw [Array.toList_append,Je,qq,<- qq ((a.toList.drop ia).take k)]
 exact pm
theorem JL.chunkB (O:OrdK f) (hb:Both D f a b) (j:JL f a b out ia ib) (h1:ia<a.size) {k:Nat}(h:∀ x∈(b.toList.drop ib).take k,f a[ia] x=false):JL f a b (out++b.extract ib (ib+k)) ia (ib+k):=by
 have s2:=j.s2
 have pm:=j.pm
 rw [Zr b ib k] at s2 pm
 obtain ⟨g1,g2⟩:=mv s2 j.s1 (fun x hx y hy=>O.le (h x hx) (Y2 O hb.sa h1 hy))
 refine ⟨by rw [Array.toList_append,Je];exact g2,by rw [Array.toList_append,Je];exact g1,?_⟩
 rw [Array.toList_append,Je,qq]
 refine List.Perm.trans (List.Perm.append_left _ ?_) pm
 rw [<- qq,<- qq]
 exact List.Perm.append_right _ List.perm_append_comm
theorem JL.done (j:JL f a b out ia ib) (h:a.size<=ia\/b.size<=ib):JR f a b (out++a.extract ia a.size++b.extract ib b.size):=by
 refine ⟨?_,?_⟩
 ·rw [Array.toList_append,Array.toList_append,jQ,jQ]
  rcases h with h | h
  ·rw [List.drop_of_length_le (show a.toList.length<=ia by simpa using h),List.append_nil]
   exact j.s2
  ·rw [List.drop_of_length_le (show b.toList.length<=ib by simpa using h),List.append_nil]
   exact j.s1
 ·rw [Array.toList_append,Array.toList_append,jQ,jQ,qq]
  exact j.pm
theorem JL.lastA (O:OrdK f) (hb:Both D f a b) (j:JL f a b out ia ib) (h:ia+1=a.size):JR f a b (out++b.extract ib b.size++a.extract ia a.size):=by
 have e:a.toList.drop ia=[a[ia]]:=by
  rw [jH (show ia<a.size by omega),List.drop_of_length_le (by simp;omega)]
 refine ⟨?_,?_⟩
 ·rw [Array.toList_append,Array.toList_append,jQ,jQ]
  have s1:=j.s1
  rw [e] at s1 ⊢
  unfold SdK at *
  obtain ⟨_,_,g3⟩:=qL.mp s1
  refine qL.mpr ⟨j.s2,List.pairwise_singleton _ _,fun x hx y hy=>?_⟩
  rcases List.mem_append.mp hx with z | z
  ·exact g3 x z y hy
  ·rw [qE.mp hy]
   have:=hb.last x (yV z)
   have e2:a.size - 1=ia:=by omega
   simp only [e2] at this
   exact O.asym _ _ this
 ·rw [Array.toList_append,Array.toList_append,jQ,jQ,qq]
  exact List.Perm.trans (List.Perm.append_left _ List.perm_append_comm) j.pm
def qgh (f:Keyed->Keyed->Bool) (a b:Array Keyed) (st:SortSt) (n0:Nat) (r:ForInStep GS) (st':SortSt):Prop:=yA st st'/\match r with
 | .done (some o,_)=>JR f a b o
 | .done (none,out,ia,ib,_)=>JL f a b out ia ib/\ia+1<a.size/\ib<b.size/\n0<=ia+ib
 | .yield (none,out,ia,ib,_)=>JL f a b out ia ib/\ia+1<a.size/\ib<b.size/\n0<=ia+ib
 | .yield (some _,_)=>False
theorem yr {xs:Array Keyed}{i:Nat}(h:i<xs.size) {st:SortSt}{Q:Keyed->SortSt->Prop}(q:Q xs[i] st):wpS (model prog w) A E s (elem' xs i) Q st:=by
 rw [elem'_eq,getD? h]
 exact qo q
theorem qcH (O:OrdK f) (hb:Both D f a b) {st0 st:SortSt}(hst:yA st0 st) {out:Array Keyed}{ia ib mg ac bc n0:Nat}(j:JL f a b out ia ib) (h1:ia+1<a.size) (h2:ib<b.size) (hn:n0<=ia+ib) (h:f b[ib] (a[ia]'(by omega))=false) :
  wpS (model prog w) A E s (ql0 a b out ia ib mg ac bc) (qgh f a b st0 n0) st:=by
 unfold ql0
 refine qf (yr (show ia<a.size by omega) ?_)
 have j2:=j.pushA O hb (show ia<a.size by omega) h2 h
 by_cases e:ia+1+1=a.size
 ·rw [if_pos (by simpa using e)]
  exact qo ⟨hst,j2.lastA O hb e⟩
 ·rw [if_neg (by simpa using e)]
  split
  ·exact qo ⟨hst,j2,by omega,h2,by omega⟩
  ·exact qo ⟨hst,j2,by omega,h2,by omega⟩
theorem qhB (hA:Ask prog w A E s kd D f) (O:OrdK f) (hb:Both D f a b) {st0 st:SortSt}(hk:kindOf st0=kd) (hst:yA st0 st) {out:Array Keyed}{ia ib mg ac bc n0:Nat}(j:JL f a b out ia ib) (h1:ia+1<a.size) (h2:ib<b.size) (hn:n0<=ia+ib) :
  wpS (model prog w) A E s (loG3 a b out ia ib mg ac bc) (qgh f a b st0 n0) st:=by
 unfold loG3
 refine qf (yr (show ia<a.size by omega) ?_)
 refine qf (Zl hA O (hst.1.trans hk) (b.toList.drop ib) (by simp) (fun i hi=>?_) (hb.da _ (by simp)) (fun x hx=>hb.db x (yV hx)) (by omega) (List.Pairwise.sublist (List.drop_sublist _ _) hb.sb) fun k hk1 hk2 hk3=>?_)
 ·rw [List.getElem?_drop,qk]
 have hlt:∀ x∈(b.toList.drop ib).take k,f x (a[ia]'(by omega))=true:=fun x hx=>hk2 x hx
 have hge:∀ x∈(b.toList.drop ib).drop k,f x (a[ia]'(by omega))=false:=fun x hx=>hk3 x hx
 have j2:=j.chunkB O hb (show ia<a.size by omega) (k:=k) (fun x hx=>O.asym _ _ (hlt x hx))
 have nxt:∀ h:ib+k<b.size,f b[ib+k] (a[ia]'(by omega))=false:=fun h=>hge _ (by
  rw [List.drop_drop,jH h]
  exact ql)
 dsimp only
 by_cases hk0:k > 0
 ·rw [if_pos hk0]
  by_cases e:ib+k=b.size
  ·rw [if_pos (by simpa using e)]
   exact qo ⟨hst,j2.done (.inr (by omega))⟩
  ·rw [if_neg (by simpa using e)]
   exact qcH O hb hst j2 h1 (by omega) (by omega) (nxt (by omega))
 ·rw [if_neg hk0]
  have:k=0:=by omega
  subst this
  exact qcH O hb hst j h1 h2 hn (nxt h2)
theorem qcI (hA:Ask prog w A E s kd D f) (O:OrdK f) (hb:Both D f a b) {st0 st:SortSt}(hk:kindOf st0=kd) (hst:yA st0 st) {out:Array Keyed}{ia ib mg ac bc n0:Nat}(j:JL f a b out ia ib) (h1:ia+1<a.size) (h2:ib<b.size) (hn:n0<=ia+ib) (h:f (a[ia]'(by omega)) b[ib]=false) :
  wpS (model prog w) A E s (ql1 a b out ia ib mg ac bc) (qgh f a b st0 n0) st:=by
 unfold ql1
 refine qf (yr h2 ?_)
 have j2:=j.pushB O hb (show ia<a.size by omega) h2 h
 by_cases e:ib+1=b.size
 ·rw [if_pos (by simpa using e)]
  exact qo ⟨hst,j2.done (.inr (by omega))⟩
 ·rw [if_neg (by simpa using e)]
  exact qhB hA O hb hk hst j2 h1 (by omega) (by omega)
theorem qcJ (hA:Ask prog w A E s kd D f) (O:OrdK f) (hb:Both D f a b) {st0 st:SortSt}(hk:kindOf st0=kd) (hst:yA st0 st) {out:Array Keyed}{ia ib mg ac bc n0:Nat}(j:JL f a b out ia ib) (h1:ia+1<a.size) (h2:ib<b.size) (hn:n0<=ia+ib) :
  wpS (model prog w) A E s (ql2 a b out ia ib mg ac bc) (qgh f a b st0 n0) st:=by
 unfold ql2
 rw [yY]
 refine qf (jz ?_)
 have hst2:=hst.trans (show yA st (SortSt.mk' (kindOf st) (arrOf st) (pendingOf st) mg (failedOf st)) from ⟨rfl,rfl,rfl,rfl⟩)
 generalize SortSt.mk' (kindOf st) (arrOf st) (pendingOf st) mg (failedOf st)=st2 at hst2 ⊢
 refine qf (yr h2 ?_)
 refine qf (Zl hA O (hst2.1.trans hk) (a.toList.drop ia) (by simp) (fun i hi=>?_) (hb.db _ (by simp)) (fun x hx=>hb.da x (yV hx)) (by omega) (List.Pairwise.sublist (List.drop_sublist _ _) hb.sa) fun k hk1 hk2 hk3=>?_)
 ·rw [List.getElem?_drop,qk]
 have hle:∀ x∈(a.toList.drop ia).take k,f b[ib] x=false:=fun x hx=>by
  have:=hk2 x hx
  simpa [byd] using this
 have hgt:∀ x∈(a.toList.drop ia).drop k,f b[ib] x=true:=fun x hx=>by
  have:=hk3 x hx
  simpa [byd] using this
 have j2:=j.chunkA O hb h2 (k:=k) hle
 have nxt:∀ h:ia+k<a.size,f a[ia+k] b[ib]=false:=fun h=>O.asym _ _ (hgt _ (by
  rw [List.drop_drop,jH h]
  exact ql))
 dsimp only
 by_cases hk0:k > 0
 ·rw [if_pos hk0]
  by_cases e:ia+k+1=a.size
  ·rw [if_pos (by simpa using e)]
   exact qo ⟨hst2,j2.lastA O hb e⟩
  ·rw [if_neg (by simpa using e)]
   by_cases e2:ia+k=a.size
   ·rw [if_pos (by simpa using e2)]
    exact qo ⟨hst2,j2.done (.inl (by omega))⟩
   ·rw [if_neg (by simpa using e2)]
    exact qcI hA O hb hk hst2 j2 (by omega) h2 (by omega) (nxt (by omega))
 ·rw [if_neg hk0]
  have:k=0:=by omega
  subst this
  exact qcI hA O hb hk hst2 j h1 h2 hn (nxt (by omega))
def CPost (f:Keyed->Keyed->Bool) (a b:Array Keyed) (st:SortSt) (n0:Nat) (r:CS) (st':SortSt):Prop:=yA st st'/\match r with
 | (some o,_)=>JR f a b o
 | (none,out,ia,ib,_)=>JL f a b out ia ib/\ia+1<a.size/\ib<b.size/\n0<ia+ib
theorem qjt (hA:Ask prog w A E s kd D f) (O:OrdK f) (hb:Both D f a b) {st:SortSt}(hk:kindOf st=kd) {out:Array Keyed}{ia ib mg:Nat}(j:JL f a b out ia ib) (h1:ia+1<a.size) (h2:ib<b.size) :
  wpS (model prog w) A E s (forIn [0:a.size+b.size] ((none,out,ia,ib,0,0):CS) (loCB a b mg)) (CPost f a b st (ia+ib)) st:=by
 refine yg (I:=fun x c st'=>yA st st'/\∃ out' ia' ib' ac bc,c=(none,out',ia',ib',ac,bc)/\JL f a b out' ia' ib'/\ia'+1<a.size/\ib'<b.size/\ia+ib+x<=ia'+ib') ?step ?fin ⟨yA.refl _,out,ia,ib,0,0,rfl,j,h1,h2,by omega⟩
 case fin =>
  rintro c st' ⟨hst,out',ia',ib',ac,bc,rfl,j',g1,g2,g3⟩
  exact ⟨hst,j',g1,g2,by omega⟩
 case step =>
  rintro x c st' _ hx ⟨hst,out',ia',ib',ac,bc,rfl,j',g1,g2,g3⟩
  unfold loCB
  dsimp only
  refine qf (yr g2 (qf (yr (show ia'<a.size by omega) ?_)))
  refine qf (hA _ _ _ _ (hb.db _ (by simp)) (hb.da _ (by simp)) (hst.1.trans hk) ?_)
  dsimp only
  cases c:f b[ib'] (a[ia']'(by omega)) with
  | true =>
   simp only [if_true]
   refine qf (yr g2 ?_)
   have j2:=j'.pushB O hb (show ia'<a.size by omega) g2 (O.asym _ _ c)
   by_cases e:ib'+1=b.size
   ·rw [if_pos (by simpa using e)]
    exact qo ⟨hst,j2.done (.inr (by omega))⟩
   ·rw [if_neg (by simpa using e)]
    split
    ·exact qo ⟨hst,j2,g1,by omega,by omega⟩
    ·exact qo ⟨hst,_,_,_,_,_,rfl,j2,g1,by omega,by omega⟩
  | false =>
   simp only [Bool.false_eq_true,if_false]
   refine qf (yr (show ia'<a.size by omega) ?_)
   have j2:=j'.pushA O hb (show ia'<a.size by omega) g2 c
   by_cases e:ia'+1+1=a.size
   ·rw [if_pos (by simpa using e)]
    exact qo ⟨hst,j2.lastA O hb e⟩
   ·rw [if_neg (by simpa using e)]
    split
    ·exact qo ⟨hst,j2,by omega,g2,by omega⟩
    ·exact qo ⟨hst,_,_,_,_,_,rfl,j2,by omega,g2,by omega⟩
def qlN (f:Keyed->Keyed->Bool) (a b:Array Keyed) (st:SortSt) (n0:Nat) (r:GS) (st':SortSt):Prop:=yA st st'/\match r with
 | (some o,_)=>JR f a b o
 | (none,out,ia,ib,_)=>JL f a b out ia ib/\ia+1<a.size/\ib<b.size/\n0<=ia+ib
theorem qjs (hA:Ask prog w A E s kd D f) (O:OrdK f) (hb:Both D f a b) {st0 st:SortSt}(hk:kindOf st0=kd) (hst:yA st0 st) {out:Array Keyed}{ia ib mg ac bc:Nat}(j:JL f a b out ia ib) (h1:ia+1<a.size) (h2:ib<b.size) :
  wpS (model prog w) A E s (forIn [0:a.size+b.size] ((none,out,ia,ib,mg,ac,bc):GS) (loGB a b)) (qlN f a b st0 (ia+ib)) st:=by
 refine yg (I:=fun x c st'=>yA st0 st'/\∃ out' ia' ib' mg ac bc,c=(none,out',ia',ib',mg,ac,bc)/\JL f a b out' ia' ib'/\ia'+1<a.size/\ib'<b.size/\ia+ib<=ia'+ib') ?step ?fin ⟨hst,out,ia,ib,mg,ac,bc,rfl,j,h1,h2,by omega⟩
 case fin =>
  rintro c st' ⟨hst,out',ia',ib',mg,ac,bc,rfl,j',g1,g2,g3⟩
  exact ⟨hst,j',g1,g2,g3⟩
 case step =>
  rintro x c st' _ hx ⟨hst,out',ia',ib',mg,ac,bc,rfl,j',g1,g2,g3⟩
  unfold loGB
  dsimp only
  split
  ·refine jc (qcJ hA O hb hk hst j' g1 g2 g3) fun r st'' h=>?_
   obtain ⟨h0,h⟩:=h
   match r,h with
   | .done (some o,_),h=>exact ⟨h0,h⟩
   | .done (none,out,ia,ib,_),h=>exact ⟨h0,h⟩
   | .yield (none,out,ia,ib,m,c,d),h=>exact ⟨h0,_,_,_,_,_,_,rfl,h⟩
  ·refine jc (qcJ hA O hb hk hst j' g1 g2 g3) fun r st'' h=>?_
   obtain ⟨h0,h⟩:=h
   match r,h with
   | .done (some o,_),h=>exact ⟨h0,h⟩
   | .done (none,out,ia,ib,_),h=>exact ⟨h0,h⟩
   | .yield (none,out,ia,ib,m,c,d),h=>exact ⟨h0,_,_,_,_,_,_,rfl,h⟩
theorem qce (hA:Ask prog w A E s kd D f) (O:OrdK f) (hb:Both D f a b) {st:SortSt}(hk:kindOf st=kd) {Q:Array Keyed->SortSt->Prop}(q:∀ o st',yA st st'->JR f a b o->Q o st') :
  wpS (model prog w) A E s (YF a b) Q st:=by
 rw [qa7]
 refine qf (wpS_lift (wpAny_rule ⟨rfl,?_⟩))
 refine qf (yr hb.nb ?_)
 have na:=hb.na
 have nb:=hb.nb
 have j0:JL f a b #[] 0 0:=⟨by simpa using hb.sa,by simpa using hb.sb,by simp⟩
 have j1:JL f a b #[b[0]'nb] 0 1:=by
  have:=j0.pushB O hb na nb (O.asym _ _ hb.first)
  simpa using this
 by_cases e:b.size=1
 ·rw [if_pos (by simp [e])]
  exact qo (q _ _ (yA.refl _) (j1.done (.inr (by omega))))
 ·rw [if_neg (by simpa using fun z:1=b.size=>e z.symm)]
  by_cases e2:0+1=a.size
  ·rw [if_pos (by simpa using e2)]
   exact qo (q _ _ (yA.refl _) (j1.lastA O hb e2))
  ·rw [if_neg (by simpa using e2)]
   refine qf (wpS_get ?_)
   refine qf (jc (yg (I:=fun x c st'=>yA st st'/\∃ out ia ib mg,c=(none,out,ia,ib,mg)/\JL f a b out ia ib/\ia+1<a.size/\ib<b.size/\x+1<=ia+ib)
    (Q:=fun c st'=>yA st st'/\∃ o r,c=(some o,r)/\JR f a b o) ?step ?fin ⟨yA.refl _,_,_,_,_,rfl,j1,by omega,by omega,by omega⟩) ?post)
   case fin =>
    rintro c st' ⟨hst,out,ia,ib,mg,rfl,j,g1,g2,g3⟩
    omega
   case post =>
    rintro c st' ⟨hst,o,r,rfl,h⟩
    exact qo (q o st' hst h)
   case step =>
    rintro x c st' _ hx ⟨hst,out,ia,ib,mg,rfl,j,g1,g2,g3⟩
    unfold loOB
    dsimp only
    refine qf (jc (qjt hA O hb (hst.1.trans hk) j g1 g2) ?_)
    rintro c1 st1 ⟨hst1,h⟩
    match c1,h with
    | (some o,out,ia,ib,_),h=>exact qo ⟨hst.trans hst1,o,_,rfl,h⟩
    | (none,out1,ia1,ib1,ac,bc),⟨j1,k1,k2,k3⟩ =>
     dsimp only
     refine qf (wpS_lift (wpAny_rule ⟨rfl,?_⟩))
     refine qf (jc (qjs hA O hb hk (hst.trans hst1) j1 k1 k2) ?_)
     rintro c2 st2 ⟨hst2,h⟩
     match c2,h with
     | (some o,out,ia,ib,mg,_),h=>exact qo ⟨hst2,o,_,rfl,h⟩
     | (none,out2,ia2,ib2,mg2,ac,bc),⟨j2,l1,l2,l3⟩ =>
      dsimp only
      rw [yY]
      refine qf (jz (qo ⟨hst2.trans ⟨rfl,rfl,rfl,rfl⟩,_,_,_,_,rfl,j2,l1,l2,by omega⟩))
end
end L2
namespace L2
open PySem PySem.Spec PyProof.Rows PySem.W
def YG:Array Keyed->Array Keyed->StateT SortSt Sem (Array Keyed):=sortPriv% PySem.Builtin.mergeHi
abbrev GH:=Option (Array Keyed)×Nat×Nat×Array Keyed×Nat×Nat×Nat
abbrev CH:=Option (Array Keyed)×Nat×Nat×Array Keyed×Nat×Nat
abbrev OH:=Option (Array Keyed)×Nat×Nat×Array Keyed×Nat
def Zk (a b out:Array Keyed) (na nb:Nat):Array Keyed:=a.extract 0 na++b.extract 0 nb++out.reverse
def Zp (a b out:Array Keyed) (na nb:Nat):Array Keyed:=b.extract 0 nb++a.extract 0 na++out.reverse
def ql3 (a b:Array Keyed) (na nb:Nat) (out:Array Keyed) (mg ac bc:Nat):StateT SortSt Sem (ForInStep GH):=do
 let x <- elem' a (na - 1)
 if (na - 1 == 0)=true then pure (.done (some (Zk a b (out.push x) (na - 1) nb),na - 1,nb,out.push x,mg,ac,bc))
 else if (decide (ac<7) && decide (bc<7))=true then pure (.done (none,na - 1,nb,out.push x,mg,ac,bc))
 else pure (.yield (none,na - 1,nb,out.push x,mg,ac,bc))
def hiG3 (a b:Array Keyed) (na nb:Nat) (out:Array Keyed) (mg ac bc:Nat):StateT SortSt Sem (ForInStep GH):=do
 let x <- elem' a (na - 1)
 let k <- jn true x b 0 nb (nb - 1)
 match k with
 | some at_ =>
  if nb - at_ > 0 then
   if (at_ == 1)=true then pure (.done (some (Zp a b (out++(b.extract at_ nb).reverse) na at_),na,at_,out++(b.extract at_ nb).reverse,mg,ac,nb - at_))
   else if (at_ == 0)=true then pure (.done (some (Zk a b (out++(b.extract at_ nb).reverse) na at_),na,at_,out++(b.extract at_ nb).reverse,mg,ac,nb - at_))
   else ql3 a b na at_ (out++(b.extract at_ nb).reverse) mg ac (nb - at_)
  else ql3 a b na nb out mg ac (nb - at_)
 | _=>pure (.done (some (Zk a b out na nb),na,nb,out,mg,ac,bc))
def ql4 (a b:Array Keyed) (na nb:Nat) (out:Array Keyed) (mg ac bc:Nat):StateT SortSt Sem (ForInStep GH):=do
 let x <- elem' b (nb - 1)
 if (nb - 1 == 1)=true then pure (.done (some (Zp a b (out.push x) na (nb - 1)),na,nb - 1,out.push x,mg,ac,bc))
 else hiG3 a b na (nb - 1) (out.push x) mg ac bc
def ql5 (a b:Array Keyed) (na nb:Nat) (out:Array Keyed) (mg ac bc:Nat):StateT SortSt Sem (ForInStep GH):=do
 yo mg
 let x <- elem' b (nb - 1)
 let k <- jn false x a 0 na (na - 1)
 match k with
 | some at_ =>
  if na - at_ > 0 then
   if (at_ == 0)=true then pure (.done (some (Zk a b (out++(a.extract at_ na).reverse) at_ nb),at_,nb,out++(a.extract at_ na).reverse,mg,na - at_,bc))
   else ql4 a b at_ nb (out++(a.extract at_ na).reverse) mg (na - at_) bc
  else ql4 a b na nb out mg (na - at_) bc
 | _=>pure (.done (some (Zk a b out na nb),na,nb,out,mg,ac,bc))
def hiGB (a b:Array Keyed) (_:Nat) (c:GH):StateT SortSt Sem (ForInStep GH) :=
 if c.2.2.2.2.1 > 1 then ql5 a b c.2.1 c.2.2.1 c.2.2.2.1 (c.2.2.2.2.1 - 1) c.2.2.2.2.2.1 c.2.2.2.2.2.2 else ql5 a b c.2.1 c.2.2.1 c.2.2.2.1 c.2.2.2.2.1 c.2.2.2.2.2.1 c.2.2.2.2.2.2
def hiCB (a b:Array Keyed) (mg:Nat) (_:Nat) (c:CH):StateT SortSt Sem (ForInStep CH):=do
 let y <- elem' b (c.2.2.1 - 1)
 let x <- elem' a (c.2.1 - 1)
 let r <- lt' y x
 match r with
 | some aWins =>
  if aWins=true then do
   let x <- elem' a (c.2.1 - 1)
   if (c.2.1 - 1 == 0)=true then pure (.done (some (Zk a b (c.2.2.2.1.push x) (c.2.1 - 1) c.2.2.1),c.2.1 - 1,c.2.2.1,c.2.2.2.1.push x,c.2.2.2.2.1+1,0))
   else if c.2.2.2.2.1+1 ≥ mg then pure (.done (none,c.2.1 - 1,c.2.2.1,c.2.2.2.1.push x,c.2.2.2.2.1+1,0))
   else pure (.yield (none,c.2.1 - 1,c.2.2.1,c.2.2.2.1.push x,c.2.2.2.2.1+1,0))
  else do
   let y <- elem' b (c.2.2.1 - 1)
   if (c.2.2.1 - 1 == 1)=true then pure (.done (some (Zp a b (c.2.2.2.1.push y) c.2.1 (c.2.2.1 - 1)),c.2.1,c.2.2.1 - 1,c.2.2.2.1.push y,0,c.2.2.2.2.2+1))
   else if c.2.2.2.2.2+1 ≥ mg then pure (.done (none,c.2.1,c.2.2.1 - 1,c.2.2.2.1.push y,0,c.2.2.2.2.2+1))
   else pure (.yield (none,c.2.1,c.2.2.1 - 1,c.2.2.2.1.push y,0,c.2.2.2.2.2+1))
 | _=>pure (.done (some (Zk a b c.2.2.2.1 c.2.1 c.2.2.1),c.2.1,c.2.2.1,c.2.2.2.1,c.2.2.2.2.1,c.2.2.2.2.2))
def hiOB (a b:Array Keyed) (_:Nat) (c:OH):StateT SortSt Sem (ForInStep OH):=do
 let c1 <- forIn [0:a.size+b.size] ((none,c.2.1,c.2.2.1,c.2.2.2.1,0,0):CH) (hiCB a b c.2.2.2.2)
 match c1.1 with
 | some r=>pure (.done (some r,c1.2.1,c1.2.2.1,c1.2.2.2.1,c.2.2.2.2))
 | none=>do
  liftM (rule "list.sort.gallop")
  let c2 <- forIn [0:a.size+b.size] ((none,c1.2.1,c1.2.2.1,c1.2.2.2.1,c.2.2.2.2+1,c1.2.2.2.2.1,c1.2.2.2.2.2):GH) (hiGB a b)
  match c2.1 with
  | some r=>pure (.done (some r,c2.2.1,c2.2.2.1,c2.2.2.2.1,c2.2.2.2.2.1))
  | none=>do
   yo (c2.2.2.2.2.1+1)
   pure (.yield (none,c2.2.1,c2.2.2.1,c2.2.2.2.1,c2.2.2.2.2.1+1))
theorem qat (a b:Array Keyed):YG a b=(do
 rule "list.sort.merge-hi"
 let total:=a.size+b.size
 let done (out:Array Keyed) (na nb:Nat):=a.extract 0 na++b.extract 0 nb++out.reverse
 let firstOfB (out:Array Keyed) (na nb:Nat):=b.extract 0 nb++a.extract 0 na++out.reverse
 let mut na:=a.size - 1
 let mut nb:=b.size
 let mut out:Array Keyed:=#[<- elem' a na]
 if na == 0 then return done out na nb
 if nb == 1 then return firstOfB out na nb
 let mut minGallop:=gallopOf (<- get)
 for _ in [0:total] do
  let mut acount:=0
  let mut bcount:=0
  for _ in [0:total] do
   let some aWins <- lt' (<- elem' b (nb - 1)) (<- elem' a (na - 1)) | return done out na nb
   if aWins then
    na:=na - 1;out:=out.push (<- elem' a na);acount:=acount+1;bcount:=0
    if na == 0 then return done out na nb
    if acount ≥ minGallop then break
   else
    nb:=nb - 1;out:=out.push (<- elem' b nb);bcount:=bcount+1;acount:=0
    if nb == 1 then return firstOfB out na nb
    if bcount ≥ minGallop then break
  rule "list.sort.gallop"
  minGallop:=minGallop+1
  for _ in [0:total] do
   if minGallop > 1 then minGallop:=minGallop - 1
   yo minGallop
   let some at_ <- jn false (<- elem' b (nb - 1)) a 0 na (na - 1) | return done out na nb
   let k:=na - at_
   acount:=k
   if k > 0 then
    out:=out++(a.extract at_ na).reverse;na:=at_
    if na == 0 then return done out na nb
   nb:=nb - 1;out:=out.push (<- elem' b nb)
   if nb == 1 then return firstOfB out na nb
   let some at_ <- jn true (<- elem' a (na - 1)) b 0 nb (nb - 1) | return done out na nb
   let k:=nb - at_
   bcount:=k
   if k > 0 then
    out:=out++(b.extract at_ nb).reverse;nb:=at_
    if nb == 1 then return firstOfB out na nb
    if nb == 0 then return done out na nb
   na:=na - 1;out:=out.push (<- elem' a na)
   if na == 0 then return done out na nb
   if acount<7 && bcount<7 then break
  minGallop:=minGallop+1
  yo minGallop
 unsupported "internal:list.sort.merge-bound"):=rfl
theorem qa8 (a b:Array Keyed):YG a b=(do
 liftM (rule "list.sort.merge-hi")
 let x <- elem' a (a.size - 1)
 if (a.size - 1 == 0)=true then pure (Zk a b #[x] (a.size - 1) b.size)
 else if (b.size == 1)=true then pure (Zp a b #[x] (a.size - 1) b.size)
 else do
  let g <- get
  let c <- forIn [0:a.size+b.size] ((none,a.size - 1,b.size,#[x],gallopOf g):OH) (hiOB a b)
  match c.1 with
  | some r=>pure r
  | none=>liftM (unsupported "internal:list.sort.merge-bound" : Sem (Array Keyed))):=by
 rw [qat]
 dsimp only
 congr 1
 funext _u
 congr 1
 funext y
 congr 1
 congr 1
 congr 1
 funext g
 congr 1
 ·congr 1
  funext i c
  unfold hiOB
  congr 1
  funext c1
  obtain ⟨r1,na1,nb1,o1,ac1,bc1⟩:=c1
  cases r1 with
  | some r=>rfl
  | none =>
   dsimp only
   congr 1
   funext _v
   congr 1
   funext c2
   obtain ⟨r2,na2,nb2,o2,m2,ac2,bc2⟩:=c2
   cases r2 <;> rfl
 ·funext c
  obtain ⟨r,na,nb,o,m⟩:=c
  cases r <;> rfl
section
variable {prog:Program}{w:World}{A:Around}{E:Value->Shared->Prop}{s:Shared}{kd:SortKind}{D:Keyed->Prop}{f:Keyed->Keyed->Bool}{a b:Array Keyed}
structure JH (f:Keyed->Keyed->Bool) (a b:Array Keyed) (na nb:Nat) (out:Array Keyed):Prop where
 s1:SdK f (a.toList.take na++out.toList.reverse)
 s2:SdK f (b.toList.take nb++out.toList.reverse)
 pm:(a.toList.take na++(b.toList.take nb++out.toList.reverse)).Perm (a.toList++b.toList)
theorem jl {xs:Array Keyed}{i:Nat}(h:i<xs.size):xs.toList.take (i+1)=xs.toList.take i++[xs[i]]:=by
 rw [List.take_add_one,List.getElem?_eq_getElem (by simpa using h)];rfl
theorem ZO (O:OrdK f) {xs:Array Keyed}{i:Nat}(hs:SdK f xs.toList) (h:i<xs.size) {y:Keyed}(hy:y∈xs.toList.take (i+1)):f xs[i] y=false:=by
 rw [jl h] at hy
 rcases List.mem_append.mp hy with hy | hy
 ·have:SdK f (xs.toList.take (i+1)):=List.Pairwise.sublist (List.take_sublist _ _) hs
  rw [jl h] at this
  exact (qL.mp this).2.2 y hy _ (qE.mpr rfl)
 ·rw [qE.mp hy]
  exact O.irr _
theorem JH.pushA (O:OrdK f) (hb:Both D f a b) (j:JH f a b na nb out) (h1:0<na) (h2:na<=a.size) (h3:0<nb) (h4:nb<=b.size) (h:f (a[na - 1]'(by omega)) (b[nb - 1]'(by omega))=false):JH f a b (na - 1) nb (out.push (a[na - 1]'(by omega))):=by
 have e:=jl (xs:=a) (i:=na - 1) (by omega)
 rw [show na - 1+1=na by omega] at e
 have s1:=j.s1
 have pm:=j.pm
 rw [e] at s1 pm
 obtain ⟨g1,g2⟩:=qlZ s1 j.s2 (fun x hx y hy=>by
  rw [qE.mp hx]
  have:=ZO O hb.sb (i:=nb - 1) (by omega) (y:=y) (by rw [show nb - 1+1=nb by omega];exact hy)
  exact O.le this h)
 refine ⟨by simpa using g1,by simpa using g2,?_⟩
 refine List.Perm.trans ?_ pm
 rw [qq]
 refine List.Perm.append_left _ ?_
 simp only [Array.toList_push,List.reverse_append,List.reverse_cons,List.reverse_nil,List.nil_append]
 exact List.perm_middle
theorem JH.pushB (O:OrdK f) (hb:Both D f a b) (j:JH f a b na nb out) (h1:0<na) (h2:na<=a.size) (h3:0<nb) (h4:nb<=b.size) (h:f (b[nb - 1]'(by omega)) (a[na - 1]'(by omega))=false):JH f a b na (nb - 1) (out.push (b[nb - 1]'(by omega))):=by
 have e:=jl (xs:=b) (i:=nb - 1) (by omega)
 rw [show nb - 1+1=nb by omega] at e
 have s2:=j.s2
 have pm:=j.pm
 rw [e] at s2 pm
 obtain ⟨g1,g2⟩:=qlZ s2 j.s1 (fun x hx y hy=>by
  rw [qE.mp hx]
  have:=ZO O hb.sa (i:=na - 1) (by omega) (y:=y) (by rw [show na - 1+1=na by omega];exact hy)
  exact O.le this h)
 refine ⟨by simpa using g2,by simpa using g1,?_⟩
 refine List.Perm.trans ?_ pm
 refine List.Perm.append_left _ ?_
 simp
theorem qej (xs:Array Keyed) {i n:Nat}(h:i<=n) (hn:n<=xs.size):xs.toList.take n=xs.toList.take i++(xs.extract i n).toList:=by
 have e:(xs.extract i n).toList=(xs.toList.drop i).take (n - i):=by simp [Array.toList_extract,List.extract_eq_take_drop]
 rw [e,<- List.drop_take]
 have:=(qD i (xs.toList.take n)).symm
 rwa [List.take_take,Nat.min_eq_left h] at this
theorem JH.chunkA (O:OrdK f) (hb:Both D f a b) (j:JH f a b na nb out) {k:Nat}(hk:k<=na) (h2:na<=a.size) (h3:0<nb) (h4:nb<=b.size) (h:∀ x∈(a.extract k na).toList,f x (b[nb - 1]'(by omega))=false):JH f a b k nb (out++(a.extract k na).reverse):=by
 have s1:=j.s1
 have pm:=j.pm
 rw [qej a hk h2] at s1 pm
 obtain ⟨g1,g2⟩:=qlZ s1 j.s2 (fun x hx y hy=>by
  have:=ZO O hb.sb (i:=nb - 1) (by omega) (y:=y) (by rw [show nb - 1+1=nb by omega];exact hy)
  exact O.le this (h x hx))
 refine ⟨by simpa using g1,by simpa using g2,?_⟩
 refine List.Perm.trans ?_ pm
 rw [qq]
 refine List.Perm.append_left _ ?_
 simp only [Array.toList_append,Array.toList_reverse,List.reverse_append,List.reverse_reverse]
 rw [<- qq,<- qq]
 exact List.Perm.append_right _ List.perm_append_comm
theorem JH.chunkB (O:OrdK f) (hb:Both D f a b) (j:JH f a b na nb out) {k:Nat}(hk:k<=nb) (h2:nb<=b.size) (h3:0<na) (h4:na<=a.size) (h:∀ x∈(b.extract k nb).toList,f x (a[na - 1]'(by omega))=false):JH f a b na k (out++(b.extract k nb).reverse):=by
 have s2:=j.s2
 have pm:=j.pm
 rw [qej b hk h2] at s2 pm
 obtain ⟨g1,g2⟩:=qlZ s2 j.s1 (fun x hx y hy=>by
  have:=ZO O hb.sa (i:=na - 1) (by omega) (y:=y) (by rw [show na - 1+1=na by omega];exact hy)
  exact O.le this (h x hx))
 refine ⟨by simpa using g2,by simpa using g1,?_⟩
 refine List.Perm.trans ?_ pm
 refine List.Perm.append_left _ ?_
 simp
theorem qhe (xs:Array Keyed) (n:Nat):(xs.extract 0 n).toList=xs.toList.take n:=by simp [Array.toList_extract,List.extract_eq_take_drop]
theorem JH.done (j:JH f a b na nb out) (h:na=0\/nb=0):JR f a b (Zk a b out na nb):=by
 unfold Zk
 refine ⟨?_,?_⟩
 ·rw [Array.toList_append,Array.toList_append,qhe,qhe,Array.toList_reverse]
  rcases h with rfl | rfl
  ·simpa using j.s2
  ·simpa using j.s1
 ·rw [Array.toList_append,Array.toList_append,qhe,qhe,Array.toList_reverse,qq]
  exact j.pm
theorem JH.firstB (O:OrdK f) (hb:Both D f a b) (j:JH f a b na nb out) (h:nb=1):JR f a b (Zp a b out na nb):=by
 subst h
 have nb:=hb.nb
 have e:b.toList.take 1=[b[0]'nb]:=by
  have:=jl (xs:=b) (i:=0) nb
  simpa using this
 unfold Zp
 refine ⟨?_,?_⟩
 ·rw [Array.toList_append,Array.toList_append,qhe,qhe,Array.toList_reverse]
  have s2:=j.s2
  rw [e] at s2 ⊢
  unfold SdK at *
  obtain ⟨_,_,g3⟩:=qL.mp s2
  rw [qq]
  refine qL.mpr ⟨List.pairwise_singleton _ _,j.s1,fun x hx y hy=>?_⟩
  rcases List.mem_append.mp hy with z | z
  ·rw [qE.mp hx]
   have h1:=Y2 O hb.sa hb.na (y:=y) (by rw [List.drop_zero];exact yn z)
   exact O.le (O.asym _ _ hb.first) h1
  ·exact g3 x hx y z
 ·rw [Array.toList_append,Array.toList_append,qhe,qhe,Array.toList_reverse,qq]
  refine List.Perm.trans ?_ j.pm
  rw [<- qq,<- qq]
  exact List.Perm.append_right _ List.perm_append_comm
def InH (f:Keyed->Keyed->Bool) (a b:Array Keyed) (na nb:Nat) (out:Array Keyed):Prop:=JH f a b na nb out/\0<na/\na<=a.size/\1<nb/\nb<=b.size
def qgg (f:Keyed->Keyed->Bool) (a b:Array Keyed) (st:SortSt) (n0:Nat) (r:ForInStep GH) (st':SortSt):Prop:=yA st st'/\match r with
 | .done (some o,_)=>JR f a b o
 | .done (none,na,nb,out,_)=>InH f a b na nb out/\na+nb<=n0
 | .yield (none,na,nb,out,_)=>InH f a b na nb out/\na+nb<=n0
 | .yield (some _,_)=>False
theorem qcK (O:OrdK f) (hb:Both D f a b) {st0 st:SortSt}(hst:yA st0 st) {out:Array Keyed}{na nb mg ac bc n0:Nat}(j:InH f a b na nb out) (hn:na+nb<=n0) (h:∀ h1 h2,f (a[na - 1]'h1) (b[nb - 1]'h2)=false) :
  wpS (model prog w) A E s (ql3 a b na nb out mg ac bc) (qgg f a b st0 n0) st:=by
 obtain ⟨j,h1,h2,h3,h4⟩:=j
 unfold ql3
 refine qf (yr (show na - 1<a.size by omega) ?_)
 have j2:=j.pushA O hb h1 h2 (by omega) h4 (h (by omega) (by omega))
 by_cases e:na - 1=0
 ·rw [if_pos (by simpa using e)]
  exact qo ⟨hst,j2.done (.inl e)⟩
 ·rw [if_neg (by simpa using e)]
  split
  ·exact qo ⟨hst,⟨j2,by omega,by omega,h3,h4⟩,by omega⟩
  ·exact qo ⟨hst,⟨j2,by omega,by omega,h3,h4⟩,by omega⟩
theorem qek {xs:Array Keyed}{k n:Nat}(hn:n<=xs.size) {x:Keyed}(hx:x∈(xs.extract k n).toList):x∈(xs.toList.take n).drop k:=by
 have e:(xs.extract k n).toList=(xs.toList.drop k).take (n - k):=by simp [Array.toList_extract,List.extract_eq_take_drop]
 rw [e,<- List.drop_take] at hx
 exact hx
theorem qhC (hA:Ask prog w A E s kd D f) (O:OrdK f) (hb:Both D f a b) {st0 st:SortSt}(hk:kindOf st0=kd) (hst:yA st0 st) {out:Array Keyed}{na nb mg ac bc n0:Nat}(j:InH f a b na nb out) (hn:na+nb<=n0) :
  wpS (model prog w) A E s (hiG3 a b na nb out mg ac bc) (qgg f a b st0 n0) st:=by
 obtain ⟨j,h1,h2,h3,h4⟩:=j
 unfold hiG3
 refine qf (yr (show na - 1<a.size by omega) ?_)
 refine qf (Zl hA O (hst.1.trans hk) (b.toList.take nb) (by simp;omega) (fun i hi=>?_) (hb.da _ (by simp)) (fun x hx=>hb.db x (yn hx)) (by omega) (List.Pairwise.sublist (List.take_sublist _ _) hb.sb) fun k hk1 hk2 hk3=>?_)
 ·have hi:i<nb:=by simp at hi;omega
  rw [Nat.zero_add,List.getElem?_take,if_pos hi,qk]
 have hge:∀ x∈(b.extract k nb).toList,f x (a[na - 1]'(by omega))=false:=fun x hx=>hk3 x (qek h4 hx)
 have hlt:∀ x∈(b.toList.take nb).take k,f x (a[na - 1]'(by omega))=true:=fun x hx=>hk2 x hx
 have j2:=j.chunkB O hb hk1 h4 h1 h2 hge
 have nxt:∀ (h0:0<k) (z1:na - 1<a.size) (z2:k - 1<b.size),f (a[na - 1]'z1) (b[k - 1]'z2)=false:=fun h0 z1 z2=>O.asym _ _ (hlt _ (by
  rw [List.take_take,Nat.min_eq_left hk1]
  have:=jl (xs:=b) (i:=k - 1) z2
  rw [show k - 1+1=k by omega] at this
  rw [this]
  exact qI _ (qE.mpr rfl)))
 dsimp only
 by_cases hk0:nb - k > 0
 ·rw [if_pos hk0]
  by_cases e:k=1
  ·rw [if_pos (by simpa using e)]
   exact qo ⟨hst,j2.firstB O hb e⟩
  ·rw [if_neg (by simpa using e)]
   by_cases e2:k=0
   ·rw [if_pos (by simpa using e2)]
    exact qo ⟨hst,j2.done (.inr e2)⟩
   ·rw [if_neg (by simpa using e2)]
    exact qcK O hb hst ⟨j2,h1,h2,by omega,by omega⟩ (by omega) (nxt (by omega))
 ·rw [if_neg hk0]
  have:k=nb:=by omega
  subst this
  exact qcK O hb hst ⟨j,h1,h2,h3,h4⟩ hn (nxt (by omega))
theorem qcL (hA:Ask prog w A E s kd D f) (O:OrdK f) (hb:Both D f a b) {st0 st:SortSt}(hk:kindOf st0=kd) (hst:yA st0 st) {out:Array Keyed}{na nb mg ac bc n0:Nat}(j:InH f a b na nb out) (hn:na+nb<=n0) (h:∀ h1 h2,f (b[nb - 1]'h2) (a[na - 1]'h1)=false) :
  wpS (model prog w) A E s (ql4 a b na nb out mg ac bc) (qgg f a b st0 n0) st:=by
 obtain ⟨j,h1,h2,h3,h4⟩:=j
 unfold ql4
 refine qf (yr (show nb - 1<b.size by omega) ?_)
 have j2:=j.pushB O hb h1 h2 (by omega) h4 (h (by omega) (by omega))
 by_cases e:nb - 1=1
 ·rw [if_pos (by simpa using e)]
  exact qo ⟨hst,j2.firstB O hb e⟩
 ·rw [if_neg (by simpa using e)]
  exact qhC hA O hb hk hst ⟨j2,h1,h2,by omega,by omega⟩ (by omega)
theorem qcM (hA:Ask prog w A E s kd D f) (O:OrdK f) (hb:Both D f a b) {st0 st:SortSt}(hk:kindOf st0=kd) (hst:yA st0 st) {out:Array Keyed}{na nb mg ac bc n0:Nat}(j:InH f a b na nb out) (hn:na+nb<=n0) :
  wpS (model prog w) A E s (ql5 a b na nb out mg ac bc) (qgg f a b st0 n0) st:=by
 obtain ⟨j,h1,h2,h3,h4⟩:=j
 unfold ql5
 rw [yY]
 refine qf (jz ?_)
 have hst2:=hst.trans (show yA st (SortSt.mk' (kindOf st) (arrOf st) (pendingOf st) mg (failedOf st)) from ⟨rfl,rfl,rfl,rfl⟩)
 generalize SortSt.mk' (kindOf st) (arrOf st) (pendingOf st) mg (failedOf st)=st2 at hst2 ⊢
 refine qf (yr (show nb - 1<b.size by omega) ?_)
 refine qf (Zl hA O (hst2.1.trans hk) (a.toList.take na) (by simp;omega) (fun i hi=>?_) (hb.db _ (by simp)) (fun x hx=>hb.da x (yn hx)) (by omega) (List.Pairwise.sublist (List.take_sublist _ _) hb.sa) fun k hk1 hk2 hk3=>?_)
 ·have hi:i<na:=by simp at hi;omega
  rw [Nat.zero_add,List.getElem?_take,if_pos hi,qk]
 have hgt:∀ x∈(a.extract k na).toList,f x (b[nb - 1]'(by omega))=false:=fun x hx=>by
  have:=hk3 x (qek h2 hx)
  exact O.asym _ _ (by simpa [byd] using this)
 have hle:∀ x∈(a.toList.take na).take k,f (b[nb - 1]'(by omega)) x=false:=fun x hx=>by
  have:=hk2 x hx
  simpa [byd] using this
 have j2:=j.chunkA O hb hk1 h2 (by omega) h4 hgt
 have nxt:∀ (h0:0<k) (z1:k - 1<a.size) (z2:nb - 1<b.size),f (b[nb - 1]'z2) (a[k - 1]'z1)=false:=fun h0 z1 z2=>hle _ (by
  rw [List.take_take,Nat.min_eq_left hk1]
  have:=jl (xs:=a) (i:=k - 1) z1
  rw [show k - 1+1=k by omega] at this
  rw [this]
  exact qI _ (qE.mpr rfl))
 dsimp only
 by_cases hk0:na - k > 0
 ·rw [if_pos hk0]
  by_cases e:k=0
  ·rw [if_pos (by simpa using e)]
   exact qo ⟨hst2,j2.done (.inl e)⟩
  ·rw [if_neg (by simpa using e)]
   exact qcL hA O hb hk hst2 ⟨j2,by omega,by omega,h3,h4⟩ (by omega) (nxt (by omega))
 ·rw [if_neg hk0]
  have:k=na:=by omega
  subst this
  exact qcL hA O hb hk hst2 ⟨j,h1,h2,h3,h4⟩ hn (nxt (by omega))
def qlP (f:Keyed->Keyed->Bool) (a b:Array Keyed) (st:SortSt) (n0:Nat) (r:CH) (st':SortSt):Prop:=yA st st'/\match r with
 | (some o,_)=>JR f a b o
 | (none,na,nb,out,_)=>InH f a b na nb out/\na+nb<n0
theorem qjv (hA:Ask prog w A E s kd D f) (O:OrdK f) (hb:Both D f a b) {st:SortSt}(hk:kindOf st=kd) {out:Array Keyed}{na nb mg:Nat}(j:InH f a b na nb out) :
  wpS (model prog w) A E s (forIn [0:a.size+b.size] ((none,na,nb,out,0,0):CH) (hiCB a b mg)) (qlP f a b st (na+nb)) st:=by
 have nz:=hb.na
 refine yg (I:=fun x c st'=>yA st st'/\∃ na' nb' out' ac bc,c=(none,na',nb',out',ac,bc)/\InH f a b na' nb' out'/\na'+nb'+x<=na+nb) ?step ?fin ⟨yA.refl _,na,nb,out,0,0,rfl,j,by omega⟩
 case fin =>
  rintro c st' ⟨hst,na',nb',out',ac,bc,rfl,j',g3⟩
  exact ⟨hst,j',by omega⟩
 case step =>
  rintro x c st' _ hx ⟨hst,na',nb',out',ac,bc,rfl,⟨j',h1,h2,h3,h4⟩,g3⟩
  unfold hiCB
  dsimp only
  refine qf (yr (show nb' - 1<b.size by omega) (qf (yr (show na' - 1<a.size by omega) ?_)))
  refine qf (hA _ _ _ _ (hb.db _ (by simp)) (hb.da _ (by simp)) (hst.1.trans hk) ?_)
  dsimp only
  cases c:f (b[nb' - 1]'(by omega)) (a[na' - 1]'(by omega)) with
  | true =>
   simp only [if_true]
   refine qf (yr (show na' - 1<a.size by omega) ?_)
   have j2:=j'.pushA O hb h1 h2 (by omega) h4 (O.asym _ _ c)
   by_cases e:na' - 1=0
   ·rw [if_pos (by simpa using e)]
    exact qo ⟨hst,j2.done (.inl e)⟩
   ·rw [if_neg (by simpa using e)]
    split
    ·exact qo ⟨hst,⟨j2,by omega,by omega,h3,h4⟩,by omega⟩
    ·exact qo ⟨hst,_,_,_,_,_,rfl,⟨j2,by omega,by omega,h3,h4⟩,by omega⟩
  | false =>
   simp only [Bool.false_eq_true,if_false]
   refine qf (yr (show nb' - 1<b.size by omega) ?_)
   have j2:=j'.pushB O hb h1 h2 (by omega) h4 c
   by_cases e:nb' - 1=1
   ·rw [if_pos (by simpa using e)]
    exact qo ⟨hst,j2.firstB O hb e⟩
   ·rw [if_neg (by simpa using e)]
    split
    ·exact qo ⟨hst,⟨j2,h1,h2,by omega,by omega⟩,by omega⟩
    ·exact qo ⟨hst,_,_,_,_,_,rfl,⟨j2,h1,h2,by omega,by omega⟩,by omega⟩
def qlL (f:Keyed->Keyed->Bool) (a b:Array Keyed) (st:SortSt) (n0:Nat) (r:GH) (st':SortSt):Prop:=yA st st'/\match r with
 | (some o,_)=>JR f a b o
 | (none,na,nb,out,_)=>InH f a b na nb out/\na+nb<=n0
theorem qju (hA:Ask prog w A E s kd D f) (O:OrdK f) (hb:Both D f a b) {st0 st:SortSt}(hk:kindOf st0=kd) (hst:yA st0 st) {out:Array Keyed}{na nb mg ac bc:Nat}(j:InH f a b na nb out) :
  wpS (model prog w) A E s (forIn [0:a.size+b.size] ((none,na,nb,out,mg,ac,bc):GH) (hiGB a b)) (qlL f a b st0 (na+nb)) st:=by
 refine yg (I:=fun x c st'=>yA st0 st'/\∃ na' nb' out' mg ac bc,c=(none,na',nb',out',mg,ac,bc)/\InH f a b na' nb' out'/\na'+nb'<=na+nb) ?step ?fin ⟨hst,na,nb,out,mg,ac,bc,rfl,j,by omega⟩
 case fin =>
  rintro c st' ⟨hst,na',nb',out',mg,ac,bc,rfl,j',g3⟩
  exact ⟨hst,j',g3⟩
 case step =>
  rintro x c st' _ hx ⟨hst,na',nb',out',mg,ac,bc,rfl,j',g3⟩
  unfold hiGB
  dsimp only
  split
  ·refine jc (qcM hA O hb hk hst j' g3) fun r st'' h=>?_
   obtain ⟨h0,h⟩:=h
   match r,h with
   | .done (some o,_),h=>exact ⟨h0,h⟩
   | .done (none,na,nb,out,_),h=>exact ⟨h0,h⟩
   | .yield (none,na,nb,out,m,c,d),h=>exact ⟨h0,_,_,_,_,_,_,rfl,h⟩
  ·refine jc (qcM hA O hb hk hst j' g3) fun r st'' h=>?_
   obtain ⟨h0,h⟩:=h
   match r,h with
   | .done (some o,_),h=>exact ⟨h0,h⟩
   | .done (none,na,nb,out,_),h=>exact ⟨h0,h⟩
   | .yield (none,na,nb,out,m,c,d),h=>exact ⟨h0,_,_,_,_,_,_,rfl,h⟩
theorem qcf (hA:Ask prog w A E s kd D f) (O:OrdK f) (hb:Both D f a b) {st:SortSt}(hk:kindOf st=kd) {Q:Array Keyed->SortSt->Prop}(q:∀ o st',yA st st'->JR f a b o->Q o st') :
  wpS (model prog w) A E s (YG a b) Q st:=by
 have na:=hb.na
 have nb:=hb.nb
 rw [qa8]
 refine qf (wpS_lift (wpAny_rule ⟨rfl,?_⟩))
 refine qf (yr (show a.size - 1<a.size by omega) ?_)
 have j0:JH f a b a.size b.size #[]:=⟨by rw [<- Array.length_toList,yh];simpa using hb.sa,by rw [<- Array.length_toList,yh];simpa using hb.sb,by rw [<- Array.length_toList,yh,<- Array.length_toList,yh];simp⟩
 have j1:JH f a b (a.size - 1) b.size #[a[a.size - 1]]:=by
  have:=j0.pushA O hb na (qj _) nb (qj _) (O.asym _ _ (hb.last _ (by simp)))
  simpa using this
 by_cases e:a.size - 1=0
 ·rw [if_pos (by simpa using e)]
  exact qo (q _ _ (yA.refl _) (j1.done (.inl e)))
 ·rw [if_neg (by simpa using e)]
  by_cases e2:b.size=1
  ·rw [if_pos (by simpa using e2)]
   exact qo (q _ _ (yA.refl _) (j1.firstB O hb e2))
  ·rw [if_neg (by simpa using e2)]
   refine qf (wpS_get ?_)
   refine qf (jc (yg (I:=fun x c st'=>yA st st'/\∃ na nb out mg,c=(none,na,nb,out,mg)/\InH f a b na nb out/\na+nb+x<=a.size+b.size)
    (Q:=fun c st'=>yA st st'/\∃ o r,c=(some o,r)/\JR f a b o) ?step ?fin ⟨yA.refl _,_,_,_,_,rfl,⟨j1,by omega,by omega,by omega,qj _⟩,by omega⟩) ?post)
   case fin =>
    rintro c st' ⟨hst,na,nb,out,mg,rfl,⟨j,g1,g2,g3,g4⟩,g5⟩
    omega
   case post =>
    rintro c st' ⟨hst,o,r,rfl,h⟩
    exact qo (q o st' hst h)
   case step =>
    rintro x c st' _ hx ⟨hst,na,nb,out,mg,rfl,j,g3⟩
    unfold hiOB
    dsimp only
    refine qf (jc (qjv hA O hb (hst.1.trans hk) j) ?_)
    rintro c1 st1 ⟨hst1,h⟩
    match c1,h with
    | (some o,na,nb,out,_),h=>exact qo ⟨hst.trans hst1,o,_,rfl,h⟩
    | (none,na1,nb1,out1,ac,bc),⟨j1,k3⟩ =>
     dsimp only
     refine qf (wpS_lift (wpAny_rule ⟨rfl,?_⟩))
     refine qf (jc (qju hA O hb hk (hst.trans hst1) j1) ?_)
     rintro c2 st2 ⟨hst2,h⟩
     match c2,h with
     | (some o,na,nb,out,mg,_),h=>exact qo ⟨hst2,o,_,rfl,h⟩
     | (none,na2,nb2,out2,mg2,ac,bc),⟨j2,l3⟩ =>
      dsimp only
      rw [yY]
      refine qf (jz (qo ⟨hst2.trans ⟨rfl,rfl,rfl,rfl⟩,_,_,_,_,rfl,j2,by omega⟩))
end
end L2
namespace L2
open PySem PySem.Spec PyProof.Rows PySem.W
abbrev kD (xs:Array Keyed) (i:Nat):Keyed:=xs.getD i (.none,.none)
theorem qdZ {xs ys:Array Keyed}{i j:Nat}(h:xs[i]?=ys[j]?):kD xs i=kD ys j:=by
 simp only [kD,Array.getD_eq_getD_getElem?,h]
theorem qd2 {xs:Array Keyed}{i:Nat}(h:i<xs.size):xs[i]?=some (kD xs i):=by
 rw [jw h];simp [kD,Array.getD,h]
structure SV (lo:Nat) (st0 st:SortSt):Prop where
 kind:kindOf st=kindOf st0
 pend:pendingOf st=pendingOf st0
 fail:failedOf st=failedOf st0
 perm:(arrOf st).Perm (arrOf st0)
 pre:∀ k,k<lo->(arrOf st)[k]?=(arrOf st0)[k]?
theorem SV.refl (lo:Nat) (st:SortSt):SV lo st st:=⟨rfl,rfl,rfl,Array.Perm.refl _,fun _ _=>rfl⟩
theorem SV.size {lo:Nat}{st0 st:SortSt}(h:SV lo st0 st):(arrOf st).size=(arrOf st0).size:=h.perm.size_eq
theorem SV.trans {lo:Nat}{a b c:SortSt}(h:SV lo a b) (g:SV lo b c):SV lo a c:=⟨g.kind.trans h.kind,g.pend.trans h.pend,g.fail.trans h.fail,g.perm.trans h.perm,fun k hk=>(g.pre k hk).trans (h.pre k hk)⟩
def mir (xs:Array Keyed) (i j:Nat):Array Keyed:=mirror xs i j ((j - i) / 2)
theorem qd0 {xs:Array Keyed}{i j:Nat}(hj:j<=xs.size) (k:Nat):kD (mir xs i j) k=if i<=k/\k<j then kD xs (i+j - 1 - k) else kD xs k:=by
 have e:=getElem?_mirror_all (i:=i) hj k
 unfold mir
 by_cases h1:i<=k/\k<j
 ·rw [if_pos h1] at e ⊢;exact qdZ e
 ·rw [if_neg h1] at e ⊢;exact qdZ e
theorem SV.mir {lo:Nat}{st0 st:SortSt}(h:SV lo st0 st) {i j:Nat}(hi:lo<=i) (hj:j<=(arrOf st).size):SV lo st0 (setArr st (L2.mir (arrOf st) i j)):=by
 refine ⟨h.kind,h.pend,h.fail,(mirror_perm _ _ _ _).trans h.perm,fun k hk=>?_⟩
 show (L2.mir (arrOf st) i j)[k]?=_
 unfold L2.mir
 rw [getElem?_mirror_all hj,if_neg (by omega)]
 exact h.pre k hk
section
variable {f:Keyed->Keyed->Bool}
def UpL (f:Keyed->Keyed->Bool) (lo:Nat) (p:Array Keyed) (k:Nat):Prop:=∀ i j,i<=j->j<k->f (kD p (lo+j)) (kD p (lo+i))=false
def DnL (f:Keyed->Keyed->Bool) (lo:Nat) (p:Array Keyed) (k:Nat):Prop:=∀ i j,i<=j->j<k->f (kD p (lo+i)) (kD p (lo+j))=false
def Zd (f:Keyed->Keyed->Bool) (a b:Keyed):Prop:=f a b=false/\f b a=false
theorem Zd.refl (O:OrdK f) (a:Keyed):Zd f a a:=⟨O.irr a,O.irr a⟩
theorem Zd.symm {a b:Keyed}(h:Zd f a b):Zd f b a:=⟨h.2,h.1⟩
theorem Zd.trans (O:OrdK f) {a b c:Keyed}(h:Zd f a b) (g:Zd f b c):Zd f a c:=⟨O.le g.1 h.1,O.le h.2 g.2⟩
theorem qle (O:OrdK f) {a b c:Keyed}(h:Zd f a b):f a c=f b c:=by
 cases h1:f b c with
 | true=>exact O.lel h.2 h1
 | false =>
  cases h2:f a c with
  | false=>rfl
  | true =>
   have:=O.lel h.1 h2
   rw [h1] at this;cases this
theorem qld (O:OrdK f) {a b c:Keyed}(h:Zd f a b):f c a=f c b:=by
 cases h1:f c b with
 | true=>exact O.ltl h1 h.1
 | false =>
  cases h2:f c a with
  | false=>rfl
  | true =>
   have:=O.ltl h2 h.2
   rw [h1] at this;cases this
theorem UpL.one (O:OrdK f) (lo:Nat) (p:Array Keyed):UpL f lo p 1:=fun i j h1 h2=>by
 have:i=j:=by omega
 subst this;exact O.irr _
theorem UpL.succ (O:OrdK f) {lo:Nat}{p:Array Keyed}{k:Nat}(h0:1<=k) (h:UpL f lo p k) (g:f (kD p (lo+k)) (kD p (lo+k - 1))=false):UpL f lo p (k+1):=fun i j hij hj=>by
 by_cases e:j=k
 ·subst e
  by_cases e2:i=j
  ·subst e2;exact O.irr _
  ·have:=h i (j - 1) (by omega) (by omega)
   rw [show lo+(j - 1)=lo+j - 1 by omega] at this
   exact O.le this g
 ·exact h i j hij (by omega)
theorem DnL.succ (O:OrdK f) {lo:Nat}{p:Array Keyed}{k:Nat}(h0:1<=k) (h:DnL f lo p k) (g:f (kD p (lo+k - 1)) (kD p (lo+k))=false):DnL f lo p (k+1):=fun i j hij hj=>by
 by_cases e:j=k
 ·subst e
  by_cases e2:i=j
  ·subst e2;exact O.irr _
  ·have:=h i (j - 1) (by omega) (by omega)
   rw [show lo+(j - 1)=lo+j - 1 by omega] at this
   exact O.le g this
 ·exact h i j hij (by omega)
theorem DnL.eqv (O:OrdK f) {lo:Nat}{p q:Array Keyed}{k:Nat}(h:DnL f lo p k) (e:∀ i,Zd f (kD q i) (kD p i)):DnL f lo q k:=fun i j h1 h2=>by
 rw [qle O (e _),qld O (e _)];exact h i j h1 h2
theorem ZG (O:OrdK f) {p:Array Keyed}{i j:Nat}(hj:j<=p.size) (h:∀ a b,i<=a->a<j->i<=b->b<j->Zd f (kD p a) (kD p b)) (k:Nat):Zd f (kD (mir p i j) k) (kD p k):=by
 rw [qd0 hj]
 split
 ·exact h _ _ (by omega) (by omega) (by omega) (by omega)
 ·exact Zd.refl O _
theorem UpL.ofRev {lo:Nat}{p:Array Keyed}{k:Nat}(hk:lo+k<=p.size) (h:DnL f lo p k):UpL f lo (mir p lo (lo+k)) k:=fun i j h1 h2=>by
 rw [qd0 hk,qd0 hk,if_pos (by omega),if_pos (by omega)]
 have:=h (k - 1 - j) (k - 1 - i) (by omega) (by omega)
 rw [show lo+(lo+k) - 1 - (lo+j)=lo+(k - 1 - j) by omega,show lo+(lo+k) - 1 - (lo+i)=lo+(k - 1 - i) by omega]
 exact this
end
def qlC (lo a nrem:Nat):StateT SortSt Sem (Option (Option Nat)×Nat) :=
 forIn [a:nrem] ((none,a):Option (Option Nat)×Nat) fun _ c=>do
  let x <- ltAt' (lo+c.2) (lo+c.2 - 1)
  match x with
  | some smaller=>if smaller=true then pure (ForInStep.done (none,c.2)) else pure (ForInStep.yield (none,c.2+1))
  | _=>pure (ForInStep.done (some none,c.2))
def qac (lo n nrem:Nat):StateT SortSt Sem (Option Nat):=do
 reverseSlice' lo (lo+n)
 let c <- qlC lo n nrem
 match c.1 with
 | some r=>pure r
 | none=>pure (some c.2)
def qfZ (lo n nrem:Nat):StateT SortSt Sem (Option (Option Nat)×Nat×Nat) :=
 forIn [n:nrem] ((none,n,0):Option (Option Nat)×Nat×Nat) fun _ c=>do
  let x <- ltAt' (lo+c.2.1) (lo+c.2.1 - 1)
  match x with
  | some smaller =>
   if smaller=true then
    if c.2.2 > 0 then do
     reverseSlice' (lo+c.2.1 - (c.2.2+1)) (lo+c.2.1)
     pure (ForInStep.yield (none,c.2.1+1,0))
    else pure (ForInStep.yield (none,c.2.1+1,0))
   else do
    let y <- ltAt' (lo+c.2.1 - 1) (lo+c.2.1)
    match y with
    | some larger =>
     if larger=true then pure (ForInStep.done (none,c.2.1,c.2.2))
     else pure (ForInStep.yield (none,c.2.1+1,c.2.2+1))
    | _=>pure (ForInStep.done (some none,c.2.1,c.2.2))
  | _=>pure (ForInStep.done (some none,c.2.1,c.2.2))
def Jp (lo n nrem:Nat):StateT SortSt Sem (Option Nat):=do
 liftM (rule "list.sort.descending-run")
 let c <- qfZ lo (n+1) nrem
 match c.1 with
 | some r=>pure r
 | none =>
  if c.2.2 > 0 then do
   reverseSlice' (lo+c.2.1 - (c.2.2+1)) (lo+c.2.1)
   qac lo c.2.1 nrem
  else qac lo c.2.1 nrem
theorem qaG (lo nrem:Nat):countRun' lo nrem=(do
  let c <- qlC lo 1 nrem
  match c.1 with
  | some r=>pure r
  | none =>
   if (c.2 == nrem)=true then pure (some c.2)
   else if c.2 > 1 then do
    let x <- ltAt' lo (lo+c.2 - 1)
    match x with
    | some rose=>if rose=true then pure (some c.2) else do
      reverseSlice' lo (lo+c.2)
      Jp lo c.2 nrem
    | _=>pure none
   else Jp lo c.2 nrem):=by
 rw [countRun'_eq]
 unfold Jp qac qfZ qlC
 dsimp only
 congr 1
 funext c
 obtain ⟨r,n⟩:=c
 cases r with
 | some r=>rfl
 | none =>
  dsimp only
  split
  ·rfl
  ·split
   ·congr 1
    funext x
    cases x with
    | none=>rfl
    | some rose =>
     dsimp only
     split
     ·rfl
     ·congr 1
      funext _r
      congr 1
      funext _u
      congr 1
      funext s2
      obtain ⟨r2,n2,q2⟩:=s2
      cases r2 with
      | some r2=>rfl
      | none =>
       dsimp only
       split
       ·congr 1
        funext _v
        congr 1
        funext _w
        congr 1
        funext s3
        obtain ⟨r3,n3⟩:=s3
        cases r3 <;> rfl
       ·congr 1
        funext _w
        congr 1
        funext s3
        obtain ⟨r3,n3⟩:=s3
        cases r3 <;> rfl
   ·congr 1
    funext _u
    congr 1
    funext s2
    obtain ⟨r2,n2,q2⟩:=s2
    cases r2 with
    | some r2=>rfl
    | none =>
     dsimp only
     split
     ·congr 1
      funext _v
      congr 1
      funext _w
      congr 1
      funext s3
      obtain ⟨r3,n3⟩:=s3
      cases r3 <;> rfl
     ·congr 1
      funext _w
      congr 1
      funext s3
      obtain ⟨r3,n3⟩:=s3
      cases r3 <;> rfl
section
variable {prog:Program}{w:World}{A:Around}{E:Value->Shared->Prop}{s:Shared}{kd:SortKind}{D:Keyed->Prop}{f:Keyed->Keyed->Bool}{st0:SortSt}{lo nrem:Nat}
def qcG (D:Keyed->Prop) (st:SortSt):Prop:=∀ x∈(arrOf st).toList,D x
theorem qcG.of {st st':SortSt}(h:qcG D st) (p:(arrOf st').Perm (arrOf st)):qcG D st':=fun x hx=>h x ((yI.mp p).mem_iff.mp hx)
theorem YR (hA:Ask prog w A E s kd D f) {st:SortSt}(hk:kindOf st=kd) (hD:qcG D st) {i j:Nat}(hi:i<(arrOf st).size) (hj:j<(arrOf st).size) {Q:Option Bool->SortSt->Prop}(q:Q (some (f (kD (arrOf st) i) (kD (arrOf st) j))) st):wpS (model prog w) A E s (ltAt' i j) Q st:=by
 rw [ltAt'_eq]
 refine qf (wpS_get ?_)
 show wpS _ _ _ _ (do let x <- elem' (arrOf st) i;let y <- elem' (arrOf st) j;lt' x y) Q st
 rw [elem'_eq,elem'_eq,qd2 hi,qd2 hj]
 refine qf (qo (qf (qo ?_)))
 have mem:∀ i,i<(arrOf st).size->kD (arrOf st) i∈(arrOf st).toList:=fun i h=>by
  have e:kD (arrOf st) i=(arrOf st)[i]:=by simp [kD,Array.getD,h]
  rw [e];simp
 exact hA _ _ _ _ (hD _ (mem i hi)) (hD _ (mem j hj)) hk q
theorem qcP (hA:Ask prog w A E s kd D f) (O:OrdK f) {st:SortSt}(hk:kindOf st=kd) (hD:qcG D st) (hn:lo+nrem<=(arrOf st).size) {a:Nat}(ha:1<=a) (han:a<=nrem) (hs:UpL f lo (arrOf st) a) {Q:Option (Option Nat)×Nat->SortSt->Prop}
  (q:∀ n,a<=n->n<=nrem->UpL f lo (arrOf st) n->(n<nrem->f (kD (arrOf st) (lo+n)) (kD (arrOf st) (lo+n - 1))=true)->Q (none,n) st):wpS (model prog w) A E s (qlC lo a nrem) Q st:=by
 unfold qlC
 refine yg (I:=fun x c st'=>st'=st/\c=(none,x)/\UpL f lo (arrOf st) x) ?step ?fin ⟨rfl,rfl,hs⟩
 case fin =>
  rintro c st' ⟨rfl,rfl,hs'⟩
  rw [show max a nrem=nrem by omega] at hs' ⊢
  exact q nrem han (qj _) hs' fun z=>absurd z (by omega)
 case step =>
  rintro x c st' hax hxn ⟨rfl,rfl,hs'⟩
  dsimp only
  refine qf (YR hA hk hD (by omega) (by omega) ?_)
  dsimp only
  cases c:f (kD (arrOf st') (lo+x)) (kD (arrOf st') (lo+x - 1)) with
  | true =>
   simp only [if_true]
   exact qo (q x hax (by omega) hs' fun _=>c)
  | false =>
   simp only [Bool.false_eq_true,if_false]
   exact qo ⟨rfl,rfl,hs'.succ O (by omega) c⟩
theorem qbt {st:SortSt}{i j:Nat}{Q:Unit->SortSt->Prop}(h:Q () (setArr st (mir (arrOf st) i j))):wpS (model prog w) A E s (reverseSlice' i j) Q st:=by
 rw [reverseSlice'_eq];exact jz h
def RunP (f:Keyed->Keyed->Bool) (lo nrem:Nat) (st0:SortSt) (Q:Option Nat->SortSt->Prop):Prop:=∀ n st',SV lo st0 st'->1<=n->n<=nrem->UpL f lo (arrOf st') n->Q (some n) st'
theorem qaa (hA:Ask prog w A E s kd D f) (O:OrdK f) (hk:kindOf st0=kd) (hD:qcG D st0) (hn:lo+nrem<=(arrOf st0).size) {st:SortSt}(hv:SV lo st0 st) {n:Nat}(h1:1<=n) (h2:n<=nrem) (h3:DnL f lo (arrOf st) n) {Q:Option Nat->SortSt->Prop}(q:RunP f lo nrem st0 Q) :
  wpS (model prog w) A E s (qac lo n nrem) Q st:=by
 unfold qac
 have hz:=hv.size
 refine qf (qbt ?_)
 have hv2:=hv.mir (i:=lo) (j:=lo+n) (qj _) (by omega)
 have up:UpL f lo (arrOf (setArr st (mir (arrOf st) lo (lo+n)))) n:=UpL.ofRev (by omega) h3
 generalize setArr st (mir (arrOf st) lo (lo+n))=st2 at hv2 up ⊢
 have hz2:=hv2.size
 refine qf (qcP hA O (hv2.kind.trans hk) (hD.of hv2.perm) (by omega) h1 h2 up fun m a1 a2 a3 _=>?_)
 exact qo (q m st2 hv2 (by omega) a2 a3)
theorem qe1 (hA:Ask prog w A E s kd D f) (O:OrdK f) (hk:kindOf st0=kd) (hD:qcG D st0) (hn:lo+nrem<=(arrOf st0).size) {st:SortSt}(hv:SV lo st0 st) {n:Nat}(h1:1<=n) (h2:n<=nrem) (h3:DnL f lo (arrOf st) n) {Q:Option (Option Nat)×Nat×Nat->SortSt->Prop}
  (q:∀ m k st',SV lo st0 st'->k+1<=m->m<=nrem->DnL f lo (arrOf st') m->(∀ a b,lo+m - (k+1)<=a->a<lo+m->lo+m - (k+1)<=b->b<lo+m->Zd f (kD (arrOf st') a) (kD (arrOf st') b))->Q (none,m,k) st') :
  wpS (model prog w) A E s (qfZ lo n nrem) Q st:=by
 unfold qfZ
 have one:∀ (p:Array Keyed) (m a b:Nat),1<=m->lo+m - (0+1)<=a->a<lo+m->lo+m - (0+1)<=b->b<lo+m->Zd f (kD p a) (kD p b):=fun p m a b _ _ _ _ _=>by
  have:a=b:=by omega
  subst this;exact Zd.refl O _
 refine yg (I:=fun x c st'=>SV lo st0 st'/\∃ k,c=(none,x,k)/\k+1<=x/\DnL f lo (arrOf st') x/\(∀ a b,lo+x - (k+1)<=a->a<lo+x->lo+x - (k+1)<=b->b<lo+x->Zd f (kD (arrOf st') a) (kD (arrOf st') b))) ?step ?fin ⟨hv,0,rfl,by omega,h3,fun a b=>one _ n a b h1⟩
 case fin =>
  rintro c st' ⟨hv',k,rfl,g1,g2,g3⟩
  rw [show max n nrem=nrem by omega] at g1 g2 g3 ⊢
  exact q nrem k st' hv' g1 (qj _) g2 g3
 case step =>
  rintro x c st' hnx hx ⟨hv',k,rfl,g1,g2,g3⟩
  dsimp only
  have hz:=hv'.size
  refine qf (YR hA (hv'.kind.trans hk) (hD.of hv'.perm) (by omega) (by omega) ?_)
  dsimp only
  cases c:f (kD (arrOf st') (lo+x)) (kD (arrOf st') (lo+x - 1)) with
  | true =>
   simp only [if_true]
   have dn:=g2.succ O (by omega) (O.asym _ _ c)
   by_cases hq:k > 0
   ·rw [if_pos hq]
    refine qf (qbt ?_)
    have ev:=ZG O (p:=arrOf st') (i:=lo+x - (k+1)) (j:=lo+x) (by omega) g3
    exact qo ⟨hv'.mir (by omega) (by omega),0,rfl,by omega,dn.eqv O ev,fun a b=>one _ _ a b (by omega)⟩
   ·rw [if_neg hq]
    exact qo ⟨hv',0,rfl,by omega,dn,fun a b=>one _ _ a b (by omega)⟩
  | false =>
   simp only [Bool.false_eq_true,if_false]
   refine qf (YR hA (hv'.kind.trans hk) (hD.of hv'.perm) (by omega) (by omega) ?_)
   dsimp only
   cases d:f (kD (arrOf st') (lo+x - 1)) (kD (arrOf st') (lo+x)) with
   | true =>
    simp only [if_true]
    exact qo (q x k st' hv' g1 (by omega) g2 g3)
   | false =>
    simp only [Bool.false_eq_true,if_false]
    refine qo ⟨hv',k+1,rfl,by omega,g2.succ O (by omega) d,fun a b a1 a2 b1 b2=>?_⟩
    have last:Zd f (kD (arrOf st') (lo+x)) (kD (arrOf st') (lo+x - 1)):=⟨c,d⟩
    have key:∀ y,lo+(x+1) - (k+1+1)<=y->y<lo+(x+1)->Zd f (kD (arrOf st') y) (kD (arrOf st') (lo+x - 1)):=fun y y1 y2=>by
     by_cases e:y=lo+x
     ·subst e;exact last
     ·exact g3 _ _ (by omega) (by omega) (by omega) (by omega)
    exact (key a a1 a2).trans O (key b b1 b2).symm
theorem Yv (hA:Ask prog w A E s kd D f) (O:OrdK f) (hk:kindOf st0=kd) (hD:qcG D st0) (hn:lo+nrem<=(arrOf st0).size) {st:SortSt}(hv:SV lo st0 st) {n:Nat}(h1:1<=n) (h2:n+1<=nrem) (h3:DnL f lo (arrOf st) (n+1)) {Q:Option Nat->SortSt->Prop}(q:RunP f lo nrem st0 Q) :
  wpS (model prog w) A E s (Jp lo n nrem) Q st:=by
 unfold Jp
 refine qf (wpS_lift (wpAny_rule ⟨rfl,?_⟩))
 refine qf (qe1 hA O hk hD hn hv (by omega) h2 h3 fun m k st' hv' g1 g2 g3 g4=>?_)
 dsimp only
 have hz:=hv'.size
 by_cases hq:k > 0
 ·rw [if_pos hq]
  refine qf (qbt ?_)
  have ev:=ZG O (p:=arrOf st') (i:=lo+m - (k+1)) (j:=lo+m) (by omega) g4
  exact qaa hA O hk hD hn (hv'.mir (by omega) (by omega)) (by omega) g2 (g3.eqv O ev) q
 ·rw [if_neg hq]
  exact qaa hA O hk hD hn hv' (by omega) g2 g3 q
theorem qaS (hA:Ask prog w A E s kd D f) (O:OrdK f) (hk:kindOf st0=kd) (hD:qcG D st0) (hn:lo+nrem<=(arrOf st0).size) (h1:1<=nrem) {Q:Option Nat->SortSt->Prop}(q:RunP f lo nrem st0 Q) :
  wpS (model prog w) A E s (countRun' lo nrem) Q st0:=by
 rw [qaG]
 refine qf (qcP hA O hk hD hn (qj _) h1 (UpL.one O lo _) fun m a1 a2 a3 a4=>?_)
 dsimp only
 by_cases e:m=nrem
 ·rw [if_pos (by simpa using e)]
  exact qo (q m st0 (SV.refl _ _) a1 a2 a3)
 ·rw [if_neg (by simpa using e)]
  have hlt:=a4 (by omega)
  by_cases e2:m > 1
  ·rw [if_pos e2]
   refine qf (YR hA hk hD (by omega) (by omega) ?_)
   dsimp only
   cases c:f (kD (arrOf st0) lo) (kD (arrOf st0) (lo+m - 1)) with
   | true =>
    simp only [if_true]
    exact qo (q m st0 (SV.refl _ _) a1 a2 a3)
   | false =>
    simp only [Bool.false_eq_true,if_false]
    refine qf (qbt ?_)
    have al:∀ a b,lo<=a->a<lo+m->lo<=b->b<lo+m->Zd f (kD (arrOf st0) a) (kD (arrOf st0) b):=fun a b ha1 ha hb1 hb=>by
     have key:∀ x,lo<=x->x<lo+m->Zd f (kD (arrOf st0) x) (kD (arrOf st0) lo):=fun x hx1 hx=>by
      have k1:=a3 0 (x - lo) (by omega) (by omega)
      have k2:=a3 (x - lo) (m - 1) (by omega) (by omega)
      rw [show lo+(x - lo)=x by omega] at k1 k2
      rw [show lo+(m - 1)=lo+m - 1 by omega] at k2
      exact ⟨k1,O.le k2 c⟩
     exact (key a ha1 ha).trans O (key b hb1 hb).symm
    have ev:=ZG O (p:=arrOf st0) (i:=lo) (j:=lo+m) (by omega) al
    have dn:DnL f lo (arrOf st0) m:=fun i j hi hj=>(al (lo+i) (lo+j) (by omega) (by omega) (by omega) (by omega)).1
    exact Yv hA O hk hD hn ((SV.refl lo st0).mir (qj _) (by omega)) a1 (by omega) ((dn.succ O a1 (O.asym _ _ hlt)).eqv O ev) q
  ·rw [if_neg e2]
   have m1:m=1:=by omega
   subst m1
   have dn:DnL f lo (arrOf st0) 1:=fun i j hi hj=>by
    have:i=j:=by omega
    subst this;exact O.irr _
   exact Yv hA O hk hD hn (SV.refl lo st0) (qj _) (by omega) (dn.succ O (qj _) (O.asym _ _ hlt)) q
theorem qaw {xs:Array Keyed}{src d:Nat}(hs:src<xs.size) (hd:d<=src) (k:Nat):kD (bubble xs src d) k=if k=src - d then kD xs src else if src - d<k/\k<=src then kD xs (k - 1) else kD xs k:=by
 have e:=getElem?_bubble hs d hd k
 by_cases h1:k=src - d
 ·rw [if_pos h1] at e ⊢;exact qdZ e
 ·rw [if_neg h1] at e ⊢
  by_cases h2:src - d<k/\k<=src
  ·rw [if_pos h2] at e ⊢;exact qdZ e
  ·rw [if_neg h2] at e ⊢;exact qdZ e
theorem qcg (hA:Ask prog w A E s kd D f) (O:OrdK f) (hk:kindOf st0=kd) (hD:qcG D st0) {n ok:Nat}(hn:lo+n<=(arrOf st0).size) (hok:ok<=n) (hs:UpL f lo (arrOf st0) ok) {Q:Bool->SortSt->Prop}(q:∀ st',SV lo st0 st'->UpL f lo (arrOf st') n->Q true st') :
  wpS (model prog w) A E s (binarySort' lo n ok) Q st0:=by
 rw [binarySort'_eq]
 refine qf (jc (yg (I:=fun k c st'=>c=(none,())/\SV lo st0 st'/\UpL f lo (arrOf st') (min k n))
  (Q:=fun c st'=>c=(none,())/\SV lo st0 st'/\UpL f lo (arrOf st') n) ?step ?fin ?init) ?post)
 case post =>
  rintro c st' ⟨rfl,hB',hs'⟩
  exact qo (q st' hB' hs')
 case init =>
  refine ⟨rfl,SV.refl _ _,fun i j hij hj=>?_⟩
  by_cases h1:ok=0
  ·have:i=j:=by omega
   subst this;exact O.irr _
  ·exact hs i j hij (by omega)
 case fin =>
  rintro c st' ⟨hc,hB',hs'⟩
  refine ⟨hc,hB',?_⟩
  rwa [show min (max (max ok 1) n) n=n by omega] at hs'
 case step =>
  rintro k c st' hak hkn ⟨rfl,hB',hs'⟩
  rw [show min k n=k by omega] at hs'
  have hz:=hB'.size
  refine qf (jc (yg (I:=fun x c st''=>st''=st'/\∃ l r,c=(none,l,r)/\l<=r/\r<=k/\r - l<=k - x ∧
    (∀ i,i<l->f (kD (arrOf st') (lo+k)) (kD (arrOf st') (lo+i))=false)/\(∀ i,r<=i->i<k->f (kD (arrOf st') (lo+k)) (kD (arrOf st') (lo+i))=true))
   (Q:=fun c st''=>st''=st'/\∃ l r,c=(none,l,r)/\l<=k ∧
    (∀ i,i<l->f (kD (arrOf st') (lo+k)) (kD (arrOf st') (lo+i))=false)/\(∀ i,l<=i->i<k->f (kD (arrOf st') (lo+k)) (kD (arrOf st') (lo+i))=true)) ?istep ?ifin ?iinit) ?ipost)
  case iinit=>exact ⟨rfl,0,k,rfl,by omega,by omega,by omega,fun i hi=>by omega,fun i h1 h2=>by omega⟩
  case ifin =>
   rintro c st'' ⟨rfl,l,r,rfl,hlr,hrk,hm,hlo,hhi⟩
   have:l=r:=by omega
   subst this
   exact ⟨rfl,l,l,rfl,hrk,hlo,hhi⟩
  case istep =>
   rintro x c st'' _ hxk ⟨rfl,l,r,rfl,hlr,hrk,hm,hlo,hhi⟩
   dsimp only
   by_cases hge:l ≥ r
   ·rw [if_pos hge]
    have:l=r:=by omega
    subst this
    exact qo ⟨rfl,l,l,rfl,hrk,hlo,hhi⟩
   ·rw [if_neg hge]
    refine qf (YR hA (hB'.kind.trans hk) (hD.of hB'.perm) (by omega) (by omega) ?_)
    dsimp only
    cases c:f (kD (arrOf st'') (lo+k)) (kD (arrOf st'') (lo+(l+r) / 2)) with
    | true =>
     simp only [if_true]
     refine qo ⟨rfl,l,(l+r) / 2,rfl,by omega,by omega,by omega,hlo,fun i h1 h2=>?_⟩
     exact O.ltl c (hs' _ _ h1 h2)
    | false =>
     simp only [Bool.false_eq_true,if_false]
     refine qo ⟨rfl,(l+r) / 2+1,r,rfl,by omega,by omega,by omega,fun i h1=>?_,hhi⟩
     exact O.le (hs' i ((l+r) / 2) (by omega) (by omega)) c
  case ipost =>
   rintro c st'' ⟨rfl,l,r,rfl,hlk,hlo,hhi⟩
   show wpS _ _ _ _ (do moveDown' (lo+k) (lo+l);pure (ForInStep.yield (none,()))) _ _
   rw [moveDown'_eq]
   have hks:lo+k<(arrOf st'').size:=by omega
   have ed:lo+k - (lo+l)=k - l:=by omega
   refine qf (jz (qo ⟨rfl,⟨hB'.kind,hB'.pend,hB'.fail,(bubble_perm _ _ _).trans hB'.perm,fun j hj=>?_⟩,?_⟩))
   ·show (bubble (arrOf st'') (lo+k) (lo+k - (lo+l)))[j]?=_
    rw [getElem?_bubble hks _ (by omega),if_neg (by omega),if_neg (by omega)]
    exact hB'.pre j hj
   rw [show min (k+1) n=k+1 by omega]
   intro i j hij hj
   show f (kD (bubble (arrOf st'') (lo+k) (lo+k - (lo+l))) (lo+j)) (kD (bubble (arrOf st'') (lo+k) (lo+k - (lo+l))) (lo+i))=false
   rw [qaw hks (by omega),qaw hks (by omega),ed,show lo+k - (k - l)=lo+l by omega]
   by_cases j1:j=l
   ·rw [if_pos (by omega)]
    by_cases i1:i=l
    ·rw [if_pos (by omega)];exact O.irr _
    ·rw [if_neg (by omega),if_neg (by omega)]
     exact hlo i (by omega)
   ·rw [if_neg (by omega)]
    by_cases j2:l<j/\j<=k
    ·rw [if_pos (by omega)]
     by_cases i1:i=l
     ·rw [if_pos (by omega)]
      have:=hhi (j - 1) (by omega) (by omega)
      rw [show lo+j - 1=lo+(j - 1) by omega]
      exact O.asym _ _ this
     ·rw [if_neg (by omega)]
      by_cases i2:l<i/\i<=k
      ·rw [if_pos (by omega),show lo+j - 1=lo+(j - 1) by omega,show lo+i - 1=lo+(i - 1) by omega];exact hs' _ _ (by omega) (by omega)
      ·rw [if_neg (by omega),show lo+j - 1=lo+(j - 1) by omega];exact hs' _ _ (by omega) (by omega)
    ·rw [if_neg (by omega),if_neg (by omega),if_neg (by omega)]
     exact hs' _ _ (by omega) (by omega)
end
end L2
namespace L2
open PySem PySem.Spec PyProof.Rows PySem.W
section
variable {f:Keyed->Keyed->Bool}
def ym (f:Keyed->Keyed->Bool):Nat->List (List Keyed)->List (Nat×Nat×Nat)->Prop
 | _,[],[]=>True
 | off,sg::sgs,p::ps=>p.1=off/\p.2.1=sg.length/\SdK f sg/\sg≠[]/\ym f (off+sg.length) sgs ps
 | _,_,_=>False
theorem ym.len:∀ {off:Nat}{segs:List (List Keyed)}{ps:List (Nat×Nat×Nat)},ym f off segs ps->segs.length=ps.length
 | _,[],[],_=>rfl
 | _,_::_,_::_,h=>by simp [ym.len h.2.2.2.2]
theorem ym.snoc:∀ {off:Nat}{segs:List (List Keyed)}{ps:List (Nat×Nat×Nat)}{sg:List Keyed}{pw:Nat},ym f off segs ps->SdK f sg->sg≠[]->ym f off (segs++[sg]) (ps++[(off+segs.flatten.length,sg.length,pw)])
 | _,[],[],_,_,_,h1,h2=>⟨by simp,rfl,h1,h2,trivial⟩
 | off,a::segs,p::ps,sg,pw,h,h1,h2=>by
  obtain ⟨g1,g2,g3,g4,g5⟩:=h
  have:=ym.snoc (pw:=pw) g5 h1 h2
  refine ⟨g1,g2,g3,g4,?_⟩
  simp only [List.flatten_cons,List.length_append]
  rw [Nat.add_assoc] at this
  exact this
theorem ym.split:∀ {p1:List (Nat×Nat×Nat)}{off:Nat}{segs:List (List Keyed)}{A B:Nat×Nat×Nat}{p2:List (Nat×Nat×Nat)},ym f off segs (p1++A::B::p2) →
  ∃ s1 X Y s2,segs=s1++X::Y::s2/\A.1=off+s1.flatten.length/\A.2.1=X.length/\B.1=off+s1.flatten.length+X.length/\B.2.1=Y.length/\SdK f X/\SdK f Y/\X≠[]/\Y≠[] ∧
   ∀ Z pw,SdK f Z->Z.length=X.length+Y.length->ym f off (s1++Z::s2) (p1++(A.1,X.length+Y.length,pw)::p2)
 | [],off,a::b::segs,A,B,p2,h=>by
  obtain ⟨g1,g2,g3,g4,h1,h2,h3,h4,h5⟩:=h
  refine ⟨[],a,b,segs,rfl,by simpa using g1,g2,by simpa using h1,h2,g3,h3,g4,h4,fun Z pw z1 z2=>⟨g1,z2.symm,z1,fun e=>?_,?_⟩⟩
  ·subst e
   simp at z2
   have:=yt.mpr g4
   omega
  ·rw [z2,<- Nat.add_assoc];exact h5
 | p::p1,off,a::segs,A,B,p2,h=>by
  obtain ⟨g1,g2,g3,g4,g5⟩:=h
  obtain ⟨s1,X,Y,s2,e,k1,k2,k3,k4,k5,k6,k7,k8,k9⟩:=ym.split g5
  refine ⟨a::s1,X,Y,s2,by rw [e];rfl,by rw [k1];simp;omega,k2,by rw [k3];simp;omega,k4,k5,k6,k7,k8,fun Z pw z1 z2=>⟨g1,g2,g3,g4,k9 Z pw z1 z2⟩⟩
theorem ym.repow {g:Nat×Nat×Nat->Nat×Nat×Nat}(hg:∀ p,(g p).1=p.1/\(g p).2.1=p.2.1):∀ {off:Nat}{segs:List (List Keyed)}{ps:List (Nat×Nat×Nat)}{i:Nat},ym f off segs ps->ym f off segs (ps.modify i g)
 | _,[],[],i,h=>by rw [List.modify_nil];exact h
 | _,a::segs,p::ps,0,h=>by
  obtain ⟨g1,g2,g3,g4,g5⟩:=h
  simp only [List.modify_zero_cons]
  exact ⟨(hg p).1.trans g1,(hg p).2.trans g2,g3,g4,g5⟩
 | _,a::segs,p::ps,i+1,h=>by
  obtain ⟨g1,g2,g3,g4,g5⟩:=h
  simp only [List.modify_succ_cons]
  exact ⟨g1,g2,g3,g4,ym.repow hg g5⟩
theorem ym.flat_pos:∀ {off:Nat}{segs:List (List Keyed)}{ps:List (Nat×Nat×Nat)},ym f off segs ps->ps.length<=segs.flatten.length
 | _,[],[],_=>qj _
 | _,a::segs,p::ps,h=>by
  have:=ym.flat_pos h.2.2.2.2
  have:=yt.mpr h.2.2.2.1
  rw [List.flatten_cons,List.length_append,List.length_cons];omega
end
def wrt (base:Nat) (a:Array Keyed) (l:List (Keyed×Nat)):Array Keyed:=l.foldl (fun a (p:Keyed×Nat)=>a.setIfInBounds (base+p.2) p.1) a
theorem qbs:∀ {M:List Keyed}{n base:Nat}{arr:Array Keyed}{A B C:List Keyed},arr.toList=A++(B++C)->A.length=base+n->M.length=B.length->(wrt base arr (M.zipIdx n)).toList=A++(M++C)
 | [],n,base,arr,A,B,C,h,_,hm=>by
  have:B=[]:=List.eq_nil_of_length_eq_zero hm.symm
  subst this
  simpa [wrt] using h
 | m::M,n,base,arr,A,[],C,h,_,hm=>by simp at hm
 | m::M,n,base,arr,A,b::B,C,h,ha,hm=>by
  have e:(arr.setIfInBounds (base+n) m).toList=(A++[m])++(B++C):=by
   rw [Array.toList_setIfInBounds,h,<- ha]
   simp
  have:=qbs (M:=M) (n:=n+1) (base:=base) (arr:=arr.setIfInBounds (base+n) m) e (by simp;omega) (by simpa using hm)
  rw [List.zipIdx_cons]
  show (wrt base (arr.setIfInBounds (base+n) m) (M.zipIdx (n+1))).toList=_
  rw [this]
  simp
theorem qau (i:Nat):mergeAt' i=(do
 let s <- get
 let (some (sa,na,power),some (sb,nb,_)):=((pendingOf s)[i]?,(pendingOf s)[i+1]?) | unsupported "internal:list.sort.pending"
 set (SortSt.mk' (PyProof.Rows.kindOf s) (arrOf s) (((pendingOf s).setIfInBounds i (sa,na+nb,power)).eraseIdxIfInBounds (i+1)) (gallopOf s) (failedOf s))
 let some k <- jn false (<- elem' (arrOf s) sb) (arrOf s) sa na 0 | return false
 let (sa,na):=(sa+k,na - k)
 if na == 0 then return true
 let some nb <- jn true (<- elem' (arrOf s) (sa+na - 1)) (arrOf s) sb nb (nb - 1) | return false
 if nb == 0 then return true
 let x:=(arrOf s).extract sa sb
 let y:=(arrOf s).extract sb (sb+nb)
 let merged <- if na<=nb then YF x y else YG x y
 modify fun s=>SortSt.mk' (PyProof.Rows.kindOf s) (merged.toList.zipIdx.foldl (fun a (p,j)=>a.setIfInBounds (sa+j) p) (arrOf s)) (pendingOf s) (gallopOf s) (failedOf s)
 return (failedOf (<- get)).isNone):=rfl
section
variable {prog:Program}{w:World}{A:Around}{E:Value->Shared->Prop}{s:Shared}{kd:SortKind}{D:Keyed->Prop}{f:Keyed->Keyed->Bool}{st:SortSt}
theorem qhD {st st':SortSt}{Q:PUnit->SortSt->Prop}(h:Q ⟨⟩ st'):wpS (model prog w) A E s (set st':StateT SortSt Sem PUnit) Q st:=by
 unfold wpS;rw [StateT.run_set];exact qe ⟨rfl,h⟩
theorem qcv {p1 p2:List (Nat×Nat×Nat)}{a b v:Nat×Nat×Nat}{ps:Array (Nat×Nat×Nat)}(h:ps.toList=p1++a::b::p2):((ps.setIfInBounds p1.length v).eraseIdxIfInBounds (p1.length+1)).toList=p1++v::p2:=by
 have hz:ps.size=p1.length+2+p2.length:=by
  rw [<- Array.length_toList,h];simp;omega
 unfold Array.eraseIdxIfInBounds
 rw [dif_pos (by simp;omega),Array.toList_eraseIdx,Array.toList_setIfInBounds,h]
 simp
 rw [List.eraseIdx_append_of_length_le (by omega)]
 simp
theorem ZE {X Y:List Keyed}(h1:SdK f X) (h2:SdK f Y) (c:∀ x∈X,∀ y∈Y,f y x=false):SdK f (X++Y):=qL.mpr ⟨h1,h2,c⟩
theorem J8 (hA:Ask prog w A E s kd D f) (O:OrdK f) (hk:PyProof.Rows.kindOf st=kd) (hD:qcG D st) (hf:failedOf st=none) {segs:List (List Keyed)}{y9:List Keyed}{i:Nat}(ha:(arrOf st).toList=segs.flatten++y9) (hp:ym f 0 segs (pendingOf st).toList) (hi:i+1<(pendingOf st).size) {Q:Bool->SortSt->Prop}
  (q:∀ st' segs',PyProof.Rows.kindOf st'=kd->failedOf st'=none->(arrOf st').Perm (arrOf st)->(arrOf st').toList=segs'.flatten++y9->segs'.flatten.length=segs.flatten.length->ym f 0 segs' (pendingOf st').toList->(pendingOf st').size+1=(pendingOf st).size->Q true st') :
  wpS (model prog w) A E s (mergeAt' i) Q st:=by
 have hlen:(pendingOf st).toList.length=(pendingOf st).size:=Array.length_toList
 obtain ⟨p1,a0,b0,p2,hpl,hp1⟩:∃ p1 a0 b0 p2,(pendingOf st).toList=p1++a0::b0::p2/\p1.length=i:=by
  refine ⟨(pendingOf st).toList.take i,(pendingOf st)[i],(pendingOf st)[i+1],(pendingOf st).toList.drop (i+2),?_,by simp;omega⟩
  have e1:=List.drop_eq_getElem_cons (l:=(pendingOf st).toList) (i:=i) (by omega)
  have e2:=List.drop_eq_getElem_cons (l:=(pendingOf st).toList) (i:=i+1) (by omega)
  have:=(qD i (pendingOf st).toList).symm
  rw [e1,e2] at this
  exact this
 rw [hpl] at hp
 obtain ⟨s1,X,Y,s2,rfl,k1,k2,k3,k4,k5,k6,k7,k8,k9⟩:=hp.split
 have g1:(pendingOf st)[i]?=some a0:=by
  rw [<- qk,hpl,<- hp1];simp
 have g2:(pendingOf st)[i+1]?=some b0:=by
  rw [<- qk,hpl,<- hp1]
  rw [qT (by omega)]
  simp
 obtain ⟨sa,na,pw⟩:=a0
 obtain ⟨sb,nb,pw2⟩:=b0
 simp only [Nat.zero_add] at k1 k2 k3 k4
 subst k2 k4
 rw [qau]
 refine qf (wpS_get ?_)
 rw [g1,g2]
 dsimp only
 refine qf (qhD ?_)
 have hnp:(((pendingOf st).setIfInBounds i (sa,X.length+Y.length,pw)).eraseIdxIfInBounds (i+1)).toList=p1++(sa,X.length+Y.length,pw)::p2:=by
  rw [<- hp1];exact qcv hpl
 have hsz:(((pendingOf st).setIfInBounds i (sa,X.length+Y.length,pw)).eraseIdxIfInBounds (i+1)).size+1=(pendingOf st).size:=by
  rw [<- Array.length_toList,hnp,<- hlen,hpl];simp;omega
 generalize ((pendingOf st).setIfInBounds i (sa,X.length+Y.length,pw)).eraseIdxIfInBounds (i+1)=np at hnp hsz ⊢
 have harr:(arrOf st).toList=s1.flatten++(X++(Y++(s2.flatten++y9))):=by rw [ha];simp
 have hsz2:(arrOf st).size=s1.flatten.length+(X.length+(Y.length+(s2.flatten.length+y9.length))):=by
  rw [<- Array.length_toList,harr];simp
 have hX:0<X.length:=yt.mpr k7
 have hY:0<Y.length:=yt.mpr k8
 have getX:∀ j,j<X.length->(arrOf st)[sa+j]?=X[j]?:=fun j hj=>by
  rw [<- qk,harr,k1,qT (by omega),qV (by omega)]
  congr 1;omega
 have getY:∀ j,j<Y.length->(arrOf st)[sb+j]?=Y[j]?:=fun j hj=>by
  rw [<- qk,harr,k3,qT (by omega),qT (by omega),qV (by omega)]
  congr 1;omega
 have dX:∀ x∈X,D x:=fun x hx=>hD x (by rw [harr];simp [hx])
 have dY:∀ x∈Y,D x:=fun x hx=>hD x (by rw [harr];simp [hx])
 -- the end,by what stands there then
 have fin:∀ (st':SortSt) (Z:List Keyed),PyProof.Rows.kindOf st'=kd->failedOf st'=none->pendingOf st'=np->(arrOf st').toList=s1.flatten++(Z++(s2.flatten++y9))->SdK f Z->Z.Perm (X++Y)->Q true st':=fun st' Z z1 z2 z3 z4 z5 z6=>by
  have zl:=z6.length_eq
  rw [List.length_append] at zl
  refine q st' (s1++Z::s2) z1 z2 ?_ (by rw [z4];simp) (by simp [zl];omega) ?_ (by rw [z3];exact hsz)
  ·rw [yI,z4,harr]
   refine List.Perm.append_left _ ?_
   rw [<- qq X Y]
   exact List.Perm.append_right _ z6
  ·rw [z3,hnp]
   have:=k9 Z pw z5 zl
   simpa using this
 have fin0:SdK f (X++Y)->Q true (SortSt.mk' (PyProof.Rows.kindOf st) (arrOf st) np (gallopOf st) (failedOf st)):=fun h=>fin _ (X++Y) hk hf rfl (by rw [harr];simp) h (List.Perm.refl _)
 have y0:(arrOf st)[sb]?=some Y[0]:=by
  have:=getY 0 hY
  rwa [Nat.add_zero,List.getElem?_eq_getElem hY] at this
 rw [elem'_eq,y0]
 refine qf (qo ?_)
 refine qf (Zl hA O hk X rfl getX (dY _ (qU hY)) dX hX k5 fun k hk1 hk2 hk3=>?_)
 have leX:∀ x∈X.take k,f Y[0] x=false:=fun x hx=>by simpa [byd] using hk2 x hx
 have gtX:∀ x∈X.drop k,f Y[0] x=true:=fun x hx=>by simpa [byd] using hk3 x hx
 have Y0le:∀ y∈Y,f y Y[0]=false:=fun y hy=>by
  obtain ⟨j,hj,rfl⟩:=jy.mp hy
  by_cases e:j=0
  ·subst e;exact O.irr _
  ·exact qM.mp k6 0 j hY hj (by omega)
 dsimp only
 by_cases e:X.length - k=0
 ·rw [if_pos (by simpa using e)]
  refine qo (fin0 (ZE k5 k6 fun x hx y hy=>?_))
  have:X.take k=X:=List.take_of_length_le (by omega)
  exact O.le (leX x (by rw [this];exact hx)) (Y0le y hy)
 ·rw [if_neg (by simpa using e)]
  have hl:X.length - 1<X.length:=by omega
  have xl:(arrOf st)[sa+k+(X.length - k) - 1]?=some X[X.length - 1]:=by
   rw [show sa+k+(X.length - k) - 1=sa+(X.length - 1) by omega,getX _ hl,List.getElem?_eq_getElem hl]
  rw [elem'_eq,xl]
  refine qf (qo ?_)
  refine qf (Zl hA O hk Y rfl getY (dX _ (qU hl)) dY (by omega) k6 fun m hm1 hm2 hm3=>?_)
  have ltY:∀ x∈Y.take m,f x X[X.length - 1]=true:=fun x hx=>hm2 x hx
  have geY:∀ x∈Y.drop m,f x X[X.length - 1]=false:=fun x hx=>hm3 x hx
  have Xle:∀ x∈X,f X[X.length - 1] x=false:=fun x hx=>by
   obtain ⟨j,hj,rfl⟩:=jy.mp hx
   by_cases e:j=X.length - 1
   ·subst e;exact O.irr _
   ·exact qM.mp k5 j (X.length - 1) hj hl (by omega)
  dsimp only
  by_cases e2:m=0
  ·rw [if_pos (by simpa using e2)]
   subst e2
   refine qo (fin0 (ZE k5 k6 fun x hx y hy=>O.le (Xle x hx) (geY y (by simpa using hy))))
  ·rw [if_neg (by simpa using e2)]
   have ex:((arrOf st).extract (sa+k) sb).toList=X.drop k:=by
    have e:((arrOf st).extract (sa+k) sb).toList=((arrOf st).toList.drop (sa+k)).take (sb - (sa+k)):=by simp [Array.toList_extract,List.extract_eq_take_drop]
    rw [e,harr,k1,k3,List.drop_append,List.drop_of_length_le (by omega),List.nil_append,show s1.flatten.length+k - s1.flatten.length=k by omega,List.drop_append_of_le_length (by omega),List.take_append_of_le_length (by simp;omega)]
    exact List.take_of_length_le (by simp;omega)
   have ey:((arrOf st).extract sb (sb+m)).toList=Y.take m:=by
    rw [Je,harr,k3,List.drop_append,List.drop_of_length_le (by omega),List.nil_append,show s1.flatten.length+X.length - s1.flatten.length=X.length by omega,List.drop_left,List.take_append_of_le_length hm1]
   generalize (arrOf st).extract (sa+k) sb=ax at ex ⊢
   generalize (arrOf st).extract sb (sb+m)=ay at ey ⊢
   have hax:ax.size=X.length - k:=by rw [<- Array.length_toList,ex];simp
   have hay:ay.size=m:=by rw [<- Array.length_toList,ey];simp;omega
   have getax:∀ j (h:j<ax.size),ax[j]=X[k+j]'(by omega):=fun j h=>by
    have:ax.toList[j]'(by simpa using h)=(X.drop k)[j]'(by simp;omega):=by simp only [ex]
    rw [List.getElem_drop] at this
    exact this
   have getay:∀ j (h:j<ay.size),ay[j]=Y[j]'(by omega):=fun j h=>by
    have:ay.toList[j]'(by simpa using h)=(Y.take m)[j]'(by simp;omega):=by simp only [ey]
    rw [List.getElem_take] at this
    exact this
   have hB:Both D f ax ay:=by
    refine ⟨fun x hx=>dX x (yV (by rw [<- ex];exact hx)),fun x hx=>dY x (yn (by rw [<- ey];exact hx)),by omega,by omega,fun x hx=>?_,?_,?_,?_⟩
    ·rw [getax]
     have:=ltY x (by rw [<- ey];exact hx)
     simp only [hax,show k+(X.length - k - 1)=X.length - 1 by omega]
     exact this
    ·rw [getax,getay]
     exact gtX _ (jy.mpr ⟨0,by simp;omega,by rw [List.getElem_drop]⟩)
    ·rw [ex];exact List.Pairwise.sublist (List.drop_sublist _ _) k5
    ·rw [ey];exact List.Pairwise.sublist (List.take_sublist _ _) k6
   have key:∀ (o:Array Keyed) (st':SortSt),yA (SortSt.mk' (PyProof.Rows.kindOf st) (arrOf st) np (gallopOf st) (failedOf st)) st'->JR f ax ay o->Q true (SortSt.mk' (PyProof.Rows.kindOf st') (wrt (sa+k) (arrOf st') o.toList.zipIdx) (pendingOf st') (gallopOf st') (failedOf st')):=fun o st' hs ⟨h1,h2⟩=>by
    rw [ex,ey] at h2
    have ol:=h2.length_eq
    refine fin _ (X.take k++(o.toList++Y.drop m)) (hs.1.trans hk) (hs.2.2.2.trans hf) hs.2.2.1 ?_ ?_ ?_
    ·show (wrt (sa+k) (arrOf st') o.toList.zipIdx).toList=_
     have ea:(arrOf st').toList=(s1.flatten++X.take k)++((X.drop k++Y.take m)++(Y.drop m++(s2.flatten++y9))):=by
      have:arrOf st'=arrOf st:=hs.2.1
      rw [this,harr]
      have e1:=qD k X
      have e2:=qD m Y
      rw [<- qq (X.drop k++Y.take m),qq (X.drop k),e2]
      rw [qq s1.flatten,<- qq (X.take k),<- qq (X.take k),e1]
      simp
     rw [qbs (n:=0) ea (by rw [List.length_append,yb];omega) ol]
     simp
    ·refine ZE (List.Pairwise.sublist (List.take_sublist _ _) k5) (ZE h1 (List.Pairwise.sublist (List.drop_sublist _ _) k6) fun x hx y hy=>?_) fun x hx y hy=>?_
     ·have hx:=h2.mem_iff.mp hx
      rcases List.mem_append.mp hx with z | z
      ·exact O.le (Xle x (yV z)) (geY y hy)
      ·have hY2:=qD m Y
       have:SdK f (Y.take m++Y.drop m):=by rw [hY2];exact k6
       exact (qL.mp this).2.2 x z y hy
     ·rcases List.mem_append.mp hy with z | z
      ·have z:=h2.mem_iff.mp z
       rcases List.mem_append.mp z with z | z
       ·have hX2:=qD k X
        have:SdK f (X.take k++X.drop k):=by rw [hX2];exact k5
        exact (qL.mp this).2.2 x hx y z
       ·exact O.le (leX x hx) (Y0le y (yn z))
      ·exact O.le (leX x hx) (Y0le y (yV z))
    ·refine List.Perm.trans (List.Perm.append_left _ (List.Perm.append_right _ h2)) ?_
     rw [qq,qD m Y,<- qq,qD k X]
   by_cases e3:X.length - k<=m
   ·rw [if_pos e3]
    refine qf (qce (st:=SortSt.mk' (PyProof.Rows.kindOf st) (arrOf st) np (gallopOf st) (failedOf st)) hA O hB hk fun o st' hs h=>?_)
    refine qf (jz (qf (wpS_get (qo ?_))))
    have e0:(failedOf st').isNone=true:=by
     have:failedOf st'=none:=hs.2.2.2.trans hf
     rw [this];rfl
    show Q (failedOf st').isNone _
    rw [e0]
    exact key o st' hs h
   ·rw [if_neg e3]
    refine qf (qcf (st:=SortSt.mk' (PyProof.Rows.kindOf st) (arrOf st) np (gallopOf st) (failedOf st)) hA O hB hk fun o st' hs h=>?_)
    refine qf (jz (qf (wpS_get (qo ?_))))
    have e0:(failedOf st').isNone=true:=by
     have:failedOf st'=none:=hs.2.2.2.trans hf
     rw [this];rfl
    show Q (failedOf st').isNone _
    rw [e0]
    exact key o st' hs h
structure RI (f:Keyed->Keyed->Bool) (kd:SortKind) (a0:Array Keyed) (lo:Nat) (st:SortSt):Prop where
 kind:PyProof.Rows.kindOf st=kd
 fail:failedOf st=none
 perm:(arrOf st).Perm a0
 segs:∃ segs y9,(arrOf st).toList=segs.flatten++y9/\segs.flatten.length=lo/\ym f 0 segs (pendingOf st).toList
theorem RI.size {a0:Array Keyed}{lo:Nat}(h:RI f kd a0 lo st):(arrOf st).size=a0.size:=h.perm.size_eq
theorem qd1 {xs:Array Keyed}{i:Nat}{l:List Keyed}{pre:List Keyed}{post:List Keyed}(h:xs.toList=pre++(l++post)) (hi:i<l.length):kD xs (pre.length+i)=l[i]:=by
 have hz:pre.length+i<xs.size:=by rw [<- Array.length_toList,h];simp;omega
 have:=qd2 hz
 rw [<- qk,h,qT (by omega),qV (by omega),Nat.add_sub_cancel_left,List.getElem?_eq_getElem hi] at this
 exact (Option.some.inj this).symm
theorem RI.run {a0:Array Keyed}{lo n:Nat}{st0 st:SortSt}(h:RI f kd a0 lo st0) (hv:SV lo st0 st) (h1:1<=n) (h2:lo+n<=a0.size) (hu:UpL f lo (arrOf st) n):∃ segs run y9,(arrOf st).toList=segs.flatten++(run++y9)/\segs.flatten.length=lo/\ym f 0 segs (pendingOf st).toList/\SdK f run/\run.length=n:=by
 obtain ⟨segs,y9,g1,g2,g3⟩:=h.segs
 have hz:(arrOf st).size=a0.size:=hv.size.trans h.size
 have hz0:=h.size
 have e1:(arrOf st).toList.take lo=segs.flatten:=by
  have:(arrOf st).toList.take lo=(arrOf st0).toList.take lo:=by
   apply List.ext_getElem?
   intro i
   rw [List.getElem?_take,List.getElem?_take]
   split
   ·rename_i hi
    rw [qk,qk]
    exact hv.pre i hi
   ·rfl
  rw [this,g1,<- g2,List.take_left]
 have hl:(arrOf st).toList.length=a0.size:=by rw [Array.length_toList];exact hz
 refine ⟨segs,((arrOf st).toList.drop lo).take n,((arrOf st).toList.drop lo).drop n,?_,g2,by rw [hv.pend];exact g3,?_,by simp;omega⟩
 ·rw [qD n,<- e1,qD]
 ·refine qM.mpr fun i j hi hj hij=>?_
  have hi':i<n:=by simp at hi;omega
  have hj':j<n:=by simp at hj;omega
  have:=hu i j (by omega) hj'
  have ed:(arrOf st).toList=segs.flatten++(((arrOf st).toList.drop lo).take n++((arrOf st).toList.drop lo).drop n):=by rw [qD n,<- e1,qD]
  subst g2
  rw [qd1 ed hi,qd1 ed hj] at this
  exact this
theorem RI.push {a0:Array Keyed}{lo n:Nat}{st:SortSt}(hk:PyProof.Rows.kindOf st=kd) (hf:failedOf st=none) (hp:(arrOf st).Perm a0) {segs:List (List Keyed)}{run y9:List Keyed}(g1:(arrOf st).toList=segs.flatten++(run++y9)) (g2:segs.flatten.length=lo) (g3:ym f 0 segs (pendingOf st).toList) (g4:SdK f run) (g5:run.length=n) (h1:1<=n) :
  RI f kd a0 (lo+n) (setPending st ((pendingOf st).push (lo,n,0))):=by
 refine ⟨hk,hf,hp,segs++[run],y9,by rw [show arrOf (setPending st ((pendingOf st).push (lo,n,0)))=arrOf st from rfl,g1];simp,by simp only [List.flatten_append,List.length_append,List.flatten_cons,List.flatten_nil,List.append_nil,g2,g5],?_⟩
 have:=g3.snoc (pw:=0) g4 (fun e=>by subst e;simp at g5;omega)
 rw [show (pendingOf (setPending st ((pendingOf st).push (lo,n,0)))).toList=(pendingOf st).toList++[(lo,n,0)] from Array.toList_push ..]
 rw [Nat.zero_add,g2,g5] at this
 exact this
theorem qaR (hA:Ask prog w A E s kd D f) (O:OrdK f) {a0:Array Keyed}(hk:PyProof.Rows.kindOf st=kd) (hf:failedOf st=none) (ha:arrOf st=a0) (hp0:pendingOf st=#[]) (hD:∀ x∈a0.toList,D x) (h2:2<=a0.size) {Q:Unit->SortSt->Prop}
  (q:∀ st',(arrOf st').Perm a0->failedOf st'=none->SdK f (arrOf st').toList->Q () st'):wpS (model prog w) A E s sortRuns' Q st:=by
 have hAll:∀ st',(arrOf st').Perm a0->qcG D st':=fun st' h x hx=>hD x ((yI.mp h).mem_iff.mp hx)
 rw [sortRuns'_eq]
 refine qf (wpS_get ?_)
 dsimp only
 rw [ha]
 generalize minRun' a0.size a0.size 0=minrun
 refine qf (jc (yg
  (I:=fun x c st'=>∃ lo,c=(none,lo)/\x<=lo/\lo<=a0.size/\RI f kd a0 lo st')
  (Q:=fun c st'=>c=(none,a0.size)/\RI f kd a0 a0.size st') ?step ?fin ⟨0,rfl,qj _,qZ _,hk,hf,ha ▸ Array.Perm.refl _,[],a0.toList,by rw [ha];rfl,rfl,by rw [hp0];trivial⟩) ?post)
 case fin =>
  rintro c st' ⟨lo,rfl,g1,g2,g3⟩
  have:lo=a0.size:=by omega
  subst this
  exact ⟨rfl,g3⟩
 case step =>
  rintro x c st' _ hx ⟨lo,rfl,g1,g2,g3⟩
  dsimp only
  by_cases hge:lo ≥ a0.size
  ·rw [if_pos hge]
   have:lo=a0.size:=by omega
   subst this
   exact qo ⟨rfl,g3⟩
  ·rw [if_neg hge]
   have hz:=g3.size
   refine qf (qaS hA O g3.kind (hAll _ g3.perm) (by omega) (by omega) fun n st1 hv h1 hn hu=>?_)
   dsimp only
   -- with a run of n,merge and push
   have next:∀ (n:Nat) (st1:SortSt),SV lo st' st1->1<=n->lo+n<=a0.size->UpL f lo (arrOf st1) n->∃ segs run y9,PyProof.Rows.kindOf st1=kd/\failedOf st1=none/\(arrOf st1).Perm a0/\(arrOf st1).toList=segs.flatten++(run++y9)/\segs.flatten.length=lo/\ym f 0 segs (pendingOf st1).toList/\SdK f run/\run.length=n:=fun n st1 hv h1 hn hu=>by
    obtain ⟨segs,run,y9,e⟩:=g3.run hv h1 hn hu
    exact ⟨segs,run,y9,hv.kind.trans g3.kind,hv.fail.trans g3.fail,hv.perm.trans g3.perm,e⟩
   by_cases hlt:n<minrun
   ·rw [if_pos hlt]
    refine qf (wpS_lift (wpAny_rule ⟨rfl,?_⟩))
    have hz1:=hv.size
    refine qf (qcg (n:=min (a0.size - lo) minrun) (ok:=n) hA O (hv.kind.trans g3.kind) (hAll _ (hv.perm.trans g3.perm)) (by omega) (by omega) hu fun st2 hv2 hu2=>?_)
    simp only [Bool.not_true,Bool.false_eq_true,if_false]
    obtain ⟨segs,run,y9,b1,b2,b3,b4,b5,b6,b7,b8⟩:=next (min (a0.size - lo) minrun) st2 (hv.trans hv2) (by omega) (by omega) hu2
    have hnn:1<=min (a0.size - lo) minrun/\min (a0.size - lo) minrun<=a0.size - lo:=by omega
    generalize min (a0.size - lo) minrun=n at *
    have hn1:1<=n:=by omega
    refine qf (wpS_get ?_)
    cases hb:(pendingOf st2).back? with
    | none =>
     dsimp only
     exact qf (jz (qo ⟨lo+n,rfl,by omega,by omega,RI.push b1 b2 b3 b4 b5 b6 b7 b8 hn1⟩))
    | some p =>
     obtain ⟨s1,n1,pw1⟩:=p
     dsimp only
     generalize power' a0.size (2 * s1+n1) (2 * s1+n1+n1+n) a0.size=pw
     refine qf (jc (yg (I:=fun _ c sx=>c=(none,())/\∃ segs,PyProof.Rows.kindOf sx=kd/\failedOf sx=none/\(arrOf sx).Perm a0/\(arrOf sx).toList=segs.flatten++(run++y9)/\segs.flatten.length=lo/\ym f 0 segs (pendingOf sx).toList)
      (Q:=fun c sx=>c=(none,())/\∃ segs,PyProof.Rows.kindOf sx=kd/\failedOf sx=none/\(arrOf sx).Perm a0/\(arrOf sx).toList=segs.flatten++(run++y9)/\segs.flatten.length=lo/\ym f 0 segs (pendingOf sx).toList) ?mstep1 ?mfin1 ⟨rfl,segs,b1,b2,b3,b4,b5,b6⟩) ?mpost1)
     case mfin1=>exact fun c sx h=>h
     case mstep1 =>
      rintro y c sx _ _ ⟨rfl,segs,d1,d2,d3,d4,d5,d6⟩
      refine qf (wpS_get ?_)
      by_cases hs:(pendingOf sx).size > 1
      ·rw [if_pos hs]
       have e:(pendingOf sx)[(pendingOf sx).size - 2]?=some ((pendingOf sx)[(pendingOf sx).size - 2]):=jw (by omega)
       rw [e]
       generalize (pendingOf sx)[(pendingOf sx).size - 2]=t
       obtain ⟨t1,t2,t3⟩:=t
       dsimp only
       split
       ·exact qo ⟨rfl,segs,d1,d2,d3,d4,d5,d6⟩
       ·refine qf (J8 hA O d1 (hAll _ d3) d2 d4 d6 (by omega) fun st4 segs' z1 z2 z3 z4 z5 z6 z7=>?_)
        simp only [Bool.not_true,Bool.false_eq_true,if_false]
        exact qo ⟨rfl,segs',z1,z2,z3.trans d3,z4,z5.trans d5,z6⟩
      ·rw [if_neg hs]
       exact qo ⟨rfl,segs,d1,d2,d3,d4,d5,d6⟩
     case mpost1 =>
      rintro c sx ⟨rfl,segs,d1,d2,d3,d4,d5,d6⟩
      dsimp only
      refine qf (jz (qf (jz (qo ⟨lo+n,rfl,by omega,by omega,?_⟩))))
      have d7:ym f 0 segs ((pendingOf sx).modify ((pendingOf sx).size - 1) fun x=>(x.1,x.2.1,pw)).toList:=by
       rw [Array.toList_modify];exact ym.repow (g:=fun x=>(x.1,x.2.1,pw)) (fun p=>⟨rfl,rfl⟩) d6
      exact RI.push (st:=setPending sx ((pendingOf sx).modify ((pendingOf sx).size - 1) fun x=>(x.1,x.2.1,pw))) d1 d2 d3 d4 d5 d7 b7 b8 hn1
   ·rw [if_neg hlt]
    obtain ⟨segs,run,y9,b1,b2,b3,b4,b5,b6,b7,b8⟩:=next n st1 hv h1 (by omega) hu
    have hn1:1<=n:=by omega
    refine qf (wpS_get ?_)
    cases hb:(pendingOf st1).back? with
    | none =>
     dsimp only
     exact qf (jz (qo ⟨lo+n,rfl,by omega,by omega,RI.push b1 b2 b3 b4 b5 b6 b7 b8 hn1⟩))
    | some p =>
     obtain ⟨s1,n1,pw1⟩:=p
     dsimp only
     generalize power' a0.size (2 * s1+n1) (2 * s1+n1+n1+n) a0.size=pw
     refine qf (jc (yg (I:=fun _ c sx=>c=(none,())/\∃ segs,PyProof.Rows.kindOf sx=kd/\failedOf sx=none/\(arrOf sx).Perm a0/\(arrOf sx).toList=segs.flatten++(run++y9)/\segs.flatten.length=lo/\ym f 0 segs (pendingOf sx).toList)
      (Q:=fun c sx=>c=(none,())/\∃ segs,PyProof.Rows.kindOf sx=kd/\failedOf sx=none/\(arrOf sx).Perm a0/\(arrOf sx).toList=segs.flatten++(run++y9)/\segs.flatten.length=lo/\ym f 0 segs (pendingOf sx).toList) ?mstep2 ?mfin2 ⟨rfl,segs,b1,b2,b3,b4,b5,b6⟩) ?mpost1)
     case mfin2=>exact fun c sx h=>h
     case mstep2 =>
      rintro y c sx _ _ ⟨rfl,segs,d1,d2,d3,d4,d5,d6⟩
      refine qf (wpS_get ?_)
      by_cases hs:(pendingOf sx).size > 1
      ·rw [if_pos hs]
       have e:(pendingOf sx)[(pendingOf sx).size - 2]?=some ((pendingOf sx)[(pendingOf sx).size - 2]):=jw (by omega)
       rw [e]
       generalize (pendingOf sx)[(pendingOf sx).size - 2]=t
       obtain ⟨t1,t2,t3⟩:=t
       dsimp only
       split
       ·exact qo ⟨rfl,segs,d1,d2,d3,d4,d5,d6⟩
       ·refine qf (J8 hA O d1 (hAll _ d3) d2 d4 d6 (by omega) fun st4 segs' z1 z2 z3 z4 z5 z6 z7=>?_)
        simp only [Bool.not_true,Bool.false_eq_true,if_false]
        exact qo ⟨rfl,segs',z1,z2,z3.trans d3,z4,z5.trans d5,z6⟩
      ·rw [if_neg hs]
       exact qo ⟨rfl,segs,d1,d2,d3,d4,d5,d6⟩
     case mpost1 =>
      rintro c sx ⟨rfl,segs,d1,d2,d3,d4,d5,d6⟩
      dsimp only
      refine qf (jz (qf (jz (qo ⟨lo+n,rfl,by omega,by omega,?_⟩))))
      have d7:ym f 0 segs ((pendingOf sx).modify ((pendingOf sx).size - 1) fun x=>(x.1,x.2.1,pw)).toList:=by
       rw [Array.toList_modify];exact ym.repow (g:=fun x=>(x.1,x.2.1,pw)) (fun p=>⟨rfl,rfl⟩) d6
      exact RI.push (st:=setPending sx ((pendingOf sx).modify ((pendingOf sx).size - 1) fun x=>(x.1,x.2.1,pw))) d1 d2 d3 d4 d5 d7 b7 b8 hn1
 case post =>
  rintro c st' ⟨rfl,g3⟩
  dsimp only
  refine qf (jc (yg (I:=fun x c sx=>c=(none,())/\RI f kd a0 a0.size sx/\(pendingOf sx).size+x<=a0.size+1)
   (Q:=fun c sx=>c=(none,())/\RI f kd a0 a0.size sx/\(pendingOf sx).size<=1) ?lstep ?lfin ⟨rfl,g3,?linit⟩) ?lpost)
  case linit =>
   obtain ⟨segs,y9,e1,e2,e3⟩:=g3.segs
   have:=e3.flat_pos
   rw [Array.length_toList] at this
   omega
  case lfin =>
   rintro c sx ⟨rfl,h,h'⟩
   exact ⟨rfl,h,by omega⟩
  case lstep =>
   rintro x c sx _ _ ⟨rfl,h,h'⟩
   refine qf (wpS_get ?_)
   by_cases hs:(pendingOf sx).size<=1
   ·rw [if_pos hs]
    exact qo ⟨rfl,h,hs⟩
   ·rw [if_neg hs]
    obtain ⟨segs,y9,e1,e2,e3⟩:=h.segs
    have go:∀ i,i+1<(pendingOf sx).size->wpS (model prog w) A E s (mergeAt' i) (fun r st4=>r=true/\RI f kd a0 a0.size st4/\(pendingOf st4).size+1=(pendingOf sx).size) sx:=fun i hi =>
     J8 hA O h.kind (hAll _ h.perm) h.fail e1 e3 hi fun st4 segs' z1 z2 z3 z4 z5 z6 z7=>⟨rfl,⟨z1,z2,z3.trans h.perm,segs',y9,z4,z5.trans e2,z6⟩,z7⟩
    refine qf (jc (go _ ?_) fun r st4 hr=>?_)
    ·have two:∀ (c:Prop) [Decidable c] (a b z:Nat),a+1<z->b+1<z->(if c then a else b)+1<z:=fun c _ a b z h1 h2=>by split <;> assumption
     exact two _ _ _ _ (by omega) (by omega)
    ·obtain ⟨rfl,h4,h5⟩:=hr
     simp only [Bool.not_true,Bool.false_eq_true,if_false]
     exact qo ⟨rfl,h4,by omega⟩
  case lpost =>
   rintro c sx ⟨rfl,h,h'⟩
   dsimp only
   obtain ⟨segs,y9,e1,e2,e3⟩:=h.segs
   refine qo (q sx h.perm h.fail ?_)
   have hl:=e3.len
   rw [Array.length_toList] at hl
   have hz:=h.size
   match segs,hl,e1,e2,e3 with
   | [],_,_,e2,_=>simp at e2;omega
   | [Z],_,e1,e2,e3 =>
    have e1l:=congrArg List.length e1
    rw [List.length_append,Array.length_toList,e2,hz] at e1l
    have:y9=[]:=List.eq_nil_of_length_eq_zero (by omega)
    rw [e1,this,List.append_nil]
    match (pendingOf sx).toList,e3 with
    | [p],e3=>simpa using e3.2.2.1
   | _::_::_,hl,_,_,_=>simp at hl;omega
end
end L2
namespace L2
open PySem PySem.Spec PyProof.Rows PySem.W
def qcd (vs:List Value) (p:Array Nat):List Value:=p.toList.map fun i=>vs.getD i Value.none
def ltK (kss:List (List Int)):Nat->Nat->Bool:=fun i j=>decide (kss.getD i []<kss.getD j [])
theorem jG {h:Heap}:∀ {vs:List Value}{kss:List (List Int)},PySem.Paired (ju h) vs kss->∀ i,i<vs.length->ju h (vs.getD i Value.none) (kss.getD i [])
 | _,_,.nil,i,z=>by simp at z
 | _,_,.cons r t,0,_=>r
 | _,_,.cons r t,i+1,z=>jG t i (by simpa using z)
theorem Z4 {vs:List Value}{p:Array Nat}(hp:Arr vs.length p):(qcd vs p).length=vs.length:=by
 unfold qcd
 rw [List.length_map,Array.length_toList,hp.size]
section
variable {prog:Program}{w:World}{A:Around}{E:Value->Shared->Prop}{s:Shared}
theorem Y5:∀ {vs:List Value}{a b:List Int},IntsAre vs a->IntsAre vs b->a=b
 | _,_,_,.nil,.nil=>rfl
 | _,_,_,.cons _ _ h,.cons _ _ g=>by rw [Y5 h g]
open Classical in
noncomputable def kf (h:Heap) (v:Value):List Int:=epsilon fun ks=>ju h v ks
theorem qiG {h:Heap}{v:Value}{ks:List Int}(t:ju h v ks):kf h v=ks:=by
 have t2:=Classical.epsilon_spec (p:=fun ks=>ju h v ks) ⟨ks,t⟩
 obtain ⟨a,o,xs,n,rfl,ho,_,hd,hi,_⟩:=t
 obtain ⟨a',o',xs',n',e,ho',_,hd',hi',_⟩:=t2
 cases e
 rw [ho] at ho'
 cases ho'
 rw [hd] at hd'
 cases hd'
 exact Y5 hi' hi
noncomputable def kfF (h:Heap):Keyed->Keyed->Bool:=fun x y=>decide (kf h x.1<kf h y.1)
theorem qkU (h:Heap):OrdK (kfF h) where
 asym a b h:=yB (qbV (qy h))
 neg a b c h1:=by
  have h1:=qy h1
  by_cases e:kf h a.1<kf h b.1
  ·exact .inl (qm e)
  ·exact .inr (qm (List.lt_of_le_of_lt (List.not_lt.mp e) h1))
theorem qgb:Ask prog w A E s (tuples' true) (fun x=>∃ ks,ju s.heap x.1 ks) (kfF s.heap):=by
 intro x y st Q ⟨k1,t1⟩ ⟨k2,t2⟩ hk q
 rw [lt'_eq]
 refine qf (wpS_get ?_)
 rw [hk]
 refine qf (wpS_lift (wpAny_attempt (lt_wp t1 t2 ⟨rfl,?_⟩)))
 unfold kfF at q
 rw [qiG t1,qiG t2] at q
 exact qo q
theorem qft {α β:Type}(g:β->α) {xs ys:List α}(h:xs.Perm ys):∀ {l:List β},ys=l.map g->∃ l':List β,l'.Perm l/\xs=l'.map g:=by
 induction h with
 | nil =>
  intro l e
  exact ⟨l,List.Perm.refl _,e⟩
 | cons x p ih =>
  intro l e
  cases l with
  | nil=>cases e
  | cons b l =>
   rw [List.map_cons] at e
   obtain ⟨e1,e2⟩:=List.cons.inj e
   obtain ⟨l',p',e'⟩:=ih e2
   exact ⟨b::l',p'.cons b,by rw [List.map_cons,e',e1]⟩
 | swap x y l0 =>
  intro l e
  match l,e with
  | b::c::l,e =>
   simp only [List.map_cons,List.cons.injEq] at e
   obtain ⟨e1,e2,e3⟩:=e
   exact ⟨c::b::l,List.Perm.swap _ _ _,by simp [e1,e2,e3]⟩
 | trans p1 p2 ih1 ih2 =>
  intro l e
  obtain ⟨l',q1,e1⟩:=ih2 e
  obtain ⟨l'',q2,e2⟩:=ih1 e1
  exact ⟨l'',q2.trans q1,e2⟩
theorem qfu {h:Heap}{vs:List Value}{kss:List (List Int)}(hT:PySem.Paired (ju h) vs kss) {xs:Array Keyed}(hp:xs.Perm (pairsOf vs)) (hs:SdK (kfF h) xs.toList):∃ p,Arr vs.length p/\qcC (ltK kss) p vs.length/\xs=p.map (kas_item (pairsOf vs)):=by
 have y:=kas_range (pairsOf vs)
 rw [pairsOf_size] at y
 have hp:=yI.mp hp
 rw [<- y,Array.toList_map] at hp
 obtain ⟨l,p1,e⟩:=qft _ hp rfl
 have p1:l.Perm (List.range vs.length):=by simpa using p1
 have hl:l.length=vs.length:=by rw [p1.length_eq,yv]
 refine ⟨l.toArray,yI.mpr (by simpa using p1),fun i j hij hj=>?_,Array.toList_inj.mp (by rw [e,Array.toList_map])⟩
 have gi:∀ i (hi:i<l.length),gD l.toArray i=l[i]:=fun i hi=>by simp [gD,Array.getD,hi]
 rw [gi i (by omega),gi j (by omega)]
 have lt:∀ i (hi:i<l.length),l[i]<vs.length:=fun i hi=>List.mem_range.mp (p1.mem_iff.mp (qU hi))
 have key:∀ i (hi:i<l.length),kf h ((kas_item (pairsOf vs) l[i]).1)=kss.getD l[i] []:=fun i hi=>by
  rw [kas_item_eq]
  exact qiG (jG hT _ (lt i hi))
 by_cases c:i=j
 ·subst c
  exact (qdS fun i=>kss.getD i []).irr _
 ·rw [e] at hs
  have:=qM.mp hs i j (by simp;omega) (by simp;omega) (by omega)
  simp only [List.getElem_map] at this
  unfold kfF at this
  rw [key i (by omega),key j (by omega)] at this
  exact this
theorem qc1 {a:Addr}{vs:List Value}{kss:List (List Int)}{n:Nat}{P:PySem.Fin->Shared->Prop}(ho:s.heap.get? a=some (seqObj "list" vs.toArray n)) (hT:PySem.Paired (ju s.heap) vs kss) (h64:vs.length<4915)
  (h:∀ p,Arr vs.length p->qcC (ltK kss) p vs.length->P (.done (.ret .none)) { s with heap:=sortedHeap s.heap a vs (qcd vs p).toArray }) :
  wpAny (model prog w) A (Builtin.«list.sort» ⟨[.ref a],[]⟩) P E s:=by
 rw [list_sort_plain]
 have hlt:a<s.heap.objs.size:=qi ho
 have hn64:vs.length<=sizeLine:=by rw [sizeLine_eq];omega
 refine qb (listItems_at ho rfl (qb (listUpdate_at ho rfl ?_ (by rw [List.size_toArray];exact hn64) (qZ _))))
 obtain ⟨ep,hc⟩:∃ ep,(s.heap.update a (Obj.mapSeq fun _=>(#[]:Array Value))).get? a=some (seqObj "list" #[] ep):=⟨_,get?_update_seq ho fun _=>#[]⟩
 refine qb (seqEpoch_at hc rfl (qb (wpAny_newTuple (qb (wpAny_newList (yq ?_) (qZ _))) (by show vs.length<=_;exact hn64))))
 generalize hh:((s.heap.update a (Obj.mapSeq fun _=>(#[]:Array Value))).push (seqObj "tuple" vs.toArray 0)).push (seqObj "list" #[] 0)=h6
 have at6:h6.get? a=some (seqObj "list" #[] ep):=by
  rw [<- hh]
  exact qc _ (qc _ hc)
 have old6:∀ b o,s.heap.get? b=some o->b≠a->h6.get? b=some o:=fun b o e ne=>by
  rw [<- hh]
  refine qc _ (qc _ ?_)
  rw [Heap.get?_update_ne _ _ _ _ ne]
  exact e
 have hT6:PySem.Paired (ju h6) vs kss:=Paired.mapP hT fun v ks t=>t.kept fun b o e hcl=>old6 b o e fun z=>by
  subst z
  rw [ho] at e
  cases e
  exact absurd (show Value.type "list" = Value.type "tuple" from hcl) (by decide)
 have fin6:∀ p,Arr vs.length p->qcC (ltK kss) p vs.length->P (.done (.ret .none)) { s with heap:=h6.update a (Obj.mapSeq fun _=>(qcd vs p).toArray) }:=fun p hp hs=>by
  have:=h p hp hs
  unfold sortedHeap at this
  rw [hh] at this
  exact this
 show wpAny (model prog w) A _ P E { s with heap:=h6 }
 dsimp only
 have sz:vs.toArray.size=vs.length:=List.size_toArray ..
 have zipE:vs.toArray.zip vs.toArray=pairsOf vs:=rfl
 have snd:∀ p,((p.map (kas_item (pairsOf vs))).map (·.2))=(qcd vs p).toArray:=fun p=>by
  apply Array.toList_inj.mp
  simp only [Array.toList_map,List.map_map,qcd]
  exact List.map_congr_left fun i _=>by simp [kas_item_eq]
 by_cases c2:vs.toArray.size<2
 ·rw [if_pos c2,if_pos c2]
  refine qb (qe ?_)
  rw [StateT.run_pure]
  refine qb (qe ?_)
  dsimp only
  have e0:((vs.toArray.zip vs.toArray).map (·.2))=(qcd vs (List.range vs.length).toArray).toArray:=by
   have z:=snd (List.range vs.length).toArray
   have y:=kas_range (pairsOf vs)
   rw [pairsOf_size] at y
   rw [<- z,y,zipE]
  refine qb (seqEpoch_at at6 rfl (qb (listUpdate_at at6 rfl ?_ (qZ _) ?_)))
  ·simp only [bne_self_eq_false,Bool.false_eq_true,if_false]
   refine qe ?_
   have f0:=fin6 (List.range vs.length).toArray (Array.Perm.refl _) fun i j hij hj=>by
    have:i=j:=by rw [sz] at c2;omega
    subst this
    exact (qdS fun i=>kss.getD i []).irr _
   rw [<- e0] at f0
   exact f0
  ·show ((vs.toArray.zip vs.toArray).map (·.2)).size<=_
   rw [e0,List.size_toArray,Z4 (Array.Perm.refl _)]
   omega
 ·rw [if_neg c2,if_neg c2]
  refine qb (qiF (s:={ s with heap:=h6 }) hT6 (by rw [sz] at c2;omega) ?_)
  have hD6:∀ x∈(pairsOf vs).toList,∃ ks,ju h6 x.1 ks:=fun x hx=>by
   have y:=kas_range (pairsOf vs)
   rw [pairsOf_size] at y
   rw [<- y,Array.toList_map] at hx
   obtain ⟨i,hi,rfl⟩:=qG.mp hx
   rw [kas_item_eq]
   exact ⟨_,jG hT6 i (by simpa using hi)⟩
  have run:=qaR (prog:=prog) (w:=w) (A:=A) (E:=E) (s:={ s with heap:=h6 }) (st:=SortSt.mk' (tuples' true) (pairsOf vs) #[] 7 none) (a0:=pairsOf vs)
   (Q:=fun _ st'=>∃ p,Arr vs.length p/\qcC (ltK kss) p vs.length/\arrOf st'=p.map (kas_item (pairsOf vs))/\failedOf st'=none)
   (qgb (s:={ s with heap:=h6 })) (qkU h6) rfl rfl rfl rfl hD6 (by rw [pairsOf_size];rw [sz] at c2;omega) (fun st' hp hf hs=>by
    obtain ⟨p,p1,p2,p3⟩:=qfu hT6 hp hs
    exact ⟨p,p1,p2,p3,hf⟩)
  refine qb (yS (show wpAny (model prog w) A (sortRuns'.run _) _ E _ from run) ?_ fun _ _ e=>e)
  rintro ⟨⟨⟩,st'⟩ s' ⟨rfl,p,hp,hs,e1,e2⟩
  dsimp only
  refine qb (seqEpoch_at at6 rfl (qb (listUpdate_at at6 rfl ?_ (qZ _) ?_)))
  ·rw [e2]
   simp only [bne_self_eq_false,Bool.false_eq_true,if_false]
   refine qe ?_
   rw [e1,snd p]
   exact fin6 p hp hs
  ·show ((arrOf st').map (·.2)).size<=_
   rw [e1,snd p,List.size_toArray,Z4 hp]
   omega
end
end L2
namespace L2
open PySem PySem.Spec PyProof.Rows PySem.W
abbrev j7 (h h':Heap):Prop:=∀ b o,h.get? b=some o->h'.get? b=some o
section
variable {prog:Program}{w:World}{A:Around}{E:Value->Shared->Prop}{s:Shared}
def qlM (s:Shared) (R:List Value->List (List Int)->Prop) (vs:List Value) (s1:Shared):Prop :=
 ∃ h1 tk kss,s1={ s with heap:=h1,toks:=tk }/\j7 s.heap h1/\PySem.Paired (ju h1) vs kss/\vs.length<4915/\R vs kss
theorem qc0 {x:Value}{R:List Value->List (List Int)->Prop}{Q:Value->Shared->Prop}(hcol:∀ E',wpAny (model prog w) A.in1 (collect x) (qlM s R) E' s)
  (h:∀ vs kss p h' tk D e,R vs kss->Arr vs.length p->qcC (ltK kss) p vs.length->PySem.Paired (ju h') vs kss->vs.length<4915->j7 s.heap h'->s.heap.get? D=none->h'.get? D=some (seqObj "list" (qcd vs p).toArray e)->Q (.ref D) { s with heap:=h',toks:=tk }) :
  wpAny (model prog w) A (call (.builtin "sorted") [x]) Q E s:=by
 refine Calls.call_function_entry kind_sorted plain_sorted entry_sorted (args_sorted1 _) ?_
 unfold Builtin.«sorted»
 refine qb (m:=checkCount "sorted" 1 1 _) (qe (qb ?_))
 refine yS (hcol _) (fun vs s1 ⟨h1,tk,kss,e1,kp,hT,h64,hR⟩=>?_) fun _ _ z=>z
 subst e1
 have hn64:vs.length<=sizeLine:=by rw [sizeLine_eq];omega
 refine qb (wpAny_newList ?_ hn64)
 have hD:(h1.push (seqObj "list" vs.toArray 0)).get? h1.objs.size=some (seqObj "list" vs.toArray 0):=qC _ rfl
 have hT2:PySem.Paired (ju (h1.push (seqObj "list" vs.toArray 0))) vs kss:=Paired.mapP hT fun v ks t=>t.kept fun b o e _=>qc _ e
 refine qb (yq (wpAny_call_entry slot_list_sort ⟨_,hD,rfl⟩ entry_list_sort (qc1 (s:={ s with heap:=h1.push (seqObj "list" vs.toArray 0),toks:=tk }) hD hT2 h64 fun p hp hs=>⟨_,rfl,?_⟩) (args_list_sort _)))
 obtain ⟨e,he⟩:=sortedHeap_at (vs:=vs) (out:=(qcd vs p).toArray) hD
 have kp2:j7 h1 (sortedHeap (h1.push (seqObj "list" vs.toArray 0)) h1.objs.size vs (qcd vs p).toArray):=fun b o q1=>by
  have hlt:b<h1.objs.size:=qi q1
  rw [sortedHeap_old (qz hlt) (by rw [size_push'];exact Nat.lt_succ_of_lt hlt)]
  exact qc _ q1
 refine qe ⟨_,rfl,h vs kss p _ tk h1.objs.size e hR hp hs (Paired.mapP hT fun v ks t=>t.kept fun b o e _=>kp2 b o e) h64 (fun b o q=>kp2 b o (kp b o q)) ?_ he⟩
 ·cases z:s.heap.get? h1.objs.size with
  | none=>rfl
  | some o =>
   have:=qi (kp _ _ z)
   exact absurd this (jo _)
end
end L2
namespace L2
open PySem PySem.SetTable
def adv (m:Nat) (p:Probe):Probe :=
 if p.more > 0 then { p with j:=p.j+1,more:=p.more - 1 } else
 { p with j:=(leap m p.i p.perturb).1,more:=runEnd m (leap m p.i p.perturb).1 - (leap m p.i p.perturb).1,i:=(leap m p.i p.perturb).1,perturb:=(leap m p.i p.perturb).2 }
theorem qcB (t:SetTable) (p:Probe):t.advance p=adv t.mask p:=rfl
def at0 (m i e:Nat):Probe:={ j:=i,more:=runEnd m i - i,i:=i,perturb:=e,dummy:=none }
def stp (m:Nat) (h:Int):Nat->Probe
 | 0=>at0 m (bits h % (m+1)) (bits h)
 | k+1=>adv m (stp m h k)
theorem qe8 (t:SetTable) (h:Int):t.probeStart h=stp t.mask h 0:=rfl
theorem qad (m:Nat) (h:Int):∀ k,(stp m h k).dummy=none
 | 0=>rfl
 | k+1=>by
  have:=qad m h k
  simp only [stp,adv]
  split <;> simpa using this
def lp (m:Nat) (h:Int):Nat->Nat×Nat
 | 0=>(bits h % (m+1),bits h)
 | L+1=>leap m (lp m h L).1 (lp m h L).2
theorem qdf {m:Nat}{h:Int}{k i e:Nat}(h0:stp m h k=at0 m i e):∀ r,r<=runEnd m i - i->stp m h (k+r)={ j:=i+r,more:=runEnd m i - i - r,i:=i,perturb:=e,dummy:=none }
 | 0,_=>h0
 | r+1,hr=>by
  have ih:=qdf h0 r (by omega)
  show adv m (stp m h (k+r))=_
  rw [ih]
  unfold adv
  rw [if_pos (show runEnd m i - i - r > 0 by omega)]
  simp only [Probe.mk.injEq,true_and,and_true]
  omega
theorem qgP {m:Nat}{h:Int}{k i e:Nat}(h0:stp m h k=at0 m i e):stp m h (k+(runEnd m i - i)+1)=at0 m (leap m i e).1 (leap m i e).2:=by
 have ih:=qdf h0 (runEnd m i - i) (qj _)
 show adv m (stp m h (k+(runEnd m i - i)))=_
 rw [ih]
 unfold adv
 rw [if_neg (show ¬ runEnd m i - i - (runEnd m i - i) > 0 by omega)]
 rfl
theorem qhY (m i:Nat):runEnd m i - i<=9:=by unfold runEnd;split <;> omega
theorem qgQ (m:Nat) (h:Int):∀ L,∃ k,k<=10 * L/\stp m h k=at0 m (lp m h L).1 (lp m h L).2
 | 0=>⟨0,qj _,rfl⟩
 | L+1=>by
  obtain ⟨k,hk,e⟩:=qgQ m h L
  have:=qhY m (lp m h L).1
  exact ⟨_,by omega,qgP e⟩
def lcg (M i:Nat):Nat:=(i * 5+1) % M
def itn (M:Nat):Nat->Nat->Nat
 | 0,i=>i
 | n+1,i=>lcg M (itn M n i)
theorem ZN (M:Nat) (i:Nat):∀ a b,itn M (b+a) i=itn M b (itn M a i)
 | a,0=>by rw [Nat.zero_add];rfl
 | a,b+1=>by
  rw [show b+1+a=(b+a)+1 by omega]
  show lcg M (itn M (b+a) i)=lcg M (itn M b (itn M a i))
  rw [ZN M i a b]
structure Full (m:Nat):Prop where
 all:∀ q,q<=m->∃ b,b<=m/\itn (m+1) b 0=q
 back:itn (m+1) (m+1) 0=0
theorem Full.go {m:Nat}(F:Full m) {i q:Nat}(hi:i<=m) (hq:q<=m):∃ b,b<=m/\itn (m+1) b i=q:=by
 obtain ⟨x,hx,rfl⟩:=F.all i hi
 obtain ⟨y,hy,rfl⟩:=F.all q hq
 by_cases c:x<=y
 ·exact ⟨y - x,by omega,by rw [<- ZN,show y - x+x=y by omega]⟩
 ·refine ⟨y+(m+1) - x,by omega,?_⟩
  rw [<- ZN,show y+(m+1) - x+x=y+(m+1) by omega,ZN,F.back]
theorem qdU (m:Nat) (h:Int):∀ L,(lp m h L).2=bits h / 32 ^ L
 | 0=>by simp [lp]
 | L+1=>by
  show (lp m h L).2 / 32=_
  rw [qdU m h L,Nat.div_div_eq_div_mul,Nat.pow_succ]
theorem qjd (h:Int):bits h<18446744073709551616:=by
 unfold bits
 have:=Int.emod_lt_of_pos h (show (0:Int)<2 ^ 64 by decide)
 have:=Int.emod_nonneg h (show (2 ^ 64:Int)≠0 by decide)
 omega
theorem lp_le (m:Nat) (h:Int):∀ L,(lp m h L).1<=m
 | 0=>by
  have:=yp (bits h) (show 0<m+1 by omega)
  show bits h % (m+1)<=m
  omega
 | L+1=>by
  show ((lp m h L).1 * 5+1+(lp m h L).2 / 32) % (m+1)<=m
  have:=yp ((lp m h L).1 * 5+1+(lp m h L).2 / 32) (show 0<m+1 by omega)
  omega
theorem qdV (m:Nat) (h:Int):∀ b,(lp m h (12+b)).1=itn (m+1) b (lp m h 12).1
 | 0=>rfl
 | b+1=>by
  have ih:=qdV m h b
  show ((lp m h (12+b)).1 * 5+1+(lp m h (12+b)).2 / 32) % (m+1)=lcg (m+1) (itn (m+1) b (lp m h 12).1)
  rw [<- ih]
  have hb:=qjd h
  have z:(lp m h (12+b)).2 / 32=0:=by
   rw [qdU,Nat.div_div_eq_div_mul]
   apply Nat.div_eq_of_lt
   have:(32:Nat) ^ (12+b)=32 ^ 12 * 32 ^ b:=Nat.pow_add ..
   rw [this]
   have p1:1<=32 ^ b:=Nat.one_le_pow _ _ (by decide)
   have:(32:Nat) ^ 12 * 1<=32 ^ 12 * 32 ^ b:=Nat.mul_le_mul_left _ p1
   have e12:(32:Nat) ^ 12=1152921504606846976:=by decide
   omega
  rw [z]
  rfl
theorem Full.lp {m:Nat}(F:Full m) (h:Int) {q:Nat}(hq:q<=m):∃ L,L<=m+12/\(lp m h L).1=q:=by
 obtain ⟨b,hb,e⟩:=F.go (lp_le m h 12) hq
 exact ⟨12+b,by omega,by rw [qdV,e]⟩
theorem Full.walk {m:Nat}(F:Full m) (h:Int) {q:Nat}(hq:q<=m):∃ k,k<=10 * (m+12)/\(stp m h k).j=q:=by
 obtain ⟨L,hL,e⟩:=F.lp h hq
 obtain ⟨k,hk,e2⟩:=qgQ m h L
 exact ⟨k,by omega,by rw [e2];exact e⟩
theorem qgq (m:Nat) (h:Int) (k:Nat):(stp m h k).j<=m:=by
 have key:∀ k,(stp m h k).i<=m/\(stp m h k).j+(stp m h k).more<=m:=by
  intro k
  induction k with
  | zero =>
   have:=yp (bits h) (show 0<m+1 by omega)
   refine ⟨by show bits h % (m+1)<=m;omega,?_⟩
   show bits h % (m+1)+(runEnd m (bits h % (m+1)) - bits h % (m+1))<=m
   unfold runEnd
   split <;> omega
  | succ k ih =>
   obtain ⟨h1,h2⟩:=ih
   show (adv m (stp m h k)).i<=m/\(adv m (stp m h k)).j+(adv m (stp m h k)).more<=m
   unfold adv
   split
   ·exact ⟨h1,by simp only;omega⟩
   ·have:=yp ((stp m h k).i * 5+1+(stp m h k).perturb / 32) (show 0<m+1 by omega)
    have e:(leap m (stp m h k).i (stp m h k).perturb).1=((stp m h k).i * 5+1+(stp m h k).perturb / 32) % (m+1):=rfl
    simp only [e]
    refine ⟨by omega,?_⟩
    unfold runEnd
    split <;> omega
 have:=(key k).2
 omega
def chk (m:Nat):Bool:=(List.range (m+1)).all (fun q=>(List.range (m+1)).any fun b=>itn (m+1) b 0 == q) && itn (m+1) (m+1) 0 == 0
theorem qee {m:Nat}(h:chk m=true):Full m:=by
 unfold chk at h
 rw [Bool.and_eq_true] at h
 obtain ⟨h1,h2⟩:=h
 refine ⟨fun q hq=>?_,by simpa using h2⟩
 have:=List.all_eq_true.mp h1 q (List.mem_range.mpr (by omega))
 obtain ⟨b,hb,e⟩:=List.any_eq_true.mp this
 exact ⟨b,by have:=List.mem_range.mp hb;omega,by simpa using e⟩
theorem full7:Full 7:=qee (by decide +kernel)
theorem qk7:Full 31:=qee (by decide +kernel)
end L2
namespace L2
open PySem PySem.SetTable
def S5:Nat->Nat
 | 0=>0
 | n+1=>5 * S5 n+1
theorem qhx (a b:Nat):S5 (a+b)=5 ^ b * S5 a+S5 b:=by
 induction b with
 | zero=>simp [S5]
 | succ b ih =>
  rw [<- Nat.add_assoc]
  show 5 * S5 (a+b)+1=5 ^ (b+1) * S5 a+(5 * S5 b+1)
  rw [ih,Nat.pow_succ]
  grind
theorem p5 (e:Nat):∃ q,5 ^ e+1=2 * (2 * q+1):=by
 induction e with
 | zero=>exact ⟨0,rfl⟩
 | succ e ih =>
  obtain ⟨q,hq⟩:=ih
  refine ⟨5 * q+1,?_⟩
  rw [Nat.pow_succ]
  omega
theorem qeT (e:Nat):S5 (2 * e)=(5 ^ e+1) * S5 e:=by
 rw [show 2 * e=e+e by omega,qhx]
 grind
theorem qlI (e:Nat):S5 (2 * e+1) % 2=1:=by
 show (5 * S5 (2 * e)+1) % 2=1
 obtain ⟨q,hq⟩:=p5 e
 rw [qeT,hq,Nat.mul_assoc]
 omega
theorem qhw:∀ (k d:Nat),2 ^ k ∣ S5 d->2 ^ k ∣ d
 | 0,d,_=>by simp
 | k+1,d,h=>by
  have hev:d % 2=0:=by
   apply Nat.eq_zero_of_not_pos
   intro z
   have hd:d=2 * (d / 2)+1:=by omega
   have h2:2 ∣ S5 d:=Nat.dvd_trans ⟨2 ^ k,by rw [Nat.pow_succ];omega⟩ h
   rw [hd] at h2
   have:=qlI (d / 2)
   omega
  obtain ⟨e,rfl⟩:∃ e,d=2 * e:=⟨d / 2,by omega⟩
  obtain ⟨q,hq⟩:=p5 e
  rw [qeT,hq,Nat.pow_succ,Nat.mul_comm (2 ^ k),Nat.mul_assoc] at h
  have h3:=Nat.dvd_of_mul_dvd_mul_left (by decide) h
  have co:Nat.Coprime (2 ^ k) (2 * q+1):=Nat.Coprime.pow_left _ (by
   unfold Nat.Coprime
   rw [Nat.gcd_rec]
   simp [Nat.add_mod])
  have h4:=qhw k e (co.dvd_of_dvd_mul_left h3)
  rw [Nat.pow_succ,Nat.mul_comm]
  exact Nat.mul_dvd_mul_left 2 h4
theorem qhv:∀ k,2 ^ k ∣ S5 (2 ^ k)
 | 0=>by simp
 | k+1=>by
  obtain ⟨q,hq⟩:=p5 (2 ^ k)
  rw [Nat.pow_succ,Nat.mul_comm (2 ^ k) 2,qeT,hq,Nat.mul_assoc]
  exact Nat.mul_dvd_mul_left 2 (Nat.dvd_trans (qhv k) (Nat.dvd_mul_left _ _))
theorem qg6 (M:Nat):∀ b,itn M b 0 % M=S5 b % M
 | 0=>rfl
 | b+1=>by
  show (itn M b 0 * 5+1) % M % M=(5 * S5 b+1) % M
  rw [Nat.mod_mod,Nat.add_mod,Nat.mul_mod,qg6 M b,<- Nat.mul_mod,<- Nat.add_mod,Nat.mul_comm]
theorem qg5 {M:Nat}(hM:0<M):∀ b,itn M b 0<M
 | 0=>hM
 | b+1=>yp _ hM
theorem qlJ {k a b:Nat}(hab:a<=b) (hb:b<2 ^ k) (h:S5 a % 2 ^ k=S5 b % 2 ^ k):a=b:=by
 obtain ⟨d,rfl⟩:∃ d,b=d+a:=⟨b - a,by omega⟩
 rw [qhx] at h
 have h1:2 ^ k ∣ 5 ^ a * S5 d:=by
  have:=Nat.sub_mod_eq_zero_of_mod_eq h.symm
  rw [Nat.add_sub_cancel] at this
  exact Nat.dvd_of_mod_eq_zero this
 have co:Nat.Coprime (2 ^ k) (5 ^ a):=Nat.Coprime.pow _ _ (by decide)
 have h2:=qhw k d (co.dvd_of_dvd_mul_left h1)
 have:d=0:=Nat.eq_zero_of_dvd_of_lt h2 (by omega)
 omega
theorem qdO:∀ {n:Nat}{l:List Nat},l.Nodup->(∀ x∈l,x<n)->l.length=n->∀ q,q<n->q∈l:=fun {n l} h1 h2 h3 q hq=>by
 have hp:l.Perm (List.range n):=by
  have sub:∀ (l r:List Nat),l.Nodup->(∀ x∈l,x∈r)->∃ r',(l++r').Perm r:=by
   intro l
   induction l with
   | nil=>exact fun r _ _=>⟨r,List.Perm.refl _⟩
   | cons a l ih =>
    intro r hn hs
    have ha:=hs a ql
    obtain ⟨r',hr'⟩:=ih (r.erase a) (List.nodup_cons.mp hn).2 (fun x hx=>by
     have:x≠a:=fun z=>(List.nodup_cons.mp hn).1 (z ▸ hx)
     exact (List.mem_erase_of_ne this).mpr (hs x (qg _ hx)))
    exact ⟨r',(hr'.cons a).trans (List.perm_cons_erase ha).symm⟩
  obtain ⟨r',hr'⟩:=sub l (List.range n) h1 fun x hx=>List.mem_range.mpr (h2 x hx)
  have:=hr'.length_eq
  rw [List.length_append,yv] at this
  have:r'=[]:=List.eq_nil_of_length_eq_zero (by omega)
  rw [this,List.append_nil] at hr'
  exact hr'
 exact hp.mem_iff.mpr (List.mem_range.mpr hq)
theorem YJ (k m:Nat) (hm:m+1=2 ^ k):Full m:=by
 have hM:0<2 ^ k:=by omega
 have red:∀ b,itn (2 ^ k) b 0=S5 b % 2 ^ k:=fun b=>by
  have:=qg6 (2 ^ k) b
  rwa [qx (qg5 hM b)] at this
 refine ⟨fun q hq=>?_,?_⟩
 ·have hnd:((List.range (2 ^ k)).map fun b=>itn (2 ^ k) b 0).Nodup:=by
   refine List.pairwise_map.mpr (qM.mpr fun i j hi hj hij z=>?_)
   rw [yv] at hi hj
   rw [List.getElem_range,List.getElem_range,red,red] at z
   have:=qlJ (yH hij) hj z
   omega
  have:=qdO hnd (fun x hx=>by
   obtain ⟨b,_,rfl⟩:=qG.mp hx
   exact qg5 hM b) (by simp) q (by omega)
  obtain ⟨b,hb,e⟩:=qG.mp this
  have:=List.mem_range.mp hb
  exact ⟨b,by omega,by rw [hm];exact e⟩
 ·rw [hm,red]
  exact Nat.mod_eq_zero_of_dvd (qhv k)
theorem qiR:Full 127:=YJ 7 127 (by decide)
theorem qiQ:Full 511:=YJ 9 511 (by decide)
theorem qfT:Full 2047:=YJ 11 2047 (by decide)
theorem qfS:Full 8191:=YJ 13 8191 (by decide)
def qhy (xs:Array Nat):Prop:=∀ i j,i<j->j<xs.size->xs.getD i 0<xs.getD j 0
theorem getD_some {xs:Array Nat}{i d:Nat}(h:i<xs.size):xs[i]?=some (xs.getD i d):=by
 simp [Array.getD,h]
theorem ZZ {xs:Array Nat}{j:Nat}(hr:qhy xs):∀ (fu lo hi:Nat),lo<=hi->hi<=xs.size->hi - lo<=fu->(∀ i,i<lo->xs.getD i 0<j)->(∀ i,hi<=i->i<xs.size->j<=xs.getD i 0) →
  (∀ i,i<below.go xs j fu lo hi->xs.getD i 0<j)/\(∀ i,below.go xs j fu lo hi<=i->i<xs.size->j<=xs.getD i 0)/\below.go xs j fu lo hi<=xs.size
 | 0,lo,hi,h1,h2,h3,h4,h5=>by
  have:lo=hi:=by omega
  subst this
  exact ⟨h4,h5,h2⟩
 | fu+1,lo,hi,h1,h2,h3,h4,h5=>by
  unfold below.go
  by_cases c:lo<hi
  ·rw [if_pos c]
   dsimp only
   have hm:(lo+hi) / 2<xs.size:=by omega
   have e:xs.getD ((lo+hi) / 2) j=xs.getD ((lo+hi) / 2) 0:=by simp [Array.getD,hm]
   rw [e]
   by_cases d:xs.getD ((lo+hi) / 2) 0<j
   ·rw [if_pos d]
    refine ZZ hr fu _ hi (by omega) h2 (by omega) (fun i hi'=>?_) h5
    by_cases q:i=(lo+hi) / 2
    ·subst q;exact d
    ·exact Nat.lt_trans (hr i ((lo+hi) / 2) (by omega) hm) d
   ·rw [if_neg d]
    refine ZZ hr fu lo _ (by omega) (by omega) (by omega) h4 fun i hi' hlt=>?_
    by_cases q:i=(lo+hi) / 2
    ·subst q;omega
    ·have:=hr ((lo+hi) / 2) i (by omega) hlt
     omega
  ·rw [if_neg c]
   have:lo=hi:=by omega
   subst this
   exact ⟨h4,h5,h2⟩
theorem Jg {xs:Array Nat}(hr:qhy xs) (j:Nat):(∀ i,i<below xs j->xs.getD i 0<j)/\(∀ i,below xs j<=i->i<xs.size->j<=xs.getD i 0)/\below xs j<=xs.size :=
 ZZ hr xs.size 0 xs.size (qZ _) (qj _) (by omega) (fun i z=>absurd z (by omega)) fun i a b=>absurd b (by omega)
theorem Z3 {xs:Array Nat}(hr:qhy xs) {i j:Nat}(h:xs[i]?=some j):below xs j=i:=by
 obtain ⟨h1,h2,h3⟩:=Jg hr j
 have hi:i<xs.size:=by
  rcases jM i xs.size with z | z
  ·exact z
  ·rw [ye z] at h;cases h
 have e:xs.getD i 0=j:=by
  have:=getD_some (d:=0) hi
  rw [h] at this
  exact (Option.some.inj this).symm
 rcases Nat.lt_trichotomy (below xs j) i with z | z | z
 ·have a:=h2 (below xs j) (qj _) (by omega)
  have b:=hr (below xs j) i z hi
  omega
 ·exact z
 ·have:=h1 i z
  omega
theorem qfk {xs:Array Nat}(hr:qhy xs) {i i' j:Nat}(h:xs[i]?=some j) (h':xs[i']?=some j):i=i':=(Z3 hr h).symm.trans (Z3 hr h')
structure Tab (t:SetTable) (m n:Nat):Prop where
 mask:t.mask=m
 dm:t.dummies=#[]
 size:t.place.size=n
 rise:qhy t.place
 le:∀ i j:Nat,t.place[i]?=some j->j<=m
def Fl (t:SetTable) (j:Nat):Prop:=∃ i:Nat,t.place[i]?=some j
theorem qd8 (j:Nat):has #[] j=false:=by simp [has]
section
variable {t:SetTable}{m n:Nat}
theorem Tab.live (T:Tab t m n) {i j:Nat}(h:t.place[i]?=some j):t.slot j = .live i:=by
 unfold slot
 have e:=Z3 T.rise h
 simp only [e,h,beq_self_eq_true,if_true]
theorem Tab.empty (T:Tab t m n) {j:Nat}(h:¬ Fl t j):t.slot j = .empty:=by
 unfold slot
 have e:(t.place[below t.place j]? == some j)=false:=by
  rw [Bool.eq_false_iff]
  intro z
  exact h ⟨_,by simpa using z⟩
 simp only [e,T.dm,qd8,Bool.false_eq_true,if_false]
theorem Tab.free (T:Tab t m n) (hn:n<=m):∃ q,q<=m/\¬ Fl t q:=by
 refine Classical.byContradiction fun hc=>?_
 have all:∀ q,q<=m->Fl t q:=fun q hq=>Classical.byContradiction fun z=>hc ⟨q,hq,z⟩
 have sub:List.range (m+1) ⊆ t.place.toList:=fun q hq=>by
  obtain ⟨i,e⟩:=all q (by have:=List.mem_range.mp hq;omega)
  exact List.mem_of_getElem? (by rw [qk];exact e)
 have:=List.Nodup.length_le_of_subset List.nodup_range sub
 rw [yv,Array.length_toList,T.size] at this
 omega
theorem Tab.probe_go (T:Tab t m n) {hashAt:Nat->Int}{h:Int}{K:Nat}(hK:¬ Fl t (stp m h K).j):∀ (fu k:Nat),k<=K->K - k<fu →
  ∃ x,k<=x/\x<=K/\(∀ l,k<=l->l<x->∃ i:Nat,t.place[i]?=some (stp m h l).j/\hashAt i≠h) ∧
   ((¬ Fl t (stp m h x).j/\probe.go t hashAt h fu (stp m h k)=some (.empty (stp m h x).j none)) ∨
    ∃ i:Nat,t.place[i]?=some (stp m h x).j/\hashAt i=h/\probe.go t hashAt h fu (stp m h k)=some (.candidate (stp m h x).j i (stp m h (x+1))))
 | 0,k,_,z=>absurd z (by omega)
 | fu+1,k,hk,hf=>by
  unfold probe.go
  by_cases c:Fl t (stp m h k).j
  ·obtain ⟨i,e⟩:=id c
   rw [T.live e]
   dsimp only
   have adv1:t.advance (stp m h k)=stp m h (k+1):=by rw [qcB,T.mask];rfl
   by_cases d:hashAt i=h
   ·refine ⟨k,qj _,hk,fun l a b=>absurd b (by omega),.inr ⟨i,e,d,?_⟩⟩
    rw [if_pos (by rw [d];exact beq_self_eq_true _),adv1]
   ·rw [if_neg (by simpa using d),adv1]
    have hne:k≠K:=fun z=>hK (z ▸ c)
    obtain ⟨x,x1,x2,x3,x4⟩:=T.probe_go hK fu (k+1) (by omega) (by omega)
    refine ⟨x,by omega,x2,fun l a b=>?_,x4⟩
    by_cases q:l=k
    ·subst q;exact ⟨i,e,d⟩
    ·exact x3 l (by omega) b
  ·rw [T.empty c]
   dsimp only
   exact ⟨k,qj _,hk,fun l a b=>absurd b (by omega),.inl ⟨c,by rw [qad]⟩⟩
end
theorem yX {α:Type}{xs:Array α}{p:Nat}{x:α}(hp:p<=xs.size) (i:Nat):(insertAt xs p x)[i]?=if i<p then xs[i]? else if i=p then some x else xs[i - 1]?:=by
 unfold insertAt
 have s1:((xs.extract 0 p).push x).size=p+1:=by simp [Array.size_push,Array.size_extract];omega
 have s0:(xs.extract 0 p).size=p:=by simp [Array.size_extract];omega
 rw [Array.getElem?_append,s1]
 by_cases c:i<p
 ·rw [if_pos (by omega),if_pos c,Array.getElem?_push,s0,if_neg (by omega),Array.getElem?_extract,if_pos (by omega),Nat.zero_add]
 ·rw [if_neg c]
  by_cases d:i=p
  ·subst d
   rw [if_pos (by omega),if_pos rfl,Array.getElem?_push,s0,if_pos rfl]
  ·rw [if_neg d,if_neg (by omega),Array.getElem?_extract]
   by_cases e:i - 1<xs.size
   ·rw [if_pos (by omega)]
    congr 1
    omega
   ·rw [if_neg (by omega),ye (by omega)]
theorem YI {α:Type}{xs:Array α}{p:Nat}{x:α}(hp:p<=xs.size):(insertAt xs p x).size=xs.size+1:=by
 unfold insertAt
 simp [Array.size_extract]
 omega
def AtS {α:Type}(place:Array Nat) (es:Array α) (j:Nat) (e:α):Prop:=∃ i:Nat,place[i]?=some j/\es[i]?=some e
theorem qk2 {α:Type}{place:Array Nat}{es:Array α}{p j j':Nat}{e e':α}(hp:p<=place.size) (hq:p<=es.size):AtS (insertAt place p j) (insertAt es p e) j' e' ↔ AtS place es j' e'\/(j'=j/\e'=e):=by
 constructor
 ·rintro ⟨i,h1,h2⟩
  rw [yX hp] at h1
  rw [yX hq] at h2
  by_cases c:i<p
  ·rw [if_pos c] at h1 h2
   exact .inl ⟨i,h1,h2⟩
  ·rw [if_neg c] at h1 h2
   by_cases d:i=p
   ·rw [if_pos d] at h1 h2
    exact .inr ⟨(Option.some.inj h1).symm,(Option.some.inj h2).symm⟩
   ·rw [if_neg d] at h1 h2
    exact .inl ⟨i - 1,h1,h2⟩
 ·rintro (⟨i,h1,h2⟩ | ⟨rfl,rfl⟩)
  ·by_cases c:i<p
   ·exact ⟨i,by rw [yX hp,if_pos c];exact h1,by rw [yX hq,if_pos c];exact h2⟩
   ·exact ⟨i+1,by rw [yX hp,if_neg (by omega),if_neg (by omega)];exact h1,by rw [yX hq,if_neg (by omega),if_neg (by omega)];exact h2⟩
  ·exact ⟨p,by rw [yX hp,if_neg (by omega),if_pos rfl],by rw [yX hq,if_neg (by omega),if_pos rfl]⟩
theorem qfj {xs:Array Nat}(hr:qhy xs) {j:Nat}(hj:¬ ∃ i:Nat,xs[i]?=some j):qhy (insertAt xs (below xs j) j):=by
 obtain ⟨h1,h2,h3⟩:=Jg hr j
 have val:∀ i,i<xs.size+1->(insertAt xs (below xs j) j).getD i 0=if i<below xs j then xs.getD i 0 else if i=below xs j then j else xs.getD (i - 1) 0:=fun i hi=>by
  have e:=yX (x:=j) h3 i
  simp only [Array.getD_eq_getD_getElem?,e]
  split
  ·rfl
  ·split <;> rfl
 have gt:∀ i,below xs j<=i->i<xs.size->j<xs.getD i 0:=fun i a b=>by
  have:=h2 i a b
  have ne:xs.getD i 0≠j:=fun z=>hj ⟨i,by rw [getD_some (d:=0) b,z]⟩
  omega
 intro a b hab hb
 rw [YI h3] at hb
 rw [val a (by omega),val b hb]
 by_cases b1:b<below xs j
 ·rw [if_pos b1,if_pos (by omega)]
  exact hr a b hab (by omega)
 ·rw [if_neg b1]
  by_cases b2:b=below xs j
  ·rw [if_pos b2,if_pos (by omega)]
   exact h1 a (by omega)
  ·rw [if_neg b2]
   by_cases a1:a<below xs j
   ·rw [if_pos a1]
    exact hr a (b - 1) (by omega) (by omega)
   ·rw [if_neg a1]
    by_cases a2:a=below xs j
    ·rw [if_pos a2]
     exact gt (b - 1) (by omega) (by omega)
    ·rw [if_neg a2]
     exact hr (a - 1) (b - 1) (by omega) (by omega)
theorem Tab.put {t:SetTable}{m n:Nat}(T:Tab t m n) {j:Nat}(hj:¬ Fl t j) (hm:j<=m):Tab (t.put j).1 m (n+1)/\(t.put j).2=below t.place j/\(t.put j).1.place=insertAt t.place (below t.place j) j:=by
 obtain ⟨h1,h2,h3⟩:=Jg T.rise j
 refine ⟨⟨T.mask,?_,?_,qfj T.rise hj,fun i j' e=>?_⟩,rfl,rfl⟩
 ·show (if has t.dummies j=true then _ else t.dummies)=#[]
  rw [T.dm,qd8,if_neg (by simp)]
 ·show (insertAt t.place (below t.place j) j).size=n+1
  rw [YI h3,T.size]
 ·have e:(insertAt t.place (below t.place j) j)[i]?=some j':=e
  rw [yX h3] at e
  split at e
  ·exact T.le _ _ e
  ·split at e
   ·rw [<- Option.some.inj e];exact hm
   ·exact T.le _ _ e
end L2
namespace L2
open PySem PySem.SetTable
def Rch (fl:Nat->Prop) (m:Nat) (h:Int) (j:Nat):Prop:=∃ k,(stp m h k).j=j/\∀ l,l<k->fl (stp m h l).j
theorem Rch.mono {fl fl':Nat->Prop}{m:Nat}{h:Int}{j:Nat}(f:∀ q,fl q->fl' q) (r:Rch fl m h j):Rch fl' m h j:=by
 obtain ⟨k,e,a⟩:=r
 exact ⟨k,e,fun l hl=>f _ (a l hl)⟩
structure SetI {α:Type}(t:SetTable) (es:Array (Int×α)) (m n:Nat):Prop where
 tab:Tab t m n
 sz:es.size=n
 rch:∀ (j:Nat) (e:Int×α),AtS t.place es j e->Rch (Fl t) m e.1 j
def fO (owner:Array (Option Nat)) (j:Nat):Prop:=(owner.getD j (some 0)).isSome=true
theorem qef {m:Nat}{owner:Array (Option Nat)}{h:Int}:∀ (fu L k0:Nat),stp m h k0=at0 m (lp m h L).1 (lp m h L).2->(∀ l,l<k0->fO owner (stp m h l).j)->(∃ L',L<=L'/\L'<L+fu/\¬ fO owner (lp m h L').1) →
  ∃ j,layClean.free m owner fu (lp m h L).1 (lp m h L).2=some j/\¬ fO owner j/\Rch (fO owner) m h j
 | 0,L,k0,_,_,⟨L',a,b,_⟩=>absurd b (by omega)
 | fu+1,L,k0,hk,hf,⟨L',a,b,c⟩=>by
  unfold layClean.free
  have ri:=qdf hk
  cases hfind:(List.range (runEnd m (lp m h L).1+1 - (lp m h L).1)).find? fun k=>(owner.getD ((lp m h L).1+k) (some 0)).isNone with
  | some kk =>
   obtain ⟨p1,p2,p3⟩:=List.find?_range_eq_some.mp hfind
   have hkk:=List.mem_range.mp p2
   refine ⟨(lp m h L).1+kk,rfl,fun z=>?_,k0+kk,by rw [ri kk (by omega)],fun l hl=>?_⟩
   ·unfold fO at z
    rw [Option.isNone_iff_eq_none.mp p1] at z
    cases z
   ·by_cases d:l<k0
    ·exact hf l d
    ·obtain ⟨r,rfl⟩:∃ r,l=k0+r:=⟨l - k0,by omega⟩
     rw [ri r (by omega)]
     have:=p3 r (by omega)
     unfold fO
     rw [Bool.not_eq_true',Option.isNone_eq_false_iff] at this
     exact this
  | none =>
   have pn:=List.find?_eq_none.mp hfind
   have fil:∀ r,r<=runEnd m (lp m h L).1 - (lp m h L).1->fO owner ((lp m h L).1+r):=fun r hr=>by
    have hge:(lp m h L).1<=runEnd m (lp m h L).1:=by unfold runEnd;split <;> omega
    have:=pn r (List.mem_range.mpr (by omega))
    unfold fO
    rw [Bool.not_eq_true,Option.isNone_eq_false_iff] at this
    exact this
   have hne:L'≠L:=by
    rintro rfl
    exact c (by simpa using fil 0 (qZ _))
   refine qef fu (L+1) (k0+(runEnd m (lp m h L).1 - (lp m h L).1)+1) (qgP hk) (fun l hl=>?_) ⟨L',by omega,by omega,c⟩
   by_cases d:l<k0
   ·exact hf l d
   ·obtain ⟨r,rfl⟩:∃ r,l=k0+r:=⟨l - k0,by omega⟩
    rw [ri r (by omega)]
    exact fil r (by omega)
structure OW (m:Nat) (hs:Nat->Int) (owner:Array (Option Nat)) (k:Nat):Prop where
 sz:owner.size=m+1
 own:∀ j i:Nat,owner[j]?=some (some i)->i<k/\Rch (fO owner) m (hs i) j
 ex:∀ i,i<k->∃ j:Nat,owner[j]?=some (some i)
 inj:∀ j j' i:Nat,owner[j]?=some (some i)->owner[j']?=some (some i)->j=j'
def qjo (m:Nat) (owner:Array (Option Nat)):List Nat:=(List.range (m+1)).filterMap fun j=>owner.getD j none
theorem Yj {owner:Array (Option Nat)}{j i:Nat}:owner.getD j none=some i ↔ owner[j]?=some (some i):=by
 rw [Array.getD_eq_getD_getElem?]
 cases owner[j]? with
 | none=>simp
 | some o=>simp
theorem OW.nodup {m k:Nat}{hs:Nat->Int}{owner:Array (Option Nat)}(W:OW m hs owner k):(qjo m owner).Nodup:=by
 refine List.Pairwise.filterMap _ (fun a a' hne b e b' e' z=>?_) List.nodup_range
 subst z
 exact hne (W.inj _ _ _ (Yj.mp e) (Yj.mp e'))
theorem OW.len {m k:Nat}{hs:Nat->Int}{owner:Array (Option Nat)}(W:OW m hs owner k):(qjo m owner).length=k:=by
 apply Nat.le_antisymm
 ·have sub:qjo m owner ⊆ List.range k:=fun i hi=>by
   obtain ⟨j,_,e⟩:=List.mem_filterMap.mp hi
   exact List.mem_range.mpr (W.own j i (Yj.mp e)).1
  have:=List.Nodup.length_le_of_subset W.nodup sub
  rwa [yv] at this
 ·have sub:List.range k ⊆ qjo m owner:=fun i hi=>by
   obtain ⟨j,e⟩:=W.ex i (List.mem_range.mp hi)
   have hj:j<owner.size:=by
    rcases jM j owner.size with z | z
    ·exact z
    ·rw [ye z] at e;cases e
   exact List.mem_filterMap.mpr ⟨j,List.mem_range.mpr (by rw [W.sz] at hj;exact hj),Yj.mpr e⟩
  have:=List.Nodup.length_le_of_subset List.nodup_range sub
  rwa [yv] at this
theorem OW.free {m k:Nat}{hs:Nat->Int}{owner:Array (Option Nat)}(W:OW m hs owner k) (hk:k<=m):∃ q,q<=m/\¬ fO owner q:=by
 refine Classical.byContradiction fun hc=>?_
 have all:∀ q,q<=m->fO owner q:=fun q hq=>Classical.byContradiction fun z=>hc ⟨q,hq,z⟩
 have h1:=W.len
 unfold qjo at h1
 rw [List.length_filterMap_eq_countP] at h1
 have h2:List.countP (fun j=>(owner.getD j none).isSome) (List.range (m+1))=(List.range (m+1)).length:=List.countP_eq_length.mpr fun j hj=>by
  have hj:=List.mem_range.mp hj
  have a:=all j (by omega)
  have hlt:j<owner.size:=by rw [W.sz];exact hj
  unfold fO at a
  simpa [Array.getD,hlt] using a
 rw [h2,yv] at h1
 omega
theorem OW.step {m k:Nat}{hs:Nat->Int}{owner:Array (Option Nat)}(W:OW m hs owner k) {j:Nat}(hj:¬ fO owner j) (hr:Rch (fO owner) m (hs k) j):OW m hs (owner.setIfInBounds j (some k)) (k+1):=by
 have hlt:j<owner.size:=by
  rcases jM j owner.size with z | z
  ·exact z
  ·refine absurd ?_ hj
   unfold fO
   simp [Array.getD,Nat.not_lt.mpr z]
 have nn:owner[j]?=some none:=by
  cases e:owner[j]? with
  | none=>rw [Array.getElem?_eq_none_iff] at e;omega
  | some o =>
   cases o with
   | none=>rfl
   | some i =>
    refine absurd ?_ hj
    unfold fO
    rw [Array.getD_eq_getD_getElem?,e]
    rfl
 have get:∀ q:Nat,(owner.setIfInBounds j (some k))[q]?=if q=j then some (some k) else owner[q]?:=fun q=>by
  rw [Array.getElem?_setIfInBounds]
  by_cases c:q=j
  ·subst c;simp [hlt]
  ·rw [if_neg c,if_neg (fun z=>c z.symm)]
 have up:∀ q,fO owner q->fO (owner.setIfInBounds j (some k)) q:=fun q hq=>by
  unfold fO at hq ⊢
  rw [Array.getD_eq_getD_getElem?] at hq ⊢
  rw [get]
  split
  ·rfl
  ·exact hq
 refine ⟨by rw [Array.size_setIfInBounds];exact W.sz,fun q i e=>?_,fun i hi=>?_,fun q q' i e e'=>?_⟩
 ·rw [get] at e
  by_cases c:q=j
  ·rw [if_pos c] at e
   have:k=i:=Option.some.inj (Option.some.inj e)
   subst this
   subst c
   exact ⟨by omega,hr.mono up⟩
  ·rw [if_neg c] at e
   obtain ⟨a,b⟩:=W.own q i e
   exact ⟨by omega,b.mono up⟩
 ·by_cases c:i=k
  ·subst c
   exact ⟨j,by rw [get,if_pos rfl]⟩
  ·obtain ⟨q,e⟩:=W.ex i (by omega)
   refine ⟨q,?_⟩
   rw [get,if_neg (fun z=>by rw [z,nn] at e;cases e)]
   exact e
 ·rw [get] at e e'
  by_cases c:q=j
  ·rw [if_pos c] at e
   have hik:k=i:=Option.some.inj (Option.some.inj e)
   by_cases c':q'=j
   ·rw [c,c']
   ·rw [if_neg c'] at e'
    have:=(W.own q' i e').1
    omega
  ·rw [if_neg c] at e
   by_cases c':q'=j
   ·rw [if_pos c'] at e'
    have hik:k=i:=Option.some.inj (Option.some.inj e')
    have:=(W.own q i e).1
    omega
   ·rw [if_neg c'] at e'
    exact W.inj q q' i e e'
theorem OW.init (m:Nat) (hs:Nat->Int):OW m hs (Array.replicate (m+1) none) 0:=by
 have z:∀ j i:Nat,(Array.replicate (m+1) (none:Option Nat))[j]?=some (some i)->False:=fun j i e=>by
  rw [Array.getElem?_replicate] at e
  split at e <;> simp at e
 exact ⟨by simp,fun j i e=>(z j i e).elim,fun i hi=>absurd hi (by omega),fun j j' i e=>(z j i e).elim⟩
def qbb (m:Nat) (acc:Option (Array (Option Nat)×Nat)) (h:Int):Option (Array (Option Nat)×Nat):=do
 let (owner,k) <- acc
 let j <- layClean.free m owner (turns m) (bits h % (m+1)) (bits h)
 pure (owner.setIfInBounds j (some k),k+1)
theorem qbc (m:Nat) (hashes:Array Int):layClean m hashes=(hashes.foldl (qbb m) (some (Array.replicate (m+1) none,0))).map (·.1):=rfl
theorem qeg {m:Nat}(F:Full m) {hs:Nat->Int}:∀ (l:List Int) (owner:Array (Option Nat)) (k:Nat),OW m hs owner k->(∀ i (h:Int),l[i]?=some h->hs (k+i)=h)->k+l.length<=m+1 →
  ∃ owner',l.foldl (qbb m) (some (owner,k))=some (owner',k+l.length)/\OW m hs owner' (k+l.length)
 | [],owner,k,W,_,_=>⟨owner,rfl,W⟩
 | h::l,owner,k,W,hl,hk=>by
  simp only [List.length_cons] at hk ⊢
  obtain ⟨q,hq,hq2⟩:=W.free (by omega)
  obtain ⟨L',a,b⟩:=F.lp h hq
  obtain ⟨j,e,j1,j2⟩:=qef (m:=m) (owner:=owner) (h:=h) (turns m) 0 0 rfl (fun l z=>absurd z (by omega)) ⟨L',by omega,by unfold turns;omega,by rw [b];exact hq2⟩
  have hk0:hs k=h:=hl 0 h rfl
  have W':=W.step j1 (by rw [hk0];exact j2)
  obtain ⟨o',e',W''⟩:=qeg F l _ (k+1) W' (fun i h' e=>by rw [show k+1+i=k+(i+1) by omega];exact hl (i+1) h' (by simpa using e)) (by omega)
  refine ⟨o',?_,by rw [show k+(l.length+1)=k+1+l.length by omega];exact W''⟩
  rw [List.foldl_cons]
  have e0:qbb m (some (owner,k)) h=some (owner.setIfInBounds j (some k),k+1):=by
   show (layClean.free m owner (turns m) (bits h % (m+1)) (bits h) >>= fun j=>pure (owner.setIfInBounds j (some k),k+1))=_
   have e:layClean.free m owner (turns m) (bits h % (m+1)) (bits h)=some j:=e
   rw [e]
   rfl
  rw [e0,e',show k+(l.length+1)=k+1+l.length by omega]
theorem qhd {α β:Type}{f:α->Option β}:∀ {l:List α},(∀ x∈l,(f x).isSome=true)->∀ i:Nat,(l.filterMap f)[i]?=l[i]?.bind f
 | [],_,i=>by simp
 | x::l,h,i=>by
  obtain ⟨y,e⟩:=Option.isSome_iff_exists.mp (h x ql)
  rw [List.filterMap_cons_some e]
  cases i with
  | zero=>simp [e]
  | succ i=>simpa using qhd (fun z hz=>h z (qg _ hz)) i
theorem qk9 {α β:Type}{f:α->Option β}{l:List α}(h:∀ x∈l,(f x).isSome=true):(l.filterMap f).length=l.length:=by
 rw [List.length_filterMap_eq_countP,List.countP_eq_length.mpr h]
theorem qiE {α:Type}{m n fi mv:Nat}(F:Full m) {ld pl:Bool}{es:Array (Int×α)}(hn:es.size=n) (hm:n<=m+1) :
  ∃ (t:SetTable) (order:Array Nat),laid m fi mv ld pl (es.map (·.1))=some (t,order)/\t.led=ld/\t.plain=pl/\(order.filterMap (es[·]?)).size=es.size/\SetI t (order.filterMap (es[·]?)) m n ∧
   (∀ e,e∈(order.filterMap (es[·]?)).toList ↔ e∈es.toList) ∧
   ∀ (i i':Nat) (e e':Int×α),(order.filterMap (es[·]?))[i]?=some e->(order.filterMap (es[·]?))[i']?=some e'->(∀ y y':Nat,es[y]?=some e->es[y']?=some e'->y=y')->i=i':=by
 obtain ⟨owner,eo,W⟩:=qeg F (hs:=fun i=>((es.map (·.1)).getD i 0)) (es.map (·.1)).toList (Array.replicate (m+1) none) 0 (OW.init m _) (fun i h e=>by
  rw [Nat.zero_add,Array.getD_eq_getD_getElem?,<- qk,e];rfl) (by simp;omega)
 have hlen:(es.map (·.1)).toList.length=n:=by simp [hn]
 rw [Nat.zero_add,hlen] at eo W
 have live:∃ live:List (Nat×Nat),live=(List.range (m+1)).filterMap fun j=>(owner.getD j none).map (j,·):=⟨_,rfl⟩
 obtain ⟨live,el⟩:=live
 have lmem:∀ j i,(j,i)∈live ↔ owner[j]?=some (some i):=fun j i=>by
  rw [el,List.mem_filterMap]
  constructor
  ·rintro ⟨q,_,e⟩
   cases o:owner.getD q none with
   | none=>rw [o] at e;cases e
   | some x =>
    rw [o] at e
    cases e
    exact Yj.mp o
  ·intro e
   have hj:j<owner.size:=by
    rcases jM j owner.size with z | z
    ·exact z
    ·rw [ye z] at e;cases e
   exact ⟨j,List.mem_range.mpr (by rw [W.sz] at hj;exact hj),by rw [Yj.mpr e];rfl⟩
 have llen:live.length=n:=by
  have:=W.len
  unfold qjo at this
  rw [List.length_filterMap_eq_countP] at this
  rw [el,List.length_filterMap_eq_countP,<- this]
  congr 1
  funext j
  cases owner.getD j none <;> rfl
 have lsort:live.Pairwise fun a b=>a.1<b.1:=by
  rw [el]
  refine List.Pairwise.filterMap _ (fun a a' hlt b e b' e'=>?_) List.pairwise_lt_range
  cases o:owner.getD a none with
  | none=>rw [o] at e;cases e
  | some x =>
   cases o':owner.getD a' none with
   | none=>rw [o'] at e';cases e'
   | some x' =>
    rw [o] at e;rw [o'] at e'
    cases e;cases e'
    exact hlt
 have some1:∀ x∈live.map (·.2),(es[x]?).isSome=true:=fun x hx=>by
  obtain ⟨⟨j,i⟩,hji,rfl⟩:=qG.mp hx
  have:=(W.own j i ((lmem j i).mp hji)).1
  simp [hn,this]
 have es':((live.map (·.2)).toArray.filterMap (es[·]?))=((live.map (·.2)).filterMap (es[·]?)).toArray:=by simp
 have get':∀ i:Nat,((live.map (·.2)).toArray.filterMap (es[·]?))[i]?=live[i]?.bind fun x=>es[x.2]?:=fun i=>by
  rw [es',List.getElem?_toArray,qhd some1,List.getElem?_map]
  cases live[i]? <;> rfl
 have size':((live.map (·.2)).toArray.filterMap (es[·]?)).size=n:=by
  rw [es',List.size_toArray,qk9 some1,List.length_map,llen]
 have pget:∀ i:Nat,(live.map (·.1)).toArray[i]?=live[i]?.map (·.1):=fun i=>by rw [List.getElem?_toArray,List.getElem?_map]
 refine ⟨{ mask:=m,place:=(live.map (·.1)).toArray,dummies:=#[],finger:=fi,led:=ld,moves:=mv,plain:=pl },(live.map (·.2)).toArray,?_,rfl,rfl,by rw [size',hn],⟨⟨rfl,rfl,by simp [llen],?_,?_⟩,size',?_⟩,fun e=>?_,fun i i' e e' h1 h2 hyy=>?_⟩
 ·unfold laid
  rw [qbc,<- Array.foldl_toList,eo,el]
  rfl
 ·intro a b hab hb
  have hb':b<live.length:=by simpa using hb
  have ha':a<live.length:=by omega
  have:=qM.mp lsort a b ha' hb' hab
  simpa [Array.getD,ha',hb'] using this
 ·intro i j e
  rw [show ({ mask:=m,place:=(live.map (·.1)).toArray,dummies:=#[],finger:=fi,led:=ld,moves:=mv,plain:=pl }:SetTable).place[i]?=live[i]?.map (·.1) from pget i] at e
  cases o:live[i]? with
  | none=>rw [o] at e;cases e
  | some x =>
   rw [o] at e
   obtain ⟨q,y⟩:=x
   have hq:=(lmem q y).mp (List.mem_of_getElem? o)
   have:q=j:=Option.some.inj e
   subst this
   have hj:q<owner.size:=by
    rcases jM q owner.size with z | z
    ·exact z
    ·rw [ye z] at hq;cases hq
   rw [W.sz] at hj
   omega
 ·rintro j e ⟨i,h1,h2⟩
  rw [show ({ mask:=m,place:=(live.map (·.1)).toArray,dummies:=#[],finger:=fi,led:=ld,moves:=mv,plain:=pl }:SetTable).place[i]?=live[i]?.map (·.1) from pget i] at h1
  rw [get'] at h2
  cases o:live[i]? with
  | none=>rw [o] at h1;cases h1
  | some x =>
   rw [o] at h1 h2
   obtain ⟨q,y⟩:=x
   have e1:q=j:=Option.some.inj h1
   subst e1
   have h2:es[y]?=some e:=h2
   have hr:=(W.own q y ((lmem q y).mp (List.mem_of_getElem? o))).2
   have eh:((es.map (·.1)).getD y 0)=e.1:=by
    rw [Array.getD_eq_getD_getElem?,Array.getElem?_map,h2];rfl
   rw [<- eh]
   obtain ⟨k,ek,ak⟩:=hr
   refine ⟨k,ek,fun l hl=>?_⟩
   have hp:=ak l hl
   have hle:=qgq m ((es.map (·.1)).getD y 0) l
   generalize (stp m ((es.map (·.1)).getD y 0) l).j=p at hp hle
   unfold fO at hp
   rw [Array.getD_eq_getD_getElem?] at hp
   cases oo:owner[p]? with
   | none =>
    rw [Array.getElem?_eq_none_iff,W.sz] at oo
    omega
   | some v =>
    rw [oo] at hp
    cases v with
    | none=>cases hp
    | some z =>
     obtain ⟨a,ea⟩:=qX ((lmem p z).mpr oo)
     exact ⟨a,by rw [show ({ mask:=m,place:=(live.map (·.1)).toArray,dummies:=#[],finger:=fi,led:=ld,moves:=mv,plain:=pl }:SetTable).place[a]?=live[a]?.map (·.1) from pget a,ea];rfl⟩
 ·constructor
  ·intro he
   obtain ⟨i,ei⟩:=qX he
   rw [qk,get'] at ei
   cases o:live[i]? with
   | none=>rw [o] at ei;cases ei
   | some x =>
    rw [o] at ei
    exact List.mem_of_getElem? (by rw [qk];exact ei)
  ·intro he
   obtain ⟨y,ey⟩:=qX he
   rw [qk] at ey
   have hy:y<n:=by
    rcases jM y es.size with z | z
    ·omega
    ·rw [ye z] at ey;cases ey
   obtain ⟨j,ej⟩:=W.ex y hy
   obtain ⟨i,ei⟩:=qX ((lmem j y).mpr ej)
   refine List.mem_of_getElem? (i:=i) ?_
   rw [qk,get',ei]
   exact ey
 ·rw [get'] at h1 h2
  cases o:live[i]? with
  | none=>rw [o] at h1;cases h1
  | some x =>
   cases o':live[i']? with
   | none=>rw [o'] at h2;cases h2
   | some x' =>
    rw [o] at h1;rw [o'] at h2
    have hxx:x.2=x'.2:=hyy _ _ h1 h2
    have j1:=(lmem x.1 x.2).mp (List.mem_of_getElem? o)
    have j2:=(lmem x'.1 x'.2).mp (List.mem_of_getElem? o')
    rw [<- hxx] at j2
    have jj:=W.inj _ _ _ j1 j2
    have hi:i<live.length:=(qp.mp o).1
    have hi':i'<live.length:=(qp.mp o').1
    have e1:live[i]=x:=(qp.mp o).2
    have e2:live[i']=x':=(qp.mp o').2
    rcases Nat.lt_trichotomy i i' with z | z | z
    ·have:=qM.mp lsort i i' hi hi' z
     rw [e1,e2] at this
     omega
    ·exact z
    ·have:=qM.mp lsort i' i hi' hi z
     rw [e1,e2] at this
     omega
end L2
namespace L2
open PySem PySem.Spec PyProof.Rows PySem.W
section
variable {prog:Program}{w:World}{A:Around}{E:Value->Shared->Prop}{s:Shared}
theorem qfM {vs:List Value}{ns:List Int}(h:IntsAre vs ns):ItemsAre (intKind prog w) ns vs:=by
 induction h with
 | nil=>exact .nil
 | cons n t _ ih=>exact .cons (intKind_is _ _ _ _) ih
theorem ju.key {h:Heap}{b:Addr}{ks:List Int}(t:ju h (.ref b) ks):IsTupleKey (intKind prog w) h ks b:=by
 obtain ⟨b',o,xs,n,e,ho,hc,hd,hi,_⟩:=t
 cases e
 exact ⟨o,xs,n,ho,hc,hd,qfM hi⟩
abbrev yu (prog:Program) (w:World) (ks:List Int):Int:=tupleKeyHash (intKind prog w) ks
theorem qiM {b:Addr}{ks:List Int}{Q:Bool->Shared->Prop}(t:ju s.heap (.ref b) ks) (q:Q true s):wpAny (model prog w) A (hashByValue 8 (.ref b)) Q E s:=by
 have hT:=(t.key (prog:=prog) (w:=w)).typeIs
 obtain ⟨b',o,xs,n,e,ho,hc,hd,hi,_⟩:=t
 cases e
 unfold hashByValue
 refine qb (wpAny_specialOf hT F.slot_tuple_hash.lookup ?_)
 show wpAny _ _ (seqItems? (.ref b) >>= _) _ _ s
 refine qb (wpAny_seqItems ho hd ?_)
 refine qb ?_
 show wpAny _ _ (forIn xs _ _) _ _ s
 rw [<- Array.forIn_toList]
 refine wpAny_forIn_list _ (fun y9 r s'=>r.1=none/\s'=s/\∃ ns,IntsAre y9 ns) _ ?_ ?_ _ _ ⟨rfl,rfl,_,hi⟩
 ·rintro v y9 r s' ⟨hr,rfl,ns,hi'⟩
  cases hi' with
  | cons i t hi'' =>
   refine qb (qe ?_)
   simp only [Bool.not_true,Bool.false_eq_true,if_false]
   exact qe ⟨rfl,rfl,_,hi''⟩
 ·rintro ⟨r1,r2⟩ s' ⟨hr,rfl,_⟩
  simp only at hr
  subst hr
  exact qe q
theorem qeE {b:Addr}{ks:List Int}{Q:Bool->Shared->Prop}(t:ju s.heap (.ref b) ks) (q:Q false s):wpAny (model prog w) A (ofAClassStatement 8 (.ref b)) Q E s:=by
 have hT:=(t.key (prog:=prog) (w:=w)).typeIs
 obtain ⟨b',o,xs,n,e,ho,hc,hd,hi,_⟩:=t
 cases e
 unfold ofAClassStatement
 refine qb (wpAny_typeOf hT ?_)
 dsimp only
 rw [if_pos (show ("tuple" == "tuple")=true by decide)]
 refine qb (qe ?_)
 simp only [Bool.not_true,Bool.false_eq_true,if_false]
 refine qb (wpAny_seqItems ho hd ?_)
 dsimp only
 refine qb ?_
 show wpAny _ _ (forIn xs _ _) _ _ s
 rw [<- Array.forIn_toList]
 refine wpAny_forIn_list _ (fun y9 r s'=>r.1=none/\s'=s/\∃ ns,IntsAre y9 ns) _ ?_ ?_ _ _ ⟨rfl,rfl,_,hi⟩
 ·rintro v y9 r s' ⟨hr,rfl,ns,hi'⟩
  cases hi' with
  | cons i t hi'' =>
   refine qb (qe ?_)
   simp only [Bool.false_eq_true,if_false]
   exact qe ⟨rfl,rfl,_,hi''⟩
 ·rintro ⟨r1,r2⟩ s' ⟨hr,rfl,_⟩
  simp only at hr
  subst hr
  exact qe q
theorem qhU {b:Addr}{ks:List Int}(t:ju s.heap (.ref b) ks) {ys:List Value}{Q:Bool->Shared->Prop}(hy:∀ y∈ys,∃ c ks',y = .ref c/\ju s.heap (.ref c) ks') (q:Q false s):wpAny (model prog w) A (searchCouldBeSeen (.ref b) ys) Q E s:=by
 unfold searchCouldBeSeen
 refine qb ?_
 refine wpAny_forIn_list _ (fun y9 r s'=>r.1=none/\s'=s/\∀ y∈y9,∃ c ks',y = .ref c/\ju s.heap (.ref c) ks') _ ?_ ?_ _ _ ⟨rfl,rfl,hy⟩
 ·rintro v y9 r s' ⟨hr,rfl,hy'⟩
  obtain ⟨c,ks',rfl,tc⟩:=hy' v ql
  have rest':∀ y∈y9,∃ c ks',y = .ref c/\ju s'.heap (.ref c) ks':=fun y h=>hy' y (qg _ h)
  dsimp only
  by_cases e:(b == c)=true
  ·rw [e]
   simp only [Bool.true_or,if_true]
   exact qe ⟨rfl,rfl,rest'⟩
  ·have e:(b == c)=false:=by simpa using e
   rw [e]
   simp only [carriedByValue,Bool.false_and,Bool.or_false,Bool.false_eq_true,if_false]
   refine qb (wpAny_eqIsQuiet_tuple (t.key (prog:=prog) (w:=w)) ?_)
   simp only [Bool.not_true,Bool.false_eq_true,if_false]
   refine qb (wpAny_eqIsQuiet_tuple (tc.key (prog:=prog) (w:=w)) ?_)
   simp only [Bool.not_true,Bool.false_eq_true,if_false]
   refine qb (qeE t ?_)
   simp only [Bool.false_eq_true,if_false]
   refine qb (qeE tc ?_)
   simp only [Bool.false_eq_true,if_false]
   exact qe ⟨rfl,rfl,rest'⟩
 ·rintro ⟨r1,r2⟩ s' ⟨hr,rfl,_⟩
  simp only at hr
  subst hr
  exact qe q
end
end L2
namespace L2
open PySem PySem.Spec PyProof.Rows PySem.W PySem.SetTable
def j6 (m n:Nat):Prop:=(m=7/\n<5)\/(m=31/\n<19)\/(m=127/\n<77)\/(m=511/\n<307)\/(m=2047/\n<1229)\/(m=8191/\n<4915)
theorem j6.full {m n:Nat}(h:j6 m n):Full m:=by
 rcases h with ⟨rfl,_⟩ | ⟨rfl,_⟩ | ⟨rfl,_⟩ | ⟨rfl,_⟩ | ⟨rfl,_⟩ | ⟨rfl,_⟩
 ·exact full7
 ·exact qk7
 ·exact qiR
 ·exact qiQ
 ·exact qfT
 ·exact qfS
theorem j6.le {m n:Nat}(h:j6 m n):n<m/\n<4915:=by unfold j6 at h;omega
theorem j6.odd {m n:Nat}(h:j6 m n):(m % 2 == 0)=false:=by
 rcases h with ⟨rfl,_⟩ | ⟨rfl,_⟩ | ⟨rfl,_⟩ | ⟨rfl,_⟩ | ⟨rfl,_⟩ | ⟨rfl,_⟩ <;> decide
def Z6 (prog:Program) (w:World) (h:Heap) (e:Int×Value) (ks:List Int):Prop:=ju h e.2 ks/\e.1=yu prog w ks
abbrev jJ (w:World):Bool:=w.params.followText "set-order"
structure SetD (prog:Program) (w:World) (Pv:Value->Prop) (h:Heap) (a:Addr) (o:Obj) (es:Array (Int×Value)) (ep:Nat) (t:SetTable) (m:Nat) (kss:List (List Int)):Prop where
 ho:h.get? a=some o
 ex:o.ExactSet
 hd:o.data = .set es ep t
 pl:t.plain=true
 ld:t.led=!jJ w
 mok:j6 m es.size
 si:SetI t es m es.size
 en:PySem.Paired (Z6 prog w h) es.toList kss
 nd:kss.Nodup
 own:∀ e∈es.toList,Pv e.2
section
variable {prog:Program}{w:World}{Pv:Value->Prop}{A:Around}{E:Value->Shared->Prop}{s:Shared}{a:Addr}{o:Obj}{es:Array (Int×Value)}{ep:Nat}{t:SetTable}{m:Nat}{kss:List (List Int)}
theorem SetD.fits (D:SetD prog w Pv s.heap a o es ep t m kss):t.fits es.size=true:=by
 have:=D.mok.le
 unfold SetTable.fits SetTable.fill
 rw [D.si.tab.dm,D.si.tab.size,D.si.tab.mask]
 simp
 omega
theorem SetD.len (D:SetD prog w Pv s.heap a o es ep t m kss):kss.length=es.size:=by
 have:=PySem.Paired.length D.en
 rw [Array.length_toList] at this
 exact this.symm
theorem SetD.ent (D:SetD prog w Pv s.heap a o es ep t m kss) {i:Nat}{e:Int×Value}(h:es[i]?=some e):∃ ks,kss[i]?=some ks/\Z6 prog w s.heap e ks:=L2.Paired.get D.en (by rw [qk];exact h)
theorem SetD.ent' (D:SetD prog w Pv s.heap a o es ep t m kss) {i:Nat}{ks:List Int}(h:kss[i]?=some ks):∃ e,es[i]?=some e/\Z6 prog w s.heap e ks:=by
 obtain ⟨e,h1,h2⟩:=L2.Paired.get' D.en h
 exact ⟨e,by rw [qk] at h1;exact h1,h2⟩
theorem SetD.place (D:SetD prog w Pv s.heap a o es ep t m kss) {i j:Nat}(h:t.place[i]?=some j):∃ e,es[i]?=some e:=by
 have hi:i<t.place.size:=by
  rcases jM i t.place.size with z | z
  ·exact z
  ·rw [ye z] at h;cases h
 rw [D.si.tab.size] at hi
 exact ⟨es[i],by simp [hi]⟩
theorem qaj (D:SetD prog w Pv s.heap a o es ep t m kss) {b:Addr}{ks:List Int}(tb:ju s.heap (.ref b) ks) (hu:A.units<cLine) {adding:Bool}{Q:SetFound->Shared->Prop}
  (hin:∀ i:Nat,kss[i]?=some ks->Q (.there (if adding=true then none else some i)) s)
  (hout:ks∉kss->∀ j,¬ Fl t j->j<=m->Rch (Fl t) m (yu prog w ks) j->Q (.free j false) s) {K:Nat}(hK:¬ Fl t (stp m (yu prog w ks) K).j) (hK2:K<=10 * (m+12)) :
  ∀ (fu k:Nat) (stand:Option Probe),stand.getD (t.probeStart (yu prog w ks))=stp m (yu prog w ks) k->k<=K->K - k<fu →
   (∀ l,l<k->∃ i:Nat,t.place[i]?=some (stp m (yu prog w ks) l).j/\kss[i]?≠some ks)->wpAny (model prog w) A (setSearchFrom a (.ref b) (yu prog w ks) adding fu stand) Q E s
 | 0,k,stand,_,_,z,_=>absurd z (by omega)
 | fu+1,k,stand,hst,hk,hf,hl=>by
  have T:=D.si.tab
  unfold setSearchFrom
  refine qb (y3 D.ho D.hd D.fits ?_)
  dsimp only
  have gw:t.gaveWay=false:=by unfold SetTable.gaveWay;rw [T.mask];exact D.mok.odd
  rw [gw]
  simp only [Bool.false_eq_true,if_false]
  rw [hst]
  obtain ⟨x,x1,x2,x3,x4⟩:=T.probe_go (hashAt:=fun i=>(es[i]?.map (·.1)).getD 0) hK (10 * turns t.mask) k hk (by rw [T.mask];unfold turns;omega)
  -- up to x none is it
  have before:∀ l,l<x->∃ i:Nat,t.place[i]?=some (stp m (yu prog w ks) l).j/\kss[i]?≠some ks:=fun l hlx=>by
   by_cases c:l<k
   ·exact hl l c
   ·obtain ⟨i,e1,e2⟩:=x3 l (by omega) hlx
    refine ⟨i,e1,fun z=>e2 ?_⟩
    obtain ⟨e,h1,_,h3⟩:=D.ent' z
    simp only [h1,Option.map_some,Option.getD_some,h3]
  rcases x4 with ⟨n1,n2⟩ | ⟨i,e1,e2,e3⟩
  ·have pe:t.probe (fun i=>(es[i]?.map (·.1)).getD 0) (yu prog w ks) (stp m (yu prog w ks) k)=some (.empty (stp m (yu prog w ks) x).j none):=n2
   have no:ks∉kss:=fun hm=>by
    obtain ⟨i,ei⟩:=qX hm
    obtain ⟨e,h1,_,h3⟩:=D.ent' ei
    have hi:i<t.place.size:=by
     rw [T.size]
     rcases jM i es.size with z | z
     ·exact z
     ·rw [ye z] at h1;cases h1
    obtain ⟨k',ek,ak⟩:=D.si.rch (t.place[i]) e ⟨i,by simp [hi],h1⟩
    rw [h3] at ek ak
    rcases Nat.lt_trichotomy k' x with z | z | z
    ·obtain ⟨i',p1,p2⟩:=before k' z
     rw [ek] at p1
     have:i'=i:=qfk T.rise p1 (by simp [hi])
     subst this
     exact p2 ei
    ·subst z
     exact n1 ⟨i,by rw [ek];simp [hi]⟩
    ·exact n1 (ak x z)
   have fin:=hout no _ n1 (qgq _ _ _) ⟨x,rfl,fun l hlx=>let ⟨i,p,_⟩:=before l hlx;⟨i,p⟩⟩
   generalize hp:t.probe _ (yu prog w ks) (stp m (yu prog w ks) k)=r
   have er:=hp.symm.trans pe
   subst er
   exact qe fin
  ·have pe:t.probe (fun i=>(es[i]?.map (·.1)).getD 0) (yu prog w ks) (stp m (yu prog w ks) k)=some (.candidate (stp m (yu prog w ks) x).j i (stp m (yu prog w ks) (x+1))):=e3
   generalize hp:t.probe _ (yu prog w ks) (stp m (yu prog w ks) k)=r
   have er:=hp.symm.trans pe
   subst er
   dsimp only
   obtain ⟨⟨h',y⟩,ee⟩:=D.place e1
   obtain ⟨ks',ek,ty,hh⟩:=D.ent ee
   obtain ⟨c,oc,xs,nn,ey,hoc⟩:=id ty
   have ey:y = .ref c:=ey
   subst ey
   have ty:ju s.heap (.ref c) ks':=ty
   have hstored:∀ y∈List.map (fun x=>x.snd) (Array.filter (fun x=>x.fst == yu prog w ks) es).toList,∃ c ks',y = .ref c/\ju s.heap (.ref c) ks':=fun y hy=>by
    obtain ⟨e,he,rfl⟩:=qG.mp hy
    have he':e∈es.toList:=by
     rw [Array.toList_filter] at he
     exact (jA.mp he).1
    obtain ⟨q,eq⟩:=qX he'
    rw [qk] at eq
    obtain ⟨ks2,_,t2,_⟩:=D.ent eq
    obtain ⟨c2,_,_,_,e2,_⟩:=id t2
    exact ⟨c2,ks2,e2,by rw [<- e2];exact t2⟩
   have sm:t.sameMemory t.moves t.mask=some true:=by unfold SetTable.sameMemory;rw [if_pos (beq_self_eq_true _)]
   -- once it stands that nobody sees it
   have core:wpAny (model prog w) A (do
     let equal <- holding [Value.ref c] (eqBool (Value.ref c) (Value.ref b))
     let __x <- setState a
     if (adding && equal)=true then pure (SetFound.there none)
      else
       match __x.2.snd.sameMemory t.moves t.mask with
       | some sme =>
        match if sme=true then __x.2.snd.slot (stp m (yu prog w ks) x).j else Slot.empty with
        | Slot.live i' =>
         match __x.fst[i']? with
         | some (fst,y')=>do
          let __do_lift <- isSame y' (Value.ref c)
          let still <- pure (if __do_lift=true then some i' else none)
          match still with
           | none=>do
            rule "set.search.anew"
            setSearchFrom a (Value.ref b) (yu prog w ks) adding fu none
           | some i' =>
            if equal=true then pure (SetFound.there (some i'))
            else setSearchFrom a (Value.ref b) (yu prog w ks) adding fu (some (stp m (yu prog w ks) (x+1)))
         | none=>do
          let still <- pure none
          match still with
           | none=>do
            rule "set.search.anew"
            setSearchFrom a (Value.ref b) (yu prog w ks) adding fu none
           | some i' =>
            if equal=true then pure (SetFound.there (some i'))
            else setSearchFrom a (Value.ref b) (yu prog w ks) adding fu (some (stp m (yu prog w ks) (x+1)))
        | x_1=>do
         let still <- pure none
         match still with
          | none=>do
           rule "set.search.anew"
           setSearchFrom a (Value.ref b) (yu prog w ks) adding fu none
          | some i' =>
           if equal=true then pure (SetFound.there (some i'))
           else setSearchFrom a (Value.ref b) (yu prog w ks) adding fu (some (stp m (yu prog w ks) (x+1)))
       | x_1=>unsupported "set.changed-during-lookup:is-the-new-block-at-the-old-address") Q E s:=by
    refine qb (yq (wpAny_eqBool_tuple hu (ty.key (prog:=prog) (w:=w)) (tb.key (prog:=prog) (w:=w)) ?_))
    refine qb (y3 D.ho D.hd D.fits ?_)
    dsimp only
    have go:∀ eq:Bool,(eq=true->kss[i]?=some ks)->(eq=false->kss[i]?≠some ks)->wpAny (model prog w) A (do
      let __do_lift <- isSame (Value.ref c) (Value.ref c)
      let still <- pure (if __do_lift=true then some i else none)
      match still with
       | none=>do
        rule "set.search.anew"
        setSearchFrom a (Value.ref b) (yu prog w ks) adding fu none
       | some i' =>
        if eq=true then pure (SetFound.there (some i'))
        else setSearchFrom a (Value.ref b) (yu prog w ks) adding fu (some (stp m (yu prog w ks) (x+1)))) (fun r s'=>adding=true/\eq=true\/Q r s') E s:=fun eq q1 q2=>by
     refine qb ?_
     unfold isSame
     dsimp only
     rw [if_pos (beq_self_eq_true _)]
     refine qe (qb (qe ?_))
     simp only [if_true]
     cases eq with
     | true =>
      simp only [if_true]
      refine qe ?_
      cases adding with
      | true=>exact .inl (by simp)
      | false=>exact .inr (by simpa using hin i (q1 rfl))
     | false =>
      simp only [Bool.false_eq_true,if_false]
      refine yS (qaj D tb hu hin hout hK hK2 fu (x+1) _ rfl ?_ ?_ fun l hlx=>?_) (fun r s' q=>.inr q) fun _ _ z=>z
      ·have:x≠K:=fun z=>hK (z ▸ ⟨i,e1⟩)
       omega
      ·have:x≠K:=fun z=>hK (z ▸ ⟨i,e1⟩)
       omega
      ·by_cases z:l=x
       ·subst z;exact ⟨i,e1,q2 rfl⟩
       ·exact before l (by omega)
    by_cases kk:ks'=ks
    ·rw [qm kk]
     cases ha:adding with
     | true =>
      simp only [Bool.and_self,if_true]
      refine qe ?_
      have:=hin i (by rw [ek,kk])
      rw [ha] at this
      simpa using this
     | false =>
      simp only [Bool.and_true,Bool.false_eq_true,if_false,sm,if_true,T.live e1,ee]
      refine yS (by have:=go true (fun _=>by rw [ek,kk]) (fun z=>by cases z);rw [ha] at this;simpa using this) (fun r s' q=>?_) fun _ _ z=>z
      exact q
    ·rw [yB kk]
     simp only [Bool.and_false,Bool.false_eq_true,if_false,sm,if_true,T.live e1,ee]
     refine yS (by have:=go false (fun z=>by cases z) (fun _ z=>kk (by rw [ek] at z;exact Option.some.inj z));simpa using this) (fun r s' q=>?_) fun _ _ z=>z
     exact q
   cases hled:t.led with
   | true =>
    simp only [Bool.not_true,Bool.false_eq_true,if_false,ee]
    exact core
   | false =>
    simp only [Bool.not_false,if_true]
    refine qb (qhU tb hstored ?_)
    simp only [Bool.false_eq_true,if_false,ee]
    exact core
end
end L2
namespace L2
open PySem PySem.Spec PyProof.Rows PySem.W PySem.SetTable
def qbq (prog:Program) (w:World) (Pv:Value->Prop) (h:Heap) (a:Addr) (kss:List (List Int)):Prop:=∃ o es ep t m,SetD prog w Pv h a o es ep t m kss
theorem Z6.kept {prog:Program}{w:World}{h h':Heap}{e:Int×Value}{ks:List Int}(k:∀ b o,h.get? b=some o->o.cls = .type "tuple" -> h'.get? b=some o) (t:Z6 prog w h e ks):Z6 prog w h' e ks:=⟨t.1.kept k,t.2⟩
theorem qbq.kept {prog:Program}{w:World}{Pv:Value->Prop}{h h':Heap}{a:Addr}{kss:List (List Int)}(k:j7 h h') (S:qbq prog w Pv h a kss):qbq prog w Pv h' a kss:=by
 obtain ⟨o,es,ep,t,m,D⟩:=S
 exact ⟨o,es,ep,t,m,k _ _ D.ho,D.ex,D.hd,D.pl,D.ld,D.mok,D.si,Paired.mapP D.en fun e ks t=>t.kept fun b o e _=>k b o e,D.nd,D.own⟩
theorem qep {prog:Program}{w:World}{h h':Heap}{a:Addr}{o:Obj}(ho:h.get? a=some o) (hc:o.cls = .type "set") (sb:Heap.SameBut a h h') {e:Int×Value}{ks:List Int}(t:Z6 prog w h e ks):Z6 prog w h' e ks :=
 t.kept fun b o' e hcl=>by
  have ne:b≠a:=by
   rintro rfl
   rw [ho] at e
   cases e
   rw [hc] at hcl
   exact absurd hcl (by decide)
  rw [sb.2 b ne];exact e
section
variable {prog:Program}{w:World}{A:Around}{E:Value->Shared->Prop}{s:Shared}{a:Addr}{o:Obj}{es:Array (Int×Value)}{ep:Nat}{t:SetTable}{m:Nat}{kss:List (List Int)}
theorem qfn (a:Addr) (wanted:Nat):setRelay a wanted=(do
  let (es,_,t) <- setState a
  if SetTable.sizeAbove wanted > sizeLine then unsupported "set:memory"
  let (es,t) <- (do
   let some (t,order):=t.relaid (es.map (·.1)) wanted | unsupported "internal:set-table-without-room"
   let es':=order.filterMap (es[·]?)
   if es'.size != es.size then unsupported "internal:set-table-lost-an-element"
   pure (es',t))
  storeSet a es t):=rfl
theorem SetI.put {j:Nat}{x:Int×Value}(I:SetI t es m es.size) (hj:¬ Fl t j) (hm:j<=m) (hr:Rch (Fl t) m x.1 j):SetI (t.put j).1 (insertAt es (t.put j).2 x) m (es.size+1):=by
 obtain ⟨T',e2,e3⟩:=I.tab.put hj hm
 have hb:=(Jg I.tab.rise j).2.2
 have hb2:below t.place j<=es.size:=by rw [<- I.tab.size];exact hb
 have up:∀ q,Fl t q->Fl (t.put j).1 q:=fun q ⟨i,e⟩=>by
  unfold Fl
  rw [e3]
  by_cases c:i<below t.place j
  ·exact ⟨i,by rw [yX hb,if_pos c];exact e⟩
  ·exact ⟨i+1,by rw [yX hb,if_neg (by omega),if_neg (by omega)];exact e⟩
 refine ⟨T',by rw [e2,YI hb2],fun j' e' hA=>?_⟩
 rw [e3,e2] at hA
 rcases (qk2 hb hb2).mp hA with h | ⟨rfl,rfl⟩
 ·exact (I.rch j' e' h).mono up
 ·exact hr.mono up
theorem Zm {α β:Type}{R:α->β->Prop}:∀ {xs:List α}{ys:List β}(p:Nat) {x:α}{y:β},PySem.Paired R xs ys->R x y->PySem.Paired R (xs.take p++x::xs.drop p) (ys.take p++y::ys.drop p)
 | _,_,0,x,y,h,r=>.cons r h
 | _,_,p+1,x,y,.nil,r=>by simpa using PySem.Paired.cons r .nil
 | _,_,p+1,x,y,.cons h t,r=>.cons h (Zm p t r)
theorem qb1 {α:Type}{xs:Array α}{p:Nat}{x:α}(hp:p<=xs.size):(insertAt xs p x).toList=xs.toList.take p++x::xs.toList.drop p:=by
 unfold insertAt
 simp [List.take_of_length_le]
theorem qdR {α:Type}{xs:List α}{p:Nat}{x y:α}:y∈xs.take p++x::xs.drop p ↔ y=x\/y∈xs:=by
 have:y∈xs ↔ y∈xs.take p\/y∈xs.drop p:=by rw [<- List.mem_append,qD]
 simp only [List.mem_append,List.mem_cons,this]
 constructor
 ·rintro (h | h | h)
  ·exact .inr (.inl h)
  ·exact .inl h
  ·exact .inr (.inr h)
 ·rintro (h | h | h)
  ·exact .inr (.inl h)
  ·exact .inl h
  ·exact .inr (.inr h)
theorem qdN {α:Type}{xs:List α}{p:Nat}{x:α}(h:xs.Nodup) (hx:x∉xs):(xs.take p++x::xs.drop p).Nodup:=by
 have e:(xs.take p++x::xs.drop p).Perm (x::xs):=by
  have:=List.perm_middle (a:=x) (l₁:=xs.take p) (l₂:=xs.drop p)
  rwa [qD] at this
 exact e.nodup_iff.mpr (List.nodup_cons.mpr ⟨hx,h⟩)
end
end L2
namespace L2
open PySem PySem.Spec PyProof.Rows PySem.W PySem.SetTable
theorem JX {α β:Type}{R:α->β->Prop}:∀ {l:List α},(∀ e∈l,∃ k,R e k)->∃ ks,PySem.Paired R l ks
 | [],_=>⟨[],.nil⟩
 | e::l,h=>by
  obtain ⟨k,hk⟩:=h e ql
  obtain ⟨ks,hks⟩:=JX (fun x hx=>h x (qg _ hx))
  exact ⟨k::ks,.cons hk hks⟩
section
variable {prog:Program}{w:World}{Pv:Value->Prop}{A:Around}{E:Value->Shared->Prop}{s:Shared}{a:Addr}{o:Obj}{es:Array (Int×Value)}{ep:Nat}{t:SetTable}{m:Nat}{kss:List (List Int)}
theorem Z6.inj {h:Heap}{e:Int×Value}{k k':List Int}(h1:Z6 prog w h e k) (h2:Z6 prog w h e k'):k=k':=by
 obtain ⟨b,_,_,_,e1,_⟩:=id h1.1
 have t1:ju h (.ref b) k:=e1 ▸ h1.1
 have t2:ju h (.ref b) k':=e1 ▸ h2.1
 exact (t1.key (prog:=prog) (w:=w)).inj (t2.key (prog:=prog) (w:=w))
theorem qax (ho:s.heap.get? a=some o) (hd:o.data = .set es ep t) (es':Array (Int×Value)) (t':SetTable):(s.heap.update a (Obj.putSet es' t')).get? a=some { o with data:=.set es' (ep+1) t' }:=by
 have:=jp (Obj.putSet es' t') ho (by rw [putSet_of es' t' hd];rfl)
 rw [putSet_of es' t' hd] at this
 exact this
theorem qfm {m' n:Nat}{wanted:Nat}{Q:Unit->Shared->Prop}(ho:s.heap.get? a=some o) (ex:o.ExactSet) (hd:o.data = .set es ep t) (pl:t.plain=true) (le:t.led=!jJ w) (hf:t.fits es.size=true) (en:PySem.Paired (Z6 prog w s.heap) es.toList kss) (nd:kss.Nodup) (ow:∀ e∈es.toList,Pv e.2)
  (hw:sizeAbove wanted=m'+1) (mo:j6 m' es.size) (h:∀ h' kss',Heap.SameBut a s.heap h'->qbq prog w Pv h' a kss'->(∀ k,k∈kss' ↔ k∈kss)->Q () { s with heap:=h' }):wpAny (model prog w) A (setRelay a wanted) Q E s:=by
 rw [qfn]
 refine qb (y3 ho hd hf ?_)
 dsimp only
 have hle:=mo.le
 have m127:m'<=8191:=by unfold j6 at mo;omega
 rw [if_neg (by rw [hw,sizeLine_eq];omega)]
 obtain ⟨t',order,e1,e2,e3,e4,e5,e6,e7⟩:=qiE (m:=m') (n:=es.size) (fi:=t.finger) (mv:=t.movedTo (sizeAbove wanted - 1)) (ld:=t.led) (pl:=t.plain) mo.full (es:=es) rfl (by omega)
 have er:t.relaid (es.map (·.1)) wanted=some (t',order):=by
  unfold SetTable.relaid
  rw [show sizeAbove wanted - 1=m' by omega] at e1 ⊢
  exact e1
 rw [er]
 dsimp only
 have e4':((order.filterMap (es[·]?)).size != es.size)=false:=by rw [e4];simp
 rw [e4']
 simp only [Bool.false_eq_true,if_false,pure_bind]
 generalize order.filterMap (es[·]?)=es2 at *
 refine wpAny_storeSet_of ho hd ?_ (by rw [e4,sizeLine_eq];omega)
 have sb:Heap.SameBut a s.heap (s.heap.update a (Obj.putSet es2 t')):=Heap.SameBut.update s.heap a _
 have old:∀ e∈es2.toList,∃ k,Z6 prog w s.heap e k/\k∈kss:=fun e he=>by
  obtain ⟨i,ei⟩:=qX ((e6 e).mp he)
  obtain ⟨k,k1,k2⟩:=L2.Paired.get en ei
  exact ⟨k,k2,List.mem_of_getElem? k1⟩
 obtain ⟨kss2,en2⟩:=JX (R:=Z6 prog w s.heap) (l:=es2.toList) fun e he=>let ⟨k,k1,_⟩:=old e he;⟨k,k1⟩
 refine h _ kss2 sb ⟨_,es2,ep+1,t',m',qax ho hd es2 t',⟨ex.1,ex.2.1,ex.2.2⟩,rfl,by rw [e3];exact pl,by rw [e2];exact le,by rw [e4];exact mo,by rw [e4];exact e5,Paired.mapP en2 fun e ks tt=>qep ho ex.1 sb tt,?_,fun e he=>ow e ((e6 e).mp he)⟩ fun k=>⟨fun hk=>?_,fun hk=>?_⟩
 ·refine qM.mpr fun i i' hi hi' hlt z=>?_
  obtain ⟨x,x1,x2⟩:=L2.Paired.get' en2 (List.getElem?_eq_getElem hi)
  obtain ⟨x',x1',x2'⟩:=L2.Paired.get' en2 (List.getElem?_eq_getElem hi')
  rw [qk] at x1 x1'
  have:=e7 i i' x x' x1 x1' fun y y' ey ey'=>by
   obtain ⟨k,k1,k2⟩:=L2.Paired.get en (show es.toList[y]?=some x by rw [qk];exact ey)
   obtain ⟨k',k1',k2'⟩:=L2.Paired.get en (show es.toList[y']?=some x' by rw [qk];exact ey')
   have q1:=k2.inj x2
   have q2:=k2'.inj x2'
   rw [q1] at k1
   rw [q2,<- z] at k1'
   have hy:y<kss.length:=(qp.mp k1).1
   have hy':y'<kss.length:=(qp.mp k1').1
   have g1:=(qp.mp k1).2
   have g2:=(qp.mp k1').2
   exact (List.getElem_inj nd).mp (g1.trans g2.symm)
  omega
 ·obtain ⟨i,ei⟩:=qX hk
  obtain ⟨x,x1,x2⟩:=L2.Paired.get' en2 ei
  obtain ⟨k',k1,k2⟩:=old x (List.mem_of_getElem? x1)
  rw [x2.inj k1];exact k2
 ·obtain ⟨i,ei⟩:=qX hk
  obtain ⟨x,x1,x2⟩:=L2.Paired.get' en ei
  have hx:=(e6 x).mpr (List.mem_of_getElem? x1)
  obtain ⟨i2,ei2⟩:=qX hx
  obtain ⟨k2,q1,q2⟩:=L2.Paired.get en2 ei2
  rw [x2.inj q2]
  exact List.mem_of_getElem? q1
theorem qlE (S:qbq prog w Pv s.heap a kss) {b:Addr}{ks:List Int}(tb:ju s.heap (.ref b) ks) (pb:Pv (.ref b)) (hu:A.units<cLine) (hn:kss.length<4914) {Q:Bool->Shared->Prop}(hin:ks∈kss->Q false s)
  (hout:ks∉kss->∀ h' kss',Heap.SameBut a s.heap h'->qbq prog w Pv h' a kss'->(∀ k,k∈kss' ↔ k=ks\/k∈kss)->Q true { s with heap:=h' }):wpAny (model prog w) A (setAddHashed a (.ref b) (yu prog w ks)) Q E s:=by
 obtain ⟨o,es,ep,t,m,D⟩:=S
 have T:=D.si.tab
 have hl:=D.len
 have hle:=D.mok.le
 obtain ⟨q,q1,q2⟩:=T.free (yH hle.1)
 obtain ⟨K,K1,K2⟩:=D.mok.full.walk (yu prog w ks) q1
 unfold setAddHashed
 refine yq ?_
 show wpAny (model prog w) A (setAddHashedIn a (.ref b) (yu prog w ks) (99999+1)) Q E s
 unfold setAddHashedIn
 refine qb (y3 D.ho D.hd D.fits ?_)
 dsimp only
 rw [if_neg (by simp [byScan,Value.scannable])]
 refine qb ?_
 have m127:m<=8191:=by have:=D.mok;unfold j6 at this;omega
 refine qaj D tb hu (adding:=true) (fun i ei=>?_) (fun no j n1 n2 n3=>?_) (K:=K) (by rw [K2];exact q2) K1 100000 0 none (by show t.probeStart _=_;rw [qe8,T.mask]) (qZ _) (by omega) fun l z=>absurd z (by omega)
 ·simp only [if_true]
  exact qe (hin (List.mem_of_getElem? ei))
 ·dsimp only
  refine qb (y3 D.ho D.hd D.fits ?_)
  dsimp only
  have I1:=D.si.put (x:=(yu prog w ks,Value.ref b)) n1 n2 n3
  obtain ⟨T1,p2,p3⟩:=T.put n1 n2
  have hb:=(Jg T.rise j).2.2
  have hb2:below t.place j<=es.size:=by rw [<- T.size];exact hb
  have pl1:(t.put j).1.plain=true:=D.pl
  have le1:(t.put j).1.led=!jJ w:=D.ld
  rw [pl1]
  simp only [if_true]
  refine qb (qiM tb ?_)
  simp only [if_true]
  have sz1:(insertAt es (t.put j).2 (yu prog w ks,Value.ref b)).size=es.size+1:=by rw [p2,YI hb2]
  have en1:PySem.Paired (Z6 prog w s.heap) (insertAt es (t.put j).2 (yu prog w ks,Value.ref b)).toList (kss.take (below t.place j)++ks::kss.drop (below t.place j)):=by
   rw [p2,qb1 hb2]
   exact Zm _ D.en ⟨tb,rfl⟩
  have ow1:∀ e∈(insertAt es (t.put j).2 (yu prog w ks,Value.ref b)).toList,Pv e.2:=fun e he=>by
   rw [p2,qb1 hb2] at he
   rcases qdR.mp he with rfl | he
   ·exact pb
   ·exact D.own e he
  have nd1:=qdN (p:=below t.place j) D.nd no
  have fits1:(t.put j).1.fits (es.size+1)=true:=by
   unfold SetTable.fits SetTable.fill
   rw [T1.dm,T1.size,T1.mask]
   simp
   omega
  generalize (t.put j).1=t1 at *
  generalize insertAt es (t.put j).2 (yu prog w ks,Value.ref b)=es1 at *
  generalize hk1:kss.take (below t.place j)++ks::kss.drop (below t.place j)=kss1 at *
  have mem1:∀ k,k∈kss1 ↔ k=ks\/k∈kss:=fun k=>by rw [<- hk1];exact qdR
  refine qb (wpAny_storeSet_of D.ho D.hd ?_ (by rw [sz1,sizeLine_eq];omega))
  have sb:Heap.SameBut a s.heap (s.heap.update a (Obj.putSet es1 t1)):=Heap.SameBut.update s.heap a _
  have g1:=qax D.ho D.hd es1 t1
  have en2:PySem.Paired (Z6 prog w (s.heap.update a (Obj.putSet es1 t1))) es1.toList kss1:=Paired.mapP en1 fun e k tt=>qep D.ho D.ex.1 sb tt
  generalize s.heap.update a (Obj.putSet es1 t1)=h1 at *
  have tf:t1.tooFull=decide ((es.size+1) * 5 ≥ m * 3):=by
   unfold SetTable.tooFull SetTable.fill
   rw [T1.dm,T1.size,T1.mask]
   rfl
  rw [tf]
  simp only [Bool.not_false,Bool.true_and,decide_eq_true_eq]
  by_cases c:(es.size+1) * 5 ≥ m * 3
  ·rw [if_pos c]
   have big:∃ m',sizeAbove (grown (es.size+1))=m'+1/\j6 m' (es.size+1):=by
    rcases D.mok with ⟨rfl,hlt⟩ | ⟨rfl,hlt⟩ | ⟨rfl,hlt⟩ | ⟨rfl,hlt⟩ | ⟨rfl,hlt⟩ | ⟨rfl,hlt⟩
    ·have:es.size=4:=by omega
     rw [this]
     exact ⟨31,by decide,.inr (.inl ⟨rfl,by omega⟩)⟩
    ·have:es.size=18:=by omega
     rw [this]
     exact ⟨127,by decide,.inr (.inr (.inl ⟨rfl,by omega⟩))⟩
    ·have:es.size=76:=by omega
     rw [this]
     exact ⟨511,by decide +kernel,.inr (.inr (.inr (.inl ⟨rfl,by omega⟩)))⟩
    ·have:es.size=306:=by omega
     rw [this]
     exact ⟨2047,by decide +kernel,.inr (.inr (.inr (.inr (.inl ⟨rfl,by omega⟩))))⟩
    ·have:es.size=1228:=by omega
     rw [this]
     exact ⟨8191,by decide +kernel,.inr (.inr (.inr (.inr (.inr ⟨rfl,by omega⟩))))⟩
    ·omega
   obtain ⟨m',w1,w2⟩:=big
   refine qb (qfm (s:={ s with heap:=h1 }) (n:=0) g1 ⟨D.ex.1,D.ex.2.1,D.ex.2.2⟩ rfl pl1 le1 (by rw [sz1];exact fits1) en2 nd1 ow1 w1 (by rw [sz1];exact w2) fun h' kss' sb' S' mem'=>?_)
   exact qe (hout no h' kss' ⟨sb'.1.trans sb.1,fun b' ne=>(sb'.2 b' ne).trans (sb.2 b' ne)⟩ S' fun k=>(mem' k).trans (mem1 k))
  ·rw [if_neg c]
   refine qe (hout no h1 kss1 sb ⟨_,es1,ep+1,t1,m,g1,⟨D.ex.1,D.ex.2.1,D.ex.2.2⟩,rfl,pl1,le1,?_,by rw [sz1];exact I1,en2,nd1,ow1⟩ mem1)
   rw [sz1]
   rcases D.mok with ⟨rfl,hlt⟩ | ⟨rfl,hlt⟩ | ⟨rfl,hlt⟩ | ⟨rfl,hlt⟩ | ⟨rfl,hlt⟩ | ⟨rfl,hlt⟩
   ·exact .inl ⟨rfl,by omega⟩
   ·exact .inr (.inl ⟨rfl,by omega⟩)
   ·exact .inr (.inr (.inl ⟨rfl,by omega⟩))
   ·exact .inr (.inr (.inr (.inl ⟨rfl,by omega⟩)))
   ·exact .inr (.inr (.inr (.inr (.inl ⟨rfl,by omega⟩))))
   ·exact .inr (.inr (.inr (.inr (.inr ⟨rfl,by omega⟩))))
end
end L2
namespace L2
open PySem PySem.Spec PyProof.Rows PySem.W PySem.SetTable
theorem Yi {α β:Type}{R R':α->β->Prop}:∀ {xs:List α}{ys:List β},PySem.Paired R xs ys->(∀ x∈xs,∀ y,R x y->R' x y)->PySem.Paired R' xs ys
 | _,_,.nil,_=>.nil
 | _,_,.cons r t,h=>.cons (h _ ql _ r) (Yi t fun x hx=>h x (qg _ hx))
def In0 (h0:Heap) (Pv:Value->Prop):Prop:=∀ v,Pv v->∃ b o,v = .ref b/\h0.get? b=some o
theorem ju.move {h0 h h':Heap}{b:Addr}{o:Obj}{ks:List Int}(e:h0.get? b=some o) (k0:j7 h0 h) (k1:j7 h0 h') (t:ju h (.ref b) ks):ju h' (.ref b) ks:=by
 obtain ⟨b',o',xs,n,eb,ho,r⟩:=t
 cases eb
 have:=k0 _ _ e
 rw [this] at ho
 cases ho
 exact ⟨b,o,xs,n,rfl,k1 _ _ e,r⟩
theorem qbq.move {prog:Program}{w:World}{Pv:Value->Prop}{h0 h h':Heap}{a:Addr}{kss:List (List Int)}(S:qbq prog w Pv h a kss) (hPv:In0 h0 Pv) (k0:j7 h0 h) (k1:j7 h0 h') (hs:∀ o,h.get? a=some o->h'.get? a=some o):qbq prog w Pv h' a kss:=by
 obtain ⟨o,es,ep,t,m,D⟩:=S
 refine ⟨o,es,ep,t,m,hs _ D.ho,D.ex,D.hd,D.pl,D.ld,D.mok,D.si,Yi D.en fun e he ks ek=>?_,D.nd,D.own⟩
 obtain ⟨hh,v⟩:=e
 obtain ⟨b,o0,rfl,e0⟩:=hPv v (D.own _ he)
 exact ⟨ju.move e0 k0 k1 ek.1,ek.2⟩
section
variable {prog:Program}{w:World}{Pv:Value->Prop}{A:Around}{R:Result->Shared->Prop}{I:Addr}{fp wr:List Addr}{n:Nat}{P:Nat->Value->Prop}{St:Nat->Shared->Prop}
theorem qfb {h0:Heap}{key:Nat->List Int}(W:WalksS prog w A.in1 I fp wr (fun a b=>b=a) n P St) {S:Addr}(hSf:S∉fp) (hS0:h0.get? S=none) (hwr:∀ b∈wr,h0.get? b=none) (hPv:In0 h0 Pv)
  (hval:∀ i v,P i v->ju h0 v (key i)/\Pv v) (hn:∀ ms:List (List Int),ms.Nodup->(∀ q∈ms,∃ j,j<n/\key j=q)->ms.length<4914) (hu:A.units+8<cLine) :
  ∀ (k i:Nat) (s:Shared) (kss:List (List Int)),n - i=k->i<=n->St i s->j7 h0 s.heap->qbq prog w Pv s.heap S kss->(∀ q,q∈kss ↔ ∃ j,j<i/\key j=q)->kss.length<=i →
   (∀ s' kss',Moved (S::wr) (fun a b=>b=a) s s'->j7 h0 s'.heap->qbq prog w Pv s'.heap S kss'->(∀ q,q∈kss' ↔ ∃ j,j<n/\key j=q)->kss'.length<=n->R (.ok (.ret .none)) s') →
   codeAny (model prog w) A (.builtin "set.update.loop" ⟨[.ref S,.ref I],[]⟩) R s:=by
 have hSw:S∉wr:=fun h=>hSf (W.sub _ h)
 have hsub:∀ b∈wr,b∈S::wr:=fun b hb=>qg _ hb
 have kp:∀ {s s':Shared},j7 h0 s.heap->Moved wr (fun a b=>b=a) s s'->j7 h0 s'.heap:=fun k0 hm b o e=>hm.heap b o (fun z=>by rw [hwr b z] at e;cases e) (k0 b o e)
 intro k
 induction k with
 | zero =>
  intro i s kss hk hi hst k0 hS hmem hlen hR
  have hin:i=n:=by omega
  subst hin
  refine codeAny_builtin F.entry_set_update_loop ?_
  rw [Around.under_plainId F.plain_set_update_loop _]
  refine qb (m:=pyNext (.ref I)) (W.done s _ _ hst fun s' hm=>?_)
  refine qe (hR s' kss (hm.mono hsub) (kp k0 hm) ?_ hmem hlen)
  exact hS.move hPv k0 (kp k0 hm) fun o e=>hm.heap S o hSw e
 | succ k ih =>
  intro i s kss hk hi hst k0 hS hmem hlen hR
  have hlt:i<n:=by omega
  refine codeAny_builtin F.entry_set_update_loop ?_
  rw [Around.under_plainId F.plain_set_update_loop _]
  refine qb (m:=pyNext (.ref I)) (W.item i s _ _ hlt hst fun v s' hP hst' hm=>?_)
  have k1:=kp k0 hm
  have hS':=hS.move hPv k0 k1 fun o e=>hm.heap S o hSw e
  obtain ⟨tv,pv⟩:=hval i v hP
  obtain ⟨b,o0,rfl,e0⟩:=hPv v pv
  have tb:ju s'.heap (.ref b) (key i):=ju.move e0 (fun _ _ z=>z) k1 tv
  refine qb (m:=holding [Value.ref b] (setAdd S (.ref b))) (yq ?_)
  unfold setAdd
  refine yq ?_
  have hu1:A.in1.units<cLine:=by show A.units+_<_;omega
  refine qb (wpAny_pyHash_tuple hu1 (tb.key (prog:=prog) (w:=w)) ?_)
  refine qlE (s:={ s' with toks:=s'.toks+((key i).length+1) }) hS' tb pv hu1 (hn kss (let ⟨_,_,_,_,_,D⟩:=hS;D.nd) fun q hq=>let ⟨j,hj,e⟩:=(hmem q).mp hq;⟨j,Nat.lt_trans hj hlt,e⟩) (fun hin=>?_) fun hout h' kss' sb S2 mem2=>?_
  ·refine qe ⟨plainId_quiet F.plain_set_update_loop _,ih (i+1) _ kss (by omega) hlt (W.frame _ s' s'.heap _ hst' (by omega) fun b hb o e=>e) k1 hS' (fun q=>?_) (by omega) fun s'' kss'' hm'' k2 S'' mem'' len''=>?_⟩
   ·rw [hmem q]
    constructor
    ·rintro ⟨j,hj,e⟩;exact ⟨j,by omega,e⟩
    ·rintro ⟨j,hj,e⟩
     by_cases c:j<i
     ·exact ⟨j,c,e⟩
     ·have:j=i:=by omega
      subst this
      rw [e] at hin
      exact (hmem q).mp hin
   ·exact hR s'' kss'' (Moved.trans W.gtrans ((hm.mono hsub).then_heap (h':=s'.heap) (tk:=s'.toks+((key i).length+1)) (by omega) fun b o hb e=>e) hm'') k2 S'' mem'' len''
  ·have k1':j7 h0 h':=fun b o e=>by
    rw [sb.2 b (fun z=>by rw [z,hS0] at e;cases e)]
    exact k1 b o e
   have hl':kss'.length<=i+1:=by
    obtain ⟨_,_,_,_,_,D1⟩:=hS'
    obtain ⟨_,_,_,_,_,D2⟩:=S2
    have:kss'.length<=(key i::kss).length:=List.Nodup.length_le_of_subset D2.nd fun q hq=>by
     rcases (mem2 q).mp hq with rfl | z
     ·exact ql
     ·exact qg _ z
    simp only [List.length_cons] at this
    omega
   refine qe ⟨plainId_quiet F.plain_set_update_loop _,ih (i+1) _ kss' (by omega) hlt (W.frame _ s' h' (s'.toks+((key i).length+1)) hst' (by omega) fun b hb o e=>?_) k1' S2 (fun q=>?_) hl' fun s'' kss'' hm'' k2 S'' mem'' len''=>?_⟩
   ·rw [sb.2 b (fun h:b=S=>hSf (by rw [<- h];exact hb))];exact e
   ·rw [mem2 q,hmem q]
    constructor
    ·rintro (rfl | ⟨j,hj,e⟩)
     ·exact ⟨i,by omega,rfl⟩
     ·exact ⟨j,by omega,e⟩
    ·rintro ⟨j,hj,e⟩
     by_cases c:j<i
     ·exact .inr ⟨j,c,e⟩
     ·have:j=i:=by omega
      subst this
      exact .inl e.symm
   ·refine hR s'' kss'' (Moved.trans W.gtrans ((hm.mono hsub).then_heap (h':=h') (tk:=s'.toks+((key i).length+1)) (by omega) fun b o hb e=>?_) hm'') k2 S'' mem'' len''
    rw [sb.2 b (fun h:b=S=>hb (by rw [h];exact ql))];exact e
end
end L2
namespace L2
open PySem PySem.Spec PyProof.Rows PySem.W PySem.SetTable
abbrev Zh (w:World):Obj:={ cls:=.type "set",dict:=none,data:=.set #[] 0 (.fresh 0 0 (!jJ w)) }
theorem qdk:qhy #[]:=fun i j a b=>absurd b (by simp)
theorem qfH {prog:Program}{w:World}{Pv:Value->Prop}{h:Heap}{a:Addr}(e:h.get? a=some (Zh w)):qbq prog w Pv h a [] :=
 ⟨_,#[],0,_,7,e,⟨rfl,rfl,rfl⟩,rfl,rfl,rfl,.inl ⟨rfl,by decide⟩,⟨⟨rfl,rfl,rfl,qdk,fun i j z=>by simp [SetTable.fresh] at z⟩,rfl,fun j e ⟨i,z,_⟩=>by simp [SetTable.fresh] at z⟩,.nil,List.nodup_nil,fun e z=>by simp at z⟩
section
variable {prog:Program}{w:World}{A:Around}{E:Value->Shared->Prop}{s:Shared}
theorem qfa (x:Value) {Q₁:Value->Shared->Prop}(q:Q₁ (.ref s.heap.objs.size) { s with heap:=s.heap.push (Zh w) }) :
  codeAny (model prog w) A (.call (.builtin "set.__new__") ⟨[.type "set",x],[]⟩) (wants Q₁ E) s:=by
 refine codeAny_of_tree ?_
 refine qb (m:=checkBuiltinCall "set.__new__" ⟨[.type "set",x],[]⟩) (wpAny_of_eq (F.newCall_set_1 x) (qe ⟨plainId_quiet F.plain_set_new _,codeAny_builtin F.entry_set_new ?_⟩))
 rw [Around.under_plainId F.plain_set_new _]
 unfold Builtin.«set.__new__» Builtin.Frozenset.newClass
 have hsub:=sub_set_self
 obtain ⟨hp,g,d,tk,os⟩:=s
 dsimp only
 wp_walk
 refine wpAny_askSetting (qe ?_)
 dsimp only
 simp only [newObj]
 refine qb (wpAny_alloc (qe (qe q)))
theorem qcn {l:Addr}{vs:List Value}{kss:List (List Int)}{Q:Value->Shared->Prop}(hh:A.handled=none) (hl:s.heap.IsList l vs.toArray) (hT:PySem.Paired (ju s.heap) vs kss) (hn:∀ ms:List (List Int),ms.Nodup->(∀ q∈ms,q∈kss)->ms.length<4914) (hu:A.units+64<cLine)
  (h:∀ h' tk ms,qbq prog w (·∈vs) h' s.heap.objs.size ms->(∀ q,q∈ms ↔ q∈kss)->j7 s.heap h'->Q (.ref s.heap.objs.size) { s with heap:=h',toks:=tk }):wpAny (model prog w) A (call (.type "set") [.ref l]) Q E s:=by
 obtain ⟨c,tl,hmro⟩:=F.called_set.mro
 have made:=F.called_set.made
 have sub:=F.called_set.sub
 refine wpAny_call (codeAny_of_tree ?_)
 show wpAny (model prog w) _ (callAny (.type "set") _) _ _ s
 refine qe ⟨Code.quiet_builtin _ (by decide +kernel),codeAny_builtin F.entry_type_call ?_⟩
 rw [Around.under_plain (weight_type_call_type "set" [Value.ref l] []) rfl]
 have t1:=F.called_set.notType
 have t2:=F.called_set.canCreate
 have t3:=F.typeCall_set_1 (Value.ref l)
 repeat (any_goals first | assumption | wp_step)
 refine codeAny_mono (qfa (prog:=prog) (.ref l) (E:=E) (Q₁:=fun v s₁=>v = .ref s.heap.objs.size/\s₁={ s with heap:=s.heap.push (Zh w) }) ⟨rfl,rfl⟩) fun r s₁ hr=>?_
 cases r with
 | error e=>exact hr
 | ok fl =>
  cases fl with
  | next=>exact hr.elim
  | brk=>exact hr.elim
  | cont=>exact hr.elim
  | ret v =>
   obtain ⟨rfl,rfl⟩:=hr
   have hS:(s.heap.push (Zh w)).get? s.heap.objs.size=some (Zh w):=qC _ rfl
   have hTy:Shared.TypeIs { s with heap:=s.heap.push (Zh w) } (.ref s.heap.objs.size) "set" := ⟨_,hS,rfl⟩
   have i1:=F.called_set.init.lookup
   have i2:=F.called_set.init.bind (.ref s.heap.objs.size)
   repeat (any_goals first | assumption | wp_step)
   refine codeAny_mono (codeAny_call_builtin (R:=wants (fun r s₂=>r = .none/\∃ h' tk ms,s₂={ s with heap:=h',toks:=tk }/\qbq prog w (·∈vs) h' s.heap.objs.size ms/\(∀ q,q∈ms ↔ q∈kss)/\j7 s.heap h') E)
    F.called_set.init.plain F.entry_set_init (check_set_init_1 hTy ?_)) fun r₂ s₂ hr₂=>?_
   ·obtain ⟨ol,hol,hcl,nl,hdl⟩:=hl
    obtain ⟨ocls,odict,odata,oslots⟩:=ol
    simp only at hcl hdl
    subst hcl;subst hdl
    have hlt:l<s.heap.objs.size:=qi hol
    have hol1:(s.heap.push (Zh w)).get? l=some { cls:=.type "list",dict:=odict,data:=.seq vs.toArray nl,slots:=oslots }:=qc _ hol
    have s1:=F.sub_list_set
    have s2:=F.sub_list_frozenset
    have s3:(Value.type "list" == Value.type "dict")=false:=by decide
    have hl1:(s.heap.push (Zh w)).IsList l vs.toArray:=⟨_,hol1,rfl,nl,rfl⟩
    unfold Builtin.«set.__init__» noKeywords Builtin.Frozenset.updateFrom
    generalize hPI:pyIter=PI
    wp_walk
    subst hPI
    refine wpAny_pyIter_list hl1 (qb (wpAny_runValue ?_))
    have sz1:(s.heap.push (Zh w)).objs.size=s.heap.objs.size+1:=Heap.size_push ..
    have kp2:j7 s.heap ((s.heap.push (Zh w)).push { cls:=.type "list_iterator",data:=.fields #[.ref l,.int 0 0] }):=fun b o e=>qc _ (qc _ e)
    have no:∀ b,s.heap.objs.size<=b->s.heap.get? b=none:=fun b hb=>by
     cases z:s.heap.get? b with
     | none=>rfl
     | some o=>exact absurd (qi z) (Nat.not_lt.mpr hb)
    have hin:In0 s.heap (·∈vs):=fun v hv=>by
     obtain ⟨i,ei⟩:=qX hv
     obtain ⟨ks,_,b,o,xs,n,e,ho,_⟩:=L2.Paired.get hT ei
     exact ⟨b,o,e,ho⟩
    refine qfb (A:=A.in1.in1) (key:=fun i=>kss.getD i []) (h0:=s.heap) (Pv:=(·∈vs)) (Walks.list (by simp [hh]) _ l (by rw [sz1];exact qz (Nat.lt_succ_of_lt hlt)) vs.toArray).toS (S:=s.heap.objs.size) ?_ (no _ (qj _)) (fun b hb=>?_) hin
     (fun i v hv=>?_) (fun ms nd hm=>hn ms nd fun q hq=>by
      obtain ⟨j,hj,e⟩:=hm q hq
      have hk:j<kss.length:=by
       rw [<- L2.Paired.len hT]
       simpa using hj
      rw [qK,List.getElem?_eq_getElem hk] at e
      rw [<- e]
      exact qU hk) (by show A.units+1+1+8<_;omega) (vs.toArray.size - 0) 0 _ [] rfl (qZ _) ⟨⟨_,qC _ rfl,rfl,rfl⟩,hl1.push _⟩ kp2 (qfH (qc _ hS)) (fun q=>by simp) (qZ _) fun s' ms hm k2 S2 mem2 _=>?_
    ·rw [sz1];simp only [List.mem_cons,List.not_mem_nil,or_false,not_or];exact ⟨qz (Nat.lt_succ_self _),Nat.ne_of_gt hlt⟩
    ·rw [qE.mp hb,sz1];exact no _ (Nat.le_succ _)
    ·have hv':vs[i]?=some v:=by simpa using hv
     have hi:i<vs.length:=(qp.mp hv').1
     have:=jG hT i hi
     rw [qK,hv'] at this
     exact ⟨this,List.mem_of_getElem? hv'⟩
    ·obtain ⟨h',g',d',tk',os'⟩:=s'
     have e1:g'=s.gens:=hm.gens
     have e2:d'=s.drawn:=hm.drawn
     have e3:os'=s.os:=hm.os
     subst e1;subst e2;subst e3
     refine qe ?_
     refine qe ⟨rfl,h',tk',ms,rfl,S2,fun q=>?_,k2⟩
     rw [mem2 q,List.size_toArray,L2.Paired.len hT]
     constructor
     ·rintro ⟨j,hj,e⟩
      rw [qK,List.getElem?_eq_getElem hj] at e
      exact e ▸ qU hj
     ·intro hq
      obtain ⟨j,hj,e⟩:=List.getElem_of_mem hq
      exact ⟨j,hj,by rw [qK,List.getElem?_eq_getElem hj];exact e⟩
   ·cases r₂ with
    | error e=>exact hr₂
    | ok fl₂ =>
     cases fl₂ with
     | next=>exact hr₂.elim
     | brk=>exact hr₂.elim
     | cont=>exact hr₂.elim
     | ret r =>
      obtain ⟨rfl,h',tk,ms,rfl,q1,q2,q3⟩:=hr₂
      repeat (any_goals first | assumption | wp_step)
      exact h _ _ _ q1 q2 q3
theorem Zn {α:Type} [DecidableEq α]:∀ {ms kss:List α},ms.Nodup->(∀ q∈ms,q∈kss)->ms.length<=kss.length
 | [],_,_,_=>qZ _
 | a::ms,kss,hn,h=>by
  have ha:=h a ql
  have h1:=Zn (ms:=ms) (kss:=kss.erase a) (List.nodup_cons.mp hn).2 (fun q hq=>by
   have hne:q≠a:=fun z=>(List.nodup_cons.mp hn).1 (z ▸ hq)
   exact (List.mem_erase_of_ne hne).mpr (h q (qg _ hq)))
  rw [List.length_erase_of_mem ha] at h1
  have:=List.length_pos_of_mem ha
  simp only [List.length_cons]
  omega
end
end L2
namespace L2
open PySem PySem.Spec PyProof.Rows PySem.W PySem.SetTable
theorem jO:Slot "set_iterator" "__next__" "set_iterator.__next__" :=
 .of (owner := "set_iterator") (n := "__next__") (by rw [typeLookup_type,builtinLookup_eq_fast];kernel_rfl) (by decide +kernel) (by decide +kernel) (by decide +kernel) (by first | exact .inl (by decide +kernel) | exact .inr (by decide +kernel)) (by rw [isSubtype_type];kernel_rfl)
theorem Yw:Slot "set_iterator" "__iter__" "set_iterator.__iter__" :=
 .of (owner := "set_iterator") (n := "__iter__") (by rw [typeLookup_type,builtinLookup_eq_fast];kernel_rfl) (by decide +kernel) (by decide +kernel) (by decide +kernel) (by first | exact .inl (by decide +kernel) | exact .inr (by decide +kernel)) (by rw [isSubtype_type];kernel_rfl)
theorem ZP:entryFor table "set_iterator.__next__" = some Builtin.«set_iterator.__next__»:=entryFor_of_fast (by kernel_rfl)
theorem ZQ:entryFor table "set_iterator.__iter__" = some Builtin.«dict_keyiterator.__iter__»:=entryFor_alias (id' := "dict_keyiterator.__iter__") (by kernel_rfl) rfl (by decide +kernel) (by kernel_rfl)
theorem qaN (a:Value):argsOk "set_iterator.__next__" ⟨[a],[]⟩:=by unfold argsOk;kernel_rfl
theorem qaO (a:Value):argsOk "set_iterator.__iter__" ⟨[a],[]⟩:=by unfold argsOk;kernel_rfl
theorem qaA:entryFor table "set.__iter__" = some Builtin.«frozenset.__iter__»:=entryFor_alias (id' := "frozenset.__iter__") (by kernel_rfl) rfl (by decide +kernel) (by kernel_rfl)
theorem qcu {α:Type}{l:List α}{i:Nat}(h:i<l.length):(l[i]::l.eraseIdx i).Perm l:=by
 rw [List.eraseIdx_eq_take_drop_succ]
 have e:l=l.take i++l[i]::l.drop (i+1):=by rw [<- List.drop_eq_getElem_cons h,qD]
 exact List.perm_middle.symm.trans (List.Perm.of_eq e.symm)
theorem qdB {α:Type}(next:Nat->Nat):∀ (fu k:Nat) (left:List α) (out:Array α),left.length=fu->(pickOrder.go next fu k left out).toList.Perm (out.toList++left)
 | 0,k,left,out,h=>by
  cases List.length_eq_zero_iff.mp h
  simp [pickOrder.go]
 | fu+1,k,left,out,h=>by
  unfold pickOrder.go
  have hlt:next k % left.length<left.length:=yp _ (by omega)
  simp only [List.getElem?_eq_getElem hlt]
  have ih:=qdB next fu (k+1) (left.eraseIdx (next k % left.length)) (out.push left[next k % left.length]) (by rw [List.length_eraseIdx_of_lt hlt];omega)
  refine ih.trans ?_
  rw [Array.toList_push,qq]
  exact List.Perm.append_left _ (qcu hlt)
def ZJ (w:World) (S:Addr) (ep:Nat) (es:Array (Int×Value)):Array (Int×Value):=if jJ w=true then pickOrder (w.params.setOrder S ep) es else es
theorem Y0 (w:World) (S:Addr) (ep:Nat) (es:Array (Int×Value)):(ZJ w S ep es).toList.Perm es.toList:=by
 unfold ZJ
 split
 ·have:=qdB (w.params.setOrder S ep) es.size 0 es.toList #[] (by simp)
  have this:(pickOrder.go (w.params.setOrder S ep) es.size 0 es.toList #[]).toList.Perm es.toList:=by simpa using this
  exact this
 ·exact List.Perm.refl _
theorem Jo (w:World) (S:Addr) (ep:Nat) (es:Array (Int×Value)):(ZJ w S ep es).size=es.size:=by
 have:=(Y0 w S ep es).length_eq
 simpa using this
theorem qa4 {α β:Type}{R:α->β->Prop}{xs xs':List α}(p:xs.Perm xs'):∀ {ys:List β},PySem.Paired R xs ys->∃ ys',PySem.Paired R xs' ys'/\ys.Perm ys':=by
 induction p with
 | nil=>intro ys h;exact ⟨ys,h,List.Perm.refl _⟩
 | cons x _ ih =>
  intro ys h
  cases h with
  | cons r t =>
   obtain ⟨zs,h1,h2⟩:=ih t
   exact ⟨_,.cons r h1,h2.cons _⟩
 | swap x y l =>
  intro ys h
  cases h with
  | cons r t =>
   cases t with
   | cons r' t'=>exact ⟨_,.cons r' (.cons r t'),List.Perm.swap ..⟩
 | trans _ _ ih1 ih2 =>
  intro ys h
  obtain ⟨y1,a1,b1⟩:=ih1 h
  obtain ⟨y2,a2,b2⟩:=ih2 a1
  exact ⟨y2,a2,b1.trans b2⟩
section
variable {prog:Program}{w:World}{Pv:Value->Prop}{A:Around}{E:Value->Shared->Prop}{s:Shared}{a:Addr}{o:Obj}{es:Array (Int×Value)}{ep:Nat}{t:SetTable}{m:Nat}{kss:List (List Int)}
structure SetB (w:World) (h:Heap) (a:Addr) (o:Obj) (es:Array (Int×Value)) (ep:Nat) (t:SetTable) (m:Nat):Prop where
 ho:h.get? a=some o
 ex:o.ExactSet
 hd:o.data = .set es ep t
 fits:t.fits es.size=true
 pl:t.plain=true
 ld:t.led=!jJ w
 tab:Tab t m es.size
theorem SetD.toB (D:SetD prog w Pv s.heap a o es ep t m kss):SetB w s.heap a o es ep t m:=⟨D.ho,D.ex,D.hd,D.fits,D.pl,D.ld,D.si.tab⟩
theorem SetB.at {h h':Heap}(B:SetB w h a o es ep t m) (k:h.get? a=some o->h'.get? a=some o):SetB w h' a o es ep t m:=⟨k B.ho,B.ex,B.hd,B.fits,B.pl,B.ld,B.tab⟩
theorem qhE (D:SetB w s.heap a o es ep t m) {Q:Array (Int×Value)->Shared->Prop}(q:Q (ZJ w a ep es) s):wpAny (model prog w) A (setWalk a) Q E s:=by
 unfold setWalk setsByText
 refine qb (y3 D.ho D.hd D.fits ?_)
 dsimp only
 refine qb (qb (wpAny_askSetting (qe ?_)))
 show wpAny _ _ (if jJ w=true then _ else _) _ _ _
 cases hb:jJ w with
 | true =>
  rw [if_pos rfl]
  refine qb (wpAny_askSetting (qe ?_))
  unfold ZJ at q
  rw [if_pos hb] at q
  exact q
 | false =>
  unfold ZJ at q
  rw [if_neg (by rw [hb];decide)] at q
  have hled:t.led=true:=by rw [D.ld,hb];rfl
  rw [if_neg (by decide)]
  show wpAny _ _ (if (!t.plain && decide (es.size > 1))=true then _ else _) _ _ _
  rw [if_neg (by rw [D.pl];simp)]
  refine qb (show wpAny _ _ (if (!t.led && decide (es.size > 1))=true then _ else _) _ _ _ from ?_)
  rw [if_neg (by rw [hled];simp)]
  exact qe (qe q)
theorem qiB (D:SetB w s.heap a o es ep t m) {slot i:Nat}(hb:jJ w=false->below t.place slot=i) {Q:Option (Value×Nat)->Shared->Prop}
  (q:∀ nx,(jJ w=false->i<es.size->below t.place nx=i+1)->Q (((ZJ w a ep es)[i]?).map fun e=>(e.2,nx)) s):wpAny (model prog w) A (setNext a slot i ep) Q E s:=by
 unfold setNext setsByText
 refine qb (y3 D.ho D.hd D.fits ?_)
 dsimp only
 refine qb (qb (wpAny_askSetting (qe ?_)))
 show wpAny _ _ (if jJ w=true then _ else _) _ _ _
 cases hb':jJ w with
 | true =>
  rw [if_pos rfl,if_neg (by simp)]
  refine qb (qhE D (qe (q slot fun z=>?_)))
  rw [hb'] at z;cases z
 | false =>
  have hled:t.led=true:=by rw [D.ld,hb'];rfl
  rw [if_neg (by decide)]
  show wpAny _ _ (if (!t.plain && decide (es.size > 1))=true then _ else _) _ _ _
  rw [if_neg (by rw [D.pl];simp)]
  refine qb (show wpAny _ _ (if (!t.led && !es.isEmpty)=true then _ else _) _ _ _ from ?_)
  rw [if_neg (by rw [hled];simp)]
  refine qe ?_
  rw [hb hb']
  have T:=D.tab
  have eo:ZJ w a ep es=es:=by unfold ZJ;rw [if_neg (by rw [hb'];decide)]
  rw [eo] at q
  refine qe ?_
  by_cases hi:i<es.size
  ·have hp:t.place[i]?=some (t.place.getD i 0):=getD_some (by rw [T.size];exact hi)
   have he:es[i]?=some es[i]:=by simp [hi]
   have nx:=q (t.place.getD i 0+1) fun _ _=>by
    obtain ⟨b1,b2,b3⟩:=Jg T.rise (t.place.getD i 0+1)
    rw [T.size] at b2 b3
    rcases Nat.lt_trichotomy (below t.place (t.place.getD i 0+1)) (i+1) with z | z | z
    ·have:=b2 i (by omega) hi
     omega
    ·exact z
    ·have c:=b1 (i+1) z
     have d:=T.rise i (i+1) (by omega) (by rw [T.size];omega)
     omega
   rw [he] at nx
   rw [hp,he]
   exact nx
  ·have he:es[i]?=none:=by simp;omega
   have nx:=q 0 fun _ z=>absurd z hi
   rw [he] at nx
   rw [he]
   exact nx
end
def SIt (h:Heap) (I S:Addr) (slot i n ep:Nat):Prop:=∃ o,h.get? I=some o/\o.cls = .type "set_iterator" /\ o.data = .fields #[.int slot 0,.int i 0,.ref S,.int n 0,.int ep 0]
theorem SIt.typeIs {s:Shared}{I S:Addr}{slot i n ep:Nat}(h:SIt s.heap I S slot i n ep):s.TypeIs (.ref I) "set_iterator" := let ⟨o,ho,hc,_⟩:=h;⟨o,ho,hc⟩
section
variable {prog:Program}{w:World}{Pv:Value->Prop}{A:Around}{E:Value->Shared->Prop}{s:Shared}{S I:Addr}{o:Obj}{es:Array (Int×Value)}{ep:Nat}{t:SetTable}{m:Nat}{kss:List (List Int)}
structure StS (w:World) (h:Heap) (I S:Addr) (o:Obj) (es:Array (Int×Value)) (ep:Nat) (t:SetTable) (m i:Nat):Prop where
 it:∃ slot,SIt h I S slot i es.size ep/\(jJ w=false->i<=es.size->below t.place slot=i)
 st:SetB w h S o es ep t m
theorem qd4 {i:Nat}(hI:I≠S) (st:StS w s.heap I S o es ep t m i) (hi:i<=es.size) {Q:Option Value->Shared->Prop}
  (hit:∀ e h',(ZJ w S ep es)[i]?=some e->StS w h' I S o es ep t m (i+1)->(∀ b ob,b≠I->s.heap.get? b=some ob->h'.get? b=some ob)->Q (some e.2) { s with heap:=h' })
  (hend:i=es.size->A.handled=none/\∀ h',(∀ b ob,b≠I->s.heap.get? b=some ob->h'.get? b=some ob)->Q none { s with heap:=h' }):wpAny (model prog w) A (pyNext (.ref I)) Q E s:=by
 obtain ⟨⟨slot,hs,hb⟩,B⟩:=st
 obtain ⟨oi,hoi,hci,hdi⟩:=id hs
 unfold pyNext
 refine qb (wpAny_attempt (wpAny_callSpecial?_slot (name:=Str.ofString "__next__") hs.typeIs jO (wpAny_call_entry jO hs.typeIs ZP ?_ (qaN _))))
 unfold Builtin.«set_iterator.__next__»
 refine qb (m:=slotArgs "__next__" 0 ⟨[.ref I],[]⟩) (qe ?_)
 dsimp only
 refine qb (wpAny_fieldsOf hoi hdi ?_)
 dsimp only
 refine qb (wpAny_setEntries_of B.ho B.hd B.fits ?_)
 rw [if_neg (by simp)]
 refine qb ?_
 simp only [Int.toNat_natCast]
 refine qiB B (fun z=>hb z hi) fun nx hnx=>?_
 by_cases hlt:i<es.size
 ·have hlt':i<(ZJ w S ep es).size:=by rw [Jo];exact hlt
  have eq:(ZJ w S ep es)[i]?=some (ZJ w S ep es)[i]:=by simp [hlt']
  rw [eq]
  dsimp only [Option.map_some]
  refine qb (wpAny_setField hoi hdi (by simp) ?_)
  have h1:=jp (Obj.mapFields (·.setIfInBounds 0 (rawInt nx))) hoi (Obj.isFreed_of_fields (Obj.data_mapFields hdi _))
  have d1:=Obj.data_mapFields hdi (·.setIfInBounds 0 (rawInt (nx:Int)))
  refine qb (wpAny_setField h1 d1 (by simp) (qe ⟨_,rfl,qe ?_⟩))
  have h2:=jp (Obj.mapFields (·.setIfInBounds 1 (rawInt ((i:Int)+1)))) h1 (Obj.isFreed_of_fields (Obj.data_mapFields d1 _))
  have kp:∀ b ob,b≠I->s.heap.get? b=some ob->((s.heap.update I (Obj.mapFields (·.setIfInBounds 0 (rawInt nx)))).update I (Obj.mapFields (·.setIfInBounds 1 (rawInt ((i:Int)+1))))).get? b=some ob:=fun b ob hb e =>
   (yK _ _ (Ne.symm hb)).trans ((yK _ _ (Ne.symm hb)).trans e)
  refine hit _ _ eq ⟨⟨nx,⟨_,h2,?_,?_⟩,fun z _=>hnx z hlt⟩,B.at (kp S _ (Ne.symm hI))⟩ kp
  ·rw [Obj.cls_mapFields,Obj.cls_mapFields];exact hci
  ·rw [Obj.data_mapFields d1];simp [rawInt]
 ·have he:i=es.size:=by omega
  obtain ⟨hh,hq⟩:=hend he
  have eq:(ZJ w S ep es)[i]?=none:=by simp [Jo];omega
  rw [eq]
  dsimp only [Option.map_none]
  refine qb (wpAny_setField hoi hdi (by simp) ?_)
  refine qb ?_
  simp only [newExc,newTuple]
  refine qb (wpAny_newObj_type ?_ (by size_fits))
  refine qb (m:=firstArgMember _ _) (wpAny_of_eq (a:=Value.none) (by first | rfl | (simp only [firstArgMember];rfl)) ?_)
  refine wpAny_newObj_type ?_ (by size_fits)
  simp only [raiseNew]
  refine qb (wpAny_handled ?_)
  rw [show A.in1.handled=none from hh]
  refine qb (qe (wpAny_throw ?_))
  refine qb (wpAny_isInstance (T := "StopIteration") (b:=true) ⟨_,qC _ rfl,rfl⟩ isSubtype_stop ?_)
  refine qe (hq _ fun b ob hb e=>?_)
  exact qc _ (qc _ ((yK _ _ (Ne.symm hb)).trans e))
theorem qcQ (hh:A.handled=none) (hI:I≠S):Walks prog w A I [I,S] [I] es.size (fun i v=>((ZJ w S ep es)[i]?).map (·.2)=some v) (fun i h=>StS w h I S o es ep t m i) where
 sub:=fun b hb=>by simp at hb;simp [hb]
 frame:=fun i h h' st hk=>by
  obtain ⟨⟨slot,⟨oi,e1,e2⟩,hb⟩,B⟩:=st
  exact ⟨⟨slot,⟨oi,hk I (by simp) _ e1,e2⟩,hb⟩,B.at (hk S (by simp) _)⟩
 item:=fun i s Q E hi st hQ=>qd4 hI st (by omega) (fun e h' eo st' kp=>hQ e.2 h' s.toks (by rw [eo];rfl) st' fun b ob hb=>kp b ob fun z=>hb (by simp [z])) fun z=>absurd z (by omega)
 done:=fun s Q E st hQ=>qd4 hI st (qj _) (fun e h' eo _ _=>by
  have:(ZJ w S ep es)[es.size]?=none:=by simp [Jo]
  rw [this] at eo;cases eo) fun _=>⟨hh,fun h' kp=>hQ h' s.toks fun b ob hb=>kp b ob fun z=>hb (by simp [z])⟩
 self:=fun i s Q E st hQ=>by
  obtain ⟨⟨slot,hs,hb⟩,B⟩:=st
  refine wpAny_pyIter_slot hs.typeIs Yw (wpAny_call_entry Yw hs.typeIs ZQ ?_ (qaO _))
  show wpAny _ _ (ret (.ref I)) _ _ s
  exact qe ⟨_,rfl, "set_iterator",_,hs.typeIs,jO.lookup,hQ⟩
theorem qfL (B:SetB w s.heap S o es ep t m) {Q:Value->Shared->Prop}(q:∀ h',j7 s.heap h'->StS w h' s.heap.objs.size S o es ep t m 0->h'.objs.size=s.heap.objs.size+1->Q (.ref s.heap.objs.size) { s with heap:=h' }):wpAny (model prog w) A (pyIter (.ref S)) Q E s:=by
 have hT:s.TypeIs (.ref S) "set" := ⟨o,B.ho,B.ex.1⟩
 refine wpAny_pyIter_slot hT F.slot_set_iter (wpAny_call_entry F.slot_set_iter hT qaA ?_ (F.args_set_iter_1 _))
 unfold Builtin.«frozenset.__iter__» Builtin.Frozenset.slot0
 refine qb (qb (m:=slotArgs "__iter__" 0 ⟨[.ref S],[]⟩) (qe (qe ?_)))
 unfold Builtin.Frozenset.sizeOf setDrawn setsByText setEpoch
 refine qb (qb (wpAny_setEntries_of B.ho B.hd B.fits (qe ?_)))
 refine qb (qb (y3 B.ho B.hd B.fits ?_))
 dsimp only
 refine qb (qb (wpAny_askSetting (qe (qe ?_))))
 rw [if_neg (by show ¬ ((!jJ w && (!t.plain && decide (es.size > 1)))=true);rw [B.pl];simp)]
 refine qb (qe ?_)
 refine qb (qb (y3 B.ho B.hd B.fits (qe ?_)))
 refine qb (wpAny_newObj_type (qe ⟨_,rfl, "set_iterator",_,⟨_,qC _ rfl,rfl⟩,jO.lookup,q _ (fun b ob e=>qc _ e) ⟨⟨0,⟨_,qC _ rfl,rfl,rfl⟩,fun _ _=>?_⟩,B.at (qc _)⟩ (Heap.size_push ..)⟩))
 obtain ⟨b1,b2,b3⟩:=Jg B.tab.rise 0
 rcases Nat.eq_zero_or_pos (below t.place 0) with z | z
 ·exact z
 ·exact absurd (b1 0 z) (by omega)
theorem qbm (hh:A.handled=none) (B:SetB w s.heap S o es ep t m) (hz:es.size<4915) {Q:List Value->Shared->Prop}(hQ:∀ h' tk,j7 s.heap h'->Q ((ZJ w S ep es).toList.map (·.2)) { s with heap:=h',toks:=tk }):wpAny (model prog w) A (collect (.ref S)) Q E s:=by
 have hlt:S<s.heap.objs.size:=qi B.ho
 unfold collect
 refine qb (wpAny_runValue (codeAny_builtin F.entry_proto_collect ?_))
 rw [Around.under_plainId F.plain_proto_collect _]
 refine qb (m:=newList []) (wpAny_newObj_type ?_)
 refine qe ⟨plainId_quiet F.plain_list_iadd _,codeAny_builtin F.entry_list_iadd ?_⟩
 rw [Around.under_plainId F.plain_list_iadd _]
 have B1:SetB w (s.heap.push { cls:=.type "list",data:=.seq ([]:List Value).toArray }) S o es ep t m:=B.at (qc _)
 have hL:(s.heap.push { cls:=.type "list",data:=.seq ([]:List Value).toArray }).get? s.heap.objs.size=some { cls:=.type "list",data:=.seq ([]:List Value).toArray }:=qC _ rfl
 have kp1:j7 s.heap (s.heap.push { cls:=.type "list",data:=.seq ([]:List Value).toArray }):=fun b ob e=>qc _ e
 have sz1:(s.heap.push { cls:=.type "list",data:=.seq ([]:List Value).toArray }).objs.size=s.heap.objs.size+1:=Heap.size_push ..
 show wpAny (model prog w) A.in1 (Builtin.List.listExtendWith (.ref s.heap.objs.size) (.ref S) (.ref s.heap.objs.size)) _ _ { s with heap:=s.heap.push { cls:=.type "list",data:=.seq ([]:List Value).toArray } }
 generalize s.heap.push { cls:=.type "list",data:=.seq ([]:List Value).toArray }=h1 at *
 have hT:Shared.TypeIs { s with heap:=h1 } (.ref S) "set" := ⟨o,B1.ho,B1.ex.1⟩
 have ne:Builtin.List.listSameRef (.ref s.heap.objs.size) (.ref S)=false:=by simp only [Builtin.List.listSameRef];exact beq_false_of_ne (Nat.ne_of_gt hlt)
 unfold Builtin.List.listExtendWith
 refine qb (wpAny_typeOf hT ?_)
 rw [if_neg (by rw [ne];decide)]
 refine qb (qfL (s:={ s with heap:=h1 }) B1 fun h2 kp2 st2 sz2=>?_)
 have hT2:Shared.TypeIs { s with heap:=h2 } (.ref S) "set" := ⟨o,st2.st.ho,B1.ex.1⟩
 have hL2:=kp2 _ _ hL
 refine qb (yq ?_)
 unfold Builtin.List.listLengthHint
 refine qb (wpAny_specialOf hT2 F.slot_set_len.lookup ?_)
 generalize hid:("set.__len__" : String)=id0
 wp_delta
 rw [show splitId id0=some ("set", "__len__") from by subst hid;decide +kernel]
 subst hid
 refine qb (wpAny_isInstance (b:=true) hT2 sub_set_self ?_)
 refine qb (m:=typeOf (.ref S)) (wpAny_typeOf hT2 (qe ?_))
 show wpAny (model prog w) A.in1 (rule "list.extend.makes-room" >>= fun _=>Builtin.List.listTouch (.ref s.heap.objs.size) >>= fun _=>again (.builtin "list.extend.loop" ⟨[.ref s.heap.objs.size,.ref h1.objs.size,.ref s.heap.objs.size],[]⟩)) _ _ _
 refine qb (wpAny_rule (qb ?_))
 show wpAny (model prog w) A.in1 (updateSeq s.heap.objs.size (·.push .none) >>= fun _=>updateSeq s.heap.objs.size (·.pop)) _ _ _
 refine qb (wpAny_updateSeq hL2 rfl ?_)
 have hL3:=jp (Obj.mapSeq (·.push Value.none)) hL2 rfl
 refine wpAny_updateSeq hL3 rfl ?_
 have hL4:=jp (Obj.mapSeq (·.pop)) hL3 rfl
 have oth:∀ b ob,b≠s.heap.objs.size->h2.get? b=some ob->((h2.update s.heap.objs.size (Obj.mapSeq (·.push Value.none))).update s.heap.objs.size (Obj.mapSeq (·.pop))).get? b=some ob :=
  fun b ob hb e=>(yK _ _ (Ne.symm hb)).trans ((yK _ _ (Ne.symm hb)).trans e)
 have hI:h1.objs.size≠S:=fun z=>by
  have:=qi B1.ho
  rw [<- z] at this
  exact jo _ this
 have hIL:h1.objs.size≠s.heap.objs.size:=by rw [sz1];exact Nat.ne_of_gt (Nat.lt_succ_self _)
 have W:WalksS prog w A.in1 h1.objs.size [h1.objs.size,S] [h1.objs.size] (fun a b=>b=a) es.size (fun i v=>((ZJ w S ep es)[i]?).map (·.2)=some v) (fun i s=>StS w s.heap h1.objs.size S o es ep t m i):=(qcQ (A:=A.in1) hh hI).toS
 refine qe ⟨plainId_quiet F.plain_extend_loop _,codeAny_extend_loopS W (by rw [sizeLine_eq];omega) s.heap.objs.size (fun hm=>?_) _ es.size 0 _ _ _ rfl (qZ _) ?_ hL4 (ItemsOf.nil _) fun s' acc' c' hm hS' hacc=>?_⟩
 ·rcases List.mem_cons.mp hm with z | z
  ·exact hIL z.symm
  ·exact Nat.ne_of_gt hlt (qE.mp z)
 ·obtain ⟨⟨slot,⟨oi,e1,e2⟩,hb⟩,B2⟩:=st2
  exact ⟨⟨slot,⟨oi,oth _ _ hIL e1,e2⟩,hb⟩,B2.at (oth _ _ (qz hlt))⟩
 ·refine qb (m:=load s.heap.objs.size) (wpAny_load hS' ?_)
  have kp:j7 s.heap s'.heap:=fun b ob e=>by
   have hb:b<s.heap.objs.size:=qi e
   refine hm.heap b ob (fun z=>?_) (oth b ob (qz hb) (kp2 _ _ (kp1 _ _ e)))
   rcases List.mem_cons.mp z with z | z
   ·exact qz hb z
   ·rw [qE.mp z,sz1] at hb
    exact absurd hb (Nat.not_lt.mpr (Nat.le_succ _))
  have ea:acc'.toList=(ZJ w S ep es).toList.map (·.2):=by
   apply List.ext_getElem?
   intro i
   rw [List.getElem?_map,qk,qk]
   cases z:acc'[i]? with
   | some v=>exact (hacc.2 i v z).symm
   | none =>
    have:acc'.size<=i:=by simpa using z
    rw [hacc.1,<- Jo w S ep es] at this
    rw [ye this]
    rfl
  have fin:=hQ s'.heap s'.toks kp
  rw [<- ea] at fin
  obtain ⟨h',g',d',tk',os'⟩:=s'
  have e1:g'=s.gens:=hm.gens
  have e2:d'=s.drawn:=hm.drawn
  have e3:os'=s.os:=hm.os
  subst e1;subst e2;subst e3
  exact qe fin
end
end L2
namespace L2
open PySem PySem.Spec PyProof.Rows PySem.W PySem.SetTable
section
variable {prog:Program}{w:World}{Pv Pv':Value->Prop}{A:Around}{E:Value->Shared->Prop}{s:Shared}{S1 S2:Addr}{k1 k2:List (List Int)}
end
open PySem PySem.Spec PyProof.Rows
mutual
theorem Is.same {K:W.Frag}{H H':Hp}(s:yc H H'):∀ {v:V}{d:PyData},Is K H v d->Is K H' v d
 | _,_,.non=>.non
 | _,_,.bl b=>.bl b
 | _,_,.int i=>.int i
 | _,_,.str x=>.str x
 | _,_,.lst h hs=>.lst (yc.seq s h) (IsAll.same s hs)
 | _,_,.tup h hs=>.tup (by
   rcases h with (e | ⟨o,e⟩) | e
   ·exact .inl (.inl (s _ _ e))
   ·exact .inl (.inr ⟨o,s _ _ e⟩)
   ·exact .inr e) (IsAll.same s hs)
 | _,_,.dc h=>.dc (s _ _ h)
theorem IsAll.same {K:W.Frag}{H H':Hp}(s:yc H H'):∀ {vs:List V}{ds:List PyData},IsAll K H vs ds->IsAll K H' vs ds
 | _,_,.nil=>.nil
 | _,_,.cons h hs=>.cons (Is.same s h) (IsAll.same s hs)
end
theorem IsAll.len {K:W.Frag}{H:Hp}:∀ {vs:List V}{ds:List PyData},IsAll K H vs ds->vs.length=ds.length
 | _,_,.nil=>rfl
 | _,_,.cons _ hs=>by simp [IsAll.len hs]
theorem IsAll.get {K:W.Frag}{H:Hp}:∀ {vs:List V}{ds:List PyData}{i:Nat}{v:V},IsAll K H vs ds->vs[i]?=some v->∃ d,ds[i]?=some d/\Is K H v d
 | _,_,_,_,.nil,e=>by simp at e
 | _,_,0,_,.cons h _,e=>by simp at e;subst e;exact ⟨_,rfl,h⟩
 | _,_,i+1,v,.cons _ t,e=>by
  obtain ⟨u,h1,h2⟩:=IsAll.get (i:=i) (v:=v) t (by simpa using e)
  exact ⟨u,by simpa using h1,h2⟩
theorem IsAll.get' {K:W.Frag}{H:Hp}:∀ {vs:List V}{ds:List PyData}{i:Nat}{d:PyData},IsAll K H vs ds->ds[i]?=some d->∃ v,vs[i]?=some v/\Is K H v d
 | _,_,_,_,.nil,e=>by simp at e
 | _,_,0,_,.cons h _,e=>by simp at e;subst e;exact ⟨_,rfl,h⟩
 | _,_,i+1,v,.cons _ t,e=>by
  obtain ⟨u,h1,h2⟩:=IsAll.get' (i:=i) (d:=v) t (by simpa using e)
  exact ⟨u,by simpa using h1,h2⟩
theorem IsAll.snoc {K:W.Frag}{H:Hp}{v:V}{d:PyData}(h:Is K H v d):∀ {vs:List V}{ds:List PyData},IsAll K H vs ds->IsAll K H (vs++[v]) (ds++[d])
 | _,_,.nil=>.cons h .nil
 | _,_,.cons a b=>.cons a (IsAll.snoc h b)
theorem IsAll.app {K:W.Frag}{H:Hp}{us:List V}{es:List PyData}(h:IsAll K H us es):∀ {vs:List V}{ds:List PyData},IsAll K H vs ds->IsAll K H (vs++us) (ds++es)
 | _,_,.nil=>h
 | _,_,.cons a b=>.cons a (IsAll.app h b)
theorem IsAll.drop {K:W.Frag}{H:Hp}:∀ {vs:List V}{ds:List PyData}(n:Nat),IsAll K H vs ds->IsAll K H (vs.drop n) (ds.drop n)
 | _,_,0,h=>h
 | _,_,_+1,.nil=>.nil
 | _,_,n+1,.cons _ t=>IsAll.drop n t
theorem IsAll.take {K:W.Frag}{H:Hp}:∀ {vs:List V}{ds:List PyData}(n:Nat),IsAll K H vs ds->IsAll K H (vs.take n) (ds.take n)
 | _,_,0,h=>.nil
 | _,_,_+1,.nil=>.nil
 | _,_,n+1,.cons h t=>.cons h (IsAll.take n t)
theorem IsAll.rev {K:W.Frag}{H:Hp}:∀ {vs:List V}{ds:List PyData},IsAll K H vs ds->IsAll K H vs.reverse ds.reverse
 | _,_,.nil=>.nil
 | _,_,.cons h t=>by simpa using IsAll.snoc h (IsAll.rev t)
theorem IsAll.ints_of {K:W.Frag}{H:Hp}:∀ {vs:List V}{ns:List Int},IsAll K H vs (ns.map PyData.int)->vs=ns.map V.int
 | _,[],.nil=>rfl
 | _,_::_,.cons h t=>by cases h;rw [IsAll.ints_of t];rfl
theorem IsAll.bools_of {K:W.Frag}{H:Hp}:∀ {vs:List V}{ns:List Bool},IsAll K H vs (ns.map PyData.bool)->vs=ns.map V.bl
 | _,[],.nil=>rfl
 | _,_::_,.cons h t=>by cases h;rw [IsAll.bools_of t];rfl
structure Stb where
 R:V->Hp->Prop
 st:∀ v H H',yc H H'->R v H->R v H'
inductive En where
 | d (x:PyData)
 | m (a:Addr)
 | x (r:Stb)
 | ty (n:String)
structure MSt where
 R:Hp->HO->Prop
 st:∀ H H' u,yc H H'->R H u->R H' u
 nt:∀ H u xs,R H u->u≠.tup xs
 ml:∀ H H' a xs u,H a=some (.lst xs)->(∀ b o,H b=some o->b≠a->H' b=some o)->R H u->R H' u
inductive MO where
 | any (r:MSt)
 | pot (M:Int)
 | lst (ds:List PyData)
 | refs (as:List Addr)
 | dct (ks:List (List Int))
abbrev Mu:=List (Addr×MO)
def mask (μ:Mu) (H:Hp):Hp:=fun a=>if a∈μ.map Prod.fst then none else H a
theorem qbT {H:Hp}:mask [] H=H:=by funext a;simp [mask]
theorem yN {μ:Mu}{H:Hp}:yc (mask μ H) H:=fun b o e=>by
 unfold mask at e
 split at e
 ·cases e
 ·exact e
theorem J1 {μ:Mu}{H:Hp}{b:Addr}{o:HO}(e:mask μ H b=some o):b∉μ.map Prod.fst/\H b=some o:=by
 unfold mask at e
 split at e
 ·cases e
 ·exact ⟨by assumption,e⟩
theorem yR {μ:Mu}{H:Hp}{b:Addr}(h:b∉μ.map Prod.fst):mask μ H b=H b:=by unfold mask;rw [if_neg h]
theorem qfI {μ μ':Mu}{H:Hp}(h:∀ a,a∈μ'.map Prod.fst->a∈μ.map Prod.fst):yc (mask μ H) (mask μ' H):=fun b o e=>by
 obtain ⟨h1,h2⟩:=J1 e
 rw [yR (fun z=>h1 (h _ z))];exact h2
def IsE (K:W.Frag) (μ:Mu) (H:Hp) (v:V):En->Prop
 | .d x=>Is K (mask μ H) v x
 | .m a=>v = .ref a
 | .x r=>r.R v (mask μ H)
 | .ty n=>v = .ty n
theorem IsE.same {K:W.Frag}{μ μ':Mu}{H H':Hp}{v:V}{e:En}(s:yc (mask μ H) (mask μ' H')) (h:IsE K μ H v e):IsE K μ' H' v e:=by
 cases e with
 | d x=>exact Is.same s h
 | m a=>exact h
 | x r=>exact r.st _ _ _ s h
 | ty n=>exact h
def qhz (K:W.Frag) (μ:Mu) (H:Hp) (a:Addr):MO->Prop
 | .any r=>∃ u,H a=some u/\r.R (mask μ H) u
 | .pot M=>Pot M H a
 | .lst ds=>∃ xs,H a=some (.lst xs)/\IsAll K (mask μ H) xs ds
 | .refs as=>H a=some (.lst (as.map V.ref))
 | .dct ks=>H a=some (.dT (ks.map fun ns=>(ns.map Sum.inl,V.bl true)))
theorem qhz.some {K:W.Frag}{μ:Mu}{H:Hp}{a:Addr}{o:MO}(h:qhz K μ H a o):∃ u,H a=some u:=by
 cases o with
 | any r=>obtain ⟨u,e,_⟩:=h;exact ⟨_,e⟩
 | pot M=>obtain ⟨p0,p1,e,_⟩:=h;exact ⟨_,e⟩
 | lst ds=>obtain ⟨xs,e,_⟩:=h;exact ⟨_,e⟩
 | refs as=>exact ⟨_,h⟩
 | dct kvs=>exact ⟨_,h⟩
structure RelM (K:W.Frag) (μ:Mu) (H:Hp):Prop where
 nd:(μ.map Prod.fst).Nodup
 ob:∀ a o,(a,o)∈μ->qhz K μ H a o
theorem RelM.nil {K:W.Frag}{H:Hp}:RelM K [] H:=⟨by simp,fun _ _ h=>nomatch h⟩
theorem qhz.same {K:W.Frag}{μ μ':Mu}{H H':Hp}{a:Addr}{o:MO}(s:yc (mask μ H) (mask μ' H')) (e:H' a=H a) (h:qhz K μ H a o):qhz K μ' H' a o:=by
 cases o with
 | any r=>obtain ⟨u,q,z⟩:=h;exact ⟨u,e.trans q,r.st _ _ _ s z⟩
 | pot M=>obtain ⟨p0,p1,q,r⟩:=h;exact ⟨p0,p1,e.trans q,r⟩
 | lst ds=>obtain ⟨xs,q,r⟩:=h;exact ⟨xs,e.trans q,IsAll.same s r⟩
 | refs as=>exact e.trans h
 | dct kvs=>exact e.trans h
theorem RelM.same {K:W.Frag}{μ:Mu}{H H':Hp}(h:RelM K μ H) (s:yc H H'):RelM K μ H'/\yc (mask μ H) (mask μ H'):=by
 have ss:yc (mask μ H) (mask μ H'):=fun b o e=>by
  obtain ⟨h1,h2⟩:=J1 e
  rw [yR h1];exact s _ _ h2
 refine ⟨⟨h.nd,fun a o ho=>?_⟩,ss⟩
 have:=h.ob a o ho
 obtain ⟨xs,e⟩:=this.some
 exact this.same ss ((s _ _ e).trans e.symm)
theorem RelM.laid {K:W.Frag}{μ:Mu}{H:Hp}{p:Addr}{o:HO}(h:RelM K μ H) (e:H p=none):RelM K μ (upd H p o)/\yc (mask μ H) (mask μ (upd H p o))/\p∉μ.map Prod.fst:=by
 obtain ⟨h1,h2⟩:=h.same (yc.upd (o:=o) e)
 refine ⟨h1,h2,fun z=>?_⟩
 obtain ⟨⟨a,q⟩,hq,rfl⟩:=qG.mp z
 obtain ⟨xs,e'⟩:=(h.ob a q hq).some
 rw [e'] at e;cases e
theorem qdQ {μ:Mu}{a:Addr}{o:MO}(h:(a,o)∈μ):a∈μ.map Prod.fst:=qG.mpr ⟨_,h,rfl⟩
theorem RelM.write {K:W.Frag}{μ1 μ2:Mu}{H H':Hp}{a:Addr}{o o':MO}(h:RelM K (μ1++(a,o)::μ2) H) (k:∀ b u,H b=some u->b≠a->H' b=some u)
  (new:yc (mask (μ1++(a,o)::μ2) H) (mask (μ1++(a,o')::μ2) H')->qhz K (μ1++(a,o')::μ2) H' a o') :
  RelM K (μ1++(a,o')::μ2) H'/\yc (mask (μ1++(a,o)::μ2) H) (mask (μ1++(a,o')::μ2) H'):=by
 have ks:(μ1++(a,o')::μ2).map Prod.fst=(μ1++(a,o)::μ2).map Prod.fst:=by simp
 have ss:yc (mask (μ1++(a,o)::μ2) H) (mask (μ1++(a,o')::μ2) H'):=fun b u e=>by
  obtain ⟨h1,h2⟩:=J1 e
  rw [yR (by rw [ks];exact h1)]
  exact k b u h2 fun z=>h1 (by rw [z];simp)
 refine ⟨⟨by rw [ks];exact h.nd,fun b q hq=>?_⟩,ss⟩
 have nd:=h.nd
 simp only [List.map_append,List.map_cons,List.nodup_append,List.nodup_cons] at nd
 have hcase:(b,q)=(a,o')\/((b,q)∈μ1++(a,o)::μ2/\b≠a):=by
  rcases List.mem_append.mp hq with z | z
  ·exact .inr ⟨yE _ z,fun e=>nd.2.2 b (qdQ z) a (by simp) e⟩
  ·rcases List.mem_cons.mp z with z | z
   ·exact .inl z
   ·exact .inr ⟨qI _ (qg _ z),fun e=>nd.2.1.1 (e ▸ qdQ z)⟩
 rcases hcase with z | ⟨z,hne⟩
 ·cases z;exact new ss
 ·have:=h.ob b q z
  obtain ⟨xs,e⟩:=this.some
  exact this.same ss ((k b _ e hne).trans e.symm)
theorem RelM.drop {K:W.Frag}{μ1 μ2:Mu}{H:Hp}{a:Addr}{o:MO}(h:RelM K (μ1++(a,o)::μ2) H):RelM K (μ1++μ2) H/\yc (mask (μ1++(a,o)::μ2) H) (mask (μ1++μ2) H)/\a∉(μ1++μ2).map Prod.fst:=by
 have nd:=h.nd
 have ss:yc (mask (μ1++(a,o)::μ2) H) (mask (μ1++μ2) H):=qfI fun b hb=>by
  simp only [List.map_append,List.map_cons,List.mem_append,List.mem_cons] at *
  rcases hb with z | z
  ·exact .inl z
  ·exact .inr (.inr z)
 simp only [List.map_append,List.map_cons,List.nodup_append,List.nodup_cons] at nd
 refine ⟨⟨?_,fun b q hq=>?_⟩,ss,?_⟩
 ·simp only [List.map_append,List.nodup_append]
  exact ⟨nd.1,nd.2.1.2,fun x hx y hy=>nd.2.2 x hx y (qg _ hy)⟩
 ·have:(b,q)∈μ1++(a,o)::μ2:=by
   rcases List.mem_append.mp hq with z | z
   ·exact yE _ z
   ·exact qI _ (qg _ z)
  exact (h.ob b q this).same ss rfl
 ·simp only [List.map_append,List.mem_append,not_or]
  exact ⟨fun z=>nd.2.2 a z a (by simp) rfl,nd.2.1.1⟩
theorem RelM.new {K:W.Frag}{μ:Mu}{H:Hp}{p:Addr}{u:HO}{o:MO}(h:RelM K μ H) (e:H p=none) (new:yc (mask μ H) (mask ((p,o)::μ) (upd H p u))->qhz K ((p,o)::μ) (upd H p u) p o) :
  RelM K ((p,o)::μ) (upd H p u)/\yc (mask μ H) (mask ((p,o)::μ) (upd H p u)):=by
 obtain ⟨h1,h2,h3⟩:=h.laid (o:=u) e
 have ss:yc (mask μ H) (mask ((p,o)::μ) (upd H p u)):=fun b q z=>by
  obtain ⟨z1,z2⟩:=J1 z
  have hb:b≠p:=q9 z2 e
  rw [yR (by simp only [List.map_cons,List.mem_cons,not_or];exact ⟨hb,z1⟩),ya hb];exact z2
 refine ⟨⟨by simp only [List.map_cons,List.nodup_cons];exact ⟨h3,h.nd⟩,fun b q hq=>?_⟩,ss⟩
 rcases List.mem_cons.mp hq with z | z
 ·cases z;exact new ss
 ·have:=h.ob b q z
  obtain ⟨xs,e'⟩:=this.some
  exact this.same ss (ya (q9 e' e))
abbrev Rho:=List (Option En)
structure RelS (K:W.Frag) (ρ:Rho) (μ:Mu) (σ:St) (H:Hp):Prop where
 len:ρ.length=σ.length
 get:∀ (i:Nat) (e:En),ρ[i]?=some (some e)->∃ v,σ[i]?=some (some v)/\IsE K μ H v e
theorem RelS.same {K:W.Frag}{ρ:Rho}{μ μ':Mu}{σ:St}{H H':Hp}(h:RelS K ρ μ σ H) (s:yc (mask μ H) (mask μ' H')):RelS K ρ μ' σ H' :=
 ⟨h.len,fun i e q=>let ⟨v,e1,e2⟩:=h.get i e q;⟨v,e1,e2.same s⟩⟩
theorem RelS.set {K:W.Frag}{ρ:Rho}{μ:Mu}{σ:St}{H:Hp}{i:Nat}{v:V}{e:En}(h:RelS K ρ μ σ H) (r:IsE K μ H v e):RelS K (ρ.set i (some e)) μ (σ.set i (some v)) H:=by
 refine ⟨by simp [h.len],fun j x q=>?_⟩
 by_cases hj:i=j
 ·subst hj
  have hi:i<ρ.length:=by
   have:=(qp.mp q).1
   simpa using this
  rw [List.getElem?_set_self (by rw [<- h.len];exact hi)]
  rw [List.getElem?_set_self hi] at q
  cases q
  exact ⟨v,rfl,r⟩
 ·rw [List.getElem?_set_ne hj] at *
  exact h.get j x q
def Wk (ρ:Rho) (μ:Mu) (ρ':Rho) (μ':Mu):Prop:=∀ (K:W.Frag) (σ:St) (H:Hp),RelS K ρ μ σ H->RelM K μ H->RelS K ρ' μ' σ H/\RelM K μ' H/\yc (mask μ H) (mask μ' H)
theorem Wk.refl {ρ:Rho}{μ:Mu}:Wk ρ μ ρ μ:=fun _ _ _ h1 h2=>⟨h1,h2,yc.refl _⟩
theorem Wk.trans {ρ ρ1 ρ2:Rho}{μ μ1 μ2:Mu}(h:Wk ρ μ ρ1 μ1) (h':Wk ρ1 μ1 ρ2 μ2):Wk ρ μ ρ2 μ2:=fun K σ H a b=>by
 obtain ⟨a1,b1,s1⟩:=h K σ H a b
 obtain ⟨a2,b2,s2⟩:=h' K σ H a1 b1
 exact ⟨a2,b2,s1.trans s2⟩
def Lt (ρ' ρ:Rho):Prop:=ρ'.length=ρ.length/\∀ (i:Nat) (e:En),ρ'[i]?=some (some e)->ρ[i]?=some (some e)
theorem Wk.names {ρ ρ':Rho}{μ:Mu}(h:Lt ρ' ρ):Wk ρ μ ρ' μ:=fun _ _ _ h1 h2=>⟨⟨h.1.trans h1.len,fun i e q=>h1.get i e (h.2 i e q)⟩,h2,yc.refl _⟩
theorem Wk.drop {ρ:Rho}{μ1 μ2:Mu}{a:Addr}{o:MO}:Wk ρ (μ1++(a,o)::μ2) ρ (μ1++μ2):=fun _ _ _ h1 h2=>by
 obtain ⟨x,y,_⟩:=h2.drop
 exact ⟨h1.same y,x,y⟩
theorem Wk.drop1 {ρ:Rho}{μ2:Mu}{a:Addr}{o:MO}:Wk ρ ((a,o)::μ2) ρ μ2:=Wk.drop (μ1:=[])
theorem Lt.nil:Lt [] []:=⟨rfl,fun i e h=>h⟩
theorem Lt.keep {ρ' ρ:Rho}{e:Option En}(h:Lt ρ' ρ):Lt (e::ρ') (e::ρ):=⟨by simp [h.1],fun i x q=>by
 cases i with
 | zero=>simpa using q
 | succ i=>simp at q;simpa using h.2 i x q⟩
theorem Lt.refl (ρ:Rho):Lt ρ ρ:=⟨rfl,fun i e h=>h⟩
abbrev TEd:=Rho->Mu->(En->Mu->Prop)->Prop
abbrev TTd:=Rho->Mu->(Bool->Mu->Prop)->Prop
abbrev TAd:=Rho->Mu->(List En->Mu->Prop)->Prop
structure EndsD where
 nx:Rho->Mu->Prop
 rt:En->Mu->Prop
 bk:Rho->Mu->Prop:=fun _ _=>False
 ct:Rho->Mu->Prop:=fun _ _=>False
abbrev TSd:=EndsD->Rho->Mu->Prop
def Cl (K:W.Frag) (μ:Mu) (H:Hp) (Q0:En->Mu->Prop) (Q:VK):Prop:=∀ e μ' v H',Q0 e μ'->RelM K μ' H'->yc (mask μ H) (mask μ' H')->IsE K μ' H' v e->Q v H'
def ClT (K:W.Frag) (μ:Mu) (H:Hp) (Q0:Bool->Mu->Prop) (Q:Bool->Hp->Prop):Prop:=∀ b μ' H',Q0 b μ'->RelM K μ' H'->yc (mask μ H) (mask μ' H')->Q b H'
def ClA (K:W.Frag) (μ:Mu) (H:Hp) (Q0:List En->Mu->Prop) (Q:List V->Hp->Prop):Prop:=∀ es μ' vs H',Q0 es μ'->RelM K μ' H'->yc (mask μ H) (mask μ' H')->Paired (IsE K μ' H') vs es->Q vs H'
def ClR (K:W.Frag) (μ:Mu) (H:Hp) (Q0:Rho->Mu->Prop) (Q:St->Hp->Prop):Prop:=∀ ρ' μ' σ' H',Q0 ρ' μ'->RelS K ρ' μ' σ' H'->RelM K μ' H'->yc (mask μ H) (mask μ' H')->Q σ' H'
structure ClS (K:W.Frag) (μ:Mu) (H:Hp) (D0:EndsD) (D:Ends):Prop where
 nx:ClR K μ H D0.nx D.nx
 rt:Cl K μ H D0.rt D.rt
 bk:ClR K μ H D0.bk D.bk
 ct:ClR K μ H D0.ct D.ct
theorem Cl.same {K:W.Frag}{μ μ1:Mu}{H H1:Hp}{Q0:En->Mu->Prop}{Q:VK}(h:Cl K μ H Q0 Q) (s:yc (mask μ H) (mask μ1 H1)):Cl K μ1 H1 Q0 Q:=fun e μ' v H' a b c d=>h e μ' v H' a b (s.trans c) d
theorem ClT.same {K:W.Frag}{μ μ1:Mu}{H H1:Hp}{Q0:Bool->Mu->Prop}{Q:Bool->Hp->Prop}(h:ClT K μ H Q0 Q) (s:yc (mask μ H) (mask μ1 H1)):ClT K μ1 H1 Q0 Q:=fun e μ' H' a b c=>h e μ' H' a b (s.trans c)
theorem ClR.same {K:W.Frag}{μ μ1:Mu}{H H1:Hp}{Q0:Rho->Mu->Prop}{Q:St->Hp->Prop}(h:ClR K μ H Q0 Q) (s:yc (mask μ H) (mask μ1 H1)):ClR K μ1 H1 Q0 Q:=fun e μ' v H' a b c d=>h e μ' v H' a b c (s.trans d)
theorem ClS.same {K:W.Frag}{μ μ1:Mu}{H H1:Hp}{D0:EndsD}{D:Ends}(h:ClS K μ H D0 D) (s:yc (mask μ H) (mask μ1 H1)):ClS K μ1 H1 D0 D:=⟨h.nx.same s,h.rt.same s,h.bk.same s,h.ct.same s⟩
def up (K:W.Frag) (t:TEd):TE:=fun σ H Q=>∃ ρ μ Q0,RelS K ρ μ σ H/\RelM K μ H/\t ρ μ Q0/\Cl K μ H Q0 Q
def upT (K:W.Frag) (t:TTd):TT:=fun σ H Q=>∃ ρ μ Q0,RelS K ρ μ σ H/\RelM K μ H/\t ρ μ Q0/\ClT K μ H Q0 Q
def upA (K:W.Frag) (t:TAd):TA:=fun σ H Q=>∃ ρ μ Q0,RelS K ρ μ σ H/\RelM K μ H/\t ρ μ Q0/\ClA K μ H Q0 Q
def upS (K:W.Frag) (t:TSd):TS:=fun D σ H=>∃ ρ μ D0,RelS K ρ μ σ H/\RelM K μ H/\t D0 ρ μ/\ClS K μ H D0 D
def DE (K:W.Frag) (X:Cx) (e:Expr) (t:TEd):Prop:=PE X e (up K t)
def DT (K:W.Frag) (X:Cx) (e:Expr) (t:TTd):Prop:=PT X e (upT K t)
def DW (K:W.Frag) (X:Cx) (e:Expr) (t:TTd):Prop:=PW X e (upT K t)
def DA (K:W.Frag) (X:Cx) (es:List Expr) (t:TAd):Prop:=PA X es (upA K t)
def DS (K:W.Frag) (X:Cx) (st:Stmt) (t:TSd):Prop:=PS X st (upS K t)
def DSs (K:W.Frag) (X:Cx) (st:List Stmt) (t:TSd):Prop:=PSs X st (upS K t)
section
variable {X:Cx}{K:W.Frag}
theorem PE.mono {e:Expr}{t t':TE}(h:PE X e t) (f:∀ σ H Q,t' σ H Q->t σ H Q):PE X e t':=fun pins s σ H Q I q=>h pins s σ H Q I (f _ _ _ q)
theorem PT.mono {e:Expr}{t t':TT}(h:PT X e t) (f:∀ σ H Q,t' σ H Q->t σ H Q):PT X e t':=fun pins s σ H Q I q=>h pins s σ H Q I (f _ _ _ q)
theorem PW.mono {e:Expr}{t t':TT}(h:PW X e t) (f:∀ σ H Q,t' σ H Q->t σ H Q):PW X e t':=fun wh pins s σ H Q I q=>h wh pins s σ H Q I (f _ _ _ q)
theorem PA.mono {e:List Expr}{t t':TA}(h:PA X e t) (f:∀ σ H Q,t' σ H Q->t σ H Q):PA X e t':=fun p pins s σ H Q I q=>h p pins s σ H Q I (f _ _ _ q)
theorem PS.mono {e:Stmt}{t t':TS}(h:PS X e t) (f:∀ D σ H,t' D σ H->t D σ H):PS X e t':=fun pins s σ H D I q=>h pins s σ H D I (f _ _ _ q)
theorem PSs.mono {e:List Stmt}{t t':TS}(h:PSs X e t) (f:∀ D σ H,t' D σ H->t D σ H):PSs X e t':=fun pins s σ H D I q=>h pins s σ H D I (f _ _ _ q)
theorem OpR.mono {f:Value->Value->Sem Value}{r r':R2}(h:OpR X f r) (g:∀ x y H Q,r' x y H Q->r x y H Q):OpR X f r':=fun pins s σ H x y v u Q I a b c=>h pins s σ H x y v u Q I a b (g _ _ _ _ c)
theorem UnR.mono {f:Value->Sem Value}{r r':V->Hp->VK->Prop}(h:UnR X f r) (g:∀ x H Q,r' x H Q->r x H Q):UnR X f r':=fun pins s σ H x v Q I a c=>h pins s σ H x v Q I a (g _ _ _ c)
theorem yL.mono {f:Value}{r r':List V->Hp->VK->Prop}(h:yL X f r) (g:∀ x H Q,r' x H Q->r x H Q):yL X f r':=fun pins s σ H x v Q I a c=>h pins s σ H x v Q I a (g _ _ _ c)
theorem IxR.mono {r r':R2}(h:IxR X r) (g:∀ x y H Q,r' x y H Q->r x y H Q):IxR X r':=fun a b pins s σ H x y v u Q I p q c=>h a b pins s σ H x y v u Q I p q (g _ _ _ _ c)
theorem MtM.mono {id:String}{r r':V->List V->Hp->VK->Prop}(h:MtM X id r) (g:∀ x y H Q,r' x y H Q->r x y H Q):MtM X id r':=fun pins s σ H x xs v us Q I a b c=>h pins s σ H x xs v us Q I a b (g _ _ _ _ c)
theorem MtR.mono {id:String}{r r':V->List V->Hp->VK->Prop}(h:MtR X id r) (g:∀ x y H Q,r' x y H Q->r x y H Q):MtR X id r':=fun pins s σ H x xs v us Q I a b c=>h pins s σ H x xs v us Q I a b (g _ _ _ _ c)
def dVar (i:Nat):TEd:=fun ρ μ Q=>match ρ[i]? with
 | some (some e)=>Q e μ
 | _=>False
def dC (x:PyData):TEd:=fun _ μ Q=>Q (.d x) μ
theorem dv (i:Nat) {x:Str}{pos:Pos}(hN:X.N[i]?=some x:=by rfl) (hv:Vis X.env.scope x:=by first | exact Or.inl rfl | exact Or.inr (Or.inl rfl) | exact Or.inr (Or.inr rfl)) (hd:(x == ("__debug__" : Str))=false:=by decide)
  (hcd:(x == ("__classdict__" : Str))=false:=by decide):DE K X (.Name x pos) (dVar i):=by
 refine PE.mono (qgY hN hv hd hcd) fun σ H Q hq9=>?_
 obtain ⟨ρ,μ,Q0,hS,hM,h,cl⟩:=hq9
 unfold dVar at h
 split at h
 ·rename_i e he
  obtain ⟨v,e1,e2⟩:=hS.get i e he
  exact ⟨v,e1,cl e μ v H h hM (yc.refl _) e2⟩
 ·exact h.elim
theorem qu {i:Int}{j pos}:DE K X (.Constant (.int i) j pos) (dC (.int i)):=PE.mono jF fun σ H Q ⟨ρ,μ,Q0,hS,hM,h,cl⟩=>cl _ μ (.int i) H h hM (yc.refl _) (.int i)
theorem qhn {b:Bool}{j pos}:DE K X (.Constant (.bool b) j pos) (dC (.bool b)):=PE.mono pe_bl fun σ H Q ⟨ρ,μ,Q0,hS,hM,h,cl⟩=>cl _ μ (.bl b) H h hM (yc.refl _) (.bl b)
theorem qln {j pos}:DE K X (.Constant .none j pos) (dC .none):=PE.mono qki fun σ H Q ⟨ρ,μ,Q0,hS,hM,h,cl⟩=>cl _ μ .non H h hM (yc.refl _) .non
theorem up2 {σ:St}{H:Hp}{ta tb:TEd}{R:V->V->Hp->Prop}{ρ:Rho}{μ:Mu}{R0:En->En->Mu->Prop}(hS:RelS K ρ μ σ H) (hM:RelM K μ H) (h:ta ρ μ fun x μ1=>tb ρ μ1 fun y μ2=>R0 x y μ2)
  (f:∀ x y μ2 v u H2,R0 x y μ2->RelM K μ2 H2->yc (mask μ H) (mask μ2 H2)->IsE K μ2 H2 v x->IsE K μ2 H2 u y->R v u H2):up K ta σ H fun v H1=>up K tb σ H1 fun u H2=>R v u H2:=by
 refine ⟨ρ,μ,_,hS,hM,h,fun x μ1 v H1 q1 M1 s1 i1=>⟨ρ,μ1,_,hS.same s1,M1,q1,fun y μ2 u H2 q2 M2 s2 i2=>?_⟩⟩
 exact f x y μ2 v u H2 q2 M2 (s1.trans s2) (i1.same s2) i2
abbrev R2d:=En->En->Mu->(En->Mu->Prop)->Prop
abbrev R1d:=En->Mu->(En->Mu->Prop)->Prop
abbrev RAd:=List En->Mu->(En->Mu->Prop)->Prop
def upR (K:W.Frag) (r:R2d):R2:=fun x y H Q=>∃ μ e e' Q0,RelM K μ H/\IsE K μ H x e/\IsE K μ H y e'/\r e e' μ Q0/\Cl K μ H Q0 Q
def upU (K:W.Frag) (r:R1d):V->Hp->VK->Prop:=fun x H Q=>∃ μ e Q0,RelM K μ H/\IsE K μ H x e/\r e μ Q0/\Cl K μ H Q0 Q
def upC (K:W.Frag) (r:RAd):List V->Hp->VK->Prop:=fun xs H Q=>∃ μ es Q0,RelM K μ H/\Paired (IsE K μ H) xs es/\r es μ Q0/\Cl K μ H Q0 Q
variable {a b c:Expr}{ta tb tc:TEd}{pos:Pos}
def dOp (r:R2d) (ta tb:TEd):TEd:=fun ρ μ Q=>ta ρ μ fun x μ1=>tb ρ μ1 fun y μ2=>r x y μ2 Q
def dUn (r:R1d) (ta:TEd):TEd:=fun ρ μ Q=>ta ρ μ fun x μ1=>r x μ1 Q
theorem qhH {r:R2d}{σ:St}{H:Hp}{Q:VK}(h:up K (dOp r ta tb) σ H Q):tOp (upR K r) (up K ta) (up K tb) σ H Q:=by
 obtain ⟨ρ,μ,Q0,hS,hM,h,cl⟩:=h
 exact up2 hS hM h fun x y μ2 v u H2 q M2 s2 i1 i2=>⟨μ2,x,y,Q0,M2,i1,i2,q,cl.same s2⟩
theorem qO {op:Operator}{r:R2d}(ho:OpR X (binaryOp op) (upR K r)) (ha:DE K X a ta) (hb:DE K X b tb):DE K X (.BinOp a op b pos) (dOp r ta tb):=PE.mono (Zg ho ha hb) fun _ _ _=>qhH
theorem qaF {op:CmpOp}{r:R2d}(ho:OpR X (compareOp op) (upR K r)) (ha:DE K X a ta) (hb:DE K X b tb) (hm:behindInMarks op b=false):DE K X (.Compare a [op] [b] pos) (dOp r ta tb):=PE.mono (qif ho ha hb hm) fun _ _ _=>qhH
def qi4 (t:TEd):TTd:=fun ρ μ Q=>t ρ μ fun e μ1=>match e with
 | .d (.bool k)=>Q k μ1
 | _=>False
theorem qhG {t:TEd}{σ:St}{H:Hp}{Q:Bool->Hp->Prop}(h:upT K (qi4 t) σ H Q):up K t σ H fun x H1=>∃ k,x = .bl k/\Q k H1:=by
 obtain ⟨ρ,μ,Q0,hS,hM,h,cl⟩:=h
 refine ⟨ρ,μ,_,hS,hM,h,fun e μ1 v H1 q M1 s1 i1=>?_⟩
 split at q
 ·cases i1
  exact ⟨_,rfl,cl _ μ1 H1 q M1 s1⟩
 ·exact q.elim
theorem yj {op:CmpOp}{r:R2d}(ho:OpR X (compareOp op) (upR K r)) (ha:DE K X a ta) (hb:DE K X b tb) (hm:behindInMarks op b=false):DT K X (.Compare a [op] [b] pos) (qi4 (dOp r ta tb)):=by
 refine PT.mono (qdp ho ha hb hm) fun σ H Q h=>?_
 obtain ⟨ρ,μ,Q0,hS,hM,h,cl⟩:=h
 refine up2 hS hM h fun x y μ2 v u H2 q M2 s2 i1 i2=>⟨μ2,x,y,_,M2,i1,i2,q,fun e μ3 w H3 q3 M3 s3 i3=>?_⟩
 split at q3
 ·cases i3
  exact ⟨_,rfl,cl _ μ3 H3 q3 M3 (s2.trans s3)⟩
 ·exact q3.elim
theorem qaC {t:TEd}(h:DE K X a t) (he:∀ whole,isTrue a X.env whole=(do let v <- whole;standAt a.pos;holding [v] (truthy v)):=by intro _;rfl):DT K X a (qi4 t):=PT.mono (qj5 h he) fun _ _ _=>qhG
theorem YO {op:UnaryOp}{r:R1d}(ho:UnR X (unaryOp op) (upU K r)) (ha:DE K X a ta):DE K X (.UnaryOp op a pos) (dUn r ta):=by
 refine PE.mono (pe_un ho ha) fun σ H Q hq9=>?_
 obtain ⟨ρ,μ,Q0,hS,hM,h,cl⟩:=hq9
 exact ⟨ρ,μ,_,hS,hM,h,fun e μ1 v H1 q M1 s1 i1=>⟨μ1,e,Q0,M1,i1,q,cl.same s1⟩⟩
def rdI (C:Int->Int->Prop) (g:Int->Int->PyData):R2d:=fun x y μ Q=>match x,y with
 | .d (.int i),.d (.int j)=>C i j/\Q (.d (g i j)) μ
 | _,_=>False
def qfo (g:Int->Int->PyData):R2d:=fun x y μ Q=>match x,y with
 | .d (.int i),.d (.int j)=>Q (.d (g i j)) μ
 | _,_=>False
def rdU (g:Int->PyData):R1d:=fun x μ Q=>match x with
 | .d (.int i)=>Q (.d (g i)) μ
 | _=>False
theorem qch {C:Int->Int->Prop}{g:Int->Int->Int}{x y:V}{H:Hp}{Q:VK}(h:upR K (rdI C fun i j=>.int (g i j)) x y H Q):rI C (fun i j=>.int (g i j)) x y H Q:=by
 obtain ⟨μ,e,e',Q0,M,i1,i2,q,cl⟩:=h
 unfold rdI at q
 split at q
 ·cases i1;cases i2
  exact ⟨_,_,rfl,rfl,q.1,cl _ μ _ H q.2 M (yc.refl _) (.int _)⟩
 ·exact q.elim
theorem qgl {g:Int->Int->Int}{x y:V}{H:Hp}{Q:VK}(h:upR K (qfo fun i j=>.int (g i j)) x y H Q):rI0 (fun i j=>.int (g i j)) x y H Q:=by
 obtain ⟨μ,e,e',Q0,M,i1,i2,q,cl⟩:=h
 unfold qfo at q
 split at q
 ·cases i1;cases i2
  exact ⟨_,_,rfl,rfl,cl _ μ _ H q M (yc.refl _) (.int _)⟩
 ·exact q.elim
theorem qcR {g:Int->Int->Bool}{x y:V}{H:Hp}{Q:VK}(h:upR K (qfo fun i j=>.bool (g i j)) x y H Q):rI0 (fun i j=>.bl (g i j)) x y H Q:=by
 obtain ⟨μ,e,e',Q0,M,i1,i2,q,cl⟩:=h
 unfold qfo at q
 split at q
 ·cases i1;cases i2
  exact ⟨_,_,rfl,rfl,cl _ μ _ H q M (yc.refl _) (.bl _)⟩
 ·exact q.elim
theorem yx:OpR X (binaryOp .Add) (upR K (qfo fun i j=>.int (i+j))):=qdH.mono fun _ _ _ _=>qgl
theorem yl:OpR X (binaryOp .Sub) (upR K (qfo fun i j=>.int (i - j))):=qkn.mono fun _ _ _ _=>qgl
theorem Jh:OpR X (binaryOp .Mult) (upR K (rdI qgk fun i j=>.int (i * j))):=qa5.mono fun _ _ _ _=>qch
theorem qer:OpR X (binaryOp .FloorDiv) (upR K (rdI qcD fun i j=>.int (i.fdiv j))):=ZK.mono fun _ _ _ _=>qch
theorem Y9:OpR X (binaryOp .Mod) (upR K (rdI (fun _ j=>0<j) fun i j=>.int (i % j))):=qaq.mono fun _ _ _ _=>qch
theorem JC:OpR X (binaryOp .Pow) (upR K (rdI CPow fun i j=>.int (i ^ j.toNat))):=qko.mono fun _ _ _ _=>qch
theorem qaD:OpR X (compareOp .Lt) (upR K (qfo fun i j=>.bool (decide (i<j)))):=op_lt.mono fun _ _ _ _=>qcR
theorem qcx:OpR X (compareOp .LtE) (upR K (qfo fun i j=>.bool (decide (i<=j)))):=op_le.mono fun _ _ _ _=>qcR
theorem ZS:OpR X (compareOp .Gt) (upR K (qfo fun i j=>.bool (decide (j<i)))):=qkr.mono fun _ _ _ _=>qcR
theorem yO:UnR X (unaryOp .USub) (upU K (rdU fun i=>.int (-i))):=qjx.mono fun x H Q h=>by
 obtain ⟨μ,e,Q0,M,i1,q,cl⟩:=h
 unfold rdU at q
 split at q
 ·cases i1
  exact ⟨_,rfl,cl _ μ _ H q M (yc.refl _) (.int _)⟩
 ·exact q.elim
inductive LstOf (μ:Mu):En->List PyData->Prop
 | d (ds:List PyData):LstOf μ (.d (.list ds)) ds
 | m {a:Addr}{ds:List PyData}(h:(a,.lst ds)∈μ):LstOf μ (.m a) ds
theorem LstOf.get {μ:Mu}{e:En}{ds:List PyData}{H:Hp}{v:V}(h:LstOf μ e ds) (M:RelM K μ H) (i:IsE K μ H v e):∃ p xs,v = .ref p/\SqL K H p xs/\IsAll K (mask μ H) xs ds:=by
 cases h with
 | d ds =>
  cases i with
  | lst h hs=>exact ⟨_,_,rfl,yc.seq yN h,hs⟩
 | m h =>
  obtain ⟨xs,e,hs⟩:=M.ob _ _ h
  exact ⟨_,xs,i,SqL.of e,hs⟩
inductive DatOf (μ:Mu):En->PyData->Prop
 | d (x:PyData):DatOf μ (.d x) x
 | m {a:Addr}{ds:List PyData}(h:(a,.lst ds)∈μ):DatOf μ (.m a) (.list ds)
theorem DatOf.is {μ:Mu}{e:En}{x:PyData}{H:Hp}{v:V}(h:DatOf μ e x) (M:RelM K μ H) (i:IsE K μ H v e):Is K H v x:=by
 cases h with
 | d x=>exact Is.same yN i
 | m h =>
  obtain ⟨xs,e,hs⟩:=M.ob _ _ h
  have i:v=_:=i
  subst i
  exact .lst (SqL.of e) (IsAll.same yN hs)
def qlX (neg:Bool):R2d:=fun x y μ Q=>match x,y with
 | .d (.int i),.d (.int j)=>Q (.d (.bool (if neg then !decide (i=j) else decide (i=j)))) μ
 | _,_=>∃ d d',DatOf μ x d/\DatOf μ y d'/\SeqAt.shaped d=true/\SeqAt.shaped d'=true/\Q (.d (.bool (if neg then !PyData.eqv d d' else PyData.eqv d d'))) μ
theorem qiT (i j:Int):PyData.eqv (.int i) (.int j)=decide (i=j):=by
 by_cases h:i=j <;> simp [PyData.eqv,h]
theorem qbI {neg:Bool}{x y:En}{μ:Mu}{Q:En->Mu->Prop}(h:qlX neg x y μ Q):∃ d d',DatOf μ x d/\DatOf μ y d'/\SeqAt.shaped d=true/\SeqAt.shaped d'=true/\Q (.d (.bool (if neg then !PyData.eqv d d' else PyData.eqv d d'))) μ:=by
 unfold qlX at h
 split at h
 ·exact ⟨_,_,.d _,.d _,rfl,rfl,by rw [qiT];exact h⟩
 ·exact h
theorem YC (hu:X.A.units+64<cLine) (hK:X.K=K:=by rfl):OpR X (compareOp .Eq) (upR K (qlX false)):=by
 subst hK
 refine (qks hu).mono fun x y H Q h=>?_
 obtain ⟨μ,e,e',Q0,M,i1,i2,q,cl⟩:=h
 obtain ⟨d,d',h1,h2,h3,h4,q⟩:=qbI q
 exact ⟨d,d',h1.is M i1,h2.is M i2,h3,h4,cl _ μ _ H q M (yc.refl _) (.bl _)⟩
theorem qbh (hu:X.A.units+64<cLine) (hK:X.K=K:=by rfl):OpR X (compareOp .NotEq) (upR K (qlX true)):=by
 subst hK
 refine (qkp hu).mono fun x y H Q h=>?_
 obtain ⟨μ,e,e',Q0,M,i1,i2,q,cl⟩:=h
 obtain ⟨d,d',h1,h2,h3,h4,q⟩:=qbI q
 exact ⟨d,d',h1.is M i1,h2.is M i2,h3,h4,cl _ μ _ H q M (yc.refl _) (.bl _)⟩
def dAnd (t u:TTd):TTd:=fun ρ μ Q=>t ρ μ fun k μ1=>if k=true then u ρ μ1 Q else Q false μ1
def dOr (t u:TTd):TTd:=fun ρ μ Q=>t ρ μ fun k μ1=>if k=true then Q true μ1 else u ρ μ1 Q
def dNot (t:TTd):TTd:=fun ρ μ Q=>t ρ μ fun k μ1=>Q (!k) μ1
variable {tA tB:TTd}{y9:List Expr}
theorem Yp (ha:DT K X a tA):DW K X (.BoolOp .And [a] pos) tA:=qh1 ha
theorem qhg (ha:DT K X a tA):DW K X (.BoolOp .Or [a] pos) tA:=qj2 ha
theorem Zq (ha:DT K X a tA) (hb:DW K X (.BoolOp .And (b::y9) pos) tB):DW K X (.BoolOp .And (a::b::y9) pos) (dAnd tA tB):=by
 refine PW.mono (qj3 ha hb) fun σ H Q hq9=>?_
 obtain ⟨ρ,μ,Q0,hS,hM,h,cl⟩:=hq9
 refine ⟨ρ,μ,_,hS,hM,h,fun k μ1 H1 q M1 s1=>?_⟩
 cases k with
 | true=>exact ⟨ρ,μ1,Q0,hS.same s1,M1,by simpa using q,cl.same s1⟩
 | false=>exact cl _ μ1 H1 (by simpa using q) M1 s1
theorem qiX (ha:DT K X a tA) (hb:DW K X (.BoolOp .Or (b::y9) pos) tB):DW K X (.BoolOp .Or (a::b::y9) pos) (dOr tA tB):=by
 refine PW.mono (pw_or ha hb) fun σ H Q hq9=>?_
 obtain ⟨ρ,μ,Q0,hS,hM,h,cl⟩:=hq9
 refine ⟨ρ,μ,_,hS,hM,h,fun k μ1 H1 q M1 s1=>?_⟩
 cases k with
 | false=>exact ⟨ρ,μ1,Q0,hS.same s1,M1,by simpa using q,cl.same s1⟩
 | true=>exact cl _ μ1 H1 (by simpa using q) M1 s1
theorem qhh (h:DW K X a tA):DT K X a tA:=PW.pt h
theorem qhi (ha:DT K X a tA):DT K X (.UnaryOp .Not a pos) (dNot tA):=PT.mono (qj6 ha) fun σ H Q ⟨ρ,μ,Q0,hS,hM,h,cl⟩=>⟨ρ,μ,_,hS,hM,h,fun k μ1 H1 q M1 s1=>cl _ μ1 H1 q M1 s1⟩
def dAndV (ta tb:TEd):TEd:=fun ρ μ Q=>ta ρ μ fun x μ1=>match x with
 | .d (.bool k)=>if k=true then tb ρ μ1 Q else Q (.d (.bool false)) μ1
 | _=>False
def dNotV (ta:TEd):TEd:=fun ρ μ Q=>ta ρ μ fun x μ1=>match x with
 | .d (.bool k)=>Q (.d (.bool (!k))) μ1
 | _=>False
theorem qi2 {op} {t:TEd}(h:DE K X a t):DE K X (.BoolOp op [a] pos) t:=qkg h
theorem qf2 (ha:DE K X a ta) (hb:DE K X (.BoolOp .And (b::y9) pos) tb):DE K X (.BoolOp .And (a::b::y9) pos) (dAndV ta tb):=by
 refine PE.mono (qkk ha hb) fun σ H Q hq9=>?_
 obtain ⟨ρ,μ,Q0,hS,hM,h,cl⟩:=hq9
 refine ⟨ρ,μ,_,hS,hM,h,fun e μ1 v H1 q M1 s1 i1=>?_⟩
 split at q
 ·rename_i k
  cases i1
  refine ⟨k,rfl,?_⟩
  cases k with
  | true=>exact qfN ⟨ρ,μ1,Q0,hS.same s1,M1,by simpa using q,cl.same s1⟩
  | false=>exact qbd (cl (.d (.bool false)) μ1 _ H1 (by simpa using q) M1 s1 (Is.bl _))
 ·exact q.elim
theorem d_not (ha:DE K X a ta):DE K X (.UnaryOp .Not a pos) (dNotV ta):=by
 refine PE.mono (qkh ha) fun σ H Q hq9=>?_
 obtain ⟨ρ,μ,Q0,hS,hM,h,cl⟩:=hq9
 refine ⟨ρ,μ,_,hS,hM,h,fun e μ1 v H1 q M1 s1 i1=>?_⟩
 split at q
 ·cases i1
  exact ⟨_,rfl,cl _ μ1 _ H1 q M1 s1 (.bl _)⟩
 ·exact q.elim
def dIf (t:TTd) (ta tb:TEd):TEd:=fun ρ μ Q=>t ρ μ fun k μ1=>if k=true then ta ρ μ1 Q else tb ρ μ1 Q
theorem qbj (hc:DT K X c tA) (ha:DE K X a ta) (hb:DE K X b tb):DE K X (.IfExp c a b pos) (dIf tA ta tb):=by
 refine PE.mono (qfw hc ha hb) fun σ H Q hq9=>?_
 obtain ⟨ρ,μ,Q0,hS,hM,h,cl⟩:=hq9
 refine ⟨ρ,μ,_,hS,hM,h,fun k μ1 H1 q M1 s1=>?_⟩
 cases k with
 | true=>exact qfN ⟨ρ,μ1,Q0,hS.same s1,M1,by simpa using q,cl.same s1⟩
 | false=>exact qbd ⟨ρ,μ1,Q0,hS.same s1,M1,by simpa using q,cl.same s1⟩
variable {es:List Expr}{tr:TAd}
def dNil:TAd:=fun _ μ Q=>Q [] μ
def dCons (ta:TEd) (tr:TAd):TAd:=fun ρ μ Q=>ta ρ μ fun x μ1=>tr ρ μ1 fun xs μ2=>Q (x::xs) μ2
theorem qd:DA K X [] dNil:=PA.mono qkl fun σ H Q ⟨ρ,μ,Q0,hS,hM,h,cl⟩=>cl _ μ _ H h hM (yc.refl _) .nil
theorem qa (ha:DE K X a ta) (hr:DA K X es tr) (hs:starEach (a::es) X.env=(false,eval a X.env)::starEach es X.env:=by rfl):DA K X (a::es) (dCons ta tr):=by
 refine PA.mono (qij ha hr hs) fun σ H Q hq9=>?_
 obtain ⟨ρ,μ,Q0,hS,hM,h,cl⟩:=hq9
 refine ⟨ρ,μ,_,hS,hM,h,fun e μ1 v H1 q M1 s1 i1=>⟨ρ,μ1,_,hS.same s1,M1,q,fun es' μ2 vs H2 q2 M2 s2 i2=>?_⟩⟩
 exact cl _ μ2 _ H2 q2 M2 (s1.trans s2) (.cons (i1.same s2) i2)
def qjh:List En->Option (List PyData)
 | []=>some []
 | .d x::r=>(qjh r).map (x::·)
 | _::_=>none
theorem Z5 {μ:Mu}{H:Hp}:∀ {es:List En}{ds:List PyData}{vs:List V},qjh es=some ds->Paired (IsE K μ H) vs es->IsAll K (mask μ H) vs ds
 | [],_,_,e,.nil=>by cases e;exact .nil
 | .d x::r,_,_,e,.cons h t=>by
  simp only [qjh] at e
  cases q:qjh r with
  | none=>rw [q] at e;cases e
  | some ds'=>rw [q] at e;cases e;exact .cons h (Z5 q t)
 | .m a::r,_,_,e,_=>by cases e
 | .x a::r,_,_,e,_=>by cases e
 | .ty a::r,_,_,e,_=>by cases e
def dTup (tr:TAd):TEd:=fun ρ μ Q=>tr ρ μ fun es μ1=>match qjh es with
 | some ds=>ds.length<=4000/\Q (.d (.tuple ds)) μ1
 | none=>False
def dLst (tr:TAd):TEd:=fun ρ μ Q=>tr ρ μ fun es μ1=>match qjh es with
 | some ds=>ds.length<=4000/\Q (.d (.list ds)) μ1
 | none=>False
theorem yC {x1} (h:DA K X es tr):DE K X (.Tuple es x1 pos) (dTup tr):=by
 refine PE.mono (qke h) fun σ H Q hq9=>?_
 obtain ⟨ρ,μ,Q0,hS,hM,h,cl⟩:=hq9
 refine ⟨ρ,μ,_,hS,hM,h,fun es' μ1 vs H1 q M1 s1 i1=>?_⟩
 split at q
 ·rename_i ds e
  have hA:=Z5 e i1
  refine ⟨yH (jd (by rw [hA.len];exact q.1)),fun p hp=>?_⟩
  obtain ⟨M2,s2,hn⟩:=M1.laid (o:=.tup vs) hp
  exact cl _ μ1 _ _ q.2 M2 (s1.trans s2) (.tup (SqT.of (by rw [yR hn];exact yf)) (IsAll.same s2 hA))
 ·exact q.elim
theorem qey (h:DA K X es tr):DE K X (.List es pos) (dLst tr):=by
 refine PE.mono (qgZ h) fun σ H Q hq9=>?_
 obtain ⟨ρ,μ,Q0,hS,hM,h,cl⟩:=hq9
 refine ⟨ρ,μ,_,hS,hM,h,fun es' μ1 vs H1 q M1 s1 i1=>?_⟩
 split at q
 ·rename_i ds e
  have hA:=Z5 e i1
  refine ⟨yH (jd (by rw [hA.len];exact q.1)),fun p hp=>?_⟩
  obtain ⟨M2,s2,hn⟩:=M1.laid (o:=.lst vs) hp
  exact cl _ μ1 _ _ q.2 M2 (s1.trans s2) (.lst (SqL.of (by rw [yR hn];exact yf)) (IsAll.same s2 hA))
 ·exact q.elim
def dLstM (tr:TAd):TEd:=fun ρ μ Q=>tr ρ μ fun es μ1=>match qjh es with
 | some ds=>ds.length<=4000/\∀ p,p∉μ1.map Prod.fst->Q (.m p) ((p,.lst ds)::μ1)
 | none=>False
theorem qex (h:DA K X es tr):DE K X (.List es pos) (dLstM tr):=by
 refine PE.mono (qgZ h) fun σ H Q hq9=>?_
 obtain ⟨ρ,μ,Q0,hS,hM,h,cl⟩:=hq9
 refine ⟨ρ,μ,_,hS,hM,h,fun es' μ1 vs H1 q M1 s1 i1=>?_⟩
 split at q
 ·rename_i ds e
  have hA:=Z5 e i1
  refine ⟨yH (jd (by rw [hA.len];exact q.1)),fun p hp=>?_⟩
  obtain ⟨_,_,hn⟩:=M1.laid (o:=.lst vs) hp
  obtain ⟨M2,s2⟩:=M1.new (u:=.lst vs) (o:=.lst ds) hp fun ss=>⟨vs,yf,IsAll.same ss hA⟩
  exact cl _ _ _ _ (q.2 p hn) M2 (s1.trans s2) rfl
 ·exact q.elim
end
theorem IsAll.atI {K:W.Frag}{H:Hp}{vs:List V}{ds:List PyData}{i:Int}{z:PyData}(h:IsAll K H vs ds) (e:L2.atI ds i=some z):∃ v,L2.atI vs i=some v/\Is K H v z:=by
 unfold L2.atI at *
 rw [h.len]
 cases q:ixN ds.length i with
 | none=>rw [q] at e;cases e
 | some j =>
  rw [q] at e
  obtain ⟨v,e1,e2⟩:=h.get' (i:=j) e
  exact ⟨v,e1,e2⟩
section
variable {X:Cx}{K:W.Frag}{a b c:Expr}{ta tb tc:TEd}{tA tB:TTd}{pos:Pos}{es:List Expr}{tr:TAd}
def qjV:R2d:=fun x y μ Q=>match y with
 | .d (.int i)=>∃ ds z,LstOf μ x ds/\atI ds i=some z/\Q (.d z) μ
 | _=>False
def qjU:R2d:=fun x y μ Q=>match x,y with
 | .d (.tuple ds),.d (.int i)=>∃ z,atI ds i=some z/\Q (.d z) μ
 | _,_=>False
theorem qiW (hK:X.K=K:=by rfl):IxR X (upR K qjV):=by
 subst hK
 refine JO.mono fun x y H Q h=>?_
 obtain ⟨μ,e,e',Q0,M,i1,i2,q,cl⟩:=h
 unfold qjV at q
 split at q
 ·obtain ⟨ds,z,h1,h2,q⟩:=q
  cases i2
  obtain ⟨p,xs,rfl,h3,h4⟩:=h1.get M i1
  obtain ⟨v,e1,e2⟩:=h4.atI h2
  exact ⟨p,xs,_,v,rfl,rfl,h3,e1,cl _ μ v H q M (yc.refl _) e2⟩
 ·exact q.elim
theorem qlg (hK:X.K=K:=by rfl):IxR X (upR K qjU):=by
 subst hK
 refine qk0.mono fun x y H Q h=>?_
 obtain ⟨μ,e,e',Q0,M,i1,i2,q,cl⟩:=h
 unfold qjU at q
 split at q
 ·obtain ⟨z,h2,q⟩:=q
  cases i2
  have i1':=Is.same yN (show Is X.K (mask μ H) x _ from i1)
  cases i1 with
  | tup h3 h4 =>
   obtain ⟨v,e1,e2⟩:=h4.atI h2
   cases i1' with
   | tup h5 h6 =>
    refine ⟨_,_,_,v,rfl,rfl,?_,e1,cl _ μ v H q M (yc.refl _) e2⟩
    rcases h3 with (e | ⟨o,e⟩) | e
    ·exact .inl (.inl (yN _ _ e))
    ·exact .inl (.inr ⟨o,yN _ _ e⟩)
    ·exact .inr e
 ·exact q.elim
theorem jh {r:R2d}(hr:IxR X (upR K r)) (ha:DE K X a ta) (hb:DE K X b tb) (hs:qeU b):DE K X (.Subscript a b pos) (dOp r ta tb):=PE.mono (qa3 hr ha hb hs) fun _ _ _=>qhH
def Z8 (xs:List PyData) (lo hi:Option Int):List PyData:=(xs.drop (HT.sIx xs.length 0 lo)).take (HT.sIx xs.length xs.length hi - HT.sIx xs.length 0 lo)
theorem IsAll.cut {H:Hp}{vs:List V}{ds:List PyData}{lo hi:Option Int}(h:IsAll K H vs ds):IsAll K H (qi8 vs lo hi) (Z8 ds lo hi):=by
 unfold qi8 Z8
 rw [h.len]
 exact (h.drop _).take _
abbrev TOd:=Rho->Mu->(Option Int->Mu->Prop)->Prop
def upO (K:W.Frag) (t:TOd):TO:=fun σ H Q=>∃ ρ μ Q0,RelS K ρ μ σ H/\RelM K μ H/\t ρ μ Q0/\∀ o μ' H',Q0 o μ'->RelM K μ' H'->yc (mask μ H) (mask μ' H')->Q o H'
def DO (K:W.Frag) (X:Cx) (e:Option Expr) (t:TOd):Prop:=PO X e (upO K t)
theorem PO.mono {e:Option Expr}{t t':TO}(h:PO X e t) (f:∀ σ H Q,t' σ H Q->t σ H Q):PO X e t':=fun pins s σ H Q I q=>h pins s σ H Q I (f _ _ _ q)
def qi5:TOd:=fun _ μ Q=>Q none μ
def dPart (t:TEd):TOd:=fun ρ μ Q=>t ρ μ fun x μ1=>match x with
 | .d (.int i)=>Q (some i) μ1
 | _=>False
theorem Yr:DO K X none qi5:=PO.mono qh7 fun σ H Q ⟨ρ,μ,Q0,hS,hM,h,cl⟩=>cl none μ H h hM (yc.refl _)
theorem Yq (h:DE K X a ta):DO K X (some a) (dPart ta):=PO.mono (qh6 h) fun σ H Q ⟨ρ,μ,Q0,hS,hM,h,cl⟩=>⟨ρ,μ,_,hS,hM,h,fun e μ1 v H1 q M1 s1 i1=>by
 split at q
 ·cases i1;exact ⟨_,rfl,cl _ μ1 H1 q M1 s1⟩
 ·exact q.elim⟩
def dSl (r:En->Option Int->Option Int->Mu->(En->Mu->Prop)->Prop) (te:TEd) (tl th:TOd):TEd:=fun ρ μ Q=>te ρ μ fun x μ1=>tl ρ μ1 fun l μ2=>th ρ μ2 fun u μ3=>r x l u μ3 Q
def rdSlL:En->Option Int->Option Int->Mu->(En->Mu->Prop)->Prop:=fun x l u μ Q=>∃ ds,LstOf μ x ds/\Q (.d (.list (Z8 ds l u))) μ
theorem Ys {lo hi:Option Expr}{p2:Pos}{tl th:TOd}(ha:DE K X a ta) (hl:DO K X lo tl) (hu:DO K X hi th) (hK:X.K=K:=by rfl):DE K X (.Subscript a (.Slice lo hi none p2) pos) (dSl rdSlL ta tl th):=by
 subst hK
 refine PE.mono (qfv qhR ha hl hu) fun σ H Q hq9=>?_
 obtain ⟨ρ,μ,Q0,hS,hM,h,cl⟩:=hq9
 refine ⟨ρ,μ,_,hS,hM,h,fun e μ1 v H1 q1 M1 s1 i1=>⟨ρ,μ1,_,hS.same s1,M1,q1,fun l μ2 H2 q2 M2 s2=>⟨ρ,μ2,_,hS.same (s1.trans s2),M2,q2,fun u μ3 H3 q3 M3 s3=>?_⟩⟩⟩
 obtain ⟨ds,h1,q⟩:=q3
 have i3:=i1.same (s2.trans s3)
 obtain ⟨p,xs,rfl,h3,h4⟩:=h1.get M3 i3
 refine ⟨p,xs,rfl,h3,fun l hl=>?_⟩
 obtain ⟨M4,s4,hn⟩:=M3.laid (o:=.lst (qi8 xs _ _)) hl
 exact cl _ _ _ _ q M4 ((s1.trans s2).trans (s3.trans s4)) (.lst (SqL.of (by rw [yR hn];exact yf)) (IsAll.same s4 h4.cut))
def dCB (r:RAd) (tr:TAd):TEd:=fun ρ μ Q=>tr ρ μ fun es μ1=>r es μ1 Q
theorem qjw {r:RAd}{σ:St}{H:Hp}{Q:VK}(h:up K (dCB r tr) σ H Q):tCB (upC K r) (upA K tr) σ H Q:=by
 obtain ⟨ρ,μ,Q0,hS,hM,h,cl⟩:=h
 exact ⟨ρ,μ,_,hS,hM,h,fun es μ1 vs H1 q M1 s1 i1=>⟨μ1,es,Q0,M1,i1,q,cl.same s1⟩⟩
theorem qQ {id:String}{x:Str}{r:RAd}{e:Expr}{p:Pos}(hc:yL X (.builtin id) (upC K r)) (hg:Gl X x) (hm:X.mg x=none) (hv:bootBuiltins x=some (.builtin id)) (ha:DA K X (e::es) tr) (hn:x ≠ "__name__" := by decide) (hdb:(x == ("__debug__" : Str))=false:=by decide)
  (he:starEach (e::es) X.env=(false,eval e X.env)::starEach es X.env:=by rfl) (hpl:(backTo pos (starEach es X.env)).any (·.1)=false:=by rfl):DE K X (.Call (.Name x p) (e::es) [] pos) (dCB r tr):=PE.mono (qfy hc hg hm hv ha hn hdb he hpl) fun _ _ _=>qjw
theorem jR {T:String}{x:Str}{r:RAd}{e:Expr}{p:Pos}(hc:yL X (.type T) (upC K r)) (hg:Gl X x) (hm:X.mg x=none) (hv:bootBuiltins x=some (.type T)) (ha:DA K X (e::es) tr) (hn:x ≠ "__name__" := by decide) (hdb:(x == ("__debug__" : Str))=false:=by decide)
  (he:starEach (e::es) X.env=(false,eval e X.env)::starEach es X.env:=by rfl) (hpl:(backTo pos (starEach es X.env)).any (·.1)=false:=by rfl):DE K X (.Call (.Name x p) (e::es) [] pos) (dCB r tr):=PE.mono (qdF hc hg hm hv ha hn hdb he hpl) fun _ _ _=>qjw
theorem JY {μ:Mu}{H:Hp}{vs:List V}{e:En}(h:Paired (IsE K μ H) vs [e]):∃ v,vs=[v]/\IsE K μ H v e:=by
 cases h with | cons a b=>cases b;exact ⟨_,rfl,a⟩
theorem qap {μ:Mu}{H:Hp}{vs:List V}{e e':En}(h:Paired (IsE K μ H) vs [e,e']):∃ v v',vs=[v,v']/\IsE K μ H v e/\IsE K μ H v' e':=by
 cases h with | cons a b=>cases b with | cons c d=>cases d;exact ⟨_,_,rfl,a,c⟩
def qj0:RAd:=fun es μ Q=>match es with
 | [.d (.int i)]=>Q (.d (.int (i.natAbs:Int))) μ
 | _=>False
theorem J3:yL X (.builtin "abs") (upC K qj0):=qf8.mono fun xs H Q h=>by
 obtain ⟨μ,es,Q0,M,hp,q,cl⟩:=h
 unfold qj0 at q
 split at q
 ·rename_i i
  obtain ⟨v,rfl,i1⟩:=JY hp
  cases i1
  have e:(if i<0 then -i else i)=(i.natAbs:Int):=by split <;> omega
  exact ⟨_,rfl,by rw [e];exact cl _ μ _ H q M (yc.refl _) (.int _)⟩
 ·exact q.elim
def qlY (g:Int->Int->Int):RAd:=fun es μ Q=>match es with
 | [.d (.int i),.d (.int j)]=>Q (.d (.int (g i j))) μ
 | _=>False
theorem qb6 (hc:X.calm=true):yL X (.builtin "max") (upC K (qlY fun i j=>if i<j then j else i)):=(qeK hc).mono fun xs H Q h=>by
 obtain ⟨μ,es,Q0,M,hp,q,cl⟩:=h
 unfold qlY at q
 split at q
 ·obtain ⟨v,v',rfl,i1,i2⟩:=qap hp
  cases i1;cases i2
  exact ⟨_,_,rfl,cl _ μ _ H q M (yc.refl _) (.int _)⟩
 ·exact q.elim
theorem qhj (hc:X.calm=true):yL X (.builtin "min") (upC K (qlY fun i j=>if j<i then j else i)):=(qeI hc).mono fun xs H Q h=>by
 obtain ⟨μ,es,Q0,M,hp,q,cl⟩:=h
 unfold qlY at q
 split at q
 ·obtain ⟨v,v',rfl,i1,i2⟩:=qap hp
  cases i1;cases i2
  exact ⟨_,_,rfl,cl _ μ _ H q M (yc.refl _) (.int _)⟩
 ·exact q.elim
def qjX:RAd:=fun es μ Q=>match es with
 | [.d (.int i)]=>Q (.d (.int i)) μ
 | [.d (.bool k)]=>Q (.d (.int (if k=true then 1 else 0))) μ
 | _=>False
theorem qhl:yL X (.type "int") (upC K qjX):=qeL.mono fun xs H Q h=>by
 obtain ⟨μ,es,Q0,M,hp,q,cl⟩:=h
 unfold qjX at q
 split at q
 ·obtain ⟨v,rfl,i1⟩:=JY hp
  cases i1
  exact .inl ⟨_,rfl,cl _ μ _ H q M (yc.refl _) (.int _)⟩
 ·obtain ⟨v,rfl,i1⟩:=JY hp
  cases i1
  exact .inr ⟨_,rfl,cl _ μ _ H q M (yc.refl _) (.int _)⟩
 ·exact q.elim
inductive SeqOf (μ:Mu):En->List PyData->Prop
 | l {e:En}{ds:List PyData}(h:LstOf μ e ds):SeqOf μ e ds
 | t (ds:List PyData):SeqOf μ (.d (.tuple ds)) ds
theorem SeqOf.get {μ:Mu}{e:En}{ds:List PyData}{H:Hp}{v:V}(h:SeqOf μ e ds) (M:RelM K μ H) (i:IsE K μ H v e):∃ p xs,v = .ref p/\(SqL K H p xs\/SqT K H p xs)/\IsAll K (mask μ H) xs ds:=by
 cases h with
 | l h=>obtain ⟨p,xs,h1,h2,h3⟩:=h.get M i;exact ⟨p,xs,h1,.inl h2,h3⟩
 | t ds =>
  cases i with
  | tup h hs =>
   refine ⟨_,_,rfl,.inr ?_,hs⟩
   rcases h with (e | ⟨o,e⟩) | e
   ·exact .inl (.inl (yN _ _ e))
   ·exact .inl (.inr ⟨o,yN _ _ e⟩)
   ·exact .inr e
def qjT:RAd:=fun es μ Q=>match es with
 | [e]=>∃ ds,SeqOf μ e ds/\Q (.d (.int (ds.length:Int))) μ
 | _=>False
theorem jZ (hK:X.K=K:=by rfl):yL X (.builtin "len") (upC K qjT):=by
 subst hK
 refine qaH.mono fun xs H Q h=>?_
 obtain ⟨μ,es,Q0,M,hp,q,cl⟩:=h
 unfold qjT at q
 split at q
 ·obtain ⟨v,rfl,i1⟩:=JY hp
  obtain ⟨ds,h1,q⟩:=q
  obtain ⟨p,ys,rfl,h2,h3⟩:=h1.get M i1
  exact ⟨p,ys,rfl,h2,by rw [h3.len];exact cl _ μ _ H q M (yc.refl _) (.int _)⟩
 ·exact q.elim
def qgV:RAd:=fun es μ Q=>match es with
 | [e]=>∃ ds,SeqOf μ e ds/\Q (.d (.list ds)) μ
 | _=>False
theorem ZT (hK:X.K=K:=by rfl):yL X (.type "list") (upC K qgV):=by
 subst hK
 refine YA.mono fun xs H Q h=>?_
 obtain ⟨μ,es,Q0,M,hp,q,cl⟩:=h
 unfold qgV at q
 split at q
 ·obtain ⟨v,rfl,i1⟩:=JY hp
  obtain ⟨ds,h1,q⟩:=q
  obtain ⟨p,ys,rfl,h2,h3⟩:=h1.get M i1
  refine ⟨p,ys,rfl,h2,fun l hl=>?_⟩
  obtain ⟨M4,s4,hn⟩:=M.laid (o:=.lst ys) hl
  exact cl _ μ _ _ q M4 s4 (.lst (SqL.of (by rw [yR hn];exact yf)) (IsAll.same s4 h3))
 ·exact q.elim
def qdm:RAd:=fun es μ Q=>match es with
 | [e]=>∃ ds,SeqOf μ e ds/\∀ p,p∉μ.map Prod.fst->Q (.m p) ((p,.lst ds)::μ)
 | _=>False
theorem qf1 (hK:X.K=K:=by rfl):yL X (.type "list") (upC K qdm):=by
 subst hK
 refine YA.mono fun xs H Q h=>?_
 obtain ⟨μ,es,Q0,M,hp,q,cl⟩:=h
 unfold qdm at q
 split at q
 ·obtain ⟨v,rfl,i1⟩:=JY hp
  obtain ⟨ds,h1,q⟩:=q
  obtain ⟨p,ys,rfl,h2,h3⟩:=h1.get M i1
  refine ⟨p,ys,rfl,h2,fun l hl=>?_⟩
  obtain ⟨_,_,hn⟩:=M.laid (o:=.lst ys) hl
  obtain ⟨M2,s2⟩:=M.new (u:=.lst ys) (o:=.lst ds) hl fun ss=>⟨ys,yf,IsAll.same ss h3⟩
  exact cl _ _ _ _ (q l hn) M2 s2 rfl
 ·exact q.elim
def qjZ (f:List Bool->Bool):RAd:=fun es μ Q=>match es with
 | [e]=>∃ bs,LstOf μ e (bs.map PyData.bool)/\Q (.d (.bool (f bs))) μ
 | _=>False
theorem qlm (hc:X.calm=true) (hK:X.K=K:=by rfl):yL X (.builtin "all") (upC K (qjZ fun bs=>bs.all id)):=by
 subst hK
 refine (qf7 hc).mono fun xs H Q h=>?_
 obtain ⟨μ,es,Q0,M,hp,q,cl⟩:=h
 unfold qjZ at q
 split at q
 ·obtain ⟨v,rfl,i1⟩:=JY hp
  obtain ⟨bs,h1,q⟩:=q
  obtain ⟨p,ys,rfl,h2,h3⟩:=h1.get M i1
  rw [h3.bools_of] at h2
  exact ⟨p,bs,rfl,h2,cl _ μ _ H q M (yc.refl _) (.bl _)⟩
 ·exact q.elim
def isTy (n:String):PyData->Bool
 | .none=>false
 | .bool _=>n == "bool" || n == "int"
 | .int _=>n == "int"
 | .str _=>n == "str"
 | .list _=>n == "list"
 | .tuple _=>n == "tuple"
 | .dict _=>false
abbrev SpD:=List En->Mu->(En->Mu->Prop)->Prop
def qW (K:W.Frag) (s:SpD):Sp:=fun vs H Q _=>∃ μ es Q0,RelM K μ H/\Paired (IsE K μ H) vs es/\s es μ Q0/\Cl K μ H Q0 Q
theorem qS {CX:CXT}{k:Nat}{x:Str}{ps:List Str}{s:SpD}{e:Expr}{p:Pos}(O:Own X.prog X.w X.K X.mg X.base CX k x ps (qW K s)) (hX:NoX CX) (hr:Room k X.A) (hg:Gl X x) (ha:DA K X (e::es) tr) (hdb:(x == ("__debug__" : Str))=false:=by decide)
  (he:starEach (e::es) X.env=(false,eval e X.env)::starEach es X.env:=by rfl) (hpl:(backTo pos (starEach es X.env)).any (·.1)=false:=by rfl):DE K X (.Call (.Name x p) (e::es) [] pos) (dCB s tr):=by
 refine PE.mono (qkf O hX hr hg ha hdb he hpl) fun σ H Q hq9=>?_
 obtain ⟨ρ,μ,Q0,hS,hM,h,cl⟩:=hq9
 exact ⟨ρ,μ,_,hS,hM,h,fun es μ1 vs H1 q M1 s1 i1=>⟨μ1,es,Q0,M1,by simpa using i1,q,cl.same s1⟩⟩
theorem IsAll.flat {H H':Hp}:∀ {vs:List V}{ds:List PyData},ds.all (fun | .list _=>false | .dict _=>false | .tuple _=>false | _=>true)=true->IsAll K H vs ds->IsAll K H' vs ds
 | _,[],_,.nil=>.nil
 | _,d::ds,h,.cons a b=>by
  simp only [List.all_cons,Bool.and_eq_true] at h
  refine .cons ?_ (IsAll.flat h.2 b)
  cases a with
  | non=>exact .non
  | bl b=>exact .bl b
  | int i=>exact .int i
  | str x=>exact .str x
  | lst _ _=>exact absurd h.1 (by simp)
  | tup _ _=>exact absurd h.1 (by simp)
  | dc _=>exact absurd h.1 (by simp)
inductive Thaw (a:Addr) (ds:List PyData):List En->List En->Prop
 | nil:Thaw a ds [] []
 | me {es es':List En}:Thaw a ds es es'->Thaw a ds (.m a::es) (.d (.list ds)::es')
 | ot {e:En}{es es':List En}:Thaw a ds es es'->Thaw a ds (e::es) (e::es')
theorem Thaw.is {μ1 μ2:Mu}{a:Addr}{ds:List PyData}{H:Hp}(M:RelM K (μ1++(a,.lst ds)::μ2) H):∀ {es es':List En}{vs:List V},Thaw a ds es es'->Paired (IsE K (μ1++(a,.lst ds)::μ2) H) vs es->Paired (IsE K (μ1++μ2) H) vs es'
 | _,_,_,.nil,.nil=>.nil
 | _,_,_,.me t,.cons i r=>by
  obtain ⟨M',s,hn⟩:=M.drop
  obtain ⟨xs,e,hs⟩:=M.ob a (.lst ds) (by simp)
  refine .cons ?_ (Thaw.is M t r)
  have i:_=V.ref a:=i
  subst i
  exact .lst (SqL.of (by rw [yR hn];exact e)) (IsAll.same s hs)
 | _,_,_,.ot t,.cons i r=>.cons (i.same M.drop.2.1) (Thaw.is M t r)
end
section
variable {X:Cx}{K:W.Frag}{a b c:Expr}{ta tb tc:TEd}{tA tB:TTd}{pos:Pos}{es:List Expr}{tr:TAd}
def tys:List String:=["int", "bool", "str", "list", "tuple"]
theorem d_ty {x:Str}{n:String}{p:Pos}(hg:Gl X x) (hm:X.mg x=none) (hv:bootBuiltins x=some (.type n)) (hn:x ≠ "__name__" := by decide) (hd:(x == ("__debug__" : Str))=false:=by decide):DE K X (.Name x p) (fun _ μ Q=>Q (.ty n) μ) :=
 PE.mono (qii (v:=.ty n) hg hm hv rfl hn hd) fun σ H Q ⟨ρ,μ,Q0,hS,hM,h,cl⟩=>cl _ μ (.ty n) H h hM (yc.refl _) rfl
theorem qf6:yL X (.builtin "isinstance") (fun xs H Q=>∃ x n d,xs=[x,.ty n]/\Is X.K H x d/\n∈tys/\Q (.bl (isTy n d)) H):=by
 intro pins s σ H xs us Q I r h
 obtain ⟨x,n,d,rfl,ty,hn,q⟩:=h
 obtain ⟨u,u',rfl,rx,ry⟩:=qhF r
 cases ry
 have fin:∀ tk,EP X pins σ Q (.bool (isTy n d)) { s with toks:=tk }:=fun tk=>⟨.bl _,H,I.tok _,rfl,q⟩
 have hn:n = "int" \/ n = "bool" \/ n = "str" \/ n = "list" \/ n = "tuple" := by simpa [tys] using hn
 cases ty with
 | non=>cases (show u=Value.none from rx);exact W.kia_one W.kitx_none I.kIn True.intro (by rcases hn with rfl | rfl | rfl | rfl | rfl <;> rfl) (fun z=>nomatch z) fin
 | bl y=>cases (show u=Value.bool y from rx);exact W.kia_one W.kitx_bool I.kIn True.intro (by rcases hn with rfl | rfl | rfl | rfl | rfl <;> rfl) (fun z=>nomatch z) fin
 | int i=>obtain ⟨t,z⟩:=(show ∃ t,u=Value.int i t from rx);cases z;exact W.kia_one W.kitx_int I.kIn True.intro (by rcases hn with rfl | rfl | rfl | rfl | rfl <;> rfl) (fun z=>nomatch z) fin
 | str y=>obtain ⟨t,z⟩:=(show ∃ t,u=Value.str y t from rx);cases z;exact W.kia_one W.kitx_str I.kIn True.intro (by rcases hn with rfl | rfl | rfl | rfl | rfl <;> rfl) (fun z=>nomatch z) fin
 | @lst a xs ds hq _ =>
  cases (show u=Value.ref a from rx)
  obtain ⟨its,_,⟨o,n',h1,h2,_⟩,_⟩:=I.list hq
  exact W.kia_one W.kitx_list I.kIn ⟨o,h1,h2⟩ (by rcases hn with rfl | rfl | rfl | rfl | rfl <;> rfl) (fun z=>nomatch z) fin
 | @dc a hq =>
  cases (show u=Value.ref a from rx)
  obtain ⟨_,_,vs,_,o,es,ep,h1,h2,_⟩:=(show jT X.prog X.w H s.heap a (.dK []) from I.hok a _ hq)
  exact W.kia_one W.kitx_dict I.kIn ⟨o,h1,h2.1⟩ (by rcases hn with rfl | rfl | rfl | rfl | rfl <;> rfl) (fun z=>nomatch z) fin
 | @tup a xs ds hq _ =>
  cases (show u=Value.ref a from rx)
  obtain ⟨its,_,⟨o,h1,h2,_⟩,_⟩:=I.tuple hq
  exact W.kia_one W.kitx_tuple I.kIn ⟨o,h1,h2⟩ (by rcases hn with rfl | rfl | rfl | rfl | rfl <;> rfl) (fun z=>nomatch z) fin
def qjW:RAd:=fun es μ Q=>match es with
 | [.d x,.ty n]=>n∈tys/\Q (.d (.bool (isTy n x))) μ
 | [.m a,.ty n]=>n∈tys/\∃ ds,(a,.lst ds)∈μ/\Q (.d (.bool (n == "list"))) μ
 | _=>False
theorem qhk (hK:X.K=K:=by rfl):yL X (.builtin "isinstance") (upC K qjW):=by
 subst hK
 refine qf6.mono fun xs H Q h=>?_
 obtain ⟨μ,es,Q0,M,hp,q,cl⟩:=h
 unfold qjW at q
 split at q
 ·obtain ⟨v,v',rfl,i1,i2⟩:=qap hp
  have i2:v'=_:=i2
  subst i2
  exact ⟨_,_,_,rfl,Is.same yN i1,q.1,cl _ μ _ H q.2 M (yc.refl _) (.bl _)⟩
 ·obtain ⟨v,v',rfl,i1,i2⟩:=qap hp
  have i2:v'=_:=i2
  subst i2
  obtain ⟨hn,ds,hm,q⟩:=q
  have hi:=(DatOf.m hm).is M i1
  exact ⟨_,_,_,rfl,hi,hn,cl _ μ _ H q M (yc.refl _) (.bl _)⟩
 ·exact q.elim
abbrev TGd:=En->Rho->Mu->(Rho->Mu->Prop)->Prop
abbrev qeS:=List PyData->Rho->Mu->(Rho->Mu->Prop)->Prop
def upG (K:W.Frag) (t:TGd):TG:=fun v σ H Q=>∃ e ρ μ Q0,IsE K μ H v e/\RelS K ρ μ σ H/\RelM K μ H/\t e ρ μ Q0/\ClR K μ H Q0 Q
def upGs (K:W.Frag) (t:qeS):TGs:=fun vs σ H Q=>∃ ds ρ μ Q0,IsAll K (mask μ H) vs ds/\RelS K ρ μ σ H/\RelM K μ H/\t ds ρ μ Q0/\ClR K μ H Q0 Q
def DG (K:W.Frag) (X:Cx) (tg:Expr) (t:TGd):Prop:=PG X tg (upG K t)
def DGs (K:W.Frag) (X:Cx) (tg:List Expr) (t:qeS):Prop:=PGs X tg (upGs K t)
theorem PG.mono {tg:Expr}{t t':TG}(h:PG X tg t) (f:∀ v σ H Q,t' v σ H Q->t v σ H Q):PG X tg t':=fun pins s σ H v u Q I r q=>h pins s σ H v u Q I r (f _ _ _ _ q)
theorem PGs.mono {tg:List Expr}{t t':TGs}(h:PGs X tg t) (f:∀ v σ H Q,t' v σ H Q->t v σ H Q):PGs X tg t':=fun pins s σ H v u Q I r q=>h pins s σ H v u Q I r (f _ _ _ _ q)
def JD (i:Nat):TGd:=fun e ρ μ Q=>Q (ρ.set i (some e)) μ
theorem qw {i:Nat}{x:Str}(hN:X.N.Nodup) (hi:X.N[i]?=some x) (hx:Loc X.env.scope x) (hf:X.fn x=true\/X.env.scope.names.lookup x=some .local:=by first | exact .inl rfl | exact .inr rfl | assumption):DG K X (.Name x pos) (JD i) :=
 PG.mono (qic hN hi hx hf) fun v σ H Q ⟨e,ρ,μ,Q0,i1,hS,hM,h,cl⟩=>cl _ μ _ H h (hS.set i1) hM (yc.refl _)
def qfY:qeS:=fun ds ρ μ Q=>match ds with
 | []=>Q ρ μ
 | _=>False
def Yz (t:TGd) (u:qeS):qeS:=fun ds ρ μ Q=>match ds with
 | x::r=>t (.d x) ρ μ fun ρ' μ'=>u r ρ' μ' Q
 | []=>False
theorem yk:DGs K X [] qfY:=PGs.mono qia fun vs σ H Q ⟨ds,ρ,μ,Q0,i1,hS,hM,h,cl⟩=>by
 unfold qfY at h
 split at h
 ·cases i1;exact ⟨rfl,cl _ μ _ H h hS hM (yc.refl _)⟩
 ·exact h.elim
theorem qv {e:Expr}{es:List Expr}{t:TGd}{u:qeS}(h1:DG K X e t) (h2:DGs K X es u)
  (hs:(assignEach (e::es) X.env).map (·.2)=assign e X.env::(assignEach es X.env).map (·.2):=by rfl):DGs K X (e::es) (Yz t u):=PGs.mono (qfs h1 h2 hs) fun vs σ H Q ⟨ds,ρ,μ,Q0,i1,hS,hM,h,cl⟩=>by
 unfold Yz at h
 split at h
 ·cases i1 with
  | cons i1 i2 =>
   refine ⟨_,_,rfl,.d _,ρ,μ,_,i1,hS,hM,h,fun ρ' μ' σ' H' q S' M' s'=>?_⟩
   exact ⟨_,ρ',μ',Q0,IsAll.same s' i2,S',M',q,cl.same s'⟩
 ·exact h.elim
def qfX (n:Nat) (t:qeS):TGd:=fun e ρ μ Q=>match e with
 | .d (.tuple ds)=>ds.length=n/\t ds ρ μ Q
 | _=>False
theorem yP {es:List Expr}{k:Nat}{t:qeS}{n:Nat}(hc:X.calm=true) (h:DGs K X es t) (hK:X.K=K:=by rfl)
  (hn:(assignEach es X.env).length=n:=by rfl) (hst:(assignEach es X.env).findIdx? (·.1)=none:=by rfl):DG K X (.Tuple es k pos) (qfX n t):=by
 subst hK
 refine PG.mono (qkd hc h hn hst) fun v σ H Q hq9=>?_
 obtain ⟨e,ρ,μ,Q0,i1,hS,hM,h,cl⟩:=hq9
 unfold qfX at h
 split at h
 ·obtain ⟨p,xs,rfl,hq,hA⟩:=(SeqOf.t _).get hM i1
  cases i1 with
  | tup h1 h2 =>
   refine ⟨_,_,rfl,?_,by rw [h2.len];exact h.1,_,ρ,μ,Q0,h2,hS,hM,h.2,cl⟩
   rcases h1 with (e | ⟨o,e⟩) | e
   ·exact .inl (.inl (yN _ _ e))
   ·exact .inl (.inr ⟨o,yN _ _ e⟩)
   ·exact .inr e
 ·exact h.elim
variable {st:Stmt}{y9:List Stmt}{t u:TSd}{e:Expr}{te:TEd}
def dNext:TSd:=fun D ρ μ=>D.nx ρ μ
def dSeq (t u:TSd):TSd:=fun D ρ μ=>t { D with nx:=u D } ρ μ
theorem y8:DSs K X [] dNext:=PSs.mono qds fun D σ H ⟨ρ,μ,D0,hS,hM,h,cl⟩=>cl.nx _ μ _ H h hS hM (yc.refl _)
theorem qr (h1:DS K X st t) (h2:DSs K X y9 u):DSs K X (st::y9) (dSeq t u):=PSs.mono (JW h1 h2) fun D σ H ⟨ρ,μ,D0,hS,hM,h,cl⟩ =>
 ⟨ρ,μ,_,hS,hM,h,⟨fun ρ' μ' σ' H' q S' M' s'=>⟨ρ',μ',D0,S',M',q,cl.same s'⟩,cl.rt,cl.bk,cl.ct⟩⟩
theorem qH (h1:DS K X st t):DSs K X [st] t:=qa2 h1
def dDrop (te:TEd):TSd:=fun D ρ μ=>te ρ μ fun _ μ1=>D.nx ρ μ1
theorem ZR (he:DE K X e te) (hs:swapsWith e none pos.line X.env=pure false:=by rfl):DS K X (.Expr e pos) (dDrop te):=PS.mono (qh5 he hs) fun D σ H ⟨ρ,μ,D0,hS,hM,h,cl⟩ =>
 ⟨ρ,μ,_,hS,hM,h,fun e' μ1 v H1 q M1 s1 i1=>cl.nx _ μ1 _ H1 q (hS.same s1) M1 s1⟩
def dRet (te:TEd):TSd:=fun D ρ μ=>te ρ μ D.rt
theorem qR (he:DE K X e te):DS K X (.Return (some e) pos) (dRet te):=PS.mono (qbK he) fun D σ H ⟨ρ,μ,D0,hS,hM,h,cl⟩=>⟨ρ,μ,_,hS,hM,h,cl.rt⟩
def FzR (μ:Mu) (e:En) (μ':Mu) (e':En):Prop:=∀ (K:W.Frag) (v:V) (H:Hp),RelM K μ H->IsE K μ H v e->RelM K μ' H/\IsE K μ' H v e'/\yc (mask μ H) (mask μ' H)
theorem FzR.refl {μ:Mu}{e:En}:FzR μ e μ e:=fun _ _ _ h i=>⟨h,i,yc.refl _⟩
theorem FzR.trans {μ μ1 μ2:Mu}{e e1 e2:En}(h:FzR μ e μ1 e1) (h':FzR μ1 e1 μ2 e2):FzR μ e μ2 e2:=fun K v H a b=>by
 obtain ⟨a1,b1,s1⟩:=h K v H a b
 obtain ⟨a2,b2,s2⟩:=h' K v H a1 b1
 exact ⟨a2,b2,s1.trans s2⟩
theorem FzR.list {μ1 μ2:Mu}{p:Addr}{ds:List PyData}:FzR (μ1++(p,.lst ds)::μ2) (.m p) (μ1++μ2) (.d (.list ds)):=fun K v H h i=>by
 obtain ⟨M',s,hn⟩:=h.drop
 obtain ⟨xs,e,hs⟩:=h.ob p (.lst ds) (by simp)
 have i:v=_:=i
 subst i
 exact ⟨M',.lst (SqL.of (by rw [yR hn];exact e)) (IsAll.same s hs),s⟩
theorem FzR.list1 {μ2:Mu}{p:Addr}{ds:List PyData}:FzR ((p,.lst ds)::μ2) (.m p) μ2 (.d (.list ds)):=FzR.list (μ1:=[])
theorem FzR.drop {μ1 μ2:Mu}{p:Addr}{o:MO}{e:En}:FzR (μ1++(p,o)::μ2) e (μ1++μ2) e:=fun K v H h i=>by
 obtain ⟨M',s,hn⟩:=h.drop
 exact ⟨M',i.same s,s⟩
theorem FzR.drop1 {μ2:Mu}{p:Addr}{o:MO}{e:En}:FzR ((p,o)::μ2) e μ2 e:=FzR.drop (μ1:=[])
def dRetF (te:TEd):TSd:=fun D ρ μ=>te ρ μ fun e μ1=>∃ μ2 e2,FzR μ1 e μ2 e2/\D.rt e2 μ2
theorem qbg (he:DE K X e te):DS K X (.Return (some e) pos) (dRetF te):=PS.mono (qbK he) fun D σ H ⟨ρ,μ,D0,hS,hM,h,cl⟩=>⟨ρ,μ,_,hS,hM,h,fun e' μ1 v H1 q M1 s1 i1=>by
 obtain ⟨μ2,e2,f,q⟩:=q
 obtain ⟨M2,i2,s2⟩:=f K v H1 M1 i1
 exact cl.rt _ μ2 _ H1 q M2 (s1.trans s2) i2⟩
def dIfS (c:TTd) (t u:TSd):TSd:=fun D ρ μ=>c ρ μ fun b μ1=>if b=true then t D ρ μ1 else u D ρ μ1
theorem jS {c:Expr}{a b:List Stmt}{tc:TTd}(hc:DT K X c tc) (ha:DSs K X a t) (hb:DSs K X b u):DS K X (.If c a b pos) (dIfS tc t u):=PS.mono (qka hc ha hb) fun D σ H ⟨ρ,μ,D0,hS,hM,h,cl⟩ =>
 ⟨ρ,μ,_,hS,hM,h,fun k μ1 H1 q M1 s1=>by
  cases k with
  | true=>exact qfN ⟨ρ,μ1,D0,hS.same s1,M1,by simpa using q,cl.same s1⟩
  | false=>exact qbd ⟨ρ,μ1,D0,hS.same s1,M1,by simpa using q,cl.same s1⟩⟩
def dAsg (te:TEd) (g:TGd):TSd:=fun D ρ μ=>te ρ μ fun e μ1=>g e ρ μ1 D.nx
theorem qP {i:Nat}{x:Str}{pos':Pos}(hN:X.N.Nodup) (hi:X.N[i]?=some x) (hx:Loc X.env.scope x) (he:DE K X e te) (hs:swapsWith e (some (.Name x pos')) pos.line X.env=pure false:=by rfl) (hf:X.fn x=true\/X.env.scope.names.lookup x=some .local:=by first | exact .inl rfl | exact .inr rfl | assumption) :
  DS K X (.Assign [.Name x pos'] e pos) (dAsg te (JD i)):=PS.mono (qgX hN hi hx he hs hf) fun D σ H ⟨ρ,μ,D0,hS,hM,h,cl⟩ =>
 ⟨ρ,μ,_,hS,hM,h,fun e' μ1 v H1 q M1 s1 i1=>cl.nx _ μ1 _ H1 q ((hS.same s1).set i1) M1 s1⟩
theorem jt {tg:Expr}{g:TGd}(he:DE K X e te) (hg:DG K X tg g) (hs:swapsWithSole [tg] e pos.line X.env=pure false:=by rfl) (hw:swappedStores [tg] e X.env=pure none:=by rfl)
  (h1:(assignEach [tg] X.env).map (·.2)=[assign tg X.env]:=by rfl):DS K X (.Assign [tg] e pos) (dAsg te g):=PS.mono (qdu he hg hs hw h1) fun D σ H ⟨ρ,μ,D0,hS,hM,h,cl⟩ =>
 ⟨ρ,μ,_,hS,hM,h,fun e' μ1 v H1 q M1 s1 i1=>⟨e',ρ,μ1,D0.nx,i1,hS.same s1,M1,q,cl.nx.same s1⟩⟩
def dPar (i j:Nat) (ta:TAd):TSd:=fun D ρ μ=>ta ρ μ fun es μ1=>match es with
 | [e,e']=>D.nx ((ρ.set i (some e)).set j (some e')) μ1
 | _=>False
theorem Y7 {i j:Nat}{x y:Str}{a b:Expr}{ta:TAd}{px py pt:Pos}{kt k2 pt2} (hc:X.calm=true) (hN:X.N.Nodup) (hi:X.N[i]?=some x) (hj:X.N[j]?=some y) (hij:i≠j)
  (hx:X.env.scope.names.lookup x=some .local) (hy:X.env.scope.names.lookup y=some .local) (ha:DA K X [a,b] ta)
  (hw:swappedStores [.Tuple [.Name x px,.Name y py] kt pt] (.Tuple [a,b] k2 pt2) X.env=pure (some [x,y]))
  (hs:swapsWithSole [.Tuple [.Name x px,.Name y py] kt pt] (.Tuple [a,b] k2 pt2) pos.line X.env=pure false:=by rfl) :
  DS K X (.Assign [.Tuple [.Name x px,.Name y py] kt pt] (.Tuple [a,b] k2 pt2) pos) (dPar i j ta):=PS.mono (qj9 hc hN hi hj hij hx hy ha hw hs) fun D σ H ⟨ρ,μ,D0,hS,hM,h,cl⟩ =>
 ⟨ρ,μ,_,hS,hM,h,fun es μ1 vs H1 q M1 s1 i1=>by
  split at q
  ·obtain ⟨v,v',rfl,h1,h2⟩:=qap i1
   exact ⟨_,_,rfl,cl.nx _ μ1 _ H1 q (((hS.same s1).set h1).set h2) M1 s1⟩
  ·exact q.elim⟩
def dApp (to:TEd) (tr:TAd):TEd:=fun ρ μ Q=>to ρ μ fun x μ1=>match x with
 | .m p=>(∃ ds0,(p,.lst ds0)∈μ1)/\tr ρ μ1 fun es μ2=>match es with
  | [.d z]=>∃ μ3 μ4 ds,μ2=μ3++(p,.lst ds)::μ4/\ds.length<4000/\Q (.d .none) (μ3++(p,.lst (ds++[z]))::μ4)
  | _=>False
 | _=>False
theorem ZU {o e:Expr}{to:TEd}{p1:Pos}(ho:DE K X o to) (ha:DA K X [e] tr) (hK:X.K=K:=by rfl)
  (h:PE X (.Call (.Attribute o "append" p1) [e] [] pos) (tBM X.K "list" rAppend (up K to) (upA K tr))):DE K X (.Call (.Attribute o "append" p1) [e] [] pos) (dApp to tr):=by
 subst hK
 refine PE.mono h fun σ H Q hq9=>?_
 obtain ⟨ρ,μ,Q0,hS,hM,h,cl⟩:=hq9
 refine ⟨ρ,μ,_,hS,hM,h,fun x μ1 v H1 q M1 s1 i1=>?_⟩
 split at q
 ·rename_i x' p
  obtain ⟨⟨ds0,hd0⟩,q⟩:=q
  have i1:v=_:=i1
  subst i1
  obtain ⟨xs0,e0,_⟩:=M1.ob _ _ hd0
  refine ⟨.inl ⟨rfl,_,SqL.of e0⟩,ρ,μ1,_,hS.same s1,M1,q,fun es μ2 vs H2 q2 M2 s2 i2=>?_⟩
  split at q2
  ·rename_i es' z
   obtain ⟨μ3,μ4,ds,rfl,hl,q2⟩:=q2
   obtain ⟨v,rfl,h1⟩:=JY i2
   obtain ⟨xs,ex,hA⟩:=M2.ob p (.lst ds) (by simp)
   refine ⟨p,xs,v,rfl,rfl,ex,jd (by rw [hA.len];omega),?_⟩
   obtain ⟨M3,s3⟩:=M2.write (H':=upd H2 p (.lst (xs++[v]))) (o':=.lst (ds++[z])) (fun b u e n=>by rw [ya n];exact e) fun ss=>⟨_,yf,IsAll.snoc (Is.same ss h1) (IsAll.same ss hA)⟩
   exact cl _ _ .non _ q2 M3 ((s1.trans s2).trans s3) .non
  ·exact q2.elim
 ·exact q.elim
structure Itd where
 n:Nat
 item:Nat->En
 ok:Mu->Prop
abbrev TId:=Rho->Mu->(Itd->Mu->Prop)->Prop
def Sim (K:W.Frag) (J0:Itd) (μ1:Mu) (H1:Hp) (J:It):Prop:=∀ μ' H',RelM K μ' H'->yc (mask μ1 H1) (mask μ' H')->J0.ok μ'->∀ i,
 (i<J0.n->J.go i H'/\∀ x H2,J.yld i H' x H2->RelM K μ' H2/\yc (mask μ' H') (mask μ' H2)/\IsE K μ' H2 x (J0.item i))/\(J0.n<=i->J.stop i H')
def upI (K:W.Frag) (t:TId):TI:=fun σ H R=>∃ ρ μ Q0,RelS K ρ μ σ H/\RelM K μ H/\t ρ μ Q0/\∀ J0 μ1 J H1,Q0 J0 μ1->RelM K μ1 H1->yc (mask μ H) (mask μ1 H1)->Sim K J0 μ1 H1 J->R J H1
def DI (K:W.Frag) (X:Cx) (tg iter:Expr) (t:TId):Prop:=PI X tg iter (upI K t)
variable {tg iter:Expr}
theorem PI.mono {wi wi':TI}(h:PI X tg iter wi) (f:∀ σ H R,wi' σ H R->wi σ H R):PI X tg iter wi':=fun pins s σ H R I q=>h pins s σ H R I (f _ _ _ q)
def itL (e:En) (ds:List PyData):Itd:=⟨ds.length,fun i=>.d (ds.getD i .none),fun μ=>LstOf μ e ds⟩
def itT (ds:List PyData):Itd:=⟨ds.length,fun i=>.d (ds.getD i .none),fun _=>True⟩
def itR (lo:Int) (n:Nat):Itd:=⟨n,fun i=>.d (.int (lo+i)),fun _=>True⟩
def diL (te:TEd):TId:=fun ρ μ Q=>te ρ μ fun e μ1=>∃ ds,LstOf μ1 e ds/\Q (itL e ds) μ1
def diT (te:TEd):TId:=fun ρ μ Q=>te ρ μ fun e μ1=>match e with
 | .d (.tuple ds)=>Q (itT ds) μ1
 | _=>False
def diR1 (ta:TAd):TId:=fun ρ μ Q=>ta ρ μ fun es μ1=>match es with
 | [.d (.int j)]=>-(2 ^ 62)<=j/\j<2 ^ 62/\Q (itR 0 j.toNat) μ1
 | _=>False
def diR2 (ta:TAd):TId:=fun ρ μ Q=>ta ρ μ fun es μ1=>match es with
 | [.d (.int i),.d (.int j)]=>(-(2 ^ 62)<=i/\i<2 ^ 62/\-(2 ^ 62)<=j/\j<2 ^ 62)/\Q (itR i (j - i).toNat) μ1
 | _=>False
theorem jq {ds:List PyData}{i:Nat}{x:PyData}(h:ds[i]?=some x):ds.getD i .none=x:=by rw [qK,h];rfl
theorem y6 {l:Expr}(hl:DE K X l te) (hK:X.K=K:=by rfl):DI K X tg l (diL te):=by
 subst hK
 refine PI.mono (qh9 hl) fun σ H R hq9=>?_
 obtain ⟨ρ,μ,Q0,hS,hM,h,cl⟩:=hq9
 refine ⟨ρ,μ,_,hS,hM,h,fun e μ1 v H1 q M1 s1 i1=>?_⟩
 obtain ⟨ds,hL,q⟩:=q
 obtain ⟨p,xs,rfl,h1,h2⟩:=hL.get M1 i1
 refine ⟨p,rfl,⟨xs,h1⟩,cl _ μ1 _ H1 q M1 s1 fun μ' H' M' s' hok i=>?_⟩
 obtain ⟨p',xs',e',h3,h4⟩:=LstOf.get hok M' (i1.same s')
 cases e'
 have hl:=h4.len
 refine ⟨fun hi=>⟨⟨xs',xs'[i]'(by rw [hl];exact hi),h3,by simp⟩,?_⟩,fun hi=>⟨xs',h3,by rw [hl];exact hi⟩⟩
 rintro x H2 ⟨rfl,hx⟩
 refine ⟨M',yc.refl _,?_⟩
 obtain ⟨d,e1,e2⟩:=h4.get (hx xs' h3)
 show Is X.K (mask μ' H2) x (ds.getD i .none)
 rw [jq e1]
 exact e2
theorem SqT.up {μ:Mu}{H:Hp}{p:Addr}{xs:List V}(h:SqT K (mask μ H) p xs):SqT K H p xs:=by
 rcases h with (e | ⟨o,e⟩) | e
 ·exact .inl (.inl (yN _ _ e))
 ·exact .inl (.inr ⟨o,yN _ _ e⟩)
 ·exact .inr e
theorem SqT.same {H H':Hp}{p:Addr}{xs:List V}(s:yc H H') (h:SqT K H p xs):SqT K H' p xs:=by
 rcases h with (e | ⟨o,e⟩) | e
 ·exact .inl (.inl (s _ _ e))
 ·exact .inl (.inr ⟨o,s _ _ e⟩)
 ·exact .inr e
theorem qli {l:Expr}(hl:DE K X l te) (hK:X.K=K:=by rfl):DI K X tg l (diT te):=by
 subst hK
 refine PI.mono (qkc hl) fun σ H R hq9=>?_
 obtain ⟨ρ,μ,Q0,hS,hM,h,cl⟩:=hq9
 refine ⟨ρ,μ,_,hS,hM,h,fun e μ1 v H1 q M1 s1 i1=>?_⟩
 split at q
 ·rename_i ds
  cases i1 with
  | @tup p xs _ h1 h2 =>
   refine ⟨p,rfl,⟨xs,h1.up⟩,cl _ μ1 _ H1 q M1 s1 fun μ' H' M' s' hok i=>?_⟩
   have h3:=(SqT.same s' h1).up
   have h4:=IsAll.same s' h2
   have hl:=h4.len
   refine ⟨fun hi=>⟨⟨xs,xs[i]'(by rw [hl];exact hi),h3,by simp⟩,?_⟩,fun hi=>⟨xs,h3,by rw [hl];exact hi⟩⟩
   rintro x H2 ⟨rfl,hx⟩
   refine ⟨M',yc.refl _,?_⟩
   obtain ⟨d,e1,e2⟩:=h4.get (hx xs h3)
   show Is X.K (mask μ' H2) x (ds.getD i .none)
   rw [jq e1]
   exact e2
 ·exact q.elim
theorem qah {lo:Int}{n:Nat}{μ1:Mu}{H1:Hp}:Sim K (itR lo n) μ1 H1 (Itr lo n):=fun μ' H' M' s' _ i =>
 ⟨fun hi=>⟨hi,fun x H2 ⟨e,y⟩=>by subst e y;exact ⟨M',yc.refl _,.int _⟩⟩,fun hi=>hi⟩
theorem jY {a:Expr}{ta:TAd}{p:Pos}(hg:Gl X "range") (hm:X.mg "range" = none) (ha:DA K X [a] ta) (hs:starEach [a] X.env=[(false,eval a X.env)]:=by rfl):DI K X tg (.Call (.Name "range" p) [a] [] pos) (diR1 ta) :=
 PI.mono (qdD hg hm ha hs) fun σ H R ⟨ρ,μ,Q0,hS,hM,h,cl⟩=>⟨ρ,μ,_,hS,hM,h,fun es μ1 vs H1 q M1 s1 i1=>by
  split at q
  ·obtain ⟨v,rfl,h1⟩:=JY i1
   cases h1
   exact ⟨_,rfl,q.1,q.2.1,cl _ μ1 _ H1 q.2.2 M1 s1 qah⟩
  ·exact q.elim⟩
theorem qet {a b:Expr}{ta:TAd}{p:Pos}(hg:Gl X "range") (hm:X.mg "range" = none) (ha:DA K X [a,b] ta) (hs:starEach [a,b] X.env=[(false,eval a X.env),(false,eval b X.env)]:=by rfl) (hs2:starEach [b] X.env=[(false,eval b X.env)]:=by rfl) :
  DI K X tg (.Call (.Name "range" p) [a,b] [] pos) (diR2 ta) :=
 PI.mono (qdC hg hm ha hs hs2) fun σ H R ⟨ρ,μ,Q0,hS,hM,h,cl⟩=>⟨ρ,μ,_,hS,hM,h,fun es μ1 vs H1 q M1 s1 i1=>by
  split at q
  ·obtain ⟨v,v',rfl,h1,h2⟩:=qap i1
   cases h1;cases h2
   exact ⟨_,_,rfl,q.1,cl _ μ1 _ H1 q.2 M1 s1 qah⟩
  ·exact q.elim⟩
def Wks (P:Rho->Mu->Prop):Rho->Mu->Prop:=fun ρ μ=>∃ ρ' μ',Wk ρ μ ρ' μ'/\P ρ' μ'
theorem Wks.of {P:Rho->Mu->Prop}{ρ:Rho}{μ:Mu}(h:P ρ μ):Wks P ρ μ:=⟨ρ,μ,Wk.refl,h⟩
def dFor (ti:TId) (g:TGd) (tb:TSd):TSd:=fun D ρ μ=>ti ρ μ fun J μ1=>∃ Pv:Nat->Rho->Mu->Prop,Pv 0 ρ μ1/\(∀ i ρ' μ',i<=J.n->Pv i ρ' μ'->J.ok μ') ∧
 (∀ i ρ' μ',i<J.n->Pv i ρ' μ'->g (J.item i) ρ' μ' fun ρ2 μ2=>tb { D with nx:=Wks (Pv (i+1)),ct:=Wks (Pv (i+1)),bk:=D.nx } ρ2 μ2)/\∀ ρ' μ',Pv J.n ρ' μ'->D.nx ρ' μ'
theorem Y8 {body:List Stmt}{ti:TId}{g:TGd}{tb:TSd}(hp:PassesOwn (model X.prog X.w) X.A X.env X.xe) (hc:X.calm=true) (hi:DI K X tg iter ti) (hg:DG K X tg g) (hb:DSs K X body tb)
  (hs:∀ x,foldedSetIterable iter X.env x=pure x:=by intro _;rfl):DS K X (.For tg iter body [] pos) (dFor ti g tb):=by
 refine PS.mono (qkb hp hc hi hg hb hs) fun D σ H hq9=>?_
 obtain ⟨ρ,μ,D0,hS,hM,h,cl⟩:=hq9
 refine ⟨ρ,μ,_,hS,hM,h,fun J0 μ1 J H1 q M1 s1 sim=>?_⟩
 obtain ⟨Pv,h0,hok,hstep,hend⟩:=q
 refine ⟨fun i m σ' H'=>m=J0.n - i/\i<=J0.n/\∃ ρ' μ',RelS K ρ' μ' σ' H'/\RelM K μ' H'/\yc (mask μ1 H1) (mask μ' H')/\Pv i ρ' μ',⟨_,rfl,qZ _,ρ,μ1,hS.same s1,M1,yc.refl _,h0⟩,?_⟩
 rintro i m σ' H' ⟨rfl,hi,ρ',μ',S',M',s',p⟩
 have sm:=sim μ' H' M' s' (hok i ρ' μ' hi p) i
 by_cases hlt:i<J0.n
 ·obtain ⟨hgo,hy⟩:=sm.1 hlt
  refine .inr ⟨hgo,fun σ2 H2=>∃ ρ' μ',RelS K ρ' μ' σ2 H2/\RelM K μ' H2/\yc (mask μ1 H1) (mask μ' H2)/\Pv (i+1) ρ' μ',fun σ2 H2 z=>⟨J0.n - (i+1),by omega,rfl,hlt,z⟩,fun x H2 y=>?_⟩
  obtain ⟨M2,s2,i2⟩:=hy x H2 y
  refine ⟨_,ρ',μ',_,i2,S'.same s2,M2,hstep i ρ' μ' hlt p,fun ρ3 μ3 σ3 H3 q3 S3 M3 s3=>⟨ρ3,μ3,_,S3,M3,q3,?_⟩⟩
  have st:=(s'.trans s2).trans s3
  have again:∀ {ρ4 μ4 σ4 H4},Wks (Pv (i+1)) ρ4 μ4->RelS K ρ4 μ4 σ4 H4->RelM K μ4 H4->yc (mask μ3 H3) (mask μ4 H4)->∃ ρ' μ',RelS K ρ' μ' σ4 H4/\RelM K μ' H4/\yc (mask μ1 H1) (mask μ' H4)/\Pv (i+1) ρ' μ':=by
   rintro ρ4 μ4 σ4 H4 ⟨ρ5,μ5,wk,p5⟩ S4 M4 s4
   obtain ⟨S5,M5,s5⟩:=wk K σ4 H4 S4 M4
   exact ⟨ρ5,μ5,S5,M5,(st.trans s4).trans s5,p5⟩
  exact ⟨fun _ _ _ _ a b c d=>again a b c d,cl.rt.same (s1.trans st),cl.nx.same (s1.trans st),fun _ _ _ _ a b c d=>again a b c d⟩
 ·have e:i=J0.n:=by omega
  subst e
  exact .inl ⟨sm.2 (qj _),cl.nx _ μ' _ H' (hend ρ' μ' p) S' M' (s1.trans s')⟩
def qlo (c:TTd) (tb:TSd):TSd:=fun D ρ μ=>∃ Pv:Nat->Rho->Mu->Prop,(∃ m,Pv m ρ μ)/\∀ m ρ' μ',Pv m ρ' μ'->c ρ' μ' fun b μ1=>if b=true then
 tb { D with nx:=fun ρ2 μ2=>∃ m',m'<m/\Wks (Pv m') ρ2 μ2,ct:=fun ρ2 μ2=>∃ m',m'<m/\Wks (Pv m') ρ2 μ2,bk:=D.nx } ρ' μ1 else D.nx ρ' μ1
theorem YM {c:Expr}{body:List Stmt}{tc:TTd}{tb:TSd}(hp:PassesOwn (model X.prog X.w) X.A X.env X.xe) (hc:DT K X c tc) (hb:DSs K X body tb):DS K X (.While c body [] pos) (qlo tc tb):=by
 refine PS.mono (qfq hp hc hb) fun D σ H hq9=>?_
 obtain ⟨ρ,μ,D0,hS,hM,h,cl⟩:=hq9
 obtain ⟨Pv,⟨m0,h0⟩,hstep⟩:=h
 refine ⟨fun m σ' H'=>∃ ρ' μ',RelS K ρ' μ' σ' H'/\RelM K μ' H'/\yc (mask μ H) (mask μ' H')/\Pv m ρ' μ',⟨m0,ρ,μ,hS,hM,yc.refl _,h0⟩,?_⟩
 rintro m σ' H' ⟨ρ',μ',S',M',s',p⟩
 refine ⟨ρ',μ',_,S',M',hstep m ρ' μ' p,fun k μ1 H1 q M1 s1=>?_⟩
 cases k with
 | true =>
  refine qfN ⟨fun σ2 H2=>∃ m',m'<m/\∃ ρ' μ',RelS K ρ' μ' σ2 H2/\RelM K μ' H2/\yc (mask μ H) (mask μ' H2)/\Pv m' ρ' μ',fun σ2 H2 z=>z,ρ',μ1,_,S'.same s1,M1,by simpa using q,?_⟩
  have st:=s'.trans s1
  have again:∀ {ρ4 μ4 σ4 H4},(∃ m',m'<m/\Wks (Pv m') ρ4 μ4)->RelS K ρ4 μ4 σ4 H4->RelM K μ4 H4->yc (mask μ1 H1) (mask μ4 H4)->∃ m',m'<m/\∃ ρ' μ',RelS K ρ' μ' σ4 H4/\RelM K μ' H4/\yc (mask μ H) (mask μ' H4)/\Pv m' ρ' μ':=by
   rintro ρ4 μ4 σ4 H4 ⟨m',hm,ρ5,μ5,wk,p5⟩ S4 M4 s4
   obtain ⟨S5,M5,s5⟩:=wk K σ4 H4 S4 M4
   exact ⟨m',hm,ρ5,μ5,S5,M5,(st.trans s4).trans s5,p5⟩
  exact ⟨fun _ _ _ _ a b c d=>again a b c d,cl.rt.same st,cl.nx.same st,fun _ _ _ _ a b c d=>again a b c d⟩
 | false=>exact qbd (cl.nx _ μ1 _ H1 (by simpa using q) (S'.same s1) M1 (s'.trans s1))
def dYes:TTd:=fun _ μ Q=>Q true μ
def ql9 (K:W.Frag) (X:Cx) (ifs:List Expr) (t:TTd):Prop:=Ifs X ifs (upT K t)
theorem jg:ql9 K X [] dYes:=fun pins s σ H Q I ⟨ρ,μ,Q0,hS,hM,h,cl⟩=>qiK pins s σ H Q I (cl true μ H h hM (yc.refl _))
theorem qeu {c:Expr}{t:TTd}(h:DT K X c t):ql9 K X [c] t:=qiJ h
def Fin1 (Q:En->Mu->Prop) (ys:List PyData) (μ:Mu):Prop:=Q (.d (.list ys)) μ
def qi6 (k:Nat) (ti:TId) (g:TGd) (tt:TTd) (te:TEd):TEd:=fun ρ μ Q=>ti ρ μ fun J μ1=>J.n<=4000/\∃ Pv:Nat->List PyData->Rho->Mu->Prop,Pv 0 [] (ρ++List.replicate k none) μ1/\(∀ i ys ρ' μ',i<=J.n->Pv i ys ρ' μ'->J.ok μ') ∧
 (∀ i ys ρ' μ',i<J.n->Pv i ys ρ' μ'->g (J.item i) ρ' μ' fun ρ2 μ2=>tt ρ2 μ2 fun b μ3=>if b=true then te ρ2 μ3 fun y μ4=>∃ z,y = .d z/\Pv (i+1) (ys++[z]) ρ2 μ4 else Pv (i+1) ys ρ2 μ3) ∧
 ∀ ys ρ' μ',Pv J.n ys ρ' μ'->Fin1 Q ys μ'
theorem qcS {k:Nat}{ti:TId}{g:TGd}{tt:TTd}{te:TEd}{σ:St}{H:Hp}{Q:VK}(h:up K (qi6 k ti g tt te) σ H Q):qhK k (upI K ti) (upG K g) (upT K tt) (up K te) σ H Q:=by
 obtain ⟨ρ,μ,Q0,hS,hM,h,cl⟩:=h
 refine ⟨ρ,μ,_,hS,hM,h,fun J0 μ1 J H1 q M1 s1 sim=>?_⟩
 obtain ⟨hn,Pv,h0,hok,hstep,hend⟩:=q
 have S0:RelS K (ρ++List.replicate k none) μ1 (σ++List.replicate k none) H1:=by
  have S1:=hS.same s1
  refine ⟨by simp [S1.len],fun i e he=>?_⟩
  by_cases hi:i<ρ.length
  ·rw [qV hi] at he
   rw [qV (by rw [<- S1.len];exact hi)]
   exact S1.get i e he
  ·rw [qT (by omega),List.getElem?_replicate] at he
   split at he <;> cases he
 refine ⟨fun i m ys σ' H'=>m=J0.n - i/\i<=J0.n/\ys.length<=i/\∃ ds ρ' μ',RelS K ρ' μ' σ' H'/\RelM K μ' H'/\yc (mask μ1 H1) (mask μ' H')/\IsAll K (mask μ' H') ys ds/\Pv i ds ρ' μ',⟨_,rfl,qZ _,qj _,[],_,μ1,S0,M1,yc.refl _,.nil,h0⟩,?_⟩
 rintro i m ys σ' H' ⟨rfl,hi,hy,ds,ρ',μ',S',M',s',hA,p⟩
 have sm:=sim μ' H' M' s' (hok i ds ρ' μ' hi p) i
 by_cases hlt:i<J0.n
 ·obtain ⟨hgo,hyl⟩:=sm.1 hlt
  refine .inr ⟨hgo,jd (by omega),fun ys2 σ2 H2=>ys2.length<=i+1/\∃ ds ρ' μ',RelS K ρ' μ' σ2 H2/\RelM K μ' H2/\yc (mask μ1 H1) (mask μ' H2)/\IsAll K (mask μ' H2) ys2 ds/\Pv (i+1) ds ρ' μ',fun ys2 σ2 H2 z=>⟨J0.n - (i+1),by omega,rfl,hlt,z⟩,fun x H2 y=>?_⟩
  obtain ⟨M2,s2,i2⟩:=hyl x H2 y
  refine ⟨_,ρ',μ',_,i2,S'.same s2,M2,hstep i ds ρ' μ' hlt p,fun ρ3 μ3 σ3 H3 q3 S3 M3 s3=>⟨ρ3,μ3,_,S3,M3,q3,fun b μ4 H4 q4 M4 s4=>?_⟩⟩
  have st:=((s'.trans s2).trans s3).trans s4
  cases b with
  | true =>
   refine qfN ⟨ρ3,μ4,_,S3.same s4,M4,(by simpa using q4),fun e μ5 v H5 q5 M5 s5 i5=>?_⟩
   obtain ⟨z,rfl,q5⟩:=q5
   exact ⟨by simp;omega,_,ρ3,μ5,(S3.same s4).same s5,M5,st.trans s5,IsAll.snoc i5 (IsAll.same (((s2.trans s3).trans s4).trans s5) hA),q5⟩
  | false=>exact qbd ⟨by omega,_,ρ3,μ4,S3.same s4,M4,st,IsAll.same ((s2.trans s3).trans s4) hA,by simpa using q4⟩
 ·have e:i=J0.n:=by omega
  subst e
  refine .inl ⟨sm.2 (qj _),fun D hD=>?_⟩
  obtain ⟨M4,s4,hn⟩:=M'.laid (o:=.lst ys) hD
  exact cl _ μ' _ _ (hend ds ρ' μ' p) M4 ((s1.trans s').trans s4) (.lst (SqL.of (by rw [yR hn];exact yf)) (IsAll.same s4 hA))
theorem j4 {L:List Str}{scope sc:Scope}{N:List Str}{elt:Expr}{ifs:List Expr}{ti:TId}{g:TGd}{tt:TTd}{te:TEd}
  (hc:X.calm=true) (hsc:X.env.scope=sc) (hN:X.N=N) (ok:Jr sc N L scope=true)
  (hi:DI K X tg iter ti) (hg:∀ cl C s₂ H₂ fp,DG K (yy X L scope cl C s₂ H₂ fp) tg g) (hf:∀ cl C s₂ H₂ fp,ql9 K (yy X L scope cl C s₂ H₂ fp) ifs tt) (he:∀ cl C s₂ H₂ fp,DE K (yy X L scope cl C s₂ H₂ fp) elt te)
  (hs:∀ x,foldedSetIterable iter X.env x=pure x:=by intro _;rfl) :
  DE K X (.ListComp elt [⟨tg,iter,ifs,0⟩] scope pos) (qi6 L.length ti g tt te):=PE.mono (qie hc hsc hN ok hi hg hf he hs) fun _ _ _=>qcS
theorem qbf {i:Nat}{x:Str}{pos' spos:Pos}{L:List Str}{scope sc:Scope}{N:List Str}{elt:Expr}{ifs:List Expr}{ti:TId}{g:TGd}{tt:TTd}{te:TEd}
  (hNd:X.N.Nodup) (hxi:X.N[i]?=some x) (hx:Loc X.env.scope x)
  (hc:X.calm=true) (hsc:X.env.scope=sc) (hN:X.N=N) (ok:Jr sc N L scope=true)
  (hi:DI K X tg iter ti) (hg:∀ cl C s₂ H₂ fp,DG K (yy X L scope cl C s₂ H₂ fp) tg g) (hf:∀ cl C s₂ H₂ fp,ql9 K (yy X L scope cl C s₂ H₂ fp) ifs tt) (he:∀ cl C s₂ H₂ fp,DE K (yy X L scope cl C s₂ H₂ fp) elt te)
  (hsw:swapsWith (.ListComp elt [⟨tg,iter,ifs,0⟩] scope pos) (some (.Name x pos')) spos.line X.env=pure true:=by rfl)
  (hs:∀ x,foldedSetIterable iter X.env x=pure x:=by intro _;rfl)
  (hfn:X.fn x=true\/X.env.scope.names.lookup x=some .local:=by first | exact .inl rfl | exact .inr rfl | assumption) :
  DS K X (.Assign [.Name x pos'] (.ListComp elt [⟨tg,iter,ifs,0⟩] scope pos) spos) (dAsg (qi6 L.length ti g tt te) (JD i)) :=
 PS.mono (qh4 hNd hxi hx hc hsc hN ok hi hg hf he hsw hs hfn) fun D σ H ⟨ρ,μ,D0,hS,hM,h,cl⟩=>qcS (Q:=fun x H1=>qfR i x σ H1 D.nx) ⟨ρ,μ,_,hS,hM,h,fun e' μ1 v H1 q M1 s1 i1=>cl.nx _ μ1 _ H1 q ((hS.same s1).set i1) M1 s1⟩
end
section
variable {P:Program}{w:World}{K:W.Frag}{mg:Str->Option Value}{base:Heap}{CX:CXT}
theorem Paired.mapSome {K:W.Frag}{μ:Mu}{H:Hp}{vs:List V}{es:List En}(h:Paired (IsE K μ H) vs es) (n m:Nat) (hn:n - vs.length=m - es.length):RelS K (es.map some++List.replicate (m - es.length) none) μ (vs.map some++List.replicate (n - vs.length) none) H:=by
 have hl:vs.length=es.length:=PySem.Paired.length h
 refine ⟨by simp [hl] at *;omega,fun i e he=>?_⟩
 by_cases hi:i<es.length
 ·rw [qV (by simpa using hi),List.getElem?_map] at he
  rw [qV (by simp;omega),List.getElem?_map]
  cases q:es[i]? with
  | none=>rw [q] at he;cases he
  | some e' =>
   rw [q] at he
   cases he
   obtain ⟨v,e1,e2⟩:=L2.Paired.get' h q
   exact ⟨v,by rw [e1];rfl,e2⟩
 ·rw [qT (by simp;omega),List.getElem?_replicate] at he
  split at he <;> cases he
theorem Fun.okD {x qual:Str}{st:Stmt}{f:Addr}{fd:FuncData}{N ps:List Str}{k:Nat}{sp:SpD}(F:Fun K x qual st f fd) (S:FnScope N ps (qt st)) (len:∀ es μ Q,sp es μ Q->es.length=ps.length)
  (hbody:∀ (cdv:Value) (A:Around) (outer:List Env) (s:Shared) (H:Hp) (E:XK) (es:List En) (μ:Mu) (Q:En->Mu->Prop),Room k (A.deeper (envOfC qual (qt st) s.heap.objs.size f cdv))->sp es μ Q →
   ∃ t,DSs K (qcE CX P w K mg base N qual (qt st) f cdv A outer s H E).nox (y7 st) t/\t { nx:=fun _ μ'=>Q (.d .none) μ',rt:=Q } (es.map some++List.replicate (N.length - es.length) none) μ):FnOk P w K mg base CX (k+1) f fd ps (qW K sp):=by
 refine F.okG S (fun vs H Q E ⟨μ,es,Q0,M,hp,h,cl⟩=>(PySem.Paired.length hp).trans (len es μ Q0 h)) (fun cdv A outer s H vs Q E hr ⟨μ,es,Q0,M,hp,h,cl⟩=>?_)
 obtain ⟨t,ht,hq⟩:=hbody cdv A outer s H E es μ Q0 hr h
 have hl:vs.length=es.length:=PySem.Paired.length hp
 refine ⟨upS K t,ht,_,μ,_,Paired.mapSome hp N.length N.length (by rw [hl]),M,hq,⟨fun ρ' μ' σ' H' q S' M' s'=>cl _ μ' .non H' q M' s' .non,cl,fun _ _ _ _ q=>q.elim,fun _ _ _ _ q=>q.elim⟩⟩
theorem Own.imp {k:Nat}{x:Str}{ps:List Str}{sp sp':Sp}(O:Own P w K mg base CX k x ps sp) (h:∀ vs H Q E,sp' vs H Q E->sp vs H Q E):Own P w K mg base CX k x ps sp':=by
 obtain ⟨f,fd,F,r⟩:=O
 exact ⟨f,fd,F.imp h,r⟩
end
section
variable {X:Cx}{K:W.Frag}{a b c:Expr}{ta tb tc:TEd}{tA tB:TTd}{pos:Pos}{es:List Expr}{tr:TAd}
def rdIs (neg:Bool):R2d:=fun x y μ Q=>match x,y with
 | .d (.bool i),.d (.bool j)=>Q (.d (.bool (if neg then i != j else i == j))) μ
 | .d .none,.d .none=>Q (.d (.bool (!neg))) μ
 | .d (.bool _),.d .none=>Q (.d (.bool neg)) μ
 | .d (.int _),.d .none=>Q (.d (.bool neg)) μ
 | .d (.tuple _),.d .none=>Q (.d (.bool neg)) μ
 | .d (.list _),.d .none=>Q (.d (.bool neg)) μ
 | _,_=>False
theorem qfV:OpR X (compareOp .IsNot) (upR K (rdIs true)):=by
 intro pins s σ H x y v u Q I rx ry h
 obtain ⟨μ,e,e',Q0,M,i1,i2,q,cl⟩:=h
 unfold rdIs at q
 split at q
 ·cases i1;cases i2;cases rx;cases ry
  exact isnot_bool ⟨.bl _,H,I,rfl,cl _ μ _ H q M (yc.refl _) (.bl _)⟩
 ·cases i1;cases i2;cases rx;cases ry
  exact isnot_none_gen ⟨.bl false,H,I,rfl,cl (.d (.bool false)) μ _ H q M (yc.refl _) (Is.bl _)⟩
 ·cases i1;cases i2;cases rx;cases ry
  exact isnot_none_gen ⟨.bl _,H,I,rfl,cl _ μ _ H q M (yc.refl _) (.bl _)⟩
 ·cases i1;cases i2;obtain ⟨t,rfl⟩:=rx;cases ry
  exact isnot_none_gen ⟨.bl _,H,I,rfl,cl _ μ _ H q M (yc.refl _) (.bl _)⟩
 ·cases i1;cases i2;cases rx;cases ry
  exact isnot_none_gen ⟨.bl _,H,I,rfl,cl _ μ _ H q M (yc.refl _) (.bl _)⟩
 ·cases i1;cases i2;cases rx;cases ry
  exact isnot_none_gen ⟨.bl _,H,I,rfl,cl _ μ _ H q M (yc.refl _) (.bl _)⟩
 ·exact q.elim
def rdIx:R2d:=fun x y μ Q=>match x,y with
 | .d (.tuple ds),.d (.int i)=>∃ z,atI ds i=some z/\Q (.d z) μ
 | .d (.list ds),.d (.int i)=>∃ z,atI ds i=some z/\Q (.d z) μ
 | .m p,.d (.int i)=>∃ ds z,(p,.lst ds)∈μ/\atI ds i=some z/\Q (.d z) μ
 | _,_=>False
theorem qN (hK:X.K=K:=by rfl):IxR X (upR K rdIx):=by
 refine (IxR.or (qiW (K:=K) hK) (qlg (K:=K) hK)).mono fun x y H Q h=>?_
 obtain ⟨μ,e,e',Q0,M,i1,i2,q,cl⟩:=h
 unfold rdIx at q
 split at q
 ·exact .inr ⟨μ,_,_,Q0,M,i1,i2,q,cl⟩
 ·obtain ⟨z,h1,q⟩:=q
  exact .inl ⟨μ,_,_,Q0,M,i1,i2,⟨_,z,.d _,h1,q⟩,cl⟩
 ·obtain ⟨ds,z,h0,h1,q⟩:=q
  exact .inl ⟨μ,_,_,Q0,M,i1,i2,⟨ds,z,.m h0,h1,q⟩,cl⟩
 ·exact q.elim
def qjY:R2d:=fun x y μ Q=>match x,y with
 | .d (.int i),.d (.int j)=>Q (.d (.int (i+j))) μ
 | _,_=>∃ ds es,LstOf μ x ds/\LstOf μ y es/\ds.length+es.length<=4000/\Q (.d (.list (ds++es))) μ
section forms
variable {g:TGd}{tb:TSd}{D:EndsD}{ρ:Rho}{μ:Mu}{te:TEd}{tt:TTd}{Q:En->Mu->Prop}
theorem forL {e:En}{ds:List PyData}(Pv:Nat->Rho->Mu->Prop) (h0:Pv 0 ρ μ) (hok:∀ i ρ' μ',Pv i ρ' μ'->LstOf μ' e ds)
  (hs:∀ i x ρ' μ',ds[i]?=some x->Pv i ρ' μ'->g (.d x) ρ' μ' fun ρ2 μ2=>tb { D with nx:=Wks (Pv (i+1)),ct:=Wks (Pv (i+1)),bk:=D.nx } ρ2 μ2) (hd:∀ ρ' μ',Pv ds.length ρ' μ'->D.nx ρ' μ') :
  ∃ Pv:Nat->Rho->Mu->Prop,Pv 0 ρ μ/\(∀ i ρ' μ',i<=(itL e ds).n->Pv i ρ' μ'->(itL e ds).ok μ') ∧
   (∀ i ρ' μ',i<(itL e ds).n->Pv i ρ' μ'->g ((itL e ds).item i) ρ' μ' fun ρ2 μ2=>tb { D with nx:=Wks (Pv (i+1)),ct:=Wks (Pv (i+1)),bk:=D.nx } ρ2 μ2)/\∀ ρ' μ',Pv (itL e ds).n ρ' μ'->D.nx ρ' μ':=by
 refine ⟨Pv,h0,fun i ρ' μ' _ p=>hok i ρ' μ' p,fun i ρ' μ' hi p=>?_,hd⟩
 have hi:i<ds.length:=hi
 have e1:ds[i]?=some ds[i]:=List.getElem?_eq_getElem hi
 show g (.d (ds.getD i .none)) ρ' μ' _
 rw [jq e1]
 exact hs i _ ρ' μ' e1 p
theorem forT {ds:List PyData}(Pv:Nat->Rho->Mu->Prop) (h0:Pv 0 ρ μ)
  (hs:∀ i x ρ' μ',ds[i]?=some x->Pv i ρ' μ'->g (.d x) ρ' μ' fun ρ2 μ2=>tb { D with nx:=Wks (Pv (i+1)),ct:=Wks (Pv (i+1)),bk:=D.nx } ρ2 μ2) (hd:∀ ρ' μ',Pv ds.length ρ' μ'->D.nx ρ' μ') :
  ∃ Pv:Nat->Rho->Mu->Prop,Pv 0 ρ μ/\(∀ i ρ' μ',i<=(itT ds).n->Pv i ρ' μ'->(itT ds).ok μ') ∧
   (∀ i ρ' μ',i<(itT ds).n->Pv i ρ' μ'->g ((itT ds).item i) ρ' μ' fun ρ2 μ2=>tb { D with nx:=Wks (Pv (i+1)),ct:=Wks (Pv (i+1)),bk:=D.nx } ρ2 μ2)/\∀ ρ' μ',Pv (itT ds).n ρ' μ'->D.nx ρ' μ':=by
 refine ⟨Pv,h0,fun i ρ' μ' _ p=>trivial,fun i ρ' μ' hi p=>?_,hd⟩
 have hi:i<ds.length:=hi
 have e1:ds[i]?=some ds[i]:=List.getElem?_eq_getElem hi
 show g (.d (ds.getD i .none)) ρ' μ' _
 rw [jq e1]
 exact hs i _ ρ' μ' e1 p
theorem forR {lo:Int}{n:Nat}(Pv:Nat->Rho->Mu->Prop) (h0:Pv 0 ρ μ)
  (hs:∀ i ρ' μ',i<n->Pv i ρ' μ'->g (.d (.int (lo+i))) ρ' μ' fun ρ2 μ2=>tb { D with nx:=Wks (Pv (i+1)),ct:=Wks (Pv (i+1)),bk:=D.nx } ρ2 μ2) (hd:∀ ρ' μ',Pv n ρ' μ'->D.nx ρ' μ') :
  ∃ Pv:Nat->Rho->Mu->Prop,Pv 0 ρ μ/\(∀ i ρ' μ',i<=(itR lo n).n->Pv i ρ' μ'->(itR lo n).ok μ') ∧
   (∀ i ρ' μ',i<(itR lo n).n->Pv i ρ' μ'->g ((itR lo n).item i) ρ' μ' fun ρ2 μ2=>tb { D with nx:=Wks (Pv (i+1)),ct:=Wks (Pv (i+1)),bk:=D.nx } ρ2 μ2)/\∀ ρ' μ',Pv (itR lo n).n ρ' μ'->D.nx ρ' μ' :=
 ⟨Pv,h0,fun i ρ' μ' _ p=>trivial,fun i ρ' μ' hi p=>hs i ρ' μ' hi p,hd⟩
abbrev qgj (k:Nat) (J:Itd) (g:TGd) (tt:TTd) (te:TEd) (ρ:Rho) (μ1:Mu) (Q:En->Mu->Prop):Prop:=∃ Pv:Nat->List PyData->Rho->Mu->Prop,Pv 0 [] (ρ++List.replicate k none) μ1/\(∀ i ys ρ' μ',i<=J.n->Pv i ys ρ' μ'->J.ok μ') ∧
 (∀ i ys ρ' μ',i<J.n->Pv i ys ρ' μ'->g (J.item i) ρ' μ' fun ρ2 μ2=>tt ρ2 μ2 fun b μ3=>if b=true then te ρ2 μ3 fun y μ4=>∃ z,y = .d z/\Pv (i+1) (ys++[z]) ρ2 μ4 else Pv (i+1) ys ρ2 μ3) ∧
 ∀ ys ρ' μ',Pv J.n ys ρ' μ'->Fin1 Q ys μ'
theorem Jk {α:Type}{ds:List α}{i:Nat}{x:α}(h:ds[i]?=some x):ds.take (i+1)=ds.take i++[x]:=by rw [List.take_add_one,h];rfl
structure Src (J:Itd) (ds:List PyData) (μ:Mu):Prop where
 n:J.n=ds.length
 it:∀ i x,ds[i]?=some x->J.item i = .d x
 ok:J.ok μ
theorem Src.l {e:En}{ds:List PyData}{μ:Mu}(h:LstOf μ e ds):Src (itL e ds) ds μ:=⟨rfl,fun i x e=>by show En.d (ds.getD i .none)=_;rw [jq e],h⟩
theorem Src.d {ds:List PyData}{μ:Mu}:Src (itL (.d (.list ds)) ds) ds μ:=Src.l (.d ds)
theorem Src.t {ds:List PyData}{μ:Mu}:Src (itT ds) ds μ:=⟨rfl,fun i x e=>by show En.d (ds.getD i .none)=_;rw [jq e],trivial⟩
def rng (lo:Int) (n:Nat):List PyData:=(List.range n).map fun (i:Nat)=>PyData.int (lo+(i:Int))
theorem Src.r {lo:Int}{n:Nat}{μ:Mu}:Src (itR lo n) (rng lo n) μ:=by
 refine ⟨by simp [rng,itR],fun i x e=>?_,trivial⟩
 unfold rng at e
 rw [List.getElem?_map] at e
 by_cases hi:i<n
 ·rw [List.getElem?_range hi] at e
  cases e
  rfl
 ·rw [List.getElem?_eq_none (by simpa using hi)] at e
  exact nomatch e
theorem qls {J:Itd}{α:Type}{as:List α}{h1 h2:α->PyData}(p:α->Bool) (f:α->PyData) (S:Src J (as.map fun a=>.tuple [h1 a,h2 a]) μ)
  (ht:∀ a,a∈as->∀ R:Bool->Mu->Prop,R (p a) μ->tt (ρ++[some (.d (h1 a)),some (.d (h2 a))]) μ R)
  (hs:∀ a,a∈as->p a=true->∀ R:En->Mu->Prop,R (.d (f a)) μ->te (ρ++[some (.d (h1 a)),some (.d (h2 a))]) μ R) (hq:Q (.d (.list ((as.filter p).map f))) μ):qgj 2 J (qfX 2 (Yz (JD ρ.length) (Yz (JD (ρ.length+1)) qfY))) tt te ρ μ Q:=by
 have hl:J.n=as.length:=by rw [S.n];simp
 refine ⟨fun i ys ρ' μ'=>μ'=μ/\ys=((as.take i).filter p).map f/\∃ v w,ρ'=ρ++[v,w],⟨rfl,rfl,none,none,rfl⟩,fun i ys ρ' μ' _ ⟨h,_⟩=>by subst h;exact S.ok,?_,?_⟩
 ·rintro i ys ρ' μ' hi ⟨rfl,rfl,v,w,rfl⟩
  rw [hl] at hi
  rw [S.it i (.tuple [h1 as[i],h2 as[i]]) (by rw [List.getElem?_map,List.getElem?_eq_getElem hi];rfl)]
  refine ⟨rfl,?_⟩
  show tt (((ρ++[v,w]).set ρ.length _).set (ρ.length+1) _) μ' _
  have e2:((ρ++[v,w]).set ρ.length (some (.d (h1 as[i])))).set (ρ.length+1) (some (.d (h2 as[i])))=ρ++[some (.d (h1 as[i])),some (.d (h2 as[i]))]:=by simp [List.set_append]
  rw [e2]
  refine ht as[i] (qU hi) _ ?_
  cases hp:p as[i] with
  | true =>
   refine qfN (hs as[i] (qU hi) hp _ ⟨_,rfl,rfl,?_,_,_,rfl⟩)
   rw [Jk (List.getElem?_eq_getElem hi),List.filter_append,List.map_append]
   simp [hp]
  | false =>
   refine qbd ⟨rfl,?_,_,_,rfl⟩
   rw [Jk (List.getElem?_eq_getElem hi),List.filter_append,List.map_append]
   simp [hp]
 ·rintro ys ρ' μ' ⟨rfl,rfl,_⟩
  rw [hl,yh]
  exact hq
theorem Za {J:Itd}{α:Type}{as:List α}{h1 h2:α->PyData}(f:α->PyData) (S:Src J (as.map fun a=>.tuple [h1 a,h2 a]) μ)
  (hs:∀ a,a∈as->∀ R:En->Mu->Prop,R (.d (f a)) μ->te (ρ++[some (.d (h1 a)),some (.d (h2 a))]) μ R) (hq:Q (.d (.list (as.map f))) μ):qgj 2 J (qfX 2 (Yz (JD ρ.length) (Yz (JD (ρ.length+1)) qfY))) dYes te ρ μ Q :=
 qls (fun _=>true) f S (fun a _ R h=>h) (fun a ha _=>hs a ha) (by rw [List.filter_eq_self.mpr (fun _ _=>rfl)];exact hq)
end forms
end
def Num (n:Int):Prop:=-1000000000000000000000000000000<n/\n<1000000000000000000000000000000
def Z9 (p:Pt):Prop:=Num p.1/\Num p.2
def dvs (a b:Int):Int:=if a<0\/(a=0/\b<0) then -(Int.gcd a b:Int) else (Int.gcd a b:Int)
theorem qb3 {f r:Nat}:Nat.gcd r (f % r)=Nat.gcd f r:=by
 rw [Nat.gcd_comm r (f % r),<- Nat.gcd_rec,Nat.gcd_comm]
def Bd (B:Nat) (q:Pt):Prop:=q.1.natAbs<=B/\q.2.natAbs<=B
theorem qfU {a d:Int}{B:Nat}(hB:B<2 ^ 1000) (h0:d≠0) (hd:d.natAbs<=B):qcD a d:=⟨h0,yD hd hB⟩
def crs (p q:Pt):Int:=p.1 * q.2 - p.2 * q.1
theorem FzR.pot {M a b:Int}{μ:Mu}{p:Addr}(ha:0<=a) (hb:0<=b) (hm:b<M):FzR ((p,.lst [.int a,.int b])::μ) (.m p) ((p,.pot M)::μ) (.m p):=fun K v H h i=>by
 have e:mask ((p,.lst [.int a,.int b])::μ) H=mask ((p,.pot M)::μ) H:=rfl
 refine ⟨⟨by simpa using h.nd,fun b' o ho=>?_⟩,i,by rw [e];exact yc.refl _⟩
 rcases List.mem_cons.mp ho with z | z
 ·cases z
  obtain ⟨xs,e1,hs⟩:=h.ob p _ ql
  have:=IsAll.ints_of (ns:=[a,b]) hs
  subst this
  exact ⟨a,b,e1,ha,hb,hm⟩
 ·have:=h.ob b' o (qg _ z)
  exact this.same (by rw [e];exact yc.refl _) rfl
def spTakeM (M:Int):Sp:=fun vs H Q _=>∃ (p:Addr) (m:Int),vs=[.ref p,.int m]/\Pot M H p/\0<m/\m<=100000000/\∀ d H',0<=d->d<m->Pot M H' p->Stp p H H'->Q (.int d) H'
def sDraw (M:Int):SpD:=fun es μ Q=>∃ (p:Addr) (m:Int),es=[.m p,.d (.int m)]/\(p,.pot M)∈μ/\0<m/\m<=100000000/\∀ d,0<=d->d<m->Q (.d (.int d)) μ
def sNum (M:Int):SpD:=fun es μ Q=>∃ (p:Addr),es=[.m p]/\(p,.pot M)∈μ/\∀ n,Num n->Q (.d (.int n)) μ
theorem qdv {K:W.Frag}{μ:Mu}{H H':Hp}{p:Addr}{M:Int}(h:RelM K μ H) (hp:(p,.pot M)∈μ) (hP:Pot M H' p) (s:Stp p H H'):RelM K μ H'/\yc (mask μ H) (mask μ H'):=by
 obtain ⟨μ1,μ2,rfl⟩:=List.append_of_mem hp
 exact h.write (fun b u e n=>s b u e n) fun _=>hP
theorem draw_up {K:W.Frag}{M:Int}{vs:List V}{H:Hp}{Q:VK}{E:XK}(h:qW K (sDraw M) vs H Q E):spTakeM M vs H Q E:=by
 obtain ⟨μ,es,Q0,hM,hp,⟨p,m,rfl,hpot,m0,m1,q⟩,cl⟩:=h
 obtain ⟨v,v',rfl,i1,i2⟩:=qap hp
 have i1:v=_:=i1
 subst i1
 cases i2
 refine ⟨p,m,rfl,hM.ob _ _ hpot,m0,m1,fun d H' d0 d1 hP s=>?_⟩
 obtain ⟨M',s'⟩:=qdv hM hpot hP s
 exact cl _ μ _ H' (q d d0 d1) M' s' (.int d)
theorem zl0:0<=4000:=by decide
theorem zl2:2<=4000:=by decide
theorem zl3:3<=4000:=by decide
theorem zl4:4<=4000:=by decide
def qe9 (K:W.Frag):Sp:=fun vs H Q _=>∃ (a:Addr) (ns:List Int),vs=[.ref a]/\SqL K H a (ns.map V.int)/\ns.length<=63/\∀ H',Q (.bl true) H'
def sLaw:SpD:=fun es μ Q=>∃ ns:List Int,es=[.d (.list (ns.map .int))]/\ns.length<=63/\μ=[]/\∀ μ',Q (.d (.bool true)) μ'
theorem qkT {K:W.Frag}{vs:List V}{H:Hp}{Q:VK}{E:XK}(h:qe9 K vs H Q E):qW K sLaw vs H Q E:=by
 obtain ⟨a,ns,rfl,hS,hl,q⟩:=h
 refine ⟨[],[.d (.list (ns.map .int))],fun e _=>e = .d (.bool true),RelM.nil,.cons ?_ .nil,⟨ns,rfl,hl,rfl,fun _=>rfl⟩,?_⟩
 ·show Is K (mask [] H) (.ref a) _
  rw [qbT]
  exact .lst hS (IsAll.ints ns)
 ·rintro e μ' v H' rfl _ _ i
  cases i
  exact q H'
section
variable {X:Cx}{K:W.Frag}{a b c:Expr}{ta tb tc:TEd}{tA tB:TTd}{pos:Pos}{es:List Expr}{tr:TAd}
def rCatS (K:W.Frag):R2:=fun x y H Q=>∃ l b xs zs,x = .ref l/\y = .ref b/\SqL K H l xs/\SqL K H b zs/\xs.length+zs.length<=sizeLine/\∀ p,H p=none->Q (.ref p) (upd H p (.lst (xs++zs)))
theorem qiq:OpR X (binaryOp .Add) (rCatS X.K):=by
 intro pins s σ H x y v u Q I rx ry h
 obtain ⟨l,b,xs,zs,rfl,rfl,hH,hB,hz,q⟩:=h
 cases rx
 cases ry
 obtain ⟨its,r,pl,_⟩:=I.list hH
 obtain ⟨its2,r2,pl2,_⟩:=I.list hB
 obtain ⟨⟨cls,dd,data,sl⟩,ho,hc,n,hd⟩:=pl.isList
 obtain ⟨⟨cls2,dd2,data2,sl2⟩,ho2,hc2,n2,hd2⟩:=pl2.isList
 simp only at hc hd hc2 hd2
 subst hc hd hc2 hd2
 have h1:=r.length
 have h2:=r2.length
 have e:its.toArray++its2.toArray=(its++its2).toArray:=by simp
 refine concat_meets ⟨_,ho,rfl⟩ ⟨_,ho2,rfl⟩ noFill_list_add seq_list_add PySem.F.slot_list_add PySem.F.entry_list_add (PySem.F.args_list_add_2 _ _) (list_addW l b its.toArray its2.toArray n n2 dd dd2 sl sl2 (by simp;omega)) ⟨ho,ho2,?_⟩
 rw [e]
 exact ⟨.ref _,_,I.lnew (t':=s.toks) (r.append r2) (by rw [List.length_append];omega),rfl,q _ I.fresh⟩
theorem qes (hK:X.K=K:=by rfl):OpR X (binaryOp .Add) (upR K qjY):=by
 subst hK
 refine (OpR.or (qdH (X:=X)) qiq).mono fun x y H Q h=>?_
 obtain ⟨μ,e,e',Q0,M,i1,i2,q,cl⟩:=h
 unfold qjY at q
 split at q
 ·cases i1;cases i2
  exact .inl ⟨_,_,rfl,rfl,cl _ μ _ H q M (yc.refl _) (.int _)⟩
 ·obtain ⟨ds,es,h1,h2,hl,q⟩:=q
  obtain ⟨p,xs,rfl,a1,a2⟩:=h1.get M i1
  obtain ⟨p',xs',rfl,b1,b2⟩:=h2.get M i2
  refine .inr ⟨p,p',xs,xs',rfl,rfl,a1,b1,yH (jd (by rw [a2.len,b2.len];exact hl)),fun l hl=>?_⟩
  obtain ⟨M4,s4,hn⟩:=M.laid (o:=.lst (xs++xs')) hl
  exact cl _ μ _ _ q M4 s4 (.lst (SqL.of (by rw [yR hn];exact yf)) (IsAll.same s4 (IsAll.app b2 a2)))
def qlp (r r':R2d) (ta tb tc:TEd):TEd:=fun ρ μ Q=>ta ρ μ fun x μ1=>tb ρ μ1 fun y μ2=>r x y μ2 fun z μ3=>match z with
 | .d (.bool k)=>if k=true then tc ρ μ3 fun u μ4=>r' y u μ4 Q else Q (.d (.bool false)) μ3
 | _=>False
theorem qi3 {op op':CmpOp}{r r':R2d}(ho:OpR X (compareOp op) (upR K r)) (ho':OpR X (compareOp op') (upR K r')) (ha:DE K X a ta) (hb:DE K X b tb) (hc:DE K X c tc)
  (h1:behindInMarks op b=false) (h2:behindInMarks op' c=false) (hm:lastMarks [op,op'] [b,c]=false:=by with_unfolding_all rfl):DE K X (.Compare a [op,op'] [b,c] pos) (qlp r r' ta tb tc):=by
 refine PE.mono (qfx ho ho' ha hb hc hm) fun σ H Q hq9=>?_
 obtain ⟨ρ,μ,Q0,hS,hM,h,cl⟩:=hq9
 refine up2 hS hM h fun x y μ2 v u H2 q M2 s2 i1 i2=>⟨μ2,x,y,_,M2,i1,i2,q,fun e μ3 w H3 q3 M3 s3 i3=>?_⟩
 split at q3
 ·rename_i k
  cases i3
  refine ⟨k,rfl,?_⟩
  cases k with
  | true=>exact qfN ⟨ρ,μ3,_,(hS.same s2).same s3,M3,by simpa using q3,fun e4 μ4 w4 H4 q4 M4 s4 i4=>⟨μ4,y,e4,Q0,M4,i2.same (s3.trans s4),i4,q4,cl.same ((s2.trans s3).trans s4)⟩⟩
  | false=>exact qbd (cl (.d (.bool false)) μ3 _ H3 (by simpa using q3) M3 (s2.trans s3) (Is.bl _))
 ·exact q3.elim
end
section
variable {P:Program}{w:World}{K:W.Frag}{mg:Str->Option Value}{base:Heap}{CX:CXT}{k:Nat}{x:Str}{ps:List Str}{sp sp':Sp}{f:Addr}{fd:FuncData}
def spOr (sp sp':Sp):Sp:=fun vs H Q E=>sp vs H Q E\/sp' vs H Q E
theorem FnOk.or (h:FnOk P w K mg base CX k f fd ps sp) (h':FnOk P w K mg base CX k f fd ps sp'):FnOk P w K mg base CX k f fd ps (spOr sp sp') :=
 ⟨fun vs H Q E q=>q.elim (h.len vs H Q E) (h'.len vs H Q E),fun A outer s H args us vs Q E hr he hb hv q=>q.elim (h.run A outer s H args us vs Q E hr he hb hv) (h'.run A outer s H args us vs Q E hr he hb hv)⟩
theorem Own.l (O:Own P w K mg base CX k x ps (spOr sp sp')):Own P w K mg base CX k x ps sp:=O.imp fun _ _ _ _ h=>.inl h
theorem Own.r (O:Own P w K mg base CX k x ps (spOr sp sp')):Own P w K mg base CX k x ps sp':=O.imp fun _ _ _ _ h=>.inr h
theorem RelS.of {vs:List V}{es:List En}{H:Hp}(n:Nat) (h:Paired (IsE K [] H) vs es):RelS K (es.map some++List.replicate n none) [] (vs.map some++List.replicate n none) H:=by
 have:=Paired.mapSome (K:=K) h (vs.length+n) (es.length+n) (by omega)
 simpa using this
theorem IsE.nil {H:Hp}{v:V}{d:PyData}(h:Is K H v d):IsE K [] H v (.d d):=by
 show Is K (mask [] H) v d
 rw [qbT];exact h
end
section
variable {g:TGd}{tb:TSd}{D:EndsD}{ρ:Rho}{μ:Mu}{te:TEd}{tt:TTd}{Q:En->Mu->Prop}
theorem qeD {J:Itd}{α:Type}{as:List α}{h:α->PyData}(p:α->Bool) (f:α->PyData) (S:Src J (as.map h) μ)
  (ht:∀ a,a∈as->∀ R:Bool->Mu->Prop,R (p a) μ->tt (ρ++[some (.d (h a))]) μ R)
  (hs:∀ a,a∈as->p a=true->∀ R:En->Mu->Prop,R (.d (f a)) μ->te (ρ++[some (.d (h a))]) μ R) (hq:Q (.d (.list ((as.filter p).map f))) μ):qgj 1 J (JD ρ.length) tt te ρ μ Q:=by
 have hl:J.n=as.length:=by rw [S.n];simp
 refine ⟨fun i ys ρ' μ'=>μ'=μ/\ys=((as.take i).filter p).map f/\∃ v,ρ'=ρ++[v],⟨rfl,rfl,none,rfl⟩,fun i ys ρ' μ' _ ⟨h,_⟩=>by subst h;exact S.ok,?_,?_⟩
 ·rintro i ys ρ' μ' hi ⟨rfl,rfl,v,rfl⟩
  rw [hl] at hi
  rw [S.it i (h as[i]) (by rw [List.getElem?_map,List.getElem?_eq_getElem hi];rfl)]
  unfold JD
  have e2:(ρ++[v]).set ρ.length (some (.d (h as[i])))=ρ++[some (.d (h as[i]))]:=by simp
  rw [e2]
  refine ht as[i] (qU hi) _ ?_
  cases hp:p as[i] with
  | true =>
   refine qfN (hs as[i] (qU hi) hp _ ⟨_,rfl,rfl,?_,_,rfl⟩)
   rw [Jk (List.getElem?_eq_getElem hi),List.filter_append,List.map_append]
   simp [hp]
  | false =>
   refine qbd ⟨rfl,?_,_,rfl⟩
   rw [Jk (List.getElem?_eq_getElem hi),List.filter_append,List.map_append]
   simp [hp]
 ·rintro ys ρ' μ' ⟨rfl,rfl,_⟩
  rw [hl,yh]
  exact hq
theorem qhq {J:Itd}{α:Type}{as:List α}{h:α->PyData}(f:α->PyData) (S:Src J (as.map h) μ)
  (hs:∀ a,a∈as->∀ R:En->Mu->Prop,R (.d (f a)) μ->te (ρ++[some (.d (h a))]) μ R) (hq:Q (.d (.list (as.map f))) μ):qgj 1 J (JD ρ.length) dYes te ρ μ Q :=
 qeD (fun _=>true) f S (fun a _ R h=>h) (fun a ha _=>hs a ha) (by rw [List.filter_eq_self.mpr (fun _ _=>rfl)];exact hq)
end
section
variable {s:List Int}(h:s.Pairwise (· <= ·)) {j:Nat}(hj:j<s.length) {c:Int}
include h hj
end
def twice:List Int->List Int
 | []=>[]
 | x::l=>x::x::twice l
mutual
theorem qb4:∀ d:PyData,PyData.canLay0 d=true->PyData.eqv d d=true
 | .none,_=>by simp [PyData.eqv]
 | .bool b,_=>by simp [PyData.eqv]
 | .int i,_=>by simp [PyData.eqv]
 | .str x,_=>by simp [PyData.eqv]
 | .list xs,h=>by
  simp only [PyData.canLay0] at h
  simp only [PyData.eqv]
  exact JP xs h
 | .tuple xs,h=>by
  simp only [PyData.canLay0] at h
  simp only [PyData.eqv]
  exact JP xs h
 | .dict xs,h=>by simp [PyData.canLay0] at h
theorem JP:∀ ds:List PyData,PyData.canLayAll0 ds=true->PyData.eqvAll ds ds=true
 | [],_=>by simp [PyData.eqvAll]
 | d::ds,h=>by
  simp only [PyData.canLayAll0,Bool.and_eq_true] at h
  simp only [PyData.eqvAll,Bool.and_eq_true]
  exact ⟨qb4 d h.1,JP ds h.2⟩
end
theorem qcm {d:PyData}(h:SeqAt.shaped d=true):PyData.eqv d d=true:=qb4 d (SeqAt.canLay_of_shaped h)
theorem Zw {α:Type}{f:α->PyData}(hf:∀ a,PyData.canLay0 (f a)=true):∀ as:List α,PyData.canLayAll0 (as.map f)=true
 | []=>by simp [PyData.canLayAll0]
 | a::as=>by simp [PyData.canLayAll0,hf a,Zw hf as]
theorem qaE {α:Type}{f:α->PyData}{n:Nat}(hf:∀ a,PyData.depth (f a)<=n):∀ as:List α,PyData.depthAll (as.map f)<=n+1
 | []=>by simp [PyData.depthAll]
 | a::as=>by
  have:=qaE hf as
  have:=hf a
  simp only [List.map_cons,PyData.depthAll]
  omega
section
variable {X:Cx}{K:W.Frag}{a b c:Expr}{ta tb tc:TEd}{tA tB:TTd}{pos:Pos}{es:List Expr}{tr:TAd}
end
theorem qf3 {ds:List PyData}(h:ds≠[]):Z8 ds none (some (-1))=ds.dropLast:=by
 have hl:0<ds.length:=yt.mpr h
 unfold Z8 HT.sIx
 simp only [List.drop_zero,Nat.sub_zero]
 rw [List.dropLast_eq_take]
 congr 1
 simp
 omega
end L2
namespace L2
open PySem PySem.Spec PyProof.Rows PySem.W PySem.SetTable
def qaP (K:W.Frag) (H:Hp) (v:V) (ks:List Int):Prop:=(∃ a,v = .ref a/\SqT K H a (ks.map V.int))/\ks≠[]
theorem qaP.same {K:W.Frag}{H H':Hp}{v:V}{ks:List Int}(h:qaP K H v ks) (s:yc H H'):qaP K H' v ks:=by
 obtain ⟨⟨a,e,q⟩,n⟩:=h
 exact ⟨⟨a,e,SqT.same s q⟩,n⟩
def Srt (ms:List (List Int)):Prop:=ms.Pairwise fun a b=>¬ b<a
def qhS (P:Program) (w:World) (a:Addr) (bs:List (Addr×List Int)) (h:Heap):Prop :=
 ∃ o es ep t m,h.get? a=some o/\o.ExactSet/\o.data = .set es ep t/\t.plain=true/\t.led=(!jJ w)/\j6 m es.size/\SetI t es m es.size/\es.toList=bs.map (fun b=>(yu P w b.2,Value.ref b.1))/\(bs.map (·.2)).Nodup
def qhT (P:Program) (w:World) (a:Addr) (bs:List (Addr×List Int)):HO:=.ext (qhS P w a bs)
def InS (K:W.Frag) (H:Hp) (bs:List (Addr×List Int)):Prop:=∀ b∈bs,qaP K H (.ref b.1) b.2
theorem InS.same {K:W.Frag}{H H':Hp}{bs:List (Addr×List Int)}(h:InS K H bs) (s:yc H H'):InS K H' bs:=fun b hb=>(h b hb).same s
theorem qhS.stay {P:Program}{w:World}{a:Addr}{bs:List (Addr×List Int)}{h1 h2:Heap}(p:qhS P w a bs h1) (k:∀ o,h1.get? a=some o->h2.get? a=some o):qhS P w a bs h2:=by
 obtain ⟨o,es,ep,t,m,ho,r⟩:=p
 exact ⟨o,es,ep,t,m,k o ho,r⟩
theorem qhS.ok {P:Program}{w:World}{H:Hp}{a:Addr}{bs:List (Addr×List Int)}{h:Heap}(p:qhS P w a bs h):jT P w H h a (qhT P w a bs):=by
 refine ⟨p,?_,fun h1 h2 p1 k=>p1.stay k⟩
 obtain ⟨o,_,_,_,_,ho,_⟩:=p
 exact ⟨o,ho⟩
theorem qeo {P:Program}{w:World}{h:Heap}:∀ {l:List (Int×Value)}{ms:List (List Int)},PySem.Paired (Z6 P w h) l ms->∃ bs:List (Addr×List Int),l=bs.map (fun b=>(yu P w b.2,Value.ref b.1))/\bs.map (·.2)=ms/\∀ b∈bs,ju h (.ref b.1) b.2
 | _,_,.nil=>⟨[],rfl,rfl,(fun _ z=>nomatch z)⟩
 | _,_,.cons (a:=e) (b:=ks) r t=>by
  obtain ⟨bs,e1,e2,e3⟩:=qeo t
  obtain ⟨hh,v⟩:=e
  obtain ⟨r1,r2⟩:=r
  obtain ⟨b,_,_,_,eb,_⟩:=id r1
  dsimp only at eb r1 r2
  subst eb
  refine ⟨(b,ks)::bs,?_,?_,fun c hc=>?_⟩
  ·rw [List.map_cons,<- e1,r2]
  ·rw [List.map_cons,e2]
  ·rcases List.mem_cons.mp hc with rfl | hc
   ·exact r1
   ·exact e3 c hc
theorem qeO {P:Program}{w:World}{h:Heap}:∀ {bs:List (Addr×List Int)},(∀ b∈bs,ju h (.ref b.1) b.2)->PySem.Paired (Z6 P w h) (bs.map (fun b=>(yu P w b.2,Value.ref b.1))) (bs.map (·.2))
 | [],_=>.nil
 | b::bs,k=>.cons ⟨k b ql,rfl⟩ (qeO fun c hc=>k c (qg _ hc))
section
variable {X:Cx}{pins:List (Addr×Obj)}{σ:St}{H:Hp}{s:Shared}
theorem qk1:∀ {ns:List Int}{us:List Value},yz (ns.map V.int) us->IntsAre us ns
 | [],_,.nil=>.nil
 | n::ns,_,.cons ⟨t,e⟩ r=>by
  subst e
  exact .cons n t (qk1 r)
theorem Inv.tupK (I:Inv X pins σ H s) {a:Addr}{ks:List Int}(h:qaP X.K H (.ref a) ks):ju s.heap (.ref a) ks:=by
 obtain ⟨⟨a',e,ha⟩,hn⟩:=h
 cases e
 obtain ⟨its,r,⟨o,ho,hc,n,hd⟩,hz⟩:=I.tuple ha
 exact ⟨a,o,its.toArray,n,rfl,ho,hc,hd,by simpa using qk1 r,hn⟩
theorem Inv.tupsK (I:Inv X pins σ H s):∀ {us:List V}{its:List Value}{kss:List (List Int)},PySem.Paired (qaP X.K H) us kss->yz us its->PySem.Paired (ju s.heap) its kss
 | _,_,_,.nil,.nil=>.nil
 | _,_,_,.cons h t,.cons r q=>by
  obtain ⟨⟨a,e,ha⟩,hn⟩:=id h
  subst e
  cases r
  exact .cons (I.tupK h) (Inv.tupsK I t q)
theorem Inv.setT (I:Inv X pins σ H s) {a:Addr}{bs:List (Addr×List Int)}(h:H a=some (qhT X.prog X.w a bs)) (hb:InS X.K H bs):qbq X.prog X.w (fun v=>∃ b∈bs,v=Value.ref b.1) s.heap a (bs.map (·.2)):=by
 obtain ⟨⟨o,es,ep,t,m,ho,ex,hd,pl,ld,mo,si,ee,nd⟩,_⟩:=I.hok a _ h
 refine ⟨o,es,ep,t,m,ho,ex,hd,pl,ld,mo,si,?_,nd,fun e he=>?_⟩
 ·rw [ee]
  exact qeO fun b hbb=>I.tupK (hb b hbb)
 ·rw [ee] at he
  obtain ⟨b,h1,rfl⟩:=qG.mp he
  exact ⟨b,h1,rfl⟩
theorem qe2 {us:List V}{its:List Value}(r:yz us its) {kss:List (List Int)}(h:PySem.Paired (qaP X.K H) us kss) {b:Addr}(hb:Value.ref b∈its):∃ i:Nat,us[i]?=some (V.ref b):=by
 obtain ⟨i,ei⟩:=qX hb
 have hi:i<us.length:=by rw [r.length];exact (qp.mp ei).1
 obtain ⟨ks,_,⟨⟨a,e,_⟩,_⟩⟩:=L2.Paired.get h (List.getElem?_eq_getElem hi)
 obtain ⟨u,e1,e2⟩:=yz.get r (List.getElem?_eq_getElem hi)
 rw [ei] at e1
 cases e1
 rw [e] at e2
 have:Value.ref b=Value.ref a:=e2
 cases this
 exact ⟨i,by rw [List.getElem?_eq_getElem hi,e]⟩
def rSet (X:Cx):List V->Hp->VK->Prop:=fun xs H Q=>∃ (p:Addr) (us:List V) (kss:List (List Int)),xs=[.ref p]/\SqL X.K H p us/\PySem.Paired (qaP X.K H) us kss/\(∀ ms:List (List Int),ms.Nodup->(∀ q∈ms,q∈kss)->ms.length<4900) ∧
 ∀ S bs,H S=none->InS X.K H bs->(∀ b∈bs,∃ i:Nat,us[i]?=some (V.ref b.1)/\kss[i]?=some b.2)->(∀ q,q∈bs.map (·.2) ↔ q∈kss)->(bs.map (·.2)).Nodup->bs.length<4915->Q (.ref S) (upd H S (qhT X.prog X.w S bs))
theorem qeG (hc:X.calm=true) (hu:X.A.units+64<cLine):yL X (.type "set") (rSet X):=by
 intro pins s σ H xs us Q I r h
 obtain ⟨p,vs,kss,rfl,hS,hT,hl,q⟩:=h
 obtain ⟨u,rfl,rx⟩:=YS r
 cases rx
 obtain ⟨its,rv,pl,_⟩:=I.list hS
 have hK:=I.tupsK hT rv
 have hlen:=rv.length
 refine qcn (I.ok.hd hc) pl.isList hK (fun ms nd hm=>Nat.lt_trans (hl ms nd hm) (by decide)) hu fun h' tk ms S2 mem kp=>?_
 obtain ⟨o,es,ep,t,m,D⟩:=S2
 obtain ⟨bs,e1,e2,e3⟩:=qeo D.en
 subst e2
 have fr:H s.heap.objs.size=none:=I.hok.fresh (qj _)
 have own:∀ b∈bs,∃ i:Nat,vs[i]?=some (V.ref b.1):=fun b hb=>by
  refine qe2 rv hT (D.own (yu X.prog X.w b.2,Value.ref b.1) ?_)
  rw [e1]
  exact qG.mpr ⟨b,hb,rfl⟩
 have inS2:∀ b∈bs,qaP X.K H (.ref b.1) b.2/\∃ i:Nat,vs[i]?=some (V.ref b.1)/\kss[i]?=some b.2:=fun b hb=>by
  obtain ⟨i,ei⟩:=own b hb
  obtain ⟨ks,ek,tn⟩:=L2.Paired.get hT ei
  have k1:ju h' (.ref b.1) ks:=(I.tupK tn).kept fun c ob e _=>kp c ob e
  have:=(k1.key (prog:=X.prog) (w:=X.w)).inj ((e3 b hb).key (prog:=X.prog) (w:=X.w))
  rw [<- this]
  exact ⟨tn,i,ei,ek⟩
 have inS:InS X.K H bs:=fun b hb=>(inS2 b hb).1
 have lt:bs.length<4915:=by
  have:=D.mok.le
  have z:es.toList.length=bs.length:=by rw [e1,List.length_map]
  rw [Array.length_toList] at z
  omega
 refine ⟨.ref s.heap.objs.size,_,I.laid (t':=tk) kp (qj _) (o:=qhT X.prog X.w s.heap.objs.size bs) (qhS.ok ⟨o,es,ep,t,m,D.ho,D.ex,D.hd,D.pl,D.ld,D.mok,D.si,e1,D.nd⟩),rfl,q _ bs fr inS (fun b hb=>(inS2 b hb).2) mem D.nd lt⟩
theorem qgc {h:Heap}{vs:List Value}{kss:List (List Int)}{p:Array Nat}(hT:PySem.Paired (ju h) vs kss) (hp:Arr vs.length p) :
  PySem.Paired (ju h) (qcd vs p) (p.toList.map fun i=>kss.getD i [])/\(p.toList.map fun i=>kss.getD i []).Perm kss:=by
 have lt:∀ i∈p.toList,i<vs.length:=fun i hi=>by
  have:=(Array.Perm.mem_iff hp (a:=i)).mp (Array.mem_toList_iff.mp hi)
  simpa using this
 constructor
 ·unfold qcd
  generalize p.toList=l at lt
  induction l with
  | nil=>exact .nil
  | cons i l ih=>exact .cons (jG hT i (lt i ql)) (ih fun j hj=>lt j (qg _ hj))
 ·have p1:p.toList.Perm (List.range vs.length):=by
   have:=yI.mp hp
   simpa using this
  refine (p1.map fun i=>kss.getD i []).trans ?_
  rw [L2.Paired.len hT]
  refine List.Perm.of_eq ?_
  apply List.ext_getElem?
  intro i
  simp only [List.getElem?_map,List.getElem?_range]
  by_cases hi:i<kss.length
  ·simp [hi]
  ·simp [hi]
theorem qjf {kss:List (List Int)}{n:Nat}{p:Array Nat}(hp:Arr n p) (hs:qcC (ltK kss) p n):Srt (p.toList.map fun i=>kss.getD i []):=by
 unfold Srt
 rw [List.pairwise_map]
 refine qM.mpr fun i j hi hj hij=>?_
 have hj':j<n:=by
  have:=hp.size
  simp at hj
  omega
 have:=hs i j (yH hij) hj'
 unfold ltK at this
 have:=of_decide_eq_false this
 have e1:gD p i=p.toList[i]:=by simp at hi;simp [gD,hi]
 have e2:gD p j=p.toList[j]:=by simp at hj;simp [gD,hj]
 rw [e1,e2] at this
 exact this
def qlG (H:Hp) (Pv:V->List Int->Prop) (kss:List (List Int)) (Q:VK):Prop:=∀ D vs ms,H D=none->PySem.Paired Pv vs ms->ms.Perm kss->Srt ms->Q (.ref D) (upd H D (.lst vs))
theorem qcl {Q:VK}{x:Value}{Pv:V->List Int->Prop}{kss:List (List Int)}(I:Inv X pins σ H s) (q:qlG H Pv kss Q) {R:List Value->List (List Int)->Prop}
  (hR:∀ vs ms,R vs ms->(∀ v∈vs,∃ b ks,v=Value.ref b/\qaP X.K H (.ref b) ks/\Pv (.ref b) ks)/\ms.Perm kss) (hcol:∀ E',wpAny (model X.prog X.w) X.A.in1 (collect x) (qlM s R) E' s):wpAny (model X.prog X.w) X.A (call (.builtin "sorted") [x]) (EP X pins σ Q) X.xe s:=by
 refine qc0 hcol fun vs ms p h' tk D e hr hp hs hT hz kp hD he=>?_
 obtain ⟨r1,r2⟩:=hR vs ms hr
 obtain ⟨a1,a2⟩:=qgc hT hp
 have hV:∀ l:List Value,(∀ v∈l,∃ b ks,v=Value.ref b/\qaP X.K H (.ref b) ks/\Pv (.ref b) ks)->∃ ws:List V,yz ws l/\∀ ks,PySem.Paired (ju h') l ks->PySem.Paired Pv ws ks:=by
  intro l
  induction l with
  | nil=>exact fun _=>⟨[],.nil,fun ks z=>(by cases z;exact .nil)⟩
  | cons v l ih =>
   intro hl
   obtain ⟨ws,w1,w3⟩:=ih fun u hu=>hl u (qg _ hu)
   obtain ⟨b,ks,rfl,tn,pv⟩:=hl v ql
   refine ⟨.ref b::ws,.cons rfl w1,fun ks' z=>?_⟩
   cases z with
    | cons z1 z2 =>
     refine .cons ?_ (w3 _ z2)
     have k1:ju h' (.ref b) ks:=(I.tupK tn).kept fun c ob e _=>kp c ob e
     have:=(k1.key (prog:=X.prog) (w:=X.w)).inj (z1.key (prog:=X.prog) (w:=X.w))
     rw [<- this]
     exact pv
 obtain ⟨ws,w1,w3⟩:=hV (qcd vs p) fun v hv=>by
  obtain ⟨i,hi,rfl⟩:=qG.mp hv
  have hlt:i<vs.length:=by
   have:=(Array.Perm.mem_iff hp (a:=i)).mp (Array.mem_toList_iff.mp hi)
   simpa using this
  rw [qK,List.getElem?_eq_getElem hlt]
  exact r1 _ (qU hlt)
 have hwl:ws.length<=sizeLine:=by
  rw [w1.length,Z4 hp,sizeLine_eq]
  omega
 obtain ⟨hn,J⟩:=I.laidN (t':=tk) (o:=.lst ws) kp hD ⟨hwl,qcd vs p,e,w1,he⟩
 exact ⟨.ref D,_,J,rfl,q D ws _ hn (w3 _ a1) (a2.trans r2) (qjf hp hs)⟩
def qj1 (X:Cx):List V->Hp->VK->Prop:=fun xs H Q=>∃ (S:Addr) (bs:List (Addr×List Int)),xs=[.ref S]/\H S=some (qhT X.prog X.w S bs)/\InS X.K H bs/\bs.length<4900/\qlG H (fun v ks=>∃ b∈bs,v=V.ref b.1/\ks=b.2) (bs.map (·.2)) Q
theorem qcA (hc:X.calm=true):yL X (.builtin "sorted") (qj1 X):=by
 intro pins s σ H xs us Q I r h
 obtain ⟨S,bs,rfl,hS,hI,hl,q⟩:=h
 obtain ⟨u,rfl,rx⟩:=YS r
 cases rx
 obtain ⟨o,es,ep,t,m,D⟩:=I.setT hS hI
 have hz:=D.len
 rw [List.length_map] at hz
 refine qcl I q (R:=fun us ms=>(∀ v∈us,∃ b∈bs,v=Value.ref b.1)/\(bs.map (·.2)).Perm ms) ?_ fun E'=>qbm (by show X.A.handled=none;exact I.ok.hd hc) D.toB (by omega) fun h' tk kp=>?_
 ·rintro us ms ⟨h1,h2⟩
  refine ⟨fun v hv=>?_,h2.symm⟩
  obtain ⟨b,hb,rfl⟩:=h1 v hv
  exact ⟨b.1,b.2,rfl,hI b hb,b,hb,rfl,rfl⟩
 ·obtain ⟨ms,m1,m2⟩:=qa4 (Y0 X.w S ep es).symm D.en
  refine ⟨h',tk,ms,rfl,kp,?_,?_,?_,m2⟩
  ·have:∀ {l:List (Int×Value)}{ks:List (List Int)},PySem.Paired (Z6 X.prog X.w s.heap) l ks->PySem.Paired (ju h') (l.map (·.2)) ks:=by
    intro l ks z
    induction z with
    | nil=>exact .nil
    | cons r _ ih=>exact .cons (r.1.kept fun b o e _=>kp b o e) ih
   exact this m1
  ·rw [List.length_map,Array.length_toList,Jo];omega
  ·intro v hv
   obtain ⟨e,he,rfl⟩:=qG.mp hv
   exact D.own e ((Y0 X.w S ep es).mem_iff.mp he)
def qe4 (ks:List Int):PyData:=.tuple (ks.map PyData.int)
variable {K:W.Frag}
theorem IsAll.tups {H:Hp}:∀ {us:List V}{kss:List (List Int)},IsAll K H us (kss.map qe4)->(∀ k∈kss,k≠[])->PySem.Paired (qaP K H) us kss
 | _,[],.nil,_=>.nil
 | _,k::kss,.cons h t,hn=>by
  refine .cons ?_ (IsAll.tups t fun z hz=>hn z (qg _ hz))
  unfold qe4 at h
  cases h with
  | @tup a xs _ h1 h2 =>
   rw [h2.ints_of] at h1
   exact ⟨⟨a,rfl,h1⟩,hn _ ql⟩
theorem qaP.is {H:Hp}{v:V}{ks:List Int}(h:qaP K H v ks):Is K H v (qe4 ks):=by
 obtain ⟨⟨a,rfl,h1⟩,_⟩:=h
 exact .tup h1 (IsAll.ints ks)
theorem qaP.up {μ:Mu}{H:Hp}{v:V}{ks:List Int}(h:qaP K (mask μ H) v ks):qaP K H v ks:=h.same yN
def qhO (P:Program) (w:World) (K:W.Frag) (ms:List (List Int)):Stb where
 R v H:=∃ S bs,v = .ref S/\H S=some (qhT P w S bs)/\InS K H bs/\bs.map (·.2)=ms/\ms.Nodup/\ms.length<4915
 st:=fun v H H' s ⟨S,bs,e,h1,h2,h3,h4,h5⟩=>⟨S,bs,e,s _ _ h1,h2.same s,h3,h4,h5⟩
def qdl (P:Program) (w:World) (K:W.Frag):RAd:=fun es μ Q=>match es with
 | [e]=>∃ kss:List (List Int),LstOf μ e (kss.map qe4)/\(∀ k∈kss,k≠[])/\(∀ ms:List (List Int),ms.Nodup->(∀ q∈ms,q∈kss)->ms.length<4900)/\∀ ms,(∀ q,q∈ms ↔ q∈kss)->ms.Nodup->ms.length<4915->Q (.x (qhO P w K ms)) μ
 | _=>False
theorem qi1 {P:Program}{w:World}(hc:X.calm=true) (hu:X.A.units+64<cLine) (hK:X.K=K:=by rfl) (hP:X.prog=P:=by rfl) (hw:X.w=w:=by rfl):yL X (.type "set") (upC K (qdl P w K)):=by
 subst hK hP hw
 refine (qeG hc hu).mono fun xs H Q h=>?_
 obtain ⟨μ,es,Q0,M,hp,q,cl⟩:=h
 unfold qdl at q
 split at q
 ·obtain ⟨v,rfl,i1⟩:=JY hp
  obtain ⟨kss,h1,hne,h64,q⟩:=q
  obtain ⟨p,ys,rfl,h2,h3⟩:=h1.get M i1
  have hT:=IsAll.tups h3 hne
  refine ⟨p,ys,kss,rfl,h2,Yi hT (fun x _ y h=>h.up),h64,fun S bs hS _ ix mem nd lt=>?_⟩
  obtain ⟨M4,s4,hn⟩:=M.laid (o:=qhT X.prog X.w S bs) hS
  refine cl _ μ _ _ (q (bs.map (·.2)) mem nd (by rw [List.length_map];exact lt)) M4 s4 ⟨S,bs,rfl,?_,fun b hb=>?_,rfl,nd,by rw [List.length_map];exact lt⟩
  ·rw [yR hn];exact yf
  ·obtain ⟨i,e1,e2⟩:=ix b hb
   obtain ⟨ks,e3,tn⟩:=L2.Paired.get hT e1
   rw [e2] at e3
   cases e3
   exact tn.same s4
 ·exact q.elim
def qjS (P:Program) (w:World) (K:W.Frag):RAd:=fun es μ Q=>match es with
 | [e]=>∃ kss:List (List Int),LstOf μ e (kss.map qe4)/\(∀ k∈kss,k≠[])/\kss.length<4900/\∀ ms,(∀ q,q∈ms ↔ q∈kss)->ms.Nodup->ms.length<4915->Q (.x (qhO P w K ms)) μ
 | _=>False
theorem qll {P:Program}{w:World}(hc:X.calm=true) (hu:X.A.units+64<cLine) (hK:X.K=K:=by rfl) (hP:X.prog=P:=by rfl) (hw:X.w=w:=by rfl):yL X (.type "set") (upC K (qjS P w K)):=by
 refine (qi1 hc hu hK hP hw).mono fun xs H Q h=>?_
 obtain ⟨μ,es,Q0,M,hp,q,cl⟩:=h
 refine ⟨μ,es,Q0,M,hp,?_,cl⟩
 unfold qjS at q
 unfold qdl
 split at q
 ·obtain ⟨kss,h1,hne,h64,q⟩:=q
  exact ⟨kss,h1,hne,fun ms nd hm=>yD (Zn nd hm) h64,q⟩
 ·exact q
def qh0 (P:Program) (w:World) (K:W.Frag):RAd:=fun es μ Q=>∃ ms,es=[.x (qhO P w K ms)]/\ms.length<4900/\∀ ks,ks.Perm ms->Srt ks->Q (.d (.list (ks.map qe4))) μ
theorem qbO {Pv:V->List Int->Prop}{H:Hp}:∀ {vs:List V}{ms:List (List Int)},PySem.Paired Pv vs ms->(∀ v k,Pv v k->Is K H v (qe4 k))->IsAll K H vs (ms.map qe4)
 | _,_,.nil,_=>.nil
 | _,_,.cons h t,f=>.cons (f _ _ h) (qbO t f)
theorem qf0 {P:Program}{w:World}(hc:X.calm=true) (hK:X.K=K:=by rfl) (hP:X.prog=P:=by rfl) (hw:X.w=w:=by rfl):yL X (.builtin "sorted") (upC K (qh0 P w K)):=by
 subst hK hP hw
 refine (qcA hc).mono fun xs H Q h=>?_
 obtain ⟨μ,es,Q0,M,hp,q,cl⟩:=h
 obtain ⟨ms,rfl,h64,q⟩:=q
 obtain ⟨v,rfl,i1⟩:=JY hp
 obtain ⟨S,bs,rfl,h1,h2,rfl,h4,h5⟩:=i1
 rw [List.length_map] at h64
 refine ⟨S,bs,rfl,yN _ _ h1,fun b hb=>(h2 b hb).up,h64,fun D vs ks hD hP hp hs=>?_⟩
 obtain ⟨M4,s4,hn⟩:=M.laid (o:=.lst vs) hD
 refine cl _ μ _ _ (q ks hp hs) M4 s4 (.lst (SqL.of (by rw [yR hn];exact yf)) (qbO hP fun v k hv=>?_))
 obtain ⟨b,hb,rfl,rfl⟩:=hv
 exact ((h2 b hb).same s4).is
end
open PySem PySem.Spec PyProof.Rows
theorem Room.u66 {k:Nat}{A:Around}(r:Room k A):A.units+66<cLine:=by have:=r.un;omega
section
variable {X:Cx}{K:W.Frag}
theorem LstOf.is {μ:Mu}{e:En}{ds:List PyData}{H:Hp}{v:V}(h:LstOf μ e ds) (M:RelM K μ H) (i:IsE K μ H v e):Is K H v (.list ds):=by
 obtain ⟨p,xs,rfl,h1,h2⟩:=h.get M i
 exact .lst h1 (IsAll.same yN h2)
end
section
variable {X:Cx}{pins:List (Addr×Obj)}{σ:St}{H:Hp}{s:Shared}
end
section
variable {X:Cx}{K:W.Frag}
def qen (ds:List PyData):List PyData:=(List.range ds.length).map fun (i:Nat)=>.tuple [.int (i:Int),ds.getD i .none]
def itE (e:En) (ds:List PyData):Itd:=⟨ds.length,fun i=>.d (.tuple [.int (i:Int),ds.getD i .none]),fun μ=>LstOf μ e ds⟩
theorem qaz (ds:List PyData):(qen ds).length=ds.length:=by simp [qen]
theorem qem {ds:List PyData}{i:Nat}{x:PyData}(h:ds[i]?=some x):(qen ds)[i]?=some (.tuple [.int (i:Int),x]):=by
 have hi:i<ds.length:=(qp.mp h).1
 unfold qen
 rw [List.getElem?_map,List.getElem?_range hi,<- jq h]
 rfl
theorem Src.e {e:En}{ds:List PyData}{μ:Mu}(h:LstOf μ e ds):Src (itE e ds) (qen ds) μ:=by
 refine ⟨(qaz ds).symm,fun i x q=>?_,h⟩
 have hi:i<ds.length:=by
  have:=(qp.mp q).1
  rwa [qaz] at this
 rw [qem (List.getElem?_eq_getElem hi)] at q
 cases q
 show En.d (.tuple [.int (i:Int),ds.getD i .none])=_
 rw [jq (List.getElem?_eq_getElem hi)]
end
section
variable {prog:Program}{w:World}{A:Around}{R:Result->Shared->Prop}{s:Shared}
abbrev two (elt t1 i1 t2 i2:Expr) (f1 f2:List Expr) (scope:Scope) (pos:Pos):Expr:=.ListComp elt [⟨t1,i1,f1,0⟩,⟨t2,i2,f2,0⟩] scope pos
end
section
variable {X:Cx}
end
section
variable {X:Cx}{K:W.Frag}{tg iter tg2 iter2:Expr}{pos:Pos}
end
end L2
namespace PySem
open Sem (wp)
section
variable {prog:Program}{w:World}{A:Around}{E:Value->Shared->Prop}{s:Shared}
end
structure Nx (prog:Program) (w:World) (A:Around) (fr:List Addr) (it:Addr) (st:Nat->Heap->Prop) (xs:Array Value):Prop where
 mem:it∈fr
 obj:∀ i h,st i h->∃ o,h.get? it=some o/\∀ v,o.data≠.cell v
 keep:∀ i h h',st i h->(∀ b∈fr,∀ o,h.get? b=some o->h'.get? b=some o)->st i h'
 item:∀ (i:Nat) (s:Shared) (x:Value) (Q:Value->Shared->Prop) (E:Value->Shared->Prop),st i s.heap->xs[i]?=some x →
  (∀ h',st (i+1) h'->Heap.SameBut it s.heap h'->Q x { s with heap:=h' })->wpAny (model prog w) A (Builtin.SmallTypes.nextOf (.ref it)) Q E s
 stop:∀ (i:Nat) (s:Shared) (Q:Value->Shared->Prop) (E:Value->Shared->Prop),st i s.heap->xs[i]?=none →
  (∀ h' e,Heap.ExtBut it s.heap h'->(∃ o,h'.get? e=some o/\o.cls = .type "StopIteration")->E (.ref e) { s with heap:=h' })->wpAny (model prog w) A (Builtin.SmallTypes.nextOf (.ref it)) Q E s
structure ZAp (z TI TO i1 i2:Addr) (f1 f2:List Addr):Prop where
 TIz:TI≠z
 TOz:TO≠z
 TITO:TI≠TO
 z1:z∉f1
 z2:z∉f2
 o1:TO∉f1
 o2:TO∉f2
 t1:TI≠i1
 t2:TI≠i2
 a12:i1∉f2
 a21:i2∉f1
section
variable {prog:Program}{w:World}{A:Around}{E:Value->Shared->Prop}{s:Shared}{z TI TO i1 i2:Addr}{f1 f2:List Addr}{s1 s2:Nat->Heap->Prop}{xs ys:Array Value}{k1 k2:Nat}{x y a b:Value}
end
section
variable {prog:Program}{w:World}{A:Around}{E:Value->Shared->Prop}{s:Shared}
end
end PySem
namespace L2
open PySem PySem.Spec PyProof.Rows
section
variable {X:Cx}{K:W.Frag}
def itZ (ds es:List PyData):Itd:=⟨min ds.length es.length,fun i=>.d (.tuple [ds.getD i .none,es.getD i .none]),fun _=>True⟩
def zipD (ds es:List PyData):List PyData:=List.zipWith (fun a b=>.tuple [a,b]) ds es
theorem Src.z {ds es:List PyData}{μ:Mu}:Src (itZ ds es) (zipD ds es) μ:=by
 refine ⟨by simp [zipD,itZ],fun i x q=>?_,trivial⟩
 unfold zipD at q
 rw [List.getElem?_zipWith] at q
 show En.d (.tuple [ds.getD i .none,es.getD i .none])=_
 cases e1:ds[i]? with
 | none=>rw [e1] at q;simp at q
 | some a =>
  cases e2:es[i]? with
  | none=>rw [e1,e2] at q;simp at q
  | some b =>
   rw [e1,e2] at q
   rw [jq e1,jq e2]
   exact congrArg En.d (by simpa using q)
end
theorem JA:∀ {ns:List Int}{its:List Value},yz (ns.map V.int) its->∃ xs:List (Int×Tok),its=xs.map (fun p=>.int p.1 p.2)/\xs.map Prod.fst=ns
 | [],_,.nil=>⟨[],rfl,rfl⟩
 | n::ns,_,.cons r t=>by
  obtain ⟨u,rfl⟩:=r
  obtain ⟨xs,rfl,e⟩:=JA t
  exact ⟨(n,u)::xs,rfl,by simp [e]⟩
section
variable {X:Cx}{K:W.Frag}
theorem qeJ (hc:X.calm=true):yL X (.builtin "max") (fun xs H Q=>∃ p ns,xs=[.ref p]/\SqL X.K H p (ns.map V.int)/\ns≠[]/\∀ m:Int,m∈ns->(∀ a∈ns,a<=m)->Q (.int m) H):=by
 intro pins s σ H xs us Q I r h
 obtain ⟨p,ns,rfl,hq,hne,q⟩:=h
 obtain ⟨u,rfl,rx⟩:=YS r
 cases rx
 obtain ⟨its,rv,pl,_⟩:=I.list hq
 obtain ⟨ys,rfl,e⟩:=JA rv
 have hl:s.heap.IsList p (intItems ys.toArray):=by
  have:=pl.isList
  simpa [intItems] using this
 have hn:0<ys.length:=by
  have:=yt.mpr hne
  rw [<- e,List.length_map] at this
  exact this
 refine max_intList (I.ok.hd hc) hl (by simpa using hn) fun v h' tk hv hk=>?_
 obtain ⟨t,rfl⟩:=intItems_at hv
 obtain ⟨h1,h2⟩:=argBest_gt (numAt ys.toArray) (ys.toArray.size - 1)
 have na:∀ j,j<ys.length->∃ z,ns[j]?=some z/\numAt ys.toArray j=z:=fun j hj=>by
  refine ⟨ys[j].1,by rw [<- e];simp [hj],by simp [numAt,hj]⟩
 refine ⟨.int _,H,I.kept hk,⟨_,rfl⟩,q _ ?_ fun a ha=>?_⟩
 ·have h0:argBest (fun i j=>decide (numAt ys.toArray i > numAt ys.toArray j)) (ys.toArray.size - 1)<ys.length:=by
   simp only [List.size_toArray] at h1 ⊢;omega
  obtain ⟨z,e1,e2⟩:=na _ h0
  rw [e2]
  exact List.mem_of_getElem? e1
 ·obtain ⟨j,hj⟩:=List.mem_iff_getElem?.mp ha
  have hj2:j<ys.length:=by
   have:=(qp.mp hj).1
   rwa [<- e,List.length_map] at this
  obtain ⟨z,e1,e2⟩:=na j hj2
  rw [hj] at e1
  cases e1
  rw [<- e2]
  exact h2 j (by simp only [List.size_toArray];omega)
def qgU:RAd:=fun es μ Q=>match es with
 | [e]=>∃ ns:List Int,LstOf μ e (ns.map PyData.int)/\ns≠[]/\∀ m:Int,m∈ns->(∀ a∈ns,a<=m)->Q (.d (.int m)) μ
 | _=>False
theorem qbi (hc:X.calm=true) (hK:X.K=K:=by rfl):yL X (.builtin "max") (upC K qgU):=by
 subst hK
 refine (qeJ hc).mono fun xs H Q h=>?_
 obtain ⟨μ,es,Q0,M,hp,q,cl⟩:=h
 unfold qgU at q
 split at q
 ·obtain ⟨v,rfl,i1⟩:=JY hp
  obtain ⟨ns,h1,hne,q⟩:=q
  obtain ⟨p,ys,rfl,h2,h3⟩:=h1.get M i1
  rw [h3.ints_of] at h2
  exact ⟨p,ns,rfl,h2,hne,fun m h4 h5=>cl _ μ _ _ (q m h4 h5) M (yc.refl _) (.int _)⟩
 ·exact q.elim
end
section
variable {X:Cx}{K:W.Frag}{pos:Pos}
end
section
variable {X:Cx}{K:W.Frag}{pins:List (Addr×Obj)}{σ:List (Option V)}{H:Hp}{s:Shared}
end
section
variable {X:Cx}{K:W.Frag}{pos:Pos}
theorem IsAll.set {H:Hp}{v:V}{d:PyData}(h:Is K H v d):∀ {vs:List V}{ds:List PyData}(j:Nat),IsAll K H vs ds->IsAll K H (vs.set j v) (ds.set j d)
 | _,_,_,.nil=>.nil
 | _,_,0,.cons _ r=>.cons h r
 | _,_,j+1,.cons i r=>.cons i (IsAll.set h j r)
end
section
variable {X:Cx}{K:W.Frag}{pos:Pos}
def dgPut (to ti:TEd):TGd:=fun e ρ μ R=>to ρ μ fun o μ1=>ti ρ μ1 fun i μ2=>match e,o,i with
 | .d d,.m p,.d (.int k)=>∃ μ3 μ4 ds,μ2=μ3++(p,.lst ds)::μ4/\0<=k/\k.toNat<ds.length/\R ρ (μ3++(p,.lst (ds.set k.toNat d))::μ4)
 | _,_,_=>False
theorem qlj {o i:Expr}{to ti:TEd}(ho:DE K X o to) (hi:DE K X i ti)
  (ha:∀ v,assign (.Subscript o i pos) X.env v=(do
   let ov <- holding [v] (eval o X.env)
   let iv <- holding [v,ov] (eval i X.env)
   standAt pos
   holding [v,ov,iv] (setItem ov iv v)
   release [v,ov,iv] []):=by intro _;rfl):DG K X (.Subscript o i pos) (dgPut to ti):=by
 refine PG.mono (qdE ho hi ZB ha) fun v σ H Q hq9=>?_
 obtain ⟨e,ρ,μ,Q0,i0,hS,hM,h,cl⟩:=hq9
 refine ⟨ρ,μ,_,hS,hM,h,fun o μ1 v1 H1 q M1 s1 i1=>⟨ρ,μ1,_,hS.same s1,M1,q,fun i μ2 v2 H2 q2 M2 s2 i2=>?_⟩⟩
 split at q2
 ·rename_i d p k
  have i1:v1 = .ref p:=i1
  subst i1
  cases i2
  obtain ⟨μ3,μ4,ds,rfl,hk,hlt,q2⟩:=q2
  obtain ⟨xs,ex,hA⟩:=M2.ob p (.lst ds) (by simp)
  have i0':=i0.same (s1.trans s2)
  have hx:ixN xs.length k=some k.toNat:=by
   unfold ixN
   rw [if_pos hk,if_pos (by rw [hA.len];omega)]
  refine ⟨p,xs,k,k.toNat,rfl,rfl,ex,hx,?_⟩
  obtain ⟨M4,s4⟩:=M2.write (H':=upd H2 p (.lst (xs.set k.toNat v))) (o':=.lst (ds.set k.toNat d)) (fun b u e n=>by rw [ya n];exact e) fun ss=>⟨_,yf,IsAll.set (Is.same ss i0') _ (IsAll.same ss hA)⟩
  exact cl _ _ _ _ q2 (hS.same ((s1.trans s2).trans s4)) M4 ((s1.trans s2).trans s4)
 ·exact q2.elim
end
section
variable {X:Cx}{K:W.Frag}
theorem YZ:∀ (ys:List (Int×Tok)) (n:Nat),n<=ys.length->preSum (numAt ys.toArray) n=((ys.map Prod.fst).take n).sum
 | ys,0,_=>by simp [preSum]
 | ys,n+1,h=>by
  have hn:n<(ys.map Prod.fst).length:=by rw [List.length_map];omega
  rw [preSum,YZ ys n (by omega),List.take_add_one,List.getElem?_eq_getElem hn,ja]
  simp [numAt,show n<ys.length by omega]
theorem qeF (hc:X.calm=true):yL X (.builtin "sum") (fun xs H Q=>∃ (p:Addr) (ns:List Int),xs=[.ref p]/\SqL X.K H p (ns.map V.int)/\Q (.int ns.sum) H):=by
 intro pins s σ H xs us Q I r h
 obtain ⟨p,ns,rfl,hq,q⟩:=h
 obtain ⟨u,rfl,rx⟩:=YS r
 cases rx
 obtain ⟨its,rv,pl,_⟩:=I.list hq
 obtain ⟨ys,rfl,e⟩:=JA rv
 have hl:s.heap.IsList p (intItems ys.toArray):=by
  have:=pl.isList
  simpa [intItems] using this
 refine sum_intListG (I.ok.hd hc) hl fun h' tk t' hk=>?_
 have es:preSum (numAt ys.toArray) ys.toArray.size=ns.sum:=by
  rw [List.size_toArray,YZ ys _ (qj _),<- e,List.take_of_length_le (by rw [List.length_map];exact qj _)]
 rw [es]
 exact ⟨.int _,H,I.kept hk,⟨_,rfl⟩,q⟩
def qgS:RAd:=fun es μ Q=>match es with
 | [e]=>∃ ns:List Int,LstOf μ e (ns.map PyData.int)/\Q (.d (.int ns.sum)) μ
 | _=>False
theorem qev (hc:X.calm=true) (hK:X.K=K:=by rfl):yL X (.builtin "sum") (upC K qgS):=by
 subst hK
 refine (qeF hc).mono fun xs H Q h=>?_
 obtain ⟨μ,es,Q0,M,hp,q,cl⟩:=h
 unfold qgS at q
 split at q
 ·obtain ⟨v,rfl,i1⟩:=JY hp
  obtain ⟨ns,h1,q⟩:=q
  obtain ⟨p,ys,rfl,h2,h3⟩:=h1.get M i1
  rw [h3.ints_of] at h2
  exact ⟨p,ns,rfl,h2,cl _ μ _ _ q M (yc.refl _) (.int _)⟩
 ·exact q.elim
theorem qhr:bootBuiltins "sum" = some (.builtin "sum"):=by decide +kernel
theorem qbn:bootBuiltins "reversed" = some (.type "reversed"):=by decide +kernel
variable {pos:Pos}{tr:TAd}
def dPop (to:TEd):TEd:=fun ρ μ Q=>to ρ μ fun x μ1=>match x with
 | .m p=>∃ μ3 μ4 ds z,μ1=μ3++(p,.lst (ds++[z]))::μ4/\Q (.d z) (μ3++(p,.lst ds)::μ4)
 | _=>False
theorem qcr {H:Hp}{xs:List V}{ds:List PyData}{z:PyData}(h:IsAll K H xs (ds++[z])):∃ ys v,xs=ys++[v]/\IsAll K H ys ds/\Is K H v z:=by
 induction ds generalizing xs with
 | nil =>
  cases h with
  | cons a b =>
   cases b
   exact ⟨[],_,rfl,.nil,a⟩
 | cons d ds ih =>
  cases h with
  | cons a b =>
   obtain ⟨ys,v,rfl,h1,h2⟩:=ih b
   exact ⟨_::ys,v,rfl,.cons a h1,h2⟩
theorem d_pop {o:Expr}{to:TEd}{p1:Pos}(ho:DE K X o to) (hK:X.K=K:=by rfl)
  (h:PE X (.Call (.Attribute o "pop" p1) [] [] pos) (tBM0 X.K "list" rPop (up K to))):DE K X (.Call (.Attribute o "pop" p1) [] [] pos) (dPop to):=by
 subst hK
 refine PE.mono h fun σ H Q hq9=>?_
 obtain ⟨ρ,μ,Q0,hS,hM,h,cl⟩:=hq9
 refine ⟨ρ,μ,_,hS,hM,h,fun x μ1 v H1 q M1 s1 i1=>?_⟩
 split at q
 ·rename_i x' p
  obtain ⟨μ3,μ4,ds,z,rfl,q⟩:=q
  have i1:v=_:=i1
  subst i1
  obtain ⟨xs0,e0,hA⟩:=M1.ob p (.lst (ds++[z])) (by simp)
  obtain ⟨ys,y,rfl,h1,h2⟩:=qcr hA
  refine ⟨.inl ⟨rfl,_,SqL.of e0⟩,p,ys++[y],y,rfl,rfl,e0,by simp,?_⟩
  rw [List.dropLast_concat]
  obtain ⟨M3,s3⟩:=M1.write (H':=upd H1 p (.lst ys)) (o':=.lst ds) (fun b u e n=>by rw [ya n];exact e) fun ss=>⟨_,yf,IsAll.same ss h1⟩
  exact cl _ _ y _ q M3 (s1.trans s3) (Is.same s3 h2)
 ·exact q.elim
end
namespace F2
theorem nolen_lr:typeLookup (.type "list_reverseiterator") "__len__" = pure none:=by rw [typeLookup_type,builtinLookup_eq_fast];kernel_rfl
theorem hint_lr:typeLookup (.type "list_reverseiterator") "__length_hint__" = pure (some (.builtin "list_reverseiterator.__length_hint__")):=by rw [typeLookup_type,builtinLookup_eq_fast];kernel_rfl
end F2
section
variable {prog:Program}{w:World}{A:Around}{s:Shared}{R:Result->Shared->Prop}
variable {I:Addr}{fp wr:List Addr}{G:Array GenState->Array GenState->Prop}{n:Nat}{P:Nat->Value->Prop}{St:Nat->Shared->Prop}
theorem qct (W:WalksS prog w A.in1 I fp wr G n P St) (hT:∀ i s,St i s->s.TypeIs (.ref I) "list_reverseiterator") (S:Addr) (res:Value) (c₀:Nat) (hst:St 0 s) (hSf:S∉fp) (hI:I∈fp)
  (hS:s.heap.get? S=some { cls:=.type "list",data:=.seq #[] c₀ })
  (hR:∀ s' acc' c',Moved (S::wr) G s s'->s'.heap.get? S=some { cls:=.type "list",dict:=none,data:=.seq acc' c',slots:=#[] }->ItemsOf P acc' n->R (.ok (.ret res)) s') (hn:n<=sizeLine) :
  wpAny (model prog w) A.in1 (Builtin.List.listExtendWith (.ref S) (.ref I) res)
   (fun fin s'=>match fin with | .done f=>R (.ok f) s' | .again c'=>c'.quiet=true/\codeAny (model prog w) A c' R s') (fun e s'=>R (.error e) s') s:=by
 have hSI:S≠I:=fun e=>hSf (e ▸ hI)
 unfold Builtin.List.listExtendWith
 refine qb (wpAny_typeOf (hT 0 _ hst) ?_)
 have h1:Builtin.List.listSameRef (.ref S) (.ref I)=false:=by simp [Builtin.List.listSameRef,hSI]
 rw [if_neg (by rw [h1];decide)]
 refine qb (W.self 0 _ _ _ hst ?_)
 refine qb (yq ?_)
 unfold Builtin.List.listLengthHint
 refine qb (wpAny_specialOf (hT 0 _ hst) F2.nolen_lr ?_)
 show wpAny _ A.in1 (specialOf (Value.ref I) (Str.ofString "__length_hint__") >>= _) _ _ _
 refine qb (wpAny_specialOf (hT 0 _ hst) F2.hint_lr ?_)
 generalize hid:("list_reverseiterator.__length_hint__" : String)=id0
 wp_delta
 rw [show splitId id0=some ("list_reverseiterator", "__length_hint__") from by subst hid;decide +kernel]
 subst hid
 refine qb (wpAny_isInstance (b:=true) (hT 0 _ hst) (by rw [isSubtype_type];kernel_rfl) ?_)
 refine qe ?_
 rw [if_neg (by decide)]
 exact qe ⟨plainId_quiet PySem.F.plain_extend_loop _,codeAny_extend_loopS W hn _ hSf _ n 0 _ _ _ rfl (qZ _) hst hS (ItemsOf.nil P) hR⟩
end
section
variable {prog:Program}{w:World}{A:Around}{E:Value->Shared->Prop}{s:Shared}
theorem ZX {I l:Addr}{items:Array Value}{Q:Value->Shared->Prop}(hh:A.handled=none) (hI:s.heap.IsRevIter I l ((items.size:Int) - 1)) (hl:s.heap.IsList l items) (hne:l≠I) (hn:items.size<=sizeLine)
  (hQ:∀ h' tk acc' c',(∀ b o,b≠I->s.heap.get? b=some o->h'.get? b=some o)->h'.get? s.heap.objs.size=some { cls:=.type "list",dict:=none,data:=.seq acc' c',slots:=#[] }->acc'.toList=items.toList.reverse->Q (.ref s.heap.objs.size) { s with heap:=h',toks:=tk }) :
  wpAny (model prog w) A (call (.type "list") [.ref I]) Q E s:=by
 have hIl:I<s.heap.objs.size:=by obtain ⟨o,ho,_⟩:=hI;exact qi ho
 have hll:l<s.heap.objs.size:=by obtain ⟨o,ho,_⟩:=hl;exact qi ho
 have W:=Walks.listRev (prog:=prog) (w:=w) (A:=A.in1.in1) hh I l hne items
 have hSf:s.heap.objs.size∉[I,l]:=by
  simp only [List.mem_cons,List.not_mem_nil,or_false,not_or]
  exact ⟨Nat.ne_of_gt hIl,Nat.ne_of_gt hll⟩
 refine callType_codes (Q₁:=fun obj s₁=>obj = .ref s.heap.objs.size/\s₁={ s with heap:=s.heap.push { cls:=.type "list",data:=.seq #[] } }) PySem.F.called_list (PySem.F.typeCall_list_1 _) PySem.F.entry_list_init
  (code_list_new _ ⟨rfl,rfl⟩) fun obj s₁ h₁=>?_
 obtain ⟨rfl,rfl⟩:=h₁
 have hS:(s.heap.push { cls:=.type "list",data:=.seq #[] }).get? s.heap.objs.size=some { cls:=.type "list",data:=.seq #[] }:=qC _ rfl
 refine ⟨⟨_,hS,rfl⟩,PySem.F.args_list_init_2 _ _,?_⟩
 show wpAny _ A.in1.in1 (do let old <- Builtin.List.listItems (.ref s.heap.objs.size);Builtin.List.listUpdate (.ref s.heap.objs.size) (fun _=>#[]);letGo old.toList.reverse;Builtin.List.listExtendWith (.ref s.heap.objs.size) (.ref I) .none) _ _ _
 refine qb ?_
 unfold Builtin.List.listItems
 refine qb (wpAny_seqItems hS rfl (qe ?_))
 show wpAny _ A.in1.in1 (updateSeq s.heap.objs.size (fun _=>#[]) >>= fun _=>letGo (#[]:Array Value).toList.reverse >>= fun _=>Builtin.List.listExtendWith (.ref s.heap.objs.size) (.ref I) .none) _ _ _
 refine qb (wpAny_updateSeq hS rfl ?_)
 have hS₂:=jp (Obj.mapSeq (fun _=>(#[]:Array Value))) hS rfl
 have oth:∀ b o,b≠s.heap.objs.size->(s.heap.push { cls:=.type "list",data:=.seq #[] }).get? b=some o->((s.heap.push { cls:=.type "list",data:=.seq #[] }).update s.heap.objs.size (Obj.mapSeq (fun _=>(#[]:Array Value)))).get? b=some o :=
  fun b o hb e=>(yK _ _ (Ne.symm hb)).trans e
 have old:∀ b o,s.heap.get? b=some o->((s.heap.push { cls:=.type "list",data:=.seq #[] }).update s.heap.objs.size (Obj.mapSeq (fun _=>(#[]:Array Value)))).get? b=some o :=
  fun b o e=>oth b o (qz (qi e)) (qc _ e)
 refine qb (wpAny_letGo ?_)
 refine qct W.toS (fun i u st=>st.2.1.typeIs) s.heap.objs.size .none _ ?_ hSf ql hS₂ (fun s' acc' c' hm hS' hacc=>⟨rfl,?_⟩) hn
 ·refine ⟨qZ _,?_,hl.at fun o e=>old l o e⟩
  have:=hI.at fun o e=>old I o e
  simpa using this
 ·have hm1:=hm.heap
  obtain ⟨h',g',d',t',o'⟩:=s'
  obtain ⟨m1,m2,m3,m4,m5⟩:=hm
  have m2:g'=s.gens:=m2
  have m3:d'=s.drawn:=m3
  have m4:o'=s.os:=m4
  subst m2 m3 m4
  refine hQ h' t' acc' c' (fun b o hb e=>m1 b o (by simp only [List.mem_cons,List.not_mem_nil,or_false,not_or];exact ⟨qz (qi e),hb⟩) (old b o e)) hS' ?_
  apply List.ext_getElem?
  intro j
  rw [qk]
  by_cases hj:j<items.size
  ·have hj2:j<acc'.size:=by rw [hacc.1];exact hj
   have e1:=hacc.2 j _ (jw hj2)
   rw [jw hj2,List.getElem?_reverse (by simpa using hj),qk,Array.length_toList]
   exact e1.symm
  ·rw [ye (by rw [hacc.1];omega),List.getElem?_eq_none (by simp;omega)]
end
theorem yz.rev:∀ {xs:List V}{us:List Value},yz xs us->yz xs.reverse us.reverse
 | [],[],.nil=>.nil
 | x::xs,u::us,.cons r t=>by
  rw [List.reverse_cons,List.reverse_cons]
  exact (yz.rev t).append (.cons r .nil)
section
variable {X:Cx}{K:W.Frag}{e:Expr}{te:TE}{p1 p2 p3 pos:Pos}
def tLRev (K:W.Frag) (te:TE):TE:=fun σ H Q=>te σ H fun v H1=>∃ p ys,v = .ref p/\SqL K H1 p ys/\∀ l,H1 l=none->Q (.ref l) (upd H1 l (.lst ys.reverse))
theorem qid (hc:X.calm=true) (hgl:Gl X "list") (hml:X.mg "list" = none) (hgr:Gl X "reversed") (hmr:X.mg "reversed" = none) (he:PE X e te)
  (h1:starEach [e] X.env=(false,eval e X.env)::starEach [] X.env:=by rfl)
  (h2:starEach [.Call (.Name "reversed" p2) [e] [] p3] X.env=(false,eval (.Call (.Name "reversed" p2) [e] [] p3) X.env)::starEach [] X.env:=by rfl) :
  PE X (.Call (.Name "list" p1) [.Call (.Name "reversed" p2) [e] [] p3] [] pos) (tLRev X.K te):=by
 intro pins s σ H Q I h
 refine wpAny_Call_Name_kw (Y3 I hgl hml Yt ?_ (by decide) (by decide))
 refine PyProof.Rows.callWith_type1 ?_ h2 rfl
 rw [h2]
 show wpAny _ _ (spliced ((false,eval (.Call (.Name "reversed" p2) [e] [] p3) X.env)::backTo pos (starEach [] X.env))) _ _ s
 refine Calls.spliced_cons ?_
 refine wpAny_Call_Name_kw (Y3 I hgr hmr qbn ?_ (by decide) (by decide))
 refine PyProof.Rows.callWith_type1 ?_ h1 rfl
 rw [h1]
 show wpAny _ _ (spliced ((false,eval e X.env)::backTo p3 (starEach [] X.env))) _ _ s
 refine Calls.spliced_cons (thn (he pins s σ H _ I h) fun u s1 ⟨x,H1,I1,r1,q1⟩=>?_)
 refine Calls.spliced_nil ?_
 obtain ⟨p,ys,rfl,hq,q⟩:=q1
 cases r1
 obtain ⟨its,rv,pl,hz⟩:=I1.list hq
 refine call_reversed_list pl.isList ?_
 refine Calls.spliced_nil ?_
 have hlt:p<s1.heap.objs.size:=by obtain ⟨o,ho,_⟩:=pl.isList;exact qi ho
 have hlen:=rv.length
 refine ZX (items:=its.toArray) (I1.ok.hd hc) ⟨_,qC _ rfl,rfl,rfl⟩ (pl.isList.at fun o e=>qc _ e) (qz hlt) (by rw [List.size_toArray];omega) fun h' tk acc' c' kp e ea=>?_
 have kp2:∀ b o,s1.heap.get? b=some o->h'.get? b=some o:=fun b o e=>kp b o (qz (qi e)) (qc _ e)
 refine ⟨.ref _,_,I1.laid (t':=tk) kp2 (a:=(s1.heap.push (revObj p ((its.toArray.size:Int) - 1))).objs.size) (by first | exact Nat.le_succ _ | (simp [Heap.push])) (show jT X.prog X.w _ h' _ (.lst ys.reverse) from ⟨?_,acc'.toList,c',?_,?_⟩),rfl,q _ (I1.hok.fresh (by first | exact Nat.le_succ _ | (simp [Heap.push])))⟩
 ·rw [List.length_reverse];exact hz
 ·rw [ea];exact yz.rev rv
 ·rw [e]
def dLRev (te:TEd):TEd:=fun ρ μ Q=>te ρ μ fun e μ1=>∃ ds,LstOf μ1 e ds/\Q (.d (.list ds.reverse)) μ1
theorem qhm {te:TEd}(hc:X.calm=true) (hgl:Gl X "list") (hml:X.mg "list" = none) (hgr:Gl X "reversed") (hmr:X.mg "reversed" = none) (he:DE K X e te) (hK:X.K=K:=by rfl)
  (h1:starEach [e] X.env=(false,eval e X.env)::starEach [] X.env:=by rfl)
  (h2:starEach [.Call (.Name "reversed" p2) [e] [] p3] X.env=(false,eval (.Call (.Name "reversed" p2) [e] [] p3) X.env)::starEach [] X.env:=by rfl) :
  DE K X (.Call (.Name "list" p1) [.Call (.Name "reversed" p2) [e] [] p3] [] pos) (dLRev te):=by
 subst hK
 refine PE.mono (qid hc hgl hml hgr hmr he h1 h2) fun σ H Q hq9=>?_
 obtain ⟨ρ,μ,Q0,hS,hM,h,cl⟩:=hq9
 refine ⟨ρ,μ,_,hS,hM,h,fun x μ1 v H1 q M1 s1 i1=>?_⟩
 obtain ⟨ds,hL,q⟩:=q
 obtain ⟨p,ys,rfl,h2,h3⟩:=hL.get M1 i1
 refine ⟨p,ys,rfl,h2,fun l hl=>?_⟩
 obtain ⟨M4,s4,hn⟩:=M1.laid (o:=.lst ys.reverse) hl
 exact cl _ μ1 _ _ q M4 (s1.trans s4) (.lst (SqL.of (by rw [yR hn];exact yf)) (IsAll.rev (IsAll.same s4 h3)))
theorem qaU {prog:Program}{w:World}{A:Around}{E:Value->Shared->Prop}{s:Shared}{l:Addr}{items:Array Value}{i:Nat}{Q:List Value->Shared->Prop}(hl:s.heap.IsList l items) (hh:A.handled=none) (hi:i<=items.size) (hz:items.size<=4000)
  (h:∀ D h' tk,(∀ b o,s.heap.get? b=some o->h'.get? b=some o)->s.heap.get? D=none->h'.get? D=some { cls:=.type "list",data:=.seq (items.toList.drop i).toArray }->Q (items.toList.take i++[.ref D]) { s with heap:=h',toks:=tk }) :
  wpAny (model prog w) A (unpackItems (.ref l) (i+1) (some i)) Q E s:=by
 have hlt:l≠s.heap.objs.size:=by obtain ⟨o,ho,_⟩:=hl;exact qz (qi ho)
 unfold unpackItems
 refine qb ?_
 unfold notIterableAtAll
 refine qb (wpAny_specialOf hl.typeIs slot_list_iter.lookup ?_)
 refine qe ?_
 simp only [Bool.false_eq_true,if_false]
 refine qb (yq (wpAny_pyIter_list hl ?_))
 refine qb (yq (W.kun_draw hlt i 0 _ _ ⟨_,qC _ rfl,rfl,rfl⟩ (hl.push _) (by omega) fun h₁ hit₁ hs₁=>?_))
 have hl₁:h₁.IsList l items:=(hl.push _).extBut hs₁.extBut hlt
 rw [Nat.zero_add] at hit₁
 have hit₁':=hit₁
 obtain ⟨oi,hoi,_⟩:=hit₁'
 have hl₁':=hl₁
 obtain ⟨ol,hol,_⟩:=hl₁'
 rw [List.drop_zero]
 have hfl:(items.toList.take i).length=i:=by rw [yb,Array.length_toList];omega
 rw [if_neg (show ¬ ((items.toList.take i).length<i) by rw [hfl];omega)]
 refine qb (yq (W.kun_collect (s:={ s with heap:=h₁ }) (T := "list_iterator") (.inr (.inr (.inl rfl))) (Walks.list (A:=A.in1) hh s.heap.objs.size l hlt items) (fun j u st=>st.1.typeIs) (k:=i) (by omega) ⟨hit₁,hl₁⟩ (qi hoi) (qi hol) (fun h₂ tk hk=>?_) (yH (jd hz))))
 show wpAny _ _ (if (items.toList.drop i).length<i+1 - 1 - i then _ else _) _ _ _
 rw [if_neg (by omega)]
 show wpAny _ _ (newList ((items.toList.drop i).take ((items.toList.drop i).length - (i+1 - 1 - i))) >>= fun d=>pure (items.toList.take i++[d]++(items.toList.drop i).drop ((items.toList.drop i).length - (i+1 - 1 - i)))) _ _ _
 have hmid:(items.toList.drop i).length - (i+1 - 1 - i)=(items.toList.drop i).length:=by omega
 rw [hmid,yh,List.drop_length]
 have he:∀ b o,s.heap.get? b=some o->h₂.get? b=some o:=fun b o e=>hk b o (qz (qi e)) (hs₁.extBut b o (qz (qi e)) (qc _ e))
 have hno:s.heap.get? h₂.objs.size=none:=by
  cases z:s.heap.get? h₂.objs.size with
  | none=>rfl
  | some o=>exact absurd (qi (he _ _ z)) (jo _)
 refine qb (wpAny_newObj_type (qe (by rw [List.append_nil];exact h _ _ tk (fun b o e=>qc _ (he b o e)) hno (qC _ rfl))) ?_)
 ·have:(items.toList.drop i).length<=4000:=by rw [yi,Array.length_toList];omega
  have:=jd this
  show ((items.toList.drop i).toArray).size<=_
  rw [List.size_toArray]
  omega
end
section
variable {X:Cx}{K:W.Frag}{pos:Pos}
def gStar (K:W.Frag) (i:Nat) (t:TGs):TG:=fun v σ H Q=>∃ p xs,v = .ref p/\SqL K H p xs/\i<=xs.length/\xs.length<=4000/\∀ D,H D=none->t (xs.take i++[.ref D]) σ (upd H D (.lst (xs.drop i))) Q
theorem qib {es:List Expr}{k:Nat}{t:TGs}{i:Nat}(hc:X.calm=true) (h:PGs X es t)
  (hn:(assignEach es X.env).length=i+1:=by rfl) (hst:(assignEach es X.env).findIdx? (·.1)=some i:=by rfl):PG X (.Tuple es k pos) (gStar X.K i t):=by
 intro pins s σ H v u Q I r hw
 obtain ⟨p,xs,rfl,hq,hi,hz,hw⟩:=hw
 cases r
 obtain ⟨its,rv,pl,_⟩:=I.list hq
 have hlen:=rv.length
 rw [assign_Tuple]
 refine qb (wpAny_standAt ?_)
 unfold unpack
 rw [hn,hst]
 refine qb (yq (qaU pl.isList (I.ok.hd hc) (by rw [List.size_toArray];omega) (by rw [List.size_toArray];omega) fun D h' tk kp hD e=>?_))
 obtain ⟨hN,I1⟩:=I.laidN (t':=tk) (a:=D) (o:=.lst (xs.drop i)) kp hD (show jT X.prog X.w _ h' _ (.lst (xs.drop i)) from ⟨by rw [yi];exact yH (jd (by omega)),its.drop i,_,rv.drop i,by rw [e]⟩)
 exact h pins _ σ _ _ _ Q I1 (by
  show yz (xs.take i++[.ref D]) (its.take i++[.ref D])
  exact (rv.take i).append (.cons rfl .nil)) (hw D hN)
theorem qfr {e:Expr}{p:Pos}{es:List Expr}{t:TG}{u:TGs}(h1:PG X e t) (h2:PGs X es u)
  (hs:(assignEach (.Starred e p::es) X.env).map (·.2)=assign e X.env::(assignEach es X.env).map (·.2):=by rfl):PGs X (.Starred e p::es) (qk6 t u):=by
 intro pins s σ H vs us Q I r h
 obtain ⟨v,vr,e1,h⟩:=h
 subst e1
 cases r with
 | cons r rr =>
  rw [hs]
  refine assignInOrder_cons (thn (h1 pins s σ H _ _ _ I r h) fun _ s1 ⟨σ1,H1,I1,q1⟩=>?_)
  exact h2 pins s1 σ1 H1 _ _ Q I1 rr q1
theorem qfW {e:Expr}{p:Pos}{es:List Expr}{t:TGd}{u:qeS}(h1:DG K X e t) (h2:DGs K X es u)
  (hs:(assignEach (.Starred e p::es) X.env).map (·.2)=assign e X.env::(assignEach es X.env).map (·.2):=by rfl):DGs K X (.Starred e p::es) (Yz t u):=PGs.mono (qfr h1 h2 hs) fun vs σ H Q ⟨ds,ρ,μ,Q0,i1,hS,hM,h,cl⟩=>by
 unfold Yz at h
 split at h
 ·cases i1 with
  | cons i1 i2 =>
   refine ⟨_,_,rfl,.d _,ρ,μ,_,i1,hS,hM,h,fun ρ' μ' σ' H' q S' M' s'=>?_⟩
   exact ⟨_,ρ',μ',Q0,IsAll.same s' i2,S',M',q,cl.same s'⟩
 ·exact h.elim
def qlk (i:Nat) (t:qeS):TGd:=fun e ρ μ Q=>∃ ds,LstOf μ e ds/\i<=ds.length/\ds.length<=4000/\t (ds.take i++[.list (ds.drop i)]) ρ μ Q
theorem qi0 {es:List Expr}{k:Nat}{t:qeS}{i:Nat}(hc:X.calm=true) (h:DGs K X es t) (hK:X.K=K:=by rfl)
  (hn:(assignEach es X.env).length=i+1:=by rfl) (hst:(assignEach es X.env).findIdx? (·.1)=some i:=by rfl):DG K X (.Tuple es k pos) (qlk i t):=by
 subst hK
 refine PG.mono (qib hc h hn hst) fun v σ H Q hq9=>?_
 obtain ⟨e,ρ,μ,Q0,i1,hS,hM,h,cl⟩:=hq9
 obtain ⟨ds,hL,hi,hz,h⟩:=h
 obtain ⟨p,xs,rfl,h2,h3⟩:=hL.get hM i1
 have hl:=h3.len
 refine ⟨p,xs,rfl,h2,by omega,by omega,fun D hD=>?_⟩
 obtain ⟨M4,s4,hn⟩:=hM.laid (o:=.lst (xs.drop i)) hD
 refine ⟨_,ρ,μ,Q0,IsAll.snoc (.lst (SqL.of (by rw [yR hn];exact yf)) (IsAll.drop i (IsAll.same s4 h3))) (IsAll.take i (IsAll.same s4 h3)),hS.same s4,M4,h,cl.same s4⟩
end
section
variable {X:Cx}{K:W.Frag}{pos:Pos}
end
end L2
namespace L2
def ac (a b c:Pt):Int:=(b.1 - a.1) * (c.2 - a.2) - (b.2 - a.2) * (c.1 - a.1)
def Ps (v:Pt):Prop:=0<v.1\/(v.1=0/\0<v.2)
def sb2 (p q:Pt):Pt:=(p.1 - q.1,p.2 - q.2)
theorem mulP {a b:Int}(hb:0<b) (h:0<a * b):0<a:=by
 rcases Int.lt_or_le 0 a with z | z
 ·exact z
 ·have:=Int.mul_le_mul_of_nonneg_right z (Int.le_of_lt hb)
  omega
theorem mulN {a b:Int}(hb:0<b) (h:0<=a * b):0<=a:=by
 rcases Int.lt_or_le a 0 with z | z
 ·have:=Int.mul_lt_mul_of_pos_right z hb
  omega
 ·exact z
theorem qbl (u v w:Pt):crs u w * v.1=crs u v * w.1+crs v w * u.1:=by unfold crs;grind
theorem qh3 {v:Pt}(h:Ps v):0<=v.1:=by rcases h with h | h <;> omega
theorem tr0 {u v w:Pt}(hu:Ps u) (hv:Ps v) (hw:Ps w) (h1:0<=crs u v) (h2:0<=crs v w):0<=crs u w:=by
 have id:=qbl u v w
 have ux:=qh3 hu
 have wx:=qh3 hw
 rcases hv with hv | ⟨v1,v2⟩
 ·have a:=jU h1 wx
  have b:=jU h2 ux
  exact mulN hv (by omega)
 ·unfold crs at h2 ⊢
  rw [v1] at h2
  have w1:w.1=0:=by
   rcases Int.lt_or_le 0 w.1 with z | z
   ·have:=yM v2 z
    omega
   ·omega
  have w2:0<w.2:=by rcases hw with hw | hw <;> omega
  rw [w1]
  have:=jU ux (Int.le_of_lt w2)
  omega
theorem tr1 {u v w:Pt}(hu:Ps u) (hv:Ps v) (hw:Ps w) (h1:0<crs u v) (h2:0<=crs v w):0<crs u w:=by
 have id:=qbl u v w
 have ux:=qh3 hu
 have wx:=qh3 hw
 have u1:0<u.1:=by
  rcases hu with hu | ⟨e1,e2⟩
  ·exact hu
  ·unfold crs at h1
   rw [e1] at h1
   have:=jU (Int.le_of_lt e2) (qh3 hv)
   omega
 rcases hw with hw | ⟨w1,w2⟩
 ·rcases hv with hv | ⟨v1,v2⟩
  ·have a:=yM h1 hw
   have b:=jU h2 ux
   exact mulP hv (by omega)
  ·unfold crs at h2
   rw [v1] at h2
   have:=yM v2 hw
   omega
 ·unfold crs
  rw [w1]
  have:=yM u1 w2
  omega
theorem tr2 {u v w:Pt}(hu:Ps u) (hv:Ps v) (hw:Ps w) (h1:0<=crs u v) (h2:0<crs v w):0<crs u w:=by
 have id:=qbl u v w
 have ux:=qh3 hu
 have wx:=qh3 hw
 have v1:0<v.1:=by
  rcases hv with hv | ⟨e1,e2⟩
  ·exact hv
  ·unfold crs at h2
   rw [e1] at h2
   have:=jU (Int.le_of_lt e2) wx
   omega
 rcases hu with hu | ⟨u1,u2⟩
 ·have a:=jU h1 wx
  have b:=yM h2 hu
  exact mulP v1 (by omega)
 ·unfold crs at h1
  rw [u1] at h1
  have:=yM u2 v1
  omega
theorem qgW (a b:Pt):a=b\/Ps (sb2 a b)\/Ps (sb2 b a):=by
 unfold Ps sb2
 dsimp only
 by_cases h:a=b
 ·exact .inl h
 ·refine .inr ?_
  have:¬ (a.1=b.1/\a.2=b.2):=fun z=>h (Prod.ext z.1 z.2)
  omega
theorem qco {a b:Pt}(h:Ps (sb2 a b)) (g:Ps (sb2 b a)):False:=by
 unfold Ps sb2 at *
 dsimp only at *
 omega
theorem qdt {a:Pt}(h:Ps (sb2 a a)):False:=qco h h
theorem qj8 {a b c:Pt}(h:Ps (sb2 a b)) (g:Ps (sb2 b c)):Ps (sb2 a c):=by
 unfold Ps sb2 at *
 dsimp only at *
 omega
theorem ac_e (a b c:Pt):ac a b c=crs (sb2 b a) (sb2 c b):=by unfold ac crs sb2;grind
theorem ac_w (a b c:Pt):ac a b c=crs (sb2 b c) (sb2 b a):=by unfold ac crs sb2;grind
theorem ql6 (a b c:Pt):ac a b c=ac b c a:=by unfold ac;grind
theorem ac_1 (a b:Pt):ac a b b=0:=by unfold ac;grind
theorem ql7 (a b:Pt):ac a b a=0:=by unfold ac;grind
theorem qhu (a b q r:Pt):ac a q r = - ac a b q+ac a b r+ac b q r:=by unfold ac;grind
theorem qlF (a b c:Pt):ac (-a.1,-a.2) (-b.1,-b.2) (-c.1,-c.2)=ac a b c:=by unfold ac;grind
def Gd (D:List Pt):List Pt->Prop
 | []=>D=[]
 | [a]=>a∈D/\∀ r∈D,r=a\/Ps (sb2 r a)
 | b::a::t=>b∈D/\Ps (sb2 b a)/\(∀ r∈D,0<=ac a b r)/\(∀ z∈t.head?,0<ac z a b)/\Gd D (a::t)
theorem Gd.mem {D:List Pt}{b:Pt}:∀ {t:List Pt},Gd D (b::t)->b∈D
 | [],h=>h.1
 | _::_,h=>h.1
def Yx (q:Pt):List Pt->List Pt
 | b::a::t=>if ac a b q<=0 then Yx q (a::t) else b::a::t
 | l=>l
theorem qdA {D:List Pt}{q:Pt}(hq:∀ r∈D,Ps (sb2 q r)):∀ {t:List Pt}{b:Pt},Gd D (b::t)->(∀ r∈D,Ps (sb2 r b)->0<=ac b q r) →
  ∃ b' t',Yx q (b::t)=b'::t'/\Gd D (b'::t')/\(∀ r∈D,Ps (sb2 r b')->0<=ac b' q r)/\∀ z∈t'.head?,0<ac z b' q
 | [],b,h,c=>⟨b,[],rfl,h,c,fun _ z=>by cases z⟩
 | a::t,b,h,c=>by
  unfold Yx
  by_cases z:ac a b q<=0
  ·rw [if_pos z]
   refine qdA hq h.2.2.2.2 fun r hr hra=>?_
   have e:=h.2.2.1 r hr
   rcases qgW r b with rfl | k | k
   ·have:=qhu a r q r
    rw [ac_1,show ac r q r=0 from ql7 _ _] at this
    omega
   ·have:=c r hr k
    have:=qhu a b q r
    omega
   ·-- a<r<b
    have g:=hq a h.2.2.2.2.mem
    have e1:0<=crs (sb2 q a) (sb2 b a):=by
     have:ac a b q = - crs (sb2 q a) (sb2 b a):=by unfold ac crs sb2;grind
     omega
    have e2:0<=crs (sb2 b a) (sb2 r a):=by
     have:ac a b r=crs (sb2 b a) (sb2 r a):=by unfold ac crs sb2;grind
     omega
    have:=tr0 g h.2.1 hra e1 e2
    have e3:ac a q r=crs (sb2 q a) (sb2 r a):=by unfold ac crs sb2;grind
    omega
  ·rw [if_neg z]
   refine ⟨b,a::t,rfl,h,c,fun y hy=>?_⟩
   cases hy
   omega
theorem qbe {D:List Pt}{q:Pt}:∀ {t:List Pt}{a b:Pt},Gd D (b::a::t)->Ps (sb2 q b)->0<ac a b q->∀ {X Y:List Pt}{x y:Pt},b::a::t=X++y::x::Y->0<ac x y q
 | t,a,b,_,_,h,[],Y,x,y,e=>by
  cases e
  exact h
 | [],a,b,_,_,_,c::X,Y,x,y,e=>by
  have:=congrArg List.length e
  simp at this
  omega
 | z::t,a,b,g,hq,h,c::X,Y,x,y,e=>by
  have e2:a::z::t=X++y::x::Y:=(List.cons.inj e).2
  have g2:=g.2.2.2.2
  have hz:=g.2.2.2.1 z rfl
  refine qbe g2 (qj8 hq g.2.1) ?_ e2
  rw [ac_e] at h hz
  have:=tr2 g2.2.1 g.2.1 hq (Int.le_of_lt hz) h
  have s:ac z a q=crs (sb2 a z) (sb2 b a)+crs (sb2 a z) (sb2 q b):=by unfold ac crs sb2;grind
  omega
theorem qg7 {D:List Pt}{q:Pt}(hq:∀ r∈D,Ps (sb2 q r)):∀ {t:List Pt}{b:Pt},Gd D (b::t)->(∀ z∈t.head?,0<ac z b q)->Gd (D++[q]) (b::t)
 | [],b,h,_=>⟨yE _ h.1,fun r hr=>by
   rcases List.mem_append.mp hr with z | z
   ·exact h.2 r z
   ·rw [qE.mp z];exact .inr (hq b h.1)⟩
 | a::t,b,h,k=>by
  have h0:=k a rfl
  refine ⟨yE _ h.1,h.2.1,fun r hr=>?_,h.2.2.2.1,qg7 hq h.2.2.2.2 fun z hz=>?_⟩
  ·rcases List.mem_append.mp hr with z | z
   ·exact h.2.2.1 r z
   ·rw [qE.mp z];omega
  ·cases t with
   | nil=>cases hz
   | cons y t =>
    cases hz
    exact qbe h (hq b h.1) h0 (X:=[b]) (Y:=t) rfl
theorem qh2 {D S:List Pt}{q:Pt}(hq:∀ r∈D,Ps (sb2 q r)) (hS:Gd D S) (ht:∀ b∈S.head?,∀ r∈D,r=b\/Ps (sb2 b r)):Gd (D++[q]) (q::Yx q S):=by
 cases S with
 | nil =>
  have hD:D=[]:=hS
  subst hD
  exact ⟨by simp,fun r hr=>.inl (by simpa using hr)⟩
 | cons b t =>
  obtain ⟨b',t',e,g,c,k⟩:=qdA hq hS fun r hr hrb=>by
   rcases ht b rfl r hr with z | z
   ·rw [z] at hrb;exact (qdt hrb).elim
   ·exact (qco hrb z).elim
  rw [e]
  have hb:=g.mem
  refine ⟨by simp,hq b' hb,fun r hr=>?_,k,qg7 hq g k⟩
  rcases List.mem_append.mp hr with z | z
  ·rcases qgW r b' with y | y | y
   ·rw [y,ql7];omega
   ·exact c r z y
   ·cases t' with
    | nil =>
     rcases g.2 r z with x | x
     ·rw [x,ql7];omega
     ·exact (qco y x).elim
    | cons a t' =>
     have h0:=k a rfl
     have h1:=g.2.2.1 r z
     rw [ac_w] at h1
     rw [ac_e] at h0
     have:=tr2 y g.2.1 (hq b' hb) h1 h0
     have s:ac b' q r=crs (sb2 b' r) (sb2 q b'):=by unfold ac crs sb2;grind
     omega
  ·rw [qE.mp z,ac_1];omega
def stk (ps:List Pt):List Pt:=ps.foldl (fun S q=>q::Yx q S) []
def Asc (ps:List Pt):Prop:=ps.Pairwise fun a b=>Ps (sb2 b a)
theorem Jt (ps:List Pt) (q:Pt):stk (ps++[q])=q::Yx q (stk ps):=by unfold stk;rw [List.foldl_append];rfl
theorem qe7 {ps:List Pt}{q:Pt}:(stk (ps++[q])).head?=some q:=by rw [Jt];rfl
theorem qcc {ps:List Pt}{q:Pt}(h:Asc (ps++[q])):Asc ps/\∀ r∈ps,Ps (sb2 q r):=by
 unfold Asc at *
 rw [qL] at h
 exact ⟨h.1,fun r hr=>h.2.2 r hr q (by simp)⟩
theorem qaW {ps:List Pt}(h:Asc ps):∀ b∈(stk ps).head?,∀ r∈ps,r=b\/Ps (sb2 b r):=by
 rcases List.eq_nil_or_concat ps with rfl | ⟨qs,q,rfl⟩
 ·intro b hb;cases hb
 ·rw [List.concat_eq_append] at *
  intro b hb r hr
  rw [qe7] at hb
  cases hb
  rcases List.mem_append.mp hr with z | z
  ·exact .inr ((qcc h).2 r z)
  ·exact .inl (by simpa using z)
theorem qcZ:∀ (n:Nat) {ps:List Pt},ps.length=n->Asc ps->Gd ps (stk ps)
 | 0,ps,e,_=>by rw [List.length_eq_zero_iff.mp e];rfl
 | n+1,ps,e,h=>by
  rcases List.eq_nil_or_concat ps with rfl | ⟨qs,q,rfl⟩
  ·cases e
  ·rw [List.concat_eq_append] at *
   obtain ⟨h1,h2⟩:=qcc h
   rw [Jt]
   exact qh2 h2 (qcZ n (by simpa using e) h1) (qaW h1)
end L2
namespace L2
def gP (P:List Pt) (i:Nat):Pt:=P.getD i (0,0)
theorem je {P:List Pt}{i:Nat}(h:i<P.length):gP P i=P[i]:=by unfold gP;rw [qK,List.getElem?_eq_getElem h];rfl
theorem js {P:List Pt}{i:Nat}(h:i<P.length):gP P i∈P:=by rw [je h];exact qU h
theorem qjp {S:List Pt}{k:Nat}(h:k<S.length):S.drop k=gP S k::S.drop (k+1):=by rw [je h];exact List.drop_eq_getElem_cons h
theorem dec2 {S:List Pt}{k:Nat}(h:k+1<S.length):S=S.take k++gP S k::gP S (k+1)::S.drop (k+2):=by
 rw [<- qjp h,<- qjp (show k<S.length by omega),qD]
theorem dec3 {S:List Pt}{k:Nat}(h:k+2<S.length):S=S.take k++gP S k::gP S (k+1)::gP S (k+2)::S.drop (k+3):=by
 rw [<- qjp h,<- qjp (show k+1<S.length by omega),<- qjp (show k<S.length by omega),qD]
theorem qiH {S:List Pt}{k p:Nat}(h:p<k) (hk:k<=S.length):gP S p∈S.take k:=by
 have:p<(S.take k).length:=by rw [yb];omega
 have e:(S.take k)[p]=S[p]:=List.getElem_take
 rw [je (by omega),<- e]
 exact qU this
theorem qiI {S:List Pt}{k p:Nat}(h:k<=p) (hp:p<S.length):gP S p∈S.drop k:=by
 have hl:p - k<(S.drop k).length:=by rw [yi];omega
 have e:(S.drop k)[p - k]=S[k+(p - k)]:=List.getElem_drop
 rw [je hp]
 have e2:S[k+(p - k)]=S[p]:=by congr 1;omega
 rw [<- e2,<- e]
 exact qU hl
theorem Gd.tail {D:List Pt}{x:Pt}:∀ {S:List Pt},Gd D (x::S)->S≠[]->Gd D S
 | [],_,h=>absurd rfl h
 | _::_,h,_=>h.2.2.2.2
theorem Gd.edge {D:List Pt}:∀ {X S:List Pt}{a b:Pt}{Y:List Pt},Gd D S->S=X++b::a::Y->Ps (sb2 b a)/\(∀ r∈D,0<=ac a b r)/\a∈D/\b∈D
 | [],S,a,b,Y,h,e=>by
  subst e
  exact ⟨h.2.1,h.2.2.1,h.2.2.2.2.mem,h.1⟩
 | x::X,S,a,b,Y,h,e=>by
  subst e
  exact Gd.edge (h.tail (by simp)) rfl
theorem Gd.turn {D:List Pt}:∀ {X S:List Pt}{a b c:Pt}{Y:List Pt},Gd D S->S=X++c::b::a::Y->0<ac a b c
 | [],S,a,b,c,Y,h,e=>by
  subst e
  exact h.2.2.2.1 a rfl
 | x::X,S,a,b,c,Y,h,e=>by
  subst e
  exact Gd.turn (h.tail (by simp)) rfl
theorem low {D:List Pt}:∀ {Y:List Pt}{a b:Pt},Gd D (b::a::Y)->∀ c∈Y,0<ac a b c/\Ps (sb2 a c)
 | [],_,_,_,_,hc=>nomatch hc
 | z::Y,a,b,h,c,hc=>by
  have g:=h.2.2.2.2
  have t:=h.2.2.2.1 z rfl
  rcases List.mem_cons.mp hc with rfl | hc
  ·exact ⟨by rw [<- ql6];exact t,g.2.1⟩
  ·obtain ⟨k1,k2⟩:=low g c hc
   have ps:=qj8 g.2.1 k2
   refine ⟨?_,ps⟩
   rw [ac_w] at k1
   rw [ac_e] at t
   have:=tr1 ps g.2.1 h.2.1 k1 (Int.le_of_lt t)
   have s:ac a b c=crs (sb2 a c) (sb2 b a):=by unfold ac crs sb2;grind
   omega
theorem sc {D:List Pt}:∀ {X S:List Pt}{a b:Pt}{Y:List Pt},Gd D S->S=X++b::a::Y->∀ c∈X++Y,0<ac a b c
 | [],S,a,b,Y,h,e,c,hc=>by
  subst e
  exact (low h c hc).1
 | x::X,S,a,b,Y,h,e,c,hc=>by
  subst e
  rcases List.mem_cons.mp hc with rfl | hc
  ·cases X with
   | nil=>exact h.2.2.2.1 a rfl
   | cons y X =>
    have g:Gd D (y::(X++b::a::Y)):=h.tail (by simp)
    cases hX:X++b::a::Y with
    | nil=>simp at hX
    | cons z t =>
     rw [hX] at g
     have h':Gd D (c::y::z::t):=by rw [<- hX];exact h
     refine qbe g h'.2.1 (h'.2.2.2.1 z rfl) (X:=y::X) (Y:=Y) ?_
     rw [<- hX];rfl
  ·exact sc (h.tail (by simp)) rfl c hc
theorem qk3 {a b c u v:Pt}(hd:Ps (sb2 b a)) (hu:Ps (sb2 u c)) (hv:Ps (sb2 c v)) (t:0<ac u c v) (h0:0<=ac a b c) (h1:0<=ac a b u) (h2:0<=ac a b v):0<ac a b c:=by
 rcases Int.lt_or_le 0 (ac a b c) with z | z
 ·exact z
 have z:ac a b c=0:=by omega
 have e1:ac a b u=ac a b c+crs (sb2 b a) (sb2 u c):=by unfold ac crs sb2;grind
 have e2:ac a b v=ac a b c+crs (sb2 c v) (sb2 b a):=by unfold ac crs sb2;grind
 have e3:ac u c v=crs (sb2 u c) (sb2 c v):=by unfold ac crs sb2;grind
 have:=tr1 hu hv hd (by omega) (show 0<=crs (sb2 c v) (sb2 b a) by omega)
 have e4:crs (sb2 b a) (sb2 u c) = - crs (sb2 u c) (sb2 b a):=by unfold crs sb2;grind
 omega
def nP (p:Pt):Pt:=(-p.1,-p.2)
theorem Zi (p:Pt):nP (nP p)=p:=by unfold nP;simp
theorem qg1 (D:List Pt):(D.map nP).map nP=D:=by rw [List.map_map];exact (List.map_congr_left fun p _=>Zi p).trans (List.map_id' D)
theorem qji (a b c:Pt):ac (nP a) (nP b) (nP c)=ac a b c:=qlF a b c
theorem qfc (a b:Pt):sb2 (nP a) (nP b)=sb2 b a:=by unfold sb2 nP;ext <;> dsimp only <;> omega
theorem Yn {P:List Pt}{i:Nat}(h:i<P.length):gP (P.map nP) i=nP (gP P i):=by
 rw [je h,je (by rw [List.length_map];exact h),List.getElem_map]
def Half (A B:List Pt):Prop:=∀ i j,i<A.length->j<(A++B).length->j≠i->j≠(i+1) % (A++B).length->0<ac (gP (A++B) i) (gP (A++B) ((i+1) % (A++B).length)) (gP (A++B) j)
def Cvx (P:List Pt):Prop:=∀ i j,i<P.length->j<P.length->j≠i->j≠(i+1) % P.length->0<ac (gP P i) (gP P ((i+1) % P.length)) (gP P j)
theorem qg9 {A B:List Pt}{i:Nat}(h:i<A.length):gP (A++B) i=gP A i:=by
 rw [je h,je (by rw [List.length_append];omega),List.getElem_append_left h]
theorem qiP {A B:List Pt}{i:Nat}(h:A.length<=i) (hi:i<(A++B).length):gP (A++B) i=gP B (i - A.length):=by
 rw [je hi,je (by rw [List.length_append] at hi;omega),List.getElem_append_right h]
theorem gP_rev {S:List Pt}{i:Nat}(h:i<S.length):gP S.reverse i=gP S (S.length - 1 - i):=by
 rw [je (by rw [List.length_reverse];exact h),je (by omega),List.getElem_reverse]
theorem Y6 (x:Pt) (S:List Pt) (i:Nat):gP (x::S) (i+1)=gP S i:=rfl
theorem qd9 {D S T:List Pt}{s t:Pt}(gS:Gd D (s::S)) (gT:Gd (D.map nP) ((t::T).map nP)) (e1:gP (t::T) T.length=s) (e2:gP (s::S) S.length=t):Half S.reverse T.reverse:=by
 intro i j hi hj n1 n2
 rw [List.length_reverse] at hi
 have hn:(S.reverse++T.reverse).length=S.length+T.length:=by simp
 rw [hn] at hj n2 ⊢
 have hT:0<T.length:=by
  rcases Nat.eq_zero_or_pos T.length with z | z
  ·exfalso
   have e3:t=s:=by rw [z] at e1;exact e1
   -- the top and the bottom of S are one
   have hm:gP (s::S) S.length∈S:=by
    obtain ⟨m,em⟩:∃ m,S.length=m+1:=⟨S.length - 1,by omega⟩
    rw [em,Y6]
    exact js (by omega)
   rw [e2,e3] at hm
   cases S with
   | nil=>simp at hi
   | cons a S =>
    rcases List.mem_cons.mp hm with y | y
    ·rw [y] at gS;exact qdt gS.2.1
    ·exact qco gS.2.1 (low gS s y).2
  ·exact z
 -- the side
 have hk:S.length - i - 1+1<(s::S).length:=by rw [List.length_cons];omega
 have dS:=dec2 hk
 have ea:gP (S.reverse++T.reverse) i=gP (s::S) (S.length - i - 1+1):=by
  rw [qg9 (by rw [List.length_reverse];exact hi),gP_rev hi,Y6]
  congr 1;omega
 have et:gP T.reverse 0=s:=by
  rw [gP_rev hT,<- e1]
  obtain ⟨m,em⟩:∃ m,T.length=m+1:=⟨T.length - 1,by omega⟩
  rw [em,Y6]
  rfl
 have eb:gP (S.reverse++T.reverse) ((i+1) % (S.length+T.length))=gP (s::S) (S.length - i - 1):=by
  rw [qx (by omega)]
  by_cases z:i+1<S.length
  ·rw [qg9 (by rw [List.length_reverse];exact z),gP_rev z]
   rw [show S.length - i - 1=(S.length - 1 - (i+1))+1 by omega,Y6]
  ·rw [qiP (by rw [List.length_reverse];omega) (by rw [hn];omega),show i+1 - S.reverse.length=0 by rw [List.length_reverse];omega,et,show S.length - i - 1=0 by omega]
   rfl
 rw [qx (by omega)] at n2
 rw [ea,eb]
 obtain ⟨hd,hull,_,_⟩:=gS.edge dS
 have hlen:(s::S).length=S.length+1:=rfl
 -- a corner of S
 have own:∀ p,p<(s::S).length->p<S.length - i - 1\/S.length - i - 1+2<=p->0<ac (gP (s::S) (S.length - i - 1+1)) (gP (s::S) (S.length - i - 1)) (gP (s::S) p):=fun p hp hpp=>by
  refine sc gS dS _ ?_
  rcases hpp with z | z
  ·exact yE _ (qiH z (by omega))
  ·exact qI _ (qiI z hp)
 by_cases z:j<S.length
 ·rw [qg9 (by rw [List.length_reverse];exact z),gP_rev z,show gP S (S.length - 1 - j)=gP (s::S) (S.length - 1 - j+1) from rfl]
  refine own _ (by omega) ?_
  omega
 ·rw [qiP (by rw [List.length_reverse];omega) (by rw [hn];omega),List.length_reverse]
  by_cases y:j=S.length
  ·rw [y,Nat.sub_self,et]
   exact own 0 (by omega) (by omega)
  ·-- an qk3 corner of T
   obtain ⟨q,hq⟩:∃ q,q=j - S.length:=⟨_,rfl⟩
   rw [<- hq,gP_rev (by omega)]
   have hlT:((t::T).map nP).length=T.length+1:=by simp
   have ht2:(t::T).length=T.length+1:=rfl
   have dT:=dec3 (S:=(t::T).map nP) (k:=T.length - q - 1) (by omega)
   have tn:=gT.turn dT
   have d1:=gT.edge (X:=((t::T).map nP).take (T.length - q - 1)) dT
   have d2:=gT.edge (X:=((t::T).map nP).take (T.length - q - 1)++[gP ((t::T).map nP) (T.length - q - 1)]) (by rw [qq];exact dT)
   rw [Yn (by omega),Yn (by omega)] at d1
   rw [Yn (by omega),Yn (by omega)] at d2
   rw [Yn (by omega),Yn (by omega),Yn (by omega)] at tn
   have back:∀ p,nP p∈D.map nP->p∈D:=fun p hp=>by
    obtain ⟨r,hr,er⟩:=qG.mp hp
    have:=congrArg nP er
    rw [Zi,Zi] at this
    rw [<- this];exact hr
   rw [qji] at tn
   have s1:=d1.1
   have s2:=d2.1
   rw [qfc] at s1 s2
   have ec:gP T (T.length - 1 - q)=gP (t::T) (T.length - q - 1+1):=by rw [Y6];congr 1;omega
   rw [ec]
   exact qk3 hd s2 s1 tn (hull _ (back _ d1.2.2.1)) (hull _ (back _ d2.2.2.1)) (hull _ (back _ d1.2.2.2))
theorem qjF {A B:List Pt}(h1:Half A B) (h2:Half B A):Cvx (A++B):=by
 intro i j hi hj n1 n2
 by_cases z:i<A.length
 ·exact h1 i j z hj n1 n2
 ·have l1:(A++B).length=A.length+B.length:=List.length_append
  have l2:(B++A).length=A.length+B.length:=by rw [List.length_append];omega
  have mv:∀ p,p<A.length+B.length->gP (A++B) p=gP (B++A) (if p<A.length then p+B.length else p - A.length):=fun p hp=>by
   by_cases y:p<A.length
   ·rw [if_pos y,qg9 y,qiP (by omega) (by omega)]
    congr 1;omega
   ·rw [if_neg y,qiP (by omega) (by omega),qg9 (by omega)]
  rw [l1] at hi hj n2 ⊢
  have hm:(i+1) % (A.length+B.length)<A.length+B.length:=yp _ (by omega)
  have key:(if (i+1) % (A.length+B.length)<A.length then (i+1) % (A.length+B.length)+B.length else (i+1) % (A.length+B.length) - A.length)=((i - A.length)+1) % (A.length+B.length):=by
   by_cases y:i+1=A.length+B.length
   ·rw [y,yG]
    by_cases x:A.length=0
    ·rw [if_neg (by omega),Nat.zero_sub,show i - A.length+1=A.length+B.length by omega,yG]
    ·rw [if_pos (by omega),qx (by omega)];omega
   ·rw [qx (show i+1<A.length+B.length by omega),if_neg (by omega),qx (by omega)];omega
  rw [mv i hi,mv j hj,mv _ hm,key,if_neg z]
  have:=h2 (i - A.length) (if j<A.length then j+B.length else j - A.length) (by omega) (by rw [l2];split <;> omega) (by split <;> omega) (by
   rw [l2,<- key]
   split <;> split <;> omega)
  rw [l2] at this
  exact this
end L2
namespace L2
def outer (row:List Pt):List Pt:=(stk row).tail.reverse++(stk row.reverse).tail.reverse
theorem qdz (q:Pt):∀ S:List Pt,Yx (nP q) (S.map nP)=(Yx q S).map nP
 | []=>rfl
 | [_]=>rfl
 | b::a::t=>by
  show Yx (nP q) (nP b::nP a::t.map nP)=_
  unfold Yx
  rw [qji]
  split
  ·exact qdz q (a::t)
  ·rfl
theorem qeh:∀ (ps S:List Pt),(ps.map nP).foldl (fun S q=>q::Yx q S) (S.map nP)=(ps.foldl (fun S q=>q::Yx q S) S).map nP
 | [],_=>rfl
 | p::ps,S=>by
  rw [List.map_cons,List.foldl_cons,List.foldl_cons,qdz]
  exact qeh ps (p::Yx p S)
theorem qgr (ps:List Pt):stk (ps.map nP)=(stk ps).map nP:=qeh ps []
theorem qeQ {row:List Pt}(h:Asc row):Asc (row.reverse.map nP):=by
 unfold Asc at *
 rw [List.pairwise_map,List.pairwise_reverse]
 exact h.imp fun {a b} k=>by rw [qfc];exact k
theorem Gd.bot {D:List Pt}:∀ {S:List Pt}{s:Pt},Gd D (s::S)->gP (s::S) S.length∈D/\∀ r∈D,r=gP (s::S) S.length\/Ps (sb2 r (gP (s::S) S.length))
 | [],s,h=>h
 | a::S,s,h=>Gd.bot (S:=S) (s:=a) h.2.2.2.2
theorem qcY {ps:List Pt}(h:ps≠[]):∃ s S,stk ps=s::S/\s∈ps:=by
 rcases List.eq_nil_or_concat ps with rfl | ⟨qs,q,rfl⟩
 ·exact absurd rfl h
 ·rw [List.concat_eq_append]
  exact ⟨q,_,Jt qs q,by simp⟩
theorem qeb {D D':List Pt}(h:∀ p,p∈D ↔ p∈D'):∀ {S:List Pt},S≠[]->Gd D S->Gd D' S
 | [],n,_=>absurd rfl n
 | [a],_,g=>⟨(h a).mp g.1,fun r hr=>g.2 r ((h r).mpr hr)⟩
 | b::a::t,_,g=>⟨(h b).mp g.1,g.2.1,fun r hr=>g.2.2.1 r ((h r).mpr hr),g.2.2.2.1,qeb h (by simp) g.2.2.2.2⟩
theorem Jn {row:List Pt}(h:Asc row):Cvx (outer row):=by
 by_cases z:row=[]
 ·subst z
  intro i j hi
  exact absurd hi (Nat.not_lt_zero i)
 obtain ⟨s,S,eS,ms⟩:=qcY z
 obtain ⟨t,T,eT,mt⟩:=qcY (ps:=row.reverse) (by simpa using z)
 have g1:Gd row (s::S):=by rw [<- eS];exact qcZ _ rfl h
 have g2':Gd (row.reverse.map nP) ((t::T).map nP):=by rw [<- eT,<- qgr];exact qcZ _ rfl (qeQ h)
 have g2:Gd (row.map nP) ((t::T).map nP):=qeb (fun p=>by simp) (by simp) g2'
 have top1:=qaW h s (by rw [eS];rfl)
 have top2:=qaW (qeQ h) (nP t) (by rw [qgr,eT];rfl)
 have b1:=g1.bot
 have b2:=Gd.bot (S:=T.map nP) (s:=nP t) g2
 have e1:gP (t::T) T.length=s:=by
  have ee:gP (nP t::T.map nP) (T.map nP).length=nP (gP (t::T) T.length):=by
   have:=Yn (P:=t::T) (i:=T.length) (by simp)
   rw [List.length_map];exact this
  rw [ee] at b2
  have mm:gP (t::T) T.length∈row:=by
   obtain ⟨r,hr,er⟩:=qG.mp b2.1
   have:=congrArg nP er
   rw [Zi,Zi] at this
   rw [<- this];exact hr
  rcases top1 _ mm with k | k
  ·exact k
  ·rcases b2.2 (nP s) (qG.mpr ⟨s,ms,rfl⟩) with y | y
   ·have:=congrArg nP y
    rw [Zi,Zi] at this
    exact this.symm
   ·rw [qfc] at y
    exact (qco k y).elim
 have e2:gP (s::S) S.length=t:=by
  have mt2:t∈row:=List.mem_reverse.mp mt
  rcases b1.2 t mt2 with k | k
  ·exact k.symm
  ·rcases top2 (nP (gP (s::S) S.length)) (qG.mpr ⟨_,by simpa using b1.1,rfl⟩) with y | y
   ·have:=congrArg nP y
    rw [Zi,Zi] at this
    exact this
   ·rw [qfc] at y
    exact (qco k y).elim
 unfold outer
 rw [eS,eT]
 refine qjF (qd9 g1 g2 e1 e2) ?_
 -- the way back,turned about
 have hb:=qd9 (D:=row.map nP) (S:=T.map nP) (T:=S.map nP) (s:=nP t) (t:=nP s) g2 (by
   have ee:(nP s::S.map nP).map nP=s::S:=by rw [List.map_cons,Zi,qg1]
   rw [qg1,ee]
   exact g1)
  (by have:=Yn (P:=s::S) (i:=S.length) (by simp);rw [List.length_map];rw [e2] at this;exact this)
  (by have:=Yn (P:=t::T) (i:=T.length) (by simp);rw [List.length_map];rw [e1] at this;exact this)
 intro i j hi hj n1 n2
 have em:(T.map nP).reverse++(S.map nP).reverse=(T.reverse++S.reverse).map nP:=by rw [List.map_append,List.map_reverse,List.map_reverse]
 have hl:((T.map nP).reverse++(S.map nP).reverse).length=(T.reverse++S.reverse).length:=by rw [em,List.length_map]
 have hi':i<T.reverse.length:=hi
 have hj':j<(T.reverse++S.reverse).length:=hj
 have:=hb i j (by rw [List.length_reverse,List.length_map];rw [List.length_reverse] at hi';exact hi') (by rw [hl];exact hj') n1 (by rw [hl];exact n2)
 rw [hl,em] at this
 have hlen:(T.reverse++S.reverse).length=T.reverse.length+S.reverse.length:=List.length_append
 rw [Yn (by omega),Yn (yp _ (by omega)),Yn hj',qji] at this
 exact this
def nx (P:List Pt) (i:Nat):Pt:=gP P ((i+1) % P.length)
theorem qhM {a b c:Pt}(h:0<ac a b c):Cvx [a,b,c]:=by
 have h2:0<ac b c a:=by rw [<- ql6];exact h
 have h3:0<ac c a b:=by rw [<- ql6];exact h2
 intro i j hi hj n1 n2
 have hi:i<3:=hi
 have hj:j<3:=hj
 have n2:j≠(i+1) % 3:=n2
 have:(i=0/\j=2)\/(i=1/\j=0)\/(i=2/\j=1):=by omega
 rcases this with ⟨rfl,rfl⟩ | ⟨rfl,rfl⟩ | ⟨rfl,rfl⟩
 ·exact h
 ·exact h2
 ·show 0<ac (gP [a,b,c] 2) (gP [a,b,c] (3 % 3)) (gP [a,b,c] 1)
  rw [yG]
  exact h3
theorem qhN {A B:List Pt}(h:Cvx (A++B)):Cvx (B++A):=by
 have l1:(A++B).length=A.length+B.length:=List.length_append
 have l2:(B++A).length=A.length+B.length:=by rw [List.length_append];omega
 have mv:∀ p,p<A.length+B.length->gP (B++A) p=gP (A++B) (if p<B.length then p+A.length else p - B.length):=fun p hp=>by
  by_cases y:p<B.length
  ·rw [if_pos y,qg9 y,qiP (by omega) (by omega)]
   congr 1;omega
  ·rw [if_neg y,qiP (by omega) (by omega),qg9 (by omega)]
 intro i j hi hj n1 n2
 rw [l2] at hi hj n2 ⊢
 have hm:(i+1) % (A.length+B.length)<A.length+B.length:=yp _ (by omega)
 have key:∀ k,k<A.length+B.length->(if (k+1) % (A.length+B.length)<B.length then (k+1) % (A.length+B.length)+A.length else (k+1) % (A.length+B.length) - B.length)=((if k<B.length then k+A.length else k - B.length)+1) % (A.length+B.length):=fun k hk=>by
  by_cases y:k+1=A.length+B.length
  ·rw [y,yG]
   by_cases x:B.length=0
   ·rw [if_neg (by omega),Nat.zero_sub,if_neg (by omega),show k - B.length+1=A.length+B.length by omega,yG]
   ·rw [if_pos (by omega)]
    by_cases u:k<B.length
    ·rw [if_pos u,show k+A.length+1=(A.length+B.length)+A.length by omega,Nat.add_mod_left,qx (by omega)];omega
    ·rw [if_neg u,qx (by omega)];omega
  ·rw [qx (show k+1<A.length+B.length by omega)]
   by_cases u:k<B.length
   ·rw [if_pos u]
    by_cases v:k+1<B.length
    ·rw [if_pos v,qx (by omega)];omega
    ·rw [if_neg v,show k+A.length+1=A.length+B.length by omega,yG];omega
   ·rw [if_neg u,if_neg (by omega),qx (by omega)];omega
 rw [mv i hi,mv j hj,mv _ hm,key i hi]
 have:=h (if i<B.length then i+A.length else i - B.length) (if j<B.length then j+A.length else j - B.length) (by rw [l1];split <;> omega) (by rw [l1];split <;> omega) (by split <;> split <;> omega) (by
  rw [l1,<- key i hi]
  split <;> split <;> omega)
 rw [l1] at this
 exact this
theorem ac_aa (a c:Pt):ac a a c=0:=by unfold ac;grind
theorem J4 {P:List Pt}(h:Cvx P) (h3:3<=P.length):P.Nodup:=by
 unfold List.Nodup
 rw [qM]
 intro i j hi hj hij e
 have e':gP P i=gP P j:=by rw [je hi,je hj];exact e
 have hm:(i+1) % P.length=i+1:=qx (by omega)
 by_cases z:j=i+1
 ·obtain ⟨k,hk,k1,k2⟩:∃ k,k<P.length/\k≠i/\k≠i+1:=by
   by_cases y:i=0
   ·exact ⟨2,by omega,by omega,by omega⟩
   ·exact ⟨0,by omega,by omega,by omega⟩
  have:=h i k hi hk k1 (by rw [hm];exact k2)
  rw [hm,<- z,<- e',ac_aa] at this
  omega
 ·have:=h i j hi hj (by omega) (by rw [hm];exact z)
  rw [<- e',ql7] at this
  omega
def J7 (P:List Pt):Int:=((List.range P.length).map fun k=>crs (gP P k) (nx P k)).sum
def fan (P:List Pt) (m:Nat):Int:=((List.range m).map fun k=>ac (gP P 0) (gP P (k+1)) (gP P (k+2))).sum
def pth (P:List Pt) (m:Nat):Int:=((List.range m).map fun k=>crs (gP P k) (gP P (k+1))).sum
theorem qei (P:List Pt):∀ m,fan P m=pth P (m+1)+crs (gP P (m+1)) (gP P 0)
 | 0=>by
  show (0:Int)=crs (gP P 0) (gP P 1)+0+_
  unfold crs
  grind
 | m+1=>by
  have ih:=qei P m
  have e1:fan P (m+1)=fan P m+ac (gP P 0) (gP P (m+1)) (gP P (m+2)):=by unfold fan;rw [jb,List.map_append,ja];simp
  have e2:pth P (m+1+1)=pth P (m+1)+crs (gP P (m+1)) (gP P (m+2)):=by unfold pth;rw [jb (n:=m+1),List.map_append,ja];simp
  have e3:ac (gP P 0) (gP P (m+1)) (gP P (m+2))=crs (gP P (m+1)) (gP P (m+2)) - crs (gP P (m+1)) (gP P 0)+crs (gP P (m+2)) (gP P 0):=by unfold ac crs;grind
  rw [e1,e2,ih,e3]
  show _=_+crs (gP P (m+2)) (gP P 0)
  omega
theorem YQ {P:List Pt}(h:2<=P.length):J7 P=fan P (P.length - 2):=by
 rw [qei,show P.length - 2+1=P.length - 1 by omega]
 have e:P.length=(P.length - 1)+1:=by omega
 unfold J7 pth
 conv=>lhs;rw [e]
 rw [jb,List.map_append,ja]
 have e1:(List.range (P.length - 1)).map (fun k=>crs (gP P k) (nx P k))=(List.range (P.length - 1)).map fun k=>crs (gP P k) (gP P (k+1)):=List.map_congr_left fun k hk=>by
  have:=List.mem_range.mp hk
  unfold nx
  rw [qx (by omega)]
 have e2:nx P (P.length - 1)=gP P 0:=by unfold nx;rw [show P.length - 1+1=P.length by omega,yG]
 rw [e1]
 simp [e2]
theorem qcX:∀ {l:List Int},(∀ x∈l,0<x)->0<l.length->0<l.sum
 | [x],h,_=>by simpa using h x (by simp)
 | x::y::t,h,_=>by
  have:=qcX (l:=y::t) (fun z hz=>h z (qg _ hz)) (by simp)
  have:=h x (by simp)
  rw [List.sum_cons]
  omega
theorem qiS {P:List Pt}(h:Cvx P) (h3:3<=P.length):0<fan P (P.length - 2):=by
 unfold fan
 refine qcX (fun x hx=>?_) (by simp;omega)
 obtain ⟨k,hk,rfl⟩:=qG.mp hx
 have hk:=List.mem_range.mp hk
 have:=h (k+1) 0 (by omega) (by omega) (by omega) (by rw [qx (by omega)];omega)
 rw [qx (by omega)] at this
 rw [ql6]
 exact this
end L2
namespace L2
abbrev Qt:=Rat×Rat
def cq (A B:Qt):Rat:=A.1 * B.2 - A.2 * B.1
section
variable (a b t:Rat)
def uQ (A:Qt):Rat:=a * A.1+b * A.2 - t
def rQ (A:Qt):Rat:=a * A.2 - b * A.1
def gQ (A B:Qt):Rat:=(rQ a b B - rQ a b A) * (uQ a b t A+uQ a b t B)
theorem qlr (A B:Qt):(a * a+b * b) * cq A B=gQ a b t A B - (uQ a b t B * rQ a b B - uQ a b t A * rQ a b A)+t * (rQ a b B - rQ a b A):=by
 unfold cq gQ uQ rQ
 grind
def xQ (A B:Qt):Qt:=((A.1 * uQ a b t B - B.1 * uQ a b t A) / (uQ a b t B - uQ a b t A),(A.2 * uQ a b t B - B.2 * uQ a b t A) / (uQ a b t B - uQ a b t A))
theorem x_u {A B:Qt}(h:uQ a b t B - uQ a b t A≠0):uQ a b t (xQ a b t A B)=0:=by
 have e:uQ a b t (xQ a b t A B)=(a * (A.1 * uQ a b t B - B.1 * uQ a b t A)+b * (A.2 * uQ a b t B - B.2 * uQ a b t A)) / (uQ a b t B - uQ a b t A) - t:=by
  unfold xQ
  show a * ((A.1 * uQ a b t B - B.1 * uQ a b t A) / (uQ a b t B - uQ a b t A))+b * ((A.2 * uQ a b t B - B.2 * uQ a b t A) / (uQ a b t B - uQ a b t A)) - t=_
  grind
 rw [e]
 have e2:a * (A.1 * uQ a b t B - B.1 * uQ a b t A)+b * (A.2 * uQ a b t B - B.2 * uQ a b t A)=t * (uQ a b t B - uQ a b t A):=by
  unfold uQ
  grind
 rw [e2]
 grind
theorem x_r {A B:Qt}(h:uQ a b t B - uQ a b t A≠0):rQ a b (xQ a b t A B)=(rQ a b A * uQ a b t B - rQ a b B * uQ a b t A) / (uQ a b t B - uQ a b t A):=by
 have e:rQ a b (xQ a b t A B)=(a * (A.2 * uQ a b t B - B.2 * uQ a b t A) - b * (A.1 * uQ a b t B - B.1 * uQ a b t A)) / (uQ a b t B - uQ a b t A):=by
  unfold xQ
  show a * ((A.2 * uQ a b t B - B.2 * uQ a b t A) / (uQ a b t B - uQ a b t A)) - b * ((A.1 * uQ a b t B - B.1 * uQ a b t A) / (uQ a b t B - uQ a b t A))=_
  grind
 rw [e]
 have e2:a * (A.2 * uQ a b t B - B.2 * uQ a b t A) - b * (A.1 * uQ a b t B - B.1 * uQ a b t A)=rQ a b A * uQ a b t B - rQ a b B * uQ a b t A:=by
  unfold rQ
  grind
 rw [e2]
def em (A B:Qt):List Qt:=(if uQ a b t A * uQ a b t B<0 then [xQ a b t A B] else [])++(if uQ a b t B<=0 then [B] else [])
def Ze (A B:Qt):Rat :=
 if uQ a b t A<=0 then
  if uQ a b t B<=0 then gQ a b t A B else -(rQ a b B - rQ a b A) * (uQ a b t A * uQ a b t A) / (uQ a b t B - uQ a b t A)
 else if uQ a b t B<=0 then -(rQ a b B - rQ a b A) * (uQ a b t B * uQ a b t B) / (uQ a b t A - uQ a b t B) else 0
def gp:Qt->List Qt->Rat
 | _,[]=>0
 | Z,W::l=>gQ a b t Z W+gp W l
def lst:Qt->List Qt->Qt
 | Z,[]=>Z
 | _,W::l=>lst W l
def Sta (Z A:Qt):Prop:=(uQ a b t A<=0->Z=A)/\(0<uQ a b t A->uQ a b t Z=0)
theorem qiU {Z A B:Qt}(h:Sta a b t Z A):gp a b t Z (em a b t A B)=Ze a b t A B/\Sta a b t (lst Z (em a b t A B)) B:=by
 obtain ⟨h1,h2⟩:=h
 unfold em Ze
 by_cases hA:uQ a b t A<=0
 ·have hZ:=h1 hA
  subst hZ
  rw [if_pos hA]
  by_cases hB:uQ a b t B<=0
  ·have hn:¬ uQ a b t Z * uQ a b t B<0:=by
    have:=Rat.mul_nonneg (a:=-uQ a b t Z) (b:=-uQ a b t B) (by grind) (by grind)
    grind
   rw [if_neg hn,if_pos hB,if_pos hB]
   refine ⟨?_,fun _=>rfl,fun z=>?_⟩
   ·show gQ a b t Z B+0=_
    grind
   ·grind
  ·rw [if_neg hB,if_neg hB]
   by_cases z:uQ a b t Z=0
   ·have hn:¬ uQ a b t Z * uQ a b t B<0:=by rw [z];grind
    rw [if_neg hn]
    refine ⟨?_,fun y=>absurd y hB,fun _=>z⟩
    show (0:Rat)=_
    rw [z]
    grind
   ·have hy:uQ a b t Z * uQ a b t B<0:=by
     have:=Rat.mul_pos (a:=-uQ a b t Z) (b:=uQ a b t B) (by grind) (by grind)
     grind
    have hne:uQ a b t B - uQ a b t Z≠0:=by grind
    rw [if_pos hy]
    have xu:=x_u a b t hne
    refine ⟨?_,fun y=>absurd y hB,fun _=>xu⟩
    show gQ a b t Z (xQ a b t Z B)+0=_
    unfold gQ
    rw [xu,x_r a b t hne]
    grind
 ·rw [if_neg hA]
  have hZ:=h2 (by grind)
  by_cases hB:uQ a b t B<=0
  ·rw [if_pos hB,if_pos hB]
   by_cases z:uQ a b t B=0
   ·have hn:¬ uQ a b t A * uQ a b t B<0:=by rw [z];grind
    rw [if_neg hn]
    refine ⟨?_,fun _=>rfl,fun y=>by grind⟩
    show gQ a b t Z B+0=_
    unfold gQ
    rw [z,hZ]
    grind
   ·have hy:uQ a b t A * uQ a b t B<0:=by
     have:=Rat.mul_pos (a:=uQ a b t A) (b:=-uQ a b t B) (by grind) (by grind)
     grind
    have hne:uQ a b t B - uQ a b t A≠0:=by grind
    rw [if_pos hy]
    have xu:=x_u a b t hne
    refine ⟨?_,fun _=>rfl,fun y=>by grind⟩
    show gQ a b t Z (xQ a b t A B)+(gQ a b t (xQ a b t A B) B+0)=_
    unfold gQ
    rw [xu,hZ,x_r a b t hne]
    have hne2:uQ a b t A - uQ a b t B≠0:=by grind
    grind
  ·have hn:¬ uQ a b t A * uQ a b t B<0:=by
    have:=Rat.mul_pos (a:=uQ a b t A) (b:=uQ a b t B) (by grind) (by grind)
    grind
   rw [if_neg hn,if_neg hB,if_neg hB]
   refine ⟨rfl,fun y=>absurd y hB,fun _=>hZ⟩
end
end L2
namespace L2
def J2 (f:Qt->Qt->Rat):Qt->List Qt->Rat
 | _,[]=>0
 | A,B::l=>f A B+J2 f B l
theorem qa9 (Z:Qt):∀ x y:List Qt,lst Z (x++y)=lst (lst Z x) y
 | [],_=>rfl
 | W::x,y=>qa9 W x y
theorem YH (Z W:Qt) (x:List Qt):lst Z (x++[W])=W:=by rw [qa9];rfl
theorem qkS {Z Z':Qt}:∀ {x:List Qt},x≠[]->lst Z x=lst Z' x
 | [],h=>absurd rfl h
 | _::_,_=>rfl
theorem YL (f:Qt->Qt->Rat) (Z:Qt):∀ x y:List Qt,J2 f Z (x++y)=J2 f Z x+J2 f (lst Z x) y
 | [],_=>by show _=0+_;grind [J2,lst]
 | W::x,y=>by
  show f Z W+J2 f W (x++y)=f Z W+J2 f W x+_
  rw [YL f W x y]
  show _=_+J2 f (lst W x) y
  grind
section
variable (a b t:Rat)
def Yo:Qt->List Qt->List Qt
 | _,[]=>[]
 | A,B::l=>em a b t A B++Yo B l
theorem qea (Z:Qt):∀ l:List Qt,gp a b t Z l=J2 (gQ a b t) Z l
 | []=>rfl
 | W::l=>by show _+gp a b t W l=_+J2 _ W l;rw [qea W l]
theorem ZH:∀ (l:List Qt) {Z A:Qt},Sta a b t Z A->J2 (gQ a b t) Z (Yo a b t A l)=J2 (Ze a b t) A l/\Sta a b t (lst Z (Yo a b t A l)) (lst A l)
 | [],Z,A,h=>⟨rfl,h⟩
 | B::l,Z,A,h=>by
  obtain ⟨e1,s1⟩:=qiU a b t (B:=B) h
  rw [qea] at e1
  obtain ⟨e2,s2⟩:=ZH l s1
  show J2 _ Z (em a b t A B++Yo a b t B l)=Ze a b t A B+J2 _ B l/\Sta a b t (lst Z (em a b t A B++Yo a b t B l)) (lst B l)
  rw [YL,qa9,e1,e2]
  exact ⟨rfl,s2⟩
theorem qhp (Z:Qt):∀ l:List Qt,(a * a+b * b) * J2 cq Z l=J2 (gQ a b t) Z l - (uQ a b t (lst Z l) * rQ a b (lst Z l) - uQ a b t Z * rQ a b Z)+t * (rQ a b (lst Z l) - rQ a b Z)
 | []=>by
  show (a * a+b * b) * 0=0 - _+_
  show (a * a+b * b) * 0=0 - (uQ a b t Z * rQ a b Z - uQ a b t Z * rQ a b Z)+t * (rQ a b Z - rQ a b Z)
  grind
 | W::l=>by
  have ih:=qhp W l
  have e:=qlr a b t Z W
  show (a * a+b * b) * (cq Z W+J2 cq W l)=gQ a b t Z W+J2 (gQ a b t) W l - (uQ a b t (lst W l) * rQ a b (lst W l) - uQ a b t Z * rQ a b Z)+t * (rQ a b (lst W l) - rQ a b Z)
  generalize J2 cq W l=x at *
  generalize J2 (gQ a b t) W l=y at *
  generalize lst W l=V at *
  generalize cq Z W=c at *
  generalize gQ a b t Z W=g at *
  generalize uQ a b t V * rQ a b V=p at *
  generalize uQ a b t W * rQ a b W=q at *
  generalize uQ a b t Z * rQ a b Z=s at *
  generalize rQ a b V=r1 at *
  generalize rQ a b W=r2 at *
  generalize rQ a b Z=r3 at *
  grind
theorem qjG (hL:a * a+b * b≠0) (A:Qt):∃ Z,Sta a b t Z A:=by
 by_cases h:uQ a b t A<=0
 ·exact ⟨A,fun _=>rfl,fun z=>by grind⟩
 ·refine ⟨(a * t / (a * a+b * b),b * t / (a * a+b * b)),fun z=>absurd z h,fun _=>?_⟩
  show a * (a * t / (a * a+b * b))+b * (b * t / (a * a+b * b)) - t=0
  grind
theorem qf5 (hL:a * a+b * b≠0) {A:Qt}{l:List Qt}(hA:lst A l=A) (Z:Qt) (hZ:Yo a b t A l≠[]->lst Z (Yo a b t A l)=Z) :
  (a * a+b * b) * J2 cq Z (Yo a b t A l)=J2 (Ze a b t) A l:=by
 obtain ⟨Z0,s0⟩:=qjG a b t hL A
 obtain ⟨e0,s1⟩:=ZH a b t l s0
 rw [hA] at s1
 by_cases c:Yo a b t A l=[]
 ·rw [c] at e0 ⊢
  rw [<- e0]
  show (a * a+b * b) * 0=0
  grind
 ·have hz:=hZ c
  have ez:lst Z0 (Yo a b t A l)=Z:=by rw [qkS (Z':=Z) c];exact hz
  rw [ez] at s1
  obtain ⟨e2,_⟩:=ZH a b t l s1
  rw [qhp,hz,e2]
  grind
end
open PySem PySem.Spec PyProof.Rows
def Sz (k:Nat) (i:Int):Prop:=i.natAbs<2 ^ k
theorem Sz.mul {j k:Nat}{a b:Int}(ha:Sz j a) (hb:Sz k b):Sz (j+k) (a * b):=by
 unfold Sz at *
 rw [jv,Nat.pow_add]
 exact Nat.mul_lt_mul'' ha hb
theorem Sz.mono {j k:Nat}{a:Int}(h:j<=k) (ha:Sz j a):Sz k a:=qJ ha (Nat.pow_le_pow_right (by decide) h)
theorem Sz.add {k:Nat}{a b:Int}(ha:Sz k a) (hb:Sz k b):Sz (k+1) (a+b):=by
 unfold Sz at *
 have:=Int.natAbs_add_le a b
 rw [Nat.pow_succ]
 omega
theorem Sz.neg {k:Nat}{a:Int}(ha:Sz k a):Sz k (-a):=by unfold Sz at *;rw [Int.natAbs_neg];exact ha
theorem Sz.sub {k:Nat}{a b:Int}(ha:Sz k a) (hb:Sz k b):Sz (k+1) (a - b):=by rw [Int.sub_eq_add_neg];exact ha.add hb.neg
theorem Sz.of {k:Nat}{a:Int}(n:Nat) (h:a.natAbs<=n) (hn:n<2 ^ k):Sz k a:=yD h hn
theorem Sz.bits {k:Nat}{i:Int}(h:Sz k i) (hk:k<2 ^ 20):Builtin.Int.intBits i<=2 ^ 20:=by
 unfold Builtin.Int.intBits
 by_cases h0:i.natAbs=0
 ·have:i=0:=by omega
  subst this
  decide
 ·have:=(Nat.log2_lt h0).mpr h
  split <;> omega
section
variable {X:Cx}{K:W.Frag}
def qjk (i j:Int):Prop:=∃ k,k<2 ^ 20/\Sz k i/\Sz k j
theorem qip:OpR X (binaryOp .Mult) (rI qjk fun i j=>.int (i * j)):=opI fun _ _ _ _ _ _ _ ⟨k,hk,h1,h2⟩ q=>mul_int q (IntMulOk.of_bits (h1.bits hk) (h2.bits hk))
def qjl (i j:Int):Prop:=j≠0/\Sz 9000 j
theorem qfA:OpR X (binaryOp .FloorDiv) (rI qjl fun i j=>.int (i.fdiv j)):=opI fun i j _ _ _ _ _ hc q=>floordiv_int hc.1 q (.inl (PyProof.noPylong_of_log2 (by
 by_cases h0:j.natAbs=0
 ·exact absurd (by omega) hc.1
 ·exact (Nat.log2_lt h0).mpr hc.2)))
theorem qA:OpR X (binaryOp .Mult) (upR K (rdI qjk fun i j=>.int (i * j))):=qip.mono fun _ _ _ _=>qch
theorem YN:OpR X (binaryOp .FloorDiv) (upR K (rdI qjl fun i j=>.int (i.fdiv j))):=qfA.mono fun _ _ _ _=>qch
theorem yQ {j k:Nat}{a b:Int}(ha:Sz j a) (hb:Sz k b) (h:j+k<2 ^ 20):qjk a b:=⟨j+k,h,ha.mono (by omega),hb.mono (by omega)⟩
end
end L2
namespace L2
abbrev Tr:=Int×Int×Int
def fr (v:Pt) (n d:Int) (q:Pt):Int:=d * (v.1 * q.1+v.2 * q.2) - n
def emI (v:Pt) (n d:Int) (A B:Pt):List Tr:=(if fr v n d A * fr v n d B<0 then [(A.1 * fr v n d B - B.1 * fr v n d A,A.2 * fr v n d B - B.2 * fr v n d A,fr v n d B - fr v n d A)] else [])++(if fr v n d B<=0 then [(B.1,B.2,1)] else [])
def lsP:Pt->List Pt->Pt
 | Z,[]=>Z
 | _,W::l=>lsP W l
def emL (v:Pt) (n d:Int):Pt->List Pt->List Tr
 | _,[]=>[]
 | A,B::l=>emI v n d A B++emL v n d B l
theorem qb5 (v:Pt) (n d:Int):∀ (l:List Pt) (A B:Pt),emL v n d A (l++[B])=emL v n d A l++emI v n d (lsP A l) B
 | [],A,B=>by simp [emL,lsP]
 | C::l,A,B=>by
  show emI v n d A C++emL v n d C (l++[B])=(emI v n d A C++emL v n d C l)++emI v n d (lsP C l) B
  rw [qb5 v n d l C B,qq]
def tq (x:Tr):Qt:=((x.1:Rat) / x.2.2,(x.2.1:Rat) / x.2.2)
def pq (p:Pt):Qt:=((p.1:Rat),(p.2:Rat))
theorem fr_u {v:Pt}{n d:Int}(hd:0<d) (q:Pt):(fr v n d q:Rat)=d * uQ v.1 v.2 ((n:Rat) / d) (pq q):=by
 have d2:(d:Rat)≠0:=fun z=>by
  have:d=0:=Rat.intCast_inj.mp (by rw [z];rfl)
  omega
 unfold fr uQ pq
 simp only [Rat.intCast_sub,Rat.intCast_mul,Rat.intCast_add]
 grind
theorem ji {d:Int}(h:d≠0):(d:Rat)≠0:=fun z=>h (Rat.intCast_inj.mp (by rw [z];rfl))
theorem qhc {d:Rat}(a b x y:Rat) (hd:d≠0) (h:y - x≠0):(a * (d * y) - b * (d * x)) / (d * y - d * x)=(a * y - b * x) / (y - x):=by
 have h2:d * y - d * x≠0:=by
  intro z
  have:d * (y - x)=0:=by grind
  rcases Rat.mul_eq_zero.mp this with c | c
  ·exact hd c
  ·exact h c
 grind
theorem emI_q {v:Pt}{n d:Int}(hd:0<d) (A B:Pt):(emI v n d A B).map tq=em v.1 v.2 ((n:Rat) / d) (pq A) (pq B):=by
 have fA:=fr_u (v:=v) (n:=n) hd A
 have fB:=fr_u (v:=v) (n:=n) hd B
 have hd':(0:Rat)<(d:Rat):=Rat.intCast_pos.mpr hd
 have hd2:(d:Rat)≠0:=ji (by omega)
 have c1:fr v n d A * fr v n d B<0 ↔ uQ v.1 v.2 ((n:Rat) / d) (pq A) * uQ v.1 v.2 ((n:Rat) / d) (pq B)<0:=by
  rw [<- Rat.intCast_lt_intCast,Rat.intCast_mul,fA,fB]
  generalize uQ (v.1:Rat) (v.2:Rat) ((n:Rat) / d) (pq A)=x
  generalize uQ (v.1:Rat) (v.2:Rat) ((n:Rat) / d) (pq B)=y
  have e:(d:Rat) * x * (d * y)=(d * d) * (x * y):=by grind
  have p:(0:Rat)<(d:Rat) * d:=Rat.mul_pos hd' hd'
  show (d:Rat) * x * (d * y)<0 ↔ _
  rw [e]
  generalize x * y=z
  generalize (d:Rat) * d=k at p
  constructor
  ·intro h
   by_cases c:z<0
   ·exact c
   ·have:=Rat.mul_nonneg (Rat.le_of_lt p) (show 0<=z by grind)
    grind
  ·intro h
   have:=Rat.mul_pos p (show 0 < -z by grind)
   grind
 have c2:fr v n d B<=0 ↔ uQ v.1 v.2 ((n:Rat) / d) (pq B)<=0:=by
  rw [<- Rat.intCast_le_intCast,fB]
  generalize uQ (v.1:Rat) (v.2:Rat) ((n:Rat) / d) (pq B)=y
  show (d:Rat) * y<=0 ↔ _
  constructor
  ·intro h
   by_cases c:0<y
   ·have:=Rat.mul_pos hd' c
    grind
   ·grind
  ·intro h
   have:=Rat.mul_nonneg (Rat.le_of_lt hd') (show 0 <= -y by grind)
   grind
 unfold emI em
 rw [List.map_append]
 congr 1
 ·by_cases h:fr v n d A * fr v n d B<0
  ·rw [if_pos h,if_pos (c1.mp h)]
   show [tq _]=_
   congr 1
   unfold tq xQ
   simp only [Rat.intCast_sub,Rat.intCast_mul,fA,fB]
   have hne:uQ v.1 v.2 ((n:Rat) / d) (pq B) - uQ v.1 v.2 ((n:Rat) / d) (pq A)≠0:=by
    have:=c1.mp h
    intro z
    have e:uQ v.1 v.2 ((n:Rat) / d) (pq B)=uQ v.1 v.2 ((n:Rat) / d) (pq A):=by grind
    rw [e] at this
    generalize uQ (v.1:Rat) (v.2:Rat) ((n:Rat) / d) (pq A)=x at this
    by_cases c:0<x
    ·have:=Rat.mul_pos c c;grind
    ·have:=Rat.mul_nonneg (a:=-x) (b:=-x) (by grind) (by grind);grind
   exact Prod.ext (qhc _ _ _ _ hd2 hne) (qhc _ _ _ _ hd2 hne)
  ·rw [if_neg h,if_neg fun z=>h (c1.mpr z)]
   rfl
 ·by_cases h:fr v n d B<=0
  ·rw [if_pos h,if_pos (c2.mp h)]
   show [tq (B.1,B.2,1)]=[pq B]
   unfold tq pq
   congr 1
   show ((B.1:Rat) / ((1:Int):Rat),(B.2:Rat) / ((1:Int):Rat))=_
   ext <;> grind
  ·rw [if_neg h,if_neg fun z=>h (c2.mpr z)]
   rfl
theorem qlf {v:Pt}{n d:Int}(hd:0<d):∀ (l:List Pt) (A:Pt),(emL v n d A l).map tq=Yo v.1 v.2 ((n:Rat) / d) (pq A) (l.map pq)
 | [],_=>rfl
 | B::l,A=>by
  show (emI v n d A B++emL v n d B l).map tq=em v.1 v.2 ((n:Rat) / d) (pq A) (pq B)++Yo v.1 v.2 ((n:Rat) / d) (pq B) (l.map pq)
  rw [List.map_append,emI_q hd,qlf hd l B]
def bt (x:Tr):Nat:=if x.2.2=1 then 0 else 245
end L2
namespace L2
def yF (f:Nat->Rat):Nat->Rat
 | 0=>0
 | n+1=>yF f n+f n
theorem yd {f g:Nat->Rat}:∀ {n:Nat},(∀ k,k<n->f k=g k)->yF f n=yF g n
 | 0,_=>rfl
 | n+1,h=>by
  show yF f n+f n=yF g n+g n
  rw [yd (n:=n) fun k hk=>h k (by omega),h n (by omega)]
def gT (C:List Tr) (k:Nat):Tr:=C.getD k (0,0,1)
def pvT (C:List Tr) (k:Nat):Tr:=if k=0 then gT C (C.length - 1) else gT C (k - 1)
theorem qed {C:List Tr}{k:Nat}(h:k<C.length):gT C k=C[k]:=by unfold gT;rw [qK,List.getElem?_eq_getElem h];rfl
theorem qec {C:List Tr}{k:Nat}(h:k<C.length):gT C k∈C:=by rw [qed h];exact qU h
theorem qdo {C:List Tr}{k:Nat}(h:k<C.length):pvT C k∈C:=by unfold pvT;split <;> exact qec (by omega)
theorem JU {C:List Tr}{i:Nat}(h:i<C.length):C.take (i+1)=C.take i++[gT C i]:=by
 rw [List.take_add_one,List.getElem?_eq_getElem h,qed h];rfl
theorem qbW {C:List Tr}:∀ i,i<C.length->lst (tq (gT C (C.length - 1))) ((C.take i).map tq)=tq (pvT C i)
 | 0,_=>rfl
 | i+1,h=>by
  rw [JU (by omega),List.map_append]
  show lst _ ((C.take i).map tq++[tq (gT C i)])=_
  rw [YH]
  unfold pvT
  rw [if_neg (by omega)]
  rfl
theorem qam {C:List Tr}:∀ i,i<=C.length->yF (fun k=>cq (tq (pvT C k)) (tq (gT C k))) i=J2 cq (tq (gT C (C.length - 1))) ((C.take i).map tq)
 | 0,_=>rfl
 | i+1,h=>by
  rw [JU (by omega),List.map_append,YL,qbW i (by omega)]
  show yF _ i+_=_+(cq (tq (pvT C i)) (tq (gT C i))+0)
  rw [qam i (by omega)]
  grind
theorem qay (f:Qt->Qt->Rat) {P:List Pt}(h0:0<P.length):∀ i,i+1<=P.length->J2 f (pq (gP P 0)) (((P.drop 1).take i).map pq)=yF (fun k=>f (pq (gP P k)) (pq (gP P (k+1)))) i/\lst (pq (gP P 0)) (((P.drop 1).take i).map pq)=pq (gP P i)
 | 0,_=>⟨rfl,rfl⟩
 | i+1,h=>by
  obtain ⟨e1,e2⟩:=qay f h0 i (by omega)
  have hx:i<(P.drop 1).length:=by rw [yi];omega
  have et:(P.drop 1).take (i+1)=(P.drop 1).take i++[gP P (i+1)]:=by
   rw [List.take_add_one,List.getElem?_eq_getElem hx,je (by omega),List.getElem_drop]
   simp [Nat.add_comm]
  rw [et,List.map_append]
  refine ⟨?_,?_⟩
  ·rw [YL,e1,e2]
   show _+(f (pq (gP P i)) (pq (gP P (i+1)))+0)=yF _ i+_
   grind
  ·show lst _ (((P.drop 1).take i).map pq++[pq (gP P (i+1))])=_
   rw [YH]
theorem qfl (f:Qt->Qt->Rat) {P:List Pt}(h0:0<P.length):J2 f (pq (gP P (P.length - 1))) (P.map pq)=yF (fun k=>f (pq (gP P k)) (pq (nx P k))) P.length:=by
 have d:=qjp (S:=P) (k:=0) h0
 rw [List.drop_zero] at d
 have hl:(P.drop 1).length=P.length - 1:=yi
 obtain ⟨e1,_⟩:=qay f h0 (P.length - 1) (by omega)
 rw [List.take_of_length_le (by omega)] at e1
 have e2:J2 f (pq (gP P (P.length - 1))) (P.map pq)=f (pq (gP P (P.length - 1))) (pq (gP P 0))+J2 f (pq (gP P 0)) ((P.drop 1).map pq):=by
  have em:P.map pq=pq (gP P 0)::(P.drop 1).map pq:=congrArg (List.map pq) d
  rw [em]
  rfl
 rw [e2,e1]
 have e3:P.length=(P.length - 1)+1:=by omega
 conv=>rhs;rw [e3]
 show _=yF _ (P.length - 1)+f (pq (gP P (P.length - 1))) (pq (nx P (P.length - 1)))
 have e4:nx P (P.length - 1)=gP P 0:=by unfold nx;rw [show P.length - 1+1=P.length by omega,yG]
 rw [e4,yd (g:=fun k=>f (pq (gP P k)) (pq (nx P k))) fun k hk=>?_]
 ·grind
 ·unfold nx
  rw [qx (by omega)]
end L2
namespace L2
def btW (w:Nat) (x:Tr):Nat:=if x.2.2=1 then 0 else w+1
def qaI (w:Nat) (l:List Tr):Nat:=(l.map (btW w)).sum
def TrW (w:Nat) (x:Tr):Prop:=x.2.2≠0/\Sz (w+160) x.1/\Sz (w+160) x.2.1/\Sz (w+1) x.2.2
theorem qb8 {w:Nat}(a b:List Tr):qaI w (a++b)=qaI w a+qaI w b:=by unfold qaI;rw [List.map_append,ja]
theorem qiV {w:Nat}{v:Pt}{n d:Int}{A B:Pt}(a1:Sz 101 A.1) (a2:Sz 101 A.2) (b1:Sz 101 B.1) (b2:Sz 101 B.2) (fA:Sz w (fr v n d A)) (fB:Sz w (fr v n d B)) :
  (∀ x∈emI v n d A B,TrW w x)/\qaI w (emI v n d A B)<=w+1/\(emI v n d A B).length<=2:=by
 unfold emI
 refine ⟨fun x hx=>?_,?_,?_⟩
 ·rcases List.mem_append.mp hx with h | h
  ·by_cases c:fr v n d A * fr v n d B<0
   ·rw [if_pos c] at h
    rw [qE.mp h]
    refine ⟨fun z=>?_,((a1.mul fB).sub (b1.mul fA)).mono (by omega),((a2.mul fB).sub (b2.mul fA)).mono (by omega),fB.sub fA⟩
    have e:fr v n d B=fr v n d A:=by
     have z:fr v n d B - fr v n d A=0:=z
     omega
    rw [e] at c
    rcases Int.le_total 0 (fr v n d A) with y | y
    ·have:=jU y y;omega
    ·have:=Int.mul_nonneg_of_nonpos_of_nonpos y y;omega
   ·rw [if_neg c] at h;exact nomatch h
  ·by_cases c:fr v n d B<=0
   ·rw [if_pos c] at h
    rw [qE.mp h]
    exact ⟨(show (1:Int)≠0 by decide),b1.mono (by omega),b2.mono (by omega),Sz.mono (j:=1) (by omega) (show Sz 1 (1:Int) by unfold Sz;decide)⟩
   ·rw [if_neg c] at h;exact nomatch h
 ·rw [qb8]
  have e1:qaI w (if fr v n d A * fr v n d B<0 then [(A.1 * fr v n d B - B.1 * fr v n d A,A.2 * fr v n d B - B.2 * fr v n d A,fr v n d B - fr v n d A)] else [])<=w+1:=by
   split
   ·unfold qaI btW
    simp only [List.map_cons,List.map_nil,List.sum_cons,List.sum_nil]
    split <;> omega
   ·exact qZ _
  have e2:qaI w (if fr v n d B<=0 then [((B.1,B.2,1):Tr)] else [])=0:=by
   split
   ·rfl
   ·rfl
  omega
 ·rw [List.length_append]
  split <;> split <;> simp
theorem qeq {w:Nat}{v:Pt}{n d:Int}:∀ {l:List Pt}{A:Pt},(∀ q∈A::l,Sz 101 q.1/\Sz 101 q.2/\Sz w (fr v n d q))->(∀ x∈emL v n d A l,TrW w x)/\qaI w (emL v n d A l)<=(w+1) * l.length/\(emL v n d A l).length<=2 * l.length
 | [],A,_=>⟨fun _ h=>(nomatch h),qj _,qj _⟩
 | B::l,A,h=>by
  obtain ⟨a1,a2,a3⟩:=h A (by simp)
  obtain ⟨b1,b2,b3⟩:=h B (by simp)
  obtain ⟨i1,i2,i3⟩:=qiV (v:=v) (n:=n) (d:=d) a1 a2 b1 b2 a3 b3
  obtain ⟨j1,j2,j3⟩:=qeq (l:=l) (A:=B) fun q hq=>h q (qg _ hq)
  show (∀ x∈emI v n d A B++emL v n d B l,TrW w x)/\qaI w (emI v n d A B++emL v n d B l)<=_/\(emI v n d A B++emL v n d B l).length<=_
  refine ⟨fun x hx=>?_,?_,?_⟩
  ·rcases List.mem_append.mp hx with z | z
   ·exact i1 x z
   ·exact j1 x z
  ·rw [qb8,List.length_cons,Nat.mul_succ];omega
  ·rw [List.length_append,List.length_cons];omega
def ql8 (w:Nat) (C:List Tr) (i:Nat) (ov un:Int):Prop:=un≠0/\Sz ((2 * w+3) * i+400) ov/\Sz ((2 * w+2) * i+1) un/\un.natAbs<=2 ^ ((C.take i).map (btW w)).sum * 2 ^ (((List.range i).map fun k=>btW w (pvT C k)).sum) ∧
 (ov:Rat) / un=yF (fun k=>cq (tq (pvT C k)) (tq (gT C k))) i
theorem qhs {w:Nat}{x:Tr}(h:TrW w x):x.2.2.natAbs<=2 ^ btW w x:=by
 unfold btW
 split
 ·rename_i e;rw [e];decide
 ·exact yH h.2.2.2
theorem qdj {w:Nat}{C:List Tr}{i:Nat}{ov un:Int}(ok:∀ x∈C,TrW w x) (hi:i<C.length) (h:ql8 w C i ov un) :
  ql8 w C (i+1) (ov * (pvT C i).2.2 * (gT C i).2.2+((pvT C i).1 * (gT C i).2.1 - (gT C i).1 * (pvT C i).2.1) * un) (un * (pvT C i).2.2 * (gT C i).2.2):=by
 obtain ⟨h0,s1,s2,b,e⟩:=h
 have k1:=ok _ (qdo hi)
 have k2:=ok _ (qec hi)
 have l1:=qhs k1
 have l2:=qhs k2
 obtain ⟨p0,p1,p2,p3⟩:=k1
 obtain ⟨q0,q1,q2,q3⟩:=k2
 have m1:(2 * w+2) * (i+1)=(2 * w+2) * i+(2 * w+2):=by rw [Nat.mul_succ]
 have m2:(2 * w+3) * (i+1)=(2 * w+3) * i+(2 * w+3):=by rw [Nat.mul_succ]
 have m3:(2 * w+3) * i=(2 * w+2) * i+i:=by rw [show 2 * w+3=(2 * w+2)+1 by omega,Nat.succ_mul]
 refine ⟨Int.mul_ne_zero (Int.mul_ne_zero h0 p0) q0,?_,((s2.mul p3).mul q3).mono (by omega),?_,?_⟩
 ·have a:=((s1.mul p3).mul q3).mono (show (2 * w+3) * i+400+(w+1)+(w+1)<=(2 * w+3) * i+(2 * w+3)+399 by omega)
  have c:=(((p1.mul q2).sub (q1.mul p2)).mul s2).mono (show (w+160)+(w+160)+1+((2 * w+2) * i+1)<=(2 * w+3) * i+(2 * w+3)+399 by omega)
  exact (a.add c).mono (by omega)
 ·rw [jv,jv,JU hi,List.map_append,ja,jb,List.map_append,ja]
  simp only [List.map_cons,List.map_nil,List.sum_cons,List.sum_nil,Nat.add_zero]
  rw [Nat.pow_add,Nat.pow_add]
  have:=Nat.mul_le_mul (Nat.mul_le_mul b l1) l2
  calc un.natAbs * (pvT C i).2.2.natAbs * (gT C i).2.2.natAbs<=_:=this
   _=_:=by grind
 ·show _=yF _ i+cq (tq (pvT C i)) (tq (gT C i))
  rw [<- e]
  have c0:=ji h0
  have c1:=ji p0
  have c2:=ji q0
  unfold cq tq
  simp only [Rat.intCast_mul,Rat.intCast_add,Rat.intCast_sub]
  grind
theorem qhZ {w:Nat}{C:List Tr}{ov un:Int}(h:ql8 w C C.length ov un) (hb:qaI w C<=(w+1) * 12) (hp:((List.range C.length).map fun k=>btW w (pvT C k)).sum<=qaI w C):Sz (24 * w+25) un:=by
 obtain ⟨_,_,_,b,_⟩:=h
 rw [yh] at b
 unfold Sz
 refine yD b ?_
 rw [<- Nat.pow_add]
 refine Nat.pow_lt_pow_right (by decide) ?_
 have:(C.map (btW w)).sum=qaI w C:=rfl
 omega
theorem qfp {w:Nat}{C:List Tr}:((List.range C.length).map fun k=>btW w (pvT C k)).sum=qaI w C:=by
 cases h:C.length with
 | zero =>
  have:C=[]:=List.length_eq_zero_iff.mp h
  subst this
  rfl
 | succ m =>
  rw [List.range_succ_eq_map,List.map_cons,List.map_map,List.sum_cons]
  have e0:btW w (pvT C 0)=btW w (gT C m):=by unfold pvT;rw [if_pos rfl,h];rfl
  have e1:(List.range m).map ((fun k=>btW w (pvT C k)) ∘ Nat.succ)=(List.range m).map fun k=>btW w (gT C k):=List.map_congr_left fun k _=>by
   show btW w (pvT C (k+1))=_
   unfold pvT
   rw [if_neg (by omega)]
   rfl
  rw [e0,e1]
  have e2:C.map (btW w)=(List.range m).map (fun k=>btW w (gT C k))++[btW w (gT C m)]:=by
   have:(List.range m).map (fun k=>btW w (gT C k))++[btW w (gT C m)]=(List.range (m+1)).map fun k=>btW w (gT C k):=by rw [jb,List.map_append];rfl
   rw [this]
   apply List.ext_getElem
   ·simp [h]
   ·intro i h1 h2
    rw [List.getElem_map,List.getElem_map,List.getElem_range,qed (by simpa using h1)]
  unfold qaI
  rw [e2,ja]
  simp
  omega
end L2
namespace L2
def yW (n:Nat):Rat:=1 / ((n:Rat)+1)
theorem qiC (n:Nat):(0:Rat)<(n:Rat)+1:=by
 have:(0:Rat)<=(n:Rat):=by exact_mod_cast qZ n
 grind
theorem qaB (n:Nat):yW n * ((n:Rat)+1)=1:=by
 unfold yW
 have:=qiC n
 grind
theorem jf (n:Nat):0<yW n:=by
 have h:=qaB n
 have p:=qiC n
 by_cases z:0<yW n
 ·exact z
 ·have:=Rat.mul_nonneg (a:=-yW n) (by grind) (Rat.le_of_lt p)
  grind
theorem qjK (x:Rat):∃ N:Nat,x<=(N:Rat):=by
 refine ⟨x.floor.natAbs+1,?_⟩
 have h:=Rat.lt_floor (x:=x)
 have n1:(x.floor:Rat)+1<=((x.floor.natAbs+1:Nat):Rat):=by
  have:x.floor+1<=((x.floor.natAbs+1:Nat):Int):=by omega
  exact_mod_cast this
 grind
theorem jr (C:Rat) {δ:Rat}(d0:0<δ):∃ N:Nat,∀ n,N<=n->C * yW n<=δ:=by
 obtain ⟨N,hN⟩:=qjK (C / δ)
 refine ⟨N,fun n hn=>?_⟩
 have hn':(N:Rat)<=(n:Rat):=by exact_mod_cast hn
 have c:C<=δ * ((n:Rat)+1):=by
  have e:C / δ * δ=C:=by grind
  have:=Rat.mul_le_mul_of_nonneg_right (show C / δ<=(n:Rat)+1 by grind) (Rat.le_of_lt d0)
  grind
 have:=Rat.mul_le_mul_of_nonneg_right c (Rat.le_of_lt (jf n))
 have m:=qaB n
 have:δ * ((n:Rat)+1) * yW n=δ:=by grind
 grind
theorem sqlt {a b:Rat}(hb:0<=b) (h:a * a<b * b):a<b:=by
 by_cases z:a<b
 ·exact z
 ·have:=Rat.mul_nonneg (a:=a - b) (b:=a+b) (by grind) (by grind)
  grind
theorem qjm (x:Rat):0<=x * x:=by
 rcases Rat.le_total (a:=0) (b:=x) with z | z
 ·exact Rat.mul_nonneg z z
 ·have:=Rat.mul_nonneg (a:=-x) (b:=-x) (by grind) (by grind)
  grind
theorem qbS:∀ M:Nat,∃ R:Nat,R * R<=M/\M<(R+1) * (R+1)
 | 0=>⟨0,by decide,by decide⟩
 | M+1=>by
  obtain ⟨R,h1,h2⟩:=qbS M
  by_cases c:M+1<(R+1) * (R+1)
  ·exact ⟨R,by omega,c⟩
  ·refine ⟨R+1,by omega,?_⟩
   have:(R+1+1) * (R+1+1)=(R+1) * (R+1)+2 * (R+1)+1:=by grind
   omega
structure Rt (r:Int) (ρ:Nat->Rat):Prop where
 nn:∀ n,0<=ρ n
 le:∀ n,ρ n * ρ n<=(r:Rat)
 lt:∀ n,(r:Rat)<(ρ n+yW n) * (ρ n+yW n)
theorem qjP {r:Int}(h:0<=r):∃ ρ,Rt r ρ:=by
 have key:∀ n:Nat,∃ x:Rat,0<=x/\x * x<=(r:Rat)/\(r:Rat)<(x+yW n) * (x+yW n):=fun n=>by
  obtain ⟨R,h1,h2⟩:=qbS (r.toNat * ((n+1) * (n+1)))
  have p:=qiC n
  have m:=qaB n
  have er:((r.toNat:Nat):Rat)=(r:Rat):=by
   have:((r.toNat:Nat):Int)=r:=by omega
   exact_mod_cast this
  have h1:((R:Nat):Rat) * R<=r * (((n:Rat)+1) * ((n:Rat)+1)):=by rw [<- er];exact_mod_cast h1
  have h2:(r:Rat) * (((n:Rat)+1) * ((n:Rat)+1))<((R:Rat)+1) * ((R:Rat)+1):=by rw [<- er];exact_mod_cast h2
  have r0:(0:Rat)<=(R:Rat):=by exact_mod_cast qZ R
  have e0:=jf n
  refine ⟨R * yW n,Rat.mul_nonneg r0 (Rat.le_of_lt e0),?_,?_⟩
  ·have:=Rat.mul_le_mul_of_nonneg_right h1 (qjm (yW n))
   have e:(r:Rat) * (((n:Rat)+1) * ((n:Rat)+1)) * (yW n * yW n)=r:=by
    have:(((n:Rat)+1) * ((n:Rat)+1)) * (yW n * yW n)=(yW n * ((n:Rat)+1)) * (yW n * ((n:Rat)+1)):=by grind
    rw [Rat.mul_assoc,this,m]
    grind
   grind
  ·have:=Rat.mul_lt_mul_of_pos_right h2 (Rat.mul_pos e0 e0)
   have e:(r:Rat) * (((n:Rat)+1) * ((n:Rat)+1)) * (yW n * yW n)=r:=by
    have:(((n:Rat)+1) * ((n:Rat)+1)) * (yW n * yW n)=(yW n * ((n:Rat)+1)) * (yW n * ((n:Rat)+1)):=by grind
    rw [Rat.mul_assoc,this,m]
    grind
   grind
 exact ⟨fun n=>Classical.choose (key n),fun n=>(Classical.choose_spec (key n)).1,fun n=>(Classical.choose_spec (key n)).2.1,fun n=>(Classical.choose_spec (key n)).2.2⟩
theorem Rt.near {r:Int}{ρ:Nat->Rat}(h:Rt r ρ) (m n:Nat):ρ m<ρ n+yW n:=by
 have a:=h.le m
 have b:=h.lt n
 have:=h.nn n
 have:=jf n
 exact sqlt (by grind) (by grind)
abbrev Jj:=Nat->Rat
def SLin (u:Jj):Prop:=∃ C,0<=C/\∀ m n,u m - u n<=C * (yW m+yW n)
def Yu (u:Jj):Prop:=∃ ε,0<ε/\∃ N,∀ n,N<=n->ε<=u n
def Zf (u:Jj):Prop:=∃ C,0<=C/\∀ n,u n<=C * yW n/\-(C * yW n)<=u n
def SBd (u:Jj):Prop:=∃ B,0<=B/\∀ n,u n<=B/\-B<=u n
theorem qhf (n:Nat):yW n<=1:=by
 have m:=qaB n
 have e0:=jf n
 have:(0:Rat)<=(n:Rat):=by exact_mod_cast qZ n
 have:=Rat.mul_nonneg (Rat.le_of_lt e0) this
 grind
theorem qb0 {r:Int}{ρ:Nat->Rat}(h:Rt r ρ) (y:Rat):∃ C,0<=C/\∀ m n,y * ρ m - y * ρ n<=C * (yW m+yW n):=by
 rcases Rat.le_total (a:=0) (b:=y) with z | z
 ·refine ⟨y,z,fun m n=>?_⟩
  have:=h.near m n
  have:=jf m
  have:=Rat.mul_nonneg z (show 0<=yW m+yW n - (ρ m - ρ n) by grind)
  grind
 ·refine ⟨-y,by grind,fun m n=>?_⟩
  have:=h.near n m
  have:=jf n
  have:=Rat.mul_nonneg (show 0 <= -y by grind) (show 0<=yW m+yW n - (ρ n - ρ m) by grind)
  grind
theorem lin3 {r s:Int}{ρ σ:Jj}(h1:Rt r ρ) (h2:Rt s σ) (x y z:Rat):SLin (fun n=>x+y * ρ n+z * σ n):=by
 obtain ⟨C,c0,hC⟩:=qb0 h1 y
 obtain ⟨D,d0,hD⟩:=qb0 h2 z
 refine ⟨C+D,by grind,fun m n=>?_⟩
 have:=hC m n
 have:=hD m n
 grind
theorem qjI {u:Jj}(h:SLin u):Yu u\/Zf u\/Yu (fun n=>-u n):=by
 obtain ⟨C,c0,h⟩:=h
 by_cases a:∃ n,2 * C * yW n<u n
 ·obtain ⟨n,hn⟩:=a
  obtain ⟨N,hN⟩:=jr C (δ:=(u n - C * yW n) / 2) (by have:=Rat.mul_nonneg c0 (Rat.le_of_lt (jf n));grind)
  refine .inl ⟨(u n - C * yW n) / 2,by have:=Rat.mul_nonneg c0 (Rat.le_of_lt (jf n));grind,N,fun m hm=>?_⟩
  have:=h n m
  have:=hN m hm
  grind
 ·by_cases b:∃ n,2 * C * yW n < -u n
  ·obtain ⟨n,hn⟩:=b
   obtain ⟨N,hN⟩:=jr C (δ:=(-u n - C * yW n) / 2) (by have:=Rat.mul_nonneg c0 (Rat.le_of_lt (jf n));grind)
   refine .inr (.inr ⟨(-u n - C * yW n) / 2,by have:=Rat.mul_nonneg c0 (Rat.le_of_lt (jf n));grind,N,fun m hm=>?_⟩)
   have:=h m n
   have:=hN m hm
   grind
  ·refine .inr (.inl ⟨2 * C,by grind,fun n=>?_⟩)
   have a1:¬ 2 * C * yW n<u n:=fun z=>a ⟨n,z⟩
   have b1:¬ 2 * C * yW n < -u n:=fun z=>b ⟨n,z⟩
   constructor <;> grind
theorem Zf.bd {u:Jj}(h:Zf u):SBd u:=by
 obtain ⟨C,c0,h⟩:=h
 refine ⟨C,c0,fun n=>?_⟩
 have:=h n
 have:=Rat.mul_nonneg c0 (show 0<=1 - yW n by have:=qhf n;grind)
 constructor <;> grind
theorem Rt.bd {r:Int}{ρ:Jj}(h:Rt r ρ):SBd ρ:=by
 refine ⟨ρ 0+yW 0,by have:=h.nn 0;have:=jf 0;grind,fun n=>?_⟩
 have:=h.near n 0
 have:=h.nn n
 have:=h.nn 0
 have:=jf 0
 constructor <;> grind
theorem SBd.mul {u v:Jj}(h:SBd u) (g:SBd v):SBd (fun n=>u n * v n):=by
 obtain ⟨B,b0,h⟩:=h
 obtain ⟨D,d0,g⟩:=g
 refine ⟨B * D,Rat.mul_nonneg b0 d0,fun n=>?_⟩
 obtain ⟨h1,h2⟩:=h n
 obtain ⟨g1,g2⟩:=g n
 have a1:=Rat.mul_nonneg (show 0<=B - u n by grind) (show 0<=D+v n by grind)
 have a2:=Rat.mul_nonneg (show 0<=B+u n by grind) (show 0<=D - v n by grind)
 have a3:=Rat.mul_nonneg (show 0<=B - u n by grind) (show 0<=D - v n by grind)
 have a4:=Rat.mul_nonneg (show 0<=B+u n by grind) (show 0<=D+v n by grind)
 constructor <;> grind
theorem SBd.add {u v:Jj}(h:SBd u) (g:SBd v):SBd (fun n=>u n+v n):=by
 obtain ⟨B,b0,h⟩:=h
 obtain ⟨D,d0,g⟩:=g
 refine ⟨B+D,by grind,fun n=>?_⟩
 have:=h n
 have:=g n
 constructor <;> grind
theorem SBd.neg {u:Jj}(h:SBd u):SBd (fun n=>-u n):=by
 obtain ⟨B,b0,h⟩:=h
 refine ⟨B,b0,fun n=>?_⟩
 have:=h n
 constructor <;> grind
theorem SBd.con (x:Rat):SBd (fun _=>x):=by
 rcases Rat.le_total (a:=0) (b:=x) with z | z
 ·exact ⟨x,z,fun _=>by constructor <;> grind⟩
 ·exact ⟨-x,by grind,fun _=>by constructor <;> grind⟩
theorem Zf.add {u v:Jj}(h:Zf u) (g:Zf v):Zf (fun n=>u n+v n):=by
 obtain ⟨C,c0,h⟩:=h
 obtain ⟨D,d0,g⟩:=g
 refine ⟨C+D,by grind,fun n=>?_⟩
 have:=h n
 have:=g n
 constructor <;> grind
theorem Zf.mul {u v:Jj}(h:Zf u) (g:SBd v):Zf (fun n=>v n * u n):=by
 obtain ⟨C,c0,h⟩:=h
 obtain ⟨D,d0,g⟩:=g
 refine ⟨D * C,Rat.mul_nonneg d0 c0,fun n=>?_⟩
 obtain ⟨h1,h2⟩:=h n
 obtain ⟨g1,g2⟩:=g n
 have a1:=Rat.mul_nonneg (show 0<=D - v n by grind) (show 0<=C * yW n+u n by grind)
 have a2:=Rat.mul_nonneg (show 0<=D+v n by grind) (show 0<=C * yW n - u n by grind)
 have a3:=Rat.mul_nonneg (show 0<=D - v n by grind) (show 0<=C * yW n - u n by grind)
 have a4:=Rat.mul_nonneg (show 0<=D+v n by grind) (show 0<=C * yW n+u n by grind)
 constructor <;> grind
theorem Zf.neg {u:Jj}(h:Zf u):Zf (fun n=>-u n):=by
 obtain ⟨C,c0,h⟩:=h
 refine ⟨C,c0,fun n=>?_⟩
 have:=h n
 constructor <;> grind
theorem Yu.add {u v:Jj}(h:Yu u) (g:Yu v):Yu (fun n=>u n+v n):=by
 obtain ⟨a,a0,N,h⟩:=h
 obtain ⟨b,b0,M,g⟩:=g
 refine ⟨a+b,by grind,N+M,fun n hn=>?_⟩
 have:=h n (by omega)
 have:=g n (by omega)
 grind
theorem Yu.mul {u v:Jj}(h:Yu u) (g:Yu v):Yu (fun n=>u n * v n):=by
 obtain ⟨a,a0,N,h⟩:=h
 obtain ⟨b,b0,M,g⟩:=g
 refine ⟨a * b,Rat.mul_pos a0 b0,N+M,fun n hn=>?_⟩
 have h1:=h n (by omega)
 have g1:=g n (by omega)
 have x1:=Rat.mul_nonneg (show 0<=u n - a by grind) (show 0<=v n by grind)
 have x2:=Rat.mul_nonneg (Rat.le_of_lt a0) (show 0<=v n - b by grind)
 grind
theorem Yu.nul {u v:Jj}(h:Yu u) (g:Zf v):Yu (fun n=>u n+v n):=by
 obtain ⟨a,a0,N,h⟩:=h
 obtain ⟨D,d0,g⟩:=g
 obtain ⟨M,hM⟩:=jr D (δ:=a / 2) (by grind)
 refine ⟨a / 2,by grind,N+M,fun n hn=>?_⟩
 have:=h n (by omega)
 have:=g n
 have:=hM n (by omega)
 grind
theorem Yu.not_nul {u:Jj}(h:Yu u) (g:Zf u):False:=by
 obtain ⟨a,a0,N,h⟩:=h
 obtain ⟨D,d0,g⟩:=g
 obtain ⟨M,hM⟩:=jr D (δ:=a / 2) (by grind)
 have:=h (N+M) (by omega)
 have:=g (N+M)
 have:=hM (N+M) (by omega)
 grind
theorem Yu.not_neg {u:Jj}(h:Yu u) (g:Yu (fun n=>-u n)):False:=by
 obtain ⟨a,a0,N,h⟩:=h
 obtain ⟨b,b0,M,g⟩:=g
 have:=h (N+M) (by omega)
 have:=g (N+M) (by omega)
 grind
def SSg (u:Jj) (k:Int):Prop:=(k=1/\Yu u)\/(k=0/\Zf u)\/(k = -1/\Yu (fun n=>-u n))
theorem SSg.uniq {u:Jj}{k k':Int}(h:SSg u k) (g:SSg u k'):k=k':=by
 rcases h with ⟨rfl,h⟩ | ⟨rfl,h⟩ | ⟨rfl,h⟩ <;> rcases g with ⟨rfl,g⟩ | ⟨rfl,g⟩ | ⟨rfl,g⟩
 ·rfl
 ·exact (h.not_nul g).elim
 ·exact (h.not_neg g).elim
 ·exact (g.not_nul h).elim
 ·rfl
 ·exact (g.not_nul h.neg).elim
 ·exact (g.not_neg h).elim
 ·exact (h.not_nul g.neg).elim
 ·rfl
theorem SSg.congr {u v:Jj}{k:Int}(h:SSg u k) (e:∀ n,u n=v n):SSg v k:=by
 have:u=v:=funext e
 rw [<- this]
 exact h
theorem SSg.neg {u:Jj}{k:Int}(h:SSg u k):SSg (fun n=>-u n) (-k):=by
 rcases h with ⟨rfl,h⟩ | ⟨rfl,h⟩ | ⟨rfl,h⟩
 ·refine .inr (.inr ⟨rfl,?_⟩)
  have:(fun n=>- -u n)=u:=funext fun n=>by grind
  show Yu (fun n=>- -u n)
  rw [this]
  exact h
 ·exact .inr (.inl ⟨rfl,h.neg⟩)
 ·exact .inl ⟨rfl,h⟩
theorem SSg.addNul {u v:Jj}{k:Int}(h:SSg u k) (g:Zf v):SSg (fun n=>u n+v n) k:=by
 rcases h with ⟨rfl,h⟩ | ⟨rfl,h⟩ | ⟨rfl,h⟩
 ·exact .inl ⟨rfl,h.nul g⟩
 ·exact .inr (.inl ⟨rfl,h.add g⟩)
 ·refine .inr (.inr ⟨rfl,?_⟩)
  have:=h.nul g.neg
  have e:(fun n=>-u n+-v n)=fun n=>-(u n+v n):=funext fun n=>by grind
  rw [e] at this
  exact this
theorem SSg.mulPos {u v:Jj}{k:Int}(h:SSg u k) (p:Yu v) (b:SBd v):SSg (fun n=>v n * u n) k:=by
 rcases h with ⟨rfl,h⟩ | ⟨rfl,h⟩ | ⟨rfl,h⟩
 ·exact .inl ⟨rfl,p.mul h⟩
 ·exact .inr (.inl ⟨rfl,h.mul b⟩)
 ·refine .inr (.inr ⟨rfl,?_⟩)
  have:=p.mul h
  have e:(fun n=>v n * -u n)=fun n=>-(v n * u n):=funext fun n=>by grind
  rw [e] at this
  exact this
theorem Zf.sq {u:Jj}(h:Zf u):Zf (fun n=>u n * u n):=h.mul h.bd
theorem qai {u w:Jj}{b k:Int}(hu:Yu u) (hw:SSg w b) (bu:SBd u) (bw:SBd w) (hk:SSg (fun n=>u n+w n) k):SSg (fun n=>u n * u n+(b:Rat) * (w n * w n)) k:=by
 rcases hw with ⟨rfl,hw⟩ | ⟨rfl,hw⟩ | ⟨rfl,hw⟩
 ·have e:=hk.uniq (.inl ⟨rfl,hu.add hw⟩)
  subst e
  refine .inl ⟨rfl,?_⟩
  have:=(hu.mul hu).add (hw.mul hw)
  have e:(fun n=>u n * u n+w n * w n)=fun n=>u n * u n+((1:Int):Rat) * (w n * w n):=funext fun n=>by have:((1:Int):Rat)=1:=rfl;rw [this];grind
  rw [e] at this
  exact this
 ·have e:=hk.uniq (.inl ⟨rfl,hu.nul hw⟩)
  subst e
  refine .inl ⟨rfl,?_⟩
  have:=hu.mul hu
  have e:(fun n=>u n * u n)=fun n=>u n * u n+((0:Int):Rat) * (w n * w n):=funext fun n=>by have:((0:Int):Rat)=0:=rfl;rw [this];grind
  rw [e] at this
  exact this
 ·have p:Yu (fun n=>u n+-w n):=hu.add hw
  refine (hk.mulPos p (bu.add bw.neg)).congr fun n=>?_
  have:((-1:Int):Rat) = -1:=rfl
  rw [this]
  grind
theorem sg_sq {w:Jj}{b:Int}(hw:SSg w b):SSg (fun n=>(b:Rat) * (w n * w n)) b:=by
 rcases hw with ⟨rfl,hw⟩ | ⟨rfl,hw⟩ | ⟨rfl,hw⟩
 ·refine (SSg.congr (.inl ⟨rfl,hw.mul hw⟩) fun n=>?_)
  have:((1:Int):Rat)=1:=rfl
  rw [this]
  grind
 ·refine (SSg.congr (u:=fun _=>0) (.inr (.inl ⟨rfl,0,by grind,fun n=>by constructor <;> grind⟩)) fun n=>?_)
  have:((0:Int):Rat)=0:=rfl
  rw [this]
  grind
 ·refine .inr (.inr ⟨rfl,?_⟩)
  have:=hw.mul hw
  have e:(fun n=>-w n * -w n)=fun n=>-(((-1:Int):Rat) * (w n * w n)):=funext fun n=>by have:((-1:Int):Rat) = -1:=rfl;rw [this];grind
  rw [e] at this
  exact this
theorem qgo {u w:Jj}{a b k:Int}(hu:SSg u a) (hw:SSg w b) (bu:SBd u) (bw:SBd w) (hk:SSg (fun n=>u n+w n) k):SSg (fun n=>(a:Rat) * (u n * u n)+(b:Rat) * (w n * w n)) k:=by
 rcases id hu with ⟨rfl,h⟩ | ⟨rfl,h⟩ | ⟨rfl,h⟩
 ·refine (qai h hw bu bw hk).congr fun n=>?_
  have:((1:Int):Rat)=1:=rfl
  rw [this]
  grind
 ·have e:SSg (fun n=>u n+w n) b:=(hw.addNul h).congr fun n=>by grind
  have e:=hk.uniq e
  subst e
  refine (sg_sq hw).congr fun n=>?_
  have:((0:Int):Rat)=0:=rfl
  rw [this]
  grind
 ·have:=qai h hw.neg bu.neg bw.neg (hk.neg.congr fun n=>by grind)
  have e:- -k=k:=by omega
  rw [<- e]
  refine this.neg.congr fun n=>?_
  have:((-1:Int):Rat) = -1:=rfl
  rw [this,Rat.intCast_neg]
  grind
end L2
namespace L2
theorem qeB (x:Int):SSg (fun _=>(x:Rat)) x.sign:=by
 rcases Int.lt_trichotomy x 0 with h | h | h
 ·rw [jk h]
  refine .inr (.inr ⟨rfl,-(x:Rat),?_,0,fun _ _=>Rat.le_refl⟩)
  have:=Rat.intCast_lt_intCast.mpr h
  grind
 ·subst h
  exact .inr (.inl ⟨rfl,0,by grind,fun n=>by constructor <;> grind⟩)
 ·rw [j8 h]
  exact .inl ⟨rfl,(x:Rat),Rat.intCast_pos.mpr h,0,fun _ _=>Rat.le_refl⟩
theorem Rt.zero {ρ:Jj}(h:Rt 0 ρ) (n:Nat):ρ n=0:=by
 have a:=h.le n
 have b:=h.nn n
 have z:((0:Int):Rat)=0:=rfl
 rw [z] at a
 by_cases c:ρ n=0
 ·exact c
 ·have:=Rat.mul_pos (show 0<ρ n by grind) (show 0<ρ n by grind)
  grind
theorem Rt.pos {r:Int}{ρ:Jj}(h:Rt r ρ) (r0:0<r):Yu ρ:=by
 refine ⟨1 / 2,by grind,1,fun n hn=>?_⟩
 have a:=h.lt n
 have r1:(1:Rat)<=(r:Rat):=by
  have:(1:Int)<=r:=by omega
  exact_mod_cast this
 have b:=h.nn n
 have e0:=jf n
 have c:1<ρ n+yW n:=sqlt (by grind) (by grind)
 have m:=qaB n
 have:(1:Rat)<=(n:Rat):=by exact_mod_cast hn
 have:=Rat.mul_nonneg (Rat.le_of_lt e0) (show (0:Rat)<=(n:Rat) - 1 by grind)
 grind
theorem Rt.nul {r:Int}{ρ:Jj}(h:Rt r ρ):Zf (fun n=>(r:Rat) - ρ n * ρ n):=by
 obtain ⟨B,b0,hB⟩:=h.bd
 refine ⟨2 * B+1,by grind,fun n=>?_⟩
 have a:=h.lt n
 have c:=h.le n
 have e0:=jf n
 have e1:=qhf n
 obtain ⟨d1,d2⟩:=hB n
 have x1:=Rat.mul_nonneg (Rat.le_of_lt e0) (show 0<=B - ρ n by grind)
 have x2:=Rat.mul_nonneg (Rat.le_of_lt e0) (show 0<=1 - yW n by grind)
 have x3:=Rat.mul_nonneg (show 0<=2 * B+1 by grind) (Rat.le_of_lt e0)
 constructor <;> grind
def ys (y r:Int):Int:=if r=0 then 0 else y.sign
theorem qjr {r:Int}{ρ:Jj}(h:Rt r ρ) (r0:0<=r) (y:Int):SSg (fun n=>(y:Rat) * ρ n) (ys y r):=by
 unfold ys
 split
 ·rename_i e
  subst e
  refine .inr (.inl ⟨rfl,0,by grind,fun n=>?_⟩)
  have e:=h.zero n
  show (y:Rat) * ρ n<=0 * yW n/\-(0 * yW n)<=(y:Rat) * ρ n
  rw [e]
  constructor <;> grind
 ·exact ((qeB y).mulPos (h.pos (by omega)) h.bd).congr fun n=>by grind
theorem qhA (y r:Int):((ys y r:Int):Rat) * ((y:Rat) * y) * r=((y * y.natAbs * r:Int):Rat):=by
 have e:y.sign * (y * y)=y * y.natAbs:=by
  rcases Int.lt_trichotomy y 0 with h | h | h
  ·rw [jk h]
   have:((y.natAbs:Nat):Int) = -y:=by omega
   rw [this]
   grind
  ·subst h;rfl
  ·rw [j8 h]
   have:((y.natAbs:Nat):Int)=y:=by omega
   rw [this]
   grind
 unfold ys
 split
 ·rename_i z
  subst z
  simp
 ·rw [<- e]
  simp only [Rat.intCast_mul]
theorem x_sq (x:Int):((x.sign:Int):Rat) * ((x:Rat) * x)=((x * x.natAbs:Int):Rat):=by
 have:=qhA x 1
 unfold ys at this
 rw [if_neg (by decide),Int.mul_one] at this
 have z:((1:Int):Rat)=1:=rfl
 rw [z] at this
 grind
theorem qjJ {u:Jj}(h:SLin u):∃ k,SSg u k:=by
 rcases qjI h with p | p | p
 ·exact ⟨1,.inl ⟨rfl,p⟩⟩
 ·exact ⟨0,.inr (.inl ⟨rfl,p⟩)⟩
 ·exact ⟨-1,.inr (.inr ⟨rfl,p⟩)⟩
def rsg (x y r:Int):Int:=(x * x.natAbs+y * y.natAbs * r).sign
theorem qjQ {r:Int}{ρ:Jj}(h:Rt r ρ) (r0:0<=r) (x y:Int):SSg (fun n=>(x:Rat)+y * ρ n) (rsg x y r):=by
 obtain ⟨k,hk⟩:=qjJ (lin3 h h (x:Rat) y 0)
 have hk:SSg (fun n=>(x:Rat)+(y:Rat) * ρ n) k:=hk.congr fun n=>by grind
 have s:=qgo (qeB x) (qjr h r0 y) (SBd.con _) ((SBd.con (y:Rat)).mul h.bd) hk
 have nl:=(h.nul).mul ((SBd.con (((ys y r:Int):Rat) * ((y:Rat) * y))))
 have s2:=(s.addNul nl).congr (v:=fun _=>((x * x.natAbs+y * y.natAbs * r:Int):Rat)) fun n=>by
  rw [Rat.intCast_add,<- x_sq x,<- qhA y r]
  grind
 have:=s2.uniq (qeB _)
 unfold rsg
 rw [<- this]
 exact hk
def trs (x y r z s:Int):Int:=rsg (rsg x y r * (x * x+y * y * r)+z * z.natAbs * s) (2 * rsg x y r * x * y) r
theorem qjy {r s:Int}{ρ σ:Jj}(h1:Rt r ρ) (h2:Rt s σ) (r0:0<=r) (s0:0<=s) (x y z:Int):SSg (fun n=>(x:Rat)+y * ρ n+z * σ n) (trs x y r z s):=by
 obtain ⟨k,hk⟩:=qjJ (lin3 h1 h2 (x:Rat) y z)
 have hA:=qjQ h1 r0 x y
 unfold trs
 generalize rsg x y r=a at hA
 have bA:SBd (fun n=>(x:Rat)+y * ρ n):=(SBd.con (x:Rat)).add ((SBd.con (y:Rat)).mul h1.bd)
 have s':=qgo hA (qjr h2 s0 z) bA ((SBd.con (z:Rat)).mul h2.bd) hk
 have n1:=(h1.nul).mul (SBd.con ((a:Rat) * ((y:Rat) * y)))
 have n2:=(h2.nul).mul (SBd.con (((ys z s:Int):Rat) * ((z:Rat) * z)))
 have s2:=((s'.addNul n1).addNul n2).congr (v:=fun n=>((a * (x * x+y * y * r)+z * z.natAbs * s:Int):Rat)+((2 * a * x * y:Int):Rat) * ρ n) fun n=>by
  rw [Rat.intCast_add,<- qhA z s]
  simp only [Rat.intCast_mul,Rat.intCast_add]
  have:((2:Int):Rat)=2:=rfl
  rw [this]
  grind
 have:=s2.uniq (qjQ h1 r0 _ _)
 rw [<- this]
 exact hk
open PySem PySem.Spec PyProof.Rows
section
variable {X:Cx}{tg:Expr}
end
section
variable {X:Cx}{K:W.Frag}{tg:Expr}{pos:Pos}
variable {a b c:Expr}{ta tb tc:TEd}
end
section
variable {X:Cx}{K:W.Frag}
theorem qeH (hc:X.calm=true):yL X (.builtin "min") (fun xs H Q=>∃ p ns,xs=[.ref p]/\SqL X.K H p (ns.map V.int)/\ns≠[]/\∀ m:Int,m∈ns->(∀ a∈ns,m<=a)->Q (.int m) H):=by
 intro pins s σ H xs us Q I r h
 obtain ⟨p,ns,rfl,hq,hne,q⟩:=h
 obtain ⟨u,rfl,rx⟩:=YS r
 cases rx
 obtain ⟨its,rv,pl,_⟩:=I.list hq
 obtain ⟨ys,rfl,e⟩:=JA rv
 have hl:s.heap.IsList p (intItems ys.toArray):=by
  have:=pl.isList
  simpa [intItems] using this
 have hn:0<ys.length:=by
  have:=yt.mpr hne
  rw [<- e,List.length_map] at this
  exact this
 refine min_intList (I.ok.hd hc) hl (by simpa using hn) fun v h' tk hv hk=>?_
 obtain ⟨t,rfl⟩:=intItems_at hv
 obtain ⟨h1,h2⟩:=argBest_lt (numAt ys.toArray) (ys.toArray.size - 1)
 have na:∀ j,j<ys.length->∃ z,ns[j]?=some z/\numAt ys.toArray j=z:=fun j hj=>by
  refine ⟨ys[j].1,by rw [<- e];simp [hj],by simp [numAt,hj]⟩
 refine ⟨.int _,H,I.kept hk,⟨_,rfl⟩,q _ ?_ fun a ha=>?_⟩
 ·have h0:argBest (fun i j=>decide (numAt ys.toArray i<numAt ys.toArray j)) (ys.toArray.size - 1)<ys.length:=by
   simp only [List.size_toArray] at h1 ⊢;omega
  obtain ⟨z,e1,e2⟩:=na _ h0
  rw [e2]
  exact List.mem_of_getElem? e1
 ·obtain ⟨j,hj⟩:=List.mem_iff_getElem?.mp ha
  have hj2:j<ys.length:=by
   have:=(qp.mp hj).1
   rwa [<- e,List.length_map] at this
  obtain ⟨z,e1,e2⟩:=na j hj2
  rw [hj] at e1
  cases e1
  rw [<- e2]
  exact h2 j (by simp only [List.size_toArray];omega)
def qgT:RAd:=fun es μ Q=>match es with
 | [e]=>∃ ns:List Int,LstOf μ e (ns.map PyData.int)/\ns≠[]/\∀ m:Int,m∈ns->(∀ a∈ns,m<=a)->Q (.d (.int m)) μ
 | _=>False
theorem qew (hc:X.calm=true) (hK:X.K=K:=by rfl):yL X (.builtin "min") (upC K qgT):=by
 subst hK
 refine (qeH hc).mono fun xs H Q h=>?_
 obtain ⟨μ,es,Q0,M,hp,q,cl⟩:=h
 unfold qgT at q
 split at q
 ·obtain ⟨v,rfl,i1⟩:=JY hp
  obtain ⟨ns,h1,hne,q⟩:=q
  obtain ⟨p,ys,rfl,h2,h3⟩:=h1.get M i1
  rw [h3.ints_of] at h2
  exact ⟨p,ns,rfl,h2,hne,fun m h4 h5=>cl _ μ _ _ (q m h4 h5) M (yc.refl _) (.int _)⟩
 ·exact q.elim
end
end L2
local macro_rules | `(tactic| walk_at "i")=>`(tactic| first | refine jB (fun c=>?_) (fun c=>?_))
namespace K75
open PySem L2
def top (i:Nat):Stmt:=PySem.Challenge.pw_halveline_k75_orders_of_cuts.main.body.getD i (.Pass ⟨0,0,0,0⟩)
structure Txt (mg:Str->Option Value):Prop where
 len_:mg "len" = none
 range_:mg "range" = none
 max_:mg "max" = none
 min_:mg "min" = none
 abs_:mg "abs" = none
 int_:mg "int" = none
 isinstance_:mg "isinstance" = none
 tuple_:mg "tuple" = none
 bool_:mg "bool" = none
 list_:mg "list" = none
 all_:mg "all" = none
 any_:mg "any" = none
 set_:mg "set" = none
 sorted_:mg "sorted" = none
 str_:mg "str" = none
 enumerate_:mg "enumerate" = none
 zip_:mg "zip" = none
 divmod_:mg "divmod" = none
 sum_:mg "sum" = none
 reversed_:mg "reversed" = none
abbrev qhP:Stmt:=top 1
abbrev jD:Stmt:=top 2
abbrev qaX:Stmt:=top 4
abbrev YW:Stmt:=top 5
abbrev qcW:Stmt:=top 7
abbrev qc2:Stmt:=top 8
abbrev yU:Stmt:=top 10
abbrev qbv:Stmt:=top 11
abbrev qfd:Stmt:=top 12
abbrev Ya:Stmt:=top 13
abbrev Ja:Stmt:=top 14
abbrev qdc:Stmt:=top 15
abbrev jx:Stmt:=top 17
abbrev jm:Stmt:=top 18
abbrev scut:Stmt:=top 19
abbrev YV:Stmt:=top 20
abbrev Yb:Stmt:=top 22
abbrev jC:Stmt:=top 23
abbrev Yc:Stmt:=top 24
abbrev Jl:Stmt:=top 26
abbrev Ye:Stmt:=top 27
abbrev Yd:Stmt:=top 28
abbrev Jm:Stmt:=top 30
abbrev JK:Stmt:=top 31
abbrev JI:Stmt:=top 32
abbrev Yg:Stmt:=top 33
abbrev Jv:Stmt:=top 34
abbrev Jc:Stmt:=top 35
abbrev JM:Stmt:=top 36
abbrev YX:Stmt:=top 37
abbrev Jd:Stmt:=top 38
abbrev Yf:Stmt:=top 39
abbrev Jw:Stmt:=top 41
abbrev jE:Stmt:=top 42
abbrev yw:Stmt:=top 43
abbrev Ju:Stmt:=top 44
abbrev JJ:Stmt:=top 45
abbrev Jb:Stmt:=top 46
abbrev yZ:Stmt:=top 47
abbrev y4:Stmt:=top 48
abbrev qeY:Stmt:=top 49
section
variable {P:Program}{w:World}{K:W.Frag}{mg:Str->Option Value}{base:Heap}{CX:CXT}
def sDraw (M:Int):SpD:=fun es μ Q=>∃ (p:Addr) (m:Int),es=[.m p,.d (.int m)]/\(p,.pot M)∈μ/\0<m/\m<=10000000000000000000000000000000000000000/\∀ d,0<=d->d<m->Q (.d (.int d)) μ
def spTakeM (M:Int):Sp:=fun vs H Q _=>∃ (p:Addr) (m:Int),vs=[.ref p,.int m]/\Pot M H p/\0<m/\m<=10000000000000000000000000000000000000000/\∀ d H',0<=d->d<m->Pot M H' p->Stp p H H'->Q (.int d) H'
theorem draw_up {K:W.Frag}{M:Int}{vs:List V}{H:Hp}{Q:VK}{E:XK}(h:qW K (sDraw M) vs H Q E):spTakeM M vs H Q E:=by
 obtain ⟨μ,es,Q0,hM,hp,⟨p,m,rfl,hpot,m0,m1,q⟩,cl⟩:=h
 obtain ⟨v,v',rfl,i1,i2⟩:=qap hp
 have i1:v=_:=i1
 subst i1
 cases i2
 refine ⟨p,m,rfl,hM.ob _ _ hpot,m0,m1,fun d H' d0 d1 hP s=>?_⟩
 obtain ⟨M',s'⟩:=qdv hM hpot hP s
 exact cl _ μ _ H' (q d d0 d1) M' s' (.int d)
abbrev PA0:MO:=.pot 2147483629
def sPot:SpD:=fun es μ Q=>∃ (ns:List Int) (k:Nat),es=[.d (.list (ns.map .int)),.d (.int k)]/\ns.length<=63/\k<=63/\∀ p,p∉μ.map Prod.fst->Q (.m p) ((p,PA0)::μ)
theorem qf4 {ns:List Int}{lo hi:Option Int}{i:Nat}{x:PyData}(h:(Z8 (ns.map PyData.int) lo hi)[i]?=some x):∃ y,x = .int y:=by
 obtain ⟨y,_,e⟩:=qG.mp (yV (yn (List.mem_of_getElem? h)))
 exact ⟨y,e.symm⟩
theorem qgx:FnScope ["_law_script", "_law_k", "_law_cell", "_law_mixed", "_law_one"] ["_law_script", "_law_k"] (qt Jl):=⟨rfl,rfl,rfl,by decide +kernel,rfl,by decide +kernel,by decide +kernel⟩
theorem qky {f:Addr}{fd:FuncData}(F:Fun K "_law_pot" "_law_pot" Jl f fd) (T:Txt mg):FnOk P w K mg base CX 1 f fd ["_law_script", "_law_k"] (qW K sPot):=by
 refine F.okD qgx (fun es μ Q hq0=>by obtain ⟨ns,k,e,_⟩:=hq0;subst e;rfl) (fun cdv A outer s H E es μ Q hr hq0=>?_)
 obtain ⟨ns,n,e,hl,hn,k⟩:=hq0
 subst e
 have nd:=qgx.nd
 have key:∃ t,DSs K (qcE CX P w K mg base ["_law_script", "_law_k", "_law_cell", "_law_mixed", "_law_one"] "_law_pot" (qt Jl) f cdv A outer s H E).nox ((y7 Jl).drop 1) t ∧
   ∀ cell:Int,t { nx:=fun _ μ'=>Q (.d .none) μ',rt:=Q } [some (.d (.list (ns.map .int))),some (.d (.int n)),some (.d (.int cell)),none,none] μ:=by
  refine ⟨_,(qr (qP (i:=3) nd rfl (by first | exact Or.inl rfl | exact Or.inr rfl) (qO yx qu (qO Jh qu (dv 1))))
   (qr (Y8 PassesOwn.never rfl (y6 (Ys (dv 0) Yr (Yq qu))) (qw (i:=4) nd rfl (by first | exact Or.inl rfl | exact Or.inr rfl)) (qH (qP (i:=3) nd rfl (by first | exact Or.inl rfl | exact Or.inr rfl) (qO Y9 (qO yx (qO Jh (dv 3) qu) (dv 4)) qu))))
   (qH (qbg (qex (qa (qQ (qb6 rfl) (by rfl) T.max_ Zb (qa qu (qa (qO yl (dv 2) (qO JC qu qu)) qd))) (qa (dv 3) qd))))))),fun cell=>?_⟩
  refine ⟨⟨qht (by decide) (by decide),qht (by omega) (by omega)⟩,_,.d _,_,.d _,?_⟩
  refine forL (fun i ρ' μ'=>μ'=μ/\∃ (z:Int) (v:Option En),ρ'=[some (.d (.list (ns.map .int))),some (.d (.int n)),some (.d (.int cell)),some (.d (.int z)),v]/\0<=z/\z<2147483629) ⟨rfl,_,_,rfl,by omega,by omega⟩ (fun _ _ _ _=>.d _) ?_ ?_
  ·rintro i x ρ' μ' hx ⟨rfl,z,v,rfl,z0,z1⟩
   obtain ⟨y,rfl⟩:=qf4 hx
   exact ⟨⟨qht (by omega) (by omega),qht (by decide) (by decide)⟩,(show (0:Int)<2147483629 by decide),Wks.of ⟨rfl,_,_,rfl,Int.emod_nonneg _ (by decide),Int.emod_lt_of_pos _ (by decide)⟩⟩
  ·rintro ρ' μ' ⟨rfl,z,v,rfl,z0,z1⟩
   refine ⟨⟨by decide,by decide,by decide⟩,zl2,fun p hp=>⟨_,_,FzR.pot ?_ z0 z1,k p hp⟩⟩
   dsimp only
   split <;> omega
 obtain ⟨t,ht,hk⟩:=key
 refine ⟨_,(qr (qP (i:=2) nd rfl (by first | exact Or.inl rfl | exact Or.inr rfl) (qbj (yj qaD (dv 1) (qQ jZ (by rfl) T.len_ j5 (qa (dv 0) qd)) (qY _)) (jh qN (dv 0) (dv 1) (fun _ _=>rfl)) qu))
   ht),?_⟩
 refine ⟨_,.l (.d _),?_⟩
 rw [List.length_map]
 refine jB (fun c=>?_) (fun c=>?_)
 ·have hc:(n:Int)<(ns.length:Int):=qy c
  have hn2:n<ns.length:=by omega
  exact ⟨.int ns[n],qbo (by rw [List.getElem?_map,List.getElem?_eq_getElem hn2];rfl),hk ns[n]⟩
 ·exact hk 0
theorem qc5:FnScope ["_law_pot_here", "_law_many", "_law_digit"] ["_law_pot_here", "_law_many"] (qt Ye):=⟨rfl,rfl,rfl,by decide +kernel,rfl,by decide +kernel,by decide +kernel⟩
theorem qis {f:Addr}{fd:FuncData}(F:Fun K "_law_take" "_law_take" Ye f fd):FnOk P w K mg base CX 1 f fd ["_law_pot_here", "_law_many"] (qW K (sDraw 2147483629)):=by
 refine FnOk.imp (sp:=spTakeM 2147483629) ?_ fun _ _ _ _ h=>draw_up h
 refine F.okG qc5 (fun vs H Q E h=>?_) (fun cdv A outer s H vs Q E hr h=>?_)
 ·obtain ⟨p,m,rfl,_⟩:=h
  rfl
 ·obtain ⟨p,m,rfl,⟨p0,p1,e,h0,h1,h2⟩,m0,m1,k⟩:=h
  have nd:=qc5.nd
  refine ⟨_,(JW (qka (qdp qkr (qa3 JO (pv 0) jF (fun _ _=>rfl)) jF (qY _)) (JW (qgX (i:=2) nd rfl (by first | exact Or.inl rfl | exact Or.inr rfl) (Zg qaq (qa3 JO (pv 0) jF (fun _ _=>rfl)) (pv 1)))
   (JW (qdu (Zg ZK (qa3 JO (pv 0) jF (fun _ _=>rfl)) (pv 1)) (qdE (pv 0) jF ZB))
   (qa2 (qbK (pv 2))))) qds)
   (JW (qdu (Zg qaq (Zg qdH (Zg qa5 (qa3 JO (pv 0) jF (fun _ _=>rfl)) jF) jF) jF) (qdE (pv 0) jF ZB))
   (qa2 (qbK (Zg qaq (Zg ZK (Zg qaq (Zg qa5 (qa3 JO (pv 0) jF (fun _ _=>rfl)) (qa3 JO (pv 0) jF (fun _ _=>rfl))) jF) jF) (pv 1)))))),?_⟩
  refine ⟨_,rfl,p,_,_,_,rfl,rfl,SqL.of e,rfl,_,_,rfl,rfl,_,rfl,?_⟩
  refine jB (fun c=>?_) (fun c=>?_)
  ·have hc:0<p0:=qy c
   refine ⟨_,rfl,p,_,_,_,rfl,rfl,SqL.of e,rfl,_,rfl,_,_,rfl,rfl,m0,?_⟩
   refine ⟨_,rfl,p,_,_,_,rfl,rfl,SqL.of e,rfl,_,rfl,_,_,rfl,rfl,⟨by omega,Big.of 10000000000000000000000000000000000000000 (by decide +kernel) (by omega) (by omega)⟩,_,rfl,p,_,_,_,rfl,rfl,e,rfl,?_⟩
   refine ⟨_,rfl,?_⟩
   refine k _ _ (Int.emod_nonneg _ (by omega)) (Int.emod_lt_of_pos _ m0) ⟨p0.fdiv m,p1,yf,Int.fdiv_nonneg h0 (by omega),h1,h2⟩ Stp.upd
  ·refine ⟨_,rfl,p,_,_,_,rfl,rfl,SqL.of e,rfl,_,_,rfl,rfl,⟨Big.of 2147483629 (by decide) (by omega) (by omega),Big.of 39373 (by decide) (by decide) (by decide)⟩,_,_,rfl,rfl,_,_,rfl,rfl,(show (0:Int)<2147483629 by decide),_,rfl,p,_,_,_,rfl,rfl,e,rfl,?_⟩
   have g0:0<=(p1 * 39373+2311) % 2147483629:=Int.emod_nonneg _ (by decide)
   have g1:(p1 * 39373+2311) % 2147483629<2147483629:=Int.emod_lt_of_pos _ (by decide)
   have e':∀ z,(upd H p (.lst [V.int p0,V.int z])) p=some (.lst [V.int p0,V.int z]):=fun z=>yf
   refine ⟨_,rfl,p,_,_,_,rfl,rfl,SqL.of (e' _),rfl,_,rfl,p,_,_,_,rfl,rfl,SqL.of (e' _),rfl,_,_,rfl,rfl,⟨Big.of 2147483629 (by decide) (by omega) (by omega),Big.of 2147483629 (by decide) (by omega) (by omega)⟩,_,_,rfl,rfl,(show (0:Int)<2147483587 by decide),_,_,rfl,rfl,⟨by decide,Big.of 17 (by decide +kernel) (by decide) (by decide)⟩,_,rfl,_,_,rfl,rfl,m0,?_⟩
   exact k _ _ (Int.emod_nonneg _ (by omega)) (Int.emod_lt_of_pos _ m0) ⟨p0,_,e' _,h0,g0,g1⟩ Stp.upd
theorem e8:(10:Int) ^ (8:Int).toNat=100000000:=by decide
theorem e30:(10:Int) ^ (30:Int).toNat=1000000000000000000000000000000:=by decide
theorem qc4:FnScope ["_law_pot_here", "_law_found", "_law_k"] ["_law_pot_here"] (qt Yd):=⟨rfl,rfl,rfl,by decide +kernel,rfl,by decide +kernel,by decide +kernel⟩
theorem qir {f:Addr}{fd:FuncData}(F:Fun K "_law_wide" "_law_wide" Yd f fd) (T:Txt mg) (hX:NoX CX) (O_law_take:Own P w K mg base CX 1 "_law_take" ["_law_pot_here", "_law_many"] (qW K (sDraw 2147483629))):FnOk P w K mg base CX 2 f fd ["_law_pot_here"] (qW K (sNum 2147483629)):=by
 refine F.okD qc4 (fun es μ Q hq0=>by obtain ⟨p,e,_⟩:=hq0;subst e;rfl) (fun cdv A outer s H E es μ Q hr hq0=>?_)
 obtain ⟨p,e,hp,k⟩:=hq0
 subst e
 have nd:=qc4.nd
 refine ⟨_,(qr (qP (i:=1) nd rfl (by first | exact Or.inl rfl | exact Or.inr rfl) qu)
   (qr (Y8 PassesOwn.never rfl (jY rfl T.range_ (qa qu qd)) (qw (i:=2) nd rfl (by first | exact Or.inl rfl | exact Or.inr rfl)) (qH (qP (i:=1) nd rfl (by first | exact Or.inl rfl | exact Or.inr rfl) (qO yx (qO Jh (dv 1) (qO JC qu qu)) (qS O_law_take hX (hr.mono (by decide)) rfl (qa (dv 0) (qa (qO JC qu qu) qd)))))))
   (qH (qR (qO yx (qO yl (qO Y9 (dv 1) (qO yl (qO Jh qu (qO JC qu qu)) qu)) (qO JC qu qu)) qu))))),?_⟩
 refine ⟨by decide,by decide,forR (fun i ρ' μ'=>μ'=μ/\∃ (z:Int) (v:Option En),ρ'=[some (.m p),some (.d (.int z)),v]/\0<=z/\z<100000000 ^ i) ⟨rfl,0,none,rfl,by decide,by decide⟩ ?_ ?_⟩
 ·rintro i ρ' μ' hi ⟨rfl,z,v,rfl,z0,z1⟩
  have hb:z<10000000000000000000000000000000000000000:=by
   have:i=0\/i=1\/i=2\/i=3:=by have hi:i<4:=hi;omega
   rcases this with rfl | rfl | rfl | rfl <;> simp at z1 <;> omega
  refine ⟨⟨by decide,by decide,by decide⟩,⟨qht (by omega) (by omega),by rw [e8];exact qht (by decide) (by decide)⟩,⟨by decide,by decide,by decide⟩,p,_,rfl,hp,by rw [e8];decide,by rw [e8];decide,fun d d0 d1=>Wks.of ⟨rfl,_,_,rfl,?_,?_⟩⟩
  ·rw [e8] at *;omega
  ·rw [e8] at *
   rw [Int.pow_succ]
   generalize (100000000:Int) ^ i=y at z1
   omega
 ·rintro ρ' μ' ⟨rfl,z,v,rfl,z0,z1⟩
  refine ⟨⟨by decide,by decide,by decide⟩,⟨qht (by decide) (by decide),by rw [e30];exact qht (by decide) (by decide)⟩,by rw [e30];show (0:Int)<2 * 1000000000000000000000000000000 - 1;decide,⟨by decide,by decide,by decide⟩,k _ ?_⟩
  rw [e30]
  unfold Num
  omega
end
section
variable {P:Program}{w:World}{K:W.Frag}{mg:Str->Option Value}{base:Heap}{CX:CXT}
abbrev B40:Nat:=10000000000000000000000000000000000000000
abbrev B39:Nat:=1000000000000000000000000000000000000000
theorem b40:B40<2 ^ 1000:=by decide +kernel
theorem qa6 {a b:Int}(ha:a.natAbs<=B40) (hb:b.natAbs<=B40):qgk a b:=⟨yD ha b40,yD hb b40⟩
theorem qe6 {a b:Int}(ha:a.natAbs<=B39) (hb:b.natAbs<=B39):(a - b).natAbs<=B40:=by
 have ha:a.natAbs<=1000000000000000000000000000000000000000:=ha
 have hb:b.natAbs<=1000000000000000000000000000000000000000:=hb
 show (a - b).natAbs<=10000000000000000000000000000000000000000
 omega
def hpD (ps:List Pt):PyData:=.list (ps.map ptD)
def sAc:SpD:=fun es μ Q=>∃ a b c:Pt,es=[.d (ptD a),.d (ptD b),.d (ptD c)]/\Bd B39 a/\Bd B39 b/\Bd B39 c/\Q (.d (.int (ac a b c))) μ
theorem qak:FnScope ["_law_one", "_law_two", "_law_three", "_law_found"] ["_law_one", "_law_two", "_law_three"] (qt Jm):=⟨rfl,rfl,rfl,by decide +kernel,rfl,by decide +kernel,by decide +kernel⟩
theorem qdI {f:Addr}{fd:FuncData}(F:Fun K "_law_across" "_law_across" Jm f fd)  : FnOk P w K mg base CX 1 f fd ["_law_one", "_law_two", "_law_three"] (qW K sAc):=by
 refine F.okD qak (fun es μ Q hq0=>by obtain ⟨a,b,c,e,_⟩:=hq0;subst e;rfl) (fun cdv A outer s H E es μ Q hr hq0=>?_)
 obtain ⟨a,b,c,e,ha,hb,hc,k⟩:=hq0
 subst e
 have nd:=qak.nd
 refine ⟨_,(qr (qP (i:=3) nd rfl (by first | exact Or.inl rfl | exact Or.inr rfl) (qO Jh (qO yl (jh qN (dv 1) qu (fun _ _=>rfl)) (jh qN (dv 0) qu (fun _ _=>rfl))) (qO yl (jh qN (dv 2) qu (fun _ _=>rfl)) (jh qN (dv 0) qu (fun _ _=>rfl)))))
   (qH (qR (qO yl (dv 3) (qO Jh (qO yl (jh qN (dv 1) qu (fun _ _=>rfl)) (jh qN (dv 0) qu (fun _ _=>rfl))) (qO yl (jh qN (dv 2) qu (fun _ _=>rfl)) (jh qN (dv 0) qu (fun _ _=>rfl)))))))),?_⟩
 exact ⟨_,rfl,_,rfl,_,rfl,_,rfl,qa6 (qe6 hb.1 ha.1) (qe6 hc.2 ha.2),_,rfl,_,rfl,_,rfl,_,rfl,qa6 (qe6 hb.2 ha.2) (qe6 hc.1 ha.1),k⟩
theorem qbL {q r:Pt}:∀ {S:List Pt},r∈Yx q S->r∈S
 | [],h=>h
 | [_],h=>h
 | b::a::t,h=>by
  unfold Yx at h
  split at h
  ·exact qg _ (qbL h)
  ·exact h
theorem qbM {q:Pt}:∀ {S:List Pt},(Yx q S).length<=S.length
 | []=>qj _
 | [_]=>qj _
 | b::a::t=>by
  unfold Yx
  split
  ·exact qF qbM (Nat.le_succ _)
  ·exact qj _
theorem JF:∀ (n:Nat) {ps:List Pt},ps.length=n->(∀ r∈stk ps,r∈ps)/\(stk ps).length<=ps.length
 | 0,ps,e=>by rw [List.length_eq_zero_iff.mp e];exact ⟨fun _ h=>(nomatch h),qj _⟩
 | n+1,ps,e=>by
  rcases List.eq_nil_or_concat ps with rfl | ⟨qs,q,rfl⟩
  ·cases e
  ·rw [List.concat_eq_append] at *
   obtain ⟨h1,h2⟩:=JF n (ps:=qs) (by simpa using e)
   rw [Jt]
   refine ⟨fun r hr=>?_,?_⟩
   ·rcases List.mem_cons.mp hr with rfl | hr
    ·simp
    ·exact yE _ (h1 r (qbL hr))
   ·have:=qbM (q:=q) (S:=stk qs)
    simp only [List.length_cons,List.length_append,List.length_nil]
    omega
theorem qlz (t:List Pt) (b:Pt):atI ((b::t).reverse.map ptD) (-1)=some (ptD b):=by
 rw [List.reverse_cons,List.map_append]
 exact qcb _ _
theorem qlA (t:List Pt) (a b:Pt):atI ((b::a::t).reverse.map ptD) (-2)=some (ptD a):=by
 have e:ixN ((b::a::t).reverse.map ptD).length (-2)=some t.length:=by
  unfold ixN
  simp only [List.length_map,List.length_reverse,List.length_cons]
  rw [if_neg (by omega),if_pos (by omega)]
  congr 1
  omega
 unfold atI
 rw [e]
 show ((b::a::t).reverse.map ptD)[t.length]?=_
 rw [List.getElem?_map,List.reverse_cons,List.reverse_cons,qq,qT (by simp)]
 simp
def qde:SpD:=fun es μ Q=>∃ row:List Pt,es=[.d (hpD row)]/\row.length<=40/\(∀ p∈row,Bd B39 p)/\Q (.d (hpD (stk row).tail.reverse)) μ
theorem qbB:FnScope ["_law_points", "_law_found", "_law_point"] ["_law_points"] (qt JK):=⟨rfl,rfl,rfl,by decide +kernel,rfl,by decide +kernel,by decide +kernel⟩
theorem qfG {f:Addr}{fd:FuncData}(F:Fun K "_law_chain" "_law_chain" JK f fd) (T:Txt mg) (hX:NoX CX) (O_law_across:Own P w K mg base CX 1 "_law_across" ["_law_one", "_law_two", "_law_three"] (qW K sAc)):FnOk P w K mg base CX 2 f fd ["_law_points"] (qW K qde):=by
 refine F.okD qbB (fun es μ Q hq0=>by obtain ⟨row,e,_⟩:=hq0;subst e;rfl) (fun cdv A outer s H E es μ Q hr hq0=>?_)
 obtain ⟨row,e,hl,hb,k⟩:=hq0
 subst e
 have nd:=qbB.nd
 refine ⟨_,(qr (qP (i:=1) nd rfl (by first | exact Or.inl rfl | exact Or.inr rfl) (qex qd))
   (qr (Y8 PassesOwn.never rfl (y6 (dv 0)) (qw (i:=2) nd rfl (by first | exact Or.inl rfl | exact Or.inr rfl)) (qr (YM PassesOwn.never (qhh (Zq (yj ZS (qQ jZ (by rfl) T.len_ j5 (qa (dv 1) qd)) qu (qY _)) (Yp (yj qcx (qS O_law_across hX (hr.mono (by decide)) rfl (qa (jh qN (dv 1) (YO yO qu) (fun _ _=>rfl)) (qa (jh qN (dv 1) (YO yO qu) (fun _ _=>rfl)) (qa (dv 2) qd)))) qu (qY _))))) (qH (ZR (d_pop (dv 1) (h:=qkj PySem.F.plainAttrs_list PySem.F.slot_list_pop PySem.F.type_list_pop qkR (dv 1))))))
   (qH (ZR (ZU (dv 1) (qa (dv 2) qd) (h:=qih PySem.F.plainAttrs_list PySem.F.slot_list_append PySem.F.type_list_append Y1 (dv 1) (qa (dv 2) qd)))))))
   (qH (qbg (Ys (dv 1) Yr (Yq (YO yO qu))))))),?_⟩
 refine ⟨zl0,fun l hl'=>⟨_,.d _,?_⟩⟩
 refine forL (fun i ρ' μ'=>μ'=(l,.lst ((stk (row.take i)).reverse.map ptD))::μ/\∃ v2,ρ'=[some (.d (hpD row)),some (.m l),v2]) ⟨rfl,_,rfl⟩ (fun _ _ _ _=>.d _) ?_ ?_
 ·rintro i x ρ' μ' hx ⟨rfl,v2,rfl⟩
  rw [List.getElem?_map] at hx
  obtain ⟨q,hq,rfl⟩:=Option.map_eq_some_iff.mp hx
  have bq:=hb q (List.mem_of_getElem? hq)
  have hsub:∀ r∈stk (row.take i),r∈row:=fun r hr=>yn ((JF _ rfl).1 r hr)
  have hlen:(stk (row.take i)).length<=40:=qF (JF _ rfl).2 (by rw [yb];omega)
  have hfin:stk (row.take (i+1))=q::Yx q (stk (row.take i)):=by rw [Jk hq,Jt]
  generalize stk (row.take i)=S0 at *
  dsimp only [List.set_cons_zero,List.set_cons_succ]
  refine ⟨fun m ρ2 μ2=>∃ S:List Pt,m=S.length/\Yx q S=Yx q S0/\(∀ r∈S,r∈row)/\S.length<=40/\μ2=(l,.lst (S.reverse.map ptD))::μ/\ρ2=[some (.d (hpD row)),some (.m l),some (.d (ptD q))],⟨_,S0,rfl,rfl,hsub,hlen,rfl,rfl⟩,?_⟩
  rintro m ρ2 μ2 ⟨S,rfl,hp,hs,hsl,rfl,rfl⟩
  have hm:(l,MO.lst (S.reverse.map ptD))∈(l,MO.lst (S.reverse.map ptD))::μ:=ql
  have ln:(S.reverse.map ptD).length=S.length:=by simp
  have done:Yx q S=S->∀ v:Option En,Wks (fun ρ' μ'=>μ'=(l,.lst ((stk (row.take (i+1))).reverse.map ptD))::μ/\∃ v2,ρ'=[some (.d (hpD row)),some (.m l),v2]) [some (.d (hpD row)),some (.m l),v] ((l,.lst (S.reverse.map ptD++[ptD q]))::μ):=fun e v=>by
   refine Wks.of ⟨?_,_,rfl⟩
   rw [hfin,<- hp,e,List.reverse_cons,List.map_append]
   rfl
  refine ⟨_,.l (.m hm),jB (fun c=>?_) (fun c=>qbd ?_)⟩
  ·have c:(1:Int)<((S.reverse.map ptD).length:Int):=qy c
   rw [ln] at c
   obtain ⟨b,a,t,rfl⟩:∃ b a t,S=b::a::t:=by
    match S,c with
    | b::a::t,_=>exact ⟨b,a,t,rfl⟩
   refine ⟨_,_,hm,qlA t a b,_,_,hm,qlz (a::t) b,a,b,q,rfl,hb a (hs a (by simp)),hb b (hs b (by simp)),bq,jB (fun c2=>?_) (fun c2=>?_)⟩
   ·have c2:ac a b q<=0:=qy c2
    refine ⟨[],μ,(a::t).reverse.map ptD,ptD b,by rw [List.reverse_cons,List.map_append];rfl,(a::t).length,Nat.lt_succ_self _,Wks.of ⟨a::t,rfl,?_,fun r hr=>hs r (qg _ hr),qF (Nat.le_succ _) hsl,rfl,rfl⟩⟩
    rw [<- hp]
    conv=>rhs;unfold Yx
    rw [if_pos c2]
   ·have c2:¬ ac a b q<=0:=fun z=>c2 (qm z)
    refine ⟨⟨_,hm⟩,[],μ,_,rfl,by rw [ln];omega,done ?_ _⟩
    unfold Yx
    rw [if_neg c2]
  ·have c:¬ (1:Int)<((S.reverse.map ptD).length:Int):=fun z=>c (qm z)
   rw [ln] at c
   refine ⟨⟨_,hm⟩,[],μ,_,rfl,by rw [ln];omega,done ?_ _⟩
   match S,c with
   | [],_=>rfl
   | [_],_=>rfl
   | _::_::_,c=>exact absurd (by simp only [List.length_cons];omega) c
 ·rintro ρ' μ' ⟨rfl,v2,rfl⟩
  rw [List.length_map,yh]
  refine ⟨_,.m ql,_,_,FzR.drop1,?_⟩
  have e:Z8 ((stk row).reverse.map ptD) none (some (-1))=((stk row).tail.reverse).map ptD:=by
   cases h:stk row with
   | nil=>rfl
   | cons b t =>
    rw [qf3 (by simp),List.reverse_cons,List.map_append]
    exact List.dropLast_concat
  show Q (.d (.list (Z8 ((stk row).reverse.map ptD) none (some (-1))))) μ
  rw [e]
  exact k
end
section
variable {P:Program}{w:World}{K:W.Frag}{mg:Str->Option Value}{base:Heap}{CX:CXT}
def ptK (p:Pt):List Int:=[p.1,p.2]
theorem qdr {p q:Pt}(h:ptK p=ptK q):p=q:=by
 unfold ptK at h
 have h1:=List.cons.inj h
 have h2:=List.cons.inj h1.2
 exact Prod.ext h1.1 h2.1
theorem qdq (ps:List Pt):ps.map ptD=(ps.map ptK).map qe4:=by rw [List.map_map];rfl
theorem qj7 (ps:List Pt):∀ k∈ps.map ptK,k≠[]:=fun k hk=>by
 obtain ⟨x,_,rfl⟩:=qG.mp hk
 exact fun z=>nomatch z
def Plc (ps qs:List Pt):Prop:=qs.Nodup/\Srt (qs.map ptK)/\∀ p,p∈qs ↔ p∈ps
open Classical in
theorem qj4 {ks:List (List Int)}{ps:List Pt}:(∀ k∈ks,k∈ps.map ptK)->∃ qs:List Pt,ks=qs.map ptK:=by
 induction ks with
 | nil=>exact fun _=>⟨[],rfl⟩
 | cons k ks ih =>
  intro h
  obtain ⟨qs,e⟩:=ih fun z hz=>h z (qg _ hz)
  obtain ⟨a,_,ea⟩:=qG.mp (h k ql)
  exact ⟨a::qs,by rw [e,<- ea];rfl⟩
theorem qh8 {ps:List Pt}{ms ks:List (List Int)}(hm:∀ q,q∈ms ↔ q∈ps.map ptK) (hn:ms.Nodup) (hp:ks.Perm ms) (hs:Srt ks):∃ qs:List Pt,ks=qs.map ptK/\Plc ps qs:=by
 obtain ⟨qs,rfl⟩:=qj4 fun k hk=>(hm k).mp (hp.mem_iff.mp hk)
 have hnd:(qs.map ptK).Nodup:=hp.nodup_iff.mpr hn
 refine ⟨qs,rfl,(List.pairwise_map.mp hnd).imp fun h z=>h (by rw [z]),hs,fun p=>?_⟩
 have:=(hp.mem_iff (a:=ptK p)).trans (hm _)
 constructor
 ·intro h
  obtain ⟨b,hb,eb⟩:=qG.mp (this.mp (qG.mpr ⟨p,h,rfl⟩))
  rw [<- qdr eb];exact hb
 ·intro h
  obtain ⟨b,hb,eb⟩:=qG.mp (this.mpr (qG.mpr ⟨p,h,rfl⟩))
  rw [<- qdr eb];exact hb
theorem jX {α:Type} [DecidableEq α]:∀ {ms kss:List α},ms.Nodup->(∀ q∈ms,q∈kss)->ms.length<=kss.length
 | [],_,_,_=>qZ _
 | a::ms,kss,hn,h=>by
  have ha:=h a ql
  have h1:=jX (ms:=ms) (kss:=kss.erase a) (List.nodup_cons.mp hn).2 (fun q hq=>by
   have hne:q≠a:=fun z=>(List.nodup_cons.mp hn).1 (z ▸ hq)
   exact (List.mem_erase_of_ne hne).mpr (h q (qg _ hq)))
  rw [List.length_erase_of_mem ha] at h1
  have:=List.length_pos_of_mem ha
  simp only [List.length_cons]
  omega
theorem lt2 (a b:Pt):ptK a<ptK b ↔ a.1<b.1\/(a.1=b.1/\a.2<b.2):=by
 unfold ptK
 simp [List.cons_lt_cons_iff]
theorem qlB {qs:List Pt}(nd:qs.Nodup) (hs:Srt (qs.map ptK)):Asc qs:=by
 unfold Srt at hs
 rw [List.pairwise_map] at hs
 unfold Asc
 refine (List.Pairwise.and nd hs).imp fun {a b} h=>?_
 obtain ⟨h1,h2⟩:=h
 rw [lt2] at h2
 have h3:¬ (a.1=b.1/\a.2=b.2):=fun z=>h1 (Prod.ext z.1 z.2)
 unfold Ps sb2
 dsimp only
 omega
def qlW:SpD:=fun es μ Q=>∃ ps:List Pt,es=[.d (hpD ps)]/\ps.length<=40/\(∀ p∈ps,Bd B39 p)/\∀ row:List Pt,Asc row->(∀ p,p∈row ↔ p∈ps)->row.length<=ps.length->Q (.d (hpD (outer row))) μ
theorem qbz:FnScope ["_law_some", "_law_row"] ["_law_some"] (qt JI):=⟨rfl,rfl,rfl,by decide +kernel,rfl,by decide +kernel,by decide +kernel⟩
theorem qfE {f:Addr}{fd:FuncData}(F:Fun K "_law_outer" "_law_outer" JI f fd) (T:Txt mg) (hX:NoX CX) (O_law_chain:Own P w K mg base CX 2 "_law_chain" ["_law_points"] (qW K qde)):FnOk P w K mg base CX 3 f fd ["_law_some"] (qW K qlW):=by
 refine F.okD qbz (fun es μ Q hq0=>by obtain ⟨ps,e,_⟩:=hq0;subst e;rfl) (fun cdv A outr s H E es μ Q hr hq0=>?_)
 obtain ⟨ps,e,hl,hb,k⟩:=hq0
 subst e
 have nd:=qbz.nd
 refine ⟨_,(qr (qP (i:=1) nd rfl (by first | exact Or.inl rfl | exact Or.inr rfl) (qQ (qf0 (P:=P) (w:=w) (K:=K) rfl) (by rfl) T.sorted_ qeM (qa (jR (qll (P:=P) (w:=w) (K:=K) rfl hr.units) (by rfl) T.set_ qlw (qa (dv 0) qd)) qd)))
   (qH (qR (qO qes (qS O_law_chain hX (hr.mono (by decide)) rfl (qa (dv 1) qd)) (qS O_law_chain hX (hr.mono (by decide)) rfl (qa (qhm rfl (by rfl) T.list_ (by rfl) T.reversed_ (dv 1)) qd)))))),?_⟩
 refine ⟨ps.map ptK,by rw [<- qdq];exact .d _,qj7 ps,by rw [List.length_map];omega,fun ms hm hn h77=>⟨ms,rfl,?_,fun ks hp hs=>?_⟩⟩
 ·have:=jX hn fun q hq=>(hm q).mp hq
  rw [List.length_map] at this
  omega
 ·obtain ⟨qs,rfl,h⟩:=qh8 hm hn hp hs
  have ha:=qlB h.1 h.2.1
  have hlen0:qs.length<=ps.length:=jX h.1 fun q hq=>(h.2.2 q).mp hq
  have hlen:qs.length<=40:=qF hlen0 hl
  have hbq:∀ p∈qs,Bd B39 p:=fun p hp'=>hb p ((h.2.2 p).mp hp')
  rw [<- qdq]
  refine ⟨qs,rfl,hlen,hbq,_,.d _,?_⟩
  rw [<- List.map_reverse]
  refine ⟨qs.reverse,rfl,by rw [List.length_reverse];exact hlen,fun p hp'=>hbq p (List.mem_reverse.mp hp'),_,_,.d _,.d _,?_,?_⟩
  ·have l1:=(JF _ (ps:=qs) rfl).2
   have l2:=(JF _ (ps:=qs.reverse) rfl).2
   rw [List.length_reverse] at l2
   simp only [List.length_map,List.length_reverse,List.length_tail]
   omega
  ·have:=k qs ha h.2.2 hlen0
   unfold outer hpD at this
   rw [List.map_append] at this
   exact this
def qhW:SpD:=fun es μ Q=>∃ (p:Addr) (b:Bool),es=[.m p,.d (.bool b)]/\(p,PA0)∈μ/\∀ n,Num n->Q (.d (.int n)) μ
theorem qc7:FnScope ["_law_pot_here", "_law_are_great"] ["_law_pot_here", "_law_are_great"] (qt Yg):=⟨rfl,rfl,rfl,by decide +kernel,rfl,by decide +kernel,by decide +kernel⟩
theorem qiu {f:Addr}{fd:FuncData}(F:Fun K "_law_mark" "_law_mark" Yg f fd) (hX:NoX CX) (O_law_take:Own P w K mg base CX 1 "_law_take" ["_law_pot_here", "_law_many"] (qW K (sDraw 2147483629))) (O_law_wide:Own P w K mg base CX 2 "_law_wide" ["_law_pot_here"] (qW K (sNum 2147483629))):FnOk P w K mg base CX 3 f fd ["_law_pot_here", "_law_are_great"] (qW K qhW):=by
 refine F.okD qc7 (fun es μ Q hq0=>by obtain ⟨p,b,e,_⟩:=hq0;subst e;rfl) (fun cdv A outr s H E es μ Q hr hq0=>?_)
 obtain ⟨p,b,e,hp,k⟩:=hq0
 subst e
 have nd:=qc7.nd
 refine ⟨_,(qr (jS (qhh (Zq (qaC (dv 1)) (Yp (yj (YC hr.units) (qS O_law_take hX (hr.mono (by decide)) rfl (qa (dv 0) (qa qu qd))) qu (qY _))))) (qH (qR (qS O_law_wide hX (hr.mono (by decide)) rfl (qa (dv 0) qd)))) y8)
   (qH (qR (qO yl (qS O_law_take hX (hr.mono (by decide)) rfl (qa (dv 0) (qa qu qd))) qu)))),?_⟩
 have fin:∀ d:Int,0<=d->d<13->Num (d - 6):=fun d h1 h2=>by unfold Num;omega
 cases b with
 | true =>
  refine ⟨p,_,rfl,hp,by decide,by decide,fun d d0 d1=>jB (fun c=>?_) (fun c=>?_)⟩
  ·exact ⟨p,rfl,hp,fun n hn=>k n hn⟩
  ·exact ⟨p,_,rfl,hp,by decide,by decide,fun d d0 d1=>k _ (fin d d0 d1)⟩
 | false=>exact ⟨p,_,rfl,hp,by decide,by decide,fun d d0 d1=>k _ (fin d d0 d1)⟩
def Ck (P:List Pt):Prop:=Cvx P/\3<=P.length/\P.length<=12/\∀ p∈P,Z9 p
theorem JZ {row:List Pt}{p:Pt}(h:p∈outer row):p∈row:=by
 unfold outer at h
 rcases List.mem_append.mp h with z | z
 ·exact (JF _ rfl).1 p (List.mem_of_mem_tail (List.mem_reverse.mp z))
 ·exact List.mem_reverse.mp ((JF _ (ps:=row.reverse) rfl).1 p (List.mem_of_mem_tail (List.mem_reverse.mp z)))
theorem JN {p:Pt}(h:Z9 p):Bd B39 p:=by
 obtain ⟨⟨a,b⟩,c,d⟩:=h
 constructor
 ·show p.1.natAbs<=1000000000000000000000000000000000000000
  omega
 ·show p.2.natAbs<=1000000000000000000000000000000000000000
  omega
theorem qeA (ds:List PyData) (i:Nat) (h:i<=ds.length):Z8 ds none (some (i:Int))=ds.take i:=by
 unfold Z8
 rw [HT.sIx_nat,HT.sIx_none,Nat.min_eq_left h,List.drop_zero,Nat.sub_zero]
theorem ZV (ds:List PyData) (i:Nat) (h:i<=ds.length):Z8 ds (some (i:Int)) none=ds.drop i:=by
 unfold Z8
 rw [HT.sIx_nat,HT.sIx_none,Nat.min_eq_left h]
 exact List.take_of_length_le (by rw [yi];omega)
def rot (P:List Pt) (k:Nat):List Pt:=P.drop k++P.take k
theorem qjR {P:List Pt}{k:Nat}(h:Ck P):Ck (rot P k):=by
 obtain ⟨h1,h2,h3,h4⟩:=h
 have hl:(rot P k).length=P.length:=by unfold rot;rw [List.length_append,yi,yb];omega
 refine ⟨?_,by omega,by omega,fun p hp=>?_⟩
 ·unfold rot
  refine qhN ?_
  rw [qD]
  exact h1
 ·unfold rot at hp
  rcases List.mem_append.mp hp with z | z
  ·exact h4 p (yV z)
  ·exact h4 p (yn z)
def qfe:SpD:=fun es μ Q=>∃ p:Addr,es=[.m p]/\(p,PA0)∈μ/\∀ P:List Pt,Ck P->Q (.d (hpD P)) μ
theorem qda:FnScope ["_law_pot_here", "_law_are_great", "_law_many", "_law_found", "_law_x", "_law_y", "_law_at"] ["_law_pot_here"] (qt Jv):=⟨rfl,rfl,rfl,by decide +kernel,rfl,by decide +kernel,by decide +kernel⟩
theorem qix {f:Addr}{fd:FuncData}(F:Fun K "_law_cake" "_law_cake" Jv f fd) (T:Txt mg) (hX:NoX CX) (O_law_take:Own P w K mg base CX 1 "_law_take" ["_law_pot_here", "_law_many"] (qW K (sDraw 2147483629))) (O_law_mark:Own P w K mg base CX 3 "_law_mark" ["_law_pot_here", "_law_are_great"] (qW K qhW)) (O_law_outer:Own P w K mg base CX 3 "_law_outer" ["_law_some"] (qW K qlW)):FnOk P w K mg base CX 4 f fd ["_law_pot_here"] (qW K qfe):=by
 refine F.okD qda (fun es μ Q hq0=>by obtain ⟨p,e,_⟩:=hq0;subst e;rfl) (fun cdv A outr s H E es μ Q hr hq0=>?_)
 obtain ⟨p,e,hp,k⟩:=hq0
 subst e
 have nd:=qda.nd
 refine ⟨_,(qr (qP (i:=1) nd rfl (by first | exact Or.inl rfl | exact Or.inr rfl) (qaF (YC hr.units) (qS O_law_take hX (hr.mono (by decide)) rfl (qa (dv 0) (qa qu qd))) qu (qY _)))
   (qr (qP (i:=2) nd rfl (by first | exact Or.inl rfl | exact Or.inr rfl) (qO yx qu (qS O_law_take hX (hr.mono (by decide)) rfl (qa (dv 0) (qa qu qd)))))
   (qr (qP (i:=3) nd rfl (by first | exact Or.inl rfl | exact Or.inr rfl) (qS O_law_outer hX (hr.mono (by decide)) rfl (qa (j4 (L:=["_law_k"]) (sc:=qt Jv) (N:=["_law_pot_here", "_law_are_great", "_law_many", "_law_found", "_law_x", "_law_y", "_law_at"]) rfl rfl rfl (by decide +kernel) (jY rfl T.range_ (qa (dv 2) qd)) (fun _ _ _ _ _=>(qw (i:=7) (show List.Nodup (["_law_pot_here", "_law_are_great", "_law_many", "_law_found", "_law_x", "_law_y", "_law_at", "_law_k"]:List Str) from by decide +kernel) rfl (by first | exact Or.inl rfl | exact Or.inr rfl))) (fun _ _ _ _ _=>jg) (fun _ _ _ _ _=>(yC (qa (qS O_law_mark hX (hr.mono (by decide)) rfl (qa (dv 0) (qa (dv 1) qd))) (qa (qS O_law_mark hX (hr.mono (by decide)) rfl (qa (dv 0) (qa (dv 1) qd))) qd))))) qd)))
   (qr (jS (yj qaD (qQ jZ (by rfl) T.len_ j5 (qa (dv 3) qd)) qu (qY _)) (qr (Y7 (i:=4) (j:=5) rfl nd rfl rfl (by decide) rfl rfl (qa (qO yl (qS O_law_take hX (hr.mono (by decide)) rfl (qa (dv 0) (qa qu qd))) qu) (qa (qO yl (qS O_law_take hX (hr.mono (by decide)) rfl (qa (dv 0) (qa qu qd))) qu) qd)) rfl)
   (qH (qP (i:=3) nd rfl (by first | exact Or.inl rfl | exact Or.inr rfl) (qey (qa (yC (qa (dv 4) (qa (dv 5) qd))) (qa (yC (qa (qO yx (qO yx (dv 4) qu) (qS O_law_take hX (hr.mono (by decide)) rfl (qa (dv 0) (qa qu qd)))) (qa (dv 5) qd))) (qa (yC (qa (qO yx (dv 4) (qS O_law_take hX (hr.mono (by decide)) rfl (qa (dv 0) (qa qu qd)))) (qa (qO yx (qO yx (dv 5) qu) (qS O_law_take hX (hr.mono (by decide)) rfl (qa (dv 0) (qa qu qd)))) qd))) qd))))))) y8)
   (qr (qP (i:=6) nd rfl (by first | exact Or.inl rfl | exact Or.inr rfl) (qS O_law_take hX (hr.mono (by decide)) rfl (qa (dv 0) (qa (qQ jZ (by rfl) T.len_ j5 (qa (dv 3) qd)) qd))))
   (qH (qR (qO qes (Ys (dv 3) (Yq (dv 6)) Yr) (Ys (dv 3) Yr (Yq (dv 6))))))))))),?_⟩
 refine ⟨p,_,rfl,hp,by decide,by decide,fun g g0 g1=>?_⟩
 refine ⟨p,_,rfl,hp,by decide,by decide,fun n n0 n1=>?_⟩
 refine ⟨by omega,by omega,(show (3+n).toNat<=4000 by omega),fun i ys ρ' μ'=>μ'=μ/\∃ qs:List Pt,ys=qs.map ptD/\qs.length=i/\(∀ q∈qs,Z9 q)/\∃ v,ρ'=[some (.m p),some (.d (.bool (decide (g=7)))),some (.d (.int (3+n))),none,none,none,none,v],⟨rfl,[],rfl,rfl,(fun _ h=>nomatch h),_,rfl⟩,fun _ _ _ _ _ _=>trivial,?_,?_⟩
 ·rintro i ys ρ' μ' hi ⟨rfl,qs,rfl,hlq,hq,v,rfl⟩
  refine ⟨p,_,rfl,hp,fun a ha=>⟨p,_,rfl,hp,fun b hb=>⟨zl2,?_⟩⟩⟩
  refine ⟨_,rfl,rfl,qs++[(a,b)],by rw [List.map_append];rfl,by rw [List.length_append,List.length_singleton];omega,fun q hq'=>?_,_,rfl⟩
  rcases List.mem_append.mp hq' with z | z
  ·exact hq q z
  ·rw [qE.mp z];exact ⟨ha,hb⟩
 ·rintro ys ρ' μ' ⟨rfl,qs,rfl,hlq,hq,v,rfl⟩
  have hlq:qs.length=(3+n).toNat:=hlq
  refine ⟨qs,rfl,by omega,fun q hq'=>JN (hq q hq'),fun row ha hm hl=>?_⟩
  dsimp only [List.set_cons_zero,List.set_cons_succ]
  have fin:∀ (P:List Pt) (d:Int),Ck P->0<=d->d<(((P.map ptD).length:Nat):Int)->Q (.d (.list (Z8 (P.map ptD) (some d) none++Z8 (P.map ptD) none (some d)))) μ':=fun P d hP d0 d1=>by
   rw [List.length_map] at d1
   have:=k (rot P d.toNat) (qjR hP)
   unfold rot hpD at this
   rw [List.map_append,List.map_drop,List.map_take] at this
   rw [show d=((d.toNat:Nat):Int) by omega,ZV _ _ (by rw [List.length_map];omega),qeA _ _ (by rw [List.length_map];omega)]
   exact this
  have cl:∀ (P:List Pt) (d:Int),Ck P->0<=d->d<(((P.map ptD).length:Nat):Int)->(Z8 (P.map ptD) (some d) none).length+(Z8 (P.map ptD) none (some d)).length<=4000:=fun P d hP d0 d1=>by
   rw [List.length_map] at d1
   have h3:=hP.2.2.1
   rw [show d=((d.toNat:Nat):Int) by omega,ZV _ _ (by rw [List.length_map];omega),qeA _ _ (by rw [List.length_map];omega),yi,yb,List.length_map]
   omega
  have ln:∀ P:List Pt,Ck P->(0:Int)<(((P.map ptD).length:Nat):Int)/\(((P.map ptD).length:Nat):Int)<=10000000000000000000000000000000000000000:=fun P hP=>by
   rw [List.length_map]
   have:=hP.2.1
   have:=hP.2.2.1
   omega
  refine ⟨_,.l (.d _),jB (fun c=>?_) (fun c=>?_)⟩
  ·refine ⟨p,_,rfl,hp,by decide,by decide,fun x x0 x1=>⟨p,_,rfl,hp,by decide,by decide,fun y y0 y1=>?_⟩⟩
   dsimp only [List.set_cons_zero,List.set_cons_succ]
   refine ⟨zl2,p,_,rfl,hp,by decide,by decide,fun a a0 a1=>⟨zl2,p,_,rfl,hp,by decide,by decide,fun b b0 b1=>⟨p,_,rfl,hp,by decide,by decide,fun c' c0 c1=>⟨zl2,zl3,?_⟩⟩⟩⟩
   dsimp only [List.set_cons_zero,List.set_cons_succ]
   have hck:Ck [(x - 4,y - 4),(x - 4+1+a,y - 4),(x - 4+b,y - 4+1+c')]:=by
    refine ⟨qhM ?_,by simp,by simp,fun q hq'=>?_⟩
    ·have:ac (x - 4,y - 4) (x - 4+1+a,y - 4) (x - 4+b,y - 4+1+c')=(1+a) * (1+c'):=by unfold ac;dsimp only;grind
     rw [this]
     exact yM (by omega) (by omega)
    ·simp only [List.mem_cons,List.not_mem_nil,or_false] at hq'
     rcases hq' with rfl | rfl | rfl <;> (unfold Z9 Num;dsimp only;omega)
   refine ⟨_,.l (.d _),p,_,rfl,hp,(ln _ hck).1,(ln _ hck).2,fun d d0 d1=>⟨_,.d _,_,.d _,_,_,.d _,.d _,cl _ d hck d0 d1,fin _ d hck d0 d1⟩⟩
  ·have c:¬ ((((outer row).map ptD).length:Nat):Int)<3:=fun z=>c (qm z)
   rw [List.length_map] at c
   have hol:(outer row).length<=row.length:=jX (J4 (Jn ha) (by omega)) fun q hq'=>JZ hq'
   have hck:Ck (outer row):=⟨Jn ha,by omega,by omega,fun q hq'=>hq q ((hm q).mp (JZ hq'))⟩
   refine ⟨_,.l (.d _),p,_,rfl,hp,(ln _ hck).1,(ln _ hck).2,fun d d0 d1=>⟨_,.d _,_,.d _,_,_,.d _,.d _,cl _ d hck d0 d1,fin _ d hck d0 d1⟩⟩
end
section
variable {P:Program}{w:World}{K:W.Frag}{mg:Str->Option Value}{base:Heap}{CX:CXT}
def qbD:SpD:=fun es μ Q=>∃ p q:Pt,es=[.d (ptD p),.d (ptD q)]/\Bd B40 p/\Bd B40 q/\Q (.d (.int (crs p q))) μ
theorem qbA:FnScope ["one", "other"] ["one", "other"] (qt qc2):=⟨rfl,rfl,rfl,by decide +kernel,rfl,by decide +kernel,by decide +kernel⟩
theorem qfF {f:Addr}{fd:FuncData}(F:Fun K "cross" "cross" qc2 f fd)  : FnOk P w K mg base CX 1 f fd ["one", "other"] (qW K qbD):=by
 refine F.okD qbA (fun es μ Q hq0=>by obtain ⟨p,q,e,_⟩:=hq0;subst e;rfl) (fun cdv A outer s H E es μ Q hr hq0=>?_)
 obtain ⟨p,q,e,hp,hq,k⟩:=hq0
 subst e
 have nd:=qbA.nd
 refine ⟨_,(qH (qR (qO yl (qO Jh (jh qN (dv 0) qu (fun _ _=>rfl)) (jh qN (dv 1) qu (fun _ _=>rfl))) (qO Jh (jh qN (dv 0) qu (fun _ _=>rfl)) (jh qN (dv 1) qu (fun _ _=>rfl)))))),?_⟩
 exact ⟨_,rfl,_,rfl,qa6 hp.1 hq.2,_,rfl,_,rfl,qa6 hp.2 hq.1,k⟩
def qfh (P:List Pt):List (List Pt):=(List.range P.length).map (rot P)
def qhV:SpD:=fun es μ Q=>∃ P:List Pt,es=[.d (hpD P)]/\P.length<=1000/\Q (.d (.list ((qfh P).map hpD))) μ
theorem qc6:FnScope ["corners"] ["corners"] (qt yU):=⟨rfl,rfl,rfl,by decide +kernel,rfl,by decide +kernel,by decide +kernel⟩
theorem qit {f:Addr}{fd:FuncData}(F:Fun K "from_each_corner" "from_each_corner" yU f fd) (T:Txt mg):FnOk P w K mg base CX 1 f fd ["corners"] (qW K qhV):=by
 refine F.okD qc6 (fun es μ Q hq0=>by obtain ⟨P,e,_⟩:=hq0;subst e;rfl) (fun cdv A outer s H E es μ Q hr hq0=>?_)
 obtain ⟨P,e,hl,k⟩:=hq0
 subst e
 have nd:=qc6.nd
 refine ⟨_,(qH (qR (j4 (L:=["at"]) (sc:=qt yU) (N:=["corners"]) rfl rfl rfl (by decide +kernel) (jY rfl T.range_ (qa (qQ jZ (by rfl) T.len_ j5 (qa (dv 0) qd)) qd)) (fun _ _ _ _ _=>(qw (i:=1) (show List.Nodup (["corners", "at"]:List Str) from by decide +kernel) rfl (by first | exact Or.inl rfl | exact Or.inr rfl))) (fun _ _ _ _ _=>jg) (fun _ _ _ _ _=>(qO qes (Ys (dv 0) (Yq (dv 1)) Yr) (Ys (dv 0) Yr (Yq (dv 1)))))))),?_⟩
 have ln:(P.map ptD).length=P.length:=List.length_map ..
 refine ⟨_,.l (.d _),by omega,by omega,(show ((((P.map ptD).length:Nat):Int)).toNat<=4000 by omega),fun i ys ρ' μ'=>μ'=μ/\ys=((List.range i).map (rot P)).map hpD/\∃ v,ρ'=[some (.d (hpD P)),v],⟨rfl,rfl,_,rfl⟩,fun _ _ _ _ _ _=>trivial,?_,?_⟩
 ·rintro i ys ρ' μ' hi ⟨rfl,rfl,v,rfl⟩
  have hi:i<((((P.map ptD).length:Nat):Int)).toNat:=hi
  have hi2:i<=(P.map ptD).length:=by omega
  have e1:Z8 (P.map ptD) (some (0+(i:Int))) none=(P.drop i).map ptD:=by rw [Int.zero_add,ZV _ _ hi2,List.map_drop]
  have e2:Z8 (P.map ptD) none (some (0+(i:Int)))=(P.take i).map ptD:=by rw [Int.zero_add,qeA _ _ hi2,List.map_take]
  refine ⟨_,.d _,_,.d _,_,_,.d _,.d _,?_,?_⟩
  ·rw [e1,e2,List.length_map,List.length_map,yi,yb];omega
  ·refine ⟨_,rfl,rfl,?_,_,rfl⟩
   rw [e1,e2,jb,List.map_append,List.map_append,<- List.map_append]
   rfl
 ·rintro ys ρ' μ' ⟨rfl,rfl,v,rfl⟩
  have:((itR 0 ((((P.map ptD).length:Nat):Int)).toNat)).n=P.length:=by show ((((P.map ptD).length:Nat):Int)).toNat=_;omega
  rw [this]
  exact k
theorem qgR {P:List Pt}{k t:Nat}(hk:k<P.length) (ht:t<P.length):gP (rot P k) t=gP P ((k+t) % P.length):=by
 have hl:(rot P k).length=P.length:=by unfold rot;rw [List.length_append,yi,yb];omega
 have hd:(P.drop k).length=P.length - k:=yi ..
 by_cases h:t<P.length - k
 ·unfold rot
  rw [qg9 (by omega),qx (by omega),je (by omega),je (show k+t<P.length by omega),List.getElem_drop]
 ·unfold rot at hl ⊢
  rw [qiP (by omega) (by omega),show (k+t) % P.length=k+t - P.length by rw [Nat.mod_eq_sub_mod (by omega),qx (by omega)],hd,je (by rw [yb];omega),je (by omega),List.getElem_take]
  congr 1
  omega
theorem qdi (P:List Pt) (k:Nat):(rot P k).length=P.length:=by unfold rot;rw [List.length_append,yi,yb];omega
def rst (P:List Pt) (k:Nat):List Pt:=(rot P k).drop 2
theorem qfi {P:List Pt}{k:Nat}(hk:k<P.length) (h2:2<=P.length):rot P k=gP P k::nx P k::rst P k:=by
 have hl:=qdi P k
 have d:=dec2 (S:=rot P k) (k:=0) (by omega)
 rw [List.take_zero,List.nil_append,qgR hk (by omega),qgR hk (by omega),Nat.add_zero,qx hk] at d
 exact d
def qbC:SpD:=fun es μ Q=>∃ P:List Pt,es=[.d (hpD P)]/\2<=P.length/\P.length<=1000/\Q (.d (.list ((List.range P.length).map fun k=>.tuple [ptD (gP P k),ptD (nx P k)]))) μ
theorem qbx:FnScope ["corners"] ["corners"] (qt qbv):=⟨rfl,rfl,rfl,by decide +kernel,rfl,by decide +kernel,by decide +kernel⟩
theorem qfC {f:Addr}{fd:FuncData}(F:Fun K "sides" "sides" qbv f fd) (T:Txt mg) (hX:NoX CX) (Ofrom_each_corner:Own P w K mg base CX 1 "from_each_corner" ["corners"] (qW K qhV)):FnOk P w K mg base CX 2 f fd ["corners"] (qW K qbC):=by
 refine F.okD qbx (fun es μ Q hq0=>by obtain ⟨P,e,_⟩:=hq0;subst e;rfl) (fun cdv A outer s H E es μ Q hr hq0=>?_)
 obtain ⟨P,e,h2,hl,k⟩:=hq0
 subst e
 have nd:=qbx.nd
 refine ⟨_,(qH (qR (j4 (L:=["start", "end", "rest"]) (sc:=qt qbv) (N:=["corners"]) rfl rfl rfl (by decide +kernel) (y6 (qS Ofrom_each_corner hX (hr.mono (by decide)) rfl (qa (dv 0) qd))) (fun _ _ _ _ _=>(qi0 (i:=2) rfl (qv (qw (i:=1) (show List.Nodup (["corners", "start", "end", "rest"]:List Str) from by decide +kernel) rfl (by first | exact Or.inl rfl | exact Or.inr rfl)) (qv (qw (i:=2) (show List.Nodup (["corners", "start", "end", "rest"]:List Str) from by decide +kernel) rfl (by first | exact Or.inl rfl | exact Or.inr rfl)) (qfW (qw (i:=3) (show List.Nodup (["corners", "start", "end", "rest"]:List Str) from by decide +kernel) rfl (by first | exact Or.inl rfl | exact Or.inr rfl)) yk))))) (fun _ _ _ _ _=>jg) (fun _ _ _ _ _=>(yC (qa (dv 1) (qa (dv 2) qd))))))),?_⟩
 have rl:((qfh P).map hpD).length=P.length:=by unfold qfh;simp
 refine ⟨P,rfl,hl,_,.d _,(by show ((qfh P).map hpD).length<=4000;omega),fun i ys ρ' μ'=>μ'=μ/\ys=((List.range i).map fun k=>.tuple [ptD (gP P k),ptD (nx P k)])/\∃ v1 v2 v3,ρ'=[some (.d (hpD P)),v1,v2,v3],⟨rfl,rfl,_,_,_,rfl⟩,fun i ys ρ' μ' _ h=>.d _,?_,?_⟩
 ·rintro i ys ρ' μ' hi ⟨rfl,rfl,v1,v2,v3,rfl⟩
  have hi:i<((qfh P).map hpD).length:=hi
  rw [rl] at hi
  have ei:((qfh P).map hpD).getD i .none=hpD (rot P i):=by
   rw [qK,List.getElem?_map]
   unfold qfh
   rw [List.getElem?_map,List.getElem?_range hi]
   rfl
  have hrl:=qdi P i
  have et:((rot P i).map ptD).take 2++[.list (((rot P i).map ptD).drop 2)]=[ptD (gP P i),ptD (nx P i),hpD (rst P i)]:=by
   rw [qfi hi (by omega)];rfl
  refine ⟨(rot P i).map ptD,by show LstOf μ' (.d (((qfh P).map hpD).getD i .none)) _;rw [ei];exact .d _,by rw [List.length_map];omega,by rw [List.length_map];omega,?_⟩
  rw [et]
  refine ⟨zl2,_,rfl,rfl,?_,_,_,_,rfl⟩
  rw [jb,List.map_append]
  rfl
 ·rintro ys ρ' μ' ⟨rfl,rfl,v1,v2,v3,rfl⟩
  show Q (.d (.list ((List.range ((qfh P).map hpD).length).map fun k=>.tuple [ptD (gP P k),ptD (nx P k)]))) μ'
  rw [rl]
  exact k
def qff:SpD:=fun es μ Q=>∃ P:List Pt,es=[.d (hpD P)]/\2<=P.length/\P.length<=1000/\(∀ p∈P,Z9 p)/\Q (.d (.int (J7 P))) μ
theorem qdb:FnScope ["cake"] ["cake"] (qt qfd):=⟨rfl,rfl,rfl,by decide +kernel,rfl,by decide +kernel,by decide +kernel⟩
theorem qiy {f:Addr}{fd:FuncData}(F:Fun K "area" "area" qfd f fd) (T:Txt mg) (hX:NoX CX) (Osides:Own P w K mg base CX 2 "sides" ["corners"] (qW K qbC)) (Ocross:Own P w K mg base CX 1 "cross" ["one", "other"] (qW K qbD)):FnOk P w K mg base CX 3 f fd ["cake"] (qW K qff):=by
 refine F.okD qdb (fun es μ Q hq0=>by obtain ⟨P,e,_⟩:=hq0;subst e;rfl) (fun cdv A outer s H E es μ Q hr hq0=>?_)
 obtain ⟨P,e,h2,hl,hn,k⟩:=hq0
 subst e
 have nd:=qdb.nd
 refine ⟨_,(qH (qR (qQ (qev rfl) (by rfl) T.sum_ qhr (qa (j4 (L:=["start", "end"]) (sc:=qt qfd) (N:=["cake"]) rfl rfl rfl (by decide +kernel) (y6 (qS Osides hX (hr.mono (by decide)) rfl (qa (dv 0) qd))) (fun _ _ _ _ _=>(yP (n:=2) rfl (qv (qw (i:=1) (show List.Nodup (["cake", "start", "end"]:List Str) from by decide +kernel) rfl (by first | exact Or.inl rfl | exact Or.inr rfl)) (qv (qw (i:=2) (show List.Nodup (["cake", "start", "end"]:List Str) from by decide +kernel) rfl (by first | exact Or.inl rfl | exact Or.inr rfl)) yk)))) (fun _ _ _ _ _=>jg) (fun _ _ _ _ _=>(qS Ocross hX (hr.mono (by decide)) rfl (qa (dv 1) (qa (dv 2) qd))))) qd)))),?_⟩
 have b40':∀ {p:Pt},Z9 p->Bd B40 p:=fun h=>⟨qF (JN h).1 (by decide),qF (JN h).2 (by decide)⟩
 refine ⟨P,rfl,h2,hl,_,.d _,(by show (List.map _ (List.range P.length)).length<=4000;rw [List.length_map,yv];omega),Za (as:=List.range P.length) (h1:=fun k=>ptD (gP P k)) (h2:=fun k=>ptD (nx P k)) (fun k=>.int (crs (gP P k) (nx P k))) (Src.l (.d _)) (fun i hi R h=>?_) ?_⟩
 ·have hi:=List.mem_range.mp hi
  exact ⟨gP P i,nx P i,rfl,b40' (hn _ (js hi)),b40' (hn _ (js (yp _ (by omega)))),h⟩
 ·refine ⟨(List.range P.length).map fun k=>crs (gP P k) (nx P k),by rw [List.map_map];exact .d _,k⟩
end
section
variable {P:Program}{w:World}{K:W.Frag}{mg:Str->Option Value}{base:Heap}{CX:CXT}
def qjn:SpD:=fun es μ Q=>∃ a b:Int,es=[.d (.int a),.d (.int b)]/\Q (.d (.int (Int.gcd a b:Nat))) μ
theorem qjN:FnScope ["one", "other", "divisor", "rest"] ["one", "other"] (qt jD):=⟨rfl,rfl,rfl,by decide +kernel,rfl,by decide +kernel,by decide +kernel⟩
theorem ok_cd {f:Addr}{fd:FuncData}(F:Fun K "common_divisor" "common_divisor" jD f fd) (T:Txt mg):FnOk P w K mg base CX 1 f fd ["one", "other"] (qW K qjn):=by
 refine F.okD qjN (fun es μ Q hq0=>by obtain ⟨a,b,e,_⟩:=hq0;subst e;rfl) (fun cdv A outer s H E es μ Q hr hq0=>?_)
 obtain ⟨a,b,e,k⟩:=hq0
 subst e
 have nd:=qjN.nd
 refine ⟨_,(qr (qP (i:=2) nd rfl (by first | exact Or.inl rfl | exact Or.inr rfl) (qQ J3 (by rfl) T.abs_ J6 (qa (dv 0) qd)))
   (qr (qP (i:=3) nd rfl (by first | exact Or.inl rfl | exact Or.inr rfl) (qQ J3 (by rfl) T.abs_ J6 (qa (dv 1) qd)))
   (qr (YM PassesOwn.never (yj (qbh hr.units) (dv 3) qu (qY _)) (qH (Y7 (i:=2) (j:=3) rfl nd rfl rfl (by decide) rfl rfl (qa (dv 3) (qa (qO Y9 (dv 2) (dv 3)) qd)) rfl)))
   (qH (qR (dv 2)))))),?_⟩
 refine ⟨fun m ρ' μ'=>μ'=μ/\∃ f r:Nat,ρ'=[some (.d (.int a)),some (.d (.int b)),some (.d (.int f)),some (.d (.int r))]/\m=r/\Nat.gcd f r=Int.gcd a b,⟨_,rfl,_,_,rfl,rfl,rfl⟩,?_⟩
 rintro m ρ' μ' ⟨rfl,f,r,rfl,rfl,g⟩
 refine jB (fun c=>?_) (fun c=>?_)
 ·have hm:m≠0:=by
   rintro rfl
   exact absurd c (by decide)
  refine ⟨(show (0:Int)<(m:Int) by omega),f % m,yp _ (by omega),Wks.of ⟨rfl,m,f % m,?_,rfl,by rw [qb3];exact g⟩⟩
  rw [Int.natCast_emod];rfl
 ·have:m=0:=by
   by_cases z:m=0
   ·exact z
   ·exact absurd (show (!decide ((m:Int)=0))=true by simp;omega) c
  subst this
  rw [Nat.gcd_zero_right] at g
  subst g
  exact k
def qlv (n d:Int):PyData:=.tuple [.int (n.fdiv (Int.gcd n d:Nat)),.int (d.fdiv (Int.gcd n d:Nat))]
theorem qg8 {n d:Int}(h:0<d) (hs:Sz 9000 d):((Int.gcd n d:Nat):Int)≠0/\Sz 9000 (Int.gcd n d:Nat):=by
 have h1:Int.gcd n d ∣ d.natAbs:=Int.gcd_dvd_natAbs_right n d
 have h2:0<d.natAbs:=by omega
 have h3:Int.gcd n d<=d.natAbs:=Nat.le_of_dvd h2 h1
 have h4:0<Int.gcd n d:=Nat.pos_of_ne_zero fun z=>by rw [z] at h1;exact absurd (Nat.eq_zero_of_zero_dvd h1) (by omega)
 refine ⟨by omega,?_⟩
 unfold Sz at *
 show (((Int.gcd n d:Nat):Int)).natAbs<_
 rw [Int.natAbs_natCast]
 exact yD h3 hs
def sLow:SpD:=fun es μ Q=>∃ n d:Int,es=[.d (.int n),.d (.int d)]/\d≠0/\Sz 9000 d/\(0<d->Q (.d (qlv n d)) μ)/\(d<0->Q (.d (qlv (-n) (-d))) μ)
theorem qgA:FnScope ["n", "d", "divisor"] ["n", "d"] (qt qaX):=⟨rfl,rfl,rfl,by decide +kernel,rfl,by decide +kernel,by decide +kernel⟩
theorem qkB {f:Addr}{fd:FuncData}(F:Fun K "lowest" "lowest" qaX f fd) (hX:NoX CX) (Ocommon_divisor:Own P w K mg base CX 1 "common_divisor" ["one", "other"] (qW K qjn)):FnOk P w K mg base CX 2 f fd ["n", "d"] (qW K sLow):=by
 refine F.okD qgA (fun es μ Q hq0=>by obtain ⟨n,d,e,_⟩:=hq0;subst e;rfl) (fun cdv A outer s H E es μ Q hr hq0=>?_)
 obtain ⟨n,d,e,h0,hs,k1,k2⟩:=hq0
 subst e
 have nd:=qgA.nd
 refine ⟨_,(qr (qP (i:=2) nd rfl (by first | exact Or.inl rfl | exact Or.inr rfl) (qS Ocommon_divisor hX (hr.mono (by decide)) rfl (qa (dv 0) (qa (dv 1) qd))))
   (qr (jS (yj qaD (dv 1) qu (qY _)) (qH (qP (i:=2) nd rfl (by first | exact Or.inl rfl | exact Or.inr rfl) (YO yO (dv 2)))) y8)
   (qH (qR (yC (qa (qO YN (dv 0) (dv 2)) (qa (qO YN (dv 1) (dv 2)) qd))))))),?_⟩
 refine ⟨n,d,rfl,jB (fun c=>?_) (fun c=>?_)⟩
 ·have c:d<0:=qy c
  have g:=qg8 (n:=-n) (d:=-d) (by omega) hs.neg
  have kk:=k2 c
  unfold qlv at kk
  rw [Int.gcd_neg,Int.neg_gcd] at g kk
  have e:∀ x:Int,(-x).fdiv ((Int.gcd n d:Nat):Int)=x.fdiv (-((Int.gcd n d:Nat):Int)):=fun x=>by
   have:=Int.neg_fdiv_neg x (-((Int.gcd n d:Nat):Int))
   rw [Int.neg_neg] at this
   exact this
  rw [e,e] at kk
  have g':∀ x:Int,qjl x (-((Int.gcd n d:Nat):Int)):=fun x=>⟨by have:=g.1;omega,g.2.neg⟩
  exact ⟨g' _,g' _,zl2,kk⟩
 ·have c:¬ d<0:=fun z=>c (qm z)
  have g:=qg8 (n:=n) (show 0<d by omega) hs
  exact ⟨g,g,zl2,k1 (by omega)⟩
def cvA (sq on no n d:Int):Int:=sq * n * n+on * n * d+no * d * d
def sCvA:SpD:=fun es μ Q=>∃ sq on no n d:Int,es=[.d (.tuple [.int sq,.int on,.int no]),.d (.int n),.d (.int d)]/\Sz 9000 sq/\Sz 9000 on/\Sz 9000 no/\Sz 400 n/\Sz 400 d/\Q (.d (.int (cvA sq on no n d))) μ
theorem qgH:FnScope ["curve", "n", "d", "square", "one", "nought"] ["curve", "n", "d"] (qt YW):=⟨rfl,rfl,rfl,by decide +kernel,rfl,by decide +kernel,by decide +kernel⟩
theorem qkI {f:Addr}{fd:FuncData}(F:Fun K "curve_at" "curve_at" YW f fd)  : FnOk P w K mg base CX 1 f fd ["curve", "n", "d"] (qW K sCvA):=by
 refine F.okD qgH (fun es μ Q hq0=>by obtain ⟨sq,on,no,n,d,e,_⟩:=hq0;subst e;rfl) (fun cdv A outer s H E es μ Q hr hq0=>?_)
 obtain ⟨sq,on,no,n,d,e,h1,h2,h3,h4,h5,k⟩:=hq0
 subst e
 have nd:=qgH.nd
 refine ⟨_,(qr (jt (dv 0) (yP (n:=3) rfl (qv (qw (i:=3) nd rfl (by first | exact Or.inl rfl | exact Or.inr rfl)) (qv (qw (i:=4) nd rfl (by first | exact Or.inl rfl | exact Or.inr rfl)) (qv (qw (i:=5) nd rfl (by first | exact Or.inl rfl | exact Or.inr rfl)) yk)))))
   (qH (qR (qO yx (qO yx (qO qA (qO qA (dv 3) (dv 1)) (dv 1)) (qO qA (qO qA (dv 4) (dv 1)) (dv 2))) (qO qA (qO qA (dv 5) (dv 2)) (dv 2)))))),?_⟩
 exact ⟨rfl,yQ h1 h4 (by decide),yQ (h1.mul h4) h4 (by decide),yQ h2 h4 (by decide),yQ (h2.mul h4) h5 (by decide),yQ h3 h5 (by decide),yQ (h3.mul h5) h5 (by decide),k⟩
def vl' (n p:Pt):Int:=n.1 * p.1+n.2 * p.2
def qlU:SpD:=fun es μ Q=>∃ p q:Pt,es=[.d (ptD p),.d (ptD q)]/\Bd B40 p/\Bd B40 q/\Q (.d (.int (vl' p q))) μ
theorem qbw:FnScope ["normal", "point"] ["normal", "point"] (qt qcW):=⟨rfl,rfl,rfl,by decide +kernel,rfl,by decide +kernel,by decide +kernel⟩
theorem qfB {f:Addr}{fd:FuncData}(F:Fun K "value" "value" qcW f fd)  : FnOk P w K mg base CX 1 f fd ["normal", "point"] (qW K qlU):=by
 refine F.okD qbw (fun es μ Q hq0=>by obtain ⟨p,q,e,_⟩:=hq0;subst e;rfl) (fun cdv A outer s H E es μ Q hr hq0=>?_)
 obtain ⟨p,q,e,hp,hq,k⟩:=hq0
 subst e
 have nd:=qbw.nd
 refine ⟨_,(qH (qR (qO yx (qO Jh (jh qN (dv 0) qu (fun _ _=>rfl)) (jh qN (dv 1) qu (fun _ _=>rfl))) (qO Jh (jh qN (dv 0) qu (fun _ _=>rfl)) (jh qN (dv 1) qu (fun _ _=>rfl)))))),?_⟩
 exact ⟨_,rfl,_,rfl,qa6 hp.1 hq.1,_,rfl,_,rfl,qa6 hp.2 hq.2,k⟩
def SpV (A B:Pt) (low q1 q2 q3 q4:Int):Prop:=0<q4/\Sz 600 q1/\Sz 600 q2/\Sz 600 q3/\Sz 600 q4 ∧
 ((low<A.1/\low<B.1/\q1=0/\q2=0/\q3=0/\q4=1) ∨
  (A.1<=low/\B.1<=low/\q1=0/\q2 = -2 * (B.2 - A.2)/\q3=(A.1+B.1) * (B.2 - A.2)/\q4=1) ∨
  (A.1<=low/\low<B.1/\q1 = -(B.2 - A.2)/\q2=2 * A.1 * (B.2 - A.2)/\q3 = -(A.1 * A.1 * (B.2 - A.2))/\q4=B.1 - A.1) ∨
  (B.1<=low/\low<A.1/\q1 = -(B.2 - A.2)/\q2=2 * B.1 * (B.2 - A.2)/\q3 = -(B.1 * B.1 * (B.2 - A.2))/\q4=A.1 - B.1))
theorem qlT {a:Int}(h:a.natAbs<=B40):Sz 134 a:=Sz.of B40 h (by decide +kernel)
def sSp:SpD:=fun es μ Q=>∃ (A B:Pt) (low:Int),es=[.d (ptD A),.d (ptD B),.d (.int low)]/\Bd B40 A/\Bd B40 B/\∀ q1 q2 q3 q4:Int,SpV A B low q1 q2 q3 q4->Q (.d (.tuple [.int q1,.int q2,.int q3,.int q4])) μ
theorem qjL:FnScope ["start", "end", "low", "least", "most", "across"] ["start", "end", "low"] (qt Ya):=⟨rfl,rfl,rfl,by decide +kernel,rfl,by decide +kernel,by decide +kernel⟩
theorem ok_sp {f:Addr}{fd:FuncData}(F:Fun K "side_part" "side_part" Ya f fd) (T:Txt mg):FnOk P w K mg base CX 1 f fd ["start", "end", "low"] (qW K sSp):=by
 refine F.okD qjL (fun es μ Q hq0=>by obtain ⟨A,B,low,e,_⟩:=hq0;subst e;rfl) (fun cdv A' outer s H E es μ Q hr hq0=>?_)
 obtain ⟨A,B,low,e,hA,hB,k⟩:=hq0
 subst e
 have nd:=qjL.nd
 refine ⟨_,(qr (qP (i:=3) nd rfl (by first | exact Or.inl rfl | exact Or.inr rfl) (qQ (qhj rfl) (by rfl) T.min_ qb9 (qa (jh qN (dv 0) qu (fun _ _=>rfl)) (qa (jh qN (dv 1) qu (fun _ _=>rfl)) qd))))
   (qr (qP (i:=4) nd rfl (by first | exact Or.inl rfl | exact Or.inr rfl) (qQ (qb6 rfl) (by rfl) T.max_ Zb (qa (jh qN (dv 0) qu (fun _ _=>rfl)) (qa (jh qN (dv 1) qu (fun _ _=>rfl)) qd))))
   (qr (qP (i:=5) nd rfl (by first | exact Or.inl rfl | exact Or.inr rfl) (qO yl (jh qN (dv 1) qu (fun _ _=>rfl)) (jh qN (dv 0) qu (fun _ _=>rfl))))
   (qr (jS (yj ZS (dv 3) (dv 2) (qY _)) (qH (qR (yC (qa qu (qa qu (qa qu (qa qu qd))))))) y8)
   (qr (jS (yj qcx (dv 4) (dv 2) (qY _)) (qH (qR (yC (qa qu (qa (qO qA (YO yO qu) (dv 5)) (qa (qO qA (qO yx (dv 3) (dv 4)) (dv 5)) (qa qu qd))))))) y8)
   (qH (qR (yC (qa (YO yO (dv 5)) (qa (qO qA (qO qA qu (dv 3)) (dv 5)) (qa (qO qA (qO qA (YO yO (dv 3)) (dv 3)) (dv 5)) (qa (qO yl (dv 4) (dv 3)) qd)))))))))))),?_⟩
 have a1:=qlT hA.1
 have a2:=qlT hA.2
 have b1:=qlT hB.1
 have b2:=qlT hB.2
 have dd:Sz 135 (B.2 - A.2):=b2.sub a2
 refine ⟨_,rfl,_,rfl,_,rfl,_,rfl,_,rfl,_,rfl,?_⟩
 obtain ⟨l,hl,fl⟩:∃ l,(if B.1<A.1 then B.1 else A.1)=l/\((A.1<=B.1/\l=A.1)\/(B.1<A.1/\l=B.1)):=⟨_,rfl,by split <;> omega⟩
 obtain ⟨m,hm,fm⟩:∃ m,(if A.1<B.1 then B.1 else A.1)=m/\((A.1<B.1/\m=B.1)\/(B.1<=A.1/\m=A.1)):=⟨_,rfl,by split <;> omega⟩
 dsimp only [List.set_cons_zero,List.set_cons_succ]
 rw [hl,hm]
 have sl:Sz 134 l:=by rcases fl with ⟨_,rfl⟩ | ⟨_,rfl⟩ <;> assumption
 have sm:Sz 134 m:=by rcases fm with ⟨_,rfl⟩ | ⟨_,rfl⟩ <;> assumption
 have s2:Sz 134 2:=by unfold Sz;decide +kernel
 have sm2:Sz 134 (-2):=by unfold Sz;decide +kernel
 have s0:Sz 600 0:=by unfold Sz;decide +kernel
 have s1:Sz 600 1:=by unfold Sz;decide +kernel
 refine jB (fun c1=>?_) (fun c1=>jB (fun c2=>?_) (fun c2=>?_))
 ·have c1:low<l:=qy c1
  exact ⟨zl4,k 0 0 0 1 ⟨by decide,s0,s0,s0,s1,.inl ⟨by omega,by omega,rfl,rfl,rfl,rfl⟩⟩⟩
 ·have c2:m<=low:=qy c2
  refine ⟨yQ sm2 dd (by decide),yQ (sl.add sm) dd (by decide),zl4,k 0 (-2 * (B.2 - A.2)) ((l+m) * (B.2 - A.2)) 1 ⟨by decide,s0,(sm2.mul dd).mono (by decide),((sl.add sm).mul dd).mono (by decide),s1,.inr (.inl ⟨by omega,by omega,rfl,rfl,?_,rfl⟩)⟩⟩
  rw [show l+m=A.1+B.1 by omega]
 ·have c1:¬ low<l:=fun z=>c1 (qm z)
  have c2:¬ m<=low:=fun z=>c2 (qm z)
  refine ⟨yQ s2 sl (by decide),yQ (s2.mul sl) dd (by decide),yQ sl.neg sl (by decide),yQ (sl.neg.mul sl) dd (by decide),zl4,k (-(B.2 - A.2)) (2 * l * (B.2 - A.2)) (-l * l * (B.2 - A.2)) (m - l) ⟨by omega,dd.neg.mono (by decide),((s2.mul sl).mul dd).mono (by decide),((sl.neg.mul sl).mul dd).mono (by decide),(sm.sub sl).mono (by decide),?_⟩⟩
  rcases fl with ⟨h1,rfl⟩ | ⟨h1,rfl⟩
  ·exact .inr (.inr (.inl ⟨by omega,by omega,rfl,rfl,by rw [Int.neg_mul,Int.neg_mul],by omega⟩))
  ·exact .inr (.inr (.inr ⟨by omega,by omega,rfl,rfl,by rw [Int.neg_mul,Int.neg_mul],by omega⟩))
def Z7 (v:Pt) (P:List Pt):List Pt:=P.map fun q=>(vl' v q,crs v q)
def Low (low:Int) (t:Rat):Prop:=∀ s:Int,s<=low ↔ (s:Rat)<=t
def LowA (s low:Int) (t:Rat):Prop:=(s<=low->(s:Rat)<=t)/\(low<s->t<=(s:Rat))
def LowS (S:List Pt) (low:Int) (t:Rat):Prop:=∀ q∈S,LowA q.1 low t
def pS (A B:Pt) (t:Rat):Rat :=
 if (A.1:Rat)<=t then
  if (B.1:Rat)<=t then ((B.2:Rat) - A.2) * ((A.1:Rat) - t+((B.1:Rat) - t)) else -((B.2:Rat) - A.2) * (((A.1:Rat) - t) * ((A.1:Rat) - t)) / ((B.1:Rat) - A.1)
 else if (B.1:Rat)<=t then -((B.2:Rat) - A.2) * (((B.1:Rat) - t) * ((B.1:Rat) - t)) / ((A.1:Rat) - B.1) else 0
theorem qjH {A B:Pt}{low q1 q2 q3 q4:Int}{t:Rat}(hA:LowA A.1 low t) (hB:LowA B.1 low t) (h:SpV A B low q1 q2 q3 q4):((q1:Rat) * t * t+q2 * t+q3) / q4=pS A B t:=by
 obtain ⟨h4,_,_,_,_,h⟩:=h
 unfold pS
 rcases h with ⟨x1,x2,rfl,rfl,rfl,rfl⟩ | ⟨x1,x2,rfl,rfl,rfl,rfl⟩ | ⟨x1,x2,rfl,rfl,rfl,rfl⟩ | ⟨x1,x2,rfl,rfl,rfl,rfl⟩
 ·have n1:=hA.2 x1
  have n2:=hB.2 x2
  by_cases c1:(A.1:Rat)<=t <;> by_cases c2:(B.1:Rat)<=t <;> simp only [c1,c2,if_true,if_false]
  ·have:(A.1:Rat)=t:=by grind
   have:(B.1:Rat)=t:=by grind
   grind
  ·have:(A.1:Rat) - t=0:=by grind
   rw [this]
   grind
  ·have:(B.1:Rat) - t=0:=by grind
   rw [this]
   grind
  ·grind
 ·rw [if_pos (hA.1 x1),if_pos (hB.1 x2)]
  grind
 ·have n1:=hA.1 x1
  have n2:=hB.2 x2
  have hne:(B.1:Rat) - A.1≠0:=fun z=>by
   have:B.1=A.1:=Rat.intCast_inj.mp (by grind)
   omega
  rw [if_pos n1]
  by_cases c2:(B.1:Rat)<=t
  ·rw [if_pos c2]
   have:(B.1:Rat)=t:=by grind
   grind
  ·rw [if_neg c2]
   grind
 ·have n1:=hB.1 x1
  have n2:=hA.2 x2
  have hne:(A.1:Rat) - B.1≠0:=fun z=>by
   have:A.1=B.1:=Rat.intCast_inj.mp (by grind)
   omega
  by_cases c2:(A.1:Rat)<=t
  ·rw [if_pos c2,if_pos n1]
   have:(A.1:Rat)=t:=by grind
   grind
  ·rw [if_neg c2,if_pos n1]
   grind
def spF (A B:Pt) (low:Int):Int×Int×Int×Int :=
 if A.1<=low then
  if B.1<=low then (0,-2 * (B.2 - A.2),(A.1+B.1) * (B.2 - A.2),1) else (-(B.2 - A.2),2 * A.1 * (B.2 - A.2),-(A.1 * A.1 * (B.2 - A.2)),B.1 - A.1)
 else if B.1<=low then (-(B.2 - A.2),2 * B.1 * (B.2 - A.2),-(B.1 * B.1 * (B.2 - A.2)),A.1 - B.1) else (0,0,0,1)
theorem spV_F {A B:Pt}{low q1 q2 q3 q4:Int}(h:SpV A B low q1 q2 q3 q4):spF A B low=(q1,q2,q3,q4):=by
 obtain ⟨_,_,_,_,_,h⟩:=h
 unfold spF
 rcases h with ⟨x1,x2,rfl,rfl,rfl,rfl⟩ | ⟨x1,x2,rfl,rfl,rfl,rfl⟩ | ⟨x1,x2,rfl,rfl,rfl,rfl⟩ | ⟨x1,x2,rfl,rfl,rfl,rfl⟩
 ·rw [if_neg (by omega),if_neg (by omega)]
 ·rw [if_pos x1,if_pos x2]
 ·rw [if_pos x1,if_neg (by omega)]
 ·rw [if_neg (by omega),if_pos x1]
def qeZ (S:List Pt) (low:Int):Nat->Int×Int×Int×Int
 | 0=>(0,0,0,1)
 | i+1=>((qeZ S low i).1 * (spF (gP S i) (nx S i) low).2.2.2+(spF (gP S i) (nx S i) low).1 * (qeZ S low i).2.2.2,
   (qeZ S low i).2.1 * (spF (gP S i) (nx S i) low).2.2.2+(spF (gP S i) (nx S i) low).2.1 * (qeZ S low i).2.2.2,
   (qeZ S low i).2.2.1 * (spF (gP S i) (nx S i) low).2.2.2+(spF (gP S i) (nx S i) low).2.2.1 * (qeZ S low i).2.2.2,
   (qeZ S low i).2.2.2 * (spF (gP S i) (nx S i) low).2.2.2)
def Acc (S:List Pt) (low:Int) (i:Nat) (sq on no dv:Int):Prop:=0<dv/\Sz (601 * i+1) sq/\Sz (601 * i+1) on/\Sz (601 * i+1) no/\Sz (601 * i+1) dv ∧
 (∀ t:Rat,LowS S low t->((sq:Rat) * t * t+on * t+no) / dv=yF (fun k=>pS (gP S k) (nx S k) t) i)/\qeZ S low i=(sq,on,no,dv)
theorem qgd {S:List Pt}{low:Int}{i:Nat}{sq on no dv q1 q2 q3 q4:Int}(hi:i<S.length) (h:Acc S low i sq on no dv) (h2:SpV (gP S i) (nx S i) low q1 q2 q3 q4) :
  Acc S low (i+1) (sq * q4+q1 * dv) (on * q4+q2 * dv) (no * q4+q3 * dv) (dv * q4):=by
 obtain ⟨h1,s1,s2,s3,s4,e,eF⟩:=h
 have hv:=h2
 obtain ⟨p4,z1,z2,z3,z4,_⟩:=h2
 have st:∀ {x q:Int},Sz (601 * i+1) x->Sz 600 q->Sz (601 * (i+1)+1) (x * q4+q * dv):=fun {x q} hx hq=>by
  have a1:=hx.mul z4
  have a2:=(hq.mul s4).mono (show 600+(601 * i+1)<=601 * i+1+600 by omega)
  exact (a1.add a2).mono (by omega)
 refine ⟨yM h1 p4,st s1 z1,st s2 z2,st s3 z3,(s4.mul z4).mono (by omega),fun t ht=>?_,by unfold qeZ;rw [eF,spV_F hv]⟩
 have e1:=e t ht
 have e2:_=pS (gP S i) (nx S i) t:=qjH (ht _ (js hi)) (ht _ (js (yp _ (by omega)))) hv
 show _=yF _ i+pS (gP S i) (nx S i) t
 rw [<- e1,<- e2]
 have d1:(dv:Rat)≠0:=by
  intro z
  have:dv=0:=Rat.intCast_inj.mp (by rw [z];rfl)
  omega
 have d2:(q4:Rat)≠0:=by
  intro z
  have:q4=0:=Rat.intCast_inj.mp (by rw [z];rfl)
  omega
 simp only [Rat.intCast_mul,Rat.intCast_add]
 grind
end
section
variable {P:Program}{w:World}{K:W.Frag}{mg:Str->Option Value}{base:Heap}{CX:CXT}
def Ar (v:Pt):Prop:=Bd 1000000000 v/\v≠(0,0)
theorem ZD {v q:Pt}(hv:Ar v) (hq:Z9 q):Bd B40 (vl' v q,crs v q):=by
 obtain ⟨⟨v1,v2⟩,_⟩:=hv
 obtain ⟨⟨a1,a2⟩,b1,b2⟩:=hq
 have m:∀ x y:Int,x.natAbs<=1000000000->y.natAbs<=1000000000000000000000000000000->(x * y).natAbs<=1000000000 * 1000000000000000000000000000000:=fun x y hx hy=>by rw [jv];exact Nat.mul_le_mul hx hy
 have m1:=m v.1 q.1 v1 (by omega)
 have m2:=m v.2 q.2 v2 (by omega)
 have m3:=m v.1 q.2 v1 (by omega)
 have m4:=m v.2 q.1 v2 (by omega)
 constructor
 ·show (v.1 * q.1+v.2 * q.2).natAbs<=10000000000000000000000000000000000000000
  omega
 ·show (v.1 * q.2 - v.2 * q.1).natAbs<=10000000000000000000000000000000000000000
  omega
theorem qlD {v:Pt}(h:Ar v):Bd B40 v:=⟨qF h.1.1 (by decide),qF h.1.2 (by decide)⟩
theorem qdM {q:Pt}(h:Z9 q):Bd B40 q:=⟨qF (JN h).1 (by decide),qF (JN h).2 (by decide)⟩
theorem JG {v:Pt}{P:List Pt}{k:Nat}(hk:k<P.length):gP (Z7 v P) k=(vl' v (gP P k),crs v (gP P k)):=by
 unfold Z7
 rw [je (by rw [List.length_map];exact hk),List.getElem_map,je hk]
theorem ZC (v:Pt) (P:List Pt):(Z7 v P).length=P.length:=by unfold Z7;rw [List.length_map]
theorem qaT {v:Pt}(hv:Ar v):0<vl' v v/\(vl' v v).natAbs<=2000000000000000000:=by
 obtain ⟨⟨v1,v2⟩,h0⟩:=hv
 have m1:(v.1 * v.1).natAbs<=1000000000 * 1000000000:=by rw [jv];exact Nat.mul_le_mul v1 v1
 have m2:(v.2 * v.2).natAbs<=1000000000 * 1000000000:=by rw [jv];exact Nat.mul_le_mul v2 v2
 have p:∀ x:Int,0<=x * x:=fun x=>by
  rcases Int.le_total 0 x with z | z
  ·exact jU z z
  ·exact Int.mul_nonneg_of_nonpos_of_nonpos z z
 have p2:∀ x:Int,x≠0->0<x * x:=fun x hx=>by
  rcases yT hx with z | z
  ·exact Int.mul_pos_of_neg_of_neg z z
  ·exact yM z z
 have q1:=p v.1
 have q2:=p v.2
 refine ⟨?_,?_⟩
 ·show 0<v.1 * v.1+v.2 * v.2
  by_cases z:v.1=0
  ·have:v.2≠0:=fun y=>h0 (Prod.ext z y)
   have:=p2 _ this
   omega
  ·have:=p2 _ z
   omega
 ·show (v.1 * v.1+v.2 * v.2).natAbs<=_
  omega
theorem qhL {v:Pt}(hv:Ar v):Sz 70 (vl' v v):=Sz.of _ (qaT hv).2 (by decide)
def sPc:SpD:=fun es μ Q=>∃ (P:List Pt) (v:Pt) (low:Int),es=[.d (hpD P),.d (ptD v),.d (.int low)]/\2<=P.length/\P.length<=12/\(∀ p∈P,Z9 p)/\Ar v/\∀ sq on no dv:Int,Acc (Z7 v P) low P.length sq on no dv->Q (.d (.tuple [.tuple [.int sq,.int on,.int no],.int (dv * vl' v v)])) μ
theorem qjM:FnScope ["cake", "arrow", "low", "seen", "square", "one", "nought", "divisor", "start", "end", "more_square", "more_one", "more_nought", "more_divisor"] ["cake", "arrow", "low"] (qt Ja):=⟨rfl,rfl,rfl,by decide +kernel,rfl,by decide +kernel,by decide +kernel⟩
theorem ok_pc {f:Addr}{fd:FuncData}(F:Fun K "part_curve" "part_curve" Ja f fd) (T:Txt mg) (hX:NoX CX) (Ovalue:Own P w K mg base CX 1 "value" ["normal", "point"] (qW K qlU)) (Ocross:Own P w K mg base CX 1 "cross" ["one", "other"] (qW K qbD)) (Osides:Own P w K mg base CX 2 "sides" ["corners"] (qW K qbC)) (Oside_part:Own P w K mg base CX 1 "side_part" ["start", "end", "low"] (qW K sSp)):FnOk P w K mg base CX 3 f fd ["cake", "arrow", "low"] (qW K sPc):=by
 refine F.okD qjM (fun es μ Q hq0=>by obtain ⟨P,v,low,e,_⟩:=hq0;subst e;rfl) (fun cdv A' outer s H E es μ Q hr hq0=>?_)
 obtain ⟨P,v,low,e,l2,l12,hn,hv,k⟩:=hq0
 subst e
 have nd:=qjM.nd
 refine ⟨_,(qr (qbf (i:=3) nd rfl (by first | exact Or.inl rfl | exact Or.inr rfl) (L:=["corner"]) (sc:=qt Ja) (N:=["cake", "arrow", "low", "seen", "square", "one", "nought", "divisor", "start", "end", "more_square", "more_one", "more_nought", "more_divisor"]) rfl rfl rfl (by decide +kernel) (y6 (dv 0)) (fun _ _ _ _ _=>(qw (i:=14) (show List.Nodup (["cake", "arrow", "low", "seen", "square", "one", "nought", "divisor", "start", "end", "more_square", "more_one", "more_nought", "more_divisor", "corner"]:List Str) from by decide +kernel) rfl (by first | exact Or.inl rfl | exact Or.inr rfl))) (fun _ _ _ _ _=>jg) (fun _ _ _ _ _=>(yC (qa (qS Ovalue hX (hr.mono (by decide)) rfl (qa (dv 1) (qa (dv 14) qd))) (qa (qS Ocross hX (hr.mono (by decide)) rfl (qa (dv 1) (qa (dv 14) qd))) qd)))))
   (qr (jt (yC (qa qu (qa qu (qa qu (qa qu qd))))) (yP (n:=4) rfl (qv (qw (i:=4) nd rfl (by first | exact Or.inl rfl | exact Or.inr rfl)) (qv (qw (i:=5) nd rfl (by first | exact Or.inl rfl | exact Or.inr rfl)) (qv (qw (i:=6) nd rfl (by first | exact Or.inl rfl | exact Or.inr rfl)) (qv (qw (i:=7) nd rfl (by first | exact Or.inl rfl | exact Or.inr rfl)) yk))))))
   (qr (Y8 PassesOwn.never rfl (y6 (qS Osides hX (hr.mono (by decide)) rfl (qa (dv 3) qd))) (yP (n:=2) rfl (qv (qw (i:=8) nd rfl (by first | exact Or.inl rfl | exact Or.inr rfl)) (qv (qw (i:=9) nd rfl (by first | exact Or.inl rfl | exact Or.inr rfl)) yk))) (qr (jt (qS Oside_part hX (hr.mono (by decide)) rfl (qa (dv 8) (qa (dv 9) (qa (dv 2) qd)))) (yP (n:=4) rfl (qv (qw (i:=10) nd rfl (by first | exact Or.inl rfl | exact Or.inr rfl)) (qv (qw (i:=11) nd rfl (by first | exact Or.inl rfl | exact Or.inr rfl)) (qv (qw (i:=12) nd rfl (by first | exact Or.inl rfl | exact Or.inr rfl)) (qv (qw (i:=13) nd rfl (by first | exact Or.inl rfl | exact Or.inr rfl)) yk))))))
   (qr (qP (i:=4) nd rfl (by first | exact Or.inl rfl | exact Or.inr rfl) (qO yx (qO qA (dv 4) (dv 13)) (qO qA (dv 10) (dv 7))))
   (qr (qP (i:=5) nd rfl (by first | exact Or.inl rfl | exact Or.inr rfl) (qO yx (qO qA (dv 5) (dv 13)) (qO qA (dv 11) (dv 7))))
   (qr (qP (i:=6) nd rfl (by first | exact Or.inl rfl | exact Or.inr rfl) (qO yx (qO qA (dv 6) (dv 13)) (qO qA (dv 12) (dv 7))))
   (qH (qP (i:=7) nd rfl (by first | exact Or.inl rfl | exact Or.inr rfl) (qO qA (dv 7) (dv 13)))))))))
   (qH (qR (yC (qa (yC (qa (dv 4) (qa (dv 5) (qa (dv 6) qd)))) (qa (qO qA (dv 7) (qS Ovalue hX (hr.mono (by decide)) rfl (qa (dv 1) (qa (dv 1) qd)))) qd)))))))),?_⟩
 have v40:=qlD hv
 refine ⟨_,.d _,(by show (P.map ptD).length<=4000;rw [List.length_map];omega),qhq (as:=P) (h:=ptD) (fun q=>.tuple [.int (vl' v q),.int (crs v q)]) (Src.l (.d _)) (fun q hq R h=>⟨v,q,rfl,v40,qdM (hn q hq),v,q,rfl,v40,qdM (hn q hq),zl2,h⟩) ?_⟩
 have es:(P.map fun q=>PyData.tuple [.int (vl' v q),.int (crs v q)])=(Z7 v P).map ptD:=by unfold Z7;rw [List.map_map];rfl
 rw [es]
 have sl:=ZC v P
 have bS:∀ k,k<(Z7 v P).length->Bd B40 (gP (Z7 v P) k):=fun k hk=>by
  rw [JG (by omega)]
  exact ZD hv (hn _ (js (by omega)))
 generalize Z7 v P=S at *
 refine ⟨zl4,rfl,S,rfl,by omega,by omega,_,.d _,?_⟩
 have s1:Sz 1 0:=by unfold Sz;decide
 refine forL (fun i ρ' μ'=>μ'=μ/\∃ sq on no dv:Int,Acc S low i sq on no dv/\∃ v1 v2 v3 v4 v5 v6,ρ'=[some (.d (hpD P)),some (.d (ptD v)),some (.d (.int low)),some (.d (hpD S)),some (.d (.int sq)),some (.d (.int on)),some (.d (.int no)),some (.d (.int dv)),v1,v2,v3,v4,v5,v6]) ?_ (fun _ _ _ _=>.d _) ?_ ?_
 ·exact ⟨rfl,0,0,0,1,⟨by decide,s1,s1,s1,by unfold Sz;decide,fun t _=>by show (((0:Int):Rat) * t * t+((0:Int):Rat) * t+((0:Int):Rat)) / ((1:Int):Rat)=0;grind,rfl⟩,_,_,_,_,_,_,rfl⟩
 ·rintro i x ρ' μ' hx ⟨rfl,sq,on,no,dv,ha,v1,v2,v3,v4,v5,v6,rfl⟩
  rw [List.getElem?_map] at hx
  obtain ⟨j,hj,rfl⟩:=Option.map_eq_some_iff.mp hx
  have hi:i<S.length:=by
   have:=(qp.mp hj).1
   rwa [yv] at this
  rw [List.getElem?_range hi] at hj
  cases hj
  have n0:0<S.length:=by omega
  refine ⟨rfl,gP S i,nx S i,low,rfl,bS i hi,bS _ (yp _ n0),fun q1 q2 q3 q4 hs=>?_⟩
  dsimp only [List.set_cons_zero,List.set_cons_succ]
  have hst:=qgd hi ha hs
  obtain ⟨_,a1,a2,a3,a4,_⟩:=ha
  obtain ⟨_,z1,z2,z3,z4,_⟩:=hs
  have f:601 * i+1+600<2 ^ 20:=by omega
  have f2:600+(601 * i+1)<2 ^ 20:=by omega
  refine ⟨rfl,yQ a1 z4 f,yQ z1 a4 f2,yQ a2 z4 f,yQ z2 a4 f2,yQ a3 z4 f,yQ z3 a4 f2,yQ a4 z4 f,Wks.of ⟨rfl,_,_,_,_,hst,_,_,_,_,_,_,rfl⟩⟩
 ·rintro ρ' μ' ⟨rfl,sq,on,no,dv,ha,v1,v2,v3,v4,v5,v6,rfl⟩
  rw [List.length_map,yv,sl] at ha
  have a4:=ha.2.2.2.2.1
  exact ⟨zl3,v,v,rfl,v40,v40,yQ a4 (qhL hv) (by omega),zl2,k sq on no dv ha⟩
theorem qg3 {n d:Int}(hd:0<d):Low (n.fdiv d) ((n:Rat) / (d:Rat)):=fun s=>by
 rw [Int.fdiv_eq_ediv_of_nonneg _ (Int.le_of_lt hd),Int.le_ediv_iff_mul_le hd]
 have hd':(0:Rat)<(d:Rat):=Rat.intCast_pos.mpr hd
 have e:(s:Rat)<=(n:Rat) / (d:Rat) ↔ (s:Rat) * (d:Rat)<=(n:Rat):=by
  constructor
  ·intro h
   have:=Rat.mul_le_mul_of_nonneg_right h (Rat.le_of_lt hd')
   have e2:(n:Rat) / d * d=n:=by grind
   rw [e2] at this
   exact this
  ·intro h
   have e2:(s:Rat)=(s:Rat) * d / d:=by grind
   rw [e2]
   have h2:=Rat.mul_le_mul_of_nonneg_right h (Rat.le_of_lt (Rat.inv_pos.mpr hd'))
   rw [Rat.div_def,Rat.div_def]
   exact h2
 rw [e,<- Rat.intCast_mul,Rat.intCast_le_intCast]
def sBel:SpD:=fun es μ Q=>∃ (P:List Pt) (v:Pt) (n d:Int),es=[.d (hpD P),.d (ptD v),.d (.int n),.d (.int d)]/\2<=P.length/\P.length<=12/\(∀ p∈P,Z9 p)/\Ar v/\0<d/\Sz 300 n/\Sz 110 d ∧
 ∀ N D:Int,0<D->Sz 9000 N->Sz 9000 D->(N:Rat) / D * (vl' v v:Int)=yF (fun k=>pS (gP (Z7 v P) k) (nx (Z7 v P) k) ((n:Rat) / d)) P.length->Q (.d (qlv N D)) μ
theorem qgL:FnScope ["cake", "arrow", "n", "d", "curve", "divisor"] ["cake", "arrow", "n", "d"] (qt qdc):=⟨rfl,rfl,rfl,by decide +kernel,rfl,by decide +kernel,by decide +kernel⟩
theorem qkM {f:Addr}{fd:FuncData}(F:Fun K "below" "below" qdc f fd) (hX:NoX CX) (Opart_curve:Own P w K mg base CX 3 "part_curve" ["cake", "arrow", "low"] (qW K sPc)) (Olowest:Own P w K mg base CX 2 "lowest" ["n", "d"] (qW K sLow)) (Ocurve_at:Own P w K mg base CX 1 "curve_at" ["curve", "n", "d"] (qW K sCvA)):FnOk P w K mg base CX 4 f fd ["cake", "arrow", "n", "d"] (qW K sBel):=by
 refine F.okD qgL (fun es μ Q hq0=>by obtain ⟨P,v,n,d,e,_⟩:=hq0;subst e;rfl) (fun cdv A' outer s H E es μ Q hr hq0=>?_)
 obtain ⟨P,v,n,d,e,l2,l12,hn,hv,hd,sn,sd,k⟩:=hq0
 subst e
 have nd:=qgL.nd
 refine ⟨_,(qr (jt (qS Opart_curve hX (hr.mono (by decide)) rfl (qa (dv 0) (qa (dv 1) (qa (qO YN (dv 2) (dv 3)) qd)))) (yP (n:=2) rfl (qv (qw (i:=4) nd rfl (by first | exact Or.inl rfl | exact Or.inr rfl)) (qv (qw (i:=5) nd rfl (by first | exact Or.inl rfl | exact Or.inr rfl)) yk))))
   (qH (qR (qS Olowest hX (hr.mono (by decide)) rfl (qa (qS Ocurve_at hX (hr.mono (by decide)) rfl (qa (dv 4) (qa (dv 2) (qa (dv 3) qd)))) (qa (qO qA (qO qA (dv 5) (dv 3)) (dv 3)) qd)))))),?_⟩
 refine ⟨⟨by omega,sd.mono (by decide)⟩,P,v,_,rfl,l2,l12,hn,hv,fun sq on no dv ha=>?_⟩
 obtain ⟨p1,s1,s2,s3,s4,e,_⟩:=ha
 have vv:=qaT hv
 have sv:=qhL hv
 have mo:∀ {x:Int},Sz (601 * P.length+1) x->Sz 7300 x:=fun h=>h.mono (by omega)
 have sD:Sz (7300+70) (dv * vl' v v):=(mo s4).mul sv
 have et:=e _ fun q _=>⟨fun z=>(qg3 hd q.1).mp z,fun z=>by have:=(qg3 (n:=n) hd q.1).mpr;rcases Rat.le_total (a:=(n:Rat) / (d:Rat)) (b:=(q.1:Rat)) with y | y;exact y;have:=this y;omega⟩
 have hD:0<dv * vl' v v * d * d:=yM (yM (yM p1 vv.1) hd) hd
 have sN:Sz 9000 (cvA sq on no n d):=by
  have sd':Sz 300 d:=sd.mono (by decide)
  have a1:Sz 7901 (sq * n * n):=(((mo s1).mul sn).mul sn).mono (by decide)
  have a2:Sz 7901 (on * n * d):=(((mo s2).mul sn).mul sd').mono (by decide)
  have a3:Sz 7902 (no * d * d):=(((mo s3).mul sd').mul sd').mono (by decide)
  exact ((a1.add a2).add a3).mono (by decide)
 refine ⟨rfl,sq,on,no,n,d,rfl,(mo s1).mono (by decide),(mo s2).mono (by decide),(mo s3).mono (by decide),sn.mono (by decide),sd.mono (by decide),yQ sD sd (by decide),yQ (sD.mul sd) sd (by decide),_,_,rfl,Int.ne_of_gt hD,((sD.mul sd).mul sd).mono (by decide),(fun _=>k _ _ hD sN (((sD.mul sd).mul sd).mono (by decide)) ?_),fun z=>absurd z (Int.not_lt.mpr (Int.le_of_lt hD))⟩
 rw [<- et]
 have d1:(dv:Rat)≠0:=fun z=>by
  have:dv=0:=Rat.intCast_inj.mp (by rw [z];rfl)
  omega
 have d2:(d:Rat)≠0:=fun z=>by
  have:d=0:=Rat.intCast_inj.mp (by rw [z];rfl)
  omega
 have d3:((vl' v v:Int):Rat)≠0:=fun z=>by
  have:vl' v v=0:=Rat.intCast_inj.mp (by rw [z];rfl)
  omega
 unfold cvA
 simp only [Rat.intCast_mul,Rat.intCast_add]
 generalize ((vl' v v:Int):Rat)=L at *
 grind
end
section
variable {P:Program}{w:World}{K:W.Frag}{mg:Str->Option Value}{base:Heap}{CX:CXT}
theorem qgC:FnScope ["_law_one", "_law_two", "_law_found", "_law_rest"] ["_law_one", "_law_two"] (qt Jc):=⟨rfl,rfl,rfl,by decide +kernel,rfl,by decide +kernel,by decide +kernel⟩
theorem qkD {f:Addr}{fd:FuncData}(F:Fun K "_law_divisor" "_law_divisor" Jc f fd) (T:Txt mg):FnOk P w K mg base CX 1 f fd ["_law_one", "_law_two"] (qW K qjn):=by
 refine F.okD qgC (fun es μ Q hq0=>by obtain ⟨a,b,e,_⟩:=hq0;subst e;rfl) (fun cdv A outer s H E es μ Q hr hq0=>?_)
 obtain ⟨a,b,e,k⟩:=hq0
 subst e
 have nd:=qgC.nd
 refine ⟨_,(qr (qP (i:=2) nd rfl (by first | exact Or.inl rfl | exact Or.inr rfl) (qQ J3 (by rfl) T.abs_ J6 (qa (dv 0) qd)))
   (qr (qP (i:=3) nd rfl (by first | exact Or.inl rfl | exact Or.inr rfl) (qQ J3 (by rfl) T.abs_ J6 (qa (dv 1) qd)))
   (qr (YM PassesOwn.never (yj (qbh hr.units) (dv 3) qu (qY _)) (qH (Y7 (i:=2) (j:=3) rfl nd rfl rfl (by decide) rfl rfl (qa (dv 3) (qa (qO Y9 (dv 2) (dv 3)) qd)) rfl)))
   (qH (qR (dv 2)))))),?_⟩
 refine ⟨fun m ρ' μ'=>μ'=μ/\∃ f r:Nat,ρ'=[some (.d (.int a)),some (.d (.int b)),some (.d (.int f)),some (.d (.int r))]/\m=r/\Nat.gcd f r=Int.gcd a b,⟨_,rfl,_,_,rfl,rfl,rfl⟩,?_⟩
 rintro m ρ' μ' ⟨rfl,f,r,rfl,rfl,g⟩
 refine jB (fun c=>?_) (fun c=>?_)
 ·have hm:m≠0:=by
   rintro rfl
   exact absurd c (by decide)
  refine ⟨(show (0:Int)<(m:Int) by omega),f % m,yp _ (by omega),Wks.of ⟨rfl,m,f % m,?_,rfl,by rw [qb3];exact g⟩⟩
  rw [Int.natCast_emod];rfl
 ·have:m=0:=by
   by_cases z:m=0
   ·exact z
   ·exact absurd (show (!decide ((m:Int)=0))=true by simp;omega) c
  subst this
  rw [Nat.gcd_zero_right] at g
  subst g
  exact k
theorem qla {a b:Int}(h:a≠0\/b≠0):∃ x y:Int,a.fdiv (Int.gcd a b:Nat)=x/\b.fdiv (Int.gcd a b:Nat)=y/\x.natAbs<=a.natAbs/\y.natAbs<=b.natAbs/\(x≠0\/y≠0):=by
 have h4:0<Int.gcd a b:=Nat.pos_of_ne_zero fun z=>by
  have:=Int.gcd_eq_zero_iff.mp z
  omega
 obtain ⟨x,ex⟩:=Int.gcd_dvd_left a b
 obtain ⟨y,ey⟩:=Int.gcd_dvd_right a b
 have g0:((Int.gcd a b:Nat):Int)≠0:=by omega
 have f1:a.fdiv (Int.gcd a b:Nat)=x:=by
  have:=Int.mul_fdiv_cancel_left x g0
  rw [<- ex] at this
  exact this
 have f2:b.fdiv (Int.gcd a b:Nat)=y:=by
  have:=Int.mul_fdiv_cancel_left y g0
  rw [<- ey] at this
  exact this
 have na:a.natAbs=Int.gcd a b * x.natAbs:=by
  have:=congrArg Int.natAbs ex
  rw [jv,Int.natAbs_natCast] at this
  exact this
 have nb:b.natAbs=Int.gcd a b * y.natAbs:=by
  have:=congrArg Int.natAbs ey
  rw [jv,Int.natAbs_natCast] at this
  exact this
 refine ⟨x,y,f1,f2,by rw [na];exact Nat.le_mul_of_pos_left _ h4,by rw [nb];exact Nat.le_mul_of_pos_left _ h4,?_⟩
 by_cases z:x=0
 ·refine .inr fun w=>?_
  rw [z,Int.mul_zero] at ex
  rw [w,Int.mul_zero] at ey
  omega
 ·exact .inl z
theorem e9:(10:Int) ^ (9:Int).toNat=1000000000:=by decide
def sArw:SpD:=fun es μ Q=>∃ p:Addr,es=[.m p]/\(p,PA0)∈μ/\∀ v:Pt,Ar v->Q (.d (ptD v)) μ
theorem qgN:FnScope ["_law_pot_here", "_law_most", "_law_a", "_law_b", "_law_by"] ["_law_pot_here"] (qt JM):=⟨rfl,rfl,rfl,by decide +kernel,rfl,by decide +kernel,by decide +kernel⟩
theorem qkO {f:Addr}{fd:FuncData}(F:Fun K "_law_arrow" "_law_arrow" JM f fd) (T:Txt mg) (hX:NoX CX) (O_law_take:Own P w K mg base CX 1 "_law_take" ["_law_pot_here", "_law_many"] (qW K (sDraw 2147483629))) (O_law_divisor:Own P w K mg base CX 1 "_law_divisor" ["_law_one", "_law_two"] (qW K qjn)):FnOk P w K mg base CX 2 f fd ["_law_pot_here"] (qW K sArw):=by
 refine F.okD qgN (fun es μ Q hq0=>by obtain ⟨p,e,_⟩:=hq0;subst e;rfl) (fun cdv A outer s H E es μ Q hr hq0=>?_)
 obtain ⟨p,e,hp,k⟩:=hq0
 subst e
 have nd:=qgN.nd
 refine ⟨_,(qr (qP (i:=1) nd rfl (by first | exact Or.inl rfl | exact Or.inr rfl) (jh qN (qey (qa qu (qa qu (qa qu (qa (qO JC qu qu) qd))))) (qS O_law_take hX (hr.mono (by decide)) rfl (qa (dv 0) (qa qu qd))) (fun _ _=>rfl)))
   (qr (qP (i:=2) nd rfl (by first | exact Or.inl rfl | exact Or.inr rfl) (qO yl (qS O_law_take hX (hr.mono (by decide)) rfl (qa (dv 0) (qa (qO yx (qO Jh qu (dv 1)) qu) qd))) (dv 1)))
   (qr (qP (i:=3) nd rfl (by first | exact Or.inl rfl | exact Or.inr rfl) (qO yl (qS O_law_take hX (hr.mono (by decide)) rfl (qa (dv 0) (qa (qO yx (qO Jh qu (dv 1)) qu) qd))) (dv 1)))
   (qr (jS (qhh (Zq (yj (YC hr.units) (dv 2) qu (qY _)) (Yp (yj (YC hr.units) (dv 3) qu (qY _))))) (qH (qR (yC (qa qu (qa qu qd))))) y8)
   (qr (qP (i:=4) nd rfl (by first | exact Or.inl rfl | exact Or.inr rfl) (qS O_law_divisor hX (hr.mono (by decide)) rfl (qa (dv 2) (qa (dv 3) qd))))
   (qH (qR (yC (qa (qO qer (dv 2) (dv 4)) (qa (qO qer (dv 3) (dv 4)) qd)))))))))),?_⟩
 refine ⟨⟨by decide,by decide,by decide⟩,zl4,p,_,rfl,hp,by decide,by decide,fun i i0 i1=>?_⟩
 obtain ⟨M,eM,m1,m2⟩:∃ M:Int,atI [PyData.int 5,.int 5,.int 5,.int ((10:Int) ^ (9:Int).toNat)] i=some (.int M)/\1<=M/\M<=1000000000:=by
  have:i=0\/i=1\/i=2\/i=3:=by omega
  rcases this with rfl | rfl | rfl | rfl
  ·exact ⟨5,rfl,by decide,by decide⟩
  ·exact ⟨5,rfl,by decide,by decide⟩
  ·exact ⟨5,rfl,by decide,by decide⟩
  ·exact ⟨_,rfl,by rw [e9];decide,by rw [e9];decide⟩
 refine ⟨_,eM,?_⟩
 have m40:qgk 2 M:=qa6 (by decide) (qF (show M.natAbs<=1000000000 by omega) (by decide))
 refine ⟨m40,p,_,rfl,hp,by omega,by omega,fun x x0 x1=>⟨m40,p,_,rfl,hp,by omega,by omega,fun y y0 y1=>?_⟩⟩
 dsimp only [List.set_cons_zero,List.set_cons_succ]
 have fin:∀ a b:Int,a.natAbs<=1000000000->b.natAbs<=1000000000->(a≠0\/b≠0)->∃ g:qcD a (Int.gcd a b:Nat)/\qcD b (Int.gcd a b:Nat),Q (.d (.tuple [.int (a.fdiv (Int.gcd a b:Nat)),.int (b.fdiv (Int.gcd a b:Nat))])) μ:=fun a b ha hb h=>by
  have h4:0<Int.gcd a b:=Nat.pos_of_ne_zero fun z=>by
   have:=Int.gcd_eq_zero_iff.mp z
   omega
  have hg:((Int.gcd a b:Nat):Int).natAbs<=B40:=by
   rw [Int.natAbs_natCast]
   rcases h with h | h
   ·exact qF (Nat.le_of_dvd (by omega) (Int.gcd_dvd_natAbs_left a b)) (qF ha (by decide))
   ·exact qF (Nat.le_of_dvd (by omega) (Int.gcd_dvd_natAbs_right a b)) (qF hb (by decide))
  have g:∀ z,qcD z (Int.gcd a b:Nat):=fun z=>qfU b40 (by omega) hg
  obtain ⟨x,y,e1,e2,n1,n2,n3⟩:=qla h
  refine ⟨⟨g _,g _⟩,?_⟩
  rw [e1,e2]
  refine k (x,y) ⟨⟨qF n1 ha,qF n2 hb⟩,fun z=>?_⟩
  have z1:=congrArg Prod.fst z
  have z2:=congrArg Prod.snd z
  rcases n3 with h | h
  ·exact h z1
  ·exact h z2
 refine jB (fun c=>jB (fun c2=>?_) (fun c2=>?_)) (fun c=>qbd ?_)
 ·exact ⟨zl2,k (1,0) ⟨⟨by decide,by decide⟩,by decide⟩⟩
 ·have c2:¬ y - M=0:=fun z=>c2 (qm z)
  obtain ⟨g,q⟩:=fin (x - M) (y - M) (by omega) (by omega) (.inr c2)
  exact ⟨_,_,rfl,g.1,g.2,zl2,q⟩
 ·have c:¬ x - M=0:=fun z=>c (qm z)
  obtain ⟨g,q⟩:=fin (x - M) (y - M) (by omega) (by omega) (.inl c)
  exact ⟨_,_,rfl,g.1,g.2,zl2,q⟩
theorem qjE {x:Int}(h:x.natAbs<=B40):Sz 140 x:=Sz.of B40 h (by decide +kernel)
def sFar:SpD:=fun es μ Q=>∃ (q v:Pt) (n d:Int),es=[.d (ptD q),.d (ptD v),.d (.int n),.d (.int d)]/\Z9 q/\Ar v/\Sz 9000 d/\Q (.d (.int (fr v n d q))) μ
theorem qc8:FnScope ["_law_point", "_law_arrow_here", "_law_n", "_law_d"] ["_law_point", "_law_arrow_here", "_law_n", "_law_d"] (qt YX):=⟨rfl,rfl,rfl,by decide +kernel,rfl,by decide +kernel,by decide +kernel⟩
theorem qiv {f:Addr}{fd:FuncData}(F:Fun K "_law_far" "_law_far" YX f fd)  : FnOk P w K mg base CX 1 f fd ["_law_point", "_law_arrow_here", "_law_n", "_law_d"] (qW K sFar):=by
 refine F.okD qc8 (fun es μ Q hq0=>by obtain ⟨q,v,n,d,e,_⟩:=hq0;subst e;rfl) (fun cdv A outer s H E es μ Q hr hq0=>?_)
 obtain ⟨q,v,n,d,e,hq,hv,hd,k⟩:=hq0
 subst e
 have nd:=qc8.nd
 refine ⟨_,(qH (qR (qO yl (qO qA (dv 3) (qO yx (qO qA (jh qN (dv 1) qu (fun _ _=>rfl)) (jh qN (dv 0) qu (fun _ _=>rfl))) (qO qA (jh qN (dv 1) qu (fun _ _=>rfl)) (jh qN (dv 0) qu (fun _ _=>rfl))))) (dv 2)))),?_⟩
 have v40:=qlD hv
 have q40:=qdM hq
 have sb:=(ZD hv hq).1
 exact ⟨_,rfl,_,rfl,yQ (qjE v40.1) (qjE q40.1) (by decide),_,rfl,_,rfl,yQ (qjE v40.2) (qjE q40.2) (by decide),yQ hd (qjE sb) (by decide),k⟩
end
section
variable {P:Program}{w:World}{K:W.Frag}{mg:Str->Option Value}{base:Heap}{CX:CXT}
def trD (x:Tr):PyData:=.tuple [.int x.1,.int x.2.1,.int x.2.2]
theorem qbX (Z W:Pt):∀ l:List Pt,lsP Z (l++[W])=W
 | []=>rfl
 | C::l=>qbX C W l
theorem qca {α:Type}(f:α->PyData) {C:List α}(h:C≠[]):atI (C.map f) (-1)=some (f (C.getLast h)):=by
 have e3:C.map f=C.dropLast.map f++[f (C.getLast h)]:=by
  have:=congrArg (List.map f) (List.dropLast_concat_getLast h).symm
  rw [List.map_append] at this
  exact this
 rw [e3]
 exact qcb _ _
theorem qga {ps:List Pt}{i:Nat}(h:i<ps.length):atI (ps.map ptD) (0+(i:Int))=some (ptD (gP ps i)):=by
 rw [Int.zero_add]
 exact qbo (by rw [List.getElem?_map,List.getElem?_eq_getElem h,je h];rfl)
theorem qaV {P:List Pt}{i:Nat}(h:i<P.length):P.take (i+1)=P.take i++[gP P i]:=by
 rw [List.take_add_one,List.getElem?_eq_getElem h,je h];rfl
theorem qje {P:List Pt}{i:Nat}(h:i<P.length):atI (P.map ptD) (0+(i:Int) - 1)=some (ptD (lsP (gP P (P.length - 1)) (P.take i))):=by
 cases i with
 | zero =>
  have hn:P≠[]:=yt.mp (by omega)
  have:=qca ptD hn
  rw [List.getLast_eq_getElem] at this
  show atI (P.map ptD) (-1)=some (ptD (gP P (P.length - 1)))
  rw [je (by omega)]
  exact this
 | succ i =>
  have:=qga (ps:=P) (i:=i) (by omega)
  rw [qaV (by omega),qbX,show (0:Int)+((i+1:Nat):Int) - 1=0+(i:Int) by omega]
  exact this
theorem qdT {Z:Pt}:∀ {l:List Pt},lsP Z l=Z\/lsP Z l∈l
 | []=>.inl rfl
 | W::l=>by
  rcases qdT (Z:=W) (l:=l) with h | h
  ·exact .inr (by show lsP W l∈_;rw [h];simp)
  ·exact .inr (qg _ h)
def qjq (w:Nat) (P:List Pt) (v:Pt) (n d:Int):Prop:=2<=P.length/\P.length<=12/\(∀ p∈P,Z9 p)/\Ar v/\0<d/\Sz 9000 d/\(∀ q∈P,Sz w (fr v n d q))/\w<=9000
theorem qbQ {q:Pt}(h:Z9 q):Sz 101 q.1/\Sz 101 q.2:=by
 obtain ⟨⟨a,b⟩,c,d⟩:=h
 exact ⟨Sz.of 1000000000000000000000000000000 (by omega) (by decide +kernel),Sz.of 1000000000000000000000000000000 (by omega) (by decide +kernel)⟩
def Cl (P:List Pt) (v:Pt) (n d:Int):List Tr:=emL v n d (gP P (P.length - 1)) P
def sClp:SpD:=fun es μ Q=>∃ (w:Nat) (P:List Pt) (v:Pt) (n d:Int),es=[.d (hpD P),.d (ptD v),.d (.int n),.d (.int d)]/\qjq w P v n d/\Q (.d (.list ((Cl P v n d).map trD))) μ
theorem qlu {w:Nat}{P:List Pt}{v:Pt}{n d:Int}(h:qjq w P v n d) {l:List Pt}(hl:∀ q∈l,q∈P):(∀ x∈emL v n d (gP P (P.length - 1)) l,TrW w x)/\qaI w (emL v n d (gP P (P.length - 1)) l)<=(w+1) * l.length/\(emL v n d (gP P (P.length - 1)) l).length<=2 * l.length:=by
 obtain ⟨h1,h2,h3,h4,h5,h6,h7,_⟩:=h
 refine qeq fun q hq=>?_
 have hq':q∈P:=by
  rcases List.mem_cons.mp hq with z | z
  ·rw [z];exact js (by omega)
  ·exact hl q z
 exact ⟨(qbQ (h3 q hq')).1,(qbQ (h3 q hq')).2,h7 q hq'⟩
theorem qgK:FnScope ["_law_cake_here", "_law_arrow_here", "_law_n", "_law_d", "_law_found", "_law_k", "_law_one", "_law_two", "_law_at_one", "_law_at_two", "_law_x", "_law_y"] ["_law_cake_here", "_law_arrow_here", "_law_n", "_law_d"] (qt Jd):=⟨rfl,rfl,rfl,by decide +kernel,rfl,by decide +kernel,by decide +kernel⟩
theorem qkL {f:Addr}{fd:FuncData}(F:Fun K "_law_clipped" "_law_clipped" Jd f fd) (T:Txt mg) (hX:NoX CX) (O_law_far:Own P w K mg base CX 1 "_law_far" ["_law_point", "_law_arrow_here", "_law_n", "_law_d"] (qW K sFar)):FnOk P w K mg base CX 2 f fd ["_law_cake_here", "_law_arrow_here", "_law_n", "_law_d"] (qW K sClp):=by
 refine F.okD qgK (fun es μ Q hq0=>by obtain ⟨w,P,v,n,d,e,_⟩:=hq0;subst e;rfl) (fun cdv A' outer s H E es μ Q hr hq0=>?_)
 obtain ⟨ww,P,v,n,d,e,hc,k⟩:=hq0
 subst e
 have nd:=qgK.nd
 refine ⟨_,(qr (qP (i:=4) nd rfl (by first | exact Or.inl rfl | exact Or.inr rfl) (qex qd))
   (qr (Y8 PassesOwn.never rfl (jY rfl T.range_ (qa (qQ jZ (by rfl) T.len_ j5 (qa (dv 0) qd)) qd)) (qw (i:=5) nd rfl (by first | exact Or.inl rfl | exact Or.inr rfl)) (qr (Y7 (i:=6) (j:=7) rfl nd rfl rfl (by decide) rfl rfl (qa (jh qN (dv 0) (qO yl (dv 5) qu) (fun _ _=>rfl)) (qa (jh qN (dv 0) (dv 5) (fun _ _=>rfl)) qd)) rfl)
   (qr (Y7 (i:=8) (j:=9) rfl nd rfl rfl (by decide) rfl rfl (qa (qS O_law_far hX (hr.mono (by decide)) rfl (qa (dv 6) (qa (dv 1) (qa (dv 2) (qa (dv 3) qd))))) (qa (qS O_law_far hX (hr.mono (by decide)) rfl (qa (dv 7) (qa (dv 1) (qa (dv 2) (qa (dv 3) qd))))) qd)) rfl)
   (qr (jS (yj qaD (qO qA (dv 8) (dv 9)) qu (qY _)) (qr (qP (i:=10) nd rfl (by first | exact Or.inl rfl | exact Or.inr rfl) (qO yl (qO qA (jh qN (dv 6) qu (fun _ _=>rfl)) (dv 9)) (qO qA (jh qN (dv 7) qu (fun _ _=>rfl)) (dv 8))))
   (qr (qP (i:=11) nd rfl (by first | exact Or.inl rfl | exact Or.inr rfl) (qO yl (qO qA (jh qN (dv 6) qu (fun _ _=>rfl)) (dv 9)) (qO qA (jh qN (dv 7) qu (fun _ _=>rfl)) (dv 8))))
   (qH (ZR (ZU (dv 4) (qa (yC (qa (dv 10) (qa (dv 11) (qa (qO yl (dv 9) (dv 8)) qd)))) qd) (h:=qih PySem.F.plainAttrs_list PySem.F.slot_list_append PySem.F.type_list_append Y1 (dv 4) (qa (yC (qa (dv 10) (qa (dv 11) (qa (qO yl (dv 9) (dv 8)) qd)))) qd))))))) y8)
   (qH (jS (yj qcx (dv 9) qu (qY _)) (qH (ZR (ZU (dv 4) (qa (yC (qa (jh qN (dv 7) qu (fun _ _=>rfl)) (qa (jh qN (dv 7) qu (fun _ _=>rfl)) (qa qu qd)))) qd) (h:=qih PySem.F.plainAttrs_list PySem.F.slot_list_append PySem.F.type_list_append Y1 (dv 4) (qa (yC (qa (jh qN (dv 7) qu (fun _ _=>rfl)) (qa (jh qN (dv 7) qu (fun _ _=>rfl)) (qa qu qd)))) qd))))) y8))))))
   (qH (qbg (dv 4))))),?_⟩
 have hok:=fun {l:List Pt}=>qlu hc (l:=l)
 obtain ⟨l2,l12,hn,hv,hd,hd4,hf,hw⟩:=hc
 have ln:(P.map ptD).length=P.length:=List.length_map ..
 have lt:((((P.map ptD).length:Nat):Int)).toNat=P.length:=by omega
 refine ⟨zl0,fun l hl=>⟨_,.l (.d _),by omega,by omega,?_⟩⟩
 refine forR (fun i ρ' μ'=>μ'=(l,.lst ((emL v n d (gP P (P.length - 1)) (P.take i)).map trD))::μ/\∃ v1 v2 v3 v4 v5 v6 v7,ρ'=[some (.d (hpD P)),some (.d (ptD v)),some (.d (.int n)),some (.d (.int d)),some (.m l),v1,v2,v3,v4,v5,v6,v7]) ?_ ?_ ?_
 ·exact ⟨rfl,_,_,_,_,_,_,_,rfl⟩
 ·rintro i ρ' μ' hi ⟨rfl,v1,v2,v3,v4,v5,v6,v7,rfl⟩
  have hi:i<((((P.map ptD).length:Nat):Int)).toNat:=hi
  rw [lt] at hi
  have mA:lsP (gP P (P.length - 1)) (P.take i)∈P:=by
   rcases qdT (Z:=gP P (P.length - 1)) (l:=P.take i) with h | h
   ·rw [h];exact js (by omega)
   ·exact yn h
  have mB:gP P i∈P:=js hi
  have eA:=qje hi
  have eB:=qga hi
  have eS:emL v n d (gP P (P.length - 1)) (P.take (i+1))=emL v n d (gP P (P.length - 1)) (P.take i)++emI v n d (lsP (gP P (P.length - 1)) (P.take i)) (gP P i):=by rw [qaV hi,qb5]
  have hlen:=(hok (l:=P.take i) fun q hq=>yn hq).2.2
  rw [yb] at hlen
  generalize lsP (gP P (P.length - 1)) (P.take i)=A at *
  generalize hE:emL v n d (gP P (P.length - 1)) (P.take i)=D at *
  generalize gP P i=B at *
  have fA:=hf A mA
  have fB:=hf B mB
  have sA:=qbQ (hn A mA)
  have sB:=qbQ (hn B mB)
  refine ⟨_,eA,_,eB,A,v,n,d,rfl,hn A mA,hv,hd4,B,v,n,d,rfl,hn B mB,hv,hd4,?_⟩
  have hlD:(D.map trD).length<=24:=by rw [List.length_map];omega
  refine ⟨yQ fA fB (by omega),jB (fun c=>?_) (fun c=>?_)⟩
  ·have c:fr v n d A * fr v n d B<0:=qy c
   refine ⟨_,rfl,yQ sA.1 fB (by omega),_,rfl,yQ sB.1 fA (by omega),_,rfl,yQ sA.2 fB (by omega),_,rfl,yQ sB.2 fA (by omega),⟨_,ql⟩,zl3,[],μ,_,rfl,by omega,jB (fun c2=>?_) (fun c2=>?_)⟩
   ·have c2:fr v n d B<=0:=qy c2
    refine ⟨⟨_,ql⟩,_,rfl,_,rfl,zl3,[],μ,_,rfl,by rw [List.length_append];simp;omega,Wks.of ⟨?_,_,_,_,_,_,_,_,rfl⟩⟩
    rw [eS]
    unfold emI
    rw [if_pos c,if_pos c2,List.map_append]
    simp [trD]
   ·have c2:¬ fr v n d B<=0:=fun z=>c2 (qm z)
    refine Wks.of ⟨?_,_,_,_,_,_,_,_,rfl⟩
    rw [eS]
    unfold emI
    rw [if_pos c,if_neg c2,List.map_append]
    simp [trD]
  ·have c:¬ fr v n d A * fr v n d B<0:=fun z=>c (qm z)
   refine jB (fun c2=>?_) (fun c2=>?_)
   ·have c2:fr v n d B<=0:=qy c2
    refine ⟨⟨_,ql⟩,_,rfl,_,rfl,zl3,[],μ,_,rfl,by omega,Wks.of ⟨?_,_,_,_,_,_,_,_,rfl⟩⟩
    rw [eS]
    unfold emI
    rw [if_neg c,if_pos c2,List.map_append]
    simp [trD]
   ·have c2:¬ fr v n d B<=0:=fun z=>c2 (qm z)
    refine Wks.of ⟨?_,_,_,_,_,_,_,_,rfl⟩
    rw [eS]
    unfold emI
    rw [if_neg c,if_neg c2]
    simp
 ·rintro ρ' μ' ⟨rfl,v1,v2,v3,v4,v5,v6,v7,rfl⟩
  rw [lt,yh]
  exact ⟨_,_,FzR.list1,k⟩
end
section
variable {P:Program}{w:World}{K:W.Frag}{mg:Str->Option Value}{base:Heap}{CX:CXT}
theorem at_T {C:List Tr}{i:Nat}(h:i<C.length):atI (C.map trD) (0+(i:Int))=some (trD (gT C i)):=by
 rw [Int.zero_add]
 exact qbo (by rw [List.getElem?_map,List.getElem?_eq_getElem h,qed h];rfl)
theorem at_pT {C:List Tr}{i:Nat}(h:i<C.length):atI (C.map trD) (0+(i:Int) - 1)=some (trD (pvT C i)):=by
 unfold pvT
 cases i with
 | zero =>
  have hn:C≠[]:=yt.mp (by omega)
  have:=qca trD hn
  rw [List.getLast_eq_getElem] at this
  show atI (C.map trD) (-1)=some (trD (gT C (C.length - 1)))
  rw [qed (by omega)]
  exact this
 | succ i =>
  rw [if_neg (by omega),show (0:Int)+((i+1:Nat):Int) - 1=0+(i:Int) by omega]
  exact at_T (by omega)
def sPrt:SpD:=fun es μ Q=>∃ (w:Nat) (P:List Pt) (v:Pt) (n d:Int),es=[.d (hpD P),.d (ptD v),.d (.int n),.d (.int d)]/\qjq w P v n d/\∀ ov un:Int,0<un->Sz (24 * w+25) un->Sz (48 * w+500) ov->(ov:Rat) / un=J2 cq (tq (gT (Cl P v n d) ((Cl P v n d).length - 1))) ((Cl P v n d).map tq)->Q (.d (.tuple [.int ov,.int un])) μ
theorem qgw:FnScope ["_law_cake_here", "_law_arrow_here", "_law_n", "_law_d", "_law_corners", "_law_over", "_law_under", "_law_k", "_law_x", "_law_y", "_law_by", "_law_p", "_law_q", "_law_wide_here"] ["_law_cake_here", "_law_arrow_here", "_law_n", "_law_d"] (qt Yf):=⟨rfl,rfl,rfl,by decide +kernel,rfl,by decide +kernel,by decide +kernel⟩
theorem qkx {f:Addr}{fd:FuncData}(F:Fun K "_law_part" "_law_part" Yf f fd) (T:Txt mg) (hX:NoX CX) (O_law_clipped:Own P w K mg base CX 2 "_law_clipped" ["_law_cake_here", "_law_arrow_here", "_law_n", "_law_d"] (qW K sClp)):FnOk P w K mg base CX 3 f fd ["_law_cake_here", "_law_arrow_here", "_law_n", "_law_d"] (qW K sPrt):=by
 refine F.okD qgw (fun es μ Q hq0=>by obtain ⟨w,P,v,n,d,e,_⟩:=hq0;subst e;rfl) (fun cdv A' outer s H E es μ Q hr hq0=>?_)
 obtain ⟨ww,P,v,n,d,e,hc,k⟩:=hq0
 subst e
 have nd:=qgw.nd
 refine ⟨_,(qr (qP (i:=4) nd rfl (by first | exact Or.inl rfl | exact Or.inr rfl) (qS O_law_clipped hX (hr.mono (by decide)) rfl (qa (dv 0) (qa (dv 1) (qa (dv 2) (qa (dv 3) qd))))))
   (qr (jt (yC (qa qu (qa qu qd))) (yP (n:=2) rfl (qv (qw (i:=5) nd rfl (by first | exact Or.inl rfl | exact Or.inr rfl)) (qv (qw (i:=6) nd rfl (by first | exact Or.inl rfl | exact Or.inr rfl)) yk))))
   (qr (Y8 PassesOwn.never rfl (jY rfl T.range_ (qa (qQ jZ (by rfl) T.len_ j5 (qa (dv 4) qd)) qd)) (qw (i:=7) nd rfl (by first | exact Or.inl rfl | exact Or.inr rfl)) (qr (jt (jh qN (dv 4) (qO yl (dv 7) qu) (fun _ _=>rfl)) (yP (n:=3) rfl (qv (qw (i:=8) nd rfl (by first | exact Or.inl rfl | exact Or.inr rfl)) (qv (qw (i:=9) nd rfl (by first | exact Or.inl rfl | exact Or.inr rfl)) (qv (qw (i:=10) nd rfl (by first | exact Or.inl rfl | exact Or.inr rfl)) yk)))))
   (qr (jt (jh qN (dv 4) (dv 7) (fun _ _=>rfl)) (yP (n:=3) rfl (qv (qw (i:=11) nd rfl (by first | exact Or.inl rfl | exact Or.inr rfl)) (qv (qw (i:=12) nd rfl (by first | exact Or.inl rfl | exact Or.inr rfl)) (qv (qw (i:=13) nd rfl (by first | exact Or.inl rfl | exact Or.inr rfl)) yk)))))
   (qr (qP (i:=5) nd rfl (by first | exact Or.inl rfl | exact Or.inr rfl) (qO yx (qO qA (qO qA (dv 5) (dv 10)) (dv 13)) (qO qA (qO yl (qO qA (dv 8) (dv 12)) (qO qA (dv 11) (dv 9))) (dv 6))))
   (qH (qP (i:=6) nd rfl (by first | exact Or.inl rfl | exact Or.inr rfl) (qO qA (qO qA (dv 6) (dv 10)) (dv 13))))))))
   (qH (qR (qbj (yj ZS (dv 6) qu (qY _)) (yC (qa (dv 5) (qa (dv 6) qd))) (yC (qa (YO yO (dv 5)) (qa (YO yO (dv 6)) qd))))))))),?_⟩
 obtain ⟨ok,hbt,hlen⟩:=qlu hc (l:=P) fun q hq=>hq
 have l12:=hc.2.1
 have hw:=hc.2.2.2.2.2.2.2
 refine ⟨ww,P,v,n,d,rfl,hc,?_⟩
 have ok:∀ x∈Cl P v n d,TrW ww x:=ok
 have hbt:qaI ww (Cl P v n d)<=(ww+1) * P.length:=hbt
 have hlen:(Cl P v n d).length<=2 * P.length:=hlen
 generalize Cl P v n d=C at *
 have ln:(C.map trD).length=C.length:=List.length_map ..
 have lt:((((C.map trD).length:Nat):Int)).toNat=C.length:=by omega
 refine ⟨zl2,rfl,_,.l (.d _),by omega,by omega,?_⟩
 refine forR (fun i ρ' μ'=>μ'=μ/\∃ ov un:Int,ql8 ww C i ov un/\∃ w1 w2 w3 w4 w5 w6 w7,ρ'=[some (.d (hpD P)),some (.d (ptD v)),some (.d (.int n)),some (.d (.int d)),some (.d (.list (C.map trD))),some (.d (.int ov)),some (.d (.int un)),w1,w2,w3,w4,w5,w6,w7]) ?_ ?_ ?_
 ·refine ⟨rfl,0,1,⟨by decide,Sz.mono (j:=1) (by omega) (by unfold Sz;decide),Sz.mono (j:=1) (by omega) (by unfold Sz;decide),qj 1,?_⟩,_,_,_,_,_,_,_,rfl⟩
  show ((0:Int):Rat) / ((1:Int):Rat)=0
  grind
 ·rintro i ρ' μ' hi ⟨rfl,ov,un,hR,w1,w2,w3,w4,w5,w6,w7,rfl⟩
  have hi:i<((((C.map trD).length:Nat):Int)).toNat:=hi
  rw [lt] at hi
  have st:=qdj ok hi hR
  have k1:=ok _ (qdo hi)
  have k2:=ok _ (qec hi)
  obtain ⟨_,s1,s2,_,_⟩:=hR
  obtain ⟨_,p1,p2,p3⟩:=k1
  obtain ⟨_,q1,q2,q3⟩:=k2
  have hi24:i<24:=by omega
  have f1:(2 * ww+3) * i<=18003 * 24:=Nat.mul_le_mul (by omega) (by omega)
  have f2:(2 * ww+2) * i<=18002 * 24:=Nat.mul_le_mul (by omega) (by omega)
  have f:∀ m,m<=1000000->m<2 ^ 20:=fun m h=>by omega
  refine ⟨_,at_pT hi,rfl,_,at_T hi,rfl,?_⟩
  dsimp only [List.set_cons_zero,List.set_cons_succ]
  refine ⟨yQ s1 p3 (f _ (by omega)),yQ (s1.mul p3) q3 (f _ (by omega)),yQ p1 q2 (f _ (by omega)),yQ q1 p2 (f _ (by omega)),yQ ((p1.mul q2).sub (q1.mul p2)) s2 (f _ (by omega)),yQ s2 p3 (f _ (by omega)),yQ (s2.mul p3) q3 (f _ (by omega)),Wks.of ⟨rfl,_,_,st,_,_,_,_,_,_,_,rfl⟩⟩
 ·rintro ρ' μ' ⟨rfl,ov,un,hR,w1,w2,w3,w4,w5,w6,w7,rfl⟩
  rw [lt] at hR
  have sz:=qhZ hR (qF hbt (Nat.mul_le_mul_left _ l12)) (by rw [qfp];exact qj _)
  obtain ⟨u0,so,_,_,e⟩:=hR
  have h48:(2 * ww+3) * C.length<=(2 * ww+3) * 24:=Nat.mul_le_mul_left _ (by omega)
  have so:Sz (48 * ww+500) ov:=so.mono (by omega)
  rw [qam _ (qj _),yh] at e
  refine jB (fun c=>?_) (fun c=>?_)
  ·have c:0<un:=qy c
   exact ⟨zl2,k ov un c sz so e⟩
  ·have c:¬ 0<un:=fun z=>c (qm z)
   refine ⟨zl2,k (-ov) (-un) (by omega) sz.neg so.neg ?_⟩
   rw [<- e]
   have:=ji u0
   simp only [Rat.intCast_neg]
   grind
theorem qik {v A B:Pt}{t:Rat}:pS (vl' v A,crs v A) (vl' v B,crs v B) t=Ze v.1 v.2 t (pq A) (pq B):=by
 have u:∀ q:Pt,((vl' v q:Int):Rat) - t=uQ v.1 v.2 t (pq q):=fun q=>by
  unfold vl' uQ pq
  simp only [Rat.intCast_add,Rat.intCast_mul]
 have r:∀ q:Pt,((crs v q:Int):Rat)=rQ v.1 v.2 (pq q):=fun q=>by
  unfold crs rQ pq
  simp only [Rat.intCast_sub,Rat.intCast_mul]
 have c:∀ q:Pt,((vl' v q:Int):Rat)<=t ↔ uQ v.1 v.2 t (pq q)<=0:=fun q=>by
  rw [<- u q]
  constructor <;> intro h <;> grind
 unfold pS Ze gQ
 simp only [c,r]
 have w:((vl' v B:Int):Rat) - ((vl' v A:Int):Rat)=uQ v.1 v.2 t (pq B) - uQ v.1 v.2 t (pq A):=by rw [<- u A,<- u B];grind
 have w2:((vl' v A:Int):Rat) - ((vl' v B:Int):Rat)=uQ v.1 v.2 t (pq A) - uQ v.1 v.2 t (pq B):=by rw [<- u A,<- u B];grind
 simp only [u,w,w2]
theorem Zx (v:Pt):((vl' v v:Int):Rat)=(v.1:Rat) * v.1+(v.2:Rat) * v.2:=by
 unfold vl'
 simp only [Rat.intCast_add,Rat.intCast_mul]
def Zc (P:List Pt) (v:Pt) (t:Rat):Rat:=yF (fun k=>pS (gP (Z7 v P) k) (nx (Z7 v P) k) t) P.length
theorem jK {P:List Pt}(h0:0<P.length) (v:Pt) (t:Rat):Zc P v t=yF (fun k=>Ze v.1 v.2 t (pq (gP P k)) (pq (nx P k))) P.length:=by
 unfold Zc
 refine yd fun k hk=>?_
 have e:nx (Z7 v P) k=(vl' v (nx P k),crs v (nx P k)):=by
  unfold nx
  rw [ZC,JG (yp _ h0)]
 rw [e,JG hk,qik]
theorem qlt {w:Nat}{P:List Pt}{v:Pt}{n d:Int}(hc:qjq w P v n d):((vl' v v:Int):Rat) * J2 cq (tq (gT (Cl P v n d) ((Cl P v n d).length - 1))) ((Cl P v n d).map tq)=Zc P v ((n:Rat) / d):=by
 obtain ⟨l2,l12,hn,hv,hd,hd4,hf,_⟩:=hc
 have eC:(Cl P v n d).map tq=Yo v.1 v.2 ((n:Rat) / d) (pq (gP P (P.length - 1))) (P.map pq):=qlf hd P _
 have hL:(v.1:Rat) * v.1+(v.2:Rat) * v.2≠0:=by
  rw [<- Zx]
  exact ji (by have:=(qaT hv).1;omega)
 have hl:lst (pq (gP P (P.length - 1))) (P.map pq)=pq (gP P (P.length - 1)):=by
  have e:P=P.take (P.length - 1)++[gP P (P.length - 1)]:=by
   have:=qaV (P:=P) (i:=P.length - 1) (by omega)
   rw [show P.length - 1+1=P.length by omega,yh] at this
   exact this
  have e2:P.map pq=(P.take (P.length - 1)).map pq++[pq (gP P (P.length - 1))]:=by
   have:=congrArg (List.map pq) e
   rw [List.map_append] at this
   exact this
  rw [e2,YH]
 rw [Zx,eC,jK (by omega),<- qfl _ (by omega)]
 refine qf5 _ _ _ hL hl _ fun hne=>?_
 rw [<- eC] at hne ⊢
 have h0:0<(Cl P v n d).length:=yt.mpr fun z=>hne (by rw [z];rfl)
 generalize Cl P v n d=C at *
 have:=qbW (C:=C) (C.length - 1) (by omega)
 have e:C.map tq=(C.take (C.length - 1)).map tq++[tq (gT C (C.length - 1))]:=by
  have:=JU (C:=C) (i:=C.length - 1) (by omega)
  rw [show C.length - 1+1=C.length by omega,yh] at this
  have:=congrArg (List.map tq) this
  rw [List.map_append] at this
  exact this
 rw [e,YH]
end
end K75
namespace L2
theorem qdG (a b t:Rat) (A B:Qt):Ze a b t A B+Ze (-a) (-b) (-t) A B=gQ a b t A B:=by
 have u:∀ C:Qt,uQ (-a) (-b) (-t) C = -uQ a b t C:=fun C=>by unfold uQ;grind
 have r:∀ C:Qt,rQ (-a) (-b) C = -rQ a b C:=fun C=>by unfold rQ;grind
 unfold Ze gQ
 simp only [u,r]
 generalize uQ a b t A=p
 generalize uQ a b t B=q
 generalize rQ a b A=x
 generalize rQ a b B=y
 by_cases h1:p<=0 <;> by_cases h2:q<=0 <;> by_cases h3:-p<=0 <;> by_cases h4:-q<=0 <;> simp only [h1,h2,h3,h4,if_true,if_false]
 ·have:p=0:=by grind
  have:q=0:=by grind
  grind
 ·have:p=0:=by grind
  grind
 ·have:q=0:=by grind
  grind
 ·grind
 ·have:p=0:=by grind
  have:q≠0:=by grind
  grind
 ·grind
 ·have:q - p≠0:=by grind
  have:-q - -p≠0:=by grind
  have:-p - -q≠0:=by grind
  grind
 ·grind
 ·have:q=0:=by grind
  have:p≠0:=by grind
  grind
 ·have:q - p≠0:=by grind
  have:p - q≠0:=by grind
  have:-q - -p≠0:=by grind
  have:-p - -q≠0:=by grind
  grind
 ·grind
 ·grind
 ·grind
 ·grind
 ·grind
 ·grind
theorem qao (a b t:Rat) {A B:Qt}(h1:0<=uQ a b t A) (h2:0<=uQ a b t B):Ze a b t A B=0:=by
 unfold Ze gQ
 generalize uQ a b t A=p at *
 generalize uQ a b t B=q at *
 by_cases h3:p<=0 <;> by_cases h4:q<=0 <;> simp only [h3,h4,if_true,if_false]
 ·have:p=0:=by grind
  have:q=0:=by grind
  grind
 ·have:p=0:=by grind
  grind
 ·have:q=0:=by grind
  grind
theorem qbE (F:Nat->Rat):∀ m,yF (fun k=>F (k+1) - F k) m=F m - F 0
 | 0=>by show (0:Rat)=_;grind
 | m+1=>by
  show yF _ m+(F (m+1) - F m)=_
  rw [qbE F m]
  grind
theorem qdg (F:Nat->Rat) {n:Nat}(h:0<n):yF (fun k=>F ((k+1) % n) - F k) n=0:=by
 obtain ⟨m,rfl⟩:∃ m,n=m+1:=⟨n - 1,by omega⟩
 show yF _ m+(F ((m+1) % (m+1)) - F m)=0
 rw [yd (g:=fun k=>F (k+1) - F k) fun k hk=>by rw [qx (by omega)],qbE,yG]
 grind
theorem ZF (f g:Nat->Rat):∀ n,yF (fun k=>f k+g k) n=yF f n+yF g n
 | 0=>by show (0:Rat)=0+0;grind
 | n+1=>by
  show yF _ n+(f n+g n)=yF f n+f n+(yF g n+g n)
  rw [ZF f g n]
  grind
theorem qbF (c:Rat) (f:Nat->Rat):∀ n,yF (fun k=>c * f k) n=c * yF f n
 | 0=>by show (0:Rat)=c * 0;grind
 | n+1=>by
  show yF _ n+c * f n=c * (yF f n+f n)
  rw [qbF c f n]
  grind
theorem YY:∀ n,yF (fun _=>0) n=0
 | 0=>rfl
 | n+1=>by
  show yF _ n+0=0
  rw [YY n]
  grind
theorem qal (f:Nat->Int):∀ n,(((List.range n).map f).sum:Int)=yF (fun k=>(f k:Rat)) n
 | 0=>rfl
 | n+1=>by
  rw [jb,List.map_append,ja]
  show (((_+([f n].sum):Int)):Rat)=yF _ n+(f n:Rat)
  rw [Rat.intCast_add,qal f n]
  simp
theorem qlq (A B:Pt):((crs A B:Int):Rat)=cq (pq A) (pq B):=by
 unfold crs cq pq
 simp only [Rat.intCast_sub,Rat.intCast_mul]
theorem g_sum (a b t:Rat) {P:List Pt}(h:0<P.length):yF (fun k=>gQ a b t (pq (gP P k)) (pq (nx P k))) P.length=(a * a+b * b) * ((J7 P:Int):Rat):=by
 unfold J7
 rw [qal,<- qbF]
 have e:=qdg (fun k=>uQ a b t (pq (gP P k)) * rQ a b (pq (gP P k)) - t * rQ a b (pq (gP P k))) h
 have z:yF (fun k=>gQ a b t (pq (gP P k)) (pq (nx P k))) P.length=yF (fun k=>(a * a+b * b) * ((crs (gP P k) (nx P k):Int):Rat)+((uQ a b t (pq (gP P ((k+1) % P.length))) * rQ a b (pq (gP P ((k+1) % P.length))) - t * rQ a b (pq (gP P ((k+1) % P.length)))) - (uQ a b t (pq (gP P k)) * rQ a b (pq (gP P k)) - t * rQ a b (pq (gP P k))))) P.length:=yd fun k hk=>by
  rw [qlq,qlr a b t]
  unfold nx
  grind
 rw [z,ZF,e]
 grind
end L2
namespace L2
def pU (u1 r1 u2 r2:Rat):Rat :=
 if u1<=0 then
  if u2<=0 then (r2 - r1) * (u1+u2) else -(r2 - r1) * (u1 * u1) / (u2 - u1)
 else if u2<=0 then -(r2 - r1) * (u2 * u2) / (u1 - u2) else 0
theorem Yh (a b t:Rat) (A B:Qt):Ze a b t A B=pU (uQ a b t A) (rQ a b A) (uQ a b t B) (rQ a b B):=rfl
theorem ZI (u1 r1 u2 r2:Rat):pU u2 r2 u1 r1 = -pU u1 r1 u2 r2:=by
 unfold pU
 by_cases h1:u1<=0 <;> by_cases h2:u2<=0 <;> simp only [h1,h2,if_true,if_false]
 ·grind
 ·have:u2 - u1≠0:=by grind
  grind
 ·have:u1 - u2≠0:=by grind
  grind
 ·grind
def tri (u1 r1 u2 r2 u3 r3:Rat):Rat:=pU u1 r1 u2 r2+pU u2 r2 u3 r3+pU u3 r3 u1 r1
def JS (u1 r1 u2 r2 u3 r3:Rat):Rat:=(u2 - u1) * (r3 - r1) - (u3 - u1) * (r2 - r1)
theorem J9 (u1 r1 u2 r2 u3 r3:Rat):tri u2 r2 u3 r3 u1 r1=tri u1 r1 u2 r2 u3 r3:=by unfold tri;grind
theorem Zy (u1 r1 u2 r2 u3 r3:Rat):JS u2 r2 u3 r3 u1 r1=JS u1 r1 u2 r2 u3 r3:=by unfold JS;grind
section
variable {u1 r1 u2 r2 u3 r3:Rat}
theorem qlS (h1:0<=u1) (h2:0<=u2) (h3:0<=u3):tri u1 r1 u2 r2 u3 r3=0:=by
 have z:∀ {x y r s:Rat},0<=x->0<=y->pU x r y s=0:=fun {x y r s} hx hy=>by
  unfold pU
  by_cases c1:x<=0 <;> by_cases c2:y<=0 <;> simp only [c1,c2,if_true,if_false]
  ·have:x=0:=by grind
   have:y=0:=by grind
   grind
  ·have:x=0:=by grind
   grind
  ·have:y=0:=by grind
   grind
 unfold tri
 rw [z h1 h2,z h2 h3,z h3 h1]
 grind
theorem qlQ (h1:u1<=0) (h2:u2<=0) (h3:u3<=0):tri u1 r1 u2 r2 u3 r3=JS u1 r1 u2 r2 u3 r3:=by
 unfold tri pU JS
 simp only [h1,h2,h3,if_true]
 grind
theorem tri1 (h1:u1<=0) (h2:¬ u2<=0) (h3:¬ u3<=0):tri u1 r1 u2 r2 u3 r3 * ((u2 - u1) * (u3 - u1))=JS u1 r1 u2 r2 u3 r3 * (u1 * u1):=by
 unfold tri pU JS
 simp only [h1,h2,h3,if_true,if_false]
 have:u2 - u1≠0:=by grind
 have:u3 - u1≠0:=by grind
 grind
theorem qlR (h1:u1<=0) (h2:u2<=0) (h3:¬ u3<=0):tri u1 r1 u2 r2 u3 r3 * ((u3 - u2) * (u3 - u1))=JS u1 r1 u2 r2 u3 r3 * ((u3 - u2) * (u3 - u1) - u3 * u3):=by
 unfold tri pU JS
 simp only [h1,h2,h3,if_true,if_false]
 have:u3 - u2≠0:=by grind
 have:u3 - u1≠0:=by grind
 grind
end
theorem Yy {x y c:Rat}(hc:0<c) (h:x * c<y * c):x<y:=by
 rcases Rat.le_total (a:=y) (b:=x) with z | z
 ·have:=Rat.mul_le_mul_of_nonneg_right z (Rat.le_of_lt hc)
  grind
 ·rcases Classical.em (x=y) with e | e
  ·subst e
   grind
  ·grind
theorem qav {x y c:Rat}(hc:0<c) (h:x * c<=y * c):x<=y:=by
 rcases Rat.le_total (a:=x) (b:=y) with z | z
 ·exact z
 ·rcases Classical.em (x=y) with e | e
  ·grind
  ·have:=Rat.mul_lt_mul_of_pos_right (a:=y) (b:=x) (by grind) hc
   grind
theorem qcV (u1 r1 u2 r2 u3 r3:Rat):tri u1 (-r1) u3 (-r3) u2 (-r2)=tri u1 r1 u2 r2 u3 r3:=by
 have n:∀ a r b s:Rat,pU a (-r) b (-s) = -pU a r b s:=fun a r b s=>by
  unfold pU
  by_cases h1:a<=0 <;> by_cases h2:b<=0 <;> simp only [h1,h2,if_true,if_false]
  ·grind
  ·have:b - a≠0:=by grind
   grind
  ·have:a - b≠0:=by grind
   grind
  ·grind
 unfold tri
 rw [n,n,n,ZI u1 r1 u2 r2,ZI u2 r2 u3 r3,ZI u3 r3 u1 r1]
 grind
theorem qe5 (u1 r1 u2 r2 u3 r3:Rat):JS u1 (-r1) u3 (-r3) u2 (-r2)=JS u1 r1 u2 r2 u3 r3:=by unfold JS;grind
theorem JE (u1 r1 u2 r2 u3 r3 h:Rat):JS (u1 - h) r1 (u2 - h) r2 (u3 - h) r3=JS u1 r1 u2 r2 u3 r3:=by unfold JS;grind
section
variable {u1 r1 u2 r2 u3 r3:Rat}
theorem qbu (hD:0<JS u1 r1 u2 r2 u3 r3) (h12:u1<=u2) (h23:u2<=u3) :
  0<=tri u1 r1 u2 r2 u3 r3/\tri u1 r1 u2 r2 u3 r3<=JS u1 r1 u2 r2 u3 r3/\(u1<0->0<tri u1 r1 u2 r2 u3 r3)/\(0<u3->tri u1 r1 u2 r2 u3 r3<JS u1 r1 u2 r2 u3 r3):=by
 have g:0<u3 - u1:=by
  rcases Classical.em (u3=u1) with e | e
  ·have e2:u2=u1:=by grind
   rw [e,e2] at hD
   unfold JS at hD
   grind
  ·grind
 by_cases c1:u1<=0
 ·by_cases c2:u2<=0
  ·by_cases c3:u3<=0
   ·rw [qlQ c1 c2 c3]
    exact ⟨Rat.le_of_lt hD,Rat.le_refl,fun _=>hD,fun z=>by grind⟩
   ·have e:=qlR (r1:=r1) (r2:=r2) (r3:=r3) c1 c2 c3
    have b:0<u3 - u2:=by grind
    have bg:=Rat.mul_pos b g
    have p3:0<u3:=by grind
    have d3:=Rat.mul_pos hD (Rat.mul_pos p3 p3)
    have lt:tri u1 r1 u2 r2 u3 r3<JS u1 r1 u2 r2 u3 r3:=Yy bg (by rw [e];grind)
    have q1:u3 * u3<=(u3 - u2) * u3:=Rat.mul_le_mul_of_nonneg_right (by grind) (Rat.le_of_lt p3)
    have q2:(u3 - u2) * u3<=(u3 - u2) * (u3 - u1):=Rat.mul_le_mul_of_nonneg_left (by grind) (Rat.le_of_lt b)
    have nn:0<=tri u1 r1 u2 r2 u3 r3:=qav bg (by
     rw [e]
     have:=Rat.mul_nonneg (Rat.le_of_lt hD) (b:=(u3 - u2) * (u3 - u1) - u3 * u3) (by grind)
     grind)
    refine ⟨nn,Rat.le_of_lt lt,fun z=>Yy bg ?_,fun _=>lt⟩
    rw [e]
    have q3:(u3 - u2) * u3<(u3 - u2) * (u3 - u1):=Rat.mul_lt_mul_of_pos_left (by grind) b
    have:=Rat.mul_pos hD (b:=(u3 - u2) * (u3 - u1) - u3 * u3) (by grind)
    grind
  ·have c3:¬ u3<=0:=by grind
   have e:=tri1 (r1:=r1) (r2:=r2) (r3:=r3) c1 c2 c3
   have a:0<u2 - u1:=by grind
   have ag:=Rat.mul_pos a g
   have s1:0<=u1 * u1:=by
    have:=Rat.mul_nonneg (a:=-u1) (b:=-u1) (by grind) (by grind)
    grind
   have q1:-u1 * -u1<=(u2 - u1) * -u1:=Rat.mul_le_mul_of_nonneg_right (by grind) (by grind)
   have q2:(u2 - u1) * -u1<(u2 - u1) * (u3 - u1):=Rat.mul_lt_mul_of_pos_left (by grind) a
   have lt:tri u1 r1 u2 r2 u3 r3<JS u1 r1 u2 r2 u3 r3:=Yy ag (by
    rw [e]
    exact Rat.mul_lt_mul_of_pos_left (by grind) hD)
   refine ⟨qav ag (by rw [e];have:=Rat.mul_nonneg (Rat.le_of_lt hD) s1;grind),Rat.le_of_lt lt,fun z=>Yy ag ?_,fun _=>lt⟩
   rw [e]
   have:=Rat.mul_pos hD (Rat.mul_pos (a:=-u1) (b:=-u1) (by grind) (by grind))
   grind
 ·rw [qlS (by grind) (by grind) (by grind)]
  exact ⟨Rat.le_refl,Rat.le_of_lt hD,fun z=>by grind,fun _=>hD⟩
theorem qcU {h:Rat}(hD:0<JS u1 r1 u2 r2 u3 r3) (h12:u1<=u2) (h23:u2<=u3) (hh:0<h) (s1:u1 - h<0) (s2:0<u3):tri u1 r1 u2 r2 u3 r3<tri (u1 - h) r1 (u2 - h) r2 (u3 - h) r3:=by
 have hD':0<JS (u1 - h) r1 (u2 - h) r2 (u3 - h) r3:=by rw [JE];exact hD
 obtain ⟨_,_,p1,_⟩:=qbu hD' (by grind) (by grind)
 obtain ⟨_,_,_,p2⟩:=qbu hD h12 h23
 have p1:=p1 s1
 have p2:=p2 s2
 rw [JE] at hD'
 by_cases c1:u1<=0
 ·by_cases k3:u3 - h<=0
  ·rw [qlQ (by grind) (by grind) k3,JE]
   exact p2
  have c3:¬ u3<=0:=by grind
  have g:0<u3 - u1:=by grind
  by_cases c2:u2<=0
  ·have e:=qlR (r1:=r1) (r2:=r2) (r3:=r3) c1 c2 c3
   have f:=qlR (u1:=u1 - h) (u2:=u2 - h) (r1:=r1) (r2:=r2) (r3:=r3) (by grind) (by grind) k3
   rw [JE] at f
   have b:0<u3 - u2:=by grind
   have bg:=Rat.mul_pos b g
   have w1:u3 - h - (u2 - h)=u3 - u2:=by grind
   have w2:u3 - h - (u1 - h)=u3 - u1:=by grind
   rw [w1,w2] at f
   refine Yy bg ?_
   rw [e,f]
   refine Rat.mul_lt_mul_of_pos_left ?_ hD
   have q1:(u3 - h) * (u3 - h)<u3 * (u3 - h):=Rat.mul_lt_mul_of_pos_right (by grind) (by grind)
   have q2:u3 * (u3 - h)<u3 * u3:=Rat.mul_lt_mul_of_pos_left (by grind) (by grind)
   grind
  ·have e:=tri1 (r1:=r1) (r2:=r2) (r3:=r3) c1 c2 c3
   have a:0<u2 - u1:=by grind
   have ag:=Rat.mul_pos a g
   by_cases k2:u2 - h<=0
   ·have f:=qlR (u1:=u1 - h) (u2:=u2 - h) (r1:=r1) (r2:=r2) (r3:=r3) (by grind) k2 k3
    rw [JE] at f
    have b:0<u3 - u2:=by grind
    have w1:u3 - h - (u2 - h)=u3 - u2:=by grind
    have w2:u3 - h - (u1 - h)=u3 - u1:=by grind
    rw [w1,w2] at f
    generalize tri u1 r1 u2 r2 u3 r3=X at *
    generalize tri (u1 - h) r1 (u2 - h) r2 (u3 - h) r3=Y at *
    generalize JS u1 r1 u2 r2 u3 r3=D at *
    have x1:X * (u3 - u1)<D * (u2 - u1):=Yy a (by
     have q1:-u1 * -u1<=(u2 - u1) * -u1:=Rat.mul_le_mul_of_nonneg_right (by grind) (by grind)
     have q2:(u2 - u1) * -u1<(u2 - u1) * (u2 - u1):=Rat.mul_lt_mul_of_pos_left (by grind) a
     have:=Rat.mul_lt_mul_of_pos_left (a:=u1 * u1) (b:=(u2 - u1) * (u2 - u1)) (by grind) hD
     grind)
    have x2:D * (u2 - u1)<=Y * (u3 - u1):=qav b (by
     have q1:(u3 - h) * (u3 - h)<=(u3 - u2) * (u3 - h):=Rat.mul_le_mul_of_nonneg_right (by grind) (by grind)
     have q2:(u3 - u2) * (u3 - h)<=(u3 - u2) * (u3 - u2):=Rat.mul_le_mul_of_nonneg_left (by grind) (by grind)
     have:=Rat.mul_le_mul_of_nonneg_left (a:=(u3 - h) * (u3 - h)) (b:=(u3 - u2) * (u3 - u2)) (by grind) (Rat.le_of_lt hD)
     grind)
    exact Yy g (by grind)
   ·have f:=tri1 (u1:=u1 - h) (u2:=u2 - h) (r1:=r1) (r2:=r2) (r3:=r3) (by grind) k2 k3
    rw [JE] at f
    have w1:u2 - h - (u1 - h)=u2 - u1:=by grind
    have w2:u3 - h - (u1 - h)=u3 - u1:=by grind
    rw [w1,w2] at f
    refine Yy ag ?_
    rw [e,f]
    refine Rat.mul_lt_mul_of_pos_left ?_ hD
    have q1:-u1 * -u1<=(h - u1) * -u1:=Rat.mul_le_mul_of_nonneg_right (by grind) (by grind)
    have q2:(h - u1) * -u1<(h - u1) * (h - u1):=Rat.mul_lt_mul_of_pos_left (by grind) (by grind)
    grind
 ·rw [qlS (by grind) (by grind) (by grind)]
  exact p1
theorem qjz {h:Rat}(hD:0<JS u1 r1 u2 r2 u3 r3) (hh:0<h) :
  tri u1 r1 u2 r2 u3 r3<=tri (u1 - h) r1 (u2 - h) r2 (u3 - h) r3/\((u1 - h<0\/u2 - h<0\/u3 - h<0)->(0<u1\/0<u2\/0<u3)->tri u1 r1 u2 r2 u3 r3<tri (u1 - h) r1 (u2 - h) r2 (u3 - h) r3):=by
 have ord:∀ {u1 r1 u2 r2 u3 r3:Rat},0<JS u1 r1 u2 r2 u3 r3->u1<=u2->u2<=u3->tri u1 r1 u2 r2 u3 r3<=tri (u1 - h) r1 (u2 - h) r2 (u3 - h) r3/\((u1 - h<0\/u2 - h<0\/u3 - h<0)->(0<u1\/0<u2\/0<u3)->tri u1 r1 u2 r2 u3 r3<tri (u1 - h) r1 (u2 - h) r2 (u3 - h) r3):=fun {u1 r1 u2 r2 u3 r3} hD h12 h23=>by
  refine ⟨?_,fun x y=>qcU hD h12 h23 hh (by grind) (by grind)⟩
  by_cases c:u1 - h<0
  ·by_cases c3:0<u3
   ·exact Rat.le_of_lt (qcU hD h12 h23 hh c c3)
   ·rw [qlQ (u1:=u1) (by grind) (by grind) (by grind),qlQ (u1:=u1 - h) (by grind) (by grind) (by grind),JE]
    exact Rat.le_refl
  ·rw [qlS (u1:=u1) (by grind) (by grind) (by grind),qlS (u1:=u1 - h) (by grind) (by grind) (by grind)]
   exact Rat.le_refl
 have low:∀ {u1 r1 u2 r2 u3 r3:Rat},0<JS u1 r1 u2 r2 u3 r3->u1<=u2->u1<=u3->tri u1 r1 u2 r2 u3 r3<=tri (u1 - h) r1 (u2 - h) r2 (u3 - h) r3/\((u1 - h<0\/u2 - h<0\/u3 - h<0)->(0<u1\/0<u2\/0<u3)->tri u1 r1 u2 r2 u3 r3<tri (u1 - h) r1 (u2 - h) r2 (u3 - h) r3):=fun {u1 r1 u2 r2 u3 r3} hD h12 h13=>by
  by_cases c:u2<=u3
  ·exact ord hD h12 c
  ·have:=ord (u1:=u1) (r1:=-r1) (u2:=u3) (r2:=-r3) (u3:=u2) (r3:=-r2) (by rw [qe5];exact hD) h13 (by grind)
   rw [qcV,qcV] at this
   exact ⟨this.1,fun x y=>this.2 (by grind) (by grind)⟩
 by_cases c12:u1<=u2
 ·by_cases c13:u1<=u3
  ·exact low hD c12 c13
  ·have:=low (u1:=u3) (r1:=r3) (u2:=u1) (r2:=r1) (u3:=u2) (r3:=r2) (by rw [<- Zy];exact hD) (by grind) (by grind)
   rw [<- J9 u3,<- J9 (u3 - h)] at this
   exact ⟨this.1,fun x y=>this.2 (by grind) (by grind)⟩
 ·by_cases c23:u2<=u3
  ·have:=low (u1:=u2) (r1:=r2) (u2:=u3) (r2:=r3) (u3:=u1) (r3:=r1) (by rw [Zy];exact hD) c23 (by grind)
   rw [J9 u1,J9 (u1 - h)] at this
   exact ⟨this.1,fun x y=>this.2 (by grind) (by grind)⟩
  ·have:=low (u1:=u3) (r1:=r3) (u2:=u1) (r2:=r1) (u3:=u2) (r3:=r2) (by rw [<- Zy];exact hD) (by grind) (by grind)
   rw [<- J9 u3,<- J9 (u3 - h)] at this
   exact ⟨this.1,fun x y=>this.2 (by grind) (by grind)⟩
end
end L2
namespace L2
theorem qa1 {f g:Nat->Rat}:∀ {n:Nat},(∀ k,k<n->f k<=g k)->yF f n<=yF g n
 | 0,_=>Rat.le_refl
 | n+1,h=>by
  show yF f n+f n<=yF g n+g n
  have h1:=qa1 (n:=n) fun k hk=>h k (by omega)
  have h2:=h n (by omega)
  grind
theorem qdh {f g:Nat->Rat}:∀ {n:Nat},(∀ k,k<n->f k<=g k)->(∃ k,k<n/\f k<g k)->yF f n<yF g n
 | 0,_,⟨k,hk,_⟩=>by omega
 | n+1,h,⟨k,hk,hl⟩=>by
  show yF f n+f n<yF g n+g n
  have h2:=h n (by omega)
  rcases jM k n with z | z
  ·have h1:=qdh (n:=n) (fun k hk=>h k (by omega)) ⟨k,z,hl⟩
   grind
  ·have e:k=n:=by omega
   subst e
   have h1:=qa1 (n:=k) (f:=f) (g:=g) fun k hk=>h k (by omega)
   grind
theorem qbN {f:Pt->Pt->Rat}(an:∀ A B,f B A = -f A B) (P:List Pt):∀ m,yF (fun k=>f (gP P k) (gP P (k+1))) (m+1)+f (gP P (m+1)) (gP P 0)=yF (fun k=>f (gP P 0) (gP P (k+1))+f (gP P (k+1)) (gP P (k+2))+f (gP P (k+2)) (gP P 0)) m
 | 0=>by
  show 0+f (gP P 0) (gP P 1)+f (gP P 1) (gP P 0)=0
  rw [an (gP P 0) (gP P 1)]
  grind
 | m+1=>by
  have ih:=qbN an P m
  show yF (fun k=>f (gP P k) (gP P (k+1))) (m+1)+f (gP P (m+1)) (gP P (m+1+1))+f (gP P (m+1+1)) (gP P 0)=yF _ m+(f (gP P 0) (gP P (m+1))+f (gP P (m+1)) (gP P (m+2))+f (gP P (m+2)) (gP P 0))
  rw [<- ih,an (gP P 0) (gP P (m+1))]
  grind
theorem qbH {f:Pt->Pt->Rat}(an:∀ A B,f B A = -f A B) {P:List Pt}(h:2<=P.length):yF (fun k=>f (gP P k) (nx P k)) P.length=yF (fun k=>f (gP P 0) (gP P (k+1))+f (gP P (k+1)) (gP P (k+2))+f (gP P (k+2)) (gP P 0)) (P.length - 2):=by
 obtain ⟨m,e⟩:∃ m,P.length=m+2:=⟨P.length - 2,by omega⟩
 rw [show P.length - 2=m by omega,<- qbN an P m]
 have l:∀ k,nx P k=gP P ((k+1) % (m+2)):=fun k=>by unfold nx;rw [e]
 rw [e]
 show yF (fun k=>f (gP P k) (nx P k)) (m+1)+f (gP P (m+1)) (nx P (m+1))=_
 rw [l (m+1),yG,yd (g:=fun k=>f (gP P k) (gP P (k+1))) fun k hk=>by rw [l k,qx (by omega)]]
theorem qlb {P:List Pt}(h:Cvx P) {k:Nat}(hk:k+2<P.length):0<ac (gP P 0) (gP P (k+1)) (gP P (k+2)):=by
 have:=h (k+1) 0 (by omega) (by omega) (by omega) (by rw [qx (by omega)];omega)
 rw [qx (by omega)] at this
 unfold ac at *
 grind
theorem qjA (a b t:Rat) (A B C:Pt):JS (uQ a b t (pq A)) (rQ a b (pq A)) (uQ a b t (pq B)) (rQ a b (pq B)) (uQ a b t (pq C)) (rQ a b (pq C))=(a * a+b * b) * ((ac A B C:Int):Rat):=by
 unfold JS uQ rQ pq ac
 simp only [Rat.intCast_sub,Rat.intCast_mul]
 grind
theorem qjb {P:List Pt}(hc:Cvx P) (h3:3<=P.length) {a b:Rat}(hL:0<a * a+b * b) {t1 t2:Rat}(ht:t1<t2) :
  yF (fun k=>Ze a b t1 (pq (gP P k)) (pq (nx P k))) P.length<=yF (fun k=>Ze a b t2 (pq (gP P k)) (pq (nx P k))) P.length ∧
  ((∃ q∈P,uQ a b t2 (pq q)<0)->(∃ q∈P,0<uQ a b t1 (pq q))->yF (fun k=>Ze a b t1 (pq (gP P k)) (pq (nx P k))) P.length<yF (fun k=>Ze a b t2 (pq (gP P k)) (pq (nx P k))) P.length):=by
 have an:∀ t:Rat,∀ A B:Pt,Ze a b t (pq B) (pq A) = -Ze a b t (pq A) (pq B):=fun t A B=>by rw [Yh,Yh,ZI]
 have sh:∀ q:Pt,uQ a b t2 (pq q)=uQ a b t1 (pq q) - (t2 - t1):=fun q=>by unfold uQ;grind
 rw [qbH (f:=fun A B=>Ze a b t1 (pq A) (pq B)) (an t1) (by omega),qbH (f:=fun A B=>Ze a b t2 (pq A) (pq B)) (an t2) (by omega)]
 have up:∀ k,k<P.length - 2->_:=fun k hk=>qjz (h:=t2 - t1) (by
  rw [qjA a b t1 (gP P 0) (gP P (k+1)) (gP P (k+2))]
  exact Rat.mul_pos hL (by have:=qlb hc (k:=k) (by omega);exact_mod_cast this)) (by grind)
 refine ⟨qa1 fun k hk=>?_,fun ⟨q,hq,lq⟩ ⟨q',hq',lq'⟩=>qdh (fun k hk=>?_) ?_⟩
 ·have:=(up k hk).1
  simp only [Yh,sh]
  exact this
 ·have:=(up k hk).1
  simp only [Yh,sh]
  exact this
 ·have at':∀ q∈P,∃ k,k<P.length - 2/\(q=gP P 0\/q=gP P (k+1)\/q=gP P (k+2)):=fun q hq=>by
   obtain ⟨j,hj,e⟩:=jy.mp hq
   have e:q=gP P j:=by rw [<- e,je hj]
   rcases jM j 2 with z | z
   ·refine ⟨0,by omega,?_⟩
    rcases (show j=0\/j=1 by omega) with rfl | rfl
    ·exact .inl e
    ·exact .inr (.inl e)
   ·exact ⟨j - 2,by omega,.inr (.inr (by rw [e];congr 1;omega))⟩
  by_cases c:uQ a b t2 (pq (gP P 0))<0
  ·obtain ⟨k,hk,w⟩:=at' q' hq'
   refine ⟨k,hk,?_⟩
   simp only [Yh,sh]
   refine (up k hk).2 (.inl (by rw [<- sh];exact c)) ?_
   rcases w with rfl | rfl | rfl
   ·exact .inl lq'
   ·exact .inr (.inl lq')
   ·exact .inr (.inr lq')
  ·obtain ⟨k,hk,w⟩:=at' q hq
   refine ⟨k,hk,?_⟩
   simp only [Yh,sh]
   refine (up k hk).2 ?_ (.inl (by have:=sh (gP P 0);grind))
   rw [sh] at lq
   rcases w with rfl | rfl | rfl
   ·exact .inl lq
   ·exact .inr (.inl lq)
   ·exact .inr (.inr lq)
end L2
namespace K75
open PySem L2
section
variable {P:Program}{w:World}{K:W.Frag}{mg:Str->Option Value}{base:Heap}{CX:CXT}
theorem qg0 {x y:Int}{a b:Nat}(h:x.natAbs<=a) (h2:y.natAbs<=b):(x * y).natAbs<=a * b:=by rw [jv];exact Nat.mul_le_mul h h2
theorem szM {x:Int}(h:x.natAbs<=10000000000000000000000000000000000000000):Sz 140 x:=Sz.of _ h (by decide +kernel)
theorem qja {N D:Int}(h:0<D) (s1:Sz 9000 N) (s2:Sz 9000 D):∃ a b:Int,qlv N D = .tuple [.int a,.int b]/\0<b/\Sz 9000 a/\Sz 9000 b/\(a:Rat) / b=(N:Rat) / D:=by
 refine ⟨_,_,rfl,?_⟩
 have g0:0<Int.gcd N D:=Int.gcd_pos_of_ne_zero_right _ (by omega)
 obtain ⟨x,ex⟩:((Int.gcd N D:Nat):Int) ∣ N:=Int.gcd_dvd_left ..
 obtain ⟨y,ey⟩:((Int.gcd N D:Nat):Int) ∣ D:=Int.gcd_dvd_right ..
 generalize Int.gcd N D=g at *
 have gp:(0:Int)<(g:Int):=by omega
 have f1:N.fdiv (g:Int)=x:=by rw [ex,Int.mul_fdiv_cancel_left _ (by omega)]
 have f2:D.fdiv (g:Int)=y:=by rw [ey,Int.mul_fdiv_cancel_left _ (by omega)]
 rw [f1,f2]
 have y0:0<y:=by
  refine Int.lt_of_not_ge fun z=>?_
  have:=Int.mul_le_mul_of_nonneg_left z (Int.le_of_lt gp)
  rw [Int.mul_zero,<- ey] at this
  omega
 have le:∀ z:Int,z.natAbs<=((g:Int) * z).natAbs:=fun z=>by rw [jv];exact Nat.le_mul_of_pos_left _ (by omega)
 refine ⟨y0,yD (by rw [ex];exact le x) s1,yD (by rw [ey];exact le y) s2,?_⟩
 rw [ex,ey]
 simp only [Rat.intCast_mul]
 have a1:=ji (d:=(g:Int)) (by omega)
 have a2:=ji (d:=y) (by omega)
 grind
theorem ZY {Z:List Pt}(h:0<Z.length) (v:Pt) (t:Rat):Zc Z v t+Zc Z (-v.1,-v.2) (-t)=((vl' v v:Int):Rat) * ((J7 Z:Int):Rat):=by
 rw [jK h,jK h,<- ZF,Zx,<- g_sum v.1 v.2 t h]
 refine yd fun k _=>?_
 have:=qdG v.1 v.2 t (pq (gP Z k)) (pq (nx Z k))
 simp only [Rat.intCast_neg]
 exact this
theorem qba {Z:List Pt}(h:0<Z.length) (v:Pt) {m:Int}(hm:∀ q∈Z,m<=vl' v q):Zc Z v (m:Rat)=0:=by
 rw [jK h,<- YY Z.length]
 refine yd fun k hk=>?_
 have u:∀ q∈Z,0<=uQ v.1 v.2 (m:Rat) (pq q):=fun q hq=>by
  have:=Rat.intCast_le_intCast.mpr (hm q hq)
  unfold vl' at this
  simp only [Rat.intCast_add,Rat.intCast_mul] at this
  unfold uQ pq
  show 0<=(v.1:Rat) * (q.1:Rat)+(v.2:Rat) * (q.2:Rat) - (m:Rat)
  grind
 exact qao _ _ _ (u _ (js hk)) (u _ (js (yp _ h)))
theorem qgp {B:Nat}:∀ {l:List Int},(∀ x∈l,x.natAbs<=B)->l.sum.natAbs<=l.length * B
 | [],_=>by simp
 | x::l,h=>by
  have h1:=h x ql
  have h2:=qgp (l:=l) fun y hy=>h y (qg _ hy)
  rw [List.sum_cons,List.length_cons,Nat.succ_mul]
  omega
theorem qbp {Z:List Pt}(l12:Z.length<=12) (h3:0<Z.length) (hn:∀ q∈Z,Z9 q):Sz 300 (J7 Z):=by
 have hc:∀ x∈(List.range Z.length).map (fun k=>crs (gP Z k) (nx Z k)),x.natAbs<=2000000000000000000000000000000000000000000000000000000000000:=fun x hx=>by
  obtain ⟨k,hk,rfl⟩:=qG.mp hx
  have hk:=List.mem_range.mp hk
  obtain ⟨⟨a1,a2⟩,a3,a4⟩:=hn _ (js hk)
  obtain ⟨⟨b1,b2⟩,b3,b4⟩:=hn _ (js (yp (k+1) h3))
  unfold crs nx
  have p1:=qg0 (x:=(gP Z k).1) (y:=(gP Z ((k+1) % Z.length)).2) (a:=1000000000000000000000000000000) (b:=1000000000000000000000000000000) (by omega) (by omega)
  have p2:=qg0 (x:=(gP Z k).2) (y:=(gP Z ((k+1) % Z.length)).1) (a:=1000000000000000000000000000000) (b:=1000000000000000000000000000000) (by omega) (by omega)
  omega
 have:=qgp hc
 rw [List.length_map,yv] at this
 refine Sz.of 24000000000000000000000000000000000000000000000000000000000000 ?_ (by decide +kernel)
 unfold J7
 omega
def qhX:SpD:=fun es μ Q=>∃ (P:List Pt) (v:Pt) (h:Int),es=[.d (hpD P),.d (ptD v),.d (.int h)]/\Ck P/\Ar v/\h.natAbs<=B40/\∀ b:Bool,(b=true ↔ 2 * Zc P v (h:Rat)<=((vl' v v:Int):Rat) * ((J7 P:Int):Rat))->Q (.d (.bool b)) μ
theorem qc9:FnScope ["cake", "arrow", "height", "n", "d"] ["cake", "arrow", "height"] (qt jx):=⟨rfl,rfl,rfl,by decide +kernel,rfl,by decide +kernel,by decide +kernel⟩
theorem qiw {f:Addr}{fd:FuncData}(F:Fun K "is_at_most_half" "is_at_most_half" jx f fd) (hX:NoX CX) (Obelow:Own P w K mg base CX 4 "below" ["cake", "arrow", "n", "d"] (qW K sBel)) (Oarea:Own P w K mg base CX 3 "area" ["cake"] (qW K qff)):FnOk P w K mg base CX 5 f fd ["cake", "arrow", "height"] (qW K qhX):=by
 refine F.okD qc9 (fun es μ Q hq0=>by obtain ⟨P,v,h,e,_⟩:=hq0;subst e;rfl) (fun cdv A outer s H E es μ Q hr hq0=>?_)
 obtain ⟨Z,v,h,e,hc,hv,hh,k⟩:=hq0
 subst e
 have nd:=qc9.nd
 refine ⟨_,(qr (jt (qS Obelow hX (hr.mono (by decide)) rfl (qa (dv 0) (qa (dv 1) (qa (dv 2) (qa qu qd))))) (yP (n:=2) rfl (qv (qw (i:=3) nd rfl (by first | exact Or.inl rfl | exact Or.inr rfl)) (qv (qw (i:=4) nd rfl (by first | exact Or.inl rfl | exact Or.inr rfl)) yk))))
   (qH (qR (qaF qcx (qO qA qu (dv 3)) (qO qA (qS Oarea hX (hr.mono (by decide)) rfl (qa (dv 0) qd)) (dv 4)) (qY _))))),?_⟩
 have l3:=hc.2.1
 have l12:=hc.2.2.1
 refine ⟨Z,v,h,1,rfl,by omega,l12,hc.2.2.2,hv,by decide,(szM hh).mono (by decide),by unfold Sz;decide,fun N D D0 sN sD eB=>?_⟩
 obtain ⟨a,b,eC,b0,sa,sb,eab⟩:=qja D0 sN sD
 rw [eC]
 have sA:=qbp l12 (by omega) hc.2.2.2
 refine ⟨rfl,yQ (j:=2) (by unfold Sz;decide) sa (by decide),Z,rfl,by omega,by omega,hc.2.2.2,yQ sA sb (by decide),k _ ?_⟩
 have eB:(N:Rat) / D * (vl' v v:Int)=Zc Z v ((h:Rat) / ((1:Int):Rat)):=eB
 have t1:(h:Rat) / ((1:Int):Rat)=h:=by grind
 rw [t1,<- eab] at eB
 rw [<- eB]
 have vv:=(qaT hv).1
 have v0:(0:Rat)<((vl' v v:Int):Rat):=Rat.intCast_pos.mpr vv
 have c0:(0:Rat)<(b:Rat):=Rat.intCast_pos.mpr b0
 have e2:2 * ((a:Rat) / b * ((vl' v v:Int):Rat)) * b=2 * a * ((vl' v v:Int):Rat):=by grind
 constructor
 ·intro z
  have z:2 * a<=J7 Z * b:=qy z
  have z:=Rat.intCast_le_intCast.mpr z
  simp only [Rat.intCast_mul] at z
  have z2:=Rat.mul_le_mul_of_nonneg_right z (Rat.le_of_lt v0)
  refine qav c0 ?_
  rw [e2]
  grind
 ·intro z
  have z2:=Rat.mul_le_mul_of_nonneg_right z (Rat.le_of_lt c0)
  rw [e2] at z2
  refine qm (Rat.intCast_le_intCast.mp ?_)
  simp only [Rat.intCast_mul]
  refine qav v0 ?_
  grind
end
section
variable {P:Program}{w:World}{K:W.Frag}{mg:Str->Option Value}{base:Heap}{CX:CXT}
theorem qel:∀ {l:List Int},l≠[]->∃ m∈l,∀ x∈l,m<=x
 | [],h=>absurd rfl h
 | [a],_=>⟨a,by simp,fun x hx=>by simp at hx;omega⟩
 | a::b::l,_=>by
  obtain ⟨m,hm,h⟩:=qel (l:=b::l) (by simp)
  rcases Int.le_total a m with z | z
  ·exact ⟨a,ql,fun x hx=>by rcases List.mem_cons.mp hx with rfl | y;omega;have:=h x y;omega⟩
  ·exact ⟨m,qg _ hm,fun x hx=>by rcases List.mem_cons.mp hx with rfl | y;omega;exact h x y⟩
theorem qlc {l:List Int}(h:l≠[]):∃ m∈l,∀ x∈l,x<=m:=by
 obtain ⟨m,hm,hl⟩:=qel (l:=l.map fun x=>-x) (by simp [h])
 obtain ⟨y,hy,rfl⟩:=qG.mp hm
 exact ⟨y,hy,fun x hx=>by have:=hl (-x) (jN hx);omega⟩
def hf (Z:List Pt) (v:Pt) (h:Int):Bool:=decide (2 * Zc Z v (h:Rat)<=((vl' v v:Int):Rat) * ((J7 Z:Int):Rat))
theorem Ji {v:Pt}(h:Ar v):Ar (-v.1,-v.2):=by
 obtain ⟨⟨a,b⟩,c⟩:=h
 refine ⟨⟨by show (-v.1).natAbs<=_;omega,by show (-v.2).natAbs<=_;omega⟩,fun z=>c ?_⟩
 have z1:=congrArg Prod.fst z
 have z2:=congrArg Prod.snd z
 exact Prod.ext (by dsimp only at z1 ⊢;omega) (by dsimp only at z2 ⊢;omega)
theorem YK {Z:List Pt}(hc:Ck Z) {v:Pt}(hv:Ar v):0<((vl' v v:Int):Rat) * ((J7 Z:Int):Rat):=by
 refine Rat.mul_pos (Rat.intCast_pos.mpr (qaT hv).1) (Rat.intCast_pos.mpr ?_)
 have l3:=hc.2.1
 rw [YQ (by omega)]
 exact qiS hc.1 l3
theorem qk4 {Z:List Pt}(hc:Ck Z) {v:Pt}(hv:Ar v) {m:Int}(hm:∀ q∈Z,m<=vl' v q):hf Z v m=true:=by
 have l3:=hc.2.1
 have:=YK hc hv
 unfold hf
 rw [qba (by omega) v hm]
 exact qm (by grind)
theorem qb2 {Z:List Pt}(hc:Ck Z) {v:Pt}{m:Int}(hm:∀ q∈Z,vl' v q<=m):Zc Z v (m:Rat)=((vl' v v:Int):Rat) * ((J7 Z:Int):Rat):=by
 have l3:=hc.2.1
 have b:=ZY (Z:=Z) (by omega) v (m:Rat)
 have z:=qba (Z:=Z) (by omega) (-v.1,-v.2) (m:=-m) fun q hq=>by
  have:=hm q hq
  unfold vl' at *
  dsimp only
  rw [Int.neg_mul,Int.neg_mul]
  omega
 rw [Rat.intCast_neg] at z
 rw [z] at b
 grind
theorem qiL {Z:List Pt}(hc:Ck Z) {v:Pt}(hv:Ar v) {m:Int}(hm:∀ q∈Z,vl' v q<=m):hf Z v m=false:=by
 have:=YK hc hv
 unfold hf
 rw [qb2 hc hm]
 exact yB (by grind)
def Bnd (Z:List Pt) (v:Pt) (low high:Int):Prop:=(∃ q∈Z,vl' v q=low)/\(∃ q∈Z,vl' v q=high)/\low<high/\(∀ q∈Z,vl' v q<=low\/high<=vl' v q)/\hf Z v low=true/\hf Z v high=false
def sBds:SpD:=fun es μ Q=>∃ (P:List Pt) (v:Pt),es=[.d (hpD P),.d (ptD v)]/\Ck P/\Ar v/\∀ low high:Int,Bnd P v low high->Q (.d (.tuple [.int low,.int high])) μ
theorem qgM:FnScope ["cake", "arrow", "heights", "low", "high"] ["cake", "arrow"] (qt jm):=⟨rfl,rfl,rfl,by decide +kernel,rfl,by decide +kernel,by decide +kernel⟩
theorem qkN {f:Addr}{fd:FuncData}(F:Fun K "cut_bounds" "cut_bounds" jm f fd) (T:Txt mg) (hX:NoX CX) (Ovalue:Own P w K mg base CX 1 "value" ["normal", "point"] (qW K qlU)) (Ois_at_most_half:Own P w K mg base CX 5 "is_at_most_half" ["cake", "arrow", "height"] (qW K qhX)):FnOk P w K mg base CX 6 f fd ["cake", "arrow"] (qW K sBds):=by
 refine F.okD qgM (fun es μ Q hq0=>by obtain ⟨P,v,e,_⟩:=hq0;subst e;rfl) (fun cdv A outer s H E es μ Q hr hq0=>?_)
 obtain ⟨Z,v,e,hc,hv,k⟩:=hq0
 subst e
 have nd:=qgM.nd
 refine ⟨_,(qr (qbf (i:=2) nd rfl (by first | exact Or.inl rfl | exact Or.inr rfl) (L:=["corner"]) (sc:=qt jm) (N:=["cake", "arrow", "heights", "low", "high"]) rfl rfl rfl (by decide +kernel) (y6 (dv 0)) (fun _ _ _ _ _=>(qw (i:=5) (show List.Nodup (["cake", "arrow", "heights", "low", "high", "corner"]:List Str) from by decide +kernel) rfl (by first | exact Or.inl rfl | exact Or.inr rfl))) (fun _ _ _ _ _=>jg) (fun _ _ _ _ _=>(qS Ovalue hX (hr.mono (by decide)) rfl (qa (dv 1) (qa (dv 5) qd)))))
   (qr (qP (i:=3) nd rfl (by first | exact Or.inl rfl | exact Or.inr rfl) (qQ (qbi rfl) (by rfl) T.max_ Zb (qa (j4 (L:=["height"]) (sc:=qt jm) (N:=["cake", "arrow", "heights", "low", "high"]) rfl rfl rfl (by decide +kernel) (y6 (dv 2)) (fun _ _ _ _ _=>(qw (i:=5) (show List.Nodup (["cake", "arrow", "heights", "low", "high", "height"]:List Str) from by decide +kernel) rfl (by first | exact Or.inl rfl | exact Or.inr rfl))) (fun _ _ _ _ _=>(qeu (qaC (qS Ois_at_most_half hX (hr.mono (by decide)) rfl (qa (dv 0) (qa (dv 1) (qa (dv 5) qd))))))) (fun _ _ _ _ _=>(dv 5))) qd)))
   (qr (qP (i:=4) nd rfl (by first | exact Or.inl rfl | exact Or.inr rfl) (qQ (qew rfl) (by rfl) T.min_ qb9 (qa (j4 (L:=["height"]) (sc:=qt jm) (N:=["cake", "arrow", "heights", "low", "high"]) rfl rfl rfl (by decide +kernel) (y6 (dv 2)) (fun _ _ _ _ _=>(qw (i:=5) (show List.Nodup (["cake", "arrow", "heights", "low", "high", "height"]:List Str) from by decide +kernel) rfl (by first | exact Or.inl rfl | exact Or.inr rfl))) (fun _ _ _ _ _=>(qeu (yj ZS (dv 5) (dv 3) (qY _)))) (fun _ _ _ _ _=>(dv 5))) qd)))
   (qH (qR (yC (qa (dv 3) (qa (dv 4) qd)))))))),?_⟩
 have l3:=hc.2.1
 have l12:=hc.2.2.1
 have hb:∀ q∈Z,(vl' v q).natAbs<=B40:=fun q hq=>(ZD hv (hc.2.2.2 q hq)).1
 have vB:Bd B40 v:=by
  have a1:=hv.1.1
  have a2:=hv.1.2
  exact ⟨qF a1 (by decide),qF a2 (by decide)⟩
 have qB:∀ q∈Z,Bd B40 q:=fun q hq=>by
  obtain ⟨⟨x1,x2⟩,x3,x4⟩:=hc.2.2.2 q hq
  exact ⟨by show _<=10000000000000000000000000000000000000000;omega,by show _<=10000000000000000000000000000000000000000;omega⟩
 refine ⟨_,.d _,(by show (Z.map ptD).length<=4000;rw [List.length_map];omega),qhq (as:=Z) (fun q=>.int (vl' v q)) Src.d (fun q hq R h=>⟨v,q,rfl,vB,qB q hq,h⟩) ?_⟩
 have em:Z.map (fun q=>PyData.int (vl' v q))=(Z.map (vl' v)).map PyData.int:=by rw [List.map_map];rfl
 rw [em]
 have hl:((Z.map (vl' v)).map PyData.int).length<=4000:=by rw [List.length_map,List.length_map];omega
 refine ⟨_,.d _,hl,qeD (as:=Z.map (vl' v)) (h:=PyData.int) (fun h=>hf Z v h) PyData.int Src.d (fun h hh R y=>?_) (fun h hh _ R y=>y) ?_⟩
 ·obtain ⟨q,hq,rfl⟩:=qG.mp hh
  refine ⟨Z,v,vl' v q,rfl,hc,hv,hb q hq,fun b hb=>?_⟩
  have:b=hf Z v (vl' v q):=by
   rw [Bool.eq_iff_iff,hb]
   unfold hf
   rw [decide_eq_true_iff]
  rw [this]
  exact y
 have ne:Z.map (vl' v)≠[]:=fun z=>by have z:Z=[]:=List.map_eq_nil_iff.mp z;rw [z] at l3;exact absurd l3 (by decide)
 obtain ⟨m,mm,hm⟩:=qel ne
 obtain ⟨M,MM,hM⟩:=qlc ne
 have t0:=qk4 hc hv (m:=m) fun q hq=>hm _ (jN hq)
 have t1:=qiL hc hv (m:=M) fun q hq=>hM _ (jN hq)
 refine ⟨(Z.map (vl' v)).filter fun h=>hf Z v h,.d _,(fun z=>by have:=jA.mpr ⟨mm,t0⟩;rw [z] at this;cases this),fun low hlow hmax=>?_⟩
 obtain ⟨l1,l2⟩:=jA.mp hlow
 have nM:low<M:=by
  have:=hM low l1
  rcases Int.lt_or_le low M with z | z
  ·exact z
  ·have e:low=M:=by omega
   rw [e,t1] at l2
   cases l2
 dsimp only [List.set_cons_zero,List.set_cons_succ]
 refine ⟨_,.d _,hl,qeD (as:=Z.map (vl' v)) (h:=PyData.int) (fun h=>decide (low<h)) PyData.int Src.d (fun h hh R y=>y) (fun h hh _ R y=>y) ?_⟩
 refine ⟨(Z.map (vl' v)).filter fun h=>decide (low<h),.d _,(fun z=>by have:=(jA (p:=fun h=>decide (low<h))).mpr ⟨MM,qm nM⟩;rw [z] at this;cases this),fun high hhi hmin=>?_⟩
 obtain ⟨h1,h2⟩:=jA.mp hhi
 have h2:low<high:=qy h2
 dsimp only [List.set_cons_zero,List.set_cons_succ]
 refine ⟨zl2,k low high ⟨qG.mp l1,qG.mp h1,h2,fun q hq=>?_,l2,?_⟩⟩
 ·rcases Int.lt_or_le low (vl' v q) with z | z
  ·exact .inr (hmin _ (jA.mpr ⟨jN hq,qm z⟩))
  ·exact .inl z
 ·cases e:hf Z v high with
  | false=>rfl
  | true =>
   have:=hmax high (jA.mpr ⟨h1,e⟩)
   omega
end
section
variable {P:Program}{w:World}{K:W.Frag}{mg:Str->Option Value}{base:Heap}{CX:CXT}
def qgf (Z:List Pt) (v:Pt) (s o n low high dv:Int):Prop:=Bnd Z v low high/\0<dv/\Sz 8500 s/\Sz 8500 o/\Sz 8500 n/\Sz 8500 dv ∧
 (∀ t:Rat,(low:Rat)<=t->t<=(high:Rat)->(s:Rat) * t * t+o * t+n=dv * (2 * Zc Z v t - ((vl' v v:Int):Rat) * ((J7 Z:Int):Rat))) ∧
 ∃ sq on no:Int,qeZ (Z7 v Z) low Z.length=(sq,on,no,dv)/\s=2 * sq/\o=2 * on/\n=2 * no - dv * vl' v v * J7 Z
def sCut:SpD:=fun es μ Q=>∃ (P:List Pt) (v:Pt),es=[.d (hpD P),.d (ptD v)]/\Ck P/\Ar v/\∀ s o n low high dv:Int,qgf P v s o n low high dv->Q (.d (.tuple [.int s,.int o,.int n,.int low,.int high])) μ
theorem qgI:FnScope ["cake", "arrow", "low", "high", "curve", "divisor", "square", "one", "nought"] ["cake", "arrow"] (qt scut):=⟨rfl,rfl,rfl,by decide +kernel,rfl,by decide +kernel,by decide +kernel⟩
theorem qkJ {f:Addr}{fd:FuncData}(F:Fun K "cut" "cut" scut f fd) (hX:NoX CX) (Ocut_bounds:Own P w K mg base CX 6 "cut_bounds" ["cake", "arrow"] (qW K sBds)) (Opart_curve:Own P w K mg base CX 3 "part_curve" ["cake", "arrow", "low"] (qW K sPc)) (Oarea:Own P w K mg base CX 3 "area" ["cake"] (qW K qff)):FnOk P w K mg base CX 7 f fd ["cake", "arrow"] (qW K sCut):=by
 refine F.okD qgI (fun es μ Q hq0=>by obtain ⟨P,v,e,_⟩:=hq0;subst e;rfl) (fun cdv A outer s H E es μ Q hr hq0=>?_)
 obtain ⟨Z,v,e,hc,hv,k⟩:=hq0
 subst e
 have nd:=qgI.nd
 refine ⟨_,(qr (jt (qS Ocut_bounds hX (hr.mono (by decide)) rfl (qa (dv 0) (qa (dv 1) qd))) (yP (n:=2) rfl (qv (qw (i:=2) nd rfl (by first | exact Or.inl rfl | exact Or.inr rfl)) (qv (qw (i:=3) nd rfl (by first | exact Or.inl rfl | exact Or.inr rfl)) yk))))
   (qr (jt (qS Opart_curve hX (hr.mono (by decide)) rfl (qa (dv 0) (qa (dv 1) (qa (dv 2) qd)))) (yP (n:=2) rfl (qv (qw (i:=4) nd rfl (by first | exact Or.inl rfl | exact Or.inr rfl)) (qv (qw (i:=5) nd rfl (by first | exact Or.inl rfl | exact Or.inr rfl)) yk))))
   (qr (jt (dv 4) (yP (n:=3) rfl (qv (qw (i:=6) nd rfl (by first | exact Or.inl rfl | exact Or.inr rfl)) (qv (qw (i:=7) nd rfl (by first | exact Or.inl rfl | exact Or.inr rfl)) (qv (qw (i:=8) nd rfl (by first | exact Or.inl rfl | exact Or.inr rfl)) yk)))))
   (qH (qR (yC (qa (qO qA qu (dv 6)) (qa (qO qA qu (dv 7)) (qa (qO yl (qO qA qu (dv 8)) (qO qA (dv 5) (qS Oarea hX (hr.mono (by decide)) rfl (qa (dv 0) qd)))) (qa (dv 2) (qa (dv 3) qd))))))))))),?_⟩
 have l3:=hc.2.1
 have l12:=hc.2.2.1
 refine ⟨Z,v,rfl,hc,hv,fun low high hb=>⟨rfl,Z,v,low,rfl,by omega,l12,hc.2.2.2,hv,fun sq on no dv ha=>?_⟩⟩
 dsimp only [List.set_cons_zero,List.set_cons_succ]
 obtain ⟨p1,s1,s2,s3,s4,e,eF⟩:=ha
 have sv:=qhL hv
 have mo:∀ {x:Int},Sz (601 * Z.length+1) x->Sz 7300 x:=fun h=>h.mono (by omega)
 have sD:Sz (7300+70) (dv * vl' v v):=(mo s4).mul sv
 have sA:=qbp l12 (by omega) hc.2.2.2
 have two:Sz 2 (2:Int):=by unfold Sz;decide
 refine ⟨rfl,rfl,yQ two (mo s1) (by decide),yQ two (mo s2) (by decide),yQ two (mo s3) (by decide),Z,rfl,by omega,by omega,hc.2.2.2,yQ sD sA (by decide),(show 5<=4000 by decide),k _ _ _ _ _ dv ⟨hb,p1,(two.mul (mo s1)).mono (by decide),(two.mul (mo s2)).mono (by decide),?_,(mo s4).mono (by decide),fun t t1 t2=>?_,sq,on,no,eF,rfl,rfl,rfl⟩⟩
 ·have a1:Sz 7700 (2 * no):=(two.mul (mo s3)).mono (by decide)
  have a2:Sz 7700 (dv * vl' v v * J7 Z):=(sD.mul sA).mono (by decide)
  exact (a1.sub a2).mono (by decide)
 ·have lS:LowS (Z7 v Z) low t:=fun q hq=>by
   obtain ⟨q0,hq0,rfl⟩:=qG.mp hq
   refine ⟨fun z=>Rat.le_trans (Rat.intCast_le_intCast.mpr z) t1,fun z=>Rat.le_trans t2 (Rat.intCast_le_intCast.mpr ?_)⟩
   have z:low<vl' v q0:=z
   show high<=vl' v q0
   rcases hb.2.2.2.1 q0 hq0 with y | y
   ·omega
   ·exact y
  have et:=e t lS
  have et:((sq:Rat) * t * t+on * t+no) / dv=Zc Z v t:=et
  rw [<- et]
  have d1:=ji (d:=dv) (by omega)
  simp only [Rat.intCast_mul,Rat.intCast_sub]
  have:((2:Int):Rat)=2:=rfl
  grind
end
section
variable {P:Program}{w:World}{K:W.Frag}{mg:Str->Option Value}{base:Heap}{CX:CXT}
def sLar:SpD:=fun es μ Q=>∃ P:List Pt,es=[.d (hpD P)]/\Ck P/\Q (.d (.int (J7 P))) μ
theorem qgE:FnScope ["_law_cake_here"] ["_law_cake_here"] (qt Jw):=⟨rfl,rfl,rfl,by decide +kernel,rfl,by decide +kernel,by decide +kernel⟩
theorem qkF {f:Addr}{fd:FuncData}(F:Fun K "_law_area" "_law_area" Jw f fd) (T:Txt mg) (hX:NoX CX) (O_law_across:Own P w K mg base CX 1 "_law_across" ["_law_one", "_law_two", "_law_three"] (qW K sAc)):FnOk P w K mg base CX 2 f fd ["_law_cake_here"] (qW K sLar):=by
 refine F.okD qgE (fun es μ Q hq0=>by obtain ⟨P,e,_⟩:=hq0;subst e;rfl) (fun cdv A outer s H E es μ Q hr hq0=>?_)
 obtain ⟨Z,e,hc,k⟩:=hq0
 subst e
 have nd:=qgE.nd
 refine ⟨_,(qH (qR (qQ (qev rfl) (by rfl) T.sum_ qhr (qa (j4 (L:=["_law_k"]) (sc:=qt Jw) (N:=["_law_cake_here"]) rfl rfl rfl (by decide +kernel) (qet rfl T.range_ (qa qu (qa (qO yl (qQ jZ (by rfl) T.len_ j5 (qa (dv 0) qd)) qu) qd))) (fun _ _ _ _ _=>(qw (i:=1) (show List.Nodup (["_law_cake_here", "_law_k"]:List Str) from by decide +kernel) rfl (by first | exact Or.inl rfl | exact Or.inr rfl))) (fun _ _ _ _ _=>jg) (fun _ _ _ _ _=>(qS O_law_across hX (hr.mono (by decide)) rfl (qa (jh qN (dv 0) qu (fun _ _=>rfl)) (qa (jh qN (dv 0) (dv 1) (fun _ _=>rfl)) (qa (jh qN (dv 0) (qO yx (dv 1) qu) (fun _ _=>rfl)) qd)))))) qd)))),?_⟩
 have ln:(Z.map ptD).length=Z.length:=List.length_map ..
 have l3:=hc.2.1
 have l24:=hc.2.2.1
 have bP:∀ i,i<Z.length->Bd B39 (gP Z i):=fun i hi=>JN (hc.2.2.2 _ (js hi))
 have ix:∀ i:Nat,i<Z.length->atI (Z.map ptD) (i:Int)=some (ptD (gP Z i)):=fun i hi=>by
  have:=qga hi
  rw [Int.zero_add] at this
  exact this
 have cnt:((((Z.map ptD).length:Nat):Int) - 1 - 1).toNat=Z.length - 2:=by omega
 refine ⟨_,.l (.d _),⟨by decide,by decide,by omega,by omega⟩,(show ((((Z.map ptD).length:Nat):Int) - 1 - 1).toNat<=4000 by omega),fun i ys ρ' μ'=>μ'=μ/\ys=((List.range i).map fun k=>ac (gP Z 0) (gP Z (k+1)) (gP Z (k+2))).map .int/\∃ v,ρ'=[some (.d (hpD Z)),v],⟨rfl,rfl,_,rfl⟩,fun _ _ _ _ _ _=>trivial,?_,?_⟩
 ·rintro i ys ρ' μ' hi ⟨rfl,rfl,v,rfl⟩
  have hi:i<((((Z.map ptD).length:Nat):Int) - 1 - 1).toNat:=hi
  rw [cnt] at hi
  have x1:=ix (i+1) (by omega)
  have x2:=ix (i+2) (by omega)
  rw [show ((i+1:Nat):Int)=1+(i:Int) by omega] at x1
  rw [show ((i+2:Nat):Int)=1+(i:Int)+1 by omega] at x2
  refine ⟨_,ix 0 (by omega),_,x1,_,x2,gP Z 0,gP Z (i+1),gP Z (i+2),rfl,bP _ (by omega),bP _ (by omega),bP _ (by omega),_,rfl,rfl,?_,_,rfl⟩
  rw [jb,List.map_append,List.map_append]
  rfl
 ·rintro ys ρ' μ' ⟨rfl,rfl,v,rfl⟩
  refine ⟨(List.range ((((Z.map ptD).length:Nat):Int) - 1 - 1).toNat).map fun k=>ac (gP Z 0) (gP Z (k+1)) (gP Z (k+2)),.d _,?_⟩
  have efan:((List.range ((((Z.map ptD).length:Nat):Int) - 1 - 1).toNat).map fun k=>ac (gP Z 0) (gP Z (k+1)) (gP Z (k+2))).sum=J7 Z:=by rw [cnt,YQ (by omega)];rfl
  rw [efan]
  exact k
def sHl:SpD:=fun es μ Q=>∃ (w:Nat) (P:List Pt) (v:Pt) (n d:Int),es=[.d (hpD P),.d (ptD v),.d (.int n),.d (.int d)]/\Ck P/\qjq w P v n d/\∀ r un:Int,0<un->(r:Rat) / un * ((vl' v v:Int):Rat)=2 * Zc P v ((n:Rat) / d) - ((vl' v v:Int):Rat) * ((J7 P:Int):Rat)->Q (.d (.int r)) μ
theorem qgG:FnScope ["_law_cake_here", "_law_arrow_here", "_law_n", "_law_d", "_law_over", "_law_under"] ["_law_cake_here", "_law_arrow_here", "_law_n", "_law_d"] (qt jE):=⟨rfl,rfl,rfl,by decide +kernel,rfl,by decide +kernel,by decide +kernel⟩
theorem qkH {f:Addr}{fd:FuncData}(F:Fun K "_law_half_less" "_law_half_less" jE f fd) (T:Txt mg) (hX:NoX CX) (O_law_part:Own P w K mg base CX 3 "_law_part" ["_law_cake_here", "_law_arrow_here", "_law_n", "_law_d"] (qW K sPrt)) (O_law_area:Own P w K mg base CX 2 "_law_area" ["_law_cake_here"] (qW K sLar)):FnOk P w K mg base CX 4 f fd ["_law_cake_here", "_law_arrow_here", "_law_n", "_law_d"] (qW K sHl):=by
 refine F.okD qgG (fun es μ Q hq0=>by obtain ⟨w,P,v,n,d,e,_⟩:=hq0;subst e;rfl) (fun cdv A outer s H E es μ Q hr hq0=>?_)
 obtain ⟨ww,Z,v,n,d,e,hc,ck,k⟩:=hq0
 subst e
 have nd:=qgG.nd
 refine ⟨_,(qr (jt (qS O_law_part hX (hr.mono (by decide)) rfl (qa (dv 0) (qa (dv 1) (qa (dv 2) (qa (dv 3) qd))))) (yP (n:=2) rfl (qv (qw (i:=4) nd rfl (by first | exact Or.inl rfl | exact Or.inr rfl)) (qv (qw (i:=5) nd rfl (by first | exact Or.inl rfl | exact Or.inr rfl)) yk))))
   (qH (qR (qO yl (qO qA qu (dv 4)) (qO qA (qS O_law_area hX (hr.mono (by decide)) rfl (qa (dv 0) qd)) (dv 5)))))),?_⟩
 have l3:=hc.2.1
 have sA:=qbp hc.2.2.1 (by omega) hc.2.2.2
 have two:Sz 2 (2:Int):=by unfold Sz;decide
 have hw:=ck.2.2.2.2.2.2.2
 refine ⟨ww,Z,v,n,d,rfl,ck,fun ov un u0 su so eL=>?_⟩
 refine ⟨rfl,yQ two so (by omega),Z,rfl,hc,yQ sA su (by omega),k _ un u0 ?_⟩
 have cs:=qlt ck
 rw [<- eL] at cs
 rw [<- cs]
 have c1:=ji (d:=un) (by omega)
 simp only [Rat.intCast_mul,Rat.intCast_sub]
 have:((2:Int):Rat)=2:=rfl
 grind
end
section
variable {P:Program}{w:World}{K:W.Frag}{mg:Str->Option Value}{base:Heap}{CX:CXT}
def FF (Z:List Pt) (v:Pt) (t:Rat):Rat:=2 * Zc Z v t - ((vl' v v:Int):Rat) * ((J7 Z:Int):Rat)
def Btw (Z:List Pt) (v:Pt) (t:Rat):Prop:=(∃ q∈Z,((vl' v q:Int):Rat)<=t)/\∃ q∈Z,t<=((vl' v q:Int):Rat)
theorem qhI (v:Pt) (t:Rat) (q:Pt):uQ v.1 v.2 t (pq q)=((vl' v q:Int):Rat) - t:=by
 unfold uQ pq vl'
 simp only [Rat.intCast_add,Rat.intCast_mul]
theorem FF_lt {Z:List Pt}(hc:Ck Z) {v:Pt}(hv:Ar v) {s t:Rat}(hs:Btw Z v s) (ht:Btw Z v t) (h:s<t):FF Z v s<FF Z v t:=by
 have l3:=hc.2.1
 obtain ⟨⟨q,m,e⟩,_⟩:=hs
 obtain ⟨_,q',m',e'⟩:=ht
 have:=(qjb hc.1 l3 (a:=v.1) (b:=v.2) (by rw [<- Zx];exact Rat.intCast_pos.mpr (qaT hv).1) h).2 ⟨q,m,by rw [qhI];grind⟩ ⟨q',m',by rw [qhI];grind⟩
 rw [<- jK (by omega),<- jK (by omega)] at this
 unfold FF
 grind
theorem sgF {r un:Int}{vv F:Rat}(u0:0<un) (v0:0<vv) (e:(r:Rat) / un * vv=F):(0<=r->0<=F)/\(r<0->F<0):=by
 have c:=ji (d:=un) (by omega)
 have up:(0:Rat)<un:=Rat.intCast_pos.mpr u0
 have x:F * un=r * vv:=by rw [<- e];grind
 constructor
 ·intro h
  have h:(0:Rat)<=r:=by exact_mod_cast h
  by_cases z:0<=F
  ·exact z
  ·have a1:=Rat.mul_pos (a:=-F) (b:=(un:Rat)) (by grind) up
   have a2:=Rat.mul_nonneg h (Rat.le_of_lt v0)
   grind
 ·intro h
  have h:(0:Rat) < -(r:Rat):=by have:=Rat.intCast_lt_intCast.mpr h;grind
  by_cases z:F<0
  ·exact z
  ·have a1:=Rat.mul_nonneg (a:=F) (b:=(un:Rat)) (by grind) (Rat.le_of_lt up)
   have a2:=Rat.mul_pos h v0
   grind
theorem YD {Z:List Pt}{v:Pt}{s o n l h dv:Int}(T:qgf Z v s o n l h dv):FF Z v (l:Rat)<=0/\0<FF Z v (h:Rat):=by
 obtain ⟨⟨_,_,_,_,b5,b6⟩,_⟩:=T
 have b5:=qy b5
 have b6:=of_decide_eq_false b6
 unfold FF
 constructor <;> grind
theorem j9 {Z:List Pt}{v:Pt}{s o n l h dv:Int}(T:qgf Z v s o n l h dv) {t:Rat}(t1:(l:Rat)<=t) (t2:t<=h):(s:Rat) * t * t+o * t+n=dv * FF Z v t:=T.2.2.2.2.2.2.1 t t1 t2
theorem JT {Z:List Pt}{v:Pt}{s o n l h dv:Int}(T:qgf Z v s o n l h dv):(s:Rat) * l * l+o * l+n<=0/\0<(s:Rat) * h * h+o * h+n:=by
 have lt':(l:Rat)<h:=Rat.intCast_lt_intCast.mpr T.1.2.2.1
 have d0:(0:Rat)<dv:=Rat.intCast_pos.mpr T.2.1
 obtain ⟨g1,g2⟩:=YD T
 rw [j9 T (t:=(l:Rat)) (by grind) (by grind),j9 T (t:=(h:Rat)) (by grind) (by grind)]
 have m1:=Rat.mul_nonneg (Rat.le_of_lt d0) (show (0:Rat) <= -FF Z v (l:Rat) by grind)
 have m2:=Rat.mul_pos d0 g2
 constructor
 ·grind
 ·exact m2
theorem qiZ {Z:List Pt}{v:Pt}{s o n l h dv:Int}(T:qgf Z v s o n l h dv) (s0:s≠0):0<=o * o - 4 * s * n:=by
 obtain ⟨e1,e2⟩:=JT T
 have q:∀ x:Rat,4 * (s:Rat) * ((s:Rat) * x * x+o * x+n)=(2 * s * x+o) * (2 * s * x+o) - ((o:Rat) * o - 4 * s * n):=fun x=>by grind
 have sq:∀ x:Rat,0<=x * x:=fun x=>by
  rcases Rat.le_total (a:=0) (b:=x) with z | z
  ·exact Rat.mul_nonneg z z
  ·have:=Rat.mul_nonneg (a:=-x) (b:=-x) (by grind) (by grind)
   grind
 have fin:(0:Rat)<=(o:Rat) * o - 4 * s * n:=by
  rcases yT s0 with z | z
  ·have z:(s:Rat)<0:=Rat.intCast_lt_intCast.mpr z
   have q2:=q h
   have m:=Rat.mul_pos (show (0:Rat) < -(4 * s) by grind) e2
   have:=sq (2 * s * h+o)
   grind
  ·have z:(0:Rat)<s:=Rat.intCast_pos.mpr z
   have q2:=q l
   have m:=Rat.mul_nonneg (show (0:Rat)<=4 * s by grind) (show (0:Rat) <= -((s:Rat) * l * l+o * l+n) by grind)
   have:=sq (2 * s * l+o)
   grind
 refine Rat.intCast_le_intCast.mp ?_
 simp only [Rat.intCast_sub,Rat.intCast_mul]
 exact fin
theorem szv {Z:List Pt}(hc:Ck Z) {v:Pt}(hv:Ar v) {x:Int}(h:∃ q∈Z,vl' v q=x):Sz 140 x:=by
 obtain ⟨q,m,rfl⟩:=h
 exact szM (ZD hv (hc.2.2.2 q m)).1
def Crt (Z:List Pt) (v:Pt) (p r q:Int):Prop:=∃ s o n l h dv:Int,qgf Z v s o n l h dv/\((s=0/\p = -n/\r=0/\q=o)\/(s≠0/\p = -o/\r=o * o - 4 * s * n/\q=2 * s))
def sCrt:SpD:=fun es μ Q=>∃ (Z:List Pt) (v:Pt),es=[.d (hpD Z),.d (ptD v)]/\Ck Z/\Ar v/\∀ p r q:Int,Crt Z v p r q->Q (.d (.tuple [.int p,.int r,.int q])) μ
theorem qgJ:FnScope ["cake", "arrow", "square", "one", "nought", "low", "high"] ["cake", "arrow"] (qt YV):=⟨rfl,rfl,rfl,by decide +kernel,rfl,by decide +kernel,by decide +kernel⟩
theorem qkK {f:Addr}{fd:FuncData}(F:Fun K "cut_root" "cut_root" YV f fd) (hX:NoX CX) (Ocut:Own P w K mg base CX 7 "cut" ["cake", "arrow"] (qW K sCut)):FnOk P w K mg base CX 8 f fd ["cake", "arrow"] (qW K sCrt):=by
 refine F.okD qgJ (fun es μ Q hq0=>by obtain ⟨Z,v,e,_⟩:=hq0;subst e;rfl) (fun cdv A outer s H E es μ Q hr hq0=>?_)
 obtain ⟨Z,v,e,hc,hv,k⟩:=hq0
 subst e
 have nd:=qgJ.nd
 refine ⟨_,(qr (jt (qS Ocut hX (hr.mono (by decide)) rfl (qa (dv 0) (qa (dv 1) qd))) (yP (n:=5) rfl (qv (qw (i:=2) nd rfl (by first | exact Or.inl rfl | exact Or.inr rfl)) (qv (qw (i:=3) nd rfl (by first | exact Or.inl rfl | exact Or.inr rfl)) (qv (qw (i:=4) nd rfl (by first | exact Or.inl rfl | exact Or.inr rfl)) (qv (qw (i:=5) nd rfl (by first | exact Or.inl rfl | exact Or.inr rfl)) (qv (qw (i:=6) nd rfl (by first | exact Or.inl rfl | exact Or.inr rfl)) yk)))))))
   (qr (jS (yj (YC hr.units) (dv 2) qu (qY _)) (qH (qR (yC (qa (YO yO (dv 4)) (qa qu (qa (dv 3) qd)))))) y8)
   (qH (qR (yC (qa (YO yO (dv 3)) (qa (qO yl (qO qA (dv 3) (dv 3)) (qO qA (qO qA qu (dv 2)) (dv 4))) (qa (qO qA qu (dv 2)) qd)))))))),?_⟩
 refine ⟨Z,v,rfl,hc,hv,fun s o n l h dv T=>⟨rfl,jB (fun c=>?_) (fun c=>?_)⟩⟩
 ·have c:s=0:=qy c
  exact ⟨zl3,k _ _ _ ⟨s,o,n,l,h,dv,T,.inl ⟨c,rfl,rfl,rfl⟩⟩⟩
 ·have c:s≠0:=fun z=>c (qm z)
  have ss:=T.2.2.1
  have so:=T.2.2.2.1
  have sn:=T.2.2.2.2.1
  have two:Sz 3 (2:Int):=by unfold Sz;decide
  have four:Sz 3 (4:Int):=by unfold Sz;decide
  exact ⟨yQ so so (by decide),yQ four ss (by decide),yQ (four.mul ss) sn (by decide),yQ two ss (by decide),zl3,k _ _ _ ⟨s,o,n,l,h,dv,T,.inr ⟨c,rfl,rfl,rfl⟩⟩⟩
end
section
variable {P:Program}{w:World}{K:W.Frag}{mg:Str->Option Value}{base:Heap}{CX:CXT}
theorem qbY {Z:List Pt}(h:0<Z.length) (v:Pt) {t:Rat}(hm:∀ q∈Z,t<=((vl' v q:Int):Rat)):Zc Z v t=0:=by
 rw [jK h,<- YY Z.length]
 refine yd fun k hk=>?_
 have u:∀ q∈Z,0<=uQ v.1 v.2 t (pq q):=fun q hq=>by
  have:=hm q hq
  rw [qhI]
  grind
 exact qao _ _ _ (u _ (js hk)) (u _ (js (yp _ h)))
theorem qd6 {Z:List Pt}(h:0<Z.length) (v:Pt) {t:Rat}(hm:∀ q∈Z,((vl' v q:Int):Rat)<=t):Zc Z v t=((vl' v v:Int):Rat) * ((J7 Z:Int):Rat):=by
 have b:=ZY (Z:=Z) h v t
 have z:=qbY (Z:=Z) h (-v.1,-v.2) (t:=-t) fun q hq=>by
  have:=hm q hq
  have e:((vl' (-v.1,-v.2) q:Int):Rat) = -((vl' v q:Int):Rat):=by
   unfold vl'
   simp only [Rat.intCast_add,Rat.intCast_mul,Rat.intCast_neg]
   grind
  rw [e]
  grind
 rw [z] at b
 grind
theorem qaQ {Z:List Pt}(hc:Ck Z) {v:Pt}(hv:Ar v) {t t':Rat}(h:t<t') (f:FF Z v t'<=0):FF Z v t<0:=by
 have l3:=hc.2.1
 have fp:=YK hc hv
 by_cases a:∃ q∈Z,((vl' v q:Int):Rat)<=t
 ·by_cases b:∃ q∈Z,t'<=((vl' v q:Int):Rat)
  ·obtain ⟨q,m,e⟩:=a
   obtain ⟨q',m',e'⟩:=b
   have:=FF_lt hc hv (Z:=Z) (v:=v) (s:=t) (t:=t') ⟨⟨q,m,e⟩,q',m',by grind⟩ ⟨⟨q,m,by grind⟩,q',m',e'⟩ h
   grind
  ·exfalso
   have:=qd6 (Z:=Z) (by omega) v (t:=t') fun q hq=>by
    by_cases z:((vl' v q:Int):Rat)<=t'
    ·exact z
    ·exact absurd ⟨q,hq,by grind⟩ b
   unfold FF at f
   rw [this] at f
   grind
 ·have:=qbY (Z:=Z) (by omega) v (t:=t) fun q hq=>by
   by_cases z:t<=((vl' v q:Int):Rat)
   ·exact z
   ·exact absurd ⟨q,hq,by grind⟩ a
  unfold FF
  rw [this]
  grind
theorem qeX {Z:List Pt}(hc:Ck Z) {v:Pt}(hv:Ar v) {t t':Rat}(h:t'<t) (f:0<=FF Z v t'):0<FF Z v t:=by
 by_cases z:0<FF Z v t
 ·exact z
 ·have:=qaQ hc hv h (by grind)
  grind
theorem qdx {Z:List Pt}(hc:Ck Z) {v:Pt}(hv:Ar v) {s o n l h dv:Int}(T:qgf Z v s o n l h dv) {t:Rat}(a:(l:Rat)<=t->t<h->0<(s:Rat) * t * t+o * t+n) (b:¬ t<l):0<FF Z v t:=by
 obtain ⟨g1,g2⟩:=YD T
 by_cases c:t<h
 ·have p:=a (by grind) c
  rw [j9 T (by grind) (by grind)] at p
  have d0:(0:Rat)<dv:=Rat.intCast_pos.mpr T.2.1
  by_cases z:0<FF Z v t
  ·exact z
  ·have:=Rat.mul_nonneg (Rat.le_of_lt d0) (show 0 <= -FF Z v t by grind)
   grind
 ·by_cases e:t=h
  ·rw [e];exact g2
  ·exact qeX hc hv (show (h:Rat)<t by grind) (by grind)
theorem qar {Z:List Pt}(hc:Ck Z) {v:Pt}(hv:Ar v) {s o n l h dv:Int}(T:qgf Z v s o n l h dv) {t:Rat}(a:(l:Rat)<=t->t<h->(s:Rat) * t * t+o * t+n<0) (b:t<h):FF Z v t<0:=by
 obtain ⟨g1,g2⟩:=YD T
 by_cases c:t<l
 ·exact qaQ hc hv c g1
 ·have p:=a (by grind) b
  rw [j9 T (by grind) (by grind)] at p
  have d0:(0:Rat)<dv:=Rat.intCast_pos.mpr T.2.1
  by_cases z:FF Z v t<0
  ·exact z
  ·have:=Rat.mul_nonneg (Rat.le_of_lt d0) (show 0<=FF Z v t by grind)
   grind
theorem JV {a b:Rat}(h0:0<=a) (h:a<b):a * a<b * b:=by
 have:=Rat.mul_pos (show 0<b - a by grind) (show 0<b+a by grind)
 grind
theorem qaf {a b:Rat}(h0:b<0) (h:a<b):b * b<a * a:=by
 have:=Rat.mul_pos (show 0<b - a by grind) (show 0 < -(b+a) by grind)
 grind
theorem ZW {Z:List Pt}{v:Pt}{p r q:Int}(C:Crt Z v p r q):∃ s o n l h dv:Int,qgf Z v s o n l h dv ∧
  ((r=0/\0<q/\∀ x:Rat,(s:Rat) * x * x+o * x+n=x * q - p)\/(q≠0/\0<=r/\∀ x:Rat,2 * (q:Rat) * ((s:Rat) * x * x+o * x+n)=(x * q - p) * (x * q - p) - r)):=by
 obtain ⟨s,o,n,l,h,dv,T,C⟩:=C
 refine ⟨s,o,n,l,h,dv,T,?_⟩
 rcases C with ⟨rfl,rfl,rfl,rfl⟩ | ⟨s0,rfl,rfl,rfl⟩
 ·refine .inl ⟨rfl,?_,fun x=>?_⟩
  ·obtain ⟨e1,e2⟩:=JT T
   have lt':(l:Rat)<h:=Rat.intCast_lt_intCast.mpr T.1.2.2.1
   have z0:((0:Int):Rat)=0:=rfl
   rw [z0] at e1 e2
   refine Rat.intCast_pos.mp ?_
   by_cases z:(0:Rat)<q
   ·exact z
   ·have:=Rat.mul_nonneg (show (0:Rat) <= -q by grind) (show (0:Rat)<=(h:Rat) - l by grind)
    grind
  ·have z0:((0:Int):Rat)=0:=rfl
   rw [z0,Rat.intCast_neg]
   grind
 ·refine .inr ⟨by omega,qiZ T s0,fun x=>?_⟩
  simp only [Rat.intCast_mul,Rat.intCast_sub,Rat.intCast_neg]
  have c2:((2:Int):Rat)=2:=rfl
  have c4:((4:Int):Rat)=4:=rfl
  rw [c2,c4]
  grind
theorem YU {q P d:Rat}(e:2 * q * P=d):(0<q->((0<d->0<P)/\(d<0->P<0)/\(P<=0->d<=0)/\(0<P->0<d)))/\(q<0->((0<d->P<0)/\(d<0->0<P)/\(P<=0->0<=d)/\(0<P->d<0))):=by
 refine ⟨fun hq=>⟨fun h=>?_,fun h=>?_,fun h=>?_,fun h=>?_⟩,fun hq=>⟨fun h=>?_,fun h=>?_,fun h=>?_,fun h=>?_⟩⟩
 ·by_cases z:0<P
  ·exact z
  ·have:=Rat.mul_nonneg (Rat.le_of_lt hq) (show 0 <= -P by grind);grind
 ·by_cases z:P<0
  ·exact z
  ·have:=Rat.mul_nonneg (Rat.le_of_lt hq) (show 0<=P by grind);grind
 ·have:=Rat.mul_nonneg (Rat.le_of_lt hq) (show 0 <= -P by grind);grind
 ·have:=Rat.mul_pos hq h;grind
 ·by_cases z:P<0
  ·exact z
  ·have:=Rat.mul_nonneg (show 0 <= -q by grind) (show 0<=P by grind);grind
 ·by_cases z:0<P
  ·exact z
  ·have:=Rat.mul_nonneg (show 0 <= -q by grind) (show 0 <= -P by grind);grind
 ·have:=Rat.mul_nonneg (show 0 <= -q by grind) (show 0 <= -P by grind);grind
 ·have:=Rat.mul_pos (show 0 < -q by grind) h;grind
theorem qcp {q:Rat}{x y p:Rat}(h:x<y):(0<q->x * q - p<y * q - p)/\(q<0->y * q - p<x * q - p):=by
 constructor <;> intro hq
 ·have:=Rat.mul_pos hq (show 0<y - x by grind);grind
 ·have:=Rat.mul_pos (show 0 < -q by grind) (show 0<y - x by grind);grind
theorem qhQ {q p y:Rat}(q0:q≠0):∃ t,t * q - p=y:=⟨(p+y) / q,by
 have:(p+y) / q * q=p+y:=by grind
 grind⟩
theorem Zs {Z:List Pt}(hc:Ck Z) {v:Pt}(hv:Ar v) {p r q:Int}(C:Crt Z v p r q) {ρ e t:Rat}(n0:0<=ρ) (e0:0<e) (h1:ρ * ρ<=r) (h2:(r:Rat)<(ρ+e) * (ρ+e)) (h:(0<q/\ρ+e<=t * q - p)\/(q<0/\t * q - p<ρ)):0<FF Z v t:=by
 obtain ⟨s,o,n,l,hh,dv,T,C⟩:=ZW C
 obtain ⟨k1,k2⟩:=JT T
 have lt':(l:Rat)<hh:=Rat.intCast_lt_intCast.mpr T.1.2.2.1
 rcases C with ⟨rfl,q0,id0⟩ | ⟨q0,r0,id0⟩
 ·have q0':(0:Rat)<q:=Rat.intCast_pos.mpr q0
  rcases h with ⟨_,h⟩ | ⟨z,_⟩
  ·refine qdx hc hv T (fun _ _=>by rw [id0];grind) fun z=>?_
   have:=(qcp (p:=(p:Rat)) z).1 q0'
   rw [id0] at k1
   grind
  ·omega
 ·have sl:=YU (id0 l)
  have sh:=YU (id0 hh)
  have st:=YU (id0 t)
  rcases h with ⟨hq,h⟩ | ⟨hq,h⟩
  ·have hq':(0:Rat)<q:=Rat.intCast_pos.mpr hq
   have c2:(r:Rat)<(t * q - p) * (t * q - p):=by
    by_cases z:ρ+e=t * q - p
    ·rw [<- z];exact h2
    ·have:=JV (show 0<=ρ+e by grind) (show ρ+e<t * q - p by grind)
     grind
   refine qdx hc hv T (fun _ _=>(st.1 hq').1 (by grind)) fun z=>?_
   have a:=(qcp (p:=(p:Rat)) z).1 hq'
   have b:=JV (show 0<=t * q - p by grind) a
   have:=(sl.1 hq').2.2.1 k1
   grind
  ·have hq':(q:Rat)<0:=Rat.intCast_lt_intCast.mpr hq
   have b2:=(sh.2 hq').2.2.2 k2
   have a2:=(sl.2 hq').2.2.1 k1
   refine qdx hc hv T (fun _ th=>(st.2 hq').2.1 ?_) fun z=>?_
   ·by_cases c:0<=t * q - p
    ·have:=JV c h
     grind
    ·have a:=(qcp (p:=(p:Rat)) th).2 hq'
     have:=qaf (show t * q - p<0 by grind) a
     grind
   ·have a:=(qcp (p:=(p:Rat)) z).2 hq'
    have b:=(qcp (p:=(p:Rat)) lt').2 hq'
    by_cases c:0<=(l:Rat) * q - p
    ·have:=JV c (show (l:Rat) * q - p<ρ by grind)
     grind
    ·have:=qaf (show (l:Rat) * q - p<0 by grind) b
     grind
theorem Zt {Z:List Pt}(hc:Ck Z) {v:Pt}(hv:Ar v) {p r q:Int}(C:Crt Z v p r q) {ρ e t:Rat}(n0:0<=ρ) (e0:0<e) (h1:ρ * ρ<=r) (h2:(r:Rat)<(ρ+e) * (ρ+e)) (h:(0<q/\t * q - p<ρ)\/(q<0/\ρ+e<=t * q - p)):FF Z v t<0:=by
 obtain ⟨s,o,n,l,hh,dv,T,C⟩:=ZW C
 obtain ⟨k1,k2⟩:=JT T
 have lt':(l:Rat)<hh:=Rat.intCast_lt_intCast.mpr T.1.2.2.1
 rcases C with ⟨rfl,q0,id0⟩ | ⟨q0,r0,id0⟩
 ·have q0':(0:Rat)<q:=Rat.intCast_pos.mpr q0
  have z0:((0:Int):Rat)=0:=rfl
  rcases h with ⟨_,h⟩ | ⟨z,_⟩
  ·have rz:ρ=0:=by
    by_cases z:ρ=0
    ·exact z
    ·have:=Rat.mul_pos (show 0<ρ by grind) (show 0<ρ by grind)
     grind
   refine qar hc hv T (fun _ _=>by rw [id0];grind) ?_
   by_cases z:t<hh
   ·exact z
   ·rw [id0] at k2
    by_cases y:t=hh
    ·rw [y] at h;grind
    ·have:=(qcp (p:=(p:Rat)) (show (hh:Rat)<t by grind)).1 q0'
     grind
  ·omega
 ·have sl:=YU (id0 l)
  have sh:=YU (id0 hh)
  have st:=YU (id0 t)
  rcases h with ⟨hq,h⟩ | ⟨hq,h⟩
  ·have hq':(0:Rat)<q:=Rat.intCast_pos.mpr hq
   have a2:=(sl.1 hq').2.2.1 k1
   have b2:=(sh.1 hq').2.2.2 k2
   have ab:=(qcp (p:=(p:Rat)) lt').1 hq'
   have th:t<hh:=by
    by_cases z:t<hh
    ·exact z
    ·have bt:(hh:Rat) * q - p<=t * q - p:=by
      by_cases y:t=hh
      ·rw [y];exact Rat.le_refl
      ·have:=(qcp (p:=(p:Rat)) (show (hh:Rat)<t by grind)).1 hq'
       grind
     by_cases c:0<=(hh:Rat) * q - p
     ·have:=JV c (show (hh:Rat) * q - p<ρ by grind)
      grind
     ·have:=qaf (show (hh:Rat) * q - p<0 by grind) ab
      grind
   by_cases tl:t<l
   ·exact qar hc hv T (fun z _=>by grind) th
   have at':(l:Rat) * q - p<=t * q - p:=by
    by_cases y:t=l
    ·rw [y];exact Rat.le_refl
    ·have:=(qcp (p:=(p:Rat)) (show (l:Rat)<t by grind)).1 hq'
     grind
   have cr:(t * q - p) * (t * q - p)<=r:=by
    by_cases c:0<=t * q - p
    ·have:=JV c h
     grind
    ·by_cases y:(l:Rat) * q - p=t * q - p
     ·rw [<- y];grind
     ·have:=qaf (show t * q - p<0 by grind) (show (l:Rat) * q - p<t * q - p by grind)
      grind
   by_cases ce:(t * q - p) * (t * q - p)=r
   ·-- the lower root: then it would not rise
    exfalso
    have cn:t * q - p<0:=by
     by_cases c:0<=t * q - p
     ·have:=JV c h
      grind
     ·grind
    obtain ⟨t',et⟩:∃ t':Rat,t' * q - p=(t * q - p) / 2:=qhQ (Rat.ne_of_gt hq')
    have lt2:t<t':=by
     by_cases z:t<t'
     ·exact z
     ·by_cases y:t=t'
      ·rw [<- y] at et;grind
      ·have:=(qcp (p:=(p:Rat)) (show t'<t by grind)).1 hq'
       grind
    have t'h:t'<hh:=by
     by_cases z:t'<hh
     ·exact z
     ·have x1:=(qcp (p:=(p:Rat)) th).1 hq'
      have x2:(hh:Rat) * q - p<=t' * q - p:=by
       by_cases y:t'=hh
       ·rw [y];exact Rat.le_refl
       ·have:=(qcp (p:=(p:Rat)) (show (hh:Rat)<t' by grind)).1 hq'
        grind
      have:=qaf (show (hh:Rat) * q - p<0 by grind) x1
      grind
    have st':=YU (id0 t')
    have c3:(t' * q - p) * (t' * q - p)<r:=by
     rw [et,<- ce]
     have:=Rat.mul_pos (show 0 < -(t * q - p) by grind) (show 0 < -(t * q - p) by grind)
     grind
    have ng:=qar hc hv T (fun _ _=>(st'.1 hq').2.1 (by grind)) t'h
    have pz:(s:Rat) * t * t+o * t+n=0:=by
     have:=id0 t
     rw [ce] at this
     have:2 * (q:Rat) * ((s:Rat) * t * t+o * t+n)=0:=by grind
     rcases Rat.mul_eq_zero.mp this with y | y
     ·grind
     ·exact y
    rw [j9 T (by grind) (by grind)] at pz
    have d0:(0:Rat)<dv:=Rat.intCast_pos.mpr T.2.1
    have fz:FF Z v t=0:=by
     rcases Rat.mul_eq_zero.mp pz with y | y
     ·grind
     ·exact y
    have:=qeX hc hv lt2 (by rw [fz];exact Rat.le_refl)
    grind
   ·exact qar hc hv T (fun _ _=>(st.1 hq').2.1 (by grind)) th
  ·have hq':(q:Rat)<0:=Rat.intCast_lt_intCast.mpr hq
   have b2:=(sh.2 hq').2.2.2 k2
   have c2:(r:Rat)<(t * q - p) * (t * q - p):=by
    by_cases z:ρ+e=t * q - p
    ·rw [<- z];exact h2
    ·have:=JV (show 0<=ρ+e by grind) (show ρ+e<t * q - p by grind)
     grind
   refine qar hc hv T (fun _ _=>(st.2 hq').1 (by grind)) ?_
   by_cases z:t<hh
   ·exact z
   ·by_cases y:t=hh
    ·rw [y] at c2;grind
    ·have a:=(qcp (p:=(p:Rat)) (show (hh:Rat)<t by grind)).2 hq'
     have:=JV (show 0<=t * q - p by grind) a
     grind
end
section
variable {P:Program}{w:World}{K:W.Frag}{mg:Str->Option Value}{base:Heap}{CX:CXT}
theorem qio {Z:List Pt}(hc:Ck Z) {v:Pt}(hv:Ar v) {p r q:Int}(C:Crt Z v p r q) {t:Rat}(f:0<FF Z v t):∃ t0,t0<t/\0<FF Z v t0:=by
 obtain ⟨s,o,n,l,h,dv,T,_⟩:=C
 obtain ⟨g1,g2⟩:=YD T
 have d0:(0:Rat)<dv:=Rat.intCast_pos.mpr T.2.1
 by_cases c:(h:Rat)<t
 ·exact ⟨h,c,g2⟩
 have lt:(l:Rat)<t:=by
  by_cases z:(l:Rat)<t
  ·exact z
  ·by_cases y:t=l
   ·rw [y] at f;grind
   ·have:=qaQ hc hv (show t<(l:Rat) by grind) g1
    grind
 have pt:=j9 T (t:=t) (by grind) (by grind)
 have p0:=Rat.mul_pos d0 f
 obtain ⟨P,eP⟩:∃ P:Rat,P=(s:Rat) * t * t+o * t+n:=⟨_,rfl⟩
 have P0:0<P:=by rw [eP,pt];exact p0
 obtain ⟨M,eM⟩:∃ M:Rat,M=(2 * (s:Rat) * t+o) * (2 * (s:Rat) * t+o)+1+((s:Rat) * s+1) * (t - l):=⟨_,rfl⟩
 have s2:=qjm (2 * (s:Rat) * t+o)
 have s3:=qjm (s:Rat)
 have sl:∀ x:Rat,x<=x * x+1:=fun x=>by
  have:=qjm (x - 1 / 2)
  grind
 have m2:=Rat.mul_nonneg (show (0:Rat)<=(s:Rat) * s+1 by grind) (show (0:Rat)<=t - l by grind)
 have M0:0<M:=by rw [eM];grind
 -- a step of δ loses no more than δ M
 have key:∀ δ:Rat,0<δ->δ<=t - l->P - δ * M<=(s:Rat) * (t - δ) * (t - δ)+o * (t - δ)+n:=fun δ a b=>by
  have x1:=sl (2 * (s:Rat) * t+o)
  have x2:=sl (-(s:Rat))
  have x3:=Rat.mul_nonneg (show (0:Rat)<=(s:Rat) * s+1+s by grind) (Rat.le_of_lt a)
  have x4:=Rat.mul_nonneg (show (0:Rat)<=(s:Rat) * s+1 by grind) (show (0:Rat)<=t - l - δ by grind)
  have x5:2 * (s:Rat) * t+o - s * δ<=M:=by rw [eM];grind
  have x6:=Rat.mul_nonneg (Rat.le_of_lt a) (show (0:Rat)<=M - (2 * (s:Rat) * t+o - s * δ) by grind)
  rw [eP]
  grind
 have fin:∀ δ:Rat,0<δ->δ<=t - l->δ * M<=P / 2->∃ t0,t0<t/\0<FF Z v t0:=fun δ a b c2=>by
  refine ⟨t - δ,by grind,?_⟩
  have k:=key δ a b
  rw [j9 T (t:=t - δ) (by grind) (by grind)] at k
  by_cases z:0<FF Z v (t - δ)
  ·exact z
  ·have:=Rat.mul_nonneg (Rat.le_of_lt d0) (show 0 <= -FF Z v (t - δ) by grind)
   grind
 by_cases z:(t - l) * M<=P / 2
 ·exact fin (t - l) (by grind) Rat.le_refl z
 ·have e:P / (2 * M) * M=P / 2:=by grind
  have pos:0<P / (2 * M):=by
   by_cases y:0<P / (2 * M)
   ·exact y
   ·have:=Rat.mul_nonneg (show 0 <= -(P / (2 * M)) by grind) (Rat.le_of_lt M0)
    grind
  refine fin (P / (2 * M)) pos ?_ (by rw [e];exact Rat.le_refl)
  by_cases y:P / (2 * M)<=t - l
  ·exact y
  ·have:=Rat.mul_pos (show 0<P / (2 * M) - (t - l) by grind) M0
   grind
def LtC (Z1 Z2:List Pt) (v:Pt):Prop:=∃ t:Rat,0<FF Z1 v t/\FF Z2 v t<0
def LtW (Z1 Z2:List Pt) (v:Pt):Prop:=∃ t:Rat,0<FF Z1 v t/\FF Z2 v t<=0
def Ord (Z1 Z2:List Pt) (v:Pt) (k:Int):Prop:=(k = -1/\LtC Z1 Z2 v)\/(k=1/\LtC Z2 Z1 v)\/(k=0/\¬ LtW Z1 Z2 v/\¬ LtW Z2 Z1 v)
theorem qfQ {X c e:Rat}(c0:0<c) (h:c * e<=X * c):e<=X:=by
 by_cases z:e<=X
 ·exact z
 ·have:=Rat.mul_pos c0 (show 0<e - X by grind)
  grind
theorem qbR {X c:Rat}(c0:0<c) (h:X * c<0):X<0:=by
 by_cases z:X<0
 ·exact z
 ·have:=Rat.mul_nonneg (show 0<=X by grind) (Rat.le_of_lt c0)
  grind
theorem qcy {Z:List Pt}{v:Pt}{p r q:Int}(C:Crt Z v p r q):q≠0/\0<=r:=by
 obtain ⟨s,o,n,l,h,dv,T,C⟩:=ZW C
 rcases C with ⟨rfl,q0,_⟩ | ⟨q0,r0,_⟩
 ·exact ⟨by omega,by decide⟩
 ·exact ⟨q0,r0⟩
theorem qfJ {Z1 Z2:List Pt}(c1:Ck Z1) (c2:Ck Z2) {v:Pt}(hv:Ar v) {p r q g s h:Int}(C1:Crt Z1 v p r q) (C2:Crt Z2 v g s h) {ρ σ:Jj}(R1:Rt r ρ) (R2:Rt s σ)
  (H:(0<q * h/\Yu (fun n=>-(((p * h - g * q:Int):Rat)+h * ρ n+((-q:Int):Rat) * σ n)))\/(q * h<0/\Yu (fun n=>((p * h - g * q:Int):Rat)+h * ρ n+((-q:Int):Rat) * σ n))):LtC Z1 Z2 v:=by
 obtain ⟨q0,_⟩:=qcy C1
 obtain ⟨h0,_⟩:=qcy C2
 have q0':=ji q0
 have h0':=ji h0
 obtain ⟨ε,e0,N,hN⟩:∃ ε,0<ε/\∃ N,∀ n,N<=n->(0<q * h/\ε <= -(((p * h - g * q:Int):Rat)+h * ρ n+((-q:Int):Rat) * σ n))\/(q * h<0/\ε<=((p * h - g * q:Int):Rat)+h * ρ n+((-q:Int):Rat) * σ n):=by
  rcases H with ⟨a,ε,e0,N,hN⟩ | ⟨a,ε,e0,N,hN⟩
  ·exact ⟨ε,e0,N,fun n hn=>.inl ⟨a,hN n hn⟩⟩
  ·exact ⟨ε,e0,N,fun n hn=>.inr ⟨a,hN n hn⟩⟩
 obtain ⟨N1,k1⟩:=jr (2 * ((h:Rat) * h+1)) e0
 obtain ⟨N2,k2⟩:=jr (2 * ((q:Rat) * q+1)) e0
 have hn:=hN (N+N1+N2) (by omega)
 have k1:=k1 (N+N1+N2) (by omega)
 have k2:=k2 (N+N1+N2) (by omega)
 have e1:=jf (N+N1+N2)
 have a1:=R1.nn (N+N1+N2)
 have a2:=R1.le (N+N1+N2)
 have a3:=R1.lt (N+N1+N2)
 have b1:=R2.nn (N+N1+N2)
 have b2:=R2.le (N+N1+N2)
 have b3:=R2.lt (N+N1+N2)
 generalize ρ (N+N1+N2)=x at *
 generalize σ (N+N1+N2)=y at *
 generalize yW (N+N1+N2)=e at *
 have sl:∀ z:Rat,z<=z * z+1/\-z<=z * z+1:=fun z=>by
  have:=qjm (z - 1 / 2)
  have:=qjm (z+1 / 2)
  constructor <;> grind
 have m1:=Rat.mul_nonneg (Rat.le_of_lt e1) (show (0:Rat)<=(h:Rat) * h+1 - h by have:=(sl h).1;grind)
 have m2:=Rat.mul_nonneg (Rat.le_of_lt e1) (show (0:Rat)<=(h:Rat) * h+1+h by have:=(sl h).2;grind)
 have m3:=Rat.mul_nonneg (Rat.le_of_lt e1) (show (0:Rat)<=(q:Rat) * q+1 - q by have:=(sl q).1;grind)
 have m4:=Rat.mul_nonneg (Rat.le_of_lt e1) (show (0:Rat)<=(q:Rat) * q+1+q by have:=(sl q).2;grind)
 obtain ⟨E,eE⟩:∃ E:Rat,E=((p * h - g * q:Int):Rat)+h * x+((-q:Int):Rat) * y:=⟨_,rfl⟩
 rw [<- eE] at hn
 simp only [Rat.intCast_sub,Rat.intCast_mul,Rat.intCast_neg] at eE
 obtain ⟨t,et⟩:∃ t:Rat,t * (2 * q * h)=((p:Rat)+x) * h+((g:Rat)+y) * q:=⟨(((p:Rat)+x) * h+((g:Rat)+y) * q) / (2 * q * h),by
  have:(2:Rat) * q * h≠0:=by
   intro z
   rcases Rat.mul_eq_zero.mp z with y | y
   ·grind
   ·exact h0' y
  grind⟩
 have X:(t * q - p - x) * (2 * h) = -E:=by rw [eE];grind
 have Y:(t * h - g - y) * (2 * q)=E:=by rw [eE];grind
 rcases yT q0 with qs | qs <;> rcases yT h0 with hs | hs
 ·have qs':(q:Rat)<0:=Rat.intCast_lt_intCast.mpr qs
  have hs':(h:Rat)<0:=Rat.intCast_lt_intCast.mpr hs
  have qh:0<q * h:=by have:=yM (a:=-q) (b:=-h) (by omega) (by omega);rwa [Int.neg_mul_neg] at this
  rcases hn with ⟨_,hn⟩ | ⟨z,_⟩
  ·refine ⟨t,Zs c1 hv C1 a1 e1 a2 a3 (.inr ⟨qs,?_⟩),Zt c2 hv C2 b1 e1 b2 b3 (.inr ⟨hs,?_⟩)⟩
   ·have:=qbR (X:=t * q - p - x) (c:=-(2 * (h:Rat))) (by grind) (by grind)
    grind
   ·have:=qfQ (X:=t * h - g - y) (c:=-(2 * (q:Rat))) (e:=e) (by grind) (by grind)
    grind
  ·omega
 ·have qs':(q:Rat)<0:=Rat.intCast_lt_intCast.mpr qs
  have hs':(0:Rat)<h:=Rat.intCast_pos.mpr hs
  have qh:q * h<0:=by have:=yM (a:=-q) (b:=h) (by omega) (by omega);rw [Int.neg_mul] at this;omega
  rcases hn with ⟨z,_⟩ | ⟨_,hn⟩
  ·omega
  ·refine ⟨t,Zs c1 hv C1 a1 e1 a2 a3 (.inr ⟨qs,?_⟩),Zt c2 hv C2 b1 e1 b2 b3 (.inl ⟨hs,?_⟩)⟩
   ·have:=qbR (X:=t * q - p - x) (c:=2 * (h:Rat)) (by grind) (by grind)
    grind
   ·have:=qbR (X:=t * h - g - y) (c:=-(2 * (q:Rat))) (by grind) (by grind)
    grind
 ·have qs':(0:Rat)<q:=Rat.intCast_pos.mpr qs
  have hs':(h:Rat)<0:=Rat.intCast_lt_intCast.mpr hs
  have qh:q * h<0:=by have:=yM (a:=q) (b:=-h) (by omega) (by omega);rw [Int.mul_neg] at this;omega
  rcases hn with ⟨z,_⟩ | ⟨_,hn⟩
  ·omega
  ·refine ⟨t,Zs c1 hv C1 a1 e1 a2 a3 (.inl ⟨qs,?_⟩),Zt c2 hv C2 b1 e1 b2 b3 (.inr ⟨hs,?_⟩)⟩
   ·have:=qfQ (X:=t * q - p - x) (c:=-(2 * (h:Rat))) (e:=e) (by grind) (by grind)
    grind
   ·have:=qfQ (X:=t * h - g - y) (c:=2 * (q:Rat)) (e:=e) (by grind) (by grind)
    grind
 ·have qs':(0:Rat)<q:=Rat.intCast_pos.mpr qs
  have hs':(0:Rat)<h:=Rat.intCast_pos.mpr hs
  have qh:0<q * h:=yM qs hs
  rcases hn with ⟨_,hn⟩ | ⟨z,_⟩
  ·refine ⟨t,Zs c1 hv C1 a1 e1 a2 a3 (.inl ⟨qs,?_⟩),Zt c2 hv C2 b1 e1 b2 b3 (.inl ⟨hs,?_⟩)⟩
   ·have:=qfQ (X:=t * q - p - x) (c:=2 * (h:Rat)) (e:=e) (by grind) (by grind)
    grind
   ·have:=qbR (X:=t * h - g - y) (c:=2 * (q:Rat)) (by grind) (by grind)
    grind
  ·omega
theorem not_lt {Z1 Z2:List Pt}(c1:Ck Z1) (c2:Ck Z2) {v:Pt}(hv:Ar v) {p r q g s h:Int}(C1:Crt Z1 v p r q) (C2:Crt Z2 v g s h) {ρ σ:Jj}(R1:Rt r ρ) (R2:Rt s σ)
  (H:Zf (fun n=>((p * h - g * q:Int):Rat)+h * ρ n+((-q:Int):Rat) * σ n)):¬ LtW Z1 Z2 v:=by
 rintro ⟨t,f1,f2⟩
 obtain ⟨t0,lt0,f0⟩:=qio c1 hv C1 f1
 obtain ⟨q0,_⟩:=qcy C1
 obtain ⟨h0,_⟩:=qcy C2
 obtain ⟨D,d0,hD⟩:=H
 -- what stands between
 obtain ⟨G,eG⟩:∃ G:Rat,G=t - t0:=⟨_,rfl⟩
 have G0:0<G:=by grind
 have hh:∀ n,(((p * h - g * q:Int):Rat)+h * ρ n+((-q:Int):Rat) * σ n<=D * yW n/\-(D * yW n)<=((p * h - g * q:Int):Rat)+h * ρ n+((-q:Int):Rat) * σ n)/\(0<q->ρ n<=t0 * q - p)/\(q<0->t0 * q - p<ρ n+yW n)/\(0<h->t * h - g<σ n+yW n)/\(h<0->σ n<=t * h - g):=fun n=>by
  refine ⟨hD n,fun z=>?_,fun z=>?_,fun z=>?_,fun z=>?_⟩
  ·by_cases y:ρ n<=t0 * q - p
   ·exact y
   ·have:=Zt (t:=t0) c1 hv C1 (R1.nn n) (jf n) (R1.le n) (R1.lt n) (.inl ⟨z,by grind⟩)
    grind
  ·by_cases y:t0 * q - p<ρ n+yW n
   ·exact y
   ·have:=Zt (t:=t0) c1 hv C1 (R1.nn n) (jf n) (R1.le n) (R1.lt n) (.inr ⟨z,by grind⟩)
    grind
  ·by_cases y:t * h - g<σ n+yW n
   ·exact y
   ·have:=Zs (t:=t) c2 hv C2 (R2.nn n) (jf n) (R2.le n) (R2.lt n) (.inl ⟨z,by grind⟩)
    grind
  ·by_cases y:σ n<=t * h - g
   ·exact y
   ·have:=Zs (t:=t) c2 hv C2 (R2.nn n) (jf n) (R2.le n) (R2.lt n) (.inr ⟨z,by grind⟩)
    grind
 rcases yT q0 with qs | qs <;> rcases yT h0 with hs | hs
 ·have qs':(q:Rat)<0:=Rat.intCast_lt_intCast.mpr qs
  have hs':(h:Rat)<0:=Rat.intCast_lt_intCast.mpr hs
  have w:=Rat.mul_pos (Rat.mul_pos (show (0:Rat) < -q by grind) (show (0:Rat) < -h by grind)) G0
  obtain ⟨N,k⟩:=jr (D - h) (δ:=(-(q:Rat)) * (-h) * G / 2) (by grind)
  have k:=k N (qj _)
  obtain ⟨⟨_,h2⟩,_,h3,_,h4⟩:=hh N
  have h3:=Rat.mul_nonneg (show (0:Rat) <= -h by grind) (show (0:Rat)<=ρ N+yW N - (t0 * q - p) by have:=h3 qs;grind)
  have h4:=Rat.mul_nonneg (show (0:Rat) <= -q by grind) (show (0:Rat)<=t * h - g - σ N by have:=h4 hs;grind)
  simp only [Rat.intCast_sub,Rat.intCast_mul,Rat.intCast_neg] at h2
  rw [eG] at w k
  grind
 ·have qs':(q:Rat)<0:=Rat.intCast_lt_intCast.mpr qs
  have hs':(0:Rat)<h:=Rat.intCast_pos.mpr hs
  have w:=Rat.mul_pos (Rat.mul_pos (show (0:Rat) < -q by grind) hs') G0
  obtain ⟨N,k⟩:=jr (D+h - q) (δ:=(-(q:Rat)) * h * G / 2) (by grind)
  have k:=k N (qj _)
  obtain ⟨⟨h2,_⟩,_,h3,h4,_⟩:=hh N
  have h3:=Rat.mul_nonneg (Rat.le_of_lt hs') (show (0:Rat)<=ρ N+yW N - (t0 * q - p) by have:=h3 qs;grind)
  have h4:=Rat.mul_nonneg (show (0:Rat) <= -q by grind) (show (0:Rat)<=σ N+yW N - (t * h - g) by have:=h4 hs;grind)
  simp only [Rat.intCast_sub,Rat.intCast_mul,Rat.intCast_neg] at h2
  rw [eG] at w k
  grind
 ·have qs':(0:Rat)<q:=Rat.intCast_pos.mpr qs
  have hs':(h:Rat)<0:=Rat.intCast_lt_intCast.mpr hs
  have w:=Rat.mul_pos (Rat.mul_pos qs' (show (0:Rat) < -h by grind)) G0
  obtain ⟨N,k⟩:=jr D (δ:=(q:Rat) * (-h) * G / 2) (by grind)
  have k:=k N (qj _)
  obtain ⟨⟨h2,_⟩,h3,_,_,h4⟩:=hh N
  have h3:=Rat.mul_nonneg (show (0:Rat) <= -h by grind) (show (0:Rat)<=t0 * q - p - ρ N by have:=h3 qs;grind)
  have h4:=Rat.mul_nonneg (Rat.le_of_lt qs') (show (0:Rat)<=t * h - g - σ N by have:=h4 hs;grind)
  simp only [Rat.intCast_sub,Rat.intCast_mul,Rat.intCast_neg] at h2
  rw [eG] at w k
  grind
 ·have qs':(0:Rat)<q:=Rat.intCast_pos.mpr qs
  have hs':(0:Rat)<h:=Rat.intCast_pos.mpr hs
  have w:=Rat.mul_pos (Rat.mul_pos qs' hs') G0
  obtain ⟨N,k⟩:=jr (D+q) (δ:=(q:Rat) * h * G / 2) (by grind)
  have k:=k N (qj _)
  obtain ⟨⟨_,h2⟩,h3,_,h4,_⟩:=hh N
  have h3:=Rat.mul_nonneg (Rat.le_of_lt hs') (show (0:Rat)<=t0 * q - p - ρ N by have:=h3 qs;grind)
  have h4:=Rat.mul_nonneg (Rat.le_of_lt qs') (show (0:Rat)<=σ N+yW N - (t * h - g) by have:=h4 hs;grind)
  simp only [Rat.intCast_sub,Rat.intCast_mul,Rat.intCast_neg] at h2
  rw [eG] at w k
  grind
end
section
variable {P:Program}{w:World}{K:W.Frag}{mg:Str->Option Value}{base:Heap}{CX:CXT}
theorem qho {Z:List Pt}{v:Pt}{p r q:Int}(C:Crt Z v p r q):Sz 17010 r/\Sz 8510 p/\Sz 8510 q:=by
 obtain ⟨s,o,n,l,h,dv,T,C⟩:=C
 have two:Sz 3 (2:Int):=by unfold Sz;decide
 have four:Sz 3 (4:Int):=by unfold Sz;decide
 have ss:=T.2.2.1
 have so:=T.2.2.2.1
 have sn:=T.2.2.2.2.1
 rcases C with ⟨rfl,rfl,rfl,rfl⟩ | ⟨s0,rfl,rfl,rfl⟩
 ·exact ⟨Sz.mono (j:=1) (by decide) (by unfold Sz;decide),sn.neg.mono (by decide),so.mono (by decide)⟩
 ·refine ⟨(Sz.sub (k:=17005) ((so.mul so).mono (by decide)) (((four.mul ss).mul sn).mono (by decide))).mono (by decide),so.neg.mono (by decide),(two.mul ss).mono (by decide)⟩
theorem Ym {Z1 Z2:List Pt}(c1:Ck Z1) (c2:Ck Z2) {v:Pt}(hv:Ar v) (a:LtC Z1 Z2 v) (b:LtW Z2 Z1 v):False:=by
 obtain ⟨t,f1,f2⟩:=a
 obtain ⟨t',g2,g1⟩:=b
 have x1:t'<t:=by
  by_cases z:t'<t
  ·exact z
  ·by_cases y:t=t'
   ·rw [y] at f1;grind
   ·have:=qaQ c1 hv (show t<t' by grind) g1
    grind
 have:=qeX c2 hv x1 (by grind)
 grind
theorem Zj {Z1 Z2:List Pt}{v:Pt}(a:LtC Z1 Z2 v):LtW Z1 Z2 v:=by
 obtain ⟨t,f1,f2⟩:=a
 exact ⟨t,f1,by grind⟩
theorem Jx {Z1 Z2:List Pt}(c1:Ck Z1) (c2:Ck Z2) {v:Pt}(hv:Ar v) {k k':Int}(a:Ord Z1 Z2 v k) (b:Ord Z1 Z2 v k'):k=k':=by
 rcases a with ⟨rfl,a⟩ | ⟨rfl,a⟩ | ⟨rfl,a1,a2⟩ <;> rcases b with ⟨rfl,b⟩ | ⟨rfl,b⟩ | ⟨rfl,b1,b2⟩
 ·rfl
 ·exact (Ym c1 c2 hv a (Zj b)).elim
 ·exact (b1 (Zj a)).elim
 ·exact (Ym c1 c2 hv b (Zj a)).elim
 ·rfl
 ·exact (b2 (Zj a)).elim
 ·exact (a1 (Zj b)).elim
 ·exact (a2 (Zj b)).elim
 ·rfl
theorem Jy {Z1 Z2:List Pt}{v:Pt}{k:Int}(a:Ord Z1 Z2 v k):Ord Z2 Z1 v (-k):=by
 rcases a with ⟨rfl,a⟩ | ⟨rfl,a⟩ | ⟨rfl,a1,a2⟩
 ·exact .inr (.inl ⟨rfl,a⟩)
 ·exact .inl ⟨rfl,a⟩
 ·exact .inr (.inr ⟨rfl,a2,a1⟩)
theorem qeW {Z:List Pt}(h:0<Z.length) (v:Pt) (t:Rat):FF Z (-v.1,-v.2) (-t) = -FF Z v t:=by
 have b:=ZY (Z:=Z) h v t
 have e:vl' (-v.1,-v.2) (-v.1,-v.2)=vl' v v:=by
  unfold vl'
  dsimp only
  rw [Int.neg_mul_neg,Int.neg_mul_neg]
 unfold FF
 rw [e]
 grind
theorem qkm {Z1 Z2:List Pt}(c1:Ck Z1) (c2:Ck Z2) {v:Pt}(hv:Ar v) {p r q g s h:Int}(C1:Crt Z1 v p r q) (C2:Crt Z2 v g s h):Ord Z1 Z2 v ((q * h).sign * trs (p * h - g * q) h r (-q) s):=by
 obtain ⟨q0,r0⟩:=qcy C1
 obtain ⟨h0,s0⟩:=qcy C2
 obtain ⟨ρ,R1⟩:=qjP r0
 obtain ⟨σ,R2⟩:=qjP s0
 have S:=qjy R1 R2 r0 s0 (p * h - g * q) h (-q)
 generalize trs (p * h - g * q) h r (-q) s=k at S
 have S:SSg (fun n=>((p * h - g * q:Int):Rat)+h * ρ n+((-q:Int):Rat) * σ n) k:=S
 have qh:q * h≠0:=Int.mul_ne_zero q0 h0
 have swap:(fun n=>((g * q - p * h:Int):Rat)+q * σ n+((-h:Int):Rat) * ρ n)=fun n=>-(((p * h - g * q:Int):Rat)+h * ρ n+((-q:Int):Rat) * σ n):=funext fun n=>by
  simp only [Rat.intCast_sub,Rat.intCast_mul,Rat.intCast_neg]
  grind
 have neg2:(fun n=>-(((g * q - p * h:Int):Rat)+q * σ n+((-h:Int):Rat) * ρ n))=fun n=>((p * h - g * q:Int):Rat)+h * ρ n+((-q:Int):Rat) * σ n:=funext fun n=>by
  simp only [Rat.intCast_sub,Rat.intCast_mul,Rat.intCast_neg]
  grind
 rcases S with ⟨rfl,S'⟩ | ⟨rfl,S'⟩ | ⟨rfl,S'⟩
 ·rcases yT qh with z | z
  ·rw [jk z]
   exact .inl ⟨rfl,qfJ c1 c2 hv C1 C2 R1 R2 (.inr ⟨z,S'⟩)⟩
  ·rw [j8 z]
   refine .inr (.inl ⟨rfl,qfJ c2 c1 hv C2 C1 R2 R1 (.inl ⟨by rw [Int.mul_comm];exact z,?_⟩)⟩)
   rw [neg2]
   exact S'
 ·rw [Int.mul_zero]
  refine .inr (.inr ⟨rfl,not_lt c1 c2 hv C1 C2 R1 R2 S',not_lt c2 c1 hv C2 C1 R2 R1 ?_⟩)
  rw [swap]
  exact S'.neg
 ·rcases yT qh with z | z
  ·rw [jk z]
   refine .inr (.inl ⟨rfl,qfJ c2 c1 hv C2 C1 R2 R1 (.inr ⟨by rw [Int.mul_comm];exact z,?_⟩)⟩)
   rw [swap]
   exact S'
  ·rw [j8 z]
   exact .inl ⟨rfl,qfJ c1 c2 hv C1 C2 R1 R2 (.inl ⟨z,S'⟩)⟩
def qlV:SpD:=fun es μ Q=>∃ n:Int,es=[.d (.int n)]/\Q (.d (.int n.sign)) μ
theorem qgt:FnScope ["number"] ["number"] (qt qhP):=⟨rfl,rfl,rfl,by decide +kernel,rfl,by decide +kernel,by decide +kernel⟩
theorem qku {f:Addr}{fd:FuncData}(F:Fun K "sign" "sign" qhP f fd)  : FnOk P w K mg base CX 1 f fd ["number"] (qW K qlV):=by
 refine F.okD qgt (fun es μ Q hq0=>by obtain ⟨n,e,_⟩:=hq0;subst e;rfl) (fun cdv A outer s H E es μ Q hr hq0=>?_)
 obtain ⟨n,e,k⟩:=hq0
 subst e
 have nd:=qgt.nd
 refine ⟨_,(qr (jS (yj ZS (dv 0) qu (qY _)) (qH (qR qu)) y8)
   (qr (jS (yj qaD (dv 0) qu (qY _)) (qH (qR (YO yO qu))) y8)
   (qH (qR qu)))),?_⟩
 refine jB (fun c=>?_) (fun c=>jB (fun c2=>?_) (fun c2=>?_))
 ·have c:0<n:=qy c
  rw [j8 c] at k
  exact k
 ·have c2:n<0:=qy c2
  rw [jk c2] at k
  exact k
 ·have c:¬ 0<n:=fun z=>c (qm z)
  have c2:¬ n<0:=fun z=>c2 (qm z)
  have:n=0:=by omega
  subst this
  exact k
theorem qck {k:Nat}{x:Int}(h:Sz k x):Sz k ((x.natAbs:Nat):Int):=by
 unfold Sz at *
 rw [Int.natAbs_natCast]
 exact h
def sRs:SpD:=fun es μ Q=>∃ x y r:Int,es=[.d (.int x),.d (.int y),.d (.int r)]/\Sz 40000 x/\Sz 40000 y/\Sz 20000 r/\Q (.d (.int (rsg x y r))) μ
theorem qgv:FnScope ["x", "y", "r"] ["x", "y", "r"] (qt Yb):=⟨rfl,rfl,rfl,by decide +kernel,rfl,by decide +kernel,by decide +kernel⟩
theorem qkw {f:Addr}{fd:FuncData}(F:Fun K "root_sign" "root_sign" Yb f fd) (T:Txt mg) (hX:NoX CX) (Osign:Own P w K mg base CX 1 "sign" ["number"] (qW K qlV)):FnOk P w K mg base CX 2 f fd ["x", "y", "r"] (qW K sRs):=by
 refine F.okD qgv (fun es μ Q hq0=>by obtain ⟨x,y,r,e,_⟩:=hq0;subst e;rfl) (fun cdv A outer s H E es μ Q hr hq0=>?_)
 obtain ⟨x,y,r,e,sx,sy,sr,k⟩:=hq0
 subst e
 have nd:=qgv.nd
 refine ⟨_,(qH (qR (qS Osign hX (hr.mono (by decide)) rfl (qa (qO yx (qO qA (dv 0) (qQ J3 (by rfl) T.abs_ J6 (qa (dv 0) qd))) (qO qA (qO qA (dv 1) (qQ J3 (by rfl) T.abs_ J6 (qa (dv 1) qd))) (dv 2))) qd)))),?_⟩
 exact ⟨yQ sx (qck sx) (by decide),yQ sy (qck sy) (by decide),yQ (sy.mul (qck sy)) sr (by decide),_,rfl,k⟩
theorem qaY (x:Int):Sz 1 x.sign:=by
 unfold Sz
 rcases Int.lt_trichotomy x 0 with h | h | h
 ·rw [jk h];decide
 ·subst h;decide
 ·rw [j8 h];decide
def sTrs:SpD:=fun es μ Q=>∃ x y r z s:Int,es=[.d (.int x),.d (.int y),.d (.int r),.d (.int z),.d (.int s)]/\Sz 17100 x/\Sz 8600 y/\Sz 17100 r/\Sz 8600 z/\Sz 17100 s/\Q (.d (.int (trs x y r z s))) μ
theorem qgs:FnScope ["x", "y", "r", "z", "s", "ahead"] ["x", "y", "r", "z", "s"] (qt jC):=⟨rfl,rfl,rfl,by decide +kernel,rfl,by decide +kernel,by decide +kernel⟩
theorem qkt {f:Addr}{fd:FuncData}(F:Fun K "two_roots_sign" "two_roots_sign" jC f fd) (T:Txt mg) (hX:NoX CX) (Oroot_sign:Own P w K mg base CX 2 "root_sign" ["x", "y", "r"] (qW K sRs)):FnOk P w K mg base CX 3 f fd ["x", "y", "r", "z", "s"] (qW K sTrs):=by
 refine F.okD qgs (fun es μ Q hq0=>by obtain ⟨x,y,r,z,s,e,_⟩:=hq0;subst e;rfl) (fun cdv A outer s' H E es μ Q hr hq0=>?_)
 obtain ⟨x,y,r,z,s,e,sx,sy,sr,sz,ss,k⟩:=hq0
 subst e
 have nd:=qgs.nd
 refine ⟨_,(qr (qP (i:=5) nd rfl (by first | exact Or.inl rfl | exact Or.inr rfl) (qS Oroot_sign hX (hr.mono (by decide)) rfl (qa (dv 0) (qa (dv 1) (qa (dv 2) qd)))))
   (qH (qR (qS Oroot_sign hX (hr.mono (by decide)) rfl (qa (qO yx (qO qA (dv 5) (qO yx (qO qA (dv 0) (dv 0)) (qO qA (qO qA (dv 1) (dv 1)) (dv 2)))) (qO qA (qO qA (dv 3) (qQ J3 (by rfl) T.abs_ J6 (qa (dv 3) qd))) (dv 4))) (qa (qO qA (qO qA (qO qA qu (dv 5)) (dv 0)) (dv 1)) (qa (dv 2) qd))))))),?_⟩
 have sa:Sz 1 (rsg x y r):=qaY _
 unfold trs at k
 refine ⟨x,y,r,rfl,sx.mono (by decide),sy.mono (by decide),sr.mono (by decide),?_⟩
 dsimp only [List.set_cons_zero,List.set_cons_succ]
 have two:Sz 2 (2:Int):=by unfold Sz;decide
 have syyr:Sz 34300 (y * y * r):=((sy.mul sy).mul sr).mono (by decide)
 have sxx:Sz 34300 (x * x):=(sx.mul sx).mono (by decide)
 have sB1:Sz 34400 (rsg x y r * (x * x+y * y * r)):=(sa.mul (sxx.add syyr)).mono (by decide)
 have sB2:Sz 34400 (z * ((z.natAbs:Nat):Int) * s):=((sz.mul (qck sz)).mul ss).mono (by decide)
 have s2a:Sz 3 (2 * rsg x y r):=(two.mul sa).mono (by decide)
 exact ⟨yQ sx sx (by decide),yQ sy sy (by decide),yQ (sy.mul sy) sr (by decide),yQ sa (sxx.add syyr) (by decide),yQ sz (qck sz) (by decide),yQ (sz.mul (qck sz)) ss (by decide),yQ two sa (by decide),yQ s2a sx (by decide),yQ (s2a.mul sx) sy (by decide),_,_,_,rfl,(sB1.add sB2).mono (by decide),((s2a.mul sx).mul sy).mono (by decide),sr.mono (by decide),k⟩
def sOrd:SpD:=fun es μ Q=>∃ (Z1 Z2:List Pt) (v:Pt),es=[.d (hpD Z1),.d (hpD Z2),.d (ptD v)]/\Ck Z1/\Ck Z2/\Ar v/\∀ k:Int,Ord Z1 Z2 v k->Q (.d (.int k)) μ
theorem qgy:FnScope ["one", "other", "arrow", "p", "r", "q", "g", "s", "h"] ["one", "other", "arrow"] (qt Yc):=⟨rfl,rfl,rfl,by decide +kernel,rfl,by decide +kernel,by decide +kernel⟩
theorem qkz {f:Addr}{fd:FuncData}(F:Fun K "cut_order" "cut_order" Yc f fd) (T:Txt mg) (hX:NoX CX) (Ocut_root:Own P w K mg base CX 8 "cut_root" ["cake", "arrow"] (qW K sCrt)) (Osign:Own P w K mg base CX 1 "sign" ["number"] (qW K qlV)) (Otwo_roots_sign:Own P w K mg base CX 3 "two_roots_sign" ["x", "y", "r", "z", "s"] (qW K sTrs)):FnOk P w K mg base CX 9 f fd ["one", "other", "arrow"] (qW K sOrd):=by
 refine F.okD qgy (fun es μ Q hq0=>by obtain ⟨Z1,Z2,v,e,_⟩:=hq0;subst e;rfl) (fun cdv A outer s' H E es μ Q hr hq0=>?_)
 obtain ⟨Z1,Z2,v,e,c1,c2,hv,k⟩:=hq0
 subst e
 have nd:=qgy.nd
 refine ⟨_,(qr (jt (qS Ocut_root hX (hr.mono (by decide)) rfl (qa (dv 0) (qa (dv 2) qd))) (yP (n:=3) rfl (qv (qw (i:=3) nd rfl (by first | exact Or.inl rfl | exact Or.inr rfl)) (qv (qw (i:=4) nd rfl (by first | exact Or.inl rfl | exact Or.inr rfl)) (qv (qw (i:=5) nd rfl (by first | exact Or.inl rfl | exact Or.inr rfl)) yk)))))
   (qr (jt (qS Ocut_root hX (hr.mono (by decide)) rfl (qa (dv 1) (qa (dv 2) qd))) (yP (n:=3) rfl (qv (qw (i:=6) nd rfl (by first | exact Or.inl rfl | exact Or.inr rfl)) (qv (qw (i:=7) nd rfl (by first | exact Or.inl rfl | exact Or.inr rfl)) (qv (qw (i:=8) nd rfl (by first | exact Or.inl rfl | exact Or.inr rfl)) yk)))))
   (qH (qR (qO qA (qS Osign hX (hr.mono (by decide)) rfl (qa (qO qA (dv 5) (dv 8)) qd)) (qS Otwo_roots_sign hX (hr.mono (by decide)) rfl (qa (qO yl (qO qA (dv 3) (dv 8)) (qO qA (dv 6) (dv 5))) (qa (dv 8) (qa (dv 4) (qa (YO yO (dv 5)) (qa (dv 7) qd))))))))))),?_⟩
 refine ⟨Z1,v,rfl,c1,hv,fun p r q C1=>⟨rfl,Z2,v,rfl,c2,hv,fun g s h C2=>⟨rfl,?_⟩⟩⟩
 obtain ⟨sr,sp,sq⟩:=qho C1
 obtain ⟨ss,sg,sh⟩:=qho C2
 dsimp only [List.set_cons_zero,List.set_cons_succ]
 have sx:Sz 17100 (p * h - g * q):=((sp.mul sh).sub (sg.mul sq)).mono (by decide)
 have st:Sz 1 (trs (p * h - g * q) h r (-q) s):=qaY _
 exact ⟨yQ sq sh (by decide),_,rfl,yQ sp sh (by decide),yQ sg sq (by decide),_,_,_,_,_,rfl,sx,sh.mono (by decide),sr.mono (by decide),sq.neg.mono (by decide),ss.mono (by decide),yQ (qaY _) st (by decide),k _ (qkm c1 c2 hv C1 C2)⟩
end
section
variable {P:Program}{w:World}{K:W.Frag}{mg:Str->Option Value}{base:Heap}{CX:CXT}
theorem jP {Z:List Pt}(f:Pt->Pt) {i:Nat}(h:i<Z.length):gP (Z.map f) i=f (gP Z i):=by
 rw [je (by rw [List.length_map];exact h),je h,List.getElem_map]
theorem qez {Z:List Pt}{f:Pt->Pt}(hf:∀ p q r,ac (f p) (f q) (f r)=ac p q r) (h:Cvx Z):Cvx (Z.map f):=by
 intro i j hi hj h1 h2
 rw [List.length_map] at hi hj h2
 rw [List.length_map,jP f hi,jP f (yp _ (by omega)),jP f hj,hf]
 exact h i j hi hj h1 h2
theorem qge {Z:List Pt}{f:Pt->Pt}(h2:2<=Z.length) (hf:∀ p q r,ac (f p) (f q) (f r)=ac p q r):J7 (Z.map f)=J7 Z:=by
 rw [YQ (by rw [List.length_map];exact h2),YQ h2,List.length_map]
 unfold fan
 congr 1
 refine List.map_congr_left fun k hk=>?_
 have hk:=List.mem_range.mp hk
 rw [jP f (by omega),jP f (by omega),jP f (by omega),hf]
theorem qdL {Z:List Pt}(f:Pt->Pt) {i:Nat}(h:i<Z.length):nx (Z.map f) i=f (nx Z i):=by
 unfold nx
 rw [List.length_map,jP f (yp _ (by omega))]
theorem qa0 {v:Pt}{P:List Pt}{k:Nat}(hk:k<P.length):nx (Z7 v P) k=(vl' v (nx P k),crs v (nx P k)):=by
 unfold nx
 rw [ZC,JG (yp _ (by omega))]
theorem qgi {Z:List Pt}(h2:2<=Z.length) (v:Pt) (b:Int) (t:Rat):FF (Z.map fun q=>(q.1 - b * v.2,q.2+b * v.1)) v t=FF Z v t:=by
 have ea:J7 (Z.map fun q=>(q.1 - b * v.2,q.2+b * v.1))=J7 Z:=qge h2 fun p q r=>by unfold ac;dsimp only;grind
 have eb:Zc (Z.map fun q=>(q.1 - b * v.2,q.2+b * v.1)) v t=Zc Z v t:=by
  unfold Zc
  rw [List.length_map]
  refine yd fun k hk=>?_
  rw [JG (by rw [List.length_map];exact hk),qa0 (by rw [List.length_map];exact hk),JG hk,qa0 hk,jP _ hk,qdL _ hk]
  have e1:∀ q:Pt,vl' v (q.1 - b * v.2,q.2+b * v.1)=vl' v q:=fun q=>by unfold vl';dsimp only;grind
  have e2:∀ q:Pt,((crs v (q.1 - b * v.2,q.2+b * v.1):Int):Rat)=((crs v q:Int):Rat)+((b * (v.1 * v.1+v.2 * v.2):Int):Rat):=fun q=>by
   have:crs v (q.1 - b * v.2,q.2+b * v.1)=crs v q+b * (v.1 * v.1+v.2 * v.2):=by unfold crs;dsimp only;grind
   rw [this,Rat.intCast_add]
  unfold pS
  simp only [e1,e2]
  have e3:∀ x y c:Rat,x+c - (y+c)=x - y:=fun x y c=>by grind
  simp only [e3]
 unfold FF
 rw [ea,eb]
theorem qfg (f:Nat->Rat):∀ n,yF (fun k=>f (n - 1 - k)) n=yF f n:=by
 have key:∀ n,yF (fun k=>f (k+1)) n+f 0=yF f (n+1):=fun n=>by
  induction n with
  | zero=>show (0:Rat)+f 0=0+f 0;rfl
  | succ n ih =>
   show yF (fun k=>f (k+1)) n+f (n+1)+f 0=yF f (n+1)+f (n+1)
   rw [<- ih]
   grind
 intro n
 induction n with
 | zero=>rfl
 | succ n ih =>
  have e:yF (fun k=>f (n+1 - 1 - k)) (n+1)=yF (fun k=>f (n - k)) n+f 0:=by
   show yF (fun k=>f (n+1 - 1 - k)) n+f (n+1 - 1 - n)=_
   rw [show n+1 - 1 - n=0 by omega]
   rfl
  rw [e,<- key n]
  congr 1
  have ih':∀ g:Nat->Rat,∀ m,yF (fun k=>g (m - 1 - k)) m=yF g m:=fun g m=>by
   induction m generalizing g with
   | zero=>rfl
   | succ m ihm =>
    have k2:yF (fun k=>g (k+1)) m+g 0=yF g (m+1):=by
     clear ihm
     induction m with
     | zero=>show (0:Rat)+g 0=0+g 0;rfl
     | succ m im =>
      show yF (fun k=>g (k+1)) m+g (m+1)+g 0=yF g (m+1)+g (m+1)
      rw [<- im]
      grind
    have e2:yF (fun k=>g (m+1 - 1 - k)) (m+1)=yF (fun k=>g (m - k)) m+g 0:=by
     show yF (fun k=>g (m+1 - 1 - k)) m+g (m+1 - 1 - m)=_
     rw [show m+1 - 1 - m=0 by omega]
     rfl
    rw [e2,<- k2]
    congr 1
    rw [<- ihm fun k=>g (k+1)]
    exact yd fun k hk=>by rw [show m - 1 - k+1=m - k by omega]
  rw [<- ih' (fun k=>f (k+1)) n]
  exact yd fun k hk=>by rw [show n - 1 - k+1=n - k by omega]
theorem gP_rev {Z:List Pt}{i:Nat}(h:i<Z.length):gP Z.reverse i=gP Z (Z.length - 1 - i):=by
 rw [je (by rw [List.length_reverse];exact h),je (by omega),List.getElem_reverse]
theorem qdK {Z:List Pt}{i:Nat}(h:i<Z.length):nx Z.reverse i=if i+1<Z.length then gP Z (Z.length - 2 - i) else gP Z (Z.length - 1):=by
 unfold nx
 rw [List.length_reverse]
 split
 ·rw [qx (by omega),gP_rev (by omega)]
  congr 1
  omega
 ·rw [show i+1=Z.length by omega,yG,gP_rev (by omega)]
  congr 1
theorem qbG (f:Pt->Pt->Rat) {Z:List Pt}(h:0<Z.length):yF (fun k=>f (gP Z.reverse k) (nx Z.reverse k)) Z.length=yF (fun k=>f (nx Z k) (gP Z k)) Z.length:=by
 obtain ⟨m,em⟩:∃ m,Z.length=m+1:=⟨Z.length - 1,by omega⟩
 rw [em]
 show yF _ m+f (gP Z.reverse m) (nx Z.reverse m)=yF _ m+f (nx Z m) (gP Z m)
 have l:f (gP Z.reverse m) (nx Z.reverse m)=f (nx Z m) (gP Z m):=by
  rw [gP_rev (by omega),qdK (by omega),if_neg (by omega)]
  unfold nx
  rw [em,yG]
  congr 2
  all_goals omega
 rw [l]
 congr 1
 rw [<- qfg (fun k=>f (nx Z k) (gP Z k)) m]
 refine yd fun k hk=>?_
 rw [gP_rev (by omega),qdK (by omega),if_pos (by omega)]
 unfold nx
 rw [em,qx (by omega)]
 congr 2
 all_goals omega
theorem qeR (Z:List Pt):((J7 Z:Int):Rat)=yF (fun k=>((crs (gP Z k) (nx Z k):Int):Rat)) Z.length:=by
 unfold J7
 generalize Z.length=n
 induction n with
 | zero=>rfl
 | succ n ih =>
  rw [jb,List.map_append,ja,Rat.intCast_add,ih]
  show _=yF _ n+_
  congr 1
  simp
theorem qil (A B:Pt) (t:Rat):pS (A.1,-A.2) (B.1,-B.2) t=pS B A t:=by
 unfold pS
 simp only [Rat.intCast_neg]
 by_cases a:(A.1:Rat)<=t <;> by_cases b:(B.1:Rat)<=t <;> simp only [a,b,if_true,if_false] <;> grind
theorem qlO {Z:List Pt}(h:0<Z.length) (v:Pt) {f:Pt->Pt}(f1:∀ q,vl' v (f q)=vl' v q) (f2:∀ q,crs v (f q) = -crs v q) (f3:∀ p q,crs (f p) (f q)=crs q p) (t:Rat):FF (Z.map f).reverse v t=FF Z v t:=by
 have hl:(Z.map f).length=Z.length:=List.length_map ..
 have eb:Zc (Z.map f).reverse v t=Zc Z v t:=by
  have hb:∀ W:List Pt,Zc W v t=yF (fun k=>pS (vl' v (gP W k),crs v (gP W k)) (vl' v (nx W k),crs v (nx W k)) t) W.length:=fun W=>by
   unfold Zc
   exact yd fun k hk=>by rw [JG hk,qa0 hk]
  rw [hb,hb,List.length_reverse]
  have:=qbG (fun p q=>pS (vl' v p,crs v p) (vl' v q,crs v q) t) (Z:=Z.map f) (by omega)
  rw [hl] at this ⊢
  rw [this]
  refine yd fun k hk=>?_
  rw [jP f hk,qdL f hk,f1,f1,f2,f2]
  exact qil (vl' v (nx Z k),crs v (nx Z k)) (vl' v (gP Z k),crs v (gP Z k)) t
 have ea:((J7 (Z.map f).reverse:Int):Rat)=((J7 Z:Int):Rat):=by
  rw [qeR,qeR,List.length_reverse]
  have:=qbG (fun p q=>((crs p q:Int):Rat)) (Z:=Z.map f) (by omega)
  rw [hl] at this ⊢
  rw [this]
  exact yd fun k hk=>by rw [jP f hk,qdL f hk,f3]
 unfold FF
 rw [eb,ea]
theorem qi7 {Z:List Pt}{f:Pt->Pt}(hf:∀ p q r,ac (f p) (f q) (f r) = -ac p q r) (h:Cvx Z) (h0:0<Z.length):Cvx (Z.map f).reverse:=by
 have hl:(Z.map f).length=Z.length:=List.length_map ..
 intro i j hi hj h1 h2
 rw [List.length_reverse,hl] at hi hj h2
 have gj:gP (Z.map f).reverse j=f (gP Z (Z.length - 1 - j)):=by rw [gP_rev (by omega),jP f (by omega),hl]
 have gi:gP (Z.map f).reverse i=f (gP Z (Z.length - 1 - i)):=by rw [gP_rev (by omega),jP f (by omega),hl]
 have sw:∀ p q r:Pt,ac p q r = -ac q p r:=fun p q r=>by unfold ac;grind
 show 0<ac (gP (Z.map f).reverse i) (nx (Z.map f).reverse i) (gP (Z.map f).reverse j)
 rw [gi,gj,qdK (by omega),hl]
 by_cases c:i+1<Z.length
 ·rw [if_pos c,jP f (by omega),hf,sw,Int.neg_neg]
  have:=h (Z.length - 2 - i) (Z.length - 1 - j) (by omega) (by omega) (by
   rw [qx c] at h2
   omega) (by rw [qx (by omega)];omega)
  rw [qx (by omega),show Z.length - 2 - i+1=Z.length - 1 - i by omega] at this
  exact this
 ·rw [if_neg c,jP f (by omega),hf,sw,Int.neg_neg]
  have ei:i=Z.length - 1:=by omega
  have e2:(i+1) % Z.length=0:=by rw [show i+1=Z.length by omega,yG]
  rw [e2] at h2
  have:=h (Z.length - 1) (Z.length - 1 - j) (by omega) (by omega) (by omega) (by rw [show Z.length - 1+1=Z.length by omega,yG];omega)
  rw [show Z.length - 1+1=Z.length by omega,yG] at this
  rw [show Z.length - 1 - i=0 by omega]
  exact this
end
section
variable {P:Program}{w:World}{K:W.Frag}{mg:Str->Option Value}{base:Heap}{CX:CXT}
theorem two9:Sz 9000 (2:Int):=Sz.mono (j:=2) (by decide) (by unfold Sz;decide)
theorem qiN {a b:Int}(h:1<b - a):a<(a+b).fdiv 2/\(a+b).fdiv 2<b:=by
 rw [Int.fdiv_eq_ediv_of_nonneg _ (by decide)]
 omega
theorem ckG {Z:List Pt}(hc:Ck Z) {v:Pt}(hv:Ar v) {n d:Int}(d0:0<d) (sn:Sz 8800 n) (sd:Sz 8800 d):qjq 9000 Z v n d:=by
 have l3:=hc.2.1
 refine ⟨by omega,hc.2.2.1,hc.2.2.2,hv,d0,sd.mono (by decide),fun q hq=>?_,qj _⟩
 have:=(sd.mul (szv hc hv ⟨q,hq,rfl⟩)).sub (sn.mono (k:=8800+140) (by decide))
 exact this.mono (by decide)
theorem sgF' {r un:Int}{vv F:Rat}(u0:0<un) (v0:0<vv) (e:(r:Rat) / un * vv=F):(F<=0->r<=0)/\(0<F->0<r)/\(F=0->r=0):=by
 have x:=sgF u0 v0 e
 have y:((-r:Int):Rat) / un * vv = -F:=by rw [<- e,Rat.intCast_neg];grind
 have y:=sgF u0 v0 y
 have p1:F<=0->r<=0:=fun h=>by
  refine Int.le_of_not_gt fun z=>?_
  have:=y.2 (by omega)
  grind
 have p2:0<F->0<r:=fun h=>by
  refine Int.lt_of_not_ge fun z=>?_
  have:=y.1 (by omega)
  grind
 refine ⟨p1,p2,fun h=>?_⟩
 have a:=p1 (by grind)
 refine Int.le_antisymm a (Int.le_of_not_gt fun z=>?_)
 have:=x.2 z
 grind
def sLnr:SpD:=fun es μ Q=>∃ (Z:List Pt) (v:Pt) (m:Int),es=[.d (hpD Z),.d (ptD v),.d (.int m)]/\Ck Z/\Ar v/\0<m/\Sz 210 m/\∀ x:Int,FF Z v ((x:Rat) / m)<=0->0<FF Z v (((x+1:Int):Rat) / m)->Q (.d (.int x)) μ
theorem qgB:FnScope ["_law_cake_here", "_law_arrow_here", "_law_many", "_law_along", "_law_low", "_law_high", "_law_inner"] ["_law_cake_here", "_law_arrow_here", "_law_many"] (qt Ju):=⟨rfl,rfl,rfl,by decide +kernel,rfl,by decide +kernel,by decide +kernel⟩
theorem qkC {f:Addr}{fd:FuncData}(F:Fun K "_law_near" "_law_near" Ju f fd) (T:Txt mg) (hX:NoX CX) (O_law_half_less:Own P w K mg base CX 4 "_law_half_less" ["_law_cake_here", "_law_arrow_here", "_law_n", "_law_d"] (qW K sHl)):FnOk P w K mg base CX 5 f fd ["_law_cake_here", "_law_arrow_here", "_law_many"] (qW K sLnr):=by
 refine F.okD qgB (fun es μ Q hq0=>by obtain ⟨Z,v,m,e,_⟩:=hq0;subst e;rfl) (fun cdv A outer s H E es μ Q hr hq0=>?_)
 obtain ⟨Z,v,m,e,hc,hv,m0,sm,k⟩:=hq0
 subst e
 have nd:=qgB.nd
 refine ⟨_,(qr (qbf (i:=3) nd rfl (by first | exact Or.inl rfl | exact Or.inr rfl) (L:=["_law_x", "_law_y"]) (sc:=qt Ju) (N:=["_law_cake_here", "_law_arrow_here", "_law_many", "_law_along", "_law_low", "_law_high", "_law_inner"]) rfl rfl rfl (by decide +kernel) (y6 (dv 0)) (fun _ _ _ _ _=>(yP (n:=2) rfl (qv (qw (i:=7) (show List.Nodup (["_law_cake_here", "_law_arrow_here", "_law_many", "_law_along", "_law_low", "_law_high", "_law_inner", "_law_x", "_law_y"]:List Str) from by decide +kernel) rfl (by first | exact Or.inl rfl | exact Or.inr rfl)) (qv (qw (i:=8) (show List.Nodup (["_law_cake_here", "_law_arrow_here", "_law_many", "_law_along", "_law_low", "_law_high", "_law_inner", "_law_x", "_law_y"]:List Str) from by decide +kernel) rfl (by first | exact Or.inl rfl | exact Or.inr rfl)) yk)))) (fun _ _ _ _ _=>jg) (fun _ _ _ _ _=>(qO yx (qO qA (jh qN (dv 1) qu (fun _ _=>rfl)) (dv 7)) (qO qA (jh qN (dv 1) qu (fun _ _=>rfl)) (dv 8)))))
   (qr (Y7 (i:=4) (j:=5) rfl nd rfl rfl (by decide) rfl rfl (qa (qO qA (qQ (qew (K:=K) rfl) (by rfl) T.min_ qb9 (qa (dv 3) qd)) (dv 2)) (qa (qO qA (qQ (qbi (K:=K) rfl) (by rfl) T.max_ Zb (qa (dv 3) qd)) (dv 2)) qd)) rfl)
   (qr (YM PassesOwn.never (yj ZS (qO yl (dv 5) (dv 4)) qu (qY _)) (qr (qP (i:=6) nd rfl (by first | exact Or.inl rfl | exact Or.inr rfl) (qO YN (qO yx (dv 4) (dv 5)) qu))
   (qH (jS (yj ZS (qS O_law_half_less hX (hr.mono (by decide)) rfl (qa (dv 0) (qa (dv 1) (qa (dv 6) (qa (dv 2) qd))))) qu (qY _)) (qH (qP (i:=5) nd rfl (by first | exact Or.inl rfl | exact Or.inr rfl) (dv 6))) (qH (qP (i:=4) nd rfl (by first | exact Or.inl rfl | exact Or.inr rfl) (dv 6)))))))
   (qH (qR (dv 4)))))),?_⟩
 have l3:=hc.2.1
 have l12:=hc.2.2.1
 have v0:(0:Rat)<((vl' v v:Int):Rat):=Rat.intCast_pos.mpr (qaT hv).1
 have fp:=YK hc hv
 refine ⟨_,.d _,(by show (Z.map ptD).length<=4000;rw [List.length_map];omega),Za (as:=Z) (fun q=>.int (vl' v q)) Src.d (fun q hq R h=>?_) ?_⟩
 ·have a1:=hv.1.1
  have a2:=hv.1.2
  obtain ⟨⟨x1,x2⟩,x3,x4⟩:=hc.2.2.2 q hq
  exact ⟨_,rfl,yQ (szM (by omega)) (szM (by omega)) (by decide),_,rfl,yQ (szM (by omega)) (szM (by omega)) (by decide),h⟩
 have em:Z.map (fun q=>PyData.int (vl' v q))=(Z.map (vl' v)).map PyData.int:=by rw [List.map_map];rfl
 rw [em]
 dsimp only [List.set_cons_zero,List.set_cons_succ]
 have hne:Z.map (vl' v)≠[]:=fun z=>by have z:Z=[]:=List.map_eq_nil_iff.mp z;rw [z] at l3;exact absurd l3 (by decide)
 refine ⟨Z.map (vl' v),.d _,hne,fun l hl lle=>?_⟩
 have sl:=szv hc hv (qG.mp hl)
 refine ⟨yQ sl sm (by decide),Z.map (vl' v),.d _,hne,fun h hh hle=>?_⟩
 have sh:=szv hc hv (qG.mp hh)
 have g1:FF Z v (l:Rat)<=0:=by
  unfold FF
  rw [qba (by omega) v fun q hq=>lle _ (jN hq)]
  grind
 have g2:0<FF Z v (h:Rat):=by
  unfold FF
  rw [qb2 hc fun q hq=>hle _ (jN hq)]
  grind
 have lt:l<h:=by
  refine Int.lt_of_not_ge fun z=>?_
  have:h=l:=by have:=lle h hh;omega
  rw [this] at g2
  grind
 have mm:∀ x:Int,((x * m:Int):Rat) / m=x:=fun x=>by
  have:=ji (d:=m) (by omega)
  rw [Rat.intCast_mul]
  grind
 refine ⟨yQ sh sm (by decide),?_⟩
 dsimp only [List.set_cons_zero,List.set_cons_succ]
 have slm:Sz 350 (l * m):=(sl.mul sm).mono (by decide)
 have shm:Sz 350 (h * m):=(sh.mul sm).mono (by decide)
 have btw:∀ {x:Int},l * m<=x->x<=h * m->Sz 350 x:=fun {x} h1 h2=>by
  unfold Sz at *
  omega
 have lm:l * m<h * m:=Int.mul_lt_mul_of_pos_right lt m0
 refine ⟨fun i ρ' μ'=>μ'=μ/\∃ a b:Int,l * m<=a/\a<b/\b<=h * m/\FF Z v ((a:Rat) / m)<=0/\0<FF Z v ((b:Rat) / m)/\i=(b - a).toNat/\∃ w1,ρ'=[some (.d (hpD Z)),some (.d (ptD v)),some (.d (.int m)),some (.d (.list ((Z.map (vl' v)).map .int))),some (.d (.int a)),some (.d (.int b)),w1],⟨_,rfl,l * m,h * m,Int.le_refl _,lm,Int.le_refl _,by rw [mm];exact g1,by rw [mm];exact g2,rfl,_,rfl⟩,?_⟩
 rintro i ρ' μ' ⟨rfl,a,b,la,ab,bh,fa,fb,rfl,w1,rfl⟩
 refine jB (fun c=>?_) (fun c=>?_)
 ·have c:1<b - a:=qy c
  obtain ⟨x1,x2⟩:=qiN c
  refine ⟨⟨by decide,two9⟩,?_⟩
  dsimp only [List.set_cons_zero,List.set_cons_succ]
  generalize (a+b).fdiv 2=x at x1 x2
  refine ⟨9000,Z,v,x,m,rfl,hc,ckG hc hv m0 ((btw (x:=x) (by omega) (by omega)).mono (by decide)) (sm.mono (by decide)),fun r un u0 e=>jB (fun c2=>?_) (fun c2=>?_)⟩
  ·have c2:0<r:=qy c2
   refine ⟨(x - a).toNat,by omega,Wks.of ⟨rfl,a,x,la,x1,by omega,fa,?_,rfl,_,rfl⟩⟩
   by_cases z:0<FF Z v ((x:Rat) / m)
   ·exact z
   ·have:=(sgF' u0 v0 e).1 (show FF Z v ((x:Rat) / m)<=0 by grind)
    omega
  ·have c2:¬ 0<r:=fun z=>c2 (qm z)
   refine ⟨(b - x).toNat,by omega,Wks.of ⟨rfl,x,b,by omega,x2,bh,?_,fb,rfl,_,rfl⟩⟩
   by_cases z:FF Z v ((x:Rat) / m)<=0
   ·exact z
   ·exact absurd ((sgF' u0 v0 e).2.1 (show 0<FF Z v ((x:Rat) / m) by grind)) c2
 ·have c:¬ 1<b - a:=fun z=>c (qm z)
  have:b=a+1:=by omega
  subst this
  exact k a fa fb
theorem qg2 {Z1 Z2:List Pt}(c2:Ck Z2) {v:Pt}(hv:Ar v) {x y m:Int}(m0:0<m) (h:x<y) (f1:0<FF Z1 v (((x+1:Int):Rat) / m)) (f2:FF Z2 v ((y:Rat) / m)<=0):LtW Z1 Z2 v:=by
 refine ⟨_,f1,?_⟩
 by_cases e:x+1=y
 ·rw [e];exact f2
 ·have lt:((x+1:Int):Rat) / m<(y:Rat) / m:=by
   have c0:(0:Rat)<(m:Rat):=Rat.intCast_pos.mpr m0
   have h':((x+1:Int):Rat)<(y:Rat):=Rat.intCast_lt_intCast.mpr (by omega)
   have e1:((x+1:Int):Rat) / m * m=((x+1:Int):Rat):=by grind
   have e2:(y:Rat) / m * m=y:=by grind
   by_cases z:((x+1:Int):Rat) / m<(y:Rat) / m
   ·exact z
   ·have:=Rat.mul_nonneg (show 0<=((x+1:Int):Rat) / m - (y:Rat) / m by grind) (Rat.le_of_lt c0)
    grind
  exact Rat.le_of_lt (qaQ c2 hv lt f2)
def sOdr:SpD:=fun es μ Q=>∃ (Z1 Z2:List Pt) (v:Pt),es=[.d (hpD Z1),.d (hpD Z2),.d (ptD v)]/\Ck Z1/\Ck Z2/\Ar v/\Q (.d .none) μ/\(LtW Z1 Z2 v->Q (.d (.int (-1))) μ)/\(LtW Z2 Z1 v->Q (.d (.int 1)) μ)
theorem qgz:FnScope ["_law_one", "_law_two", "_law_arrow_here", "_law_many", "_law_here", "_law_there"] ["_law_one", "_law_two", "_law_arrow_here"] (qt JJ):=⟨rfl,rfl,rfl,by decide +kernel,rfl,by decide +kernel,by decide +kernel⟩
theorem qkA {f:Addr}{fd:FuncData}(F:Fun K "_law_order" "_law_order" JJ f fd) (T:Txt mg) (hX:NoX CX) (O_law_near:Own P w K mg base CX 5 "_law_near" ["_law_cake_here", "_law_arrow_here", "_law_many"] (qW K sLnr)):FnOk P w K mg base CX 6 f fd ["_law_one", "_law_two", "_law_arrow_here"] (qW K sOdr):=by
 refine F.okD qgz (fun es μ Q hq0=>by obtain ⟨Z1,Z2,v,e,_⟩:=hq0;subst e;rfl) (fun cdv A outer s H E es μ Q hr hq0=>?_)
 obtain ⟨Z1,Z2,v,e,c1,c2,hv,k0,k1,k2⟩:=hq0
 subst e
 have nd:=qgz.nd
 refine ⟨_,(qr (Y8 PassesOwn.never rfl (qli (yC (qa qu (qa (qO JC qu qu) (qa (qO JC qu qu) (qa (qO JC qu qu) qd)))))) (qw (i:=3) nd rfl (by first | exact Or.inl rfl | exact Or.inr rfl)) (qr (qP (i:=4) nd rfl (by first | exact Or.inl rfl | exact Or.inr rfl) (qS O_law_near hX (hr.mono (by decide)) rfl (qa (dv 0) (qa (dv 2) (qa (dv 3) qd)))))
   (qr (qP (i:=5) nd rfl (by first | exact Or.inl rfl | exact Or.inr rfl) (qS O_law_near hX (hr.mono (by decide)) rfl (qa (dv 1) (qa (dv 2) (qa (dv 3) qd)))))
   (qH (jS (yj (qbh hr.units) (dv 4) (dv 5) (qY _)) (qH (qR (qO yl (jR qhl (by rfl) T.int_ qeN (qa (qaF ZS (dv 4) (dv 5) (qY _)) qd)) (jR qhl (by rfl) T.int_ qeN (qa (qaF qaD (dv 4) (dv 5) (qY _)) qd))))) y8)))))
   (qH (qR qln))),?_⟩
 have e12:(10:Int) ^ (12:Int).toNat=1000000000000:=by decide +kernel
 have e60:(10:Int) ^ (60:Int).toNat=1000000000000000000000000000000000000000000000000000000000000:=by decide +kernel
 refine ⟨⟨by decide,by decide,by decide⟩,⟨by decide,by decide,by decide⟩,⟨by decide,by decide,by decide⟩,zl4,?_⟩
 refine forT (ds:=[.int 1,.int ((10:Int) ^ (12:Int).toNat),.int ((10:Int) ^ (30:Int).toNat),.int ((10:Int) ^ (60:Int).toNat)]) (fun i ρ' μ'=>μ'=μ/\∃ w1 w2 w3,ρ'=[some (.d (hpD Z1)),some (.d (hpD Z2)),some (.d (ptD v)),w1,w2,w3]) ?_ ?_ ?_
 ·exact ⟨rfl,_,_,_,rfl⟩
 ·rintro i x ρ' μ' hx ⟨rfl,w1,w2,w3,rfl⟩
  obtain ⟨m,rfl,m0,sm⟩:∃ m:Int,x = .int m/\0<m/\Sz 210 m:=by
   have:=List.mem_of_getElem? hx
   simp only [List.mem_cons,List.not_mem_nil,or_false] at this
   rcases this with rfl | rfl | rfl | rfl
   ·exact ⟨_,rfl,by decide,Sz.of 1 (by decide) (by decide +kernel)⟩
   ·exact ⟨_,rfl,by rw [e12];decide,by rw [e12];exact Sz.of 1000000000000 (by decide) (by decide +kernel)⟩
   ·exact ⟨_,rfl,by rw [e30];decide,by rw [e30];exact Sz.of 1000000000000000000000000000000 (by decide) (by decide +kernel)⟩
   ·exact ⟨_,rfl,by rw [e60];decide,by rw [e60];exact Sz.of 1000000000000000000000000000000000000000000000000000000000000 (by decide) (by decide +kernel)⟩
  refine ⟨Z1,v,m,rfl,c1,hv,m0,sm,fun a a1 a2=>?_⟩
  dsimp only [List.set_cons_zero,List.set_cons_succ]
  refine ⟨Z2,v,m,rfl,c2,hv,m0,sm,fun b b1 b2=>jB (fun c=>?_) (fun _=>Wks.of ⟨rfl,_,_,_,rfl⟩)⟩
  have c:(!decide (a=b))=true:=c
  have c:a≠b:=by simpa using c
  rcases yT c with z | z
  ·have:=k1 (qg2 c2 hv m0 z a2 b1)
   have e:(if decide (b<a)=true then (1:Int) else 0) - (if decide (a<b)=true then (1:Int) else 0) = -1:=by rw [yB (by omega),qm z];rfl
   rw [<- e] at this
   exact this
  ·have:=k2 (qg2 c1 hv m0 z b2 a1)
   have e:(if decide (b<a)=true then (1:Int) else 0) - (if decide (a<b)=true then (1:Int) else 0)=1:=by rw [qm (show b<a from z),yB (by omega)];rfl
   rw [<- e] at this
   exact this
 ·rintro ρ' μ' ⟨rfl,w1,w2,w3,rfl⟩
  exact k0
def sIsg:SpD:=fun es μ Q=>∃ k:Int,es=[.d (.int k)]/\(k = -1\/k=0\/k=1)/\Q (.d (.bool true)) μ
theorem qgF:FnScope ["_law_found"] ["_law_found"] (qt Jb):=⟨rfl,rfl,rfl,by decide +kernel,rfl,by decide +kernel,by decide +kernel⟩
theorem qkG {f:Addr}{fd:FuncData}(F:Fun K "_law_is_sign" "_law_is_sign" Jb f fd) (T:Txt mg):FnOk P w K mg base CX 1 f fd ["_law_found"] (qW K sIsg):=by
 refine F.okD qgF (fun es μ Q hq0=>by obtain ⟨k,e,_⟩:=hq0;subst e;rfl) (fun cdv A outer s H E es μ Q hr hq0=>?_)
 obtain ⟨j,e,hj,k⟩:=hq0
 subst e
 have nd:=qgF.nd
 refine ⟨_,(qH (qR (qf2 (qQ qhk (by rfl) T.isinstance_ J5 (qa (dv 0) (qa (d_ty rfl T.int_ qeN) qd))) (qf2 (d_not (qQ qhk (by rfl) T.isinstance_ J5 (qa (dv 0) (qa (d_ty rfl T.bool_ qjc) qd)))) (qi2 (qi3 qcx qcx (YO yO qu) (dv 0) qu (qY _) (qY _))))))),?_⟩
 refine ⟨by decide,by decide,?_⟩
 rcases hj with rfl | rfl | rfl <;> exact k
theorem qiA {q:Pt}(h:(if ((q.1.natAbs:Nat):Int)<((q.2.natAbs:Nat):Int) then ((q.2.natAbs:Nat):Int) else ((q.1.natAbs:Nat):Int))<1000000000000000000000000000000):Z9 q:=by
 unfold Z9 Num
 split at h <;> omega
def sArp:SpD:=fun es μ Q=>∃ W:List Pt,es=[.d (hpD W)]/\W≠[]/\W.length<=100/\((∀ q∈W,Z9 q)->2<W.length->Q (.d (.bool true)) μ)/\Q (.d (.bool false)) μ
theorem qgO:FnScope ["_law_some"] ["_law_some"] (qt yZ):=⟨rfl,rfl,rfl,by decide +kernel,rfl,by decide +kernel,by decide +kernel⟩
theorem qkP {f:Addr}{fd:FuncData}(F:Fun K "_law_are_points" "_law_are_points" yZ f fd) (T:Txt mg):FnOk P w K mg base CX 1 f fd ["_law_some"] (qW K sArp):=by
 refine F.okD qgO (fun es μ Q hq0=>by obtain ⟨W,e,_⟩:=hq0;subst e;rfl) (fun cdv A outer s H E es μ Q hr hq0=>?_)
 obtain ⟨W,e,hne,hl,k1,k0⟩:=hq0
 subst e
 have nd:=qgO.nd
 refine ⟨_,(qH (qR (qf2 (qaF qaD (qQ (qbi (K:=K) rfl) (by rfl) T.max_ Zb (qa (j4 (L:=["_law_x", "_law_y"]) (sc:=qt yZ) (N:=["_law_some"]) rfl rfl rfl (by decide +kernel) (y6 (dv 0)) (fun _ _ _ _ _=>(yP (n:=2) rfl (qv (qw (i:=1) (show List.Nodup (["_law_some", "_law_x", "_law_y"]:List Str) from by decide +kernel) rfl (by first | exact Or.inl rfl | exact Or.inr rfl)) (qv (qw (i:=2) (show List.Nodup (["_law_some", "_law_x", "_law_y"]:List Str) from by decide +kernel) rfl (by first | exact Or.inl rfl | exact Or.inr rfl)) yk)))) (fun _ _ _ _ _=>jg) (fun _ _ _ _ _=>(qQ (qb6 rfl) (by rfl) T.max_ Zb (qa (qQ J3 (by rfl) T.abs_ J6 (qa (dv 1) qd)) (qa (qQ J3 (by rfl) T.abs_ J6 (qa (dv 2) qd)) qd))))) qd)) (qO JC qu qu) (qY _)) (qi2 (qaF ZS (qQ jZ (by rfl) T.len_ j5 (qa (dv 0) qd)) qu (qY _)))))),?_⟩
 refine ⟨_,.d _,(by show (W.map ptD).length<=4000;rw [List.length_map];omega),Za (as:=W) (fun q=>.int (if ((q.1.natAbs:Nat):Int)<((q.2.natAbs:Nat):Int) then ((q.2.natAbs:Nat):Int) else ((q.1.natAbs:Nat):Int))) Src.d (fun q hq R h=>h) ?_⟩
 refine ⟨W.map fun q=>(if ((q.1.natAbs:Nat):Int)<((q.2.natAbs:Nat):Int) then ((q.2.natAbs:Nat):Int) else ((q.1.natAbs:Nat):Int)),by rw [List.map_map];exact .d _,(fun z=>hne (List.map_eq_nil_iff.mp z)),fun m hm hle=>⟨⟨by decide,by decide,by decide⟩,jB (fun c=>?_) (fun _=>k0)⟩⟩
 have c:m<(10:Int) ^ (30:Int).toNat:=qy c
 rw [e30] at c
 refine ⟨_,.l (.d _),?_⟩
 rw [List.length_map]
 by_cases z:2<W.length
 ·have e:decide ((2:Int)<(W.length:Int))=true:=qm (by omega)
  show Q (.d (.bool (decide ((2:Int)<(W.length:Int))))) μ
  rw [e]
  exact k1 (fun q hq=>qiA (Int.lt_of_le_of_lt (hle _ (jN hq)) c)) z
 ·have e:decide ((2:Int)<(W.length:Int))=false:=yB (by omega)
  show Q (.d (.bool (decide ((2:Int)<(W.length:Int))))) μ
  rw [e]
  exact k0
end
end K75
namespace L2
open PySem PySem.Spec PyProof.Rows
section
variable {X:Cx}{K:W.Frag}{pos:Pos}{e:Expr}{te:TEd}
theorem ds_wk {st:Stmt}{t:TSd}(h:DS K X st t):DS K X st (fun D=>Wks (t D)):=PS.mono h fun D σ H ⟨ρ,μ,D0,hS,hM,⟨ρ',μ',wk,h⟩,cl⟩=>by
 obtain ⟨S',M',ss⟩:=wk K σ H hS hM
 exact ⟨ρ',μ',D0,S',M',h,cl.same ss⟩
theorem qiY (he:DE K X e te):DS K X (.Return (some e) pos) (fun D=>Wks (dRet te D)):=ds_wk (qR he)
theorem Wk.frz {ρ:Rho}{μ1 μ2:Mu}{p:Addr}{ds:List PyData}(i:Nat) (hi:ρ[i]?=some (some (.m p))):Wk ρ (μ1++(p,.lst ds)::μ2) (ρ.set i (some (.d (.list ds)))) (μ1++μ2):=fun K σ H h1 h2=>by
 obtain ⟨M',s,hn⟩:=h2.drop
 obtain ⟨xs,e,hs⟩:=h2.ob p (.lst ds) (by simp)
 refine ⟨⟨by rw [List.length_set];exact h1.len,fun j e' q=>?_⟩,M',s⟩
 by_cases c:j=i
 ·subst c
  have hlt:j<ρ.length:=(qp.mp hi).1
  rw [List.getElem?_set_self hlt] at q
  cases q
  obtain ⟨v,e1,e2⟩:=h1.get j _ hi
  have e2:v=_:=e2
  subst e2
  exact ⟨_,e1,.lst (SqL.of (by rw [yR hn];exact e)) (IsAll.same s hs)⟩
 ·rw [List.getElem?_set_ne (by omega)] at q
  obtain ⟨v,e1,e2⟩:=h1.get j _ q
  exact ⟨v,e1,e2.same s⟩
theorem Wk.frz1 {ρ:Rho}{μ2:Mu}{p:Addr}{ds:List PyData}(i:Nat) (hi:ρ[i]?=some (some (.m p))):Wk ρ ((p,.lst ds)::μ2) (ρ.set i (some (.d (.list ds)))) μ2:=Wk.frz (μ1:=[]) i hi
theorem qkq (hu:X.A.units+66<cLine):OpR X (compareOp .In) (fun x y H Q=>∃ d ds,Is X.K H x d/\Is X.K H y (.tuple ds)/\SeqAt.shaped d=true/\PyData.canLayAll0 ds=true/\Q (.bl (ds.any fun z=>z.eqv d)) H):=by
 intro pins s σ H x y v u Q I rx ry h
 obtain ⟨d,ds,h1,h2,h3,h4,q⟩:=h
 obtain ⟨as,ra⟩:=h1.reads I rx
 obtain ⟨bs,rb⟩:=h2.reads I ry
 unfold SeqAt.shaped at h3
 rw [Bool.and_eq_true] at h3
 have hd:=qy h3.2
 exact SeqAt.in_tuple_reads rb ra h4 h3.1 (by omega) ⟨.bl _,H,I,rfl,q⟩
def rdInT:R2d:=fun x y μ Q=>∃ d ds,x = .d d/\y = .d (.tuple ds)/\SeqAt.shaped d=true/\PyData.canLayAll0 ds=true/\Q (.d (.bool (ds.any fun z=>z.eqv d))) μ
theorem qlh (hu:X.A.units+66<cLine) (hK:X.K=K:=by rfl):OpR X (compareOp .In) (upR K rdInT):=by
 subst hK
 refine (qkq hu).mono fun x y H Q h=>?_
 obtain ⟨μ,e,e',Q0,M,i1,i2,q,cl⟩:=h
 obtain ⟨d,ds,rfl,rfl,h3,h4,q⟩:=q
 exact ⟨d,ds,Is.same yN i1,Is.same yN i2,h3,h4,cl _ μ _ H q M (yc.refl _) (.bl _)⟩
end
end L2
namespace K75
open PySem L2
section
variable {P:Program}{w:World}{K:W.Frag}{mg:Str->Option Value}{base:Heap}{CX:CXT}
theorem qdy (q:Pt):∀ {l:List Pt},l≠[]->Yx q l≠[]
 | [],h=>absurd rfl h
 | [a],_=>by unfold Yx;simp
 | b::a::t,_=>by
  unfold Yx
  split
  ·exact qdy q (by simp)
  ·simp
theorem qfz {row:List Pt}(h:2<=row.length):outer row≠[]:=by
 obtain ⟨qs,q,rfl⟩:∃ qs q,row=qs++[q]:=by
  rcases List.eq_nil_or_concat row with rfl | ⟨qs,q,e⟩
  ·exact absurd h (by decide)
  ·exact ⟨qs,q,by rw [e,List.concat_eq_append]⟩
 have hq:qs≠[]:=fun z=>by rw [z] at h;exact absurd (show 2<=1 from h) (by decide)
 obtain ⟨s,S,e,_⟩:=qcY hq
 unfold outer
 rw [Jt,List.tail_cons]
 intro z
 have:=(List.append_eq_nil_iff.mp z).1
 rw [List.reverse_eq_nil_iff] at this
 exact qdy q (by rw [e];simp) this
theorem qe3 {Z:List Pt}(hn:Z.Nodup) (h3:3<=Z.length) (k:Nat) (x:Pt) {row:List Pt}(hm:∀ p,p∈row ↔ p∈Z.set k x):2<=row.length:=by
 have key:∀ i j:Nat,i<Z.length->j<Z.length->i≠j->i≠k->j≠k->2<=row.length:=fun i j hi hj hij hik hjk=>by
  have mem:∀ i (hi:i<Z.length),i≠k->Z[i]∈row:=fun i hi hik=>by
   refine (hm _).mpr ?_
   have:(Z.set k x)[i]?=some Z[i]:=by rw [List.getElem?_set_ne (by omega),List.getElem?_eq_getElem hi]
   exact List.mem_of_getElem? this
  have m1:=mem i hi hik
  have m2:=mem j hj hjk
  have ne:Z[i]≠Z[j]:=fun z=>hij ((List.getElem_inj hn).mp z)
  match row,m1,m2 with
  | [],m1,_=>exact nomatch m1
  | [a],m1,m2=>exact absurd ((qE.mp m1).trans (qE.mp m2).symm) ne
  | a::b::t,_,_=>simp
 by_cases c0:k=0
 ·exact key 1 2 (by omega) (by omega) (by decide) (by omega) (by omega)
 ·by_cases c1:k=1
  ·exact key 0 2 (by omega) (by omega) (by decide) (by omega) (by omega)
  ·exact key 0 1 (by omega) (by omega) (by decide) (by omega) (by omega)
def qlH (Z:List Pt) (v:Pt) (W:List Pt) (b:Bool):Prop:=W≠[]/\W.length<=100/\((∀ q∈W,Z9 q)->2<W.length->Ck W/\(b=true->∀ t,FF W v t=FF Z v t))
def sSec:SpD:=fun es μ Q=>∃ (p:Addr) (Z:List Pt) (v:Pt),es=[.m p,.d (hpD Z),.d (ptD v)]/\(p,PA0)∈μ/\Ck Z/\Ar v/\∀ (W:List Pt) (b:Bool),qlH Z v W b->Q (.d (.tuple [hpD W,.bool b])) μ
theorem qgu:FnScope ["_law_pot_here", "_law_cake_here", "_law_arrow_here", "_law_pick", "_law_by", "_law_turned", "_law_found"] ["_law_pot_here", "_law_cake_here", "_law_arrow_here"] (qt yw):=⟨rfl,rfl,rfl,by decide +kernel,rfl,by decide +kernel,by decide +kernel⟩
theorem qkv {f:Addr}{fd:FuncData}(F:Fun K "_law_second" "_law_second" yw f fd) (T:Txt mg) (hX:NoX CX) (O_law_take:Own P w K mg base CX 1 "_law_take" ["_law_pot_here", "_law_many"] (qW K (sDraw 2147483629))) (O_law_cake:Own P w K mg base CX 4 "_law_cake" ["_law_pot_here"] (qW K qfe)) (O_law_outer:Own P w K mg base CX 3 "_law_outer" ["_law_some"] (qW K qlW)):FnOk P w K mg base CX 5 f fd ["_law_pot_here", "_law_cake_here", "_law_arrow_here"] (qW K sSec):=by
 refine F.okD qgu (fun es μ Q hq0=>by obtain ⟨p,Z,v,e,_⟩:=hq0;subst e;rfl) (fun cdv A outr s H E es μ Q hr hq0=>?_)
 obtain ⟨p,Z,v,e,hp,hc,hv,k⟩:=hq0
 subst e
 have nd:=qgu.nd
 have l3:=hc.2.1
 have l12:=hc.2.2.1
 have lz:(Z.map ptD).length<=4000:=by rw [List.length_map];omega
 have ne_map:∀ f:Pt->Pt,Z.map f≠[]:=fun f z=>by have z:Z=[]:=List.map_eq_nil_iff.mp z;rw [z] at l3;exact absurd l3 (by decide)
 have mapE:∀ f:Pt->Pt,Z.map (fun q=>ptD (f q))=(Z.map f).map ptD:=fun f=>by rw [List.map_map];rfl
 have key:∃ t,DSs K (qcE CX P w K mg base ["_law_pot_here", "_law_cake_here", "_law_arrow_here", "_law_pick", "_law_by", "_law_turned", "_law_found"] "_law_second" (qt yw) f cdv A outr s H E).nox ((y7 yw).drop 5) t ∧
   ∀ pick b:Int,t { nx:=fun _ μ'=>Q (.d .none) μ',rt:=Q } [some (.m p),some (.d (hpD Z)),some (.d (ptD v)),some (.d (.int pick)),some (.d (.int b)),none,none] μ:=by
  refine ⟨_,(qr (jS (yj (YC hr.units) (dv 3) qu (qY _)) (qr (qP (i:=6) nd rfl (by first | exact Or.inl rfl | exact Or.inr rfl) (jR qf1 (by rfl) T.list_ Yt (qa (dv 1) qd)))
   (qr (jt (yC (qa (qO yx (jh qN (jh qN (dv 6) (qO Y9 (dv 4) (qQ jZ (by rfl) T.len_ j5 (qa (dv 6) qd))) (fun _ _=>rfl)) qu (fun _ _=>rfl)) qu) (qa (jh qN (jh qN (dv 6) (qO Y9 (dv 4) (qQ jZ (by rfl) T.len_ j5 (qa (dv 6) qd))) (fun _ _=>rfl)) qu (fun _ _=>rfl)) qd))) (qlj (dv 6) (qO Y9 (dv 4) (qQ jZ (by rfl) T.len_ j5 (qa (dv 6) qd)))))
   (qH (qiY (yC (qa (qS O_law_outer hX (hr.mono (by decide)) rfl (qa (dv 6) qd)) (qa qhn qd))))))) y8)
   (qH (qR (yC (qa (qS O_law_cake hX (hr.mono (by decide)) rfl (qa (dv 0) qd)) (qa qhn qd)))))),fun pick b=>jB (fun _=>?_) (fun _=>?_)⟩
  ·refine ⟨_,.l (.d _),fun l hl=>?_⟩
   dsimp only [List.set_cons_zero,List.set_cons_succ]
   have zp:(0:Int)<(((Z.map ptD).length:Nat):Int):=by rw [List.length_map];omega
   have zl:(((Z.map ptD).length:Nat):Int)=(Z.length:Int):=by rw [List.length_map]
   obtain ⟨i,ei,hi⟩:∃ i:Nat,b % (((Z.map ptD).length:Nat):Int)=(i:Int)/\i<Z.length:=by
    have h1:=Int.emod_nonneg b (show (((Z.map ptD).length:Nat):Int)≠0 by omega)
    have h2:=Int.emod_lt_of_pos b zp
    exact ⟨(b % (((Z.map ptD).length:Nat):Int)).toNat,by omega,by omega⟩
   have ai:atI (Z.map ptD) (b % (((Z.map ptD).length:Nat):Int))=some (ptD (gP Z i)):=by
    rw [ei]
    have:=qga (ps:=Z) hi
    rwa [Int.zero_add] at this
   have mem:LstOf ((l,.lst (Z.map ptD))::μ) (.m l) (Z.map ptD):=.m ql
   refine ⟨_,.l mem,zp,_,_,ql,ai,_,rfl,_,.l mem,zp,_,_,ql,ai,_,rfl,zl2,?_⟩
   have bq:Bd B39 ((gP Z i).1+1,(gP Z i).2):=by
    obtain ⟨⟨x1,x2⟩,x3,x4⟩:=hc.2.2.2 _ (js hi)
    exact ⟨by show ((gP Z i).1+1).natAbs<=1000000000000000000000000000000000000000;omega,by show (gP Z i).2.natAbs<=1000000000000000000000000000000000000000;omega⟩
   have es:(Z.map ptD).set (b % (((Z.map ptD).length:Nat):Int)).toNat (.tuple [.int ((gP Z i).1+1),.int (gP Z i).2])=(Z.set i ((gP Z i).1+1,(gP Z i).2)).map ptD:=by
    rw [ei,List.map_set]
    rfl
   refine ⟨_,.l mem,zp,[],μ,_,rfl,by rw [ei];omega,by rw [ei,List.length_map];omega,?_⟩
   rw [es]
   refine ⟨_,_,Wk.frz1 6 rfl,?_⟩
   dsimp only [List.set_cons_zero,List.set_cons_succ]
   refine ⟨Z.set i ((gP Z i).1+1,(gP Z i).2),rfl,by rw [List.length_set];omega,fun q hq=>?_,fun row ha hm hlr=>⟨zl2,k _ false ⟨qfz (qe3 (J4 hc.1 l3) l3 i _ hm),?_,fun hn h2=>⟨⟨Jn ha,by omega,?_,hn⟩,fun z=>nomatch z⟩⟩⟩⟩
   ·rcases List.mem_or_eq_of_mem_set hq with z | z
    ·exact JN (hc.2.2.2 q z)
    ·rw [z];exact bq
   ·rw [List.length_set] at hlr
    rcases jM (outer row).length 3 with z | z
    ·omega
    ·have hol:(outer row).length<=row.length:=jX (J4 (Jn ha) (by omega)) fun q hq'=>JZ hq'
     omega
   ·rw [List.length_set] at hlr
    have hol:(outer row).length<=row.length:=jX (J4 (Jn ha) (by omega)) fun q hq'=>JZ hq'
    omega
  ·exact ⟨p,rfl,hp,fun Z2 h2=>⟨zl2,k Z2 false ⟨fun z=>(by rw [z] at h2;exact absurd h2.2.1 (by decide)),(by have:=h2.2.2.1;omega),fun _ _=>⟨h2,fun z=>nomatch z⟩⟩⟩⟩
 obtain ⟨t,ht,hk⟩:=key
 refine ⟨_,(qr (qP (i:=3) nd rfl (by first | exact Or.inl rfl | exact Or.inr rfl) (qS O_law_take hX (hr.mono (by decide)) rfl (qa (dv 0) (qa qu qd))))
   (qr (qP (i:=4) nd rfl (by first | exact Or.inl rfl | exact Or.inr rfl) (qO yl (qS O_law_take hX (hr.mono (by decide)) rfl (qa (dv 0) (qa qu qd))) qu))
   (qr (jS (yj (YC hr.units) (dv 3) qu (qY _)) (qH (qR (yC (qa (j4 (L:=["_law_x", "_law_y"]) (sc:=qt yw) (N:=["_law_pot_here", "_law_cake_here", "_law_arrow_here", "_law_pick", "_law_by", "_law_turned", "_law_found"]) rfl rfl rfl (by decide +kernel) (y6 (dv 1)) (fun _ _ _ _ _=>(yP (n:=2) rfl (qv (qw (i:=7) (show List.Nodup (["_law_pot_here", "_law_cake_here", "_law_arrow_here", "_law_pick", "_law_by", "_law_turned", "_law_found", "_law_x", "_law_y"]:List Str) from by decide +kernel) rfl (by first | exact Or.inl rfl | exact Or.inr rfl)) (qv (qw (i:=8) (show List.Nodup (["_law_pot_here", "_law_cake_here", "_law_arrow_here", "_law_pick", "_law_by", "_law_turned", "_law_found", "_law_x", "_law_y"]:List Str) from by decide +kernel) rfl (by first | exact Or.inl rfl | exact Or.inr rfl)) yk)))) (fun _ _ _ _ _=>jg) (fun _ _ _ _ _=>(yC (qa (qO yl (dv 7) (qO qA (dv 4) (jh qN (dv 2) qu (fun _ _=>rfl)))) (qa (qO yx (dv 8) (qO qA (dv 4) (jh qN (dv 2) qu (fun _ _=>rfl)))) qd))))) (qa qhn qd))))) y8)
   (qr (jS (yj (YC hr.units) (dv 3) qu (qY _)) (qH (qR (yC (qa (j4 (L:=["_law_x", "_law_y"]) (sc:=qt yw) (N:=["_law_pot_here", "_law_cake_here", "_law_arrow_here", "_law_pick", "_law_by", "_law_turned", "_law_found"]) rfl rfl rfl (by decide +kernel) (y6 (dv 1)) (fun _ _ _ _ _=>(yP (n:=2) rfl (qv (qw (i:=7) (show List.Nodup (["_law_pot_here", "_law_cake_here", "_law_arrow_here", "_law_pick", "_law_by", "_law_turned", "_law_found", "_law_x", "_law_y"]:List Str) from by decide +kernel) rfl (by first | exact Or.inl rfl | exact Or.inr rfl)) (qv (qw (i:=8) (show List.Nodup (["_law_pot_here", "_law_cake_here", "_law_arrow_here", "_law_pick", "_law_by", "_law_turned", "_law_found", "_law_x", "_law_y"]:List Str) from by decide +kernel) rfl (by first | exact Or.inl rfl | exact Or.inr rfl)) yk)))) (fun _ _ _ _ _=>jg) (fun _ _ _ _ _=>(yC (qa (YO yO (dv 7)) (qa (YO yO (dv 8)) qd))))) (qa qhn qd))))) y8)
   (qr (jS (qhh (Zq (yj qaD (dv 3) qu (qY _)) (Yp (yj (qlh hr.u66) qu (dv 2) rfl)))) (qr (qP (i:=5) nd rfl (by first | exact Or.inl rfl | exact Or.inr rfl) (qbj (yj (YC hr.units) (jh qN (dv 2) qu (fun _ _=>rfl)) qu (qY _)) (j4 (L:=["_law_x", "_law_y"]) (sc:=qt yw) (N:=["_law_pot_here", "_law_cake_here", "_law_arrow_here", "_law_pick", "_law_by", "_law_turned", "_law_found"]) rfl rfl rfl (by decide +kernel) (y6 (dv 1)) (fun _ _ _ _ _=>(yP (n:=2) rfl (qv (qw (i:=7) (show List.Nodup (["_law_pot_here", "_law_cake_here", "_law_arrow_here", "_law_pick", "_law_by", "_law_turned", "_law_found", "_law_x", "_law_y"]:List Str) from by decide +kernel) rfl (by first | exact Or.inl rfl | exact Or.inr rfl)) (qv (qw (i:=8) (show List.Nodup (["_law_pot_here", "_law_cake_here", "_law_arrow_here", "_law_pick", "_law_by", "_law_turned", "_law_found", "_law_x", "_law_y"]:List Str) from by decide +kernel) rfl (by first | exact Or.inl rfl | exact Or.inr rfl)) yk)))) (fun _ _ _ _ _=>jg) (fun _ _ _ _ _=>(yC (qa (dv 7) (qa (YO yO (dv 8)) qd))))) (j4 (L:=["_law_x", "_law_y"]) (sc:=qt yw) (N:=["_law_pot_here", "_law_cake_here", "_law_arrow_here", "_law_pick", "_law_by", "_law_turned", "_law_found"]) rfl rfl rfl (by decide +kernel) (y6 (dv 1)) (fun _ _ _ _ _=>(yP (n:=2) rfl (qv (qw (i:=7) (show List.Nodup (["_law_pot_here", "_law_cake_here", "_law_arrow_here", "_law_pick", "_law_by", "_law_turned", "_law_found", "_law_x", "_law_y"]:List Str) from by decide +kernel) rfl (by first | exact Or.inl rfl | exact Or.inr rfl)) (qv (qw (i:=8) (show List.Nodup (["_law_pot_here", "_law_cake_here", "_law_arrow_here", "_law_pick", "_law_by", "_law_turned", "_law_found", "_law_x", "_law_y"]:List Str) from by decide +kernel) rfl (by first | exact Or.inl rfl | exact Or.inr rfl)) yk)))) (fun _ _ _ _ _=>jg) (fun _ _ _ _ _=>(yC (qa (YO yO (dv 7)) (qa (dv 8) qd)))))))
   (qH (qR (yC (qa (qhm rfl (by rfl) T.list_ (by rfl) T.reversed_ (dv 5)) (qa qhn qd)))))) y8)
   ht))))),?_⟩
 refine ⟨p,_,rfl,hp,by decide,by decide,fun pick p0 p1=>⟨p,_,rfl,hp,by decide,by decide,fun b b0 b1=>?_⟩⟩
 dsimp only [List.set_cons_zero,List.set_cons_succ]
 have sb:Sz 5 (b - 4):=Sz.of 8 (by omega) (by decide)
 have sv1:Sz 40 v.1:=Sz.of 1000000000 hv.1.1 (by decide)
 have sv2:Sz 40 v.2:=Sz.of 1000000000 hv.1.2 (by decide)
 refine jB (fun _=>?_) (fun _=>jB (fun _=>?_) (fun _=>?_))
 ·refine ⟨_,.d _,lz,Za (as:=Z) (fun q=>ptD (q.1 - (b - 4) * v.2,q.2+(b - 4) * v.1)) Src.d (fun q hq R h=>⟨_,rfl,yQ sb sv2 (by decide),_,rfl,yQ sb sv1 (by decide),zl2,h⟩) ?_⟩
  rw [mapE fun q=>(q.1 - (b - 4) * v.2,q.2+(b - 4) * v.1)]
  refine ⟨zl2,k _ true ⟨ne_map _,by rw [List.length_map];omega,fun hn _=>⟨⟨qez (fun p q r=>by unfold ac;dsimp only;grind) hc.1,by rw [List.length_map];exact l3,by rw [List.length_map];exact l12,hn⟩,fun _ t=>qgi (by omega) v (b - 4) t⟩⟩⟩
 ·refine ⟨_,.d _,lz,Za (as:=Z) (fun q=>ptD (-q.1,-q.2)) Src.d (fun q hq R h=>⟨zl2,h⟩) ?_⟩
  rw [mapE fun q=>(-q.1,-q.2)]
  refine ⟨zl2,k _ false ⟨ne_map _,by rw [List.length_map];omega,fun hn _=>⟨⟨qez (fun p q r=>by unfold ac;dsimp only;grind) hc.1,by rw [List.length_map];exact l3,by rw [List.length_map];exact l12,hn⟩,fun z=>nomatch z⟩⟩⟩
 refine jB (fun _=>⟨_,_,rfl,rfl,rfl,rfl,jB (fun c=>?_) (fun _=>hk _ _)⟩) (fun _=>qbd (hk _ _))
 have c:(([PyData.int v.1,.int v.2].any fun z=>z.eqv (.int 0)):Bool)=true:=c
 have mir:∀ f:Pt->Pt,(∀ q,vl' v (f q)=vl' v q)->(∀ q,crs v (f q) = -crs v q)->(∀ p q,crs (f p) (f q)=crs q p)->(∀ p q r,ac (f p) (f q) (f r) = -ac p q r)->qlH Z v (Z.map f).reverse true:=fun f f1 f2 f3 f4=>by
  refine ⟨fun z=>ne_map f (List.reverse_eq_nil_iff.mp z),by rw [List.length_reverse,List.length_map];omega,fun hn _=>⟨⟨qi7 f4 hc.1 (by omega),by rw [List.length_reverse,List.length_map];exact l3,by rw [List.length_reverse,List.length_map];exact l12,hn⟩,fun _ t=>qlO (by omega) v f1 f2 f3 t⟩⟩
 refine ⟨_,rfl,jB (fun c2=>?_) (fun c2=>?_)⟩
 ·have c2:v.2=0:=qy c2
  refine ⟨_,.d _,lz,Za (as:=Z) (fun q=>ptD (q.1,-q.2)) Src.d (fun q hq R h=>⟨zl2,h⟩) ?_⟩
  rw [mapE fun q=>(q.1,-q.2)]
  refine ⟨_,.d _,zl2,?_⟩
  rw [<- List.map_reverse]
  refine k _ true (mir _ (fun q=>?_) (fun q=>?_) (fun p q=>?_) (fun p q r=>?_))
  ·unfold vl';dsimp only;rw [c2];omega
  ·unfold crs;dsimp only;rw [c2];grind
  ·unfold crs;dsimp only;grind
  ·unfold ac;dsimp only;grind
 ·have c2:¬ v.2=0:=fun z=>c2 (qm z)
  have c1:v.1=0:=by
   simp [PyData.eqv,c2] at c
   exact c
  refine ⟨_,.d _,lz,Za (as:=Z) (fun q=>ptD (-q.1,q.2)) Src.d (fun q hq R h=>⟨zl2,h⟩) ?_⟩
  rw [mapE fun q=>(-q.1,q.2)]
  refine ⟨_,.d _,zl2,?_⟩
  rw [<- List.map_reverse]
  refine k _ true (mir _ (fun q=>?_) (fun q=>?_) (fun p q=>?_) (fun p q r=>?_))
  ·unfold vl';dsimp only;rw [c1];omega
  ·unfold crs;dsimp only;rw [c1];grind
  ·unfold crs;dsimp only;grind
  ·unfold ac;dsimp only;grind
end
section
variable {P:Program}{w:World}{K:W.Frag}{mg:Str->Option Value}{base:Heap}{CX:CXT}
theorem qaZ (A B:List Pt):SeqAt.shaped (.list [hpD A,hpD B])=true:=by
 have d2:∀ A:List Pt,PyData.depthAll (A.map ptD)<=3:=fun A=>qaE (n:=2) (fun p=>by unfold ptD;simp [PyData.depth,PyData.depthAll]) A
 have h1:∀ A:List Pt,PyData.canLayAll0 (A.map ptD)=true:=fun A=>Zw (fun p=>rfl) A
 have dA:=d2 A
 have dB:=d2 B
 unfold SeqAt.shaped
 rw [Bool.and_eq_true]
 refine ⟨by unfold hpD;simp only [PyData.canLay0,PyData.canLayAll0,h1,Bool.and_self],qm ?_⟩
 unfold hpD
 simp only [PyData.depth,PyData.depthAll]
 omega
def qlK (Z1 Z2:List Pt) (v:Pt) (k:Int):Prop:=(k = -1/\LtC Z1 Z2 v)\/(k=1/\LtC Z2 Z1 v)\/(k=0/\¬ LtC Z1 Z2 v/\¬ LtC Z2 Z1 v)
theorem YB {Z1 Z2:List Pt}{v:Pt}{k:Int}(a:Ord Z1 Z2 v k):qlK Z1 Z2 v k:=by
 rcases a with a | a | ⟨e,a1,a2⟩
 ·exact .inl a
 ·exact .inr (.inl a)
 ·exact .inr (.inr ⟨e,fun z=>a1 (Zj z),fun z=>a2 (Zj z)⟩)
theorem jV {Z1 Z2:List Pt}(c1:Ck Z1) (c2:Ck Z2) {v:Pt}(hv:Ar v) {k k':Int}(a:qlK Z1 Z2 v k) (b:qlK Z1 Z2 v k'):k=k':=by
 rcases a with ⟨rfl,a⟩ | ⟨rfl,a⟩ | ⟨rfl,a1,a2⟩ <;> rcases b with ⟨rfl,b⟩ | ⟨rfl,b⟩ | ⟨rfl,b1,b2⟩
 ·rfl
 ·exact (Ym c1 c2 hv a (Zj b)).elim
 ·exact (b1 a).elim
 ·exact (Ym c1 c2 hv b (Zj a)).elim
 ·rfl
 ·exact (b2 a).elim
 ·exact (a1 b).elim
 ·exact (a2 b).elim
 ·rfl
theorem ZM {Z1 Z2:List Pt}(c1:Ck Z1) (c2:Ck Z2) {v:Pt}(a:LtC Z1 Z2 v):LtC Z2 Z1 (-v.1,-v.2):=by
 obtain ⟨t,f1,f2⟩:=a
 have l1:=c1.2.1
 have l2:=c2.2.1
 refine ⟨-t,?_,?_⟩
 ·rw [qeW (by omega)];grind
 ·rw [qeW (by omega)];grind
theorem qbU {Z1 Z2:List Pt}(c1:Ck Z1) (c2:Ck Z2) {v:Pt}(a:LtC Z1 Z2 (-v.1,-v.2)):LtC Z2 Z1 v:=by
 have:=ZM c1 c2 a
 dsimp only at this
 rw [Int.neg_neg,Int.neg_neg] at this
 exact this
theorem jW {Z1 Z2:List Pt}(c1:Ck Z1) (c2:Ck Z2) {v:Pt}{k:Int}(a:qlK Z1 Z2 v k):qlK Z1 Z2 (-v.1,-v.2) (-k):=by
 rcases a with ⟨rfl,a⟩ | ⟨rfl,a⟩ | ⟨rfl,a1,a2⟩
 ·exact .inr (.inl ⟨rfl,ZM c1 c2 a⟩)
 ·exact .inl ⟨rfl,ZM c2 c1 a⟩
 ·exact .inr (.inr ⟨rfl,fun z=>a2 (qbU c1 c2 z),fun z=>a1 (qbU c2 c1 z)⟩)
theorem qim {Z1 Z2:List Pt}{v:Pt}{j:Int}(h:Ord Z1 Z2 v j):j = -1\/j=0\/j=1:=by
 rcases h with ⟨e,_⟩ | ⟨e,_⟩ | ⟨e,_⟩
 ·exact .inl e
 ·exact .inr (.inr e)
 ·exact .inr (.inl e)
theorem qbP {Z1 Z2:List Pt}{v:Pt}(h:∀ t,FF Z2 v t=FF Z1 v t) {j:Int}(o:Ord Z1 Z2 v j):j=0:=by
 rcases o with ⟨_,t,f1,f2⟩ | ⟨_,t,f1,f2⟩ | ⟨e,_⟩
 ·rw [h t] at f2;grind
 ·rw [h t] at f1;grind
 ·exact e
theorem qin {Z1 Z2:List Pt}(c1:Ck Z1) (c2:Ck Z2) {v:Pt}(hv:Ar v) {j:Int}(o:Ord Z1 Z2 v j):(LtW Z1 Z2 v->j = -1)/\(LtW Z2 Z1 v->j=1):=by
 rcases o with ⟨e,a⟩ | ⟨e,a⟩ | ⟨e,a,b⟩
 ·exact ⟨fun _=>e,fun z=>(Ym c1 c2 hv a z).elim⟩
 ·exact ⟨fun z=>(Ym c2 c1 hv a z).elim,fun _=>e⟩
 ·exact ⟨fun z=>(a z).elim,fun z=>(b z).elim⟩
def qdd:SpD:=fun es μ Q=>∃ p:Addr,es=[.m p]/\(p,PA0)∈μ/\Q (.d (.bool true)) μ
theorem qby:FnScope ["_law_pot_here", "_law_one", "_law_arrow_here", "_law_two", "_law_is_shown", "_law_handed", "_law_told", "_law_due"] ["_law_pot_here"] (qt y4):=⟨rfl,rfl,rfl,by decide +kernel,rfl,by decide +kernel,by decide +kernel⟩
theorem qfD {f:Addr}{fd:FuncData}(F:Fun K "_law_right" "_law_right" y4 f fd) (T:Txt mg) (hX:NoX CX) (O_law_take:Own P w K mg base CX 1 "_law_take" ["_law_pot_here", "_law_many"] (qW K (sDraw 2147483629))) (O_law_cake:Own P w K mg base CX 4 "_law_cake" ["_law_pot_here"] (qW K qfe)) (O_law_arrow:Own P w K mg base CX 2 "_law_arrow" ["_law_pot_here"] (qW K sArw)) (O_law_second:Own P w K mg base CX 5 "_law_second" ["_law_pot_here", "_law_cake_here", "_law_arrow_here"] (qW K sSec)) (O_law_are_points:Own P w K mg base CX 1 "_law_are_points" ["_law_some"] (qW K sArp)) (Ocut_order:Own P w K mg base CX 9 "cut_order" ["one", "other", "arrow"] (qW K sOrd)) (O_law_is_sign:Own P w K mg base CX 1 "_law_is_sign" ["_law_found"] (qW K sIsg)) (O_law_order:Own P w K mg base CX 6 "_law_order" ["_law_one", "_law_two", "_law_arrow_here"] (qW K sOdr)):FnOk P w K mg base CX 10 f fd ["_law_pot_here"] (qW K qdd):=by
 refine F.okD qby (fun es μ Q hq0=>by obtain ⟨p,e,_⟩:=hq0;subst e;rfl) (fun cdv A outer s H E es μ Q hr hq0=>?_)
 obtain ⟨p,e,hp,k⟩:=hq0
 subst e
 have nd:=qby.nd
 have key:∃ t,DSs K (qcE CX P w K mg base ["_law_pot_here", "_law_one", "_law_arrow_here", "_law_two", "_law_is_shown", "_law_handed", "_law_told", "_law_due"] "_law_right" (qt y4) f cdv A outer s H E).nox ((y7 y4).drop 5) t ∧
   ∀ (Z1 Z2:List Pt) (v:Pt) (b:Bool),Ck Z1->Ck Z2->Ar v->(b=true->∀ t,FF Z2 v t=FF Z1 v t)->t { nx:=fun _ μ'=>Q (.d .none) μ',rt:=Q } [some (.m p),some (.d (hpD Z1)),some (.d (ptD v)),some (.d (hpD Z2)),some (.d (.bool b)),none,none,none] μ:=by
  refine ⟨_,(qr (qP (i:=5) nd rfl (by first | exact Or.inl rfl | exact Or.inr rfl) (qey (qa (jR ZT (by rfl) T.list_ Yt (qa (dv 1) qd)) (qa (jR ZT (by rfl) T.list_ Yt (qa (dv 3) qd)) qd))))
   (qr (qP (i:=6) nd rfl (by first | exact Or.inl rfl | exact Or.inr rfl) (qS Ocut_order hX (hr.mono (by decide)) rfl (qa (jh qN (dv 5) qu (fun _ _=>rfl)) (qa (jh qN (dv 5) qu (fun _ _=>rfl)) (qa (dv 2) qd)))))
   (qr (jS (qhh (qiX (qhi (qaC (qS O_law_is_sign hX (hr.mono (by decide)) rfl (qa (dv 6) qd)))) (qiX (yj (qbh hr.units) (dv 5) (qey (qa (dv 1) (qa (dv 3) qd))) (qY _)) (qhg (yj (qbh hr.units) (qS Ocut_order hX (hr.mono (by decide)) rfl (qa (dv 1) (qa (jR ZT (by rfl) T.list_ Yt (qa (dv 1) qd)) (qa (dv 2) qd)))) qu (qY _)))))) (qH (qR qhn)) y8)
   (qr (qP (i:=7) nd rfl (by first | exact Or.inl rfl | exact Or.inr rfl) (qS O_law_order hX (hr.mono (by decide)) rfl (qa (dv 1) (qa (dv 3) (qa (dv 2) qd)))))
   (qr (jS (qhh (qiX (qhh (Zq (yj qfV (dv 7) qln (qY _)) (Yp (yj (qbh hr.units) (dv 6) (dv 7) (qY _))))) (qhg (qhh (Zq (qaC (dv 4)) (Yp (yj (qbh hr.units) (dv 6) qu (qY _)))))))) (qH (qR qhn)) y8)
   (qH (qR (qf2 (qaF (YC hr.units) (qS Ocut_order hX (hr.mono (by decide)) rfl (qa (dv 3) (qa (dv 1) (qa (dv 2) qd)))) (YO yO (dv 6)) (qY _)) (qi2 (qaF (YC hr.units) (qS Ocut_order hX (hr.mono (by decide)) rfl (qa (dv 1) (qa (dv 3) (qa (yC (qa (YO yO (jh qN (dv 2) qu (fun _ _=>rfl))) (qa (YO yO (jh qN (dv 2) qu (fun _ _=>rfl))) qd))) qd)))) (YO yO (dv 6)) (qY _))))))))))),fun Z1 Z2 v b c1 c2 hv hb=>?_⟩
  refine ⟨_,.l (.d _),_,.l (.d _),zl2,_,rfl,_,rfl,Z1,Z2,v,rfl,c1,c2,hv,fun j hj=>?_⟩
  dsimp only [List.set_cons_zero,List.set_cons_succ]
  have hs0:b=true->j=0:=fun z=>qbP (hb z) hj
  have hl:=qin c1 c2 hv hj
  refine ⟨j,rfl,qim hj,zl2,_,_,.d _,.d _,qaZ Z1 Z2,qaZ Z1 Z2,jB (fun c=>?_) (fun _=>⟨_,.l (.d _),Z1,Z1,v,rfl,c1,c1,hv,fun i hi=>jB (fun c=>?_) (fun _=>?_)⟩)⟩
  ·have c:(!PyData.eqv (.list [hpD Z1,hpD Z2]) (.list [hpD Z1,hpD Z2]))=true:=c
   rw [qcm (qaZ Z1 Z2)] at c
   cases c
  ·have c:(!decide (i=0))=true:=c
   rw [qbP (fun _=>rfl) hi] at c
   cases c
  refine ⟨Z1,Z2,v,rfl,c1,c2,hv,?_,fun hlt=>?_,fun hlt=>?_⟩
  ·refine jB (fun cs=>jB (fun c=>?_) (fun _=>?_)) (fun cs=>qbd ?_)
   ·have c:(!decide (j=0))=true:=c
    rw [hs0 cs] at c
    cases c
   ·refine ⟨Z2,Z1,v,rfl,c2,c1,hv,fun i' hi'=>jB (fun _=>⟨_,rfl,_,rfl,zl2,Z1,Z2,(-v.1,-v.2),rfl,c1,c2,Ji hv,fun i2 hi2=>?_⟩) (fun c=>?_)⟩
    ·have e:i2 = -j:=jV c1 c2 (Ji hv) (YB hi2) (jW c1 c2 (YB hj))
     have e:decide (i2 = -j)=true:=qm e
     show Q (.d (.bool (decide (i2 = -j)))) μ
     rw [e]
     exact k
    ·exact absurd (qm (Jx c2 c1 hv hi' (Jy hj))) c
   ·refine ⟨Z2,Z1,v,rfl,c2,c1,hv,fun i' hi'=>jB (fun _=>⟨_,rfl,_,rfl,zl2,Z1,Z2,(-v.1,-v.2),rfl,c1,c2,Ji hv,fun i2 hi2=>?_⟩) (fun c=>?_)⟩
    ·have e:i2 = -j:=jV c1 c2 (Ji hv) (YB hi2) (jW c1 c2 (YB hj))
     have e:decide (i2 = -j)=true:=qm e
     show Q (.d (.bool (decide (i2 = -j)))) μ
     rw [e]
     exact k
    ·exact absurd (qm (Jx c2 c1 hv hi' (Jy hj))) c
  ·refine jB (fun c=>?_) (fun _=>?_)
   ·have c:(!decide (j = -1))=true:=c
    rw [hl.1 hlt] at c
    cases c
   refine jB (fun cs=>jB (fun c=>?_) (fun _=>?_)) (fun cs=>qbd ?_)
   ·have c:(!decide (j=0))=true:=c
    rw [hs0 cs] at c
    cases c
   ·refine ⟨Z2,Z1,v,rfl,c2,c1,hv,fun i' hi'=>jB (fun _=>⟨_,rfl,_,rfl,zl2,Z1,Z2,(-v.1,-v.2),rfl,c1,c2,Ji hv,fun i2 hi2=>?_⟩) (fun c=>?_)⟩
    ·have e:i2 = -j:=jV c1 c2 (Ji hv) (YB hi2) (jW c1 c2 (YB hj))
     have e:decide (i2 = -j)=true:=qm e
     show Q (.d (.bool (decide (i2 = -j)))) μ
     rw [e]
     exact k
    ·exact absurd (qm (Jx c2 c1 hv hi' (Jy hj))) c
   ·refine ⟨Z2,Z1,v,rfl,c2,c1,hv,fun i' hi'=>jB (fun _=>⟨_,rfl,_,rfl,zl2,Z1,Z2,(-v.1,-v.2),rfl,c1,c2,Ji hv,fun i2 hi2=>?_⟩) (fun c=>?_)⟩
    ·have e:i2 = -j:=jV c1 c2 (Ji hv) (YB hi2) (jW c1 c2 (YB hj))
     have e:decide (i2 = -j)=true:=qm e
     show Q (.d (.bool (decide (i2 = -j)))) μ
     rw [e]
     exact k
    ·exact absurd (qm (Jx c2 c1 hv hi' (Jy hj))) c
  ·refine jB (fun c=>?_) (fun _=>?_)
   ·have c:(!decide (j=1))=true:=c
    rw [hl.2 hlt] at c
    cases c
   refine jB (fun cs=>jB (fun c=>?_) (fun _=>?_)) (fun cs=>qbd ?_)
   ·have c:(!decide (j=0))=true:=c
    rw [hs0 cs] at c
    cases c
   ·refine ⟨Z2,Z1,v,rfl,c2,c1,hv,fun i' hi'=>jB (fun _=>⟨_,rfl,_,rfl,zl2,Z1,Z2,(-v.1,-v.2),rfl,c1,c2,Ji hv,fun i2 hi2=>?_⟩) (fun c=>?_)⟩
    ·have e:i2 = -j:=jV c1 c2 (Ji hv) (YB hi2) (jW c1 c2 (YB hj))
     have e:decide (i2 = -j)=true:=qm e
     show Q (.d (.bool (decide (i2 = -j)))) μ
     rw [e]
     exact k
    ·exact absurd (qm (Jx c2 c1 hv hi' (Jy hj))) c
   ·refine ⟨Z2,Z1,v,rfl,c2,c1,hv,fun i' hi'=>jB (fun _=>⟨_,rfl,_,rfl,zl2,Z1,Z2,(-v.1,-v.2),rfl,c1,c2,Ji hv,fun i2 hi2=>?_⟩) (fun c=>?_)⟩
    ·have e:i2 = -j:=jV c1 c2 (Ji hv) (YB hi2) (jW c1 c2 (YB hj))
     have e:decide (i2 = -j)=true:=qm e
     show Q (.d (.bool (decide (i2 = -j)))) μ
     rw [e]
     exact k
    ·exact absurd (qm (Jx c2 c1 hv hi' (Jy hj))) c
 obtain ⟨t,ht,hk⟩:=key
 have key2:∃ t,DSs K (qcE CX P w K mg base ["_law_pot_here", "_law_one", "_law_arrow_here", "_law_two", "_law_is_shown", "_law_handed", "_law_told", "_law_due"] "_law_right" (qt y4) f cdv A outer s H E).nox ((y7 y4).drop 3) t ∧
   ∀ (Z1:List Pt) (v:Pt),Ck Z1->Ar v->t { nx:=fun _ μ'=>Q (.d .none) μ',rt:=Q } [some (.m p),some (.d (hpD Z1)),some (.d (ptD v)),none,none,none,none,none] μ:=by
  refine ⟨_,(qr (jt (qS O_law_second hX (hr.mono (by decide)) rfl (qa (dv 0) (qa (dv 1) (qa (dv 2) qd)))) (yP (n:=2) rfl (qv (qw (i:=3) nd rfl (by first | exact Or.inl rfl | exact Or.inr rfl)) (qv (qw (i:=4) nd rfl (by first | exact Or.inl rfl | exact Or.inr rfl)) yk))))
   (qr (jS (qhi (qaC (qS O_law_are_points hX (hr.mono (by decide)) rfl (qa (dv 3) qd)))) (qH (Y7 (i:=3) (j:=4) rfl nd rfl rfl (by decide) rfl rfl (qa (jR ZT (by rfl) T.list_ Yt (qa (dv 1) qd)) (qa qhn qd)) rfl)) y8)
   ht)),fun Z1 v c1 hv=>?_⟩
  refine ⟨p,Z1,v,rfl,hp,c1,hv,fun W b ⟨w1,w2,w3⟩=>⟨rfl,?_⟩⟩
  dsimp only [List.set_cons_zero,List.set_cons_succ]
  refine ⟨W,rfl,w1,w2,fun hn h2=>qbd ?_,qfN ?_⟩
  ·obtain ⟨ck,hb⟩:=w3 hn h2
   exact hk Z1 W v b c1 ck hv hb
  ·exact ⟨_,.l (.d _),hk Z1 Z1 v true c1 c1 hv fun _ _=>rfl⟩
 obtain ⟨t2,ht,hk2⟩:=key2
 refine ⟨_,(qr (qP (i:=1) nd rfl (by first | exact Or.inl rfl | exact Or.inr rfl) (qS O_law_cake hX (hr.mono (by decide)) rfl (qa (dv 0) qd)))
   (qr (qP (i:=2) nd rfl (by first | exact Or.inl rfl | exact Or.inr rfl) (qS O_law_arrow hX (hr.mono (by decide)) rfl (qa (dv 0) qd)))
   (qr (jS (yj (YC hr.units) (qS O_law_take hX (hr.mono (by decide)) rfl (qa (dv 0) (qa qu qd))) qu (qY _)) (qH (qP (i:=2) nd rfl (by first | exact Or.inl rfl | exact Or.inr rfl) (jh qN (qey (qa (yC (qa qu (qa qu qd))) (qa (yC (qa qu (qa qu qd))) (qa (yC (qa (YO yO qu) (qa qu qd))) (qa (yC (qa qu (qa (YO yO qu) qd))) qd))))) (qS O_law_take hX (hr.mono (by decide)) rfl (qa (dv 0) (qa qu qd))) (fun _ _=>rfl)))) y8)
   ht))),?_⟩
 refine ⟨p,rfl,hp,fun Z1 c1=>⟨p,rfl,hp,fun v hv=>?_⟩⟩
 dsimp only [List.set_cons_zero,List.set_cons_succ]
 refine ⟨p,_,rfl,hp,by decide,by decide,fun c c0 c1'=>jB (fun _=>?_) (fun _=>hk2 Z1 v c1 hv)⟩
 refine ⟨zl2,zl2,zl2,zl2,zl4,p,_,rfl,hp,by decide,by decide,fun i i0 i1=>?_⟩
 have:i=0\/i=1\/i=2\/i=3:=by omega
 rcases this with rfl | rfl | rfl | rfl
 ·exact ⟨_,rfl,hk2 Z1 (1,0) c1 ⟨⟨by decide,by decide⟩,by decide⟩⟩
 ·exact ⟨_,rfl,hk2 Z1 (0,1) c1 ⟨⟨by decide,by decide⟩,by decide⟩⟩
 ·exact ⟨_,rfl,hk2 Z1 (-1,0) c1 ⟨⟨by decide,by decide⟩,by decide⟩⟩
 ·exact ⟨_,rfl,hk2 Z1 (0,-1) c1 ⟨⟨by decide,by decide⟩,by decide⟩⟩
end
section
variable {P:Program}{w:World}{K:W.Frag}{mg:Str->Option Value}{base:Heap}{CX:CXT}
theorem qgD:FnScope ["_law_script"] ["_law_script"] (qt qeY):=⟨rfl,rfl,rfl,by decide +kernel,rfl,by decide +kernel,by decide +kernel⟩
theorem qkE {f:Addr}{fd:FuncData}(F:Fun K "law" "law" qeY f fd) (T:Txt mg) (hX:NoX CX) (O_law_pot:Own P w K mg base CX 1 "_law_pot" ["_law_script", "_law_k"] (qW K sPot)) (O_law_right:Own P w K mg base CX 10 "_law_right" ["_law_pot_here"] (qW K qdd)):FnOk P w K mg base CX 11 f fd ["_law_script"] (qW K sLaw):=by
 refine F.okD qgD (fun es μ Q hq0=>by obtain ⟨ns,e,_⟩:=hq0;subst e;rfl) (fun cdv A outer s H E es μ Q hr hq0=>?_)
 obtain ⟨ns,e,hl,e0,k⟩:=hq0
 subst e e0
 have nd:=qgD.nd
 refine ⟨_,(qH (qR (qQ (qlm rfl) (by rfl) T.all_ qlx (qa (j4 (L:=["_law_k"]) (sc:=qt qeY) (N:=["_law_script"]) rfl rfl rfl (by decide +kernel) (jY rfl T.range_ (qa (qQ (qb6 rfl) (by rfl) T.max_ Zb (qa qu (qa (qQ (qhj rfl) (by rfl) T.min_ qb9 (qa (qQ jZ (by rfl) T.len_ j5 (qa (dv 0) qd)) (qa qu qd))) qd))) qd)) (fun _ _ _ _ _=>(qw (i:=1) (show List.Nodup (["_law_script", "_law_k"]:List Str) from by decide +kernel) rfl (by first | exact Or.inl rfl | exact Or.inr rfl))) (fun _ _ _ _ _=>jg) (fun _ _ _ _ _=>(qS O_law_right hX (hr.mono (by decide)) rfl (qa (qS O_law_pot hX (hr.mono (by decide)) rfl (qa (dv 0) (qa (dv 1) qd))) qd)))) qd)))),?_⟩
 refine ⟨_,.l (.d _),?_⟩
 rw [List.length_map]
 obtain ⟨m,em,hm⟩:∃ m:Int,(if (1:Int)<(if (2:Int)<(ns.length:Int) then 2 else (ns.length:Int)) then (if (2:Int)<(ns.length:Int) then 2 else (ns.length:Int)) else 1)=m/\(1<=m/\m<=2):=⟨_,rfl,by split <;> (try split) <;> omega⟩
 refine ⟨?_,?_,?_,fun i ys ρ' μ'=>ys=(List.replicate i true).map PyData.bool/\∃ v,ρ'=[some (.d (.list (ns.map .int))),v],⟨rfl,_,rfl⟩,fun _ _ _ _ _ _=>trivial,?_,?_⟩
 ·exact le_of_le_of_eq (show -(2 ^ 62)<=m by omega) em.symm
 ·exact lt_of_eq_of_lt em (show m<2 ^ 62 by omega)
 ·exact le_of_eq_of_le (congrArg Int.toNat em) (show m.toNat<=4000 by omega)
 ·rintro i ys ρ' μ' hi ⟨rfl,v,rfl⟩
  have hi:i<Int.toNat _:=hi
  have hi2:i<m.toNat:=lt_of_lt_of_eq hi (congrArg Int.toNat em)
  refine ⟨ns,i,(by show [_,En.d (PyData.int (0+(i:Int)))]=_;simp),hl,by omega,fun p hp=>⟨p,rfl,ql,_,rfl,?_,_,rfl⟩⟩
  rw [List.replicate_succ',List.map_append]
  rfl
 ·rintro ys ρ' μ' ⟨rfl,v,rfl⟩
  refine ⟨_,.d _,?_⟩
  have e:∀ n,(List.replicate n true).all id=true:=fun n=>by simp
  change Q (.d (.bool ((List.replicate _ true).all id))) _
  rw [e]
  exact k _
end
structure FIn (K:W.Frag) (x:Str) (st:Stmt) (f:Addr) (fd:FuncData):Prop where
 a:W.nsIn K mainGlobals x=some (some (.ref f))
 F:Fun K x x st f fd
 k:W.keepIn K (.ref f)=true
theorem fin_mk {K:W.Frag}{x:Str}{st:Stmt}{f:Addr}{oc:Value}{od an:Option Addr}{sl:Array (Option Value)}{kV dc pm cd ct:Value}(a:W.nsIn K mainGlobals x=some (some (.ref f))) (l:K.lookup f=some ⟨oc,od,.func (W.fnOf x x (Jq st) (y7 st) (qt st) .none kV dc pm an cd ct),sl⟩) (c:W.codeIn K cd x=true) (k:W.keepIn K (.ref f)=true):FIn K x st f (W.fnOf x x (Jq st) (y7 st) (qt st) .none kV dc pm an cd ct):=⟨a,qhb l c k,k⟩
theorem all_mk {l:W.OpenLaw}{w:World}{K:W.Frag}{h:Heap}{mg:Str->Option Value}{fa:Addr}(X:K.In h) (G:h.Ns mainGlobals mg) (hfa:mg "law" = some (.ref fa))
  {f0 f1 f2 f3 f4 f5 f6 f7 f8 f9 f10 f11 f12 f13 f14 f15 f16 f17 f18 f19 f20 f21 f22 f23 f24 f25 f26 f27 f28 f29 f30 f31 f32 f33 f34 f35 f36 f37 f38 f39:Addr}{d0 d1 d2 d3 d4 d5 d6 d7 d8 d9 d10 d11 d12 d13 d14 d15 d16 d17 d18 d19 d20 d21 d22 d23 d24 d25 d26 d27 d28 d29 d30 d31 d32 d33 d34 d35 d36 d37 d38 d39:FuncData}
  (g0:FIn K "_law_pot" Jl f0 d0)
  (g1:FIn K "_law_take" Ye f1 d1)
  (g2:FIn K "_law_wide" Yd f2 d2)
  (g3:FIn K "_law_across" Jm f3 d3)
  (g4:FIn K "_law_chain" JK f4 d4)
  (g5:FIn K "_law_outer" JI f5 d5)
  (g6:FIn K "_law_mark" Yg f6 d6)
  (g7:FIn K "_law_cake" Jv f7 d7)
  (g8:FIn K "cross" qc2 f8 d8)
  (g9:FIn K "from_each_corner" yU f9 d9)
  (g10:FIn K "sides" qbv f10 d10)
  (g11:FIn K "area" qfd f11 d11)
  (g12:FIn K "common_divisor" jD f12 d12)
  (g13:FIn K "lowest" qaX f13 d13)
  (g14:FIn K "curve_at" YW f14 d14)
  (g15:FIn K "value" qcW f15 d15)
  (g16:FIn K "side_part" Ya f16 d16)
  (g17:FIn K "part_curve" Ja f17 d17)
  (g18:FIn K "below" qdc f18 d18)
  (g19:FIn K "_law_divisor" Jc f19 d19)
  (g20:FIn K "_law_arrow" JM f20 d20)
  (g21:FIn K "_law_far" YX f21 d21)
  (g22:FIn K "_law_clipped" Jd f22 d22)
  (g23:FIn K "_law_part" Yf f23 d23)
  (g24:FIn K "is_at_most_half" jx f24 d24)
  (g25:FIn K "cut_bounds" jm f25 d25)
  (g26:FIn K "cut" scut f26 d26)
  (g27:FIn K "_law_area" Jw f27 d27)
  (g28:FIn K "_law_half_less" jE f28 d28)
  (g29:FIn K "cut_root" YV f29 d29)
  (g30:FIn K "sign" qhP f30 d30)
  (g31:FIn K "root_sign" Yb f31 d31)
  (g32:FIn K "two_roots_sign" jC f32 d32)
  (g33:FIn K "cut_order" Yc f33 d33)
  (g34:FIn K "_law_near" Ju f34 d34)
  (g35:FIn K "_law_order" JJ f35 d35)
  (g36:FIn K "_law_is_sign" Jb f36 d36)
  (g37:FIn K "_law_are_points" yZ f37 d37)
  (g38:FIn K "_law_second" yw f38 d38)
  (g39:FIn K "_law_right" y4 f39 d39)
  {f40:Addr}{od40 an40:Option Addr}{sl40:Array (Option Value)}{oc40 kV40 dc40 pm40 cd40 ct40:Value}
  (a40:W.nsIn K mainGlobals "law" = some (some (.ref f40))) (l40:K.lookup f40=some ⟨oc40,od40,.func (W.fnOf "law" "law" (Jq qeY) (y7 qeY) (qt qeY) .none kV40 dc40 pm40 an40 cd40 ct40),sl40⟩) (c40:W.codeIn K cd40 "law" = true) (k40:W.keepIn K (.ref f40)=true)
  (z0:W.nsIn K mainGlobals "len" = some none)
  (z1:W.nsIn K mainGlobals "range" = some none)
  (z2:W.nsIn K mainGlobals "max" = some none)
  (z3:W.nsIn K mainGlobals "min" = some none)
  (z4:W.nsIn K mainGlobals "abs" = some none)
  (z5:W.nsIn K mainGlobals "int" = some none)
  (z6:W.nsIn K mainGlobals "isinstance" = some none)
  (z7:W.nsIn K mainGlobals "tuple" = some none)
  (z8:W.nsIn K mainGlobals "bool" = some none)
  (z9:W.nsIn K mainGlobals "list" = some none)
  (z10:W.nsIn K mainGlobals "all" = some none)
  (z11:W.nsIn K mainGlobals "any" = some none)
  (z12:W.nsIn K mainGlobals "set" = some none)
  (z13:W.nsIn K mainGlobals "sorted" = some none)
  (z14:W.nsIn K mainGlobals "str" = some none)
  (z15:W.nsIn K mainGlobals "enumerate" = some none)
  (z16:W.nsIn K mainGlobals "zip" = some none)
  (z17:W.nsIn K mainGlobals "divmod" = some none)
  (z18:W.nsIn K mainGlobals "sum" = some none)
  (z19:W.nsIn K mainGlobals "reversed" = some none)
  : ∃ fd:FuncData,(∀ (s:Shared) (v:Value),BindsTo s fd ⟨[v],[]⟩ [("_law_script",v)])/\∀ base:Heap,K.In base->base.Ns mainGlobals mg->FnOk l.prog w K mg base CX0 11 fa fd ["_law_script"] (qe9 K):=by
 have e:=hfa.symm.trans (W.mg_of X G a40)
 cases e
 have T:Txt mg:=⟨W.mg_none_of X G z0,W.mg_none_of X G z1,W.mg_none_of X G z2,W.mg_none_of X G z3,W.mg_none_of X G z4,W.mg_none_of X G z5,W.mg_none_of X G z6,W.mg_none_of X G z7,W.mg_none_of X G z8,W.mg_none_of X G z9,W.mg_none_of X G z10,W.mg_none_of X G z11,W.mg_none_of X G z12,W.mg_none_of X G z13,W.mg_none_of X G z14,W.mg_none_of X G z15,W.mg_none_of X G z16,W.mg_none_of X G z17,W.mg_none_of X G z18,W.mg_none_of X G z19⟩
 have F0:=g0.F
 have b0:=F0.binds (ps:=["_law_script", "_law_k"]) fun _ _ _ _ _ _ us hl=>by obtain ⟨_,_,rfl⟩:=L2.lenIs2 hl rfl;rfl
 have F1:=g1.F
 have b1:=F1.binds (ps:=["_law_pot_here", "_law_many"]) fun _ _ _ _ _ _ us hl=>by obtain ⟨_,_,rfl⟩:=L2.lenIs2 hl rfl;rfl
 have F2:=g2.F
 have b2:=F2.binds (ps:=["_law_pot_here"]) fun _ _ _ _ _ _ us hl=>by obtain ⟨_,rfl⟩:=L2.lenIs1 hl rfl;rfl
 have F3:=g3.F
 have b3:=F3.binds (ps:=["_law_one", "_law_two", "_law_three"]) fun _ _ _ _ _ _ us hl=>by obtain ⟨_,_,_,rfl⟩:=L2.lenIs3 hl rfl;rfl
 have F4:=g4.F
 have b4:=F4.binds (ps:=["_law_points"]) fun _ _ _ _ _ _ us hl=>by obtain ⟨_,rfl⟩:=L2.lenIs1 hl rfl;rfl
 have F5:=g5.F
 have b5:=F5.binds (ps:=["_law_some"]) fun _ _ _ _ _ _ us hl=>by obtain ⟨_,rfl⟩:=L2.lenIs1 hl rfl;rfl
 have F6:=g6.F
 have b6:=F6.binds (ps:=["_law_pot_here", "_law_are_great"]) fun _ _ _ _ _ _ us hl=>by obtain ⟨_,_,rfl⟩:=L2.lenIs2 hl rfl;rfl
 have F7:=g7.F
 have b7:=F7.binds (ps:=["_law_pot_here"]) fun _ _ _ _ _ _ us hl=>by obtain ⟨_,rfl⟩:=L2.lenIs1 hl rfl;rfl
 have F8:=g8.F
 have b8:=F8.binds (ps:=["one", "other"]) fun _ _ _ _ _ _ us hl=>by obtain ⟨_,_,rfl⟩:=L2.lenIs2 hl rfl;rfl
 have F9:=g9.F
 have b9:=F9.binds (ps:=["corners"]) fun _ _ _ _ _ _ us hl=>by obtain ⟨_,rfl⟩:=L2.lenIs1 hl rfl;rfl
 have F10:=g10.F
 have b10:=F10.binds (ps:=["corners"]) fun _ _ _ _ _ _ us hl=>by obtain ⟨_,rfl⟩:=L2.lenIs1 hl rfl;rfl
 have F11:=g11.F
 have b11:=F11.binds (ps:=["cake"]) fun _ _ _ _ _ _ us hl=>by obtain ⟨_,rfl⟩:=L2.lenIs1 hl rfl;rfl
 have F12:=g12.F
 have b12:=F12.binds (ps:=["one", "other"]) fun _ _ _ _ _ _ us hl=>by obtain ⟨_,_,rfl⟩:=L2.lenIs2 hl rfl;rfl
 have F13:=g13.F
 have b13:=F13.binds (ps:=["n", "d"]) fun _ _ _ _ _ _ us hl=>by obtain ⟨_,_,rfl⟩:=L2.lenIs2 hl rfl;rfl
 have F14:=g14.F
 have b14:=F14.binds (ps:=["curve", "n", "d"]) fun _ _ _ _ _ _ us hl=>by obtain ⟨_,_,_,rfl⟩:=L2.lenIs3 hl rfl;rfl
 have F15:=g15.F
 have b15:=F15.binds (ps:=["normal", "point"]) fun _ _ _ _ _ _ us hl=>by obtain ⟨_,_,rfl⟩:=L2.lenIs2 hl rfl;rfl
 have F16:=g16.F
 have b16:=F16.binds (ps:=["start", "end", "low"]) fun _ _ _ _ _ _ us hl=>by obtain ⟨_,_,_,rfl⟩:=L2.lenIs3 hl rfl;rfl
 have F17:=g17.F
 have b17:=F17.binds (ps:=["cake", "arrow", "low"]) fun _ _ _ _ _ _ us hl=>by obtain ⟨_,_,_,rfl⟩:=L2.lenIs3 hl rfl;rfl
 have F18:=g18.F
 have b18:=F18.binds (ps:=["cake", "arrow", "n", "d"]) fun _ _ _ _ _ _ us hl=>by obtain ⟨_,_,_,_,rfl⟩:=L2.lenIs4 hl rfl;rfl
 have F19:=g19.F
 have b19:=F19.binds (ps:=["_law_one", "_law_two"]) fun _ _ _ _ _ _ us hl=>by obtain ⟨_,_,rfl⟩:=L2.lenIs2 hl rfl;rfl
 have F20:=g20.F
 have b20:=F20.binds (ps:=["_law_pot_here"]) fun _ _ _ _ _ _ us hl=>by obtain ⟨_,rfl⟩:=L2.lenIs1 hl rfl;rfl
 have F21:=g21.F
 have b21:=F21.binds (ps:=["_law_point", "_law_arrow_here", "_law_n", "_law_d"]) fun _ _ _ _ _ _ us hl=>by obtain ⟨_,_,_,_,rfl⟩:=L2.lenIs4 hl rfl;rfl
 have F22:=g22.F
 have b22:=F22.binds (ps:=["_law_cake_here", "_law_arrow_here", "_law_n", "_law_d"]) fun _ _ _ _ _ _ us hl=>by obtain ⟨_,_,_,_,rfl⟩:=L2.lenIs4 hl rfl;rfl
 have F23:=g23.F
 have b23:=F23.binds (ps:=["_law_cake_here", "_law_arrow_here", "_law_n", "_law_d"]) fun _ _ _ _ _ _ us hl=>by obtain ⟨_,_,_,_,rfl⟩:=L2.lenIs4 hl rfl;rfl
 have F24:=g24.F
 have b24:=F24.binds (ps:=["cake", "arrow", "height"]) fun _ _ _ _ _ _ us hl=>by obtain ⟨_,_,_,rfl⟩:=L2.lenIs3 hl rfl;rfl
 have F25:=g25.F
 have b25:=F25.binds (ps:=["cake", "arrow"]) fun _ _ _ _ _ _ us hl=>by obtain ⟨_,_,rfl⟩:=L2.lenIs2 hl rfl;rfl
 have F26:=g26.F
 have b26:=F26.binds (ps:=["cake", "arrow"]) fun _ _ _ _ _ _ us hl=>by obtain ⟨_,_,rfl⟩:=L2.lenIs2 hl rfl;rfl
 have F27:=g27.F
 have b27:=F27.binds (ps:=["_law_cake_here"]) fun _ _ _ _ _ _ us hl=>by obtain ⟨_,rfl⟩:=L2.lenIs1 hl rfl;rfl
 have F28:=g28.F
 have b28:=F28.binds (ps:=["_law_cake_here", "_law_arrow_here", "_law_n", "_law_d"]) fun _ _ _ _ _ _ us hl=>by obtain ⟨_,_,_,_,rfl⟩:=L2.lenIs4 hl rfl;rfl
 have F29:=g29.F
 have b29:=F29.binds (ps:=["cake", "arrow"]) fun _ _ _ _ _ _ us hl=>by obtain ⟨_,_,rfl⟩:=L2.lenIs2 hl rfl;rfl
 have F30:=g30.F
 have b30:=F30.binds (ps:=["number"]) fun _ _ _ _ _ _ us hl=>by obtain ⟨_,rfl⟩:=L2.lenIs1 hl rfl;rfl
 have F31:=g31.F
 have b31:=F31.binds (ps:=["x", "y", "r"]) fun _ _ _ _ _ _ us hl=>by obtain ⟨_,_,_,rfl⟩:=L2.lenIs3 hl rfl;rfl
 have F32:=g32.F
 have b32:=F32.binds (ps:=["x", "y", "r", "z", "s"]) fun _ _ _ _ _ _ us hl=>by obtain ⟨_,_,_,_,_,rfl⟩:=L2.lenIs5 hl rfl;rfl
 have F33:=g33.F
 have b33:=F33.binds (ps:=["one", "other", "arrow"]) fun _ _ _ _ _ _ us hl=>by obtain ⟨_,_,_,rfl⟩:=L2.lenIs3 hl rfl;rfl
 have F34:=g34.F
 have b34:=F34.binds (ps:=["_law_cake_here", "_law_arrow_here", "_law_many"]) fun _ _ _ _ _ _ us hl=>by obtain ⟨_,_,_,rfl⟩:=L2.lenIs3 hl rfl;rfl
 have F35:=g35.F
 have b35:=F35.binds (ps:=["_law_one", "_law_two", "_law_arrow_here"]) fun _ _ _ _ _ _ us hl=>by obtain ⟨_,_,_,rfl⟩:=L2.lenIs3 hl rfl;rfl
 have F36:=g36.F
 have b36:=F36.binds (ps:=["_law_found"]) fun _ _ _ _ _ _ us hl=>by obtain ⟨_,rfl⟩:=L2.lenIs1 hl rfl;rfl
 have F37:=g37.F
 have b37:=F37.binds (ps:=["_law_some"]) fun _ _ _ _ _ _ us hl=>by obtain ⟨_,rfl⟩:=L2.lenIs1 hl rfl;rfl
 have F38:=g38.F
 have b38:=F38.binds (ps:=["_law_pot_here", "_law_cake_here", "_law_arrow_here"]) fun _ _ _ _ _ _ us hl=>by obtain ⟨_,_,_,rfl⟩:=L2.lenIs3 hl rfl;rfl
 have F39:=g39.F
 have b39:=F39.binds (ps:=["_law_pot_here"]) fun _ _ _ _ _ _ us hl=>by obtain ⟨_,rfl⟩:=L2.lenIs1 hl rfl;rfl
 have F40:=qhb (st:=qeY) l40 c40 k40
 have b40:=F40.binds (ps:=["_law_script"]) fun _ _ _ _ _ _ us hl=>by obtain ⟨_,rfl⟩:=L2.lenIs1 hl rfl;rfl
 refine ⟨W.fnOf "law" "law" (Jq qeY) (y7 qeY) (qt qeY) .none kV40 dc40 pm40 an40 cd40 ct40,fun s v=>.of_eq rfl,fun base Kb Gb=>?_⟩
 have O_law_pot:Own l.prog w K mg base CX0 1 "_law_pot" ["_law_script", "_law_k"] (qW K sPot):=⟨_,_,qky F0 T,W.mg_of X G g0.a,g0.k,b0⟩
 have O_law_take:Own l.prog w K mg base CX0 1 "_law_take" ["_law_pot_here", "_law_many"] (qW K (sDraw 2147483629)):=⟨_,_,qis F1 ,W.mg_of X G g1.a,g1.k,b1⟩
 have O_law_wide:Own l.prog w K mg base CX0 2 "_law_wide" ["_law_pot_here"] (qW K (sNum 2147483629)):=⟨_,_,qir F2 T Yl O_law_take,W.mg_of X G g2.a,g2.k,b2⟩
 have O_law_across:Own l.prog w K mg base CX0 1 "_law_across" ["_law_one", "_law_two", "_law_three"] (qW K sAc):=⟨_,_,qdI F3 ,W.mg_of X G g3.a,g3.k,b3⟩
 have O_law_chain:Own l.prog w K mg base CX0 2 "_law_chain" ["_law_points"] (qW K qde):=⟨_,_,qfG F4 T Yl O_law_across,W.mg_of X G g4.a,g4.k,b4⟩
 have O_law_outer:Own l.prog w K mg base CX0 3 "_law_outer" ["_law_some"] (qW K qlW):=⟨_,_,qfE F5 T Yl O_law_chain,W.mg_of X G g5.a,g5.k,b5⟩
 have O_law_mark:Own l.prog w K mg base CX0 3 "_law_mark" ["_law_pot_here", "_law_are_great"] (qW K qhW):=⟨_,_,qiu F6 Yl O_law_take O_law_wide,W.mg_of X G g6.a,g6.k,b6⟩
 have O_law_cake:Own l.prog w K mg base CX0 4 "_law_cake" ["_law_pot_here"] (qW K qfe):=⟨_,_,qix F7 T Yl O_law_take O_law_mark O_law_outer,W.mg_of X G g7.a,g7.k,b7⟩
 have Ocross:Own l.prog w K mg base CX0 1 "cross" ["one", "other"] (qW K qbD):=⟨_,_,qfF F8 ,W.mg_of X G g8.a,g8.k,b8⟩
 have Ofrom_each_corner:Own l.prog w K mg base CX0 1 "from_each_corner" ["corners"] (qW K qhV):=⟨_,_,qit F9 T,W.mg_of X G g9.a,g9.k,b9⟩
 have Osides:Own l.prog w K mg base CX0 2 "sides" ["corners"] (qW K qbC):=⟨_,_,qfC F10 T Yl Ofrom_each_corner,W.mg_of X G g10.a,g10.k,b10⟩
 have Oarea:Own l.prog w K mg base CX0 3 "area" ["cake"] (qW K qff):=⟨_,_,qiy F11 T Yl Osides Ocross,W.mg_of X G g11.a,g11.k,b11⟩
 have Ocommon_divisor:Own l.prog w K mg base CX0 1 "common_divisor" ["one", "other"] (qW K qjn):=⟨_,_,ok_cd F12 T,W.mg_of X G g12.a,g12.k,b12⟩
 have Olowest:Own l.prog w K mg base CX0 2 "lowest" ["n", "d"] (qW K sLow):=⟨_,_,qkB F13 Yl Ocommon_divisor,W.mg_of X G g13.a,g13.k,b13⟩
 have Ocurve_at:Own l.prog w K mg base CX0 1 "curve_at" ["curve", "n", "d"] (qW K sCvA):=⟨_,_,qkI F14 ,W.mg_of X G g14.a,g14.k,b14⟩
 have Ovalue:Own l.prog w K mg base CX0 1 "value" ["normal", "point"] (qW K qlU):=⟨_,_,qfB F15 ,W.mg_of X G g15.a,g15.k,b15⟩
 have Oside_part:Own l.prog w K mg base CX0 1 "side_part" ["start", "end", "low"] (qW K sSp):=⟨_,_,ok_sp F16 T,W.mg_of X G g16.a,g16.k,b16⟩
 have Opart_curve:Own l.prog w K mg base CX0 3 "part_curve" ["cake", "arrow", "low"] (qW K sPc):=⟨_,_,ok_pc F17 T Yl Ovalue Ocross Osides Oside_part,W.mg_of X G g17.a,g17.k,b17⟩
 have Obelow:Own l.prog w K mg base CX0 4 "below" ["cake", "arrow", "n", "d"] (qW K sBel):=⟨_,_,qkM F18 Yl Opart_curve Olowest Ocurve_at,W.mg_of X G g18.a,g18.k,b18⟩
 have O_law_divisor:Own l.prog w K mg base CX0 1 "_law_divisor" ["_law_one", "_law_two"] (qW K qjn):=⟨_,_,qkD F19 T,W.mg_of X G g19.a,g19.k,b19⟩
 have O_law_arrow:Own l.prog w K mg base CX0 2 "_law_arrow" ["_law_pot_here"] (qW K sArw):=⟨_,_,qkO F20 T Yl O_law_take O_law_divisor,W.mg_of X G g20.a,g20.k,b20⟩
 have O_law_far:Own l.prog w K mg base CX0 1 "_law_far" ["_law_point", "_law_arrow_here", "_law_n", "_law_d"] (qW K sFar):=⟨_,_,qiv F21 ,W.mg_of X G g21.a,g21.k,b21⟩
 have O_law_clipped:Own l.prog w K mg base CX0 2 "_law_clipped" ["_law_cake_here", "_law_arrow_here", "_law_n", "_law_d"] (qW K sClp):=⟨_,_,qkL F22 T Yl O_law_far,W.mg_of X G g22.a,g22.k,b22⟩
 have O_law_part:Own l.prog w K mg base CX0 3 "_law_part" ["_law_cake_here", "_law_arrow_here", "_law_n", "_law_d"] (qW K sPrt):=⟨_,_,qkx F23 T Yl O_law_clipped,W.mg_of X G g23.a,g23.k,b23⟩
 have Ois_at_most_half:Own l.prog w K mg base CX0 5 "is_at_most_half" ["cake", "arrow", "height"] (qW K qhX):=⟨_,_,qiw F24 Yl Obelow Oarea,W.mg_of X G g24.a,g24.k,b24⟩
 have Ocut_bounds:Own l.prog w K mg base CX0 6 "cut_bounds" ["cake", "arrow"] (qW K sBds):=⟨_,_,qkN F25 T Yl Ovalue Ois_at_most_half,W.mg_of X G g25.a,g25.k,b25⟩
 have Ocut:Own l.prog w K mg base CX0 7 "cut" ["cake", "arrow"] (qW K sCut):=⟨_,_,qkJ F26 Yl Ocut_bounds Opart_curve Oarea,W.mg_of X G g26.a,g26.k,b26⟩
 have O_law_area:Own l.prog w K mg base CX0 2 "_law_area" ["_law_cake_here"] (qW K sLar):=⟨_,_,qkF F27 T Yl O_law_across,W.mg_of X G g27.a,g27.k,b27⟩
 have O_law_half_less:Own l.prog w K mg base CX0 4 "_law_half_less" ["_law_cake_here", "_law_arrow_here", "_law_n", "_law_d"] (qW K sHl):=⟨_,_,qkH F28 T Yl O_law_part O_law_area,W.mg_of X G g28.a,g28.k,b28⟩
 have Ocut_root:Own l.prog w K mg base CX0 8 "cut_root" ["cake", "arrow"] (qW K sCrt):=⟨_,_,qkK F29 Yl Ocut,W.mg_of X G g29.a,g29.k,b29⟩
 have Osign:Own l.prog w K mg base CX0 1 "sign" ["number"] (qW K qlV):=⟨_,_,qku F30 ,W.mg_of X G g30.a,g30.k,b30⟩
 have Oroot_sign:Own l.prog w K mg base CX0 2 "root_sign" ["x", "y", "r"] (qW K sRs):=⟨_,_,qkw F31 T Yl Osign,W.mg_of X G g31.a,g31.k,b31⟩
 have Otwo_roots_sign:Own l.prog w K mg base CX0 3 "two_roots_sign" ["x", "y", "r", "z", "s"] (qW K sTrs):=⟨_,_,qkt F32 T Yl Oroot_sign,W.mg_of X G g32.a,g32.k,b32⟩
 have Ocut_order:Own l.prog w K mg base CX0 9 "cut_order" ["one", "other", "arrow"] (qW K sOrd):=⟨_,_,qkz F33 T Yl Ocut_root Osign Otwo_roots_sign,W.mg_of X G g33.a,g33.k,b33⟩
 have O_law_near:Own l.prog w K mg base CX0 5 "_law_near" ["_law_cake_here", "_law_arrow_here", "_law_many"] (qW K sLnr):=⟨_,_,qkC F34 T Yl O_law_half_less,W.mg_of X G g34.a,g34.k,b34⟩
 have O_law_order:Own l.prog w K mg base CX0 6 "_law_order" ["_law_one", "_law_two", "_law_arrow_here"] (qW K sOdr):=⟨_,_,qkA F35 T Yl O_law_near,W.mg_of X G g35.a,g35.k,b35⟩
 have O_law_is_sign:Own l.prog w K mg base CX0 1 "_law_is_sign" ["_law_found"] (qW K sIsg):=⟨_,_,qkG F36 T,W.mg_of X G g36.a,g36.k,b36⟩
 have O_law_are_points:Own l.prog w K mg base CX0 1 "_law_are_points" ["_law_some"] (qW K sArp):=⟨_,_,qkP F37 T,W.mg_of X G g37.a,g37.k,b37⟩
 have O_law_second:Own l.prog w K mg base CX0 5 "_law_second" ["_law_pot_here", "_law_cake_here", "_law_arrow_here"] (qW K sSec):=⟨_,_,qkv F38 T Yl O_law_take O_law_cake O_law_outer,W.mg_of X G g38.a,g38.k,b38⟩
 have O_law_right:Own l.prog w K mg base CX0 10 "_law_right" ["_law_pot_here"] (qW K qdd):=⟨_,_,qfD F39 T Yl O_law_take O_law_cake O_law_arrow O_law_second O_law_are_points Ocut_order O_law_is_sign O_law_order,W.mg_of X G g39.a,g39.k,b39⟩
 exact (qkE F40 T Yl O_law_pot O_law_right).imp (fun _ _ _ _ h=>qkT h)
theorem walk {l:W.OpenLaw}{q:Program}{loose:List Str}{XP:(Str->Option Value)->Heap->Prop}{YP:World->Heap->Prop}{d:DefRec}{K:Params->W.Frag}(hn:l.most=some 63) (hdf:d.params.defaults=[])
  (hY:∀ (w:World) (h:Heap),YP w h->(K w.params).In h)
  (F:∀ (w:World) (mg:Str->Option Value) (fa:Addr) (h:Heap),(K w.params).In h->h.Ns mainGlobals mg->mg d.name=some (.ref fa) →
   ∃ fd:FuncData,(∀ (s:Shared) (u:Value),BindsTo s fd ⟨[u],[]⟩ [("_law_script",u)])/\∀ base:Heap,(K w.params).In base->base.Ns mainGlobals mg->FnOk l.prog w (K w.params) mg base CX0 11 fa fd ["_law_script"] (qe9 (K w.params))) :
  W.WalkO q loose XP YP l.row.toRowW d [] (fun f vs=>PySem.call f vs) :=
 L2.walk_of (n:=63) (k:=11) (x := "_law_script") (CX:=fun w=>CX0) (sp:=fun w=>qe9 (K w.params)) hn (by decide) hdf ⟨rfl,by decide,by decide⟩ hY F (fun _ _ a ns hl _ hS=>⟨a,ns,rfl,hS,hl,fun _=>rfl⟩) fun _ _ _ _ _ z=>z
end K75
def PySem.W.Fast.tw9515366617839602954:Nat:=0
def PySem.W.Fast.tw18394816047725252835:Nat:=0
def PySem.W.Fast.tw13205836242641206351:Nat:=0
def PySem.W.Fast.tw10457003240785397842:Nat:=0
def PySem.W.Fast.tw18099750860568237260:Nat:=0
def PySem.W.Fast.tw17171820259143152169:Nat:=0
def PySem.W.Fast.tw2559827879123676451:Nat:=0
def PySem.W.Fast.tw16447847720152508181:Nat:=0
def PySem.W.Fast.tw3864219923057015092:Nat:=0
def PySem.W.Fast.tw17595007473625317477:Nat:=0
def PySem.W.Fast.tw7199826246344941043:Nat:=0
def PySem.W.Fast.tw7842752258514256157:Nat:=0
def PySem.W.Fast.tw7667247784986269725:Nat:=0
def PySem.W.Fast.tw6061208961586564680:Nat:=0
def PySem.W.Fast.tw15226979372725082766:Nat:=0
def PySem.W.Fast.tw10838186774144868472:Nat:=0
def PySem.W.Fast.tw5523203325132650010:Nat:=0
def PySem.W.Fast.tw12350705798333821351:Nat:=0
def PySem.W.Fast.tw930037476821484535:Nat:=0
def PySem.W.Fast.tw4806895161953553532:Nat:=0
def PySem.W.Fast.tw4093106130541375239:Nat:=0
def PySem.W.Fast.tw967042203395177759:Nat:=0
def PySem.W.Fast.tw17826561215828309148:Nat:=0
def PySem.W.Fast.tw14648128738463837748:Nat:=0
def PySem.W.Fast.tw18201091511576400550:Nat:=0
def PySem.W.Fast.tw18163022803339393008:Nat:=0
def PySem.W.Fast.tw1755234267088821482:Nat:=0
def PySem.W.Fast.tw13761434799109492924:Nat:=0
def PySem.W.Fast.tw17639189702612103674:Nat:=0
def PySem.W.Fast.tw1246313466486727655:Nat:=0
def PySem.W.Fast.tw13350466851196881592:Nat:=0
def PySem.W.Fast.tw15545744464477155374:Nat:=0
def PySem.W.Fast.tw11431208958750388450:Nat:=0
def PySem.W.Fast.tw8059049494149707961:Nat:=0
def PySem.W.Fast.tw7489514204367036986:Nat:=0
def PySem.W.Fast.tw17436591796510186433:Nat:=0
def PySem.W.Fast.tw11321825846412250126:Nat:=0
def PySem.W.Fast.tw14193854930276605107:Nat:=0
def PySem.W.Fast.tw13137777976859074181:Nat:=0
def PySem.W.Fast.tw13511299979583974956:Nat:=0
def PySem.W.Fast.tw12463618867829482750:Nat:=0
def PySem.W.Fast.tw649876129997381297:Nat:=0
def PySem.W.Fast.tw14631111229408263915:Nat:=0
def PySem.W.Fast.tw15647495452411201926:Nat:=0
def PySem.W.Fast.tw9747372080464655502:Nat:=0
def PySem.W.Fast.tw157199056910131340:Nat:=0
def PySem.W.Fast.tw15204281524998805977:Nat:=0
def PySem.W.Fast.tw13958075923059242399:Nat:=0
def PySem.W.Fast.tw4011636640475784344:Nat:=0
def PySem.W.Fast.tw4527542461942952008:Nat:=0
def PySem.W.Fast.tw3860536916504236345:Nat:=0
def PySem.W.Fast.tw1643819837061314377:Nat:=0
def PySem.W.Fast.tw10431497975269400767:Nat:=0
def PySem.W.Fast.tw4318580187395713679:Nat:=0
def PySem.W.Fast.tw12194521697539932309:Nat:=0
def PySem.W.Fast.tw8230518636163941854:Nat:=0
def PySem.W.Fast.tw16194233353353615170:Nat:=0
def PySem.W.Fast.tw2489395024218891159:Nat:=0
def PySem.W.Fast.tw13178820706293728376:Nat:=0
def PySem.W.Fast.tw8409429043132259865:Nat:=0
def PySem.W.Fast.tw17048400427527083121:Nat:=0
def PySem.W.Fast.tw13633263971130296897:Nat:=0
def PySem.W.Fast.tw7468944853811328822:Nat:=0
def PySem.W.Fast.tw4772355865578166458:Nat:=0
def PySem.W.Fast.tw4357497258692669107:Nat:=0
def PySem.W.Fast.tw14283509425680588201:Nat:=0
def PySem.W.Fast.tw17387658147634142602:Nat:=0
def PySem.W.Fast.tw16001449443923285990:Nat:=0
def PySem.W.Fast.tw2547801669680310569:Nat:=0
def PySem.W.Fast.tw17869978986648828267:Nat:=0
def PySem.W.Fast.tw2699086381535618838:Nat:=0
def PySem.W.Fast.tw9153483294635996313:Nat:=0
def PySem.W.Fast.tw577640562930244951:Nat:=0
def PySem.W.Fast.tw9521799152103109596:Nat:=0
def PySem.W.Fast.tw2156549164972778841:Nat:=0
def PySem.W.Fast.tw2123594595837235973:Nat:=0
def PySem.W.Fast.tw12992231325109190291:Nat:=0
def PySem.W.Fast.tw2541230939979940862:Nat:=0
def PySem.W.Fast.tw2810148532199592854:Nat:=0
def PySem.W.Fast.tw9095577022407799336:Nat:=0
def PySem.W.Fast.tw1616195366583417523:Nat:=0
def PySem.W.Fast.tw10004719580188919107:Nat:=0
def PySem.W.Fast.tw16496359341815137862:Nat:=0
def PySem.W.Fast.tw9879040227230784874:Nat:=0
def PySem.W.Fast.tw10790236205258035993:Nat:=0
def PySem.W.Fast.tw3477073366288742247:Nat:=0
def PySem.W.Fast.tw12717962654759690143:Nat:=0
def PySem.W.Fast.tw1200454952884136084:Nat:=0
def PySem.W.Fast.tw4589150969284784029:Nat:=0
def PySem.W.Fast.tw18312769708390857877:Nat:=0
def PySem.W.Fast.tw15475955950265839272:Nat:=0
def PySem.W.Fast.tw13129603161583582548:Nat:=0
def PySem.W.Fast.tw4279600765112399180:Nat:=0
def PySem.W.Fast.tw8808479499044267347:Nat:=0
def PySem.W.Fast.tw7812171385005873644:Nat:=0
def PySem.W.Fast.tw7602994753989894199:Nat:=0
open PySem PySem.W PyProof.Rows
set_option maxRecDepth 100000 in
set_option maxHeartbeats 0 in
theorem PySem.Challenge.cw_halveline_k75_orders_of_cuts_holds : PySem.Challenge.rw_halveline_k75_orders_of_cuts.Holds := by
 w_on;o_law;k_head;(case hw=>w_witness2)
 k_fill
 refine K75.walk (l:=PySem.Challenge.rw_halveline_k75_orders_of_cuts) rfl rfl (fun w h Y=>W.kIn_of Y) ?F
 case F =>
  intro w mg fa h KX G hmg
  refine' K75.all_mk KX G hmg (K75.fin_mk ?a0 ?l0 ?c0 ?k0) (K75.fin_mk ?a1 ?l1 ?c1 ?k1) (K75.fin_mk ?a2 ?l2 ?c2 ?k2) (K75.fin_mk ?a3 ?l3 ?c3 ?k3) (K75.fin_mk ?a4 ?l4 ?c4 ?k4) (K75.fin_mk ?a5 ?l5 ?c5 ?k5) (K75.fin_mk ?a6 ?l6 ?c6 ?k6) (K75.fin_mk ?a7 ?l7 ?c7 ?k7) (K75.fin_mk ?a8 ?l8 ?c8 ?k8) (K75.fin_mk ?a9 ?l9 ?c9 ?k9) (K75.fin_mk ?a10 ?l10 ?c10 ?k10) (K75.fin_mk ?a11 ?l11 ?c11 ?k11) (K75.fin_mk ?a12 ?l12 ?c12 ?k12) (K75.fin_mk ?a13 ?l13 ?c13 ?k13) (K75.fin_mk ?a14 ?l14 ?c14 ?k14) (K75.fin_mk ?a15 ?l15 ?c15 ?k15) (K75.fin_mk ?a16 ?l16 ?c16 ?k16) (K75.fin_mk ?a17 ?l17 ?c17 ?k17) (K75.fin_mk ?a18 ?l18 ?c18 ?k18) (K75.fin_mk ?a19 ?l19 ?c19 ?k19) (K75.fin_mk ?a20 ?l20 ?c20 ?k20) (K75.fin_mk ?a21 ?l21 ?c21 ?k21) (K75.fin_mk ?a22 ?l22 ?c22 ?k22) (K75.fin_mk ?a23 ?l23 ?c23 ?k23) (K75.fin_mk ?a24 ?l24 ?c24 ?k24) (K75.fin_mk ?a25 ?l25 ?c25 ?k25) (K75.fin_mk ?a26 ?l26 ?c26 ?k26) (K75.fin_mk ?a27 ?l27 ?c27 ?k27) (K75.fin_mk ?a28 ?l28 ?c28 ?k28) (K75.fin_mk ?a29 ?l29 ?c29 ?k29) (K75.fin_mk ?a30 ?l30 ?c30 ?k30) (K75.fin_mk ?a31 ?l31 ?c31 ?k31) (K75.fin_mk ?a32 ?l32 ?c32 ?k32) (K75.fin_mk ?a33 ?l33 ?c33 ?k33) (K75.fin_mk ?a34 ?l34 ?c34 ?k34) (K75.fin_mk ?a35 ?l35 ?c35 ?k35) (K75.fin_mk ?a36 ?l36 ?c36 ?k36) (K75.fin_mk ?a37 ?l37 ?c37 ?k37) (K75.fin_mk ?a38 ?l38 ?c38 ?k38) (K75.fin_mk ?a39 ?l39 ?c39 ?k39) ?a40 ?l40 ?c40 ?k40 ?z0 ?z1 ?z2 ?z3 ?z4 ?z5 ?z6 ?z7 ?z8 ?z9 ?z10 ?z11 ?z12 ?z13 ?z14 ?z15 ?z16 ?z17 ?z18 ?z19
  (case a0=>k_is)
  (case l0=>k_is)
  (case c0=>k_is)
  (case k0=>k_is)
  (case a1=>k_is)
  (case l1=>k_is)
  (case c1=>k_is)
  (case k1=>k_is)
  (case a2=>k_is)
  (case l2=>k_is)
  (case c2=>k_is)
  (case k2=>k_is)
  (case a3=>k_is)
  (case l3=>k_is)
  (case c3=>k_is)
  (case k3=>k_is)
  (case a4=>k_is)
  (case l4=>k_is)
  (case c4=>k_is)
  (case k4=>k_is)
  (case a5=>k_is)
  (case l5=>k_is)
  (case c5=>k_is)
  (case k5=>k_is)
  (case a6=>k_is)
  (case l6=>k_is)
  (case c6=>k_is)
  (case k6=>k_is)
  (case a7=>k_is)
  (case l7=>k_is)
  (case c7=>k_is)
  (case k7=>k_is)
  (case a8=>k_is)
  (case l8=>k_is)
  (case c8=>k_is)
  (case k8=>k_is)
  (case a9=>k_is)
  (case l9=>k_is)
  (case c9=>k_is)
  (case k9=>k_is)
  (case a10=>k_is)
  (case l10=>k_is)
  (case c10=>k_is)
  (case k10=>k_is)
  (case a11=>k_is)
  (case l11=>k_is)
  (case c11=>k_is)
  (case k11=>k_is)
  (case a12=>k_is)
  (case l12=>k_is)
  (case c12=>k_is)
  (case k12=>k_is)
  (case a13=>k_is)
  (case l13=>k_is)
  (case c13=>k_is)
  (case k13=>k_is)
  (case a14=>k_is)
  (case l14=>k_is)
  (case c14=>k_is)
  (case k14=>k_is)
  (case a15=>k_is)
  (case l15=>k_is)
  (case c15=>k_is)
  (case k15=>k_is)
  (case a16=>k_is)
  (case l16=>k_is)
  (case c16=>k_is)
  (case k16=>k_is)
  (case a17=>k_is)
  (case l17=>k_is)
  (case c17=>k_is)
  (case k17=>k_is)
  (case a18=>k_is)
  (case l18=>k_is)
  (case c18=>k_is)
  (case k18=>k_is)
  (case a19=>k_is)
  (case l19=>k_is)
  (case c19=>k_is)
  (case k19=>k_is)
  (case a20=>k_is)
  (case l20=>k_is)
  (case c20=>k_is)
  (case k20=>k_is)
  (case a21=>k_is)
  (case l21=>k_is)
  (case c21=>k_is)
  (case k21=>k_is)
  (case a22=>k_is)
  (case l22=>k_is)
  (case c22=>k_is)
  (case k22=>k_is)
  (case a23=>k_is)
  (case l23=>k_is)
  (case c23=>k_is)
  (case k23=>k_is)
  (case a24=>k_is)
  (case l24=>k_is)
  (case c24=>k_is)
  (case k24=>k_is)
  (case a25=>k_is)
  (case l25=>k_is)
  (case c25=>k_is)
  (case k25=>k_is)
  (case a26=>k_is)
  (case l26=>k_is)
  (case c26=>k_is)
  (case k26=>k_is)
  (case a27=>k_is)
  (case l27=>k_is)
  (case c27=>k_is)
  (case k27=>k_is)
  (case a28=>k_is)
  (case l28=>k_is)
  (case c28=>k_is)
  (case k28=>k_is)
  (case a29=>k_is)
  (case l29=>k_is)
  (case c29=>k_is)
  (case k29=>k_is)
  (case a30=>k_is)
  (case l30=>k_is)
  (case c30=>k_is)
  (case k30=>k_is)
  (case a31=>k_is)
  (case l31=>k_is)
  (case c31=>k_is)
  (case k31=>k_is)
  (case a32=>k_is)
  (case l32=>k_is)
  (case c32=>k_is)
  (case k32=>k_is)
  (case a33=>k_is)
  (case l33=>k_is)
  (case c33=>k_is)
  (case k33=>k_is)
  (case a34=>k_is)
  (case l34=>k_is)
  (case c34=>k_is)
  (case k34=>k_is)
  (case a35=>k_is)
  (case l35=>k_is)
  (case c35=>k_is)
  (case k35=>k_is)
  (case a36=>k_is)
  (case l36=>k_is)
  (case c36=>k_is)
  (case k36=>k_is)
  (case a37=>k_is)
  (case l37=>k_is)
  (case c37=>k_is)
  (case k37=>k_is)
  (case a38=>k_is)
  (case l38=>k_is)
  (case c38=>k_is)
  (case k38=>k_is)
  (case a39=>k_is)
  (case l39=>k_is)
  (case c39=>k_is)
  (case k39=>k_is)
  (case a40=>k_is)
  (case l40=>k_is)
  (case c40=>k_is)
  (case k40=>k_is)
  (case z0=>k_is)
  (case z1=>k_is)
  (case z2=>k_is)
  (case z3=>k_is)
  (case z4=>k_is)
  (case z5=>k_is)
  (case z6=>k_is)
  (case z7=>k_is)
  (case z8=>k_is)
  (case z9=>k_is)
  (case z10=>k_is)
  (case z11=>k_is)
  (case z12=>k_is)
  (case z13=>k_is)
  (case z14=>k_is)
  (case z15=>k_is)
  (case z16=>k_is)
  (case z17=>k_is)
  (case z18=>k_is)
  (case z19=>k_is)
