import PyProof.Rows.All
import Wide.All
import OpenK.AllK
import Wide.FinOn
import Lean
import PyProof.EqAt
import PyProof.EqKinds
import PyProof.TupleCall
import KE.KSortTup
import PyProof.Rows.SortWalk
import PyProof.Rows.SetFrom
import PyProof.CollectIter
import PyProof.SeqI3
import PyProof.EnumFor
import PyProof.EnumMake
import PyProof.ZipIter
import PyProof.WalkInts
import PyProof.Rows.SumAny
import KE.KUnpackStar
import KE.KRevIter
import PyProof.Rows.Range3
import PyProof.Rows.RuleM_int
import PyProof.WalksMore
import PySem.Challenge.RW_halveline_k76_slices
set_option Elab.async false
set_option linter.all false
set_option maxRecDepth 100000
noncomputable section
section
open PySem PySem.Spec PyProof.Rows
theorem qb:type_of% @wpAny_bind:=@wpAny_bind
theorem qc:type_of% @Heap.get?_push_of_some:=@Heap.get?_push_of_some
theorem qe:type_of% @wpAny_pure:=@wpAny_pure
theorem qf:type_of% @wpS_bind:=@wpS_bind
theorem qg:type_of% @Heap.lt_size:=@Heap.lt_size
theorem qi:type_of% @Nat.le_refl:=@Nat.le_refl
theorem qj:type_of% @Array.getElem?_toList:=@Array.getElem?_toList
theorem qk:type_of% @List.mem_cons_of_mem:=@List.mem_cons_of_mem
theorem ql:type_of% @wpS_pure:=@wpS_pure
theorem qm:type_of% @List.getElem?_eq_some_iff:=@List.getElem?_eq_some_iff
theorem qo:type_of% @List.append_assoc:=@List.append_assoc
theorem qr:type_of% @of_decide_eq_true:=@of_decide_eq_true
theorem qu:type_of% @decide_eq_true:=@decide_eq_true
theorem qv:type_of% @List.mem_cons_self:=@List.mem_cons_self
theorem qx:type_of% @Nat.ne_of_lt:=@Nat.ne_of_lt
theorem qz:type_of% @Heap.get?_push_size:=@Heap.get?_push_size
theorem qA:type_of% @List.take_append_drop:=@List.take_append_drop
theorem qD:type_of% @Nat.mod_eq_of_lt:=@Nat.mod_eq_of_lt
theorem qE:type_of% @List.mem_map:=@List.mem_map
theorem qF:type_of% @List.mem_append_right:=@List.mem_append_right
theorem qH:type_of% @Nat.lt_of_lt_of_le:=@Nat.lt_of_lt_of_le
theorem qI:type_of% @List.mem_singleton:=@List.mem_singleton
theorem qJ:type_of% @List.pairwise_append:=@List.pairwise_append
theorem qK:type_of% @List.pairwise_iff_getElem:=@List.pairwise_iff_getElem
theorem qL:type_of% @List.getD_eq_getElem?_getD:=@List.getD_eq_getElem?_getD
theorem qR:type_of% @Nat.le_trans:=@Nat.le_trans
theorem qS:type_of% @List.getElem?_append_right:=@List.getElem?_append_right
theorem qT:type_of% @List.getElem?_append_left:=@List.getElem?_append_left
theorem qU:type_of% @List.getElem?_of_mem:=@List.getElem?_of_mem
theorem qX:type_of% @List.getElem_mem:=@List.getElem_mem
theorem ya:type_of% @Nat.zero_le:=@Nat.zero_le
theorem yc:type_of% @Array.getElem?_eq_none:=@Array.getElem?_eq_none
theorem yf:type_of% @wpS_forRange:=@wpS_forRange
theorem yg:type_of% @List.length_take:=@List.length_take
theorem yk:type_of% @wpAny_holding:=@wpAny_holding
theorem yp:type_of% @List.length_range:=@List.length_range
theorem yt:type_of% @decide_eq_false:=@decide_eq_false
theorem yv:type_of% @List.mem_append_left:=@List.mem_append_left
theorem yx:type_of% @Nat.le_of_lt:=@Nat.le_of_lt
theorem yy:type_of% @List.length_drop:=@List.length_drop
theorem yB:type_of% @Array.perm_iff_toList_perm:=@Array.perm_iff_toList_perm
theorem yD:type_of% @Heap.get?_update_other:=@Heap.get?_update_other
theorem yE:type_of% @Nat.mod_lt:=@Nat.mod_lt
theorem yF:type_of% @Int.mul_pos:=@Int.mul_pos
theorem yJ:type_of% @wpAny_mono:=@wpAny_mono
theorem yM:type_of% @List.mem_of_mem_take:=@List.mem_of_mem_take
theorem yN:type_of% @List.mem_of_mem_drop:=@List.mem_of_mem_drop
theorem yQ:type_of% @Nat.lt_irrefl:=@Nat.lt_irrefl
theorem yU:type_of% @wpAny_setState_of:=@wpAny_setState_of
theorem yZ:type_of% @List.length_pos_iff:=@List.length_pos_iff
theorem y3:type_of% @wpS_mono:=@wpS_mono
theorem y6:type_of% @Int.sign_eq_neg_one_of_neg:=@Int.sign_eq_neg_one_of_neg
theorem jf:type_of% @Nat.lt_of_le_of_lt:=@Nat.lt_of_le_of_lt
theorem jg:type_of% @Int.lt_or_gt_of_ne:=@Int.lt_or_gt_of_ne
theorem jh:type_of% @Heap.get?_update_self:=@Heap.get?_update_self
theorem jo:type_of% @Array.getElem?_eq_getElem:=@Array.getElem?_eq_getElem
theorem jt:type_of% @List.mem_iff_getElem:=@List.mem_iff_getElem
theorem ju:type_of% @wpS_modify:=@wpS_modify
theorem jy:type_of% @List.mem_filter:=@List.mem_filter
theorem jN:type_of% @List.take_length:=@List.take_length
theorem jS:type_of% @Int.sign_eq_one_of_pos:=@Int.sign_eq_one_of_pos
end
namespace L2
theorem lenIs1 {α:Type}{us:List α}{n:Nat}(h:us.length=n) (e:n=1):∃ a0,us=[a0]:=by
  subst e
  cases us with
  | nil=>simp at h
  | cons a0 us =>
    cases us with
    | nil=>exact ⟨_,rfl⟩
    | cons a b=>simp at h
theorem lenIs2 {α:Type}{us:List α}{n:Nat}(h:us.length=n) (e:n=2):∃ a0 a1,us=[a0,a1]:=by
  subst e
  cases us with
  | nil=>simp at h
  | cons a0 us =>
    cases us with
    | nil=>simp at h
    | cons a1 us =>
      cases us with
      | nil=>exact ⟨_,_,rfl⟩
      | cons a b=>simp at h
theorem lenIs3 {α:Type}{us:List α}{n:Nat}(h:us.length=n) (e:n=3):∃ a0 a1 a2,us=[a0,a1,a2]:=by
  subst e
  cases us with
  | nil=>simp at h
  | cons a0 us =>
    cases us with
    | nil=>simp at h
    | cons a1 us =>
      cases us with
      | nil=>simp at h
      | cons a2 us =>
        cases us with
        | nil=>exact ⟨_,_,_,rfl⟩
        | cons a b=>simp at h
theorem lenIs4 {α:Type}{us:List α}{n:Nat}(h:us.length=n) (e:n=4):∃ a0 a1 a2 a3,us=[a0,a1,a2,a3]:=by
  subst e
  cases us with
  | nil=>simp at h
  | cons a0 us =>
    cases us with
    | nil=>simp at h
    | cons a1 us =>
      cases us with
      | nil=>simp at h
      | cons a2 us =>
        cases us with
        | nil=>simp at h
        | cons a3 us =>
          cases us with
          | nil=>exact ⟨_,_,_,_,rfl⟩
          | cons a b=>simp at h
theorem lenIs5 {α:Type}{us:List α}{n:Nat}(h:us.length=n) (e:n=5):∃ a0 a1 a2 a3 a4,us=[a0,a1,a2,a3,a4]:=by
  subst e
  cases us with
  | nil=>simp at h
  | cons a0 us =>
    cases us with
    | nil=>simp at h
    | cons a1 us =>
      cases us with
      | nil=>simp at h
      | cons a2 us =>
        cases us with
        | nil=>simp at h
        | cons a3 us =>
          cases us with
          | nil=>simp at h
          | cons a4 us =>
            cases us with
            | nil=>exact ⟨_,_,_,_,_,rfl⟩
            | cons a b=>simp at h
open PySem PySem.Spec PyProof.Rows
abbrev Key:=Sum Int Str
def qj2:Key->Value->Bool
  | .inl k,v=>Value.isInt k v
  | .inr x,v=>Value.isStrOf x v
def keyH (w:World):Key->Int
  | .inl k=>hashInt k
  | .inr x=>hashStr w x
theorem yC:∀ {k:Key}{v:Value},qj2 k v=true->(∃ i t,k=Sum.inl i/\v=Value.int i t)\/(∃ x t,k=Sum.inr x/\v=Value.str x t)
  | .inl i,v,h=>by
    obtain ⟨t,e⟩:=Value.isInt_shape (k:=i) (v:=v) h
    exact .inl ⟨i,t,rfl,e⟩
  | .inr x,v,h=>by
    obtain ⟨t,e⟩:=Value.isStrOf_shape (x:=x) (v:=v) h
    exact .inr ⟨x,t,rfl,e⟩
theorem qj1 (a b:Int):decide ((Sum.inl a:Key)=Sum.inl b)=(a == b):=by
  by_cases e:a=b
  · subst e;simp
  · have h:¬ (Sum.inl a:Key)=Sum.inl b:=fun q=>e (Sum.inl.inj q)
    rw [yt h]
    exact (beq_eq_false_iff_ne.mpr e).symm
theorem qjY (a b:Str):decide ((Sum.inr a:Key)=Sum.inr b)=decide (a=b):=by
  by_cases e:a=b
  · subst e;simp
  · have h:¬ (Sum.inr a:Key)=Sum.inr b:=fun q=>e (Sum.inr.inj q)
    rw [yt h,yt e]
theorem qj0 (a:Int) (b:Str):decide ((Sum.inl a:Key)=Sum.inr b)=false:=yt (fun q=>nomatch q)
theorem qjZ (a:Str) (b:Int):decide ((Sum.inr a:Key)=Sum.inl b)=false:=yt (fun q=>nomatch q)
def qc1 (prog:Program) (w:World):PySem.KeyKind prog w Key where
  is:=qj2
  hash:=keyH w
  inj:=fun v a b ha hb=>by
    rcases yC ha with ⟨i,t,rfl,rfl⟩ | ⟨x,t,rfl,rfl⟩
    · rcases yC hb with ⟨j,u,rfl,e⟩ | ⟨y,u,rfl,e⟩
      · injection e with e1 _;rw [e1]
      · exact nomatch e
    · rcases yC hb with ⟨j,u,rfl,e⟩ | ⟨y,u,rfl,e⟩
      · exact nomatch e
      · injection e with e1 _;rw [e1]
  byValue:=fun k v h=>by
    rcases yC h with ⟨i,t,rfl,rfl⟩ | ⟨x,t,rfl,rfl⟩ <;> rfl
  pyHash:=fun hv h=>by
    rcases yC hv with ⟨i,t,rfl,rfl⟩ | ⟨x,t,rfl,rfl⟩
    · exact wpAny_pyHash_int h
    · exact wpAny_pyHash_str h
  eqBool:=fun hu hv h=>by
    rcases yC hu with ⟨i,t,rfl,rfl⟩ | ⟨x,t,rfl,rfl⟩
    · rcases yC hv with ⟨j,u,rfl,rfl⟩ | ⟨y,u,rfl,rfl⟩
      · rw [qj1] at h;exact wpAny_eqBool_int h
      · rw [qj0] at h;exact SeqAt.EqAt.int_str i t y u _ _ _ _ h
    · rcases yC hv with ⟨j,u,rfl,rfl⟩ | ⟨y,u,rfl,rfl⟩
      · rw [qjZ] at h;exact SeqAt.EqAt.str_int x t j u _ _ _ _ h
      · rw [qjY] at h;exact wpAny_eqBool_str h
  «strs»:=fun k x t v h=>by
    rcases yC h with ⟨i,u,rfl,e⟩ | ⟨y,u,rfl,e⟩
    · exact nomatch e
    · injection e with e1 _
      subst e1
      cases v <;> rfl
inductive V where
  | non | bl (b:Bool) | int (i:Int) | str (x:Str) | byt (b:Array UInt8) | flt (b:UInt64) | ref (a:Addr) | ty (n:String)
  deriving DecidableEq
def jI:V->Value->Prop
  | .non,u=>u=Value.none
  | .bl b,u=>u=Value.bool b
  | .int i,u=>∃ t,u=Value.int i t
  | .str x,u=>∃ t,u=Value.str x t
  | .byt b,u=>∃ t,u=Value.bytes b t
  | .flt b,u=>∃ t,u=Value.float b t
  | .ref a,u=>u=Value.ref a
  | .ty n,u=>u=Value.type n
abbrev yo:List V->List Value->Prop:=Paired jI
theorem yo.length {xs:List V}{us:List Value}(r:yo xs us):xs.length=us.length:=Paired.length r
theorem yo.get:∀ {xs:List V}{us:List Value}{i:Nat}{x:V},yo xs us->xs[i]?=some x->∃ u,us[i]?=some u/\jI x u
  | _,_,_,_,.nil,e=>by simp at e
  | _,_,0,_,.cons r _,e=>by simp at e;subst e;exact ⟨_,rfl,r⟩
  | _,_,i+1,x,.cons _ t,e=>by
    obtain ⟨u,h1,h2⟩:=yo.get (i:=i) (x:=x) t (by simpa using e)
    exact ⟨u,by simpa using h1,h2⟩
theorem yo.set {x:V}{u:Value}(r:jI x u):∀ {xs:List V}{us:List Value}(i:Nat),yo xs us->yo (xs.set i x) (us.set i u)
  | _,_,_,.nil=>.nil
  | _,_,0,.cons _ t=>.cons r t
  | _,_,i+1,.cons q t=>.cons q (yo.set r i t)
theorem yo.append:∀ {xs ys:List V}{us ws:List Value},yo xs us->yo ys ws->yo (xs++ys) (us++ws)
  | _,_,_,_,.nil,s=>s
  | _,_,_,_,.cons r t,s=>.cons r (yo.append t s)
theorem yo.take:∀ {xs:List V}{us:List Value}(n:Nat),yo xs us->yo (xs.take n) (us.take n)
  | _,_,0,_=>.nil
  | _,_,_+1,.nil=>.nil
  | _,_,n+1,.cons r t=>.cons r (yo.take n t)
theorem yo.drop:∀ {xs:List V}{us:List Value}(n:Nat),yo xs us->yo (xs.drop n) (us.drop n)
  | _,_,0,r=>r
  | _,_,_+1,.nil=>.nil
  | _,_,n+1,.cons _ t=>yo.drop n t
def RelO:Option V->Option Value->Prop
  | some v,some u=>jI v u
  | none,none=>True
  | _,_=>False
def KV {κ:Type}:List (κ×V)->List (κ×Value)->Prop:=Paired fun (p:κ×V) (q:κ×Value)=>p.1=q.1/\jI p.2 q.2
def kV:Key->V
  | .inl i=>.int i
  | .inr x=>.str x
inductive HO where
    | lst (xs:List V)
    | tup (xs:List V)
    | dK (kvs:List (Key×V)) | dT (kvs:List (List Key×V))
    | set (S:Int->Bool) (n:Nat)
    | ins (C dx:Addr) (fs:List (Str×V))
    | own (x:Addr)
    | xd (fs:List (Str×V))
    | met (f x:Addr)
    | rng (lo hi:Int)
    | frz (o:Obj) (u:HO)
    | tbl (ps:Array Value)
    | ext (φ:Heap->Prop)
abbrev Hp:=Addr->Option HO
def upd (H:Hp) (a:Addr) (o:HO):Hp:=fun b=>if b=a then some o else H b
theorem yd {H:Hp}{a:Addr}{o:HO}:upd H a o a=some o:=by unfold upd;rw [if_pos rfl]
theorem yb {H:Hp}{a b:Addr}{o:HO}(h:b≠a):upd H a o b=H b:=by unfold upd;rw [if_neg h]
theorem qjU {H:Hp}{a b:Addr}{o u:HO}(h:H a=some o) (h':H b=some u) (d:o≠u):a≠b:=by
  intro e;subst e;rw [h] at h';exact d (Option.some.inj h')
theorem qY {H:Hp}{a b:Addr}{o:HO}(h:H a=some o) (h':H b=none):a≠b:=by
  intro e;subst e;rw [h] at h';cases h'
section
variable (P:Program) (w:World)
def jJ (H:Hp) (h:Heap) (a:Addr):HO->Prop
  | .lst xs=>xs.length<=sizeLine/\∃ (its:List Value) (n:Nat),yo xs its/\h.get? a=some { cls:=.type "list",data:=.seq its.toArray n }
  | .tup xs=>xs.length<=sizeLine/\∃ its:List Value,yo xs its/\IsTup h a its.toArray
  | .dK kvs=>kvs.length<=sizeLine/\(a == sysModules)=false/\∃ vs,KV kvs vs/\h.DictOf (qc1 P w) a vs
  | .dT kvs=>kvs.length<=sizeLine/\(a == sysModules)=false/\∃ xs:List (List Key×Addr×Value),
      Paired (fun (p:List Key×V) (q:List Key×Addr×Value)=>p.1=q.1/\H q.2.1=some (.tup (p.1.map kV))/\jI p.2 q.2.2) kvs xs ∧
      ∃ o es ep,h.get? a=some o/\o.ExactDict/\o.data = .dict es ep/\es.toList=xs.map (entryOfKey (tupleKind (qc1 P w)))/\(xs.map (·.1)).Nodup
  | .set S n=>h.SetOf (intKind P w) a S n
  | .ins C dx fs=>H dx=some (.own a)/\fs.length<=1000/\dx≠a/\h.get? a=some (W.instObj C dx) ∧
      ∃ mA,h.Ns1 dx mA/\(∀ f,RelO (fs.lookup f) (mA f))/\PySem.Within mA (fs.map (·.1))
  | .own _=>∃ o,h.get? a=some o
  | .xd fs=>∃ mA,h.Ns1 a mA/\∀ f,RelO (fs.lookup f) (mA f)
  | .rng lo hi=>∃ t u v,h.get? a=some { cls:=.type "range",data:=.fields #[.int lo t,.int hi u,.int 1 v] }
  | .frz o u=>h.get? a=some o/\jJ H h a u
  | .tbl ps=>h.get? a=some { cls:=.none,data:=.fields ps }
  | .met f x=>h.get? a=some (W.methodObj (.ref f) (.ref x))
  | .ext φ=>φ h/\(∃ o,h.get? a=some o)/\∀ h1 h2:Heap,φ h1->(∀ o,h1.get? a=some o->h2.get? a=some o)->φ h2
def HOk (H:Hp) (h:Heap):Prop:=∀ a o,H a=some o->jJ P w H h a o
end
section
variable {P:Program}{w:World}{H H':Hp}{h h':Heap}{a:Addr}{o:HO}
theorem jJ.lt (x:jJ P w H h a o):a<h.objs.size:=by
  cases o with
  | lst xs=>obtain ⟨_,_,_,_,e⟩:=x;exact qg e
  | tup xs=>obtain ⟨_,_,_,p⟩:=x;exact p.lt
  | dK kvs=>obtain ⟨_,_,_,_,o,_,_,e,_⟩:=x;exact qg e
  | dT kvs=>obtain ⟨_,_,_,_,o,_,_,e,_⟩:=x;exact qg e
  | set S n=>obtain ⟨o,_,_,_,e,_⟩:=x;exact qg e
  | ins C dx fs=>obtain ⟨_,_,_,e,_⟩:=x;exact qg e
  | own y=>obtain ⟨_,e⟩:=x;exact qg e
  | xd fs=>obtain ⟨_,⟨_,_,_,e,_⟩,_⟩:=x;exact qg e
  | rng lo hi=>obtain ⟨_,_,_,e⟩:=x;exact qg e
  | frz ob u=>obtain ⟨e,_⟩:=x;exact qg e
  | tbl ps=>exact qg (show h.get? a=some _ from x)
  | met f y=>exact qg (show h.get? a=some _ from x)
  | ext φ=>obtain ⟨_,⟨_,e⟩,_⟩:=x;exact qg e
theorem Paired.mapP {α β:Type}{F G:α->β->Prop}:∀ {l₁:List α}{l₂:List β},Paired F l₁ l₂->(∀ a b,F a b->G a b)->Paired G l₁ l₂
  | _,_,.nil,_=>.nil
  | _,_,.cons r t,f=>.cons (f _ _ r) (Paired.mapP t f)
theorem jJ.stay (x:jJ P w H h a o) (k:∀ b u,(b=a\/H b=some (.own a))->h.get? b=some u->h'.get? b=some u)
    (ho:∀ b,H b=some (.own a)->H' b=some (.own a)) (ht:∀ b xs,H b=some (.tup xs)->H' b=some (.tup xs)):jJ P w H' h' a o:=by
  induction o with
  | lst xs=>obtain ⟨z,its,n,r,e⟩:=x;exact ⟨z,its,n,r,k _ _ (.inl rfl) e⟩
  | tup xs=>obtain ⟨z,its,r,ob,e,c⟩:=x;exact ⟨z,its,r,ob,k _ _ (.inl rfl) e,c⟩
  | dK kvs=>obtain ⟨z,y,vs,r,ob,es,ep,e,c⟩:=x;exact ⟨z,y,vs,r,ob,es,ep,k _ _ (.inl rfl) e,c⟩
  | dT kvs =>
    obtain ⟨z,y,xs,r,ob,es,ep,e,c⟩:=x
    exact ⟨z,y,xs,Paired.mapP r fun p q z=>⟨z.1,ht _ _ z.2.1,z.2.2⟩,ob,es,ep,k _ _ (.inl rfl) e,c⟩
  | set S n=>obtain ⟨ob,es,ep,t,e,c⟩:=x;exact ⟨ob,es,ep,t,k _ _ (.inl rfl) e,c⟩
  | ins C dx fs =>
    obtain ⟨d,z,ne,e,mA,⟨od,es,ep,e2,c⟩,r⟩:=x
    exact ⟨ho _ d,z,ne,k _ _ (.inl rfl) e,mA,⟨od,es,ep,k _ _ (.inr d) e2,c⟩,r⟩
  | own y=>obtain ⟨ob,e⟩:=x;exact ⟨ob,k _ _ (.inl rfl) e⟩
  | xd fs=>obtain ⟨mA,⟨od,es,ep,e,c⟩,r⟩:=x;exact ⟨mA,⟨od,es,ep,k _ _ (.inl rfl) e,c⟩,r⟩
  | rng lo hi=>obtain ⟨t,u,v,e⟩:=x;exact ⟨t,u,v,k _ _ (.inl rfl) e⟩
  | frz ob u ih=>obtain ⟨e,q⟩:=x;exact ⟨k _ _ (.inl rfl) e,ih q⟩
  | tbl ps =>
    have e:h.get? a=some { cls:=.none,data:=.fields ps }:=x
    show h'.get? a=some { cls:=.none,data:=.fields ps }
    exact k a _ (.inl rfl) e
  | met f y =>
    have e:h.get? a=some (W.methodObj (.ref f) (.ref y)):=x
    show h'.get? a=some (W.methodObj (.ref f) (.ref y))
    exact k a _ (.inl rfl) e
  | ext φ=>obtain ⟨p,⟨o,e⟩,st⟩:=x;exact ⟨st _ _ p fun o q=>k _ _ (.inl rfl) q,⟨o,k _ _ (.inl rfl) e⟩,st⟩
theorem HOk.lt (x:HOk P w H h) (e:H a=some o):a<h.objs.size:=(x a o e).lt
theorem HOk.fresh (x:HOk P w H h) (e:h.objs.size<=a):H a=none:=by
  cases q:H a with
  | none=>rfl
  | some u=>exact absurd (qH (x.lt q) e) (yQ _)
theorem HOk.kept (x:HOk P w H h) (k:∀ b u,h.get? b=some u->h'.get? b=some u):HOk P w H h':=fun a o e =>
  (x a o e).stay (fun b u _ q=>k b u q) (fun _ q=>q) fun _ _ q=>q
theorem HOk.laid (x:HOk P w H h) (k:∀ b u,h.get? b=some u->h'.get? b=some u) (hp:h.objs.size<=a) (new:jJ P w (upd H a o) h' a o):HOk P w (upd H a o) h':=fun b u e=>by
  have hn:=x.fresh hp
  by_cases hb:b=a
  · subst hb;rw [yd] at e;cases e;exact new
  · rw [yb hb] at e
    exact (x b u e).stay (fun c v _ q=>k c v q) (fun c q=>by rw [yb (qY q hn)];exact q) fun c xs q=>by rw [yb (qY q hn)];exact q
end
def Rd (H:Hp) (a:Addr) (u:HO):Prop:=H a=some u\/∃ o,H a=some (.frz o u)
theorem Rd.of {H:Hp}{a:Addr}{u:HO}(h:H a=some u):Rd H a u:=.inl h
theorem Rd.ok {P:Program}{w:World}{H:Hp}{h:Heap}{a:Addr}{u:HO}(r:Rd H a u) (x:HOk P w H h):jJ P w H h a u:=by
  rcases r with r | ⟨o,r⟩
  · exact x a u r
  · obtain ⟨_,q⟩:=x a _ r
    exact q
def Mut:Option HO->Prop
  | some (.lst _)=>True
  | some (.dK _)=>True
  | some (.dT _)=>True
  | some (.set _ _)=>True
  | some (.ins _ _ _)=>True
  | some (.ext _)=>True
  | _=>False
section
variable {P:Program}{w:World}{H:Hp}{h h':Heap}{x e:Addr}{o':HO}
theorem HOk.write (ok:HOk P w H h) (mu:Mut (H x)) (he:e=x\/H e=some (.own x)) (k:∀ b u,b≠e->h.get? b=some u->h'.get? b=some u) (heo:∃ u,h'.get? e=some u)
    (new:jJ P w (upd H x o') h' x o'):HOk P w (upd H x o') h':=fun b u q=>by
  have nown:∀ c y,H c=some (.own y)->c≠x:=fun c y r z=>by subst z;rw [r] at mu;exact mu
  have ntup:∀ c xs,H c=some (.tup xs)->c≠x:=fun c xs r z=>by subst z;rw [r] at mu;exact mu
  by_cases hb:b=x
  · subst hb;rw [yd] at q;cases q;exact new
  · rw [yb hb] at q
    by_cases hbe:b=e
    · have q':H b=some (.own x):=by
        rcases he with z | z
        · exact absurd (hbe.trans z) hb
        · rw [hbe];exact z
      rw [q] at q';cases q'
      obtain ⟨v,hv⟩:=heo
      exact ⟨v,by rw [hbe];exact hv⟩
    · refine (ok b u q).stay (fun c v hc r=>k c v ?_ r) (fun c r=>by rw [yb (nown c b r)];exact r) fun c xs r=>by rw [yb (ntup c xs r)];exact r
      rcases hc with rfl | hc
      · exact hbe
      · rintro rfl
        rcases he with z | z
        · exact nown c b hc z
        · rw [hc] at z;cases z;exact hb rfl
end
structure Un (fs ex:List Addr) (H H':Hp) (h h':Heap):Prop where
  keep:∀ b o,h.get? b=some o->H b=none->b∉fs->b∉ex->h'.get? b=some o
  slot:∀ b o,h.get? b=some o->H b=none->b∈fs->b∉ex->∃ sl,h'.get? b=some { o with slots:=sl }
  free:∀ b o,h.get? b=some o->H b=none->b∉ex->H' b=none
  there:∀ b o,h.get? b=some o->b∉ex->∃ o',h'.get? b=some o'
  tups:∀ b xs,H b=some (.tup xs)->H' b=some (.tup xs)
  frzs:∀ b o u,H b=some (.frz o u)->H' b=some (.frz o u)
  tbls:∀ b ps,H b=some (.tbl ps)->∃ more,H' b=some (.tbl (ps++more))
section
variable {fs fs' ex ex':List Addr}{H H1 H2:Hp}{h h1 h2 h':Heap}{a x e:Addr}{o:HO}
theorem Un.any (u:Un fs ex H H1 h h1) {b:Addr}{ob:Obj}(q:h.get? b=some ob) (n:H b=none) (hx:b∉ex):∃ sl,h1.get? b=some { ob with slots:=sl }:=by
  by_cases hb:b∈fs
  · exact u.slot b ob q n hb hx
  · exact ⟨ob.slots,u.keep b ob q n hb hx⟩
theorem Un.trans (a:Un fs ex H H1 h h1) (b:Un fs ex H1 H2 h1 h2):Un fs ex H H2 h h2 where
  keep:=fun c ob q n hc hx=>b.keep c ob (a.keep c ob q n hc hx) (a.free c ob q n hx) hc hx
  slot:=fun c ob q n hc hx=>by
    obtain ⟨sl,e1⟩:=a.slot c ob q n hc hx
    obtain ⟨sl',e2⟩:=b.slot c _ e1 (a.free c ob q n hx) hc hx
    exact ⟨sl',e2⟩
  free:=fun c ob q n hx=>by
    obtain ⟨o',e1⟩:=a.there c ob q hx
    exact b.free c o' e1 (a.free c ob q n hx) hx
  there:=fun c ob q hx=>by
    obtain ⟨o',e1⟩:=a.there c ob q hx
    exact b.there c o' e1 hx
  tups:=fun c xs q=>b.tups c xs (a.tups c xs q)
  frzs:=fun c ob xs q=>b.frzs c ob xs (a.frzs c ob xs q)
  tbls:=fun c ps q=>by
    obtain ⟨m1,e1⟩:=a.tbls c ps q
    obtain ⟨m2,e2⟩:=b.tbls c _ e1
    exact ⟨m1++m2,by rw [e2,Array.append_assoc]⟩
theorem Un.kept (k:∀ b u,h.get? b=some u->h'.get? b=some u):Un fs ex H H h h' :=
  ⟨fun b ob q _ _ _=>k b ob q,fun b ob q _ _ _=>⟨ob.slots,k b ob q⟩,fun _ _ _ n _=>n,fun b ob q _=>⟨ob,k b ob q⟩,fun _ _ q=>q,fun _ _ _ q=>q,fun _ ps q=>⟨#[],by rw [q];simp⟩⟩
theorem Un.refl:Un fs ex H H h h:=Un.kept fun _ _ q=>q
theorem Un.laid (k:∀ b u,h.get? b=some u->h'.get? b=some u) (hp:h.objs.size<=a) (hn:H a=none):Un fs ex H (upd H a o) h h' where
  keep:=fun b u q _ _ _=>k b u q
  slot:=fun b u q _ _ _=>⟨u.slots,k b u q⟩
  free:=fun b u q n _=>by rw [yb (qx (qH (qg q) hp))];exact n
  there:=fun b u q _=>⟨u,k b u q⟩
  tups:=fun b xs q=>by rw [yb (qY q hn)];exact q
  frzs:=fun b u xs q=>by rw [yb (qY q hn)];exact q
  tbls:=fun b ps q=>⟨#[],by rw [yb (qY q hn),q];simp⟩
theorem Un.write (mu:Mut (H x)) (he:e=x\/H e=some (.own x)) (k:∀ b u,b≠e->h.get? b=some u->h'.get? b=some u) (heo:∃ u,h'.get? e=some u):Un fs ex H (upd H x o) h h':=by
  have hx:∀ b,H b=none->b≠x:=fun b n z=>by subst z;rw [n] at mu;exact mu
  have hb:∀ b,H b=none->b≠e:=fun b n z=>by
    subst z
    rcases he with r | r
    · exact hx b n r
    · rw [n] at r;cases r
  have hm:∀ b u,H b=some u->¬ Mut (some u)->b≠x:=fun b u q nm z=>by subst z;rw [q] at mu;exact nm mu
  refine ⟨fun b u q n _ _=>k b u (hb b n) q,fun b u q n _ _=>⟨u.slots,k b u (hb b n) q⟩,fun b u q n _=>by rw [yb (hx b n)];exact n,fun b u q _=>?_,
    fun b xs q=>by rw [yb (hm b _ q fun z=>z)];exact q,fun b u xs q=>by rw [yb (hm b _ q fun z=>z)];exact q,fun b ps q=>⟨#[],by rw [yb (hm b _ q fun z=>z),q];simp⟩⟩
  by_cases hbe:b=e
  · subst hbe;exact heo
  · exact ⟨u,k b u hbe q⟩
theorem Un.mono (u:Un fs ex H H1 h h1) (hs:∀ b∈fs,b∈fs') (hx:∀ b∈ex,b∈ex'):Un fs' ex' H H1 h h1 :=
  ⟨fun b ob q n hb he=>u.keep b ob q n (fun z=>hb (hs b z)) fun z=>he (hx b z),fun _ _ q n _ he=>u.any q n fun z=>he (hx _ z),fun b ob q n he=>u.free b ob q n fun z=>he (hx b z),fun b ob q he=>u.there b ob q fun z=>he (hx b z),u.tups,u.frzs,u.tbls⟩
end
def trk (h:Heap) (H:Hp):List Addr:=(List.range h.objs.size).filter fun a=>(H a).isSome
def qe5 (h:Heap) (H:Hp):Heap:=W.hideAll h (trk h H)
theorem qdk (h:Heap) (H:Hp):(qe5 h H).objs.size=h.objs.size:=W.hideAll_size _ _
theorem qe4 {h:Heap}{H:Hp}{b:Addr}{o:Obj}(e:h.get? b=some o) (n:H b=none):(qe5 h H).get? b=some o :=
  W.hideAll_get _ e fun hm=>by
    have q:(H b).isSome=true:=(jy.mp hm).2
    rw [n] at q;simp at q
theorem qhC {h:Heap}{H:Hp}{b:Addr}{o:Obj}(e:(qe5 h H).get? b=some o):h.get? b=some o/\H b=none:=by
  have e':h.get? b=some o:=W.of_hideAll (trk h H) e
  refine ⟨e',?_⟩
  cases q:H b with
  | none=>rfl
  | some x =>
    have hm:b∈trk h H:=jy.mpr ⟨List.mem_range.mpr (qg e'),by simp [q]⟩
    have z:(qe5 h H).get? b=none:=W.hideAll_none (trk h H) hm
    rw [z] at e;cases e
def qil (g h:Heap) (L:Addr):List (Addr×Obj):=(List.range h.objs.size).filterMap fun a=>if a=L\/(g.get? a).isSome=true then none else (h.get? a).map fun o=>(a,o)
def yY (g h:Heap) (L d:Addr):List (Addr×Obj):=(qil g h L).filter fun p=>decide (p.1≠d)
structure Mod (K:W.Frag) (mg:Str->Option Value) (base:Heap):Prop where
  kin:K.In base
  glob:base.Ns mainGlobals mg
  blt:∃ mb,base.Ns builtinsNs mb/\∀ x:Str,x ≠ "__name__" -> mb x=bootBuiltins x
  nolimit:base.NoLimit
structure Cx where
  prog:Program
  w:World
  K:W.Frag
  mg:Str->Option Value
  base:Heap
  A:Around
  N:List Str
  s₀:Shared
  H₀:Hp
  env:Env
  outer:List Env
  stack:List Env
  ex:List Addr
  fn:Str->Bool
  calm:Bool
  pn:List (Addr×Obj)
  xe:Value->Shared->Prop
def frs (l:List Env):List Addr:=l.filterMap (·.frame)
abbrev Cx.fs (X:Cx):List Addr:=frs X.outer
def Vis (sc:Scope) (x:Str):Prop:=sc.names.lookup x=some .local\/sc.names.lookup x=some .cell\/sc.names.lookup x=some .free
def Loc (sc:Scope) (x:Str):Prop:=sc.names.lookup x=some .local\/sc.names.lookup x=some .cell
def Look (env:Env) (h:Heap) (m:Str->Option Value) (x:Str) (u:Value):Prop :=
  (env.kindOf x=some .local/\m x=some u)\/((env.kindOf x=some .cell\/env.kindOf x=some .free)/\∃ c,env.cells.lookup x=some c/\h.IsCell c (some u))
structure Cx.Ok (X:Cx):Prop where
  mod:Mod X.K X.mg X.base
  kind:X.env.scope.kind = .function
  glob:X.env.globals=mainGlobals
  blt:X.env.builtins=builtinsNs
  above:X.s₀.heap.objs.size<=X.env.locals
  inj:∀ x y c,X.env.cells.lookup x=some c->X.env.cells.lookup y=some c->x=y
  has:∀ x,(X.env.kindOf x=some .cell\/X.env.kindOf x=some .free)->∃ c,X.env.cells.lookup x=some c
  cab:∀ x c,X.fn x=true->X.env.cells.lookup x=some c->X.s₀.heap.objs.size<=c
  hd:X.calm=true->X.A.handled=none
  frames:X.A.frames=some X.stack
  stk:X.stack=X.outer\/(X.stack=X.env::X.outer/\X.env.frame=some X.env.locals)
  exf:∀ b∈X.ex,b≠X.env.locals/\∀ x c,X.env.cells.lookup x=some c->c≠b
  bs:∀ b o,X.base.get? b=some o->X.s₀.heap.get? b=some o/\X.H₀ b=none
  bsz:X.base.objs.size<=X.s₀.heap.objs.size
  noex:∀ b o,X.base.get? b=some o->b∉X.ex
  exfs:∀ b∈X.ex,b∉X.fs
  funs:X.s₀.heap.FunFrames X.base X.outer
  frf:∀ b∈X.fs,X.H₀ b=none
structure Inv (X:Cx) (pins:List (Addr×Obj)) (σ:List (Option V)) (H:Hp) (s:Shared):Prop where
  ok:X.Ok
  os:s.os=X.s₀.os
  bare:AllBare s.gens
  base:Un X.fs X.ex X.H₀ H X.s₀.heap s.heap
  loc:∃ m,s.heap.Ns X.env.locals m/\∀ (i:Nat) (x:Str) (v:V),X.N[i]?=some x->σ[i]?=some (some v)->Vis X.env.scope x->∃ u,jI v u/\Look X.env s.heap m x u
  cell:∀ x c,X.env.cells.lookup x=some c->∃ v,s.heap.IsCell c v
  free:H X.env.locals=none
  freeC:∀ x c,X.env.cells.lookup x=some c->H c=none
  pin:∀ p∈X.pn++pins,s.heap.get? p.1=some p.2/\H p.1=none/\p.1≠X.env.locals/\p.1∉X.fs/\∀ v,p.2.data≠.cell v
  hok:HOk X.prog X.w H s.heap
  len:σ.length=X.N.length
section
variable {X:Cx}{pins:List (Addr×Obj)}{σ:List (Option V)}{H H':Hp}{s:Shared}{h':Heap}
theorem Cx.Ok.nofr (ok:X.Ok) {b:Addr}{o:Obj}(e:X.base.get? b=some o):b∉X.fs:=fun hb=>by
  have:=(ok.funs.mem hb).1
  rw [e] at this;cases this
theorem Inv.bs (I:Inv X pins σ H s):∀ b o,X.base.get? b=some o->s.heap.get? b=some o/\H b=none:=fun b o e =>
  ⟨I.base.keep b o (I.ok.bs b o e).1 (I.ok.bs b o e).2 (I.ok.nofr e) (I.ok.noex b o e),I.base.free b o (I.ok.bs b o e).1 (I.ok.bs b o e).2 (I.ok.noex b o e)⟩
theorem Inv.bk (I:Inv X pins σ H s):∀ b o,X.base.get? b=some o->s.heap.get? b=some o:=fun b o e=>(I.bs b o e).1
theorem Inv.mod (I:Inv X pins σ H s):Mod X.K X.mg X.base:=I.ok.mod
theorem Inv.kIn (I:Inv X pins σ H s):X.K.In s.heap:=I.ok.mod.kin.keeps I.bk
theorem Inv.nolimit (I:Inv X pins σ H s):s.heap.NoLimit:=I.ok.mod.nolimit.keeps I.bk
theorem Inv.fr (I:Inv X pins σ H s):∃ m,Fr X.base X.env.locals s.heap m :=
  let ⟨m,hn,_⟩:=I.loc
  ⟨m,hn,I.bk,qR I.ok.bsz I.ok.above⟩
theorem Inv.lt (I:Inv X pins σ H s):X.env.locals<s.heap.objs.size:=let ⟨_,hn,_⟩:=I.loc;hn.lt
theorem Inv.sz (I:Inv X pins σ H s):X.s₀.heap.objs.size<=s.heap.objs.size:=qR I.ok.above (yx I.lt)
theorem Inv.nofs (I:Inv X pins σ H s) {a:Addr}(h:s.heap.objs.size<=a):a∉X.fs:=fun hb=>by
  obtain ⟨_,o,ho,_⟩:=I.ok.funs.mem hb
  exact absurd (qH (qg ho) (qR I.sz h)) (yQ _)
theorem Inv.cne (I:Inv X pins σ H s):∀ x c,X.env.cells.lookup x=some c->c≠X.env.locals:=fun x c e z=>by
  obtain ⟨v,o,ho,hd⟩:=I.cell x c e
  obtain ⟨m,⟨o',es,ep,ho',hd',_⟩,_⟩:=I.loc
  rw [z,ho'] at ho;cases ho;rw [hd'] at hd;cases hd
theorem Inv.funs (I:Inv X pins σ H s):s.heap.FunFrames X.base X.outer:=by
  have all:∀ (l:List Env),(∀ b∈frs l,b∈X.fs)->X.s₀.heap.FunFrames X.base l->s.heap.FunFrames X.base l:=by
    intro l
    induction l with
    | nil=>intro _ _;trivial
    | cons env r ih =>
      intro hs hl
      obtain ⟨hk,⟨L,o,hf,hn,ho,hd⟩,hr⟩:=hl
      have hL:L∈X.fs:=hs L (by unfold frs;rw [List.filterMap_cons,hf];exact qv)
      obtain ⟨sl,e⟩:=I.base.slot L o ho (I.ok.frf L hL) hL fun z=>I.ok.exfs L z hL
      exact ⟨hk,⟨L,_,hf,hn,e,hd⟩,ih (fun b hb=>hs b (by unfold frs;rw [List.filterMap_cons,hf];exact qk _ hb)) hr⟩
  exact all X.outer (fun _ hb=>hb) I.ok.funs
theorem Inv.stack (I:Inv X pins σ H s):s.heap.FunFrames X.base X.stack:=by
  rcases I.ok.stk with e | ⟨e,hf⟩
  · rw [e];exact I.funs
  · rw [e]
    obtain ⟨m,hn,_⟩:=I.loc
    refine .cons (by rw [I.ok.kind];decide) hf hn ?_ I.funs
    exact Heap.get?_none_of_le (qR I.ok.bsz I.ok.above)
theorem Inv.stkSub (I:Inv X pins σ H s):∀ b∈frs X.stack,b∈X.env.locals::X.fs:=fun b hb=>by
  rcases I.ok.stk with e | ⟨e,hf⟩
  · rw [e] at hb;exact qk _ hb
  · rw [e] at hb
    unfold frs at hb
    rw [List.filterMap_cons,hf] at hb
    exact hb
theorem Inv.stkFree (I:Inv X pins σ H s):∀ b∈frs X.stack,H b=none:=fun b hb=>by
  rcases List.mem_cons.mp (I.stkSub b hb) with e | hb
  · rw [e];exact I.free
  · obtain ⟨_,o,ho,_⟩:=I.ok.funs.mem hb
    exact I.base.free b o ho (I.ok.frf b hb) fun z=>I.ok.exfs b z hb
theorem Inv.step {g':Array GenState}{t':Nat}{d':Drawn}{ch:List Addr}(I:Inv X pins σ H s)
    (hch:∀ b∈ch,(b∈X.ex\/X.s₀.heap.objs.size<=b)/\b≠X.env.locals/\(∀ x c,X.env.cells.lookup x=some c->c≠b)/\∀ p∈X.pn++pins,p.1≠b)
    (keep:∀ b o,b≠X.env.locals->b∉X.fs->b∉ch->s.heap.get? b=some o->H b=none->h'.get? b=some o)
    (slot:∀ b o,b≠X.env.locals->b∈X.fs->b∉ch->s.heap.get? b=some o->H b=none->∃ sl,h'.get? b=some { o with slots:=sl }) (free:∀ b o,b∉ch->s.heap.get? b=some o->H b=none->H' b=none)
    (there:∀ b o,b∉ch->s.heap.get? b=some o->∃ o',h'.get? b=some o')
    (tups:∀ b xs,H b=some (.tup xs)->H' b=some (.tup xs)) (frzs:∀ b o u,H b=some (.frz o u)->H' b=some (.frz o u)) (tbls:∀ b ps,H b=some (.tbl ps)->∃ more,H' b=some (.tbl (ps++more)))
    (ns:∀ m,s.heap.Ns X.env.locals m->h'.Ns X.env.locals m) (hok:HOk X.prog X.w H' h') (hg:AllBare g') :
    Inv X pins σ H' { s with heap:=h',gens:=g',drawn:=d',toks:=t' }:=by
  have neL:∀ b o,X.s₀.heap.get? b=some o->b≠X.env.locals:=fun b o e=>qx (qH (qg e) I.ok.above)
  have neC:∀ b o,X.s₀.heap.get? b=some o->b∉X.ex->b∉ch:=fun b o e hx hb=>by
    rcases (hch b hb).1 with z | z
    · exact hx z
    · exact absurd (qH (qg e) z) (yQ _)
  have cellK:∀ x c,X.env.cells.lookup x=some c->∀ v,s.heap.IsCell c v->h'.IsCell c v:=fun x c e v ⟨o,ho,hd⟩=>by
    have nch:c∉ch:=fun z=>(hch c z).2.2.1 x c e rfl
    by_cases hc:c∈X.fs
    · obtain ⟨sl,q⟩:=slot c o (I.cne x c e) hc nch ho (I.freeC x c e)
      exact ⟨_,q,hd⟩
    · exact ⟨o,keep c o (I.cne x c e) hc nch ho (I.freeC x c e),hd⟩
  refine ⟨I.ok,I.os,hg,⟨fun b o e n hb hx=>?_,fun b o e n hb hx=>?_,fun b o e n hx=>?_,fun b o e hx=>?_,fun b xs e=>tups b xs (I.base.tups b xs e),fun b o xs e=>frzs b o xs (I.base.frzs b o xs e),fun b ps e=>?_⟩,?_,fun x c e=>?_,?_,fun x c e=>?_,fun p hp=>?_,hok,I.len⟩
  · exact keep b o (neL b o e) hb (neC b o e hx) (I.base.keep b o e n hb hx) (I.base.free b o e n hx)
  · obtain ⟨sl,e1⟩:=I.base.slot b o e n hb hx
    obtain ⟨sl',e2⟩:=slot b _ (neL b o e) hb (neC b o e hx) e1 (I.base.free b o e n hx)
    exact ⟨sl',e2⟩
  · obtain ⟨o',e1⟩:=I.base.there b o e hx
    exact free b o' (neC b o e hx) e1 (I.base.free b o e n hx)
  · obtain ⟨o',e1⟩:=I.base.there b o e hx
    exact there b o' (neC b o e hx) e1
  · obtain ⟨m1,e1⟩:=I.base.tbls b ps e
    obtain ⟨m2,e2⟩:=tbls b _ e1
    exact ⟨m1++m2,by rw [e2,Array.append_assoc]⟩
  · obtain ⟨m,hn,hl⟩:=I.loc
    refine ⟨m,ns m hn,fun i x v e1 e2 e3=>?_⟩
    obtain ⟨u,r,l⟩:=hl i x v e1 e2 e3
    refine ⟨u,r,?_⟩
    rcases l with l | ⟨k,c,e,z⟩
    · exact .inl l
    · exact .inr ⟨k,c,e,cellK x c e _ z⟩
  · obtain ⟨v,z⟩:=I.cell x c e
    exact ⟨v,cellK x c e v z⟩
  · obtain ⟨m,⟨o,_,_,ho,_⟩,_⟩:=I.loc
    exact free _ o (fun z=>(hch _ z).2.1 rfl) ho I.free
  · obtain ⟨v,o,ho,hd⟩:=I.cell x c e
    exact free c o (fun z=>(hch c z).2.2.1 x c e rfl) ho (I.freeC x c e)
  · obtain ⟨e,n,ne,nf,d⟩:=I.pin p hp
    have nch:p.1∉ch:=fun z=>(hch p.1 z).2.2.2 p hp rfl
    exact ⟨keep p.1 p.2 ne nf nch e n,free p.1 p.2 nch e n,ne,nf,d⟩
theorem Inv.un {t':Nat}(I:Inv X pins σ H s) (u:Un X.fs [] H H' s.heap h') (hok:HOk X.prog X.w H' h'):Inv X pins σ H' { s with heap:=h',toks:=t' }:=by
  obtain ⟨m,⟨o,es,ep,ho,r⟩,_⟩:=id I.loc
  obtain ⟨sl,hL⟩:=u.any ho I.free (by simp)
  exact I.step (g':=s.gens) (d':=s.drawn) (ch:=[]) (fun _ z=>nomatch z) (fun b o _ hb _ e n=>u.keep b o e n hb (by simp)) (fun b o _ hb _ e n=>u.slot b o e n hb (by simp)) (fun b o _ e n=>u.free b o e n (by simp)) (fun b o _ e=>u.there b o e (by simp)) u.tups u.frzs u.tbls (fun m' hm=>by
    obtain ⟨o',es',ep',ho',r'⟩:=hm
    rw [ho] at ho';cases ho'
    exact ⟨_,es',ep',hL,r'⟩) hok I.bare
theorem Inv.call {g':Array GenState}{t':Nat}{d':Drawn}{ch:List Addr}(I:Inv X pins σ H s) (u:Un (frs X.stack) ch H H' s.heap h') (hok:HOk X.prog X.w H' h') (hg:AllBare g')
    (hch:∀ b∈ch,(b∈X.ex\/X.s₀.heap.objs.size<=b)/\b≠X.env.locals/\(∀ x c,X.env.cells.lookup x=some c->c≠b)/\∀ p∈X.pn++pins,p.1≠b) :
    Inv X pins σ H' { s with heap:=h',gens:=g',drawn:=d',toks:=t' }:=by
  obtain ⟨m,⟨o,es,ep,ho,r⟩,_⟩:=id I.loc
  obtain ⟨sl,hL⟩:=u.any ho I.free fun z=>(hch _ z).2.1 rfl
  exact I.step (ch:=ch) hch (fun b o hL hb hc e n=>u.keep b o e n (fun z=>(List.mem_cons.mp (I.stkSub b z)).elim hL hb) hc) (fun b o _ _ hc e n=>u.any e n hc) (fun b o hc e n=>u.free b o e n hc) (fun b o hc e=>u.there b o e hc) u.tups u.frzs u.tbls (fun m' hm=>by
    obtain ⟨o',es',ep',ho',r'⟩:=hm
    rw [ho] at ho';cases ho'
    exact ⟨_,es',ep',hL,r'⟩) hok hg
theorem Inv.turned {t':Nat}{it:Addr}(I:Inv X pins σ H s) (k:∀ b o,b≠it->s.heap.get? b=some o->h'.get? b=some o) (hn:H it=none) (hL:it≠X.env.locals)
    (h1:it∈X.ex\/X.s₀.heap.objs.size<=it) (h2:∀ x c,X.env.cells.lookup x=some c->c≠it) (h3:∀ p∈X.pn++pins,p.1≠it):Inv X pins σ H { s with heap:=h',toks:=t' }:=by
  have nit:∀ b u,H b=some u->b≠it:=fun b u e z=>by rw [z,hn] at e;cases e
  refine I.step (g':=s.gens) (d':=s.drawn) (ch:=[it]) (fun b hb=>?_) (fun b o _ _ hc e _=>k b o (fun z=>hc (by simp [z])) e) (fun b o _ _ hc e _=>⟨o.slots,k b o (fun z=>hc (by simp [z])) e⟩) (fun _ _ _ _ n=>n)
    (fun b o hc e=>⟨o,k b o (fun z=>hc (by simp [z])) e⟩) (fun _ _ e=>e) (fun _ _ _ e=>e) (fun b ps e=>⟨#[],by rw [e];simp⟩) (fun m hm=>?_) (fun b u e=>?_) I.bare
  · have e:b=it:=by simpa using hb
    subst e
    exact ⟨h1,hL,h2,h3⟩
  · obtain ⟨o,es,ep,ho,r⟩:=hm
    exact ⟨o,es,ep,k _ o (Ne.symm hL) ho,r⟩
  · refine (I.hok b u e).stay (fun c v hc q=>k c v ?_ q) (fun _ q=>q) fun _ _ q=>q
    rcases hc with z | z
    · rw [z];exact nit b u e
    · exact nit c _ z
theorem Inv.tok (I:Inv X pins σ H s) (t:Nat):Inv X pins σ H { s with toks:=t }:=I.un (h':=s.heap) (t':=t) Un.refl I.hok
theorem Inv.kept {t':Nat}(I:Inv X pins σ H s) (k:∀ b u,s.heap.get? b=some u->h'.get? b=some u):Inv X pins σ H { s with heap:=h',toks:=t' }:=I.un (Un.kept k) (I.hok.kept k)
theorem Inv.laid {a:Addr}{o:HO}{t':Nat}(I:Inv X pins σ H s) (k:∀ b u,s.heap.get? b=some u->h'.get? b=some u) (hp:s.heap.objs.size<=a) (new:jJ X.prog X.w (upd H a o) h' a o) :
    Inv X pins σ (upd H a o) { s with heap:=h',toks:=t' }:=I.un (Un.laid k hp (I.hok.fresh hp)) (I.hok.laid k hp new)
theorem Inv.write {x e:Addr}{o:HO}{t':Nat}(I:Inv X pins σ H s) (mu:Mut (H x)) (he:e=x\/H e=some (.own x)) (k:∀ b u,b≠e->s.heap.get? b=some u->h'.get? b=some u) (heo:∃ u,h'.get? e=some u)
    (new:jJ X.prog X.w (upd H x o) h' x o):Inv X pins σ (upd H x o) { s with heap:=h',toks:=t' }:=I.un (Un.write mu he k heo) (I.hok.write mu he k heo new)
theorem Inv.pins_of {pins':List (Addr×Obj)}(I:Inv X pins σ H s) (h:∀ p∈pins',s.heap.get? p.1=some p.2/\H p.1=none/\p.1≠X.env.locals/\p.1∉X.fs/\∀ v,p.2.data≠.cell v):Inv X pins' σ H s :=
  ⟨I.ok,I.os,I.bare,I.base,I.loc,I.cell,I.free,I.freeC,fun p hp=>(List.mem_append.mp hp).elim (fun z=>I.pin p (yv _ z)) (h p),I.hok,I.len⟩
theorem Y6 {N:List Str}(hN:N.Nodup) {i j:Nat}{x:Str}(a:N[i]?=some x) (b:N[j]?=some x):i=j:=by
  obtain ⟨h1,e1⟩:=qm.mp a
  obtain ⟨h2,e2⟩:=qm.mp b
  exact (List.getElem_inj hN).mp (e1.trans e2.symm)
theorem Zw {M:Model}{A:Around}{E:Value->Shared->Prop}{i:Nat}{x:Str}{v:V}{u:Value}{Q:Unit->Shared->Prop}(I:Inv X pins σ H s) (hN:X.N.Nodup) (hi:X.N[i]?=some x) (hx:Loc X.env.scope x) (r:jI v u)
    (h:∀ s',Inv X pins (σ.set i (some v)) H s'->(∃ a,Heap.SameBut a s.heap s'.heap/\(a=X.env.locals\/X.env.cells.lookup x=some a))->Q () s') (hf:X.fn x=true\/X.env.scope.names.lookup x=some .local:=by first | exact .inl rfl | exact .inr rfl | assumption):wpAny M A (storeName X.env x u) Q E s:=by
  obtain ⟨m,hn,hl⟩:=id I.loc
  have hcls:(X.env.scope.kind == .class || (X.env.scope.kind == .module && X.env.locals != X.env.globals))=false:=by rw [I.ok.kind];rfl
  have hiσ:i<σ.length:=by rw [I.len];exact (qm.mp hi).1
  have cne:=I.cne
  have tracked:∀ {a:Addr}{h':Heap},(∃ o,s.heap.get? a=some o/\H a=none)->Heap.SameBut a s.heap h'->HOk X.prog X.w H h':=fun {a h'} ha hs b ob e=>by
    obtain ⟨_,_,hfree⟩:=ha
    refine (I.hok b ob e).stay (fun c w' hc q=>(hs.2 c ?_).trans q) (fun _ q=>q) fun _ _ q=>q
    rintro rfl
    rcases hc with rfl | hc
    · rw [hfree] at e;cases e
    · rw [hfree] at hc;cases hc
  rcases hx with hk | hk
  · refine wpAny_storeName_local hk hn (fun h' hn' hs=>?_) hcls
    obtain ⟨oL,_,_,hoL,_⟩:=id hn
    refine h _ ⟨I.ok,I.os,I.bare,⟨fun b o e n hb hx=>?_,fun b o e n hb hx=>?_,I.base.free,fun b o e hx=>?_,I.base.tups,I.base.frzs,I.base.tbls⟩,⟨_,hn',fun j y v' e1 e2 e3=>?_⟩,fun y c e=>?_,I.free,I.freeC,fun p hp=>?_,tracked ⟨oL,hoL,I.free⟩ hs,by simpa using I.len⟩ ⟨_,hs,.inl rfl⟩
    · exact (hs.2 b (qx (qH (qg e) I.ok.above))).trans (I.base.keep b o e n hb hx)
    · obtain ⟨sl,e1⟩:=I.base.slot b o e n hb hx
      exact ⟨sl,(hs.2 b (qx (qH (qg e) I.ok.above))).trans e1⟩
    · obtain ⟨o',e1⟩:=I.base.there b o e hx
      exact ⟨o',(hs.2 b (qx (qH (qg e) I.ok.above))).trans e1⟩
    · by_cases hj:j=i
      · subst hj
        rw [hi] at e1;cases e1
        rw [List.getElem?_set_self hiσ] at e2
        cases e2
        exact ⟨u,r,.inl ⟨hk,by simp⟩⟩
      · rw [List.getElem?_set_ne (Ne.symm hj)] at e2
        obtain ⟨u',r',q⟩:=hl j y v' e1 e2 e3
        refine ⟨u',r',?_⟩
        rcases q with ⟨k,e⟩ | ⟨k,c,e,z⟩
        · refine .inl ⟨k,?_⟩
          have:y≠x:=fun e=>hj (Y6 hN e1 (e ▸ hi))
          simp [this,e]
        · exact .inr ⟨k,c,e,z.sameBut hs (cne y c e)⟩
    · obtain ⟨w',z⟩:=I.cell y c e
      exact ⟨w',z.sameBut hs (cne y c e)⟩
    · obtain ⟨e,n,ne,nf,d⟩:=I.pin p hp
      exact ⟨(hs.2 p.1 ne).trans e,n,ne,nf,d⟩
  · have hfn:X.fn x=true:=by
      rcases hf with z | z
      · exact z
      · rw [z] at hk;cases hk
    obtain ⟨c,hc⟩:=I.ok.has x (.inl hk)
    obtain ⟨w',z⟩:=I.cell x c hc
    refine wpAny_storeName_cell I.ok.kind hk hc z (fun h' hc' hs=>?_)
    obtain ⟨oc,hoc,hocd⟩:=id z
    refine h { s with heap:=h' } ⟨I.ok,I.os,I.bare,⟨fun b o e n hb hx=>?_,fun b o e n hb hx=>?_,I.base.free,fun b o e hx=>?_,I.base.tups,I.base.frzs,I.base.tbls⟩,⟨m,hn.sameBut hs (Ne.symm (cne x c hc)),fun j y v' e1 e2 e3=>?_⟩,fun y c' e=>?_,I.free,I.freeC,fun p hp=>?_,tracked ⟨oc,hoc,I.freeC x c hc⟩ hs,by simpa using I.len⟩ ⟨c,hs,.inr hc⟩
    · exact (hs.2 b (qx (qH (qg e) (I.ok.cab x c hfn hc)))).trans (I.base.keep b o e n hb hx)
    · obtain ⟨sl,e1⟩:=I.base.slot b o e n hb hx
      exact ⟨sl,(hs.2 b (qx (qH (qg e) (I.ok.cab x c hfn hc)))).trans e1⟩
    · obtain ⟨o',e1⟩:=I.base.there b o e hx
      exact ⟨o',(hs.2 b (qx (qH (qg e) (I.ok.cab x c hfn hc)))).trans e1⟩
    · by_cases hj:j=i
      · subst hj
        rw [hi] at e1;cases e1
        rw [List.getElem?_set_self hiσ] at e2
        cases e2
        exact ⟨u,r,.inr ⟨.inl hk,c,hc,hc'⟩⟩
      · rw [List.getElem?_set_ne (Ne.symm hj)] at e2
        obtain ⟨u',r',q⟩:=hl j y v' e1 e2 e3
        refine ⟨u',r',?_⟩
        rcases q with q | ⟨k,c',e,z'⟩
        · exact .inl q
        · refine .inr ⟨k,c',e,z'.sameBut hs ?_⟩
          rintro rfl
          exact hj (Y6 hN e1 (I.ok.inj _ _ _ e hc ▸ hi))
    · by_cases hcc:c'=c
      · subst hcc;exact ⟨_,hc'⟩
      · obtain ⟨w2,z2⟩:=I.cell y c' e
        exact ⟨w2,z2.sameBut hs hcc⟩
    · obtain ⟨e,n,ne,nf,d⟩:=I.pin p hp
      refine ⟨(hs.2 p.1 ?_).trans e,n,ne,nf,d⟩
      intro q
      rw [q,hoc] at e
      have q':oc=p.2:=Option.some.inj e
      exact d w' (by rw [<- q'];exact hocd)
theorem Ye {M:Model}{A:Around}{E:Value->Shared->Prop}{i:Nat}{x:Str}{v:V}{u:Value}{Q:Unit->Shared->Prop}(I:Inv X pins σ H s) (hN:X.N.Nodup) (hi:X.N[i]?=some x) (hx:Loc X.env.scope x) (r:jI v u)
    (h:∀ s',Inv X pins (σ.set i (some v)) H s'->Q () s') (hf:X.fn x=true\/X.env.scope.names.lookup x=some .local:=by first | exact .inl rfl | exact .inr rfl | assumption):wpAny M A (storeName X.env x u) Q E s :=
  Zw I hN hi hx r (fun s' I' _=>h s' I') hf
theorem Inv.call' {s':Shared}{ch:List Addr}(I:Inv X pins σ H s) (ho:s'.os=s.os) (u:Un (frs X.stack) ch H H' s.heap s'.heap) (hok:HOk X.prog X.w H' s'.heap) (hg:AllBare s'.gens)
    (hch:∀ b∈ch,(b∈X.ex\/X.s₀.heap.objs.size<=b)/\b≠X.env.locals/\(∀ x c,X.env.cells.lookup x=some c->c≠b)/\∀ p∈X.pn++pins,p.1≠b):Inv X pins σ H' s':=by
  obtain ⟨h',g',d',t',o'⟩:=s'
  have e:o'=s.os:=ho
  subst e
  exact I.call (g':=g') (t':=t') (d':=d') u hok hg hch
end
abbrev XK:=Value->Option Addr->Hp->Prop
abbrev St:=List (Option V)
abbrev VK:=V->Hp->Prop
abbrev TE:=St->Hp->VK->Prop
abbrev TT:=St->Hp->(Bool->Hp->Prop)->Prop
abbrev TA:=St->Hp->(List V->Hp->Prop)->Prop
structure Ends where
  nx:St->Hp->Prop
  rt:VK
  bk:St->Hp->Prop:=fun _ _=>False
  ct:St->Hp->Prop:=fun _ _=>False
abbrev TS:=Ends->St->Hp->Prop
def EP (X:Cx) (pins:List (Addr×Obj)) (σ:St) (Q:VK) (u:Value) (s':Shared):Prop:=∃ v H',Inv X pins σ H' s'/\jI v u/\Q v H'
def TP (X:Cx) (pins:List (Addr×Obj)) (σ:St) (Q:Bool->Hp->Prop) (b:Bool) (s':Shared):Prop:=∃ H',Inv X pins σ H' s'/\Q b H'
def AP (X:Cx) (pins:List (Addr×Obj)) (σ:St) (Q:List V->Hp->Prop) (us:List Value) (s':Shared):Prop:=∃ vs H',Inv X pins σ H' s'/\yo vs us/\Q vs H'
def SP (X:Cx) (pins:List (Addr×Obj)) (D:Ends) (f:Flow) (s':Shared):Prop :=
  match f with
  | .next=>∃ σ' H',Inv X pins σ' H' s'/\D.nx σ' H'
  | .brk=>∃ σ' H',Inv X pins σ' H' s'/\D.bk σ' H'
  | .cont=>∃ σ' H',Inv X pins σ' H' s'/\D.ct σ' H'
  | .ret u=>∃ v σ' H',Inv X pins σ' H' s'/\jI v u/\D.rt v H'
def PE (X:Cx) (e:Expr) (t:TE):Prop :=
  ∀ (pins:List (Addr×Obj)) (s:Shared) (σ:St) (H:Hp) (Q:VK),Inv X pins σ H s->t σ H Q->wpAny (model X.prog X.w) X.A (eval e X.env) (EP X pins σ Q) X.xe s
def PT (X:Cx) (e:Expr) (t:TT):Prop :=
  ∀ (pins:List (Addr×Obj)) (s:Shared) (σ:St) (H:Hp) (Q:Bool->Hp->Prop),Inv X pins σ H s->t σ H Q->wpAny (model X.prog X.w) X.A (isTrue e X.env (eval e X.env)) (TP X pins σ Q) X.xe s
def PW (X:Cx) (e:Expr) (t:TT):Prop :=
  ∀ (whole:Sem Value) (pins:List (Addr×Obj)) (s:Shared) (σ:St) (H:Hp) (Q:Bool->Hp->Prop),Inv X pins σ H s->t σ H Q->wpAny (model X.prog X.w) X.A (isTrue e X.env whole) (TP X pins σ Q) X.xe s
theorem PW.pt {X:Cx}{e:Expr}{t:TT}(h:PW X e t):PT X e t:=h _
def PA (X:Cx) (es:List Expr) (t:TA):Prop :=
  ∀ (pos:Pos) (pins:List (Addr×Obj)) (s:Shared) (σ:St) (H:Hp) (Q:List V->Hp->Prop),Inv X pins σ H s->t σ H Q->wpAny (model X.prog X.w) X.A (spliced (backTo pos (starEach es X.env))) (AP X pins σ Q) X.xe s
def PS (X:Cx) (st:Stmt) (t:TS):Prop :=
  ∀ (pins:List (Addr×Obj)) (s:Shared) (σ:St) (H:Hp) (D:Ends),Inv X pins σ H s->t D σ H->wpAny (model X.prog X.w) X.A (exec st X.env) (SP X pins D) X.xe s
def PSs (X:Cx) (st:List Stmt) (t:TS):Prop :=
  ∀ (pins:List (Addr×Obj)) (s:Shared) (σ:St) (H:Hp) (D:Ends),Inv X pins σ H s->t D σ H->wpAny (model X.prog X.w) X.A (execs st X.env) (SP X pins D) X.xe s
theorem thn {α:Type}{t:Sem α}{Q Q':α->Shared->Prop}{M:Model}{A:Around}{E:Value->Shared->Prop}{s:Shared}(h:wpAny M A t Q E s) (hQ:∀ a s,Q a s->Q' a s):wpAny M A t Q' E s:=yJ h hQ fun _ _ x=>x
section
variable {X:Cx}
def tVar (i:Nat):TE:=fun σ H Q=>∃ v,σ[i]?=some (some v)/\Q v H
def tC (v:V):TE:=fun _ H Q=>Q v H
theorem qge {i:Nat}{x:Str}{pos:Pos}(hN:X.N[i]?=some x) (hv:Vis X.env.scope x) (hd:(x == ("__debug__" : Str))=false:=by decide) (hcd:(x == ("__classdict__" : Str))=false:=by decide):PE X (.Name x pos) (tVar i):=by
  intro pins s σ H Q I h
  obtain ⟨v,e,h⟩:=h
  obtain ⟨m,hn,hl⟩:=I.loc
  obtain ⟨u,r,l⟩:=hl i x v hN e hv
  have fin:EP X pins σ Q u s:=⟨v,H,I,r,h⟩
  rcases l with ⟨hk,hm⟩ | ⟨hk,c,hc,hcell⟩
  · exact wpAny_Name (wpAny_loadName_local I.ok.kind hk hn hm fin) hd
  · rcases hk with hk | hk
    · exact wpAny_Name (wpAny_loadName_cell I.ok.kind hk hc hcell fin) hd
    · exact wpAny_Name (wpAny_loadName_free I.ok.kind hk hc hcell fin hcd) hd
theorem jC {i j pos}:PE X (.Constant (.int i) j pos) (tC (.int i)):=fun _ _ _ H _ I h=>wpAny_Constant_int ⟨.int i,H,I.tok _,⟨_,rfl⟩,h⟩
theorem pe_bl {b j pos}:PE X (.Constant (.bool b) j pos) (tC (.bl b)):=fun _ _ _ H _ I h=>Constant_bool ⟨.bl b,H,I,rfl,h⟩
theorem qjo {j pos}:PE X (.Constant .none j pos) (tC .non):=fun _ _ _ H _ I h=>Constant_none ⟨.non,H,I,rfl,h⟩
def Gl (X:Cx) (x:Str):Prop:=X.env.kindOf x=some .globalImplicit
theorem qhH {E:Value->Shared->Prop}{pins:List (Addr×Obj)}{s:Shared}{σ:St}{H:Hp}{x:Str}{u:Value}{pos:Pos}{Q:Value->Shared->Prop}(I:Inv X pins σ H s) (hg:Gl X x) (hm:X.mg x=some u) (h:Q u s)
    (hd:(x == ("__debug__" : Str))=false:=by decide):wpAny (model X.prog X.w) X.A (eval (.Name x pos) X.env) Q E s :=
  Calls.Name_function_global I.ok.kind hg (Calls.loadGlobal_global (by rw [I.ok.glob];exact I.mod.glob.keeps I.bk) hm h) hd
theorem YM {E:Value->Shared->Prop}{pins:List (Addr×Obj)}{s:Shared}{σ:St}{H:Hp}{x:Str}{u:Value}{pos:Pos}{Q:Value->Shared->Prop}(I:Inv X pins σ H s) (hg:Gl X x) (hm:X.mg x=none) (hv:bootBuiltins x=some u) (h:Q u s)
    (hn:x ≠ "__name__" := by decide) (hd:(x == ("__debug__" : Str))=false:=by decide):wpAny (model X.prog X.w) X.A (eval (.Name x pos) X.env) Q E s:=by
  obtain ⟨mb,h1,h2⟩:=I.mod.blt
  exact Calls.Name_function_global I.ok.kind hg (Calls.loadGlobal_builtin (by rw [I.ok.glob];exact I.mod.glob.keeps I.bk) hm (by rw [I.ok.blt];exact h1.keeps I.bk) ((h2 x hn).trans hv) h) hd
theorem qho {x:Str}{v:V}{u:Value}{pos:Pos}(hg:Gl X x) (hm:X.mg x=none) (hv:bootBuiltins x=some u) (r:jI v u) (hn:x ≠ "__name__" := by decide) (hd:(x == ("__debug__" : Str))=false:=by decide):PE X (.Name x pos) (tC v) :=
  fun _ _ _ H _ I h=>YM I hg hm hv ⟨v,H,I,r,h⟩ hn hd
variable {a b:Expr}{ta tb:TE}{pos:Pos}
def tB (t:TE):TT:=fun σ H Q=>t σ H fun x H1=>∃ c,x = .bl c/\Q c H1
theorem qjb {e:Expr}{t:TE}(h:PE X e t) (he:∀ whole,isTrue e X.env whole=(do let v <- whole;standAt e.pos;holding [v] (truthy v)):=by intro _;rfl):PT X e (tB t):=by
  intro pins s σ H Q I hw
  refine isTrue_plain (thn (h pins s σ H _ I hw) fun v s1 ⟨x,H1,I1,r1,q1⟩=>?_) (he _)
  obtain ⟨d,rfl,q⟩:=q1
  cases r1
  exact wpAny_truthy_bool ⟨H1,I1,q⟩
variable {tA tB':TT}{yY:List Expr}
def tAnd (t u:TT):TT:=fun σ H Q=>t σ H fun c H1=>if c=true then u σ H1 Q else Q false H1
def tOr (t u:TT):TT:=fun σ H Q=>t σ H fun c H1=>if c=true then Q true H1 else u σ H1 Q
def tNot (t:TT):TT:=fun σ H Q=>t σ H fun c H1=>Q (!c) H1
theorem qg8 (ha:PT X a tA):PW X (.BoolOp .And [a] pos) tA:=by
  intro wh pins s σ H Q I h
  refine isTrue_and (thn (ha pins s σ H Q I h) fun c s1 e=>?_)
  cases c with
  | true=>exact isTrue_and_nil e
  | false=>exact e
theorem qi8 (ha:PT X a tA):PW X (.BoolOp .Or [a] pos) tA:=by
  intro wh pins s σ H Q I h
  refine isTrue_or (thn (ha pins s σ H Q I h) fun c s1 e=>?_)
  cases c with
  | false=>exact isTrue_or_nil e
  | true=>exact e
theorem qi9 (ha:PT X a tA) (hb:PW X (.BoolOp .And (b::yY) pos) tB'):PW X (.BoolOp .And (a::b::yY) pos) (tAnd tA tB'):=by
  intro wh pins s σ H Q I h
  refine isTrue_and (thn (ha pins s σ H _ I h) fun c s1 ⟨H1,I1,q1⟩=>?_)
  cases c with
  | true=>exact hb wh pins s1 σ H1 Q I1 q1
  | false=>exact ⟨H1,I1,q1⟩
theorem pw_or (ha:PT X a tA) (hb:PW X (.BoolOp .Or (b::yY) pos) tB'):PW X (.BoolOp .Or (a::b::yY) pos) (tOr tA tB'):=by
  intro wh pins s σ H Q I h
  refine isTrue_or (thn (ha pins s σ H _ I h) fun c s1 ⟨H1,I1,q1⟩=>?_)
  cases c with
  | true=>exact ⟨H1,I1,q1⟩
  | false=>exact hb wh pins s1 σ H1 Q I1 q1
theorem qjc (ha:PT X a tA):PT X (.UnaryOp .Not a pos) (tNot tA):=by
  intro pins s σ H Q I h
  exact isTrue_not (ha pins s σ H (fun c H1=>Q (!c) H1) I h)
def tAndV (ta tb:TE):TE:=fun σ H Q=>ta σ H fun x H1=>∃ c,x = .bl c/\if c=true then tb σ H1 Q else Q (.bl false) H1
def tNotV (ta:TE):TE:=fun σ H Q=>ta σ H fun x H1=>∃ c,x = .bl c/\Q (.bl (!c)) H1
theorem qjm {op} {t:TE}(h:PE X a t):PE X (.BoolOp op [a] pos) t:=fun pins s σ H Q I hw=>BoolOp_one (h pins s σ H Q I hw)
theorem qjq (ha:PE X a ta) (hb:PE X (.BoolOp .And (b::yY) pos) tb):PE X (.BoolOp .And (a::b::yY) pos) (tAndV ta tb):=by
  intro pins s σ H Q I h
  refine BoolOp_and (thn (ha pins s σ H _ I h) fun v s1 ⟨x,H1,I1,r1,q1⟩=>?_)
  obtain ⟨c,rfl,q1⟩:=q1
  cases r1
  refine wpAny_truthy_bool ?_
  cases c with
  | true=>exact hb pins s1 σ H1 Q I1 q1
  | false=>exact ⟨.bl false,H1,I1,rfl,q1⟩
theorem qjn (ha:PE X a ta):PE X (.UnaryOp .Not a pos) (tNotV ta):=by
  intro pins s σ H Q I h
  refine UnaryOp_ (thn (ha pins s σ H _ I h) fun v s1 ⟨x,H1,I1,r1,q1⟩=>?_)
  obtain ⟨c,rfl,q1⟩:=q1
  cases r1
  exact not_of (wpAny_truthy_bool ⟨.bl (!c),H1,I1,rfl,q1⟩)
def tIf (t:TT) (ta tb:TE):TE:=fun σ H Q=>t σ H fun c H1=>if c=true then ta σ H1 Q else tb σ H1 Q
theorem qeN {c:Expr}(hc:PT X c tA) (ha:PE X a ta) (hb:PE X b tb):PE X (.IfExp c a b pos) (tIf tA ta tb):=by
  intro pins s σ H Q I h
  refine wpAny_IfExp (thn (hc pins s σ H _ I h) fun d s1 ⟨H1,I1,q1⟩=>?_)
  cases d with
  | true=>exact ha pins s1 σ H1 Q I1 q1
  | false=>exact hb pins s1 σ H1 Q I1 q1
end
def SqL (K:W.Frag) (H:Hp) (a:Addr) (xs:List V):Prop :=
  Rd H a (.lst xs) ∨
    ∃ (o:Obj) (its:Array Value) (n:Nat),K.lookup a=some o/\o.cls = .type "list" /\ o.dict=none/\o.data = .seq its n/\its.size<=sizeLine/\yo xs its.toList
def SqT (K:W.Frag) (H:Hp) (a:Addr) (xs:List V):Prop :=
  Rd H a (.tup xs) ∨
    ∃ (o:Obj) (its:Array Value) (n:Nat),K.lookup a=some o/\o.cls = .type "tuple" /\ o.data = .seq its n/\its.size<=sizeLine/\yo xs its.toList
def absV:Value->Option V
  | .none=>some .non
  | .bool b=>some (.bl b)
  | .int i _=>some (.int i)
  | .str x _=>some (.str x)
  | .bytes b _=>some (.byt b)
  | .float b _=>some (.flt b)
  | .ref a=>some (.ref a)
  | .type n=>some (.ty n)
  | _=>none
theorem jI.abs {x:V}{u:Value}(r:jI x u):absV u=some x:=by
  cases x with
  | non=>cases r;rfl
  | bl _=>cases r;rfl
  | int _=>obtain ⟨t,rfl⟩:=r;rfl
  | str _=>obtain ⟨t,rfl⟩:=r;rfl
  | byt _=>obtain ⟨t,rfl⟩:=r;rfl
  | flt _=>obtain ⟨t,rfl⟩:=r;rfl
  | ref _=>cases r;rfl
  | ty _=>cases r;rfl
theorem jI.inj {x y:V}{u:Value}(r:jI x u) (q:jI y u):x=y:=Option.some.inj (r.abs.symm.trans q.abs)
theorem yo.inj:∀ {xs ys:List V}{us:List Value},yo xs us->yo ys us->xs=ys
  | _,_,_,.nil,.nil=>rfl
  | _,_,_,.cons r t,.cons r' t'=>by rw [r.inj r',yo.inj t t']
section
variable {X:Cx}{pins:List (Addr×Obj)}{σ:St}{H:Hp}{s:Shared}{a:Addr}{xs ys:List V}
theorem SqL.of {K:W.Frag}(h:H a=some (.lst xs)):SqL K H a xs:=.inl (.inl h)
theorem SqT.of {K:W.Frag}(h:H a=some (.tup xs)):SqT K H a xs:=.inl (.inl h)
theorem Inv.list (I:Inv X pins σ H s) (h:SqL X.K H a xs):∃ its:List Value,yo xs its/\PlainL s.heap a its.toArray/\xs.length<=sizeLine:=by
  rcases h with h | ⟨o,its,n,hk,hc,hd,hs,hz,r⟩
  · obtain ⟨z,its,n,r,e⟩:=h.ok I.hok
    exact ⟨its,r,⟨_,n,e,rfl,rfl,rfl⟩,z⟩
  · refine ⟨its.toList,r,⟨o,n,I.kIn a o hk,hc,hd,by simpa using hs⟩,?_⟩
    have e:=r.length
    simp only [Array.length_toList] at e
    omega
theorem Inv.tuple (I:Inv X pins σ H s) (h:SqT X.K H a xs):∃ its:List Value,yo xs its/\IsTup s.heap a its.toArray/\xs.length<=sizeLine:=by
  rcases h with h | ⟨o,its,n,hk,hc,hs,hz,r⟩
  · obtain ⟨z,its,r,p⟩:=h.ok I.hok
    exact ⟨its,r,p,z⟩
  · refine ⟨its.toList,r,⟨o,I.kIn a o hk,hc,n,by simpa using hs⟩,?_⟩
    have e:=r.length
    simp only [Array.length_toList] at e
    omega
theorem Inv.list_inj (I:Inv X pins σ H s) (h:SqL X.K H a xs) (h':SqL X.K H a ys):xs=ys:=by
  obtain ⟨its,r,⟨o,n,e,_,_,d⟩,_⟩:=I.list h
  obtain ⟨its',r',⟨o',n',e',_,_,d'⟩,_⟩:=I.list h'
  rw [e] at e';cases e'
  rw [d] at d'
  injection d' with d1 _
  have:its=its':=by simpa using congrArg Array.toList d1
  subst this
  exact r.inj r'
theorem Inv.tuple_inj (I:Inv X pins σ H s) (h:SqT X.K H a xs) (h':SqT X.K H a ys):xs=ys:=by
  obtain ⟨its,r,⟨o,e,_,n,d⟩,_⟩:=I.tuple h
  obtain ⟨its',r',⟨o',e',_,n',d'⟩,_⟩:=I.tuple h'
  rw [e] at e';cases e'
  rw [d] at d'
  injection d' with d1 _
  have:its=its':=by simpa using congrArg Array.toList d1
  subst this
  exact r.inj r'
end
abbrev Cx.wish (X:Cx) (E:Value->Shared->Prop):Cx:={ X with xe:=E }
abbrev Cx.nox (X:Cx):Cx:=X.wish fun _ _=>False
theorem Cx.Ok.wish {X:Cx}(ok:X.Ok) (E:Value->Shared->Prop):(X.wish E).Ok :=
  ⟨ok.mod,ok.kind,ok.glob,ok.blt,ok.above,ok.inj,ok.has,ok.cab,ok.hd,ok.frames,ok.stk,ok.exf,ok.bs,ok.bsz,ok.noex,ok.exfs,ok.funs,ok.frf⟩
theorem Cx.Ok.unwish {X:Cx}{E:Value->Shared->Prop}(ok:(X.wish E).Ok):X.Ok :=
  ⟨ok.mod,ok.kind,ok.glob,ok.blt,ok.above,ok.inj,ok.has,ok.cab,ok.hd,ok.frames,ok.stk,ok.exf,ok.bs,ok.bsz,ok.noex,ok.exfs,ok.funs,ok.frf⟩
section
variable {X:Cx}{pins:List (Addr×Obj)}{σ:St}{H:Hp}{s:Shared}{E:Value->Shared->Prop}
theorem Inv.wish (I:Inv X pins σ H s) (E:Value->Shared->Prop):Inv (X.wish E) pins σ H s:=⟨I.ok.wish E,I.os,I.bare,I.base,I.loc,I.cell,I.free,I.freeC,I.pin,I.hok,I.len⟩
theorem Inv.unwish (I:Inv (X.wish E) pins σ H s):Inv X pins σ H s:=⟨I.ok.unwish,I.os,I.bare,I.base,I.loc,I.cell,I.free,I.freeC,I.pin,I.hok,I.len⟩
theorem SP.unwish {D:Ends}{f:Flow}{s':Shared}(h:SP (X.wish E) pins D f s'):SP X pins D f s':=by
  cases f with
  | next=>obtain ⟨σ',H',I,q⟩:=h;exact ⟨σ',H',I.unwish,q⟩
  | brk=>obtain ⟨σ',H',I,q⟩:=h;exact ⟨σ',H',I.unwish,q⟩
  | cont=>obtain ⟨σ',H',I,q⟩:=h;exact ⟨σ',H',I.unwish,q⟩
  | ret u=>obtain ⟨v,σ',H',I,r,q⟩:=h;exact ⟨v,σ',H',I.unwish,r,q⟩
theorem PE.nox {e:Expr}{t:TE}(h:PE X.nox e t):PE X e t:=fun pins s σ H Q I hw =>
  yJ (h pins s σ H Q (I.wish _) hw) (fun _ _ ⟨v,H',I',r,q⟩=>⟨v,H',I'.unwish,r,q⟩) fun _ _ z=>False.elim z
theorem PT.nox {e:Expr}{t:TT}(h:PT X.nox e t):PT X e t:=fun pins s σ H Q I hw =>
  yJ (h pins s σ H Q (I.wish _) hw) (fun _ _ ⟨H',I',q⟩=>⟨H',I'.unwish,q⟩) fun _ _ z=>False.elim z
theorem PSs.nox {st:List Stmt}{t:TS}(h:PSs X.nox st t):PSs X st t:=fun pins s σ H D I hw =>
  yJ (h pins s σ H D (I.wish _) hw) (fun _ _ q=>q.unwish) fun _ _ z=>False.elim z
end
section
variable {X:Cx}{st:Stmt}{yY:List Stmt}{t u:TS}{e:Expr}{te:TE}{pos:Pos}
def tNext:TS:=fun D σ H=>D.nx σ H
def tSeq (t u:TS):TS:=fun D σ H=>t { D with nx:=u D } σ H
theorem qcG:PSs X [] tNext:=fun _ _ σ H _ I h=>wpAny_execs_nil ⟨σ,H,I,h⟩
theorem Jz (h1:PS X st t) (h2:PSs X yY u):PSs X (st::yY) (tSeq t u):=by
  intro pins s σ H D I h
  refine wpAny_execs_cons (thn (h1 pins s σ H { D with nx:=u D } I h) fun f s1 q=>?_)
  cases f with
  | next =>
    obtain ⟨σ',H',I',q⟩:=q
    exact h2 pins s1 σ' H' D I' q
  | ret v=>exact q
  | brk=>exact q
  | cont=>exact q
theorem qar (h1:PS X st t):PSs X [st] t:=by
  intro pins s σ H D I h
  refine wpAny_execs_cons (thn (h1 pins s σ H D I h) fun f s1 q=>?_)
  cases f with
  | next=>exact wpAny_execs_nil q
  | ret v=>exact q
  | brk=>exact q
  | cont=>exact q
theorem Inv.quiet {pins:List (Addr×Obj)}{σ:St}{H:Hp}{s:Shared}(I:Inv X pins σ H s):interactive X.env=false:=by simp [interactive,I.ok.kind]
def tDrop (te:TE):TS:=fun D σ H=>te σ H fun _ H1=>D.nx σ H1
theorem qhc (he:PE X e te) (hs:swapsWith e none pos.line X.env=pure false:=by rfl):PS X (.Expr e pos) (tDrop te):=by
  intro pins s σ H D I h
  exact wpAny_Expr_any (thn (he pins s σ H _ I h) fun v s1 ⟨x,H1,I1,r1,q1⟩=>⟨σ,H1,I1,q1⟩) I.quiet hs
def tRet (te:TE):TS:=fun D σ H=>te σ H D.rt
theorem qa3 (he:PE X e te):PS X (.Return (some e) pos) (tRet te):=by
  intro pins s σ H D I h
  exact wpAny_Return_some (thn (he pins s σ H _ I h) fun v s1 ⟨x,H1,I1,r1,q1⟩=>⟨x,σ,H1,I1,r1,q1⟩)
def tIfS (c:TT) (t u:TS):TS:=fun D σ H=>c σ H fun b H1=>if b=true then t D σ H1 else u D σ H1
theorem qjg {c:Expr}{a b:List Stmt}{tc:TT}(hc:PT X c tc) (ha:PSs X a t) (hb:PSs X b u):PS X (.If c a b pos) (tIfS tc t u):=by
  intro pins s σ H D I h
  refine wpAny_If (thn (hc pins s σ H _ I h) fun d s1 ⟨H1,I1,q1⟩=>?_)
  cases d with
  | true=>exact ha pins s1 σ H1 D I1 q1
  | false=>exact hb pins s1 σ H1 D I1 q1
end
abbrev TG:=V->St->Hp->(St->Hp->Prop)->Prop
abbrev TGs:=List V->St->Hp->(St->Hp->Prop)->Prop
def PG (X:Cx) (target:Expr) (t:TG):Prop :=
  ∀ (pins:List (Addr×Obj)) (s:Shared) (σ:St) (H:Hp) (v:V) (u:Value) (Q:St->Hp->Prop),Inv X pins σ H s->jI v u->t v σ H Q →
    wpAny (model X.prog X.w) X.A (assign target X.env u) (fun _ s'=>∃ σ' H',Inv X pins σ' H' s'/\Q σ' H') X.xe s
def PGs (X:Cx) (ts:List Expr) (t:TGs):Prop :=
  ∀ (pins:List (Addr×Obj)) (s:Shared) (σ:St) (H:Hp) (vs:List V) (us:List Value) (Q:St->Hp->Prop),Inv X pins σ H s->yo vs us->t vs σ H Q →
    wpAny (model X.prog X.w) X.A (assignInOrder ((assignEach ts X.env).map (·.2)) us) (fun _ s'=>∃ σ' H',Inv X pins σ' H' s'/\Q σ' H') X.xe s
abbrev TSet:=V->V->V->Hp->(Hp->Prop)->Prop
def PSet (X:Cx) (t:TSet):Prop :=
  ∀ (pins:List (Addr×Obj)) (s:Shared) (σ:St) (H:Hp) (o i v:V) (ov iv u:Value) (Q:Hp->Prop),Inv X pins σ H s->jI o ov->jI i iv->jI v u->t o i v H Q →
    wpAny (model X.prog X.w) X.A (setItem ov iv u) (fun _ s'=>∃ H',Inv X pins σ H' s'/\Q H') X.xe s
section
variable {X:Cx}{pos:Pos}
def qe8 (i:Nat):TG:=fun v σ H Q=>Q (σ.set i (some v)) H
theorem qhj {i:Nat}{x:Str}(hN:X.N.Nodup) (hi:X.N[i]?=some x) (hx:Loc X.env.scope x) (hf:X.fn x=true\/X.env.scope.names.lookup x=some .local:=by first | exact .inl rfl | exact .inr rfl | assumption):PG X (.Name x pos) (qe8 i):=by
  intro pins s σ H v u Q I r h
  exact wpAny_assign_Name (Ye I hN hi hx r (fun s' I'=>⟨_,H,I',h⟩) hf)
def gNil:TGs:=fun vs σ H Q=>vs=[]/\Q σ H
def qj9 (t:TG) (u:TGs):TGs:=fun vs σ H Q=>∃ v r,vs=v::r/\t v σ H fun σ' H'=>u r σ' H' Q
theorem qhh:PGs X [] gNil:=by
  intro pins s σ H vs us Q I r h
  obtain ⟨e,h⟩:=h
  subst e
  cases r
  exact assignInOrder_nil ⟨σ,H,I,h⟩
theorem qeJ {e:Expr}{es:List Expr}{t:TG}{u:TGs}(h1:PG X e t) (h2:PGs X es u)
    (hs:(assignEach (e::es) X.env).map (·.2)=assign e X.env::(assignEach es X.env).map (·.2):=by rfl):PGs X (e::es) (qj9 t u):=by
  intro pins s σ H vs us Q I r h
  obtain ⟨v,vr,e1,h⟩:=h
  subst e1
  cases r with
  | cons r rr =>
    rw [hs]
    refine assignInOrder_cons (thn (h1 pins s σ H _ _ _ I r h) fun _ s1 ⟨σ1,H1,I1,q1⟩=>?_)
    exact h2 pins s1 σ1 H1 _ _ Q I1 rr q1
def gTup (K:W.Frag) (n:Nat) (t:TGs):TG:=fun v σ H Q=>∃ a xs,v = .ref a/\SqT K H a xs/\xs.length=n/\t xs σ H Q
theorem qjj {es:List Expr}{k:Nat}{t:TGs}{n:Nat}(hc:X.calm=true) (h:PGs X es t)
    (hn:(assignEach es X.env).length=n:=by rfl) (hst:(assignEach es X.env).findIdx? (·.1)=none:=by rfl):PG X (.Tuple es k pos) (gTup X.K n t):=by
  intro pins s σ H v u Q I r hw
  obtain ⟨a,xs,e1,hq,hl,hw⟩:=hw
  subst e1
  cases r
  obtain ⟨its,rv,ht,hz⟩:=I.tuple hq
  refine assign_Tuple_tuple (I.ok.hd hc) ht (by simp [hn,<- hl,rv.length]) hst fun h' hx=>?_
  have I1:Inv X pins σ H { s with heap:=h' }:=I.kept (t':=s.toks) fun b o e=>hx b o (qx (qg e)) e
  exact h pins _ σ H xs _ Q I1 (by simpa using rv) hw
def gSub (to ti:TE) (t:TSet):TG:=fun v σ H Q=>to σ H fun o H1=>ti σ H1 fun i H2=>t o i v H2 fun H3=>Q σ H3
theorem qgd {o i:Expr}{to ti:TE}{t:TSet}(ho:PE X o to) (hi:PE X i ti) (hs:PSet X t)
    (ha:∀ v,assign (.Subscript o i pos) X.env v=(do
      let ov <- holding [v] (eval o X.env)
      let iv <- holding [v,ov] (eval i X.env)
      standAt pos
      holding [v,ov,iv] (setItem ov iv v)
      release [v,ov,iv] []):=by intro _;rfl):PG X (.Subscript o i pos) (gSub to ti t):=by
  intro pins s σ H v u Q I r h
  rw [ha]
  refine qb (yk (thn (ho pins s σ H _ I h) fun ov s1 ⟨x,H1,I1,r1,q1⟩=>?_))
  refine qb (yk (thn (hi pins s1 σ H1 _ I1 q1) fun iv s2 ⟨y,H2,I2,r2,q2⟩=>?_))
  refine qb (wpAny_standAt (qb (yk (thn (hs pins s2 σ H2 x y v ov iv u _ I2 r1 r2 r q2) fun _ s3 ⟨H3,I3,q3⟩=>?_))))
  exact wpAny_release ⟨σ,H3,I3,q3⟩
def tAsg (te:TE) (g:TG):TS:=fun D σ H=>te σ H fun x H1=>g x σ H1 D.nx
theorem qcI {tg e:Expr}{te:TE}{g:TG}(he:PE X e te) (hg:PG X tg g) (hs:swapsWithSole [tg] e pos.line X.env=pure false:=by rfl) (hw:swappedStores [tg] e X.env=pure none:=by rfl)
    (h1:(assignEach [tg] X.env).map (·.2)=[assign tg X.env]:=by rfl):PS X (.Assign [tg] e pos) (tAsg te g):=by
  intro pins s σ H D I h
  refine wpAny_Assign_stores (thn (he pins s σ H _ I h) fun v s1 ⟨x,H1,I1,r1,q1⟩=>?_) hs hw
  rw [h1]
  exact thn (hg pins s1 σ H1 x v _ I1 r1 q1) fun _ s2 q=>q
theorem qgc {i:Nat}{x:Str}{e:Expr}{te:TE}{pos':Pos}(hN:X.N.Nodup) (hi:X.N[i]?=some x) (hx:Loc X.env.scope x) (he:PE X e te) (hs:swapsWith e (some (.Name x pos')) pos.line X.env=pure false:=by rfl) (hf:X.fn x=true\/X.env.scope.names.lookup x=some .local:=by first | exact .inl rfl | exact .inr rfl | assumption) :
    PS X (.Assign [.Name x pos'] e pos) (tAsg te (qe8 i)):=by
  intro pins s σ H D I h
  refine wpAny_Assign_Name (thn (he pins s σ H _ I h) fun v s1 ⟨y,H1,I1,r1,q1⟩=>?_) hs
  exact Ye I1 hN hi hx r1 (fun s2 I2=>⟨_,H1,I2,q1⟩) hf
def tPar (i j:Nat) (ta:TA):TS:=fun D σ H=>ta σ H fun vs H1=>∃ v w,vs=[v,w]/\D.nx ((σ.set i (some v)).set j (some w)) H1
theorem qjf {i j:Nat}{x y:Str}{a b:Expr}{ta:TA}{px py pt:Pos}{kt k2 pt2} (hc:X.calm=true) (hN:X.N.Nodup) (hi:X.N[i]?=some x) (hj:X.N[j]?=some y) (hij:i≠j)
    (hx:X.env.scope.names.lookup x=some .local) (hy:X.env.scope.names.lookup y=some .local) (ha:PA X [a,b] ta)
    (hw:swappedStores [.Tuple [.Name x px,.Name y py] kt pt] (.Tuple [a,b] k2 pt2) X.env=pure (some [x,y]))
    (hs:swapsWithSole [.Tuple [.Name x px,.Name y py] kt pt] (.Tuple [a,b] k2 pt2) pos.line X.env=pure false:=by rfl) :
    PS X (.Assign [.Tuple [.Name x px,.Name y py] kt pt] (.Tuple [a,b] k2 pt2) pos) (tPar i j ta):=by
  intro pins s σ H D I h
  rw [exec_Assign_arm]
  refine qb (wpAny_standAt ?_)
  rw [hs]
  refine qb (qe ?_)
  rw [if_neg (by decide)]
  refine qb (Tuple_ (thn (ha _ pins s σ H _ I h) fun us s1 ⟨vs,H1,I1,r1,q1⟩=>?_))
  obtain ⟨v,w,e1,q1⟩:=q1
  subst e1
  obtain ⟨u1,u2,rfl,rv,rw'⟩:∃ u1 u2,us=[u1,u2]/\jI v u1/\jI w u2:=by
    cases r1 with
    | cons p q =>
      cases q with
      | cons p' q' =>
        cases q'
        exact ⟨_,_,rfl,p,p'⟩
  refine wpAny_newObj_type ?_ (by show 2<=sizeLine;decide)
  have I2:Inv X pins σ H1 { s1 with heap:=s1.heap.push { cls:=.type "tuple",data:=.seq [u1,u2].toArray } }:=I1.kept (t':=s1.toks) fun b o e=>qc _ e
  rw [hw]
  refine qb (qe ?_)
  show wpAny (model X.prog X.w) X.A (do rule "assign.swapped-stores";let items <- unpackItems (.ref s1.heap.objs.size) 2 none;assignInOrder [fun v=>bindName X.env y v,fun v=>bindName X.env x v] items.reverse;pure Flow.next) _ _ _
  refine qb (wpAny_rule (qb (unpackItems_tuple (items:=#[u1,u2]) (I.ok.hd hc) (IsTup.new s1.heap _) fun h' hx'=>?_)))
  have I3:=I2.kept (h':=h') (t':=s1.toks) fun b o e=>hx' b o (qx (qg e)) e
  show wpAny _ _ (assignInOrder [fun v=>bindName X.env y v,fun v=>bindName X.env x v] [u2,u1] >>= fun _=>pure Flow.next) _ _ _
  refine qb (assignInOrder_cons (wpAny_bindName (Ye I3 hN hj (.inl hy) rw' (fun s2 I4=>?_) (.inr hy))))
  refine assignInOrder_cons (wpAny_bindName (Ye I4 hN hi (.inl hx) rv (fun s3 I5=>assignInOrder_nil (qe ?_)) (.inr hx)))
  rw [List.set_comm _ _ (Ne.symm hij)] at I5
  exact ⟨_,H1,I5,q1⟩
end
section
variable {X:Cx}{pos:Pos}
def qiG (c:TT) (tb:TS):TS:=fun D σ H=>∃ W:Nat->St->Hp->Prop,(∃ m,W m σ H)/\∀ m σ H,W m σ H →
  c σ H fun b H1=>if b=true then ∃ N:St->Hp->Prop,(∀ σ' H',N σ' H'->∃ m',m'<m/\W m' σ' H')/\tb { D with nx:=N,ct:=N,bk:=D.nx } σ H1 else D.nx σ H1
theorem qeH {c:Expr}{body:List Stmt}{tc:TT}{tb:TS}(hp:PassesOwn (model X.prog X.w) X.A X.env X.xe) (hc:PT X c tc) (hb:PSs X body tb):PS X (.While c body [] pos) (qiG tc tb):=by
  intro pins s σ H D I h
  obtain ⟨W,⟨m0,w0⟩,turn⟩:=h
  refine wpAny_While (codeAny_whileLoop (fun n s'=>∃ σ' H',Inv X pins σ' H' s'/\W n σ' H') ?_ m0 ⟨σ,H,I,w0⟩)
  rintro n s1 ⟨σ1,H1,I1,w1⟩
  refine wpAny_passesOwn hp (thn (hc pins s1 σ1 H1 _ I1 (turn n σ1 H1 w1)) fun b s2 ⟨H2,I2,q2⟩=>?_)
  cases b with
  | true =>
    obtain ⟨N,hN,q2⟩:=q2
    rw [if_pos rfl]
    refine wpAny_passesOwn hp (thn (hb pins s2 σ1 H2 _ I2 q2) fun f s3 q3=>?_)
    cases f with
    | next =>
      obtain ⟨σ3,H3,I3,n3⟩:=q3
      obtain ⟨m',hm,w3⟩:=hN σ3 H3 n3
      exact ⟨m',hm,σ3,H3,I3,w3⟩
    | cont =>
      obtain ⟨σ3,H3,I3,n3⟩:=q3
      obtain ⟨m',hm,w3⟩:=hN σ3 H3 n3
      exact ⟨m',hm,σ3,H3,I3,w3⟩
    | brk=>exact q3
    | ret v=>exact q3
  | false =>
    rw [if_neg Bool.false_ne_true]
    exact wpAny_execs_nil ⟨σ1,H2,I2,q2⟩
end
structure It where
  go:Nat->Hp->Prop
  yld:Nat->Hp->V->Hp->Prop
  stop:Nat->Hp->Prop
def qel (X:Cx) (pins:List (Addr×Obj)) (H:Hp) (b:Addr):Prop :=
  H b=none/\b≠X.env.locals/\b∉X.fs/\(b∈X.ex\/X.s₀.heap.objs.size<=b)/\(∀ x c,X.env.cells.lookup x=some c->c≠b)/\∀ p∈X.pn++pins,p.1≠b
theorem Inv.fpOk {X:Cx}{pins:List (Addr×Obj)}{σ:St}{H H':Hp}{s:Shared}{b:Addr}(I:Inv X pins σ H s) (hb:s.heap.objs.size<=b) (hn:H' b=none):qel X pins H' b:=by
  refine ⟨hn,Nat.ne_of_gt (qH I.lt hb),I.nofs hb,.inr (qR I.sz hb),fun x c e z=>?_,fun p hp z=>?_⟩
  · obtain ⟨v,q⟩:=I.cell x c e
    exact absurd (qH q.lt (by rw [z];exact hb)) (yQ _)
  · exact absurd (qH (qg (I.pin p hp).1) (by rw [z];exact hb)) (yQ _)
structure Turn (P:Program) (w:World) (K:W.Frag) (tg:Expr) (J:It) (fp:List Addr) (it:Addr) (tn:Nat->Heap->Prop):Prop where
  mem:it∈fp
  obj:∀ i h,tn i h->∀ b∈fp,∃ o,h.get? b=some o/\∀ v,o.data≠.cell v
  keep:∀ i h h',tn i h->(∀ b∈fp,∀ o,h.get? b=some o->h'.get? b=some o)->tn i h'
  item:∀ (X:Cx),X.prog=P->X.w=w->X.K=K->X.calm=true->∀ (i:Nat) (pins:List (Addr×Obj)) (s:Shared) (σ:St) (H:Hp) (E:Value->Shared->Prop),Inv X pins σ H s->(∀ b∈fp,qel X pins H b)->tn i s.heap->J.go i H →
    wpAny (model P w) X.A (pyNext (.ref it)) (fun r s1=>∃ u,r=some u ∧
      wpAny (model P w) X.A (letOwnedTupleGo tg (.ref it) u) (fun _ s2=>∃ x H',Inv X pins σ H' s2/\jI x u/\J.yld i H x H'/\tn (i+1) s2.heap/\∀ b∈fp,H' b=none) E s1) E s
  done:∀ (X:Cx),X.prog=P->X.w=w->X.K=K->X.calm=true->∀ (i:Nat) (pins:List (Addr×Obj)) (s:Shared) (σ:St) (H:Hp) (E:Value->Shared->Prop),Inv X pins σ H s->(∀ b∈fp,qel X pins H b)->tn i s.heap->J.stop i H →
    wpAny (model P w) X.A (pyNext (.ref it)) (fun r s1=>r=none/\Inv X pins σ H s1) E s
  self:∀ (A:Around) (i:Nat) (s:Shared) (Q:Value->Shared->Prop) (E:Value->Shared->Prop),tn i s.heap->Q (.ref it) s->wpAny (model P w) A (pyIter (.ref it)) Q E s
abbrev TI:=St->Hp->(It->Hp->Prop)->Prop
def PIE (X:Cx) (pins:List (Addr×Obj)) (σ:St) (tg:Expr) (R:It->Hp->Prop) (itv:Value) (s2:Shared):Prop :=
  ∃ (it:Addr) (fp:List Addr) (tn:Nat->Heap->Prop) (J:It) (H':Hp),itv = .ref it/\Inv X pins σ H' s2/\Turn X.prog X.w X.K tg J fp it tn/\tn 0 s2.heap/\(∀ b∈fp,qel X pins H' b)/\R J H'
def PI (X:Cx) (tg iter:Expr) (wi:TI):Prop :=
  ∀ (pins:List (Addr×Obj)) (s:Shared) (σ:St) (H:Hp) (R:It->Hp->Prop),Inv X pins σ H s->wi σ H R →
    wpAny (model X.prog X.w) X.A (eval iter X.env) (fun v s1=>wpAny (model X.prog X.w) X.A (pyIter v) (PIE X pins σ tg R) X.xe s1) X.xe s
theorem qhS {M:Model}{A:Around}{E:Value->Shared->Prop}{s:Shared}{tg:Expr}{it:Addr}{u:Value}{o:Obj}{n:String}{vs:Array Value}{Q:Unit->Shared->Prop}(ho:s.heap.get? it=some o) (hc:o.cls = .type n) (hd:o.data = .fields vs)
    (hn:["enumerate", "zip", "dict_itemiterator", "dict_reverseitemiterator", "odict_iterator", "itertools.zip_longest", "itertools.pairwise"].contains n=false) (hQ:Q () s):wpAny M A (letOwnedTupleGo tg (.ref it) u) Q E s:=by
  unfold letOwnedTupleGo
  cases tg <;> first
    | exact qe hQ
    | (cases u <;> first
        | exact qe hQ
        | (refine qb (wpAny_load ho ?_)
           rw [hc,hd]
           show wpAny M A (if (["enumerate", "zip", "dict_itemiterator", "dict_reverseitemiterator", "odict_iterator", "itertools.zip_longest", "itertools.pairwise"].contains n && vs[0]? == some (rawInt _))=true then _ else _) Q E s
           rw [if_neg (by intro h;rw [hn,Bool.false_and] at h;cases h)]
           exact qe hQ))
def Itl (K:W.Frag) (a:Addr):It :=
  ⟨fun i H=>∃ xs x,SqL K H a xs/\xs[i]?=some x,fun i H x H'=>H'=H/\∀ xs,SqL K H a xs->xs[i]?=some x,fun i H=>∃ xs,SqL K H a xs/\xs.length<=i⟩
def Itt (K:W.Frag) (a:Addr):It :=
  ⟨fun i H=>∃ xs x,SqT K H a xs/\xs[i]?=some x,fun i H x H'=>H'=H/\∀ xs,SqT K H a xs->xs[i]?=some x,fun i H=>∃ xs,SqT K H a xs/\xs.length<=i⟩
def Itr (lo:Int) (n:Nat):It:=⟨fun i _=>i<n,fun i H x H'=>H'=H/\x = .int (lo+i),fun i _=>n<=i⟩
theorem qb9 {P:Program}{w:World}{K:W.Frag}{tg:Expr}(a it:Addr):Turn P w K tg (Itl K a) [it] it (fun i h=>h.IsListIter it a i) where
  mem:=by simp
  obj:=fun i h st b hb=>by
    have e:b=it:=by simpa using hb
    subst e
    obtain ⟨o,e,c,d⟩:=st
    exact ⟨o,e,fun v z=>by rw [d] at z;cases z⟩
  keep:=fun i h h' st k=>st.at fun o e=>k it (by simp) o e
  item:=by
    intro X hP hw hK hc i pins s σ H E I hf st hg
    subst hP hw hK
    obtain ⟨xs,x,hq,hx⟩:=hg
    obtain ⟨its,rv,p,hz⟩:=I.list hq
    obtain ⟨u,hu,ru⟩:=rv.get hx
    obtain ⟨f0,f1,f2,f3,f4,f5⟩:=hf it (by simp)
    refine wpAny_pyNext_list_item st p.isList (x:=u) (by simpa using hu) fun h' st' sb=>?_
    have I1:Inv X pins σ H { s with heap:=h' }:=I.turned (t':=s.toks) (fun b o hb e=>(sb.2 b hb).trans e) f0 f1 f3 f4 f5
    obtain ⟨o,e,c,d⟩:=id st'
    exact ⟨u,rfl,qhS (s:={ s with heap:=h' }) e c d (by decide) ⟨x,H,I1,ru,⟨rfl,fun ys hy=>by rw [I.list_inj hy hq];exact hx⟩,st',fun b hb=>(hf b hb).1⟩⟩
  done:=by
    intro X hP hw hK hc i pins s σ H E I hf st hg
    subst hP hw hK
    obtain ⟨xs,hq,hx⟩:=hg
    obtain ⟨its,rv,p,hz⟩:=I.list hq
    obtain ⟨f0,f1,f2,f3,f4,f5⟩:=hf it (by simp)
    have hl:=rv.length
    exact wpAny_pyNext_list_end (I.ok.hd hc) st p.isList (by simp;omega) fun h' eb=>⟨rfl,I.turned (t':=s.toks) (fun b o hb e=>eb b o hb e) f0 f1 f3 f4 f5⟩
  self:=fun _ _ _ _ _ st h=>wpAny_pyIter_listiter st h
theorem qbx {P:Program}{w:World}{K:W.Frag}{tg:Expr}(a it:Addr):Turn P w K tg (Itt K a) [it] it (fun i h=>h.IsTupleIter it a i) where
  mem:=by simp
  obj:=fun i h st b hb=>by
    have e:b=it:=by simpa using hb
    subst e
    obtain ⟨o,e,c,d⟩:=st
    exact ⟨o,e,fun v z=>by rw [d] at z;cases z⟩
  keep:=fun i h h' st k=>st.at fun o e=>k it (by simp) o e
  item:=by
    intro X hP hw hK hc i pins s σ H E I hf st hg
    subst hP hw hK
    obtain ⟨xs,x,hq,hx⟩:=hg
    obtain ⟨its,rv,p,hz⟩:=I.tuple hq
    obtain ⟨u,hu,ru⟩:=rv.get hx
    obtain ⟨f0,f1,f2,f3,f4,f5⟩:=hf it (by simp)
    refine wpAny_pyNext_tuple_item st (show s.heap.IsTuple a its.toArray from p) (x:=u) (by simpa using hu) fun h' st' sb=>?_
    have I1:Inv X pins σ H { s with heap:=h' }:=I.turned (t':=s.toks) (fun b o hb e=>(sb.2 b hb).trans e) f0 f1 f3 f4 f5
    obtain ⟨o,e,c,d⟩:=id st'
    exact ⟨u,rfl,qhS (s:={ s with heap:=h' }) e c d (by decide) ⟨x,H,I1,ru,⟨rfl,fun ys hy=>by rw [I.tuple_inj hy hq];exact hx⟩,st',fun b hb=>(hf b hb).1⟩⟩
  done:=by
    intro X hP hw hK hc i pins s σ H E I hf st hg
    subst hP hw hK
    obtain ⟨xs,hq,hx⟩:=hg
    obtain ⟨its,rv,p,hz⟩:=I.tuple hq
    obtain ⟨f0,f1,f2,f3,f4,f5⟩:=hf it (by simp)
    have hl:=rv.length
    exact wpAny_pyNext_tuple_end (I.ok.hd hc) st (show s.heap.IsTuple a its.toArray from p) (by simp;omega) fun h' eb=>⟨rfl,I.turned (t':=s.toks) (fun b o hb e=>eb b o hb e) f0 f1 f3 f4 f5⟩
  self:=fun _ _ _ _ _ st h=>wpAny_pyIter_tupleiter st h
theorem qby {P:Program}{w:World}{K:W.Frag}{tg:Expr}(it:Addr) (lo:Int) (n:Nat):Turn P w K tg (Itr lo n) [it] it (fun i h=>IsRangeIter h it (lo+(i:Nat) * 1) ((n:Int) - (i:Nat)) 1) where
  mem:=by simp
  obj:=fun i h st b hb=>by
    have e:b=it:=by simpa using hb
    subst e
    exact ⟨_,st,fun v z=>by
      have z':Data.fields _=Data.cell v:=z
      cases z'⟩
  keep:=fun i h h' st k=>k it (by simp) _ st
  item:=by
    intro X hP hw hK hc i pins s σ H E I hf st hg
    subst hP hw hK
    obtain ⟨f0,f1,f2,f3,f4,f5⟩:=hf it (by simp)
    have W:=Walks.range (prog:=X.prog) (w:=X.w) (I.ok.hd hc) it lo 1 n
    refine W.item i s _ _ hg st fun v h' tk hv st' kk=>?_
    obtain ⟨t,rfl⟩:=hv
    have I1:Inv X pins σ H { s with heap:=h',toks:=tk }:=I.turned (fun b o hb e=>kk b o (by simpa using hb) e) f0 f1 f3 f4 f5
    refine ⟨_,rfl,qhS (s:={ s with heap:=h',toks:=tk }) (n := "range_iterator") st' rfl rfl (by decide) ⟨.int (lo+i),H,I1,⟨t,?_⟩,⟨rfl,rfl⟩,st',fun b hb=>(hf b hb).1⟩⟩
    rw [Int.mul_one]
  done:=by
    intro X hP hw hK hc i pins s σ H E I hf st hg
    subst hP hw hK
    obtain ⟨f0,f1,f2,f3,f4,f5⟩:=hf it (by simp)
    exact wpAny_pyNext_range_end (I.ok.hd hc) st (by have:n<=i:=hg;omega) fun h' eb=>⟨rfl,I.turned (t':=s.toks) (fun b o hb e=>eb b o hb e) f0 f1 f3 f4 f5⟩
  self:=fun _ _ _ _ _ st h=>wpAny_pyIter_rangeiter st h
section
variable {X:Cx}{tg:Expr}
def iList (K:W.Frag) (tl:TE):TI:=fun σ H R=>tl σ H fun x H1=>∃ a,x = .ref a/\(∃ xs,SqL K H1 a xs)/\R (Itl K a) H1
def iTup (K:W.Frag) (tl:TE):TI:=fun σ H R=>tl σ H fun x H1=>∃ a,x = .ref a/\(∃ xs,SqT K H1 a xs)/\R (Itt K a) H1
theorem qhg {l:Expr}{tl:TE}(hl:PE X l tl):PI X tg l (iList X.K tl):=by
  intro pins s σ H R I h
  refine thn (hl pins s σ H _ I h) fun v s1 hq9=>?_
  obtain ⟨x,H1,I1,r1,q1⟩:=hq9
  obtain ⟨a,e,⟨xs,hq⟩,q⟩:=q1
  subst e
  cases r1
  obtain ⟨its,rv,p,hz⟩:=I1.list hq
  refine wpAny_pyIter_list p.isList ?_
  refine ⟨s1.heap.objs.size,[s1.heap.objs.size],_,_,H1,rfl,I1.kept (t':=s1.toks) fun b o e=>qc _ e,qb9 a _,⟨_,qz _ rfl,rfl,rfl⟩,fun b hb=>?_,q⟩
  have e:b=s1.heap.objs.size:=by simpa using hb
  subst e
  exact I1.fpOk (qi _) (I1.hok.fresh (qi _))
theorem qji {l:Expr}{tl:TE}(hl:PE X l tl):PI X tg l (iTup X.K tl):=by
  intro pins s σ H R I h
  refine thn (hl pins s σ H _ I h) fun v s1 hq9=>?_
  obtain ⟨x,H1,I1,r1,q1⟩:=hq9
  obtain ⟨a,e,⟨xs,hq⟩,q⟩:=q1
  subst e
  cases r1
  obtain ⟨its,rv,p,hz⟩:=I1.tuple hq
  refine wpAny_pyIter_tuple (show s1.heap.IsTuple a its.toArray from p) ?_
  refine ⟨s1.heap.objs.size,[s1.heap.objs.size],_,_,H1,rfl,I1.kept (t':=s1.toks) fun b o e=>qc _ e,qbx a _,⟨_,qz _ rfl,rfl,rfl⟩,fun b hb=>?_,q⟩
  have e:b=s1.heap.objs.size:=by simpa using hb
  subst e
  exact I1.fpOk (qi _) (I1.hok.fresh (qi _))
theorem qeG {pins:List (Addr×Obj)}{σ:St}{H:Hp}{s:Shared}{R:It->Hp->Prop}{E:Value->Shared->Prop}{lo hi:Int}{t u v:Tok}{tk:Nat}(I:Inv X pins σ H s) (h1:-(2 ^ 62)<=lo) (h2:lo<2 ^ 62) (h3:-(2 ^ 62)<=hi) (h4:hi<2 ^ 62)
    (q:R (Itr lo (hi - lo).toNat) H):wpAny (model X.prog X.w) X.A (pyIter (.ref s.heap.objs.size)) (PIE X pins σ tg R) E { s with heap:=s.heap.push { cls:=.type "range",data:=.fields #[.int lo t,.int hi u,.int 1 v] },toks:=tk }:=by
  refine wpAny_pyIter_range (IsRange.new ..) (small_one h1 h2 h3 h4) ?_
  have I1:Inv X pins σ H { s with heap:=s.heap.push { cls:=.type "range",data:=.fields #[.int lo t,.int hi u,.int 1 v] },toks:=tk }:=I.kept fun b o e=>qc _ e
  refine ⟨(s.heap.push { cls:=.type "range",data:=.fields #[.int lo t,.int hi u,.int 1 v] }).objs.size,[(s.heap.push { cls:=.type "range",data:=.fields #[.int lo t,.int hi u,.int 1 v] }).objs.size],_,_,H,rfl,
    I1.kept (t':=tk) fun b o e=>qc _ e,qby _ lo (hi - lo).toNat,?_,fun b hb=>?_,q⟩
  · have e1:lo+((0:Nat):Int) * 1=lo:=by simp
    have e2:(((hi - lo).toNat:Nat):Int) - ((0:Nat):Int)=Builtin.Range.rangeSize lo hi 1:=by rw [rangeSize_one];split <;> omega
    show IsRangeIter _ _ (lo+((0:Nat):Int) * 1) ((((hi - lo).toNat:Nat):Int) - ((0:Nat):Int)) 1
    rw [e1,e2]
    exact qz _ rfl
  · have e:b=(s.heap.push { cls:=.type "range",data:=.fields #[.int lo t,.int hi u,.int 1 v] }).objs.size:=by simpa using hb
    subst e
    exact I1.fpOk (qi _) (I1.hok.fresh (qi _))
def iRng1 (ta:TA):TI:=fun σ H R=>ta σ H fun vs H1=>∃ j:Int,vs=[.int j]/\-(2 ^ 62)<=j/\j<2 ^ 62/\R (Itr 0 j.toNat) H1
theorem qcP {a:Expr}{ta:TA}{p pos:Pos}(hg:Gl X "range") (hm:X.mg "range" = none) (ha:PA X [a] ta) (hs:starEach [a] X.env=[(false,eval a X.env)]:=by rfl):PI X tg (.Call (.Name "range" p) [a] [] pos) (iRng1 ta):=by
  intro pins s σ H R I h
  refine Call_ (YM I hg hm boot_range (PyProof.Rows.callWith_type1 (thn (ha pos pins s σ H _ I h) fun us s1 ⟨vs,H1,I1,r1,q1⟩=>?_) hs rfl))
  obtain ⟨j,e,q1,q2,q⟩:=q1
  subst e
  cases r1 with
  | cons r rr =>
    cases rr
    obtain ⟨t,rfl⟩:=r
    exact call_range_1 (qeG I1 (by omega) (by omega) q1 q2 (by simpa using q))
def tFor (wi:TI) (g:TG) (tb:TS):TS:=fun D σ H=>wi σ H fun J H1=>∃ W:Nat->Nat->St->Hp->Prop,(∃ m,W 0 m σ H1)/\∀ i m σ H,W i m σ H →
  (J.stop i H/\D.nx σ H)\/(J.go i H/\∃ N:St->Hp->Prop,(∀ σ' H',N σ' H'->∃ m',m'<m/\W (i+1) m' σ' H')/\∀ x H',J.yld i H x H'->g x σ H' fun σ2 H2=>tb { D with nx:=N,ct:=N,bk:=D.nx } σ2 H2)
def ZE (fp:List Addr) (h:Heap):List (Addr×Obj):=fp.filterMap fun b=>(h.get? b).map fun o=>(b,o)
theorem Jg {fp:List Addr}{h:Heap}{b:Addr}{o:Obj}(hb:b∈fp) (e:h.get? b=some o):(b,o)∈ZE fp h:=List.mem_filterMap.mpr ⟨b,hb,by rw [e];rfl⟩
theorem qcV {fp:List Addr}{h:Heap}{p:Addr×Obj}(hp:p∈ZE fp h):p.1∈fp/\h.get? p.1=some p.2:=by
  obtain ⟨b,hb,e⟩:=List.mem_filterMap.mp hp
  cases q:h.get? b with
  | none=>rw [q] at e;cases e
  | some o =>
    rw [q] at e
    have e':(b,o)=p:=Option.some.inj e
    subst e'
    exact ⟨hb,q⟩
theorem Inv.pinned {pins:List (Addr×Obj)}{σ:St}{H:Hp}{s:Shared}{fp:List Addr}(I:Inv X pins σ H s) (hf:∀ b∈fp,qel X pins H b) (ho:∀ b∈fp,∃ o,s.heap.get? b=some o/\∀ v,o.data≠.cell v):Inv X (pins++ZE fp s.heap) σ H s :=
  I.pins_of fun p hp=>(List.mem_append.mp hp).elim (fun z=>I.pin p (qF _ z)) fun z=>by
    obtain ⟨hb,e⟩:=qcV z
    obtain ⟨f0,f1,f2,_⟩:=hf p.1 hb
    obtain ⟨o,e',d⟩:=ho p.1 hb
    rw [e] at e';cases e'
    exact ⟨e,f0,f1,f2,d⟩
theorem Inv.unpinned {pins pl:List (Addr×Obj)}{σ:St}{H:Hp}{s:Shared}(I:Inv X (pins++pl) σ H s):Inv X pins σ H s:=I.pins_of fun p hp=>I.pin p (qF _ (yv _ hp))
theorem qjh {iter:Expr}{body:List Stmt}{wi:TI}{g:TG}{tb:TS}{pos:Pos}(hp:PassesOwn (model X.prog X.w) X.A X.env X.xe) (hc:X.calm=true) (hi:PI X tg iter wi) (hg:PG X tg g) (hb:PSs X body tb)
    (hs:∀ x,foldedSetIterable iter X.env x=pure x:=by intro _;rfl):PS X (.For tg iter body [] pos) (tFor wi g tb):=by
  intro pins s σ H D I h
  refine wpAny_For (thn (hi pins s σ H _ I h) fun v s1 h1=>thn h1 fun itv s2 h2=>?_) hs
  obtain ⟨it,fp,tn,J,H2,e,I2,T,st2,f2,W,⟨m0,w0⟩,turn⟩:=h2
  subst e
  -- what stays true of the iterator's objects through the loop
  have stat:∀ {H':Hp},(∀ b∈fp,H' b=none)->∀ b∈fp,qel X pins H' b:=fun hn b hb=>⟨hn b hb,(f2 b hb).2⟩
  refine codeAny_forLoop_any (fun n s'=>∃ i σ' H',Inv X pins σ' H' s'/\tn i s'.heap/\(∀ b∈fp,H' b=none)/\W i n σ' H') ?_ m0 ⟨0,σ,H2,I2,st2,fun b hb=>(f2 b hb).1,w0⟩
  rintro n s3 ⟨i,σ3,H3,I3,st3,fr3,w3⟩
  rcases turn i n σ3 H3 w3 with ⟨stop,qn⟩ | ⟨go,N,hN,step⟩
  · refine wpAny_passesOwn hp (thn (T.done X rfl rfl rfl hc i pins s3 σ3 H3 X.xe I3 (stat fr3) st3 stop) fun r s4 ⟨hr,I4⟩=>?_)
    subst hr
    exact wpAny_execs_nil ⟨σ3,H3,I4,qn⟩
  · refine wpAny_passesOwn hp (thn (T.item X rfl rfl rfl hc i pins s3 σ3 H3 X.xe I3 (stat fr3) st3 go) fun r s4 ⟨u,hr,h4⟩=>?_)
    subst hr
    refine wpAny_passesOwn hp (thn h4 fun _ s5 ⟨x,H5,I5,r5,y5,st5,fr5⟩=>?_)
    have I5':=I5.pinned (stat fr5) (T.obj _ _ st5)
    refine wpAny_passesOwn hp (thn (hg _ s5 σ3 H5 x u _ I5' r5 (step x H5 y5)) fun _ s6 ⟨σ6,H6,I6,q6⟩=>?_)
    refine wpAny_passesOwn hp (thn (hb _ s6 σ6 H6 _ I6 q6) fun f s7 q7=>?_)
    have again:∀ {σ7:St}{H7:Hp},Inv X (pins++ZE fp s5.heap) σ7 H7 s7->N σ7 H7->∃ m,m<n/\∃ i σ' H',Inv X pins σ' H' s7/\tn i s7.heap/\(∀ b∈fp,H' b=none)/\W i m σ' H':=fun {σ7 H7} I7 n7=>by
      obtain ⟨m',hm,w7⟩:=hN σ7 H7 n7
      refine ⟨m',hm,i+1,σ7,H7,I7.unpinned,T.keep _ _ _ st5 fun b hb o e=>(I7.pin (b,o) (qF _ (qF _ (Jg hb e)))).1,fun b hb=>?_,w7⟩
      obtain ⟨o,e,d⟩:=T.obj _ _ st5 b hb
      exact (I7.pin (b,o) (qF _ (qF _ (Jg hb e)))).2.1
    cases f with
    | next=>obtain ⟨σ7,H7,I7,n7⟩:=q7;exact again I7 n7
    | cont=>obtain ⟨σ7,H7,I7,n7⟩:=q7;exact again I7 n7
    | brk=>obtain ⟨σ7,H7,I7,q7⟩:=q7;exact ⟨σ7,H7,I7.unpinned,q7⟩
    | ret v=>obtain ⟨x7,σ7,H7,I7,r7,q7⟩:=q7;exact ⟨x7,σ7,H7,I7.unpinned,r7,q7⟩
end
abbrev R2:=V->V->Hp->VK->Prop
def OpR (X:Cx) (f:Value->Value->Sem Value) (r:R2):Prop :=
  ∀ (pins:List (Addr×Obj)) (s:Shared) (σ:St) (H:Hp) (x y:V) (v u:Value) (Q:VK),Inv X pins σ H s->jI x v->jI y u->r x y H Q →
    wpAny (model X.prog X.w) X.A (f v u) (EP X pins σ Q) X.xe s
def UnR (X:Cx) (f:Value->Sem Value) (r:V->Hp->VK->Prop):Prop :=
  ∀ (pins:List (Addr×Obj)) (s:Shared) (σ:St) (H:Hp) (x:V) (v:Value) (Q:VK),Inv X pins σ H s->jI x v->r x H Q →
    wpAny (model X.prog X.w) X.A (f v) (EP X pins σ Q) X.xe s
def yu (X:Cx) (f:Value) (r:List V->Hp->VK->Prop):Prop :=
  ∀ (pins:List (Addr×Obj)) (s:Shared) (σ:St) (H:Hp) (xs:List V) (us:List Value) (Q:VK),Inv X pins σ H s->yo xs us->r xs H Q →
    wpAny (model X.prog X.w) X.A (call f us) (EP X pins σ Q) X.xe s
def tOp (r:R2) (ta tb:TE):TE:=fun σ H Q=>ta σ H fun x H1=>tb σ H1 fun y H2=>r x y H2 Q
def tUn (r:V->Hp->VK->Prop) (ta:TE):TE:=fun σ H Q=>ta σ H fun x H1=>r x H1 Q
def rI (C:Int->Int->Prop) (g:Int->Int->V):R2:=fun x y H Q=>∃ i j,x = .int i/\y = .int j/\C i j/\Q (g i j) H
def rI0 (g:Int->Int->V):R2:=fun x y H Q=>∃ i j,x = .int i/\y = .int j/\Q (g i j) H
def rU (g:Int->V):V->Hp->VK->Prop:=fun x H Q=>∃ i,x = .int i/\Q (g i) H
section
variable {X:Cx}{a b c:Expr}{ta tb tc:TE}{pos:Pos}
theorem binT (ha:PE X a ta) (hb:PE X b tb) {pins:List (Addr×Obj)}{s:Shared}{σ:St}{H:Hp}{R:V->V->Hp->Prop}(I:Inv X pins σ H s)
    (h:ta σ H fun x H1=>tb σ H1 fun y H2=>R x y H2) {Q:Value->Shared->Prop}{f:Value->Value->Sem Value}
    (hf:∀ v u s2 x y H2,Inv X pins σ H2 s2->jI x v->jI y u->R x y H2->wpAny (model X.prog X.w) X.A (f v u) Q X.xe s2) :
    wpAny (model X.prog X.w) X.A (eval a X.env) (fun v s₁=>wpAny (model X.prog X.w) X.A (eval b X.env) (fun u s₂=>wpAny (model X.prog X.w) X.A (f v u) Q X.xe s₂) X.xe s₁) X.xe s:=by
  refine thn (ha pins s σ H _ I h) fun v s1 hq9=>?_
  obtain ⟨x,H1,I1,r1,q1⟩:=hq9
  refine thn (hb pins s1 σ H1 _ I1 q1) fun u s2 hq9=>?_
  obtain ⟨y,H2,I2,r2,q2⟩:=hq9
  exact hf v u s2 x y H2 I2 r1 r2 q2
theorem YD {op:Operator}{r:R2}(ho:OpR X (binaryOp op) r) (ha:PE X a ta) (hb:PE X b tb):PE X (.BinOp a op b pos) (tOp r ta tb):=by
  intro pins s σ H Q I h
  exact wpAny_BinOp (binT ha hb I h fun v u s2 x y H2 I2 rx ry q=>ho pins s2 σ H2 x y v u Q I2 rx ry q)
theorem pe_un {op:UnaryOp}{r:V->Hp->VK->Prop}(ho:UnR X (unaryOp op) r) (ha:PE X a ta):PE X (.UnaryOp op a pos) (tUn r ta):=by
  intro pins s σ H Q I h
  exact UnaryOp_ (thn (ha pins s σ H _ I h) fun v s1 ⟨x,H1,I1,r1,q1⟩=>ho pins s1 σ H1 x v Q I1 r1 q1)
theorem opI {f:Value->Value->Sem Value}{C:Int->Int->Prop}{g:Int->Int->Int}
    (rule:∀ (i j:Int) (t u:Tok) (s:Shared) (Q:Value->Shared->Prop) (E:Value->Shared->Prop),C i j->Q (.int (g i j) s.toks) { s with toks:=s.toks+1 }->wpAny (model X.prog X.w) X.A (f (.int i t) (.int j u)) Q E s) :
    OpR X f (rI C fun i j=>.int (g i j)):=by
  intro pins s σ H x y v u Q I rx ry h
  obtain ⟨i,j,rfl,rfl,hc,q⟩:=h
  obtain ⟨t,rfl⟩:=rx
  obtain ⟨t',rfl⟩:=ry
  exact rule i j t t' s _ _ hc ⟨.int (g i j),H,I.tok _,⟨_,rfl⟩,q⟩
theorem opI0 {f:Value->Value->Sem Value}{g:Int->Int->Int}
    (rule:∀ (i j:Int) (t u:Tok) (s:Shared) (Q:Value->Shared->Prop) (E:Value->Shared->Prop),Q (.int (g i j) s.toks) { s with toks:=s.toks+1 }->wpAny (model X.prog X.w) X.A (f (.int i t) (.int j u)) Q E s) :
    OpR X f (rI0 fun i j=>.int (g i j)):=by
  intro pins s σ H x y v u Q I rx ry h
  obtain ⟨i,j,rfl,rfl,q⟩:=h
  obtain ⟨t,rfl⟩:=rx
  obtain ⟨t',rfl⟩:=ry
  exact rule i j t t' s _ _ ⟨.int (g i j),H,I.tok _,⟨_,rfl⟩,q⟩
theorem qkV {f:Value->Value->Sem Value}{g:Int->Int->Bool}
    (rule:∀ (i j:Int) (t u:Tok) (s:Shared) (Q:Value->Shared->Prop) (E:Value->Shared->Prop),Q (.bool (g i j)) s->wpAny (model X.prog X.w) X.A (f (.int i t) (.int j u)) Q E s) :
    OpR X f (rI0 fun i j=>.bl (g i j)):=by
  intro pins s σ H x y v u Q I rx ry h
  obtain ⟨i,j,rfl,rfl,q⟩:=h
  obtain ⟨t,rfl⟩:=rx
  obtain ⟨t',rfl⟩:=ry
  exact rule i j t t' s _ _ ⟨.bl (g i j),H,I,rfl,q⟩
def CPow (i j:Int):Prop:=0<=j/\j<=1000000/\i.natAbs<2 ^ 64
def CMul (i j:Int):Prop:=(-(2 ^ 64)<i/\i<2 ^ 64)\/(-(2 ^ 64)<j/\j<2 ^ 64)
theorem CMul.ok {i j:Int}(h:CMul i j):IntMulOk i j:=by
  rcases h with ⟨h1,h2⟩ | ⟨h1,h2⟩
  · exact .of_left (intBits_le_64 h1 h2)
  · exact .of_right (intBits_le_64 h1 h2)
theorem qcT:OpR X (binaryOp .Add) (rI0 fun i j=>.int (i+j)):=opI0 fun _ _ _ _ _ _ _ q=>add_int q
theorem qjt:OpR X (binaryOp .Sub) (rI0 fun i j=>.int (i - j)):=opI0 fun _ _ _ _ _ _ _ q=>sub_int q
theorem ZL:OpR X (binaryOp .Mod) (rI (fun _ j=>0<j) fun i j=>.int (i % j)):=opI fun i j _ _ _ _ _ hc q=>by
  have h1:(0:Int)<j:=hc
  exact mod_int' (by omega) (by rw [Int.fmod_eq_emod_of_nonneg i (by omega)];exact q)
theorem qju:OpR X (binaryOp .Pow) (rI CPow fun i j=>.int (i ^ j.toNat)):=opI fun _ _ _ _ _ _ _ hc q=>pow_int_small hc.1 hc.2.1 hc.2.2 q
theorem unI {f:Value->Sem Value}{g:Int->Int}
    (rule:∀ (i:Int) (t:Tok) (s:Shared) (Q:Value->Shared->Prop) (E:Value->Shared->Prop),Q (.int (g i) s.toks) { s with toks:=s.toks+1 }->wpAny (model X.prog X.w) X.A (f (.int i t)) Q E s) :
    UnR X f (rU fun i=>.int (g i)):=by
  intro pins s σ H x v Q I rx h
  obtain ⟨i,rfl,q⟩:=h
  obtain ⟨t,rfl⟩:=rx
  exact rule i t s _ _ ⟨.int (g i),H,I.tok _,⟨_,rfl⟩,q⟩
theorem qiC:UnR X (unaryOp .USub) (rU fun i=>.int (-i)):=unI fun _ _ _ _ _ q=>neg_int q
end
section
variable {X:Cx}{a b c:Expr}{ta tb tc:TE}{pos:Pos}
theorem op_lt:OpR X (compareOp .Lt) (rI0 fun i j=>.bl (decide (i<j))):=qkV fun _ _ _ _ _ _ _ q=>lt_int q
theorem op_le:OpR X (compareOp .LtE) (rI0 fun i j=>.bl (decide (i<=j))):=qkV fun _ _ _ _ _ _ _ q=>le_int q
theorem qjw:OpR X (compareOp .Gt) (rI0 fun i j=>.bl (decide (j<i))):=qkV fun _ _ _ _ _ _ _ q=>gt_int q
theorem op_ge:OpR X (compareOp .GtE) (rI0 fun i j=>.bl (decide (j<=i))):=qkV fun _ _ _ _ _ _ _ q=>ge_int q
theorem OpR.or {f:Value->Value->Sem Value}{r r':R2}(h:OpR X f r) (h':OpR X f r'):OpR X f (fun x y H Q=>r x y H Q\/r' x y H Q):=by
  intro pins s σ H x y v u Q I rx ry q
  rcases q with q | q
  · exact h pins s σ H x y v u Q I rx ry q
  · exact h' pins s σ H x y v u Q I rx ry q
theorem qP (b:Expr) {op:CmpOp}(h:op≠.In:=by decide) (h2:op≠.NotIn:=by decide):behindInMarks op b=false:=by
  have e1:(op == CmpOp.In)=false:=by cases op <;> first | rfl | exact absurd rfl h
  have e2:(op == CmpOp.NotIn)=false:=by cases op <;> first | rfl | exact absurd rfl h2
  cases b <;> simp [behindInMarks,e1,e2]
theorem qhm {op:CmpOp}{r:R2}(ho:OpR X (compareOp op) r) (ha:PE X a ta) (hb:PE X b tb) (hm:behindInMarks op b=false):PE X (.Compare a [op] [b] pos) (tOp r ta tb):=by
  intro pins s σ H Q I h
  exact wpAny_Compare1 (binT ha hb I h fun v u s2 x y H2 I2 rx ry q=>ho pins s2 σ H2 x y v u Q I2 rx ry q) hm
def tTest (t:TE):TT:=fun σ H Q=>t σ H fun x H'=>∃ k,x = .bl k/\Q k H'
theorem qcD {op:CmpOp}{r:R2}(ho:OpR X (compareOp op) r) (ha:PE X a ta) (hb:PE X b tb) (hm:behindInMarks op b=false):PT X (.Compare a [op] [b] pos) (tTest (tOp r ta tb)):=by
  intro pins s σ H Q I h
  refine wpAny_isTrue_Compare1 (thn (ha pins s σ H _ I h) fun v s1 ⟨x,H1,I1,r1,q1⟩=>thn (hb pins s1 σ H1 _ I1 q1) fun u s2 ⟨y,H2,I2,r2,q2⟩ =>
    thn (ho pins s2 σ H2 x y v u _ I2 r1 r2 q2) fun c s3 ⟨z,H3,I3,r3,k,e,q3⟩=>?_) hm
  subst e
  cases r3
  exact wpAny_truthy_bool ⟨H3,I3,q3⟩
theorem qbf:(sizeLine:Nat)<2 ^ 63:=by rw [sizeLine_eq];decide
theorem JI {x:V}{us:List Value}(r:yo [x] us):∃ u,us=[u]/\jI x u:=by
  cases r with
  | cons r1 r2=>cases r2;exact ⟨_,rfl,r1⟩
theorem qgM {x y:V}{us:List Value}(r:yo [x,y] us):∃ u w',us=[u,w']/\jI x u/\jI y w':=by
  cases r with
  | cons r1 r2 =>
    cases r2 with
    | cons r3 r4=>cases r4;exact ⟨_,_,rfl,r1,r3⟩
theorem qfp:yu X (.builtin "abs") (fun xs H Q=>∃ i,xs=[.int i]/\Q (.int (if i<0 then -i else i)) H):=by
  intro pins s σ H xs us Q I r h
  obtain ⟨i,rfl,q⟩:=h
  obtain ⟨u,rfl,t,rfl⟩:=JI r
  exact call_abs_int fun u tk=>⟨.int (if i<0 then -i else i),H,I.tok _,⟨_,rfl⟩,q⟩
theorem qd2 (hc:X.calm=true):yu X (.builtin "max") (fun xs H Q=>∃ i j,xs=[.int i,.int j]/\Q (.int (if j > i then j else i)) H):=by
  intro pins s σ H xs us Q I r h
  obtain ⟨i,j,rfl,q⟩:=h
  obtain ⟨u,w',rfl,⟨t,rfl⟩,⟨t',rfl⟩⟩:=qgM r
  refine max_two_ints (I.ok.hd hc) fun h' tk k=>⟨_,H,I.kept k,?_,q⟩
  by_cases hj:j > i
  · rw [if_pos hj,if_pos hj];exact ⟨_,rfl⟩
  · rw [if_neg hj,if_neg hj];exact ⟨_,rfl⟩
theorem qd0 (hc:X.calm=true):yu X (.builtin "min") (fun xs H Q=>∃ i j,xs=[.int i,.int j]/\Q (.int (if j<i then j else i)) H):=by
  intro pins s σ H xs us Q I r h
  obtain ⟨i,j,rfl,q⟩:=h
  obtain ⟨u,w',rfl,⟨t,rfl⟩,⟨t',rfl⟩⟩:=qgM r
  refine min_two_ints (I.ok.hd hc) fun h' tk k=>⟨_,H,I.kept k,?_,q⟩
  by_cases hj:j<i
  · rw [if_pos hj,if_pos hj];exact ⟨_,rfl⟩
  · rw [if_neg hj,if_neg hj];exact ⟨_,rfl⟩
theorem qd3:yu X (.type "int") (fun xs H Q=>(∃ i,xs=[.int i]/\Q (.int i) H)\/∃ k,xs=[.bl k]/\Q (.int (if k then 1 else 0)) H):=by
  intro pins s σ H xs us Q I r h
  rcases h with ⟨i,rfl,q⟩ | ⟨k,rfl,q⟩
  · obtain ⟨u,rfl,t,rfl⟩:=JI r
    exact call_int_int ⟨.int i,H,I,⟨_,rfl⟩,q⟩
  · obtain ⟨u,rfl,r1⟩:=JI r
    cases r1
    exact call_int_bool ⟨.int (if k then 1 else 0),H,I.tok _,⟨_,rfl⟩,q⟩
end
structure ObjM (h:Heap) (x dx C:Addr) (mA:Str->Option Value):Prop where
  obj:h.get? x=some (W.instObj C dx)
  ns:h.Ns1 dx mA
  ne:dx≠x
theorem qc9 {h:Heap}{dx:Addr}{mA:Str->Option Value}(n:h.Ns1 dx mA):∃ od,h.get? dx=some od/\∀ name,W.lookIn name od=some (mA name):=by
  obtain ⟨o,es,ep,ho,hd,hk,_,hm⟩:=n
  refine ⟨o,ho,fun name=>?_⟩
  have e:=hm name
  unfold nsFind findBy at e
  rw [<- Array.find?_toList] at e
  unfold W.lookIn
  rw [hd]
  dsimp only
  split
  · rename_i y q
    rw [q] at e
    exact congrArg some e
  · rename_i q
    rw [q] at e
    have a:es.toList.any (·.refKey)=false:=by
      rw [List.any_eq_false]
      intro y hy
      obtain ⟨z,t,hkey⟩:=hk y (Array.mem_toList_iff.mp hy)
      simp [DictEntry.refKey,hkey]
    have a':¬ es.toList.any (·.refKey)=true:=by rw [a];exact Bool.false_ne_true
    rw [if_neg a']
    exact congrArg some e
theorem ObjM.look {h:Heap}{x dx C:Addr}{mA:Str->Option Value}(I:ObjM h x dx C mA):∃ od,W.InstAt h x (W.instObj C dx) C (some od)/\∀ name,W.lookIn name od=some (mA name) :=
  let ⟨od,ho,hl⟩:=qc9 I.ns
  ⟨od,⟨I.obj,rfl,rfl,ho⟩,hl⟩
section
variable {prog:Program}{w:World}{A:Around}{E:Value->Shared->Prop}{s:Shared}{K:W.Frag}{x dx C f:Addr}{mA:Str->Option Value}{name:Str}{v:Value}
end
section
variable {P:Program}{w:World}{H H':Hp}{h h':Heap}{a C dx:Addr}{fs fs':List (Str×V)}
end
structure Cls (K:W.Frag) (C:Addr):Prop where
  pg:W.plainGet K C Str.empty=true
  hd:W.hasDictIn K C=true
  po:W.plainOver K C=true
  sa:W.findIn K (.ref C) "__setattr__" = some (some (.builtin "object.__setattr__"))
theorem Cls.get {K:W.Frag}{C:Addr}(c:Cls K C) (f:Str):W.plainGet K C f=true:=c.pg
structure Con (K:W.Frag) (C:Addr) (f:Str) (v:V) (u:Value):Prop where
  at_:W.findIn K (.ref C) f=some (some u)
  rel:jI v u
  get:W.specialIn K u "__get__" = some none
  cp:W.copiedNames.contains f=false
structure Meth (K:W.Frag) (C:Addr) (m:Str) (f:Addr):Prop where
  at_:W.findIn K (.ref C) m=some (some (.ref f))
  fn:W.isFn K (.ref f)=true
  kp:W.keepIn K (.ref f)=true
section
variable {X:Cx}{pins:List (Addr×Obj)}{σ:St}{H:Hp}{s:Shared}{a C dx:Addr}{fs:List (Str×V)}{f:Str}{v:V}{A:Around}{E:Value->Shared->Prop}
theorem Inv.made (I:Inv X pins σ H s):Inv X pins σ (upd (upd H s.heap.objs.size (.own (s.heap.objs.size+1))) (s.heap.objs.size+1) (.ins C s.heap.objs.size []))
    { s with heap:=(s.heap.push W.emptyDict).push (W.instObj C s.heap.objs.size) }:=by
  have e1:(s.heap.push W.emptyDict).get? s.heap.objs.size=some W.emptyDict:=qz s.heap rfl
  have e2:((s.heap.push W.emptyDict).push (W.instObj C s.heap.objs.size)).get? (s.heap.objs.size+1)=some (W.instObj C s.heap.objs.size):=by
    have:=qz (s.heap.push W.emptyDict) (o:=W.instObj C s.heap.objs.size) rfl
    rwa [Heap.size_push] at this
  have e3:(s.heap.push W.emptyDict).Ns s.heap.objs.size (fun _=>none):=⟨W.emptyDict,#[],_,e1,rfl,(fun e he=>absurd he (by simp)),fun _=>rfl⟩
  have I1:=I.laid (a:=s.heap.objs.size) (o:=.own (s.heap.objs.size+1)) (h':=s.heap.push W.emptyDict) (t':=s.toks) (fun b u q=>qc _ q) (qi _) ⟨_,e1⟩
  refine I1.laid (a:=s.heap.objs.size+1) (o:=.ins C s.heap.objs.size []) (t':=s.toks) (fun b u q=>qc _ q) (Nat.le_of_eq (Heap.size_push _ _)) ?_
  have ne:s.heap.objs.size≠s.heap.objs.size+1:=qx (Nat.lt_succ_self _)
  refine ⟨by rw [yb ne,yd],ya _,ne,e2,fun _=>none,(Heap.Ns1.of_empty e3).at fun o q=>qc _ q,fun _=>True.intro,fun y hy=>absurd rfl hy⟩
end
section
variable {X:Cx}{o e value:Expr}{f:Str}{pos pos' tpos:Pos}{ta tv:TE}
end
section
variable {X:Cx}{pins:List (Addr×Obj)}{σ:St}{H:Hp}{s:Shared}{A:Around}{E:Value->Shared->Prop}{Q:Value->Shared->Prop}{c:Value}{b:Bool}
inductive TyOf (K:W.Frag) (H:Hp):V->Value->Prop where
  | non:TyOf K H .non (.type "NoneType")
  | bl (x:Bool):TyOf K H (.bl x) (.type "bool")
  | int (i:Int):TyOf K H (.int i) (.type "int")
  | str (x:Str):TyOf K H (.str x) (.type "str")
  | flt (x:UInt64):TyOf K H (.flt x) (.type "float")
  | lst {a:Addr}{xs:List V}(e:H a=some (.lst xs)):TyOf K H (.ref a) (.type "list")
  | frz {a:Addr}{o:Obj}{xs:List V}(e:H a=some (.frz o (.lst xs))):TyOf K H (.ref a) (.type "list")
  | tup {a:Addr}{xs:List V}(e:H a=some (.tup xs)):TyOf K H (.ref a) (.type "tuple")
  | dK {a:Addr}{kvs:List (Key×V)}(e:H a=some (.dK kvs)):TyOf K H (.ref a) (.type "dict")
  | dT {a:Addr}{kvs:List (List Key×V)}(e:H a=some (.dT kvs)):TyOf K H (.ref a) (.type "dict")
  | ins {a C dx:Addr}{fs:List (Str×V)}(e:H a=some (.ins C dx fs)) (cl:Cls K C) (ha:W.findIn K (.ref C) "__class__" = some (some (.builtin "object.__class__")))
      (hn:W.specialIn K (.builtin "object.__class__") "__get__" = some (some (.builtin "getset_descriptor.__get__"))) (htk:W.takesIn K (.builtin "object.__class__")=some true)
      (hm:W.mroIn K C (.type "object")=some true):TyOf K H (.ref a) (.ref C)
end
structure Room (k:Nat) (A:Around):Prop where
  hd:A.handled=none
  dp:A.depth+3 * k+5<recursionLimit
  un:A.units+16 * k+200<cLine
theorem Room.mono {j k:Nat}{A:Around}(r:Room k A) (h:j<=k):Room j A:=⟨r.hd,by have:=r.dp;omega,by have:=r.un;omega⟩
theorem Room.deeper {k:Nat}{A:Around}(r:Room (k+1) A) (env:Env):Room k (A.deeper env) :=
  ⟨r.hd,by have:=r.dp;show A.depth+1+3 * k+5<_;omega,by have:=r.un;show A.units+3+16 * k+200<_;omega⟩
theorem Room.in1 {k:Nat}{A:Around}(r:Room (k+1) A):Room k A.in1 :=
  ⟨r.hd,by have:=r.dp;show A.depth+3 * k+5<_;omega,by have:=r.un;show A.units+1+16 * k+200<_;omega⟩
theorem Room.depth {k:Nat}{A:Around}(r:Room k A):A.depth<recursionLimit:=by have:=r.dp;omega
theorem Room.units {k:Nat}{A:Around}(r:Room k A):A.units+64<cLine:=by have:=r.un;omega
def tNil:TA:=fun _ H Q=>Q [] H
def tCons (ta:TE) (tr:TA):TA:=fun σ H Q=>ta σ H fun x H1=>tr σ H1 fun xs H2=>Q (x::xs) H2
section
variable {X:Cx}{e:Expr}{es:List Expr}{te:TE}{t:TA}{pos:Pos}
theorem qjr:PA X [] tNil:=fun _ _ _ _ H Q I h=>Calls.spliced_nil ⟨[],H,I,.nil,h⟩
theorem qhp (ha:PE X e te) (hr:PA X es t) (hs:starEach (e::es) X.env=(false,eval e X.env)::starEach es X.env:=by rfl):PA X (e::es) (tCons te t):=by
  intro pos pins s σ H Q I h
  rw [hs]
  show wpAny _ _ (spliced ((false,eval e X.env)::backTo pos (starEach es X.env))) _ _ s
  refine Calls.spliced_cons (thn (ha pins s σ H _ I h) fun u s1 ⟨x,H1,I1,r1,q1⟩=>?_)
  exact thn (hr pos pins s1 σ H1 _ I1 q1) fun us s2 ⟨xs,H2,I2,r2,q2⟩=>⟨x::xs,H2,I2,.cons r1 r2,q2⟩
def tTup (t:TA):TE:=fun σ H Q=>t σ H fun xs H1=>xs.length<=sizeLine/\∀ p,H1 p=none->Q (.ref p) (upd H1 p (.tup xs))
def tLst (t:TA):TE:=fun σ H Q=>t σ H fun xs H1=>xs.length<=sizeLine/\∀ p,H1 p=none->Q (.ref p) (upd H1 p (.lst xs))
theorem qjk {x1} (h:PA X es t):PE X (.Tuple es x1 pos) (tTup t):=by
  intro pins s σ H Q I hq
  refine wpAny_Tuple_spliced (thn (h pos pins s σ H _ I hq) fun us s1 ⟨xs,H1,I1,r,z,q⟩=>⟨by rw [<- r.length];exact z,?_⟩)
  have hf:H1 s1.heap.objs.size=none:=I1.hok.fresh (qi _)
  refine ⟨.ref s1.heap.objs.size,upd H1 s1.heap.objs.size (.tup xs),I1.laid (t':=s1.toks) (fun b u e=>qc _ e) (qi _) ?_,rfl,q _ hf⟩
  exact ⟨z,us,r,⟨_,qz _ rfl,rfl,_,rfl⟩⟩
theorem qgf (h:PA X es t):PE X (.List es pos) (tLst t):=by
  intro pins s σ H Q I hq
  refine wpAny_List_spliced (thn (h pos pins s σ H _ I hq) fun us s1 ⟨xs,H1,I1,r,z,q⟩=>⟨by rw [<- r.length];exact z,?_⟩)
  have hf:H1 s1.heap.objs.size=none:=I1.hok.fresh (qi _)
  refine ⟨.ref s1.heap.objs.size,upd H1 s1.heap.objs.size (.lst xs),I1.laid (t':=s1.toks) (fun b u e=>qc _ e) (qi _) ?_,rfl,q _ hf⟩
  exact ⟨z,us,0,r,qz _ rfl⟩
end
abbrev Sp:=List V->Hp->VK->XK->Prop
abbrev CXT:=List Env->Hp->Shared->XK->Value->Shared->Prop
structure Env0 (P:Program) (w:World) (K:W.Frag) (mg:Str->Option Value) (base:Heap) (A:Around) (outer:List Env) (s:Shared) (H:Hp):Prop where
  frames:A.frames=some outer
  mod:Mod K mg base
  bs:∀ b o,base.get? b=some o->s.heap.get? b=some o/\H b=none
  bsz:base.objs.size<=s.heap.objs.size
  funs:s.heap.FunFrames base outer
  frf:∀ b∈frs outer,H b=none
  hok:HOk P w H s.heap
  bare:AllBare s.gens
def CE (outer:List Env) (P:Program) (w:World) (H:Hp) (s:Shared) (Q:VK) (u:Value) (s':Shared):Prop :=
  ∃ v H',s'.os=s.os/\AllBare s'.gens/\Un (frs outer) [] H H' s.heap s'.heap/\HOk P w H' s'.heap/\jI v u/\Q v H'
def CR (CX:CXT) (outer:List Env) (P:Program) (w:World) (H:Hp) (s:Shared) (Q:VK) (E:XK) (r:Result) (s':Shared):Prop :=
  match r with
  | .ok (.ret u)=>CE outer P w H s Q u s'
  | .ok _=>False
  | .error e=>CX outer H s E e s'
structure FnOk (P:Program) (w:World) (K:W.Frag) (mg:Str->Option Value) (base:Heap) (CX:CXT) (k:Nat) (f:Addr) (fd:FuncData) (ps:List Str) (sp:Sp):Prop where
  len:∀ vs H Q E,sp vs H Q E->vs.length=ps.length
  run:∀ (A:Around) (outer:List Env) (s:Shared) (H:Hp) (args:Args) (us:List Value) (vs:List V) (Q:VK) (E:XK),Room k A->Env0 P w K mg base A outer s H->BindsTo s fd args (ps.zip us)->yo vs us->sp vs H Q E →
    codeAny (model P w) A (.call (.ref f) args) (CR CX outer P w H s Q E) s
theorem FnOk.mono {P:Program}{w:World}{K:W.Frag}{mg:Str->Option Value}{base:Heap}{CX:CXT}{j k:Nat}{f:Addr}{fd:FuncData}{ps:List Str}{sp:Sp}(F:FnOk P w K mg base CX j f fd ps sp) (h:j<=k) :
    FnOk P w K mg base CX k f fd ps sp:=⟨F.len,fun A outer s H args us vs Q E hr=>F.run A outer s H args us vs Q E (hr.mono h)⟩
theorem FnOk.imp {P:Program}{w:World}{K:W.Frag}{mg:Str->Option Value}{base:Heap}{CX:CXT}{k:Nat}{f:Addr}{fd:FuncData}{ps:List Str}{sp sp':Sp}(F:FnOk P w K mg base CX k f fd ps sp)
    (h:∀ vs H Q E,sp' vs H Q E->sp vs H Q E):FnOk P w K mg base CX k f fd ps sp' :=
  ⟨fun vs H Q E q=>F.len vs H Q E (h _ _ _ _ q),fun A outer s H args us vs Q E hr he hb hv hs=>F.run A outer s H args us vs Q E hr he hb hv (h _ _ _ _ hs)⟩
theorem Env0.in1 {P:Program}{w:World}{K:W.Frag}{mg:Str->Option Value}{base:Heap}{A:Around}{outer:List Env}{s:Shared}{H:Hp}(e:Env0 P w K mg base A outer s H) :
    Env0 P w K mg base A.in1 outer s H:=⟨e.frames,e.mod,e.bs,e.bsz,e.funs,e.frf,e.hok,e.bare⟩
section
variable {X:Cx}{pins:List (Addr×Obj)}{σ:St}{H:Hp}{s s':Shared}
theorem Inv.env0 (I:Inv X pins σ H s):Env0 X.prog X.w X.K X.mg X.base X.A X.stack s H :=
  ⟨I.ok.frames,I.ok.mod,I.bs,qR I.ok.bsz I.sz,I.stack,I.stkFree,I.hok,I.bare⟩
theorem Inv.after {Q:VK}{u:Value}(I:Inv X pins σ H s) (h:CE X.stack X.prog X.w H s Q u s'):EP X pins σ Q u s':=by
  obtain ⟨v,H',os,bare,un,hok,r,q⟩:=h
  obtain ⟨hh,g,d,t,os'⟩:=s'
  obtain rfl:os'=s.os:=os
  exact ⟨v,H',I.call (h':=hh) (g':=g) (d':=d) (t':=t) (ch:=[]) un hok bare (fun b z=>absurd z (by simp)),r,q⟩
end
def qiH (sp:Sp) (dvs:List V) (E:XK) (t:TA):TE:=fun σ H Q=>t σ H fun vs H1=>sp (vs++dvs) H1 Q E
def qaJ (K:W.Frag) (fd:FuncData) (ps:List Str) (ds:List Value):Prop :=
  ∀ (s:Shared) (us:List Value),K.In s.heap->(us++ds).length=ps.length->BindsTo s fd ⟨us,[]⟩ (ps.zip (us++ds))
theorem qaJ.all {K:W.Frag}{fd:FuncData}{ps:List Str}(h:∀ us:List Value,us.length=ps.length->bindArgs fd ⟨us,[]⟩=pure (ps.zip us)):qaJ K fd ps []:=fun s us _ hl=>by
  rw [List.append_nil] at hl ⊢
  exact .of_eq (h us hl)
def qee (CX:CXT) (X:Cx) (E:XK):Prop:=∀ (pins:List (Addr×Obj)) (σ:St) (H:Hp) (s:Shared) (e:Value) (s':Shared),Inv X pins σ H s->CX X.stack H s E e s'->X.xe e s'
section
variable {X:Cx}{CX:CXT}{k:Nat}{f C:Addr}{fd:FuncData}{ps:List Str}{sp:Sp}{dvs:List V}{ds:List Value}{E:XK}{x m:Str}{p pos apos:Pos}{e o:Expr}{es:List Expr}{ta:TE}{t:TA}
theorem qiS {pins:List (Addr×Obj)}{σ:St}{H:Hp}{s:Shared}{Q:VK}{us:List Value}{vs:List V}(F:FnOk X.prog X.w X.K X.mg X.base CX k f fd ps sp) (hr:Room k X.A) (hb:qaJ X.K fd ps ds) (hd:yo dvs ds) (hx:qee CX X E)
    (I:Inv X pins σ H s) (r:yo vs us) (h:sp (vs++dvs) H Q E):wpAny (model X.prog X.w) X.A (call (.ref f) us) (EP X pins σ Q) X.xe s:=by
  have r2:yo (vs++dvs) (us++ds):=r.append hd
  have hl:(us++ds).length=ps.length:=by rw [<- r2.length];exact F.len _ _ _ _ h
  refine wpAny_call (codeAny_mono (F.run X.A X.stack s H ⟨us,[]⟩ (us++ds) (vs++dvs) Q E hr I.env0 (hb s us I.kIn hl) r2 h) fun r s' hq=>?_)
  cases r with
  | error e=>exact hx pins σ H s e s' I hq
  | ok fl =>
    cases fl with
    | ret u=>exact I.after hq
    | next=>exact False.elim hq
    | brk=>exact False.elim hq
    | cont=>exact False.elim hq
theorem qhn (F:FnOk X.prog X.w X.K X.mg X.base CX k f fd ps sp) (hr:Room k X.A) (hg:Gl X x) (hm:X.mg x=some (.ref f)) (hk:W.keepIn X.K (.ref f)=true) (hb:qaJ X.K fd ps ds) (hd:yo dvs ds) (hx:qee CX X E)
    (ha:PA X (e::es) t) (hdb:(x == ("__debug__" : Str))=false:=by decide) (he:starEach (e::es) X.env=(false,eval e X.env)::starEach es X.env:=by rfl) (hpl:(backTo pos (starEach es X.env)).any (·.1)=false:=by rfl) :
    PE X (.Call (.Name x p) (e::es) [] pos) (qiH sp dvs E t):=by
  intro pins s σ H Q I h
  refine wpAny_Call_Name_kw (qhH I hg hm ?_ hdb)
  refine W.callWith_K (h₀:=X.base) I.ok.mod.kin hk (thn (ha pos pins s σ H _ I h) fun us s1 ⟨vs,H1,I1,r,q⟩=>⟨I1.kIn,?_⟩) he hpl
  exact qiS F hr hb hd hx I1 r q
structure Mk (K:W.Frag) (C f:Addr):Prop where
  makes:W.makesIn K C=true
  init:W.findIn K (.ref C) "__init__" = some (some (.ref f))
  fn:W.isFn K (.ref f)=true
  kp:W.keepIn K (.ref C)=true
end
section
variable {X:Cx}{CX:CXT}{k:Nat}{f C:Addr}{fd:FuncData}{ps ks:List Str}{sp:Sp}{E:XK}{x m:Str}{p pos apos kpos:Pos}{e o:Expr}{es:List Expr}{kws:List Keyword}{te ta:TE}{t tk:TA}{nm:Option Str}
structure KBinds (K:W.Frag) (fd:FuncData) (ps ks:List Str) (g:List Value->List Value->List Value) (gV:List V->List V->List V):Prop where
  to:∀ (s:Shared) (us ws:List Value),K.In s.heap->(g us ws).length=ps.length->BindsTo s fd ⟨us,ks.zip ws⟩ (ps.zip (g us ws))
  rel:∀ {vs:List V}{us:List Value}{zs:List V}{ws:List Value},yo vs us->yo zs ws->yo (gV vs zs) (g us ws)
variable {g:List Value->List Value->List Value}{gV:List V->List V->List V}
end
structure FnScope (N P:List Str) (sc:Scope):Prop where
  kind:sc.kind = .function
  co:sc.isCoroutine=false
  gen:sc.isGenerator=false
  nd:N.Nodup
  pre:N.take P.length=P
  par:∀ x∈P,sc.names.lookup x=some .local\/sc.names.lookup x=some .cell
  nofree:∀ y∈sc.names,y.2≠.free
theorem qaa {kindOf:Str->Option NameKind}{x:Str}:∀ {binds:List (Str×Value)}{m:Str->Option Value},(∀ v,(x,v)∉binds)->bindL kindOf binds m x=m x
  | [],_,_=>rfl
  | (n,v)::r,m,h=>by
    unfold bindL
    rw [qaa fun w hw=>h w (qk _ hw)]
    split
    · have:x≠n:=by rintro rfl;exact h v qv
      simp [this]
    · rfl
theorem qac {kindOf:Str->Option NameKind}{x:Str}:∀ {binds:List (Str×Value)}{m:Str->Option Value},(∀ v,(x,v)∉binds)->bindC kindOf binds m x=m x
  | [],_,_=>rfl
  | (n,v)::r,m,h=>by
    unfold bindC
    rw [qac fun w hw=>h w (qk _ hw)]
    split
    · rfl
    · have:x≠n:=by rintro rfl;exact h v qv
      simp [this]
theorem qab {kindOf:Str->Option NameKind}{x:Str}{v:Value}:∀ {P:List Str}{vs:List Value}{i:Nat}{m:Str->Option Value},P.Nodup->P[i]?=some x->vs[i]?=some v->kindOf x=some .local →
    bindL kindOf (P.zip vs) m x=some v
  | [],_,_,_,_,h,_,_=>by simp at h
  | _::_,[],_,_,_,_,h,_=>by simp at h
  | p::P,w::vs,0,m,nd,h1,h2,hk=>by
    simp at h1 h2;subst h1;subst h2
    show bindL kindOf ((p,w)::P.zip vs) m p=_
    unfold bindL
    rw [qaa fun v hv=>(List.nodup_cons.mp nd).1 (List.of_mem_zip hv).1,if_pos hk]
    simp
  | p::P,w::vs,i+1,m,nd,h1,h2,hk=>by
    show bindL kindOf ((p,w)::P.zip vs) m x=_
    unfold bindL
    exact qab (i:=i) (List.nodup_cons.mp nd).2 (by simpa using h1) (by simpa using h2) hk
theorem qad {kindOf:Str->Option NameKind}{x:Str}{v:Value}:∀ {P:List Str}{vs:List Value}{i:Nat}{m:Str->Option Value},P.Nodup->P[i]?=some x->vs[i]?=some v->kindOf x≠some .local →
    bindC kindOf (P.zip vs) m x=some v
  | [],_,_,_,_,h,_,_=>by simp at h
  | _::_,[],_,_,_,_,h,_=>by simp at h
  | p::P,w::vs,0,m,nd,h1,h2,hk=>by
    simp at h1 h2;subst h1;subst h2
    show bindC kindOf ((p,w)::P.zip vs) m p=_
    unfold bindC
    rw [qac fun v hv=>(List.nodup_cons.mp nd).1 (List.of_mem_zip hv).1,if_neg hk]
    simp
  | p::P,w::vs,i+1,m,nd,h1,h2,hk=>by
    show bindC kindOf ((p,w)::P.zip vs) m x=_
    unfold bindC
    exact qad (i:=i) (List.nodup_cons.mp nd).2 (by simpa using h1) (by simpa using h2) hk
def YY (N:List Str) (vs:List V):St:=vs.map some++List.replicate (N.length - vs.length) none
def qbS (CX:CXT) (P:Program) (w:World) (K:W.Frag) (mg:Str->Option Value) (base:Heap) (N:List Str) (qual:Str) (scope:Scope) (f:Addr) (cd:Value) (A:Around) (outer:List Env) (s:Shared) (H:Hp) (E:XK):Cx where
  prog:=P
  w:=w
  K:=K
  mg:=mg
  base:=base
  A:=A.deeper (envOfC qual scope s.heap.objs.size f cd)
  N:=N
  s₀:=s
  H₀:=H
  env:=envOfC qual scope s.heap.objs.size f cd
  outer:=outer
  stack:=envOfC qual scope s.heap.objs.size f cd::outer
  ex:=[]
  calm:=true
  fn:=fun _=>true
  pn:=[]
  xe:=fun e s'=>wpAny (model P w) (A.deeper (envOfC qual scope s.heap.objs.size f cd)) (leaving (envOfC qual scope s.heap.objs.size f cd) e) (fun _ s''=>CX outer H s E e s'') (fun e' s''=>CX outer H s E e' s'') s'
theorem qbn {sc:Scope}{n:Nat}{x:Str}(h:sc.names.lookup x=some .cell):∃ c,(cellsFrom n sc.names []).lookup x=some c:=by
  have q:=W.cellsFrom_some sc.names n [] (.inl h)
  exact Option.isSome_iff_exists.mp q
theorem qdi {CX:CXT}{P:Program}{w:World}{K:W.Frag}{mg:Str->Option Value}{base:Heap}{N ps:List Str}{qual:Str}{scope:Scope}{f:Addr}{cd:Value}{A:Around}{outer:List Env}{s s1:Shared}{H:Hp}{E:XK}{us:List Value}{vs:List V}
    (S:FnScope N ps scope) (hd:A.handled=none) (e0:Env0 P w K mg base A outer s H) (hl:vs.length=ps.length) (r:yo vs us)
    (x:InCallC s s.heap.objs.size (bindL (envOfC qual scope s.heap.objs.size f cd).kindOf (ps.zip us) fun _=>none) (cellsFrom (s.heap.objs.size+1) scope.names []) (bindC (envOfC qual scope s.heap.objs.size f cd).kindOf (ps.zip us) fun _=>none) s1) :
    Inv (qbS CX P w K mg base N qual scope f cd A outer s H E) [] (YY N vs) H s1:=by
  have hpl:ps.length<=N.length:=by have:=congrArg List.length S.pre;rw [yg] at this;omega
  obtain ⟨h1,tk,rfl,hk⟩:=x.done
  have noA:∀ b:Addr,b∉(qbS CX P w K mg base N qual scope f cd A outer s H E).ex:=fun b z=>absurd (show b∈([]:List Addr) from z) (by simp)
  refine ⟨⟨e0.mod,S.kind,rfl,rfl,qi _,fun y z c h1 h2=>?_,fun y hy=>?_,fun y c _ h=>?_,fun _=>hd,Around.frames_deeper e0.frames,.inr ⟨rfl,rfl⟩,fun b z=>absurd z (noA b),e0.bs,e0.bsz,fun b _ _=>noA b,fun b z=>absurd z (noA b),e0.funs,e0.frf⟩,
    rfl,e0.bare,Un.kept hk,⟨_,x.toInCall.ns,fun i y v h1 h2 h3=>?_⟩,fun y c h=>⟨_,x.cell y c h⟩,e0.hok.fresh (qi _),fun y c h=>?_,fun p hp=>absurd (show p∈([]:List (Addr×Obj)) from hp) (by simp),e0.hok.kept hk,?_⟩
  · exact name_of_addr x.apart (PySem.mem_of_lookup h1) (PySem.mem_of_lookup h2)
  · have hy:scope.names.lookup y=some .cell\/scope.names.lookup y=some .free:=hy
    rcases hy with hy | hy
    · exact qbn hy
    · exact absurd rfl (S.nofree _ (PySem.mem_of_lookup hy))
  · exact yx (x.above y c (PySem.mem_of_lookup h))
  · have hi:i<vs.length:=by
      unfold YY at h2
      by_cases hi:i<vs.length
      · exact hi
      · rw [qS (by simpa using hi)] at h2
        rw [List.getElem?_replicate] at h2
        split at h2 <;> cases h2
    have ha:vs[i]?=some v:=by
      unfold YY at h2
      rw [qT (by simpa using hi),List.getElem?_map] at h2
      cases e:vs[i]? with
      | none=>rw [e] at h2;cases h2
      | some a=>rw [e] at h2;cases h2;rfl
    obtain ⟨u,hu,rv⟩:=r.get ha
    have hp:ps[i]?=some y:=by
      rw [<- S.pre,List.getElem?_take_of_lt (by omega)];exact h1
    have ndP:ps.Nodup:=by rw [<- S.pre];exact S.nd.sublist (List.take_sublist _ _)
    refine ⟨u,rv,?_⟩
    rcases S.par y (List.mem_of_getElem? hp) with k | k
    · exact .inl ⟨k,qab ndP hp hu k⟩
    · obtain ⟨c,e⟩:=qbn (n:=s.heap.objs.size+1) k
      refine .inr ⟨.inl k,c,e,?_⟩
      have q:=x.cell y c e
      rw [qad ndP hp hu (by show scope.names.lookup y≠_;rw [k];decide)] at q
      exact q
  · exact e0.hok.fresh (yx (x.above y c (PySem.mem_of_lookup h)))
  · unfold YY
    show _=N.length
    rw [List.length_append,List.length_map,List.length_replicate]
    omega
theorem qkb {CX:CXT}{P:Program}{w:World}{K:W.Frag}{mg:Str->Option Value}{base:Heap}{k:Nat}{f:Addr}{name qual:Str}{params:Arguments}{body:List Stmt}{scope:Scope}{dV kV doc pm cdv ct oc:Value}{an od:Option Addr}
    {osl:Array (Option Value)}{N ps:List Str}{sp:Sp}(lk:K.lookup f=some ⟨oc,od,.func (W.fnOf name qual params body scope dV kV doc pm an cdv ct),osl⟩) (hcd:W.codeIn K cdv qual=true) (S:FnScope N ps scope)
    (len:∀ vs H Q E,sp vs H Q E->vs.length=ps.length)
    (hbody:∀ (A:Around) (outer:List Env) (s:Shared) (H:Hp) (vs:List V) (Q:VK) (E:XK),Room k (A.deeper (envOfC qual scope s.heap.objs.size f cdv))->sp vs H Q E →
      ∃ t,PSs (qbS CX P w K mg base N qual scope f cdv A outer s H E) body t/\t { nx:=fun _ H'=>Q .non H',rt:=Q } (YY N vs) H) :
    FnOk P w K mg base CX (k+1) f (W.fnOf name qual params body scope dV kV doc pm an cdv ct) ps sp:=by
  refine ⟨len,fun A outer s H args us vs Q E hr e0 hb r hsp=>?_⟩
  have hl:=len _ _ _ _ hsp
  have KX:K.In s.heap:=e0.mod.kin.keeps fun b o e=>(e0.bs b o e).1
  have lim:s.heap.NoLimit:=e0.mod.nolimit.keeps fun b o e=>(e0.bs b o e).1
  have hkind:∀ y∈ps.zip us,scope.names.lookup y.1=some .local\/(scope.names.lookup y.1=some .cell/\((cellsFrom (s.heap.objs.size+1) scope.names []).lookup y.1).isSome=true):=fun ⟨n,v⟩ hy=>by
    rcases S.par n (List.of_mem_zip hy).1 with q | q
    · exact .inl q
    · exact .inr ⟨q,W.cellsFrom_some _ _ _ (.inl q)⟩
  refine codeAny_call_function hr.depth (KX _ _ lk) rfl S.co S.gen rfl (W.codeRec_of KX hcd) (hb _ _ _ _ ?_)
  refine wpAny_newFunctionEnv_cells S.kind hkind fun env he s1 x=>?_
  subst he
  refine ⟨lim.keeps x.toInCall.keep,codeAny_func ?_⟩
  obtain ⟨t,ht,hq⟩:=hbody A outer s H vs Q E (hr.deeper _) hsp
  have I:Inv (qbS CX P w K mg base N qual scope f cdv A outer s H E) [] (YY N vs) H s1:=qdi S hr.hd e0 hl r x
  refine yJ (ht [] s1 (YY N vs) H _ I hq) (fun fl s' hs=>?_) fun e s' hs=>hs
  have fin:∀ {σ':St}{H':Hp}{v:V}{u:Value},Inv (qbS CX P w K mg base N qual scope f cdv A outer s H E) [] σ' H' s'->jI v u->Q v H'->CE outer P w H s Q u s' :=
    fun {σ' H' v u} J rv q=>⟨v,H',J.os,J.bare,J.base,J.hok,rv,q⟩
  cases fl with
  | ret u =>
    obtain ⟨v,σ',H',J,rv,q⟩:=hs
    exact fin J rv q
  | next =>
    obtain ⟨σ',H',J,q⟩:=hs
    exact fin (v:=V.non) (u:=Value.none) J rfl q
  | brk =>
    obtain ⟨_,_,_,q⟩:=hs
    exact False.elim q
  | cont =>
    obtain ⟨_,_,_,q⟩:=hs
    exact False.elim q
section
variable {X:Cx}{x:Str}{p pos:Pos}{e:Expr}{es:List Expr}{t:TA}{id T:String}{r:List V->Hp->VK->Prop}
def tCB (r:List V->Hp->VK->Prop) (t:TA):TE:=fun σ H Q=>t σ H fun vs H1=>r vs H1 Q
theorem qeO (hc:yu X (.builtin id) r) (hg:Gl X x) (hm:X.mg x=none) (hv:bootBuiltins x=some (.builtin id)) (ha:PA X (e::es) t) (hn:x ≠ "__name__" := by decide) (hdb:(x == ("__debug__" : Str))=false:=by decide)
    (he:starEach (e::es) X.env=(false,eval e X.env)::starEach es X.env:=by rfl) (hpl:(backTo pos (starEach es X.env)).any (·.1)=false:=by rfl):PE X (.Call (.Name x p) (e::es) [] pos) (tCB r t):=by
  intro pins s σ H Q I h
  refine wpAny_Call_Name_kw (YM I hg hm hv ?_ hn hdb)
  exact PyProof.Rows.callWith_builtin1 (thn (ha pos pins s σ H _ I h) fun us s1 ⟨vs,H1,I1,r1,q1⟩=>hc pins s1 σ H1 vs us Q I1 r1 q1) he hpl
theorem qcQ (hc:yu X (.type T) r) (hg:Gl X x) (hm:X.mg x=none) (hv:bootBuiltins x=some (.type T)) (ha:PA X (e::es) t) (hn:x ≠ "__name__" := by decide) (hdb:(x == ("__debug__" : Str))=false:=by decide)
    (he:starEach (e::es) X.env=(false,eval e X.env)::starEach es X.env:=by rfl) (hpl:(backTo pos (starEach es X.env)).any (·.1)=false:=by rfl):PE X (.Call (.Name x p) (e::es) [] pos) (tCB r t):=by
  intro pins s σ H Q I h
  refine wpAny_Call_Name_kw (YM I hg hm hv ?_ hn hdb)
  exact PyProof.Rows.callWith_type1 (thn (ha pos pins s σ H _ I h) fun us s1 ⟨vs,H1,I1,r1,q1⟩=>hc pins s1 σ H1 vs us Q I1 r1 q1) he hpl
end
end L2
namespace HT
open PySem PyProof.Rows
section
open PySem.SeqAt
open PySem.AutoSeq1 (wpAny_loadPart')
open PySem.MeetsSeq PySem.MeetsSeq2 PySem.MeetsSeq3
end
section
variable {prog:Program}{w:World}{A:Around}{E:Value->Shared->Prop}{s:Shared}
theorem cat_tup {t b:Addr}{vs ws:List Value}{Q:Value->Shared->Prop}(ht:IsTup s.heap t vs.toArray) (hb:IsTup s.heap b ws.toArray) (hv:vs≠[])
    (h1:ws=[]->Q (.ref t) s) (h2:ws≠[]->Q (.ref s.heap.objs.size) { s with heap:=s.heap.push { cls:=.type "tuple",data:=.seq (vs++ws).toArray } })
    (hsz:vs.length+ws.length<=sizeLine):wpAny (model prog w) A (binaryOp .Add (.ref t) (.ref b)) Q E s:=by
  obtain ⟨⟨cls,dd,data,sl⟩,ho,hc,n,hd⟩:=id ht
  obtain ⟨⟨cls2,dd2,data2,sl2⟩,ho2,hc2,n2,hd2⟩:=id hb
  simp only at hc hd hc2 hd2
  subst hc hd hc2 hd2
  have e:vs.toArray++ws.toArray=(vs++ws).toArray:=by simp
  by_cases hw:ws=[]
  · exact concat_meets ⟨_,ho,rfl⟩ ⟨_,ho2,rfl⟩ noFill_tuple_add seq_tuple_add PySem.F.slot_tuple_add PySem.F.entry_tuple_add (PySem.F.args_tuple_add_2 _ _)
      (tuple_addW1 t b vs.toArray ws.toArray n n2 dd dd2 sl sl2 (by simpa using hv) (by simp [hw])) ⟨ho,ho2,h1 hw⟩
  · refine concat_meets ⟨_,ho,rfl⟩ ⟨_,ho2,rfl⟩ noFill_tuple_add seq_tuple_add PySem.F.slot_tuple_add PySem.F.entry_tuple_add (PySem.F.args_tuple_add_2 _ _)
      (tuple_addW2 t b vs.toArray ws.toArray n n2 dd dd2 sl sl2 (by simpa using hv) (by simpa using hw) (by rw [List.size_toArray,List.size_toArray];exact hsz)) ⟨ho,ho2,?_⟩
    rw [e]
    exact h2 hw
def sIx (n d:Nat):Option Int->Nat
  | none=>d
  | some v=>if v<0 then (v+(n:Int)).toNat else min v.toNat n
theorem sIx_none (n d:Nat):sIx n d none=d:=rfl
theorem sIx_nat (n d k:Nat):sIx n d (some (k:Int))=min k n:=by
  show (if (k:Int)<0 then ((k:Int)+(n:Int)).toNat else min (k:Int).toNat n)=min k n
  rw [if_neg (by omega),Int.toNat_natCast]
end
end HT
namespace L2
open PySem PySem.Spec PyProof.Rows
abbrev TO:=St->Hp->(Option Int->Hp->Prop)->Prop
def PO (X:Cx) (e:Option Expr) (t:TO):Prop :=
  ∀ (pins:List (Addr×Obj)) (s:Shared) (σ:St) (H:Hp) (Q:Option Int->Hp->Prop),Inv X pins σ H s->t σ H Q →
    wpAny (model X.prog X.w) X.A (evalPart e X.env) (fun u s'=>∃ o H',Inv X pins σ H' s'/\IsPart u o/\Q o H') X.xe s
def qgQ:TO:=fun _ H Q=>Q none H
def tPart (t:TE):TO:=fun σ H Q=>t σ H fun x H1=>∃ i,x = .int i/\Q (some i) H1
section
variable {X:Cx}{e:Expr}{te:TE}{lo hi:Option Expr}{tl th:TO}{pos p2:Pos}
theorem qhe:PO X none qgQ:=by
  intro pins s σ H Q I h
  rw [evalPart_none]
  exact qe ⟨none,H,I,.none,h⟩
theorem qhd (h:PE X e te):PO X (some e) (tPart te):=by
  intro pins s σ H Q I hw
  rw [evalPart_some]
  refine thn (h pins s σ H _ I hw) fun u s1 hq9=>?_
  obtain ⟨x,H1,I1,r1,q1⟩:=hq9
  obtain ⟨i,rfl,q⟩:=q1
  obtain ⟨t,rfl⟩:=r1
  exact ⟨some i,H1,I1,.int i t,q⟩
def SlR (X:Cx) (r:V->Option Int->Option Int->Hp->VK->Prop):Prop :=
  ∀ (pins:List (Addr×Obj)) (s:Shared) (σ:St) (H:Hp) (x:V) (v vl vu:Value) (lo hi:Option Int) (sl:Addr) (Q:VK),Inv X pins σ H s->jI x v->s.heap.IsSliceOf sl vl vu .none->IsPart vl lo->IsPart vu hi->r x lo hi H Q →
    ∃ T id,typeLookup (.type T) "__getitem__" = pure (some (.builtin id))/\s.TypeIs v T/\wpAny (model X.prog X.w) X.A (getItem v (.ref sl)) (EP X pins σ Q) X.xe s
theorem SlR.or {r r':V->Option Int->Option Int->Hp->VK->Prop}(h:SlR X r) (h':SlR X r'):SlR X (fun x lo hi H Q=>r x lo hi H Q\/r' x lo hi H Q):=by
  intro pins s σ H x v vl vu lo hi sl Q I rx hs pl pu q
  rcases q with q | q
  · exact h pins s σ H x v vl vu lo hi sl Q I rx hs pl pu q
  · exact h' pins s σ H x v vl vu lo hi sl Q I rx hs pl pu q
def tSl (r:V->Option Int->Option Int->Hp->VK->Prop) (te:TE) (tl th:TO):TE:=fun σ H Q=>te σ H fun x H1=>tl σ H1 fun l H2=>th σ H2 fun u H3=>r x l u H3 Q
theorem qeM {r:V->Option Int->Option Int->Hp->VK->Prop}(hr:SlR X r) (he:PE X e te) (hl:PO X lo tl) (hu:PO X hi th):PE X (.Subscript e (.Slice lo hi none p2) pos) (tSl r te tl th):=by
  intro pins s σ H Q I h
  refine Subscript_ (thn (he pins s σ H _ I h) fun v s1 ⟨x,H1,I1,r1,q1⟩=>?_)
  refine wpAny_Slice (thn (hl pins s1 σ H1 _ I1 q1) fun vl s2 ⟨l,H2,I2,pl,q2⟩=>thn (hu pins s2 σ H2 _ I2 q2) fun vu s3 ⟨u,H3,I3,pu,q3⟩=>?_)
  rw [evalPart_none]
  refine qe ?_
  have I4:Inv X pins σ H3 { s3 with heap:=s3.heap.push { cls:=.type "slice",data:=.fields #[vl,vu,.none] } }:=I3.kept (t':=s3.toks) fun b ob q=>qc _ q
  obtain ⟨T,id,hT,ht,hg⟩:=hr pins { s3 with heap:=s3.heap.push { cls:=.type "slice",data:=.fields #[vl,vu,.none] } } σ H3 x v vl vu l u s3.heap.objs.size Q I4 r1 (Heap.IsSliceOf.new ..) pl pu q3
  show wpAny (model X.prog X.w) X.A (subscriptTail e (.Slice lo hi none p2) v (.ref s3.heap.objs.size)) (EP X pins σ Q) X.xe { s3 with heap:=s3.heap.push { cls:=.type "slice",data:=.fields #[vl,vu,.none] } }
  exact tail_any (ops:=[.ref s3.heap.objs.size,v]) ht hT hg (by with_unfolding_all rfl)
def qib (xs:List V) (lo hi:Option Int):List V:=(xs.drop (HT.sIx xs.length 0 lo)).take (HT.sIx xs.length xs.length hi - HT.sIx xs.length 0 lo)
theorem qaD (xs:List V) (lo hi:Option Int):(qib xs lo hi).length<=xs.length:=by
  unfold qib
  rw [yg,yy]
  omega
def rCatT (K:W.Frag):R2:=fun x y H Q=>∃ a b xs ys,x = .ref a/\y = .ref b/\SqT K H a xs/\SqT K H b ys/\xs≠[]/\xs.length+ys.length<=sizeLine ∧
  (ys=[]->Q (.ref a) H)/\(ys≠[]->∀ p,H p=none->Q (.ref p) (upd H p (.tup (xs++ys))))
theorem yo.nil_iff {xs:List V}{us:List Value}(r:yo xs us):us=[] ↔ xs=[]:=by
  cases r with
  | nil=>simp
  | cons _ _=>simp
theorem qht:OpR X (binaryOp .Add) (rCatT X.K):=by
  intro pins s σ H x y v u Q I rx ry h
  obtain ⟨a,b,xs,ys,rfl,rfl,ha,hb,hx,hz,q1,q2⟩:=h
  cases rx
  cases ry
  obtain ⟨its,r1,p1,_⟩:=I.tuple ha
  obtain ⟨its2,r2,p2,_⟩:=I.tuple hb
  refine HT.cat_tup p1 p2 (fun z=>hx (r1.nil_iff.mp z)) (fun z=>⟨.ref a,H,I,rfl,q1 (r2.nil_iff.mp z)⟩) (fun z=>?_) (by rw [<- r1.length,<- r2.length];exact hz)
  refine ⟨.ref s.heap.objs.size,_,I.laid (t':=s.toks) (o:=.tup (xs++ys)) (fun b ob q=>qc _ q) (qi _) ?_,rfl,q2 (fun w=>z (r2.nil_iff.mpr w)) _ (I.hok.fresh (qi _))⟩
  exact ⟨by rw [List.length_append];exact hz,_,r1.append r2,IsTup.new _ _⟩
end
def ixN (n:Nat) (i:Int):Option Nat:=if 0<=i then (if i<n then some i.toNat else none) else if -(n:Int)<=i then some (i+n).toNat else none
def atI {α:Type}(xs:List α) (i:Int):Option α:=(ixN xs.length i).bind fun j=>xs[j]?
theorem qdg {n:Nat}{i:Int}{j:Nat}(h:ixN n i=some j):seqIndex? i n=some j/\j<n/\-(n:Int)<=i/\i<n:=by
  unfold ixN at h
  by_cases h0:0<=i
  · rw [if_pos h0] at h
    by_cases h1:i<n
    · rw [if_pos h1] at h
      have e:i.toNat=j:=Option.some.inj h
      exact ⟨by rw [seqIndex_of h0 h1,e],by omega,by omega,h1⟩
    · rw [if_neg h1] at h;cases h
  · rw [if_neg h0] at h
    by_cases h1:-(n:Int)<=i
    · rw [if_pos h1] at h
      have e:(i+n).toNat=j:=Option.some.inj h
      exact ⟨by rw [seqIndex_neg (by omega) h1,e],by omega,h1,by omega⟩
    · rw [if_neg h1] at h;cases h
theorem qd8 {α:Type}{xs:List α}{i:Int}{v:α}(h:atI xs i=some v):∃ j,seqIndex? i xs.length=some j/\xs[j]?=some v/\j<xs.length/\-(xs.length:Int)<=i/\i<xs.length:=by
  unfold atI at h
  cases e:ixN xs.length i with
  | none=>rw [e] at h;cases h
  | some j =>
    rw [e] at h
    obtain ⟨h1,h2,h3,h4⟩:=qdg e
    exact ⟨j,h1,h,h2,h3,h4⟩
theorem qii {α:Type}{xs:List α}{j:Nat}{v:α}(h:xs[j]?=some v):atI xs (j:Int)=some v:=by
  have hj:j<xs.length:=(qm.mp h).1
  have e:ixN xs.length (j:Int)=some j:=by
    unfold ixN
    rw [if_pos (by omega),if_pos (by omega)];simp
  unfold atI;rw [e];exact h
theorem qfr {α:Type}(xs:List α) (v:α):atI (xs++[v]) (-1)=some v:=by
  have hl:(xs++[v]).length=xs.length+1:=by simp
  have e:ixN (xs++[v]).length (-1)=some xs.length:=by
    unfold ixN
    rw [hl,if_neg (by decide),if_pos (by omega)]
    congr 1
    omega
  unfold atI
  rw [e]
  show (xs++[v])[xs.length]?=some v
  simp
def qed (b:Expr):Prop:=∀ o i,subscripted b false o i=operate [o,i] (getItem o i)
def IxR (X:Cx) (r:R2):Prop :=
  ∀ (value slice:Expr) (pins:List (Addr×Obj)) (s:Shared) (σ:St) (H:Hp) (x y:V) (v u:Value) (Q:VK),Inv X pins σ H s->jI x v->jI y u->r x y H Q →
    subscripted slice false v u=operate [v,u] (getItem v u)->wpAny (model X.prog X.w) X.A (subscriptTail value slice v u) (EP X pins σ Q) X.xe s
def MtR (X:Cx) (id:String) (r:V->List V->Hp->VK->Prop):Prop :=
  ∀ (pins:List (Addr×Obj)) (s:Shared) (σ:St) (H:Hp) (x:V) (xs:List V) (v:Value) (us:List Value) (Q:VK),Inv X pins σ H s->jI x v->yo xs us->r x xs H Q →
    wpAny (model X.prog X.w) X.A (call (.builtin id) (v::us)) (EP X pins σ Q) X.xe s
section
variable {X:Cx}{a b:Expr}{ta tb:TE}{pos:Pos}
theorem IxR.or {r r':R2}(h:IxR X r) (h':IxR X r'):IxR X (fun x y H Q=>r x y H Q\/r' x y H Q):=by
  intro value slice pins s σ H x y v u Q I rx ry q hs
  rcases q with q | q
  · exact h value slice pins s σ H x y v u Q I rx ry q hs
  · exact h' value slice pins s σ H x y v u Q I rx ry q hs
theorem MtR.or {id:String}{r r':V->List V->Hp->VK->Prop}(h:MtR X id r) (h':MtR X id r'):MtR X id (fun x xs H Q=>r x xs H Q\/r' x xs H Q):=by
  intro pins s σ H x xs v us Q I rx rs q
  rcases q with q | q
  · exact h pins s σ H x xs v us Q I rx rs q
  · exact h' pins s σ H x xs v us Q I rx rs q
theorem qas {r:R2}(hr:IxR X r) (ha:PE X a ta) (hb:PE X b tb) (hs:qed b):PE X (.Subscript a b pos) (tOp r ta tb):=by
  intro pins s σ H Q I h
  exact Subscript_ (binT ha hb I h fun v u s2 x y H2 I2 rx ry q=>hr a b pins s2 σ H2 x y v u Q I2 rx ry q (hs _ _))
def rIxL (K:W.Frag):R2:=fun x y H Q=>∃ p xs i v,x = .ref p/\y = .int i/\SqL K H p xs/\atI xs i=some v/\Q v H
def rIxT (K:W.Frag):R2:=fun x y H Q=>∃ p xs i v,x = .ref p/\y = .int i/\SqT K H p xs/\atI xs i=some v/\Q v H
theorem Jq:IxR X (rIxL X.K):=by
  intro value slice pins s σ H x y v u Q I rx ry h hs
  obtain ⟨p,xs,i,z,rfl,rfl,hq,he,q⟩:=h
  cases rx
  obtain ⟨t,rfl⟩:=ry
  obtain ⟨its,r,pl,hz⟩:=I.list hq
  obtain ⟨j,h1,h2,h3,h4,h5⟩:=qd8 he
  obtain ⟨w,ew,rw'⟩:=r.get h2
  have hl:=r.length
  have hn:=qbf
  have fin:EP X pins σ Q w s:=⟨z,H,I,rw',q⟩
  by_cases h0:0<=i
  · have hj:i.toNat=j:=by
      rw [seqIndex_of h0 h5] at h1
      exact Option.some.inj h1
    exact item_listR pl.isList h0 (by omega) (by rw [hj];simpa using ew) fin hs
  · have hj:(i+(its.toArray.size:Int)).toNat=j:=by
      rw [seqIndex_neg (by omega) h4] at h1
      rw [List.size_toArray,<- hl]
      exact Option.some.inj h1
    exact subscriptTail_builtinR (x:=w) pl.isList.typeIs slot_list_getitem.lookup
      (wpAny_getItem_list_neg (Q:=fun r s'=>r=w/\EP X pins σ Q r s') pl.isList (by omega) (by rw [List.size_toArray] <;> omega) (by omega) (by rw [hj];simpa using ew) ⟨rfl,fin⟩) hs
theorem qj3:IxR X (rIxT X.K):=by
  intro value slice pins s σ H x y v u Q I rx ry h hs
  obtain ⟨p,xs,i,z,rfl,rfl,hq,he,q⟩:=h
  cases rx
  obtain ⟨t,rfl⟩:=ry
  obtain ⟨its,r,pl,hz⟩:=I.tuple hq
  obtain ⟨j,h1,h2,h3,h4,h5⟩:=qd8 he
  obtain ⟨w,ew,rw'⟩:=r.get h2
  have hl:=r.length
  have hn:=qbf
  have fin:EP X pins σ Q w s:=⟨z,H,I,rw',q⟩
  exact subscriptTail_builtinR (x:=w) pl.typeIs slot_tuple_getitem.lookup
    (getItem_tuple (j:=j) (Q:=fun r s'=>r=w/\EP X pins σ Q r s') pl (by omega) (by omega) (by rw [List.size_toArray,<- hl];exact h1) (by simpa using ew) ⟨rfl,fin⟩) hs
theorem qbG (its:List Value) (n j:Nat) (u:Value):Obj.mapSeq (·.setIfInBounds j u) { cls:=.type "list",data:=.seq its.toArray n }={ cls:=.type "list",data:=.seq (its.set j u).toArray n }:=by
  simp [Obj.mapSeq]
theorem Inv.lst {pins:List (Addr×Obj)}{σ:St}{H:Hp}{s:Shared}{p:Addr}{xs:List V}(I:Inv X pins σ H s) (h:H p=some (.lst xs)) :
    ∃ (its:List Value) (n:Nat),yo xs its/\s.heap.get? p=some { cls:=.type "list",data:=.seq its.toArray n }/\xs.length<=sizeLine:=by
  obtain ⟨z,its,n,r,e⟩:=I.hok p _ h
  exact ⟨its,n,r,e,z⟩
theorem Inv.lstUpd {pins:List (Addr×Obj)}{σ:St}{H:Hp}{s:Shared}{p:Addr}{xs ys:List V}{its its':List Value}{n n':Nat}{f:Obj->Obj}(I:Inv X pins σ H s) (h:H p=some (.lst xs))
    (ho:s.heap.get? p=some { cls:=.type "list",data:=.seq its.toArray n }) (hf:f { cls:=.type "list",data:=.seq its.toArray n }={ cls:=.type "list",data:=.seq its'.toArray n' }) (r:yo ys its') (hz:ys.length<=sizeLine) (t:Nat) :
    Inv X pins σ (upd H p (.lst ys)) { s with heap:=s.heap.update p f,toks:=t }:=by
  have e:(s.heap.update p f).get? p=some { cls:=.type "list",data:=.seq its'.toArray n' }:=by
    rw [jh f ho (by rw [hf] <;> rfl),hf]
  refine I.write (x:=p) (e:=p) (by rw [h];trivial) (.inl rfl) (fun b u hb q=>(yD _ _ (Ne.symm hb)).trans q) ⟨_,e⟩ ?_
  exact ⟨hz,its',n',r,e⟩
def rSetL:V->V->V->Hp->(Hp->Prop)->Prop:=fun o i v H Q=>∃ p xs k j,o = .ref p/\i = .int k/\H p=some (.lst xs)/\ixN xs.length k=some j/\Q (upd H p (.lst (xs.set j v)))
theorem qaP:PSet X rSetL:=by
  intro pins s σ H o i v ov iv u Q I ro ri rv h
  obtain ⟨p,xs,k,j,rfl,rfl,hp,hj,q⟩:=h
  cases ro
  obtain ⟨t,rfl⟩:=ri
  obtain ⟨its,n,r,ho,hz⟩:=I.lst hp
  obtain ⟨h1,h2,h3,h4⟩:=qdg hj
  have hl:=r.length
  have hn:=qbf
  have I':Inv X pins σ (upd H p (.lst (xs.set j v))) { s with heap:=s.heap.update p (Obj.mapSeq (·.setIfInBounds j u)) } :=
    I.lstUpd hp ho (qbG its n j u) (r.set rv j) (by rw [List.length_set];exact hz) s.toks
  by_cases h0:0<=k
  · have hk:k.toNat=j:=by
      rw [seqIndex_of h0 h4] at h1
      exact Option.some.inj h1
    exact W.ki_setAt ho h0 (by omega) (by rw [List.size_toArray,<- hl];exact h4) (by rw [hk];exact ⟨_,I',q⟩)
  · have hk:(k+(its.toArray.size:Int)).toNat=j:=by
      rw [seqIndex_neg (by omega) h3] at h1
      rw [List.size_toArray,<- hl]
      exact Option.some.inj h1
    exact W.ki_setBack ho (by omega) (by rw [List.size_toArray,<- hl];exact h3) (by omega) (by rw [hk];exact ⟨_,I',q⟩)
theorem Zy (lo hi:Option Int) (n:Nat):(sliceBounds lo hi none n).1=((HT.sIx n 0 lo:Nat):Int)/\(sliceBounds lo hi none n).2.1=((HT.sIx n n hi:Nat):Int)/\(sliceBounds lo hi none n).2.2=1:=by
  refine ⟨?_,?_,rfl⟩
  · cases lo with
    | none=>simp [sliceBounds,HT.sIx]
    | some i =>
      simp only [sliceBounds,HT.sIx,Option.getD_none,show (1:Int) > 0 by decide,if_true]
      by_cases h:i<0
      · simp only [h,if_true] <;> omega
      · simp only [h,if_false] <;> omega
  · cases hi with
    | none=>simp [sliceBounds,HT.sIx]
    | some i =>
      simp only [sliceBounds,HT.sIx,Option.getD_none,show (1:Int) > 0 by decide,if_true]
      by_cases h:i<0
      · simp only [h,if_true] <;> omega
      · simp only [h,if_false] <;> omega
theorem YZ (its:List Value) (lo hi:Option Int):slicePick its.toArray lo hi none=((its.drop (HT.sIx its.length 0 lo)).take (HT.sIx its.length its.length hi - HT.sIx its.length 0 lo)).toArray:=by
  obtain ⟨h1,h2,h3⟩:=Zy lo hi its.toArray.size
  unfold slicePick
  rw [h1,h2,h3]
  simp only [sliceRange_one,pick_run,List.size_toArray] <;> rfl
def rSlL (K:W.Frag):V->Option Int->Option Int->Hp->VK->Prop:=fun x lo hi H Q=>∃ a xs,x = .ref a/\SqL K H a xs/\∀ p,H p=none->Q (.ref p) (upd H p (.lst (qib xs lo hi)))
theorem qgY:SlR X (rSlL X.K):=by
  intro pins s σ H x v vl vu lo hi sl Q I rx hs pl pu h
  obtain ⟨a,xs,rfl,hx,q⟩:=h
  cases rx
  obtain ⟨its,r,ht,hz⟩:=I.list hx
  have hlen:=r.length
  refine ⟨"list",_,slot_list_getitem.lookup,ht.isList.typeIs,?_⟩
  refine wpAny_getItem_list_slice ht.isList hs pl pu .none (by simp) ?_ (by rw [List.size_toArray] <;> omega)
  rw [YZ,<- hlen]
  refine ⟨.ref s.heap.objs.size,_,I.laid (t':=s.toks) (o:=.lst (qib xs lo hi)) (fun b ob q=>qc _ q) (qi _) ?_,rfl,q _ (I.hok.fresh (qi _))⟩
  exact ⟨qR (qaD xs lo hi) hz,_,0,(r.drop (HT.sIx xs.length 0 lo)).take (HT.sIx xs.length xs.length hi - HT.sIx xs.length 0 lo),qz _ rfl⟩
theorem Z9:yu X (.builtin "len") (fun xs H Q=>∃ p ys,xs=[.ref p]/\(SqL X.K H p ys\/SqT X.K H p ys)/\Q (.int ys.length) H):=by
  intro pins s σ H xs us Q I r h
  obtain ⟨p,ys,rfl,hq,q⟩:=h
  obtain ⟨u,rfl,rx⟩:=JI r
  cases rx
  have hn:=qbf
  rcases hq with hq | hq
  · obtain ⟨its,r',pl,hz⟩:=I.list hq
    have hlen:=r'.length
    exact Calls.call_len_list pl.isList (by simp only [List.size_toArray] <;> omega) ⟨.int ys.length,H,I.tok _,⟨s.toks+1,by rw [List.size_toArray,hlen]⟩,q⟩
  · obtain ⟨its,r',pl,hz⟩:=I.tuple hq
    have hlen:=r'.length
    exact len_tuple pl (by simp only [List.size_toArray] <;> omega) ⟨.int ys.length,H,I.tok _,⟨s.toks+1,by rw [List.size_toArray,hlen]⟩,q⟩
theorem yu.or {f:Value}{r r':List V->Hp->VK->Prop}(h:yu X f r) (h':yu X f r'):yu X f (fun xs H Q=>r xs H Q\/r' xs H Q):=by
  intro pins s σ H xs us Q I rs q
  rcases q with q | q
  · exact h pins s σ H xs us Q I rs q
  · exact h' pins s σ H xs us Q I rs q
theorem Z8:yu X (.type "list") (fun xs H Q=>∃ p ys,xs=[.ref p]/\(SqL X.K H p ys\/SqT X.K H p ys)/\∀ l,H l=none->Q (.ref l) (upd H l (.lst ys))):=by
  intro pins s σ H xs us Q I r h
  obtain ⟨p,ys,rfl,hq,q⟩:=h
  obtain ⟨u,rfl,rx⟩:=JI r
  cases rx
  have fin:∀ (its:List Value),yo ys its->ys.length<=sizeLine->∀ (h':Heap) (c':Nat),(∀ b o',s.heap.get? b=some o'->h'.get? b=some o') →
      h'.get? s.heap.objs.size=some { cls:=.type "list",dict:=none,data:=.seq its.toArray c',slots:=#[] }->EP X pins σ Q (.ref s.heap.objs.size) { s with heap:=h' }:=fun its r' hz h' c' kp e =>
    ⟨.ref s.heap.objs.size,_,I.laid (t':=s.toks) kp (qi _) (show jJ X.prog X.w _ h' _ (.lst ys) from ⟨hz,its,c',r',e⟩),rfl,q _ (I.hok.fresh (qi _))⟩
  rcases hq with hq | hq
  · obtain ⟨its,r',pl,hz⟩:=I.list hq
    have hlen:=r'.length
    obtain ⟨o,ho,hc,n,hd⟩:=pl.isList
    exact call_list_seq p (.inl rfl) ho hc hd (fun h' c' kp e=>fin its r' hz h' c' kp e) (by simp only [List.size_toArray] <;> omega)
  · obtain ⟨its,r',pl,hz⟩:=I.tuple hq
    have hlen:=r'.length
    obtain ⟨o,ho,hc,n,hd⟩:=pl
    exact call_list_seq p (.inr rfl) ho hc hd (fun h' c' kp e=>fin its r' hz h' c' kp e) (by simp only [List.size_toArray] <;> omega)
theorem Zh:yu X (.type "tuple") (fun xs H Q=>∃ p ys,xs=[.ref p]/\((SqL X.K H p ys/\∀ l,H l=none->Q (.ref l) (upd H l (.tup ys)))\/(SqT X.K H p ys/\Q (.ref p) H))):=by
  intro pins s σ H xs us Q I r h
  obtain ⟨p,ys,rfl,h⟩:=h
  obtain ⟨u,rfl,rx⟩:=JI r
  cases rx
  rcases h with ⟨hq,q⟩ | ⟨hq,q⟩
  · obtain ⟨its,r',pl,hz⟩:=I.list hq
    have hlen:=r'.length
    refine call_tuple_list pl.isList (fun h' kp=>?_) (by simp only [List.size_toArray] <;> omega)
    have I1:Inv X pins σ H { s with heap:=h' }:=I.kept (t':=s.toks) kp
    have I2:Inv X pins σ (upd H h'.objs.size (.tup ys)) { s with heap:=h'.push { cls:=.type "tuple",data:=.seq its.toArray } } :=
      I1.laid (t':=s.toks) (fun b o e=>qc _ e) (qi _) (show jJ X.prog X.w _ _ _ (.tup ys) from ⟨hz,its,r',IsTup.new _ _⟩)
    exact ⟨.ref h'.objs.size,_,I2,rfl,q _ (I1.hok.fresh (qi _))⟩
  · obtain ⟨its,r',pl,hz⟩:=I.tuple hq
    exact call_tuple_same pl ⟨.ref p,H,I,rfl,q⟩
def tyV (K:W.Frag) (T:String) (x:V) (H:Hp):Prop:=match x with
  | .str _=>T = "str"
  | .int _=>T = "int"
  | .ref p=>(T = "list" /\ ∃ xs,SqL K H p xs)\/(T = "tuple" /\ ∃ o,K.lookup p=some o/\o.cls = .type "tuple" /\ o.dict=none) ∨
      (T = "dict" /\ ((∃ kvs,H p=some (.dK kvs))\/∃ kvs,H p=some (.dT kvs)))\/(T = "set" /\ ∃ S n,H p=some (.set S n))
  | _=>False
theorem qfB {pins:List (Addr×Obj)}{σ:St}{H:Hp}{s:Shared}{T:String}{x:V}{v:Value}(I:Inv X pins σ H s) (r:jI x v) (ty:tyV X.K T x H) :
    s.TypeIs v T/\∀ a,v = .ref a->∃ ob,s.heap.get? a=some ob/\ob.dict=none:=by
  cases x with
  | str z =>
    obtain ⟨t,rfl⟩:=r
    cases (show T = "str" from ty)
    exact ⟨typeIs_str s z t,fun _ e=>nomatch e⟩
  | int i =>
    obtain ⟨t,rfl⟩:=r
    cases (show T = "int" from ty)
    exact ⟨typeIs_int s i t,fun _ e=>nomatch e⟩
  | ref p =>
    cases r
    rcases ty with ⟨rfl,xs,hq⟩ | ⟨rfl,o,hk,hc,hd⟩ | ⟨rfl,hk⟩ | ⟨rfl,S,n,hk⟩
    · obtain ⟨its,_,pl,_⟩:=I.list hq
      refine ⟨pl.isList.typeIs,fun a e=>?_⟩
      cases e
      obtain ⟨o,n,e,c,hd,_⟩:=pl
      exact ⟨o,e,hd⟩
    · refine ⟨⟨o,I.kIn p o hk,hc⟩,fun a e=>?_⟩
      cases e
      exact ⟨o,I.kIn _ o hk,hd⟩
    · have z:∃ o,s.heap.get? p=some o/\o.ExactDict:=by
        rcases hk with ⟨kvs,hk⟩ | ⟨kvs,hk⟩
        · obtain ⟨_,_,_,_,o,_,_,e,ex,_⟩:=I.hok p _ hk
          exact ⟨o,e,ex⟩
        · obtain ⟨_,_,_,_,o,_,_,e,ex,_⟩:=I.hok p _ hk
          exact ⟨o,e,ex⟩
      obtain ⟨o,e,ex⟩:=z
      refine ⟨⟨o,e,ex.1⟩,fun a e2=>?_⟩
      cases e2
      exact ⟨o,e,ex.2.1⟩
    · obtain ⟨o,_,_,_,e,ex,_⟩:=I.hok p _ hk
      refine ⟨⟨o,e,ex.1⟩,fun a e2=>?_⟩
      cases e2
      exact ⟨o,e,ex.2.1⟩
  | _=>exact False.elim ty
def tBM0 (K:W.Frag) (T:String) (r:V->List V->Hp->VK->Prop) (to:TE):TE:=fun σ H Q=>to σ H fun x H1=>tyV K T x H1/\r x [] H1 Q
def tBM (K:W.Frag) (T:String) (r:V->List V->Hp->VK->Prop) (to:TE) (t:TA):TE:=fun σ H Q=>to σ H fun x H1=>tyV K T x H1/\t σ H1 fun xs H2=>r x xs H2 Q
variable {o e:Expr}{es:List Expr}{to:TE}{t:TA}{name:Str}{apos cpos:Pos}{T id:String}{r:V->List V->Hp->VK->Prop}
theorem qjp (pa:PlainAttrs T) (slot:Slot T name id) (hty:typeOf (.builtin id)=pure (.type "method_descriptor")) (hm:MtR X id r) (ho:PE X o to)
    (hbase:attributeBase o name X.env (eval o X.env)=eval o X.env:=by rfl) (hline:(apos.endLine == cpos.line)=true:=by rfl):PE X (.Call (.Attribute o name apos) [] [] cpos) (tBM0 X.K T r to):=by
  intro pins s σ H Q I h
  refine wpAny_Call_method0_late hbase hline (thn (ho pins s σ H _ I h) fun v s1 ⟨x,H1,I1,r1,ty,q1⟩=>?_)
  obtain ⟨h1,h2⟩:=qfB I1 r1 ty
  exact ⟨T,id,pa,slot,hty,h1,h2,Calls.callWith_builtin rfl (PySem.evalArgs_none (hm pins s1 σ H1 x [] v [] Q I1 r1 .nil q1))⟩
theorem pe_bm (pa:PlainAttrs T) (slot:Slot T name id) (hty:typeOf (.builtin id)=pure (.type "method_descriptor")) (hm:MtR X id r) (ho:PE X o to) (ha:PA X (e::es) t)
    (hbase:attributeBase o name X.env (eval o X.env)=eval o X.env:=by rfl)
    (hfew:((backTo cpos (starEach (e::es) X.env)).all (fun x=>!x.1) && (backToKw cpos (keywordEach [] X.env)).all (fun x=>x.1.isSome)
      && decide ((e::es).length+([]:List Keyword).length+(if ([]:List Keyword).isEmpty then 0 else 1)<30))=true:=by rfl)
    (hline:(apos.endLine == cpos.line)=true:=by rfl) (hs:starEach (e::es) X.env=(false,eval e X.env)::starEach es X.env:=by rfl) (hplain:(backTo cpos (starEach es X.env)).any (·.1)=false:=by rfl) :
    PE X (.Call (.Attribute o name apos) (e::es) [] cpos) (tBM X.K T r to t):=by
  intro pins s σ H Q I h
  refine wpAny_Call_method_late hbase hfew hline rfl (thn (ho pins s σ H _ I h) fun v s1 ⟨x,H1,I1,r1,ty,q1⟩=>?_)
  obtain ⟨h1,h2⟩:=qfB I1 r1 ty
  refine ⟨T,id,pa,slot,hty,h1,h2,?_⟩
  have hA:=ha cpos pins s1 σ H1 _ I1 q1
  rw [hs] at hA ⊢
  refine Calls.callWith_builtin (by show (false || (backTo cpos (starEach es X.env)).any (·.1))=false;rw [hplain] <;> rfl) (Calls.evalArgs_plain ?_)
  exact thn hA fun us s2 ⟨vs,H2,I2,r2,q2⟩=>hm pins s2 σ H2 x vs v us Q I2 r1 r2 q2
end
def MtM (X:Cx) (id:String) (r:V->List V->Hp->VK->Prop):Prop :=
  ∀ (pins:List (Addr×Obj)) (s:Shared) (σ:St) (H:Hp) (x:V) (xs:List V) (v:Value) (us:List Value) (Q:VK),Inv X pins σ H s->jI x v->yo xs us->r x xs H Q →
    wpAny (model X.prog X.w) X.A (call (.builtin id) (v::us)) (EP X pins σ Q) X.xe s
theorem yo.one:∀ {x:V}{us:List Value},yo [x] us->∃ u,us=[u]/\jI x u
  | _,_,.cons r .nil=>⟨_,rfl,r⟩
theorem yo.two:∀ {x y:V}{us:List Value},yo [x,y] us->∃ u v,us=[u,v]/\jI x u/\jI y v
  | _,_,_,.cons r (.cons q .nil)=>⟨_,_,rfl,r,q⟩
theorem yo.zero:∀ {us:List Value},yo [] us->us=[]
  | _,.nil=>rfl
theorem yo.dropLast {xs:List V}{us:List Value}(h:yo xs us):yo xs.dropLast us.dropLast:=by
  induction h with
  | nil=>exact .nil
  | cons r t ih =>
    cases t with
    | nil=>exact .nil
    | cons q t'=>exact .cons r ih
theorem yo.eraseIdx:∀ {xs:List V}{us:List Value}(i:Nat),yo xs us->yo (xs.eraseIdx i) (us.eraseIdx i)
  | _,_,_,.nil=>.nil
  | _,_,0,.cons _ t=>t
  | _,_,i+1,.cons r t=>.cons r (yo.eraseIdx i t)
theorem yo.reverse {xs:List V}{us:List Value}(h:yo xs us):yo xs.reverse us.reverse:=by
  induction h with
  | nil=>exact .nil
  | cons r t ih=>rw [List.reverse_cons,List.reverse_cons];exact yo.append ih (.cons r .nil)
theorem qbM {α:Type}(l:List α):l.eraseIdx (l.length - 1)=l.dropLast:=by
  induction l with
  | nil=>rfl
  | cons a r ih =>
    cases r with
    | nil=>rfl
    | cons b r =>
      have e:(a::b::r).length - 1=((b::r).length - 1)+1:=by
        have h1:(a::b::r).length=r.length+2:=rfl
        have h2:(b::r).length=r.length+1:=rfl
        omega
      rw [e,List.eraseIdx_cons_succ,ih]
      all_goals rfl
section
variable {X:Cx}{pins:List (Addr×Obj)}{σ:St}{H:Hp}{s:Shared}{l b:Addr}{xs ys zs:List V}
theorem Inv.lset {its its':List Value}{n:Nat}{f:Array Value->Array Value}{t':Nat}(I:Inv X pins σ H s) (hH:H l=some (.lst xs))
    (e:s.heap.get? l=some { cls:=.type "list",data:=.seq its.toArray n }) (hf:f its.toArray=its'.toArray) (hv:yo ys its') (hz:ys.length<=sizeLine) :
    Inv X pins σ (upd H l (.lst ys)) { s with heap:=s.heap.update l (Obj.mapSeq f),toks:=t' }:=by
  have q:=PySem.IsL.update e f
  rw [hf] at q
  refine I.write (x:=l) (e:=l) (by rw [hH];exact trivial) (.inl rfl) (fun b' u hb hu=>(yD s.heap (Obj.mapSeq f) (Ne.symm hb)).trans hu) ⟨_,q⟩ ?_
  exact ⟨hz,its',_,hv,q⟩
theorem Inv.lnew {its:List Value}{t':Nat}(I:Inv X pins σ H s) (hv:yo ys its) (hz:ys.length<=sizeLine) :
    Inv X pins σ (upd H s.heap.objs.size (.lst ys)) { s with heap:=s.heap.push { cls:=.type "list",data:=.seq its.toArray },toks:=t' } :=
  I.laid (fun _ _ q=>qc _ q) (qi _) ⟨hz,its,0,hv,qz _ rfl⟩
theorem Inv.fresh (I:Inv X pins σ H s):H s.heap.objs.size=none:=I.hok.fresh (qi _)
theorem Inv.lstM (I:Inv X pins σ H s) (hH:H l=some (.lst xs)):xs.length<=sizeLine/\∃ (its:List Value) (n:Nat),yo xs its/\xs.length=its.length/\s.heap.get? l=some { cls:=.type "list",data:=.seq its.toArray n }:=by
  obtain ⟨z,its,n,r,e⟩:=I.hok l _ hH
  exact ⟨z,its,n,r,r.length,e⟩
end
section
variable {X:Cx}
def rAppend:V->List V->Hp->VK->Prop:=fun x vs H Q=>∃ l xs y,x = .ref l/\vs=[y]/\H l=some (.lst xs)/\xs.length<sizeLine/\Q .non (upd H l (.lst (xs++[y])))
theorem qc0:MtM X "list.append" rAppend:=by
  intro pins s σ H x vs v us Q I rx rv h
  obtain ⟨l,xs,y,rfl,rfl,hH,hz,q⟩:=h
  cases rx
  obtain ⟨u,rfl,ru⟩:=rv.one
  obtain ⟨z,its,n,r,hl,e⟩:=I.lstM hH
  refine call_meets F.slot_list_append ⟨_,e,rfl⟩ F.entry_list_append (F.args_list_append_2 _ _) (PySem.list_append l its.toArray n u (by rw [List.size_toArray];omega)) ⟨e,?_⟩
  refine ⟨.non,_,I.lset (its':=its++[u]) hH e (by simp) (r.append (.cons ru .nil)) ?_,rfl,q⟩
  rw [List.length_append,List.length_singleton]
  omega
def rPop:V->List V->Hp->VK->Prop:=fun x vs H Q=>∃ l xs y,x = .ref l/\vs=[]/\H l=some (.lst xs)/\xs[xs.length - 1]?=some y/\Q y (upd H l (.lst xs.dropLast))
theorem qjV:MtM X "list.pop" rPop:=by
  intro pins s σ H x vs v us Q I rx rv h
  obtain ⟨l,xs,y,rfl,rfl,hH,hy,q⟩:=h
  cases rx
  have hus:=rv.zero
  subst hus
  obtain ⟨z,its,n,r,hl,e⟩:=I.lstM hH
  obtain ⟨u,hu,ru⟩:=r.get hy
  have hy':its.toArray[its.toArray.size - 1]?=some u:=by
    show its.toArray[its.length - 1]?=some u
    rw [<- qj,<- hl]
    exact hu
  refine call_meets F.slot_list_pop ⟨_,e,rfl⟩ F.entry_list_pop (F.args_list_pop_1 _) (MeetsSeq.list_pop_last l its.toArray n u hy' (by rw [List.size_toArray];omega)) ⟨e,?_⟩
  refine ⟨y,_,I.lset (its':=its.dropLast) hH e ?_ r.dropLast ?_,ru,q⟩
  · show its.toArray.eraseIdxIfInBounds (its.toArray.size - 1)=its.dropLast.toArray
    rw [List.size_toArray,List.eraseIdxIfInBounds_toArray,qbM]
  · rw [List.length_dropLast]
    omega
end
section
variable {prog:Program}{w:World}{A:Around}{E:Value->Shared->Prop}{s:Shared}
set_option maxRecDepth 100000 in
end
section
variable {X:Cx}
end
end L2
namespace Att
open PySem PySem.W PySem.Calls PyProof.Rows
theorem Yw {P:Params}{h:Heap}:∀ (ns:List Int) (vs:List Value),WellAll P h vs (ns.map WData.int)->IntsAre vs ns:=by
  intro ns
  induction ns with
  | nil =>
    intro vs w
    rw [List.map_nil] at w
    cases w
    exact .nil
  | cons n ns ih =>
    intro vs w
    rw [List.map_cons] at w
    cases w with
    | cons a b =>
      cases a
      exact .cons _ _ (ih _ b)
theorem qck {l:OpenLaw}{n:Nat}(hn:l.most=some n) {P:Params}{h:Heap}{args:List WData}{vals:List Value}
    (hpre:l.row.toRowW.claim.pre args=true) (hwl:WellAll P h vals args) :
    ∃ a vs ns,vals=[Value.ref a]/\args=[WData.list (ns.map WData.int)]/\h.get? a=some { cls:=.type "list",data:=.seq vs.toArray }/\IntsAre vs ns/\ns.length<=n:=by
  have hsh:WShape.hasAll [] args [.list .int]=true:=(pre_splitW hpre).1
  have hc:l.pre.holds [] { args:=args }=true:=(pre_splitW hpre).2
  obtain ⟨d,r,rfl,h1,h2⟩:=hasAllW_cons hsh
  obtain rfl:=hasAllW_nil h2
  obtain ⟨xs,rfl,h3⟩:=hasW_list h1
  obtain ⟨ns,rfl⟩:=items_int h3
  have hlen:ns.length<=n:=by
    unfold OpenLaw.pre at hc
    have h4:(WTm.not (.lt (.lit (.int (n:Int))) (.len (.arg 0)))).holds [] { args:=[.list (ns.map .int)] }=true:=by
      have h4:=(holds_andW hc).1
      rw [hn] at h4
      exact h4
    have h5:=condW_of h4 (w_not (w_lt w_lit (w_len_list (w_arg rfl))))
    rw [List.length_map] at h5
    refine Nat.le_of_not_lt fun q=>?_
    have q':(n:Int)<((ns.length:Nat):Int):=by omega
    first
      | (rw [qu q'] at h5;exact absurd h5 (by decide))
      | (simp at h5;omega)
  cases hwl with
  | cons w1 w2 =>
    cases w2
    cases w1 with
    | list ho hall=>exact ⟨_,_,ns,rfl,rfl,ho,Yw ns _ hall,hlen⟩
theorem qcK (l:OpenLaw) (args:List WData):l.row.toRowW.claim.post args (.bool true) args=true :=
  postW_of (r:=l.row.toRowW) (X:=(true == true))
    (show WShape.has [] (.bool true) .bool=true by first | rfl | decide | simp [WShape.has,WShape.arms,WShape.armsAll])
    (show (WTm.eq .res (.lit (.bool true))).value [] { args:=args,res:=some (.bool true),after:=args }=some (.bool (true == true)) from w_eq_bool (w_res rfl) w_lit) rfl
theorem attach_call {l:OpenLaw}{n:Nat}{q:Program}{loose:List Str}{XP:(Str->Option Value)->Heap->Prop}{YP:World->Heap->Prop}{d:DefRec}
    (hn:l.most=some n) (hdf:d.params.defaults=[])
    (call:∀ (w:World) (s₀ s₁:Shared) (mg mb:Str->Option Value) (fa:Addr) (o:Obj) (pm cd doc:Value) (a:Addr) (vs:List Value) (ns:List Int),
      Ground q loose [] XP w s₀ mg mb s₁.heap->YP w s₁.heap →
      s₁.heap.get? fa=some o->o.data = .func (docDef d.name d.params d.body d.scope pm cd doc)->s₁.heap.CodeRec cd d.name->mg d.name=some (.ref fa) →
      s₁.heap.get? a=some { cls:=.type "list",data:=.seq vs.toArray }->IntsAre vs ns->ns.length<=n->s₁.gens=#[] →
      codeAny (model l.prog w) callerA (.call (.ref fa) ⟨[.ref a],[]⟩) (fun r s'=>r = .ok (.ret (.bool true))/\OldK s₁.heap s'.heap/\s'.os=s₁.os/\AllBare s'.gens) s₁) :
    WalkO q loose XP YP l.row.toRowW d [] (fun f vs=>PySem.call f vs):=by
  intro w s₀ s₁ mg mb G Y fa o pm cd doc dV kV ho hd hcd hD hmg hg args vals as hpre hlay hrd hwl hlo
  obtain rfl:dV = .none:=Dflts.none hD hdf
  obtain rfl:kV = .none:=Dflts.noKw hD
  obtain ⟨a,vs,ns,rfl,rfl,hobj,hints,hlen⟩:=qck hn hpre hwl
  refine enter_call (codeAny_mono (call w s₀ s₁ mg mb fa o pm cd doc a vs ns G Y ho (fd_plain hd) hcd hmg hobj hints hlen hg) fun r s' hq=>?_)
  obtain ⟨rfl,h2,h3,h4⟩:=hq
  exact ⟨.inl ⟨.bool true,.bool true,[],rfl,fun _=>rfl,.bool true,qcK l _,fun _=>⟨List.Pairwise.nil,fun _ hm=>(nomatch hm)⟩⟩,h2,h3,h4⟩
section
variable {prog:Program}{w:World}{A:Around}{E:Value->Shared->Prop}{s:Shared}{K:Frag}
def ledger (h:Heap) (L d:Addr):List (Addr×Obj):=(List.range h.objs.size).filterMap fun a=>if a=L\/a=d then none else (h.get? a).map fun o=>(a,o)
end
end Att
namespace L2
open PySem PySem.Spec PyProof.Rows
theorem Zt:∀ {vs:List Value}{ns:List Int},IntsAre vs ns->yo (ns.map V.int) vs
  | _,_,.nil=>.nil
  | _,_,.cons n t h=>.cons ⟨t,rfl⟩ (Zt h)
def Only (H:Hp):Prop:=∀ b,H b=none\/∃ o xs,H b=some (.frz o (.lst xs))
theorem qe0 {P:Program}{w:World}{K:W.Frag}{mg mb:Str->Option Value}{CX:CXT}{k:Nat}{fa a:Addr}{fd:FuncData}{x:Str}{sp:Sp}{s₁:Shared}{vs:List Value}{ns:List Int}
    (KX:K.In s₁.heap) (hns:s₁.heap.Ns mainGlobals mg) (hb:s₁.heap.Ns builtinsNs mb) (hbb:∀ x:Str,x ≠ "__name__" -> mb x=bootBuiltins x) (hlim:s₁.heap.NoLimit) (hg:s₁.gens=#[])
    (ha:s₁.heap.get? a=some { cls:=.type "list",data:=.seq vs.toArray }) (hi:IntsAre vs ns) (hl:ns.length<=sizeLine) (hr:Room k callerA)
    (F:∀ base:Heap,K.In base->base.Ns mainGlobals mg->FnOk P w K mg base CX k fa fd [x] sp) (hbind:∀ (s:Shared) (u:Value),BindsTo s fd ⟨[u],[]⟩ [(x,u)])
    (hsp:∀ H:Hp,Only H->SqL K H a (ns.map V.int)->sp [.ref a] H (fun v _=>v = .bl true) fun _ _ _=>False)
    (hCX:∀ H e s',CX [] H s₁ (fun _ _ _=>False) e s'->False) :
    codeAny (model P w) callerA (.call (.ref fa) ⟨[.ref a],[]⟩) (fun r s'=>r = .ok (.ret (.bool true))/\OldK s₁.heap s'.heap/\s'.os=s₁.os/\AllBare s'.gens) s₁:=by
  have rv:=Zt hi
  have lenV:=hi.length
  -- from an abstract heap in which nothing but the script may be tracked
  have core:∀ H:Hp,Only H->SqL K H a (ns.map V.int)->HOk P w H s₁.heap->(∀ b,H b≠none->b=a)->(H a≠none->K.lookup a=none) →
      codeAny (model P w) callerA (.call (.ref fa) ⟨[.ref a],[]⟩) (fun r s'=>r = .ok (.ret (.bool true))/\OldK s₁.heap s'.heap/\s'.os=s₁.os/\AllBare s'.gens) s₁:=by
    intro H hO hS hok hA hK
    have base_of:∀ {b:Addr}{o:Obj},s₁.heap.get? b=some o->H b=none->(qe5 s₁.heap H).get? b=some o:=fun e n=>qe4 e n
    have noA:∀ {b:Addr}{o:Obj}{es:Array DictEntry}{ep:Nat},s₁.heap.get? b=some o->o.data = .dict es ep->H b=none:=fun {b o es ep} e d=>by
      cases q:H b with
      | none=>rfl
      | some u =>
        have e':b=a:=hA b (by rw [q];simp)
        subst e'
        rw [ha] at e;cases e
        have d':Data.seq vs.toArray _=Data.dict es ep:=d
        cases d'
    have nsK:∀ {b:Addr}{m:Str->Option Value},s₁.heap.Ns b m->(qe5 s₁.heap H).Ns b m:=fun {b m} ⟨o,es,ep,e,d,r⟩=>⟨o,es,ep,base_of e (noA e d),d,r⟩
    have hKb:K.In (qe5 s₁.heap H):=fun b o e=>base_of (KX b o e) (by
      cases q:H b with
      | none=>rfl
      | some u =>
        have e':b=a:=hA b (by rw [q];simp)
        subst e'
        rw [hK (by rw [q];simp)] at e;cases e)
    have hM:Mod K mg (qe5 s₁.heap H):=⟨hKb,nsK hns,⟨mb,nsK hb,hbb⟩,let ⟨mc,h1,h2⟩:=hlim;⟨mc,nsK h1,h2⟩⟩
    have e0:Env0 P w K mg (qe5 s₁.heap H) callerA [] s₁ H:=⟨rfl,hM,fun b o e=>qhC e,Nat.le_of_eq (qdk _ _),trivial,fun b hb=>absurd (show b∈([]:List Addr) from hb) (by simp),hok,.of_eq hg⟩
    refine codeAny_mono ((F _ hKb (nsK hns)).run callerA [] s₁ H ⟨[.ref a],[]⟩ [.ref a] [.ref a] _ _ hr e0 (hbind s₁ (.ref a)) (.cons rfl .nil) (hsp H hO hS)) fun r s' h=>?_
    cases r with
    | error e=>exact (hCX H e s' h).elim
    | ok fl =>
      cases fl with
      | next=>exact False.elim h
      | brk=>exact False.elim h
      | cont=>exact False.elim h
      | ret u =>
        obtain ⟨v,H',os,bare,un,hok',r',q⟩:=h
        have q':v = .bl true:=q
        subst q'
        obtain rfl:u=Value.bool true:=r'
        refine ⟨rfl,OldK.of_keep fun b o e=>?_,os,bare⟩
        cases q:H b with
        | none=>exact un.keep b o e q (by intro z;exact absurd (show b∈([]:List Addr) from z) (by simp)) (by simp)
        | some u =>
          rcases hO b with z | ⟨ob,xs,z⟩
          · rw [q] at z;cases z
          · have z2:=un.frzs b ob _ z
            obtain ⟨e1,_⟩:=hok b _ z
            obtain ⟨e2,_⟩:=hok' b _ z2
            rw [e] at e1;cases e1
            exact e2
  cases hk:K.lookup a with
  | some o =>
    -- the script is one of the module's own objects
    have e:=KX a o hk
    rw [ha] at e
    cases e
    refine core (fun _=>none) (fun _=>.inl rfl) (.inr ⟨_,vs.toArray,_,hk,rfl,rfl,rfl,by rw [List.size_toArray,lenV];exact hl,by simpa using rv⟩) (fun b u z=>by have z':(none:Option HO)=some u:=z;cases z') (fun b z=>absurd rfl z) fun z=>absurd rfl z
  | none =>
    refine core (fun b=>if b=a then some (.frz { cls:=.type "list",data:=.seq vs.toArray } (.lst (ns.map V.int))) else none) (fun b=>?_) (.inl (.inr ⟨{ cls:=.type "list",data:=.seq vs.toArray },if_pos rfl⟩)) (fun b u z=>?_) (fun b z=>?_) fun _=>hk
    · by_cases hb:b=a
      · exact .inr ⟨_,_,if_pos hb⟩
      · exact .inl (if_neg hb)
    · by_cases hb:b=a
      · have z':=(if_pos hb).symm.trans z
        cases z'
        subst hb
        exact ⟨ha,by rw [List.length_map];exact hl,vs,_,rv,ha⟩
      · have z':=(if_neg hb).symm.trans z
        cases z'
    · by_cases hb:b=a
      · exact hb
      · exact absurd (if_neg hb) z
abbrev KOf {K:W.Frag}{h:Heap}(_:K.In h):W.Frag:=K
theorem walk_of {l:W.OpenLaw}{n k:Nat}{q:Program}{loose:List Str}{XP:(Str->Option Value)->Heap->Prop}{YP:World->Heap->Prop}{d:DefRec}{K:Params->W.Frag}{CX:World->CXT}{sp:World->Sp}{x:Str}
    (hn:l.most=some n) (hn2:n<=sizeLine) (hdf:d.params.defaults=[]) (hr:Room k callerA)
    (hY:∀ (w:World) (h:Heap),YP w h->(K w.params).In h)
    (F:∀ (w:World) (mg:Str->Option Value) (fa:Addr) (h:Heap),(K w.params).In h->h.Ns mainGlobals mg->mg d.name=some (.ref fa) →
      ∃ fd:FuncData,(∀ (s:Shared) (u:Value),BindsTo s fd ⟨[u],[]⟩ [(x,u)]) ∧
        ∀ base:Heap,(K w.params).In base->base.Ns mainGlobals mg->FnOk l.prog w (K w.params) mg base (CX w) k fa fd [x] (sp w))
    (hsp:∀ (w:World) (H:Hp) (a:Addr) (ns:List Int),ns.length<=n->Only H->SqL (K w.params) H a (ns.map V.int)->sp w [.ref a] H (fun v _=>v = .bl true) fun _ _ _=>False)
    (hCX:∀ (w:World) (H:Hp) (s:Shared) (e:Value) (s':Shared),CX w [] H s (fun _ _ _=>False) e s'->False) :
    W.WalkO q loose XP YP l.row.toRowW d [] (fun f vs=>PySem.call f vs):=by
  refine Att.attach_call hn hdf fun w s₀ s₁ mg mb fa o pm cd doc a vs ns G Y ho hd hcd hmg hobj hints hlen hg=>?_
  have KX:=hY w _ Y
  obtain ⟨fd,hb,hF⟩:=F w mg fa _ KX G.T.g hmg
  exact qe0 KX G.T.g G.T.b G.T.builtins G.T.nolimit hg hobj hints (qR hlen hn2) hr hF hb (fun H hO hS=>hsp w H a ns hlen hO hS) fun H e s'=>hCX w H s₁ e s'
def Jc (s:Stmt):Arguments:=match s with
  | .FunctionDef _ a _ _ _ _ _ _ _ _=>a
  | _=>{ posonlyargs:=[],args:=[],vararg:=none,kwonlyargs:=[],kw_defaults:=[],kwarg:=none,defaults:=[] }
def yW (s:Stmt):List Stmt:=match s with
  | .FunctionDef _ _ b _ _ _ _ _ _ _=>b
  | _=>[]
def qp (s:Stmt):Scope:=match s with
  | .FunctionDef _ _ _ _ _ _ sc _ _ _=>sc
  | _=>{ kind:=.function,names:=[],isGenerator:=false,isCoroutine:=false }
abbrev CX0:CXT:=fun _ _ _ _ _ _=>False
abbrev E0:XK:=fun _ _ _=>False
structure Fun (K:W.Frag) (x qual:Str) (st:Stmt) (f:Addr) (fd:FuncData):Prop where
  ex:∃ (oc:Value) (od:Option Addr) (kV doc pm:Value) (an:Option Addr) (cdv ct:Value) (osl:Array (Option Value)),
    fd=W.fnOf x qual (Jc st) (yW st) (qp st) .none kV doc pm an cdv ct/\K.lookup f=some ⟨oc,od,.func fd,osl⟩/\W.codeIn K cdv qual=true
  kp:W.keepIn K (.ref f)=true
section
variable {P:Program}{w:World}{K:W.Frag}{mg:Str->Option Value}{base:Heap}
theorem Fun.ok {x qual:Str}{st:Stmt}{f:Addr}{fd:FuncData}{N ps:List Str}{k:Nat}{sp:Sp}(F:Fun K x qual st f fd) (S:FnScope N ps (qp st)) (len:∀ vs H Q E,sp vs H Q E->vs.length=ps.length)
    (hbody:∀ (cdv:Value) (A:Around) (outer:List Env) (s:Shared) (H:Hp) (vs:List V) (Q:VK) (E:XK),Room k (A.deeper (envOfC qual (qp st) s.heap.objs.size f cdv))->sp vs H Q E →
      ∃ t,PSs (qbS CX0 P w K mg base N qual (qp st) f cdv A outer s H E).nox (yW st) t/\t { nx:=fun _ H'=>Q .non H',rt:=Q } (YY N vs) H):FnOk P w K mg base CX0 (k+1) f fd ps sp:=by
  obtain ⟨oc,od,kV,doc,pm,an,cdv,ct,osl,rfl,lk,hcd⟩:=F.ex
  refine qkb lk hcd S len fun A outer s H vs Q E hr hsp=>?_
  obtain ⟨t,h,q⟩:=hbody cdv A outer s H vs Q E hr hsp
  exact ⟨t,h.nox,q⟩
theorem Fun.binds {x qual:Str}{st:Stmt}{f:Addr}{fd:FuncData}{ps:List Str}(F:Fun K x qual st f fd)
    (h:∀ (kV doc pm:Value) (an:Option Addr) (cdv ct:Value) (us:List Value),us.length=ps.length->bindArgs (W.fnOf x qual (Jc st) (yW st) (qp st) .none kV doc pm an cdv ct) ⟨us,[]⟩=pure (ps.zip us)):qaJ K fd ps []:=by
  obtain ⟨oc,od,kV,doc,pm,an,cdv,ct,osl,rfl,lk,hcd⟩:=F.ex
  exact .all (h kV doc pm an cdv ct)
theorem qgt {x qual:Str}{st:Stmt}{f:Addr}{oc:Value}{od an:Option Addr}{osl:Array (Option Value)}{kV doc pm cdv ct:Value}(l:K.lookup f=some ⟨oc,od,.func (W.fnOf x qual (Jc st) (yW st) (qp st) .none kV doc pm an cdv ct),osl⟩)
    (c:W.codeIn K cdv qual=true) (k:W.keepIn K (.ref f)=true):Fun K x qual st f (W.fnOf x qual (Jc st) (yW st) (qp st) .none kV doc pm an cdv ct):=⟨⟨oc,od,kV,doc,pm,an,cdv,ct,osl,rfl,l,c⟩,k⟩
end
section
variable {X:Cx}
theorem pv (i:Nat) {x:Str}{pos:Pos}(hN:X.N[i]?=some x:=by rfl) (hv:Vis X.env.scope x:=by first | exact Or.inl rfl | exact Or.inr (Or.inl rfl) | exact Or.inr (Or.inr rfl)) (hd:(x == ("__debug__" : Str))=false:=by decide)
    (hcd:(x == ("__classdict__" : Str))=false:=by decide):PE X (.Name x pos) (tVar i):=qge hN hv hd hcd
end
theorem qah {A B:Prop}(h:B):if false=true then A else B:=by
  rw [if_neg Bool.false_ne_true]
  exact h
theorem qhL {A B:Prop}(h:A):if true=true then A else B:=by
  rw [if_pos rfl]
  exact h
theorem jv {c A B:Prop} [Decidable c] (h1:c->A) (h2:¬ c->B):if c then A else B:=by
  by_cases h:c
  · rw [if_pos h]
    exact h1 h
  · rw [if_neg h]
    exact h2 h
def ye (H H':Hp):Prop:=∀ b o,H b=some o->H' b=some o
theorem ye.refl (H:Hp):ye H H:=fun _ _ h=>h
theorem ye.trans {H H1 H2:Hp}(a:ye H H1) (b:ye H1 H2):ye H H2:=fun c o h=>b c o (a c o h)
theorem ye.free {H H':Hp}(e:ye H H') {l:Addr}(h:H' l=Option.none):H l=Option.none:=by
  cases q:H l with
  | none=>rfl
  | some o =>
    rw [e l o q] at h
    cases h
theorem ye.seq {K:W.Frag}{H H':Hp}{a:Addr}{xs:List V}(e:ye H H') (h:SqL K H a xs):SqL K H' a xs:=by
  rcases h with (h | ⟨o,h⟩) | h
  · exact .inl (.inl (e _ _ h))
  · exact .inl (.inr ⟨o,e _ _ h⟩)
  · exact .inr h
end L2
set_option maxHeartbeats 4000000
namespace L2
open PySem PySem.Spec PyProof.Rows
theorem yP {n:Nat}(h:n<=4000):n<sizeLine:=jf h (by decide)
def yq (X:Cx) (L:List Str) (scope:Scope) (cl:List (Str×Addr)) (C:Addr) (s₂:Shared) (H₂:Hp) (fp:List Addr):Cx where
 prog:=X.prog
 w:=X.w
 K:=X.K
 mg:=X.mg
 base:=X.base
 A:=X.A
 N:=X.N++L
 s₀:=s₂
 H₀:=H₂
 env:=compEnvC scope cl C X.env
 outer:=X.stack
 stack:=X.stack
 ex:=fp
 fn:=fun _=>false
 calm:=X.calm
 pn:=[]
 xe:=fun _ _=>False
def Jd (sc:Scope) (N L:List Str) (scope:Scope):Bool :=
 decide (scope.kind = .function) && scope.names.all (fun y=>decide (y.2≠.cell) && (decide (y.2≠.local) || (decide (scope.names.lookup y.1=some .local) && decide (y.1∉N))) &&
  (decide (y.2≠.free) || decide (sc.names.lookup y.1=some .cell) || decide (sc.names.lookup y.1=some .free))) && decide ((N++L).Nodup)
theorem jX {sc:Scope}{N L:List Str}{scope:Scope}(h:Jd sc N L scope=true):scope.kind = .function:=by
 simp only [Jd,Bool.and_eq_true,decide_eq_true_eq] at h
 exact h.1.1
theorem jG {sc:Scope}{N L:List Str}{scope:Scope}(h:Jd sc N L scope=true) {y:Str×NameKind}(hy:y∈scope.names) :
  y.2≠.cell/\(y.2 = .local->scope.names.lookup y.1=some .local/\y.1∉N)/\(y.2 = .free->sc.names.lookup y.1=some .cell\/sc.names.lookup y.1=some .free):=by
 simp only [Jd,Bool.and_eq_true,decide_eq_true_eq,List.all_eq_true,Bool.or_eq_true] at h
 have q:=h.1.2 y hy
 obtain ⟨⟨q1,q2⟩,q3⟩:=q
 refine ⟨q1,fun e=>?_,fun e=>?_⟩
 ·rcases q2 with q2 | q2
  ·exact absurd e q2
  ·exact q2
 ·rcases q3 with (q3 | q3) | q3
  ·exact absurd e q3
  ·exact .inl q3
  ·exact .inr q3
theorem Je {env:Env}:∀ (names:List (Str×NameKind)) (acc:List (Str×Addr)),(∀ y∈names,y.2 = .free->∃ c,env.cells.lookup y.1=some c) →
  (∀ x c,acc.lookup x=some c->env.cells.lookup x=some c) →
  ∃ cl,(forIn names acc (fun (x:Str×NameKind) (cs:List (Str×Addr))=>match x with
   | (name,kind)=>if (kind == NameKind.free)=true then do let a <- cellOf env name;pure (ForInStep.yield ((name,a)::cs)) else pure (ForInStep.yield cs)):Sem (List (Str×Addr)))=pure cl ∧
   (∀ x c,cl.lookup x=some c->env.cells.lookup x=some c)/\(∀ y∈names,y.2 = .free->∃ c,cl.lookup y.1=some c)/\(∀ x c,acc.lookup x=some c->∃ c',cl.lookup x=some c')
 | [],acc,_,ha=>⟨acc,rfl,ha,fun _ h=>(nomatch h),fun _ c e=>⟨c,e⟩⟩
 | (n,k)::r,acc,hf,ha=>by
  by_cases hk:k = .free
  ·subst hk
   obtain ⟨c,hc⟩:=hf (n,.free) qv rfl
   have ha':∀ x c',((n,c)::acc).lookup x=some c'->env.cells.lookup x=some c':=fun x c' e=>by
    by_cases hx:x=n
    ·subst hx
     simp [List.lookup_cons] at e
     rw [<- e];exact hc
    ·have:(x == n)=false:=by simpa using hx
     simp [List.lookup_cons,this] at e
     exact ha x c' e
   obtain ⟨cl,e1,e2,e3,e4⟩:=Je r ((n,c)::acc) (fun y hy=>hf y (qk _ hy)) ha'
   refine ⟨cl,?_,e2,fun y hy hfr=>?_,fun x c' e=>?_⟩
   ·rw [List.forIn_cons]
    show (if (NameKind.free == NameKind.free)=true then (do let a <- cellOf env n;pure (ForInStep.yield ((n,a)::acc))) else pure (ForInStep.yield acc)) >>= _=_
    rw [if_pos (by decide)]
    unfold cellOf
    rw [hc]
    simp only [pure_bind]
    exact e1
   ·rcases List.mem_cons.mp hy with rfl | hy
    ·exact e4 n c (by simp [List.lookup_cons])
    ·exact e3 y hy hfr
   ·by_cases hx:x=n
    ·subst hx
     exact e4 x c (by simp [List.lookup_cons])
    ·have:(x == n)=false:=by simpa using hx
     exact e4 x c' (by simp [List.lookup_cons,this];exact e)
  ·obtain ⟨cl,e1,e2,e3,e4⟩:=Je r acc (fun y hy=>hf y (qk _ hy)) ha
   refine ⟨cl,?_,e2,fun y hy hfr=>?_,e4⟩
   ·rw [List.forIn_cons]
    have hb:(k == NameKind.free)=false:=by simpa using hk
    show (if (k == NameKind.free)=true then (do let a <- cellOf env n;pure (ForInStep.yield ((n,a)::acc))) else pure (ForInStep.yield acc)) >>= _=_
    rw [hb,if_neg (by simp)]
    simp only [pure_bind]
    exact e1
   ·rcases List.mem_cons.mp hy with rfl | hy
    ·exact absurd hfr hk
    ·exact e3 y hy hfr
theorem YU {env:Env}{scope:Scope}(hf:∀ y∈scope.names,y.2 = .free->∃ c,env.cells.lookup y.1=some c) :
  ∃ cl,closureFor scope env=pure cl/\(∀ x c,cl.lookup x=some c->env.cells.lookup x=some c)/\(∀ y∈scope.names,y.2 = .free->∃ c,cl.lookup y.1=some c):=by
 obtain ⟨cl,e1,e2,e3,_⟩:=Je scope.names [] hf (fun x c e=>by simp at e)
 refine ⟨cl,?_,e2,e3⟩
 unfold closureFor
 simp only [bind_pure_comp,map_pure] at *
 first
  | exact e1
  | (rw [e1];rfl)
  | (simp only [bind_pure];exact e1)
theorem YL {names:List (Str×NameKind)}{x:Str}{k:NameKind}(h:names.lookup x=some k):(x,k)∈names:=PySem.mem_of_lookup h
theorem JV {env:Env}:∀ {names:List (Str×NameKind)}{x:Str}{k:NameKind},
  (names.map fun (n,k)=>if (k == NameKind.free && env.scope.kind == .function && env.kindOf n == some .cell) then (n,NameKind.cell) else (n,k)).lookup x=some k →
  ∃ k',names.lookup x=some k'/\(k=k'\/(k' = .free/\k = .cell))
 | [],_,_,h=>by simp at h
 | (n,k0)::r,x,k,h=>by
  cases hx:x == n with
  | true =>
   by_cases hc:(k0 == NameKind.free && env.scope.kind == .function && env.kindOf n == some .cell)=true
   ·simp only [List.map_cons,if_pos hc,List.lookup_cons,hx] at h
    have hk:k0 = .free:=by
     simp only [Bool.and_eq_true,beq_iff_eq] at hc
     exact hc.1.1
    exact ⟨k0,by simp [List.lookup_cons,hx],.inr ⟨hk,(Option.some.inj h).symm⟩⟩
   ·simp only [List.map_cons,if_neg hc,List.lookup_cons,hx] at h
    exact ⟨k0,by simp [List.lookup_cons,hx],.inl (Option.some.inj h).symm⟩
  | false =>
   have h':(r.map fun (n,k)=>if (k == NameKind.free && env.scope.kind == .function && env.kindOf n == some .cell) then (n,NameKind.cell) else (n,k)).lookup x=some k:=by
    by_cases hc:(k0 == NameKind.free && env.scope.kind == .function && env.kindOf n == some .cell)=true
    ·simp only [List.map_cons,if_pos hc,List.lookup_cons,hx] at h;exact h
    ·simp only [List.map_cons,if_neg hc,List.lookup_cons,hx] at h;exact h
   obtain ⟨k',e,q⟩:=JV h'
   exact ⟨k',by simp [List.lookup_cons,hx];exact e,q⟩
def Ifs (X:Cx) (ifs:List Expr) (tt:TT):Prop :=
 ∀ (pins:List (Addr×Obj)) (s:Shared) (σ:St) (H:Hp) (Q:Bool->Hp->Prop),Inv X pins σ H s->tt σ H Q →
  wpAny (model X.prog X.w) X.A (forIn ifs true fun c r=>if r=true then do let ok <- isTrue c X.env (eval c X.env);pure (ForInStep.yield ok) else pure (ForInStep.yield r)) (TP X pins σ Q) X.xe s
def tYes:TT:=fun _ H Q=>Q true H
theorem qhP {X:Cx}:Ifs X [] tYes:=fun pins s σ H Q I h=>wpAny_tests_nil ⟨H,I,h⟩
theorem qhO {X:Cx}{c:Expr}{t:TT}(h:PT X c t):Ifs X [c] t:=fun pins s σ H Q I q=>wpAny_tests_one (h pins s σ H Q I q)
def qfC (k:Nat) (g:TG) (tt:TT) (te:TE) (σ:St) (Q:VK) (J:It) (H1:Hp):Prop:=∃ W:Nat->Nat->List V->St->Hp->Prop,(∃ m,W 0 m [] (σ++List.replicate k none) H1)/\∀ i m ys σ' H,W i m ys σ' H →
 (J.stop i H/\∀ D,H D=none->Q (.ref D) (upd H D (.lst ys))) ∨
 (J.go i H/\ys.length<sizeLine/\∃ N:List V->St->Hp->Prop,(∀ ys' σ' H',N ys' σ' H'->∃ m',m'<m/\W (i+1) m' ys' σ' H') ∧
  ∀ x H',J.yld i H x H'->g x σ' H' fun σ2 H2=>tt σ2 H2 fun b H3=>if b=true then te σ2 H3 fun y H4=>N (ys++[y]) σ2 H4 else N ys σ2 H3)
def qgR (k:Nat) (wi:TI) (g:TG) (tt:TT) (te:TE):TE:=fun σ H Q=>wi σ H (qfC k g tt te σ Q)
section
variable {prog:Program}{w:World}{A:Around}{R:Result->Shared->Prop}{s:Shared}
theorem Jh {elt target iter:Expr}{ifs:List Expr}{scope:Scope}{pos:Pos}{it acc:Value}{env:Env}(I:Nat->Shared->Prop)
  (turn:∀ n s,I n s->wpAny (model prog w) A (pyNext it) (fun r s₁=>match r with
   | none=>R (.ok .next) s₁
   | some v=>wpAny (model prog w) A (letOwnedTupleGo target it v) (fun _ s₁'=>wpAny (model prog w) A (assign target env v) (fun _ s₂ =>
     wpAny (model prog w) A (forIn ifs true fun c r=>if r=true then do let ok <- isTrue c env (eval c env);pure (ForInStep.yield ok) else pure (ForInStep.yield r)) (fun ok s₃ =>
      if ok=true then wpAny (model prog w) A (eval elt env) (fun x s₄ =>
       wpAny (model prog w) A (call (.builtin "list.append") [acc,x]) (fun _ s₅=>∃ m,m<n/\I m s₅) (fun _ _=>False) s₄) (fun _ _=>False) s₃
      else ∃ m,m<n/\I m s₃) (fun _ _=>False) s₂) (fun _ _=>False) s₁') (fun _ _=>False) s₁) (fun _ _=>False) s)
  (n:Nat) (h:I n s) :
  codeAny (model prog w) A (.compLoop (.ListComp elt [⟨target,iter,ifs,0⟩] scope pos) 0 it acc env) R s:=by
 refine codeAny_loop rfl I (fun n s hI=>?_) n h
 show wpAny _ A ((compTurn (.ListComp elt [⟨target,iter,ifs,0⟩] scope pos) 0 it acc env).onRaise (fun x=>do noteFrame x env;theTreesLotGoes x)) _ _ s
 refine wpAny_noted ?_
 rw [compTurn_list]
 refine qb (wpAny_standAt (qb (yJ (turn n s hI) (fun r s₁ h₁=>?_) fun _ _ h'=>h'.elim)))
 cases r with
 | none=>exact qe h₁
 | some v =>
  refine qb (yJ h₁ (fun _ s₁' h₁'=>?_) fun _ _ h'=>h'.elim)
  refine qb (yJ h₁' (fun _ s₂ h₂=>qb (yJ h₂ (fun ok s₃ h₃=>?_) fun _ _ h'=>h'.elim)) fun _ _ h'=>h'.elim)
  cases ok with
  | false=>exact qe ⟨rfl,h₃⟩
  | true =>
   exact qb (qb (yJ h₃ (fun x s₄ h₄=>qb (yJ h₄ (fun _ s₅ h₅=>qe (qe ⟨rfl,h₅⟩)) fun _ _ h'=>h'.elim)) fun _ _ h'=>h'.elim))
end
section
variable {X:Cx}
theorem qic {pins:List (Addr×Obj)}{σ:St}{H:Hp}{s₂:Shared}{L:List Str}{scope:Scope}{cl:List (Str×Addr)}{C:Addr}{fp:List Addr}{sc:Scope}{N:List Str}
  (I:Inv X pins σ H s₂) (hsc:X.env.scope=sc) (hN:X.N=N) (ok:Jd sc N L scope=true) (hc1:∀ x c,cl.lookup x=some c->X.env.cells.lookup x=some c)
  (hc2:∀ y∈scope.names,y.2 = .free->∃ c,cl.lookup y.1=some c) (hf:∀ b∈fp,qel X pins H b) (hlt:∀ b∈fp,b<s₂.heap.objs.size) (hC:s₂.heap.objs.size<=C) :
  (yq X L scope cl C s₂ H fp).Ok where
 mod:=I.ok.mod
 kind:=(show scope.kind = .function from jX ok)
 glob:=I.ok.glob
 blt:=I.ok.blt
 above:=hC
 inj:=fun x y c h1 h2=>I.ok.inj x y c (hc1 x c h1) (hc1 y c h2)
 has:=fun x hx=>by
  have hx':∃ k,(relabel scope X.env).names.lookup x=some k/\(k = .cell\/k = .free):=by
   rcases hx with h | h
   ·exact ⟨_,h,.inl rfl⟩
   ·exact ⟨_,h,.inr rfl⟩
  obtain ⟨k,e,hk⟩:=hx'
  obtain ⟨k',e',q⟩:=JV e
  have hm:=YL e'
  have nc:=(jG ok hm).1
  have hfree:k' = .free:=by
   rcases q with q | q
   ·rcases hk with hk | hk
    ·exact absurd (q.symm.trans hk) nc
    ·exact q.symm.trans hk
   ·exact q.1
  exact hc2 (x,k') hm hfree
 cab:=fun x c h _=>by cases h
 hd:=I.ok.hd
 frames:=I.ok.frames
 stk:=.inl rfl
 exf:=fun b hb=>⟨qx (qH (hlt b hb) hC),fun x c e=>(hf b hb).2.2.2.2.1 x c (hc1 x c e)⟩
 bs:=I.bs
 bsz:=qR I.ok.bsz I.sz
 noex:=fun b o e hb=>by
  rcases (hf b hb).2.2.2.1 with z | z
  ·exact I.ok.noex b o e z
  ·exact absurd (qH (qg (I.ok.bs b o e).1) z) (yQ _)
 exfs:=fun b hb z=>by
  rcases List.mem_cons.mp (I.stkSub b z) with q | q
  ·exact (hf b hb).2.1 q
  ·exact (hf b hb).2.2.1 q
 funs:=I.stack
 frf:=I.stkFree
theorem qbO {pins:List (Addr×Obj)}{σ:St}{H:Hp}{s₂ s₄:Shared}{L:List Str}{scope:Scope}{cl:List (Str×Addr)}{C:Addr}{fp:List Addr}{sc:Scope}{N:List Str}{m:Str->Option Value}
  (I:Inv X pins σ H s₂) (hsc:X.env.scope=sc) (hN:X.N=N) (ok:Jd sc N L scope=true) (hc1:∀ x c,cl.lookup x=some c->X.env.cells.lookup x=some c)
  (Y:(yq X L scope cl C s₂ H fp).Ok) (hC:s₂.heap.objs.size<=C) (hos:s₄.os=s₂.os) (hg:AllBare s₄.gens)
  (old:∀ b o,s₂.heap.get? b=some o->s₄.heap.get? b=some o) (hns:s₄.heap.Ns C m):Inv (yq X L scope cl C s₂ H fp) [] (σ++List.replicate L.length none) H s₄ where
 ok:=Y
 os:=hos
 bare:=hg
 base:=Un.kept old
 loc:=by
  refine ⟨m,hns,fun i x v e1 e2 e3=>?_⟩
  have hl:σ.length=X.N.length:=I.len
  have hi:i<σ.length:=by
   by_cases h:i<σ.length
   ·exact h
   ·rw [qS (by omega),List.getElem?_replicate] at e2
    split at e2 <;> cases e2
  rw [qT hi] at e2
  have e1':X.N[i]?=some x:=by
   have:(X.N++L)[i]?=some x:=e1
   rwa [qT (by omega)] at this
  have e3':∃ k,(relabel scope X.env).names.lookup x=some k/\(k = .local\/k = .cell\/k = .free):=by
   rcases e3 with h | h | h
   ·exact ⟨_,h,.inl rfl⟩
   ·exact ⟨_,h,.inr (.inl rfl)⟩
   ·exact ⟨_,h,.inr (.inr rfl)⟩
  obtain ⟨k,ek,hk⟩:=e3'
  obtain ⟨k',e',q⟩:=JV ek
  have hm:=YL e'
  obtain ⟨nc,nl,fr⟩:=jG ok hm
  have hk':k' = .free:=by
   rcases q with q | q
   ·rcases hk with hk | hk | hk
    ·have hl':k' = .local:=q.symm.trans hk
     exact absurd (hN ▸ List.mem_of_getElem? e1') (nl hl').2
    ·exact absurd (q.symm.trans hk) nc
    ·exact q.symm.trans hk
   ·exact q.1
  have hX:X.env.kindOf x=some .cell\/X.env.kindOf x=some .free:=by
   have:=fr hk'
   rw [<- hsc] at this
   exact this
  obtain ⟨m₀,hn₀,hl₀⟩:=I.loc
  obtain ⟨u,r,look⟩:=hl₀ i x v e1' e2 (.inr hX)
  refine ⟨u,r,.inr ⟨?_,?_⟩⟩
  ·show (relabel scope X.env).names.lookup x=some .cell\/(relabel scope X.env).names.lookup x=some .free
   rcases hk with hk | hk | hk
   ·exfalso
    rcases q with q | q
    ·rw [hk] at q;rw [hk'] at q;cases q
    ·rw [hk] at q;exact nomatch q.2
   ·exact .inl (hk ▸ ek)
   ·exact .inr (hk ▸ ek)
  ·rcases look with ⟨z,_⟩ | ⟨_,c,ec,hcell⟩
   ·exfalso
    rcases hX with h | h <;> rw [h] at z <;> cases z
   ·obtain ⟨c',ec'⟩:=Y.has x (by
     rcases hk with hk | hk | hk
     ·exfalso
      rcases q with q | q
      ·rw [hk] at q;rw [hk'] at q;cases q
      ·rw [hk] at q;exact nomatch q.2
     ·exact .inl (hk ▸ ek)
     ·exact .inr (hk ▸ ek))
    have hcl:cl.lookup x=some c':=ec'
    have:c'=c:=Option.some.inj ((hc1 x c' hcl).symm.trans ec)
    subst this
    refine ⟨c',hcl,?_⟩
    obtain ⟨o,ho,hd⟩:=hcell
    exact ⟨o,old _ _ ho,hd⟩
 cell:=fun x c e=>by
  obtain ⟨v,o,ho,hd⟩:=I.cell x c (hc1 x c e)
  exact ⟨v,o,old _ _ ho,hd⟩
 free:=I.hok.fresh hC
 freeC:=fun x c e=>I.freeC x c (hc1 x c e)
 pin:=fun p hp=>absurd (show p∈([]:List (Addr×Obj)) from hp) (by simp)
 hok:=I.hok.kept old
 len:=by
  show _=(X.N++L).length
  have hl:σ.length=X.N.length:=I.len
  simp [hl]
theorem qdT {pins:List (Addr×Obj)}{σ σ':St}{H H':Hp}{s₂ s':Shared}{L:List Str}{scope:Scope}{cl:List (Str×Addr)}{fp:List Addr}{its:List Value}{ys:List V}{D C:Addr}{n:Nat}{pl:List (Addr×Obj)}
  (I:Inv X pins σ H s₂) (hf:∀ b∈fp,qel X pins H b) (hD:s₂.heap.objs.size=D)
  (J:Inv (yq X L scope cl C s₂ H fp) pl σ' H' s') (hpD:s'.heap.get? D=some { cls:=.type "list",data:=.seq its.toArray n }) (hHD:H' D=none) (hv:yo ys its) (hz:ys.length<=sizeLine) :
  Inv X pins σ (upd H' D (.lst ys)) s':=by
 have B:Un (frs X.stack) fp H H' s₂.heap s'.heap:=J.base
 have neD:∀ b o,s₂.heap.get? b=some o->b≠D:=fun b o e=>by rw [<- hD];exact qx (qg e)
 refine I.call' (ch:=fp) J.os ⟨B.keep,B.slot,fun b o e hn hx=>?_,B.there,fun b xs e=>?_,fun b o u e=>?_,fun b ps e=>?_⟩ (fun b o e=>?_) J.bare (fun b hb=>⟨(hf b hb).2.2.2.1,(hf b hb).2.1,(hf b hb).2.2.2.2.1,(hf b hb).2.2.2.2.2⟩)
 ·rw [yb (neD b o e)];exact B.free b o e hn hx
 ·have:=B.tups b xs e
  rw [yb (qY this hHD)];exact this
 ·have:=B.frzs b o u e
  rw [yb (qY this hHD)];exact this
 ·obtain ⟨more,this⟩:=B.tbls b ps e
  exact ⟨more,by rw [yb (qY this hHD)];exact this⟩
 ·by_cases hb:b=D
  ·subst hb
   rw [yd] at e
   cases e
   exact ⟨hz,its,n,hv,hpD⟩
  ·rw [yb hb] at e
   exact (J.hok b o e).stay (fun _ _ _ q=>q) (fun c q=>by rw [yb (qY q hHD)];exact q) fun c xs q=>by rw [yb (qY q hHD)];exact q
theorem YT {pins:List (Addr×Obj)}{σ:St}{H:Hp}{s₂:Shared}{L:List Str}{scope:Scope}{cl:List (Str×Addr)}{fp:List Addr}{sc:Scope}{N:List Str}{tg elt iter:Expr}{ifs:List Expr}{pos:Pos}
  {g:TG}{tt:TT}{te:TE}{Q:VK}{J:It}{it:Addr}{tn:Nat->Heap->Prop}{RR:Value->Addr->Result->Shared->Prop}{E:Value->Shared->Prop}
  (hc:X.calm=true) (hsc:X.env.scope=sc) (hN:X.N=N) (ok:Jd sc N L scope=true) (hc1:∀ x c,cl.lookup x=some c->X.env.cells.lookup x=some c)
  (hc2:∀ y∈scope.names,y.2 = .free->∃ c,cl.lookup y.1=some c)
  (hg:∀ cl C s₂ H₂ fp,PG (yq X L scope cl C s₂ H₂ fp) tg g) (hi:∀ cl C s₂ H₂ fp,Ifs (yq X L scope cl C s₂ H₂ fp) ifs tt) (he:∀ cl C s₂ H₂ fp,PE (yq X L scope cl C s₂ H₂ fp) elt te)
  (I:Inv X pins σ H s₂) (T:Turn X.prog X.w X.K tg J fp it tn) (st:tn 0 s₂.heap) (hf:∀ b∈fp,qel X pins H b) (hw:qfC L.length g tt te σ Q J H)
  (hR:∀ D C m H' s' ys,s'.heap.Ns C m->s₂.heap.objs.size=D->s₂.heap.objs.size<C->H' C=none->D≠C->Inv X pins σ (upd H' D (.lst ys)) s'->Q (.ref D) (upd H' D (.lst ys))->RR (.ref D) C (.ok .next) s') :
  wpAny (model X.prog X.w) X.A (newList []) (fun acc s₃=>wpAny (model X.prog X.w) X.A (newFunctionEnv scope X.env.globals cl [] X.env.qual none .none (some X.env)) (fun cenv s₄ =>
   codeAny (model X.prog X.w) X.A (.compStart (.ListComp elt [⟨tg,iter,ifs,0⟩] scope pos) 0 (.ref it) acc { cenv with scope:=relabel scope X.env }) (RR acc cenv.locals) s₄) E s₃) E s₂:=by
 refine wpAny_newObj_type (wpAny_newFunctionEnv (fun y hy=>(jG ok hy).1) (by intro y hy;simp at hy) (fun h₁ hns₁ hsb₁=>?_) (jX ok))
 dsimp only at hns₁ hsb₁ ⊢
 generalize hH2:s₂.heap.push { cls:=.type "list",dict:=none,data:=.seq ([]:List Value).toArray }=H2 at hns₁ hsb₁ ⊢
 have hC:H2.objs.size=s₂.heap.objs.size+1:=by rw [<- hH2,Heap.size_push]
 have hCle:s₂.heap.objs.size<=H2.objs.size:=by rw [hC];exact Nat.le_succ _
 have hDC:s₂.heap.objs.size≠H2.objs.size:=by rw [hC];exact qx (Nat.lt_succ_self _)
 have hlt:∀ b∈fp,b<s₂.heap.objs.size:=fun b hb=>by
  obtain ⟨o,e,_⟩:=T.obj 0 _ st b hb
  exact qg e
 have below:∀ b,b<s₂.heap.objs.size->b≠H2.objs.size:=fun b hb=>by rw [hC];exact qx (Nat.lt_succ_of_lt hb)
 have old:∀ b o,s₂.heap.get? b=some o->h₁.get? b=some o:=fun b o e=>hsb₁.extBut b o (below b (qg e)) (qc _ (hH2 ▸ qc _ e))
 have hacc:h₁.get? s₂.heap.objs.size=some { cls:=.type "list",data:=.seq ([]:List Value).toArray 0 }:=hsb₁.extBut _ _ hDC (qc _ (hH2 ▸ qz _ rfl))
 have Yok:=qic (L:=L) (scope:=scope) (cl:=cl) (C:=H2.objs.size) (fp:=fp) I hsc hN ok hc1 hc2 hf hlt hCle
 generalize hDn:s₂.heap.objs.size=D at *
 generalize hCn:H2.objs.size=C at *
 have st₁:tn 0 h₁:=T.keep _ _ _ st fun b _ o e=>old b o e
 -- the block's own iterators
 have cellD:∀ x c,cl.lookup x=some c->c≠D:=fun x c e=>by
  obtain ⟨v,q⟩:=I.cell x c (hc1 x c e)
  rw [<- hDn]
  exact qx q.lt
 have fpY:∀ {H':Hp}{its:List Value}{n:Nat},(∀ b∈fp,H' b=none)->∀ b∈fp,qel (yq X L scope cl C s₂ H fp) [(D,{ cls:=.type "list",data:=.seq its.toArray n })] H' b:=fun {H' its n} hn b hb=>by
  refine ⟨hn b hb,(Yok.exf b hb).1,Yok.exfs b hb,.inl hb,(Yok.exf b hb).2,fun p hp=>?_⟩
  have e:p=(D,{ cls:=.type "list",data:=.seq its.toArray n }):=by
   have:p∈[(D,({ cls:=.type "list",data:=.seq its.toArray n }:Obj))]:=hp
   simpa using this
  subst e
  exact Ne.symm (qx (hlt b hb))
 have nfsD:D∉(yq X L scope cl C s₂ H fp).fs:=fun z=>by
  obtain ⟨_,o,ho,_⟩:=Yok.funs.mem z
  exact absurd (show D<s₂.heap.objs.size from qg ho) (by rw [hDn];exact yQ _)
 have pinD:∀ {σ':St}{H':Hp}{s':Shared}{pl:List (Addr×Obj)}{its:List Value}{n:Nat},Inv (yq X L scope cl C s₂ H fp) pl σ' H' s'->s'.heap.get? D=some { cls:=.type "list",data:=.seq its.toArray n }->H' D=none →
   Inv (yq X L scope cl C s₂ H fp) [(D,{ cls:=.type "list",data:=.seq its.toArray n })] σ' H' s':=fun {σ' H' s' pl its n} J e hn=>J.pins_of fun p hp=>by
  have e':p=(D,{ cls:=.type "list",data:=.seq its.toArray n }):=by simpa using hp
  subst e'
  exact ⟨e,hn,hDC,nfsD,fun v z=>by cases z⟩
 have I₁:Inv (yq X L scope cl C s₂ H fp) [] (σ++List.replicate L.length none) H { s₂ with heap:=h₁,toks:=s₂.toks+([]:List (Str×Value)).length } :=
  qbO I hsc hN ok hc1 Yok (by rw [hDn];exact hCle) rfl I.bare old hns₁
 have HD:H D=none:=I.hok.fresh (by rw [hDn];exact qi _)
 obtain ⟨W,⟨m0,w0⟩,turn⟩:=hw
 have loop:codeAny (model X.prog X.w) X.A (.compLoop (.ListComp elt [⟨tg,iter,ifs,0⟩] scope pos) 0 (.ref it) (.ref D) (compEnvC scope cl C X.env)) (RR (.ref D) C)
   { s₂ with heap:=h₁,toks:=s₂.toks+([]:List (Str×Value)).length }:=by
  refine Jh (fun n s'=>∃ i ys its k σ' H',Inv (yq X L scope cl C s₂ H fp) [(D,{ cls:=.type "list",data:=.seq its.toArray k })] σ' H' s'/\yo ys its/\ys.length<=sizeLine/\tn i s'.heap/\(∀ b∈fp,H' b=none)/\W i n ys σ' H')
   ?_ m0 ⟨0,[],[],0,_,H,pinD I₁ hacc HD,.nil,ya _,st₁,fun b hb=>(hf b hb).1,w0⟩
  rintro n s3 ⟨i,ys,its,k,σ3,H3,I3,hv3,hz3,st3,fr3,w3⟩
  have hp3:=I3.pin (D,{ cls:=.type "list",data:=.seq its.toArray k }) (by simp)
  rcases turn i n ys σ3 H3 w3 with ⟨stop,q⟩ | ⟨go,hlen,Nx,hNx,step⟩
  ·refine thn (T.done (yq X L scope cl C s₂ H fp) rfl rfl rfl hc i _ s3 σ3 H3 _ I3 (fpY fr3) st3 stop) fun r s4 ⟨hr,I4⟩=>?_
   subst hr
   have hp4:=I4.pin (D,{ cls:=.type "list",data:=.seq its.toArray k }) (by simp)
   obtain ⟨m4,hn4,_⟩:=I4.loc
   exact hR D C m4 H3 s4 ys hn4 rfl (by rw [hC];exact Nat.lt_succ_self _) I4.free hDC (qdT I hf hDn I4 hp4.1 hp4.2.1 hv3 hz3) (q D hp4.2.1)
  ·refine thn (T.item (yq X L scope cl C s₂ H fp) rfl rfl rfl hc i _ s3 σ3 H3 _ I3 (fpY fr3) st3 go) fun r s4 ⟨u,hr,h4⟩=>?_
   subst hr
   refine thn h4 fun _ s5 hq9=>?_
   obtain ⟨x,H5,I5,r5,y5,st5,fr5⟩:=hq9
   have I5':=I5.pinned (fpY fr5) (T.obj _ _ st5)
   refine thn (hg cl C s₂ H fp _ s5 σ3 H5 x u _ I5' r5 (step x H5 y5)) fun _ s6 hq9=>?_
   obtain ⟨σ6,H6,I6,q6⟩:=hq9
   refine thn (hi cl C s₂ H fp _ s6 σ6 H6 _ I6 q6) fun ok s7 hq9=>?_
   obtain ⟨H7,I7,q7⟩:=hq9
   have later:∀ {σ':St}{H':Hp}{s':Shared},Inv (yq X L scope cl C s₂ H fp) ([(D,{ cls:=.type "list",data:=.seq its.toArray k })]++ZE fp s5.heap) σ' H' s' →
     tn (i+1) s'.heap/\(∀ b∈fp,H' b=none)/\s'.heap.get? D=some { cls:=.type "list",data:=.seq its.toArray k }/\H' D=none:=fun {σ' H' s'} J=>by
    refine ⟨T.keep _ _ _ st5 fun b hb o e=>(J.pin (b,o) (qF _ (qF _ (Jg hb e)))).1,fun b hb=>?_,?_⟩
    ·obtain ⟨o,e,d⟩:=T.obj _ _ st5 b hb
     exact (J.pin (b,o) (qF _ (qF _ (Jg hb e)))).2.1
    ·have z:=J.pin (D,{ cls:=.type "list",data:=.seq its.toArray k }) (qF _ (yv _ (by simp)))
     exact ⟨z.1,z.2.1⟩
   cases ok with
   | false =>
    rw [if_neg (by simp)] at q7 ⊢
    obtain ⟨m',hm',w'⟩:=hNx _ _ _ q7
    obtain ⟨t1,t2,t3,t4⟩:=later I7
    exact ⟨m',hm',i+1,ys,its,k,σ6,H7,pinD I7 t3 t4,hv3,hz3,t1,t2,w'⟩
   | true =>
    rw [if_pos rfl] at q7 ⊢
    refine thn (he cl C s₂ H fp _ s7 σ6 H7 _ I7 q7) fun y s8 hq9=>?_
    obtain ⟨v,H8,I8,r8,q8⟩:=hq9
    obtain ⟨m',hm',w'⟩:=hNx _ _ _ q8
    obtain ⟨t1,t2,t3,t4⟩:=later I8
    refine append_at (hsz:=by rw [List.size_toArray,<- hv3.length];exact hz3) t3 fun h9 hs9 hD9=>?_
    have nbD:∀ b∈fp,b≠D:=fun b hb=>qx (hlt b hb)
    have I9:Inv (yq X L scope cl C s₂ H fp) [] σ6 H8 { s8 with heap:=h9 }:=(I8.pins_of (pins':=[]) (fun p hp=>by simp at hp)).turned (it:=D) (t':=s8.toks) (fun b o hb e=>hs9.extBut b o hb e) t4 hDC
     (.inr (by show s₂.heap.objs.size<=D;rw [hDn];exact qi _)) cellD (fun p hp=>by
      have:p∈([]:List (Addr×Obj)):=hp
      simp at this)
    refine ⟨m',hm',i+1,ys++[v],its++[y],k+1,σ6,H8,pinD I9 (by rw [hD9];simp) t4,hv3.append (.cons r8 .nil),by simp;omega,T.keep _ _ _ t1 fun b hb o e=>hs9.extBut b o (nbD b hb) e,t2,w'⟩
 exact codeAny_compStart_list loop (T.self _ 0 _ _ _ st₁ loop)
end
section
variable {X:Cx}
theorem qhl {L:List Str}{scope sc:Scope}{N:List Str}{tg elt iter:Expr}{ifs:List Expr}{pos:Pos}{wi:TI}{g:TG}{tt:TT}{te:TE}
  (hc:X.calm=true) (hsc:X.env.scope=sc) (hN:X.N=N) (ok:Jd sc N L scope=true)
  (hi:PI X tg iter wi) (hg:∀ cl C s₂ H₂ fp,PG (yq X L scope cl C s₂ H₂ fp) tg g) (hf:∀ cl C s₂ H₂ fp,Ifs (yq X L scope cl C s₂ H₂ fp) ifs tt) (he:∀ cl C s₂ H₂ fp,PE (yq X L scope cl C s₂ H₂ fp) elt te)
  (hs:∀ x,foldedSetIterable iter X.env x=pure x:=by intro _;rfl) :
  PE X (.ListComp elt [⟨tg,iter,ifs,0⟩] scope pos) (qgR L.length wi g tt te):=by
 intro pins s σ H Q I h
 obtain ⟨cl,hcl,hc1,hc2⟩:=YU (env:=X.env) (scope:=scope) fun y hy hfr=>by
  refine I.ok.has y.1 ?_
  have z:=(jG ok hy).2.2 hfr
  rw [<- hsc] at z
  exact z
 rw [eval_ListComp]
 refine wpAny_comprehension_free (use:=none) rfl hs hcl (jX ok) (fun y hy hl=>((jG ok hy).2.1 hl).1) (thn (hi pins s σ H _ I h) fun v s1 h1=>thn h1 fun itv s2 h2=>?_)
 obtain ⟨it,fp,tn,J,H2,e,I2,T,st2,f2,hw⟩:=h2
 subst e
 refine YT (RR:=fun acc C=>compPost (model X.prog X.w) X.A X.xe none (EP X pins σ Q) acc C) hc hsc hN ok hc1 hc2 hg hf he I2 T st2 f2 hw ?_
 intro D C m H' s' ys hns hD hC hHC hDC J' q
 refine ⟨m,hns,fun h'' hs''=>⟨.ref D,upd H' D (.lst ys),?_,rfl,q⟩⟩
 have hsz:=I2.sz
 refine J'.turned (it:=C) (t':=s'.toks) (fun b o hb e=>hs''.extBut b o hb e) (by rw [yb (Ne.symm hDC)];exact hHC) (Ne.symm (qx (Nat.lt_trans I2.lt hC))) (.inr (qR hsz (yx hC))) (fun x c e=>?_) (fun p hp=>?_)
 ·obtain ⟨v,z⟩:=I2.cell x c e
  exact qx (Nat.lt_trans z.lt hC)
 ·exact qx (Nat.lt_trans (qg (I2.pin p hp).1) hC)
theorem qhb {i:Nat}{x:Str}{pos' spos:Pos}{L:List Str}{scope sc:Scope}{N:List Str}{tg elt iter:Expr}{ifs:List Expr}{pos:Pos}{wi:TI}{g:TG}{tt:TT}{te:TE}
  (hNd:X.N.Nodup) (hxi:X.N[i]?=some x) (hx:Loc X.env.scope x)
  (hc:X.calm=true) (hsc:X.env.scope=sc) (hN:X.N=N) (ok:Jd sc N L scope=true)
  (hi:PI X tg iter wi) (hg:∀ cl C s₂ H₂ fp,PG (yq X L scope cl C s₂ H₂ fp) tg g) (hf:∀ cl C s₂ H₂ fp,Ifs (yq X L scope cl C s₂ H₂ fp) ifs tt) (he:∀ cl C s₂ H₂ fp,PE (yq X L scope cl C s₂ H₂ fp) elt te)
  (hsw:swapsWith (.ListComp elt [⟨tg,iter,ifs,0⟩] scope pos) (some (.Name x pos')) spos.line X.env=pure true:=by rfl)
  (hs:∀ x,foldedSetIterable iter X.env x=pure x:=by intro _;rfl)
  (hfn:X.fn x=true\/X.env.scope.names.lookup x=some .local:=by first | exact .inl rfl | exact .inr rfl | assumption) :
  PS X (.Assign [.Name x pos'] (.ListComp elt [⟨tg,iter,ifs,0⟩] scope pos) spos) (tAsg (qgR L.length wi g tt te) (qe8 i)):=by
 intro pins s σ H D I h
 obtain ⟨cl,hcl,hc1,hc2⟩:=YU (env:=X.env) (scope:=scope) fun y hy hfr=>by
  refine I.ok.has y.1 ?_
  have z:=(jG ok hy).2.2 hfr
  rw [<- hsc] at z
  exact z
 rw [exec_Assign_Name_used _ _ _ _ hsw]
 refine qb (wpAny_standAt (qb ?_))
 show wpAny _ X.A (do let _ <- comprehension (.ListComp elt [⟨tg,iter,ifs,0⟩] scope pos) scope X.env _ (newList []) false (eval iter X.env) (some (assign (.Name x pos') X.env))) _ _ s
 refine qb (yJ (wpAny_comprehension_free (use:=some (assign (.Name x pos') X.env)) (Q:=fun _ s'=>SP X pins D .next s') rfl hs hcl (jX ok) (fun y hy hl=>((jG ok hy).2.1 hl).1)
  (thn (hi pins s σ H _ I h) fun v s1 h1=>thn h1 fun itv s2 h2=>?_)) (fun _ s' hq=>qe (qe hq)) fun _ _ e=>e)
 obtain ⟨it,fp,tn,J,H2,e,I2,T,st2,f2,hw⟩:=h2
 subst e
 refine YT (RR:=fun acc C=>compPost (model X.prog X.w) X.A X.xe (some (assign (.Name x pos') X.env)) (fun _ s'=>SP X pins D .next s') acc C) hc hsc hN ok hc1 hc2 hg hf he I2 T st2 f2 hw ?_
 intro D' C m H' s' ys hns hD hC hHC hDC J' q
 have hsz:=I2.sz
 have neL:C≠X.env.locals:=Ne.symm (qx (Nat.lt_trans I2.lt hC))
 have neC:∀ x c,X.env.cells.lookup x=some c->c≠C:=fun x c e=>by
  obtain ⟨v,z⟩:=I2.cell x c e
  exact qx (Nat.lt_trans z.lt hC)
 show wpAny _ X.A (assign (.Name x pos') X.env (.ref D')) _ _ s'
 refine wpAny_assign_Name (Zw J' hNd hxi hx (v:=.ref D') rfl (fun s'' J'' ⟨a,hsb,ha⟩=>?_) hfn)
 have haC:C≠a:=by
  rcases ha with ha | ha
  ·rw [ha];exact neL
  ·exact Ne.symm (neC x a ha)
 refine ⟨m,hns.sameBut hsb haC,fun h'' hs''=>⟨_,upd H' D' (.lst ys),?_,q⟩⟩
 refine J''.turned (it:=C) (t':=s''.toks) (fun b o hb e=>hs''.extBut b o hb e) (by rw [yb (Ne.symm hDC)];exact hHC) neL (.inr (qR hsz (yx hC))) neC (fun p hp=>?_)
 exact qx (Nat.lt_trans (qg (I2.pin p hp).1) hC)
end
section
variable {X:Cx}
def Big (i:Int):Prop:=i.natAbs<2 ^ 1000
theorem Big.of {i:Int}(b:Int) (hb:b<2 ^ 1000) (h1:-b<=i) (h2:i<=b):Big i:=by
 unfold Big
 have:(i.natAbs:Int)<=b:=by omega
 have h3:(i.natAbs:Int)<2 ^ 1000:=Int.lt_of_le_of_lt this hb
 exact_mod_cast h3
theorem Big.bits {i:Int}(h:Big i):Builtin.Int.intBits i<=2 ^ 20:=by
 unfold Builtin.Int.intBits
 by_cases h0:i.natAbs=0
 ·have:i=0:=by omega
  subst this
  decide
 ·have:=(Nat.log2_lt h0).mpr h
  split <;> omega
def qir (i j:Int):Prop:=Big i/\Big j
theorem qav:OpR X (binaryOp .Mult) (rI qir fun i j=>.int (i * j)):=opI fun _ _ _ _ _ _ _ hc q=>mul_int q (IntMulOk.of_bits hc.1.bits hc.2.bits)
def CDivB (i j:Int):Prop:=j≠0/\Big j
theorem qa8:OpR X (binaryOp .FloorDiv) (rI CDivB fun i j=>.int (i.fdiv j)):=opI fun i j _ _ _ _ _ hc q=>floordiv_int hc.1 q (.inl (PyProof.noPylong_of_log2 (by
 by_cases h0:j.natAbs=0
 ·rw [h0];decide
 ·have:=(Nat.log2_lt h0).mpr hc.2
  omega)))
end
mutual
inductive Is (K:W.Frag) (H:Hp):V->PyData->Prop
 | non:Is K H .non .none
 | bl (b:Bool):Is K H (.bl b) (.bool b)
 | int (i:Int):Is K H (.int i) (.int i)
 | str (x:Str):Is K H (.str x) (.str x)
 | lst {a:Addr}{xs:List V}{ds:List PyData}:SqL K H a xs->IsAll K H xs ds->Is K H (.ref a) (.list ds)
 | tup {a:Addr}{xs:List V}{ds:List PyData}:SqT K H a xs->IsAll K H xs ds->Is K H (.ref a) (.tuple ds)
 | dc {a:Addr}:H a=some (.dK [])->Is K H (.ref a) (.dict [])
inductive IsAll (K:W.Frag) (H:Hp):List V->List PyData->Prop
 | nil:IsAll K H [] []
 | cons {x:V}{xs:List V}{d:PyData}{ds:List PyData}:Is K H x d->IsAll K H xs ds->IsAll K H (x::xs) (d::ds)
end
theorem IsAll.ints {K:W.Frag}{H:Hp}:∀ ns:List Int,IsAll K H (ns.map V.int) (ns.map PyData.int)
 | []=>.nil
 | n::ns=>.cons (.int n) (IsAll.ints ns)
theorem IsAll.bools {K:W.Frag}{H:Hp}:∀ ns:List Bool,IsAll K H (ns.map V.bl) (ns.map PyData.bool)
 | []=>.nil
 | n::ns=>.cons (.bl n) (IsAll.bools ns)
section
variable {X:Cx}{pins:List (Addr×Obj)}{σ:St}{H:Hp}{s:Shared}
mutual
theorem Is.reads (I:Inv X pins σ H s):∀ {x:V}{d:PyData}{u:Value},Is X.K H x d->jI x u->∃ as,Reads s.heap u d as
 | _,_,_,.non,r=>by cases r;exact ⟨_,.none⟩
 | _,_,_,.bl b,r=>by cases r;exact ⟨_,.bool b⟩
 | _,_,_,.int i,r=>by obtain ⟨t,rfl⟩:=r;exact ⟨_,.int i t⟩
 | _,_,_,.str i,r=>by obtain ⟨t,rfl⟩:=r;exact ⟨_,.str i t⟩
 | _,_,_,.lst hq hs,r=>by
  cases r
  obtain ⟨its,rv,pl,hz⟩:=I.list hq
  obtain ⟨as,ra⟩:=IsAll.reads I hs rv
  obtain ⟨o,ho,hc,n,hd⟩:=pl.isList
  exact ⟨_,.list ho hc hd (by simpa using ra)⟩
 | _,_,_,.tup hq hs,r=>by
  cases r
  obtain ⟨its,rv,pl,hz⟩:=I.tuple hq
  obtain ⟨as,ra⟩:=IsAll.reads I hs rv
  obtain ⟨o,ho,hc,n,hd⟩:=pl
  exact ⟨_,.tuple ho hc hd (by simpa using ra)⟩
 | _,_,_,.dc (a:=a) e,r=>by
  cases r
  obtain ⟨_,_,vs,kv,o,es,ep,h1,h2,h3,h4,h5,h6⟩:=(show jJ X.prog X.w H s.heap a (.dK []) from I.hok a _ e)
  have hv:vs=[]:=by cases kv;rfl
  subst hv
  have he:es.toList=[]:=by
   generalize es.toList=l at h5
   cases h5
   rfl
  exact ⟨_,.dict h1 h2.1 h3 (by rw [he];exact .nil) (by rw [he];exact .nil)⟩
theorem IsAll.reads (I:Inv X pins σ H s):∀ {xs:List V}{ds:List PyData}{us:List Value},IsAll X.K H xs ds->yo xs us->∃ as,ReadsAll s.heap us ds as
 | _,_,_,.nil,r=>by cases r;exact ⟨_,.nil⟩
 | _,_,_,.cons h hs,r=>by
  cases r with
  | cons r1 r2 =>
   obtain ⟨as,ra⟩:=Is.reads I h r1
   obtain ⟨bs,rb⟩:=IsAll.reads I hs r2
   exact ⟨_,.cons ra rb⟩
end
end
section
variable {X:Cx}
def rEqD (K:W.Frag):R2:=fun x y H Q=>∃ d d',Is K H x d/\Is K H y d'/\SeqAt.shaped d=true/\SeqAt.shaped d'=true/\Q (.bl (PyData.eqv d d')) H
def rNeD (K:W.Frag):R2:=fun x y H Q=>∃ d d',Is K H x d/\Is K H y d'/\SeqAt.shaped d=true/\SeqAt.shaped d'=true/\Q (.bl (!PyData.eqv d d')) H
theorem qjx (hu:X.A.units+64<cLine):OpR X (compareOp .Eq) (rEqD X.K):=by
 intro pins s σ H x y v u Q I rx ry h
 obtain ⟨d,d',h1,h2,h3,h4,q⟩:=h
 obtain ⟨as,ra⟩:=h1.reads I rx
 obtain ⟨bs,rb⟩:=h2.reads I ry
 exact eq_dataH ra rb h3 h4 hu ⟨.bl _,H,I,rfl,q⟩
theorem qjv (hu:X.A.units+64<cLine):OpR X (compareOp .NotEq) (rNeD X.K):=by
 intro pins s σ H x y v u Q I rx ry h
 obtain ⟨d,d',h1,h2,h3,h4,q⟩:=h
 obtain ⟨as,ra⟩:=h1.reads I rx
 obtain ⟨bs,rb⟩:=h2.reads I ry
 exact ne_dataH ra rb h3 h4 hu ⟨.bl _,H,I,rfl,q⟩
theorem qku {bs:List Bool}{its:List Value}(r:yo (bs.map V.bl) its) {i:Nat}{v:Value}(e:its[i]?=some v):v = .bool (bs.getD i false):=by
 have hl:=r.length
 rw [List.length_map] at hl
 have hi:i<its.length:=(qm.mp e).1
 have hb:(bs.map V.bl)[i]?=some (V.bl (bs.getD i false)):=by
  rw [List.getElem?_map]
  have:bs[i]?=some (bs.getD i false):=by
   rw [qL,List.getElem?_eq_getElem (by omega)];rfl
  rw [this];rfl
 obtain ⟨u,eu,ru⟩:=r.get hb
 rw [e] at eu
 cases eu
 exact ru
theorem qcC (bs:List Bool):(List.range bs.length).all (fun i=>bs.getD i false)=bs.all id:=by
 rw [Bool.eq_iff_iff]
 simp only [List.all_eq_true,List.mem_range,id]
 constructor
 ·intro h b hb
  obtain ⟨i,hi,rfl⟩:=jt.mp hb
  have:=h i hi
  rwa [qL,List.getElem?_eq_getElem hi] at this
 ·intro h i hi
  rw [qL,List.getElem?_eq_getElem hi]
  exact h _ (qX hi)
theorem qfo (hc:X.calm=true):yu X (.builtin "all") (fun xs H Q=>∃ (p:Addr) (bs:List Bool),xs=[.ref p]/\SqL X.K H p (bs.map V.bl)/\Q (.bl (bs.all id)) H):=by
 intro pins s σ H xs us Q I r h
 obtain ⟨p,bs,rfl,hq,q⟩:=h
 obtain ⟨u,rfl,rx⟩:=JI r
 cases rx
 obtain ⟨its,rv,pl,hz⟩:=I.list hq
 have hl:=rv.length
 rw [List.length_map] at hl
 refine call_all_walk (wpAny_pyIter_list pl.isList ?_)
 have hlt:p<s.heap.objs.size:=by obtain ⟨o,e,_⟩:=pl.isList;exact qg e
 refine ⟨s.heap.objs.size,_,_,_,_,_,fun i=>bs.getD i false,rfl,Walks.list (A:=X.A.in1) (I.ok.hd hc) s.heap.objs.size p (qx hlt) its.toArray,⟨⟨_,qz _ rfl,rfl,rfl⟩,pl.isList.push _⟩,?_,fun h' tk k=>?_⟩
 ·intro i v s Q E e hQ
  have e':its[i]?=some v:=by simpa using e
  rw [qku rv e']
  exact wpAny_truthy_bool hQ
 ·rw [List.size_toArray,<- hl,qcC]
  refine ⟨.bl _,H,I.kept (fun b o e=>k b o (fun hb=>?_) (qc _ e)),rfl,q⟩
  have:b=s.heap.objs.size:=by simpa using hb
  exact absurd (this ▸ qg e) (yQ _)
end
theorem J9:bootBuiltins "len" = some (.builtin "len"):=by decide +kernel
theorem JF:bootBuiltins "abs" = some (.builtin "abs"):=by decide +kernel
theorem J8:bootBuiltins "max" = some (.builtin "max"):=by decide +kernel
theorem YW:bootBuiltins "min" = some (.builtin "min"):=by decide +kernel
theorem qd5:bootBuiltins "all" = some (.builtin "all"):=by decide +kernel
theorem qd4:bootBuiltins "sorted" = some (.builtin "sorted"):=by decide +kernel
theorem jx:bootBuiltins "isinstance" = some (.builtin "isinstance"):=by decide +kernel
theorem qgz:bootBuiltins "int" = some (.type "int"):=by decide +kernel
theorem qif:bootBuiltins "bool" = some (.type "bool"):=by decide +kernel
theorem qaH:bootBuiltins "list" = some (.type "list"):=by decide +kernel
theorem Zj:bootBuiltins "tuple" = some (.type "tuple"):=by decide +kernel
theorem qkt:bootBuiltins "set" = some (.type "set"):=by decide +kernel
def NoX (CX:CXT):Prop:=∀ o H s e s',CX o H s E0 e s'->False
theorem Yf:NoX CX0:=fun _ _ _ _ _ h=>h
theorem passN {CX:CXT}{X:Cx}(h:NoX CX):qee CX X E0:=fun _ _ _ _ _ _ _ q=>(h _ _ _ _ _ q).elim
def Own (P:Program) (w:World) (K:W.Frag) (mg:Str->Option Value) (base:Heap) (CX:CXT) (k:Nat) (x:Str) (ps:List Str) (sp:Sp):Prop :=
 ∃ (f:Addr) (fd:FuncData),FnOk P w K mg base CX k f fd ps sp/\mg x=some (.ref f)/\W.keepIn K (.ref f)=true/\qaJ K fd ps []
section
variable {X:Cx}{CX:CXT}{k:Nat}{x:Str}{ps:List Str}{sp:Sp}{e:Expr}{es:List Expr}{t:TA}{p pos:Pos}
theorem qjl (O:Own X.prog X.w X.K X.mg X.base CX k x ps sp) (hX:NoX CX) (hr:Room k X.A) (hg:Gl X x) (ha:PA X (e::es) t) (hdb:(x == ("__debug__" : Str))=false:=by decide)
  (he:starEach (e::es) X.env=(false,eval e X.env)::starEach es X.env:=by rfl) (hpl:(backTo pos (starEach es X.env)).any (·.1)=false:=by rfl):PE X (.Call (.Name x p) (e::es) [] pos) (qiH sp [] E0 t):=by
 obtain ⟨f,fd,F,hm,hk,hb⟩:=O
 exact qhn F hr hg hm hk hb .nil (passN hX) ha hdb he hpl
end
section
variable {P:Program}{w:World}{K:W.Frag}{mg:Str->Option Value}{base:Heap}{CX:CXT}
theorem Fun.okG {x qual:Str}{st:Stmt}{f:Addr}{fd:FuncData}{N ps:List Str}{k:Nat}{sp:Sp}(F:Fun K x qual st f fd) (S:FnScope N ps (qp st)) (len:∀ vs H Q E,sp vs H Q E->vs.length=ps.length)
  (hbody:∀ (cdv:Value) (A:Around) (outer:List Env) (s:Shared) (H:Hp) (vs:List V) (Q:VK) (E:XK),Room k (A.deeper (envOfC qual (qp st) s.heap.objs.size f cdv))->sp vs H Q E →
   ∃ t,PSs (qbS CX P w K mg base N qual (qp st) f cdv A outer s H E).nox (yW st) t/\t { nx:=fun _ H'=>Q .non H',rt:=Q } (YY N vs) H):FnOk P w K mg base CX (k+1) f fd ps sp:=by
 obtain ⟨oc,od,kV,doc,pm,an,cdv,ct,osl,rfl,lk,hcd⟩:=F.ex
 refine qkb lk hcd S len fun A outer s H vs Q E hr hsp=>?_
 obtain ⟨t,h,q⟩:=hbody cdv A outer s H vs Q E hr hsp
 exact ⟨t,h.nox,q⟩
end
def Pot (M:Int) (H:Hp) (p:Addr):Prop:=∃ p0 p1:Int,H p=some (.lst [.int p0,.int p1])/\0<=p0/\0<=p1/\p1<M
def Stp (p:Addr) (H H':Hp):Prop:=∀ b o,H b=some o->b≠p->H' b=some o
theorem Stp.refl {p:Addr}{H:Hp}:Stp p H H:=fun _ _ e _=>e
theorem Stp.trans {p:Addr}{H H1 H2:Hp}(a:Stp p H H1) (b:Stp p H1 H2):Stp p H H2:=fun c o e n=>b c o (a c o e n) n
theorem Stp.upd {p:Addr}{H:Hp}{o:HO}:Stp p H (upd H p o):=fun b u e n=>by rw [yb n];exact e
theorem ye.stp {p:Addr}{H H':Hp}(h:ye H H'):Stp p H H':=fun b o e _=>h b o e
theorem ye.upd {p:Addr}{H:Hp}{o:HO}(h:H p=none):ye H (upd H p o):=fun b u e=>by rw [yb (qY e h)];exact e
theorem Stp.free {p:Addr}{H H':Hp}(h:Stp p H H') {l:Addr}(e:H' l=none) (hp:∃ o,H' p=some o):H l=none:=by
 cases q:H l with
 | none=>rfl
 | some o =>
  by_cases hl:l=p
  ·subst hl
   obtain ⟨u,hu⟩:=hp
   rw [hu] at e;cases e
  ·rw [h l o q hl] at e;cases e
theorem Pot.some {M:Int}{H:Hp}{p:Addr}(h:Pot M H p):∃ o,H p=some o:=let ⟨_,_,e,_⟩:=h;⟨_,e⟩
theorem Stp.lst {K:W.Frag}{p a:Addr}{H H':Hp}{xs:List V}(h:Stp p H H') (e:SqL K H a xs) (n:a≠p):SqL K H' a xs:=by
 rcases e with (e | ⟨o,e⟩) | e
 ·exact .inl (.inl (h _ _ e n))
 ·exact .inl (.inr ⟨o,h _ _ e n⟩)
 ·exact .inr e
def qbT (H:Hp) (v:V) (ns:List Int):Prop:=∃ a,v = .ref a/\H a=some (.tup (ns.map V.int))
theorem qbT.is {K:W.Frag}{H:Hp}{v:V}{ns:List Int}(h:qbT H v ns):Is K H v (.tuple (ns.map PyData.int)):=by
 obtain ⟨a,rfl,e⟩:=h
 exact .tup (SqT.of e) (IsAll.ints ns)
theorem qbT.same {H H':Hp}{v:V}{ns:List Int}(s:ye H H') (h:qbT H v ns):qbT H' v ns:=by
 obtain ⟨a,rfl,e⟩:=h
 exact ⟨a,rfl,s _ _ e⟩
theorem qbT.stp {p:Addr}{M:Int}{H H':Hp}{v:V}{ns:List Int}(s:Stp p H H') (hp:Pot M H p) (h:qbT H v ns):qbT H' v ns:=by
 obtain ⟨a,rfl,e⟩:=h
 obtain ⟨_,_,q,_⟩:=hp
 exact ⟨a,rfl,s _ _ e (qjU e q (by intro z;cases z))⟩
abbrev Pt:=Int×Int
def PtAt (H:Hp) (v:V) (q:Pt):Prop:=qbT H v [q.1,q.2]
abbrev Pts (H:Hp):List V->List Pt->Prop:=Paired (PtAt H)
theorem Paired.get {α β:Type}{R:α->β->Prop}:∀ {xs:List α}{ys:List β}{i:Nat}{x:α},Paired R xs ys->xs[i]?=some x->∃ y,ys[i]?=some y/\R x y
 | _,_,_,_,.nil,e=>by simp at e
 | _,_,0,_,.cons r _,e=>by simp at e;subst e;exact ⟨_,rfl,r⟩
 | _,_,i+1,x,.cons _ t,e=>by
  obtain ⟨u,h1,h2⟩:=Paired.get (i:=i) (x:=x) t (by simpa using e)
  exact ⟨u,by simpa using h1,h2⟩
theorem Paired.get' {α β:Type}{R:α->β->Prop}:∀ {xs:List α}{ys:List β}{i:Nat}{y:β},Paired R xs ys->ys[i]?=some y->∃ x,xs[i]?=some x/\R x y
 | _,_,_,_,.nil,e=>by simp at e
 | _,_,0,_,.cons r _,e=>by simp at e;subst e;exact ⟨_,rfl,r⟩
 | _,_,i+1,x,.cons _ t,e=>by
  obtain ⟨u,h1,h2⟩:=Paired.get' (i:=i) (y:=x) t (by simpa using e)
  exact ⟨u,by simpa using h1,h2⟩
theorem Paired.len {α β:Type}{R:α->β->Prop}{xs:List α}{ys:List β}(h:Paired R xs ys):xs.length=ys.length:=PySem.Paired.length h
theorem Pts.same {H H':Hp}{vs:List V}{ps:List Pt}(s:ye H H') (h:Pts H vs ps):Pts H' vs ps:=Paired.mapP h fun _ _ q=>qbT.same s q
theorem Pts.stp {p:Addr}{M:Int}{H H':Hp}{vs:List V}{ps:List Pt}(s:Stp p H H') (hp:Pot M H p) (h:Pts H vs ps):Pts H' vs ps:=Paired.mapP h fun _ _ q=>qbT.stp s hp q
def ptD (q:Pt):PyData:=.tuple [.int q.1,.int q.2]
theorem Pts.is {K:W.Frag}{H:Hp}:∀ {vs:List V}{ps:List Pt},Pts H vs ps->IsAll K H vs (ps.map ptD)
 | _,_,.nil=>.nil
 | _,_,.cons r t=>.cons (qbT.is r) (Pts.is t)
theorem qgA {n:Int}(h1:-10000000000000000000000000000000000000000<=n) (h2:n<=10000000000000000000000000000000000000000):Big n:=Big.of 10000000000000000000000000000000000000000 (by decide) h1 h2
theorem sz2:2<=sizeLine:=by decide
theorem sz1:1<=sizeLine:=by decide
theorem Pot.upd {M:Int}{H:Hp}{p l:Addr}{o:HO}(h:Pot M H p) (n:p≠l):Pot M (upd H l o) p:=by
 obtain ⟨p0,p1,e,r⟩:=h
 exact ⟨p0,p1,by rw [yb n];exact e,r⟩
theorem Pot.same {M:Int}{H H':Hp}{p:Addr}(h:Pot M H p) (s:ye H H'):Pot M H' p:=by
 obtain ⟨p0,p1,e,r⟩:=h
 exact ⟨p0,p1,s _ _ e,r⟩
theorem Pts.upd {H:Hp}{l:Addr}{us vs xs:List V}{ps:List Pt}(h:Pts H vs ps) (e:H l=some (.lst us)):Pts (upd H l (.lst xs)) vs ps :=
 Paired.mapP h fun _ _ ⟨a,r,q⟩=>⟨a,r,by rw [yb (qjU q e (by intro z;cases z))];exact q⟩
section
variable {X:Cx}{K:W.Frag}
end
section
variable {P:Program}{w:World}{H:Hp}{h:Heap}{a:Addr}{o:HO}
theorem jJ.has (x:jJ P w H h a o):∃ ob,h.get? a=some ob:=by
 cases o with
 | lst xs=>obtain ⟨_,_,_,_,e⟩:=x;exact ⟨_,e⟩
 | tup xs=>obtain ⟨_,_,_,ob,e,_⟩:=x;exact ⟨_,e⟩
 | dK kvs=>obtain ⟨_,_,_,_,ob,_,_,e,_⟩:=x;exact ⟨_,e⟩
 | dT kvs=>obtain ⟨_,_,_,_,ob,_,_,e,_⟩:=x;exact ⟨_,e⟩
 | set S n=>obtain ⟨ob,_,_,_,e,_⟩:=x;exact ⟨_,e⟩
 | ins C dx fs=>obtain ⟨_,_,_,e,_⟩:=x;exact ⟨_,e⟩
 | own y=>exact x
 | xd fs=>obtain ⟨_,⟨_,_,_,e,_⟩,_⟩:=x;exact ⟨_,e⟩
 | rng lo hi=>obtain ⟨_,_,_,e⟩:=x;exact ⟨_,e⟩
 | frz ob u=>obtain ⟨e,_⟩:=x;exact ⟨_,e⟩
 | tbl ps=>exact ⟨_,(show h.get? a=some _ from x)⟩
 | met f y=>exact ⟨_,(show h.get? a=some _ from x)⟩
 | ext φ=>obtain ⟨_,e,_⟩:=x;exact e
end
section
variable {P:Program}{w:World}{K:W.Frag}{mg:Str->Option Value}{base:Heap}{N:List Str}{qual:Str}{scope:Scope}{f C:Addr}{cd:Value}{A:Around}{outer:List Env}{s:Shared}{H:Hp}{E:XK}
 {x:Str}{B newId initId:String}{bmB:List Value}{e₀:Expr}{yY:List Expr}{t:TA}{np cpos pos:Pos}
end
section
variable {X:Cx}{pins:List (Addr×Obj)}{σ:St}{H H':Hp}{s:Shared}
theorem Inv.goes {i:Nat}{n:Str}{h':Heap}{m:Str->Option Value}{v:Option Value}(I:Inv X pins σ H s) (hN:X.N.Nodup) (hi:X.N[i]?=some n) (hn:s.heap.Ns X.env.locals m)
  (hl:∀ (j:Nat) (x:Str) (v:V),X.N[j]?=some x->σ[j]?=some (some v)->Vis X.env.scope x->∃ u,jI v u/\Look X.env s.heap m x u)
  (hn':h'.Ns X.env.locals (fun x=>if x=n then v else m x)) (hs:Heap.SameBut X.env.locals s.heap h') (tk:Nat):Inv X pins (σ.set i none) H { s with heap:=h',toks:=tk }:=by
 have keepb:∀ b o,b≠X.env.locals->s.heap.get? b=some o->h'.get? b=some o:=fun b o hb e=>(hs.2 b hb).trans e
 have neL:∀ b o,X.s₀.heap.get? b=some o->b≠X.env.locals:=fun b o e=>qx (qH (qg e) I.ok.above)
 refine ⟨I.ok,I.os,I.bare,⟨fun b o e n hb hx=>keepb b o (neL b o e) (I.base.keep b o e n hb hx),fun b o e n hb hx=>?_,I.base.free,fun b o e hx=>?_,I.base.tups,I.base.frzs,I.base.tbls⟩,⟨_,hn',fun j y u e1 e2 e3=>?_⟩,fun y c e=>?_,I.free,I.freeC,fun p hp=>?_,fun b u e=>?_,by simpa using I.len⟩
 ·obtain ⟨sl,e1⟩:=I.base.slot b o e n hb hx
  exact ⟨sl,keepb b _ (neL b o e) e1⟩
 ·obtain ⟨o',e1⟩:=I.base.there b o e hx
  exact ⟨o',keepb b _ (neL b o e) e1⟩
 ·have hji:j≠i:=by
   rintro rfl
   rw [List.getElem?_set] at e2
   simp only [if_true] at e2
   split at e2 <;> cases e2
  rw [List.getElem?_set_ne (Ne.symm hji)] at e2
  obtain ⟨u',r,q⟩:=hl j y u e1 e2 e3
  refine ⟨u',r,?_⟩
  rcases q with ⟨k,e⟩ | ⟨k,c,e,z⟩
  ·refine .inl ⟨k,?_⟩
   have hy:y≠n:=fun z=>hji (Y6 hN e1 (z ▸ hi))
   simp [hy,e]
  ·exact .inr ⟨k,c,e,z.sameBut hs (I.cne y c e)⟩
 ·obtain ⟨v',z⟩:=I.cell y c e
  exact ⟨v',z.sameBut hs (I.cne y c e)⟩
 ·obtain ⟨e,n,ne,nf,d⟩:=I.pin p hp
  exact ⟨keepb _ _ ne e,n,ne,nf,d⟩
 ·refine (I.hok b u e).stay (fun c v hc q=>keepb c v ?_ q) (fun _ q=>q) fun _ _ q=>q
  rintro rfl
  rcases hc with z | z
  ·rw [<- z,I.free] at e;cases e
  ·rw [I.free] at z;cases z
end
abbrev blank (n:Nat):St:=List.replicate n none
section
variable {X:Cx}
end
end L2
namespace L2
open PySem PySem.Spec PyProof.Rows PySem.W Builtin Builtin.ObjectAttr Builtin.Getset_descriptor
section
variable {prog:Program}{w:World}{A:Around}{E:Value->Shared->Prop}{K:Frag}{x C:Addr}
structure ExcCls (K:Frag) (C:Addr):Prop where
 ga:findIn K (.ref C) "__getattribute__" = some (some (.builtin "BaseException.__getattribute__"))
 gb:findIn K (.ref C) "__getattr__" = some none
 cl:findIn K (.ref C) "__class__" = some (some (.builtin "object.__class__"))
 gt:specialIn K (.builtin "object.__class__") "__get__" = some (some (.builtin "getset_descriptor.__get__"))
 tk:takesIn K (.builtin "object.__class__")=some true
 ob:mroIn K C (.type "object")=some true
 be:mroIn K C (.type "BaseException")=some true
 ct:(clsIn K C).isSome=true
end
section
variable {K:Frag}{x C:Addr}
end
def clsV:V->Value->Prop
 | .ref D,u=>u = .ref D
 | .ty n,u=>u = .type n
 | _,_=>False
theorem clsV.rel {v:V}{u u':Value}(h:clsV v u) (r:jI v u'):u'=u:=by
 cases v <;> first | exact h.elim | (cases h;cases r;rfl)
open PySem PySem.Spec PyProof.Rows
section
variable {X:Cx}{pins:List (Addr×Obj)}{σ:St}{H:Hp}{s:Shared}
theorem Inv.laidN {a:Addr}{o:HO}{h':Heap}{t':Nat}(I:Inv X pins σ H s) (k:∀ b u,s.heap.get? b=some u->h'.get? b=some u) (hp:s.heap.get? a=none) (new:jJ X.prog X.w (upd H a o) h' a o) :
  H a=none/\Inv X pins σ (upd H a o) { s with heap:=h',toks:=t' }:=by
 have hn:H a=none:=by
  cases z:H a with
  | none=>rfl
  | some u =>
   obtain ⟨ob,e⟩:=(I.hok a u z).has
   rw [hp] at e;cases e
 refine ⟨hn,I.un ⟨fun b u q _ _ _=>k b u q,fun b u q _ _ _=>⟨u.slots,k b u q⟩,fun b u q n _=>?_,fun b u q _=>⟨u,k b u q⟩,fun b xs q=>?_,fun b u xs q=>?_,fun b ps q=>?_⟩ fun b u e=>?_⟩
 ·rw [yb (fun z=>by rw [z,hp] at q;cases q)];exact n
 ·rw [yb (qY q hn)];exact q
 ·rw [yb (qY q hn)];exact q
 ·exact ⟨#[],by rw [yb (qY q hn),q];simp⟩
 ·by_cases hb:b=a
  ·subst hb
   rw [yd] at e;cases e;exact new
  ·rw [yb hb] at e
   exact (I.hok b u e).stay (fun c v _ q=>k c v q) (fun c q=>by rw [yb (qY q hn)];exact q) fun c xs q=>by rw [yb (qY q hn)];exact q
end
section
variable {X:Cx}{K:W.Frag}{C:Addr}{x:Str}{e:Expr}{es:List Expr}{t:TA}{p pos:Pos}
end
structure RoomU (k:Nat) (A:Around):Prop where
 dp:A.depth+3 * k+5<recursionLimit
 un:A.units+16 * k+200<cLine
theorem Room.toU {k:Nat}{A:Around}(r:Room k A):RoomU k A:=⟨r.dp,r.un⟩
theorem RoomU.mono {j k:Nat}{A:Around}(r:RoomU k A) (h:j<=k):RoomU j A:=⟨by have:=r.dp;omega,by have:=r.un;omega⟩
theorem RoomU.units {k:Nat}{A:Around}(r:RoomU k A):A.units+64<cLine:=by have:=r.un;omega
structure FnU (P:Program) (w:World) (K:W.Frag) (mg:Str->Option Value) (base:Heap) (CX:CXT) (k:Nat) (f:Addr) (fd:FuncData) (ps:List Str) (sp:Sp):Prop where
 len:∀ vs H Q E,sp vs H Q E->vs.length=ps.length
 run:∀ (A:Around) (outer:List Env) (s:Shared) (H:Hp) (args:Args) (us:List Value) (vs:List V) (Q:VK) (E:XK),RoomU k A->Env0 P w K mg base A outer s H->BindsTo s fd args (ps.zip us)->yo vs us->sp vs H Q E →
  codeAny (model P w) A (.call (.ref f) args) (CR CX outer P w H s Q E) s
theorem FnU.ok {P:Program}{w:World}{K:W.Frag}{mg:Str->Option Value}{base:Heap}{CX:CXT}{k:Nat}{f:Addr}{fd:FuncData}{ps:List Str}{sp:Sp}(F:FnU P w K mg base CX k f fd ps sp):FnOk P w K mg base CX k f fd ps sp :=
 ⟨F.len,fun A outer s H args us vs Q E hr=>F.run A outer s H args us vs Q E hr.toU⟩
section
variable {P:Program}{w:World}{K:W.Frag}{mg:Str->Option Value}{base:Heap}{CX:CXT}
end
def OwnU (P:Program) (w:World) (K:W.Frag) (mg:Str->Option Value) (base:Heap) (CX:CXT) (k:Nat) (x:Str) (ps:List Str) (sp:Sp):Prop :=
 ∃ (f:Addr) (fd:FuncData),FnU P w K mg base CX k f fd ps sp/\mg x=some (.ref f)/\W.keepIn K (.ref f)=true/\qaJ K fd ps []
theorem OwnU.own {P:Program}{w:World}{K:W.Frag}{mg:Str->Option Value}{base:Heap}{CX:CXT}{k:Nat}{x:Str}{ps:List Str}{sp:Sp}(O:OwnU P w K mg base CX k x ps sp):Own P w K mg base CX k x ps sp :=
 let ⟨f,fd,F,r⟩:=O;⟨f,fd,F.ok,r⟩
section
variable {X:Cx}{CX:CXT}{k:Nat}{x:Str}{ps:List Str}{sp:Sp}{e:Expr}{es:List Expr}{t:TA}{p pos:Pos}
end
end L2
namespace L2
open PySem PySem.Spec PyProof.Rows PySem.W
structure Ord (f:Nat->Nat->Bool):Prop where
 asym:∀ a b,f a b=true->f b a=false
 neg:∀ a b c,f a c=true->f a b=true\/f b c=true
abbrev gD (p:Array Nat) (i:Nat):Nat:=p.getD i 0
theorem qj8 {p q:Array Nat}{i j:Nat}(h:p[i]?=q[j]?):gD p i=gD q j:=by
 simp only [gD,Array.getD_eq_getD_getElem?,h]
section
variable {f:Nat->Nat->Bool}
theorem Ord.irr (O:Ord f) (a:Nat):f a a=false:=by
 cases h:f a a with
 | false=>rfl
 | true=>rw [O.asym a a h] at h;cases h
theorem Ord.le (O:Ord f) {a b c:Nat}(h1:f b a=false) (h2:f c b=false):f c a=false:=by
 cases h:f c a with
 | false=>rfl
 | true=>rcases O.neg _ b _ h with z | z <;> simp_all
theorem Ord.ltl (O:Ord f) {a b c:Nat}(h1:f a b=true) (h2:f c b=false):f a c=true:=by
 rcases O.neg _ c _ h1 with z | z
 ·exact z
 ·rw [h2] at z;cases z
theorem Ord.lel (O:Ord f) {a b c:Nat}(h1:f b a=false) (h2:f b c=true):f a c=true:=by
 rcases O.neg _ a _ h2 with z | z
 ·rw [h1] at z;cases z
 ·exact z
def qbR (f:Nat->Nat->Bool) (p:Array Nat) (k:Nat):Prop:=∀ i j,i<=j->j<k->f (gD p j) (gD p i)=false
def qip (f:Nat->Nat->Bool) (p:Array Nat) (k:Nat):Prop:=∀ i j,i<=j->j<k->f (gD p i) (gD p j)=false
def Eqv (f:Nat->Nat->Bool) (a b:Nat):Prop:=f a b=false/\f b a=false
theorem Eqv.refl (O:Ord f) (a:Nat):Eqv f a a:=⟨O.irr a,O.irr a⟩
theorem Eqv.symm {a b:Nat}(h:Eqv f a b):Eqv f b a:=⟨h.2,h.1⟩
theorem Eqv.trans (O:Ord f) {a b c:Nat}(h:Eqv f a b) (g:Eqv f b c):Eqv f a c:=⟨O.le g.1 h.1,O.le h.2 g.2⟩
theorem qbR.one (O:Ord f) (p:Array Nat):qbR f p 1:=fun i j h1 h2=>by
 have:i=j:=by omega
 subst this;exact O.irr _
theorem qbR.succ (O:Ord f) {p:Array Nat}{k:Nat}(h0:1<=k) (h:qbR f p k) (g:f (gD p k) (gD p (k - 1))=false):qbR f p (k+1):=fun i j hij hj=>by
 by_cases e:j=k
 ·subst e
  by_cases e2:i=j
  ·subst e2;exact O.irr _
  ·exact O.le (h i (j - 1) (by omega) (by omega)) g
 ·exact h i j hij (by omega)
theorem qip.succ (O:Ord f) {p:Array Nat}{k:Nat}(h0:1<=k) (h:qip f p k) (g:f (gD p (k - 1)) (gD p k)=false):qip f p (k+1):=fun i j hij hj=>by
 by_cases e:j=k
 ·subst e
  by_cases e2:i=j
  ·subst e2;exact O.irr _
  ·exact O.le g (h i (j - 1) (by omega) (by omega))
 ·exact h i j hij (by omega)
def Arr (n:Nat) (p:Array Nat):Prop:=p.Perm (List.range n).toArray
theorem Arr.size {n:Nat}{p:Array Nat}(h:Arr n p):p.size=n:=by rw [h.size_eq];simp
theorem Arr.lt {n:Nat}{p:Array Nat}(h:Arr n p) {i:Nat}(hi:i<n):gD p i<n:=by
 have hs:=h.size
 have hi':i<p.size:=by omega
 have e:gD p i=p[i]:=by simp [gD,Array.getD,hi']
 rw [e]
 have:p[i]∈p.toList:=by simp
 have:=(yB.mp h).mem_iff.mp this
 simpa using this
theorem Arr.rev {n:Nat}{p:Array Nat}(h:Arr n p) (i j:Nat):Arr n (kas_rev p i j):=(mirror_perm p i j _).trans h
theorem qgs {p:Array Nat}{i j:Nat}(hj:j<=p.size) (k:Nat):gD (kas_rev p i j) k=if i<=k/\k<j then gD p (i+j - 1 - k) else gD p k:=by
 have e:=getElem?_mirror_all (i:=i) hj k
 unfold kas_rev
 by_cases h1:i<=k/\k<j
 ·rw [if_pos h1] at e ⊢;exact qj8 e
 ·rw [if_neg h1] at e ⊢;exact qj8 e
theorem eqv_l (O:Ord f) {a b c:Nat}(h:Eqv f a b):f a c=f b c:=by
 cases h1:f b c with
 | true=>exact O.lel h.2 h1
 | false =>
  cases h2:f a c with
  | false=>rfl
  | true =>
   have:=O.lel h.1 h2
   rw [h1] at this;cases this
theorem eqv_r (O:Ord f) {a b c:Nat}(h:Eqv f a b):f c a=f c b:=by
 cases h1:f c b with
 | true=>exact O.ltl h1 h.1
 | false =>
  cases h2:f c a with
  | false=>rfl
  | true =>
   have:=O.ltl h2 h.2
   rw [h1] at this;cases this
theorem qip.eqv (O:Ord f) {p q:Array Nat}{k:Nat}(h:qip f p k) (e:∀ i,Eqv f (gD q i) (gD p i)):qip f q k:=fun i j h1 h2=>by
 rw [eqv_l O (e i),eqv_r O (e j)];exact h i j h1 h2
theorem qbR.ofRev {p:Array Nat}{k:Nat}(hk:k<=p.size) (h:qip f p k):qbR f (kas_rev p 0 k) k:=fun i j h1 h2=>by
 rw [qgs hk,qgs hk,if_pos (by omega),if_pos (by omega)]
 exact h _ _ (by omega) (by omega)
section
variable {n:Nat}{cmp:Nat->Nat->(Bool->Shared->Prop)->Shared->Prop}{s:Shared}
end
end
end L2
namespace L2
open PySem PySem.Spec PyProof.Rows PySem.W
def qdb (fin:Bool):List Int->List Int->Bool
 | x::r,y::t=>if x=y then qdb fin r t else decide (x<y)
 | _,_=>fin
theorem qda:∀ ns ms:List Int,qdb (decide (ns.length<ms.length)) ns ms=decide (ns<ms)
 | [],[]=>by simp [qdb]
 | [],_::_=>by simp [qdb]
 | _::_,[]=>by simp [qdb]
 | x::r,y::t=>by
  have ih:=qda r t
  simp only [qdb,List.length_cons,Nat.add_lt_add_iff_right]
  by_cases e:x=y
  ·subst e
   rw [if_pos rfl,ih]
   simp [List.cons_lt_cons_iff]
  ·rw [if_neg e]
   simp [List.cons_lt_cons_iff,e]
theorem qbd {a b:List Int}(h:a<b):¬ b<a:=fun g=>List.lt_irrefl a (List.lt_trans h g)
theorem qc5 (ks:Nat->List Int):Ord fun i j=>decide (ks i<ks j) where
 asym a b h:=yt (qbd (qr h))
 neg a b c h:=by
  have h:=qr h
  by_cases e:ks a<ks b
  ·exact .inl (qu e)
  ·exact .inr (qu (List.lt_of_le_of_lt (List.not_lt.mp e) h))
def jn (h:Heap) (v:Value) (ks:List Int):Prop:=∃ b o xs n,v = .ref b/\h.get? b=some o/\o.cls = .type "tuple" /\ o.data = .seq xs n/\IntsAre xs.toList ks/\ks≠[]
theorem jn.kept {h h':Heap}{v:Value}{ks:List Int}(k:∀ b o,h.get? b=some o->o.cls = .type "tuple" -> h'.get? b=some o) (t:jn h v ks):jn h' v ks:=by
 obtain ⟨b,o,xs,n,e,ho,hc,r⟩:=t
 exact ⟨b,o,xs,n,e,k b o ho hc,hc,r⟩
section
variable {prog:Program}{w:World}{A:Around}{E:Value->Shared->Prop}{s:Shared}
theorem qgm {fin:Bool}{Q:Bool->Shared->Prop}:∀ {xs ys:List Value}{ns ms:List Int}(i:Nat),IntsAre xs ns->IntsAre ys ms->Q (qdb fin ns ms) s->KatLex prog w A true fin Q (xs.zip ys) i s
 | _,_,_,_,i,.nil,_,q=>kat_nil (by simpa [qdb] using q)
 | _,_,_,_,i,.cons _ _ _,.nil,q=>kat_nil (by simpa [qdb] using q)
 | _,_,_,_,i,.cons x t hx,.cons y u hy,q=>by
  refine kat_cons (wpAny_eqBool_int ?_)
  by_cases e:x=y
  ·subst e
   rw [beq_self_eq_true]
   exact kat_yes (qgm (i+1) hx hy (by simpa [qdb] using q))
  ·have hb:(x == y)=false:=by simpa using e
   rw [hb]
   have q':Q (decide (x<y)) s:=by simpa [qdb,e] using q
   refine kat_no ?_
   cases i with
   | zero=>exact oneLt_int q'
   | succ i=>exact kat_one _ _ (lt_int q')
theorem lt_wp {v u:Value}{ns ms:List Int}{Q:Bool->Shared->Prop}(h1:jn s.heap v ns) (h2:jn s.heap u ms) (q:Q (decide (ns<ms)) s):wpAny (model prog w) A (keyLt' (tuples' true) v u) Q E s:=by
 obtain ⟨a,o,xs,n,rfl,ho,_,hd,hi,_⟩:=h1
 obtain ⟨b,o',ys,n',rfl,ho',_,hd',hi',_⟩:=h2
 refine kat_lt ho hd ho' hd' (qgm 0 hi hi' ?_)
 have e1:=IntsAre.length hi
 have e2:=IntsAre.length hi'
 simp only [Array.length_toList] at e1 e2
 rw [e1,e2,qda]
 exact q
theorem Ym {h:Heap}:∀ {vs:List Value}{kss:List (List Int)},PySem.Paired (jn h) vs kss->∃ fs:List Value,KatTups h vs fs/\fs.length=vs.length/\∀ v∈fs,∃ i t,v = .int i t
 | _,_,.nil=>⟨[],trivial,rfl,fun _ z=>nomatch z⟩
 | _,_,.cons ⟨a,o,xs,n,e,ho,hc,hd,hi,hn⟩ r=>by
  obtain ⟨fs,k,hl,hf⟩:=Ym r
  subst e
  obtain ⟨l⟩:=xs
  cases hi with
  | nil=>exact absurd rfl hn
  | cons i t hr =>
   refine ⟨.int i t::fs,KatTups.cons ho hc hd rfl k,by simp [hl],fun v hv=>?_⟩
   rcases List.mem_cons.mp hv with rfl | hv
   ·exact ⟨i,t,rfl⟩
   ·exact hf v hv
theorem qhJ {vs:List Value}{kss:List (List Int)}{Q:SortKind->Shared->Prop}(hT:PySem.Paired (jn s.heap) vs kss) (h2:0<vs.length) (q:Q (tuples' true) s):wpAny (model prog w) A (keyKind' vs.toArray) Q E s:=by
 obtain ⟨fs,k,hl,hf⟩:=Ym hT
 refine kat_kind (T:=.type "int") k (by omega) (fun v hv=>?_) rfl q
 obtain ⟨i,t,rfl⟩:=hf v hv
 exact Looks.now
end
end L2
namespace L2
open PySem PySem.Spec PyProof.Rows PySem.W
structure OrdK (f:Keyed->Keyed->Bool):Prop where
 asym:∀ a b,f a b=true->f b a=false
 neg:∀ a b c,f a c=true->f a b=true\/f b c=true
section
variable {f:Keyed->Keyed->Bool}
theorem OrdK.irr (O:OrdK f) (a:Keyed):f a a=false:=by
 cases h:f a a with
 | false=>rfl
 | true=>rw [O.asym a a h] at h;cases h
theorem OrdK.le (O:OrdK f) {a b c:Keyed}(h1:f b a=false) (h2:f c b=false):f c a=false:=by
 cases h:f c a with
 | false=>rfl
 | true=>rcases O.neg _ b _ h with z | z <;> simp_all
theorem OrdK.ltl (O:OrdK f) {a b c:Keyed}(h1:f a b=true) (h2:f c b=false):f a c=true:=by
 rcases O.neg _ c _ h1 with z | z
 ·exact z
 ·rw [h2] at z;cases z
theorem OrdK.lel (O:OrdK f) {a b c:Keyed}(h1:f b a=false) (h2:f b c=true):f a c=true:=by
 rcases O.neg _ a _ h2 with z | z
 ·rw [h1] at z;cases z
 ·exact z
def SdK (f:Keyed->Keyed->Bool) (l:List Keyed):Prop:=l.Pairwise fun x y=>f y x=false
def Ask (prog:Program) (w:World) (A:Around) (E:Value->Shared->Prop) (s:Shared) (kd:SortKind) (D:Keyed->Prop) (f:Keyed->Keyed->Bool):Prop :=
 ∀ (x y:Keyed) (st:SortSt) (Q:Option Bool->SortSt->Prop),D x->D y->kindOf st=kd->Q (some (f x y)) st->wpS (model prog w) A E s (lt' x y) Q st
end
def jc:Bool->Keyed->Array Keyed->Nat->Nat->Nat->StateT SortSt Sem (Option Nat):=sortPriv% PySem.Builtin.gallop
def Jt (left:Bool) (key:Keyed) (arr:Array Keyed) (base i:Nat):StateT SortSt Sem (Option Bool):=do
  let x <- elem' arr (base+i)
  if left then lt' x key else return (<- lt' key x).map (!·)
theorem qbI (left:Bool) (key:Keyed) (arr:Array Keyed) (base n hint:Nat):jc left key arr base n hint=(do
 let mut lastofs:=0
 let mut ofs:=1
 let mut lo:=0
 let mut hi:=0
 let some right <- Jt left key arr base hint | return none
 if right then
  let maxofs:=n - hint
  for _ in [0:n] do
   if ofs ≥ maxofs then break
   let some more <- Jt left key arr base (hint+ofs) | return none
   if !more then break
   lastofs:=ofs
   ofs:=2 * ofs+1
  lo:=hint+lastofs+1
  hi:=hint+min ofs maxofs
 else
  let maxofs:=hint+1
  for _ in [0:n] do
   if ofs ≥ maxofs then break
   let some found <- Jt left key arr base (hint - ofs) | return none
   if found then break
   lastofs:=ofs
   ofs:=2 * ofs+1
  lo:=hint+1 - min ofs maxofs
  hi:=hint - lastofs
 for _ in [0:n] do
  if lo ≥ hi then break
  let m:=lo+(hi - lo) / 2
  let some more <- Jt left key arr base m | return none
  if more then lo:=m+1 else hi:=m
 return some hi):=rfl
section
variable {prog:Program}{w:World}{A:Around}{E:Value->Shared->Prop}{s:Shared}{kd:SortKind}{D:Keyed->Prop}{f:Keyed->Keyed->Bool}
def byd (f:Keyed->Keyed->Bool) (left:Bool) (key x:Keyed):Bool:=if left then f x key else !f key x
theorem qb2 (hA:Ask prog w A E s kd D f) {left:Bool}{key x:Keyed}{arr:Array Keyed}{base i:Nat}{st:SortSt}{Q:Option Bool->SortSt->Prop}(hk:kindOf st=kd) (hx:arr[base+i]?=some x) (dk:D key) (dx:D x) (q:Q (some (byd f left key x)) st) :
  wpS (model prog w) A E s (Jt left key arr base i) Q st:=by
 unfold Jt
 rw [elem'_eq,hx]
 refine qf (ql ?_)
 cases left with
 | true=>exact hA _ _ _ _ dx dk hk q
 | false=>exact qf (hA _ _ _ _ dk dx hk (ql q))
theorem qb1 (hA:Ask prog w A E s kd D f) {left:Bool}{key:Keyed}{arr:Array Keyed}{base n hint:Nat}{st:SortSt}{Q:Option Nat->SortSt->Prop}(hk:kindOf st=kd) (xs:List Keyed)
  (hn:xs.length=n) (hx:∀ i (h:i<xs.length),arr[base+i]?=some xs[i]) (dk:D key) (dx:∀ x∈xs,D x) (hh:hint<n) (hm:∀ i j (hi:i<xs.length) (hj:j<xs.length),i<=j->byd f left key xs[j]=true->byd f left key xs[i]=true)
  (q:∀ k,k<=n->(∀ i (h:i<xs.length),i<k->byd f left key xs[i]=true)->(∀ i (h:i<xs.length),k<=i->byd f left key xs[i]=false)->Q (some k) st) :
  wpS (model prog w) A E s (jc left key arr base n hint) Q st:=by
 have ask:∀ (i:Nat) (h:i<xs.length) (Q:Option Bool->SortSt->Prop),Q (some (byd f left key xs[i])) st->wpS (model prog w) A E s (Jt left key arr base i) Q st:=fun i h Q q=>qb2 hA hk (hx i h) dk (dx _ (qX h)) q
 generalize hp:(fun x=>byd f left key x)=p at *
 have hp':∀ x,byd f left key x=p x:=fun x=>by rw [<- hp]
 simp only [hp'] at hm q ask
 subst hn
 rw [qbI]
 dsimp only
 refine qf (ask hint hh _ ?_)
 dsimp only
 cases hc:p xs[hint] with
 | true =>
  simp only [if_true]
  refine qf (y3 (yf (I:=fun x c st'=>st'=st/\∃ l o,c=(none,l,o)/\l<o/\x+1<=o/\hint+l<xs.length/\(∀ h:hint+l<xs.length,p xs[hint+l]=true))
   (Q:=fun c st'=>st'=st/\∃ l o,c=(none,l,o)/\l<o/\hint+l<xs.length/\(∀ h:hint+l<xs.length,p xs[hint+l]=true)/\(xs.length<=hint+o\/∃ h:hint+o<xs.length,p xs[hint+o]=false)) ?step ?fin ⟨rfl,0,1,rfl,by omega,by omega,hh,fun _=>hc⟩) ?post)
  case fin =>
   rintro c st' ⟨rfl,l,o,rfl,a1,a2,a3,a4⟩
   exact ⟨rfl,l,o,rfl,a1,a3,a4,.inl (by omega)⟩
  case step =>
   rintro x c st' _ hx' ⟨rfl,l,o,rfl,a1,a2,a3,a4⟩
   dsimp only
   by_cases hge:o ≥ xs.length - hint
   ·rw [if_pos hge]
    exact ql ⟨rfl,l,o,rfl,a1,a3,a4,.inl (by omega)⟩
   ·rw [if_neg hge]
    have ho:hint+o<xs.length:=by omega
    refine qf (ask _ ho _ ?_)
    dsimp only
    cases hc2:p xs[hint+o] with
    | true =>
     simp only [Bool.not_true,Bool.false_eq_true,if_false]
     exact ql ⟨rfl,o,2 * o+1,rfl,by omega,by omega,ho,fun _=>hc2⟩
    | false =>
     simp only [Bool.not_false,if_true]
     exact ql ⟨rfl,l,o,rfl,a1,a3,a4,.inr ⟨ho,hc2⟩⟩
  case post =>
   rintro c st' ⟨rfl,l,o,rfl,a1,a3,a4,a5⟩
   dsimp only
   have h3:∀ i (h:i<xs.length),i<(hint+l+1)->p xs[i]=true:=fun i h hi=>by
    exact hm i (hint+l) h a3 (by omega) (a4 a3)
   have h4:∀ i (h:i<xs.length),(hint+min o (xs.length - hint))<=i->p xs[i]=false:=fun i h hi=>by
    rcases a5 with a5 | ⟨a5,a6⟩
    ·exact absurd h (by omega)
    ·cases hz:p xs[i] with
     | false=>rfl
     | true=>rw [hm (hint+o) i a5 h (by omega) hz] at a6;cases a6
   refine qf (y3 (yf (I:=fun x c sx=>sx=st'/\∃ l r,c=(none,l,r)/\l<=r/\r<=xs.length/\r - l<=xs.length - x/\(∀ i (h:i<xs.length),i<l->p xs[i]=true)/\(∀ i (h:i<xs.length),r<=i->p xs[i]=false))
    (Q:=fun c sx=>sx=st'/\∃ r,c=(none,r,r)/\r<=xs.length/\(∀ i (h:i<xs.length),i<r->p xs[i]=true)/\(∀ i (h:i<xs.length),r<=i->p xs[i]=false)) ?step0 ?fin0 ⟨rfl,(hint+l+1),(hint+min o (xs.length - hint)),rfl,by omega,by omega,by omega,h3,h4⟩) ?post0)
   case fin0 =>
    rintro c st' ⟨rfl,l,r,rfl,a1,a2,a3,a4,a5⟩
    have:l=r:=by omega
    subst this
    exact ⟨rfl,l,rfl,a2,a4,a5⟩
   case step0 =>
    rintro x c st' _ hx' ⟨rfl,l,r,rfl,a1,a2,a3,a4,a5⟩
    dsimp only
    by_cases hge:l ≥ r
    ·rw [if_pos hge]
     have:l=r:=by omega
     subst this
     exact ql ⟨rfl,l,rfl,a2,a4,a5⟩
    ·rw [if_neg hge]
     have hmid:l+(r - l) / 2<xs.length:=by omega
     refine qf (ask _ hmid _ ?_)
     dsimp only
     cases hc:p xs[l+(r - l) / 2] with
     | true =>
      simp only [if_true]
      refine ql ⟨rfl,_,_,rfl,by omega,by omega,by omega,fun i h hi=>?_,a5⟩
      exact hm i (l+(r - l) / 2) h hmid (by omega) hc
     | false =>
      simp only [Bool.false_eq_true,if_false]
      refine ql ⟨rfl,_,_,rfl,by omega,by omega,by omega,a4,fun i h hi=>?_⟩
      cases hz:p xs[i] with
      | false=>rfl
      | true=>rw [hm (l+(r - l) / 2) i hmid h hi hz] at hc;cases hc
   case post0 =>
    rintro c st' ⟨rfl,r,rfl,a2,a4,a5⟩
    exact ql (q r a2 a4 a5)
 | false =>
  simp only [Bool.false_eq_true,if_false]
  refine qf (y3 (yf (I:=fun x c st'=>st'=st/\∃ l o,c=(none,l,o)/\l<o/\x+1<=o/\l<=hint/\(∀ h:hint - l<xs.length,p xs[hint - l]=false))
   (Q:=fun c st'=>st'=st/\∃ l o,c=(none,l,o)/\l<o/\l<=hint/\(∀ h:hint - l<xs.length,p xs[hint - l]=false)/\(hint+1<=o\/(o<=hint/\∃ h:hint - o<xs.length,p xs[hint - o]=true))) ?step ?fin ⟨rfl,0,1,rfl,by omega,by omega,by omega,fun _=>hc⟩) ?post)
  case fin =>
   rintro c st' ⟨rfl,l,o,rfl,a1,a2,a3,a4⟩
   exact ⟨rfl,l,o,rfl,a1,a3,a4,.inl (by omega)⟩
  case step =>
   rintro x c st' _ hx' ⟨rfl,l,o,rfl,a1,a2,a3,a4⟩
   dsimp only
   by_cases hge:o ≥ hint+1
   ·rw [if_pos hge]
    exact ql ⟨rfl,l,o,rfl,a1,a3,a4,.inl (by omega)⟩
   ·rw [if_neg hge]
    have ho:hint - o<xs.length:=by omega
    refine qf (ask _ ho _ ?_)
    dsimp only
    cases hc2:p xs[hint - o] with
    | true =>
     simp only [if_true]
     exact ql ⟨rfl,l,o,rfl,a1,a3,a4,.inr ⟨by omega,ho,hc2⟩⟩
    | false =>
     simp only [Bool.false_eq_true,if_false]
     exact ql ⟨rfl,o,2 * o+1,rfl,by omega,by omega,by omega,fun _=>hc2⟩
  case post =>
   rintro c st' ⟨rfl,l,o,rfl,a1,a3,a4,a5⟩
   dsimp only
   have h3:∀ i (h:i<xs.length),i<(hint+1 - min o (hint+1))->p xs[i]=true:=fun i h hi=>by
    rcases a5 with a5 | ⟨a5,a6,a7⟩
    ·exact absurd hi (by omega)
    ·exact hm i (hint - o) h a6 (by omega) a7
   have h4:∀ i (h:i<xs.length),(hint - l)<=i->p xs[i]=false:=fun i h hi=>by
    have hz0:=a4 (by omega)
    cases hz:p xs[i] with
    | false=>rfl
    | true=>rw [hm (hint - l) i (by omega) h hi hz] at hz0;cases hz0
   refine qf (y3 (yf (I:=fun x c sx=>sx=st'/\∃ l r,c=(none,l,r)/\l<=r/\r<=xs.length/\r - l<=xs.length - x/\(∀ i (h:i<xs.length),i<l->p xs[i]=true)/\(∀ i (h:i<xs.length),r<=i->p xs[i]=false))
    (Q:=fun c sx=>sx=st'/\∃ r,c=(none,r,r)/\r<=xs.length/\(∀ i (h:i<xs.length),i<r->p xs[i]=true)/\(∀ i (h:i<xs.length),r<=i->p xs[i]=false)) ?step1 ?fin1 ⟨rfl,(hint+1 - min o (hint+1)),(hint - l),rfl,by omega,by omega,by omega,h3,h4⟩) ?post1)
   case fin1 =>
    rintro c st' ⟨rfl,l,r,rfl,a1,a2,a3,a4,a5⟩
    have:l=r:=by omega
    subst this
    exact ⟨rfl,l,rfl,a2,a4,a5⟩
   case step1 =>
    rintro x c st' _ hx' ⟨rfl,l,r,rfl,a1,a2,a3,a4,a5⟩
    dsimp only
    by_cases hge:l ≥ r
    ·rw [if_pos hge]
     have:l=r:=by omega
     subst this
     exact ql ⟨rfl,l,rfl,a2,a4,a5⟩
    ·rw [if_neg hge]
     have hmid:l+(r - l) / 2<xs.length:=by omega
     refine qf (ask _ hmid _ ?_)
     dsimp only
     cases hc:p xs[l+(r - l) / 2] with
     | true =>
      simp only [if_true]
      refine ql ⟨rfl,_,_,rfl,by omega,by omega,by omega,fun i h hi=>?_,a5⟩
      exact hm i (l+(r - l) / 2) h hmid (by omega) hc
     | false =>
      simp only [Bool.false_eq_true,if_false]
      refine ql ⟨rfl,_,_,rfl,by omega,by omega,by omega,a4,fun i h hi=>?_⟩
      cases hz:p xs[i] with
      | false=>rfl
      | true=>rw [hm (l+(r - l) / 2) i hmid h hi hz] at hc;cases hc
   case post1 =>
    rintro c st' ⟨rfl,r,rfl,a2,a4,a5⟩
    exact ql (q r a2 a4 a5)
end
end L2
namespace L2
open PySem PySem.Spec PyProof.Rows PySem.W
section
variable {f:Keyed->Keyed->Bool}
theorem qfq (O:OrdK f) {left:Bool}{key:Keyed}{xs:List Keyed}(hs:SdK f xs) (i j:Nat) (hi:i<xs.length) (hj:j<xs.length) (hij:i<=j) (h:byd f left key xs[j]=true):byd f left key xs[i]=true:=by
 have hle:f xs[j] xs[i]=false:=by
  by_cases e:i=j
  ·subst e;exact O.irr _
  ·exact qK.mp hs i j hi hj (by omega)
 unfold byd at *
 cases left with
 | true =>
  simp only [if_true] at *
  exact O.lel hle h
 | false =>
  simp only [Bool.false_eq_true,if_false,Bool.not_eq_true'] at *
  exact O.le hle h
theorem mv {out X A B:List Keyed}(h1:SdK f (out++(X++A))) (h2:SdK f (out++B)) (c:∀ x∈X,∀ y∈B,f y x=false):SdK f ((out++X)++A)/\SdK f ((out++X)++B):=by
 unfold SdK at *
 refine ⟨by rw [qo];exact h1,?_⟩
 rw [<- qo] at h1
 obtain ⟨g1,_,_⟩:=qJ.mp h1
 obtain ⟨_,k2,k3⟩:=qJ.mp h2
 refine qJ.mpr ⟨g1,k2,fun x hx y hy=>?_⟩
 rcases List.mem_append.mp hx with h | h
 ·exact k3 x h y hy
 ·exact c x h y hy
theorem qkW {O' X A B:List Keyed}(h1:SdK f ((A++X)++O')) (h2:SdK f (B++O')) (c:∀ x∈X,∀ y∈B,f x y=false):SdK f (A++(X++O'))/\SdK f (B++(X++O')):=by
 unfold SdK at *
 rw [qo] at h1
 refine ⟨h1,?_⟩
 obtain ⟨_,g1,_⟩:=qJ.mp h1
 obtain ⟨k1,_,k3⟩:=qJ.mp h2
 refine qJ.mpr ⟨k1,g1,fun x hx y hy=>?_⟩
 rcases List.mem_append.mp hy with h | h
 ·exact c y h x hx
 ·exact k3 x hx y h
end
section
variable {prog:Program}{w:World}{A:Around}{E:Value->Shared->Prop}{s:Shared}{kd:SortKind}{D:Keyed->Prop}{f:Keyed->Keyed->Bool}
theorem YI (hA:Ask prog w A E s kd D f) (O:OrdK f) {left:Bool}{key:Keyed}{arr:Array Keyed}{base n hint:Nat}{st:SortSt}{Q:Option Nat->SortSt->Prop}(hk:kindOf st=kd) (xs:List Keyed)
  (hn:xs.length=n) (hx:∀ i,i<xs.length->arr[base+i]?=xs[i]?) (dk:D key) (dx:∀ x∈xs,D x) (hh:hint<n) (hs:SdK f xs)
  (q:∀ k,k<=n->(∀ x∈xs.take k,byd f left key x=true)->(∀ x∈xs.drop k,byd f left key x=false)->Q (some k) st) :
  wpS (model prog w) A E s (jc left key arr base n hint) Q st:=by
 refine qb1 hA hk xs hn (fun i h=>by rw [hx i h,List.getElem?_eq_getElem h]) dk dx hh (qfq O hs) fun k h1 h2 h3=>q k h1 (fun x hx=>?_) (fun x hx=>?_)
 ·obtain ⟨i,hi,rfl⟩:=jt.mp hx
  rw [List.getElem_take]
  exact h2 i _ (by rw [yg] at hi;omega)
 ·obtain ⟨i,hi,rfl⟩:=jt.mp hx
  rw [List.getElem_drop]
  exact h3 (k+i) _ (by omega)
end
def yr (st st':SortSt):Prop:=kindOf st'=kindOf st/\arrOf st'=arrOf st/\pendingOf st'=pendingOf st/\failedOf st'=failedOf st
theorem yr.refl (st:SortSt):yr st st:=⟨rfl,rfl,rfl,rfl⟩
theorem yr.trans {a b c:SortSt}(h:yr a b) (g:yr b c):yr a c:=⟨g.1.trans h.1,g.2.1.trans h.2.1,g.2.2.1.trans h.2.2.1,g.2.2.2.trans h.2.2.2⟩
def Yg:Array Keyed->Array Keyed->StateT SortSt Sem (Array Keyed):=sortPriv% PySem.Builtin.mergeLo
def yj:Nat->StateT SortSt Sem Unit:=sortPriv% PySem.Builtin.setMinGallop
theorem yS (g:Nat):yj g=modify fun s=>SortSt.mk' (kindOf s) (arrOf s) (pendingOf s) g (failedOf s):=rfl
abbrev GS:=Option (Array Keyed)×Array Keyed×Nat×Nat×Nat×Nat×Nat
abbrev CS:=Option (Array Keyed)×Array Keyed×Nat×Nat×Nat×Nat
def qkX (a b:Array Keyed) (out:Array Keyed) (ia ib mg ac bc:Nat):StateT SortSt Sem (ForInStep GS):=do
 let x <- elem' a ia
 if (ia+1+1 == a.size)=true then pure (.done (some (out.push x++b.extract ib b.size++a.extract (ia+1) a.size),out.push x,ia+1,ib,mg,ac,bc))
 else if (decide (ac<7) && decide (bc<7))=true then pure (.done (none,out.push x,ia+1,ib,mg,ac,bc))
 else pure (.yield (none,out.push x,ia+1,ib,mg,ac,bc))
def loG3 (a b:Array Keyed) (out:Array Keyed) (ia ib mg ac bc:Nat):StateT SortSt Sem (ForInStep GS):=do
 let x <- elem' a ia
 let k <- jc true x b ib (b.size - ib) 0
 match k with
 | some k =>
  if k > 0 then
   if (ib+k == b.size)=true then pure (.done (some (out++b.extract ib (ib+k)++a.extract ia a.size++b.extract (ib+k) b.size),out++b.extract ib (ib+k),ia,ib+k,mg,ac,k))
   else qkX a b (out++b.extract ib (ib+k)) ia (ib+k) mg ac k
  else qkX a b out ia ib mg ac k
 | _=>pure (.done (some (out++a.extract ia a.size++b.extract ib b.size),out,ia,ib,mg,ac,bc))
def qkY (a b:Array Keyed) (out:Array Keyed) (ia ib mg ac bc:Nat):StateT SortSt Sem (ForInStep GS):=do
 let x <- elem' b ib
 if (ib+1 == b.size)=true then pure (.done (some (out.push x++a.extract ia a.size++b.extract (ib+1) b.size),out.push x,ia,ib+1,mg,ac,bc))
 else loG3 a b (out.push x) ia (ib+1) mg ac bc
def qkZ (a b:Array Keyed) (out:Array Keyed) (ia ib mg ac bc:Nat):StateT SortSt Sem (ForInStep GS):=do
 yj mg
 let x <- elem' b ib
 let k <- jc false x a ia (a.size - ia) 0
 match k with
 | some k =>
  if k > 0 then
   if (ia+k+1 == a.size)=true then pure (.done (some (out++a.extract ia (ia+k)++b.extract ib b.size++a.extract (ia+k) a.size),out++a.extract ia (ia+k),ia+k,ib,mg,k,bc))
   else if (ia+k == a.size)=true then pure (.done (some (out++a.extract ia (ia+k)++a.extract (ia+k) a.size++b.extract ib b.size),out++a.extract ia (ia+k),ia+k,ib,mg,k,bc))
   else qkY a b (out++a.extract ia (ia+k)) (ia+k) ib mg k bc
  else qkY a b out ia ib mg k bc
 | _=>pure (.done (some (out++a.extract ia a.size++b.extract ib b.size),out,ia,ib,mg,ac,bc))
def loGB (a b:Array Keyed) (_:Nat) (c:GS):StateT SortSt Sem (ForInStep GS) :=
 if c.2.2.2.2.1 > 1 then qkZ a b c.2.1 c.2.2.1 c.2.2.2.1 (c.2.2.2.2.1 - 1) c.2.2.2.2.2.1 c.2.2.2.2.2.2 else qkZ a b c.2.1 c.2.2.1 c.2.2.2.1 c.2.2.2.2.1 c.2.2.2.2.2.1 c.2.2.2.2.2.2
def loCB (a b:Array Keyed) (mg:Nat) (_:Nat) (c:CS):StateT SortSt Sem (ForInStep CS):=do
 let y <- elem' b c.2.2.2.1
 let x <- elem' a c.2.2.1
 let r <- lt' y x
 match r with
 | some bWins =>
  if bWins=true then do
   let y <- elem' b c.2.2.2.1
   if (c.2.2.2.1+1 == b.size)=true then pure (.done (some (c.2.1.push y++a.extract c.2.2.1 a.size++b.extract (c.2.2.2.1+1) b.size),c.2.1.push y,c.2.2.1,c.2.2.2.1+1,0,c.2.2.2.2.2+1))
   else if c.2.2.2.2.2+1 ≥ mg then pure (.done (none,c.2.1.push y,c.2.2.1,c.2.2.2.1+1,0,c.2.2.2.2.2+1))
   else pure (.yield (none,c.2.1.push y,c.2.2.1,c.2.2.2.1+1,0,c.2.2.2.2.2+1))
  else do
   let x <- elem' a c.2.2.1
   if (c.2.2.1+1+1 == a.size)=true then pure (.done (some (c.2.1.push x++b.extract c.2.2.2.1 b.size++a.extract (c.2.2.1+1) a.size),c.2.1.push x,c.2.2.1+1,c.2.2.2.1,c.2.2.2.2.1+1,0))
   else if c.2.2.2.2.1+1 ≥ mg then pure (.done (none,c.2.1.push x,c.2.2.1+1,c.2.2.2.1,c.2.2.2.2.1+1,0))
   else pure (.yield (none,c.2.1.push x,c.2.2.1+1,c.2.2.2.1,c.2.2.2.2.1+1,0))
 | _=>pure (.done (some (c.2.1++a.extract c.2.2.1 a.size++b.extract c.2.2.2.1 b.size),c.2.1,c.2.2.1,c.2.2.2.1,c.2.2.2.2.1,c.2.2.2.2.2))
abbrev OS:=Option (Array Keyed)×Array Keyed×Nat×Nat×Nat
def loOB (a b:Array Keyed) (_:Nat) (c:OS):StateT SortSt Sem (ForInStep OS):=do
 let c1 <- forIn [0:a.size+b.size] ((none,c.2.1,c.2.2.1,c.2.2.2.1,0,0):CS) (loCB a b c.2.2.2.2)
 match c1.1 with
 | some r=>pure (.done (some r,c1.2.1,c1.2.2.1,c1.2.2.2.1,c.2.2.2.2))
 | none=>do
  liftM (rule "list.sort.gallop")
  let c2 <- forIn [0:a.size+b.size] ((none,c1.2.1,c1.2.2.1,c1.2.2.2.1,c.2.2.2.2+1,c1.2.2.2.2.1,c1.2.2.2.2.2):GS) (loGB a b)
  match c2.1 with
  | some r=>pure (.done (some r,c2.2.1,c2.2.2.1,c2.2.2.2.1,c2.2.2.2.2.1))
  | none=>do
   yj (c2.2.2.2.2.1+1)
   pure (.yield (none,c2.2.1,c2.2.2.1,c2.2.2.2.1,c2.2.2.2.2.1+1))
theorem ZO (a b:Array Keyed):Yg a b=(do
 rule "list.sort.merge-lo"
 let total:=a.size+b.size
 let done (out:Array Keyed) (ia ib:Nat):=out++a.extract ia a.size++b.extract ib b.size
 let lastOfA (out:Array Keyed) (ia ib:Nat):=out++b.extract ib b.size++a.extract ia a.size
 let mut out:Array Keyed:=#[<- elem' b 0]
 let mut ia:=0
 let mut ib:=1
 if ib == b.size then return done out ia ib
 if ia+1 == a.size then return lastOfA out ia ib
 let mut minGallop:=gallopOf (<- get)
 for _ in [0:total] do
  let mut acount:=0
  let mut bcount:=0
  for _ in [0:total] do
   let some bWins <- lt' (<- elem' b ib) (<- elem' a ia) | return done out ia ib
   if bWins then
    out:=out.push (<- elem' b ib);ib:=ib+1;bcount:=bcount+1;acount:=0
    if ib == b.size then return done out ia ib
    if bcount ≥ minGallop then break
   else
    out:=out.push (<- elem' a ia);ia:=ia+1;acount:=acount+1;bcount:=0
    if ia+1 == a.size then return lastOfA out ia ib
    if acount ≥ minGallop then break
  rule "list.sort.gallop"
  minGallop:=minGallop+1
  for _ in [0:total] do
   if minGallop > 1 then minGallop:=minGallop - 1
   yj minGallop
   let some k <- jc false (<- elem' b ib) a ia (a.size - ia) 0 | return done out ia ib
   acount:=k
   if k > 0 then
    out:=out++a.extract ia (ia+k);ia:=ia+k
    if ia+1 == a.size then return lastOfA out ia ib
    if ia == a.size then return done out ia ib
   out:=out.push (<- elem' b ib);ib:=ib+1
   if ib == b.size then return done out ia ib
   let some k <- jc true (<- elem' a ia) b ib (b.size - ib) 0 | return done out ia ib
   bcount:=k
   if k > 0 then
    out:=out++b.extract ib (ib+k);ib:=ib+k
    if ib == b.size then return done out ia ib
   out:=out.push (<- elem' a ia);ia:=ia+1
   if ia+1 == a.size then return lastOfA out ia ib
   if acount<7 && bcount<7 then break
  minGallop:=minGallop+1
  yj minGallop
 unsupported "internal:list.sort.merge-bound"):=rfl
theorem qaw (a b:Array Keyed):Yg a b=(do
 liftM (rule "list.sort.merge-lo")
 let y <- elem' b 0
 if (1 == b.size)=true then pure (#[y]++a.extract 0 a.size++b.extract 1 b.size)
 else if (0+1 == a.size)=true then pure (#[y]++b.extract 1 b.size++a.extract 0 a.size)
 else do
  let g <- get
  let c <- forIn [0:a.size+b.size] ((none,#[y],0,1,gallopOf g):OS) (loOB a b)
  match c.1 with
  | some r=>pure r
  | none=>liftM (unsupported "internal:list.sort.merge-bound" : Sem (Array Keyed))):=by
 rw [ZO]
 dsimp only
 congr 1
 funext _u
 congr 1
 funext y
 congr 1
 congr 1
 congr 1
 funext g
 congr 1
 ·congr 1
  funext i c
  unfold loOB
  congr 1
  funext c1
  obtain ⟨r1,o1,ia1,ib1,ac1,bc1⟩:=c1
  cases r1 with
  | some r=>rfl
  | none =>
   dsimp only
   congr 1
   funext _v
   congr 1
   funext c2
   obtain ⟨r2,o2,ia2,ib2,m2,ac2,bc2⟩:=c2
   cases r2 <;> rfl
 ·funext c
  obtain ⟨r,o,ia,ib,m⟩:=c
  cases r <;> rfl
section
variable {prog:Program}{w:World}{A:Around}{E:Value->Shared->Prop}{s:Shared}{kd:SortKind}{D:Keyed->Prop}{f:Keyed->Keyed->Bool}{a b:Array Keyed}
def Ju (f:Keyed->Keyed->Bool) (a b:Array Keyed) (o:Array Keyed):Prop:=SdK f o.toList/\o.toList.Perm (a.toList++b.toList)
structure JL (f:Keyed->Keyed->Bool) (a b out:Array Keyed) (ia ib:Nat):Prop where
 s1:SdK f (out.toList++a.toList.drop ia)
 s2:SdK f (out.toList++b.toList.drop ib)
 pm:(out.toList++(a.toList.drop ia++b.toList.drop ib)).Perm (a.toList++b.toList)
structure Both (D:Keyed->Prop) (f:Keyed->Keyed->Bool) (a b:Array Keyed):Prop where
 da:∀ x∈a.toList,D x
 db:∀ x∈b.toList,D x
 na:0<a.size
 nb:0<b.size
 last:∀ x∈b.toList,f x (a[a.size - 1]'(by omega))=true
 first:f (b[0]'nb) (a[0]'na)=true
 sa:SdK f a.toList
 sb:SdK f b.toList
theorem JL.size (j:JL f a b out ia ib) (h1:ia<=a.size) (h2:ib<=b.size):out.size=ia+ib:=by
 have:=j.pm.length_eq
 simp at this
 omega
theorem getD? {xs:Array Keyed}{i:Nat}(h:i<xs.size):xs[i]?=some xs[i]:=jo h
theorem jF {xs:Array Keyed}{i:Nat}(h:i<xs.size):xs.toList.drop i=xs[i]::xs.toList.drop (i+1):=by
 rw [List.drop_eq_getElem_cons (by simpa using h)];rfl
theorem Yv (O:OrdK f) {xs:Array Keyed}{i:Nat}(hs:SdK f xs.toList) (h:i<xs.size) {y:Keyed}(hy:y∈xs.toList.drop i):f y xs[i]=false:=by
 rw [jF h] at hy
 rcases List.mem_cons.mp hy with rfl | hy
 ·exact O.irr _
 ·have:SdK f (xs.toList.drop i):=List.Pairwise.sublist (List.drop_sublist _ _) hs
  rw [jF h] at this
  exact (List.pairwise_cons.mp this).1 _ hy
theorem JL.pushB (O:OrdK f) (hb:Both D f a b) (j:JL f a b out ia ib) (h1:ia<a.size) (h2:ib<b.size) (h:f a[ia] b[ib]=false):JL f a b (out.push b[ib]) ia (ib+1):=by
 have e:=jF h2
 have s2:=j.s2
 have pm:=j.pm
 rw [e] at s2 pm
 obtain ⟨g1,g2⟩:=mv (X:=[b[ib]]) s2 j.s1 (fun x hx y hy=>by
  rw [qI.mp hx]
  exact O.le h (Yv O hb.sa h1 hy))
 refine ⟨by rw [Array.toList_push];exact g2,by rw [Array.toList_push];exact g1,?_⟩
 rw [Array.toList_push,qo]
 refine List.Perm.trans (List.Perm.append_left _ ?_) pm
 exact (List.perm_middle (l₁:=a.toList.drop ia) (l₂:=b.toList.drop (ib+1)) (a:=b[ib])).symm
theorem JL.pushA (O:OrdK f) (hb:Both D f a b) (j:JL f a b out ia ib) (h1:ia<a.size) (h2:ib<b.size) (h:f b[ib] a[ia]=false):JL f a b (out.push a[ia]) (ia+1) ib:=by
 have e:=jF h1
 have s1:=j.s1
 have pm:=j.pm
 rw [e] at s1 pm
 obtain ⟨g1,g2⟩:=mv (X:=[a[ia]]) s1 j.s2 (fun x hx y hy=>by
  rw [qI.mp hx]
  exact O.le h (Yv O hb.sb h2 hy))
 refine ⟨by rw [Array.toList_push];exact g1,by rw [Array.toList_push];exact g2,?_⟩
 rw [Array.toList_push,qo]
 exact pm
theorem jW (xs:Array Keyed) (i k:Nat):(xs.extract i (i+k)).toList=(xs.toList.drop i).take k:=by
 simp [Array.toList_extract,List.extract_eq_take_drop]
theorem jL (xs:Array Keyed) (i:Nat):(xs.extract i xs.size).toList=xs.toList.drop i:=by
 simp [Array.toList_extract,List.extract_eq_take_drop]
 exact List.take_of_length_le (by simp)
theorem YO (xs:Array Keyed) (i k:Nat):xs.toList.drop i=(xs.toList.drop i).take k++xs.toList.drop (i+k):=by
 have:=(qA k (xs.toList.drop i)).symm
 rwa [List.drop_drop] at this
theorem JL.chunkA (O:OrdK f) (hb:Both D f a b) (j:JL f a b out ia ib) (h2:ib<b.size) {k:Nat}(h:∀ x∈(a.toList.drop ia).take k,f b[ib] x=false):JL f a b (out++a.extract ia (ia+k)) (ia+k) ib:=by
 have s1:=j.s1
 have pm:=j.pm
 rw [YO a ia k] at s1 pm
 obtain ⟨g1,g2⟩:=mv s1 j.s2 (fun x hx y hy=>O.le (h x hx) (Yv O hb.sb h2 hy))
 refine ⟨by rw [Array.toList_append,jW];exact g1,by rw [Array.toList_append,jW];exact g2,?_⟩
 rw [Array.toList_append,jW,qo,<- qo ((a.toList.drop ia).take k)]
 exact pm
theorem JL.chunkB (O:OrdK f) (hb:Both D f a b) (j:JL f a b out ia ib) (h1:ia<a.size) {k:Nat}(h:∀ x∈(b.toList.drop ib).take k,f a[ia] x=false):JL f a b (out++b.extract ib (ib+k)) ia (ib+k):=by
 have s2:=j.s2
 have pm:=j.pm
 rw [YO b ib k] at s2 pm
 obtain ⟨g1,g2⟩:=mv s2 j.s1 (fun x hx y hy=>O.le (h x hx) (Yv O hb.sa h1 hy))
 refine ⟨by rw [Array.toList_append,jW];exact g2,by rw [Array.toList_append,jW];exact g1,?_⟩
 rw [Array.toList_append,jW,qo]
 refine List.Perm.trans (List.Perm.append_left _ ?_) pm
 rw [<- qo,<- qo]
 exact List.Perm.append_right _ List.perm_append_comm
theorem JL.done (j:JL f a b out ia ib) (h:a.size<=ia\/b.size<=ib):Ju f a b (out++a.extract ia a.size++b.extract ib b.size):=by
 refine ⟨?_,?_⟩
 ·rw [Array.toList_append,Array.toList_append,jL,jL]
  rcases h with h | h
  ·rw [List.drop_of_length_le (show a.toList.length<=ia by simpa using h),List.append_nil]
   exact j.s2
  ·rw [List.drop_of_length_le (show b.toList.length<=ib by simpa using h),List.append_nil]
   exact j.s1
 ·rw [Array.toList_append,Array.toList_append,jL,jL,qo]
  exact j.pm
theorem JL.lastA (O:OrdK f) (hb:Both D f a b) (j:JL f a b out ia ib) (h:ia+1=a.size):Ju f a b (out++b.extract ib b.size++a.extract ia a.size):=by
 have e:a.toList.drop ia=[a[ia]]:=by
  rw [jF (show ia<a.size by omega),List.drop_of_length_le (by simp;omega)]
 refine ⟨?_,?_⟩
 ·rw [Array.toList_append,Array.toList_append,jL,jL]
  have s1:=j.s1
  rw [e] at s1 ⊢
  unfold SdK at *
  obtain ⟨_,_,g3⟩:=qJ.mp s1
  refine qJ.mpr ⟨j.s2,List.pairwise_singleton _ _,fun x hx y hy=>?_⟩
  rcases List.mem_append.mp hx with z | z
  ·exact g3 x z y hy
  ·rw [qI.mp hy]
   have:=hb.last x (yN z)
   have e2:a.size - 1=ia:=by omega
   simp only [e2] at this
   exact O.asym _ _ this
 ·rw [Array.toList_append,Array.toList_append,jL,jL,qo]
  exact List.Perm.trans (List.Perm.append_left _ List.perm_append_comm) j.pm
def qfy (f:Keyed->Keyed->Bool) (a b:Array Keyed) (st:SortSt) (n0:Nat) (r:ForInStep GS) (st':SortSt):Prop:=yr st st'/\match r with
 | .done (some o,_)=>Ju f a b o
 | .done (none,out,ia,ib,_)=>JL f a b out ia ib/\ia+1<a.size/\ib<b.size/\n0<=ia+ib
 | .yield (none,out,ia,ib,_)=>JL f a b out ia ib/\ia+1<a.size/\ib<b.size/\n0<=ia+ib
 | .yield (some _,_)=>False
theorem ym {xs:Array Keyed}{i:Nat}(h:i<xs.size) {st:SortSt}{Q:Keyed->SortSt->Prop}(q:Q xs[i] st):wpS (model prog w) A E s (elem' xs i) Q st:=by
 rw [elem'_eq,getD? h]
 exact ql q
theorem qbV (O:OrdK f) (hb:Both D f a b) {st0 st:SortSt}(hst:yr st0 st) {out:Array Keyed}{ia ib mg ac bc n0:Nat}(j:JL f a b out ia ib) (h1:ia+1<a.size) (h2:ib<b.size) (hn:n0<=ia+ib) (h:f b[ib] (a[ia]'(by omega))=false) :
  wpS (model prog w) A E s (qkX a b out ia ib mg ac bc) (qfy f a b st0 n0) st:=by
 unfold qkX
 refine qf (ym (show ia<a.size by omega) ?_)
 have j2:=j.pushA O hb (show ia<a.size by omega) h2 h
 by_cases e:ia+1+1=a.size
 ·rw [if_pos (by simpa using e)]
  exact ql ⟨hst,j2.lastA O hb e⟩
 ·rw [if_neg (by simpa using e)]
  split
  ·exact ql ⟨hst,j2,by omega,h2,by omega⟩
  ·exact ql ⟨hst,j2,by omega,h2,by omega⟩
theorem qgI (hA:Ask prog w A E s kd D f) (O:OrdK f) (hb:Both D f a b) {st0 st:SortSt}(hk:kindOf st0=kd) (hst:yr st0 st) {out:Array Keyed}{ia ib mg ac bc n0:Nat}(j:JL f a b out ia ib) (h1:ia+1<a.size) (h2:ib<b.size) (hn:n0<=ia+ib) :
  wpS (model prog w) A E s (loG3 a b out ia ib mg ac bc) (qfy f a b st0 n0) st:=by
 unfold loG3
 refine qf (ym (show ia<a.size by omega) ?_)
 refine qf (YI hA O (hst.1.trans hk) (b.toList.drop ib) (by simp) (fun i hi=>?_) (hb.da _ (by simp)) (fun x hx=>hb.db x (yN hx)) (by omega) (List.Pairwise.sublist (List.drop_sublist _ _) hb.sb) fun k hk1 hk2 hk3=>?_)
 ·rw [List.getElem?_drop,qj]
 have hlt:∀ x∈(b.toList.drop ib).take k,f x (a[ia]'(by omega))=true:=fun x hx=>hk2 x hx
 have hge:∀ x∈(b.toList.drop ib).drop k,f x (a[ia]'(by omega))=false:=fun x hx=>hk3 x hx
 have j2:=j.chunkB O hb (show ia<a.size by omega) (k:=k) (fun x hx=>O.asym _ _ (hlt x hx))
 have nxt:∀ h:ib+k<b.size,f b[ib+k] (a[ia]'(by omega))=false:=fun h=>hge _ (by
  rw [List.drop_drop,jF h]
  exact qv)
 dsimp only
 by_cases hk0:k > 0
 ·rw [if_pos hk0]
  by_cases e:ib+k=b.size
  ·rw [if_pos (by simpa using e)]
   exact ql ⟨hst,j2.done (.inr (by omega))⟩
  ·rw [if_neg (by simpa using e)]
   exact qbV O hb hst j2 h1 (by omega) (by omega) (nxt (by omega))
 ·rw [if_neg hk0]
  have:k=0:=by omega
  subst this
  exact qbV O hb hst j h1 h2 hn (nxt h2)
theorem qbW (hA:Ask prog w A E s kd D f) (O:OrdK f) (hb:Both D f a b) {st0 st:SortSt}(hk:kindOf st0=kd) (hst:yr st0 st) {out:Array Keyed}{ia ib mg ac bc n0:Nat}(j:JL f a b out ia ib) (h1:ia+1<a.size) (h2:ib<b.size) (hn:n0<=ia+ib) (h:f (a[ia]'(by omega)) b[ib]=false) :
  wpS (model prog w) A E s (qkY a b out ia ib mg ac bc) (qfy f a b st0 n0) st:=by
 unfold qkY
 refine qf (ym h2 ?_)
 have j2:=j.pushB O hb (show ia<a.size by omega) h2 h
 by_cases e:ib+1=b.size
 ·rw [if_pos (by simpa using e)]
  exact ql ⟨hst,j2.done (.inr (by omega))⟩
 ·rw [if_neg (by simpa using e)]
  exact qgI hA O hb hk hst j2 h1 (by omega) (by omega)
theorem qbX (hA:Ask prog w A E s kd D f) (O:OrdK f) (hb:Both D f a b) {st0 st:SortSt}(hk:kindOf st0=kd) (hst:yr st0 st) {out:Array Keyed}{ia ib mg ac bc n0:Nat}(j:JL f a b out ia ib) (h1:ia+1<a.size) (h2:ib<b.size) (hn:n0<=ia+ib) :
  wpS (model prog w) A E s (qkZ a b out ia ib mg ac bc) (qfy f a b st0 n0) st:=by
 unfold qkZ
 rw [yS]
 refine qf (ju ?_)
 have hst2:=hst.trans (show yr st (SortSt.mk' (kindOf st) (arrOf st) (pendingOf st) mg (failedOf st)) from ⟨rfl,rfl,rfl,rfl⟩)
 generalize SortSt.mk' (kindOf st) (arrOf st) (pendingOf st) mg (failedOf st)=st2 at hst2 ⊢
 refine qf (ym h2 ?_)
 refine qf (YI hA O (hst2.1.trans hk) (a.toList.drop ia) (by simp) (fun i hi=>?_) (hb.db _ (by simp)) (fun x hx=>hb.da x (yN hx)) (by omega) (List.Pairwise.sublist (List.drop_sublist _ _) hb.sa) fun k hk1 hk2 hk3=>?_)
 ·rw [List.getElem?_drop,qj]
 have hle:∀ x∈(a.toList.drop ia).take k,f b[ib] x=false:=fun x hx=>by
  have:=hk2 x hx
  simpa [byd] using this
 have hgt:∀ x∈(a.toList.drop ia).drop k,f b[ib] x=true:=fun x hx=>by
  have:=hk3 x hx
  simpa [byd] using this
 have j2:=j.chunkA O hb h2 (k:=k) hle
 have nxt:∀ h:ia+k<a.size,f a[ia+k] b[ib]=false:=fun h=>O.asym _ _ (hgt _ (by
  rw [List.drop_drop,jF h]
  exact qv))
 dsimp only
 by_cases hk0:k > 0
 ·rw [if_pos hk0]
  by_cases e:ia+k+1=a.size
  ·rw [if_pos (by simpa using e)]
   exact ql ⟨hst2,j2.lastA O hb e⟩
  ·rw [if_neg (by simpa using e)]
   by_cases e2:ia+k=a.size
   ·rw [if_pos (by simpa using e2)]
    exact ql ⟨hst2,j2.done (.inl (by omega))⟩
   ·rw [if_neg (by simpa using e2)]
    exact qbW hA O hb hk hst2 j2 (by omega) h2 (by omega) (nxt (by omega))
 ·rw [if_neg hk0]
  have:k=0:=by omega
  subst this
  exact qbW hA O hb hk hst2 j h1 h2 hn (nxt (by omega))
def CPost (f:Keyed->Keyed->Bool) (a b:Array Keyed) (st:SortSt) (n0:Nat) (r:CS) (st':SortSt):Prop:=yr st st'/\match r with
 | (some o,_)=>Ju f a b o
 | (none,out,ia,ib,_)=>JL f a b out ia ib/\ia+1<a.size/\ib<b.size/\n0<ia+ib
theorem qiy (hA:Ask prog w A E s kd D f) (O:OrdK f) (hb:Both D f a b) {st:SortSt}(hk:kindOf st=kd) {out:Array Keyed}{ia ib mg:Nat}(j:JL f a b out ia ib) (h1:ia+1<a.size) (h2:ib<b.size) :
  wpS (model prog w) A E s (forIn [0:a.size+b.size] ((none,out,ia,ib,0,0):CS) (loCB a b mg)) (CPost f a b st (ia+ib)) st:=by
 refine yf (I:=fun x c st'=>yr st st'/\∃ out' ia' ib' ac bc,c=(none,out',ia',ib',ac,bc)/\JL f a b out' ia' ib'/\ia'+1<a.size/\ib'<b.size/\ia+ib+x<=ia'+ib') ?step ?fin ⟨yr.refl _,out,ia,ib,0,0,rfl,j,h1,h2,by omega⟩
 case fin =>
  rintro c st' ⟨hst,out',ia',ib',ac,bc,rfl,j',g1,g2,g3⟩
  exact ⟨hst,j',g1,g2,by omega⟩
 case step =>
  rintro x c st' _ hx ⟨hst,out',ia',ib',ac,bc,rfl,j',g1,g2,g3⟩
  unfold loCB
  dsimp only
  refine qf (ym g2 (qf (ym (show ia'<a.size by omega) ?_)))
  refine qf (hA _ _ _ _ (hb.db _ (by simp)) (hb.da _ (by simp)) (hst.1.trans hk) ?_)
  dsimp only
  cases c:f b[ib'] (a[ia']'(by omega)) with
  | true =>
   simp only [if_true]
   refine qf (ym g2 ?_)
   have j2:=j'.pushB O hb (show ia'<a.size by omega) g2 (O.asym _ _ c)
   by_cases e:ib'+1=b.size
   ·rw [if_pos (by simpa using e)]
    exact ql ⟨hst,j2.done (.inr (by omega))⟩
   ·rw [if_neg (by simpa using e)]
    split
    ·exact ql ⟨hst,j2,g1,by omega,by omega⟩
    ·exact ql ⟨hst,_,_,_,_,_,rfl,j2,g1,by omega,by omega⟩
  | false =>
   simp only [Bool.false_eq_true,if_false]
   refine qf (ym (show ia'<a.size by omega) ?_)
   have j2:=j'.pushA O hb (show ia'<a.size by omega) g2 c
   by_cases e:ia'+1+1=a.size
   ·rw [if_pos (by simpa using e)]
    exact ql ⟨hst,j2.lastA O hb e⟩
   ·rw [if_neg (by simpa using e)]
    split
    ·exact ql ⟨hst,j2,by omega,g2,by omega⟩
    ·exact ql ⟨hst,_,_,_,_,_,rfl,j2,by omega,g2,by omega⟩
def qkK (f:Keyed->Keyed->Bool) (a b:Array Keyed) (st:SortSt) (n0:Nat) (r:GS) (st':SortSt):Prop:=yr st st'/\match r with
 | (some o,_)=>Ju f a b o
 | (none,out,ia,ib,_)=>JL f a b out ia ib/\ia+1<a.size/\ib<b.size/\n0<=ia+ib
theorem qix (hA:Ask prog w A E s kd D f) (O:OrdK f) (hb:Both D f a b) {st0 st:SortSt}(hk:kindOf st0=kd) (hst:yr st0 st) {out:Array Keyed}{ia ib mg ac bc:Nat}(j:JL f a b out ia ib) (h1:ia+1<a.size) (h2:ib<b.size) :
  wpS (model prog w) A E s (forIn [0:a.size+b.size] ((none,out,ia,ib,mg,ac,bc):GS) (loGB a b)) (qkK f a b st0 (ia+ib)) st:=by
 refine yf (I:=fun x c st'=>yr st0 st'/\∃ out' ia' ib' mg ac bc,c=(none,out',ia',ib',mg,ac,bc)/\JL f a b out' ia' ib'/\ia'+1<a.size/\ib'<b.size/\ia+ib<=ia'+ib') ?step ?fin ⟨hst,out,ia,ib,mg,ac,bc,rfl,j,h1,h2,by omega⟩
 case fin =>
  rintro c st' ⟨hst,out',ia',ib',mg,ac,bc,rfl,j',g1,g2,g3⟩
  exact ⟨hst,j',g1,g2,g3⟩
 case step =>
  rintro x c st' _ hx ⟨hst,out',ia',ib',mg,ac,bc,rfl,j',g1,g2,g3⟩
  unfold loGB
  dsimp only
  split
  ·refine y3 (qbX hA O hb hk hst j' g1 g2 g3) fun r st'' h=>?_
   obtain ⟨h0,h⟩:=h
   match r,h with
   | .done (some o,_),h=>exact ⟨h0,h⟩
   | .done (none,out,ia,ib,_),h=>exact ⟨h0,h⟩
   | .yield (none,out,ia,ib,m,c,d),h=>exact ⟨h0,_,_,_,_,_,_,rfl,h⟩
  ·refine y3 (qbX hA O hb hk hst j' g1 g2 g3) fun r st'' h=>?_
   obtain ⟨h0,h⟩:=h
   match r,h with
   | .done (some o,_),h=>exact ⟨h0,h⟩
   | .done (none,out,ia,ib,_),h=>exact ⟨h0,h⟩
   | .yield (none,out,ia,ib,m,c,d),h=>exact ⟨h0,_,_,_,_,_,_,rfl,h⟩
theorem qbu (hA:Ask prog w A E s kd D f) (O:OrdK f) (hb:Both D f a b) {st:SortSt}(hk:kindOf st=kd) {Q:Array Keyed->SortSt->Prop}(q:∀ o st',yr st st'->Ju f a b o->Q o st') :
  wpS (model prog w) A E s (Yg a b) Q st:=by
 rw [qaw]
 refine qf (wpS_lift (wpAny_rule ⟨rfl,?_⟩))
 refine qf (ym hb.nb ?_)
 have na:=hb.na
 have nb:=hb.nb
 have j0:JL f a b #[] 0 0:=⟨by simpa using hb.sa,by simpa using hb.sb,by simp⟩
 have j1:JL f a b #[b[0]'nb] 0 1:=by
  have:=j0.pushB O hb na nb (O.asym _ _ hb.first)
  simpa using this
 by_cases e:b.size=1
 ·rw [if_pos (by simp [e])]
  exact ql (q _ _ (yr.refl _) (j1.done (.inr (by omega))))
 ·rw [if_neg (by simpa using fun z:1=b.size=>e z.symm)]
  by_cases e2:0+1=a.size
  ·rw [if_pos (by simpa using e2)]
   exact ql (q _ _ (yr.refl _) (j1.lastA O hb e2))
  ·rw [if_neg (by simpa using e2)]
   refine qf (wpS_get ?_)
   refine qf (y3 (yf (I:=fun x c st'=>yr st st'/\∃ out ia ib mg,c=(none,out,ia,ib,mg)/\JL f a b out ia ib/\ia+1<a.size/\ib<b.size/\x+1<=ia+ib)
    (Q:=fun c st'=>yr st st'/\∃ o r,c=(some o,r)/\Ju f a b o) ?step ?fin ⟨yr.refl _,_,_,_,_,rfl,j1,by omega,by omega,by omega⟩) ?post)
   case fin =>
    rintro c st' ⟨hst,out,ia,ib,mg,rfl,j,g1,g2,g3⟩
    omega
   case post =>
    rintro c st' ⟨hst,o,r,rfl,h⟩
    exact ql (q o st' hst h)
   case step =>
    rintro x c st' _ hx ⟨hst,out,ia,ib,mg,rfl,j,g1,g2,g3⟩
    unfold loOB
    dsimp only
    refine qf (y3 (qiy hA O hb (hst.1.trans hk) j g1 g2) ?_)
    rintro c1 st1 ⟨hst1,h⟩
    match c1,h with
    | (some o,out,ia,ib,_),h=>exact ql ⟨hst.trans hst1,o,_,rfl,h⟩
    | (none,out1,ia1,ib1,ac,bc),⟨j1,k1,k2,k3⟩ =>
     dsimp only
     refine qf (wpS_lift (wpAny_rule ⟨rfl,?_⟩))
     refine qf (y3 (qix hA O hb hk (hst.trans hst1) j1 k1 k2) ?_)
     rintro c2 st2 ⟨hst2,h⟩
     match c2,h with
     | (some o,out,ia,ib,mg,_),h=>exact ql ⟨hst2,o,_,rfl,h⟩
     | (none,out2,ia2,ib2,mg2,ac,bc),⟨j2,l1,l2,l3⟩ =>
      dsimp only
      rw [yS]
      refine qf (ju (ql ⟨hst2.trans ⟨rfl,rfl,rfl,rfl⟩,_,_,_,_,rfl,j2,l1,l2,by omega⟩))
end
end L2
namespace L2
open PySem PySem.Spec PyProof.Rows PySem.W
def Yh:Array Keyed->Array Keyed->StateT SortSt Sem (Array Keyed):=sortPriv% PySem.Builtin.mergeHi
abbrev GH:=Option (Array Keyed)×Nat×Nat×Array Keyed×Nat×Nat×Nat
abbrev CH:=Option (Array Keyed)×Nat×Nat×Array Keyed×Nat×Nat
abbrev OH:=Option (Array Keyed)×Nat×Nat×Array Keyed×Nat
def YH (a b out:Array Keyed) (na nb:Nat):Array Keyed:=a.extract 0 na++b.extract 0 nb++out.reverse
def YN (a b out:Array Keyed) (na nb:Nat):Array Keyed:=b.extract 0 nb++a.extract 0 na++out.reverse
def qk0 (a b:Array Keyed) (na nb:Nat) (out:Array Keyed) (mg ac bc:Nat):StateT SortSt Sem (ForInStep GH):=do
 let x <- elem' a (na - 1)
 if (na - 1 == 0)=true then pure (.done (some (YH a b (out.push x) (na - 1) nb),na - 1,nb,out.push x,mg,ac,bc))
 else if (decide (ac<7) && decide (bc<7))=true then pure (.done (none,na - 1,nb,out.push x,mg,ac,bc))
 else pure (.yield (none,na - 1,nb,out.push x,mg,ac,bc))
def hiG3 (a b:Array Keyed) (na nb:Nat) (out:Array Keyed) (mg ac bc:Nat):StateT SortSt Sem (ForInStep GH):=do
 let x <- elem' a (na - 1)
 let k <- jc true x b 0 nb (nb - 1)
 match k with
 | some at_ =>
  if nb - at_ > 0 then
   if (at_ == 1)=true then pure (.done (some (YN a b (out++(b.extract at_ nb).reverse) na at_),na,at_,out++(b.extract at_ nb).reverse,mg,ac,nb - at_))
   else if (at_ == 0)=true then pure (.done (some (YH a b (out++(b.extract at_ nb).reverse) na at_),na,at_,out++(b.extract at_ nb).reverse,mg,ac,nb - at_))
   else qk0 a b na at_ (out++(b.extract at_ nb).reverse) mg ac (nb - at_)
  else qk0 a b na nb out mg ac (nb - at_)
 | _=>pure (.done (some (YH a b out na nb),na,nb,out,mg,ac,bc))
def qk1 (a b:Array Keyed) (na nb:Nat) (out:Array Keyed) (mg ac bc:Nat):StateT SortSt Sem (ForInStep GH):=do
 let x <- elem' b (nb - 1)
 if (nb - 1 == 1)=true then pure (.done (some (YN a b (out.push x) na (nb - 1)),na,nb - 1,out.push x,mg,ac,bc))
 else hiG3 a b na (nb - 1) (out.push x) mg ac bc
def qk2 (a b:Array Keyed) (na nb:Nat) (out:Array Keyed) (mg ac bc:Nat):StateT SortSt Sem (ForInStep GH):=do
 yj mg
 let x <- elem' b (nb - 1)
 let k <- jc false x a 0 na (na - 1)
 match k with
 | some at_ =>
  if na - at_ > 0 then
   if (at_ == 0)=true then pure (.done (some (YH a b (out++(a.extract at_ na).reverse) at_ nb),at_,nb,out++(a.extract at_ na).reverse,mg,na - at_,bc))
   else qk1 a b at_ nb (out++(a.extract at_ na).reverse) mg (na - at_) bc
  else qk1 a b na nb out mg (na - at_) bc
 | _=>pure (.done (some (YH a b out na nb),na,nb,out,mg,ac,bc))
def hiGB (a b:Array Keyed) (_:Nat) (c:GH):StateT SortSt Sem (ForInStep GH) :=
 if c.2.2.2.2.1 > 1 then qk2 a b c.2.1 c.2.2.1 c.2.2.2.1 (c.2.2.2.2.1 - 1) c.2.2.2.2.2.1 c.2.2.2.2.2.2 else qk2 a b c.2.1 c.2.2.1 c.2.2.2.1 c.2.2.2.2.1 c.2.2.2.2.2.1 c.2.2.2.2.2.2
def hiCB (a b:Array Keyed) (mg:Nat) (_:Nat) (c:CH):StateT SortSt Sem (ForInStep CH):=do
 let y <- elem' b (c.2.2.1 - 1)
 let x <- elem' a (c.2.1 - 1)
 let r <- lt' y x
 match r with
 | some aWins =>
  if aWins=true then do
   let x <- elem' a (c.2.1 - 1)
   if (c.2.1 - 1 == 0)=true then pure (.done (some (YH a b (c.2.2.2.1.push x) (c.2.1 - 1) c.2.2.1),c.2.1 - 1,c.2.2.1,c.2.2.2.1.push x,c.2.2.2.2.1+1,0))
   else if c.2.2.2.2.1+1 ≥ mg then pure (.done (none,c.2.1 - 1,c.2.2.1,c.2.2.2.1.push x,c.2.2.2.2.1+1,0))
   else pure (.yield (none,c.2.1 - 1,c.2.2.1,c.2.2.2.1.push x,c.2.2.2.2.1+1,0))
  else do
   let y <- elem' b (c.2.2.1 - 1)
   if (c.2.2.1 - 1 == 1)=true then pure (.done (some (YN a b (c.2.2.2.1.push y) c.2.1 (c.2.2.1 - 1)),c.2.1,c.2.2.1 - 1,c.2.2.2.1.push y,0,c.2.2.2.2.2+1))
   else if c.2.2.2.2.2+1 ≥ mg then pure (.done (none,c.2.1,c.2.2.1 - 1,c.2.2.2.1.push y,0,c.2.2.2.2.2+1))
   else pure (.yield (none,c.2.1,c.2.2.1 - 1,c.2.2.2.1.push y,0,c.2.2.2.2.2+1))
 | _=>pure (.done (some (YH a b c.2.2.2.1 c.2.1 c.2.2.1),c.2.1,c.2.2.1,c.2.2.2.1,c.2.2.2.2.1,c.2.2.2.2.2))
def hiOB (a b:Array Keyed) (_:Nat) (c:OH):StateT SortSt Sem (ForInStep OH):=do
 let c1 <- forIn [0:a.size+b.size] ((none,c.2.1,c.2.2.1,c.2.2.2.1,0,0):CH) (hiCB a b c.2.2.2.2)
 match c1.1 with
 | some r=>pure (.done (some r,c1.2.1,c1.2.2.1,c1.2.2.2.1,c.2.2.2.2))
 | none=>do
  liftM (rule "list.sort.gallop")
  let c2 <- forIn [0:a.size+b.size] ((none,c1.2.1,c1.2.2.1,c1.2.2.2.1,c.2.2.2.2+1,c1.2.2.2.2.1,c1.2.2.2.2.2):GH) (hiGB a b)
  match c2.1 with
  | some r=>pure (.done (some r,c2.2.1,c2.2.2.1,c2.2.2.2.1,c2.2.2.2.2.1))
  | none=>do
   yj (c2.2.2.2.2.1+1)
   pure (.yield (none,c2.2.1,c2.2.2.1,c2.2.2.2.1,c2.2.2.2.2.1+1))
theorem ZP (a b:Array Keyed):Yh a b=(do
 rule "list.sort.merge-hi"
 let total:=a.size+b.size
 let done (out:Array Keyed) (na nb:Nat):=a.extract 0 na++b.extract 0 nb++out.reverse
 let firstOfB (out:Array Keyed) (na nb:Nat):=b.extract 0 nb++a.extract 0 na++out.reverse
 let mut na:=a.size - 1
 let mut nb:=b.size
 let mut out:Array Keyed:=#[<- elem' a na]
 if na == 0 then return done out na nb
 if nb == 1 then return firstOfB out na nb
 let mut minGallop:=gallopOf (<- get)
 for _ in [0:total] do
  let mut acount:=0
  let mut bcount:=0
  for _ in [0:total] do
   let some aWins <- lt' (<- elem' b (nb - 1)) (<- elem' a (na - 1)) | return done out na nb
   if aWins then
    na:=na - 1;out:=out.push (<- elem' a na);acount:=acount+1;bcount:=0
    if na == 0 then return done out na nb
    if acount ≥ minGallop then break
   else
    nb:=nb - 1;out:=out.push (<- elem' b nb);bcount:=bcount+1;acount:=0
    if nb == 1 then return firstOfB out na nb
    if bcount ≥ minGallop then break
  rule "list.sort.gallop"
  minGallop:=minGallop+1
  for _ in [0:total] do
   if minGallop > 1 then minGallop:=minGallop - 1
   yj minGallop
   let some at_ <- jc false (<- elem' b (nb - 1)) a 0 na (na - 1) | return done out na nb
   let k:=na - at_
   acount:=k
   if k > 0 then
    out:=out++(a.extract at_ na).reverse;na:=at_
    if na == 0 then return done out na nb
   nb:=nb - 1;out:=out.push (<- elem' b nb)
   if nb == 1 then return firstOfB out na nb
   let some at_ <- jc true (<- elem' a (na - 1)) b 0 nb (nb - 1) | return done out na nb
   let k:=nb - at_
   bcount:=k
   if k > 0 then
    out:=out++(b.extract at_ nb).reverse;nb:=at_
    if nb == 1 then return firstOfB out na nb
    if nb == 0 then return done out na nb
   na:=na - 1;out:=out.push (<- elem' a na)
   if na == 0 then return done out na nb
   if acount<7 && bcount<7 then break
  minGallop:=minGallop+1
  yj minGallop
 unsupported "internal:list.sort.merge-bound"):=rfl
theorem qax (a b:Array Keyed):Yh a b=(do
 liftM (rule "list.sort.merge-hi")
 let x <- elem' a (a.size - 1)
 if (a.size - 1 == 0)=true then pure (YH a b #[x] (a.size - 1) b.size)
 else if (b.size == 1)=true then pure (YN a b #[x] (a.size - 1) b.size)
 else do
  let g <- get
  let c <- forIn [0:a.size+b.size] ((none,a.size - 1,b.size,#[x],gallopOf g):OH) (hiOB a b)
  match c.1 with
  | some r=>pure r
  | none=>liftM (unsupported "internal:list.sort.merge-bound" : Sem (Array Keyed))):=by
 rw [ZP]
 dsimp only
 congr 1
 funext _u
 congr 1
 funext y
 congr 1
 congr 1
 congr 1
 funext g
 congr 1
 ·congr 1
  funext i c
  unfold hiOB
  congr 1
  funext c1
  obtain ⟨r1,na1,nb1,o1,ac1,bc1⟩:=c1
  cases r1 with
  | some r=>rfl
  | none =>
   dsimp only
   congr 1
   funext _v
   congr 1
   funext c2
   obtain ⟨r2,na2,nb2,o2,m2,ac2,bc2⟩:=c2
   cases r2 <;> rfl
 ·funext c
  obtain ⟨r,na,nb,o,m⟩:=c
  cases r <;> rfl
section
variable {prog:Program}{w:World}{A:Around}{E:Value->Shared->Prop}{s:Shared}{kd:SortKind}{D:Keyed->Prop}{f:Keyed->Keyed->Bool}{a b:Array Keyed}
structure JH (f:Keyed->Keyed->Bool) (a b:Array Keyed) (na nb:Nat) (out:Array Keyed):Prop where
 s1:SdK f (a.toList.take na++out.toList.reverse)
 s2:SdK f (b.toList.take nb++out.toList.reverse)
 pm:(a.toList.take na++(b.toList.take nb++out.toList.reverse)).Perm (a.toList++b.toList)
theorem y9 {xs:Array Keyed}{i:Nat}(h:i<xs.size):xs.toList.take (i+1)=xs.toList.take i++[xs[i]]:=by
 rw [List.take_add_one,List.getElem?_eq_getElem (by simpa using h)];rfl
theorem Y9 (O:OrdK f) {xs:Array Keyed}{i:Nat}(hs:SdK f xs.toList) (h:i<xs.size) {y:Keyed}(hy:y∈xs.toList.take (i+1)):f xs[i] y=false:=by
 rw [y9 h] at hy
 rcases List.mem_append.mp hy with hy | hy
 ·have:SdK f (xs.toList.take (i+1)):=List.Pairwise.sublist (List.take_sublist _ _) hs
  rw [y9 h] at this
  exact (qJ.mp this).2.2 y hy _ (qI.mpr rfl)
 ·rw [qI.mp hy]
  exact O.irr _
theorem JH.pushA (O:OrdK f) (hb:Both D f a b) (j:JH f a b na nb out) (h1:0<na) (h2:na<=a.size) (h3:0<nb) (h4:nb<=b.size) (h:f (a[na - 1]'(by omega)) (b[nb - 1]'(by omega))=false):JH f a b (na - 1) nb (out.push (a[na - 1]'(by omega))):=by
 have e:=y9 (xs:=a) (i:=na - 1) (by omega)
 rw [show na - 1+1=na by omega] at e
 have s1:=j.s1
 have pm:=j.pm
 rw [e] at s1 pm
 obtain ⟨g1,g2⟩:=qkW s1 j.s2 (fun x hx y hy=>by
  rw [qI.mp hx]
  have:=Y9 O hb.sb (i:=nb - 1) (by omega) (y:=y) (by rw [show nb - 1+1=nb by omega];exact hy)
  exact O.le this h)
 refine ⟨by simpa using g1,by simpa using g2,?_⟩
 refine List.Perm.trans ?_ pm
 rw [qo]
 refine List.Perm.append_left _ ?_
 simp only [Array.toList_push,List.reverse_append,List.reverse_cons,List.reverse_nil,List.nil_append]
 exact List.perm_middle
theorem JH.pushB (O:OrdK f) (hb:Both D f a b) (j:JH f a b na nb out) (h1:0<na) (h2:na<=a.size) (h3:0<nb) (h4:nb<=b.size) (h:f (b[nb - 1]'(by omega)) (a[na - 1]'(by omega))=false):JH f a b na (nb - 1) (out.push (b[nb - 1]'(by omega))):=by
 have e:=y9 (xs:=b) (i:=nb - 1) (by omega)
 rw [show nb - 1+1=nb by omega] at e
 have s2:=j.s2
 have pm:=j.pm
 rw [e] at s2 pm
 obtain ⟨g1,g2⟩:=qkW s2 j.s1 (fun x hx y hy=>by
  rw [qI.mp hx]
  have:=Y9 O hb.sa (i:=na - 1) (by omega) (y:=y) (by rw [show na - 1+1=na by omega];exact hy)
  exact O.le this h)
 refine ⟨by simpa using g2,by simpa using g1,?_⟩
 refine List.Perm.trans ?_ pm
 refine List.Perm.append_left _ ?_
 simp
theorem qdu (xs:Array Keyed) {i n:Nat}(h:i<=n) (hn:n<=xs.size):xs.toList.take n=xs.toList.take i++(xs.extract i n).toList:=by
 have e:(xs.extract i n).toList=(xs.toList.drop i).take (n - i):=by simp [Array.toList_extract,List.extract_eq_take_drop]
 rw [e,<- List.drop_take]
 have:=(qA i (xs.toList.take n)).symm
 rwa [List.take_take,Nat.min_eq_left h] at this
theorem JH.chunkA (O:OrdK f) (hb:Both D f a b) (j:JH f a b na nb out) {k:Nat}(hk:k<=na) (h2:na<=a.size) (h3:0<nb) (h4:nb<=b.size) (h:∀ x∈(a.extract k na).toList,f x (b[nb - 1]'(by omega))=false):JH f a b k nb (out++(a.extract k na).reverse):=by
 have s1:=j.s1
 have pm:=j.pm
 rw [qdu a hk h2] at s1 pm
 obtain ⟨g1,g2⟩:=qkW s1 j.s2 (fun x hx y hy=>by
  have:=Y9 O hb.sb (i:=nb - 1) (by omega) (y:=y) (by rw [show nb - 1+1=nb by omega];exact hy)
  exact O.le this (h x hx))
 refine ⟨by simpa using g1,by simpa using g2,?_⟩
 refine List.Perm.trans ?_ pm
 rw [qo]
 refine List.Perm.append_left _ ?_
 simp only [Array.toList_append,Array.toList_reverse,List.reverse_append,List.reverse_reverse]
 rw [<- qo,<- qo]
 exact List.Perm.append_right _ List.perm_append_comm
theorem JH.chunkB (O:OrdK f) (hb:Both D f a b) (j:JH f a b na nb out) {k:Nat}(hk:k<=nb) (h2:nb<=b.size) (h3:0<na) (h4:na<=a.size) (h:∀ x∈(b.extract k nb).toList,f x (a[na - 1]'(by omega))=false):JH f a b na k (out++(b.extract k nb).reverse):=by
 have s2:=j.s2
 have pm:=j.pm
 rw [qdu b hk h2] at s2 pm
 obtain ⟨g1,g2⟩:=qkW s2 j.s1 (fun x hx y hy=>by
  have:=Y9 O hb.sa (i:=na - 1) (by omega) (y:=y) (by rw [show na - 1+1=na by omega];exact hy)
  exact O.le this (h x hx))
 refine ⟨by simpa using g2,by simpa using g1,?_⟩
 refine List.Perm.trans ?_ pm
 refine List.Perm.append_left _ ?_
 simp
theorem qgv (xs:Array Keyed) (n:Nat):(xs.extract 0 n).toList=xs.toList.take n:=by simp [Array.toList_extract,List.extract_eq_take_drop]
theorem JH.done (j:JH f a b na nb out) (h:na=0\/nb=0):Ju f a b (YH a b out na nb):=by
 unfold YH
 refine ⟨?_,?_⟩
 ·rw [Array.toList_append,Array.toList_append,qgv,qgv,Array.toList_reverse]
  rcases h with rfl | rfl
  ·simpa using j.s2
  ·simpa using j.s1
 ·rw [Array.toList_append,Array.toList_append,qgv,qgv,Array.toList_reverse,qo]
  exact j.pm
theorem JH.firstB (O:OrdK f) (hb:Both D f a b) (j:JH f a b na nb out) (h:nb=1):Ju f a b (YN a b out na nb):=by
 subst h
 have nb:=hb.nb
 have e:b.toList.take 1=[b[0]'nb]:=by
  have:=y9 (xs:=b) (i:=0) nb
  simpa using this
 unfold YN
 refine ⟨?_,?_⟩
 ·rw [Array.toList_append,Array.toList_append,qgv,qgv,Array.toList_reverse]
  have s2:=j.s2
  rw [e] at s2 ⊢
  unfold SdK at *
  obtain ⟨_,_,g3⟩:=qJ.mp s2
  rw [qo]
  refine qJ.mpr ⟨List.pairwise_singleton _ _,j.s1,fun x hx y hy=>?_⟩
  rcases List.mem_append.mp hy with z | z
  ·rw [qI.mp hx]
   have h1:=Yv O hb.sa hb.na (y:=y) (by rw [List.drop_zero];exact yM z)
   exact O.le (O.asym _ _ hb.first) h1
  ·exact g3 x hx y z
 ·rw [Array.toList_append,Array.toList_append,qgv,qgv,Array.toList_reverse,qo]
  refine List.Perm.trans ?_ j.pm
  rw [<- qo,<- qo]
  exact List.Perm.append_right _ List.perm_append_comm
def InH (f:Keyed->Keyed->Bool) (a b:Array Keyed) (na nb:Nat) (out:Array Keyed):Prop:=JH f a b na nb out/\0<na/\na<=a.size/\1<nb/\nb<=b.size
def qfx (f:Keyed->Keyed->Bool) (a b:Array Keyed) (st:SortSt) (n0:Nat) (r:ForInStep GH) (st':SortSt):Prop:=yr st st'/\match r with
 | .done (some o,_)=>Ju f a b o
 | .done (none,na,nb,out,_)=>InH f a b na nb out/\na+nb<=n0
 | .yield (none,na,nb,out,_)=>InH f a b na nb out/\na+nb<=n0
 | .yield (some _,_)=>False
theorem qbY (O:OrdK f) (hb:Both D f a b) {st0 st:SortSt}(hst:yr st0 st) {out:Array Keyed}{na nb mg ac bc n0:Nat}(j:InH f a b na nb out) (hn:na+nb<=n0) (h:∀ h1 h2,f (a[na - 1]'h1) (b[nb - 1]'h2)=false) :
  wpS (model prog w) A E s (qk0 a b na nb out mg ac bc) (qfx f a b st0 n0) st:=by
 obtain ⟨j,h1,h2,h3,h4⟩:=j
 unfold qk0
 refine qf (ym (show na - 1<a.size by omega) ?_)
 have j2:=j.pushA O hb h1 h2 (by omega) h4 (h (by omega) (by omega))
 by_cases e:na - 1=0
 ·rw [if_pos (by simpa using e)]
  exact ql ⟨hst,j2.done (.inl e)⟩
 ·rw [if_neg (by simpa using e)]
  split
  ·exact ql ⟨hst,⟨j2,by omega,by omega,h3,h4⟩,by omega⟩
  ·exact ql ⟨hst,⟨j2,by omega,by omega,h3,h4⟩,by omega⟩
theorem qdv {xs:Array Keyed}{k n:Nat}(hn:n<=xs.size) {x:Keyed}(hx:x∈(xs.extract k n).toList):x∈(xs.toList.take n).drop k:=by
 have e:(xs.extract k n).toList=(xs.toList.drop k).take (n - k):=by simp [Array.toList_extract,List.extract_eq_take_drop]
 rw [e,<- List.drop_take] at hx
 exact hx
theorem qgJ (hA:Ask prog w A E s kd D f) (O:OrdK f) (hb:Both D f a b) {st0 st:SortSt}(hk:kindOf st0=kd) (hst:yr st0 st) {out:Array Keyed}{na nb mg ac bc n0:Nat}(j:InH f a b na nb out) (hn:na+nb<=n0) :
  wpS (model prog w) A E s (hiG3 a b na nb out mg ac bc) (qfx f a b st0 n0) st:=by
 obtain ⟨j,h1,h2,h3,h4⟩:=j
 unfold hiG3
 refine qf (ym (show na - 1<a.size by omega) ?_)
 refine qf (YI hA O (hst.1.trans hk) (b.toList.take nb) (by simp;omega) (fun i hi=>?_) (hb.da _ (by simp)) (fun x hx=>hb.db x (yM hx)) (by omega) (List.Pairwise.sublist (List.take_sublist _ _) hb.sb) fun k hk1 hk2 hk3=>?_)
 ·have hi:i<nb:=by simp at hi;omega
  rw [Nat.zero_add,List.getElem?_take,if_pos hi,qj]
 have hge:∀ x∈(b.extract k nb).toList,f x (a[na - 1]'(by omega))=false:=fun x hx=>hk3 x (qdv h4 hx)
 have hlt:∀ x∈(b.toList.take nb).take k,f x (a[na - 1]'(by omega))=true:=fun x hx=>hk2 x hx
 have j2:=j.chunkB O hb hk1 h4 h1 h2 hge
 have nxt:∀ (h0:0<k) (z1:na - 1<a.size) (z2:k - 1<b.size),f (a[na - 1]'z1) (b[k - 1]'z2)=false:=fun h0 z1 z2=>O.asym _ _ (hlt _ (by
  rw [List.take_take,Nat.min_eq_left hk1]
  have:=y9 (xs:=b) (i:=k - 1) z2
  rw [show k - 1+1=k by omega] at this
  rw [this]
  exact qF _ (qI.mpr rfl)))
 dsimp only
 by_cases hk0:nb - k > 0
 ·rw [if_pos hk0]
  by_cases e:k=1
  ·rw [if_pos (by simpa using e)]
   exact ql ⟨hst,j2.firstB O hb e⟩
  ·rw [if_neg (by simpa using e)]
   by_cases e2:k=0
   ·rw [if_pos (by simpa using e2)]
    exact ql ⟨hst,j2.done (.inr e2)⟩
   ·rw [if_neg (by simpa using e2)]
    exact qbY O hb hst ⟨j2,h1,h2,by omega,by omega⟩ (by omega) (nxt (by omega))
 ·rw [if_neg hk0]
  have:k=nb:=by omega
  subst this
  exact qbY O hb hst ⟨j,h1,h2,h3,h4⟩ hn (nxt (by omega))
theorem qbZ (hA:Ask prog w A E s kd D f) (O:OrdK f) (hb:Both D f a b) {st0 st:SortSt}(hk:kindOf st0=kd) (hst:yr st0 st) {out:Array Keyed}{na nb mg ac bc n0:Nat}(j:InH f a b na nb out) (hn:na+nb<=n0) (h:∀ h1 h2,f (b[nb - 1]'h2) (a[na - 1]'h1)=false) :
  wpS (model prog w) A E s (qk1 a b na nb out mg ac bc) (qfx f a b st0 n0) st:=by
 obtain ⟨j,h1,h2,h3,h4⟩:=j
 unfold qk1
 refine qf (ym (show nb - 1<b.size by omega) ?_)
 have j2:=j.pushB O hb h1 h2 (by omega) h4 (h (by omega) (by omega))
 by_cases e:nb - 1=1
 ·rw [if_pos (by simpa using e)]
  exact ql ⟨hst,j2.firstB O hb e⟩
 ·rw [if_neg (by simpa using e)]
  exact qgJ hA O hb hk hst ⟨j2,h1,h2,by omega,by omega⟩ (by omega)
theorem qb0 (hA:Ask prog w A E s kd D f) (O:OrdK f) (hb:Both D f a b) {st0 st:SortSt}(hk:kindOf st0=kd) (hst:yr st0 st) {out:Array Keyed}{na nb mg ac bc n0:Nat}(j:InH f a b na nb out) (hn:na+nb<=n0) :
  wpS (model prog w) A E s (qk2 a b na nb out mg ac bc) (qfx f a b st0 n0) st:=by
 obtain ⟨j,h1,h2,h3,h4⟩:=j
 unfold qk2
 rw [yS]
 refine qf (ju ?_)
 have hst2:=hst.trans (show yr st (SortSt.mk' (kindOf st) (arrOf st) (pendingOf st) mg (failedOf st)) from ⟨rfl,rfl,rfl,rfl⟩)
 generalize SortSt.mk' (kindOf st) (arrOf st) (pendingOf st) mg (failedOf st)=st2 at hst2 ⊢
 refine qf (ym (show nb - 1<b.size by omega) ?_)
 refine qf (YI hA O (hst2.1.trans hk) (a.toList.take na) (by simp;omega) (fun i hi=>?_) (hb.db _ (by simp)) (fun x hx=>hb.da x (yM hx)) (by omega) (List.Pairwise.sublist (List.take_sublist _ _) hb.sa) fun k hk1 hk2 hk3=>?_)
 ·have hi:i<na:=by simp at hi;omega
  rw [Nat.zero_add,List.getElem?_take,if_pos hi,qj]
 have hgt:∀ x∈(a.extract k na).toList,f x (b[nb - 1]'(by omega))=false:=fun x hx=>by
  have:=hk3 x (qdv h2 hx)
  exact O.asym _ _ (by simpa [byd] using this)
 have hle:∀ x∈(a.toList.take na).take k,f (b[nb - 1]'(by omega)) x=false:=fun x hx=>by
  have:=hk2 x hx
  simpa [byd] using this
 have j2:=j.chunkA O hb hk1 h2 (by omega) h4 hgt
 have nxt:∀ (h0:0<k) (z1:k - 1<a.size) (z2:nb - 1<b.size),f (b[nb - 1]'z2) (a[k - 1]'z1)=false:=fun h0 z1 z2=>hle _ (by
  rw [List.take_take,Nat.min_eq_left hk1]
  have:=y9 (xs:=a) (i:=k - 1) z1
  rw [show k - 1+1=k by omega] at this
  rw [this]
  exact qF _ (qI.mpr rfl))
 dsimp only
 by_cases hk0:na - k > 0
 ·rw [if_pos hk0]
  by_cases e:k=0
  ·rw [if_pos (by simpa using e)]
   exact ql ⟨hst2,j2.done (.inl e)⟩
  ·rw [if_neg (by simpa using e)]
   exact qbZ hA O hb hk hst2 ⟨j2,by omega,by omega,h3,h4⟩ (by omega) (nxt (by omega))
 ·rw [if_neg hk0]
  have:k=na:=by omega
  subst this
  exact qbZ hA O hb hk hst2 ⟨j,h1,h2,h3,h4⟩ hn (nxt (by omega))
def qkL (f:Keyed->Keyed->Bool) (a b:Array Keyed) (st:SortSt) (n0:Nat) (r:CH) (st':SortSt):Prop:=yr st st'/\match r with
 | (some o,_)=>Ju f a b o
 | (none,na,nb,out,_)=>InH f a b na nb out/\na+nb<n0
theorem qiA (hA:Ask prog w A E s kd D f) (O:OrdK f) (hb:Both D f a b) {st:SortSt}(hk:kindOf st=kd) {out:Array Keyed}{na nb mg:Nat}(j:InH f a b na nb out) :
  wpS (model prog w) A E s (forIn [0:a.size+b.size] ((none,na,nb,out,0,0):CH) (hiCB a b mg)) (qkL f a b st (na+nb)) st:=by
 have nz:=hb.na
 refine yf (I:=fun x c st'=>yr st st'/\∃ na' nb' out' ac bc,c=(none,na',nb',out',ac,bc)/\InH f a b na' nb' out'/\na'+nb'+x<=na+nb) ?step ?fin ⟨yr.refl _,na,nb,out,0,0,rfl,j,by omega⟩
 case fin =>
  rintro c st' ⟨hst,na',nb',out',ac,bc,rfl,j',g3⟩
  exact ⟨hst,j',by omega⟩
 case step =>
  rintro x c st' _ hx ⟨hst,na',nb',out',ac,bc,rfl,⟨j',h1,h2,h3,h4⟩,g3⟩
  unfold hiCB
  dsimp only
  refine qf (ym (show nb' - 1<b.size by omega) (qf (ym (show na' - 1<a.size by omega) ?_)))
  refine qf (hA _ _ _ _ (hb.db _ (by simp)) (hb.da _ (by simp)) (hst.1.trans hk) ?_)
  dsimp only
  cases c:f (b[nb' - 1]'(by omega)) (a[na' - 1]'(by omega)) with
  | true =>
   simp only [if_true]
   refine qf (ym (show na' - 1<a.size by omega) ?_)
   have j2:=j'.pushA O hb h1 h2 (by omega) h4 (O.asym _ _ c)
   by_cases e:na' - 1=0
   ·rw [if_pos (by simpa using e)]
    exact ql ⟨hst,j2.done (.inl e)⟩
   ·rw [if_neg (by simpa using e)]
    split
    ·exact ql ⟨hst,⟨j2,by omega,by omega,h3,h4⟩,by omega⟩
    ·exact ql ⟨hst,_,_,_,_,_,rfl,⟨j2,by omega,by omega,h3,h4⟩,by omega⟩
  | false =>
   simp only [Bool.false_eq_true,if_false]
   refine qf (ym (show nb' - 1<b.size by omega) ?_)
   have j2:=j'.pushB O hb h1 h2 (by omega) h4 c
   by_cases e:nb' - 1=1
   ·rw [if_pos (by simpa using e)]
    exact ql ⟨hst,j2.firstB O hb e⟩
   ·rw [if_neg (by simpa using e)]
    split
    ·exact ql ⟨hst,⟨j2,h1,h2,by omega,by omega⟩,by omega⟩
    ·exact ql ⟨hst,_,_,_,_,_,rfl,⟨j2,h1,h2,by omega,by omega⟩,by omega⟩
def qkI (f:Keyed->Keyed->Bool) (a b:Array Keyed) (st:SortSt) (n0:Nat) (r:GH) (st':SortSt):Prop:=yr st st'/\match r with
 | (some o,_)=>Ju f a b o
 | (none,na,nb,out,_)=>InH f a b na nb out/\na+nb<=n0
theorem qiz (hA:Ask prog w A E s kd D f) (O:OrdK f) (hb:Both D f a b) {st0 st:SortSt}(hk:kindOf st0=kd) (hst:yr st0 st) {out:Array Keyed}{na nb mg ac bc:Nat}(j:InH f a b na nb out) :
  wpS (model prog w) A E s (forIn [0:a.size+b.size] ((none,na,nb,out,mg,ac,bc):GH) (hiGB a b)) (qkI f a b st0 (na+nb)) st:=by
 refine yf (I:=fun x c st'=>yr st0 st'/\∃ na' nb' out' mg ac bc,c=(none,na',nb',out',mg,ac,bc)/\InH f a b na' nb' out'/\na'+nb'<=na+nb) ?step ?fin ⟨hst,na,nb,out,mg,ac,bc,rfl,j,by omega⟩
 case fin =>
  rintro c st' ⟨hst,na',nb',out',mg,ac,bc,rfl,j',g3⟩
  exact ⟨hst,j',g3⟩
 case step =>
  rintro x c st' _ hx ⟨hst,na',nb',out',mg,ac,bc,rfl,j',g3⟩
  unfold hiGB
  dsimp only
  split
  ·refine y3 (qb0 hA O hb hk hst j' g3) fun r st'' h=>?_
   obtain ⟨h0,h⟩:=h
   match r,h with
   | .done (some o,_),h=>exact ⟨h0,h⟩
   | .done (none,na,nb,out,_),h=>exact ⟨h0,h⟩
   | .yield (none,na,nb,out,m,c,d),h=>exact ⟨h0,_,_,_,_,_,_,rfl,h⟩
  ·refine y3 (qb0 hA O hb hk hst j' g3) fun r st'' h=>?_
   obtain ⟨h0,h⟩:=h
   match r,h with
   | .done (some o,_),h=>exact ⟨h0,h⟩
   | .done (none,na,nb,out,_),h=>exact ⟨h0,h⟩
   | .yield (none,na,nb,out,m,c,d),h=>exact ⟨h0,_,_,_,_,_,_,rfl,h⟩
theorem qbv (hA:Ask prog w A E s kd D f) (O:OrdK f) (hb:Both D f a b) {st:SortSt}(hk:kindOf st=kd) {Q:Array Keyed->SortSt->Prop}(q:∀ o st',yr st st'->Ju f a b o->Q o st') :
  wpS (model prog w) A E s (Yh a b) Q st:=by
 have na:=hb.na
 have nb:=hb.nb
 rw [qax]
 refine qf (wpS_lift (wpAny_rule ⟨rfl,?_⟩))
 refine qf (ym (show a.size - 1<a.size by omega) ?_)
 have j0:JH f a b a.size b.size #[]:=⟨by rw [<- Array.length_toList,jN];simpa using hb.sa,by rw [<- Array.length_toList,jN];simpa using hb.sb,by rw [<- Array.length_toList,jN,<- Array.length_toList,jN];simp⟩
 have j1:JH f a b (a.size - 1) b.size #[a[a.size - 1]]:=by
  have:=j0.pushA O hb na (qi _) nb (qi _) (O.asym _ _ (hb.last _ (by simp)))
  simpa using this
 by_cases e:a.size - 1=0
 ·rw [if_pos (by simpa using e)]
  exact ql (q _ _ (yr.refl _) (j1.done (.inl e)))
 ·rw [if_neg (by simpa using e)]
  by_cases e2:b.size=1
  ·rw [if_pos (by simpa using e2)]
   exact ql (q _ _ (yr.refl _) (j1.firstB O hb e2))
  ·rw [if_neg (by simpa using e2)]
   refine qf (wpS_get ?_)
   refine qf (y3 (yf (I:=fun x c st'=>yr st st'/\∃ na nb out mg,c=(none,na,nb,out,mg)/\InH f a b na nb out/\na+nb+x<=a.size+b.size)
    (Q:=fun c st'=>yr st st'/\∃ o r,c=(some o,r)/\Ju f a b o) ?step ?fin ⟨yr.refl _,_,_,_,_,rfl,⟨j1,by omega,by omega,by omega,qi _⟩,by omega⟩) ?post)
   case fin =>
    rintro c st' ⟨hst,na,nb,out,mg,rfl,⟨j,g1,g2,g3,g4⟩,g5⟩
    omega
   case post =>
    rintro c st' ⟨hst,o,r,rfl,h⟩
    exact ql (q o st' hst h)
   case step =>
    rintro x c st' _ hx ⟨hst,na,nb,out,mg,rfl,j,g3⟩
    unfold hiOB
    dsimp only
    refine qf (y3 (qiA hA O hb (hst.1.trans hk) j) ?_)
    rintro c1 st1 ⟨hst1,h⟩
    match c1,h with
    | (some o,na,nb,out,_),h=>exact ql ⟨hst.trans hst1,o,_,rfl,h⟩
    | (none,na1,nb1,out1,ac,bc),⟨j1,k3⟩ =>
     dsimp only
     refine qf (wpS_lift (wpAny_rule ⟨rfl,?_⟩))
     refine qf (y3 (qiz hA O hb hk (hst.trans hst1) j1) ?_)
     rintro c2 st2 ⟨hst2,h⟩
     match c2,h with
     | (some o,na,nb,out,mg,_),h=>exact ql ⟨hst2,o,_,rfl,h⟩
     | (none,na2,nb2,out2,mg2,ac,bc),⟨j2,l3⟩ =>
      dsimp only
      rw [yS]
      refine qf (ju (ql ⟨hst2.trans ⟨rfl,rfl,rfl,rfl⟩,_,_,_,_,rfl,j2,by omega⟩))
end
end L2
namespace L2
open PySem PySem.Spec PyProof.Rows PySem.W
abbrev kD (xs:Array Keyed) (i:Nat):Keyed:=xs.getD i (.none,.none)
theorem qdc {xs ys:Array Keyed}{i j:Nat}(h:xs[i]?=ys[j]?):kD xs i=kD ys j:=by
 simp only [kD,Array.getD_eq_getD_getElem?,h]
theorem qdf {xs:Array Keyed}{i:Nat}(h:i<xs.size):xs[i]?=some (kD xs i):=by
 rw [jo h];simp [kD,Array.getD,h]
structure SV (lo:Nat) (st0 st:SortSt):Prop where
 kind:kindOf st=kindOf st0
 pend:pendingOf st=pendingOf st0
 fail:failedOf st=failedOf st0
 perm:(arrOf st).Perm (arrOf st0)
 pre:∀ k,k<lo->(arrOf st)[k]?=(arrOf st0)[k]?
theorem SV.refl (lo:Nat) (st:SortSt):SV lo st st:=⟨rfl,rfl,rfl,Array.Perm.refl _,fun _ _=>rfl⟩
theorem SV.size {lo:Nat}{st0 st:SortSt}(h:SV lo st0 st):(arrOf st).size=(arrOf st0).size:=h.perm.size_eq
theorem SV.trans {lo:Nat}{a b c:SortSt}(h:SV lo a b) (g:SV lo b c):SV lo a c:=⟨g.kind.trans h.kind,g.pend.trans h.pend,g.fail.trans h.fail,g.perm.trans h.perm,fun k hk=>(g.pre k hk).trans (h.pre k hk)⟩
def mir (xs:Array Keyed) (i j:Nat):Array Keyed:=mirror xs i j ((j - i) / 2)
theorem qdd {xs:Array Keyed}{i j:Nat}(hj:j<=xs.size) (k:Nat):kD (mir xs i j) k=if i<=k/\k<j then kD xs (i+j - 1 - k) else kD xs k:=by
 have e:=getElem?_mirror_all (i:=i) hj k
 unfold mir
 by_cases h1:i<=k/\k<j
 ·rw [if_pos h1] at e ⊢;exact qdc e
 ·rw [if_neg h1] at e ⊢;exact qdc e
theorem SV.mir {lo:Nat}{st0 st:SortSt}(h:SV lo st0 st) {i j:Nat}(hi:lo<=i) (hj:j<=(arrOf st).size):SV lo st0 (setArr st (L2.mir (arrOf st) i j)):=by
 refine ⟨h.kind,h.pend,h.fail,(mirror_perm _ _ _ _).trans h.perm,fun k hk=>?_⟩
 show (L2.mir (arrOf st) i j)[k]?=_
 unfold L2.mir
 rw [getElem?_mirror_all hj,if_neg (by omega)]
 exact h.pre k hk
section
variable {f:Keyed->Keyed->Bool}
def UpL (f:Keyed->Keyed->Bool) (lo:Nat) (p:Array Keyed) (k:Nat):Prop:=∀ i j,i<=j->j<k->f (kD p (lo+j)) (kD p (lo+i))=false
def DnL (f:Keyed->Keyed->Bool) (lo:Nat) (p:Array Keyed) (k:Nat):Prop:=∀ i j,i<=j->j<k->f (kD p (lo+i)) (kD p (lo+j))=false
def YB (f:Keyed->Keyed->Bool) (a b:Keyed):Prop:=f a b=false/\f b a=false
theorem YB.refl (O:OrdK f) (a:Keyed):YB f a a:=⟨O.irr a,O.irr a⟩
theorem YB.symm {a b:Keyed}(h:YB f a b):YB f b a:=⟨h.2,h.1⟩
theorem YB.trans (O:OrdK f) {a b c:Keyed}(h:YB f a b) (g:YB f b c):YB f a c:=⟨O.le g.1 h.1,O.le h.2 g.2⟩
theorem qkg (O:OrdK f) {a b c:Keyed}(h:YB f a b):f a c=f b c:=by
 cases h1:f b c with
 | true=>exact O.lel h.2 h1
 | false =>
  cases h2:f a c with
  | false=>rfl
  | true =>
   have:=O.lel h.1 h2
   rw [h1] at this;cases this
theorem qkf (O:OrdK f) {a b c:Keyed}(h:YB f a b):f c a=f c b:=by
 cases h1:f c b with
 | true=>exact O.ltl h1 h.1
 | false =>
  cases h2:f c a with
  | false=>rfl
  | true =>
   have:=O.ltl h2 h.2
   rw [h1] at this;cases this
theorem UpL.one (O:OrdK f) (lo:Nat) (p:Array Keyed):UpL f lo p 1:=fun i j h1 h2=>by
 have:i=j:=by omega
 subst this;exact O.irr _
theorem UpL.succ (O:OrdK f) {lo:Nat}{p:Array Keyed}{k:Nat}(h0:1<=k) (h:UpL f lo p k) (g:f (kD p (lo+k)) (kD p (lo+k - 1))=false):UpL f lo p (k+1):=fun i j hij hj=>by
 by_cases e:j=k
 ·subst e
  by_cases e2:i=j
  ·subst e2;exact O.irr _
  ·have:=h i (j - 1) (by omega) (by omega)
   rw [show lo+(j - 1)=lo+j - 1 by omega] at this
   exact O.le this g
 ·exact h i j hij (by omega)
theorem DnL.succ (O:OrdK f) {lo:Nat}{p:Array Keyed}{k:Nat}(h0:1<=k) (h:DnL f lo p k) (g:f (kD p (lo+k - 1)) (kD p (lo+k))=false):DnL f lo p (k+1):=fun i j hij hj=>by
 by_cases e:j=k
 ·subst e
  by_cases e2:i=j
  ·subst e2;exact O.irr _
  ·have:=h i (j - 1) (by omega) (by omega)
   rw [show lo+(j - 1)=lo+j - 1 by omega] at this
   exact O.le g this
 ·exact h i j hij (by omega)
theorem DnL.eqv (O:OrdK f) {lo:Nat}{p q:Array Keyed}{k:Nat}(h:DnL f lo p k) (e:∀ i,YB f (kD q i) (kD p i)):DnL f lo q k:=fun i j h1 h2=>by
 rw [qkg O (e _),qkf O (e _)];exact h i j h1 h2
theorem Y3 (O:OrdK f) {p:Array Keyed}{i j:Nat}(hj:j<=p.size) (h:∀ a b,i<=a->a<j->i<=b->b<j->YB f (kD p a) (kD p b)) (k:Nat):YB f (kD (mir p i j) k) (kD p k):=by
 rw [qdd hj]
 split
 ·exact h _ _ (by omega) (by omega) (by omega) (by omega)
 ·exact YB.refl O _
theorem UpL.ofRev {lo:Nat}{p:Array Keyed}{k:Nat}(hk:lo+k<=p.size) (h:DnL f lo p k):UpL f lo (mir p lo (lo+k)) k:=fun i j h1 h2=>by
 rw [qdd hk,qdd hk,if_pos (by omega),if_pos (by omega)]
 have:=h (k - 1 - j) (k - 1 - i) (by omega) (by omega)
 rw [show lo+(lo+k) - 1 - (lo+j)=lo+(k - 1 - j) by omega,show lo+(lo+k) - 1 - (lo+i)=lo+(k - 1 - i) by omega]
 exact this
end
def qky (lo a nrem:Nat):StateT SortSt Sem (Option (Option Nat)×Nat) :=
 forIn [a:nrem] ((none,a):Option (Option Nat)×Nat) fun _ c=>do
  let x <- ltAt' (lo+c.2) (lo+c.2 - 1)
  match x with
  | some smaller=>if smaller=true then pure (ForInStep.done (none,c.2)) else pure (ForInStep.yield (none,c.2+1))
  | _=>pure (ForInStep.done (some none,c.2))
def Zu (lo n nrem:Nat):StateT SortSt Sem (Option Nat):=do
 reverseSlice' lo (lo+n)
 let c <- qky lo n nrem
 match c.1 with
 | some r=>pure r
 | none=>pure (some c.2)
def qfe (lo n nrem:Nat):StateT SortSt Sem (Option (Option Nat)×Nat×Nat) :=
 forIn [n:nrem] ((none,n,0):Option (Option Nat)×Nat×Nat) fun _ c=>do
  let x <- ltAt' (lo+c.2.1) (lo+c.2.1 - 1)
  match x with
  | some smaller =>
   if smaller=true then
    if c.2.2 > 0 then do
     reverseSlice' (lo+c.2.1 - (c.2.2+1)) (lo+c.2.1)
     pure (ForInStep.yield (none,c.2.1+1,0))
    else pure (ForInStep.yield (none,c.2.1+1,0))
   else do
    let y <- ltAt' (lo+c.2.1 - 1) (lo+c.2.1)
    match y with
    | some larger =>
     if larger=true then pure (ForInStep.done (none,c.2.1,c.2.2))
     else pure (ForInStep.yield (none,c.2.1+1,c.2.2+1))
    | _=>pure (ForInStep.done (some none,c.2.1,c.2.2))
  | _=>pure (ForInStep.done (some none,c.2.1,c.2.2))
def Jb (lo n nrem:Nat):StateT SortSt Sem (Option Nat):=do
 liftM (rule "list.sort.descending-run")
 let c <- qfe lo (n+1) nrem
 match c.1 with
 | some r=>pure r
 | none =>
  if c.2.2 > 0 then do
   reverseSlice' (lo+c.2.1 - (c.2.2+1)) (lo+c.2.1)
   Zu lo c.2.1 nrem
  else Zu lo c.2.1 nrem
theorem Z6 (lo nrem:Nat):countRun' lo nrem=(do
  let c <- qky lo 1 nrem
  match c.1 with
  | some r=>pure r
  | none =>
   if (c.2 == nrem)=true then pure (some c.2)
   else if c.2 > 1 then do
    let x <- ltAt' lo (lo+c.2 - 1)
    match x with
    | some rose=>if rose=true then pure (some c.2) else do
      reverseSlice' lo (lo+c.2)
      Jb lo c.2 nrem
    | _=>pure none
   else Jb lo c.2 nrem):=by
 rw [countRun'_eq]
 unfold Jb Zu qfe qky
 dsimp only
 congr 1
 funext c
 obtain ⟨r,n⟩:=c
 cases r with
 | some r=>rfl
 | none =>
  dsimp only
  split
  ·rfl
  ·split
   ·congr 1
    funext x
    cases x with
    | none=>rfl
    | some rose =>
     dsimp only
     split
     ·rfl
     ·congr 1
      funext _r
      congr 1
      funext _u
      congr 1
      funext s2
      obtain ⟨r2,n2,q2⟩:=s2
      cases r2 with
      | some r2=>rfl
      | none =>
       dsimp only
       split
       ·congr 1
        funext _v
        congr 1
        funext _w
        congr 1
        funext s3
        obtain ⟨r3,n3⟩:=s3
        cases r3 <;> rfl
       ·congr 1
        funext _w
        congr 1
        funext s3
        obtain ⟨r3,n3⟩:=s3
        cases r3 <;> rfl
   ·congr 1
    funext _u
    congr 1
    funext s2
    obtain ⟨r2,n2,q2⟩:=s2
    cases r2 with
    | some r2=>rfl
    | none =>
     dsimp only
     split
     ·congr 1
      funext _v
      congr 1
      funext _w
      congr 1
      funext s3
      obtain ⟨r3,n3⟩:=s3
      cases r3 <;> rfl
     ·congr 1
      funext _w
      congr 1
      funext s3
      obtain ⟨r3,n3⟩:=s3
      cases r3 <;> rfl
section
variable {prog:Program}{w:World}{A:Around}{E:Value->Shared->Prop}{s:Shared}{kd:SortKind}{D:Keyed->Prop}{f:Keyed->Keyed->Bool}{st0:SortSt}{lo nrem:Nat}
def qbU (D:Keyed->Prop) (st:SortSt):Prop:=∀ x∈(arrOf st).toList,D x
theorem qbU.of {st st':SortSt}(h:qbU D st) (p:(arrOf st').Perm (arrOf st)):qbU D st':=fun x hx=>h x ((yB.mp p).mem_iff.mp hx)
theorem Yl (hA:Ask prog w A E s kd D f) {st:SortSt}(hk:kindOf st=kd) (hD:qbU D st) {i j:Nat}(hi:i<(arrOf st).size) (hj:j<(arrOf st).size) {Q:Option Bool->SortSt->Prop}(q:Q (some (f (kD (arrOf st) i) (kD (arrOf st) j))) st):wpS (model prog w) A E s (ltAt' i j) Q st:=by
 rw [ltAt'_eq]
 refine qf (wpS_get ?_)
 show wpS _ _ _ _ (do let x <- elem' (arrOf st) i;let y <- elem' (arrOf st) j;lt' x y) Q st
 rw [elem'_eq,elem'_eq,qdf hi,qdf hj]
 refine qf (ql (qf (ql ?_)))
 have mem:∀ i,i<(arrOf st).size->kD (arrOf st) i∈(arrOf st).toList:=fun i h=>by
  have e:kD (arrOf st) i=(arrOf st)[i]:=by simp [kD,Array.getD,h]
  rw [e];simp
 exact hA _ _ _ _ (hD _ (mem i hi)) (hD _ (mem j hj)) hk q
theorem qb3 (hA:Ask prog w A E s kd D f) (O:OrdK f) {st:SortSt}(hk:kindOf st=kd) (hD:qbU D st) (hn:lo+nrem<=(arrOf st).size) {a:Nat}(ha:1<=a) (han:a<=nrem) (hs:UpL f lo (arrOf st) a) {Q:Option (Option Nat)×Nat->SortSt->Prop}
  (q:∀ n,a<=n->n<=nrem->UpL f lo (arrOf st) n->(n<nrem->f (kD (arrOf st) (lo+n)) (kD (arrOf st) (lo+n - 1))=true)->Q (none,n) st):wpS (model prog w) A E s (qky lo a nrem) Q st:=by
 unfold qky
 refine yf (I:=fun x c st'=>st'=st/\c=(none,x)/\UpL f lo (arrOf st) x) ?step ?fin ⟨rfl,rfl,hs⟩
 case fin =>
  rintro c st' ⟨rfl,rfl,hs'⟩
  rw [show max a nrem=nrem by omega] at hs' ⊢
  exact q nrem han (qi _) hs' fun z=>absurd z (by omega)
 case step =>
  rintro x c st' hax hxn ⟨rfl,rfl,hs'⟩
  dsimp only
  refine qf (Yl hA hk hD (by omega) (by omega) ?_)
  dsimp only
  cases c:f (kD (arrOf st') (lo+x)) (kD (arrOf st') (lo+x - 1)) with
  | true =>
   simp only [if_true]
   exact ql (q x hax (by omega) hs' fun _=>c)
  | false =>
   simp only [Bool.false_eq_true,if_false]
   exact ql ⟨rfl,rfl,hs'.succ O (by omega) c⟩
theorem qaL {st:SortSt}{i j:Nat}{Q:Unit->SortSt->Prop}(h:Q () (setArr st (mir (arrOf st) i j))):wpS (model prog w) A E s (reverseSlice' i j) Q st:=by
 rw [reverseSlice'_eq];exact ju h
def RunP (f:Keyed->Keyed->Bool) (lo nrem:Nat) (st0:SortSt) (Q:Option Nat->SortSt->Prop):Prop:=∀ n st',SV lo st0 st'->1<=n->n<=nrem->UpL f lo (arrOf st') n->Q (some n) st'
theorem Zs (hA:Ask prog w A E s kd D f) (O:OrdK f) (hk:kindOf st0=kd) (hD:qbU D st0) (hn:lo+nrem<=(arrOf st0).size) {st:SortSt}(hv:SV lo st0 st) {n:Nat}(h1:1<=n) (h2:n<=nrem) (h3:DnL f lo (arrOf st) n) {Q:Option Nat->SortSt->Prop}(q:RunP f lo nrem st0 Q) :
  wpS (model prog w) A E s (Zu lo n nrem) Q st:=by
 unfold Zu
 have hz:=hv.size
 refine qf (qaL ?_)
 have hv2:=hv.mir (i:=lo) (j:=lo+n) (qi _) (by omega)
 have up:UpL f lo (arrOf (setArr st (mir (arrOf st) lo (lo+n)))) n:=UpL.ofRev (by omega) h3
 generalize setArr st (mir (arrOf st) lo (lo+n))=st2 at hv2 up ⊢
 have hz2:=hv2.size
 refine qf (qb3 hA O (hv2.kind.trans hk) (hD.of hv2.perm) (by omega) h1 h2 up fun m a1 a2 a3 _=>?_)
 exact ql (q m st2 hv2 (by omega) a2 a3)
theorem qem (hA:Ask prog w A E s kd D f) (O:OrdK f) (hk:kindOf st0=kd) (hD:qbU D st0) (hn:lo+nrem<=(arrOf st0).size) {st:SortSt}(hv:SV lo st0 st) {n:Nat}(h1:1<=n) (h2:n<=nrem) (h3:DnL f lo (arrOf st) n) {Q:Option (Option Nat)×Nat×Nat->SortSt->Prop}
  (q:∀ m k st',SV lo st0 st'->k+1<=m->m<=nrem->DnL f lo (arrOf st') m->(∀ a b,lo+m - (k+1)<=a->a<lo+m->lo+m - (k+1)<=b->b<lo+m->YB f (kD (arrOf st') a) (kD (arrOf st') b))->Q (none,m,k) st') :
  wpS (model prog w) A E s (qfe lo n nrem) Q st:=by
 unfold qfe
 have one:∀ (p:Array Keyed) (m a b:Nat),1<=m->lo+m - (0+1)<=a->a<lo+m->lo+m - (0+1)<=b->b<lo+m->YB f (kD p a) (kD p b):=fun p m a b _ _ _ _ _=>by
  have:a=b:=by omega
  subst this;exact YB.refl O _
 refine yf (I:=fun x c st'=>SV lo st0 st'/\∃ k,c=(none,x,k)/\k+1<=x/\DnL f lo (arrOf st') x/\(∀ a b,lo+x - (k+1)<=a->a<lo+x->lo+x - (k+1)<=b->b<lo+x->YB f (kD (arrOf st') a) (kD (arrOf st') b))) ?step ?fin ⟨hv,0,rfl,by omega,h3,fun a b=>one _ n a b h1⟩
 case fin =>
  rintro c st' ⟨hv',k,rfl,g1,g2,g3⟩
  rw [show max n nrem=nrem by omega] at g1 g2 g3 ⊢
  exact q nrem k st' hv' g1 (qi _) g2 g3
 case step =>
  rintro x c st' hnx hx ⟨hv',k,rfl,g1,g2,g3⟩
  dsimp only
  have hz:=hv'.size
  refine qf (Yl hA (hv'.kind.trans hk) (hD.of hv'.perm) (by omega) (by omega) ?_)
  dsimp only
  cases c:f (kD (arrOf st') (lo+x)) (kD (arrOf st') (lo+x - 1)) with
  | true =>
   simp only [if_true]
   have dn:=g2.succ O (by omega) (O.asym _ _ c)
   by_cases hq:k > 0
   ·rw [if_pos hq]
    refine qf (qaL ?_)
    have ev:=Y3 O (p:=arrOf st') (i:=lo+x - (k+1)) (j:=lo+x) (by omega) g3
    exact ql ⟨hv'.mir (by omega) (by omega),0,rfl,by omega,dn.eqv O ev,fun a b=>one _ _ a b (by omega)⟩
   ·rw [if_neg hq]
    exact ql ⟨hv',0,rfl,by omega,dn,fun a b=>one _ _ a b (by omega)⟩
  | false =>
   simp only [Bool.false_eq_true,if_false]
   refine qf (Yl hA (hv'.kind.trans hk) (hD.of hv'.perm) (by omega) (by omega) ?_)
   dsimp only
   cases d:f (kD (arrOf st') (lo+x - 1)) (kD (arrOf st') (lo+x)) with
   | true =>
    simp only [if_true]
    exact ql (q x k st' hv' g1 (by omega) g2 g3)
   | false =>
    simp only [Bool.false_eq_true,if_false]
    refine ql ⟨hv',k+1,rfl,by omega,g2.succ O (by omega) d,fun a b a1 a2 b1 b2=>?_⟩
    have last:YB f (kD (arrOf st') (lo+x)) (kD (arrOf st') (lo+x - 1)):=⟨c,d⟩
    have key:∀ y,lo+(x+1) - (k+1+1)<=y->y<lo+(x+1)->YB f (kD (arrOf st') y) (kD (arrOf st') (lo+x - 1)):=fun y y1 y2=>by
     by_cases e:y=lo+x
     ·subst e;exact last
     ·exact g3 _ _ (by omega) (by omega) (by omega) (by omega)
    exact (key a a1 a2).trans O (key b b1 b2).symm
theorem J2 (hA:Ask prog w A E s kd D f) (O:OrdK f) (hk:kindOf st0=kd) (hD:qbU D st0) (hn:lo+nrem<=(arrOf st0).size) {st:SortSt}(hv:SV lo st0 st) {n:Nat}(h1:1<=n) (h2:n+1<=nrem) (h3:DnL f lo (arrOf st) (n+1)) {Q:Option Nat->SortSt->Prop}(q:RunP f lo nrem st0 Q) :
  wpS (model prog w) A E s (Jb lo n nrem) Q st:=by
 unfold Jb
 refine qf (wpS_lift (wpAny_rule ⟨rfl,?_⟩))
 refine qf (qem hA O hk hD hn hv (by omega) h2 h3 fun m k st' hv' g1 g2 g3 g4=>?_)
 dsimp only
 have hz:=hv'.size
 by_cases hq:k > 0
 ·rw [if_pos hq]
  refine qf (qaL ?_)
  have ev:=Y3 O (p:=arrOf st') (i:=lo+m - (k+1)) (j:=lo+m) (by omega) g4
  exact Zs hA O hk hD hn (hv'.mir (by omega) (by omega)) (by omega) g2 (g3.eqv O ev) q
 ·rw [if_neg hq]
  exact Zs hA O hk hD hn hv' (by omega) g2 g3 q
theorem qaj (hA:Ask prog w A E s kd D f) (O:OrdK f) (hk:kindOf st0=kd) (hD:qbU D st0) (hn:lo+nrem<=(arrOf st0).size) (h1:1<=nrem) {Q:Option Nat->SortSt->Prop}(q:RunP f lo nrem st0 Q) :
  wpS (model prog w) A E s (countRun' lo nrem) Q st0:=by
 rw [Z6]
 refine qf (qb3 hA O hk hD hn (qi _) h1 (UpL.one O lo _) fun m a1 a2 a3 a4=>?_)
 dsimp only
 by_cases e:m=nrem
 ·rw [if_pos (by simpa using e)]
  exact ql (q m st0 (SV.refl _ _) a1 a2 a3)
 ·rw [if_neg (by simpa using e)]
  have hlt:=a4 (by omega)
  by_cases e2:m > 1
  ·rw [if_pos e2]
   refine qf (Yl hA hk hD (by omega) (by omega) ?_)
   dsimp only
   cases c:f (kD (arrOf st0) lo) (kD (arrOf st0) (lo+m - 1)) with
   | true =>
    simp only [if_true]
    exact ql (q m st0 (SV.refl _ _) a1 a2 a3)
   | false =>
    simp only [Bool.false_eq_true,if_false]
    refine qf (qaL ?_)
    have al:∀ a b,lo<=a->a<lo+m->lo<=b->b<lo+m->YB f (kD (arrOf st0) a) (kD (arrOf st0) b):=fun a b ha1 ha hb1 hb=>by
     have key:∀ x,lo<=x->x<lo+m->YB f (kD (arrOf st0) x) (kD (arrOf st0) lo):=fun x hx1 hx=>by
      have k1:=a3 0 (x - lo) (by omega) (by omega)
      have k2:=a3 (x - lo) (m - 1) (by omega) (by omega)
      rw [show lo+(x - lo)=x by omega] at k1 k2
      rw [show lo+(m - 1)=lo+m - 1 by omega] at k2
      exact ⟨k1,O.le k2 c⟩
     exact (key a ha1 ha).trans O (key b hb1 hb).symm
    have ev:=Y3 O (p:=arrOf st0) (i:=lo) (j:=lo+m) (by omega) al
    have dn:DnL f lo (arrOf st0) m:=fun i j hi hj=>(al (lo+i) (lo+j) (by omega) (by omega) (by omega) (by omega)).1
    exact J2 hA O hk hD hn ((SV.refl lo st0).mir (qi _) (by omega)) a1 (by omega) ((dn.succ O a1 (O.asym _ _ hlt)).eqv O ev) q
  ·rw [if_neg e2]
   have m1:m=1:=by omega
   subst m1
   have dn:DnL f lo (arrOf st0) 1:=fun i j hi hj=>by
    have:i=j:=by omega
    subst this;exact O.irr _
   exact J2 hA O hk hD hn (SV.refl lo st0) (qi _) (by omega) (dn.succ O (qi _) (O.asym _ _ hlt)) q
theorem ZS {xs:Array Keyed}{src d:Nat}(hs:src<xs.size) (hd:d<=src) (k:Nat):kD (bubble xs src d) k=if k=src - d then kD xs src else if src - d<k/\k<=src then kD xs (k - 1) else kD xs k:=by
 have e:=getElem?_bubble hs d hd k
 by_cases h1:k=src - d
 ·rw [if_pos h1] at e ⊢;exact qdc e
 ·rw [if_neg h1] at e ⊢
  by_cases h2:src - d<k/\k<=src
  ·rw [if_pos h2] at e ⊢;exact qdc e
  ·rw [if_neg h2] at e ⊢;exact qdc e
theorem qbw (hA:Ask prog w A E s kd D f) (O:OrdK f) (hk:kindOf st0=kd) (hD:qbU D st0) {n ok:Nat}(hn:lo+n<=(arrOf st0).size) (hok:ok<=n) (hs:UpL f lo (arrOf st0) ok) {Q:Bool->SortSt->Prop}(q:∀ st',SV lo st0 st'->UpL f lo (arrOf st') n->Q true st') :
  wpS (model prog w) A E s (binarySort' lo n ok) Q st0:=by
 rw [binarySort'_eq]
 refine qf (y3 (yf (I:=fun k c st'=>c=(none,())/\SV lo st0 st'/\UpL f lo (arrOf st') (min k n))
  (Q:=fun c st'=>c=(none,())/\SV lo st0 st'/\UpL f lo (arrOf st') n) ?step ?fin ?init) ?post)
 case post =>
  rintro c st' ⟨rfl,hB',hs'⟩
  exact ql (q st' hB' hs')
 case init =>
  refine ⟨rfl,SV.refl _ _,fun i j hij hj=>?_⟩
  by_cases h1:ok=0
  ·have:i=j:=by omega
   subst this;exact O.irr _
  ·exact hs i j hij (by omega)
 case fin =>
  rintro c st' ⟨hc,hB',hs'⟩
  refine ⟨hc,hB',?_⟩
  rwa [show min (max (max ok 1) n) n=n by omega] at hs'
 case step =>
  rintro k c st' hak hkn ⟨rfl,hB',hs'⟩
  rw [show min k n=k by omega] at hs'
  have hz:=hB'.size
  refine qf (y3 (yf (I:=fun x c st''=>st''=st'/\∃ l r,c=(none,l,r)/\l<=r/\r<=k/\r - l<=k - x ∧
    (∀ i,i<l->f (kD (arrOf st') (lo+k)) (kD (arrOf st') (lo+i))=false)/\(∀ i,r<=i->i<k->f (kD (arrOf st') (lo+k)) (kD (arrOf st') (lo+i))=true))
   (Q:=fun c st''=>st''=st'/\∃ l r,c=(none,l,r)/\l<=k ∧
    (∀ i,i<l->f (kD (arrOf st') (lo+k)) (kD (arrOf st') (lo+i))=false)/\(∀ i,l<=i->i<k->f (kD (arrOf st') (lo+k)) (kD (arrOf st') (lo+i))=true)) ?istep ?ifin ?iinit) ?ipost)
  case iinit=>exact ⟨rfl,0,k,rfl,by omega,by omega,by omega,fun i hi=>by omega,fun i h1 h2=>by omega⟩
  case ifin =>
   rintro c st'' ⟨rfl,l,r,rfl,hlr,hrk,hm,hlo,hhi⟩
   have:l=r:=by omega
   subst this
   exact ⟨rfl,l,l,rfl,hrk,hlo,hhi⟩
  case istep =>
   rintro x c st'' _ hxk ⟨rfl,l,r,rfl,hlr,hrk,hm,hlo,hhi⟩
   dsimp only
   by_cases hge:l ≥ r
   ·rw [if_pos hge]
    have:l=r:=by omega
    subst this
    exact ql ⟨rfl,l,l,rfl,hrk,hlo,hhi⟩
   ·rw [if_neg hge]
    refine qf (Yl hA (hB'.kind.trans hk) (hD.of hB'.perm) (by omega) (by omega) ?_)
    dsimp only
    cases c:f (kD (arrOf st'') (lo+k)) (kD (arrOf st'') (lo+(l+r) / 2)) with
    | true =>
     simp only [if_true]
     refine ql ⟨rfl,l,(l+r) / 2,rfl,by omega,by omega,by omega,hlo,fun i h1 h2=>?_⟩
     exact O.ltl c (hs' _ _ h1 h2)
    | false =>
     simp only [Bool.false_eq_true,if_false]
     refine ql ⟨rfl,(l+r) / 2+1,r,rfl,by omega,by omega,by omega,fun i h1=>?_,hhi⟩
     exact O.le (hs' i ((l+r) / 2) (by omega) (by omega)) c
  case ipost =>
   rintro c st'' ⟨rfl,l,r,rfl,hlk,hlo,hhi⟩
   show wpS _ _ _ _ (do moveDown' (lo+k) (lo+l);pure (ForInStep.yield (none,()))) _ _
   rw [moveDown'_eq]
   have hks:lo+k<(arrOf st'').size:=by omega
   have ed:lo+k - (lo+l)=k - l:=by omega
   refine qf (ju (ql ⟨rfl,⟨hB'.kind,hB'.pend,hB'.fail,(bubble_perm _ _ _).trans hB'.perm,fun j hj=>?_⟩,?_⟩))
   ·show (bubble (arrOf st'') (lo+k) (lo+k - (lo+l)))[j]?=_
    rw [getElem?_bubble hks _ (by omega),if_neg (by omega),if_neg (by omega)]
    exact hB'.pre j hj
   rw [show min (k+1) n=k+1 by omega]
   intro i j hij hj
   show f (kD (bubble (arrOf st'') (lo+k) (lo+k - (lo+l))) (lo+j)) (kD (bubble (arrOf st'') (lo+k) (lo+k - (lo+l))) (lo+i))=false
   rw [ZS hks (by omega),ZS hks (by omega),ed,show lo+k - (k - l)=lo+l by omega]
   by_cases j1:j=l
   ·rw [if_pos (by omega)]
    by_cases i1:i=l
    ·rw [if_pos (by omega)];exact O.irr _
    ·rw [if_neg (by omega),if_neg (by omega)]
     exact hlo i (by omega)
   ·rw [if_neg (by omega)]
    by_cases j2:l<j/\j<=k
    ·rw [if_pos (by omega)]
     by_cases i1:i=l
     ·rw [if_pos (by omega)]
      have:=hhi (j - 1) (by omega) (by omega)
      rw [show lo+j - 1=lo+(j - 1) by omega]
      exact O.asym _ _ this
     ·rw [if_neg (by omega)]
      by_cases i2:l<i/\i<=k
      ·rw [if_pos (by omega),show lo+j - 1=lo+(j - 1) by omega,show lo+i - 1=lo+(i - 1) by omega];exact hs' _ _ (by omega) (by omega)
      ·rw [if_neg (by omega),show lo+j - 1=lo+(j - 1) by omega];exact hs' _ _ (by omega) (by omega)
    ·rw [if_neg (by omega),if_neg (by omega),if_neg (by omega)]
     exact hs' _ _ (by omega) (by omega)
end
end L2
namespace L2
open PySem PySem.Spec PyProof.Rows PySem.W
section
variable {f:Keyed->Keyed->Bool}
def yi (f:Keyed->Keyed->Bool):Nat->List (List Keyed)->List (Nat×Nat×Nat)->Prop
 | _,[],[]=>True
 | off,sg::sgs,p::ps=>p.1=off/\p.2.1=sg.length/\SdK f sg/\sg≠[]/\yi f (off+sg.length) sgs ps
 | _,_,_=>False
theorem yi.len:∀ {off:Nat}{segs:List (List Keyed)}{ps:List (Nat×Nat×Nat)},yi f off segs ps->segs.length=ps.length
 | _,[],[],_=>rfl
 | _,_::_,_::_,h=>by simp [yi.len h.2.2.2.2]
theorem yi.snoc:∀ {off:Nat}{segs:List (List Keyed)}{ps:List (Nat×Nat×Nat)}{sg:List Keyed}{pw:Nat},yi f off segs ps->SdK f sg->sg≠[]->yi f off (segs++[sg]) (ps++[(off+segs.flatten.length,sg.length,pw)])
 | _,[],[],_,_,_,h1,h2=>⟨by simp,rfl,h1,h2,trivial⟩
 | off,a::segs,p::ps,sg,pw,h,h1,h2=>by
  obtain ⟨g1,g2,g3,g4,g5⟩:=h
  have:=yi.snoc (pw:=pw) g5 h1 h2
  refine ⟨g1,g2,g3,g4,?_⟩
  simp only [List.flatten_cons,List.length_append]
  rw [Nat.add_assoc] at this
  exact this
theorem yi.split:∀ {p1:List (Nat×Nat×Nat)}{off:Nat}{segs:List (List Keyed)}{A B:Nat×Nat×Nat}{p2:List (Nat×Nat×Nat)},yi f off segs (p1++A::B::p2) →
  ∃ s1 X Y s2,segs=s1++X::Y::s2/\A.1=off+s1.flatten.length/\A.2.1=X.length/\B.1=off+s1.flatten.length+X.length/\B.2.1=Y.length/\SdK f X/\SdK f Y/\X≠[]/\Y≠[] ∧
   ∀ Z pw,SdK f Z->Z.length=X.length+Y.length->yi f off (s1++Z::s2) (p1++(A.1,X.length+Y.length,pw)::p2)
 | [],off,a::b::segs,A,B,p2,h=>by
  obtain ⟨g1,g2,g3,g4,h1,h2,h3,h4,h5⟩:=h
  refine ⟨[],a,b,segs,rfl,by simpa using g1,g2,by simpa using h1,h2,g3,h3,g4,h4,fun Z pw z1 z2=>⟨g1,z2.symm,z1,fun e=>?_,?_⟩⟩
  ·subst e
   simp at z2
   have:=yZ.mpr g4
   omega
  ·rw [z2,<- Nat.add_assoc];exact h5
 | p::p1,off,a::segs,A,B,p2,h=>by
  obtain ⟨g1,g2,g3,g4,g5⟩:=h
  obtain ⟨s1,X,Y,s2,e,k1,k2,k3,k4,k5,k6,k7,k8,k9⟩:=yi.split g5
  refine ⟨a::s1,X,Y,s2,by rw [e];rfl,by rw [k1];simp;omega,k2,by rw [k3];simp;omega,k4,k5,k6,k7,k8,fun Z pw z1 z2=>⟨g1,g2,g3,g4,k9 Z pw z1 z2⟩⟩
theorem yi.repow {g:Nat×Nat×Nat->Nat×Nat×Nat}(hg:∀ p,(g p).1=p.1/\(g p).2.1=p.2.1):∀ {off:Nat}{segs:List (List Keyed)}{ps:List (Nat×Nat×Nat)}{i:Nat},yi f off segs ps->yi f off segs (ps.modify i g)
 | _,[],[],i,h=>by rw [List.modify_nil];exact h
 | _,a::segs,p::ps,0,h=>by
  obtain ⟨g1,g2,g3,g4,g5⟩:=h
  simp only [List.modify_zero_cons]
  exact ⟨(hg p).1.trans g1,(hg p).2.trans g2,g3,g4,g5⟩
 | _,a::segs,p::ps,i+1,h=>by
  obtain ⟨g1,g2,g3,g4,g5⟩:=h
  simp only [List.modify_succ_cons]
  exact ⟨g1,g2,g3,g4,yi.repow hg g5⟩
theorem yi.flat_pos:∀ {off:Nat}{segs:List (List Keyed)}{ps:List (Nat×Nat×Nat)},yi f off segs ps->ps.length<=segs.flatten.length
 | _,[],[],_=>qi _
 | _,a::segs,p::ps,h=>by
  have:=yi.flat_pos h.2.2.2.2
  have:=yZ.mpr h.2.2.2.1
  rw [List.flatten_cons,List.length_append,List.length_cons];omega
end
def wrt (base:Nat) (a:Array Keyed) (l:List (Keyed×Nat)):Array Keyed:=l.foldl (fun a (p:Keyed×Nat)=>a.setIfInBounds (base+p.2) p.1) a
theorem qaK:∀ {M:List Keyed}{n base:Nat}{arr:Array Keyed}{A B C:List Keyed},arr.toList=A++(B++C)->A.length=base+n->M.length=B.length->(wrt base arr (M.zipIdx n)).toList=A++(M++C)
 | [],n,base,arr,A,B,C,h,_,hm=>by
  have:B=[]:=List.eq_nil_of_length_eq_zero hm.symm
  subst this
  simpa [wrt] using h
 | m::M,n,base,arr,A,[],C,h,_,hm=>by simp at hm
 | m::M,n,base,arr,A,b::B,C,h,ha,hm=>by
  have e:(arr.setIfInBounds (base+n) m).toList=(A++[m])++(B++C):=by
   rw [Array.toList_setIfInBounds,h,<- ha]
   simp
  have:=qaK (M:=M) (n:=n+1) (base:=base) (arr:=arr.setIfInBounds (base+n) m) e (by simp;omega) (by simpa using hm)
  rw [List.zipIdx_cons]
  show (wrt base (arr.setIfInBounds (base+n) m) (M.zipIdx (n+1))).toList=_
  rw [this]
  simp
theorem ZQ (i:Nat):mergeAt' i=(do
 let s <- get
 let (some (sa,na,power),some (sb,nb,_)):=((pendingOf s)[i]?,(pendingOf s)[i+1]?) | unsupported "internal:list.sort.pending"
 set (SortSt.mk' (PyProof.Rows.kindOf s) (arrOf s) (((pendingOf s).setIfInBounds i (sa,na+nb,power)).eraseIdxIfInBounds (i+1)) (gallopOf s) (failedOf s))
 let some k <- jc false (<- elem' (arrOf s) sb) (arrOf s) sa na 0 | return false
 let (sa,na):=(sa+k,na - k)
 if na == 0 then return true
 let some nb <- jc true (<- elem' (arrOf s) (sa+na - 1)) (arrOf s) sb nb (nb - 1) | return false
 if nb == 0 then return true
 let x:=(arrOf s).extract sa sb
 let y:=(arrOf s).extract sb (sb+nb)
 let merged <- if na<=nb then Yg x y else Yh x y
 modify fun s=>SortSt.mk' (PyProof.Rows.kindOf s) (merged.toList.zipIdx.foldl (fun a (p,j)=>a.setIfInBounds (sa+j) p) (arrOf s)) (pendingOf s) (gallopOf s) (failedOf s)
 return (failedOf (<- get)).isNone):=rfl
section
variable {prog:Program}{w:World}{A:Around}{E:Value->Shared->Prop}{s:Shared}{kd:SortKind}{D:Keyed->Prop}{f:Keyed->Keyed->Bool}{st:SortSt}
theorem qgK {st st':SortSt}{Q:PUnit->SortSt->Prop}(h:Q ⟨⟩ st'):wpS (model prog w) A E s (set st':StateT SortSt Sem PUnit) Q st:=by
 unfold wpS;rw [StateT.run_set];exact qe ⟨rfl,h⟩
theorem qbL {p1 p2:List (Nat×Nat×Nat)}{a b v:Nat×Nat×Nat}{ps:Array (Nat×Nat×Nat)}(h:ps.toList=p1++a::b::p2):((ps.setIfInBounds p1.length v).eraseIdxIfInBounds (p1.length+1)).toList=p1++v::p2:=by
 have hz:ps.size=p1.length+2+p2.length:=by
  rw [<- Array.length_toList,h];simp;omega
 unfold Array.eraseIdxIfInBounds
 rw [dif_pos (by simp;omega),Array.toList_eraseIdx,Array.toList_setIfInBounds,h]
 simp
 rw [List.eraseIdx_append_of_length_le (by omega)]
 simp
theorem Y1 {X Y:List Keyed}(h1:SdK f X) (h2:SdK f Y) (c:∀ x∈X,∀ y∈Y,f y x=false):SdK f (X++Y):=qJ.mpr ⟨h1,h2,c⟩
theorem JG (hA:Ask prog w A E s kd D f) (O:OrdK f) (hk:PyProof.Rows.kindOf st=kd) (hD:qbU D st) (hf:failedOf st=none) {segs:List (List Keyed)}{yY:List Keyed}{i:Nat}(ha:(arrOf st).toList=segs.flatten++yY) (hp:yi f 0 segs (pendingOf st).toList) (hi:i+1<(pendingOf st).size) {Q:Bool->SortSt->Prop}
  (q:∀ st' segs',PyProof.Rows.kindOf st'=kd->failedOf st'=none->(arrOf st').Perm (arrOf st)->(arrOf st').toList=segs'.flatten++yY->segs'.flatten.length=segs.flatten.length->yi f 0 segs' (pendingOf st').toList->(pendingOf st').size+1=(pendingOf st).size->Q true st') :
  wpS (model prog w) A E s (mergeAt' i) Q st:=by
 have hlen:(pendingOf st).toList.length=(pendingOf st).size:=Array.length_toList
 obtain ⟨p1,a0,b0,p2,hpl,hp1⟩:∃ p1 a0 b0 p2,(pendingOf st).toList=p1++a0::b0::p2/\p1.length=i:=by
  refine ⟨(pendingOf st).toList.take i,(pendingOf st)[i],(pendingOf st)[i+1],(pendingOf st).toList.drop (i+2),?_,by simp;omega⟩
  have e1:=List.drop_eq_getElem_cons (l:=(pendingOf st).toList) (i:=i) (by omega)
  have e2:=List.drop_eq_getElem_cons (l:=(pendingOf st).toList) (i:=i+1) (by omega)
  have:=(qA i (pendingOf st).toList).symm
  rw [e1,e2] at this
  exact this
 rw [hpl] at hp
 obtain ⟨s1,X,Y,s2,rfl,k1,k2,k3,k4,k5,k6,k7,k8,k9⟩:=hp.split
 have g1:(pendingOf st)[i]?=some a0:=by
  rw [<- qj,hpl,<- hp1];simp
 have g2:(pendingOf st)[i+1]?=some b0:=by
  rw [<- qj,hpl,<- hp1]
  rw [qS (by omega)]
  simp
 obtain ⟨sa,na,pw⟩:=a0
 obtain ⟨sb,nb,pw2⟩:=b0
 simp only [Nat.zero_add] at k1 k2 k3 k4
 subst k2 k4
 rw [ZQ]
 refine qf (wpS_get ?_)
 rw [g1,g2]
 dsimp only
 refine qf (qgK ?_)
 have hnp:(((pendingOf st).setIfInBounds i (sa,X.length+Y.length,pw)).eraseIdxIfInBounds (i+1)).toList=p1++(sa,X.length+Y.length,pw)::p2:=by
  rw [<- hp1];exact qbL hpl
 have hsz:(((pendingOf st).setIfInBounds i (sa,X.length+Y.length,pw)).eraseIdxIfInBounds (i+1)).size+1=(pendingOf st).size:=by
  rw [<- Array.length_toList,hnp,<- hlen,hpl];simp;omega
 generalize ((pendingOf st).setIfInBounds i (sa,X.length+Y.length,pw)).eraseIdxIfInBounds (i+1)=np at hnp hsz ⊢
 have harr:(arrOf st).toList=s1.flatten++(X++(Y++(s2.flatten++yY))):=by rw [ha];simp
 have hsz2:(arrOf st).size=s1.flatten.length+(X.length+(Y.length+(s2.flatten.length+yY.length))):=by
  rw [<- Array.length_toList,harr];simp
 have hX:0<X.length:=yZ.mpr k7
 have hY:0<Y.length:=yZ.mpr k8
 have getX:∀ j,j<X.length->(arrOf st)[sa+j]?=X[j]?:=fun j hj=>by
  rw [<- qj,harr,k1,qS (by omega),qT (by omega)]
  congr 1;omega
 have getY:∀ j,j<Y.length->(arrOf st)[sb+j]?=Y[j]?:=fun j hj=>by
  rw [<- qj,harr,k3,qS (by omega),qS (by omega),qT (by omega)]
  congr 1;omega
 have dX:∀ x∈X,D x:=fun x hx=>hD x (by rw [harr];simp [hx])
 have dY:∀ x∈Y,D x:=fun x hx=>hD x (by rw [harr];simp [hx])
 -- the end,by what stands there then
 have fin:∀ (st':SortSt) (Z:List Keyed),PyProof.Rows.kindOf st'=kd->failedOf st'=none->pendingOf st'=np->(arrOf st').toList=s1.flatten++(Z++(s2.flatten++yY))->SdK f Z->Z.Perm (X++Y)->Q true st':=fun st' Z z1 z2 z3 z4 z5 z6=>by
  have zl:=z6.length_eq
  rw [List.length_append] at zl
  refine q st' (s1++Z::s2) z1 z2 ?_ (by rw [z4];simp) (by simp [zl];omega) ?_ (by rw [z3];exact hsz)
  ·rw [yB,z4,harr]
   refine List.Perm.append_left _ ?_
   rw [<- qo X Y]
   exact List.Perm.append_right _ z6
  ·rw [z3,hnp]
   have:=k9 Z pw z5 zl
   simpa using this
 have fin0:SdK f (X++Y)->Q true (SortSt.mk' (PyProof.Rows.kindOf st) (arrOf st) np (gallopOf st) (failedOf st)):=fun h=>fin _ (X++Y) hk hf rfl (by rw [harr];simp) h (List.Perm.refl _)
 have y0:(arrOf st)[sb]?=some Y[0]:=by
  have:=getY 0 hY
  rwa [Nat.add_zero,List.getElem?_eq_getElem hY] at this
 rw [elem'_eq,y0]
 refine qf (ql ?_)
 refine qf (YI hA O hk X rfl getX (dY _ (qX hY)) dX hX k5 fun k hk1 hk2 hk3=>?_)
 have leX:∀ x∈X.take k,f Y[0] x=false:=fun x hx=>by simpa [byd] using hk2 x hx
 have gtX:∀ x∈X.drop k,f Y[0] x=true:=fun x hx=>by simpa [byd] using hk3 x hx
 have Y0le:∀ y∈Y,f y Y[0]=false:=fun y hy=>by
  obtain ⟨j,hj,rfl⟩:=jt.mp hy
  by_cases e:j=0
  ·subst e;exact O.irr _
  ·exact qK.mp k6 0 j hY hj (by omega)
 dsimp only
 by_cases e:X.length - k=0
 ·rw [if_pos (by simpa using e)]
  refine ql (fin0 (Y1 k5 k6 fun x hx y hy=>?_))
  have:X.take k=X:=List.take_of_length_le (by omega)
  exact O.le (leX x (by rw [this];exact hx)) (Y0le y hy)
 ·rw [if_neg (by simpa using e)]
  have hl:X.length - 1<X.length:=by omega
  have xl:(arrOf st)[sa+k+(X.length - k) - 1]?=some X[X.length - 1]:=by
   rw [show sa+k+(X.length - k) - 1=sa+(X.length - 1) by omega,getX _ hl,List.getElem?_eq_getElem hl]
  rw [elem'_eq,xl]
  refine qf (ql ?_)
  refine qf (YI hA O hk Y rfl getY (dX _ (qX hl)) dY (by omega) k6 fun m hm1 hm2 hm3=>?_)
  have ltY:∀ x∈Y.take m,f x X[X.length - 1]=true:=fun x hx=>hm2 x hx
  have geY:∀ x∈Y.drop m,f x X[X.length - 1]=false:=fun x hx=>hm3 x hx
  have Xle:∀ x∈X,f X[X.length - 1] x=false:=fun x hx=>by
   obtain ⟨j,hj,rfl⟩:=jt.mp hx
   by_cases e:j=X.length - 1
   ·subst e;exact O.irr _
   ·exact qK.mp k5 j (X.length - 1) hj hl (by omega)
  dsimp only
  by_cases e2:m=0
  ·rw [if_pos (by simpa using e2)]
   subst e2
   refine ql (fin0 (Y1 k5 k6 fun x hx y hy=>O.le (Xle x hx) (geY y (by simpa using hy))))
  ·rw [if_neg (by simpa using e2)]
   have ex:((arrOf st).extract (sa+k) sb).toList=X.drop k:=by
    have e:((arrOf st).extract (sa+k) sb).toList=((arrOf st).toList.drop (sa+k)).take (sb - (sa+k)):=by simp [Array.toList_extract,List.extract_eq_take_drop]
    rw [e,harr,k1,k3,List.drop_append,List.drop_of_length_le (by omega),List.nil_append,show s1.flatten.length+k - s1.flatten.length=k by omega,List.drop_append_of_le_length (by omega),List.take_append_of_le_length (by simp;omega)]
    exact List.take_of_length_le (by simp;omega)
   have ey:((arrOf st).extract sb (sb+m)).toList=Y.take m:=by
    rw [jW,harr,k3,List.drop_append,List.drop_of_length_le (by omega),List.nil_append,show s1.flatten.length+X.length - s1.flatten.length=X.length by omega,List.drop_left,List.take_append_of_le_length hm1]
   generalize (arrOf st).extract (sa+k) sb=ax at ex ⊢
   generalize (arrOf st).extract sb (sb+m)=ay at ey ⊢
   have hax:ax.size=X.length - k:=by rw [<- Array.length_toList,ex];simp
   have hay:ay.size=m:=by rw [<- Array.length_toList,ey];simp;omega
   have getax:∀ j (h:j<ax.size),ax[j]=X[k+j]'(by omega):=fun j h=>by
    have:ax.toList[j]'(by simpa using h)=(X.drop k)[j]'(by simp;omega):=by simp only [ex]
    rw [List.getElem_drop] at this
    exact this
   have getay:∀ j (h:j<ay.size),ay[j]=Y[j]'(by omega):=fun j h=>by
    have:ay.toList[j]'(by simpa using h)=(Y.take m)[j]'(by simp;omega):=by simp only [ey]
    rw [List.getElem_take] at this
    exact this
   have hB:Both D f ax ay:=by
    refine ⟨fun x hx=>dX x (yN (by rw [<- ex];exact hx)),fun x hx=>dY x (yM (by rw [<- ey];exact hx)),by omega,by omega,fun x hx=>?_,?_,?_,?_⟩
    ·rw [getax]
     have:=ltY x (by rw [<- ey];exact hx)
     simp only [hax,show k+(X.length - k - 1)=X.length - 1 by omega]
     exact this
    ·rw [getax,getay]
     exact gtX _ (jt.mpr ⟨0,by simp;omega,by rw [List.getElem_drop]⟩)
    ·rw [ex];exact List.Pairwise.sublist (List.drop_sublist _ _) k5
    ·rw [ey];exact List.Pairwise.sublist (List.take_sublist _ _) k6
   have key:∀ (o:Array Keyed) (st':SortSt),yr (SortSt.mk' (PyProof.Rows.kindOf st) (arrOf st) np (gallopOf st) (failedOf st)) st'->Ju f ax ay o->Q true (SortSt.mk' (PyProof.Rows.kindOf st') (wrt (sa+k) (arrOf st') o.toList.zipIdx) (pendingOf st') (gallopOf st') (failedOf st')):=fun o st' hs ⟨h1,h2⟩=>by
    rw [ex,ey] at h2
    have ol:=h2.length_eq
    refine fin _ (X.take k++(o.toList++Y.drop m)) (hs.1.trans hk) (hs.2.2.2.trans hf) hs.2.2.1 ?_ ?_ ?_
    ·show (wrt (sa+k) (arrOf st') o.toList.zipIdx).toList=_
     have ea:(arrOf st').toList=(s1.flatten++X.take k)++((X.drop k++Y.take m)++(Y.drop m++(s2.flatten++yY))):=by
      have:arrOf st'=arrOf st:=hs.2.1
      rw [this,harr]
      have e1:=qA k X
      have e2:=qA m Y
      rw [<- qo (X.drop k++Y.take m),qo (X.drop k),e2]
      rw [qo s1.flatten,<- qo (X.take k),<- qo (X.take k),e1]
      simp
     rw [qaK (n:=0) ea (by rw [List.length_append,yg];omega) ol]
     simp
    ·refine Y1 (List.Pairwise.sublist (List.take_sublist _ _) k5) (Y1 h1 (List.Pairwise.sublist (List.drop_sublist _ _) k6) fun x hx y hy=>?_) fun x hx y hy=>?_
     ·have hx:=h2.mem_iff.mp hx
      rcases List.mem_append.mp hx with z | z
      ·exact O.le (Xle x (yN z)) (geY y hy)
      ·have hY2:=qA m Y
       have:SdK f (Y.take m++Y.drop m):=by rw [hY2];exact k6
       exact (qJ.mp this).2.2 x z y hy
     ·rcases List.mem_append.mp hy with z | z
      ·have z:=h2.mem_iff.mp z
       rcases List.mem_append.mp z with z | z
       ·have hX2:=qA k X
        have:SdK f (X.take k++X.drop k):=by rw [hX2];exact k5
        exact (qJ.mp this).2.2 x hx y z
       ·exact O.le (leX x hx) (Y0le y (yM z))
      ·exact O.le (leX x hx) (Y0le y (yN z))
    ·refine List.Perm.trans (List.Perm.append_left _ (List.Perm.append_right _ h2)) ?_
     rw [qo,qA m Y,<- qo,qA k X]
   by_cases e3:X.length - k<=m
   ·rw [if_pos e3]
    refine qf (qbu (st:=SortSt.mk' (PyProof.Rows.kindOf st) (arrOf st) np (gallopOf st) (failedOf st)) hA O hB hk fun o st' hs h=>?_)
    refine qf (ju (qf (wpS_get (ql ?_))))
    have e0:(failedOf st').isNone=true:=by
     have:failedOf st'=none:=hs.2.2.2.trans hf
     rw [this];rfl
    show Q (failedOf st').isNone _
    rw [e0]
    exact key o st' hs h
   ·rw [if_neg e3]
    refine qf (qbv (st:=SortSt.mk' (PyProof.Rows.kindOf st) (arrOf st) np (gallopOf st) (failedOf st)) hA O hB hk fun o st' hs h=>?_)
    refine qf (ju (qf (wpS_get (ql ?_))))
    have e0:(failedOf st').isNone=true:=by
     have:failedOf st'=none:=hs.2.2.2.trans hf
     rw [this];rfl
    show Q (failedOf st').isNone _
    rw [e0]
    exact key o st' hs h
structure RI (f:Keyed->Keyed->Bool) (kd:SortKind) (a0:Array Keyed) (lo:Nat) (st:SortSt):Prop where
 kind:PyProof.Rows.kindOf st=kd
 fail:failedOf st=none
 perm:(arrOf st).Perm a0
 segs:∃ segs yY,(arrOf st).toList=segs.flatten++yY/\segs.flatten.length=lo/\yi f 0 segs (pendingOf st).toList
theorem RI.size {a0:Array Keyed}{lo:Nat}(h:RI f kd a0 lo st):(arrOf st).size=a0.size:=h.perm.size_eq
theorem qde {xs:Array Keyed}{i:Nat}{l:List Keyed}{pre:List Keyed}{post:List Keyed}(h:xs.toList=pre++(l++post)) (hi:i<l.length):kD xs (pre.length+i)=l[i]:=by
 have hz:pre.length+i<xs.size:=by rw [<- Array.length_toList,h];simp;omega
 have:=qdf hz
 rw [<- qj,h,qS (by omega),qT (by omega),Nat.add_sub_cancel_left,List.getElem?_eq_getElem hi] at this
 exact (Option.some.inj this).symm
theorem RI.run {a0:Array Keyed}{lo n:Nat}{st0 st:SortSt}(h:RI f kd a0 lo st0) (hv:SV lo st0 st) (h1:1<=n) (h2:lo+n<=a0.size) (hu:UpL f lo (arrOf st) n):∃ segs run yY,(arrOf st).toList=segs.flatten++(run++yY)/\segs.flatten.length=lo/\yi f 0 segs (pendingOf st).toList/\SdK f run/\run.length=n:=by
 obtain ⟨segs,yY,g1,g2,g3⟩:=h.segs
 have hz:(arrOf st).size=a0.size:=hv.size.trans h.size
 have hz0:=h.size
 have e1:(arrOf st).toList.take lo=segs.flatten:=by
  have:(arrOf st).toList.take lo=(arrOf st0).toList.take lo:=by
   apply List.ext_getElem?
   intro i
   rw [List.getElem?_take,List.getElem?_take]
   split
   ·rename_i hi
    rw [qj,qj]
    exact hv.pre i hi
   ·rfl
  rw [this,g1,<- g2,List.take_left]
 have hl:(arrOf st).toList.length=a0.size:=by rw [Array.length_toList];exact hz
 refine ⟨segs,((arrOf st).toList.drop lo).take n,((arrOf st).toList.drop lo).drop n,?_,g2,by rw [hv.pend];exact g3,?_,by simp;omega⟩
 ·rw [qA n,<- e1,qA]
 ·refine qK.mpr fun i j hi hj hij=>?_
  have hi':i<n:=by simp at hi;omega
  have hj':j<n:=by simp at hj;omega
  have:=hu i j (by omega) hj'
  have ed:(arrOf st).toList=segs.flatten++(((arrOf st).toList.drop lo).take n++((arrOf st).toList.drop lo).drop n):=by rw [qA n,<- e1,qA]
  subst g2
  rw [qde ed hi,qde ed hj] at this
  exact this
theorem RI.push {a0:Array Keyed}{lo n:Nat}{st:SortSt}(hk:PyProof.Rows.kindOf st=kd) (hf:failedOf st=none) (hp:(arrOf st).Perm a0) {segs:List (List Keyed)}{run yY:List Keyed}(g1:(arrOf st).toList=segs.flatten++(run++yY)) (g2:segs.flatten.length=lo) (g3:yi f 0 segs (pendingOf st).toList) (g4:SdK f run) (g5:run.length=n) (h1:1<=n) :
  RI f kd a0 (lo+n) (setPending st ((pendingOf st).push (lo,n,0))):=by
 refine ⟨hk,hf,hp,segs++[run],yY,by rw [show arrOf (setPending st ((pendingOf st).push (lo,n,0)))=arrOf st from rfl,g1];simp,by simp only [List.flatten_append,List.length_append,List.flatten_cons,List.flatten_nil,List.append_nil,g2,g5],?_⟩
 have:=g3.snoc (pw:=0) g4 (fun e=>by subst e;simp at g5;omega)
 rw [show (pendingOf (setPending st ((pendingOf st).push (lo,n,0)))).toList=(pendingOf st).toList++[(lo,n,0)] from Array.toList_push ..]
 rw [Nat.zero_add,g2,g5] at this
 exact this
theorem qai (hA:Ask prog w A E s kd D f) (O:OrdK f) {a0:Array Keyed}(hk:PyProof.Rows.kindOf st=kd) (hf:failedOf st=none) (ha:arrOf st=a0) (hp0:pendingOf st=#[]) (hD:∀ x∈a0.toList,D x) (h2:2<=a0.size) {Q:Unit->SortSt->Prop}
  (q:∀ st',(arrOf st').Perm a0->failedOf st'=none->SdK f (arrOf st').toList->Q () st'):wpS (model prog w) A E s sortRuns' Q st:=by
 have hAll:∀ st',(arrOf st').Perm a0->qbU D st':=fun st' h x hx=>hD x ((yB.mp h).mem_iff.mp hx)
 rw [sortRuns'_eq]
 refine qf (wpS_get ?_)
 dsimp only
 rw [ha]
 generalize minRun' a0.size a0.size 0=minrun
 refine qf (y3 (yf
  (I:=fun x c st'=>∃ lo,c=(none,lo)/\x<=lo/\lo<=a0.size/\RI f kd a0 lo st')
  (Q:=fun c st'=>c=(none,a0.size)/\RI f kd a0 a0.size st') ?step ?fin ⟨0,rfl,qi _,ya _,hk,hf,ha ▸ Array.Perm.refl _,[],a0.toList,by rw [ha];rfl,rfl,by rw [hp0];trivial⟩) ?post)
 case fin =>
  rintro c st' ⟨lo,rfl,g1,g2,g3⟩
  have:lo=a0.size:=by omega
  subst this
  exact ⟨rfl,g3⟩
 case step =>
  rintro x c st' _ hx ⟨lo,rfl,g1,g2,g3⟩
  dsimp only
  by_cases hge:lo ≥ a0.size
  ·rw [if_pos hge]
   have:lo=a0.size:=by omega
   subst this
   exact ql ⟨rfl,g3⟩
  ·rw [if_neg hge]
   have hz:=g3.size
   refine qf (qaj hA O g3.kind (hAll _ g3.perm) (by omega) (by omega) fun n st1 hv h1 hn hu=>?_)
   dsimp only
   -- with a run of n,merge and push
   have next:∀ (n:Nat) (st1:SortSt),SV lo st' st1->1<=n->lo+n<=a0.size->UpL f lo (arrOf st1) n->∃ segs run yY,PyProof.Rows.kindOf st1=kd/\failedOf st1=none/\(arrOf st1).Perm a0/\(arrOf st1).toList=segs.flatten++(run++yY)/\segs.flatten.length=lo/\yi f 0 segs (pendingOf st1).toList/\SdK f run/\run.length=n:=fun n st1 hv h1 hn hu=>by
    obtain ⟨segs,run,yY,e⟩:=g3.run hv h1 hn hu
    exact ⟨segs,run,yY,hv.kind.trans g3.kind,hv.fail.trans g3.fail,hv.perm.trans g3.perm,e⟩
   by_cases hlt:n<minrun
   ·rw [if_pos hlt]
    refine qf (wpS_lift (wpAny_rule ⟨rfl,?_⟩))
    have hz1:=hv.size
    refine qf (qbw (n:=min (a0.size - lo) minrun) (ok:=n) hA O (hv.kind.trans g3.kind) (hAll _ (hv.perm.trans g3.perm)) (by omega) (by omega) hu fun st2 hv2 hu2=>?_)
    simp only [Bool.not_true,Bool.false_eq_true,if_false]
    obtain ⟨segs,run,yY,b1,b2,b3,b4,b5,b6,b7,b8⟩:=next (min (a0.size - lo) minrun) st2 (hv.trans hv2) (by omega) (by omega) hu2
    have hnn:1<=min (a0.size - lo) minrun/\min (a0.size - lo) minrun<=a0.size - lo:=by omega
    generalize min (a0.size - lo) minrun=n at *
    have hn1:1<=n:=by omega
    refine qf (wpS_get ?_)
    cases hb:(pendingOf st2).back? with
    | none =>
     dsimp only
     exact qf (ju (ql ⟨lo+n,rfl,by omega,by omega,RI.push b1 b2 b3 b4 b5 b6 b7 b8 hn1⟩))
    | some p =>
     obtain ⟨s1,n1,pw1⟩:=p
     dsimp only
     generalize power' a0.size (2 * s1+n1) (2 * s1+n1+n1+n) a0.size=pw
     refine qf (y3 (yf (I:=fun _ c sx=>c=(none,())/\∃ segs,PyProof.Rows.kindOf sx=kd/\failedOf sx=none/\(arrOf sx).Perm a0/\(arrOf sx).toList=segs.flatten++(run++yY)/\segs.flatten.length=lo/\yi f 0 segs (pendingOf sx).toList)
      (Q:=fun c sx=>c=(none,())/\∃ segs,PyProof.Rows.kindOf sx=kd/\failedOf sx=none/\(arrOf sx).Perm a0/\(arrOf sx).toList=segs.flatten++(run++yY)/\segs.flatten.length=lo/\yi f 0 segs (pendingOf sx).toList) ?mstep1 ?mfin1 ⟨rfl,segs,b1,b2,b3,b4,b5,b6⟩) ?mpost1)
     case mfin1=>exact fun c sx h=>h
     case mstep1 =>
      rintro y c sx _ _ ⟨rfl,segs,d1,d2,d3,d4,d5,d6⟩
      refine qf (wpS_get ?_)
      by_cases hs:(pendingOf sx).size > 1
      ·rw [if_pos hs]
       have e:(pendingOf sx)[(pendingOf sx).size - 2]?=some ((pendingOf sx)[(pendingOf sx).size - 2]):=jo (by omega)
       rw [e]
       generalize (pendingOf sx)[(pendingOf sx).size - 2]=t
       obtain ⟨t1,t2,t3⟩:=t
       dsimp only
       split
       ·exact ql ⟨rfl,segs,d1,d2,d3,d4,d5,d6⟩
       ·refine qf (JG hA O d1 (hAll _ d3) d2 d4 d6 (by omega) fun st4 segs' z1 z2 z3 z4 z5 z6 z7=>?_)
        simp only [Bool.not_true,Bool.false_eq_true,if_false]
        exact ql ⟨rfl,segs',z1,z2,z3.trans d3,z4,z5.trans d5,z6⟩
      ·rw [if_neg hs]
       exact ql ⟨rfl,segs,d1,d2,d3,d4,d5,d6⟩
     case mpost1 =>
      rintro c sx ⟨rfl,segs,d1,d2,d3,d4,d5,d6⟩
      dsimp only
      refine qf (ju (qf (ju (ql ⟨lo+n,rfl,by omega,by omega,?_⟩))))
      have d7:yi f 0 segs ((pendingOf sx).modify ((pendingOf sx).size - 1) fun x=>(x.1,x.2.1,pw)).toList:=by
       rw [Array.toList_modify];exact yi.repow (g:=fun x=>(x.1,x.2.1,pw)) (fun p=>⟨rfl,rfl⟩) d6
      exact RI.push (st:=setPending sx ((pendingOf sx).modify ((pendingOf sx).size - 1) fun x=>(x.1,x.2.1,pw))) d1 d2 d3 d4 d5 d7 b7 b8 hn1
   ·rw [if_neg hlt]
    obtain ⟨segs,run,yY,b1,b2,b3,b4,b5,b6,b7,b8⟩:=next n st1 hv h1 (by omega) hu
    have hn1:1<=n:=by omega
    refine qf (wpS_get ?_)
    cases hb:(pendingOf st1).back? with
    | none =>
     dsimp only
     exact qf (ju (ql ⟨lo+n,rfl,by omega,by omega,RI.push b1 b2 b3 b4 b5 b6 b7 b8 hn1⟩))
    | some p =>
     obtain ⟨s1,n1,pw1⟩:=p
     dsimp only
     generalize power' a0.size (2 * s1+n1) (2 * s1+n1+n1+n) a0.size=pw
     refine qf (y3 (yf (I:=fun _ c sx=>c=(none,())/\∃ segs,PyProof.Rows.kindOf sx=kd/\failedOf sx=none/\(arrOf sx).Perm a0/\(arrOf sx).toList=segs.flatten++(run++yY)/\segs.flatten.length=lo/\yi f 0 segs (pendingOf sx).toList)
      (Q:=fun c sx=>c=(none,())/\∃ segs,PyProof.Rows.kindOf sx=kd/\failedOf sx=none/\(arrOf sx).Perm a0/\(arrOf sx).toList=segs.flatten++(run++yY)/\segs.flatten.length=lo/\yi f 0 segs (pendingOf sx).toList) ?mstep2 ?mfin2 ⟨rfl,segs,b1,b2,b3,b4,b5,b6⟩) ?mpost1)
     case mfin2=>exact fun c sx h=>h
     case mstep2 =>
      rintro y c sx _ _ ⟨rfl,segs,d1,d2,d3,d4,d5,d6⟩
      refine qf (wpS_get ?_)
      by_cases hs:(pendingOf sx).size > 1
      ·rw [if_pos hs]
       have e:(pendingOf sx)[(pendingOf sx).size - 2]?=some ((pendingOf sx)[(pendingOf sx).size - 2]):=jo (by omega)
       rw [e]
       generalize (pendingOf sx)[(pendingOf sx).size - 2]=t
       obtain ⟨t1,t2,t3⟩:=t
       dsimp only
       split
       ·exact ql ⟨rfl,segs,d1,d2,d3,d4,d5,d6⟩
       ·refine qf (JG hA O d1 (hAll _ d3) d2 d4 d6 (by omega) fun st4 segs' z1 z2 z3 z4 z5 z6 z7=>?_)
        simp only [Bool.not_true,Bool.false_eq_true,if_false]
        exact ql ⟨rfl,segs',z1,z2,z3.trans d3,z4,z5.trans d5,z6⟩
      ·rw [if_neg hs]
       exact ql ⟨rfl,segs,d1,d2,d3,d4,d5,d6⟩
     case mpost1 =>
      rintro c sx ⟨rfl,segs,d1,d2,d3,d4,d5,d6⟩
      dsimp only
      refine qf (ju (qf (ju (ql ⟨lo+n,rfl,by omega,by omega,?_⟩))))
      have d7:yi f 0 segs ((pendingOf sx).modify ((pendingOf sx).size - 1) fun x=>(x.1,x.2.1,pw)).toList:=by
       rw [Array.toList_modify];exact yi.repow (g:=fun x=>(x.1,x.2.1,pw)) (fun p=>⟨rfl,rfl⟩) d6
      exact RI.push (st:=setPending sx ((pendingOf sx).modify ((pendingOf sx).size - 1) fun x=>(x.1,x.2.1,pw))) d1 d2 d3 d4 d5 d7 b7 b8 hn1
 case post =>
  rintro c st' ⟨rfl,g3⟩
  dsimp only
  refine qf (y3 (yf (I:=fun x c sx=>c=(none,())/\RI f kd a0 a0.size sx/\(pendingOf sx).size+x<=a0.size+1)
   (Q:=fun c sx=>c=(none,())/\RI f kd a0 a0.size sx/\(pendingOf sx).size<=1) ?lstep ?lfin ⟨rfl,g3,?linit⟩) ?lpost)
  case linit =>
   obtain ⟨segs,yY,e1,e2,e3⟩:=g3.segs
   have:=e3.flat_pos
   rw [Array.length_toList] at this
   omega
  case lfin =>
   rintro c sx ⟨rfl,h,h'⟩
   exact ⟨rfl,h,by omega⟩
  case lstep =>
   rintro x c sx _ _ ⟨rfl,h,h'⟩
   refine qf (wpS_get ?_)
   by_cases hs:(pendingOf sx).size<=1
   ·rw [if_pos hs]
    exact ql ⟨rfl,h,hs⟩
   ·rw [if_neg hs]
    obtain ⟨segs,yY,e1,e2,e3⟩:=h.segs
    have go:∀ i,i+1<(pendingOf sx).size->wpS (model prog w) A E s (mergeAt' i) (fun r st4=>r=true/\RI f kd a0 a0.size st4/\(pendingOf st4).size+1=(pendingOf sx).size) sx:=fun i hi =>
     JG hA O h.kind (hAll _ h.perm) h.fail e1 e3 hi fun st4 segs' z1 z2 z3 z4 z5 z6 z7=>⟨rfl,⟨z1,z2,z3.trans h.perm,segs',yY,z4,z5.trans e2,z6⟩,z7⟩
    refine qf (y3 (go _ ?_) fun r st4 hr=>?_)
    ·have two:∀ (c:Prop) [Decidable c] (a b z:Nat),a+1<z->b+1<z->(if c then a else b)+1<z:=fun c _ a b z h1 h2=>by split <;> assumption
     exact two _ _ _ _ (by omega) (by omega)
    ·obtain ⟨rfl,h4,h5⟩:=hr
     simp only [Bool.not_true,Bool.false_eq_true,if_false]
     exact ql ⟨rfl,h4,by omega⟩
  case lpost =>
   rintro c sx ⟨rfl,h,h'⟩
   dsimp only
   obtain ⟨segs,yY,e1,e2,e3⟩:=h.segs
   refine ql (q sx h.perm h.fail ?_)
   have hl:=e3.len
   rw [Array.length_toList] at hl
   have hz:=h.size
   match segs,hl,e1,e2,e3 with
   | [],_,_,e2,_=>simp at e2;omega
   | [Z],_,e1,e2,e3 =>
    have e1l:=congrArg List.length e1
    rw [List.length_append,Array.length_toList,e2,hz] at e1l
    have:yY=[]:=List.eq_nil_of_length_eq_zero (by omega)
    rw [e1,this,List.append_nil]
    match (pendingOf sx).toList,e3 with
    | [p],e3=>simpa using e3.2.2.1
   | _::_::_,hl,_,_,_=>simp at hl;omega
end
end L2
namespace L2
open PySem PySem.Spec PyProof.Rows PySem.W
def qbq (vs:List Value) (p:Array Nat):List Value:=p.toList.map fun i=>vs.getD i Value.none
def ltK (kss:List (List Int)):Nat->Nat->Bool:=fun i j=>decide (kss.getD i []<kss.getD j [])
theorem jD {h:Heap}:∀ {vs:List Value}{kss:List (List Int)},PySem.Paired (jn h) vs kss->∀ i,i<vs.length->jn h (vs.getD i Value.none) (kss.getD i [])
 | _,_,.nil,i,z=>by simp at z
 | _,_,.cons r t,0,_=>r
 | _,_,.cons r t,i+1,z=>jD t i (by simpa using z)
theorem Zn {vs:List Value}{p:Array Nat}(hp:Arr vs.length p):(qbq vs p).length=vs.length:=by
 unfold qbq
 rw [List.length_map,Array.length_toList,hp.size]
section
variable {prog:Program}{w:World}{A:Around}{E:Value->Shared->Prop}{s:Shared}
theorem Yx:∀ {vs:List Value}{a b:List Int},IntsAre vs a->IntsAre vs b->a=b
 | _,_,_,.nil,.nil=>rfl
 | _,_,_,.cons _ _ h,.cons _ _ g=>by rw [Yx h g]
open Classical in
noncomputable def kf (h:Heap) (v:Value):List Int:=epsilon fun ks=>jn h v ks
theorem qhK {h:Heap}{v:Value}{ks:List Int}(t:jn h v ks):kf h v=ks:=by
 have t2:=Classical.epsilon_spec (p:=fun ks=>jn h v ks) ⟨ks,t⟩
 obtain ⟨a,o,xs,n,rfl,ho,_,hd,hi,_⟩:=t
 obtain ⟨a',o',xs',n',e,ho',_,hd',hi',_⟩:=t2
 cases e
 rw [ho] at ho'
 cases ho'
 rw [hd] at hd'
 cases hd'
 exact Yx hi' hi
noncomputable def kfF (h:Heap):Keyed->Keyed->Bool:=fun x y=>decide (kf h x.1<kf h y.1)
theorem qjX (h:Heap):OrdK (kfF h) where
 asym a b h:=yt (qbd (qr h))
 neg a b c h1:=by
  have h1:=qr h1
  by_cases e:kf h a.1<kf h b.1
  ·exact .inl (qu e)
  ·exact .inr (qu (List.lt_of_le_of_lt (List.not_lt.mp e) h1))
theorem qfs:Ask prog w A E s (tuples' true) (fun x=>∃ ks,jn s.heap x.1 ks) (kfF s.heap):=by
 intro x y st Q ⟨k1,t1⟩ ⟨k2,t2⟩ hk q
 rw [lt'_eq]
 refine qf (wpS_get ?_)
 rw [hk]
 refine qf (wpS_lift (wpAny_attempt (lt_wp t1 t2 ⟨rfl,?_⟩)))
 unfold kfF at q
 rw [qhK t1,qhK t2] at q
 exact ql q
theorem qeK {α β:Type}(g:β->α) {xs ys:List α}(h:xs.Perm ys):∀ {l:List β},ys=l.map g->∃ l':List β,l'.Perm l/\xs=l'.map g:=by
 induction h with
 | nil =>
  intro l e
  exact ⟨l,List.Perm.refl _,e⟩
 | cons x p ih =>
  intro l e
  cases l with
  | nil=>cases e
  | cons b l =>
   rw [List.map_cons] at e
   obtain ⟨e1,e2⟩:=List.cons.inj e
   obtain ⟨l',p',e'⟩:=ih e2
   exact ⟨b::l',p'.cons b,by rw [List.map_cons,e',e1]⟩
 | swap x y l0 =>
  intro l e
  match l,e with
  | b::c::l,e =>
   simp only [List.map_cons,List.cons.injEq] at e
   obtain ⟨e1,e2,e3⟩:=e
   exact ⟨c::b::l,List.Perm.swap _ _ _,by simp [e1,e2,e3]⟩
 | trans p1 p2 ih1 ih2 =>
  intro l e
  obtain ⟨l',q1,e1⟩:=ih2 e
  obtain ⟨l'',q2,e2⟩:=ih1 e1
  exact ⟨l'',q2.trans q1,e2⟩
theorem qeL {h:Heap}{vs:List Value}{kss:List (List Int)}(hT:PySem.Paired (jn h) vs kss) {xs:Array Keyed}(hp:xs.Perm (pairsOf vs)) (hs:SdK (kfF h) xs.toList):∃ p,Arr vs.length p/\qbR (ltK kss) p vs.length/\xs=p.map (kas_item (pairsOf vs)):=by
 have y:=kas_range (pairsOf vs)
 rw [pairsOf_size] at y
 have hp:=yB.mp hp
 rw [<- y,Array.toList_map] at hp
 obtain ⟨l,p1,e⟩:=qeK _ hp rfl
 have p1:l.Perm (List.range vs.length):=by simpa using p1
 have hl:l.length=vs.length:=by rw [p1.length_eq,yp]
 refine ⟨l.toArray,yB.mpr (by simpa using p1),fun i j hij hj=>?_,Array.toList_inj.mp (by rw [e,Array.toList_map])⟩
 have gi:∀ i (hi:i<l.length),gD l.toArray i=l[i]:=fun i hi=>by simp [gD,Array.getD,hi]
 rw [gi i (by omega),gi j (by omega)]
 have lt:∀ i (hi:i<l.length),l[i]<vs.length:=fun i hi=>List.mem_range.mp (p1.mem_iff.mp (qX hi))
 have key:∀ i (hi:i<l.length),kf h ((kas_item (pairsOf vs) l[i]).1)=kss.getD l[i] []:=fun i hi=>by
  rw [kas_item_eq]
  exact qhK (jD hT _ (lt i hi))
 by_cases c:i=j
 ·subst c
  exact (qc5 fun i=>kss.getD i []).irr _
 ·rw [e] at hs
  have:=qK.mp hs i j (by simp;omega) (by simp;omega) (by omega)
  simp only [List.getElem_map] at this
  unfold kfF at this
  rw [key i (by omega),key j (by omega)] at this
  exact this
theorem qcg {a:Addr}{vs:List Value}{kss:List (List Int)}{n:Nat}{P:PySem.Fin->Shared->Prop}(ho:s.heap.get? a=some (seqObj "list" vs.toArray n)) (hT:PySem.Paired (jn s.heap) vs kss) (h64:vs.length<4915)
  (h:∀ p,Arr vs.length p->qbR (ltK kss) p vs.length->P (.done (.ret .none)) { s with heap:=sortedHeap s.heap a vs (qbq vs p).toArray }) :
  wpAny (model prog w) A (Builtin.«list.sort» ⟨[.ref a],[]⟩) P E s:=by
 rw [list_sort_plain]
 have hlt:a<s.heap.objs.size:=qg ho
 have hn64:vs.length<=sizeLine:=by rw [sizeLine_eq];omega
 refine qb (listItems_at ho rfl (qb (listUpdate_at ho rfl ?_ (by rw [List.size_toArray];exact hn64) (ya _))))
 obtain ⟨ep,hc⟩:∃ ep,(s.heap.update a (Obj.mapSeq fun _=>(#[]:Array Value))).get? a=some (seqObj "list" #[] ep):=⟨_,get?_update_seq ho fun _=>#[]⟩
 refine qb (seqEpoch_at hc rfl (qb (wpAny_newTuple (qb (wpAny_newList (yk ?_) (ya _))) (by show vs.length<=_;exact hn64))))
 generalize hh:((s.heap.update a (Obj.mapSeq fun _=>(#[]:Array Value))).push (seqObj "tuple" vs.toArray 0)).push (seqObj "list" #[] 0)=h6
 have at6:h6.get? a=some (seqObj "list" #[] ep):=by
  rw [<- hh]
  exact qc _ (qc _ hc)
 have old6:∀ b o,s.heap.get? b=some o->b≠a->h6.get? b=some o:=fun b o e ne=>by
  rw [<- hh]
  refine qc _ (qc _ ?_)
  rw [Heap.get?_update_ne _ _ _ _ ne]
  exact e
 have hT6:PySem.Paired (jn h6) vs kss:=Paired.mapP hT fun v ks t=>t.kept fun b o e hcl=>old6 b o e fun z=>by
  subst z
  rw [ho] at e
  cases e
  exact absurd (show Value.type "list" = Value.type "tuple" from hcl) (by decide)
 have fin6:∀ p,Arr vs.length p->qbR (ltK kss) p vs.length->P (.done (.ret .none)) { s with heap:=h6.update a (Obj.mapSeq fun _=>(qbq vs p).toArray) }:=fun p hp hs=>by
  have:=h p hp hs
  unfold sortedHeap at this
  rw [hh] at this
  exact this
 show wpAny (model prog w) A _ P E { s with heap:=h6 }
 dsimp only
 have sz:vs.toArray.size=vs.length:=List.size_toArray ..
 have zipE:vs.toArray.zip vs.toArray=pairsOf vs:=rfl
 have snd:∀ p,((p.map (kas_item (pairsOf vs))).map (·.2))=(qbq vs p).toArray:=fun p=>by
  apply Array.toList_inj.mp
  simp only [Array.toList_map,List.map_map,qbq]
  exact List.map_congr_left fun i _=>by simp [kas_item_eq]
 by_cases c2:vs.toArray.size<2
 ·rw [if_pos c2,if_pos c2]
  refine qb (qe ?_)
  rw [StateT.run_pure]
  refine qb (qe ?_)
  dsimp only
  have e0:((vs.toArray.zip vs.toArray).map (·.2))=(qbq vs (List.range vs.length).toArray).toArray:=by
   have z:=snd (List.range vs.length).toArray
   have y:=kas_range (pairsOf vs)
   rw [pairsOf_size] at y
   rw [<- z,y,zipE]
  refine qb (seqEpoch_at at6 rfl (qb (listUpdate_at at6 rfl ?_ (ya _) ?_)))
  ·simp only [bne_self_eq_false,Bool.false_eq_true,if_false]
   refine qe ?_
   have f0:=fin6 (List.range vs.length).toArray (Array.Perm.refl _) fun i j hij hj=>by
    have:i=j:=by rw [sz] at c2;omega
    subst this
    exact (qc5 fun i=>kss.getD i []).irr _
   rw [<- e0] at f0
   exact f0
  ·show ((vs.toArray.zip vs.toArray).map (·.2)).size<=_
   rw [e0,List.size_toArray,Zn (Array.Perm.refl _)]
   omega
 ·rw [if_neg c2,if_neg c2]
  refine qb (qhJ (s:={ s with heap:=h6 }) hT6 (by rw [sz] at c2;omega) ?_)
  have hD6:∀ x∈(pairsOf vs).toList,∃ ks,jn h6 x.1 ks:=fun x hx=>by
   have y:=kas_range (pairsOf vs)
   rw [pairsOf_size] at y
   rw [<- y,Array.toList_map] at hx
   obtain ⟨i,hi,rfl⟩:=qE.mp hx
   rw [kas_item_eq]
   exact ⟨_,jD hT6 i (by simpa using hi)⟩
  have run:=qai (prog:=prog) (w:=w) (A:=A) (E:=E) (s:={ s with heap:=h6 }) (st:=SortSt.mk' (tuples' true) (pairsOf vs) #[] 7 none) (a0:=pairsOf vs)
   (Q:=fun _ st'=>∃ p,Arr vs.length p/\qbR (ltK kss) p vs.length/\arrOf st'=p.map (kas_item (pairsOf vs))/\failedOf st'=none)
   (qfs (s:={ s with heap:=h6 })) (qjX h6) rfl rfl rfl rfl hD6 (by rw [pairsOf_size];rw [sz] at c2;omega) (fun st' hp hf hs=>by
    obtain ⟨p,p1,p2,p3⟩:=qeL hT6 hp hs
    exact ⟨p,p1,p2,p3,hf⟩)
  refine qb (yJ (show wpAny (model prog w) A (sortRuns'.run _) _ E _ from run) ?_ fun _ _ e=>e)
  rintro ⟨⟨⟩,st'⟩ s' ⟨rfl,p,hp,hs,e1,e2⟩
  dsimp only
  refine qb (seqEpoch_at at6 rfl (qb (listUpdate_at at6 rfl ?_ (ya _) ?_)))
  ·rw [e2]
   simp only [bne_self_eq_false,Bool.false_eq_true,if_false]
   refine qe ?_
   rw [e1,snd p]
   exact fin6 p hp hs
  ·show ((arrOf st').map (·.2)).size<=_
   rw [e1,snd p,List.size_toArray,Zn hp]
   omega
end
end L2
namespace L2
open PySem PySem.Spec PyProof.Rows PySem.W
abbrev jR (h h':Heap):Prop:=∀ b o,h.get? b=some o->h'.get? b=some o
section
variable {prog:Program}{w:World}{A:Around}{E:Value->Shared->Prop}{s:Shared}
def qkJ (s:Shared) (R:List Value->List (List Int)->Prop) (vs:List Value) (s1:Shared):Prop :=
 ∃ h1 tk kss,s1={ s with heap:=h1,toks:=tk }/\jR s.heap h1/\PySem.Paired (jn h1) vs kss/\vs.length<4915/\R vs kss
theorem qcf {x:Value}{R:List Value->List (List Int)->Prop}{Q:Value->Shared->Prop}(hcol:∀ E',wpAny (model prog w) A.in1 (collect x) (qkJ s R) E' s)
  (h:∀ vs kss p h' tk D e,R vs kss->Arr vs.length p->qbR (ltK kss) p vs.length->PySem.Paired (jn h') vs kss->vs.length<4915->jR s.heap h'->s.heap.get? D=none->h'.get? D=some (seqObj "list" (qbq vs p).toArray e)->Q (.ref D) { s with heap:=h',toks:=tk }) :
  wpAny (model prog w) A (call (.builtin "sorted") [x]) Q E s:=by
 refine Calls.call_function_entry kind_sorted plain_sorted entry_sorted (args_sorted1 _) ?_
 unfold Builtin.«sorted»
 refine qb (m:=checkCount "sorted" 1 1 _) (qe (qb ?_))
 refine yJ (hcol _) (fun vs s1 ⟨h1,tk,kss,e1,kp,hT,h64,hR⟩=>?_) fun _ _ z=>z
 subst e1
 have hn64:vs.length<=sizeLine:=by rw [sizeLine_eq];omega
 refine qb (wpAny_newList ?_ hn64)
 have hD:(h1.push (seqObj "list" vs.toArray 0)).get? h1.objs.size=some (seqObj "list" vs.toArray 0):=qz _ rfl
 have hT2:PySem.Paired (jn (h1.push (seqObj "list" vs.toArray 0))) vs kss:=Paired.mapP hT fun v ks t=>t.kept fun b o e _=>qc _ e
 refine qb (yk (wpAny_call_entry slot_list_sort ⟨_,hD,rfl⟩ entry_list_sort (qcg (s:={ s with heap:=h1.push (seqObj "list" vs.toArray 0),toks:=tk }) hD hT2 h64 fun p hp hs=>⟨_,rfl,?_⟩) (args_list_sort _)))
 obtain ⟨e,he⟩:=sortedHeap_at (vs:=vs) (out:=(qbq vs p).toArray) hD
 have kp2:jR h1 (sortedHeap (h1.push (seqObj "list" vs.toArray 0)) h1.objs.size vs (qbq vs p).toArray):=fun b o q1=>by
  have hlt:b<h1.objs.size:=qg q1
  rw [sortedHeap_old (qx hlt) (by rw [size_push'];exact Nat.lt_succ_of_lt hlt)]
  exact qc _ q1
 refine qe ⟨_,rfl,h vs kss p _ tk h1.objs.size e hR hp hs (Paired.mapP hT fun v ks t=>t.kept fun b o e _=>kp2 b o e) h64 (fun b o q=>kp2 b o (kp b o q)) ?_ he⟩
 ·cases z:s.heap.get? h1.objs.size with
  | none=>rfl
  | some o =>
   have:=qg (kp _ _ z)
   exact absurd this (yQ _)
end
end L2
namespace L2
open PySem PySem.SetTable
def adv (m:Nat) (p:Probe):Probe :=
 if p.more > 0 then { p with j:=p.j+1,more:=p.more - 1 } else
 { p with j:=(leap m p.i p.perturb).1,more:=runEnd m (leap m p.i p.perturb).1 - (leap m p.i p.perturb).1,i:=(leap m p.i p.perturb).1,perturb:=(leap m p.i p.perturb).2 }
theorem qbQ (t:SetTable) (p:Probe):t.advance p=adv t.mask p:=rfl
def at0 (m i e:Nat):Probe:={ j:=i,more:=runEnd m i - i,i:=i,perturb:=e,dummy:=none }
def stp (m:Nat) (h:Int):Nat->Probe
 | 0=>at0 m (bits h % (m+1)) (bits h)
 | k+1=>adv m (stp m h k)
theorem qes (t:SetTable) (h:Int):t.probeStart h=stp t.mask h 0:=rfl
theorem Zv (m:Nat) (h:Int):∀ k,(stp m h k).dummy=none
 | 0=>rfl
 | k+1=>by
  have:=Zv m h k
  simp only [stp,adv]
  split <;> simpa using this
def lp (m:Nat) (h:Int):Nat->Nat×Nat
 | 0=>(bits h % (m+1),bits h)
 | L+1=>leap m (lp m h L).1 (lp m h L).2
theorem qcv {m:Nat}{h:Int}{k i e:Nat}(h0:stp m h k=at0 m i e):∀ r,r<=runEnd m i - i->stp m h (k+r)={ j:=i+r,more:=runEnd m i - i - r,i:=i,perturb:=e,dummy:=none }
 | 0,_=>h0
 | r+1,hr=>by
  have ih:=qcv h0 r (by omega)
  show adv m (stp m h (k+r))=_
  rw [ih]
  unfold adv
  rw [if_pos (show runEnd m i - i - r > 0 by omega)]
  simp only [Probe.mk.injEq,true_and,and_true]
  omega
theorem qf4 {m:Nat}{h:Int}{k i e:Nat}(h0:stp m h k=at0 m i e):stp m h (k+(runEnd m i - i)+1)=at0 m (leap m i e).1 (leap m i e).2:=by
 have ih:=qcv h0 (runEnd m i - i) (qi _)
 show adv m (stp m h (k+(runEnd m i - i)))=_
 rw [ih]
 unfold adv
 rw [if_neg (show ¬ runEnd m i - i - (runEnd m i - i) > 0 by omega)]
 rfl
theorem qg6 (m i:Nat):runEnd m i - i<=9:=by unfold runEnd;split <;> omega
theorem qf5 (m:Nat) (h:Int):∀ L,∃ k,k<=10 * L/\stp m h k=at0 m (lp m h L).1 (lp m h L).2
 | 0=>⟨0,qi _,rfl⟩
 | L+1=>by
  obtain ⟨k,hk,e⟩:=qf5 m h L
  have:=qg6 m (lp m h L).1
  exact ⟨_,by omega,qf4 e⟩
def lcg (M i:Nat):Nat:=(i * 5+1) % M
def itn (M:Nat):Nat->Nat->Nat
 | 0,i=>i
 | n+1,i=>lcg M (itn M n i)
theorem Y8 (M:Nat) (i:Nat):∀ a b,itn M (b+a) i=itn M b (itn M a i)
 | a,0=>by rw [Nat.zero_add];rfl
 | a,b+1=>by
  rw [show b+1+a=(b+a)+1 by omega]
  show lcg M (itn M (b+a) i)=lcg M (itn M b (itn M a i))
  rw [Y8 M i a b]
structure Full (m:Nat):Prop where
 all:∀ q,q<=m->∃ b,b<=m/\itn (m+1) b 0=q
 back:itn (m+1) (m+1) 0=0
theorem Full.go {m:Nat}(F:Full m) {i q:Nat}(hi:i<=m) (hq:q<=m):∃ b,b<=m/\itn (m+1) b i=q:=by
 obtain ⟨x,hx,rfl⟩:=F.all i hi
 obtain ⟨y,hy,rfl⟩:=F.all q hq
 by_cases c:x<=y
 ·exact ⟨y - x,by omega,by rw [<- Y8,show y - x+x=y by omega]⟩
 ·refine ⟨y+(m+1) - x,by omega,?_⟩
  rw [<- Y8,show y+(m+1) - x+x=y+(m+1) by omega,Y8,F.back]
theorem qc6 (m:Nat) (h:Int):∀ L,(lp m h L).2=bits h / 32 ^ L
 | 0=>by simp [lp]
 | L+1=>by
  show (lp m h L).2 / 32=_
  rw [qc6 m h L,Nat.div_div_eq_div_mul,Nat.pow_succ]
theorem qig (h:Int):bits h<18446744073709551616:=by
 unfold bits
 have:=Int.emod_lt_of_pos h (show (0:Int)<2 ^ 64 by decide)
 have:=Int.emod_nonneg h (show (2 ^ 64:Int)≠0 by decide)
 omega
theorem lp_le (m:Nat) (h:Int):∀ L,(lp m h L).1<=m
 | 0=>by
  have:=yE (bits h) (show 0<m+1 by omega)
  show bits h % (m+1)<=m
  omega
 | L+1=>by
  show ((lp m h L).1 * 5+1+(lp m h L).2 / 32) % (m+1)<=m
  have:=yE ((lp m h L).1 * 5+1+(lp m h L).2 / 32) (show 0<m+1 by omega)
  omega
theorem qc7 (m:Nat) (h:Int):∀ b,(lp m h (12+b)).1=itn (m+1) b (lp m h 12).1
 | 0=>rfl
 | b+1=>by
  have ih:=qc7 m h b
  show ((lp m h (12+b)).1 * 5+1+(lp m h (12+b)).2 / 32) % (m+1)=lcg (m+1) (itn (m+1) b (lp m h 12).1)
  rw [<- ih]
  have hb:=qig h
  have z:(lp m h (12+b)).2 / 32=0:=by
   rw [qc6,Nat.div_div_eq_div_mul]
   apply Nat.div_eq_of_lt
   have:(32:Nat) ^ (12+b)=32 ^ 12 * 32 ^ b:=Nat.pow_add ..
   rw [this]
   have p1:1<=32 ^ b:=Nat.one_le_pow _ _ (by decide)
   have:(32:Nat) ^ 12 * 1<=32 ^ 12 * 32 ^ b:=Nat.mul_le_mul_left _ p1
   have e12:(32:Nat) ^ 12=1152921504606846976:=by decide
   omega
  rw [z]
  rfl
theorem Full.lp {m:Nat}(F:Full m) (h:Int) {q:Nat}(hq:q<=m):∃ L,L<=m+12/\(lp m h L).1=q:=by
 obtain ⟨b,hb,e⟩:=F.go (lp_le m h 12) hq
 exact ⟨12+b,by omega,by rw [qc7,e]⟩
theorem Full.walk {m:Nat}(F:Full m) (h:Int) {q:Nat}(hq:q<=m):∃ k,k<=10 * (m+12)/\(stp m h k).j=q:=by
 obtain ⟨L,hL,e⟩:=F.lp h hq
 obtain ⟨k,hk,e2⟩:=qf5 m h L
 exact ⟨k,by omega,by rw [e2];exact e⟩
theorem qfF (m:Nat) (h:Int) (k:Nat):(stp m h k).j<=m:=by
 have key:∀ k,(stp m h k).i<=m/\(stp m h k).j+(stp m h k).more<=m:=by
  intro k
  induction k with
  | zero =>
   have:=yE (bits h) (show 0<m+1 by omega)
   refine ⟨by show bits h % (m+1)<=m;omega,?_⟩
   show bits h % (m+1)+(runEnd m (bits h % (m+1)) - bits h % (m+1))<=m
   unfold runEnd
   split <;> omega
  | succ k ih =>
   obtain ⟨h1,h2⟩:=ih
   show (adv m (stp m h k)).i<=m/\(adv m (stp m h k)).j+(adv m (stp m h k)).more<=m
   unfold adv
   split
   ·exact ⟨h1,by simp only;omega⟩
   ·have:=yE ((stp m h k).i * 5+1+(stp m h k).perturb / 32) (show 0<m+1 by omega)
    have e:(leap m (stp m h k).i (stp m h k).perturb).1=((stp m h k).i * 5+1+(stp m h k).perturb / 32) % (m+1):=rfl
    simp only [e]
    refine ⟨by omega,?_⟩
    unfold runEnd
    split <;> omega
 have:=(key k).2
 omega
def chk (m:Nat):Bool:=(List.range (m+1)).all (fun q=>(List.range (m+1)).any fun b=>itn (m+1) b 0 == q) && itn (m+1) (m+1) 0 == 0
theorem qdp {m:Nat}(h:chk m=true):Full m:=by
 unfold chk at h
 rw [Bool.and_eq_true] at h
 obtain ⟨h1,h2⟩:=h
 refine ⟨fun q hq=>?_,by simpa using h2⟩
 have:=List.all_eq_true.mp h1 q (List.mem_range.mpr (by omega))
 obtain ⟨b,hb,e⟩:=List.any_eq_true.mp this
 exact ⟨b,by have:=List.mem_range.mp hb;omega,by simpa using e⟩
theorem full7:Full 7:=qdp (by decide +kernel)
theorem qka:Full 31:=qdp (by decide +kernel)
end L2
namespace L2
open PySem PySem.SetTable
def S5:Nat->Nat
 | 0=>0
 | n+1=>5 * S5 n+1
theorem qgE (a b:Nat):S5 (a+b)=5 ^ b * S5 a+S5 b:=by
 induction b with
 | zero=>simp [S5]
 | succ b ih =>
  rw [<- Nat.add_assoc]
  show 5 * S5 (a+b)+1=5 ^ (b+1) * S5 a+(5 * S5 b+1)
  rw [ih,Nat.pow_succ]
  grind
theorem p5 (e:Nat):∃ q,5 ^ e+1=2 * (2 * q+1):=by
 induction e with
 | zero=>exact ⟨0,rfl⟩
 | succ e ih =>
  obtain ⟨q,hq⟩:=ih
  refine ⟨5 * q+1,?_⟩
  rw [Nat.pow_succ]
  omega
theorem qec (e:Nat):S5 (2 * e)=(5 ^ e+1) * S5 e:=by
 rw [show 2 * e=e+e by omega,qgE]
 grind
theorem qkE (e:Nat):S5 (2 * e+1) % 2=1:=by
 show (5 * S5 (2 * e)+1) % 2=1
 obtain ⟨q,hq⟩:=p5 e
 rw [qec,hq,Nat.mul_assoc]
 omega
theorem qgD:∀ (k d:Nat),2 ^ k ∣ S5 d->2 ^ k ∣ d
 | 0,d,_=>by simp
 | k+1,d,h=>by
  have hev:d % 2=0:=by
   apply Nat.eq_zero_of_not_pos
   intro z
   have hd:d=2 * (d / 2)+1:=by omega
   have h2:2 ∣ S5 d:=Nat.dvd_trans ⟨2 ^ k,by rw [Nat.pow_succ];omega⟩ h
   rw [hd] at h2
   have:=qkE (d / 2)
   omega
  obtain ⟨e,rfl⟩:∃ e,d=2 * e:=⟨d / 2,by omega⟩
  obtain ⟨q,hq⟩:=p5 e
  rw [qec,hq,Nat.pow_succ,Nat.mul_comm (2 ^ k),Nat.mul_assoc] at h
  have h3:=Nat.dvd_of_mul_dvd_mul_left (by decide) h
  have co:Nat.Coprime (2 ^ k) (2 * q+1):=Nat.Coprime.pow_left _ (by
   unfold Nat.Coprime
   rw [Nat.gcd_rec]
   simp [Nat.add_mod])
  have h4:=qgD k e (co.dvd_of_dvd_mul_left h3)
  rw [Nat.pow_succ,Nat.mul_comm]
  exact Nat.mul_dvd_mul_left 2 h4
theorem qgC:∀ k,2 ^ k ∣ S5 (2 ^ k)
 | 0=>by simp
 | k+1=>by
  obtain ⟨q,hq⟩:=p5 (2 ^ k)
  rw [Nat.pow_succ,Nat.mul_comm (2 ^ k) 2,qec,hq,Nat.mul_assoc]
  exact Nat.mul_dvd_mul_left 2 (Nat.dvd_trans (qgC k) (Nat.dvd_mul_left _ _))
theorem qgo (M:Nat):∀ b,itn M b 0 % M=S5 b % M
 | 0=>rfl
 | b+1=>by
  show (itn M b 0 * 5+1) % M % M=(5 * S5 b+1) % M
  rw [Nat.mod_mod,Nat.add_mod,Nat.mul_mod,qgo M b,<- Nat.mul_mod,<- Nat.add_mod,Nat.mul_comm]
theorem qgn {M:Nat}(hM:0<M):∀ b,itn M b 0<M
 | 0=>hM
 | b+1=>yE _ hM
theorem qkF {k a b:Nat}(hab:a<=b) (hb:b<2 ^ k) (h:S5 a % 2 ^ k=S5 b % 2 ^ k):a=b:=by
 obtain ⟨d,rfl⟩:∃ d,b=d+a:=⟨b - a,by omega⟩
 rw [qgE] at h
 have h1:2 ^ k ∣ 5 ^ a * S5 d:=by
  have:=Nat.sub_mod_eq_zero_of_mod_eq h.symm
  rw [Nat.add_sub_cancel] at this
  exact Nat.dvd_of_mod_eq_zero this
 have co:Nat.Coprime (2 ^ k) (5 ^ a):=Nat.Coprime.pow _ _ (by decide)
 have h2:=qgD k d (co.dvd_of_dvd_mul_left h1)
 have:d=0:=Nat.eq_zero_of_dvd_of_lt h2 (by omega)
 omega
theorem qcZ:∀ {n:Nat}{l:List Nat},l.Nodup->(∀ x∈l,x<n)->l.length=n->∀ q,q<n->q∈l:=fun {n l} h1 h2 h3 q hq=>by
 have hp:l.Perm (List.range n):=by
  have sub:∀ (l r:List Nat),l.Nodup->(∀ x∈l,x∈r)->∃ r',(l++r').Perm r:=by
   intro l
   induction l with
   | nil=>exact fun r _ _=>⟨r,List.Perm.refl _⟩
   | cons a l ih =>
    intro r hn hs
    have ha:=hs a qv
    obtain ⟨r',hr'⟩:=ih (r.erase a) (List.nodup_cons.mp hn).2 (fun x hx=>by
     have:x≠a:=fun z=>(List.nodup_cons.mp hn).1 (z ▸ hx)
     exact (List.mem_erase_of_ne this).mpr (hs x (qk _ hx)))
    exact ⟨r',(hr'.cons a).trans (List.perm_cons_erase ha).symm⟩
  obtain ⟨r',hr'⟩:=sub l (List.range n) h1 fun x hx=>List.mem_range.mpr (h2 x hx)
  have:=hr'.length_eq
  rw [List.length_append,yp] at this
  have:r'=[]:=List.eq_nil_of_length_eq_zero (by omega)
  rw [this,List.append_nil] at hr'
  exact hr'
 exact hp.mem_iff.mpr (List.mem_range.mpr hq)
theorem Yj (k m:Nat) (hm:m+1=2 ^ k):Full m:=by
 have hM:0<2 ^ k:=by omega
 have red:∀ b,itn (2 ^ k) b 0=S5 b % 2 ^ k:=fun b=>by
  have:=qgo (2 ^ k) b
  rwa [qD (qgn hM b)] at this
 refine ⟨fun q hq=>?_,?_⟩
 ·have hnd:((List.range (2 ^ k)).map fun b=>itn (2 ^ k) b 0).Nodup:=by
   refine List.pairwise_map.mpr (qK.mpr fun i j hi hj hij z=>?_)
   rw [yp] at hi hj
   rw [List.getElem_range,List.getElem_range,red,red] at z
   have:=qkF (yx hij) hj z
   omega
  have:=qcZ hnd (fun x hx=>by
   obtain ⟨b,_,rfl⟩:=qE.mp hx
   exact qgn hM b) (by simp) q (by omega)
  obtain ⟨b,hb,e⟩:=qE.mp this
  have:=List.mem_range.mp hb
  exact ⟨b,by omega,by rw [hm];exact e⟩
 ·rw [hm,red]
  exact Nat.mod_eq_zero_of_dvd (qgC k)
theorem qhV:Full 127:=Yj 7 127 (by decide)
theorem qhU:Full 511:=Yj 9 511 (by decide)
theorem qfa:Full 2047:=Yj 11 2047 (by decide)
theorem qe9:Full 8191:=Yj 13 8191 (by decide)
def qgF (xs:Array Nat):Prop:=∀ i j,i<j->j<xs.size->xs.getD i 0<xs.getD j 0
theorem getD_some {xs:Array Nat}{i d:Nat}(h:i<xs.size):xs[i]?=some (xs.getD i d):=by
 simp [Array.getD,h]
theorem Zl {xs:Array Nat}{j:Nat}(hr:qgF xs):∀ (fu lo hi:Nat),lo<=hi->hi<=xs.size->hi - lo<=fu->(∀ i,i<lo->xs.getD i 0<j)->(∀ i,hi<=i->i<xs.size->j<=xs.getD i 0) →
  (∀ i,i<below.go xs j fu lo hi->xs.getD i 0<j)/\(∀ i,below.go xs j fu lo hi<=i->i<xs.size->j<=xs.getD i 0)/\below.go xs j fu lo hi<=xs.size
 | 0,lo,hi,h1,h2,h3,h4,h5=>by
  have:lo=hi:=by omega
  subst this
  exact ⟨h4,h5,h2⟩
 | fu+1,lo,hi,h1,h2,h3,h4,h5=>by
  unfold below.go
  by_cases c:lo<hi
  ·rw [if_pos c]
   dsimp only
   have hm:(lo+hi) / 2<xs.size:=by omega
   have e:xs.getD ((lo+hi) / 2) j=xs.getD ((lo+hi) / 2) 0:=by simp [Array.getD,hm]
   rw [e]
   by_cases d:xs.getD ((lo+hi) / 2) 0<j
   ·rw [if_pos d]
    refine Zl hr fu _ hi (by omega) h2 (by omega) (fun i hi'=>?_) h5
    by_cases q:i=(lo+hi) / 2
    ·subst q;exact d
    ·exact Nat.lt_trans (hr i ((lo+hi) / 2) (by omega) hm) d
   ·rw [if_neg d]
    refine Zl hr fu lo _ (by omega) (by omega) (by omega) h4 fun i hi' hlt=>?_
    by_cases q:i=(lo+hi) / 2
    ·subst q;omega
    ·have:=hr ((lo+hi) / 2) i (by omega) hlt
     omega
  ·rw [if_neg c]
   have:lo=hi:=by omega
   subst this
   exact ⟨h4,h5,h2⟩
theorem jY {xs:Array Nat}(hr:qgF xs) (j:Nat):(∀ i,i<below xs j->xs.getD i 0<j)/\(∀ i,below xs j<=i->i<xs.size->j<=xs.getD i 0)/\below xs j<=xs.size :=
 Zl hr xs.size 0 xs.size (ya _) (qi _) (by omega) (fun i z=>absurd z (by omega)) fun i a b=>absurd b (by omega)
theorem Zm {xs:Array Nat}(hr:qgF xs) {i j:Nat}(h:xs[i]?=some j):below xs j=i:=by
 obtain ⟨h1,h2,h3⟩:=jY hr j
 have hi:i<xs.size:=by
  rcases Nat.lt_or_ge i xs.size with z | z
  ·exact z
  ·rw [yc z] at h;cases h
 have e:xs.getD i 0=j:=by
  have:=getD_some (d:=0) hi
  rw [h] at this
  exact (Option.some.inj this).symm
 rcases Nat.lt_trichotomy (below xs j) i with z | z | z
 ·have a:=h2 (below xs j) (qi _) (by omega)
  have b:=hr (below xs j) i z hi
  omega
 ·exact z
 ·have:=h1 i z
  omega
theorem qeD {xs:Array Nat}(hr:qgF xs) {i i' j:Nat}(h:xs[i]?=some j) (h':xs[i']?=some j):i=i':=(Zm hr h).symm.trans (Zm hr h')
structure Tab (t:SetTable) (m n:Nat):Prop where
 mask:t.mask=m
 dm:t.dummies=#[]
 size:t.place.size=n
 rise:qgF t.place
 le:∀ i j:Nat,t.place[i]?=some j->j<=m
def Fl (t:SetTable) (j:Nat):Prop:=∃ i:Nat,t.place[i]?=some j
theorem qdl (j:Nat):has #[] j=false:=by simp [has]
section
variable {t:SetTable}{m n:Nat}
theorem Tab.live (T:Tab t m n) {i j:Nat}(h:t.place[i]?=some j):t.slot j = .live i:=by
 unfold slot
 have e:=Zm T.rise h
 simp only [e,h,beq_self_eq_true,if_true]
theorem Tab.empty (T:Tab t m n) {j:Nat}(h:¬ Fl t j):t.slot j = .empty:=by
 unfold slot
 have e:(t.place[below t.place j]? == some j)=false:=by
  rw [Bool.eq_false_iff]
  intro z
  exact h ⟨_,by simpa using z⟩
 simp only [e,T.dm,qdl,Bool.false_eq_true,if_false]
theorem Tab.free (T:Tab t m n) (hn:n<=m):∃ q,q<=m/\¬ Fl t q:=by
 refine Classical.byContradiction fun hc=>?_
 have all:∀ q,q<=m->Fl t q:=fun q hq=>Classical.byContradiction fun z=>hc ⟨q,hq,z⟩
 have sub:List.range (m+1) ⊆ t.place.toList:=fun q hq=>by
  obtain ⟨i,e⟩:=all q (by have:=List.mem_range.mp hq;omega)
  exact List.mem_of_getElem? (by rw [qj];exact e)
 have:=List.Nodup.length_le_of_subset List.nodup_range sub
 rw [yp,Array.length_toList,T.size] at this
 omega
theorem Tab.probe_go (T:Tab t m n) {hashAt:Nat->Int}{h:Int}{K:Nat}(hK:¬ Fl t (stp m h K).j):∀ (fu k:Nat),k<=K->K - k<fu →
  ∃ x,k<=x/\x<=K/\(∀ l,k<=l->l<x->∃ i:Nat,t.place[i]?=some (stp m h l).j/\hashAt i≠h) ∧
   ((¬ Fl t (stp m h x).j/\probe.go t hashAt h fu (stp m h k)=some (.empty (stp m h x).j none)) ∨
    ∃ i:Nat,t.place[i]?=some (stp m h x).j/\hashAt i=h/\probe.go t hashAt h fu (stp m h k)=some (.candidate (stp m h x).j i (stp m h (x+1))))
 | 0,k,_,z=>absurd z (by omega)
 | fu+1,k,hk,hf=>by
  unfold probe.go
  by_cases c:Fl t (stp m h k).j
  ·obtain ⟨i,e⟩:=id c
   rw [T.live e]
   dsimp only
   have adv1:t.advance (stp m h k)=stp m h (k+1):=by rw [qbQ,T.mask];rfl
   by_cases d:hashAt i=h
   ·refine ⟨k,qi _,hk,fun l a b=>absurd b (by omega),.inr ⟨i,e,d,?_⟩⟩
    rw [if_pos (by rw [d];exact beq_self_eq_true _),adv1]
   ·rw [if_neg (by simpa using d),adv1]
    have hne:k≠K:=fun z=>hK (z ▸ c)
    obtain ⟨x,x1,x2,x3,x4⟩:=T.probe_go hK fu (k+1) (by omega) (by omega)
    refine ⟨x,by omega,x2,fun l a b=>?_,x4⟩
    by_cases q:l=k
    ·subst q;exact ⟨i,e,d⟩
    ·exact x3 l (by omega) b
  ·rw [T.empty c]
   dsimp only
   exact ⟨k,qi _,hk,fun l a b=>absurd b (by omega),.inl ⟨c,by rw [Zv]⟩⟩
end
theorem yR {α:Type}{xs:Array α}{p:Nat}{x:α}(hp:p<=xs.size) (i:Nat):(insertAt xs p x)[i]?=if i<p then xs[i]? else if i=p then some x else xs[i - 1]?:=by
 unfold insertAt
 have s1:((xs.extract 0 p).push x).size=p+1:=by simp [Array.size_push,Array.size_extract];omega
 have s0:(xs.extract 0 p).size=p:=by simp [Array.size_extract];omega
 rw [Array.getElem?_append,s1]
 by_cases c:i<p
 ·rw [if_pos (by omega),if_pos c,Array.getElem?_push,s0,if_neg (by omega),Array.getElem?_extract,if_pos (by omega),Nat.zero_add]
 ·rw [if_neg c]
  by_cases d:i=p
  ·subst d
   rw [if_pos (by omega),if_pos rfl,Array.getElem?_push,s0,if_pos rfl]
  ·rw [if_neg d,if_neg (by omega),Array.getElem?_extract]
   by_cases e:i - 1<xs.size
   ·rw [if_pos (by omega)]
    congr 1
    omega
   ·rw [if_neg (by omega),yc (by omega)]
theorem Yi {α:Type}{xs:Array α}{p:Nat}{x:α}(hp:p<=xs.size):(insertAt xs p x).size=xs.size+1:=by
 unfold insertAt
 simp [Array.size_extract]
 omega
def AtS {α:Type}(place:Array Nat) (es:Array α) (j:Nat) (e:α):Prop:=∃ i:Nat,place[i]?=some j/\es[i]?=some e
theorem qj5 {α:Type}{place:Array Nat}{es:Array α}{p j j':Nat}{e e':α}(hp:p<=place.size) (hq:p<=es.size):AtS (insertAt place p j) (insertAt es p e) j' e' ↔ AtS place es j' e'\/(j'=j/\e'=e):=by
 constructor
 ·rintro ⟨i,h1,h2⟩
  rw [yR hp] at h1
  rw [yR hq] at h2
  by_cases c:i<p
  ·rw [if_pos c] at h1 h2
   exact .inl ⟨i,h1,h2⟩
  ·rw [if_neg c] at h1 h2
   by_cases d:i=p
   ·rw [if_pos d] at h1 h2
    exact .inr ⟨(Option.some.inj h1).symm,(Option.some.inj h2).symm⟩
   ·rw [if_neg d] at h1 h2
    exact .inl ⟨i - 1,h1,h2⟩
 ·rintro (⟨i,h1,h2⟩ | ⟨rfl,rfl⟩)
  ·by_cases c:i<p
   ·exact ⟨i,by rw [yR hp,if_pos c];exact h1,by rw [yR hq,if_pos c];exact h2⟩
   ·exact ⟨i+1,by rw [yR hp,if_neg (by omega),if_neg (by omega)];exact h1,by rw [yR hq,if_neg (by omega),if_neg (by omega)];exact h2⟩
  ·exact ⟨p,by rw [yR hp,if_neg (by omega),if_pos rfl],by rw [yR hq,if_neg (by omega),if_pos rfl]⟩
theorem qeC {xs:Array Nat}(hr:qgF xs) {j:Nat}(hj:¬ ∃ i:Nat,xs[i]?=some j):qgF (insertAt xs (below xs j) j):=by
 obtain ⟨h1,h2,h3⟩:=jY hr j
 have val:∀ i,i<xs.size+1->(insertAt xs (below xs j) j).getD i 0=if i<below xs j then xs.getD i 0 else if i=below xs j then j else xs.getD (i - 1) 0:=fun i hi=>by
  have e:=yR (x:=j) h3 i
  simp only [Array.getD_eq_getD_getElem?,e]
  split
  ·rfl
  ·split <;> rfl
 have gt:∀ i,below xs j<=i->i<xs.size->j<xs.getD i 0:=fun i a b=>by
  have:=h2 i a b
  have ne:xs.getD i 0≠j:=fun z=>hj ⟨i,by rw [getD_some (d:=0) b,z]⟩
  omega
 intro a b hab hb
 rw [Yi h3] at hb
 rw [val a (by omega),val b hb]
 by_cases b1:b<below xs j
 ·rw [if_pos b1,if_pos (by omega)]
  exact hr a b hab (by omega)
 ·rw [if_neg b1]
  by_cases b2:b=below xs j
  ·rw [if_pos b2,if_pos (by omega)]
   exact h1 a (by omega)
  ·rw [if_neg b2]
   by_cases a1:a<below xs j
   ·rw [if_pos a1]
    exact hr a (b - 1) (by omega) (by omega)
   ·rw [if_neg a1]
    by_cases a2:a=below xs j
    ·rw [if_pos a2]
     exact gt (b - 1) (by omega) (by omega)
    ·rw [if_neg a2]
     exact hr (a - 1) (b - 1) (by omega) (by omega)
theorem Tab.put {t:SetTable}{m n:Nat}(T:Tab t m n) {j:Nat}(hj:¬ Fl t j) (hm:j<=m):Tab (t.put j).1 m (n+1)/\(t.put j).2=below t.place j/\(t.put j).1.place=insertAt t.place (below t.place j) j:=by
 obtain ⟨h1,h2,h3⟩:=jY T.rise j
 refine ⟨⟨T.mask,?_,?_,qeC T.rise hj,fun i j' e=>?_⟩,rfl,rfl⟩
 ·show (if has t.dummies j=true then _ else t.dummies)=#[]
  rw [T.dm,qdl,if_neg (by simp)]
 ·show (insertAt t.place (below t.place j) j).size=n+1
  rw [Yi h3,T.size]
 ·have e:(insertAt t.place (below t.place j) j)[i]?=some j':=e
  rw [yR h3] at e
  split at e
  ·exact T.le _ _ e
  ·split at e
   ·rw [<- Option.some.inj e];exact hm
   ·exact T.le _ _ e
end L2
namespace L2
open PySem PySem.SetTable
def Rch (fl:Nat->Prop) (m:Nat) (h:Int) (j:Nat):Prop:=∃ k,(stp m h k).j=j/\∀ l,l<k->fl (stp m h l).j
theorem Rch.mono {fl fl':Nat->Prop}{m:Nat}{h:Int}{j:Nat}(f:∀ q,fl q->fl' q) (r:Rch fl m h j):Rch fl' m h j:=by
 obtain ⟨k,e,a⟩:=r
 exact ⟨k,e,fun l hl=>f _ (a l hl)⟩
structure SetI {α:Type}(t:SetTable) (es:Array (Int×α)) (m n:Nat):Prop where
 tab:Tab t m n
 sz:es.size=n
 rch:∀ (j:Nat) (e:Int×α),AtS t.place es j e->Rch (Fl t) m e.1 j
def fO (owner:Array (Option Nat)) (j:Nat):Prop:=(owner.getD j (some 0)).isSome=true
theorem qdq {m:Nat}{owner:Array (Option Nat)}{h:Int}:∀ (fu L k0:Nat),stp m h k0=at0 m (lp m h L).1 (lp m h L).2->(∀ l,l<k0->fO owner (stp m h l).j)->(∃ L',L<=L'/\L'<L+fu/\¬ fO owner (lp m h L').1) →
  ∃ j,layClean.free m owner fu (lp m h L).1 (lp m h L).2=some j/\¬ fO owner j/\Rch (fO owner) m h j
 | 0,L,k0,_,_,⟨L',a,b,_⟩=>absurd b (by omega)
 | fu+1,L,k0,hk,hf,⟨L',a,b,c⟩=>by
  unfold layClean.free
  have ri:=qcv hk
  cases hfind:(List.range (runEnd m (lp m h L).1+1 - (lp m h L).1)).find? fun k=>(owner.getD ((lp m h L).1+k) (some 0)).isNone with
  | some kk =>
   obtain ⟨p1,p2,p3⟩:=List.find?_range_eq_some.mp hfind
   have hkk:=List.mem_range.mp p2
   refine ⟨(lp m h L).1+kk,rfl,fun z=>?_,k0+kk,by rw [ri kk (by omega)],fun l hl=>?_⟩
   ·unfold fO at z
    rw [Option.isNone_iff_eq_none.mp p1] at z
    cases z
   ·by_cases d:l<k0
    ·exact hf l d
    ·obtain ⟨r,rfl⟩:∃ r,l=k0+r:=⟨l - k0,by omega⟩
     rw [ri r (by omega)]
     have:=p3 r (by omega)
     unfold fO
     rw [Bool.not_eq_true',Option.isNone_eq_false_iff] at this
     exact this
  | none =>
   have pn:=List.find?_eq_none.mp hfind
   have fil:∀ r,r<=runEnd m (lp m h L).1 - (lp m h L).1->fO owner ((lp m h L).1+r):=fun r hr=>by
    have hge:(lp m h L).1<=runEnd m (lp m h L).1:=by unfold runEnd;split <;> omega
    have:=pn r (List.mem_range.mpr (by omega))
    unfold fO
    rw [Bool.not_eq_true,Option.isNone_eq_false_iff] at this
    exact this
   have hne:L'≠L:=by
    rintro rfl
    exact c (by simpa using fil 0 (ya _))
   refine qdq fu (L+1) (k0+(runEnd m (lp m h L).1 - (lp m h L).1)+1) (qf4 hk) (fun l hl=>?_) ⟨L',by omega,by omega,c⟩
   by_cases d:l<k0
   ·exact hf l d
   ·obtain ⟨r,rfl⟩:∃ r,l=k0+r:=⟨l - k0,by omega⟩
    rw [ri r (by omega)]
    exact fil r (by omega)
structure OW (m:Nat) (hs:Nat->Int) (owner:Array (Option Nat)) (k:Nat):Prop where
 sz:owner.size=m+1
 own:∀ j i:Nat,owner[j]?=some (some i)->i<k/\Rch (fO owner) m (hs i) j
 ex:∀ i,i<k->∃ j:Nat,owner[j]?=some (some i)
 inj:∀ j j' i:Nat,owner[j]?=some (some i)->owner[j']?=some (some i)->j=j'
def qiu (m:Nat) (owner:Array (Option Nat)):List Nat:=(List.range (m+1)).filterMap fun j=>owner.getD j none
theorem JU {owner:Array (Option Nat)}{j i:Nat}:owner.getD j none=some i ↔ owner[j]?=some (some i):=by
 rw [Array.getD_eq_getD_getElem?]
 cases owner[j]? with
 | none=>simp
 | some o=>simp
theorem OW.nodup {m k:Nat}{hs:Nat->Int}{owner:Array (Option Nat)}(W:OW m hs owner k):(qiu m owner).Nodup:=by
 refine List.Pairwise.filterMap _ (fun a a' hne b e b' e' z=>?_) List.nodup_range
 subst z
 exact hne (W.inj _ _ _ (JU.mp e) (JU.mp e'))
theorem OW.len {m k:Nat}{hs:Nat->Int}{owner:Array (Option Nat)}(W:OW m hs owner k):(qiu m owner).length=k:=by
 apply Nat.le_antisymm
 ·have sub:qiu m owner ⊆ List.range k:=fun i hi=>by
   obtain ⟨j,_,e⟩:=List.mem_filterMap.mp hi
   exact List.mem_range.mpr (W.own j i (JU.mp e)).1
  have:=List.Nodup.length_le_of_subset W.nodup sub
  rwa [yp] at this
 ·have sub:List.range k ⊆ qiu m owner:=fun i hi=>by
   obtain ⟨j,e⟩:=W.ex i (List.mem_range.mp hi)
   have hj:j<owner.size:=by
    rcases Nat.lt_or_ge j owner.size with z | z
    ·exact z
    ·rw [yc z] at e;cases e
   exact List.mem_filterMap.mpr ⟨j,List.mem_range.mpr (by rw [W.sz] at hj;exact hj),JU.mpr e⟩
  have:=List.Nodup.length_le_of_subset List.nodup_range sub
  rwa [yp] at this
theorem OW.free {m k:Nat}{hs:Nat->Int}{owner:Array (Option Nat)}(W:OW m hs owner k) (hk:k<=m):∃ q,q<=m/\¬ fO owner q:=by
 refine Classical.byContradiction fun hc=>?_
 have all:∀ q,q<=m->fO owner q:=fun q hq=>Classical.byContradiction fun z=>hc ⟨q,hq,z⟩
 have h1:=W.len
 unfold qiu at h1
 rw [List.length_filterMap_eq_countP] at h1
 have h2:List.countP (fun j=>(owner.getD j none).isSome) (List.range (m+1))=(List.range (m+1)).length:=List.countP_eq_length.mpr fun j hj=>by
  have hj:=List.mem_range.mp hj
  have a:=all j (by omega)
  have hlt:j<owner.size:=by rw [W.sz];exact hj
  unfold fO at a
  simpa [Array.getD,hlt] using a
 rw [h2,yp] at h1
 omega
theorem OW.step {m k:Nat}{hs:Nat->Int}{owner:Array (Option Nat)}(W:OW m hs owner k) {j:Nat}(hj:¬ fO owner j) (hr:Rch (fO owner) m (hs k) j):OW m hs (owner.setIfInBounds j (some k)) (k+1):=by
 have hlt:j<owner.size:=by
  rcases Nat.lt_or_ge j owner.size with z | z
  ·exact z
  ·refine absurd ?_ hj
   unfold fO
   simp [Array.getD,Nat.not_lt.mpr z]
 have nn:owner[j]?=some none:=by
  cases e:owner[j]? with
  | none=>rw [Array.getElem?_eq_none_iff] at e;omega
  | some o =>
   cases o with
   | none=>rfl
   | some i =>
    refine absurd ?_ hj
    unfold fO
    rw [Array.getD_eq_getD_getElem?,e]
    rfl
 have get:∀ q:Nat,(owner.setIfInBounds j (some k))[q]?=if q=j then some (some k) else owner[q]?:=fun q=>by
  rw [Array.getElem?_setIfInBounds]
  by_cases c:q=j
  ·subst c;simp [hlt]
  ·rw [if_neg c,if_neg (fun z=>c z.symm)]
 have up:∀ q,fO owner q->fO (owner.setIfInBounds j (some k)) q:=fun q hq=>by
  unfold fO at hq ⊢
  rw [Array.getD_eq_getD_getElem?] at hq ⊢
  rw [get]
  split
  ·rfl
  ·exact hq
 refine ⟨by rw [Array.size_setIfInBounds];exact W.sz,fun q i e=>?_,fun i hi=>?_,fun q q' i e e'=>?_⟩
 ·rw [get] at e
  by_cases c:q=j
  ·rw [if_pos c] at e
   have:k=i:=Option.some.inj (Option.some.inj e)
   subst this
   subst c
   exact ⟨by omega,hr.mono up⟩
  ·rw [if_neg c] at e
   obtain ⟨a,b⟩:=W.own q i e
   exact ⟨by omega,b.mono up⟩
 ·by_cases c:i=k
  ·subst c
   exact ⟨j,by rw [get,if_pos rfl]⟩
  ·obtain ⟨q,e⟩:=W.ex i (by omega)
   refine ⟨q,?_⟩
   rw [get,if_neg (fun z=>by rw [z,nn] at e;cases e)]
   exact e
 ·rw [get] at e e'
  by_cases c:q=j
  ·rw [if_pos c] at e
   have hik:k=i:=Option.some.inj (Option.some.inj e)
   by_cases c':q'=j
   ·rw [c,c']
   ·rw [if_neg c'] at e'
    have:=(W.own q' i e').1
    omega
  ·rw [if_neg c] at e
   by_cases c':q'=j
   ·rw [if_pos c'] at e'
    have hik:k=i:=Option.some.inj (Option.some.inj e')
    have:=(W.own q i e).1
    omega
   ·rw [if_neg c'] at e'
    exact W.inj q q' i e e'
theorem OW.init (m:Nat) (hs:Nat->Int):OW m hs (Array.replicate (m+1) none) 0:=by
 have z:∀ j i:Nat,(Array.replicate (m+1) (none:Option Nat))[j]?=some (some i)->False:=fun j i e=>by
  rw [Array.getElem?_replicate] at e
  split at e <;> simp at e
 exact ⟨by simp,fun j i e=>(z j i e).elim,fun i hi=>absurd hi (by omega),fun j j' i e=>(z j i e).elim⟩
def qay (m:Nat) (acc:Option (Array (Option Nat)×Nat)) (h:Int):Option (Array (Option Nat)×Nat):=do
 let (owner,k) <- acc
 let j <- layClean.free m owner (turns m) (bits h % (m+1)) (bits h)
 pure (owner.setIfInBounds j (some k),k+1)
theorem qaz (m:Nat) (hashes:Array Int):layClean m hashes=(hashes.foldl (qay m) (some (Array.replicate (m+1) none,0))).map (·.1):=rfl
theorem qdr {m:Nat}(F:Full m) {hs:Nat->Int}:∀ (l:List Int) (owner:Array (Option Nat)) (k:Nat),OW m hs owner k->(∀ i (h:Int),l[i]?=some h->hs (k+i)=h)->k+l.length<=m+1 →
  ∃ owner',l.foldl (qay m) (some (owner,k))=some (owner',k+l.length)/\OW m hs owner' (k+l.length)
 | [],owner,k,W,_,_=>⟨owner,rfl,W⟩
 | h::l,owner,k,W,hl,hk=>by
  simp only [List.length_cons] at hk ⊢
  obtain ⟨q,hq,hq2⟩:=W.free (by omega)
  obtain ⟨L',a,b⟩:=F.lp h hq
  obtain ⟨j,e,j1,j2⟩:=qdq (m:=m) (owner:=owner) (h:=h) (turns m) 0 0 rfl (fun l z=>absurd z (by omega)) ⟨L',by omega,by unfold turns;omega,by rw [b];exact hq2⟩
  have hk0:hs k=h:=hl 0 h rfl
  have W':=W.step j1 (by rw [hk0];exact j2)
  obtain ⟨o',e',W''⟩:=qdr F l _ (k+1) W' (fun i h' e=>by rw [show k+1+i=k+(i+1) by omega];exact hl (i+1) h' (by simpa using e)) (by omega)
  refine ⟨o',?_,by rw [show k+(l.length+1)=k+1+l.length by omega];exact W''⟩
  rw [List.foldl_cons]
  have e0:qay m (some (owner,k)) h=some (owner.setIfInBounds j (some k),k+1):=by
   show (layClean.free m owner (turns m) (bits h % (m+1)) (bits h) >>= fun j=>pure (owner.setIfInBounds j (some k),k+1))=_
   have e:layClean.free m owner (turns m) (bits h % (m+1)) (bits h)=some j:=e
   rw [e]
   rfl
  rw [e0,e',show k+(l.length+1)=k+1+l.length by omega]
theorem qgu {α β:Type}{f:α->Option β}:∀ {l:List α},(∀ x∈l,(f x).isSome=true)->∀ i:Nat,(l.filterMap f)[i]?=l[i]?.bind f
 | [],_,i=>by simp
 | x::l,h,i=>by
  obtain ⟨y,e⟩:=Option.isSome_iff_exists.mp (h x qv)
  rw [List.filterMap_cons_some e]
  cases i with
  | zero=>simp [e]
  | succ i=>simpa using qgu (fun z hz=>h z (qk _ hz)) i
theorem qkc {α β:Type}{f:α->Option β}{l:List α}(h:∀ x∈l,(f x).isSome=true):(l.filterMap f).length=l.length:=by
 rw [List.length_filterMap_eq_countP,List.countP_eq_length.mpr h]
theorem qhI {α:Type}{m n fi mv:Nat}(F:Full m) {ld pl:Bool}{es:Array (Int×α)}(hn:es.size=n) (hm:n<=m+1) :
  ∃ (t:SetTable) (order:Array Nat),laid m fi mv ld pl (es.map (·.1))=some (t,order)/\t.led=ld/\t.plain=pl/\(order.filterMap (es[·]?)).size=es.size/\SetI t (order.filterMap (es[·]?)) m n ∧
   (∀ e,e∈(order.filterMap (es[·]?)).toList ↔ e∈es.toList) ∧
   ∀ (i i':Nat) (e e':Int×α),(order.filterMap (es[·]?))[i]?=some e->(order.filterMap (es[·]?))[i']?=some e'->(∀ y y':Nat,es[y]?=some e->es[y']?=some e'->y=y')->i=i':=by
 obtain ⟨owner,eo,W⟩:=qdr F (hs:=fun i=>((es.map (·.1)).getD i 0)) (es.map (·.1)).toList (Array.replicate (m+1) none) 0 (OW.init m _) (fun i h e=>by
  rw [Nat.zero_add,Array.getD_eq_getD_getElem?,<- qj,e];rfl) (by simp;omega)
 have hlen:(es.map (·.1)).toList.length=n:=by simp [hn]
 rw [Nat.zero_add,hlen] at eo W
 have live:∃ live:List (Nat×Nat),live=(List.range (m+1)).filterMap fun j=>(owner.getD j none).map (j,·):=⟨_,rfl⟩
 obtain ⟨live,el⟩:=live
 have lmem:∀ j i,(j,i)∈live ↔ owner[j]?=some (some i):=fun j i=>by
  rw [el,List.mem_filterMap]
  constructor
  ·rintro ⟨q,_,e⟩
   cases o:owner.getD q none with
   | none=>rw [o] at e;cases e
   | some x =>
    rw [o] at e
    cases e
    exact JU.mp o
  ·intro e
   have hj:j<owner.size:=by
    rcases Nat.lt_or_ge j owner.size with z | z
    ·exact z
    ·rw [yc z] at e;cases e
   exact ⟨j,List.mem_range.mpr (by rw [W.sz] at hj;exact hj),by rw [JU.mpr e];rfl⟩
 have llen:live.length=n:=by
  have:=W.len
  unfold qiu at this
  rw [List.length_filterMap_eq_countP] at this
  rw [el,List.length_filterMap_eq_countP,<- this]
  congr 1
  funext j
  cases owner.getD j none <;> rfl
 have lsort:live.Pairwise fun a b=>a.1<b.1:=by
  rw [el]
  refine List.Pairwise.filterMap _ (fun a a' hlt b e b' e'=>?_) List.pairwise_lt_range
  cases o:owner.getD a none with
  | none=>rw [o] at e;cases e
  | some x =>
   cases o':owner.getD a' none with
   | none=>rw [o'] at e';cases e'
   | some x' =>
    rw [o] at e;rw [o'] at e'
    cases e;cases e'
    exact hlt
 have some1:∀ x∈live.map (·.2),(es[x]?).isSome=true:=fun x hx=>by
  obtain ⟨⟨j,i⟩,hji,rfl⟩:=qE.mp hx
  have:=(W.own j i ((lmem j i).mp hji)).1
  simp [hn,this]
 have es':((live.map (·.2)).toArray.filterMap (es[·]?))=((live.map (·.2)).filterMap (es[·]?)).toArray:=by simp
 have get':∀ i:Nat,((live.map (·.2)).toArray.filterMap (es[·]?))[i]?=live[i]?.bind fun x=>es[x.2]?:=fun i=>by
  rw [es',List.getElem?_toArray,qgu some1,List.getElem?_map]
  cases live[i]? <;> rfl
 have size':((live.map (·.2)).toArray.filterMap (es[·]?)).size=n:=by
  rw [es',List.size_toArray,qkc some1,List.length_map,llen]
 have pget:∀ i:Nat,(live.map (·.1)).toArray[i]?=live[i]?.map (·.1):=fun i=>by rw [List.getElem?_toArray,List.getElem?_map]
 refine ⟨{ mask:=m,place:=(live.map (·.1)).toArray,dummies:=#[],finger:=fi,led:=ld,moves:=mv,plain:=pl },(live.map (·.2)).toArray,?_,rfl,rfl,by rw [size',hn],⟨⟨rfl,rfl,by simp [llen],?_,?_⟩,size',?_⟩,fun e=>?_,fun i i' e e' h1 h2 hyy=>?_⟩
 ·unfold laid
  rw [qaz,<- Array.foldl_toList,eo,el]
  rfl
 ·intro a b hab hb
  have hb':b<live.length:=by simpa using hb
  have ha':a<live.length:=by omega
  have:=qK.mp lsort a b ha' hb' hab
  simpa [Array.getD,ha',hb'] using this
 ·intro i j e
  rw [show ({ mask:=m,place:=(live.map (·.1)).toArray,dummies:=#[],finger:=fi,led:=ld,moves:=mv,plain:=pl }:SetTable).place[i]?=live[i]?.map (·.1) from pget i] at e
  cases o:live[i]? with
  | none=>rw [o] at e;cases e
  | some x =>
   rw [o] at e
   obtain ⟨q,y⟩:=x
   have hq:=(lmem q y).mp (List.mem_of_getElem? o)
   have:q=j:=Option.some.inj e
   subst this
   have hj:q<owner.size:=by
    rcases Nat.lt_or_ge q owner.size with z | z
    ·exact z
    ·rw [yc z] at hq;cases hq
   rw [W.sz] at hj
   omega
 ·rintro j e ⟨i,h1,h2⟩
  rw [show ({ mask:=m,place:=(live.map (·.1)).toArray,dummies:=#[],finger:=fi,led:=ld,moves:=mv,plain:=pl }:SetTable).place[i]?=live[i]?.map (·.1) from pget i] at h1
  rw [get'] at h2
  cases o:live[i]? with
  | none=>rw [o] at h1;cases h1
  | some x =>
   rw [o] at h1 h2
   obtain ⟨q,y⟩:=x
   have e1:q=j:=Option.some.inj h1
   subst e1
   have h2:es[y]?=some e:=h2
   have hr:=(W.own q y ((lmem q y).mp (List.mem_of_getElem? o))).2
   have eh:((es.map (·.1)).getD y 0)=e.1:=by
    rw [Array.getD_eq_getD_getElem?,Array.getElem?_map,h2];rfl
   rw [<- eh]
   obtain ⟨k,ek,ak⟩:=hr
   refine ⟨k,ek,fun l hl=>?_⟩
   have hp:=ak l hl
   have hle:=qfF m ((es.map (·.1)).getD y 0) l
   generalize (stp m ((es.map (·.1)).getD y 0) l).j=p at hp hle
   unfold fO at hp
   rw [Array.getD_eq_getD_getElem?] at hp
   cases oo:owner[p]? with
   | none =>
    rw [Array.getElem?_eq_none_iff,W.sz] at oo
    omega
   | some v =>
    rw [oo] at hp
    cases v with
    | none=>cases hp
    | some z =>
     obtain ⟨a,ea⟩:=qU ((lmem p z).mpr oo)
     exact ⟨a,by rw [show ({ mask:=m,place:=(live.map (·.1)).toArray,dummies:=#[],finger:=fi,led:=ld,moves:=mv,plain:=pl }:SetTable).place[a]?=live[a]?.map (·.1) from pget a,ea];rfl⟩
 ·constructor
  ·intro he
   obtain ⟨i,ei⟩:=qU he
   rw [qj,get'] at ei
   cases o:live[i]? with
   | none=>rw [o] at ei;cases ei
   | some x =>
    rw [o] at ei
    exact List.mem_of_getElem? (by rw [qj];exact ei)
  ·intro he
   obtain ⟨y,ey⟩:=qU he
   rw [qj] at ey
   have hy:y<n:=by
    rcases Nat.lt_or_ge y es.size with z | z
    ·omega
    ·rw [yc z] at ey;cases ey
   obtain ⟨j,ej⟩:=W.ex y hy
   obtain ⟨i,ei⟩:=qU ((lmem j y).mpr ej)
   refine List.mem_of_getElem? (i:=i) ?_
   rw [qj,get',ei]
   exact ey
 ·rw [get'] at h1 h2
  cases o:live[i]? with
  | none=>rw [o] at h1;cases h1
  | some x =>
   cases o':live[i']? with
   | none=>rw [o'] at h2;cases h2
   | some x' =>
    rw [o] at h1;rw [o'] at h2
    have hxx:x.2=x'.2:=hyy _ _ h1 h2
    have j1:=(lmem x.1 x.2).mp (List.mem_of_getElem? o)
    have j2:=(lmem x'.1 x'.2).mp (List.mem_of_getElem? o')
    rw [<- hxx] at j2
    have jj:=W.inj _ _ _ j1 j2
    have hi:i<live.length:=(qm.mp o).1
    have hi':i'<live.length:=(qm.mp o').1
    have e1:live[i]=x:=(qm.mp o).2
    have e2:live[i']=x':=(qm.mp o').2
    rcases Nat.lt_trichotomy i i' with z | z | z
    ·have:=qK.mp lsort i i' hi hi' z
     rw [e1,e2] at this
     omega
    ·exact z
    ·have:=qK.mp lsort i' i hi' hi z
     rw [e1,e2] at this
     omega
end L2
namespace L2
open PySem PySem.Spec PyProof.Rows PySem.W
section
variable {prog:Program}{w:World}{A:Around}{E:Value->Shared->Prop}{s:Shared}
theorem qe2 {vs:List Value}{ns:List Int}(h:IntsAre vs ns):ItemsAre (intKind prog w) ns vs:=by
 induction h with
 | nil=>exact .nil
 | cons n t _ ih=>exact .cons (intKind_is _ _ _ _) ih
theorem jn.key {h:Heap}{b:Addr}{ks:List Int}(t:jn h (.ref b) ks):IsTupleKey (intKind prog w) h ks b:=by
 obtain ⟨b',o,xs,n,e,ho,hc,hd,hi,_⟩:=t
 cases e
 exact ⟨o,xs,n,ho,hc,hd,qe2 hi⟩
abbrev yn (prog:Program) (w:World) (ks:List Int):Int:=tupleKeyHash (intKind prog w) ks
theorem qhR {b:Addr}{ks:List Int}{Q:Bool->Shared->Prop}(t:jn s.heap (.ref b) ks) (q:Q true s):wpAny (model prog w) A (hashByValue 8 (.ref b)) Q E s:=by
 have hT:=(t.key (prog:=prog) (w:=w)).typeIs
 obtain ⟨b',o,xs,n,e,ho,hc,hd,hi,_⟩:=t
 cases e
 unfold hashByValue
 refine qb (wpAny_specialOf hT F.slot_tuple_hash.lookup ?_)
 show wpAny _ _ (seqItems? (.ref b) >>= _) _ _ s
 refine qb (wpAny_seqItems ho hd ?_)
 refine qb ?_
 show wpAny _ _ (forIn xs _ _) _ _ s
 rw [<- Array.forIn_toList]
 refine wpAny_forIn_list _ (fun yY r s'=>r.1=none/\s'=s/\∃ ns,IntsAre yY ns) _ ?_ ?_ _ _ ⟨rfl,rfl,_,hi⟩
 ·rintro v yY r s' ⟨hr,rfl,ns,hi'⟩
  cases hi' with
  | cons i t hi'' =>
   refine qb (qe ?_)
   simp only [Bool.not_true,Bool.false_eq_true,if_false]
   exact qe ⟨rfl,rfl,_,hi''⟩
 ·rintro ⟨r1,r2⟩ s' ⟨hr,rfl,_⟩
  simp only at hr
  subst hr
  exact qe q
theorem qdV {b:Addr}{ks:List Int}{Q:Bool->Shared->Prop}(t:jn s.heap (.ref b) ks) (q:Q false s):wpAny (model prog w) A (ofAClassStatement 8 (.ref b)) Q E s:=by
 have hT:=(t.key (prog:=prog) (w:=w)).typeIs
 obtain ⟨b',o,xs,n,e,ho,hc,hd,hi,_⟩:=t
 cases e
 unfold ofAClassStatement
 refine qb (wpAny_typeOf hT ?_)
 dsimp only
 rw [if_pos (show ("tuple" == "tuple")=true by decide)]
 refine qb (qe ?_)
 simp only [Bool.not_true,Bool.false_eq_true,if_false]
 refine qb (wpAny_seqItems ho hd ?_)
 dsimp only
 refine qb ?_
 show wpAny _ _ (forIn xs _ _) _ _ s
 rw [<- Array.forIn_toList]
 refine wpAny_forIn_list _ (fun yY r s'=>r.1=none/\s'=s/\∃ ns,IntsAre yY ns) _ ?_ ?_ _ _ ⟨rfl,rfl,_,hi⟩
 ·rintro v yY r s' ⟨hr,rfl,ns,hi'⟩
  cases hi' with
  | cons i t hi'' =>
   refine qb (qe ?_)
   simp only [Bool.false_eq_true,if_false]
   exact qe ⟨rfl,rfl,_,hi''⟩
 ·rintro ⟨r1,r2⟩ s' ⟨hr,rfl,_⟩
  simp only at hr
  subst hr
  exact qe q
theorem qg1 {b:Addr}{ks:List Int}(t:jn s.heap (.ref b) ks) {ys:List Value}{Q:Bool->Shared->Prop}(hy:∀ y∈ys,∃ c ks',y = .ref c/\jn s.heap (.ref c) ks') (q:Q false s):wpAny (model prog w) A (searchCouldBeSeen (.ref b) ys) Q E s:=by
 unfold searchCouldBeSeen
 refine qb ?_
 refine wpAny_forIn_list _ (fun yY r s'=>r.1=none/\s'=s/\∀ y∈yY,∃ c ks',y = .ref c/\jn s.heap (.ref c) ks') _ ?_ ?_ _ _ ⟨rfl,rfl,hy⟩
 ·rintro v yY r s' ⟨hr,rfl,hy'⟩
  obtain ⟨c,ks',rfl,tc⟩:=hy' v qv
  have rest':∀ y∈yY,∃ c ks',y = .ref c/\jn s'.heap (.ref c) ks':=fun y h=>hy' y (qk _ h)
  dsimp only
  by_cases e:(b == c)=true
  ·rw [e]
   simp only [Bool.true_or,if_true]
   exact qe ⟨rfl,rfl,rest'⟩
  ·have e:(b == c)=false:=by simpa using e
   rw [e]
   simp only [carriedByValue,Bool.false_and,Bool.or_false,Bool.false_eq_true,if_false]
   refine qb (wpAny_eqIsQuiet_tuple (t.key (prog:=prog) (w:=w)) ?_)
   simp only [Bool.not_true,Bool.false_eq_true,if_false]
   refine qb (wpAny_eqIsQuiet_tuple (tc.key (prog:=prog) (w:=w)) ?_)
   simp only [Bool.not_true,Bool.false_eq_true,if_false]
   refine qb (qdV t ?_)
   simp only [Bool.false_eq_true,if_false]
   refine qb (qdV tc ?_)
   simp only [Bool.false_eq_true,if_false]
   exact qe ⟨rfl,rfl,rest'⟩
 ·rintro ⟨r1,r2⟩ s' ⟨hr,rfl,_⟩
  simp only at hr
  subst hr
  exact qe q
end
end L2
namespace L2
open PySem PySem.Spec PyProof.Rows PySem.W PySem.SetTable
def jQ (m n:Nat):Prop:=(m=7/\n<5)\/(m=31/\n<19)\/(m=127/\n<77)\/(m=511/\n<307)\/(m=2047/\n<1229)\/(m=8191/\n<4915)
theorem jQ.full {m n:Nat}(h:jQ m n):Full m:=by
 rcases h with ⟨rfl,_⟩ | ⟨rfl,_⟩ | ⟨rfl,_⟩ | ⟨rfl,_⟩ | ⟨rfl,_⟩ | ⟨rfl,_⟩
 ·exact full7
 ·exact qka
 ·exact qhV
 ·exact qhU
 ·exact qfa
 ·exact qe9
theorem jQ.le {m n:Nat}(h:jQ m n):n<m/\n<4915:=by unfold jQ at h;omega
theorem jQ.odd {m n:Nat}(h:jQ m n):(m % 2 == 0)=false:=by
 rcases h with ⟨rfl,_⟩ | ⟨rfl,_⟩ | ⟨rfl,_⟩ | ⟨rfl,_⟩ | ⟨rfl,_⟩ | ⟨rfl,_⟩ <;> decide
def Zp (prog:Program) (w:World) (h:Heap) (e:Int×Value) (ks:List Int):Prop:=jn h e.2 ks/\e.1=yn prog w ks
abbrev jH (w:World):Bool:=w.params.followText "set-order"
structure SetD (prog:Program) (w:World) (Pv:Value->Prop) (h:Heap) (a:Addr) (o:Obj) (es:Array (Int×Value)) (ep:Nat) (t:SetTable) (m:Nat) (kss:List (List Int)):Prop where
 ho:h.get? a=some o
 ex:o.ExactSet
 hd:o.data = .set es ep t
 pl:t.plain=true
 ld:t.led=!jH w
 mok:jQ m es.size
 si:SetI t es m es.size
 en:PySem.Paired (Zp prog w h) es.toList kss
 nd:kss.Nodup
 own:∀ e∈es.toList,Pv e.2
section
variable {prog:Program}{w:World}{Pv:Value->Prop}{A:Around}{E:Value->Shared->Prop}{s:Shared}{a:Addr}{o:Obj}{es:Array (Int×Value)}{ep:Nat}{t:SetTable}{m:Nat}{kss:List (List Int)}
theorem SetD.fits (D:SetD prog w Pv s.heap a o es ep t m kss):t.fits es.size=true:=by
 have:=D.mok.le
 unfold SetTable.fits SetTable.fill
 rw [D.si.tab.dm,D.si.tab.size,D.si.tab.mask]
 simp
 omega
theorem SetD.len (D:SetD prog w Pv s.heap a o es ep t m kss):kss.length=es.size:=by
 have:=PySem.Paired.length D.en
 rw [Array.length_toList] at this
 exact this.symm
theorem SetD.ent (D:SetD prog w Pv s.heap a o es ep t m kss) {i:Nat}{e:Int×Value}(h:es[i]?=some e):∃ ks,kss[i]?=some ks/\Zp prog w s.heap e ks:=L2.Paired.get D.en (by rw [qj];exact h)
theorem SetD.ent' (D:SetD prog w Pv s.heap a o es ep t m kss) {i:Nat}{ks:List Int}(h:kss[i]?=some ks):∃ e,es[i]?=some e/\Zp prog w s.heap e ks:=by
 obtain ⟨e,h1,h2⟩:=L2.Paired.get' D.en h
 exact ⟨e,by rw [qj] at h1;exact h1,h2⟩
theorem SetD.place (D:SetD prog w Pv s.heap a o es ep t m kss) {i j:Nat}(h:t.place[i]?=some j):∃ e,es[i]?=some e:=by
 have hi:i<t.place.size:=by
  rcases Nat.lt_or_ge i t.place.size with z | z
  ·exact z
  ·rw [yc z] at h;cases h
 rw [D.si.tab.size] at hi
 exact ⟨es[i],by simp [hi]⟩
theorem ZB (D:SetD prog w Pv s.heap a o es ep t m kss) {b:Addr}{ks:List Int}(tb:jn s.heap (.ref b) ks) (hu:A.units<cLine) {adding:Bool}{Q:SetFound->Shared->Prop}
  (hin:∀ i:Nat,kss[i]?=some ks->Q (.there (if adding=true then none else some i)) s)
  (hout:ks∉kss->∀ j,¬ Fl t j->j<=m->Rch (Fl t) m (yn prog w ks) j->Q (.free j false) s) {K:Nat}(hK:¬ Fl t (stp m (yn prog w ks) K).j) (hK2:K<=10 * (m+12)) :
  ∀ (fu k:Nat) (stand:Option Probe),stand.getD (t.probeStart (yn prog w ks))=stp m (yn prog w ks) k->k<=K->K - k<fu →
   (∀ l,l<k->∃ i:Nat,t.place[i]?=some (stp m (yn prog w ks) l).j/\kss[i]?≠some ks)->wpAny (model prog w) A (setSearchFrom a (.ref b) (yn prog w ks) adding fu stand) Q E s
 | 0,k,stand,_,_,z,_=>absurd z (by omega)
 | fu+1,k,stand,hst,hk,hf,hl=>by
  have T:=D.si.tab
  unfold setSearchFrom
  refine qb (yU D.ho D.hd D.fits ?_)
  dsimp only
  have gw:t.gaveWay=false:=by unfold SetTable.gaveWay;rw [T.mask];exact D.mok.odd
  rw [gw]
  simp only [Bool.false_eq_true,if_false]
  rw [hst]
  obtain ⟨x,x1,x2,x3,x4⟩:=T.probe_go (hashAt:=fun i=>(es[i]?.map (·.1)).getD 0) hK (10 * turns t.mask) k hk (by rw [T.mask];unfold turns;omega)
  -- up to x none is it
  have before:∀ l,l<x->∃ i:Nat,t.place[i]?=some (stp m (yn prog w ks) l).j/\kss[i]?≠some ks:=fun l hlx=>by
   by_cases c:l<k
   ·exact hl l c
   ·obtain ⟨i,e1,e2⟩:=x3 l (by omega) hlx
    refine ⟨i,e1,fun z=>e2 ?_⟩
    obtain ⟨e,h1,_,h3⟩:=D.ent' z
    simp only [h1,Option.map_some,Option.getD_some,h3]
  rcases x4 with ⟨n1,n2⟩ | ⟨i,e1,e2,e3⟩
  ·have pe:t.probe (fun i=>(es[i]?.map (·.1)).getD 0) (yn prog w ks) (stp m (yn prog w ks) k)=some (.empty (stp m (yn prog w ks) x).j none):=n2
   have no:ks∉kss:=fun hm=>by
    obtain ⟨i,ei⟩:=qU hm
    obtain ⟨e,h1,_,h3⟩:=D.ent' ei
    have hi:i<t.place.size:=by
     rw [T.size]
     rcases Nat.lt_or_ge i es.size with z | z
     ·exact z
     ·rw [yc z] at h1;cases h1
    obtain ⟨k',ek,ak⟩:=D.si.rch (t.place[i]) e ⟨i,by simp [hi],h1⟩
    rw [h3] at ek ak
    rcases Nat.lt_trichotomy k' x with z | z | z
    ·obtain ⟨i',p1,p2⟩:=before k' z
     rw [ek] at p1
     have:i'=i:=qeD T.rise p1 (by simp [hi])
     subst this
     exact p2 ei
    ·subst z
     exact n1 ⟨i,by rw [ek];simp [hi]⟩
    ·exact n1 (ak x z)
   have fin:=hout no _ n1 (qfF _ _ _) ⟨x,rfl,fun l hlx=>let ⟨i,p,_⟩:=before l hlx;⟨i,p⟩⟩
   generalize hp:t.probe _ (yn prog w ks) (stp m (yn prog w ks) k)=r
   have er:=hp.symm.trans pe
   subst er
   exact qe fin
  ·have pe:t.probe (fun i=>(es[i]?.map (·.1)).getD 0) (yn prog w ks) (stp m (yn prog w ks) k)=some (.candidate (stp m (yn prog w ks) x).j i (stp m (yn prog w ks) (x+1))):=e3
   generalize hp:t.probe _ (yn prog w ks) (stp m (yn prog w ks) k)=r
   have er:=hp.symm.trans pe
   subst er
   dsimp only
   obtain ⟨⟨h',y⟩,ee⟩:=D.place e1
   obtain ⟨ks',ek,ty,hh⟩:=D.ent ee
   obtain ⟨c,oc,xs,nn,ey,hoc⟩:=id ty
   have ey:y = .ref c:=ey
   subst ey
   have ty:jn s.heap (.ref c) ks':=ty
   have hstored:∀ y∈List.map (fun x=>x.snd) (Array.filter (fun x=>x.fst == yn prog w ks) es).toList,∃ c ks',y = .ref c/\jn s.heap (.ref c) ks':=fun y hy=>by
    obtain ⟨e,he,rfl⟩:=qE.mp hy
    have he':e∈es.toList:=by
     rw [Array.toList_filter] at he
     exact (jy.mp he).1
    obtain ⟨q,eq⟩:=qU he'
    rw [qj] at eq
    obtain ⟨ks2,_,t2,_⟩:=D.ent eq
    obtain ⟨c2,_,_,_,e2,_⟩:=id t2
    exact ⟨c2,ks2,e2,by rw [<- e2];exact t2⟩
   have sm:t.sameMemory t.moves t.mask=some true:=by unfold SetTable.sameMemory;rw [if_pos (beq_self_eq_true _)]
   -- once it stands that nobody sees it
   have core:wpAny (model prog w) A (do
     let equal <- holding [Value.ref c] (eqBool (Value.ref c) (Value.ref b))
     let __x <- setState a
     if (adding && equal)=true then pure (SetFound.there none)
      else
       match __x.2.snd.sameMemory t.moves t.mask with
       | some sme =>
        match if sme=true then __x.2.snd.slot (stp m (yn prog w ks) x).j else Slot.empty with
        | Slot.live i' =>
         match __x.fst[i']? with
         | some (fst,y')=>do
          let __do_lift <- isSame y' (Value.ref c)
          let still <- pure (if __do_lift=true then some i' else none)
          match still with
           | none=>do
            rule "set.search.anew"
            setSearchFrom a (Value.ref b) (yn prog w ks) adding fu none
           | some i' =>
            if equal=true then pure (SetFound.there (some i'))
            else setSearchFrom a (Value.ref b) (yn prog w ks) adding fu (some (stp m (yn prog w ks) (x+1)))
         | none=>do
          let still <- pure none
          match still with
           | none=>do
            rule "set.search.anew"
            setSearchFrom a (Value.ref b) (yn prog w ks) adding fu none
           | some i' =>
            if equal=true then pure (SetFound.there (some i'))
            else setSearchFrom a (Value.ref b) (yn prog w ks) adding fu (some (stp m (yn prog w ks) (x+1)))
        | x_1=>do
         let still <- pure none
         match still with
          | none=>do
           rule "set.search.anew"
           setSearchFrom a (Value.ref b) (yn prog w ks) adding fu none
          | some i' =>
           if equal=true then pure (SetFound.there (some i'))
           else setSearchFrom a (Value.ref b) (yn prog w ks) adding fu (some (stp m (yn prog w ks) (x+1)))
       | x_1=>unsupported "set.changed-during-lookup:is-the-new-block-at-the-old-address") Q E s:=by
    refine qb (yk (wpAny_eqBool_tuple hu (ty.key (prog:=prog) (w:=w)) (tb.key (prog:=prog) (w:=w)) ?_))
    refine qb (yU D.ho D.hd D.fits ?_)
    dsimp only
    have go:∀ eq:Bool,(eq=true->kss[i]?=some ks)->(eq=false->kss[i]?≠some ks)->wpAny (model prog w) A (do
      let __do_lift <- isSame (Value.ref c) (Value.ref c)
      let still <- pure (if __do_lift=true then some i else none)
      match still with
       | none=>do
        rule "set.search.anew"
        setSearchFrom a (Value.ref b) (yn prog w ks) adding fu none
       | some i' =>
        if eq=true then pure (SetFound.there (some i'))
        else setSearchFrom a (Value.ref b) (yn prog w ks) adding fu (some (stp m (yn prog w ks) (x+1)))) (fun r s'=>adding=true/\eq=true\/Q r s') E s:=fun eq q1 q2=>by
     refine qb ?_
     unfold isSame
     dsimp only
     rw [if_pos (beq_self_eq_true _)]
     refine qe (qb (qe ?_))
     simp only [if_true]
     cases eq with
     | true =>
      simp only [if_true]
      refine qe ?_
      cases adding with
      | true=>exact .inl (by simp)
      | false=>exact .inr (by simpa using hin i (q1 rfl))
     | false =>
      simp only [Bool.false_eq_true,if_false]
      refine yJ (ZB D tb hu hin hout hK hK2 fu (x+1) _ rfl ?_ ?_ fun l hlx=>?_) (fun r s' q=>.inr q) fun _ _ z=>z
      ·have:x≠K:=fun z=>hK (z ▸ ⟨i,e1⟩)
       omega
      ·have:x≠K:=fun z=>hK (z ▸ ⟨i,e1⟩)
       omega
      ·by_cases z:l=x
       ·subst z;exact ⟨i,e1,q2 rfl⟩
       ·exact before l (by omega)
    by_cases kk:ks'=ks
    ·rw [qu kk]
     cases ha:adding with
     | true =>
      simp only [Bool.and_self,if_true]
      refine qe ?_
      have:=hin i (by rw [ek,kk])
      rw [ha] at this
      simpa using this
     | false =>
      simp only [Bool.and_true,Bool.false_eq_true,if_false,sm,if_true,T.live e1,ee]
      refine yJ (by have:=go true (fun _=>by rw [ek,kk]) (fun z=>by cases z);rw [ha] at this;simpa using this) (fun r s' q=>?_) fun _ _ z=>z
      exact q
    ·rw [yt kk]
     simp only [Bool.and_false,Bool.false_eq_true,if_false,sm,if_true,T.live e1,ee]
     refine yJ (by have:=go false (fun z=>by cases z) (fun _ z=>kk (by rw [ek] at z;exact Option.some.inj z));simpa using this) (fun r s' q=>?_) fun _ _ z=>z
     exact q
   cases hled:t.led with
   | true =>
    simp only [Bool.not_true,Bool.false_eq_true,if_false,ee]
    exact core
   | false =>
    simp only [Bool.not_false,if_true]
    refine qb (qg1 tb hstored ?_)
    simp only [Bool.false_eq_true,if_false,ee]
    exact core
end
end L2
namespace L2
open PySem PySem.Spec PyProof.Rows PySem.W PySem.SetTable
def qaI (prog:Program) (w:World) (Pv:Value->Prop) (h:Heap) (a:Addr) (kss:List (List Int)):Prop:=∃ o es ep t m,SetD prog w Pv h a o es ep t m kss
theorem Zp.kept {prog:Program}{w:World}{h h':Heap}{e:Int×Value}{ks:List Int}(k:∀ b o,h.get? b=some o->o.cls = .type "tuple" -> h'.get? b=some o) (t:Zp prog w h e ks):Zp prog w h' e ks:=⟨t.1.kept k,t.2⟩
theorem qaI.kept {prog:Program}{w:World}{Pv:Value->Prop}{h h':Heap}{a:Addr}{kss:List (List Int)}(k:jR h h') (S:qaI prog w Pv h a kss):qaI prog w Pv h' a kss:=by
 obtain ⟨o,es,ep,t,m,D⟩:=S
 exact ⟨o,es,ep,t,m,k _ _ D.ho,D.ex,D.hd,D.pl,D.ld,D.mok,D.si,Paired.mapP D.en fun e ks t=>t.kept fun b o e _=>k b o e,D.nd,D.own⟩
theorem qdB {prog:Program}{w:World}{h h':Heap}{a:Addr}{o:Obj}(ho:h.get? a=some o) (hc:o.cls = .type "set") (sb:Heap.SameBut a h h') {e:Int×Value}{ks:List Int}(t:Zp prog w h e ks):Zp prog w h' e ks :=
 t.kept fun b o' e hcl=>by
  have ne:b≠a:=by
   rintro rfl
   rw [ho] at e
   cases e
   rw [hc] at hcl
   exact absurd hcl (by decide)
  rw [sb.2 b ne];exact e
section
variable {prog:Program}{w:World}{A:Around}{E:Value->Shared->Prop}{s:Shared}{a:Addr}{o:Obj}{es:Array (Int×Value)}{ep:Nat}{t:SetTable}{m:Nat}{kss:List (List Int)}
theorem qeF (a:Addr) (wanted:Nat):setRelay a wanted=(do
  let (es,_,t) <- setState a
  if SetTable.sizeAbove wanted > sizeLine then unsupported "set:memory"
  let (es,t) <- (do
   let some (t,order):=t.relaid (es.map (·.1)) wanted | unsupported "internal:set-table-without-room"
   let es':=order.filterMap (es[·]?)
   if es'.size != es.size then unsupported "internal:set-table-lost-an-element"
   pure (es',t))
  storeSet a es t):=rfl
theorem SetI.put {j:Nat}{x:Int×Value}(I:SetI t es m es.size) (hj:¬ Fl t j) (hm:j<=m) (hr:Rch (Fl t) m x.1 j):SetI (t.put j).1 (insertAt es (t.put j).2 x) m (es.size+1):=by
 obtain ⟨T',e2,e3⟩:=I.tab.put hj hm
 have hb:=(jY I.tab.rise j).2.2
 have hb2:below t.place j<=es.size:=by rw [<- I.tab.size];exact hb
 have up:∀ q,Fl t q->Fl (t.put j).1 q:=fun q ⟨i,e⟩=>by
  unfold Fl
  rw [e3]
  by_cases c:i<below t.place j
  ·exact ⟨i,by rw [yR hb,if_pos c];exact e⟩
  ·exact ⟨i+1,by rw [yR hb,if_neg (by omega),if_neg (by omega)];exact e⟩
 refine ⟨T',by rw [e2,Yi hb2],fun j' e' hA=>?_⟩
 rw [e3,e2] at hA
 rcases (qj5 hb hb2).mp hA with h | ⟨rfl,rfl⟩
 ·exact (I.rch j' e' h).mono up
 ·exact hr.mono up
theorem YJ {α β:Type}{R:α->β->Prop}:∀ {xs:List α}{ys:List β}(p:Nat) {x:α}{y:β},PySem.Paired R xs ys->R x y->PySem.Paired R (xs.take p++x::xs.drop p) (ys.take p++y::ys.drop p)
 | _,_,0,x,y,h,r=>.cons r h
 | _,_,p+1,x,y,.nil,r=>by simpa using PySem.Paired.cons r .nil
 | _,_,p+1,x,y,.cons h t,r=>.cons h (YJ p t r)
theorem qbh {α:Type}{xs:Array α}{p:Nat}{x:α}(hp:p<=xs.size):(insertAt xs p x).toList=xs.toList.take p++x::xs.toList.drop p:=by
 unfold insertAt
 simp [List.take_of_length_le]
theorem qc3 {α:Type}{xs:List α}{p:Nat}{x y:α}:y∈xs.take p++x::xs.drop p ↔ y=x\/y∈xs:=by
 have:y∈xs ↔ y∈xs.take p\/y∈xs.drop p:=by rw [<- List.mem_append,qA]
 simp only [List.mem_append,List.mem_cons,this]
 constructor
 ·rintro (h | h | h)
  ·exact .inr (.inl h)
  ·exact .inl h
  ·exact .inr (.inr h)
 ·rintro (h | h | h)
  ·exact .inr (.inl h)
  ·exact .inl h
  ·exact .inr (.inr h)
theorem qcY {α:Type}{xs:List α}{p:Nat}{x:α}(h:xs.Nodup) (hx:x∉xs):(xs.take p++x::xs.drop p).Nodup:=by
 have e:(xs.take p++x::xs.drop p).Perm (x::xs):=by
  have:=List.perm_middle (a:=x) (l₁:=xs.take p) (l₂:=xs.drop p)
  rwa [qA] at this
 exact e.nodup_iff.mpr (List.nodup_cons.mpr ⟨hx,h⟩)
end
end L2
namespace L2
open PySem PySem.Spec PyProof.Rows PySem.W PySem.SetTable
theorem JA {α β:Type}{R:α->β->Prop}:∀ {l:List α},(∀ e∈l,∃ k,R e k)->∃ ks,PySem.Paired R l ks
 | [],_=>⟨[],.nil⟩
 | e::l,h=>by
  obtain ⟨k,hk⟩:=h e qv
  obtain ⟨ks,hks⟩:=JA (fun x hx=>h x (qk _ hx))
  exact ⟨k::ks,.cons hk hks⟩
section
variable {prog:Program}{w:World}{Pv:Value->Prop}{A:Around}{E:Value->Shared->Prop}{s:Shared}{a:Addr}{o:Obj}{es:Array (Int×Value)}{ep:Nat}{t:SetTable}{m:Nat}{kss:List (List Int)}
theorem Zp.inj {h:Heap}{e:Int×Value}{k k':List Int}(h1:Zp prog w h e k) (h2:Zp prog w h e k'):k=k':=by
 obtain ⟨b,_,_,_,e1,_⟩:=id h1.1
 have t1:jn h (.ref b) k:=e1 ▸ h1.1
 have t2:jn h (.ref b) k':=e1 ▸ h2.1
 exact (t1.key (prog:=prog) (w:=w)).inj (t2.key (prog:=prog) (w:=w))
theorem ZT (ho:s.heap.get? a=some o) (hd:o.data = .set es ep t) (es':Array (Int×Value)) (t':SetTable):(s.heap.update a (Obj.putSet es' t')).get? a=some { o with data:=.set es' (ep+1) t' }:=by
 have:=jh (Obj.putSet es' t') ho (by rw [putSet_of es' t' hd];rfl)
 rw [putSet_of es' t' hd] at this
 exact this
theorem qeE {m' n:Nat}{wanted:Nat}{Q:Unit->Shared->Prop}(ho:s.heap.get? a=some o) (ex:o.ExactSet) (hd:o.data = .set es ep t) (pl:t.plain=true) (le:t.led=!jH w) (hf:t.fits es.size=true) (en:PySem.Paired (Zp prog w s.heap) es.toList kss) (nd:kss.Nodup) (ow:∀ e∈es.toList,Pv e.2)
  (hw:sizeAbove wanted=m'+1) (mo:jQ m' es.size) (h:∀ h' kss',Heap.SameBut a s.heap h'->qaI prog w Pv h' a kss'->(∀ k,k∈kss' ↔ k∈kss)->Q () { s with heap:=h' }):wpAny (model prog w) A (setRelay a wanted) Q E s:=by
 rw [qeF]
 refine qb (yU ho hd hf ?_)
 dsimp only
 have hle:=mo.le
 have m127:m'<=8191:=by unfold jQ at mo;omega
 rw [if_neg (by rw [hw,sizeLine_eq];omega)]
 obtain ⟨t',order,e1,e2,e3,e4,e5,e6,e7⟩:=qhI (m:=m') (n:=es.size) (fi:=t.finger) (mv:=t.movedTo (sizeAbove wanted - 1)) (ld:=t.led) (pl:=t.plain) mo.full (es:=es) rfl (by omega)
 have er:t.relaid (es.map (·.1)) wanted=some (t',order):=by
  unfold SetTable.relaid
  rw [show sizeAbove wanted - 1=m' by omega] at e1 ⊢
  exact e1
 rw [er]
 dsimp only
 have e4':((order.filterMap (es[·]?)).size != es.size)=false:=by rw [e4];simp
 rw [e4']
 simp only [Bool.false_eq_true,if_false,pure_bind]
 generalize order.filterMap (es[·]?)=es2 at *
 refine wpAny_storeSet_of ho hd ?_ (by rw [e4,sizeLine_eq];omega)
 have sb:Heap.SameBut a s.heap (s.heap.update a (Obj.putSet es2 t')):=Heap.SameBut.update s.heap a _
 have old:∀ e∈es2.toList,∃ k,Zp prog w s.heap e k/\k∈kss:=fun e he=>by
  obtain ⟨i,ei⟩:=qU ((e6 e).mp he)
  obtain ⟨k,k1,k2⟩:=L2.Paired.get en ei
  exact ⟨k,k2,List.mem_of_getElem? k1⟩
 obtain ⟨kss2,en2⟩:=JA (R:=Zp prog w s.heap) (l:=es2.toList) fun e he=>let ⟨k,k1,_⟩:=old e he;⟨k,k1⟩
 refine h _ kss2 sb ⟨_,es2,ep+1,t',m',ZT ho hd es2 t',⟨ex.1,ex.2.1,ex.2.2⟩,rfl,by rw [e3];exact pl,by rw [e2];exact le,by rw [e4];exact mo,by rw [e4];exact e5,Paired.mapP en2 fun e ks tt=>qdB ho ex.1 sb tt,?_,fun e he=>ow e ((e6 e).mp he)⟩ fun k=>⟨fun hk=>?_,fun hk=>?_⟩
 ·refine qK.mpr fun i i' hi hi' hlt z=>?_
  obtain ⟨x,x1,x2⟩:=L2.Paired.get' en2 (List.getElem?_eq_getElem hi)
  obtain ⟨x',x1',x2'⟩:=L2.Paired.get' en2 (List.getElem?_eq_getElem hi')
  rw [qj] at x1 x1'
  have:=e7 i i' x x' x1 x1' fun y y' ey ey'=>by
   obtain ⟨k,k1,k2⟩:=L2.Paired.get en (show es.toList[y]?=some x by rw [qj];exact ey)
   obtain ⟨k',k1',k2'⟩:=L2.Paired.get en (show es.toList[y']?=some x' by rw [qj];exact ey')
   have q1:=k2.inj x2
   have q2:=k2'.inj x2'
   rw [q1] at k1
   rw [q2,<- z] at k1'
   have hy:y<kss.length:=(qm.mp k1).1
   have hy':y'<kss.length:=(qm.mp k1').1
   have g1:=(qm.mp k1).2
   have g2:=(qm.mp k1').2
   exact (List.getElem_inj nd).mp (g1.trans g2.symm)
  omega
 ·obtain ⟨i,ei⟩:=qU hk
  obtain ⟨x,x1,x2⟩:=L2.Paired.get' en2 ei
  obtain ⟨k',k1,k2⟩:=old x (List.mem_of_getElem? x1)
  rw [x2.inj k1];exact k2
 ·obtain ⟨i,ei⟩:=qU hk
  obtain ⟨x,x1,x2⟩:=L2.Paired.get' en ei
  have hx:=(e6 x).mpr (List.mem_of_getElem? x1)
  obtain ⟨i2,ei2⟩:=qU hx
  obtain ⟨k2,q1,q2⟩:=L2.Paired.get en2 ei2
  rw [x2.inj q2]
  exact List.mem_of_getElem? q1
theorem qkB (S:qaI prog w Pv s.heap a kss) {b:Addr}{ks:List Int}(tb:jn s.heap (.ref b) ks) (pb:Pv (.ref b)) (hu:A.units<cLine) (hn:kss.length<4914) {Q:Bool->Shared->Prop}(hin:ks∈kss->Q false s)
  (hout:ks∉kss->∀ h' kss',Heap.SameBut a s.heap h'->qaI prog w Pv h' a kss'->(∀ k,k∈kss' ↔ k=ks\/k∈kss)->Q true { s with heap:=h' }):wpAny (model prog w) A (setAddHashed a (.ref b) (yn prog w ks)) Q E s:=by
 obtain ⟨o,es,ep,t,m,D⟩:=S
 have T:=D.si.tab
 have hl:=D.len
 have hle:=D.mok.le
 obtain ⟨q,q1,q2⟩:=T.free (yx hle.1)
 obtain ⟨K,K1,K2⟩:=D.mok.full.walk (yn prog w ks) q1
 unfold setAddHashed
 refine yk ?_
 show wpAny (model prog w) A (setAddHashedIn a (.ref b) (yn prog w ks) (99999+1)) Q E s
 unfold setAddHashedIn
 refine qb (yU D.ho D.hd D.fits ?_)
 dsimp only
 rw [if_neg (by simp [byScan,Value.scannable])]
 refine qb ?_
 have m127:m<=8191:=by have:=D.mok;unfold jQ at this;omega
 refine ZB D tb hu (adding:=true) (fun i ei=>?_) (fun no j n1 n2 n3=>?_) (K:=K) (by rw [K2];exact q2) K1 100000 0 none (by show t.probeStart _=_;rw [qes,T.mask]) (ya _) (by omega) fun l z=>absurd z (by omega)
 ·simp only [if_true]
  exact qe (hin (List.mem_of_getElem? ei))
 ·dsimp only
  refine qb (yU D.ho D.hd D.fits ?_)
  dsimp only
  have I1:=D.si.put (x:=(yn prog w ks,Value.ref b)) n1 n2 n3
  obtain ⟨T1,p2,p3⟩:=T.put n1 n2
  have hb:=(jY T.rise j).2.2
  have hb2:below t.place j<=es.size:=by rw [<- T.size];exact hb
  have pl1:(t.put j).1.plain=true:=D.pl
  have le1:(t.put j).1.led=!jH w:=D.ld
  rw [pl1]
  simp only [if_true]
  refine qb (qhR tb ?_)
  simp only [if_true]
  have sz1:(insertAt es (t.put j).2 (yn prog w ks,Value.ref b)).size=es.size+1:=by rw [p2,Yi hb2]
  have en1:PySem.Paired (Zp prog w s.heap) (insertAt es (t.put j).2 (yn prog w ks,Value.ref b)).toList (kss.take (below t.place j)++ks::kss.drop (below t.place j)):=by
   rw [p2,qbh hb2]
   exact YJ _ D.en ⟨tb,rfl⟩
  have ow1:∀ e∈(insertAt es (t.put j).2 (yn prog w ks,Value.ref b)).toList,Pv e.2:=fun e he=>by
   rw [p2,qbh hb2] at he
   rcases qc3.mp he with rfl | he
   ·exact pb
   ·exact D.own e he
  have nd1:=qcY (p:=below t.place j) D.nd no
  have fits1:(t.put j).1.fits (es.size+1)=true:=by
   unfold SetTable.fits SetTable.fill
   rw [T1.dm,T1.size,T1.mask]
   simp
   omega
  generalize (t.put j).1=t1 at *
  generalize insertAt es (t.put j).2 (yn prog w ks,Value.ref b)=es1 at *
  generalize hk1:kss.take (below t.place j)++ks::kss.drop (below t.place j)=kss1 at *
  have mem1:∀ k,k∈kss1 ↔ k=ks\/k∈kss:=fun k=>by rw [<- hk1];exact qc3
  refine qb (wpAny_storeSet_of D.ho D.hd ?_ (by rw [sz1,sizeLine_eq];omega))
  have sb:Heap.SameBut a s.heap (s.heap.update a (Obj.putSet es1 t1)):=Heap.SameBut.update s.heap a _
  have g1:=ZT D.ho D.hd es1 t1
  have en2:PySem.Paired (Zp prog w (s.heap.update a (Obj.putSet es1 t1))) es1.toList kss1:=Paired.mapP en1 fun e k tt=>qdB D.ho D.ex.1 sb tt
  generalize s.heap.update a (Obj.putSet es1 t1)=h1 at *
  have tf:t1.tooFull=decide ((es.size+1) * 5 ≥ m * 3):=by
   unfold SetTable.tooFull SetTable.fill
   rw [T1.dm,T1.size,T1.mask]
   rfl
  rw [tf]
  simp only [Bool.not_false,Bool.true_and,decide_eq_true_eq]
  by_cases c:(es.size+1) * 5 ≥ m * 3
  ·rw [if_pos c]
   have big:∃ m',sizeAbove (grown (es.size+1))=m'+1/\jQ m' (es.size+1):=by
    rcases D.mok with ⟨rfl,hlt⟩ | ⟨rfl,hlt⟩ | ⟨rfl,hlt⟩ | ⟨rfl,hlt⟩ | ⟨rfl,hlt⟩ | ⟨rfl,hlt⟩
    ·have:es.size=4:=by omega
     rw [this]
     exact ⟨31,by decide,.inr (.inl ⟨rfl,by omega⟩)⟩
    ·have:es.size=18:=by omega
     rw [this]
     exact ⟨127,by decide,.inr (.inr (.inl ⟨rfl,by omega⟩))⟩
    ·have:es.size=76:=by omega
     rw [this]
     exact ⟨511,by decide +kernel,.inr (.inr (.inr (.inl ⟨rfl,by omega⟩)))⟩
    ·have:es.size=306:=by omega
     rw [this]
     exact ⟨2047,by decide +kernel,.inr (.inr (.inr (.inr (.inl ⟨rfl,by omega⟩))))⟩
    ·have:es.size=1228:=by omega
     rw [this]
     exact ⟨8191,by decide +kernel,.inr (.inr (.inr (.inr (.inr ⟨rfl,by omega⟩))))⟩
    ·omega
   obtain ⟨m',w1,w2⟩:=big
   refine qb (qeE (s:={ s with heap:=h1 }) (n:=0) g1 ⟨D.ex.1,D.ex.2.1,D.ex.2.2⟩ rfl pl1 le1 (by rw [sz1];exact fits1) en2 nd1 ow1 w1 (by rw [sz1];exact w2) fun h' kss' sb' S' mem'=>?_)
   exact qe (hout no h' kss' ⟨sb'.1.trans sb.1,fun b' ne=>(sb'.2 b' ne).trans (sb.2 b' ne)⟩ S' fun k=>(mem' k).trans (mem1 k))
  ·rw [if_neg c]
   refine qe (hout no h1 kss1 sb ⟨_,es1,ep+1,t1,m,g1,⟨D.ex.1,D.ex.2.1,D.ex.2.2⟩,rfl,pl1,le1,?_,by rw [sz1];exact I1,en2,nd1,ow1⟩ mem1)
   rw [sz1]
   rcases D.mok with ⟨rfl,hlt⟩ | ⟨rfl,hlt⟩ | ⟨rfl,hlt⟩ | ⟨rfl,hlt⟩ | ⟨rfl,hlt⟩ | ⟨rfl,hlt⟩
   ·exact .inl ⟨rfl,by omega⟩
   ·exact .inr (.inl ⟨rfl,by omega⟩)
   ·exact .inr (.inr (.inl ⟨rfl,by omega⟩))
   ·exact .inr (.inr (.inr (.inl ⟨rfl,by omega⟩)))
   ·exact .inr (.inr (.inr (.inr (.inl ⟨rfl,by omega⟩))))
   ·exact .inr (.inr (.inr (.inr (.inr ⟨rfl,by omega⟩))))
end
end L2
namespace L2
open PySem PySem.Spec PyProof.Rows PySem.W PySem.SetTable
theorem JT {α β:Type}{R R':α->β->Prop}:∀ {xs:List α}{ys:List β},PySem.Paired R xs ys->(∀ x∈xs,∀ y,R x y->R' x y)->PySem.Paired R' xs ys
 | _,_,.nil,_=>.nil
 | _,_,.cons r t,h=>.cons (h _ qv _ r) (JT t fun x hx=>h x (qk _ hx))
def In0 (h0:Heap) (Pv:Value->Prop):Prop:=∀ v,Pv v->∃ b o,v = .ref b/\h0.get? b=some o
theorem jn.move {h0 h h':Heap}{b:Addr}{o:Obj}{ks:List Int}(e:h0.get? b=some o) (k0:jR h0 h) (k1:jR h0 h') (t:jn h (.ref b) ks):jn h' (.ref b) ks:=by
 obtain ⟨b',o',xs,n,eb,ho,r⟩:=t
 cases eb
 have:=k0 _ _ e
 rw [this] at ho
 cases ho
 exact ⟨b,o,xs,n,rfl,k1 _ _ e,r⟩
theorem qaI.move {prog:Program}{w:World}{Pv:Value->Prop}{h0 h h':Heap}{a:Addr}{kss:List (List Int)}(S:qaI prog w Pv h a kss) (hPv:In0 h0 Pv) (k0:jR h0 h) (k1:jR h0 h') (hs:∀ o,h.get? a=some o->h'.get? a=some o):qaI prog w Pv h' a kss:=by
 obtain ⟨o,es,ep,t,m,D⟩:=S
 refine ⟨o,es,ep,t,m,hs _ D.ho,D.ex,D.hd,D.pl,D.ld,D.mok,D.si,JT D.en fun e he ks ek=>?_,D.nd,D.own⟩
 obtain ⟨hh,v⟩:=e
 obtain ⟨b,o0,rfl,e0⟩:=hPv v (D.own _ he)
 exact ⟨jn.move e0 k0 k1 ek.1,ek.2⟩
section
variable {prog:Program}{w:World}{Pv:Value->Prop}{A:Around}{R:Result->Shared->Prop}{I:Addr}{fp wr:List Addr}{n:Nat}{P:Nat->Value->Prop}{St:Nat->Shared->Prop}
theorem qev {h0:Heap}{key:Nat->List Int}(W:WalksS prog w A.in1 I fp wr (fun a b=>b=a) n P St) {S:Addr}(hSf:S∉fp) (hS0:h0.get? S=none) (hwr:∀ b∈wr,h0.get? b=none) (hPv:In0 h0 Pv)
  (hval:∀ i v,P i v->jn h0 v (key i)/\Pv v) (hn:∀ ms:List (List Int),ms.Nodup->(∀ q∈ms,∃ j,j<n/\key j=q)->ms.length<4914) (hu:A.units+8<cLine) :
  ∀ (k i:Nat) (s:Shared) (kss:List (List Int)),n - i=k->i<=n->St i s->jR h0 s.heap->qaI prog w Pv s.heap S kss->(∀ q,q∈kss ↔ ∃ j,j<i/\key j=q)->kss.length<=i →
   (∀ s' kss',Moved (S::wr) (fun a b=>b=a) s s'->jR h0 s'.heap->qaI prog w Pv s'.heap S kss'->(∀ q,q∈kss' ↔ ∃ j,j<n/\key j=q)->kss'.length<=n->R (.ok (.ret .none)) s') →
   codeAny (model prog w) A (.builtin "set.update.loop" ⟨[.ref S,.ref I],[]⟩) R s:=by
 have hSw:S∉wr:=fun h=>hSf (W.sub _ h)
 have hsub:∀ b∈wr,b∈S::wr:=fun b hb=>qk _ hb
 have kp:∀ {s s':Shared},jR h0 s.heap->Moved wr (fun a b=>b=a) s s'->jR h0 s'.heap:=fun k0 hm b o e=>hm.heap b o (fun z=>by rw [hwr b z] at e;cases e) (k0 b o e)
 intro k
 induction k with
 | zero =>
  intro i s kss hk hi hst k0 hS hmem hlen hR
  have hin:i=n:=by omega
  subst hin
  refine codeAny_builtin F.entry_set_update_loop ?_
  rw [Around.under_plainId F.plain_set_update_loop _]
  refine qb (m:=pyNext (.ref I)) (W.done s _ _ hst fun s' hm=>?_)
  refine qe (hR s' kss (hm.mono hsub) (kp k0 hm) ?_ hmem hlen)
  exact hS.move hPv k0 (kp k0 hm) fun o e=>hm.heap S o hSw e
 | succ k ih =>
  intro i s kss hk hi hst k0 hS hmem hlen hR
  have hlt:i<n:=by omega
  refine codeAny_builtin F.entry_set_update_loop ?_
  rw [Around.under_plainId F.plain_set_update_loop _]
  refine qb (m:=pyNext (.ref I)) (W.item i s _ _ hlt hst fun v s' hP hst' hm=>?_)
  have k1:=kp k0 hm
  have hS':=hS.move hPv k0 k1 fun o e=>hm.heap S o hSw e
  obtain ⟨tv,pv⟩:=hval i v hP
  obtain ⟨b,o0,rfl,e0⟩:=hPv v pv
  have tb:jn s'.heap (.ref b) (key i):=jn.move e0 (fun _ _ z=>z) k1 tv
  refine qb (m:=holding [Value.ref b] (setAdd S (.ref b))) (yk ?_)
  unfold setAdd
  refine yk ?_
  have hu1:A.in1.units<cLine:=by show A.units+_<_;omega
  refine qb (wpAny_pyHash_tuple hu1 (tb.key (prog:=prog) (w:=w)) ?_)
  refine qkB (s:={ s' with toks:=s'.toks+((key i).length+1) }) hS' tb pv hu1 (hn kss (let ⟨_,_,_,_,_,D⟩:=hS;D.nd) fun q hq=>let ⟨j,hj,e⟩:=(hmem q).mp hq;⟨j,Nat.lt_trans hj hlt,e⟩) (fun hin=>?_) fun hout h' kss' sb S2 mem2=>?_
  ·refine qe ⟨plainId_quiet F.plain_set_update_loop _,ih (i+1) _ kss (by omega) hlt (W.frame _ s' s'.heap _ hst' (by omega) fun b hb o e=>e) k1 hS' (fun q=>?_) (by omega) fun s'' kss'' hm'' k2 S'' mem'' len''=>?_⟩
   ·rw [hmem q]
    constructor
    ·rintro ⟨j,hj,e⟩;exact ⟨j,by omega,e⟩
    ·rintro ⟨j,hj,e⟩
     by_cases c:j<i
     ·exact ⟨j,c,e⟩
     ·have:j=i:=by omega
      subst this
      rw [e] at hin
      exact (hmem q).mp hin
   ·exact hR s'' kss'' (Moved.trans W.gtrans ((hm.mono hsub).then_heap (h':=s'.heap) (tk:=s'.toks+((key i).length+1)) (by omega) fun b o hb e=>e) hm'') k2 S'' mem'' len''
  ·have k1':jR h0 h':=fun b o e=>by
    rw [sb.2 b (fun z=>by rw [z,hS0] at e;cases e)]
    exact k1 b o e
   have hl':kss'.length<=i+1:=by
    obtain ⟨_,_,_,_,_,D1⟩:=hS'
    obtain ⟨_,_,_,_,_,D2⟩:=S2
    have:kss'.length<=(key i::kss).length:=List.Nodup.length_le_of_subset D2.nd fun q hq=>by
     rcases (mem2 q).mp hq with rfl | z
     ·exact qv
     ·exact qk _ z
    simp only [List.length_cons] at this
    omega
   refine qe ⟨plainId_quiet F.plain_set_update_loop _,ih (i+1) _ kss' (by omega) hlt (W.frame _ s' h' (s'.toks+((key i).length+1)) hst' (by omega) fun b hb o e=>?_) k1' S2 (fun q=>?_) hl' fun s'' kss'' hm'' k2 S'' mem'' len''=>?_⟩
   ·rw [sb.2 b (fun h:b=S=>hSf (by rw [<- h];exact hb))];exact e
   ·rw [mem2 q,hmem q]
    constructor
    ·rintro (rfl | ⟨j,hj,e⟩)
     ·exact ⟨i,by omega,rfl⟩
     ·exact ⟨j,by omega,e⟩
    ·rintro ⟨j,hj,e⟩
     by_cases c:j<i
     ·exact .inr ⟨j,c,e⟩
     ·have:j=i:=by omega
      subst this
      exact .inl e.symm
   ·refine hR s'' kss'' (Moved.trans W.gtrans ((hm.mono hsub).then_heap (h':=h') (tk:=s'.toks+((key i).length+1)) (by omega) fun b o hb e=>?_) hm'') k2 S'' mem'' len''
    rw [sb.2 b (fun h:b=S=>hb (by rw [h];exact qv))];exact e
end
end L2
namespace L2
open PySem PySem.Spec PyProof.Rows PySem.W PySem.SetTable
abbrev YF (w:World):Obj:={ cls:=.type "set",dict:=none,data:=.set #[] 0 (.fresh 0 0 (!jH w)) }
theorem qcz:qgF #[]:=fun i j a b=>absurd b (by simp)
theorem qeW {prog:Program}{w:World}{Pv:Value->Prop}{h:Heap}{a:Addr}(e:h.get? a=some (YF w)):qaI prog w Pv h a [] :=
 ⟨_,#[],0,_,7,e,⟨rfl,rfl,rfl⟩,rfl,rfl,rfl,.inl ⟨rfl,by decide⟩,⟨⟨rfl,rfl,rfl,qcz,fun i j z=>by simp [SetTable.fresh] at z⟩,rfl,fun j e ⟨i,z,_⟩=>by simp [SetTable.fresh] at z⟩,.nil,List.nodup_nil,fun e z=>by simp at z⟩
section
variable {prog:Program}{w:World}{A:Around}{E:Value->Shared->Prop}{s:Shared}
theorem qeu (x:Value) {Q₁:Value->Shared->Prop}(q:Q₁ (.ref s.heap.objs.size) { s with heap:=s.heap.push (YF w) }) :
  codeAny (model prog w) A (.call (.builtin "set.__new__") ⟨[.type "set",x],[]⟩) (wants Q₁ E) s:=by
 refine codeAny_of_tree ?_
 refine qb (m:=checkBuiltinCall "set.__new__" ⟨[.type "set",x],[]⟩) (wpAny_of_eq (F.newCall_set_1 x) (qe ⟨plainId_quiet F.plain_set_new _,codeAny_builtin F.entry_set_new ?_⟩))
 rw [Around.under_plainId F.plain_set_new _]
 unfold Builtin.«set.__new__» Builtin.Frozenset.newClass
 have hsub:=sub_set_self
 obtain ⟨hp,g,d,tk,os⟩:=s
 dsimp only
 wp_walk
 refine wpAny_askSetting (qe ?_)
 dsimp only
 simp only [newObj]
 refine qb (wpAny_alloc (qe (qe q)))
theorem qbB {l:Addr}{vs:List Value}{kss:List (List Int)}{Q:Value->Shared->Prop}(hh:A.handled=none) (hl:s.heap.IsList l vs.toArray) (hT:PySem.Paired (jn s.heap) vs kss) (hn:∀ ms:List (List Int),ms.Nodup->(∀ q∈ms,q∈kss)->ms.length<4914) (hu:A.units+64<cLine)
  (h:∀ h' tk ms,qaI prog w (·∈vs) h' s.heap.objs.size ms->(∀ q,q∈ms ↔ q∈kss)->jR s.heap h'->Q (.ref s.heap.objs.size) { s with heap:=h',toks:=tk }):wpAny (model prog w) A (call (.type "set") [.ref l]) Q E s:=by
 obtain ⟨c,tl,hmro⟩:=F.called_set.mro
 have made:=F.called_set.made
 have sub:=F.called_set.sub
 refine wpAny_call (codeAny_of_tree ?_)
 show wpAny (model prog w) _ (callAny (.type "set") _) _ _ s
 refine qe ⟨Code.quiet_builtin _ (by decide +kernel),codeAny_builtin F.entry_type_call ?_⟩
 rw [Around.under_plain (weight_type_call_type "set" [Value.ref l] []) rfl]
 have t1:=F.called_set.notType
 have t2:=F.called_set.canCreate
 have t3:=F.typeCall_set_1 (Value.ref l)
 repeat (any_goals first | assumption | wp_step)
 refine codeAny_mono (qeu (prog:=prog) (.ref l) (E:=E) (Q₁:=fun v s₁=>v = .ref s.heap.objs.size/\s₁={ s with heap:=s.heap.push (YF w) }) ⟨rfl,rfl⟩) fun r s₁ hr=>?_
 cases r with
 | error e=>exact hr
 | ok fl =>
  cases fl with
  | next=>exact hr.elim
  | brk=>exact hr.elim
  | cont=>exact hr.elim
  | ret v =>
   obtain ⟨rfl,rfl⟩:=hr
   have hS:(s.heap.push (YF w)).get? s.heap.objs.size=some (YF w):=qz _ rfl
   have hTy:Shared.TypeIs { s with heap:=s.heap.push (YF w) } (.ref s.heap.objs.size) "set" := ⟨_,hS,rfl⟩
   have i1:=F.called_set.init.lookup
   have i2:=F.called_set.init.bind (.ref s.heap.objs.size)
   repeat (any_goals first | assumption | wp_step)
   refine codeAny_mono (codeAny_call_builtin (R:=wants (fun r s₂=>r = .none/\∃ h' tk ms,s₂={ s with heap:=h',toks:=tk }/\qaI prog w (·∈vs) h' s.heap.objs.size ms/\(∀ q,q∈ms ↔ q∈kss)/\jR s.heap h') E)
    F.called_set.init.plain F.entry_set_init (check_set_init_1 hTy ?_)) fun r₂ s₂ hr₂=>?_
   ·obtain ⟨ol,hol,hcl,nl,hdl⟩:=hl
    obtain ⟨ocls,odict,odata,oslots⟩:=ol
    simp only at hcl hdl
    subst hcl;subst hdl
    have hlt:l<s.heap.objs.size:=qg hol
    have hol1:(s.heap.push (YF w)).get? l=some { cls:=.type "list",dict:=odict,data:=.seq vs.toArray nl,slots:=oslots }:=qc _ hol
    have s1:=F.sub_list_set
    have s2:=F.sub_list_frozenset
    have s3:(Value.type "list" == Value.type "dict")=false:=by decide
    have hl1:(s.heap.push (YF w)).IsList l vs.toArray:=⟨_,hol1,rfl,nl,rfl⟩
    unfold Builtin.«set.__init__» noKeywords Builtin.Frozenset.updateFrom
    generalize hPI:pyIter=PI
    wp_walk
    subst hPI
    refine wpAny_pyIter_list hl1 (qb (wpAny_runValue ?_))
    have sz1:(s.heap.push (YF w)).objs.size=s.heap.objs.size+1:=Heap.size_push ..
    have kp2:jR s.heap ((s.heap.push (YF w)).push { cls:=.type "list_iterator",data:=.fields #[.ref l,.int 0 0] }):=fun b o e=>qc _ (qc _ e)
    have no:∀ b,s.heap.objs.size<=b->s.heap.get? b=none:=fun b hb=>by
     cases z:s.heap.get? b with
     | none=>rfl
     | some o=>exact absurd (qg z) (Nat.not_lt.mpr hb)
    have hin:In0 s.heap (·∈vs):=fun v hv=>by
     obtain ⟨i,ei⟩:=qU hv
     obtain ⟨ks,_,b,o,xs,n,e,ho,_⟩:=L2.Paired.get hT ei
     exact ⟨b,o,e,ho⟩
    refine qev (A:=A.in1.in1) (key:=fun i=>kss.getD i []) (h0:=s.heap) (Pv:=(·∈vs)) (Walks.list (by simp [hh]) _ l (by rw [sz1];exact qx (Nat.lt_succ_of_lt hlt)) vs.toArray).toS (S:=s.heap.objs.size) ?_ (no _ (qi _)) (fun b hb=>?_) hin
     (fun i v hv=>?_) (fun ms nd hm=>hn ms nd fun q hq=>by
      obtain ⟨j,hj,e⟩:=hm q hq
      have hk:j<kss.length:=by
       rw [<- L2.Paired.len hT]
       simpa using hj
      rw [qL,List.getElem?_eq_getElem hk] at e
      rw [<- e]
      exact qX hk) (by show A.units+1+1+8<_;omega) (vs.toArray.size - 0) 0 _ [] rfl (ya _) ⟨⟨_,qz _ rfl,rfl,rfl⟩,hl1.push _⟩ kp2 (qeW (qc _ hS)) (fun q=>by simp) (ya _) fun s' ms hm k2 S2 mem2 _=>?_
    ·rw [sz1];simp only [List.mem_cons,List.not_mem_nil,or_false,not_or];exact ⟨qx (Nat.lt_succ_self _),Nat.ne_of_gt hlt⟩
    ·rw [qI.mp hb,sz1];exact no _ (Nat.le_succ _)
    ·have hv':vs[i]?=some v:=by simpa using hv
     have hi:i<vs.length:=(qm.mp hv').1
     have:=jD hT i hi
     rw [qL,hv'] at this
     exact ⟨this,List.mem_of_getElem? hv'⟩
    ·obtain ⟨h',g',d',tk',os'⟩:=s'
     have e1:g'=s.gens:=hm.gens
     have e2:d'=s.drawn:=hm.drawn
     have e3:os'=s.os:=hm.os
     subst e1;subst e2;subst e3
     refine qe ?_
     refine qe ⟨rfl,h',tk',ms,rfl,S2,fun q=>?_,k2⟩
     rw [mem2 q,List.size_toArray,L2.Paired.len hT]
     constructor
     ·rintro ⟨j,hj,e⟩
      rw [qL,List.getElem?_eq_getElem hj] at e
      exact e ▸ qX hj
     ·intro hq
      obtain ⟨j,hj,e⟩:=List.getElem_of_mem hq
      exact ⟨j,hj,by rw [qL,List.getElem?_eq_getElem hj];exact e⟩
   ·cases r₂ with
    | error e=>exact hr₂
    | ok fl₂ =>
     cases fl₂ with
     | next=>exact hr₂.elim
     | brk=>exact hr₂.elim
     | cont=>exact hr₂.elim
     | ret r =>
      obtain ⟨rfl,h',tk,ms,rfl,q1,q2,q3⟩:=hr₂
      repeat (any_goals first | assumption | wp_step)
      exact h _ _ _ q1 q2 q3
theorem YK {α:Type} [DecidableEq α]:∀ {ms kss:List α},ms.Nodup->(∀ q∈ms,q∈kss)->ms.length<=kss.length
 | [],_,_,_=>ya _
 | a::ms,kss,hn,h=>by
  have ha:=h a qv
  have h1:=YK (ms:=ms) (kss:=kss.erase a) (List.nodup_cons.mp hn).2 (fun q hq=>by
   have hne:q≠a:=fun z=>(List.nodup_cons.mp hn).1 (z ▸ hq)
   exact (List.mem_erase_of_ne hne).mpr (h q (qk _ hq)))
  rw [List.length_erase_of_mem ha] at h1
  have:=List.length_pos_of_mem ha
  simp only [List.length_cons]
  omega
end
end L2
namespace L2
open PySem PySem.Spec PyProof.Rows PySem.W PySem.SetTable
theorem jK:Slot "set_iterator" "__next__" "set_iterator.__next__" :=
 .of (owner := "set_iterator") (n := "__next__") (by rw [typeLookup_type,builtinLookup_eq_fast];kernel_rfl) (by decide +kernel) (by decide +kernel) (by decide +kernel) (by first | exact .inl (by decide +kernel) | exact .inr (by decide +kernel)) (by rw [isSubtype_type];kernel_rfl)
theorem J3:Slot "set_iterator" "__iter__" "set_iterator.__iter__" :=
 .of (owner := "set_iterator") (n := "__iter__") (by rw [typeLookup_type,builtinLookup_eq_fast];kernel_rfl) (by decide +kernel) (by decide +kernel) (by decide +kernel) (by first | exact .inl (by decide +kernel) | exact .inr (by decide +kernel)) (by rw [isSubtype_type];kernel_rfl)
theorem Zb:entryFor table "set_iterator.__next__" = some Builtin.«set_iterator.__next__»:=entryFor_of_fast (by kernel_rfl)
theorem Zc:entryFor table "set_iterator.__iter__" = some Builtin.«dict_keyiterator.__iter__»:=entryFor_alias (id' := "dict_keyiterator.__iter__") (by kernel_rfl) rfl (by decide +kernel) (by kernel_rfl)
theorem qae (a:Value):argsOk "set_iterator.__next__" ⟨[a],[]⟩:=by unfold argsOk;kernel_rfl
theorem qaf (a:Value):argsOk "set_iterator.__iter__" ⟨[a],[]⟩:=by unfold argsOk;kernel_rfl
theorem ZW:entryFor table "set.__iter__" = some Builtin.«frozenset.__iter__»:=entryFor_alias (id' := "frozenset.__iter__") (by kernel_rfl) rfl (by decide +kernel) (by kernel_rfl)
theorem qbK {α:Type}{l:List α}{i:Nat}(h:i<l.length):(l[i]::l.eraseIdx i).Perm l:=by
 rw [List.eraseIdx_eq_take_drop_succ]
 have e:l=l.take i++l[i]::l.drop (i+1):=by rw [<- List.drop_eq_getElem_cons h,qA]
 exact List.perm_middle.symm.trans (List.Perm.of_eq e.symm)
theorem qcO {α:Type}(next:Nat->Nat):∀ (fu k:Nat) (left:List α) (out:Array α),left.length=fu->(pickOrder.go next fu k left out).toList.Perm (out.toList++left)
 | 0,k,left,out,h=>by
  cases List.length_eq_zero_iff.mp h
  simp [pickOrder.go]
 | fu+1,k,left,out,h=>by
  unfold pickOrder.go
  have hlt:next k % left.length<left.length:=yE _ (by omega)
  simp only [List.getElem?_eq_getElem hlt]
  have ih:=qcO next fu (k+1) (left.eraseIdx (next k % left.length)) (out.push left[next k % left.length]) (by rw [List.length_eraseIdx_of_lt hlt];omega)
  refine ih.trans ?_
  rw [Array.toList_push,qo]
  exact List.Perm.append_left _ (qbK hlt)
def Y5 (w:World) (S:Addr) (ep:Nat) (es:Array (Int×Value)):Array (Int×Value):=if jH w=true then pickOrder (w.params.setOrder S ep) es else es
theorem Yt (w:World) (S:Addr) (ep:Nat) (es:Array (Int×Value)):(Y5 w S ep es).toList.Perm es.toList:=by
 unfold Y5
 split
 ·have:=qcO (w.params.setOrder S ep) es.size 0 es.toList #[] (by simp)
  have this:(pickOrder.go (w.params.setOrder S ep) es.size 0 es.toList #[]).toList.Perm es.toList:=by simpa using this
  exact this
 ·exact List.Perm.refl _
theorem j9 (w:World) (S:Addr) (ep:Nat) (es:Array (Int×Value)):(Y5 w S ep es).size=es.size:=by
 have:=(Yt w S ep es).length_eq
 simpa using this
theorem qat {α β:Type}{R:α->β->Prop}{xs xs':List α}(p:xs.Perm xs'):∀ {ys:List β},PySem.Paired R xs ys->∃ ys',PySem.Paired R xs' ys'/\ys.Perm ys':=by
 induction p with
 | nil=>intro ys h;exact ⟨ys,h,List.Perm.refl _⟩
 | cons x _ ih =>
  intro ys h
  cases h with
  | cons r t =>
   obtain ⟨zs,h1,h2⟩:=ih t
   exact ⟨_,.cons r h1,h2.cons _⟩
 | swap x y l =>
  intro ys h
  cases h with
  | cons r t =>
   cases t with
   | cons r' t'=>exact ⟨_,.cons r' (.cons r t'),List.Perm.swap ..⟩
 | trans _ _ ih1 ih2 =>
  intro ys h
  obtain ⟨y1,a1,b1⟩:=ih1 h
  obtain ⟨y2,a2,b2⟩:=ih2 a1
  exact ⟨y2,a2,b1.trans b2⟩
section
variable {prog:Program}{w:World}{Pv:Value->Prop}{A:Around}{E:Value->Shared->Prop}{s:Shared}{a:Addr}{o:Obj}{es:Array (Int×Value)}{ep:Nat}{t:SetTable}{m:Nat}{kss:List (List Int)}
structure SetB (w:World) (h:Heap) (a:Addr) (o:Obj) (es:Array (Int×Value)) (ep:Nat) (t:SetTable) (m:Nat):Prop where
 ho:h.get? a=some o
 ex:o.ExactSet
 hd:o.data = .set es ep t
 fits:t.fits es.size=true
 pl:t.plain=true
 ld:t.led=!jH w
 tab:Tab t m es.size
theorem SetD.toB (D:SetD prog w Pv s.heap a o es ep t m kss):SetB w s.heap a o es ep t m:=⟨D.ho,D.ex,D.hd,D.fits,D.pl,D.ld,D.si.tab⟩
theorem SetB.at {h h':Heap}(B:SetB w h a o es ep t m) (k:h.get? a=some o->h'.get? a=some o):SetB w h' a o es ep t m:=⟨k B.ho,B.ex,B.hd,B.fits,B.pl,B.ld,B.tab⟩
theorem qgL (D:SetB w s.heap a o es ep t m) {Q:Array (Int×Value)->Shared->Prop}(q:Q (Y5 w a ep es) s):wpAny (model prog w) A (setWalk a) Q E s:=by
 unfold setWalk setsByText
 refine qb (yU D.ho D.hd D.fits ?_)
 dsimp only
 refine qb (qb (wpAny_askSetting (qe ?_)))
 show wpAny _ _ (if jH w=true then _ else _) _ _ _
 cases hb:jH w with
 | true =>
  rw [if_pos rfl]
  refine qb (wpAny_askSetting (qe ?_))
  unfold Y5 at q
  rw [if_pos hb] at q
  exact q
 | false =>
  unfold Y5 at q
  rw [if_neg (by rw [hb];decide)] at q
  have hled:t.led=true:=by rw [D.ld,hb];rfl
  rw [if_neg (by decide)]
  show wpAny _ _ (if (!t.plain && decide (es.size > 1))=true then _ else _) _ _ _
  rw [if_neg (by rw [D.pl];simp)]
  refine qb (show wpAny _ _ (if (!t.led && decide (es.size > 1))=true then _ else _) _ _ _ from ?_)
  rw [if_neg (by rw [hled];simp)]
  exact qe (qe q)
theorem qhE (D:SetB w s.heap a o es ep t m) {slot i:Nat}(hb:jH w=false->below t.place slot=i) {Q:Option (Value×Nat)->Shared->Prop}
  (q:∀ nx,(jH w=false->i<es.size->below t.place nx=i+1)->Q (((Y5 w a ep es)[i]?).map fun e=>(e.2,nx)) s):wpAny (model prog w) A (setNext a slot i ep) Q E s:=by
 unfold setNext setsByText
 refine qb (yU D.ho D.hd D.fits ?_)
 dsimp only
 refine qb (qb (wpAny_askSetting (qe ?_)))
 show wpAny _ _ (if jH w=true then _ else _) _ _ _
 cases hb':jH w with
 | true =>
  rw [if_pos rfl,if_neg (by simp)]
  refine qb (qgL D (qe (q slot fun z=>?_)))
  rw [hb'] at z;cases z
 | false =>
  have hled:t.led=true:=by rw [D.ld,hb'];rfl
  rw [if_neg (by decide)]
  show wpAny _ _ (if (!t.plain && decide (es.size > 1))=true then _ else _) _ _ _
  rw [if_neg (by rw [D.pl];simp)]
  refine qb (show wpAny _ _ (if (!t.led && !es.isEmpty)=true then _ else _) _ _ _ from ?_)
  rw [if_neg (by rw [hled];simp)]
  refine qe ?_
  rw [hb hb']
  have T:=D.tab
  have eo:Y5 w a ep es=es:=by unfold Y5;rw [if_neg (by rw [hb'];decide)]
  rw [eo] at q
  refine qe ?_
  by_cases hi:i<es.size
  ·have hp:t.place[i]?=some (t.place.getD i 0):=getD_some (by rw [T.size];exact hi)
   have he:es[i]?=some es[i]:=by simp [hi]
   have nx:=q (t.place.getD i 0+1) fun _ _=>by
    obtain ⟨b1,b2,b3⟩:=jY T.rise (t.place.getD i 0+1)
    rw [T.size] at b2 b3
    rcases Nat.lt_trichotomy (below t.place (t.place.getD i 0+1)) (i+1) with z | z | z
    ·have:=b2 i (by omega) hi
     omega
    ·exact z
    ·have c:=b1 (i+1) z
     have d:=T.rise i (i+1) (by omega) (by rw [T.size];omega)
     omega
   rw [he] at nx
   rw [hp,he]
   exact nx
  ·have he:es[i]?=none:=by simp;omega
   have nx:=q 0 fun _ z=>absurd z hi
   rw [he] at nx
   rw [he]
   exact nx
end
def SIt (h:Heap) (I S:Addr) (slot i n ep:Nat):Prop:=∃ o,h.get? I=some o/\o.cls = .type "set_iterator" /\ o.data = .fields #[.int slot 0,.int i 0,.ref S,.int n 0,.int ep 0]
theorem SIt.typeIs {s:Shared}{I S:Addr}{slot i n ep:Nat}(h:SIt s.heap I S slot i n ep):s.TypeIs (.ref I) "set_iterator" := let ⟨o,ho,hc,_⟩:=h;⟨o,ho,hc⟩
section
variable {prog:Program}{w:World}{Pv:Value->Prop}{A:Around}{E:Value->Shared->Prop}{s:Shared}{S I:Addr}{o:Obj}{es:Array (Int×Value)}{ep:Nat}{t:SetTable}{m:Nat}{kss:List (List Int)}
structure StS (w:World) (h:Heap) (I S:Addr) (o:Obj) (es:Array (Int×Value)) (ep:Nat) (t:SetTable) (m i:Nat):Prop where
 it:∃ slot,SIt h I S slot i es.size ep/\(jH w=false->i<=es.size->below t.place slot=i)
 st:SetB w h S o es ep t m
theorem qdh {i:Nat}(hI:I≠S) (st:StS w s.heap I S o es ep t m i) (hi:i<=es.size) {Q:Option Value->Shared->Prop}
  (hit:∀ e h',(Y5 w S ep es)[i]?=some e->StS w h' I S o es ep t m (i+1)->(∀ b ob,b≠I->s.heap.get? b=some ob->h'.get? b=some ob)->Q (some e.2) { s with heap:=h' })
  (hend:i=es.size->A.handled=none/\∀ h',(∀ b ob,b≠I->s.heap.get? b=some ob->h'.get? b=some ob)->Q none { s with heap:=h' }):wpAny (model prog w) A (pyNext (.ref I)) Q E s:=by
 obtain ⟨⟨slot,hs,hb⟩,B⟩:=st
 obtain ⟨oi,hoi,hci,hdi⟩:=id hs
 unfold pyNext
 refine qb (wpAny_attempt (wpAny_callSpecial?_slot (name:=Str.ofString "__next__") hs.typeIs jK (wpAny_call_entry jK hs.typeIs Zb ?_ (qae _))))
 unfold Builtin.«set_iterator.__next__»
 refine qb (m:=slotArgs "__next__" 0 ⟨[.ref I],[]⟩) (qe ?_)
 dsimp only
 refine qb (wpAny_fieldsOf hoi hdi ?_)
 dsimp only
 refine qb (wpAny_setEntries_of B.ho B.hd B.fits ?_)
 rw [if_neg (by simp)]
 refine qb ?_
 simp only [Int.toNat_natCast]
 refine qhE B (fun z=>hb z hi) fun nx hnx=>?_
 by_cases hlt:i<es.size
 ·have hlt':i<(Y5 w S ep es).size:=by rw [j9];exact hlt
  have eq:(Y5 w S ep es)[i]?=some (Y5 w S ep es)[i]:=by simp [hlt']
  rw [eq]
  dsimp only [Option.map_some]
  refine qb (wpAny_setField hoi hdi (by simp) ?_)
  have h1:=jh (Obj.mapFields (·.setIfInBounds 0 (rawInt nx))) hoi (Obj.isFreed_of_fields (Obj.data_mapFields hdi _))
  have d1:=Obj.data_mapFields hdi (·.setIfInBounds 0 (rawInt (nx:Int)))
  refine qb (wpAny_setField h1 d1 (by simp) (qe ⟨_,rfl,qe ?_⟩))
  have h2:=jh (Obj.mapFields (·.setIfInBounds 1 (rawInt ((i:Int)+1)))) h1 (Obj.isFreed_of_fields (Obj.data_mapFields d1 _))
  have kp:∀ b ob,b≠I->s.heap.get? b=some ob->((s.heap.update I (Obj.mapFields (·.setIfInBounds 0 (rawInt nx)))).update I (Obj.mapFields (·.setIfInBounds 1 (rawInt ((i:Int)+1))))).get? b=some ob:=fun b ob hb e =>
   (yD _ _ (Ne.symm hb)).trans ((yD _ _ (Ne.symm hb)).trans e)
  refine hit _ _ eq ⟨⟨nx,⟨_,h2,?_,?_⟩,fun z _=>hnx z hlt⟩,B.at (kp S _ (Ne.symm hI))⟩ kp
  ·rw [Obj.cls_mapFields,Obj.cls_mapFields];exact hci
  ·rw [Obj.data_mapFields d1];simp [rawInt]
 ·have he:i=es.size:=by omega
  obtain ⟨hh,hq⟩:=hend he
  have eq:(Y5 w S ep es)[i]?=none:=by simp [j9];omega
  rw [eq]
  dsimp only [Option.map_none]
  refine qb (wpAny_setField hoi hdi (by simp) ?_)
  refine qb ?_
  simp only [newExc,newTuple]
  refine qb (wpAny_newObj_type ?_ (by size_fits))
  refine qb (m:=firstArgMember _ _) (wpAny_of_eq (a:=Value.none) (by first | rfl | (simp only [firstArgMember];rfl)) ?_)
  refine wpAny_newObj_type ?_ (by size_fits)
  simp only [raiseNew]
  refine qb (wpAny_handled ?_)
  rw [show A.in1.handled=none from hh]
  refine qb (qe (wpAny_throw ?_))
  refine qb (wpAny_isInstance (T := "StopIteration") (b:=true) ⟨_,qz _ rfl,rfl⟩ isSubtype_stop ?_)
  refine qe (hq _ fun b ob hb e=>?_)
  exact qc _ (qc _ ((yD _ _ (Ne.symm hb)).trans e))
theorem qb4 (hh:A.handled=none) (hI:I≠S):Walks prog w A I [I,S] [I] es.size (fun i v=>((Y5 w S ep es)[i]?).map (·.2)=some v) (fun i h=>StS w h I S o es ep t m i) where
 sub:=fun b hb=>by simp at hb;simp [hb]
 frame:=fun i h h' st hk=>by
  obtain ⟨⟨slot,⟨oi,e1,e2⟩,hb⟩,B⟩:=st
  exact ⟨⟨slot,⟨oi,hk I (by simp) _ e1,e2⟩,hb⟩,B.at (hk S (by simp) _)⟩
 item:=fun i s Q E hi st hQ=>qdh hI st (by omega) (fun e h' eo st' kp=>hQ e.2 h' s.toks (by rw [eo];rfl) st' fun b ob hb=>kp b ob fun z=>hb (by simp [z])) fun z=>absurd z (by omega)
 done:=fun s Q E st hQ=>qdh hI st (qi _) (fun e h' eo _ _=>by
  have:(Y5 w S ep es)[es.size]?=none:=by simp [j9]
  rw [this] at eo;cases eo) fun _=>⟨hh,fun h' kp=>hQ h' s.toks fun b ob hb=>kp b ob fun z=>hb (by simp [z])⟩
 self:=fun i s Q E st hQ=>by
  obtain ⟨⟨slot,hs,hb⟩,B⟩:=st
  refine wpAny_pyIter_slot hs.typeIs J3 (wpAny_call_entry J3 hs.typeIs Zc ?_ (qaf _))
  show wpAny _ _ (ret (.ref I)) _ _ s
  exact qe ⟨_,rfl, "set_iterator",_,hs.typeIs,jK.lookup,hQ⟩
theorem qe1 (B:SetB w s.heap S o es ep t m) {Q:Value->Shared->Prop}(q:∀ h',jR s.heap h'->StS w h' s.heap.objs.size S o es ep t m 0->h'.objs.size=s.heap.objs.size+1->Q (.ref s.heap.objs.size) { s with heap:=h' }):wpAny (model prog w) A (pyIter (.ref S)) Q E s:=by
 have hT:s.TypeIs (.ref S) "set" := ⟨o,B.ho,B.ex.1⟩
 refine wpAny_pyIter_slot hT F.slot_set_iter (wpAny_call_entry F.slot_set_iter hT ZW ?_ (F.args_set_iter_1 _))
 unfold Builtin.«frozenset.__iter__» Builtin.Frozenset.slot0
 refine qb (qb (m:=slotArgs "__iter__" 0 ⟨[.ref S],[]⟩) (qe (qe ?_)))
 unfold Builtin.Frozenset.sizeOf setDrawn setsByText setEpoch
 refine qb (qb (wpAny_setEntries_of B.ho B.hd B.fits (qe ?_)))
 refine qb (qb (yU B.ho B.hd B.fits ?_))
 dsimp only
 refine qb (qb (wpAny_askSetting (qe (qe ?_))))
 rw [if_neg (by show ¬ ((!jH w && (!t.plain && decide (es.size > 1)))=true);rw [B.pl];simp)]
 refine qb (qe ?_)
 refine qb (qb (yU B.ho B.hd B.fits (qe ?_)))
 refine qb (wpAny_newObj_type (qe ⟨_,rfl, "set_iterator",_,⟨_,qz _ rfl,rfl⟩,jK.lookup,q _ (fun b ob e=>qc _ e) ⟨⟨0,⟨_,qz _ rfl,rfl,rfl⟩,fun _ _=>?_⟩,B.at (qc _)⟩ (Heap.size_push ..)⟩))
 obtain ⟨b1,b2,b3⟩:=jY B.tab.rise 0
 rcases Nat.eq_zero_or_pos (below t.place 0) with z | z
 ·exact z
 ·exact absurd (b1 0 z) (by omega)
theorem qaF (hh:A.handled=none) (B:SetB w s.heap S o es ep t m) (hz:es.size<4915) {Q:List Value->Shared->Prop}(hQ:∀ h' tk,jR s.heap h'->Q ((Y5 w S ep es).toList.map (·.2)) { s with heap:=h',toks:=tk }):wpAny (model prog w) A (collect (.ref S)) Q E s:=by
 have hlt:S<s.heap.objs.size:=qg B.ho
 unfold collect
 refine qb (wpAny_runValue (codeAny_builtin F.entry_proto_collect ?_))
 rw [Around.under_plainId F.plain_proto_collect _]
 refine qb (m:=newList []) (wpAny_newObj_type ?_)
 refine qe ⟨plainId_quiet F.plain_list_iadd _,codeAny_builtin F.entry_list_iadd ?_⟩
 rw [Around.under_plainId F.plain_list_iadd _]
 have B1:SetB w (s.heap.push { cls:=.type "list",data:=.seq ([]:List Value).toArray }) S o es ep t m:=B.at (qc _)
 have hL:(s.heap.push { cls:=.type "list",data:=.seq ([]:List Value).toArray }).get? s.heap.objs.size=some { cls:=.type "list",data:=.seq ([]:List Value).toArray }:=qz _ rfl
 have kp1:jR s.heap (s.heap.push { cls:=.type "list",data:=.seq ([]:List Value).toArray }):=fun b ob e=>qc _ e
 have sz1:(s.heap.push { cls:=.type "list",data:=.seq ([]:List Value).toArray }).objs.size=s.heap.objs.size+1:=Heap.size_push ..
 show wpAny (model prog w) A.in1 (Builtin.List.listExtendWith (.ref s.heap.objs.size) (.ref S) (.ref s.heap.objs.size)) _ _ { s with heap:=s.heap.push { cls:=.type "list",data:=.seq ([]:List Value).toArray } }
 generalize s.heap.push { cls:=.type "list",data:=.seq ([]:List Value).toArray }=h1 at *
 have hT:Shared.TypeIs { s with heap:=h1 } (.ref S) "set" := ⟨o,B1.ho,B1.ex.1⟩
 have ne:Builtin.List.listSameRef (.ref s.heap.objs.size) (.ref S)=false:=by simp only [Builtin.List.listSameRef];exact beq_false_of_ne (Nat.ne_of_gt hlt)
 unfold Builtin.List.listExtendWith
 refine qb (wpAny_typeOf hT ?_)
 rw [if_neg (by rw [ne];decide)]
 refine qb (qe1 (s:={ s with heap:=h1 }) B1 fun h2 kp2 st2 sz2=>?_)
 have hT2:Shared.TypeIs { s with heap:=h2 } (.ref S) "set" := ⟨o,st2.st.ho,B1.ex.1⟩
 have hL2:=kp2 _ _ hL
 refine qb (yk ?_)
 unfold Builtin.List.listLengthHint
 refine qb (wpAny_specialOf hT2 F.slot_set_len.lookup ?_)
 generalize hid:("set.__len__" : String)=id0
 wp_delta
 rw [show splitId id0=some ("set", "__len__") from by subst hid;decide +kernel]
 subst hid
 refine qb (wpAny_isInstance (b:=true) hT2 sub_set_self ?_)
 refine qb (m:=typeOf (.ref S)) (wpAny_typeOf hT2 (qe ?_))
 show wpAny (model prog w) A.in1 (rule "list.extend.makes-room" >>= fun _=>Builtin.List.listTouch (.ref s.heap.objs.size) >>= fun _=>again (.builtin "list.extend.loop" ⟨[.ref s.heap.objs.size,.ref h1.objs.size,.ref s.heap.objs.size],[]⟩)) _ _ _
 refine qb (wpAny_rule (qb ?_))
 show wpAny (model prog w) A.in1 (updateSeq s.heap.objs.size (·.push .none) >>= fun _=>updateSeq s.heap.objs.size (·.pop)) _ _ _
 refine qb (wpAny_updateSeq hL2 rfl ?_)
 have hL3:=jh (Obj.mapSeq (·.push Value.none)) hL2 rfl
 refine wpAny_updateSeq hL3 rfl ?_
 have hL4:=jh (Obj.mapSeq (·.pop)) hL3 rfl
 have oth:∀ b ob,b≠s.heap.objs.size->h2.get? b=some ob->((h2.update s.heap.objs.size (Obj.mapSeq (·.push Value.none))).update s.heap.objs.size (Obj.mapSeq (·.pop))).get? b=some ob :=
  fun b ob hb e=>(yD _ _ (Ne.symm hb)).trans ((yD _ _ (Ne.symm hb)).trans e)
 have hI:h1.objs.size≠S:=fun z=>by
  have:=qg B1.ho
  rw [<- z] at this
  exact yQ _ this
 have hIL:h1.objs.size≠s.heap.objs.size:=by rw [sz1];exact Nat.ne_of_gt (Nat.lt_succ_self _)
 have W:WalksS prog w A.in1 h1.objs.size [h1.objs.size,S] [h1.objs.size] (fun a b=>b=a) es.size (fun i v=>((Y5 w S ep es)[i]?).map (·.2)=some v) (fun i s=>StS w s.heap h1.objs.size S o es ep t m i):=(qb4 (A:=A.in1) hh hI).toS
 refine qe ⟨plainId_quiet F.plain_extend_loop _,codeAny_extend_loopS W (by rw [sizeLine_eq];omega) s.heap.objs.size (fun hm=>?_) _ es.size 0 _ _ _ rfl (ya _) ?_ hL4 (ItemsOf.nil _) fun s' acc' c' hm hS' hacc=>?_⟩
 ·rcases List.mem_cons.mp hm with z | z
  ·exact hIL z.symm
  ·exact Nat.ne_of_gt hlt (qI.mp z)
 ·obtain ⟨⟨slot,⟨oi,e1,e2⟩,hb⟩,B2⟩:=st2
  exact ⟨⟨slot,⟨oi,oth _ _ hIL e1,e2⟩,hb⟩,B2.at (oth _ _ (qx hlt))⟩
 ·refine qb (m:=load s.heap.objs.size) (wpAny_load hS' ?_)
  have kp:jR s.heap s'.heap:=fun b ob e=>by
   have hb:b<s.heap.objs.size:=qg e
   refine hm.heap b ob (fun z=>?_) (oth b ob (qx hb) (kp2 _ _ (kp1 _ _ e)))
   rcases List.mem_cons.mp z with z | z
   ·exact qx hb z
   ·rw [qI.mp z,sz1] at hb
    exact absurd hb (Nat.not_lt.mpr (Nat.le_succ _))
  have ea:acc'.toList=(Y5 w S ep es).toList.map (·.2):=by
   apply List.ext_getElem?
   intro i
   rw [List.getElem?_map,qj,qj]
   cases z:acc'[i]? with
   | some v=>exact (hacc.2 i v z).symm
   | none =>
    have:acc'.size<=i:=by simpa using z
    rw [hacc.1,<- j9 w S ep es] at this
    rw [yc this]
    rfl
  have fin:=hQ s'.heap s'.toks kp
  rw [<- ea] at fin
  obtain ⟨h',g',d',tk',os'⟩:=s'
  have e1:g'=s.gens:=hm.gens
  have e2:d'=s.drawn:=hm.drawn
  have e3:os'=s.os:=hm.os
  subst e1;subst e2;subst e3
  exact qe fin
end
end L2
namespace L2
open PySem PySem.Spec PyProof.Rows PySem.W PySem.SetTable
section
variable {prog:Program}{w:World}{Pv Pv':Value->Prop}{A:Around}{E:Value->Shared->Prop}{s:Shared}{S1 S2:Addr}{k1 k2:List (List Int)}
end
open PySem PySem.Spec PyProof.Rows
mutual
theorem Is.same {K:W.Frag}{H H':Hp}(s:ye H H'):∀ {v:V}{d:PyData},Is K H v d->Is K H' v d
 | _,_,.non=>.non
 | _,_,.bl b=>.bl b
 | _,_,.int i=>.int i
 | _,_,.str x=>.str x
 | _,_,.lst h hs=>.lst (ye.seq s h) (IsAll.same s hs)
 | _,_,.tup h hs=>.tup (by
   rcases h with (e | ⟨o,e⟩) | e
   ·exact .inl (.inl (s _ _ e))
   ·exact .inl (.inr ⟨o,s _ _ e⟩)
   ·exact .inr e) (IsAll.same s hs)
 | _,_,.dc h=>.dc (s _ _ h)
theorem IsAll.same {K:W.Frag}{H H':Hp}(s:ye H H'):∀ {vs:List V}{ds:List PyData},IsAll K H vs ds->IsAll K H' vs ds
 | _,_,.nil=>.nil
 | _,_,.cons h hs=>.cons (Is.same s h) (IsAll.same s hs)
end
theorem IsAll.len {K:W.Frag}{H:Hp}:∀ {vs:List V}{ds:List PyData},IsAll K H vs ds->vs.length=ds.length
 | _,_,.nil=>rfl
 | _,_,.cons _ hs=>by simp [IsAll.len hs]
theorem IsAll.get {K:W.Frag}{H:Hp}:∀ {vs:List V}{ds:List PyData}{i:Nat}{v:V},IsAll K H vs ds->vs[i]?=some v->∃ d,ds[i]?=some d/\Is K H v d
 | _,_,_,_,.nil,e=>by simp at e
 | _,_,0,_,.cons h _,e=>by simp at e;subst e;exact ⟨_,rfl,h⟩
 | _,_,i+1,v,.cons _ t,e=>by
  obtain ⟨u,h1,h2⟩:=IsAll.get (i:=i) (v:=v) t (by simpa using e)
  exact ⟨u,by simpa using h1,h2⟩
theorem IsAll.get' {K:W.Frag}{H:Hp}:∀ {vs:List V}{ds:List PyData}{i:Nat}{d:PyData},IsAll K H vs ds->ds[i]?=some d->∃ v,vs[i]?=some v/\Is K H v d
 | _,_,_,_,.nil,e=>by simp at e
 | _,_,0,_,.cons h _,e=>by simp at e;subst e;exact ⟨_,rfl,h⟩
 | _,_,i+1,v,.cons _ t,e=>by
  obtain ⟨u,h1,h2⟩:=IsAll.get' (i:=i) (d:=v) t (by simpa using e)
  exact ⟨u,by simpa using h1,h2⟩
theorem IsAll.snoc {K:W.Frag}{H:Hp}{v:V}{d:PyData}(h:Is K H v d):∀ {vs:List V}{ds:List PyData},IsAll K H vs ds->IsAll K H (vs++[v]) (ds++[d])
 | _,_,.nil=>.cons h .nil
 | _,_,.cons a b=>.cons a (IsAll.snoc h b)
theorem IsAll.app {K:W.Frag}{H:Hp}{us:List V}{es:List PyData}(h:IsAll K H us es):∀ {vs:List V}{ds:List PyData},IsAll K H vs ds->IsAll K H (vs++us) (ds++es)
 | _,_,.nil=>h
 | _,_,.cons a b=>.cons a (IsAll.app h b)
theorem IsAll.drop {K:W.Frag}{H:Hp}:∀ {vs:List V}{ds:List PyData}(n:Nat),IsAll K H vs ds->IsAll K H (vs.drop n) (ds.drop n)
 | _,_,0,h=>h
 | _,_,_+1,.nil=>.nil
 | _,_,n+1,.cons _ t=>IsAll.drop n t
theorem IsAll.take {K:W.Frag}{H:Hp}:∀ {vs:List V}{ds:List PyData}(n:Nat),IsAll K H vs ds->IsAll K H (vs.take n) (ds.take n)
 | _,_,0,h=>.nil
 | _,_,_+1,.nil=>.nil
 | _,_,n+1,.cons h t=>.cons h (IsAll.take n t)
theorem IsAll.rev {K:W.Frag}{H:Hp}:∀ {vs:List V}{ds:List PyData},IsAll K H vs ds->IsAll K H vs.reverse ds.reverse
 | _,_,.nil=>.nil
 | _,_,.cons h t=>by simpa using IsAll.snoc h (IsAll.rev t)
theorem IsAll.ints_of {K:W.Frag}{H:Hp}:∀ {vs:List V}{ns:List Int},IsAll K H vs (ns.map PyData.int)->vs=ns.map V.int
 | _,[],.nil=>rfl
 | _,_::_,.cons h t=>by cases h;rw [IsAll.ints_of t];rfl
theorem IsAll.bools_of {K:W.Frag}{H:Hp}:∀ {vs:List V}{ns:List Bool},IsAll K H vs (ns.map PyData.bool)->vs=ns.map V.bl
 | _,[],.nil=>rfl
 | _,_::_,.cons h t=>by cases h;rw [IsAll.bools_of t];rfl
structure Stb where
 R:V->Hp->Prop
 st:∀ v H H',ye H H'->R v H->R v H'
inductive En where
 | d (x:PyData)
 | m (a:Addr)
 | x (r:Stb)
 | ty (n:String)
structure MSt where
 R:Hp->HO->Prop
 st:∀ H H' u,ye H H'->R H u->R H' u
 nt:∀ H u xs,R H u->u≠.tup xs
 ml:∀ H H' a xs u,H a=some (.lst xs)->(∀ b o,H b=some o->b≠a->H' b=some o)->R H u->R H' u
inductive MO where
 | any (r:MSt)
 | pot (M:Int)
 | lst (ds:List PyData)
 | refs (as:List Addr)
 | dct (ks:List (List Int))
abbrev Mu:=List (Addr×MO)
def mask (μ:Mu) (H:Hp):Hp:=fun a=>if a∈μ.map Prod.fst then none else H a
theorem qbb {H:Hp}:mask [] H=H:=by funext a;simp [mask]
theorem yL {μ:Mu}{H:Hp}:ye (mask μ H) H:=fun b o e=>by
 unfold mask at e
 split at e
 ·cases e
 ·exact e
theorem JC {μ:Mu}{H:Hp}{b:Addr}{o:HO}(e:mask μ H b=some o):b∉μ.map Prod.fst/\H b=some o:=by
 unfold mask at e
 split at e
 ·cases e
 ·exact ⟨by assumption,e⟩
theorem yH {μ:Mu}{H:Hp}{b:Addr}(h:b∉μ.map Prod.fst):mask μ H b=H b:=by unfold mask;rw [if_neg h]
theorem qeX {μ μ':Mu}{H:Hp}(h:∀ a,a∈μ'.map Prod.fst->a∈μ.map Prod.fst):ye (mask μ H) (mask μ' H):=fun b o e=>by
 obtain ⟨h1,h2⟩:=JC e
 rw [yH (fun z=>h1 (h _ z))];exact h2
def IsE (K:W.Frag) (μ:Mu) (H:Hp) (v:V):En->Prop
 | .d x=>Is K (mask μ H) v x
 | .m a=>v = .ref a
 | .x r=>r.R v (mask μ H)
 | .ty n=>v = .ty n
theorem IsE.same {K:W.Frag}{μ μ':Mu}{H H':Hp}{v:V}{e:En}(s:ye (mask μ H) (mask μ' H')) (h:IsE K μ H v e):IsE K μ' H' v e:=by
 cases e with
 | d x=>exact Is.same s h
 | m a=>exact h
 | x r=>exact r.st _ _ _ s h
 | ty n=>exact h
def qgG (K:W.Frag) (μ:Mu) (H:Hp) (a:Addr):MO->Prop
 | .any r=>∃ u,H a=some u/\r.R (mask μ H) u
 | .pot M=>Pot M H a
 | .lst ds=>∃ xs,H a=some (.lst xs)/\IsAll K (mask μ H) xs ds
 | .refs as=>H a=some (.lst (as.map V.ref))
 | .dct ks=>H a=some (.dT (ks.map fun ns=>(ns.map Sum.inl,V.bl true)))
theorem qgG.some {K:W.Frag}{μ:Mu}{H:Hp}{a:Addr}{o:MO}(h:qgG K μ H a o):∃ u,H a=some u:=by
 cases o with
 | any r=>obtain ⟨u,e,_⟩:=h;exact ⟨_,e⟩
 | pot M=>obtain ⟨p0,p1,e,_⟩:=h;exact ⟨_,e⟩
 | lst ds=>obtain ⟨xs,e,_⟩:=h;exact ⟨_,e⟩
 | refs as=>exact ⟨_,h⟩
 | dct kvs=>exact ⟨_,h⟩
structure RelM (K:W.Frag) (μ:Mu) (H:Hp):Prop where
 nd:(μ.map Prod.fst).Nodup
 ob:∀ a o,(a,o)∈μ->qgG K μ H a o
theorem RelM.nil {K:W.Frag}{H:Hp}:RelM K [] H:=⟨by simp,fun _ _ h=>nomatch h⟩
theorem qgG.same {K:W.Frag}{μ μ':Mu}{H H':Hp}{a:Addr}{o:MO}(s:ye (mask μ H) (mask μ' H')) (e:H' a=H a) (h:qgG K μ H a o):qgG K μ' H' a o:=by
 cases o with
 | any r=>obtain ⟨u,q,z⟩:=h;exact ⟨u,e.trans q,r.st _ _ _ s z⟩
 | pot M=>obtain ⟨p0,p1,q,r⟩:=h;exact ⟨p0,p1,e.trans q,r⟩
 | lst ds=>obtain ⟨xs,q,r⟩:=h;exact ⟨xs,e.trans q,IsAll.same s r⟩
 | refs as=>exact e.trans h
 | dct kvs=>exact e.trans h
theorem RelM.same {K:W.Frag}{μ:Mu}{H H':Hp}(h:RelM K μ H) (s:ye H H'):RelM K μ H'/\ye (mask μ H) (mask μ H'):=by
 have ss:ye (mask μ H) (mask μ H'):=fun b o e=>by
  obtain ⟨h1,h2⟩:=JC e
  rw [yH h1];exact s _ _ h2
 refine ⟨⟨h.nd,fun a o ho=>?_⟩,ss⟩
 have:=h.ob a o ho
 obtain ⟨xs,e⟩:=this.some
 exact this.same ss ((s _ _ e).trans e.symm)
theorem RelM.laid {K:W.Frag}{μ:Mu}{H:Hp}{p:Addr}{o:HO}(h:RelM K μ H) (e:H p=none):RelM K μ (upd H p o)/\ye (mask μ H) (mask μ (upd H p o))/\p∉μ.map Prod.fst:=by
 obtain ⟨h1,h2⟩:=h.same (ye.upd (o:=o) e)
 refine ⟨h1,h2,fun z=>?_⟩
 obtain ⟨⟨a,q⟩,hq,rfl⟩:=qE.mp z
 obtain ⟨xs,e'⟩:=(h.ob a q hq).some
 rw [e'] at e;cases e
theorem qc2 {μ:Mu}{a:Addr}{o:MO}(h:(a,o)∈μ):a∈μ.map Prod.fst:=qE.mpr ⟨_,h,rfl⟩
theorem RelM.write {K:W.Frag}{μ1 μ2:Mu}{H H':Hp}{a:Addr}{o o':MO}(h:RelM K (μ1++(a,o)::μ2) H) (k:∀ b u,H b=some u->b≠a->H' b=some u)
  (new:ye (mask (μ1++(a,o)::μ2) H) (mask (μ1++(a,o')::μ2) H')->qgG K (μ1++(a,o')::μ2) H' a o') :
  RelM K (μ1++(a,o')::μ2) H'/\ye (mask (μ1++(a,o)::μ2) H) (mask (μ1++(a,o')::μ2) H'):=by
 have ks:(μ1++(a,o')::μ2).map Prod.fst=(μ1++(a,o)::μ2).map Prod.fst:=by simp
 have ss:ye (mask (μ1++(a,o)::μ2) H) (mask (μ1++(a,o')::μ2) H'):=fun b u e=>by
  obtain ⟨h1,h2⟩:=JC e
  rw [yH (by rw [ks];exact h1)]
  exact k b u h2 fun z=>h1 (by rw [z];simp)
 refine ⟨⟨by rw [ks];exact h.nd,fun b q hq=>?_⟩,ss⟩
 have nd:=h.nd
 simp only [List.map_append,List.map_cons,List.nodup_append,List.nodup_cons] at nd
 have hcase:(b,q)=(a,o')\/((b,q)∈μ1++(a,o)::μ2/\b≠a):=by
  rcases List.mem_append.mp hq with z | z
  ·exact .inr ⟨yv _ z,fun e=>nd.2.2 b (qc2 z) a (by simp) e⟩
  ·rcases List.mem_cons.mp z with z | z
   ·exact .inl z
   ·exact .inr ⟨qF _ (qk _ z),fun e=>nd.2.1.1 (e ▸ qc2 z)⟩
 rcases hcase with z | ⟨z,hne⟩
 ·cases z;exact new ss
 ·have:=h.ob b q z
  obtain ⟨xs,e⟩:=this.some
  exact this.same ss ((k b _ e hne).trans e.symm)
theorem RelM.drop {K:W.Frag}{μ1 μ2:Mu}{H:Hp}{a:Addr}{o:MO}(h:RelM K (μ1++(a,o)::μ2) H):RelM K (μ1++μ2) H/\ye (mask (μ1++(a,o)::μ2) H) (mask (μ1++μ2) H)/\a∉(μ1++μ2).map Prod.fst:=by
 have nd:=h.nd
 have ss:ye (mask (μ1++(a,o)::μ2) H) (mask (μ1++μ2) H):=qeX fun b hb=>by
  simp only [List.map_append,List.map_cons,List.mem_append,List.mem_cons] at *
  rcases hb with z | z
  ·exact .inl z
  ·exact .inr (.inr z)
 simp only [List.map_append,List.map_cons,List.nodup_append,List.nodup_cons] at nd
 refine ⟨⟨?_,fun b q hq=>?_⟩,ss,?_⟩
 ·simp only [List.map_append,List.nodup_append]
  exact ⟨nd.1,nd.2.1.2,fun x hx y hy=>nd.2.2 x hx y (qk _ hy)⟩
 ·have:(b,q)∈μ1++(a,o)::μ2:=by
   rcases List.mem_append.mp hq with z | z
   ·exact yv _ z
   ·exact qF _ (qk _ z)
  exact (h.ob b q this).same ss rfl
 ·simp only [List.map_append,List.mem_append,not_or]
  exact ⟨fun z=>nd.2.2 a z a (by simp) rfl,nd.2.1.1⟩
theorem RelM.new {K:W.Frag}{μ:Mu}{H:Hp}{p:Addr}{u:HO}{o:MO}(h:RelM K μ H) (e:H p=none) (new:ye (mask μ H) (mask ((p,o)::μ) (upd H p u))->qgG K ((p,o)::μ) (upd H p u) p o) :
  RelM K ((p,o)::μ) (upd H p u)/\ye (mask μ H) (mask ((p,o)::μ) (upd H p u)):=by
 obtain ⟨h1,h2,h3⟩:=h.laid (o:=u) e
 have ss:ye (mask μ H) (mask ((p,o)::μ) (upd H p u)):=fun b q z=>by
  obtain ⟨z1,z2⟩:=JC z
  have hb:b≠p:=qY z2 e
  rw [yH (by simp only [List.map_cons,List.mem_cons,not_or];exact ⟨hb,z1⟩),yb hb];exact z2
 refine ⟨⟨by simp only [List.map_cons,List.nodup_cons];exact ⟨h3,h.nd⟩,fun b q hq=>?_⟩,ss⟩
 rcases List.mem_cons.mp hq with z | z
 ·cases z;exact new ss
 ·have:=h.ob b q z
  obtain ⟨xs,e'⟩:=this.some
  exact this.same ss (yb (qY e' e))
abbrev Rho:=List (Option En)
structure RelS (K:W.Frag) (ρ:Rho) (μ:Mu) (σ:St) (H:Hp):Prop where
 len:ρ.length=σ.length
 get:∀ (i:Nat) (e:En),ρ[i]?=some (some e)->∃ v,σ[i]?=some (some v)/\IsE K μ H v e
theorem RelS.same {K:W.Frag}{ρ:Rho}{μ μ':Mu}{σ:St}{H H':Hp}(h:RelS K ρ μ σ H) (s:ye (mask μ H) (mask μ' H')):RelS K ρ μ' σ H' :=
 ⟨h.len,fun i e q=>let ⟨v,e1,e2⟩:=h.get i e q;⟨v,e1,e2.same s⟩⟩
theorem RelS.set {K:W.Frag}{ρ:Rho}{μ:Mu}{σ:St}{H:Hp}{i:Nat}{v:V}{e:En}(h:RelS K ρ μ σ H) (r:IsE K μ H v e):RelS K (ρ.set i (some e)) μ (σ.set i (some v)) H:=by
 refine ⟨by simp [h.len],fun j x q=>?_⟩
 by_cases hj:i=j
 ·subst hj
  have hi:i<ρ.length:=by
   have:=(qm.mp q).1
   simpa using this
  rw [List.getElem?_set_self (by rw [<- h.len];exact hi)]
  rw [List.getElem?_set_self hi] at q
  cases q
  exact ⟨v,rfl,r⟩
 ·rw [List.getElem?_set_ne hj] at *
  exact h.get j x q
def Wk (ρ:Rho) (μ:Mu) (ρ':Rho) (μ':Mu):Prop:=∀ (K:W.Frag) (σ:St) (H:Hp),RelS K ρ μ σ H->RelM K μ H->RelS K ρ' μ' σ H/\RelM K μ' H/\ye (mask μ H) (mask μ' H)
theorem Wk.refl {ρ:Rho}{μ:Mu}:Wk ρ μ ρ μ:=fun _ _ _ h1 h2=>⟨h1,h2,ye.refl _⟩
theorem Wk.trans {ρ ρ1 ρ2:Rho}{μ μ1 μ2:Mu}(h:Wk ρ μ ρ1 μ1) (h':Wk ρ1 μ1 ρ2 μ2):Wk ρ μ ρ2 μ2:=fun K σ H a b=>by
 obtain ⟨a1,b1,s1⟩:=h K σ H a b
 obtain ⟨a2,b2,s2⟩:=h' K σ H a1 b1
 exact ⟨a2,b2,s1.trans s2⟩
def Lt (ρ' ρ:Rho):Prop:=ρ'.length=ρ.length/\∀ (i:Nat) (e:En),ρ'[i]?=some (some e)->ρ[i]?=some (some e)
theorem Wk.names {ρ ρ':Rho}{μ:Mu}(h:Lt ρ' ρ):Wk ρ μ ρ' μ:=fun _ _ _ h1 h2=>⟨⟨h.1.trans h1.len,fun i e q=>h1.get i e (h.2 i e q)⟩,h2,ye.refl _⟩
theorem Wk.drop {ρ:Rho}{μ1 μ2:Mu}{a:Addr}{o:MO}:Wk ρ (μ1++(a,o)::μ2) ρ (μ1++μ2):=fun _ _ _ h1 h2=>by
 obtain ⟨x,y,_⟩:=h2.drop
 exact ⟨h1.same y,x,y⟩
theorem Wk.drop1 {ρ:Rho}{μ2:Mu}{a:Addr}{o:MO}:Wk ρ ((a,o)::μ2) ρ μ2:=Wk.drop (μ1:=[])
theorem Lt.nil:Lt [] []:=⟨rfl,fun i e h=>h⟩
theorem Lt.keep {ρ' ρ:Rho}{e:Option En}(h:Lt ρ' ρ):Lt (e::ρ') (e::ρ):=⟨by simp [h.1],fun i x q=>by
 cases i with
 | zero=>simpa using q
 | succ i=>simp at q;simpa using h.2 i x q⟩
theorem Lt.refl (ρ:Rho):Lt ρ ρ:=⟨rfl,fun i e h=>h⟩
abbrev TEd:=Rho->Mu->(En->Mu->Prop)->Prop
abbrev TTd:=Rho->Mu->(Bool->Mu->Prop)->Prop
abbrev TAd:=Rho->Mu->(List En->Mu->Prop)->Prop
structure EndsD where
 nx:Rho->Mu->Prop
 rt:En->Mu->Prop
 bk:Rho->Mu->Prop:=fun _ _=>False
 ct:Rho->Mu->Prop:=fun _ _=>False
abbrev TSd:=EndsD->Rho->Mu->Prop
def Cl (K:W.Frag) (μ:Mu) (H:Hp) (Q0:En->Mu->Prop) (Q:VK):Prop:=∀ e μ' v H',Q0 e μ'->RelM K μ' H'->ye (mask μ H) (mask μ' H')->IsE K μ' H' v e->Q v H'
def ClT (K:W.Frag) (μ:Mu) (H:Hp) (Q0:Bool->Mu->Prop) (Q:Bool->Hp->Prop):Prop:=∀ b μ' H',Q0 b μ'->RelM K μ' H'->ye (mask μ H) (mask μ' H')->Q b H'
def ClA (K:W.Frag) (μ:Mu) (H:Hp) (Q0:List En->Mu->Prop) (Q:List V->Hp->Prop):Prop:=∀ es μ' vs H',Q0 es μ'->RelM K μ' H'->ye (mask μ H) (mask μ' H')->Paired (IsE K μ' H') vs es->Q vs H'
def ClR (K:W.Frag) (μ:Mu) (H:Hp) (Q0:Rho->Mu->Prop) (Q:St->Hp->Prop):Prop:=∀ ρ' μ' σ' H',Q0 ρ' μ'->RelS K ρ' μ' σ' H'->RelM K μ' H'->ye (mask μ H) (mask μ' H')->Q σ' H'
structure ClS (K:W.Frag) (μ:Mu) (H:Hp) (D0:EndsD) (D:Ends):Prop where
 nx:ClR K μ H D0.nx D.nx
 rt:Cl K μ H D0.rt D.rt
 bk:ClR K μ H D0.bk D.bk
 ct:ClR K μ H D0.ct D.ct
theorem Cl.same {K:W.Frag}{μ μ1:Mu}{H H1:Hp}{Q0:En->Mu->Prop}{Q:VK}(h:Cl K μ H Q0 Q) (s:ye (mask μ H) (mask μ1 H1)):Cl K μ1 H1 Q0 Q:=fun e μ' v H' a b c d=>h e μ' v H' a b (s.trans c) d
theorem ClT.same {K:W.Frag}{μ μ1:Mu}{H H1:Hp}{Q0:Bool->Mu->Prop}{Q:Bool->Hp->Prop}(h:ClT K μ H Q0 Q) (s:ye (mask μ H) (mask μ1 H1)):ClT K μ1 H1 Q0 Q:=fun e μ' H' a b c=>h e μ' H' a b (s.trans c)
theorem ClR.same {K:W.Frag}{μ μ1:Mu}{H H1:Hp}{Q0:Rho->Mu->Prop}{Q:St->Hp->Prop}(h:ClR K μ H Q0 Q) (s:ye (mask μ H) (mask μ1 H1)):ClR K μ1 H1 Q0 Q:=fun e μ' v H' a b c d=>h e μ' v H' a b c (s.trans d)
theorem ClS.same {K:W.Frag}{μ μ1:Mu}{H H1:Hp}{D0:EndsD}{D:Ends}(h:ClS K μ H D0 D) (s:ye (mask μ H) (mask μ1 H1)):ClS K μ1 H1 D0 D:=⟨h.nx.same s,h.rt.same s,h.bk.same s,h.ct.same s⟩
def up (K:W.Frag) (t:TEd):TE:=fun σ H Q=>∃ ρ μ Q0,RelS K ρ μ σ H/\RelM K μ H/\t ρ μ Q0/\Cl K μ H Q0 Q
def upT (K:W.Frag) (t:TTd):TT:=fun σ H Q=>∃ ρ μ Q0,RelS K ρ μ σ H/\RelM K μ H/\t ρ μ Q0/\ClT K μ H Q0 Q
def upA (K:W.Frag) (t:TAd):TA:=fun σ H Q=>∃ ρ μ Q0,RelS K ρ μ σ H/\RelM K μ H/\t ρ μ Q0/\ClA K μ H Q0 Q
def upS (K:W.Frag) (t:TSd):TS:=fun D σ H=>∃ ρ μ D0,RelS K ρ μ σ H/\RelM K μ H/\t D0 ρ μ/\ClS K μ H D0 D
def DE (K:W.Frag) (X:Cx) (e:Expr) (t:TEd):Prop:=PE X e (up K t)
def DT (K:W.Frag) (X:Cx) (e:Expr) (t:TTd):Prop:=PT X e (upT K t)
def DW (K:W.Frag) (X:Cx) (e:Expr) (t:TTd):Prop:=PW X e (upT K t)
def DA (K:W.Frag) (X:Cx) (es:List Expr) (t:TAd):Prop:=PA X es (upA K t)
def DS (K:W.Frag) (X:Cx) (st:Stmt) (t:TSd):Prop:=PS X st (upS K t)
def DSs (K:W.Frag) (X:Cx) (st:List Stmt) (t:TSd):Prop:=PSs X st (upS K t)
section
variable {X:Cx}{K:W.Frag}
theorem PE.mono {e:Expr}{t t':TE}(h:PE X e t) (f:∀ σ H Q,t' σ H Q->t σ H Q):PE X e t':=fun pins s σ H Q I q=>h pins s σ H Q I (f _ _ _ q)
theorem PT.mono {e:Expr}{t t':TT}(h:PT X e t) (f:∀ σ H Q,t' σ H Q->t σ H Q):PT X e t':=fun pins s σ H Q I q=>h pins s σ H Q I (f _ _ _ q)
theorem PW.mono {e:Expr}{t t':TT}(h:PW X e t) (f:∀ σ H Q,t' σ H Q->t σ H Q):PW X e t':=fun wh pins s σ H Q I q=>h wh pins s σ H Q I (f _ _ _ q)
theorem PA.mono {e:List Expr}{t t':TA}(h:PA X e t) (f:∀ σ H Q,t' σ H Q->t σ H Q):PA X e t':=fun p pins s σ H Q I q=>h p pins s σ H Q I (f _ _ _ q)
theorem PS.mono {e:Stmt}{t t':TS}(h:PS X e t) (f:∀ D σ H,t' D σ H->t D σ H):PS X e t':=fun pins s σ H D I q=>h pins s σ H D I (f _ _ _ q)
theorem PSs.mono {e:List Stmt}{t t':TS}(h:PSs X e t) (f:∀ D σ H,t' D σ H->t D σ H):PSs X e t':=fun pins s σ H D I q=>h pins s σ H D I (f _ _ _ q)
theorem OpR.mono {f:Value->Value->Sem Value}{r r':R2}(h:OpR X f r) (g:∀ x y H Q,r' x y H Q->r x y H Q):OpR X f r':=fun pins s σ H x y v u Q I a b c=>h pins s σ H x y v u Q I a b (g _ _ _ _ c)
theorem UnR.mono {f:Value->Sem Value}{r r':V->Hp->VK->Prop}(h:UnR X f r) (g:∀ x H Q,r' x H Q->r x H Q):UnR X f r':=fun pins s σ H x v Q I a c=>h pins s σ H x v Q I a (g _ _ _ c)
theorem yu.mono {f:Value}{r r':List V->Hp->VK->Prop}(h:yu X f r) (g:∀ x H Q,r' x H Q->r x H Q):yu X f r':=fun pins s σ H x v Q I a c=>h pins s σ H x v Q I a (g _ _ _ c)
theorem IxR.mono {r r':R2}(h:IxR X r) (g:∀ x y H Q,r' x y H Q->r x y H Q):IxR X r':=fun a b pins s σ H x y v u Q I p q c=>h a b pins s σ H x y v u Q I p q (g _ _ _ _ c)
theorem MtM.mono {id:String}{r r':V->List V->Hp->VK->Prop}(h:MtM X id r) (g:∀ x y H Q,r' x y H Q->r x y H Q):MtM X id r':=fun pins s σ H x xs v us Q I a b c=>h pins s σ H x xs v us Q I a b (g _ _ _ _ c)
theorem MtR.mono {id:String}{r r':V->List V->Hp->VK->Prop}(h:MtR X id r) (g:∀ x y H Q,r' x y H Q->r x y H Q):MtR X id r':=fun pins s σ H x xs v us Q I a b c=>h pins s σ H x xs v us Q I a b (g _ _ _ _ c)
def dVar (i:Nat):TEd:=fun ρ μ Q=>match ρ[i]? with
 | some (some e)=>Q e μ
 | _=>False
def dC (x:PyData):TEd:=fun _ μ Q=>Q (.d x) μ
theorem dv (i:Nat) {x:Str}{pos:Pos}(hN:X.N[i]?=some x:=by rfl) (hv:Vis X.env.scope x:=by first | exact Or.inl rfl | exact Or.inr (Or.inl rfl) | exact Or.inr (Or.inr rfl)) (hd:(x == ("__debug__" : Str))=false:=by decide)
  (hcd:(x == ("__classdict__" : Str))=false:=by decide):DE K X (.Name x pos) (dVar i):=by
 refine PE.mono (qge hN hv hd hcd) fun σ H Q hq9=>?_
 obtain ⟨ρ,μ,Q0,hS,hM,h,cl⟩:=hq9
 unfold dVar at h
 split at h
 ·rename_i e he
  obtain ⟨v,e1,e2⟩:=hS.get i e he
  exact ⟨v,e1,cl e μ v H h hM (ye.refl _) e2⟩
 ·exact h.elim
theorem qt {i:Int}{j pos}:DE K X (.Constant (.int i) j pos) (dC (.int i)):=PE.mono jC fun σ H Q ⟨ρ,μ,Q0,hS,hM,h,cl⟩=>cl _ μ (.int i) H h hM (ye.refl _) (.int i)
theorem qiv {b:Bool}{j pos}:DE K X (.Constant (.bool b) j pos) (dC (.bool b)):=PE.mono pe_bl fun σ H Q ⟨ρ,μ,Q0,hS,hM,h,cl⟩=>cl _ μ (.bl b) H h hM (ye.refl _) (.bl b)
theorem qkm {j pos}:DE K X (.Constant .none j pos) (dC .none):=PE.mono qjo fun σ H Q ⟨ρ,μ,Q0,hS,hM,h,cl⟩=>cl _ μ .non H h hM (ye.refl _) .non
theorem up2 {σ:St}{H:Hp}{ta tb:TEd}{R:V->V->Hp->Prop}{ρ:Rho}{μ:Mu}{R0:En->En->Mu->Prop}(hS:RelS K ρ μ σ H) (hM:RelM K μ H) (h:ta ρ μ fun x μ1=>tb ρ μ1 fun y μ2=>R0 x y μ2)
  (f:∀ x y μ2 v u H2,R0 x y μ2->RelM K μ2 H2->ye (mask μ H) (mask μ2 H2)->IsE K μ2 H2 v x->IsE K μ2 H2 u y->R v u H2):up K ta σ H fun v H1=>up K tb σ H1 fun u H2=>R v u H2:=by
 refine ⟨ρ,μ,_,hS,hM,h,fun x μ1 v H1 q1 M1 s1 i1=>⟨ρ,μ1,_,hS.same s1,M1,q1,fun y μ2 u H2 q2 M2 s2 i2=>?_⟩⟩
 exact f x y μ2 v u H2 q2 M2 (s1.trans s2) (i1.same s2) i2
abbrev R2d:=En->En->Mu->(En->Mu->Prop)->Prop
abbrev R1d:=En->Mu->(En->Mu->Prop)->Prop
abbrev RAd:=List En->Mu->(En->Mu->Prop)->Prop
def upR (K:W.Frag) (r:R2d):R2:=fun x y H Q=>∃ μ e e' Q0,RelM K μ H/\IsE K μ H x e/\IsE K μ H y e'/\r e e' μ Q0/\Cl K μ H Q0 Q
def upU (K:W.Frag) (r:R1d):V->Hp->VK->Prop:=fun x H Q=>∃ μ e Q0,RelM K μ H/\IsE K μ H x e/\r e μ Q0/\Cl K μ H Q0 Q
def upC (K:W.Frag) (r:RAd):List V->Hp->VK->Prop:=fun xs H Q=>∃ μ es Q0,RelM K μ H/\Paired (IsE K μ H) xs es/\r es μ Q0/\Cl K μ H Q0 Q
variable {a b c:Expr}{ta tb tc:TEd}{pos:Pos}
def dOp (r:R2d) (ta tb:TEd):TEd:=fun ρ μ Q=>ta ρ μ fun x μ1=>tb ρ μ1 fun y μ2=>r x y μ2 Q
def dUn (r:R1d) (ta:TEd):TEd:=fun ρ μ Q=>ta ρ μ fun x μ1=>r x μ1 Q
theorem qgO {r:R2d}{σ:St}{H:Hp}{Q:VK}(h:up K (dOp r ta tb) σ H Q):tOp (upR K r) (up K ta) (up K tb) σ H Q:=by
 obtain ⟨ρ,μ,Q0,hS,hM,h,cl⟩:=h
 exact up2 hS hM h fun x y μ2 v u H2 q M2 s2 i1 i2=>⟨μ2,x,y,Q0,M2,i1,i2,q,cl.same s2⟩
theorem qZ {op:Operator}{r:R2d}(ho:OpR X (binaryOp op) (upR K r)) (ha:DE K X a ta) (hb:DE K X b tb):DE K X (.BinOp a op b pos) (dOp r ta tb):=PE.mono (YD ho ha hb) fun _ _ _=>qgO
theorem Z5 {op:CmpOp}{r:R2d}(ho:OpR X (compareOp op) (upR K r)) (ha:DE K X a ta) (hb:DE K X b tb) (hm:behindInMarks op b=false):DE K X (.Compare a [op] [b] pos) (dOp r ta tb):=PE.mono (qhm ho ha hb hm) fun _ _ _=>qgO
def qh7 (t:TEd):TTd:=fun ρ μ Q=>t ρ μ fun e μ1=>match e with
 | .d (.bool k)=>Q k μ1
 | _=>False
theorem qgN {t:TEd}{σ:St}{H:Hp}{Q:Bool->Hp->Prop}(h:upT K (qh7 t) σ H Q):up K t σ H fun x H1=>∃ k,x = .bl k/\Q k H1:=by
 obtain ⟨ρ,μ,Q0,hS,hM,h,cl⟩:=h
 refine ⟨ρ,μ,_,hS,hM,h,fun e μ1 v H1 q M1 s1 i1=>?_⟩
 split at q
 ·cases i1
  exact ⟨_,rfl,cl _ μ1 H1 q M1 s1⟩
 ·exact q.elim
theorem q9 {op:CmpOp}{r:R2d}(ho:OpR X (compareOp op) (upR K r)) (ha:DE K X a ta) (hb:DE K X b tb) (hm:behindInMarks op b=false):DT K X (.Compare a [op] [b] pos) (qh7 (dOp r ta tb)):=by
 refine PT.mono (qcD ho ha hb hm) fun σ H Q h=>?_
 obtain ⟨ρ,μ,Q0,hS,hM,h,cl⟩:=h
 refine up2 hS hM h fun x y μ2 v u H2 q M2 s2 i1 i2=>⟨μ2,x,y,_,M2,i1,i2,q,fun e μ3 w H3 q3 M3 s3 i3=>?_⟩
 split at q3
 ·cases i3
  exact ⟨_,rfl,cl _ μ3 H3 q3 M3 (s2.trans s3)⟩
 ·exact q3.elim
theorem ZY {t:TEd}(h:DE K X a t) (he:∀ whole,isTrue a X.env whole=(do let v <- whole;standAt a.pos;holding [v] (truthy v)):=by intro _;rfl):DT K X a (qh7 t):=PT.mono (qjb h he) fun _ _ _=>qgN
theorem Z4 {op:UnaryOp}{r:R1d}(ho:UnR X (unaryOp op) (upU K r)) (ha:DE K X a ta):DE K X (.UnaryOp op a pos) (dUn r ta):=by
 refine PE.mono (pe_un ho ha) fun σ H Q hq9=>?_
 obtain ⟨ρ,μ,Q0,hS,hM,h,cl⟩:=hq9
 exact ⟨ρ,μ,_,hS,hM,h,fun e μ1 v H1 q M1 s1 i1=>⟨μ1,e,Q0,M1,i1,q,cl.same s1⟩⟩
def rdI (C:Int->Int->Prop) (g:Int->Int->PyData):R2d:=fun x y μ Q=>match x,y with
 | .d (.int i),.d (.int j)=>C i j/\Q (.d (g i j)) μ
 | _,_=>False
def qej (g:Int->Int->PyData):R2d:=fun x y μ Q=>match x,y with
 | .d (.int i),.d (.int j)=>Q (.d (g i j)) μ
 | _,_=>False
def rdU (g:Int->PyData):R1d:=fun x μ Q=>match x with
 | .d (.int i)=>Q (.d (g i)) μ
 | _=>False
theorem qb7 {C:Int->Int->Prop}{g:Int->Int->Int}{x y:V}{H:Hp}{Q:VK}(h:upR K (rdI C fun i j=>.int (g i j)) x y H Q):rI C (fun i j=>.int (g i j)) x y H Q:=by
 obtain ⟨μ,e,e',Q0,M,i1,i2,q,cl⟩:=h
 unfold rdI at q
 split at q
 ·cases i1;cases i2
  exact ⟨_,_,rfl,rfl,q.1,cl _ μ _ H q.2 M (ye.refl _) (.int _)⟩
 ·exact q.elim
theorem qfA {g:Int->Int->Int}{x y:V}{H:Hp}{Q:VK}(h:upR K (qej fun i j=>.int (g i j)) x y H Q):rI0 (fun i j=>.int (g i j)) x y H Q:=by
 obtain ⟨μ,e,e',Q0,M,i1,i2,q,cl⟩:=h
 unfold qej at q
 split at q
 ·cases i1;cases i2
  exact ⟨_,_,rfl,rfl,cl _ μ _ H q M (ye.refl _) (.int _)⟩
 ·exact q.elim
theorem qaM {g:Int->Int->Bool}{x y:V}{H:Hp}{Q:VK}(h:upR K (qej fun i j=>.bool (g i j)) x y H Q):rI0 (fun i j=>.bl (g i j)) x y H Q:=by
 obtain ⟨μ,e,e',Q0,M,i1,i2,q,cl⟩:=h
 unfold qej at q
 split at q
 ·cases i1;cases i2
  exact ⟨_,_,rfl,rfl,cl _ μ _ H q M (ye.refl _) (.bl _)⟩
 ·exact q.elim
theorem yw:OpR X (binaryOp .Add) (upR K (qej fun i j=>.int (i+j))):=qcT.mono fun _ _ _ _=>qfA
theorem yA:OpR X (binaryOp .Sub) (upR K (qej fun i j=>.int (i - j))):=qjt.mono fun _ _ _ _=>qfA
theorem Ji:OpR X (binaryOp .Mult) (upR K (rdI qir fun i j=>.int (i * j))):=qav.mono fun _ _ _ _=>qb7
theorem qdH:OpR X (binaryOp .Mod) (upR K (rdI (fun _ j=>0<j) fun i j=>.int (i % j))):=ZL.mono fun _ _ _ _=>qb7
theorem YQ:OpR X (binaryOp .Pow) (upR K (rdI CPow fun i j=>.int (i ^ j.toNat))):=qju.mono fun _ _ _ _=>qb7
theorem Yb:OpR X (compareOp .Lt) (upR K (qej fun i j=>.bool (decide (i<j)))):=op_lt.mono fun _ _ _ _=>qaM
theorem qhZ:OpR X (compareOp .LtE) (upR K (qej fun i j=>.bool (decide (i<=j)))):=op_le.mono fun _ _ _ _=>qaM
theorem Zd:OpR X (compareOp .Gt) (upR K (qej fun i j=>.bool (decide (j<i)))):=qjw.mono fun _ _ _ _=>qaM
theorem qh0:OpR X (compareOp .GtE) (upR K (qej fun i j=>.bool (decide (j<=i)))):=op_ge.mono fun _ _ _ _=>qaM
theorem jm:UnR X (unaryOp .USub) (upU K (rdU fun i=>.int (-i))):=qiC.mono fun x H Q h=>by
 obtain ⟨μ,e,Q0,M,i1,q,cl⟩:=h
 unfold rdU at q
 split at q
 ·cases i1
  exact ⟨_,rfl,cl _ μ _ H q M (ye.refl _) (.int _)⟩
 ·exact q.elim
inductive LstOf (μ:Mu):En->List PyData->Prop
 | d (ds:List PyData):LstOf μ (.d (.list ds)) ds
 | m {a:Addr}{ds:List PyData}(h:(a,.lst ds)∈μ):LstOf μ (.m a) ds
theorem LstOf.get {μ:Mu}{e:En}{ds:List PyData}{H:Hp}{v:V}(h:LstOf μ e ds) (M:RelM K μ H) (i:IsE K μ H v e):∃ p xs,v = .ref p/\SqL K H p xs/\IsAll K (mask μ H) xs ds:=by
 cases h with
 | d ds =>
  cases i with
  | lst h hs=>exact ⟨_,_,rfl,ye.seq yL h,hs⟩
 | m h =>
  obtain ⟨xs,e,hs⟩:=M.ob _ _ h
  exact ⟨_,xs,i,SqL.of e,hs⟩
inductive DatOf (μ:Mu):En->PyData->Prop
 | d (x:PyData):DatOf μ (.d x) x
 | m {a:Addr}{ds:List PyData}(h:(a,.lst ds)∈μ):DatOf μ (.m a) (.list ds)
theorem DatOf.is {μ:Mu}{e:En}{x:PyData}{H:Hp}{v:V}(h:DatOf μ e x) (M:RelM K μ H) (i:IsE K μ H v e):Is K H v x:=by
 cases h with
 | d x=>exact Is.same yL i
 | m h =>
  obtain ⟨xs,e,hs⟩:=M.ob _ _ h
  have i:v=_:=i
  subst i
  exact .lst (SqL.of e) (IsAll.same yL hs)
def qkT (neg:Bool):R2d:=fun x y μ Q=>match x,y with
 | .d (.int i),.d (.int j)=>Q (.d (.bool (if neg then !decide (i=j) else decide (i=j)))) μ
 | _,_=>∃ d d',DatOf μ x d/\DatOf μ y d'/\SeqAt.shaped d=true/\SeqAt.shaped d'=true/\Q (.d (.bool (if neg then !PyData.eqv d d' else PyData.eqv d d'))) μ
theorem qhX (i j:Int):PyData.eqv (.int i) (.int j)=decide (i=j):=by
 by_cases h:i=j <;> simp [PyData.eqv,h]
theorem qa2 {neg:Bool}{x y:En}{μ:Mu}{Q:En->Mu->Prop}(h:qkT neg x y μ Q):∃ d d',DatOf μ x d/\DatOf μ y d'/\SeqAt.shaped d=true/\SeqAt.shaped d'=true/\Q (.d (.bool (if neg then !PyData.eqv d d' else PyData.eqv d d'))) μ:=by
 unfold qkT at h
 split at h
 ·exact ⟨_,_,.d _,.d _,rfl,rfl,by rw [qhX];exact h⟩
 ·exact h
theorem Yc (hu:X.A.units+64<cLine) (hK:X.K=K:=by rfl):OpR X (compareOp .Eq) (upR K (qkT false)):=by
 subst hK
 refine (qjx hu).mono fun x y H Q h=>?_
 obtain ⟨μ,e,e',Q0,M,i1,i2,q,cl⟩:=h
 obtain ⟨d,d',h1,h2,h3,h4,q⟩:=qa2 q
 exact ⟨d,d',h1.is M i1,h2.is M i2,h3,h4,cl _ μ _ H q M (ye.refl _) (.bl _)⟩
theorem Ya (hu:X.A.units+64<cLine) (hK:X.K=K:=by rfl):OpR X (compareOp .NotEq) (upR K (qkT true)):=by
 subst hK
 refine (qjv hu).mono fun x y H Q h=>?_
 obtain ⟨μ,e,e',Q0,M,i1,i2,q,cl⟩:=h
 obtain ⟨d,d',h1,h2,h3,h4,q⟩:=qa2 q
 exact ⟨d,d',h1.is M i1,h2.is M i2,h3,h4,cl _ μ _ H q M (ye.refl _) (.bl _)⟩
def dAnd (t u:TTd):TTd:=fun ρ μ Q=>t ρ μ fun k μ1=>if k=true then u ρ μ1 Q else Q false μ1
def dOr (t u:TTd):TTd:=fun ρ μ Q=>t ρ μ fun k μ1=>if k=true then Q true μ1 else u ρ μ1 Q
def dNot (t:TTd):TTd:=fun ρ μ Q=>t ρ μ fun k μ1=>Q (!k) μ1
variable {tA tB:TTd}{yY:List Expr}
theorem Js (ha:DT K X a tA):DW K X (.BoolOp .And [a] pos) tA:=qg8 ha
theorem qbj (ha:DT K X a tA):DW K X (.BoolOp .Or [a] pos) tA:=qi8 ha
theorem J5 (ha:DT K X a tA) (hb:DW K X (.BoolOp .And (b::yY) pos) tB):DW K X (.BoolOp .And (a::b::yY) pos) (dAnd tA tB):=by
 refine PW.mono (qi9 ha hb) fun σ H Q hq9=>?_
 obtain ⟨ρ,μ,Q0,hS,hM,h,cl⟩:=hq9
 refine ⟨ρ,μ,_,hS,hM,h,fun k μ1 H1 q M1 s1=>?_⟩
 cases k with
 | true=>exact ⟨ρ,μ1,Q0,hS.same s1,M1,by simpa using q,cl.same s1⟩
 | false=>exact cl _ μ1 H1 (by simpa using q) M1 s1
theorem qdC (ha:DT K X a tA) (hb:DW K X (.BoolOp .Or (b::yY) pos) tB):DW K X (.BoolOp .Or (a::b::yY) pos) (dOr tA tB):=by
 refine PW.mono (pw_or ha hb) fun σ H Q hq9=>?_
 obtain ⟨ρ,μ,Q0,hS,hM,h,cl⟩:=hq9
 refine ⟨ρ,μ,_,hS,hM,h,fun k μ1 H1 q M1 s1=>?_⟩
 cases k with
 | false=>exact ⟨ρ,μ1,Q0,hS.same s1,M1,by simpa using q,cl.same s1⟩
 | true=>exact cl _ μ1 H1 (by simpa using q) M1 s1
theorem qdD (h:DW K X a tA):DT K X a tA:=PW.pt h
theorem qdE (ha:DT K X a tA):DT K X (.UnaryOp .Not a pos) (dNot tA):=PT.mono (qjc ha) fun σ H Q ⟨ρ,μ,Q0,hS,hM,h,cl⟩=>⟨ρ,μ,_,hS,hM,h,fun k μ1 H1 q M1 s1=>cl _ μ1 H1 q M1 s1⟩
def dAndV (ta tb:TEd):TEd:=fun ρ μ Q=>ta ρ μ fun x μ1=>match x with
 | .d (.bool k)=>if k=true then tb ρ μ1 Q else Q (.d (.bool false)) μ1
 | _=>False
def dNotV (ta:TEd):TEd:=fun ρ μ Q=>ta ρ μ fun x μ1=>match x with
 | .d (.bool k)=>Q (.d (.bool (!k))) μ1
 | _=>False
theorem qh6 {op} {t:TEd}(h:DE K X a t):DE K X (.BoolOp op [a] pos) t:=qjm h
theorem qfj (ha:DE K X a ta) (hb:DE K X (.BoolOp .And (b::yY) pos) tb):DE K X (.BoolOp .And (a::b::yY) pos) (dAndV ta tb):=by
 refine PE.mono (qjq ha hb) fun σ H Q hq9=>?_
 obtain ⟨ρ,μ,Q0,hS,hM,h,cl⟩:=hq9
 refine ⟨ρ,μ,_,hS,hM,h,fun e μ1 v H1 q M1 s1 i1=>?_⟩
 split at q
 ·rename_i k
  cases i1
  refine ⟨k,rfl,?_⟩
  cases k with
  | true=>exact qhL ⟨ρ,μ1,Q0,hS.same s1,M1,by simpa using q,cl.same s1⟩
  | false=>exact qah (cl (.d (.bool false)) μ1 _ H1 (by simpa using q) M1 s1 (Is.bl _))
 ·exact q.elim
theorem d_not (ha:DE K X a ta):DE K X (.UnaryOp .Not a pos) (dNotV ta):=by
 refine PE.mono (qjn ha) fun σ H Q hq9=>?_
 obtain ⟨ρ,μ,Q0,hS,hM,h,cl⟩:=hq9
 refine ⟨ρ,μ,_,hS,hM,h,fun e μ1 v H1 q M1 s1 i1=>?_⟩
 split at q
 ·cases i1
  exact ⟨_,rfl,cl _ μ1 _ H1 q M1 s1 (.bl _)⟩
 ·exact q.elim
def dIf (t:TTd) (ta tb:TEd):TEd:=fun ρ μ Q=>t ρ μ fun k μ1=>if k=true then ta ρ μ1 Q else tb ρ μ1 Q
theorem qdP (hc:DT K X c tA) (ha:DE K X a ta) (hb:DE K X b tb):DE K X (.IfExp c a b pos) (dIf tA ta tb):=by
 refine PE.mono (qeN hc ha hb) fun σ H Q hq9=>?_
 obtain ⟨ρ,μ,Q0,hS,hM,h,cl⟩:=hq9
 refine ⟨ρ,μ,_,hS,hM,h,fun k μ1 H1 q M1 s1=>?_⟩
 cases k with
 | true=>exact qhL ⟨ρ,μ1,Q0,hS.same s1,M1,by simpa using q,cl.same s1⟩
 | false=>exact qah ⟨ρ,μ1,Q0,hS.same s1,M1,by simpa using q,cl.same s1⟩
variable {es:List Expr}{tr:TAd}
def dNil:TAd:=fun _ μ Q=>Q [] μ
def dCons (ta:TEd) (tr:TAd):TAd:=fun ρ μ Q=>ta ρ μ fun x μ1=>tr ρ μ1 fun xs μ2=>Q (x::xs) μ2
theorem qd:DA K X [] dNil:=PA.mono qjr fun σ H Q ⟨ρ,μ,Q0,hS,hM,h,cl⟩=>cl _ μ _ H h hM (ye.refl _) .nil
theorem qa (ha:DE K X a ta) (hr:DA K X es tr) (hs:starEach (a::es) X.env=(false,eval a X.env)::starEach es X.env:=by rfl):DA K X (a::es) (dCons ta tr):=by
 refine PA.mono (qhp ha hr hs) fun σ H Q hq9=>?_
 obtain ⟨ρ,μ,Q0,hS,hM,h,cl⟩:=hq9
 refine ⟨ρ,μ,_,hS,hM,h,fun e μ1 v H1 q M1 s1 i1=>⟨ρ,μ1,_,hS.same s1,M1,q,fun es' μ2 vs H2 q2 M2 s2 i2=>?_⟩⟩
 exact cl _ μ2 _ H2 q2 M2 (s1.trans s2) (.cons (i1.same s2) i2)
def qim:List En->Option (List PyData)
 | []=>some []
 | .d x::r=>(qim r).map (x::·)
 | _::_=>none
theorem Zo {μ:Mu}{H:Hp}:∀ {es:List En}{ds:List PyData}{vs:List V},qim es=some ds->Paired (IsE K μ H) vs es->IsAll K (mask μ H) vs ds
 | [],_,_,e,.nil=>by cases e;exact .nil
 | .d x::r,_,_,e,.cons h t=>by
  simp only [qim] at e
  cases q:qim r with
  | none=>rw [q] at e;cases e
  | some ds'=>rw [q] at e;cases e;exact .cons h (Zo q t)
 | .m a::r,_,_,e,_=>by cases e
 | .x a::r,_,_,e,_=>by cases e
 | .ty a::r,_,_,e,_=>by cases e
def dTup (tr:TAd):TEd:=fun ρ μ Q=>tr ρ μ fun es μ1=>match qim es with
 | some ds=>ds.length<=4000/\Q (.d (.tuple ds)) μ1
 | none=>False
def dLst (tr:TAd):TEd:=fun ρ μ Q=>tr ρ μ fun es μ1=>match qim es with
 | some ds=>ds.length<=4000/\Q (.d (.list ds)) μ1
 | none=>False
theorem yl {x1} (h:DA K X es tr):DE K X (.Tuple es x1 pos) (dTup tr):=by
 refine PE.mono (qjk h) fun σ H Q hq9=>?_
 obtain ⟨ρ,μ,Q0,hS,hM,h,cl⟩:=hq9
 refine ⟨ρ,μ,_,hS,hM,h,fun es' μ1 vs H1 q M1 s1 i1=>?_⟩
 split at q
 ·rename_i ds e
  have hA:=Zo e i1
  refine ⟨yx (yP (by rw [hA.len];exact q.1)),fun p hp=>?_⟩
  obtain ⟨M2,s2,hn⟩:=M1.laid (o:=.tup vs) hp
  exact cl _ μ1 _ _ q.2 M2 (s1.trans s2) (.tup (SqT.of (by rw [yH hn];exact yd)) (IsAll.same s2 hA))
 ·exact q.elim
theorem qfh (h:DA K X es tr):DE K X (.List es pos) (dLst tr):=by
 refine PE.mono (qgf h) fun σ H Q hq9=>?_
 obtain ⟨ρ,μ,Q0,hS,hM,h,cl⟩:=hq9
 refine ⟨ρ,μ,_,hS,hM,h,fun es' μ1 vs H1 q M1 s1 i1=>?_⟩
 split at q
 ·rename_i ds e
  have hA:=Zo e i1
  refine ⟨yx (yP (by rw [hA.len];exact q.1)),fun p hp=>?_⟩
  obtain ⟨M2,s2,hn⟩:=M1.laid (o:=.lst vs) hp
  exact cl _ μ1 _ _ q.2 M2 (s1.trans s2) (.lst (SqL.of (by rw [yH hn];exact yd)) (IsAll.same s2 hA))
 ·exact q.elim
def dLstM (tr:TAd):TEd:=fun ρ μ Q=>tr ρ μ fun es μ1=>match qim es with
 | some ds=>ds.length<=4000/\∀ p,p∉μ1.map Prod.fst->Q (.m p) ((p,.lst ds)::μ1)
 | none=>False
theorem qgx (h:DA K X es tr):DE K X (.List es pos) (dLstM tr):=by
 refine PE.mono (qgf h) fun σ H Q hq9=>?_
 obtain ⟨ρ,μ,Q0,hS,hM,h,cl⟩:=hq9
 refine ⟨ρ,μ,_,hS,hM,h,fun es' μ1 vs H1 q M1 s1 i1=>?_⟩
 split at q
 ·rename_i ds e
  have hA:=Zo e i1
  refine ⟨yx (yP (by rw [hA.len];exact q.1)),fun p hp=>?_⟩
  obtain ⟨_,_,hn⟩:=M1.laid (o:=.lst vs) hp
  obtain ⟨M2,s2⟩:=M1.new (u:=.lst vs) (o:=.lst ds) hp fun ss=>⟨vs,yd,IsAll.same ss hA⟩
  exact cl _ _ _ _ (q.2 p hn) M2 (s1.trans s2) rfl
 ·exact q.elim
end
theorem IsAll.atI {K:W.Frag}{H:Hp}{vs:List V}{ds:List PyData}{i:Int}{z:PyData}(h:IsAll K H vs ds) (e:L2.atI ds i=some z):∃ v,L2.atI vs i=some v/\Is K H v z:=by
 unfold L2.atI at *
 rw [h.len]
 cases q:ixN ds.length i with
 | none=>rw [q] at e;cases e
 | some j =>
  rw [q] at e
  obtain ⟨v,e1,e2⟩:=h.get' (i:=j) e
  exact ⟨v,e1,e2⟩
section
variable {X:Cx}{K:W.Frag}{a b c:Expr}{ta tb tc:TEd}{tA tB:TTd}{pos:Pos}{es:List Expr}{tr:TAd}
def qi0:R2d:=fun x y μ Q=>match y with
 | .d (.int i)=>∃ ds z,LstOf μ x ds/\atI ds i=some z/\Q (.d z) μ
 | _=>False
def qiZ:R2d:=fun x y μ Q=>match x,y with
 | .d (.tuple ds),.d (.int i)=>∃ z,atI ds i=some z/\Q (.d z) μ
 | _,_=>False
theorem qhY (hK:X.K=K:=by rfl):IxR X (upR K qi0):=by
 subst hK
 refine Jq.mono fun x y H Q h=>?_
 obtain ⟨μ,e,e',Q0,M,i1,i2,q,cl⟩:=h
 unfold qi0 at q
 split at q
 ·obtain ⟨ds,z,h1,h2,q⟩:=q
  cases i2
  obtain ⟨p,xs,rfl,h3,h4⟩:=h1.get M i1
  obtain ⟨v,e1,e2⟩:=h4.atI h2
  exact ⟨p,xs,_,v,rfl,rfl,h3,e1,cl _ μ v H q M (ye.refl _) e2⟩
 ·exact q.elim
theorem qkh (hK:X.K=K:=by rfl):IxR X (upR K qiZ):=by
 subst hK
 refine qj3.mono fun x y H Q h=>?_
 obtain ⟨μ,e,e',Q0,M,i1,i2,q,cl⟩:=h
 unfold qiZ at q
 split at q
 ·obtain ⟨z,h2,q⟩:=q
  cases i2
  have i1':=Is.same yL (show Is X.K (mask μ H) x _ from i1)
  cases i1 with
  | tup h3 h4 =>
   obtain ⟨v,e1,e2⟩:=h4.atI h2
   cases i1' with
   | tup h5 h6 =>
    refine ⟨_,_,_,v,rfl,rfl,?_,e1,cl _ μ v H q M (ye.refl _) e2⟩
    rcases h3 with (e | ⟨o,e⟩) | e
    ·exact .inl (.inl (yL _ _ e))
    ·exact .inl (.inr ⟨o,yL _ _ e⟩)
    ·exact .inr e
 ·exact q.elim
theorem y8 {r:R2d}(hr:IxR X (upR K r)) (ha:DE K X a ta) (hb:DE K X b tb) (hs:qed b):DE K X (.Subscript a b pos) (dOp r ta tb):=PE.mono (qas hr ha hb hs) fun _ _ _=>qgO
def Zq (xs:List PyData) (lo hi:Option Int):List PyData:=(xs.drop (HT.sIx xs.length 0 lo)).take (HT.sIx xs.length xs.length hi - HT.sIx xs.length 0 lo)
theorem IsAll.cut {H:Hp}{vs:List V}{ds:List PyData}{lo hi:Option Int}(h:IsAll K H vs ds):IsAll K H (qib vs lo hi) (Zq ds lo hi):=by
 unfold qib Zq
 rw [h.len]
 exact (h.drop _).take _
abbrev TOd:=Rho->Mu->(Option Int->Mu->Prop)->Prop
def upO (K:W.Frag) (t:TOd):TO:=fun σ H Q=>∃ ρ μ Q0,RelS K ρ μ σ H/\RelM K μ H/\t ρ μ Q0/\∀ o μ' H',Q0 o μ'->RelM K μ' H'->ye (mask μ H) (mask μ' H')->Q o H'
def DO (K:W.Frag) (X:Cx) (e:Option Expr) (t:TOd):Prop:=PO X e (upO K t)
theorem PO.mono {e:Option Expr}{t t':TO}(h:PO X e t) (f:∀ σ H Q,t' σ H Q->t σ H Q):PO X e t':=fun pins s σ H Q I q=>h pins s σ H Q I (f _ _ _ q)
def qh8:TOd:=fun _ μ Q=>Q none μ
def dPart (t:TEd):TOd:=fun ρ μ Q=>t ρ μ fun x μ1=>match x with
 | .d (.int i)=>Q (some i) μ1
 | _=>False
theorem JY:DO K X none qh8:=PO.mono qhe fun σ H Q ⟨ρ,μ,Q0,hS,hM,h,cl⟩=>cl none μ H h hM (ye.refl _)
theorem JX (h:DE K X a ta):DO K X (some a) (dPart ta):=PO.mono (qhd h) fun σ H Q ⟨ρ,μ,Q0,hS,hM,h,cl⟩=>⟨ρ,μ,_,hS,hM,h,fun e μ1 v H1 q M1 s1 i1=>by
 split at q
 ·cases i1;exact ⟨_,rfl,cl _ μ1 H1 q M1 s1⟩
 ·exact q.elim⟩
def dSl (r:En->Option Int->Option Int->Mu->(En->Mu->Prop)->Prop) (te:TEd) (tl th:TOd):TEd:=fun ρ μ Q=>te ρ μ fun x μ1=>tl ρ μ1 fun l μ2=>th ρ μ2 fun u μ3=>r x l u μ3 Q
def rdSlL:En->Option Int->Option Int->Mu->(En->Mu->Prop)->Prop:=fun x l u μ Q=>∃ ds,LstOf μ x ds/\Q (.d (.list (Zq ds l u))) μ
theorem JZ {lo hi:Option Expr}{p2:Pos}{tl th:TOd}(ha:DE K X a ta) (hl:DO K X lo tl) (hu:DO K X hi th) (hK:X.K=K:=by rfl):DE K X (.Subscript a (.Slice lo hi none p2) pos) (dSl rdSlL ta tl th):=by
 subst hK
 refine PE.mono (qeM qgY ha hl hu) fun σ H Q hq9=>?_
 obtain ⟨ρ,μ,Q0,hS,hM,h,cl⟩:=hq9
 refine ⟨ρ,μ,_,hS,hM,h,fun e μ1 v H1 q1 M1 s1 i1=>⟨ρ,μ1,_,hS.same s1,M1,q1,fun l μ2 H2 q2 M2 s2=>⟨ρ,μ2,_,hS.same (s1.trans s2),M2,q2,fun u μ3 H3 q3 M3 s3=>?_⟩⟩⟩
 obtain ⟨ds,h1,q⟩:=q3
 have i3:=i1.same (s2.trans s3)
 obtain ⟨p,xs,rfl,h3,h4⟩:=h1.get M3 i3
 refine ⟨p,xs,rfl,h3,fun l hl=>?_⟩
 obtain ⟨M4,s4,hn⟩:=M3.laid (o:=.lst (qib xs _ _)) hl
 exact cl _ _ _ _ q M4 ((s1.trans s2).trans (s3.trans s4)) (.lst (SqL.of (by rw [yH hn];exact yd)) (IsAll.same s4 h4.cut))
def dCB (r:RAd) (tr:TAd):TEd:=fun ρ μ Q=>tr ρ μ fun es μ1=>r es μ1 Q
theorem qiB {r:RAd}{σ:St}{H:Hp}{Q:VK}(h:up K (dCB r tr) σ H Q):tCB (upC K r) (upA K tr) σ H Q:=by
 obtain ⟨ρ,μ,Q0,hS,hM,h,cl⟩:=h
 exact ⟨ρ,μ,_,hS,hM,h,fun es μ1 vs H1 q M1 s1 i1=>⟨μ1,es,Q0,M1,i1,q,cl.same s1⟩⟩
theorem qO {id:String}{x:Str}{r:RAd}{e:Expr}{p:Pos}(hc:yu X (.builtin id) (upC K r)) (hg:Gl X x) (hm:X.mg x=none) (hv:bootBuiltins x=some (.builtin id)) (ha:DA K X (e::es) tr) (hn:x ≠ "__name__" := by decide) (hdb:(x == ("__debug__" : Str))=false:=by decide)
  (he:starEach (e::es) X.env=(false,eval e X.env)::starEach es X.env:=by rfl) (hpl:(backTo pos (starEach es X.env)).any (·.1)=false:=by rfl):DE K X (.Call (.Name x p) (e::es) [] pos) (dCB r tr):=PE.mono (qeO hc hg hm hv ha hn hdb he hpl) fun _ _ _=>qiB
theorem JE {T:String}{x:Str}{r:RAd}{e:Expr}{p:Pos}(hc:yu X (.type T) (upC K r)) (hg:Gl X x) (hm:X.mg x=none) (hv:bootBuiltins x=some (.type T)) (ha:DA K X (e::es) tr) (hn:x ≠ "__name__" := by decide) (hdb:(x == ("__debug__" : Str))=false:=by decide)
  (he:starEach (e::es) X.env=(false,eval e X.env)::starEach es X.env:=by rfl) (hpl:(backTo pos (starEach es X.env)).any (·.1)=false:=by rfl):DE K X (.Call (.Name x p) (e::es) [] pos) (dCB r tr):=PE.mono (qcQ hc hg hm hv ha hn hdb he hpl) fun _ _ _=>qiB
theorem Jp {μ:Mu}{H:Hp}{vs:List V}{e:En}(h:Paired (IsE K μ H) vs [e]):∃ v,vs=[v]/\IsE K μ H v e:=by
 cases h with | cons a b=>cases b;exact ⟨_,rfl,a⟩
theorem qau {μ:Mu}{H:Hp}{vs:List V}{e e':En}(h:Paired (IsE K μ H) vs [e,e']):∃ v v',vs=[v,v']/\IsE K μ H v e/\IsE K μ H v' e':=by
 cases h with | cons a b=>cases b with | cons c d=>cases d;exact ⟨_,_,rfl,a,c⟩
def qi6:RAd:=fun es μ Q=>match es with
 | [.d (.int i)]=>Q (.d (.int (i.natAbs:Int))) μ
 | _=>False
theorem JD:yu X (.builtin "abs") (upC K qi6):=qfp.mono fun xs H Q h=>by
 obtain ⟨μ,es,Q0,M,hp,q,cl⟩:=h
 unfold qi6 at q
 split at q
 ·rename_i i
  obtain ⟨v,rfl,i1⟩:=Jp hp
  cases i1
  have e:(if i<0 then -i else i)=(i.natAbs:Int):=by split <;> omega
  exact ⟨_,rfl,by rw [e];exact cl _ μ _ H q M (ye.refl _) (.int _)⟩
 ·exact q.elim
def qkU (g:Int->Int->Int):RAd:=fun es μ Q=>match es with
 | [.d (.int i),.d (.int j)]=>Q (.d (.int (g i j))) μ
 | _=>False
theorem Z3 (hc:X.calm=true):yu X (.builtin "max") (upC K (qkU fun i j=>if i<j then j else i)):=(qd2 hc).mono fun xs H Q h=>by
 obtain ⟨μ,es,Q0,M,hp,q,cl⟩:=h
 unfold qkU at q
 split at q
 ·obtain ⟨v,v',rfl,i1,i2⟩:=qau hp
  cases i1;cases i2
  exact ⟨_,_,rfl,cl _ μ _ H q M (ye.refl _) (.int _)⟩
 ·exact q.elim
theorem qdM (hc:X.calm=true):yu X (.builtin "min") (upC K (qkU fun i j=>if j<i then j else i)):=(qd0 hc).mono fun xs H Q h=>by
 obtain ⟨μ,es,Q0,M,hp,q,cl⟩:=h
 unfold qkU at q
 split at q
 ·obtain ⟨v,v',rfl,i1,i2⟩:=qau hp
  cases i1;cases i2
  exact ⟨_,_,rfl,cl _ μ _ H q M (ye.refl _) (.int _)⟩
 ·exact q.elim
def qi2:RAd:=fun es μ Q=>match es with
 | [.d (.int i)]=>Q (.d (.int i)) μ
 | [.d (.bool k)]=>Q (.d (.int (if k=true then 1 else 0))) μ
 | _=>False
theorem qkl:yu X (.type "int") (upC K qi2):=qd3.mono fun xs H Q h=>by
 obtain ⟨μ,es,Q0,M,hp,q,cl⟩:=h
 unfold qi2 at q
 split at q
 ·obtain ⟨v,rfl,i1⟩:=Jp hp
  cases i1
  exact .inl ⟨_,rfl,cl _ μ _ H q M (ye.refl _) (.int _)⟩
 ·obtain ⟨v,rfl,i1⟩:=Jp hp
  cases i1
  exact .inr ⟨_,rfl,cl _ μ _ H q M (ye.refl _) (.int _)⟩
 ·exact q.elim
inductive SeqOf (μ:Mu):En->List PyData->Prop
 | l {e:En}{ds:List PyData}(h:LstOf μ e ds):SeqOf μ e ds
 | t (ds:List PyData):SeqOf μ (.d (.tuple ds)) ds
theorem SeqOf.get {μ:Mu}{e:En}{ds:List PyData}{H:Hp}{v:V}(h:SeqOf μ e ds) (M:RelM K μ H) (i:IsE K μ H v e):∃ p xs,v = .ref p/\(SqL K H p xs\/SqT K H p xs)/\IsAll K (mask μ H) xs ds:=by
 cases h with
 | l h=>obtain ⟨p,xs,h1,h2,h3⟩:=h.get M i;exact ⟨p,xs,h1,.inl h2,h3⟩
 | t ds =>
  cases i with
  | tup h hs =>
   refine ⟨_,_,rfl,.inr ?_,hs⟩
   rcases h with (e | ⟨o,e⟩) | e
   ·exact .inl (.inl (yL _ _ e))
   ·exact .inl (.inr ⟨o,yL _ _ e⟩)
   ·exact .inr e
def qiY:RAd:=fun es μ Q=>match es with
 | [e]=>∃ ds,SeqOf μ e ds/\Q (.d (.int (ds.length:Int))) μ
 | _=>False
theorem J7 (hK:X.K=K:=by rfl):yu X (.builtin "len") (upC K qiY):=by
 subst hK
 refine Z9.mono fun xs H Q h=>?_
 obtain ⟨μ,es,Q0,M,hp,q,cl⟩:=h
 unfold qiY at q
 split at q
 ·obtain ⟨v,rfl,i1⟩:=Jp hp
  obtain ⟨ds,h1,q⟩:=q
  obtain ⟨p,ys,rfl,h2,h3⟩:=h1.get M i1
  exact ⟨p,ys,rfl,h2,by rw [h3.len];exact cl _ μ _ H q M (ye.refl _) (.int _)⟩
 ·exact q.elim
def qga:RAd:=fun es μ Q=>match es with
 | [e]=>∃ ds,SeqOf μ e ds/\Q (.d (.list ds)) μ
 | _=>False
theorem qdN (hK:X.K=K:=by rfl):yu X (.type "list") (upC K qga):=by
 subst hK
 refine Z8.mono fun xs H Q h=>?_
 obtain ⟨μ,es,Q0,M,hp,q,cl⟩:=h
 unfold qga at q
 split at q
 ·obtain ⟨v,rfl,i1⟩:=Jp hp
  obtain ⟨ds,h1,q⟩:=q
  obtain ⟨p,ys,rfl,h2,h3⟩:=h1.get M i1
  refine ⟨p,ys,rfl,h2,fun l hl=>?_⟩
  obtain ⟨M4,s4,hn⟩:=M.laid (o:=.lst ys) hl
  exact cl _ μ _ _ q M4 s4 (.lst (SqL.of (by rw [yH hn];exact yd)) (IsAll.same s4 h3))
 ·exact q.elim
def qcA:RAd:=fun es μ Q=>match es with
 | [e]=>∃ ds,LstOf μ e ds/\Q (.d (.tuple ds)) μ
 | _=>False
theorem qff (hK:X.K=K:=by rfl):yu X (.type "tuple") (upC K qcA):=by
 subst hK
 refine Zh.mono fun xs H Q h=>?_
 obtain ⟨μ,es,Q0,M,hp,q,cl⟩:=h
 unfold qcA at q
 split at q
 ·obtain ⟨v,rfl,i1⟩:=Jp hp
  obtain ⟨ds,h1,q⟩:=q
  obtain ⟨p,ys,rfl,h2,h3⟩:=h1.get M i1
  refine ⟨p,ys,rfl,.inl ⟨h2,fun l hl=>?_⟩⟩
  obtain ⟨M4,s4,hn⟩:=M.laid (o:=.tup ys) hl
  exact cl _ μ _ _ q M4 s4 (.tup (SqT.of (by rw [yH hn];exact yd)) (IsAll.same s4 h3))
 ·exact q.elim
def qi5 (f:List Bool->Bool):RAd:=fun es μ Q=>match es with
 | [e]=>∃ bs,LstOf μ e (bs.map PyData.bool)/\Q (.d (.bool (f bs))) μ
 | _=>False
theorem qdO (hc:X.calm=true) (hK:X.K=K:=by rfl):yu X (.builtin "all") (upC K (qi5 fun bs=>bs.all id)):=by
 subst hK
 refine (qfo hc).mono fun xs H Q h=>?_
 obtain ⟨μ,es,Q0,M,hp,q,cl⟩:=h
 unfold qi5 at q
 split at q
 ·obtain ⟨v,rfl,i1⟩:=Jp hp
  obtain ⟨bs,h1,q⟩:=q
  obtain ⟨p,ys,rfl,h2,h3⟩:=h1.get M i1
  rw [h3.bools_of] at h2
  exact ⟨p,bs,rfl,h2,cl _ μ _ H q M (ye.refl _) (.bl _)⟩
 ·exact q.elim
def isTy (n:String):PyData->Bool
 | .none=>false
 | .bool _=>n == "bool" || n == "int"
 | .int _=>n == "int"
 | .str _=>n == "str"
 | .list _=>n == "list"
 | .tuple _=>n == "tuple"
 | .dict _=>false
abbrev SpD:=List En->Mu->(En->Mu->Prop)->Prop
def qV (K:W.Frag) (s:SpD):Sp:=fun vs H Q _=>∃ μ es Q0,RelM K μ H/\Paired (IsE K μ H) vs es/\s es μ Q0/\Cl K μ H Q0 Q
theorem qQ {CX:CXT}{k:Nat}{x:Str}{ps:List Str}{s:SpD}{e:Expr}{p:Pos}(O:Own X.prog X.w X.K X.mg X.base CX k x ps (qV K s)) (hX:NoX CX) (hr:Room k X.A) (hg:Gl X x) (ha:DA K X (e::es) tr) (hdb:(x == ("__debug__" : Str))=false:=by decide)
  (he:starEach (e::es) X.env=(false,eval e X.env)::starEach es X.env:=by rfl) (hpl:(backTo pos (starEach es X.env)).any (·.1)=false:=by rfl):DE K X (.Call (.Name x p) (e::es) [] pos) (dCB s tr):=by
 refine PE.mono (qjl O hX hr hg ha hdb he hpl) fun σ H Q hq9=>?_
 obtain ⟨ρ,μ,Q0,hS,hM,h,cl⟩:=hq9
 exact ⟨ρ,μ,_,hS,hM,h,fun es μ1 vs H1 q M1 s1 i1=>⟨μ1,es,Q0,M1,by simpa using i1,q,cl.same s1⟩⟩
theorem IsAll.flat {H H':Hp}:∀ {vs:List V}{ds:List PyData},ds.all (fun | .list _=>false | .dict _=>false | .tuple _=>false | _=>true)=true->IsAll K H vs ds->IsAll K H' vs ds
 | _,[],_,.nil=>.nil
 | _,d::ds,h,.cons a b=>by
  simp only [List.all_cons,Bool.and_eq_true] at h
  refine .cons ?_ (IsAll.flat h.2 b)
  cases a with
  | non=>exact .non
  | bl b=>exact .bl b
  | int i=>exact .int i
  | str x=>exact .str x
  | lst _ _=>exact absurd h.1 (by simp)
  | tup _ _=>exact absurd h.1 (by simp)
  | dc _=>exact absurd h.1 (by simp)
inductive Thaw (a:Addr) (ds:List PyData):List En->List En->Prop
 | nil:Thaw a ds [] []
 | me {es es':List En}:Thaw a ds es es'->Thaw a ds (.m a::es) (.d (.list ds)::es')
 | ot {e:En}{es es':List En}:Thaw a ds es es'->Thaw a ds (e::es) (e::es')
theorem Thaw.is {μ1 μ2:Mu}{a:Addr}{ds:List PyData}{H:Hp}(M:RelM K (μ1++(a,.lst ds)::μ2) H):∀ {es es':List En}{vs:List V},Thaw a ds es es'->Paired (IsE K (μ1++(a,.lst ds)::μ2) H) vs es->Paired (IsE K (μ1++μ2) H) vs es'
 | _,_,_,.nil,.nil=>.nil
 | _,_,_,.me t,.cons i r=>by
  obtain ⟨M',s,hn⟩:=M.drop
  obtain ⟨xs,e,hs⟩:=M.ob a (.lst ds) (by simp)
  refine .cons ?_ (Thaw.is M t r)
  have i:_=V.ref a:=i
  subst i
  exact .lst (SqL.of (by rw [yH hn];exact e)) (IsAll.same s hs)
 | _,_,_,.ot t,.cons i r=>.cons (i.same M.drop.2.1) (Thaw.is M t r)
end
section
variable {X:Cx}{K:W.Frag}{a b c:Expr}{ta tb tc:TEd}{tA tB:TTd}{pos:Pos}{es:List Expr}{tr:TAd}
def tys:List String:=["int", "bool", "str", "list", "tuple"]
theorem qk3 {x:Str}{n:String}{p:Pos}(hg:Gl X x) (hm:X.mg x=none) (hv:bootBuiltins x=some (.type n)) (hn:x ≠ "__name__" := by decide) (hd:(x == ("__debug__" : Str))=false:=by decide):DE K X (.Name x p) (fun _ μ Q=>Q (.ty n) μ) :=
 PE.mono (qho (v:=.ty n) hg hm hv rfl hn hd) fun σ H Q ⟨ρ,μ,Q0,hS,hM,h,cl⟩=>cl _ μ (.ty n) H h hM (ye.refl _) rfl
theorem qfn:yu X (.builtin "isinstance") (fun xs H Q=>∃ x n d,xs=[x,.ty n]/\Is X.K H x d/\n∈tys/\Q (.bl (isTy n d)) H):=by
 intro pins s σ H xs us Q I r h
 obtain ⟨x,n,d,rfl,ty,hn,q⟩:=h
 obtain ⟨u,u',rfl,rx,ry⟩:=qgM r
 cases ry
 have fin:∀ tk,EP X pins σ Q (.bool (isTy n d)) { s with toks:=tk }:=fun tk=>⟨.bl _,H,I.tok _,rfl,q⟩
 have hn:n = "int" \/ n = "bool" \/ n = "str" \/ n = "list" \/ n = "tuple" := by simpa [tys] using hn
 cases ty with
 | non=>cases (show u=Value.none from rx);exact W.kia_one W.kitx_none I.kIn True.intro (by rcases hn with rfl | rfl | rfl | rfl | rfl <;> rfl) (fun z=>nomatch z) fin
 | bl y=>cases (show u=Value.bool y from rx);exact W.kia_one W.kitx_bool I.kIn True.intro (by rcases hn with rfl | rfl | rfl | rfl | rfl <;> rfl) (fun z=>nomatch z) fin
 | int i=>obtain ⟨t,z⟩:=(show ∃ t,u=Value.int i t from rx);cases z;exact W.kia_one W.kitx_int I.kIn True.intro (by rcases hn with rfl | rfl | rfl | rfl | rfl <;> rfl) (fun z=>nomatch z) fin
 | str y=>obtain ⟨t,z⟩:=(show ∃ t,u=Value.str y t from rx);cases z;exact W.kia_one W.kitx_str I.kIn True.intro (by rcases hn with rfl | rfl | rfl | rfl | rfl <;> rfl) (fun z=>nomatch z) fin
 | @lst a xs ds hq _ =>
  cases (show u=Value.ref a from rx)
  obtain ⟨its,_,⟨o,n',h1,h2,_⟩,_⟩:=I.list hq
  exact W.kia_one W.kitx_list I.kIn ⟨o,h1,h2⟩ (by rcases hn with rfl | rfl | rfl | rfl | rfl <;> rfl) (fun z=>nomatch z) fin
 | @dc a hq =>
  cases (show u=Value.ref a from rx)
  obtain ⟨_,_,vs,_,o,es,ep,h1,h2,_⟩:=(show jJ X.prog X.w H s.heap a (.dK []) from I.hok a _ hq)
  exact W.kia_one W.kitx_dict I.kIn ⟨o,h1,h2.1⟩ (by rcases hn with rfl | rfl | rfl | rfl | rfl <;> rfl) (fun z=>nomatch z) fin
 | @tup a xs ds hq _ =>
  cases (show u=Value.ref a from rx)
  obtain ⟨its,_,⟨o,h1,h2,_⟩,_⟩:=I.tuple hq
  exact W.kia_one W.kitx_tuple I.kIn ⟨o,h1,h2⟩ (by rcases hn with rfl | rfl | rfl | rfl | rfl <;> rfl) (fun z=>nomatch z) fin
def qi1:RAd:=fun es μ Q=>match es with
 | [.d x,.ty n]=>n∈tys/\Q (.d (.bool (isTy n x))) μ
 | [.m a,.ty n]=>n∈tys/\∃ ds,(a,.lst ds)∈μ/\Q (.d (.bool (n == "list"))) μ
 | _=>False
theorem qbl (hK:X.K=K:=by rfl):yu X (.builtin "isinstance") (upC K qi1):=by
 subst hK
 refine qfn.mono fun xs H Q h=>?_
 obtain ⟨μ,es,Q0,M,hp,q,cl⟩:=h
 unfold qi1 at q
 split at q
 ·obtain ⟨v,v',rfl,i1,i2⟩:=qau hp
  have i2:v'=_:=i2
  subst i2
  exact ⟨_,_,_,rfl,Is.same yL i1,q.1,cl _ μ _ H q.2 M (ye.refl _) (.bl _)⟩
 ·obtain ⟨v,v',rfl,i1,i2⟩:=qau hp
  have i2:v'=_:=i2
  subst i2
  obtain ⟨hn,ds,hm,q⟩:=q
  have hi:=(DatOf.m hm).is M i1
  exact ⟨_,_,_,rfl,hi,hn,cl _ μ _ H q M (ye.refl _) (.bl _)⟩
 ·exact q.elim
abbrev TGd:=En->Rho->Mu->(Rho->Mu->Prop)->Prop
abbrev qeb:=List PyData->Rho->Mu->(Rho->Mu->Prop)->Prop
def upG (K:W.Frag) (t:TGd):TG:=fun v σ H Q=>∃ e ρ μ Q0,IsE K μ H v e/\RelS K ρ μ σ H/\RelM K μ H/\t e ρ μ Q0/\ClR K μ H Q0 Q
def upGs (K:W.Frag) (t:qeb):TGs:=fun vs σ H Q=>∃ ds ρ μ Q0,IsAll K (mask μ H) vs ds/\RelS K ρ μ σ H/\RelM K μ H/\t ds ρ μ Q0/\ClR K μ H Q0 Q
def DG (K:W.Frag) (X:Cx) (tg:Expr) (t:TGd):Prop:=PG X tg (upG K t)
def DGs (K:W.Frag) (X:Cx) (tg:List Expr) (t:qeb):Prop:=PGs X tg (upGs K t)
theorem PG.mono {tg:Expr}{t t':TG}(h:PG X tg t) (f:∀ v σ H Q,t' v σ H Q->t v σ H Q):PG X tg t':=fun pins s σ H v u Q I r q=>h pins s σ H v u Q I r (f _ _ _ _ q)
theorem PGs.mono {tg:List Expr}{t t':TGs}(h:PGs X tg t) (f:∀ v σ H Q,t' v σ H Q->t v σ H Q):PGs X tg t':=fun pins s σ H v u Q I r q=>h pins s σ H v u Q I r (f _ _ _ _ q)
def Jj (i:Nat):TGd:=fun e ρ μ Q=>Q (ρ.set i (some e)) μ
theorem qy {i:Nat}{x:Str}(hN:X.N.Nodup) (hi:X.N[i]?=some x) (hx:Loc X.env.scope x) (hf:X.fn x=true\/X.env.scope.names.lookup x=some .local:=by first | exact .inl rfl | exact .inr rfl | assumption):DG K X (.Name x pos) (Jj i) :=
 PG.mono (qhj hN hi hx hf) fun v σ H Q ⟨e,ρ,μ,Q0,i1,hS,hM,h,cl⟩=>cl _ μ _ H h (hS.set i1) hM (ye.refl _)
def qfd:qeb:=fun ds ρ μ Q=>match ds with
 | []=>Q ρ μ
 | _=>False
def J6 (t:TGd) (u:qeb):qeb:=fun ds ρ μ Q=>match ds with
 | x::r=>t (.d x) ρ μ fun ρ' μ'=>u r ρ' μ' Q
 | []=>False
theorem yh:DGs K X [] qfd:=PGs.mono qhh fun vs σ H Q ⟨ds,ρ,μ,Q0,i1,hS,hM,h,cl⟩=>by
 unfold qfd at h
 split at h
 ·cases i1;exact ⟨rfl,cl _ μ _ H h hS hM (ye.refl _)⟩
 ·exact h.elim
theorem qw {e:Expr}{es:List Expr}{t:TGd}{u:qeb}(h1:DG K X e t) (h2:DGs K X es u)
  (hs:(assignEach (e::es) X.env).map (·.2)=assign e X.env::(assignEach es X.env).map (·.2):=by rfl):DGs K X (e::es) (J6 t u):=PGs.mono (qeJ h1 h2 hs) fun vs σ H Q ⟨ds,ρ,μ,Q0,i1,hS,hM,h,cl⟩=>by
 unfold J6 at h
 split at h
 ·cases i1 with
  | cons i1 i2 =>
   refine ⟨_,_,rfl,.d _,ρ,μ,_,i1,hS,hM,h,fun ρ' μ' σ' H' q S' M' s'=>?_⟩
   exact ⟨_,ρ',μ',Q0,IsAll.same s' i2,S',M',q,cl.same s'⟩
 ·exact h.elim
def qfc (n:Nat) (t:qeb):TGd:=fun e ρ μ Q=>match e with
 | .d (.tuple ds)=>ds.length=n/\t ds ρ μ Q
 | _=>False
theorem yI {es:List Expr}{k:Nat}{t:qeb}{n:Nat}(hc:X.calm=true) (h:DGs K X es t) (hK:X.K=K:=by rfl)
  (hn:(assignEach es X.env).length=n:=by rfl) (hst:(assignEach es X.env).findIdx? (·.1)=none:=by rfl):DG K X (.Tuple es k pos) (qfc n t):=by
 subst hK
 refine PG.mono (qjj hc h hn hst) fun v σ H Q hq9=>?_
 obtain ⟨e,ρ,μ,Q0,i1,hS,hM,h,cl⟩:=hq9
 unfold qfc at h
 split at h
 ·obtain ⟨p,xs,rfl,hq,hA⟩:=(SeqOf.t _).get hM i1
  cases i1 with
  | tup h1 h2 =>
   refine ⟨_,_,rfl,?_,by rw [h2.len];exact h.1,_,ρ,μ,Q0,h2,hS,hM,h.2,cl⟩
   rcases h1 with (e | ⟨o,e⟩) | e
   ·exact .inl (.inl (yL _ _ e))
   ·exact .inl (.inr ⟨o,yL _ _ e⟩)
   ·exact .inr e
 ·exact h.elim
variable {st:Stmt}{yY:List Stmt}{t u:TSd}{e:Expr}{te:TEd}
def dNext:TSd:=fun D ρ μ=>D.nx ρ μ
def dSeq (t u:TSd):TSd:=fun D ρ μ=>t { D with nx:=u D } ρ μ
theorem yz:DSs K X [] dNext:=PSs.mono qcG fun D σ H ⟨ρ,μ,D0,hS,hM,h,cl⟩=>cl.nx _ μ _ H h hS hM (ye.refl _)
theorem qq (h1:DS K X st t) (h2:DSs K X yY u):DSs K X (st::yY) (dSeq t u):=PSs.mono (Jz h1 h2) fun D σ H ⟨ρ,μ,D0,hS,hM,h,cl⟩ =>
 ⟨ρ,μ,_,hS,hM,h,⟨fun ρ' μ' σ' H' q S' M' s'=>⟨ρ',μ',D0,S',M',q,cl.same s'⟩,cl.rt,cl.bk,cl.ct⟩⟩
theorem qC (h1:DS K X st t):DSs K X [st] t:=qar h1
def dDrop (te:TEd):TSd:=fun D ρ μ=>te ρ μ fun _ μ1=>D.nx ρ μ1
theorem qdG (he:DE K X e te) (hs:swapsWith e none pos.line X.env=pure false:=by rfl):DS K X (.Expr e pos) (dDrop te):=PS.mono (qhc he hs) fun D σ H ⟨ρ,μ,D0,hS,hM,h,cl⟩ =>
 ⟨ρ,μ,_,hS,hM,h,fun e' μ1 v H1 q M1 s1 i1=>cl.nx _ μ1 _ H1 q (hS.same s1) M1 s1⟩
def dRet (te:TEd):TSd:=fun D ρ μ=>te ρ μ D.rt
theorem qN (he:DE K X e te):DS K X (.Return (some e) pos) (dRet te):=PS.mono (qa3 he) fun D σ H ⟨ρ,μ,D0,hS,hM,h,cl⟩=>⟨ρ,μ,_,hS,hM,h,cl.rt⟩
def FzR (μ:Mu) (e:En) (μ':Mu) (e':En):Prop:=∀ (K:W.Frag) (v:V) (H:Hp),RelM K μ H->IsE K μ H v e->RelM K μ' H/\IsE K μ' H v e'/\ye (mask μ H) (mask μ' H)
theorem FzR.refl {μ:Mu}{e:En}:FzR μ e μ e:=fun _ _ _ h i=>⟨h,i,ye.refl _⟩
theorem FzR.trans {μ μ1 μ2:Mu}{e e1 e2:En}(h:FzR μ e μ1 e1) (h':FzR μ1 e1 μ2 e2):FzR μ e μ2 e2:=fun K v H a b=>by
 obtain ⟨a1,b1,s1⟩:=h K v H a b
 obtain ⟨a2,b2,s2⟩:=h' K v H a1 b1
 exact ⟨a2,b2,s1.trans s2⟩
theorem FzR.list {μ1 μ2:Mu}{p:Addr}{ds:List PyData}:FzR (μ1++(p,.lst ds)::μ2) (.m p) (μ1++μ2) (.d (.list ds)):=fun K v H h i=>by
 obtain ⟨M',s,hn⟩:=h.drop
 obtain ⟨xs,e,hs⟩:=h.ob p (.lst ds) (by simp)
 have i:v=_:=i
 subst i
 exact ⟨M',.lst (SqL.of (by rw [yH hn];exact e)) (IsAll.same s hs),s⟩
theorem FzR.drop {μ1 μ2:Mu}{p:Addr}{o:MO}{e:En}:FzR (μ1++(p,o)::μ2) e (μ1++μ2) e:=fun K v H h i=>by
 obtain ⟨M',s,hn⟩:=h.drop
 exact ⟨M',i.same s,s⟩
theorem FzR.drop1 {μ2:Mu}{p:Addr}{o:MO}{e:En}:FzR ((p,o)::μ2) e μ2 e:=FzR.drop (μ1:=[])
def dRetF (te:TEd):TSd:=fun D ρ μ=>te ρ μ fun e μ1=>∃ μ2 e2,FzR μ1 e μ2 e2/\D.rt e2 μ2
theorem qdF (he:DE K X e te):DS K X (.Return (some e) pos) (dRetF te):=PS.mono (qa3 he) fun D σ H ⟨ρ,μ,D0,hS,hM,h,cl⟩=>⟨ρ,μ,_,hS,hM,h,fun e' μ1 v H1 q M1 s1 i1=>by
 obtain ⟨μ2,e2,f,q⟩:=q
 obtain ⟨M2,i2,s2⟩:=f K v H1 M1 i1
 exact cl.rt _ μ2 _ H1 q M2 (s1.trans s2) i2⟩
def dIfS (c:TTd) (t u:TSd):TSd:=fun D ρ μ=>c ρ μ fun b μ1=>if b=true then t D ρ μ1 else u D ρ μ1
theorem jd {c:Expr}{a b:List Stmt}{tc:TTd}(hc:DT K X c tc) (ha:DSs K X a t) (hb:DSs K X b u):DS K X (.If c a b pos) (dIfS tc t u):=PS.mono (qjg hc ha hb) fun D σ H ⟨ρ,μ,D0,hS,hM,h,cl⟩ =>
 ⟨ρ,μ,_,hS,hM,h,fun k μ1 H1 q M1 s1=>by
  cases k with
  | true=>exact qhL ⟨ρ,μ1,D0,hS.same s1,M1,by simpa using q,cl.same s1⟩
  | false=>exact qah ⟨ρ,μ1,D0,hS.same s1,M1,by simpa using q,cl.same s1⟩⟩
def dAsg (te:TEd) (g:TGd):TSd:=fun D ρ μ=>te ρ μ fun e μ1=>g e ρ μ1 D.nx
theorem qW {i:Nat}{x:Str}{pos':Pos}(hN:X.N.Nodup) (hi:X.N[i]?=some x) (hx:Loc X.env.scope x) (he:DE K X e te) (hs:swapsWith e (some (.Name x pos')) pos.line X.env=pure false:=by rfl) (hf:X.fn x=true\/X.env.scope.names.lookup x=some .local:=by first | exact .inl rfl | exact .inr rfl | assumption) :
  DS K X (.Assign [.Name x pos'] e pos) (dAsg te (Jj i)):=PS.mono (qgc hN hi hx he hs hf) fun D σ H ⟨ρ,μ,D0,hS,hM,h,cl⟩ =>
 ⟨ρ,μ,_,hS,hM,h,fun e' μ1 v H1 q M1 s1 i1=>cl.nx _ μ1 _ H1 q ((hS.same s1).set i1) M1 s1⟩
theorem y7 {tg:Expr}{g:TGd}(he:DE K X e te) (hg:DG K X tg g) (hs:swapsWithSole [tg] e pos.line X.env=pure false:=by rfl) (hw:swappedStores [tg] e X.env=pure none:=by rfl)
  (h1:(assignEach [tg] X.env).map (·.2)=[assign tg X.env]:=by rfl):DS K X (.Assign [tg] e pos) (dAsg te g):=PS.mono (qcI he hg hs hw h1) fun D σ H ⟨ρ,μ,D0,hS,hM,h,cl⟩ =>
 ⟨ρ,μ,_,hS,hM,h,fun e' μ1 v H1 q M1 s1 i1=>⟨e',ρ,μ1,D0.nx,i1,hS.same s1,M1,q,cl.nx.same s1⟩⟩
def dPar (i j:Nat) (ta:TAd):TSd:=fun D ρ μ=>ta ρ μ fun es μ1=>match es with
 | [e,e']=>D.nx ((ρ.set i (some e)).set j (some e')) μ1
 | _=>False
theorem Yz {i j:Nat}{x y:Str}{a b:Expr}{ta:TAd}{px py pt:Pos}{kt k2 pt2} (hc:X.calm=true) (hN:X.N.Nodup) (hi:X.N[i]?=some x) (hj:X.N[j]?=some y) (hij:i≠j)
  (hx:X.env.scope.names.lookup x=some .local) (hy:X.env.scope.names.lookup y=some .local) (ha:DA K X [a,b] ta)
  (hw:swappedStores [.Tuple [.Name x px,.Name y py] kt pt] (.Tuple [a,b] k2 pt2) X.env=pure (some [x,y]))
  (hs:swapsWithSole [.Tuple [.Name x px,.Name y py] kt pt] (.Tuple [a,b] k2 pt2) pos.line X.env=pure false:=by rfl) :
  DS K X (.Assign [.Tuple [.Name x px,.Name y py] kt pt] (.Tuple [a,b] k2 pt2) pos) (dPar i j ta):=PS.mono (qjf hc hN hi hj hij hx hy ha hw hs) fun D σ H ⟨ρ,μ,D0,hS,hM,h,cl⟩ =>
 ⟨ρ,μ,_,hS,hM,h,fun es μ1 vs H1 q M1 s1 i1=>by
  split at q
  ·obtain ⟨v,v',rfl,h1,h2⟩:=qau i1
   exact ⟨_,_,rfl,cl.nx _ μ1 _ H1 q (((hS.same s1).set h1).set h2) M1 s1⟩
  ·exact q.elim⟩
def dApp (to:TEd) (tr:TAd):TEd:=fun ρ μ Q=>to ρ μ fun x μ1=>match x with
 | .m p=>(∃ ds0,(p,.lst ds0)∈μ1)/\tr ρ μ1 fun es μ2=>match es with
  | [.d z]=>∃ μ3 μ4 ds,μ2=μ3++(p,.lst ds)::μ4/\ds.length<4000/\Q (.d .none) (μ3++(p,.lst (ds++[z]))::μ4)
  | _=>False
 | _=>False
theorem qfi {o e:Expr}{to:TEd}{p1:Pos}(ho:DE K X o to) (ha:DA K X [e] tr) (hK:X.K=K:=by rfl)
  (h:PE X (.Call (.Attribute o "append" p1) [e] [] pos) (tBM X.K "list" rAppend (up K to) (upA K tr))):DE K X (.Call (.Attribute o "append" p1) [e] [] pos) (dApp to tr):=by
 subst hK
 refine PE.mono h fun σ H Q hq9=>?_
 obtain ⟨ρ,μ,Q0,hS,hM,h,cl⟩:=hq9
 refine ⟨ρ,μ,_,hS,hM,h,fun x μ1 v H1 q M1 s1 i1=>?_⟩
 split at q
 ·rename_i x' p
  obtain ⟨⟨ds0,hd0⟩,q⟩:=q
  have i1:v=_:=i1
  subst i1
  obtain ⟨xs0,e0,_⟩:=M1.ob _ _ hd0
  refine ⟨.inl ⟨rfl,_,SqL.of e0⟩,ρ,μ1,_,hS.same s1,M1,q,fun es μ2 vs H2 q2 M2 s2 i2=>?_⟩
  split at q2
  ·rename_i es' z
   obtain ⟨μ3,μ4,ds,rfl,hl,q2⟩:=q2
   obtain ⟨v,rfl,h1⟩:=Jp i2
   obtain ⟨xs,ex,hA⟩:=M2.ob p (.lst ds) (by simp)
   refine ⟨p,xs,v,rfl,rfl,ex,yP (by rw [hA.len];omega),?_⟩
   obtain ⟨M3,s3⟩:=M2.write (H':=upd H2 p (.lst (xs++[v]))) (o':=.lst (ds++[z])) (fun b u e n=>by rw [yb n];exact e) fun ss=>⟨_,yd,IsAll.snoc (Is.same ss h1) (IsAll.same ss hA)⟩
   exact cl _ _ .non _ q2 M3 ((s1.trans s2).trans s3) .non
  ·exact q2.elim
 ·exact q.elim
structure Itd where
 n:Nat
 item:Nat->En
 ok:Mu->Prop
abbrev TId:=Rho->Mu->(Itd->Mu->Prop)->Prop
def Sim (K:W.Frag) (J0:Itd) (μ1:Mu) (H1:Hp) (J:It):Prop:=∀ μ' H',RelM K μ' H'->ye (mask μ1 H1) (mask μ' H')->J0.ok μ'->∀ i,
 (i<J0.n->J.go i H'/\∀ x H2,J.yld i H' x H2->RelM K μ' H2/\ye (mask μ' H') (mask μ' H2)/\IsE K μ' H2 x (J0.item i))/\(J0.n<=i->J.stop i H')
def upI (K:W.Frag) (t:TId):TI:=fun σ H R=>∃ ρ μ Q0,RelS K ρ μ σ H/\RelM K μ H/\t ρ μ Q0/\∀ J0 μ1 J H1,Q0 J0 μ1->RelM K μ1 H1->ye (mask μ H) (mask μ1 H1)->Sim K J0 μ1 H1 J->R J H1
def DI (K:W.Frag) (X:Cx) (tg iter:Expr) (t:TId):Prop:=PI X tg iter (upI K t)
variable {tg iter:Expr}
theorem PI.mono {wi wi':TI}(h:PI X tg iter wi) (f:∀ σ H R,wi' σ H R->wi σ H R):PI X tg iter wi':=fun pins s σ H R I q=>h pins s σ H R I (f _ _ _ q)
def itL (e:En) (ds:List PyData):Itd:=⟨ds.length,fun i=>.d (ds.getD i .none),fun μ=>LstOf μ e ds⟩
def itT (ds:List PyData):Itd:=⟨ds.length,fun i=>.d (ds.getD i .none),fun _=>True⟩
def itR (lo:Int) (n:Nat):Itd:=⟨n,fun i=>.d (.int (lo+i)),fun _=>True⟩
def diL (te:TEd):TId:=fun ρ μ Q=>te ρ μ fun e μ1=>∃ ds,LstOf μ1 e ds/\Q (itL e ds) μ1
def diT (te:TEd):TId:=fun ρ μ Q=>te ρ μ fun e μ1=>match e with
 | .d (.tuple ds)=>Q (itT ds) μ1
 | _=>False
def diR1 (ta:TAd):TId:=fun ρ μ Q=>ta ρ μ fun es μ1=>match es with
 | [.d (.int j)]=>-(2 ^ 62)<=j/\j<2 ^ 62/\Q (itR 0 j.toNat) μ1
 | _=>False
theorem jw {ds:List PyData}{i:Nat}{x:PyData}(h:ds[i]?=some x):ds.getD i .none=x:=by rw [qL,h];rfl
theorem jr {l:Expr}(hl:DE K X l te) (hK:X.K=K:=by rfl):DI K X tg l (diL te):=by
 subst hK
 refine PI.mono (qhg hl) fun σ H R hq9=>?_
 obtain ⟨ρ,μ,Q0,hS,hM,h,cl⟩:=hq9
 refine ⟨ρ,μ,_,hS,hM,h,fun e μ1 v H1 q M1 s1 i1=>?_⟩
 obtain ⟨ds,hL,q⟩:=q
 obtain ⟨p,xs,rfl,h1,h2⟩:=hL.get M1 i1
 refine ⟨p,rfl,⟨xs,h1⟩,cl _ μ1 _ H1 q M1 s1 fun μ' H' M' s' hok i=>?_⟩
 obtain ⟨p',xs',e',h3,h4⟩:=LstOf.get hok M' (i1.same s')
 cases e'
 have hl:=h4.len
 refine ⟨fun hi=>⟨⟨xs',xs'[i]'(by rw [hl];exact hi),h3,by simp⟩,?_⟩,fun hi=>⟨xs',h3,by rw [hl];exact hi⟩⟩
 rintro x H2 ⟨rfl,hx⟩
 refine ⟨M',ye.refl _,?_⟩
 obtain ⟨d,e1,e2⟩:=h4.get (hx xs' h3)
 show Is X.K (mask μ' H2) x (ds.getD i .none)
 rw [jw e1]
 exact e2
theorem SqT.up {μ:Mu}{H:Hp}{p:Addr}{xs:List V}(h:SqT K (mask μ H) p xs):SqT K H p xs:=by
 rcases h with (e | ⟨o,e⟩) | e
 ·exact .inl (.inl (yL _ _ e))
 ·exact .inl (.inr ⟨o,yL _ _ e⟩)
 ·exact .inr e
theorem SqT.same {H H':Hp}{p:Addr}{xs:List V}(s:ye H H') (h:SqT K H p xs):SqT K H' p xs:=by
 rcases h with (e | ⟨o,e⟩) | e
 ·exact .inl (.inl (s _ _ e))
 ·exact .inl (.inr ⟨o,s _ _ e⟩)
 ·exact .inr e
theorem qdJ {l:Expr}(hl:DE K X l te) (hK:X.K=K:=by rfl):DI K X tg l (diT te):=by
 subst hK
 refine PI.mono (qji hl) fun σ H R hq9=>?_
 obtain ⟨ρ,μ,Q0,hS,hM,h,cl⟩:=hq9
 refine ⟨ρ,μ,_,hS,hM,h,fun e μ1 v H1 q M1 s1 i1=>?_⟩
 split at q
 ·rename_i ds
  cases i1 with
  | @tup p xs _ h1 h2 =>
   refine ⟨p,rfl,⟨xs,h1.up⟩,cl _ μ1 _ H1 q M1 s1 fun μ' H' M' s' hok i=>?_⟩
   have h3:=(SqT.same s' h1).up
   have h4:=IsAll.same s' h2
   have hl:=h4.len
   refine ⟨fun hi=>⟨⟨xs,xs[i]'(by rw [hl];exact hi),h3,by simp⟩,?_⟩,fun hi=>⟨xs,h3,by rw [hl];exact hi⟩⟩
   rintro x H2 ⟨rfl,hx⟩
   refine ⟨M',ye.refl _,?_⟩
   obtain ⟨d,e1,e2⟩:=h4.get (hx xs h3)
   show Is X.K (mask μ' H2) x (ds.getD i .none)
   rw [jw e1]
   exact e2
 ·exact q.elim
theorem qch {lo:Int}{n:Nat}{μ1:Mu}{H1:Hp}:Sim K (itR lo n) μ1 H1 (Itr lo n):=fun μ' H' M' s' _ i =>
 ⟨fun hi=>⟨hi,fun x H2 ⟨e,y⟩=>by subst e y;exact ⟨M',ye.refl _,.int _⟩⟩,fun hi=>hi⟩
theorem Ja {a:Expr}{ta:TAd}{p:Pos}(hg:Gl X "range") (hm:X.mg "range" = none) (ha:DA K X [a] ta) (hs:starEach [a] X.env=[(false,eval a X.env)]:=by rfl):DI K X tg (.Call (.Name "range" p) [a] [] pos) (diR1 ta) :=
 PI.mono (qcP hg hm ha hs) fun σ H R ⟨ρ,μ,Q0,hS,hM,h,cl⟩=>⟨ρ,μ,_,hS,hM,h,fun es μ1 vs H1 q M1 s1 i1=>by
  split at q
  ·obtain ⟨v,rfl,h1⟩:=Jp i1
   cases h1
   exact ⟨_,rfl,q.1,q.2.1,cl _ μ1 _ H1 q.2.2 M1 s1 qch⟩
  ·exact q.elim⟩
def Wks (P:Rho->Mu->Prop):Rho->Mu->Prop:=fun ρ μ=>∃ ρ' μ',Wk ρ μ ρ' μ'/\P ρ' μ'
theorem Wks.of {P:Rho->Mu->Prop}{ρ:Rho}{μ:Mu}(h:P ρ μ):Wks P ρ μ:=⟨ρ,μ,Wk.refl,h⟩
def dFor (ti:TId) (g:TGd) (tb:TSd):TSd:=fun D ρ μ=>ti ρ μ fun J μ1=>∃ Pv:Nat->Rho->Mu->Prop,Pv 0 ρ μ1/\(∀ i ρ' μ',i<=J.n->Pv i ρ' μ'->J.ok μ') ∧
 (∀ i ρ' μ',i<J.n->Pv i ρ' μ'->g (J.item i) ρ' μ' fun ρ2 μ2=>tb { D with nx:=Wks (Pv (i+1)),ct:=Wks (Pv (i+1)),bk:=D.nx } ρ2 μ2)/\∀ ρ' μ',Pv J.n ρ' μ'->D.nx ρ' μ'
theorem ZZ {body:List Stmt}{ti:TId}{g:TGd}{tb:TSd}(hp:PassesOwn (model X.prog X.w) X.A X.env X.xe) (hc:X.calm=true) (hi:DI K X tg iter ti) (hg:DG K X tg g) (hb:DSs K X body tb)
  (hs:∀ x,foldedSetIterable iter X.env x=pure x:=by intro _;rfl):DS K X (.For tg iter body [] pos) (dFor ti g tb):=by
 refine PS.mono (qjh hp hc hi hg hb hs) fun D σ H hq9=>?_
 obtain ⟨ρ,μ,D0,hS,hM,h,cl⟩:=hq9
 refine ⟨ρ,μ,_,hS,hM,h,fun J0 μ1 J H1 q M1 s1 sim=>?_⟩
 obtain ⟨Pv,h0,hok,hstep,hend⟩:=q
 refine ⟨fun i m σ' H'=>m=J0.n - i/\i<=J0.n/\∃ ρ' μ',RelS K ρ' μ' σ' H'/\RelM K μ' H'/\ye (mask μ1 H1) (mask μ' H')/\Pv i ρ' μ',⟨_,rfl,ya _,ρ,μ1,hS.same s1,M1,ye.refl _,h0⟩,?_⟩
 rintro i m σ' H' ⟨rfl,hi,ρ',μ',S',M',s',p⟩
 have sm:=sim μ' H' M' s' (hok i ρ' μ' hi p) i
 by_cases hlt:i<J0.n
 ·obtain ⟨hgo,hy⟩:=sm.1 hlt
  refine .inr ⟨hgo,fun σ2 H2=>∃ ρ' μ',RelS K ρ' μ' σ2 H2/\RelM K μ' H2/\ye (mask μ1 H1) (mask μ' H2)/\Pv (i+1) ρ' μ',fun σ2 H2 z=>⟨J0.n - (i+1),by omega,rfl,hlt,z⟩,fun x H2 y=>?_⟩
  obtain ⟨M2,s2,i2⟩:=hy x H2 y
  refine ⟨_,ρ',μ',_,i2,S'.same s2,M2,hstep i ρ' μ' hlt p,fun ρ3 μ3 σ3 H3 q3 S3 M3 s3=>⟨ρ3,μ3,_,S3,M3,q3,?_⟩⟩
  have st:=(s'.trans s2).trans s3
  have again:∀ {ρ4 μ4 σ4 H4},Wks (Pv (i+1)) ρ4 μ4->RelS K ρ4 μ4 σ4 H4->RelM K μ4 H4->ye (mask μ3 H3) (mask μ4 H4)->∃ ρ' μ',RelS K ρ' μ' σ4 H4/\RelM K μ' H4/\ye (mask μ1 H1) (mask μ' H4)/\Pv (i+1) ρ' μ':=by
   rintro ρ4 μ4 σ4 H4 ⟨ρ5,μ5,wk,p5⟩ S4 M4 s4
   obtain ⟨S5,M5,s5⟩:=wk K σ4 H4 S4 M4
   exact ⟨ρ5,μ5,S5,M5,(st.trans s4).trans s5,p5⟩
  exact ⟨fun _ _ _ _ a b c d=>again a b c d,cl.rt.same (s1.trans st),cl.nx.same (s1.trans st),fun _ _ _ _ a b c d=>again a b c d⟩
 ·have e:i=J0.n:=by omega
  subst e
  exact .inl ⟨sm.2 (qi _),cl.nx _ μ' _ H' (hend ρ' μ' p) S' M' (s1.trans s')⟩
def qko (c:TTd) (tb:TSd):TSd:=fun D ρ μ=>∃ Pv:Nat->Rho->Mu->Prop,(∃ m,Pv m ρ μ)/\∀ m ρ' μ',Pv m ρ' μ'->c ρ' μ' fun b μ1=>if b=true then
 tb { D with nx:=fun ρ2 μ2=>∃ m',m'<m/\Wks (Pv m') ρ2 μ2,ct:=fun ρ2 μ2=>∃ m',m'<m/\Wks (Pv m') ρ2 μ2,bk:=D.nx } ρ' μ1 else D.nx ρ' μ1
theorem Yk {c:Expr}{body:List Stmt}{tc:TTd}{tb:TSd}(hp:PassesOwn (model X.prog X.w) X.A X.env X.xe) (hc:DT K X c tc) (hb:DSs K X body tb):DS K X (.While c body [] pos) (qko tc tb):=by
 refine PS.mono (qeH hp hc hb) fun D σ H hq9=>?_
 obtain ⟨ρ,μ,D0,hS,hM,h,cl⟩:=hq9
 obtain ⟨Pv,⟨m0,h0⟩,hstep⟩:=h
 refine ⟨fun m σ' H'=>∃ ρ' μ',RelS K ρ' μ' σ' H'/\RelM K μ' H'/\ye (mask μ H) (mask μ' H')/\Pv m ρ' μ',⟨m0,ρ,μ,hS,hM,ye.refl _,h0⟩,?_⟩
 rintro m σ' H' ⟨ρ',μ',S',M',s',p⟩
 refine ⟨ρ',μ',_,S',M',hstep m ρ' μ' p,fun k μ1 H1 q M1 s1=>?_⟩
 cases k with
 | true =>
  refine qhL ⟨fun σ2 H2=>∃ m',m'<m/\∃ ρ' μ',RelS K ρ' μ' σ2 H2/\RelM K μ' H2/\ye (mask μ H) (mask μ' H2)/\Pv m' ρ' μ',fun σ2 H2 z=>z,ρ',μ1,_,S'.same s1,M1,by simpa using q,?_⟩
  have st:=s'.trans s1
  have again:∀ {ρ4 μ4 σ4 H4},(∃ m',m'<m/\Wks (Pv m') ρ4 μ4)->RelS K ρ4 μ4 σ4 H4->RelM K μ4 H4->ye (mask μ1 H1) (mask μ4 H4)->∃ m',m'<m/\∃ ρ' μ',RelS K ρ' μ' σ4 H4/\RelM K μ' H4/\ye (mask μ H) (mask μ' H4)/\Pv m' ρ' μ':=by
   rintro ρ4 μ4 σ4 H4 ⟨m',hm,ρ5,μ5,wk,p5⟩ S4 M4 s4
   obtain ⟨S5,M5,s5⟩:=wk K σ4 H4 S4 M4
   exact ⟨m',hm,ρ5,μ5,S5,M5,(st.trans s4).trans s5,p5⟩
  exact ⟨fun _ _ _ _ a b c d=>again a b c d,cl.rt.same st,cl.nx.same st,fun _ _ _ _ a b c d=>again a b c d⟩
 | false=>exact qah (cl.nx _ μ1 _ H1 (by simpa using q) (S'.same s1) M1 (s'.trans s1))
def dYes:TTd:=fun _ μ Q=>Q true μ
def qk6 (K:W.Frag) (X:Cx) (ifs:List Expr) (t:TTd):Prop:=Ifs X ifs (upT K t)
theorem je:qk6 K X [] dYes:=fun pins s σ H Q I ⟨ρ,μ,Q0,hS,hM,h,cl⟩=>qhP pins s σ H Q I (cl true μ H h hM (ye.refl _))
theorem qdK {c:Expr}{t:TTd}(h:DT K X c t):qk6 K X [c] t:=qhO h
def Fin1 (Q:En->Mu->Prop) (ys:List PyData) (μ:Mu):Prop:=Q (.d (.list ys)) μ
def qh9 (k:Nat) (ti:TId) (g:TGd) (tt:TTd) (te:TEd):TEd:=fun ρ μ Q=>ti ρ μ fun J μ1=>J.n<=4000/\∃ Pv:Nat->List PyData->Rho->Mu->Prop,Pv 0 [] (ρ++List.replicate k none) μ1/\(∀ i ys ρ' μ',i<=J.n->Pv i ys ρ' μ'->J.ok μ') ∧
 (∀ i ys ρ' μ',i<J.n->Pv i ys ρ' μ'->g (J.item i) ρ' μ' fun ρ2 μ2=>tt ρ2 μ2 fun b μ3=>if b=true then te ρ2 μ3 fun y μ4=>∃ z,y = .d z/\Pv (i+1) (ys++[z]) ρ2 μ4 else Pv (i+1) ys ρ2 μ3) ∧
 ∀ ys ρ' μ',Pv J.n ys ρ' μ'->Fin1 Q ys μ'
theorem qb8 {k:Nat}{ti:TId}{g:TGd}{tt:TTd}{te:TEd}{σ:St}{H:Hp}{Q:VK}(h:up K (qh9 k ti g tt te) σ H Q):qgR k (upI K ti) (upG K g) (upT K tt) (up K te) σ H Q:=by
 obtain ⟨ρ,μ,Q0,hS,hM,h,cl⟩:=h
 refine ⟨ρ,μ,_,hS,hM,h,fun J0 μ1 J H1 q M1 s1 sim=>?_⟩
 obtain ⟨hn,Pv,h0,hok,hstep,hend⟩:=q
 have S0:RelS K (ρ++List.replicate k none) μ1 (σ++List.replicate k none) H1:=by
  have S1:=hS.same s1
  refine ⟨by simp [S1.len],fun i e he=>?_⟩
  by_cases hi:i<ρ.length
  ·rw [qT hi] at he
   rw [qT (by rw [<- S1.len];exact hi)]
   exact S1.get i e he
  ·rw [qS (by omega),List.getElem?_replicate] at he
   split at he <;> cases he
 refine ⟨fun i m ys σ' H'=>m=J0.n - i/\i<=J0.n/\ys.length<=i/\∃ ds ρ' μ',RelS K ρ' μ' σ' H'/\RelM K μ' H'/\ye (mask μ1 H1) (mask μ' H')/\IsAll K (mask μ' H') ys ds/\Pv i ds ρ' μ',⟨_,rfl,ya _,qi _,[],_,μ1,S0,M1,ye.refl _,.nil,h0⟩,?_⟩
 rintro i m ys σ' H' ⟨rfl,hi,hy,ds,ρ',μ',S',M',s',hA,p⟩
 have sm:=sim μ' H' M' s' (hok i ds ρ' μ' hi p) i
 by_cases hlt:i<J0.n
 ·obtain ⟨hgo,hyl⟩:=sm.1 hlt
  refine .inr ⟨hgo,yP (by omega),fun ys2 σ2 H2=>ys2.length<=i+1/\∃ ds ρ' μ',RelS K ρ' μ' σ2 H2/\RelM K μ' H2/\ye (mask μ1 H1) (mask μ' H2)/\IsAll K (mask μ' H2) ys2 ds/\Pv (i+1) ds ρ' μ',fun ys2 σ2 H2 z=>⟨J0.n - (i+1),by omega,rfl,hlt,z⟩,fun x H2 y=>?_⟩
  obtain ⟨M2,s2,i2⟩:=hyl x H2 y
  refine ⟨_,ρ',μ',_,i2,S'.same s2,M2,hstep i ds ρ' μ' hlt p,fun ρ3 μ3 σ3 H3 q3 S3 M3 s3=>⟨ρ3,μ3,_,S3,M3,q3,fun b μ4 H4 q4 M4 s4=>?_⟩⟩
  have st:=((s'.trans s2).trans s3).trans s4
  cases b with
  | true =>
   refine qhL ⟨ρ3,μ4,_,S3.same s4,M4,(by simpa using q4),fun e μ5 v H5 q5 M5 s5 i5=>?_⟩
   obtain ⟨z,rfl,q5⟩:=q5
   exact ⟨by simp;omega,_,ρ3,μ5,(S3.same s4).same s5,M5,st.trans s5,IsAll.snoc i5 (IsAll.same (((s2.trans s3).trans s4).trans s5) hA),q5⟩
  | false=>exact qah ⟨by omega,_,ρ3,μ4,S3.same s4,M4,st,IsAll.same ((s2.trans s3).trans s4) hA,by simpa using q4⟩
 ·have e:i=J0.n:=by omega
  subst e
  refine .inl ⟨sm.2 (qi _),fun D hD=>?_⟩
  obtain ⟨M4,s4,hn⟩:=M'.laid (o:=.lst ys) hD
  exact cl _ μ' _ _ (hend ds ρ' μ' p) M4 ((s1.trans s').trans s4) (.lst (SqL.of (by rw [yH hn];exact yd)) (IsAll.same s4 hA))
theorem j3 {L:List Str}{scope sc:Scope}{N:List Str}{elt:Expr}{ifs:List Expr}{ti:TId}{g:TGd}{tt:TTd}{te:TEd}
  (hc:X.calm=true) (hsc:X.env.scope=sc) (hN:X.N=N) (ok:Jd sc N L scope=true)
  (hi:DI K X tg iter ti) (hg:∀ cl C s₂ H₂ fp,DG K (yq X L scope cl C s₂ H₂ fp) tg g) (hf:∀ cl C s₂ H₂ fp,qk6 K (yq X L scope cl C s₂ H₂ fp) ifs tt) (he:∀ cl C s₂ H₂ fp,DE K (yq X L scope cl C s₂ H₂ fp) elt te)
  (hs:∀ x,foldedSetIterable iter X.env x=pure x:=by intro _;rfl) :
  DE K X (.ListComp elt [⟨tg,iter,ifs,0⟩] scope pos) (qh9 L.length ti g tt te):=PE.mono (qhl hc hsc hN ok hi hg hf he hs) fun _ _ _=>qb8
theorem qaB {i:Nat}{x:Str}{pos' spos:Pos}{L:List Str}{scope sc:Scope}{N:List Str}{elt:Expr}{ifs:List Expr}{ti:TId}{g:TGd}{tt:TTd}{te:TEd}
  (hNd:X.N.Nodup) (hxi:X.N[i]?=some x) (hx:Loc X.env.scope x)
  (hc:X.calm=true) (hsc:X.env.scope=sc) (hN:X.N=N) (ok:Jd sc N L scope=true)
  (hi:DI K X tg iter ti) (hg:∀ cl C s₂ H₂ fp,DG K (yq X L scope cl C s₂ H₂ fp) tg g) (hf:∀ cl C s₂ H₂ fp,qk6 K (yq X L scope cl C s₂ H₂ fp) ifs tt) (he:∀ cl C s₂ H₂ fp,DE K (yq X L scope cl C s₂ H₂ fp) elt te)
  (hsw:swapsWith (.ListComp elt [⟨tg,iter,ifs,0⟩] scope pos) (some (.Name x pos')) spos.line X.env=pure true:=by rfl)
  (hs:∀ x,foldedSetIterable iter X.env x=pure x:=by intro _;rfl)
  (hfn:X.fn x=true\/X.env.scope.names.lookup x=some .local:=by first | exact .inl rfl | exact .inr rfl | assumption) :
  DS K X (.Assign [.Name x pos'] (.ListComp elt [⟨tg,iter,ifs,0⟩] scope pos) spos) (dAsg (qh9 L.length ti g tt te) (Jj i)) :=
 PS.mono (qhb hNd hxi hx hc hsc hN ok hi hg hf he hsw hs hfn) fun D σ H ⟨ρ,μ,D0,hS,hM,h,cl⟩=>qb8 (Q:=fun x H1=>qe8 i x σ H1 D.nx) ⟨ρ,μ,_,hS,hM,h,fun e' μ1 v H1 q M1 s1 i1=>cl.nx _ μ1 _ H1 q ((hS.same s1).set i1) M1 s1⟩
end
section
variable {P:Program}{w:World}{K:W.Frag}{mg:Str->Option Value}{base:Heap}{CX:CXT}
theorem Paired.mapSome {K:W.Frag}{μ:Mu}{H:Hp}{vs:List V}{es:List En}(h:Paired (IsE K μ H) vs es) (n m:Nat) (hn:n - vs.length=m - es.length):RelS K (es.map some++List.replicate (m - es.length) none) μ (vs.map some++List.replicate (n - vs.length) none) H:=by
 have hl:vs.length=es.length:=PySem.Paired.length h
 refine ⟨by simp [hl] at *;omega,fun i e he=>?_⟩
 by_cases hi:i<es.length
 ·rw [qT (by simpa using hi),List.getElem?_map] at he
  rw [qT (by simp;omega),List.getElem?_map]
  cases q:es[i]? with
  | none=>rw [q] at he;cases he
  | some e' =>
   rw [q] at he
   cases he
   obtain ⟨v,e1,e2⟩:=L2.Paired.get' h q
   exact ⟨v,by rw [e1];rfl,e2⟩
 ·rw [qS (by simp;omega),List.getElem?_replicate] at he
  split at he <;> cases he
theorem Fun.okD {x qual:Str}{st:Stmt}{f:Addr}{fd:FuncData}{N ps:List Str}{k:Nat}{sp:SpD}(F:Fun K x qual st f fd) (S:FnScope N ps (qp st)) (len:∀ es μ Q,sp es μ Q->es.length=ps.length)
  (hbody:∀ (cdv:Value) (A:Around) (outer:List Env) (s:Shared) (H:Hp) (E:XK) (es:List En) (μ:Mu) (Q:En->Mu->Prop),Room k (A.deeper (envOfC qual (qp st) s.heap.objs.size f cdv))->sp es μ Q →
   ∃ t,DSs K (qbS CX P w K mg base N qual (qp st) f cdv A outer s H E).nox (yW st) t/\t { nx:=fun _ μ'=>Q (.d .none) μ',rt:=Q } (es.map some++List.replicate (N.length - es.length) none) μ):FnOk P w K mg base CX (k+1) f fd ps (qV K sp):=by
 refine F.okG S (fun vs H Q E ⟨μ,es,Q0,M,hp,h,cl⟩=>(PySem.Paired.length hp).trans (len es μ Q0 h)) (fun cdv A outer s H vs Q E hr ⟨μ,es,Q0,M,hp,h,cl⟩=>?_)
 obtain ⟨t,ht,hq⟩:=hbody cdv A outer s H E es μ Q0 hr h
 have hl:vs.length=es.length:=PySem.Paired.length hp
 refine ⟨upS K t,ht,_,μ,_,Paired.mapSome hp N.length N.length (by rw [hl]),M,hq,⟨fun ρ' μ' σ' H' q S' M' s'=>cl _ μ' .non H' q M' s' .non,cl,fun _ _ _ _ q=>q.elim,fun _ _ _ _ q=>q.elim⟩⟩
theorem Own.imp {k:Nat}{x:Str}{ps:List Str}{sp sp':Sp}(O:Own P w K mg base CX k x ps sp) (h:∀ vs H Q E,sp' vs H Q E->sp vs H Q E):Own P w K mg base CX k x ps sp':=by
 obtain ⟨f,fd,F,r⟩:=O
 exact ⟨f,fd,F.imp h,r⟩
end
section
variable {X:Cx}{K:W.Frag}{a b c:Expr}{ta tb tc:TEd}{tA tB:TTd}{pos:Pos}{es:List Expr}{tr:TAd}
def rdIx:R2d:=fun x y μ Q=>match x,y with
 | .d (.tuple ds),.d (.int i)=>∃ z,atI ds i=some z/\Q (.d z) μ
 | .d (.list ds),.d (.int i)=>∃ z,atI ds i=some z/\Q (.d z) μ
 | .m p,.d (.int i)=>∃ ds z,(p,.lst ds)∈μ/\atI ds i=some z/\Q (.d z) μ
 | _,_=>False
theorem qM (hK:X.K=K:=by rfl):IxR X (upR K rdIx):=by
 refine (IxR.or (qhY (K:=K) hK) (qkh (K:=K) hK)).mono fun x y H Q h=>?_
 obtain ⟨μ,e,e',Q0,M,i1,i2,q,cl⟩:=h
 unfold rdIx at q
 split at q
 ·exact .inr ⟨μ,_,_,Q0,M,i1,i2,q,cl⟩
 ·obtain ⟨z,h1,q⟩:=q
  exact .inl ⟨μ,_,_,Q0,M,i1,i2,⟨_,z,.d _,h1,q⟩,cl⟩
 ·obtain ⟨ds,z,h0,h1,q⟩:=q
  exact .inl ⟨μ,_,_,Q0,M,i1,i2,⟨ds,z,.m h0,h1,q⟩,cl⟩
 ·exact q.elim
def qi4:R2d:=fun x y μ Q=>match x,y with
 | .d (.int i),.d (.int j)=>Q (.d (.int (i+j))) μ
 | _,_=>∃ ds es,LstOf μ x ds/\LstOf μ y es/\ds.length+es.length<=4000/\Q (.d (.list (ds++es))) μ
section forms
variable {g:TGd}{tb:TSd}{D:EndsD}{ρ:Rho}{μ:Mu}{te:TEd}{tt:TTd}{Q:En->Mu->Prop}
theorem forL {e:En}{ds:List PyData}(Pv:Nat->Rho->Mu->Prop) (h0:Pv 0 ρ μ) (hok:∀ i ρ' μ',Pv i ρ' μ'->LstOf μ' e ds)
  (hs:∀ i x ρ' μ',ds[i]?=some x->Pv i ρ' μ'->g (.d x) ρ' μ' fun ρ2 μ2=>tb { D with nx:=Wks (Pv (i+1)),ct:=Wks (Pv (i+1)),bk:=D.nx } ρ2 μ2) (hd:∀ ρ' μ',Pv ds.length ρ' μ'->D.nx ρ' μ') :
  ∃ Pv:Nat->Rho->Mu->Prop,Pv 0 ρ μ/\(∀ i ρ' μ',i<=(itL e ds).n->Pv i ρ' μ'->(itL e ds).ok μ') ∧
   (∀ i ρ' μ',i<(itL e ds).n->Pv i ρ' μ'->g ((itL e ds).item i) ρ' μ' fun ρ2 μ2=>tb { D with nx:=Wks (Pv (i+1)),ct:=Wks (Pv (i+1)),bk:=D.nx } ρ2 μ2)/\∀ ρ' μ',Pv (itL e ds).n ρ' μ'->D.nx ρ' μ':=by
 refine ⟨Pv,h0,fun i ρ' μ' _ p=>hok i ρ' μ' p,fun i ρ' μ' hi p=>?_,hd⟩
 have hi:i<ds.length:=hi
 have e1:ds[i]?=some ds[i]:=List.getElem?_eq_getElem hi
 show g (.d (ds.getD i .none)) ρ' μ' _
 rw [jw e1]
 exact hs i _ ρ' μ' e1 p
theorem forR {lo:Int}{n:Nat}(Pv:Nat->Rho->Mu->Prop) (h0:Pv 0 ρ μ)
  (hs:∀ i ρ' μ',i<n->Pv i ρ' μ'->g (.d (.int (lo+i))) ρ' μ' fun ρ2 μ2=>tb { D with nx:=Wks (Pv (i+1)),ct:=Wks (Pv (i+1)),bk:=D.nx } ρ2 μ2) (hd:∀ ρ' μ',Pv n ρ' μ'->D.nx ρ' μ') :
  ∃ Pv:Nat->Rho->Mu->Prop,Pv 0 ρ μ/\(∀ i ρ' μ',i<=(itR lo n).n->Pv i ρ' μ'->(itR lo n).ok μ') ∧
   (∀ i ρ' μ',i<(itR lo n).n->Pv i ρ' μ'->g ((itR lo n).item i) ρ' μ' fun ρ2 μ2=>tb { D with nx:=Wks (Pv (i+1)),ct:=Wks (Pv (i+1)),bk:=D.nx } ρ2 μ2)/\∀ ρ' μ',Pv (itR lo n).n ρ' μ'->D.nx ρ' μ' :=
 ⟨Pv,h0,fun i ρ' μ' _ p=>trivial,fun i ρ' μ' hi p=>hs i ρ' μ' hi p,hd⟩
abbrev qfz (k:Nat) (J:Itd) (g:TGd) (tt:TTd) (te:TEd) (ρ:Rho) (μ1:Mu) (Q:En->Mu->Prop):Prop:=∃ Pv:Nat->List PyData->Rho->Mu->Prop,Pv 0 [] (ρ++List.replicate k none) μ1/\(∀ i ys ρ' μ',i<=J.n->Pv i ys ρ' μ'->J.ok μ') ∧
 (∀ i ys ρ' μ',i<J.n->Pv i ys ρ' μ'->g (J.item i) ρ' μ' fun ρ2 μ2=>tt ρ2 μ2 fun b μ3=>if b=true then te ρ2 μ3 fun y μ4=>∃ z,y = .d z/\Pv (i+1) (ys++[z]) ρ2 μ4 else Pv (i+1) ys ρ2 μ3) ∧
 ∀ ys ρ' μ',Pv J.n ys ρ' μ'->Fin1 Q ys μ'
theorem j5 {α:Type}{ds:List α}{i:Nat}{x:α}(h:ds[i]?=some x):ds.take (i+1)=ds.take i++[x]:=by rw [List.take_add_one,h];rfl
structure Src (J:Itd) (ds:List PyData) (μ:Mu):Prop where
 n:J.n=ds.length
 it:∀ i x,ds[i]?=some x->J.item i = .d x
 ok:J.ok μ
theorem Src.l {e:En}{ds:List PyData}{μ:Mu}(h:LstOf μ e ds):Src (itL e ds) ds μ:=⟨rfl,fun i x e=>by show En.d (ds.getD i .none)=_;rw [jw e],h⟩
theorem Src.d {ds:List PyData}{μ:Mu}:Src (itL (.d (.list ds)) ds) ds μ:=Src.l (.d ds)
theorem Src.t {ds:List PyData}{μ:Mu}:Src (itT ds) ds μ:=⟨rfl,fun i x e=>by show En.d (ds.getD i .none)=_;rw [jw e],trivial⟩
def rng (lo:Int) (n:Nat):List PyData:=(List.range n).map fun (i:Nat)=>PyData.int (lo+(i:Int))
theorem Src.r {lo:Int}{n:Nat}{μ:Mu}:Src (itR lo n) (rng lo n) μ:=by
 refine ⟨by simp [rng,itR],fun i x e=>?_,trivial⟩
 unfold rng at e
 rw [List.getElem?_map] at e
 by_cases hi:i<n
 ·rw [List.getElem?_range hi] at e
  cases e
  rfl
 ·rw [List.getElem?_eq_none (by simpa using hi)] at e
  exact nomatch e
theorem qkq {J:Itd}{α:Type}{as:List α}{h1 h2:α->PyData}(p:α->Bool) (f:α->PyData) (S:Src J (as.map fun a=>.tuple [h1 a,h2 a]) μ)
  (ht:∀ a,a∈as->∀ R:Bool->Mu->Prop,R (p a) μ->tt (ρ++[some (.d (h1 a)),some (.d (h2 a))]) μ R)
  (hs:∀ a,a∈as->p a=true->∀ R:En->Mu->Prop,R (.d (f a)) μ->te (ρ++[some (.d (h1 a)),some (.d (h2 a))]) μ R) (hq:Q (.d (.list ((as.filter p).map f))) μ):qfz 2 J (qfc 2 (J6 (Jj ρ.length) (J6 (Jj (ρ.length+1)) qfd))) tt te ρ μ Q:=by
 have hl:J.n=as.length:=by rw [S.n];simp
 refine ⟨fun i ys ρ' μ'=>μ'=μ/\ys=((as.take i).filter p).map f/\∃ v w,ρ'=ρ++[v,w],⟨rfl,rfl,none,none,rfl⟩,fun i ys ρ' μ' _ ⟨h,_⟩=>by subst h;exact S.ok,?_,?_⟩
 ·rintro i ys ρ' μ' hi ⟨rfl,rfl,v,w,rfl⟩
  rw [hl] at hi
  rw [S.it i (.tuple [h1 as[i],h2 as[i]]) (by rw [List.getElem?_map,List.getElem?_eq_getElem hi];rfl)]
  refine ⟨rfl,?_⟩
  show tt (((ρ++[v,w]).set ρ.length _).set (ρ.length+1) _) μ' _
  have e2:((ρ++[v,w]).set ρ.length (some (.d (h1 as[i])))).set (ρ.length+1) (some (.d (h2 as[i])))=ρ++[some (.d (h1 as[i])),some (.d (h2 as[i]))]:=by simp [List.set_append]
  rw [e2]
  refine ht as[i] (qX hi) _ ?_
  cases hp:p as[i] with
  | true =>
   refine qhL (hs as[i] (qX hi) hp _ ⟨_,rfl,rfl,?_,_,_,rfl⟩)
   rw [j5 (List.getElem?_eq_getElem hi),List.filter_append,List.map_append]
   simp [hp]
  | false =>
   refine qah ⟨rfl,?_,_,_,rfl⟩
   rw [j5 (List.getElem?_eq_getElem hi),List.filter_append,List.map_append]
   simp [hp]
 ·rintro ys ρ' μ' ⟨rfl,rfl,_⟩
  rw [hl,jN]
  exact hq
theorem Z7 {J:Itd}{α:Type}{as:List α}{h1 h2:α->PyData}(f:α->PyData) (S:Src J (as.map fun a=>.tuple [h1 a,h2 a]) μ)
  (hs:∀ a,a∈as->∀ R:En->Mu->Prop,R (.d (f a)) μ->te (ρ++[some (.d (h1 a)),some (.d (h2 a))]) μ R) (hq:Q (.d (.list (as.map f))) μ):qfz 2 J (qfc 2 (J6 (Jj ρ.length) (J6 (Jj (ρ.length+1)) qfd))) dYes te ρ μ Q :=
 qkq (fun _=>true) f S (fun a _ R h=>h) (fun a ha _=>hs a ha) (by rw [List.filter_eq_self.mpr (fun _ _=>rfl)];exact hq)
end forms
end
def Num (n:Int):Prop:=-1000000000000000000000000000000<n/\n<1000000000000000000000000000000
def qbs (p:Pt):Prop:=Num p.1/\Num p.2
def dvs (a b:Int):Int:=if a<0\/(a=0/\b<0) then -(Int.gcd a b:Int) else (Int.gcd a b:Int)
theorem qe7 {f r:Nat}:Nat.gcd r (f % r)=Nat.gcd f r:=by
 rw [Nat.gcd_comm r (f % r),<- Nat.gcd_rec,Nat.gcd_comm]
def Bd (B:Nat) (q:Pt):Prop:=q.1.natAbs<=B/\q.2.natAbs<=B
def crs (p q:Pt):Int:=p.1 * q.2 - p.2 * q.1
theorem FzR.pot {M a b:Int}{μ:Mu}{p:Addr}(ha:0<=a) (hb:0<=b) (hm:b<M):FzR ((p,.lst [.int a,.int b])::μ) (.m p) ((p,.pot M)::μ) (.m p):=fun K v H h i=>by
 have e:mask ((p,.lst [.int a,.int b])::μ) H=mask ((p,.pot M)::μ) H:=rfl
 refine ⟨⟨by simpa using h.nd,fun b' o ho=>?_⟩,i,by rw [e];exact ye.refl _⟩
 rcases List.mem_cons.mp ho with z | z
 ·cases z
  obtain ⟨xs,e1,hs⟩:=h.ob p _ qv
  have:=IsAll.ints_of (ns:=[a,b]) hs
  subst this
  exact ⟨a,b,e1,ha,hb,hm⟩
 ·have:=h.ob b' o (qk _ z)
  exact this.same (by rw [e];exact ye.refl _) rfl
def spTakeM (M:Int):Sp:=fun vs H Q _=>∃ (p:Addr) (m:Int),vs=[.ref p,.int m]/\Pot M H p/\0<m/\m<=100000000/\∀ d H',0<=d->d<m->Pot M H' p->Stp p H H'->Q (.int d) H'
def sDraw (M:Int):SpD:=fun es μ Q=>∃ (p:Addr) (m:Int),es=[.m p,.d (.int m)]/\(p,.pot M)∈μ/\0<m/\m<=100000000/\∀ d,0<=d->d<m->Q (.d (.int d)) μ
def sNum (M:Int):SpD:=fun es μ Q=>∃ (p:Addr),es=[.m p]/\(p,.pot M)∈μ/\∀ n,Num n->Q (.d (.int n)) μ
theorem qcJ {K:W.Frag}{μ:Mu}{H H':Hp}{p:Addr}{M:Int}(h:RelM K μ H) (hp:(p,.pot M)∈μ) (hP:Pot M H' p) (s:Stp p H H'):RelM K μ H'/\ye (mask μ H) (mask μ H'):=by
 obtain ⟨μ1,μ2,rfl⟩:=List.append_of_mem hp
 exact h.write (fun b u e n=>s b u e n) fun _=>hP
theorem draw_up {K:W.Frag}{M:Int}{vs:List V}{H:Hp}{Q:VK}{E:XK}(h:qV K (sDraw M) vs H Q E):spTakeM M vs H Q E:=by
 obtain ⟨μ,es,Q0,hM,hp,⟨p,m,rfl,hpot,m0,m1,q⟩,cl⟩:=h
 obtain ⟨v,v',rfl,i1,i2⟩:=qau hp
 have i1:v=_:=i1
 subst i1
 cases i2
 refine ⟨p,m,rfl,hM.ob _ _ hpot,m0,m1,fun d H' d0 d1 hP s=>?_⟩
 obtain ⟨M',s'⟩:=qcJ hM hpot hP s
 exact cl _ μ _ H' (q d d0 d1) M' s' (.int d)
theorem zl0:0<=4000:=by decide
theorem zl2:2<=4000:=by decide
theorem zl3:3<=4000:=by decide
theorem zl4:4<=4000:=by decide
def qet (K:W.Frag):Sp:=fun vs H Q _=>∃ (a:Addr) (ns:List Int),vs=[.ref a]/\SqL K H a (ns.map V.int)/\ns.length<=63/\∀ H',Q (.bl true) H'
def sLaw:SpD:=fun es μ Q=>∃ ns:List Int,es=[.d (.list (ns.map .int))]/\ns.length<=63/\μ=[]/\∀ μ',Q (.d (.bool true)) μ'
theorem qjW {K:W.Frag}{vs:List V}{H:Hp}{Q:VK}{E:XK}(h:qet K vs H Q E):qV K sLaw vs H Q E:=by
 obtain ⟨a,ns,rfl,hS,hl,q⟩:=h
 refine ⟨[],[.d (.list (ns.map .int))],fun e _=>e = .d (.bool true),RelM.nil,.cons ?_ .nil,⟨ns,rfl,hl,rfl,fun _=>rfl⟩,?_⟩
 ·show Is K (mask [] H) (.ref a) _
  rw [qbb]
  exact .lst hS (IsAll.ints ns)
 ·rintro e μ' v H' rfl _ _ i
  cases i
  exact q H'
section
variable {X:Cx}{K:W.Frag}{a b c:Expr}{ta tb tc:TEd}{tA tB:TTd}{pos:Pos}{es:List Expr}{tr:TAd}
def rCatS (K:W.Frag):R2:=fun x y H Q=>∃ l b xs zs,x = .ref l/\y = .ref b/\SqL K H l xs/\SqL K H b zs/\xs.length+zs.length<=sizeLine/\∀ p,H p=none->Q (.ref p) (upd H p (.lst (xs++zs)))
theorem qhu:OpR X (binaryOp .Add) (rCatS X.K):=by
 intro pins s σ H x y v u Q I rx ry h
 obtain ⟨l,b,xs,zs,rfl,rfl,hH,hB,hz,q⟩:=h
 cases rx
 cases ry
 obtain ⟨its,r,pl,_⟩:=I.list hH
 obtain ⟨its2,r2,pl2,_⟩:=I.list hB
 obtain ⟨⟨cls,dd,data,sl⟩,ho,hc,n,hd⟩:=pl.isList
 obtain ⟨⟨cls2,dd2,data2,sl2⟩,ho2,hc2,n2,hd2⟩:=pl2.isList
 simp only at hc hd hc2 hd2
 subst hc hd hc2 hd2
 have h1:=r.length
 have h2:=r2.length
 have e:its.toArray++its2.toArray=(its++its2).toArray:=by simp
 refine concat_meets ⟨_,ho,rfl⟩ ⟨_,ho2,rfl⟩ noFill_list_add seq_list_add PySem.F.slot_list_add PySem.F.entry_list_add (PySem.F.args_list_add_2 _ _) (list_addW l b its.toArray its2.toArray n n2 dd dd2 sl sl2 (by simp;omega)) ⟨ho,ho2,?_⟩
 rw [e]
 exact ⟨.ref _,_,I.lnew (t':=s.toks) (r.append r2) (by rw [List.length_append];omega),rfl,q _ I.fresh⟩
theorem qbk (hK:X.K=K:=by rfl):OpR X (binaryOp .Add) (upR K qi4):=by
 subst hK
 refine (OpR.or (qcT (X:=X)) qhu).mono fun x y H Q h=>?_
 obtain ⟨μ,e,e',Q0,M,i1,i2,q,cl⟩:=h
 unfold qi4 at q
 split at q
 ·cases i1;cases i2
  exact .inl ⟨_,_,rfl,rfl,cl _ μ _ H q M (ye.refl _) (.int _)⟩
 ·obtain ⟨ds,es,h1,h2,hl,q⟩:=q
  obtain ⟨p,xs,rfl,a1,a2⟩:=h1.get M i1
  obtain ⟨p',xs',rfl,b1,b2⟩:=h2.get M i2
  refine .inr ⟨p,p',xs,xs',rfl,rfl,a1,b1,yx (yP (by rw [a2.len,b2.len];exact hl)),fun l hl=>?_⟩
  obtain ⟨M4,s4,hn⟩:=M.laid (o:=.lst (xs++xs')) hl
  exact cl _ μ _ _ q M4 s4 (.lst (SqL.of (by rw [yH hn];exact yd)) (IsAll.same s4 (IsAll.app b2 a2)))
end
section
variable {P:Program}{w:World}{K:W.Frag}{mg:Str->Option Value}{base:Heap}{CX:CXT}{k:Nat}{x:Str}{ps:List Str}{sp sp':Sp}{f:Addr}{fd:FuncData}
def spOr (sp sp':Sp):Sp:=fun vs H Q E=>sp vs H Q E\/sp' vs H Q E
theorem FnOk.or (h:FnOk P w K mg base CX k f fd ps sp) (h':FnOk P w K mg base CX k f fd ps sp'):FnOk P w K mg base CX k f fd ps (spOr sp sp') :=
 ⟨fun vs H Q E q=>q.elim (h.len vs H Q E) (h'.len vs H Q E),fun A outer s H args us vs Q E hr he hb hv q=>q.elim (h.run A outer s H args us vs Q E hr he hb hv) (h'.run A outer s H args us vs Q E hr he hb hv)⟩
theorem Own.l (O:Own P w K mg base CX k x ps (spOr sp sp')):Own P w K mg base CX k x ps sp:=O.imp fun _ _ _ _ h=>.inl h
theorem Own.r (O:Own P w K mg base CX k x ps (spOr sp sp')):Own P w K mg base CX k x ps sp':=O.imp fun _ _ _ _ h=>.inr h
theorem RelS.of {vs:List V}{es:List En}{H:Hp}(n:Nat) (h:Paired (IsE K [] H) vs es):RelS K (es.map some++List.replicate n none) [] (vs.map some++List.replicate n none) H:=by
 have:=Paired.mapSome (K:=K) h (vs.length+n) (es.length+n) (by omega)
 simpa using this
theorem IsE.nil {H:Hp}{v:V}{d:PyData}(h:Is K H v d):IsE K [] H v (.d d):=by
 show Is K (mask [] H) v d
 rw [qbb];exact h
end
section
variable {g:TGd}{tb:TSd}{D:EndsD}{ρ:Rho}{μ:Mu}{te:TEd}{tt:TTd}{Q:En->Mu->Prop}
theorem qdU {J:Itd}{α:Type}{as:List α}{h:α->PyData}(p:α->Bool) (f:α->PyData) (S:Src J (as.map h) μ)
  (ht:∀ a,a∈as->∀ R:Bool->Mu->Prop,R (p a) μ->tt (ρ++[some (.d (h a))]) μ R)
  (hs:∀ a,a∈as->p a=true->∀ R:En->Mu->Prop,R (.d (f a)) μ->te (ρ++[some (.d (h a))]) μ R) (hq:Q (.d (.list ((as.filter p).map f))) μ):qfz 1 J (Jj ρ.length) tt te ρ μ Q:=by
 have hl:J.n=as.length:=by rw [S.n];simp
 refine ⟨fun i ys ρ' μ'=>μ'=μ/\ys=((as.take i).filter p).map f/\∃ v,ρ'=ρ++[v],⟨rfl,rfl,none,rfl⟩,fun i ys ρ' μ' _ ⟨h,_⟩=>by subst h;exact S.ok,?_,?_⟩
 ·rintro i ys ρ' μ' hi ⟨rfl,rfl,v,rfl⟩
  rw [hl] at hi
  rw [S.it i (h as[i]) (by rw [List.getElem?_map,List.getElem?_eq_getElem hi];rfl)]
  unfold Jj
  have e2:(ρ++[v]).set ρ.length (some (.d (h as[i])))=ρ++[some (.d (h as[i]))]:=by simp
  rw [e2]
  refine ht as[i] (qX hi) _ ?_
  cases hp:p as[i] with
  | true =>
   refine qhL (hs as[i] (qX hi) hp _ ⟨_,rfl,rfl,?_,_,rfl⟩)
   rw [j5 (List.getElem?_eq_getElem hi),List.filter_append,List.map_append]
   simp [hp]
  | false =>
   refine qah ⟨rfl,?_,_,rfl⟩
   rw [j5 (List.getElem?_eq_getElem hi),List.filter_append,List.map_append]
   simp [hp]
 ·rintro ys ρ' μ' ⟨rfl,rfl,_⟩
  rw [hl,jN]
  exact hq
theorem qbm {J:Itd}{α:Type}{as:List α}{h:α->PyData}(f:α->PyData) (S:Src J (as.map h) μ)
  (hs:∀ a,a∈as->∀ R:En->Mu->Prop,R (.d (f a)) μ->te (ρ++[some (.d (h a))]) μ R) (hq:Q (.d (.list (as.map f))) μ):qfz 1 J (Jj ρ.length) dYes te ρ μ Q :=
 qdU (fun _=>true) f S (fun a _ R h=>h) (fun a ha _=>hs a ha) (by rw [List.filter_eq_self.mpr (fun _ _=>rfl)];exact hq)
end
section
variable {s:List Int}(h:s.Pairwise (· <= ·)) {j:Nat}(hj:j<s.length) {c:Int}
include h hj
end
def twice:List Int->List Int
 | []=>[]
 | x::l=>x::x::twice l
mutual
theorem qbi:∀ d:PyData,PyData.canLay0 d=true->PyData.eqv d d=true
 | .none,_=>by simp [PyData.eqv]
 | .bool b,_=>by simp [PyData.eqv]
 | .int i,_=>by simp [PyData.eqv]
 | .str x,_=>by simp [PyData.eqv]
 | .list xs,h=>by
  simp only [PyData.canLay0] at h
  simp only [PyData.eqv]
  exact Jr xs h
 | .tuple xs,h=>by
  simp only [PyData.canLay0] at h
  simp only [PyData.eqv]
  exact Jr xs h
 | .dict xs,h=>by simp [PyData.canLay0] at h
theorem Jr:∀ ds:List PyData,PyData.canLayAll0 ds=true->PyData.eqvAll ds ds=true
 | [],_=>by simp [PyData.eqvAll]
 | d::ds,h=>by
  simp only [PyData.canLayAll0,Bool.and_eq_true] at h
  simp only [PyData.eqvAll,Bool.and_eq_true]
  exact ⟨qbi d h.1,Jr ds h.2⟩
end
theorem JN {d:PyData}(h:SeqAt.shaped d=true):PyData.eqv d d=true:=qbi d (SeqAt.canLay_of_shaped h)
theorem YV {α:Type}{f:α->PyData}(hf:∀ a,PyData.canLay0 (f a)=true):∀ as:List α,PyData.canLayAll0 (as.map f)=true
 | []=>by simp [PyData.canLayAll0]
 | a::as=>by simp [PyData.canLayAll0,hf a,YV hf as]
theorem Z0 {α:Type}{f:α->PyData}{n:Nat}(hf:∀ a,PyData.depth (f a)<=n):∀ as:List α,PyData.depthAll (as.map f)<=n+1
 | []=>by simp [PyData.depthAll]
 | a::as=>by
  have:=Z0 hf as
  have:=hf a
  simp only [List.map_cons,PyData.depthAll]
  omega
section
variable {X:Cx}{K:W.Frag}{a b c:Expr}{ta tb tc:TEd}{tA tB:TTd}{pos:Pos}{es:List Expr}{tr:TAd}
end
theorem qfk {ds:List PyData}(h:ds≠[]):Zq ds none (some (-1))=ds.dropLast:=by
 have hl:0<ds.length:=yZ.mpr h
 unfold Zq HT.sIx
 simp only [List.drop_zero,Nat.sub_zero]
 rw [List.dropLast_eq_take]
 congr 1
 simp
 omega
end L2
namespace L2
open PySem PySem.Spec PyProof.Rows PySem.W PySem.SetTable
def qag (K:W.Frag) (H:Hp) (v:V) (ks:List Int):Prop:=(∃ a,v = .ref a/\SqT K H a (ks.map V.int))/\ks≠[]
theorem qag.same {K:W.Frag}{H H':Hp}{v:V}{ks:List Int}(h:qag K H v ks) (s:ye H H'):qag K H' v ks:=by
 obtain ⟨⟨a,e,q⟩,n⟩:=h
 exact ⟨⟨a,e,SqT.same s q⟩,n⟩
def Srt (ms:List (List Int)):Prop:=ms.Pairwise fun a b=>¬ b<a
def qgZ (P:Program) (w:World) (a:Addr) (bs:List (Addr×List Int)) (h:Heap):Prop :=
 ∃ o es ep t m,h.get? a=some o/\o.ExactSet/\o.data = .set es ep t/\t.plain=true/\t.led=(!jH w)/\jQ m es.size/\SetI t es m es.size/\es.toList=bs.map (fun b=>(yn P w b.2,Value.ref b.1))/\(bs.map (·.2)).Nodup
def qg0 (P:Program) (w:World) (a:Addr) (bs:List (Addr×List Int)):HO:=.ext (qgZ P w a bs)
def InS (K:W.Frag) (H:Hp) (bs:List (Addr×List Int)):Prop:=∀ b∈bs,qag K H (.ref b.1) b.2
theorem InS.same {K:W.Frag}{H H':Hp}{bs:List (Addr×List Int)}(h:InS K H bs) (s:ye H H'):InS K H' bs:=fun b hb=>(h b hb).same s
theorem qgZ.stay {P:Program}{w:World}{a:Addr}{bs:List (Addr×List Int)}{h1 h2:Heap}(p:qgZ P w a bs h1) (k:∀ o,h1.get? a=some o->h2.get? a=some o):qgZ P w a bs h2:=by
 obtain ⟨o,es,ep,t,m,ho,r⟩:=p
 exact ⟨o,es,ep,t,m,k o ho,r⟩
theorem qgZ.ok {P:Program}{w:World}{H:Hp}{a:Addr}{bs:List (Addr×List Int)}{h:Heap}(p:qgZ P w a bs h):jJ P w H h a (qg0 P w a bs):=by
 refine ⟨p,?_,fun h1 h2 p1 k=>p1.stay k⟩
 obtain ⟨o,_,_,_,_,ho,_⟩:=p
 exact ⟨o,ho⟩
theorem qdA {P:Program}{w:World}{h:Heap}:∀ {l:List (Int×Value)}{ms:List (List Int)},PySem.Paired (Zp P w h) l ms->∃ bs:List (Addr×List Int),l=bs.map (fun b=>(yn P w b.2,Value.ref b.1))/\bs.map (·.2)=ms/\∀ b∈bs,jn h (.ref b.1) b.2
 | _,_,.nil=>⟨[],rfl,rfl,(fun _ z=>nomatch z)⟩
 | _,_,.cons (a:=e) (b:=ks) r t=>by
  obtain ⟨bs,e1,e2,e3⟩:=qdA t
  obtain ⟨hh,v⟩:=e
  obtain ⟨r1,r2⟩:=r
  obtain ⟨b,_,_,_,eb,_⟩:=id r1
  dsimp only at eb r1 r2
  subst eb
  refine ⟨(b,ks)::bs,?_,?_,fun c hc=>?_⟩
  ·rw [List.map_cons,<- e1,r2]
  ·rw [List.map_cons,e2]
  ·rcases List.mem_cons.mp hc with rfl | hc
   ·exact r1
   ·exact e3 c hc
theorem qd6 {P:Program}{w:World}{h:Heap}:∀ {bs:List (Addr×List Int)},(∀ b∈bs,jn h (.ref b.1) b.2)->PySem.Paired (Zp P w h) (bs.map (fun b=>(yn P w b.2,Value.ref b.1))) (bs.map (·.2))
 | [],_=>.nil
 | b::bs,k=>.cons ⟨k b qv,rfl⟩ (qd6 fun c hc=>k c (qk _ hc))
section
variable {X:Cx}{pins:List (Addr×Obj)}{σ:St}{H:Hp}{s:Shared}
theorem qj4:∀ {ns:List Int}{us:List Value},yo (ns.map V.int) us->IntsAre us ns
 | [],_,.nil=>.nil
 | n::ns,_,.cons ⟨t,e⟩ r=>by
  subst e
  exact .cons n t (qj4 r)
theorem Inv.tupK (I:Inv X pins σ H s) {a:Addr}{ks:List Int}(h:qag X.K H (.ref a) ks):jn s.heap (.ref a) ks:=by
 obtain ⟨⟨a',e,ha⟩,hn⟩:=h
 cases e
 obtain ⟨its,r,⟨o,ho,hc,n,hd⟩,hz⟩:=I.tuple ha
 exact ⟨a,o,its.toArray,n,rfl,ho,hc,hd,by simpa using qj4 r,hn⟩
theorem Inv.tupsK (I:Inv X pins σ H s):∀ {us:List V}{its:List Value}{kss:List (List Int)},PySem.Paired (qag X.K H) us kss->yo us its->PySem.Paired (jn s.heap) its kss
 | _,_,_,.nil,.nil=>.nil
 | _,_,_,.cons h t,.cons r q=>by
  obtain ⟨⟨a,e,ha⟩,hn⟩:=id h
  subst e
  cases r
  exact .cons (I.tupK h) (Inv.tupsK I t q)
theorem Inv.setT (I:Inv X pins σ H s) {a:Addr}{bs:List (Addr×List Int)}(h:H a=some (qg0 X.prog X.w a bs)) (hb:InS X.K H bs):qaI X.prog X.w (fun v=>∃ b∈bs,v=Value.ref b.1) s.heap a (bs.map (·.2)):=by
 obtain ⟨⟨o,es,ep,t,m,ho,ex,hd,pl,ld,mo,si,ee,nd⟩,_⟩:=I.hok a _ h
 refine ⟨o,es,ep,t,m,ho,ex,hd,pl,ld,mo,si,?_,nd,fun e he=>?_⟩
 ·rw [ee]
  exact qd6 fun b hbb=>I.tupK (hb b hbb)
 ·rw [ee] at he
  obtain ⟨b,h1,rfl⟩:=qE.mp he
  exact ⟨b,h1,rfl⟩
theorem qen {us:List V}{its:List Value}(r:yo us its) {kss:List (List Int)}(h:PySem.Paired (qag X.K H) us kss) {b:Addr}(hb:Value.ref b∈its):∃ i:Nat,us[i]?=some (V.ref b):=by
 obtain ⟨i,ei⟩:=qU hb
 have hi:i<us.length:=by rw [r.length];exact (qm.mp ei).1
 obtain ⟨ks,_,⟨⟨a,e,_⟩,_⟩⟩:=L2.Paired.get h (List.getElem?_eq_getElem hi)
 obtain ⟨u,e1,e2⟩:=yo.get r (List.getElem?_eq_getElem hi)
 rw [ei] at e1
 cases e1
 rw [e] at e2
 have:Value.ref b=Value.ref a:=e2
 cases this
 exact ⟨i,by rw [List.getElem?_eq_getElem hi,e]⟩
def rSet (X:Cx):List V->Hp->VK->Prop:=fun xs H Q=>∃ (p:Addr) (us:List V) (kss:List (List Int)),xs=[.ref p]/\SqL X.K H p us/\PySem.Paired (qag X.K H) us kss/\(∀ ms:List (List Int),ms.Nodup->(∀ q∈ms,q∈kss)->ms.length<4900) ∧
 ∀ S bs,H S=none->InS X.K H bs->(∀ b∈bs,∃ i:Nat,us[i]?=some (V.ref b.1)/\kss[i]?=some b.2)->(∀ q,q∈bs.map (·.2) ↔ q∈kss)->(bs.map (·.2)).Nodup->bs.length<4915->Q (.ref S) (upd H S (qg0 X.prog X.w S bs))
theorem qdX (hc:X.calm=true) (hu:X.A.units+64<cLine):yu X (.type "set") (rSet X):=by
 intro pins s σ H xs us Q I r h
 obtain ⟨p,vs,kss,rfl,hS,hT,hl,q⟩:=h
 obtain ⟨u,rfl,rx⟩:=JI r
 cases rx
 obtain ⟨its,rv,pl,_⟩:=I.list hS
 have hK:=I.tupsK hT rv
 have hlen:=rv.length
 refine qbB (I.ok.hd hc) pl.isList hK (fun ms nd hm=>Nat.lt_trans (hl ms nd hm) (by decide)) hu fun h' tk ms S2 mem kp=>?_
 obtain ⟨o,es,ep,t,m,D⟩:=S2
 obtain ⟨bs,e1,e2,e3⟩:=qdA D.en
 subst e2
 have fr:H s.heap.objs.size=none:=I.hok.fresh (qi _)
 have own:∀ b∈bs,∃ i:Nat,vs[i]?=some (V.ref b.1):=fun b hb=>by
  refine qen rv hT (D.own (yn X.prog X.w b.2,Value.ref b.1) ?_)
  rw [e1]
  exact qE.mpr ⟨b,hb,rfl⟩
 have inS2:∀ b∈bs,qag X.K H (.ref b.1) b.2/\∃ i:Nat,vs[i]?=some (V.ref b.1)/\kss[i]?=some b.2:=fun b hb=>by
  obtain ⟨i,ei⟩:=own b hb
  obtain ⟨ks,ek,tn⟩:=L2.Paired.get hT ei
  have k1:jn h' (.ref b.1) ks:=(I.tupK tn).kept fun c ob e _=>kp c ob e
  have:=(k1.key (prog:=X.prog) (w:=X.w)).inj ((e3 b hb).key (prog:=X.prog) (w:=X.w))
  rw [<- this]
  exact ⟨tn,i,ei,ek⟩
 have inS:InS X.K H bs:=fun b hb=>(inS2 b hb).1
 have lt:bs.length<4915:=by
  have:=D.mok.le
  have z:es.toList.length=bs.length:=by rw [e1,List.length_map]
  rw [Array.length_toList] at z
  omega
 refine ⟨.ref s.heap.objs.size,_,I.laid (t':=tk) kp (qi _) (o:=qg0 X.prog X.w s.heap.objs.size bs) (qgZ.ok ⟨o,es,ep,t,m,D.ho,D.ex,D.hd,D.pl,D.ld,D.mok,D.si,e1,D.nd⟩),rfl,q _ bs fr inS (fun b hb=>(inS2 b hb).2) mem D.nd lt⟩
theorem qft {h:Heap}{vs:List Value}{kss:List (List Int)}{p:Array Nat}(hT:PySem.Paired (jn h) vs kss) (hp:Arr vs.length p) :
  PySem.Paired (jn h) (qbq vs p) (p.toList.map fun i=>kss.getD i [])/\(p.toList.map fun i=>kss.getD i []).Perm kss:=by
 have lt:∀ i∈p.toList,i<vs.length:=fun i hi=>by
  have:=(Array.Perm.mem_iff hp (a:=i)).mp (Array.mem_toList_iff.mp hi)
  simpa using this
 constructor
 ·unfold qbq
  generalize p.toList=l at lt
  induction l with
  | nil=>exact .nil
  | cons i l ih=>exact .cons (jD hT i (lt i qv)) (ih fun j hj=>lt j (qk _ hj))
 ·have p1:p.toList.Perm (List.range vs.length):=by
   have:=yB.mp hp
   simpa using this
  refine (p1.map fun i=>kss.getD i []).trans ?_
  rw [L2.Paired.len hT]
  refine List.Perm.of_eq ?_
  apply List.ext_getElem?
  intro i
  simp only [List.getElem?_map,List.getElem?_range]
  by_cases hi:i<kss.length
  ·simp [hi]
  ·simp [hi]
theorem qij {kss:List (List Int)}{n:Nat}{p:Array Nat}(hp:Arr n p) (hs:qbR (ltK kss) p n):Srt (p.toList.map fun i=>kss.getD i []):=by
 unfold Srt
 rw [List.pairwise_map]
 refine qK.mpr fun i j hi hj hij=>?_
 have hj':j<n:=by
  have:=hp.size
  simp at hj
  omega
 have:=hs i j (yx hij) hj'
 unfold ltK at this
 have:=of_decide_eq_false this
 have e1:gD p i=p.toList[i]:=by simp at hi;simp [gD,hi]
 have e2:gD p j=p.toList[j]:=by simp at hj;simp [gD,hj]
 rw [e1,e2] at this
 exact this
def qkD (H:Hp) (Pv:V->List Int->Prop) (kss:List (List Int)) (Q:VK):Prop:=∀ D vs ms,H D=none->PySem.Paired Pv vs ms->ms.Perm kss->Srt ms->Q (.ref D) (upd H D (.lst vs))
theorem qbA {Q:VK}{x:Value}{Pv:V->List Int->Prop}{kss:List (List Int)}(I:Inv X pins σ H s) (q:qkD H Pv kss Q) {R:List Value->List (List Int)->Prop}
  (hR:∀ vs ms,R vs ms->(∀ v∈vs,∃ b ks,v=Value.ref b/\qag X.K H (.ref b) ks/\Pv (.ref b) ks)/\ms.Perm kss) (hcol:∀ E',wpAny (model X.prog X.w) X.A.in1 (collect x) (qkJ s R) E' s):wpAny (model X.prog X.w) X.A (call (.builtin "sorted") [x]) (EP X pins σ Q) X.xe s:=by
 refine qcf hcol fun vs ms p h' tk D e hr hp hs hT hz kp hD he=>?_
 obtain ⟨r1,r2⟩:=hR vs ms hr
 obtain ⟨a1,a2⟩:=qft hT hp
 have hV:∀ l:List Value,(∀ v∈l,∃ b ks,v=Value.ref b/\qag X.K H (.ref b) ks/\Pv (.ref b) ks)->∃ ws:List V,yo ws l/\∀ ks,PySem.Paired (jn h') l ks->PySem.Paired Pv ws ks:=by
  intro l
  induction l with
  | nil=>exact fun _=>⟨[],.nil,fun ks z=>(by cases z;exact .nil)⟩
  | cons v l ih =>
   intro hl
   obtain ⟨ws,w1,w3⟩:=ih fun u hu=>hl u (qk _ hu)
   obtain ⟨b,ks,rfl,tn,pv⟩:=hl v qv
   refine ⟨.ref b::ws,.cons rfl w1,fun ks' z=>?_⟩
   cases z with
    | cons z1 z2 =>
     refine .cons ?_ (w3 _ z2)
     have k1:jn h' (.ref b) ks:=(I.tupK tn).kept fun c ob e _=>kp c ob e
     have:=(k1.key (prog:=X.prog) (w:=X.w)).inj (z1.key (prog:=X.prog) (w:=X.w))
     rw [<- this]
     exact pv
 obtain ⟨ws,w1,w3⟩:=hV (qbq vs p) fun v hv=>by
  obtain ⟨i,hi,rfl⟩:=qE.mp hv
  have hlt:i<vs.length:=by
   have:=(Array.Perm.mem_iff hp (a:=i)).mp (Array.mem_toList_iff.mp hi)
   simpa using this
  rw [qL,List.getElem?_eq_getElem hlt]
  exact r1 _ (qX hlt)
 have hwl:ws.length<=sizeLine:=by
  rw [w1.length,Zn hp,sizeLine_eq]
  omega
 obtain ⟨hn,J⟩:=I.laidN (t':=tk) (o:=.lst ws) kp hD ⟨hwl,qbq vs p,e,w1,he⟩
 exact ⟨.ref D,_,J,rfl,q D ws _ hn (w3 _ a1) (a2.trans r2) (qij hp hs)⟩
def qi7 (X:Cx):List V->Hp->VK->Prop:=fun xs H Q=>∃ (S:Addr) (bs:List (Addr×List Int)),xs=[.ref S]/\H S=some (qg0 X.prog X.w S bs)/\InS X.K H bs/\bs.length<4900/\qkD H (fun v ks=>∃ b∈bs,v=V.ref b.1/\ks=b.2) (bs.map (·.2)) Q
theorem qbP (hc:X.calm=true):yu X (.builtin "sorted") (qi7 X):=by
 intro pins s σ H xs us Q I r h
 obtain ⟨S,bs,rfl,hS,hI,hl,q⟩:=h
 obtain ⟨u,rfl,rx⟩:=JI r
 cases rx
 obtain ⟨o,es,ep,t,m,D⟩:=I.setT hS hI
 have hz:=D.len
 rw [List.length_map] at hz
 refine qbA I q (R:=fun us ms=>(∀ v∈us,∃ b∈bs,v=Value.ref b.1)/\(bs.map (·.2)).Perm ms) ?_ fun E'=>qaF (by show X.A.handled=none;exact I.ok.hd hc) D.toB (by omega) fun h' tk kp=>?_
 ·rintro us ms ⟨h1,h2⟩
  refine ⟨fun v hv=>?_,h2.symm⟩
  obtain ⟨b,hb,rfl⟩:=h1 v hv
  exact ⟨b.1,b.2,rfl,hI b hb,b,hb,rfl,rfl⟩
 ·obtain ⟨ms,m1,m2⟩:=qat (Yt X.w S ep es).symm D.en
  refine ⟨h',tk,ms,rfl,kp,?_,?_,?_,m2⟩
  ·have:∀ {l:List (Int×Value)}{ks:List (List Int)},PySem.Paired (Zp X.prog X.w s.heap) l ks->PySem.Paired (jn h') (l.map (·.2)) ks:=by
    intro l ks z
    induction z with
    | nil=>exact .nil
    | cons r _ ih=>exact .cons (r.1.kept fun b o e _=>kp b o e) ih
   exact this m1
  ·rw [List.length_map,Array.length_toList,j9];omega
  ·intro v hv
   obtain ⟨e,he,rfl⟩:=qE.mp hv
   exact D.own e ((Yt X.w S ep es).mem_iff.mp he)
def qeo (ks:List Int):PyData:=.tuple (ks.map PyData.int)
variable {K:W.Frag}
theorem IsAll.tups {H:Hp}:∀ {us:List V}{kss:List (List Int)},IsAll K H us (kss.map qeo)->(∀ k∈kss,k≠[])->PySem.Paired (qag K H) us kss
 | _,[],.nil,_=>.nil
 | _,k::kss,.cons h t,hn=>by
  refine .cons ?_ (IsAll.tups t fun z hz=>hn z (qk _ hz))
  unfold qeo at h
  cases h with
  | @tup a xs _ h1 h2 =>
   rw [h2.ints_of] at h1
   exact ⟨⟨a,rfl,h1⟩,hn _ qv⟩
theorem qag.is {H:Hp}{v:V}{ks:List Int}(h:qag K H v ks):Is K H v (qeo ks):=by
 obtain ⟨⟨a,rfl,h1⟩,_⟩:=h
 exact .tup h1 (IsAll.ints ks)
theorem qag.up {μ:Mu}{H:Hp}{v:V}{ks:List Int}(h:qag K (mask μ H) v ks):qag K H v ks:=h.same yL
def qgV (P:Program) (w:World) (K:W.Frag) (ms:List (List Int)):Stb where
 R v H:=∃ S bs,v = .ref S/\H S=some (qg0 P w S bs)/\InS K H bs/\bs.map (·.2)=ms/\ms.Nodup/\ms.length<4915
 st:=fun v H H' s ⟨S,bs,e,h1,h2,h3,h4,h5⟩=>⟨S,bs,e,s _ _ h1,h2.same s,h3,h4,h5⟩
def qcB (P:Program) (w:World) (K:W.Frag):RAd:=fun es μ Q=>match es with
 | [e]=>∃ kss:List (List Int),LstOf μ e (kss.map qeo)/\(∀ k∈kss,k≠[])/\(∀ ms:List (List Int),ms.Nodup->(∀ q∈ms,q∈kss)->ms.length<4900)/\∀ ms,(∀ q,q∈ms ↔ q∈kss)->ms.Nodup->ms.length<4915->Q (.x (qgV P w K ms)) μ
 | _=>False
theorem qh4 {P:Program}{w:World}(hc:X.calm=true) (hu:X.A.units+64<cLine) (hK:X.K=K:=by rfl) (hP:X.prog=P:=by rfl) (hw:X.w=w:=by rfl):yu X (.type "set") (upC K (qcB P w K)):=by
 subst hK hP hw
 refine (qdX hc hu).mono fun xs H Q h=>?_
 obtain ⟨μ,es,Q0,M,hp,q,cl⟩:=h
 unfold qcB at q
 split at q
 ·obtain ⟨v,rfl,i1⟩:=Jp hp
  obtain ⟨kss,h1,hne,h64,q⟩:=q
  obtain ⟨p,ys,rfl,h2,h3⟩:=h1.get M i1
  have hT:=IsAll.tups h3 hne
  refine ⟨p,ys,kss,rfl,h2,JT hT (fun x _ y h=>h.up),h64,fun S bs hS _ ix mem nd lt=>?_⟩
  obtain ⟨M4,s4,hn⟩:=M.laid (o:=qg0 X.prog X.w S bs) hS
  refine cl _ μ _ _ (q (bs.map (·.2)) mem nd (by rw [List.length_map];exact lt)) M4 s4 ⟨S,bs,rfl,?_,fun b hb=>?_,rfl,nd,by rw [List.length_map];exact lt⟩
  ·rw [yH hn];exact yd
  ·obtain ⟨i,e1,e2⟩:=ix b hb
   obtain ⟨ks,e3,tn⟩:=L2.Paired.get hT e1
   rw [e2] at e3
   cases e3
   exact tn.same s4
 ·exact q.elim
def qiW (P:Program) (w:World) (K:W.Frag):RAd:=fun es μ Q=>match es with
 | [e]=>∃ kss:List (List Int),LstOf μ e (kss.map qeo)/\(∀ k∈kss,k≠[])/\kss.length<4900/\∀ ms,(∀ q,q∈ms ↔ q∈kss)->ms.Nodup->ms.length<4915->Q (.x (qgV P w K ms)) μ
 | _=>False
theorem qkk {P:Program}{w:World}(hc:X.calm=true) (hu:X.A.units+64<cLine) (hK:X.K=K:=by rfl) (hP:X.prog=P:=by rfl) (hw:X.w=w:=by rfl):yu X (.type "set") (upC K (qiW P w K)):=by
 refine (qh4 hc hu hK hP hw).mono fun xs H Q h=>?_
 obtain ⟨μ,es,Q0,M,hp,q,cl⟩:=h
 refine ⟨μ,es,Q0,M,hp,?_,cl⟩
 unfold qiW at q
 unfold qcB
 split at q
 ·obtain ⟨kss,h1,hne,h64,q⟩:=q
  exact ⟨kss,h1,hne,fun ms nd hm=>jf (YK nd hm) h64,q⟩
 ·exact q
def qg7 (P:Program) (w:World) (K:W.Frag):RAd:=fun es μ Q=>∃ ms,es=[.x (qgV P w K ms)]/\ms.length<4900/\∀ ks,ks.Perm ms->Srt ks->Q (.d (.list (ks.map qeo))) μ
theorem qa7 {Pv:V->List Int->Prop}{H:Hp}:∀ {vs:List V}{ms:List (List Int)},PySem.Paired Pv vs ms->(∀ v k,Pv v k->Is K H v (qeo k))->IsAll K H vs (ms.map qeo)
 | _,_,.nil,_=>.nil
 | _,_,.cons h t,f=>.cons (f _ _ h) (qa7 t f)
theorem qfg {P:Program}{w:World}(hc:X.calm=true) (hK:X.K=K:=by rfl) (hP:X.prog=P:=by rfl) (hw:X.w=w:=by rfl):yu X (.builtin "sorted") (upC K (qg7 P w K)):=by
 subst hK hP hw
 refine (qbP hc).mono fun xs H Q h=>?_
 obtain ⟨μ,es,Q0,M,hp,q,cl⟩:=h
 obtain ⟨ms,rfl,h64,q⟩:=q
 obtain ⟨v,rfl,i1⟩:=Jp hp
 obtain ⟨S,bs,rfl,h1,h2,rfl,h4,h5⟩:=i1
 rw [List.length_map] at h64
 refine ⟨S,bs,rfl,yL _ _ h1,fun b hb=>(h2 b hb).up,h64,fun D vs ks hD hP hp hs=>?_⟩
 obtain ⟨M4,s4,hn⟩:=M.laid (o:=.lst vs) hD
 refine cl _ μ _ _ (q ks hp hs) M4 s4 (.lst (SqL.of (by rw [yH hn];exact yd)) (qa7 hP fun v k hv=>?_))
 obtain ⟨b,hb,rfl,rfl⟩:=hv
 exact ((h2 b hb).same s4).is
end
open PySem PySem.Spec PyProof.Rows
section
variable {X:Cx}{K:W.Frag}
theorem LstOf.is {μ:Mu}{e:En}{ds:List PyData}{H:Hp}{v:V}(h:LstOf μ e ds) (M:RelM K μ H) (i:IsE K μ H v e):Is K H v (.list ds):=by
 obtain ⟨p,xs,rfl,h1,h2⟩:=h.get M i
 exact .lst h1 (IsAll.same yL h2)
end
section
variable {X:Cx}{pins:List (Addr×Obj)}{σ:St}{H:Hp}{s:Shared}
end
section
variable {X:Cx}{K:W.Frag}
def qdz (ds:List PyData):List PyData:=(List.range ds.length).map fun (i:Nat)=>.tuple [.int (i:Int),ds.getD i .none]
def itE (e:En) (ds:List PyData):Itd:=⟨ds.length,fun i=>.d (.tuple [.int (i:Int),ds.getD i .none]),fun μ=>LstOf μ e ds⟩
theorem ZV (ds:List PyData):(qdz ds).length=ds.length:=by simp [qdz]
theorem qdy {ds:List PyData}{i:Nat}{x:PyData}(h:ds[i]?=some x):(qdz ds)[i]?=some (.tuple [.int (i:Int),x]):=by
 have hi:i<ds.length:=(qm.mp h).1
 unfold qdz
 rw [List.getElem?_map,List.getElem?_range hi,<- jw h]
 rfl
theorem Src.e {e:En}{ds:List PyData}{μ:Mu}(h:LstOf μ e ds):Src (itE e ds) (qdz ds) μ:=by
 refine ⟨(ZV ds).symm,fun i x q=>?_,h⟩
 have hi:i<ds.length:=by
  have:=(qm.mp q).1
  rwa [ZV] at this
 rw [qdy (List.getElem?_eq_getElem hi)] at q
 cases q
 show En.d (.tuple [.int (i:Int),ds.getD i .none])=_
 rw [jw (List.getElem?_eq_getElem hi)]
end
section
variable {prog:Program}{w:World}{A:Around}{R:Result->Shared->Prop}{s:Shared}
abbrev two (elt t1 i1 t2 i2:Expr) (f1 f2:List Expr) (scope:Scope) (pos:Pos):Expr:=.ListComp elt [⟨t1,i1,f1,0⟩,⟨t2,i2,f2,0⟩] scope pos
end
section
variable {X:Cx}
end
section
variable {X:Cx}{K:W.Frag}{tg iter tg2 iter2:Expr}{pos:Pos}
end
end L2
namespace PySem
open Sem (wp)
section
variable {prog:Program}{w:World}{A:Around}{E:Value->Shared->Prop}{s:Shared}
end
structure Nx (prog:Program) (w:World) (A:Around) (fr:List Addr) (it:Addr) (st:Nat->Heap->Prop) (xs:Array Value):Prop where
 mem:it∈fr
 obj:∀ i h,st i h->∃ o,h.get? it=some o/\∀ v,o.data≠.cell v
 keep:∀ i h h',st i h->(∀ b∈fr,∀ o,h.get? b=some o->h'.get? b=some o)->st i h'
 item:∀ (i:Nat) (s:Shared) (x:Value) (Q:Value->Shared->Prop) (E:Value->Shared->Prop),st i s.heap->xs[i]?=some x →
  (∀ h',st (i+1) h'->Heap.SameBut it s.heap h'->Q x { s with heap:=h' })->wpAny (model prog w) A (Builtin.SmallTypes.nextOf (.ref it)) Q E s
 stop:∀ (i:Nat) (s:Shared) (Q:Value->Shared->Prop) (E:Value->Shared->Prop),st i s.heap->xs[i]?=none →
  (∀ h' e,Heap.ExtBut it s.heap h'->(∃ o,h'.get? e=some o/\o.cls = .type "StopIteration")->E (.ref e) { s with heap:=h' })->wpAny (model prog w) A (Builtin.SmallTypes.nextOf (.ref it)) Q E s
structure ZAp (z TI TO i1 i2:Addr) (f1 f2:List Addr):Prop where
 TIz:TI≠z
 TOz:TO≠z
 TITO:TI≠TO
 z1:z∉f1
 z2:z∉f2
 o1:TO∉f1
 o2:TO∉f2
 t1:TI≠i1
 t2:TI≠i2
 a12:i1∉f2
 a21:i2∉f1
section
variable {prog:Program}{w:World}{A:Around}{E:Value->Shared->Prop}{s:Shared}{z TI TO i1 i2:Addr}{f1 f2:List Addr}{s1 s2:Nat->Heap->Prop}{xs ys:Array Value}{k1 k2:Nat}{x y a b:Value}
end
section
variable {prog:Program}{w:World}{A:Around}{E:Value->Shared->Prop}{s:Shared}
end
end PySem
namespace L2
open PySem PySem.Spec PyProof.Rows
section
variable {X:Cx}{K:W.Frag}
def itZ (ds es:List PyData):Itd:=⟨min ds.length es.length,fun i=>.d (.tuple [ds.getD i .none,es.getD i .none]),fun _=>True⟩
def zipD (ds es:List PyData):List PyData:=List.zipWith (fun a b=>.tuple [a,b]) ds es
theorem Src.z {ds es:List PyData}{μ:Mu}:Src (itZ ds es) (zipD ds es) μ:=by
 refine ⟨by simp [zipD,itZ],fun i x q=>?_,trivial⟩
 unfold zipD at q
 rw [List.getElem?_zipWith] at q
 show En.d (.tuple [ds.getD i .none,es.getD i .none])=_
 cases e1:ds[i]? with
 | none=>rw [e1] at q;simp at q
 | some a =>
  cases e2:es[i]? with
  | none=>rw [e1,e2] at q;simp at q
  | some b =>
   rw [e1,e2] at q
   rw [jw e1,jw e2]
   exact congrArg En.d (by simpa using q)
end
theorem jO:∀ {ns:List Int}{its:List Value},yo (ns.map V.int) its->∃ xs:List (Int×Tok),its=xs.map (fun p=>.int p.1 p.2)/\xs.map Prod.fst=ns
 | [],_,.nil=>⟨[],rfl,rfl⟩
 | n::ns,_,.cons r t=>by
  obtain ⟨u,rfl⟩:=r
  obtain ⟨xs,rfl,e⟩:=jO t
  exact ⟨(n,u)::xs,rfl,by simp [e]⟩
section
variable {X:Cx}{K:W.Frag}
theorem qd1 (hc:X.calm=true):yu X (.builtin "max") (fun xs H Q=>∃ p ns,xs=[.ref p]/\SqL X.K H p (ns.map V.int)/\ns≠[]/\∀ m:Int,m∈ns->(∀ a∈ns,a<=m)->Q (.int m) H):=by
 intro pins s σ H xs us Q I r h
 obtain ⟨p,ns,rfl,hq,hne,q⟩:=h
 obtain ⟨u,rfl,rx⟩:=JI r
 cases rx
 obtain ⟨its,rv,pl,_⟩:=I.list hq
 obtain ⟨ys,rfl,e⟩:=jO rv
 have hl:s.heap.IsList p (intItems ys.toArray):=by
  have:=pl.isList
  simpa [intItems] using this
 have hn:0<ys.length:=by
  have:=yZ.mpr hne
  rw [<- e,List.length_map] at this
  exact this
 refine max_intList (I.ok.hd hc) hl (by simpa using hn) fun v h' tk hv hk=>?_
 obtain ⟨t,rfl⟩:=intItems_at hv
 obtain ⟨h1,h2⟩:=argBest_gt (numAt ys.toArray) (ys.toArray.size - 1)
 have na:∀ j,j<ys.length->∃ z,ns[j]?=some z/\numAt ys.toArray j=z:=fun j hj=>by
  refine ⟨ys[j].1,by rw [<- e];simp [hj],by simp [numAt,hj]⟩
 refine ⟨.int _,H,I.kept hk,⟨_,rfl⟩,q _ ?_ fun a ha=>?_⟩
 ·have h0:argBest (fun i j=>decide (numAt ys.toArray i > numAt ys.toArray j)) (ys.toArray.size - 1)<ys.length:=by
   simp only [List.size_toArray] at h1 ⊢;omega
  obtain ⟨z,e1,e2⟩:=na _ h0
  rw [e2]
  exact List.mem_of_getElem? e1
 ·obtain ⟨j,hj⟩:=List.mem_iff_getElem?.mp ha
  have hj2:j<ys.length:=by
   have:=(qm.mp hj).1
   rwa [<- e,List.length_map] at this
  obtain ⟨z,e1,e2⟩:=na j hj2
  rw [hj] at e1
  cases e1
  rw [<- e2]
  exact h2 j (by simp only [List.size_toArray];omega)
def qf9:RAd:=fun es μ Q=>match es with
 | [e]=>∃ ns:List Int,LstOf μ e (ns.map PyData.int)/\ns≠[]/\∀ m:Int,m∈ns->(∀ a∈ns,a<=m)->Q (.d (.int m)) μ
 | _=>False
theorem qaC (hc:X.calm=true) (hK:X.K=K:=by rfl):yu X (.builtin "max") (upC K qf9):=by
 subst hK
 refine (qd1 hc).mono fun xs H Q h=>?_
 obtain ⟨μ,es,Q0,M,hp,q,cl⟩:=h
 unfold qf9 at q
 split at q
 ·obtain ⟨v,rfl,i1⟩:=Jp hp
  obtain ⟨ns,h1,hne,q⟩:=q
  obtain ⟨p,ys,rfl,h2,h3⟩:=h1.get M i1
  rw [h3.ints_of] at h2
  exact ⟨p,ns,rfl,h2,hne,fun m h4 h5=>cl _ μ _ _ (q m h4 h5) M (ye.refl _) (.int _)⟩
 ·exact q.elim
end
section
variable {X:Cx}{K:W.Frag}{pos:Pos}
end
section
variable {X:Cx}{K:W.Frag}{pins:List (Addr×Obj)}{σ:List (Option V)}{H:Hp}{s:Shared}
end
section
variable {X:Cx}{K:W.Frag}{pos:Pos}
theorem IsAll.set {H:Hp}{v:V}{d:PyData}(h:Is K H v d):∀ {vs:List V}{ds:List PyData}(j:Nat),IsAll K H vs ds->IsAll K H (vs.set j v) (ds.set j d)
 | _,_,_,.nil=>.nil
 | _,_,0,.cons _ r=>.cons h r
 | _,_,j+1,.cons i r=>.cons i (IsAll.set h j r)
def qi3:R2d:=fun x y μ Q=>∃ ds es:List PyData,x = .d (.tuple ds)/\y = .d (.tuple es)/\ds≠[]/\es≠[]/\ds.length+es.length<=4000/\Q (.d (.tuple (ds++es))) μ
theorem qdI (hK:X.K=K:=by rfl):OpR X (binaryOp .Add) (upR K qi3):=by
 subst hK
 refine qht.mono fun x y H Q h=>?_
 obtain ⟨μ,e,e',Q0,M,i1,i2,q,cl⟩:=h
 obtain ⟨ds,es,rfl,rfl,h1,h2,hl,q⟩:=q
 cases i1 with
 | @tup p xs _ g1 g2 =>
 cases i2 with
 | @tup p' ys _ g1' g2' =>
  have l1:=g2.len
  have l2:=g2'.len
  have n1:xs≠[]:=fun z=>h1 (by subst z;exact List.length_eq_zero_iff.mp l1.symm)
  have n2:ys≠[]:=fun z=>h2 (by subst z;exact List.length_eq_zero_iff.mp l2.symm)
  refine ⟨p,p',xs,ys,rfl,rfl,g1.up,g1'.up,n1,yx (yP (show xs.length+ys.length<=4000 by omega)),fun z=>absurd z n2,fun _ l hl=>?_⟩
  obtain ⟨M4,s4,hn⟩:=M.laid (o:=.tup (xs++ys)) hl
  exact cl _ μ _ _ q M4 s4 (.tup (SqT.of (by rw [yH hn];exact yd)) (IsAll.same s4 (IsAll.app g2' g2)))
end
section
variable {X:Cx}{K:W.Frag}{pos:Pos}
end
section
variable {X:Cx}{K:W.Frag}
theorem Yr:∀ (ys:List (Int×Tok)) (n:Nat),n<=ys.length->preSum (numAt ys.toArray) n=((ys.map Prod.fst).take n).sum
 | ys,0,_=>by simp [preSum]
 | ys,n+1,h=>by
  have hn:n<(ys.map Prod.fst).length:=by rw [List.length_map];omega
  rw [preSum,Yr ys n (by omega),List.take_add_one,List.getElem?_eq_getElem hn,List.sum_append]
  simp [numAt,show n<ys.length by omega]
theorem qdW (hc:X.calm=true):yu X (.builtin "sum") (fun xs H Q=>∃ (p:Addr) (ns:List Int),xs=[.ref p]/\SqL X.K H p (ns.map V.int)/\Q (.int ns.sum) H):=by
 intro pins s σ H xs us Q I r h
 obtain ⟨p,ns,rfl,hq,q⟩:=h
 obtain ⟨u,rfl,rx⟩:=JI r
 cases rx
 obtain ⟨its,rv,pl,_⟩:=I.list hq
 obtain ⟨ys,rfl,e⟩:=jO rv
 have hl:s.heap.IsList p (intItems ys.toArray):=by
  have:=pl.isList
  simpa [intItems] using this
 refine sum_intListG (I.ok.hd hc) hl fun h' tk t' hk=>?_
 have es:preSum (numAt ys.toArray) ys.toArray.size=ns.sum:=by
  rw [List.size_toArray,Yr ys _ (qi _),<- e,List.take_of_length_le (by rw [List.length_map];exact qi _)]
 rw [es]
 exact ⟨.int _,H,I.kept hk,⟨_,rfl⟩,q⟩
def qf7:RAd:=fun es μ Q=>match es with
 | [e]=>∃ ns:List Int,LstOf μ e (ns.map PyData.int)/\Q (.d (.int ns.sum)) μ
 | _=>False
theorem qh3 (hc:X.calm=true) (hK:X.K=K:=by rfl):yu X (.builtin "sum") (upC K qf7):=by
 subst hK
 refine (qdW hc).mono fun xs H Q h=>?_
 obtain ⟨μ,es,Q0,M,hp,q,cl⟩:=h
 unfold qf7 at q
 split at q
 ·obtain ⟨v,rfl,i1⟩:=Jp hp
  obtain ⟨ns,h1,q⟩:=q
  obtain ⟨p,ys,rfl,h2,h3⟩:=h1.get M i1
  rw [h3.ints_of] at h2
  exact ⟨p,ns,rfl,h2,cl _ μ _ _ q M (ye.refl _) (.int _)⟩
 ·exact q.elim
theorem qks:bootBuiltins "sum" = some (.builtin "sum"):=by decide +kernel
theorem qaG:bootBuiltins "reversed" = some (.type "reversed"):=by decide +kernel
variable {pos:Pos}{tr:TAd}
def dPop (to:TEd):TEd:=fun ρ μ Q=>to ρ μ fun x μ1=>match x with
 | .m p=>∃ μ3 μ4 ds z,μ1=μ3++(p,.lst (ds++[z]))::μ4/\Q (.d z) (μ3++(p,.lst ds)::μ4)
 | _=>False
theorem qbH {H:Hp}{xs:List V}{ds:List PyData}{z:PyData}(h:IsAll K H xs (ds++[z])):∃ ys v,xs=ys++[v]/\IsAll K H ys ds/\Is K H v z:=by
 induction ds generalizing xs with
 | nil =>
  cases h with
  | cons a b =>
   cases b
   exact ⟨[],_,rfl,.nil,a⟩
 | cons d ds ih =>
  cases h with
  | cons a b =>
   obtain ⟨ys,v,rfl,h1,h2⟩:=ih b
   exact ⟨_::ys,v,rfl,.cons a h1,h2⟩
theorem d_pop {o:Expr}{to:TEd}{p1:Pos}(ho:DE K X o to) (hK:X.K=K:=by rfl)
  (h:PE X (.Call (.Attribute o "pop" p1) [] [] pos) (tBM0 X.K "list" rPop (up K to))):DE K X (.Call (.Attribute o "pop" p1) [] [] pos) (dPop to):=by
 subst hK
 refine PE.mono h fun σ H Q hq9=>?_
 obtain ⟨ρ,μ,Q0,hS,hM,h,cl⟩:=hq9
 refine ⟨ρ,μ,_,hS,hM,h,fun x μ1 v H1 q M1 s1 i1=>?_⟩
 split at q
 ·rename_i x' p
  obtain ⟨μ3,μ4,ds,z,rfl,q⟩:=q
  have i1:v=_:=i1
  subst i1
  obtain ⟨xs0,e0,hA⟩:=M1.ob p (.lst (ds++[z])) (by simp)
  obtain ⟨ys,y,rfl,h1,h2⟩:=qbH hA
  refine ⟨.inl ⟨rfl,_,SqL.of e0⟩,p,ys++[y],y,rfl,rfl,e0,by simp,?_⟩
  rw [List.dropLast_concat]
  obtain ⟨M3,s3⟩:=M1.write (H':=upd H1 p (.lst ys)) (o':=.lst ds) (fun b u e n=>by rw [yb n];exact e) fun ss=>⟨_,yd,IsAll.same ss h1⟩
  exact cl _ _ y _ q M3 (s1.trans s3) (Is.same s3 h2)
 ·exact q.elim
end
namespace F2
theorem nolen_lr:typeLookup (.type "list_reverseiterator") "__len__" = pure none:=by rw [typeLookup_type,builtinLookup_eq_fast];kernel_rfl
theorem hint_lr:typeLookup (.type "list_reverseiterator") "__length_hint__" = pure (some (.builtin "list_reverseiterator.__length_hint__")):=by rw [typeLookup_type,builtinLookup_eq_fast];kernel_rfl
end F2
section
variable {prog:Program}{w:World}{A:Around}{s:Shared}{R:Result->Shared->Prop}
variable {I:Addr}{fp wr:List Addr}{G:Array GenState->Array GenState->Prop}{n:Nat}{P:Nat->Value->Prop}{St:Nat->Shared->Prop}
theorem qbJ (W:WalksS prog w A.in1 I fp wr G n P St) (hT:∀ i s,St i s->s.TypeIs (.ref I) "list_reverseiterator") (S:Addr) (res:Value) (c₀:Nat) (hst:St 0 s) (hSf:S∉fp) (hI:I∈fp)
  (hS:s.heap.get? S=some { cls:=.type "list",data:=.seq #[] c₀ })
  (hR:∀ s' acc' c',Moved (S::wr) G s s'->s'.heap.get? S=some { cls:=.type "list",dict:=none,data:=.seq acc' c',slots:=#[] }->ItemsOf P acc' n->R (.ok (.ret res)) s') (hn:n<=sizeLine) :
  wpAny (model prog w) A.in1 (Builtin.List.listExtendWith (.ref S) (.ref I) res)
   (fun fin s'=>match fin with | .done f=>R (.ok f) s' | .again c'=>c'.quiet=true/\codeAny (model prog w) A c' R s') (fun e s'=>R (.error e) s') s:=by
 have hSI:S≠I:=fun e=>hSf (e ▸ hI)
 unfold Builtin.List.listExtendWith
 refine qb (wpAny_typeOf (hT 0 _ hst) ?_)
 have h1:Builtin.List.listSameRef (.ref S) (.ref I)=false:=by simp [Builtin.List.listSameRef,hSI]
 rw [if_neg (by rw [h1];decide)]
 refine qb (W.self 0 _ _ _ hst ?_)
 refine qb (yk ?_)
 unfold Builtin.List.listLengthHint
 refine qb (wpAny_specialOf (hT 0 _ hst) F2.nolen_lr ?_)
 show wpAny _ A.in1 (specialOf (Value.ref I) (Str.ofString "__length_hint__") >>= _) _ _ _
 refine qb (wpAny_specialOf (hT 0 _ hst) F2.hint_lr ?_)
 generalize hid:("list_reverseiterator.__length_hint__" : String)=id0
 wp_delta
 rw [show splitId id0=some ("list_reverseiterator", "__length_hint__") from by subst hid;decide +kernel]
 subst hid
 refine qb (wpAny_isInstance (b:=true) (hT 0 _ hst) (by rw [isSubtype_type];kernel_rfl) ?_)
 refine qe ?_
 rw [if_neg (by decide)]
 exact qe ⟨plainId_quiet PySem.F.plain_extend_loop _,codeAny_extend_loopS W hn _ hSf _ n 0 _ _ _ rfl (ya _) hst hS (ItemsOf.nil P) hR⟩
end
section
variable {prog:Program}{w:World}{A:Around}{E:Value->Shared->Prop}{s:Shared}
theorem Zi {I l:Addr}{items:Array Value}{Q:Value->Shared->Prop}(hh:A.handled=none) (hI:s.heap.IsRevIter I l ((items.size:Int) - 1)) (hl:s.heap.IsList l items) (hne:l≠I) (hn:items.size<=sizeLine)
  (hQ:∀ h' tk acc' c',(∀ b o,b≠I->s.heap.get? b=some o->h'.get? b=some o)->h'.get? s.heap.objs.size=some { cls:=.type "list",dict:=none,data:=.seq acc' c',slots:=#[] }->acc'.toList=items.toList.reverse->Q (.ref s.heap.objs.size) { s with heap:=h',toks:=tk }) :
  wpAny (model prog w) A (call (.type "list") [.ref I]) Q E s:=by
 have hIl:I<s.heap.objs.size:=by obtain ⟨o,ho,_⟩:=hI;exact qg ho
 have hll:l<s.heap.objs.size:=by obtain ⟨o,ho,_⟩:=hl;exact qg ho
 have W:=Walks.listRev (prog:=prog) (w:=w) (A:=A.in1.in1) hh I l hne items
 have hSf:s.heap.objs.size∉[I,l]:=by
  simp only [List.mem_cons,List.not_mem_nil,or_false,not_or]
  exact ⟨Nat.ne_of_gt hIl,Nat.ne_of_gt hll⟩
 refine callType_codes (Q₁:=fun obj s₁=>obj = .ref s.heap.objs.size/\s₁={ s with heap:=s.heap.push { cls:=.type "list",data:=.seq #[] } }) PySem.F.called_list (PySem.F.typeCall_list_1 _) PySem.F.entry_list_init
  (code_list_new _ ⟨rfl,rfl⟩) fun obj s₁ h₁=>?_
 obtain ⟨rfl,rfl⟩:=h₁
 have hS:(s.heap.push { cls:=.type "list",data:=.seq #[] }).get? s.heap.objs.size=some { cls:=.type "list",data:=.seq #[] }:=qz _ rfl
 refine ⟨⟨_,hS,rfl⟩,PySem.F.args_list_init_2 _ _,?_⟩
 show wpAny _ A.in1.in1 (do let old <- Builtin.List.listItems (.ref s.heap.objs.size);Builtin.List.listUpdate (.ref s.heap.objs.size) (fun _=>#[]);letGo old.toList.reverse;Builtin.List.listExtendWith (.ref s.heap.objs.size) (.ref I) .none) _ _ _
 refine qb ?_
 unfold Builtin.List.listItems
 refine qb (wpAny_seqItems hS rfl (qe ?_))
 show wpAny _ A.in1.in1 (updateSeq s.heap.objs.size (fun _=>#[]) >>= fun _=>letGo (#[]:Array Value).toList.reverse >>= fun _=>Builtin.List.listExtendWith (.ref s.heap.objs.size) (.ref I) .none) _ _ _
 refine qb (wpAny_updateSeq hS rfl ?_)
 have hS₂:=jh (Obj.mapSeq (fun _=>(#[]:Array Value))) hS rfl
 have oth:∀ b o,b≠s.heap.objs.size->(s.heap.push { cls:=.type "list",data:=.seq #[] }).get? b=some o->((s.heap.push { cls:=.type "list",data:=.seq #[] }).update s.heap.objs.size (Obj.mapSeq (fun _=>(#[]:Array Value)))).get? b=some o :=
  fun b o hb e=>(yD _ _ (Ne.symm hb)).trans e
 have old:∀ b o,s.heap.get? b=some o->((s.heap.push { cls:=.type "list",data:=.seq #[] }).update s.heap.objs.size (Obj.mapSeq (fun _=>(#[]:Array Value)))).get? b=some o :=
  fun b o e=>oth b o (qx (qg e)) (qc _ e)
 refine qb (wpAny_letGo ?_)
 refine qbJ W.toS (fun i u st=>st.2.1.typeIs) s.heap.objs.size .none _ ?_ hSf qv hS₂ (fun s' acc' c' hm hS' hacc=>⟨rfl,?_⟩) hn
 ·refine ⟨ya _,?_,hl.at fun o e=>old l o e⟩
  have:=hI.at fun o e=>old I o e
  simpa using this
 ·have hm1:=hm.heap
  obtain ⟨h',g',d',t',o'⟩:=s'
  obtain ⟨m1,m2,m3,m4,m5⟩:=hm
  have m2:g'=s.gens:=m2
  have m3:d'=s.drawn:=m3
  have m4:o'=s.os:=m4
  subst m2 m3 m4
  refine hQ h' t' acc' c' (fun b o hb e=>m1 b o (by simp only [List.mem_cons,List.not_mem_nil,or_false,not_or];exact ⟨qx (qg e),hb⟩) (old b o e)) hS' ?_
  apply List.ext_getElem?
  intro j
  rw [qj]
  by_cases hj:j<items.size
  ·have hj2:j<acc'.size:=by rw [hacc.1];exact hj
   have e1:=hacc.2 j _ (jo hj2)
   rw [jo hj2,List.getElem?_reverse (by simpa using hj),qj,Array.length_toList]
   exact e1.symm
  ·rw [yc (by rw [hacc.1];omega),List.getElem?_eq_none (by simp;omega)]
end
theorem yo.rev:∀ {xs:List V}{us:List Value},yo xs us->yo xs.reverse us.reverse
 | [],[],.nil=>.nil
 | x::xs,u::us,.cons r t=>by
  rw [List.reverse_cons,List.reverse_cons]
  exact (yo.rev t).append (.cons r .nil)
section
variable {X:Cx}{K:W.Frag}{e:Expr}{te:TE}{p1 p2 p3 pos:Pos}
def tLRev (K:W.Frag) (te:TE):TE:=fun σ H Q=>te σ H fun v H1=>∃ p ys,v = .ref p/\SqL K H1 p ys/\∀ l,H1 l=none->Q (.ref l) (upd H1 l (.lst ys.reverse))
theorem qhk (hc:X.calm=true) (hgl:Gl X "list") (hml:X.mg "list" = none) (hgr:Gl X "reversed") (hmr:X.mg "reversed" = none) (he:PE X e te)
  (h1:starEach [e] X.env=(false,eval e X.env)::starEach [] X.env:=by rfl)
  (h2:starEach [.Call (.Name "reversed" p2) [e] [] p3] X.env=(false,eval (.Call (.Name "reversed" p2) [e] [] p3) X.env)::starEach [] X.env:=by rfl) :
  PE X (.Call (.Name "list" p1) [.Call (.Name "reversed" p2) [e] [] p3] [] pos) (tLRev X.K te):=by
 intro pins s σ H Q I h
 refine wpAny_Call_Name_kw (YM I hgl hml qaH ?_ (by decide) (by decide))
 refine PyProof.Rows.callWith_type1 ?_ h2 rfl
 rw [h2]
 show wpAny _ _ (spliced ((false,eval (.Call (.Name "reversed" p2) [e] [] p3) X.env)::backTo pos (starEach [] X.env))) _ _ s
 refine Calls.spliced_cons ?_
 refine wpAny_Call_Name_kw (YM I hgr hmr qaG ?_ (by decide) (by decide))
 refine PyProof.Rows.callWith_type1 ?_ h1 rfl
 rw [h1]
 show wpAny _ _ (spliced ((false,eval e X.env)::backTo p3 (starEach [] X.env))) _ _ s
 refine Calls.spliced_cons (thn (he pins s σ H _ I h) fun u s1 ⟨x,H1,I1,r1,q1⟩=>?_)
 refine Calls.spliced_nil ?_
 obtain ⟨p,ys,rfl,hq,q⟩:=q1
 cases r1
 obtain ⟨its,rv,pl,hz⟩:=I1.list hq
 refine call_reversed_list pl.isList ?_
 refine Calls.spliced_nil ?_
 have hlt:p<s1.heap.objs.size:=by obtain ⟨o,ho,_⟩:=pl.isList;exact qg ho
 have hlen:=rv.length
 refine Zi (items:=its.toArray) (I1.ok.hd hc) ⟨_,qz _ rfl,rfl,rfl⟩ (pl.isList.at fun o e=>qc _ e) (qx hlt) (by rw [List.size_toArray];omega) fun h' tk acc' c' kp e ea=>?_
 have kp2:∀ b o,s1.heap.get? b=some o->h'.get? b=some o:=fun b o e=>kp b o (qx (qg e)) (qc _ e)
 refine ⟨.ref _,_,I1.laid (t':=tk) kp2 (a:=(s1.heap.push (revObj p ((its.toArray.size:Int) - 1))).objs.size) (by first | exact Nat.le_succ _ | (simp [Heap.push])) (show jJ X.prog X.w _ h' _ (.lst ys.reverse) from ⟨?_,acc'.toList,c',?_,?_⟩),rfl,q _ (I1.hok.fresh (by first | exact Nat.le_succ _ | (simp [Heap.push])))⟩
 ·rw [List.length_reverse];exact hz
 ·rw [ea];exact yo.rev rv
 ·rw [e]
def dLRev (te:TEd):TEd:=fun ρ μ Q=>te ρ μ fun e μ1=>∃ ds,LstOf μ1 e ds/\Q (.d (.list ds.reverse)) μ1
theorem qkn {te:TEd}(hc:X.calm=true) (hgl:Gl X "list") (hml:X.mg "list" = none) (hgr:Gl X "reversed") (hmr:X.mg "reversed" = none) (he:DE K X e te) (hK:X.K=K:=by rfl)
  (h1:starEach [e] X.env=(false,eval e X.env)::starEach [] X.env:=by rfl)
  (h2:starEach [.Call (.Name "reversed" p2) [e] [] p3] X.env=(false,eval (.Call (.Name "reversed" p2) [e] [] p3) X.env)::starEach [] X.env:=by rfl) :
  DE K X (.Call (.Name "list" p1) [.Call (.Name "reversed" p2) [e] [] p3] [] pos) (dLRev te):=by
 subst hK
 refine PE.mono (qhk hc hgl hml hgr hmr he h1 h2) fun σ H Q hq9=>?_
 obtain ⟨ρ,μ,Q0,hS,hM,h,cl⟩:=hq9
 refine ⟨ρ,μ,_,hS,hM,h,fun x μ1 v H1 q M1 s1 i1=>?_⟩
 obtain ⟨ds,hL,q⟩:=q
 obtain ⟨p,ys,rfl,h2,h3⟩:=hL.get M1 i1
 refine ⟨p,ys,rfl,h2,fun l hl=>?_⟩
 obtain ⟨M4,s4,hn⟩:=M1.laid (o:=.lst ys.reverse) hl
 exact cl _ μ1 _ _ q M4 (s1.trans s4) (.lst (SqL.of (by rw [yH hn];exact yd)) (IsAll.rev (IsAll.same s4 h3)))
theorem qak {prog:Program}{w:World}{A:Around}{E:Value->Shared->Prop}{s:Shared}{l:Addr}{items:Array Value}{i:Nat}{Q:List Value->Shared->Prop}(hl:s.heap.IsList l items) (hh:A.handled=none) (hi:i<=items.size) (hz:items.size<=4000)
  (h:∀ D h' tk,(∀ b o,s.heap.get? b=some o->h'.get? b=some o)->s.heap.get? D=none->h'.get? D=some { cls:=.type "list",data:=.seq (items.toList.drop i).toArray }->Q (items.toList.take i++[.ref D]) { s with heap:=h',toks:=tk }) :
  wpAny (model prog w) A (unpackItems (.ref l) (i+1) (some i)) Q E s:=by
 have hlt:l≠s.heap.objs.size:=by obtain ⟨o,ho,_⟩:=hl;exact qx (qg ho)
 unfold unpackItems
 refine qb ?_
 unfold notIterableAtAll
 refine qb (wpAny_specialOf hl.typeIs slot_list_iter.lookup ?_)
 refine qe ?_
 simp only [Bool.false_eq_true,if_false]
 refine qb (yk (wpAny_pyIter_list hl ?_))
 refine qb (yk (W.kun_draw hlt i 0 _ _ ⟨_,qz _ rfl,rfl,rfl⟩ (hl.push _) (by omega) fun h₁ hit₁ hs₁=>?_))
 have hl₁:h₁.IsList l items:=(hl.push _).extBut hs₁.extBut hlt
 rw [Nat.zero_add] at hit₁
 have hit₁':=hit₁
 obtain ⟨oi,hoi,_⟩:=hit₁'
 have hl₁':=hl₁
 obtain ⟨ol,hol,_⟩:=hl₁'
 rw [List.drop_zero]
 have hfl:(items.toList.take i).length=i:=by rw [yg,Array.length_toList];omega
 rw [if_neg (show ¬ ((items.toList.take i).length<i) by rw [hfl];omega)]
 refine qb (yk (W.kun_collect (s:={ s with heap:=h₁ }) (T := "list_iterator") (.inr (.inr (.inl rfl))) (Walks.list (A:=A.in1) hh s.heap.objs.size l hlt items) (fun j u st=>st.1.typeIs) (k:=i) (by omega) ⟨hit₁,hl₁⟩ (qg hoi) (qg hol) (fun h₂ tk hk=>?_) (yx (yP hz))))
 show wpAny _ _ (if (items.toList.drop i).length<i+1 - 1 - i then _ else _) _ _ _
 rw [if_neg (by omega)]
 show wpAny _ _ (newList ((items.toList.drop i).take ((items.toList.drop i).length - (i+1 - 1 - i))) >>= fun d=>pure (items.toList.take i++[d]++(items.toList.drop i).drop ((items.toList.drop i).length - (i+1 - 1 - i)))) _ _ _
 have hmid:(items.toList.drop i).length - (i+1 - 1 - i)=(items.toList.drop i).length:=by omega
 rw [hmid,jN,List.drop_length]
 have he:∀ b o,s.heap.get? b=some o->h₂.get? b=some o:=fun b o e=>hk b o (qx (qg e)) (hs₁.extBut b o (qx (qg e)) (qc _ e))
 have hno:s.heap.get? h₂.objs.size=none:=by
  cases z:s.heap.get? h₂.objs.size with
  | none=>rfl
  | some o=>exact absurd (qg (he _ _ z)) (yQ _)
 refine qb (wpAny_newObj_type (qe (by rw [List.append_nil];exact h _ _ tk (fun b o e=>qc _ (he b o e)) hno (qz _ rfl))) ?_)
 ·have:(items.toList.drop i).length<=4000:=by rw [yy,Array.length_toList];omega
  have:=yP this
  show ((items.toList.drop i).toArray).size<=_
  rw [List.size_toArray]
  omega
end
section
variable {X:Cx}{K:W.Frag}{pos:Pos}
def gStar (K:W.Frag) (i:Nat) (t:TGs):TG:=fun v σ H Q=>∃ p xs,v = .ref p/\SqL K H p xs/\i<=xs.length/\xs.length<=4000/\∀ D,H D=none->t (xs.take i++[.ref D]) σ (upd H D (.lst (xs.drop i))) Q
theorem qhi {es:List Expr}{k:Nat}{t:TGs}{i:Nat}(hc:X.calm=true) (h:PGs X es t)
  (hn:(assignEach es X.env).length=i+1:=by rfl) (hst:(assignEach es X.env).findIdx? (·.1)=some i:=by rfl):PG X (.Tuple es k pos) (gStar X.K i t):=by
 intro pins s σ H v u Q I r hw
 obtain ⟨p,xs,rfl,hq,hi,hz,hw⟩:=hw
 cases r
 obtain ⟨its,rv,pl,_⟩:=I.list hq
 have hlen:=rv.length
 rw [assign_Tuple]
 refine qb (wpAny_standAt ?_)
 unfold unpack
 rw [hn,hst]
 refine qb (yk (qak pl.isList (I.ok.hd hc) (by rw [List.size_toArray];omega) (by rw [List.size_toArray];omega) fun D h' tk kp hD e=>?_))
 obtain ⟨hN,I1⟩:=I.laidN (t':=tk) (a:=D) (o:=.lst (xs.drop i)) kp hD (show jJ X.prog X.w _ h' _ (.lst (xs.drop i)) from ⟨by rw [yy];exact yx (yP (by omega)),its.drop i,_,rv.drop i,by rw [e]⟩)
 exact h pins _ σ _ _ _ Q I1 (by
  show yo (xs.take i++[.ref D]) (its.take i++[.ref D])
  exact (rv.take i).append (.cons rfl .nil)) (hw D hN)
theorem qeI {e:Expr}{p:Pos}{es:List Expr}{t:TG}{u:TGs}(h1:PG X e t) (h2:PGs X es u)
  (hs:(assignEach (.Starred e p::es) X.env).map (·.2)=assign e X.env::(assignEach es X.env).map (·.2):=by rfl):PGs X (.Starred e p::es) (qj9 t u):=by
 intro pins s σ H vs us Q I r h
 obtain ⟨v,vr,e1,h⟩:=h
 subst e1
 cases r with
 | cons r rr =>
  rw [hs]
  refine assignInOrder_cons (thn (h1 pins s σ H _ _ _ I r h) fun _ s1 ⟨σ1,H1,I1,q1⟩=>?_)
  exact h2 pins s1 σ1 H1 _ _ Q I1 rr q1
theorem qfb {e:Expr}{p:Pos}{es:List Expr}{t:TGd}{u:qeb}(h1:DG K X e t) (h2:DGs K X es u)
  (hs:(assignEach (.Starred e p::es) X.env).map (·.2)=assign e X.env::(assignEach es X.env).map (·.2):=by rfl):DGs K X (.Starred e p::es) (J6 t u):=PGs.mono (qeI h1 h2 hs) fun vs σ H Q ⟨ds,ρ,μ,Q0,i1,hS,hM,h,cl⟩=>by
 unfold J6 at h
 split at h
 ·cases i1 with
  | cons i1 i2 =>
   refine ⟨_,_,rfl,.d _,ρ,μ,_,i1,hS,hM,h,fun ρ' μ' σ' H' q S' M' s'=>?_⟩
   exact ⟨_,ρ',μ',Q0,IsAll.same s' i2,S',M',q,cl.same s'⟩
 ·exact h.elim
def qki (i:Nat) (t:qeb):TGd:=fun e ρ μ Q=>∃ ds,LstOf μ e ds/\i<=ds.length/\ds.length<=4000/\t (ds.take i++[.list (ds.drop i)]) ρ μ Q
theorem qh2 {es:List Expr}{k:Nat}{t:qeb}{i:Nat}(hc:X.calm=true) (h:DGs K X es t) (hK:X.K=K:=by rfl)
  (hn:(assignEach es X.env).length=i+1:=by rfl) (hst:(assignEach es X.env).findIdx? (·.1)=some i:=by rfl):DG K X (.Tuple es k pos) (qki i t):=by
 subst hK
 refine PG.mono (qhi hc h hn hst) fun v σ H Q hq9=>?_
 obtain ⟨e,ρ,μ,Q0,i1,hS,hM,h,cl⟩:=hq9
 obtain ⟨ds,hL,hi,hz,h⟩:=h
 obtain ⟨p,xs,rfl,h2,h3⟩:=hL.get hM i1
 have hl:=h3.len
 refine ⟨p,xs,rfl,h2,by omega,by omega,fun D hD=>?_⟩
 obtain ⟨M4,s4,hn⟩:=hM.laid (o:=.lst (xs.drop i)) hD
 refine ⟨_,ρ,μ,Q0,IsAll.snoc (.lst (SqL.of (by rw [yH hn];exact yd)) (IsAll.drop i (IsAll.same s4 h3))) (IsAll.take i (IsAll.same s4 h3)),hS.same s4,M4,h,cl.same s4⟩
end
section
variable {X:Cx}{K:W.Frag}{pos:Pos}
end
end L2
namespace L2
def ac (a b c:Pt):Int:=(b.1 - a.1) * (c.2 - a.2) - (b.2 - a.2) * (c.1 - a.1)
def Ps (v:Pt):Prop:=0<v.1\/(v.1=0/\0<v.2)
def sb2 (p q:Pt):Pt:=(p.1 - q.1,p.2 - q.2)
theorem mulP {a b:Int}(hb:0<b) (h:0<a * b):0<a:=by
 rcases Int.lt_or_le 0 a with z | z
 ·exact z
 ·have:=Int.mul_le_mul_of_nonneg_right z (Int.le_of_lt hb)
  omega
theorem mulN {a b:Int}(hb:0<b) (h:0<=a * b):0<=a:=by
 rcases Int.lt_or_le a 0 with z | z
 ·have:=Int.mul_lt_mul_of_pos_right z hb
  omega
 ·exact z
theorem qaE (u v w:Pt):crs u w * v.1=crs u v * w.1+crs v w * u.1:=by unfold crs;grind
theorem qha {v:Pt}(h:Ps v):0<=v.1:=by rcases h with h | h <;> omega
theorem tr0 {u v w:Pt}(hu:Ps u) (hv:Ps v) (hw:Ps w) (h1:0<=crs u v) (h2:0<=crs v w):0<=crs u w:=by
 have id:=qaE u v w
 have ux:=qha hu
 have wx:=qha hw
 rcases hv with hv | ⟨v1,v2⟩
 ·have a:=Int.mul_nonneg h1 wx
  have b:=Int.mul_nonneg h2 ux
  exact mulN hv (by omega)
 ·unfold crs at h2 ⊢
  rw [v1] at h2
  have w1:w.1=0:=by
   rcases Int.lt_or_le 0 w.1 with z | z
   ·have:=yF v2 z
    omega
   ·omega
  have w2:0<w.2:=by rcases hw with hw | hw <;> omega
  rw [w1]
  have:=Int.mul_nonneg ux (Int.le_of_lt w2)
  omega
theorem tr1 {u v w:Pt}(hu:Ps u) (hv:Ps v) (hw:Ps w) (h1:0<crs u v) (h2:0<=crs v w):0<crs u w:=by
 have id:=qaE u v w
 have ux:=qha hu
 have wx:=qha hw
 have u1:0<u.1:=by
  rcases hu with hu | ⟨e1,e2⟩
  ·exact hu
  ·unfold crs at h1
   rw [e1] at h1
   have:=Int.mul_nonneg (Int.le_of_lt e2) (qha hv)
   omega
 rcases hw with hw | ⟨w1,w2⟩
 ·rcases hv with hv | ⟨v1,v2⟩
  ·have a:=yF h1 hw
   have b:=Int.mul_nonneg h2 ux
   exact mulP hv (by omega)
  ·unfold crs at h2
   rw [v1] at h2
   have:=yF v2 hw
   omega
 ·unfold crs
  rw [w1]
  have:=yF u1 w2
  omega
theorem tr2 {u v w:Pt}(hu:Ps u) (hv:Ps v) (hw:Ps w) (h1:0<=crs u v) (h2:0<crs v w):0<crs u w:=by
 have id:=qaE u v w
 have ux:=qha hu
 have wx:=qha hw
 have v1:0<v.1:=by
  rcases hv with hv | ⟨e1,e2⟩
  ·exact hv
  ·unfold crs at h2
   rw [e1] at h2
   have:=Int.mul_nonneg (Int.le_of_lt e2) wx
   omega
 rcases hu with hu | ⟨u1,u2⟩
 ·have a:=Int.mul_nonneg h1 wx
  have b:=yF h2 hu
  exact mulP v1 (by omega)
 ·unfold crs at h1
  rw [u1] at h1
  have:=yF u2 v1
  omega
theorem qgb (a b:Pt):a=b\/Ps (sb2 a b)\/Ps (sb2 b a):=by
 unfold Ps sb2
 dsimp only
 by_cases h:a=b
 ·exact .inl h
 ·refine .inr ?_
  have:¬ (a.1=b.1/\a.2=b.2):=fun z=>h (Prod.ext z.1 z.2)
  omega
theorem qbD {a b:Pt}(h:Ps (sb2 a b)) (g:Ps (sb2 b a)):False:=by
 unfold Ps sb2 at *
 dsimp only at *
 omega
theorem qcH {a:Pt}(h:Ps (sb2 a a)):False:=qbD h h
theorem qje {a b c:Pt}(h:Ps (sb2 a b)) (g:Ps (sb2 b c)):Ps (sb2 a c):=by
 unfold Ps sb2 at *
 dsimp only at *
 omega
theorem ac_e (a b c:Pt):ac a b c=crs (sb2 b a) (sb2 c b):=by unfold ac crs sb2;grind
theorem ac_w (a b c:Pt):ac a b c=crs (sb2 b c) (sb2 b a):=by unfold ac crs sb2;grind
theorem qk4 (a b c:Pt):ac a b c=ac b c a:=by unfold ac;grind
theorem ac_1 (a b:Pt):ac a b b=0:=by unfold ac;grind
theorem qk5 (a b:Pt):ac a b a=0:=by unfold ac;grind
theorem qgB (a b q r:Pt):ac a q r = - ac a b q+ac a b r+ac b q r:=by unfold ac;grind
theorem qkC (a b c:Pt):ac (-a.1,-a.2) (-b.1,-b.2) (-c.1,-c.2)=ac a b c:=by unfold ac;grind
def Gd (D:List Pt):List Pt->Prop
 | []=>D=[]
 | [a]=>a∈D/\∀ r∈D,r=a\/Ps (sb2 r a)
 | b::a::t=>b∈D/\Ps (sb2 b a)/\(∀ r∈D,0<=ac a b r)/\(∀ z∈t.head?,0<ac z a b)/\Gd D (a::t)
theorem Gd.mem {D:List Pt}{b:Pt}:∀ {t:List Pt},Gd D (b::t)->b∈D
 | [],h=>h.1
 | _::_,h=>h.1
def Ys (q:Pt):List Pt->List Pt
 | b::a::t=>if ac a b q<=0 then Ys q (a::t) else b::a::t
 | l=>l
theorem qcN {D:List Pt}{q:Pt}(hq:∀ r∈D,Ps (sb2 q r)):∀ {t:List Pt}{b:Pt},Gd D (b::t)->(∀ r∈D,Ps (sb2 r b)->0<=ac b q r) →
  ∃ b' t',Ys q (b::t)=b'::t'/\Gd D (b'::t')/\(∀ r∈D,Ps (sb2 r b')->0<=ac b' q r)/\∀ z∈t'.head?,0<ac z b' q
 | [],b,h,c=>⟨b,[],rfl,h,c,fun _ z=>by cases z⟩
 | a::t,b,h,c=>by
  unfold Ys
  by_cases z:ac a b q<=0
  ·rw [if_pos z]
   refine qcN hq h.2.2.2.2 fun r hr hra=>?_
   have e:=h.2.2.1 r hr
   rcases qgb r b with rfl | k | k
   ·have:=qgB a r q r
    rw [ac_1,show ac r q r=0 from qk5 _ _] at this
    omega
   ·have:=c r hr k
    have:=qgB a b q r
    omega
   ·-- a<r<b
    have g:=hq a h.2.2.2.2.mem
    have e1:0<=crs (sb2 q a) (sb2 b a):=by
     have:ac a b q = - crs (sb2 q a) (sb2 b a):=by unfold ac crs sb2;grind
     omega
    have e2:0<=crs (sb2 b a) (sb2 r a):=by
     have:ac a b r=crs (sb2 b a) (sb2 r a):=by unfold ac crs sb2;grind
     omega
    have:=tr0 g h.2.1 hra e1 e2
    have e3:ac a q r=crs (sb2 q a) (sb2 r a):=by unfold ac crs sb2;grind
    omega
  ·rw [if_neg z]
   refine ⟨b,a::t,rfl,h,c,fun y hy=>?_⟩
   cases hy
   omega
theorem qaA {D:List Pt}{q:Pt}:∀ {t:List Pt}{a b:Pt},Gd D (b::a::t)->Ps (sb2 q b)->0<ac a b q->∀ {X Y:List Pt}{x y:Pt},b::a::t=X++y::x::Y->0<ac x y q
 | t,a,b,_,_,h,[],Y,x,y,e=>by
  cases e
  exact h
 | [],a,b,_,_,_,c::X,Y,x,y,e=>by
  have:=congrArg List.length e
  simp at this
  omega
 | z::t,a,b,g,hq,h,c::X,Y,x,y,e=>by
  have e2:a::z::t=X++y::x::Y:=(List.cons.inj e).2
  have g2:=g.2.2.2.2
  have hz:=g.2.2.2.1 z rfl
  refine qaA g2 (qje hq g.2.1) ?_ e2
  rw [ac_e] at h hz
  have:=tr2 g2.2.1 g.2.1 hq (Int.le_of_lt hz) h
  have s:ac z a q=crs (sb2 a z) (sb2 b a)+crs (sb2 a z) (sb2 q b):=by unfold ac crs sb2;grind
  omega
theorem qgp {D:List Pt}{q:Pt}(hq:∀ r∈D,Ps (sb2 q r)):∀ {t:List Pt}{b:Pt},Gd D (b::t)->(∀ z∈t.head?,0<ac z b q)->Gd (D++[q]) (b::t)
 | [],b,h,_=>⟨yv _ h.1,fun r hr=>by
   rcases List.mem_append.mp hr with z | z
   ·exact h.2 r z
   ·rw [qI.mp z];exact .inr (hq b h.1)⟩
 | a::t,b,h,k=>by
  have h0:=k a rfl
  refine ⟨yv _ h.1,h.2.1,fun r hr=>?_,h.2.2.2.1,qgp hq h.2.2.2.2 fun z hz=>?_⟩
  ·rcases List.mem_append.mp hr with z | z
   ·exact h.2.2.1 r z
   ·rw [qI.mp z];omega
  ·cases t with
   | nil=>cases hz
   | cons y t =>
    cases hz
    exact qaA h (hq b h.1) h0 (X:=[b]) (Y:=t) rfl
theorem qg9 {D S:List Pt}{q:Pt}(hq:∀ r∈D,Ps (sb2 q r)) (hS:Gd D S) (ht:∀ b∈S.head?,∀ r∈D,r=b\/Ps (sb2 b r)):Gd (D++[q]) (q::Ys q S):=by
 cases S with
 | nil =>
  have hD:D=[]:=hS
  subst hD
  exact ⟨by simp,fun r hr=>.inl (by simpa using hr)⟩
 | cons b t =>
  obtain ⟨b',t',e,g,c,k⟩:=qcN hq hS fun r hr hrb=>by
   rcases ht b rfl r hr with z | z
   ·rw [z] at hrb;exact (qcH hrb).elim
   ·exact (qbD hrb z).elim
  rw [e]
  have hb:=g.mem
  refine ⟨by simp,hq b' hb,fun r hr=>?_,k,qgp hq g k⟩
  rcases List.mem_append.mp hr with z | z
  ·rcases qgb r b' with y | y | y
   ·rw [y,qk5];omega
   ·exact c r z y
   ·cases t' with
    | nil =>
     rcases g.2 r z with x | x
     ·rw [x,qk5];omega
     ·exact (qbD y x).elim
    | cons a t' =>
     have h0:=k a rfl
     have h1:=g.2.2.1 r z
     rw [ac_w] at h1
     rw [ac_e] at h0
     have:=tr2 y g.2.1 (hq b' hb) h1 h0
     have s:ac b' q r=crs (sb2 b' r) (sb2 q b'):=by unfold ac crs sb2;grind
     omega
  ·rw [qI.mp z,ac_1];omega
def stk (ps:List Pt):List Pt:=ps.foldl (fun S q=>q::Ys q S) []
def Asc (ps:List Pt):Prop:=ps.Pairwise fun a b=>Ps (sb2 b a)
theorem Jx (ps:List Pt) (q:Pt):stk (ps++[q])=q::Ys q (stk ps):=by unfold stk;rw [List.foldl_append];rfl
theorem qer {ps:List Pt}{q:Pt}:(stk (ps++[q])).head?=some q:=by rw [Jx];rfl
theorem qbp {ps:List Pt}{q:Pt}(h:Asc (ps++[q])):Asc ps/\∀ r∈ps,Ps (sb2 q r):=by
 unfold Asc at *
 rw [qJ] at h
 exact ⟨h.1,fun r hr=>h.2.2 r hr q (by simp)⟩
theorem qal {ps:List Pt}(h:Asc ps):∀ b∈(stk ps).head?,∀ r∈ps,r=b\/Ps (sb2 b r):=by
 rcases List.eq_nil_or_concat ps with rfl | ⟨qs,q,rfl⟩
 ·intro b hb;cases hb
 ·rw [List.concat_eq_append] at *
  intro b hb r hr
  rw [qer] at hb
  cases hb
  rcases List.mem_append.mp hr with z | z
  ·exact .inr ((qbp h).2 r z)
  ·exact .inl (by simpa using z)
theorem qce:∀ (n:Nat) {ps:List Pt},ps.length=n->Asc ps->Gd ps (stk ps)
 | 0,ps,e,_=>by rw [List.length_eq_zero_iff.mp e];rfl
 | n+1,ps,e,h=>by
  rcases List.eq_nil_or_concat ps with rfl | ⟨qs,q,rfl⟩
  ·cases e
  ·rw [List.concat_eq_append] at *
   obtain ⟨h1,h2⟩:=qbp h
   rw [Jx]
   exact qg9 h2 (qce n (by simpa using e) h1) (qal h1)
end L2
namespace L2
def gP (P:List Pt) (i:Nat):Pt:=P.getD i (0,0)
theorem jE {P:List Pt}{i:Nat}(h:i<P.length):gP P i=P[i]:=by unfold gP;rw [qL,List.getElem?_eq_getElem h];rfl
theorem jZ {P:List Pt}{i:Nat}(h:i<P.length):gP P i∈P:=by rw [jE h];exact qX h
theorem qkj {S:List Pt}{k:Nat}(h:k<S.length):S.drop k=gP S k::S.drop (k+1):=by rw [jE h];exact List.drop_eq_getElem_cons h
theorem dec2 {S:List Pt}{k:Nat}(h:k+1<S.length):S=S.take k++gP S k::gP S (k+1)::S.drop (k+2):=by
 rw [<- qkj h,<- qkj (show k<S.length by omega),qA]
theorem dec3 {S:List Pt}{k:Nat}(h:k+2<S.length):S=S.take k++gP S k::gP S (k+1)::gP S (k+2)::S.drop (k+3):=by
 rw [<- qkj h,<- qkj (show k+1<S.length by omega),<- qkj (show k<S.length by omega),qA]
theorem qhM {S:List Pt}{k p:Nat}(h:p<k) (hk:k<=S.length):gP S p∈S.take k:=by
 have:p<(S.take k).length:=by rw [yg];omega
 have e:(S.take k)[p]=S[p]:=List.getElem_take
 rw [jE (by omega),<- e]
 exact qX this
theorem qhN {S:List Pt}{k p:Nat}(h:k<=p) (hp:p<S.length):gP S p∈S.drop k:=by
 have hl:p - k<(S.drop k).length:=by rw [yy];omega
 have e:(S.drop k)[p - k]=S[k+(p - k)]:=List.getElem_drop
 rw [jE hp]
 have e2:S[k+(p - k)]=S[p]:=by congr 1;omega
 rw [<- e2,<- e]
 exact qX hl
theorem Gd.tail {D:List Pt}{x:Pt}:∀ {S:List Pt},Gd D (x::S)->S≠[]->Gd D S
 | [],_,h=>absurd rfl h
 | _::_,h,_=>h.2.2.2.2
theorem Gd.edge {D:List Pt}:∀ {X S:List Pt}{a b:Pt}{Y:List Pt},Gd D S->S=X++b::a::Y->Ps (sb2 b a)/\(∀ r∈D,0<=ac a b r)/\a∈D/\b∈D
 | [],S,a,b,Y,h,e=>by
  subst e
  exact ⟨h.2.1,h.2.2.1,h.2.2.2.2.mem,h.1⟩
 | x::X,S,a,b,Y,h,e=>by
  subst e
  exact Gd.edge (h.tail (by simp)) rfl
theorem Gd.turn {D:List Pt}:∀ {X S:List Pt}{a b c:Pt}{Y:List Pt},Gd D S->S=X++c::b::a::Y->0<ac a b c
 | [],S,a,b,c,Y,h,e=>by
  subst e
  exact h.2.2.2.1 a rfl
 | x::X,S,a,b,c,Y,h,e=>by
  subst e
  exact Gd.turn (h.tail (by simp)) rfl
theorem low {D:List Pt}:∀ {Y:List Pt}{a b:Pt},Gd D (b::a::Y)->∀ c∈Y,0<ac a b c/\Ps (sb2 a c)
 | [],_,_,_,_,hc=>nomatch hc
 | z::Y,a,b,h,c,hc=>by
  have g:=h.2.2.2.2
  have t:=h.2.2.2.1 z rfl
  rcases List.mem_cons.mp hc with rfl | hc
  ·exact ⟨by rw [<- qk4];exact t,g.2.1⟩
  ·obtain ⟨k1,k2⟩:=low g c hc
   have ps:=qje g.2.1 k2
   refine ⟨?_,ps⟩
   rw [ac_w] at k1
   rw [ac_e] at t
   have:=tr1 ps g.2.1 h.2.1 k1 (Int.le_of_lt t)
   have s:ac a b c=crs (sb2 a c) (sb2 b a):=by unfold ac crs sb2;grind
   omega
theorem sc {D:List Pt}:∀ {X S:List Pt}{a b:Pt}{Y:List Pt},Gd D S->S=X++b::a::Y->∀ c∈X++Y,0<ac a b c
 | [],S,a,b,Y,h,e,c,hc=>by
  subst e
  exact (low h c hc).1
 | x::X,S,a,b,Y,h,e,c,hc=>by
  subst e
  rcases List.mem_cons.mp hc with rfl | hc
  ·cases X with
   | nil=>exact h.2.2.2.1 a rfl
   | cons y X =>
    have g:Gd D (y::(X++b::a::Y)):=h.tail (by simp)
    cases hX:X++b::a::Y with
    | nil=>simp at hX
    | cons z t =>
     rw [hX] at g
     have h':Gd D (c::y::z::t):=by rw [<- hX];exact h
     refine qaA g h'.2.1 (h'.2.2.2.1 z rfl) (X:=y::X) (Y:=Y) ?_
     rw [<- hX];rfl
  ·exact sc (h.tail (by simp)) rfl c hc
theorem qj6 {a b c u v:Pt}(hd:Ps (sb2 b a)) (hu:Ps (sb2 u c)) (hv:Ps (sb2 c v)) (t:0<ac u c v) (h0:0<=ac a b c) (h1:0<=ac a b u) (h2:0<=ac a b v):0<ac a b c:=by
 rcases Int.lt_or_le 0 (ac a b c) with z | z
 ·exact z
 have z:ac a b c=0:=by omega
 have e1:ac a b u=ac a b c+crs (sb2 b a) (sb2 u c):=by unfold ac crs sb2;grind
 have e2:ac a b v=ac a b c+crs (sb2 c v) (sb2 b a):=by unfold ac crs sb2;grind
 have e3:ac u c v=crs (sb2 u c) (sb2 c v):=by unfold ac crs sb2;grind
 have:=tr1 hu hv hd (by omega) (show 0<=crs (sb2 c v) (sb2 b a) by omega)
 have e4:crs (sb2 b a) (sb2 u c) = - crs (sb2 u c) (sb2 b a):=by unfold crs sb2;grind
 omega
def nP (p:Pt):Pt:=(-p.1,-p.2)
theorem YG (p:Pt):nP (nP p)=p:=by unfold nP;simp
theorem qgk (D:List Pt):(D.map nP).map nP=D:=by rw [List.map_map];exact (List.map_congr_left fun p _=>YG p).trans (List.map_id' D)
theorem qin (a b c:Pt):ac (nP a) (nP b) (nP c)=ac a b c:=qkC a b c
theorem qew (a b:Pt):sb2 (nP a) (nP b)=sb2 b a:=by unfold sb2 nP;ext <;> dsimp only <;> omega
theorem JW {P:List Pt}{i:Nat}(h:i<P.length):gP (P.map nP) i=nP (gP P i):=by
 rw [jE h,jE (by rw [List.length_map];exact h),List.getElem_map]
def Half (A B:List Pt):Prop:=∀ i j,i<A.length->j<(A++B).length->j≠i->j≠(i+1) % (A++B).length->0<ac (gP (A++B) i) (gP (A++B) ((i+1) % (A++B).length)) (gP (A++B) j)
def Cvx (P:List Pt):Prop:=∀ i j,i<P.length->j<P.length->j≠i->j≠(i+1) % P.length->0<ac (gP P i) (gP P ((i+1) % P.length)) (gP P j)
theorem qgr {A B:List Pt}{i:Nat}(h:i<A.length):gP (A++B) i=gP A i:=by
 rw [jE h,jE (by rw [List.length_append];omega),List.getElem_append_left h]
theorem qhT {A B:List Pt}{i:Nat}(h:A.length<=i) (hi:i<(A++B).length):gP (A++B) i=gP B (i - A.length):=by
 rw [jE hi,jE (by rw [List.length_append] at hi;omega),List.getElem_append_right h]
theorem ZU {S:List Pt}{i:Nat}(h:i<S.length):gP S.reverse i=gP S (S.length - 1 - i):=by
 rw [jE (by rw [List.length_reverse];exact h),jE (by omega),List.getElem_reverse]
theorem Yy (x:Pt) (S:List Pt) (i:Nat):gP (x::S) (i+1)=gP S i:=rfl
theorem qdm {D S T:List Pt}{s t:Pt}(gS:Gd D (s::S)) (gT:Gd (D.map nP) ((t::T).map nP)) (e1:gP (t::T) T.length=s) (e2:gP (s::S) S.length=t):Half S.reverse T.reverse:=by
 intro i j hi hj n1 n2
 rw [List.length_reverse] at hi
 have hn:(S.reverse++T.reverse).length=S.length+T.length:=by simp
 rw [hn] at hj n2 ⊢
 have hT:0<T.length:=by
  rcases Nat.eq_zero_or_pos T.length with z | z
  ·exfalso
   have e3:t=s:=by rw [z] at e1;exact e1
   -- the top and the bottom of S are one
   have hm:gP (s::S) S.length∈S:=by
    obtain ⟨m,em⟩:∃ m,S.length=m+1:=⟨S.length - 1,by omega⟩
    rw [em,Yy]
    exact jZ (by omega)
   rw [e2,e3] at hm
   cases S with
   | nil=>simp at hi
   | cons a S =>
    rcases List.mem_cons.mp hm with y | y
    ·rw [y] at gS;exact qcH gS.2.1
    ·exact qbD gS.2.1 (low gS s y).2
  ·exact z
 -- the side
 have hk:S.length - i - 1+1<(s::S).length:=by rw [List.length_cons];omega
 have dS:=dec2 hk
 have ea:gP (S.reverse++T.reverse) i=gP (s::S) (S.length - i - 1+1):=by
  rw [qgr (by rw [List.length_reverse];exact hi),ZU hi,Yy]
  congr 1;omega
 have et:gP T.reverse 0=s:=by
  rw [ZU hT,<- e1]
  obtain ⟨m,em⟩:∃ m,T.length=m+1:=⟨T.length - 1,by omega⟩
  rw [em,Yy]
  rfl
 have eb:gP (S.reverse++T.reverse) ((i+1) % (S.length+T.length))=gP (s::S) (S.length - i - 1):=by
  rw [qD (by omega)]
  by_cases z:i+1<S.length
  ·rw [qgr (by rw [List.length_reverse];exact z),ZU z]
   rw [show S.length - i - 1=(S.length - 1 - (i+1))+1 by omega,Yy]
  ·rw [qhT (by rw [List.length_reverse];omega) (by rw [hn];omega),show i+1 - S.reverse.length=0 by rw [List.length_reverse];omega,et,show S.length - i - 1=0 by omega]
   rfl
 rw [qD (by omega)] at n2
 rw [ea,eb]
 obtain ⟨hd,hull,_,_⟩:=gS.edge dS
 have hlen:(s::S).length=S.length+1:=rfl
 -- a corner of S
 have own:∀ p,p<(s::S).length->p<S.length - i - 1\/S.length - i - 1+2<=p->0<ac (gP (s::S) (S.length - i - 1+1)) (gP (s::S) (S.length - i - 1)) (gP (s::S) p):=fun p hp hpp=>by
  refine sc gS dS _ ?_
  rcases hpp with z | z
  ·exact yv _ (qhM z (by omega))
  ·exact qF _ (qhN z hp)
 by_cases z:j<S.length
 ·rw [qgr (by rw [List.length_reverse];exact z),ZU z,show gP S (S.length - 1 - j)=gP (s::S) (S.length - 1 - j+1) from rfl]
  refine own _ (by omega) ?_
  omega
 ·rw [qhT (by rw [List.length_reverse];omega) (by rw [hn];omega),List.length_reverse]
  by_cases y:j=S.length
  ·rw [y,Nat.sub_self,et]
   exact own 0 (by omega) (by omega)
  ·-- an qj6 corner of T
   obtain ⟨q,hq⟩:∃ q,q=j - S.length:=⟨_,rfl⟩
   rw [<- hq,ZU (by omega)]
   have hlT:((t::T).map nP).length=T.length+1:=by simp
   have ht2:(t::T).length=T.length+1:=rfl
   have dT:=dec3 (S:=(t::T).map nP) (k:=T.length - q - 1) (by omega)
   have tn:=gT.turn dT
   have d1:=gT.edge (X:=((t::T).map nP).take (T.length - q - 1)) dT
   have d2:=gT.edge (X:=((t::T).map nP).take (T.length - q - 1)++[gP ((t::T).map nP) (T.length - q - 1)]) (by rw [qo];exact dT)
   rw [JW (by omega),JW (by omega)] at d1
   rw [JW (by omega),JW (by omega)] at d2
   rw [JW (by omega),JW (by omega),JW (by omega)] at tn
   have back:∀ p,nP p∈D.map nP->p∈D:=fun p hp=>by
    obtain ⟨r,hr,er⟩:=qE.mp hp
    have:=congrArg nP er
    rw [YG,YG] at this
    rw [<- this];exact hr
   rw [qin] at tn
   have s1:=d1.1
   have s2:=d2.1
   rw [qew] at s1 s2
   have ec:gP T (T.length - 1 - q)=gP (t::T) (T.length - q - 1+1):=by rw [Yy];congr 1;omega
   rw [ec]
   exact qj6 hd s2 s1 tn (hull _ (back _ d1.2.2.1)) (hull _ (back _ d2.2.2.1)) (hull _ (back _ d1.2.2.2))
theorem qiI {A B:List Pt}(h1:Half A B) (h2:Half B A):Cvx (A++B):=by
 intro i j hi hj n1 n2
 by_cases z:i<A.length
 ·exact h1 i j z hj n1 n2
 ·have l1:(A++B).length=A.length+B.length:=List.length_append
  have l2:(B++A).length=A.length+B.length:=by rw [List.length_append];omega
  have mv:∀ p,p<A.length+B.length->gP (A++B) p=gP (B++A) (if p<A.length then p+B.length else p - A.length):=fun p hp=>by
   by_cases y:p<A.length
   ·rw [if_pos y,qgr y,qhT (by omega) (by omega)]
    congr 1;omega
   ·rw [if_neg y,qhT (by omega) (by omega),qgr (by omega)]
  rw [l1] at hi hj n2 ⊢
  have hm:(i+1) % (A.length+B.length)<A.length+B.length:=yE _ (by omega)
  have key:(if (i+1) % (A.length+B.length)<A.length then (i+1) % (A.length+B.length)+B.length else (i+1) % (A.length+B.length) - A.length)=((i - A.length)+1) % (A.length+B.length):=by
   by_cases y:i+1=A.length+B.length
   ·rw [y,Nat.mod_self]
    by_cases x:A.length=0
    ·rw [if_neg (by omega),Nat.zero_sub,show i - A.length+1=A.length+B.length by omega,Nat.mod_self]
    ·rw [if_pos (by omega),qD (by omega)];omega
   ·rw [qD (show i+1<A.length+B.length by omega),if_neg (by omega),qD (by omega)];omega
  rw [mv i hi,mv j hj,mv _ hm,key,if_neg z]
  have:=h2 (i - A.length) (if j<A.length then j+B.length else j - A.length) (by omega) (by rw [l2];split <;> omega) (by split <;> omega) (by
   rw [l2,<- key]
   split <;> split <;> omega)
  rw [l2] at this
  exact this
end L2
namespace L2
def outer (row:List Pt):List Pt:=(stk row).tail.reverse++(stk row.reverse).tail.reverse
theorem qcM (q:Pt):∀ S:List Pt,Ys (nP q) (S.map nP)=(Ys q S).map nP
 | []=>rfl
 | [_]=>rfl
 | b::a::t=>by
  show Ys (nP q) (nP b::nP a::t.map nP)=_
  unfold Ys
  rw [qin]
  split
  ·exact qcM q (a::t)
  ·rfl
theorem qds:∀ (ps S:List Pt),(ps.map nP).foldl (fun S q=>q::Ys q S) (S.map nP)=(ps.foldl (fun S q=>q::Ys q S) S).map nP
 | [],_=>rfl
 | p::ps,S=>by
  rw [List.map_cons,List.foldl_cons,List.foldl_cons,qcM]
  exact qds ps (p::Ys p S)
theorem qfH (ps:List Pt):stk (ps.map nP)=(stk ps).map nP:=qds ps []
theorem qd9 {row:List Pt}(h:Asc row):Asc (row.reverse.map nP):=by
 unfold Asc at *
 rw [List.pairwise_map,List.pairwise_reverse]
 exact h.imp fun {a b} k=>by rw [qew];exact k
theorem Gd.bot {D:List Pt}:∀ {S:List Pt}{s:Pt},Gd D (s::S)->gP (s::S) S.length∈D/\∀ r∈D,r=gP (s::S) S.length\/Ps (sb2 r (gP (s::S) S.length))
 | [],s,h=>h
 | a::S,s,h=>Gd.bot (S:=S) (s:=a) h.2.2.2.2
theorem qfG {ps:List Pt}(h:ps≠[]):∃ s S,stk ps=s::S/\s∈ps:=by
 rcases List.eq_nil_or_concat ps with rfl | ⟨qs,q,rfl⟩
 ·exact absurd rfl h
 ·rw [List.concat_eq_append]
  exact ⟨q,_,Jx qs q,by simp⟩
theorem qdn {D D':List Pt}(h:∀ p,p∈D ↔ p∈D'):∀ {S:List Pt},S≠[]->Gd D S->Gd D' S
 | [],n,_=>absurd rfl n
 | [a],_,g=>⟨(h a).mp g.1,fun r hr=>g.2 r ((h r).mpr hr)⟩
 | b::a::t,_,g=>⟨(h b).mp g.1,g.2.1,fun r hr=>g.2.2.1 r ((h r).mpr hr),g.2.2.2.1,qdn h (by simp) g.2.2.2.2⟩
theorem ZH {row:List Pt}(h:Asc row):Cvx (outer row):=by
 by_cases z:row=[]
 ·subst z
  intro i j hi
  exact absurd hi (Nat.not_lt_zero i)
 obtain ⟨s,S,eS,ms⟩:=qfG z
 obtain ⟨t,T,eT,mt⟩:=qfG (ps:=row.reverse) (by simpa using z)
 have g1:Gd row (s::S):=by rw [<- eS];exact qce _ rfl h
 have g2':Gd (row.reverse.map nP) ((t::T).map nP):=by rw [<- eT,<- qfH];exact qce _ rfl (qd9 h)
 have g2:Gd (row.map nP) ((t::T).map nP):=qdn (fun p=>by simp) (by simp) g2'
 have top1:=qal h s (by rw [eS];rfl)
 have top2:=qal (qd9 h) (nP t) (by rw [qfH,eT];rfl)
 have b1:=g1.bot
 have b2:=Gd.bot (S:=T.map nP) (s:=nP t) g2
 have e1:gP (t::T) T.length=s:=by
  have ee:gP (nP t::T.map nP) (T.map nP).length=nP (gP (t::T) T.length):=by
   have:=JW (P:=t::T) (i:=T.length) (by simp)
   rw [List.length_map];exact this
  rw [ee] at b2
  have mm:gP (t::T) T.length∈row:=by
   obtain ⟨r,hr,er⟩:=qE.mp b2.1
   have:=congrArg nP er
   rw [YG,YG] at this
   rw [<- this];exact hr
  rcases top1 _ mm with k | k
  ·exact k
  ·rcases b2.2 (nP s) (qE.mpr ⟨s,ms,rfl⟩) with y | y
   ·have:=congrArg nP y
    rw [YG,YG] at this
    exact this.symm
   ·rw [qew] at y
    exact (qbD k y).elim
 have e2:gP (s::S) S.length=t:=by
  have mt2:t∈row:=List.mem_reverse.mp mt
  rcases b1.2 t mt2 with k | k
  ·exact k.symm
  ·rcases top2 (nP (gP (s::S) S.length)) (qE.mpr ⟨_,by simpa using b1.1,rfl⟩) with y | y
   ·have:=congrArg nP y
    rw [YG,YG] at this
    exact this
   ·rw [qew] at y
    exact (qbD k y).elim
 unfold outer
 rw [eS,eT]
 refine qiI (qdm g1 g2 e1 e2) ?_
 -- the way back,turned about
 have hb:=qdm (D:=row.map nP) (S:=T.map nP) (T:=S.map nP) (s:=nP t) (t:=nP s) g2 (by
   have ee:(nP s::S.map nP).map nP=s::S:=by rw [List.map_cons,YG,qgk]
   rw [qgk,ee]
   exact g1)
  (by have:=JW (P:=s::S) (i:=S.length) (by simp);rw [List.length_map];rw [e2] at this;exact this)
  (by have:=JW (P:=t::T) (i:=T.length) (by simp);rw [List.length_map];rw [e1] at this;exact this)
 intro i j hi hj n1 n2
 have em:(T.map nP).reverse++(S.map nP).reverse=(T.reverse++S.reverse).map nP:=by rw [List.map_append,List.map_reverse,List.map_reverse]
 have hl:((T.map nP).reverse++(S.map nP).reverse).length=(T.reverse++S.reverse).length:=by rw [em,List.length_map]
 have hi':i<T.reverse.length:=hi
 have hj':j<(T.reverse++S.reverse).length:=hj
 have:=hb i j (by rw [List.length_reverse,List.length_map];rw [List.length_reverse] at hi';exact hi') (by rw [hl];exact hj') n1 (by rw [hl];exact n2)
 rw [hl,em] at this
 have hlen:(T.reverse++S.reverse).length=T.reverse.length+S.reverse.length:=List.length_append
 rw [JW (by omega),JW (yE _ (by omega)),JW hj',qin] at this
 exact this
def nx (P:List Pt) (i:Nat):Pt:=gP P ((i+1) % P.length)
theorem qgT {a b c:Pt}(h:0<ac a b c):Cvx [a,b,c]:=by
 have h2:0<ac b c a:=by rw [<- qk4];exact h
 have h3:0<ac c a b:=by rw [<- qk4];exact h2
 intro i j hi hj n1 n2
 have hi:i<3:=hi
 have hj:j<3:=hj
 have n2:j≠(i+1) % 3:=n2
 have:(i=0/\j=2)\/(i=1/\j=0)\/(i=2/\j=1):=by omega
 rcases this with ⟨rfl,rfl⟩ | ⟨rfl,rfl⟩ | ⟨rfl,rfl⟩
 ·exact h
 ·exact h2
 ·show 0<ac (gP [a,b,c] 2) (gP [a,b,c] (3 % 3)) (gP [a,b,c] 1)
  rw [Nat.mod_self]
  exact h3
theorem qgU {A B:List Pt}(h:Cvx (A++B)):Cvx (B++A):=by
 have l1:(A++B).length=A.length+B.length:=List.length_append
 have l2:(B++A).length=A.length+B.length:=by rw [List.length_append];omega
 have mv:∀ p,p<A.length+B.length->gP (B++A) p=gP (A++B) (if p<B.length then p+A.length else p - B.length):=fun p hp=>by
  by_cases y:p<B.length
  ·rw [if_pos y,qgr y,qhT (by omega) (by omega)]
   congr 1;omega
  ·rw [if_neg y,qhT (by omega) (by omega),qgr (by omega)]
 intro i j hi hj n1 n2
 rw [l2] at hi hj n2 ⊢
 have hm:(i+1) % (A.length+B.length)<A.length+B.length:=yE _ (by omega)
 have key:∀ k,k<A.length+B.length->(if (k+1) % (A.length+B.length)<B.length then (k+1) % (A.length+B.length)+A.length else (k+1) % (A.length+B.length) - B.length)=((if k<B.length then k+A.length else k - B.length)+1) % (A.length+B.length):=fun k hk=>by
  by_cases y:k+1=A.length+B.length
  ·rw [y,Nat.mod_self]
   by_cases x:B.length=0
   ·rw [if_neg (by omega),Nat.zero_sub,if_neg (by omega),show k - B.length+1=A.length+B.length by omega,Nat.mod_self]
   ·rw [if_pos (by omega)]
    by_cases u:k<B.length
    ·rw [if_pos u,show k+A.length+1=(A.length+B.length)+A.length by omega,Nat.add_mod_left,qD (by omega)];omega
    ·rw [if_neg u,qD (by omega)];omega
  ·rw [qD (show k+1<A.length+B.length by omega)]
   by_cases u:k<B.length
   ·rw [if_pos u]
    by_cases v:k+1<B.length
    ·rw [if_pos v,qD (by omega)];omega
    ·rw [if_neg v,show k+A.length+1=A.length+B.length by omega,Nat.mod_self];omega
   ·rw [if_neg u,if_neg (by omega),qD (by omega)];omega
 rw [mv i hi,mv j hj,mv _ hm,key i hi]
 have:=h (if i<B.length then i+A.length else i - B.length) (if j<B.length then j+A.length else j - B.length) (by rw [l1];split <;> omega) (by rw [l1];split <;> omega) (by split <;> split <;> omega) (by
  rw [l1,<- key i hi]
  split <;> split <;> omega)
 rw [l1] at this
 exact this
theorem ac_aa (a c:Pt):ac a a c=0:=by unfold ac;grind
theorem qdQ {P:List Pt}(h:Cvx P) (h3:3<=P.length):P.Nodup:=by
 unfold List.Nodup
 rw [qK]
 intro i j hi hj hij e
 have e':gP P i=gP P j:=by rw [jE hi,jE hj];exact e
 have hm:(i+1) % P.length=i+1:=qD (by omega)
 by_cases z:j=i+1
 ·obtain ⟨k,hk,k1,k2⟩:∃ k,k<P.length/\k≠i/\k≠i+1:=by
   by_cases y:i=0
   ·exact ⟨2,by omega,by omega,by omega⟩
   ·exact ⟨0,by omega,by omega,by omega⟩
  have:=h i k hi hk k1 (by rw [hm];exact k2)
  rw [hm,<- z,<- e',ac_aa] at this
  omega
 ·have:=h i j hi hj (by omega) (by rw [hm];exact z)
  rw [<- e',qk5] at this
  omega
def Zr (P:List Pt):Int:=((List.range P.length).map fun k=>crs (gP P k) (nx P k)).sum
def fan (P:List Pt) (m:Nat):Int:=((List.range m).map fun k=>ac (gP P 0) (gP P (k+1)) (gP P (k+2))).sum
def pth (P:List Pt) (m:Nat):Int:=((List.range m).map fun k=>crs (gP P k) (gP P (k+1))).sum
theorem qdt (P:List Pt):∀ m,fan P m=pth P (m+1)+crs (gP P (m+1)) (gP P 0)
 | 0=>by
  show (0:Int)=crs (gP P 0) (gP P 1)+0+_
  unfold crs
  grind
 | m+1=>by
  have ih:=qdt P m
  have e1:fan P (m+1)=fan P m+ac (gP P 0) (gP P (m+1)) (gP P (m+2)):=by unfold fan;rw [List.range_succ,List.map_append,List.sum_append];simp
  have e2:pth P (m+1+1)=pth P (m+1)+crs (gP P (m+1)) (gP P (m+2)):=by unfold pth;rw [List.range_succ (n:=m+1),List.map_append,List.sum_append];simp
  have e3:ac (gP P 0) (gP P (m+1)) (gP P (m+2))=crs (gP P (m+1)) (gP P (m+2)) - crs (gP P (m+1)) (gP P 0)+crs (gP P (m+2)) (gP P 0):=by unfold ac crs;grind
  rw [e1,e2,ih,e3]
  show _=_+crs (gP P (m+2)) (gP P 0)
  omega
theorem qfv {P:List Pt}(h:2<=P.length):Zr P=fan P (P.length - 2):=by
 rw [qdt,show P.length - 2+1=P.length - 1 by omega]
 have e:P.length=(P.length - 1)+1:=by omega
 unfold Zr pth
 conv=>lhs;rw [e]
 rw [List.range_succ,List.map_append,List.sum_append]
 have e1:(List.range (P.length - 1)).map (fun k=>crs (gP P k) (nx P k))=(List.range (P.length - 1)).map fun k=>crs (gP P k) (gP P (k+1)):=List.map_congr_left fun k hk=>by
  have:=List.mem_range.mp hk
  unfold nx
  rw [qD (by omega)]
 have e2:nx P (P.length - 1)=gP P 0:=by unfold nx;rw [show P.length - 1+1=P.length by omega,Nat.mod_self]
 rw [e1]
 simp [e2]
theorem qcd:∀ {l:List Int},(∀ x∈l,0<x)->0<l.length->0<l.sum
 | [x],h,_=>by simpa using h x (by simp)
 | x::y::t,h,_=>by
  have:=qcd (l:=y::t) (fun z hz=>h z (qk _ hz)) (by simp)
  have:=h x (by simp)
  rw [List.sum_cons]
  omega
theorem qhW {P:List Pt}(h:Cvx P) (h3:3<=P.length):0<fan P (P.length - 2):=by
 unfold fan
 refine qcd (fun x hx=>?_) (by simp;omega)
 obtain ⟨k,hk,rfl⟩:=qE.mp hx
 have hk:=List.mem_range.mp hk
 have:=h (k+1) 0 (by omega) (by omega) (by omega) (by rw [qD (by omega)];omega)
 rw [qD (by omega)] at this
 rw [qk4]
 exact this
end L2
namespace L2
abbrev Qt:=Rat×Rat
def cq (A B:Qt):Rat:=A.1 * B.2 - A.2 * B.1
section
variable (a b t:Rat)
def uQ (A:Qt):Rat:=a * A.1+b * A.2 - t
def rQ (A:Qt):Rat:=a * A.2 - b * A.1
def gQ (A B:Qt):Rat:=(rQ a b B - rQ a b A) * (uQ a b t A+uQ a b t B)
theorem cq_id (A B:Qt):(a * a+b * b) * cq A B=gQ a b t A B - (uQ a b t B * rQ a b B - uQ a b t A * rQ a b A)+t * (rQ a b B - rQ a b A):=by
 unfold cq gQ uQ rQ
 grind
def xQ (A B:Qt):Qt:=((A.1 * uQ a b t B - B.1 * uQ a b t A) / (uQ a b t B - uQ a b t A),(A.2 * uQ a b t B - B.2 * uQ a b t A) / (uQ a b t B - uQ a b t A))
def em (A B:Qt):List Qt:=(if uQ a b t A * uQ a b t B<0 then [xQ a b t A B] else [])++(if uQ a b t B<=0 then [B] else [])
def ZG (A B:Qt):Rat :=
 if uQ a b t A<=0 then
  if uQ a b t B<=0 then gQ a b t A B else -(rQ a b B - rQ a b A) * (uQ a b t A * uQ a b t A) / (uQ a b t B - uQ a b t A)
 else if uQ a b t B<=0 then -(rQ a b B - rQ a b A) * (uQ a b t B * uQ a b t B) / (uQ a b t A - uQ a b t B) else 0
def gp:Qt->List Qt->Rat
 | _,[]=>0
 | Z,W::l=>gQ a b t Z W+gp W l
def lst:Qt->List Qt->Qt
 | Z,[]=>Z
 | _,W::l=>lst W l
end
end L2
namespace L2
section
variable (a b t:Rat)
end
open PySem PySem.Spec PyProof.Rows
def Sz (k:Nat) (i:Int):Prop:=i.natAbs<2 ^ k
theorem Sz.mul {j k:Nat}{a b:Int}(ha:Sz j a) (hb:Sz k b):Sz (j+k) (a * b):=by
 unfold Sz at *
 rw [Int.natAbs_mul,Nat.pow_add]
 exact Nat.mul_lt_mul'' ha hb
theorem Sz.mono {j k:Nat}{a:Int}(h:j<=k) (ha:Sz j a):Sz k a:=qH ha (Nat.pow_le_pow_right (by decide) h)
theorem Sz.add {k:Nat}{a b:Int}(ha:Sz k a) (hb:Sz k b):Sz (k+1) (a+b):=by
 unfold Sz at *
 have:=Int.natAbs_add_le a b
 rw [Nat.pow_succ]
 omega
theorem Sz.neg {k:Nat}{a:Int}(ha:Sz k a):Sz k (-a):=by unfold Sz at *;rw [Int.natAbs_neg];exact ha
theorem Sz.sub {k:Nat}{a b:Int}(ha:Sz k a) (hb:Sz k b):Sz (k+1) (a - b):=by rw [Int.sub_eq_add_neg];exact ha.add hb.neg
theorem Sz.of {k:Nat}{a:Int}(n:Nat) (h:a.natAbs<=n) (hn:n<2 ^ k):Sz k a:=jf h hn
theorem Sz.bits {k:Nat}{i:Int}(h:Sz k i) (hk:k<2 ^ 20):Builtin.Int.intBits i<=2 ^ 20:=by
 unfold Builtin.Int.intBits
 by_cases h0:i.natAbs=0
 ·have:i=0:=by omega
  subst this
  decide
 ·have:=(Nat.log2_lt h0).mpr h
  split <;> omega
section
variable {X:Cx}{K:W.Frag}
def qiq (i j:Int):Prop:=∃ k,k<2 ^ 20/\Sz k i/\Sz k j
theorem qhs:OpR X (binaryOp .Mult) (rI qiq fun i j=>.int (i * j)):=opI fun _ _ _ _ _ _ _ ⟨k,hk,h1,h2⟩ q=>mul_int q (IntMulOk.of_bits (h1.bits hk) (h2.bits hk))
def qis (i j:Int):Prop:=j≠0/\Sz 9000 j
theorem qeP:OpR X (binaryOp .FloorDiv) (rI qis fun i j=>.int (i.fdiv j)):=opI fun i j _ _ _ _ _ hc q=>floordiv_int hc.1 q (.inl (PyProof.noPylong_of_log2 (by
 by_cases h0:j.natAbs=0
 ·exact absurd (by omega) hc.1
 ·exact (Nat.log2_lt h0).mpr hc.2)))
theorem qG:OpR X (binaryOp .Mult) (upR K (rdI qiq fun i j=>.int (i * j))):=qhs.mono fun _ _ _ _=>qb7
theorem Ze:OpR X (binaryOp .FloorDiv) (upR K (rdI qis fun i j=>.int (i.fdiv j))):=qeP.mono fun _ _ _ _=>qb7
theorem jq {j k:Nat}{a b:Int}(ha:Sz j a) (hb:Sz k b) (h:j+k<2 ^ 20):qiq a b:=⟨j+k,h,ha.mono (by omega),hb.mono (by omega)⟩
end
end L2
namespace L2
abbrev Tr:=Int×Int×Int
def fr (v:Pt) (n d:Int) (q:Pt):Int:=d * (v.1 * q.1+v.2 * q.2) - n
def pq (p:Pt):Qt:=((p.1:Rat),(p.2:Rat))
theorem YA {d:Int}(h:d≠0):(d:Rat)≠0:=fun z=>h (Rat.intCast_inj.mp (by rw [z];rfl))
def bt (x:Tr):Nat:=if x.2.2=1 then 0 else 245
end L2
namespace L2
def js (f:Nat->Rat):Nat->Rat
 | 0=>0
 | n+1=>js f n+f n
theorem yX {f g:Nat->Rat}:∀ {n:Nat},(∀ k,k<n->f k=g k)->js f n=js g n
 | 0,_=>rfl
 | n+1,h=>by
  show js f n+f n=js g n+g n
  rw [yX (n:=n) fun k hk=>h k (by omega),h n (by omega)]
def gT (C:List Tr) (k:Nat):Tr:=C.getD k (0,0,1)
end L2
namespace L2
end L2
namespace L2
def yO (n:Nat):Rat:=1 / ((n:Rat)+1)
theorem qhG (n:Nat):(0:Rat)<(n:Rat)+1:=by
 have:(0:Rat)<=(n:Rat):=by exact_mod_cast ya n
 grind
theorem ZX (n:Nat):yO n * ((n:Rat)+1)=1:=by
 unfold yO
 have:=qhG n
 grind
theorem y4 (n:Nat):0<yO n:=by
 have h:=ZX n
 have p:=qhG n
 by_cases z:0<yO n
 ·exact z
 ·have:=Rat.mul_nonneg (a:=-yO n) (by grind) (Rat.le_of_lt p)
  grind
theorem qiN (x:Rat):∃ N:Nat,x<=(N:Rat):=by
 refine ⟨x.floor.natAbs+1,?_⟩
 have h:=Rat.lt_floor (x:=x)
 have n1:(x.floor:Rat)+1<=((x.floor.natAbs+1:Nat):Rat):=by
  have:x.floor+1<=((x.floor.natAbs+1:Nat):Int):=by omega
  exact_mod_cast this
 grind
theorem jk (C:Rat) {δ:Rat}(d0:0<δ):∃ N:Nat,∀ n,N<=n->C * yO n<=δ:=by
 obtain ⟨N,hN⟩:=qiN (C / δ)
 refine ⟨N,fun n hn=>?_⟩
 have hn':(N:Rat)<=(n:Rat):=by exact_mod_cast hn
 have c:C<=δ * ((n:Rat)+1):=by
  have e:C / δ * δ=C:=by grind
  have:=Rat.mul_le_mul_of_nonneg_right (show C / δ<=(n:Rat)+1 by grind) (Rat.le_of_lt d0)
  grind
 have:=Rat.mul_le_mul_of_nonneg_right c (Rat.le_of_lt (y4 n))
 have m:=ZX n
 have:δ * ((n:Rat)+1) * yO n=δ:=by grind
 grind
theorem sqlt {a b:Rat}(hb:0<=b) (h:a * a<b * b):a<b:=by
 by_cases z:a<b
 ·exact z
 ·have:=Rat.mul_nonneg (a:=a - b) (b:=a+b) (by grind) (by grind)
  grind
theorem qit (x:Rat):0<=x * x:=by
 rcases Rat.le_total (a:=0) (b:=x) with z | z
 ·exact Rat.mul_nonneg z z
 ·have:=Rat.mul_nonneg (a:=-x) (b:=-x) (by grind) (by grind)
  grind
theorem qba:∀ M:Nat,∃ R:Nat,R * R<=M/\M<(R+1) * (R+1)
 | 0=>⟨0,by decide,by decide⟩
 | M+1=>by
  obtain ⟨R,h1,h2⟩:=qba M
  by_cases c:M+1<(R+1) * (R+1)
  ·exact ⟨R,by omega,c⟩
  ·refine ⟨R+1,by omega,?_⟩
   have:(R+1+1) * (R+1+1)=(R+1) * (R+1)+2 * (R+1)+1:=by grind
   omega
structure Rt (r:Int) (ρ:Nat->Rat):Prop where
 nn:∀ n,0<=ρ n
 le:∀ n,ρ n * ρ n<=(r:Rat)
 lt:∀ n,(r:Rat)<(ρ n+yO n) * (ρ n+yO n)
theorem qiT {r:Int}(h:0<=r):∃ ρ,Rt r ρ:=by
 have key:∀ n:Nat,∃ x:Rat,0<=x/\x * x<=(r:Rat)/\(r:Rat)<(x+yO n) * (x+yO n):=fun n=>by
  obtain ⟨R,h1,h2⟩:=qba (r.toNat * ((n+1) * (n+1)))
  have p:=qhG n
  have m:=ZX n
  have er:((r.toNat:Nat):Rat)=(r:Rat):=by
   have:((r.toNat:Nat):Int)=r:=by omega
   exact_mod_cast this
  have h1:((R:Nat):Rat) * R<=r * (((n:Rat)+1) * ((n:Rat)+1)):=by rw [<- er];exact_mod_cast h1
  have h2:(r:Rat) * (((n:Rat)+1) * ((n:Rat)+1))<((R:Rat)+1) * ((R:Rat)+1):=by rw [<- er];exact_mod_cast h2
  have r0:(0:Rat)<=(R:Rat):=by exact_mod_cast ya R
  have e0:=y4 n
  refine ⟨R * yO n,Rat.mul_nonneg r0 (Rat.le_of_lt e0),?_,?_⟩
  ·have:=Rat.mul_le_mul_of_nonneg_right h1 (qit (yO n))
   have e:(r:Rat) * (((n:Rat)+1) * ((n:Rat)+1)) * (yO n * yO n)=r:=by
    have:(((n:Rat)+1) * ((n:Rat)+1)) * (yO n * yO n)=(yO n * ((n:Rat)+1)) * (yO n * ((n:Rat)+1)):=by grind
    rw [Rat.mul_assoc,this,m]
    grind
   grind
  ·have:=Rat.mul_lt_mul_of_pos_right h2 (Rat.mul_pos e0 e0)
   have e:(r:Rat) * (((n:Rat)+1) * ((n:Rat)+1)) * (yO n * yO n)=r:=by
    have:(((n:Rat)+1) * ((n:Rat)+1)) * (yO n * yO n)=(yO n * ((n:Rat)+1)) * (yO n * ((n:Rat)+1)):=by grind
    rw [Rat.mul_assoc,this,m]
    grind
   grind
 exact ⟨fun n=>Classical.choose (key n),fun n=>(Classical.choose_spec (key n)).1,fun n=>(Classical.choose_spec (key n)).2.1,fun n=>(Classical.choose_spec (key n)).2.2⟩
theorem Rt.near {r:Int}{ρ:Nat->Rat}(h:Rt r ρ) (m n:Nat):ρ m<ρ n+yO n:=by
 have a:=h.le m
 have b:=h.lt n
 have:=h.nn n
 have:=y4 n
 exact sqlt (by grind) (by grind)
abbrev j4:=Nat->Rat
def SLin (u:j4):Prop:=∃ C,0<=C/\∀ m n,u m - u n<=C * (yO m+yO n)
def J1 (u:j4):Prop:=∃ ε,0<ε/\∃ N,∀ n,N<=n->ε<=u n
def YC (u:j4):Prop:=∃ C,0<=C/\∀ n,u n<=C * yO n/\-(C * yO n)<=u n
def SBd (u:j4):Prop:=∃ B,0<=B/\∀ n,u n<=B/\-B<=u n
theorem qgw (n:Nat):yO n<=1:=by
 have m:=ZX n
 have e0:=y4 n
 have:(0:Rat)<=(n:Rat):=by exact_mod_cast ya n
 have:=Rat.mul_nonneg (Rat.le_of_lt e0) this
 grind
theorem qbg {r:Int}{ρ:Nat->Rat}(h:Rt r ρ) (y:Rat):∃ C,0<=C/\∀ m n,y * ρ m - y * ρ n<=C * (yO m+yO n):=by
 rcases Rat.le_total (a:=0) (b:=y) with z | z
 ·refine ⟨y,z,fun m n=>?_⟩
  have:=h.near m n
  have:=y4 m
  have:=Rat.mul_nonneg z (show 0<=yO m+yO n - (ρ m - ρ n) by grind)
  grind
 ·refine ⟨-y,by grind,fun m n=>?_⟩
  have:=h.near n m
  have:=y4 n
  have:=Rat.mul_nonneg (show 0 <= -y by grind) (show 0<=yO m+yO n - (ρ n - ρ m) by grind)
  grind
theorem lin3 {r s:Int}{ρ σ:j4}(h1:Rt r ρ) (h2:Rt s σ) (x y z:Rat):SLin (fun n=>x+y * ρ n+z * σ n):=by
 obtain ⟨C,c0,hC⟩:=qbg h1 y
 obtain ⟨D,d0,hD⟩:=qbg h2 z
 refine ⟨C+D,by grind,fun m n=>?_⟩
 have:=hC m n
 have:=hD m n
 grind
theorem qiL {u:j4}(h:SLin u):J1 u\/YC u\/J1 (fun n=>-u n):=by
 obtain ⟨C,c0,h⟩:=h
 by_cases a:∃ n,2 * C * yO n<u n
 ·obtain ⟨n,hn⟩:=a
  obtain ⟨N,hN⟩:=jk C (δ:=(u n - C * yO n) / 2) (by have:=Rat.mul_nonneg c0 (Rat.le_of_lt (y4 n));grind)
  refine .inl ⟨(u n - C * yO n) / 2,by have:=Rat.mul_nonneg c0 (Rat.le_of_lt (y4 n));grind,N,fun m hm=>?_⟩
  have:=h n m
  have:=hN m hm
  grind
 ·by_cases b:∃ n,2 * C * yO n < -u n
  ·obtain ⟨n,hn⟩:=b
   obtain ⟨N,hN⟩:=jk C (δ:=(-u n - C * yO n) / 2) (by have:=Rat.mul_nonneg c0 (Rat.le_of_lt (y4 n));grind)
   refine .inr (.inr ⟨(-u n - C * yO n) / 2,by have:=Rat.mul_nonneg c0 (Rat.le_of_lt (y4 n));grind,N,fun m hm=>?_⟩)
   have:=h m n
   have:=hN m hm
   grind
  ·refine .inr (.inl ⟨2 * C,by grind,fun n=>?_⟩)
   have a1:¬ 2 * C * yO n<u n:=fun z=>a ⟨n,z⟩
   have b1:¬ 2 * C * yO n < -u n:=fun z=>b ⟨n,z⟩
   constructor <;> grind
theorem YC.bd {u:j4}(h:YC u):SBd u:=by
 obtain ⟨C,c0,h⟩:=h
 refine ⟨C,c0,fun n=>?_⟩
 have:=h n
 have:=Rat.mul_nonneg c0 (show 0<=1 - yO n by have:=qgw n;grind)
 constructor <;> grind
theorem Rt.bd {r:Int}{ρ:j4}(h:Rt r ρ):SBd ρ:=by
 refine ⟨ρ 0+yO 0,by have:=h.nn 0;have:=y4 0;grind,fun n=>?_⟩
 have:=h.near n 0
 have:=h.nn n
 have:=h.nn 0
 have:=y4 0
 constructor <;> grind
theorem SBd.mul {u v:j4}(h:SBd u) (g:SBd v):SBd (fun n=>u n * v n):=by
 obtain ⟨B,b0,h⟩:=h
 obtain ⟨D,d0,g⟩:=g
 refine ⟨B * D,Rat.mul_nonneg b0 d0,fun n=>?_⟩
 obtain ⟨h1,h2⟩:=h n
 obtain ⟨g1,g2⟩:=g n
 have a1:=Rat.mul_nonneg (show 0<=B - u n by grind) (show 0<=D+v n by grind)
 have a2:=Rat.mul_nonneg (show 0<=B+u n by grind) (show 0<=D - v n by grind)
 have a3:=Rat.mul_nonneg (show 0<=B - u n by grind) (show 0<=D - v n by grind)
 have a4:=Rat.mul_nonneg (show 0<=B+u n by grind) (show 0<=D+v n by grind)
 constructor <;> grind
theorem SBd.add {u v:j4}(h:SBd u) (g:SBd v):SBd (fun n=>u n+v n):=by
 obtain ⟨B,b0,h⟩:=h
 obtain ⟨D,d0,g⟩:=g
 refine ⟨B+D,by grind,fun n=>?_⟩
 have:=h n
 have:=g n
 constructor <;> grind
theorem SBd.neg {u:j4}(h:SBd u):SBd (fun n=>-u n):=by
 obtain ⟨B,b0,h⟩:=h
 refine ⟨B,b0,fun n=>?_⟩
 have:=h n
 constructor <;> grind
theorem SBd.con (x:Rat):SBd (fun _=>x):=by
 rcases Rat.le_total (a:=0) (b:=x) with z | z
 ·exact ⟨x,z,fun _=>by constructor <;> grind⟩
 ·exact ⟨-x,by grind,fun _=>by constructor <;> grind⟩
theorem YC.add {u v:j4}(h:YC u) (g:YC v):YC (fun n=>u n+v n):=by
 obtain ⟨C,c0,h⟩:=h
 obtain ⟨D,d0,g⟩:=g
 refine ⟨C+D,by grind,fun n=>?_⟩
 have:=h n
 have:=g n
 constructor <;> grind
theorem YC.mul {u v:j4}(h:YC u) (g:SBd v):YC (fun n=>v n * u n):=by
 obtain ⟨C,c0,h⟩:=h
 obtain ⟨D,d0,g⟩:=g
 refine ⟨D * C,Rat.mul_nonneg d0 c0,fun n=>?_⟩
 obtain ⟨h1,h2⟩:=h n
 obtain ⟨g1,g2⟩:=g n
 have a1:=Rat.mul_nonneg (show 0<=D - v n by grind) (show 0<=C * yO n+u n by grind)
 have a2:=Rat.mul_nonneg (show 0<=D+v n by grind) (show 0<=C * yO n - u n by grind)
 have a3:=Rat.mul_nonneg (show 0<=D - v n by grind) (show 0<=C * yO n - u n by grind)
 have a4:=Rat.mul_nonneg (show 0<=D+v n by grind) (show 0<=C * yO n+u n by grind)
 constructor <;> grind
theorem YC.neg {u:j4}(h:YC u):YC (fun n=>-u n):=by
 obtain ⟨C,c0,h⟩:=h
 refine ⟨C,c0,fun n=>?_⟩
 have:=h n
 constructor <;> grind
theorem J1.add {u v:j4}(h:J1 u) (g:J1 v):J1 (fun n=>u n+v n):=by
 obtain ⟨a,a0,N,h⟩:=h
 obtain ⟨b,b0,M,g⟩:=g
 refine ⟨a+b,by grind,N+M,fun n hn=>?_⟩
 have:=h n (by omega)
 have:=g n (by omega)
 grind
theorem J1.mul {u v:j4}(h:J1 u) (g:J1 v):J1 (fun n=>u n * v n):=by
 obtain ⟨a,a0,N,h⟩:=h
 obtain ⟨b,b0,M,g⟩:=g
 refine ⟨a * b,Rat.mul_pos a0 b0,N+M,fun n hn=>?_⟩
 have h1:=h n (by omega)
 have g1:=g n (by omega)
 have x1:=Rat.mul_nonneg (show 0<=u n - a by grind) (show 0<=v n by grind)
 have x2:=Rat.mul_nonneg (Rat.le_of_lt a0) (show 0<=v n - b by grind)
 grind
theorem J1.nul {u v:j4}(h:J1 u) (g:YC v):J1 (fun n=>u n+v n):=by
 obtain ⟨a,a0,N,h⟩:=h
 obtain ⟨D,d0,g⟩:=g
 obtain ⟨M,hM⟩:=jk D (δ:=a / 2) (by grind)
 refine ⟨a / 2,by grind,N+M,fun n hn=>?_⟩
 have:=h n (by omega)
 have:=g n
 have:=hM n (by omega)
 grind
theorem J1.not_nul {u:j4}(h:J1 u) (g:YC u):False:=by
 obtain ⟨a,a0,N,h⟩:=h
 obtain ⟨D,d0,g⟩:=g
 obtain ⟨M,hM⟩:=jk D (δ:=a / 2) (by grind)
 have:=h (N+M) (by omega)
 have:=g (N+M)
 have:=hM (N+M) (by omega)
 grind
theorem J1.not_neg {u:j4}(h:J1 u) (g:J1 (fun n=>-u n)):False:=by
 obtain ⟨a,a0,N,h⟩:=h
 obtain ⟨b,b0,M,g⟩:=g
 have:=h (N+M) (by omega)
 have:=g (N+M) (by omega)
 grind
def SSg (u:j4) (k:Int):Prop:=(k=1/\J1 u)\/(k=0/\YC u)\/(k = -1/\J1 (fun n=>-u n))
theorem SSg.uniq {u:j4}{k k':Int}(h:SSg u k) (g:SSg u k'):k=k':=by
 rcases h with ⟨rfl,h⟩ | ⟨rfl,h⟩ | ⟨rfl,h⟩ <;> rcases g with ⟨rfl,g⟩ | ⟨rfl,g⟩ | ⟨rfl,g⟩
 ·rfl
 ·exact (h.not_nul g).elim
 ·exact (h.not_neg g).elim
 ·exact (g.not_nul h).elim
 ·rfl
 ·exact (g.not_nul h.neg).elim
 ·exact (g.not_neg h).elim
 ·exact (h.not_nul g.neg).elim
 ·rfl
theorem SSg.congr {u v:j4}{k:Int}(h:SSg u k) (e:∀ n,u n=v n):SSg v k:=by
 have:u=v:=funext e
 rw [<- this]
 exact h
theorem SSg.neg {u:j4}{k:Int}(h:SSg u k):SSg (fun n=>-u n) (-k):=by
 rcases h with ⟨rfl,h⟩ | ⟨rfl,h⟩ | ⟨rfl,h⟩
 ·refine .inr (.inr ⟨rfl,?_⟩)
  have:(fun n=>- -u n)=u:=funext fun n=>by grind
  show J1 (fun n=>- -u n)
  rw [this]
  exact h
 ·exact .inr (.inl ⟨rfl,h.neg⟩)
 ·exact .inl ⟨rfl,h⟩
theorem SSg.addNul {u v:j4}{k:Int}(h:SSg u k) (g:YC v):SSg (fun n=>u n+v n) k:=by
 rcases h with ⟨rfl,h⟩ | ⟨rfl,h⟩ | ⟨rfl,h⟩
 ·exact .inl ⟨rfl,h.nul g⟩
 ·exact .inr (.inl ⟨rfl,h.add g⟩)
 ·refine .inr (.inr ⟨rfl,?_⟩)
  have:=h.nul g.neg
  have e:(fun n=>-u n+-v n)=fun n=>-(u n+v n):=funext fun n=>by grind
  rw [e] at this
  exact this
theorem SSg.mulPos {u v:j4}{k:Int}(h:SSg u k) (p:J1 v) (b:SBd v):SSg (fun n=>v n * u n) k:=by
 rcases h with ⟨rfl,h⟩ | ⟨rfl,h⟩ | ⟨rfl,h⟩
 ·exact .inl ⟨rfl,p.mul h⟩
 ·exact .inr (.inl ⟨rfl,h.mul b⟩)
 ·refine .inr (.inr ⟨rfl,?_⟩)
  have:=p.mul h
  have e:(fun n=>v n * -u n)=fun n=>-(v n * u n):=funext fun n=>by grind
  rw [e] at this
  exact this
theorem YC.sq {u:j4}(h:YC u):YC (fun n=>u n * u n):=h.mul h.bd
theorem Zz {u w:j4}{b k:Int}(hu:J1 u) (hw:SSg w b) (bu:SBd u) (bw:SBd w) (hk:SSg (fun n=>u n+w n) k):SSg (fun n=>u n * u n+(b:Rat) * (w n * w n)) k:=by
 rcases hw with ⟨rfl,hw⟩ | ⟨rfl,hw⟩ | ⟨rfl,hw⟩
 ·have e:=hk.uniq (.inl ⟨rfl,hu.add hw⟩)
  subst e
  refine .inl ⟨rfl,?_⟩
  have:=(hu.mul hu).add (hw.mul hw)
  have e:(fun n=>u n * u n+w n * w n)=fun n=>u n * u n+((1:Int):Rat) * (w n * w n):=funext fun n=>by have:((1:Int):Rat)=1:=rfl;rw [this];grind
  rw [e] at this
  exact this
 ·have e:=hk.uniq (.inl ⟨rfl,hu.nul hw⟩)
  subst e
  refine .inl ⟨rfl,?_⟩
  have:=hu.mul hu
  have e:(fun n=>u n * u n)=fun n=>u n * u n+((0:Int):Rat) * (w n * w n):=funext fun n=>by have:((0:Int):Rat)=0:=rfl;rw [this];grind
  rw [e] at this
  exact this
 ·have p:J1 (fun n=>u n+-w n):=hu.add hw
  refine (hk.mulPos p (bu.add bw.neg)).congr fun n=>?_
  have:((-1:Int):Rat) = -1:=rfl
  rw [this]
  grind
theorem sg_sq {w:j4}{b:Int}(hw:SSg w b):SSg (fun n=>(b:Rat) * (w n * w n)) b:=by
 rcases hw with ⟨rfl,hw⟩ | ⟨rfl,hw⟩ | ⟨rfl,hw⟩
 ·refine (SSg.congr (.inl ⟨rfl,hw.mul hw⟩) fun n=>?_)
  have:((1:Int):Rat)=1:=rfl
  rw [this]
  grind
 ·refine (SSg.congr (u:=fun _=>0) (.inr (.inl ⟨rfl,0,by grind,fun n=>by constructor <;> grind⟩)) fun n=>?_)
  have:((0:Int):Rat)=0:=rfl
  rw [this]
  grind
 ·refine .inr (.inr ⟨rfl,?_⟩)
  have:=hw.mul hw
  have e:(fun n=>-w n * -w n)=fun n=>-(((-1:Int):Rat) * (w n * w n)):=funext fun n=>by have:((-1:Int):Rat) = -1:=rfl;rw [this];grind
  rw [e] at this
  exact this
theorem qfD {u w:j4}{a b k:Int}(hu:SSg u a) (hw:SSg w b) (bu:SBd u) (bw:SBd w) (hk:SSg (fun n=>u n+w n) k):SSg (fun n=>(a:Rat) * (u n * u n)+(b:Rat) * (w n * w n)) k:=by
 rcases id hu with ⟨rfl,h⟩ | ⟨rfl,h⟩ | ⟨rfl,h⟩
 ·refine (Zz h hw bu bw hk).congr fun n=>?_
  have:((1:Int):Rat)=1:=rfl
  rw [this]
  grind
 ·have e:SSg (fun n=>u n+w n) b:=(hw.addNul h).congr fun n=>by grind
  have e:=hk.uniq e
  subst e
  refine (sg_sq hw).congr fun n=>?_
  have:((0:Int):Rat)=0:=rfl
  rw [this]
  grind
 ·have:=Zz h hw.neg bu.neg bw.neg (hk.neg.congr fun n=>by grind)
  have e:- -k=k:=by omega
  rw [<- e]
  refine this.neg.congr fun n=>?_
  have:((-1:Int):Rat) = -1:=rfl
  rw [this,Rat.intCast_neg]
  grind
end L2
namespace L2
theorem qdS (x:Int):SSg (fun _=>(x:Rat)) x.sign:=by
 rcases Int.lt_trichotomy x 0 with h | h | h
 ·rw [y6 h]
  refine .inr (.inr ⟨rfl,-(x:Rat),?_,0,fun _ _=>Rat.le_refl⟩)
  have:=Rat.intCast_lt_intCast.mpr h
  grind
 ·subst h
  exact .inr (.inl ⟨rfl,0,by grind,fun n=>by constructor <;> grind⟩)
 ·rw [jS h]
  exact .inl ⟨rfl,(x:Rat),Rat.intCast_pos.mpr h,0,fun _ _=>Rat.le_refl⟩
theorem Rt.zero {ρ:j4}(h:Rt 0 ρ) (n:Nat):ρ n=0:=by
 have a:=h.le n
 have b:=h.nn n
 have z:((0:Int):Rat)=0:=rfl
 rw [z] at a
 by_cases c:ρ n=0
 ·exact c
 ·have:=Rat.mul_pos (show 0<ρ n by grind) (show 0<ρ n by grind)
  grind
theorem Rt.pos {r:Int}{ρ:j4}(h:Rt r ρ) (r0:0<r):J1 ρ:=by
 refine ⟨1 / 2,by grind,1,fun n hn=>?_⟩
 have a:=h.lt n
 have r1:(1:Rat)<=(r:Rat):=by
  have:(1:Int)<=r:=by omega
  exact_mod_cast this
 have b:=h.nn n
 have e0:=y4 n
 have c:1<ρ n+yO n:=sqlt (by grind) (by grind)
 have m:=ZX n
 have:(1:Rat)<=(n:Rat):=by exact_mod_cast hn
 have:=Rat.mul_nonneg (Rat.le_of_lt e0) (show (0:Rat)<=(n:Rat) - 1 by grind)
 grind
theorem Rt.nul {r:Int}{ρ:j4}(h:Rt r ρ):YC (fun n=>(r:Rat) - ρ n * ρ n):=by
 obtain ⟨B,b0,hB⟩:=h.bd
 refine ⟨2 * B+1,by grind,fun n=>?_⟩
 have a:=h.lt n
 have c:=h.le n
 have e0:=y4 n
 have e1:=qgw n
 obtain ⟨d1,d2⟩:=hB n
 have x1:=Rat.mul_nonneg (Rat.le_of_lt e0) (show 0<=B - ρ n by grind)
 have x2:=Rat.mul_nonneg (Rat.le_of_lt e0) (show 0<=1 - yO n by grind)
 have x3:=Rat.mul_nonneg (show 0<=2 * B+1 by grind) (Rat.le_of_lt e0)
 constructor <;> grind
def ys (y r:Int):Int:=if r=0 then 0 else y.sign
theorem qiw {r:Int}{ρ:j4}(h:Rt r ρ) (r0:0<=r) (y:Int):SSg (fun n=>(y:Rat) * ρ n) (ys y r):=by
 unfold ys
 split
 ·rename_i e
  subst e
  refine .inr (.inl ⟨rfl,0,by grind,fun n=>?_⟩)
  have e:=h.zero n
  show (y:Rat) * ρ n<=0 * yO n/\-(0 * yO n)<=(y:Rat) * ρ n
  rw [e]
  constructor <;> grind
 ·exact ((qdS y).mulPos (h.pos (by omega)) h.bd).congr fun n=>by grind
theorem qgH (y r:Int):((ys y r:Int):Rat) * ((y:Rat) * y) * r=((y * y.natAbs * r:Int):Rat):=by
 have e:y.sign * (y * y)=y * y.natAbs:=by
  rcases Int.lt_trichotomy y 0 with h | h | h
  ·rw [y6 h]
   have:((y.natAbs:Nat):Int) = -y:=by omega
   rw [this]
   grind
  ·subst h;rfl
  ·rw [jS h]
   have:((y.natAbs:Nat):Int)=y:=by omega
   rw [this]
   grind
 unfold ys
 split
 ·rename_i z
  subst z
  simp
 ·rw [<- e]
  simp only [Rat.intCast_mul]
theorem x_sq (x:Int):((x.sign:Int):Rat) * ((x:Rat) * x)=((x * x.natAbs:Int):Rat):=by
 have:=qgH x 1
 unfold ys at this
 rw [if_neg (by decide),Int.mul_one] at this
 have z:((1:Int):Rat)=1:=rfl
 rw [z] at this
 grind
theorem qiM {u:j4}(h:SLin u):∃ k,SSg u k:=by
 rcases qiL h with p | p | p
 ·exact ⟨1,.inl ⟨rfl,p⟩⟩
 ·exact ⟨0,.inr (.inl ⟨rfl,p⟩)⟩
 ·exact ⟨-1,.inr (.inr ⟨rfl,p⟩)⟩
def rsg (x y r:Int):Int:=(x * x.natAbs+y * y.natAbs * r).sign
theorem qiU {r:Int}{ρ:j4}(h:Rt r ρ) (r0:0<=r) (x y:Int):SSg (fun n=>(x:Rat)+y * ρ n) (rsg x y r):=by
 obtain ⟨k,hk⟩:=qiM (lin3 h h (x:Rat) y 0)
 have hk:SSg (fun n=>(x:Rat)+(y:Rat) * ρ n) k:=hk.congr fun n=>by grind
 have s:=qfD (qdS x) (qiw h r0 y) (SBd.con _) ((SBd.con (y:Rat)).mul h.bd) hk
 have nl:=(h.nul).mul ((SBd.con (((ys y r:Int):Rat) * ((y:Rat) * y))))
 have s2:=(s.addNul nl).congr (v:=fun _=>((x * x.natAbs+y * y.natAbs * r:Int):Rat)) fun n=>by
  rw [Rat.intCast_add,<- x_sq x,<- qgH y r]
  grind
 have:=s2.uniq (qdS _)
 unfold rsg
 rw [<- this]
 exact hk
def trs (x y r z s:Int):Int:=rsg (rsg x y r * (x * x+y * y * r)+z * z.natAbs * s) (2 * rsg x y r * x * y) r
theorem qiD {r s:Int}{ρ σ:j4}(h1:Rt r ρ) (h2:Rt s σ) (r0:0<=r) (s0:0<=s) (x y z:Int):SSg (fun n=>(x:Rat)+y * ρ n+z * σ n) (trs x y r z s):=by
 obtain ⟨k,hk⟩:=qiM (lin3 h1 h2 (x:Rat) y z)
 have hA:=qiU h1 r0 x y
 unfold trs
 generalize rsg x y r=a at hA
 have bA:SBd (fun n=>(x:Rat)+y * ρ n):=(SBd.con (x:Rat)).add ((SBd.con (y:Rat)).mul h1.bd)
 have s':=qfD hA (qiw h2 s0 z) bA ((SBd.con (z:Rat)).mul h2.bd) hk
 have n1:=(h1.nul).mul (SBd.con ((a:Rat) * ((y:Rat) * y)))
 have n2:=(h2.nul).mul (SBd.con (((ys z s:Int):Rat) * ((z:Rat) * z)))
 have s2:=((s'.addNul n1).addNul n2).congr (v:=fun n=>((a * (x * x+y * y * r)+z * z.natAbs * s:Int):Rat)+((2 * a * x * y:Int):Rat) * ρ n) fun n=>by
  rw [Rat.intCast_add,<- qgH z s]
  simp only [Rat.intCast_mul,Rat.intCast_add]
  have:((2:Int):Rat)=2:=rfl
  rw [this]
  grind
 have:=s2.uniq (qiU h1 r0 _ _)
 rw [<- this]
 exact hk
open PySem PySem.Spec PyProof.Rows
section
variable {X:Cx}{tg:Expr}
end
section
variable {X:Cx}{K:W.Frag}{tg:Expr}{pos:Pos}
variable {a b c:Expr}{ta tb tc:TEd}
end
section
variable {X:Cx}{K:W.Frag}
theorem qdZ (hc:X.calm=true):yu X (.builtin "min") (fun xs H Q=>∃ p ns,xs=[.ref p]/\SqL X.K H p (ns.map V.int)/\ns≠[]/\∀ m:Int,m∈ns->(∀ a∈ns,m<=a)->Q (.int m) H):=by
 intro pins s σ H xs us Q I r h
 obtain ⟨p,ns,rfl,hq,hne,q⟩:=h
 obtain ⟨u,rfl,rx⟩:=JI r
 cases rx
 obtain ⟨its,rv,pl,_⟩:=I.list hq
 obtain ⟨ys,rfl,e⟩:=jO rv
 have hl:s.heap.IsList p (intItems ys.toArray):=by
  have:=pl.isList
  simpa [intItems] using this
 have hn:0<ys.length:=by
  have:=yZ.mpr hne
  rw [<- e,List.length_map] at this
  exact this
 refine min_intList (I.ok.hd hc) hl (by simpa using hn) fun v h' tk hv hk=>?_
 obtain ⟨t,rfl⟩:=intItems_at hv
 obtain ⟨h1,h2⟩:=argBest_lt (numAt ys.toArray) (ys.toArray.size - 1)
 have na:∀ j,j<ys.length->∃ z,ns[j]?=some z/\numAt ys.toArray j=z:=fun j hj=>by
  refine ⟨ys[j].1,by rw [<- e];simp [hj],by simp [numAt,hj]⟩
 refine ⟨.int _,H,I.kept hk,⟨_,rfl⟩,q _ ?_ fun a ha=>?_⟩
 ·have h0:argBest (fun i j=>decide (numAt ys.toArray i<numAt ys.toArray j)) (ys.toArray.size - 1)<ys.length:=by
   simp only [List.size_toArray] at h1 ⊢;omega
  obtain ⟨z,e1,e2⟩:=na _ h0
  rw [e2]
  exact List.mem_of_getElem? e1
 ·obtain ⟨j,hj⟩:=List.mem_iff_getElem?.mp ha
  have hj2:j<ys.length:=by
   have:=(qm.mp hj).1
   rwa [<- e,List.length_map] at this
  obtain ⟨z,e1,e2⟩:=na j hj2
  rw [hj] at e1
  cases e1
  rw [<- e2]
  exact h2 j (by simp only [List.size_toArray];omega)
def qf8:RAd:=fun es μ Q=>match es with
 | [e]=>∃ ns:List Int,LstOf μ e (ns.map PyData.int)/\ns≠[]/\∀ m:Int,m∈ns->(∀ a∈ns,m<=a)->Q (.d (.int m)) μ
 | _=>False
theorem qh5 (hc:X.calm=true) (hK:X.K=K:=by rfl):yu X (.builtin "min") (upC K qf8):=by
 subst hK
 refine (qdZ hc).mono fun xs H Q h=>?_
 obtain ⟨μ,es,Q0,M,hp,q,cl⟩:=h
 unfold qf8 at q
 split at q
 ·obtain ⟨v,rfl,i1⟩:=Jp hp
  obtain ⟨ns,h1,hne,q⟩:=q
  obtain ⟨p,ys,rfl,h2,h3⟩:=h1.get M i1
  rw [h3.ints_of] at h2
  exact ⟨p,ns,rfl,h2,hne,fun m h4 h5=>cl _ μ _ _ (q m h4 h5) M (ye.refl _) (.int _)⟩
 ·exact q.elim
end
end L2
local macro_rules | `(tactic| walk_at "i")=>`(tactic| first | refine jv (fun c=>?_) (fun c=>?_))
namespace K76
open PySem L2
def top (i:Nat):Stmt:=PySem.Challenge.pw_halveline_k76_slices.main.body.getD i (.Pass ⟨0,0,0,0⟩)
structure Txt (mg:Str->Option Value):Prop where
 len_:mg "len" = none
 range_:mg "range" = none
 max_:mg "max" = none
 min_:mg "min" = none
 abs_:mg "abs" = none
 int_:mg "int" = none
 isinstance_:mg "isinstance" = none
 tuple_:mg "tuple" = none
 bool_:mg "bool" = none
 list_:mg "list" = none
 all_:mg "all" = none
 any_:mg "any" = none
 set_:mg "set" = none
 sorted_:mg "sorted" = none
 str_:mg "str" = none
 enumerate_:mg "enumerate" = none
 zip_:mg "zip" = none
 divmod_:mg "divmod" = none
 sum_:mg "sum" = none
 reversed_:mg "reversed" = none
abbrev qgW:Stmt:=top 1
abbrev jA:Stmt:=top 2
abbrev qam:Stmt:=top 4
abbrev Yp:Stmt:=top 5
abbrev qcc:Stmt:=top 7
abbrev qcj:Stmt:=top 8
abbrev yK:Stmt:=top 10
abbrev qaO:Stmt:=top 11
abbrev qex:Stmt:=top 12
abbrev JK:Stmt:=top 13
abbrev jV:Stmt:=top 14
abbrev qcs:Stmt:=top 15
abbrev jp:Stmt:=top 17
abbrev ja:Stmt:=top 18
abbrev scut:Stmt:=top 19
abbrev Yo:Stmt:=top 20
abbrev jU:Stmt:=top 22
abbrev JM:Stmt:=top 24
abbrev jz:Stmt:=top 25
abbrev JO:Stmt:=top 26
abbrev j6:Stmt:=top 27
abbrev j7:Stmt:=top 29
abbrev JQ:Stmt:=top 30
abbrev JP:Stmt:=top 31
abbrev j8:Stmt:=top 33
abbrev Jn:Stmt:=top 34
abbrev Jm:Stmt:=top 35
abbrev JR:Stmt:=top 36
abbrev Jf:Stmt:=top 37
abbrev jl:Stmt:=top 38
abbrev ji:Stmt:=top 39
abbrev jb:Stmt:=top 40
abbrev Jo:Stmt:=top 41
abbrev jM:Stmt:=top 42
abbrev yG:Stmt:=top 43
abbrev yT:Stmt:=top 44
abbrev jB:Stmt:=top 45
abbrev yV:Stmt:=top 46
abbrev qeh:Stmt:=top 47
section
variable {P:Program}{w:World}{K:W.Frag}{mg:Str->Option Value}{base:Heap}{CX:CXT}
def sDraw (M:Int):SpD:=fun es μ Q=>∃ (p:Addr) (m:Int),es=[.m p,.d (.int m)]/\(p,.pot M)∈μ/\0<m/\m<=10000000000000000000000000000000000000000/\∀ d,0<=d->d<m->Q (.d (.int d)) μ
def spTakeM (M:Int):Sp:=fun vs H Q _=>∃ (p:Addr) (m:Int),vs=[.ref p,.int m]/\Pot M H p/\0<m/\m<=10000000000000000000000000000000000000000/\∀ d H',0<=d->d<m->Pot M H' p->Stp p H H'->Q (.int d) H'
theorem draw_up {K:W.Frag}{M:Int}{vs:List V}{H:Hp}{Q:VK}{E:XK}(h:qV K (sDraw M) vs H Q E):spTakeM M vs H Q E:=by
 obtain ⟨μ,es,Q0,hM,hp,⟨p,m,rfl,hpot,m0,m1,q⟩,cl⟩:=h
 obtain ⟨v,v',rfl,i1,i2⟩:=qau hp
 have i1:v=_:=i1
 subst i1
 cases i2
 refine ⟨p,m,rfl,hM.ob _ _ hpot,m0,m1,fun d H' d0 d1 hP s=>?_⟩
 obtain ⟨M',s'⟩:=qcJ hM hpot hP s
 exact cl _ μ _ H' (q d d0 d1) M' s' (.int d)
abbrev PA0:MO:=.pot 2147483629
def sPot:SpD:=fun es μ Q=>∃ (ns:List Int) (k:Nat),es=[.d (.list (ns.map .int)),.d (.int k)]/\ns.length<=63/\k<=63/\∀ p,p∉μ.map Prod.fst->Q (.m p) ((p,PA0)::μ)
theorem qfl {ns:List Int}{lo hi:Option Int}{i:Nat}{x:PyData}(h:(Zq (ns.map PyData.int) lo hi)[i]?=some x):∃ y,x = .int y:=by
 obtain ⟨y,_,e⟩:=qE.mp (yN (yM (List.mem_of_getElem? h)))
 exact ⟨y,e.symm⟩
theorem qfR:FnScope ["_law_script", "_law_k", "_law_cell", "_law_mixed", "_law_one"] ["_law_script", "_law_k"] (qp j7):=⟨rfl,rfl,rfl,by decide +kernel,rfl,by decide +kernel,by decide +kernel⟩
theorem qjH {f:Addr}{fd:FuncData}(F:Fun K "_law_pot" "_law_pot" j7 f fd) (T:Txt mg):FnOk P w K mg base CX 1 f fd ["_law_script", "_law_k"] (qV K sPot):=by
 refine F.okD qfR (fun es μ Q hq0=>by obtain ⟨ns,k,e,_⟩:=hq0;subst e;rfl) (fun cdv A outer s H E es μ Q hr hq0=>?_)
 obtain ⟨ns,n,e,hl,hn,k⟩:=hq0
 subst e
 have nd:=qfR.nd
 have key:∃ t,DSs K (qbS CX P w K mg base ["_law_script", "_law_k", "_law_cell", "_law_mixed", "_law_one"] "_law_pot" (qp j7) f cdv A outer s H E).nox ((yW j7).drop 1) t ∧
   ∀ cell:Int,t { nx:=fun _ μ'=>Q (.d .none) μ',rt:=Q } [some (.d (.list (ns.map .int))),some (.d (.int n)),some (.d (.int cell)),none,none] μ:=by
  refine ⟨_,(qq (qW (i:=3) nd rfl (by first | exact Or.inl rfl | exact Or.inr rfl) (qZ yw qt (qZ Ji qt (dv 1))))
   (qq (ZZ PassesOwn.never rfl (jr (JZ (dv 0) JY (JX qt))) (qy (i:=4) nd rfl (by first | exact Or.inl rfl | exact Or.inr rfl)) (qC (qW (i:=3) nd rfl (by first | exact Or.inl rfl | exact Or.inr rfl) (qZ qdH (qZ yw (qZ Ji (dv 3) qt) (dv 4)) qt))))
   (qC (qdF (qgx (qa (qO (Z3 rfl) (by rfl) T.max_ J8 (qa qt (qa (qZ yA (dv 2) (qZ YQ qt qt)) qd))) (qa (dv 3) qd))))))),fun cell=>?_⟩
  refine ⟨⟨qgA (by decide) (by decide),qgA (by omega) (by omega)⟩,_,.d _,_,.d _,?_⟩
  refine forL (fun i ρ' μ'=>μ'=μ/\∃ (z:Int) (v:Option En),ρ'=[some (.d (.list (ns.map .int))),some (.d (.int n)),some (.d (.int cell)),some (.d (.int z)),v]/\0<=z/\z<2147483629) ⟨rfl,_,_,rfl,by omega,by omega⟩ (fun _ _ _ _=>.d _) ?_ ?_
  ·rintro i x ρ' μ' hx ⟨rfl,z,v,rfl,z0,z1⟩
   obtain ⟨y,rfl⟩:=qfl hx
   exact ⟨⟨qgA (by omega) (by omega),qgA (by decide) (by decide)⟩,(show (0:Int)<2147483629 by decide),Wks.of ⟨rfl,_,_,rfl,Int.emod_nonneg _ (by decide),Int.emod_lt_of_pos _ (by decide)⟩⟩
  ·rintro ρ' μ' ⟨rfl,z,v,rfl,z0,z1⟩
   refine ⟨⟨by decide,by decide,by decide⟩,zl2,fun p hp=>⟨_,_,FzR.pot ?_ z0 z1,k p hp⟩⟩
   dsimp only
   split <;> omega
 obtain ⟨t,ht,hk⟩:=key
 refine ⟨_,(qq (qW (i:=2) nd rfl (by first | exact Or.inl rfl | exact Or.inr rfl) (qdP (q9 Yb (dv 1) (qO J7 (by rfl) T.len_ J9 (qa (dv 0) qd)) (qP _)) (y8 qM (dv 0) (dv 1) (fun _ _=>rfl)) qt))
   ht),?_⟩
 refine ⟨_,.l (.d _),?_⟩
 rw [List.length_map]
 refine jv (fun c=>?_) (fun c=>?_)
 ·have hc:(n:Int)<(ns.length:Int):=qr c
  have hn2:n<ns.length:=by omega
  exact ⟨.int ns[n],qii (by rw [List.getElem?_map,List.getElem?_eq_getElem hn2];rfl),hk ns[n]⟩
 ·exact hk 0
theorem qcm:FnScope ["_law_pot_here", "_law_many", "_law_digit"] ["_law_pot_here", "_law_many"] (qp JQ):=⟨rfl,rfl,rfl,by decide +kernel,rfl,by decide +kernel,by decide +kernel⟩
theorem qhw {f:Addr}{fd:FuncData}(F:Fun K "_law_take" "_law_take" JQ f fd):FnOk P w K mg base CX 1 f fd ["_law_pot_here", "_law_many"] (qV K (sDraw 2147483629)):=by
 refine FnOk.imp (sp:=spTakeM 2147483629) ?_ fun _ _ _ _ h=>draw_up h
 refine F.okG qcm (fun vs H Q E h=>?_) (fun cdv A outer s H vs Q E hr h=>?_)
 ·obtain ⟨p,m,rfl,_⟩:=h
  rfl
 ·obtain ⟨p,m,rfl,⟨p0,p1,e,h0,h1,h2⟩,m0,m1,k⟩:=h
  have nd:=qcm.nd
  refine ⟨_,(Jz (qjg (qcD qjw (qas Jq (pv 0) jC (fun _ _=>rfl)) jC (qP _)) (Jz (qgc (i:=2) nd rfl (by first | exact Or.inl rfl | exact Or.inr rfl) (YD ZL (qas Jq (pv 0) jC (fun _ _=>rfl)) (pv 1)))
   (Jz (qcI (YD qa8 (qas Jq (pv 0) jC (fun _ _=>rfl)) (pv 1)) (qgd (pv 0) jC qaP))
   (qar (qa3 (pv 2))))) qcG)
   (Jz (qcI (YD ZL (YD qcT (YD qav (qas Jq (pv 0) jC (fun _ _=>rfl)) jC) jC) jC) (qgd (pv 0) jC qaP))
   (qar (qa3 (YD ZL (YD qa8 (YD ZL (YD qav (qas Jq (pv 0) jC (fun _ _=>rfl)) (qas Jq (pv 0) jC (fun _ _=>rfl))) jC) jC) (pv 1)))))),?_⟩
  refine ⟨_,rfl,p,_,_,_,rfl,rfl,SqL.of e,rfl,_,_,rfl,rfl,_,rfl,?_⟩
  refine jv (fun c=>?_) (fun c=>?_)
  ·have hc:0<p0:=qr c
   refine ⟨_,rfl,p,_,_,_,rfl,rfl,SqL.of e,rfl,_,rfl,_,_,rfl,rfl,m0,?_⟩
   refine ⟨_,rfl,p,_,_,_,rfl,rfl,SqL.of e,rfl,_,rfl,_,_,rfl,rfl,⟨by omega,Big.of 10000000000000000000000000000000000000000 (by decide +kernel) (by omega) (by omega)⟩,_,rfl,p,_,_,_,rfl,rfl,e,rfl,?_⟩
   refine ⟨_,rfl,?_⟩
   refine k _ _ (Int.emod_nonneg _ (by omega)) (Int.emod_lt_of_pos _ m0) ⟨p0.fdiv m,p1,yd,Int.fdiv_nonneg h0 (by omega),h1,h2⟩ Stp.upd
  ·refine ⟨_,rfl,p,_,_,_,rfl,rfl,SqL.of e,rfl,_,_,rfl,rfl,⟨Big.of 2147483629 (by decide) (by omega) (by omega),Big.of 39373 (by decide) (by decide) (by decide)⟩,_,_,rfl,rfl,_,_,rfl,rfl,(show (0:Int)<2147483629 by decide),_,rfl,p,_,_,_,rfl,rfl,e,rfl,?_⟩
   have g0:0<=(p1 * 39373+2311) % 2147483629:=Int.emod_nonneg _ (by decide)
   have g1:(p1 * 39373+2311) % 2147483629<2147483629:=Int.emod_lt_of_pos _ (by decide)
   have e':∀ z,(upd H p (.lst [V.int p0,V.int z])) p=some (.lst [V.int p0,V.int z]):=fun z=>yd
   refine ⟨_,rfl,p,_,_,_,rfl,rfl,SqL.of (e' _),rfl,_,rfl,p,_,_,_,rfl,rfl,SqL.of (e' _),rfl,_,_,rfl,rfl,⟨Big.of 2147483629 (by decide) (by omega) (by omega),Big.of 2147483629 (by decide) (by omega) (by omega)⟩,_,_,rfl,rfl,(show (0:Int)<2147483587 by decide),_,_,rfl,rfl,⟨by decide,Big.of 17 (by decide +kernel) (by decide) (by decide)⟩,_,rfl,_,_,rfl,rfl,m0,?_⟩
   exact k _ _ (Int.emod_nonneg _ (by omega)) (Int.emod_lt_of_pos _ m0) ⟨p0,_,e' _,h0,g0,g1⟩ Stp.upd
theorem e8:(10:Int) ^ (8:Int).toNat=100000000:=by decide
theorem e30:(10:Int) ^ (30:Int).toNat=1000000000000000000000000000000:=by decide
theorem qcl:FnScope ["_law_pot_here", "_law_found", "_law_k"] ["_law_pot_here"] (qp JP):=⟨rfl,rfl,rfl,by decide +kernel,rfl,by decide +kernel,by decide +kernel⟩
theorem qhv {f:Addr}{fd:FuncData}(F:Fun K "_law_wide" "_law_wide" JP f fd) (T:Txt mg) (hX:NoX CX) (O_law_take:Own P w K mg base CX 1 "_law_take" ["_law_pot_here", "_law_many"] (qV K (sDraw 2147483629))):FnOk P w K mg base CX 2 f fd ["_law_pot_here"] (qV K (sNum 2147483629)):=by
 refine F.okD qcl (fun es μ Q hq0=>by obtain ⟨p,e,_⟩:=hq0;subst e;rfl) (fun cdv A outer s H E es μ Q hr hq0=>?_)
 obtain ⟨p,e,hp,k⟩:=hq0
 subst e
 have nd:=qcl.nd
 refine ⟨_,(qq (qW (i:=1) nd rfl (by first | exact Or.inl rfl | exact Or.inr rfl) qt)
   (qq (ZZ PassesOwn.never rfl (Ja rfl T.range_ (qa qt qd)) (qy (i:=2) nd rfl (by first | exact Or.inl rfl | exact Or.inr rfl)) (qC (qW (i:=1) nd rfl (by first | exact Or.inl rfl | exact Or.inr rfl) (qZ yw (qZ Ji (dv 1) (qZ YQ qt qt)) (qQ O_law_take hX (hr.mono (by decide)) rfl (qa (dv 0) (qa (qZ YQ qt qt) qd)))))))
   (qC (qN (qZ yw (qZ yA (qZ qdH (dv 1) (qZ yA (qZ Ji qt (qZ YQ qt qt)) qt)) (qZ YQ qt qt)) qt))))),?_⟩
 refine ⟨by decide,by decide,forR (fun i ρ' μ'=>μ'=μ/\∃ (z:Int) (v:Option En),ρ'=[some (.m p),some (.d (.int z)),v]/\0<=z/\z<100000000 ^ i) ⟨rfl,0,none,rfl,by decide,by decide⟩ ?_ ?_⟩
 ·rintro i ρ' μ' hi ⟨rfl,z,v,rfl,z0,z1⟩
  have hb:z<10000000000000000000000000000000000000000:=by
   have:i=0\/i=1\/i=2\/i=3:=by have hi:i<4:=hi;omega
   rcases this with rfl | rfl | rfl | rfl <;> simp at z1 <;> omega
  refine ⟨⟨by decide,by decide,by decide⟩,⟨qgA (by omega) (by omega),by rw [e8];exact qgA (by decide) (by decide)⟩,⟨by decide,by decide,by decide⟩,p,_,rfl,hp,by rw [e8];decide,by rw [e8];decide,fun d d0 d1=>Wks.of ⟨rfl,_,_,rfl,?_,?_⟩⟩
  ·rw [e8] at *;omega
  ·rw [e8] at *
   rw [Int.pow_succ]
   generalize (100000000:Int) ^ i=y at z1
   omega
 ·rintro ρ' μ' ⟨rfl,z,v,rfl,z0,z1⟩
  refine ⟨⟨by decide,by decide,by decide⟩,⟨qgA (by decide) (by decide),by rw [e30];exact qgA (by decide) (by decide)⟩,by rw [e30];show (0:Int)<2 * 1000000000000000000000000000000 - 1;decide,⟨by decide,by decide,by decide⟩,k _ ?_⟩
  rw [e30]
  unfold Num
  omega
end
section
variable {P:Program}{w:World}{K:W.Frag}{mg:Str->Option Value}{base:Heap}{CX:CXT}
abbrev B40:Nat:=10000000000000000000000000000000000000000
abbrev B39:Nat:=1000000000000000000000000000000000000000
theorem b40:B40<2 ^ 1000:=by decide +kernel
theorem qbF {a b:Int}(ha:a.natAbs<=B40) (hb:b.natAbs<=B40):qir a b:=⟨jf ha b40,jf hb b40⟩
theorem qeq {a b:Int}(ha:a.natAbs<=B39) (hb:b.natAbs<=B39):(a - b).natAbs<=B40:=by
 have ha:a.natAbs<=1000000000000000000000000000000000000000:=ha
 have hb:b.natAbs<=1000000000000000000000000000000000000000:=hb
 show (a - b).natAbs<=10000000000000000000000000000000000000000
 omega
def hpD (ps:List Pt):PyData:=.list (ps.map ptD)
def sAc:SpD:=fun es μ Q=>∃ a b c:Pt,es=[.d (ptD a),.d (ptD b),.d (ptD c)]/\Bd B39 a/\Bd B39 b/\Bd B39 c/\Q (.d (.int (ac a b c))) μ
theorem ZC:FnScope ["_law_one", "_law_two", "_law_three", "_law_found"] ["_law_one", "_law_two", "_law_three"] (qp j8):=⟨rfl,rfl,rfl,by decide +kernel,rfl,by decide +kernel,by decide +kernel⟩
theorem qcU {f:Addr}{fd:FuncData}(F:Fun K "_law_across" "_law_across" j8 f fd)  : FnOk P w K mg base CX 1 f fd ["_law_one", "_law_two", "_law_three"] (qV K sAc):=by
 refine F.okD ZC (fun es μ Q hq0=>by obtain ⟨a,b,c,e,_⟩:=hq0;subst e;rfl) (fun cdv A outer s H E es μ Q hr hq0=>?_)
 obtain ⟨a,b,c,e,ha,hb,hc,k⟩:=hq0
 subst e
 have nd:=ZC.nd
 refine ⟨_,(qq (qW (i:=3) nd rfl (by first | exact Or.inl rfl | exact Or.inr rfl) (qZ Ji (qZ yA (y8 qM (dv 1) qt (fun _ _=>rfl)) (y8 qM (dv 0) qt (fun _ _=>rfl))) (qZ yA (y8 qM (dv 2) qt (fun _ _=>rfl)) (y8 qM (dv 0) qt (fun _ _=>rfl)))))
   (qC (qN (qZ yA (dv 3) (qZ Ji (qZ yA (y8 qM (dv 1) qt (fun _ _=>rfl)) (y8 qM (dv 0) qt (fun _ _=>rfl))) (qZ yA (y8 qM (dv 2) qt (fun _ _=>rfl)) (y8 qM (dv 0) qt (fun _ _=>rfl)))))))),?_⟩
 exact ⟨_,rfl,_,rfl,_,rfl,_,rfl,qbF (qeq hb.1 ha.1) (qeq hc.2 ha.2),_,rfl,_,rfl,_,rfl,_,rfl,qbF (qeq hb.2 ha.2) (qeq hc.1 ha.1),k⟩
theorem qa4 {q r:Pt}:∀ {S:List Pt},r∈Ys q S->r∈S
 | [],h=>h
 | [_],h=>h
 | b::a::t,h=>by
  unfold Ys at h
  split at h
  ·exact qk _ (qa4 h)
  ·exact h
theorem qa5 {q:Pt}:∀ {S:List Pt},(Ys q S).length<=S.length
 | []=>qi _
 | [_]=>qi _
 | b::a::t=>by
  unfold Ys
  split
  ·exact qR qa5 (Nat.le_succ _)
  ·exact qi _
theorem Jl:∀ (n:Nat) {ps:List Pt},ps.length=n->(∀ r∈stk ps,r∈ps)/\(stk ps).length<=ps.length
 | 0,ps,e=>by rw [List.length_eq_zero_iff.mp e];exact ⟨fun _ h=>(nomatch h),qi _⟩
 | n+1,ps,e=>by
  rcases List.eq_nil_or_concat ps with rfl | ⟨qs,q,rfl⟩
  ·cases e
  ·rw [List.concat_eq_append] at *
   obtain ⟨h1,h2⟩:=Jl n (ps:=qs) (by simpa using e)
   rw [Jx]
   refine ⟨fun r hr=>?_,?_⟩
   ·rcases List.mem_cons.mp hr with rfl | hr
    ·simp
    ·exact yv _ (h1 r (qa4 hr))
   ·have:=qa5 (q:=q) (S:=stk qs)
    simp only [List.length_cons,List.length_append,List.length_nil]
    omega
theorem qkv (t:List Pt) (b:Pt):atI ((b::t).reverse.map ptD) (-1)=some (ptD b):=by
 rw [List.reverse_cons,List.map_append]
 exact qfr _ _
theorem qkw (t:List Pt) (a b:Pt):atI ((b::a::t).reverse.map ptD) (-2)=some (ptD a):=by
 have e:ixN ((b::a::t).reverse.map ptD).length (-2)=some t.length:=by
  unfold ixN
  simp only [List.length_map,List.length_reverse,List.length_cons]
  rw [if_neg (by omega),if_pos (by omega)]
  congr 1
  omega
 unfold atI
 rw [e]
 show ((b::a::t).reverse.map ptD)[t.length]?=_
 rw [List.getElem?_map,List.reverse_cons,List.reverse_cons,qo,qS (by simp)]
 simp
def qcu:SpD:=fun es μ Q=>∃ row:List Pt,es=[.d (hpD row)]/\row.length<=40/\(∀ p∈row,Bd B39 p)/\Q (.d (hpD (stk row).tail.reverse)) μ
theorem qaW:FnScope ["_law_points", "_law_found", "_law_point"] ["_law_points"] (qp Jn):=⟨rfl,rfl,rfl,by decide +kernel,rfl,by decide +kernel,by decide +kernel⟩
theorem qeV {f:Addr}{fd:FuncData}(F:Fun K "_law_chain" "_law_chain" Jn f fd) (T:Txt mg) (hX:NoX CX) (O_law_across:Own P w K mg base CX 1 "_law_across" ["_law_one", "_law_two", "_law_three"] (qV K sAc)):FnOk P w K mg base CX 2 f fd ["_law_points"] (qV K qcu):=by
 refine F.okD qaW (fun es μ Q hq0=>by obtain ⟨row,e,_⟩:=hq0;subst e;rfl) (fun cdv A outer s H E es μ Q hr hq0=>?_)
 obtain ⟨row,e,hl,hb,k⟩:=hq0
 subst e
 have nd:=qaW.nd
 refine ⟨_,(qq (qW (i:=1) nd rfl (by first | exact Or.inl rfl | exact Or.inr rfl) (qgx qd))
   (qq (ZZ PassesOwn.never rfl (jr (dv 0)) (qy (i:=2) nd rfl (by first | exact Or.inl rfl | exact Or.inr rfl)) (qq (Yk PassesOwn.never (qdD (J5 (q9 Zd (qO J7 (by rfl) T.len_ J9 (qa (dv 1) qd)) qt (qP _)) (Js (q9 qhZ (qQ O_law_across hX (hr.mono (by decide)) rfl (qa (y8 qM (dv 1) (Z4 jm qt) (fun _ _=>rfl)) (qa (y8 qM (dv 1) (Z4 jm qt) (fun _ _=>rfl)) (qa (dv 2) qd)))) qt (qP _))))) (qC (qdG (d_pop (dv 1) (h:=qjp PySem.F.plainAttrs_list PySem.F.slot_list_pop PySem.F.type_list_pop qjV (dv 1))))))
   (qC (qdG (qfi (dv 1) (qa (dv 2) qd) (h:=pe_bm PySem.F.plainAttrs_list PySem.F.slot_list_append PySem.F.type_list_append qc0 (dv 1) (qa (dv 2) qd)))))))
   (qC (qdF (JZ (dv 1) JY (JX (Z4 jm qt))))))),?_⟩
 refine ⟨zl0,fun l hl'=>⟨_,.d _,?_⟩⟩
 refine forL (fun i ρ' μ'=>μ'=(l,.lst ((stk (row.take i)).reverse.map ptD))::μ/\∃ v2,ρ'=[some (.d (hpD row)),some (.m l),v2]) ⟨rfl,_,rfl⟩ (fun _ _ _ _=>.d _) ?_ ?_
 ·rintro i x ρ' μ' hx ⟨rfl,v2,rfl⟩
  rw [List.getElem?_map] at hx
  obtain ⟨q,hq,rfl⟩:=Option.map_eq_some_iff.mp hx
  have bq:=hb q (List.mem_of_getElem? hq)
  have hsub:∀ r∈stk (row.take i),r∈row:=fun r hr=>yM ((Jl _ rfl).1 r hr)
  have hlen:(stk (row.take i)).length<=40:=qR (Jl _ rfl).2 (by rw [yg];omega)
  have hfin:stk (row.take (i+1))=q::Ys q (stk (row.take i)):=by rw [j5 hq,Jx]
  generalize stk (row.take i)=S0 at *
  dsimp only [List.set_cons_zero,List.set_cons_succ]
  refine ⟨fun m ρ2 μ2=>∃ S:List Pt,m=S.length/\Ys q S=Ys q S0/\(∀ r∈S,r∈row)/\S.length<=40/\μ2=(l,.lst (S.reverse.map ptD))::μ/\ρ2=[some (.d (hpD row)),some (.m l),some (.d (ptD q))],⟨_,S0,rfl,rfl,hsub,hlen,rfl,rfl⟩,?_⟩
  rintro m ρ2 μ2 ⟨S,rfl,hp,hs,hsl,rfl,rfl⟩
  have hm:(l,MO.lst (S.reverse.map ptD))∈(l,MO.lst (S.reverse.map ptD))::μ:=qv
  have ln:(S.reverse.map ptD).length=S.length:=by simp
  have done:Ys q S=S->∀ v:Option En,Wks (fun ρ' μ'=>μ'=(l,.lst ((stk (row.take (i+1))).reverse.map ptD))::μ/\∃ v2,ρ'=[some (.d (hpD row)),some (.m l),v2]) [some (.d (hpD row)),some (.m l),v] ((l,.lst (S.reverse.map ptD++[ptD q]))::μ):=fun e v=>by
   refine Wks.of ⟨?_,_,rfl⟩
   rw [hfin,<- hp,e,List.reverse_cons,List.map_append]
   rfl
  refine ⟨_,.l (.m hm),jv (fun c=>?_) (fun c=>qah ?_)⟩
  ·have c:(1:Int)<((S.reverse.map ptD).length:Int):=qr c
   rw [ln] at c
   obtain ⟨b,a,t,rfl⟩:∃ b a t,S=b::a::t:=by
    match S,c with
    | b::a::t,_=>exact ⟨b,a,t,rfl⟩
   refine ⟨_,_,hm,qkw t a b,_,_,hm,qkv (a::t) b,a,b,q,rfl,hb a (hs a (by simp)),hb b (hs b (by simp)),bq,jv (fun c2=>?_) (fun c2=>?_)⟩
   ·have c2:ac a b q<=0:=qr c2
    refine ⟨[],μ,(a::t).reverse.map ptD,ptD b,by rw [List.reverse_cons,List.map_append];rfl,(a::t).length,Nat.lt_succ_self _,Wks.of ⟨a::t,rfl,?_,fun r hr=>hs r (qk _ hr),qR (Nat.le_succ _) hsl,rfl,rfl⟩⟩
    rw [<- hp]
    conv=>rhs;unfold Ys
    rw [if_pos c2]
   ·have c2:¬ ac a b q<=0:=fun z=>c2 (qu z)
    refine ⟨⟨_,hm⟩,[],μ,_,rfl,by rw [ln];omega,done ?_ _⟩
    unfold Ys
    rw [if_neg c2]
  ·have c:¬ (1:Int)<((S.reverse.map ptD).length:Int):=fun z=>c (qu z)
   rw [ln] at c
   refine ⟨⟨_,hm⟩,[],μ,_,rfl,by rw [ln];omega,done ?_ _⟩
   match S,c with
   | [],_=>rfl
   | [_],_=>rfl
   | _::_::_,c=>exact absurd (by simp only [List.length_cons];omega) c
 ·rintro ρ' μ' ⟨rfl,v2,rfl⟩
  rw [List.length_map,jN]
  refine ⟨_,.m qv,_,_,FzR.drop1,?_⟩
  have e:Zq ((stk row).reverse.map ptD) none (some (-1))=((stk row).tail.reverse).map ptD:=by
   cases h:stk row with
   | nil=>rfl
   | cons b t =>
    rw [qfk (by simp),List.reverse_cons,List.map_append]
    exact List.dropLast_concat
  show Q (.d (.list (Zq ((stk row).reverse.map ptD) none (some (-1))))) μ
  rw [e]
  exact k
end
section
variable {P:Program}{w:World}{K:W.Frag}{mg:Str->Option Value}{base:Heap}{CX:CXT}
def ptK (p:Pt):List Int:=[p.1,p.2]
theorem qcF {p q:Pt}(h:ptK p=ptK q):p=q:=by
 unfold ptK at h
 have h1:=List.cons.inj h
 have h2:=List.cons.inj h1.2
 exact Prod.ext h1.1 h2.1
theorem qcE (ps:List Pt):ps.map ptD=(ps.map ptK).map qeo:=by rw [List.map_map];rfl
theorem qjd (ps:List Pt):∀ k∈ps.map ptK,k≠[]:=fun k hk=>by
 obtain ⟨x,_,rfl⟩:=qE.mp hk
 exact fun z=>nomatch z
def Plc (ps qs:List Pt):Prop:=qs.Nodup/\Srt (qs.map ptK)/\∀ p,p∈qs ↔ p∈ps
open Classical in
theorem qja {ks:List (List Int)}{ps:List Pt}:(∀ k∈ks,k∈ps.map ptK)->∃ qs:List Pt,ks=qs.map ptK:=by
 induction ks with
 | nil=>exact fun _=>⟨[],rfl⟩
 | cons k ks ih =>
  intro h
  obtain ⟨qs,e⟩:=ih fun z hz=>h z (qk _ hz)
  obtain ⟨a,_,ea⟩:=qE.mp (h k qv)
  exact ⟨a::qs,by rw [e,<- ea];rfl⟩
theorem qhf {ps:List Pt}{ms ks:List (List Int)}(hm:∀ q,q∈ms ↔ q∈ps.map ptK) (hn:ms.Nodup) (hp:ks.Perm ms) (hs:Srt ks):∃ qs:List Pt,ks=qs.map ptK/\Plc ps qs:=by
 obtain ⟨qs,rfl⟩:=qja fun k hk=>(hm k).mp (hp.mem_iff.mp hk)
 have hnd:(qs.map ptK).Nodup:=hp.nodup_iff.mpr hn
 refine ⟨qs,rfl,(List.pairwise_map.mp hnd).imp fun h z=>h (by rw [z]),hs,fun p=>?_⟩
 have:=(hp.mem_iff (a:=ptK p)).trans (hm _)
 constructor
 ·intro h
  obtain ⟨b,hb,eb⟩:=qE.mp (this.mp (qE.mpr ⟨p,h,rfl⟩))
  rw [<- qcF eb];exact hb
 ·intro h
  obtain ⟨b,hb,eb⟩:=qE.mp (this.mpr (qE.mpr ⟨p,h,rfl⟩))
  rw [<- qcF eb];exact hb
theorem JB {α:Type} [DecidableEq α]:∀ {ms kss:List α},ms.Nodup->(∀ q∈ms,q∈kss)->ms.length<=kss.length
 | [],_,_,_=>ya _
 | a::ms,kss,hn,h=>by
  have ha:=h a qv
  have h1:=JB (ms:=ms) (kss:=kss.erase a) (List.nodup_cons.mp hn).2 (fun q hq=>by
   have hne:q≠a:=fun z=>(List.nodup_cons.mp hn).1 (z ▸ hq)
   exact (List.mem_erase_of_ne hne).mpr (h q (qk _ hq)))
  rw [List.length_erase_of_mem ha] at h1
  have:=List.length_pos_of_mem ha
  simp only [List.length_cons]
  omega
theorem lt2 (a b:Pt):ptK a<ptK b ↔ a.1<b.1\/(a.1=b.1/\a.2<b.2):=by
 unfold ptK
 simp [List.cons_lt_cons_iff]
theorem qkx {qs:List Pt}(nd:qs.Nodup) (hs:Srt (qs.map ptK)):Asc qs:=by
 unfold Srt at hs
 rw [List.pairwise_map] at hs
 unfold Asc
 refine (List.Pairwise.and nd hs).imp fun {a b} h=>?_
 obtain ⟨h1,h2⟩:=h
 rw [lt2] at h2
 have h3:¬ (a.1=b.1/\a.2=b.2):=fun z=>h1 (Prod.ext z.1 z.2)
 unfold Ps sb2
 dsimp only
 omega
def sOut:SpD:=fun es μ Q=>∃ ps:List Pt,es=[.d (hpD ps)]/\ps.length<=40/\(∀ p∈ps,Bd B39 p)/\∀ row:List Pt,Asc row->(∀ p,p∈row ↔ p∈ps)->row.length<=ps.length->Q (.d (hpD (outer row))) μ
theorem qaU:FnScope ["_law_some", "_law_row"] ["_law_some"] (qp Jm):=⟨rfl,rfl,rfl,by decide +kernel,rfl,by decide +kernel,by decide +kernel⟩
theorem qeT {f:Addr}{fd:FuncData}(F:Fun K "_law_outer" "_law_outer" Jm f fd) (T:Txt mg) (hX:NoX CX) (O_law_chain:Own P w K mg base CX 2 "_law_chain" ["_law_points"] (qV K qcu)):FnOk P w K mg base CX 3 f fd ["_law_some"] (qV K sOut):=by
 refine F.okD qaU (fun es μ Q hq0=>by obtain ⟨ps,e,_⟩:=hq0;subst e;rfl) (fun cdv A outr s H E es μ Q hr hq0=>?_)
 obtain ⟨ps,e,hl,hb,k⟩:=hq0
 subst e
 have nd:=qaU.nd
 refine ⟨_,(qq (qW (i:=1) nd rfl (by first | exact Or.inl rfl | exact Or.inr rfl) (qO (qfg (P:=P) (w:=w) (K:=K) rfl) (by rfl) T.sorted_ qd4 (qa (JE (qkk (P:=P) (w:=w) (K:=K) rfl hr.units) (by rfl) T.set_ qkt (qa (dv 0) qd)) qd)))
   (qC (qN (qZ qbk (qQ O_law_chain hX (hr.mono (by decide)) rfl (qa (dv 1) qd)) (qQ O_law_chain hX (hr.mono (by decide)) rfl (qa (qkn rfl (by rfl) T.list_ (by rfl) T.reversed_ (dv 1)) qd)))))),?_⟩
 refine ⟨ps.map ptK,by rw [<- qcE];exact .d _,qjd ps,by rw [List.length_map];omega,fun ms hm hn h77=>⟨ms,rfl,?_,fun ks hp hs=>?_⟩⟩
 ·have:=JB hn fun q hq=>(hm q).mp hq
  rw [List.length_map] at this
  omega
 ·obtain ⟨qs,rfl,h⟩:=qhf hm hn hp hs
  have ha:=qkx h.1 h.2.1
  have hlen0:qs.length<=ps.length:=JB h.1 fun q hq=>(h.2.2 q).mp hq
  have hlen:qs.length<=40:=qR hlen0 hl
  have hbq:∀ p∈qs,Bd B39 p:=fun p hp'=>hb p ((h.2.2 p).mp hp')
  rw [<- qcE]
  refine ⟨qs,rfl,hlen,hbq,_,.d _,?_⟩
  rw [<- List.map_reverse]
  refine ⟨qs.reverse,rfl,by rw [List.length_reverse];exact hlen,fun p hp'=>hbq p (List.mem_reverse.mp hp'),_,_,.d _,.d _,?_,?_⟩
  ·have l1:=(Jl _ (ps:=qs) rfl).2
   have l2:=(Jl _ (ps:=qs.reverse) rfl).2
   rw [List.length_reverse] at l2
   simp only [List.length_map,List.length_reverse,List.length_tail]
   omega
  ·have:=k qs ha h.2.2 hlen0
   unfold outer hpD at this
   rw [List.map_append] at this
   exact this
def qg4:SpD:=fun es μ Q=>∃ (p:Addr) (b:Bool),es=[.m p,.d (.bool b)]/\(p,PA0)∈μ/\∀ n,Num n->Q (.d (.int n)) μ
theorem qco:FnScope ["_law_pot_here", "_law_are_great"] ["_law_pot_here", "_law_are_great"] (qp JR):=⟨rfl,rfl,rfl,by decide +kernel,rfl,by decide +kernel,by decide +kernel⟩
theorem qhy {f:Addr}{fd:FuncData}(F:Fun K "_law_mark" "_law_mark" JR f fd) (hX:NoX CX) (O_law_take:Own P w K mg base CX 1 "_law_take" ["_law_pot_here", "_law_many"] (qV K (sDraw 2147483629))) (O_law_wide:Own P w K mg base CX 2 "_law_wide" ["_law_pot_here"] (qV K (sNum 2147483629))):FnOk P w K mg base CX 3 f fd ["_law_pot_here", "_law_are_great"] (qV K qg4):=by
 refine F.okD qco (fun es μ Q hq0=>by obtain ⟨p,b,e,_⟩:=hq0;subst e;rfl) (fun cdv A outr s H E es μ Q hr hq0=>?_)
 obtain ⟨p,b,e,hp,k⟩:=hq0
 subst e
 have nd:=qco.nd
 refine ⟨_,(qq (jd (qdD (J5 (ZY (dv 1)) (Js (q9 (Yc hr.units) (qQ O_law_take hX (hr.mono (by decide)) rfl (qa (dv 0) (qa qt qd))) qt (qP _))))) (qC (qN (qQ O_law_wide hX (hr.mono (by decide)) rfl (qa (dv 0) qd)))) yz)
   (qC (qN (qZ yA (qQ O_law_take hX (hr.mono (by decide)) rfl (qa (dv 0) (qa qt qd))) qt)))),?_⟩
 have fin:∀ d:Int,0<=d->d<13->Num (d - 6):=fun d h1 h2=>by unfold Num;omega
 cases b with
 | true =>
  refine ⟨p,_,rfl,hp,by decide,by decide,fun d d0 d1=>jv (fun c=>?_) (fun c=>?_)⟩
  ·exact ⟨p,rfl,hp,fun n hn=>k n hn⟩
  ·exact ⟨p,_,rfl,hp,by decide,by decide,fun d d0 d1=>k _ (fin d d0 d1)⟩
 | false=>exact ⟨p,_,rfl,hp,by decide,by decide,fun d d0 d1=>k _ (fin d d0 d1)⟩
def Ck (P:List Pt):Prop:=Cvx P/\3<=P.length/\P.length<=12/\∀ p∈P,qbs p
theorem ZI {row:List Pt}{p:Pt}(h:p∈outer row):p∈row:=by
 unfold outer at h
 rcases List.mem_append.mp h with z | z
 ·exact (Jl _ rfl).1 p (List.mem_of_mem_tail (List.mem_reverse.mp z))
 ·exact List.mem_reverse.mp ((Jl _ (ps:=row.reverse) rfl).1 p (List.mem_of_mem_tail (List.mem_reverse.mp z)))
theorem Yu {p:Pt}(h:qbs p):Bd B39 p:=by
 obtain ⟨⟨a,b⟩,c,d⟩:=h
 constructor
 ·show p.1.natAbs<=1000000000000000000000000000000000000000
  omega
 ·show p.2.natAbs<=1000000000000000000000000000000000000000
  omega
theorem qdR (ds:List PyData) (i:Nat) (h:i<=ds.length):Zq ds none (some (i:Int))=ds.take i:=by
 unfold Zq
 rw [HT.sIx_nat,HT.sIx_none,Nat.min_eq_left h,List.drop_zero,Nat.sub_zero]
theorem Zf (ds:List PyData) (i:Nat) (h:i<=ds.length):Zq ds (some (i:Int)) none=ds.drop i:=by
 unfold Zq
 rw [HT.sIx_nat,HT.sIx_none,Nat.min_eq_left h]
 exact List.take_of_length_le (by rw [yy];omega)
def rot (P:List Pt) (k:Nat):List Pt:=P.drop k++P.take k
theorem qiV {P:List Pt}{k:Nat}(h:Ck P):Ck (rot P k):=by
 obtain ⟨h1,h2,h3,h4⟩:=h
 have hl:(rot P k).length=P.length:=by unfold rot;rw [List.length_append,yy,yg];omega
 refine ⟨?_,by omega,by omega,fun p hp=>?_⟩
 ·unfold rot
  refine qgU ?_
  rw [qA]
  exact h1
 ·unfold rot at hp
  rcases List.mem_append.mp hp with z | z
  ·exact h4 p (yN z)
  ·exact h4 p (yM z)
def qey:SpD:=fun es μ Q=>∃ p:Addr,es=[.m p]/\(p,PA0)∈μ/\∀ P:List Pt,Ck P->Q (.d (hpD P)) μ
theorem qcq:FnScope ["_law_pot_here", "_law_are_great", "_law_many", "_law_found", "_law_x", "_law_y", "_law_at"] ["_law_pot_here"] (qp Jf):=⟨rfl,rfl,rfl,by decide +kernel,rfl,by decide +kernel,by decide +kernel⟩
theorem qhA {f:Addr}{fd:FuncData}(F:Fun K "_law_cake" "_law_cake" Jf f fd) (T:Txt mg) (hX:NoX CX) (O_law_take:Own P w K mg base CX 1 "_law_take" ["_law_pot_here", "_law_many"] (qV K (sDraw 2147483629))) (O_law_mark:Own P w K mg base CX 3 "_law_mark" ["_law_pot_here", "_law_are_great"] (qV K qg4)) (O_law_outer:Own P w K mg base CX 3 "_law_outer" ["_law_some"] (qV K sOut)):FnOk P w K mg base CX 4 f fd ["_law_pot_here"] (qV K qey):=by
 refine F.okD qcq (fun es μ Q hq0=>by obtain ⟨p,e,_⟩:=hq0;subst e;rfl) (fun cdv A outr s H E es μ Q hr hq0=>?_)
 obtain ⟨p,e,hp,k⟩:=hq0
 subst e
 have nd:=qcq.nd
 refine ⟨_,(qq (qW (i:=1) nd rfl (by first | exact Or.inl rfl | exact Or.inr rfl) (Z5 (Yc hr.units) (qQ O_law_take hX (hr.mono (by decide)) rfl (qa (dv 0) (qa qt qd))) qt (qP _)))
   (qq (qW (i:=2) nd rfl (by first | exact Or.inl rfl | exact Or.inr rfl) (qZ yw qt (qQ O_law_take hX (hr.mono (by decide)) rfl (qa (dv 0) (qa qt qd)))))
   (qq (qW (i:=3) nd rfl (by first | exact Or.inl rfl | exact Or.inr rfl) (qQ O_law_outer hX (hr.mono (by decide)) rfl (qa (j3 (L:=["_law_k"]) (sc:=qp Jf) (N:=["_law_pot_here", "_law_are_great", "_law_many", "_law_found", "_law_x", "_law_y", "_law_at"]) rfl rfl rfl (by decide +kernel) (Ja rfl T.range_ (qa (dv 2) qd)) (fun _ _ _ _ _=>(qy (i:=7) (show List.Nodup (["_law_pot_here", "_law_are_great", "_law_many", "_law_found", "_law_x", "_law_y", "_law_at", "_law_k"]:List Str) from by decide +kernel) rfl (by first | exact Or.inl rfl | exact Or.inr rfl))) (fun _ _ _ _ _=>je) (fun _ _ _ _ _=>(yl (qa (qQ O_law_mark hX (hr.mono (by decide)) rfl (qa (dv 0) (qa (dv 1) qd))) (qa (qQ O_law_mark hX (hr.mono (by decide)) rfl (qa (dv 0) (qa (dv 1) qd))) qd))))) qd)))
   (qq (jd (q9 Yb (qO J7 (by rfl) T.len_ J9 (qa (dv 3) qd)) qt (qP _)) (qq (Yz (i:=4) (j:=5) rfl nd rfl rfl (by decide) rfl rfl (qa (qZ yA (qQ O_law_take hX (hr.mono (by decide)) rfl (qa (dv 0) (qa qt qd))) qt) (qa (qZ yA (qQ O_law_take hX (hr.mono (by decide)) rfl (qa (dv 0) (qa qt qd))) qt) qd)) rfl)
   (qC (qW (i:=3) nd rfl (by first | exact Or.inl rfl | exact Or.inr rfl) (qfh (qa (yl (qa (dv 4) (qa (dv 5) qd))) (qa (yl (qa (qZ yw (qZ yw (dv 4) qt) (qQ O_law_take hX (hr.mono (by decide)) rfl (qa (dv 0) (qa qt qd)))) (qa (dv 5) qd))) (qa (yl (qa (qZ yw (dv 4) (qQ O_law_take hX (hr.mono (by decide)) rfl (qa (dv 0) (qa qt qd)))) (qa (qZ yw (qZ yw (dv 5) qt) (qQ O_law_take hX (hr.mono (by decide)) rfl (qa (dv 0) (qa qt qd)))) qd))) qd))))))) yz)
   (qq (qW (i:=6) nd rfl (by first | exact Or.inl rfl | exact Or.inr rfl) (qQ O_law_take hX (hr.mono (by decide)) rfl (qa (dv 0) (qa (qO J7 (by rfl) T.len_ J9 (qa (dv 3) qd)) qd))))
   (qC (qN (qZ qbk (JZ (dv 3) (JX (dv 6)) JY) (JZ (dv 3) JY (JX (dv 6))))))))))),?_⟩
 refine ⟨p,_,rfl,hp,by decide,by decide,fun g g0 g1=>?_⟩
 refine ⟨p,_,rfl,hp,by decide,by decide,fun n n0 n1=>?_⟩
 refine ⟨by omega,by omega,(show (3+n).toNat<=4000 by omega),fun i ys ρ' μ'=>μ'=μ/\∃ qs:List Pt,ys=qs.map ptD/\qs.length=i/\(∀ q∈qs,qbs q)/\∃ v,ρ'=[some (.m p),some (.d (.bool (decide (g=7)))),some (.d (.int (3+n))),none,none,none,none,v],⟨rfl,[],rfl,rfl,(fun _ h=>nomatch h),_,rfl⟩,fun _ _ _ _ _ _=>trivial,?_,?_⟩
 ·rintro i ys ρ' μ' hi ⟨rfl,qs,rfl,hlq,hq,v,rfl⟩
  refine ⟨p,_,rfl,hp,fun a ha=>⟨p,_,rfl,hp,fun b hb=>⟨zl2,?_⟩⟩⟩
  refine ⟨_,rfl,rfl,qs++[(a,b)],by rw [List.map_append];rfl,by rw [List.length_append,List.length_singleton];omega,fun q hq'=>?_,_,rfl⟩
  rcases List.mem_append.mp hq' with z | z
  ·exact hq q z
  ·rw [qI.mp z];exact ⟨ha,hb⟩
 ·rintro ys ρ' μ' ⟨rfl,qs,rfl,hlq,hq,v,rfl⟩
  have hlq:qs.length=(3+n).toNat:=hlq
  refine ⟨qs,rfl,by omega,fun q hq'=>Yu (hq q hq'),fun row ha hm hl=>?_⟩
  dsimp only [List.set_cons_zero,List.set_cons_succ]
  have fin:∀ (P:List Pt) (d:Int),Ck P->0<=d->d<(((P.map ptD).length:Nat):Int)->Q (.d (.list (Zq (P.map ptD) (some d) none++Zq (P.map ptD) none (some d)))) μ':=fun P d hP d0 d1=>by
   rw [List.length_map] at d1
   have:=k (rot P d.toNat) (qiV hP)
   unfold rot hpD at this
   rw [List.map_append,List.map_drop,List.map_take] at this
   rw [show d=((d.toNat:Nat):Int) by omega,Zf _ _ (by rw [List.length_map];omega),qdR _ _ (by rw [List.length_map];omega)]
   exact this
  have cl:∀ (P:List Pt) (d:Int),Ck P->0<=d->d<(((P.map ptD).length:Nat):Int)->(Zq (P.map ptD) (some d) none).length+(Zq (P.map ptD) none (some d)).length<=4000:=fun P d hP d0 d1=>by
   rw [List.length_map] at d1
   have h3:=hP.2.2.1
   rw [show d=((d.toNat:Nat):Int) by omega,Zf _ _ (by rw [List.length_map];omega),qdR _ _ (by rw [List.length_map];omega),yy,yg,List.length_map]
   omega
  have ln:∀ P:List Pt,Ck P->(0:Int)<(((P.map ptD).length:Nat):Int)/\(((P.map ptD).length:Nat):Int)<=10000000000000000000000000000000000000000:=fun P hP=>by
   rw [List.length_map]
   have:=hP.2.1
   have:=hP.2.2.1
   omega
  refine ⟨_,.l (.d _),jv (fun c=>?_) (fun c=>?_)⟩
  ·refine ⟨p,_,rfl,hp,by decide,by decide,fun x x0 x1=>⟨p,_,rfl,hp,by decide,by decide,fun y y0 y1=>?_⟩⟩
   dsimp only [List.set_cons_zero,List.set_cons_succ]
   refine ⟨zl2,p,_,rfl,hp,by decide,by decide,fun a a0 a1=>⟨zl2,p,_,rfl,hp,by decide,by decide,fun b b0 b1=>⟨p,_,rfl,hp,by decide,by decide,fun c' c0 c1=>⟨zl2,zl3,?_⟩⟩⟩⟩
   dsimp only [List.set_cons_zero,List.set_cons_succ]
   have hck:Ck [(x - 4,y - 4),(x - 4+1+a,y - 4),(x - 4+b,y - 4+1+c')]:=by
    refine ⟨qgT ?_,by simp,by simp,fun q hq'=>?_⟩
    ·have:ac (x - 4,y - 4) (x - 4+1+a,y - 4) (x - 4+b,y - 4+1+c')=(1+a) * (1+c'):=by unfold ac;dsimp only;grind
     rw [this]
     exact yF (by omega) (by omega)
    ·simp only [List.mem_cons,List.not_mem_nil,or_false] at hq'
     rcases hq' with rfl | rfl | rfl <;> (unfold qbs Num;dsimp only;omega)
   refine ⟨_,.l (.d _),p,_,rfl,hp,(ln _ hck).1,(ln _ hck).2,fun d d0 d1=>⟨_,.d _,_,.d _,_,_,.d _,.d _,cl _ d hck d0 d1,fin _ d hck d0 d1⟩⟩
  ·have c:¬ ((((outer row).map ptD).length:Nat):Int)<3:=fun z=>c (qu z)
   rw [List.length_map] at c
   have hol:(outer row).length<=row.length:=JB (qdQ (ZH ha) (by omega)) fun q hq'=>ZI hq'
   have hck:Ck (outer row):=⟨ZH ha,by omega,by omega,fun q hq'=>hq q ((hm q).mp (ZI hq'))⟩
   refine ⟨_,.l (.d _),p,_,rfl,hp,(ln _ hck).1,(ln _ hck).2,fun d d0 d1=>⟨_,.d _,_,.d _,_,_,.d _,.d _,cl _ d hck d0 d1,fin _ d hck d0 d1⟩⟩
end
section
variable {P:Program}{w:World}{K:W.Frag}{mg:Str->Option Value}{base:Heap}{CX:CXT}
def qaY:SpD:=fun es μ Q=>∃ p q:Pt,es=[.d (ptD p),.d (ptD q)]/\Bd B40 p/\Bd B40 q/\Q (.d (.int (crs p q))) μ
theorem qaV:FnScope ["one", "other"] ["one", "other"] (qp qcj):=⟨rfl,rfl,rfl,by decide +kernel,rfl,by decide +kernel,by decide +kernel⟩
theorem qeU {f:Addr}{fd:FuncData}(F:Fun K "cross" "cross" qcj f fd)  : FnOk P w K mg base CX 1 f fd ["one", "other"] (qV K qaY):=by
 refine F.okD qaV (fun es μ Q hq0=>by obtain ⟨p,q,e,_⟩:=hq0;subst e;rfl) (fun cdv A outer s H E es μ Q hr hq0=>?_)
 obtain ⟨p,q,e,hp,hq,k⟩:=hq0
 subst e
 have nd:=qaV.nd
 refine ⟨_,(qC (qN (qZ yA (qZ Ji (y8 qM (dv 0) qt (fun _ _=>rfl)) (y8 qM (dv 1) qt (fun _ _=>rfl))) (qZ Ji (y8 qM (dv 0) qt (fun _ _=>rfl)) (y8 qM (dv 1) qt (fun _ _=>rfl)))))),?_⟩
 exact ⟨_,rfl,_,rfl,qbF hp.1 hq.2,_,rfl,_,rfl,qbF hp.2 hq.1,k⟩
def qeA (P:List Pt):List (List Pt):=(List.range P.length).map (rot P)
def qg3:SpD:=fun es μ Q=>∃ P:List Pt,es=[.d (hpD P)]/\P.length<=1000/\Q (.d (.list ((qeA P).map hpD))) μ
theorem qcn:FnScope ["corners"] ["corners"] (qp yK):=⟨rfl,rfl,rfl,by decide +kernel,rfl,by decide +kernel,by decide +kernel⟩
theorem qhx {f:Addr}{fd:FuncData}(F:Fun K "from_each_corner" "from_each_corner" yK f fd) (T:Txt mg):FnOk P w K mg base CX 1 f fd ["corners"] (qV K qg3):=by
 refine F.okD qcn (fun es μ Q hq0=>by obtain ⟨P,e,_⟩:=hq0;subst e;rfl) (fun cdv A outer s H E es μ Q hr hq0=>?_)
 obtain ⟨P,e,hl,k⟩:=hq0
 subst e
 have nd:=qcn.nd
 refine ⟨_,(qC (qN (j3 (L:=["at"]) (sc:=qp yK) (N:=["corners"]) rfl rfl rfl (by decide +kernel) (Ja rfl T.range_ (qa (qO J7 (by rfl) T.len_ J9 (qa (dv 0) qd)) qd)) (fun _ _ _ _ _=>(qy (i:=1) (show List.Nodup (["corners", "at"]:List Str) from by decide +kernel) rfl (by first | exact Or.inl rfl | exact Or.inr rfl))) (fun _ _ _ _ _=>je) (fun _ _ _ _ _=>(qZ qbk (JZ (dv 0) (JX (dv 1)) JY) (JZ (dv 0) JY (JX (dv 1)))))))),?_⟩
 have ln:(P.map ptD).length=P.length:=List.length_map ..
 refine ⟨_,.l (.d _),by omega,by omega,(show ((((P.map ptD).length:Nat):Int)).toNat<=4000 by omega),fun i ys ρ' μ'=>μ'=μ/\ys=((List.range i).map (rot P)).map hpD/\∃ v,ρ'=[some (.d (hpD P)),v],⟨rfl,rfl,_,rfl⟩,fun _ _ _ _ _ _=>trivial,?_,?_⟩
 ·rintro i ys ρ' μ' hi ⟨rfl,rfl,v,rfl⟩
  have hi:i<((((P.map ptD).length:Nat):Int)).toNat:=hi
  have hi2:i<=(P.map ptD).length:=by omega
  have e1:Zq (P.map ptD) (some (0+(i:Int))) none=(P.drop i).map ptD:=by rw [Int.zero_add,Zf _ _ hi2,List.map_drop]
  have e2:Zq (P.map ptD) none (some (0+(i:Int)))=(P.take i).map ptD:=by rw [Int.zero_add,qdR _ _ hi2,List.map_take]
  refine ⟨_,.d _,_,.d _,_,_,.d _,.d _,?_,?_⟩
  ·rw [e1,e2,List.length_map,List.length_map,yy,yg];omega
  ·refine ⟨_,rfl,rfl,?_,_,rfl⟩
   rw [e1,e2,List.range_succ,List.map_append,List.map_append,<- List.map_append]
   rfl
 ·rintro ys ρ' μ' ⟨rfl,rfl,v,rfl⟩
  have:((itR 0 ((((P.map ptD).length:Nat):Int)).toNat)).n=P.length:=by show ((((P.map ptD).length:Nat):Int)).toNat=_;omega
  rw [this]
  exact k
theorem qf6 {P:List Pt}{k t:Nat}(hk:k<P.length) (ht:t<P.length):gP (rot P k) t=gP P ((k+t) % P.length):=by
 have hl:(rot P k).length=P.length:=by unfold rot;rw [List.length_append,yy,yg];omega
 have hd:(P.drop k).length=P.length - k:=yy ..
 by_cases h:t<P.length - k
 ·unfold rot
  rw [qgr (by omega),qD (by omega),jE (by omega),jE (show k+t<P.length by omega),List.getElem_drop]
 ·unfold rot at hl ⊢
  rw [qhT (by omega) (by omega),show (k+t) % P.length=k+t - P.length by rw [Nat.mod_eq_sub_mod (by omega),qD (by omega)],hd,jE (by rw [yg];omega),jE (by omega),List.getElem_take]
  congr 1
  omega
theorem qcy (P:List Pt) (k:Nat):(rot P k).length=P.length:=by unfold rot;rw [List.length_append,yy,yg];omega
def rst (P:List Pt) (k:Nat):List Pt:=(rot P k).drop 2
theorem qeB {P:List Pt}{k:Nat}(hk:k<P.length) (h2:2<=P.length):rot P k=gP P k::nx P k::rst P k:=by
 have hl:=qcy P k
 have d:=dec2 (S:=rot P k) (k:=0) (by omega)
 rw [List.take_zero,List.nil_append,qf6 hk (by omega),qf6 hk (by omega),Nat.add_zero,qD hk] at d
 exact d
def qaX:SpD:=fun es μ Q=>∃ P:List Pt,es=[.d (hpD P)]/\2<=P.length/\P.length<=1000/\Q (.d (.list ((List.range P.length).map fun k=>.tuple [ptD (gP P k),ptD (nx P k)]))) μ
theorem qaS:FnScope ["corners"] ["corners"] (qp qaO):=⟨rfl,rfl,rfl,by decide +kernel,rfl,by decide +kernel,by decide +kernel⟩
theorem qeR {f:Addr}{fd:FuncData}(F:Fun K "sides" "sides" qaO f fd) (T:Txt mg) (hX:NoX CX) (Ofrom_each_corner:Own P w K mg base CX 1 "from_each_corner" ["corners"] (qV K qg3)):FnOk P w K mg base CX 2 f fd ["corners"] (qV K qaX):=by
 refine F.okD qaS (fun es μ Q hq0=>by obtain ⟨P,e,_⟩:=hq0;subst e;rfl) (fun cdv A outer s H E es μ Q hr hq0=>?_)
 obtain ⟨P,e,h2,hl,k⟩:=hq0
 subst e
 have nd:=qaS.nd
 refine ⟨_,(qC (qN (j3 (L:=["start", "end", "rest"]) (sc:=qp qaO) (N:=["corners"]) rfl rfl rfl (by decide +kernel) (jr (qQ Ofrom_each_corner hX (hr.mono (by decide)) rfl (qa (dv 0) qd))) (fun _ _ _ _ _=>(qh2 (i:=2) rfl (qw (qy (i:=1) (show List.Nodup (["corners", "start", "end", "rest"]:List Str) from by decide +kernel) rfl (by first | exact Or.inl rfl | exact Or.inr rfl)) (qw (qy (i:=2) (show List.Nodup (["corners", "start", "end", "rest"]:List Str) from by decide +kernel) rfl (by first | exact Or.inl rfl | exact Or.inr rfl)) (qfb (qy (i:=3) (show List.Nodup (["corners", "start", "end", "rest"]:List Str) from by decide +kernel) rfl (by first | exact Or.inl rfl | exact Or.inr rfl)) yh))))) (fun _ _ _ _ _=>je) (fun _ _ _ _ _=>(yl (qa (dv 1) (qa (dv 2) qd))))))),?_⟩
 have rl:((qeA P).map hpD).length=P.length:=by unfold qeA;simp
 refine ⟨P,rfl,hl,_,.d _,(by show ((qeA P).map hpD).length<=4000;omega),fun i ys ρ' μ'=>μ'=μ/\ys=((List.range i).map fun k=>.tuple [ptD (gP P k),ptD (nx P k)])/\∃ v1 v2 v3,ρ'=[some (.d (hpD P)),v1,v2,v3],⟨rfl,rfl,_,_,_,rfl⟩,fun i ys ρ' μ' _ h=>.d _,?_,?_⟩
 ·rintro i ys ρ' μ' hi ⟨rfl,rfl,v1,v2,v3,rfl⟩
  have hi:i<((qeA P).map hpD).length:=hi
  rw [rl] at hi
  have ei:((qeA P).map hpD).getD i .none=hpD (rot P i):=by
   rw [qL,List.getElem?_map]
   unfold qeA
   rw [List.getElem?_map,List.getElem?_range hi]
   rfl
  have hrl:=qcy P i
  have et:((rot P i).map ptD).take 2++[.list (((rot P i).map ptD).drop 2)]=[ptD (gP P i),ptD (nx P i),hpD (rst P i)]:=by
   rw [qeB hi (by omega)];rfl
  refine ⟨(rot P i).map ptD,by show LstOf μ' (.d (((qeA P).map hpD).getD i .none)) _;rw [ei];exact .d _,by rw [List.length_map];omega,by rw [List.length_map];omega,?_⟩
  rw [et]
  refine ⟨zl2,_,rfl,rfl,?_,_,_,_,rfl⟩
  rw [List.range_succ,List.map_append]
  rfl
 ·rintro ys ρ' μ' ⟨rfl,rfl,v1,v2,v3,rfl⟩
  show Q (.d (.list ((List.range ((qeA P).map hpD).length).map fun k=>.tuple [ptD (gP P k),ptD (nx P k)]))) μ'
  rw [rl]
  exact k
def qez:SpD:=fun es μ Q=>∃ P:List Pt,es=[.d (hpD P)]/\2<=P.length/\P.length<=1000/\(∀ p∈P,qbs p)/\Q (.d (.int (Zr P))) μ
theorem qcr:FnScope ["cake"] ["cake"] (qp qex):=⟨rfl,rfl,rfl,by decide +kernel,rfl,by decide +kernel,by decide +kernel⟩
theorem qhB {f:Addr}{fd:FuncData}(F:Fun K "area" "area" qex f fd) (T:Txt mg) (hX:NoX CX) (Osides:Own P w K mg base CX 2 "sides" ["corners"] (qV K qaX)) (Ocross:Own P w K mg base CX 1 "cross" ["one", "other"] (qV K qaY)):FnOk P w K mg base CX 3 f fd ["cake"] (qV K qez):=by
 refine F.okD qcr (fun es μ Q hq0=>by obtain ⟨P,e,_⟩:=hq0;subst e;rfl) (fun cdv A outer s H E es μ Q hr hq0=>?_)
 obtain ⟨P,e,h2,hl,hn,k⟩:=hq0
 subst e
 have nd:=qcr.nd
 refine ⟨_,(qC (qN (qO (qh3 rfl) (by rfl) T.sum_ qks (qa (j3 (L:=["start", "end"]) (sc:=qp qex) (N:=["cake"]) rfl rfl rfl (by decide +kernel) (jr (qQ Osides hX (hr.mono (by decide)) rfl (qa (dv 0) qd))) (fun _ _ _ _ _=>(yI (n:=2) rfl (qw (qy (i:=1) (show List.Nodup (["cake", "start", "end"]:List Str) from by decide +kernel) rfl (by first | exact Or.inl rfl | exact Or.inr rfl)) (qw (qy (i:=2) (show List.Nodup (["cake", "start", "end"]:List Str) from by decide +kernel) rfl (by first | exact Or.inl rfl | exact Or.inr rfl)) yh)))) (fun _ _ _ _ _=>je) (fun _ _ _ _ _=>(qQ Ocross hX (hr.mono (by decide)) rfl (qa (dv 1) (qa (dv 2) qd))))) qd)))),?_⟩
 have b40':∀ {p:Pt},qbs p->Bd B40 p:=fun h=>⟨qR (Yu h).1 (by decide),qR (Yu h).2 (by decide)⟩
 refine ⟨P,rfl,h2,hl,_,.d _,(by show (List.map _ (List.range P.length)).length<=4000;rw [List.length_map,yp];omega),Z7 (as:=List.range P.length) (h1:=fun k=>ptD (gP P k)) (h2:=fun k=>ptD (nx P k)) (fun k=>.int (crs (gP P k) (nx P k))) (Src.l (.d _)) (fun i hi R h=>?_) ?_⟩
 ·have hi:=List.mem_range.mp hi
  exact ⟨gP P i,nx P i,rfl,b40' (hn _ (jZ hi)),b40' (hn _ (jZ (yE _ (by omega)))),h⟩
 ·refine ⟨(List.range P.length).map fun k=>crs (gP P k) (nx P k),by rw [List.map_map];exact .d _,k⟩
end
section
variable {P:Program}{w:World}{K:W.Frag}{mg:Str->Option Value}{base:Heap}{CX:CXT}
def sGcd:SpD:=fun es μ Q=>∃ a b:Int,es=[.d (.int a),.d (.int b)]/\Q (.d (.int (Int.gcd a b:Nat))) μ
theorem qiQ:FnScope ["one", "other", "divisor", "rest"] ["one", "other"] (qp jA):=⟨rfl,rfl,rfl,by decide +kernel,rfl,by decide +kernel,by decide +kernel⟩
theorem ok_cd {f:Addr}{fd:FuncData}(F:Fun K "common_divisor" "common_divisor" jA f fd) (T:Txt mg):FnOk P w K mg base CX 1 f fd ["one", "other"] (qV K sGcd):=by
 refine F.okD qiQ (fun es μ Q hq0=>by obtain ⟨a,b,e,_⟩:=hq0;subst e;rfl) (fun cdv A outer s H E es μ Q hr hq0=>?_)
 obtain ⟨a,b,e,k⟩:=hq0
 subst e
 have nd:=qiQ.nd
 refine ⟨_,(qq (qW (i:=2) nd rfl (by first | exact Or.inl rfl | exact Or.inr rfl) (qO JD (by rfl) T.abs_ JF (qa (dv 0) qd)))
   (qq (qW (i:=3) nd rfl (by first | exact Or.inl rfl | exact Or.inr rfl) (qO JD (by rfl) T.abs_ JF (qa (dv 1) qd)))
   (qq (Yk PassesOwn.never (q9 (Ya hr.units) (dv 3) qt (qP _)) (qC (Yz (i:=2) (j:=3) rfl nd rfl rfl (by decide) rfl rfl (qa (dv 3) (qa (qZ qdH (dv 2) (dv 3)) qd)) rfl)))
   (qC (qN (dv 2)))))),?_⟩
 refine ⟨fun m ρ' μ'=>μ'=μ/\∃ f r:Nat,ρ'=[some (.d (.int a)),some (.d (.int b)),some (.d (.int f)),some (.d (.int r))]/\m=r/\Nat.gcd f r=Int.gcd a b,⟨_,rfl,_,_,rfl,rfl,rfl⟩,?_⟩
 rintro m ρ' μ' ⟨rfl,f,r,rfl,rfl,g⟩
 refine jv (fun c=>?_) (fun c=>?_)
 ·have hm:m≠0:=by
   rintro rfl
   exact absurd c (by decide)
  refine ⟨(show (0:Int)<(m:Int) by omega),f % m,yE _ (by omega),Wks.of ⟨rfl,m,f % m,?_,rfl,by rw [qe7];exact g⟩⟩
  rw [Int.natCast_emod];rfl
 ·have:m=0:=by
   by_cases z:m=0
   ·exact z
   ·exact absurd (show (!decide ((m:Int)=0))=true by simp;omega) c
  subst this
  rw [Nat.gcd_zero_right] at g
  subst g
  exact k
def qkr (n d:Int):PyData:=.tuple [.int (n.fdiv (Int.gcd n d:Nat)),.int (d.fdiv (Int.gcd n d:Nat))]
theorem qgq {n d:Int}(h:0<d) (hs:Sz 9000 d):((Int.gcd n d:Nat):Int)≠0/\Sz 9000 (Int.gcd n d:Nat):=by
 have h1:Int.gcd n d ∣ d.natAbs:=Int.gcd_dvd_natAbs_right n d
 have h2:0<d.natAbs:=by omega
 have h3:Int.gcd n d<=d.natAbs:=Nat.le_of_dvd h2 h1
 have h4:0<Int.gcd n d:=Nat.pos_of_ne_zero fun z=>by rw [z] at h1;exact absurd (Nat.eq_zero_of_zero_dvd h1) (by omega)
 refine ⟨by omega,?_⟩
 unfold Sz at *
 show (((Int.gcd n d:Nat):Int)).natAbs<_
 rw [Int.natAbs_natCast]
 exact jf h3 hs
def sLow:SpD:=fun es μ Q=>∃ n d:Int,es=[.d (.int n),.d (.int d)]/\d≠0/\Sz 9000 d/\(0<d->Q (.d (qkr n d)) μ)/\(d<0->Q (.d (qkr (-n) (-d))) μ)
theorem qfT:FnScope ["n", "d", "divisor"] ["n", "d"] (qp qam):=⟨rfl,rfl,rfl,by decide +kernel,rfl,by decide +kernel,by decide +kernel⟩
theorem qjJ {f:Addr}{fd:FuncData}(F:Fun K "lowest" "lowest" qam f fd) (hX:NoX CX) (Ocommon_divisor:Own P w K mg base CX 1 "common_divisor" ["one", "other"] (qV K sGcd)):FnOk P w K mg base CX 2 f fd ["n", "d"] (qV K sLow):=by
 refine F.okD qfT (fun es μ Q hq0=>by obtain ⟨n,d,e,_⟩:=hq0;subst e;rfl) (fun cdv A outer s H E es μ Q hr hq0=>?_)
 obtain ⟨n,d,e,h0,hs,k1,k2⟩:=hq0
 subst e
 have nd:=qfT.nd
 refine ⟨_,(qq (qW (i:=2) nd rfl (by first | exact Or.inl rfl | exact Or.inr rfl) (qQ Ocommon_divisor hX (hr.mono (by decide)) rfl (qa (dv 0) (qa (dv 1) qd))))
   (qq (jd (q9 Yb (dv 1) qt (qP _)) (qC (qW (i:=2) nd rfl (by first | exact Or.inl rfl | exact Or.inr rfl) (Z4 jm (dv 2)))) yz)
   (qC (qN (yl (qa (qZ Ze (dv 0) (dv 2)) (qa (qZ Ze (dv 1) (dv 2)) qd))))))),?_⟩
 refine ⟨n,d,rfl,jv (fun c=>?_) (fun c=>?_)⟩
 ·have c:d<0:=qr c
  have g:=qgq (n:=-n) (d:=-d) (by omega) hs.neg
  have kk:=k2 c
  unfold qkr at kk
  rw [Int.gcd_neg,Int.neg_gcd] at g kk
  have e:∀ x:Int,(-x).fdiv ((Int.gcd n d:Nat):Int)=x.fdiv (-((Int.gcd n d:Nat):Int)):=fun x=>by
   have:=Int.neg_fdiv_neg x (-((Int.gcd n d:Nat):Int))
   rw [Int.neg_neg] at this
   exact this
  rw [e,e] at kk
  have g':∀ x:Int,qis x (-((Int.gcd n d:Nat):Int)):=fun x=>⟨by have:=g.1;omega,g.2.neg⟩
  exact ⟨g' _,g' _,zl2,kk⟩
 ·have c:¬ d<0:=fun z=>c (qu z)
  have g:=qgq (n:=n) (show 0<d by omega) hs
  exact ⟨g,g,zl2,k1 (by omega)⟩
def cvA (sq on no n d:Int):Int:=sq * n * n+on * n * d+no * d * d
def sCvA:SpD:=fun es μ Q=>∃ sq on no n d:Int,es=[.d (.tuple [.int sq,.int on,.int no]),.d (.int n),.d (.int d)]/\Sz 9000 sq/\Sz 9000 on/\Sz 9000 no/\Sz 400 n/\Sz 400 d/\Q (.d (.int (cvA sq on no n d))) μ
theorem qfY:FnScope ["curve", "n", "d", "square", "one", "nought"] ["curve", "n", "d"] (qp Yp):=⟨rfl,rfl,rfl,by decide +kernel,rfl,by decide +kernel,by decide +kernel⟩
theorem qjO {f:Addr}{fd:FuncData}(F:Fun K "curve_at" "curve_at" Yp f fd)  : FnOk P w K mg base CX 1 f fd ["curve", "n", "d"] (qV K sCvA):=by
 refine F.okD qfY (fun es μ Q hq0=>by obtain ⟨sq,on,no,n,d,e,_⟩:=hq0;subst e;rfl) (fun cdv A outer s H E es μ Q hr hq0=>?_)
 obtain ⟨sq,on,no,n,d,e,h1,h2,h3,h4,h5,k⟩:=hq0
 subst e
 have nd:=qfY.nd
 refine ⟨_,(qq (y7 (dv 0) (yI (n:=3) rfl (qw (qy (i:=3) nd rfl (by first | exact Or.inl rfl | exact Or.inr rfl)) (qw (qy (i:=4) nd rfl (by first | exact Or.inl rfl | exact Or.inr rfl)) (qw (qy (i:=5) nd rfl (by first | exact Or.inl rfl | exact Or.inr rfl)) yh)))))
   (qC (qN (qZ yw (qZ yw (qZ qG (qZ qG (dv 3) (dv 1)) (dv 1)) (qZ qG (qZ qG (dv 4) (dv 1)) (dv 2))) (qZ qG (qZ qG (dv 5) (dv 2)) (dv 2)))))),?_⟩
 exact ⟨rfl,jq h1 h4 (by decide),jq (h1.mul h4) h4 (by decide),jq h2 h4 (by decide),jq (h2.mul h4) h5 (by decide),jq h3 h5 (by decide),jq (h3.mul h5) h5 (by decide),k⟩
def vl' (n p:Pt):Int:=n.1 * p.1+n.2 * p.2
def qkQ:SpD:=fun es μ Q=>∃ p q:Pt,es=[.d (ptD p),.d (ptD q)]/\Bd B40 p/\Bd B40 q/\Q (.d (.int (vl' p q))) μ
theorem qaR:FnScope ["normal", "point"] ["normal", "point"] (qp qcc):=⟨rfl,rfl,rfl,by decide +kernel,rfl,by decide +kernel,by decide +kernel⟩
theorem qeQ {f:Addr}{fd:FuncData}(F:Fun K "value" "value" qcc f fd)  : FnOk P w K mg base CX 1 f fd ["normal", "point"] (qV K qkQ):=by
 refine F.okD qaR (fun es μ Q hq0=>by obtain ⟨p,q,e,_⟩:=hq0;subst e;rfl) (fun cdv A outer s H E es μ Q hr hq0=>?_)
 obtain ⟨p,q,e,hp,hq,k⟩:=hq0
 subst e
 have nd:=qaR.nd
 refine ⟨_,(qC (qN (qZ yw (qZ Ji (y8 qM (dv 0) qt (fun _ _=>rfl)) (y8 qM (dv 1) qt (fun _ _=>rfl))) (qZ Ji (y8 qM (dv 0) qt (fun _ _=>rfl)) (y8 qM (dv 1) qt (fun _ _=>rfl)))))),?_⟩
 exact ⟨_,rfl,_,rfl,qbF hp.1 hq.1,_,rfl,_,rfl,qbF hp.2 hq.2,k⟩
def SpV (A B:Pt) (low q1 q2 q3 q4:Int):Prop:=0<q4/\Sz 600 q1/\Sz 600 q2/\Sz 600 q3/\Sz 600 q4 ∧
 ((low<A.1/\low<B.1/\q1=0/\q2=0/\q3=0/\q4=1) ∨
  (A.1<=low/\B.1<=low/\q1=0/\q2 = -2 * (B.2 - A.2)/\q3=(A.1+B.1) * (B.2 - A.2)/\q4=1) ∨
  (A.1<=low/\low<B.1/\q1 = -(B.2 - A.2)/\q2=2 * A.1 * (B.2 - A.2)/\q3 = -(A.1 * A.1 * (B.2 - A.2))/\q4=B.1 - A.1) ∨
  (B.1<=low/\low<A.1/\q1 = -(B.2 - A.2)/\q2=2 * B.1 * (B.2 - A.2)/\q3 = -(B.1 * B.1 * (B.2 - A.2))/\q4=A.1 - B.1))
theorem qkP {a:Int}(h:a.natAbs<=B40):Sz 134 a:=Sz.of B40 h (by decide +kernel)
def sSp:SpD:=fun es μ Q=>∃ (A B:Pt) (low:Int),es=[.d (ptD A),.d (ptD B),.d (.int low)]/\Bd B40 A/\Bd B40 B/\∀ q1 q2 q3 q4:Int,SpV A B low q1 q2 q3 q4->Q (.d (.tuple [.int q1,.int q2,.int q3,.int q4])) μ
theorem qiO:FnScope ["start", "end", "low", "least", "most", "across"] ["start", "end", "low"] (qp JK):=⟨rfl,rfl,rfl,by decide +kernel,rfl,by decide +kernel,by decide +kernel⟩
theorem ok_sp {f:Addr}{fd:FuncData}(F:Fun K "side_part" "side_part" JK f fd) (T:Txt mg):FnOk P w K mg base CX 1 f fd ["start", "end", "low"] (qV K sSp):=by
 refine F.okD qiO (fun es μ Q hq0=>by obtain ⟨A,B,low,e,_⟩:=hq0;subst e;rfl) (fun cdv A' outer s H E es μ Q hr hq0=>?_)
 obtain ⟨A,B,low,e,hA,hB,k⟩:=hq0
 subst e
 have nd:=qiO.nd
 refine ⟨_,(qq (qW (i:=3) nd rfl (by first | exact Or.inl rfl | exact Or.inr rfl) (qO (qdM rfl) (by rfl) T.min_ YW (qa (y8 qM (dv 0) qt (fun _ _=>rfl)) (qa (y8 qM (dv 1) qt (fun _ _=>rfl)) qd))))
   (qq (qW (i:=4) nd rfl (by first | exact Or.inl rfl | exact Or.inr rfl) (qO (Z3 rfl) (by rfl) T.max_ J8 (qa (y8 qM (dv 0) qt (fun _ _=>rfl)) (qa (y8 qM (dv 1) qt (fun _ _=>rfl)) qd))))
   (qq (qW (i:=5) nd rfl (by first | exact Or.inl rfl | exact Or.inr rfl) (qZ yA (y8 qM (dv 1) qt (fun _ _=>rfl)) (y8 qM (dv 0) qt (fun _ _=>rfl))))
   (qq (jd (q9 Zd (dv 3) (dv 2) (qP _)) (qC (qN (yl (qa qt (qa qt (qa qt (qa qt qd))))))) yz)
   (qq (jd (q9 qhZ (dv 4) (dv 2) (qP _)) (qC (qN (yl (qa qt (qa (qZ qG (Z4 jm qt) (dv 5)) (qa (qZ qG (qZ yw (dv 3) (dv 4)) (dv 5)) (qa qt qd))))))) yz)
   (qC (qN (yl (qa (Z4 jm (dv 5)) (qa (qZ qG (qZ qG qt (dv 3)) (dv 5)) (qa (qZ qG (qZ qG (Z4 jm (dv 3)) (dv 3)) (dv 5)) (qa (qZ yA (dv 4) (dv 3)) qd)))))))))))),?_⟩
 have a1:=qkP hA.1
 have a2:=qkP hA.2
 have b1:=qkP hB.1
 have b2:=qkP hB.2
 have dd:Sz 135 (B.2 - A.2):=b2.sub a2
 refine ⟨_,rfl,_,rfl,_,rfl,_,rfl,_,rfl,_,rfl,?_⟩
 obtain ⟨l,hl,fl⟩:∃ l,(if B.1<A.1 then B.1 else A.1)=l/\((A.1<=B.1/\l=A.1)\/(B.1<A.1/\l=B.1)):=⟨_,rfl,by split <;> omega⟩
 obtain ⟨m,hm,fm⟩:∃ m,(if A.1<B.1 then B.1 else A.1)=m/\((A.1<B.1/\m=B.1)\/(B.1<=A.1/\m=A.1)):=⟨_,rfl,by split <;> omega⟩
 dsimp only [List.set_cons_zero,List.set_cons_succ]
 rw [hl,hm]
 have sl:Sz 134 l:=by rcases fl with ⟨_,rfl⟩ | ⟨_,rfl⟩ <;> assumption
 have sm:Sz 134 m:=by rcases fm with ⟨_,rfl⟩ | ⟨_,rfl⟩ <;> assumption
 have s2:Sz 134 2:=by unfold Sz;decide +kernel
 have sm2:Sz 134 (-2):=by unfold Sz;decide +kernel
 have s0:Sz 600 0:=by unfold Sz;decide +kernel
 have s1:Sz 600 1:=by unfold Sz;decide +kernel
 refine jv (fun c1=>?_) (fun c1=>jv (fun c2=>?_) (fun c2=>?_))
 ·have c1:low<l:=qr c1
  exact ⟨zl4,k 0 0 0 1 ⟨by decide,s0,s0,s0,s1,.inl ⟨by omega,by omega,rfl,rfl,rfl,rfl⟩⟩⟩
 ·have c2:m<=low:=qr c2
  refine ⟨jq sm2 dd (by decide),jq (sl.add sm) dd (by decide),zl4,k 0 (-2 * (B.2 - A.2)) ((l+m) * (B.2 - A.2)) 1 ⟨by decide,s0,(sm2.mul dd).mono (by decide),((sl.add sm).mul dd).mono (by decide),s1,.inr (.inl ⟨by omega,by omega,rfl,rfl,?_,rfl⟩)⟩⟩
  rw [show l+m=A.1+B.1 by omega]
 ·have c1:¬ low<l:=fun z=>c1 (qu z)
  have c2:¬ m<=low:=fun z=>c2 (qu z)
  refine ⟨jq s2 sl (by decide),jq (s2.mul sl) dd (by decide),jq sl.neg sl (by decide),jq (sl.neg.mul sl) dd (by decide),zl4,k (-(B.2 - A.2)) (2 * l * (B.2 - A.2)) (-l * l * (B.2 - A.2)) (m - l) ⟨by omega,dd.neg.mono (by decide),((s2.mul sl).mul dd).mono (by decide),((sl.neg.mul sl).mul dd).mono (by decide),(sm.sub sl).mono (by decide),?_⟩⟩
  rcases fl with ⟨h1,rfl⟩ | ⟨h1,rfl⟩
  ·exact .inr (.inr (.inl ⟨by omega,by omega,rfl,rfl,by rw [Int.neg_mul,Int.neg_mul],by omega⟩))
  ·exact .inr (.inr (.inr ⟨by omega,by omega,rfl,rfl,by rw [Int.neg_mul,Int.neg_mul],by omega⟩))
def ZA (v:Pt) (P:List Pt):List Pt:=P.map fun q=>(vl' v q,crs v q)
def Low (low:Int) (t:Rat):Prop:=∀ s:Int,s<=low ↔ (s:Rat)<=t
def LowA (s low:Int) (t:Rat):Prop:=(s<=low->(s:Rat)<=t)/\(low<s->t<=(s:Rat))
def LowS (S:List Pt) (low:Int) (t:Rat):Prop:=∀ q∈S,LowA q.1 low t
def pS (A B:Pt) (t:Rat):Rat :=
 if (A.1:Rat)<=t then
  if (B.1:Rat)<=t then ((B.2:Rat) - A.2) * ((A.1:Rat) - t+((B.1:Rat) - t)) else -((B.2:Rat) - A.2) * (((A.1:Rat) - t) * ((A.1:Rat) - t)) / ((B.1:Rat) - A.1)
 else if (B.1:Rat)<=t then -((B.2:Rat) - A.2) * (((B.1:Rat) - t) * ((B.1:Rat) - t)) / ((A.1:Rat) - B.1) else 0
theorem qiJ {A B:Pt}{low q1 q2 q3 q4:Int}{t:Rat}(hA:LowA A.1 low t) (hB:LowA B.1 low t) (h:SpV A B low q1 q2 q3 q4):((q1:Rat) * t * t+q2 * t+q3) / q4=pS A B t:=by
 obtain ⟨h4,_,_,_,_,h⟩:=h
 unfold pS
 rcases h with ⟨x1,x2,rfl,rfl,rfl,rfl⟩ | ⟨x1,x2,rfl,rfl,rfl,rfl⟩ | ⟨x1,x2,rfl,rfl,rfl,rfl⟩ | ⟨x1,x2,rfl,rfl,rfl,rfl⟩
 ·have n1:=hA.2 x1
  have n2:=hB.2 x2
  by_cases c1:(A.1:Rat)<=t <;> by_cases c2:(B.1:Rat)<=t <;> simp only [c1,c2,if_true,if_false]
  ·have:(A.1:Rat)=t:=by grind
   have:(B.1:Rat)=t:=by grind
   grind
  ·have:(A.1:Rat) - t=0:=by grind
   rw [this]
   grind
  ·have:(B.1:Rat) - t=0:=by grind
   rw [this]
   grind
  ·grind
 ·rw [if_pos (hA.1 x1),if_pos (hB.1 x2)]
  grind
 ·have n1:=hA.1 x1
  have n2:=hB.2 x2
  have hne:(B.1:Rat) - A.1≠0:=fun z=>by
   have:B.1=A.1:=Rat.intCast_inj.mp (by grind)
   omega
  rw [if_pos n1]
  by_cases c2:(B.1:Rat)<=t
  ·rw [if_pos c2]
   have:(B.1:Rat)=t:=by grind
   grind
  ·rw [if_neg c2]
   grind
 ·have n1:=hB.1 x1
  have n2:=hA.2 x2
  have hne:(A.1:Rat) - B.1≠0:=fun z=>by
   have:A.1=B.1:=Rat.intCast_inj.mp (by grind)
   omega
  by_cases c2:(A.1:Rat)<=t
  ·rw [if_pos c2,if_pos n1]
   have:(A.1:Rat)=t:=by grind
   grind
  ·rw [if_neg c2,if_pos n1]
   grind
def spF (A B:Pt) (low:Int):Int×Int×Int×Int :=
 if A.1<=low then
  if B.1<=low then (0,-2 * (B.2 - A.2),(A.1+B.1) * (B.2 - A.2),1) else (-(B.2 - A.2),2 * A.1 * (B.2 - A.2),-(A.1 * A.1 * (B.2 - A.2)),B.1 - A.1)
 else if B.1<=low then (-(B.2 - A.2),2 * B.1 * (B.2 - A.2),-(B.1 * B.1 * (B.2 - A.2)),A.1 - B.1) else (0,0,0,1)
theorem spV_F {A B:Pt}{low q1 q2 q3 q4:Int}(h:SpV A B low q1 q2 q3 q4):spF A B low=(q1,q2,q3,q4):=by
 obtain ⟨_,_,_,_,_,h⟩:=h
 unfold spF
 rcases h with ⟨x1,x2,rfl,rfl,rfl,rfl⟩ | ⟨x1,x2,rfl,rfl,rfl,rfl⟩ | ⟨x1,x2,rfl,rfl,rfl,rfl⟩ | ⟨x1,x2,rfl,rfl,rfl,rfl⟩
 ·rw [if_neg (by omega),if_neg (by omega)]
 ·rw [if_pos x1,if_pos x2]
 ·rw [if_pos x1,if_neg (by omega)]
 ·rw [if_neg (by omega),if_pos x1]
def qek (S:List Pt) (low:Int):Nat->Int×Int×Int×Int
 | 0=>(0,0,0,1)
 | i+1=>((qek S low i).1 * (spF (gP S i) (nx S i) low).2.2.2+(spF (gP S i) (nx S i) low).1 * (qek S low i).2.2.2,
   (qek S low i).2.1 * (spF (gP S i) (nx S i) low).2.2.2+(spF (gP S i) (nx S i) low).2.1 * (qek S low i).2.2.2,
   (qek S low i).2.2.1 * (spF (gP S i) (nx S i) low).2.2.2+(spF (gP S i) (nx S i) low).2.2.1 * (qek S low i).2.2.2,
   (qek S low i).2.2.2 * (spF (gP S i) (nx S i) low).2.2.2)
def Acc (S:List Pt) (low:Int) (i:Nat) (sq on no dv:Int):Prop:=0<dv/\Sz (601 * i+1) sq/\Sz (601 * i+1) on/\Sz (601 * i+1) no/\Sz (601 * i+1) dv ∧
 (∀ t:Rat,LowS S low t->((sq:Rat) * t * t+on * t+no) / dv=js (fun k=>pS (gP S k) (nx S k) t) i)/\qek S low i=(sq,on,no,dv)
theorem qfu {S:List Pt}{low:Int}{i:Nat}{sq on no dv q1 q2 q3 q4:Int}(hi:i<S.length) (h:Acc S low i sq on no dv) (h2:SpV (gP S i) (nx S i) low q1 q2 q3 q4) :
  Acc S low (i+1) (sq * q4+q1 * dv) (on * q4+q2 * dv) (no * q4+q3 * dv) (dv * q4):=by
 obtain ⟨h1,s1,s2,s3,s4,e,eF⟩:=h
 have hv:=h2
 obtain ⟨p4,z1,z2,z3,z4,_⟩:=h2
 have st:∀ {x q:Int},Sz (601 * i+1) x->Sz 600 q->Sz (601 * (i+1)+1) (x * q4+q * dv):=fun {x q} hx hq=>by
  have a1:=hx.mul z4
  have a2:=(hq.mul s4).mono (show 600+(601 * i+1)<=601 * i+1+600 by omega)
  exact (a1.add a2).mono (by omega)
 refine ⟨yF h1 p4,st s1 z1,st s2 z2,st s3 z3,(s4.mul z4).mono (by omega),fun t ht=>?_,by unfold qek;rw [eF,spV_F hv]⟩
 have e1:=e t ht
 have e2:_=pS (gP S i) (nx S i) t:=qiJ (ht _ (jZ hi)) (ht _ (jZ (yE _ (by omega)))) hv
 show _=js _ i+pS (gP S i) (nx S i) t
 rw [<- e1,<- e2]
 have d1:(dv:Rat)≠0:=by
  intro z
  have:dv=0:=Rat.intCast_inj.mp (by rw [z];rfl)
  omega
 have d2:(q4:Rat)≠0:=by
  intro z
  have:q4=0:=Rat.intCast_inj.mp (by rw [z];rfl)
  omega
 simp only [Rat.intCast_mul,Rat.intCast_add]
 grind
end
section
variable {P:Program}{w:World}{K:W.Frag}{mg:Str->Option Value}{base:Heap}{CX:CXT}
def Ar (v:Pt):Prop:=Bd 1000000000 v/\v≠(0,0)
theorem qci {v q:Pt}(hv:Ar v) (hq:qbs q):Bd B40 (vl' v q,crs v q):=by
 obtain ⟨⟨v1,v2⟩,_⟩:=hv
 obtain ⟨⟨a1,a2⟩,b1,b2⟩:=hq
 have m:∀ x y:Int,x.natAbs<=1000000000->y.natAbs<=1000000000000000000000000000000->(x * y).natAbs<=1000000000 * 1000000000000000000000000000000:=fun x y hx hy=>by rw [Int.natAbs_mul];exact Nat.mul_le_mul hx hy
 have m1:=m v.1 q.1 v1 (by omega)
 have m2:=m v.2 q.2 v2 (by omega)
 have m3:=m v.1 q.2 v1 (by omega)
 have m4:=m v.2 q.1 v2 (by omega)
 constructor
 ·show (v.1 * q.1+v.2 * q.2).natAbs<=10000000000000000000000000000000000000000
  omega
 ·show (v.1 * q.2 - v.2 * q.1).natAbs<=10000000000000000000000000000000000000000
  omega
theorem ar_40 {v:Pt}(h:Ar v):Bd B40 v:=⟨qR h.1.1 (by decide),qR h.1.2 (by decide)⟩
theorem qgg {q:Pt}(h:qbs q):Bd B40 q:=⟨qR (Yu h).1 (by decide),qR (Yu h).2 (by decide)⟩
theorem qap {v:Pt}{P:List Pt}{k:Nat}(hk:k<P.length):gP (ZA v P) k=(vl' v (gP P k),crs v (gP P k)):=by
 unfold ZA
 rw [jE (by rw [List.length_map];exact hk),List.getElem_map,jE hk]
theorem qaQ (v:Pt) (P:List Pt):(ZA v P).length=P.length:=by unfold ZA;rw [List.length_map]
theorem qb5 {v:Pt}(hv:Ar v):0<vl' v v/\(vl' v v).natAbs<=2000000000000000000:=by
 obtain ⟨⟨v1,v2⟩,h0⟩:=hv
 have m1:(v.1 * v.1).natAbs<=1000000000 * 1000000000:=by rw [Int.natAbs_mul];exact Nat.mul_le_mul v1 v1
 have m2:(v.2 * v.2).natAbs<=1000000000 * 1000000000:=by rw [Int.natAbs_mul];exact Nat.mul_le_mul v2 v2
 have p:∀ x:Int,0<=x * x:=fun x=>by
  rcases Int.le_total 0 x with z | z
  ·exact Int.mul_nonneg z z
  ·exact Int.mul_nonneg_of_nonpos_of_nonpos z z
 have p2:∀ x:Int,x≠0->0<x * x:=fun x hx=>by
  rcases jg hx with z | z
  ·exact Int.mul_pos_of_neg_of_neg z z
  ·exact yF z z
 have q1:=p v.1
 have q2:=p v.2
 refine ⟨?_,?_⟩
 ·show 0<v.1 * v.1+v.2 * v.2
  by_cases z:v.1=0
  ·have:v.2≠0:=fun y=>h0 (Prod.ext z y)
   have:=p2 _ this
   omega
  ·have:=p2 _ z
   omega
 ·show (v.1 * v.1+v.2 * v.2).natAbs<=_
  omega
theorem qgS {v:Pt}(hv:Ar v):Sz 70 (vl' v v):=Sz.of _ (qb5 hv).2 (by decide)
def sPc:SpD:=fun es μ Q=>∃ (P:List Pt) (v:Pt) (low:Int),es=[.d (hpD P),.d (ptD v),.d (.int low)]/\2<=P.length/\P.length<=12/\(∀ p∈P,qbs p)/\Ar v/\∀ sq on no dv:Int,Acc (ZA v P) low P.length sq on no dv->Q (.d (.tuple [.tuple [.int sq,.int on,.int no],.int (dv * vl' v v)])) μ
theorem qiP:FnScope ["cake", "arrow", "low", "seen", "square", "one", "nought", "divisor", "start", "end", "more_square", "more_one", "more_nought", "more_divisor"] ["cake", "arrow", "low"] (qp jV):=⟨rfl,rfl,rfl,by decide +kernel,rfl,by decide +kernel,by decide +kernel⟩
theorem ok_pc {f:Addr}{fd:FuncData}(F:Fun K "part_curve" "part_curve" jV f fd) (T:Txt mg) (hX:NoX CX) (Ovalue:Own P w K mg base CX 1 "value" ["normal", "point"] (qV K qkQ)) (Ocross:Own P w K mg base CX 1 "cross" ["one", "other"] (qV K qaY)) (Osides:Own P w K mg base CX 2 "sides" ["corners"] (qV K qaX)) (Oside_part:Own P w K mg base CX 1 "side_part" ["start", "end", "low"] (qV K sSp)):FnOk P w K mg base CX 3 f fd ["cake", "arrow", "low"] (qV K sPc):=by
 refine F.okD qiP (fun es μ Q hq0=>by obtain ⟨P,v,low,e,_⟩:=hq0;subst e;rfl) (fun cdv A' outer s H E es μ Q hr hq0=>?_)
 obtain ⟨P,v,low,e,l2,l12,hn,hv,k⟩:=hq0
 subst e
 have nd:=qiP.nd
 refine ⟨_,(qq (qaB (i:=3) nd rfl (by first | exact Or.inl rfl | exact Or.inr rfl) (L:=["corner"]) (sc:=qp jV) (N:=["cake", "arrow", "low", "seen", "square", "one", "nought", "divisor", "start", "end", "more_square", "more_one", "more_nought", "more_divisor"]) rfl rfl rfl (by decide +kernel) (jr (dv 0)) (fun _ _ _ _ _=>(qy (i:=14) (show List.Nodup (["cake", "arrow", "low", "seen", "square", "one", "nought", "divisor", "start", "end", "more_square", "more_one", "more_nought", "more_divisor", "corner"]:List Str) from by decide +kernel) rfl (by first | exact Or.inl rfl | exact Or.inr rfl))) (fun _ _ _ _ _=>je) (fun _ _ _ _ _=>(yl (qa (qQ Ovalue hX (hr.mono (by decide)) rfl (qa (dv 1) (qa (dv 14) qd))) (qa (qQ Ocross hX (hr.mono (by decide)) rfl (qa (dv 1) (qa (dv 14) qd))) qd)))))
   (qq (y7 (yl (qa qt (qa qt (qa qt (qa qt qd))))) (yI (n:=4) rfl (qw (qy (i:=4) nd rfl (by first | exact Or.inl rfl | exact Or.inr rfl)) (qw (qy (i:=5) nd rfl (by first | exact Or.inl rfl | exact Or.inr rfl)) (qw (qy (i:=6) nd rfl (by first | exact Or.inl rfl | exact Or.inr rfl)) (qw (qy (i:=7) nd rfl (by first | exact Or.inl rfl | exact Or.inr rfl)) yh))))))
   (qq (ZZ PassesOwn.never rfl (jr (qQ Osides hX (hr.mono (by decide)) rfl (qa (dv 3) qd))) (yI (n:=2) rfl (qw (qy (i:=8) nd rfl (by first | exact Or.inl rfl | exact Or.inr rfl)) (qw (qy (i:=9) nd rfl (by first | exact Or.inl rfl | exact Or.inr rfl)) yh))) (qq (y7 (qQ Oside_part hX (hr.mono (by decide)) rfl (qa (dv 8) (qa (dv 9) (qa (dv 2) qd)))) (yI (n:=4) rfl (qw (qy (i:=10) nd rfl (by first | exact Or.inl rfl | exact Or.inr rfl)) (qw (qy (i:=11) nd rfl (by first | exact Or.inl rfl | exact Or.inr rfl)) (qw (qy (i:=12) nd rfl (by first | exact Or.inl rfl | exact Or.inr rfl)) (qw (qy (i:=13) nd rfl (by first | exact Or.inl rfl | exact Or.inr rfl)) yh))))))
   (qq (qW (i:=4) nd rfl (by first | exact Or.inl rfl | exact Or.inr rfl) (qZ yw (qZ qG (dv 4) (dv 13)) (qZ qG (dv 10) (dv 7))))
   (qq (qW (i:=5) nd rfl (by first | exact Or.inl rfl | exact Or.inr rfl) (qZ yw (qZ qG (dv 5) (dv 13)) (qZ qG (dv 11) (dv 7))))
   (qq (qW (i:=6) nd rfl (by first | exact Or.inl rfl | exact Or.inr rfl) (qZ yw (qZ qG (dv 6) (dv 13)) (qZ qG (dv 12) (dv 7))))
   (qC (qW (i:=7) nd rfl (by first | exact Or.inl rfl | exact Or.inr rfl) (qZ qG (dv 7) (dv 13)))))))))
   (qC (qN (yl (qa (yl (qa (dv 4) (qa (dv 5) (qa (dv 6) qd)))) (qa (qZ qG (dv 7) (qQ Ovalue hX (hr.mono (by decide)) rfl (qa (dv 1) (qa (dv 1) qd)))) qd)))))))),?_⟩
 have v40:=ar_40 hv
 refine ⟨_,.d _,(by show (P.map ptD).length<=4000;rw [List.length_map];omega),qbm (as:=P) (h:=ptD) (fun q=>.tuple [.int (vl' v q),.int (crs v q)]) (Src.l (.d _)) (fun q hq R h=>⟨v,q,rfl,v40,qgg (hn q hq),v,q,rfl,v40,qgg (hn q hq),zl2,h⟩) ?_⟩
 have es:(P.map fun q=>PyData.tuple [.int (vl' v q),.int (crs v q)])=(ZA v P).map ptD:=by unfold ZA;rw [List.map_map];rfl
 rw [es]
 have sl:=qaQ v P
 have bS:∀ k,k<(ZA v P).length->Bd B40 (gP (ZA v P) k):=fun k hk=>by
  rw [qap (by omega)]
  exact qci hv (hn _ (jZ (by omega)))
 generalize ZA v P=S at *
 refine ⟨zl4,rfl,S,rfl,by omega,by omega,_,.d _,?_⟩
 have s1:Sz 1 0:=by unfold Sz;decide
 refine forL (fun i ρ' μ'=>μ'=μ/\∃ sq on no dv:Int,Acc S low i sq on no dv/\∃ v1 v2 v3 v4 v5 v6,ρ'=[some (.d (hpD P)),some (.d (ptD v)),some (.d (.int low)),some (.d (hpD S)),some (.d (.int sq)),some (.d (.int on)),some (.d (.int no)),some (.d (.int dv)),v1,v2,v3,v4,v5,v6]) ?_ (fun _ _ _ _=>.d _) ?_ ?_
 ·exact ⟨rfl,0,0,0,1,⟨by decide,s1,s1,s1,by unfold Sz;decide,fun t _=>by show (((0:Int):Rat) * t * t+((0:Int):Rat) * t+((0:Int):Rat)) / ((1:Int):Rat)=0;grind,rfl⟩,_,_,_,_,_,_,rfl⟩
 ·rintro i x ρ' μ' hx ⟨rfl,sq,on,no,dv,ha,v1,v2,v3,v4,v5,v6,rfl⟩
  rw [List.getElem?_map] at hx
  obtain ⟨j,hj,rfl⟩:=Option.map_eq_some_iff.mp hx
  have hi:i<S.length:=by
   have:=(qm.mp hj).1
   rwa [yp] at this
  rw [List.getElem?_range hi] at hj
  cases hj
  have n0:0<S.length:=by omega
  refine ⟨rfl,gP S i,nx S i,low,rfl,bS i hi,bS _ (yE _ n0),fun q1 q2 q3 q4 hs=>?_⟩
  dsimp only [List.set_cons_zero,List.set_cons_succ]
  have hst:=qfu hi ha hs
  obtain ⟨_,a1,a2,a3,a4,_⟩:=ha
  obtain ⟨_,z1,z2,z3,z4,_⟩:=hs
  have f:601 * i+1+600<2 ^ 20:=by omega
  have f2:600+(601 * i+1)<2 ^ 20:=by omega
  refine ⟨rfl,jq a1 z4 f,jq z1 a4 f2,jq a2 z4 f,jq z2 a4 f2,jq a3 z4 f,jq z3 a4 f2,jq a4 z4 f,Wks.of ⟨rfl,_,_,_,_,hst,_,_,_,_,_,_,rfl⟩⟩
 ·rintro ρ' μ' ⟨rfl,sq,on,no,dv,ha,v1,v2,v3,v4,v5,v6,rfl⟩
  rw [List.length_map,yp,sl] at ha
  have a4:=ha.2.2.2.2.1
  exact ⟨zl3,v,v,rfl,v40,v40,jq a4 (qgS hv) (by omega),zl2,k sq on no dv ha⟩
theorem qgl {n d:Int}(hd:0<d):Low (n.fdiv d) ((n:Rat) / (d:Rat)):=fun s=>by
 rw [Int.fdiv_eq_ediv_of_nonneg _ (Int.le_of_lt hd),Int.le_ediv_iff_mul_le hd]
 have hd':(0:Rat)<(d:Rat):=Rat.intCast_pos.mpr hd
 have e:(s:Rat)<=(n:Rat) / (d:Rat) ↔ (s:Rat) * (d:Rat)<=(n:Rat):=by
  constructor
  ·intro h
   have:=Rat.mul_le_mul_of_nonneg_right h (Rat.le_of_lt hd')
   have e2:(n:Rat) / d * d=n:=by grind
   rw [e2] at this
   exact this
  ·intro h
   have e2:(s:Rat)=(s:Rat) * d / d:=by grind
   rw [e2]
   have h2:=Rat.mul_le_mul_of_nonneg_right h (Rat.le_of_lt (Rat.inv_pos.mpr hd'))
   rw [Rat.div_def,Rat.div_def]
   exact h2
 rw [e,<- Rat.intCast_mul,Rat.intCast_le_intCast]
def sBel:SpD:=fun es μ Q=>∃ (P:List Pt) (v:Pt) (n d:Int),es=[.d (hpD P),.d (ptD v),.d (.int n),.d (.int d)]/\2<=P.length/\P.length<=12/\(∀ p∈P,qbs p)/\Ar v/\0<d/\Sz 300 n/\Sz 110 d ∧
 ∀ N D:Int,0<D->Sz 9000 N->Sz 9000 D->(N:Rat) / D * (vl' v v:Int)=js (fun k=>pS (gP (ZA v P) k) (nx (ZA v P) k) ((n:Rat) / d)) P.length->Q (.d (qkr N D)) μ
theorem qf1:FnScope ["cake", "arrow", "n", "d", "curve", "divisor"] ["cake", "arrow", "n", "d"] (qp qcs):=⟨rfl,rfl,rfl,by decide +kernel,rfl,by decide +kernel,by decide +kernel⟩
theorem qjR {f:Addr}{fd:FuncData}(F:Fun K "below" "below" qcs f fd) (hX:NoX CX) (Opart_curve:Own P w K mg base CX 3 "part_curve" ["cake", "arrow", "low"] (qV K sPc)) (Olowest:Own P w K mg base CX 2 "lowest" ["n", "d"] (qV K sLow)) (Ocurve_at:Own P w K mg base CX 1 "curve_at" ["curve", "n", "d"] (qV K sCvA)):FnOk P w K mg base CX 4 f fd ["cake", "arrow", "n", "d"] (qV K sBel):=by
 refine F.okD qf1 (fun es μ Q hq0=>by obtain ⟨P,v,n,d,e,_⟩:=hq0;subst e;rfl) (fun cdv A' outer s H E es μ Q hr hq0=>?_)
 obtain ⟨P,v,n,d,e,l2,l12,hn,hv,hd,sn,sd,k⟩:=hq0
 subst e
 have nd:=qf1.nd
 refine ⟨_,(qq (y7 (qQ Opart_curve hX (hr.mono (by decide)) rfl (qa (dv 0) (qa (dv 1) (qa (qZ Ze (dv 2) (dv 3)) qd)))) (yI (n:=2) rfl (qw (qy (i:=4) nd rfl (by first | exact Or.inl rfl | exact Or.inr rfl)) (qw (qy (i:=5) nd rfl (by first | exact Or.inl rfl | exact Or.inr rfl)) yh))))
   (qC (qN (qQ Olowest hX (hr.mono (by decide)) rfl (qa (qQ Ocurve_at hX (hr.mono (by decide)) rfl (qa (dv 4) (qa (dv 2) (qa (dv 3) qd)))) (qa (qZ qG (qZ qG (dv 5) (dv 3)) (dv 3)) qd)))))),?_⟩
 refine ⟨⟨by omega,sd.mono (by decide)⟩,P,v,_,rfl,l2,l12,hn,hv,fun sq on no dv ha=>?_⟩
 obtain ⟨p1,s1,s2,s3,s4,e,_⟩:=ha
 have vv:=qb5 hv
 have sv:=qgS hv
 have mo:∀ {x:Int},Sz (601 * P.length+1) x->Sz 7300 x:=fun h=>h.mono (by omega)
 have sD:Sz (7300+70) (dv * vl' v v):=(mo s4).mul sv
 have et:=e _ fun q _=>⟨fun z=>(qgl hd q.1).mp z,fun z=>by have:=(qgl (n:=n) hd q.1).mpr;rcases Rat.le_total (a:=(n:Rat) / (d:Rat)) (b:=(q.1:Rat)) with y | y;exact y;have:=this y;omega⟩
 have hD:0<dv * vl' v v * d * d:=yF (yF (yF p1 vv.1) hd) hd
 have sN:Sz 9000 (cvA sq on no n d):=by
  have sd':Sz 300 d:=sd.mono (by decide)
  have a1:Sz 7901 (sq * n * n):=(((mo s1).mul sn).mul sn).mono (by decide)
  have a2:Sz 7901 (on * n * d):=(((mo s2).mul sn).mul sd').mono (by decide)
  have a3:Sz 7902 (no * d * d):=(((mo s3).mul sd').mul sd').mono (by decide)
  exact ((a1.add a2).add a3).mono (by decide)
 refine ⟨rfl,sq,on,no,n,d,rfl,(mo s1).mono (by decide),(mo s2).mono (by decide),(mo s3).mono (by decide),sn.mono (by decide),sd.mono (by decide),jq sD sd (by decide),jq (sD.mul sd) sd (by decide),_,_,rfl,Int.ne_of_gt hD,((sD.mul sd).mul sd).mono (by decide),(fun _=>k _ _ hD sN (((sD.mul sd).mul sd).mono (by decide)) ?_),fun z=>absurd z (Int.not_lt.mpr (Int.le_of_lt hD))⟩
 rw [<- et]
 have d1:(dv:Rat)≠0:=fun z=>by
  have:dv=0:=Rat.intCast_inj.mp (by rw [z];rfl)
  omega
 have d2:(d:Rat)≠0:=fun z=>by
  have:d=0:=Rat.intCast_inj.mp (by rw [z];rfl)
  omega
 have d3:((vl' v v:Int):Rat)≠0:=fun z=>by
  have:vl' v v=0:=Rat.intCast_inj.mp (by rw [z];rfl)
  omega
 unfold cvA
 simp only [Rat.intCast_mul,Rat.intCast_add]
 generalize ((vl' v v:Int):Rat)=L at *
 grind
end
section
variable {P:Program}{w:World}{K:W.Frag}{mg:Str->Option Value}{base:Heap}{CX:CXT}
theorem qhq {v A B:Pt}{t:Rat}:pS (vl' v A,crs v A) (vl' v B,crs v B) t=ZG v.1 v.2 t (pq A) (pq B):=by
 have u:∀ q:Pt,((vl' v q:Int):Rat) - t=uQ v.1 v.2 t (pq q):=fun q=>by
  unfold vl' uQ pq
  simp only [Rat.intCast_add,Rat.intCast_mul]
 have r:∀ q:Pt,((crs v q:Int):Rat)=rQ v.1 v.2 (pq q):=fun q=>by
  unfold crs rQ pq
  simp only [Rat.intCast_sub,Rat.intCast_mul]
 have c:∀ q:Pt,((vl' v q:Int):Rat)<=t ↔ uQ v.1 v.2 t (pq q)<=0:=fun q=>by
  rw [<- u q]
  constructor <;> intro h <;> grind
 unfold pS ZG gQ
 simp only [c,r]
 have w:((vl' v B:Int):Rat) - ((vl' v A:Int):Rat)=uQ v.1 v.2 t (pq B) - uQ v.1 v.2 t (pq A):=by rw [<- u A,<- u B];grind
 have w2:((vl' v A:Int):Rat) - ((vl' v B:Int):Rat)=uQ v.1 v.2 t (pq A) - uQ v.1 v.2 t (pq B):=by rw [<- u A,<- u B];grind
 simp only [u,w,w2]
theorem qb6 (v:Pt):((vl' v v:Int):Rat)=(v.1:Rat) * v.1+(v.2:Rat) * v.2:=by
 unfold vl'
 simp only [Rat.intCast_add,Rat.intCast_mul]
def qbo (P:List Pt) (v:Pt) (t:Rat):Rat:=js (fun k=>pS (gP (ZA v P) k) (nx (ZA v P) k) t) P.length
theorem jP {P:List Pt}(h0:0<P.length) (v:Pt) (t:Rat):qbo P v t=js (fun k=>ZG v.1 v.2 t (pq (gP P k)) (pq (nx P k))) P.length:=by
 unfold qbo
 refine yX fun k hk=>?_
 have e:nx (ZA v P) k=(vl' v (nx P k),crs v (nx P k)):=by
  unfold nx
  rw [qaQ,qap (yE _ h0)]
 rw [e,qap hk,qhq]
end
end K76
namespace L2
theorem qcR (a b t:Rat) (A B:Qt):ZG a b t A B+ZG (-a) (-b) (-t) A B=gQ a b t A B:=by
 have u:∀ C:Qt,uQ (-a) (-b) (-t) C = -uQ a b t C:=fun C=>by unfold uQ;grind
 have r:∀ C:Qt,rQ (-a) (-b) C = -rQ a b C:=fun C=>by unfold rQ;grind
 unfold ZG gQ
 simp only [u,r]
 generalize uQ a b t A=p
 generalize uQ a b t B=q
 generalize rQ a b A=x
 generalize rQ a b B=y
 by_cases h1:p<=0 <;> by_cases h2:q<=0 <;> by_cases h3:-p<=0 <;> by_cases h4:-q<=0 <;> simp only [h1,h2,h3,h4,if_true,if_false]
 ·have:p=0:=by grind
  have:q=0:=by grind
  grind
 ·have:p=0:=by grind
  grind
 ·have:q=0:=by grind
  grind
 ·grind
 ·have:p=0:=by grind
  have:q≠0:=by grind
  grind
 ·grind
 ·have:q - p≠0:=by grind
  have:-q - -p≠0:=by grind
  have:-p - -q≠0:=by grind
  grind
 ·grind
 ·have:q=0:=by grind
  have:p≠0:=by grind
  grind
 ·have:q - p≠0:=by grind
  have:p - q≠0:=by grind
  have:-q - -p≠0:=by grind
  have:-p - -q≠0:=by grind
  grind
 ·grind
 ·grind
 ·grind
 ·grind
 ·grind
 ·grind
theorem ZF (a b t:Rat) {A B:Qt}(h1:0<=uQ a b t A) (h2:0<=uQ a b t B):ZG a b t A B=0:=by
 unfold ZG gQ
 generalize uQ a b t A=p at *
 generalize uQ a b t B=q at *
 by_cases h3:p<=0 <;> by_cases h4:q<=0 <;> simp only [h3,h4,if_true,if_false]
 ·have:p=0:=by grind
  have:q=0:=by grind
  grind
 ·have:p=0:=by grind
  grind
 ·have:q=0:=by grind
  grind
theorem qaZ (F:Nat->Rat):∀ m,js (fun k=>F (k+1) - F k) m=F m - F 0
 | 0=>by show (0:Rat)=_;grind
 | m+1=>by
  show js _ m+(F (m+1) - F m)=_
  rw [qaZ F m]
  grind
theorem qcw (F:Nat->Rat) {n:Nat}(h:0<n):js (fun k=>F ((k+1) % n) - F k) n=0:=by
 obtain ⟨m,rfl⟩:∃ m,n=m+1:=⟨n - 1,by omega⟩
 show js _ m+(F ((m+1) % (m+1)) - F m)=0
 rw [yX (g:=fun k=>F (k+1) - F k) fun k hk=>by rw [qD (by omega)],qaZ,Nat.mod_self]
 grind
theorem Y2 (f g:Nat->Rat):∀ n,js (fun k=>f k+g k) n=js f n+js g n
 | 0=>by show (0:Rat)=0+0;grind
 | n+1=>by
  show js _ n+(f n+g n)=js f n+f n+(js g n+g n)
  rw [Y2 f g n]
  grind
theorem qa0 (c:Rat) (f:Nat->Rat):∀ n,js (fun k=>c * f k) n=c * js f n
 | 0=>by show (0:Rat)=c * 0;grind
 | n+1=>by
  show js _ n+c * f n=c * (js f n+f n)
  rw [qa0 c f n]
  grind
theorem Yq:∀ n,js (fun _=>0) n=0
 | 0=>rfl
 | n+1=>by
  show js _ n+0=0
  rw [Yq n]
  grind
theorem ZD (f:Nat->Int):∀ n,(((List.range n).map f).sum:Int)=js (fun k=>(f k:Rat)) n
 | 0=>rfl
 | n+1=>by
  rw [List.range_succ,List.map_append,List.sum_append]
  show (((_+([f n].sum):Int)):Rat)=js _ n+(f n:Rat)
  rw [Rat.intCast_add,ZD f n]
  simp
theorem qkp (A B:Pt):((crs A B:Int):Rat)=cq (pq A) (pq B):=by
 unfold crs cq pq
 simp only [Rat.intCast_sub,Rat.intCast_mul]
theorem g_sum (a b t:Rat) {P:List Pt}(h:0<P.length):js (fun k=>gQ a b t (pq (gP P k)) (pq (nx P k))) P.length=(a * a+b * b) * ((Zr P:Int):Rat):=by
 unfold Zr
 rw [ZD,<- qa0]
 have e:=qcw (fun k=>uQ a b t (pq (gP P k)) * rQ a b (pq (gP P k)) - t * rQ a b (pq (gP P k))) h
 have z:js (fun k=>gQ a b t (pq (gP P k)) (pq (nx P k))) P.length=js (fun k=>(a * a+b * b) * ((crs (gP P k) (nx P k):Int):Rat)+((uQ a b t (pq (gP P ((k+1) % P.length))) * rQ a b (pq (gP P ((k+1) % P.length))) - t * rQ a b (pq (gP P ((k+1) % P.length)))) - (uQ a b t (pq (gP P k)) * rQ a b (pq (gP P k)) - t * rQ a b (pq (gP P k))))) P.length:=yX fun k hk=>by
  rw [qkp,cq_id a b t]
  unfold nx
  grind
 rw [z,Y2,e]
 grind
end L2
namespace L2
def pU (u1 r1 u2 r2:Rat):Rat :=
 if u1<=0 then
  if u2<=0 then (r2 - r1) * (u1+u2) else -(r2 - r1) * (u1 * u1) / (u2 - u1)
 else if u2<=0 then -(r2 - r1) * (u2 * u2) / (u1 - u2) else 0
theorem JS (a b t:Rat) (A B:Qt):ZG a b t A B=pU (uQ a b t A) (rQ a b A) (uQ a b t B) (rQ a b B):=rfl
theorem Y4 (u1 r1 u2 r2:Rat):pU u2 r2 u1 r1 = -pU u1 r1 u2 r2:=by
 unfold pU
 by_cases h1:u1<=0 <;> by_cases h2:u2<=0 <;> simp only [h1,h2,if_true,if_false]
 ·grind
 ·have:u2 - u1≠0:=by grind
  grind
 ·have:u1 - u2≠0:=by grind
  grind
 ·grind
def tri (u1 r1 u2 r2 u3 r3:Rat):Rat:=pU u1 r1 u2 r2+pU u2 r2 u3 r3+pU u3 r3 u1 r1
def Jv (u1 r1 u2 r2 u3 r3:Rat):Rat:=(u2 - u1) * (r3 - r1) - (u3 - u1) * (r2 - r1)
theorem JJ (u1 r1 u2 r2 u3 r3:Rat):tri u2 r2 u3 r3 u1 r1=tri u1 r1 u2 r2 u3 r3:=by unfold tri;grind
theorem YX (u1 r1 u2 r2 u3 r3:Rat):Jv u2 r2 u3 r3 u1 r1=Jv u1 r1 u2 r2 u3 r3:=by unfold Jv;grind
section
variable {u1 r1 u2 r2 u3 r3:Rat}
theorem qkO (h1:0<=u1) (h2:0<=u2) (h3:0<=u3):tri u1 r1 u2 r2 u3 r3=0:=by
 have z:∀ {x y r s:Rat},0<=x->0<=y->pU x r y s=0:=fun {x y r s} hx hy=>by
  unfold pU
  by_cases c1:x<=0 <;> by_cases c2:y<=0 <;> simp only [c1,c2,if_true,if_false]
  ·have:x=0:=by grind
   have:y=0:=by grind
   grind
  ·have:x=0:=by grind
   grind
  ·have:y=0:=by grind
   grind
 unfold tri
 rw [z h1 h2,z h2 h3,z h3 h1]
 grind
theorem qkM (h1:u1<=0) (h2:u2<=0) (h3:u3<=0):tri u1 r1 u2 r2 u3 r3=Jv u1 r1 u2 r2 u3 r3:=by
 unfold tri pU Jv
 simp only [h1,h2,h3,if_true]
 grind
theorem tri1 (h1:u1<=0) (h2:¬ u2<=0) (h3:¬ u3<=0):tri u1 r1 u2 r2 u3 r3 * ((u2 - u1) * (u3 - u1))=Jv u1 r1 u2 r2 u3 r3 * (u1 * u1):=by
 unfold tri pU Jv
 simp only [h1,h2,h3,if_true,if_false]
 have:u2 - u1≠0:=by grind
 have:u3 - u1≠0:=by grind
 grind
theorem qkN (h1:u1<=0) (h2:u2<=0) (h3:¬ u3<=0):tri u1 r1 u2 r2 u3 r3 * ((u3 - u2) * (u3 - u1))=Jv u1 r1 u2 r2 u3 r3 * ((u3 - u2) * (u3 - u1) - u3 * u3):=by
 unfold tri pU Jv
 simp only [h1,h2,h3,if_true,if_false]
 have:u3 - u2≠0:=by grind
 have:u3 - u1≠0:=by grind
 grind
end
theorem J4 {x y c:Rat}(hc:0<c) (h:x * c<y * c):x<y:=by
 rcases Rat.le_total (a:=y) (b:=x) with z | z
 ·have:=Rat.mul_le_mul_of_nonneg_right z (Rat.le_of_lt hc)
  grind
 ·rcases Classical.em (x=y) with e | e
  ·subst e
   grind
  ·grind
theorem ZR {x y c:Rat}(hc:0<c) (h:x * c<=y * c):x<=y:=by
 rcases Rat.le_total (a:=x) (b:=y) with z | z
 ·exact z
 ·rcases Classical.em (x=y) with e | e
  ·grind
  ·have:=Rat.mul_lt_mul_of_pos_right (a:=y) (b:=x) (by grind) hc
   grind
theorem qcb (u1 r1 u2 r2 u3 r3:Rat):tri u1 (-r1) u3 (-r3) u2 (-r2)=tri u1 r1 u2 r2 u3 r3:=by
 have n:∀ a r b s:Rat,pU a (-r) b (-s) = -pU a r b s:=fun a r b s=>by
  unfold pU
  by_cases h1:a<=0 <;> by_cases h2:b<=0 <;> simp only [h1,h2,if_true,if_false]
  ·grind
  ·have:b - a≠0:=by grind
   grind
  ·have:a - b≠0:=by grind
   grind
  ·grind
 unfold tri
 rw [n,n,n,Y4 u1 r1 u2 r2,Y4 u2 r2 u3 r3,Y4 u3 r3 u1 r1]
 grind
theorem qep (u1 r1 u2 r2 u3 r3:Rat):Jv u1 (-r1) u3 (-r3) u2 (-r2)=Jv u1 r1 u2 r2 u3 r3:=by unfold Jv;grind
theorem Jk (u1 r1 u2 r2 u3 r3 h:Rat):Jv (u1 - h) r1 (u2 - h) r2 (u3 - h) r3=Jv u1 r1 u2 r2 u3 r3:=by unfold Jv;grind
section
variable {u1 r1 u2 r2 u3 r3:Rat}
theorem qaN (hD:0<Jv u1 r1 u2 r2 u3 r3) (h12:u1<=u2) (h23:u2<=u3) :
  0<=tri u1 r1 u2 r2 u3 r3/\tri u1 r1 u2 r2 u3 r3<=Jv u1 r1 u2 r2 u3 r3/\(u1<0->0<tri u1 r1 u2 r2 u3 r3)/\(0<u3->tri u1 r1 u2 r2 u3 r3<Jv u1 r1 u2 r2 u3 r3):=by
 have g:0<u3 - u1:=by
  rcases Classical.em (u3=u1) with e | e
  ·have e2:u2=u1:=by grind
   rw [e,e2] at hD
   unfold Jv at hD
   grind
  ·grind
 by_cases c1:u1<=0
 ·by_cases c2:u2<=0
  ·by_cases c3:u3<=0
   ·rw [qkM c1 c2 c3]
    exact ⟨Rat.le_of_lt hD,Rat.le_refl,fun _=>hD,fun z=>by grind⟩
   ·have e:=qkN (r1:=r1) (r2:=r2) (r3:=r3) c1 c2 c3
    have b:0<u3 - u2:=by grind
    have bg:=Rat.mul_pos b g
    have p3:0<u3:=by grind
    have d3:=Rat.mul_pos hD (Rat.mul_pos p3 p3)
    have lt:tri u1 r1 u2 r2 u3 r3<Jv u1 r1 u2 r2 u3 r3:=J4 bg (by rw [e];grind)
    have q1:u3 * u3<=(u3 - u2) * u3:=Rat.mul_le_mul_of_nonneg_right (by grind) (Rat.le_of_lt p3)
    have q2:(u3 - u2) * u3<=(u3 - u2) * (u3 - u1):=Rat.mul_le_mul_of_nonneg_left (by grind) (Rat.le_of_lt b)
    have nn:0<=tri u1 r1 u2 r2 u3 r3:=ZR bg (by
     rw [e]
     have:=Rat.mul_nonneg (Rat.le_of_lt hD) (b:=(u3 - u2) * (u3 - u1) - u3 * u3) (by grind)
     grind)
    refine ⟨nn,Rat.le_of_lt lt,fun z=>J4 bg ?_,fun _=>lt⟩
    rw [e]
    have q3:(u3 - u2) * u3<(u3 - u2) * (u3 - u1):=Rat.mul_lt_mul_of_pos_left (by grind) b
    have:=Rat.mul_pos hD (b:=(u3 - u2) * (u3 - u1) - u3 * u3) (by grind)
    grind
  ·have c3:¬ u3<=0:=by grind
   have e:=tri1 (r1:=r1) (r2:=r2) (r3:=r3) c1 c2 c3
   have a:0<u2 - u1:=by grind
   have ag:=Rat.mul_pos a g
   have s1:0<=u1 * u1:=by
    have:=Rat.mul_nonneg (a:=-u1) (b:=-u1) (by grind) (by grind)
    grind
   have q1:-u1 * -u1<=(u2 - u1) * -u1:=Rat.mul_le_mul_of_nonneg_right (by grind) (by grind)
   have q2:(u2 - u1) * -u1<(u2 - u1) * (u3 - u1):=Rat.mul_lt_mul_of_pos_left (by grind) a
   have lt:tri u1 r1 u2 r2 u3 r3<Jv u1 r1 u2 r2 u3 r3:=J4 ag (by
    rw [e]
    exact Rat.mul_lt_mul_of_pos_left (by grind) hD)
   refine ⟨ZR ag (by rw [e];have:=Rat.mul_nonneg (Rat.le_of_lt hD) s1;grind),Rat.le_of_lt lt,fun z=>J4 ag ?_,fun _=>lt⟩
   rw [e]
   have:=Rat.mul_pos hD (Rat.mul_pos (a:=-u1) (b:=-u1) (by grind) (by grind))
   grind
 ·rw [qkO (by grind) (by grind) (by grind)]
  exact ⟨Rat.le_refl,Rat.le_of_lt hD,fun z=>by grind,fun _=>hD⟩
theorem qca {h:Rat}(hD:0<Jv u1 r1 u2 r2 u3 r3) (h12:u1<=u2) (h23:u2<=u3) (hh:0<h) (s1:u1 - h<0) (s2:0<u3):tri u1 r1 u2 r2 u3 r3<tri (u1 - h) r1 (u2 - h) r2 (u3 - h) r3:=by
 have hD':0<Jv (u1 - h) r1 (u2 - h) r2 (u3 - h) r3:=by rw [Jk];exact hD
 obtain ⟨_,_,p1,_⟩:=qaN hD' (by grind) (by grind)
 obtain ⟨_,_,_,p2⟩:=qaN hD h12 h23
 have p1:=p1 s1
 have p2:=p2 s2
 rw [Jk] at hD'
 by_cases c1:u1<=0
 ·by_cases k3:u3 - h<=0
  ·rw [qkM (by grind) (by grind) k3,Jk]
   exact p2
  have c3:¬ u3<=0:=by grind
  have g:0<u3 - u1:=by grind
  by_cases c2:u2<=0
  ·have e:=qkN (r1:=r1) (r2:=r2) (r3:=r3) c1 c2 c3
   have f:=qkN (u1:=u1 - h) (u2:=u2 - h) (r1:=r1) (r2:=r2) (r3:=r3) (by grind) (by grind) k3
   rw [Jk] at f
   have b:0<u3 - u2:=by grind
   have bg:=Rat.mul_pos b g
   have w1:u3 - h - (u2 - h)=u3 - u2:=by grind
   have w2:u3 - h - (u1 - h)=u3 - u1:=by grind
   rw [w1,w2] at f
   refine J4 bg ?_
   rw [e,f]
   refine Rat.mul_lt_mul_of_pos_left ?_ hD
   have q1:(u3 - h) * (u3 - h)<u3 * (u3 - h):=Rat.mul_lt_mul_of_pos_right (by grind) (by grind)
   have q2:u3 * (u3 - h)<u3 * u3:=Rat.mul_lt_mul_of_pos_left (by grind) (by grind)
   grind
  ·have e:=tri1 (r1:=r1) (r2:=r2) (r3:=r3) c1 c2 c3
   have a:0<u2 - u1:=by grind
   have ag:=Rat.mul_pos a g
   by_cases k2:u2 - h<=0
   ·have f:=qkN (u1:=u1 - h) (u2:=u2 - h) (r1:=r1) (r2:=r2) (r3:=r3) (by grind) k2 k3
    rw [Jk] at f
    have b:0<u3 - u2:=by grind
    have w1:u3 - h - (u2 - h)=u3 - u2:=by grind
    have w2:u3 - h - (u1 - h)=u3 - u1:=by grind
    rw [w1,w2] at f
    generalize tri u1 r1 u2 r2 u3 r3=X at *
    generalize tri (u1 - h) r1 (u2 - h) r2 (u3 - h) r3=Y at *
    generalize Jv u1 r1 u2 r2 u3 r3=D at *
    have x1:X * (u3 - u1)<D * (u2 - u1):=J4 a (by
     have q1:-u1 * -u1<=(u2 - u1) * -u1:=Rat.mul_le_mul_of_nonneg_right (by grind) (by grind)
     have q2:(u2 - u1) * -u1<(u2 - u1) * (u2 - u1):=Rat.mul_lt_mul_of_pos_left (by grind) a
     have:=Rat.mul_lt_mul_of_pos_left (a:=u1 * u1) (b:=(u2 - u1) * (u2 - u1)) (by grind) hD
     grind)
    have x2:D * (u2 - u1)<=Y * (u3 - u1):=ZR b (by
     have q1:(u3 - h) * (u3 - h)<=(u3 - u2) * (u3 - h):=Rat.mul_le_mul_of_nonneg_right (by grind) (by grind)
     have q2:(u3 - u2) * (u3 - h)<=(u3 - u2) * (u3 - u2):=Rat.mul_le_mul_of_nonneg_left (by grind) (by grind)
     have:=Rat.mul_le_mul_of_nonneg_left (a:=(u3 - h) * (u3 - h)) (b:=(u3 - u2) * (u3 - u2)) (by grind) (Rat.le_of_lt hD)
     grind)
    exact J4 g (by grind)
   ·have f:=tri1 (u1:=u1 - h) (u2:=u2 - h) (r1:=r1) (r2:=r2) (r3:=r3) (by grind) k2 k3
    rw [Jk] at f
    have w1:u2 - h - (u1 - h)=u2 - u1:=by grind
    have w2:u3 - h - (u1 - h)=u3 - u1:=by grind
    rw [w1,w2] at f
    refine J4 ag ?_
    rw [e,f]
    refine Rat.mul_lt_mul_of_pos_left ?_ hD
    have q1:-u1 * -u1<=(h - u1) * -u1:=Rat.mul_le_mul_of_nonneg_right (by grind) (by grind)
    have q2:(h - u1) * -u1<(h - u1) * (h - u1):=Rat.mul_lt_mul_of_pos_left (by grind) (by grind)
    grind
 ·rw [qkO (by grind) (by grind) (by grind)]
  exact p1
theorem qiE {h:Rat}(hD:0<Jv u1 r1 u2 r2 u3 r3) (hh:0<h) :
  tri u1 r1 u2 r2 u3 r3<=tri (u1 - h) r1 (u2 - h) r2 (u3 - h) r3/\((u1 - h<0\/u2 - h<0\/u3 - h<0)->(0<u1\/0<u2\/0<u3)->tri u1 r1 u2 r2 u3 r3<tri (u1 - h) r1 (u2 - h) r2 (u3 - h) r3):=by
 have ord:∀ {u1 r1 u2 r2 u3 r3:Rat},0<Jv u1 r1 u2 r2 u3 r3->u1<=u2->u2<=u3->tri u1 r1 u2 r2 u3 r3<=tri (u1 - h) r1 (u2 - h) r2 (u3 - h) r3/\((u1 - h<0\/u2 - h<0\/u3 - h<0)->(0<u1\/0<u2\/0<u3)->tri u1 r1 u2 r2 u3 r3<tri (u1 - h) r1 (u2 - h) r2 (u3 - h) r3):=fun {u1 r1 u2 r2 u3 r3} hD h12 h23=>by
  refine ⟨?_,fun x y=>qca hD h12 h23 hh (by grind) (by grind)⟩
  by_cases c:u1 - h<0
  ·by_cases c3:0<u3
   ·exact Rat.le_of_lt (qca hD h12 h23 hh c c3)
   ·rw [qkM (u1:=u1) (by grind) (by grind) (by grind),qkM (u1:=u1 - h) (by grind) (by grind) (by grind),Jk]
    exact Rat.le_refl
  ·rw [qkO (u1:=u1) (by grind) (by grind) (by grind),qkO (u1:=u1 - h) (by grind) (by grind) (by grind)]
   exact Rat.le_refl
 have low:∀ {u1 r1 u2 r2 u3 r3:Rat},0<Jv u1 r1 u2 r2 u3 r3->u1<=u2->u1<=u3->tri u1 r1 u2 r2 u3 r3<=tri (u1 - h) r1 (u2 - h) r2 (u3 - h) r3/\((u1 - h<0\/u2 - h<0\/u3 - h<0)->(0<u1\/0<u2\/0<u3)->tri u1 r1 u2 r2 u3 r3<tri (u1 - h) r1 (u2 - h) r2 (u3 - h) r3):=fun {u1 r1 u2 r2 u3 r3} hD h12 h13=>by
  by_cases c:u2<=u3
  ·exact ord hD h12 c
  ·have:=ord (u1:=u1) (r1:=-r1) (u2:=u3) (r2:=-r3) (u3:=u2) (r3:=-r2) (by rw [qep];exact hD) h13 (by grind)
   rw [qcb,qcb] at this
   exact ⟨this.1,fun x y=>this.2 (by grind) (by grind)⟩
 by_cases c12:u1<=u2
 ·by_cases c13:u1<=u3
  ·exact low hD c12 c13
  ·have:=low (u1:=u3) (r1:=r3) (u2:=u1) (r2:=r1) (u3:=u2) (r3:=r2) (by rw [<- YX];exact hD) (by grind) (by grind)
   rw [<- JJ u3,<- JJ (u3 - h)] at this
   exact ⟨this.1,fun x y=>this.2 (by grind) (by grind)⟩
 ·by_cases c23:u2<=u3
  ·have:=low (u1:=u2) (r1:=r2) (u2:=u3) (r2:=r3) (u3:=u1) (r3:=r1) (by rw [YX];exact hD) c23 (by grind)
   rw [JJ u1,JJ (u1 - h)] at this
   exact ⟨this.1,fun x y=>this.2 (by grind) (by grind)⟩
  ·have:=low (u1:=u3) (r1:=r3) (u2:=u1) (r2:=r1) (u3:=u2) (r3:=r2) (by rw [<- YX];exact hD) (by grind) (by grind)
   rw [<- JJ u3,<- JJ (u3 - h)] at this
   exact ⟨this.1,fun x y=>this.2 (by grind) (by grind)⟩
end
end L2
namespace L2
theorem qaq {f g:Nat->Rat}:∀ {n:Nat},(∀ k,k<n->f k<=g k)->js f n<=js g n
 | 0,_=>Rat.le_refl
 | n+1,h=>by
  show js f n+f n<=js g n+g n
  have h1:=qaq (n:=n) fun k hk=>h k (by omega)
  have h2:=h n (by omega)
  grind
theorem qcx {f g:Nat->Rat}:∀ {n:Nat},(∀ k,k<n->f k<=g k)->(∃ k,k<n/\f k<g k)->js f n<js g n
 | 0,_,⟨k,hk,_⟩=>by omega
 | n+1,h,⟨k,hk,hl⟩=>by
  show js f n+f n<js g n+g n
  have h2:=h n (by omega)
  rcases Nat.lt_or_ge k n with z | z
  ·have h1:=qcx (n:=n) (fun k hk=>h k (by omega)) ⟨k,z,hl⟩
   grind
  ·have e:k=n:=by omega
   subst e
   have h1:=qaq (n:=k) (f:=f) (g:=g) fun k hk=>h k (by omega)
   grind
theorem qa6 {f:Pt->Pt->Rat}(an:∀ A B,f B A = -f A B) (P:List Pt):∀ m,js (fun k=>f (gP P k) (gP P (k+1))) (m+1)+f (gP P (m+1)) (gP P 0)=js (fun k=>f (gP P 0) (gP P (k+1))+f (gP P (k+1)) (gP P (k+2))+f (gP P (k+2)) (gP P 0)) m
 | 0=>by
  show 0+f (gP P 0) (gP P 1)+f (gP P 1) (gP P 0)=0
  rw [an (gP P 0) (gP P 1)]
  grind
 | m+1=>by
  have ih:=qa6 an P m
  show js (fun k=>f (gP P k) (gP P (k+1))) (m+1)+f (gP P (m+1)) (gP P (m+1+1))+f (gP P (m+1+1)) (gP P 0)=js _ m+(f (gP P 0) (gP P (m+1))+f (gP P (m+1)) (gP P (m+2))+f (gP P (m+2)) (gP P 0))
  rw [<- ih,an (gP P 0) (gP P (m+1))]
  grind
theorem qa1 {f:Pt->Pt->Rat}(an:∀ A B,f B A = -f A B) {P:List Pt}(h:2<=P.length):js (fun k=>f (gP P k) (nx P k)) P.length=js (fun k=>f (gP P 0) (gP P (k+1))+f (gP P (k+1)) (gP P (k+2))+f (gP P (k+2)) (gP P 0)) (P.length - 2):=by
 obtain ⟨m,e⟩:∃ m,P.length=m+2:=⟨P.length - 2,by omega⟩
 rw [show P.length - 2=m by omega,<- qa6 an P m]
 have l:∀ k,nx P k=gP P ((k+1) % (m+2)):=fun k=>by unfold nx;rw [e]
 rw [e]
 show js (fun k=>f (gP P k) (nx P k)) (m+1)+f (gP P (m+1)) (nx P (m+1))=_
 rw [l (m+1),Nat.mod_self,yX (g:=fun k=>f (gP P k) (gP P (k+1))) fun k hk=>by rw [l k,qD (by omega)]]
theorem qkd {P:List Pt}(h:Cvx P) {k:Nat}(hk:k+2<P.length):0<ac (gP P 0) (gP P (k+1)) (gP P (k+2)):=by
 have:=h (k+1) 0 (by omega) (by omega) (by omega) (by rw [qD (by omega)];omega)
 rw [qD (by omega)] at this
 unfold ac at *
 grind
theorem qiF (a b t:Rat) (A B C:Pt):Jv (uQ a b t (pq A)) (rQ a b (pq A)) (uQ a b t (pq B)) (rQ a b (pq B)) (uQ a b t (pq C)) (rQ a b (pq C))=(a * a+b * b) * ((ac A B C:Int):Rat):=by
 unfold Jv uQ rQ pq ac
 simp only [Rat.intCast_sub,Rat.intCast_mul]
 grind
theorem qie {P:List Pt}(hc:Cvx P) (h3:3<=P.length) {a b:Rat}(hL:0<a * a+b * b) {t1 t2:Rat}(ht:t1<t2) :
  js (fun k=>ZG a b t1 (pq (gP P k)) (pq (nx P k))) P.length<=js (fun k=>ZG a b t2 (pq (gP P k)) (pq (nx P k))) P.length ∧
  ((∃ q∈P,uQ a b t2 (pq q)<0)->(∃ q∈P,0<uQ a b t1 (pq q))->js (fun k=>ZG a b t1 (pq (gP P k)) (pq (nx P k))) P.length<js (fun k=>ZG a b t2 (pq (gP P k)) (pq (nx P k))) P.length):=by
 have an:∀ t:Rat,∀ A B:Pt,ZG a b t (pq B) (pq A) = -ZG a b t (pq A) (pq B):=fun t A B=>by rw [JS,JS,Y4]
 have sh:∀ q:Pt,uQ a b t2 (pq q)=uQ a b t1 (pq q) - (t2 - t1):=fun q=>by unfold uQ;grind
 rw [qa1 (f:=fun A B=>ZG a b t1 (pq A) (pq B)) (an t1) (by omega),qa1 (f:=fun A B=>ZG a b t2 (pq A) (pq B)) (an t2) (by omega)]
 have up:∀ k,k<P.length - 2->_:=fun k hk=>qiE (h:=t2 - t1) (by
  rw [qiF a b t1 (gP P 0) (gP P (k+1)) (gP P (k+2))]
  exact Rat.mul_pos hL (by have:=qkd hc (k:=k) (by omega);exact_mod_cast this)) (by grind)
 refine ⟨qaq fun k hk=>?_,fun ⟨q,hq,lq⟩ ⟨q',hq',lq'⟩=>qcx (fun k hk=>?_) ?_⟩
 ·have:=(up k hk).1
  simp only [JS,sh]
  exact this
 ·have:=(up k hk).1
  simp only [JS,sh]
  exact this
 ·have at':∀ q∈P,∃ k,k<P.length - 2/\(q=gP P 0\/q=gP P (k+1)\/q=gP P (k+2)):=fun q hq=>by
   obtain ⟨j,hj,e⟩:=jt.mp hq
   have e:q=gP P j:=by rw [<- e,jE hj]
   rcases Nat.lt_or_ge j 2 with z | z
   ·refine ⟨0,by omega,?_⟩
    rcases (show j=0\/j=1 by omega) with rfl | rfl
    ·exact .inl e
    ·exact .inr (.inl e)
   ·exact ⟨j - 2,by omega,.inr (.inr (by rw [e];congr 1;omega))⟩
  by_cases c:uQ a b t2 (pq (gP P 0))<0
  ·obtain ⟨k,hk,w⟩:=at' q' hq'
   refine ⟨k,hk,?_⟩
   simp only [JS,sh]
   refine (up k hk).2 (.inl (by rw [<- sh];exact c)) ?_
   rcases w with rfl | rfl | rfl
   ·exact .inl lq'
   ·exact .inr (.inl lq')
   ·exact .inr (.inr lq')
  ·obtain ⟨k,hk,w⟩:=at' q hq
   refine ⟨k,hk,?_⟩
   simp only [JS,sh]
   refine (up k hk).2 ?_ (.inl (by have:=sh (gP P 0);grind))
   rw [sh] at lq
   rcases w with rfl | rfl | rfl
   ·exact .inl lq
   ·exact .inr (.inl lq)
   ·exact .inr (.inr lq)
end L2
namespace K76
open PySem L2
section
variable {P:Program}{w:World}{K:W.Frag}{mg:Str->Option Value}{base:Heap}{CX:CXT}
theorem qgj {x y:Int}{a b:Nat}(h:x.natAbs<=a) (h2:y.natAbs<=b):(x * y).natAbs<=a * b:=by rw [Int.natAbs_mul];exact Nat.mul_le_mul h h2
theorem szM {x:Int}(h:x.natAbs<=10000000000000000000000000000000000000000):Sz 140 x:=Sz.of _ h (by decide +kernel)
theorem qid {N D:Int}(h:0<D) (s1:Sz 9000 N) (s2:Sz 9000 D):∃ a b:Int,qkr N D = .tuple [.int a,.int b]/\0<b/\Sz 9000 a/\Sz 9000 b/\(a:Rat) / b=(N:Rat) / D:=by
 refine ⟨_,_,rfl,?_⟩
 have g0:0<Int.gcd N D:=Int.gcd_pos_of_ne_zero_right _ (by omega)
 obtain ⟨x,ex⟩:((Int.gcd N D:Nat):Int) ∣ N:=Int.gcd_dvd_left ..
 obtain ⟨y,ey⟩:((Int.gcd N D:Nat):Int) ∣ D:=Int.gcd_dvd_right ..
 generalize Int.gcd N D=g at *
 have gp:(0:Int)<(g:Int):=by omega
 have f1:N.fdiv (g:Int)=x:=by rw [ex,Int.mul_fdiv_cancel_left _ (by omega)]
 have f2:D.fdiv (g:Int)=y:=by rw [ey,Int.mul_fdiv_cancel_left _ (by omega)]
 rw [f1,f2]
 have y0:0<y:=by
  refine Int.lt_of_not_ge fun z=>?_
  have:=Int.mul_le_mul_of_nonneg_left z (Int.le_of_lt gp)
  rw [Int.mul_zero,<- ey] at this
  omega
 have le:∀ z:Int,z.natAbs<=((g:Int) * z).natAbs:=fun z=>by rw [Int.natAbs_mul];exact Nat.le_mul_of_pos_left _ (by omega)
 refine ⟨y0,jf (by rw [ex];exact le x) s1,jf (by rw [ey];exact le y) s2,?_⟩
 rw [ex,ey]
 simp only [Rat.intCast_mul]
 have a1:=YA (d:=(g:Int)) (by omega)
 have a2:=YA (d:=y) (by omega)
 grind
theorem Zk {Z:List Pt}(h:0<Z.length) (v:Pt) (t:Rat):qbo Z v t+qbo Z (-v.1,-v.2) (-t)=((vl' v v:Int):Rat) * ((Zr Z:Int):Rat):=by
 rw [jP h,jP h,<- Y2,qb6,<- g_sum v.1 v.2 t h]
 refine yX fun k _=>?_
 have:=qcR v.1 v.2 t (pq (gP Z k)) (pq (nx Z k))
 simp only [Rat.intCast_neg]
 exact this
theorem qc8 {Z:List Pt}(h:0<Z.length) (v:Pt) {m:Int}(hm:∀ q∈Z,m<=vl' v q):qbo Z v (m:Rat)=0:=by
 rw [jP h,<- Yq Z.length]
 refine yX fun k hk=>?_
 have u:∀ q∈Z,0<=uQ v.1 v.2 (m:Rat) (pq q):=fun q hq=>by
  have:=Rat.intCast_le_intCast.mpr (hm q hq)
  unfold vl' at this
  simp only [Rat.intCast_add,Rat.intCast_mul] at this
  unfold uQ pq
  show 0<=(v.1:Rat) * (q.1:Rat)+(v.2:Rat) * (q.2:Rat) - (m:Rat)
  grind
 exact ZF _ _ _ (u _ (jZ hk)) (u _ (jZ (yE _ h)))
theorem qfE {B:Nat}:∀ {l:List Int},(∀ x∈l,x.natAbs<=B)->l.sum.natAbs<=l.length * B
 | [],_=>by simp
 | x::l,h=>by
  have h1:=h x qv
  have h2:=qfE (l:=l) fun y hy=>h y (qk _ hy)
  rw [List.sum_cons,List.length_cons,Nat.succ_mul]
  omega
theorem qea {Z:List Pt}(l12:Z.length<=12) (h3:0<Z.length) (hn:∀ q∈Z,qbs q):Sz 300 (Zr Z):=by
 have hc:∀ x∈(List.range Z.length).map (fun k=>crs (gP Z k) (nx Z k)),x.natAbs<=2000000000000000000000000000000000000000000000000000000000000:=fun x hx=>by
  obtain ⟨k,hk,rfl⟩:=qE.mp hx
  have hk:=List.mem_range.mp hk
  obtain ⟨⟨a1,a2⟩,a3,a4⟩:=hn _ (jZ hk)
  obtain ⟨⟨b1,b2⟩,b3,b4⟩:=hn _ (jZ (yE (k+1) h3))
  unfold crs nx
  have p1:=qgj (x:=(gP Z k).1) (y:=(gP Z ((k+1) % Z.length)).2) (a:=1000000000000000000000000000000) (b:=1000000000000000000000000000000) (by omega) (by omega)
  have p2:=qgj (x:=(gP Z k).2) (y:=(gP Z ((k+1) % Z.length)).1) (a:=1000000000000000000000000000000) (b:=1000000000000000000000000000000) (by omega) (by omega)
  omega
 have:=qfE hc
 rw [List.length_map,yp] at this
 refine Sz.of 24000000000000000000000000000000000000000000000000000000000000 ?_ (by decide +kernel)
 unfold Zr
 omega
def qg5:SpD:=fun es μ Q=>∃ (P:List Pt) (v:Pt) (h:Int),es=[.d (hpD P),.d (ptD v),.d (.int h)]/\Ck P/\Ar v/\h.natAbs<=B40/\∀ b:Bool,(b=true ↔ 2 * qbo P v (h:Rat)<=((vl' v v:Int):Rat) * ((Zr P:Int):Rat))->Q (.d (.bool b)) μ
theorem qcp:FnScope ["cake", "arrow", "height", "n", "d"] ["cake", "arrow", "height"] (qp jp):=⟨rfl,rfl,rfl,by decide +kernel,rfl,by decide +kernel,by decide +kernel⟩
theorem qhz {f:Addr}{fd:FuncData}(F:Fun K "is_at_most_half" "is_at_most_half" jp f fd) (hX:NoX CX) (Obelow:Own P w K mg base CX 4 "below" ["cake", "arrow", "n", "d"] (qV K sBel)) (Oarea:Own P w K mg base CX 3 "area" ["cake"] (qV K qez)):FnOk P w K mg base CX 5 f fd ["cake", "arrow", "height"] (qV K qg5):=by
 refine F.okD qcp (fun es μ Q hq0=>by obtain ⟨P,v,h,e,_⟩:=hq0;subst e;rfl) (fun cdv A outer s H E es μ Q hr hq0=>?_)
 obtain ⟨Z,v,h,e,hc,hv,hh,k⟩:=hq0
 subst e
 have nd:=qcp.nd
 refine ⟨_,(qq (y7 (qQ Obelow hX (hr.mono (by decide)) rfl (qa (dv 0) (qa (dv 1) (qa (dv 2) (qa qt qd))))) (yI (n:=2) rfl (qw (qy (i:=3) nd rfl (by first | exact Or.inl rfl | exact Or.inr rfl)) (qw (qy (i:=4) nd rfl (by first | exact Or.inl rfl | exact Or.inr rfl)) yh))))
   (qC (qN (Z5 qhZ (qZ qG qt (dv 3)) (qZ qG (qQ Oarea hX (hr.mono (by decide)) rfl (qa (dv 0) qd)) (dv 4)) (qP _))))),?_⟩
 have l3:=hc.2.1
 have l12:=hc.2.2.1
 refine ⟨Z,v,h,1,rfl,by omega,l12,hc.2.2.2,hv,by decide,(szM hh).mono (by decide),by unfold Sz;decide,fun N D D0 sN sD eB=>?_⟩
 obtain ⟨a,b,eC,b0,sa,sb,eab⟩:=qid D0 sN sD
 rw [eC]
 have sA:=qea l12 (by omega) hc.2.2.2
 refine ⟨rfl,jq (j:=2) (by unfold Sz;decide) sa (by decide),Z,rfl,by omega,by omega,hc.2.2.2,jq sA sb (by decide),k _ ?_⟩
 have eB:(N:Rat) / D * (vl' v v:Int)=qbo Z v ((h:Rat) / ((1:Int):Rat)):=eB
 have t1:(h:Rat) / ((1:Int):Rat)=h:=by grind
 rw [t1,<- eab] at eB
 rw [<- eB]
 have vv:=(qb5 hv).1
 have v0:(0:Rat)<((vl' v v:Int):Rat):=Rat.intCast_pos.mpr vv
 have c0:(0:Rat)<(b:Rat):=Rat.intCast_pos.mpr b0
 have e2:2 * ((a:Rat) / b * ((vl' v v:Int):Rat)) * b=2 * a * ((vl' v v:Int):Rat):=by grind
 constructor
 ·intro z
  have z:2 * a<=Zr Z * b:=qr z
  have z:=Rat.intCast_le_intCast.mpr z
  simp only [Rat.intCast_mul] at z
  have z2:=Rat.mul_le_mul_of_nonneg_right z (Rat.le_of_lt v0)
  refine ZR c0 ?_
  rw [e2]
  grind
 ·intro z
  have z2:=Rat.mul_le_mul_of_nonneg_right z (Rat.le_of_lt c0)
  rw [e2] at z2
  refine qu (Rat.intCast_le_intCast.mp ?_)
  simp only [Rat.intCast_mul]
  refine ZR v0 ?_
  grind
end
section
variable {P:Program}{w:World}{K:W.Frag}{mg:Str->Option Value}{base:Heap}{CX:CXT}
theorem qdw:∀ {l:List Int},l≠[]->∃ m∈l,∀ x∈l,m<=x
 | [],h=>absurd rfl h
 | [a],_=>⟨a,by simp,fun x hx=>by simp at hx;omega⟩
 | a::b::l,_=>by
  obtain ⟨m,hm,h⟩:=qdw (l:=b::l) (by simp)
  rcases Int.le_total a m with z | z
  ·exact ⟨a,qv,fun x hx=>by rcases List.mem_cons.mp hx with rfl | y;omega;have:=h x y;omega⟩
  ·exact ⟨m,qk _ hm,fun x hx=>by rcases List.mem_cons.mp hx with rfl | y;omega;exact h x y⟩
theorem qke {l:List Int}(h:l≠[]):∃ m∈l,∀ x∈l,x<=m:=by
 obtain ⟨m,hm,hl⟩:=qdw (l:=l.map fun x=>-x) (by simp [h])
 obtain ⟨y,hy,rfl⟩:=qE.mp hm
 exact ⟨y,hy,fun x hx=>by have:=hl (-x) (List.mem_map_of_mem hx);omega⟩
def hf (Z:List Pt) (v:Pt) (h:Int):Bool:=decide (2 * qbo Z v (h:Rat)<=((vl' v v:Int):Rat) * ((Zr Z:Int):Rat))
theorem Za {Z:List Pt}(hc:Ck Z) {v:Pt}(hv:Ar v):0<((vl' v v:Int):Rat) * ((Zr Z:Int):Rat):=by
 refine Rat.mul_pos (Rat.intCast_pos.mpr (qb5 hv).1) (Rat.intCast_pos.mpr ?_)
 have l3:=hc.2.1
 rw [qfv (by omega)]
 exact qhW hc.1 l3
theorem qj7 {Z:List Pt}(hc:Ck Z) {v:Pt}(hv:Ar v) {m:Int}(hm:∀ q∈Z,m<=vl' v q):hf Z v m=true:=by
 have l3:=hc.2.1
 have:=Za hc hv
 unfold hf
 rw [qc8 (by omega) v hm]
 exact qu (by grind)
theorem qe3 {Z:List Pt}(hc:Ck Z) {v:Pt}{m:Int}(hm:∀ q∈Z,vl' v q<=m):qbo Z v (m:Rat)=((vl' v v:Int):Rat) * ((Zr Z:Int):Rat):=by
 have l3:=hc.2.1
 have b:=Zk (Z:=Z) (by omega) v (m:Rat)
 have z:=qc8 (Z:=Z) (by omega) (-v.1,-v.2) (m:=-m) fun q hq=>by
  have:=hm q hq
  unfold vl' at *
  dsimp only
  rw [Int.neg_mul,Int.neg_mul]
  omega
 rw [Rat.intCast_neg] at z
 rw [z] at b
 grind
theorem qhQ {Z:List Pt}(hc:Ck Z) {v:Pt}(hv:Ar v) {m:Int}(hm:∀ q∈Z,vl' v q<=m):hf Z v m=false:=by
 have:=Za hc hv
 unfold hf
 rw [qe3 hc hm]
 exact yt (by grind)
def Bnd (Z:List Pt) (v:Pt) (low high:Int):Prop:=(∃ q∈Z,vl' v q=low)/\(∃ q∈Z,vl' v q=high)/\low<high/\(∀ q∈Z,vl' v q<=low\/high<=vl' v q)/\hf Z v low=true/\hf Z v high=false
def sBds:SpD:=fun es μ Q=>∃ (P:List Pt) (v:Pt),es=[.d (hpD P),.d (ptD v)]/\Ck P/\Ar v/\∀ low high:Int,Bnd P v low high->Q (.d (.tuple [.int low,.int high])) μ
theorem qf2:FnScope ["cake", "arrow", "heights", "low", "high"] ["cake", "arrow"] (qp ja):=⟨rfl,rfl,rfl,by decide +kernel,rfl,by decide +kernel,by decide +kernel⟩
theorem qjS {f:Addr}{fd:FuncData}(F:Fun K "cut_bounds" "cut_bounds" ja f fd) (T:Txt mg) (hX:NoX CX) (Ovalue:Own P w K mg base CX 1 "value" ["normal", "point"] (qV K qkQ)) (Ois_at_most_half:Own P w K mg base CX 5 "is_at_most_half" ["cake", "arrow", "height"] (qV K qg5)):FnOk P w K mg base CX 6 f fd ["cake", "arrow"] (qV K sBds):=by
 refine F.okD qf2 (fun es μ Q hq0=>by obtain ⟨P,v,e,_⟩:=hq0;subst e;rfl) (fun cdv A outer s H E es μ Q hr hq0=>?_)
 obtain ⟨Z,v,e,hc,hv,k⟩:=hq0
 subst e
 have nd:=qf2.nd
 refine ⟨_,(qq (qaB (i:=2) nd rfl (by first | exact Or.inl rfl | exact Or.inr rfl) (L:=["corner"]) (sc:=qp ja) (N:=["cake", "arrow", "heights", "low", "high"]) rfl rfl rfl (by decide +kernel) (jr (dv 0)) (fun _ _ _ _ _=>(qy (i:=5) (show List.Nodup (["cake", "arrow", "heights", "low", "high", "corner"]:List Str) from by decide +kernel) rfl (by first | exact Or.inl rfl | exact Or.inr rfl))) (fun _ _ _ _ _=>je) (fun _ _ _ _ _=>(qQ Ovalue hX (hr.mono (by decide)) rfl (qa (dv 1) (qa (dv 5) qd)))))
   (qq (qW (i:=3) nd rfl (by first | exact Or.inl rfl | exact Or.inr rfl) (qO (qaC rfl) (by rfl) T.max_ J8 (qa (j3 (L:=["height"]) (sc:=qp ja) (N:=["cake", "arrow", "heights", "low", "high"]) rfl rfl rfl (by decide +kernel) (jr (dv 2)) (fun _ _ _ _ _=>(qy (i:=5) (show List.Nodup (["cake", "arrow", "heights", "low", "high", "height"]:List Str) from by decide +kernel) rfl (by first | exact Or.inl rfl | exact Or.inr rfl))) (fun _ _ _ _ _=>(qdK (ZY (qQ Ois_at_most_half hX (hr.mono (by decide)) rfl (qa (dv 0) (qa (dv 1) (qa (dv 5) qd))))))) (fun _ _ _ _ _=>(dv 5))) qd)))
   (qq (qW (i:=4) nd rfl (by first | exact Or.inl rfl | exact Or.inr rfl) (qO (qh5 rfl) (by rfl) T.min_ YW (qa (j3 (L:=["height"]) (sc:=qp ja) (N:=["cake", "arrow", "heights", "low", "high"]) rfl rfl rfl (by decide +kernel) (jr (dv 2)) (fun _ _ _ _ _=>(qy (i:=5) (show List.Nodup (["cake", "arrow", "heights", "low", "high", "height"]:List Str) from by decide +kernel) rfl (by first | exact Or.inl rfl | exact Or.inr rfl))) (fun _ _ _ _ _=>(qdK (q9 Zd (dv 5) (dv 3) (qP _)))) (fun _ _ _ _ _=>(dv 5))) qd)))
   (qC (qN (yl (qa (dv 3) (qa (dv 4) qd)))))))),?_⟩
 have l3:=hc.2.1
 have l12:=hc.2.2.1
 have hb:∀ q∈Z,(vl' v q).natAbs<=B40:=fun q hq=>(qci hv (hc.2.2.2 q hq)).1
 have vB:Bd B40 v:=by
  have a1:=hv.1.1
  have a2:=hv.1.2
  exact ⟨qR a1 (by decide),qR a2 (by decide)⟩
 have qB:∀ q∈Z,Bd B40 q:=fun q hq=>by
  obtain ⟨⟨x1,x2⟩,x3,x4⟩:=hc.2.2.2 q hq
  exact ⟨by show _<=10000000000000000000000000000000000000000;omega,by show _<=10000000000000000000000000000000000000000;omega⟩
 refine ⟨_,.d _,(by show (Z.map ptD).length<=4000;rw [List.length_map];omega),qbm (as:=Z) (fun q=>.int (vl' v q)) Src.d (fun q hq R h=>⟨v,q,rfl,vB,qB q hq,h⟩) ?_⟩
 have em:Z.map (fun q=>PyData.int (vl' v q))=(Z.map (vl' v)).map PyData.int:=by rw [List.map_map];rfl
 rw [em]
 have hl:((Z.map (vl' v)).map PyData.int).length<=4000:=by rw [List.length_map,List.length_map];omega
 refine ⟨_,.d _,hl,qdU (as:=Z.map (vl' v)) (h:=PyData.int) (fun h=>hf Z v h) PyData.int Src.d (fun h hh R y=>?_) (fun h hh _ R y=>y) ?_⟩
 ·obtain ⟨q,hq,rfl⟩:=qE.mp hh
  refine ⟨Z,v,vl' v q,rfl,hc,hv,hb q hq,fun b hb=>?_⟩
  have:b=hf Z v (vl' v q):=by
   rw [Bool.eq_iff_iff,hb]
   unfold hf
   rw [decide_eq_true_iff]
  rw [this]
  exact y
 have ne:Z.map (vl' v)≠[]:=fun z=>by have z:Z=[]:=List.map_eq_nil_iff.mp z;rw [z] at l3;exact absurd l3 (by decide)
 obtain ⟨m,mm,hm⟩:=qdw ne
 obtain ⟨M,MM,hM⟩:=qke ne
 have t0:=qj7 hc hv (m:=m) fun q hq=>hm _ (List.mem_map_of_mem hq)
 have t1:=qhQ hc hv (m:=M) fun q hq=>hM _ (List.mem_map_of_mem hq)
 refine ⟨(Z.map (vl' v)).filter fun h=>hf Z v h,.d _,(fun z=>by have:=jy.mpr ⟨mm,t0⟩;rw [z] at this;cases this),fun low hlow hmax=>?_⟩
 obtain ⟨l1,l2⟩:=jy.mp hlow
 have nM:low<M:=by
  have:=hM low l1
  rcases Int.lt_or_le low M with z | z
  ·exact z
  ·have e:low=M:=by omega
   rw [e,t1] at l2
   cases l2
 dsimp only [List.set_cons_zero,List.set_cons_succ]
 refine ⟨_,.d _,hl,qdU (as:=Z.map (vl' v)) (h:=PyData.int) (fun h=>decide (low<h)) PyData.int Src.d (fun h hh R y=>y) (fun h hh _ R y=>y) ?_⟩
 refine ⟨(Z.map (vl' v)).filter fun h=>decide (low<h),.d _,(fun z=>by have:=(jy (p:=fun h=>decide (low<h))).mpr ⟨MM,qu nM⟩;rw [z] at this;cases this),fun high hhi hmin=>?_⟩
 obtain ⟨h1,h2⟩:=jy.mp hhi
 have h2:low<high:=qr h2
 dsimp only [List.set_cons_zero,List.set_cons_succ]
 refine ⟨zl2,k low high ⟨qE.mp l1,qE.mp h1,h2,fun q hq=>?_,l2,?_⟩⟩
 ·rcases Int.lt_or_le low (vl' v q) with z | z
  ·exact .inr (hmin _ (jy.mpr ⟨List.mem_map_of_mem hq,qu z⟩))
  ·exact .inl z
 ·cases e:hf Z v high with
  | false=>rfl
  | true =>
   have:=hmax high (jy.mpr ⟨h1,e⟩)
   omega
end
section
variable {P:Program}{w:World}{K:W.Frag}{mg:Str->Option Value}{base:Heap}{CX:CXT}
def qfw (Z:List Pt) (v:Pt) (s o n low high dv:Int):Prop:=Bnd Z v low high/\0<dv/\Sz 8500 s/\Sz 8500 o/\Sz 8500 n/\Sz 8500 dv ∧
 (∀ t:Rat,(low:Rat)<=t->t<=(high:Rat)->(s:Rat) * t * t+o * t+n=dv * (2 * qbo Z v t - ((vl' v v:Int):Rat) * ((Zr Z:Int):Rat))) ∧
 ∃ sq on no:Int,qek (ZA v Z) low Z.length=(sq,on,no,dv)/\s=2 * sq/\o=2 * on/\n=2 * no - dv * vl' v v * Zr Z
def sCut:SpD:=fun es μ Q=>∃ (P:List Pt) (v:Pt),es=[.d (hpD P),.d (ptD v)]/\Ck P/\Ar v/\∀ s o n low high dv:Int,qfw P v s o n low high dv->Q (.d (.tuple [.int s,.int o,.int n,.int low,.int high])) μ
theorem qfZ:FnScope ["cake", "arrow", "low", "high", "curve", "divisor", "square", "one", "nought"] ["cake", "arrow"] (qp scut):=⟨rfl,rfl,rfl,by decide +kernel,rfl,by decide +kernel,by decide +kernel⟩
theorem qjP {f:Addr}{fd:FuncData}(F:Fun K "cut" "cut" scut f fd) (hX:NoX CX) (Ocut_bounds:Own P w K mg base CX 6 "cut_bounds" ["cake", "arrow"] (qV K sBds)) (Opart_curve:Own P w K mg base CX 3 "part_curve" ["cake", "arrow", "low"] (qV K sPc)) (Oarea:Own P w K mg base CX 3 "area" ["cake"] (qV K qez)):FnOk P w K mg base CX 7 f fd ["cake", "arrow"] (qV K sCut):=by
 refine F.okD qfZ (fun es μ Q hq0=>by obtain ⟨P,v,e,_⟩:=hq0;subst e;rfl) (fun cdv A outer s H E es μ Q hr hq0=>?_)
 obtain ⟨Z,v,e,hc,hv,k⟩:=hq0
 subst e
 have nd:=qfZ.nd
 refine ⟨_,(qq (y7 (qQ Ocut_bounds hX (hr.mono (by decide)) rfl (qa (dv 0) (qa (dv 1) qd))) (yI (n:=2) rfl (qw (qy (i:=2) nd rfl (by first | exact Or.inl rfl | exact Or.inr rfl)) (qw (qy (i:=3) nd rfl (by first | exact Or.inl rfl | exact Or.inr rfl)) yh))))
   (qq (y7 (qQ Opart_curve hX (hr.mono (by decide)) rfl (qa (dv 0) (qa (dv 1) (qa (dv 2) qd)))) (yI (n:=2) rfl (qw (qy (i:=4) nd rfl (by first | exact Or.inl rfl | exact Or.inr rfl)) (qw (qy (i:=5) nd rfl (by first | exact Or.inl rfl | exact Or.inr rfl)) yh))))
   (qq (y7 (dv 4) (yI (n:=3) rfl (qw (qy (i:=6) nd rfl (by first | exact Or.inl rfl | exact Or.inr rfl)) (qw (qy (i:=7) nd rfl (by first | exact Or.inl rfl | exact Or.inr rfl)) (qw (qy (i:=8) nd rfl (by first | exact Or.inl rfl | exact Or.inr rfl)) yh)))))
   (qC (qN (yl (qa (qZ qG qt (dv 6)) (qa (qZ qG qt (dv 7)) (qa (qZ yA (qZ qG qt (dv 8)) (qZ qG (dv 5) (qQ Oarea hX (hr.mono (by decide)) rfl (qa (dv 0) qd)))) (qa (dv 2) (qa (dv 3) qd))))))))))),?_⟩
 have l3:=hc.2.1
 have l12:=hc.2.2.1
 refine ⟨Z,v,rfl,hc,hv,fun low high hb=>⟨rfl,Z,v,low,rfl,by omega,l12,hc.2.2.2,hv,fun sq on no dv ha=>?_⟩⟩
 dsimp only [List.set_cons_zero,List.set_cons_succ]
 obtain ⟨p1,s1,s2,s3,s4,e,eF⟩:=ha
 have sv:=qgS hv
 have mo:∀ {x:Int},Sz (601 * Z.length+1) x->Sz 7300 x:=fun h=>h.mono (by omega)
 have sD:Sz (7300+70) (dv * vl' v v):=(mo s4).mul sv
 have sA:=qea l12 (by omega) hc.2.2.2
 have two:Sz 2 (2:Int):=by unfold Sz;decide
 refine ⟨rfl,rfl,jq two (mo s1) (by decide),jq two (mo s2) (by decide),jq two (mo s3) (by decide),Z,rfl,by omega,by omega,hc.2.2.2,jq sD sA (by decide),(show 5<=4000 by decide),k _ _ _ _ _ dv ⟨hb,p1,(two.mul (mo s1)).mono (by decide),(two.mul (mo s2)).mono (by decide),?_,(mo s4).mono (by decide),fun t t1 t2=>?_,sq,on,no,eF,rfl,rfl,rfl⟩⟩
 ·have a1:Sz 7700 (2 * no):=(two.mul (mo s3)).mono (by decide)
  have a2:Sz 7700 (dv * vl' v v * Zr Z):=(sD.mul sA).mono (by decide)
  exact (a1.sub a2).mono (by decide)
 ·have lS:LowS (ZA v Z) low t:=fun q hq=>by
   obtain ⟨q0,hq0,rfl⟩:=qE.mp hq
   refine ⟨fun z=>Rat.le_trans (Rat.intCast_le_intCast.mpr z) t1,fun z=>Rat.le_trans t2 (Rat.intCast_le_intCast.mpr ?_)⟩
   have z:low<vl' v q0:=z
   show high<=vl' v q0
   rcases hb.2.2.2.1 q0 hq0 with y | y
   ·omega
   ·exact y
  have et:=e t lS
  have et:((sq:Rat) * t * t+on * t+no) / dv=qbo Z v t:=et
  rw [<- et]
  have d1:=YA (d:=dv) (by omega)
  simp only [Rat.intCast_mul,Rat.intCast_sub]
  have:((2:Int):Rat)=2:=rfl
  grind
end
section
variable {P:Program}{w:World}{K:W.Frag}{mg:Str->Option Value}{base:Heap}{CX:CXT}
end
section
variable {P:Program}{w:World}{K:W.Frag}{mg:Str->Option Value}{base:Heap}{CX:CXT}
def FF (Z:List Pt) (v:Pt) (t:Rat):Rat:=2 * qbo Z v t - ((vl' v v:Int):Rat) * ((Zr Z:Int):Rat)
def Btw (Z:List Pt) (v:Pt) (t:Rat):Prop:=(∃ q∈Z,((vl' v q:Int):Rat)<=t)/\∃ q∈Z,t<=((vl' v q:Int):Rat)
theorem qgP (v:Pt) (t:Rat) (q:Pt):uQ v.1 v.2 t (pq q)=((vl' v q:Int):Rat) - t:=by
 unfold uQ pq vl'
 simp only [Rat.intCast_add,Rat.intCast_mul]
theorem FF_lt {Z:List Pt}(hc:Ck Z) {v:Pt}(hv:Ar v) {s t:Rat}(hs:Btw Z v s) (ht:Btw Z v t) (h:s<t):FF Z v s<FF Z v t:=by
 have l3:=hc.2.1
 obtain ⟨⟨q,m,e⟩,_⟩:=hs
 obtain ⟨_,q',m',e'⟩:=ht
 have:=(qie hc.1 l3 (a:=v.1) (b:=v.2) (by rw [<- qb6];exact Rat.intCast_pos.mpr (qb5 hv).1) h).2 ⟨q,m,by rw [qgP];grind⟩ ⟨q',m',by rw [qgP];grind⟩
 rw [<- jP (by omega),<- jP (by omega)] at this
 unfold FF
 grind
theorem Yd {Z:List Pt}{v:Pt}{s o n l h dv:Int}(T:qfw Z v s o n l h dv):FF Z v (l:Rat)<=0/\0<FF Z v (h:Rat):=by
 obtain ⟨⟨_,_,_,_,b5,b6⟩,_⟩:=T
 have b5:=qr b5
 have b6:=of_decide_eq_false b6
 unfold FF
 constructor <;> grind
theorem jT {Z:List Pt}{v:Pt}{s o n l h dv:Int}(T:qfw Z v s o n l h dv) {t:Rat}(t1:(l:Rat)<=t) (t2:t<=h):(s:Rat) * t * t+o * t+n=dv * FF Z v t:=T.2.2.2.2.2.2.1 t t1 t2
theorem Jw {Z:List Pt}{v:Pt}{s o n l h dv:Int}(T:qfw Z v s o n l h dv):(s:Rat) * l * l+o * l+n<=0/\0<(s:Rat) * h * h+o * h+n:=by
 have lt':(l:Rat)<h:=Rat.intCast_lt_intCast.mpr T.1.2.2.1
 have d0:(0:Rat)<dv:=Rat.intCast_pos.mpr T.2.1
 obtain ⟨g1,g2⟩:=Yd T
 rw [jT T (t:=(l:Rat)) (by grind) (by grind),jT T (t:=(h:Rat)) (by grind) (by grind)]
 have m1:=Rat.mul_nonneg (Rat.le_of_lt d0) (show (0:Rat) <= -FF Z v (l:Rat) by grind)
 have m2:=Rat.mul_pos d0 g2
 constructor
 ·grind
 ·exact m2
theorem qh1 {Z:List Pt}{v:Pt}{s o n l h dv:Int}(T:qfw Z v s o n l h dv) (s0:s≠0):0<=o * o - 4 * s * n:=by
 obtain ⟨e1,e2⟩:=Jw T
 have q:∀ x:Rat,4 * (s:Rat) * ((s:Rat) * x * x+o * x+n)=(2 * s * x+o) * (2 * s * x+o) - ((o:Rat) * o - 4 * s * n):=fun x=>by grind
 have sq:∀ x:Rat,0<=x * x:=fun x=>by
  rcases Rat.le_total (a:=0) (b:=x) with z | z
  ·exact Rat.mul_nonneg z z
  ·have:=Rat.mul_nonneg (a:=-x) (b:=-x) (by grind) (by grind)
   grind
 have fin:(0:Rat)<=(o:Rat) * o - 4 * s * n:=by
  rcases jg s0 with z | z
  ·have z:(s:Rat)<0:=Rat.intCast_lt_intCast.mpr z
   have q2:=q h
   have m:=Rat.mul_pos (show (0:Rat) < -(4 * s) by grind) e2
   have:=sq (2 * s * h+o)
   grind
  ·have z:(0:Rat)<s:=Rat.intCast_pos.mpr z
   have q2:=q l
   have m:=Rat.mul_nonneg (show (0:Rat)<=4 * s by grind) (show (0:Rat) <= -((s:Rat) * l * l+o * l+n) by grind)
   have:=sq (2 * s * l+o)
   grind
 refine Rat.intCast_le_intCast.mp ?_
 simp only [Rat.intCast_sub,Rat.intCast_mul]
 exact fin
def Crt (Z:List Pt) (v:Pt) (p r q:Int):Prop:=∃ s o n l h dv:Int,qfw Z v s o n l h dv/\((s=0/\p = -n/\r=0/\q=o)\/(s≠0/\p = -o/\r=o * o - 4 * s * n/\q=2 * s))
def sCrt:SpD:=fun es μ Q=>∃ (Z:List Pt) (v:Pt),es=[.d (hpD Z),.d (ptD v)]/\Ck Z/\Ar v/\∀ p r q:Int,Crt Z v p r q->Q (.d (.tuple [.int p,.int r,.int q])) μ
theorem qf0:FnScope ["cake", "arrow", "square", "one", "nought", "low", "high"] ["cake", "arrow"] (qp Yo):=⟨rfl,rfl,rfl,by decide +kernel,rfl,by decide +kernel,by decide +kernel⟩
theorem qjQ {f:Addr}{fd:FuncData}(F:Fun K "cut_root" "cut_root" Yo f fd) (hX:NoX CX) (Ocut:Own P w K mg base CX 7 "cut" ["cake", "arrow"] (qV K sCut)):FnOk P w K mg base CX 8 f fd ["cake", "arrow"] (qV K sCrt):=by
 refine F.okD qf0 (fun es μ Q hq0=>by obtain ⟨Z,v,e,_⟩:=hq0;subst e;rfl) (fun cdv A outer s H E es μ Q hr hq0=>?_)
 obtain ⟨Z,v,e,hc,hv,k⟩:=hq0
 subst e
 have nd:=qf0.nd
 refine ⟨_,(qq (y7 (qQ Ocut hX (hr.mono (by decide)) rfl (qa (dv 0) (qa (dv 1) qd))) (yI (n:=5) rfl (qw (qy (i:=2) nd rfl (by first | exact Or.inl rfl | exact Or.inr rfl)) (qw (qy (i:=3) nd rfl (by first | exact Or.inl rfl | exact Or.inr rfl)) (qw (qy (i:=4) nd rfl (by first | exact Or.inl rfl | exact Or.inr rfl)) (qw (qy (i:=5) nd rfl (by first | exact Or.inl rfl | exact Or.inr rfl)) (qw (qy (i:=6) nd rfl (by first | exact Or.inl rfl | exact Or.inr rfl)) yh)))))))
   (qq (jd (q9 (Yc hr.units) (dv 2) qt (qP _)) (qC (qN (yl (qa (Z4 jm (dv 4)) (qa qt (qa (dv 3) qd)))))) yz)
   (qC (qN (yl (qa (Z4 jm (dv 3)) (qa (qZ yA (qZ qG (dv 3) (dv 3)) (qZ qG (qZ qG qt (dv 2)) (dv 4))) (qa (qZ qG qt (dv 2)) qd)))))))),?_⟩
 refine ⟨Z,v,rfl,hc,hv,fun s o n l h dv T=>⟨rfl,jv (fun c=>?_) (fun c=>?_)⟩⟩
 ·have c:s=0:=qr c
  exact ⟨zl3,k _ _ _ ⟨s,o,n,l,h,dv,T,.inl ⟨c,rfl,rfl,rfl⟩⟩⟩
 ·have c:s≠0:=fun z=>c (qu z)
  have ss:=T.2.2.1
  have so:=T.2.2.2.1
  have sn:=T.2.2.2.2.1
  have two:Sz 3 (2:Int):=by unfold Sz;decide
  have four:Sz 3 (4:Int):=by unfold Sz;decide
  exact ⟨jq so so (by decide),jq four ss (by decide),jq (four.mul ss) sn (by decide),jq two ss (by decide),zl3,k _ _ _ ⟨s,o,n,l,h,dv,T,.inr ⟨c,rfl,rfl,rfl⟩⟩⟩
end
section
variable {P:Program}{w:World}{K:W.Frag}{mg:Str->Option Value}{base:Heap}{CX:CXT}
theorem qbe {Z:List Pt}(h:0<Z.length) (v:Pt) {t:Rat}(hm:∀ q∈Z,t<=((vl' v q:Int):Rat)):qbo Z v t=0:=by
 rw [jP h,<- Yq Z.length]
 refine yX fun k hk=>?_
 have u:∀ q∈Z,0<=uQ v.1 v.2 t (pq q):=fun q hq=>by
  have:=hm q hq
  rw [qgP]
  grind
 exact ZF _ _ _ (u _ (jZ hk)) (u _ (jZ (yE _ h)))
theorem qdj {Z:List Pt}(h:0<Z.length) (v:Pt) {t:Rat}(hm:∀ q∈Z,((vl' v q:Int):Rat)<=t):qbo Z v t=((vl' v v:Int):Rat) * ((Zr Z:Int):Rat):=by
 have b:=Zk (Z:=Z) h v t
 have z:=qbe (Z:=Z) h (-v.1,-v.2) (t:=-t) fun q hq=>by
  have:=hm q hq
  have e:((vl' (-v.1,-v.2) q:Int):Rat) = -((vl' v q:Int):Rat):=by
   unfold vl'
   simp only [Rat.intCast_add,Rat.intCast_mul,Rat.intCast_neg]
   grind
  rw [e]
  grind
 rw [z] at b
 grind
theorem qbt {Z:List Pt}(hc:Ck Z) {v:Pt}(hv:Ar v) {t t':Rat}(h:t<t') (f:FF Z v t'<=0):FF Z v t<0:=by
 have l3:=hc.2.1
 have fp:=Za hc hv
 by_cases a:∃ q∈Z,((vl' v q:Int):Rat)<=t
 ·by_cases b:∃ q∈Z,t'<=((vl' v q:Int):Rat)
  ·obtain ⟨q,m,e⟩:=a
   obtain ⟨q',m',e'⟩:=b
   have:=FF_lt hc hv (Z:=Z) (v:=v) (s:=t) (t:=t') ⟨⟨q,m,e⟩,q',m',by grind⟩ ⟨⟨q,m,by grind⟩,q',m',e'⟩ h
   grind
  ·exfalso
   have:=qdj (Z:=Z) (by omega) v (t:=t') fun q hq=>by
    by_cases z:((vl' v q:Int):Rat)<=t'
    ·exact z
    ·exact absurd ⟨q,hq,by grind⟩ b
   unfold FF at f
   rw [this] at f
   grind
 ·have:=qbe (Z:=Z) (by omega) v (t:=t) fun q hq=>by
   by_cases z:t<=((vl' v q:Int):Rat)
   ·exact z
   ·exact absurd ⟨q,hq,by grind⟩ a
  unfold FF
  rw [this]
  grind
theorem qeg {Z:List Pt}(hc:Ck Z) {v:Pt}(hv:Ar v) {t t':Rat}(h:t'<t) (f:0<=FF Z v t'):0<FF Z v t:=by
 by_cases z:0<FF Z v t
 ·exact z
 ·have:=qbt hc hv h (by grind)
  grind
theorem qcL {Z:List Pt}(hc:Ck Z) {v:Pt}(hv:Ar v) {s o n l h dv:Int}(T:qfw Z v s o n l h dv) {t:Rat}(a:(l:Rat)<=t->t<h->0<(s:Rat) * t * t+o * t+n) (b:¬ t<l):0<FF Z v t:=by
 obtain ⟨g1,g2⟩:=Yd T
 by_cases c:t<h
 ·have p:=a (by grind) c
  rw [jT T (by grind) (by grind)] at p
  have d0:(0:Rat)<dv:=Rat.intCast_pos.mpr T.2.1
  by_cases z:0<FF Z v t
  ·exact z
  ·have:=Rat.mul_nonneg (Rat.le_of_lt d0) (show 0 <= -FF Z v t by grind)
   grind
 ·by_cases e:t=h
  ·rw [e];exact g2
  ·exact qeg hc hv (show (h:Rat)<t by grind) (by grind)
theorem ZM {Z:List Pt}(hc:Ck Z) {v:Pt}(hv:Ar v) {s o n l h dv:Int}(T:qfw Z v s o n l h dv) {t:Rat}(a:(l:Rat)<=t->t<h->(s:Rat) * t * t+o * t+n<0) (b:t<h):FF Z v t<0:=by
 obtain ⟨g1,g2⟩:=Yd T
 by_cases c:t<l
 ·exact qbt hc hv c g1
 ·have p:=a (by grind) b
  rw [jT T (by grind) (by grind)] at p
  have d0:(0:Rat)<dv:=Rat.intCast_pos.mpr T.2.1
  by_cases z:FF Z v t<0
  ·exact z
  ·have:=Rat.mul_nonneg (Rat.le_of_lt d0) (show 0<=FF Z v t by grind)
   grind
theorem Jy {a b:Rat}(h0:0<=a) (h:a<b):a * a<b * b:=by
 have:=Rat.mul_pos (show 0<b - a by grind) (show 0<b+a by grind)
 grind
theorem Zx {a b:Rat}(h0:b<0) (h:a<b):b * b<a * a:=by
 have:=Rat.mul_pos (show 0<b - a by grind) (show 0 < -(b+a) by grind)
 grind
theorem Zg {Z:List Pt}{v:Pt}{p r q:Int}(C:Crt Z v p r q):∃ s o n l h dv:Int,qfw Z v s o n l h dv ∧
  ((r=0/\0<q/\∀ x:Rat,(s:Rat) * x * x+o * x+n=x * q - p)\/(q≠0/\0<=r/\∀ x:Rat,2 * (q:Rat) * ((s:Rat) * x * x+o * x+n)=(x * q - p) * (x * q - p) - r)):=by
 obtain ⟨s,o,n,l,h,dv,T,C⟩:=C
 refine ⟨s,o,n,l,h,dv,T,?_⟩
 rcases C with ⟨rfl,rfl,rfl,rfl⟩ | ⟨s0,rfl,rfl,rfl⟩
 ·refine .inl ⟨rfl,?_,fun x=>?_⟩
  ·obtain ⟨e1,e2⟩:=Jw T
   have lt':(l:Rat)<h:=Rat.intCast_lt_intCast.mpr T.1.2.2.1
   have z0:((0:Int):Rat)=0:=rfl
   rw [z0] at e1 e2
   refine Rat.intCast_pos.mp ?_
   by_cases z:(0:Rat)<q
   ·exact z
   ·have:=Rat.mul_nonneg (show (0:Rat) <= -q by grind) (show (0:Rat)<=(h:Rat) - l by grind)
    grind
  ·have z0:((0:Int):Rat)=0:=rfl
   rw [z0,Rat.intCast_neg]
   grind
 ·refine .inr ⟨by omega,qh1 T s0,fun x=>?_⟩
  simp only [Rat.intCast_mul,Rat.intCast_sub,Rat.intCast_neg]
  have c2:((2:Int):Rat)=2:=rfl
  have c4:((4:Int):Rat)=4:=rfl
  rw [c2,c4]
  grind
theorem Yn {q P d:Rat}(e:2 * q * P=d):(0<q->((0<d->0<P)/\(d<0->P<0)/\(P<=0->d<=0)/\(0<P->0<d)))/\(q<0->((0<d->P<0)/\(d<0->0<P)/\(P<=0->0<=d)/\(0<P->d<0))):=by
 refine ⟨fun hq=>⟨fun h=>?_,fun h=>?_,fun h=>?_,fun h=>?_⟩,fun hq=>⟨fun h=>?_,fun h=>?_,fun h=>?_,fun h=>?_⟩⟩
 ·by_cases z:0<P
  ·exact z
  ·have:=Rat.mul_nonneg (Rat.le_of_lt hq) (show 0 <= -P by grind);grind
 ·by_cases z:P<0
  ·exact z
  ·have:=Rat.mul_nonneg (Rat.le_of_lt hq) (show 0<=P by grind);grind
 ·have:=Rat.mul_nonneg (Rat.le_of_lt hq) (show 0 <= -P by grind);grind
 ·have:=Rat.mul_pos hq h;grind
 ·by_cases z:P<0
  ·exact z
  ·have:=Rat.mul_nonneg (show 0 <= -q by grind) (show 0<=P by grind);grind
 ·by_cases z:0<P
  ·exact z
  ·have:=Rat.mul_nonneg (show 0 <= -q by grind) (show 0 <= -P by grind);grind
 ·have:=Rat.mul_nonneg (show 0 <= -q by grind) (show 0 <= -P by grind);grind
 ·have:=Rat.mul_pos (show 0 < -q by grind) h;grind
theorem qbE {q:Rat}{x y p:Rat}(h:x<y):(0<q->x * q - p<y * q - p)/\(q<0->y * q - p<x * q - p):=by
 constructor <;> intro hq
 ·have:=Rat.mul_pos hq (show 0<y - x by grind);grind
 ·have:=Rat.mul_pos (show 0 < -q by grind) (show 0<y - x by grind);grind
theorem qgX {q p y:Rat}(q0:q≠0):∃ t,t * q - p=y:=⟨(p+y) / q,by
 have:(p+y) / q * q=p+y:=by grind
 grind⟩
theorem YR {Z:List Pt}(hc:Ck Z) {v:Pt}(hv:Ar v) {p r q:Int}(C:Crt Z v p r q) {ρ e t:Rat}(n0:0<=ρ) (e0:0<e) (h1:ρ * ρ<=r) (h2:(r:Rat)<(ρ+e) * (ρ+e)) (h:(0<q/\ρ+e<=t * q - p)\/(q<0/\t * q - p<ρ)):0<FF Z v t:=by
 obtain ⟨s,o,n,l,hh,dv,T,C⟩:=Zg C
 obtain ⟨k1,k2⟩:=Jw T
 have lt':(l:Rat)<hh:=Rat.intCast_lt_intCast.mpr T.1.2.2.1
 rcases C with ⟨rfl,q0,id0⟩ | ⟨q0,r0,id0⟩
 ·have q0':(0:Rat)<q:=Rat.intCast_pos.mpr q0
  rcases h with ⟨_,h⟩ | ⟨z,_⟩
  ·refine qcL hc hv T (fun _ _=>by rw [id0];grind) fun z=>?_
   have:=(qbE (p:=(p:Rat)) z).1 q0'
   rw [id0] at k1
   grind
  ·omega
 ·have sl:=Yn (id0 l)
  have sh:=Yn (id0 hh)
  have st:=Yn (id0 t)
  rcases h with ⟨hq,h⟩ | ⟨hq,h⟩
  ·have hq':(0:Rat)<q:=Rat.intCast_pos.mpr hq
   have c2:(r:Rat)<(t * q - p) * (t * q - p):=by
    by_cases z:ρ+e=t * q - p
    ·rw [<- z];exact h2
    ·have:=Jy (show 0<=ρ+e by grind) (show ρ+e<t * q - p by grind)
     grind
   refine qcL hc hv T (fun _ _=>(st.1 hq').1 (by grind)) fun z=>?_
   have a:=(qbE (p:=(p:Rat)) z).1 hq'
   have b:=Jy (show 0<=t * q - p by grind) a
   have:=(sl.1 hq').2.2.1 k1
   grind
  ·have hq':(q:Rat)<0:=Rat.intCast_lt_intCast.mpr hq
   have b2:=(sh.2 hq').2.2.2 k2
   have a2:=(sl.2 hq').2.2.1 k1
   refine qcL hc hv T (fun _ th=>(st.2 hq').2.1 ?_) fun z=>?_
   ·by_cases c:0<=t * q - p
    ·have:=Jy c h
     grind
    ·have a:=(qbE (p:=(p:Rat)) th).2 hq'
     have:=Zx (show t * q - p<0 by grind) a
     grind
   ·have a:=(qbE (p:=(p:Rat)) z).2 hq'
    have b:=(qbE (p:=(p:Rat)) lt').2 hq'
    by_cases c:0<=(l:Rat) * q - p
    ·have:=Jy c (show (l:Rat) * q - p<ρ by grind)
     grind
    ·have:=Zx (show (l:Rat) * q - p<0 by grind) b
     grind
theorem YS {Z:List Pt}(hc:Ck Z) {v:Pt}(hv:Ar v) {p r q:Int}(C:Crt Z v p r q) {ρ e t:Rat}(n0:0<=ρ) (e0:0<e) (h1:ρ * ρ<=r) (h2:(r:Rat)<(ρ+e) * (ρ+e)) (h:(0<q/\t * q - p<ρ)\/(q<0/\ρ+e<=t * q - p)):FF Z v t<0:=by
 obtain ⟨s,o,n,l,hh,dv,T,C⟩:=Zg C
 obtain ⟨k1,k2⟩:=Jw T
 have lt':(l:Rat)<hh:=Rat.intCast_lt_intCast.mpr T.1.2.2.1
 rcases C with ⟨rfl,q0,id0⟩ | ⟨q0,r0,id0⟩
 ·have q0':(0:Rat)<q:=Rat.intCast_pos.mpr q0
  have z0:((0:Int):Rat)=0:=rfl
  rcases h with ⟨_,h⟩ | ⟨z,_⟩
  ·have rz:ρ=0:=by
    by_cases z:ρ=0
    ·exact z
    ·have:=Rat.mul_pos (show 0<ρ by grind) (show 0<ρ by grind)
     grind
   refine ZM hc hv T (fun _ _=>by rw [id0];grind) ?_
   by_cases z:t<hh
   ·exact z
   ·rw [id0] at k2
    by_cases y:t=hh
    ·rw [y] at h;grind
    ·have:=(qbE (p:=(p:Rat)) (show (hh:Rat)<t by grind)).1 q0'
     grind
  ·omega
 ·have sl:=Yn (id0 l)
  have sh:=Yn (id0 hh)
  have st:=Yn (id0 t)
  rcases h with ⟨hq,h⟩ | ⟨hq,h⟩
  ·have hq':(0:Rat)<q:=Rat.intCast_pos.mpr hq
   have a2:=(sl.1 hq').2.2.1 k1
   have b2:=(sh.1 hq').2.2.2 k2
   have ab:=(qbE (p:=(p:Rat)) lt').1 hq'
   have th:t<hh:=by
    by_cases z:t<hh
    ·exact z
    ·have bt:(hh:Rat) * q - p<=t * q - p:=by
      by_cases y:t=hh
      ·rw [y];exact Rat.le_refl
      ·have:=(qbE (p:=(p:Rat)) (show (hh:Rat)<t by grind)).1 hq'
       grind
     by_cases c:0<=(hh:Rat) * q - p
     ·have:=Jy c (show (hh:Rat) * q - p<ρ by grind)
      grind
     ·have:=Zx (show (hh:Rat) * q - p<0 by grind) ab
      grind
   by_cases tl:t<l
   ·exact ZM hc hv T (fun z _=>by grind) th
   have at':(l:Rat) * q - p<=t * q - p:=by
    by_cases y:t=l
    ·rw [y];exact Rat.le_refl
    ·have:=(qbE (p:=(p:Rat)) (show (l:Rat)<t by grind)).1 hq'
     grind
   have cr:(t * q - p) * (t * q - p)<=r:=by
    by_cases c:0<=t * q - p
    ·have:=Jy c h
     grind
    ·by_cases y:(l:Rat) * q - p=t * q - p
     ·rw [<- y];grind
     ·have:=Zx (show t * q - p<0 by grind) (show (l:Rat) * q - p<t * q - p by grind)
      grind
   by_cases ce:(t * q - p) * (t * q - p)=r
   ·-- the lower root: then it would not rise
    exfalso
    have cn:t * q - p<0:=by
     by_cases c:0<=t * q - p
     ·have:=Jy c h
      grind
     ·grind
    obtain ⟨t',et⟩:∃ t':Rat,t' * q - p=(t * q - p) / 2:=qgX (Rat.ne_of_gt hq')
    have lt2:t<t':=by
     by_cases z:t<t'
     ·exact z
     ·by_cases y:t=t'
      ·rw [<- y] at et;grind
      ·have:=(qbE (p:=(p:Rat)) (show t'<t by grind)).1 hq'
       grind
    have t'h:t'<hh:=by
     by_cases z:t'<hh
     ·exact z
     ·have x1:=(qbE (p:=(p:Rat)) th).1 hq'
      have x2:(hh:Rat) * q - p<=t' * q - p:=by
       by_cases y:t'=hh
       ·rw [y];exact Rat.le_refl
       ·have:=(qbE (p:=(p:Rat)) (show (hh:Rat)<t' by grind)).1 hq'
        grind
      have:=Zx (show (hh:Rat) * q - p<0 by grind) x1
      grind
    have st':=Yn (id0 t')
    have c3:(t' * q - p) * (t' * q - p)<r:=by
     rw [et,<- ce]
     have:=Rat.mul_pos (show 0 < -(t * q - p) by grind) (show 0 < -(t * q - p) by grind)
     grind
    have ng:=ZM hc hv T (fun _ _=>(st'.1 hq').2.1 (by grind)) t'h
    have pz:(s:Rat) * t * t+o * t+n=0:=by
     have:=id0 t
     rw [ce] at this
     have:2 * (q:Rat) * ((s:Rat) * t * t+o * t+n)=0:=by grind
     rcases Rat.mul_eq_zero.mp this with y | y
     ·grind
     ·exact y
    rw [jT T (by grind) (by grind)] at pz
    have d0:(0:Rat)<dv:=Rat.intCast_pos.mpr T.2.1
    have fz:FF Z v t=0:=by
     rcases Rat.mul_eq_zero.mp pz with y | y
     ·grind
     ·exact y
    have:=qeg hc hv lt2 (by rw [fz];exact Rat.le_refl)
    grind
   ·exact ZM hc hv T (fun _ _=>(st.1 hq').2.1 (by grind)) th
  ·have hq':(q:Rat)<0:=Rat.intCast_lt_intCast.mpr hq
   have b2:=(sh.2 hq').2.2.2 k2
   have c2:(r:Rat)<(t * q - p) * (t * q - p):=by
    by_cases z:ρ+e=t * q - p
    ·rw [<- z];exact h2
    ·have:=Jy (show 0<=ρ+e by grind) (show ρ+e<t * q - p by grind)
     grind
   refine ZM hc hv T (fun _ _=>(st.2 hq').1 (by grind)) ?_
   by_cases z:t<hh
   ·exact z
   ·by_cases y:t=hh
    ·rw [y] at c2;grind
    ·have a:=(qbE (p:=(p:Rat)) (show (hh:Rat)<t by grind)).2 hq'
     have:=Jy (show 0<=t * q - p by grind) a
     grind
end
section
variable {P:Program}{w:World}{K:W.Frag}{mg:Str->Option Value}{base:Heap}{CX:CXT}
theorem qhr {Z:List Pt}(hc:Ck Z) {v:Pt}(hv:Ar v) {p r q:Int}(C:Crt Z v p r q) {t:Rat}(f:0<FF Z v t):∃ t0,t0<t/\0<FF Z v t0:=by
 obtain ⟨s,o,n,l,h,dv,T,_⟩:=C
 obtain ⟨g1,g2⟩:=Yd T
 have d0:(0:Rat)<dv:=Rat.intCast_pos.mpr T.2.1
 by_cases c:(h:Rat)<t
 ·exact ⟨h,c,g2⟩
 have lt:(l:Rat)<t:=by
  by_cases z:(l:Rat)<t
  ·exact z
  ·by_cases y:t=l
   ·rw [y] at f;grind
   ·have:=qbt hc hv (show t<(l:Rat) by grind) g1
    grind
 have pt:=jT T (t:=t) (by grind) (by grind)
 have p0:=Rat.mul_pos d0 f
 obtain ⟨P,eP⟩:∃ P:Rat,P=(s:Rat) * t * t+o * t+n:=⟨_,rfl⟩
 have P0:0<P:=by rw [eP,pt];exact p0
 obtain ⟨M,eM⟩:∃ M:Rat,M=(2 * (s:Rat) * t+o) * (2 * (s:Rat) * t+o)+1+((s:Rat) * s+1) * (t - l):=⟨_,rfl⟩
 have s2:=qit (2 * (s:Rat) * t+o)
 have s3:=qit (s:Rat)
 have sl:∀ x:Rat,x<=x * x+1:=fun x=>by
  have:=qit (x - 1 / 2)
  grind
 have m2:=Rat.mul_nonneg (show (0:Rat)<=(s:Rat) * s+1 by grind) (show (0:Rat)<=t - l by grind)
 have M0:0<M:=by rw [eM];grind
 -- a step of δ loses no more than δ M
 have key:∀ δ:Rat,0<δ->δ<=t - l->P - δ * M<=(s:Rat) * (t - δ) * (t - δ)+o * (t - δ)+n:=fun δ a b=>by
  have x1:=sl (2 * (s:Rat) * t+o)
  have x2:=sl (-(s:Rat))
  have x3:=Rat.mul_nonneg (show (0:Rat)<=(s:Rat) * s+1+s by grind) (Rat.le_of_lt a)
  have x4:=Rat.mul_nonneg (show (0:Rat)<=(s:Rat) * s+1 by grind) (show (0:Rat)<=t - l - δ by grind)
  have x5:2 * (s:Rat) * t+o - s * δ<=M:=by rw [eM];grind
  have x6:=Rat.mul_nonneg (Rat.le_of_lt a) (show (0:Rat)<=M - (2 * (s:Rat) * t+o - s * δ) by grind)
  rw [eP]
  grind
 have fin:∀ δ:Rat,0<δ->δ<=t - l->δ * M<=P / 2->∃ t0,t0<t/\0<FF Z v t0:=fun δ a b c2=>by
  refine ⟨t - δ,by grind,?_⟩
  have k:=key δ a b
  rw [jT T (t:=t - δ) (by grind) (by grind)] at k
  by_cases z:0<FF Z v (t - δ)
  ·exact z
  ·have:=Rat.mul_nonneg (Rat.le_of_lt d0) (show 0 <= -FF Z v (t - δ) by grind)
   grind
 by_cases z:(t - l) * M<=P / 2
 ·exact fin (t - l) (by grind) Rat.le_refl z
 ·have e:P / (2 * M) * M=P / 2:=by grind
  have pos:0<P / (2 * M):=by
   by_cases y:0<P / (2 * M)
   ·exact y
   ·have:=Rat.mul_nonneg (show 0 <= -(P / (2 * M)) by grind) (Rat.le_of_lt M0)
    grind
  refine fin (P / (2 * M)) pos ?_ (by rw [e];exact Rat.le_refl)
  by_cases y:P / (2 * M)<=t - l
  ·exact y
  ·have:=Rat.mul_pos (show 0<P / (2 * M) - (t - l) by grind) M0
   grind
def LtC (Z1 Z2:List Pt) (v:Pt):Prop:=∃ t:Rat,0<FF Z1 v t/\FF Z2 v t<0
def LtW (Z1 Z2:List Pt) (v:Pt):Prop:=∃ t:Rat,0<FF Z1 v t/\FF Z2 v t<=0
def Ord (Z1 Z2:List Pt) (v:Pt) (k:Int):Prop:=(k = -1/\LtC Z1 Z2 v)\/(k=1/\LtC Z2 Z1 v)\/(k=0/\¬ LtW Z1 Z2 v/\¬ LtW Z2 Z1 v)
theorem qe6 {X c e:Rat}(c0:0<c) (h:c * e<=X * c):e<=X:=by
 by_cases z:e<=X
 ·exact z
 ·have:=Rat.mul_pos c0 (show 0<e - X by grind)
  grind
theorem qa9 {X c:Rat}(c0:0<c) (h:X * c<0):X<0:=by
 by_cases z:X<0
 ·exact z
 ·have:=Rat.mul_nonneg (show 0<=X by grind) (Rat.le_of_lt c0)
  grind
theorem qbN {Z:List Pt}{v:Pt}{p r q:Int}(C:Crt Z v p r q):q≠0/\0<=r:=by
 obtain ⟨s,o,n,l,h,dv,T,C⟩:=Zg C
 rcases C with ⟨rfl,q0,_⟩ | ⟨q0,r0,_⟩
 ·exact ⟨by omega,by decide⟩
 ·exact ⟨q0,r0⟩
theorem qeZ {Z1 Z2:List Pt}(c1:Ck Z1) (c2:Ck Z2) {v:Pt}(hv:Ar v) {p r q g s h:Int}(C1:Crt Z1 v p r q) (C2:Crt Z2 v g s h) {ρ σ:j4}(R1:Rt r ρ) (R2:Rt s σ)
  (H:(0<q * h/\J1 (fun n=>-(((p * h - g * q:Int):Rat)+h * ρ n+((-q:Int):Rat) * σ n)))\/(q * h<0/\J1 (fun n=>((p * h - g * q:Int):Rat)+h * ρ n+((-q:Int):Rat) * σ n))):LtC Z1 Z2 v:=by
 obtain ⟨q0,_⟩:=qbN C1
 obtain ⟨h0,_⟩:=qbN C2
 have q0':=YA q0
 have h0':=YA h0
 obtain ⟨ε,e0,N,hN⟩:∃ ε,0<ε/\∃ N,∀ n,N<=n->(0<q * h/\ε <= -(((p * h - g * q:Int):Rat)+h * ρ n+((-q:Int):Rat) * σ n))\/(q * h<0/\ε<=((p * h - g * q:Int):Rat)+h * ρ n+((-q:Int):Rat) * σ n):=by
  rcases H with ⟨a,ε,e0,N,hN⟩ | ⟨a,ε,e0,N,hN⟩
  ·exact ⟨ε,e0,N,fun n hn=>.inl ⟨a,hN n hn⟩⟩
  ·exact ⟨ε,e0,N,fun n hn=>.inr ⟨a,hN n hn⟩⟩
 obtain ⟨N1,k1⟩:=jk (2 * ((h:Rat) * h+1)) e0
 obtain ⟨N2,k2⟩:=jk (2 * ((q:Rat) * q+1)) e0
 have hn:=hN (N+N1+N2) (by omega)
 have k1:=k1 (N+N1+N2) (by omega)
 have k2:=k2 (N+N1+N2) (by omega)
 have e1:=y4 (N+N1+N2)
 have a1:=R1.nn (N+N1+N2)
 have a2:=R1.le (N+N1+N2)
 have a3:=R1.lt (N+N1+N2)
 have b1:=R2.nn (N+N1+N2)
 have b2:=R2.le (N+N1+N2)
 have b3:=R2.lt (N+N1+N2)
 generalize ρ (N+N1+N2)=x at *
 generalize σ (N+N1+N2)=y at *
 generalize yO (N+N1+N2)=e at *
 have sl:∀ z:Rat,z<=z * z+1/\-z<=z * z+1:=fun z=>by
  have:=qit (z - 1 / 2)
  have:=qit (z+1 / 2)
  constructor <;> grind
 have m1:=Rat.mul_nonneg (Rat.le_of_lt e1) (show (0:Rat)<=(h:Rat) * h+1 - h by have:=(sl h).1;grind)
 have m2:=Rat.mul_nonneg (Rat.le_of_lt e1) (show (0:Rat)<=(h:Rat) * h+1+h by have:=(sl h).2;grind)
 have m3:=Rat.mul_nonneg (Rat.le_of_lt e1) (show (0:Rat)<=(q:Rat) * q+1 - q by have:=(sl q).1;grind)
 have m4:=Rat.mul_nonneg (Rat.le_of_lt e1) (show (0:Rat)<=(q:Rat) * q+1+q by have:=(sl q).2;grind)
 obtain ⟨E,eE⟩:∃ E:Rat,E=((p * h - g * q:Int):Rat)+h * x+((-q:Int):Rat) * y:=⟨_,rfl⟩
 rw [<- eE] at hn
 simp only [Rat.intCast_sub,Rat.intCast_mul,Rat.intCast_neg] at eE
 obtain ⟨t,et⟩:∃ t:Rat,t * (2 * q * h)=((p:Rat)+x) * h+((g:Rat)+y) * q:=⟨(((p:Rat)+x) * h+((g:Rat)+y) * q) / (2 * q * h),by
  have:(2:Rat) * q * h≠0:=by
   intro z
   rcases Rat.mul_eq_zero.mp z with y | y
   ·grind
   ·exact h0' y
  grind⟩
 have X:(t * q - p - x) * (2 * h) = -E:=by rw [eE];grind
 have Y:(t * h - g - y) * (2 * q)=E:=by rw [eE];grind
 rcases jg q0 with qs | qs <;> rcases jg h0 with hs | hs
 ·have qs':(q:Rat)<0:=Rat.intCast_lt_intCast.mpr qs
  have hs':(h:Rat)<0:=Rat.intCast_lt_intCast.mpr hs
  have qh:0<q * h:=by have:=yF (a:=-q) (b:=-h) (by omega) (by omega);rwa [Int.neg_mul_neg] at this
  rcases hn with ⟨_,hn⟩ | ⟨z,_⟩
  ·refine ⟨t,YR c1 hv C1 a1 e1 a2 a3 (.inr ⟨qs,?_⟩),YS c2 hv C2 b1 e1 b2 b3 (.inr ⟨hs,?_⟩)⟩
   ·have:=qa9 (X:=t * q - p - x) (c:=-(2 * (h:Rat))) (by grind) (by grind)
    grind
   ·have:=qe6 (X:=t * h - g - y) (c:=-(2 * (q:Rat))) (e:=e) (by grind) (by grind)
    grind
  ·omega
 ·have qs':(q:Rat)<0:=Rat.intCast_lt_intCast.mpr qs
  have hs':(0:Rat)<h:=Rat.intCast_pos.mpr hs
  have qh:q * h<0:=by have:=yF (a:=-q) (b:=h) (by omega) (by omega);rw [Int.neg_mul] at this;omega
  rcases hn with ⟨z,_⟩ | ⟨_,hn⟩
  ·omega
  ·refine ⟨t,YR c1 hv C1 a1 e1 a2 a3 (.inr ⟨qs,?_⟩),YS c2 hv C2 b1 e1 b2 b3 (.inl ⟨hs,?_⟩)⟩
   ·have:=qa9 (X:=t * q - p - x) (c:=2 * (h:Rat)) (by grind) (by grind)
    grind
   ·have:=qa9 (X:=t * h - g - y) (c:=-(2 * (q:Rat))) (by grind) (by grind)
    grind
 ·have qs':(0:Rat)<q:=Rat.intCast_pos.mpr qs
  have hs':(h:Rat)<0:=Rat.intCast_lt_intCast.mpr hs
  have qh:q * h<0:=by have:=yF (a:=q) (b:=-h) (by omega) (by omega);rw [Int.mul_neg] at this;omega
  rcases hn with ⟨z,_⟩ | ⟨_,hn⟩
  ·omega
  ·refine ⟨t,YR c1 hv C1 a1 e1 a2 a3 (.inl ⟨qs,?_⟩),YS c2 hv C2 b1 e1 b2 b3 (.inr ⟨hs,?_⟩)⟩
   ·have:=qe6 (X:=t * q - p - x) (c:=-(2 * (h:Rat))) (e:=e) (by grind) (by grind)
    grind
   ·have:=qe6 (X:=t * h - g - y) (c:=2 * (q:Rat)) (e:=e) (by grind) (by grind)
    grind
 ·have qs':(0:Rat)<q:=Rat.intCast_pos.mpr qs
  have hs':(0:Rat)<h:=Rat.intCast_pos.mpr hs
  have qh:0<q * h:=yF qs hs
  rcases hn with ⟨_,hn⟩ | ⟨z,_⟩
  ·refine ⟨t,YR c1 hv C1 a1 e1 a2 a3 (.inl ⟨qs,?_⟩),YS c2 hv C2 b1 e1 b2 b3 (.inl ⟨hs,?_⟩)⟩
   ·have:=qe6 (X:=t * q - p - x) (c:=2 * (h:Rat)) (e:=e) (by grind) (by grind)
    grind
   ·have:=qa9 (X:=t * h - g - y) (c:=2 * (q:Rat)) (by grind) (by grind)
    grind
  ·omega
theorem not_lt {Z1 Z2:List Pt}(c1:Ck Z1) (c2:Ck Z2) {v:Pt}(hv:Ar v) {p r q g s h:Int}(C1:Crt Z1 v p r q) (C2:Crt Z2 v g s h) {ρ σ:j4}(R1:Rt r ρ) (R2:Rt s σ)
  (H:YC (fun n=>((p * h - g * q:Int):Rat)+h * ρ n+((-q:Int):Rat) * σ n)):¬ LtW Z1 Z2 v:=by
 rintro ⟨t,f1,f2⟩
 obtain ⟨t0,lt0,f0⟩:=qhr c1 hv C1 f1
 obtain ⟨q0,_⟩:=qbN C1
 obtain ⟨h0,_⟩:=qbN C2
 obtain ⟨D,d0,hD⟩:=H
 -- what stands between
 obtain ⟨G,eG⟩:∃ G:Rat,G=t - t0:=⟨_,rfl⟩
 have G0:0<G:=by grind
 have hh:∀ n,(((p * h - g * q:Int):Rat)+h * ρ n+((-q:Int):Rat) * σ n<=D * yO n/\-(D * yO n)<=((p * h - g * q:Int):Rat)+h * ρ n+((-q:Int):Rat) * σ n)/\(0<q->ρ n<=t0 * q - p)/\(q<0->t0 * q - p<ρ n+yO n)/\(0<h->t * h - g<σ n+yO n)/\(h<0->σ n<=t * h - g):=fun n=>by
  refine ⟨hD n,fun z=>?_,fun z=>?_,fun z=>?_,fun z=>?_⟩
  ·by_cases y:ρ n<=t0 * q - p
   ·exact y
   ·have:=YS (t:=t0) c1 hv C1 (R1.nn n) (y4 n) (R1.le n) (R1.lt n) (.inl ⟨z,by grind⟩)
    grind
  ·by_cases y:t0 * q - p<ρ n+yO n
   ·exact y
   ·have:=YS (t:=t0) c1 hv C1 (R1.nn n) (y4 n) (R1.le n) (R1.lt n) (.inr ⟨z,by grind⟩)
    grind
  ·by_cases y:t * h - g<σ n+yO n
   ·exact y
   ·have:=YR (t:=t) c2 hv C2 (R2.nn n) (y4 n) (R2.le n) (R2.lt n) (.inl ⟨z,by grind⟩)
    grind
  ·by_cases y:σ n<=t * h - g
   ·exact y
   ·have:=YR (t:=t) c2 hv C2 (R2.nn n) (y4 n) (R2.le n) (R2.lt n) (.inr ⟨z,by grind⟩)
    grind
 rcases jg q0 with qs | qs <;> rcases jg h0 with hs | hs
 ·have qs':(q:Rat)<0:=Rat.intCast_lt_intCast.mpr qs
  have hs':(h:Rat)<0:=Rat.intCast_lt_intCast.mpr hs
  have w:=Rat.mul_pos (Rat.mul_pos (show (0:Rat) < -q by grind) (show (0:Rat) < -h by grind)) G0
  obtain ⟨N,k⟩:=jk (D - h) (δ:=(-(q:Rat)) * (-h) * G / 2) (by grind)
  have k:=k N (qi _)
  obtain ⟨⟨_,h2⟩,_,h3,_,h4⟩:=hh N
  have h3:=Rat.mul_nonneg (show (0:Rat) <= -h by grind) (show (0:Rat)<=ρ N+yO N - (t0 * q - p) by have:=h3 qs;grind)
  have h4:=Rat.mul_nonneg (show (0:Rat) <= -q by grind) (show (0:Rat)<=t * h - g - σ N by have:=h4 hs;grind)
  simp only [Rat.intCast_sub,Rat.intCast_mul,Rat.intCast_neg] at h2
  rw [eG] at w k
  grind
 ·have qs':(q:Rat)<0:=Rat.intCast_lt_intCast.mpr qs
  have hs':(0:Rat)<h:=Rat.intCast_pos.mpr hs
  have w:=Rat.mul_pos (Rat.mul_pos (show (0:Rat) < -q by grind) hs') G0
  obtain ⟨N,k⟩:=jk (D+h - q) (δ:=(-(q:Rat)) * h * G / 2) (by grind)
  have k:=k N (qi _)
  obtain ⟨⟨h2,_⟩,_,h3,h4,_⟩:=hh N
  have h3:=Rat.mul_nonneg (Rat.le_of_lt hs') (show (0:Rat)<=ρ N+yO N - (t0 * q - p) by have:=h3 qs;grind)
  have h4:=Rat.mul_nonneg (show (0:Rat) <= -q by grind) (show (0:Rat)<=σ N+yO N - (t * h - g) by have:=h4 hs;grind)
  simp only [Rat.intCast_sub,Rat.intCast_mul,Rat.intCast_neg] at h2
  rw [eG] at w k
  grind
 ·have qs':(0:Rat)<q:=Rat.intCast_pos.mpr qs
  have hs':(h:Rat)<0:=Rat.intCast_lt_intCast.mpr hs
  have w:=Rat.mul_pos (Rat.mul_pos qs' (show (0:Rat) < -h by grind)) G0
  obtain ⟨N,k⟩:=jk D (δ:=(q:Rat) * (-h) * G / 2) (by grind)
  have k:=k N (qi _)
  obtain ⟨⟨h2,_⟩,h3,_,_,h4⟩:=hh N
  have h3:=Rat.mul_nonneg (show (0:Rat) <= -h by grind) (show (0:Rat)<=t0 * q - p - ρ N by have:=h3 qs;grind)
  have h4:=Rat.mul_nonneg (Rat.le_of_lt qs') (show (0:Rat)<=t * h - g - σ N by have:=h4 hs;grind)
  simp only [Rat.intCast_sub,Rat.intCast_mul,Rat.intCast_neg] at h2
  rw [eG] at w k
  grind
 ·have qs':(0:Rat)<q:=Rat.intCast_pos.mpr qs
  have hs':(0:Rat)<h:=Rat.intCast_pos.mpr hs
  have w:=Rat.mul_pos (Rat.mul_pos qs' hs') G0
  obtain ⟨N,k⟩:=jk (D+q) (δ:=(q:Rat) * h * G / 2) (by grind)
  have k:=k N (qi _)
  obtain ⟨⟨_,h2⟩,h3,_,h4,_⟩:=hh N
  have h3:=Rat.mul_nonneg (Rat.le_of_lt hs') (show (0:Rat)<=t0 * q - p - ρ N by have:=h3 qs;grind)
  have h4:=Rat.mul_nonneg (Rat.le_of_lt qs') (show (0:Rat)<=σ N+yO N - (t * h - g) by have:=h4 hs;grind)
  simp only [Rat.intCast_sub,Rat.intCast_mul,Rat.intCast_neg] at h2
  rw [eG] at w k
  grind
end
section
variable {P:Program}{w:World}{K:W.Frag}{mg:Str->Option Value}{base:Heap}{CX:CXT}
theorem qgy {Z:List Pt}{v:Pt}{p r q:Int}(C:Crt Z v p r q):Sz 17010 r/\Sz 8510 p/\Sz 8510 q:=by
 obtain ⟨s,o,n,l,h,dv,T,C⟩:=C
 have two:Sz 3 (2:Int):=by unfold Sz;decide
 have four:Sz 3 (4:Int):=by unfold Sz;decide
 have ss:=T.2.2.1
 have so:=T.2.2.2.1
 have sn:=T.2.2.2.2.1
 rcases C with ⟨rfl,rfl,rfl,rfl⟩ | ⟨s0,rfl,rfl,rfl⟩
 ·exact ⟨Sz.mono (j:=1) (by decide) (by unfold Sz;decide),sn.neg.mono (by decide),so.mono (by decide)⟩
 ·refine ⟨(Sz.sub (k:=17005) ((so.mul so).mono (by decide)) (((four.mul ss).mul sn).mono (by decide))).mono (by decide),so.neg.mono (by decide),(two.mul ss).mono (by decide)⟩
theorem qc4 {Z1 Z2:List Pt}(c1:Ck Z1) (c2:Ck Z2) {v:Pt}(hv:Ar v) (a:LtC Z1 Z2 v) (b:LtW Z2 Z1 v):False:=by
 obtain ⟨t,f1,f2⟩:=a
 obtain ⟨t',g2,g1⟩:=b
 have x1:t'<t:=by
  by_cases z:t'<t
  ·exact z
  ·by_cases y:t=t'
   ·rw [y] at f1;grind
   ·have:=qbt c1 hv (show t<t' by grind) g1
    grind
 have:=qeg c2 hv x1 (by grind)
 grind
theorem qeY {Z1 Z2:List Pt}{v:Pt}(a:LtC Z1 Z2 v):LtW Z1 Z2 v:=by
 obtain ⟨t,f1,f2⟩:=a
 exact ⟨t,f1,by grind⟩
theorem qef {Z:List Pt}(h:0<Z.length) (v:Pt) (t:Rat):FF Z (-v.1,-v.2) (-t) = -FF Z v t:=by
 have b:=Zk (Z:=Z) h v t
 have e:vl' (-v.1,-v.2) (-v.1,-v.2)=vl' v v:=by
  unfold vl'
  dsimp only
  rw [Int.neg_mul_neg,Int.neg_mul_neg]
 unfold FF
 rw [e]
 grind
theorem qjs {Z1 Z2:List Pt}(c1:Ck Z1) (c2:Ck Z2) {v:Pt}(hv:Ar v) {p r q g s h:Int}(C1:Crt Z1 v p r q) (C2:Crt Z2 v g s h):Ord Z1 Z2 v ((q * h).sign * trs (p * h - g * q) h r (-q) s):=by
 obtain ⟨q0,r0⟩:=qbN C1
 obtain ⟨h0,s0⟩:=qbN C2
 obtain ⟨ρ,R1⟩:=qiT r0
 obtain ⟨σ,R2⟩:=qiT s0
 have S:=qiD R1 R2 r0 s0 (p * h - g * q) h (-q)
 generalize trs (p * h - g * q) h r (-q) s=k at S
 have S:SSg (fun n=>((p * h - g * q:Int):Rat)+h * ρ n+((-q:Int):Rat) * σ n) k:=S
 have qh:q * h≠0:=Int.mul_ne_zero q0 h0
 have swap:(fun n=>((g * q - p * h:Int):Rat)+q * σ n+((-h:Int):Rat) * ρ n)=fun n=>-(((p * h - g * q:Int):Rat)+h * ρ n+((-q:Int):Rat) * σ n):=funext fun n=>by
  simp only [Rat.intCast_sub,Rat.intCast_mul,Rat.intCast_neg]
  grind
 have neg2:(fun n=>-(((g * q - p * h:Int):Rat)+q * σ n+((-h:Int):Rat) * ρ n))=fun n=>((p * h - g * q:Int):Rat)+h * ρ n+((-q:Int):Rat) * σ n:=funext fun n=>by
  simp only [Rat.intCast_sub,Rat.intCast_mul,Rat.intCast_neg]
  grind
 rcases S with ⟨rfl,S'⟩ | ⟨rfl,S'⟩ | ⟨rfl,S'⟩
 ·rcases jg qh with z | z
  ·rw [y6 z]
   exact .inl ⟨rfl,qeZ c1 c2 hv C1 C2 R1 R2 (.inr ⟨z,S'⟩)⟩
  ·rw [jS z]
   refine .inr (.inl ⟨rfl,qeZ c2 c1 hv C2 C1 R2 R1 (.inl ⟨by rw [Int.mul_comm];exact z,?_⟩)⟩)
   rw [neg2]
   exact S'
 ·rw [Int.mul_zero]
  refine .inr (.inr ⟨rfl,not_lt c1 c2 hv C1 C2 R1 R2 S',not_lt c2 c1 hv C2 C1 R2 R1 ?_⟩)
  rw [swap]
  exact S'.neg
 ·rcases jg qh with z | z
  ·rw [y6 z]
   refine .inr (.inl ⟨rfl,qeZ c2 c1 hv C2 C1 R2 R1 (.inr ⟨by rw [Int.mul_comm];exact z,?_⟩)⟩)
   rw [swap]
   exact S'
  ·rw [jS z]
   exact .inl ⟨rfl,qeZ c1 c2 hv C1 C2 R1 R2 (.inl ⟨z,S'⟩)⟩
def qkR:SpD:=fun es μ Q=>∃ n:Int,es=[.d (.int n)]/\Q (.d (.int n.sign)) μ
theorem qfN:FnScope ["number"] ["number"] (qp qgW):=⟨rfl,rfl,rfl,by decide +kernel,rfl,by decide +kernel,by decide +kernel⟩
theorem qjD {f:Addr}{fd:FuncData}(F:Fun K "sign" "sign" qgW f fd)  : FnOk P w K mg base CX 1 f fd ["number"] (qV K qkR):=by
 refine F.okD qfN (fun es μ Q hq0=>by obtain ⟨n,e,_⟩:=hq0;subst e;rfl) (fun cdv A outer s H E es μ Q hr hq0=>?_)
 obtain ⟨n,e,k⟩:=hq0
 subst e
 have nd:=qfN.nd
 refine ⟨_,(qq (jd (q9 Zd (dv 0) qt (qP _)) (qC (qN qt)) yz)
   (qq (jd (q9 Yb (dv 0) qt (qP _)) (qC (qN (Z4 jm qt))) yz)
   (qC (qN qt)))),?_⟩
 refine jv (fun c=>?_) (fun c=>jv (fun c2=>?_) (fun c2=>?_))
 ·have c:0<n:=qr c
  rw [jS c] at k
  exact k
 ·have c2:n<0:=qr c2
  rw [y6 c2] at k
  exact k
 ·have c:¬ 0<n:=fun z=>c (qu z)
  have c2:¬ n<0:=fun z=>c2 (qu z)
  have:n=0:=by omega
  subst this
  exact k
theorem qbz {k:Nat}{x:Int}(h:Sz k x):Sz k ((x.natAbs:Nat):Int):=by
 unfold Sz at *
 rw [Int.natAbs_natCast]
 exact h
def sRs:SpD:=fun es μ Q=>∃ x y r:Int,es=[.d (.int x),.d (.int y),.d (.int r)]/\Sz 40000 x/\Sz 40000 y/\Sz 20000 r/\Q (.d (.int (rsg x y r))) μ
theorem qfP:FnScope ["x", "y", "r"] ["x", "y", "r"] (qp JM):=⟨rfl,rfl,rfl,by decide +kernel,rfl,by decide +kernel,by decide +kernel⟩
theorem qjF {f:Addr}{fd:FuncData}(F:Fun K "root_sign" "root_sign" JM f fd) (T:Txt mg) (hX:NoX CX) (Osign:Own P w K mg base CX 1 "sign" ["number"] (qV K qkR)):FnOk P w K mg base CX 2 f fd ["x", "y", "r"] (qV K sRs):=by
 refine F.okD qfP (fun es μ Q hq0=>by obtain ⟨x,y,r,e,_⟩:=hq0;subst e;rfl) (fun cdv A outer s H E es μ Q hr hq0=>?_)
 obtain ⟨x,y,r,e,sx,sy,sr,k⟩:=hq0
 subst e
 have nd:=qfP.nd
 refine ⟨_,(qC (qN (qQ Osign hX (hr.mono (by decide)) rfl (qa (qZ yw (qZ qG (dv 0) (qO JD (by rfl) T.abs_ JF (qa (dv 0) qd))) (qZ qG (qZ qG (dv 1) (qO JD (by rfl) T.abs_ JF (qa (dv 1) qd))) (dv 2))) qd)))),?_⟩
 exact ⟨jq sx (qbz sx) (by decide),jq sy (qbz sy) (by decide),jq (sy.mul (qbz sy)) sr (by decide),_,rfl,k⟩
theorem qan (x:Int):Sz 1 x.sign:=by
 unfold Sz
 rcases Int.lt_trichotomy x 0 with h | h | h
 ·rw [y6 h];decide
 ·subst h;decide
 ·rw [jS h];decide
def sTrs:SpD:=fun es μ Q=>∃ x y r z s:Int,es=[.d (.int x),.d (.int y),.d (.int r),.d (.int z),.d (.int s)]/\Sz 17100 x/\Sz 8600 y/\Sz 17100 r/\Sz 8600 z/\Sz 17100 s/\Q (.d (.int (trs x y r z s))) μ
theorem qfI:FnScope ["x", "y", "r", "z", "s", "ahead"] ["x", "y", "r", "z", "s"] (qp jz):=⟨rfl,rfl,rfl,by decide +kernel,rfl,by decide +kernel,by decide +kernel⟩
theorem qjy {f:Addr}{fd:FuncData}(F:Fun K "two_roots_sign" "two_roots_sign" jz f fd) (T:Txt mg) (hX:NoX CX) (Oroot_sign:Own P w K mg base CX 2 "root_sign" ["x", "y", "r"] (qV K sRs)):FnOk P w K mg base CX 3 f fd ["x", "y", "r", "z", "s"] (qV K sTrs):=by
 refine F.okD qfI (fun es μ Q hq0=>by obtain ⟨x,y,r,z,s,e,_⟩:=hq0;subst e;rfl) (fun cdv A outer s' H E es μ Q hr hq0=>?_)
 obtain ⟨x,y,r,z,s,e,sx,sy,sr,sz,ss,k⟩:=hq0
 subst e
 have nd:=qfI.nd
 refine ⟨_,(qq (qW (i:=5) nd rfl (by first | exact Or.inl rfl | exact Or.inr rfl) (qQ Oroot_sign hX (hr.mono (by decide)) rfl (qa (dv 0) (qa (dv 1) (qa (dv 2) qd)))))
   (qC (qN (qQ Oroot_sign hX (hr.mono (by decide)) rfl (qa (qZ yw (qZ qG (dv 5) (qZ yw (qZ qG (dv 0) (dv 0)) (qZ qG (qZ qG (dv 1) (dv 1)) (dv 2)))) (qZ qG (qZ qG (dv 3) (qO JD (by rfl) T.abs_ JF (qa (dv 3) qd))) (dv 4))) (qa (qZ qG (qZ qG (qZ qG qt (dv 5)) (dv 0)) (dv 1)) (qa (dv 2) qd))))))),?_⟩
 have sa:Sz 1 (rsg x y r):=qan _
 unfold trs at k
 refine ⟨x,y,r,rfl,sx.mono (by decide),sy.mono (by decide),sr.mono (by decide),?_⟩
 dsimp only [List.set_cons_zero,List.set_cons_succ]
 have two:Sz 2 (2:Int):=by unfold Sz;decide
 have syyr:Sz 34300 (y * y * r):=((sy.mul sy).mul sr).mono (by decide)
 have sxx:Sz 34300 (x * x):=(sx.mul sx).mono (by decide)
 have sB1:Sz 34400 (rsg x y r * (x * x+y * y * r)):=(sa.mul (sxx.add syyr)).mono (by decide)
 have sB2:Sz 34400 (z * ((z.natAbs:Nat):Int) * s):=((sz.mul (qbz sz)).mul ss).mono (by decide)
 have s2a:Sz 3 (2 * rsg x y r):=(two.mul sa).mono (by decide)
 exact ⟨jq sx sx (by decide),jq sy sy (by decide),jq (sy.mul sy) sr (by decide),jq sa (sxx.add syyr) (by decide),jq sz (qbz sz) (by decide),jq (sz.mul (qbz sz)) ss (by decide),jq two sa (by decide),jq s2a sx (by decide),jq (s2a.mul sx) sy (by decide),_,_,_,rfl,(sB1.add sB2).mono (by decide),((s2a.mul sx).mul sy).mono (by decide),sr.mono (by decide),k⟩
def qiR:SpD:=fun es μ Q=>∃ (Z1 Z2:List Pt) (v:Pt),es=[.d (hpD Z1),.d (hpD Z2),.d (ptD v)]/\Ck Z1/\Ck Z2/\Ar v/\∀ k:Int,Ord Z1 Z2 v k->Q (.d (.int k)) μ
theorem qfS:FnScope ["one", "other", "arrow", "p", "r", "q", "g", "s", "h"] ["one", "other", "arrow"] (qp JO):=⟨rfl,rfl,rfl,by decide +kernel,rfl,by decide +kernel,by decide +kernel⟩
theorem qjI {f:Addr}{fd:FuncData}(F:Fun K "cut_order" "cut_order" JO f fd) (T:Txt mg) (hX:NoX CX) (Ocut_root:Own P w K mg base CX 8 "cut_root" ["cake", "arrow"] (qV K sCrt)) (Osign:Own P w K mg base CX 1 "sign" ["number"] (qV K qkR)) (Otwo_roots_sign:Own P w K mg base CX 3 "two_roots_sign" ["x", "y", "r", "z", "s"] (qV K sTrs)):FnOk P w K mg base CX 9 f fd ["one", "other", "arrow"] (qV K qiR):=by
 refine F.okD qfS (fun es μ Q hq0=>by obtain ⟨Z1,Z2,v,e,_⟩:=hq0;subst e;rfl) (fun cdv A outer s' H E es μ Q hr hq0=>?_)
 obtain ⟨Z1,Z2,v,e,c1,c2,hv,k⟩:=hq0
 subst e
 have nd:=qfS.nd
 refine ⟨_,(qq (y7 (qQ Ocut_root hX (hr.mono (by decide)) rfl (qa (dv 0) (qa (dv 2) qd))) (yI (n:=3) rfl (qw (qy (i:=3) nd rfl (by first | exact Or.inl rfl | exact Or.inr rfl)) (qw (qy (i:=4) nd rfl (by first | exact Or.inl rfl | exact Or.inr rfl)) (qw (qy (i:=5) nd rfl (by first | exact Or.inl rfl | exact Or.inr rfl)) yh)))))
   (qq (y7 (qQ Ocut_root hX (hr.mono (by decide)) rfl (qa (dv 1) (qa (dv 2) qd))) (yI (n:=3) rfl (qw (qy (i:=6) nd rfl (by first | exact Or.inl rfl | exact Or.inr rfl)) (qw (qy (i:=7) nd rfl (by first | exact Or.inl rfl | exact Or.inr rfl)) (qw (qy (i:=8) nd rfl (by first | exact Or.inl rfl | exact Or.inr rfl)) yh)))))
   (qC (qN (qZ qG (qQ Osign hX (hr.mono (by decide)) rfl (qa (qZ qG (dv 5) (dv 8)) qd)) (qQ Otwo_roots_sign hX (hr.mono (by decide)) rfl (qa (qZ yA (qZ qG (dv 3) (dv 8)) (qZ qG (dv 6) (dv 5))) (qa (dv 8) (qa (dv 4) (qa (Z4 jm (dv 5)) (qa (dv 7) qd))))))))))),?_⟩
 refine ⟨Z1,v,rfl,c1,hv,fun p r q C1=>⟨rfl,Z2,v,rfl,c2,hv,fun g s h C2=>⟨rfl,?_⟩⟩⟩
 obtain ⟨sr,sp,sq⟩:=qgy C1
 obtain ⟨ss,sg,sh⟩:=qgy C2
 dsimp only [List.set_cons_zero,List.set_cons_succ]
 have sx:Sz 17100 (p * h - g * q):=((sp.mul sh).sub (sg.mul sq)).mono (by decide)
 have st:Sz 1 (trs (p * h - g * q) h r (-q) s):=qan _
 exact ⟨jq sq sh (by decide),_,rfl,jq sp sh (by decide),jq sg sq (by decide),_,_,_,_,_,rfl,sx,sh.mono (by decide),sr.mono (by decide),sq.neg.mono (by decide),ss.mono (by decide),jq (qan _) st (by decide),k _ (qjs c1 c2 hv C1 C2)⟩
end
end K76
namespace L2
def adP (u v:Pt):Pt:=(u.1+v.1,u.2+v.2)
def tq4 (u:Pt):Pt:=(-u.2,u.1)
def Wq (b:Bool) (u:Pt):Pt:=if b=true then tq4 u else u
theorem qio (b:Bool) (u v:Pt):Wq b (adP u v)=adP (Wq b u) (Wq b v):=by
 cases b
 ·rfl
 ·show ((-(u.2+v.2),u.1+v.1):Pt)=(-u.2+-v.2,u.1+v.1)
  exact Prod.ext (by show -(u.2+v.2) = -u.2+-v.2;omega) rfl
inductive SB:Nat->Pt->Pt->Prop
 | zero:SB 0 (1,0) (0,1)
 | fst {k:Nat}{u v:Pt}:SB k u v->SB (k+1) (adP u v) v
 | snd {k:Nat}{u v:Pt}:SB k u v->SB (k+1) u (adP u v)
structure SBf (k:Nat) (u v:Pt):Prop where
 a:0<=u.1
 b:0<=u.2
 c:0<=v.1
 d:0<=v.2
 det:u.1 * v.2 - u.2 * v.1=1
 sm:u.1+u.2<=2 ^ k/\v.1+v.2<=2 ^ k
 gr:(k:Int)+2<=u.1+u.2+v.1+v.2
 pu:1<=u.1
 pv:1<=v.2
theorem SB.f {k:Nat}{u v:Pt}(h:SB k u v):SBf k u v:=by
 induction h with
 | zero=>exact ⟨by decide,by decide,by decide,by decide,by decide,by decide,by decide,by decide,by decide⟩
 | @fst k u v h ih =>
  obtain ⟨a,b,c,d,e,⟨s1,s2⟩,g,p1,p2⟩:=ih
  have p:(2:Int) ^ (k+1)=2 ^ k+2 ^ k:=by rw [Int.pow_succ];omega
  unfold adP
  refine ⟨by dsimp only;omega,by dsimp only;omega,c,d,by dsimp only;grind,by dsimp only;omega,by dsimp only;omega,by dsimp only;omega,p2⟩
 | @snd k u v h ih =>
  obtain ⟨a,b,c,d,e,⟨s1,s2⟩,g,p1,p2⟩:=ih
  have p:(2:Int) ^ (k+1)=2 ^ k+2 ^ k:=by rw [Int.pow_succ];omega
  unfold adP
  refine ⟨a,b,by dsimp only;omega,by dsimp only;omega,by dsimp only;grind,by dsimp only;omega,by dsimp only;omega,p1,by dsimp only;omega⟩
def Chd (a' b' a b:Pt):Prop:=(a=adP a' b'/\b=b')\/(a=a'/\b=adP a' b')
theorem SB.par {k:Nat}{a b:Pt}(h:SB (k+1) a b):∃ a' b',SB k a' b'/\Chd a' b' a b:=by
 cases h with
 | fst h=>exact ⟨_,_,h,.inl ⟨rfl,rfl⟩⟩
 | snd h=>exact ⟨_,_,h,.inr ⟨rfl,rfl⟩⟩
theorem qg2 {k:Nat}(h:SB k (1,0) (0,1)):k=0:=by
 have:=h.f.gr
 dsimp only at this
 omega
def bck (u v:Pt):Pt×Pt:=if u.1 ≥ v.1/\u.2 ≥ v.2 then ((u.1 - v.1,u.2 - v.2),v) else (u,(v.1 - u.1,v.2 - u.2))
theorem qd7 {k:Nat}{a' b' a b:Pt}(h:SB k a' b') (c:Chd a' b' a b):bck a b=(a',b'):=by
 obtain ⟨x1,x2,x3,x4,x5,_,_,x6,x7⟩:=h.f
 obtain ⟨p,q⟩:=a'
 obtain ⟨r,s⟩:=b'
 dsimp only at *
 unfold bck
 rcases c with ⟨rfl,rfl⟩ | ⟨rfl,rfl⟩ <;> unfold adP <;> dsimp only
 ·rw [if_pos ⟨by omega,by omega⟩,show p+r - r=p by omega,show q+s - s=q by omega]
 ·rw [if_neg (by omega),show p+r - p=r by omega,show q+s - q=s by omega]
def Lm (u:Pt):Pt:=(u.1+u.2,u.2)
def Rm (u:Pt):Pt:=(u.1,u.1+u.2)
theorem qkH (u v:Pt):Lm (adP u v)=adP (Lm u) (Lm v):=Prod.ext (by show u.1+v.1+(u.2+v.2)=u.1+u.2+(v.1+v.2);omega) rfl
theorem qkG (u v:Pt):Rm (adP u v)=adP (Rm u) (Rm v):=Prod.ext rfl (by show u.1+v.1+(u.2+v.2)=u.1+u.2+(v.1+v.2);omega)
theorem SB.left:∀ {k:Nat}{a b:Pt},SB (k+1) a b->∃ a' b',SB k a' b'/\((a=Lm a'/\b=Lm b')\/(a=Rm a'/\b=Rm b'))
 | 0,_,_,.fst .zero=>⟨_,_,.zero,.inr ⟨rfl,rfl⟩⟩
 | 0,_,_,.snd .zero=>⟨_,_,.zero,.inl ⟨rfl,rfl⟩⟩
 | k+1,_,_,.fst h=>by
  obtain ⟨a',b',h',c⟩:=SB.left h
  rcases c with ⟨rfl,rfl⟩ | ⟨rfl,rfl⟩
  ·exact ⟨_,_,.fst h',.inl ⟨(qkH _ _).symm,rfl⟩⟩
  ·exact ⟨_,_,.fst h',.inr ⟨(qkG _ _).symm,rfl⟩⟩
 | k+1,_,_,.snd h=>by
  obtain ⟨a',b',h',c⟩:=SB.left h
  rcases c with ⟨rfl,rfl⟩ | ⟨rfl,rfl⟩
  ·exact ⟨_,_,.snd h',.inl ⟨rfl,(qkH _ _).symm⟩⟩
  ·exact ⟨_,_,.snd h',.inr ⟨rfl,(qkG _ _).symm⟩⟩
def AtD (k:Nat) (x:Pt):Prop:=∃ y,SB k x y\/SB k y x
theorem qih:∀ k,∃ u,SB k u (0,1)
 | 0=>⟨_,.zero⟩
 | k+1=>by
  obtain ⟨u,h⟩:=qih k
  exact ⟨_,.fst h⟩
theorem AtD.nn {k:Nat}{x:Pt}(h:AtD k x):0<=x.1/\0<=x.2/\x≠(0,0):=by
 obtain ⟨y,h | h⟩:=h
 ·have:=h.f
  refine ⟨this.a,this.b,fun z=>?_⟩
  have:=this.pu
  rw [z] at this
  exact absurd this (by decide)
 ·have:=h.f
  refine ⟨this.c,this.d,fun z=>?_⟩
  have:=this.pv
  rw [z] at this
  exact absurd this (by decide)
theorem AtD.zero {x:Pt}(h:AtD 0 x):x=(1,0)\/x=(0,1):=by
 obtain ⟨y,h | h⟩:=h <;> cases h
 ·exact .inl rfl
 ·exact .inr rfl
theorem AtD.sub {k:Nat}{x:Pt}(h:AtD (k+1) x) (x1:0<x.1) (x2:0<x.2):AtD k (if x.2<=x.1 then (x.1 - x.2,x.2) else (x.1,x.2 - x.1)):=by
 have key:∃ x',AtD k x'/\(x=Lm x'\/x=Rm x'):=by
  obtain ⟨y,h | h⟩:=h
  ·obtain ⟨a',b',h',c⟩:=h.left
   rcases c with ⟨e,_⟩ | ⟨e,_⟩
   ·exact ⟨a',⟨b',.inl h'⟩,.inl e⟩
   ·exact ⟨a',⟨b',.inl h'⟩,.inr e⟩
  ·obtain ⟨a',b',h',c⟩:=h.left
   rcases c with ⟨_,e⟩ | ⟨_,e⟩
   ·exact ⟨b',⟨a',.inr h'⟩,.inl e⟩
   ·exact ⟨b',⟨a',.inr h'⟩,.inr e⟩
 obtain ⟨⟨p,q⟩,h',e⟩:=key
 obtain ⟨n1,n2,_⟩:=h'.nn
 dsimp only at n1 n2
 rcases e with rfl | rfl
 ·unfold Lm at *
  dsimp only at *
  rw [if_pos (by omega),show p+q - q=p by omega]
  exact h'
 ·unfold Rm at *
  dsimp only at *
  by_cases c:p+q<=p
  ·rw [if_pos c]
   have q0:q=0:=by omega
   subst q0
   -- then it is (1,0)
   have p1:p=1:=by
    obtain ⟨y,h' | h'⟩:=h'
    ·have:=h'.f.det
     dsimp only at this
     have hv:=h'.f.pv
     have e:p * y.2=1:=by omega
     have:=Int.mul_le_mul_of_nonneg_left hv n1
     omega
    ·have:=h'.f.pv
     exact absurd (show (1:Int)<=0 from this) (by decide)
   subst p1
   obtain ⟨u,hu⟩:=qih k
   exact ⟨u,.inr hu⟩
  ·rw [if_neg c,show p+q - p=q by omega]
   exact h'
def qei (F:Pt->Int):Nat->Pt->Pt->Int->Int->Pt×Pt
 | 0,u,v,_,_=>(u,v)
 | n+1,u,v,o,l=>if o=0 then (u,u) else if l=0 then (v,v) else if F (adP u v)=o then qei F n (adP u v) v o l else qei F n u (adP u v) o (F (adP u v))
def slF (F:Pt->Int) (n:Nat):Pt×Pt:=if F (1,0)=F (0,1)/\F (1,0)≠0 then qei F n (0,1) (-1,0) (F (0,1)) (-F (1,0)) else qei F n (1,0) (0,1) (F (1,0)) (F (0,1))
def EndA (F:Pt->Int) (t:Nat) (b:Bool) (x y:Pt):Prop:=SB t x y/\F (Wq b x) * F (Wq b y)<=0/\(0<t->∃ x' y',SB (t - 1) x' y'/\Chd x' y' x y/\F (Wq b x')≠0/\F (Wq b y')≠0)
def SlOk (F:Pt->Int) (t:Nat) (r:Pt×Pt):Prop:=(∃ b x y,r=(Wq b x,Wq b y)/\EndA F t b x y)\/(∃ b x k,k<t/\AtD k x/\r=(Wq b x,Wq b x)/\F (Wq b x)=0)
theorem Y0 {F:Pt->Int}(hF:∀ x,F x = -1\/F x=0\/F x=1) (t:Nat) (b:Bool):∀ (n k:Nat) (x y:Pt),k+n=t->EndA F k b x y->SlOk F t (qei F n (Wq b x) (Wq b y) (F (Wq b x)) (F (Wq b y)))
 | 0,k,x,y,e,h=>by
  have:k=t:=by omega
  subst this
  exact .inl ⟨b,x,y,rfl,h⟩
 | n+1,k,x,y,e,h=>by
  obtain ⟨s,pr,_⟩:=h
  unfold qei
  by_cases c1:F (Wq b x)=0
  ·rw [if_pos c1]
   exact .inr ⟨b,x,k,by omega,⟨y,.inl s⟩,rfl,c1⟩
  rw [if_neg c1]
  by_cases c2:F (Wq b y)=0
  ·rw [if_pos c2]
   exact .inr ⟨b,y,k,by omega,⟨x,.inr s⟩,rfl,c2⟩
  rw [if_neg c2,<- qio]
  by_cases c3:F (Wq b (adP x y))=F (Wq b x)
  ·rw [if_pos c3]
   have:=Y0 hF t b n (k+1) (adP x y) y (by omega) ⟨.fst s,by rw [c3];exact pr,fun _=>⟨x,y,s,.inl ⟨rfl,rfl⟩,c1,c2⟩⟩
   rw [c3] at this
   exact this
  ·rw [if_neg c3]
   refine Y0 hF t b n (k+1) x (adP x y) (by omega) ⟨.snd s,?_,fun _=>⟨x,y,s,.inr ⟨rfl,rfl⟩,c1,c2⟩⟩
   rcases hF (Wq b x) with a | a | a <;> rcases hF (Wq b (adP x y)) with d | d | d <;> rw [a,d] at c3 <;> rw [a,d] <;> first | decide | exact absurd rfl c3
theorem qiK {F:Pt->Int}(hF:∀ x,F x = -1\/F x=0\/F x=1) (hT:F (-1,0) = -F (1,0)) (t:Nat):SlOk F t (slF F t):=by
 unfold slF
 split
 ·rename_i h
  have:=Y0 hF t true t 0 (1,0) (0,1) (by omega) ⟨.zero,?_,fun z=>absurd z (by decide)⟩
  ·have e1:Wq true (1,0)=(0,1):=rfl
   have e2:Wq true (0,1)=(-1,0):=rfl
   rw [e1,e2,hT] at this
   exact this
  ·have e1:Wq true (1,0)=(0,1):=rfl
   have e2:Wq true (0,1)=(-1,0):=rfl
   rw [e1,e2,hT,<- h.1]
   rcases hF (1,0) with a | a | a <;> rw [a] <;> decide
 ·rename_i h
  refine Y0 hF t false t 0 (1,0) (0,1) (by omega) ⟨.zero,?_,fun z=>absurd z (by decide)⟩
  show F (1,0) * F (0,1)<=0
  rcases hF (1,0) with a | a | a <;> rcases hF (0,1) with d | d | d <;> rw [a,d] at h <;> rw [a,d] <;> first | decide | exact absurd ⟨rfl,by decide⟩ h
open PySem PySem.Spec PyProof.Rows
section
variable {prog:Program}{w:World}{A:Around}{E:Value->Shared->Prop}{s:Shared}{l:Addr}{xs:Array (Int×Tok)}
theorem ZN {Q:Value->Shared->Prop}(hh:A.handled=none) (hl:s.heap.IsTuple l (intItems xs)) (hne:0<xs.size)
  (h:∀ v h' tk,(intItems xs)[argBest (fun i j=>decide (numAt xs i<numAt xs j)) (xs.size - 1)]?=some v->(∀ b o,s.heap.get? b=some o->h'.get? b=some o)->Q v { s with heap:=h',toks:=tk }) :
  wpAny (model prog w) A (call (.builtin "min") [.ref l]) Q E s:=by
 have hlt:l<s.heap.objs.size:=by obtain ⟨_,e,_⟩:=hl;exact qg e
 refine call_min_walk (wpAny_pyIter_tuple hl ?_)
 refine ⟨_,_,_,_,_,_,_,rfl,Walks.tuple (A:=A.in1) hh s.heap.objs.size l (qx hlt) (intItems xs),⟨⟨_,qz _ rfl,rfl,rfl⟩,hl.at fun o e=>qc _ e⟩,fun b hb=>?_,by simpa [intItems] using hne,CmpOf.ints_lt (numAt xs) (fun _ _=>intItems_at),fun v h' tk hP hk=>?_⟩
 ·show b<(s.heap.push _).objs.size
  rw [Heap.size_push]
  rcases List.mem_cons.mp hb with rfl | hb
  ·exact Nat.lt_succ_self _
  ·rcases List.mem_cons.mp hb with rfl | hb
   ·exact Nat.lt_succ_of_lt hlt
   ·cases hb
 ·refine h v h' tk (by simpa [intItems] using hP) fun b o e=>hk b o (fun hm=>?_) (qc _ e)
  rcases List.mem_cons.mp hm with e1 | hm
  ·exact absurd (e1 ▸ qg e) (yQ _)
  ·cases hm
end
section
variable {X:Cx}{K:W.Frag}
theorem qdY (hc:X.calm=true):yu X (.builtin "min") (fun xs H Q=>∃ p ns,xs=[.ref p]/\SqT X.K H p (ns.map V.int)/\ns≠[]/\∀ m:Int,m∈ns->(∀ a∈ns,m<=a)->Q (.int m) H):=by
 intro pins s σ H xs us Q I r h
 obtain ⟨p,ns,rfl,hq,hne,q⟩:=h
 obtain ⟨u,rfl,rx⟩:=JI r
 cases rx
 obtain ⟨its,rv,pl,_⟩:=I.tuple hq
 obtain ⟨ys,rfl,e⟩:=jO rv
 have hl:s.heap.IsTuple p (intItems ys.toArray):=by
  have:s.heap.IsTuple p _:=pl
  simpa [intItems] using this
 have hn:0<ys.length:=by
  have:=yZ.mpr hne
  rw [<- e,List.length_map] at this
  exact this
 refine ZN (I.ok.hd hc) hl (by simpa using hn) fun v h' tk hv hk=>?_
 obtain ⟨t,rfl⟩:=intItems_at hv
 obtain ⟨h1,h2⟩:=argBest_lt (numAt ys.toArray) (ys.toArray.size - 1)
 have na:∀ j,j<ys.length->∃ z,ns[j]?=some z/\numAt ys.toArray j=z:=fun j hj=>by
  refine ⟨ys[j].1,by rw [<- e];simp [hj],by simp [numAt,hj]⟩
 refine ⟨.int _,H,I.kept hk,⟨_,rfl⟩,q _ ?_ fun a ha=>?_⟩
 ·have h0:argBest (fun i j=>decide (numAt ys.toArray i<numAt ys.toArray j)) (ys.toArray.size - 1)<ys.length:=by
   simp only [List.size_toArray] at h1 ⊢;omega
  obtain ⟨z,e1,e2⟩:=na _ h0
  rw [e2]
  exact List.mem_of_getElem? e1
 ·obtain ⟨j,hj⟩:=List.mem_iff_getElem?.mp ha
  have hj2:j<ys.length:=by
   have:=(qm.mp hj).1
   rwa [<- e,List.length_map] at this
  obtain ⟨z,e1,e2⟩:=na j hj2
  rw [hj] at e1
  cases e1
  rw [<- e2]
  exact h2 j (by simp only [List.size_toArray];omega)
def qiX:RAd:=fun es μ Q=>∃ ns:List Int,es=[.d (.tuple (ns.map PyData.int))]/\ns≠[]/\∀ m:Int,m∈ns->(∀ a∈ns,m<=a)->Q (.d (.int m)) μ
theorem qdL (hc:X.calm=true) (hK:X.K=K:=by rfl):yu X (.builtin "min") (upC K qiX):=by
 subst hK
 refine (qdY hc).mono fun xs H Q h=>?_
 obtain ⟨μ,es,Q0,M,hp,q,cl⟩:=h
 obtain ⟨ns,rfl,hne,q⟩:=q
 obtain ⟨v,rfl,i1⟩:=Jp hp
 cases i1 with
 | @tup p xs _ h1 h2 =>
  rw [h2.ints_of] at h1
  exact ⟨p,ns,rfl,h1.up,hne,fun m h4 h5=>cl _ μ _ _ (q m h4 h5) M (ye.refl _) (.int _)⟩
end
end L2
namespace K76
open PySem L2
section
variable {P:Program}{w:World}{K:W.Frag}{mg:Str->Option Value}{base:Heap}{CX:CXT}
def qbr (Z1 Z2:List Pt) (v:Pt) (k:Int):Prop:=(k = -1/\LtC Z1 Z2 v)\/(k=1/\LtC Z2 Z1 v)\/(k=0/\¬ LtC Z1 Z2 v/\¬ LtC Z2 Z1 v)
theorem ZK {Z1 Z2:List Pt}{v:Pt}{k:Int}(a:Ord Z1 Z2 v k):qbr Z1 Z2 v k:=by
 rcases a with a | a | ⟨e,a1,a2⟩
 ·exact .inl a
 ·exact .inr (.inl a)
 ·exact .inr (.inr ⟨e,fun z=>a1 (qeY z),fun z=>a2 (qeY z)⟩)
theorem qcS {Z1 Z2:List Pt}(c1:Ck Z1) (c2:Ck Z2) {v:Pt}(hv:Ar v) {k k':Int}(a:qbr Z1 Z2 v k) (b:qbr Z1 Z2 v k'):k=k':=by
 rcases a with ⟨rfl,a⟩ | ⟨rfl,a⟩ | ⟨rfl,a1,a2⟩ <;> rcases b with ⟨rfl,b⟩ | ⟨rfl,b⟩ | ⟨rfl,b1,b2⟩
 ·rfl
 ·exact (qc4 c1 c2 hv a (qeY b)).elim
 ·exact (b1 a).elim
 ·exact (qc4 c1 c2 hv b (qeY a)).elim
 ·rfl
 ·exact (b2 a).elim
 ·exact (a1 b).elim
 ·exact (a2 b).elim
 ·rfl
theorem Y7 {Z1 Z2:List Pt}(c1:Ck Z1) (c2:Ck Z2) {v:Pt}(a:LtC Z1 Z2 v):LtC Z2 Z1 (-v.1,-v.2):=by
 obtain ⟨t,f1,f2⟩:=a
 have l1:=c1.2.1
 have l2:=c2.2.1
 refine ⟨-t,?_,?_⟩
 ·rw [qef (by omega)];grind
 ·rw [qef (by omega)];grind
theorem qbc {Z1 Z2:List Pt}(c1:Ck Z1) (c2:Ck Z2) {v:Pt}(a:LtC Z1 Z2 (-v.1,-v.2)):LtC Z2 Z1 v:=by
 have:=Y7 c1 c2 a
 dsimp only at this
 rw [Int.neg_neg,Int.neg_neg] at this
 exact this
theorem ZJ {Z1 Z2:List Pt}(c1:Ck Z1) (c2:Ck Z2) {v:Pt}{k:Int}(a:qbr Z1 Z2 v k):qbr Z1 Z2 (-v.1,-v.2) (-k):=by
 rcases a with ⟨rfl,a⟩ | ⟨rfl,a⟩ | ⟨rfl,a1,a2⟩
 ·exact .inr (.inl ⟨rfl,Y7 c1 c2 a⟩)
 ·exact .inl ⟨rfl,Y7 c2 c1 a⟩
 ·exact .inr (.inr ⟨rfl,fun z=>a2 (qbc c1 c2 z),fun z=>a1 (qbc c2 c1 z)⟩)
noncomputable def oF (Z1 Z2:List Pt) (x:Pt):Int:=open Classical in if h:∃ k,qbr Z1 Z2 x k then Classical.choose h else 0
theorem YE {Z1 Z2:List Pt}(c1:Ck Z1) (c2:Ck Z2) {v:Pt}(hv:Ar v) {k:Int}(a:qbr Z1 Z2 v k):oF Z1 Z2 v=k:=by
 have h:∃ k,qbr Z1 Z2 v k:=⟨k,a⟩
 unfold oF
 rw [dif_pos h]
 exact qcS c1 c2 hv (Classical.choose_spec h) a
theorem qcW (Z1 Z2:List Pt) (x:Pt):oF Z1 Z2 x = -1\/oF Z1 Z2 x=0\/oF Z1 Z2 x=1:=by
 unfold oF
 split
 ·rename_i h
  rcases Classical.choose_spec h with ⟨e,_⟩ | ⟨e,_⟩ | ⟨e,_⟩
  ·exact .inl e
  ·exact .inr (.inr e)
  ·exact .inr (.inl e)
 ·exact .inr (.inl rfl)
theorem qik:Ar (1,0):=⟨⟨by decide,by decide⟩,by decide⟩
theorem qkA:Ar (0,1):=⟨⟨by decide,by decide⟩,by decide⟩
theorem qkz:Ar (-1,0):=⟨⟨by decide,by decide⟩,by decide⟩
theorem qgh:((-((1,0):Pt).1,-((1,0):Pt).2):Pt)=(-1,0):=by decide
theorem qhF:((-((-1,0):Pt).1,-((-1,0):Pt).2):Pt)=(1,0):=by decide
theorem qcX {Z1 Z2:List Pt}(c1:Ck Z1) (c2:Ck Z2):oF Z1 Z2 (-1,0) = -oF Z1 Z2 (1,0):=by
 have up:∀ {k:Int},qbr Z1 Z2 (1,0) k->qbr Z1 Z2 (-1,0) (-k):=fun {k} h=>by
  have:=ZJ c1 c2 h
  rw [qgh] at this
  exact this
 have dn:∀ {k:Int},qbr Z1 Z2 (-1,0) k->qbr Z1 Z2 (1,0) (-k):=fun {k} h=>by
  have:=ZJ c1 c2 h
  rw [qhF] at this
  exact this
 by_cases h:∃ k,qbr Z1 Z2 (1,0) k
 ·obtain ⟨k,hk⟩:=h
  rw [YE c1 c2 qik hk,YE c1 c2 qkz (up hk)]
 ·have h2:¬ ∃ k,qbr Z1 Z2 (-1,0) k:=fun ⟨k,hk⟩=>h ⟨-k,dn hk⟩
  unfold oF
  rw [dif_neg h,dif_neg h2]
  rfl
theorem qbC {k:Nat}(hk:k<=28) (b:Bool) {x:Pt}(h:AtD k x):Ar (Wq b x):=by
 have p:(2:Int) ^ k<=268435456:=by
  have h1:(2 ^ k:Nat)<=2 ^ 28:=Nat.pow_le_pow_right (by decide) hk
  have h2:(2 ^ 28:Nat)=268435456:=by decide +kernel
  rw [h2] at h1
  have h3:((2 ^ k:Nat):Int)=(2:Int) ^ k:=by simp
  omega
 obtain ⟨n1,n2,n3⟩:=h.nn
 have s:x.1+x.2<=2 ^ k:=by
  obtain ⟨y,h | h⟩:=h
  ·exact h.f.sm.1
  ·exact h.f.sm.2
 cases b
 ·exact ⟨⟨by show x.1.natAbs<=_;omega,by show x.2.natAbs<=_;omega⟩,n3⟩
 ·refine ⟨⟨by show (-x.2).natAbs<=_;omega,by show x.1.natAbs<=_;omega⟩,fun z=>n3 ?_⟩
  have z1:-x.2=0:=congrArg Prod.fst z
  have z2:x.1=0:=congrArg Prod.snd z
  exact Prod.ext z2 (by show x.2=0;omega)
end
section
variable {P:Program}{w:World}{K:W.Frag}{mg:Str->Option Value}{base:Heap}{CX:CXT}
def sTab:SpD:=fun es μ Q=>∃ v:Pt,es=[.d (ptD v)]/\Q (.d (ptD (-v.1,-v.2))) μ
theorem qfK:FnScope ["arrow"] ["arrow"] (qp jU):=⟨rfl,rfl,rfl,by decide +kernel,rfl,by decide +kernel,by decide +kernel⟩
theorem qjA {f:Addr}{fd:FuncData}(F:Fun K "turned_about" "turned_about" jU f fd)  : FnOk P w K mg base CX 1 f fd ["arrow"] (qV K sTab):=by
 refine F.okD qfK (fun es μ Q hq0=>by obtain ⟨v,e,_⟩:=hq0;subst e;rfl) (fun cdv A outer s H E es μ Q hr hq0=>?_)
 obtain ⟨v,e,k⟩:=hq0
 subst e
 have nd:=qfK.nd
 refine ⟨_,(qC (qN (yl (qa (Z4 jm (y8 qM (dv 0) qt (fun _ _=>rfl))) (qa (Z4 jm (y8 qM (dv 0) qt (fun _ _=>rfl))) qd))))),?_⟩
 exact ⟨_,rfl,_,rfl,zl2,k⟩
def prD (r:Pt×Pt):PyData:=.tuple [ptD r.1,ptD r.2]
def sSlc:SpD:=fun es μ Q=>∃ (Z1 Z2:List Pt) (n:Nat),es=[.d (hpD Z1),.d (hpD Z2),.d (.int n)]/\Ck Z1/\Ck Z2/\n<=26/\Q (.d (prD (slF (oF Z1 Z2) n))) μ
theorem qfM:FnScope ["one", "other", "steps", "first", "second", "order", "later", "step", "new", "new_order"] ["one", "other", "steps"] (qp j6):=⟨rfl,rfl,rfl,by decide +kernel,rfl,by decide +kernel,by decide +kernel⟩
theorem qjC {f:Addr}{fd:FuncData}(F:Fun K "slice_of" "slice_of" j6 f fd) (T:Txt mg) (hX:NoX CX) (Ocut_order:Own P w K mg base CX 9 "cut_order" ["one", "other", "arrow"] (qV K qiR)) (Oturned_about:Own P w K mg base CX 1 "turned_about" ["arrow"] (qV K sTab)):FnOk P w K mg base CX 10 f fd ["one", "other", "steps"] (qV K sSlc):=by
 refine F.okD qfM (fun es μ Q hq0=>by obtain ⟨Z1,Z2,n,e,_⟩:=hq0;subst e;rfl) (fun cdv A outer s H E es μ Q hr hq0=>?_)
 obtain ⟨Z1,Z2,n,e,c1,hc2,hn,k⟩:=hq0
 subst e
 have nd:=qfM.nd
 have key:∃ t,DSs K (qbS CX P w K mg base ["one", "other", "steps", "first", "second", "order", "later", "step", "new", "new_order"] "slice_of" (qp j6) f cdv A outer s H E).nox ((yW j6).drop 4) t ∧
   ∀ (b:Bool),qei (oF Z1 Z2) n (Wq b (1,0)) (Wq b (0,1)) (oF Z1 Z2 (Wq b (1,0))) (oF Z1 Z2 (Wq b (0,1)))=slF (oF Z1 Z2) n →
    t { nx:=fun _ μ'=>Q (.d .none) μ',rt:=Q } [some (.d (hpD Z1)),some (.d (hpD Z2)),some (.d (.int n)),some (.d (ptD (Wq b (1,0)))),some (.d (ptD (Wq b (0,1)))),some (.d (.int (oF Z1 Z2 (Wq b (1,0))))),some (.d (.int (oF Z1 Z2 (Wq b (0,1))))),none,none,none] μ:=by
  refine ⟨_,(qq (ZZ PassesOwn.never rfl (Ja rfl T.range_ (qa (dv 2) qd)) (qy (i:=7) nd rfl (by first | exact Or.inl rfl | exact Or.inr rfl)) (qq (jd (q9 (Yc hr.units) (dv 5) qt (qP _)) (qC (qN (yl (qa (dv 3) (qa (dv 3) qd))))) yz)
   (qq (jd (q9 (Yc hr.units) (dv 6) qt (qP _)) (qC (qN (yl (qa (dv 4) (qa (dv 4) qd))))) yz)
   (qq (qW (i:=8) nd rfl (by first | exact Or.inl rfl | exact Or.inr rfl) (yl (qa (qZ yw (y8 qM (dv 3) qt (fun _ _=>rfl)) (y8 qM (dv 4) qt (fun _ _=>rfl))) (qa (qZ yw (y8 qM (dv 3) qt (fun _ _=>rfl)) (y8 qM (dv 4) qt (fun _ _=>rfl))) qd))))
   (qq (qW (i:=9) nd rfl (by first | exact Or.inl rfl | exact Or.inr rfl) (qQ Ocut_order hX (hr.mono (by decide)) rfl (qa (dv 0) (qa (dv 1) (qa (dv 8) qd)))))
   (qC (jd (q9 (Yc hr.units) (dv 9) (dv 5) (qP _)) (qC (qW (i:=3) nd rfl (by first | exact Or.inl rfl | exact Or.inr rfl) (dv 8))) (qC (Yz (i:=4) (j:=6) rfl nd rfl rfl (by decide) rfl rfl (qa (dv 8) (qa (dv 9) qd)) rfl)))))))))
   (qC (qN (yl (qa (dv 3) (qa (dv 4) qd)))))),fun b eR=>?_⟩
  refine ⟨by omega,by omega,?_⟩
  refine forR (fun i ρ' μ'=>μ'=μ/\∃ x y:Pt,SB i x y/\qei (oF Z1 Z2) (n - i) (Wq b x) (Wq b y) (oF Z1 Z2 (Wq b x)) (oF Z1 Z2 (Wq b y))=slF (oF Z1 Z2) n/\∃ w1 w2 w3,ρ'=[some (.d (hpD Z1)),some (.d (hpD Z2)),some (.d (.int n)),some (.d (ptD (Wq b x))),some (.d (ptD (Wq b y))),some (.d (.int (oF Z1 Z2 (Wq b x)))),some (.d (.int (oF Z1 Z2 (Wq b y)))),w1,w2,w3]) ?_ ?_ ?_
  ·exact ⟨rfl,(1,0),(0,1),.zero,eR,_,_,_,rfl⟩
  ·rintro i ρ' μ' hi ⟨rfl,x,y,hs,e,w1,w2,w3,rfl⟩
   have hi:i<((n:Nat):Int).toNat:=hi
   have hi:i<n:=by omega
   obtain ⟨m,em⟩:∃ m,n - i=m+1:=⟨n - i - 1,by omega⟩
   rw [em] at e
   unfold qei at e
   refine jv (fun c=>?_) (fun c=>jv (fun c2=>?_) (fun c2=>?_))
   ·have c:oF Z1 Z2 (Wq b x)=0:=qr c
    rw [if_pos c] at e
    rw [<- e] at k
    exact ⟨zl2,k⟩
   ·have c:¬ oF Z1 Z2 (Wq b x)=0:=fun z=>c (qu z)
    have c2:oF Z1 Z2 (Wq b y)=0:=qr c2
    rw [if_neg c,if_pos c2] at e
    rw [<- e] at k
    exact ⟨zl2,k⟩
   ·have c:¬ oF Z1 Z2 (Wq b x)=0:=fun z=>c (qu z)
    have c2:¬ oF Z1 Z2 (Wq b y)=0:=fun z=>c2 (qu z)
    rw [if_neg c,if_neg c2,<- qio] at e
    have hnew:AtD (i+1) (adP x y):=⟨y,.inl (.fst hs)⟩
    have har:=qbC (k:=i+1) (by omega) b hnew
    have eW:ptD (Wq b (adP x y)) = .tuple [.int ((Wq b x).1+(Wq b y).1),.int ((Wq b x).2+(Wq b y).2)]:=by rw [qio];rfl
    refine ⟨_,rfl,_,rfl,_,rfl,_,rfl,zl2,?_⟩
    dsimp only [List.set_cons_zero,List.set_cons_succ]
    refine ⟨Z1,Z2,Wq b (adP x y),by rw [eW],c1,hc2,har,fun j hj=>?_⟩
    have ej:oF Z1 Z2 (Wq b (adP x y))=j:=YE c1 hc2 har (ZK hj)
    dsimp only [List.set_cons_zero,List.set_cons_succ]
    rw [ej] at e
    refine jv (fun c3=>?_) (fun c3=>?_)
    ·have c3:j=oF Z1 Z2 (Wq b x):=qr c3
     rw [if_pos c3,<- c3,<- ej] at e
     refine Wks.of ⟨rfl,adP x y,y,.fst hs,?_,?_⟩
     ·rw [show n - (i+1)=m by omega];exact e
     ·rw [eW,ej,c3]
      exact ⟨_,_,_,rfl⟩
    ·have c3:¬ j=oF Z1 Z2 (Wq b x):=fun z=>c3 (qu z)
     rw [if_neg c3,<- ej] at e
     refine Wks.of ⟨rfl,x,adP x y,.snd hs,?_,?_⟩
     ·rw [show n - (i+1)=m by omega];exact e
     ·rw [eW,ej]
      exact ⟨_,_,_,rfl⟩
  ·rintro ρ' μ' ⟨rfl,x,y,hs,e,w1,w2,w3,rfl⟩
   have e0:n - ((n:Nat):Int).toNat=0:=by omega
   rw [e0] at e
   unfold qei at e
   rw [<- e] at k
   exact ⟨zl2,k⟩
 obtain ⟨t,ht,hk⟩:=key
 refine ⟨_,(qq (y7 (yl (qa (yl (qa qt (qa qt qd))) (qa (yl (qa qt (qa qt qd))) qd))) (yI (n:=2) rfl (qw (qy (i:=3) nd rfl (by first | exact Or.inl rfl | exact Or.inr rfl)) (qw (qy (i:=4) nd rfl (by first | exact Or.inl rfl | exact Or.inr rfl)) yh))))
   (qq (qW (i:=5) nd rfl (by first | exact Or.inl rfl | exact Or.inr rfl) (qQ Ocut_order hX (hr.mono (by decide)) rfl (qa (dv 0) (qa (dv 1) (qa (dv 3) qd)))))
   (qq (qW (i:=6) nd rfl (by first | exact Or.inl rfl | exact Or.inr rfl) (qQ Ocut_order hX (hr.mono (by decide)) rfl (qa (dv 0) (qa (dv 1) (qa (dv 4) qd)))))
   (qq (jd (qdD (J5 (q9 (Yc hr.units) (dv 5) (dv 6) (qP _)) (Js (q9 (Ya hr.units) (dv 5) qt (qP _))))) (qq (Yz (i:=3) (j:=4) rfl nd rfl rfl (by decide) rfl rfl (qa (dv 4) (qa (qQ Oturned_about hX (hr.mono (by decide)) rfl (qa (dv 3) qd)) qd)) rfl)
   (qC (Yz (i:=5) (j:=6) rfl nd rfl rfl (by decide) rfl rfl (qa (dv 6) (qa (Z4 jm (dv 5)) qd)) rfl))) yz)
   ht)))),?_⟩
 have w1:Wq true (1,0)=(0,1):=rfl
 have w2:Wq true (0,1)=(-1,0):=rfl
 have w3:Wq false (1,0)=(1,0):=rfl
 have w4:Wq false (0,1)=(0,1):=rfl
 refine ⟨zl2,zl2,zl2,rfl,Z1,Z2,(1,0),rfl,c1,hc2,qik,fun o ho=>⟨Z1,Z2,(0,1),rfl,c1,hc2,qkA,fun l hl=>?_⟩⟩
 have eo:=YE c1 hc2 qik (ZK ho)
 have el:=YE c1 hc2 qkA (ZK hl)
 have hT:=qcX c1 hc2
 dsimp only [List.set_cons_zero,List.set_cons_succ]
 have hno:¬ (o=l/\o≠0)->t { nx:=fun _ μ'=>Q (.d .none) μ',rt:=Q } [some (.d (hpD Z1)),some (.d (hpD Z2)),some (.d (.int n)),some (.d (ptD (1,0))),some (.d (ptD (0,1))),some (.d (.int o)),some (.d (.int l)),none,none,none] μ:=fun z=>by
  have h:=hk false (by unfold slF;rw [w3,w4,eo,el,if_neg z])
  rw [w3,w4,eo,el] at h
  exact h
 refine jv (fun c=>jv (fun c2=>?_) (fun c2=>?_)) (fun c=>qah ?_)
 ·have c:o=l:=qr c
  have c2:(!decide (o=0))=true:=c2
  have c2:o≠0:=by simpa using c2
  refine ⟨(1,0),rfl,?_⟩
  rw [qgh]
  have h:=hk true (by unfold slF;rw [w1,w2,hT,eo,el,if_pos ⟨c,c2⟩])
  rw [w1,w2,hT,eo,el] at h
  exact h
 ·have c2:¬ (!decide (o=0))=true:=c2
  have c2:o=0:=by simpa using c2
  exact hno fun z=>z.2 c2
 ·have c:¬ o=l:=fun z=>c (qu z)
  exact hno fun z=>c z.1
end
section
variable {P:Program}{w:World}{K:W.Frag}{mg:Str->Option Value}{base:Heap}{CX:CXT}
def sIsa:SpD:=fun es μ Q=>∃ v:Pt,es=[.d (ptD v)]/\Q (.d (.bool true)) μ
theorem qfV:FnScope ["_law_found"] ["_law_found"] (qp ji):=⟨rfl,rfl,rfl,by decide +kernel,rfl,by decide +kernel,by decide +kernel⟩
theorem qjL {f:Addr}{fd:FuncData}(F:Fun K "_law_is_arrow" "_law_is_arrow" ji f fd) (T:Txt mg):FnOk P w K mg base CX 1 f fd ["_law_found"] (qV K sIsa):=by
 refine F.okD qfV (fun es μ Q hq0=>by obtain ⟨v,e,_⟩:=hq0;subst e;rfl) (fun cdv A outer s H E es μ Q hr hq0=>?_)
 obtain ⟨v,e,k⟩:=hq0
 subst e
 have nd:=qfV.nd
 refine ⟨_,(qq (jd (qdD (qdC (qdE (ZY (qO qbl (by rfl) T.isinstance_ jx (qa (dv 0) (qa (qk3 rfl T.tuple_ Zj) qd))))) (qbj (q9 (Ya hr.units) (qO J7 (by rfl) T.len_ J9 (qa (dv 0) qd)) qt (qP _))))) (qC (qN qiv)) yz)
   (qC (qN (qO (qdO rfl) (by rfl) T.all_ qd5 (qa (j3 (L:=["_law_number_here"]) (sc:=qp ji) (N:=["_law_found"]) rfl rfl rfl (by decide +kernel) (qdJ (dv 0)) (fun _ _ _ _ _=>(qy (i:=1) (show List.Nodup (["_law_found", "_law_number_here"]:List Str) from by decide +kernel) rfl (by first | exact Or.inl rfl | exact Or.inr rfl))) (fun _ _ _ _ _=>je) (fun _ _ _ _ _=>(qfj (qO qbl (by rfl) T.isinstance_ jx (qa (dv 1) (qa (qk3 rfl T.int_ qgz) qd))) (qh6 (d_not (qO qbl (by rfl) T.isinstance_ jx (qa (dv 1) (qa (qk3 rfl T.bool_ qif) qd)))))))) qd))))),?_⟩
 refine ⟨by decide,qah ⟨_,.t _,(show 2<=4000 by decide),qbm (as:=[v.1,v.2]) (h:=PyData.int) (fun _=>.bool true) Src.t (fun a _ R y=>?_) ?_⟩⟩
 ·first | exact y | exact ⟨by decide,y⟩ | exact ⟨by decide,by decide,y⟩
 ·exact ⟨[true,true],.d _,k⟩
def sTbk:SpD:=fun es μ Q=>∃ v:Pt,es=[.d (ptD v)]/\Q (.d (ptD (v.2,-v.1))) μ
theorem qfJ:FnScope ["_law_arrow"] ["_law_arrow"] (qp jb):=⟨rfl,rfl,rfl,by decide +kernel,rfl,by decide +kernel,by decide +kernel⟩
theorem qjz {f:Addr}{fd:FuncData}(F:Fun K "_law_turned_back" "_law_turned_back" jb f fd)  : FnOk P w K mg base CX 1 f fd ["_law_arrow"] (qV K sTbk):=by
 refine F.okD qfJ (fun es μ Q hq0=>by obtain ⟨v,e,_⟩:=hq0;subst e;rfl) (fun cdv A outer s H E es μ Q hr hq0=>?_)
 obtain ⟨v,e,k⟩:=hq0
 subst e
 have nd:=qfJ.nd
 refine ⟨_,(qC (qN (yl (qa (y8 qM (dv 0) qt (fun _ _=>rfl)) (qa (Z4 jm (y8 qM (dv 0) qt (fun _ _=>rfl))) qd))))),?_⟩
 exact ⟨_,rfl,_,rfl,zl2,k⟩
def qkS:SpD:=fun es μ Q=>∃ u v:Pt,es=[.d (ptD u),.d (ptD v)]/\Q (.d (prD (bck u v))) μ
theorem qf3:FnScope ["_law_u", "_law_v"] ["_law_u", "_law_v"] (qp Jo):=⟨rfl,rfl,rfl,by decide +kernel,rfl,by decide +kernel,by decide +kernel⟩
theorem qjT {f:Addr}{fd:FuncData}(F:Fun K "_law_ahead" "_law_ahead" Jo f fd)  : FnOk P w K mg base CX 1 f fd ["_law_u", "_law_v"] (qV K qkS):=by
 refine F.okD qf3 (fun es μ Q hq0=>by obtain ⟨u,v,e,_⟩:=hq0;subst e;rfl) (fun cdv A outer s H E es μ Q hr hq0=>?_)
 obtain ⟨u,v,e,k⟩:=hq0
 subst e
 have nd:=qf3.nd
 refine ⟨_,(qq (jd (qdD (J5 (q9 qh0 (y8 qM (dv 0) qt (fun _ _=>rfl)) (y8 qM (dv 1) qt (fun _ _=>rfl)) (qP _)) (Js (q9 qh0 (y8 qM (dv 0) qt (fun _ _=>rfl)) (y8 qM (dv 1) qt (fun _ _=>rfl)) (qP _))))) (qC (qN (yl (qa (yl (qa (qZ yA (y8 qM (dv 0) qt (fun _ _=>rfl)) (y8 qM (dv 1) qt (fun _ _=>rfl))) (qa (qZ yA (y8 qM (dv 0) qt (fun _ _=>rfl)) (y8 qM (dv 1) qt (fun _ _=>rfl))) qd))) (qa (dv 1) qd))))) yz)
   (qC (qN (yl (qa (dv 0) (qa (yl (qa (qZ yA (y8 qM (dv 1) qt (fun _ _=>rfl)) (y8 qM (dv 0) qt (fun _ _=>rfl))) (qa (qZ yA (y8 qM (dv 1) qt (fun _ _=>rfl)) (y8 qM (dv 0) qt (fun _ _=>rfl))) qd))) qd)))))),?_⟩
 unfold bck at k
 have no:¬ (u.1 ≥ v.1/\u.2 ≥ v.2)->Q (.d (prD (u,(v.1 - u.1,v.2 - u.2)))) μ:=fun z=>by rw [if_neg z] at k;exact k
 refine ⟨_,rfl,_,rfl,jv (fun c=>⟨_,rfl,_,rfl,jv (fun c2=>?_) (fun c2=>?_)⟩) (fun c=>qah ?_)⟩
 ·have c:v.1<=u.1:=qr c
  have c2:v.2<=u.2:=qr c2
  rw [if_pos ⟨c,c2⟩] at k
  exact ⟨_,rfl,_,rfl,_,rfl,_,rfl,zl2,zl2,k⟩
 ·have c2:¬ v.2<=u.2:=fun z=>c2 (qu z)
  exact ⟨_,rfl,_,rfl,_,rfl,_,rfl,zl2,zl2,no fun z=>c2 z.2⟩
 ·have c:¬ v.1<=u.1:=fun z=>c (qu z)
  exact ⟨_,rfl,_,rfl,_,rfl,_,rfl,zl2,zl2,no fun z=>c z.1⟩
theorem shp (r:Pt×Pt):SeqAt.shaped (prD r)=true:=rfl
theorem qdx (r r':Pt×Pt):PyData.eqv (prD r) (prD r')=decide (r=r'):=by
 obtain ⟨⟨a,b⟩,c,d⟩:=r
 obtain ⟨⟨a',b'⟩,c',d'⟩:=r'
 unfold prD ptD
 rw [Bool.eq_iff_iff]
 simp [PyData.eqv,PyData.eqvAll,Prod.ext_iff,and_assoc]
theorem sb_sz {k:Nat}(hk:k<=28) {x y:Pt}(h:SB k x y):Sz 40 x.1/\Sz 40 x.2/\Sz 40 y.1/\Sz 40 y.2:=by
 have p:(2:Int) ^ k<=268435456:=by
  have h1:(2 ^ k:Nat)<=2 ^ 28:=Nat.pow_le_pow_right (by decide) hk
  have h2:(2 ^ 28:Nat)=268435456:=by decide +kernel
  rw [h2] at h1
  have h3:((2 ^ k:Nat):Int)=(2:Int) ^ k:=by simp
  omega
 obtain ⟨a,b,c,d,_,⟨s1,s2⟩,_⟩:=h.f
 refine ⟨Sz.of 268435456 (by omega) (by decide),Sz.of 268435456 (by omega) (by decide),Sz.of 268435456 (by omega) (by decide),Sz.of 268435456 (by omega) (by decide)⟩
def sStp:SpD:=fun es μ Q=>∃ (k:Nat) (x y:Pt),es=[.d (ptD x),.d (ptD y)]/\SB k x y/\k<=26/\Q (.d (.int k)) μ
theorem qfL:FnScope ["_law_u", "_law_v", "_law_found"] ["_law_u", "_law_v"] (qp jM):=⟨rfl,rfl,rfl,by decide +kernel,rfl,by decide +kernel,by decide +kernel⟩
theorem qjB {f:Addr}{fd:FuncData}(F:Fun K "_law_steps_of" "_law_steps_of" jM f fd) (T:Txt mg) (hX:NoX CX) (O_law_ahead:Own P w K mg base CX 1 "_law_ahead" ["_law_u", "_law_v"] (qV K qkS)):FnOk P w K mg base CX 2 f fd ["_law_u", "_law_v"] (qV K sStp):=by
 refine F.okD qfL (fun es μ Q hq0=>by obtain ⟨k,x,y,e,_⟩:=hq0;subst e;rfl) (fun cdv A outer s H E es μ Q hr hq0=>?_)
 obtain ⟨kk,x,y,e,hs,hk,k⟩:=hq0
 subst e
 have nd:=qfL.nd
 refine ⟨_,(qq (qW (i:=2) nd rfl (by first | exact Or.inl rfl | exact Or.inr rfl) qt)
   (qq (Yk PassesOwn.never (qdD (J5 (q9 (Ya hr.units) (yl (qa (dv 0) (qa (dv 1) qd))) (yl (qa (yl (qa qt (qa qt qd))) (qa (yl (qa qt (qa qt qd))) qd))) (qP _)) (Js (q9 Yb (dv 2) qt (qP _))))) (qq (jd (qdD (qdC (q9 Yb (qO (qdL rfl) (by rfl) T.min_ YW (qa (qZ qdI (dv 0) (dv 1)) qd)) qt (qP _)) (qbj (q9 (Ya hr.units) (qZ yA (qZ qG (y8 qM (dv 0) qt (fun _ _=>rfl)) (y8 qM (dv 1) qt (fun _ _=>rfl))) (qZ qG (y8 qM (dv 0) qt (fun _ _=>rfl)) (y8 qM (dv 1) qt (fun _ _=>rfl)))) qt (qP _))))) (qC (qN qkm)) yz)
   (qq (y7 (qQ O_law_ahead hX (hr.mono (by decide)) rfl (qa (dv 0) (qa (dv 1) qd))) (yI (n:=2) rfl (qw (qy (i:=0) nd rfl (by first | exact Or.inl rfl | exact Or.inr rfl)) (qw (qy (i:=1) nd rfl (by first | exact Or.inl rfl | exact Or.inr rfl)) yh))))
   (qC (qW (i:=2) nd rfl (by first | exact Or.inl rfl | exact Or.inr rfl) (qZ yw (dv 2) qt))))))
   (qC (qN (qdP (q9 (Yc hr.units) (yl (qa (dv 0) (qa (dv 1) qd))) (yl (qa (yl (qa qt (qa qt qd))) (qa (yl (qa qt (qa qt qd))) qd))) (qP _)) (dv 2) qkm))))),?_⟩
 refine ⟨fun m ρ' μ'=>μ'=μ/\∃ x y:Pt,SB m x y/\m<=kk/\ρ'=[some (.d (ptD x)),some (.d (ptD y)),some (.d (.int ((kk - m:Nat):Int)))],⟨kk,rfl,x,y,hs,qi _,?_⟩,?_⟩
 ·rw [Nat.sub_self];rfl
 rintro m ρ' μ' ⟨rfl,x,y,hs,hm,rfl⟩
 have bs:PyData.eqv (prD (x,y)) (prD ((1,0),(0,1)))=decide ((x,y)=(((1,0),(0,1)):Pt×Pt)):=qdx _ _
 refine ⟨zl2,zl2,zl2,zl2,_,_,.d _,.d _,shp (x,y),shp ((1,0),(0,1)),jv (fun c=>?_) (fun c=>qah ?_)⟩
 ·have c:(!PyData.eqv (prD (x,y)) (prD ((1,0),(0,1))))=true:=c
  rw [bs] at c
  have c:(x,y)≠(((1,0),(0,1)):Pt×Pt):=fun z=>by rw [qu z] at c;cases c
  obtain ⟨m',rfl⟩:∃ m',m=m'+1:=by
   cases m with
   | zero=>cases hs;exact absurd rfl c
   | succ m'=>exact ⟨m',rfl⟩
  obtain ⟨x',y',hp,hch⟩:=hs.par
  have eb:=qd7 hp hch
  obtain ⟨a1,a2,a3,a4,dt,_⟩:=hs.f
  obtain ⟨s1,s2,s3,s4⟩:=sb_sz (by omega) hs
  refine jv (fun c2=>?_) (fun c2=>?_)
  ·refine ⟨_,_,rfl,rfl,(fun z=>nomatch z),(fun z=>nomatch z),(show 4<=4000 by decide),[x.1,x.2,y.1,y.2],rfl,(fun z=>nomatch z),fun mn hmn _=>?_⟩
   have mn0:0<=mn:=by
    simp only [List.mem_cons,List.not_mem_nil,or_false] at hmn
    rcases hmn with rfl | rfl | rfl | rfl <;> assumption
   refine jv (fun c3=>?_) (fun c3=>?_)
   ·have c3:mn<0:=qr c3
    omega
   refine ⟨_,rfl,_,rfl,jq s1 s4 (by decide),_,rfl,_,rfl,jq s2 s3 (by decide),jv (fun c4=>?_) (fun _=>?_)⟩
   ·have c4:(!decide (x.1 * y.2 - x.2 * y.1=1))=true:=c4
    rw [dt] at c4
    cases c4
   refine ⟨x,y,rfl,?_⟩
   rw [eb]
   refine ⟨rfl,m',by omega,Wks.of ⟨rfl,x',y',hp,by omega,?_⟩⟩
   have:((kk - (m'+1):Nat):Int)+1=((kk - m':Nat):Int):=by omega
   rw [<- this]
   rfl
  ·have c2:¬ ((kk - (m'+1):Nat):Int)<70:=fun z=>c2 (qu z)
   omega
 ·have c:¬ (!PyData.eqv (prD (x,y)) (prD ((1,0),(0,1))))=true:=c
  rw [bs] at c
  have c:(x,y)=(((1,0),(0,1)):Pt×Pt):=by
   by_cases z:(x,y)=(((1,0),(0,1)):Pt×Pt)
   ·exact z
   ·rw [yt z] at c;exact absurd rfl c
  cases c
  have m0:=qg2 hs
  subst m0
  refine ⟨zl2,zl2,zl2,zl2,_,_,.d _,.d _,shp ((1,0),(0,1)),shp ((1,0),(0,1)),?_⟩
  exact k
end
section
variable {P:Program}{w:World}{K:W.Frag}{mg:Str->Option Value}{base:Heap}{CX:CXT}
def sQrt:SpD:=fun es μ Q=>∃ (k:Nat) (b:Bool) (x y:Pt),es=[.d (ptD (Wq b x)),.d (ptD (Wq b y))]/\SB k x y/\Q (.d (prD (x,y))) μ
theorem qfQ:FnScope ["_law_u", "_law_v"] ["_law_u", "_law_v"] (qp yG):=⟨rfl,rfl,rfl,by decide +kernel,rfl,by decide +kernel,by decide +kernel⟩
theorem qjG {f:Addr}{fd:FuncData}(F:Fun K "_law_in_first_quarter" "_law_in_first_quarter" yG f fd) (T:Txt mg) (hX:NoX CX) (O_law_turned_back:Own P w K mg base CX 1 "_law_turned_back" ["_law_arrow"] (qV K sTbk)):FnOk P w K mg base CX 2 f fd ["_law_u", "_law_v"] (qV K sQrt):=by
 refine F.okD qfQ (fun es μ Q hq0=>by obtain ⟨k,b,x,y,e,_⟩:=hq0;subst e;rfl) (fun cdv A outer s H E es μ Q hr hq0=>?_)
 obtain ⟨kk,b,x,y,e,hs,k⟩:=hq0
 subst e
 have nd:=qfQ.nd
 refine ⟨_,(qq (jd (q9 Yb (qO (qdL rfl) (by rfl) T.min_ YW (qa (qZ qdI (dv 0) (dv 1)) qd)) qt (qP _)) (qC (qN (yl (qa (qQ O_law_turned_back hX (hr.mono (by decide)) rfl (qa (dv 0) qd)) (qa (qQ O_law_turned_back hX (hr.mono (by decide)) rfl (qa (dv 1) qd)) qd))))) yz)
   (qC (qN (yl (qa (dv 0) (qa (dv 1) qd)))))),?_⟩
 obtain ⟨a1,a2,a3,a4,_,_,_,p1,p2⟩:=hs.f
 refine ⟨_,_,rfl,rfl,(fun z=>nomatch z),(fun z=>nomatch z),(show 4<=4000 by decide),[(Wq b x).1,(Wq b x).2,(Wq b y).1,(Wq b y).2],rfl,(fun z=>nomatch z),fun mn hmn hle=>?_⟩
 cases b with
 | false =>
  have e1:∀ z:Pt,Wq false z=z:=fun _=>rfl
  simp only [e1,List.mem_cons,List.not_mem_nil,or_false] at hmn
  have mn0:0<=mn:=by rcases hmn with rfl | rfl | rfl | rfl <;> assumption
  refine jv (fun c3=>?_) (fun c3=>?_)
  ·have c3:mn<0:=qr c3
   omega
  ·exact ⟨zl2,k⟩
 | true =>
  have l1:=hle (Wq true y).1 (by simp)
  have l1:mn <= -y.2:=l1
  refine jv (fun c3=>?_) (fun c3=>?_)
  ·have tb:∀ z:Pt,(((Wq true z).2,-(Wq true z).1):Pt)=z:=fun z=>Prod.ext rfl (by show - -z.2=z.2;omega)
   refine ⟨Wq true x,rfl,Wq true y,rfl,zl2,?_⟩
   rw [tb,tb]
   exact k
  ·have c3:¬ mn<0:=fun z=>c3 (qu z)
   omega
theorem qgi {a b:Int}(ha:a = -1\/a=0\/a=1):Sz 2 a:=by
 rcases ha with rfl | rfl | rfl <;> (unfold Sz;decide)
theorem wq_ne {k:Nat}{x y:Pt}(h:SB k x y):(x,y)≠(Wq true x,Wq true y):=fun z=>by
 have e:y=Wq true y:=congrArg Prod.snd z
 have e1:y.1 = -y.2:=congrArg Prod.fst e
 have:=h.f.c
 have:=h.f.pv
 omega
def sEnd:SpD:=fun es μ Q=>∃ (Z1 Z2:List Pt) (b:Bool) (x y:Pt) (n:Nat),es=[.d (hpD Z1),.d (hpD Z2),.d (ptD (Wq b x)),.d (ptD (Wq b y)),.d (.int n)]/\Ck Z1/\Ck Z2/\n<=26/\EndA (oF Z1 Z2) n b x y/\Q (.d (.bool true)) μ
theorem qfW:FnScope ["_law_one", "_law_two", "_law_u", "_law_v", "_law_steps", "_law_at_u", "_law_at_v", "_law_first", "_law_last", "_law_before"] ["_law_one", "_law_two", "_law_u", "_law_v", "_law_steps"] (qp yT):=⟨rfl,rfl,rfl,by decide +kernel,rfl,by decide +kernel,by decide +kernel⟩
theorem qjM {f:Addr}{fd:FuncData}(F:Fun K "_law_ends_right" "_law_ends_right" yT f fd) (T:Txt mg) (hX:NoX CX) (Ocut_order:Own P w K mg base CX 9 "cut_order" ["one", "other", "arrow"] (qV K qiR)) (O_law_in_first_quarter:Own P w K mg base CX 2 "_law_in_first_quarter" ["_law_u", "_law_v"] (qV K sQrt)) (O_law_steps_of:Own P w K mg base CX 2 "_law_steps_of" ["_law_u", "_law_v"] (qV K sStp)) (O_law_ahead:Own P w K mg base CX 1 "_law_ahead" ["_law_u", "_law_v"] (qV K qkS)):FnOk P w K mg base CX 10 f fd ["_law_one", "_law_two", "_law_u", "_law_v", "_law_steps"] (qV K sEnd):=by
 refine F.okD qfW (fun es μ Q hq0=>by obtain ⟨Z1,Z2,b,x,y,n,e,_⟩:=hq0;subst e;rfl) (fun cdv A outer s H E es μ Q hr hq0=>?_)
 obtain ⟨Z1,Z2,b,x,y,n,e,c1,c2,hn,⟨hs,pr,pv⟩,k⟩:=hq0
 subst e
 have nd:=qfW.nd
 refine ⟨_,(qq (Yz (i:=5) (j:=6) rfl nd rfl rfl (by decide) rfl rfl (qa (qQ Ocut_order hX (hr.mono (by decide)) rfl (qa (dv 0) (qa (dv 1) (qa (dv 2) qd)))) (qa (qQ Ocut_order hX (hr.mono (by decide)) rfl (qa (dv 0) (qa (dv 1) (qa (dv 3) qd)))) qd)) rfl)
   (qq (jd (q9 Zd (qZ qG (dv 5) (dv 6)) qt (qP _)) (qC (qN qiv)) yz)
   (qq (y7 (qQ O_law_in_first_quarter hX (hr.mono (by decide)) rfl (qa (dv 2) (qa (dv 3) qd))) (yI (n:=2) rfl (qw (qy (i:=7) nd rfl (by first | exact Or.inl rfl | exact Or.inr rfl)) (qw (qy (i:=8) nd rfl (by first | exact Or.inl rfl | exact Or.inr rfl)) yh))))
   (qq (jd (q9 (Ya hr.units) (qQ O_law_steps_of hX (hr.mono (by decide)) rfl (qa (dv 7) (qa (dv 8) qd))) (dv 4) (qP _)) (qC (qN qiv)) yz)
   (qq (jd (q9 (Yc hr.units) (dv 4) qt (qP _)) (qC (qN qiv)) yz)
   (qq (qW (i:=9) nd rfl (by first | exact Or.inl rfl | exact Or.inr rfl) (qQ O_law_ahead hX (hr.mono (by decide)) rfl (qa (dv 7) (qa (dv 8) qd))))
   (qq (jd (q9 (Ya hr.units) (yl (qa (dv 7) (qa (dv 8) qd))) (yl (qa (dv 2) (qa (dv 3) qd))) (qP _)) (qC (qW (i:=9) nd rfl (by first | exact Or.inl rfl | exact Or.inr rfl) (JE qff (by rfl) T.tuple_ Zj (qa (j3 (L:=["_law_p", "_law_q"]) (sc:=qp yT) (N:=["_law_one", "_law_two", "_law_u", "_law_v", "_law_steps", "_law_at_u", "_law_at_v", "_law_first", "_law_last", "_law_before"]) rfl rfl rfl (by decide +kernel) (qdJ (dv 9)) (fun _ _ _ _ _=>(yI (n:=2) rfl (qw (qy (i:=10) (show List.Nodup (["_law_one", "_law_two", "_law_u", "_law_v", "_law_steps", "_law_at_u", "_law_at_v", "_law_first", "_law_last", "_law_before", "_law_p", "_law_q"]:List Str) from by decide +kernel) rfl (by first | exact Or.inl rfl | exact Or.inr rfl)) (qw (qy (i:=11) (show List.Nodup (["_law_one", "_law_two", "_law_u", "_law_v", "_law_steps", "_law_at_u", "_law_at_v", "_law_first", "_law_last", "_law_before", "_law_p", "_law_q"]:List Str) from by decide +kernel) rfl (by first | exact Or.inl rfl | exact Or.inr rfl)) yh)))) (fun _ _ _ _ _=>je) (fun _ _ _ _ _=>(yl (qa (Z4 jm (dv 11)) (qa (dv 10) qd))))) qd)))) yz)
   (qC (qN (qfj (Z5 (Ya hr.units) (qQ Ocut_order hX (hr.mono (by decide)) rfl (qa (dv 0) (qa (dv 1) (qa (y8 qM (dv 9) qt (fun _ _=>rfl)) qd)))) qt (qP _)) (qh6 (Z5 (Ya hr.units) (qQ Ocut_order hX (hr.mono (by decide)) rfl (qa (dv 0) (qa (dv 1) (qa (y8 qM (dv 9) qt (fun _ _=>rfl)) qd)))) qt (qP _))))))))))))),?_⟩
 have ax:=qbC (k:=n) (by omega) b (x:=x) ⟨y,.inl hs⟩
 have ay:=qbC (k:=n) (by omega) b (x:=y) ⟨x,.inr hs⟩
 refine ⟨Z1,Z2,Wq b x,rfl,c1,c2,ax,fun i hi=>⟨Z1,Z2,Wq b y,rfl,c1,c2,ay,fun j hj=>?_⟩⟩
 have ei:=YE c1 c2 ax (ZK hi)
 have ej:=YE c1 c2 ay (ZK hj)
 rw [ei,ej] at pr
 dsimp only [List.set_cons_zero,List.set_cons_succ]
 refine ⟨jq (qgi (b:=0) (by have:=qcW Z1 Z2 (Wq b x);rwa [ei] at this)) (qgi (b:=0) (by have:=qcW Z1 Z2 (Wq b y);rwa [ej] at this)) (by decide),jv (fun c=>?_) (fun _=>?_)⟩
 ·have c:0<i * j:=qr c
  omega
 refine ⟨n,b,x,y,rfl,hs,rfl,?_⟩
 dsimp only [List.set_cons_zero,List.set_cons_succ]
 refine ⟨n,x,y,rfl,hs,hn,jv (fun c=>?_) (fun _=>?_)⟩
 ·have c:(!decide (((n:Nat):Int)=((n:Nat):Int)))=true:=c
  simp at c
 refine jv (fun _=>k) (fun c=>?_)
 have n0:0<n:=by
  have:¬ ((n:Nat):Int)=0:=fun z=>c (qu z)
  omega
 obtain ⟨x',y',hp,hch,f1,f2⟩:=pv n0
 have ax':=qbC (k:=n - 1) (by omega) b (x:=x') ⟨y',.inl hp⟩
 have ay':=qbC (k:=n - 1) (by omega) b (x:=y') ⟨x',.inr hp⟩
 refine ⟨x,y,rfl,?_⟩
 rw [qd7 hp hch]
 dsimp only [List.set_cons_zero,List.set_cons_succ]
 have fin1:∀ {i':Int},Ord Z1 Z2 (Wq b x') i'->i'≠0:=fun {i'} h=>by rw [YE c1 c2 ax' (ZK h)] at f1;exact f1
 have fin2:∀ {i':Int},Ord Z1 Z2 (Wq b y') i'->i'≠0:=fun {i'} h=>by rw [YE c1 c2 ay' (ZK h)] at f2;exact f2
 refine ⟨zl2,zl2,_,_,.d _,.d _,shp (x,y),shp (Wq b x,Wq b y),?_⟩
 cases b with
 | false =>
  refine jv (fun c=>?_) (fun _=>?_)
  ·have c:(!PyData.eqv (prD (x,y)) (prD (x,y)))=true:=c
   rw [qdx,qu rfl] at c
   cases c
  ·refine ⟨_,rfl,Z1,Z2,x',rfl,c1,c2,ax',fun i' h1=>jv (fun _=>?_) (fun c=>?_)⟩
   ·refine ⟨_,rfl,Z1,Z2,y',rfl,c1,c2,ay',fun j' h2=>?_⟩
    have e:(!decide (j'=0))=true:=by have:=fin2 h2;simpa using this
    show Q (.d (.bool (!decide (j'=0)))) μ
    rw [e]
    exact k
   ·have c:¬ (!decide (i'=0))=true:=c
    have:=fin1 h1
    simp [this] at c
 | true =>
  refine jv (fun _=>?_) (fun c=>?_)
  ·refine ⟨(show 2<=4000 by decide),Z7 (as:=[x',y']) (h1:=fun q=>.int q.1) (h2:=fun q=>.int q.2) (fun q=>ptD (Wq true q)) Src.t (fun q hq R h=>⟨zl2,h⟩) ?_⟩
   refine ⟨_,.d _,?_⟩
   dsimp only [List.set_cons_zero,List.set_cons_succ]
   refine ⟨_,rfl,Z1,Z2,Wq true x',rfl,c1,c2,ax',fun i' h1=>jv (fun _=>?_) (fun c=>?_)⟩
   ·refine ⟨_,rfl,Z1,Z2,Wq true y',rfl,c1,c2,ay',fun j' h2=>?_⟩
    have e:(!decide (j'=0))=true:=by have:=fin2 h2;simpa using this
    show Q (.d (.bool (!decide (j'=0)))) μ
    rw [e]
    exact k
   ·have c:¬ (!decide (i'=0))=true:=c
    have:=fin1 h1
    simp [this] at c
  ·have c:¬ (!PyData.eqv (prD (x,y)) (prD (Wq true x,Wq true y)))=true:=c
   rw [qdx,yt (wq_ne hs)] at c
   exact absurd rfl c
end
section
variable {P:Program}{w:World}{K:W.Frag}{mg:Str->Option Value}{base:Heap}{CX:CXT}
theorem qdo {Z:List Pt}(f:Pt->Pt) {i:Nat}(h:i<Z.length):gP (Z.map f) i=f (gP Z i):=by
 rw [jE (by rw [List.length_map];exact h),jE h,List.getElem_map]
theorem qia {Z:List Pt}{f:Pt->Pt}(hf:∀ p q r,ac (f p) (f q) (f r)=ac p q r) (h:Cvx Z):Cvx (Z.map f):=by
 intro i j hi hj h1 h2
 rw [List.length_map] at hi hj h2
 rw [List.length_map,qdo f hi,qdo f (yE _ (by omega)),qdo f hj,hf]
 exact h i j hi hj h1 h2
theorem qfm {Z:List Pt}(hc:Ck Z) (a b:Int) (hn:∀ q∈Z,qbs (q.1+a,q.2+b)):Ck (Z.map fun q=>(q.1+a,q.2+b)):=by
 refine ⟨qia (fun p q r=>by unfold ac;dsimp only;grind) hc.1,by rw [List.length_map];exact hc.2.1,by rw [List.length_map];exact hc.2.2.1,fun q hq=>?_⟩
 obtain ⟨q0,hq0,rfl⟩:=qE.mp hq
 exact hn q0 hq0
def sDep:SpD:=fun es μ Q=>∃ (k:Nat) (b:Bool) (x:Pt),es=[.d (ptD (Wq b x))]/\AtD k x/\k<=26/\∀ f:Int,f<=k->Q (.d (.int f)) μ
theorem qfX:FnScope ["_law_arrow", "_law_a", "_law_b", "_law_found"] ["_law_arrow"] (qp jB):=⟨rfl,rfl,rfl,by decide +kernel,rfl,by decide +kernel,by decide +kernel⟩
theorem qjN {f:Addr}{fd:FuncData}(F:Fun K "_law_depth" "_law_depth" jB f fd) (T:Txt mg):FnOk P w K mg base CX 1 f fd ["_law_arrow"] (qV K sDep):=by
 refine F.okD qfX (fun es μ Q hq0=>by obtain ⟨k,b,x,e,_⟩:=hq0;subst e;rfl) (fun cdv A outer s H E es μ Q hr hq0=>?_)
 obtain ⟨kk,b,x,e,hx,hk,k⟩:=hq0
 subst e
 have nd:=qfX.nd
 have key:∃ t,DSs K (qbS CX P w K mg base ["_law_arrow", "_law_a", "_law_b", "_law_found"] "_law_depth" (qp jB) f cdv A outer s H E).nox ((yW jB).drop 2) t ∧
   ∀ (a:En) (x:Pt),AtD kk x->t { nx:=fun _ μ'=>Q (.d .none) μ',rt:=Q } [some a,some (.d (.int x.1)),some (.d (.int x.2)),none] μ:=by
  refine ⟨_,(qq (qW (i:=3) nd rfl (by first | exact Or.inl rfl | exact Or.inr rfl) qt)
   (qq (Yk PassesOwn.never (qdD (J5 (q9 Zd (dv 1) qt (qP _)) (J5 (q9 Zd (dv 2) qt (qP _)) (Js (q9 Yb (dv 3) qt (qP _)))))) (qq (y7 (y8 qM (qfh (qa (yl (qa (dv 1) (qa (qZ yA (dv 2) (dv 1)) qd))) (qa (yl (qa (qZ yA (dv 1) (dv 2)) (qa (dv 2) qd))) qd))) (JE qkl (by rfl) T.int_ qgz (qa (Z5 qh0 (dv 1) (dv 2) (qP _)) qd)) (fun _ _=>rfl)) (yI (n:=2) rfl (qw (qy (i:=1) nd rfl (by first | exact Or.inl rfl | exact Or.inr rfl)) (qw (qy (i:=2) nd rfl (by first | exact Or.inl rfl | exact Or.inr rfl)) yh))))
   (qC (qW (i:=3) nd rfl (by first | exact Or.inl rfl | exact Or.inr rfl) (qZ yw (dv 3) qt)))))
   (qC (qN (dv 3))))),fun a x hx=>?_⟩
  refine ⟨fun m ρ' μ'=>μ'=μ/\∃ (x:Pt) (g:Int),AtD m x/\g+m<=kk/\ρ'=[some a,some (.d (.int x.1)),some (.d (.int x.2)),some (.d (.int g))],⟨kk,rfl,x,0,hx,by omega,rfl⟩,?_⟩
  rintro m ρ' μ' ⟨rfl,x,g,hx,hg,rfl⟩
  have out:Q (.d (.int g)) μ':=k g (by omega)
  refine jv (fun c=>jv (fun c2=>jv (fun c3=>?_) (fun _=>out)) (fun c2=>qah out)) (fun c=>qah out)
  have c:0<x.1:=qr c
  have c2:0<x.2:=qr c2
  obtain ⟨m',rfl⟩:∃ m',m=m'+1:=by
   cases m with
   | zero=>rcases hx.zero with rfl | rfl <;> omega
   | succ m'=>exact ⟨m',rfl⟩
  have sb:=hx.sub c c2
  by_cases c4:x.2<=x.1
  ·have ha:atI [PyData.tuple [.int x.1,.int (x.2 - x.1)],.tuple [.int (x.1 - x.2),.int x.2]] (if decide (x.2<=x.1)=true then 1 else 0)=some (.tuple [.int (x.1 - x.2),.int x.2]):=by rw [qu c4];rfl
   rw [if_pos c4] at sb
   exact ⟨zl2,zl2,zl2,_,ha,rfl,m',by omega,Wks.of ⟨rfl,(x.1 - x.2,x.2),g+1,sb,by omega,rfl⟩⟩
  ·have ha:atI [PyData.tuple [.int x.1,.int (x.2 - x.1)],.tuple [.int (x.1 - x.2),.int x.2]] (if decide (x.2<=x.1)=true then 1 else 0)=some (.tuple [.int x.1,.int (x.2 - x.1)]):=by rw [yt c4];rfl
   rw [if_neg c4] at sb
   exact ⟨zl2,zl2,zl2,_,ha,rfl,m',by omega,Wks.of ⟨rfl,(x.1,x.2 - x.1),g+1,sb,by omega,rfl⟩⟩
 obtain ⟨t,ht,hk2⟩:=key
 refine ⟨_,(qq (y7 (dv 0) (yI (n:=2) rfl (qw (qy (i:=1) nd rfl (by first | exact Or.inl rfl | exact Or.inr rfl)) (qw (qy (i:=2) nd rfl (by first | exact Or.inl rfl | exact Or.inr rfl)) yh))))
   (qq (jd (q9 Yb (qO (qdM rfl) (by rfl) T.min_ YW (qa (dv 1) (qa (dv 2) qd))) qt (qP _)) (qC (Yz (i:=1) (j:=2) rfl nd rfl rfl (by decide) rfl rfl (qa (dv 2) (qa (Z4 jm (dv 1)) qd)) rfl)) yz)
   ht)),?_⟩
 obtain ⟨n1,n2,n3⟩:=hx.nn
 cases b with
 | false =>
  refine ⟨rfl,jv (fun c=>?_) (fun _=>hk2 _ x hx)⟩
  have c:(if x.2<x.1 then x.2 else x.1)<0:=qr c
  split at c <;> omega
 | true =>
  refine ⟨rfl,jv (fun c=>?_) (fun c=>?_)⟩
  ·have:=hk2 (.d (ptD (Wq true x))) x hx
   have e:- (Wq true x).1=x.2:=by show - -x.2=x.2;omega
   rw [<- e] at this
   exact this
  ·have c:¬ (if x.1 < -x.2 then x.1 else -x.2)<0:=fun z=>c (qu z)
   have x20:x.2=0:=by split at c <;> omega
   have x11:x.1=1:=by
    obtain ⟨y,h' | h'⟩:=hx
    ·have dt:=h'.f.det
     have hv:=h'.f.pv
     rw [x20] at dt
     have e:x.1 * y.2=1:=by omega
     have:=Int.mul_le_mul_of_nonneg_left hv n1
     have:=h'.f.pu
     omega
    ·have:=h'.f.pv
     omega
   obtain ⟨u,hu⟩:=qih kk
   have:=hk2 (.d (ptD (Wq true x))) (0,1) ⟨u,.inr hu⟩
   have e1:(Wq true x).1=0:=by show -x.2=0;omega
   have e2:(Wq true x).2=1:=x11
   have e3:(Wq true x)=(0,1):=Prod.ext e1 e2
   rw [e3] at this ⊢
   exact this
theorem qhD {q:Pt}(h:(if ((q.1.natAbs:Nat):Int)<((q.2.natAbs:Nat):Int) then ((q.2.natAbs:Nat):Int) else ((q.1.natAbs:Nat):Int))<1000000000000000000000000000000):qbs q:=by
 unfold qbs Num
 split at h <;> omega
def sSec:SpD:=fun es μ Q=>∃ (p:Addr) (Z:List Pt),es=[.m p,.d (hpD Z)]/\(p,PA0)∈μ/\Ck Z/\∀ Z2:List Pt,Ck Z2->Q (.d (hpD Z2)) μ
theorem qfO:FnScope ["_law_pot_here", "_law_cake_here", "_law_by", "_law_up", "_law_found"] ["_law_pot_here", "_law_cake_here"] (qp jl):=⟨rfl,rfl,rfl,by decide +kernel,rfl,by decide +kernel,by decide +kernel⟩
theorem qjE {f:Addr}{fd:FuncData}(F:Fun K "_law_second" "_law_second" jl f fd) (T:Txt mg) (hX:NoX CX) (O_law_take:Own P w K mg base CX 1 "_law_take" ["_law_pot_here", "_law_many"] (qV K (sDraw 2147483629))) (O_law_cake:Own P w K mg base CX 4 "_law_cake" ["_law_pot_here"] (qV K qey)):FnOk P w K mg base CX 5 f fd ["_law_pot_here", "_law_cake_here"] (qV K sSec):=by
 refine F.okD qfO (fun es μ Q hq0=>by obtain ⟨p,Z,e,_⟩:=hq0;subst e;rfl) (fun cdv A outr s H E es μ Q hr hq0=>?_)
 obtain ⟨p,Z,e,hp,hc,k⟩:=hq0
 subst e
 have nd:=qfO.nd
 refine ⟨_,(qq (jd (q9 Zd (qQ O_law_take hX (hr.mono (by decide)) rfl (qa (dv 0) (qa qt qd))) qt (qP _)) (qC (qN (qQ O_law_cake hX (hr.mono (by decide)) rfl (qa (dv 0) qd)))) yz)
   (qq (y7 (yl (qa (qZ yA (qQ O_law_take hX (hr.mono (by decide)) rfl (qa (dv 0) (qa qt qd))) qt) (qa (qZ yA (qQ O_law_take hX (hr.mono (by decide)) rfl (qa (dv 0) (qa qt qd))) qt) qd))) (yI (n:=2) rfl (qw (qy (i:=2) nd rfl (by first | exact Or.inl rfl | exact Or.inr rfl)) (qw (qy (i:=3) nd rfl (by first | exact Or.inl rfl | exact Or.inr rfl)) yh))))
   (qq (qaB (i:=4) nd rfl (by first | exact Or.inl rfl | exact Or.inr rfl) (L:=["_law_x", "_law_y"]) (sc:=qp jl) (N:=["_law_pot_here", "_law_cake_here", "_law_by", "_law_up", "_law_found"]) rfl rfl rfl (by decide +kernel) (jr (dv 1)) (fun _ _ _ _ _=>(yI (n:=2) rfl (qw (qy (i:=5) (show List.Nodup (["_law_pot_here", "_law_cake_here", "_law_by", "_law_up", "_law_found", "_law_x", "_law_y"]:List Str) from by decide +kernel) rfl (by first | exact Or.inl rfl | exact Or.inr rfl)) (qw (qy (i:=6) (show List.Nodup (["_law_pot_here", "_law_cake_here", "_law_by", "_law_up", "_law_found", "_law_x", "_law_y"]:List Str) from by decide +kernel) rfl (by first | exact Or.inl rfl | exact Or.inr rfl)) yh)))) (fun _ _ _ _ _=>je) (fun _ _ _ _ _=>(yl (qa (qZ yw (dv 5) (dv 2)) (qa (qZ yw (dv 6) (dv 3)) qd)))))
   (qq (jd (q9 Yb (qO (qaC (K:=K) rfl) (by rfl) T.max_ J8 (qa (j3 (L:=["_law_x", "_law_y"]) (sc:=qp jl) (N:=["_law_pot_here", "_law_cake_here", "_law_by", "_law_up", "_law_found"]) rfl rfl rfl (by decide +kernel) (jr (dv 4)) (fun _ _ _ _ _=>(yI (n:=2) rfl (qw (qy (i:=5) (show List.Nodup (["_law_pot_here", "_law_cake_here", "_law_by", "_law_up", "_law_found", "_law_x", "_law_y"]:List Str) from by decide +kernel) rfl (by first | exact Or.inl rfl | exact Or.inr rfl)) (qw (qy (i:=6) (show List.Nodup (["_law_pot_here", "_law_cake_here", "_law_by", "_law_up", "_law_found", "_law_x", "_law_y"]:List Str) from by decide +kernel) rfl (by first | exact Or.inl rfl | exact Or.inr rfl)) yh)))) (fun _ _ _ _ _=>je) (fun _ _ _ _ _=>(qO (Z3 rfl) (by rfl) T.max_ J8 (qa (qO JD (by rfl) T.abs_ JF (qa (dv 5) qd)) (qa (qO JD (by rfl) T.abs_ JF (qa (dv 6) qd)) qd))))) qd)) (qZ YQ qt qt) (qP _)) (qC (qN (dv 4))) yz)
   (qC (qN (qQ O_law_cake hX (hr.mono (by decide)) rfl (qa (dv 0) qd)))))))),?_⟩
 have l3:=hc.2.1
 have l12:=hc.2.2.1
 refine ⟨p,_,rfl,hp,by decide,by decide,fun g g0 g1=>jv (fun _=>⟨p,rfl,hp,fun Z2 h2=>k Z2 h2⟩) (fun _=>?_)⟩
 refine ⟨p,_,rfl,hp,by decide,by decide,fun x x0 x1=>⟨p,_,rfl,hp,by decide,by decide,fun y y0 y1=>⟨zl2,rfl,?_⟩⟩⟩
 dsimp only [List.set_cons_zero,List.set_cons_succ]
 refine ⟨_,.d _,(by show (Z.map ptD).length<=4000;rw [List.length_map];omega),Z7 (as:=Z) (fun q=>ptD (q.1+(x - 4),q.2+(y - 4))) Src.d (fun q hq R h=>⟨zl2,h⟩) ?_⟩
 have em:Z.map (fun q=>ptD (q.1+(x - 4),q.2+(y - 4)))=(Z.map fun q=>((q.1+(x - 4),q.2+(y - 4)):Pt)).map ptD:=by rw [List.map_map];rfl
 rw [em]
 dsimp only [List.set_cons_zero,List.set_cons_succ]
 have hsh:=qfm hc (x - 4) (y - 4)
 have hlen:(Z.map fun q=>((q.1+(x - 4),q.2+(y - 4)):Pt)).length=Z.length:=List.length_map ..
 have hmem:∀ q∈Z,((q.1+(x - 4),q.2+(y - 4)):Pt)∈Z.map fun q=>((q.1+(x - 4),q.2+(y - 4)):Pt):=fun q hq=>List.mem_map_of_mem hq
 generalize (Z.map fun q=>((q.1+(x - 4),q.2+(y - 4)):Pt))=W at *
 refine ⟨_,.d _,(by show (W.map ptD).length<=4000;rw [List.length_map];omega),Z7 (as:=W) (fun q=>.int (if ((q.1.natAbs:Nat):Int)<((q.2.natAbs:Nat):Int) then ((q.2.natAbs:Nat):Int) else ((q.1.natAbs:Nat):Int))) Src.d (fun q hq R h=>h) ?_⟩
 refine ⟨W.map fun q=>(if ((q.1.natAbs:Nat):Int)<((q.2.natAbs:Nat):Int) then ((q.2.natAbs:Nat):Int) else ((q.1.natAbs:Nat):Int)),by rw [List.map_map];exact .d _,(fun z=>by have z:W=[]:=List.map_eq_nil_iff.mp z;rw [z] at hlen;exact absurd hlen (by simp;omega)),fun m hm hle=>⟨⟨by decide,by decide,by decide⟩,jv (fun c=>?_) (fun _=>⟨p,rfl,hp,fun Z2 h2=>k Z2 h2⟩)⟩⟩
 have c:m<(10:Int) ^ (30:Int).toNat:=qr c
 rw [e30] at c
 refine k W (hsh fun q hq=>qhD ?_)
 exact Int.lt_of_le_of_lt (hle _ (List.mem_map_of_mem (hmem q hq))) c
end
section
variable {P:Program}{w:World}{K:W.Frag}{mg:Str->Option Value}{base:Heap}{CX:CXT}
theorem qao (A B:List Pt):SeqAt.shaped (.list [hpD A,hpD B])=true:=by
 have d2:∀ A:List Pt,PyData.depthAll (A.map ptD)<=3:=fun A=>Z0 (n:=2) (fun p=>by unfold ptD;simp [PyData.depth,PyData.depthAll]) A
 have h1:∀ A:List Pt,PyData.canLayAll0 (A.map ptD)=true:=fun A=>YV (fun p=>rfl) A
 have dA:=d2 A
 have dB:=d2 B
 unfold SeqAt.shaped
 rw [Bool.and_eq_true]
 refine ⟨by unfold hpD;simp only [PyData.canLay0,PyData.canLayAll0,h1,Bool.and_self],qu ?_⟩
 unfold hpD
 simp only [PyData.depth,PyData.depthAll]
 omega
def qct:SpD:=fun es μ Q=>∃ p:Addr,es=[.m p]/\(p,PA0)∈μ/\Q (.d (.bool true)) μ
theorem qaT:FnScope ["_law_pot_here", "_law_one", "_law_two", "_law_steps", "_law_handed", "_law_told", "_law_u", "_law_v"] ["_law_pot_here"] (qp yV):=⟨rfl,rfl,rfl,by decide +kernel,rfl,by decide +kernel,by decide +kernel⟩
theorem qeS {f:Addr}{fd:FuncData}(F:Fun K "_law_right" "_law_right" yV f fd) (T:Txt mg) (hX:NoX CX) (O_law_take:Own P w K mg base CX 1 "_law_take" ["_law_pot_here", "_law_many"] (qV K (sDraw 2147483629))) (O_law_cake:Own P w K mg base CX 4 "_law_cake" ["_law_pot_here"] (qV K qey)) (O_law_second:Own P w K mg base CX 5 "_law_second" ["_law_pot_here", "_law_cake_here"] (qV K sSec)) (Oslice_of:Own P w K mg base CX 10 "slice_of" ["one", "other", "steps"] (qV K sSlc)) (O_law_is_arrow:Own P w K mg base CX 1 "_law_is_arrow" ["_law_found"] (qV K sIsa)) (Ocut_order:Own P w K mg base CX 9 "cut_order" ["one", "other", "arrow"] (qV K qiR)) (O_law_depth:Own P w K mg base CX 1 "_law_depth" ["_law_arrow"] (qV K sDep)) (O_law_ends_right:Own P w K mg base CX 10 "_law_ends_right" ["_law_one", "_law_two", "_law_u", "_law_v", "_law_steps"] (qV K sEnd)):FnOk P w K mg base CX 11 f fd ["_law_pot_here"] (qV K qct):=by
 refine F.okD qaT (fun es μ Q hq0=>by obtain ⟨p,e,_⟩:=hq0;subst e;rfl) (fun cdv A outer s H E es μ Q hr hq0=>?_)
 obtain ⟨p,e,hp,k⟩:=hq0
 subst e
 have nd:=qaT.nd
 have key:∃ t,DSs K (qbS CX P w K mg base ["_law_pot_here", "_law_one", "_law_two", "_law_steps", "_law_handed", "_law_told", "_law_u", "_law_v"] "_law_right" (qp yV) f cdv A outer s H E).nox ((yW yV).drop 4) t ∧
   ∀ (Z1 Z2:List Pt) (n:Nat),Ck Z1->Ck Z2->n<=26->t { nx:=fun _ μ'=>Q (.d .none) μ',rt:=Q } [some (.m p),some (.d (hpD Z1)),some (.d (hpD Z2)),some (.d (.int n)),none,none,none,none] μ:=by
  refine ⟨_,(qq (qW (i:=4) nd rfl (by first | exact Or.inl rfl | exact Or.inr rfl) (qfh (qa (JE qdN (by rfl) T.list_ qaH (qa (dv 1) qd)) (qa (JE qdN (by rfl) T.list_ qaH (qa (dv 2) qd)) qd))))
   (qq (qW (i:=5) nd rfl (by first | exact Or.inl rfl | exact Or.inr rfl) (qQ Oslice_of hX (hr.mono (by decide)) rfl (qa (y8 qM (dv 4) qt (fun _ _=>rfl)) (qa (y8 qM (dv 4) qt (fun _ _=>rfl)) (qa (dv 3) qd)))))
   (qq (jd (qdD (qdC (qdE (ZY (qO qbl (by rfl) T.isinstance_ jx (qa (dv 5) (qa (qk3 rfl T.tuple_ Zj) qd))))) (qdC (q9 (Ya hr.units) (qO J7 (by rfl) T.len_ J9 (qa (dv 5) qd)) qt (qP _)) (qbj (qdE (ZY (qO (qdO rfl) (by rfl) T.all_ qd5 (qa (j3 (L:=["_law_arrow"]) (sc:=qp yV) (N:=["_law_pot_here", "_law_one", "_law_two", "_law_steps", "_law_handed", "_law_told", "_law_u", "_law_v"]) rfl rfl rfl (by decide +kernel) (qdJ (dv 5)) (fun _ _ _ _ _=>(qy (i:=8) (show List.Nodup (["_law_pot_here", "_law_one", "_law_two", "_law_steps", "_law_handed", "_law_told", "_law_u", "_law_v", "_law_arrow"]:List Str) from by decide +kernel) rfl (by first | exact Or.inl rfl | exact Or.inr rfl))) (fun _ _ _ _ _=>je) (fun _ _ _ _ _=>(qQ O_law_is_arrow hX (hr.mono (by decide)) rfl (qa (dv 8) qd)))) qd)))))))) (qC (qN qiv)) yz)
   (qq (y7 (dv 5) (yI (n:=2) rfl (qw (qy (i:=6) nd rfl (by first | exact Or.inl rfl | exact Or.inr rfl)) (qw (qy (i:=7) nd rfl (by first | exact Or.inl rfl | exact Or.inr rfl)) yh))))
   (qq (jd (qdD (qdC (q9 (Ya hr.units) (dv 4) (qfh (qa (dv 1) (qa (dv 2) qd))) (qP _)) (qbj (q9 (Ya hr.units) (qQ Oslice_of hX (hr.mono (by decide)) rfl (qa (y8 qM (dv 4) qt (fun _ _=>rfl)) (qa (y8 qM (dv 4) qt (fun _ _=>rfl)) (qa (dv 3) qd)))) (dv 5) (qP _))))) (qC (qN qiv)) yz)
   (qq (jd (q9 (Yc hr.units) (dv 6) (dv 7) (qP _)) (qC (qN (qfj (Z5 Zd (dv 3) qt (qP _)) (qfj (Z5 (Yc hr.units) (qQ Ocut_order hX (hr.mono (by decide)) rfl (qa (dv 1) (qa (dv 2) (qa (dv 6) qd)))) qt (qP _)) (qh6 (Z5 Yb (qQ O_law_depth hX (hr.mono (by decide)) rfl (qa (dv 6) qd)) (dv 3) (qP _))))))) yz)
   (qC (qN (qQ O_law_ends_right hX (hr.mono (by decide)) rfl (qa (dv 1) (qa (dv 2) (qa (dv 6) (qa (dv 7) (qa (dv 3) qd)))))))))))))),fun Z1 Z2 n c1 c2 hn=>?_⟩
  have sl:=qiK (qcW Z1 Z2) (qcX c1 c2) n
  refine ⟨_,.l (.d _),_,.l (.d _),zl2,_,rfl,_,rfl,Z1,Z2,n,rfl,c1,c2,hn,?_⟩
  dsimp only [List.set_cons_zero,List.set_cons_succ]
  generalize er:slF (oF Z1 Z2) n=r at sl
  refine ⟨by decide,qah ⟨_,.t _,(show 2<=4000 by decide),qbm (as:=[r.1,r.2]) (h:=ptD) (fun _=>.bool true) Src.t (fun a _ R y=>⟨a,rfl,y⟩) ?_⟩⟩
  refine ⟨[true,true],.d _,rfl,?_⟩
  dsimp only [List.set_cons_zero,List.set_cons_succ]
  refine ⟨zl2,_,_,.d _,.d _,qao Z1 Z2,qao Z1 Z2,jv (fun c=>?_) (fun _=>⟨_,rfl,_,rfl,Z1,Z2,n,rfl,c1,c2,hn,?_⟩)⟩
  ·have c:(!PyData.eqv (.list [hpD Z1,hpD Z2]) (.list [hpD Z1,hpD Z2]))=true:=c
   rw [JN (qao Z1 Z2)] at c
   cases c
  rw [er]
  refine ⟨_,_,.d _,.d _,shp r,shp r,jv (fun c=>?_) (fun _=>?_)⟩
  ·have c:(!PyData.eqv (prD r) (prD r))=true:=c
   rw [JN (shp r)] at c
   cases c
  have sp:∀ q:Pt,SeqAt.shaped (ptD q)=true:=fun _=>rfl
  refine ⟨_,_,.d _,.d _,sp r.1,sp r.2,?_⟩
  rcases sl with ⟨b,x,y,rfl,hE⟩ | ⟨b,x,kq,hkq,hat,rfl,hz⟩
  ·refine jv (fun c=>?_) (fun _=>?_)
   ·exfalso
    have c:PyData.eqv (ptD (Wq b x)) (ptD (Wq b y))=true:=c
    have c:Wq b x=Wq b y:=by
     unfold ptD at c
     simp [PyData.eqv,PyData.eqvAll] at c
     exact Prod.ext c.1 c.2
    have dt:=hE.1.f.det
    cases b with
    | false =>
     have c:x=y:=c
     rw [c] at dt
     have:y.1 * y.2=y.2 * y.1:=Int.mul_comm ..
     omega
    | true =>
     have e1:-x.2 = -y.2:=congrArg Prod.fst c
     have e2:x.1=y.1:=congrArg Prod.snd c
     have e1:x.2=y.2:=by omega
     rw [e1,e2] at dt
     have:y.1 * y.2=y.2 * y.1:=Int.mul_comm ..
     omega
   ·exact ⟨Z1,Z2,b,x,y,n,rfl,c1,c2,hn,hE,k⟩
  ·have ax:=qbC (k:=kq) (by omega) b hat
   refine jv (fun _=>?_) (fun c=>absurd (JN (sp (Wq b x))) c)
   refine jv (fun _=>⟨Z1,Z2,Wq b x,rfl,c1,c2,ax,fun i hi=>jv (fun _=>?_) (fun c=>?_)⟩) (fun c=>?_)
   ·refine ⟨kq,b,x,rfl,hat,by omega,fun g hg=>?_⟩
    have:decide (g<((n:Nat):Int))=true:=qu (by omega)
    show Q (.d (.bool (decide (g<((n:Nat):Int))))) μ
    rw [this]
    exact k
   ·have e:=YE c1 c2 ax (ZK hi)
    rw [hz] at e
    exact absurd (qu e.symm) c
   ·have:¬ 0<((n:Nat):Int):=fun z=>c (qu z)
    omega
 obtain ⟨t,ht,hk⟩:=key
 refine ⟨_,(qq (qW (i:=1) nd rfl (by first | exact Or.inl rfl | exact Or.inr rfl) (qQ O_law_cake hX (hr.mono (by decide)) rfl (qa (dv 0) qd)))
   (qq (qW (i:=2) nd rfl (by first | exact Or.inl rfl | exact Or.inr rfl) (qQ O_law_second hX (hr.mono (by decide)) rfl (qa (dv 0) (qa (dv 1) qd))))
   (qq (qW (i:=3) nd rfl (by first | exact Or.inl rfl | exact Or.inr rfl) (qQ O_law_take hX (hr.mono (by decide)) rfl (qa (dv 0) (qa qt qd))))
   (qq (jd (qdD (J5 (q9 (Yc hr.units) (qQ O_law_take hX (hr.mono (by decide)) rfl (qa (dv 0) (qa qt qd))) qt (qP _)) (Js (q9 Yb (qO (qaC (K:=K) rfl) (by rfl) T.max_ J8 (qa (j3 (L:=["_law_x", "_law_y"]) (sc:=qp yV) (N:=["_law_pot_here", "_law_one", "_law_two", "_law_steps", "_law_handed", "_law_told", "_law_u", "_law_v"]) rfl rfl rfl (by decide +kernel) (jr (qZ qbk (dv 1) (dv 2))) (fun _ _ _ _ _=>(yI (n:=2) rfl (qw (qy (i:=8) (show List.Nodup (["_law_pot_here", "_law_one", "_law_two", "_law_steps", "_law_handed", "_law_told", "_law_u", "_law_v", "_law_x", "_law_y"]:List Str) from by decide +kernel) rfl (by first | exact Or.inl rfl | exact Or.inr rfl)) (qw (qy (i:=9) (show List.Nodup (["_law_pot_here", "_law_one", "_law_two", "_law_steps", "_law_handed", "_law_told", "_law_u", "_law_v", "_law_x", "_law_y"]:List Str) from by decide +kernel) rfl (by first | exact Or.inl rfl | exact Or.inr rfl)) yh)))) (fun _ _ _ _ _=>je) (fun _ _ _ _ _=>(qO (Z3 rfl) (by rfl) T.max_ J8 (qa (qO JD (by rfl) T.abs_ JF (qa (dv 8) qd)) (qa (qO JD (by rfl) T.abs_ JF (qa (dv 9) qd)) qd))))) qd)) qt (qP _))))) (qC (qW (i:=3) nd rfl (by first | exact Or.inl rfl | exact Or.inr rfl) (qZ yw qt (qQ O_law_take hX (hr.mono (by decide)) rfl (qa (dv 0) (qa qt qd)))))) yz)
   ht)))),?_⟩
 refine ⟨p,rfl,hp,fun Z1 c1=>⟨p,Z1,rfl,hp,c1,fun Z2 c2=>?_⟩⟩
 refine ⟨p,_,rfl,hp,by decide,by decide,fun d d0 d1=>?_⟩
 dsimp only [List.set_cons_zero,List.set_cons_succ]
 have go:∀ d:Int,0<=d->d<=26->t { nx:=fun _ μ'=>Q (.d .none) μ',rt:=Q } [some (.m p),some (.d (hpD Z1)),some (.d (hpD Z2)),some (.d (.int d)),none,none,none,none] μ:=fun d d0 d1=>by
  have:=hk Z1 Z2 d.toNat c1 c2 (by omega)
  rw [show ((d.toNat:Nat):Int)=d by omega] at this
  exact this
 refine ⟨p,_,rfl,hp,by decide,by decide,fun c c0 c1'=>jv (fun _=>?_) (fun _=>qah ?_)⟩
 ·have l1:=c1.2.1
  have l12:=c1.2.2.1
  have l2:=c2.2.2.1
  have em:(Z1.map ptD)++(Z2.map ptD)=(Z1++Z2).map ptD:=by rw [List.map_append]
  refine ⟨_,_,.d _,.d _,(by rw [List.length_map,List.length_map];omega),?_⟩
  rw [em]
  have hne:Z1++Z2≠[]:=fun z=>by
   have z1:=(List.append_eq_nil_iff.mp z).1
   rw [z1] at l1
   exact absurd l1 (by decide)
  refine ⟨_,.d _,(by show ((Z1++Z2).map ptD).length<=4000;rw [List.length_map,List.length_append];omega),Z7 (as:=Z1++Z2) (fun q=>.int (if ((q.1.natAbs:Nat):Int)<((q.2.natAbs:Nat):Int) then ((q.2.natAbs:Nat):Int) else ((q.1.natAbs:Nat):Int))) Src.d (fun q hq R h=>h) ?_⟩
  refine ⟨(Z1++Z2).map fun q=>(if ((q.1.natAbs:Nat):Int)<((q.2.natAbs:Nat):Int) then ((q.2.natAbs:Nat):Int) else ((q.1.natAbs:Nat):Int)),by rw [List.map_map];exact .d _,(fun z=>hne (List.map_eq_nil_iff.mp z)),fun m hm hle=>jv (fun _=>?_) (fun _=>go d d0 (by omega))⟩
  exact ⟨p,_,rfl,hp,by decide,by decide,fun e e0 e1=>go (7+e) (by omega) (by omega)⟩
 ·exact go d d0 (by omega)
end
section
variable {P:Program}{w:World}{K:W.Frag}{mg:Str->Option Value}{base:Heap}{CX:CXT}
theorem qfU:FnScope ["_law_script"] ["_law_script"] (qp qeh):=⟨rfl,rfl,rfl,by decide +kernel,rfl,by decide +kernel,by decide +kernel⟩
theorem qjK {f:Addr}{fd:FuncData}(F:Fun K "law" "law" qeh f fd) (T:Txt mg) (hX:NoX CX) (O_law_pot:Own P w K mg base CX 1 "_law_pot" ["_law_script", "_law_k"] (qV K sPot)) (O_law_right:Own P w K mg base CX 11 "_law_right" ["_law_pot_here"] (qV K qct)):FnOk P w K mg base CX 12 f fd ["_law_script"] (qV K sLaw):=by
 refine F.okD qfU (fun es μ Q hq0=>by obtain ⟨ns,e,_⟩:=hq0;subst e;rfl) (fun cdv A outer s H E es μ Q hr hq0=>?_)
 obtain ⟨ns,e,hl,e0,k⟩:=hq0
 subst e e0
 have nd:=qfU.nd
 refine ⟨_,(qC (qN (qO (qdO rfl) (by rfl) T.all_ qd5 (qa (j3 (L:=["_law_k"]) (sc:=qp qeh) (N:=["_law_script"]) rfl rfl rfl (by decide +kernel) (Ja rfl T.range_ (qa (qO (Z3 rfl) (by rfl) T.max_ J8 (qa qt (qa (qO (qdM rfl) (by rfl) T.min_ YW (qa (qO J7 (by rfl) T.len_ J9 (qa (dv 0) qd)) (qa qt qd))) qd))) qd)) (fun _ _ _ _ _=>(qy (i:=1) (show List.Nodup (["_law_script", "_law_k"]:List Str) from by decide +kernel) rfl (by first | exact Or.inl rfl | exact Or.inr rfl))) (fun _ _ _ _ _=>je) (fun _ _ _ _ _=>(qQ O_law_right hX (hr.mono (by decide)) rfl (qa (qQ O_law_pot hX (hr.mono (by decide)) rfl (qa (dv 0) (qa (dv 1) qd))) qd)))) qd)))),?_⟩
 refine ⟨_,.l (.d _),?_⟩
 rw [List.length_map]
 obtain ⟨m,em,hm⟩:∃ m:Int,(if (1:Int)<(if (2:Int)<(ns.length:Int) then 2 else (ns.length:Int)) then (if (2:Int)<(ns.length:Int) then 2 else (ns.length:Int)) else 1)=m/\(1<=m/\m<=2):=⟨_,rfl,by split <;> (try split) <;> omega⟩
 refine ⟨?_,?_,?_,fun i ys ρ' μ'=>ys=(List.replicate i true).map PyData.bool/\∃ v,ρ'=[some (.d (.list (ns.map .int))),v],⟨rfl,_,rfl⟩,fun _ _ _ _ _ _=>trivial,?_,?_⟩
 ·exact le_of_le_of_eq (show -(2 ^ 62)<=m by omega) em.symm
 ·exact lt_of_eq_of_lt em (show m<2 ^ 62 by omega)
 ·exact le_of_eq_of_le (congrArg Int.toNat em) (show m.toNat<=4000 by omega)
 ·rintro i ys ρ' μ' hi ⟨rfl,v,rfl⟩
  have hi:i<Int.toNat _:=hi
  have hi2:i<m.toNat:=lt_of_lt_of_eq hi (congrArg Int.toNat em)
  refine ⟨ns,i,(by show [_,En.d (PyData.int (0+(i:Int)))]=_;simp),hl,by omega,fun p hp=>⟨p,rfl,qv,_,rfl,?_,_,rfl⟩⟩
  rw [List.replicate_succ',List.map_append]
  rfl
 ·rintro ys ρ' μ' ⟨rfl,v,rfl⟩
  refine ⟨_,.d _,?_⟩
  have e:∀ n,(List.replicate n true).all id=true:=fun n=>by simp
  change Q (.d (.bool ((List.replicate _ true).all id))) _
  rw [e]
  exact k _
end
structure FIn (K:W.Frag) (x:Str) (st:Stmt) (f:Addr) (fd:FuncData):Prop where
 a:W.nsIn K mainGlobals x=some (some (.ref f))
 F:Fun K x x st f fd
 k:W.keepIn K (.ref f)=true
theorem fin_mk {K:W.Frag}{x:Str}{st:Stmt}{f:Addr}{oc:Value}{od an:Option Addr}{sl:Array (Option Value)}{kV dc pm cd ct:Value}(a:W.nsIn K mainGlobals x=some (some (.ref f))) (l:K.lookup f=some ⟨oc,od,.func (W.fnOf x x (Jc st) (yW st) (qp st) .none kV dc pm an cd ct),sl⟩) (c:W.codeIn K cd x=true) (k:W.keepIn K (.ref f)=true):FIn K x st f (W.fnOf x x (Jc st) (yW st) (qp st) .none kV dc pm an cd ct):=⟨a,qgt l c k,k⟩
theorem all_mk {l:W.OpenLaw}{w:World}{K:W.Frag}{h:Heap}{mg:Str->Option Value}{fa:Addr}(X:K.In h) (G:h.Ns mainGlobals mg) (hfa:mg "law" = some (.ref fa))
  {f0 f1 f2 f3 f4 f5 f6 f7 f8 f9 f10 f11 f12 f13 f14 f15 f16 f17 f18 f19 f20 f21 f22 f23 f24 f25 f26 f27 f28 f29 f30 f31 f32 f33 f34 f35 f36 f37:Addr}{d0 d1 d2 d3 d4 d5 d6 d7 d8 d9 d10 d11 d12 d13 d14 d15 d16 d17 d18 d19 d20 d21 d22 d23 d24 d25 d26 d27 d28 d29 d30 d31 d32 d33 d34 d35 d36 d37:FuncData}
  (g0:FIn K "_law_pot" j7 f0 d0)
  (g1:FIn K "_law_take" JQ f1 d1)
  (g2:FIn K "_law_wide" JP f2 d2)
  (g3:FIn K "_law_across" j8 f3 d3)
  (g4:FIn K "_law_chain" Jn f4 d4)
  (g5:FIn K "_law_outer" Jm f5 d5)
  (g6:FIn K "_law_mark" JR f6 d6)
  (g7:FIn K "_law_cake" Jf f7 d7)
  (g8:FIn K "cross" qcj f8 d8)
  (g9:FIn K "from_each_corner" yK f9 d9)
  (g10:FIn K "sides" qaO f10 d10)
  (g11:FIn K "area" qex f11 d11)
  (g12:FIn K "common_divisor" jA f12 d12)
  (g13:FIn K "lowest" qam f13 d13)
  (g14:FIn K "curve_at" Yp f14 d14)
  (g15:FIn K "value" qcc f15 d15)
  (g16:FIn K "side_part" JK f16 d16)
  (g17:FIn K "part_curve" jV f17 d17)
  (g18:FIn K "below" qcs f18 d18)
  (g19:FIn K "is_at_most_half" jp f19 d19)
  (g20:FIn K "cut_bounds" ja f20 d20)
  (g21:FIn K "cut" scut f21 d21)
  (g22:FIn K "cut_root" Yo f22 d22)
  (g23:FIn K "sign" qgW f23 d23)
  (g24:FIn K "root_sign" JM f24 d24)
  (g25:FIn K "two_roots_sign" jz f25 d25)
  (g26:FIn K "cut_order" JO f26 d26)
  (g27:FIn K "turned_about" jU f27 d27)
  (g28:FIn K "slice_of" j6 f28 d28)
  (g29:FIn K "_law_is_arrow" ji f29 d29)
  (g30:FIn K "_law_turned_back" jb f30 d30)
  (g31:FIn K "_law_ahead" Jo f31 d31)
  (g32:FIn K "_law_steps_of" jM f32 d32)
  (g33:FIn K "_law_in_first_quarter" yG f33 d33)
  (g34:FIn K "_law_ends_right" yT f34 d34)
  (g35:FIn K "_law_depth" jB f35 d35)
  (g36:FIn K "_law_second" jl f36 d36)
  (g37:FIn K "_law_right" yV f37 d37)
  {f38:Addr}{od38 an38:Option Addr}{sl38:Array (Option Value)}{oc38 kV38 dc38 pm38 cd38 ct38:Value}
  (a38:W.nsIn K mainGlobals "law" = some (some (.ref f38))) (l38:K.lookup f38=some ⟨oc38,od38,.func (W.fnOf "law" "law" (Jc qeh) (yW qeh) (qp qeh) .none kV38 dc38 pm38 an38 cd38 ct38),sl38⟩) (c38:W.codeIn K cd38 "law" = true) (k38:W.keepIn K (.ref f38)=true)
  (z0:W.nsIn K mainGlobals "len" = some none)
  (z1:W.nsIn K mainGlobals "range" = some none)
  (z2:W.nsIn K mainGlobals "max" = some none)
  (z3:W.nsIn K mainGlobals "min" = some none)
  (z4:W.nsIn K mainGlobals "abs" = some none)
  (z5:W.nsIn K mainGlobals "int" = some none)
  (z6:W.nsIn K mainGlobals "isinstance" = some none)
  (z7:W.nsIn K mainGlobals "tuple" = some none)
  (z8:W.nsIn K mainGlobals "bool" = some none)
  (z9:W.nsIn K mainGlobals "list" = some none)
  (z10:W.nsIn K mainGlobals "all" = some none)
  (z11:W.nsIn K mainGlobals "any" = some none)
  (z12:W.nsIn K mainGlobals "set" = some none)
  (z13:W.nsIn K mainGlobals "sorted" = some none)
  (z14:W.nsIn K mainGlobals "str" = some none)
  (z15:W.nsIn K mainGlobals "enumerate" = some none)
  (z16:W.nsIn K mainGlobals "zip" = some none)
  (z17:W.nsIn K mainGlobals "divmod" = some none)
  (z18:W.nsIn K mainGlobals "sum" = some none)
  (z19:W.nsIn K mainGlobals "reversed" = some none)
  : ∃ fd:FuncData,(∀ (s:Shared) (v:Value),BindsTo s fd ⟨[v],[]⟩ [("_law_script",v)])/\∀ base:Heap,K.In base->base.Ns mainGlobals mg->FnOk l.prog w K mg base CX0 12 fa fd ["_law_script"] (qet K):=by
 have e:=hfa.symm.trans (W.mg_of X G a38)
 cases e
 have T:Txt mg:=⟨W.mg_none_of X G z0,W.mg_none_of X G z1,W.mg_none_of X G z2,W.mg_none_of X G z3,W.mg_none_of X G z4,W.mg_none_of X G z5,W.mg_none_of X G z6,W.mg_none_of X G z7,W.mg_none_of X G z8,W.mg_none_of X G z9,W.mg_none_of X G z10,W.mg_none_of X G z11,W.mg_none_of X G z12,W.mg_none_of X G z13,W.mg_none_of X G z14,W.mg_none_of X G z15,W.mg_none_of X G z16,W.mg_none_of X G z17,W.mg_none_of X G z18,W.mg_none_of X G z19⟩
 have F0:=g0.F
 have b0:=F0.binds (ps:=["_law_script", "_law_k"]) fun _ _ _ _ _ _ us hl=>by obtain ⟨_,_,rfl⟩:=L2.lenIs2 hl rfl;rfl
 have F1:=g1.F
 have b1:=F1.binds (ps:=["_law_pot_here", "_law_many"]) fun _ _ _ _ _ _ us hl=>by obtain ⟨_,_,rfl⟩:=L2.lenIs2 hl rfl;rfl
 have F2:=g2.F
 have b2:=F2.binds (ps:=["_law_pot_here"]) fun _ _ _ _ _ _ us hl=>by obtain ⟨_,rfl⟩:=L2.lenIs1 hl rfl;rfl
 have F3:=g3.F
 have b3:=F3.binds (ps:=["_law_one", "_law_two", "_law_three"]) fun _ _ _ _ _ _ us hl=>by obtain ⟨_,_,_,rfl⟩:=L2.lenIs3 hl rfl;rfl
 have F4:=g4.F
 have b4:=F4.binds (ps:=["_law_points"]) fun _ _ _ _ _ _ us hl=>by obtain ⟨_,rfl⟩:=L2.lenIs1 hl rfl;rfl
 have F5:=g5.F
 have b5:=F5.binds (ps:=["_law_some"]) fun _ _ _ _ _ _ us hl=>by obtain ⟨_,rfl⟩:=L2.lenIs1 hl rfl;rfl
 have F6:=g6.F
 have b6:=F6.binds (ps:=["_law_pot_here", "_law_are_great"]) fun _ _ _ _ _ _ us hl=>by obtain ⟨_,_,rfl⟩:=L2.lenIs2 hl rfl;rfl
 have F7:=g7.F
 have b7:=F7.binds (ps:=["_law_pot_here"]) fun _ _ _ _ _ _ us hl=>by obtain ⟨_,rfl⟩:=L2.lenIs1 hl rfl;rfl
 have F8:=g8.F
 have b8:=F8.binds (ps:=["one", "other"]) fun _ _ _ _ _ _ us hl=>by obtain ⟨_,_,rfl⟩:=L2.lenIs2 hl rfl;rfl
 have F9:=g9.F
 have b9:=F9.binds (ps:=["corners"]) fun _ _ _ _ _ _ us hl=>by obtain ⟨_,rfl⟩:=L2.lenIs1 hl rfl;rfl
 have F10:=g10.F
 have b10:=F10.binds (ps:=["corners"]) fun _ _ _ _ _ _ us hl=>by obtain ⟨_,rfl⟩:=L2.lenIs1 hl rfl;rfl
 have F11:=g11.F
 have b11:=F11.binds (ps:=["cake"]) fun _ _ _ _ _ _ us hl=>by obtain ⟨_,rfl⟩:=L2.lenIs1 hl rfl;rfl
 have F12:=g12.F
 have b12:=F12.binds (ps:=["one", "other"]) fun _ _ _ _ _ _ us hl=>by obtain ⟨_,_,rfl⟩:=L2.lenIs2 hl rfl;rfl
 have F13:=g13.F
 have b13:=F13.binds (ps:=["n", "d"]) fun _ _ _ _ _ _ us hl=>by obtain ⟨_,_,rfl⟩:=L2.lenIs2 hl rfl;rfl
 have F14:=g14.F
 have b14:=F14.binds (ps:=["curve", "n", "d"]) fun _ _ _ _ _ _ us hl=>by obtain ⟨_,_,_,rfl⟩:=L2.lenIs3 hl rfl;rfl
 have F15:=g15.F
 have b15:=F15.binds (ps:=["normal", "point"]) fun _ _ _ _ _ _ us hl=>by obtain ⟨_,_,rfl⟩:=L2.lenIs2 hl rfl;rfl
 have F16:=g16.F
 have b16:=F16.binds (ps:=["start", "end", "low"]) fun _ _ _ _ _ _ us hl=>by obtain ⟨_,_,_,rfl⟩:=L2.lenIs3 hl rfl;rfl
 have F17:=g17.F
 have b17:=F17.binds (ps:=["cake", "arrow", "low"]) fun _ _ _ _ _ _ us hl=>by obtain ⟨_,_,_,rfl⟩:=L2.lenIs3 hl rfl;rfl
 have F18:=g18.F
 have b18:=F18.binds (ps:=["cake", "arrow", "n", "d"]) fun _ _ _ _ _ _ us hl=>by obtain ⟨_,_,_,_,rfl⟩:=L2.lenIs4 hl rfl;rfl
 have F19:=g19.F
 have b19:=F19.binds (ps:=["cake", "arrow", "height"]) fun _ _ _ _ _ _ us hl=>by obtain ⟨_,_,_,rfl⟩:=L2.lenIs3 hl rfl;rfl
 have F20:=g20.F
 have b20:=F20.binds (ps:=["cake", "arrow"]) fun _ _ _ _ _ _ us hl=>by obtain ⟨_,_,rfl⟩:=L2.lenIs2 hl rfl;rfl
 have F21:=g21.F
 have b21:=F21.binds (ps:=["cake", "arrow"]) fun _ _ _ _ _ _ us hl=>by obtain ⟨_,_,rfl⟩:=L2.lenIs2 hl rfl;rfl
 have F22:=g22.F
 have b22:=F22.binds (ps:=["cake", "arrow"]) fun _ _ _ _ _ _ us hl=>by obtain ⟨_,_,rfl⟩:=L2.lenIs2 hl rfl;rfl
 have F23:=g23.F
 have b23:=F23.binds (ps:=["number"]) fun _ _ _ _ _ _ us hl=>by obtain ⟨_,rfl⟩:=L2.lenIs1 hl rfl;rfl
 have F24:=g24.F
 have b24:=F24.binds (ps:=["x", "y", "r"]) fun _ _ _ _ _ _ us hl=>by obtain ⟨_,_,_,rfl⟩:=L2.lenIs3 hl rfl;rfl
 have F25:=g25.F
 have b25:=F25.binds (ps:=["x", "y", "r", "z", "s"]) fun _ _ _ _ _ _ us hl=>by obtain ⟨_,_,_,_,_,rfl⟩:=L2.lenIs5 hl rfl;rfl
 have F26:=g26.F
 have b26:=F26.binds (ps:=["one", "other", "arrow"]) fun _ _ _ _ _ _ us hl=>by obtain ⟨_,_,_,rfl⟩:=L2.lenIs3 hl rfl;rfl
 have F27:=g27.F
 have b27:=F27.binds (ps:=["arrow"]) fun _ _ _ _ _ _ us hl=>by obtain ⟨_,rfl⟩:=L2.lenIs1 hl rfl;rfl
 have F28:=g28.F
 have b28:=F28.binds (ps:=["one", "other", "steps"]) fun _ _ _ _ _ _ us hl=>by obtain ⟨_,_,_,rfl⟩:=L2.lenIs3 hl rfl;rfl
 have F29:=g29.F
 have b29:=F29.binds (ps:=["_law_found"]) fun _ _ _ _ _ _ us hl=>by obtain ⟨_,rfl⟩:=L2.lenIs1 hl rfl;rfl
 have F30:=g30.F
 have b30:=F30.binds (ps:=["_law_arrow"]) fun _ _ _ _ _ _ us hl=>by obtain ⟨_,rfl⟩:=L2.lenIs1 hl rfl;rfl
 have F31:=g31.F
 have b31:=F31.binds (ps:=["_law_u", "_law_v"]) fun _ _ _ _ _ _ us hl=>by obtain ⟨_,_,rfl⟩:=L2.lenIs2 hl rfl;rfl
 have F32:=g32.F
 have b32:=F32.binds (ps:=["_law_u", "_law_v"]) fun _ _ _ _ _ _ us hl=>by obtain ⟨_,_,rfl⟩:=L2.lenIs2 hl rfl;rfl
 have F33:=g33.F
 have b33:=F33.binds (ps:=["_law_u", "_law_v"]) fun _ _ _ _ _ _ us hl=>by obtain ⟨_,_,rfl⟩:=L2.lenIs2 hl rfl;rfl
 have F34:=g34.F
 have b34:=F34.binds (ps:=["_law_one", "_law_two", "_law_u", "_law_v", "_law_steps"]) fun _ _ _ _ _ _ us hl=>by obtain ⟨_,_,_,_,_,rfl⟩:=L2.lenIs5 hl rfl;rfl
 have F35:=g35.F
 have b35:=F35.binds (ps:=["_law_arrow"]) fun _ _ _ _ _ _ us hl=>by obtain ⟨_,rfl⟩:=L2.lenIs1 hl rfl;rfl
 have F36:=g36.F
 have b36:=F36.binds (ps:=["_law_pot_here", "_law_cake_here"]) fun _ _ _ _ _ _ us hl=>by obtain ⟨_,_,rfl⟩:=L2.lenIs2 hl rfl;rfl
 have F37:=g37.F
 have b37:=F37.binds (ps:=["_law_pot_here"]) fun _ _ _ _ _ _ us hl=>by obtain ⟨_,rfl⟩:=L2.lenIs1 hl rfl;rfl
 have F38:=qgt (st:=qeh) l38 c38 k38
 have b38:=F38.binds (ps:=["_law_script"]) fun _ _ _ _ _ _ us hl=>by obtain ⟨_,rfl⟩:=L2.lenIs1 hl rfl;rfl
 refine ⟨W.fnOf "law" "law" (Jc qeh) (yW qeh) (qp qeh) .none kV38 dc38 pm38 an38 cd38 ct38,fun s v=>.of_eq rfl,fun base Kb Gb=>?_⟩
 have O_law_pot:Own l.prog w K mg base CX0 1 "_law_pot" ["_law_script", "_law_k"] (qV K sPot):=⟨_,_,qjH F0 T,W.mg_of X G g0.a,g0.k,b0⟩
 have O_law_take:Own l.prog w K mg base CX0 1 "_law_take" ["_law_pot_here", "_law_many"] (qV K (sDraw 2147483629)):=⟨_,_,qhw F1 ,W.mg_of X G g1.a,g1.k,b1⟩
 have O_law_wide:Own l.prog w K mg base CX0 2 "_law_wide" ["_law_pot_here"] (qV K (sNum 2147483629)):=⟨_,_,qhv F2 T Yf O_law_take,W.mg_of X G g2.a,g2.k,b2⟩
 have O_law_across:Own l.prog w K mg base CX0 1 "_law_across" ["_law_one", "_law_two", "_law_three"] (qV K sAc):=⟨_,_,qcU F3 ,W.mg_of X G g3.a,g3.k,b3⟩
 have O_law_chain:Own l.prog w K mg base CX0 2 "_law_chain" ["_law_points"] (qV K qcu):=⟨_,_,qeV F4 T Yf O_law_across,W.mg_of X G g4.a,g4.k,b4⟩
 have O_law_outer:Own l.prog w K mg base CX0 3 "_law_outer" ["_law_some"] (qV K sOut):=⟨_,_,qeT F5 T Yf O_law_chain,W.mg_of X G g5.a,g5.k,b5⟩
 have O_law_mark:Own l.prog w K mg base CX0 3 "_law_mark" ["_law_pot_here", "_law_are_great"] (qV K qg4):=⟨_,_,qhy F6 Yf O_law_take O_law_wide,W.mg_of X G g6.a,g6.k,b6⟩
 have O_law_cake:Own l.prog w K mg base CX0 4 "_law_cake" ["_law_pot_here"] (qV K qey):=⟨_,_,qhA F7 T Yf O_law_take O_law_mark O_law_outer,W.mg_of X G g7.a,g7.k,b7⟩
 have Ocross:Own l.prog w K mg base CX0 1 "cross" ["one", "other"] (qV K qaY):=⟨_,_,qeU F8 ,W.mg_of X G g8.a,g8.k,b8⟩
 have Ofrom_each_corner:Own l.prog w K mg base CX0 1 "from_each_corner" ["corners"] (qV K qg3):=⟨_,_,qhx F9 T,W.mg_of X G g9.a,g9.k,b9⟩
 have Osides:Own l.prog w K mg base CX0 2 "sides" ["corners"] (qV K qaX):=⟨_,_,qeR F10 T Yf Ofrom_each_corner,W.mg_of X G g10.a,g10.k,b10⟩
 have Oarea:Own l.prog w K mg base CX0 3 "area" ["cake"] (qV K qez):=⟨_,_,qhB F11 T Yf Osides Ocross,W.mg_of X G g11.a,g11.k,b11⟩
 have Ocommon_divisor:Own l.prog w K mg base CX0 1 "common_divisor" ["one", "other"] (qV K sGcd):=⟨_,_,ok_cd F12 T,W.mg_of X G g12.a,g12.k,b12⟩
 have Olowest:Own l.prog w K mg base CX0 2 "lowest" ["n", "d"] (qV K sLow):=⟨_,_,qjJ F13 Yf Ocommon_divisor,W.mg_of X G g13.a,g13.k,b13⟩
 have Ocurve_at:Own l.prog w K mg base CX0 1 "curve_at" ["curve", "n", "d"] (qV K sCvA):=⟨_,_,qjO F14 ,W.mg_of X G g14.a,g14.k,b14⟩
 have Ovalue:Own l.prog w K mg base CX0 1 "value" ["normal", "point"] (qV K qkQ):=⟨_,_,qeQ F15 ,W.mg_of X G g15.a,g15.k,b15⟩
 have Oside_part:Own l.prog w K mg base CX0 1 "side_part" ["start", "end", "low"] (qV K sSp):=⟨_,_,ok_sp F16 T,W.mg_of X G g16.a,g16.k,b16⟩
 have Opart_curve:Own l.prog w K mg base CX0 3 "part_curve" ["cake", "arrow", "low"] (qV K sPc):=⟨_,_,ok_pc F17 T Yf Ovalue Ocross Osides Oside_part,W.mg_of X G g17.a,g17.k,b17⟩
 have Obelow:Own l.prog w K mg base CX0 4 "below" ["cake", "arrow", "n", "d"] (qV K sBel):=⟨_,_,qjR F18 Yf Opart_curve Olowest Ocurve_at,W.mg_of X G g18.a,g18.k,b18⟩
 have Ois_at_most_half:Own l.prog w K mg base CX0 5 "is_at_most_half" ["cake", "arrow", "height"] (qV K qg5):=⟨_,_,qhz F19 Yf Obelow Oarea,W.mg_of X G g19.a,g19.k,b19⟩
 have Ocut_bounds:Own l.prog w K mg base CX0 6 "cut_bounds" ["cake", "arrow"] (qV K sBds):=⟨_,_,qjS F20 T Yf Ovalue Ois_at_most_half,W.mg_of X G g20.a,g20.k,b20⟩
 have Ocut:Own l.prog w K mg base CX0 7 "cut" ["cake", "arrow"] (qV K sCut):=⟨_,_,qjP F21 Yf Ocut_bounds Opart_curve Oarea,W.mg_of X G g21.a,g21.k,b21⟩
 have Ocut_root:Own l.prog w K mg base CX0 8 "cut_root" ["cake", "arrow"] (qV K sCrt):=⟨_,_,qjQ F22 Yf Ocut,W.mg_of X G g22.a,g22.k,b22⟩
 have Osign:Own l.prog w K mg base CX0 1 "sign" ["number"] (qV K qkR):=⟨_,_,qjD F23 ,W.mg_of X G g23.a,g23.k,b23⟩
 have Oroot_sign:Own l.prog w K mg base CX0 2 "root_sign" ["x", "y", "r"] (qV K sRs):=⟨_,_,qjF F24 T Yf Osign,W.mg_of X G g24.a,g24.k,b24⟩
 have Otwo_roots_sign:Own l.prog w K mg base CX0 3 "two_roots_sign" ["x", "y", "r", "z", "s"] (qV K sTrs):=⟨_,_,qjy F25 T Yf Oroot_sign,W.mg_of X G g25.a,g25.k,b25⟩
 have Ocut_order:Own l.prog w K mg base CX0 9 "cut_order" ["one", "other", "arrow"] (qV K qiR):=⟨_,_,qjI F26 T Yf Ocut_root Osign Otwo_roots_sign,W.mg_of X G g26.a,g26.k,b26⟩
 have Oturned_about:Own l.prog w K mg base CX0 1 "turned_about" ["arrow"] (qV K sTab):=⟨_,_,qjA F27 ,W.mg_of X G g27.a,g27.k,b27⟩
 have Oslice_of:Own l.prog w K mg base CX0 10 "slice_of" ["one", "other", "steps"] (qV K sSlc):=⟨_,_,qjC F28 T Yf Ocut_order Oturned_about,W.mg_of X G g28.a,g28.k,b28⟩
 have O_law_is_arrow:Own l.prog w K mg base CX0 1 "_law_is_arrow" ["_law_found"] (qV K sIsa):=⟨_,_,qjL F29 T,W.mg_of X G g29.a,g29.k,b29⟩
 have O_law_turned_back:Own l.prog w K mg base CX0 1 "_law_turned_back" ["_law_arrow"] (qV K sTbk):=⟨_,_,qjz F30 ,W.mg_of X G g30.a,g30.k,b30⟩
 have O_law_ahead:Own l.prog w K mg base CX0 1 "_law_ahead" ["_law_u", "_law_v"] (qV K qkS):=⟨_,_,qjT F31 ,W.mg_of X G g31.a,g31.k,b31⟩
 have O_law_steps_of:Own l.prog w K mg base CX0 2 "_law_steps_of" ["_law_u", "_law_v"] (qV K sStp):=⟨_,_,qjB F32 T Yf O_law_ahead,W.mg_of X G g32.a,g32.k,b32⟩
 have O_law_in_first_quarter:Own l.prog w K mg base CX0 2 "_law_in_first_quarter" ["_law_u", "_law_v"] (qV K sQrt):=⟨_,_,qjG F33 T Yf O_law_turned_back,W.mg_of X G g33.a,g33.k,b33⟩
 have O_law_ends_right:Own l.prog w K mg base CX0 10 "_law_ends_right" ["_law_one", "_law_two", "_law_u", "_law_v", "_law_steps"] (qV K sEnd):=⟨_,_,qjM F34 T Yf Ocut_order O_law_in_first_quarter O_law_steps_of O_law_ahead,W.mg_of X G g34.a,g34.k,b34⟩
 have O_law_depth:Own l.prog w K mg base CX0 1 "_law_depth" ["_law_arrow"] (qV K sDep):=⟨_,_,qjN F35 T,W.mg_of X G g35.a,g35.k,b35⟩
 have O_law_second:Own l.prog w K mg base CX0 5 "_law_second" ["_law_pot_here", "_law_cake_here"] (qV K sSec):=⟨_,_,qjE F36 T Yf O_law_take O_law_cake,W.mg_of X G g36.a,g36.k,b36⟩
 have O_law_right:Own l.prog w K mg base CX0 11 "_law_right" ["_law_pot_here"] (qV K qct):=⟨_,_,qeS F37 T Yf O_law_take O_law_cake O_law_second Oslice_of O_law_is_arrow Ocut_order O_law_depth O_law_ends_right,W.mg_of X G g37.a,g37.k,b37⟩
 exact (qjK F38 T Yf O_law_pot O_law_right).imp (fun _ _ _ _ h=>qjW h)
theorem walk {l:W.OpenLaw}{q:Program}{loose:List Str}{XP:(Str->Option Value)->Heap->Prop}{YP:World->Heap->Prop}{d:DefRec}{K:Params->W.Frag}(hn:l.most=some 63) (hdf:d.params.defaults=[])
  (hY:∀ (w:World) (h:Heap),YP w h->(K w.params).In h)
  (F:∀ (w:World) (mg:Str->Option Value) (fa:Addr) (h:Heap),(K w.params).In h->h.Ns mainGlobals mg->mg d.name=some (.ref fa) →
   ∃ fd:FuncData,(∀ (s:Shared) (u:Value),BindsTo s fd ⟨[u],[]⟩ [("_law_script",u)])/\∀ base:Heap,(K w.params).In base->base.Ns mainGlobals mg->FnOk l.prog w (K w.params) mg base CX0 12 fa fd ["_law_script"] (qet (K w.params))) :
  W.WalkO q loose XP YP l.row.toRowW d [] (fun f vs=>PySem.call f vs) :=
 L2.walk_of (n:=63) (k:=12) (x := "_law_script") (CX:=fun w=>CX0) (sp:=fun w=>qet (K w.params)) hn (by decide) hdf ⟨rfl,by decide,by decide⟩ hY F (fun _ _ a ns hl _ hS=>⟨a,ns,rfl,hS,hl,fun _=>rfl⟩) fun _ _ _ _ _ z=>z
end K76
def PySem.W.Fast.tw3657163065054404678:Nat:=0
def PySem.W.Fast.tw10206563379423524301:Nat:=0
def PySem.W.Fast.tw10035682983817984395:Nat:=0
def PySem.W.Fast.tw1036499387471481181:Nat:=0
def PySem.W.Fast.tw7319975468899607693:Nat:=0
def PySem.W.Fast.tw16626683147898760912:Nat:=0
def PySem.W.Fast.tw17633642851248015543:Nat:=0
def PySem.W.Fast.tw8611517889725644577:Nat:=0
def PySem.W.Fast.tw8190025140128884177:Nat:=0
def PySem.W.Fast.tw5232483405702412935:Nat:=0
def PySem.W.Fast.tw15537165420559419681:Nat:=0
def PySem.W.Fast.tw11389589856759115503:Nat:=0
def PySem.W.Fast.tw5065465429332964059:Nat:=0
def PySem.W.Fast.tw12141803606915283834:Nat:=0
def PySem.W.Fast.tw13092776465848283657:Nat:=0
def PySem.W.Fast.tw7526428599600457908:Nat:=0
def PySem.W.Fast.tw131991473500333028:Nat:=0
def PySem.W.Fast.tw15390140837023252883:Nat:=0
def PySem.W.Fast.tw10415843536447381297:Nat:=0
def PySem.W.Fast.tw7028021838667433280:Nat:=0
def PySem.W.Fast.tw17948823764368255347:Nat:=0
def PySem.W.Fast.tw16498718861851589488:Nat:=0
def PySem.W.Fast.tw2809016125781304272:Nat:=0
def PySem.W.Fast.tw16422355030858575677:Nat:=0
def PySem.W.Fast.tw14795307355678340551:Nat:=0
def PySem.W.Fast.tw14916432758965335527:Nat:=0
def PySem.W.Fast.tw176861890529943867:Nat:=0
def PySem.W.Fast.tw13058519936841131859:Nat:=0
def PySem.W.Fast.tw662131646242863524:Nat:=0
def PySem.W.Fast.tw12413524524511532994:Nat:=0
def PySem.W.Fast.tw1379027964205238734:Nat:=0
def PySem.W.Fast.tw4941031495954087172:Nat:=0
def PySem.W.Fast.tw10388652806446743670:Nat:=0
def PySem.W.Fast.tw7348993750038046692:Nat:=0
def PySem.W.Fast.tw13034693306612926114:Nat:=0
def PySem.W.Fast.tw11908428025250823803:Nat:=0
def PySem.W.Fast.tw15608699623018133264:Nat:=0
def PySem.W.Fast.tw2179871964467603712:Nat:=0
def PySem.W.Fast.tw14689975801394441901:Nat:=0
def PySem.W.Fast.tw17598453651091176517:Nat:=0
def PySem.W.Fast.tw12109309331859745653:Nat:=0
def PySem.W.Fast.tw257786872980971213:Nat:=0
def PySem.W.Fast.tw2740750590315030024:Nat:=0
def PySem.W.Fast.tw17038406451863767789:Nat:=0
def PySem.W.Fast.tw15505331782865593110:Nat:=0
def PySem.W.Fast.tw5043593467180334772:Nat:=0
def PySem.W.Fast.tw7217187752165339318:Nat:=0
def PySem.W.Fast.tw1781581609659409341:Nat:=0
def PySem.W.Fast.tw11122789961650508225:Nat:=0
def PySem.W.Fast.tw6611547408037939461:Nat:=0
def PySem.W.Fast.tw11383297048615268526:Nat:=0
def PySem.W.Fast.tw5444023870846855043:Nat:=0
def PySem.W.Fast.tw9580178628316584614:Nat:=0
def PySem.W.Fast.tw15890164629251597416:Nat:=0
def PySem.W.Fast.tw9520210928175743866:Nat:=0
def PySem.W.Fast.tw2988325866840826358:Nat:=0
def PySem.W.Fast.tw13194893244411574820:Nat:=0
def PySem.W.Fast.tw6523671502249185222:Nat:=0
def PySem.W.Fast.tw382638143543996458:Nat:=0
def PySem.W.Fast.tw2486684594580197457:Nat:=0
def PySem.W.Fast.tw13916059633281012143:Nat:=0
def PySem.W.Fast.tw10578441472865561031:Nat:=0
def PySem.W.Fast.tw1635430936205007785:Nat:=0
def PySem.W.Fast.tw15128152535225249837:Nat:=0
def PySem.W.Fast.tw711513664995907011:Nat:=0
def PySem.W.Fast.tw7898932532101327648:Nat:=0
def PySem.W.Fast.tw12017873048723727352:Nat:=0
def PySem.W.Fast.tw12485540342237239149:Nat:=0
def PySem.W.Fast.tw300909433057854631:Nat:=0
def PySem.W.Fast.tw1630783840145939291:Nat:=0
def PySem.W.Fast.tw2651057343409072612:Nat:=0
def PySem.W.Fast.tw17532038568156516995:Nat:=0
def PySem.W.Fast.tw16557556684569908695:Nat:=0
def PySem.W.Fast.tw5885527054299089967:Nat:=0
def PySem.W.Fast.tw4366679530591108051:Nat:=0
def PySem.W.Fast.tw320307826951764397:Nat:=0
def PySem.W.Fast.tw13096981118874940434:Nat:=0
def PySem.W.Fast.tw5151484459144972507:Nat:=0
def PySem.W.Fast.tw8169629184067067378:Nat:=0
def PySem.W.Fast.tw10296001396875809501:Nat:=0
def PySem.W.Fast.tw7626364325286376212:Nat:=0
def PySem.W.Fast.tw14296747747841648858:Nat:=0
def PySem.W.Fast.tw4710941252724739865:Nat:=0
def PySem.W.Fast.tw16800818725957846960:Nat:=0
def PySem.W.Fast.tw12233320322282689355:Nat:=0
open PySem PySem.W PyProof.Rows
set_option maxRecDepth 100000 in
set_option maxHeartbeats 0 in
theorem PySem.Challenge.cw_halveline_k76_slices_holds : PySem.Challenge.rw_halveline_k76_slices.Holds := by
 w_on;o_law;k_head;(case hw=>w_witness2)
 k_fill
 refine K76.walk (l:=PySem.Challenge.rw_halveline_k76_slices) rfl rfl (fun w h Y=>W.kIn_of Y) ?F
 case F =>
  intro w mg fa h KX G hmg
  refine' K76.all_mk KX G hmg (K76.fin_mk ?a0 ?l0 ?c0 ?k0) (K76.fin_mk ?a1 ?l1 ?c1 ?k1) (K76.fin_mk ?a2 ?l2 ?c2 ?k2) (K76.fin_mk ?a3 ?l3 ?c3 ?k3) (K76.fin_mk ?a4 ?l4 ?c4 ?k4) (K76.fin_mk ?a5 ?l5 ?c5 ?k5) (K76.fin_mk ?a6 ?l6 ?c6 ?k6) (K76.fin_mk ?a7 ?l7 ?c7 ?k7) (K76.fin_mk ?a8 ?l8 ?c8 ?k8) (K76.fin_mk ?a9 ?l9 ?c9 ?k9) (K76.fin_mk ?a10 ?l10 ?c10 ?k10) (K76.fin_mk ?a11 ?l11 ?c11 ?k11) (K76.fin_mk ?a12 ?l12 ?c12 ?k12) (K76.fin_mk ?a13 ?l13 ?c13 ?k13) (K76.fin_mk ?a14 ?l14 ?c14 ?k14) (K76.fin_mk ?a15 ?l15 ?c15 ?k15) (K76.fin_mk ?a16 ?l16 ?c16 ?k16) (K76.fin_mk ?a17 ?l17 ?c17 ?k17) (K76.fin_mk ?a18 ?l18 ?c18 ?k18) (K76.fin_mk ?a19 ?l19 ?c19 ?k19) (K76.fin_mk ?a20 ?l20 ?c20 ?k20) (K76.fin_mk ?a21 ?l21 ?c21 ?k21) (K76.fin_mk ?a22 ?l22 ?c22 ?k22) (K76.fin_mk ?a23 ?l23 ?c23 ?k23) (K76.fin_mk ?a24 ?l24 ?c24 ?k24) (K76.fin_mk ?a25 ?l25 ?c25 ?k25) (K76.fin_mk ?a26 ?l26 ?c26 ?k26) (K76.fin_mk ?a27 ?l27 ?c27 ?k27) (K76.fin_mk ?a28 ?l28 ?c28 ?k28) (K76.fin_mk ?a29 ?l29 ?c29 ?k29) (K76.fin_mk ?a30 ?l30 ?c30 ?k30) (K76.fin_mk ?a31 ?l31 ?c31 ?k31) (K76.fin_mk ?a32 ?l32 ?c32 ?k32) (K76.fin_mk ?a33 ?l33 ?c33 ?k33) (K76.fin_mk ?a34 ?l34 ?c34 ?k34) (K76.fin_mk ?a35 ?l35 ?c35 ?k35) (K76.fin_mk ?a36 ?l36 ?c36 ?k36) (K76.fin_mk ?a37 ?l37 ?c37 ?k37) ?a38 ?l38 ?c38 ?k38 ?z0 ?z1 ?z2 ?z3 ?z4 ?z5 ?z6 ?z7 ?z8 ?z9 ?z10 ?z11 ?z12 ?z13 ?z14 ?z15 ?z16 ?z17 ?z18 ?z19
  (case a0=>k_is)
  (case l0=>k_is)
  (case c0=>k_is)
  (case k0=>k_is)
  (case a1=>k_is)
  (case l1=>k_is)
  (case c1=>k_is)
  (case k1=>k_is)
  (case a2=>k_is)
  (case l2=>k_is)
  (case c2=>k_is)
  (case k2=>k_is)
  (case a3=>k_is)
  (case l3=>k_is)
  (case c3=>k_is)
  (case k3=>k_is)
  (case a4=>k_is)
  (case l4=>k_is)
  (case c4=>k_is)
  (case k4=>k_is)
  (case a5=>k_is)
  (case l5=>k_is)
  (case c5=>k_is)
  (case k5=>k_is)
  (case a6=>k_is)
  (case l6=>k_is)
  (case c6=>k_is)
  (case k6=>k_is)
  (case a7=>k_is)
  (case l7=>k_is)
  (case c7=>k_is)
  (case k7=>k_is)
  (case a8=>k_is)
  (case l8=>k_is)
  (case c8=>k_is)
  (case k8=>k_is)
  (case a9=>k_is)
  (case l9=>k_is)
  (case c9=>k_is)
  (case k9=>k_is)
  (case a10=>k_is)
  (case l10=>k_is)
  (case c10=>k_is)
  (case k10=>k_is)
  (case a11=>k_is)
  (case l11=>k_is)
  (case c11=>k_is)
  (case k11=>k_is)
  (case a12=>k_is)
  (case l12=>k_is)
  (case c12=>k_is)
  (case k12=>k_is)
  (case a13=>k_is)
  (case l13=>k_is)
  (case c13=>k_is)
  (case k13=>k_is)
  (case a14=>k_is)
  (case l14=>k_is)
  (case c14=>k_is)
  (case k14=>k_is)
  (case a15=>k_is)
  (case l15=>k_is)
  (case c15=>k_is)
  (case k15=>k_is)
  (case a16=>k_is)
  (case l16=>k_is)
  (case c16=>k_is)
  (case k16=>k_is)
  (case a17=>k_is)
  (case l17=>k_is)
  (case c17=>k_is)
  (case k17=>k_is)
  (case a18=>k_is)
  (case l18=>k_is)
  (case c18=>k_is)
  (case k18=>k_is)
  (case a19=>k_is)
  (case l19=>k_is)
  (case c19=>k_is)
  (case k19=>k_is)
  (case a20=>k_is)
  (case l20=>k_is)
  (case c20=>k_is)
  (case k20=>k_is)
  (case a21=>k_is)
  (case l21=>k_is)
  (case c21=>k_is)
  (case k21=>k_is)
  (case a22=>k_is)
  (case l22=>k_is)
  (case c22=>k_is)
  (case k22=>k_is)
  (case a23=>k_is)
  (case l23=>k_is)
  (case c23=>k_is)
  (case k23=>k_is)
  (case a24=>k_is)
  (case l24=>k_is)
  (case c24=>k_is)
  (case k24=>k_is)
  (case a25=>k_is)
  (case l25=>k_is)
  (case c25=>k_is)
  (case k25=>k_is)
  (case a26=>k_is)
  (case l26=>k_is)
  (case c26=>k_is)
  (case k26=>k_is)
  (case a27=>k_is)
  (case l27=>k_is)
  (case c27=>k_is)
  (case k27=>k_is)
  (case a28=>k_is)
  (case l28=>k_is)
  (case c28=>k_is)
  (case k28=>k_is)
  (case a29=>k_is)
  (case l29=>k_is)
  (case c29=>k_is)
  (case k29=>k_is)
  (case a30=>k_is)
  (case l30=>k_is)
  (case c30=>k_is)
  (case k30=>k_is)
  (case a31=>k_is)
  (case l31=>k_is)
  (case c31=>k_is)
  (case k31=>k_is)
  (case a32=>k_is)
  (case l32=>k_is)
  (case c32=>k_is)
  (case k32=>k_is)
  (case a33=>k_is)
  (case l33=>k_is)
  (case c33=>k_is)
  (case k33=>k_is)
  (case a34=>k_is)
  (case l34=>k_is)
  (case c34=>k_is)
  (case k34=>k_is)
  (case a35=>k_is)
  (case l35=>k_is)
  (case c35=>k_is)
  (case k35=>k_is)
  (case a36=>k_is)
  (case l36=>k_is)
  (case c36=>k_is)
  (case k36=>k_is)
  (case a37=>k_is)
  (case l37=>k_is)
  (case c37=>k_is)
  (case k37=>k_is)
  (case a38=>k_is)
  (case l38=>k_is)
  (case c38=>k_is)
  (case k38=>k_is)
  (case z0=>k_is)
  (case z1=>k_is)
  (case z2=>k_is)
  (case z3=>k_is)
  (case z4=>k_is)
  (case z5=>k_is)
  (case z6=>k_is)
  (case z7=>k_is)
  (case z8=>k_is)
  (case z9=>k_is)
  (case z10=>k_is)
  (case z11=>k_is)
  (case z12=>k_is)
  (case z13=>k_is)
  (case z14=>k_is)
  (case z15=>k_is)
  (case z16=>k_is)
  (case z17=>k_is)
  (case z18=>k_is)
  (case z19=>k_is)
