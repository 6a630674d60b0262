import PyProof.Rows.All
import Wide.All
import OpenK.AllK
import Wide.FinOn
import Lean
import PyProof.EqAt
import PyProof.EqKinds
import PyProof.TupleCall
import KE.KSortTup
import PyProof.Rows.SortWalk
import PyProof.Rows.SetFrom
import PyProof.CollectIter
import PyProof.SeqI3
import PyProof.EnumFor
import PyProof.EnumMake
import PyProof.ZipIter
import KE.KLam
import KE.KNestM
import KE.KSortKey
import PyProof.Rows.CallKwBuiltin
import PyProof.WalkInts
import PySem.Challenge.RW_halveline_k92_whole_steps_change_what_pa
set_option Elab.async false
set_option linter.all false
set_option maxRecDepth 100000
noncomputable section
section
open PySem PySem.Spec PyProof.Rows
theorem qa:type_of% @wpAny_bind:=@wpAny_bind
theorem qb:type_of% @List.mem_append_right:=@List.mem_append_right
theorem qc:type_of% @Heap.get?_push_of_some:=@Heap.get?_push_of_some
theorem qd:type_of% @wpAny_pure:=@wpAny_pure
theorem qe:type_of% @List.mem_cons_of_mem:=@List.mem_cons_of_mem
theorem qg:type_of% @List.mem_cons_self:=@List.mem_cons_self
theorem qh:type_of% @Heap.lt_size:=@Heap.lt_size
theorem qi:type_of% @wpS_bind:=@wpS_bind
theorem qj:type_of% @Nat.le_refl:=@Nat.le_refl
theorem qk:type_of% @Nat.ne_of_lt:=@Nat.ne_of_lt
theorem ql:type_of% @List.getElem?_eq_some_iff:=@List.getElem?_eq_some_iff
theorem qm:type_of% @wpS_pure:=@wpS_pure
theorem qo:type_of% @Array.getElem?_toList:=@Array.getElem?_toList
theorem qp:type_of% @List.mem_append_left:=@List.mem_append_left
theorem qu:type_of% @Nat.le_trans:=@Nat.le_trans
theorem qv:type_of% @List.mem_map:=@List.mem_map
theorem qx:type_of% @Heap.get?_push_size:=@Heap.get?_push_size
theorem qy:type_of% @of_decide_eq_true:=@of_decide_eq_true
theorem qz:type_of% @List.getD_eq_getElem?_getD:=@List.getD_eq_getElem?_getD
theorem qA:type_of% @List.mem_singleton:=@List.mem_singleton
theorem qB:type_of% @decide_eq_true:=@decide_eq_true
theorem qD:type_of% @List.take_append_drop:=@List.take_append_drop
theorem qF:type_of% @wpAny_mono:=@wpAny_mono
theorem qH:type_of% @Nat.lt_of_lt_of_le:=@Nat.lt_of_lt_of_le
theorem qJ:type_of% @List.getElem?_append_left:=@List.getElem?_append_left
theorem qL:type_of% @List.pairwise_iff_getElem:=@List.pairwise_iff_getElem
theorem qN:type_of% @Nat.zero_le:=@Nat.zero_le
theorem qO:type_of% @List.getElem_mem:=@List.getElem_mem
theorem qP:type_of% @List.getElem?_append_right:=@List.getElem?_append_right
theorem qR:type_of% @List.pairwise_append:=@List.pairwise_append
theorem qT:type_of% @Heap.get?_update_other:=@Heap.get?_update_other
theorem qU:type_of% @List.getElem?_of_mem:=@List.getElem?_of_mem
theorem qX:type_of% @wpAny_holding:=@wpAny_holding
theorem ya:type_of% @wpS_forRange:=@wpS_forRange
theorem yc:type_of% @Nat.lt_irrefl:=@Nat.lt_irrefl
theorem yd:type_of% @Array.perm_iff_toList_perm:=@Array.perm_iff_toList_perm
theorem yf:type_of% @Nat.le_of_lt:=@Nat.le_of_lt
theorem yj:type_of% @Array.getElem?_eq_none:=@Array.getElem?_eq_none
theorem yr:type_of% @decide_eq_false:=@decide_eq_false
theorem yu:type_of% @Nat.lt_succ_self:=@Nat.lt_succ_self
theorem yx:type_of% @wpAny_setState_of:=@wpAny_setState_of
theorem yz:type_of% @List.pairwise_map:=@List.pairwise_map
theorem yA:type_of% @Heap.get?_update_self:=@Heap.get?_update_self
theorem yF:type_of% @List.mem_iff_getElem:=@List.mem_iff_getElem
theorem yI:type_of% @Nat.lt_trans:=@Nat.lt_trans
theorem yJ:type_of% @wpAny_newObj_type:=@wpAny_newObj_type
theorem yM:type_of% @Heap.get?_update_ne:=@Heap.get?_update_ne
theorem yN:type_of% @wpS_mono:=@wpS_mono
theorem yS:type_of% @wpAny_standAt:=@wpAny_standAt
theorem yW:type_of% @Nat.lt_of_le_of_lt:=@Nat.lt_of_le_of_lt
theorem y6:type_of% @List.drop_eq_getElem_cons:=@List.drop_eq_getElem_cons
theorem ja:type_of% @List.mem_of_mem_drop:=@List.mem_of_mem_drop
theorem jb:type_of% @wpS_modify:=@wpS_modify
theorem jo:type_of% @List.length_pos_iff:=@List.length_pos_iff
theorem jp:type_of% @List.getElem?_replicate:=@List.getElem?_replicate
theorem jx:type_of% @wpAny_askSetting:=@wpAny_askSetting
theorem jB:type_of% @List.take_length:=@List.take_length
theorem jC:type_of% @wpAny_rule:=@wpAny_rule
end
namespace L2
theorem lenIs1 {α:Type}{us:List α}{n:Nat}(h:us.length=n) (e:n=1):∃ a0,us=[a0]:=by
  subst e
  cases us with
  | nil=>simp at h
  | cons a0 us =>
    cases us with
    | nil=>exact ⟨_,rfl⟩
    | cons a b=>simp at h
theorem lenIs2 {α:Type}{us:List α}{n:Nat}(h:us.length=n) (e:n=2):∃ a0 a1,us=[a0,a1]:=by
  subst e
  cases us with
  | nil=>simp at h
  | cons a0 us =>
    cases us with
    | nil=>simp at h
    | cons a1 us =>
      cases us with
      | nil=>exact ⟨_,_,rfl⟩
      | cons a b=>simp at h
theorem lenIs3 {α:Type}{us:List α}{n:Nat}(h:us.length=n) (e:n=3):∃ a0 a1 a2,us=[a0,a1,a2]:=by
  subst e
  cases us with
  | nil=>simp at h
  | cons a0 us =>
    cases us with
    | nil=>simp at h
    | cons a1 us =>
      cases us with
      | nil=>simp at h
      | cons a2 us =>
        cases us with
        | nil=>exact ⟨_,_,_,rfl⟩
        | cons a b=>simp at h
theorem lenIs4 {α:Type}{us:List α}{n:Nat}(h:us.length=n) (e:n=4):∃ a0 a1 a2 a3,us=[a0,a1,a2,a3]:=by
  subst e
  cases us with
  | nil=>simp at h
  | cons a0 us =>
    cases us with
    | nil=>simp at h
    | cons a1 us =>
      cases us with
      | nil=>simp at h
      | cons a2 us =>
        cases us with
        | nil=>simp at h
        | cons a3 us =>
          cases us with
          | nil=>exact ⟨_,_,_,_,rfl⟩
          | cons a b=>simp at h
open PySem PySem.Spec PyProof.Rows
abbrev Key:=Sum Int Str
def qjY:Key->Value->Bool
  | .inl k,v=>Value.isInt k v
  | .inr x,v=>Value.isStrOf x v
def keyH (w:World):Key->Int
  | .inl k=>hashInt k
  | .inr x=>hashStr w x
theorem yw:∀ {k:Key}{v:Value},qjY k v=true->(∃ i t,k=Sum.inl i/\v=Value.int i t)\/(∃ x t,k=Sum.inr x/\v=Value.str x t)
  | .inl i,v,h=>by
    obtain ⟨t,e⟩:=Value.isInt_shape (k:=i) (v:=v) h
    exact .inl ⟨i,t,rfl,e⟩
  | .inr x,v,h=>by
    obtain ⟨t,e⟩:=Value.isStrOf_shape (x:=x) (v:=v) h
    exact .inr ⟨x,t,rfl,e⟩
theorem qjX (a b:Int):decide ((Sum.inl a:Key)=Sum.inl b)=(a == b):=by
  by_cases e:a=b
  · subst e;simp
  · have h:¬ (Sum.inl a:Key)=Sum.inl b:=fun q=>e (Sum.inl.inj q)
    rw [yr h]
    exact (beq_eq_false_iff_ne.mpr e).symm
theorem qjU (a b:Str):decide ((Sum.inr a:Key)=Sum.inr b)=decide (a=b):=by
  by_cases e:a=b
  · subst e;simp
  · have h:¬ (Sum.inr a:Key)=Sum.inr b:=fun q=>e (Sum.inr.inj q)
    rw [yr h,yr e]
theorem qjW (a:Int) (b:Str):decide ((Sum.inl a:Key)=Sum.inr b)=false:=yr (fun q=>nomatch q)
theorem qjV (a:Str) (b:Int):decide ((Sum.inr a:Key)=Sum.inl b)=false:=yr (fun q=>nomatch q)
def qdy (prog:Program) (w:World):PySem.KeyKind prog w Key where
  is:=qjY
  hash:=keyH w
  inj:=fun v a b ha hb=>by
    rcases yw ha with ⟨i,t,rfl,rfl⟩ | ⟨x,t,rfl,rfl⟩
    · rcases yw hb with ⟨j,u,rfl,e⟩ | ⟨y,u,rfl,e⟩
      · injection e with e1 _;rw [e1]
      · exact nomatch e
    · rcases yw hb with ⟨j,u,rfl,e⟩ | ⟨y,u,rfl,e⟩
      · exact nomatch e
      · injection e with e1 _;rw [e1]
  byValue:=fun k v h=>by
    rcases yw h with ⟨i,t,rfl,rfl⟩ | ⟨x,t,rfl,rfl⟩ <;> rfl
  pyHash:=fun hv h=>by
    rcases yw hv with ⟨i,t,rfl,rfl⟩ | ⟨x,t,rfl,rfl⟩
    · exact wpAny_pyHash_int h
    · exact wpAny_pyHash_str h
  eqBool:=fun hu hv h=>by
    rcases yw hu with ⟨i,t,rfl,rfl⟩ | ⟨x,t,rfl,rfl⟩
    · rcases yw hv with ⟨j,u,rfl,rfl⟩ | ⟨y,u,rfl,rfl⟩
      · rw [qjX] at h;exact wpAny_eqBool_int h
      · rw [qjW] at h;exact SeqAt.EqAt.int_str i t y u _ _ _ _ h
    · rcases yw hv with ⟨j,u,rfl,rfl⟩ | ⟨y,u,rfl,rfl⟩
      · rw [qjV] at h;exact SeqAt.EqAt.str_int x t j u _ _ _ _ h
      · rw [qjU] at h;exact wpAny_eqBool_str h
  «strs»:=fun k x t v h=>by
    rcases yw h with ⟨i,u,rfl,e⟩ | ⟨y,u,rfl,e⟩
    · exact nomatch e
    · injection e with e1 _
      subst e1
      cases v <;> rfl
inductive V where
  | non | bl (b:Bool) | int (i:Int) | str (x:Str) | byt (b:Array UInt8) | flt (b:UInt64) | ref (a:Addr) | ty (n:String)
  deriving DecidableEq
def yP:V->Value->Prop
  | .non,u=>u=Value.none
  | .bl b,u=>u=Value.bool b
  | .int i,u=>∃ t,u=Value.int i t
  | .str x,u=>∃ t,u=Value.str x t
  | .byt b,u=>∃ t,u=Value.bytes b t
  | .flt b,u=>∃ t,u=Value.float b t
  | .ref a,u=>u=Value.ref a
  | .ty n,u=>u=Value.type n
abbrev yb:List V->List Value->Prop:=Paired yP
theorem yb.length {xs:List V}{us:List Value}(r:yb xs us):xs.length=us.length:=Paired.length r
theorem yb.get:∀ {xs:List V}{us:List Value}{i:Nat}{x:V},yb xs us->xs[i]?=some x->∃ u,us[i]?=some u/\yP x u
  | _,_,_,_,.nil,e=>by simp at e
  | _,_,0,_,.cons r _,e=>by simp at e;subst e;exact ⟨_,rfl,r⟩
  | _,_,i+1,x,.cons _ t,e=>by
    obtain ⟨u,h1,h2⟩:=yb.get (i:=i) (x:=x) t (by simpa using e)
    exact ⟨u,by simpa using h1,h2⟩
theorem yb.set {x:V}{u:Value}(r:yP x u):∀ {xs:List V}{us:List Value}(i:Nat),yb xs us->yb (xs.set i x) (us.set i u)
  | _,_,_,.nil=>.nil
  | _,_,0,.cons _ t=>.cons r t
  | _,_,i+1,.cons q t=>.cons q (yb.set r i t)
theorem yb.append:∀ {xs ys:List V}{us ws:List Value},yb xs us->yb ys ws->yb (xs++ys) (us++ws)
  | _,_,_,_,.nil,s=>s
  | _,_,_,_,.cons r t,s=>.cons r (yb.append t s)
theorem yb.take:∀ {xs:List V}{us:List Value}(n:Nat),yb xs us->yb (xs.take n) (us.take n)
  | _,_,0,_=>.nil
  | _,_,_+1,.nil=>.nil
  | _,_,n+1,.cons r t=>.cons r (yb.take n t)
theorem yb.drop:∀ {xs:List V}{us:List Value}(n:Nat),yb xs us->yb (xs.drop n) (us.drop n)
  | _,_,0,r=>r
  | _,_,_+1,.nil=>.nil
  | _,_,n+1,.cons _ t=>yb.drop n t
theorem yb.none_of:∀ {xs:List V}{us:List Value}{i:Nat},yb xs us->xs[i]?=none->us[i]?=none:=fun {xs us i} r e=>by
  have h1:=r.length
  have h2:xs.length<=i:=List.getElem?_eq_none_iff.mp e
  exact List.getElem?_eq_none_iff.mpr (by omega)
def qeM:Option V->Option Value->Prop
  | some v,some u=>yP v u
  | none,none=>True
  | _,_=>False
def KV {κ:Type}:List (κ×V)->List (κ×Value)->Prop:=Paired fun (p:κ×V) (q:κ×Value)=>p.1=q.1/\yP p.2 q.2
def kV:Key->V
  | .inl i=>.int i
  | .inr x=>.str x
inductive HO where
    | lst (xs:List V)
    | tup (xs:List V)
    | dK (kvs:List (Key×V)) | dT (kvs:List (List Key×V))
    | set (S:Int->Bool) (n:Nat)
    | ins (C dx:Addr) (fs:List (Str×V))
    | own (x:Addr)
    | xd (fs:List (Str×V))
    | met (f x:Addr)
    | rng (lo hi:Int)
    | frz (o:Obj) (u:HO)
    | tbl (ps:Array Value)
    | ext (φ:Heap->Prop)
abbrev Hp:=Addr->Option HO
def upd (H:Hp) (a:Addr) (o:HO):Hp:=fun b=>if b=a then some o else H b
theorem qM {H:Hp}{a:Addr}{o:HO}:upd H a o a=some o:=by unfold upd;rw [if_pos rfl]
theorem qI {H:Hp}{a b:Addr}{o:HO}(h:b≠a):upd H a o b=H b:=by unfold upd;rw [if_neg h]
theorem qjL {H:Hp}{a b:Addr}{o u:HO}(h:H a=some o) (h':H b=some u) (d:o≠u):a≠b:=by
  intro e;subst e;rw [h] at h';exact d (Option.some.inj h')
theorem qC {H:Hp}{a b:Addr}{o:HO}(h:H a=some o) (h':H b=none):a≠b:=by
  intro e;subst e;rw [h] at h';cases h'
section
variable (P:Program) (w:World)
def jn (H:Hp) (h:Heap) (a:Addr):HO->Prop
  | .lst xs=>xs.length<=sizeLine/\∃ (its:List Value) (n:Nat),yb xs its/\h.get? a=some { cls:=.type "list",data:=.seq its.toArray n }
  | .tup xs=>xs.length<=sizeLine/\∃ its:List Value,yb xs its/\IsTup h a its.toArray
  | .dK kvs=>kvs.length<=sizeLine/\(a == sysModules)=false/\∃ vs,KV kvs vs/\h.DictOf (qdy P w) a vs
  | .dT kvs=>kvs.length<=sizeLine/\(a == sysModules)=false/\∃ xs:List (List Key×Addr×Value),
      Paired (fun (p:List Key×V) (q:List Key×Addr×Value)=>p.1=q.1/\H q.2.1=some (.tup (p.1.map kV))/\yP p.2 q.2.2) kvs xs ∧
      ∃ o es ep,h.get? a=some o/\o.ExactDict/\o.data = .dict es ep/\es.toList=xs.map (entryOfKey (tupleKind (qdy P w)))/\(xs.map (·.1)).Nodup
  | .set S n=>h.SetOf (intKind P w) a S n
  | .ins C dx fs=>H dx=some (.own a)/\fs.length<=1000/\dx≠a/\h.get? a=some (W.instObj C dx) ∧
      ∃ mA,h.Ns1 dx mA/\(∀ f,qeM (fs.lookup f) (mA f))/\PySem.Within mA (fs.map (·.1))
  | .own _=>∃ o,h.get? a=some o
  | .xd fs=>∃ mA,h.Ns1 a mA/\∀ f,qeM (fs.lookup f) (mA f)
  | .rng lo hi=>∃ t u v,h.get? a=some { cls:=.type "range",data:=.fields #[.int lo t,.int hi u,.int 1 v] }
  | .frz o u=>h.get? a=some o/\jn H h a u
  | .tbl ps=>h.get? a=some { cls:=.none,data:=.fields ps }
  | .met f x=>h.get? a=some (W.methodObj (.ref f) (.ref x))
  | .ext φ=>φ h/\(∃ o,h.get? a=some o)/\∀ h1 h2:Heap,φ h1->(∀ o,h1.get? a=some o->h2.get? a=some o)->φ h2
def HOk (H:Hp) (h:Heap):Prop:=∀ a o,H a=some o->jn P w H h a o
end
section
variable {P:Program}{w:World}{H H':Hp}{h h':Heap}{a:Addr}{o:HO}
theorem jn.lt (x:jn P w H h a o):a<h.objs.size:=by
  cases o with
  | lst xs=>obtain ⟨_,_,_,_,e⟩:=x;exact qh e
  | tup xs=>obtain ⟨_,_,_,p⟩:=x;exact p.lt
  | dK kvs=>obtain ⟨_,_,_,_,o,_,_,e,_⟩:=x;exact qh e
  | dT kvs=>obtain ⟨_,_,_,_,o,_,_,e,_⟩:=x;exact qh e
  | set S n=>obtain ⟨o,_,_,_,e,_⟩:=x;exact qh e
  | ins C dx fs=>obtain ⟨_,_,_,e,_⟩:=x;exact qh e
  | own y=>obtain ⟨_,e⟩:=x;exact qh e
  | xd fs=>obtain ⟨_,⟨_,_,_,e,_⟩,_⟩:=x;exact qh e
  | rng lo hi=>obtain ⟨_,_,_,e⟩:=x;exact qh e
  | frz ob u=>obtain ⟨e,_⟩:=x;exact qh e
  | tbl ps=>exact qh (show h.get? a=some _ from x)
  | met f y=>exact qh (show h.get? a=some _ from x)
  | ext φ=>obtain ⟨_,⟨_,e⟩,_⟩:=x;exact qh e
theorem Paired.mapP {α β:Type}{F G:α->β->Prop}:∀ {l₁:List α}{l₂:List β},Paired F l₁ l₂->(∀ a b,F a b->G a b)->Paired G l₁ l₂
  | _,_,.nil,_=>.nil
  | _,_,.cons r t,f=>.cons (f _ _ r) (Paired.mapP t f)
theorem jn.stay (x:jn P w H h a o) (k:∀ b u,(b=a\/H b=some (.own a))->h.get? b=some u->h'.get? b=some u)
    (ho:∀ b,H b=some (.own a)->H' b=some (.own a)) (ht:∀ b xs,H b=some (.tup xs)->H' b=some (.tup xs)):jn P w H' h' a o:=by
  induction o with
  | lst xs=>obtain ⟨z,its,n,r,e⟩:=x;exact ⟨z,its,n,r,k _ _ (.inl rfl) e⟩
  | tup xs=>obtain ⟨z,its,r,ob,e,c⟩:=x;exact ⟨z,its,r,ob,k _ _ (.inl rfl) e,c⟩
  | dK kvs=>obtain ⟨z,y,vs,r,ob,es,ep,e,c⟩:=x;exact ⟨z,y,vs,r,ob,es,ep,k _ _ (.inl rfl) e,c⟩
  | dT kvs =>
    obtain ⟨z,y,xs,r,ob,es,ep,e,c⟩:=x
    exact ⟨z,y,xs,Paired.mapP r fun p q z=>⟨z.1,ht _ _ z.2.1,z.2.2⟩,ob,es,ep,k _ _ (.inl rfl) e,c⟩
  | set S n=>obtain ⟨ob,es,ep,t,e,c⟩:=x;exact ⟨ob,es,ep,t,k _ _ (.inl rfl) e,c⟩
  | ins C dx fs =>
    obtain ⟨d,z,ne,e,mA,⟨od,es,ep,e2,c⟩,r⟩:=x
    exact ⟨ho _ d,z,ne,k _ _ (.inl rfl) e,mA,⟨od,es,ep,k _ _ (.inr d) e2,c⟩,r⟩
  | own y=>obtain ⟨ob,e⟩:=x;exact ⟨ob,k _ _ (.inl rfl) e⟩
  | xd fs=>obtain ⟨mA,⟨od,es,ep,e,c⟩,r⟩:=x;exact ⟨mA,⟨od,es,ep,k _ _ (.inl rfl) e,c⟩,r⟩
  | rng lo hi=>obtain ⟨t,u,v,e⟩:=x;exact ⟨t,u,v,k _ _ (.inl rfl) e⟩
  | frz ob u ih=>obtain ⟨e,q⟩:=x;exact ⟨k _ _ (.inl rfl) e,ih q⟩
  | tbl ps =>
    have e:h.get? a=some { cls:=.none,data:=.fields ps }:=x
    show h'.get? a=some { cls:=.none,data:=.fields ps }
    exact k a _ (.inl rfl) e
  | met f y =>
    have e:h.get? a=some (W.methodObj (.ref f) (.ref y)):=x
    show h'.get? a=some (W.methodObj (.ref f) (.ref y))
    exact k a _ (.inl rfl) e
  | ext φ=>obtain ⟨p,⟨o,e⟩,st⟩:=x;exact ⟨st _ _ p fun o q=>k _ _ (.inl rfl) q,⟨o,k _ _ (.inl rfl) e⟩,st⟩
theorem HOk.lt (x:HOk P w H h) (e:H a=some o):a<h.objs.size:=(x a o e).lt
theorem HOk.fresh (x:HOk P w H h) (e:h.objs.size<=a):H a=none:=by
  cases q:H a with
  | none=>rfl
  | some u=>exact absurd (qH (x.lt q) e) (yc _)
theorem HOk.kept (x:HOk P w H h) (k:∀ b u,h.get? b=some u->h'.get? b=some u):HOk P w H h':=fun a o e =>
  (x a o e).stay (fun b u _ q=>k b u q) (fun _ q=>q) fun _ _ q=>q
theorem HOk.laid (x:HOk P w H h) (k:∀ b u,h.get? b=some u->h'.get? b=some u) (hp:h.objs.size<=a) (new:jn P w (upd H a o) h' a o):HOk P w (upd H a o) h':=fun b u e=>by
  have hn:=x.fresh hp
  by_cases hb:b=a
  · subst hb;rw [qM] at e;cases e;exact new
  · rw [qI hb] at e
    exact (x b u e).stay (fun c v _ q=>k c v q) (fun c q=>by rw [qI (qC q hn)];exact q) fun c xs q=>by rw [qI (qC q hn)];exact q
end
def Rd (H:Hp) (a:Addr) (u:HO):Prop:=H a=some u\/∃ o,H a=some (.frz o u)
theorem Rd.of {H:Hp}{a:Addr}{u:HO}(h:H a=some u):Rd H a u:=.inl h
theorem Rd.ok {P:Program}{w:World}{H:Hp}{h:Heap}{a:Addr}{u:HO}(r:Rd H a u) (x:HOk P w H h):jn P w H h a u:=by
  rcases r with r | ⟨o,r⟩
  · exact x a u r
  · obtain ⟨_,q⟩:=x a _ r
    exact q
def Mut:Option HO->Prop
  | some (.lst _)=>True
  | some (.dK _)=>True
  | some (.dT _)=>True
  | some (.set _ _)=>True
  | some (.ins _ _ _)=>True
  | some (.ext _)=>True
  | _=>False
section
variable {P:Program}{w:World}{H:Hp}{h h':Heap}{x e:Addr}{o':HO}
theorem HOk.write (ok:HOk P w H h) (mu:Mut (H x)) (he:e=x\/H e=some (.own x)) (k:∀ b u,b≠e->h.get? b=some u->h'.get? b=some u) (heo:∃ u,h'.get? e=some u)
    (new:jn P w (upd H x o') h' x o'):HOk P w (upd H x o') h':=fun b u q=>by
  have nown:∀ c y,H c=some (.own y)->c≠x:=fun c y r z=>by subst z;rw [r] at mu;exact mu
  have ntup:∀ c xs,H c=some (.tup xs)->c≠x:=fun c xs r z=>by subst z;rw [r] at mu;exact mu
  by_cases hb:b=x
  · subst hb;rw [qM] at q;cases q;exact new
  · rw [qI hb] at q
    by_cases hbe:b=e
    · have q':H b=some (.own x):=by
        rcases he with z | z
        · exact absurd (hbe.trans z) hb
        · rw [hbe];exact z
      rw [q] at q';cases q'
      obtain ⟨v,hv⟩:=heo
      exact ⟨v,by rw [hbe];exact hv⟩
    · refine (ok b u q).stay (fun c v hc r=>k c v ?_ r) (fun c r=>by rw [qI (nown c b r)];exact r) fun c xs r=>by rw [qI (ntup c xs r)];exact r
      rcases hc with rfl | hc
      · exact hbe
      · rintro rfl
        rcases he with z | z
        · exact nown c b hc z
        · rw [hc] at z;cases z;exact hb rfl
end
structure Un (fs ex:List Addr) (H H':Hp) (h h':Heap):Prop where
  keep:∀ b o,h.get? b=some o->H b=none->b∉fs->b∉ex->h'.get? b=some o
  slot:∀ b o,h.get? b=some o->H b=none->b∈fs->b∉ex->∃ sl,h'.get? b=some { o with slots:=sl }
  free:∀ b o,h.get? b=some o->H b=none->b∉ex->H' b=none
  there:∀ b o,h.get? b=some o->b∉ex->∃ o',h'.get? b=some o'
  tups:∀ b xs,H b=some (.tup xs)->H' b=some (.tup xs)
  frzs:∀ b o u,H b=some (.frz o u)->H' b=some (.frz o u)
  tbls:∀ b ps,H b=some (.tbl ps)->∃ more,H' b=some (.tbl (ps++more))
section
variable {fs fs' ex ex':List Addr}{H H1 H2:Hp}{h h1 h2 h':Heap}{a x e:Addr}{o:HO}
theorem Un.any (u:Un fs ex H H1 h h1) {b:Addr}{ob:Obj}(q:h.get? b=some ob) (n:H b=none) (hx:b∉ex):∃ sl,h1.get? b=some { ob with slots:=sl }:=by
  by_cases hb:b∈fs
  · exact u.slot b ob q n hb hx
  · exact ⟨ob.slots,u.keep b ob q n hb hx⟩
theorem Un.trans (a:Un fs ex H H1 h h1) (b:Un fs ex H1 H2 h1 h2):Un fs ex H H2 h h2 where
  keep:=fun c ob q n hc hx=>b.keep c ob (a.keep c ob q n hc hx) (a.free c ob q n hx) hc hx
  slot:=fun c ob q n hc hx=>by
    obtain ⟨sl,e1⟩:=a.slot c ob q n hc hx
    obtain ⟨sl',e2⟩:=b.slot c _ e1 (a.free c ob q n hx) hc hx
    exact ⟨sl',e2⟩
  free:=fun c ob q n hx=>by
    obtain ⟨o',e1⟩:=a.there c ob q hx
    exact b.free c o' e1 (a.free c ob q n hx) hx
  there:=fun c ob q hx=>by
    obtain ⟨o',e1⟩:=a.there c ob q hx
    exact b.there c o' e1 hx
  tups:=fun c xs q=>b.tups c xs (a.tups c xs q)
  frzs:=fun c ob xs q=>b.frzs c ob xs (a.frzs c ob xs q)
  tbls:=fun c ps q=>by
    obtain ⟨m1,e1⟩:=a.tbls c ps q
    obtain ⟨m2,e2⟩:=b.tbls c _ e1
    exact ⟨m1++m2,by rw [e2,Array.append_assoc]⟩
theorem Un.kept (k:∀ b u,h.get? b=some u->h'.get? b=some u):Un fs ex H H h h' :=
  ⟨fun b ob q _ _ _=>k b ob q,fun b ob q _ _ _=>⟨ob.slots,k b ob q⟩,fun _ _ _ n _=>n,fun b ob q _=>⟨ob,k b ob q⟩,fun _ _ q=>q,fun _ _ _ q=>q,fun _ ps q=>⟨#[],by rw [q];simp⟩⟩
theorem Un.refl:Un fs ex H H h h:=Un.kept fun _ _ q=>q
theorem Un.laid (k:∀ b u,h.get? b=some u->h'.get? b=some u) (hp:h.objs.size<=a) (hn:H a=none):Un fs ex H (upd H a o) h h' where
  keep:=fun b u q _ _ _=>k b u q
  slot:=fun b u q _ _ _=>⟨u.slots,k b u q⟩
  free:=fun b u q n _=>by rw [qI (qk (qH (qh q) hp))];exact n
  there:=fun b u q _=>⟨u,k b u q⟩
  tups:=fun b xs q=>by rw [qI (qC q hn)];exact q
  frzs:=fun b u xs q=>by rw [qI (qC q hn)];exact q
  tbls:=fun b ps q=>⟨#[],by rw [qI (qC q hn),q];simp⟩
theorem Un.write (mu:Mut (H x)) (he:e=x\/H e=some (.own x)) (k:∀ b u,b≠e->h.get? b=some u->h'.get? b=some u) (heo:∃ u,h'.get? e=some u):Un fs ex H (upd H x o) h h':=by
  have hx:∀ b,H b=none->b≠x:=fun b n z=>by subst z;rw [n] at mu;exact mu
  have hb:∀ b,H b=none->b≠e:=fun b n z=>by
    subst z
    rcases he with r | r
    · exact hx b n r
    · rw [n] at r;cases r
  have hm:∀ b u,H b=some u->¬ Mut (some u)->b≠x:=fun b u q nm z=>by subst z;rw [q] at mu;exact nm mu
  refine ⟨fun b u q n _ _=>k b u (hb b n) q,fun b u q n _ _=>⟨u.slots,k b u (hb b n) q⟩,fun b u q n _=>by rw [qI (hx b n)];exact n,fun b u q _=>?_,
    fun b xs q=>by rw [qI (hm b _ q fun z=>z)];exact q,fun b u xs q=>by rw [qI (hm b _ q fun z=>z)];exact q,fun b ps q=>⟨#[],by rw [qI (hm b _ q fun z=>z),q];simp⟩⟩
  by_cases hbe:b=e
  · subst hbe;exact heo
  · exact ⟨u,k b u hbe q⟩
theorem Un.mono (u:Un fs ex H H1 h h1) (hs:∀ b∈fs,b∈fs') (hx:∀ b∈ex,b∈ex'):Un fs' ex' H H1 h h1 :=
  ⟨fun b ob q n hb he=>u.keep b ob q n (fun z=>hb (hs b z)) fun z=>he (hx b z),fun _ _ q n _ he=>u.any q n fun z=>he (hx _ z),fun b ob q n he=>u.free b ob q n fun z=>he (hx b z),fun b ob q he=>u.there b ob q fun z=>he (hx b z),u.tups,u.frzs,u.tbls⟩
end
def trk (h:Heap) (H:Hp):List Addr:=(List.range h.objs.size).filter fun a=>(H a).isSome
def qaM (h:Heap) (H:Hp):Heap:=W.hideAll h (trk h H)
theorem Z4 (h:Heap) (H:Hp):(qaM h H).objs.size=h.objs.size:=W.hideAll_size _ _
theorem qbw {h:Heap}{H:Hp}{b:Addr}{o:Obj}(e:h.get? b=some o) (n:H b=none):(qaM h H).get? b=some o :=
  W.hideAll_get _ e fun hm=>by
    have q:(H b).isSome=true:=(List.mem_filter.mp hm).2
    rw [n] at q;simp at q
theorem qdo {h:Heap}{H:Hp}{b:Addr}{o:Obj}(e:(qaM h H).get? b=some o):h.get? b=some o/\H b=none:=by
  have e':h.get? b=some o:=W.of_hideAll (trk h H) e
  refine ⟨e',?_⟩
  cases q:H b with
  | none=>rfl
  | some x =>
    have hm:b∈trk h H:=List.mem_filter.mpr ⟨List.mem_range.mpr (qh e'),by simp [q]⟩
    have z:(qaM h H).get? b=none:=W.hideAll_none (trk h H) hm
    rw [z] at e;cases e
def qiw (g h:Heap) (L:Addr):List (Addr×Obj):=(List.range h.objs.size).filterMap fun a=>if a=L\/(g.get? a).isSome=true then none else (h.get? a).map fun o=>(a,o)
def yD (g h:Heap) (L d:Addr):List (Addr×Obj):=(qiw g h L).filter fun p=>decide (p.1≠d)
structure Mod (K:W.Frag) (mg:Str->Option Value) (base:Heap):Prop where
  kin:K.In base
  glob:base.Ns mainGlobals mg
  blt:∃ mb,base.Ns builtinsNs mb/\∀ x:Str,x ≠ "__name__" -> mb x=bootBuiltins x
  nolimit:base.NoLimit
structure Cx where
  prog:Program
  w:World
  K:W.Frag
  mg:Str->Option Value
  base:Heap
  A:Around
  N:List Str
  s₀:Shared
  H₀:Hp
  env:Env
  outer:List Env
  stack:List Env
  ex:List Addr
  fn:Str->Bool
  calm:Bool
  pn:List (Addr×Obj)
  xe:Value->Shared->Prop
def frs (l:List Env):List Addr:=l.filterMap (·.frame)
abbrev Cx.fs (X:Cx):List Addr:=frs X.outer
def Vis (sc:Scope) (x:Str):Prop:=sc.names.lookup x=some .local\/sc.names.lookup x=some .cell\/sc.names.lookup x=some .free
def Loc (sc:Scope) (x:Str):Prop:=sc.names.lookup x=some .local\/sc.names.lookup x=some .cell
def Look (env:Env) (h:Heap) (m:Str->Option Value) (x:Str) (u:Value):Prop :=
  (env.kindOf x=some .local/\m x=some u)\/((env.kindOf x=some .cell\/env.kindOf x=some .free)/\∃ c,env.cells.lookup x=some c/\h.IsCell c (some u))
structure Cx.Ok (X:Cx):Prop where
  mod:Mod X.K X.mg X.base
  kind:X.env.scope.kind = .function
  glob:X.env.globals=mainGlobals
  blt:X.env.builtins=builtinsNs
  above:X.s₀.heap.objs.size<=X.env.locals
  inj:∀ x y c,X.env.cells.lookup x=some c->X.env.cells.lookup y=some c->x=y
  has:∀ x,(X.env.kindOf x=some .cell\/X.env.kindOf x=some .free)->∃ c,X.env.cells.lookup x=some c
  cab:∀ x c,X.fn x=true->X.env.cells.lookup x=some c->X.s₀.heap.objs.size<=c
  hd:X.calm=true->X.A.handled=none
  frames:X.A.frames=some X.stack
  stk:X.stack=X.outer\/(X.stack=X.env::X.outer/\X.env.frame=some X.env.locals)
  exf:∀ b∈X.ex,b≠X.env.locals/\∀ x c,X.env.cells.lookup x=some c->c≠b
  bs:∀ b o,X.base.get? b=some o->X.s₀.heap.get? b=some o/\X.H₀ b=none
  bsz:X.base.objs.size<=X.s₀.heap.objs.size
  noex:∀ b o,X.base.get? b=some o->b∉X.ex
  exfs:∀ b∈X.ex,b∉X.fs
  funs:X.s₀.heap.FunFrames X.base X.outer
  frf:∀ b∈X.fs,X.H₀ b=none
structure Inv (X:Cx) (pins:List (Addr×Obj)) (σ:List (Option V)) (H:Hp) (s:Shared):Prop where
  ok:X.Ok
  os:s.os=X.s₀.os
  bare:AllBare s.gens
  base:Un X.fs X.ex X.H₀ H X.s₀.heap s.heap
  loc:∃ m,s.heap.Ns X.env.locals m/\∀ (i:Nat) (x:Str) (v:V),X.N[i]?=some x->σ[i]?=some (some v)->Vis X.env.scope x->∃ u,yP v u/\Look X.env s.heap m x u
  cell:∀ x c,X.env.cells.lookup x=some c->∃ v,s.heap.IsCell c v
  free:H X.env.locals=none
  freeC:∀ x c,X.env.cells.lookup x=some c->H c=none
  pin:∀ p∈X.pn++pins,s.heap.get? p.1=some p.2/\H p.1=none/\p.1≠X.env.locals/\p.1∉X.fs/\∀ v,p.2.data≠.cell v
  hok:HOk X.prog X.w H s.heap
  len:σ.length=X.N.length
section
variable {X:Cx}{pins:List (Addr×Obj)}{σ:List (Option V)}{H H':Hp}{s:Shared}{h':Heap}
theorem Cx.Ok.nofr (ok:X.Ok) {b:Addr}{o:Obj}(e:X.base.get? b=some o):b∉X.fs:=fun hb=>by
  have:=(ok.funs.mem hb).1
  rw [e] at this;cases this
theorem Inv.bs (I:Inv X pins σ H s):∀ b o,X.base.get? b=some o->s.heap.get? b=some o/\H b=none:=fun b o e =>
  ⟨I.base.keep b o (I.ok.bs b o e).1 (I.ok.bs b o e).2 (I.ok.nofr e) (I.ok.noex b o e),I.base.free b o (I.ok.bs b o e).1 (I.ok.bs b o e).2 (I.ok.noex b o e)⟩
theorem Inv.bk (I:Inv X pins σ H s):∀ b o,X.base.get? b=some o->s.heap.get? b=some o:=fun b o e=>(I.bs b o e).1
theorem Inv.mod (I:Inv X pins σ H s):Mod X.K X.mg X.base:=I.ok.mod
theorem Inv.kIn (I:Inv X pins σ H s):X.K.In s.heap:=I.ok.mod.kin.keeps I.bk
theorem Inv.nolimit (I:Inv X pins σ H s):s.heap.NoLimit:=I.ok.mod.nolimit.keeps I.bk
theorem Inv.fr (I:Inv X pins σ H s):∃ m,Fr X.base X.env.locals s.heap m :=
  let ⟨m,hn,_⟩:=I.loc
  ⟨m,hn,I.bk,qu I.ok.bsz I.ok.above⟩
theorem Inv.lt (I:Inv X pins σ H s):X.env.locals<s.heap.objs.size:=let ⟨_,hn,_⟩:=I.loc;hn.lt
theorem Inv.sz (I:Inv X pins σ H s):X.s₀.heap.objs.size<=s.heap.objs.size:=qu I.ok.above (yf I.lt)
theorem Inv.nofs (I:Inv X pins σ H s) {a:Addr}(h:s.heap.objs.size<=a):a∉X.fs:=fun hb=>by
  obtain ⟨_,o,ho,_⟩:=I.ok.funs.mem hb
  exact absurd (qH (qh ho) (qu I.sz h)) (yc _)
theorem Inv.cne (I:Inv X pins σ H s):∀ x c,X.env.cells.lookup x=some c->c≠X.env.locals:=fun x c e z=>by
  obtain ⟨v,o,ho,hd⟩:=I.cell x c e
  obtain ⟨m,⟨o',es,ep,ho',hd',_⟩,_⟩:=I.loc
  rw [z,ho'] at ho;cases ho;rw [hd'] at hd;cases hd
theorem Inv.funs (I:Inv X pins σ H s):s.heap.FunFrames X.base X.outer:=by
  have all:∀ (l:List Env),(∀ b∈frs l,b∈X.fs)->X.s₀.heap.FunFrames X.base l->s.heap.FunFrames X.base l:=by
    intro l
    induction l with
    | nil=>intro _ _;trivial
    | cons env r ih =>
      intro hs hl
      obtain ⟨hk,⟨L,o,hf,hn,ho,hd⟩,hr⟩:=hl
      have hL:L∈X.fs:=hs L (by unfold frs;rw [List.filterMap_cons,hf];exact qg)
      obtain ⟨sl,e⟩:=I.base.slot L o ho (I.ok.frf L hL) hL fun z=>I.ok.exfs L z hL
      exact ⟨hk,⟨L,_,hf,hn,e,hd⟩,ih (fun b hb=>hs b (by unfold frs;rw [List.filterMap_cons,hf];exact qe _ hb)) hr⟩
  exact all X.outer (fun _ hb=>hb) I.ok.funs
theorem Inv.stack (I:Inv X pins σ H s):s.heap.FunFrames X.base X.stack:=by
  rcases I.ok.stk with e | ⟨e,hf⟩
  · rw [e];exact I.funs
  · rw [e]
    obtain ⟨m,hn,_⟩:=I.loc
    refine .cons (by rw [I.ok.kind];decide) hf hn ?_ I.funs
    exact Heap.get?_none_of_le (qu I.ok.bsz I.ok.above)
theorem Inv.stkSub (I:Inv X pins σ H s):∀ b∈frs X.stack,b∈X.env.locals::X.fs:=fun b hb=>by
  rcases I.ok.stk with e | ⟨e,hf⟩
  · rw [e] at hb;exact qe _ hb
  · rw [e] at hb
    unfold frs at hb
    rw [List.filterMap_cons,hf] at hb
    exact hb
theorem Inv.stkFree (I:Inv X pins σ H s):∀ b∈frs X.stack,H b=none:=fun b hb=>by
  rcases List.mem_cons.mp (I.stkSub b hb) with e | hb
  · rw [e];exact I.free
  · obtain ⟨_,o,ho,_⟩:=I.ok.funs.mem hb
    exact I.base.free b o ho (I.ok.frf b hb) fun z=>I.ok.exfs b z hb
theorem Inv.step {g':Array GenState}{t':Nat}{d':Drawn}{ch:List Addr}(I:Inv X pins σ H s)
    (hch:∀ b∈ch,(b∈X.ex\/X.s₀.heap.objs.size<=b)/\b≠X.env.locals/\(∀ x c,X.env.cells.lookup x=some c->c≠b)/\∀ p∈X.pn++pins,p.1≠b)
    (keep:∀ b o,b≠X.env.locals->b∉X.fs->b∉ch->s.heap.get? b=some o->H b=none->h'.get? b=some o)
    (slot:∀ b o,b≠X.env.locals->b∈X.fs->b∉ch->s.heap.get? b=some o->H b=none->∃ sl,h'.get? b=some { o with slots:=sl }) (free:∀ b o,b∉ch->s.heap.get? b=some o->H b=none->H' b=none)
    (there:∀ b o,b∉ch->s.heap.get? b=some o->∃ o',h'.get? b=some o')
    (tups:∀ b xs,H b=some (.tup xs)->H' b=some (.tup xs)) (frzs:∀ b o u,H b=some (.frz o u)->H' b=some (.frz o u)) (tbls:∀ b ps,H b=some (.tbl ps)->∃ more,H' b=some (.tbl (ps++more)))
    (ns:∀ m,s.heap.Ns X.env.locals m->h'.Ns X.env.locals m) (hok:HOk X.prog X.w H' h') (hg:AllBare g') :
    Inv X pins σ H' { s with heap:=h',gens:=g',drawn:=d',toks:=t' }:=by
  have neL:∀ b o,X.s₀.heap.get? b=some o->b≠X.env.locals:=fun b o e=>qk (qH (qh e) I.ok.above)
  have neC:∀ b o,X.s₀.heap.get? b=some o->b∉X.ex->b∉ch:=fun b o e hx hb=>by
    rcases (hch b hb).1 with z | z
    · exact hx z
    · exact absurd (qH (qh e) z) (yc _)
  have cellK:∀ x c,X.env.cells.lookup x=some c->∀ v,s.heap.IsCell c v->h'.IsCell c v:=fun x c e v ⟨o,ho,hd⟩=>by
    have nch:c∉ch:=fun z=>(hch c z).2.2.1 x c e rfl
    by_cases hc:c∈X.fs
    · obtain ⟨sl,q⟩:=slot c o (I.cne x c e) hc nch ho (I.freeC x c e)
      exact ⟨_,q,hd⟩
    · exact ⟨o,keep c o (I.cne x c e) hc nch ho (I.freeC x c e),hd⟩
  refine ⟨I.ok,I.os,hg,⟨fun b o e n hb hx=>?_,fun b o e n hb hx=>?_,fun b o e n hx=>?_,fun b o e hx=>?_,fun b xs e=>tups b xs (I.base.tups b xs e),fun b o xs e=>frzs b o xs (I.base.frzs b o xs e),fun b ps e=>?_⟩,?_,fun x c e=>?_,?_,fun x c e=>?_,fun p hp=>?_,hok,I.len⟩
  · exact keep b o (neL b o e) hb (neC b o e hx) (I.base.keep b o e n hb hx) (I.base.free b o e n hx)
  · obtain ⟨sl,e1⟩:=I.base.slot b o e n hb hx
    obtain ⟨sl',e2⟩:=slot b _ (neL b o e) hb (neC b o e hx) e1 (I.base.free b o e n hx)
    exact ⟨sl',e2⟩
  · obtain ⟨o',e1⟩:=I.base.there b o e hx
    exact free b o' (neC b o e hx) e1 (I.base.free b o e n hx)
  · obtain ⟨o',e1⟩:=I.base.there b o e hx
    exact there b o' (neC b o e hx) e1
  · obtain ⟨m1,e1⟩:=I.base.tbls b ps e
    obtain ⟨m2,e2⟩:=tbls b _ e1
    exact ⟨m1++m2,by rw [e2,Array.append_assoc]⟩
  · obtain ⟨m,hn,hl⟩:=I.loc
    refine ⟨m,ns m hn,fun i x v e1 e2 e3=>?_⟩
    obtain ⟨u,r,l⟩:=hl i x v e1 e2 e3
    refine ⟨u,r,?_⟩
    rcases l with l | ⟨k,c,e,z⟩
    · exact .inl l
    · exact .inr ⟨k,c,e,cellK x c e _ z⟩
  · obtain ⟨v,z⟩:=I.cell x c e
    exact ⟨v,cellK x c e v z⟩
  · obtain ⟨m,⟨o,_,_,ho,_⟩,_⟩:=I.loc
    exact free _ o (fun z=>(hch _ z).2.1 rfl) ho I.free
  · obtain ⟨v,o,ho,hd⟩:=I.cell x c e
    exact free c o (fun z=>(hch c z).2.2.1 x c e rfl) ho (I.freeC x c e)
  · obtain ⟨e,n,ne,nf,d⟩:=I.pin p hp
    have nch:p.1∉ch:=fun z=>(hch p.1 z).2.2.2 p hp rfl
    exact ⟨keep p.1 p.2 ne nf nch e n,free p.1 p.2 nch e n,ne,nf,d⟩
theorem Inv.un {t':Nat}(I:Inv X pins σ H s) (u:Un X.fs [] H H' s.heap h') (hok:HOk X.prog X.w H' h'):Inv X pins σ H' { s with heap:=h',toks:=t' }:=by
  obtain ⟨m,⟨o,es,ep,ho,r⟩,_⟩:=id I.loc
  obtain ⟨sl,hL⟩:=u.any ho I.free (by simp)
  exact I.step (g':=s.gens) (d':=s.drawn) (ch:=[]) (fun _ z=>nomatch z) (fun b o _ hb _ e n=>u.keep b o e n hb (by simp)) (fun b o _ hb _ e n=>u.slot b o e n hb (by simp)) (fun b o _ e n=>u.free b o e n (by simp)) (fun b o _ e=>u.there b o e (by simp)) u.tups u.frzs u.tbls (fun m' hm=>by
    obtain ⟨o',es',ep',ho',r'⟩:=hm
    rw [ho] at ho';cases ho'
    exact ⟨_,es',ep',hL,r'⟩) hok I.bare
theorem Inv.call {g':Array GenState}{t':Nat}{d':Drawn}{ch:List Addr}(I:Inv X pins σ H s) (u:Un (frs X.stack) ch H H' s.heap h') (hok:HOk X.prog X.w H' h') (hg:AllBare g')
    (hch:∀ b∈ch,(b∈X.ex\/X.s₀.heap.objs.size<=b)/\b≠X.env.locals/\(∀ x c,X.env.cells.lookup x=some c->c≠b)/\∀ p∈X.pn++pins,p.1≠b) :
    Inv X pins σ H' { s with heap:=h',gens:=g',drawn:=d',toks:=t' }:=by
  obtain ⟨m,⟨o,es,ep,ho,r⟩,_⟩:=id I.loc
  obtain ⟨sl,hL⟩:=u.any ho I.free fun z=>(hch _ z).2.1 rfl
  exact I.step (ch:=ch) hch (fun b o hL hb hc e n=>u.keep b o e n (fun z=>(List.mem_cons.mp (I.stkSub b z)).elim hL hb) hc) (fun b o _ _ hc e n=>u.any e n hc) (fun b o hc e n=>u.free b o e n hc) (fun b o hc e=>u.there b o e hc) u.tups u.frzs u.tbls (fun m' hm=>by
    obtain ⟨o',es',ep',ho',r'⟩:=hm
    rw [ho] at ho';cases ho'
    exact ⟨_,es',ep',hL,r'⟩) hok hg
theorem Inv.turned {t':Nat}{it:Addr}(I:Inv X pins σ H s) (k:∀ b o,b≠it->s.heap.get? b=some o->h'.get? b=some o) (hn:H it=none) (hL:it≠X.env.locals)
    (h1:it∈X.ex\/X.s₀.heap.objs.size<=it) (h2:∀ x c,X.env.cells.lookup x=some c->c≠it) (h3:∀ p∈X.pn++pins,p.1≠it):Inv X pins σ H { s with heap:=h',toks:=t' }:=by
  have nit:∀ b u,H b=some u->b≠it:=fun b u e z=>by rw [z,hn] at e;cases e
  refine I.step (g':=s.gens) (d':=s.drawn) (ch:=[it]) (fun b hb=>?_) (fun b o _ _ hc e _=>k b o (fun z=>hc (by simp [z])) e) (fun b o _ _ hc e _=>⟨o.slots,k b o (fun z=>hc (by simp [z])) e⟩) (fun _ _ _ _ n=>n)
    (fun b o hc e=>⟨o,k b o (fun z=>hc (by simp [z])) e⟩) (fun _ _ e=>e) (fun _ _ _ e=>e) (fun b ps e=>⟨#[],by rw [e];simp⟩) (fun m hm=>?_) (fun b u e=>?_) I.bare
  · have e:b=it:=by simpa using hb
    subst e
    exact ⟨h1,hL,h2,h3⟩
  · obtain ⟨o,es,ep,ho,r⟩:=hm
    exact ⟨o,es,ep,k _ o (Ne.symm hL) ho,r⟩
  · refine (I.hok b u e).stay (fun c v hc q=>k c v ?_ q) (fun _ q=>q) fun _ _ q=>q
    rcases hc with z | z
    · rw [z];exact nit b u e
    · exact nit c _ z
theorem Inv.tok (I:Inv X pins σ H s) (t:Nat):Inv X pins σ H { s with toks:=t }:=I.un (h':=s.heap) (t':=t) Un.refl I.hok
theorem Inv.kept {t':Nat}(I:Inv X pins σ H s) (k:∀ b u,s.heap.get? b=some u->h'.get? b=some u):Inv X pins σ H { s with heap:=h',toks:=t' }:=I.un (Un.kept k) (I.hok.kept k)
theorem Inv.laid {a:Addr}{o:HO}{t':Nat}(I:Inv X pins σ H s) (k:∀ b u,s.heap.get? b=some u->h'.get? b=some u) (hp:s.heap.objs.size<=a) (new:jn X.prog X.w (upd H a o) h' a o) :
    Inv X pins σ (upd H a o) { s with heap:=h',toks:=t' }:=I.un (Un.laid k hp (I.hok.fresh hp)) (I.hok.laid k hp new)
theorem Inv.write {x e:Addr}{o:HO}{t':Nat}(I:Inv X pins σ H s) (mu:Mut (H x)) (he:e=x\/H e=some (.own x)) (k:∀ b u,b≠e->s.heap.get? b=some u->h'.get? b=some u) (heo:∃ u,h'.get? e=some u)
    (new:jn X.prog X.w (upd H x o) h' x o):Inv X pins σ (upd H x o) { s with heap:=h',toks:=t' }:=I.un (Un.write mu he k heo) (I.hok.write mu he k heo new)
theorem Inv.pins_of {pins':List (Addr×Obj)}(I:Inv X pins σ H s) (h:∀ p∈pins',s.heap.get? p.1=some p.2/\H p.1=none/\p.1≠X.env.locals/\p.1∉X.fs/\∀ v,p.2.data≠.cell v):Inv X pins' σ H s :=
  ⟨I.ok,I.os,I.bare,I.base,I.loc,I.cell,I.free,I.freeC,fun p hp=>(List.mem_append.mp hp).elim (fun z=>I.pin p (qp _ z)) (h p),I.hok,I.len⟩
theorem Zl {N:List Str}(hN:N.Nodup) {i j:Nat}{x:Str}(a:N[i]?=some x) (b:N[j]?=some x):i=j:=by
  obtain ⟨h1,e1⟩:=ql.mp a
  obtain ⟨h2,e2⟩:=ql.mp b
  exact (List.getElem_inj hN).mp (e1.trans e2.symm)
theorem qcA {M:Model}{A:Around}{E:Value->Shared->Prop}{i:Nat}{x:Str}{v:V}{u:Value}{Q:Unit->Shared->Prop}(I:Inv X pins σ H s) (hN:X.N.Nodup) (hi:X.N[i]?=some x) (hx:Loc X.env.scope x) (r:yP v u)
    (h:∀ s',Inv X pins (σ.set i (some v)) H s'->(∃ a,Heap.SameBut a s.heap s'.heap/\(a=X.env.locals\/X.env.cells.lookup x=some a))->Q () s') (hf:X.fn x=true\/X.env.scope.names.lookup x=some .local:=by first | exact .inl rfl | exact .inr rfl | assumption):wpAny M A (storeName X.env x u) Q E s:=by
  obtain ⟨m,hn,hl⟩:=id I.loc
  have hcls:(X.env.scope.kind == .class || (X.env.scope.kind == .module && X.env.locals != X.env.globals))=false:=by rw [I.ok.kind];rfl
  have hiσ:i<σ.length:=by rw [I.len];exact (ql.mp hi).1
  have cne:=I.cne
  have tracked:∀ {a:Addr}{h':Heap},(∃ o,s.heap.get? a=some o/\H a=none)->Heap.SameBut a s.heap h'->HOk X.prog X.w H h':=fun {a h'} ha hs b ob e=>by
    obtain ⟨_,_,hfree⟩:=ha
    refine (I.hok b ob e).stay (fun c w' hc q=>(hs.2 c ?_).trans q) (fun _ q=>q) fun _ _ q=>q
    rintro rfl
    rcases hc with rfl | hc
    · rw [hfree] at e;cases e
    · rw [hfree] at hc;cases hc
  rcases hx with hk | hk
  · refine wpAny_storeName_local hk hn (fun h' hn' hs=>?_) hcls
    obtain ⟨oL,_,_,hoL,_⟩:=id hn
    refine h _ ⟨I.ok,I.os,I.bare,⟨fun b o e n hb hx=>?_,fun b o e n hb hx=>?_,I.base.free,fun b o e hx=>?_,I.base.tups,I.base.frzs,I.base.tbls⟩,⟨_,hn',fun j y v' e1 e2 e3=>?_⟩,fun y c e=>?_,I.free,I.freeC,fun p hp=>?_,tracked ⟨oL,hoL,I.free⟩ hs,by simpa using I.len⟩ ⟨_,hs,.inl rfl⟩
    · exact (hs.2 b (qk (qH (qh e) I.ok.above))).trans (I.base.keep b o e n hb hx)
    · obtain ⟨sl,e1⟩:=I.base.slot b o e n hb hx
      exact ⟨sl,(hs.2 b (qk (qH (qh e) I.ok.above))).trans e1⟩
    · obtain ⟨o',e1⟩:=I.base.there b o e hx
      exact ⟨o',(hs.2 b (qk (qH (qh e) I.ok.above))).trans e1⟩
    · by_cases hj:j=i
      · subst hj
        rw [hi] at e1;cases e1
        rw [List.getElem?_set_self hiσ] at e2
        cases e2
        exact ⟨u,r,.inl ⟨hk,by simp⟩⟩
      · rw [List.getElem?_set_ne (Ne.symm hj)] at e2
        obtain ⟨u',r',q⟩:=hl j y v' e1 e2 e3
        refine ⟨u',r',?_⟩
        rcases q with ⟨k,e⟩ | ⟨k,c,e,z⟩
        · refine .inl ⟨k,?_⟩
          have:y≠x:=fun e=>hj (Zl hN e1 (e ▸ hi))
          simp [this,e]
        · exact .inr ⟨k,c,e,z.sameBut hs (cne y c e)⟩
    · obtain ⟨w',z⟩:=I.cell y c e
      exact ⟨w',z.sameBut hs (cne y c e)⟩
    · obtain ⟨e,n,ne,nf,d⟩:=I.pin p hp
      exact ⟨(hs.2 p.1 ne).trans e,n,ne,nf,d⟩
  · have hfn:X.fn x=true:=by
      rcases hf with z | z
      · exact z
      · rw [z] at hk;cases hk
    obtain ⟨c,hc⟩:=I.ok.has x (.inl hk)
    obtain ⟨w',z⟩:=I.cell x c hc
    refine wpAny_storeName_cell I.ok.kind hk hc z (fun h' hc' hs=>?_)
    obtain ⟨oc,hoc,hocd⟩:=id z
    refine h { s with heap:=h' } ⟨I.ok,I.os,I.bare,⟨fun b o e n hb hx=>?_,fun b o e n hb hx=>?_,I.base.free,fun b o e hx=>?_,I.base.tups,I.base.frzs,I.base.tbls⟩,⟨m,hn.sameBut hs (Ne.symm (cne x c hc)),fun j y v' e1 e2 e3=>?_⟩,fun y c' e=>?_,I.free,I.freeC,fun p hp=>?_,tracked ⟨oc,hoc,I.freeC x c hc⟩ hs,by simpa using I.len⟩ ⟨c,hs,.inr hc⟩
    · exact (hs.2 b (qk (qH (qh e) (I.ok.cab x c hfn hc)))).trans (I.base.keep b o e n hb hx)
    · obtain ⟨sl,e1⟩:=I.base.slot b o e n hb hx
      exact ⟨sl,(hs.2 b (qk (qH (qh e) (I.ok.cab x c hfn hc)))).trans e1⟩
    · obtain ⟨o',e1⟩:=I.base.there b o e hx
      exact ⟨o',(hs.2 b (qk (qH (qh e) (I.ok.cab x c hfn hc)))).trans e1⟩
    · by_cases hj:j=i
      · subst hj
        rw [hi] at e1;cases e1
        rw [List.getElem?_set_self hiσ] at e2
        cases e2
        exact ⟨u,r,.inr ⟨.inl hk,c,hc,hc'⟩⟩
      · rw [List.getElem?_set_ne (Ne.symm hj)] at e2
        obtain ⟨u',r',q⟩:=hl j y v' e1 e2 e3
        refine ⟨u',r',?_⟩
        rcases q with q | ⟨k,c',e,z'⟩
        · exact .inl q
        · refine .inr ⟨k,c',e,z'.sameBut hs ?_⟩
          rintro rfl
          exact hj (Zl hN e1 (I.ok.inj _ _ _ e hc ▸ hi))
    · by_cases hcc:c'=c
      · subst hcc;exact ⟨_,hc'⟩
      · obtain ⟨w2,z2⟩:=I.cell y c' e
        exact ⟨w2,z2.sameBut hs hcc⟩
    · obtain ⟨e,n,ne,nf,d⟩:=I.pin p hp
      refine ⟨(hs.2 p.1 ?_).trans e,n,ne,nf,d⟩
      intro q
      rw [q,hoc] at e
      have q':oc=p.2:=Option.some.inj e
      exact d w' (by rw [<- q'];exact hocd)
theorem JX {M:Model}{A:Around}{E:Value->Shared->Prop}{i:Nat}{x:Str}{v:V}{u:Value}{Q:Unit->Shared->Prop}(I:Inv X pins σ H s) (hN:X.N.Nodup) (hi:X.N[i]?=some x) (hx:Loc X.env.scope x) (r:yP v u)
    (h:∀ s',Inv X pins (σ.set i (some v)) H s'->Q () s') (hf:X.fn x=true\/X.env.scope.names.lookup x=some .local:=by first | exact .inl rfl | exact .inr rfl | assumption):wpAny M A (storeName X.env x u) Q E s :=
  qcA I hN hi hx r (fun s' I' _=>h s' I') hf
theorem Inv.call' {s':Shared}{ch:List Addr}(I:Inv X pins σ H s) (ho:s'.os=s.os) (u:Un (frs X.stack) ch H H' s.heap s'.heap) (hok:HOk X.prog X.w H' s'.heap) (hg:AllBare s'.gens)
    (hch:∀ b∈ch,(b∈X.ex\/X.s₀.heap.objs.size<=b)/\b≠X.env.locals/\(∀ x c,X.env.cells.lookup x=some c->c≠b)/\∀ p∈X.pn++pins,p.1≠b):Inv X pins σ H' s':=by
  obtain ⟨h',g',d',t',o'⟩:=s'
  have e:o'=s.os:=ho
  subst e
  exact I.call (g':=g') (t':=t') (d':=d') u hok hg hch
end
abbrev XK:=Value->Option Addr->Hp->Prop
abbrev St:=List (Option V)
abbrev VK:=V->Hp->Prop
abbrev TE:=St->Hp->VK->Prop
abbrev TT:=St->Hp->(Bool->Hp->Prop)->Prop
abbrev TA:=St->Hp->(List V->Hp->Prop)->Prop
structure Ends where
  nx:St->Hp->Prop
  rt:VK
  bk:St->Hp->Prop:=fun _ _=>False
  ct:St->Hp->Prop:=fun _ _=>False
abbrev TS:=Ends->St->Hp->Prop
def EP (X:Cx) (pins:List (Addr×Obj)) (σ:St) (Q:VK) (u:Value) (s':Shared):Prop:=∃ v H',Inv X pins σ H' s'/\yP v u/\Q v H'
def TP (X:Cx) (pins:List (Addr×Obj)) (σ:St) (Q:Bool->Hp->Prop) (b:Bool) (s':Shared):Prop:=∃ H',Inv X pins σ H' s'/\Q b H'
def AP (X:Cx) (pins:List (Addr×Obj)) (σ:St) (Q:List V->Hp->Prop) (us:List Value) (s':Shared):Prop:=∃ vs H',Inv X pins σ H' s'/\yb vs us/\Q vs H'
def SP (X:Cx) (pins:List (Addr×Obj)) (D:Ends) (f:Flow) (s':Shared):Prop :=
  match f with
  | .next=>∃ σ' H',Inv X pins σ' H' s'/\D.nx σ' H'
  | .brk=>∃ σ' H',Inv X pins σ' H' s'/\D.bk σ' H'
  | .cont=>∃ σ' H',Inv X pins σ' H' s'/\D.ct σ' H'
  | .ret u=>∃ v σ' H',Inv X pins σ' H' s'/\yP v u/\D.rt v H'
def PE (X:Cx) (e:Expr) (t:TE):Prop :=
  ∀ (pins:List (Addr×Obj)) (s:Shared) (σ:St) (H:Hp) (Q:VK),Inv X pins σ H s->t σ H Q->wpAny (model X.prog X.w) X.A (eval e X.env) (EP X pins σ Q) X.xe s
def PT (X:Cx) (e:Expr) (t:TT):Prop :=
  ∀ (pins:List (Addr×Obj)) (s:Shared) (σ:St) (H:Hp) (Q:Bool->Hp->Prop),Inv X pins σ H s->t σ H Q->wpAny (model X.prog X.w) X.A (isTrue e X.env (eval e X.env)) (TP X pins σ Q) X.xe s
def PW (X:Cx) (e:Expr) (t:TT):Prop :=
  ∀ (whole:Sem Value) (pins:List (Addr×Obj)) (s:Shared) (σ:St) (H:Hp) (Q:Bool->Hp->Prop),Inv X pins σ H s->t σ H Q->wpAny (model X.prog X.w) X.A (isTrue e X.env whole) (TP X pins σ Q) X.xe s
theorem PW.pt {X:Cx}{e:Expr}{t:TT}(h:PW X e t):PT X e t:=h _
def PA (X:Cx) (es:List Expr) (t:TA):Prop :=
  ∀ (pos:Pos) (pins:List (Addr×Obj)) (s:Shared) (σ:St) (H:Hp) (Q:List V->Hp->Prop),Inv X pins σ H s->t σ H Q->wpAny (model X.prog X.w) X.A (spliced (backTo pos (starEach es X.env))) (AP X pins σ Q) X.xe s
def PS (X:Cx) (st:Stmt) (t:TS):Prop :=
  ∀ (pins:List (Addr×Obj)) (s:Shared) (σ:St) (H:Hp) (D:Ends),Inv X pins σ H s->t D σ H->wpAny (model X.prog X.w) X.A (exec st X.env) (SP X pins D) X.xe s
def PSs (X:Cx) (st:List Stmt) (t:TS):Prop :=
  ∀ (pins:List (Addr×Obj)) (s:Shared) (σ:St) (H:Hp) (D:Ends),Inv X pins σ H s->t D σ H->wpAny (model X.prog X.w) X.A (execs st X.env) (SP X pins D) X.xe s
theorem thn {α:Type}{t:Sem α}{Q Q':α->Shared->Prop}{M:Model}{A:Around}{E:Value->Shared->Prop}{s:Shared}(h:wpAny M A t Q E s) (hQ:∀ a s,Q a s->Q' a s):wpAny M A t Q' E s:=qF h hQ fun _ _ x=>x
section
variable {X:Cx}
def tVar (i:Nat):TE:=fun σ H Q=>∃ v,σ[i]?=some (some v)/\Q v H
def tC (v:V):TE:=fun _ H Q=>Q v H
theorem qgh {i:Nat}{x:Str}{pos:Pos}(hN:X.N[i]?=some x) (hv:Vis X.env.scope x) (hd:(x == ("__debug__" : Str))=false:=by decide) (hcd:(x == ("__classdict__" : Str))=false:=by decide):PE X (.Name x pos) (tVar i):=by
  intro pins s σ H Q I h
  obtain ⟨v,e,h⟩:=h
  obtain ⟨m,hn,hl⟩:=I.loc
  obtain ⟨u,r,l⟩:=hl i x v hN e hv
  have fin:EP X pins σ Q u s:=⟨v,H,I,r,h⟩
  rcases l with ⟨hk,hm⟩ | ⟨hk,c,hc,hcell⟩
  · exact wpAny_Name (wpAny_loadName_local I.ok.kind hk hn hm fin) hd
  · rcases hk with hk | hk
    · exact wpAny_Name (wpAny_loadName_cell I.ok.kind hk hc hcell fin) hd
    · exact wpAny_Name (wpAny_loadName_free I.ok.kind hk hc hcell fin hcd) hd
theorem jt {i j pos}:PE X (.Constant (.int i) j pos) (tC (.int i)):=fun _ _ _ H _ I h=>wpAny_Constant_int ⟨.int i,H,I.tok _,⟨_,rfl⟩,h⟩
theorem pe_bl {b j pos}:PE X (.Constant (.bool b) j pos) (tC (.bl b)):=fun _ _ _ H _ I h=>Constant_bool ⟨.bl b,H,I,rfl,h⟩
def Gl (X:Cx) (x:Str):Prop:=X.env.kindOf x=some .globalImplicit
theorem qdM {E:Value->Shared->Prop}{pins:List (Addr×Obj)}{s:Shared}{σ:St}{H:Hp}{x:Str}{u:Value}{pos:Pos}{Q:Value->Shared->Prop}(I:Inv X pins σ H s) (hg:Gl X x) (hm:X.mg x=some u) (h:Q u s)
    (hd:(x == ("__debug__" : Str))=false:=by decide):wpAny (model X.prog X.w) X.A (eval (.Name x pos) X.env) Q E s :=
  Calls.Name_function_global I.ok.kind hg (Calls.loadGlobal_global (by rw [I.ok.glob];exact I.mod.glob.keeps I.bk) hm h) hd
theorem YZ {E:Value->Shared->Prop}{pins:List (Addr×Obj)}{s:Shared}{σ:St}{H:Hp}{x:Str}{u:Value}{pos:Pos}{Q:Value->Shared->Prop}(I:Inv X pins σ H s) (hg:Gl X x) (hm:X.mg x=none) (hv:bootBuiltins x=some u) (h:Q u s)
    (hn:x ≠ "__name__" := by decide) (hd:(x == ("__debug__" : Str))=false:=by decide):wpAny (model X.prog X.w) X.A (eval (.Name x pos) X.env) Q E s:=by
  obtain ⟨mb,h1,h2⟩:=I.mod.blt
  exact Calls.Name_function_global I.ok.kind hg (Calls.loadGlobal_builtin (by rw [I.ok.glob];exact I.mod.glob.keeps I.bk) hm (by rw [I.ok.blt];exact h1.keeps I.bk) ((h2 x hn).trans hv) h) hd
variable {a b:Expr}{ta tb:TE}{pos:Pos}
def tB (t:TE):TT:=fun σ H Q=>t σ H fun x H1=>∃ c,x = .bl c/\Q c H1
theorem qji {e:Expr}{t:TE}(h:PE X e t) (he:∀ whole,isTrue e X.env whole=(do let v <- whole;standAt e.pos;holding [v] (truthy v)):=by intro _;rfl):PT X e (tB t):=by
  intro pins s σ H Q I hw
  refine isTrue_plain (thn (h pins s σ H _ I hw) fun v s1 ⟨x,H1,I1,r1,q1⟩=>?_) (he _)
  obtain ⟨d,rfl,q⟩:=q1
  cases r1
  exact wpAny_truthy_bool ⟨H1,I1,q⟩
variable {tA tB':TT}{yD:List Expr}
def tAnd (t u:TT):TT:=fun σ H Q=>t σ H fun c H1=>if c=true then u σ H1 Q else Q false H1
def tOr (t u:TT):TT:=fun σ H Q=>t σ H fun c H1=>if c=true then Q true H1 else u σ H1 Q
def tNot (t:TT):TT:=fun σ H Q=>t σ H fun c H1=>Q (!c) H1
theorem qhl (ha:PT X a tA):PW X (.BoolOp .And [a] pos) tA:=by
  intro wh pins s σ H Q I h
  refine isTrue_and (thn (ha pins s σ H Q I h) fun c s1 e=>?_)
  cases c with
  | true=>exact isTrue_and_nil e
  | false=>exact e
theorem qjf (ha:PT X a tA):PW X (.BoolOp .Or [a] pos) tA:=by
  intro wh pins s σ H Q I h
  refine isTrue_or (thn (ha pins s σ H Q I h) fun c s1 e=>?_)
  cases c with
  | false=>exact isTrue_or_nil e
  | true=>exact e
theorem qjg (ha:PT X a tA) (hb:PW X (.BoolOp .And (b::yD) pos) tB'):PW X (.BoolOp .And (a::b::yD) pos) (tAnd tA tB'):=by
  intro wh pins s σ H Q I h
  refine isTrue_and (thn (ha pins s σ H _ I h) fun c s1 ⟨H1,I1,q1⟩=>?_)
  cases c with
  | true=>exact hb wh pins s1 σ H1 Q I1 q1
  | false=>exact ⟨H1,I1,q1⟩
theorem pw_or (ha:PT X a tA) (hb:PW X (.BoolOp .Or (b::yD) pos) tB'):PW X (.BoolOp .Or (a::b::yD) pos) (tOr tA tB'):=by
  intro wh pins s σ H Q I h
  refine isTrue_or (thn (ha pins s σ H _ I h) fun c s1 ⟨H1,I1,q1⟩=>?_)
  cases c with
  | true=>exact ⟨H1,I1,q1⟩
  | false=>exact hb wh pins s1 σ H1 Q I1 q1
theorem qjj (ha:PT X a tA):PT X (.UnaryOp .Not a pos) (tNot tA):=by
  intro pins s σ H Q I h
  exact isTrue_not (ha pins s σ H (fun c H1=>Q (!c) H1) I h)
def tAndV (ta tb:TE):TE:=fun σ H Q=>ta σ H fun x H1=>∃ c,x = .bl c/\if c=true then tb σ H1 Q else Q (.bl false) H1
def tOrV (ta tb:TE):TE:=fun σ H Q=>ta σ H fun x H1=>∃ c,x = .bl c/\if c=true then Q (.bl true) H1 else tb σ H1 Q
theorem qjt {op} {t:TE}(h:PE X a t):PE X (.BoolOp op [a] pos) t:=fun pins s σ H Q I hw=>BoolOp_one (h pins s σ H Q I hw)
theorem qjv (ha:PE X a ta) (hb:PE X (.BoolOp .And (b::yD) pos) tb):PE X (.BoolOp .And (a::b::yD) pos) (tAndV ta tb):=by
  intro pins s σ H Q I h
  refine BoolOp_and (thn (ha pins s σ H _ I h) fun v s1 ⟨x,H1,I1,r1,q1⟩=>?_)
  obtain ⟨c,rfl,q1⟩:=q1
  cases r1
  refine wpAny_truthy_bool ?_
  cases c with
  | true=>exact hb pins s1 σ H1 Q I1 q1
  | false=>exact ⟨.bl false,H1,I1,rfl,q1⟩
theorem pe_or (ha:PE X a ta) (hb:PE X (.BoolOp .Or (b::yD) pos) tb):PE X (.BoolOp .Or (a::b::yD) pos) (tOrV ta tb):=by
  intro pins s σ H Q I h
  refine BoolOp_or (thn (ha pins s σ H _ I h) fun v s1 ⟨x,H1,I1,r1,q1⟩=>?_)
  obtain ⟨c,rfl,q1⟩:=q1
  cases r1
  refine wpAny_truthy_bool ?_
  cases c with
  | false=>exact hb pins s1 σ H1 Q I1 q1
  | true=>exact ⟨.bl true,H1,I1,rfl,q1⟩
def tIf (t:TT) (ta tb:TE):TE:=fun σ H Q=>t σ H fun c H1=>if c=true then ta σ H1 Q else tb σ H1 Q
theorem qff {c:Expr}(hc:PT X c tA) (ha:PE X a ta) (hb:PE X b tb):PE X (.IfExp c a b pos) (tIf tA ta tb):=by
  intro pins s σ H Q I h
  refine wpAny_IfExp (thn (hc pins s σ H _ I h) fun d s1 ⟨H1,I1,q1⟩=>?_)
  cases d with
  | true=>exact ha pins s1 σ H1 Q I1 q1
  | false=>exact hb pins s1 σ H1 Q I1 q1
end
def SqL (K:W.Frag) (H:Hp) (a:Addr) (xs:List V):Prop :=
  Rd H a (.lst xs) ∨
    ∃ (o:Obj) (its:Array Value) (n:Nat),K.lookup a=some o/\o.cls = .type "list" /\ o.dict=none/\o.data = .seq its n/\its.size<=sizeLine/\yb xs its.toList
def SqT (K:W.Frag) (H:Hp) (a:Addr) (xs:List V):Prop :=
  Rd H a (.tup xs) ∨
    ∃ (o:Obj) (its:Array Value) (n:Nat),K.lookup a=some o/\o.cls = .type "tuple" /\ o.data = .seq its n/\its.size<=sizeLine/\yb xs its.toList
def absV:Value->Option V
  | .none=>some .non
  | .bool b=>some (.bl b)
  | .int i _=>some (.int i)
  | .str x _=>some (.str x)
  | .bytes b _=>some (.byt b)
  | .float b _=>some (.flt b)
  | .ref a=>some (.ref a)
  | .type n=>some (.ty n)
  | _=>none
theorem yP.abs {x:V}{u:Value}(r:yP x u):absV u=some x:=by
  cases x with
  | non=>cases r;rfl
  | bl _=>cases r;rfl
  | int _=>obtain ⟨t,rfl⟩:=r;rfl
  | str _=>obtain ⟨t,rfl⟩:=r;rfl
  | byt _=>obtain ⟨t,rfl⟩:=r;rfl
  | flt _=>obtain ⟨t,rfl⟩:=r;rfl
  | ref _=>cases r;rfl
  | ty _=>cases r;rfl
theorem yP.inj {x y:V}{u:Value}(r:yP x u) (q:yP y u):x=y:=Option.some.inj (r.abs.symm.trans q.abs)
theorem yb.inj:∀ {xs ys:List V}{us:List Value},yb xs us->yb ys us->xs=ys
  | _,_,_,.nil,.nil=>rfl
  | _,_,_,.cons r t,.cons r' t'=>by rw [r.inj r',yb.inj t t']
section
variable {X:Cx}{pins:List (Addr×Obj)}{σ:St}{H:Hp}{s:Shared}{a:Addr}{xs ys:List V}
theorem SqL.of {K:W.Frag}(h:H a=some (.lst xs)):SqL K H a xs:=.inl (.inl h)
theorem SqT.of {K:W.Frag}(h:H a=some (.tup xs)):SqT K H a xs:=.inl (.inl h)
theorem Inv.list (I:Inv X pins σ H s) (h:SqL X.K H a xs):∃ its:List Value,yb xs its/\PlainL s.heap a its.toArray/\xs.length<=sizeLine:=by
  rcases h with h | ⟨o,its,n,hk,hc,hd,hs,hz,r⟩
  · obtain ⟨z,its,n,r,e⟩:=h.ok I.hok
    exact ⟨its,r,⟨_,n,e,rfl,rfl,rfl⟩,z⟩
  · refine ⟨its.toList,r,⟨o,n,I.kIn a o hk,hc,hd,by simpa using hs⟩,?_⟩
    have e:=r.length
    simp only [Array.length_toList] at e
    omega
theorem Inv.tuple (I:Inv X pins σ H s) (h:SqT X.K H a xs):∃ its:List Value,yb xs its/\IsTup s.heap a its.toArray/\xs.length<=sizeLine:=by
  rcases h with h | ⟨o,its,n,hk,hc,hs,hz,r⟩
  · obtain ⟨z,its,r,p⟩:=h.ok I.hok
    exact ⟨its,r,p,z⟩
  · refine ⟨its.toList,r,⟨o,I.kIn a o hk,hc,n,by simpa using hs⟩,?_⟩
    have e:=r.length
    simp only [Array.length_toList] at e
    omega
theorem Inv.list_inj (I:Inv X pins σ H s) (h:SqL X.K H a xs) (h':SqL X.K H a ys):xs=ys:=by
  obtain ⟨its,r,⟨o,n,e,_,_,d⟩,_⟩:=I.list h
  obtain ⟨its',r',⟨o',n',e',_,_,d'⟩,_⟩:=I.list h'
  rw [e] at e';cases e'
  rw [d] at d'
  injection d' with d1 _
  have:its=its':=by simpa using congrArg Array.toList d1
  subst this
  exact r.inj r'
end
abbrev Cx.wish (X:Cx) (E:Value->Shared->Prop):Cx:={ X with xe:=E }
abbrev Cx.nox (X:Cx):Cx:=X.wish fun _ _=>False
theorem Cx.Ok.wish {X:Cx}(ok:X.Ok) (E:Value->Shared->Prop):(X.wish E).Ok :=
  ⟨ok.mod,ok.kind,ok.glob,ok.blt,ok.above,ok.inj,ok.has,ok.cab,ok.hd,ok.frames,ok.stk,ok.exf,ok.bs,ok.bsz,ok.noex,ok.exfs,ok.funs,ok.frf⟩
theorem Cx.Ok.unwish {X:Cx}{E:Value->Shared->Prop}(ok:(X.wish E).Ok):X.Ok :=
  ⟨ok.mod,ok.kind,ok.glob,ok.blt,ok.above,ok.inj,ok.has,ok.cab,ok.hd,ok.frames,ok.stk,ok.exf,ok.bs,ok.bsz,ok.noex,ok.exfs,ok.funs,ok.frf⟩
section
variable {X:Cx}{pins:List (Addr×Obj)}{σ:St}{H:Hp}{s:Shared}{E:Value->Shared->Prop}
theorem Inv.wish (I:Inv X pins σ H s) (E:Value->Shared->Prop):Inv (X.wish E) pins σ H s:=⟨I.ok.wish E,I.os,I.bare,I.base,I.loc,I.cell,I.free,I.freeC,I.pin,I.hok,I.len⟩
theorem Inv.unwish (I:Inv (X.wish E) pins σ H s):Inv X pins σ H s:=⟨I.ok.unwish,I.os,I.bare,I.base,I.loc,I.cell,I.free,I.freeC,I.pin,I.hok,I.len⟩
theorem SP.unwish {D:Ends}{f:Flow}{s':Shared}(h:SP (X.wish E) pins D f s'):SP X pins D f s':=by
  cases f with
  | next=>obtain ⟨σ',H',I,q⟩:=h;exact ⟨σ',H',I.unwish,q⟩
  | brk=>obtain ⟨σ',H',I,q⟩:=h;exact ⟨σ',H',I.unwish,q⟩
  | cont=>obtain ⟨σ',H',I,q⟩:=h;exact ⟨σ',H',I.unwish,q⟩
  | ret u=>obtain ⟨v,σ',H',I,r,q⟩:=h;exact ⟨v,σ',H',I.unwish,r,q⟩
theorem PE.nox {e:Expr}{t:TE}(h:PE X.nox e t):PE X e t:=fun pins s σ H Q I hw =>
  qF (h pins s σ H Q (I.wish _) hw) (fun _ _ ⟨v,H',I',r,q⟩=>⟨v,H',I'.unwish,r,q⟩) fun _ _ z=>False.elim z
theorem PT.nox {e:Expr}{t:TT}(h:PT X.nox e t):PT X e t:=fun pins s σ H Q I hw =>
  qF (h pins s σ H Q (I.wish _) hw) (fun _ _ ⟨H',I',q⟩=>⟨H',I'.unwish,q⟩) fun _ _ z=>False.elim z
theorem PSs.nox {st:List Stmt}{t:TS}(h:PSs X.nox st t):PSs X st t:=fun pins s σ H D I hw =>
  qF (h pins s σ H D (I.wish _) hw) (fun _ _ q=>q.unwish) fun _ _ z=>False.elim z
end
section
variable {X:Cx}{st:Stmt}{yD:List Stmt}{t u:TS}{e:Expr}{te:TE}{pos:Pos}
def tNext:TS:=fun D σ H=>D.nx σ H
def tSeq (t u:TS):TS:=fun D σ H=>t { D with nx:=u D } σ H
theorem qc3:PSs X [] tNext:=fun _ _ σ H _ I h=>wpAny_execs_nil ⟨σ,H,I,h⟩
theorem JZ (h1:PS X st t) (h2:PSs X yD u):PSs X (st::yD) (tSeq t u):=by
  intro pins s σ H D I h
  refine wpAny_execs_cons (thn (h1 pins s σ H { D with nx:=u D } I h) fun f s1 q=>?_)
  cases f with
  | next =>
    obtain ⟨σ',H',I',q⟩:=q
    exact h2 pins s1 σ' H' D I' q
  | ret v=>exact q
  | brk=>exact q
  | cont=>exact q
theorem qaz (h1:PS X st t):PSs X [st] t:=by
  intro pins s σ H D I h
  refine wpAny_execs_cons (thn (h1 pins s σ H D I h) fun f s1 q=>?_)
  cases f with
  | next=>exact wpAny_execs_nil q
  | ret v=>exact q
  | brk=>exact q
  | cont=>exact q
theorem Inv.quiet {pins:List (Addr×Obj)}{σ:St}{H:Hp}{s:Shared}(I:Inv X pins σ H s):interactive X.env=false:=by simp [interactive,I.ok.kind]
def tDrop (te:TE):TS:=fun D σ H=>te σ H fun _ H1=>D.nx σ H1
theorem qhm (he:PE X e te) (hs:swapsWith e none pos.line X.env=pure false:=by rfl):PS X (.Expr e pos) (tDrop te):=by
  intro pins s σ H D I h
  exact wpAny_Expr_any (thn (he pins s σ H _ I h) fun v s1 ⟨x,H1,I1,r1,q1⟩=>⟨σ,H1,I1,q1⟩) I.quiet hs
def tRet (te:TE):TS:=fun D σ H=>te σ H D.rt
theorem qbi (he:PE X e te):PS X (.Return (some e) pos) (tRet te):=by
  intro pins s σ H D I h
  exact wpAny_Return_some (thn (he pins s σ H _ I h) fun v s1 ⟨x,H1,I1,r1,q1⟩=>⟨x,σ,H1,I1,r1,q1⟩)
def tIfS (c:TT) (t u:TS):TS:=fun D σ H=>c σ H fun b H1=>if b=true then t D σ H1 else u D σ H1
theorem qjn {c:Expr}{a b:List Stmt}{tc:TT}(hc:PT X c tc) (ha:PSs X a t) (hb:PSs X b u):PS X (.If c a b pos) (tIfS tc t u):=by
  intro pins s σ H D I h
  refine wpAny_If (thn (hc pins s σ H _ I h) fun d s1 ⟨H1,I1,q1⟩=>?_)
  cases d with
  | true=>exact ha pins s1 σ H1 D I1 q1
  | false=>exact hb pins s1 σ H1 D I1 q1
def qiR:TS:=fun _ _ _=>False
theorem qe8:PS X st qiR:=fun _ _ _ _ _ _ h=>h.elim
end
abbrev TG:=V->St->Hp->(St->Hp->Prop)->Prop
abbrev TGs:=List V->St->Hp->(St->Hp->Prop)->Prop
def PG (X:Cx) (target:Expr) (t:TG):Prop :=
  ∀ (pins:List (Addr×Obj)) (s:Shared) (σ:St) (H:Hp) (v:V) (u:Value) (Q:St->Hp->Prop),Inv X pins σ H s->yP v u->t v σ H Q →
    wpAny (model X.prog X.w) X.A (assign target X.env u) (fun _ s'=>∃ σ' H',Inv X pins σ' H' s'/\Q σ' H') X.xe s
def PGs (X:Cx) (ts:List Expr) (t:TGs):Prop :=
  ∀ (pins:List (Addr×Obj)) (s:Shared) (σ:St) (H:Hp) (vs:List V) (us:List Value) (Q:St->Hp->Prop),Inv X pins σ H s->yb vs us->t vs σ H Q →
    wpAny (model X.prog X.w) X.A (assignInOrder ((assignEach ts X.env).map (·.2)) us) (fun _ s'=>∃ σ' H',Inv X pins σ' H' s'/\Q σ' H') X.xe s
abbrev TSet:=V->V->V->Hp->(Hp->Prop)->Prop
def PSet (X:Cx) (t:TSet):Prop :=
  ∀ (pins:List (Addr×Obj)) (s:Shared) (σ:St) (H:Hp) (o i v:V) (ov iv u:Value) (Q:Hp->Prop),Inv X pins σ H s->yP o ov->yP i iv->yP v u->t o i v H Q →
    wpAny (model X.prog X.w) X.A (setItem ov iv u) (fun _ s'=>∃ H',Inv X pins σ H' s'/\Q H') X.xe s
section
variable {X:Cx}{pos:Pos}
def qj4 (i:Nat):TG:=fun v σ H Q=>Q (σ.set i (some v)) H
theorem qdc {i:Nat}{x:Str}(hN:X.N.Nodup) (hi:X.N[i]?=some x) (hx:Loc X.env.scope x) (hf:X.fn x=true\/X.env.scope.names.lookup x=some .local:=by first | exact .inl rfl | exact .inr rfl | assumption):PG X (.Name x pos) (qj4 i):=by
  intro pins s σ H v u Q I r h
  exact wpAny_assign_Name (JX I hN hi hx r (fun s' I'=>⟨_,H,I',h⟩) hf)
def gNil:TGs:=fun vs σ H Q=>vs=[]/\Q σ H
def gCons (t:TG) (u:TGs):TGs:=fun vs σ H Q=>∃ v r,vs=v::r/\t v σ H fun σ' H'=>u r σ' H' Q
theorem qda:PGs X [] gNil:=by
  intro pins s σ H vs us Q I r h
  obtain ⟨e,h⟩:=h
  subst e
  cases r
  exact assignInOrder_nil ⟨σ,H,I,h⟩
theorem Zi {e:Expr}{es:List Expr}{t:TG}{u:TGs}(h1:PG X e t) (h2:PGs X es u)
    (hs:(assignEach (e::es) X.env).map (·.2)=assign e X.env::(assignEach es X.env).map (·.2):=by rfl):PGs X (e::es) (gCons t u):=by
  intro pins s σ H vs us Q I r h
  obtain ⟨v,vr,e1,h⟩:=h
  subst e1
  cases r with
  | cons r rr =>
    rw [hs]
    refine assignInOrder_cons (thn (h1 pins s σ H _ _ _ I r h) fun _ s1 ⟨σ1,H1,I1,q1⟩=>?_)
    exact h2 pins s1 σ1 H1 _ _ Q I1 rr q1
def gTup (K:W.Frag) (n:Nat) (t:TGs):TG:=fun v σ H Q=>∃ a xs,v = .ref a/\SqT K H a xs/\xs.length=n/\t xs σ H Q
theorem qgg {es:List Expr}{k:Nat}{t:TGs}{n:Nat}(hc:X.calm=true) (h:PGs X es t)
    (hn:(assignEach es X.env).length=n:=by rfl) (hst:(assignEach es X.env).findIdx? (·.1)=none:=by rfl):PG X (.Tuple es k pos) (gTup X.K n t):=by
  intro pins s σ H v u Q I r hw
  obtain ⟨a,xs,e1,hq,hl,hw⟩:=hw
  subst e1
  cases r
  obtain ⟨its,rv,ht,hz⟩:=I.tuple hq
  refine assign_Tuple_tuple (I.ok.hd hc) ht (by simp [hn,<- hl,rv.length]) hst fun h' hx=>?_
  have I1:Inv X pins σ H { s with heap:=h' }:=I.kept (t':=s.toks) fun b o e=>hx b o (qk (qh e)) e
  exact h pins _ σ H xs _ Q I1 (by simpa using rv) hw
def gSub (to ti:TE) (t:TSet):TG:=fun v σ H Q=>to σ H fun o H1=>ti σ H1 fun i H2=>t o i v H2 fun H3=>Q σ H3
theorem qdb {o i:Expr}{to ti:TE}{t:TSet}(ho:PE X o to) (hi:PE X i ti) (hs:PSet X t)
    (ha:∀ v,assign (.Subscript o i pos) X.env v=(do
      let ov <- holding [v] (eval o X.env)
      let iv <- holding [v,ov] (eval i X.env)
      standAt pos
      holding [v,ov,iv] (setItem ov iv v)
      release [v,ov,iv] []):=by intro _;rfl):PG X (.Subscript o i pos) (gSub to ti t):=by
  intro pins s σ H v u Q I r h
  rw [ha]
  refine qa (qX (thn (ho pins s σ H _ I h) fun ov s1 ⟨x,H1,I1,r1,q1⟩=>?_))
  refine qa (qX (thn (hi pins s1 σ H1 _ I1 q1) fun iv s2 ⟨y,H2,I2,r2,q2⟩=>?_))
  refine qa (yS (qa (qX (thn (hs pins s2 σ H2 x y v ov iv u _ I2 r1 r2 r q2) fun _ s3 ⟨H3,I3,q3⟩=>?_))))
  exact wpAny_release ⟨σ,H3,I3,q3⟩
def tAsg (te:TE) (g:TG):TS:=fun D σ H=>te σ H fun x H1=>g x σ H1 D.nx
theorem qc4 {tg e:Expr}{te:TE}{g:TG}(he:PE X e te) (hg:PG X tg g) (hs:swapsWithSole [tg] e pos.line X.env=pure false:=by rfl) (hw:swappedStores [tg] e X.env=pure none:=by rfl)
    (h1:(assignEach [tg] X.env).map (·.2)=[assign tg X.env]:=by rfl):PS X (.Assign [tg] e pos) (tAsg te g):=by
  intro pins s σ H D I h
  refine wpAny_Assign_stores (thn (he pins s σ H _ I h) fun v s1 ⟨x,H1,I1,r1,q1⟩=>?_) hs hw
  rw [h1]
  exact thn (hg pins s1 σ H1 x v _ I1 r1 q1) fun _ s2 q=>q
theorem qjl {i:Nat}{x:Str}{e:Expr}{te:TE}{pos':Pos}(hN:X.N.Nodup) (hi:X.N[i]?=some x) (hx:Loc X.env.scope x) (he:PE X e te) (hs:swapsWith e (some (.Name x pos')) pos.line X.env=pure false:=by rfl) (hf:X.fn x=true\/X.env.scope.names.lookup x=some .local:=by first | exact .inl rfl | exact .inr rfl | assumption) :
    PS X (.Assign [.Name x pos'] e pos) (tAsg te (qj4 i)):=by
  intro pins s σ H D I h
  refine wpAny_Assign_Name (thn (he pins s σ H _ I h) fun v s1 ⟨y,H1,I1,r1,q1⟩=>?_) hs
  exact JX I1 hN hi hx r1 (fun s2 I2=>⟨_,H1,I2,q1⟩) hf
def tPar (i j:Nat) (ta:TA):TS:=fun D σ H=>ta σ H fun vs H1=>∃ v w,vs=[v,w]/\D.nx ((σ.set i (some v)).set j (some w)) H1
theorem qjm {i j:Nat}{x y:Str}{a b:Expr}{ta:TA}{px py pt:Pos}{kt k2 pt2} (hc:X.calm=true) (hN:X.N.Nodup) (hi:X.N[i]?=some x) (hj:X.N[j]?=some y) (hij:i≠j)
    (hx:X.env.scope.names.lookup x=some .local) (hy:X.env.scope.names.lookup y=some .local) (ha:PA X [a,b] ta)
    (hw:swappedStores [.Tuple [.Name x px,.Name y py] kt pt] (.Tuple [a,b] k2 pt2) X.env=pure (some [x,y]))
    (hs:swapsWithSole [.Tuple [.Name x px,.Name y py] kt pt] (.Tuple [a,b] k2 pt2) pos.line X.env=pure false:=by rfl) :
    PS X (.Assign [.Tuple [.Name x px,.Name y py] kt pt] (.Tuple [a,b] k2 pt2) pos) (tPar i j ta):=by
  intro pins s σ H D I h
  rw [exec_Assign_arm]
  refine qa (yS ?_)
  rw [hs]
  refine qa (qd ?_)
  rw [if_neg (by decide)]
  refine qa (Tuple_ (thn (ha _ pins s σ H _ I h) fun us s1 ⟨vs,H1,I1,r1,q1⟩=>?_))
  obtain ⟨v,w,e1,q1⟩:=q1
  subst e1
  obtain ⟨u1,u2,rfl,rv,rw'⟩:∃ u1 u2,us=[u1,u2]/\yP v u1/\yP w u2:=by
    cases r1 with
    | cons p q =>
      cases q with
      | cons p' q' =>
        cases q'
        exact ⟨_,_,rfl,p,p'⟩
  refine yJ ?_ (by show 2<=sizeLine;decide)
  have I2:Inv X pins σ H1 { s1 with heap:=s1.heap.push { cls:=.type "tuple",data:=.seq [u1,u2].toArray } }:=I1.kept (t':=s1.toks) fun b o e=>qc _ e
  rw [hw]
  refine qa (qd ?_)
  show wpAny (model X.prog X.w) X.A (do rule "assign.swapped-stores";let items <- unpackItems (.ref s1.heap.objs.size) 2 none;assignInOrder [fun v=>bindName X.env y v,fun v=>bindName X.env x v] items.reverse;pure Flow.next) _ _ _
  refine qa (jC (qa (unpackItems_tuple (items:=#[u1,u2]) (I.ok.hd hc) (IsTup.new s1.heap _) fun h' hx'=>?_)))
  have I3:=I2.kept (h':=h') (t':=s1.toks) fun b o e=>hx' b o (qk (qh e)) e
  show wpAny _ _ (assignInOrder [fun v=>bindName X.env y v,fun v=>bindName X.env x v] [u2,u1] >>= fun _=>pure Flow.next) _ _ _
  refine qa (assignInOrder_cons (wpAny_bindName (JX I3 hN hj (.inl hy) rw' (fun s2 I4=>?_) (.inr hy))))
  refine assignInOrder_cons (wpAny_bindName (JX I4 hN hi (.inl hx) rv (fun s3 I5=>assignInOrder_nil (qd ?_)) (.inr hx)))
  rw [List.set_comm _ _ (Ne.symm hij)] at I5
  exact ⟨_,H1,I5,q1⟩
end
section
variable {X:Cx}{pos:Pos}
def qiP (c:TT) (tb:TS):TS:=fun D σ H=>∃ W:Nat->St->Hp->Prop,(∃ m,W m σ H)/\∀ m σ H,W m σ H →
  c σ H fun b H1=>if b=true then ∃ N:St->Hp->Prop,(∀ σ' H',N σ' H'->∃ m',m'<m/\W m' σ' H')/\tb { D with nx:=N,ct:=N,bk:=D.nx } σ H1 else D.nx σ H1
theorem qe7 {c:Expr}{body:List Stmt}{tc:TT}{tb:TS}(hp:PassesOwn (model X.prog X.w) X.A X.env X.xe) (hc:PT X c tc) (hb:PSs X body tb):PS X (.While c body [] pos) (qiP tc tb):=by
  intro pins s σ H D I h
  obtain ⟨W,⟨m0,w0⟩,turn⟩:=h
  refine wpAny_While (codeAny_whileLoop (fun n s'=>∃ σ' H',Inv X pins σ' H' s'/\W n σ' H') ?_ m0 ⟨σ,H,I,w0⟩)
  rintro n s1 ⟨σ1,H1,I1,w1⟩
  refine wpAny_passesOwn hp (thn (hc pins s1 σ1 H1 _ I1 (turn n σ1 H1 w1)) fun b s2 ⟨H2,I2,q2⟩=>?_)
  cases b with
  | true =>
    obtain ⟨N,hN,q2⟩:=q2
    rw [if_pos rfl]
    refine wpAny_passesOwn hp (thn (hb pins s2 σ1 H2 _ I2 q2) fun f s3 q3=>?_)
    cases f with
    | next =>
      obtain ⟨σ3,H3,I3,n3⟩:=q3
      obtain ⟨m',hm,w3⟩:=hN σ3 H3 n3
      exact ⟨m',hm,σ3,H3,I3,w3⟩
    | cont =>
      obtain ⟨σ3,H3,I3,n3⟩:=q3
      obtain ⟨m',hm,w3⟩:=hN σ3 H3 n3
      exact ⟨m',hm,σ3,H3,I3,w3⟩
    | brk=>exact q3
    | ret v=>exact q3
  | false =>
    rw [if_neg Bool.false_ne_true]
    exact wpAny_execs_nil ⟨σ1,H2,I2,q2⟩
end
structure It where
  go:Nat->Hp->Prop
  yld:Nat->Hp->V->Hp->Prop
  stop:Nat->Hp->Prop
def Je (X:Cx) (pins:List (Addr×Obj)) (H:Hp) (b:Addr):Prop :=
  H b=none/\b≠X.env.locals/\b∉X.fs/\(b∈X.ex\/X.s₀.heap.objs.size<=b)/\(∀ x c,X.env.cells.lookup x=some c->c≠b)/\∀ p∈X.pn++pins,p.1≠b
theorem Inv.fpOk {X:Cx}{pins:List (Addr×Obj)}{σ:St}{H H':Hp}{s:Shared}{b:Addr}(I:Inv X pins σ H s) (hb:s.heap.objs.size<=b) (hn:H' b=none):Je X pins H' b:=by
  refine ⟨hn,Nat.ne_of_gt (qH I.lt hb),I.nofs hb,.inr (qu I.sz hb),fun x c e z=>?_,fun p hp z=>?_⟩
  · obtain ⟨v,q⟩:=I.cell x c e
    exact absurd (qH q.lt (by rw [z];exact hb)) (yc _)
  · exact absurd (qH (qh (I.pin p hp).1) (by rw [z];exact hb)) (yc _)
structure Turn (P:Program) (w:World) (K:W.Frag) (tg:Expr) (J:It) (fp:List Addr) (it:Addr) (tn:Nat->Heap->Prop):Prop where
  mem:it∈fp
  obj:∀ i h,tn i h->∀ b∈fp,∃ o,h.get? b=some o/\∀ v,o.data≠.cell v
  keep:∀ i h h',tn i h->(∀ b∈fp,∀ o,h.get? b=some o->h'.get? b=some o)->tn i h'
  item:∀ (X:Cx),X.prog=P->X.w=w->X.K=K->X.calm=true->∀ (i:Nat) (pins:List (Addr×Obj)) (s:Shared) (σ:St) (H:Hp) (E:Value->Shared->Prop),Inv X pins σ H s->(∀ b∈fp,Je X pins H b)->tn i s.heap->J.go i H →
    wpAny (model P w) X.A (pyNext (.ref it)) (fun r s1=>∃ u,r=some u ∧
      wpAny (model P w) X.A (letOwnedTupleGo tg (.ref it) u) (fun _ s2=>∃ x H',Inv X pins σ H' s2/\yP x u/\J.yld i H x H'/\tn (i+1) s2.heap/\∀ b∈fp,H' b=none) E s1) E s
  done:∀ (X:Cx),X.prog=P->X.w=w->X.K=K->X.calm=true->∀ (i:Nat) (pins:List (Addr×Obj)) (s:Shared) (σ:St) (H:Hp) (E:Value->Shared->Prop),Inv X pins σ H s->(∀ b∈fp,Je X pins H b)->tn i s.heap->J.stop i H →
    wpAny (model P w) X.A (pyNext (.ref it)) (fun r s1=>r=none/\Inv X pins σ H s1) E s
  self:∀ (A:Around) (i:Nat) (s:Shared) (Q:Value->Shared->Prop) (E:Value->Shared->Prop),tn i s.heap->Q (.ref it) s->wpAny (model P w) A (pyIter (.ref it)) Q E s
abbrev TI:=St->Hp->(It->Hp->Prop)->Prop
def PIE (X:Cx) (pins:List (Addr×Obj)) (σ:St) (tg:Expr) (R:It->Hp->Prop) (itv:Value) (s2:Shared):Prop :=
  ∃ (it:Addr) (fp:List Addr) (tn:Nat->Heap->Prop) (J:It) (H':Hp),itv = .ref it/\Inv X pins σ H' s2/\Turn X.prog X.w X.K tg J fp it tn/\tn 0 s2.heap/\(∀ b∈fp,Je X pins H' b)/\R J H'
def PI (X:Cx) (tg iter:Expr) (wi:TI):Prop :=
  ∀ (pins:List (Addr×Obj)) (s:Shared) (σ:St) (H:Hp) (R:It->Hp->Prop),Inv X pins σ H s->wi σ H R →
    wpAny (model X.prog X.w) X.A (eval iter X.env) (fun v s1=>wpAny (model X.prog X.w) X.A (pyIter v) (PIE X pins σ tg R) X.xe s1) X.xe s
theorem qj3 {M:Model}{A:Around}{E:Value->Shared->Prop}{s:Shared}{tg:Expr}{it:Addr}{u:Value}{o:Obj}{n:String}{vs:Array Value}{Q:Unit->Shared->Prop}(ho:s.heap.get? it=some o) (hc:o.cls = .type n) (hd:o.data = .fields vs)
    (hn:["enumerate", "zip", "dict_itemiterator", "dict_reverseitemiterator", "odict_iterator", "itertools.zip_longest", "itertools.pairwise"].contains n=false) (hQ:Q () s):wpAny M A (letOwnedTupleGo tg (.ref it) u) Q E s:=by
  unfold letOwnedTupleGo
  cases tg <;> first
    | exact qd hQ
    | (cases u <;> first
        | exact qd hQ
        | (refine qa (wpAny_load ho ?_)
           rw [hc,hd]
           show wpAny M A (if (["enumerate", "zip", "dict_itemiterator", "dict_reverseitemiterator", "odict_iterator", "itertools.zip_longest", "itertools.pairwise"].contains n && vs[0]? == some (rawInt _))=true then _ else _) Q E s
           rw [if_neg (by intro h;rw [hn,Bool.false_and] at h;cases h)]
           exact qd hQ))
def Itl (K:W.Frag) (a:Addr):It :=
  ⟨fun i H=>∃ xs x,SqL K H a xs/\xs[i]?=some x,fun i H x H'=>H'=H/\∀ xs,SqL K H a xs->xs[i]?=some x,fun i H=>∃ xs,SqL K H a xs/\xs.length<=i⟩
def Itr (lo:Int) (n:Nat):It:=⟨fun i _=>i<n,fun i H x H'=>H'=H/\x = .int (lo+i),fun i _=>n<=i⟩
theorem qcx {P:Program}{w:World}{K:W.Frag}{tg:Expr}(a it:Addr):Turn P w K tg (Itl K a) [it] it (fun i h=>h.IsListIter it a i) where
  mem:=by simp
  obj:=fun i h st b hb=>by
    have e:b=it:=by simpa using hb
    subst e
    obtain ⟨o,e,c,d⟩:=st
    exact ⟨o,e,fun v z=>by rw [d] at z;cases z⟩
  keep:=fun i h h' st k=>st.at fun o e=>k it (by simp) o e
  item:=by
    intro X hP hw hK hc i pins s σ H E I hf st hg
    subst hP hw hK
    obtain ⟨xs,x,hq,hx⟩:=hg
    obtain ⟨its,rv,p,hz⟩:=I.list hq
    obtain ⟨u,hu,ru⟩:=rv.get hx
    obtain ⟨f0,f1,f2,f3,f4,f5⟩:=hf it (by simp)
    refine wpAny_pyNext_list_item st p.isList (x:=u) (by simpa using hu) fun h' st' sb=>?_
    have I1:Inv X pins σ H { s with heap:=h' }:=I.turned (t':=s.toks) (fun b o hb e=>(sb.2 b hb).trans e) f0 f1 f3 f4 f5
    obtain ⟨o,e,c,d⟩:=id st'
    exact ⟨u,rfl,qj3 (s:={ s with heap:=h' }) e c d (by decide) ⟨x,H,I1,ru,⟨rfl,fun ys hy=>by rw [I.list_inj hy hq];exact hx⟩,st',fun b hb=>(hf b hb).1⟩⟩
  done:=by
    intro X hP hw hK hc i pins s σ H E I hf st hg
    subst hP hw hK
    obtain ⟨xs,hq,hx⟩:=hg
    obtain ⟨its,rv,p,hz⟩:=I.list hq
    obtain ⟨f0,f1,f2,f3,f4,f5⟩:=hf it (by simp)
    have hl:=rv.length
    exact wpAny_pyNext_list_end (I.ok.hd hc) st p.isList (by simp;omega) fun h' eb=>⟨rfl,I.turned (t':=s.toks) (fun b o hb e=>eb b o hb e) f0 f1 f3 f4 f5⟩
  self:=fun _ _ _ _ _ st h=>wpAny_pyIter_listiter st h
theorem qbR {P:Program}{w:World}{K:W.Frag}{tg:Expr}(it:Addr) (lo:Int) (n:Nat):Turn P w K tg (Itr lo n) [it] it (fun i h=>IsRangeIter h it (lo+(i:Nat) * 1) ((n:Int) - (i:Nat)) 1) where
  mem:=by simp
  obj:=fun i h st b hb=>by
    have e:b=it:=by simpa using hb
    subst e
    exact ⟨_,st,fun v z=>by
      have z':Data.fields _=Data.cell v:=z
      cases z'⟩
  keep:=fun i h h' st k=>k it (by simp) _ st
  item:=by
    intro X hP hw hK hc i pins s σ H E I hf st hg
    subst hP hw hK
    obtain ⟨f0,f1,f2,f3,f4,f5⟩:=hf it (by simp)
    have W:=Walks.range (prog:=X.prog) (w:=X.w) (I.ok.hd hc) it lo 1 n
    refine W.item i s _ _ hg st fun v h' tk hv st' kk=>?_
    obtain ⟨t,rfl⟩:=hv
    have I1:Inv X pins σ H { s with heap:=h',toks:=tk }:=I.turned (fun b o hb e=>kk b o (by simpa using hb) e) f0 f1 f3 f4 f5
    refine ⟨_,rfl,qj3 (s:={ s with heap:=h',toks:=tk }) (n := "range_iterator") st' rfl rfl (by decide) ⟨.int (lo+i),H,I1,⟨t,?_⟩,⟨rfl,rfl⟩,st',fun b hb=>(hf b hb).1⟩⟩
    rw [Int.mul_one]
  done:=by
    intro X hP hw hK hc i pins s σ H E I hf st hg
    subst hP hw hK
    obtain ⟨f0,f1,f2,f3,f4,f5⟩:=hf it (by simp)
    exact wpAny_pyNext_range_end (I.ok.hd hc) st (by have:n<=i:=hg;omega) fun h' eb=>⟨rfl,I.turned (t':=s.toks) (fun b o hb e=>eb b o hb e) f0 f1 f3 f4 f5⟩
  self:=fun _ _ _ _ _ st h=>wpAny_pyIter_rangeiter st h
section
variable {X:Cx}{tg:Expr}
def iList (K:W.Frag) (tl:TE):TI:=fun σ H R=>tl σ H fun x H1=>∃ a,x = .ref a/\(∃ xs,SqL K H1 a xs)/\R (Itl K a) H1
theorem qhr {l:Expr}{tl:TE}(hl:PE X l tl):PI X tg l (iList X.K tl):=by
  intro pins s σ H R I h
  refine thn (hl pins s σ H _ I h) fun v s1 hq9=>?_
  obtain ⟨x,H1,I1,r1,q1⟩:=hq9
  obtain ⟨a,e,⟨xs,hq⟩,q⟩:=q1
  subst e
  cases r1
  obtain ⟨its,rv,p,hz⟩:=I1.list hq
  refine wpAny_pyIter_list p.isList ?_
  refine ⟨s1.heap.objs.size,[s1.heap.objs.size],_,_,H1,rfl,I1.kept (t':=s1.toks) fun b o e=>qc _ e,qcx a _,⟨_,qx _ rfl,rfl,rfl⟩,fun b hb=>?_,q⟩
  have e:b=s1.heap.objs.size:=by simpa using hb
  subst e
  exact I1.fpOk (qj _) (I1.hok.fresh (qj _))
theorem qe5 {pins:List (Addr×Obj)}{σ:St}{H:Hp}{s:Shared}{R:It->Hp->Prop}{E:Value->Shared->Prop}{lo hi:Int}{t u v:Tok}{tk:Nat}(I:Inv X pins σ H s) (h1:-(2 ^ 62)<=lo) (h2:lo<2 ^ 62) (h3:-(2 ^ 62)<=hi) (h4:hi<2 ^ 62)
    (q:R (Itr lo (hi - lo).toNat) H):wpAny (model X.prog X.w) X.A (pyIter (.ref s.heap.objs.size)) (PIE X pins σ tg R) E { s with heap:=s.heap.push { cls:=.type "range",data:=.fields #[.int lo t,.int hi u,.int 1 v] },toks:=tk }:=by
  refine wpAny_pyIter_range (IsRange.new ..) (small_one h1 h2 h3 h4) ?_
  have I1:Inv X pins σ H { s with heap:=s.heap.push { cls:=.type "range",data:=.fields #[.int lo t,.int hi u,.int 1 v] },toks:=tk }:=I.kept fun b o e=>qc _ e
  refine ⟨(s.heap.push { cls:=.type "range",data:=.fields #[.int lo t,.int hi u,.int 1 v] }).objs.size,[(s.heap.push { cls:=.type "range",data:=.fields #[.int lo t,.int hi u,.int 1 v] }).objs.size],_,_,H,rfl,
    I1.kept (t':=tk) fun b o e=>qc _ e,qbR _ lo (hi - lo).toNat,?_,fun b hb=>?_,q⟩
  · have e1:lo+((0:Nat):Int) * 1=lo:=by simp
    have e2:(((hi - lo).toNat:Nat):Int) - ((0:Nat):Int)=Builtin.Range.rangeSize lo hi 1:=by rw [rangeSize_one];split <;> omega
    show IsRangeIter _ _ (lo+((0:Nat):Int) * 1) ((((hi - lo).toNat:Nat):Int) - ((0:Nat):Int)) 1
    rw [e1,e2]
    exact qx _ rfl
  · have e:b=(s.heap.push { cls:=.type "range",data:=.fields #[.int lo t,.int hi u,.int 1 v] }).objs.size:=by simpa using hb
    subst e
    exact I1.fpOk (qj _) (I1.hok.fresh (qj _))
def iRng1 (ta:TA):TI:=fun σ H R=>ta σ H fun vs H1=>∃ j:Int,vs=[.int j]/\-(2 ^ 62)<=j/\j<2 ^ 62/\R (Itr 0 j.toNat) H1
theorem qc9 {a:Expr}{ta:TA}{p pos:Pos}(hg:Gl X "range") (hm:X.mg "range" = none) (ha:PA X [a] ta) (hs:starEach [a] X.env=[(false,eval a X.env)]:=by rfl):PI X tg (.Call (.Name "range" p) [a] [] pos) (iRng1 ta):=by
  intro pins s σ H R I h
  refine Call_ (YZ I hg hm boot_range (PyProof.Rows.callWith_type1 (thn (ha pos pins s σ H _ I h) fun us s1 ⟨vs,H1,I1,r1,q1⟩=>?_) hs rfl))
  obtain ⟨j,e,q1,q2,q⟩:=q1
  subst e
  cases r1 with
  | cons r rr =>
    cases rr
    obtain ⟨t,rfl⟩:=r
    exact call_range_1 (qe5 I1 (by omega) (by omega) q1 q2 (by simpa using q))
def tFor (wi:TI) (g:TG) (tb:TS):TS:=fun D σ H=>wi σ H fun J H1=>∃ W:Nat->Nat->St->Hp->Prop,(∃ m,W 0 m σ H1)/\∀ i m σ H,W i m σ H →
  (J.stop i H/\D.nx σ H)\/(J.go i H/\∃ N:St->Hp->Prop,(∀ σ' H',N σ' H'->∃ m',m'<m/\W (i+1) m' σ' H')/\∀ x H',J.yld i H x H'->g x σ H' fun σ2 H2=>tb { D with nx:=N,ct:=N,bk:=D.nx } σ2 H2)
def jD (fp:List Addr) (h:Heap):List (Addr×Obj):=fp.filterMap fun b=>(h.get? b).map fun o=>(b,o)
theorem yn {fp:List Addr}{h:Heap}{b:Addr}{o:Obj}(hb:b∈fp) (e:h.get? b=some o):(b,o)∈jD fp h:=List.mem_filterMap.mpr ⟨b,hb,by rw [e];rfl⟩
theorem ZW {fp:List Addr}{h:Heap}{p:Addr×Obj}(hp:p∈jD fp h):p.1∈fp/\h.get? p.1=some p.2:=by
  obtain ⟨b,hb,e⟩:=List.mem_filterMap.mp hp
  cases q:h.get? b with
  | none=>rw [q] at e;cases e
  | some o =>
    rw [q] at e
    have e':(b,o)=p:=Option.some.inj e
    subst e'
    exact ⟨hb,q⟩
theorem Inv.pinned {pins:List (Addr×Obj)}{σ:St}{H:Hp}{s:Shared}{fp:List Addr}(I:Inv X pins σ H s) (hf:∀ b∈fp,Je X pins H b) (ho:∀ b∈fp,∃ o,s.heap.get? b=some o/\∀ v,o.data≠.cell v):Inv X (pins++jD fp s.heap) σ H s :=
  I.pins_of fun p hp=>(List.mem_append.mp hp).elim (fun z=>I.pin p (qb _ z)) fun z=>by
    obtain ⟨hb,e⟩:=ZW z
    obtain ⟨f0,f1,f2,_⟩:=hf p.1 hb
    obtain ⟨o,e',d⟩:=ho p.1 hb
    rw [e] at e';cases e'
    exact ⟨e,f0,f1,f2,d⟩
theorem Inv.unpinned {pins pl:List (Addr×Obj)}{σ:St}{H:Hp}{s:Shared}(I:Inv X (pins++pl) σ H s):Inv X pins σ H s:=I.pins_of fun p hp=>I.pin p (qb _ (qp _ hp))
theorem qjo {iter:Expr}{body:List Stmt}{wi:TI}{g:TG}{tb:TS}{pos:Pos}(hp:PassesOwn (model X.prog X.w) X.A X.env X.xe) (hc:X.calm=true) (hi:PI X tg iter wi) (hg:PG X tg g) (hb:PSs X body tb)
    (hs:∀ x,foldedSetIterable iter X.env x=pure x:=by intro _;rfl):PS X (.For tg iter body [] pos) (tFor wi g tb):=by
  intro pins s σ H D I h
  refine wpAny_For (thn (hi pins s σ H _ I h) fun v s1 h1=>thn h1 fun itv s2 h2=>?_) hs
  obtain ⟨it,fp,tn,J,H2,e,I2,T,st2,f2,W,⟨m0,w0⟩,turn⟩:=h2
  subst e
  -- what stays true of the iterator's objects through the loop
  have stat:∀ {H':Hp},(∀ b∈fp,H' b=none)->∀ b∈fp,Je X pins H' b:=fun hn b hb=>⟨hn b hb,(f2 b hb).2⟩
  refine codeAny_forLoop_any (fun n s'=>∃ i σ' H',Inv X pins σ' H' s'/\tn i s'.heap/\(∀ b∈fp,H' b=none)/\W i n σ' H') ?_ m0 ⟨0,σ,H2,I2,st2,fun b hb=>(f2 b hb).1,w0⟩
  rintro n s3 ⟨i,σ3,H3,I3,st3,fr3,w3⟩
  rcases turn i n σ3 H3 w3 with ⟨stop,qn⟩ | ⟨go,N,hN,step⟩
  · refine wpAny_passesOwn hp (thn (T.done X rfl rfl rfl hc i pins s3 σ3 H3 X.xe I3 (stat fr3) st3 stop) fun r s4 ⟨hr,I4⟩=>?_)
    subst hr
    exact wpAny_execs_nil ⟨σ3,H3,I4,qn⟩
  · refine wpAny_passesOwn hp (thn (T.item X rfl rfl rfl hc i pins s3 σ3 H3 X.xe I3 (stat fr3) st3 go) fun r s4 ⟨u,hr,h4⟩=>?_)
    subst hr
    refine wpAny_passesOwn hp (thn h4 fun _ s5 ⟨x,H5,I5,r5,y5,st5,fr5⟩=>?_)
    have I5':=I5.pinned (stat fr5) (T.obj _ _ st5)
    refine wpAny_passesOwn hp (thn (hg _ s5 σ3 H5 x u _ I5' r5 (step x H5 y5)) fun _ s6 ⟨σ6,H6,I6,q6⟩=>?_)
    refine wpAny_passesOwn hp (thn (hb _ s6 σ6 H6 _ I6 q6) fun f s7 q7=>?_)
    have again:∀ {σ7:St}{H7:Hp},Inv X (pins++jD fp s5.heap) σ7 H7 s7->N σ7 H7->∃ m,m<n/\∃ i σ' H',Inv X pins σ' H' s7/\tn i s7.heap/\(∀ b∈fp,H' b=none)/\W i m σ' H':=fun {σ7 H7} I7 n7=>by
      obtain ⟨m',hm,w7⟩:=hN σ7 H7 n7
      refine ⟨m',hm,i+1,σ7,H7,I7.unpinned,T.keep _ _ _ st5 fun b hb o e=>(I7.pin (b,o) (qb _ (qb _ (yn hb e)))).1,fun b hb=>?_,w7⟩
      obtain ⟨o,e,d⟩:=T.obj _ _ st5 b hb
      exact (I7.pin (b,o) (qb _ (qb _ (yn hb e)))).2.1
    cases f with
    | next=>obtain ⟨σ7,H7,I7,n7⟩:=q7;exact again I7 n7
    | cont=>obtain ⟨σ7,H7,I7,n7⟩:=q7;exact again I7 n7
    | brk=>obtain ⟨σ7,H7,I7,q7⟩:=q7;exact ⟨σ7,H7,I7.unpinned,q7⟩
    | ret v=>obtain ⟨x7,σ7,H7,I7,r7,q7⟩:=q7;exact ⟨x7,σ7,H7,I7.unpinned,r7,q7⟩
end
abbrev R2:=V->V->Hp->VK->Prop
def OpR (X:Cx) (f:Value->Value->Sem Value) (r:R2):Prop :=
  ∀ (pins:List (Addr×Obj)) (s:Shared) (σ:St) (H:Hp) (x y:V) (v u:Value) (Q:VK),Inv X pins σ H s->yP x v->yP y u->r x y H Q →
    wpAny (model X.prog X.w) X.A (f v u) (EP X pins σ Q) X.xe s
def UnR (X:Cx) (f:Value->Sem Value) (r:V->Hp->VK->Prop):Prop :=
  ∀ (pins:List (Addr×Obj)) (s:Shared) (σ:St) (H:Hp) (x:V) (v:Value) (Q:VK),Inv X pins σ H s->yP x v->r x H Q →
    wpAny (model X.prog X.w) X.A (f v) (EP X pins σ Q) X.xe s
def yR (X:Cx) (f:Value) (r:List V->Hp->VK->Prop):Prop :=
  ∀ (pins:List (Addr×Obj)) (s:Shared) (σ:St) (H:Hp) (xs:List V) (us:List Value) (Q:VK),Inv X pins σ H s->yb xs us->r xs H Q →
    wpAny (model X.prog X.w) X.A (call f us) (EP X pins σ Q) X.xe s
def tOp (r:R2) (ta tb:TE):TE:=fun σ H Q=>ta σ H fun x H1=>tb σ H1 fun y H2=>r x y H2 Q
def tUn (r:V->Hp->VK->Prop) (ta:TE):TE:=fun σ H Q=>ta σ H fun x H1=>r x H1 Q
def rI (C:Int->Int->Prop) (g:Int->Int->V):R2:=fun x y H Q=>∃ i j,x = .int i/\y = .int j/\C i j/\Q (g i j) H
def rI0 (g:Int->Int->V):R2:=fun x y H Q=>∃ i j,x = .int i/\y = .int j/\Q (g i j) H
def rU (g:Int->V):V->Hp->VK->Prop:=fun x H Q=>∃ i,x = .int i/\Q (g i) H
section
variable {X:Cx}{a b c:Expr}{ta tb tc:TE}{pos:Pos}
theorem binT (ha:PE X a ta) (hb:PE X b tb) {pins:List (Addr×Obj)}{s:Shared}{σ:St}{H:Hp}{R:V->V->Hp->Prop}(I:Inv X pins σ H s)
    (h:ta σ H fun x H1=>tb σ H1 fun y H2=>R x y H2) {Q:Value->Shared->Prop}{f:Value->Value->Sem Value}
    (hf:∀ v u s2 x y H2,Inv X pins σ H2 s2->yP x v->yP y u->R x y H2->wpAny (model X.prog X.w) X.A (f v u) Q X.xe s2) :
    wpAny (model X.prog X.w) X.A (eval a X.env) (fun v s₁=>wpAny (model X.prog X.w) X.A (eval b X.env) (fun u s₂=>wpAny (model X.prog X.w) X.A (f v u) Q X.xe s₂) X.xe s₁) X.xe s:=by
  refine thn (ha pins s σ H _ I h) fun v s1 hq9=>?_
  obtain ⟨x,H1,I1,r1,q1⟩:=hq9
  refine thn (hb pins s1 σ H1 _ I1 q1) fun u s2 hq9=>?_
  obtain ⟨y,H2,I2,r2,q2⟩:=hq9
  exact hf v u s2 x y H2 I2 r1 r2 q2
theorem ZV {op:Operator}{r:R2}(ho:OpR X (binaryOp op) r) (ha:PE X a ta) (hb:PE X b tb):PE X (.BinOp a op b pos) (tOp r ta tb):=by
  intro pins s σ H Q I h
  exact wpAny_BinOp (binT ha hb I h fun v u s2 x y H2 I2 rx ry q=>ho pins s2 σ H2 x y v u Q I2 rx ry q)
theorem pe_un {op:UnaryOp}{r:V->Hp->VK->Prop}(ho:UnR X (unaryOp op) r) (ha:PE X a ta):PE X (.UnaryOp op a pos) (tUn r ta):=by
  intro pins s σ H Q I h
  exact UnaryOp_ (thn (ha pins s σ H _ I h) fun v s1 ⟨x,H1,I1,r1,q1⟩=>ho pins s1 σ H1 x v Q I1 r1 q1)
theorem opI {f:Value->Value->Sem Value}{C:Int->Int->Prop}{g:Int->Int->Int}
    (rule:∀ (i j:Int) (t u:Tok) (s:Shared) (Q:Value->Shared->Prop) (E:Value->Shared->Prop),C i j->Q (.int (g i j) s.toks) { s with toks:=s.toks+1 }->wpAny (model X.prog X.w) X.A (f (.int i t) (.int j u)) Q E s) :
    OpR X f (rI C fun i j=>.int (g i j)):=by
  intro pins s σ H x y v u Q I rx ry h
  obtain ⟨i,j,rfl,rfl,hc,q⟩:=h
  obtain ⟨t,rfl⟩:=rx
  obtain ⟨t',rfl⟩:=ry
  exact rule i j t t' s _ _ hc ⟨.int (g i j),H,I.tok _,⟨_,rfl⟩,q⟩
theorem opI0 {f:Value->Value->Sem Value}{g:Int->Int->Int}
    (rule:∀ (i j:Int) (t u:Tok) (s:Shared) (Q:Value->Shared->Prop) (E:Value->Shared->Prop),Q (.int (g i j) s.toks) { s with toks:=s.toks+1 }->wpAny (model X.prog X.w) X.A (f (.int i t) (.int j u)) Q E s) :
    OpR X f (rI0 fun i j=>.int (g i j)):=by
  intro pins s σ H x y v u Q I rx ry h
  obtain ⟨i,j,rfl,rfl,q⟩:=h
  obtain ⟨t,rfl⟩:=rx
  obtain ⟨t',rfl⟩:=ry
  exact rule i j t t' s _ _ ⟨.int (g i j),H,I.tok _,⟨_,rfl⟩,q⟩
theorem opB0 {f:Value->Value->Sem Value}{g:Int->Int->Bool}
    (rule:∀ (i j:Int) (t u:Tok) (s:Shared) (Q:Value->Shared->Prop) (E:Value->Shared->Prop),Q (.bool (g i j)) s->wpAny (model X.prog X.w) X.A (f (.int i t) (.int j u)) Q E s) :
    OpR X f (rI0 fun i j=>.bl (g i j)):=by
  intro pins s σ H x y v u Q I rx ry h
  obtain ⟨i,j,rfl,rfl,q⟩:=h
  obtain ⟨t,rfl⟩:=rx
  obtain ⟨t',rfl⟩:=ry
  exact rule i j t t' s _ _ ⟨.bl (g i j),H,I,rfl,q⟩
def CDiv (i j:Int):Prop:=0<j/\j<1073741824
def CPow (i j:Int):Prop:=0<=j/\j<=1000000/\i.natAbs<2 ^ 64
def CMul (i j:Int):Prop:=(-(2 ^ 64)<i/\i<2 ^ 64)\/(-(2 ^ 64)<j/\j<2 ^ 64)
theorem CMul.ok {i j:Int}(h:CMul i j):IntMulOk i j:=by
  rcases h with ⟨h1,h2⟩ | ⟨h1,h2⟩
  · exact .of_left (intBits_le_64 h1 h2)
  · exact .of_right (intBits_le_64 h1 h2)
theorem qdi:OpR X (binaryOp .Add) (rI0 fun i j=>.int (i+j)):=opI0 fun _ _ _ _ _ _ _ q=>add_int q
theorem qjx:OpR X (binaryOp .Sub) (rI0 fun i j=>.int (i - j)):=opI0 fun _ _ _ _ _ _ _ q=>sub_int q
theorem qhA:OpR X (binaryOp .FloorDiv) (rI CDiv fun i j=>.int (i / j)):=opI fun i j _ _ _ _ _ hc q=>by
  have h1:(0:Int)<j:=hc.1
  have h2:j<1073741824:=hc.2
  exact floordiv_int (by omega) (by rw [Int.fdiv_eq_ediv_of_nonneg i (by omega)];exact q) (.inl (PyProof.noPylong_small (by omega)))
theorem qbl:OpR X (binaryOp .Mod) (rI (fun _ j=>0<j) fun i j=>.int (i % j)):=opI fun i j _ _ _ _ _ hc q=>by
  have h1:(0:Int)<j:=hc
  exact mod_int' (by omega) (by rw [Int.fmod_eq_emod_of_nonneg i (by omega)];exact q)
theorem qjy:OpR X (binaryOp .Pow) (rI CPow fun i j=>.int (i ^ j.toNat)):=opI fun _ _ _ _ _ _ _ hc q=>pow_int_small hc.1 hc.2.1 hc.2.2 q
theorem unI {f:Value->Sem Value}{g:Int->Int}
    (rule:∀ (i:Int) (t:Tok) (s:Shared) (Q:Value->Shared->Prop) (E:Value->Shared->Prop),Q (.int (g i) s.toks) { s with toks:=s.toks+1 }->wpAny (model X.prog X.w) X.A (f (.int i t)) Q E s) :
    UnR X f (rU fun i=>.int (g i)):=by
  intro pins s σ H x v Q I rx h
  obtain ⟨i,rfl,q⟩:=h
  obtain ⟨t,rfl⟩:=rx
  exact rule i t s _ _ ⟨.int (g i),H,I.tok _,⟨_,rfl⟩,q⟩
theorem qiM:UnR X (unaryOp .USub) (rU fun i=>.int (-i)):=unI fun _ _ _ _ _ q=>neg_int q
end
section
variable {X:Cx}{a b c:Expr}{ta tb tc:TE}{pos:Pos}
theorem op_lt:OpR X (compareOp .Lt) (rI0 fun i j=>.bl (decide (i<j))):=opB0 fun _ _ _ _ _ _ _ q=>lt_int q
theorem op_le:OpR X (compareOp .LtE) (rI0 fun i j=>.bl (decide (i<=j))):=opB0 fun _ _ _ _ _ _ _ q=>le_int q
theorem qjB:OpR X (compareOp .Gt) (rI0 fun i j=>.bl (decide (j<i))):=opB0 fun _ _ _ _ _ _ _ q=>gt_int q
theorem OpR.or {f:Value->Value->Sem Value}{r r':R2}(h:OpR X f r) (h':OpR X f r'):OpR X f (fun x y H Q=>r x y H Q\/r' x y H Q):=by
  intro pins s σ H x y v u Q I rx ry q
  rcases q with q | q
  · exact h pins s σ H x y v u Q I rx ry q
  · exact h' pins s σ H x y v u Q I rx ry q
theorem yk (b:Expr) {op:CmpOp}(h:op≠.In:=by decide) (h2:op≠.NotIn:=by decide):behindInMarks op b=false:=by
  have e1:(op == CmpOp.In)=false:=by cases op <;> first | rfl | exact absurd rfl h
  have e2:(op == CmpOp.NotIn)=false:=by cases op <;> first | rfl | exact absurd rfl h2
  cases b <;> simp [behindInMarks,e1,e2]
theorem qhy {op:CmpOp}{r:R2}(ho:OpR X (compareOp op) r) (ha:PE X a ta) (hb:PE X b tb) (hm:behindInMarks op b=false):PE X (.Compare a [op] [b] pos) (tOp r ta tb):=by
  intro pins s σ H Q I h
  exact wpAny_Compare1 (binT ha hb I h fun v u s2 x y H2 I2 rx ry q=>ho pins s2 σ H2 x y v u Q I2 rx ry q) hm
def tTest (t:TE):TT:=fun σ H Q=>t σ H fun x H'=>∃ k,x = .bl k/\Q k H'
theorem qc1 {op:CmpOp}{r:R2}(ho:OpR X (compareOp op) r) (ha:PE X a ta) (hb:PE X b tb) (hm:behindInMarks op b=false):PT X (.Compare a [op] [b] pos) (tTest (tOp r ta tb)):=by
  intro pins s σ H Q I h
  refine wpAny_isTrue_Compare1 (thn (ha pins s σ H _ I h) fun v s1 ⟨x,H1,I1,r1,q1⟩=>thn (hb pins s1 σ H1 _ I1 q1) fun u s2 ⟨y,H2,I2,r2,q2⟩ =>
    thn (ho pins s2 σ H2 x y v u _ I2 r1 r2 q2) fun c s3 ⟨z,H3,I3,r3,k,e,q3⟩=>?_) hm
  subst e
  cases r3
  exact wpAny_truthy_bool ⟨H3,I3,q3⟩
theorem qbq:(sizeLine:Nat)<2 ^ 63:=by rw [sizeLine_eq];decide
theorem Y8 {x:V}{us:List Value}(r:yb [x] us):∃ u,us=[u]/\yP x u:=by
  cases r with
  | cons r1 r2=>cases r2;exact ⟨_,rfl,r1⟩
theorem qgX {x y:V}{us:List Value}(r:yb [x,y] us):∃ u w',us=[u,w']/\yP x u/\yP y w':=by
  cases r with
  | cons r1 r2 =>
    cases r2 with
    | cons r3 r4=>cases r4;exact ⟨_,_,rfl,r1,r3⟩
theorem qfO:yR X (.builtin "abs") (fun xs H Q=>∃ i,xs=[.int i]/\Q (.int (if i<0 then -i else i)) H):=by
  intro pins s σ H xs us Q I r h
  obtain ⟨i,rfl,q⟩:=h
  obtain ⟨u,rfl,t,rfl⟩:=Y8 r
  exact call_abs_int fun u tk=>⟨.int (if i<0 then -i else i),H,I.tok _,⟨_,rfl⟩,q⟩
theorem qey (hc:X.calm=true):yR X (.builtin "max") (fun xs H Q=>∃ i j,xs=[.int i,.int j]/\Q (.int (if j > i then j else i)) H):=by
  intro pins s σ H xs us Q I r h
  obtain ⟨i,j,rfl,q⟩:=h
  obtain ⟨u,w',rfl,⟨t,rfl⟩,⟨t',rfl⟩⟩:=qgX r
  refine max_two_ints (I.ok.hd hc) fun h' tk k=>⟨_,H,I.kept k,?_,q⟩
  by_cases hj:j > i
  · rw [if_pos hj,if_pos hj];exact ⟨_,rfl⟩
  · rw [if_neg hj,if_neg hj];exact ⟨_,rfl⟩
theorem qew (hc:X.calm=true):yR X (.builtin "min") (fun xs H Q=>∃ i j,xs=[.int i,.int j]/\Q (.int (if j<i then j else i)) H):=by
  intro pins s σ H xs us Q I r h
  obtain ⟨i,j,rfl,q⟩:=h
  obtain ⟨u,w',rfl,⟨t,rfl⟩,⟨t',rfl⟩⟩:=qgX r
  refine min_two_ints (I.ok.hd hc) fun h' tk k=>⟨_,H,I.kept k,?_,q⟩
  by_cases hj:j<i
  · rw [if_pos hj,if_pos hj];exact ⟨_,rfl⟩
  · rw [if_neg hj,if_neg hj];exact ⟨_,rfl⟩
theorem qaX:yR X (.builtin "divmod") (fun xs H Q=>∃ i j,xs=[.int i,.int j]/\CDiv i j/\∀ p,H p=none->Q (.ref p) (upd H p (.tup [.int (i / j),.int (i % j)]))):=by
  intro pins s σ H xs us Q I r h
  obtain ⟨i,j,rfl,⟨h1,h2⟩,q⟩:=h
  obtain ⟨u,w',rfl,⟨t,rfl⟩,⟨t',rfl⟩⟩:=qgX r
  refine divmod_int (by omega) ?_ (.inl (PyProof.noPylong_small (by omega)))
  rw [Int.fdiv_eq_ediv_of_nonneg i (by omega),Int.fmod_eq_emod_of_nonneg i (by omega)]
  have hn:H s.heap.objs.size=none:=I.hok.fresh (qj _)
  refine ⟨.ref s.heap.objs.size,_,?_,rfl,q _ hn⟩
  refine I.laid (fun b o e=>qc _ e) (qj _) ⟨by simp only [List.length_cons,List.length_nil];rw [sizeLine_eq];decide,[.int (i / j) s.toks,.int (i % j) (s.toks+1)],.cons ⟨_,rfl⟩ (.cons ⟨_,rfl⟩ .nil),?_⟩
  exact ⟨_,qx s.heap rfl,rfl,0,rfl⟩
end
structure ObjM (h:Heap) (x dx C:Addr) (mA:Str->Option Value):Prop where
  obj:h.get? x=some (W.instObj C dx)
  ns:h.Ns1 dx mA
  ne:dx≠x
theorem qdI {h:Heap}{dx:Addr}{mA:Str->Option Value}(n:h.Ns1 dx mA):∃ od,h.get? dx=some od/\∀ name,W.lookIn name od=some (mA name):=by
  obtain ⟨o,es,ep,ho,hd,hk,_,hm⟩:=n
  refine ⟨o,ho,fun name=>?_⟩
  have e:=hm name
  unfold nsFind findBy at e
  rw [<- Array.find?_toList] at e
  unfold W.lookIn
  rw [hd]
  dsimp only
  split
  · rename_i y q
    rw [q] at e
    exact congrArg some e
  · rename_i q
    rw [q] at e
    have a:es.toList.any (·.refKey)=false:=by
      rw [List.any_eq_false]
      intro y hy
      obtain ⟨z,t,hkey⟩:=hk y (Array.mem_toList_iff.mp hy)
      simp [DictEntry.refKey,hkey]
    have a':¬ es.toList.any (·.refKey)=true:=by rw [a];exact Bool.false_ne_true
    rw [if_neg a']
    exact congrArg some e
theorem ObjM.look {h:Heap}{x dx C:Addr}{mA:Str->Option Value}(I:ObjM h x dx C mA):∃ od,W.InstAt h x (W.instObj C dx) C (some od)/\∀ name,W.lookIn name od=some (mA name) :=
  let ⟨od,ho,hl⟩:=qdI I.ns
  ⟨od,⟨I.obj,rfl,rfl,ho⟩,hl⟩
section
variable {prog:Program}{w:World}{A:Around}{E:Value->Shared->Prop}{s:Shared}{K:W.Frag}{x dx C f:Addr}{mA:Str->Option Value}{name:Str}{v:Value}
theorem qh5 {expr:Bool}{Q:Value->Shared->Prop}(X:K.In s.heap) (I:ObjM s.heap x dx C mA) (hg:W.plainGet K C name=true) (hh:W.hasDictIn K C=true)
    (ha:W.findIn K (.ref C) name=some none) (hv:mA name=some v) (hv':W.handedIn v=true) (h:Q v { s with toks:=s.toks+1 }) :
    wpAny (model prog w) A (getAttr (.ref x) name expr) Q E s:=by
  obtain ⟨od,J,hl⟩:=I.look
  exact W.get_value X J (W.plainGet_of hg).1 (W.findObj_own hh ha rfl (by rw [hl,hv])) hv' h
theorem qfB {pl:Sem Bool}{Q:Value×List Value->Shared->Prop}(X:K.In s.heap) (I:ObjM s.heap x dx C mA) (hg:W.plainGet K C name=true)
    (hf:W.findIn K (.ref C) name=some (some (.ref f))) (ht:W.isFn K (.ref f)=true) (hv:mA name=none) (h:Q (.ref f,[.ref x]) s) :
    wpAny (model prog w) A (getMethod (.ref x) name pl) Q E s:=by
  obtain ⟨od,J,hl⟩:=I.look
  exact W.method_fn X J (W.plainGet_of hg).1 (W.plainGet_of hg).2 hf (beq_iff_eq.mp ht) (by show (W.lookIn name od).map (·.isSome)=some false;rw [hl,hv];rfl) h
theorem qg8 {ns:List Str}{Q:Unit->Shared->Prop}(X:K.In s.heap) (I:ObjM s.heap x dx C mA)
    (hs:W.findIn K (.ref C) "__setattr__" = some (some (.builtin "object.__setattr__"))) (hp:W.plainOver K C=true) (ht:W.takerIn K C name=some none) (hh:W.hasDictIn K C=true)
    (hw:PySem.Within mA ns) (hsz:ns.length<=sizeLine)
    (h:∀ h',ObjM h' x dx C (fun y=>if y=name then some v else mA y)->Heap.SameBut dx s.heap h'->Q () { s with heap:=h',toks:=s.toks+2 }) :
    wpAny (model prog w) A (setAttr (.ref x) name v) Q E s:=by
  obtain ⟨od,J,hl⟩:=I.look
  refine W.set_plain X J hs (W.osa_open (s:={ s with toks:=s.toks+1 }) (r:=none) X J hp ht fun b=>?_)
  obtain ⟨cd,hc,hd'⟩:=W.any_some hh
  have hx:s.heap.get? x=some ⟨.ref C,some dx,.plain,#[]⟩:=I.obj
  refine qa (qd (qa (qa (wpAny_loadPart hx (qa (W.Looks.here (s:={ s with toks:=s.toks+1 }) (W.looks_clsIn X hc) ?_))))))
  rw [hd']
  refine qd (a:=some dx) (qa (qd (qa ?_)))
  refine wpAny_nsSet1 (s:={ s with toks:=s.toks+1 }) I.ns fun h' hn2 hs2=>?_
  obtain ⟨oD,esD,epD,hoD,hdD,hcD⟩:=hn2.count (PySem.Within.cons name v hw)
  refine qa (wpAny_lookBehind hoD (by rw [hdD];exact pastItsLine_dict (qu hcD (by rw [List.length_cons];omega))) ?_)
  exact qd (h _ ⟨(hs2.2 _ (Ne.symm I.ne)).trans I.obj,hn2,I.ne⟩ hs2)
theorem qft {R:Result->Shared->Prop}{vs:List Value}{kw:List (Str×Value)}(X:K.In s.heap) (hm:W.makesIn K C=true)
    (hi:W.findIn K (.ref C) "__init__" = some (some (.ref f))) (hf:W.typeIn K (.ref f)=some (.type "function"))
    (h:codeAny (model prog w) (A.under (.builtin "type.__call__" ⟨.ref C::vs,kw⟩)) (.call (.ref f) ⟨.ref (s.heap.objs.size+1)::vs,kw⟩) (W.InitBack (s.heap.objs.size+1) R)
      { s with heap:=(s.heap.push W.emptyDict).push (W.instObj C s.heap.objs.size) }) :
    codeAny (model prog w) A (.call (.ref C) ⟨vs,kw⟩) R s:=by
  obtain ⟨hh,g,d,t,os⟩:=s
  exact W.make_core (W.makes_of X hm) (W.looks_findIn X hi) (fun self=>W.bind_fn X self hf) (.inl rfl) h
end
def Zh (f:Str) (v:V):List (Str×V)->List (Str×V)
  | []=>[(f,v)]
  | (g,x)::r=>if g=f then (g,v)::r else (g,x)::Zh f v r
theorem Yu (f g:Str) (v:V):∀ fs:List (Str×V),(Zh f v fs).lookup g=if g=f then some v else fs.lookup g
  | []=>by
    show List.lookup g [(f,v)]=_
    by_cases h:g=f
    · have hb:(g == f)=true:=beq_iff_eq.mpr h
      simp only [List.lookup,hb,if_pos h]
    · have hb:(g == f)=false:=beq_eq_false_iff_ne.mpr h
      simp only [List.lookup,hb,if_neg h]
  | (k,x)::r=>by
    have ih:=Yu f g v r
    rw [show Zh f v ((k,x)::r)=(if k=f then (k,v)::r else (k,x)::Zh f v r) from rfl]
    by_cases hk:k=f
    · rw [if_pos hk]
      by_cases h:g=k
      · have hb:(g == k)=true:=beq_iff_eq.mpr h
        simp only [List.lookup,hb,if_pos (h.trans hk)]
      · have hb:(g == k)=false:=beq_eq_false_iff_ne.mpr h
        simp only [List.lookup,hb,if_neg (fun e:g=f=>h (e.trans hk.symm))]
    · rw [if_neg hk]
      by_cases h:g=k
      · have hb:(g == k)=true:=beq_iff_eq.mpr h
        simp only [List.lookup,hb,if_neg (fun e:g=f=>hk (h.symm.trans e))]
      · have hb:(g == k)=false:=beq_eq_false_iff_ne.mpr h
        simp only [List.lookup,hb]
        exact ih
theorem Yx (f:Str) (v:V):∀ fs:List (Str×V),f∈(Zh f v fs).map (·.1)/\∀ g,g∈fs.map (·.1)->g∈(Zh f v fs).map (·.1)
  | []=>⟨by simp [Zh],fun g h=>by simp at h⟩
  | (k,x)::r=>by
    obtain ⟨i1,i2⟩:=Yx f v r
    rw [show Zh f v ((k,x)::r)=(if k=f then (k,v)::r else (k,x)::Zh f v r) from rfl]
    by_cases hk:k=f
    · rw [if_pos hk]
      subst hk
      exact ⟨by simp,fun g h=>by simpa using h⟩
    · rw [if_neg hk]
      refine ⟨?_,fun g h=>?_⟩
      · rw [List.map_cons]
        exact qe _ i1
      · rw [List.map_cons] at h ⊢
        rcases List.mem_cons.mp h with e | e
        · exact List.mem_cons.mpr (.inl e)
        · exact qe _ (i2 g e)
theorem Yv (f:Str) (v:V):∀ fs:List (Str×V),(Zh f v fs).length<=fs.length+1
  | []=>by simp [Zh]
  | (k,x)::r=>by
    have ih:=Yv f v r
    rw [show Zh f v ((k,x)::r)=(if k=f then (k,v)::r else (k,x)::Zh f v r) from rfl]
    by_cases hk:k=f
    · rw [if_pos hk,List.length_cons,List.length_cons];omega
    · rw [if_neg hk,List.length_cons,List.length_cons];omega
theorem qeM.some_of {v:V}{o:Option Value}(r:qeM (some v) o):∃ u,o=some u/\yP v u:=by
  cases o with
  | none=>exact (show False from r).elim
  | some u=>exact ⟨u,rfl,r⟩
theorem qeM.none_of {o:Option Value}(r:qeM none o):o=none:=by
  cases o with
  | none=>rfl
  | some u=>exact (show False from r).elim
theorem qd1 {v:V}{u:Value}(r:yP v u):W.handedIn u=true:=by
  cases v with
  | non=>cases (show u=Value.none from r);rfl
  | bl b=>cases (show u=Value.bool b from r);rfl
  | int i=>obtain ⟨t,e⟩:=(show ∃ t,u=Value.int i t from r);cases e;rfl
  | str x=>obtain ⟨t,e⟩:=(show ∃ t,u=Value.str x t from r);cases e;rfl
  | byt b=>obtain ⟨t,e⟩:=(show ∃ t,u=Value.bytes b t from r);cases e;rfl
  | flt b=>obtain ⟨t,e⟩:=(show ∃ t,u=Value.float b t from r);cases e;rfl
  | ref a=>cases (show u=Value.ref a from r);rfl
  | ty n=>cases (show u=Value.type n from r);rfl
section
variable {P:Program}{w:World}{H H':Hp}{h h':Heap}{a C dx:Addr}{fs fs':List (Str×V)}
theorem qaJ (hok:HOk P w H h) (e:H a=some (.ins C dx fs)):∃ mA,ObjM h a dx C mA/\(∀ f,qeM (fs.lookup f) (mA f))/\PySem.Within mA (fs.map (·.1))/\fs.length<=1000/\H dx=some (.own a):=by
  obtain ⟨d,z,ne,ob,mA,n,r,q⟩:=(show jn P w H h a (.ins C dx fs) from hok a _ e)
  exact ⟨mA,⟨ob,n,ne⟩,r,q,z,d⟩
end
structure Cls (K:W.Frag) (C:Addr):Prop where
  pg:W.plainGet K C Str.empty=true
  hd:W.hasDictIn K C=true
  po:W.plainOver K C=true
  sa:W.findIn K (.ref C) "__setattr__" = some (some (.builtin "object.__setattr__"))
theorem Cls.get {K:W.Frag}{C:Addr}(c:Cls K C) (f:Str):W.plainGet K C f=true:=c.pg
def Jc (K:W.Frag) (C:Addr) (f:Str):Prop:=W.findIn K (.ref C) f=some none
theorem Jc.taker {K:W.Frag}{C:Addr}{f:Str}(n:Jc K C f):W.takerIn K C f=some none:=by
  unfold W.takerIn
  rw [show W.findIn K (.ref C) f=some none from n]
  rfl
structure Con (K:W.Frag) (C:Addr) (f:Str) (v:V) (u:Value):Prop where
  at_:W.findIn K (.ref C) f=some (some u)
  rel:yP v u
  get:W.specialIn K u "__get__" = some none
  cp:W.copiedNames.contains f=false
structure Meth (K:W.Frag) (C:Addr) (m:Str) (f:Addr):Prop where
  at_:W.findIn K (.ref C) m=some (some (.ref f))
  fn:W.isFn K (.ref f)=true
  kp:W.keepIn K (.ref f)=true
section
variable {X:Cx}{pins:List (Addr×Obj)}{σ:St}{H:Hp}{s:Shared}{a C dx:Addr}{fs:List (Str×V)}{f:Str}{v:V}{A:Around}{E:Value->Shared->Prop}
theorem qb8 {b:Bool}{Q:Value->Shared->Prop}(I:Inv X pins σ H s) (e:H a=some (.ins C dx fs)) (c:Cls X.K C) (n:Jc X.K C f) (l:fs.lookup f=some v)
    (h:∀ u s',Inv X pins σ H s'->yP v u->Q u s'):wpAny (model X.prog X.w) A (getAttr (.ref a) f b) Q E s:=by
  obtain ⟨mA,O,r,_,_,_⟩:=qaJ I.hok e
  obtain ⟨u,hu,ru⟩:=qeM.some_of (v:=v) (o:=mA f) (by rw [<- l];exact r f)
  exact qh5 I.kIn O (c.get f) c.hd n hu (qd1 ru) (h u _ (I.tok _) ru)
theorem Y3 {m:Str}{g:Addr}{pl:Sem Bool}{Q:Value×List Value->Shared->Prop}(I:Inv X pins σ H s) (e:H a=some (.ins C dx fs)) (c:Cls X.K C) (k:Meth X.K C m g) (l:fs.lookup m=none)
    (h:Q (.ref g,[.ref a]) s):wpAny (model X.prog X.w) A (getMethod (.ref a) m pl) Q E s:=by
  obtain ⟨mA,O,r,_,_,_⟩:=qaJ I.hok e
  have hn:mA m=none:=qeM.none_of (by rw [<- l];exact r m)
  exact qfB I.kIn O (c.get m) k.at_ k.fn hn h
theorem qbW {y:V}{u:Value}{Q:Unit->Shared->Prop}(I:Inv X pins σ H s) (e:H a=some (.ins C dx fs)) (c:Cls X.K C) (n:Jc X.K C f) (hl:fs.length<1000) (ry:yP y u)
    (h:∀ s',Inv X pins σ (upd H a (.ins C dx (Zh f y fs))) s'->Q () s'):wpAny (model X.prog X.w) A (setAttr (.ref a) f u) Q E s:=by
  obtain ⟨mA,O,r,wi,_,ho⟩:=qaJ I.hok e
  have hz:(fs.map (·.1)).length<=sizeLine:=by rw [List.length_map,sizeLine_eq];omega
  refine qg8 I.kIn O c.sa c.po n.taker c.hd wi hz fun h' O' sb=>h _ ?_
  have hd:∃ o,h'.get? dx=some o:=let ⟨o,_,_,e',_⟩:=O'.ns;⟨o,e'⟩
  refine I.write (x:=a) (e:=dx) (by rw [e];exact True.intro) (.inr ho) (fun b q hb z=>(sb.2 b hb).trans z) hd ?_
  refine ⟨by rw [qI O.ne];exact ho,?_,O.ne,O'.obj,_,O'.ns,fun g=>?_,fun g hg=>?_⟩
  · have:=Yv f y fs;omega
  · show qeM ((Zh f y fs).lookup g) (if g=f then some u else mA g)
    rw [Yu]
    by_cases q:g=f
    · rw [if_pos q,if_pos q];exact ry
    · rw [if_neg q,if_neg q];exact r g
  · by_cases q:g=f
    · rw [q];exact (Yx f y fs).1
    · refine (Yx f y fs).2 g (wi g fun z=>hg ?_)
      show (if g=f then some u else mA g)=none
      rw [if_neg q];exact z
theorem Inv.made (I:Inv X pins σ H s):Inv X pins σ (upd (upd H s.heap.objs.size (.own (s.heap.objs.size+1))) (s.heap.objs.size+1) (.ins C s.heap.objs.size []))
    { s with heap:=(s.heap.push W.emptyDict).push (W.instObj C s.heap.objs.size) }:=by
  have e1:(s.heap.push W.emptyDict).get? s.heap.objs.size=some W.emptyDict:=qx s.heap rfl
  have e2:((s.heap.push W.emptyDict).push (W.instObj C s.heap.objs.size)).get? (s.heap.objs.size+1)=some (W.instObj C s.heap.objs.size):=by
    have:=qx (s.heap.push W.emptyDict) (o:=W.instObj C s.heap.objs.size) rfl
    rwa [Heap.size_push] at this
  have e3:(s.heap.push W.emptyDict).Ns s.heap.objs.size (fun _=>none):=⟨W.emptyDict,#[],_,e1,rfl,(fun e he=>absurd he (by simp)),fun _=>rfl⟩
  have I1:=I.laid (a:=s.heap.objs.size) (o:=.own (s.heap.objs.size+1)) (h':=s.heap.push W.emptyDict) (t':=s.toks) (fun b u q=>qc _ q) (qj _) ⟨_,e1⟩
  refine I1.laid (a:=s.heap.objs.size+1) (o:=.ins C s.heap.objs.size []) (t':=s.toks) (fun b u q=>qc _ q) (Nat.le_of_eq (Heap.size_push _ _)) ?_
  have ne:s.heap.objs.size≠s.heap.objs.size+1:=qk (yu _)
  refine ⟨by rw [qI ne,qM],qN _,ne,e2,fun _=>none,(Heap.Ns1.of_empty e3).at fun o q=>qc _ q,fun _=>True.intro,fun y hy=>absurd rfl hy⟩
theorem qit {prog:Program}{w:World}{env:Env}{e:Expr}{f:Str}{pos:Pos}{s:Shared}{Q:Value->Shared->Prop}(hb:attributeBase e f env (eval e env)=eval e env)
    (h:wpAny (model prog w) A (eval e env) (fun o s₁=>wpAny (model prog w) A (getAttr o f true) Q E s₁) E s):wpAny (model prog w) A (eval (.Attribute e f pos) env) Q E s :=
  Attribute_any_ h (by rw [arm_eval_Attribute,hb])
end
def tFld (K:W.Frag) (ta:TE) (f:Str):TE:=fun σ H Q=>ta σ H fun x H1=>∃ a C dx fs v,x = .ref a/\H1 a=some (.ins C dx fs)/\Cls K C/\Jc K C f/\fs.lookup f=some v/\Q v H1
def sFld (K:W.Frag) (ta tv:TE) (f:Str):TS:=fun D σ H=>tv σ H fun y H1=>ta σ H1 fun x H2=>∃ a C dx fs,x = .ref a/\H2 a=some (.ins C dx fs)/\Cls K C/\Jc K C f/\fs.length<1000 ∧
  D.nx σ (upd H2 a (.ins C dx (Zh f y fs)))
section
variable {X:Cx}{o e value:Expr}{f:Str}{pos pos' tpos:Pos}{ta tv:TE}
theorem qju (he:PE X e ta) (hb:attributeBase e f X.env (eval e X.env)=eval e X.env):PE X (.Attribute e f pos) (tFld X.K ta f):=by
  intro pins s σ H Q I h
  refine qit hb (thn (he pins s σ H _ I h) fun u s1 ⟨x,H1,I1,rx,a,C,dx,fs,v,ex,ea,c,n,l,q⟩=>?_)
  subst ex
  obtain rfl:u=Value.ref a:=rx
  exact qb8 I1 ea c n l fun u' s2 I2 ru=>⟨v,H1,I2,ru,q⟩
theorem qjp (ha:PE X o ta) (hv:PE X value tv) (hs:swapsWith value (some (.Attribute o f pos')) pos.line X.env=pure false):PS X (.Assign [.Attribute o f pos'] value pos) (sFld X.K ta tv f):=by
  intro pins s σ H D I h
  refine plainObj_wpAny_Assign_Attribute (thn (hv pins s σ H _ I h) fun u s1 ⟨y,H1,I1,ry,q⟩=>thn (ha pins s1 σ H1 _ I1 q) fun ov s2 ⟨x,H2,I2,rx,a,C,dx,fs,ex,ea,c,n,l,q2⟩=>?_) hs
  subst ex
  obtain rfl:ov=Value.ref a:=rx
  exact qbW I2 ea c n l ry fun s3 I3=>⟨σ,_,I3,q2⟩
end
section
variable {X:Cx}{pins:List (Addr×Obj)}{σ:St}{H:Hp}{s:Shared}{A:Around}{E:Value->Shared->Prop}{Q:Value->Shared->Prop}{c:Value}{b:Bool}
inductive TyOf (K:W.Frag) (H:Hp):V->Value->Prop where
  | non:TyOf K H .non (.type "NoneType")
  | bl (x:Bool):TyOf K H (.bl x) (.type "bool")
  | int (i:Int):TyOf K H (.int i) (.type "int")
  | str (x:Str):TyOf K H (.str x) (.type "str")
  | flt (x:UInt64):TyOf K H (.flt x) (.type "float")
  | lst {a:Addr}{xs:List V}(e:H a=some (.lst xs)):TyOf K H (.ref a) (.type "list")
  | frz {a:Addr}{o:Obj}{xs:List V}(e:H a=some (.frz o (.lst xs))):TyOf K H (.ref a) (.type "list")
  | tup {a:Addr}{xs:List V}(e:H a=some (.tup xs)):TyOf K H (.ref a) (.type "tuple")
  | dK {a:Addr}{kvs:List (Key×V)}(e:H a=some (.dK kvs)):TyOf K H (.ref a) (.type "dict")
  | dT {a:Addr}{kvs:List (List Key×V)}(e:H a=some (.dT kvs)):TyOf K H (.ref a) (.type "dict")
  | ins {a C dx:Addr}{fs:List (Str×V)}(e:H a=some (.ins C dx fs)) (cl:Cls K C) (ha:W.findIn K (.ref C) "__class__" = some (some (.builtin "object.__class__")))
      (hn:W.specialIn K (.builtin "object.__class__") "__get__" = some (some (.builtin "getset_descriptor.__get__"))) (htk:W.takesIn K (.builtin "object.__class__")=some true)
      (hm:W.mroIn K C (.type "object")=some true):TyOf K H (.ref a) (.ref C)
end
structure Room (k:Nat) (A:Around):Prop where
  hd:A.handled=none
  dp:A.depth+3 * k+5<recursionLimit
  un:A.units+16 * k+200<cLine
theorem Room.mono {j k:Nat}{A:Around}(r:Room k A) (h:j<=k):Room j A:=⟨r.hd,by have:=r.dp;omega,by have:=r.un;omega⟩
theorem Room.deeper {k:Nat}{A:Around}(r:Room (k+1) A) (env:Env):Room k (A.deeper env) :=
  ⟨r.hd,by have:=r.dp;show A.depth+1+3 * k+5<_;omega,by have:=r.un;show A.units+3+16 * k+200<_;omega⟩
theorem Room.in1 {k:Nat}{A:Around}(r:Room (k+1) A):Room k A.in1 :=
  ⟨r.hd,by have:=r.dp;show A.depth+3 * k+5<_;omega,by have:=r.un;show A.units+1+16 * k+200<_;omega⟩
theorem qb5 {A:Around}{C:Addr}{us:List Value}{kw:List (Str×Value)}:(A.under (.builtin "type.__call__" ⟨.ref C::us,kw⟩)).depth=A.depth+1:=by
  first | rfl | simp [Around.under,Code.weight,Code.isCreation,Code.isGuard,Code.isCaller,Code.frames,Code.isFrame,guardIds]
theorem qb4 {A:Around}{C:Addr}{us:List Value}{kw:List (Str×Value)}:(A.under (.builtin "type.__call__" ⟨.ref C::us,kw⟩)).units=A.units+1:=by
  first | rfl | simp [Around.under,Code.cUnits,Code.frames,Code.isFrame]
theorem Room.make {k:Nat}{A:Around}(r:Room (k+1) A) (C:Addr) (us:List Value) (kw:List (Str×Value)):Room k (A.under (.builtin "type.__call__" ⟨.ref C::us,kw⟩)) :=
  ⟨r.hd,by have:=r.dp;rw [qb5];omega,by have:=r.un;rw [qb4];omega⟩
theorem Room.depth {k:Nat}{A:Around}(r:Room k A):A.depth<recursionLimit:=by have:=r.dp;omega
theorem Room.units {k:Nat}{A:Around}(r:Room k A):A.units+64<cLine:=by have:=r.un;omega
def tNil:TA:=fun _ H Q=>Q [] H
def tCons (ta:TE) (tr:TA):TA:=fun σ H Q=>ta σ H fun x H1=>tr σ H1 fun xs H2=>Q (x::xs) H2
section
variable {X:Cx}{e:Expr}{es:List Expr}{te:TE}{t:TA}{pos:Pos}
theorem qgi:PA X [] tNil:=fun _ _ _ _ H Q I h=>Calls.spliced_nil ⟨[],H,I,.nil,h⟩
theorem qaB (ha:PE X e te) (hr:PA X es t) (hs:starEach (e::es) X.env=(false,eval e X.env)::starEach es X.env:=by rfl):PA X (e::es) (tCons te t):=by
  intro pos pins s σ H Q I h
  rw [hs]
  show wpAny _ _ (spliced ((false,eval e X.env)::backTo pos (starEach es X.env))) _ _ s
  refine Calls.spliced_cons (thn (ha pins s σ H _ I h) fun u s1 ⟨x,H1,I1,r1,q1⟩=>?_)
  exact thn (hr pos pins s1 σ H1 _ I1 q1) fun us s2 ⟨xs,H2,I2,r2,q2⟩=>⟨x::xs,H2,I2,.cons r1 r2,q2⟩
def tTup (t:TA):TE:=fun σ H Q=>t σ H fun xs H1=>xs.length<=sizeLine/\∀ p,H1 p=none->Q (.ref p) (upd H1 p (.tup xs))
def tLst (t:TA):TE:=fun σ H Q=>t σ H fun xs H1=>xs.length<=sizeLine/\∀ p,H1 p=none->Q (.ref p) (upd H1 p (.lst xs))
theorem qjr {x1} (h:PA X es t):PE X (.Tuple es x1 pos) (tTup t):=by
  intro pins s σ H Q I hq
  refine wpAny_Tuple_spliced (thn (h pos pins s σ H _ I hq) fun us s1 ⟨xs,H1,I1,r,z,q⟩=>⟨by rw [<- r.length];exact z,?_⟩)
  have hf:H1 s1.heap.objs.size=none:=I1.hok.fresh (qj _)
  refine ⟨.ref s1.heap.objs.size,upd H1 s1.heap.objs.size (.tup xs),I1.laid (t':=s1.toks) (fun b u e=>qc _ e) (qj _) ?_,rfl,q _ hf⟩
  exact ⟨z,us,r,⟨_,qx _ rfl,rfl,_,rfl⟩⟩
theorem qdd (h:PA X es t):PE X (.List es pos) (tLst t):=by
  intro pins s σ H Q I hq
  refine wpAny_List_spliced (thn (h pos pins s σ H _ I hq) fun us s1 ⟨xs,H1,I1,r,z,q⟩=>⟨by rw [<- r.length];exact z,?_⟩)
  have hf:H1 s1.heap.objs.size=none:=I1.hok.fresh (qj _)
  refine ⟨.ref s1.heap.objs.size,upd H1 s1.heap.objs.size (.lst xs),I1.laid (t':=s1.toks) (fun b u e=>qc _ e) (qj _) ?_,rfl,q _ hf⟩
  exact ⟨z,us,0,r,qx _ rfl⟩
end
abbrev Sp:=List V->Hp->VK->XK->Prop
abbrev CXT:=List Env->Hp->Shared->XK->Value->Shared->Prop
structure Env0 (P:Program) (w:World) (K:W.Frag) (mg:Str->Option Value) (base:Heap) (A:Around) (outer:List Env) (s:Shared) (H:Hp):Prop where
  frames:A.frames=some outer
  mod:Mod K mg base
  bs:∀ b o,base.get? b=some o->s.heap.get? b=some o/\H b=none
  bsz:base.objs.size<=s.heap.objs.size
  funs:s.heap.FunFrames base outer
  frf:∀ b∈frs outer,H b=none
  hok:HOk P w H s.heap
  bare:AllBare s.gens
def CE (outer:List Env) (P:Program) (w:World) (H:Hp) (s:Shared) (Q:VK) (u:Value) (s':Shared):Prop :=
  ∃ v H',s'.os=s.os/\AllBare s'.gens/\Un (frs outer) [] H H' s.heap s'.heap/\HOk P w H' s'.heap/\yP v u/\Q v H'
def CR (CX:CXT) (outer:List Env) (P:Program) (w:World) (H:Hp) (s:Shared) (Q:VK) (E:XK) (r:Result) (s':Shared):Prop :=
  match r with
  | .ok (.ret u)=>CE outer P w H s Q u s'
  | .ok _=>False
  | .error e=>CX outer H s E e s'
structure FnOk (P:Program) (w:World) (K:W.Frag) (mg:Str->Option Value) (base:Heap) (CX:CXT) (k:Nat) (f:Addr) (fd:FuncData) (ps:List Str) (sp:Sp):Prop where
  len:∀ vs H Q E,sp vs H Q E->vs.length=ps.length
  run:∀ (A:Around) (outer:List Env) (s:Shared) (H:Hp) (args:Args) (us:List Value) (vs:List V) (Q:VK) (E:XK),Room k A->Env0 P w K mg base A outer s H->BindsTo s fd args (ps.zip us)->yb vs us->sp vs H Q E →
    codeAny (model P w) A (.call (.ref f) args) (CR CX outer P w H s Q E) s
theorem FnOk.mono {P:Program}{w:World}{K:W.Frag}{mg:Str->Option Value}{base:Heap}{CX:CXT}{j k:Nat}{f:Addr}{fd:FuncData}{ps:List Str}{sp:Sp}(F:FnOk P w K mg base CX j f fd ps sp) (h:j<=k) :
    FnOk P w K mg base CX k f fd ps sp:=⟨F.len,fun A outer s H args us vs Q E hr=>F.run A outer s H args us vs Q E (hr.mono h)⟩
theorem FnOk.imp {P:Program}{w:World}{K:W.Frag}{mg:Str->Option Value}{base:Heap}{CX:CXT}{k:Nat}{f:Addr}{fd:FuncData}{ps:List Str}{sp sp':Sp}(F:FnOk P w K mg base CX k f fd ps sp)
    (h:∀ vs H Q E,sp' vs H Q E->sp vs H Q E):FnOk P w K mg base CX k f fd ps sp' :=
  ⟨fun vs H Q E q=>F.len vs H Q E (h _ _ _ _ q),fun A outer s H args us vs Q E hr he hb hv hs=>F.run A outer s H args us vs Q E hr he hb hv (h _ _ _ _ hs)⟩
theorem Env0.make {P:Program}{w:World}{K:W.Frag}{mg:Str->Option Value}{base:Heap}{A:Around}{outer:List Env}{s:Shared}{H:Hp}(e:Env0 P w K mg base A outer s H) (C:Addr) (us:List Value) (kw:List (Str×Value)) :
    Env0 P w K mg base (A.under (.builtin "type.__call__" ⟨.ref C::us,kw⟩)) outer s H:=⟨by first | exact e.frames | (simpa [Around.under,Code.envs,Code.isFrame,pushEnvs] using e.frames),e.mod,e.bs,e.bsz,e.funs,e.frf,e.hok,e.bare⟩
theorem Env0.in1 {P:Program}{w:World}{K:W.Frag}{mg:Str->Option Value}{base:Heap}{A:Around}{outer:List Env}{s:Shared}{H:Hp}(e:Env0 P w K mg base A outer s H) :
    Env0 P w K mg base A.in1 outer s H:=⟨e.frames,e.mod,e.bs,e.bsz,e.funs,e.frf,e.hok,e.bare⟩
section
variable {X:Cx}{pins:List (Addr×Obj)}{σ:St}{H:Hp}{s s':Shared}
theorem Inv.env0 (I:Inv X pins σ H s):Env0 X.prog X.w X.K X.mg X.base X.A X.stack s H :=
  ⟨I.ok.frames,I.ok.mod,I.bs,qu I.ok.bsz I.sz,I.stack,I.stkFree,I.hok,I.bare⟩
theorem Inv.after {Q:VK}{u:Value}(I:Inv X pins σ H s) (h:CE X.stack X.prog X.w H s Q u s'):EP X pins σ Q u s':=by
  obtain ⟨v,H',os,bare,un,hok,r,q⟩:=h
  obtain ⟨hh,g,d,t,os'⟩:=s'
  obtain rfl:os'=s.os:=os
  exact ⟨v,H',I.call (h':=hh) (g':=g) (d':=d) (t':=t) (ch:=[]) un hok bare (fun b z=>absurd z (by simp)),r,q⟩
end
def qiU (sp:Sp) (dvs:List V) (E:XK) (t:TA):TE:=fun σ H Q=>t σ H fun vs H1=>sp (vs++dvs) H1 Q E
def qiS (C:Addr) (m:Str) (sp:Sp) (dvs:List V) (E:XK) (ta:TE) (t:TA):TE:=fun σ H Q=>ta σ H fun x H1=>∃ a dx fs,x = .ref a/\H1 a=some (.ins C dx fs)/\fs.lookup m=none ∧
  t σ H1 fun vs H2=>sp (x::(vs++dvs)) H2 Q E
def tMake (C:Addr) (sp:Sp) (dvs:List V) (E:XK) (t:TA):TE:=fun σ H Q=>t σ H fun vs H1=>∀ x dx,H1 x=none->H1 dx=none->dx≠x →
  sp (.ref x::(vs++dvs)) (upd (upd H1 dx (.own x)) x (.ins C dx [])) (fun v H2=>v = .non/\Q (.ref x) H2) E
def JO (K:W.Frag) (fd:FuncData) (ps:List Str) (ds:List Value):Prop :=
  ∀ (s:Shared) (us:List Value),K.In s.heap->(us++ds).length=ps.length->BindsTo s fd ⟨us,[]⟩ (ps.zip (us++ds))
theorem JO.all {K:W.Frag}{fd:FuncData}{ps:List Str}(h:∀ us:List Value,us.length=ps.length->bindArgs fd ⟨us,[]⟩=pure (ps.zip us)):JO K fd ps []:=fun s us _ hl=>by
  rw [List.append_nil] at hl ⊢
  exact .of_eq (h us hl)
def Passes (CX:CXT) (X:Cx) (E:XK):Prop:=∀ (pins:List (Addr×Obj)) (σ:St) (H:Hp) (s:Shared) (e:Value) (s':Shared),Inv X pins σ H s->CX X.stack H s E e s'->X.xe e s'
section
variable {X:Cx}{CX:CXT}{k:Nat}{f C:Addr}{fd:FuncData}{ps:List Str}{sp:Sp}{dvs:List V}{ds:List Value}{E:XK}{x m:Str}{p pos apos:Pos}{e o:Expr}{es:List Expr}{ta:TE}{t:TA}
theorem qcV {pins:List (Addr×Obj)}{σ:St}{H:Hp}{s:Shared}{Q:VK}{us:List Value}{vs:List V}(F:FnOk X.prog X.w X.K X.mg X.base CX k f fd ps sp) (hr:Room k X.A) (hb:JO X.K fd ps ds) (hd:yb dvs ds) (hx:Passes CX X E)
    (I:Inv X pins σ H s) (r:yb vs us) (h:sp (vs++dvs) H Q E):wpAny (model X.prog X.w) X.A (call (.ref f) us) (EP X pins σ Q) X.xe s:=by
  have r2:yb (vs++dvs) (us++ds):=r.append hd
  have hl:(us++ds).length=ps.length:=by rw [<- r2.length];exact F.len _ _ _ _ h
  refine wpAny_call (codeAny_mono (F.run X.A X.stack s H ⟨us,[]⟩ (us++ds) (vs++dvs) Q E hr I.env0 (hb s us I.kIn hl) r2 h) fun r s' hq=>?_)
  cases r with
  | error e=>exact hx pins σ H s e s' I hq
  | ok fl =>
    cases fl with
    | ret u=>exact I.after hq
    | next=>exact False.elim hq
    | brk=>exact False.elim hq
    | cont=>exact False.elim hq
theorem qhz (F:FnOk X.prog X.w X.K X.mg X.base CX k f fd ps sp) (hr:Room k X.A) (hg:Gl X x) (hm:X.mg x=some (.ref f)) (hk:W.keepIn X.K (.ref f)=true) (hb:JO X.K fd ps ds) (hd:yb dvs ds) (hx:Passes CX X E)
    (ha:PA X (e::es) t) (hdb:(x == ("__debug__" : Str))=false:=by decide) (he:starEach (e::es) X.env=(false,eval e X.env)::starEach es X.env:=by rfl) (hpl:(backTo pos (starEach es X.env)).any (·.1)=false:=by rfl) :
    PE X (.Call (.Name x p) (e::es) [] pos) (qiU sp dvs E t):=by
  intro pins s σ H Q I h
  refine wpAny_Call_Name_kw (qdM I hg hm ?_ hdb)
  refine W.callWith_K (h₀:=X.base) I.ok.mod.kin hk (thn (ha pos pins s σ H _ I h) fun us s1 ⟨vs,H1,I1,r,q⟩=>⟨I1.kIn,?_⟩) he hpl
  exact qcV F hr hb hd hx I1 r q
theorem qhu {pl:Sem Bool}(he:PE X o ta) (c:Cls X.K C) (hm:Meth X.K C m f) (F:FnOk X.prog X.w X.K X.mg X.base CX k f fd ps sp) (hr:Room k X.A) (hb:JO X.K fd ps ds) (hd:yb dvs ds) (hx:Passes CX X E) (ha:PA X (e::es) t)
    (hst:starEach (e::es) X.env=(false,eval e X.env)::starEach es X.env:=by rfl) (hpl:(backTo pos (starEach es X.env)).any (·.1)=false:=by rfl)
    (ht:eval (.Call (.Attribute o m apos) (e::es) [] pos) X.env=(do
      let ov <- eval o X.env
      standAt apos.atName
      let (f,first) <- holding [ov] (getMethod ov m pl)
      callWith pos f first (backTo pos (starEach (e::es) X.env)) (backToKw pos (keywordEach [] X.env))):=by rfl) :
    PE X (.Call (.Attribute o m apos) (e::es) [] pos) (qiS C m sp dvs E ta t):=by
  intro pins s σ H Q I h
  refine W.methodCall_KW (pl:=pl) (thn (he pins s σ H _ I h) fun u s1 ⟨x,H1,I1,rx,a,dx,fs,ex,ea,l,q⟩=>?_) ht
  subst ex
  obtain rfl:u=Value.ref a:=rx
  refine Y3 I1 ea c hm l ?_
  refine W.callWith_K (first:=[.ref a]) (h₀:=X.base) I.ok.mod.kin hm.kp (thn (ha pos pins s1 σ H1 _ I1 q) fun us s2 ⟨vs,H2,I2,r,q2⟩=>⟨I2.kIn,?_⟩) hst hpl
  exact qcV (us:=.ref a::us) (vs:=.ref a::vs) F hr hb hd hx I2 (.cons rfl r) q2
theorem qfe {pl:Sem Bool}(he:PE X o ta) (c:Cls X.K C) (hm:Meth X.K C m f) (F:FnOk X.prog X.w X.K X.mg X.base CX k f fd ps sp) (hr:Room k X.A) (hb:JO X.K fd ps ds) (hd:yb dvs ds) (hx:Passes CX X E)
    (ht:eval (.Call (.Attribute o m apos) [] [] pos) X.env=(do
      let ov <- eval o X.env
      standAt apos.atName
      let (f,first) <- holding [ov] (getMethod ov m pl)
      callWith pos f first (backTo pos (starEach [] X.env)) (backToKw pos (keywordEach [] X.env))):=by rfl) :
    PE X (.Call (.Attribute o m apos) [] [] pos) (qiS C m sp dvs E ta tNil):=by
  intro pins s σ H Q I h
  refine W.methodCall_KW (pl:=pl) (thn (he pins s σ H _ I h) fun u s1 ⟨x,H1,I1,rx,a,dx,fs,ex,ea,l,q⟩=>?_) ht
  subst ex
  obtain rfl:u=Value.ref a:=rx
  refine Y3 I1 ea c hm l ?_
  exact W.callWith_K0 (first:=[.ref a]) I1.kIn hm.kp (qcV (us:=[.ref a]) (vs:=[.ref a]) F hr hb hd hx I1 (.cons rfl .nil) q)
structure Mk (K:W.Frag) (C f:Addr):Prop where
  makes:W.makesIn K C=true
  init:W.findIn K (.ref C) "__init__" = some (some (.ref f))
  fn:W.isFn K (.ref f)=true
  kp:W.keepIn K (.ref C)=true
theorem qeZ {pins:List (Addr×Obj)}{σ:St}{H:Hp}{s:Shared}{Q:VK}{us:List Value}{vs:List V}(M:Mk X.K C f) (F:FnOk X.prog X.w X.K X.mg X.base CX k f fd ps sp) (hr:Room (k+1) X.A) (hb:JO X.K fd ps ds) (hd:yb dvs ds)
    (hx:Passes CX X E) (I:Inv X pins σ H s) (r:yb vs us)
    (h:∀ x dx,H x=none->H dx=none->dx≠x->sp (.ref x::(vs++dvs)) (upd (upd H dx (.own x)) x (.ins C dx [])) (fun v H2=>v = .non/\Q (.ref x) H2) E) :
    wpAny (model X.prog X.w) X.A (call (.ref C) us) (EP X pins σ Q) X.xe s:=by
  have hq:=h (s.heap.objs.size+1) s.heap.objs.size (I.hok.fresh (Nat.le_succ _)) (I.hok.fresh (qj _)) (qk (yu _))
  have I2:=Inv.made (C:=C) I
  have r2:yb (V.ref (s.heap.objs.size+1)::(vs++dvs)) (Value.ref (s.heap.objs.size+1)::(us++ds)):=.cons rfl (r.append hd)
  have hl:(Value.ref (s.heap.objs.size+1)::us++ds).length=ps.length:=by
    have e:=r2.length
    rw [F.len _ _ _ _ hq] at e
    exact e.symm
  refine wpAny_call (qft (f:=f) I.kIn M.makes M.init (beq_iff_eq.mp M.fn) (codeAny_mono (F.run _ X.stack _ _ ⟨Value.ref (s.heap.objs.size+1)::us,[]⟩ (Value.ref (s.heap.objs.size+1)::(us++ds)) _ _ E (hr.make C us [])
    (I2.env0.make C us []) (hb _ (Value.ref (s.heap.objs.size+1)::us) I2.kIn hl) r2 hq) fun r s' hq'=>?_))
  cases r with
  | error e=>exact hx pins σ _ _ e s' I2 hq'
  | ok fl =>
    cases fl with
    | ret u =>
      obtain ⟨v,H',I3,rv,ev,q3⟩:=I2.after hq'
      subst ev
      exact ⟨rv,⟨V.ref (s.heap.objs.size+1),H',I3,rfl,q3⟩⟩
    | next=>exact False.elim hq'
    | brk=>exact False.elim hq'
    | cont=>exact False.elim hq'
theorem qhw (M:Mk X.K C f) (F:FnOk X.prog X.w X.K X.mg X.base CX k f fd ps sp) (hr:Room (k+1) X.A) (hg:Gl X x) (hm:X.mg x=some (.ref C)) (hb:JO X.K fd ps ds) (hd:yb dvs ds) (hx:Passes CX X E)
    (ha:PA X (e::es) t) (hdb:(x == ("__debug__" : Str))=false:=by decide) (he:starEach (e::es) X.env=(false,eval e X.env)::starEach es X.env:=by rfl) (hpl:(backTo pos (starEach es X.env)).any (·.1)=false:=by rfl) :
    PE X (.Call (.Name x p) (e::es) [] pos) (tMake C sp dvs E t):=by
  intro pins s σ H Q I h
  refine wpAny_Call_Name_kw (qdM I hg hm ?_ hdb)
  refine W.callWith_K (h₀:=X.base) I.ok.mod.kin M.kp (thn (ha pos pins s σ H _ I h) fun us s1 ⟨vs,H1,I1,r,q⟩=>⟨I1.kIn,?_⟩) he hpl
  exact qeZ M F hr hb hd hx I1 r q
end
section
variable {X:Cx}{CX:CXT}{k:Nat}{f C:Addr}{fd:FuncData}{ps ks:List Str}{sp:Sp}{E:XK}{x m:Str}{p pos apos kpos:Pos}{e o:Expr}{es:List Expr}{kws:List Keyword}{te ta:TE}{t tk:TA}{nm:Option Str}
structure KBinds (K:W.Frag) (fd:FuncData) (ps ks:List Str) (g:List Value->List Value->List Value) (gV:List V->List V->List V):Prop where
  to:∀ (s:Shared) (us ws:List Value),K.In s.heap->(g us ws).length=ps.length->BindsTo s fd ⟨us,ks.zip ws⟩ (ps.zip (g us ws))
  rel:∀ {vs:List V}{us:List Value}{zs:List V}{ws:List Value},yb vs us->yb zs ws->yb (gV vs zs) (g us ws)
variable {g:List Value->List Value->List Value}{gV:List V->List V->List V}
end
structure FnScope (N P:List Str) (sc:Scope):Prop where
  kind:sc.kind = .function
  co:sc.isCoroutine=false
  gen:sc.isGenerator=false
  nd:N.Nodup
  pre:N.take P.length=P
  par:∀ x∈P,sc.names.lookup x=some .local\/sc.names.lookup x=some .cell
  nofree:∀ y∈sc.names,y.2≠.free
theorem qak {kindOf:Str->Option NameKind}{x:Str}:∀ {binds:List (Str×Value)}{m:Str->Option Value},(∀ v,(x,v)∉binds)->bindL kindOf binds m x=m x
  | [],_,_=>rfl
  | (n,v)::r,m,h=>by
    unfold bindL
    rw [qak fun w hw=>h w (qe _ hw)]
    split
    · have:x≠n:=by rintro rfl;exact h v qg
      simp [this]
    · rfl
theorem qam {kindOf:Str->Option NameKind}{x:Str}:∀ {binds:List (Str×Value)}{m:Str->Option Value},(∀ v,(x,v)∉binds)->bindC kindOf binds m x=m x
  | [],_,_=>rfl
  | (n,v)::r,m,h=>by
    unfold bindC
    rw [qam fun w hw=>h w (qe _ hw)]
    split
    · rfl
    · have:x≠n:=by rintro rfl;exact h v qg
      simp [this]
theorem qal {kindOf:Str->Option NameKind}{x:Str}{v:Value}:∀ {P:List Str}{vs:List Value}{i:Nat}{m:Str->Option Value},P.Nodup->P[i]?=some x->vs[i]?=some v->kindOf x=some .local →
    bindL kindOf (P.zip vs) m x=some v
  | [],_,_,_,_,h,_,_=>by simp at h
  | _::_,[],_,_,_,_,h,_=>by simp at h
  | p::P,w::vs,0,m,nd,h1,h2,hk=>by
    simp at h1 h2;subst h1;subst h2
    show bindL kindOf ((p,w)::P.zip vs) m p=_
    unfold bindL
    rw [qak fun v hv=>(List.nodup_cons.mp nd).1 (List.of_mem_zip hv).1,if_pos hk]
    simp
  | p::P,w::vs,i+1,m,nd,h1,h2,hk=>by
    show bindL kindOf ((p,w)::P.zip vs) m x=_
    unfold bindL
    exact qal (i:=i) (List.nodup_cons.mp nd).2 (by simpa using h1) (by simpa using h2) hk
theorem qan {kindOf:Str->Option NameKind}{x:Str}{v:Value}:∀ {P:List Str}{vs:List Value}{i:Nat}{m:Str->Option Value},P.Nodup->P[i]?=some x->vs[i]?=some v->kindOf x≠some .local →
    bindC kindOf (P.zip vs) m x=some v
  | [],_,_,_,_,h,_,_=>by simp at h
  | _::_,[],_,_,_,_,h,_=>by simp at h
  | p::P,w::vs,0,m,nd,h1,h2,hk=>by
    simp at h1 h2;subst h1;subst h2
    show bindC kindOf ((p,w)::P.zip vs) m p=_
    unfold bindC
    rw [qam fun v hv=>(List.nodup_cons.mp nd).1 (List.of_mem_zip hv).1,if_neg hk]
    simp
  | p::P,w::vs,i+1,m,nd,h1,h2,hk=>by
    show bindC kindOf ((p,w)::P.zip vs) m x=_
    unfold bindC
    exact qan (i:=i) (List.nodup_cons.mp nd).2 (by simpa using h1) (by simpa using h2) hk
def Za (N:List Str) (vs:List V):St:=vs.map some++List.replicate (N.length - vs.length) none
def qeK (CX:CXT) (P:Program) (w:World) (K:W.Frag) (mg:Str->Option Value) (base:Heap) (N:List Str) (qual:Str) (scope:Scope) (f:Addr) (cd:Value) (A:Around) (outer:List Env) (s:Shared) (H:Hp) (E:XK):Cx where
  prog:=P
  w:=w
  K:=K
  mg:=mg
  base:=base
  A:=A.deeper (envOfC qual scope s.heap.objs.size f cd)
  N:=N
  s₀:=s
  H₀:=H
  env:=envOfC qual scope s.heap.objs.size f cd
  outer:=outer
  stack:=envOfC qual scope s.heap.objs.size f cd::outer
  ex:=[]
  calm:=true
  fn:=fun _=>true
  pn:=[]
  xe:=fun e s'=>wpAny (model P w) (A.deeper (envOfC qual scope s.heap.objs.size f cd)) (leaving (envOfC qual scope s.heap.objs.size f cd) e) (fun _ s''=>CX outer H s E e s'') (fun e' s''=>CX outer H s E e' s'') s'
theorem qbI {sc:Scope}{n:Nat}{x:Str}(h:sc.names.lookup x=some .cell):∃ c,(cellsFrom n sc.names []).lookup x=some c:=by
  have q:=W.cellsFrom_some sc.names n [] (.inl h)
  exact Option.isSome_iff_exists.mp q
theorem qdX {CX:CXT}{P:Program}{w:World}{K:W.Frag}{mg:Str->Option Value}{base:Heap}{N ps:List Str}{qual:Str}{scope:Scope}{f:Addr}{cd:Value}{A:Around}{outer:List Env}{s s1:Shared}{H:Hp}{E:XK}{us:List Value}{vs:List V}
    (S:FnScope N ps scope) (hd:A.handled=none) (e0:Env0 P w K mg base A outer s H) (hl:vs.length=ps.length) (r:yb vs us)
    (x:InCallC s s.heap.objs.size (bindL (envOfC qual scope s.heap.objs.size f cd).kindOf (ps.zip us) fun _=>none) (cellsFrom (s.heap.objs.size+1) scope.names []) (bindC (envOfC qual scope s.heap.objs.size f cd).kindOf (ps.zip us) fun _=>none) s1) :
    Inv (qeK CX P w K mg base N qual scope f cd A outer s H E) [] (Za N vs) H s1:=by
  have hpl:ps.length<=N.length:=by have:=congrArg List.length S.pre;rw [List.length_take] at this;omega
  obtain ⟨h1,tk,rfl,hk⟩:=x.done
  have noA:∀ b:Addr,b∉(qeK CX P w K mg base N qual scope f cd A outer s H E).ex:=fun b z=>absurd (show b∈([]:List Addr) from z) (by simp)
  refine ⟨⟨e0.mod,S.kind,rfl,rfl,qj _,fun y z c h1 h2=>?_,fun y hy=>?_,fun y c _ h=>?_,fun _=>hd,Around.frames_deeper e0.frames,.inr ⟨rfl,rfl⟩,fun b z=>absurd z (noA b),e0.bs,e0.bsz,fun b _ _=>noA b,fun b z=>absurd z (noA b),e0.funs,e0.frf⟩,
    rfl,e0.bare,Un.kept hk,⟨_,x.toInCall.ns,fun i y v h1 h2 h3=>?_⟩,fun y c h=>⟨_,x.cell y c h⟩,e0.hok.fresh (qj _),fun y c h=>?_,fun p hp=>absurd (show p∈([]:List (Addr×Obj)) from hp) (by simp),e0.hok.kept hk,?_⟩
  · exact name_of_addr x.apart (PySem.mem_of_lookup h1) (PySem.mem_of_lookup h2)
  · have hy:scope.names.lookup y=some .cell\/scope.names.lookup y=some .free:=hy
    rcases hy with hy | hy
    · exact qbI hy
    · exact absurd rfl (S.nofree _ (PySem.mem_of_lookup hy))
  · exact yf (x.above y c (PySem.mem_of_lookup h))
  · have hi:i<vs.length:=by
      unfold Za at h2
      by_cases hi:i<vs.length
      · exact hi
      · rw [qP (by simpa using hi)] at h2
        rw [jp] at h2
        split at h2 <;> cases h2
    have ha:vs[i]?=some v:=by
      unfold Za at h2
      rw [qJ (by simpa using hi),List.getElem?_map] at h2
      cases e:vs[i]? with
      | none=>rw [e] at h2;cases h2
      | some a=>rw [e] at h2;cases h2;rfl
    obtain ⟨u,hu,rv⟩:=r.get ha
    have hp:ps[i]?=some y:=by
      rw [<- S.pre,List.getElem?_take_of_lt (by omega)];exact h1
    have ndP:ps.Nodup:=by rw [<- S.pre];exact S.nd.sublist (List.take_sublist _ _)
    refine ⟨u,rv,?_⟩
    rcases S.par y (List.mem_of_getElem? hp) with k | k
    · exact .inl ⟨k,qal ndP hp hu k⟩
    · obtain ⟨c,e⟩:=qbI (n:=s.heap.objs.size+1) k
      refine .inr ⟨.inl k,c,e,?_⟩
      have q:=x.cell y c e
      rw [qan ndP hp hu (by show scope.names.lookup y≠_;rw [k];decide)] at q
      exact q
  · exact e0.hok.fresh (yf (x.above y c (PySem.mem_of_lookup h)))
  · unfold Za
    show _=N.length
    rw [List.length_append,List.length_map,List.length_replicate]
    omega
theorem qh8 {CX:CXT}{P:Program}{w:World}{K:W.Frag}{mg:Str->Option Value}{base:Heap}{k:Nat}{f:Addr}{name qual:Str}{params:Arguments}{body:List Stmt}{scope:Scope}{dV kV doc pm cdv ct oc:Value}{an od:Option Addr}
    {osl:Array (Option Value)}{N ps:List Str}{sp:Sp}(lk:K.lookup f=some ⟨oc,od,.func (W.fnOf name qual params body scope dV kV doc pm an cdv ct),osl⟩) (hcd:W.codeIn K cdv qual=true) (S:FnScope N ps scope)
    (len:∀ vs H Q E,sp vs H Q E->vs.length=ps.length)
    (hbody:∀ (A:Around) (outer:List Env) (s:Shared) (H:Hp) (vs:List V) (Q:VK) (E:XK),Room k (A.deeper (envOfC qual scope s.heap.objs.size f cdv))->sp vs H Q E →
      ∃ t,PSs (qeK CX P w K mg base N qual scope f cdv A outer s H E) body t/\t { nx:=fun _ H'=>Q .non H',rt:=Q } (Za N vs) H) :
    FnOk P w K mg base CX (k+1) f (W.fnOf name qual params body scope dV kV doc pm an cdv ct) ps sp:=by
  refine ⟨len,fun A outer s H args us vs Q E hr e0 hb r hsp=>?_⟩
  have hl:=len _ _ _ _ hsp
  have KX:K.In s.heap:=e0.mod.kin.keeps fun b o e=>(e0.bs b o e).1
  have lim:s.heap.NoLimit:=e0.mod.nolimit.keeps fun b o e=>(e0.bs b o e).1
  have hkind:∀ y∈ps.zip us,scope.names.lookup y.1=some .local\/(scope.names.lookup y.1=some .cell/\((cellsFrom (s.heap.objs.size+1) scope.names []).lookup y.1).isSome=true):=fun ⟨n,v⟩ hy=>by
    rcases S.par n (List.of_mem_zip hy).1 with q | q
    · exact .inl q
    · exact .inr ⟨q,W.cellsFrom_some _ _ _ (.inl q)⟩
  refine codeAny_call_function hr.depth (KX _ _ lk) rfl S.co S.gen rfl (W.codeRec_of KX hcd) (hb _ _ _ _ ?_)
  refine wpAny_newFunctionEnv_cells S.kind hkind fun env he s1 x=>?_
  subst he
  refine ⟨lim.keeps x.toInCall.keep,codeAny_func ?_⟩
  obtain ⟨t,ht,hq⟩:=hbody A outer s H vs Q E (hr.deeper _) hsp
  have I:Inv (qeK CX P w K mg base N qual scope f cdv A outer s H E) [] (Za N vs) H s1:=qdX S hr.hd e0 hl r x
  refine qF (ht [] s1 (Za N vs) H _ I hq) (fun fl s' hs=>?_) fun e s' hs=>hs
  have fin:∀ {σ':St}{H':Hp}{v:V}{u:Value},Inv (qeK CX P w K mg base N qual scope f cdv A outer s H E) [] σ' H' s'->yP v u->Q v H'->CE outer P w H s Q u s' :=
    fun {σ' H' v u} J rv q=>⟨v,H',J.os,J.bare,J.base,J.hok,rv,q⟩
  cases fl with
  | ret u =>
    obtain ⟨v,σ',H',J,rv,q⟩:=hs
    exact fin J rv q
  | next =>
    obtain ⟨σ',H',J,q⟩:=hs
    exact fin (v:=V.non) (u:=Value.none) J rfl q
  | brk =>
    obtain ⟨_,_,_,q⟩:=hs
    exact False.elim q
  | cont =>
    obtain ⟨_,_,_,q⟩:=hs
    exact False.elim q
section
variable {X:Cx}{x:Str}{p pos:Pos}{e:Expr}{es:List Expr}{t:TA}{id T:String}{r:List V->Hp->VK->Prop}
def tCB (r:List V->Hp->VK->Prop) (t:TA):TE:=fun σ H Q=>t σ H fun vs H1=>r vs H1 Q
theorem qbj (hc:yR X (.builtin id) r) (hg:Gl X x) (hm:X.mg x=none) (hv:bootBuiltins x=some (.builtin id)) (ha:PA X (e::es) t) (hn:x ≠ "__name__" := by decide) (hdb:(x == ("__debug__" : Str))=false:=by decide)
    (he:starEach (e::es) X.env=(false,eval e X.env)::starEach es X.env:=by rfl) (hpl:(backTo pos (starEach es X.env)).any (·.1)=false:=by rfl):PE X (.Call (.Name x p) (e::es) [] pos) (tCB r t):=by
  intro pins s σ H Q I h
  refine wpAny_Call_Name_kw (YZ I hg hm hv ?_ hn hdb)
  exact PyProof.Rows.callWith_builtin1 (thn (ha pos pins s σ H _ I h) fun us s1 ⟨vs,H1,I1,r1,q1⟩=>hc pins s1 σ H1 vs us Q I1 r1 q1) he hpl
theorem qde (hc:yR X (.type T) r) (hg:Gl X x) (hm:X.mg x=none) (hv:bootBuiltins x=some (.type T)) (ha:PA X (e::es) t) (hn:x ≠ "__name__" := by decide) (hdb:(x == ("__debug__" : Str))=false:=by decide)
    (he:starEach (e::es) X.env=(false,eval e X.env)::starEach es X.env:=by rfl) (hpl:(backTo pos (starEach es X.env)).any (·.1)=false:=by rfl):PE X (.Call (.Name x p) (e::es) [] pos) (tCB r t):=by
  intro pins s σ H Q I h
  refine wpAny_Call_Name_kw (YZ I hg hm hv ?_ hn hdb)
  exact PyProof.Rows.callWith_type1 (thn (ha pos pins s σ H _ I h) fun us s1 ⟨vs,H1,I1,r1,q1⟩=>hc pins s1 σ H1 vs us Q I1 r1 q1) he hpl
end
end L2
namespace HT
open PySem PyProof.Rows
section
open PySem.SeqAt
open PySem.AutoSeq1 (wpAny_loadPart')
open PySem.MeetsSeq PySem.MeetsSeq2 PySem.MeetsSeq3
end
section
variable {prog:Program}{w:World}{A:Around}{E:Value->Shared->Prop}{s:Shared}
def sIx (n d:Nat):Option Int->Nat
  | none=>d
  | some v=>if v<0 then (v+(n:Int)).toNat else min v.toNat n
end
end HT
namespace L2
open PySem PySem.Spec PyProof.Rows
abbrev TO:=St->Hp->(Option Int->Hp->Prop)->Prop
def PO (X:Cx) (e:Option Expr) (t:TO):Prop :=
  ∀ (pins:List (Addr×Obj)) (s:Shared) (σ:St) (H:Hp) (Q:Option Int->Hp->Prop),Inv X pins σ H s->t σ H Q →
    wpAny (model X.prog X.w) X.A (evalPart e X.env) (fun u s'=>∃ o H',Inv X pins σ H' s'/\IsPart u o/\Q o H') X.xe s
def qg3:TO:=fun _ H Q=>Q none H
def tPart (t:TE):TO:=fun σ H Q=>t σ H fun x H1=>∃ i,x = .int i/\Q (some i) H1
theorem qb7 {ns:List Int}:∀ {us:List Value},yb (ns.map V.int) us->IntsAre us ns:=by
  induction ns with
  | nil=>intro us r;rw [List.map_nil] at r;cases r;exact .nil
  | cons n ns ih =>
    intro us r
    rw [List.map_cons] at r
    cases r with
    | cons r1 r2 =>
      obtain ⟨t,e⟩:=r1
      subst e
      exact .cons n t (ih r2)
section
variable {X:Cx}{e:Expr}{te:TE}{lo hi:Option Expr}{tl th:TO}{pos p2:Pos}
theorem qhp:PO X none qg3:=by
  intro pins s σ H Q I h
  rw [evalPart_none]
  exact qd ⟨none,H,I,.none,h⟩
theorem qho (h:PE X e te):PO X (some e) (tPart te):=by
  intro pins s σ H Q I hw
  rw [evalPart_some]
  refine thn (h pins s σ H _ I hw) fun u s1 hq9=>?_
  obtain ⟨x,H1,I1,r1,q1⟩:=hq9
  obtain ⟨i,rfl,q⟩:=q1
  obtain ⟨t,rfl⟩:=r1
  exact ⟨some i,H1,I1,.int i t,q⟩
def SlR (X:Cx) (r:V->Option Int->Option Int->Hp->VK->Prop):Prop :=
  ∀ (pins:List (Addr×Obj)) (s:Shared) (σ:St) (H:Hp) (x:V) (v vl vu:Value) (lo hi:Option Int) (sl:Addr) (Q:VK),Inv X pins σ H s->yP x v->s.heap.IsSliceOf sl vl vu .none->IsPart vl lo->IsPart vu hi->r x lo hi H Q →
    ∃ T id,typeLookup (.type T) "__getitem__" = pure (some (.builtin id))/\s.TypeIs v T/\wpAny (model X.prog X.w) X.A (getItem v (.ref sl)) (EP X pins σ Q) X.xe s
theorem SlR.or {r r':V->Option Int->Option Int->Hp->VK->Prop}(h:SlR X r) (h':SlR X r'):SlR X (fun x lo hi H Q=>r x lo hi H Q\/r' x lo hi H Q):=by
  intro pins s σ H x v vl vu lo hi sl Q I rx hs pl pu q
  rcases q with q | q
  · exact h pins s σ H x v vl vu lo hi sl Q I rx hs pl pu q
  · exact h' pins s σ H x v vl vu lo hi sl Q I rx hs pl pu q
def tSl (r:V->Option Int->Option Int->Hp->VK->Prop) (te:TE) (tl th:TO):TE:=fun σ H Q=>te σ H fun x H1=>tl σ H1 fun l H2=>th σ H2 fun u H3=>r x l u H3 Q
theorem qfd {r:V->Option Int->Option Int->Hp->VK->Prop}(hr:SlR X r) (he:PE X e te) (hl:PO X lo tl) (hu:PO X hi th):PE X (.Subscript e (.Slice lo hi none p2) pos) (tSl r te tl th):=by
  intro pins s σ H Q I h
  refine Subscript_ (thn (he pins s σ H _ I h) fun v s1 ⟨x,H1,I1,r1,q1⟩=>?_)
  refine wpAny_Slice (thn (hl pins s1 σ H1 _ I1 q1) fun vl s2 ⟨l,H2,I2,pl,q2⟩=>thn (hu pins s2 σ H2 _ I2 q2) fun vu s3 ⟨u,H3,I3,pu,q3⟩=>?_)
  rw [evalPart_none]
  refine qd ?_
  have I4:Inv X pins σ H3 { s3 with heap:=s3.heap.push { cls:=.type "slice",data:=.fields #[vl,vu,.none] } }:=I3.kept (t':=s3.toks) fun b ob q=>qc _ q
  obtain ⟨T,id,hT,ht,hg⟩:=hr pins { s3 with heap:=s3.heap.push { cls:=.type "slice",data:=.fields #[vl,vu,.none] } } σ H3 x v vl vu l u s3.heap.objs.size Q I4 r1 (Heap.IsSliceOf.new ..) pl pu q3
  show wpAny (model X.prog X.w) X.A (subscriptTail e (.Slice lo hi none p2) v (.ref s3.heap.objs.size)) (EP X pins σ Q) X.xe { s3 with heap:=s3.heap.push { cls:=.type "slice",data:=.fields #[vl,vu,.none] } }
  exact tail_any (ops:=[.ref s3.heap.objs.size,v]) ht hT hg (by with_unfolding_all rfl)
def qim (xs:List V) (lo hi:Option Int):List V:=(xs.drop (HT.sIx xs.length 0 lo)).take (HT.sIx xs.length xs.length hi - HT.sIx xs.length 0 lo)
theorem qaS (xs:List V) (lo hi:Option Int):(qim xs lo hi).length<=xs.length:=by
  unfold qim
  rw [List.length_take,List.length_drop]
  omega
end
def ixN (n:Nat) (i:Int):Option Nat:=if 0<=i then (if i<n then some i.toNat else none) else if -(n:Int)<=i then some (i+n).toNat else none
def atI {α:Type}(xs:List α) (i:Int):Option α:=(ixN xs.length i).bind fun j=>xs[j]?
theorem qdV {n:Nat}{i:Int}{j:Nat}(h:ixN n i=some j):seqIndex? i n=some j/\j<n/\-(n:Int)<=i/\i<n:=by
  unfold ixN at h
  by_cases h0:0<=i
  · rw [if_pos h0] at h
    by_cases h1:i<n
    · rw [if_pos h1] at h
      have e:i.toNat=j:=Option.some.inj h
      exact ⟨by rw [seqIndex_of h0 h1,e],by omega,by omega,h1⟩
    · rw [if_neg h1] at h;cases h
  · rw [if_neg h0] at h
    by_cases h1:-(n:Int)<=i
    · rw [if_pos h1] at h
      have e:(i+n).toNat=j:=Option.some.inj h
      exact ⟨by rw [seqIndex_neg (by omega) h1,e],by omega,h1,by omega⟩
    · rw [if_neg h1] at h;cases h
theorem qeA {α:Type}{xs:List α}{i:Int}{v:α}(h:atI xs i=some v):∃ j,seqIndex? i xs.length=some j/\xs[j]?=some v/\j<xs.length/\-(xs.length:Int)<=i/\i<xs.length:=by
  unfold atI at h
  cases e:ixN xs.length i with
  | none=>rw [e] at h;cases h
  | some j =>
    rw [e] at h
    obtain ⟨h1,h2,h3,h4⟩:=qdV e
    exact ⟨j,h1,h,h2,h3,h4⟩
theorem JM {α:Type}{xs:List α}{j:Nat}{v:α}(h:xs[j]?=some v):atI xs (j:Int)=some v:=by
  have hj:j<xs.length:=(ql.mp h).1
  have e:ixN xs.length (j:Int)=some j:=by
    unfold ixN
    rw [if_pos (by omega),if_pos (by omega)];simp
  unfold atI;rw [e];exact h
def qeF (b:Expr):Prop:=∀ o i,subscripted b false o i=operate [o,i] (getItem o i)
def IxR (X:Cx) (r:R2):Prop :=
  ∀ (value slice:Expr) (pins:List (Addr×Obj)) (s:Shared) (σ:St) (H:Hp) (x y:V) (v u:Value) (Q:VK),Inv X pins σ H s->yP x v->yP y u->r x y H Q →
    subscripted slice false v u=operate [v,u] (getItem v u)->wpAny (model X.prog X.w) X.A (subscriptTail value slice v u) (EP X pins σ Q) X.xe s
def MtR (X:Cx) (id:String) (r:V->List V->Hp->VK->Prop):Prop :=
  ∀ (pins:List (Addr×Obj)) (s:Shared) (σ:St) (H:Hp) (x:V) (xs:List V) (v:Value) (us:List Value) (Q:VK),Inv X pins σ H s->yP x v->yb xs us->r x xs H Q →
    wpAny (model X.prog X.w) X.A (call (.builtin id) (v::us)) (EP X pins σ Q) X.xe s
section
variable {X:Cx}{a b:Expr}{ta tb:TE}{pos:Pos}
theorem IxR.or {r r':R2}(h:IxR X r) (h':IxR X r'):IxR X (fun x y H Q=>r x y H Q\/r' x y H Q):=by
  intro value slice pins s σ H x y v u Q I rx ry q hs
  rcases q with q | q
  · exact h value slice pins s σ H x y v u Q I rx ry q hs
  · exact h' value slice pins s σ H x y v u Q I rx ry q hs
theorem MtR.or {id:String}{r r':V->List V->Hp->VK->Prop}(h:MtR X id r) (h':MtR X id r'):MtR X id (fun x xs H Q=>r x xs H Q\/r' x xs H Q):=by
  intro pins s σ H x xs v us Q I rx rs q
  rcases q with q | q
  · exact h pins s σ H x xs v us Q I rx rs q
  · exact h' pins s σ H x xs v us Q I rx rs q
theorem qbZ {r:R2}(hr:IxR X r) (ha:PE X a ta) (hb:PE X b tb) (hs:qeF b):PE X (.Subscript a b pos) (tOp r ta tb):=by
  intro pins s σ H Q I h
  exact Subscript_ (binT ha hb I h fun v u s2 x y H2 I2 rx ry q=>hr a b pins s2 σ H2 x y v u Q I2 rx ry q (hs _ _))
def rIxL (K:W.Frag):R2:=fun x y H Q=>∃ p xs i v,x = .ref p/\y = .int i/\SqL K H p xs/\atI xs i=some v/\Q v H
def rIxT (K:W.Frag):R2:=fun x y H Q=>∃ p xs i v,x = .ref p/\y = .int i/\SqT K H p xs/\atI xs i=some v/\Q v H
theorem Ji:IxR X (rIxL X.K):=by
  intro value slice pins s σ H x y v u Q I rx ry h hs
  obtain ⟨p,xs,i,z,rfl,rfl,hq,he,q⟩:=h
  cases rx
  obtain ⟨t,rfl⟩:=ry
  obtain ⟨its,r,pl,hz⟩:=I.list hq
  obtain ⟨j,h1,h2,h3,h4,h5⟩:=qeA he
  obtain ⟨w,ew,rw'⟩:=r.get h2
  have hl:=r.length
  have hn:=qbq
  have fin:EP X pins σ Q w s:=⟨z,H,I,rw',q⟩
  by_cases h0:0<=i
  · have hj:i.toNat=j:=by
      rw [seqIndex_of h0 h5] at h1
      exact Option.some.inj h1
    exact item_listR pl.isList h0 (by omega) (by rw [hj];simpa using ew) fin hs
  · have hj:(i+(its.toArray.size:Int)).toNat=j:=by
      rw [seqIndex_neg (by omega) h4] at h1
      rw [List.size_toArray,<- hl]
      exact Option.some.inj h1
    exact subscriptTail_builtinR (x:=w) pl.isList.typeIs slot_list_getitem.lookup
      (wpAny_getItem_list_neg (Q:=fun r s'=>r=w/\EP X pins σ Q r s') pl.isList (by omega) (by rw [List.size_toArray] <;> omega) (by omega) (by rw [hj];simpa using ew) ⟨rfl,fin⟩) hs
theorem qjZ:IxR X (rIxT X.K):=by
  intro value slice pins s σ H x y v u Q I rx ry h hs
  obtain ⟨p,xs,i,z,rfl,rfl,hq,he,q⟩:=h
  cases rx
  obtain ⟨t,rfl⟩:=ry
  obtain ⟨its,r,pl,hz⟩:=I.tuple hq
  obtain ⟨j,h1,h2,h3,h4,h5⟩:=qeA he
  obtain ⟨w,ew,rw'⟩:=r.get h2
  have hl:=r.length
  have hn:=qbq
  have fin:EP X pins σ Q w s:=⟨z,H,I,rw',q⟩
  exact subscriptTail_builtinR (x:=w) pl.typeIs slot_tuple_getitem.lookup
    (getItem_tuple (j:=j) (Q:=fun r s'=>r=w/\EP X pins σ Q r s') pl (by omega) (by omega) (by rw [List.size_toArray,<- hl];exact h1) (by simpa using ew) ⟨rfl,fin⟩) hs
theorem qb3 (its:List Value) (n j:Nat) (u:Value):Obj.mapSeq (·.setIfInBounds j u) { cls:=.type "list",data:=.seq its.toArray n }={ cls:=.type "list",data:=.seq (its.set j u).toArray n }:=by
  simp [Obj.mapSeq]
theorem Inv.lst {pins:List (Addr×Obj)}{σ:St}{H:Hp}{s:Shared}{p:Addr}{xs:List V}(I:Inv X pins σ H s) (h:H p=some (.lst xs)) :
    ∃ (its:List Value) (n:Nat),yb xs its/\s.heap.get? p=some { cls:=.type "list",data:=.seq its.toArray n }/\xs.length<=sizeLine:=by
  obtain ⟨z,its,n,r,e⟩:=I.hok p _ h
  exact ⟨its,n,r,e,z⟩
theorem Inv.lstUpd {pins:List (Addr×Obj)}{σ:St}{H:Hp}{s:Shared}{p:Addr}{xs ys:List V}{its its':List Value}{n n':Nat}{f:Obj->Obj}(I:Inv X pins σ H s) (h:H p=some (.lst xs))
    (ho:s.heap.get? p=some { cls:=.type "list",data:=.seq its.toArray n }) (hf:f { cls:=.type "list",data:=.seq its.toArray n }={ cls:=.type "list",data:=.seq its'.toArray n' }) (r:yb ys its') (hz:ys.length<=sizeLine) (t:Nat) :
    Inv X pins σ (upd H p (.lst ys)) { s with heap:=s.heap.update p f,toks:=t }:=by
  have e:(s.heap.update p f).get? p=some { cls:=.type "list",data:=.seq its'.toArray n' }:=by
    rw [yA f ho (by rw [hf] <;> rfl),hf]
  refine I.write (x:=p) (e:=p) (by rw [h];trivial) (.inl rfl) (fun b u hb q=>(qT _ _ (Ne.symm hb)).trans q) ⟨_,e⟩ ?_
  exact ⟨hz,its',n',r,e⟩
def rSetL:V->V->V->Hp->(Hp->Prop)->Prop:=fun o i v H Q=>∃ p xs k j,o = .ref p/\i = .int k/\H p=some (.lst xs)/\ixN xs.length k=some j/\Q (upd H p (.lst (xs.set j v)))
theorem Zd:PSet X rSetL:=by
  intro pins s σ H o i v ov iv u Q I ro ri rv h
  obtain ⟨p,xs,k,j,rfl,rfl,hp,hj,q⟩:=h
  cases ro
  obtain ⟨t,rfl⟩:=ri
  obtain ⟨its,n,r,ho,hz⟩:=I.lst hp
  obtain ⟨h1,h2,h3,h4⟩:=qdV hj
  have hl:=r.length
  have hn:=qbq
  have I':Inv X pins σ (upd H p (.lst (xs.set j v))) { s with heap:=s.heap.update p (Obj.mapSeq (·.setIfInBounds j u)) } :=
    I.lstUpd hp ho (qb3 its n j u) (r.set rv j) (by rw [List.length_set];exact hz) s.toks
  by_cases h0:0<=k
  · have hk:k.toNat=j:=by
      rw [seqIndex_of h0 h4] at h1
      exact Option.some.inj h1
    exact W.ki_setAt ho h0 (by omega) (by rw [List.size_toArray,<- hl];exact h4) (by rw [hk];exact ⟨_,I',q⟩)
  · have hk:(k+(its.toArray.size:Int)).toNat=j:=by
      rw [seqIndex_neg (by omega) h3] at h1
      rw [List.size_toArray,<- hl]
      exact Option.some.inj h1
    exact W.ki_setBack ho (by omega) (by rw [List.size_toArray,<- hl];exact h3) (by omega) (by rw [hk];exact ⟨_,I',q⟩)
theorem ZN (lo hi:Option Int) (n:Nat):(sliceBounds lo hi none n).1=((HT.sIx n 0 lo:Nat):Int)/\(sliceBounds lo hi none n).2.1=((HT.sIx n n hi:Nat):Int)/\(sliceBounds lo hi none n).2.2=1:=by
  refine ⟨?_,?_,rfl⟩
  · cases lo with
    | none=>simp [sliceBounds,HT.sIx]
    | some i =>
      simp only [sliceBounds,HT.sIx,Option.getD_none,show (1:Int) > 0 by decide,if_true]
      by_cases h:i<0
      · simp only [h,if_true] <;> omega
      · simp only [h,if_false] <;> omega
  · cases hi with
    | none=>simp [sliceBounds,HT.sIx]
    | some i =>
      simp only [sliceBounds,HT.sIx,Option.getD_none,show (1:Int) > 0 by decide,if_true]
      by_cases h:i<0
      · simp only [h,if_true] <;> omega
      · simp only [h,if_false] <;> omega
theorem Zc (its:List Value) (lo hi:Option Int):slicePick its.toArray lo hi none=((its.drop (HT.sIx its.length 0 lo)).take (HT.sIx its.length its.length hi - HT.sIx its.length 0 lo)).toArray:=by
  obtain ⟨h1,h2,h3⟩:=ZN lo hi its.toArray.size
  unfold slicePick
  rw [h1,h2,h3]
  simp only [sliceRange_one,pick_run,List.size_toArray] <;> rfl
def rSlL (K:W.Frag):V->Option Int->Option Int->Hp->VK->Prop:=fun x lo hi H Q=>∃ a xs,x = .ref a/\SqL K H a xs/\∀ p,H p=none->Q (.ref p) (upd H p (.lst (qim xs lo hi)))
theorem qg7:SlR X (rSlL X.K):=by
  intro pins s σ H x v vl vu lo hi sl Q I rx hs pl pu h
  obtain ⟨a,xs,rfl,hx,q⟩:=h
  cases rx
  obtain ⟨its,r,ht,hz⟩:=I.list hx
  have hlen:=r.length
  refine ⟨"list",_,slot_list_getitem.lookup,ht.isList.typeIs,?_⟩
  refine wpAny_getItem_list_slice ht.isList hs pl pu .none (by simp) ?_ (by rw [List.size_toArray] <;> omega)
  rw [Zc,<- hlen]
  refine ⟨.ref s.heap.objs.size,_,I.laid (t':=s.toks) (o:=.lst (qim xs lo hi)) (fun b ob q=>qc _ q) (qj _) ?_,rfl,q _ (I.hok.fresh (qj _))⟩
  exact ⟨qu (qaS xs lo hi) hz,_,0,(r.drop (HT.sIx xs.length 0 lo)).take (HT.sIx xs.length xs.length hi - HT.sIx xs.length 0 lo),qx _ rfl⟩
theorem qaj:yR X (.builtin "len") (fun xs H Q=>∃ p ys,xs=[.ref p]/\(SqL X.K H p ys\/SqT X.K H p ys)/\Q (.int ys.length) H):=by
  intro pins s σ H xs us Q I r h
  obtain ⟨p,ys,rfl,hq,q⟩:=h
  obtain ⟨u,rfl,rx⟩:=Y8 r
  cases rx
  have hn:=qbq
  rcases hq with hq | hq
  · obtain ⟨its,r',pl,hz⟩:=I.list hq
    have hlen:=r'.length
    exact Calls.call_len_list pl.isList (by simp only [List.size_toArray] <;> omega) ⟨.int ys.length,H,I.tok _,⟨s.toks+1,by rw [List.size_toArray,hlen]⟩,q⟩
  · obtain ⟨its,r',pl,hz⟩:=I.tuple hq
    have hlen:=r'.length
    exact len_tuple pl (by simp only [List.size_toArray] <;> omega) ⟨.int ys.length,H,I.tok _,⟨s.toks+1,by rw [List.size_toArray,hlen]⟩,q⟩
theorem yR.or {f:Value}{r r':List V->Hp->VK->Prop}(h:yR X f r) (h':yR X f r'):yR X f (fun xs H Q=>r xs H Q\/r' xs H Q):=by
  intro pins s σ H xs us Q I rs q
  rcases q with q | q
  · exact h pins s σ H xs us Q I rs q
  · exact h' pins s σ H xs us Q I rs q
theorem qai:yR X (.type "list") (fun xs H Q=>∃ p ys,xs=[.ref p]/\(SqL X.K H p ys\/SqT X.K H p ys)/\∀ l,H l=none->Q (.ref l) (upd H l (.lst ys))):=by
  intro pins s σ H xs us Q I r h
  obtain ⟨p,ys,rfl,hq,q⟩:=h
  obtain ⟨u,rfl,rx⟩:=Y8 r
  cases rx
  have fin:∀ (its:List Value),yb ys its->ys.length<=sizeLine->∀ (h':Heap) (c':Nat),(∀ b o',s.heap.get? b=some o'->h'.get? b=some o') →
      h'.get? s.heap.objs.size=some { cls:=.type "list",dict:=none,data:=.seq its.toArray c',slots:=#[] }->EP X pins σ Q (.ref s.heap.objs.size) { s with heap:=h' }:=fun its r' hz h' c' kp e =>
    ⟨.ref s.heap.objs.size,_,I.laid (t':=s.toks) kp (qj _) (show jn X.prog X.w _ h' _ (.lst ys) from ⟨hz,its,c',r',e⟩),rfl,q _ (I.hok.fresh (qj _))⟩
  rcases hq with hq | hq
  · obtain ⟨its,r',pl,hz⟩:=I.list hq
    have hlen:=r'.length
    obtain ⟨o,ho,hc,n,hd⟩:=pl.isList
    exact call_list_seq p (.inl rfl) ho hc hd (fun h' c' kp e=>fin its r' hz h' c' kp e) (by simp only [List.size_toArray] <;> omega)
  · obtain ⟨its,r',pl,hz⟩:=I.tuple hq
    have hlen:=r'.length
    obtain ⟨o,ho,hc,n,hd⟩:=pl
    exact call_list_seq p (.inr rfl) ho hc hd (fun h' c' kp e=>fin its r' hz h' c' kp e) (by simp only [List.size_toArray] <;> omega)
def tyV (K:W.Frag) (T:String) (x:V) (H:Hp):Prop:=match x with
  | .str _=>T = "str"
  | .int _=>T = "int"
  | .ref p=>(T = "list" /\ ∃ xs,SqL K H p xs)\/(T = "tuple" /\ ∃ o,K.lookup p=some o/\o.cls = .type "tuple" /\ o.dict=none) ∨
      (T = "dict" /\ ((∃ kvs,H p=some (.dK kvs))\/∃ kvs,H p=some (.dT kvs)))\/(T = "set" /\ ∃ S n,H p=some (.set S n))
  | _=>False
theorem qiN {pins:List (Addr×Obj)}{σ:St}{H:Hp}{s:Shared}{T:String}{x:V}{v:Value}(I:Inv X pins σ H s) (r:yP x v) (ty:tyV X.K T x H) :
    s.TypeIs v T/\∀ a,v = .ref a->∃ ob,s.heap.get? a=some ob/\ob.dict=none:=by
  cases x with
  | str z =>
    obtain ⟨t,rfl⟩:=r
    cases (show T = "str" from ty)
    exact ⟨typeIs_str s z t,fun _ e=>nomatch e⟩
  | int i =>
    obtain ⟨t,rfl⟩:=r
    cases (show T = "int" from ty)
    exact ⟨typeIs_int s i t,fun _ e=>nomatch e⟩
  | ref p =>
    cases r
    rcases ty with ⟨rfl,xs,hq⟩ | ⟨rfl,o,hk,hc,hd⟩ | ⟨rfl,hk⟩ | ⟨rfl,S,n,hk⟩
    · obtain ⟨its,_,pl,_⟩:=I.list hq
      refine ⟨pl.isList.typeIs,fun a e=>?_⟩
      cases e
      obtain ⟨o,n,e,c,hd,_⟩:=pl
      exact ⟨o,e,hd⟩
    · refine ⟨⟨o,I.kIn p o hk,hc⟩,fun a e=>?_⟩
      cases e
      exact ⟨o,I.kIn _ o hk,hd⟩
    · have z:∃ o,s.heap.get? p=some o/\o.ExactDict:=by
        rcases hk with ⟨kvs,hk⟩ | ⟨kvs,hk⟩
        · obtain ⟨_,_,_,_,o,_,_,e,ex,_⟩:=I.hok p _ hk
          exact ⟨o,e,ex⟩
        · obtain ⟨_,_,_,_,o,_,_,e,ex,_⟩:=I.hok p _ hk
          exact ⟨o,e,ex⟩
      obtain ⟨o,e,ex⟩:=z
      refine ⟨⟨o,e,ex.1⟩,fun a e2=>?_⟩
      cases e2
      exact ⟨o,e,ex.2.1⟩
    · obtain ⟨o,_,_,_,e,ex,_⟩:=I.hok p _ hk
      refine ⟨⟨o,e,ex.1⟩,fun a e2=>?_⟩
      cases e2
      exact ⟨o,e,ex.2.1⟩
  | _=>exact False.elim ty
def tBM (K:W.Frag) (T:String) (r:V->List V->Hp->VK->Prop) (to:TE) (t:TA):TE:=fun σ H Q=>to σ H fun x H1=>tyV K T x H1/\t σ H1 fun xs H2=>r x xs H2 Q
variable {o e:Expr}{es:List Expr}{to:TE}{t:TA}{name:Str}{apos cpos:Pos}{T id:String}{r:V->List V->Hp->VK->Prop}
theorem qb0 (pa:PlainAttrs T) (slot:Slot T name id) (hty:typeOf (.builtin id)=pure (.type "method_descriptor")) (hm:MtR X id r) (ho:PE X o to) (ha:PA X (e::es) t)
    (hbase:attributeBase o name X.env (eval o X.env)=eval o X.env:=by rfl)
    (hfew:((backTo cpos (starEach (e::es) X.env)).all (fun x=>!x.1) && (backToKw cpos (keywordEach [] X.env)).all (fun x=>x.1.isSome)
      && decide ((e::es).length+([]:List Keyword).length+(if ([]:List Keyword).isEmpty then 0 else 1)<30))=true:=by rfl)
    (hline:(apos.endLine == cpos.line)=true:=by rfl) (hs:starEach (e::es) X.env=(false,eval e X.env)::starEach es X.env:=by rfl) (hplain:(backTo cpos (starEach es X.env)).any (·.1)=false:=by rfl) :
    PE X (.Call (.Attribute o name apos) (e::es) [] cpos) (tBM X.K T r to t):=by
  intro pins s σ H Q I h
  refine wpAny_Call_method_late hbase hfew hline rfl (thn (ho pins s σ H _ I h) fun v s1 ⟨x,H1,I1,r1,ty,q1⟩=>?_)
  obtain ⟨h1,h2⟩:=qiN I1 r1 ty
  refine ⟨T,id,pa,slot,hty,h1,h2,?_⟩
  have hA:=ha cpos pins s1 σ H1 _ I1 q1
  rw [hs] at hA ⊢
  refine Calls.callWith_builtin (by show (false || (backTo cpos (starEach es X.env)).any (·.1))=false;rw [hplain] <;> rfl) (Calls.evalArgs_plain ?_)
  exact thn hA fun us s2 ⟨vs,H2,I2,r2,q2⟩=>hm pins s2 σ H2 x vs v us Q I2 r1 r2 q2
end
def MtM (X:Cx) (id:String) (r:V->List V->Hp->VK->Prop):Prop :=
  ∀ (pins:List (Addr×Obj)) (s:Shared) (σ:St) (H:Hp) (x:V) (xs:List V) (v:Value) (us:List Value) (Q:VK),Inv X pins σ H s->yP x v->yb xs us->r x xs H Q →
    wpAny (model X.prog X.w) X.A (call (.builtin id) (v::us)) (EP X pins σ Q) X.xe s
theorem yb.one:∀ {x:V}{us:List Value},yb [x] us->∃ u,us=[u]/\yP x u
  | _,_,.cons r .nil=>⟨_,rfl,r⟩
theorem yb.two:∀ {x y:V}{us:List Value},yb [x,y] us->∃ u v,us=[u,v]/\yP x u/\yP y v
  | _,_,_,.cons r (.cons q .nil)=>⟨_,_,rfl,r,q⟩
theorem yb.zero:∀ {us:List Value},yb [] us->us=[]
  | _,.nil=>rfl
theorem yb.eraseIdx:∀ {xs:List V}{us:List Value}(i:Nat),yb xs us->yb (xs.eraseIdx i) (us.eraseIdx i)
  | _,_,_,.nil=>.nil
  | _,_,0,.cons _ t=>t
  | _,_,i+1,.cons r t=>.cons r (yb.eraseIdx i t)
theorem yb.reverse {xs:List V}{us:List Value}(h:yb xs us):yb xs.reverse us.reverse:=by
  induction h with
  | nil=>exact .nil
  | cons r t ih=>rw [List.reverse_cons,List.reverse_cons];exact yb.append ih (.cons r .nil)
section
variable {X:Cx}{pins:List (Addr×Obj)}{σ:St}{H:Hp}{s:Shared}{l b:Addr}{xs ys zs:List V}
theorem Inv.lset {its its':List Value}{n:Nat}{f:Array Value->Array Value}{t':Nat}(I:Inv X pins σ H s) (hH:H l=some (.lst xs))
    (e:s.heap.get? l=some { cls:=.type "list",data:=.seq its.toArray n }) (hf:f its.toArray=its'.toArray) (hv:yb ys its') (hz:ys.length<=sizeLine) :
    Inv X pins σ (upd H l (.lst ys)) { s with heap:=s.heap.update l (Obj.mapSeq f),toks:=t' }:=by
  have q:=PySem.IsL.update e f
  rw [hf] at q
  refine I.write (x:=l) (e:=l) (by rw [hH];exact trivial) (.inl rfl) (fun b' u hb hu=>(qT s.heap (Obj.mapSeq f) (Ne.symm hb)).trans hu) ⟨_,q⟩ ?_
  exact ⟨hz,its',_,hv,q⟩
theorem Inv.lnew {its:List Value}{t':Nat}(I:Inv X pins σ H s) (hv:yb ys its) (hz:ys.length<=sizeLine) :
    Inv X pins σ (upd H s.heap.objs.size (.lst ys)) { s with heap:=s.heap.push { cls:=.type "list",data:=.seq its.toArray },toks:=t' } :=
  I.laid (fun _ _ q=>qc _ q) (qj _) ⟨hz,its,0,hv,qx _ rfl⟩
theorem Inv.fresh (I:Inv X pins σ H s):H s.heap.objs.size=none:=I.hok.fresh (qj _)
theorem Inv.lstM (I:Inv X pins σ H s) (hH:H l=some (.lst xs)):xs.length<=sizeLine/\∃ (its:List Value) (n:Nat),yb xs its/\xs.length=its.length/\s.heap.get? l=some { cls:=.type "list",data:=.seq its.toArray n }:=by
  obtain ⟨z,its,n,r,e⟩:=I.hok l _ hH
  exact ⟨z,its,n,r,r.length,e⟩
end
section
variable {X:Cx}
def rAppend:V->List V->Hp->VK->Prop:=fun x vs H Q=>∃ l xs y,x = .ref l/\vs=[y]/\H l=some (.lst xs)/\xs.length<sizeLine/\Q .non (upd H l (.lst (xs++[y])))
theorem qdx:MtM X "list.append" rAppend:=by
  intro pins s σ H x vs v us Q I rx rv h
  obtain ⟨l,xs,y,rfl,rfl,hH,hz,q⟩:=h
  cases rx
  obtain ⟨u,rfl,ru⟩:=rv.one
  obtain ⟨z,its,n,r,hl,e⟩:=I.lstM hH
  refine call_meets F.slot_list_append ⟨_,e,rfl⟩ F.entry_list_append (F.args_list_append_2 _ _) (PySem.list_append l its.toArray n u (by rw [List.size_toArray];omega)) ⟨e,?_⟩
  refine ⟨.non,_,I.lset (its':=its++[u]) hH e (by simp) (r.append (.cons ru .nil)) ?_,rfl,q⟩
  rw [List.length_append,List.length_singleton]
  omega
end
section
variable {prog:Program}{w:World}{A:Around}{E:Value->Shared->Prop}{s:Shared}
set_option maxRecDepth 100000 in
end
section
variable {X:Cx}
end
end L2
namespace Att
open PySem PySem.W PySem.Calls PyProof.Rows
theorem Yy {P:Params}{h:Heap}:∀ (ns:List Int) (vs:List Value),WellAll P h vs (ns.map WData.int)->IntsAre vs ns:=by
  intro ns
  induction ns with
  | nil =>
    intro vs w
    rw [List.map_nil] at w
    cases w
    exact .nil
  | cons n ns ih =>
    intro vs w
    rw [List.map_cons] at w
    cases w with
    | cons a b =>
      cases a
      exact .cons _ _ (ih _ b)
theorem qcI {l:OpenLaw}{n:Nat}(hn:l.most=some n) {P:Params}{h:Heap}{args:List WData}{vals:List Value}
    (hpre:l.row.toRowW.claim.pre args=true) (hwl:WellAll P h vals args) :
    ∃ a vs ns,vals=[Value.ref a]/\args=[WData.list (ns.map WData.int)]/\h.get? a=some { cls:=.type "list",data:=.seq vs.toArray }/\IntsAre vs ns/\ns.length<=n:=by
  have hsh:WShape.hasAll [] args [.list .int]=true:=(pre_splitW hpre).1
  have hc:l.pre.holds [] { args:=args }=true:=(pre_splitW hpre).2
  obtain ⟨d,r,rfl,h1,h2⟩:=hasAllW_cons hsh
  obtain rfl:=hasAllW_nil h2
  obtain ⟨xs,rfl,h3⟩:=hasW_list h1
  obtain ⟨ns,rfl⟩:=items_int h3
  have hlen:ns.length<=n:=by
    unfold OpenLaw.pre at hc
    have h4:(WTm.not (.lt (.lit (.int (n:Int))) (.len (.arg 0)))).holds [] { args:=[.list (ns.map .int)] }=true:=by
      have h4:=(holds_andW hc).1
      rw [hn] at h4
      exact h4
    have h5:=condW_of h4 (w_not (w_lt w_lit (w_len_list (w_arg rfl))))
    rw [List.length_map] at h5
    refine Nat.le_of_not_lt fun q=>?_
    have q':(n:Int)<((ns.length:Nat):Int):=by omega
    first
      | (rw [qB q'] at h5;exact absurd h5 (by decide))
      | (simp at h5;omega)
  cases hwl with
  | cons w1 w2 =>
    cases w2
    cases w1 with
    | list ho hall=>exact ⟨_,_,ns,rfl,rfl,ho,Yy ns _ hall,hlen⟩
theorem qc7 (l:OpenLaw) (args:List WData):l.row.toRowW.claim.post args (.bool true) args=true :=
  postW_of (r:=l.row.toRowW) (X:=(true == true))
    (show WShape.has [] (.bool true) .bool=true by first | rfl | decide | simp [WShape.has,WShape.arms,WShape.armsAll])
    (show (WTm.eq .res (.lit (.bool true))).value [] { args:=args,res:=some (.bool true),after:=args }=some (.bool (true == true)) from w_eq_bool (w_res rfl) w_lit) rfl
theorem attach_call {l:OpenLaw}{n:Nat}{q:Program}{loose:List Str}{XP:(Str->Option Value)->Heap->Prop}{YP:World->Heap->Prop}{d:DefRec}
    (hn:l.most=some n) (hdf:d.params.defaults=[])
    (call:∀ (w:World) (s₀ s₁:Shared) (mg mb:Str->Option Value) (fa:Addr) (o:Obj) (pm cd doc:Value) (a:Addr) (vs:List Value) (ns:List Int),
      Ground q loose [] XP w s₀ mg mb s₁.heap->YP w s₁.heap →
      s₁.heap.get? fa=some o->o.data = .func (docDef d.name d.params d.body d.scope pm cd doc)->s₁.heap.CodeRec cd d.name->mg d.name=some (.ref fa) →
      s₁.heap.get? a=some { cls:=.type "list",data:=.seq vs.toArray }->IntsAre vs ns->ns.length<=n->s₁.gens=#[] →
      codeAny (model l.prog w) callerA (.call (.ref fa) ⟨[.ref a],[]⟩) (fun r s'=>r = .ok (.ret (.bool true))/\OldK s₁.heap s'.heap/\s'.os=s₁.os/\AllBare s'.gens) s₁) :
    WalkO q loose XP YP l.row.toRowW d [] (fun f vs=>PySem.call f vs):=by
  intro w s₀ s₁ mg mb G Y fa o pm cd doc dV kV ho hd hcd hD hmg hg args vals as hpre hlay hrd hwl hlo
  obtain rfl:dV = .none:=Dflts.none hD hdf
  obtain rfl:kV = .none:=Dflts.noKw hD
  obtain ⟨a,vs,ns,rfl,rfl,hobj,hints,hlen⟩:=qcI hn hpre hwl
  refine enter_call (codeAny_mono (call w s₀ s₁ mg mb fa o pm cd doc a vs ns G Y ho (fd_plain hd) hcd hmg hobj hints hlen hg) fun r s' hq=>?_)
  obtain ⟨rfl,h2,h3,h4⟩:=hq
  exact ⟨.inl ⟨.bool true,.bool true,[],rfl,fun _=>rfl,.bool true,qc7 l _,fun _=>⟨List.Pairwise.nil,fun _ hm=>(nomatch hm)⟩⟩,h2,h3,h4⟩
section
variable {prog:Program}{w:World}{A:Around}{E:Value->Shared->Prop}{s:Shared}{K:Frag}
def ledger (h:Heap) (L d:Addr):List (Addr×Obj):=(List.range h.objs.size).filterMap fun a=>if a=L\/a=d then none else (h.get? a).map fun o=>(a,o)
end
end Att
namespace L2
open PySem PySem.Spec PyProof.Rows
theorem Yi:∀ {vs:List Value}{ns:List Int},IntsAre vs ns->yb (ns.map V.int) vs
  | _,_,.nil=>.nil
  | _,_,.cons n t h=>.cons ⟨t,rfl⟩ (Yi h)
def qkV (H:Hp):Prop:=∀ b,H b=none\/∃ o xs,H b=some (.frz o (.lst xs))
theorem qfv {P:Program}{w:World}{K:W.Frag}{mg mb:Str->Option Value}{CX:CXT}{k:Nat}{fa a:Addr}{fd:FuncData}{x:Str}{sp:Sp}{s₁:Shared}{vs:List Value}{ns:List Int}
    (KX:K.In s₁.heap) (hns:s₁.heap.Ns mainGlobals mg) (hb:s₁.heap.Ns builtinsNs mb) (hbb:∀ x:Str,x ≠ "__name__" -> mb x=bootBuiltins x) (hlim:s₁.heap.NoLimit) (hg:s₁.gens=#[])
    (ha:s₁.heap.get? a=some { cls:=.type "list",data:=.seq vs.toArray }) (hi:IntsAre vs ns) (hl:ns.length<=sizeLine) (hr:Room k callerA)
    (F:∀ base:Heap,K.In base->base.Ns mainGlobals mg->FnOk P w K mg base CX k fa fd [x] sp) (hbind:∀ (s:Shared) (u:Value),BindsTo s fd ⟨[u],[]⟩ [(x,u)])
    (hsp:∀ H:Hp,qkV H->SqL K H a (ns.map V.int)->sp [.ref a] H (fun v _=>v = .bl true) fun _ _ _=>False)
    (hCX:∀ H e s',CX [] H s₁ (fun _ _ _=>False) e s'->False) :
    codeAny (model P w) callerA (.call (.ref fa) ⟨[.ref a],[]⟩) (fun r s'=>r = .ok (.ret (.bool true))/\OldK s₁.heap s'.heap/\s'.os=s₁.os/\AllBare s'.gens) s₁:=by
  have rv:=Yi hi
  have lenV:=hi.length
  -- from an abstract heap in which nothing but the script may be tracked
  have core:∀ H:Hp,qkV H->SqL K H a (ns.map V.int)->HOk P w H s₁.heap->(∀ b,H b≠none->b=a)->(H a≠none->K.lookup a=none) →
      codeAny (model P w) callerA (.call (.ref fa) ⟨[.ref a],[]⟩) (fun r s'=>r = .ok (.ret (.bool true))/\OldK s₁.heap s'.heap/\s'.os=s₁.os/\AllBare s'.gens) s₁:=by
    intro H hO hS hok hA hK
    have base_of:∀ {b:Addr}{o:Obj},s₁.heap.get? b=some o->H b=none->(qaM s₁.heap H).get? b=some o:=fun e n=>qbw e n
    have noA:∀ {b:Addr}{o:Obj}{es:Array DictEntry}{ep:Nat},s₁.heap.get? b=some o->o.data = .dict es ep->H b=none:=fun {b o es ep} e d=>by
      cases q:H b with
      | none=>rfl
      | some u =>
        have e':b=a:=hA b (by rw [q];simp)
        subst e'
        rw [ha] at e;cases e
        have d':Data.seq vs.toArray _=Data.dict es ep:=d
        cases d'
    have nsK:∀ {b:Addr}{m:Str->Option Value},s₁.heap.Ns b m->(qaM s₁.heap H).Ns b m:=fun {b m} ⟨o,es,ep,e,d,r⟩=>⟨o,es,ep,base_of e (noA e d),d,r⟩
    have hKb:K.In (qaM s₁.heap H):=fun b o e=>base_of (KX b o e) (by
      cases q:H b with
      | none=>rfl
      | some u =>
        have e':b=a:=hA b (by rw [q];simp)
        subst e'
        rw [hK (by rw [q];simp)] at e;cases e)
    have hM:Mod K mg (qaM s₁.heap H):=⟨hKb,nsK hns,⟨mb,nsK hb,hbb⟩,let ⟨mc,h1,h2⟩:=hlim;⟨mc,nsK h1,h2⟩⟩
    have e0:Env0 P w K mg (qaM s₁.heap H) callerA [] s₁ H:=⟨rfl,hM,fun b o e=>qdo e,Nat.le_of_eq (Z4 _ _),trivial,fun b hb=>absurd (show b∈([]:List Addr) from hb) (by simp),hok,.of_eq hg⟩
    refine codeAny_mono ((F _ hKb (nsK hns)).run callerA [] s₁ H ⟨[.ref a],[]⟩ [.ref a] [.ref a] _ _ hr e0 (hbind s₁ (.ref a)) (.cons rfl .nil) (hsp H hO hS)) fun r s' h=>?_
    cases r with
    | error e=>exact (hCX H e s' h).elim
    | ok fl =>
      cases fl with
      | next=>exact False.elim h
      | brk=>exact False.elim h
      | cont=>exact False.elim h
      | ret u =>
        obtain ⟨v,H',os,bare,un,hok',r',q⟩:=h
        have q':v = .bl true:=q
        subst q'
        obtain rfl:u=Value.bool true:=r'
        refine ⟨rfl,OldK.of_keep fun b o e=>?_,os,bare⟩
        cases q:H b with
        | none=>exact un.keep b o e q (by intro z;exact absurd (show b∈([]:List Addr) from z) (by simp)) (by simp)
        | some u =>
          rcases hO b with z | ⟨ob,xs,z⟩
          · rw [q] at z;cases z
          · have z2:=un.frzs b ob _ z
            obtain ⟨e1,_⟩:=hok b _ z
            obtain ⟨e2,_⟩:=hok' b _ z2
            rw [e] at e1;cases e1
            exact e2
  cases hk:K.lookup a with
  | some o =>
    -- the script is one of the module's own objects
    have e:=KX a o hk
    rw [ha] at e
    cases e
    refine core (fun _=>none) (fun _=>.inl rfl) (.inr ⟨_,vs.toArray,_,hk,rfl,rfl,rfl,by rw [List.size_toArray,lenV];exact hl,by simpa using rv⟩) (fun b u z=>by have z':(none:Option HO)=some u:=z;cases z') (fun b z=>absurd rfl z) fun z=>absurd rfl z
  | none =>
    refine core (fun b=>if b=a then some (.frz { cls:=.type "list",data:=.seq vs.toArray } (.lst (ns.map V.int))) else none) (fun b=>?_) (.inl (.inr ⟨{ cls:=.type "list",data:=.seq vs.toArray },if_pos rfl⟩)) (fun b u z=>?_) (fun b z=>?_) fun _=>hk
    · by_cases hb:b=a
      · exact .inr ⟨_,_,if_pos hb⟩
      · exact .inl (if_neg hb)
    · by_cases hb:b=a
      · have z':=(if_pos hb).symm.trans z
        cases z'
        subst hb
        exact ⟨ha,by rw [List.length_map];exact hl,vs,_,rv,ha⟩
      · have z':=(if_neg hb).symm.trans z
        cases z'
    · by_cases hb:b=a
      · exact hb
      · exact absurd (if_neg hb) z
abbrev KOf {K:W.Frag}{h:Heap}(_:K.In h):W.Frag:=K
theorem walk_of {l:W.OpenLaw}{n k:Nat}{q:Program}{loose:List Str}{XP:(Str->Option Value)->Heap->Prop}{YP:World->Heap->Prop}{d:DefRec}{K:Params->W.Frag}{CX:World->CXT}{sp:World->Sp}{x:Str}
    (hn:l.most=some n) (hn2:n<=sizeLine) (hdf:d.params.defaults=[]) (hr:Room k callerA)
    (hY:∀ (w:World) (h:Heap),YP w h->(K w.params).In h)
    (F:∀ (w:World) (mg:Str->Option Value) (fa:Addr) (h:Heap),(K w.params).In h->h.Ns mainGlobals mg->mg d.name=some (.ref fa) →
      ∃ fd:FuncData,(∀ (s:Shared) (u:Value),BindsTo s fd ⟨[u],[]⟩ [(x,u)]) ∧
        ∀ base:Heap,(K w.params).In base->base.Ns mainGlobals mg->FnOk l.prog w (K w.params) mg base (CX w) k fa fd [x] (sp w))
    (hsp:∀ (w:World) (H:Hp) (a:Addr) (ns:List Int),ns.length<=n->qkV H->SqL (K w.params) H a (ns.map V.int)->sp w [.ref a] H (fun v _=>v = .bl true) fun _ _ _=>False)
    (hCX:∀ (w:World) (H:Hp) (s:Shared) (e:Value) (s':Shared),CX w [] H s (fun _ _ _=>False) e s'->False) :
    W.WalkO q loose XP YP l.row.toRowW d [] (fun f vs=>PySem.call f vs):=by
  refine Att.attach_call hn hdf fun w s₀ s₁ mg mb fa o pm cd doc a vs ns G Y ho hd hcd hmg hobj hints hlen hg=>?_
  have KX:=hY w _ Y
  obtain ⟨fd,hb,hF⟩:=F w mg fa _ KX G.T.g hmg
  exact qfv KX G.T.g G.T.b G.T.builtins G.T.nolimit hg hobj hints (qu hlen hn2) hr hF hb (fun H hO hS=>hsp w H a ns hlen hO hS) fun H e s'=>hCX w H s₁ e s'
def YB (s:Stmt) (j:Nat):Stmt:=match s with
  | .ClassDef _ _ _ body _ _ _ _ _ _ _=>body.getD j (.Pass ⟨0,0,0,0⟩)
  | _=>.Pass ⟨0,0,0,0⟩
def jA (s:Stmt):Arguments:=match s with
  | .FunctionDef _ a _ _ _ _ _ _ _ _=>a
  | _=>{ posonlyargs:=[],args:=[],vararg:=none,kwonlyargs:=[],kw_defaults:=[],kwarg:=none,defaults:=[] }
def yK (s:Stmt):List Stmt:=match s with
  | .FunctionDef _ _ b _ _ _ _ _ _ _=>b
  | _=>[]
def qt (s:Stmt):Scope:=match s with
  | .FunctionDef _ _ _ _ _ _ sc _ _ _=>sc
  | _=>{ kind:=.function,names:=[],isGenerator:=false,isCoroutine:=false }
abbrev CX0:CXT:=fun _ _ _ _ _ _=>False
abbrev E0:XK:=fun _ _ _=>False
structure Fun (K:W.Frag) (x qual:Str) (st:Stmt) (f:Addr) (fd:FuncData):Prop where
  ex:∃ (oc:Value) (od:Option Addr) (kV doc pm:Value) (an:Option Addr) (cdv ct:Value) (osl:Array (Option Value)),
    fd=W.fnOf x qual (jA st) (yK st) (qt st) .none kV doc pm an cdv ct/\K.lookup f=some ⟨oc,od,.func fd,osl⟩/\W.codeIn K cdv qual=true
  kp:W.keepIn K (.ref f)=true
section
variable {P:Program}{w:World}{K:W.Frag}{mg:Str->Option Value}{base:Heap}
theorem Fun.ok {x qual:Str}{st:Stmt}{f:Addr}{fd:FuncData}{N ps:List Str}{k:Nat}{sp:Sp}(F:Fun K x qual st f fd) (S:FnScope N ps (qt st)) (len:∀ vs H Q E,sp vs H Q E->vs.length=ps.length)
    (hbody:∀ (cdv:Value) (A:Around) (outer:List Env) (s:Shared) (H:Hp) (vs:List V) (Q:VK) (E:XK),Room k (A.deeper (envOfC qual (qt st) s.heap.objs.size f cdv))->sp vs H Q E →
      ∃ t,PSs (qeK CX0 P w K mg base N qual (qt st) f cdv A outer s H E).nox (yK st) t/\t { nx:=fun _ H'=>Q .non H',rt:=Q } (Za N vs) H):FnOk P w K mg base CX0 (k+1) f fd ps sp:=by
  obtain ⟨oc,od,kV,doc,pm,an,cdv,ct,osl,rfl,lk,hcd⟩:=F.ex
  refine qh8 lk hcd S len fun A outer s H vs Q E hr hsp=>?_
  obtain ⟨t,h,q⟩:=hbody cdv A outer s H vs Q E hr hsp
  exact ⟨t,h.nox,q⟩
theorem Fun.binds {x qual:Str}{st:Stmt}{f:Addr}{fd:FuncData}{ps:List Str}(F:Fun K x qual st f fd)
    (h:∀ (kV doc pm:Value) (an:Option Addr) (cdv ct:Value) (us:List Value),us.length=ps.length->bindArgs (W.fnOf x qual (jA st) (yK st) (qt st) .none kV doc pm an cdv ct) ⟨us,[]⟩=pure (ps.zip us)):JO K fd ps []:=by
  obtain ⟨oc,od,kV,doc,pm,an,cdv,ct,osl,rfl,lk,hcd⟩:=F.ex
  exact .all (h kV doc pm an cdv ct)
theorem qd4 {x qual:Str}{st:Stmt}{f:Addr}{oc:Value}{od an:Option Addr}{osl:Array (Option Value)}{kV doc pm cdv ct:Value}(l:K.lookup f=some ⟨oc,od,.func (W.fnOf x qual (jA st) (yK st) (qt st) .none kV doc pm an cdv ct),osl⟩)
    (c:W.codeIn K cdv qual=true) (k:W.keepIn K (.ref f)=true):Fun K x qual st f (W.fnOf x qual (jA st) (yK st) (qt st) .none kV doc pm an cdv ct):=⟨⟨oc,od,kV,doc,pm,an,cdv,ct,osl,rfl,l,c⟩,k⟩
end
section
variable {X:Cx}
theorem pv (i:Nat) {x:Str}{pos:Pos}(hN:X.N[i]?=some x:=by rfl) (hv:Vis X.env.scope x:=by first | exact Or.inl rfl | exact Or.inr (Or.inl rfl) | exact Or.inr (Or.inr rfl)) (hd:(x == ("__debug__" : Str))=false:=by decide)
    (hcd:(x == ("__classdict__" : Str))=false:=by decide):PE X (.Name x pos) (tVar i):=qgh hN hv hd hcd
end
theorem qaI {A B:Prop}(h:B):if false=true then A else B:=by
  rw [if_neg Bool.false_ne_true]
  exact h
theorem qbs {A B:Prop}(h:A):if true=true then A else B:=by
  rw [if_pos rfl]
  exact h
theorem Jj {c A B:Prop} [Decidable c] (h1:c->A) (h2:¬ c->B):if c then A else B:=by
  by_cases h:c
  · rw [if_pos h]
    exact h1 h
  · rw [if_neg h]
    exact h2 h
def qY (H H':Hp):Prop:=∀ b o,H b=some o->H' b=some o
theorem qY.refl (H:Hp):qY H H:=fun _ _ h=>h
theorem qY.trans {H H1 H2:Hp}(a:qY H H1) (b:qY H1 H2):qY H H2:=fun c o h=>b c o (a c o h)
theorem qY.free {H H':Hp}(e:qY H H') {l:Addr}(h:H' l=Option.none):H l=Option.none:=by
  cases q:H l with
  | none=>rfl
  | some o =>
    rw [e l o q] at h
    cases h
theorem qY.seq {K:W.Frag}{H H':Hp}{a:Addr}{xs:List V}(e:qY H H') (h:SqL K H a xs):SqL K H' a xs:=by
  rcases h with (h | ⟨o,h⟩) | h
  · exact .inl (.inl (e _ _ h))
  · exact .inl (.inr ⟨o,e _ _ h⟩)
  · exact .inr h
end L2
set_option maxHeartbeats 4000000
namespace L2
open PySem PySem.Spec PyProof.Rows
theorem yZ {n:Nat}(h:n<=4000):n<sizeLine:=yW h (by decide)
def qE (X:Cx) (L:List Str) (scope:Scope) (cl:List (Str×Addr)) (C:Addr) (s₂:Shared) (H₂:Hp) (fp:List Addr):Cx where
 prog:=X.prog
 w:=X.w
 K:=X.K
 mg:=X.mg
 base:=X.base
 A:=X.A
 N:=X.N++L
 s₀:=s₂
 H₀:=H₂
 env:=compEnvC scope cl C X.env
 outer:=X.stack
 stack:=X.stack
 ex:=fp
 fn:=fun _=>false
 calm:=X.calm
 pn:=[]
 xe:=fun _ _=>False
def jl (sc:Scope) (N L:List Str) (scope:Scope):Bool :=
 decide (scope.kind = .function) && scope.names.all (fun y=>decide (y.2≠.cell) && (decide (y.2≠.local) || (decide (scope.names.lookup y.1=some .local) && decide (y.1∉N))) &&
  (decide (y.2≠.free) || decide (sc.names.lookup y.1=some .cell) || decide (sc.names.lookup y.1=some .free))) && decide ((N++L).Nodup)
theorem yL {sc:Scope}{N L:List Str}{scope:Scope}(h:jl sc N L scope=true):scope.kind = .function:=by
 simp only [jl,Bool.and_eq_true,decide_eq_true_eq] at h
 exact h.1.1
theorem yC {sc:Scope}{N L:List Str}{scope:Scope}(h:jl sc N L scope=true) {y:Str×NameKind}(hy:y∈scope.names) :
  y.2≠.cell/\(y.2 = .local->scope.names.lookup y.1=some .local/\y.1∉N)/\(y.2 = .free->sc.names.lookup y.1=some .cell\/sc.names.lookup y.1=some .free):=by
 simp only [jl,Bool.and_eq_true,decide_eq_true_eq,List.all_eq_true,Bool.or_eq_true] at h
 have q:=h.1.2 y hy
 obtain ⟨⟨q1,q2⟩,q3⟩:=q
 refine ⟨q1,fun e=>?_,fun e=>?_⟩
 ·rcases q2 with q2 | q2
  ·exact absurd e q2
  ·exact q2
 ·rcases q3 with (q3 | q3) | q3
  ·exact absurd e q3
  ·exact .inl q3
  ·exact .inr q3
theorem j4 {env:Env}:∀ (names:List (Str×NameKind)) (acc:List (Str×Addr)),(∀ y∈names,y.2 = .free->∃ c,env.cells.lookup y.1=some c) →
  (∀ x c,acc.lookup x=some c->env.cells.lookup x=some c) →
  ∃ cl,(forIn names acc (fun (x:Str×NameKind) (cs:List (Str×Addr))=>match x with
   | (name,kind)=>if (kind == NameKind.free)=true then do let a <- cellOf env name;pure (ForInStep.yield ((name,a)::cs)) else pure (ForInStep.yield cs)):Sem (List (Str×Addr)))=pure cl ∧
   (∀ x c,cl.lookup x=some c->env.cells.lookup x=some c)/\(∀ y∈names,y.2 = .free->∃ c,cl.lookup y.1=some c)/\(∀ x c,acc.lookup x=some c->∃ c',cl.lookup x=some c')
 | [],acc,_,ha=>⟨acc,rfl,ha,fun _ h=>(nomatch h),fun _ c e=>⟨c,e⟩⟩
 | (n,k)::r,acc,hf,ha=>by
  by_cases hk:k = .free
  ·subst hk
   obtain ⟨c,hc⟩:=hf (n,.free) qg rfl
   have ha':∀ x c',((n,c)::acc).lookup x=some c'->env.cells.lookup x=some c':=fun x c' e=>by
    by_cases hx:x=n
    ·subst hx
     simp [List.lookup_cons] at e
     rw [<- e];exact hc
    ·have:(x == n)=false:=by simpa using hx
     simp [List.lookup_cons,this] at e
     exact ha x c' e
   obtain ⟨cl,e1,e2,e3,e4⟩:=j4 r ((n,c)::acc) (fun y hy=>hf y (qe _ hy)) ha'
   refine ⟨cl,?_,e2,fun y hy hfr=>?_,fun x c' e=>?_⟩
   ·rw [List.forIn_cons]
    show (if (NameKind.free == NameKind.free)=true then (do let a <- cellOf env n;pure (ForInStep.yield ((n,a)::acc))) else pure (ForInStep.yield acc)) >>= _=_
    rw [if_pos (by decide)]
    unfold cellOf
    rw [hc]
    simp only [pure_bind]
    exact e1
   ·rcases List.mem_cons.mp hy with rfl | hy
    ·exact e4 n c (by simp [List.lookup_cons])
    ·exact e3 y hy hfr
   ·by_cases hx:x=n
    ·subst hx
     exact e4 x c (by simp [List.lookup_cons])
    ·have:(x == n)=false:=by simpa using hx
     exact e4 x c' (by simp [List.lookup_cons,this];exact e)
  ·obtain ⟨cl,e1,e2,e3,e4⟩:=j4 r acc (fun y hy=>hf y (qe _ hy)) ha
   refine ⟨cl,?_,e2,fun y hy hfr=>?_,e4⟩
   ·rw [List.forIn_cons]
    have hb:(k == NameKind.free)=false:=by simpa using hk
    show (if (k == NameKind.free)=true then (do let a <- cellOf env n;pure (ForInStep.yield ((n,a)::acc))) else pure (ForInStep.yield acc)) >>= _=_
    rw [hb,if_neg (by simp)]
    simp only [pure_bind]
    exact e1
   ·rcases List.mem_cons.mp hy with rfl | hy
    ·exact absurd hfr hk
    ·exact e3 y hy hfr
theorem j6 {env:Env}{scope:Scope}(hf:∀ y∈scope.names,y.2 = .free->∃ c,env.cells.lookup y.1=some c) :
  ∃ cl,closureFor scope env=pure cl/\(∀ x c,cl.lookup x=some c->env.cells.lookup x=some c)/\(∀ y∈scope.names,y.2 = .free->∃ c,cl.lookup y.1=some c):=by
 obtain ⟨cl,e1,e2,e3,_⟩:=j4 scope.names [] hf (fun x c e=>by simp at e)
 refine ⟨cl,?_,e2,e3⟩
 unfold closureFor
 simp only [bind_pure_comp,map_pure] at *
 first
  | exact e1
  | (rw [e1];rfl)
  | (simp only [bind_pure];exact e1)
theorem YY {names:List (Str×NameKind)}{x:Str}{k:NameKind}(h:names.lookup x=some k):(x,k)∈names:=PySem.mem_of_lookup h
theorem Jz {env:Env}:∀ {names:List (Str×NameKind)}{x:Str}{k:NameKind},
  (names.map fun (n,k)=>if (k == NameKind.free && env.scope.kind == .function && env.kindOf n == some .cell) then (n,NameKind.cell) else (n,k)).lookup x=some k →
  ∃ k',names.lookup x=some k'/\(k=k'\/(k' = .free/\k = .cell))
 | [],_,_,h=>by simp at h
 | (n,k0)::r,x,k,h=>by
  cases hx:x == n with
  | true =>
   by_cases hc:(k0 == NameKind.free && env.scope.kind == .function && env.kindOf n == some .cell)=true
   ·simp only [List.map_cons,if_pos hc,List.lookup_cons,hx] at h
    have hk:k0 = .free:=by
     simp only [Bool.and_eq_true,beq_iff_eq] at hc
     exact hc.1.1
    exact ⟨k0,by simp [List.lookup_cons,hx],.inr ⟨hk,(Option.some.inj h).symm⟩⟩
   ·simp only [List.map_cons,if_neg hc,List.lookup_cons,hx] at h
    exact ⟨k0,by simp [List.lookup_cons,hx],.inl (Option.some.inj h).symm⟩
  | false =>
   have h':(r.map fun (n,k)=>if (k == NameKind.free && env.scope.kind == .function && env.kindOf n == some .cell) then (n,NameKind.cell) else (n,k)).lookup x=some k:=by
    by_cases hc:(k0 == NameKind.free && env.scope.kind == .function && env.kindOf n == some .cell)=true
    ·simp only [List.map_cons,if_pos hc,List.lookup_cons,hx] at h;exact h
    ·simp only [List.map_cons,if_neg hc,List.lookup_cons,hx] at h;exact h
   obtain ⟨k',e,q⟩:=Jz h'
   exact ⟨k',by simp [List.lookup_cons,hx];exact e,q⟩
def Ifs (X:Cx) (ifs:List Expr) (tt:TT):Prop :=
 ∀ (pins:List (Addr×Obj)) (s:Shared) (σ:St) (H:Hp) (Q:Bool->Hp->Prop),Inv X pins σ H s->tt σ H Q →
  wpAny (model X.prog X.w) X.A (forIn ifs true fun c r=>if r=true then do let ok <- isTrue c X.env (eval c X.env);pure (ForInStep.yield ok) else pure (ForInStep.yield r)) (TP X pins σ Q) X.xe s
def tYes:TT:=fun _ H Q=>Q true H
theorem qh3 {X:Cx}:Ifs X [] tYes:=fun pins s σ H Q I h=>wpAny_tests_nil ⟨H,I,h⟩
theorem qh2 {X:Cx}{c:Expr}{t:TT}(h:PT X c t):Ifs X [c] t:=fun pins s σ H Q I q=>wpAny_tests_one (h pins s σ H Q I q)
def qf2 (k:Nat) (g:TG) (tt:TT) (te:TE) (σ:St) (Q:VK) (J:It) (H1:Hp):Prop:=∃ W:Nat->Nat->List V->St->Hp->Prop,(∃ m,W 0 m [] (σ++List.replicate k none) H1)/\∀ i m ys σ' H,W i m ys σ' H →
 (J.stop i H/\∀ D,H D=none->Q (.ref D) (upd H D (.lst ys))) ∨
 (J.go i H/\ys.length<sizeLine/\∃ N:List V->St->Hp->Prop,(∀ ys' σ' H',N ys' σ' H'->∃ m',m'<m/\W (i+1) m' ys' σ' H') ∧
  ∀ x H',J.yld i H x H'->g x σ' H' fun σ2 H2=>tt σ2 H2 fun b H3=>if b=true then te σ2 H3 fun y H4=>N (ys++[y]) σ2 H4 else N ys σ2 H3)
def qiT (k:Nat) (wi:TI) (g:TG) (tt:TT) (te:TE):TE:=fun σ H Q=>wi σ H (qf2 k g tt te σ Q)
section
variable {prog:Program}{w:World}{A:Around}{R:Result->Shared->Prop}{s:Shared}
theorem j8 {elt target iter:Expr}{ifs:List Expr}{scope:Scope}{pos:Pos}{it acc:Value}{env:Env}(I:Nat->Shared->Prop)
  (turn:∀ n s,I n s->wpAny (model prog w) A (pyNext it) (fun r s₁=>match r with
   | none=>R (.ok .next) s₁
   | some v=>wpAny (model prog w) A (letOwnedTupleGo target it v) (fun _ s₁'=>wpAny (model prog w) A (assign target env v) (fun _ s₂ =>
     wpAny (model prog w) A (forIn ifs true fun c r=>if r=true then do let ok <- isTrue c env (eval c env);pure (ForInStep.yield ok) else pure (ForInStep.yield r)) (fun ok s₃ =>
      if ok=true then wpAny (model prog w) A (eval elt env) (fun x s₄ =>
       wpAny (model prog w) A (call (.builtin "list.append") [acc,x]) (fun _ s₅=>∃ m,m<n/\I m s₅) (fun _ _=>False) s₄) (fun _ _=>False) s₃
      else ∃ m,m<n/\I m s₃) (fun _ _=>False) s₂) (fun _ _=>False) s₁') (fun _ _=>False) s₁) (fun _ _=>False) s)
  (n:Nat) (h:I n s) :
  codeAny (model prog w) A (.compLoop (.ListComp elt [⟨target,iter,ifs,0⟩] scope pos) 0 it acc env) R s:=by
 refine codeAny_loop rfl I (fun n s hI=>?_) n h
 show wpAny _ A ((compTurn (.ListComp elt [⟨target,iter,ifs,0⟩] scope pos) 0 it acc env).onRaise (fun x=>do noteFrame x env;theTreesLotGoes x)) _ _ s
 refine wpAny_noted ?_
 rw [compTurn_list]
 refine qa (yS (qa (qF (turn n s hI) (fun r s₁ h₁=>?_) fun _ _ h'=>h'.elim)))
 cases r with
 | none=>exact qd h₁
 | some v =>
  refine qa (qF h₁ (fun _ s₁' h₁'=>?_) fun _ _ h'=>h'.elim)
  refine qa (qF h₁' (fun _ s₂ h₂=>qa (qF h₂ (fun ok s₃ h₃=>?_) fun _ _ h'=>h'.elim)) fun _ _ h'=>h'.elim)
  cases ok with
  | false=>exact qd ⟨rfl,h₃⟩
  | true =>
   exact qa (qa (qF h₃ (fun x s₄ h₄=>qa (qF h₄ (fun _ s₅ h₅=>qd (qd ⟨rfl,h₅⟩)) fun _ _ h'=>h'.elim)) fun _ _ h'=>h'.elim))
end
section
variable {X:Cx}
theorem qaU {pins:List (Addr×Obj)}{σ:St}{H:Hp}{s₂:Shared}{L:List Str}{scope:Scope}{cl:List (Str×Addr)}{C:Addr}{fp:List Addr}{sc:Scope}{N:List Str}
  (I:Inv X pins σ H s₂) (hsc:X.env.scope=sc) (hN:X.N=N) (ok:jl sc N L scope=true) (hc1:∀ x c,cl.lookup x=some c->X.env.cells.lookup x=some c)
  (hc2:∀ y∈scope.names,y.2 = .free->∃ c,cl.lookup y.1=some c) (hf:∀ b∈fp,Je X pins H b) (hlt:∀ b∈fp,b<s₂.heap.objs.size) (hC:s₂.heap.objs.size<=C) :
  (qE X L scope cl C s₂ H fp).Ok where
 mod:=I.ok.mod
 kind:=(show scope.kind = .function from yL ok)
 glob:=I.ok.glob
 blt:=I.ok.blt
 above:=hC
 inj:=fun x y c h1 h2=>I.ok.inj x y c (hc1 x c h1) (hc1 y c h2)
 has:=fun x hx=>by
  have hx':∃ k,(relabel scope X.env).names.lookup x=some k/\(k = .cell\/k = .free):=by
   rcases hx with h | h
   ·exact ⟨_,h,.inl rfl⟩
   ·exact ⟨_,h,.inr rfl⟩
  obtain ⟨k,e,hk⟩:=hx'
  obtain ⟨k',e',q⟩:=Jz e
  have hm:=YY e'
  have nc:=(yC ok hm).1
  have hfree:k' = .free:=by
   rcases q with q | q
   ·rcases hk with hk | hk
    ·exact absurd (q.symm.trans hk) nc
    ·exact q.symm.trans hk
   ·exact q.1
  exact hc2 (x,k') hm hfree
 cab:=fun x c h _=>by cases h
 hd:=I.ok.hd
 frames:=I.ok.frames
 stk:=.inl rfl
 exf:=fun b hb=>⟨qk (qH (hlt b hb) hC),fun x c e=>(hf b hb).2.2.2.2.1 x c (hc1 x c e)⟩
 bs:=I.bs
 bsz:=qu I.ok.bsz I.sz
 noex:=fun b o e hb=>by
  rcases (hf b hb).2.2.2.1 with z | z
  ·exact I.ok.noex b o e z
  ·exact absurd (qH (qh (I.ok.bs b o e).1) z) (yc _)
 exfs:=fun b hb z=>by
  rcases List.mem_cons.mp (I.stkSub b z) with q | q
  ·exact (hf b hb).2.1 q
  ·exact (hf b hb).2.2.1 q
 funs:=I.stack
 frf:=I.stkFree
theorem JG {pins:List (Addr×Obj)}{σ:St}{H:Hp}{s₂ s₄:Shared}{L:List Str}{scope:Scope}{cl:List (Str×Addr)}{C:Addr}{fp:List Addr}{sc:Scope}{N:List Str}{m:Str->Option Value}
  (I:Inv X pins σ H s₂) (hsc:X.env.scope=sc) (hN:X.N=N) (ok:jl sc N L scope=true) (hc1:∀ x c,cl.lookup x=some c->X.env.cells.lookup x=some c)
  (Y:(qE X L scope cl C s₂ H fp).Ok) (hC:s₂.heap.objs.size<=C) (hos:s₄.os=s₂.os) (hg:AllBare s₄.gens)
  (old:∀ b o,s₂.heap.get? b=some o->s₄.heap.get? b=some o) (hns:s₄.heap.Ns C m):Inv (qE X L scope cl C s₂ H fp) [] (σ++List.replicate L.length none) H s₄ where
 ok:=Y
 os:=hos
 bare:=hg
 base:=Un.kept old
 loc:=by
  refine ⟨m,hns,fun i x v e1 e2 e3=>?_⟩
  have hl:σ.length=X.N.length:=I.len
  have hi:i<σ.length:=by
   by_cases h:i<σ.length
   ·exact h
   ·rw [qP (by omega),jp] at e2
    split at e2 <;> cases e2
  rw [qJ hi] at e2
  have e1':X.N[i]?=some x:=by
   have:(X.N++L)[i]?=some x:=e1
   rwa [qJ (by omega)] at this
  have e3':∃ k,(relabel scope X.env).names.lookup x=some k/\(k = .local\/k = .cell\/k = .free):=by
   rcases e3 with h | h | h
   ·exact ⟨_,h,.inl rfl⟩
   ·exact ⟨_,h,.inr (.inl rfl)⟩
   ·exact ⟨_,h,.inr (.inr rfl)⟩
  obtain ⟨k,ek,hk⟩:=e3'
  obtain ⟨k',e',q⟩:=Jz ek
  have hm:=YY e'
  obtain ⟨nc,nl,fr⟩:=yC ok hm
  have hk':k' = .free:=by
   rcases q with q | q
   ·rcases hk with hk | hk | hk
    ·have hl':k' = .local:=q.symm.trans hk
     exact absurd (hN ▸ List.mem_of_getElem? e1') (nl hl').2
    ·exact absurd (q.symm.trans hk) nc
    ·exact q.symm.trans hk
   ·exact q.1
  have hX:X.env.kindOf x=some .cell\/X.env.kindOf x=some .free:=by
   have:=fr hk'
   rw [<- hsc] at this
   exact this
  obtain ⟨m₀,hn₀,hl₀⟩:=I.loc
  obtain ⟨u,r,look⟩:=hl₀ i x v e1' e2 (.inr hX)
  refine ⟨u,r,.inr ⟨?_,?_⟩⟩
  ·show (relabel scope X.env).names.lookup x=some .cell\/(relabel scope X.env).names.lookup x=some .free
   rcases hk with hk | hk | hk
   ·exfalso
    rcases q with q | q
    ·rw [hk] at q;rw [hk'] at q;cases q
    ·rw [hk] at q;exact nomatch q.2
   ·exact .inl (hk ▸ ek)
   ·exact .inr (hk ▸ ek)
  ·rcases look with ⟨z,_⟩ | ⟨_,c,ec,hcell⟩
   ·exfalso
    rcases hX with h | h <;> rw [h] at z <;> cases z
   ·obtain ⟨c',ec'⟩:=Y.has x (by
     rcases hk with hk | hk | hk
     ·exfalso
      rcases q with q | q
      ·rw [hk] at q;rw [hk'] at q;cases q
      ·rw [hk] at q;exact nomatch q.2
     ·exact .inl (hk ▸ ek)
     ·exact .inr (hk ▸ ek))
    have hcl:cl.lookup x=some c':=ec'
    have:c'=c:=Option.some.inj ((hc1 x c' hcl).symm.trans ec)
    subst this
    refine ⟨c',hcl,?_⟩
    obtain ⟨o,ho,hd⟩:=hcell
    exact ⟨o,old _ _ ho,hd⟩
 cell:=fun x c e=>by
  obtain ⟨v,o,ho,hd⟩:=I.cell x c (hc1 x c e)
  exact ⟨v,o,old _ _ ho,hd⟩
 free:=I.hok.fresh hC
 freeC:=fun x c e=>I.freeC x c (hc1 x c e)
 pin:=fun p hp=>absurd (show p∈([]:List (Addr×Obj)) from hp) (by simp)
 hok:=I.hok.kept old
 len:=by
  show _=(X.N++L).length
  have hl:σ.length=X.N.length:=I.len
  simp [hl]
theorem qae {pins:List (Addr×Obj)}{σ σ':St}{H H':Hp}{s₂ s':Shared}{L:List Str}{scope:Scope}{cl:List (Str×Addr)}{fp:List Addr}{its:List Value}{ys:List V}{D C:Addr}{n:Nat}{pl:List (Addr×Obj)}
  (I:Inv X pins σ H s₂) (hf:∀ b∈fp,Je X pins H b) (hD:s₂.heap.objs.size=D)
  (J:Inv (qE X L scope cl C s₂ H fp) pl σ' H' s') (hpD:s'.heap.get? D=some { cls:=.type "list",data:=.seq its.toArray n }) (hHD:H' D=none) (hv:yb ys its) (hz:ys.length<=sizeLine) :
  Inv X pins σ (upd H' D (.lst ys)) s':=by
 have B:Un (frs X.stack) fp H H' s₂.heap s'.heap:=J.base
 have neD:∀ b o,s₂.heap.get? b=some o->b≠D:=fun b o e=>by rw [<- hD];exact qk (qh e)
 refine I.call' (ch:=fp) J.os ⟨B.keep,B.slot,fun b o e hn hx=>?_,B.there,fun b xs e=>?_,fun b o u e=>?_,fun b ps e=>?_⟩ (fun b o e=>?_) J.bare (fun b hb=>⟨(hf b hb).2.2.2.1,(hf b hb).2.1,(hf b hb).2.2.2.2.1,(hf b hb).2.2.2.2.2⟩)
 ·rw [qI (neD b o e)];exact B.free b o e hn hx
 ·have:=B.tups b xs e
  rw [qI (qC this hHD)];exact this
 ·have:=B.frzs b o u e
  rw [qI (qC this hHD)];exact this
 ·obtain ⟨more,this⟩:=B.tbls b ps e
  exact ⟨more,by rw [qI (qC this hHD)];exact this⟩
 ·by_cases hb:b=D
  ·subst hb
   rw [qM] at e
   cases e
   exact ⟨hz,its,n,hv,hpD⟩
  ·rw [qI hb] at e
   exact (J.hok b o e).stay (fun _ _ _ q=>q) (fun c q=>by rw [qI (qC q hHD)];exact q) fun c xs q=>by rw [qI (qC q hHD)];exact q
theorem qcd {pins:List (Addr×Obj)}{σ:St}{H:Hp}{s₂:Shared}{L:List Str}{scope:Scope}{cl:List (Str×Addr)}{fp:List Addr}{sc:Scope}{N:List Str}{tg elt iter:Expr}{ifs:List Expr}{pos:Pos}
  {g:TG}{tt:TT}{te:TE}{Q:VK}{J:It}{it:Addr}{tn:Nat->Heap->Prop}{RR:Value->Addr->Result->Shared->Prop}{E:Value->Shared->Prop}
  (hc:X.calm=true) (hsc:X.env.scope=sc) (hN:X.N=N) (ok:jl sc N L scope=true) (hc1:∀ x c,cl.lookup x=some c->X.env.cells.lookup x=some c)
  (hc2:∀ y∈scope.names,y.2 = .free->∃ c,cl.lookup y.1=some c)
  (hg:∀ cl C s₂ H₂ fp,PG (qE X L scope cl C s₂ H₂ fp) tg g) (hi:∀ cl C s₂ H₂ fp,Ifs (qE X L scope cl C s₂ H₂ fp) ifs tt) (he:∀ cl C s₂ H₂ fp,PE (qE X L scope cl C s₂ H₂ fp) elt te)
  (I:Inv X pins σ H s₂) (T:Turn X.prog X.w X.K tg J fp it tn) (st:tn 0 s₂.heap) (hf:∀ b∈fp,Je X pins H b) (hw:qf2 L.length g tt te σ Q J H)
  (hR:∀ D C m H' s' ys,s'.heap.Ns C m->s₂.heap.objs.size=D->s₂.heap.objs.size<C->H' C=none->D≠C->Inv X pins σ (upd H' D (.lst ys)) s'->Q (.ref D) (upd H' D (.lst ys))->RR (.ref D) C (.ok .next) s') :
  wpAny (model X.prog X.w) X.A (newList []) (fun acc s₃=>wpAny (model X.prog X.w) X.A (newFunctionEnv scope X.env.globals cl [] X.env.qual none .none (some X.env)) (fun cenv s₄ =>
   codeAny (model X.prog X.w) X.A (.compStart (.ListComp elt [⟨tg,iter,ifs,0⟩] scope pos) 0 (.ref it) acc { cenv with scope:=relabel scope X.env }) (RR acc cenv.locals) s₄) E s₃) E s₂:=by
 refine yJ (wpAny_newFunctionEnv (fun y hy=>(yC ok hy).1) (by intro y hy;simp at hy) (fun h₁ hns₁ hsb₁=>?_) (yL ok))
 dsimp only at hns₁ hsb₁ ⊢
 generalize hH2:s₂.heap.push { cls:=.type "list",dict:=none,data:=.seq ([]:List Value).toArray }=H2 at hns₁ hsb₁ ⊢
 have hC:H2.objs.size=s₂.heap.objs.size+1:=by rw [<- hH2,Heap.size_push]
 have hCle:s₂.heap.objs.size<=H2.objs.size:=by rw [hC];exact Nat.le_succ _
 have hDC:s₂.heap.objs.size≠H2.objs.size:=by rw [hC];exact qk (yu _)
 have hlt:∀ b∈fp,b<s₂.heap.objs.size:=fun b hb=>by
  obtain ⟨o,e,_⟩:=T.obj 0 _ st b hb
  exact qh e
 have below:∀ b,b<s₂.heap.objs.size->b≠H2.objs.size:=fun b hb=>by rw [hC];exact qk (Nat.lt_succ_of_lt hb)
 have old:∀ b o,s₂.heap.get? b=some o->h₁.get? b=some o:=fun b o e=>hsb₁.extBut b o (below b (qh e)) (qc _ (hH2 ▸ qc _ e))
 have hacc:h₁.get? s₂.heap.objs.size=some { cls:=.type "list",data:=.seq ([]:List Value).toArray 0 }:=hsb₁.extBut _ _ hDC (qc _ (hH2 ▸ qx _ rfl))
 have Yok:=qaU (L:=L) (scope:=scope) (cl:=cl) (C:=H2.objs.size) (fp:=fp) I hsc hN ok hc1 hc2 hf hlt hCle
 generalize hDn:s₂.heap.objs.size=D at *
 generalize hCn:H2.objs.size=C at *
 have st₁:tn 0 h₁:=T.keep _ _ _ st fun b _ o e=>old b o e
 -- the block's own iterators
 have cellD:∀ x c,cl.lookup x=some c->c≠D:=fun x c e=>by
  obtain ⟨v,q⟩:=I.cell x c (hc1 x c e)
  rw [<- hDn]
  exact qk q.lt
 have fpY:∀ {H':Hp}{its:List Value}{n:Nat},(∀ b∈fp,H' b=none)->∀ b∈fp,Je (qE X L scope cl C s₂ H fp) [(D,{ cls:=.type "list",data:=.seq its.toArray n })] H' b:=fun {H' its n} hn b hb=>by
  refine ⟨hn b hb,(Yok.exf b hb).1,Yok.exfs b hb,.inl hb,(Yok.exf b hb).2,fun p hp=>?_⟩
  have e:p=(D,{ cls:=.type "list",data:=.seq its.toArray n }):=by
   have:p∈[(D,({ cls:=.type "list",data:=.seq its.toArray n }:Obj))]:=hp
   simpa using this
  subst e
  exact Ne.symm (qk (hlt b hb))
 have nfsD:D∉(qE X L scope cl C s₂ H fp).fs:=fun z=>by
  obtain ⟨_,o,ho,_⟩:=Yok.funs.mem z
  exact absurd (show D<s₂.heap.objs.size from qh ho) (by rw [hDn];exact yc _)
 have pinD:∀ {σ':St}{H':Hp}{s':Shared}{pl:List (Addr×Obj)}{its:List Value}{n:Nat},Inv (qE X L scope cl C s₂ H fp) pl σ' H' s'->s'.heap.get? D=some { cls:=.type "list",data:=.seq its.toArray n }->H' D=none →
   Inv (qE X L scope cl C s₂ H fp) [(D,{ cls:=.type "list",data:=.seq its.toArray n })] σ' H' s':=fun {σ' H' s' pl its n} J e hn=>J.pins_of fun p hp=>by
  have e':p=(D,{ cls:=.type "list",data:=.seq its.toArray n }):=by simpa using hp
  subst e'
  exact ⟨e,hn,hDC,nfsD,fun v z=>by cases z⟩
 have I₁:Inv (qE X L scope cl C s₂ H fp) [] (σ++List.replicate L.length none) H { s₂ with heap:=h₁,toks:=s₂.toks+([]:List (Str×Value)).length } :=
  JG I hsc hN ok hc1 Yok (by rw [hDn];exact hCle) rfl I.bare old hns₁
 have HD:H D=none:=I.hok.fresh (by rw [hDn];exact qj _)
 obtain ⟨W,⟨m0,w0⟩,turn⟩:=hw
 have loop:codeAny (model X.prog X.w) X.A (.compLoop (.ListComp elt [⟨tg,iter,ifs,0⟩] scope pos) 0 (.ref it) (.ref D) (compEnvC scope cl C X.env)) (RR (.ref D) C)
   { s₂ with heap:=h₁,toks:=s₂.toks+([]:List (Str×Value)).length }:=by
  refine j8 (fun n s'=>∃ i ys its k σ' H',Inv (qE X L scope cl C s₂ H fp) [(D,{ cls:=.type "list",data:=.seq its.toArray k })] σ' H' s'/\yb ys its/\ys.length<=sizeLine/\tn i s'.heap/\(∀ b∈fp,H' b=none)/\W i n ys σ' H')
   ?_ m0 ⟨0,[],[],0,_,H,pinD I₁ hacc HD,.nil,qN _,st₁,fun b hb=>(hf b hb).1,w0⟩
  rintro n s3 ⟨i,ys,its,k,σ3,H3,I3,hv3,hz3,st3,fr3,w3⟩
  have hp3:=I3.pin (D,{ cls:=.type "list",data:=.seq its.toArray k }) (by simp)
  rcases turn i n ys σ3 H3 w3 with ⟨stop,q⟩ | ⟨go,hlen,Nx,hNx,step⟩
  ·refine thn (T.done (qE X L scope cl C s₂ H fp) rfl rfl rfl hc i _ s3 σ3 H3 _ I3 (fpY fr3) st3 stop) fun r s4 ⟨hr,I4⟩=>?_
   subst hr
   have hp4:=I4.pin (D,{ cls:=.type "list",data:=.seq its.toArray k }) (by simp)
   obtain ⟨m4,hn4,_⟩:=I4.loc
   exact hR D C m4 H3 s4 ys hn4 rfl (by rw [hC];exact yu _) I4.free hDC (qae I hf hDn I4 hp4.1 hp4.2.1 hv3 hz3) (q D hp4.2.1)
  ·refine thn (T.item (qE X L scope cl C s₂ H fp) rfl rfl rfl hc i _ s3 σ3 H3 _ I3 (fpY fr3) st3 go) fun r s4 ⟨u,hr,h4⟩=>?_
   subst hr
   refine thn h4 fun _ s5 hq9=>?_
   obtain ⟨x,H5,I5,r5,y5,st5,fr5⟩:=hq9
   have I5':=I5.pinned (fpY fr5) (T.obj _ _ st5)
   refine thn (hg cl C s₂ H fp _ s5 σ3 H5 x u _ I5' r5 (step x H5 y5)) fun _ s6 hq9=>?_
   obtain ⟨σ6,H6,I6,q6⟩:=hq9
   refine thn (hi cl C s₂ H fp _ s6 σ6 H6 _ I6 q6) fun ok s7 hq9=>?_
   obtain ⟨H7,I7,q7⟩:=hq9
   have later:∀ {σ':St}{H':Hp}{s':Shared},Inv (qE X L scope cl C s₂ H fp) ([(D,{ cls:=.type "list",data:=.seq its.toArray k })]++jD fp s5.heap) σ' H' s' →
     tn (i+1) s'.heap/\(∀ b∈fp,H' b=none)/\s'.heap.get? D=some { cls:=.type "list",data:=.seq its.toArray k }/\H' D=none:=fun {σ' H' s'} J=>by
    refine ⟨T.keep _ _ _ st5 fun b hb o e=>(J.pin (b,o) (qb _ (qb _ (yn hb e)))).1,fun b hb=>?_,?_⟩
    ·obtain ⟨o,e,d⟩:=T.obj _ _ st5 b hb
     exact (J.pin (b,o) (qb _ (qb _ (yn hb e)))).2.1
    ·have z:=J.pin (D,{ cls:=.type "list",data:=.seq its.toArray k }) (qb _ (qp _ (by simp)))
     exact ⟨z.1,z.2.1⟩
   cases ok with
   | false =>
    rw [if_neg (by simp)] at q7 ⊢
    obtain ⟨m',hm',w'⟩:=hNx _ _ _ q7
    obtain ⟨t1,t2,t3,t4⟩:=later I7
    exact ⟨m',hm',i+1,ys,its,k,σ6,H7,pinD I7 t3 t4,hv3,hz3,t1,t2,w'⟩
   | true =>
    rw [if_pos rfl] at q7 ⊢
    refine thn (he cl C s₂ H fp _ s7 σ6 H7 _ I7 q7) fun y s8 hq9=>?_
    obtain ⟨v,H8,I8,r8,q8⟩:=hq9
    obtain ⟨m',hm',w'⟩:=hNx _ _ _ q8
    obtain ⟨t1,t2,t3,t4⟩:=later I8
    refine append_at (hsz:=by rw [List.size_toArray,<- hv3.length];exact hz3) t3 fun h9 hs9 hD9=>?_
    have nbD:∀ b∈fp,b≠D:=fun b hb=>qk (hlt b hb)
    have I9:Inv (qE X L scope cl C s₂ H fp) [] σ6 H8 { s8 with heap:=h9 }:=(I8.pins_of (pins':=[]) (fun p hp=>by simp at hp)).turned (it:=D) (t':=s8.toks) (fun b o hb e=>hs9.extBut b o hb e) t4 hDC
     (.inr (by show s₂.heap.objs.size<=D;rw [hDn];exact qj _)) cellD (fun p hp=>by
      have:p∈([]:List (Addr×Obj)):=hp
      simp at this)
    refine ⟨m',hm',i+1,ys++[v],its++[y],k+1,σ6,H8,pinD I9 (by rw [hD9];simp) t4,hv3.append (.cons r8 .nil),by simp;omega,T.keep _ _ _ t1 fun b hb o e=>hs9.extBut b o (nbD b hb) e,t2,w'⟩
 exact codeAny_compStart_list loop (T.self _ 0 _ _ _ st₁ loop)
end
section
variable {X:Cx}
theorem qhx {L:List Str}{scope sc:Scope}{N:List Str}{tg elt iter:Expr}{ifs:List Expr}{pos:Pos}{wi:TI}{g:TG}{tt:TT}{te:TE}
  (hc:X.calm=true) (hsc:X.env.scope=sc) (hN:X.N=N) (ok:jl sc N L scope=true)
  (hi:PI X tg iter wi) (hg:∀ cl C s₂ H₂ fp,PG (qE X L scope cl C s₂ H₂ fp) tg g) (hf:∀ cl C s₂ H₂ fp,Ifs (qE X L scope cl C s₂ H₂ fp) ifs tt) (he:∀ cl C s₂ H₂ fp,PE (qE X L scope cl C s₂ H₂ fp) elt te)
  (hs:∀ x,foldedSetIterable iter X.env x=pure x:=by intro _;rfl) :
  PE X (.ListComp elt [⟨tg,iter,ifs,0⟩] scope pos) (qiT L.length wi g tt te):=by
 intro pins s σ H Q I h
 obtain ⟨cl,hcl,hc1,hc2⟩:=j6 (env:=X.env) (scope:=scope) fun y hy hfr=>by
  refine I.ok.has y.1 ?_
  have z:=(yC ok hy).2.2 hfr
  rw [<- hsc] at z
  exact z
 rw [eval_ListComp]
 refine wpAny_comprehension_free (use:=none) rfl hs hcl (yL ok) (fun y hy hl=>((yC ok hy).2.1 hl).1) (thn (hi pins s σ H _ I h) fun v s1 h1=>thn h1 fun itv s2 h2=>?_)
 obtain ⟨it,fp,tn,J,H2,e,I2,T,st2,f2,hw⟩:=h2
 subst e
 refine qcd (RR:=fun acc C=>compPost (model X.prog X.w) X.A X.xe none (EP X pins σ Q) acc C) hc hsc hN ok hc1 hc2 hg hf he I2 T st2 f2 hw ?_
 intro D C m H' s' ys hns hD hC hHC hDC J' q
 refine ⟨m,hns,fun h'' hs''=>⟨.ref D,upd H' D (.lst ys),?_,rfl,q⟩⟩
 have hsz:=I2.sz
 refine J'.turned (it:=C) (t':=s'.toks) (fun b o hb e=>hs''.extBut b o hb e) (by rw [qI (Ne.symm hDC)];exact hHC) (Ne.symm (qk (yI I2.lt hC))) (.inr (qu hsz (yf hC))) (fun x c e=>?_) (fun p hp=>?_)
 ·obtain ⟨v,z⟩:=I2.cell x c e
  exact qk (yI z.lt hC)
 ·exact qk (yI (qh (I2.pin p hp).1) hC)
end
section
variable {X:Cx}
def Big (i:Int):Prop:=i.natAbs<2 ^ 1000
theorem Big.of {i:Int}(b:Int) (hb:b<2 ^ 1000) (h1:-b<=i) (h2:i<=b):Big i:=by
 unfold Big
 have:(i.natAbs:Int)<=b:=by omega
 have h3:(i.natAbs:Int)<2 ^ 1000:=Int.lt_of_le_of_lt this hb
 exact_mod_cast h3
theorem Big.bits {i:Int}(h:Big i):Builtin.Int.intBits i<=2 ^ 20:=by
 unfold Builtin.Int.intBits
 by_cases h0:i.natAbs=0
 ·have:i=0:=by omega
  subst this
  decide
 ·have:=(Nat.log2_lt h0).mpr h
  split <;> omega
def qeH (i j:Int):Prop:=Big i/\Big j
theorem qaC:OpR X (binaryOp .Mult) (rI qeH fun i j=>.int (i * j)):=opI fun _ _ _ _ _ _ _ hc q=>mul_int q (IntMulOk.of_bits hc.1.bits hc.2.bits)
def qfX (i j:Int):Prop:=j≠0/\Big j
theorem qfj:OpR X (binaryOp .FloorDiv) (rI qfX fun i j=>.int (i.fdiv j)):=opI fun i j _ _ _ _ _ hc q=>floordiv_int hc.1 q (.inl (PyProof.noPylong_of_log2 (by
 by_cases h0:j.natAbs=0
 ·rw [h0];decide
 ·have:=(Nat.log2_lt h0).mpr hc.2
  omega)))
end
mutual
inductive Is (K:W.Frag) (H:Hp):V->PyData->Prop
 | non:Is K H .non .none
 | bl (b:Bool):Is K H (.bl b) (.bool b)
 | int (i:Int):Is K H (.int i) (.int i)
 | str (x:Str):Is K H (.str x) (.str x)
 | lst {a:Addr}{xs:List V}{ds:List PyData}:SqL K H a xs->IsAll K H xs ds->Is K H (.ref a) (.list ds)
 | tup {a:Addr}{xs:List V}{ds:List PyData}:SqT K H a xs->IsAll K H xs ds->Is K H (.ref a) (.tuple ds)
 | dc {a:Addr}:H a=some (.dK [])->Is K H (.ref a) (.dict [])
inductive IsAll (K:W.Frag) (H:Hp):List V->List PyData->Prop
 | nil:IsAll K H [] []
 | cons {x:V}{xs:List V}{d:PyData}{ds:List PyData}:Is K H x d->IsAll K H xs ds->IsAll K H (x::xs) (d::ds)
end
theorem IsAll.ints {K:W.Frag}{H:Hp}:∀ ns:List Int,IsAll K H (ns.map V.int) (ns.map PyData.int)
 | []=>.nil
 | n::ns=>.cons (.int n) (IsAll.ints ns)
theorem IsAll.bools {K:W.Frag}{H:Hp}:∀ ns:List Bool,IsAll K H (ns.map V.bl) (ns.map PyData.bool)
 | []=>.nil
 | n::ns=>.cons (.bl n) (IsAll.bools ns)
section
variable {X:Cx}{pins:List (Addr×Obj)}{σ:St}{H:Hp}{s:Shared}
mutual
theorem Is.reads (I:Inv X pins σ H s):∀ {x:V}{d:PyData}{u:Value},Is X.K H x d->yP x u->∃ as,Reads s.heap u d as
 | _,_,_,.non,r=>by cases r;exact ⟨_,.none⟩
 | _,_,_,.bl b,r=>by cases r;exact ⟨_,.bool b⟩
 | _,_,_,.int i,r=>by obtain ⟨t,rfl⟩:=r;exact ⟨_,.int i t⟩
 | _,_,_,.str i,r=>by obtain ⟨t,rfl⟩:=r;exact ⟨_,.str i t⟩
 | _,_,_,.lst hq hs,r=>by
  cases r
  obtain ⟨its,rv,pl,hz⟩:=I.list hq
  obtain ⟨as,ra⟩:=IsAll.reads I hs rv
  obtain ⟨o,ho,hc,n,hd⟩:=pl.isList
  exact ⟨_,.list ho hc hd (by simpa using ra)⟩
 | _,_,_,.tup hq hs,r=>by
  cases r
  obtain ⟨its,rv,pl,hz⟩:=I.tuple hq
  obtain ⟨as,ra⟩:=IsAll.reads I hs rv
  obtain ⟨o,ho,hc,n,hd⟩:=pl
  exact ⟨_,.tuple ho hc hd (by simpa using ra)⟩
 | _,_,_,.dc (a:=a) e,r=>by
  cases r
  obtain ⟨_,_,vs,kv,o,es,ep,h1,h2,h3,h4,h5,h6⟩:=(show jn X.prog X.w H s.heap a (.dK []) from I.hok a _ e)
  have hv:vs=[]:=by cases kv;rfl
  subst hv
  have he:es.toList=[]:=by
   generalize es.toList=l at h5
   cases h5
   rfl
  exact ⟨_,.dict h1 h2.1 h3 (by rw [he];exact .nil) (by rw [he];exact .nil)⟩
theorem IsAll.reads (I:Inv X pins σ H s):∀ {xs:List V}{ds:List PyData}{us:List Value},IsAll X.K H xs ds->yb xs us->∃ as,ReadsAll s.heap us ds as
 | _,_,_,.nil,r=>by cases r;exact ⟨_,.nil⟩
 | _,_,_,.cons h hs,r=>by
  cases r with
  | cons r1 r2 =>
   obtain ⟨as,ra⟩:=Is.reads I h r1
   obtain ⟨bs,rb⟩:=IsAll.reads I hs r2
   exact ⟨_,.cons ra rb⟩
end
end
section
variable {X:Cx}
def rEqD (K:W.Frag):R2:=fun x y H Q=>∃ d d',Is K H x d/\Is K H y d'/\SeqAt.shaped d=true/\SeqAt.shaped d'=true/\Q (.bl (PyData.eqv d d')) H
def rNeD (K:W.Frag):R2:=fun x y H Q=>∃ d d',Is K H x d/\Is K H y d'/\SeqAt.shaped d=true/\SeqAt.shaped d'=true/\Q (.bl (!PyData.eqv d d')) H
theorem qjC (hu:X.A.units+64<cLine):OpR X (compareOp .Eq) (rEqD X.K):=by
 intro pins s σ H x y v u Q I rx ry h
 obtain ⟨d,d',h1,h2,h3,h4,q⟩:=h
 obtain ⟨as,ra⟩:=h1.reads I rx
 obtain ⟨bs,rb⟩:=h2.reads I ry
 exact eq_dataH ra rb h3 h4 hu ⟨.bl _,H,I,rfl,q⟩
theorem qjz (hu:X.A.units+64<cLine):OpR X (compareOp .NotEq) (rNeD X.K):=by
 intro pins s σ H x y v u Q I rx ry h
 obtain ⟨d,d',h1,h2,h3,h4,q⟩:=h
 obtain ⟨as,ra⟩:=h1.reads I rx
 obtain ⟨bs,rb⟩:=h2.reads I ry
 exact ne_dataH ra rb h3 h4 hu ⟨.bl _,H,I,rfl,q⟩
theorem qky {bs:List Bool}{its:List Value}(r:yb (bs.map V.bl) its) {i:Nat}{v:Value}(e:its[i]?=some v):v = .bool (bs.getD i false):=by
 have hl:=r.length
 rw [List.length_map] at hl
 have hi:i<its.length:=(ql.mp e).1
 have hb:(bs.map V.bl)[i]?=some (V.bl (bs.getD i false)):=by
  rw [List.getElem?_map]
  have:bs[i]?=some (bs.getD i false):=by
   rw [qz,List.getElem?_eq_getElem (by omega)];rfl
  rw [this];rfl
 obtain ⟨u,eu,ru⟩:=r.get hb
 rw [e] at eu
 cases eu
 exact ru
theorem qcZ (bs:List Bool):(List.range bs.length).all (fun i=>bs.getD i false)=bs.all id:=by
 rw [Bool.eq_iff_iff]
 simp only [List.all_eq_true,List.mem_range,id]
 constructor
 ·intro h b hb
  obtain ⟨i,hi,rfl⟩:=yF.mp hb
  have:=h i hi
  rwa [qz,List.getElem?_eq_getElem hi] at this
 ·intro h i hi
  rw [qz,List.getElem?_eq_getElem hi]
  exact h _ (qO hi)
theorem qfN (hc:X.calm=true):yR X (.builtin "all") (fun xs H Q=>∃ (p:Addr) (bs:List Bool),xs=[.ref p]/\SqL X.K H p (bs.map V.bl)/\Q (.bl (bs.all id)) H):=by
 intro pins s σ H xs us Q I r h
 obtain ⟨p,bs,rfl,hq,q⟩:=h
 obtain ⟨u,rfl,rx⟩:=Y8 r
 cases rx
 obtain ⟨its,rv,pl,hz⟩:=I.list hq
 have hl:=rv.length
 rw [List.length_map] at hl
 refine call_all_walk (wpAny_pyIter_list pl.isList ?_)
 have hlt:p<s.heap.objs.size:=by obtain ⟨o,e,_⟩:=pl.isList;exact qh e
 refine ⟨s.heap.objs.size,_,_,_,_,_,fun i=>bs.getD i false,rfl,Walks.list (A:=X.A.in1) (I.ok.hd hc) s.heap.objs.size p (qk hlt) its.toArray,⟨⟨_,qx _ rfl,rfl,rfl⟩,pl.isList.push _⟩,?_,fun h' tk k=>?_⟩
 ·intro i v s Q E e hQ
  have e':its[i]?=some v:=by simpa using e
  rw [qky rv e']
  exact wpAny_truthy_bool hQ
 ·rw [List.size_toArray,<- hl,qcZ]
  refine ⟨.bl _,H,I.kept (fun b o e=>k b o (fun hb=>?_) (qc _ e)),rfl,q⟩
  have:b=s.heap.objs.size:=by simpa using hb
  exact absurd (this ▸ qh e) (yc _)
def qge (K:W.Frag):V->List V->Hp->VK->Prop:=fun x vs H Q=>∃ (l:Addr) (ns:List Int) (k:Int),x = .ref l/\vs=[.int k]/\SqL K H l (ns.map V.int)/\Q (.int (ns.count k:Nat)) H
theorem Zm:MtR X "list.count" (qge X.K):=by
 intro pins s σ H x xs v us Q I rx rs h
 obtain ⟨l,ns,k,rfl,rfl,hq,q⟩:=h
 cases rx
 obtain ⟨u,rfl,t,rfl⟩:=Y8 rs
 obtain ⟨its,rv,pl,hz⟩:=I.list hq
 exact count_list_ints pl.isList (qb7 rv) ⟨.int _,H,I.tok _,⟨_,rfl⟩,q⟩
end
theorem Y7:bootBuiltins "len" = some (.builtin "len"):=by decide +kernel
theorem qbK:bootBuiltins "abs" = some (.builtin "abs"):=by decide +kernel
theorem qbJ:bootBuiltins "max" = some (.builtin "max"):=by decide +kernel
theorem qkw:bootBuiltins "min" = some (.builtin "min"):=by decide +kernel
theorem qkx:bootBuiltins "all" = some (.builtin "all"):=by decide +kernel
theorem qez:bootBuiltins "divmod" = some (.builtin "divmod"):=by decide +kernel
theorem YH:bootBuiltins "sorted" = some (.builtin "sorted"):=by decide +kernel
theorem JK:bootBuiltins "list" = some (.type "list"):=by decide +kernel
theorem qgH:bootBuiltins "set" = some (.type "set"):=by decide +kernel
def NoX (CX:CXT):Prop:=∀ o H s e s',CX o H s E0 e s'->False
theorem YK:NoX CX0:=fun _ _ _ _ _ h=>h
theorem qfh {CX:CXT}{X:Cx}(h:NoX CX):Passes CX X E0:=fun _ _ _ _ _ _ _ q=>(h _ _ _ _ _ q).elim
def Own (P:Program) (w:World) (K:W.Frag) (mg:Str->Option Value) (base:Heap) (CX:CXT) (k:Nat) (x:Str) (ps:List Str) (sp:Sp):Prop :=
 ∃ (f:Addr) (fd:FuncData),FnOk P w K mg base CX k f fd ps sp/\mg x=some (.ref f)/\W.keepIn K (.ref f)=true/\JO K fd ps []
section
variable {X:Cx}{CX:CXT}{k:Nat}{x:Str}{ps:List Str}{sp:Sp}{e:Expr}{es:List Expr}{t:TA}{p pos:Pos}
theorem qjs (O:Own X.prog X.w X.K X.mg X.base CX k x ps sp) (hX:NoX CX) (hr:Room k X.A) (hg:Gl X x) (ha:PA X (e::es) t) (hdb:(x == ("__debug__" : Str))=false:=by decide)
  (he:starEach (e::es) X.env=(false,eval e X.env)::starEach es X.env:=by rfl) (hpl:(backTo pos (starEach es X.env)).any (·.1)=false:=by rfl):PE X (.Call (.Name x p) (e::es) [] pos) (qiU sp [] E0 t):=by
 obtain ⟨f,fd,F,hm,hk,hb⟩:=O
 exact qhz F hr hg hm hk hb .nil (qfh hX) ha hdb he hpl
end
section
variable {P:Program}{w:World}{K:W.Frag}{mg:Str->Option Value}{base:Heap}{CX:CXT}
theorem Fun.okG {x qual:Str}{st:Stmt}{f:Addr}{fd:FuncData}{N ps:List Str}{k:Nat}{sp:Sp}(F:Fun K x qual st f fd) (S:FnScope N ps (qt st)) (len:∀ vs H Q E,sp vs H Q E->vs.length=ps.length)
  (hbody:∀ (cdv:Value) (A:Around) (outer:List Env) (s:Shared) (H:Hp) (vs:List V) (Q:VK) (E:XK),Room k (A.deeper (envOfC qual (qt st) s.heap.objs.size f cdv))->sp vs H Q E →
   ∃ t,PSs (qeK CX P w K mg base N qual (qt st) f cdv A outer s H E).nox (yK st) t/\t { nx:=fun _ H'=>Q .non H',rt:=Q } (Za N vs) H):FnOk P w K mg base CX (k+1) f fd ps sp:=by
 obtain ⟨oc,od,kV,doc,pm,an,cdv,ct,osl,rfl,lk,hcd⟩:=F.ex
 refine qh8 lk hcd S len fun A outer s H vs Q E hr hsp=>?_
 obtain ⟨t,h,q⟩:=hbody cdv A outer s H vs Q E hr hsp
 exact ⟨t,h.nox,q⟩
end
def Pot (M:Int) (H:Hp) (p:Addr):Prop:=∃ p0 p1:Int,H p=some (.lst [.int p0,.int p1])/\0<=p0/\0<=p1/\p1<M
def Stp (p:Addr) (H H':Hp):Prop:=∀ b o,H b=some o->b≠p->H' b=some o
theorem Stp.refl {p:Addr}{H:Hp}:Stp p H H:=fun _ _ e _=>e
theorem Stp.trans {p:Addr}{H H1 H2:Hp}(a:Stp p H H1) (b:Stp p H1 H2):Stp p H H2:=fun c o e n=>b c o (a c o e n) n
theorem Stp.upd {p:Addr}{H:Hp}{o:HO}:Stp p H (upd H p o):=fun b u e n=>by rw [qI n];exact e
theorem qY.stp {p:Addr}{H H':Hp}(h:qY H H'):Stp p H H':=fun b o e _=>h b o e
theorem qY.upd {p:Addr}{H:Hp}{o:HO}(h:H p=none):qY H (upd H p o):=fun b u e=>by rw [qI (qC e h)];exact e
theorem Stp.free {p:Addr}{H H':Hp}(h:Stp p H H') {l:Addr}(e:H' l=none) (hp:∃ o,H' p=some o):H l=none:=by
 cases q:H l with
 | none=>rfl
 | some o =>
  by_cases hl:l=p
  ·subst hl
   obtain ⟨u,hu⟩:=hp
   rw [hu] at e;cases e
  ·rw [h l o q hl] at e;cases e
theorem Pot.some {M:Int}{H:Hp}{p:Addr}(h:Pot M H p):∃ o,H p=some o:=let ⟨_,_,e,_⟩:=h;⟨_,e⟩
theorem Stp.lst {K:W.Frag}{p a:Addr}{H H':Hp}{xs:List V}(h:Stp p H H') (e:SqL K H a xs) (n:a≠p):SqL K H' a xs:=by
 rcases e with (e | ⟨o,e⟩) | e
 ·exact .inl (.inl (h _ _ e n))
 ·exact .inl (.inr ⟨o,h _ _ e n⟩)
 ·exact .inr e
def qch (H:Hp) (v:V) (ns:List Int):Prop:=∃ a,v = .ref a/\H a=some (.tup (ns.map V.int))
theorem qch.is {K:W.Frag}{H:Hp}{v:V}{ns:List Int}(h:qch H v ns):Is K H v (.tuple (ns.map PyData.int)):=by
 obtain ⟨a,rfl,e⟩:=h
 exact .tup (SqT.of e) (IsAll.ints ns)
theorem qch.same {H H':Hp}{v:V}{ns:List Int}(s:qY H H') (h:qch H v ns):qch H' v ns:=by
 obtain ⟨a,rfl,e⟩:=h
 exact ⟨a,rfl,s _ _ e⟩
theorem qch.stp {p:Addr}{M:Int}{H H':Hp}{v:V}{ns:List Int}(s:Stp p H H') (hp:Pot M H p) (h:qch H v ns):qch H' v ns:=by
 obtain ⟨a,rfl,e⟩:=h
 obtain ⟨_,_,q,_⟩:=hp
 exact ⟨a,rfl,s _ _ e (qjL e q (by intro z;cases z))⟩
abbrev Pt:=Int×Int
def PtAt (H:Hp) (v:V) (q:Pt):Prop:=qch H v [q.1,q.2]
abbrev Pts (H:Hp):List V->List Pt->Prop:=Paired (PtAt H)
theorem Paired.get {α β:Type}{R:α->β->Prop}:∀ {xs:List α}{ys:List β}{i:Nat}{x:α},Paired R xs ys->xs[i]?=some x->∃ y,ys[i]?=some y/\R x y
 | _,_,_,_,.nil,e=>by simp at e
 | _,_,0,_,.cons r _,e=>by simp at e;subst e;exact ⟨_,rfl,r⟩
 | _,_,i+1,x,.cons _ t,e=>by
  obtain ⟨u,h1,h2⟩:=Paired.get (i:=i) (x:=x) t (by simpa using e)
  exact ⟨u,by simpa using h1,h2⟩
theorem Paired.get' {α β:Type}{R:α->β->Prop}:∀ {xs:List α}{ys:List β}{i:Nat}{y:β},Paired R xs ys->ys[i]?=some y->∃ x,xs[i]?=some x/\R x y
 | _,_,_,_,.nil,e=>by simp at e
 | _,_,0,_,.cons r _,e=>by simp at e;subst e;exact ⟨_,rfl,r⟩
 | _,_,i+1,x,.cons _ t,e=>by
  obtain ⟨u,h1,h2⟩:=Paired.get' (i:=i) (y:=x) t (by simpa using e)
  exact ⟨u,by simpa using h1,h2⟩
theorem Paired.len {α β:Type}{R:α->β->Prop}{xs:List α}{ys:List β}(h:Paired R xs ys):xs.length=ys.length:=PySem.Paired.length h
theorem Pts.same {H H':Hp}{vs:List V}{ps:List Pt}(s:qY H H') (h:Pts H vs ps):Pts H' vs ps:=Paired.mapP h fun _ _ q=>qch.same s q
theorem Pts.stp {p:Addr}{M:Int}{H H':Hp}{vs:List V}{ps:List Pt}(s:Stp p H H') (hp:Pot M H p) (h:Pts H vs ps):Pts H' vs ps:=Paired.mapP h fun _ _ q=>qch.stp s hp q
def ptD (q:Pt):PyData:=.tuple [.int q.1,.int q.2]
theorem Pts.is {K:W.Frag}{H:Hp}:∀ {vs:List V}{ps:List Pt},Pts H vs ps->IsAll K H vs (ps.map ptD)
 | _,_,.nil=>.nil
 | _,_,.cons r t=>.cons (qch.is r) (Pts.is t)
theorem Yz:∀ ns:List Int,PyData.canLayAll0 (ns.map PyData.int)=true
 | []=>by simp [PyData.canLayAll0]
 | _::r=>by simp [PyData.canLayAll0,PyData.canLay0,Yz r]
theorem Y1:∀ ns:List Int,PyData.depthAll (ns.map PyData.int)<=1
 | []=>by simp [PyData.depthAll]
 | _::r=>by
  have:=Y1 r
  simp only [List.map_cons,PyData.depthAll,PyData.depth]
  omega
theorem Yo:∀ ps:List Pt,PyData.canLayAll0 (ps.map ptD)=true
 | []=>by simp [PyData.canLayAll0]
 | _::r=>by simp [PyData.canLayAll0,PyData.canLay0,ptD,Yo r]
theorem YU:∀ ps:List Pt,PyData.depthAll (ps.map ptD)<=3
 | []=>by simp [PyData.depthAll]
 | _::r=>by
  have:=YU r
  simp only [List.map_cons,PyData.depthAll,PyData.depth,ptD]
  omega
theorem yU (ns:List Int):SeqAt.shaped (.tuple (ns.map PyData.int))=true:=by
 have:=Y1 ns
 unfold SeqAt.shaped
 rw [Bool.and_eq_true]
 refine ⟨by simp only [PyData.canLay0,Yz],qB ?_⟩
 simp only [PyData.depth]
 omega
theorem YS (ps:List Pt):SeqAt.shaped (.list (ps.map ptD))=true:=by
 have:=YU ps
 unfold SeqAt.shaped
 rw [Bool.and_eq_true]
 refine ⟨by simp only [PyData.canLay0,Yo],qB ?_⟩
 simp only [PyData.depth]
 omega
theorem qeL {n:Int}(h1:-10000000000000000000000000000000000000000<=n) (h2:n<=10000000000000000000000000000000000000000):Big n:=Big.of 10000000000000000000000000000000000000000 (by decide) h1 h2
theorem sz2:2<=sizeLine:=by decide
theorem sz1:1<=sizeLine:=by decide
theorem Pot.upd {M:Int}{H:Hp}{p l:Addr}{o:HO}(h:Pot M H p) (n:p≠l):Pot M (upd H l o) p:=by
 obtain ⟨p0,p1,e,r⟩:=h
 exact ⟨p0,p1,by rw [qI n];exact e,r⟩
theorem Pot.same {M:Int}{H H':Hp}{p:Addr}(h:Pot M H p) (s:qY H H'):Pot M H' p:=by
 obtain ⟨p0,p1,e,r⟩:=h
 exact ⟨p0,p1,s _ _ e,r⟩
theorem Pts.upd {H:Hp}{l:Addr}{us vs xs:List V}{ps:List Pt}(h:Pts H vs ps) (e:H l=some (.lst us)):Pts (upd H l (.lst xs)) vs ps :=
 Paired.mapP h fun _ _ ⟨a,r,q⟩=>⟨a,r,by rw [qI (qjL q e (by intro z;cases z))];exact q⟩
section
variable {X:Cx}{K:W.Frag}
end
section
variable {P:Program}{w:World}{H:Hp}{h:Heap}{a:Addr}{o:HO}
theorem jn.has (x:jn P w H h a o):∃ ob,h.get? a=some ob:=by
 cases o with
 | lst xs=>obtain ⟨_,_,_,_,e⟩:=x;exact ⟨_,e⟩
 | tup xs=>obtain ⟨_,_,_,ob,e,_⟩:=x;exact ⟨_,e⟩
 | dK kvs=>obtain ⟨_,_,_,_,ob,_,_,e,_⟩:=x;exact ⟨_,e⟩
 | dT kvs=>obtain ⟨_,_,_,_,ob,_,_,e,_⟩:=x;exact ⟨_,e⟩
 | set S n=>obtain ⟨ob,_,_,_,e,_⟩:=x;exact ⟨_,e⟩
 | ins C dx fs=>obtain ⟨_,_,_,e,_⟩:=x;exact ⟨_,e⟩
 | own y=>exact x
 | xd fs=>obtain ⟨_,⟨_,_,_,e,_⟩,_⟩:=x;exact ⟨_,e⟩
 | rng lo hi=>obtain ⟨_,_,_,e⟩:=x;exact ⟨_,e⟩
 | frz ob u=>obtain ⟨e,_⟩:=x;exact ⟨_,e⟩
 | tbl ps=>exact ⟨_,(show h.get? a=some _ from x)⟩
 | met f y=>exact ⟨_,(show h.get? a=some _ from x)⟩
 | ext φ=>obtain ⟨_,e,_⟩:=x;exact e
end
section
variable {P:Program}{w:World}{K:W.Frag}{mg:Str->Option Value}{base:Heap}{N:List Str}{qual:Str}{scope:Scope}{f C:Addr}{cd:Value}{A:Around}{outer:List Env}{s:Shared}{H:Hp}{E:XK}
 {x:Str}{B newId initId:String}{bmB:List Value}{e₀:Expr}{yD:List Expr}{t:TA}{np cpos pos:Pos}
end
section
variable {X:Cx}{pins:List (Addr×Obj)}{σ:St}{H H':Hp}{s:Shared}
theorem Inv.goes {i:Nat}{n:Str}{h':Heap}{m:Str->Option Value}{v:Option Value}(I:Inv X pins σ H s) (hN:X.N.Nodup) (hi:X.N[i]?=some n) (hn:s.heap.Ns X.env.locals m)
  (hl:∀ (j:Nat) (x:Str) (v:V),X.N[j]?=some x->σ[j]?=some (some v)->Vis X.env.scope x->∃ u,yP v u/\Look X.env s.heap m x u)
  (hn':h'.Ns X.env.locals (fun x=>if x=n then v else m x)) (hs:Heap.SameBut X.env.locals s.heap h') (tk:Nat):Inv X pins (σ.set i none) H { s with heap:=h',toks:=tk }:=by
 have keepb:∀ b o,b≠X.env.locals->s.heap.get? b=some o->h'.get? b=some o:=fun b o hb e=>(hs.2 b hb).trans e
 have neL:∀ b o,X.s₀.heap.get? b=some o->b≠X.env.locals:=fun b o e=>qk (qH (qh e) I.ok.above)
 refine ⟨I.ok,I.os,I.bare,⟨fun b o e n hb hx=>keepb b o (neL b o e) (I.base.keep b o e n hb hx),fun b o e n hb hx=>?_,I.base.free,fun b o e hx=>?_,I.base.tups,I.base.frzs,I.base.tbls⟩,⟨_,hn',fun j y u e1 e2 e3=>?_⟩,fun y c e=>?_,I.free,I.freeC,fun p hp=>?_,fun b u e=>?_,by simpa using I.len⟩
 ·obtain ⟨sl,e1⟩:=I.base.slot b o e n hb hx
  exact ⟨sl,keepb b _ (neL b o e) e1⟩
 ·obtain ⟨o',e1⟩:=I.base.there b o e hx
  exact ⟨o',keepb b _ (neL b o e) e1⟩
 ·have hji:j≠i:=by
   rintro rfl
   rw [List.getElem?_set] at e2
   simp only [if_true] at e2
   split at e2 <;> cases e2
  rw [List.getElem?_set_ne (Ne.symm hji)] at e2
  obtain ⟨u',r,q⟩:=hl j y u e1 e2 e3
  refine ⟨u',r,?_⟩
  rcases q with ⟨k,e⟩ | ⟨k,c,e,z⟩
  ·refine .inl ⟨k,?_⟩
   have hy:y≠n:=fun z=>hji (Zl hN e1 (z ▸ hi))
   simp [hy,e]
  ·exact .inr ⟨k,c,e,z.sameBut hs (I.cne y c e)⟩
 ·obtain ⟨v',z⟩:=I.cell y c e
  exact ⟨v',z.sameBut hs (I.cne y c e)⟩
 ·obtain ⟨e,n,ne,nf,d⟩:=I.pin p hp
  exact ⟨keepb _ _ ne e,n,ne,nf,d⟩
 ·refine (I.hok b u e).stay (fun c v hc q=>keepb c v ?_ q) (fun _ q=>q) fun _ _ q=>q
  rintro rfl
  rcases hc with z | z
  ·rw [<- z,I.free] at e;cases e
  ·rw [I.free] at z;cases z
end
abbrev blank (n:Nat):St:=List.replicate n none
section
variable {X:Cx}
end
end L2
namespace L2
open PySem PySem.Spec PyProof.Rows PySem.W Builtin Builtin.ObjectAttr Builtin.Getset_descriptor
section
variable {prog:Program}{w:World}{A:Around}{E:Value->Shared->Prop}{K:Frag}{x C:Addr}
structure ExcCls (K:Frag) (C:Addr):Prop where
 ga:findIn K (.ref C) "__getattribute__" = some (some (.builtin "BaseException.__getattribute__"))
 gb:findIn K (.ref C) "__getattr__" = some none
 cl:findIn K (.ref C) "__class__" = some (some (.builtin "object.__class__"))
 gt:specialIn K (.builtin "object.__class__") "__get__" = some (some (.builtin "getset_descriptor.__get__"))
 tk:takesIn K (.builtin "object.__class__")=some true
 ob:mroIn K C (.type "object")=some true
 be:mroIn K C (.type "BaseException")=some true
 ct:(clsIn K C).isSome=true
end
section
variable {K:Frag}{x C:Addr}
end
def clsV:V->Value->Prop
 | .ref D,u=>u = .ref D
 | .ty n,u=>u = .type n
 | _,_=>False
theorem clsV.rel {v:V}{u u':Value}(h:clsV v u) (r:yP v u'):u'=u:=by
 cases v <;> first | exact h.elim | (cases h;cases r;rfl)
open PySem PySem.Spec PyProof.Rows
section
variable {X:Cx}{pins:List (Addr×Obj)}{σ:St}{H:Hp}{s:Shared}
theorem Inv.laidN {a:Addr}{o:HO}{h':Heap}{t':Nat}(I:Inv X pins σ H s) (k:∀ b u,s.heap.get? b=some u->h'.get? b=some u) (hp:s.heap.get? a=none) (new:jn X.prog X.w (upd H a o) h' a o) :
  H a=none/\Inv X pins σ (upd H a o) { s with heap:=h',toks:=t' }:=by
 have hn:H a=none:=by
  cases z:H a with
  | none=>rfl
  | some u =>
   obtain ⟨ob,e⟩:=(I.hok a u z).has
   rw [hp] at e;cases e
 refine ⟨hn,I.un ⟨fun b u q _ _ _=>k b u q,fun b u q _ _ _=>⟨u.slots,k b u q⟩,fun b u q n _=>?_,fun b u q _=>⟨u,k b u q⟩,fun b xs q=>?_,fun b u xs q=>?_,fun b ps q=>?_⟩ fun b u e=>?_⟩
 ·rw [qI (fun z=>by rw [z,hp] at q;cases q)];exact n
 ·rw [qI (qC q hn)];exact q
 ·rw [qI (qC q hn)];exact q
 ·exact ⟨#[],by rw [qI (qC q hn),q];simp⟩
 ·by_cases hb:b=a
  ·subst hb
   rw [qM] at e;cases e;exact new
  ·rw [qI hb] at e
   exact (I.hok b u e).stay (fun c v _ q=>k c v q) (fun c q=>by rw [qI (qC q hn)];exact q) fun c xs q=>by rw [qI (qC q hn)];exact q
end
section
variable {X:Cx}{K:W.Frag}{C:Addr}{x:Str}{e:Expr}{es:List Expr}{t:TA}{p pos:Pos}
end
structure RoomU (k:Nat) (A:Around):Prop where
 dp:A.depth+3 * k+5<recursionLimit
 un:A.units+16 * k+200<cLine
theorem Room.toU {k:Nat}{A:Around}(r:Room k A):RoomU k A:=⟨r.dp,r.un⟩
theorem RoomU.mono {j k:Nat}{A:Around}(r:RoomU k A) (h:j<=k):RoomU j A:=⟨by have:=r.dp;omega,by have:=r.un;omega⟩
theorem RoomU.units {k:Nat}{A:Around}(r:RoomU k A):A.units+64<cLine:=by have:=r.un;omega
structure FnU (P:Program) (w:World) (K:W.Frag) (mg:Str->Option Value) (base:Heap) (CX:CXT) (k:Nat) (f:Addr) (fd:FuncData) (ps:List Str) (sp:Sp):Prop where
 len:∀ vs H Q E,sp vs H Q E->vs.length=ps.length
 run:∀ (A:Around) (outer:List Env) (s:Shared) (H:Hp) (args:Args) (us:List Value) (vs:List V) (Q:VK) (E:XK),RoomU k A->Env0 P w K mg base A outer s H->BindsTo s fd args (ps.zip us)->yb vs us->sp vs H Q E →
  codeAny (model P w) A (.call (.ref f) args) (CR CX outer P w H s Q E) s
theorem FnU.ok {P:Program}{w:World}{K:W.Frag}{mg:Str->Option Value}{base:Heap}{CX:CXT}{k:Nat}{f:Addr}{fd:FuncData}{ps:List Str}{sp:Sp}(F:FnU P w K mg base CX k f fd ps sp):FnOk P w K mg base CX k f fd ps sp :=
 ⟨F.len,fun A outer s H args us vs Q E hr=>F.run A outer s H args us vs Q E hr.toU⟩
section
variable {P:Program}{w:World}{K:W.Frag}{mg:Str->Option Value}{base:Heap}{CX:CXT}
end
def OwnU (P:Program) (w:World) (K:W.Frag) (mg:Str->Option Value) (base:Heap) (CX:CXT) (k:Nat) (x:Str) (ps:List Str) (sp:Sp):Prop :=
 ∃ (f:Addr) (fd:FuncData),FnU P w K mg base CX k f fd ps sp/\mg x=some (.ref f)/\W.keepIn K (.ref f)=true/\JO K fd ps []
theorem OwnU.own {P:Program}{w:World}{K:W.Frag}{mg:Str->Option Value}{base:Heap}{CX:CXT}{k:Nat}{x:Str}{ps:List Str}{sp:Sp}(O:OwnU P w K mg base CX k x ps sp):Own P w K mg base CX k x ps sp :=
 let ⟨f,fd,F,r⟩:=O;⟨f,fd,F.ok,r⟩
section
variable {X:Cx}{CX:CXT}{k:Nat}{x:Str}{ps:List Str}{sp:Sp}{e:Expr}{es:List Expr}{t:TA}{p pos:Pos}
end
end L2
namespace L2
open PySem PySem.Spec PyProof.Rows PySem.W
structure Ord (f:Nat->Nat->Bool):Prop where
 asym:∀ a b,f a b=true->f b a=false
 neg:∀ a b c,f a c=true->f a b=true\/f b c=true
abbrev gD (p:Array Nat) (i:Nat):Nat:=p.getD i 0
theorem qj5 {p q:Array Nat}{i j:Nat}(h:p[i]?=q[j]?):gD p i=gD q j:=by
 simp only [gD,Array.getD_eq_getD_getElem?,h]
section
variable {f:Nat->Nat->Bool}
theorem Ord.irr (O:Ord f) (a:Nat):f a a=false:=by
 cases h:f a a with
 | false=>rfl
 | true=>rw [O.asym a a h] at h;cases h
theorem Ord.le (O:Ord f) {a b c:Nat}(h1:f b a=false) (h2:f c b=false):f c a=false:=by
 cases h:f c a with
 | false=>rfl
 | true=>rcases O.neg _ b _ h with z | z <;> simp_all
theorem Ord.ltl (O:Ord f) {a b c:Nat}(h1:f a b=true) (h2:f c b=false):f a c=true:=by
 rcases O.neg _ c _ h1 with z | z
 ·exact z
 ·rw [h2] at z;cases z
theorem Ord.lel (O:Ord f) {a b c:Nat}(h1:f b a=false) (h2:f b c=true):f a c=true:=by
 rcases O.neg _ a _ h2 with z | z
 ·rw [h1] at z;cases z
 ·exact z
def qcg (f:Nat->Nat->Bool) (p:Array Nat) (k:Nat):Prop:=∀ i j,i<=j->j<k->f (gD p j) (gD p i)=false
def qiB (f:Nat->Nat->Bool) (p:Array Nat) (k:Nat):Prop:=∀ i j,i<=j->j<k->f (gD p i) (gD p j)=false
def Eqv (f:Nat->Nat->Bool) (a b:Nat):Prop:=f a b=false/\f b a=false
theorem Eqv.refl (O:Ord f) (a:Nat):Eqv f a a:=⟨O.irr a,O.irr a⟩
theorem Eqv.symm {a b:Nat}(h:Eqv f a b):Eqv f b a:=⟨h.2,h.1⟩
theorem Eqv.trans (O:Ord f) {a b c:Nat}(h:Eqv f a b) (g:Eqv f b c):Eqv f a c:=⟨O.le g.1 h.1,O.le h.2 g.2⟩
theorem qcg.one (O:Ord f) (p:Array Nat):qcg f p 1:=fun i j h1 h2=>by
 have:i=j:=by omega
 subst this;exact O.irr _
theorem qcg.succ (O:Ord f) {p:Array Nat}{k:Nat}(h0:1<=k) (h:qcg f p k) (g:f (gD p k) (gD p (k - 1))=false):qcg f p (k+1):=fun i j hij hj=>by
 by_cases e:j=k
 ·subst e
  by_cases e2:i=j
  ·subst e2;exact O.irr _
  ·exact O.le (h i (j - 1) (by omega) (by omega)) g
 ·exact h i j hij (by omega)
theorem qiB.succ (O:Ord f) {p:Array Nat}{k:Nat}(h0:1<=k) (h:qiB f p k) (g:f (gD p (k - 1)) (gD p k)=false):qiB f p (k+1):=fun i j hij hj=>by
 by_cases e:j=k
 ·subst e
  by_cases e2:i=j
  ·subst e2;exact O.irr _
  ·exact O.le g (h i (j - 1) (by omega) (by omega))
 ·exact h i j hij (by omega)
def Arr (n:Nat) (p:Array Nat):Prop:=p.Perm (List.range n).toArray
theorem Arr.size {n:Nat}{p:Array Nat}(h:Arr n p):p.size=n:=by rw [h.size_eq];simp
theorem Arr.lt {n:Nat}{p:Array Nat}(h:Arr n p) {i:Nat}(hi:i<n):gD p i<n:=by
 have hs:=h.size
 have hi':i<p.size:=by omega
 have e:gD p i=p[i]:=by simp [gD,Array.getD,hi']
 rw [e]
 have:p[i]∈p.toList:=by simp
 have:=(yd.mp h).mem_iff.mp this
 simpa using this
theorem qgs {p:Array Nat}{i j:Nat}(hj:j<=p.size) (k:Nat):gD (kas_rev p i j) k=if i<=k/\k<j then gD p (i+j - 1 - k) else gD p k:=by
 have e:=getElem?_mirror_all (i:=i) hj k
 unfold kas_rev
 by_cases h1:i<=k/\k<j
 ·rw [if_pos h1] at e ⊢;exact qj5 e
 ·rw [if_neg h1] at e ⊢;exact qj5 e
theorem eqv_l (O:Ord f) {a b c:Nat}(h:Eqv f a b):f a c=f b c:=by
 cases h1:f b c with
 | true=>exact O.lel h.2 h1
 | false =>
  cases h2:f a c with
  | false=>rfl
  | true =>
   have:=O.lel h.1 h2
   rw [h1] at this;cases this
theorem eqv_r (O:Ord f) {a b c:Nat}(h:Eqv f a b):f c a=f c b:=by
 cases h1:f c b with
 | true=>exact O.ltl h1 h.1
 | false =>
  cases h2:f c a with
  | false=>rfl
  | true =>
   have:=O.ltl h2 h.2
   rw [h1] at this;cases this
theorem qiB.eqv (O:Ord f) {p q:Array Nat}{k:Nat}(h:qiB f p k) (e:∀ i,Eqv f (gD q i) (gD p i)):qiB f q k:=fun i j h1 h2=>by
 rw [eqv_l O (e i),eqv_r O (e j)];exact h i j h1 h2
theorem qcg.ofRev {p:Array Nat}{k:Nat}(hk:k<=p.size) (h:qiB f p k):qcg f (kas_rev p 0 k) k:=fun i j h1 h2=>by
 rw [qgs hk,qgs hk,if_pos (by omega),if_pos (by omega)]
 exact h _ _ (by omega) (by omega)
section
variable {n:Nat}{cmp:Nat->Nat->(Bool->Shared->Prop)->Shared->Prop}{s:Shared}
end
end
end L2
namespace L2
open PySem PySem.Spec PyProof.Rows PySem.W
def qdL (fin:Bool):List Int->List Int->Bool
 | x::r,y::t=>if x=y then qdL fin r t else decide (x<y)
 | _,_=>fin
theorem qdK:∀ ns ms:List Int,qdL (decide (ns.length<ms.length)) ns ms=decide (ns<ms)
 | [],[]=>by simp [qdL]
 | [],_::_=>by simp [qdL]
 | _::_,[]=>by simp [qdL]
 | x::r,y::t=>by
  have ih:=qdK r t
  simp only [qdL,List.length_cons,Nat.add_lt_add_iff_right]
  by_cases e:x=y
  ·subst e
   rw [if_pos rfl,ih]
   simp [List.cons_lt_cons_iff]
  ·rw [if_neg e]
   simp [List.cons_lt_cons_iff,e]
theorem qbp {a b:List Int}(h:a<b):¬ b<a:=fun g=>List.lt_irrefl a (List.lt_trans h g)
theorem qdF (ks:Nat->List Int):Ord fun i j=>decide (ks i<ks j) where
 asym a b h:=yr (qbp (qy h))
 neg a b c h:=by
  have h:=qy h
  by_cases e:ks a<ks b
  ·exact .inl (qB e)
  ·exact .inr (qB (List.lt_of_le_of_lt (List.not_lt.mp e) h))
def yE (h:Heap) (v:Value) (ks:List Int):Prop:=∃ b o xs n,v = .ref b/\h.get? b=some o/\o.cls = .type "tuple" /\ o.data = .seq xs n/\IntsAre xs.toList ks/\ks≠[]
theorem yE.kept {h h':Heap}{v:Value}{ks:List Int}(k:∀ b o,h.get? b=some o->o.cls = .type "tuple" -> h'.get? b=some o) (t:yE h v ks):yE h' v ks:=by
 obtain ⟨b,o,xs,n,e,ho,hc,r⟩:=t
 exact ⟨b,o,xs,n,e,k b o ho hc,hc,r⟩
section
variable {prog:Program}{w:World}{A:Around}{E:Value->Shared->Prop}{s:Shared}
theorem qgm {fin:Bool}{Q:Bool->Shared->Prop}:∀ {xs ys:List Value}{ns ms:List Int}(i:Nat),IntsAre xs ns->IntsAre ys ms->Q (qdL fin ns ms) s->KatLex prog w A true fin Q (xs.zip ys) i s
 | _,_,_,_,i,.nil,_,q=>kat_nil (by simpa [qdL] using q)
 | _,_,_,_,i,.cons _ _ _,.nil,q=>kat_nil (by simpa [qdL] using q)
 | _,_,_,_,i,.cons x t hx,.cons y u hy,q=>by
  refine kat_cons (wpAny_eqBool_int ?_)
  by_cases e:x=y
  ·subst e
   rw [beq_self_eq_true]
   exact kat_yes (qgm (i+1) hx hy (by simpa [qdL] using q))
  ·have hb:(x == y)=false:=by simpa using e
   rw [hb]
   have q':Q (decide (x<y)) s:=by simpa [qdL,e] using q
   refine kat_no ?_
   cases i with
   | zero=>exact oneLt_int q'
   | succ i=>exact kat_one _ _ (lt_int q')
theorem lt_wp {v u:Value}{ns ms:List Int}{Q:Bool->Shared->Prop}(h1:yE s.heap v ns) (h2:yE s.heap u ms) (q:Q (decide (ns<ms)) s):wpAny (model prog w) A (keyLt' (tuples' true) v u) Q E s:=by
 obtain ⟨a,o,xs,n,rfl,ho,_,hd,hi,_⟩:=h1
 obtain ⟨b,o',ys,n',rfl,ho',_,hd',hi',_⟩:=h2
 refine kat_lt ho hd ho' hd' (qgm 0 hi hi' ?_)
 have e1:=IntsAre.length hi
 have e2:=IntsAre.length hi'
 simp only [Array.length_toList] at e1 e2
 rw [e1,e2,qdK]
 exact q
theorem Yj {h:Heap}:∀ {vs:List Value}{kss:List (List Int)},PySem.Paired (yE h) vs kss->∃ fs:List Value,KatTups h vs fs/\fs.length=vs.length/\∀ v∈fs,∃ i t,v = .int i t
 | _,_,.nil=>⟨[],trivial,rfl,fun _ z=>nomatch z⟩
 | _,_,.cons ⟨a,o,xs,n,e,ho,hc,hd,hi,hn⟩ r=>by
  obtain ⟨fs,k,hl,hf⟩:=Yj r
  subst e
  obtain ⟨l⟩:=xs
  cases hi with
  | nil=>exact absurd rfl hn
  | cons i t hr =>
   refine ⟨.int i t::fs,KatTups.cons ho hc hd rfl k,by simp [hl],fun v hv=>?_⟩
   rcases List.mem_cons.mp hv with rfl | hv
   ·exact ⟨i,t,rfl⟩
   ·exact hf v hv
theorem qdO {vs:List Value}{kss:List (List Int)}{Q:SortKind->Shared->Prop}(hT:PySem.Paired (yE s.heap) vs kss) (h2:0<vs.length) (q:Q (tuples' true) s):wpAny (model prog w) A (keyKind' vs.toArray) Q E s:=by
 obtain ⟨fs,k,hl,hf⟩:=Yj hT
 refine kat_kind (T:=.type "int") k (by omega) (fun v hv=>?_) rfl q
 obtain ⟨i,t,rfl⟩:=hf v hv
 exact Looks.now
end
end L2
namespace L2
open PySem PySem.Spec PyProof.Rows PySem.W
structure OrdK (f:Keyed->Keyed->Bool):Prop where
 asym:∀ a b,f a b=true->f b a=false
 neg:∀ a b c,f a c=true->f a b=true\/f b c=true
section
variable {f:Keyed->Keyed->Bool}
theorem OrdK.irr (O:OrdK f) (a:Keyed):f a a=false:=by
 cases h:f a a with
 | false=>rfl
 | true=>rw [O.asym a a h] at h;cases h
theorem OrdK.le (O:OrdK f) {a b c:Keyed}(h1:f b a=false) (h2:f c b=false):f c a=false:=by
 cases h:f c a with
 | false=>rfl
 | true=>rcases O.neg _ b _ h with z | z <;> simp_all
theorem OrdK.ltl (O:OrdK f) {a b c:Keyed}(h1:f a b=true) (h2:f c b=false):f a c=true:=by
 rcases O.neg _ c _ h1 with z | z
 ·exact z
 ·rw [h2] at z;cases z
theorem OrdK.lel (O:OrdK f) {a b c:Keyed}(h1:f b a=false) (h2:f b c=true):f a c=true:=by
 rcases O.neg _ a _ h2 with z | z
 ·rw [h1] at z;cases z
 ·exact z
def SdK (f:Keyed->Keyed->Bool) (l:List Keyed):Prop:=l.Pairwise fun x y=>f y x=false
def Ask (prog:Program) (w:World) (A:Around) (E:Value->Shared->Prop) (s:Shared) (kd:SortKind) (D:Keyed->Prop) (f:Keyed->Keyed->Bool):Prop :=
 ∀ (x y:Keyed) (st:SortSt) (Q:Option Bool->SortSt->Prop),D x->D y->kindOf st=kd->Q (some (f x y)) st->wpS (model prog w) A E s (lt' x y) Q st
end
def yV:Bool->Keyed->Array Keyed->Nat->Nat->Nat->StateT SortSt Sem (Option Nat):=sortPriv% PySem.Builtin.gallop
def Jl (left:Bool) (key:Keyed) (arr:Array Keyed) (base i:Nat):StateT SortSt Sem (Option Bool):=do
  let x <- elem' arr (base+i)
  if left then lt' x key else return (<- lt' key x).map (!·)
theorem qb9 (left:Bool) (key:Keyed) (arr:Array Keyed) (base n hint:Nat):yV left key arr base n hint=(do
 let mut lastofs:=0
 let mut ofs:=1
 let mut lo:=0
 let mut hi:=0
 let some right <- Jl left key arr base hint | return none
 if right then
  let maxofs:=n - hint
  for _ in [0:n] do
   if ofs ≥ maxofs then break
   let some more <- Jl left key arr base (hint+ofs) | return none
   if !more then break
   lastofs:=ofs
   ofs:=2 * ofs+1
  lo:=hint+lastofs+1
  hi:=hint+min ofs maxofs
 else
  let maxofs:=hint+1
  for _ in [0:n] do
   if ofs ≥ maxofs then break
   let some found <- Jl left key arr base (hint - ofs) | return none
   if found then break
   lastofs:=ofs
   ofs:=2 * ofs+1
  lo:=hint+1 - min ofs maxofs
  hi:=hint - lastofs
 for _ in [0:n] do
  if lo ≥ hi then break
  let m:=lo+(hi - lo) / 2
  let some more <- Jl left key arr base m | return none
  if more then lo:=m+1 else hi:=m
 return some hi):=rfl
section
variable {prog:Program}{w:World}{A:Around}{E:Value->Shared->Prop}{s:Shared}{kd:SortKind}{D:Keyed->Prop}{f:Keyed->Keyed->Bool}
def byd (f:Keyed->Keyed->Bool) (left:Bool) (key x:Keyed):Bool:=if left then f x key else !f key x
theorem qcr (hA:Ask prog w A E s kd D f) {left:Bool}{key x:Keyed}{arr:Array Keyed}{base i:Nat}{st:SortSt}{Q:Option Bool->SortSt->Prop}(hk:kindOf st=kd) (hx:arr[base+i]?=some x) (dk:D key) (dx:D x) (q:Q (some (byd f left key x)) st) :
  wpS (model prog w) A E s (Jl left key arr base i) Q st:=by
 unfold Jl
 rw [elem'_eq,hx]
 refine qi (qm ?_)
 cases left with
 | true=>exact hA _ _ _ _ dx dk hk q
 | false=>exact qi (hA _ _ _ _ dk dx hk (qm q))
theorem qcq (hA:Ask prog w A E s kd D f) {left:Bool}{key:Keyed}{arr:Array Keyed}{base n hint:Nat}{st:SortSt}{Q:Option Nat->SortSt->Prop}(hk:kindOf st=kd) (xs:List Keyed)
  (hn:xs.length=n) (hx:∀ i (h:i<xs.length),arr[base+i]?=some xs[i]) (dk:D key) (dx:∀ x∈xs,D x) (hh:hint<n) (hm:∀ i j (hi:i<xs.length) (hj:j<xs.length),i<=j->byd f left key xs[j]=true->byd f left key xs[i]=true)
  (q:∀ k,k<=n->(∀ i (h:i<xs.length),i<k->byd f left key xs[i]=true)->(∀ i (h:i<xs.length),k<=i->byd f left key xs[i]=false)->Q (some k) st) :
  wpS (model prog w) A E s (yV left key arr base n hint) Q st:=by
 have ask:∀ (i:Nat) (h:i<xs.length) (Q:Option Bool->SortSt->Prop),Q (some (byd f left key xs[i])) st->wpS (model prog w) A E s (Jl left key arr base i) Q st:=fun i h Q q=>qcr hA hk (hx i h) dk (dx _ (qO h)) q
 generalize hp:(fun x=>byd f left key x)=p at *
 have hp':∀ x,byd f left key x=p x:=fun x=>by rw [<- hp]
 simp only [hp'] at hm q ask
 subst hn
 rw [qb9]
 dsimp only
 refine qi (ask hint hh _ ?_)
 dsimp only
 cases hc:p xs[hint] with
 | true =>
  simp only [if_true]
  refine qi (yN (ya (I:=fun x c st'=>st'=st/\∃ l o,c=(none,l,o)/\l<o/\x+1<=o/\hint+l<xs.length/\(∀ h:hint+l<xs.length,p xs[hint+l]=true))
   (Q:=fun c st'=>st'=st/\∃ l o,c=(none,l,o)/\l<o/\hint+l<xs.length/\(∀ h:hint+l<xs.length,p xs[hint+l]=true)/\(xs.length<=hint+o\/∃ h:hint+o<xs.length,p xs[hint+o]=false)) ?step ?fin ⟨rfl,0,1,rfl,by omega,by omega,hh,fun _=>hc⟩) ?post)
  case fin =>
   rintro c st' ⟨rfl,l,o,rfl,a1,a2,a3,a4⟩
   exact ⟨rfl,l,o,rfl,a1,a3,a4,.inl (by omega)⟩
  case step =>
   rintro x c st' _ hx' ⟨rfl,l,o,rfl,a1,a2,a3,a4⟩
   dsimp only
   by_cases hge:o ≥ xs.length - hint
   ·rw [if_pos hge]
    exact qm ⟨rfl,l,o,rfl,a1,a3,a4,.inl (by omega)⟩
   ·rw [if_neg hge]
    have ho:hint+o<xs.length:=by omega
    refine qi (ask _ ho _ ?_)
    dsimp only
    cases hc2:p xs[hint+o] with
    | true =>
     simp only [Bool.not_true,Bool.false_eq_true,if_false]
     exact qm ⟨rfl,o,2 * o+1,rfl,by omega,by omega,ho,fun _=>hc2⟩
    | false =>
     simp only [Bool.not_false,if_true]
     exact qm ⟨rfl,l,o,rfl,a1,a3,a4,.inr ⟨ho,hc2⟩⟩
  case post =>
   rintro c st' ⟨rfl,l,o,rfl,a1,a3,a4,a5⟩
   dsimp only
   have h3:∀ i (h:i<xs.length),i<(hint+l+1)->p xs[i]=true:=fun i h hi=>by
    exact hm i (hint+l) h a3 (by omega) (a4 a3)
   have h4:∀ i (h:i<xs.length),(hint+min o (xs.length - hint))<=i->p xs[i]=false:=fun i h hi=>by
    rcases a5 with a5 | ⟨a5,a6⟩
    ·exact absurd h (by omega)
    ·cases hz:p xs[i] with
     | false=>rfl
     | true=>rw [hm (hint+o) i a5 h (by omega) hz] at a6;cases a6
   refine qi (yN (ya (I:=fun x c sx=>sx=st'/\∃ l r,c=(none,l,r)/\l<=r/\r<=xs.length/\r - l<=xs.length - x/\(∀ i (h:i<xs.length),i<l->p xs[i]=true)/\(∀ i (h:i<xs.length),r<=i->p xs[i]=false))
    (Q:=fun c sx=>sx=st'/\∃ r,c=(none,r,r)/\r<=xs.length/\(∀ i (h:i<xs.length),i<r->p xs[i]=true)/\(∀ i (h:i<xs.length),r<=i->p xs[i]=false)) ?step0 ?fin0 ⟨rfl,(hint+l+1),(hint+min o (xs.length - hint)),rfl,by omega,by omega,by omega,h3,h4⟩) ?post0)
   case fin0 =>
    rintro c st' ⟨rfl,l,r,rfl,a1,a2,a3,a4,a5⟩
    have:l=r:=by omega
    subst this
    exact ⟨rfl,l,rfl,a2,a4,a5⟩
   case step0 =>
    rintro x c st' _ hx' ⟨rfl,l,r,rfl,a1,a2,a3,a4,a5⟩
    dsimp only
    by_cases hge:l ≥ r
    ·rw [if_pos hge]
     have:l=r:=by omega
     subst this
     exact qm ⟨rfl,l,rfl,a2,a4,a5⟩
    ·rw [if_neg hge]
     have hmid:l+(r - l) / 2<xs.length:=by omega
     refine qi (ask _ hmid _ ?_)
     dsimp only
     cases hc:p xs[l+(r - l) / 2] with
     | true =>
      simp only [if_true]
      refine qm ⟨rfl,_,_,rfl,by omega,by omega,by omega,fun i h hi=>?_,a5⟩
      exact hm i (l+(r - l) / 2) h hmid (by omega) hc
     | false =>
      simp only [Bool.false_eq_true,if_false]
      refine qm ⟨rfl,_,_,rfl,by omega,by omega,by omega,a4,fun i h hi=>?_⟩
      cases hz:p xs[i] with
      | false=>rfl
      | true=>rw [hm (l+(r - l) / 2) i hmid h hi hz] at hc;cases hc
   case post0 =>
    rintro c st' ⟨rfl,r,rfl,a2,a4,a5⟩
    exact qm (q r a2 a4 a5)
 | false =>
  simp only [Bool.false_eq_true,if_false]
  refine qi (yN (ya (I:=fun x c st'=>st'=st/\∃ l o,c=(none,l,o)/\l<o/\x+1<=o/\l<=hint/\(∀ h:hint - l<xs.length,p xs[hint - l]=false))
   (Q:=fun c st'=>st'=st/\∃ l o,c=(none,l,o)/\l<o/\l<=hint/\(∀ h:hint - l<xs.length,p xs[hint - l]=false)/\(hint+1<=o\/(o<=hint/\∃ h:hint - o<xs.length,p xs[hint - o]=true))) ?step ?fin ⟨rfl,0,1,rfl,by omega,by omega,by omega,fun _=>hc⟩) ?post)
  case fin =>
   rintro c st' ⟨rfl,l,o,rfl,a1,a2,a3,a4⟩
   exact ⟨rfl,l,o,rfl,a1,a3,a4,.inl (by omega)⟩
  case step =>
   rintro x c st' _ hx' ⟨rfl,l,o,rfl,a1,a2,a3,a4⟩
   dsimp only
   by_cases hge:o ≥ hint+1
   ·rw [if_pos hge]
    exact qm ⟨rfl,l,o,rfl,a1,a3,a4,.inl (by omega)⟩
   ·rw [if_neg hge]
    have ho:hint - o<xs.length:=by omega
    refine qi (ask _ ho _ ?_)
    dsimp only
    cases hc2:p xs[hint - o] with
    | true =>
     simp only [if_true]
     exact qm ⟨rfl,l,o,rfl,a1,a3,a4,.inr ⟨by omega,ho,hc2⟩⟩
    | false =>
     simp only [Bool.false_eq_true,if_false]
     exact qm ⟨rfl,o,2 * o+1,rfl,by omega,by omega,by omega,fun _=>hc2⟩
  case post =>
   rintro c st' ⟨rfl,l,o,rfl,a1,a3,a4,a5⟩
   dsimp only
   have h3:∀ i (h:i<xs.length),i<(hint+1 - min o (hint+1))->p xs[i]=true:=fun i h hi=>by
    rcases a5 with a5 | ⟨a5,a6,a7⟩
    ·exact absurd hi (by omega)
    ·exact hm i (hint - o) h a6 (by omega) a7
   have h4:∀ i (h:i<xs.length),(hint - l)<=i->p xs[i]=false:=fun i h hi=>by
    have hz0:=a4 (by omega)
    cases hz:p xs[i] with
    | false=>rfl
    | true=>rw [hm (hint - l) i (by omega) h hi hz] at hz0;cases hz0
   refine qi (yN (ya (I:=fun x c sx=>sx=st'/\∃ l r,c=(none,l,r)/\l<=r/\r<=xs.length/\r - l<=xs.length - x/\(∀ i (h:i<xs.length),i<l->p xs[i]=true)/\(∀ i (h:i<xs.length),r<=i->p xs[i]=false))
    (Q:=fun c sx=>sx=st'/\∃ r,c=(none,r,r)/\r<=xs.length/\(∀ i (h:i<xs.length),i<r->p xs[i]=true)/\(∀ i (h:i<xs.length),r<=i->p xs[i]=false)) ?step1 ?fin1 ⟨rfl,(hint+1 - min o (hint+1)),(hint - l),rfl,by omega,by omega,by omega,h3,h4⟩) ?post1)
   case fin1 =>
    rintro c st' ⟨rfl,l,r,rfl,a1,a2,a3,a4,a5⟩
    have:l=r:=by omega
    subst this
    exact ⟨rfl,l,rfl,a2,a4,a5⟩
   case step1 =>
    rintro x c st' _ hx' ⟨rfl,l,r,rfl,a1,a2,a3,a4,a5⟩
    dsimp only
    by_cases hge:l ≥ r
    ·rw [if_pos hge]
     have:l=r:=by omega
     subst this
     exact qm ⟨rfl,l,rfl,a2,a4,a5⟩
    ·rw [if_neg hge]
     have hmid:l+(r - l) / 2<xs.length:=by omega
     refine qi (ask _ hmid _ ?_)
     dsimp only
     cases hc:p xs[l+(r - l) / 2] with
     | true =>
      simp only [if_true]
      refine qm ⟨rfl,_,_,rfl,by omega,by omega,by omega,fun i h hi=>?_,a5⟩
      exact hm i (l+(r - l) / 2) h hmid (by omega) hc
     | false =>
      simp only [Bool.false_eq_true,if_false]
      refine qm ⟨rfl,_,_,rfl,by omega,by omega,by omega,a4,fun i h hi=>?_⟩
      cases hz:p xs[i] with
      | false=>rfl
      | true=>rw [hm (l+(r - l) / 2) i hmid h hi hz] at hc;cases hc
   case post1 =>
    rintro c st' ⟨rfl,r,rfl,a2,a4,a5⟩
    exact qm (q r a2 a4 a5)
end
end L2
namespace L2
open PySem PySem.Spec PyProof.Rows PySem.W
section
variable {f:Keyed->Keyed->Bool}
theorem qfP (O:OrdK f) {left:Bool}{key:Keyed}{xs:List Keyed}(hs:SdK f xs) (i j:Nat) (hi:i<xs.length) (hj:j<xs.length) (hij:i<=j) (h:byd f left key xs[j]=true):byd f left key xs[i]=true:=by
 have hle:f xs[j] xs[i]=false:=by
  by_cases e:i=j
  ·subst e;exact O.irr _
  ·exact qL.mp hs i j hi hj (by omega)
 unfold byd at *
 cases left with
 | true =>
  simp only [if_true] at *
  exact O.lel hle h
 | false =>
  simp only [Bool.false_eq_true,if_false,Bool.not_eq_true'] at *
  exact O.le hle h
theorem mv {out X A B:List Keyed}(h1:SdK f (out++(X++A))) (h2:SdK f (out++B)) (c:∀ x∈X,∀ y∈B,f y x=false):SdK f ((out++X)++A)/\SdK f ((out++X)++B):=by
 unfold SdK at *
 refine ⟨by rw [List.append_assoc];exact h1,?_⟩
 rw [<- List.append_assoc] at h1
 obtain ⟨g1,_,_⟩:=qR.mp h1
 obtain ⟨_,k2,k3⟩:=qR.mp h2
 refine qR.mpr ⟨g1,k2,fun x hx y hy=>?_⟩
 rcases List.mem_append.mp hx with h | h
 ·exact k3 x h y hy
 ·exact c x h y hy
theorem qkM {O' X A B:List Keyed}(h1:SdK f ((A++X)++O')) (h2:SdK f (B++O')) (c:∀ x∈X,∀ y∈B,f x y=false):SdK f (A++(X++O'))/\SdK f (B++(X++O')):=by
 unfold SdK at *
 rw [List.append_assoc] at h1
 refine ⟨h1,?_⟩
 obtain ⟨_,g1,_⟩:=qR.mp h1
 obtain ⟨k1,_,k3⟩:=qR.mp h2
 refine qR.mpr ⟨k1,g1,fun x hx y hy=>?_⟩
 rcases List.mem_append.mp hy with h | h
 ·exact c y h x hx
 ·exact k3 x hx y h
end
section
variable {prog:Program}{w:World}{A:Around}{E:Value->Shared->Prop}{s:Shared}{kd:SortKind}{D:Keyed->Prop}{f:Keyed->Keyed->Bool}
theorem YQ (hA:Ask prog w A E s kd D f) (O:OrdK f) {left:Bool}{key:Keyed}{arr:Array Keyed}{base n hint:Nat}{st:SortSt}{Q:Option Nat->SortSt->Prop}(hk:kindOf st=kd) (xs:List Keyed)
  (hn:xs.length=n) (hx:∀ i,i<xs.length->arr[base+i]?=xs[i]?) (dk:D key) (dx:∀ x∈xs,D x) (hh:hint<n) (hs:SdK f xs)
  (q:∀ k,k<=n->(∀ x∈xs.take k,byd f left key x=true)->(∀ x∈xs.drop k,byd f left key x=false)->Q (some k) st) :
  wpS (model prog w) A E s (yV left key arr base n hint) Q st:=by
 refine qcq hA hk xs hn (fun i h=>by rw [hx i h,List.getElem?_eq_getElem h]) dk dx hh (qfP O hs) fun k h1 h2 h3=>q k h1 (fun x hx=>?_) (fun x hx=>?_)
 ·obtain ⟨i,hi,rfl⟩:=yF.mp hx
  rw [List.getElem_take]
  exact h2 i _ (by rw [List.length_take] at hi;omega)
 ·obtain ⟨i,hi,rfl⟩:=yF.mp hx
  rw [List.getElem_drop]
  exact h3 (k+i) _ (by omega)
end
def yq (st st':SortSt):Prop:=kindOf st'=kindOf st/\arrOf st'=arrOf st/\pendingOf st'=pendingOf st/\failedOf st'=failedOf st
theorem yq.refl (st:SortSt):yq st st:=⟨rfl,rfl,rfl,rfl⟩
theorem yq.trans {a b c:SortSt}(h:yq a b) (g:yq b c):yq a c:=⟨g.1.trans h.1,g.2.1.trans h.2.1,g.2.2.1.trans h.2.2.1,g.2.2.2.trans h.2.2.2⟩
def Yb:Array Keyed->Array Keyed->StateT SortSt Sem (Array Keyed):=sortPriv% PySem.Builtin.mergeLo
def yg:Nat->StateT SortSt Sem Unit:=sortPriv% PySem.Builtin.setMinGallop
theorem yH (g:Nat):yg g=modify fun s=>SortSt.mk' (kindOf s) (arrOf s) (pendingOf s) g (failedOf s):=rfl
abbrev GS:=Option (Array Keyed)×Array Keyed×Nat×Nat×Nat×Nat×Nat
abbrev CS:=Option (Array Keyed)×Array Keyed×Nat×Nat×Nat×Nat
def qkN (a b:Array Keyed) (out:Array Keyed) (ia ib mg ac bc:Nat):StateT SortSt Sem (ForInStep GS):=do
 let x <- elem' a ia
 if (ia+1+1 == a.size)=true then pure (.done (some (out.push x++b.extract ib b.size++a.extract (ia+1) a.size),out.push x,ia+1,ib,mg,ac,bc))
 else if (decide (ac<7) && decide (bc<7))=true then pure (.done (none,out.push x,ia+1,ib,mg,ac,bc))
 else pure (.yield (none,out.push x,ia+1,ib,mg,ac,bc))
def loG3 (a b:Array Keyed) (out:Array Keyed) (ia ib mg ac bc:Nat):StateT SortSt Sem (ForInStep GS):=do
 let x <- elem' a ia
 let k <- yV true x b ib (b.size - ib) 0
 match k with
 | some k =>
  if k > 0 then
   if (ib+k == b.size)=true then pure (.done (some (out++b.extract ib (ib+k)++a.extract ia a.size++b.extract (ib+k) b.size),out++b.extract ib (ib+k),ia,ib+k,mg,ac,k))
   else qkN a b (out++b.extract ib (ib+k)) ia (ib+k) mg ac k
  else qkN a b out ia ib mg ac k
 | _=>pure (.done (some (out++a.extract ia a.size++b.extract ib b.size),out,ia,ib,mg,ac,bc))
def qkO (a b:Array Keyed) (out:Array Keyed) (ia ib mg ac bc:Nat):StateT SortSt Sem (ForInStep GS):=do
 let x <- elem' b ib
 if (ib+1 == b.size)=true then pure (.done (some (out.push x++a.extract ia a.size++b.extract (ib+1) b.size),out.push x,ia,ib+1,mg,ac,bc))
 else loG3 a b (out.push x) ia (ib+1) mg ac bc
def qkP (a b:Array Keyed) (out:Array Keyed) (ia ib mg ac bc:Nat):StateT SortSt Sem (ForInStep GS):=do
 yg mg
 let x <- elem' b ib
 let k <- yV false x a ia (a.size - ia) 0
 match k with
 | some k =>
  if k > 0 then
   if (ia+k+1 == a.size)=true then pure (.done (some (out++a.extract ia (ia+k)++b.extract ib b.size++a.extract (ia+k) a.size),out++a.extract ia (ia+k),ia+k,ib,mg,k,bc))
   else if (ia+k == a.size)=true then pure (.done (some (out++a.extract ia (ia+k)++a.extract (ia+k) a.size++b.extract ib b.size),out++a.extract ia (ia+k),ia+k,ib,mg,k,bc))
   else qkO a b (out++a.extract ia (ia+k)) (ia+k) ib mg k bc
  else qkO a b out ia ib mg k bc
 | _=>pure (.done (some (out++a.extract ia a.size++b.extract ib b.size),out,ia,ib,mg,ac,bc))
def loGB (a b:Array Keyed) (_:Nat) (c:GS):StateT SortSt Sem (ForInStep GS) :=
 if c.2.2.2.2.1 > 1 then qkP a b c.2.1 c.2.2.1 c.2.2.2.1 (c.2.2.2.2.1 - 1) c.2.2.2.2.2.1 c.2.2.2.2.2.2 else qkP a b c.2.1 c.2.2.1 c.2.2.2.1 c.2.2.2.2.1 c.2.2.2.2.2.1 c.2.2.2.2.2.2
def loCB (a b:Array Keyed) (mg:Nat) (_:Nat) (c:CS):StateT SortSt Sem (ForInStep CS):=do
 let y <- elem' b c.2.2.2.1
 let x <- elem' a c.2.2.1
 let r <- lt' y x
 match r with
 | some bWins =>
  if bWins=true then do
   let y <- elem' b c.2.2.2.1
   if (c.2.2.2.1+1 == b.size)=true then pure (.done (some (c.2.1.push y++a.extract c.2.2.1 a.size++b.extract (c.2.2.2.1+1) b.size),c.2.1.push y,c.2.2.1,c.2.2.2.1+1,0,c.2.2.2.2.2+1))
   else if c.2.2.2.2.2+1 ≥ mg then pure (.done (none,c.2.1.push y,c.2.2.1,c.2.2.2.1+1,0,c.2.2.2.2.2+1))
   else pure (.yield (none,c.2.1.push y,c.2.2.1,c.2.2.2.1+1,0,c.2.2.2.2.2+1))
  else do
   let x <- elem' a c.2.2.1
   if (c.2.2.1+1+1 == a.size)=true then pure (.done (some (c.2.1.push x++b.extract c.2.2.2.1 b.size++a.extract (c.2.2.1+1) a.size),c.2.1.push x,c.2.2.1+1,c.2.2.2.1,c.2.2.2.2.1+1,0))
   else if c.2.2.2.2.1+1 ≥ mg then pure (.done (none,c.2.1.push x,c.2.2.1+1,c.2.2.2.1,c.2.2.2.2.1+1,0))
   else pure (.yield (none,c.2.1.push x,c.2.2.1+1,c.2.2.2.1,c.2.2.2.2.1+1,0))
 | _=>pure (.done (some (c.2.1++a.extract c.2.2.1 a.size++b.extract c.2.2.2.1 b.size),c.2.1,c.2.2.1,c.2.2.2.1,c.2.2.2.2.1,c.2.2.2.2.2))
abbrev OS:=Option (Array Keyed)×Array Keyed×Nat×Nat×Nat
def loOB (a b:Array Keyed) (_:Nat) (c:OS):StateT SortSt Sem (ForInStep OS):=do
 let c1 <- forIn [0:a.size+b.size] ((none,c.2.1,c.2.2.1,c.2.2.2.1,0,0):CS) (loCB a b c.2.2.2.2)
 match c1.1 with
 | some r=>pure (.done (some r,c1.2.1,c1.2.2.1,c1.2.2.2.1,c.2.2.2.2))
 | none=>do
  liftM (rule "list.sort.gallop")
  let c2 <- forIn [0:a.size+b.size] ((none,c1.2.1,c1.2.2.1,c1.2.2.2.1,c.2.2.2.2+1,c1.2.2.2.2.1,c1.2.2.2.2.2):GS) (loGB a b)
  match c2.1 with
  | some r=>pure (.done (some r,c2.2.1,c2.2.2.1,c2.2.2.2.1,c2.2.2.2.2.1))
  | none=>do
   yg (c2.2.2.2.2.1+1)
   pure (.yield (none,c2.2.1,c2.2.2.1,c2.2.2.2.1,c2.2.2.2.2.1+1))
theorem ZZ (a b:Array Keyed):Yb a b=(do
 rule "list.sort.merge-lo"
 let total:=a.size+b.size
 let done (out:Array Keyed) (ia ib:Nat):=out++a.extract ia a.size++b.extract ib b.size
 let lastOfA (out:Array Keyed) (ia ib:Nat):=out++b.extract ib b.size++a.extract ia a.size
 let mut out:Array Keyed:=#[<- elem' b 0]
 let mut ia:=0
 let mut ib:=1
 if ib == b.size then return done out ia ib
 if ia+1 == a.size then return lastOfA out ia ib
 let mut minGallop:=gallopOf (<- get)
 for _ in [0:total] do
  let mut acount:=0
  let mut bcount:=0
  for _ in [0:total] do
   let some bWins <- lt' (<- elem' b ib) (<- elem' a ia) | return done out ia ib
   if bWins then
    out:=out.push (<- elem' b ib);ib:=ib+1;bcount:=bcount+1;acount:=0
    if ib == b.size then return done out ia ib
    if bcount ≥ minGallop then break
   else
    out:=out.push (<- elem' a ia);ia:=ia+1;acount:=acount+1;bcount:=0
    if ia+1 == a.size then return lastOfA out ia ib
    if acount ≥ minGallop then break
  rule "list.sort.gallop"
  minGallop:=minGallop+1
  for _ in [0:total] do
   if minGallop > 1 then minGallop:=minGallop - 1
   yg minGallop
   let some k <- yV false (<- elem' b ib) a ia (a.size - ia) 0 | return done out ia ib
   acount:=k
   if k > 0 then
    out:=out++a.extract ia (ia+k);ia:=ia+k
    if ia+1 == a.size then return lastOfA out ia ib
    if ia == a.size then return done out ia ib
   out:=out.push (<- elem' b ib);ib:=ib+1
   if ib == b.size then return done out ia ib
   let some k <- yV true (<- elem' a ia) b ib (b.size - ib) 0 | return done out ia ib
   bcount:=k
   if k > 0 then
    out:=out++b.extract ib (ib+k);ib:=ib+k
    if ib == b.size then return done out ia ib
   out:=out.push (<- elem' a ia);ia:=ia+1
   if ia+1 == a.size then return lastOfA out ia ib
   if acount<7 && bcount<7 then break
  minGallop:=minGallop+1
  yg minGallop
 unsupported "internal:list.sort.merge-bound"):=rfl
theorem qaE (a b:Array Keyed):Yb a b=(do
 liftM (rule "list.sort.merge-lo")
 let y <- elem' b 0
 if (1 == b.size)=true then pure (#[y]++a.extract 0 a.size++b.extract 1 b.size)
 else if (0+1 == a.size)=true then pure (#[y]++b.extract 1 b.size++a.extract 0 a.size)
 else do
  let g <- get
  let c <- forIn [0:a.size+b.size] ((none,#[y],0,1,gallopOf g):OS) (loOB a b)
  match c.1 with
  | some r=>pure r
  | none=>liftM (unsupported "internal:list.sort.merge-bound" : Sem (Array Keyed))):=by
 rw [ZZ]
 dsimp only
 congr 1
 funext _u
 congr 1
 funext y
 congr 1
 congr 1
 congr 1
 funext g
 congr 1
 ·congr 1
  funext i c
  unfold loOB
  congr 1
  funext c1
  obtain ⟨r1,o1,ia1,ib1,ac1,bc1⟩:=c1
  cases r1 with
  | some r=>rfl
  | none =>
   dsimp only
   congr 1
   funext _v
   congr 1
   funext c2
   obtain ⟨r2,o2,ia2,ib2,m2,ac2,bc2⟩:=c2
   cases r2 <;> rfl
 ·funext c
  obtain ⟨r,o,ia,ib,m⟩:=c
  cases r <;> rfl
section
variable {prog:Program}{w:World}{A:Around}{E:Value->Shared->Prop}{s:Shared}{kd:SortKind}{D:Keyed->Prop}{f:Keyed->Keyed->Bool}{a b:Array Keyed}
def Jm (f:Keyed->Keyed->Bool) (a b:Array Keyed) (o:Array Keyed):Prop:=SdK f o.toList/\o.toList.Perm (a.toList++b.toList)
structure JL (f:Keyed->Keyed->Bool) (a b out:Array Keyed) (ia ib:Nat):Prop where
 s1:SdK f (out.toList++a.toList.drop ia)
 s2:SdK f (out.toList++b.toList.drop ib)
 pm:(out.toList++(a.toList.drop ia++b.toList.drop ib)).Perm (a.toList++b.toList)
structure Both (D:Keyed->Prop) (f:Keyed->Keyed->Bool) (a b:Array Keyed):Prop where
 da:∀ x∈a.toList,D x
 db:∀ x∈b.toList,D x
 na:0<a.size
 nb:0<b.size
 last:∀ x∈b.toList,f x (a[a.size - 1]'(by omega))=true
 first:f (b[0]'nb) (a[0]'na)=true
 sa:SdK f a.toList
 sb:SdK f b.toList
theorem JL.size (j:JL f a b out ia ib) (h1:ia<=a.size) (h2:ib<=b.size):out.size=ia+ib:=by
 have:=j.pm.length_eq
 simp at this
 omega
theorem getD? {xs:Array Keyed}{i:Nat}(h:i<xs.size):xs[i]?=some xs[i]:=Array.getElem?_eq_getElem h
theorem ji {xs:Array Keyed}{i:Nat}(h:i<xs.size):xs.toList.drop i=xs[i]::xs.toList.drop (i+1):=by
 rw [y6 (by simpa using h)];rfl
theorem Yw (O:OrdK f) {xs:Array Keyed}{i:Nat}(hs:SdK f xs.toList) (h:i<xs.size) {y:Keyed}(hy:y∈xs.toList.drop i):f y xs[i]=false:=by
 rw [ji h] at hy
 rcases List.mem_cons.mp hy with rfl | hy
 ·exact O.irr _
 ·have:SdK f (xs.toList.drop i):=List.Pairwise.sublist (List.drop_sublist _ _) hs
  rw [ji h] at this
  exact (List.pairwise_cons.mp this).1 _ hy
theorem JL.pushB (O:OrdK f) (hb:Both D f a b) (j:JL f a b out ia ib) (h1:ia<a.size) (h2:ib<b.size) (h:f a[ia] b[ib]=false):JL f a b (out.push b[ib]) ia (ib+1):=by
 have e:=ji h2
 have s2:=j.s2
 have pm:=j.pm
 rw [e] at s2 pm
 obtain ⟨g1,g2⟩:=mv (X:=[b[ib]]) s2 j.s1 (fun x hx y hy=>by
  rw [qA.mp hx]
  exact O.le h (Yw O hb.sa h1 hy))
 refine ⟨by rw [Array.toList_push];exact g2,by rw [Array.toList_push];exact g1,?_⟩
 rw [Array.toList_push,List.append_assoc]
 refine List.Perm.trans (List.Perm.append_left _ ?_) pm
 exact (List.perm_middle (l₁:=a.toList.drop ia) (l₂:=b.toList.drop (ib+1)) (a:=b[ib])).symm
theorem JL.pushA (O:OrdK f) (hb:Both D f a b) (j:JL f a b out ia ib) (h1:ia<a.size) (h2:ib<b.size) (h:f b[ib] a[ia]=false):JL f a b (out.push a[ia]) (ia+1) ib:=by
 have e:=ji h1
 have s1:=j.s1
 have pm:=j.pm
 rw [e] at s1 pm
 obtain ⟨g1,g2⟩:=mv (X:=[a[ia]]) s1 j.s2 (fun x hx y hy=>by
  rw [qA.mp hx]
  exact O.le h (Yw O hb.sb h2 hy))
 refine ⟨by rw [Array.toList_push];exact g1,by rw [Array.toList_push];exact g2,?_⟩
 rw [Array.toList_push,List.append_assoc]
 exact pm
theorem jL (xs:Array Keyed) (i k:Nat):(xs.extract i (i+k)).toList=(xs.toList.drop i).take k:=by
 simp [Array.toList_extract,List.extract_eq_take_drop]
theorem ju (xs:Array Keyed) (i:Nat):(xs.extract i xs.size).toList=xs.toList.drop i:=by
 simp [Array.toList_extract,List.extract_eq_take_drop]
 exact List.take_of_length_le (by simp)
theorem Y5 (xs:Array Keyed) (i k:Nat):xs.toList.drop i=(xs.toList.drop i).take k++xs.toList.drop (i+k):=by
 have:=(qD k (xs.toList.drop i)).symm
 rwa [List.drop_drop] at this
theorem JL.chunkA (O:OrdK f) (hb:Both D f a b) (j:JL f a b out ia ib) (h2:ib<b.size) {k:Nat}(h:∀ x∈(a.toList.drop ia).take k,f b[ib] x=false):JL f a b (out++a.extract ia (ia+k)) (ia+k) ib:=by
 have s1:=j.s1
 have pm:=j.pm
 rw [Y5 a ia k] at s1 pm
 obtain ⟨g1,g2⟩:=mv s1 j.s2 (fun x hx y hy=>O.le (h x hx) (Yw O hb.sb h2 hy))
 refine ⟨by rw [Array.toList_append,jL];exact g1,by rw [Array.toList_append,jL];exact g2,?_⟩
 rw [Array.toList_append,jL,List.append_assoc,<- List.append_assoc ((a.toList.drop ia).take k)]
 exact pm
theorem JL.chunkB (O:OrdK f) (hb:Both D f a b) (j:JL f a b out ia ib) (h1:ia<a.size) {k:Nat}(h:∀ x∈(b.toList.drop ib).take k,f a[ia] x=false):JL f a b (out++b.extract ib (ib+k)) ia (ib+k):=by
 have s2:=j.s2
 have pm:=j.pm
 rw [Y5 b ib k] at s2 pm
 obtain ⟨g1,g2⟩:=mv s2 j.s1 (fun x hx y hy=>O.le (h x hx) (Yw O hb.sa h1 hy))
 refine ⟨by rw [Array.toList_append,jL];exact g2,by rw [Array.toList_append,jL];exact g1,?_⟩
 rw [Array.toList_append,jL,List.append_assoc]
 refine List.Perm.trans (List.Perm.append_left _ ?_) pm
 rw [<- List.append_assoc,<- List.append_assoc]
 exact List.Perm.append_right _ List.perm_append_comm
theorem JL.done (j:JL f a b out ia ib) (h:a.size<=ia\/b.size<=ib):Jm f a b (out++a.extract ia a.size++b.extract ib b.size):=by
 refine ⟨?_,?_⟩
 ·rw [Array.toList_append,Array.toList_append,ju,ju]
  rcases h with h | h
  ·rw [List.drop_of_length_le (show a.toList.length<=ia by simpa using h),List.append_nil]
   exact j.s2
  ·rw [List.drop_of_length_le (show b.toList.length<=ib by simpa using h),List.append_nil]
   exact j.s1
 ·rw [Array.toList_append,Array.toList_append,ju,ju,List.append_assoc]
  exact j.pm
theorem JL.lastA (O:OrdK f) (hb:Both D f a b) (j:JL f a b out ia ib) (h:ia+1=a.size):Jm f a b (out++b.extract ib b.size++a.extract ia a.size):=by
 have e:a.toList.drop ia=[a[ia]]:=by
  rw [ji (show ia<a.size by omega),List.drop_of_length_le (by simp;omega)]
 refine ⟨?_,?_⟩
 ·rw [Array.toList_append,Array.toList_append,ju,ju]
  have s1:=j.s1
  rw [e] at s1 ⊢
  unfold SdK at *
  obtain ⟨_,_,g3⟩:=qR.mp s1
  refine qR.mpr ⟨j.s2,List.pairwise_singleton _ _,fun x hx y hy=>?_⟩
  rcases List.mem_append.mp hx with z | z
  ·exact g3 x z y hy
  ·rw [qA.mp hy]
   have:=hb.last x (ja z)
   have e2:a.size - 1=ia:=by omega
   simp only [e2] at this
   exact O.asym _ _ this
 ·rw [Array.toList_append,Array.toList_append,ju,ju,List.append_assoc]
  exact List.Perm.trans (List.Perm.append_left _ List.perm_append_comm) j.pm
def qfV (f:Keyed->Keyed->Bool) (a b:Array Keyed) (st:SortSt) (n0:Nat) (r:ForInStep GS) (st':SortSt):Prop:=yq st st'/\match r with
 | .done (some o,_)=>Jm f a b o
 | .done (none,out,ia,ib,_)=>JL f a b out ia ib/\ia+1<a.size/\ib<b.size/\n0<=ia+ib
 | .yield (none,out,ia,ib,_)=>JL f a b out ia ib/\ia+1<a.size/\ib<b.size/\n0<=ia+ib
 | .yield (some _,_)=>False
theorem yl {xs:Array Keyed}{i:Nat}(h:i<xs.size) {st:SortSt}{Q:Keyed->SortSt->Prop}(q:Q xs[i] st):wpS (model prog w) A E s (elem' xs i) Q st:=by
 rw [elem'_eq,getD? h]
 exact qm q
theorem qck (O:OrdK f) (hb:Both D f a b) {st0 st:SortSt}(hst:yq st0 st) {out:Array Keyed}{ia ib mg ac bc n0:Nat}(j:JL f a b out ia ib) (h1:ia+1<a.size) (h2:ib<b.size) (hn:n0<=ia+ib) (h:f b[ib] (a[ia]'(by omega))=false) :
  wpS (model prog w) A E s (qkN a b out ia ib mg ac bc) (qfV f a b st0 n0) st:=by
 unfold qkN
 refine qi (yl (show ia<a.size by omega) ?_)
 have j2:=j.pushA O hb (show ia<a.size by omega) h2 h
 by_cases e:ia+1+1=a.size
 ·rw [if_pos (by simpa using e)]
  exact qm ⟨hst,j2.lastA O hb e⟩
 ·rw [if_neg (by simpa using e)]
  split
  ·exact qm ⟨hst,j2,by omega,h2,by omega⟩
  ·exact qm ⟨hst,j2,by omega,h2,by omega⟩
theorem qgS (hA:Ask prog w A E s kd D f) (O:OrdK f) (hb:Both D f a b) {st0 st:SortSt}(hk:kindOf st0=kd) (hst:yq st0 st) {out:Array Keyed}{ia ib mg ac bc n0:Nat}(j:JL f a b out ia ib) (h1:ia+1<a.size) (h2:ib<b.size) (hn:n0<=ia+ib) :
  wpS (model prog w) A E s (loG3 a b out ia ib mg ac bc) (qfV f a b st0 n0) st:=by
 unfold loG3
 refine qi (yl (show ia<a.size by omega) ?_)
 refine qi (YQ hA O (hst.1.trans hk) (b.toList.drop ib) (by simp) (fun i hi=>?_) (hb.da _ (by simp)) (fun x hx=>hb.db x (ja hx)) (by omega) (List.Pairwise.sublist (List.drop_sublist _ _) hb.sb) fun k hk1 hk2 hk3=>?_)
 ·rw [List.getElem?_drop,qo]
 have hlt:∀ x∈(b.toList.drop ib).take k,f x (a[ia]'(by omega))=true:=fun x hx=>hk2 x hx
 have hge:∀ x∈(b.toList.drop ib).drop k,f x (a[ia]'(by omega))=false:=fun x hx=>hk3 x hx
 have j2:=j.chunkB O hb (show ia<a.size by omega) (k:=k) (fun x hx=>O.asym _ _ (hlt x hx))
 have nxt:∀ h:ib+k<b.size,f b[ib+k] (a[ia]'(by omega))=false:=fun h=>hge _ (by
  rw [List.drop_drop,ji h]
  exact qg)
 dsimp only
 by_cases hk0:k > 0
 ·rw [if_pos hk0]
  by_cases e:ib+k=b.size
  ·rw [if_pos (by simpa using e)]
   exact qm ⟨hst,j2.done (.inr (by omega))⟩
  ·rw [if_neg (by simpa using e)]
   exact qck O hb hst j2 h1 (by omega) (by omega) (nxt (by omega))
 ·rw [if_neg hk0]
  have:k=0:=by omega
  subst this
  exact qck O hb hst j h1 h2 hn (nxt h2)
theorem qcl (hA:Ask prog w A E s kd D f) (O:OrdK f) (hb:Both D f a b) {st0 st:SortSt}(hk:kindOf st0=kd) (hst:yq st0 st) {out:Array Keyed}{ia ib mg ac bc n0:Nat}(j:JL f a b out ia ib) (h1:ia+1<a.size) (h2:ib<b.size) (hn:n0<=ia+ib) (h:f (a[ia]'(by omega)) b[ib]=false) :
  wpS (model prog w) A E s (qkO a b out ia ib mg ac bc) (qfV f a b st0 n0) st:=by
 unfold qkO
 refine qi (yl h2 ?_)
 have j2:=j.pushB O hb (show ia<a.size by omega) h2 h
 by_cases e:ib+1=b.size
 ·rw [if_pos (by simpa using e)]
  exact qm ⟨hst,j2.done (.inr (by omega))⟩
 ·rw [if_neg (by simpa using e)]
  exact qgS hA O hb hk hst j2 h1 (by omega) (by omega)
theorem qcm (hA:Ask prog w A E s kd D f) (O:OrdK f) (hb:Both D f a b) {st0 st:SortSt}(hk:kindOf st0=kd) (hst:yq st0 st) {out:Array Keyed}{ia ib mg ac bc n0:Nat}(j:JL f a b out ia ib) (h1:ia+1<a.size) (h2:ib<b.size) (hn:n0<=ia+ib) :
  wpS (model prog w) A E s (qkP a b out ia ib mg ac bc) (qfV f a b st0 n0) st:=by
 unfold qkP
 rw [yH]
 refine qi (jb ?_)
 have hst2:=hst.trans (show yq st (SortSt.mk' (kindOf st) (arrOf st) (pendingOf st) mg (failedOf st)) from ⟨rfl,rfl,rfl,rfl⟩)
 generalize SortSt.mk' (kindOf st) (arrOf st) (pendingOf st) mg (failedOf st)=st2 at hst2 ⊢
 refine qi (yl h2 ?_)
 refine qi (YQ hA O (hst2.1.trans hk) (a.toList.drop ia) (by simp) (fun i hi=>?_) (hb.db _ (by simp)) (fun x hx=>hb.da x (ja hx)) (by omega) (List.Pairwise.sublist (List.drop_sublist _ _) hb.sa) fun k hk1 hk2 hk3=>?_)
 ·rw [List.getElem?_drop,qo]
 have hle:∀ x∈(a.toList.drop ia).take k,f b[ib] x=false:=fun x hx=>by
  have:=hk2 x hx
  simpa [byd] using this
 have hgt:∀ x∈(a.toList.drop ia).drop k,f b[ib] x=true:=fun x hx=>by
  have:=hk3 x hx
  simpa [byd] using this
 have j2:=j.chunkA O hb h2 (k:=k) hle
 have nxt:∀ h:ia+k<a.size,f a[ia+k] b[ib]=false:=fun h=>O.asym _ _ (hgt _ (by
  rw [List.drop_drop,ji h]
  exact qg))
 dsimp only
 by_cases hk0:k > 0
 ·rw [if_pos hk0]
  by_cases e:ia+k+1=a.size
  ·rw [if_pos (by simpa using e)]
   exact qm ⟨hst2,j2.lastA O hb e⟩
  ·rw [if_neg (by simpa using e)]
   by_cases e2:ia+k=a.size
   ·rw [if_pos (by simpa using e2)]
    exact qm ⟨hst2,j2.done (.inl (by omega))⟩
   ·rw [if_neg (by simpa using e2)]
    exact qcl hA O hb hk hst2 j2 (by omega) h2 (by omega) (nxt (by omega))
 ·rw [if_neg hk0]
  have:k=0:=by omega
  subst this
  exact qcl hA O hb hk hst2 j h1 h2 hn (nxt (by omega))
def CPost (f:Keyed->Keyed->Bool) (a b:Array Keyed) (st:SortSt) (n0:Nat) (r:CS) (st':SortSt):Prop:=yq st st'/\match r with
 | (some o,_)=>Jm f a b o
 | (none,out,ia,ib,_)=>JL f a b out ia ib/\ia+1<a.size/\ib<b.size/\n0<ia+ib
theorem qiI (hA:Ask prog w A E s kd D f) (O:OrdK f) (hb:Both D f a b) {st:SortSt}(hk:kindOf st=kd) {out:Array Keyed}{ia ib mg:Nat}(j:JL f a b out ia ib) (h1:ia+1<a.size) (h2:ib<b.size) :
  wpS (model prog w) A E s (forIn [0:a.size+b.size] ((none,out,ia,ib,0,0):CS) (loCB a b mg)) (CPost f a b st (ia+ib)) st:=by
 refine ya (I:=fun x c st'=>yq st st'/\∃ out' ia' ib' ac bc,c=(none,out',ia',ib',ac,bc)/\JL f a b out' ia' ib'/\ia'+1<a.size/\ib'<b.size/\ia+ib+x<=ia'+ib') ?step ?fin ⟨yq.refl _,out,ia,ib,0,0,rfl,j,h1,h2,by omega⟩
 case fin =>
  rintro c st' ⟨hst,out',ia',ib',ac,bc,rfl,j',g1,g2,g3⟩
  exact ⟨hst,j',g1,g2,by omega⟩
 case step =>
  rintro x c st' _ hx ⟨hst,out',ia',ib',ac,bc,rfl,j',g1,g2,g3⟩
  unfold loCB
  dsimp only
  refine qi (yl g2 (qi (yl (show ia'<a.size by omega) ?_)))
  refine qi (hA _ _ _ _ (hb.db _ (by simp)) (hb.da _ (by simp)) (hst.1.trans hk) ?_)
  dsimp only
  cases c:f b[ib'] (a[ia']'(by omega)) with
  | true =>
   simp only [if_true]
   refine qi (yl g2 ?_)
   have j2:=j'.pushB O hb (show ia'<a.size by omega) g2 (O.asym _ _ c)
   by_cases e:ib'+1=b.size
   ·rw [if_pos (by simpa using e)]
    exact qm ⟨hst,j2.done (.inr (by omega))⟩
   ·rw [if_neg (by simpa using e)]
    split
    ·exact qm ⟨hst,j2,g1,by omega,by omega⟩
    ·exact qm ⟨hst,_,_,_,_,_,rfl,j2,g1,by omega,by omega⟩
  | false =>
   simp only [Bool.false_eq_true,if_false]
   refine qi (yl (show ia'<a.size by omega) ?_)
   have j2:=j'.pushA O hb (show ia'<a.size by omega) g2 c
   by_cases e:ia'+1+1=a.size
   ·rw [if_pos (by simpa using e)]
    exact qm ⟨hst,j2.lastA O hb e⟩
   ·rw [if_neg (by simpa using e)]
    split
    ·exact qm ⟨hst,j2,by omega,g2,by omega⟩
    ·exact qm ⟨hst,_,_,_,_,_,rfl,j2,by omega,g2,by omega⟩
def qkG (f:Keyed->Keyed->Bool) (a b:Array Keyed) (st:SortSt) (n0:Nat) (r:GS) (st':SortSt):Prop:=yq st st'/\match r with
 | (some o,_)=>Jm f a b o
 | (none,out,ia,ib,_)=>JL f a b out ia ib/\ia+1<a.size/\ib<b.size/\n0<=ia+ib
theorem qiH (hA:Ask prog w A E s kd D f) (O:OrdK f) (hb:Both D f a b) {st0 st:SortSt}(hk:kindOf st0=kd) (hst:yq st0 st) {out:Array Keyed}{ia ib mg ac bc:Nat}(j:JL f a b out ia ib) (h1:ia+1<a.size) (h2:ib<b.size) :
  wpS (model prog w) A E s (forIn [0:a.size+b.size] ((none,out,ia,ib,mg,ac,bc):GS) (loGB a b)) (qkG f a b st0 (ia+ib)) st:=by
 refine ya (I:=fun x c st'=>yq st0 st'/\∃ out' ia' ib' mg ac bc,c=(none,out',ia',ib',mg,ac,bc)/\JL f a b out' ia' ib'/\ia'+1<a.size/\ib'<b.size/\ia+ib<=ia'+ib') ?step ?fin ⟨hst,out,ia,ib,mg,ac,bc,rfl,j,h1,h2,by omega⟩
 case fin =>
  rintro c st' ⟨hst,out',ia',ib',mg,ac,bc,rfl,j',g1,g2,g3⟩
  exact ⟨hst,j',g1,g2,g3⟩
 case step =>
  rintro x c st' _ hx ⟨hst,out',ia',ib',mg,ac,bc,rfl,j',g1,g2,g3⟩
  unfold loGB
  dsimp only
  split
  ·refine yN (qcm hA O hb hk hst j' g1 g2 g3) fun r st'' h=>?_
   obtain ⟨h0,h⟩:=h
   match r,h with
   | .done (some o,_),h=>exact ⟨h0,h⟩
   | .done (none,out,ia,ib,_),h=>exact ⟨h0,h⟩
   | .yield (none,out,ia,ib,m,c,d),h=>exact ⟨h0,_,_,_,_,_,_,rfl,h⟩
  ·refine yN (qcm hA O hb hk hst j' g1 g2 g3) fun r st'' h=>?_
   obtain ⟨h0,h⟩:=h
   match r,h with
   | .done (some o,_),h=>exact ⟨h0,h⟩
   | .done (none,out,ia,ib,_),h=>exact ⟨h0,h⟩
   | .yield (none,out,ia,ib,m,c,d),h=>exact ⟨h0,_,_,_,_,_,_,rfl,h⟩
theorem qbO (hA:Ask prog w A E s kd D f) (O:OrdK f) (hb:Both D f a b) {st:SortSt}(hk:kindOf st=kd) {Q:Array Keyed->SortSt->Prop}(q:∀ o st',yq st st'->Jm f a b o->Q o st') :
  wpS (model prog w) A E s (Yb a b) Q st:=by
 rw [qaE]
 refine qi (wpS_lift (jC ⟨rfl,?_⟩))
 refine qi (yl hb.nb ?_)
 have na:=hb.na
 have nb:=hb.nb
 have j0:JL f a b #[] 0 0:=⟨by simpa using hb.sa,by simpa using hb.sb,by simp⟩
 have j1:JL f a b #[b[0]'nb] 0 1:=by
  have:=j0.pushB O hb na nb (O.asym _ _ hb.first)
  simpa using this
 by_cases e:b.size=1
 ·rw [if_pos (by simp [e])]
  exact qm (q _ _ (yq.refl _) (j1.done (.inr (by omega))))
 ·rw [if_neg (by simpa using fun z:1=b.size=>e z.symm)]
  by_cases e2:0+1=a.size
  ·rw [if_pos (by simpa using e2)]
   exact qm (q _ _ (yq.refl _) (j1.lastA O hb e2))
  ·rw [if_neg (by simpa using e2)]
   refine qi (wpS_get ?_)
   refine qi (yN (ya (I:=fun x c st'=>yq st st'/\∃ out ia ib mg,c=(none,out,ia,ib,mg)/\JL f a b out ia ib/\ia+1<a.size/\ib<b.size/\x+1<=ia+ib)
    (Q:=fun c st'=>yq st st'/\∃ o r,c=(some o,r)/\Jm f a b o) ?step ?fin ⟨yq.refl _,_,_,_,_,rfl,j1,by omega,by omega,by omega⟩) ?post)
   case fin =>
    rintro c st' ⟨hst,out,ia,ib,mg,rfl,j,g1,g2,g3⟩
    omega
   case post =>
    rintro c st' ⟨hst,o,r,rfl,h⟩
    exact qm (q o st' hst h)
   case step =>
    rintro x c st' _ hx ⟨hst,out,ia,ib,mg,rfl,j,g1,g2,g3⟩
    unfold loOB
    dsimp only
    refine qi (yN (qiI hA O hb (hst.1.trans hk) j g1 g2) ?_)
    rintro c1 st1 ⟨hst1,h⟩
    match c1,h with
    | (some o,out,ia,ib,_),h=>exact qm ⟨hst.trans hst1,o,_,rfl,h⟩
    | (none,out1,ia1,ib1,ac,bc),⟨j1,k1,k2,k3⟩ =>
     dsimp only
     refine qi (wpS_lift (jC ⟨rfl,?_⟩))
     refine qi (yN (qiH hA O hb hk (hst.trans hst1) j1 k1 k2) ?_)
     rintro c2 st2 ⟨hst2,h⟩
     match c2,h with
     | (some o,out,ia,ib,mg,_),h=>exact qm ⟨hst2,o,_,rfl,h⟩
     | (none,out2,ia2,ib2,mg2,ac,bc),⟨j2,l1,l2,l3⟩ =>
      dsimp only
      rw [yH]
      refine qi (jb (qm ⟨hst2.trans ⟨rfl,rfl,rfl,rfl⟩,_,_,_,_,rfl,j2,l1,l2,by omega⟩))
end
end L2
namespace L2
open PySem PySem.Spec PyProof.Rows PySem.W
def Yc:Array Keyed->Array Keyed->StateT SortSt Sem (Array Keyed):=sortPriv% PySem.Builtin.mergeHi
abbrev GH:=Option (Array Keyed)×Nat×Nat×Array Keyed×Nat×Nat×Nat
abbrev CH:=Option (Array Keyed)×Nat×Nat×Array Keyed×Nat×Nat
abbrev OH:=Option (Array Keyed)×Nat×Nat×Array Keyed×Nat
def YL (a b out:Array Keyed) (na nb:Nat):Array Keyed:=a.extract 0 na++b.extract 0 nb++out.reverse
def Y4 (a b out:Array Keyed) (na nb:Nat):Array Keyed:=b.extract 0 nb++a.extract 0 na++out.reverse
def qkQ (a b:Array Keyed) (na nb:Nat) (out:Array Keyed) (mg ac bc:Nat):StateT SortSt Sem (ForInStep GH):=do
 let x <- elem' a (na - 1)
 if (na - 1 == 0)=true then pure (.done (some (YL a b (out.push x) (na - 1) nb),na - 1,nb,out.push x,mg,ac,bc))
 else if (decide (ac<7) && decide (bc<7))=true then pure (.done (none,na - 1,nb,out.push x,mg,ac,bc))
 else pure (.yield (none,na - 1,nb,out.push x,mg,ac,bc))
def hiG3 (a b:Array Keyed) (na nb:Nat) (out:Array Keyed) (mg ac bc:Nat):StateT SortSt Sem (ForInStep GH):=do
 let x <- elem' a (na - 1)
 let k <- yV true x b 0 nb (nb - 1)
 match k with
 | some at_ =>
  if nb - at_ > 0 then
   if (at_ == 1)=true then pure (.done (some (Y4 a b (out++(b.extract at_ nb).reverse) na at_),na,at_,out++(b.extract at_ nb).reverse,mg,ac,nb - at_))
   else if (at_ == 0)=true then pure (.done (some (YL a b (out++(b.extract at_ nb).reverse) na at_),na,at_,out++(b.extract at_ nb).reverse,mg,ac,nb - at_))
   else qkQ a b na at_ (out++(b.extract at_ nb).reverse) mg ac (nb - at_)
  else qkQ a b na nb out mg ac (nb - at_)
 | _=>pure (.done (some (YL a b out na nb),na,nb,out,mg,ac,bc))
def qkR (a b:Array Keyed) (na nb:Nat) (out:Array Keyed) (mg ac bc:Nat):StateT SortSt Sem (ForInStep GH):=do
 let x <- elem' b (nb - 1)
 if (nb - 1 == 1)=true then pure (.done (some (Y4 a b (out.push x) na (nb - 1)),na,nb - 1,out.push x,mg,ac,bc))
 else hiG3 a b na (nb - 1) (out.push x) mg ac bc
def qkS (a b:Array Keyed) (na nb:Nat) (out:Array Keyed) (mg ac bc:Nat):StateT SortSt Sem (ForInStep GH):=do
 yg mg
 let x <- elem' b (nb - 1)
 let k <- yV false x a 0 na (na - 1)
 match k with
 | some at_ =>
  if na - at_ > 0 then
   if (at_ == 0)=true then pure (.done (some (YL a b (out++(a.extract at_ na).reverse) at_ nb),at_,nb,out++(a.extract at_ na).reverse,mg,na - at_,bc))
   else qkR a b at_ nb (out++(a.extract at_ na).reverse) mg (na - at_) bc
  else qkR a b na nb out mg (na - at_) bc
 | _=>pure (.done (some (YL a b out na nb),na,nb,out,mg,ac,bc))
def hiGB (a b:Array Keyed) (_:Nat) (c:GH):StateT SortSt Sem (ForInStep GH) :=
 if c.2.2.2.2.1 > 1 then qkS a b c.2.1 c.2.2.1 c.2.2.2.1 (c.2.2.2.2.1 - 1) c.2.2.2.2.2.1 c.2.2.2.2.2.2 else qkS a b c.2.1 c.2.2.1 c.2.2.2.1 c.2.2.2.2.1 c.2.2.2.2.2.1 c.2.2.2.2.2.2
def hiCB (a b:Array Keyed) (mg:Nat) (_:Nat) (c:CH):StateT SortSt Sem (ForInStep CH):=do
 let y <- elem' b (c.2.2.1 - 1)
 let x <- elem' a (c.2.1 - 1)
 let r <- lt' y x
 match r with
 | some aWins =>
  if aWins=true then do
   let x <- elem' a (c.2.1 - 1)
   if (c.2.1 - 1 == 0)=true then pure (.done (some (YL a b (c.2.2.2.1.push x) (c.2.1 - 1) c.2.2.1),c.2.1 - 1,c.2.2.1,c.2.2.2.1.push x,c.2.2.2.2.1+1,0))
   else if c.2.2.2.2.1+1 ≥ mg then pure (.done (none,c.2.1 - 1,c.2.2.1,c.2.2.2.1.push x,c.2.2.2.2.1+1,0))
   else pure (.yield (none,c.2.1 - 1,c.2.2.1,c.2.2.2.1.push x,c.2.2.2.2.1+1,0))
  else do
   let y <- elem' b (c.2.2.1 - 1)
   if (c.2.2.1 - 1 == 1)=true then pure (.done (some (Y4 a b (c.2.2.2.1.push y) c.2.1 (c.2.2.1 - 1)),c.2.1,c.2.2.1 - 1,c.2.2.2.1.push y,0,c.2.2.2.2.2+1))
   else if c.2.2.2.2.2+1 ≥ mg then pure (.done (none,c.2.1,c.2.2.1 - 1,c.2.2.2.1.push y,0,c.2.2.2.2.2+1))
   else pure (.yield (none,c.2.1,c.2.2.1 - 1,c.2.2.2.1.push y,0,c.2.2.2.2.2+1))
 | _=>pure (.done (some (YL a b c.2.2.2.1 c.2.1 c.2.2.1),c.2.1,c.2.2.1,c.2.2.2.1,c.2.2.2.2.1,c.2.2.2.2.2))
def hiOB (a b:Array Keyed) (_:Nat) (c:OH):StateT SortSt Sem (ForInStep OH):=do
 let c1 <- forIn [0:a.size+b.size] ((none,c.2.1,c.2.2.1,c.2.2.2.1,0,0):CH) (hiCB a b c.2.2.2.2)
 match c1.1 with
 | some r=>pure (.done (some r,c1.2.1,c1.2.2.1,c1.2.2.2.1,c.2.2.2.2))
 | none=>do
  liftM (rule "list.sort.gallop")
  let c2 <- forIn [0:a.size+b.size] ((none,c1.2.1,c1.2.2.1,c1.2.2.2.1,c.2.2.2.2+1,c1.2.2.2.2.1,c1.2.2.2.2.2):GH) (hiGB a b)
  match c2.1 with
  | some r=>pure (.done (some r,c2.2.1,c2.2.2.1,c2.2.2.2.1,c2.2.2.2.2.1))
  | none=>do
   yg (c2.2.2.2.2.1+1)
   pure (.yield (none,c2.2.1,c2.2.2.1,c2.2.2.2.1,c2.2.2.2.2.1+1))
theorem Z0 (a b:Array Keyed):Yc a b=(do
 rule "list.sort.merge-hi"
 let total:=a.size+b.size
 let done (out:Array Keyed) (na nb:Nat):=a.extract 0 na++b.extract 0 nb++out.reverse
 let firstOfB (out:Array Keyed) (na nb:Nat):=b.extract 0 nb++a.extract 0 na++out.reverse
 let mut na:=a.size - 1
 let mut nb:=b.size
 let mut out:Array Keyed:=#[<- elem' a na]
 if na == 0 then return done out na nb
 if nb == 1 then return firstOfB out na nb
 let mut minGallop:=gallopOf (<- get)
 for _ in [0:total] do
  let mut acount:=0
  let mut bcount:=0
  for _ in [0:total] do
   let some aWins <- lt' (<- elem' b (nb - 1)) (<- elem' a (na - 1)) | return done out na nb
   if aWins then
    na:=na - 1;out:=out.push (<- elem' a na);acount:=acount+1;bcount:=0
    if na == 0 then return done out na nb
    if acount ≥ minGallop then break
   else
    nb:=nb - 1;out:=out.push (<- elem' b nb);bcount:=bcount+1;acount:=0
    if nb == 1 then return firstOfB out na nb
    if bcount ≥ minGallop then break
  rule "list.sort.gallop"
  minGallop:=minGallop+1
  for _ in [0:total] do
   if minGallop > 1 then minGallop:=minGallop - 1
   yg minGallop
   let some at_ <- yV false (<- elem' b (nb - 1)) a 0 na (na - 1) | return done out na nb
   let k:=na - at_
   acount:=k
   if k > 0 then
    out:=out++(a.extract at_ na).reverse;na:=at_
    if na == 0 then return done out na nb
   nb:=nb - 1;out:=out.push (<- elem' b nb)
   if nb == 1 then return firstOfB out na nb
   let some at_ <- yV true (<- elem' a (na - 1)) b 0 nb (nb - 1) | return done out na nb
   let k:=nb - at_
   bcount:=k
   if k > 0 then
    out:=out++(b.extract at_ nb).reverse;nb:=at_
    if nb == 1 then return firstOfB out na nb
    if nb == 0 then return done out na nb
   na:=na - 1;out:=out.push (<- elem' a na)
   if na == 0 then return done out na nb
   if acount<7 && bcount<7 then break
  minGallop:=minGallop+1
  yg minGallop
 unsupported "internal:list.sort.merge-bound"):=rfl
theorem qaF (a b:Array Keyed):Yc a b=(do
 liftM (rule "list.sort.merge-hi")
 let x <- elem' a (a.size - 1)
 if (a.size - 1 == 0)=true then pure (YL a b #[x] (a.size - 1) b.size)
 else if (b.size == 1)=true then pure (Y4 a b #[x] (a.size - 1) b.size)
 else do
  let g <- get
  let c <- forIn [0:a.size+b.size] ((none,a.size - 1,b.size,#[x],gallopOf g):OH) (hiOB a b)
  match c.1 with
  | some r=>pure r
  | none=>liftM (unsupported "internal:list.sort.merge-bound" : Sem (Array Keyed))):=by
 rw [Z0]
 dsimp only
 congr 1
 funext _u
 congr 1
 funext y
 congr 1
 congr 1
 congr 1
 funext g
 congr 1
 ·congr 1
  funext i c
  unfold hiOB
  congr 1
  funext c1
  obtain ⟨r1,na1,nb1,o1,ac1,bc1⟩:=c1
  cases r1 with
  | some r=>rfl
  | none =>
   dsimp only
   congr 1
   funext _v
   congr 1
   funext c2
   obtain ⟨r2,na2,nb2,o2,m2,ac2,bc2⟩:=c2
   cases r2 <;> rfl
 ·funext c
  obtain ⟨r,na,nb,o,m⟩:=c
  cases r <;> rfl
section
variable {prog:Program}{w:World}{A:Around}{E:Value->Shared->Prop}{s:Shared}{kd:SortKind}{D:Keyed->Prop}{f:Keyed->Keyed->Bool}{a b:Array Keyed}
structure JH (f:Keyed->Keyed->Bool) (a b:Array Keyed) (na nb:Nat) (out:Array Keyed):Prop where
 s1:SdK f (a.toList.take na++out.toList.reverse)
 s2:SdK f (b.toList.take nb++out.toList.reverse)
 pm:(a.toList.take na++(b.toList.take nb++out.toList.reverse)).Perm (a.toList++b.toList)
theorem yT {xs:Array Keyed}{i:Nat}(h:i<xs.size):xs.toList.take (i+1)=xs.toList.take i++[xs[i]]:=by
 rw [List.take_add_one,List.getElem?_eq_getElem (by simpa using h)];rfl
theorem Zs (O:OrdK f) {xs:Array Keyed}{i:Nat}(hs:SdK f xs.toList) (h:i<xs.size) {y:Keyed}(hy:y∈xs.toList.take (i+1)):f xs[i] y=false:=by
 rw [yT h] at hy
 rcases List.mem_append.mp hy with hy | hy
 ·have:SdK f (xs.toList.take (i+1)):=List.Pairwise.sublist (List.take_sublist _ _) hs
  rw [yT h] at this
  exact (qR.mp this).2.2 y hy _ (qA.mpr rfl)
 ·rw [qA.mp hy]
  exact O.irr _
theorem JH.pushA (O:OrdK f) (hb:Both D f a b) (j:JH f a b na nb out) (h1:0<na) (h2:na<=a.size) (h3:0<nb) (h4:nb<=b.size) (h:f (a[na - 1]'(by omega)) (b[nb - 1]'(by omega))=false):JH f a b (na - 1) nb (out.push (a[na - 1]'(by omega))):=by
 have e:=yT (xs:=a) (i:=na - 1) (by omega)
 rw [show na - 1+1=na by omega] at e
 have s1:=j.s1
 have pm:=j.pm
 rw [e] at s1 pm
 obtain ⟨g1,g2⟩:=qkM s1 j.s2 (fun x hx y hy=>by
  rw [qA.mp hx]
  have:=Zs O hb.sb (i:=nb - 1) (by omega) (y:=y) (by rw [show nb - 1+1=nb by omega];exact hy)
  exact O.le this h)
 refine ⟨by simpa using g1,by simpa using g2,?_⟩
 refine List.Perm.trans ?_ pm
 rw [List.append_assoc]
 refine List.Perm.append_left _ ?_
 simp only [Array.toList_push,List.reverse_append,List.reverse_cons,List.reverse_nil,List.nil_append]
 exact List.perm_middle
theorem JH.pushB (O:OrdK f) (hb:Both D f a b) (j:JH f a b na nb out) (h1:0<na) (h2:na<=a.size) (h3:0<nb) (h4:nb<=b.size) (h:f (b[nb - 1]'(by omega)) (a[na - 1]'(by omega))=false):JH f a b na (nb - 1) (out.push (b[nb - 1]'(by omega))):=by
 have e:=yT (xs:=b) (i:=nb - 1) (by omega)
 rw [show nb - 1+1=nb by omega] at e
 have s2:=j.s2
 have pm:=j.pm
 rw [e] at s2 pm
 obtain ⟨g1,g2⟩:=qkM s2 j.s1 (fun x hx y hy=>by
  rw [qA.mp hx]
  have:=Zs O hb.sa (i:=na - 1) (by omega) (y:=y) (by rw [show na - 1+1=na by omega];exact hy)
  exact O.le this h)
 refine ⟨by simpa using g2,by simpa using g1,?_⟩
 refine List.Perm.trans ?_ pm
 refine List.Perm.append_left _ ?_
 simp
theorem qec (xs:Array Keyed) {i n:Nat}(h:i<=n) (hn:n<=xs.size):xs.toList.take n=xs.toList.take i++(xs.extract i n).toList:=by
 have e:(xs.extract i n).toList=(xs.toList.drop i).take (n - i):=by simp [Array.toList_extract,List.extract_eq_take_drop]
 rw [e,<- List.drop_take]
 have:=(qD i (xs.toList.take n)).symm
 rwa [List.take_take,Nat.min_eq_left h] at this
theorem JH.chunkA (O:OrdK f) (hb:Both D f a b) (j:JH f a b na nb out) {k:Nat}(hk:k<=na) (h2:na<=a.size) (h3:0<nb) (h4:nb<=b.size) (h:∀ x∈(a.extract k na).toList,f x (b[nb - 1]'(by omega))=false):JH f a b k nb (out++(a.extract k na).reverse):=by
 have s1:=j.s1
 have pm:=j.pm
 rw [qec a hk h2] at s1 pm
 obtain ⟨g1,g2⟩:=qkM s1 j.s2 (fun x hx y hy=>by
  have:=Zs O hb.sb (i:=nb - 1) (by omega) (y:=y) (by rw [show nb - 1+1=nb by omega];exact hy)
  exact O.le this (h x hx))
 refine ⟨by simpa using g1,by simpa using g2,?_⟩
 refine List.Perm.trans ?_ pm
 rw [List.append_assoc]
 refine List.Perm.append_left _ ?_
 simp only [Array.toList_append,Array.toList_reverse,List.reverse_append,List.reverse_reverse]
 rw [<- List.append_assoc,<- List.append_assoc]
 exact List.Perm.append_right _ List.perm_append_comm
theorem JH.chunkB (O:OrdK f) (hb:Both D f a b) (j:JH f a b na nb out) {k:Nat}(hk:k<=nb) (h2:nb<=b.size) (h3:0<na) (h4:na<=a.size) (h:∀ x∈(b.extract k nb).toList,f x (a[na - 1]'(by omega))=false):JH f a b na k (out++(b.extract k nb).reverse):=by
 have s2:=j.s2
 have pm:=j.pm
 rw [qec b hk h2] at s2 pm
 obtain ⟨g1,g2⟩:=qkM s2 j.s1 (fun x hx y hy=>by
  have:=Zs O hb.sa (i:=na - 1) (by omega) (y:=y) (by rw [show na - 1+1=na by omega];exact hy)
  exact O.le this (h x hx))
 refine ⟨by simpa using g2,by simpa using g1,?_⟩
 refine List.Perm.trans ?_ pm
 refine List.Perm.append_left _ ?_
 simp
theorem qgu (xs:Array Keyed) (n:Nat):(xs.extract 0 n).toList=xs.toList.take n:=by simp [Array.toList_extract,List.extract_eq_take_drop]
theorem JH.done (j:JH f a b na nb out) (h:na=0\/nb=0):Jm f a b (YL a b out na nb):=by
 unfold YL
 refine ⟨?_,?_⟩
 ·rw [Array.toList_append,Array.toList_append,qgu,qgu,Array.toList_reverse]
  rcases h with rfl | rfl
  ·simpa using j.s2
  ·simpa using j.s1
 ·rw [Array.toList_append,Array.toList_append,qgu,qgu,Array.toList_reverse,List.append_assoc]
  exact j.pm
theorem JH.firstB (O:OrdK f) (hb:Both D f a b) (j:JH f a b na nb out) (h:nb=1):Jm f a b (Y4 a b out na nb):=by
 subst h
 have nb:=hb.nb
 have e:b.toList.take 1=[b[0]'nb]:=by
  have:=yT (xs:=b) (i:=0) nb
  simpa using this
 unfold Y4
 refine ⟨?_,?_⟩
 ·rw [Array.toList_append,Array.toList_append,qgu,qgu,Array.toList_reverse]
  have s2:=j.s2
  rw [e] at s2 ⊢
  unfold SdK at *
  obtain ⟨_,_,g3⟩:=qR.mp s2
  rw [List.append_assoc]
  refine qR.mpr ⟨List.pairwise_singleton _ _,j.s1,fun x hx y hy=>?_⟩
  rcases List.mem_append.mp hy with z | z
  ·rw [qA.mp hx]
   have h1:=Yw O hb.sa hb.na (y:=y) (by rw [List.drop_zero];exact List.mem_of_mem_take z)
   exact O.le (O.asym _ _ hb.first) h1
  ·exact g3 x hx y z
 ·rw [Array.toList_append,Array.toList_append,qgu,qgu,Array.toList_reverse,List.append_assoc]
  refine List.Perm.trans ?_ j.pm
  rw [<- List.append_assoc,<- List.append_assoc]
  exact List.Perm.append_right _ List.perm_append_comm
def InH (f:Keyed->Keyed->Bool) (a b:Array Keyed) (na nb:Nat) (out:Array Keyed):Prop:=JH f a b na nb out/\0<na/\na<=a.size/\1<nb/\nb<=b.size
def qfU (f:Keyed->Keyed->Bool) (a b:Array Keyed) (st:SortSt) (n0:Nat) (r:ForInStep GH) (st':SortSt):Prop:=yq st st'/\match r with
 | .done (some o,_)=>Jm f a b o
 | .done (none,na,nb,out,_)=>InH f a b na nb out/\na+nb<=n0
 | .yield (none,na,nb,out,_)=>InH f a b na nb out/\na+nb<=n0
 | .yield (some _,_)=>False
theorem qcn (O:OrdK f) (hb:Both D f a b) {st0 st:SortSt}(hst:yq st0 st) {out:Array Keyed}{na nb mg ac bc n0:Nat}(j:InH f a b na nb out) (hn:na+nb<=n0) (h:∀ h1 h2,f (a[na - 1]'h1) (b[nb - 1]'h2)=false) :
  wpS (model prog w) A E s (qkQ a b na nb out mg ac bc) (qfU f a b st0 n0) st:=by
 obtain ⟨j,h1,h2,h3,h4⟩:=j
 unfold qkQ
 refine qi (yl (show na - 1<a.size by omega) ?_)
 have j2:=j.pushA O hb h1 h2 (by omega) h4 (h (by omega) (by omega))
 by_cases e:na - 1=0
 ·rw [if_pos (by simpa using e)]
  exact qm ⟨hst,j2.done (.inl e)⟩
 ·rw [if_neg (by simpa using e)]
  split
  ·exact qm ⟨hst,⟨j2,by omega,by omega,h3,h4⟩,by omega⟩
  ·exact qm ⟨hst,⟨j2,by omega,by omega,h3,h4⟩,by omega⟩
theorem qed {xs:Array Keyed}{k n:Nat}(hn:n<=xs.size) {x:Keyed}(hx:x∈(xs.extract k n).toList):x∈(xs.toList.take n).drop k:=by
 have e:(xs.extract k n).toList=(xs.toList.drop k).take (n - k):=by simp [Array.toList_extract,List.extract_eq_take_drop]
 rw [e,<- List.drop_take] at hx
 exact hx
theorem qgT (hA:Ask prog w A E s kd D f) (O:OrdK f) (hb:Both D f a b) {st0 st:SortSt}(hk:kindOf st0=kd) (hst:yq st0 st) {out:Array Keyed}{na nb mg ac bc n0:Nat}(j:InH f a b na nb out) (hn:na+nb<=n0) :
  wpS (model prog w) A E s (hiG3 a b na nb out mg ac bc) (qfU f a b st0 n0) st:=by
 obtain ⟨j,h1,h2,h3,h4⟩:=j
 unfold hiG3
 refine qi (yl (show na - 1<a.size by omega) ?_)
 refine qi (YQ hA O (hst.1.trans hk) (b.toList.take nb) (by simp;omega) (fun i hi=>?_) (hb.da _ (by simp)) (fun x hx=>hb.db x (List.mem_of_mem_take hx)) (by omega) (List.Pairwise.sublist (List.take_sublist _ _) hb.sb) fun k hk1 hk2 hk3=>?_)
 ·have hi:i<nb:=by simp at hi;omega
  rw [Nat.zero_add,List.getElem?_take,if_pos hi,qo]
 have hge:∀ x∈(b.extract k nb).toList,f x (a[na - 1]'(by omega))=false:=fun x hx=>hk3 x (qed h4 hx)
 have hlt:∀ x∈(b.toList.take nb).take k,f x (a[na - 1]'(by omega))=true:=fun x hx=>hk2 x hx
 have j2:=j.chunkB O hb hk1 h4 h1 h2 hge
 have nxt:∀ (h0:0<k) (z1:na - 1<a.size) (z2:k - 1<b.size),f (a[na - 1]'z1) (b[k - 1]'z2)=false:=fun h0 z1 z2=>O.asym _ _ (hlt _ (by
  rw [List.take_take,Nat.min_eq_left hk1]
  have:=yT (xs:=b) (i:=k - 1) z2
  rw [show k - 1+1=k by omega] at this
  rw [this]
  exact qb _ (qA.mpr rfl)))
 dsimp only
 by_cases hk0:nb - k > 0
 ·rw [if_pos hk0]
  by_cases e:k=1
  ·rw [if_pos (by simpa using e)]
   exact qm ⟨hst,j2.firstB O hb e⟩
  ·rw [if_neg (by simpa using e)]
   by_cases e2:k=0
   ·rw [if_pos (by simpa using e2)]
    exact qm ⟨hst,j2.done (.inr e2)⟩
   ·rw [if_neg (by simpa using e2)]
    exact qcn O hb hst ⟨j2,h1,h2,by omega,by omega⟩ (by omega) (nxt (by omega))
 ·rw [if_neg hk0]
  have:k=nb:=by omega
  subst this
  exact qcn O hb hst ⟨j,h1,h2,h3,h4⟩ hn (nxt (by omega))
theorem qco (hA:Ask prog w A E s kd D f) (O:OrdK f) (hb:Both D f a b) {st0 st:SortSt}(hk:kindOf st0=kd) (hst:yq st0 st) {out:Array Keyed}{na nb mg ac bc n0:Nat}(j:InH f a b na nb out) (hn:na+nb<=n0) (h:∀ h1 h2,f (b[nb - 1]'h2) (a[na - 1]'h1)=false) :
  wpS (model prog w) A E s (qkR a b na nb out mg ac bc) (qfU f a b st0 n0) st:=by
 obtain ⟨j,h1,h2,h3,h4⟩:=j
 unfold qkR
 refine qi (yl (show nb - 1<b.size by omega) ?_)
 have j2:=j.pushB O hb h1 h2 (by omega) h4 (h (by omega) (by omega))
 by_cases e:nb - 1=1
 ·rw [if_pos (by simpa using e)]
  exact qm ⟨hst,j2.firstB O hb e⟩
 ·rw [if_neg (by simpa using e)]
  exact qgT hA O hb hk hst ⟨j2,h1,h2,by omega,by omega⟩ (by omega)
theorem qcp (hA:Ask prog w A E s kd D f) (O:OrdK f) (hb:Both D f a b) {st0 st:SortSt}(hk:kindOf st0=kd) (hst:yq st0 st) {out:Array Keyed}{na nb mg ac bc n0:Nat}(j:InH f a b na nb out) (hn:na+nb<=n0) :
  wpS (model prog w) A E s (qkS a b na nb out mg ac bc) (qfU f a b st0 n0) st:=by
 obtain ⟨j,h1,h2,h3,h4⟩:=j
 unfold qkS
 rw [yH]
 refine qi (jb ?_)
 have hst2:=hst.trans (show yq st (SortSt.mk' (kindOf st) (arrOf st) (pendingOf st) mg (failedOf st)) from ⟨rfl,rfl,rfl,rfl⟩)
 generalize SortSt.mk' (kindOf st) (arrOf st) (pendingOf st) mg (failedOf st)=st2 at hst2 ⊢
 refine qi (yl (show nb - 1<b.size by omega) ?_)
 refine qi (YQ hA O (hst2.1.trans hk) (a.toList.take na) (by simp;omega) (fun i hi=>?_) (hb.db _ (by simp)) (fun x hx=>hb.da x (List.mem_of_mem_take hx)) (by omega) (List.Pairwise.sublist (List.take_sublist _ _) hb.sa) fun k hk1 hk2 hk3=>?_)
 ·have hi:i<na:=by simp at hi;omega
  rw [Nat.zero_add,List.getElem?_take,if_pos hi,qo]
 have hgt:∀ x∈(a.extract k na).toList,f x (b[nb - 1]'(by omega))=false:=fun x hx=>by
  have:=hk3 x (qed h2 hx)
  exact O.asym _ _ (by simpa [byd] using this)
 have hle:∀ x∈(a.toList.take na).take k,f (b[nb - 1]'(by omega)) x=false:=fun x hx=>by
  have:=hk2 x hx
  simpa [byd] using this
 have j2:=j.chunkA O hb hk1 h2 (by omega) h4 hgt
 have nxt:∀ (h0:0<k) (z1:k - 1<a.size) (z2:nb - 1<b.size),f (b[nb - 1]'z2) (a[k - 1]'z1)=false:=fun h0 z1 z2=>hle _ (by
  rw [List.take_take,Nat.min_eq_left hk1]
  have:=yT (xs:=a) (i:=k - 1) z1
  rw [show k - 1+1=k by omega] at this
  rw [this]
  exact qb _ (qA.mpr rfl))
 dsimp only
 by_cases hk0:na - k > 0
 ·rw [if_pos hk0]
  by_cases e:k=0
  ·rw [if_pos (by simpa using e)]
   exact qm ⟨hst2,j2.done (.inl e)⟩
  ·rw [if_neg (by simpa using e)]
   exact qco hA O hb hk hst2 ⟨j2,by omega,by omega,h3,h4⟩ (by omega) (nxt (by omega))
 ·rw [if_neg hk0]
  have:k=na:=by omega
  subst this
  exact qco hA O hb hk hst2 ⟨j,h1,h2,h3,h4⟩ hn (nxt (by omega))
def qkI (f:Keyed->Keyed->Bool) (a b:Array Keyed) (st:SortSt) (n0:Nat) (r:CH) (st':SortSt):Prop:=yq st st'/\match r with
 | (some o,_)=>Jm f a b o
 | (none,na,nb,out,_)=>InH f a b na nb out/\na+nb<n0
theorem qiK (hA:Ask prog w A E s kd D f) (O:OrdK f) (hb:Both D f a b) {st:SortSt}(hk:kindOf st=kd) {out:Array Keyed}{na nb mg:Nat}(j:InH f a b na nb out) :
  wpS (model prog w) A E s (forIn [0:a.size+b.size] ((none,na,nb,out,0,0):CH) (hiCB a b mg)) (qkI f a b st (na+nb)) st:=by
 have nz:=hb.na
 refine ya (I:=fun x c st'=>yq st st'/\∃ na' nb' out' ac bc,c=(none,na',nb',out',ac,bc)/\InH f a b na' nb' out'/\na'+nb'+x<=na+nb) ?step ?fin ⟨yq.refl _,na,nb,out,0,0,rfl,j,by omega⟩
 case fin =>
  rintro c st' ⟨hst,na',nb',out',ac,bc,rfl,j',g3⟩
  exact ⟨hst,j',by omega⟩
 case step =>
  rintro x c st' _ hx ⟨hst,na',nb',out',ac,bc,rfl,⟨j',h1,h2,h3,h4⟩,g3⟩
  unfold hiCB
  dsimp only
  refine qi (yl (show nb' - 1<b.size by omega) (qi (yl (show na' - 1<a.size by omega) ?_)))
  refine qi (hA _ _ _ _ (hb.db _ (by simp)) (hb.da _ (by simp)) (hst.1.trans hk) ?_)
  dsimp only
  cases c:f (b[nb' - 1]'(by omega)) (a[na' - 1]'(by omega)) with
  | true =>
   simp only [if_true]
   refine qi (yl (show na' - 1<a.size by omega) ?_)
   have j2:=j'.pushA O hb h1 h2 (by omega) h4 (O.asym _ _ c)
   by_cases e:na' - 1=0
   ·rw [if_pos (by simpa using e)]
    exact qm ⟨hst,j2.done (.inl e)⟩
   ·rw [if_neg (by simpa using e)]
    split
    ·exact qm ⟨hst,⟨j2,by omega,by omega,h3,h4⟩,by omega⟩
    ·exact qm ⟨hst,_,_,_,_,_,rfl,⟨j2,by omega,by omega,h3,h4⟩,by omega⟩
  | false =>
   simp only [Bool.false_eq_true,if_false]
   refine qi (yl (show nb' - 1<b.size by omega) ?_)
   have j2:=j'.pushB O hb h1 h2 (by omega) h4 c
   by_cases e:nb' - 1=1
   ·rw [if_pos (by simpa using e)]
    exact qm ⟨hst,j2.firstB O hb e⟩
   ·rw [if_neg (by simpa using e)]
    split
    ·exact qm ⟨hst,⟨j2,h1,h2,by omega,by omega⟩,by omega⟩
    ·exact qm ⟨hst,_,_,_,_,_,rfl,⟨j2,h1,h2,by omega,by omega⟩,by omega⟩
def qkE (f:Keyed->Keyed->Bool) (a b:Array Keyed) (st:SortSt) (n0:Nat) (r:GH) (st':SortSt):Prop:=yq st st'/\match r with
 | (some o,_)=>Jm f a b o
 | (none,na,nb,out,_)=>InH f a b na nb out/\na+nb<=n0
theorem qiJ (hA:Ask prog w A E s kd D f) (O:OrdK f) (hb:Both D f a b) {st0 st:SortSt}(hk:kindOf st0=kd) (hst:yq st0 st) {out:Array Keyed}{na nb mg ac bc:Nat}(j:InH f a b na nb out) :
  wpS (model prog w) A E s (forIn [0:a.size+b.size] ((none,na,nb,out,mg,ac,bc):GH) (hiGB a b)) (qkE f a b st0 (na+nb)) st:=by
 refine ya (I:=fun x c st'=>yq st0 st'/\∃ na' nb' out' mg ac bc,c=(none,na',nb',out',mg,ac,bc)/\InH f a b na' nb' out'/\na'+nb'<=na+nb) ?step ?fin ⟨hst,na,nb,out,mg,ac,bc,rfl,j,by omega⟩
 case fin =>
  rintro c st' ⟨hst,na',nb',out',mg,ac,bc,rfl,j',g3⟩
  exact ⟨hst,j',g3⟩
 case step =>
  rintro x c st' _ hx ⟨hst,na',nb',out',mg,ac,bc,rfl,j',g3⟩
  unfold hiGB
  dsimp only
  split
  ·refine yN (qcp hA O hb hk hst j' g3) fun r st'' h=>?_
   obtain ⟨h0,h⟩:=h
   match r,h with
   | .done (some o,_),h=>exact ⟨h0,h⟩
   | .done (none,na,nb,out,_),h=>exact ⟨h0,h⟩
   | .yield (none,na,nb,out,m,c,d),h=>exact ⟨h0,_,_,_,_,_,_,rfl,h⟩
  ·refine yN (qcp hA O hb hk hst j' g3) fun r st'' h=>?_
   obtain ⟨h0,h⟩:=h
   match r,h with
   | .done (some o,_),h=>exact ⟨h0,h⟩
   | .done (none,na,nb,out,_),h=>exact ⟨h0,h⟩
   | .yield (none,na,nb,out,m,c,d),h=>exact ⟨h0,_,_,_,_,_,_,rfl,h⟩
theorem qbP (hA:Ask prog w A E s kd D f) (O:OrdK f) (hb:Both D f a b) {st:SortSt}(hk:kindOf st=kd) {Q:Array Keyed->SortSt->Prop}(q:∀ o st',yq st st'->Jm f a b o->Q o st') :
  wpS (model prog w) A E s (Yc a b) Q st:=by
 have na:=hb.na
 have nb:=hb.nb
 rw [qaF]
 refine qi (wpS_lift (jC ⟨rfl,?_⟩))
 refine qi (yl (show a.size - 1<a.size by omega) ?_)
 have j0:JH f a b a.size b.size #[]:=⟨by rw [<- Array.length_toList,jB];simpa using hb.sa,by rw [<- Array.length_toList,jB];simpa using hb.sb,by rw [<- Array.length_toList,jB,<- Array.length_toList,jB];simp⟩
 have j1:JH f a b (a.size - 1) b.size #[a[a.size - 1]]:=by
  have:=j0.pushA O hb na (qj _) nb (qj _) (O.asym _ _ (hb.last _ (by simp)))
  simpa using this
 by_cases e:a.size - 1=0
 ·rw [if_pos (by simpa using e)]
  exact qm (q _ _ (yq.refl _) (j1.done (.inl e)))
 ·rw [if_neg (by simpa using e)]
  by_cases e2:b.size=1
  ·rw [if_pos (by simpa using e2)]
   exact qm (q _ _ (yq.refl _) (j1.firstB O hb e2))
  ·rw [if_neg (by simpa using e2)]
   refine qi (wpS_get ?_)
   refine qi (yN (ya (I:=fun x c st'=>yq st st'/\∃ na nb out mg,c=(none,na,nb,out,mg)/\InH f a b na nb out/\na+nb+x<=a.size+b.size)
    (Q:=fun c st'=>yq st st'/\∃ o r,c=(some o,r)/\Jm f a b o) ?step ?fin ⟨yq.refl _,_,_,_,_,rfl,⟨j1,by omega,by omega,by omega,qj _⟩,by omega⟩) ?post)
   case fin =>
    rintro c st' ⟨hst,na,nb,out,mg,rfl,⟨j,g1,g2,g3,g4⟩,g5⟩
    omega
   case post =>
    rintro c st' ⟨hst,o,r,rfl,h⟩
    exact qm (q o st' hst h)
   case step =>
    rintro x c st' _ hx ⟨hst,na,nb,out,mg,rfl,j,g3⟩
    unfold hiOB
    dsimp only
    refine qi (yN (qiK hA O hb (hst.1.trans hk) j) ?_)
    rintro c1 st1 ⟨hst1,h⟩
    match c1,h with
    | (some o,na,nb,out,_),h=>exact qm ⟨hst.trans hst1,o,_,rfl,h⟩
    | (none,na1,nb1,out1,ac,bc),⟨j1,k3⟩ =>
     dsimp only
     refine qi (wpS_lift (jC ⟨rfl,?_⟩))
     refine qi (yN (qiJ hA O hb hk (hst.trans hst1) j1) ?_)
     rintro c2 st2 ⟨hst2,h⟩
     match c2,h with
     | (some o,na,nb,out,mg,_),h=>exact qm ⟨hst2,o,_,rfl,h⟩
     | (none,na2,nb2,out2,mg2,ac,bc),⟨j2,l3⟩ =>
      dsimp only
      rw [yH]
      refine qi (jb (qm ⟨hst2.trans ⟨rfl,rfl,rfl,rfl⟩,_,_,_,_,rfl,j2,by omega⟩))
end
end L2
namespace L2
open PySem PySem.Spec PyProof.Rows PySem.W
abbrev kD (xs:Array Keyed) (i:Nat):Keyed:=xs.getD i (.none,.none)
theorem qdQ {xs ys:Array Keyed}{i j:Nat}(h:xs[i]?=ys[j]?):kD xs i=kD ys j:=by
 simp only [kD,Array.getD_eq_getD_getElem?,h]
theorem qdT {xs:Array Keyed}{i:Nat}(h:i<xs.size):xs[i]?=some (kD xs i):=by
 rw [Array.getElem?_eq_getElem h];simp [kD,Array.getD,h]
structure SV (lo:Nat) (st0 st:SortSt):Prop where
 kind:kindOf st=kindOf st0
 pend:pendingOf st=pendingOf st0
 fail:failedOf st=failedOf st0
 perm:(arrOf st).Perm (arrOf st0)
 pre:∀ k,k<lo->(arrOf st)[k]?=(arrOf st0)[k]?
theorem SV.refl (lo:Nat) (st:SortSt):SV lo st st:=⟨rfl,rfl,rfl,Array.Perm.refl _,fun _ _=>rfl⟩
theorem SV.size {lo:Nat}{st0 st:SortSt}(h:SV lo st0 st):(arrOf st).size=(arrOf st0).size:=h.perm.size_eq
theorem SV.trans {lo:Nat}{a b c:SortSt}(h:SV lo a b) (g:SV lo b c):SV lo a c:=⟨g.kind.trans h.kind,g.pend.trans h.pend,g.fail.trans h.fail,g.perm.trans h.perm,fun k hk=>(g.pre k hk).trans (h.pre k hk)⟩
def mir (xs:Array Keyed) (i j:Nat):Array Keyed:=mirror xs i j ((j - i) / 2)
theorem qdR {xs:Array Keyed}{i j:Nat}(hj:j<=xs.size) (k:Nat):kD (mir xs i j) k=if i<=k/\k<j then kD xs (i+j - 1 - k) else kD xs k:=by
 have e:=getElem?_mirror_all (i:=i) hj k
 unfold mir
 by_cases h1:i<=k/\k<j
 ·rw [if_pos h1] at e ⊢;exact qdQ e
 ·rw [if_neg h1] at e ⊢;exact qdQ e
theorem SV.mir {lo:Nat}{st0 st:SortSt}(h:SV lo st0 st) {i j:Nat}(hi:lo<=i) (hj:j<=(arrOf st).size):SV lo st0 (setArr st (L2.mir (arrOf st) i j)):=by
 refine ⟨h.kind,h.pend,h.fail,(mirror_perm _ _ _ _).trans h.perm,fun k hk=>?_⟩
 show (L2.mir (arrOf st) i j)[k]?=_
 unfold L2.mir
 rw [getElem?_mirror_all hj,if_neg (by omega)]
 exact h.pre k hk
section
variable {f:Keyed->Keyed->Bool}
def UpL (f:Keyed->Keyed->Bool) (lo:Nat) (p:Array Keyed) (k:Nat):Prop:=∀ i j,i<=j->j<k->f (kD p (lo+j)) (kD p (lo+i))=false
def DnL (f:Keyed->Keyed->Bool) (lo:Nat) (p:Array Keyed) (k:Nat):Prop:=∀ i j,i<=j->j<k->f (kD p (lo+i)) (kD p (lo+j))=false
def YJ (f:Keyed->Keyed->Bool) (a b:Keyed):Prop:=f a b=false/\f b a=false
theorem YJ.refl (O:OrdK f) (a:Keyed):YJ f a a:=⟨O.irr a,O.irr a⟩
theorem YJ.symm {a b:Keyed}(h:YJ f a b):YJ f b a:=⟨h.2,h.1⟩
theorem YJ.trans (O:OrdK f) {a b c:Keyed}(h:YJ f a b) (g:YJ f b c):YJ f a c:=⟨O.le g.1 h.1,O.le h.2 g.2⟩
theorem qj8 (O:OrdK f) {a b c:Keyed}(h:YJ f a b):f a c=f b c:=by
 cases h1:f b c with
 | true=>exact O.lel h.2 h1
 | false =>
  cases h2:f a c with
  | false=>rfl
  | true =>
   have:=O.lel h.1 h2
   rw [h1] at this;cases this
theorem qj7 (O:OrdK f) {a b c:Keyed}(h:YJ f a b):f c a=f c b:=by
 cases h1:f c b with
 | true=>exact O.ltl h1 h.1
 | false =>
  cases h2:f c a with
  | false=>rfl
  | true =>
   have:=O.ltl h2 h.2
   rw [h1] at this;cases this
theorem UpL.one (O:OrdK f) (lo:Nat) (p:Array Keyed):UpL f lo p 1:=fun i j h1 h2=>by
 have:i=j:=by omega
 subst this;exact O.irr _
theorem UpL.succ (O:OrdK f) {lo:Nat}{p:Array Keyed}{k:Nat}(h0:1<=k) (h:UpL f lo p k) (g:f (kD p (lo+k)) (kD p (lo+k - 1))=false):UpL f lo p (k+1):=fun i j hij hj=>by
 by_cases e:j=k
 ·subst e
  by_cases e2:i=j
  ·subst e2;exact O.irr _
  ·have:=h i (j - 1) (by omega) (by omega)
   rw [show lo+(j - 1)=lo+j - 1 by omega] at this
   exact O.le this g
 ·exact h i j hij (by omega)
theorem DnL.succ (O:OrdK f) {lo:Nat}{p:Array Keyed}{k:Nat}(h0:1<=k) (h:DnL f lo p k) (g:f (kD p (lo+k - 1)) (kD p (lo+k))=false):DnL f lo p (k+1):=fun i j hij hj=>by
 by_cases e:j=k
 ·subst e
  by_cases e2:i=j
  ·subst e2;exact O.irr _
  ·have:=h i (j - 1) (by omega) (by omega)
   rw [show lo+(j - 1)=lo+j - 1 by omega] at this
   exact O.le g this
 ·exact h i j hij (by omega)
theorem DnL.eqv (O:OrdK f) {lo:Nat}{p q:Array Keyed}{k:Nat}(h:DnL f lo p k) (e:∀ i,YJ f (kD q i) (kD p i)):DnL f lo q k:=fun i j h1 h2=>by
 rw [qj8 O (e _),qj7 O (e _)];exact h i j h1 h2
theorem Zg (O:OrdK f) {p:Array Keyed}{i j:Nat}(hj:j<=p.size) (h:∀ a b,i<=a->a<j->i<=b->b<j->YJ f (kD p a) (kD p b)) (k:Nat):YJ f (kD (mir p i j) k) (kD p k):=by
 rw [qdR hj]
 split
 ·exact h _ _ (by omega) (by omega) (by omega) (by omega)
 ·exact YJ.refl O _
theorem UpL.ofRev {lo:Nat}{p:Array Keyed}{k:Nat}(hk:lo+k<=p.size) (h:DnL f lo p k):UpL f lo (mir p lo (lo+k)) k:=fun i j h1 h2=>by
 rw [qdR hk,qdR hk,if_pos (by omega),if_pos (by omega)]
 have:=h (k - 1 - j) (k - 1 - i) (by omega) (by omega)
 rw [show lo+(lo+k) - 1 - (lo+j)=lo+(k - 1 - j) by omega,show lo+(lo+k) - 1 - (lo+i)=lo+(k - 1 - i) by omega]
 exact this
end
def qkz (lo a nrem:Nat):StateT SortSt Sem (Option (Option Nat)×Nat) :=
 forIn [a:nrem] ((none,a):Option (Option Nat)×Nat) fun _ c=>do
  let x <- ltAt' (lo+c.2) (lo+c.2 - 1)
  match x with
  | some smaller=>if smaller=true then pure (ForInStep.done (none,c.2)) else pure (ForInStep.yield (none,c.2+1))
  | _=>pure (ForInStep.done (some none,c.2))
def ZL (lo n nrem:Nat):StateT SortSt Sem (Option Nat):=do
 reverseSlice' lo (lo+n)
 let c <- qkz lo n nrem
 match c.1 with
 | some r=>pure r
 | none=>pure (some c.2)
def qfI (lo n nrem:Nat):StateT SortSt Sem (Option (Option Nat)×Nat×Nat) :=
 forIn [n:nrem] ((none,n,0):Option (Option Nat)×Nat×Nat) fun _ c=>do
  let x <- ltAt' (lo+c.2.1) (lo+c.2.1 - 1)
  match x with
  | some smaller =>
   if smaller=true then
    if c.2.2 > 0 then do
     reverseSlice' (lo+c.2.1 - (c.2.2+1)) (lo+c.2.1)
     pure (ForInStep.yield (none,c.2.1+1,0))
    else pure (ForInStep.yield (none,c.2.1+1,0))
   else do
    let y <- ltAt' (lo+c.2.1 - 1) (lo+c.2.1)
    match y with
    | some larger =>
     if larger=true then pure (ForInStep.done (none,c.2.1,c.2.2))
     else pure (ForInStep.yield (none,c.2.1+1,c.2.2+1))
    | _=>pure (ForInStep.done (some none,c.2.1,c.2.2))
  | _=>pure (ForInStep.done (some none,c.2.1,c.2.2))
def jZ (lo n nrem:Nat):StateT SortSt Sem (Option Nat):=do
 liftM (rule "list.sort.descending-run")
 let c <- qfI lo (n+1) nrem
 match c.1 with
 | some r=>pure r
 | none =>
  if c.2.2 > 0 then do
   reverseSlice' (lo+c.2.1 - (c.2.2+1)) (lo+c.2.1)
   ZL lo c.2.1 nrem
  else ZL lo c.2.1 nrem
theorem qad (lo nrem:Nat):countRun' lo nrem=(do
  let c <- qkz lo 1 nrem
  match c.1 with
  | some r=>pure r
  | none =>
   if (c.2 == nrem)=true then pure (some c.2)
   else if c.2 > 1 then do
    let x <- ltAt' lo (lo+c.2 - 1)
    match x with
    | some rose=>if rose=true then pure (some c.2) else do
      reverseSlice' lo (lo+c.2)
      jZ lo c.2 nrem
    | _=>pure none
   else jZ lo c.2 nrem):=by
 rw [countRun'_eq]
 unfold jZ ZL qfI qkz
 dsimp only
 congr 1
 funext c
 obtain ⟨r,n⟩:=c
 cases r with
 | some r=>rfl
 | none =>
  dsimp only
  split
  ·rfl
  ·split
   ·congr 1
    funext x
    cases x with
    | none=>rfl
    | some rose =>
     dsimp only
     split
     ·rfl
     ·congr 1
      funext _r
      congr 1
      funext _u
      congr 1
      funext s2
      obtain ⟨r2,n2,q2⟩:=s2
      cases r2 with
      | some r2=>rfl
      | none =>
       dsimp only
       split
       ·congr 1
        funext _v
        congr 1
        funext _w
        congr 1
        funext s3
        obtain ⟨r3,n3⟩:=s3
        cases r3 <;> rfl
       ·congr 1
        funext _w
        congr 1
        funext s3
        obtain ⟨r3,n3⟩:=s3
        cases r3 <;> rfl
   ·congr 1
    funext _u
    congr 1
    funext s2
    obtain ⟨r2,n2,q2⟩:=s2
    cases r2 with
    | some r2=>rfl
    | none =>
     dsimp only
     split
     ·congr 1
      funext _v
      congr 1
      funext _w
      congr 1
      funext s3
      obtain ⟨r3,n3⟩:=s3
      cases r3 <;> rfl
     ·congr 1
      funext _w
      congr 1
      funext s3
      obtain ⟨r3,n3⟩:=s3
      cases r3 <;> rfl
section
variable {prog:Program}{w:World}{A:Around}{E:Value->Shared->Prop}{s:Shared}{kd:SortKind}{D:Keyed->Prop}{f:Keyed->Keyed->Bool}{st0:SortSt}{lo nrem:Nat}
def qcj (D:Keyed->Prop) (st:SortSt):Prop:=∀ x∈(arrOf st).toList,D x
theorem qcj.of {st st':SortSt}(h:qcj D st) (p:(arrOf st').Perm (arrOf st)):qcj D st':=fun x hx=>h x ((yd.mp p).mem_iff.mp hx)
theorem Yh (hA:Ask prog w A E s kd D f) {st:SortSt}(hk:kindOf st=kd) (hD:qcj D st) {i j:Nat}(hi:i<(arrOf st).size) (hj:j<(arrOf st).size) {Q:Option Bool->SortSt->Prop}(q:Q (some (f (kD (arrOf st) i) (kD (arrOf st) j))) st):wpS (model prog w) A E s (ltAt' i j) Q st:=by
 rw [ltAt'_eq]
 refine qi (wpS_get ?_)
 show wpS _ _ _ _ (do let x <- elem' (arrOf st) i;let y <- elem' (arrOf st) j;lt' x y) Q st
 rw [elem'_eq,elem'_eq,qdT hi,qdT hj]
 refine qi (qm (qi (qm ?_)))
 have mem:∀ i,i<(arrOf st).size->kD (arrOf st) i∈(arrOf st).toList:=fun i h=>by
  have e:kD (arrOf st) i=(arrOf st)[i]:=by simp [kD,Array.getD,h]
  rw [e];simp
 exact hA _ _ _ _ (hD _ (mem i hi)) (hD _ (mem j hj)) hk q
theorem qcs (hA:Ask prog w A E s kd D f) (O:OrdK f) {st:SortSt}(hk:kindOf st=kd) (hD:qcj D st) (hn:lo+nrem<=(arrOf st).size) {a:Nat}(ha:1<=a) (han:a<=nrem) (hs:UpL f lo (arrOf st) a) {Q:Option (Option Nat)×Nat->SortSt->Prop}
  (q:∀ n,a<=n->n<=nrem->UpL f lo (arrOf st) n->(n<nrem->f (kD (arrOf st) (lo+n)) (kD (arrOf st) (lo+n - 1))=true)->Q (none,n) st):wpS (model prog w) A E s (qkz lo a nrem) Q st:=by
 unfold qkz
 refine ya (I:=fun x c st'=>st'=st/\c=(none,x)/\UpL f lo (arrOf st) x) ?step ?fin ⟨rfl,rfl,hs⟩
 case fin =>
  rintro c st' ⟨rfl,rfl,hs'⟩
  rw [show max a nrem=nrem by omega] at hs' ⊢
  exact q nrem han (qj _) hs' fun z=>absurd z (by omega)
 case step =>
  rintro x c st' hax hxn ⟨rfl,rfl,hs'⟩
  dsimp only
  refine qi (Yh hA hk hD (by omega) (by omega) ?_)
  dsimp only
  cases c:f (kD (arrOf st') (lo+x)) (kD (arrOf st') (lo+x - 1)) with
  | true =>
   simp only [if_true]
   exact qm (q x hax (by omega) hs' fun _=>c)
  | false =>
   simp only [Bool.false_eq_true,if_false]
   exact qm ⟨rfl,rfl,hs'.succ O (by omega) c⟩
theorem qa1 {st:SortSt}{i j:Nat}{Q:Unit->SortSt->Prop}(h:Q () (setArr st (mir (arrOf st) i j))):wpS (model prog w) A E s (reverseSlice' i j) Q st:=by
 rw [reverseSlice'_eq];exact jb h
def RunP (f:Keyed->Keyed->Bool) (lo nrem:Nat) (st0:SortSt) (Q:Option Nat->SortSt->Prop):Prop:=∀ n st',SV lo st0 st'->1<=n->n<=nrem->UpL f lo (arrOf st') n->Q (some n) st'
theorem ZK (hA:Ask prog w A E s kd D f) (O:OrdK f) (hk:kindOf st0=kd) (hD:qcj D st0) (hn:lo+nrem<=(arrOf st0).size) {st:SortSt}(hv:SV lo st0 st) {n:Nat}(h1:1<=n) (h2:n<=nrem) (h3:DnL f lo (arrOf st) n) {Q:Option Nat->SortSt->Prop}(q:RunP f lo nrem st0 Q) :
  wpS (model prog w) A E s (ZL lo n nrem) Q st:=by
 unfold ZL
 have hz:=hv.size
 refine qi (qa1 ?_)
 have hv2:=hv.mir (i:=lo) (j:=lo+n) (qj _) (by omega)
 have up:UpL f lo (arrOf (setArr st (mir (arrOf st) lo (lo+n)))) n:=UpL.ofRev (by omega) h3
 generalize setArr st (mir (arrOf st) lo (lo+n))=st2 at hv2 up ⊢
 have hz2:=hv2.size
 refine qi (qcs hA O (hv2.kind.trans hk) (hD.of hv2.perm) (by omega) h1 h2 up fun m a1 a2 a3 _=>?_)
 exact qm (q m st2 hv2 (by omega) a2 a3)
theorem qeO (hA:Ask prog w A E s kd D f) (O:OrdK f) (hk:kindOf st0=kd) (hD:qcj D st0) (hn:lo+nrem<=(arrOf st0).size) {st:SortSt}(hv:SV lo st0 st) {n:Nat}(h1:1<=n) (h2:n<=nrem) (h3:DnL f lo (arrOf st) n) {Q:Option (Option Nat)×Nat×Nat->SortSt->Prop}
  (q:∀ m k st',SV lo st0 st'->k+1<=m->m<=nrem->DnL f lo (arrOf st') m->(∀ a b,lo+m - (k+1)<=a->a<lo+m->lo+m - (k+1)<=b->b<lo+m->YJ f (kD (arrOf st') a) (kD (arrOf st') b))->Q (none,m,k) st') :
  wpS (model prog w) A E s (qfI lo n nrem) Q st:=by
 unfold qfI
 have one:∀ (p:Array Keyed) (m a b:Nat),1<=m->lo+m - (0+1)<=a->a<lo+m->lo+m - (0+1)<=b->b<lo+m->YJ f (kD p a) (kD p b):=fun p m a b _ _ _ _ _=>by
  have:a=b:=by omega
  subst this;exact YJ.refl O _
 refine ya (I:=fun x c st'=>SV lo st0 st'/\∃ k,c=(none,x,k)/\k+1<=x/\DnL f lo (arrOf st') x/\(∀ a b,lo+x - (k+1)<=a->a<lo+x->lo+x - (k+1)<=b->b<lo+x->YJ f (kD (arrOf st') a) (kD (arrOf st') b))) ?step ?fin ⟨hv,0,rfl,by omega,h3,fun a b=>one _ n a b h1⟩
 case fin =>
  rintro c st' ⟨hv',k,rfl,g1,g2,g3⟩
  rw [show max n nrem=nrem by omega] at g1 g2 g3 ⊢
  exact q nrem k st' hv' g1 (qj _) g2 g3
 case step =>
  rintro x c st' hnx hx ⟨hv',k,rfl,g1,g2,g3⟩
  dsimp only
  have hz:=hv'.size
  refine qi (Yh hA (hv'.kind.trans hk) (hD.of hv'.perm) (by omega) (by omega) ?_)
  dsimp only
  cases c:f (kD (arrOf st') (lo+x)) (kD (arrOf st') (lo+x - 1)) with
  | true =>
   simp only [if_true]
   have dn:=g2.succ O (by omega) (O.asym _ _ c)
   by_cases hq:k > 0
   ·rw [if_pos hq]
    refine qi (qa1 ?_)
    have ev:=Zg O (p:=arrOf st') (i:=lo+x - (k+1)) (j:=lo+x) (by omega) g3
    exact qm ⟨hv'.mir (by omega) (by omega),0,rfl,by omega,dn.eqv O ev,fun a b=>one _ _ a b (by omega)⟩
   ·rw [if_neg hq]
    exact qm ⟨hv',0,rfl,by omega,dn,fun a b=>one _ _ a b (by omega)⟩
  | false =>
   simp only [Bool.false_eq_true,if_false]
   refine qi (Yh hA (hv'.kind.trans hk) (hD.of hv'.perm) (by omega) (by omega) ?_)
   dsimp only
   cases d:f (kD (arrOf st') (lo+x - 1)) (kD (arrOf st') (lo+x)) with
   | true =>
    simp only [if_true]
    exact qm (q x k st' hv' g1 (by omega) g2 g3)
   | false =>
    simp only [Bool.false_eq_true,if_false]
    refine qm ⟨hv',k+1,rfl,by omega,g2.succ O (by omega) d,fun a b a1 a2 b1 b2=>?_⟩
    have last:YJ f (kD (arrOf st') (lo+x)) (kD (arrOf st') (lo+x - 1)):=⟨c,d⟩
    have key:∀ y,lo+(x+1) - (k+1+1)<=y->y<lo+(x+1)->YJ f (kD (arrOf st') y) (kD (arrOf st') (lo+x - 1)):=fun y y1 y2=>by
     by_cases e:y=lo+x
     ·subst e;exact last
     ·exact g3 _ _ (by omega) (by omega) (by omega) (by omega)
    exact (key a a1 a2).trans O (key b b1 b2).symm
theorem JP (hA:Ask prog w A E s kd D f) (O:OrdK f) (hk:kindOf st0=kd) (hD:qcj D st0) (hn:lo+nrem<=(arrOf st0).size) {st:SortSt}(hv:SV lo st0 st) {n:Nat}(h1:1<=n) (h2:n+1<=nrem) (h3:DnL f lo (arrOf st) (n+1)) {Q:Option Nat->SortSt->Prop}(q:RunP f lo nrem st0 Q) :
  wpS (model prog w) A E s (jZ lo n nrem) Q st:=by
 unfold jZ
 refine qi (wpS_lift (jC ⟨rfl,?_⟩))
 refine qi (qeO hA O hk hD hn hv (by omega) h2 h3 fun m k st' hv' g1 g2 g3 g4=>?_)
 dsimp only
 have hz:=hv'.size
 by_cases hq:k > 0
 ·rw [if_pos hq]
  refine qi (qa1 ?_)
  have ev:=Zg O (p:=arrOf st') (i:=lo+m - (k+1)) (j:=lo+m) (by omega) g4
  exact ZK hA O hk hD hn (hv'.mir (by omega) (by omega)) (by omega) g2 (g3.eqv O ev) q
 ·rw [if_neg hq]
  exact ZK hA O hk hD hn hv' (by omega) g2 g3 q
theorem qas (hA:Ask prog w A E s kd D f) (O:OrdK f) (hk:kindOf st0=kd) (hD:qcj D st0) (hn:lo+nrem<=(arrOf st0).size) (h1:1<=nrem) {Q:Option Nat->SortSt->Prop}(q:RunP f lo nrem st0 Q) :
  wpS (model prog w) A E s (countRun' lo nrem) Q st0:=by
 rw [qad]
 refine qi (qcs hA O hk hD hn (qj _) h1 (UpL.one O lo _) fun m a1 a2 a3 a4=>?_)
 dsimp only
 by_cases e:m=nrem
 ·rw [if_pos (by simpa using e)]
  exact qm (q m st0 (SV.refl _ _) a1 a2 a3)
 ·rw [if_neg (by simpa using e)]
  have hlt:=a4 (by omega)
  by_cases e2:m > 1
  ·rw [if_pos e2]
   refine qi (Yh hA hk hD (by omega) (by omega) ?_)
   dsimp only
   cases c:f (kD (arrOf st0) lo) (kD (arrOf st0) (lo+m - 1)) with
   | true =>
    simp only [if_true]
    exact qm (q m st0 (SV.refl _ _) a1 a2 a3)
   | false =>
    simp only [Bool.false_eq_true,if_false]
    refine qi (qa1 ?_)
    have al:∀ a b,lo<=a->a<lo+m->lo<=b->b<lo+m->YJ f (kD (arrOf st0) a) (kD (arrOf st0) b):=fun a b ha1 ha hb1 hb=>by
     have key:∀ x,lo<=x->x<lo+m->YJ f (kD (arrOf st0) x) (kD (arrOf st0) lo):=fun x hx1 hx=>by
      have k1:=a3 0 (x - lo) (by omega) (by omega)
      have k2:=a3 (x - lo) (m - 1) (by omega) (by omega)
      rw [show lo+(x - lo)=x by omega] at k1 k2
      rw [show lo+(m - 1)=lo+m - 1 by omega] at k2
      exact ⟨k1,O.le k2 c⟩
     exact (key a ha1 ha).trans O (key b hb1 hb).symm
    have ev:=Zg O (p:=arrOf st0) (i:=lo) (j:=lo+m) (by omega) al
    have dn:DnL f lo (arrOf st0) m:=fun i j hi hj=>(al (lo+i) (lo+j) (by omega) (by omega) (by omega) (by omega)).1
    exact JP hA O hk hD hn ((SV.refl lo st0).mir (qj _) (by omega)) a1 (by omega) ((dn.succ O a1 (O.asym _ _ hlt)).eqv O ev) q
  ·rw [if_neg e2]
   have m1:m=1:=by omega
   subst m1
   have dn:DnL f lo (arrOf st0) 1:=fun i j hi hj=>by
    have:i=j:=by omega
    subst this;exact O.irr _
   exact JP hA O hk hD hn (SV.refl lo st0) (qj _) (by omega) (dn.succ O (qj _) (O.asym _ _ hlt)) q
theorem Z2 {xs:Array Keyed}{src d:Nat}(hs:src<xs.size) (hd:d<=src) (k:Nat):kD (bubble xs src d) k=if k=src - d then kD xs src else if src - d<k/\k<=src then kD xs (k - 1) else kD xs k:=by
 have e:=getElem?_bubble hs d hd k
 by_cases h1:k=src - d
 ·rw [if_pos h1] at e ⊢;exact qdQ e
 ·rw [if_neg h1] at e ⊢
  by_cases h2:src - d<k/\k<=src
  ·rw [if_pos h2] at e ⊢;exact qdQ e
  ·rw [if_neg h2] at e ⊢;exact qdQ e
theorem qbQ (hA:Ask prog w A E s kd D f) (O:OrdK f) (hk:kindOf st0=kd) (hD:qcj D st0) {n ok:Nat}(hn:lo+n<=(arrOf st0).size) (hok:ok<=n) (hs:UpL f lo (arrOf st0) ok) {Q:Bool->SortSt->Prop}(q:∀ st',SV lo st0 st'->UpL f lo (arrOf st') n->Q true st') :
  wpS (model prog w) A E s (binarySort' lo n ok) Q st0:=by
 rw [binarySort'_eq]
 refine qi (yN (ya (I:=fun k c st'=>c=(none,())/\SV lo st0 st'/\UpL f lo (arrOf st') (min k n))
  (Q:=fun c st'=>c=(none,())/\SV lo st0 st'/\UpL f lo (arrOf st') n) ?step ?fin ?init) ?post)
 case post =>
  rintro c st' ⟨rfl,hB',hs'⟩
  exact qm (q st' hB' hs')
 case init =>
  refine ⟨rfl,SV.refl _ _,fun i j hij hj=>?_⟩
  by_cases h1:ok=0
  ·have:i=j:=by omega
   subst this;exact O.irr _
  ·exact hs i j hij (by omega)
 case fin =>
  rintro c st' ⟨hc,hB',hs'⟩
  refine ⟨hc,hB',?_⟩
  rwa [show min (max (max ok 1) n) n=n by omega] at hs'
 case step =>
  rintro k c st' hak hkn ⟨rfl,hB',hs'⟩
  rw [show min k n=k by omega] at hs'
  have hz:=hB'.size
  refine qi (yN (ya (I:=fun x c st''=>st''=st'/\∃ l r,c=(none,l,r)/\l<=r/\r<=k/\r - l<=k - x ∧
    (∀ i,i<l->f (kD (arrOf st') (lo+k)) (kD (arrOf st') (lo+i))=false)/\(∀ i,r<=i->i<k->f (kD (arrOf st') (lo+k)) (kD (arrOf st') (lo+i))=true))
   (Q:=fun c st''=>st''=st'/\∃ l r,c=(none,l,r)/\l<=k ∧
    (∀ i,i<l->f (kD (arrOf st') (lo+k)) (kD (arrOf st') (lo+i))=false)/\(∀ i,l<=i->i<k->f (kD (arrOf st') (lo+k)) (kD (arrOf st') (lo+i))=true)) ?istep ?ifin ?iinit) ?ipost)
  case iinit=>exact ⟨rfl,0,k,rfl,by omega,by omega,by omega,fun i hi=>by omega,fun i h1 h2=>by omega⟩
  case ifin =>
   rintro c st'' ⟨rfl,l,r,rfl,hlr,hrk,hm,hlo,hhi⟩
   have:l=r:=by omega
   subst this
   exact ⟨rfl,l,l,rfl,hrk,hlo,hhi⟩
  case istep =>
   rintro x c st'' _ hxk ⟨rfl,l,r,rfl,hlr,hrk,hm,hlo,hhi⟩
   dsimp only
   by_cases hge:l ≥ r
   ·rw [if_pos hge]
    have:l=r:=by omega
    subst this
    exact qm ⟨rfl,l,l,rfl,hrk,hlo,hhi⟩
   ·rw [if_neg hge]
    refine qi (Yh hA (hB'.kind.trans hk) (hD.of hB'.perm) (by omega) (by omega) ?_)
    dsimp only
    cases c:f (kD (arrOf st'') (lo+k)) (kD (arrOf st'') (lo+(l+r) / 2)) with
    | true =>
     simp only [if_true]
     refine qm ⟨rfl,l,(l+r) / 2,rfl,by omega,by omega,by omega,hlo,fun i h1 h2=>?_⟩
     exact O.ltl c (hs' _ _ h1 h2)
    | false =>
     simp only [Bool.false_eq_true,if_false]
     refine qm ⟨rfl,(l+r) / 2+1,r,rfl,by omega,by omega,by omega,fun i h1=>?_,hhi⟩
     exact O.le (hs' i ((l+r) / 2) (by omega) (by omega)) c
  case ipost =>
   rintro c st'' ⟨rfl,l,r,rfl,hlk,hlo,hhi⟩
   show wpS _ _ _ _ (do moveDown' (lo+k) (lo+l);pure (ForInStep.yield (none,()))) _ _
   rw [moveDown'_eq]
   have hks:lo+k<(arrOf st'').size:=by omega
   have ed:lo+k - (lo+l)=k - l:=by omega
   refine qi (jb (qm ⟨rfl,⟨hB'.kind,hB'.pend,hB'.fail,(bubble_perm _ _ _).trans hB'.perm,fun j hj=>?_⟩,?_⟩))
   ·show (bubble (arrOf st'') (lo+k) (lo+k - (lo+l)))[j]?=_
    rw [getElem?_bubble hks _ (by omega),if_neg (by omega),if_neg (by omega)]
    exact hB'.pre j hj
   rw [show min (k+1) n=k+1 by omega]
   intro i j hij hj
   show f (kD (bubble (arrOf st'') (lo+k) (lo+k - (lo+l))) (lo+j)) (kD (bubble (arrOf st'') (lo+k) (lo+k - (lo+l))) (lo+i))=false
   rw [Z2 hks (by omega),Z2 hks (by omega),ed,show lo+k - (k - l)=lo+l by omega]
   by_cases j1:j=l
   ·rw [if_pos (by omega)]
    by_cases i1:i=l
    ·rw [if_pos (by omega)];exact O.irr _
    ·rw [if_neg (by omega),if_neg (by omega)]
     exact hlo i (by omega)
   ·rw [if_neg (by omega)]
    by_cases j2:l<j/\j<=k
    ·rw [if_pos (by omega)]
     by_cases i1:i=l
     ·rw [if_pos (by omega)]
      have:=hhi (j - 1) (by omega) (by omega)
      rw [show lo+j - 1=lo+(j - 1) by omega]
      exact O.asym _ _ this
     ·rw [if_neg (by omega)]
      by_cases i2:l<i/\i<=k
      ·rw [if_pos (by omega),show lo+j - 1=lo+(j - 1) by omega,show lo+i - 1=lo+(i - 1) by omega];exact hs' _ _ (by omega) (by omega)
      ·rw [if_neg (by omega),show lo+j - 1=lo+(j - 1) by omega];exact hs' _ _ (by omega) (by omega)
    ·rw [if_neg (by omega),if_neg (by omega),if_neg (by omega)]
     exact hs' _ _ (by omega) (by omega)
end
end L2
namespace L2
open PySem PySem.Spec PyProof.Rows PySem.W
section
variable {f:Keyed->Keyed->Bool}
def ye (f:Keyed->Keyed->Bool):Nat->List (List Keyed)->List (Nat×Nat×Nat)->Prop
 | _,[],[]=>True
 | off,sg::sgs,p::ps=>p.1=off/\p.2.1=sg.length/\SdK f sg/\sg≠[]/\ye f (off+sg.length) sgs ps
 | _,_,_=>False
theorem ye.len:∀ {off:Nat}{segs:List (List Keyed)}{ps:List (Nat×Nat×Nat)},ye f off segs ps->segs.length=ps.length
 | _,[],[],_=>rfl
 | _,_::_,_::_,h=>by simp [ye.len h.2.2.2.2]
theorem ye.snoc:∀ {off:Nat}{segs:List (List Keyed)}{ps:List (Nat×Nat×Nat)}{sg:List Keyed}{pw:Nat},ye f off segs ps->SdK f sg->sg≠[]->ye f off (segs++[sg]) (ps++[(off+segs.flatten.length,sg.length,pw)])
 | _,[],[],_,_,_,h1,h2=>⟨by simp,rfl,h1,h2,trivial⟩
 | off,a::segs,p::ps,sg,pw,h,h1,h2=>by
  obtain ⟨g1,g2,g3,g4,g5⟩:=h
  have:=ye.snoc (pw:=pw) g5 h1 h2
  refine ⟨g1,g2,g3,g4,?_⟩
  simp only [List.flatten_cons,List.length_append]
  rw [Nat.add_assoc] at this
  exact this
theorem ye.split:∀ {p1:List (Nat×Nat×Nat)}{off:Nat}{segs:List (List Keyed)}{A B:Nat×Nat×Nat}{p2:List (Nat×Nat×Nat)},ye f off segs (p1++A::B::p2) →
  ∃ s1 X Y s2,segs=s1++X::Y::s2/\A.1=off+s1.flatten.length/\A.2.1=X.length/\B.1=off+s1.flatten.length+X.length/\B.2.1=Y.length/\SdK f X/\SdK f Y/\X≠[]/\Y≠[] ∧
   ∀ Z pw,SdK f Z->Z.length=X.length+Y.length->ye f off (s1++Z::s2) (p1++(A.1,X.length+Y.length,pw)::p2)
 | [],off,a::b::segs,A,B,p2,h=>by
  obtain ⟨g1,g2,g3,g4,h1,h2,h3,h4,h5⟩:=h
  refine ⟨[],a,b,segs,rfl,by simpa using g1,g2,by simpa using h1,h2,g3,h3,g4,h4,fun Z pw z1 z2=>⟨g1,z2.symm,z1,fun e=>?_,?_⟩⟩
  ·subst e
   simp at z2
   have:=jo.mpr g4
   omega
  ·rw [z2,<- Nat.add_assoc];exact h5
 | p::p1,off,a::segs,A,B,p2,h=>by
  obtain ⟨g1,g2,g3,g4,g5⟩:=h
  obtain ⟨s1,X,Y,s2,e,k1,k2,k3,k4,k5,k6,k7,k8,k9⟩:=ye.split g5
  refine ⟨a::s1,X,Y,s2,by rw [e];rfl,by rw [k1];simp;omega,k2,by rw [k3];simp;omega,k4,k5,k6,k7,k8,fun Z pw z1 z2=>⟨g1,g2,g3,g4,k9 Z pw z1 z2⟩⟩
theorem ye.repow {g:Nat×Nat×Nat->Nat×Nat×Nat}(hg:∀ p,(g p).1=p.1/\(g p).2.1=p.2.1):∀ {off:Nat}{segs:List (List Keyed)}{ps:List (Nat×Nat×Nat)}{i:Nat},ye f off segs ps->ye f off segs (ps.modify i g)
 | _,[],[],i,h=>by rw [List.modify_nil];exact h
 | _,a::segs,p::ps,0,h=>by
  obtain ⟨g1,g2,g3,g4,g5⟩:=h
  simp only [List.modify_zero_cons]
  exact ⟨(hg p).1.trans g1,(hg p).2.trans g2,g3,g4,g5⟩
 | _,a::segs,p::ps,i+1,h=>by
  obtain ⟨g1,g2,g3,g4,g5⟩:=h
  simp only [List.modify_succ_cons]
  exact ⟨g1,g2,g3,g4,ye.repow hg g5⟩
theorem ye.flat_pos:∀ {off:Nat}{segs:List (List Keyed)}{ps:List (Nat×Nat×Nat)},ye f off segs ps->ps.length<=segs.flatten.length
 | _,[],[],_=>qj _
 | _,a::segs,p::ps,h=>by
  have:=ye.flat_pos h.2.2.2.2
  have:=jo.mpr h.2.2.2.1
  rw [List.flatten_cons,List.length_append,List.length_cons];omega
end
def wrt (base:Nat) (a:Array Keyed) (l:List (Keyed×Nat)):Array Keyed:=l.foldl (fun a (p:Keyed×Nat)=>a.setIfInBounds (base+p.2) p.1) a
theorem qa0:∀ {M:List Keyed}{n base:Nat}{arr:Array Keyed}{A B C:List Keyed},arr.toList=A++(B++C)->A.length=base+n->M.length=B.length->(wrt base arr (M.zipIdx n)).toList=A++(M++C)
 | [],n,base,arr,A,B,C,h,_,hm=>by
  have:B=[]:=List.eq_nil_of_length_eq_zero hm.symm
  subst this
  simpa [wrt] using h
 | m::M,n,base,arr,A,[],C,h,_,hm=>by simp at hm
 | m::M,n,base,arr,A,b::B,C,h,ha,hm=>by
  have e:(arr.setIfInBounds (base+n) m).toList=(A++[m])++(B++C):=by
   rw [Array.toList_setIfInBounds,h,<- ha]
   simp
  have:=qa0 (M:=M) (n:=n+1) (base:=base) (arr:=arr.setIfInBounds (base+n) m) e (by simp;omega) (by simpa using hm)
  rw [List.zipIdx_cons]
  show (wrt base (arr.setIfInBounds (base+n) m) (M.zipIdx (n+1))).toList=_
  rw [this]
  simp
theorem Z1 (i:Nat):mergeAt' i=(do
 let s <- get
 let (some (sa,na,power),some (sb,nb,_)):=((pendingOf s)[i]?,(pendingOf s)[i+1]?) | unsupported "internal:list.sort.pending"
 set (SortSt.mk' (PyProof.Rows.kindOf s) (arrOf s) (((pendingOf s).setIfInBounds i (sa,na+nb,power)).eraseIdxIfInBounds (i+1)) (gallopOf s) (failedOf s))
 let some k <- yV false (<- elem' (arrOf s) sb) (arrOf s) sa na 0 | return false
 let (sa,na):=(sa+k,na - k)
 if na == 0 then return true
 let some nb <- yV true (<- elem' (arrOf s) (sa+na - 1)) (arrOf s) sb nb (nb - 1) | return false
 if nb == 0 then return true
 let x:=(arrOf s).extract sa sb
 let y:=(arrOf s).extract sb (sb+nb)
 let merged <- if na<=nb then Yb x y else Yc x y
 modify fun s=>SortSt.mk' (PyProof.Rows.kindOf s) (merged.toList.zipIdx.foldl (fun a (p,j)=>a.setIfInBounds (sa+j) p) (arrOf s)) (pendingOf s) (gallopOf s) (failedOf s)
 return (failedOf (<- get)).isNone):=rfl
section
variable {prog:Program}{w:World}{A:Around}{E:Value->Shared->Prop}{s:Shared}{kd:SortKind}{D:Keyed->Prop}{f:Keyed->Keyed->Bool}{st:SortSt}
theorem qgU {st st':SortSt}{Q:PUnit->SortSt->Prop}(h:Q ⟨⟩ st'):wpS (model prog w) A E s (set st':StateT SortSt Sem PUnit) Q st:=by
 unfold wpS;rw [StateT.run_set];exact qd ⟨rfl,h⟩
theorem qcb {p1 p2:List (Nat×Nat×Nat)}{a b v:Nat×Nat×Nat}{ps:Array (Nat×Nat×Nat)}(h:ps.toList=p1++a::b::p2):((ps.setIfInBounds p1.length v).eraseIdxIfInBounds (p1.length+1)).toList=p1++v::p2:=by
 have hz:ps.size=p1.length+2+p2.length:=by
  rw [<- Array.length_toList,h];simp;omega
 unfold Array.eraseIdxIfInBounds
 rw [dif_pos (by simp;omega),Array.toList_eraseIdx,Array.toList_setIfInBounds,h]
 simp
 rw [List.eraseIdx_append_of_length_le (by omega)]
 simp
theorem Ze {X Y:List Keyed}(h1:SdK f X) (h2:SdK f Y) (c:∀ x∈X,∀ y∈Y,f y x=false):SdK f (X++Y):=qR.mpr ⟨h1,h2,c⟩
theorem Jt (hA:Ask prog w A E s kd D f) (O:OrdK f) (hk:PyProof.Rows.kindOf st=kd) (hD:qcj D st) (hf:failedOf st=none) {segs:List (List Keyed)}{yD:List Keyed}{i:Nat}(ha:(arrOf st).toList=segs.flatten++yD) (hp:ye f 0 segs (pendingOf st).toList) (hi:i+1<(pendingOf st).size) {Q:Bool->SortSt->Prop}
  (q:∀ st' segs',PyProof.Rows.kindOf st'=kd->failedOf st'=none->(arrOf st').Perm (arrOf st)->(arrOf st').toList=segs'.flatten++yD->segs'.flatten.length=segs.flatten.length->ye f 0 segs' (pendingOf st').toList->(pendingOf st').size+1=(pendingOf st).size->Q true st') :
  wpS (model prog w) A E s (mergeAt' i) Q st:=by
 have hlen:(pendingOf st).toList.length=(pendingOf st).size:=Array.length_toList
 obtain ⟨p1,a0,b0,p2,hpl,hp1⟩:∃ p1 a0 b0 p2,(pendingOf st).toList=p1++a0::b0::p2/\p1.length=i:=by
  refine ⟨(pendingOf st).toList.take i,(pendingOf st)[i],(pendingOf st)[i+1],(pendingOf st).toList.drop (i+2),?_,by simp;omega⟩
  have e1:=y6 (l:=(pendingOf st).toList) (i:=i) (by omega)
  have e2:=y6 (l:=(pendingOf st).toList) (i:=i+1) (by omega)
  have:=(qD i (pendingOf st).toList).symm
  rw [e1,e2] at this
  exact this
 rw [hpl] at hp
 obtain ⟨s1,X,Y,s2,rfl,k1,k2,k3,k4,k5,k6,k7,k8,k9⟩:=hp.split
 have g1:(pendingOf st)[i]?=some a0:=by
  rw [<- qo,hpl,<- hp1];simp
 have g2:(pendingOf st)[i+1]?=some b0:=by
  rw [<- qo,hpl,<- hp1]
  rw [qP (by omega)]
  simp
 obtain ⟨sa,na,pw⟩:=a0
 obtain ⟨sb,nb,pw2⟩:=b0
 simp only [Nat.zero_add] at k1 k2 k3 k4
 subst k2 k4
 rw [Z1]
 refine qi (wpS_get ?_)
 rw [g1,g2]
 dsimp only
 refine qi (qgU ?_)
 have hnp:(((pendingOf st).setIfInBounds i (sa,X.length+Y.length,pw)).eraseIdxIfInBounds (i+1)).toList=p1++(sa,X.length+Y.length,pw)::p2:=by
  rw [<- hp1];exact qcb hpl
 have hsz:(((pendingOf st).setIfInBounds i (sa,X.length+Y.length,pw)).eraseIdxIfInBounds (i+1)).size+1=(pendingOf st).size:=by
  rw [<- Array.length_toList,hnp,<- hlen,hpl];simp;omega
 generalize ((pendingOf st).setIfInBounds i (sa,X.length+Y.length,pw)).eraseIdxIfInBounds (i+1)=np at hnp hsz ⊢
 have harr:(arrOf st).toList=s1.flatten++(X++(Y++(s2.flatten++yD))):=by rw [ha];simp
 have hsz2:(arrOf st).size=s1.flatten.length+(X.length+(Y.length+(s2.flatten.length+yD.length))):=by
  rw [<- Array.length_toList,harr];simp
 have hX:0<X.length:=jo.mpr k7
 have hY:0<Y.length:=jo.mpr k8
 have getX:∀ j,j<X.length->(arrOf st)[sa+j]?=X[j]?:=fun j hj=>by
  rw [<- qo,harr,k1,qP (by omega),qJ (by omega)]
  congr 1;omega
 have getY:∀ j,j<Y.length->(arrOf st)[sb+j]?=Y[j]?:=fun j hj=>by
  rw [<- qo,harr,k3,qP (by omega),qP (by omega),qJ (by omega)]
  congr 1;omega
 have dX:∀ x∈X,D x:=fun x hx=>hD x (by rw [harr];simp [hx])
 have dY:∀ x∈Y,D x:=fun x hx=>hD x (by rw [harr];simp [hx])
 -- the end,by what stands there then
 have fin:∀ (st':SortSt) (Z:List Keyed),PyProof.Rows.kindOf st'=kd->failedOf st'=none->pendingOf st'=np->(arrOf st').toList=s1.flatten++(Z++(s2.flatten++yD))->SdK f Z->Z.Perm (X++Y)->Q true st':=fun st' Z z1 z2 z3 z4 z5 z6=>by
  have zl:=z6.length_eq
  rw [List.length_append] at zl
  refine q st' (s1++Z::s2) z1 z2 ?_ (by rw [z4];simp) (by simp [zl];omega) ?_ (by rw [z3];exact hsz)
  ·rw [yd,z4,harr]
   refine List.Perm.append_left _ ?_
   rw [<- List.append_assoc X Y]
   exact List.Perm.append_right _ z6
  ·rw [z3,hnp]
   have:=k9 Z pw z5 zl
   simpa using this
 have fin0:SdK f (X++Y)->Q true (SortSt.mk' (PyProof.Rows.kindOf st) (arrOf st) np (gallopOf st) (failedOf st)):=fun h=>fin _ (X++Y) hk hf rfl (by rw [harr];simp) h (List.Perm.refl _)
 have y0:(arrOf st)[sb]?=some Y[0]:=by
  have:=getY 0 hY
  rwa [Nat.add_zero,List.getElem?_eq_getElem hY] at this
 rw [elem'_eq,y0]
 refine qi (qm ?_)
 refine qi (YQ hA O hk X rfl getX (dY _ (qO hY)) dX hX k5 fun k hk1 hk2 hk3=>?_)
 have leX:∀ x∈X.take k,f Y[0] x=false:=fun x hx=>by simpa [byd] using hk2 x hx
 have gtX:∀ x∈X.drop k,f Y[0] x=true:=fun x hx=>by simpa [byd] using hk3 x hx
 have Y0le:∀ y∈Y,f y Y[0]=false:=fun y hy=>by
  obtain ⟨j,hj,rfl⟩:=yF.mp hy
  by_cases e:j=0
  ·subst e;exact O.irr _
  ·exact qL.mp k6 0 j hY hj (by omega)
 dsimp only
 by_cases e:X.length - k=0
 ·rw [if_pos (by simpa using e)]
  refine qm (fin0 (Ze k5 k6 fun x hx y hy=>?_))
  have:X.take k=X:=List.take_of_length_le (by omega)
  exact O.le (leX x (by rw [this];exact hx)) (Y0le y hy)
 ·rw [if_neg (by simpa using e)]
  have hl:X.length - 1<X.length:=by omega
  have xl:(arrOf st)[sa+k+(X.length - k) - 1]?=some X[X.length - 1]:=by
   rw [show sa+k+(X.length - k) - 1=sa+(X.length - 1) by omega,getX _ hl,List.getElem?_eq_getElem hl]
  rw [elem'_eq,xl]
  refine qi (qm ?_)
  refine qi (YQ hA O hk Y rfl getY (dX _ (qO hl)) dY (by omega) k6 fun m hm1 hm2 hm3=>?_)
  have ltY:∀ x∈Y.take m,f x X[X.length - 1]=true:=fun x hx=>hm2 x hx
  have geY:∀ x∈Y.drop m,f x X[X.length - 1]=false:=fun x hx=>hm3 x hx
  have Xle:∀ x∈X,f X[X.length - 1] x=false:=fun x hx=>by
   obtain ⟨j,hj,rfl⟩:=yF.mp hx
   by_cases e:j=X.length - 1
   ·subst e;exact O.irr _
   ·exact qL.mp k5 j (X.length - 1) hj hl (by omega)
  dsimp only
  by_cases e2:m=0
  ·rw [if_pos (by simpa using e2)]
   subst e2
   refine qm (fin0 (Ze k5 k6 fun x hx y hy=>O.le (Xle x hx) (geY y (by simpa using hy))))
  ·rw [if_neg (by simpa using e2)]
   have ex:((arrOf st).extract (sa+k) sb).toList=X.drop k:=by
    have e:((arrOf st).extract (sa+k) sb).toList=((arrOf st).toList.drop (sa+k)).take (sb - (sa+k)):=by simp [Array.toList_extract,List.extract_eq_take_drop]
    rw [e,harr,k1,k3,List.drop_append,List.drop_of_length_le (by omega),List.nil_append,show s1.flatten.length+k - s1.flatten.length=k by omega,List.drop_append_of_le_length (by omega),List.take_append_of_le_length (by simp;omega)]
    exact List.take_of_length_le (by simp;omega)
   have ey:((arrOf st).extract sb (sb+m)).toList=Y.take m:=by
    rw [jL,harr,k3,List.drop_append,List.drop_of_length_le (by omega),List.nil_append,show s1.flatten.length+X.length - s1.flatten.length=X.length by omega,List.drop_left,List.take_append_of_le_length hm1]
   generalize (arrOf st).extract (sa+k) sb=ax at ex ⊢
   generalize (arrOf st).extract sb (sb+m)=ay at ey ⊢
   have hax:ax.size=X.length - k:=by rw [<- Array.length_toList,ex];simp
   have hay:ay.size=m:=by rw [<- Array.length_toList,ey];simp;omega
   have getax:∀ j (h:j<ax.size),ax[j]=X[k+j]'(by omega):=fun j h=>by
    have:ax.toList[j]'(by simpa using h)=(X.drop k)[j]'(by simp;omega):=by simp only [ex]
    rw [List.getElem_drop] at this
    exact this
   have getay:∀ j (h:j<ay.size),ay[j]=Y[j]'(by omega):=fun j h=>by
    have:ay.toList[j]'(by simpa using h)=(Y.take m)[j]'(by simp;omega):=by simp only [ey]
    rw [List.getElem_take] at this
    exact this
   have hB:Both D f ax ay:=by
    refine ⟨fun x hx=>dX x (ja (by rw [<- ex];exact hx)),fun x hx=>dY x (List.mem_of_mem_take (by rw [<- ey];exact hx)),by omega,by omega,fun x hx=>?_,?_,?_,?_⟩
    ·rw [getax]
     have:=ltY x (by rw [<- ey];exact hx)
     simp only [hax,show k+(X.length - k - 1)=X.length - 1 by omega]
     exact this
    ·rw [getax,getay]
     exact gtX _ (yF.mpr ⟨0,by simp;omega,by rw [List.getElem_drop]⟩)
    ·rw [ex];exact List.Pairwise.sublist (List.drop_sublist _ _) k5
    ·rw [ey];exact List.Pairwise.sublist (List.take_sublist _ _) k6
   have key:∀ (o:Array Keyed) (st':SortSt),yq (SortSt.mk' (PyProof.Rows.kindOf st) (arrOf st) np (gallopOf st) (failedOf st)) st'->Jm f ax ay o->Q true (SortSt.mk' (PyProof.Rows.kindOf st') (wrt (sa+k) (arrOf st') o.toList.zipIdx) (pendingOf st') (gallopOf st') (failedOf st')):=fun o st' hs ⟨h1,h2⟩=>by
    rw [ex,ey] at h2
    have ol:=h2.length_eq
    refine fin _ (X.take k++(o.toList++Y.drop m)) (hs.1.trans hk) (hs.2.2.2.trans hf) hs.2.2.1 ?_ ?_ ?_
    ·show (wrt (sa+k) (arrOf st') o.toList.zipIdx).toList=_
     have ea:(arrOf st').toList=(s1.flatten++X.take k)++((X.drop k++Y.take m)++(Y.drop m++(s2.flatten++yD))):=by
      have:arrOf st'=arrOf st:=hs.2.1
      rw [this,harr]
      have e1:=qD k X
      have e2:=qD m Y
      rw [<- List.append_assoc (X.drop k++Y.take m),List.append_assoc (X.drop k),e2]
      rw [List.append_assoc s1.flatten,<- List.append_assoc (X.take k),<- List.append_assoc (X.take k),e1]
      simp
     rw [qa0 (n:=0) ea (by rw [List.length_append,List.length_take];omega) ol]
     simp
    ·refine Ze (List.Pairwise.sublist (List.take_sublist _ _) k5) (Ze h1 (List.Pairwise.sublist (List.drop_sublist _ _) k6) fun x hx y hy=>?_) fun x hx y hy=>?_
     ·have hx:=h2.mem_iff.mp hx
      rcases List.mem_append.mp hx with z | z
      ·exact O.le (Xle x (ja z)) (geY y hy)
      ·have hY2:=qD m Y
       have:SdK f (Y.take m++Y.drop m):=by rw [hY2];exact k6
       exact (qR.mp this).2.2 x z y hy
     ·rcases List.mem_append.mp hy with z | z
      ·have z:=h2.mem_iff.mp z
       rcases List.mem_append.mp z with z | z
       ·have hX2:=qD k X
        have:SdK f (X.take k++X.drop k):=by rw [hX2];exact k5
        exact (qR.mp this).2.2 x hx y z
       ·exact O.le (leX x hx) (Y0le y (List.mem_of_mem_take z))
      ·exact O.le (leX x hx) (Y0le y (ja z))
    ·refine List.Perm.trans (List.Perm.append_left _ (List.Perm.append_right _ h2)) ?_
     rw [List.append_assoc,qD m Y,<- List.append_assoc,qD k X]
   by_cases e3:X.length - k<=m
   ·rw [if_pos e3]
    refine qi (qbO (st:=SortSt.mk' (PyProof.Rows.kindOf st) (arrOf st) np (gallopOf st) (failedOf st)) hA O hB hk fun o st' hs h=>?_)
    refine qi (jb (qi (wpS_get (qm ?_))))
    have e0:(failedOf st').isNone=true:=by
     have:failedOf st'=none:=hs.2.2.2.trans hf
     rw [this];rfl
    show Q (failedOf st').isNone _
    rw [e0]
    exact key o st' hs h
   ·rw [if_neg e3]
    refine qi (qbP (st:=SortSt.mk' (PyProof.Rows.kindOf st) (arrOf st) np (gallopOf st) (failedOf st)) hA O hB hk fun o st' hs h=>?_)
    refine qi (jb (qi (wpS_get (qm ?_))))
    have e0:(failedOf st').isNone=true:=by
     have:failedOf st'=none:=hs.2.2.2.trans hf
     rw [this];rfl
    show Q (failedOf st').isNone _
    rw [e0]
    exact key o st' hs h
structure RI (f:Keyed->Keyed->Bool) (kd:SortKind) (a0:Array Keyed) (lo:Nat) (st:SortSt):Prop where
 kind:PyProof.Rows.kindOf st=kd
 fail:failedOf st=none
 perm:(arrOf st).Perm a0
 segs:∃ segs yD,(arrOf st).toList=segs.flatten++yD/\segs.flatten.length=lo/\ye f 0 segs (pendingOf st).toList
theorem RI.size {a0:Array Keyed}{lo:Nat}(h:RI f kd a0 lo st):(arrOf st).size=a0.size:=h.perm.size_eq
theorem qdS {xs:Array Keyed}{i:Nat}{l:List Keyed}{pre:List Keyed}{post:List Keyed}(h:xs.toList=pre++(l++post)) (hi:i<l.length):kD xs (pre.length+i)=l[i]:=by
 have hz:pre.length+i<xs.size:=by rw [<- Array.length_toList,h];simp;omega
 have:=qdT hz
 rw [<- qo,h,qP (by omega),qJ (by omega),Nat.add_sub_cancel_left,List.getElem?_eq_getElem hi] at this
 exact (Option.some.inj this).symm
theorem RI.run {a0:Array Keyed}{lo n:Nat}{st0 st:SortSt}(h:RI f kd a0 lo st0) (hv:SV lo st0 st) (h1:1<=n) (h2:lo+n<=a0.size) (hu:UpL f lo (arrOf st) n):∃ segs run yD,(arrOf st).toList=segs.flatten++(run++yD)/\segs.flatten.length=lo/\ye f 0 segs (pendingOf st).toList/\SdK f run/\run.length=n:=by
 obtain ⟨segs,yD,g1,g2,g3⟩:=h.segs
 have hz:(arrOf st).size=a0.size:=hv.size.trans h.size
 have hz0:=h.size
 have e1:(arrOf st).toList.take lo=segs.flatten:=by
  have:(arrOf st).toList.take lo=(arrOf st0).toList.take lo:=by
   apply List.ext_getElem?
   intro i
   rw [List.getElem?_take,List.getElem?_take]
   split
   ·rename_i hi
    rw [qo,qo]
    exact hv.pre i hi
   ·rfl
  rw [this,g1,<- g2,List.take_left]
 have hl:(arrOf st).toList.length=a0.size:=by rw [Array.length_toList];exact hz
 refine ⟨segs,((arrOf st).toList.drop lo).take n,((arrOf st).toList.drop lo).drop n,?_,g2,by rw [hv.pend];exact g3,?_,by simp;omega⟩
 ·rw [qD n,<- e1,qD]
 ·refine qL.mpr fun i j hi hj hij=>?_
  have hi':i<n:=by simp at hi;omega
  have hj':j<n:=by simp at hj;omega
  have:=hu i j (by omega) hj'
  have ed:(arrOf st).toList=segs.flatten++(((arrOf st).toList.drop lo).take n++((arrOf st).toList.drop lo).drop n):=by rw [qD n,<- e1,qD]
  subst g2
  rw [qdS ed hi,qdS ed hj] at this
  exact this
theorem RI.push {a0:Array Keyed}{lo n:Nat}{st:SortSt}(hk:PyProof.Rows.kindOf st=kd) (hf:failedOf st=none) (hp:(arrOf st).Perm a0) {segs:List (List Keyed)}{run yD:List Keyed}(g1:(arrOf st).toList=segs.flatten++(run++yD)) (g2:segs.flatten.length=lo) (g3:ye f 0 segs (pendingOf st).toList) (g4:SdK f run) (g5:run.length=n) (h1:1<=n) :
  RI f kd a0 (lo+n) (setPending st ((pendingOf st).push (lo,n,0))):=by
 refine ⟨hk,hf,hp,segs++[run],yD,by rw [show arrOf (setPending st ((pendingOf st).push (lo,n,0)))=arrOf st from rfl,g1];simp,by simp only [List.flatten_append,List.length_append,List.flatten_cons,List.flatten_nil,List.append_nil,g2,g5],?_⟩
 have:=g3.snoc (pw:=0) g4 (fun e=>by subst e;simp at g5;omega)
 rw [show (pendingOf (setPending st ((pendingOf st).push (lo,n,0)))).toList=(pendingOf st).toList++[(lo,n,0)] from Array.toList_push ..]
 rw [Nat.zero_add,g2,g5] at this
 exact this
theorem Yg (hA:Ask prog w A E s kd D f) (O:OrdK f) {a0:Array Keyed}(hk:PyProof.Rows.kindOf st=kd) (hf:failedOf st=none) (ha:arrOf st=a0) (hp0:pendingOf st=#[]) (hD:∀ x∈a0.toList,D x) (h2:2<=a0.size) {Q:Unit->SortSt->Prop}
  (q:∀ st',(arrOf st').Perm a0->failedOf st'=none->SdK f (arrOf st').toList->Q () st'):wpS (model prog w) A E s sortRuns' Q st:=by
 have hAll:∀ st',(arrOf st').Perm a0->qcj D st':=fun st' h x hx=>hD x ((yd.mp h).mem_iff.mp hx)
 rw [sortRuns'_eq]
 refine qi (wpS_get ?_)
 dsimp only
 rw [ha]
 generalize minRun' a0.size a0.size 0=minrun
 refine qi (yN (ya
  (I:=fun x c st'=>∃ lo,c=(none,lo)/\x<=lo/\lo<=a0.size/\RI f kd a0 lo st')
  (Q:=fun c st'=>c=(none,a0.size)/\RI f kd a0 a0.size st') ?step ?fin ⟨0,rfl,qj _,qN _,hk,hf,ha ▸ Array.Perm.refl _,[],a0.toList,by rw [ha];rfl,rfl,by rw [hp0];trivial⟩) ?post)
 case fin =>
  rintro c st' ⟨lo,rfl,g1,g2,g3⟩
  have:lo=a0.size:=by omega
  subst this
  exact ⟨rfl,g3⟩
 case step =>
  rintro x c st' _ hx ⟨lo,rfl,g1,g2,g3⟩
  dsimp only
  by_cases hge:lo ≥ a0.size
  ·rw [if_pos hge]
   have:lo=a0.size:=by omega
   subst this
   exact qm ⟨rfl,g3⟩
  ·rw [if_neg hge]
   have hz:=g3.size
   refine qi (qas hA O g3.kind (hAll _ g3.perm) (by omega) (by omega) fun n st1 hv h1 hn hu=>?_)
   dsimp only
   -- with a run of n,merge and push
   have next:∀ (n:Nat) (st1:SortSt),SV lo st' st1->1<=n->lo+n<=a0.size->UpL f lo (arrOf st1) n->∃ segs run yD,PyProof.Rows.kindOf st1=kd/\failedOf st1=none/\(arrOf st1).Perm a0/\(arrOf st1).toList=segs.flatten++(run++yD)/\segs.flatten.length=lo/\ye f 0 segs (pendingOf st1).toList/\SdK f run/\run.length=n:=fun n st1 hv h1 hn hu=>by
    obtain ⟨segs,run,yD,e⟩:=g3.run hv h1 hn hu
    exact ⟨segs,run,yD,hv.kind.trans g3.kind,hv.fail.trans g3.fail,hv.perm.trans g3.perm,e⟩
   by_cases hlt:n<minrun
   ·rw [if_pos hlt]
    refine qi (wpS_lift (jC ⟨rfl,?_⟩))
    have hz1:=hv.size
    refine qi (qbQ (n:=min (a0.size - lo) minrun) (ok:=n) hA O (hv.kind.trans g3.kind) (hAll _ (hv.perm.trans g3.perm)) (by omega) (by omega) hu fun st2 hv2 hu2=>?_)
    simp only [Bool.not_true,Bool.false_eq_true,if_false]
    obtain ⟨segs,run,yD,b1,b2,b3,b4,b5,b6,b7,b8⟩:=next (min (a0.size - lo) minrun) st2 (hv.trans hv2) (by omega) (by omega) hu2
    have hnn:1<=min (a0.size - lo) minrun/\min (a0.size - lo) minrun<=a0.size - lo:=by omega
    generalize min (a0.size - lo) minrun=n at *
    have hn1:1<=n:=by omega
    refine qi (wpS_get ?_)
    cases hb:(pendingOf st2).back? with
    | none =>
     dsimp only
     exact qi (jb (qm ⟨lo+n,rfl,by omega,by omega,RI.push b1 b2 b3 b4 b5 b6 b7 b8 hn1⟩))
    | some p =>
     obtain ⟨s1,n1,pw1⟩:=p
     dsimp only
     generalize power' a0.size (2 * s1+n1) (2 * s1+n1+n1+n) a0.size=pw
     refine qi (yN (ya (I:=fun _ c sx=>c=(none,())/\∃ segs,PyProof.Rows.kindOf sx=kd/\failedOf sx=none/\(arrOf sx).Perm a0/\(arrOf sx).toList=segs.flatten++(run++yD)/\segs.flatten.length=lo/\ye f 0 segs (pendingOf sx).toList)
      (Q:=fun c sx=>c=(none,())/\∃ segs,PyProof.Rows.kindOf sx=kd/\failedOf sx=none/\(arrOf sx).Perm a0/\(arrOf sx).toList=segs.flatten++(run++yD)/\segs.flatten.length=lo/\ye f 0 segs (pendingOf sx).toList) ?mstep1 ?mfin1 ⟨rfl,segs,b1,b2,b3,b4,b5,b6⟩) ?mpost1)
     case mfin1=>exact fun c sx h=>h
     case mstep1 =>
      rintro y c sx _ _ ⟨rfl,segs,d1,d2,d3,d4,d5,d6⟩
      refine qi (wpS_get ?_)
      by_cases hs:(pendingOf sx).size > 1
      ·rw [if_pos hs]
       have e:(pendingOf sx)[(pendingOf sx).size - 2]?=some ((pendingOf sx)[(pendingOf sx).size - 2]):=Array.getElem?_eq_getElem (by omega)
       rw [e]
       generalize (pendingOf sx)[(pendingOf sx).size - 2]=t
       obtain ⟨t1,t2,t3⟩:=t
       dsimp only
       split
       ·exact qm ⟨rfl,segs,d1,d2,d3,d4,d5,d6⟩
       ·refine qi (Jt hA O d1 (hAll _ d3) d2 d4 d6 (by omega) fun st4 segs' z1 z2 z3 z4 z5 z6 z7=>?_)
        simp only [Bool.not_true,Bool.false_eq_true,if_false]
        exact qm ⟨rfl,segs',z1,z2,z3.trans d3,z4,z5.trans d5,z6⟩
      ·rw [if_neg hs]
       exact qm ⟨rfl,segs,d1,d2,d3,d4,d5,d6⟩
     case mpost1 =>
      rintro c sx ⟨rfl,segs,d1,d2,d3,d4,d5,d6⟩
      dsimp only
      refine qi (jb (qi (jb (qm ⟨lo+n,rfl,by omega,by omega,?_⟩))))
      have d7:ye f 0 segs ((pendingOf sx).modify ((pendingOf sx).size - 1) fun x=>(x.1,x.2.1,pw)).toList:=by
       rw [Array.toList_modify];exact ye.repow (g:=fun x=>(x.1,x.2.1,pw)) (fun p=>⟨rfl,rfl⟩) d6
      exact RI.push (st:=setPending sx ((pendingOf sx).modify ((pendingOf sx).size - 1) fun x=>(x.1,x.2.1,pw))) d1 d2 d3 d4 d5 d7 b7 b8 hn1
   ·rw [if_neg hlt]
    obtain ⟨segs,run,yD,b1,b2,b3,b4,b5,b6,b7,b8⟩:=next n st1 hv h1 (by omega) hu
    have hn1:1<=n:=by omega
    refine qi (wpS_get ?_)
    cases hb:(pendingOf st1).back? with
    | none =>
     dsimp only
     exact qi (jb (qm ⟨lo+n,rfl,by omega,by omega,RI.push b1 b2 b3 b4 b5 b6 b7 b8 hn1⟩))
    | some p =>
     obtain ⟨s1,n1,pw1⟩:=p
     dsimp only
     generalize power' a0.size (2 * s1+n1) (2 * s1+n1+n1+n) a0.size=pw
     refine qi (yN (ya (I:=fun _ c sx=>c=(none,())/\∃ segs,PyProof.Rows.kindOf sx=kd/\failedOf sx=none/\(arrOf sx).Perm a0/\(arrOf sx).toList=segs.flatten++(run++yD)/\segs.flatten.length=lo/\ye f 0 segs (pendingOf sx).toList)
      (Q:=fun c sx=>c=(none,())/\∃ segs,PyProof.Rows.kindOf sx=kd/\failedOf sx=none/\(arrOf sx).Perm a0/\(arrOf sx).toList=segs.flatten++(run++yD)/\segs.flatten.length=lo/\ye f 0 segs (pendingOf sx).toList) ?mstep2 ?mfin2 ⟨rfl,segs,b1,b2,b3,b4,b5,b6⟩) ?mpost1)
     case mfin2=>exact fun c sx h=>h
     case mstep2 =>
      rintro y c sx _ _ ⟨rfl,segs,d1,d2,d3,d4,d5,d6⟩
      refine qi (wpS_get ?_)
      by_cases hs:(pendingOf sx).size > 1
      ·rw [if_pos hs]
       have e:(pendingOf sx)[(pendingOf sx).size - 2]?=some ((pendingOf sx)[(pendingOf sx).size - 2]):=Array.getElem?_eq_getElem (by omega)
       rw [e]
       generalize (pendingOf sx)[(pendingOf sx).size - 2]=t
       obtain ⟨t1,t2,t3⟩:=t
       dsimp only
       split
       ·exact qm ⟨rfl,segs,d1,d2,d3,d4,d5,d6⟩
       ·refine qi (Jt hA O d1 (hAll _ d3) d2 d4 d6 (by omega) fun st4 segs' z1 z2 z3 z4 z5 z6 z7=>?_)
        simp only [Bool.not_true,Bool.false_eq_true,if_false]
        exact qm ⟨rfl,segs',z1,z2,z3.trans d3,z4,z5.trans d5,z6⟩
      ·rw [if_neg hs]
       exact qm ⟨rfl,segs,d1,d2,d3,d4,d5,d6⟩
     case mpost1 =>
      rintro c sx ⟨rfl,segs,d1,d2,d3,d4,d5,d6⟩
      dsimp only
      refine qi (jb (qi (jb (qm ⟨lo+n,rfl,by omega,by omega,?_⟩))))
      have d7:ye f 0 segs ((pendingOf sx).modify ((pendingOf sx).size - 1) fun x=>(x.1,x.2.1,pw)).toList:=by
       rw [Array.toList_modify];exact ye.repow (g:=fun x=>(x.1,x.2.1,pw)) (fun p=>⟨rfl,rfl⟩) d6
      exact RI.push (st:=setPending sx ((pendingOf sx).modify ((pendingOf sx).size - 1) fun x=>(x.1,x.2.1,pw))) d1 d2 d3 d4 d5 d7 b7 b8 hn1
 case post =>
  rintro c st' ⟨rfl,g3⟩
  dsimp only
  refine qi (yN (ya (I:=fun x c sx=>c=(none,())/\RI f kd a0 a0.size sx/\(pendingOf sx).size+x<=a0.size+1)
   (Q:=fun c sx=>c=(none,())/\RI f kd a0 a0.size sx/\(pendingOf sx).size<=1) ?lstep ?lfin ⟨rfl,g3,?linit⟩) ?lpost)
  case linit =>
   obtain ⟨segs,yD,e1,e2,e3⟩:=g3.segs
   have:=e3.flat_pos
   rw [Array.length_toList] at this
   omega
  case lfin =>
   rintro c sx ⟨rfl,h,h'⟩
   exact ⟨rfl,h,by omega⟩
  case lstep =>
   rintro x c sx _ _ ⟨rfl,h,h'⟩
   refine qi (wpS_get ?_)
   by_cases hs:(pendingOf sx).size<=1
   ·rw [if_pos hs]
    exact qm ⟨rfl,h,hs⟩
   ·rw [if_neg hs]
    obtain ⟨segs,yD,e1,e2,e3⟩:=h.segs
    have go:∀ i,i+1<(pendingOf sx).size->wpS (model prog w) A E s (mergeAt' i) (fun r st4=>r=true/\RI f kd a0 a0.size st4/\(pendingOf st4).size+1=(pendingOf sx).size) sx:=fun i hi =>
     Jt hA O h.kind (hAll _ h.perm) h.fail e1 e3 hi fun st4 segs' z1 z2 z3 z4 z5 z6 z7=>⟨rfl,⟨z1,z2,z3.trans h.perm,segs',yD,z4,z5.trans e2,z6⟩,z7⟩
    refine qi (yN (go _ ?_) fun r st4 hr=>?_)
    ·have two:∀ (c:Prop) [Decidable c] (a b z:Nat),a+1<z->b+1<z->(if c then a else b)+1<z:=fun c _ a b z h1 h2=>by split <;> assumption
     exact two _ _ _ _ (by omega) (by omega)
    ·obtain ⟨rfl,h4,h5⟩:=hr
     simp only [Bool.not_true,Bool.false_eq_true,if_false]
     exact qm ⟨rfl,h4,by omega⟩
  case lpost =>
   rintro c sx ⟨rfl,h,h'⟩
   dsimp only
   obtain ⟨segs,yD,e1,e2,e3⟩:=h.segs
   refine qm (q sx h.perm h.fail ?_)
   have hl:=e3.len
   rw [Array.length_toList] at hl
   have hz:=h.size
   match segs,hl,e1,e2,e3 with
   | [],_,_,e2,_=>simp at e2;omega
   | [Z],_,e1,e2,e3 =>
    have e1l:=congrArg List.length e1
    rw [List.length_append,Array.length_toList,e2,hz] at e1l
    have:yD=[]:=List.eq_nil_of_length_eq_zero (by omega)
    rw [e1,this,List.append_nil]
    match (pendingOf sx).toList,e3 with
    | [p],e3=>simpa using e3.2.2.1
   | _::_::_,hl,_,_,_=>simp at hl;omega
end
end L2
namespace L2
open PySem PySem.Spec PyProof.Rows PySem.W
def qbN (vs:List Value) (p:Array Nat):List Value:=p.toList.map fun i=>vs.getD i Value.none
def ltK (kss:List (List Int)):Nat->Nat->Bool:=fun i j=>decide (kss.getD i []<kss.getD j [])
theorem jg {h:Heap}:∀ {vs:List Value}{kss:List (List Int)},PySem.Paired (yE h) vs kss->∀ i,i<vs.length->yE h (vs.getD i Value.none) (kss.getD i [])
 | _,_,.nil,i,z=>by simp at z
 | _,_,.cons r t,0,_=>r
 | _,_,.cons r t,i+1,z=>jg t i (by simpa using z)
theorem ZG {vs:List Value}{p:Array Nat}(hp:Arr vs.length p):(qbN vs p).length=vs.length:=by
 unfold qbN
 rw [List.length_map,Array.length_toList,hp.size]
section
variable {prog:Program}{w:World}{A:Around}{E:Value->Shared->Prop}{s:Shared}
theorem YA:∀ {vs:List Value}{a b:List Int},IntsAre vs a->IntsAre vs b->a=b
 | _,_,_,.nil,.nil=>rfl
 | _,_,_,.cons _ _ h,.cons _ _ g=>by rw [YA h g]
open Classical in
noncomputable def kf (h:Heap) (v:Value):List Int:=epsilon fun ks=>yE h v ks
theorem qdP {h:Heap}{v:Value}{ks:List Int}(t:yE h v ks):kf h v=ks:=by
 have t2:=Classical.epsilon_spec (p:=fun ks=>yE h v ks) ⟨ks,t⟩
 obtain ⟨a,o,xs,n,rfl,ho,_,hd,hi,_⟩:=t
 obtain ⟨a',o',xs',n',e,ho',_,hd',hi',_⟩:=t2
 cases e
 rw [ho] at ho'
 cases ho'
 rw [hd] at hd'
 cases hd'
 exact YA hi' hi
noncomputable def kfF (h:Heap):Keyed->Keyed->Bool:=fun x y=>decide (kf h x.1<kf h y.1)
theorem qgn (h:Heap):OrdK (kfF h) where
 asym a b h:=yr (qbp (qy h))
 neg a b c h1:=by
  have h1:=qy h1
  by_cases e:kf h a.1<kf h b.1
  ·exact .inl (qB e)
  ·exact .inr (qB (List.lt_of_le_of_lt (List.not_lt.mp e) h1))
theorem qbM:Ask prog w A E s (tuples' true) (fun x=>∃ ks,yE s.heap x.1 ks) (kfF s.heap):=by
 intro x y st Q ⟨k1,t1⟩ ⟨k2,t2⟩ hk q
 rw [lt'_eq]
 refine qi (wpS_get ?_)
 rw [hk]
 refine qi (wpS_lift (wpAny_attempt (lt_wp t1 t2 ⟨rfl,?_⟩)))
 unfold kfF at q
 rw [qdP t1,qdP t2] at q
 exact qm q
theorem Ya {α β:Type}(g:β->α) {xs ys:List α}(h:xs.Perm ys):∀ {l:List β},ys=l.map g->∃ l':List β,l'.Perm l/\xs=l'.map g:=by
 induction h with
 | nil =>
  intro l e
  exact ⟨l,List.Perm.refl _,e⟩
 | cons x p ih =>
  intro l e
  cases l with
  | nil=>cases e
  | cons b l =>
   rw [List.map_cons] at e
   obtain ⟨e1,e2⟩:=List.cons.inj e
   obtain ⟨l',p',e'⟩:=ih e2
   exact ⟨b::l',p'.cons b,by rw [List.map_cons,e',e1]⟩
 | swap x y l0 =>
  intro l e
  match l,e with
  | b::c::l,e =>
   simp only [List.map_cons,List.cons.injEq] at e
   obtain ⟨e1,e2,e3⟩:=e
   exact ⟨c::b::l,List.Perm.swap _ _ _,by simp [e1,e2,e3]⟩
 | trans p1 p2 ih1 ih2 =>
  intro l e
  obtain ⟨l',q1,e1⟩:=ih2 e
  obtain ⟨l'',q2,e2⟩:=ih1 e1
  exact ⟨l'',q2.trans q1,e2⟩
theorem qfb {h:Heap}{vs:List Value}{kss:List (List Int)}(hT:PySem.Paired (yE h) vs kss) {xs:Array Keyed}(hp:xs.Perm (pairsOf vs)) (hs:SdK (kfF h) xs.toList):∃ p,Arr vs.length p/\qcg (ltK kss) p vs.length/\xs=p.map (kas_item (pairsOf vs)):=by
 have y:=kas_range (pairsOf vs)
 rw [pairsOf_size] at y
 have hp:=yd.mp hp
 rw [<- y,Array.toList_map] at hp
 obtain ⟨l,p1,e⟩:=Ya _ hp rfl
 have p1:l.Perm (List.range vs.length):=by simpa using p1
 have hl:l.length=vs.length:=by rw [p1.length_eq,List.length_range]
 refine ⟨l.toArray,yd.mpr (by simpa using p1),fun i j hij hj=>?_,Array.toList_inj.mp (by rw [e,Array.toList_map])⟩
 have gi:∀ i (hi:i<l.length),gD l.toArray i=l[i]:=fun i hi=>by simp [gD,Array.getD,hi]
 rw [gi i (by omega),gi j (by omega)]
 have lt:∀ i (hi:i<l.length),l[i]<vs.length:=fun i hi=>List.mem_range.mp (p1.mem_iff.mp (qO hi))
 have key:∀ i (hi:i<l.length),kf h ((kas_item (pairsOf vs) l[i]).1)=kss.getD l[i] []:=fun i hi=>by
  rw [kas_item_eq]
  exact qdP (jg hT _ (lt i hi))
 by_cases c:i=j
 ·subst c
  exact (qdF fun i=>kss.getD i []).irr _
 ·rw [e] at hs
  have:=qL.mp hs i j (by simp;omega) (by simp;omega) (by omega)
  simp only [List.getElem_map] at this
  unfold kfF at this
  rw [key i (by omega),key j (by omega)] at this
  exact this
theorem qcE {a:Addr}{vs:List Value}{kss:List (List Int)}{n:Nat}{P:PySem.Fin->Shared->Prop}(ho:s.heap.get? a=some (seqObj "list" vs.toArray n)) (hT:PySem.Paired (yE s.heap) vs kss) (h64:vs.length<4915)
  (h:∀ p,Arr vs.length p->qcg (ltK kss) p vs.length->P (.done (.ret .none)) { s with heap:=sortedHeap s.heap a vs (qbN vs p).toArray }) :
  wpAny (model prog w) A (Builtin.«list.sort» ⟨[.ref a],[]⟩) P E s:=by
 rw [list_sort_plain]
 have hlt:a<s.heap.objs.size:=qh ho
 have hn64:vs.length<=sizeLine:=by rw [sizeLine_eq];omega
 refine qa (listItems_at ho rfl (qa (listUpdate_at ho rfl ?_ (by rw [List.size_toArray];exact hn64) (qN _))))
 obtain ⟨ep,hc⟩:∃ ep,(s.heap.update a (Obj.mapSeq fun _=>(#[]:Array Value))).get? a=some (seqObj "list" #[] ep):=⟨_,get?_update_seq ho fun _=>#[]⟩
 refine qa (seqEpoch_at hc rfl (qa (wpAny_newTuple (qa (wpAny_newList (qX ?_) (qN _))) (by show vs.length<=_;exact hn64))))
 generalize hh:((s.heap.update a (Obj.mapSeq fun _=>(#[]:Array Value))).push (seqObj "tuple" vs.toArray 0)).push (seqObj "list" #[] 0)=h6
 have at6:h6.get? a=some (seqObj "list" #[] ep):=by
  rw [<- hh]
  exact qc _ (qc _ hc)
 have old6:∀ b o,s.heap.get? b=some o->b≠a->h6.get? b=some o:=fun b o e ne=>by
  rw [<- hh]
  refine qc _ (qc _ ?_)
  rw [yM _ _ _ _ ne]
  exact e
 have hT6:PySem.Paired (yE h6) vs kss:=Paired.mapP hT fun v ks t=>t.kept fun b o e hcl=>old6 b o e fun z=>by
  subst z
  rw [ho] at e
  cases e
  exact absurd (show Value.type "list" = Value.type "tuple" from hcl) (by decide)
 have fin6:∀ p,Arr vs.length p->qcg (ltK kss) p vs.length->P (.done (.ret .none)) { s with heap:=h6.update a (Obj.mapSeq fun _=>(qbN vs p).toArray) }:=fun p hp hs=>by
  have:=h p hp hs
  unfold sortedHeap at this
  rw [hh] at this
  exact this
 show wpAny (model prog w) A _ P E { s with heap:=h6 }
 dsimp only
 have sz:vs.toArray.size=vs.length:=List.size_toArray ..
 have zipE:vs.toArray.zip vs.toArray=pairsOf vs:=rfl
 have snd:∀ p,((p.map (kas_item (pairsOf vs))).map (·.2))=(qbN vs p).toArray:=fun p=>by
  apply Array.toList_inj.mp
  simp only [Array.toList_map,List.map_map,qbN]
  exact List.map_congr_left fun i _=>by simp [kas_item_eq]
 by_cases c2:vs.toArray.size<2
 ·rw [if_pos c2,if_pos c2]
  refine qa (qd ?_)
  rw [StateT.run_pure]
  refine qa (qd ?_)
  dsimp only
  have e0:((vs.toArray.zip vs.toArray).map (·.2))=(qbN vs (List.range vs.length).toArray).toArray:=by
   have z:=snd (List.range vs.length).toArray
   have y:=kas_range (pairsOf vs)
   rw [pairsOf_size] at y
   rw [<- z,y,zipE]
  refine qa (seqEpoch_at at6 rfl (qa (listUpdate_at at6 rfl ?_ (qN _) ?_)))
  ·simp only [bne_self_eq_false,Bool.false_eq_true,if_false]
   refine qd ?_
   have f0:=fin6 (List.range vs.length).toArray (Array.Perm.refl _) fun i j hij hj=>by
    have:i=j:=by rw [sz] at c2;omega
    subst this
    exact (qdF fun i=>kss.getD i []).irr _
   rw [<- e0] at f0
   exact f0
  ·show ((vs.toArray.zip vs.toArray).map (·.2)).size<=_
   rw [e0,List.size_toArray,ZG (Array.Perm.refl _)]
   omega
 ·rw [if_neg c2,if_neg c2]
  refine qa (qdO (s:={ s with heap:=h6 }) hT6 (by rw [sz] at c2;omega) ?_)
  have hD6:∀ x∈(pairsOf vs).toList,∃ ks,yE h6 x.1 ks:=fun x hx=>by
   have y:=kas_range (pairsOf vs)
   rw [pairsOf_size] at y
   rw [<- y,Array.toList_map] at hx
   obtain ⟨i,hi,rfl⟩:=qv.mp hx
   rw [kas_item_eq]
   exact ⟨_,jg hT6 i (by simpa using hi)⟩
  have run:=Yg (prog:=prog) (w:=w) (A:=A) (E:=E) (s:={ s with heap:=h6 }) (st:=SortSt.mk' (tuples' true) (pairsOf vs) #[] 7 none) (a0:=pairsOf vs)
   (Q:=fun _ st'=>∃ p,Arr vs.length p/\qcg (ltK kss) p vs.length/\arrOf st'=p.map (kas_item (pairsOf vs))/\failedOf st'=none)
   (qbM (s:={ s with heap:=h6 })) (qgn h6) rfl rfl rfl rfl hD6 (by rw [pairsOf_size];rw [sz] at c2;omega) (fun st' hp hf hs=>by
    obtain ⟨p,p1,p2,p3⟩:=qfb hT6 hp hs
    exact ⟨p,p1,p2,p3,hf⟩)
  refine qa (qF (show wpAny (model prog w) A (sortRuns'.run _) _ E _ from run) ?_ fun _ _ e=>e)
  rintro ⟨⟨⟩,st'⟩ s' ⟨rfl,p,hp,hs,e1,e2⟩
  dsimp only
  refine qa (seqEpoch_at at6 rfl (qa (listUpdate_at at6 rfl ?_ (qN _) ?_)))
  ·rw [e2]
   simp only [bne_self_eq_false,Bool.false_eq_true,if_false]
   refine qd ?_
   rw [e1,snd p]
   exact fin6 p hp hs
  ·show ((arrOf st').map (·.2)).size<=_
   rw [e1,snd p,List.size_toArray,ZG hp]
   omega
end
end L2
namespace L2
open PySem PySem.Spec PyProof.Rows PySem.W
abbrev jI (h h':Heap):Prop:=∀ b o,h.get? b=some o->h'.get? b=some o
section
variable {prog:Program}{w:World}{A:Around}{E:Value->Shared->Prop}{s:Shared}
def qkF (s:Shared) (R:List Value->List (List Int)->Prop) (vs:List Value) (s1:Shared):Prop :=
 ∃ h1 tk kss,s1={ s with heap:=h1,toks:=tk }/\jI s.heap h1/\PySem.Paired (yE h1) vs kss/\vs.length<4915/\R vs kss
theorem qcD {x:Value}{R:List Value->List (List Int)->Prop}{Q:Value->Shared->Prop}(hcol:∀ E',wpAny (model prog w) A.in1 (collect x) (qkF s R) E' s)
  (h:∀ vs kss p h' tk D e,R vs kss->Arr vs.length p->qcg (ltK kss) p vs.length->PySem.Paired (yE h') vs kss->vs.length<4915->jI s.heap h'->s.heap.get? D=none->h'.get? D=some (seqObj "list" (qbN vs p).toArray e)->Q (.ref D) { s with heap:=h',toks:=tk }) :
  wpAny (model prog w) A (call (.builtin "sorted") [x]) Q E s:=by
 refine Calls.call_function_entry kind_sorted plain_sorted entry_sorted (args_sorted1 _) ?_
 unfold Builtin.«sorted»
 refine qa (m:=checkCount "sorted" 1 1 _) (qd (qa ?_))
 refine qF (hcol _) (fun vs s1 ⟨h1,tk,kss,e1,kp,hT,h64,hR⟩=>?_) fun _ _ z=>z
 subst e1
 have hn64:vs.length<=sizeLine:=by rw [sizeLine_eq];omega
 refine qa (wpAny_newList ?_ hn64)
 have hD:(h1.push (seqObj "list" vs.toArray 0)).get? h1.objs.size=some (seqObj "list" vs.toArray 0):=qx _ rfl
 have hT2:PySem.Paired (yE (h1.push (seqObj "list" vs.toArray 0))) vs kss:=Paired.mapP hT fun v ks t=>t.kept fun b o e _=>qc _ e
 refine qa (qX (wpAny_call_entry slot_list_sort ⟨_,hD,rfl⟩ entry_list_sort (qcE (s:={ s with heap:=h1.push (seqObj "list" vs.toArray 0),toks:=tk }) hD hT2 h64 fun p hp hs=>⟨_,rfl,?_⟩) (args_list_sort _)))
 obtain ⟨e,he⟩:=sortedHeap_at (vs:=vs) (out:=(qbN vs p).toArray) hD
 have kp2:jI h1 (sortedHeap (h1.push (seqObj "list" vs.toArray 0)) h1.objs.size vs (qbN vs p).toArray):=fun b o q1=>by
  have hlt:b<h1.objs.size:=qh q1
  rw [sortedHeap_old (qk hlt) (by rw [size_push'];exact Nat.lt_succ_of_lt hlt)]
  exact qc _ q1
 refine qd ⟨_,rfl,h vs kss p _ tk h1.objs.size e hR hp hs (Paired.mapP hT fun v ks t=>t.kept fun b o e _=>kp2 b o e) h64 (fun b o q=>kp2 b o (kp b o q)) ?_ he⟩
 ·cases z:s.heap.get? h1.objs.size with
  | none=>rfl
  | some o =>
   have:=qh (kp _ _ z)
   exact absurd this (yc _)
end
end L2
namespace L2
open PySem PySem.SetTable
def adv (m:Nat) (p:Probe):Probe :=
 if p.more > 0 then { p with j:=p.j+1,more:=p.more - 1 } else
 { p with j:=(leap m p.i p.perturb).1,more:=runEnd m (leap m p.i p.perturb).1 - (leap m p.i p.perturb).1,i:=(leap m p.i p.perturb).1,perturb:=(leap m p.i p.perturb).2 }
theorem qcf (t:SetTable) (p:Probe):t.advance p=adv t.mask p:=rfl
def at0 (m i e:Nat):Probe:={ j:=i,more:=runEnd m i - i,i:=i,perturb:=e,dummy:=none }
def stp (m:Nat) (h:Int):Nat->Probe
 | 0=>at0 m (bits h % (m+1)) (bits h)
 | k+1=>adv m (stp m h k)
theorem qa3 (t:SetTable) (h:Int):t.probeStart h=stp t.mask h 0:=rfl
theorem ZM (m:Nat) (h:Int):∀ k,(stp m h k).dummy=none
 | 0=>rfl
 | k+1=>by
  have:=ZM m h k
  simp only [stp,adv]
  split <;> simpa using this
def lp (m:Nat) (h:Int):Nat->Nat×Nat
 | 0=>(bits h % (m+1),bits h)
 | L+1=>leap m (lp m h L).1 (lp m h L).2
theorem qcU {m:Nat}{h:Int}{k i e:Nat}(h0:stp m h k=at0 m i e):∀ r,r<=runEnd m i - i->stp m h (k+r)={ j:=i+r,more:=runEnd m i - i - r,i:=i,perturb:=e,dummy:=none }
 | 0,_=>h0
 | r+1,hr=>by
  have ih:=qcU h0 r (by omega)
  show adv m (stp m h (k+r))=_
  rw [ih]
  unfold adv
  rw [if_pos (show runEnd m i - i - r > 0 by omega)]
  simp only [Probe.mk.injEq,true_and,and_true]
  omega
theorem qgb {m:Nat}{h:Int}{k i e:Nat}(h0:stp m h k=at0 m i e):stp m h (k+(runEnd m i - i)+1)=at0 m (leap m i e).1 (leap m i e).2:=by
 have ih:=qcU h0 (runEnd m i - i) (qj _)
 show adv m (stp m h (k+(runEnd m i - i)))=_
 rw [ih]
 unfold adv
 rw [if_neg (show ¬ runEnd m i - i - (runEnd m i - i) > 0 by omega)]
 rfl
theorem qhj (m i:Nat):runEnd m i - i<=9:=by unfold runEnd;split <;> omega
theorem qgc (m:Nat) (h:Int):∀ L,∃ k,k<=10 * L/\stp m h k=at0 m (lp m h L).1 (lp m h L).2
 | 0=>⟨0,qj _,rfl⟩
 | L+1=>by
  obtain ⟨k,hk,e⟩:=qgc m h L
  have:=qhj m (lp m h L).1
  exact ⟨_,by omega,qgb e⟩
def lcg (M i:Nat):Nat:=(i * 5+1) % M
def itn (M:Nat):Nat->Nat->Nat
 | 0,i=>i
 | n+1,i=>lcg M (itn M n i)
theorem Zr (M:Nat) (i:Nat):∀ a b,itn M (b+a) i=itn M b (itn M a i)
 | a,0=>by rw [Nat.zero_add];rfl
 | a,b+1=>by
  rw [show b+1+a=(b+a)+1 by omega]
  show lcg M (itn M (b+a) i)=lcg M (itn M b (itn M a i))
  rw [Zr M i a b]
structure Full (m:Nat):Prop where
 all:∀ q,q<=m->∃ b,b<=m/\itn (m+1) b 0=q
 back:itn (m+1) (m+1) 0=0
theorem Full.go {m:Nat}(F:Full m) {i q:Nat}(hi:i<=m) (hq:q<=m):∃ b,b<=m/\itn (m+1) b i=q:=by
 obtain ⟨x,hx,rfl⟩:=F.all i hi
 obtain ⟨y,hy,rfl⟩:=F.all q hq
 by_cases c:x<=y
 ·exact ⟨y - x,by omega,by rw [<- Zr,show y - x+x=y by omega]⟩
 ·refine ⟨y+(m+1) - x,by omega,?_⟩
  rw [<- Zr,show y+(m+1) - x+x=y+(m+1) by omega,Zr,F.back]
theorem qdG (m:Nat) (h:Int):∀ L,(lp m h L).2=bits h / 32 ^ L
 | 0=>by simp [lp]
 | L+1=>by
  show (lp m h L).2 / 32=_
  rw [qdG m h L,Nat.div_div_eq_div_mul,Nat.pow_succ]
theorem qis (h:Int):bits h<18446744073709551616:=by
 unfold bits
 have:=Int.emod_lt_of_pos h (show (0:Int)<2 ^ 64 by decide)
 have:=Int.emod_nonneg h (show (2 ^ 64:Int)≠0 by decide)
 omega
theorem lp_le (m:Nat) (h:Int):∀ L,(lp m h L).1<=m
 | 0=>by
  have:=Nat.mod_lt (bits h) (show 0<m+1 by omega)
  show bits h % (m+1)<=m
  omega
 | L+1=>by
  show ((lp m h L).1 * 5+1+(lp m h L).2 / 32) % (m+1)<=m
  have:=Nat.mod_lt ((lp m h L).1 * 5+1+(lp m h L).2 / 32) (show 0<m+1 by omega)
  omega
theorem qdH (m:Nat) (h:Int):∀ b,(lp m h (12+b)).1=itn (m+1) b (lp m h 12).1
 | 0=>rfl
 | b+1=>by
  have ih:=qdH m h b
  show ((lp m h (12+b)).1 * 5+1+(lp m h (12+b)).2 / 32) % (m+1)=lcg (m+1) (itn (m+1) b (lp m h 12).1)
  rw [<- ih]
  have hb:=qis h
  have z:(lp m h (12+b)).2 / 32=0:=by
   rw [qdG,Nat.div_div_eq_div_mul]
   apply Nat.div_eq_of_lt
   have:(32:Nat) ^ (12+b)=32 ^ 12 * 32 ^ b:=Nat.pow_add ..
   rw [this]
   have p1:1<=32 ^ b:=Nat.one_le_pow _ _ (by decide)
   have:(32:Nat) ^ 12 * 1<=32 ^ 12 * 32 ^ b:=Nat.mul_le_mul_left _ p1
   have e12:(32:Nat) ^ 12=1152921504606846976:=by decide
   omega
  rw [z]
  rfl
theorem Full.lp {m:Nat}(F:Full m) (h:Int) {q:Nat}(hq:q<=m):∃ L,L<=m+12/\(lp m h L).1=q:=by
 obtain ⟨b,hb,e⟩:=F.go (lp_le m h 12) hq
 exact ⟨12+b,by omega,by rw [qdH,e]⟩
theorem Full.walk {m:Nat}(F:Full m) (h:Int) {q:Nat}(hq:q<=m):∃ k,k<=10 * (m+12)/\(stp m h k).j=q:=by
 obtain ⟨L,hL,e⟩:=F.lp h hq
 obtain ⟨k,hk,e2⟩:=qgc m h L
 exact ⟨k,by omega,by rw [e2];exact e⟩
theorem qf4 (m:Nat) (h:Int) (k:Nat):(stp m h k).j<=m:=by
 have key:∀ k,(stp m h k).i<=m/\(stp m h k).j+(stp m h k).more<=m:=by
  intro k
  induction k with
  | zero =>
   have:=Nat.mod_lt (bits h) (show 0<m+1 by omega)
   refine ⟨by show bits h % (m+1)<=m;omega,?_⟩
   show bits h % (m+1)+(runEnd m (bits h % (m+1)) - bits h % (m+1))<=m
   unfold runEnd
   split <;> omega
  | succ k ih =>
   obtain ⟨h1,h2⟩:=ih
   show (adv m (stp m h k)).i<=m/\(adv m (stp m h k)).j+(adv m (stp m h k)).more<=m
   unfold adv
   split
   ·exact ⟨h1,by simp only;omega⟩
   ·have:=Nat.mod_lt ((stp m h k).i * 5+1+(stp m h k).perturb / 32) (show 0<m+1 by omega)
    have e:(leap m (stp m h k).i (stp m h k).perturb).1=((stp m h k).i * 5+1+(stp m h k).perturb / 32) % (m+1):=rfl
    simp only [e]
    refine ⟨by omega,?_⟩
    unfold runEnd
    split <;> omega
 have:=(key k).2
 omega
def chk (m:Nat):Bool:=(List.range (m+1)).all (fun q=>(List.range (m+1)).any fun b=>itn (m+1) b 0 == q) && itn (m+1) (m+1) 0 == 0
theorem qd5 {m:Nat}(h:chk m=true):Full m:=by
 unfold chk at h
 rw [Bool.and_eq_true] at h
 obtain ⟨h1,h2⟩:=h
 refine ⟨fun q hq=>?_,by simpa using h2⟩
 have:=List.all_eq_true.mp h1 q (List.mem_range.mpr (by omega))
 obtain ⟨b,hb,e⟩:=List.any_eq_true.mp this
 exact ⟨b,by have:=List.mem_range.mp hb;omega,by simpa using e⟩
theorem full7:Full 7:=qd5 (by decide +kernel)
theorem qj6:Full 31:=qd5 (by decide +kernel)
end L2
namespace L2
open PySem PySem.SetTable
def S5:Nat->Nat
 | 0=>0
 | n+1=>5 * S5 n+1
theorem qgP (a b:Nat):S5 (a+b)=5 ^ b * S5 a+S5 b:=by
 induction b with
 | zero=>simp [S5]
 | succ b ih =>
  rw [<- Nat.add_assoc]
  show 5 * S5 (a+b)+1=5 ^ (b+1) * S5 a+(5 * S5 b+1)
  rw [ih,Nat.pow_succ]
  grind
theorem p5 (e:Nat):∃ q,5 ^ e+1=2 * (2 * q+1):=by
 induction e with
 | zero=>exact ⟨0,rfl⟩
 | succ e ih =>
  obtain ⟨q,hq⟩:=ih
  refine ⟨5 * q+1,?_⟩
  rw [Nat.pow_succ]
  omega
theorem qeE (e:Nat):S5 (2 * e)=(5 ^ e+1) * S5 e:=by
 rw [show 2 * e=e+e by omega,qgP]
 grind
theorem qkC (e:Nat):S5 (2 * e+1) % 2=1:=by
 show (5 * S5 (2 * e)+1) % 2=1
 obtain ⟨q,hq⟩:=p5 e
 rw [qeE,hq,Nat.mul_assoc]
 omega
theorem qgO:∀ (k d:Nat),2 ^ k ∣ S5 d->2 ^ k ∣ d
 | 0,d,_=>by simp
 | k+1,d,h=>by
  have hev:d % 2=0:=by
   apply Nat.eq_zero_of_not_pos
   intro z
   have hd:d=2 * (d / 2)+1:=by omega
   have h2:2 ∣ S5 d:=Nat.dvd_trans ⟨2 ^ k,by rw [Nat.pow_succ];omega⟩ h
   rw [hd] at h2
   have:=qkC (d / 2)
   omega
  obtain ⟨e,rfl⟩:∃ e,d=2 * e:=⟨d / 2,by omega⟩
  obtain ⟨q,hq⟩:=p5 e
  rw [qeE,hq,Nat.pow_succ,Nat.mul_comm (2 ^ k),Nat.mul_assoc] at h
  have h3:=Nat.dvd_of_mul_dvd_mul_left (by decide) h
  have co:Nat.Coprime (2 ^ k) (2 * q+1):=Nat.Coprime.pow_left _ (by
   unfold Nat.Coprime
   rw [Nat.gcd_rec]
   simp [Nat.add_mod])
  have h4:=qgO k e (co.dvd_of_dvd_mul_left h3)
  rw [Nat.pow_succ,Nat.mul_comm]
  exact Nat.mul_dvd_mul_left 2 h4
theorem qgN:∀ k,2 ^ k ∣ S5 (2 ^ k)
 | 0=>by simp
 | k+1=>by
  obtain ⟨q,hq⟩:=p5 (2 ^ k)
  rw [Nat.pow_succ,Nat.mul_comm (2 ^ k) 2,qeE,hq,Nat.mul_assoc]
  exact Nat.mul_dvd_mul_left 2 (Nat.dvd_trans (qgN k) (Nat.dvd_mul_left _ _))
theorem qgp (M:Nat):∀ b,itn M b 0 % M=S5 b % M
 | 0=>rfl
 | b+1=>by
  show (itn M b 0 * 5+1) % M % M=(5 * S5 b+1) % M
  rw [Nat.mod_mod,Nat.add_mod,Nat.mul_mod,qgp M b,<- Nat.mul_mod,<- Nat.add_mod,Nat.mul_comm]
theorem qgo {M:Nat}(hM:0<M):∀ b,itn M b 0<M
 | 0=>hM
 | b+1=>Nat.mod_lt _ hM
theorem qkD {k a b:Nat}(hab:a<=b) (hb:b<2 ^ k) (h:S5 a % 2 ^ k=S5 b % 2 ^ k):a=b:=by
 obtain ⟨d,rfl⟩:∃ d,b=d+a:=⟨b - a,by omega⟩
 rw [qgP] at h
 have h1:2 ^ k ∣ 5 ^ a * S5 d:=by
  have:=Nat.sub_mod_eq_zero_of_mod_eq h.symm
  rw [Nat.add_sub_cancel] at this
  exact Nat.dvd_of_mod_eq_zero this
 have co:Nat.Coprime (2 ^ k) (5 ^ a):=Nat.Coprime.pow _ _ (by decide)
 have h2:=qgO k d (co.dvd_of_dvd_mul_left h1)
 have:d=0:=Nat.eq_zero_of_dvd_of_lt h2 (by omega)
 omega
theorem qds:∀ {n:Nat}{l:List Nat},l.Nodup->(∀ x∈l,x<n)->l.length=n->∀ q,q<n->q∈l:=fun {n l} h1 h2 h3 q hq=>by
 have hp:l.Perm (List.range n):=by
  have sub:∀ (l r:List Nat),l.Nodup->(∀ x∈l,x∈r)->∃ r',(l++r').Perm r:=by
   intro l
   induction l with
   | nil=>exact fun r _ _=>⟨r,List.Perm.refl _⟩
   | cons a l ih =>
    intro r hn hs
    have ha:=hs a qg
    obtain ⟨r',hr'⟩:=ih (r.erase a) (List.nodup_cons.mp hn).2 (fun x hx=>by
     have:x≠a:=fun z=>(List.nodup_cons.mp hn).1 (z ▸ hx)
     exact (List.mem_erase_of_ne this).mpr (hs x (qe _ hx)))
    exact ⟨r',(hr'.cons a).trans (List.perm_cons_erase ha).symm⟩
  obtain ⟨r',hr'⟩:=sub l (List.range n) h1 fun x hx=>List.mem_range.mpr (h2 x hx)
  have:=hr'.length_eq
  rw [List.length_append,List.length_range] at this
  have:r'=[]:=List.eq_nil_of_length_eq_zero (by omega)
  rw [this,List.append_nil] at hr'
  exact hr'
 exact hp.mem_iff.mpr (List.mem_range.mpr hq)
theorem Yf (k m:Nat) (hm:m+1=2 ^ k):Full m:=by
 have hM:0<2 ^ k:=by omega
 have red:∀ b,itn (2 ^ k) b 0=S5 b % 2 ^ k:=fun b=>by
  have:=qgp (2 ^ k) b
  rwa [Nat.mod_eq_of_lt (qgo hM b)] at this
 refine ⟨fun q hq=>?_,?_⟩
 ·have hnd:((List.range (2 ^ k)).map fun b=>itn (2 ^ k) b 0).Nodup:=by
   refine yz.mpr (qL.mpr fun i j hi hj hij z=>?_)
   rw [List.length_range] at hi hj
   rw [List.getElem_range,List.getElem_range,red,red] at z
   have:=qkD (yf hij) hj z
   omega
  have:=qds hnd (fun x hx=>by
   obtain ⟨b,_,rfl⟩:=qv.mp hx
   exact qgo hM b) (by simp) q (by omega)
  obtain ⟨b,hb,e⟩:=qv.mp this
  have:=List.mem_range.mp hb
  exact ⟨b,by omega,by rw [hm];exact e⟩
 ·rw [hm,red]
  exact Nat.mod_eq_zero_of_dvd (qgN k)
theorem qh7:Full 127:=Yf 7 127 (by decide)
theorem qh6:Full 511:=Yf 9 511 (by decide)
theorem qfE:Full 2047:=Yf 11 2047 (by decide)
theorem qfD:Full 8191:=Yf 13 8191 (by decide)
def qgQ (xs:Array Nat):Prop:=∀ i j,i<j->j<xs.size->xs.getD i 0<xs.getD j 0
theorem getD_some {xs:Array Nat}{i d:Nat}(h:i<xs.size):xs[i]?=some (xs.getD i d):=by
 simp [Array.getD,h]
theorem ZE {xs:Array Nat}{j:Nat}(hr:qgQ xs):∀ (fu lo hi:Nat),lo<=hi->hi<=xs.size->hi - lo<=fu->(∀ i,i<lo->xs.getD i 0<j)->(∀ i,hi<=i->i<xs.size->j<=xs.getD i 0) →
  (∀ i,i<below.go xs j fu lo hi->xs.getD i 0<j)/\(∀ i,below.go xs j fu lo hi<=i->i<xs.size->j<=xs.getD i 0)/\below.go xs j fu lo hi<=xs.size
 | 0,lo,hi,h1,h2,h3,h4,h5=>by
  have:lo=hi:=by omega
  subst this
  exact ⟨h4,h5,h2⟩
 | fu+1,lo,hi,h1,h2,h3,h4,h5=>by
  unfold below.go
  by_cases c:lo<hi
  ·rw [if_pos c]
   dsimp only
   have hm:(lo+hi) / 2<xs.size:=by omega
   have e:xs.getD ((lo+hi) / 2) j=xs.getD ((lo+hi) / 2) 0:=by simp [Array.getD,hm]
   rw [e]
   by_cases d:xs.getD ((lo+hi) / 2) 0<j
   ·rw [if_pos d]
    refine ZE hr fu _ hi (by omega) h2 (by omega) (fun i hi'=>?_) h5
    by_cases q:i=(lo+hi) / 2
    ·subst q;exact d
    ·exact yI (hr i ((lo+hi) / 2) (by omega) hm) d
   ·rw [if_neg d]
    refine ZE hr fu lo _ (by omega) (by omega) (by omega) h4 fun i hi' hlt=>?_
    by_cases q:i=(lo+hi) / 2
    ·subst q;omega
    ·have:=hr ((lo+hi) / 2) i (by omega) hlt
     omega
  ·rw [if_neg c]
   have:lo=hi:=by omega
   subst this
   exact ⟨h4,h5,h2⟩
theorem jM {xs:Array Nat}(hr:qgQ xs) (j:Nat):(∀ i,i<below xs j->xs.getD i 0<j)/\(∀ i,below xs j<=i->i<xs.size->j<=xs.getD i 0)/\below xs j<=xs.size :=
 ZE hr xs.size 0 xs.size (qN _) (qj _) (by omega) (fun i z=>absurd z (by omega)) fun i a b=>absurd b (by omega)
theorem ZF {xs:Array Nat}(hr:qgQ xs) {i j:Nat}(h:xs[i]?=some j):below xs j=i:=by
 obtain ⟨h1,h2,h3⟩:=jM hr j
 have hi:i<xs.size:=by
  rcases Nat.lt_or_ge i xs.size with z | z
  ·exact z
  ·rw [yj z] at h;cases h
 have e:xs.getD i 0=j:=by
  have:=getD_some (d:=0) hi
  rw [h] at this
  exact (Option.some.inj this).symm
 rcases Nat.lt_trichotomy (below xs j) i with z | z | z
 ·have a:=h2 (below xs j) (qj _) (by omega)
  have b:=hr (below xs j) i z hi
  omega
 ·exact z
 ·have:=h1 i z
  omega
theorem qe1 {xs:Array Nat}(hr:qgQ xs) {i i' j:Nat}(h:xs[i]?=some j) (h':xs[i']?=some j):i=i':=(ZF hr h).symm.trans (ZF hr h')
structure Tab (t:SetTable) (m n:Nat):Prop where
 mask:t.mask=m
 dm:t.dummies=#[]
 size:t.place.size=n
 rise:qgQ t.place
 le:∀ i j:Nat,t.place[i]?=some j->j<=m
def Fl (t:SetTable) (j:Nat):Prop:=∃ i:Nat,t.place[i]?=some j
theorem qd0 (j:Nat):has #[] j=false:=by simp [has]
section
variable {t:SetTable}{m n:Nat}
theorem Tab.live (T:Tab t m n) {i j:Nat}(h:t.place[i]?=some j):t.slot j = .live i:=by
 unfold slot
 have e:=ZF T.rise h
 simp only [e,h,beq_self_eq_true,if_true]
theorem Tab.empty (T:Tab t m n) {j:Nat}(h:¬ Fl t j):t.slot j = .empty:=by
 unfold slot
 have e:(t.place[below t.place j]? == some j)=false:=by
  rw [Bool.eq_false_iff]
  intro z
  exact h ⟨_,by simpa using z⟩
 simp only [e,T.dm,qd0,Bool.false_eq_true,if_false]
theorem Tab.free (T:Tab t m n) (hn:n<=m):∃ q,q<=m/\¬ Fl t q:=by
 refine Classical.byContradiction fun hc=>?_
 have all:∀ q,q<=m->Fl t q:=fun q hq=>Classical.byContradiction fun z=>hc ⟨q,hq,z⟩
 have sub:List.range (m+1) ⊆ t.place.toList:=fun q hq=>by
  obtain ⟨i,e⟩:=all q (by have:=List.mem_range.mp hq;omega)
  exact List.mem_of_getElem? (by rw [qo];exact e)
 have:=List.Nodup.length_le_of_subset List.nodup_range sub
 rw [List.length_range,Array.length_toList,T.size] at this
 omega
theorem Tab.probe_go (T:Tab t m n) {hashAt:Nat->Int}{h:Int}{K:Nat}(hK:¬ Fl t (stp m h K).j):∀ (fu k:Nat),k<=K->K - k<fu →
  ∃ x,k<=x/\x<=K/\(∀ l,k<=l->l<x->∃ i:Nat,t.place[i]?=some (stp m h l).j/\hashAt i≠h) ∧
   ((¬ Fl t (stp m h x).j/\probe.go t hashAt h fu (stp m h k)=some (.empty (stp m h x).j none)) ∨
    ∃ i:Nat,t.place[i]?=some (stp m h x).j/\hashAt i=h/\probe.go t hashAt h fu (stp m h k)=some (.candidate (stp m h x).j i (stp m h (x+1))))
 | 0,k,_,z=>absurd z (by omega)
 | fu+1,k,hk,hf=>by
  unfold probe.go
  by_cases c:Fl t (stp m h k).j
  ·obtain ⟨i,e⟩:=id c
   rw [T.live e]
   dsimp only
   have adv1:t.advance (stp m h k)=stp m h (k+1):=by rw [qcf,T.mask];rfl
   by_cases d:hashAt i=h
   ·refine ⟨k,qj _,hk,fun l a b=>absurd b (by omega),.inr ⟨i,e,d,?_⟩⟩
    rw [if_pos (by rw [d];exact beq_self_eq_true _),adv1]
   ·rw [if_neg (by simpa using d),adv1]
    have hne:k≠K:=fun z=>hK (z ▸ c)
    obtain ⟨x,x1,x2,x3,x4⟩:=T.probe_go hK fu (k+1) (by omega) (by omega)
    refine ⟨x,by omega,x2,fun l a b=>?_,x4⟩
    by_cases q:l=k
    ·subst q;exact ⟨i,e,d⟩
    ·exact x3 l (by omega) b
  ·rw [T.empty c]
   dsimp only
   exact ⟨k,qj _,hk,fun l a b=>absurd b (by omega),.inl ⟨c,by rw [ZM]⟩⟩
end
theorem yG {α:Type}{xs:Array α}{p:Nat}{x:α}(hp:p<=xs.size) (i:Nat):(insertAt xs p x)[i]?=if i<p then xs[i]? else if i=p then some x else xs[i - 1]?:=by
 unfold insertAt
 have s1:((xs.extract 0 p).push x).size=p+1:=by simp [Array.size_push,Array.size_extract];omega
 have s0:(xs.extract 0 p).size=p:=by simp [Array.size_extract];omega
 rw [Array.getElem?_append,s1]
 by_cases c:i<p
 ·rw [if_pos (by omega),if_pos c,Array.getElem?_push,s0,if_neg (by omega),Array.getElem?_extract,if_pos (by omega),Nat.zero_add]
 ·rw [if_neg c]
  by_cases d:i=p
  ·subst d
   rw [if_pos (by omega),if_pos rfl,Array.getElem?_push,s0,if_pos rfl]
  ·rw [if_neg d,if_neg (by omega),Array.getElem?_extract]
   by_cases e:i - 1<xs.size
   ·rw [if_pos (by omega)]
    congr 1
    omega
   ·rw [if_neg (by omega),yj (by omega)]
theorem Ye {α:Type}{xs:Array α}{p:Nat}{x:α}(hp:p<=xs.size):(insertAt xs p x).size=xs.size+1:=by
 unfold insertAt
 simp [Array.size_extract]
 omega
def AtS {α:Type}(place:Array Nat) (es:Array α) (j:Nat) (e:α):Prop:=∃ i:Nat,place[i]?=some j/\es[i]?=some e
theorem qj1 {α:Type}{place:Array Nat}{es:Array α}{p j j':Nat}{e e':α}(hp:p<=place.size) (hq:p<=es.size):AtS (insertAt place p j) (insertAt es p e) j' e' ↔ AtS place es j' e'\/(j'=j/\e'=e):=by
 constructor
 ·rintro ⟨i,h1,h2⟩
  rw [yG hp] at h1
  rw [yG hq] at h2
  by_cases c:i<p
  ·rw [if_pos c] at h1 h2
   exact .inl ⟨i,h1,h2⟩
  ·rw [if_neg c] at h1 h2
   by_cases d:i=p
   ·rw [if_pos d] at h1 h2
    exact .inr ⟨(Option.some.inj h1).symm,(Option.some.inj h2).symm⟩
   ·rw [if_neg d] at h1 h2
    exact .inl ⟨i - 1,h1,h2⟩
 ·rintro (⟨i,h1,h2⟩ | ⟨rfl,rfl⟩)
  ·by_cases c:i<p
   ·exact ⟨i,by rw [yG hp,if_pos c];exact h1,by rw [yG hq,if_pos c];exact h2⟩
   ·exact ⟨i+1,by rw [yG hp,if_neg (by omega),if_neg (by omega)];exact h1,by rw [yG hq,if_neg (by omega),if_neg (by omega)];exact h2⟩
  ·exact ⟨p,by rw [yG hp,if_neg (by omega),if_pos rfl],by rw [yG hq,if_neg (by omega),if_pos rfl]⟩
theorem qe0 {xs:Array Nat}(hr:qgQ xs) {j:Nat}(hj:¬ ∃ i:Nat,xs[i]?=some j):qgQ (insertAt xs (below xs j) j):=by
 obtain ⟨h1,h2,h3⟩:=jM hr j
 have val:∀ i,i<xs.size+1->(insertAt xs (below xs j) j).getD i 0=if i<below xs j then xs.getD i 0 else if i=below xs j then j else xs.getD (i - 1) 0:=fun i hi=>by
  have e:=yG (x:=j) h3 i
  simp only [Array.getD_eq_getD_getElem?,e]
  split
  ·rfl
  ·split <;> rfl
 have gt:∀ i,below xs j<=i->i<xs.size->j<xs.getD i 0:=fun i a b=>by
  have:=h2 i a b
  have ne:xs.getD i 0≠j:=fun z=>hj ⟨i,by rw [getD_some (d:=0) b,z]⟩
  omega
 intro a b hab hb
 rw [Ye h3] at hb
 rw [val a (by omega),val b hb]
 by_cases b1:b<below xs j
 ·rw [if_pos b1,if_pos (by omega)]
  exact hr a b hab (by omega)
 ·rw [if_neg b1]
  by_cases b2:b=below xs j
  ·rw [if_pos b2,if_pos (by omega)]
   exact h1 a (by omega)
  ·rw [if_neg b2]
   by_cases a1:a<below xs j
   ·rw [if_pos a1]
    exact hr a (b - 1) (by omega) (by omega)
   ·rw [if_neg a1]
    by_cases a2:a=below xs j
    ·rw [if_pos a2]
     exact gt (b - 1) (by omega) (by omega)
    ·rw [if_neg a2]
     exact hr (a - 1) (b - 1) (by omega) (by omega)
theorem Tab.put {t:SetTable}{m n:Nat}(T:Tab t m n) {j:Nat}(hj:¬ Fl t j) (hm:j<=m):Tab (t.put j).1 m (n+1)/\(t.put j).2=below t.place j/\(t.put j).1.place=insertAt t.place (below t.place j) j:=by
 obtain ⟨h1,h2,h3⟩:=jM T.rise j
 refine ⟨⟨T.mask,?_,?_,qe0 T.rise hj,fun i j' e=>?_⟩,rfl,rfl⟩
 ·show (if has t.dummies j=true then _ else t.dummies)=#[]
  rw [T.dm,qd0,if_neg (by simp)]
 ·show (insertAt t.place (below t.place j) j).size=n+1
  rw [Ye h3,T.size]
 ·have e:(insertAt t.place (below t.place j) j)[i]?=some j':=e
  rw [yG h3] at e
  split at e
  ·exact T.le _ _ e
  ·split at e
   ·rw [<- Option.some.inj e];exact hm
   ·exact T.le _ _ e
end L2
namespace L2
open PySem PySem.SetTable
def Rch (fl:Nat->Prop) (m:Nat) (h:Int) (j:Nat):Prop:=∃ k,(stp m h k).j=j/\∀ l,l<k->fl (stp m h l).j
theorem Rch.mono {fl fl':Nat->Prop}{m:Nat}{h:Int}{j:Nat}(f:∀ q,fl q->fl' q) (r:Rch fl m h j):Rch fl' m h j:=by
 obtain ⟨k,e,a⟩:=r
 exact ⟨k,e,fun l hl=>f _ (a l hl)⟩
structure SetI {α:Type}(t:SetTable) (es:Array (Int×α)) (m n:Nat):Prop where
 tab:Tab t m n
 sz:es.size=n
 rch:∀ (j:Nat) (e:Int×α),AtS t.place es j e->Rch (Fl t) m e.1 j
def fO (owner:Array (Option Nat)) (j:Nat):Prop:=(owner.getD j (some 0)).isSome=true
theorem qd6 {m:Nat}{owner:Array (Option Nat)}{h:Int}:∀ (fu L k0:Nat),stp m h k0=at0 m (lp m h L).1 (lp m h L).2->(∀ l,l<k0->fO owner (stp m h l).j)->(∃ L',L<=L'/\L'<L+fu/\¬ fO owner (lp m h L').1) →
  ∃ j,layClean.free m owner fu (lp m h L).1 (lp m h L).2=some j/\¬ fO owner j/\Rch (fO owner) m h j
 | 0,L,k0,_,_,⟨L',a,b,_⟩=>absurd b (by omega)
 | fu+1,L,k0,hk,hf,⟨L',a,b,c⟩=>by
  unfold layClean.free
  have ri:=qcU hk
  cases hfind:(List.range (runEnd m (lp m h L).1+1 - (lp m h L).1)).find? fun k=>(owner.getD ((lp m h L).1+k) (some 0)).isNone with
  | some kk =>
   obtain ⟨p1,p2,p3⟩:=List.find?_range_eq_some.mp hfind
   have hkk:=List.mem_range.mp p2
   refine ⟨(lp m h L).1+kk,rfl,fun z=>?_,k0+kk,by rw [ri kk (by omega)],fun l hl=>?_⟩
   ·unfold fO at z
    rw [Option.isNone_iff_eq_none.mp p1] at z
    cases z
   ·by_cases d:l<k0
    ·exact hf l d
    ·obtain ⟨r,rfl⟩:∃ r,l=k0+r:=⟨l - k0,by omega⟩
     rw [ri r (by omega)]
     have:=p3 r (by omega)
     unfold fO
     rw [Bool.not_eq_true',Option.isNone_eq_false_iff] at this
     exact this
  | none =>
   have pn:=List.find?_eq_none.mp hfind
   have fil:∀ r,r<=runEnd m (lp m h L).1 - (lp m h L).1->fO owner ((lp m h L).1+r):=fun r hr=>by
    have hge:(lp m h L).1<=runEnd m (lp m h L).1:=by unfold runEnd;split <;> omega
    have:=pn r (List.mem_range.mpr (by omega))
    unfold fO
    rw [Bool.not_eq_true,Option.isNone_eq_false_iff] at this
    exact this
   have hne:L'≠L:=by
    rintro rfl
    exact c (by simpa using fil 0 (qN _))
   refine qd6 fu (L+1) (k0+(runEnd m (lp m h L).1 - (lp m h L).1)+1) (qgb hk) (fun l hl=>?_) ⟨L',by omega,by omega,c⟩
   by_cases d:l<k0
   ·exact hf l d
   ·obtain ⟨r,rfl⟩:∃ r,l=k0+r:=⟨l - k0,by omega⟩
    rw [ri r (by omega)]
    exact fil r (by omega)
structure OW (m:Nat) (hs:Nat->Int) (owner:Array (Option Nat)) (k:Nat):Prop where
 sz:owner.size=m+1
 own:∀ j i:Nat,owner[j]?=some (some i)->i<k/\Rch (fO owner) m (hs i) j
 ex:∀ i,i<k->∃ j:Nat,owner[j]?=some (some i)
 inj:∀ j j' i:Nat,owner[j]?=some (some i)->owner[j']?=some (some i)->j=j'
def qiE (m:Nat) (owner:Array (Option Nat)):List Nat:=(List.range (m+1)).filterMap fun j=>owner.getD j none
theorem Jy {owner:Array (Option Nat)}{j i:Nat}:owner.getD j none=some i ↔ owner[j]?=some (some i):=by
 rw [Array.getD_eq_getD_getElem?]
 cases owner[j]? with
 | none=>simp
 | some o=>simp
theorem OW.nodup {m k:Nat}{hs:Nat->Int}{owner:Array (Option Nat)}(W:OW m hs owner k):(qiE m owner).Nodup:=by
 refine List.Pairwise.filterMap _ (fun a a' hne b e b' e' z=>?_) List.nodup_range
 subst z
 exact hne (W.inj _ _ _ (Jy.mp e) (Jy.mp e'))
theorem OW.len {m k:Nat}{hs:Nat->Int}{owner:Array (Option Nat)}(W:OW m hs owner k):(qiE m owner).length=k:=by
 apply Nat.le_antisymm
 ·have sub:qiE m owner ⊆ List.range k:=fun i hi=>by
   obtain ⟨j,_,e⟩:=List.mem_filterMap.mp hi
   exact List.mem_range.mpr (W.own j i (Jy.mp e)).1
  have:=List.Nodup.length_le_of_subset W.nodup sub
  rwa [List.length_range] at this
 ·have sub:List.range k ⊆ qiE m owner:=fun i hi=>by
   obtain ⟨j,e⟩:=W.ex i (List.mem_range.mp hi)
   have hj:j<owner.size:=by
    rcases Nat.lt_or_ge j owner.size with z | z
    ·exact z
    ·rw [yj z] at e;cases e
   exact List.mem_filterMap.mpr ⟨j,List.mem_range.mpr (by rw [W.sz] at hj;exact hj),Jy.mpr e⟩
  have:=List.Nodup.length_le_of_subset List.nodup_range sub
  rwa [List.length_range] at this
theorem OW.free {m k:Nat}{hs:Nat->Int}{owner:Array (Option Nat)}(W:OW m hs owner k) (hk:k<=m):∃ q,q<=m/\¬ fO owner q:=by
 refine Classical.byContradiction fun hc=>?_
 have all:∀ q,q<=m->fO owner q:=fun q hq=>Classical.byContradiction fun z=>hc ⟨q,hq,z⟩
 have h1:=W.len
 unfold qiE at h1
 rw [List.length_filterMap_eq_countP] at h1
 have h2:List.countP (fun j=>(owner.getD j none).isSome) (List.range (m+1))=(List.range (m+1)).length:=List.countP_eq_length.mpr fun j hj=>by
  have hj:=List.mem_range.mp hj
  have a:=all j (by omega)
  have hlt:j<owner.size:=by rw [W.sz];exact hj
  unfold fO at a
  simpa [Array.getD,hlt] using a
 rw [h2,List.length_range] at h1
 omega
theorem OW.step {m k:Nat}{hs:Nat->Int}{owner:Array (Option Nat)}(W:OW m hs owner k) {j:Nat}(hj:¬ fO owner j) (hr:Rch (fO owner) m (hs k) j):OW m hs (owner.setIfInBounds j (some k)) (k+1):=by
 have hlt:j<owner.size:=by
  rcases Nat.lt_or_ge j owner.size with z | z
  ·exact z
  ·refine absurd ?_ hj
   unfold fO
   simp [Array.getD,Nat.not_lt.mpr z]
 have nn:owner[j]?=some none:=by
  cases e:owner[j]? with
  | none=>rw [Array.getElem?_eq_none_iff] at e;omega
  | some o =>
   cases o with
   | none=>rfl
   | some i =>
    refine absurd ?_ hj
    unfold fO
    rw [Array.getD_eq_getD_getElem?,e]
    rfl
 have get:∀ q:Nat,(owner.setIfInBounds j (some k))[q]?=if q=j then some (some k) else owner[q]?:=fun q=>by
  rw [Array.getElem?_setIfInBounds]
  by_cases c:q=j
  ·subst c;simp [hlt]
  ·rw [if_neg c,if_neg (fun z=>c z.symm)]
 have up:∀ q,fO owner q->fO (owner.setIfInBounds j (some k)) q:=fun q hq=>by
  unfold fO at hq ⊢
  rw [Array.getD_eq_getD_getElem?] at hq ⊢
  rw [get]
  split
  ·rfl
  ·exact hq
 refine ⟨by rw [Array.size_setIfInBounds];exact W.sz,fun q i e=>?_,fun i hi=>?_,fun q q' i e e'=>?_⟩
 ·rw [get] at e
  by_cases c:q=j
  ·rw [if_pos c] at e
   have:k=i:=Option.some.inj (Option.some.inj e)
   subst this
   subst c
   exact ⟨by omega,hr.mono up⟩
  ·rw [if_neg c] at e
   obtain ⟨a,b⟩:=W.own q i e
   exact ⟨by omega,b.mono up⟩
 ·by_cases c:i=k
  ·subst c
   exact ⟨j,by rw [get,if_pos rfl]⟩
  ·obtain ⟨q,e⟩:=W.ex i (by omega)
   refine ⟨q,?_⟩
   rw [get,if_neg (fun z=>by rw [z,nn] at e;cases e)]
   exact e
 ·rw [get] at e e'
  by_cases c:q=j
  ·rw [if_pos c] at e
   have hik:k=i:=Option.some.inj (Option.some.inj e)
   by_cases c':q'=j
   ·rw [c,c']
   ·rw [if_neg c'] at e'
    have:=(W.own q' i e').1
    omega
  ·rw [if_neg c] at e
   by_cases c':q'=j
   ·rw [if_pos c'] at e'
    have hik:k=i:=Option.some.inj (Option.some.inj e')
    have:=(W.own q i e).1
    omega
   ·rw [if_neg c'] at e'
    exact W.inj q q' i e e'
theorem OW.init (m:Nat) (hs:Nat->Int):OW m hs (Array.replicate (m+1) none) 0:=by
 have z:∀ j i:Nat,(Array.replicate (m+1) (none:Option Nat))[j]?=some (some i)->False:=fun j i e=>by
  rw [Array.getElem?_replicate] at e
  split at e <;> simp at e
 exact ⟨by simp,fun j i e=>(z j i e).elim,fun i hi=>absurd hi (by omega),fun j j' i e=>(z j i e).elim⟩
def qaG (m:Nat) (acc:Option (Array (Option Nat)×Nat)) (h:Int):Option (Array (Option Nat)×Nat):=do
 let (owner,k) <- acc
 let j <- layClean.free m owner (turns m) (bits h % (m+1)) (bits h)
 pure (owner.setIfInBounds j (some k),k+1)
theorem qaH (m:Nat) (hashes:Array Int):layClean m hashes=(hashes.foldl (qaG m) (some (Array.replicate (m+1) none,0))).map (·.1):=rfl
theorem qd7 {m:Nat}(F:Full m) {hs:Nat->Int}:∀ (l:List Int) (owner:Array (Option Nat)) (k:Nat),OW m hs owner k->(∀ i (h:Int),l[i]?=some h->hs (k+i)=h)->k+l.length<=m+1 →
  ∃ owner',l.foldl (qaG m) (some (owner,k))=some (owner',k+l.length)/\OW m hs owner' (k+l.length)
 | [],owner,k,W,_,_=>⟨owner,rfl,W⟩
 | h::l,owner,k,W,hl,hk=>by
  simp only [List.length_cons] at hk ⊢
  obtain ⟨q,hq,hq2⟩:=W.free (by omega)
  obtain ⟨L',a,b⟩:=F.lp h hq
  obtain ⟨j,e,j1,j2⟩:=qd6 (m:=m) (owner:=owner) (h:=h) (turns m) 0 0 rfl (fun l z=>absurd z (by omega)) ⟨L',by omega,by unfold turns;omega,by rw [b];exact hq2⟩
  have hk0:hs k=h:=hl 0 h rfl
  have W':=W.step j1 (by rw [hk0];exact j2)
  obtain ⟨o',e',W''⟩:=qd7 F l _ (k+1) W' (fun i h' e=>by rw [show k+1+i=k+(i+1) by omega];exact hl (i+1) h' (by simpa using e)) (by omega)
  refine ⟨o',?_,by rw [show k+(l.length+1)=k+1+l.length by omega];exact W''⟩
  rw [List.foldl_cons]
  have e0:qaG m (some (owner,k)) h=some (owner.setIfInBounds j (some k),k+1):=by
   show (layClean.free m owner (turns m) (bits h % (m+1)) (bits h) >>= fun j=>pure (owner.setIfInBounds j (some k),k+1))=_
   have e:layClean.free m owner (turns m) (bits h % (m+1)) (bits h)=some j:=e
   rw [e]
   rfl
  rw [e0,e',show k+(l.length+1)=k+1+l.length by omega]
theorem qgt {α β:Type}{f:α->Option β}:∀ {l:List α},(∀ x∈l,(f x).isSome=true)->∀ i:Nat,(l.filterMap f)[i]?=l[i]?.bind f
 | [],_,i=>by simp
 | x::l,h,i=>by
  obtain ⟨y,e⟩:=Option.isSome_iff_exists.mp (h x qg)
  rw [List.filterMap_cons_some e]
  cases i with
  | zero=>simp [e]
  | succ i=>simpa using qgt (fun z hz=>h z (qe _ hz)) i
theorem fm_len {α β:Type}{f:α->Option β}{l:List α}(h:∀ x∈l,(f x).isSome=true):(l.filterMap f).length=l.length:=by
 rw [List.length_filterMap_eq_countP,List.countP_eq_length.mpr h]
theorem qhY {α:Type}{m n fi mv:Nat}(F:Full m) {ld pl:Bool}{es:Array (Int×α)}(hn:es.size=n) (hm:n<=m+1) :
  ∃ (t:SetTable) (order:Array Nat),laid m fi mv ld pl (es.map (·.1))=some (t,order)/\t.led=ld/\t.plain=pl/\(order.filterMap (es[·]?)).size=es.size/\SetI t (order.filterMap (es[·]?)) m n ∧
   (∀ e,e∈(order.filterMap (es[·]?)).toList ↔ e∈es.toList) ∧
   ∀ (i i':Nat) (e e':Int×α),(order.filterMap (es[·]?))[i]?=some e->(order.filterMap (es[·]?))[i']?=some e'->(∀ y y':Nat,es[y]?=some e->es[y']?=some e'->y=y')->i=i':=by
 obtain ⟨owner,eo,W⟩:=qd7 F (hs:=fun i=>((es.map (·.1)).getD i 0)) (es.map (·.1)).toList (Array.replicate (m+1) none) 0 (OW.init m _) (fun i h e=>by
  rw [Nat.zero_add,Array.getD_eq_getD_getElem?,<- qo,e];rfl) (by simp;omega)
 have hlen:(es.map (·.1)).toList.length=n:=by simp [hn]
 rw [Nat.zero_add,hlen] at eo W
 have live:∃ live:List (Nat×Nat),live=(List.range (m+1)).filterMap fun j=>(owner.getD j none).map (j,·):=⟨_,rfl⟩
 obtain ⟨live,el⟩:=live
 have lmem:∀ j i,(j,i)∈live ↔ owner[j]?=some (some i):=fun j i=>by
  rw [el,List.mem_filterMap]
  constructor
  ·rintro ⟨q,_,e⟩
   cases o:owner.getD q none with
   | none=>rw [o] at e;cases e
   | some x =>
    rw [o] at e
    cases e
    exact Jy.mp o
  ·intro e
   have hj:j<owner.size:=by
    rcases Nat.lt_or_ge j owner.size with z | z
    ·exact z
    ·rw [yj z] at e;cases e
   exact ⟨j,List.mem_range.mpr (by rw [W.sz] at hj;exact hj),by rw [Jy.mpr e];rfl⟩
 have llen:live.length=n:=by
  have:=W.len
  unfold qiE at this
  rw [List.length_filterMap_eq_countP] at this
  rw [el,List.length_filterMap_eq_countP,<- this]
  congr 1
  funext j
  cases owner.getD j none <;> rfl
 have lsort:live.Pairwise fun a b=>a.1<b.1:=by
  rw [el]
  refine List.Pairwise.filterMap _ (fun a a' hlt b e b' e'=>?_) List.pairwise_lt_range
  cases o:owner.getD a none with
  | none=>rw [o] at e;cases e
  | some x =>
   cases o':owner.getD a' none with
   | none=>rw [o'] at e';cases e'
   | some x' =>
    rw [o] at e;rw [o'] at e'
    cases e;cases e'
    exact hlt
 have some1:∀ x∈live.map (·.2),(es[x]?).isSome=true:=fun x hx=>by
  obtain ⟨⟨j,i⟩,hji,rfl⟩:=qv.mp hx
  have:=(W.own j i ((lmem j i).mp hji)).1
  simp [hn,this]
 have es':((live.map (·.2)).toArray.filterMap (es[·]?))=((live.map (·.2)).filterMap (es[·]?)).toArray:=by simp
 have get':∀ i:Nat,((live.map (·.2)).toArray.filterMap (es[·]?))[i]?=live[i]?.bind fun x=>es[x.2]?:=fun i=>by
  rw [es',List.getElem?_toArray,qgt some1,List.getElem?_map]
  cases live[i]? <;> rfl
 have size':((live.map (·.2)).toArray.filterMap (es[·]?)).size=n:=by
  rw [es',List.size_toArray,fm_len some1,List.length_map,llen]
 have pget:∀ i:Nat,(live.map (·.1)).toArray[i]?=live[i]?.map (·.1):=fun i=>by rw [List.getElem?_toArray,List.getElem?_map]
 refine ⟨{ mask:=m,place:=(live.map (·.1)).toArray,dummies:=#[],finger:=fi,led:=ld,moves:=mv,plain:=pl },(live.map (·.2)).toArray,?_,rfl,rfl,by rw [size',hn],⟨⟨rfl,rfl,by simp [llen],?_,?_⟩,size',?_⟩,fun e=>?_,fun i i' e e' h1 h2 hyy=>?_⟩
 ·unfold laid
  rw [qaH,<- Array.foldl_toList,eo,el]
  rfl
 ·intro a b hab hb
  have hb':b<live.length:=by simpa using hb
  have ha':a<live.length:=by omega
  have:=qL.mp lsort a b ha' hb' hab
  simpa [Array.getD,ha',hb'] using this
 ·intro i j e
  rw [show ({ mask:=m,place:=(live.map (·.1)).toArray,dummies:=#[],finger:=fi,led:=ld,moves:=mv,plain:=pl }:SetTable).place[i]?=live[i]?.map (·.1) from pget i] at e
  cases o:live[i]? with
  | none=>rw [o] at e;cases e
  | some x =>
   rw [o] at e
   obtain ⟨q,y⟩:=x
   have hq:=(lmem q y).mp (List.mem_of_getElem? o)
   have:q=j:=Option.some.inj e
   subst this
   have hj:q<owner.size:=by
    rcases Nat.lt_or_ge q owner.size with z | z
    ·exact z
    ·rw [yj z] at hq;cases hq
   rw [W.sz] at hj
   omega
 ·rintro j e ⟨i,h1,h2⟩
  rw [show ({ mask:=m,place:=(live.map (·.1)).toArray,dummies:=#[],finger:=fi,led:=ld,moves:=mv,plain:=pl }:SetTable).place[i]?=live[i]?.map (·.1) from pget i] at h1
  rw [get'] at h2
  cases o:live[i]? with
  | none=>rw [o] at h1;cases h1
  | some x =>
   rw [o] at h1 h2
   obtain ⟨q,y⟩:=x
   have e1:q=j:=Option.some.inj h1
   subst e1
   have h2:es[y]?=some e:=h2
   have hr:=(W.own q y ((lmem q y).mp (List.mem_of_getElem? o))).2
   have eh:((es.map (·.1)).getD y 0)=e.1:=by
    rw [Array.getD_eq_getD_getElem?,Array.getElem?_map,h2];rfl
   rw [<- eh]
   obtain ⟨k,ek,ak⟩:=hr
   refine ⟨k,ek,fun l hl=>?_⟩
   have hp:=ak l hl
   have hle:=qf4 m ((es.map (·.1)).getD y 0) l
   generalize (stp m ((es.map (·.1)).getD y 0) l).j=p at hp hle
   unfold fO at hp
   rw [Array.getD_eq_getD_getElem?] at hp
   cases oo:owner[p]? with
   | none =>
    rw [Array.getElem?_eq_none_iff,W.sz] at oo
    omega
   | some v =>
    rw [oo] at hp
    cases v with
    | none=>cases hp
    | some z =>
     obtain ⟨a,ea⟩:=qU ((lmem p z).mpr oo)
     exact ⟨a,by rw [show ({ mask:=m,place:=(live.map (·.1)).toArray,dummies:=#[],finger:=fi,led:=ld,moves:=mv,plain:=pl }:SetTable).place[a]?=live[a]?.map (·.1) from pget a,ea];rfl⟩
 ·constructor
  ·intro he
   obtain ⟨i,ei⟩:=qU he
   rw [qo,get'] at ei
   cases o:live[i]? with
   | none=>rw [o] at ei;cases ei
   | some x =>
    rw [o] at ei
    exact List.mem_of_getElem? (by rw [qo];exact ei)
  ·intro he
   obtain ⟨y,ey⟩:=qU he
   rw [qo] at ey
   have hy:y<n:=by
    rcases Nat.lt_or_ge y es.size with z | z
    ·omega
    ·rw [yj z] at ey;cases ey
   obtain ⟨j,ej⟩:=W.ex y hy
   obtain ⟨i,ei⟩:=qU ((lmem j y).mpr ej)
   refine List.mem_of_getElem? (i:=i) ?_
   rw [qo,get',ei]
   exact ey
 ·rw [get'] at h1 h2
  cases o:live[i]? with
  | none=>rw [o] at h1;cases h1
  | some x =>
   cases o':live[i']? with
   | none=>rw [o'] at h2;cases h2
   | some x' =>
    rw [o] at h1;rw [o'] at h2
    have hxx:x.2=x'.2:=hyy _ _ h1 h2
    have j1:=(lmem x.1 x.2).mp (List.mem_of_getElem? o)
    have j2:=(lmem x'.1 x'.2).mp (List.mem_of_getElem? o')
    rw [<- hxx] at j2
    have jj:=W.inj _ _ _ j1 j2
    have hi:i<live.length:=(ql.mp o).1
    have hi':i'<live.length:=(ql.mp o').1
    have e1:live[i]=x:=(ql.mp o).2
    have e2:live[i']=x':=(ql.mp o').2
    rcases Nat.lt_trichotomy i i' with z | z | z
    ·have:=qL.mp lsort i i' hi hi' z
     rw [e1,e2] at this
     omega
    ·exact z
    ·have:=qL.mp lsort i' i hi' hi z
     rw [e1,e2] at this
     omega
end L2
namespace L2
open PySem PySem.Spec PyProof.Rows PySem.W
section
variable {prog:Program}{w:World}{A:Around}{E:Value->Shared->Prop}{s:Shared}
theorem qfA {vs:List Value}{ns:List Int}(h:IntsAre vs ns):ItemsAre (intKind prog w) ns vs:=by
 induction h with
 | nil=>exact .nil
 | cons n t _ ih=>exact .cons (intKind_is _ _ _ _) ih
theorem yE.key {h:Heap}{b:Addr}{ks:List Int}(t:yE h (.ref b) ks):IsTupleKey (intKind prog w) h ks b:=by
 obtain ⟨b',o,xs,n,e,ho,hc,hd,hi,_⟩:=t
 cases e
 exact ⟨o,xs,n,ho,hc,hd,qfA hi⟩
abbrev yh (prog:Program) (w:World) (ks:List Int):Int:=tupleKeyHash (intKind prog w) ks
theorem qh4 {b:Addr}{ks:List Int}{Q:Bool->Shared->Prop}(t:yE s.heap (.ref b) ks) (q:Q true s):wpAny (model prog w) A (hashByValue 8 (.ref b)) Q E s:=by
 have hT:=(t.key (prog:=prog) (w:=w)).typeIs
 obtain ⟨b',o,xs,n,e,ho,hc,hd,hi,_⟩:=t
 cases e
 unfold hashByValue
 refine qa (wpAny_specialOf hT F.slot_tuple_hash.lookup ?_)
 show wpAny _ _ (seqItems? (.ref b) >>= _) _ _ s
 refine qa (wpAny_seqItems ho hd ?_)
 refine qa ?_
 show wpAny _ _ (forIn xs _ _) _ _ s
 rw [<- Array.forIn_toList]
 refine wpAny_forIn_list _ (fun yD r s'=>r.1=none/\s'=s/\∃ ns,IntsAre yD ns) _ ?_ ?_ _ _ ⟨rfl,rfl,_,hi⟩
 ·rintro v yD r s' ⟨hr,rfl,ns,hi'⟩
  cases hi' with
  | cons i t hi'' =>
   refine qa (qd ?_)
   simp only [Bool.not_true,Bool.false_eq_true,if_false]
   exact qd ⟨rfl,rfl,_,hi''⟩
 ·rintro ⟨r1,r2⟩ s' ⟨hr,rfl,_⟩
  simp only at hr
  subst hr
  exact qd q
theorem qeu {b:Addr}{ks:List Int}{Q:Bool->Shared->Prop}(t:yE s.heap (.ref b) ks) (q:Q false s):wpAny (model prog w) A (ofAClassStatement 8 (.ref b)) Q E s:=by
 have hT:=(t.key (prog:=prog) (w:=w)).typeIs
 obtain ⟨b',o,xs,n,e,ho,hc,hd,hi,_⟩:=t
 cases e
 unfold ofAClassStatement
 refine qa (wpAny_typeOf hT ?_)
 dsimp only
 rw [if_pos (show ("tuple" == "tuple")=true by decide)]
 refine qa (qd ?_)
 simp only [Bool.not_true,Bool.false_eq_true,if_false]
 refine qa (wpAny_seqItems ho hd ?_)
 dsimp only
 refine qa ?_
 show wpAny _ _ (forIn xs _ _) _ _ s
 rw [<- Array.forIn_toList]
 refine wpAny_forIn_list _ (fun yD r s'=>r.1=none/\s'=s/\∃ ns,IntsAre yD ns) _ ?_ ?_ _ _ ⟨rfl,rfl,_,hi⟩
 ·rintro v yD r s' ⟨hr,rfl,ns,hi'⟩
  cases hi' with
  | cons i t hi'' =>
   refine qa (qd ?_)
   simp only [Bool.false_eq_true,if_false]
   exact qd ⟨rfl,rfl,_,hi''⟩
 ·rintro ⟨r1,r2⟩ s' ⟨hr,rfl,_⟩
  simp only at hr
  subst hr
  exact qd q
theorem qha {b:Addr}{ks:List Int}(t:yE s.heap (.ref b) ks) {ys:List Value}{Q:Bool->Shared->Prop}(hy:∀ y∈ys,∃ c ks',y = .ref c/\yE s.heap (.ref c) ks') (q:Q false s):wpAny (model prog w) A (searchCouldBeSeen (.ref b) ys) Q E s:=by
 unfold searchCouldBeSeen
 refine qa ?_
 refine wpAny_forIn_list _ (fun yD r s'=>r.1=none/\s'=s/\∀ y∈yD,∃ c ks',y = .ref c/\yE s.heap (.ref c) ks') _ ?_ ?_ _ _ ⟨rfl,rfl,hy⟩
 ·rintro v yD r s' ⟨hr,rfl,hy'⟩
  obtain ⟨c,ks',rfl,tc⟩:=hy' v qg
  have rest':∀ y∈yD,∃ c ks',y = .ref c/\yE s'.heap (.ref c) ks':=fun y h=>hy' y (qe _ h)
  dsimp only
  by_cases e:(b == c)=true
  ·rw [e]
   simp only [Bool.true_or,if_true]
   exact qd ⟨rfl,rfl,rest'⟩
  ·have e:(b == c)=false:=by simpa using e
   rw [e]
   simp only [carriedByValue,Bool.false_and,Bool.or_false,Bool.false_eq_true,if_false]
   refine qa (wpAny_eqIsQuiet_tuple (t.key (prog:=prog) (w:=w)) ?_)
   simp only [Bool.not_true,Bool.false_eq_true,if_false]
   refine qa (wpAny_eqIsQuiet_tuple (tc.key (prog:=prog) (w:=w)) ?_)
   simp only [Bool.not_true,Bool.false_eq_true,if_false]
   refine qa (qeu t ?_)
   simp only [Bool.false_eq_true,if_false]
   refine qa (qeu tc ?_)
   simp only [Bool.false_eq_true,if_false]
   exact qd ⟨rfl,rfl,rest'⟩
 ·rintro ⟨r1,r2⟩ s' ⟨hr,rfl,_⟩
  simp only at hr
  subst hr
  exact qd q
end
end L2
namespace L2
open PySem PySem.Spec PyProof.Rows PySem.W PySem.SetTable
def jw (m n:Nat):Prop:=(m=7/\n<5)\/(m=31/\n<19)\/(m=127/\n<77)\/(m=511/\n<307)\/(m=2047/\n<1229)\/(m=8191/\n<4915)
theorem jw.full {m n:Nat}(h:jw m n):Full m:=by
 rcases h with ⟨rfl,_⟩ | ⟨rfl,_⟩ | ⟨rfl,_⟩ | ⟨rfl,_⟩ | ⟨rfl,_⟩ | ⟨rfl,_⟩
 ·exact full7
 ·exact qj6
 ·exact qh7
 ·exact qh6
 ·exact qfE
 ·exact qfD
theorem jw.le {m n:Nat}(h:jw m n):n<m/\n<4915:=by unfold jw at h;omega
theorem jw.odd {m n:Nat}(h:jw m n):(m % 2 == 0)=false:=by
 rcases h with ⟨rfl,_⟩ | ⟨rfl,_⟩ | ⟨rfl,_⟩ | ⟨rfl,_⟩ | ⟨rfl,_⟩ | ⟨rfl,_⟩ <;> decide
def ZI (prog:Program) (w:World) (h:Heap) (e:Int×Value) (ks:List Int):Prop:=yE h e.2 ks/\e.1=yh prog w ks
abbrev jm (w:World):Bool:=w.params.followText "set-order"
structure SetD (prog:Program) (w:World) (Pv:Value->Prop) (h:Heap) (a:Addr) (o:Obj) (es:Array (Int×Value)) (ep:Nat) (t:SetTable) (m:Nat) (kss:List (List Int)):Prop where
 ho:h.get? a=some o
 ex:o.ExactSet
 hd:o.data = .set es ep t
 pl:t.plain=true
 ld:t.led=!jm w
 mok:jw m es.size
 si:SetI t es m es.size
 en:PySem.Paired (ZI prog w h) es.toList kss
 nd:kss.Nodup
 own:∀ e∈es.toList,Pv e.2
section
variable {prog:Program}{w:World}{Pv:Value->Prop}{A:Around}{E:Value->Shared->Prop}{s:Shared}{a:Addr}{o:Obj}{es:Array (Int×Value)}{ep:Nat}{t:SetTable}{m:Nat}{kss:List (List Int)}
theorem SetD.fits (D:SetD prog w Pv s.heap a o es ep t m kss):t.fits es.size=true:=by
 have:=D.mok.le
 unfold SetTable.fits SetTable.fill
 rw [D.si.tab.dm,D.si.tab.size,D.si.tab.mask]
 simp
 omega
theorem SetD.len (D:SetD prog w Pv s.heap a o es ep t m kss):kss.length=es.size:=by
 have:=PySem.Paired.length D.en
 rw [Array.length_toList] at this
 exact this.symm
theorem SetD.ent (D:SetD prog w Pv s.heap a o es ep t m kss) {i:Nat}{e:Int×Value}(h:es[i]?=some e):∃ ks,kss[i]?=some ks/\ZI prog w s.heap e ks:=L2.Paired.get D.en (by rw [qo];exact h)
theorem SetD.ent' (D:SetD prog w Pv s.heap a o es ep t m kss) {i:Nat}{ks:List Int}(h:kss[i]?=some ks):∃ e,es[i]?=some e/\ZI prog w s.heap e ks:=by
 obtain ⟨e,h1,h2⟩:=L2.Paired.get' D.en h
 exact ⟨e,by rw [qo] at h1;exact h1,h2⟩
theorem SetD.place (D:SetD prog w Pv s.heap a o es ep t m kss) {i j:Nat}(h:t.place[i]?=some j):∃ e,es[i]?=some e:=by
 have hi:i<t.place.size:=by
  rcases Nat.lt_or_ge i t.place.size with z | z
  ·exact z
  ·rw [yj z] at h;cases h
 rw [D.si.tab.size] at hi
 exact ⟨es[i],by simp [hi]⟩
theorem Ym (D:SetD prog w Pv s.heap a o es ep t m kss) {b:Addr}{ks:List Int}(tb:yE s.heap (.ref b) ks) (hu:A.units<cLine) {adding:Bool}{Q:SetFound->Shared->Prop}
  (hin:∀ i:Nat,kss[i]?=some ks->Q (.there (if adding=true then none else some i)) s)
  (hout:ks∉kss->∀ j,¬ Fl t j->j<=m->Rch (Fl t) m (yh prog w ks) j->Q (.free j false) s) {K:Nat}(hK:¬ Fl t (stp m (yh prog w ks) K).j) (hK2:K<=10 * (m+12)) :
  ∀ (fu k:Nat) (stand:Option Probe),stand.getD (t.probeStart (yh prog w ks))=stp m (yh prog w ks) k->k<=K->K - k<fu →
   (∀ l,l<k->∃ i:Nat,t.place[i]?=some (stp m (yh prog w ks) l).j/\kss[i]?≠some ks)->wpAny (model prog w) A (setSearchFrom a (.ref b) (yh prog w ks) adding fu stand) Q E s
 | 0,k,stand,_,_,z,_=>absurd z (by omega)
 | fu+1,k,stand,hst,hk,hf,hl=>by
  have T:=D.si.tab
  unfold setSearchFrom
  refine qa (yx D.ho D.hd D.fits ?_)
  dsimp only
  have gw:t.gaveWay=false:=by unfold SetTable.gaveWay;rw [T.mask];exact D.mok.odd
  rw [gw]
  simp only [Bool.false_eq_true,if_false]
  rw [hst]
  obtain ⟨x,x1,x2,x3,x4⟩:=T.probe_go (hashAt:=fun i=>(es[i]?.map (·.1)).getD 0) hK (10 * turns t.mask) k hk (by rw [T.mask];unfold turns;omega)
  -- up to x none is it
  have before:∀ l,l<x->∃ i:Nat,t.place[i]?=some (stp m (yh prog w ks) l).j/\kss[i]?≠some ks:=fun l hlx=>by
   by_cases c:l<k
   ·exact hl l c
   ·obtain ⟨i,e1,e2⟩:=x3 l (by omega) hlx
    refine ⟨i,e1,fun z=>e2 ?_⟩
    obtain ⟨e,h1,_,h3⟩:=D.ent' z
    simp only [h1,Option.map_some,Option.getD_some,h3]
  rcases x4 with ⟨n1,n2⟩ | ⟨i,e1,e2,e3⟩
  ·have pe:t.probe (fun i=>(es[i]?.map (·.1)).getD 0) (yh prog w ks) (stp m (yh prog w ks) k)=some (.empty (stp m (yh prog w ks) x).j none):=n2
   have no:ks∉kss:=fun hm=>by
    obtain ⟨i,ei⟩:=qU hm
    obtain ⟨e,h1,_,h3⟩:=D.ent' ei
    have hi:i<t.place.size:=by
     rw [T.size]
     rcases Nat.lt_or_ge i es.size with z | z
     ·exact z
     ·rw [yj z] at h1;cases h1
    obtain ⟨k',ek,ak⟩:=D.si.rch (t.place[i]) e ⟨i,by simp [hi],h1⟩
    rw [h3] at ek ak
    rcases Nat.lt_trichotomy k' x with z | z | z
    ·obtain ⟨i',p1,p2⟩:=before k' z
     rw [ek] at p1
     have:i'=i:=qe1 T.rise p1 (by simp [hi])
     subst this
     exact p2 ei
    ·subst z
     exact n1 ⟨i,by rw [ek];simp [hi]⟩
    ·exact n1 (ak x z)
   have fin:=hout no _ n1 (qf4 _ _ _) ⟨x,rfl,fun l hlx=>let ⟨i,p,_⟩:=before l hlx;⟨i,p⟩⟩
   generalize hp:t.probe _ (yh prog w ks) (stp m (yh prog w ks) k)=r
   have er:=hp.symm.trans pe
   subst er
   exact qd fin
  ·have pe:t.probe (fun i=>(es[i]?.map (·.1)).getD 0) (yh prog w ks) (stp m (yh prog w ks) k)=some (.candidate (stp m (yh prog w ks) x).j i (stp m (yh prog w ks) (x+1))):=e3
   generalize hp:t.probe _ (yh prog w ks) (stp m (yh prog w ks) k)=r
   have er:=hp.symm.trans pe
   subst er
   dsimp only
   obtain ⟨⟨h',y⟩,ee⟩:=D.place e1
   obtain ⟨ks',ek,ty,hh⟩:=D.ent ee
   obtain ⟨c,oc,xs,nn,ey,hoc⟩:=id ty
   have ey:y = .ref c:=ey
   subst ey
   have ty:yE s.heap (.ref c) ks':=ty
   have hstored:∀ y∈List.map (fun x=>x.snd) (Array.filter (fun x=>x.fst == yh prog w ks) es).toList,∃ c ks',y = .ref c/\yE s.heap (.ref c) ks':=fun y hy=>by
    obtain ⟨e,he,rfl⟩:=qv.mp hy
    have he':e∈es.toList:=by
     rw [Array.toList_filter] at he
     exact (List.mem_filter.mp he).1
    obtain ⟨q,eq⟩:=qU he'
    rw [qo] at eq
    obtain ⟨ks2,_,t2,_⟩:=D.ent eq
    obtain ⟨c2,_,_,_,e2,_⟩:=id t2
    exact ⟨c2,ks2,e2,by rw [<- e2];exact t2⟩
   have sm:t.sameMemory t.moves t.mask=some true:=by unfold SetTable.sameMemory;rw [if_pos (beq_self_eq_true _)]
   -- once it stands that nobody sees it
   have core:wpAny (model prog w) A (do
     let equal <- holding [Value.ref c] (eqBool (Value.ref c) (Value.ref b))
     let __x <- setState a
     if (adding && equal)=true then pure (SetFound.there none)
      else
       match __x.2.snd.sameMemory t.moves t.mask with
       | some sme =>
        match if sme=true then __x.2.snd.slot (stp m (yh prog w ks) x).j else Slot.empty with
        | Slot.live i' =>
         match __x.fst[i']? with
         | some (fst,y')=>do
          let __do_lift <- isSame y' (Value.ref c)
          let still <- pure (if __do_lift=true then some i' else none)
          match still with
           | none=>do
            rule "set.search.anew"
            setSearchFrom a (Value.ref b) (yh prog w ks) adding fu none
           | some i' =>
            if equal=true then pure (SetFound.there (some i'))
            else setSearchFrom a (Value.ref b) (yh prog w ks) adding fu (some (stp m (yh prog w ks) (x+1)))
         | none=>do
          let still <- pure none
          match still with
           | none=>do
            rule "set.search.anew"
            setSearchFrom a (Value.ref b) (yh prog w ks) adding fu none
           | some i' =>
            if equal=true then pure (SetFound.there (some i'))
            else setSearchFrom a (Value.ref b) (yh prog w ks) adding fu (some (stp m (yh prog w ks) (x+1)))
        | x_1=>do
         let still <- pure none
         match still with
          | none=>do
           rule "set.search.anew"
           setSearchFrom a (Value.ref b) (yh prog w ks) adding fu none
          | some i' =>
           if equal=true then pure (SetFound.there (some i'))
           else setSearchFrom a (Value.ref b) (yh prog w ks) adding fu (some (stp m (yh prog w ks) (x+1)))
       | x_1=>unsupported "set.changed-during-lookup:is-the-new-block-at-the-old-address") Q E s:=by
    refine qa (qX (wpAny_eqBool_tuple hu (ty.key (prog:=prog) (w:=w)) (tb.key (prog:=prog) (w:=w)) ?_))
    refine qa (yx D.ho D.hd D.fits ?_)
    dsimp only
    have go:∀ eq:Bool,(eq=true->kss[i]?=some ks)->(eq=false->kss[i]?≠some ks)->wpAny (model prog w) A (do
      let __do_lift <- isSame (Value.ref c) (Value.ref c)
      let still <- pure (if __do_lift=true then some i else none)
      match still with
       | none=>do
        rule "set.search.anew"
        setSearchFrom a (Value.ref b) (yh prog w ks) adding fu none
       | some i' =>
        if eq=true then pure (SetFound.there (some i'))
        else setSearchFrom a (Value.ref b) (yh prog w ks) adding fu (some (stp m (yh prog w ks) (x+1)))) (fun r s'=>adding=true/\eq=true\/Q r s') E s:=fun eq q1 q2=>by
     refine qa ?_
     unfold isSame
     dsimp only
     rw [if_pos (beq_self_eq_true _)]
     refine qd (qa (qd ?_))
     simp only [if_true]
     cases eq with
     | true =>
      simp only [if_true]
      refine qd ?_
      cases adding with
      | true=>exact .inl (by simp)
      | false=>exact .inr (by simpa using hin i (q1 rfl))
     | false =>
      simp only [Bool.false_eq_true,if_false]
      refine qF (Ym D tb hu hin hout hK hK2 fu (x+1) _ rfl ?_ ?_ fun l hlx=>?_) (fun r s' q=>.inr q) fun _ _ z=>z
      ·have:x≠K:=fun z=>hK (z ▸ ⟨i,e1⟩)
       omega
      ·have:x≠K:=fun z=>hK (z ▸ ⟨i,e1⟩)
       omega
      ·by_cases z:l=x
       ·subst z;exact ⟨i,e1,q2 rfl⟩
       ·exact before l (by omega)
    by_cases kk:ks'=ks
    ·rw [qB kk]
     cases ha:adding with
     | true =>
      simp only [Bool.and_self,if_true]
      refine qd ?_
      have:=hin i (by rw [ek,kk])
      rw [ha] at this
      simpa using this
     | false =>
      simp only [Bool.and_true,Bool.false_eq_true,if_false,sm,if_true,T.live e1,ee]
      refine qF (by have:=go true (fun _=>by rw [ek,kk]) (fun z=>by cases z);rw [ha] at this;simpa using this) (fun r s' q=>?_) fun _ _ z=>z
      exact q
    ·rw [yr kk]
     simp only [Bool.and_false,Bool.false_eq_true,if_false,sm,if_true,T.live e1,ee]
     refine qF (by have:=go false (fun z=>by cases z) (fun _ z=>kk (by rw [ek] at z;exact Option.some.inj z));simpa using this) (fun r s' q=>?_) fun _ _ z=>z
     exact q
   cases hled:t.led with
   | true =>
    simp only [Bool.not_true,Bool.false_eq_true,if_false,ee]
    exact core
   | false =>
    simp only [Bool.not_false,if_true]
    refine qa (qha tb hstored ?_)
    simp only [Bool.false_eq_true,if_false,ee]
    exact core
end
end L2
namespace L2
open PySem PySem.Spec PyProof.Rows PySem.W PySem.SetTable
def YN (prog:Program) (w:World) (Pv:Value->Prop) (h:Heap) (a:Addr) (kss:List (List Int)):Prop:=∃ o es ep t m,SetD prog w Pv h a o es ep t m kss
theorem ZI.kept {prog:Program}{w:World}{h h':Heap}{e:Int×Value}{ks:List Int}(k:∀ b o,h.get? b=some o->o.cls = .type "tuple" -> h'.get? b=some o) (t:ZI prog w h e ks):ZI prog w h' e ks:=⟨t.1.kept k,t.2⟩
theorem YN.kept {prog:Program}{w:World}{Pv:Value->Prop}{h h':Heap}{a:Addr}{kss:List (List Int)}(k:jI h h') (S:YN prog w Pv h a kss):YN prog w Pv h' a kss:=by
 obtain ⟨o,es,ep,t,m,D⟩:=S
 exact ⟨o,es,ep,t,m,k _ _ D.ho,D.ex,D.hd,D.pl,D.ld,D.mok,D.si,Paired.mapP D.en fun e ks t=>t.kept fun b o e _=>k b o e,D.nd,D.own⟩
theorem qeg {prog:Program}{w:World}{h h':Heap}{a:Addr}{o:Obj}(ho:h.get? a=some o) (hc:o.cls = .type "set") (sb:Heap.SameBut a h h') {e:Int×Value}{ks:List Int}(t:ZI prog w h e ks):ZI prog w h' e ks :=
 t.kept fun b o' e hcl=>by
  have ne:b≠a:=by
   rintro rfl
   rw [ho] at e
   cases e
   rw [hc] at hcl
   exact absurd hcl (by decide)
  rw [sb.2 b ne];exact e
section
variable {prog:Program}{w:World}{A:Around}{E:Value->Shared->Prop}{s:Shared}{a:Addr}{o:Obj}{es:Array (Int×Value)}{ep:Nat}{t:SetTable}{m:Nat}{kss:List (List Int)}
theorem qe3 (a:Addr) (wanted:Nat):setRelay a wanted=(do
  let (es,_,t) <- setState a
  if SetTable.sizeAbove wanted > sizeLine then unsupported "set:memory"
  let (es,t) <- (do
   let some (t,order):=t.relaid (es.map (·.1)) wanted | unsupported "internal:set-table-without-room"
   let es':=order.filterMap (es[·]?)
   if es'.size != es.size then unsupported "internal:set-table-lost-an-element"
   pure (es',t))
  storeSet a es t):=rfl
theorem SetI.put {j:Nat}{x:Int×Value}(I:SetI t es m es.size) (hj:¬ Fl t j) (hm:j<=m) (hr:Rch (Fl t) m x.1 j):SetI (t.put j).1 (insertAt es (t.put j).2 x) m (es.size+1):=by
 obtain ⟨T',e2,e3⟩:=I.tab.put hj hm
 have hb:=(jM I.tab.rise j).2.2
 have hb2:below t.place j<=es.size:=by rw [<- I.tab.size];exact hb
 have up:∀ q,Fl t q->Fl (t.put j).1 q:=fun q ⟨i,e⟩=>by
  unfold Fl
  rw [e3]
  by_cases c:i<below t.place j
  ·exact ⟨i,by rw [yG hb,if_pos c];exact e⟩
  ·exact ⟨i+1,by rw [yG hb,if_neg (by omega),if_neg (by omega)];exact e⟩
 refine ⟨T',by rw [e2,Ye hb2],fun j' e' hA=>?_⟩
 rw [e3,e2] at hA
 rcases (qj1 hb hb2).mp hA with h | ⟨rfl,rfl⟩
 ·exact (I.rch j' e' h).mono up
 ·exact hr.mono up
theorem YW {α β:Type}{R:α->β->Prop}:∀ {xs:List α}{ys:List β}(p:Nat) {x:α}{y:β},PySem.Paired R xs ys->R x y->PySem.Paired R (xs.take p++x::xs.drop p) (ys.take p++y::ys.drop p)
 | _,_,0,x,y,h,r=>.cons r h
 | _,_,p+1,x,y,.nil,r=>by simpa using PySem.Paired.cons r .nil
 | _,_,p+1,x,y,.cons h t,r=>.cons h (YW p t r)
theorem qbt {α:Type}{xs:Array α}{p:Nat}{x:α}(hp:p<=xs.size):(insertAt xs p x).toList=xs.toList.take p++x::xs.toList.drop p:=by
 unfold insertAt
 simp [List.take_of_length_le]
theorem qdB {α:Type}{xs:List α}{p:Nat}{x y:α}:y∈xs.take p++x::xs.drop p ↔ y=x\/y∈xs:=by
 have:y∈xs ↔ y∈xs.take p\/y∈xs.drop p:=by rw [<- List.mem_append,qD]
 simp only [List.mem_append,List.mem_cons,this]
 constructor
 ·rintro (h | h | h)
  ·exact .inr (.inl h)
  ·exact .inl h
  ·exact .inr (.inr h)
 ·rintro (h | h | h)
  ·exact .inr (.inl h)
  ·exact .inl h
  ·exact .inr (.inr h)
theorem qdr {α:Type}{xs:List α}{p:Nat}{x:α}(h:xs.Nodup) (hx:x∉xs):(xs.take p++x::xs.drop p).Nodup:=by
 have e:(xs.take p++x::xs.drop p).Perm (x::xs):=by
  have:=List.perm_middle (a:=x) (l₁:=xs.take p) (l₂:=xs.drop p)
  rwa [qD] at this
 exact e.nodup_iff.mpr (List.nodup_cons.mpr ⟨hx,h⟩)
end
end L2
namespace L2
open PySem PySem.Spec PyProof.Rows PySem.W PySem.SetTable
theorem Jn {α β:Type}{R:α->β->Prop}:∀ {l:List α},(∀ e∈l,∃ k,R e k)->∃ ks,PySem.Paired R l ks
 | [],_=>⟨[],.nil⟩
 | e::l,h=>by
  obtain ⟨k,hk⟩:=h e qg
  obtain ⟨ks,hks⟩:=Jn (fun x hx=>h x (qe _ hx))
  exact ⟨k::ks,.cons hk hks⟩
section
variable {prog:Program}{w:World}{Pv:Value->Prop}{A:Around}{E:Value->Shared->Prop}{s:Shared}{a:Addr}{o:Obj}{es:Array (Int×Value)}{ep:Nat}{t:SetTable}{m:Nat}{kss:List (List Int)}
theorem ZI.inj {h:Heap}{e:Int×Value}{k k':List Int}(h1:ZI prog w h e k) (h2:ZI prog w h e k'):k=k':=by
 obtain ⟨b,_,_,_,e1,_⟩:=id h1.1
 have t1:yE h (.ref b) k:=e1 ▸ h1.1
 have t2:yE h (.ref b) k':=e1 ▸ h2.1
 exact (t1.key (prog:=prog) (w:=w)).inj (t2.key (prog:=prog) (w:=w))
theorem Z5 (ho:s.heap.get? a=some o) (hd:o.data = .set es ep t) (es':Array (Int×Value)) (t':SetTable):(s.heap.update a (Obj.putSet es' t')).get? a=some { o with data:=.set es' (ep+1) t' }:=by
 have:=yA (Obj.putSet es' t') ho (by rw [putSet_of es' t' hd];rfl)
 rw [putSet_of es' t' hd] at this
 exact this
theorem qe2 {m' n:Nat}{wanted:Nat}{Q:Unit->Shared->Prop}(ho:s.heap.get? a=some o) (ex:o.ExactSet) (hd:o.data = .set es ep t) (pl:t.plain=true) (le:t.led=!jm w) (hf:t.fits es.size=true) (en:PySem.Paired (ZI prog w s.heap) es.toList kss) (nd:kss.Nodup) (ow:∀ e∈es.toList,Pv e.2)
  (hw:sizeAbove wanted=m'+1) (mo:jw m' es.size) (h:∀ h' kss',Heap.SameBut a s.heap h'->YN prog w Pv h' a kss'->(∀ k,k∈kss' ↔ k∈kss)->Q () { s with heap:=h' }):wpAny (model prog w) A (setRelay a wanted) Q E s:=by
 rw [qe3]
 refine qa (yx ho hd hf ?_)
 dsimp only
 have hle:=mo.le
 have m127:m'<=8191:=by unfold jw at mo;omega
 rw [if_neg (by rw [hw,sizeLine_eq];omega)]
 obtain ⟨t',order,e1,e2,e3,e4,e5,e6,e7⟩:=qhY (m:=m') (n:=es.size) (fi:=t.finger) (mv:=t.movedTo (sizeAbove wanted - 1)) (ld:=t.led) (pl:=t.plain) mo.full (es:=es) rfl (by omega)
 have er:t.relaid (es.map (·.1)) wanted=some (t',order):=by
  unfold SetTable.relaid
  rw [show sizeAbove wanted - 1=m' by omega] at e1 ⊢
  exact e1
 rw [er]
 dsimp only
 have e4':((order.filterMap (es[·]?)).size != es.size)=false:=by rw [e4];simp
 rw [e4']
 simp only [Bool.false_eq_true,if_false,pure_bind]
 generalize order.filterMap (es[·]?)=es2 at *
 refine wpAny_storeSet_of ho hd ?_ (by rw [e4,sizeLine_eq];omega)
 have sb:Heap.SameBut a s.heap (s.heap.update a (Obj.putSet es2 t')):=Heap.SameBut.update s.heap a _
 have old:∀ e∈es2.toList,∃ k,ZI prog w s.heap e k/\k∈kss:=fun e he=>by
  obtain ⟨i,ei⟩:=qU ((e6 e).mp he)
  obtain ⟨k,k1,k2⟩:=L2.Paired.get en ei
  exact ⟨k,k2,List.mem_of_getElem? k1⟩
 obtain ⟨kss2,en2⟩:=Jn (R:=ZI prog w s.heap) (l:=es2.toList) fun e he=>let ⟨k,k1,_⟩:=old e he;⟨k,k1⟩
 refine h _ kss2 sb ⟨_,es2,ep+1,t',m',Z5 ho hd es2 t',⟨ex.1,ex.2.1,ex.2.2⟩,rfl,by rw [e3];exact pl,by rw [e2];exact le,by rw [e4];exact mo,by rw [e4];exact e5,Paired.mapP en2 fun e ks tt=>qeg ho ex.1 sb tt,?_,fun e he=>ow e ((e6 e).mp he)⟩ fun k=>⟨fun hk=>?_,fun hk=>?_⟩
 ·refine qL.mpr fun i i' hi hi' hlt z=>?_
  obtain ⟨x,x1,x2⟩:=L2.Paired.get' en2 (List.getElem?_eq_getElem hi)
  obtain ⟨x',x1',x2'⟩:=L2.Paired.get' en2 (List.getElem?_eq_getElem hi')
  rw [qo] at x1 x1'
  have:=e7 i i' x x' x1 x1' fun y y' ey ey'=>by
   obtain ⟨k,k1,k2⟩:=L2.Paired.get en (show es.toList[y]?=some x by rw [qo];exact ey)
   obtain ⟨k',k1',k2'⟩:=L2.Paired.get en (show es.toList[y']?=some x' by rw [qo];exact ey')
   have q1:=k2.inj x2
   have q2:=k2'.inj x2'
   rw [q1] at k1
   rw [q2,<- z] at k1'
   have hy:y<kss.length:=(ql.mp k1).1
   have hy':y'<kss.length:=(ql.mp k1').1
   have g1:=(ql.mp k1).2
   have g2:=(ql.mp k1').2
   exact (List.getElem_inj nd).mp (g1.trans g2.symm)
  omega
 ·obtain ⟨i,ei⟩:=qU hk
  obtain ⟨x,x1,x2⟩:=L2.Paired.get' en2 ei
  obtain ⟨k',k1,k2⟩:=old x (List.mem_of_getElem? x1)
  rw [x2.inj k1];exact k2
 ·obtain ⟨i,ei⟩:=qU hk
  obtain ⟨x,x1,x2⟩:=L2.Paired.get' en ei
  have hx:=(e6 x).mpr (List.mem_of_getElem? x1)
  obtain ⟨i2,ei2⟩:=qU hx
  obtain ⟨k2,q1,q2⟩:=L2.Paired.get en2 ei2
  rw [x2.inj q2]
  exact List.mem_of_getElem? q1
theorem qgL (S:YN prog w Pv s.heap a kss) {b:Addr}{ks:List Int}(tb:yE s.heap (.ref b) ks) (pb:Pv (.ref b)) (hu:A.units<cLine) (hn:kss.length<4914) {Q:Bool->Shared->Prop}(hin:ks∈kss->Q false s)
  (hout:ks∉kss->∀ h' kss',Heap.SameBut a s.heap h'->YN prog w Pv h' a kss'->(∀ k,k∈kss' ↔ k=ks\/k∈kss)->Q true { s with heap:=h' }):wpAny (model prog w) A (setAddHashed a (.ref b) (yh prog w ks)) Q E s:=by
 obtain ⟨o,es,ep,t,m,D⟩:=S
 have T:=D.si.tab
 have hl:=D.len
 have hle:=D.mok.le
 obtain ⟨q,q1,q2⟩:=T.free (yf hle.1)
 obtain ⟨K,K1,K2⟩:=D.mok.full.walk (yh prog w ks) q1
 unfold setAddHashed
 refine qX ?_
 show wpAny (model prog w) A (setAddHashedIn a (.ref b) (yh prog w ks) (99999+1)) Q E s
 unfold setAddHashedIn
 refine qa (yx D.ho D.hd D.fits ?_)
 dsimp only
 rw [if_neg (by simp [byScan,Value.scannable])]
 refine qa ?_
 have m127:m<=8191:=by have:=D.mok;unfold jw at this;omega
 refine Ym D tb hu (adding:=true) (fun i ei=>?_) (fun no j n1 n2 n3=>?_) (K:=K) (by rw [K2];exact q2) K1 100000 0 none (by show t.probeStart _=_;rw [qa3,T.mask]) (qN _) (by omega) fun l z=>absurd z (by omega)
 ·simp only [if_true]
  exact qd (hin (List.mem_of_getElem? ei))
 ·dsimp only
  refine qa (yx D.ho D.hd D.fits ?_)
  dsimp only
  have I1:=D.si.put (x:=(yh prog w ks,Value.ref b)) n1 n2 n3
  obtain ⟨T1,p2,p3⟩:=T.put n1 n2
  have hb:=(jM T.rise j).2.2
  have hb2:below t.place j<=es.size:=by rw [<- T.size];exact hb
  have pl1:(t.put j).1.plain=true:=D.pl
  have le1:(t.put j).1.led=!jm w:=D.ld
  rw [pl1]
  simp only [if_true]
  refine qa (qh4 tb ?_)
  simp only [if_true]
  have sz1:(insertAt es (t.put j).2 (yh prog w ks,Value.ref b)).size=es.size+1:=by rw [p2,Ye hb2]
  have en1:PySem.Paired (ZI prog w s.heap) (insertAt es (t.put j).2 (yh prog w ks,Value.ref b)).toList (kss.take (below t.place j)++ks::kss.drop (below t.place j)):=by
   rw [p2,qbt hb2]
   exact YW _ D.en ⟨tb,rfl⟩
  have ow1:∀ e∈(insertAt es (t.put j).2 (yh prog w ks,Value.ref b)).toList,Pv e.2:=fun e he=>by
   rw [p2,qbt hb2] at he
   rcases qdB.mp he with rfl | he
   ·exact pb
   ·exact D.own e he
  have nd1:=qdr (p:=below t.place j) D.nd no
  have fits1:(t.put j).1.fits (es.size+1)=true:=by
   unfold SetTable.fits SetTable.fill
   rw [T1.dm,T1.size,T1.mask]
   simp
   omega
  generalize (t.put j).1=t1 at *
  generalize insertAt es (t.put j).2 (yh prog w ks,Value.ref b)=es1 at *
  generalize hk1:kss.take (below t.place j)++ks::kss.drop (below t.place j)=kss1 at *
  have mem1:∀ k,k∈kss1 ↔ k=ks\/k∈kss:=fun k=>by rw [<- hk1];exact qdB
  refine qa (wpAny_storeSet_of D.ho D.hd ?_ (by rw [sz1,sizeLine_eq];omega))
  have sb:Heap.SameBut a s.heap (s.heap.update a (Obj.putSet es1 t1)):=Heap.SameBut.update s.heap a _
  have g1:=Z5 D.ho D.hd es1 t1
  have en2:PySem.Paired (ZI prog w (s.heap.update a (Obj.putSet es1 t1))) es1.toList kss1:=Paired.mapP en1 fun e k tt=>qeg D.ho D.ex.1 sb tt
  generalize s.heap.update a (Obj.putSet es1 t1)=h1 at *
  have tf:t1.tooFull=decide ((es.size+1) * 5 ≥ m * 3):=by
   unfold SetTable.tooFull SetTable.fill
   rw [T1.dm,T1.size,T1.mask]
   rfl
  rw [tf]
  simp only [Bool.not_false,Bool.true_and,decide_eq_true_eq]
  by_cases c:(es.size+1) * 5 ≥ m * 3
  ·rw [if_pos c]
   have big:∃ m',sizeAbove (grown (es.size+1))=m'+1/\jw m' (es.size+1):=by
    rcases D.mok with ⟨rfl,hlt⟩ | ⟨rfl,hlt⟩ | ⟨rfl,hlt⟩ | ⟨rfl,hlt⟩ | ⟨rfl,hlt⟩ | ⟨rfl,hlt⟩
    ·have:es.size=4:=by omega
     rw [this]
     exact ⟨31,by decide,.inr (.inl ⟨rfl,by omega⟩)⟩
    ·have:es.size=18:=by omega
     rw [this]
     exact ⟨127,by decide,.inr (.inr (.inl ⟨rfl,by omega⟩))⟩
    ·have:es.size=76:=by omega
     rw [this]
     exact ⟨511,by decide +kernel,.inr (.inr (.inr (.inl ⟨rfl,by omega⟩)))⟩
    ·have:es.size=306:=by omega
     rw [this]
     exact ⟨2047,by decide +kernel,.inr (.inr (.inr (.inr (.inl ⟨rfl,by omega⟩))))⟩
    ·have:es.size=1228:=by omega
     rw [this]
     exact ⟨8191,by decide +kernel,.inr (.inr (.inr (.inr (.inr ⟨rfl,by omega⟩))))⟩
    ·omega
   obtain ⟨m',w1,w2⟩:=big
   refine qa (qe2 (s:={ s with heap:=h1 }) (n:=0) g1 ⟨D.ex.1,D.ex.2.1,D.ex.2.2⟩ rfl pl1 le1 (by rw [sz1];exact fits1) en2 nd1 ow1 w1 (by rw [sz1];exact w2) fun h' kss' sb' S' mem'=>?_)
   exact qd (hout no h' kss' ⟨sb'.1.trans sb.1,fun b' ne=>(sb'.2 b' ne).trans (sb.2 b' ne)⟩ S' fun k=>(mem' k).trans (mem1 k))
  ·rw [if_neg c]
   refine qd (hout no h1 kss1 sb ⟨_,es1,ep+1,t1,m,g1,⟨D.ex.1,D.ex.2.1,D.ex.2.2⟩,rfl,pl1,le1,?_,by rw [sz1];exact I1,en2,nd1,ow1⟩ mem1)
   rw [sz1]
   rcases D.mok with ⟨rfl,hlt⟩ | ⟨rfl,hlt⟩ | ⟨rfl,hlt⟩ | ⟨rfl,hlt⟩ | ⟨rfl,hlt⟩ | ⟨rfl,hlt⟩
   ·exact .inl ⟨rfl,by omega⟩
   ·exact .inr (.inl ⟨rfl,by omega⟩)
   ·exact .inr (.inr (.inl ⟨rfl,by omega⟩))
   ·exact .inr (.inr (.inr (.inl ⟨rfl,by omega⟩)))
   ·exact .inr (.inr (.inr (.inr (.inl ⟨rfl,by omega⟩))))
   ·exact .inr (.inr (.inr (.inr (.inr ⟨rfl,by omega⟩))))
end
end L2
namespace L2
open PySem PySem.Spec PyProof.Rows PySem.W PySem.SetTable
theorem jE {α β:Type}{R R':α->β->Prop}:∀ {xs:List α}{ys:List β},PySem.Paired R xs ys->(∀ x∈xs,∀ y,R x y->R' x y)->PySem.Paired R' xs ys
 | _,_,.nil,_=>.nil
 | _,_,.cons r t,h=>.cons (h _ qg _ r) (jE t fun x hx=>h x (qe _ hx))
def In0 (h0:Heap) (Pv:Value->Prop):Prop:=∀ v,Pv v->∃ b o,v = .ref b/\h0.get? b=some o
theorem yE.move {h0 h h':Heap}{b:Addr}{o:Obj}{ks:List Int}(e:h0.get? b=some o) (k0:jI h0 h) (k1:jI h0 h') (t:yE h (.ref b) ks):yE h' (.ref b) ks:=by
 obtain ⟨b',o',xs,n,eb,ho,r⟩:=t
 cases eb
 have:=k0 _ _ e
 rw [this] at ho
 cases ho
 exact ⟨b,o,xs,n,rfl,k1 _ _ e,r⟩
theorem YN.move {prog:Program}{w:World}{Pv:Value->Prop}{h0 h h':Heap}{a:Addr}{kss:List (List Int)}(S:YN prog w Pv h a kss) (hPv:In0 h0 Pv) (k0:jI h0 h) (k1:jI h0 h') (hs:∀ o,h.get? a=some o->h'.get? a=some o):YN prog w Pv h' a kss:=by
 obtain ⟨o,es,ep,t,m,D⟩:=S
 refine ⟨o,es,ep,t,m,hs _ D.ho,D.ex,D.hd,D.pl,D.ld,D.mok,D.si,jE D.en fun e he ks ek=>?_,D.nd,D.own⟩
 obtain ⟨hh,v⟩:=e
 obtain ⟨b,o0,rfl,e0⟩:=hPv v (D.own _ he)
 exact ⟨yE.move e0 k0 k1 ek.1,ek.2⟩
section
variable {prog:Program}{w:World}{Pv:Value->Prop}{A:Around}{R:Result->Shared->Prop}{I:Addr}{fp wr:List Addr}{n:Nat}{P:Nat->Value->Prop}{St:Nat->Shared->Prop}
theorem qeW {h0:Heap}{key:Nat->List Int}(W:WalksS prog w A.in1 I fp wr (fun a b=>b=a) n P St) {S:Addr}(hSf:S∉fp) (hS0:h0.get? S=none) (hwr:∀ b∈wr,h0.get? b=none) (hPv:In0 h0 Pv)
  (hval:∀ i v,P i v->yE h0 v (key i)/\Pv v) (hn:∀ ms:List (List Int),ms.Nodup->(∀ q∈ms,∃ j,j<n/\key j=q)->ms.length<4914) (hu:A.units+8<cLine) :
  ∀ (k i:Nat) (s:Shared) (kss:List (List Int)),n - i=k->i<=n->St i s->jI h0 s.heap->YN prog w Pv s.heap S kss->(∀ q,q∈kss ↔ ∃ j,j<i/\key j=q)->kss.length<=i →
   (∀ s' kss',Moved (S::wr) (fun a b=>b=a) s s'->jI h0 s'.heap->YN prog w Pv s'.heap S kss'->(∀ q,q∈kss' ↔ ∃ j,j<n/\key j=q)->kss'.length<=n->R (.ok (.ret .none)) s') →
   codeAny (model prog w) A (.builtin "set.update.loop" ⟨[.ref S,.ref I],[]⟩) R s:=by
 have hSw:S∉wr:=fun h=>hSf (W.sub _ h)
 have hsub:∀ b∈wr,b∈S::wr:=fun b hb=>qe _ hb
 have kp:∀ {s s':Shared},jI h0 s.heap->Moved wr (fun a b=>b=a) s s'->jI h0 s'.heap:=fun k0 hm b o e=>hm.heap b o (fun z=>by rw [hwr b z] at e;cases e) (k0 b o e)
 intro k
 induction k with
 | zero =>
  intro i s kss hk hi hst k0 hS hmem hlen hR
  have hin:i=n:=by omega
  subst hin
  refine codeAny_builtin F.entry_set_update_loop ?_
  rw [Around.under_plainId F.plain_set_update_loop _]
  refine qa (m:=pyNext (.ref I)) (W.done s _ _ hst fun s' hm=>?_)
  refine qd (hR s' kss (hm.mono hsub) (kp k0 hm) ?_ hmem hlen)
  exact hS.move hPv k0 (kp k0 hm) fun o e=>hm.heap S o hSw e
 | succ k ih =>
  intro i s kss hk hi hst k0 hS hmem hlen hR
  have hlt:i<n:=by omega
  refine codeAny_builtin F.entry_set_update_loop ?_
  rw [Around.under_plainId F.plain_set_update_loop _]
  refine qa (m:=pyNext (.ref I)) (W.item i s _ _ hlt hst fun v s' hP hst' hm=>?_)
  have k1:=kp k0 hm
  have hS':=hS.move hPv k0 k1 fun o e=>hm.heap S o hSw e
  obtain ⟨tv,pv⟩:=hval i v hP
  obtain ⟨b,o0,rfl,e0⟩:=hPv v pv
  have tb:yE s'.heap (.ref b) (key i):=yE.move e0 (fun _ _ z=>z) k1 tv
  refine qa (m:=holding [Value.ref b] (setAdd S (.ref b))) (qX ?_)
  unfold setAdd
  refine qX ?_
  have hu1:A.in1.units<cLine:=by show A.units+_<_;omega
  refine qa (wpAny_pyHash_tuple hu1 (tb.key (prog:=prog) (w:=w)) ?_)
  refine qgL (s:={ s' with toks:=s'.toks+((key i).length+1) }) hS' tb pv hu1 (hn kss (let ⟨_,_,_,_,_,D⟩:=hS;D.nd) fun q hq=>let ⟨j,hj,e⟩:=(hmem q).mp hq;⟨j,yI hj hlt,e⟩) (fun hin=>?_) fun hout h' kss' sb S2 mem2=>?_
  ·refine qd ⟨plainId_quiet F.plain_set_update_loop _,ih (i+1) _ kss (by omega) hlt (W.frame _ s' s'.heap _ hst' (by omega) fun b hb o e=>e) k1 hS' (fun q=>?_) (by omega) fun s'' kss'' hm'' k2 S'' mem'' len''=>?_⟩
   ·rw [hmem q]
    constructor
    ·rintro ⟨j,hj,e⟩;exact ⟨j,by omega,e⟩
    ·rintro ⟨j,hj,e⟩
     by_cases c:j<i
     ·exact ⟨j,c,e⟩
     ·have:j=i:=by omega
      subst this
      rw [e] at hin
      exact (hmem q).mp hin
   ·exact hR s'' kss'' (Moved.trans W.gtrans ((hm.mono hsub).then_heap (h':=s'.heap) (tk:=s'.toks+((key i).length+1)) (by omega) fun b o hb e=>e) hm'') k2 S'' mem'' len''
  ·have k1':jI h0 h':=fun b o e=>by
    rw [sb.2 b (fun z=>by rw [z,hS0] at e;cases e)]
    exact k1 b o e
   have hl':kss'.length<=i+1:=by
    obtain ⟨_,_,_,_,_,D1⟩:=hS'
    obtain ⟨_,_,_,_,_,D2⟩:=S2
    have:kss'.length<=(key i::kss).length:=List.Nodup.length_le_of_subset D2.nd fun q hq=>by
     rcases (mem2 q).mp hq with rfl | z
     ·exact qg
     ·exact qe _ z
    simp only [List.length_cons] at this
    omega
   refine qd ⟨plainId_quiet F.plain_set_update_loop _,ih (i+1) _ kss' (by omega) hlt (W.frame _ s' h' (s'.toks+((key i).length+1)) hst' (by omega) fun b hb o e=>?_) k1' S2 (fun q=>?_) hl' fun s'' kss'' hm'' k2 S'' mem'' len''=>?_⟩
   ·rw [sb.2 b (fun h:b=S=>hSf (by rw [<- h];exact hb))];exact e
   ·rw [mem2 q,hmem q]
    constructor
    ·rintro (rfl | ⟨j,hj,e⟩)
     ·exact ⟨i,by omega,rfl⟩
     ·exact ⟨j,by omega,e⟩
    ·rintro ⟨j,hj,e⟩
     by_cases c:j<i
     ·exact .inr ⟨j,c,e⟩
     ·have:j=i:=by omega
      subst this
      exact .inl e.symm
   ·refine hR s'' kss'' (Moved.trans W.gtrans ((hm.mono hsub).then_heap (h':=h') (tk:=s'.toks+((key i).length+1)) (by omega) fun b o hb e=>?_) hm'') k2 S'' mem'' len''
    rw [sb.2 b (fun h:b=S=>hb (by rw [h];exact qg))];exact e
end
end L2
namespace L2
open PySem PySem.Spec PyProof.Rows PySem.W PySem.SetTable
abbrev JB (w:World):Obj:={ cls:=.type "set",dict:=none,data:=.set #[] 0 (.fresh 0 0 (!jm w)) }
theorem qcW:qgQ #[]:=fun i j a b=>absurd b (by simp)
theorem qbm {prog:Program}{w:World}{Pv:Value->Prop}{h:Heap}{a:Addr}(e:h.get? a=some (JB w)):YN prog w Pv h a [] :=
 ⟨_,#[],0,_,7,e,⟨rfl,rfl,rfl⟩,rfl,rfl,rfl,.inl ⟨rfl,by decide⟩,⟨⟨rfl,rfl,rfl,qcW,fun i j z=>by simp [SetTable.fresh] at z⟩,rfl,fun j e ⟨i,z,_⟩=>by simp [SetTable.fresh] at z⟩,.nil,List.nodup_nil,fun e z=>by simp at z⟩
section
variable {prog:Program}{w:World}{A:Around}{E:Value->Shared->Prop}{s:Shared}
theorem qeV (x:Value) {Q₁:Value->Shared->Prop}(q:Q₁ (.ref s.heap.objs.size) { s with heap:=s.heap.push (JB w) }) :
  codeAny (model prog w) A (.call (.builtin "set.__new__") ⟨[.type "set",x],[]⟩) (wants Q₁ E) s:=by
 refine codeAny_of_tree ?_
 refine qa (m:=checkBuiltinCall "set.__new__" ⟨[.type "set",x],[]⟩) (wpAny_of_eq (F.newCall_set_1 x) (qd ⟨plainId_quiet F.plain_set_new _,codeAny_builtin F.entry_set_new ?_⟩))
 rw [Around.under_plainId F.plain_set_new _]
 unfold Builtin.«set.__new__» Builtin.Frozenset.newClass
 have hsub:=sub_set_self
 obtain ⟨hp,g,d,tk,os⟩:=s
 dsimp only
 wp_walk
 refine jx (qd ?_)
 dsimp only
 simp only [newObj]
 refine qa (wpAny_alloc (qd (qd q)))
theorem qbX {l:Addr}{vs:List Value}{kss:List (List Int)}{Q:Value->Shared->Prop}(hh:A.handled=none) (hl:s.heap.IsList l vs.toArray) (hT:PySem.Paired (yE s.heap) vs kss) (hn:∀ ms:List (List Int),ms.Nodup->(∀ q∈ms,q∈kss)->ms.length<4914) (hu:A.units+64<cLine)
  (h:∀ h' tk ms,YN prog w (·∈vs) h' s.heap.objs.size ms->(∀ q,q∈ms ↔ q∈kss)->jI s.heap h'->Q (.ref s.heap.objs.size) { s with heap:=h',toks:=tk }):wpAny (model prog w) A (call (.type "set") [.ref l]) Q E s:=by
 obtain ⟨c,tl,hmro⟩:=F.called_set.mro
 have made:=F.called_set.made
 have sub:=F.called_set.sub
 refine wpAny_call (codeAny_of_tree ?_)
 show wpAny (model prog w) _ (callAny (.type "set") _) _ _ s
 refine qd ⟨Code.quiet_builtin _ (by decide +kernel),codeAny_builtin F.entry_type_call ?_⟩
 rw [Around.under_plain (weight_type_call_type "set" [Value.ref l] []) rfl]
 have t1:=F.called_set.notType
 have t2:=F.called_set.canCreate
 have t3:=F.typeCall_set_1 (Value.ref l)
 repeat (any_goals first | assumption | wp_step)
 refine codeAny_mono (qeV (prog:=prog) (.ref l) (E:=E) (Q₁:=fun v s₁=>v = .ref s.heap.objs.size/\s₁={ s with heap:=s.heap.push (JB w) }) ⟨rfl,rfl⟩) fun r s₁ hr=>?_
 cases r with
 | error e=>exact hr
 | ok fl =>
  cases fl with
  | next=>exact hr.elim
  | brk=>exact hr.elim
  | cont=>exact hr.elim
  | ret v =>
   obtain ⟨rfl,rfl⟩:=hr
   have hS:(s.heap.push (JB w)).get? s.heap.objs.size=some (JB w):=qx _ rfl
   have hTy:Shared.TypeIs { s with heap:=s.heap.push (JB w) } (.ref s.heap.objs.size) "set" := ⟨_,hS,rfl⟩
   have i1:=F.called_set.init.lookup
   have i2:=F.called_set.init.bind (.ref s.heap.objs.size)
   repeat (any_goals first | assumption | wp_step)
   refine codeAny_mono (codeAny_call_builtin (R:=wants (fun r s₂=>r = .none/\∃ h' tk ms,s₂={ s with heap:=h',toks:=tk }/\YN prog w (·∈vs) h' s.heap.objs.size ms/\(∀ q,q∈ms ↔ q∈kss)/\jI s.heap h') E)
    F.called_set.init.plain F.entry_set_init (check_set_init_1 hTy ?_)) fun r₂ s₂ hr₂=>?_
   ·obtain ⟨ol,hol,hcl,nl,hdl⟩:=hl
    obtain ⟨ocls,odict,odata,oslots⟩:=ol
    simp only at hcl hdl
    subst hcl;subst hdl
    have hlt:l<s.heap.objs.size:=qh hol
    have hol1:(s.heap.push (JB w)).get? l=some { cls:=.type "list",dict:=odict,data:=.seq vs.toArray nl,slots:=oslots }:=qc _ hol
    have s1:=F.sub_list_set
    have s2:=F.sub_list_frozenset
    have s3:(Value.type "list" == Value.type "dict")=false:=by decide
    have hl1:(s.heap.push (JB w)).IsList l vs.toArray:=⟨_,hol1,rfl,nl,rfl⟩
    unfold Builtin.«set.__init__» noKeywords Builtin.Frozenset.updateFrom
    generalize hPI:pyIter=PI
    wp_walk
    subst hPI
    refine wpAny_pyIter_list hl1 (qa (wpAny_runValue ?_))
    have sz1:(s.heap.push (JB w)).objs.size=s.heap.objs.size+1:=Heap.size_push ..
    have kp2:jI s.heap ((s.heap.push (JB w)).push { cls:=.type "list_iterator",data:=.fields #[.ref l,.int 0 0] }):=fun b o e=>qc _ (qc _ e)
    have no:∀ b,s.heap.objs.size<=b->s.heap.get? b=none:=fun b hb=>by
     cases z:s.heap.get? b with
     | none=>rfl
     | some o=>exact absurd (qh z) (Nat.not_lt.mpr hb)
    have hin:In0 s.heap (·∈vs):=fun v hv=>by
     obtain ⟨i,ei⟩:=qU hv
     obtain ⟨ks,_,b,o,xs,n,e,ho,_⟩:=L2.Paired.get hT ei
     exact ⟨b,o,e,ho⟩
    refine qeW (A:=A.in1.in1) (key:=fun i=>kss.getD i []) (h0:=s.heap) (Pv:=(·∈vs)) (Walks.list (by simp [hh]) _ l (by rw [sz1];exact qk (Nat.lt_succ_of_lt hlt)) vs.toArray).toS (S:=s.heap.objs.size) ?_ (no _ (qj _)) (fun b hb=>?_) hin
     (fun i v hv=>?_) (fun ms nd hm=>hn ms nd fun q hq=>by
      obtain ⟨j,hj,e⟩:=hm q hq
      have hk:j<kss.length:=by
       rw [<- L2.Paired.len hT]
       simpa using hj
      rw [qz,List.getElem?_eq_getElem hk] at e
      rw [<- e]
      exact qO hk) (by show A.units+1+1+8<_;omega) (vs.toArray.size - 0) 0 _ [] rfl (qN _) ⟨⟨_,qx _ rfl,rfl,rfl⟩,hl1.push _⟩ kp2 (qbm (qc _ hS)) (fun q=>by simp) (qN _) fun s' ms hm k2 S2 mem2 _=>?_
    ·rw [sz1];simp only [List.mem_cons,List.not_mem_nil,or_false,not_or];exact ⟨qk (yu _),Nat.ne_of_gt hlt⟩
    ·rw [qA.mp hb,sz1];exact no _ (Nat.le_succ _)
    ·have hv':vs[i]?=some v:=by simpa using hv
     have hi:i<vs.length:=(ql.mp hv').1
     have:=jg hT i hi
     rw [qz,hv'] at this
     exact ⟨this,List.mem_of_getElem? hv'⟩
    ·obtain ⟨h',g',d',tk',os'⟩:=s'
     have e1:g'=s.gens:=hm.gens
     have e2:d'=s.drawn:=hm.drawn
     have e3:os'=s.os:=hm.os
     subst e1;subst e2;subst e3
     refine qd ?_
     refine qd ⟨rfl,h',tk',ms,rfl,S2,fun q=>?_,k2⟩
     rw [mem2 q,List.size_toArray,L2.Paired.len hT]
     constructor
     ·rintro ⟨j,hj,e⟩
      rw [qz,List.getElem?_eq_getElem hj] at e
      exact e ▸ qO hj
     ·intro hq
      obtain ⟨j,hj,e⟩:=List.getElem_of_mem hq
      exact ⟨j,hj,by rw [qz,List.getElem?_eq_getElem hj];exact e⟩
   ·cases r₂ with
    | error e=>exact hr₂
    | ok fl₂ =>
     cases fl₂ with
     | next=>exact hr₂.elim
     | brk=>exact hr₂.elim
     | cont=>exact hr₂.elim
     | ret r =>
      obtain ⟨rfl,h',tk,ms,rfl,q1,q2,q3⟩:=hr₂
      repeat (any_goals first | assumption | wp_step)
      exact h _ _ _ q1 q2 q3
theorem YX {α:Type} [DecidableEq α]:∀ {ms kss:List α},ms.Nodup->(∀ q∈ms,q∈kss)->ms.length<=kss.length
 | [],_,_,_=>qN _
 | a::ms,kss,hn,h=>by
  have ha:=h a qg
  have h1:=YX (ms:=ms) (kss:=kss.erase a) (List.nodup_cons.mp hn).2 (fun q hq=>by
   have hne:q≠a:=fun z=>(List.nodup_cons.mp hn).1 (z ▸ hq)
   exact (List.mem_erase_of_ne hne).mpr (h q (qe _ hq)))
  rw [List.length_erase_of_mem ha] at h1
  have:=List.length_pos_of_mem ha
  simp only [List.length_cons]
  omega
end
end L2
namespace L2
open PySem PySem.Spec PyProof.Rows PySem.W PySem.SetTable
theorem jr:Slot "set_iterator" "__next__" "set_iterator.__next__" :=
 .of (owner := "set_iterator") (n := "__next__") (by rw [typeLookup_type,builtinLookup_eq_fast];kernel_rfl) (by decide +kernel) (by decide +kernel) (by decide +kernel) (by first | exact .inl (by decide +kernel) | exact .inr (by decide +kernel)) (by rw [isSubtype_type];kernel_rfl)
theorem JQ:Slot "set_iterator" "__iter__" "set_iterator.__iter__" :=
 .of (owner := "set_iterator") (n := "__iter__") (by rw [typeLookup_type,builtinLookup_eq_fast];kernel_rfl) (by decide +kernel) (by decide +kernel) (by decide +kernel) (by first | exact .inl (by decide +kernel) | exact .inr (by decide +kernel)) (by rw [isSubtype_type];kernel_rfl)
theorem Zv:entryFor table "set_iterator.__next__" = some Builtin.«set_iterator.__next__»:=entryFor_of_fast (by kernel_rfl)
theorem Zw:entryFor table "set_iterator.__iter__" = some Builtin.«dict_keyiterator.__iter__»:=entryFor_alias (id' := "dict_keyiterator.__iter__") (by kernel_rfl) rfl (by decide +kernel) (by kernel_rfl)
theorem qao (a:Value):argsOk "set_iterator.__next__" ⟨[a],[]⟩:=by unfold argsOk;kernel_rfl
theorem qap (a:Value):argsOk "set_iterator.__iter__" ⟨[a],[]⟩:=by unfold argsOk;kernel_rfl
theorem Z7:entryFor table "set.__iter__" = some Builtin.«frozenset.__iter__»:=entryFor_alias (id' := "frozenset.__iter__") (by kernel_rfl) rfl (by decide +kernel) (by kernel_rfl)
theorem qca {α:Type}{l:List α}{i:Nat}(h:i<l.length):(l[i]::l.eraseIdx i).Perm l:=by
 rw [List.eraseIdx_eq_take_drop_succ]
 have e:l=l.take i++l[i]::l.drop (i+1):=by rw [<- y6 h,qD]
 exact List.perm_middle.symm.trans (List.Perm.of_eq e.symm)
theorem qc8 {α:Type}(next:Nat->Nat):∀ (fu k:Nat) (left:List α) (out:Array α),left.length=fu->(pickOrder.go next fu k left out).toList.Perm (out.toList++left)
 | 0,k,left,out,h=>by
  cases List.length_eq_zero_iff.mp h
  simp [pickOrder.go]
 | fu+1,k,left,out,h=>by
  unfold pickOrder.go
  have hlt:next k % left.length<left.length:=Nat.mod_lt _ (by omega)
  simp only [List.getElem?_eq_getElem hlt]
  have ih:=qc8 next fu (k+1) (left.eraseIdx (next k % left.length)) (out.push left[next k % left.length]) (by rw [List.length_eraseIdx_of_lt hlt];omega)
  refine ih.trans ?_
  rw [Array.toList_push,List.append_assoc]
  exact List.Perm.append_left _ (qca hlt)
def Zj (w:World) (S:Addr) (ep:Nat) (es:Array (Int×Value)):Array (Int×Value):=if jm w=true then pickOrder (w.params.setOrder S ep) es else es
theorem Yr (w:World) (S:Addr) (ep:Nat) (es:Array (Int×Value)):(Zj w S ep es).toList.Perm es.toList:=by
 unfold Zj
 split
 ·have:=qc8 (w.params.setOrder S ep) es.size 0 es.toList #[] (by simp)
  have this:(pickOrder.go (w.params.setOrder S ep) es.size 0 es.toList #[]).toList.Perm es.toList:=by simpa using this
  exact this
 ·exact List.Perm.refl _
theorem jW (w:World) (S:Addr) (ep:Nat) (es:Array (Int×Value)):(Zj w S ep es).size=es.size:=by
 have:=(Yr w S ep es).length_eq
 simpa using this
theorem qaA {α β:Type}{R:α->β->Prop}{xs xs':List α}(p:xs.Perm xs'):∀ {ys:List β},PySem.Paired R xs ys->∃ ys',PySem.Paired R xs' ys'/\ys.Perm ys':=by
 induction p with
 | nil=>intro ys h;exact ⟨ys,h,List.Perm.refl _⟩
 | cons x _ ih =>
  intro ys h
  cases h with
  | cons r t =>
   obtain ⟨zs,h1,h2⟩:=ih t
   exact ⟨_,.cons r h1,h2.cons _⟩
 | swap x y l =>
  intro ys h
  cases h with
  | cons r t =>
   cases t with
   | cons r' t'=>exact ⟨_,.cons r' (.cons r t'),List.Perm.swap ..⟩
 | trans _ _ ih1 ih2 =>
  intro ys h
  obtain ⟨y1,a1,b1⟩:=ih1 h
  obtain ⟨y2,a2,b2⟩:=ih2 a1
  exact ⟨y2,a2,b1.trans b2⟩
section
variable {prog:Program}{w:World}{Pv:Value->Prop}{A:Around}{E:Value->Shared->Prop}{s:Shared}{a:Addr}{o:Obj}{es:Array (Int×Value)}{ep:Nat}{t:SetTable}{m:Nat}{kss:List (List Int)}
structure SetB (w:World) (h:Heap) (a:Addr) (o:Obj) (es:Array (Int×Value)) (ep:Nat) (t:SetTable) (m:Nat):Prop where
 ho:h.get? a=some o
 ex:o.ExactSet
 hd:o.data = .set es ep t
 fits:t.fits es.size=true
 pl:t.plain=true
 ld:t.led=!jm w
 tab:Tab t m es.size
theorem SetD.toB (D:SetD prog w Pv s.heap a o es ep t m kss):SetB w s.heap a o es ep t m:=⟨D.ho,D.ex,D.hd,D.fits,D.pl,D.ld,D.si.tab⟩
theorem SetB.at {h h':Heap}(B:SetB w h a o es ep t m) (k:h.get? a=some o->h'.get? a=some o):SetB w h' a o es ep t m:=⟨k B.ho,B.ex,B.hd,B.fits,B.pl,B.ld,B.tab⟩
theorem qgV (D:SetB w s.heap a o es ep t m) {Q:Array (Int×Value)->Shared->Prop}(q:Q (Zj w a ep es) s):wpAny (model prog w) A (setWalk a) Q E s:=by
 unfold setWalk setsByText
 refine qa (yx D.ho D.hd D.fits ?_)
 dsimp only
 refine qa (qa (jx (qd ?_)))
 show wpAny _ _ (if jm w=true then _ else _) _ _ _
 cases hb:jm w with
 | true =>
  rw [if_pos rfl]
  refine qa (jx (qd ?_))
  unfold Zj at q
  rw [if_pos hb] at q
  exact q
 | false =>
  unfold Zj at q
  rw [if_neg (by rw [hb];decide)] at q
  have hled:t.led=true:=by rw [D.ld,hb];rfl
  rw [if_neg (by decide)]
  show wpAny _ _ (if (!t.plain && decide (es.size > 1))=true then _ else _) _ _ _
  rw [if_neg (by rw [D.pl];simp)]
  refine qa (show wpAny _ _ (if (!t.led && decide (es.size > 1))=true then _ else _) _ _ _ from ?_)
  rw [if_neg (by rw [hled];simp)]
  exact qd (qd q)
theorem qhN (D:SetB w s.heap a o es ep t m) {slot i:Nat}(hb:jm w=false->below t.place slot=i) {Q:Option (Value×Nat)->Shared->Prop}
  (q:∀ nx,(jm w=false->i<es.size->below t.place nx=i+1)->Q (((Zj w a ep es)[i]?).map fun e=>(e.2,nx)) s):wpAny (model prog w) A (setNext a slot i ep) Q E s:=by
 unfold setNext setsByText
 refine qa (yx D.ho D.hd D.fits ?_)
 dsimp only
 refine qa (qa (jx (qd ?_)))
 show wpAny _ _ (if jm w=true then _ else _) _ _ _
 cases hb':jm w with
 | true =>
  rw [if_pos rfl,if_neg (by simp)]
  refine qa (qgV D (qd (q slot fun z=>?_)))
  rw [hb'] at z;cases z
 | false =>
  have hled:t.led=true:=by rw [D.ld,hb'];rfl
  rw [if_neg (by decide)]
  show wpAny _ _ (if (!t.plain && decide (es.size > 1))=true then _ else _) _ _ _
  rw [if_neg (by rw [D.pl];simp)]
  refine qa (show wpAny _ _ (if (!t.led && !es.isEmpty)=true then _ else _) _ _ _ from ?_)
  rw [if_neg (by rw [hled];simp)]
  refine qd ?_
  rw [hb hb']
  have T:=D.tab
  have eo:Zj w a ep es=es:=by unfold Zj;rw [if_neg (by rw [hb'];decide)]
  rw [eo] at q
  refine qd ?_
  by_cases hi:i<es.size
  ·have hp:t.place[i]?=some (t.place.getD i 0):=getD_some (by rw [T.size];exact hi)
   have he:es[i]?=some es[i]:=by simp [hi]
   have nx:=q (t.place.getD i 0+1) fun _ _=>by
    obtain ⟨b1,b2,b3⟩:=jM T.rise (t.place.getD i 0+1)
    rw [T.size] at b2 b3
    rcases Nat.lt_trichotomy (below t.place (t.place.getD i 0+1)) (i+1) with z | z | z
    ·have:=b2 i (by omega) hi
     omega
    ·exact z
    ·have c:=b1 (i+1) z
     have d:=T.rise i (i+1) (by omega) (by rw [T.size];omega)
     omega
   rw [he] at nx
   rw [hp,he]
   exact nx
  ·have he:es[i]?=none:=by simp;omega
   have nx:=q 0 fun _ z=>absurd z hi
   rw [he] at nx
   rw [he]
   exact nx
end
def SIt (h:Heap) (I S:Addr) (slot i n ep:Nat):Prop:=∃ o,h.get? I=some o/\o.cls = .type "set_iterator" /\ o.data = .fields #[.int slot 0,.int i 0,.ref S,.int n 0,.int ep 0]
theorem SIt.typeIs {s:Shared}{I S:Addr}{slot i n ep:Nat}(h:SIt s.heap I S slot i n ep):s.TypeIs (.ref I) "set_iterator" := let ⟨o,ho,hc,_⟩:=h;⟨o,ho,hc⟩
section
variable {prog:Program}{w:World}{Pv:Value->Prop}{A:Around}{E:Value->Shared->Prop}{s:Shared}{S I:Addr}{o:Obj}{es:Array (Int×Value)}{ep:Nat}{t:SetTable}{m:Nat}{kss:List (List Int)}
structure StS (w:World) (h:Heap) (I S:Addr) (o:Obj) (es:Array (Int×Value)) (ep:Nat) (t:SetTable) (m i:Nat):Prop where
 it:∃ slot,SIt h I S slot i es.size ep/\(jm w=false->i<=es.size->below t.place slot=i)
 st:SetB w h S o es ep t m
theorem qdW {i:Nat}(hI:I≠S) (st:StS w s.heap I S o es ep t m i) (hi:i<=es.size) {Q:Option Value->Shared->Prop}
  (hit:∀ e h',(Zj w S ep es)[i]?=some e->StS w h' I S o es ep t m (i+1)->(∀ b ob,b≠I->s.heap.get? b=some ob->h'.get? b=some ob)->Q (some e.2) { s with heap:=h' })
  (hend:i=es.size->A.handled=none/\∀ h',(∀ b ob,b≠I->s.heap.get? b=some ob->h'.get? b=some ob)->Q none { s with heap:=h' }):wpAny (model prog w) A (pyNext (.ref I)) Q E s:=by
 obtain ⟨⟨slot,hs,hb⟩,B⟩:=st
 obtain ⟨oi,hoi,hci,hdi⟩:=id hs
 unfold pyNext
 refine qa (wpAny_attempt (wpAny_callSpecial?_slot (name:=Str.ofString "__next__") hs.typeIs jr (wpAny_call_entry jr hs.typeIs Zv ?_ (qao _))))
 unfold Builtin.«set_iterator.__next__»
 refine qa (m:=slotArgs "__next__" 0 ⟨[.ref I],[]⟩) (qd ?_)
 dsimp only
 refine qa (wpAny_fieldsOf hoi hdi ?_)
 dsimp only
 refine qa (wpAny_setEntries_of B.ho B.hd B.fits ?_)
 rw [if_neg (by simp)]
 refine qa ?_
 simp only [Int.toNat_natCast]
 refine qhN B (fun z=>hb z hi) fun nx hnx=>?_
 by_cases hlt:i<es.size
 ·have hlt':i<(Zj w S ep es).size:=by rw [jW];exact hlt
  have eq:(Zj w S ep es)[i]?=some (Zj w S ep es)[i]:=by simp [hlt']
  rw [eq]
  dsimp only [Option.map_some]
  refine qa (wpAny_setField hoi hdi (by simp) ?_)
  have h1:=yA (Obj.mapFields (·.setIfInBounds 0 (rawInt nx))) hoi (Obj.isFreed_of_fields (Obj.data_mapFields hdi _))
  have d1:=Obj.data_mapFields hdi (·.setIfInBounds 0 (rawInt (nx:Int)))
  refine qa (wpAny_setField h1 d1 (by simp) (qd ⟨_,rfl,qd ?_⟩))
  have h2:=yA (Obj.mapFields (·.setIfInBounds 1 (rawInt ((i:Int)+1)))) h1 (Obj.isFreed_of_fields (Obj.data_mapFields d1 _))
  have kp:∀ b ob,b≠I->s.heap.get? b=some ob->((s.heap.update I (Obj.mapFields (·.setIfInBounds 0 (rawInt nx)))).update I (Obj.mapFields (·.setIfInBounds 1 (rawInt ((i:Int)+1))))).get? b=some ob:=fun b ob hb e =>
   (qT _ _ (Ne.symm hb)).trans ((qT _ _ (Ne.symm hb)).trans e)
  refine hit _ _ eq ⟨⟨nx,⟨_,h2,?_,?_⟩,fun z _=>hnx z hlt⟩,B.at (kp S _ (Ne.symm hI))⟩ kp
  ·rw [Obj.cls_mapFields,Obj.cls_mapFields];exact hci
  ·rw [Obj.data_mapFields d1];simp [rawInt]
 ·have he:i=es.size:=by omega
  obtain ⟨hh,hq⟩:=hend he
  have eq:(Zj w S ep es)[i]?=none:=by simp [jW];omega
  rw [eq]
  dsimp only [Option.map_none]
  refine qa (wpAny_setField hoi hdi (by simp) ?_)
  refine qa ?_
  simp only [newExc,newTuple]
  refine qa (yJ ?_ (by size_fits))
  refine qa (m:=firstArgMember _ _) (wpAny_of_eq (a:=Value.none) (by first | rfl | (simp only [firstArgMember];rfl)) ?_)
  refine yJ ?_ (by size_fits)
  simp only [raiseNew]
  refine qa (wpAny_handled ?_)
  rw [show A.in1.handled=none from hh]
  refine qa (qd (wpAny_throw ?_))
  refine qa (wpAny_isInstance (T := "StopIteration") (b:=true) ⟨_,qx _ rfl,rfl⟩ isSubtype_stop ?_)
  refine qd (hq _ fun b ob hb e=>?_)
  exact qc _ (qc _ ((qT _ _ (Ne.symm hb)).trans e))
theorem qcu (hh:A.handled=none) (hI:I≠S):Walks prog w A I [I,S] [I] es.size (fun i v=>((Zj w S ep es)[i]?).map (·.2)=some v) (fun i h=>StS w h I S o es ep t m i) where
 sub:=fun b hb=>by simp at hb;simp [hb]
 frame:=fun i h h' st hk=>by
  obtain ⟨⟨slot,⟨oi,e1,e2⟩,hb⟩,B⟩:=st
  exact ⟨⟨slot,⟨oi,hk I (by simp) _ e1,e2⟩,hb⟩,B.at (hk S (by simp) _)⟩
 item:=fun i s Q E hi st hQ=>qdW hI st (by omega) (fun e h' eo st' kp=>hQ e.2 h' s.toks (by rw [eo];rfl) st' fun b ob hb=>kp b ob fun z=>hb (by simp [z])) fun z=>absurd z (by omega)
 done:=fun s Q E st hQ=>qdW hI st (qj _) (fun e h' eo _ _=>by
  have:(Zj w S ep es)[es.size]?=none:=by simp [jW]
  rw [this] at eo;cases eo) fun _=>⟨hh,fun h' kp=>hQ h' s.toks fun b ob hb=>kp b ob fun z=>hb (by simp [z])⟩
 self:=fun i s Q E st hQ=>by
  obtain ⟨⟨slot,hs,hb⟩,B⟩:=st
  refine wpAny_pyIter_slot hs.typeIs JQ (wpAny_call_entry JQ hs.typeIs Zw ?_ (qap _))
  show wpAny _ _ (ret (.ref I)) _ _ s
  exact qd ⟨_,rfl, "set_iterator",_,hs.typeIs,jr.lookup,hQ⟩
theorem qfz (B:SetB w s.heap S o es ep t m) {Q:Value->Shared->Prop}(q:∀ h',jI s.heap h'->StS w h' s.heap.objs.size S o es ep t m 0->h'.objs.size=s.heap.objs.size+1->Q (.ref s.heap.objs.size) { s with heap:=h' }):wpAny (model prog w) A (pyIter (.ref S)) Q E s:=by
 have hT:s.TypeIs (.ref S) "set" := ⟨o,B.ho,B.ex.1⟩
 refine wpAny_pyIter_slot hT F.slot_set_iter (wpAny_call_entry F.slot_set_iter hT Z7 ?_ (F.args_set_iter_1 _))
 unfold Builtin.«frozenset.__iter__» Builtin.Frozenset.slot0
 refine qa (qa (m:=slotArgs "__iter__" 0 ⟨[.ref S],[]⟩) (qd (qd ?_)))
 unfold Builtin.Frozenset.sizeOf setDrawn setsByText setEpoch
 refine qa (qa (wpAny_setEntries_of B.ho B.hd B.fits (qd ?_)))
 refine qa (qa (yx B.ho B.hd B.fits ?_))
 dsimp only
 refine qa (qa (jx (qd (qd ?_))))
 rw [if_neg (by show ¬ ((!jm w && (!t.plain && decide (es.size > 1)))=true);rw [B.pl];simp)]
 refine qa (qd ?_)
 refine qa (qa (yx B.ho B.hd B.fits (qd ?_)))
 refine qa (yJ (qd ⟨_,rfl, "set_iterator",_,⟨_,qx _ rfl,rfl⟩,jr.lookup,q _ (fun b ob e=>qc _ e) ⟨⟨0,⟨_,qx _ rfl,rfl,rfl⟩,fun _ _=>?_⟩,B.at (qc _)⟩ (Heap.size_push ..)⟩))
 obtain ⟨b1,b2,b3⟩:=jM B.tab.rise 0
 rcases Nat.eq_zero_or_pos (below t.place 0) with z | z
 ·exact z
 ·exact absurd (b1 0 z) (by omega)
theorem qaW (hh:A.handled=none) (B:SetB w s.heap S o es ep t m) (hz:es.size<4915) {Q:List Value->Shared->Prop}(hQ:∀ h' tk,jI s.heap h'->Q ((Zj w S ep es).toList.map (·.2)) { s with heap:=h',toks:=tk }):wpAny (model prog w) A (collect (.ref S)) Q E s:=by
 have hlt:S<s.heap.objs.size:=qh B.ho
 unfold collect
 refine qa (wpAny_runValue (codeAny_builtin F.entry_proto_collect ?_))
 rw [Around.under_plainId F.plain_proto_collect _]
 refine qa (m:=newList []) (yJ ?_)
 refine qd ⟨plainId_quiet F.plain_list_iadd _,codeAny_builtin F.entry_list_iadd ?_⟩
 rw [Around.under_plainId F.plain_list_iadd _]
 have B1:SetB w (s.heap.push { cls:=.type "list",data:=.seq ([]:List Value).toArray }) S o es ep t m:=B.at (qc _)
 have hL:(s.heap.push { cls:=.type "list",data:=.seq ([]:List Value).toArray }).get? s.heap.objs.size=some { cls:=.type "list",data:=.seq ([]:List Value).toArray }:=qx _ rfl
 have kp1:jI s.heap (s.heap.push { cls:=.type "list",data:=.seq ([]:List Value).toArray }):=fun b ob e=>qc _ e
 have sz1:(s.heap.push { cls:=.type "list",data:=.seq ([]:List Value).toArray }).objs.size=s.heap.objs.size+1:=Heap.size_push ..
 show wpAny (model prog w) A.in1 (Builtin.List.listExtendWith (.ref s.heap.objs.size) (.ref S) (.ref s.heap.objs.size)) _ _ { s with heap:=s.heap.push { cls:=.type "list",data:=.seq ([]:List Value).toArray } }
 generalize s.heap.push { cls:=.type "list",data:=.seq ([]:List Value).toArray }=h1 at *
 have hT:Shared.TypeIs { s with heap:=h1 } (.ref S) "set" := ⟨o,B1.ho,B1.ex.1⟩
 have ne:Builtin.List.listSameRef (.ref s.heap.objs.size) (.ref S)=false:=by simp only [Builtin.List.listSameRef];exact beq_false_of_ne (Nat.ne_of_gt hlt)
 unfold Builtin.List.listExtendWith
 refine qa (wpAny_typeOf hT ?_)
 rw [if_neg (by rw [ne];decide)]
 refine qa (qfz (s:={ s with heap:=h1 }) B1 fun h2 kp2 st2 sz2=>?_)
 have hT2:Shared.TypeIs { s with heap:=h2 } (.ref S) "set" := ⟨o,st2.st.ho,B1.ex.1⟩
 have hL2:=kp2 _ _ hL
 refine qa (qX ?_)
 unfold Builtin.List.listLengthHint
 refine qa (wpAny_specialOf hT2 F.slot_set_len.lookup ?_)
 generalize hid:("set.__len__" : String)=id0
 wp_delta
 rw [show splitId id0=some ("set", "__len__") from by subst hid;decide +kernel]
 subst hid
 refine qa (wpAny_isInstance (b:=true) hT2 sub_set_self ?_)
 refine qa (m:=typeOf (.ref S)) (wpAny_typeOf hT2 (qd ?_))
 show wpAny (model prog w) A.in1 (rule "list.extend.makes-room" >>= fun _=>Builtin.List.listTouch (.ref s.heap.objs.size) >>= fun _=>again (.builtin "list.extend.loop" ⟨[.ref s.heap.objs.size,.ref h1.objs.size,.ref s.heap.objs.size],[]⟩)) _ _ _
 refine qa (jC (qa ?_))
 show wpAny (model prog w) A.in1 (updateSeq s.heap.objs.size (·.push .none) >>= fun _=>updateSeq s.heap.objs.size (·.pop)) _ _ _
 refine qa (wpAny_updateSeq hL2 rfl ?_)
 have hL3:=yA (Obj.mapSeq (·.push Value.none)) hL2 rfl
 refine wpAny_updateSeq hL3 rfl ?_
 have hL4:=yA (Obj.mapSeq (·.pop)) hL3 rfl
 have oth:∀ b ob,b≠s.heap.objs.size->h2.get? b=some ob->((h2.update s.heap.objs.size (Obj.mapSeq (·.push Value.none))).update s.heap.objs.size (Obj.mapSeq (·.pop))).get? b=some ob :=
  fun b ob hb e=>(qT _ _ (Ne.symm hb)).trans ((qT _ _ (Ne.symm hb)).trans e)
 have hI:h1.objs.size≠S:=fun z=>by
  have:=qh B1.ho
  rw [<- z] at this
  exact yc _ this
 have hIL:h1.objs.size≠s.heap.objs.size:=by rw [sz1];exact Nat.ne_of_gt (yu _)
 have W:WalksS prog w A.in1 h1.objs.size [h1.objs.size,S] [h1.objs.size] (fun a b=>b=a) es.size (fun i v=>((Zj w S ep es)[i]?).map (·.2)=some v) (fun i s=>StS w s.heap h1.objs.size S o es ep t m i):=(qcu (A:=A.in1) hh hI).toS
 refine qd ⟨plainId_quiet F.plain_extend_loop _,codeAny_extend_loopS W (by rw [sizeLine_eq];omega) s.heap.objs.size (fun hm=>?_) _ es.size 0 _ _ _ rfl (qN _) ?_ hL4 (ItemsOf.nil _) fun s' acc' c' hm hS' hacc=>?_⟩
 ·rcases List.mem_cons.mp hm with z | z
  ·exact hIL z.symm
  ·exact Nat.ne_of_gt hlt (qA.mp z)
 ·obtain ⟨⟨slot,⟨oi,e1,e2⟩,hb⟩,B2⟩:=st2
  exact ⟨⟨slot,⟨oi,oth _ _ hIL e1,e2⟩,hb⟩,B2.at (oth _ _ (qk hlt))⟩
 ·refine qa (m:=load s.heap.objs.size) (wpAny_load hS' ?_)
  have kp:jI s.heap s'.heap:=fun b ob e=>by
   have hb:b<s.heap.objs.size:=qh e
   refine hm.heap b ob (fun z=>?_) (oth b ob (qk hb) (kp2 _ _ (kp1 _ _ e)))
   rcases List.mem_cons.mp z with z | z
   ·exact qk hb z
   ·rw [qA.mp z,sz1] at hb
    exact absurd hb (Nat.not_lt.mpr (Nat.le_succ _))
  have ea:acc'.toList=(Zj w S ep es).toList.map (·.2):=by
   apply List.ext_getElem?
   intro i
   rw [List.getElem?_map,qo,qo]
   cases z:acc'[i]? with
   | some v=>exact (hacc.2 i v z).symm
   | none =>
    have:acc'.size<=i:=by simpa using z
    rw [hacc.1,<- jW w S ep es] at this
    rw [yj this]
    rfl
  have fin:=hQ s'.heap s'.toks kp
  rw [<- ea] at fin
  obtain ⟨h',g',d',tk',os'⟩:=s'
  have e1:g'=s.gens:=hm.gens
  have e2:d'=s.drawn:=hm.drawn
  have e3:os'=s.os:=hm.os
  subst e1;subst e2;subst e3
  exact qd fin
end
end L2
namespace L2
open PySem PySem.Spec PyProof.Rows PySem.W PySem.SetTable
section
variable {prog:Program}{w:World}{Pv Pv':Value->Prop}{A:Around}{E:Value->Shared->Prop}{s:Shared}{S1 S2:Addr}{k1 k2:List (List Int)}
end
open PySem PySem.Spec PyProof.Rows
mutual
theorem Is.same {K:W.Frag}{H H':Hp}(s:qY H H'):∀ {v:V}{d:PyData},Is K H v d->Is K H' v d
 | _,_,.non=>.non
 | _,_,.bl b=>.bl b
 | _,_,.int i=>.int i
 | _,_,.str x=>.str x
 | _,_,.lst h hs=>.lst (qY.seq s h) (IsAll.same s hs)
 | _,_,.tup h hs=>.tup (by
   rcases h with (e | ⟨o,e⟩) | e
   ·exact .inl (.inl (s _ _ e))
   ·exact .inl (.inr ⟨o,s _ _ e⟩)
   ·exact .inr e) (IsAll.same s hs)
 | _,_,.dc h=>.dc (s _ _ h)
theorem IsAll.same {K:W.Frag}{H H':Hp}(s:qY H H'):∀ {vs:List V}{ds:List PyData},IsAll K H vs ds->IsAll K H' vs ds
 | _,_,.nil=>.nil
 | _,_,.cons h hs=>.cons (Is.same s h) (IsAll.same s hs)
end
theorem IsAll.len {K:W.Frag}{H:Hp}:∀ {vs:List V}{ds:List PyData},IsAll K H vs ds->vs.length=ds.length
 | _,_,.nil=>rfl
 | _,_,.cons _ hs=>by simp [IsAll.len hs]
theorem IsAll.get {K:W.Frag}{H:Hp}:∀ {vs:List V}{ds:List PyData}{i:Nat}{v:V},IsAll K H vs ds->vs[i]?=some v->∃ d,ds[i]?=some d/\Is K H v d
 | _,_,_,_,.nil,e=>by simp at e
 | _,_,0,_,.cons h _,e=>by simp at e;subst e;exact ⟨_,rfl,h⟩
 | _,_,i+1,v,.cons _ t,e=>by
  obtain ⟨u,h1,h2⟩:=IsAll.get (i:=i) (v:=v) t (by simpa using e)
  exact ⟨u,by simpa using h1,h2⟩
theorem IsAll.get' {K:W.Frag}{H:Hp}:∀ {vs:List V}{ds:List PyData}{i:Nat}{d:PyData},IsAll K H vs ds->ds[i]?=some d->∃ v,vs[i]?=some v/\Is K H v d
 | _,_,_,_,.nil,e=>by simp at e
 | _,_,0,_,.cons h _,e=>by simp at e;subst e;exact ⟨_,rfl,h⟩
 | _,_,i+1,v,.cons _ t,e=>by
  obtain ⟨u,h1,h2⟩:=IsAll.get' (i:=i) (d:=v) t (by simpa using e)
  exact ⟨u,by simpa using h1,h2⟩
theorem IsAll.snoc {K:W.Frag}{H:Hp}{v:V}{d:PyData}(h:Is K H v d):∀ {vs:List V}{ds:List PyData},IsAll K H vs ds->IsAll K H (vs++[v]) (ds++[d])
 | _,_,.nil=>.cons h .nil
 | _,_,.cons a b=>.cons a (IsAll.snoc h b)
theorem IsAll.app {K:W.Frag}{H:Hp}{us:List V}{es:List PyData}(h:IsAll K H us es):∀ {vs:List V}{ds:List PyData},IsAll K H vs ds->IsAll K H (vs++us) (ds++es)
 | _,_,.nil=>h
 | _,_,.cons a b=>.cons a (IsAll.app h b)
theorem IsAll.drop {K:W.Frag}{H:Hp}:∀ {vs:List V}{ds:List PyData}(n:Nat),IsAll K H vs ds->IsAll K H (vs.drop n) (ds.drop n)
 | _,_,0,h=>h
 | _,_,_+1,.nil=>.nil
 | _,_,n+1,.cons _ t=>IsAll.drop n t
theorem IsAll.take {K:W.Frag}{H:Hp}:∀ {vs:List V}{ds:List PyData}(n:Nat),IsAll K H vs ds->IsAll K H (vs.take n) (ds.take n)
 | _,_,0,h=>.nil
 | _,_,_+1,.nil=>.nil
 | _,_,n+1,.cons h t=>.cons h (IsAll.take n t)
theorem IsAll.ints_of {K:W.Frag}{H:Hp}:∀ {vs:List V}{ns:List Int},IsAll K H vs (ns.map PyData.int)->vs=ns.map V.int
 | _,[],.nil=>rfl
 | _,_::_,.cons h t=>by cases h;rw [IsAll.ints_of t];rfl
theorem IsAll.bools_of {K:W.Frag}{H:Hp}:∀ {vs:List V}{ns:List Bool},IsAll K H vs (ns.map PyData.bool)->vs=ns.map V.bl
 | _,[],.nil=>rfl
 | _,_::_,.cons h t=>by cases h;rw [IsAll.bools_of t];rfl
structure Stb where
 R:V->Hp->Prop
 st:∀ v H H',qY H H'->R v H->R v H'
inductive En where
 | d (x:PyData)
 | m (a:Addr)
 | x (r:Stb)
 | ty (n:String)
structure MSt where
 R:Hp->HO->Prop
 st:∀ H H' u,qY H H'->R H u->R H' u
 nt:∀ H u xs,R H u->u≠.tup xs
 ml:∀ H H' a xs u,H a=some (.lst xs)->(∀ b o,H b=some o->b≠a->H' b=some o)->R H u->R H' u
inductive MO where
 | any (r:MSt)
 | pot (M:Int)
 | lst (ds:List PyData)
 | refs (as:List Addr)
 | dct (ks:List (List Int))
  | ins (C dx:Addr) (fs:List (Str×En))
abbrev Mu:=List (Addr×MO)
def mask (μ:Mu) (H:Hp):Hp:=fun a=>if a∈μ.map Prod.fst then none else H a
theorem qfs {H:Hp}:mask [] H=H:=by funext a;simp [mask]
theorem ym {μ:Mu}{H:Hp}:qY (mask μ H) H:=fun b o e=>by
 unfold mask at e
 split at e
 ·cases e
 ·exact e
theorem yt {μ:Mu}{H:Hp}{b:Addr}{o:HO}(e:mask μ H b=some o):b∉μ.map Prod.fst/\H b=some o:=by
 unfold mask at e
 split at e
 ·cases e
 ·exact ⟨by assumption,e⟩
theorem q9 {μ:Mu}{H:Hp}{b:Addr}(h:b∉μ.map Prod.fst):mask μ H b=H b:=by unfold mask;rw [if_neg h]
theorem qfr {μ μ':Mu}{H:Hp}(h:∀ a,a∈μ'.map Prod.fst->a∈μ.map Prod.fst):qY (mask μ H) (mask μ' H):=fun b o e=>by
 obtain ⟨h1,h2⟩:=yt e
 rw [q9 (fun z=>h1 (h _ z))];exact h2
def IsE (K:W.Frag) (μ:Mu) (H:Hp) (v:V):En->Prop
 | .d x=>Is K (mask μ H) v x
 | .m a=>v = .ref a
 | .x r=>r.R v (mask μ H)
 | .ty n=>v = .ty n
theorem IsE.same {K:W.Frag}{μ μ':Mu}{H H':Hp}{v:V}{e:En}(s:qY (mask μ H) (mask μ' H')) (h:IsE K μ H v e):IsE K μ' H' v e:=by
 cases e with
 | d x=>exact Is.same s h
 | m a=>exact h
 | x r=>exact r.st _ _ _ s h
 | ty n=>exact h
def qeG (K:W.Frag) (μ:Mu) (H:Hp) (x:Str×V) (y:Str×En):Prop:=x.1=y.1/\IsE K μ H x.2 y.2
theorem qeG.all {K:W.Frag}{μ μ':Mu}{H H':Hp}(s:qY (mask μ H) (mask μ' H')):∀ {vs:List (Str×V)}{fs:List (Str×En)},PySem.Paired (qeG K μ H) vs fs->PySem.Paired (qeG K μ' H') vs fs
 | _,_,.nil=>.nil
 | _,_,.cons h t=>.cons ⟨h.1,h.2.same s⟩ (qeG.all s t)
def qgR (K:W.Frag) (μ:Mu) (H:Hp) (a:Addr):MO->Prop
 | .any r=>∃ u,H a=some u/\r.R (mask μ H) u
 | .pot M=>Pot M H a
 | .lst ds=>∃ xs,H a=some (.lst xs)/\IsAll K (mask μ H) xs ds
 | .refs as=>H a=some (.lst (as.map V.ref))
 | .dct ks=>H a=some (.dT (ks.map fun ns=>(ns.map Sum.inl,V.bl true)))
 | .ins C dx fs=>∃ vs,H a=some (.ins C dx vs)/\PySem.Paired (qeG K μ H) vs fs
theorem qgR.some {K:W.Frag}{μ:Mu}{H:Hp}{a:Addr}{o:MO}(h:qgR K μ H a o):∃ u,H a=some u:=by
 cases o with
 | any r=>obtain ⟨u,e,_⟩:=h;exact ⟨_,e⟩
 | pot M=>obtain ⟨p0,p1,e,_⟩:=h;exact ⟨_,e⟩
 | lst ds=>obtain ⟨xs,e,_⟩:=h;exact ⟨_,e⟩
 | refs as=>exact ⟨_,h⟩
 | dct kvs=>exact ⟨_,h⟩
 | ins C dx fs=>obtain ⟨vs,e,_⟩:=h;exact ⟨_,e⟩
structure RelM (K:W.Frag) (μ:Mu) (H:Hp):Prop where
 nd:(μ.map Prod.fst).Nodup
 ob:∀ a o,(a,o)∈μ->qgR K μ H a o
theorem RelM.nil {K:W.Frag}{H:Hp}:RelM K [] H:=⟨by simp,fun _ _ h=>nomatch h⟩
theorem qgR.same {K:W.Frag}{μ μ':Mu}{H H':Hp}{a:Addr}{o:MO}(s:qY (mask μ H) (mask μ' H')) (e:H' a=H a) (h:qgR K μ H a o):qgR K μ' H' a o:=by
 cases o with
 | any r=>obtain ⟨u,q,z⟩:=h;exact ⟨u,e.trans q,r.st _ _ _ s z⟩
 | pot M=>obtain ⟨p0,p1,q,r⟩:=h;exact ⟨p0,p1,e.trans q,r⟩
 | lst ds=>obtain ⟨xs,q,r⟩:=h;exact ⟨xs,e.trans q,IsAll.same s r⟩
 | refs as=>exact e.trans h
 | dct kvs=>exact e.trans h
 | ins C dx fs=>obtain ⟨vs,q,r⟩:=h;exact ⟨vs,e.trans q,qeG.all s r⟩
theorem RelM.same {K:W.Frag}{μ:Mu}{H H':Hp}(h:RelM K μ H) (s:qY H H'):RelM K μ H'/\qY (mask μ H) (mask μ H'):=by
 have ss:qY (mask μ H) (mask μ H'):=fun b o e=>by
  obtain ⟨h1,h2⟩:=yt e
  rw [q9 h1];exact s _ _ h2
 refine ⟨⟨h.nd,fun a o ho=>?_⟩,ss⟩
 have:=h.ob a o ho
 obtain ⟨xs,e⟩:=this.some
 exact this.same ss ((s _ _ e).trans e.symm)
theorem RelM.laid {K:W.Frag}{μ:Mu}{H:Hp}{p:Addr}{o:HO}(h:RelM K μ H) (e:H p=none):RelM K μ (upd H p o)/\qY (mask μ H) (mask μ (upd H p o))/\p∉μ.map Prod.fst:=by
 obtain ⟨h1,h2⟩:=h.same (qY.upd (o:=o) e)
 refine ⟨h1,h2,fun z=>?_⟩
 obtain ⟨⟨a,q⟩,hq,rfl⟩:=qv.mp z
 obtain ⟨xs,e'⟩:=(h.ob a q hq).some
 rw [e'] at e;cases e
theorem qdA {μ:Mu}{a:Addr}{o:MO}(h:(a,o)∈μ):a∈μ.map Prod.fst:=qv.mpr ⟨_,h,rfl⟩
theorem RelM.write {K:W.Frag}{μ1 μ2:Mu}{H H':Hp}{a:Addr}{o o':MO}(h:RelM K (μ1++(a,o)::μ2) H) (k:∀ b u,H b=some u->b≠a->H' b=some u)
  (new:qY (mask (μ1++(a,o)::μ2) H) (mask (μ1++(a,o')::μ2) H')->qgR K (μ1++(a,o')::μ2) H' a o') :
  RelM K (μ1++(a,o')::μ2) H'/\qY (mask (μ1++(a,o)::μ2) H) (mask (μ1++(a,o')::μ2) H'):=by
 have ks:(μ1++(a,o')::μ2).map Prod.fst=(μ1++(a,o)::μ2).map Prod.fst:=by simp
 have ss:qY (mask (μ1++(a,o)::μ2) H) (mask (μ1++(a,o')::μ2) H'):=fun b u e=>by
  obtain ⟨h1,h2⟩:=yt e
  rw [q9 (by rw [ks];exact h1)]
  exact k b u h2 fun z=>h1 (by rw [z];simp)
 refine ⟨⟨by rw [ks];exact h.nd,fun b q hq=>?_⟩,ss⟩
 have nd:=h.nd
 simp only [List.map_append,List.map_cons,List.nodup_append,List.nodup_cons] at nd
 have hcase:(b,q)=(a,o')\/((b,q)∈μ1++(a,o)::μ2/\b≠a):=by
  rcases List.mem_append.mp hq with z | z
  ·exact .inr ⟨qp _ z,fun e=>nd.2.2 b (qdA z) a (by simp) e⟩
  ·rcases List.mem_cons.mp z with z | z
   ·exact .inl z
   ·exact .inr ⟨qb _ (qe _ z),fun e=>nd.2.1.1 (e ▸ qdA z)⟩
 rcases hcase with z | ⟨z,hne⟩
 ·cases z;exact new ss
 ·have:=h.ob b q z
  obtain ⟨xs,e⟩:=this.some
  exact this.same ss ((k b _ e hne).trans e.symm)
theorem RelM.drop {K:W.Frag}{μ1 μ2:Mu}{H:Hp}{a:Addr}{o:MO}(h:RelM K (μ1++(a,o)::μ2) H):RelM K (μ1++μ2) H/\qY (mask (μ1++(a,o)::μ2) H) (mask (μ1++μ2) H)/\a∉(μ1++μ2).map Prod.fst:=by
 have nd:=h.nd
 have ss:qY (mask (μ1++(a,o)::μ2) H) (mask (μ1++μ2) H):=qfr fun b hb=>by
  simp only [List.map_append,List.map_cons,List.mem_append,List.mem_cons] at *
  rcases hb with z | z
  ·exact .inl z
  ·exact .inr (.inr z)
 simp only [List.map_append,List.map_cons,List.nodup_append,List.nodup_cons] at nd
 refine ⟨⟨?_,fun b q hq=>?_⟩,ss,?_⟩
 ·simp only [List.map_append,List.nodup_append]
  exact ⟨nd.1,nd.2.1.2,fun x hx y hy=>nd.2.2 x hx y (qe _ hy)⟩
 ·have:(b,q)∈μ1++(a,o)::μ2:=by
   rcases List.mem_append.mp hq with z | z
   ·exact qp _ z
   ·exact qb _ (qe _ z)
  exact (h.ob b q this).same ss rfl
 ·simp only [List.map_append,List.mem_append,not_or]
  exact ⟨fun z=>nd.2.2 a z a (by simp) rfl,nd.2.1.1⟩
theorem RelM.new {K:W.Frag}{μ:Mu}{H:Hp}{p:Addr}{u:HO}{o:MO}(h:RelM K μ H) (e:H p=none) (new:qY (mask μ H) (mask ((p,o)::μ) (upd H p u))->qgR K ((p,o)::μ) (upd H p u) p o) :
  RelM K ((p,o)::μ) (upd H p u)/\qY (mask μ H) (mask ((p,o)::μ) (upd H p u)):=by
 obtain ⟨h1,h2,h3⟩:=h.laid (o:=u) e
 have ss:qY (mask μ H) (mask ((p,o)::μ) (upd H p u)):=fun b q z=>by
  obtain ⟨z1,z2⟩:=yt z
  have hb:b≠p:=qC z2 e
  rw [q9 (by simp only [List.map_cons,List.mem_cons,not_or];exact ⟨hb,z1⟩),qI hb];exact z2
 refine ⟨⟨by simp only [List.map_cons,List.nodup_cons];exact ⟨h3,h.nd⟩,fun b q hq=>?_⟩,ss⟩
 rcases List.mem_cons.mp hq with z | z
 ·cases z;exact new ss
 ·have:=h.ob b q z
  obtain ⟨xs,e'⟩:=this.some
  exact this.same ss (qI (qC e' e))
abbrev Rho:=List (Option En)
structure RelS (K:W.Frag) (ρ:Rho) (μ:Mu) (σ:St) (H:Hp):Prop where
 len:ρ.length=σ.length
 get:∀ (i:Nat) (e:En),ρ[i]?=some (some e)->∃ v,σ[i]?=some (some v)/\IsE K μ H v e
theorem RelS.same {K:W.Frag}{ρ:Rho}{μ μ':Mu}{σ:St}{H H':Hp}(h:RelS K ρ μ σ H) (s:qY (mask μ H) (mask μ' H')):RelS K ρ μ' σ H' :=
 ⟨h.len,fun i e q=>let ⟨v,e1,e2⟩:=h.get i e q;⟨v,e1,e2.same s⟩⟩
theorem RelS.set {K:W.Frag}{ρ:Rho}{μ:Mu}{σ:St}{H:Hp}{i:Nat}{v:V}{e:En}(h:RelS K ρ μ σ H) (r:IsE K μ H v e):RelS K (ρ.set i (some e)) μ (σ.set i (some v)) H:=by
 refine ⟨by simp [h.len],fun j x q=>?_⟩
 by_cases hj:i=j
 ·subst hj
  have hi:i<ρ.length:=by
   have:=(ql.mp q).1
   simpa using this
  rw [List.getElem?_set_self (by rw [<- h.len];exact hi)]
  rw [List.getElem?_set_self hi] at q
  cases q
  exact ⟨v,rfl,r⟩
 ·rw [List.getElem?_set_ne hj] at *
  exact h.get j x q
def Wk (ρ:Rho) (μ:Mu) (ρ':Rho) (μ':Mu):Prop:=∀ (K:W.Frag) (σ:St) (H:Hp),RelS K ρ μ σ H->RelM K μ H->RelS K ρ' μ' σ H/\RelM K μ' H/\qY (mask μ H) (mask μ' H)
theorem Wk.refl {ρ:Rho}{μ:Mu}:Wk ρ μ ρ μ:=fun _ _ _ h1 h2=>⟨h1,h2,qY.refl _⟩
theorem Wk.trans {ρ ρ1 ρ2:Rho}{μ μ1 μ2:Mu}(h:Wk ρ μ ρ1 μ1) (h':Wk ρ1 μ1 ρ2 μ2):Wk ρ μ ρ2 μ2:=fun K σ H a b=>by
 obtain ⟨a1,b1,s1⟩:=h K σ H a b
 obtain ⟨a2,b2,s2⟩:=h' K σ H a1 b1
 exact ⟨a2,b2,s1.trans s2⟩
def Lt (ρ' ρ:Rho):Prop:=ρ'.length=ρ.length/\∀ (i:Nat) (e:En),ρ'[i]?=some (some e)->ρ[i]?=some (some e)
theorem Wk.names {ρ ρ':Rho}{μ:Mu}(h:Lt ρ' ρ):Wk ρ μ ρ' μ:=fun _ _ _ h1 h2=>⟨⟨h.1.trans h1.len,fun i e q=>h1.get i e (h.2 i e q)⟩,h2,qY.refl _⟩
theorem Wk.drop {ρ:Rho}{μ1 μ2:Mu}{a:Addr}{o:MO}:Wk ρ (μ1++(a,o)::μ2) ρ (μ1++μ2):=fun _ _ _ h1 h2=>by
 obtain ⟨x,y,_⟩:=h2.drop
 exact ⟨h1.same y,x,y⟩
theorem Wk.drop1 {ρ:Rho}{μ2:Mu}{a:Addr}{o:MO}:Wk ρ ((a,o)::μ2) ρ μ2:=Wk.drop (μ1:=[])
theorem Lt.nil:Lt [] []:=⟨rfl,fun i e h=>h⟩
theorem Lt.keep {ρ' ρ:Rho}{e:Option En}(h:Lt ρ' ρ):Lt (e::ρ') (e::ρ):=⟨by simp [h.1],fun i x q=>by
 cases i with
 | zero=>simpa using q
 | succ i=>simp at q;simpa using h.2 i x q⟩
theorem Lt.refl (ρ:Rho):Lt ρ ρ:=⟨rfl,fun i e h=>h⟩
abbrev TEd:=Rho->Mu->(En->Mu->Prop)->Prop
abbrev TTd:=Rho->Mu->(Bool->Mu->Prop)->Prop
abbrev TAd:=Rho->Mu->(List En->Mu->Prop)->Prop
structure EndsD where
 nx:Rho->Mu->Prop
 rt:En->Mu->Prop
 bk:Rho->Mu->Prop:=fun _ _=>False
 ct:Rho->Mu->Prop:=fun _ _=>False
abbrev TSd:=EndsD->Rho->Mu->Prop
def Cl (K:W.Frag) (μ:Mu) (H:Hp) (Q0:En->Mu->Prop) (Q:VK):Prop:=∀ e μ' v H',Q0 e μ'->RelM K μ' H'->qY (mask μ H) (mask μ' H')->IsE K μ' H' v e->Q v H'
def ClT (K:W.Frag) (μ:Mu) (H:Hp) (Q0:Bool->Mu->Prop) (Q:Bool->Hp->Prop):Prop:=∀ b μ' H',Q0 b μ'->RelM K μ' H'->qY (mask μ H) (mask μ' H')->Q b H'
def ClA (K:W.Frag) (μ:Mu) (H:Hp) (Q0:List En->Mu->Prop) (Q:List V->Hp->Prop):Prop:=∀ es μ' vs H',Q0 es μ'->RelM K μ' H'->qY (mask μ H) (mask μ' H')->Paired (IsE K μ' H') vs es->Q vs H'
def ClR (K:W.Frag) (μ:Mu) (H:Hp) (Q0:Rho->Mu->Prop) (Q:St->Hp->Prop):Prop:=∀ ρ' μ' σ' H',Q0 ρ' μ'->RelS K ρ' μ' σ' H'->RelM K μ' H'->qY (mask μ H) (mask μ' H')->Q σ' H'
structure ClS (K:W.Frag) (μ:Mu) (H:Hp) (D0:EndsD) (D:Ends):Prop where
 nx:ClR K μ H D0.nx D.nx
 rt:Cl K μ H D0.rt D.rt
 bk:ClR K μ H D0.bk D.bk
 ct:ClR K μ H D0.ct D.ct
theorem Cl.same {K:W.Frag}{μ μ1:Mu}{H H1:Hp}{Q0:En->Mu->Prop}{Q:VK}(h:Cl K μ H Q0 Q) (s:qY (mask μ H) (mask μ1 H1)):Cl K μ1 H1 Q0 Q:=fun e μ' v H' a b c d=>h e μ' v H' a b (s.trans c) d
theorem ClT.same {K:W.Frag}{μ μ1:Mu}{H H1:Hp}{Q0:Bool->Mu->Prop}{Q:Bool->Hp->Prop}(h:ClT K μ H Q0 Q) (s:qY (mask μ H) (mask μ1 H1)):ClT K μ1 H1 Q0 Q:=fun e μ' H' a b c=>h e μ' H' a b (s.trans c)
theorem ClR.same {K:W.Frag}{μ μ1:Mu}{H H1:Hp}{Q0:Rho->Mu->Prop}{Q:St->Hp->Prop}(h:ClR K μ H Q0 Q) (s:qY (mask μ H) (mask μ1 H1)):ClR K μ1 H1 Q0 Q:=fun e μ' v H' a b c d=>h e μ' v H' a b c (s.trans d)
theorem ClS.same {K:W.Frag}{μ μ1:Mu}{H H1:Hp}{D0:EndsD}{D:Ends}(h:ClS K μ H D0 D) (s:qY (mask μ H) (mask μ1 H1)):ClS K μ1 H1 D0 D:=⟨h.nx.same s,h.rt.same s,h.bk.same s,h.ct.same s⟩
def up (K:W.Frag) (t:TEd):TE:=fun σ H Q=>∃ ρ μ Q0,RelS K ρ μ σ H/\RelM K μ H/\t ρ μ Q0/\Cl K μ H Q0 Q
def upT (K:W.Frag) (t:TTd):TT:=fun σ H Q=>∃ ρ μ Q0,RelS K ρ μ σ H/\RelM K μ H/\t ρ μ Q0/\ClT K μ H Q0 Q
def upA (K:W.Frag) (t:TAd):TA:=fun σ H Q=>∃ ρ μ Q0,RelS K ρ μ σ H/\RelM K μ H/\t ρ μ Q0/\ClA K μ H Q0 Q
def upS (K:W.Frag) (t:TSd):TS:=fun D σ H=>∃ ρ μ D0,RelS K ρ μ σ H/\RelM K μ H/\t D0 ρ μ/\ClS K μ H D0 D
def DE (K:W.Frag) (X:Cx) (e:Expr) (t:TEd):Prop:=PE X e (up K t)
def DT (K:W.Frag) (X:Cx) (e:Expr) (t:TTd):Prop:=PT X e (upT K t)
def DW (K:W.Frag) (X:Cx) (e:Expr) (t:TTd):Prop:=PW X e (upT K t)
def DA (K:W.Frag) (X:Cx) (es:List Expr) (t:TAd):Prop:=PA X es (upA K t)
def DS (K:W.Frag) (X:Cx) (st:Stmt) (t:TSd):Prop:=PS X st (upS K t)
def DSs (K:W.Frag) (X:Cx) (st:List Stmt) (t:TSd):Prop:=PSs X st (upS K t)
section
variable {X:Cx}{K:W.Frag}
theorem PE.mono {e:Expr}{t t':TE}(h:PE X e t) (f:∀ σ H Q,t' σ H Q->t σ H Q):PE X e t':=fun pins s σ H Q I q=>h pins s σ H Q I (f _ _ _ q)
theorem PT.mono {e:Expr}{t t':TT}(h:PT X e t) (f:∀ σ H Q,t' σ H Q->t σ H Q):PT X e t':=fun pins s σ H Q I q=>h pins s σ H Q I (f _ _ _ q)
theorem PW.mono {e:Expr}{t t':TT}(h:PW X e t) (f:∀ σ H Q,t' σ H Q->t σ H Q):PW X e t':=fun wh pins s σ H Q I q=>h wh pins s σ H Q I (f _ _ _ q)
theorem PA.mono {e:List Expr}{t t':TA}(h:PA X e t) (f:∀ σ H Q,t' σ H Q->t σ H Q):PA X e t':=fun p pins s σ H Q I q=>h p pins s σ H Q I (f _ _ _ q)
theorem PS.mono {e:Stmt}{t t':TS}(h:PS X e t) (f:∀ D σ H,t' D σ H->t D σ H):PS X e t':=fun pins s σ H D I q=>h pins s σ H D I (f _ _ _ q)
theorem PSs.mono {e:List Stmt}{t t':TS}(h:PSs X e t) (f:∀ D σ H,t' D σ H->t D σ H):PSs X e t':=fun pins s σ H D I q=>h pins s σ H D I (f _ _ _ q)
theorem OpR.mono {f:Value->Value->Sem Value}{r r':R2}(h:OpR X f r) (g:∀ x y H Q,r' x y H Q->r x y H Q):OpR X f r':=fun pins s σ H x y v u Q I a b c=>h pins s σ H x y v u Q I a b (g _ _ _ _ c)
theorem UnR.mono {f:Value->Sem Value}{r r':V->Hp->VK->Prop}(h:UnR X f r) (g:∀ x H Q,r' x H Q->r x H Q):UnR X f r':=fun pins s σ H x v Q I a c=>h pins s σ H x v Q I a (g _ _ _ c)
theorem yR.mono {f:Value}{r r':List V->Hp->VK->Prop}(h:yR X f r) (g:∀ x H Q,r' x H Q->r x H Q):yR X f r':=fun pins s σ H x v Q I a c=>h pins s σ H x v Q I a (g _ _ _ c)
theorem IxR.mono {r r':R2}(h:IxR X r) (g:∀ x y H Q,r' x y H Q->r x y H Q):IxR X r':=fun a b pins s σ H x y v u Q I p q c=>h a b pins s σ H x y v u Q I p q (g _ _ _ _ c)
theorem MtM.mono {id:String}{r r':V->List V->Hp->VK->Prop}(h:MtM X id r) (g:∀ x y H Q,r' x y H Q->r x y H Q):MtM X id r':=fun pins s σ H x xs v us Q I a b c=>h pins s σ H x xs v us Q I a b (g _ _ _ _ c)
theorem MtR.mono {id:String}{r r':V->List V->Hp->VK->Prop}(h:MtR X id r) (g:∀ x y H Q,r' x y H Q->r x y H Q):MtR X id r':=fun pins s σ H x xs v us Q I a b c=>h pins s σ H x xs v us Q I a b (g _ _ _ _ c)
def dVar (i:Nat):TEd:=fun ρ μ Q=>match ρ[i]? with
 | some (some e)=>Q e μ
 | _=>False
def dC (x:PyData):TEd:=fun _ μ Q=>Q (.d x) μ
theorem dv (i:Nat) {x:Str}{pos:Pos}(hN:X.N[i]?=some x:=by rfl) (hv:Vis X.env.scope x:=by first | exact Or.inl rfl | exact Or.inr (Or.inl rfl) | exact Or.inr (Or.inr rfl)) (hd:(x == ("__debug__" : Str))=false:=by decide)
  (hcd:(x == ("__classdict__" : Str))=false:=by decide):DE K X (.Name x pos) (dVar i):=by
 refine PE.mono (qgh hN hv hd hcd) fun σ H Q hq9=>?_
 obtain ⟨ρ,μ,Q0,hS,hM,h,cl⟩:=hq9
 unfold dVar at h
 split at h
 ·rename_i e he
  obtain ⟨v,e1,e2⟩:=hS.get i e he
  exact ⟨v,e1,cl e μ v H h hM (qY.refl _) e2⟩
 ·exact h.elim
theorem qK {i:Int}{j pos}:DE K X (.Constant (.int i) j pos) (dC (.int i)):=PE.mono jt fun σ H Q ⟨ρ,μ,Q0,hS,hM,h,cl⟩=>cl _ μ (.int i) H h hM (qY.refl _) (.int i)
theorem qkm {b:Bool}{j pos}:DE K X (.Constant (.bool b) j pos) (dC (.bool b)):=PE.mono pe_bl fun σ H Q ⟨ρ,μ,Q0,hS,hM,h,cl⟩=>cl _ μ (.bl b) H h hM (qY.refl _) (.bl b)
theorem up2 {σ:St}{H:Hp}{ta tb:TEd}{R:V->V->Hp->Prop}{ρ:Rho}{μ:Mu}{R0:En->En->Mu->Prop}(hS:RelS K ρ μ σ H) (hM:RelM K μ H) (h:ta ρ μ fun x μ1=>tb ρ μ1 fun y μ2=>R0 x y μ2)
  (f:∀ x y μ2 v u H2,R0 x y μ2->RelM K μ2 H2->qY (mask μ H) (mask μ2 H2)->IsE K μ2 H2 v x->IsE K μ2 H2 u y->R v u H2):up K ta σ H fun v H1=>up K tb σ H1 fun u H2=>R v u H2:=by
 refine ⟨ρ,μ,_,hS,hM,h,fun x μ1 v H1 q1 M1 s1 i1=>⟨ρ,μ1,_,hS.same s1,M1,q1,fun y μ2 u H2 q2 M2 s2 i2=>?_⟩⟩
 exact f x y μ2 v u H2 q2 M2 (s1.trans s2) (i1.same s2) i2
abbrev R2d:=En->En->Mu->(En->Mu->Prop)->Prop
abbrev R1d:=En->Mu->(En->Mu->Prop)->Prop
abbrev RAd:=List En->Mu->(En->Mu->Prop)->Prop
def upR (K:W.Frag) (r:R2d):R2:=fun x y H Q=>∃ μ e e' Q0,RelM K μ H/\IsE K μ H x e/\IsE K μ H y e'/\r e e' μ Q0/\Cl K μ H Q0 Q
def upU (K:W.Frag) (r:R1d):V->Hp->VK->Prop:=fun x H Q=>∃ μ e Q0,RelM K μ H/\IsE K μ H x e/\r e μ Q0/\Cl K μ H Q0 Q
def upC (K:W.Frag) (r:RAd):List V->Hp->VK->Prop:=fun xs H Q=>∃ μ es Q0,RelM K μ H/\Paired (IsE K μ H) xs es/\r es μ Q0/\Cl K μ H Q0 Q
variable {a b c:Expr}{ta tb tc:TEd}{pos:Pos}
def dOp (r:R2d) (ta tb:TEd):TEd:=fun ρ μ Q=>ta ρ μ fun x μ1=>tb ρ μ1 fun y μ2=>r x y μ2 Q
def dUn (r:R1d) (ta:TEd):TEd:=fun ρ μ Q=>ta ρ μ fun x μ1=>r x μ1 Q
theorem qg0 {r:R2d}{σ:St}{H:Hp}{Q:VK}(h:up K (dOp r ta tb) σ H Q):tOp (upR K r) (up K ta) (up K tb) σ H Q:=by
 obtain ⟨ρ,μ,Q0,hS,hM,h,cl⟩:=h
 exact up2 hS hM h fun x y μ2 v u H2 q M2 s2 i1 i2=>⟨μ2,x,y,Q0,M2,i1,i2,q,cl.same s2⟩
theorem yO {op:Operator}{r:R2d}(ho:OpR X (binaryOp op) (upR K r)) (ha:DE K X a ta) (hb:DE K X b tb):DE K X (.BinOp a op b pos) (dOp r ta tb):=PE.mono (ZV ho ha hb) fun _ _ _=>qg0
theorem qaR {op:CmpOp}{r:R2d}(ho:OpR X (compareOp op) (upR K r)) (ha:DE K X a ta) (hb:DE K X b tb) (hm:behindInMarks op b=false):DE K X (.Compare a [op] [b] pos) (dOp r ta tb):=PE.mono (qhy ho ha hb hm) fun _ _ _=>qg0
def qik (t:TEd):TTd:=fun ρ μ Q=>t ρ μ fun e μ1=>match e with
 | .d (.bool k)=>Q k μ1
 | _=>False
theorem qgY {t:TEd}{σ:St}{H:Hp}{Q:Bool->Hp->Prop}(h:upT K (qik t) σ H Q):up K t σ H fun x H1=>∃ k,x = .bl k/\Q k H1:=by
 obtain ⟨ρ,μ,Q0,hS,hM,h,cl⟩:=h
 refine ⟨ρ,μ,_,hS,hM,h,fun e μ1 v H1 q M1 s1 i1=>?_⟩
 split at q
 ·cases i1
  exact ⟨_,rfl,cl _ μ1 H1 q M1 s1⟩
 ·exact q.elim
theorem yo {op:CmpOp}{r:R2d}(ho:OpR X (compareOp op) (upR K r)) (ha:DE K X a ta) (hb:DE K X b tb) (hm:behindInMarks op b=false):DT K X (.Compare a [op] [b] pos) (qik (dOp r ta tb)):=by
 refine PT.mono (qc1 ho ha hb hm) fun σ H Q h=>?_
 obtain ⟨ρ,μ,Q0,hS,hM,h,cl⟩:=h
 refine up2 hS hM h fun x y μ2 v u H2 q M2 s2 i1 i2=>⟨μ2,x,y,_,M2,i1,i2,q,fun e μ3 w H3 q3 M3 s3 i3=>?_⟩
 split at q3
 ·cases i3
  exact ⟨_,rfl,cl _ μ3 H3 q3 M3 (s2.trans s3)⟩
 ·exact q3.elim
theorem qei {t:TEd}(h:DE K X a t) (he:∀ whole,isTrue a X.env whole=(do let v <- whole;standAt a.pos;holding [v] (truthy v)):=by intro _;rfl):DT K X a (qik t):=PT.mono (qji h he) fun _ _ _=>qgY
theorem qgB {op:UnaryOp}{r:R1d}(ho:UnR X (unaryOp op) (upU K r)) (ha:DE K X a ta):DE K X (.UnaryOp op a pos) (dUn r ta):=by
 refine PE.mono (pe_un ho ha) fun σ H Q hq9=>?_
 obtain ⟨ρ,μ,Q0,hS,hM,h,cl⟩:=hq9
 exact ⟨ρ,μ,_,hS,hM,h,fun e μ1 v H1 q M1 s1 i1=>⟨μ1,e,Q0,M1,i1,q,cl.same s1⟩⟩
def rdI (C:Int->Int->Prop) (g:Int->Int->PyData):R2d:=fun x y μ Q=>match x,y with
 | .d (.int i),.d (.int j)=>C i j/\Q (.d (g i j)) μ
 | _,_=>False
def qe4 (g:Int->Int->PyData):R2d:=fun x y μ Q=>match x,y with
 | .d (.int i),.d (.int j)=>Q (.d (g i j)) μ
 | _,_=>False
def rdU (g:Int->PyData):R1d:=fun x μ Q=>match x with
 | .d (.int i)=>Q (.d (g i)) μ
 | _=>False
theorem qeS {C:Int->Int->Prop}{g:Int->Int->Int}{x y:V}{H:Hp}{Q:VK}(h:upR K (rdI C fun i j=>.int (g i j)) x y H Q):rI C (fun i j=>.int (g i j)) x y H Q:=by
 obtain ⟨μ,e,e',Q0,M,i1,i2,q,cl⟩:=h
 unfold rdI at q
 split at q
 ·cases i1;cases i2
  exact ⟨_,_,rfl,rfl,q.1,cl _ μ _ H q.2 M (qY.refl _) (.int _)⟩
 ·exact q.elim
theorem qf0 {g:Int->Int->Int}{x y:V}{H:Hp}{Q:VK}(h:upR K (qe4 fun i j=>.int (g i j)) x y H Q):rI0 (fun i j=>.int (g i j)) x y H Q:=by
 obtain ⟨μ,e,e',Q0,M,i1,i2,q,cl⟩:=h
 unfold qe4 at q
 split at q
 ·cases i1;cases i2
  exact ⟨_,_,rfl,rfl,cl _ μ _ H q M (qY.refl _) (.int _)⟩
 ·exact q.elim
theorem qcw {g:Int->Int->Bool}{x y:V}{H:Hp}{Q:VK}(h:upR K (qe4 fun i j=>.bool (g i j)) x y H Q):rI0 (fun i j=>.bl (g i j)) x y H Q:=by
 obtain ⟨μ,e,e',Q0,M,i1,i2,q,cl⟩:=h
 unfold qe4 at q
 split at q
 ·cases i1;cases i2
  exact ⟨_,_,rfl,rfl,cl _ μ _ H q M (qY.refl _) (.bl _)⟩
 ·exact q.elim
theorem Ja:OpR X (binaryOp .Add) (upR K (qe4 fun i j=>.int (i+j))):=qdi.mono fun _ _ _ _=>qf0
theorem jN:OpR X (binaryOp .Sub) (upR K (qe4 fun i j=>.int (i - j))):=qjx.mono fun _ _ _ _=>qf0
theorem y9:OpR X (binaryOp .Mult) (upR K (rdI qeH fun i j=>.int (i * j))):=qaC.mono fun _ _ _ _=>qeS
theorem qaO:OpR X (binaryOp .FloorDiv) (upR K (rdI qfX fun i j=>.int (i.fdiv j))):=qfj.mono fun _ _ _ _=>qeS
theorem qek:OpR X (binaryOp .Mod) (upR K (rdI (fun _ j=>0<j) fun i j=>.int (i % j))):=qbl.mono fun _ _ _ _=>qeS
theorem JU:OpR X (binaryOp .Pow) (upR K (rdI CPow fun i j=>.int (i ^ j.toNat))):=qjy.mono fun _ _ _ _=>qeS
theorem qel:OpR X (compareOp .Lt) (upR K (qe4 fun i j=>.bool (decide (i<j)))):=op_lt.mono fun _ _ _ _=>qcw
theorem qkd:OpR X (compareOp .LtE) (upR K (qe4 fun i j=>.bool (decide (i<=j)))):=op_le.mono fun _ _ _ _=>qcw
theorem qfH:OpR X (compareOp .Gt) (upR K (qe4 fun i j=>.bool (decide (j<i)))):=qjB.mono fun _ _ _ _=>qcw
theorem JT:UnR X (unaryOp .USub) (upU K (rdU fun i=>.int (-i))):=qiM.mono fun x H Q h=>by
 obtain ⟨μ,e,Q0,M,i1,q,cl⟩:=h
 unfold rdU at q
 split at q
 ·cases i1
  exact ⟨_,rfl,cl _ μ _ H q M (qY.refl _) (.int _)⟩
 ·exact q.elim
inductive LstOf (μ:Mu):En->List PyData->Prop
 | d (ds:List PyData):LstOf μ (.d (.list ds)) ds
 | m {a:Addr}{ds:List PyData}(h:(a,.lst ds)∈μ):LstOf μ (.m a) ds
theorem LstOf.get {μ:Mu}{e:En}{ds:List PyData}{H:Hp}{v:V}(h:LstOf μ e ds) (M:RelM K μ H) (i:IsE K μ H v e):∃ p xs,v = .ref p/\SqL K H p xs/\IsAll K (mask μ H) xs ds:=by
 cases h with
 | d ds =>
  cases i with
  | lst h hs=>exact ⟨_,_,rfl,qY.seq ym h,hs⟩
 | m h =>
  obtain ⟨xs,e,hs⟩:=M.ob _ _ h
  exact ⟨_,xs,i,SqL.of e,hs⟩
inductive DatOf (μ:Mu):En->PyData->Prop
 | d (x:PyData):DatOf μ (.d x) x
 | m {a:Addr}{ds:List PyData}(h:(a,.lst ds)∈μ):DatOf μ (.m a) (.list ds)
theorem DatOf.is {μ:Mu}{e:En}{x:PyData}{H:Hp}{v:V}(h:DatOf μ e x) (M:RelM K μ H) (i:IsE K μ H v e):Is K H v x:=by
 cases h with
 | d x=>exact Is.same ym i
 | m h =>
  obtain ⟨xs,e,hs⟩:=M.ob _ _ h
  have i:v=_:=i
  subst i
  exact .lst (SqL.of e) (IsAll.same ym hs)
def qkK (neg:Bool):R2d:=fun x y μ Q=>match x,y with
 | .d (.int i),.d (.int j)=>Q (.d (.bool (if neg then !decide (i=j) else decide (i=j)))) μ
 | _,_=>∃ d d',DatOf μ x d/\DatOf μ y d'/\SeqAt.shaped d=true/\SeqAt.shaped d'=true/\Q (.d (.bool (if neg then !PyData.eqv d d' else PyData.eqv d d'))) μ
theorem qh9 (i j:Int):PyData.eqv (.int i) (.int j)=decide (i=j):=by
 by_cases h:i=j <;> simp [PyData.eqv,h]
theorem qbh {neg:Bool}{x y:En}{μ:Mu}{Q:En->Mu->Prop}(h:qkK neg x y μ Q):∃ d d',DatOf μ x d/\DatOf μ y d'/\SeqAt.shaped d=true/\SeqAt.shaped d'=true/\Q (.d (.bool (if neg then !PyData.eqv d d' else PyData.eqv d d'))) μ:=by
 unfold qkK at h
 split at h
 ·exact ⟨_,_,.d _,.d _,rfl,rfl,by rw [qh9];exact h⟩
 ·exact h
theorem YM (hu:X.A.units+64<cLine) (hK:X.K=K:=by rfl):OpR X (compareOp .Eq) (upR K (qkK false)):=by
 subst hK
 refine (qjC hu).mono fun x y H Q h=>?_
 obtain ⟨μ,e,e',Q0,M,i1,i2,q,cl⟩:=h
 obtain ⟨d,d',h1,h2,h3,h4,q⟩:=qbh q
 exact ⟨d,d',h1.is M i1,h2.is M i2,h3,h4,cl _ μ _ H q M (qY.refl _) (.bl _)⟩
theorem ZA (hu:X.A.units+64<cLine) (hK:X.K=K:=by rfl):OpR X (compareOp .NotEq) (upR K (qkK true)):=by
 subst hK
 refine (qjz hu).mono fun x y H Q h=>?_
 obtain ⟨μ,e,e',Q0,M,i1,i2,q,cl⟩:=h
 obtain ⟨d,d',h1,h2,h3,h4,q⟩:=qbh q
 exact ⟨d,d',h1.is M i1,h2.is M i2,h3,h4,cl _ μ _ H q M (qY.refl _) (.bl _)⟩
def dAnd (t u:TTd):TTd:=fun ρ μ Q=>t ρ μ fun k μ1=>if k=true then u ρ μ1 Q else Q false μ1
def dOr (t u:TTd):TTd:=fun ρ μ Q=>t ρ μ fun k μ1=>if k=true then Q true μ1 else u ρ μ1 Q
def dNot (t:TTd):TTd:=fun ρ μ Q=>t ρ μ fun k μ1=>Q (!k) μ1
variable {tA tB:TTd}{yD:List Expr}
theorem YC (ha:DT K X a tA):DW K X (.BoolOp .And [a] pos) tA:=qhl ha
theorem qgw (ha:DT K X a tA):DW K X (.BoolOp .Or [a] pos) tA:=qjf ha
theorem Z8 (ha:DT K X a tA) (hb:DW K X (.BoolOp .And (b::yD) pos) tB):DW K X (.BoolOp .And (a::b::yD) pos) (dAnd tA tB):=by
 refine PW.mono (qjg ha hb) fun σ H Q hq9=>?_
 obtain ⟨ρ,μ,Q0,hS,hM,h,cl⟩:=hq9
 refine ⟨ρ,μ,_,hS,hM,h,fun k μ1 H1 q M1 s1=>?_⟩
 cases k with
 | true=>exact ⟨ρ,μ1,Q0,hS.same s1,M1,by simpa using q,cl.same s1⟩
 | false=>exact cl _ μ1 H1 (by simpa using q) M1 s1
theorem qkb (ha:DT K X a tA) (hb:DW K X (.BoolOp .Or (b::yD) pos) tB):DW K X (.BoolOp .Or (a::b::yD) pos) (dOr tA tB):=by
 refine PW.mono (pw_or ha hb) fun σ H Q hq9=>?_
 obtain ⟨ρ,μ,Q0,hS,hM,h,cl⟩:=hq9
 refine ⟨ρ,μ,_,hS,hM,h,fun k μ1 H1 q M1 s1=>?_⟩
 cases k with
 | false=>exact ⟨ρ,μ1,Q0,hS.same s1,M1,by simpa using q,cl.same s1⟩
 | true=>exact cl _ μ1 H1 (by simpa using q) M1 s1
theorem qib (h:DW K X a tA):DT K X a tA:=PW.pt h
theorem qkc (ha:DT K X a tA):DT K X (.UnaryOp .Not a pos) (dNot tA):=PT.mono (qjj ha) fun σ H Q ⟨ρ,μ,Q0,hS,hM,h,cl⟩=>⟨ρ,μ,_,hS,hM,h,fun k μ1 H1 q M1 s1=>cl _ μ1 H1 q M1 s1⟩
def dAndV (ta tb:TEd):TEd:=fun ρ μ Q=>ta ρ μ fun x μ1=>match x with
 | .d (.bool k)=>if k=true then tb ρ μ1 Q else Q (.d (.bool false)) μ1
 | _=>False
def dOrV (ta tb:TEd):TEd:=fun ρ μ Q=>ta ρ μ fun x μ1=>match x with
 | .d (.bool k)=>if k=true then Q (.d (.bool true)) μ1 else tb ρ μ1 Q
 | _=>False
theorem qki {op} {t:TEd}(h:DE K X a t):DE K X (.BoolOp op [a] pos) t:=qjt h
theorem d_and (ha:DE K X a ta) (hb:DE K X (.BoolOp .And (b::yD) pos) tb):DE K X (.BoolOp .And (a::b::yD) pos) (dAndV ta tb):=by
 refine PE.mono (qjv ha hb) fun σ H Q hq9=>?_
 obtain ⟨ρ,μ,Q0,hS,hM,h,cl⟩:=hq9
 refine ⟨ρ,μ,_,hS,hM,h,fun e μ1 v H1 q M1 s1 i1=>?_⟩
 split at q
 ·rename_i k
  cases i1
  refine ⟨k,rfl,?_⟩
  cases k with
  | true=>exact qbs ⟨ρ,μ1,Q0,hS.same s1,M1,by simpa using q,cl.same s1⟩
  | false=>exact qaI (cl (.d (.bool false)) μ1 _ H1 (by simpa using q) M1 s1 (Is.bl _))
 ·exact q.elim
theorem d_or (ha:DE K X a ta) (hb:DE K X (.BoolOp .Or (b::yD) pos) tb):DE K X (.BoolOp .Or (a::b::yD) pos) (dOrV ta tb):=by
 refine PE.mono (pe_or ha hb) fun σ H Q hq9=>?_
 obtain ⟨ρ,μ,Q0,hS,hM,h,cl⟩:=hq9
 refine ⟨ρ,μ,_,hS,hM,h,fun e μ1 v H1 q M1 s1 i1=>?_⟩
 split at q
 ·rename_i k
  cases i1
  refine ⟨k,rfl,?_⟩
  cases k with
  | false=>exact qaI ⟨ρ,μ1,Q0,hS.same s1,M1,by simpa using q,cl.same s1⟩
  | true=>exact qbs (cl (.d (.bool true)) μ1 _ H1 (by simpa using q) M1 s1 (Is.bl _))
 ·exact q.elim
def dIf (t:TTd) (ta tb:TEd):TEd:=fun ρ μ Q=>t ρ μ fun k μ1=>if k=true then ta ρ μ1 Q else tb ρ μ1 Q
theorem qii (hc:DT K X c tA) (ha:DE K X a ta) (hb:DE K X b tb):DE K X (.IfExp c a b pos) (dIf tA ta tb):=by
 refine PE.mono (qff hc ha hb) fun σ H Q hq9=>?_
 obtain ⟨ρ,μ,Q0,hS,hM,h,cl⟩:=hq9
 refine ⟨ρ,μ,_,hS,hM,h,fun k μ1 H1 q M1 s1=>?_⟩
 cases k with
 | true=>exact qbs ⟨ρ,μ1,Q0,hS.same s1,M1,by simpa using q,cl.same s1⟩
 | false=>exact qaI ⟨ρ,μ1,Q0,hS.same s1,M1,by simpa using q,cl.same s1⟩
variable {es:List Expr}{tr:TAd}
def dNil:TAd:=fun _ μ Q=>Q [] μ
def dCons (ta:TEd) (tr:TAd):TAd:=fun ρ μ Q=>ta ρ μ fun x μ1=>tr ρ μ1 fun xs μ2=>Q (x::xs) μ2
theorem qr:DA K X [] dNil:=PA.mono qgi fun σ H Q ⟨ρ,μ,Q0,hS,hM,h,cl⟩=>cl _ μ _ H h hM (qY.refl _) .nil
theorem qf (ha:DE K X a ta) (hr:DA K X es tr) (hs:starEach (a::es) X.env=(false,eval a X.env)::starEach es X.env:=by rfl):DA K X (a::es) (dCons ta tr):=by
 refine PA.mono (qaB ha hr hs) fun σ H Q hq9=>?_
 obtain ⟨ρ,μ,Q0,hS,hM,h,cl⟩:=hq9
 refine ⟨ρ,μ,_,hS,hM,h,fun e μ1 v H1 q M1 s1 i1=>⟨ρ,μ1,_,hS.same s1,M1,q,fun es' μ2 vs H2 q2 M2 s2 i2=>?_⟩⟩
 exact cl _ μ2 _ H2 q2 M2 (s1.trans s2) (.cons (i1.same s2) i2)
def qix:List En->Option (List PyData)
 | []=>some []
 | .d x::r=>(qix r).map (x::·)
 | _::_=>none
theorem ZH {μ:Mu}{H:Hp}:∀ {es:List En}{ds:List PyData}{vs:List V},qix es=some ds->Paired (IsE K μ H) vs es->IsAll K (mask μ H) vs ds
 | [],_,_,e,.nil=>by cases e;exact .nil
 | .d x::r,_,_,e,.cons h t=>by
  simp only [qix] at e
  cases q:qix r with
  | none=>rw [q] at e;cases e
  | some ds'=>rw [q] at e;cases e;exact .cons h (ZH q t)
 | .m a::r,_,_,e,_=>by cases e
 | .x a::r,_,_,e,_=>by cases e
 | .ty a::r,_,_,e,_=>by cases e
def dTup (tr:TAd):TEd:=fun ρ μ Q=>tr ρ μ fun es μ1=>match qix es with
 | some ds=>ds.length<=4000/\Q (.d (.tuple ds)) μ1
 | none=>False
def dLst (tr:TAd):TEd:=fun ρ μ Q=>tr ρ μ fun es μ1=>match qix es with
 | some ds=>ds.length<=4000/\Q (.d (.list ds)) μ1
 | none=>False
theorem YF {x1} (h:DA K X es tr):DE K X (.Tuple es x1 pos) (dTup tr):=by
 refine PE.mono (qjr h) fun σ H Q hq9=>?_
 obtain ⟨ρ,μ,Q0,hS,hM,h,cl⟩:=hq9
 refine ⟨ρ,μ,_,hS,hM,h,fun es' μ1 vs H1 q M1 s1 i1=>?_⟩
 split at q
 ·rename_i ds e
  have hA:=ZH e i1
  refine ⟨yf (yZ (by rw [hA.len];exact q.1)),fun p hp=>?_⟩
  obtain ⟨M2,s2,hn⟩:=M1.laid (o:=.tup vs) hp
  exact cl _ μ1 _ _ q.2 M2 (s1.trans s2) (.tup (SqT.of (by rw [q9 hn];exact qM)) (IsAll.same s2 hA))
 ·exact q.elim
theorem qaP (h:DA K X es tr):DE K X (.List es pos) (dLst tr):=by
 refine PE.mono (qdd h) fun σ H Q hq9=>?_
 obtain ⟨ρ,μ,Q0,hS,hM,h,cl⟩:=hq9
 refine ⟨ρ,μ,_,hS,hM,h,fun es' μ1 vs H1 q M1 s1 i1=>?_⟩
 split at q
 ·rename_i ds e
  have hA:=ZH e i1
  refine ⟨yf (yZ (by rw [hA.len];exact q.1)),fun p hp=>?_⟩
  obtain ⟨M2,s2,hn⟩:=M1.laid (o:=.lst vs) hp
  exact cl _ μ1 _ _ q.2 M2 (s1.trans s2) (.lst (SqL.of (by rw [q9 hn];exact qM)) (IsAll.same s2 hA))
 ·exact q.elim
def dLstM (tr:TAd):TEd:=fun ρ μ Q=>tr ρ μ fun es μ1=>match qix es with
 | some ds=>ds.length<=4000/\∀ p,p∉μ1.map Prod.fst->Q (.m p) ((p,.lst ds)::μ1)
 | none=>False
theorem qer (h:DA K X es tr):DE K X (.List es pos) (dLstM tr):=by
 refine PE.mono (qdd h) fun σ H Q hq9=>?_
 obtain ⟨ρ,μ,Q0,hS,hM,h,cl⟩:=hq9
 refine ⟨ρ,μ,_,hS,hM,h,fun es' μ1 vs H1 q M1 s1 i1=>?_⟩
 split at q
 ·rename_i ds e
  have hA:=ZH e i1
  refine ⟨yf (yZ (by rw [hA.len];exact q.1)),fun p hp=>?_⟩
  obtain ⟨_,_,hn⟩:=M1.laid (o:=.lst vs) hp
  obtain ⟨M2,s2⟩:=M1.new (u:=.lst vs) (o:=.lst ds) hp fun ss=>⟨vs,qM,IsAll.same ss hA⟩
  exact cl _ _ _ _ (q.2 p hn) M2 (s1.trans s2) rfl
 ·exact q.elim
end
theorem IsAll.atI {K:W.Frag}{H:Hp}{vs:List V}{ds:List PyData}{i:Int}{z:PyData}(h:IsAll K H vs ds) (e:L2.atI ds i=some z):∃ v,L2.atI vs i=some v/\Is K H v z:=by
 unfold L2.atI at *
 rw [h.len]
 cases q:ixN ds.length i with
 | none=>rw [q] at e;cases e
 | some j =>
  rw [q] at e
  obtain ⟨v,e1,e2⟩:=h.get' (i:=j) e
  exact ⟨v,e1,e2⟩
section
variable {X:Cx}{K:W.Frag}{a b c:Expr}{ta tb tc:TEd}{tA tB:TTd}{pos:Pos}{es:List Expr}{tr:TAd}
def qi9:R2d:=fun x y μ Q=>match y with
 | .d (.int i)=>∃ ds z,LstOf μ x ds/\atI ds i=some z/\Q (.d z) μ
 | _=>False
def qi7:R2d:=fun x y μ Q=>match x,y with
 | .d (.tuple ds),.d (.int i)=>∃ z,atI ds i=some z/\Q (.d z) μ
 | _,_=>False
def qi8:R2d:=fun x y μ Q=>match x,y with
 | .m p,.d (.int i)=>∃ as z,(p,.refs as)∈μ/\atI as i=some z/\Q (.m z) μ
 | _,_=>False
theorem qia (hK:X.K=K:=by rfl):IxR X (upR K qi9):=by
 subst hK
 refine Ji.mono fun x y H Q h=>?_
 obtain ⟨μ,e,e',Q0,M,i1,i2,q,cl⟩:=h
 unfold qi9 at q
 split at q
 ·obtain ⟨ds,z,h1,h2,q⟩:=q
  cases i2
  obtain ⟨p,xs,rfl,h3,h4⟩:=h1.get M i1
  obtain ⟨v,e1,e2⟩:=h4.atI h2
  exact ⟨p,xs,_,v,rfl,rfl,h3,e1,cl _ μ v H q M (qY.refl _) e2⟩
 ·exact q.elim
theorem qka (hK:X.K=K:=by rfl):IxR X (upR K qi7):=by
 subst hK
 refine qjZ.mono fun x y H Q h=>?_
 obtain ⟨μ,e,e',Q0,M,i1,i2,q,cl⟩:=h
 unfold qi7 at q
 split at q
 ·obtain ⟨z,h2,q⟩:=q
  cases i2
  have i1':=Is.same ym (show Is X.K (mask μ H) x _ from i1)
  cases i1 with
  | tup h3 h4 =>
   obtain ⟨v,e1,e2⟩:=h4.atI h2
   cases i1' with
   | tup h5 h6 =>
    refine ⟨_,_,_,v,rfl,rfl,?_,e1,cl _ μ v H q M (qY.refl _) e2⟩
    rcases h3 with (e | ⟨o,e⟩) | e
    ·exact .inl (.inl (ym _ _ e))
    ·exact .inl (.inr ⟨o,ym _ _ e⟩)
    ·exact .inr e
 ·exact q.elim
theorem qiu {α β:Type}(f:α->β) (xs:List α) (i:Int):atI (xs.map f) i=(atI xs i).map f:=by
 unfold atI
 rw [List.length_map]
 cases ixN xs.length i with
 | none=>rfl
 | some j=>simp
theorem jh (hK:X.K=K:=by rfl):IxR X (upR K qi8):=by
 subst hK
 refine Ji.mono fun x y H Q h=>?_
 obtain ⟨μ,e,e',Q0,M,i1,i2,q,cl⟩:=h
 unfold qi8 at q
 split at q
 ·obtain ⟨as,z,h1,h2,q⟩:=q
  cases i2
  have i1:x=_:=i1
  subst i1
  have h3:=M.ob _ _ h1
  exact ⟨_,_,_,.ref z,rfl,rfl,SqL.of h3,by rw [qiu,h2];rfl,cl (.m z) μ _ H q M (qY.refl _) rfl⟩
 ·exact q.elim
theorem jP {r:R2d}(hr:IxR X (upR K r)) (ha:DE K X a ta) (hb:DE K X b tb) (hs:qeF b):DE K X (.Subscript a b pos) (dOp r ta tb):=PE.mono (qbZ hr ha hb hs) fun _ _ _=>qg0
def ZJ (xs:List PyData) (lo hi:Option Int):List PyData:=(xs.drop (HT.sIx xs.length 0 lo)).take (HT.sIx xs.length xs.length hi - HT.sIx xs.length 0 lo)
theorem IsAll.cut {H:Hp}{vs:List V}{ds:List PyData}{lo hi:Option Int}(h:IsAll K H vs ds):IsAll K H (qim vs lo hi) (ZJ ds lo hi):=by
 unfold qim ZJ
 rw [h.len]
 exact (h.drop _).take _
abbrev TOd:=Rho->Mu->(Option Int->Mu->Prop)->Prop
def upO (K:W.Frag) (t:TOd):TO:=fun σ H Q=>∃ ρ μ Q0,RelS K ρ μ σ H/\RelM K μ H/\t ρ μ Q0/\∀ o μ' H',Q0 o μ'->RelM K μ' H'->qY (mask μ H) (mask μ' H')->Q o H'
def DO (K:W.Frag) (X:Cx) (e:Option Expr) (t:TOd):Prop:=PO X e (upO K t)
theorem PO.mono {e:Option Expr}{t t':TO}(h:PO X e t) (f:∀ σ H Q,t' σ H Q->t σ H Q):PO X e t':=fun pins s σ H Q I q=>h pins s σ H Q I (f _ _ _ q)
def qil:TOd:=fun _ μ Q=>Q none μ
def dPart (t:TEd):TOd:=fun ρ μ Q=>t ρ μ fun x μ1=>match x with
 | .d (.int i)=>Q (some i) μ1
 | _=>False
theorem Zy:DO K X none qil:=PO.mono qhp fun σ H Q ⟨ρ,μ,Q0,hS,hM,h,cl⟩=>cl none μ H h hM (qY.refl _)
theorem Zx (h:DE K X a ta):DO K X (some a) (dPart ta):=PO.mono (qho h) fun σ H Q ⟨ρ,μ,Q0,hS,hM,h,cl⟩=>⟨ρ,μ,_,hS,hM,h,fun e μ1 v H1 q M1 s1 i1=>by
 split at q
 ·cases i1;exact ⟨_,rfl,cl _ μ1 H1 q M1 s1⟩
 ·exact q.elim⟩
def dSl (r:En->Option Int->Option Int->Mu->(En->Mu->Prop)->Prop) (te:TEd) (tl th:TOd):TEd:=fun ρ μ Q=>te ρ μ fun x μ1=>tl ρ μ1 fun l μ2=>th ρ μ2 fun u μ3=>r x l u μ3 Q
def rdSlL:En->Option Int->Option Int->Mu->(En->Mu->Prop)->Prop:=fun x l u μ Q=>∃ ds,LstOf μ x ds/\Q (.d (.list (ZJ ds l u))) μ
theorem ZB {lo hi:Option Expr}{p2:Pos}{tl th:TOd}(ha:DE K X a ta) (hl:DO K X lo tl) (hu:DO K X hi th) (hK:X.K=K:=by rfl):DE K X (.Subscript a (.Slice lo hi none p2) pos) (dSl rdSlL ta tl th):=by
 subst hK
 refine PE.mono (qfd qg7 ha hl hu) fun σ H Q hq9=>?_
 obtain ⟨ρ,μ,Q0,hS,hM,h,cl⟩:=hq9
 refine ⟨ρ,μ,_,hS,hM,h,fun e μ1 v H1 q1 M1 s1 i1=>⟨ρ,μ1,_,hS.same s1,M1,q1,fun l μ2 H2 q2 M2 s2=>⟨ρ,μ2,_,hS.same (s1.trans s2),M2,q2,fun u μ3 H3 q3 M3 s3=>?_⟩⟩⟩
 obtain ⟨ds,h1,q⟩:=q3
 have i3:=i1.same (s2.trans s3)
 obtain ⟨p,xs,rfl,h3,h4⟩:=h1.get M3 i3
 refine ⟨p,xs,rfl,h3,fun l hl=>?_⟩
 obtain ⟨M4,s4,hn⟩:=M3.laid (o:=.lst (qim xs _ _)) hl
 exact cl _ _ _ _ q M4 ((s1.trans s2).trans (s3.trans s4)) (.lst (SqL.of (by rw [q9 hn];exact qM)) (IsAll.same s4 h4.cut))
def dCB (r:RAd) (tr:TAd):TEd:=fun ρ μ Q=>tr ρ μ fun es μ1=>r es μ1 Q
theorem qiL {r:RAd}{σ:St}{H:Hp}{Q:VK}(h:up K (dCB r tr) σ H Q):tCB (upC K r) (upA K tr) σ H Q:=by
 obtain ⟨ρ,μ,Q0,hS,hM,h,cl⟩:=h
 exact ⟨ρ,μ,_,hS,hM,h,fun es μ1 vs H1 q M1 s1 i1=>⟨μ1,es,Q0,M1,i1,q,cl.same s1⟩⟩
theorem yB {id:String}{x:Str}{r:RAd}{e:Expr}{p:Pos}(hc:yR X (.builtin id) (upC K r)) (hg:Gl X x) (hm:X.mg x=none) (hv:bootBuiltins x=some (.builtin id)) (ha:DA K X (e::es) tr) (hn:x ≠ "__name__" := by decide) (hdb:(x == ("__debug__" : Str))=false:=by decide)
  (he:starEach (e::es) X.env=(false,eval e X.env)::starEach es X.env:=by rfl) (hpl:(backTo pos (starEach es X.env)).any (·.1)=false:=by rfl):DE K X (.Call (.Name x p) (e::es) [] pos) (dCB r tr):=PE.mono (qbj hc hg hm hv ha hn hdb he hpl) fun _ _ _=>qiL
theorem jv {T:String}{x:Str}{r:RAd}{e:Expr}{p:Pos}(hc:yR X (.type T) (upC K r)) (hg:Gl X x) (hm:X.mg x=none) (hv:bootBuiltins x=some (.type T)) (ha:DA K X (e::es) tr) (hn:x ≠ "__name__" := by decide) (hdb:(x == ("__debug__" : Str))=false:=by decide)
  (he:starEach (e::es) X.env=(false,eval e X.env)::starEach es X.env:=by rfl) (hpl:(backTo pos (starEach es X.env)).any (·.1)=false:=by rfl):DE K X (.Call (.Name x p) (e::es) [] pos) (dCB r tr):=PE.mono (qde hc hg hm hv ha hn hdb he hpl) fun _ _ _=>qiL
theorem Yq {μ:Mu}{H:Hp}{vs:List V}{e:En}(h:Paired (IsE K μ H) vs [e]):∃ v,vs=[v]/\IsE K μ H v e:=by
 cases h with | cons a b=>cases b;exact ⟨_,rfl,a⟩
theorem qfi {μ:Mu}{H:Hp}{vs:List V}{e e':En}(h:Paired (IsE K μ H) vs [e,e']):∃ v v',vs=[v,v']/\IsE K μ H v e/\IsE K μ H v' e':=by
 cases h with | cons a b=>cases b with | cons c d=>cases d;exact ⟨_,_,rfl,a,c⟩
def qjc:RAd:=fun es μ Q=>match es with
 | [.d (.int i)]=>Q (.d (.int (i.natAbs:Int))) μ
 | _=>False
theorem qbC:yR X (.builtin "abs") (upC K qjc):=qfO.mono fun xs H Q h=>by
 obtain ⟨μ,es,Q0,M,hp,q,cl⟩:=h
 unfold qjc at q
 split at q
 ·rename_i i
  obtain ⟨v,rfl,i1⟩:=Yq hp
  cases i1
  have e:(if i<0 then -i else i)=(i.natAbs:Int):=by split <;> omega
  exact ⟨_,rfl,by rw [e];exact cl _ μ _ H q M (qY.refl _) (.int _)⟩
 ·exact q.elim
def qkL (g:Int->Int->Int):RAd:=fun es μ Q=>match es with
 | [.d (.int i),.d (.int j)]=>Q (.d (.int (g i j))) μ
 | _=>False
theorem qeo (hc:X.calm=true):yR X (.builtin "max") (upC K (qkL fun i j=>if i<j then j else i)):=(qey hc).mono fun xs H Q h=>by
 obtain ⟨μ,es,Q0,M,hp,q,cl⟩:=h
 unfold qkL at q
 split at q
 ·obtain ⟨v,v',rfl,i1,i2⟩:=qfi hp
  cases i1;cases i2
  exact ⟨_,_,rfl,cl _ μ _ H q M (qY.refl _) (.int _)⟩
 ·exact q.elim
theorem qkf (hc:X.calm=true):yR X (.builtin "min") (upC K (qkL fun i j=>if j<i then j else i)):=(qew hc).mono fun xs H Q h=>by
 obtain ⟨μ,es,Q0,M,hp,q,cl⟩:=h
 unfold qkL at q
 split at q
 ·obtain ⟨v,v',rfl,i1,i2⟩:=qfi hp
  cases i1;cases i2
  exact ⟨_,_,rfl,cl _ μ _ H q M (qY.refl _) (.int _)⟩
 ·exact q.elim
inductive SeqOf (μ:Mu):En->List PyData->Prop
 | l {e:En}{ds:List PyData}(h:LstOf μ e ds):SeqOf μ e ds
 | t (ds:List PyData):SeqOf μ (.d (.tuple ds)) ds
theorem SeqOf.get {μ:Mu}{e:En}{ds:List PyData}{H:Hp}{v:V}(h:SeqOf μ e ds) (M:RelM K μ H) (i:IsE K μ H v e):∃ p xs,v = .ref p/\(SqL K H p xs\/SqT K H p xs)/\IsAll K (mask μ H) xs ds:=by
 cases h with
 | l h=>obtain ⟨p,xs,h1,h2,h3⟩:=h.get M i;exact ⟨p,xs,h1,.inl h2,h3⟩
 | t ds =>
  cases i with
  | tup h hs =>
   refine ⟨_,_,rfl,.inr ?_,hs⟩
   rcases h with (e | ⟨o,e⟩) | e
   ·exact .inl (.inl (ym _ _ e))
   ·exact .inl (.inr ⟨o,ym _ _ e⟩)
   ·exact .inr e
def qi6:RAd:=fun es μ Q=>match es with
 | [e]=>∃ ds,SeqOf μ e ds/\Q (.d (.int (ds.length:Int))) μ
 | _=>False
theorem Y6 (hK:X.K=K:=by rfl):yR X (.builtin "len") (upC K qi6):=by
 subst hK
 refine qaj.mono fun xs H Q h=>?_
 obtain ⟨μ,es,Q0,M,hp,q,cl⟩:=h
 unfold qi6 at q
 split at q
 ·obtain ⟨v,rfl,i1⟩:=Yq hp
  obtain ⟨ds,h1,q⟩:=q
  obtain ⟨p,ys,rfl,h2,h3⟩:=h1.get M i1
  exact ⟨p,ys,rfl,h2,by rw [h3.len];exact cl _ μ _ H q M (qY.refl _) (.int _)⟩
 ·exact q.elim
def qgd:RAd:=fun es μ Q=>match es with
 | [e]=>∃ ds,SeqOf μ e ds/\Q (.d (.list ds)) μ
 | _=>False
theorem JF (hK:X.K=K:=by rfl):yR X (.type "list") (upC K qgd):=by
 subst hK
 refine qai.mono fun xs H Q h=>?_
 obtain ⟨μ,es,Q0,M,hp,q,cl⟩:=h
 unfold qgd at q
 split at q
 ·obtain ⟨v,rfl,i1⟩:=Yq hp
  obtain ⟨ds,h1,q⟩:=q
  obtain ⟨p,ys,rfl,h2,h3⟩:=h1.get M i1
  refine ⟨p,ys,rfl,h2,fun l hl=>?_⟩
  obtain ⟨M4,s4,hn⟩:=M.laid (o:=.lst ys) hl
  exact cl _ μ _ _ q M4 s4 (.lst (SqL.of (by rw [q9 hn];exact qM)) (IsAll.same s4 h3))
 ·exact q.elim
def qjb (f:List Bool->Bool):RAd:=fun es μ Q=>match es with
 | [e]=>∃ bs,LstOf μ e (bs.map PyData.bool)/\Q (.d (.bool (f bs))) μ
 | _=>False
theorem qkg (hc:X.calm=true) (hK:X.K=K:=by rfl):yR X (.builtin "all") (upC K (qjb fun bs=>bs.all id)):=by
 subst hK
 refine (qfN hc).mono fun xs H Q h=>?_
 obtain ⟨μ,es,Q0,M,hp,q,cl⟩:=h
 unfold qjb at q
 split at q
 ·obtain ⟨v,rfl,i1⟩:=Yq hp
  obtain ⟨bs,h1,q⟩:=q
  obtain ⟨p,ys,rfl,h2,h3⟩:=h1.get M i1
  rw [h3.bools_of] at h2
  exact ⟨p,bs,rfl,h2,cl _ μ _ H q M (qY.refl _) (.bl _)⟩
 ·exact q.elim
abbrev SpD:=List En->Mu->(En->Mu->Prop)->Prop
def qZ (K:W.Frag) (s:SpD):Sp:=fun vs H Q _=>∃ μ es Q0,RelM K μ H/\Paired (IsE K μ H) vs es/\s es μ Q0/\Cl K μ H Q0 Q
theorem yi {CX:CXT}{k:Nat}{x:Str}{ps:List Str}{s:SpD}{e:Expr}{p:Pos}(O:Own X.prog X.w X.K X.mg X.base CX k x ps (qZ K s)) (hX:NoX CX) (hr:Room k X.A) (hg:Gl X x) (ha:DA K X (e::es) tr) (hdb:(x == ("__debug__" : Str))=false:=by decide)
  (he:starEach (e::es) X.env=(false,eval e X.env)::starEach es X.env:=by rfl) (hpl:(backTo pos (starEach es X.env)).any (·.1)=false:=by rfl):DE K X (.Call (.Name x p) (e::es) [] pos) (dCB s tr):=by
 refine PE.mono (qjs O hX hr hg ha hdb he hpl) fun σ H Q hq9=>?_
 obtain ⟨ρ,μ,Q0,hS,hM,h,cl⟩:=hq9
 exact ⟨ρ,μ,_,hS,hM,h,fun es μ1 vs H1 q M1 s1 i1=>⟨μ1,es,Q0,M1,by simpa using i1,q,cl.same s1⟩⟩
def noL:PyData->Bool
 | .list _=>false
 | .dict _=>false
 | .tuple ds=>ds.all fun | .list _=>false | .dict _=>false | .tuple _=>false | _=>true
 | _=>true
theorem IsAll.flat {H H':Hp}:∀ {vs:List V}{ds:List PyData},ds.all (fun | .list _=>false | .dict _=>false | .tuple _=>false | _=>true)=true->IsAll K H vs ds->IsAll K H' vs ds
 | _,[],_,.nil=>.nil
 | _,d::ds,h,.cons a b=>by
  simp only [List.all_cons,Bool.and_eq_true] at h
  refine .cons ?_ (IsAll.flat h.2 b)
  cases a with
  | non=>exact .non
  | bl b=>exact .bl b
  | int i=>exact .int i
  | str x=>exact .str x
  | lst _ _=>exact absurd h.1 (by simp)
  | tup _ _=>exact absurd h.1 (by simp)
  | dc _=>exact absurd h.1 (by simp)
theorem qjJ {H:Hp}{μ1 μ2:Mu}{a:Addr}{o:MO}{xs:List V}{v:V}{x:PyData}(ha:H a=some (.lst xs)) (hx:noL x=true) (h:Is K (mask (μ1++μ2) H) v x):Is K (mask (μ1++(a,o)::μ2) H) v x:=by
 cases h with
 | non=>exact .non
 | bl b=>exact .bl b
 | int i=>exact .int i
 | str x=>exact .str x
 | lst _ _=>exact absurd hx (by simp [noL])
 | dc _=>exact absurd hx (by simp [noL])
 | tup h hs =>
  refine .tup ?_ (IsAll.flat hx hs)
  have hk:∀ {b:Addr}{u:HO},mask (μ1++μ2) H b=some u->b≠a->mask (μ1++(a,o)::μ2) H b=some u:=fun {b u} e hne=>by
   obtain ⟨h1,h2⟩:=yt e
   rw [q9];exact h2
   simp only [List.map_append,List.map_cons,List.mem_append,List.mem_cons,not_or] at *
   exact ⟨h1.1,hne,h1.2⟩
  rcases h with (e | ⟨q,e⟩) | e
  ·exact .inl (.inl (hk e fun z=>by subst z;have:=(yt e).2;rw [ha] at this;cases this))
  ·exact .inl (.inr ⟨q,hk e fun z=>by subst z;have:=(yt e).2;rw [ha] at this;cases this⟩)
  ·exact .inr e
inductive Thaw (a:Addr) (ds:List PyData):List En->List En->Prop
 | nil:Thaw a ds [] []
 | me {es es':List En}:Thaw a ds es es'->Thaw a ds (.m a::es) (.d (.list ds)::es')
 | ot {e:En}{es es':List En}:Thaw a ds es es'->Thaw a ds (e::es) (e::es')
theorem Thaw.is {μ1 μ2:Mu}{a:Addr}{ds:List PyData}{H:Hp}(M:RelM K (μ1++(a,.lst ds)::μ2) H):∀ {es es':List En}{vs:List V},Thaw a ds es es'->Paired (IsE K (μ1++(a,.lst ds)::μ2) H) vs es->Paired (IsE K (μ1++μ2) H) vs es'
 | _,_,_,.nil,.nil=>.nil
 | _,_,_,.me t,.cons i r=>by
  obtain ⟨M',s,hn⟩:=M.drop
  obtain ⟨xs,e,hs⟩:=M.ob a (.lst ds) (by simp)
  refine .cons ?_ (Thaw.is M t r)
  have i:_=V.ref a:=i
  subst i
  exact .lst (SqL.of (by rw [q9 hn];exact e)) (IsAll.same s hs)
 | _,_,_,.ot t,.cons i r=>.cons (i.same M.drop.2.1) (Thaw.is M t r)
def okT:MO->Bool
 | .lst ds=>ds.all noL
 | .ins .. => false
 | _=>true
theorem qdt {H:Hp}{μ1 μ2:Mu}{a:Addr}{o:MO}{xs:List V}(ha:H a=some (.lst xs)):∀ {vs:List V}{ds:List PyData},ds.all noL=true->IsAll K (mask (μ1++μ2) H) vs ds->IsAll K (mask (μ1++(a,o)::μ2) H) vs ds
 | _,_,_,.nil=>.nil
 | _,_,h,.cons i r=>by
  simp only [List.all_cons,Bool.and_eq_true] at h
  exact .cons (qjJ ha h.1 i) (qdt ha h.2 r)
end
section
variable {X:Cx}{K:W.Frag}{a b c:Expr}{ta tb tc:TEd}{tA tB:TTd}{pos:Pos}{es:List Expr}{tr:TAd}
abbrev TGd:=En->Rho->Mu->(Rho->Mu->Prop)->Prop
abbrev qgM:=List PyData->Rho->Mu->(Rho->Mu->Prop)->Prop
def upG (K:W.Frag) (t:TGd):TG:=fun v σ H Q=>∃ e ρ μ Q0,IsE K μ H v e/\RelS K ρ μ σ H/\RelM K μ H/\t e ρ μ Q0/\ClR K μ H Q0 Q
def upGs (K:W.Frag) (t:qgM):TGs:=fun vs σ H Q=>∃ ds ρ μ Q0,IsAll K (mask μ H) vs ds/\RelS K ρ μ σ H/\RelM K μ H/\t ds ρ μ Q0/\ClR K μ H Q0 Q
def DG (K:W.Frag) (X:Cx) (tg:Expr) (t:TGd):Prop:=PG X tg (upG K t)
def DGs (K:W.Frag) (X:Cx) (tg:List Expr) (t:qgM):Prop:=PGs X tg (upGs K t)
theorem PG.mono {tg:Expr}{t t':TG}(h:PG X tg t) (f:∀ v σ H Q,t' v σ H Q->t v σ H Q):PG X tg t':=fun pins s σ H v u Q I r q=>h pins s σ H v u Q I r (f _ _ _ _ q)
theorem PGs.mono {tg:List Expr}{t t':TGs}(h:PGs X tg t) (f:∀ v σ H Q,t' v σ H Q->t v σ H Q):PGs X tg t':=fun pins s σ H v u Q I r q=>h pins s σ H v u Q I r (f _ _ _ _ q)
def jG (i:Nat):TGd:=fun e ρ μ Q=>Q (ρ.set i (some e)) μ
theorem qS {i:Nat}{x:Str}(hN:X.N.Nodup) (hi:X.N[i]?=some x) (hx:Loc X.env.scope x) (hf:X.fn x=true\/X.env.scope.names.lookup x=some .local:=by first | exact .inl rfl | exact .inr rfl | assumption):DG K X (.Name x pos) (jG i) :=
 PG.mono (qdc hN hi hx hf) fun v σ H Q ⟨e,ρ,μ,Q0,i1,hS,hM,h,cl⟩=>cl _ μ _ H h (hS.set i1) hM (qY.refl _)
def qen:qgM:=fun ds ρ μ Q=>match ds with
 | []=>Q ρ μ
 | _=>False
def Jb (t:TGd) (u:qgM):qgM:=fun ds ρ μ Q=>match ds with
 | x::r=>t (.d x) ρ μ fun ρ' μ'=>u r ρ' μ' Q
 | []=>False
theorem jk:DGs K X [] qen:=PGs.mono qda fun vs σ H Q ⟨ds,ρ,μ,Q0,i1,hS,hM,h,cl⟩=>by
 unfold qen at h
 split at h
 ·cases i1;exact ⟨rfl,cl _ μ _ H h hS hM (qY.refl _)⟩
 ·exact h.elim
theorem qV {e:Expr}{es:List Expr}{t:TGd}{u:qgM}(h1:DG K X e t) (h2:DGs K X es u)
  (hs:(assignEach (e::es) X.env).map (·.2)=assign e X.env::(assignEach es X.env).map (·.2):=by rfl):DGs K X (e::es) (Jb t u):=PGs.mono (Zi h1 h2 hs) fun vs σ H Q ⟨ds,ρ,μ,Q0,i1,hS,hM,h,cl⟩=>by
 unfold Jb at h
 split at h
 ·cases i1 with
  | cons i1 i2 =>
   refine ⟨_,_,rfl,.d _,ρ,μ,_,i1,hS,hM,h,fun ρ' μ' σ' H' q S' M' s'=>?_⟩
   exact ⟨_,ρ',μ',Q0,IsAll.same s' i2,S',M',q,cl.same s'⟩
 ·exact h.elim
def qem (n:Nat) (t:qgM):TGd:=fun e ρ μ Q=>match e with
 | .d (.tuple ds)=>ds.length=n/\t ds ρ μ Q
 | _=>False
theorem jY {es:List Expr}{k:Nat}{t:qgM}{n:Nat}(hc:X.calm=true) (h:DGs K X es t) (hK:X.K=K:=by rfl)
  (hn:(assignEach es X.env).length=n:=by rfl) (hst:(assignEach es X.env).findIdx? (·.1)=none:=by rfl):DG K X (.Tuple es k pos) (qem n t):=by
 subst hK
 refine PG.mono (qgg hc h hn hst) fun v σ H Q hq9=>?_
 obtain ⟨e,ρ,μ,Q0,i1,hS,hM,h,cl⟩:=hq9
 unfold qem at h
 split at h
 ·obtain ⟨p,xs,rfl,hq,hA⟩:=(SeqOf.t _).get hM i1
  cases i1 with
  | tup h1 h2 =>
   refine ⟨_,_,rfl,?_,by rw [h2.len];exact h.1,_,ρ,μ,Q0,h2,hS,hM,h.2,cl⟩
   rcases h1 with (e | ⟨o,e⟩) | e
   ·exact .inl (.inl (ym _ _ e))
   ·exact .inl (.inr ⟨o,ym _ _ e⟩)
   ·exact .inr e
 ·exact h.elim
variable {st:Stmt}{yD:List Stmt}{t u:TSd}{e:Expr}{te:TEd}
def dNext:TSd:=fun D ρ μ=>D.nx ρ μ
def dSeq (t u:TSd):TSd:=fun D ρ μ=>t { D with nx:=u D } ρ μ
theorem y4:DSs K X [] dNext:=PSs.mono qc3 fun D σ H ⟨ρ,μ,D0,hS,hM,h,cl⟩=>cl.nx _ μ _ H h hS hM (qY.refl _)
theorem qG (h1:DS K X st t) (h2:DSs K X yD u):DSs K X (st::yD) (dSeq t u):=PSs.mono (JZ h1 h2) fun D σ H ⟨ρ,μ,D0,hS,hM,h,cl⟩ =>
 ⟨ρ,μ,_,hS,hM,h,⟨fun ρ' μ' σ' H' q S' M' s'=>⟨ρ',μ',D0,S',M',q,cl.same s'⟩,cl.rt,cl.bk,cl.ct⟩⟩
theorem qQ (h1:DS K X st t):DSs K X [st] t:=qaz h1
theorem qbA:DS K X st (fun _ _ _=>False):=PS.mono qe8 fun D σ H ⟨ρ,μ,D0,hS,hM,h,cl⟩=>h
def dDrop (te:TEd):TSd:=fun D ρ μ=>te ρ μ fun _ μ1=>D.nx ρ μ1
theorem qid (he:DE K X e te) (hs:swapsWith e none pos.line X.env=pure false:=by rfl):DS K X (.Expr e pos) (dDrop te):=PS.mono (qhm he hs) fun D σ H ⟨ρ,μ,D0,hS,hM,h,cl⟩ =>
 ⟨ρ,μ,_,hS,hM,h,fun e' μ1 v H1 q M1 s1 i1=>cl.nx _ μ1 _ H1 q (hS.same s1) M1 s1⟩
def dRet (te:TEd):TSd:=fun D ρ μ=>te ρ μ D.rt
theorem qW (he:DE K X e te):DS K X (.Return (some e) pos) (dRet te):=PS.mono (qbi he) fun D σ H ⟨ρ,μ,D0,hS,hM,h,cl⟩=>⟨ρ,μ,_,hS,hM,h,cl.rt⟩
def FzR (μ:Mu) (e:En) (μ':Mu) (e':En):Prop:=∀ (K:W.Frag) (v:V) (H:Hp),RelM K μ H->IsE K μ H v e->RelM K μ' H/\IsE K μ' H v e'/\qY (mask μ H) (mask μ' H)
theorem FzR.refl {μ:Mu}{e:En}:FzR μ e μ e:=fun _ _ _ h i=>⟨h,i,qY.refl _⟩
theorem FzR.trans {μ μ1 μ2:Mu}{e e1 e2:En}(h:FzR μ e μ1 e1) (h':FzR μ1 e1 μ2 e2):FzR μ e μ2 e2:=fun K v H a b=>by
 obtain ⟨a1,b1,s1⟩:=h K v H a b
 obtain ⟨a2,b2,s2⟩:=h' K v H a1 b1
 exact ⟨a2,b2,s1.trans s2⟩
theorem FzR.list {μ1 μ2:Mu}{p:Addr}{ds:List PyData}:FzR (μ1++(p,.lst ds)::μ2) (.m p) (μ1++μ2) (.d (.list ds)):=fun K v H h i=>by
 obtain ⟨M',s,hn⟩:=h.drop
 obtain ⟨xs,e,hs⟩:=h.ob p (.lst ds) (by simp)
 have i:v=_:=i
 subst i
 exact ⟨M',.lst (SqL.of (by rw [q9 hn];exact e)) (IsAll.same s hs),s⟩
theorem FzR.drop {μ1 μ2:Mu}{p:Addr}{o:MO}{e:En}:FzR (μ1++(p,o)::μ2) e (μ1++μ2) e:=fun K v H h i=>by
 obtain ⟨M',s,hn⟩:=h.drop
 exact ⟨M',i.same s,s⟩
theorem FzR.drop1 {μ2:Mu}{p:Addr}{o:MO}{e:En}:FzR ((p,o)::μ2) e μ2 e:=FzR.drop (μ1:=[])
def dRetF (te:TEd):TSd:=fun D ρ μ=>te ρ μ fun e μ1=>∃ μ2 e2,FzR μ1 e μ2 e2/\D.rt e2 μ2
theorem qic (he:DE K X e te):DS K X (.Return (some e) pos) (dRetF te):=PS.mono (qbi he) fun D σ H ⟨ρ,μ,D0,hS,hM,h,cl⟩=>⟨ρ,μ,_,hS,hM,h,fun e' μ1 v H1 q M1 s1 i1=>by
 obtain ⟨μ2,e2,f,q⟩:=q
 obtain ⟨M2,i2,s2⟩:=f K v H1 M1 i1
 exact cl.rt _ μ2 _ H1 q M2 (s1.trans s2) i2⟩
def dIfS (c:TTd) (t u:TSd):TSd:=fun D ρ μ=>c ρ μ fun b μ1=>if b=true then t D ρ μ1 else u D ρ μ1
theorem jX {c:Expr}{a b:List Stmt}{tc:TTd}(hc:DT K X c tc) (ha:DSs K X a t) (hb:DSs K X b u):DS K X (.If c a b pos) (dIfS tc t u):=PS.mono (qjn hc ha hb) fun D σ H ⟨ρ,μ,D0,hS,hM,h,cl⟩ =>
 ⟨ρ,μ,_,hS,hM,h,fun k μ1 H1 q M1 s1=>by
  cases k with
  | true=>exact qbs ⟨ρ,μ1,D0,hS.same s1,M1,by simpa using q,cl.same s1⟩
  | false=>exact qaI ⟨ρ,μ1,D0,hS.same s1,M1,by simpa using q,cl.same s1⟩⟩
def dAsg (te:TEd) (g:TGd):TSd:=fun D ρ μ=>te ρ μ fun e μ1=>g e ρ μ1 D.nx
theorem yp {i:Nat}{x:Str}{pos':Pos}(hN:X.N.Nodup) (hi:X.N[i]?=some x) (hx:Loc X.env.scope x) (he:DE K X e te) (hs:swapsWith e (some (.Name x pos')) pos.line X.env=pure false:=by rfl) (hf:X.fn x=true\/X.env.scope.names.lookup x=some .local:=by first | exact .inl rfl | exact .inr rfl | assumption) :
  DS K X (.Assign [.Name x pos'] e pos) (dAsg te (jG i)):=PS.mono (qjl hN hi hx he hs hf) fun D σ H ⟨ρ,μ,D0,hS,hM,h,cl⟩ =>
 ⟨ρ,μ,_,hS,hM,h,fun e' μ1 v H1 q M1 s1 i1=>cl.nx _ μ1 _ H1 q ((hS.same s1).set i1) M1 s1⟩
theorem j9 {tg:Expr}{g:TGd}(he:DE K X e te) (hg:DG K X tg g) (hs:swapsWithSole [tg] e pos.line X.env=pure false:=by rfl) (hw:swappedStores [tg] e X.env=pure none:=by rfl)
  (h1:(assignEach [tg] X.env).map (·.2)=[assign tg X.env]:=by rfl):DS K X (.Assign [tg] e pos) (dAsg te g):=PS.mono (qc4 he hg hs hw h1) fun D σ H ⟨ρ,μ,D0,hS,hM,h,cl⟩ =>
 ⟨ρ,μ,_,hS,hM,h,fun e' μ1 v H1 q M1 s1 i1=>⟨e',ρ,μ1,D0.nx,i1,hS.same s1,M1,q,cl.nx.same s1⟩⟩
def dPar (i j:Nat) (ta:TAd):TSd:=fun D ρ μ=>ta ρ μ fun es μ1=>match es with
 | [e,e']=>D.nx ((ρ.set i (some e)).set j (some e')) μ1
 | _=>False
theorem qgx {i j:Nat}{x y:Str}{a b:Expr}{ta:TAd}{px py pt:Pos}{kt k2 pt2} (hc:X.calm=true) (hN:X.N.Nodup) (hi:X.N[i]?=some x) (hj:X.N[j]?=some y) (hij:i≠j)
  (hx:X.env.scope.names.lookup x=some .local) (hy:X.env.scope.names.lookup y=some .local) (ha:DA K X [a,b] ta)
  (hw:swappedStores [.Tuple [.Name x px,.Name y py] kt pt] (.Tuple [a,b] k2 pt2) X.env=pure (some [x,y]))
  (hs:swapsWithSole [.Tuple [.Name x px,.Name y py] kt pt] (.Tuple [a,b] k2 pt2) pos.line X.env=pure false:=by rfl) :
  DS K X (.Assign [.Tuple [.Name x px,.Name y py] kt pt] (.Tuple [a,b] k2 pt2) pos) (dPar i j ta):=PS.mono (qjm hc hN hi hj hij hx hy ha hw hs) fun D σ H ⟨ρ,μ,D0,hS,hM,h,cl⟩ =>
 ⟨ρ,μ,_,hS,hM,h,fun es μ1 vs H1 q M1 s1 i1=>by
  split at q
  ·obtain ⟨v,v',rfl,h1,h2⟩:=qfi i1
   exact ⟨_,_,rfl,cl.nx _ μ1 _ H1 q (((hS.same s1).set h1).set h2) M1 s1⟩
  ·exact q.elim⟩
def dApp (to:TEd) (tr:TAd):TEd:=fun ρ μ Q=>to ρ μ fun x μ1=>match x with
 | .m p=>(∃ ds0,(p,.lst ds0)∈μ1)/\tr ρ μ1 fun es μ2=>match es with
  | [.d z]=>∃ μ3 μ4 ds,μ2=μ3++(p,.lst ds)::μ4/\ds.length<4000/\Q (.d .none) (μ3++(p,.lst (ds++[z]))::μ4)
  | _=>False
 | _=>False
theorem qfJ {o e:Expr}{to:TEd}{p1:Pos}(ho:DE K X o to) (ha:DA K X [e] tr) (hK:X.K=K:=by rfl)
  (h:PE X (.Call (.Attribute o "append" p1) [e] [] pos) (tBM X.K "list" rAppend (up K to) (upA K tr))):DE K X (.Call (.Attribute o "append" p1) [e] [] pos) (dApp to tr):=by
 subst hK
 refine PE.mono h fun σ H Q hq9=>?_
 obtain ⟨ρ,μ,Q0,hS,hM,h,cl⟩:=hq9
 refine ⟨ρ,μ,_,hS,hM,h,fun x μ1 v H1 q M1 s1 i1=>?_⟩
 split at q
 ·rename_i x' p
  obtain ⟨⟨ds0,hd0⟩,q⟩:=q
  have i1:v=_:=i1
  subst i1
  obtain ⟨xs0,e0,_⟩:=M1.ob _ _ hd0
  refine ⟨.inl ⟨rfl,_,SqL.of e0⟩,ρ,μ1,_,hS.same s1,M1,q,fun es μ2 vs H2 q2 M2 s2 i2=>?_⟩
  split at q2
  ·rename_i es' z
   obtain ⟨μ3,μ4,ds,rfl,hl,q2⟩:=q2
   obtain ⟨v,rfl,h1⟩:=Yq i2
   obtain ⟨xs,ex,hA⟩:=M2.ob p (.lst ds) (by simp)
   refine ⟨p,xs,v,rfl,rfl,ex,yZ (by rw [hA.len];omega),?_⟩
   obtain ⟨M3,s3⟩:=M2.write (H':=upd H2 p (.lst (xs++[v]))) (o':=.lst (ds++[z])) (fun b u e n=>by rw [qI n];exact e) fun ss=>⟨_,qM,IsAll.snoc (Is.same ss h1) (IsAll.same ss hA)⟩
   exact cl _ _ .non _ q2 M3 ((s1.trans s2).trans s3) .non
  ·exact q2.elim
 ·exact q.elim
structure Itd where
 n:Nat
 item:Nat->En
 ok:Mu->Prop
abbrev TId:=Rho->Mu->(Itd->Mu->Prop)->Prop
def Sim (K:W.Frag) (J0:Itd) (μ1:Mu) (H1:Hp) (J:It):Prop:=∀ μ' H',RelM K μ' H'->qY (mask μ1 H1) (mask μ' H')->J0.ok μ'->∀ i,
 (i<J0.n->J.go i H'/\∀ x H2,J.yld i H' x H2->RelM K μ' H2/\qY (mask μ' H') (mask μ' H2)/\IsE K μ' H2 x (J0.item i))/\(J0.n<=i->J.stop i H')
def upI (K:W.Frag) (t:TId):TI:=fun σ H R=>∃ ρ μ Q0,RelS K ρ μ σ H/\RelM K μ H/\t ρ μ Q0/\∀ J0 μ1 J H1,Q0 J0 μ1->RelM K μ1 H1->qY (mask μ H) (mask μ1 H1)->Sim K J0 μ1 H1 J->R J H1
def DI (K:W.Frag) (X:Cx) (tg iter:Expr) (t:TId):Prop:=PI X tg iter (upI K t)
variable {tg iter:Expr}
theorem PI.mono {wi wi':TI}(h:PI X tg iter wi) (f:∀ σ H R,wi' σ H R->wi σ H R):PI X tg iter wi':=fun pins s σ H R I q=>h pins s σ H R I (f _ _ _ q)
def itL (e:En) (ds:List PyData):Itd:=⟨ds.length,fun i=>.d (ds.getD i .none),fun μ=>LstOf μ e ds⟩
def itT (ds:List PyData):Itd:=⟨ds.length,fun i=>.d (ds.getD i .none),fun _=>True⟩
def itR (lo:Int) (n:Nat):Itd:=⟨n,fun i=>.d (.int (lo+i)),fun _=>True⟩
def diL (te:TEd):TId:=fun ρ μ Q=>te ρ μ fun e μ1=>∃ ds,LstOf μ1 e ds/\Q (itL e ds) μ1
def diR1 (ta:TAd):TId:=fun ρ μ Q=>ta ρ μ fun es μ1=>match es with
 | [.d (.int j)]=>-(2 ^ 62)<=j/\j<2 ^ 62/\Q (itR 0 j.toNat) μ1
 | _=>False
theorem jd {ds:List PyData}{i:Nat}{x:PyData}(h:ds[i]?=some x):ds.getD i .none=x:=by rw [qz,h];rfl
theorem y8 {l:Expr}(hl:DE K X l te) (hK:X.K=K:=by rfl):DI K X tg l (diL te):=by
 subst hK
 refine PI.mono (qhr hl) fun σ H R hq9=>?_
 obtain ⟨ρ,μ,Q0,hS,hM,h,cl⟩:=hq9
 refine ⟨ρ,μ,_,hS,hM,h,fun e μ1 v H1 q M1 s1 i1=>?_⟩
 obtain ⟨ds,hL,q⟩:=q
 obtain ⟨p,xs,rfl,h1,h2⟩:=hL.get M1 i1
 refine ⟨p,rfl,⟨xs,h1⟩,cl _ μ1 _ H1 q M1 s1 fun μ' H' M' s' hok i=>?_⟩
 obtain ⟨p',xs',e',h3,h4⟩:=LstOf.get hok M' (i1.same s')
 cases e'
 have hl:=h4.len
 refine ⟨fun hi=>⟨⟨xs',xs'[i]'(by rw [hl];exact hi),h3,by simp⟩,?_⟩,fun hi=>⟨xs',h3,by rw [hl];exact hi⟩⟩
 rintro x H2 ⟨rfl,hx⟩
 refine ⟨M',qY.refl _,?_⟩
 obtain ⟨d,e1,e2⟩:=h4.get (hx xs' h3)
 show Is X.K (mask μ' H2) x (ds.getD i .none)
 rw [jd e1]
 exact e2
theorem SqT.up {μ:Mu}{H:Hp}{p:Addr}{xs:List V}(h:SqT K (mask μ H) p xs):SqT K H p xs:=by
 rcases h with (e | ⟨o,e⟩) | e
 ·exact .inl (.inl (ym _ _ e))
 ·exact .inl (.inr ⟨o,ym _ _ e⟩)
 ·exact .inr e
theorem SqT.same {H H':Hp}{p:Addr}{xs:List V}(s:qY H H') (h:SqT K H p xs):SqT K H' p xs:=by
 rcases h with (e | ⟨o,e⟩) | e
 ·exact .inl (.inl (s _ _ e))
 ·exact .inl (.inr ⟨o,s _ _ e⟩)
 ·exact .inr e
theorem qcF {lo:Int}{n:Nat}{μ1:Mu}{H1:Hp}:Sim K (itR lo n) μ1 H1 (Itr lo n):=fun μ' H' M' s' _ i =>
 ⟨fun hi=>⟨hi,fun x H2 ⟨e,y⟩=>by subst e y;exact ⟨M',qY.refl _,.int _⟩⟩,fun hi=>hi⟩
theorem Jq {a:Expr}{ta:TAd}{p:Pos}(hg:Gl X "range") (hm:X.mg "range" = none) (ha:DA K X [a] ta) (hs:starEach [a] X.env=[(false,eval a X.env)]:=by rfl):DI K X tg (.Call (.Name "range" p) [a] [] pos) (diR1 ta) :=
 PI.mono (qc9 hg hm ha hs) fun σ H R ⟨ρ,μ,Q0,hS,hM,h,cl⟩=>⟨ρ,μ,_,hS,hM,h,fun es μ1 vs H1 q M1 s1 i1=>by
  split at q
  ·obtain ⟨v,rfl,h1⟩:=Yq i1
   cases h1
   exact ⟨_,rfl,q.1,q.2.1,cl _ μ1 _ H1 q.2.2 M1 s1 qcF⟩
  ·exact q.elim⟩
def Wks (P:Rho->Mu->Prop):Rho->Mu->Prop:=fun ρ μ=>∃ ρ' μ',Wk ρ μ ρ' μ'/\P ρ' μ'
theorem Wks.of {P:Rho->Mu->Prop}{ρ:Rho}{μ:Mu}(h:P ρ μ):Wks P ρ μ:=⟨ρ,μ,Wk.refl,h⟩
def dFor (ti:TId) (g:TGd) (tb:TSd):TSd:=fun D ρ μ=>ti ρ μ fun J μ1=>∃ Pv:Nat->Rho->Mu->Prop,Pv 0 ρ μ1/\(∀ i ρ' μ',i<=J.n->Pv i ρ' μ'->J.ok μ') ∧
 (∀ i ρ' μ',i<J.n->Pv i ρ' μ'->g (J.item i) ρ' μ' fun ρ2 μ2=>tb { D with nx:=Wks (Pv (i+1)),ct:=Wks (Pv (i+1)),bk:=D.nx } ρ2 μ2)/\∀ ρ' μ',Pv J.n ρ' μ'->D.nx ρ' μ'
theorem qab {body:List Stmt}{ti:TId}{g:TGd}{tb:TSd}(hp:PassesOwn (model X.prog X.w) X.A X.env X.xe) (hc:X.calm=true) (hi:DI K X tg iter ti) (hg:DG K X tg g) (hb:DSs K X body tb)
  (hs:∀ x,foldedSetIterable iter X.env x=pure x:=by intro _;rfl):DS K X (.For tg iter body [] pos) (dFor ti g tb):=by
 refine PS.mono (qjo hp hc hi hg hb hs) fun D σ H hq9=>?_
 obtain ⟨ρ,μ,D0,hS,hM,h,cl⟩:=hq9
 refine ⟨ρ,μ,_,hS,hM,h,fun J0 μ1 J H1 q M1 s1 sim=>?_⟩
 obtain ⟨Pv,h0,hok,hstep,hend⟩:=q
 refine ⟨fun i m σ' H'=>m=J0.n - i/\i<=J0.n/\∃ ρ' μ',RelS K ρ' μ' σ' H'/\RelM K μ' H'/\qY (mask μ1 H1) (mask μ' H')/\Pv i ρ' μ',⟨_,rfl,qN _,ρ,μ1,hS.same s1,M1,qY.refl _,h0⟩,?_⟩
 rintro i m σ' H' ⟨rfl,hi,ρ',μ',S',M',s',p⟩
 have sm:=sim μ' H' M' s' (hok i ρ' μ' hi p) i
 by_cases hlt:i<J0.n
 ·obtain ⟨hgo,hy⟩:=sm.1 hlt
  refine .inr ⟨hgo,fun σ2 H2=>∃ ρ' μ',RelS K ρ' μ' σ2 H2/\RelM K μ' H2/\qY (mask μ1 H1) (mask μ' H2)/\Pv (i+1) ρ' μ',fun σ2 H2 z=>⟨J0.n - (i+1),by omega,rfl,hlt,z⟩,fun x H2 y=>?_⟩
  obtain ⟨M2,s2,i2⟩:=hy x H2 y
  refine ⟨_,ρ',μ',_,i2,S'.same s2,M2,hstep i ρ' μ' hlt p,fun ρ3 μ3 σ3 H3 q3 S3 M3 s3=>⟨ρ3,μ3,_,S3,M3,q3,?_⟩⟩
  have st:=(s'.trans s2).trans s3
  have again:∀ {ρ4 μ4 σ4 H4},Wks (Pv (i+1)) ρ4 μ4->RelS K ρ4 μ4 σ4 H4->RelM K μ4 H4->qY (mask μ3 H3) (mask μ4 H4)->∃ ρ' μ',RelS K ρ' μ' σ4 H4/\RelM K μ' H4/\qY (mask μ1 H1) (mask μ' H4)/\Pv (i+1) ρ' μ':=by
   rintro ρ4 μ4 σ4 H4 ⟨ρ5,μ5,wk,p5⟩ S4 M4 s4
   obtain ⟨S5,M5,s5⟩:=wk K σ4 H4 S4 M4
   exact ⟨ρ5,μ5,S5,M5,(st.trans s4).trans s5,p5⟩
  exact ⟨fun _ _ _ _ a b c d=>again a b c d,cl.rt.same (s1.trans st),cl.nx.same (s1.trans st),fun _ _ _ _ a b c d=>again a b c d⟩
 ·have e:i=J0.n:=by omega
  subst e
  exact .inl ⟨sm.2 (qj _),cl.nx _ μ' _ H' (hend ρ' μ' p) S' M' (s1.trans s')⟩
def qkn (c:TTd) (tb:TSd):TSd:=fun D ρ μ=>∃ Pv:Nat->Rho->Mu->Prop,(∃ m,Pv m ρ μ)/\∀ m ρ' μ',Pv m ρ' μ'->c ρ' μ' fun b μ1=>if b=true then
 tb { D with nx:=fun ρ2 μ2=>∃ m',m'<m/\Wks (Pv m') ρ2 μ2,ct:=fun ρ2 μ2=>∃ m',m'<m/\Wks (Pv m') ρ2 μ2,bk:=D.nx } ρ' μ1 else D.nx ρ' μ1
theorem qfG {c:Expr}{body:List Stmt}{tc:TTd}{tb:TSd}(hp:PassesOwn (model X.prog X.w) X.A X.env X.xe) (hc:DT K X c tc) (hb:DSs K X body tb):DS K X (.While c body [] pos) (qkn tc tb):=by
 refine PS.mono (qe7 hp hc hb) fun D σ H hq9=>?_
 obtain ⟨ρ,μ,D0,hS,hM,h,cl⟩:=hq9
 obtain ⟨Pv,⟨m0,h0⟩,hstep⟩:=h
 refine ⟨fun m σ' H'=>∃ ρ' μ',RelS K ρ' μ' σ' H'/\RelM K μ' H'/\qY (mask μ H) (mask μ' H')/\Pv m ρ' μ',⟨m0,ρ,μ,hS,hM,qY.refl _,h0⟩,?_⟩
 rintro m σ' H' ⟨ρ',μ',S',M',s',p⟩
 refine ⟨ρ',μ',_,S',M',hstep m ρ' μ' p,fun k μ1 H1 q M1 s1=>?_⟩
 cases k with
 | true =>
  refine qbs ⟨fun σ2 H2=>∃ m',m'<m/\∃ ρ' μ',RelS K ρ' μ' σ2 H2/\RelM K μ' H2/\qY (mask μ H) (mask μ' H2)/\Pv m' ρ' μ',fun σ2 H2 z=>z,ρ',μ1,_,S'.same s1,M1,by simpa using q,?_⟩
  have st:=s'.trans s1
  have again:∀ {ρ4 μ4 σ4 H4},(∃ m',m'<m/\Wks (Pv m') ρ4 μ4)->RelS K ρ4 μ4 σ4 H4->RelM K μ4 H4->qY (mask μ1 H1) (mask μ4 H4)->∃ m',m'<m/\∃ ρ' μ',RelS K ρ' μ' σ4 H4/\RelM K μ' H4/\qY (mask μ H) (mask μ' H4)/\Pv m' ρ' μ':=by
   rintro ρ4 μ4 σ4 H4 ⟨m',hm,ρ5,μ5,wk,p5⟩ S4 M4 s4
   obtain ⟨S5,M5,s5⟩:=wk K σ4 H4 S4 M4
   exact ⟨m',hm,ρ5,μ5,S5,M5,(st.trans s4).trans s5,p5⟩
  exact ⟨fun _ _ _ _ a b c d=>again a b c d,cl.rt.same st,cl.nx.same st,fun _ _ _ _ a b c d=>again a b c d⟩
 | false=>exact qaI (cl.nx _ μ1 _ H1 (by simpa using q) (S'.same s1) M1 (s'.trans s1))
def qkU:TTd:=fun _ μ Q=>Q true μ
def qiF (K:W.Frag) (X:Cx) (ifs:List Expr) (t:TTd):Prop:=Ifs X ifs (upT K t)
theorem JE:qiF K X [] qkU:=fun pins s σ H Q I ⟨ρ,μ,Q0,hS,hM,h,cl⟩=>qh3 pins s σ H Q I (cl true μ H h hM (qY.refl _))
theorem JD {c:Expr}{t:TTd}(h:DT K X c t):qiF K X [c] t:=qh2 h
def Fin1 (Q:En->Mu->Prop) (ys:List PyData) (μ:Mu):Prop:=Q (.d (.list ys)) μ
def qkr (k:Nat) (ti:TId) (g:TGd) (tt:TTd) (te:TEd):TEd:=fun ρ μ Q=>ti ρ μ fun J μ1=>J.n<=4000/\∃ Pv:Nat->List PyData->Rho->Mu->Prop,Pv 0 [] (ρ++List.replicate k none) μ1/\(∀ i ys ρ' μ',i<=J.n->Pv i ys ρ' μ'->J.ok μ') ∧
 (∀ i ys ρ' μ',i<J.n->Pv i ys ρ' μ'->g (J.item i) ρ' μ' fun ρ2 μ2=>tt ρ2 μ2 fun b μ3=>if b=true then te ρ2 μ3 fun y μ4=>∃ z,y = .d z/\Pv (i+1) (ys++[z]) ρ2 μ4 else Pv (i+1) ys ρ2 μ3) ∧
 ∀ ys ρ' μ',Pv J.n ys ρ' μ'->Fin1 Q ys μ'
theorem qg1 {k:Nat}{ti:TId}{g:TGd}{tt:TTd}{te:TEd}{σ:St}{H:Hp}{Q:VK}(h:up K (qkr k ti g tt te) σ H Q):qiT k (upI K ti) (upG K g) (upT K tt) (up K te) σ H Q:=by
 obtain ⟨ρ,μ,Q0,hS,hM,h,cl⟩:=h
 refine ⟨ρ,μ,_,hS,hM,h,fun J0 μ1 J H1 q M1 s1 sim=>?_⟩
 obtain ⟨hn,Pv,h0,hok,hstep,hend⟩:=q
 have S0:RelS K (ρ++List.replicate k none) μ1 (σ++List.replicate k none) H1:=by
  have S1:=hS.same s1
  refine ⟨by simp [S1.len],fun i e he=>?_⟩
  by_cases hi:i<ρ.length
  ·rw [qJ hi] at he
   rw [qJ (by rw [<- S1.len];exact hi)]
   exact S1.get i e he
  ·rw [qP (by omega),jp] at he
   split at he <;> cases he
 refine ⟨fun i m ys σ' H'=>m=J0.n - i/\i<=J0.n/\ys.length<=i/\∃ ds ρ' μ',RelS K ρ' μ' σ' H'/\RelM K μ' H'/\qY (mask μ1 H1) (mask μ' H')/\IsAll K (mask μ' H') ys ds/\Pv i ds ρ' μ',⟨_,rfl,qN _,qj _,[],_,μ1,S0,M1,qY.refl _,.nil,h0⟩,?_⟩
 rintro i m ys σ' H' ⟨rfl,hi,hy,ds,ρ',μ',S',M',s',hA,p⟩
 have sm:=sim μ' H' M' s' (hok i ds ρ' μ' hi p) i
 by_cases hlt:i<J0.n
 ·obtain ⟨hgo,hyl⟩:=sm.1 hlt
  refine .inr ⟨hgo,yZ (by omega),fun ys2 σ2 H2=>ys2.length<=i+1/\∃ ds ρ' μ',RelS K ρ' μ' σ2 H2/\RelM K μ' H2/\qY (mask μ1 H1) (mask μ' H2)/\IsAll K (mask μ' H2) ys2 ds/\Pv (i+1) ds ρ' μ',fun ys2 σ2 H2 z=>⟨J0.n - (i+1),by omega,rfl,hlt,z⟩,fun x H2 y=>?_⟩
  obtain ⟨M2,s2,i2⟩:=hyl x H2 y
  refine ⟨_,ρ',μ',_,i2,S'.same s2,M2,hstep i ds ρ' μ' hlt p,fun ρ3 μ3 σ3 H3 q3 S3 M3 s3=>⟨ρ3,μ3,_,S3,M3,q3,fun b μ4 H4 q4 M4 s4=>?_⟩⟩
  have st:=((s'.trans s2).trans s3).trans s4
  cases b with
  | true =>
   refine qbs ⟨ρ3,μ4,_,S3.same s4,M4,(by simpa using q4),fun e μ5 v H5 q5 M5 s5 i5=>?_⟩
   obtain ⟨z,rfl,q5⟩:=q5
   exact ⟨by simp;omega,_,ρ3,μ5,(S3.same s4).same s5,M5,st.trans s5,IsAll.snoc i5 (IsAll.same (((s2.trans s3).trans s4).trans s5) hA),q5⟩
  | false=>exact qaI ⟨by omega,_,ρ3,μ4,S3.same s4,M4,st,IsAll.same ((s2.trans s3).trans s4) hA,by simpa using q4⟩
 ·have e:i=J0.n:=by omega
  subst e
  refine .inl ⟨sm.2 (qj _),fun D hD=>?_⟩
  obtain ⟨M4,s4,hn⟩:=M'.laid (o:=.lst ys) hD
  exact cl _ μ' _ _ (hend ds ρ' μ' p) M4 ((s1.trans s').trans s4) (.lst (SqL.of (by rw [q9 hn];exact qM)) (IsAll.same s4 hA))
theorem Jr {L:List Str}{scope sc:Scope}{N:List Str}{elt:Expr}{ifs:List Expr}{ti:TId}{g:TGd}{tt:TTd}{te:TEd}
  (hc:X.calm=true) (hsc:X.env.scope=sc) (hN:X.N=N) (ok:jl sc N L scope=true)
  (hi:DI K X tg iter ti) (hg:∀ cl C s₂ H₂ fp,DG K (qE X L scope cl C s₂ H₂ fp) tg g) (hf:∀ cl C s₂ H₂ fp,qiF K (qE X L scope cl C s₂ H₂ fp) ifs tt) (he:∀ cl C s₂ H₂ fp,DE K (qE X L scope cl C s₂ H₂ fp) elt te)
  (hs:∀ x,foldedSetIterable iter X.env x=pure x:=by intro _;rfl) :
  DE K X (.ListComp elt [⟨tg,iter,ifs,0⟩] scope pos) (qkr L.length ti g tt te):=PE.mono (qhx hc hsc hN ok hi hg hf he hs) fun _ _ _=>qg1
end
section
variable {P:Program}{w:World}{K:W.Frag}{mg:Str->Option Value}{base:Heap}{CX:CXT}
theorem Paired.mapSome {K:W.Frag}{μ:Mu}{H:Hp}{vs:List V}{es:List En}(h:Paired (IsE K μ H) vs es) (n m:Nat) (hn:n - vs.length=m - es.length):RelS K (es.map some++List.replicate (m - es.length) none) μ (vs.map some++List.replicate (n - vs.length) none) H:=by
 have hl:vs.length=es.length:=PySem.Paired.length h
 refine ⟨by simp [hl] at *;omega,fun i e he=>?_⟩
 by_cases hi:i<es.length
 ·rw [qJ (by simpa using hi),List.getElem?_map] at he
  rw [qJ (by simp;omega),List.getElem?_map]
  cases q:es[i]? with
  | none=>rw [q] at he;cases he
  | some e' =>
   rw [q] at he
   cases he
   obtain ⟨v,e1,e2⟩:=L2.Paired.get' h q
   exact ⟨v,by rw [e1];rfl,e2⟩
 ·rw [qP (by simp;omega),jp] at he
  split at he <;> cases he
theorem Fun.okD {x qual:Str}{st:Stmt}{f:Addr}{fd:FuncData}{N ps:List Str}{k:Nat}{sp:SpD}(F:Fun K x qual st f fd) (S:FnScope N ps (qt st)) (len:∀ es μ Q,sp es μ Q->es.length=ps.length)
  (hbody:∀ (cdv:Value) (A:Around) (outer:List Env) (s:Shared) (H:Hp) (E:XK) (es:List En) (μ:Mu) (Q:En->Mu->Prop),Room k (A.deeper (envOfC qual (qt st) s.heap.objs.size f cdv))->sp es μ Q →
   ∃ t,DSs K (qeK CX P w K mg base N qual (qt st) f cdv A outer s H E).nox (yK st) t/\t { nx:=fun _ μ'=>Q (.d .none) μ',rt:=Q } (es.map some++List.replicate (N.length - es.length) none) μ):FnOk P w K mg base CX (k+1) f fd ps (qZ K sp):=by
 refine F.okG S (fun vs H Q E ⟨μ,es,Q0,M,hp,h,cl⟩=>(PySem.Paired.length hp).trans (len es μ Q0 h)) (fun cdv A outer s H vs Q E hr ⟨μ,es,Q0,M,hp,h,cl⟩=>?_)
 obtain ⟨t,ht,hq⟩:=hbody cdv A outer s H E es μ Q0 hr h
 have hl:vs.length=es.length:=PySem.Paired.length hp
 refine ⟨upS K t,ht,_,μ,_,Paired.mapSome hp N.length N.length (by rw [hl]),M,hq,⟨fun ρ' μ' σ' H' q S' M' s'=>cl _ μ' .non H' q M' s' .non,cl,fun _ _ _ _ q=>q.elim,fun _ _ _ _ q=>q.elim⟩⟩
theorem Own.imp {k:Nat}{x:Str}{ps:List Str}{sp sp':Sp}(O:Own P w K mg base CX k x ps sp) (h:∀ vs H Q E,sp' vs H Q E->sp vs H Q E):Own P w K mg base CX k x ps sp':=by
 obtain ⟨f,fd,F,r⟩:=O
 exact ⟨f,fd,F.imp h,r⟩
end
section
variable {X:Cx}{K:W.Frag}{a b c:Expr}{ta tb tc:TEd}{tA tB:TTd}{pos:Pos}{es:List Expr}{tr:TAd}
def rdIx:R2d:=fun x y μ Q=>match x,y with
 | .d (.tuple ds),.d (.int i)=>∃ z,atI ds i=some z/\Q (.d z) μ
 | .d (.list ds),.d (.int i)=>∃ z,atI ds i=some z/\Q (.d z) μ
 | .m p,.d (.int i)=>∃ ds z,(p,.lst ds)∈μ/\atI ds i=some z/\Q (.d z) μ
 | _,_=>False
theorem yy (hK:X.K=K:=by rfl):IxR X (upR K rdIx):=by
 refine (IxR.or (qia (K:=K) hK) (qka (K:=K) hK)).mono fun x y H Q h=>?_
 obtain ⟨μ,e,e',Q0,M,i1,i2,q,cl⟩:=h
 unfold rdIx at q
 split at q
 ·exact .inr ⟨μ,_,_,Q0,M,i1,i2,q,cl⟩
 ·obtain ⟨z,h1,q⟩:=q
  exact .inl ⟨μ,_,_,Q0,M,i1,i2,⟨_,z,.d _,h1,q⟩,cl⟩
 ·obtain ⟨ds,z,h0,h1,q⟩:=q
  exact .inl ⟨μ,_,_,Q0,M,i1,i2,⟨ds,z,.m h0,h1,q⟩,cl⟩
 ·exact q.elim
def qja:R2d:=fun x y μ Q=>match x,y with
 | .d (.int i),.d (.int j)=>Q (.d (.int (i+j))) μ
 | _,_=>∃ ds es,LstOf μ x ds/\LstOf μ y es/\ds.length+es.length<=4000/\Q (.d (.list (ds++es))) μ
section forms
variable {g:TGd}{tb:TSd}{D:EndsD}{ρ:Rho}{μ:Mu}{te:TEd}{tt:TTd}{Q:En->Mu->Prop}
theorem forL {e:En}{ds:List PyData}(Pv:Nat->Rho->Mu->Prop) (h0:Pv 0 ρ μ) (hok:∀ i ρ' μ',Pv i ρ' μ'->LstOf μ' e ds)
  (hs:∀ i x ρ' μ',ds[i]?=some x->Pv i ρ' μ'->g (.d x) ρ' μ' fun ρ2 μ2=>tb { D with nx:=Wks (Pv (i+1)),ct:=Wks (Pv (i+1)),bk:=D.nx } ρ2 μ2) (hd:∀ ρ' μ',Pv ds.length ρ' μ'->D.nx ρ' μ') :
  ∃ Pv:Nat->Rho->Mu->Prop,Pv 0 ρ μ/\(∀ i ρ' μ',i<=(itL e ds).n->Pv i ρ' μ'->(itL e ds).ok μ') ∧
   (∀ i ρ' μ',i<(itL e ds).n->Pv i ρ' μ'->g ((itL e ds).item i) ρ' μ' fun ρ2 μ2=>tb { D with nx:=Wks (Pv (i+1)),ct:=Wks (Pv (i+1)),bk:=D.nx } ρ2 μ2)/\∀ ρ' μ',Pv (itL e ds).n ρ' μ'->D.nx ρ' μ':=by
 refine ⟨Pv,h0,fun i ρ' μ' _ p=>hok i ρ' μ' p,fun i ρ' μ' hi p=>?_,hd⟩
 have hi:i<ds.length:=hi
 have e1:ds[i]?=some ds[i]:=List.getElem?_eq_getElem hi
 show g (.d (ds.getD i .none)) ρ' μ' _
 rw [jd e1]
 exact hs i _ ρ' μ' e1 p
theorem qkT {lo:Int}{n:Nat}(Pv:Nat->Rho->Mu->Prop) (h0:Pv 0 ρ μ)
  (hs:∀ i ρ' μ',i<n->Pv i ρ' μ'->g (.d (.int (lo+i))) ρ' μ' fun ρ2 μ2=>tb { D with nx:=Wks (Pv (i+1)),ct:=Wks (Pv (i+1)),bk:=D.nx } ρ2 μ2) (hd:∀ ρ' μ',Pv n ρ' μ'->D.nx ρ' μ') :
  ∃ Pv:Nat->Rho->Mu->Prop,Pv 0 ρ μ/\(∀ i ρ' μ',i<=(itR lo n).n->Pv i ρ' μ'->(itR lo n).ok μ') ∧
   (∀ i ρ' μ',i<(itR lo n).n->Pv i ρ' μ'->g ((itR lo n).item i) ρ' μ' fun ρ2 μ2=>tb { D with nx:=Wks (Pv (i+1)),ct:=Wks (Pv (i+1)),bk:=D.nx } ρ2 μ2)/\∀ ρ' μ',Pv (itR lo n).n ρ' μ'->D.nx ρ' μ' :=
 ⟨Pv,h0,fun i ρ' μ' _ p=>trivial,fun i ρ' μ' hi p=>hs i ρ' μ' hi p,hd⟩
abbrev qfW (k:Nat) (J:Itd) (g:TGd) (tt:TTd) (te:TEd) (ρ:Rho) (μ1:Mu) (Q:En->Mu->Prop):Prop:=∃ Pv:Nat->List PyData->Rho->Mu->Prop,Pv 0 [] (ρ++List.replicate k none) μ1/\(∀ i ys ρ' μ',i<=J.n->Pv i ys ρ' μ'->J.ok μ') ∧
 (∀ i ys ρ' μ',i<J.n->Pv i ys ρ' μ'->g (J.item i) ρ' μ' fun ρ2 μ2=>tt ρ2 μ2 fun b μ3=>if b=true then te ρ2 μ3 fun y μ4=>∃ z,y = .d z/\Pv (i+1) (ys++[z]) ρ2 μ4 else Pv (i+1) ys ρ2 μ3) ∧
 ∀ ys ρ' μ',Pv J.n ys ρ' μ'->Fin1 Q ys μ'
theorem jQ {α:Type}{ds:List α}{i:Nat}{x:α}(h:ds[i]?=some x):ds.take (i+1)=ds.take i++[x]:=by rw [List.take_add_one,h];rfl
structure Src (J:Itd) (ds:List PyData) (μ:Mu):Prop where
 n:J.n=ds.length
 it:∀ i x,ds[i]?=some x->J.item i = .d x
 ok:J.ok μ
theorem Src.l {e:En}{ds:List PyData}{μ:Mu}(h:LstOf μ e ds):Src (itL e ds) ds μ:=⟨rfl,fun i x e=>by show En.d (ds.getD i .none)=_;rw [jd e],h⟩
theorem Src.d {ds:List PyData}{μ:Mu}:Src (itL (.d (.list ds)) ds) ds μ:=Src.l (.d ds)
theorem Src.t {ds:List PyData}{μ:Mu}:Src (itT ds) ds μ:=⟨rfl,fun i x e=>by show En.d (ds.getD i .none)=_;rw [jd e],trivial⟩
def rng (lo:Int) (n:Nat):List PyData:=(List.range n).map fun (i:Nat)=>PyData.int (lo+(i:Int))
theorem Src.r {lo:Int}{n:Nat}{μ:Mu}:Src (itR lo n) (rng lo n) μ:=by
 refine ⟨by simp [rng,itR],fun i x e=>?_,trivial⟩
 unfold rng at e
 rw [List.getElem?_map] at e
 by_cases hi:i<n
 ·rw [List.getElem?_range hi] at e
  cases e
  rfl
 ·rw [List.getElem?_eq_none (by simpa using hi)] at e
  exact nomatch e
end forms
end
def Num (n:Int):Prop:=-1000000000000000000000000000000<n/\n<1000000000000000000000000000000
def qci (p:Pt):Prop:=Num p.1/\Num p.2
def dvs (a b:Int):Int:=if a<0\/(a=0/\b<0) then -(Int.gcd a b:Int) else (Int.gcd a b:Int)
theorem qd2 {a b:Int}(h:a≠0\/b≠0):0<Int.gcd a b:=Int.gcd_pos_iff.mpr h
theorem YD {a b:Int}(h:a≠0\/b≠0):dvs a b≠0:=by
 have:=qd2 h
 unfold dvs
 split <;> omega
theorem Zu {a b:Int}:(Int.gcd a b:Int) ∣ a:=Int.gcd_dvd_left ..
theorem Zt {a b:Int}:(Int.gcd a b:Int) ∣ b:=Int.gcd_dvd_right ..
theorem qd3 {a b:Int}{B:Nat}(h:a≠0\/b≠0) (ha:a.natAbs<=B) (hb:b.natAbs<=B):Int.gcd a b<=B:=by
 rcases h with h | h
 ·exact qu (Nat.le_of_dvd (by omega) (Int.natAbs_dvd_natAbs.mpr (Zu (a:=a) (b:=b)))) ha
 ·exact qu (Nat.le_of_dvd (by omega) (Int.natAbs_dvd_natAbs.mpr (Zt (a:=a) (b:=b)))) hb
theorem qeh (a b:Int):(dvs a b).natAbs=Int.gcd a b:=by
 unfold dvs
 split <;> omega
theorem qaa (a b:Int):dvs a b ∣ a:=by
 unfold dvs
 split
 ·exact Int.neg_dvd.mpr Zu
 ·exact Zu
theorem Z9 (a b:Int):dvs a b ∣ b:=by
 unfold dvs
 split
 ·exact Int.neg_dvd.mpr Zt
 ·exact Zt
theorem qby {a d:Int}(hd:d≠0) (h:d ∣ a):(a.fdiv d).natAbs<=a.natAbs:=by
 obtain ⟨c,rfl⟩:=h
 rw [Int.mul_fdiv_cancel_left _ hd,Int.natAbs_mul]
 exact Nat.le_mul_of_pos_left _ (by omega)
theorem qfC {f r:Nat}:Nat.gcd r (f % r)=Nat.gcd f r:=by
 rw [Nat.gcd_comm r (f % r),<- Nat.gcd_rec,Nat.gcd_comm]
def nrm (a b:Int):Pt:=(a.fdiv (dvs a b),b.fdiv (dvs a b))
def IsN (q:Pt):Prop:=Int.gcd q.1 q.2=1/\(0<q.1\/(q.1=0/\q.2=1))
def Bd (B:Nat) (q:Pt):Prop:=q.1.natAbs<=B/\q.2.natAbs<=B
theorem qaD (a b:Int) (h:a≠0\/b≠0):a=dvs a b * (nrm a b).1/\b=dvs a b * (nrm a b).2:=by
 have d0:=YD h
 obtain ⟨c,hc⟩:=qaa a b
 obtain ⟨e,he⟩:=Z9 a b
 unfold nrm
 dsimp only
 constructor
 ·conv=>rhs;rhs;arg 1;rw [hc]
  rw [Int.mul_fdiv_cancel_left _ d0];exact hc
 ·conv=>rhs;rhs;arg 1;rw [he]
  rw [Int.mul_fdiv_cancel_left _ d0];exact he
theorem qgj {a b:Int}{B:Nat}(h:a≠0\/b≠0) (ha:a.natAbs<=B) (hb:b.natAbs<=B):Bd B (nrm a b) :=
 ⟨qu (qby (YD h) (qaa a b)) ha,qu (qby (YD h) (Z9 a b)) hb⟩
theorem qhL {a b:Int}(h:a≠0\/b≠0):IsN (nrm a b):=by
 obtain ⟨h1,h2⟩:=qaD a b h
 have d0:=YD h
 have g0:=qd2 h
 have hg:Int.gcd a b=(dvs a b).natAbs * Int.gcd (nrm a b).1 (nrm a b).2:=by
  have e:Int.gcd (dvs a b * (nrm a b).1) (dvs a b * (nrm a b).2)=(dvs a b).natAbs * Int.gcd (nrm a b).1 (nrm a b).2:=Int.gcd_mul_left ..
  rw [<- h1,<- h2] at e
  exact e
 rw [qeh] at hg
 have g1:Int.gcd (nrm a b).1 (nrm a b).2=1:=by
  have:=Nat.eq_of_mul_eq_mul_left g0 (show Int.gcd a b * Int.gcd (nrm a b).1 (nrm a b).2=Int.gcd a b * 1 by omega)
  exact this
 refine ⟨g1,?_⟩
 generalize nrm a b=q at *
 by_cases ha:a=0
 ·right
  have hq:q.1=0:=by
   have:dvs a b * q.1=0:=by rw [<- h1];exact ha
   rcases Int.mul_eq_zero.mp this with z | z
   ·exact absurd z d0
   ·exact z
  refine ⟨hq,?_⟩
  rw [hq] at g1
  simp at g1
  have hb:b≠0:=by rcases h with h | h;exact absurd ha h;exact h
  have:q.2=1\/q.2 = -1:=by omega
  rcases this with z | z
  ·exact z
  ·exfalso
   unfold dvs at h2
   rw [z] at h2
   split at h2 <;> omega
 ·left
  have hp:0<dvs a b * q.1\/dvs a b * q.1<0:=by omega
  unfold dvs at h1
  split at h1
  ·have:a<0:=by omega
   have h1':(Int.gcd a b:Int) * q.1 = -a:=by rw [Int.neg_mul] at h1;omega
   exact Int.pos_of_mul_pos_right (by rw [h1'];omega) (by omega)
  ·have:0<a:=by omega
   exact Int.pos_of_mul_pos_right (a:=(Int.gcd a b:Int)) (by rw [<- h1];exact this) (by omega)
theorem IsN.nrm {q:Pt}(h:IsN q):nrm q.1 q.2=q:=by
 have:dvs q.1 q.2=1:=by
  unfold dvs
  rw [h.1,if_neg (by rcases h.2 with z | z <;> omega)]
  rfl
 unfold L2.nrm
 rw [this]
 simp
theorem qbx {a d:Int}{B:Nat}(hB:B<2 ^ 1000) (h0:d≠0) (hd:d.natAbs<=B):qfX a d:=⟨h0,yW hd hB⟩
def crs (p q:Pt):Int:=p.1 * q.2 - p.2 * q.1
theorem ZD {p q:Pt}(hp:IsN p) (hq:IsN q) (h:crs p q=0):p=q:=by
 obtain ⟨a,b⟩:=p
 obtain ⟨c,d⟩:=q
 obtain ⟨g1,s1⟩:=hp
 obtain ⟨g2,s2⟩:=hq
 unfold crs at h
 dsimp only at *
 have e:a * d=b * c:=by omega
 have i1:a.natAbs ∣ c.natAbs:=by
  have:a.natAbs ∣ b.natAbs * c.natAbs:=⟨d.natAbs,by rw [<- Int.natAbs_mul,<- Int.natAbs_mul,e]⟩
  exact Nat.Coprime.dvd_of_dvd_mul_left (show Nat.Coprime a.natAbs b.natAbs from g1) this
 have i2:c.natAbs ∣ a.natAbs:=by
  have:c.natAbs ∣ d.natAbs * a.natAbs:=⟨b.natAbs,by rw [<- Int.natAbs_mul,<- Int.natAbs_mul,Int.mul_comm d a,e,Int.mul_comm]⟩
  exact Nat.Coprime.dvd_of_dvd_mul_left (show Nat.Coprime c.natAbs d.natAbs from g2) this
 have hac:a.natAbs=c.natAbs:=Nat.dvd_antisymm i1 i2
 have hac':a=c:=by omega
 subst hac'
 by_cases ha:a=0
 ·subst ha
  have:b=1:=by omega
  have:d=1:=by omega
  subst_vars;rfl
 ·have:d=b:=Int.eq_of_mul_eq_mul_left ha (by rw [e,Int.mul_comm])
  rw [this]
theorem FzR.pot {M a b:Int}{μ:Mu}{p:Addr}(ha:0<=a) (hb:0<=b) (hm:b<M):FzR ((p,.lst [.int a,.int b])::μ) (.m p) ((p,.pot M)::μ) (.m p):=fun K v H h i=>by
 have e:mask ((p,.lst [.int a,.int b])::μ) H=mask ((p,.pot M)::μ) H:=rfl
 refine ⟨⟨by simpa using h.nd,fun b' o ho=>?_⟩,i,by rw [e];exact qY.refl _⟩
 rcases List.mem_cons.mp ho with z | z
 ·cases z
  obtain ⟨xs,e1,hs⟩:=h.ob p _ qg
  have:=IsAll.ints_of (ns:=[a,b]) hs
  subst this
  exact ⟨a,b,e1,ha,hb,hm⟩
 ·have:=h.ob b' o (qe _ z)
  exact this.same (by rw [e];exact qY.refl _) rfl
def qcC (M:Int):Sp:=fun vs H Q _=>∃ (p:Addr) (m:Int),vs=[.ref p,.int m]/\Pot M H p/\0<m/\m<=100000000/\∀ d H',0<=d->d<m->Pot M H' p->Stp p H H'->Q (.int d) H'
def ZU (M:Int):SpD:=fun es μ Q=>∃ (p:Addr) (m:Int),es=[.m p,.d (.int m)]/\(p,.pot M)∈μ/\0<m/\m<=100000000/\∀ d,0<=d->d<m->Q (.d (.int d)) μ
def qiC (M:Int):SpD:=fun es μ Q=>∃ (p:Addr),es=[.m p]/\(p,.pot M)∈μ/\∀ n,Num n->Q (.d (.int n)) μ
theorem qhn {K:W.Frag}{μ:Mu}{H H':Hp}{p:Addr}{M:Int}(h:RelM K μ H) (hp:(p,.pot M)∈μ) (hP:Pot M H' p) (s:Stp p H H'):RelM K μ H'/\qY (mask μ H) (mask μ H'):=by
 obtain ⟨μ1,μ2,rfl⟩:=List.append_of_mem hp
 exact h.write (fun b u e n=>s b u e n) fun _=>hP
theorem qie {K:W.Frag}{M:Int}{vs:List V}{H:Hp}{Q:VK}{E:XK}(h:qZ K (ZU M) vs H Q E):qcC M vs H Q E:=by
 obtain ⟨μ,es,Q0,hM,hp,⟨p,m,rfl,hpot,m0,m1,q⟩,cl⟩:=h
 obtain ⟨v,v',rfl,i1,i2⟩:=qfi hp
 have i1:v=_:=i1
 subst i1
 cases i2
 refine ⟨p,m,rfl,hM.ob _ _ hpot,m0,m1,fun d H' d0 d1 hP s=>?_⟩
 obtain ⟨M',s'⟩:=qhn hM hpot hP s
 exact cl _ μ _ H' (q d d0 d1) M' s' (.int d)
theorem zl0:0<=4000:=by decide
theorem zl1:1<=4000:=by decide
theorem zl2:2<=4000:=by decide
theorem zl3:3<=4000:=by decide
theorem ZO (p:Pt):SeqAt.shaped (ptD p)=true:=yU [p.1,p.2]
theorem qin (p q:Pt):crs q p = - crs p q:=by
 unfold crs
 rw [Int.mul_comm q.1 p.2,Int.mul_comm q.2 p.1]
 omega
theorem qbF (p:Pt):crs p p=0:=by
 have:=qin p p
 omega
def srt (ns:List Int):List Int:=ns.mergeSort (fun a b=>decide (a<=b))
theorem JY (ns:List Int):(srt ns).Perm ns:=List.mergeSort_perm ..
theorem YR (ns:List Int):(srt ns).Pairwise (· <= ·):=by
 have:=List.pairwise_mergeSort (le:=fun a b:Int=>decide (a<=b)) (fun a b c h1 h2=>by simp at *;omega) (fun a b=>by simp;omega) ns
 exact this.imp fun h=>by simpa using h
theorem qat (ns:List Int):(srt ns).length=ns.length:=(JY ns).length_eq
section
variable {X:Cx}{K:W.Frag}{a b c:Expr}{ta tb tc:TEd}{tA tB:TTd}{pos:Pos}{es:List Expr}{tr:TAd}
def rCatS (K:W.Frag):R2:=fun x y H Q=>∃ l b xs zs,x = .ref l/\y = .ref b/\SqL K H l xs/\SqL K H b zs/\xs.length+zs.length<=sizeLine/\∀ p,H p=none->Q (.ref p) (upd H p (.lst (xs++zs)))
theorem qhB:OpR X (binaryOp .Add) (rCatS X.K):=by
 intro pins s σ H x y v u Q I rx ry h
 obtain ⟨l,b,xs,zs,rfl,rfl,hH,hB,hz,q⟩:=h
 cases rx
 cases ry
 obtain ⟨its,r,pl,_⟩:=I.list hH
 obtain ⟨its2,r2,pl2,_⟩:=I.list hB
 obtain ⟨⟨cls,dd,data,sl⟩,ho,hc,n,hd⟩:=pl.isList
 obtain ⟨⟨cls2,dd2,data2,sl2⟩,ho2,hc2,n2,hd2⟩:=pl2.isList
 simp only at hc hd hc2 hd2
 subst hc hd hc2 hd2
 have h1:=r.length
 have h2:=r2.length
 have e:its.toArray++its2.toArray=(its++its2).toArray:=by simp
 refine concat_meets ⟨_,ho,rfl⟩ ⟨_,ho2,rfl⟩ noFill_list_add seq_list_add PySem.F.slot_list_add PySem.F.entry_list_add (PySem.F.args_list_add_2 _ _) (list_addW l b its.toArray its2.toArray n n2 dd dd2 sl sl2 (by simp;omega)) ⟨ho,ho2,?_⟩
 rw [e]
 exact ⟨.ref _,_,I.lnew (t':=s.toks) (r.append r2) (by rw [List.length_append];omega),rfl,q _ I.fresh⟩
theorem JV (hK:X.K=K:=by rfl):OpR X (binaryOp .Add) (upR K qja):=by
 subst hK
 refine (OpR.or (qdi (X:=X)) qhB).mono fun x y H Q h=>?_
 obtain ⟨μ,e,e',Q0,M,i1,i2,q,cl⟩:=h
 unfold qja at q
 split at q
 ·cases i1;cases i2
  exact .inl ⟨_,_,rfl,rfl,cl _ μ _ H q M (qY.refl _) (.int _)⟩
 ·obtain ⟨ds,es,h1,h2,hl,q⟩:=q
  obtain ⟨p,xs,rfl,a1,a2⟩:=h1.get M i1
  obtain ⟨p',xs',rfl,b1,b2⟩:=h2.get M i2
  refine .inr ⟨p,p',xs,xs',rfl,rfl,a1,b1,yf (yZ (by rw [a2.len,b2.len];exact hl)),fun l hl=>?_⟩
  obtain ⟨M4,s4,hn⟩:=M.laid (o:=.lst (xs++xs')) hl
  exact cl _ μ _ _ q M4 s4 (.lst (SqL.of (by rw [q9 hn];exact qM)) (IsAll.same s4 (IsAll.app b2 a2)))
def qkq (to:TEd) (tr:TAd):TEd:=fun ρ μ Q=>to ρ μ fun x μ1=>∃ ns:List Int,LstOf μ1 x (ns.map PyData.int)/\tr ρ μ1 fun es μ2=>LstOf μ2 x (ns.map PyData.int)/\match es with
 | [.d (.int k)]=>Q (.d (.int (ns.count k:Nat))) μ2
 | _=>False
theorem qaQ {o e:Expr}{to:TEd}{p1:Pos}(ho:DE K X o to) (ha:DA K X [e] tr) (hK:X.K=K:=by rfl)
  (h:PE X (.Call (.Attribute o "count" p1) [e] [] pos) (tBM X.K "list" (qge X.K) (up K to) (upA K tr))):DE K X (.Call (.Attribute o "count" p1) [e] [] pos) (qkq to tr):=by
 subst hK
 refine PE.mono h fun σ H Q hq9=>?_
 obtain ⟨ρ,μ,Q0,hS,hM,h,cl⟩:=hq9
 refine ⟨ρ,μ,_,hS,hM,h,fun x μ1 v H1 q M1 s1 i1=>?_⟩
 obtain ⟨ns,h1,q⟩:=q
 obtain ⟨p,xs,rfl,a1,a2⟩:=h1.get M1 i1
 refine ⟨.inl ⟨rfl,_,a1⟩,ρ,μ1,_,hS.same s1,M1,q,fun es μ2 vs H2 q2 M2 s2 i2=>?_⟩
 obtain ⟨h2,q2⟩:=q2
 obtain ⟨p',xs',e',b1,b2⟩:=h2.get M2 (i1.same s2)
 cases e'
 rw [b2.ints_of] at b1
 split at q2
 ·obtain ⟨v,rfl,h3⟩:=Yq i2
  cases h3
  exact ⟨p,ns,_,rfl,rfl,b1,cl _ μ2 _ H2 q2 M2 (s1.trans s2) (.int _)⟩
 ·exact q2.elim
end
section
variable {P:Program}{w:World}{K:W.Frag}{mg:Str->Option Value}{base:Heap}{CX:CXT}{k:Nat}{x:Str}{ps:List Str}{sp sp':Sp}{f:Addr}{fd:FuncData}
def spOr (sp sp':Sp):Sp:=fun vs H Q E=>sp vs H Q E\/sp' vs H Q E
theorem FnOk.or (h:FnOk P w K mg base CX k f fd ps sp) (h':FnOk P w K mg base CX k f fd ps sp'):FnOk P w K mg base CX k f fd ps (spOr sp sp') :=
 ⟨fun vs H Q E q=>q.elim (h.len vs H Q E) (h'.len vs H Q E),fun A outer s H args us vs Q E hr he hb hv q=>q.elim (h.run A outer s H args us vs Q E hr he hb hv) (h'.run A outer s H args us vs Q E hr he hb hv)⟩
theorem Own.l (O:Own P w K mg base CX k x ps (spOr sp sp')):Own P w K mg base CX k x ps sp:=O.imp fun _ _ _ _ h=>.inl h
theorem Own.r (O:Own P w K mg base CX k x ps (spOr sp sp')):Own P w K mg base CX k x ps sp':=O.imp fun _ _ _ _ h=>.inr h
theorem RelS.of {vs:List V}{es:List En}{H:Hp}(n:Nat) (h:Paired (IsE K [] H) vs es):RelS K (es.map some++List.replicate n none) [] (vs.map some++List.replicate n none) H:=by
 have:=Paired.mapSome (K:=K) h (vs.length+n) (es.length+n) (by omega)
 simpa using this
theorem IsE.nil {H:Hp}{v:V}{d:PyData}(h:Is K H v d):IsE K [] H v (.d d):=by
 show Is K (mask [] H) v d
 rw [qfs];exact h
end
section
variable {g:TGd}{tb:TSd}{D:EndsD}{ρ:Rho}{μ:Mu}{te:TEd}{tt:TTd}{Q:En->Mu->Prop}
theorem YG {J:Itd}{α:Type}{as:List α}{h:α->PyData}(p:α->Bool) (f:α->PyData) (S:Src J (as.map h) μ)
  (ht:∀ a,a∈as->∀ R:Bool->Mu->Prop,R (p a) μ->tt (ρ++[some (.d (h a))]) μ R)
  (hs:∀ a,a∈as->p a=true->∀ R:En->Mu->Prop,R (.d (f a)) μ->te (ρ++[some (.d (h a))]) μ R) (hq:Q (.d (.list ((as.filter p).map f))) μ):qfW 1 J (jG ρ.length) tt te ρ μ Q:=by
 have hl:J.n=as.length:=by rw [S.n];simp
 refine ⟨fun i ys ρ' μ'=>μ'=μ/\ys=((as.take i).filter p).map f/\∃ v,ρ'=ρ++[v],⟨rfl,rfl,none,rfl⟩,fun i ys ρ' μ' _ ⟨h,_⟩=>by subst h;exact S.ok,?_,?_⟩
 ·rintro i ys ρ' μ' hi ⟨rfl,rfl,v,rfl⟩
  rw [hl] at hi
  rw [S.it i (h as[i]) (by rw [List.getElem?_map,List.getElem?_eq_getElem hi];rfl)]
  unfold jG
  have e2:(ρ++[v]).set ρ.length (some (.d (h as[i])))=ρ++[some (.d (h as[i]))]:=by simp
  rw [e2]
  refine ht as[i] (qO hi) _ ?_
  cases hp:p as[i] with
  | true =>
   refine qbs (hs as[i] (qO hi) hp _ ⟨_,rfl,rfl,?_,_,rfl⟩)
   rw [jQ (List.getElem?_eq_getElem hi),List.filter_append,List.map_append]
   simp [hp]
  | false =>
   refine qaI ⟨rfl,?_,_,rfl⟩
   rw [jQ (List.getElem?_eq_getElem hi),List.filter_append,List.map_append]
   simp [hp]
 ·rintro ys ρ' μ' ⟨rfl,rfl,_⟩
  rw [hl,jB]
  exact hq
theorem qgF {J:Itd}{α:Type}{as:List α}{h:α->PyData}(f:α->PyData) (S:Src J (as.map h) μ)
  (hs:∀ a,a∈as->∀ R:En->Mu->Prop,R (.d (f a)) μ->te (ρ++[some (.d (h a))]) μ R) (hq:Q (.d (.list (as.map f))) μ):qfW 1 J (jG ρ.length) qkU te ρ μ Q :=
 YG (fun _=>true) f S (fun a _ R h=>h) (fun a ha _=>hs a ha) (by rw [List.filter_eq_self.mpr (fun _ _=>rfl)];exact hq)
end
def cLt (c:Int) (ns:List Int):Nat:=ns.countP (fun v=>decide (v<c))
def cGt (c:Int) (ns:List Int):Nat:=ns.countP (fun v=>decide (c<v))
def qaL (c:Int) (ns:List Int):Bool:=decide (2 * cLt c ns<=ns.length) && decide (2 * cGt c ns<=ns.length)
def qdz (ns:List Int):Int:=(srt ns).getD ((ns.length - 1) / 2) 0
def qjP (ns:List Int):Int:=(srt ns).getD (ns.length / 2) 0
theorem Ju {s:List Int}(h:s.Pairwise (· <= ·)) {i j:Nat}(hi:i<=j) (hj:j<s.length):s.getD i 0<=s.getD j 0:=by
 rw [qz,qz,List.getElem?_eq_getElem hj,List.getElem?_eq_getElem (by omega)]
 show s[i]<=s[j]
 by_cases e:i=j
 ·subst e;exact Int.le_refl _
 ·exact qL.mp h i j (by omega) hj (by omega)
theorem Js (p:Int->Bool) (s:List Int) (j:Nat):s.countP p=(s.take j).countP p+(s.drop j).countP p:=by
 rw [<- List.countP_append,qD]
theorem qbG {p:Int->Bool}{l:List Int}(h:∀ x∈l,p x=false):l.countP p=0:=by
 rw [List.countP_eq_zero]
 intro x hx
 simp [h x hx]
theorem qet {p:Int->Bool}{l:List Int}(h:∀ x∈l,p x=true):l.countP p=l.length:=by
 rw [List.countP_eq_length]
 exact h
theorem Ys {s:List Int}(h:s.Pairwise (· <= ·)) {j:Nat}(hj:j<s.length) {x:Int}(hx:x∈s.take (j+1)):x<=s.getD j 0:=by
 obtain ⟨i,hi,rfl⟩:=yF.mp hx
 have:i<j+1:=by simp at hi;omega
 have:=Ju h (i:=i) (j:=j) (by omega) hj
 rw [qz (l:=s) (i:=i),List.getElem?_eq_getElem (by omega)] at this
 simpa using this
theorem Yt {s:List Int}(h:s.Pairwise (· <= ·)) {j:Nat}(hj:j<s.length) {x:Int}(hx:x∈s.drop j):s.getD j 0<=x:=by
 obtain ⟨i,hi,rfl⟩:=yF.mp hx
 have hl:j+i<s.length:=by simp at hi;omega
 have:=Ju h (i:=j) (j:=j+i) (by omega) hl
 rw [qz (l:=s) (i:=j+i),List.getElem?_eq_getElem hl] at this
 simpa using this
section
variable {s:List Int}(h:s.Pairwise (· <= ·)) {j:Nat}(hj:j<s.length) {c:Int}
include h hj
theorem cA (hc:c<=s.getD j 0):cLt c s<=j:=by
 unfold cLt
 rw [Js _ s j,qbG (l:=s.drop j)]
 ·have:=List.countP_le_length (p:=fun v=>decide (v<c)) (l:=s.take j)
  simp at this ⊢
  omega
 ·intro x hx
  have:=Yt h hj hx
  simp;omega
theorem cB (hc:s.getD j 0<=c):cGt c s<=s.length - 1 - j:=by
 unfold cGt
 rw [Js _ s (j+1),qbG (l:=s.take (j+1))]
 ·have:=List.countP_le_length (p:=fun v=>decide (c<v)) (l:=s.drop (j+1))
  simp at this ⊢
  omega
 ·intro x hx
  have:=Ys h hj hx
  simp;omega
theorem cC (hc:c<s.getD j 0):s.length - j<=cGt c s:=by
 unfold cGt
 rw [Js _ s j,qet (l:=s.drop j)]
 ·simp
 ·intro x hx
  have:=Yt h hj hx
  simp;omega
theorem cD (hc:s.getD j 0<c):j+1<=cLt c s:=by
 unfold cLt
 rw [Js _ s (j+1),qet (l:=s.take (j+1))]
 ·simp;omega
 ·intro x hx
  have:=Ys h hj hx
  simp;omega
end
theorem qip (c:Int) (ns:List Int):cLt c (srt ns)=cLt c ns:=(JY ns).countP_eq _
theorem qir (c:Int) (ns:List Int):cGt c (srt ns)=cGt c ns:=(JY ns).countP_eq _
theorem qjO {ns:List Int}(h0:ns≠[]):qdz ns<=qjP ns:=by
 have hl:0<ns.length:=jo.mpr h0
 exact Ju (YR ns) (by omega) (by rw [qat];omega)
theorem qb2 {ns:List Int}(h0:ns≠[]) (c:Int):qaL c ns=true ↔ qdz ns<=c/\c<=qjP ns:=by
 have hl:0<ns.length:=jo.mpr h0
 have hs:=YR ns
 have hn:=qat ns
 have h1:(ns.length - 1) / 2<(srt ns).length:=by omega
 have h2:ns.length / 2<(srt ns).length:=by omega
 unfold qaL
 rw [<- qip,<- qir]
 simp only [Bool.and_eq_true,decide_eq_true_eq]
 constructor
 ·rintro ⟨a,b⟩
  constructor
  ·apply Int.not_lt.mp
   intro z
   have:=cC hs h1 (c:=c) z
   omega
  ·apply Int.not_lt.mp
   intro z
   have:=cD hs h2 (c:=c) z
   omega
 ·rintro ⟨a,b⟩
  have:=cA hs h2 (c:=c) b
  have:=cB hs h1 (c:=c) a
  omega
def twice:List Int->List Int
 | []=>[]
 | x::l=>x::x::twice l
mutual
theorem qbz:∀ d:PyData,PyData.canLay0 d=true->PyData.eqv d d=true
 | .none,_=>by simp [PyData.eqv]
 | .bool b,_=>by simp [PyData.eqv]
 | .int i,_=>by simp [PyData.eqv]
 | .str x,_=>by simp [PyData.eqv]
 | .list xs,h=>by
  simp only [PyData.canLay0] at h
  simp only [PyData.eqv]
  exact Jk xs h
 | .tuple xs,h=>by
  simp only [PyData.canLay0] at h
  simp only [PyData.eqv]
  exact Jk xs h
 | .dict xs,h=>by simp [PyData.canLay0] at h
theorem Jk:∀ ds:List PyData,PyData.canLayAll0 ds=true->PyData.eqvAll ds ds=true
 | [],_=>by simp [PyData.eqvAll]
 | d::ds,h=>by
  simp only [PyData.canLayAll0,Bool.and_eq_true] at h
  simp only [PyData.eqvAll,Bool.and_eq_true]
  exact ⟨qbz d h.1,Jk ds h.2⟩
end
theorem qbV {d:PyData}(h:SeqAt.shaped d=true):PyData.eqv d d=true:=qbz d (SeqAt.canLay_of_shaped h)
theorem jH {α:Type}{f:α->PyData}(hf:∀ a,PyData.canLay0 (f a)=true):∀ as:List α,PyData.canLayAll0 (as.map f)=true
 | []=>by simp [PyData.canLayAll0]
 | a::as=>by simp [PyData.canLayAll0,hf a,jH hf as]
theorem YE {α:Type}{f:α->PyData}{n:Nat}(hf:∀ a,PyData.depth (f a)<=n):∀ as:List α,PyData.depthAll (as.map f)<=n+1
 | []=>by simp [PyData.depthAll]
 | a::as=>by
  have:=YE hf as
  have:=hf a
  simp only [List.map_cons,PyData.depthAll]
  omega
section
variable {X:Cx}{K:W.Frag}{a b c:Expr}{ta tb tc:TEd}{tA tB:TTd}{pos:Pos}{es:List Expr}{tr:TAd}
end
end L2
namespace L2
open PySem PySem.Spec PyProof.Rows PySem.W PySem.SetTable
def JW (K:W.Frag) (H:Hp) (v:V) (ks:List Int):Prop:=(∃ a,v = .ref a/\SqT K H a (ks.map V.int))/\ks≠[]
theorem JW.same {K:W.Frag}{H H':Hp}{v:V}{ks:List Int}(h:JW K H v ks) (s:qY H H'):JW K H' v ks:=by
 obtain ⟨⟨a,e,q⟩,n⟩:=h
 exact ⟨⟨a,e,SqT.same s q⟩,n⟩
def Srt (ms:List (List Int)):Prop:=ms.Pairwise fun a b=>¬ b<a
def qaq (P:Program) (w:World) (a:Addr) (bs:List (Addr×List Int)) (h:Heap):Prop :=
 ∃ o es ep t m,h.get? a=some o/\o.ExactSet/\o.data = .set es ep t/\t.plain=true/\t.led=(!jm w)/\jw m es.size/\SetI t es m es.size/\es.toList=bs.map (fun b=>(yh P w b.2,Value.ref b.1))/\(bs.map (·.2)).Nodup
def qa6 (P:Program) (w:World) (a:Addr) (bs:List (Addr×List Int)):HO:=.ext (qaq P w a bs)
def InS (K:W.Frag) (H:Hp) (bs:List (Addr×List Int)):Prop:=∀ b∈bs,JW K H (.ref b.1) b.2
theorem InS.same {K:W.Frag}{H H':Hp}{bs:List (Addr×List Int)}(h:InS K H bs) (s:qY H H'):InS K H' bs:=fun b hb=>(h b hb).same s
theorem qaq.stay {P:Program}{w:World}{a:Addr}{bs:List (Addr×List Int)}{h1 h2:Heap}(p:qaq P w a bs h1) (k:∀ o,h1.get? a=some o->h2.get? a=some o):qaq P w a bs h2:=by
 obtain ⟨o,es,ep,t,m,ho,r⟩:=p
 exact ⟨o,es,ep,t,m,k o ho,r⟩
theorem qaq.ok {P:Program}{w:World}{H:Hp}{a:Addr}{bs:List (Addr×List Int)}{h:Heap}(p:qaq P w a bs h):jn P w H h a (qa6 P w a bs):=by
 refine ⟨p,?_,fun h1 h2 p1 k=>p1.stay k⟩
 obtain ⟨o,_,_,_,_,ho,_⟩:=p
 exact ⟨o,ho⟩
theorem qaN {P:Program}{w:World}{h:Heap}:∀ {l:List (Int×Value)}{ms:List (List Int)},PySem.Paired (ZI P w h) l ms->∃ bs:List (Addr×List Int),l=bs.map (fun b=>(yh P w b.2,Value.ref b.1))/\bs.map (·.2)=ms/\∀ b∈bs,yE h (.ref b.1) b.2
 | _,_,.nil=>⟨[],rfl,rfl,(fun _ z=>nomatch z)⟩
 | _,_,.cons (a:=e) (b:=ks) r t=>by
  obtain ⟨bs,e1,e2,e3⟩:=qaN t
  obtain ⟨hh,v⟩:=e
  obtain ⟨r1,r2⟩:=r
  obtain ⟨b,_,_,_,eb,_⟩:=id r1
  dsimp only at eb r1 r2
  subst eb
  refine ⟨(b,ks)::bs,?_,?_,fun c hc=>?_⟩
  ·rw [List.map_cons,<- e1,r2]
  ·rw [List.map_cons,e2]
  ·rcases List.mem_cons.mp hc with rfl | hc
   ·exact r1
   ·exact e3 c hc
theorem qaY {P:Program}{w:World}{h:Heap}:∀ {bs:List (Addr×List Int)},(∀ b∈bs,yE h (.ref b.1) b.2)->PySem.Paired (ZI P w h) (bs.map (fun b=>(yh P w b.2,Value.ref b.1))) (bs.map (·.2))
 | [],_=>.nil
 | b::bs,k=>.cons ⟨k b qg,rfl⟩ (qaY fun c hc=>k c (qe _ hc))
section
variable {X:Cx}{pins:List (Addr×Obj)}{σ:St}{H:Hp}{s:Shared}
theorem qj0:∀ {ns:List Int}{us:List Value},yb (ns.map V.int) us->IntsAre us ns
 | [],_,.nil=>.nil
 | n::ns,_,.cons ⟨t,e⟩ r=>by
  subst e
  exact .cons n t (qj0 r)
theorem Inv.tupK (I:Inv X pins σ H s) {a:Addr}{ks:List Int}(h:JW X.K H (.ref a) ks):yE s.heap (.ref a) ks:=by
 obtain ⟨⟨a',e,ha⟩,hn⟩:=h
 cases e
 obtain ⟨its,r,⟨o,ho,hc,n,hd⟩,hz⟩:=I.tuple ha
 exact ⟨a,o,its.toArray,n,rfl,ho,hc,hd,by simpa using qj0 r,hn⟩
theorem Inv.tupsK (I:Inv X pins σ H s):∀ {us:List V}{its:List Value}{kss:List (List Int)},PySem.Paired (JW X.K H) us kss->yb us its->PySem.Paired (yE s.heap) its kss
 | _,_,_,.nil,.nil=>.nil
 | _,_,_,.cons h t,.cons r q=>by
  obtain ⟨⟨a,e,ha⟩,hn⟩:=id h
  subst e
  cases r
  exact .cons (I.tupK h) (Inv.tupsK I t q)
theorem Inv.setT (I:Inv X pins σ H s) {a:Addr}{bs:List (Addr×List Int)}(h:H a=some (qa6 X.prog X.w a bs)) (hb:InS X.K H bs):YN X.prog X.w (fun v=>∃ b∈bs,v=Value.ref b.1) s.heap a (bs.map (·.2)):=by
 obtain ⟨⟨o,es,ep,t,m,ho,ex,hd,pl,ld,mo,si,ee,nd⟩,_⟩:=I.hok a _ h
 refine ⟨o,es,ep,t,m,ho,ex,hd,pl,ld,mo,si,?_,nd,fun e he=>?_⟩
 ·rw [ee]
  exact qaY fun b hbb=>I.tupK (hb b hbb)
 ·rw [ee] at he
  obtain ⟨b,h1,rfl⟩:=qv.mp he
  exact ⟨b,h1,rfl⟩
theorem qeQ {us:List V}{its:List Value}(r:yb us its) {kss:List (List Int)}(h:PySem.Paired (JW X.K H) us kss) {b:Addr}(hb:Value.ref b∈its):∃ i:Nat,us[i]?=some (V.ref b):=by
 obtain ⟨i,ei⟩:=qU hb
 have hi:i<us.length:=by rw [r.length];exact (ql.mp ei).1
 obtain ⟨ks,_,⟨⟨a,e,_⟩,_⟩⟩:=L2.Paired.get h (List.getElem?_eq_getElem hi)
 obtain ⟨u,e1,e2⟩:=yb.get r (List.getElem?_eq_getElem hi)
 rw [ei] at e1
 cases e1
 rw [e] at e2
 have:Value.ref b=Value.ref a:=e2
 cases this
 exact ⟨i,by rw [List.getElem?_eq_getElem hi,e]⟩
def rSet (X:Cx):List V->Hp->VK->Prop:=fun xs H Q=>∃ (p:Addr) (us:List V) (kss:List (List Int)),xs=[.ref p]/\SqL X.K H p us/\PySem.Paired (JW X.K H) us kss/\(∀ ms:List (List Int),ms.Nodup->(∀ q∈ms,q∈kss)->ms.length<4900) ∧
 ∀ S bs,H S=none->InS X.K H bs->(∀ b∈bs,∃ i:Nat,us[i]?=some (V.ref b.1)/\kss[i]?=some b.2)->(∀ q,q∈bs.map (·.2) ↔ q∈kss)->(bs.map (·.2)).Nodup->bs.length<4915->Q (.ref S) (upd H S (qa6 X.prog X.w S bs))
theorem qev (hc:X.calm=true) (hu:X.A.units+64<cLine):yR X (.type "set") (rSet X):=by
 intro pins s σ H xs us Q I r h
 obtain ⟨p,vs,kss,rfl,hS,hT,hl,q⟩:=h
 obtain ⟨u,rfl,rx⟩:=Y8 r
 cases rx
 obtain ⟨its,rv,pl,_⟩:=I.list hS
 have hK:=I.tupsK hT rv
 have hlen:=rv.length
 refine qbX (I.ok.hd hc) pl.isList hK (fun ms nd hm=>yI (hl ms nd hm) (by decide)) hu fun h' tk ms S2 mem kp=>?_
 obtain ⟨o,es,ep,t,m,D⟩:=S2
 obtain ⟨bs,e1,e2,e3⟩:=qaN D.en
 subst e2
 have fr:H s.heap.objs.size=none:=I.hok.fresh (qj _)
 have own:∀ b∈bs,∃ i:Nat,vs[i]?=some (V.ref b.1):=fun b hb=>by
  refine qeQ rv hT (D.own (yh X.prog X.w b.2,Value.ref b.1) ?_)
  rw [e1]
  exact qv.mpr ⟨b,hb,rfl⟩
 have inS2:∀ b∈bs,JW X.K H (.ref b.1) b.2/\∃ i:Nat,vs[i]?=some (V.ref b.1)/\kss[i]?=some b.2:=fun b hb=>by
  obtain ⟨i,ei⟩:=own b hb
  obtain ⟨ks,ek,tn⟩:=L2.Paired.get hT ei
  have k1:yE h' (.ref b.1) ks:=(I.tupK tn).kept fun c ob e _=>kp c ob e
  have:=(k1.key (prog:=X.prog) (w:=X.w)).inj ((e3 b hb).key (prog:=X.prog) (w:=X.w))
  rw [<- this]
  exact ⟨tn,i,ei,ek⟩
 have inS:InS X.K H bs:=fun b hb=>(inS2 b hb).1
 have lt:bs.length<4915:=by
  have:=D.mok.le
  have z:es.toList.length=bs.length:=by rw [e1,List.length_map]
  rw [Array.length_toList] at z
  omega
 refine ⟨.ref s.heap.objs.size,_,I.laid (t':=tk) kp (qj _) (o:=qa6 X.prog X.w s.heap.objs.size bs) (qaq.ok ⟨o,es,ep,t,m,D.ho,D.ex,D.hd,D.pl,D.ld,D.mok,D.si,e1,D.nd⟩),rfl,q _ bs fr inS (fun b hb=>(inS2 b hb).2) mem D.nd lt⟩
theorem qfQ {h:Heap}{vs:List Value}{kss:List (List Int)}{p:Array Nat}(hT:PySem.Paired (yE h) vs kss) (hp:Arr vs.length p) :
  PySem.Paired (yE h) (qbN vs p) (p.toList.map fun i=>kss.getD i [])/\(p.toList.map fun i=>kss.getD i []).Perm kss:=by
 have lt:∀ i∈p.toList,i<vs.length:=fun i hi=>by
  have:=(Array.Perm.mem_iff hp (a:=i)).mp (Array.mem_toList_iff.mp hi)
  simpa using this
 constructor
 ·unfold qbN
  generalize p.toList=l at lt
  induction l with
  | nil=>exact .nil
  | cons i l ih=>exact .cons (jg hT i (lt i qg)) (ih fun j hj=>lt j (qe _ hj))
 ·have p1:p.toList.Perm (List.range vs.length):=by
   have:=yd.mp hp
   simpa using this
  refine (p1.map fun i=>kss.getD i []).trans ?_
  rw [L2.Paired.len hT]
  refine List.Perm.of_eq ?_
  apply List.ext_getElem?
  intro i
  simp only [List.getElem?_map,List.getElem?_range]
  by_cases hi:i<kss.length
  ·simp [hi]
  ·simp [hi]
theorem qiv {kss:List (List Int)}{n:Nat}{p:Array Nat}(hp:Arr n p) (hs:qcg (ltK kss) p n):Srt (p.toList.map fun i=>kss.getD i []):=by
 unfold Srt
 rw [yz]
 refine qL.mpr fun i j hi hj hij=>?_
 have hj':j<n:=by
  have:=hp.size
  simp at hj
  omega
 have:=hs i j (yf hij) hj'
 unfold ltK at this
 have:=of_decide_eq_false this
 have e1:gD p i=p.toList[i]:=by simp at hi;simp [gD,hi]
 have e2:gD p j=p.toList[j]:=by simp at hj;simp [gD,hj]
 rw [e1,e2] at this
 exact this
def qkB (H:Hp) (Pv:V->List Int->Prop) (kss:List (List Int)) (Q:VK):Prop:=∀ D vs ms,H D=none->PySem.Paired Pv vs ms->ms.Perm kss->Srt ms->Q (.ref D) (upd H D (.lst vs))
theorem qbT {Q:VK}{x:Value}{Pv:V->List Int->Prop}{kss:List (List Int)}(I:Inv X pins σ H s) (q:qkB H Pv kss Q) {R:List Value->List (List Int)->Prop}
  (hR:∀ vs ms,R vs ms->(∀ v∈vs,∃ b ks,v=Value.ref b/\JW X.K H (.ref b) ks/\Pv (.ref b) ks)/\ms.Perm kss) (hcol:∀ E',wpAny (model X.prog X.w) X.A.in1 (collect x) (qkF s R) E' s):wpAny (model X.prog X.w) X.A (call (.builtin "sorted") [x]) (EP X pins σ Q) X.xe s:=by
 refine qcD hcol fun vs ms p h' tk D e hr hp hs hT hz kp hD he=>?_
 obtain ⟨r1,r2⟩:=hR vs ms hr
 obtain ⟨a1,a2⟩:=qfQ hT hp
 have hV:∀ l:List Value,(∀ v∈l,∃ b ks,v=Value.ref b/\JW X.K H (.ref b) ks/\Pv (.ref b) ks)->∃ ws:List V,yb ws l/\∀ ks,PySem.Paired (yE h') l ks->PySem.Paired Pv ws ks:=by
  intro l
  induction l with
  | nil=>exact fun _=>⟨[],.nil,fun ks z=>(by cases z;exact .nil)⟩
  | cons v l ih =>
   intro hl
   obtain ⟨ws,w1,w3⟩:=ih fun u hu=>hl u (qe _ hu)
   obtain ⟨b,ks,rfl,tn,pv⟩:=hl v qg
   refine ⟨.ref b::ws,.cons rfl w1,fun ks' z=>?_⟩
   cases z with
    | cons z1 z2 =>
     refine .cons ?_ (w3 _ z2)
     have k1:yE h' (.ref b) ks:=(I.tupK tn).kept fun c ob e _=>kp c ob e
     have:=(k1.key (prog:=X.prog) (w:=X.w)).inj (z1.key (prog:=X.prog) (w:=X.w))
     rw [<- this]
     exact pv
 obtain ⟨ws,w1,w3⟩:=hV (qbN vs p) fun v hv=>by
  obtain ⟨i,hi,rfl⟩:=qv.mp hv
  have hlt:i<vs.length:=by
   have:=(Array.Perm.mem_iff hp (a:=i)).mp (Array.mem_toList_iff.mp hi)
   simpa using this
  rw [qz,List.getElem?_eq_getElem hlt]
  exact r1 _ (qO hlt)
 have hwl:ws.length<=sizeLine:=by
  rw [w1.length,ZG hp,sizeLine_eq]
  omega
 obtain ⟨hn,J⟩:=I.laidN (t':=tk) (o:=.lst ws) kp hD ⟨hwl,qbN vs p,e,w1,he⟩
 exact ⟨.ref D,_,J,rfl,q D ws _ hn (w3 _ a1) (a2.trans r2) (qiv hp hs)⟩
def qjd (X:Cx):List V->Hp->VK->Prop:=fun xs H Q=>∃ (S:Addr) (bs:List (Addr×List Int)),xs=[.ref S]/\H S=some (qa6 X.prog X.w S bs)/\InS X.K H bs/\bs.length<4900/\qkB H (fun v ks=>∃ b∈bs,v=V.ref b.1/\ks=b.2) (bs.map (·.2)) Q
theorem qce (hc:X.calm=true):yR X (.builtin "sorted") (qjd X):=by
 intro pins s σ H xs us Q I r h
 obtain ⟨S,bs,rfl,hS,hI,hl,q⟩:=h
 obtain ⟨u,rfl,rx⟩:=Y8 r
 cases rx
 obtain ⟨o,es,ep,t,m,D⟩:=I.setT hS hI
 have hz:=D.len
 rw [List.length_map] at hz
 refine qbT I q (R:=fun us ms=>(∀ v∈us,∃ b∈bs,v=Value.ref b.1)/\(bs.map (·.2)).Perm ms) ?_ fun E'=>qaW (by show X.A.handled=none;exact I.ok.hd hc) D.toB (by omega) fun h' tk kp=>?_
 ·rintro us ms ⟨h1,h2⟩
  refine ⟨fun v hv=>?_,h2.symm⟩
  obtain ⟨b,hb,rfl⟩:=h1 v hv
  exact ⟨b.1,b.2,rfl,hI b hb,b,hb,rfl,rfl⟩
 ·obtain ⟨ms,m1,m2⟩:=qaA (Yr X.w S ep es).symm D.en
  refine ⟨h',tk,ms,rfl,kp,?_,?_,?_,m2⟩
  ·have:∀ {l:List (Int×Value)}{ks:List (List Int)},PySem.Paired (ZI X.prog X.w s.heap) l ks->PySem.Paired (yE h') (l.map (·.2)) ks:=by
    intro l ks z
    induction z with
    | nil=>exact .nil
    | cons r _ ih=>exact .cons (r.1.kept fun b o e _=>kp b o e) ih
   exact this m1
  ·rw [List.length_map,Array.length_toList,jW];omega
  ·intro v hv
   obtain ⟨e,he,rfl⟩:=qv.mp hv
   exact D.own e ((Yr X.w S ep es).mem_iff.mp he)
def jO (ks:List Int):PyData:=.tuple (ks.map PyData.int)
variable {K:W.Frag}
theorem IsAll.tups {H:Hp}:∀ {us:List V}{kss:List (List Int)},IsAll K H us (kss.map jO)->(∀ k∈kss,k≠[])->PySem.Paired (JW K H) us kss
 | _,[],.nil,_=>.nil
 | _,k::kss,.cons h t,hn=>by
  refine .cons ?_ (IsAll.tups t fun z hz=>hn z (qe _ hz))
  unfold jO at h
  cases h with
  | @tup a xs _ h1 h2 =>
   rw [h2.ints_of] at h1
   exact ⟨⟨a,rfl,h1⟩,hn _ qg⟩
theorem JW.is {H:Hp}{v:V}{ks:List Int}(h:JW K H v ks):Is K H v (jO ks):=by
 obtain ⟨⟨a,rfl,h1⟩,_⟩:=h
 exact .tup h1 (IsAll.ints ks)
theorem JW.up {μ:Mu}{H:Hp}{v:V}{ks:List Int}(h:JW K (mask μ H) v ks):JW K H v ks:=h.same ym
def qcB (P:Program) (w:World) (K:W.Frag) (ms:List (List Int)):Stb where
 R v H:=∃ S bs,v = .ref S/\H S=some (qa6 P w S bs)/\InS K H bs/\bs.map (·.2)=ms/\ms.Nodup/\ms.length<4915
 st:=fun v H H' s ⟨S,bs,e,h1,h2,h3,h4,h5⟩=>⟨S,bs,e,s _ _ h1,h2.same s,h3,h4,h5⟩
def qcY (P:Program) (w:World) (K:W.Frag):RAd:=fun es μ Q=>match es with
 | [e]=>∃ kss:List (List Int),LstOf μ e (kss.map jO)/\(∀ k∈kss,k≠[])/\(∀ ms:List (List Int),ms.Nodup->(∀ q∈ms,q∈kss)->ms.length<4900)/\∀ ms,(∀ q,q∈ms ↔ q∈kss)->ms.Nodup->ms.length<4915->Q (.x (qcB P w K ms)) μ
 | _=>False
theorem qig {P:Program}{w:World}(hc:X.calm=true) (hu:X.A.units+64<cLine) (hK:X.K=K:=by rfl) (hP:X.prog=P:=by rfl) (hw:X.w=w:=by rfl):yR X (.type "set") (upC K (qcY P w K)):=by
 subst hK hP hw
 refine (qev hc hu).mono fun xs H Q h=>?_
 obtain ⟨μ,es,Q0,M,hp,q,cl⟩:=h
 unfold qcY at q
 split at q
 ·obtain ⟨v,rfl,i1⟩:=Yq hp
  obtain ⟨kss,h1,hne,h64,q⟩:=q
  obtain ⟨p,ys,rfl,h2,h3⟩:=h1.get M i1
  have hT:=IsAll.tups h3 hne
  refine ⟨p,ys,kss,rfl,h2,jE hT (fun x _ y h=>h.up),h64,fun S bs hS _ ix mem nd lt=>?_⟩
  obtain ⟨M4,s4,hn⟩:=M.laid (o:=qa6 X.prog X.w S bs) hS
  refine cl _ μ _ _ (q (bs.map (·.2)) mem nd (by rw [List.length_map];exact lt)) M4 s4 ⟨S,bs,rfl,?_,fun b hb=>?_,rfl,nd,by rw [List.length_map];exact lt⟩
  ·rw [q9 hn];exact qM
  ·obtain ⟨i,e1,e2⟩:=ix b hb
   obtain ⟨ks,e3,tn⟩:=L2.Paired.get hT e1
   rw [e2] at e3
   cases e3
   exact tn.same s4
 ·exact q.elim
def qi5 (P:Program) (w:World) (K:W.Frag):RAd:=fun es μ Q=>match es with
 | [e]=>∃ kss:List (List Int),LstOf μ e (kss.map jO)/\(∀ k∈kss,k≠[])/\kss.length<4900/\∀ ms,(∀ q,q∈ms ↔ q∈kss)->ms.Nodup->ms.length<4915->Q (.x (qcB P w K ms)) μ
 | _=>False
theorem qgA {P:Program}{w:World}(hc:X.calm=true) (hu:X.A.units+64<cLine) (hK:X.K=K:=by rfl) (hP:X.prog=P:=by rfl) (hw:X.w=w:=by rfl):yR X (.type "set") (upC K (qi5 P w K)):=by
 refine (qig hc hu hK hP hw).mono fun xs H Q h=>?_
 obtain ⟨μ,es,Q0,M,hp,q,cl⟩:=h
 refine ⟨μ,es,Q0,M,hp,?_,cl⟩
 unfold qi5 at q
 unfold qcY
 split at q
 ·obtain ⟨kss,h1,hne,h64,q⟩:=q
  exact ⟨kss,h1,hne,fun ms nd hm=>yW (YX nd hm) h64,q⟩
 ·exact q
def qhk (P:Program) (w:World) (K:W.Frag):RAd:=fun es μ Q=>∃ ms,es=[.x (qcB P w K ms)]/\ms.length<4900/\∀ ks,ks.Perm ms->Srt ks->Q (.d (.list (ks.map jO))) μ
theorem qbk {Pv:V->List Int->Prop}{H:Hp}:∀ {vs:List V}{ms:List (List Int)},PySem.Paired Pv vs ms->(∀ v k,Pv v k->Is K H v (jO k))->IsAll K H vs (ms.map jO)
 | _,_,.nil,_=>.nil
 | _,_,.cons h t,f=>.cons (f _ _ h) (qbk t f)
theorem qbB {P:Program}{w:World}(hc:X.calm=true) (hK:X.K=K:=by rfl) (hP:X.prog=P:=by rfl) (hw:X.w=w:=by rfl):yR X (.builtin "sorted") (upC K (qhk P w K)):=by
 subst hK hP hw
 refine (qce hc).mono fun xs H Q h=>?_
 obtain ⟨μ,es,Q0,M,hp,q,cl⟩:=h
 obtain ⟨ms,rfl,h64,q⟩:=q
 obtain ⟨v,rfl,i1⟩:=Yq hp
 obtain ⟨S,bs,rfl,h1,h2,rfl,h4,h5⟩:=i1
 rw [List.length_map] at h64
 refine ⟨S,bs,rfl,ym _ _ h1,fun b hb=>(h2 b hb).up,h64,fun D vs ks hD hP hp hs=>?_⟩
 obtain ⟨M4,s4,hn⟩:=M.laid (o:=.lst vs) hD
 refine cl _ μ _ _ (q ks hp hs) M4 s4 (.lst (SqL.of (by rw [q9 hn];exact qM)) (qbk hP fun v k hv=>?_))
 obtain ⟨b,hb,rfl,rfl⟩:=hv
 exact ((h2 b hb).same s4).is
end
open PySem PySem.Spec PyProof.Rows
theorem Room.u66 {k:Nat}{A:Around}(r:Room k A):A.units+66<cLine:=by have:=r.un;omega
section
variable {X:Cx}{K:W.Frag}
theorem qjA (hu:X.A.units+66<cLine):OpR X (compareOp .In) (fun x y H Q=>∃ d ds,Is X.K H x d/\Is X.K H y (.list ds)/\SeqAt.shaped d=true/\PyData.canLayAll0 ds=true/\Q (.bl (ds.any fun z=>z.eqv d)) H):=by
 intro pins s σ H x y v u Q I rx ry h
 obtain ⟨d,ds,h1,h2,h3,h4,q⟩:=h
 obtain ⟨as,ra⟩:=h1.reads I rx
 obtain ⟨bs,rb⟩:=h2.reads I ry
 unfold SeqAt.shaped at h3
 rw [Bool.and_eq_true] at h3
 have hd:=qy h3.2
 exact SeqAt.in_list_reads rb ra h4 h3.1 (by omega) ⟨.bl _,H,I,rfl,q⟩
theorem qdh (hu:X.A.units+66<cLine):OpR X (compareOp .NotIn) (fun x y H Q=>∃ d ds,Is X.K H x d/\Is X.K H y (.list ds)/\SeqAt.shaped d=true/\PyData.canLayAll0 ds=true/\Q (.bl (!ds.any fun z=>z.eqv d)) H):=by
 intro pins s σ H x y v u Q I rx ry h
 obtain ⟨d,ds,h1,h2,h3,h4,q⟩:=h
 obtain ⟨as,ra⟩:=h1.reads I rx
 obtain ⟨bs,rb⟩:=h2.reads I ry
 unfold SeqAt.shaped at h3
 rw [Bool.and_eq_true] at h3
 have hd:=qy h3.2
 exact SeqAt.notIn_list_reads rb ra h4 h3.1 (by omega) ⟨.bl _,H,I,rfl,q⟩
def rdIn (neg:Bool):R2d:=fun x y μ Q=>∃ d ds,x = .d d/\LstOf μ y ds/\SeqAt.shaped d=true/\PyData.canLayAll0 ds=true/\Q (.d (.bool (if neg then !ds.any fun z=>z.eqv d else ds.any fun z=>z.eqv d))) μ
theorem LstOf.is {μ:Mu}{e:En}{ds:List PyData}{H:Hp}{v:V}(h:LstOf μ e ds) (M:RelM K μ H) (i:IsE K μ H v e):Is K H v (.list ds):=by
 obtain ⟨p,xs,rfl,h1,h2⟩:=h.get M i
 exact .lst h1 (IsAll.same ym h2)
theorem qke (hu:X.A.units+66<cLine) (hK:X.K=K:=by rfl):OpR X (compareOp .In) (upR K (rdIn false)):=by
 subst hK
 refine (qjA hu).mono fun x y H Q h=>?_
 obtain ⟨μ,e,e',Q0,M,i1,i2,q,cl⟩:=h
 obtain ⟨d,ds,rfl,h1,h3,h4,q⟩:=q
 exact ⟨d,ds,Is.same ym i1,h1.is M i2,h3,h4,cl _ μ _ H q M (qY.refl _) (.bl _)⟩
theorem Zz (hu:X.A.units+66<cLine) (hK:X.K=K:=by rfl):OpR X (compareOp .NotIn) (upR K (rdIn true)):=by
 subst hK
 refine (qdh hu).mono fun x y H Q h=>?_
 obtain ⟨μ,e,e',Q0,M,i1,i2,q,cl⟩:=h
 obtain ⟨d,ds,rfl,h1,h3,h4,q⟩:=q
 exact ⟨d,ds,Is.same ym i1,h1.is M i2,h3,h4,cl _ μ _ H q M (qY.refl _) (.bl _)⟩
end
section
variable {X:Cx}{pins:List (Addr×Obj)}{σ:St}{H:Hp}{s:Shared}
theorem Inv.turnedL {fp:List Addr}{a:Addr}{o:HO}{h':Heap}{t':Nat}(I:Inv X pins σ H s) (hf:∀ b∈fp,Je X pins H b) (k:∀ b u,b∉fp->s.heap.get? b=some u->h'.get? b=some u)
  (hp:s.heap.objs.size<=a) (new:jn X.prog X.w (upd H a o) h' a o):Inv X pins σ (upd H a o) { s with heap:=h',toks:=t' }:=by
 have hn:H a=none:=I.hok.fresh hp
 have ha:∀ b u,s.heap.get? b=some u->b≠a:=fun b u e z=>absurd (qH (qh e) hp) (by rw [z];exact yc _)
 have nfp:∀ b u,H b=some u->b∉fp:=fun b u e z=>by
  have:=(hf b z).1
  rw [this] at e;cases e
 refine I.step (g':=s.gens) (d':=s.drawn) (ch:=fp) (fun b hb=>?_) (fun b u _ _ hc e _=>k b u hc e) (fun b u _ _ hc e _=>⟨u.slots,k b u hc e⟩) (fun b u _ e n=>by rw [qI (ha b u e)];exact n)
  (fun b u hc e=>⟨u,k b u hc e⟩) (fun b xs e=>by rw [qI (qC e hn)];exact e) (fun b u v e=>by rw [qI (qC e hn)];exact e) (fun b ps e=>⟨#[],by rw [qI (qC e hn),e];simp⟩) (fun m hm=>?_) (fun b u e=>?_) I.bare
 ·obtain ⟨_,f1,_,f3,f4,f5⟩:=hf b hb
  exact ⟨f3,f1,f4,f5⟩
 ·obtain ⟨u,es,ep,ho,r⟩:=hm
  exact ⟨u,es,ep,k _ u (fun z=>(hf _ z).2.1 rfl) ho,r⟩
 ·by_cases hb:b=a
  ·subst hb
   rw [qM] at e;cases e;exact new
  ·rw [qI hb] at e
   refine (I.hok b u e).stay (fun c v hc q=>k c v ?_ q) (fun c q=>by rw [qI (qC q hn)];exact q) fun c xs q=>by rw [qI (qC q hn)];exact q
   rcases hc with z | z
   ·rw [z];exact nfp b u e
   ·exact nfp c _ z
theorem Inv.turnedF {fp:List Addr}{h':Heap}{t':Nat}(I:Inv X pins σ H s) (hf:∀ b∈fp,Je X pins H b) (k:∀ b u,b∉fp->s.heap.get? b=some u->h'.get? b=some u):Inv X pins σ H { s with heap:=h',toks:=t' }:=by
 have nfp:∀ b u,H b=some u->b∉fp:=fun b u e z=>by
  have:=(hf b z).1
  rw [this] at e;cases e
 refine I.step (g':=s.gens) (d':=s.drawn) (ch:=fp) (fun b hb=>?_) (fun b u _ _ hc e _=>k b u hc e) (fun b u _ _ hc e _=>⟨u.slots,k b u hc e⟩) (fun b u _ e n=>n)
  (fun b u hc e=>⟨u,k b u hc e⟩) (fun b xs e=>e) (fun b u v e=>e) (fun b ps e=>⟨#[],by rw [e];simp⟩) (fun m hm=>?_) (fun b u e=>?_) I.bare
 ·obtain ⟨_,f1,_,f3,f4,f5⟩:=hf b hb
  exact ⟨f3,f1,f4,f5⟩
 ·obtain ⟨u,es,ep,ho,r⟩:=hm
  exact ⟨u,es,ep,k _ u (fun z=>(hf _ z).2.1 rfl) ho,r⟩
 ·refine (I.hok b u e).stay (fun c v hc q=>k c v ?_ q) (fun _ q=>q) fun _ _ q=>q
  rcases hc with z | z
  ·rw [z];exact nfp b u e
  ·exact nfp c _ z
end
def Ite (K:W.Frag) (a:Addr):It :=
 ⟨fun i H=>∃ xs x,SqL K H a xs/\xs[i]?=some x,fun i H v H'=>∃ t x,H t=none/\v = .ref t/\H'=upd H t (.tup [.int i,x])/\∀ xs,SqL K H a xs->xs[i]?=some x,fun i H=>∃ xs,SqL K H a xs/\xs.length<=i⟩
theorem qcy {P:Program}{w:World}{K:W.Frag}{elts:List Expr}{x1} {pos:Pos}(a e it:Addr) (hne:e≠it):Turn P w K (.Tuple elts x1 pos) (Ite K a) [e,it] e (fun i h=>(∃ old,IsEnum h e it ((i:Nat):Int) old)/\h.IsListIter it a i) where
 mem:=by simp
 obj:=fun i h st b hb=>by
  obtain ⟨⟨old,he⟩,o,ho,_,hd⟩:=st
  rcases List.mem_cons.mp hb with rfl | hb
  ·exact ⟨_,he,fun v z=>by cases z⟩
  ·have:b=it:=by simpa using hb
   subst this
   exact ⟨o,ho,fun v z=>by rw [hd] at z;cases z⟩
 keep:=fun i h h' st k=>by
  obtain ⟨⟨old,he⟩,hi⟩:=st
  exact ⟨⟨old,k e (by simp) _ he⟩,hi.at fun o q=>k it (by simp) o q⟩
 item:=by
  intro X hP hw hK hc i pins s σ H E I hf st hg
  subst hP hw hK
  obtain ⟨⟨old,he⟩,hi⟩:=st
  obtain ⟨xs,x,hq,hx⟩:=hg
  obtain ⟨its,rv,p,hz⟩:=I.list hq
  obtain ⟨u,hu,ru⟩:=rv.get hx
  have hes:e<s.heap.objs.size:=qh he
  refine wpAny_pyNext_enum_item he hi p.isList (x:=u) (by simpa using hu) hne fun h' heo hi' ht hsz hk=>⟨_,rfl,wpAny_letOwnedTupleGo_enum heo fun h2 he2 hs2=>?_⟩
  have hs2:Heap.SameBut e h' h2:=hs2
  have fr:H s.heap.objs.size=none:=I.hok.fresh (qj _)
  have keep:∀ b o,b∉[e,it]->s.heap.get? b=some o->h2.get? b=some o:=fun b o hb q=>by
   simp only [List.mem_cons,List.mem_nil_iff,or_false,not_or] at hb
   exact hs2.extBut b o hb.1 (hk b o hb.1 hb.2 q)
  have ht2:h2.get? s.heap.objs.size=some { cls:=.type "tuple",data:=.seq #[.int i s.toks,u] }:=(hs2.2 _ (Nat.ne_of_gt hes)).trans ht
  have I2:Inv X pins σ (upd H s.heap.objs.size (.tup [.int i,x])) { s with heap:=h2,toks:=s.toks+1 }:=I.turnedL hf keep (qj _) ⟨sz2,[.int i s.toks,u],.cons ⟨_,rfl⟩ (.cons ru .nil),⟨_,ht2,rfl,_,rfl⟩⟩
  refine ⟨.ref s.heap.objs.size,_,I2,rfl,⟨_,x,fr,rfl,rfl,fun ys hy=>by rw [I.list_inj hy hq];exact hx⟩,⟨⟨u,?_⟩,?_⟩,fun b hb=>?_⟩
  ·have:((i+1:Nat):Int)=(i:Int)+1:=by omega
   rw [this];exact he2
  ·exact hi'.extBut hs2.extBut (Ne.symm hne)
  ·have hb':=(hf b hb).1
   have:b≠s.heap.objs.size:=by
    rcases List.mem_cons.mp hb with rfl | hb
    ·exact qk hes
    ·have:b=it:=by simpa using hb
     subst this
     obtain ⟨o,ho,_⟩:=hi
     exact qk (qh ho)
   rw [qI this];exact hb'
 done:=by
  intro X hP hw hK hc i pins s σ H E I hf st hg
  subst hP hw hK
  obtain ⟨⟨old,he⟩,hi⟩:=st
  obtain ⟨xs,hq,hx⟩:=hg
  obtain ⟨its,rv,p,hz⟩:=I.list hq
  have hl:=rv.length
  refine wpAny_pyNext_enum_end (I.ok.hd hc) he hi p.isList (by simp;omega) fun h' eb=>⟨rfl,?_⟩
  exact I.turnedF (t':=s.toks) hf fun b o hb q=>eb b o (fun z=>hb (by simp [z])) q
 self:=fun _ _ _ _ _ st h=>wpAny_pyIter_enum (Classical.choose_spec st.1) h
def iEnum (K:W.Frag) (ta:TA):TI:=fun σ H R=>ta σ H fun vs H1=>∃ a,vs=[.ref a]/\(∃ xs,SqL K H1 a xs)/\R (Ite K a) H1
section
variable {X:Cx}{K:W.Frag}
theorem qhs {l:Expr}{ta:TA}{elts:List Expr}{x1} {tpos p pos:Pos}(hg:Gl X "enumerate") (hm:X.mg "enumerate" = none) (ha:PA X [l] ta) (hs:starEach [l] X.env=[(false,eval l X.env)]:=by rfl) :
  PI X (.Tuple elts x1 tpos) (.Call (.Name "enumerate" p) [l] [] pos) (iEnum X.K ta):=by
 intro pins s σ H R I h
 refine Call_ (YZ I hg hm boot_enumerate (PyProof.Rows.callWith_type1 (thn (ha pos pins s σ H _ I h) fun us s1 ⟨vs,H1,I1,r1,q1⟩=>?_) hs rfl))
 obtain ⟨a,e,⟨xs,hq⟩,q⟩:=q1
 subst e
 obtain ⟨u,rfl,rx⟩:=Y8 r1
 cases rx
 obtain ⟨its,rv,pl,hz⟩:=I1.list hq
 refine call_enumerate_list pl.isList fun h' he hi hsz hk=>?_
 have I2:Inv X pins σ H1 { s1 with heap:=h' }:=I1.kept (t':=s1.toks) hk
 refine wpAny_pyIter_enum he ?_
 refine ⟨s1.heap.objs.size+1,[s1.heap.objs.size+1,s1.heap.objs.size],_,_,H1,rfl,I2,qcy a _ _ (Nat.ne_of_gt (yu _)),⟨⟨_,he⟩,hi⟩,fun b hb=>?_,q⟩
 have hb':s1.heap.objs.size<=b:=by
  rcases List.mem_cons.mp hb with z | z
  ·rw [z];exact Nat.le_succ _
  ·have:b=s1.heap.objs.size:=by simpa using z
   rw [this];exact qj _
 exact I1.fpOk hb' (I1.hok.fresh hb')
def qef (ds:List PyData):List PyData:=(List.range ds.length).map fun (i:Nat)=>.tuple [.int (i:Int),ds.getD i .none]
def itE (e:En) (ds:List PyData):Itd:=⟨ds.length,fun i=>.d (.tuple [.int (i:Int),ds.getD i .none]),fun μ=>LstOf μ e ds⟩
def diE (ta:TAd):TId:=fun ρ μ Q=>ta ρ μ fun es μ1=>match es with
 | [e]=>∃ ds,LstOf μ1 e ds/\Q (itE e ds) μ1
 | _=>False
theorem qif {l:Expr}{ta:TAd}{elts:List Expr}{x1} {tpos p pos:Pos}(hg:Gl X "enumerate") (hm:X.mg "enumerate" = none) (ha:DA K X [l] ta) (hK:X.K=K:=by rfl) (hs:starEach [l] X.env=[(false,eval l X.env)]:=by rfl) :
  DI K X (.Tuple elts x1 tpos) (.Call (.Name "enumerate" p) [l] [] pos) (diE ta):=by
 subst hK
 refine PI.mono (qhs hg hm ha hs) fun σ H R hq9=>?_
 obtain ⟨ρ,μ,Q0,hS,hM,h,cl⟩:=hq9
 refine ⟨ρ,μ,_,hS,hM,h,fun es μ1 vs H1 q M1 s1 i1=>?_⟩
 split at q
 ·rename_i e
  obtain ⟨v,rfl,h1⟩:=Yq i1
  obtain ⟨ds,hL,q⟩:=q
  obtain ⟨p,xs,rfl,a1,a2⟩:=hL.get M1 h1
  refine ⟨p,rfl,⟨xs,a1⟩,cl _ μ1 _ H1 q M1 s1 fun μ' H' M' s' hok i=>?_⟩
  obtain ⟨p',xs',e',h3,h4⟩:=LstOf.get hok M' (h1.same s')
  cases e'
  have hl:=h4.len
  refine ⟨fun hi=>⟨⟨xs',xs'[i]'(by rw [hl];exact hi),h3,by simp⟩,?_⟩,fun hi=>⟨xs',h3,by rw [hl];exact hi⟩⟩
  rintro x H2 ⟨t,y,ht,rfl,rfl,hx⟩
  obtain ⟨M2,s2,hn⟩:=M'.laid (o:=.tup [.int i,y]) ht
  obtain ⟨d,e1,e2⟩:=h4.get (hx xs' h3)
  refine ⟨M2,s2,?_⟩
  show Is X.K (mask μ' (upd H' t (.tup [.int i,y]))) (.ref t) (.tuple [.int i,ds.getD i .none])
  rw [jd e1]
  exact .tup (SqT.of (by rw [q9 hn];exact qM)) (.cons (.int _) (.cons (Is.same s2 e2) .nil))
 ·exact q.elim
theorem Z6 (ds:List PyData):(qef ds).length=ds.length:=by simp [qef]
theorem qee {ds:List PyData}{i:Nat}{x:PyData}(h:ds[i]?=some x):(qef ds)[i]?=some (.tuple [.int (i:Int),x]):=by
 have hi:i<ds.length:=(ql.mp h).1
 unfold qef
 rw [List.getElem?_map,List.getElem?_range hi,<- jd h]
 rfl
theorem Src.e {e:En}{ds:List PyData}{μ:Mu}(h:LstOf μ e ds):Src (itE e ds) (qef ds) μ:=by
 refine ⟨(Z6 ds).symm,fun i x q=>?_,h⟩
 have hi:i<ds.length:=by
  have:=(ql.mp q).1
  rwa [Z6] at this
 rw [qee (List.getElem?_eq_getElem hi)] at q
 cases q
 show En.d (.tuple [.int (i:Int),ds.getD i .none])=_
 rw [jd (List.getElem?_eq_getElem hi)]
end
section
variable {prog:Program}{w:World}{A:Around}{R:Result->Shared->Prop}{s:Shared}
abbrev two (elt t1 i1 t2 i2:Expr) (f1 f2:List Expr) (scope:Scope) (pos:Pos):Expr:=.ListComp elt [⟨t1,i1,f1,0⟩,⟨t2,i2,f2,0⟩] scope pos
theorem JI {elt t1 i1 t2 i2:Expr}{f1 f2:List Expr}{scope:Scope}{pos:Pos}{it acc:Value}{env:Env}
  (h0:codeAny (model prog w) A (.compLoop (two elt t1 i1 t2 i2 f1 f2 scope pos) 1 it acc env) R s)
  (h:wpAny (model prog w) A (pyIter it) (fun it' s'=>codeAny (model prog w) A (.compLoop (two elt t1 i1 t2 i2 f1 f2 scope pos) 1 it' acc env) R s') (notedBy (model prog w) A env fun x s'=>R (Except.error x) s') s) :
  codeAny (model prog w) A (.compStart (two elt t1 i1 t2 i2 f1 f2 scope pos) 1 it acc env) R s:=by
 refine codeAny_of_tree ?_
 refine wpAny_notedAt ?_
 refine qa (jx (wpAny_ite ?_))
 split
 ·exact qa (qd (qd ⟨rfl,h0⟩))
 ·exact qa (jC (qa (yS (qa (qF h (fun it' s' h'=>qd ⟨rfl,h'⟩) fun _ _ z=>z)))))
theorem qhQ {elt t1 i1 t2 i2:Expr}{f1 f2:List Expr}{scope:Scope}{pos:Pos}{it acc:Value}{env:Env}(I:Nat->Shared->Prop)
  (turn:∀ n s,I n s->wpAny (model prog w) A (pyNext it) (fun r s₁=>match r with
   | none=>R (.ok .next) s₁
   | some v=>wpAny (model prog w) A (letOwnedTupleGo t2 it v) (fun _ s₁'=>wpAny (model prog w) A (assign t2 env v) (fun _ s₂ =>
     wpAny (model prog w) A (forIn f2 true fun c r=>if r=true then do let ok <- isTrue c env (eval c env);pure (ForInStep.yield ok) else pure (ForInStep.yield r)) (fun ok s₃ =>
      if ok=true then wpAny (model prog w) A (eval elt env) (fun x s₄ =>
       wpAny (model prog w) A (call (.builtin "list.append") [acc,x]) (fun _ s₅=>∃ m,m<n/\I m s₅) (fun _ _=>False) s₄) (fun _ _=>False) s₃
      else ∃ m,m<n/\I m s₃) (fun _ _=>False) s₂) (fun _ _=>False) s₁') (fun _ _=>False) s₁) (fun _ _=>False) s)
  (n:Nat) (h:I n s):codeAny (model prog w) A (.compLoop (two elt t1 i1 t2 i2 f1 f2 scope pos) 1 it acc env) R s:=by
 refine codeAny_loop rfl I (fun n s hI=>?_) n h
 show wpAny _ A ((compTurn (two elt t1 i1 t2 i2 f1 f2 scope pos) 1 it acc env).onRaise (fun x=>do noteFrame x env;theTreesLotGoes x)) _ _ s
 refine wpAny_noted ?_
 show wpAny _ A (do
  standAt i2.pos
  let o <- pyNext it
  match o with
   | none=>pure (Fin.done Flow.next)
   | some v=>do
    letOwnedTupleGo t2 it v
    assign t2 env v
    let ok <- forIn f2 true fun c r=>if r=true then do let ok <- isTrue c env (eval c env);pure (ForInStep.yield ok) else pure (ForInStep.yield r)
    if ok=true then do
      let _ <- (do let x <- eval elt env;let _ <- call (.builtin "list.append") [acc,x];pure ())
      again (.compLoop (two elt t1 i1 t2 i2 f1 f2 scope pos) 1 it acc env)
     else again (.compLoop (two elt t1 i1 t2 i2 f1 f2 scope pos) 1 it acc env)) _ _ s
 refine qa (yS (qa (qF (turn n s hI) (fun r s₁ h₁=>?_) fun _ _ h'=>h'.elim)))
 cases r with
 | none=>exact qd h₁
 | some v =>
  refine qa (qF h₁ (fun _ s₁' h₁'=>?_) fun _ _ h'=>h'.elim)
  refine qa (qF h₁' (fun _ s₂ h₂=>qa (qF h₂ (fun ok s₃ h₃=>?_) fun _ _ h'=>h'.elim)) fun _ _ h'=>h'.elim)
  cases ok with
  | false=>exact qd ⟨rfl,h₃⟩
  | true =>
   exact qa (qa (qF h₃ (fun x s₄ h₄=>qa (qF h₄ (fun _ s₅ h₅=>qd (qd ⟨rfl,h₅⟩)) fun _ _ h'=>h'.elim)) fun _ _ h'=>h'.elim))
theorem qfu {elt t1 i1 t2 i2:Expr}{f1 f2:List Expr}{scope:Scope}{pos:Pos}{it acc:Value}{env:Env}(hs:∀ x,foldedSetIterable i2 env x=pure x) (I:Nat->Shared->Prop)
  (turn:∀ n s,I n s->wpAny (model prog w) A (pyNext it) (fun r s₁=>match r with
   | none=>R (.ok .next) s₁
   | some v=>wpAny (model prog w) A (letOwnedTupleGo t1 it v) (fun _ s₁'=>wpAny (model prog w) A (assign t1 env v) (fun _ s₂ =>
     wpAny (model prog w) A (forIn f1 true fun c r=>if r=true then do let ok <- isTrue c env (eval c env);pure (ForInStep.yield ok) else pure (ForInStep.yield r)) (fun ok s₃ =>
      if ok=true then wpAny (model prog w) A (eval i2 env) (fun x s₄ =>
       wpAny (model prog w) A (pyIter x) (fun it2 s₅=>codeAny (model prog w) A (.compStart (two elt t1 i1 t2 i2 f1 f2 scope pos) 1 it2 acc env) (fun r s₆=>r = .ok .next/\∃ m,m<n/\I m s₆) s₅) (fun _ _=>False) s₄) (fun _ _=>False) s₃
      else ∃ m,m<n/\I m s₃) (fun _ _=>False) s₂) (fun _ _=>False) s₁') (fun _ _=>False) s₁) (fun _ _=>False) s)
  (n:Nat) (h:I n s):codeAny (model prog w) A (.compLoop (two elt t1 i1 t2 i2 f1 f2 scope pos) 0 it acc env) R s:=by
 refine codeAny_loop rfl I (fun n s hI=>?_) n h
 show wpAny _ A ((compTurn (two elt t1 i1 t2 i2 f1 f2 scope pos) 0 it acc env).onRaise (fun x=>do noteFrame x env;theTreesLotGoes x)) _ _ s
 refine wpAny_noted ?_
 show wpAny _ A (do
  standAt i1.pos
  let o <- pyNext it
  match o with
   | none=>pure (Fin.done Flow.next)
   | some v=>do
    letOwnedTupleGo t1 it v
    assign t1 env v
    let ok <- forIn f1 true fun c r=>if r=true then do let ok <- isTrue c env (eval c env);pure (ForInStep.yield ok) else pure (ForInStep.yield r)
    if ok=true then do
      let x <- eval i2 env
      standAt i2.pos
      let x <- foldedSetIterable i2 env x
      let it2 <- holding [x] (pyIter x)
      let _ <- runOwn (.compStart (two elt t1 i1 t2 i2 f1 f2 scope pos) 1 it2 acc env) env
      again (.compLoop (two elt t1 i1 t2 i2 f1 f2 scope pos) 0 it acc env)
     else again (.compLoop (two elt t1 i1 t2 i2 f1 f2 scope pos) 0 it acc env)) _ _ s
 refine qa (yS (qa (qF (turn n s hI) (fun r s₁ h₁=>?_) fun _ _ h'=>h'.elim)))
 cases r with
 | none=>exact qd h₁
 | some v =>
  refine qa (qF h₁ (fun _ s₁' h₁'=>?_) fun _ _ h'=>h'.elim)
  refine qa (qF h₁' (fun _ s₂ h₂=>qa (qF h₂ (fun ok s₃ h₃=>?_) fun _ _ h'=>h'.elim)) fun _ _ h'=>h'.elim)
  cases ok with
  | false=>exact qd ⟨rfl,h₃⟩
  | true =>
   refine qa (qF h₃ (fun x s₄ h₄=>qa (yS ?_)) fun _ _ h'=>h'.elim)
   rw [hs]
   refine qa (qd (qa (qX (qF h₄ (fun it2 s₅ h₅=>?_) fun _ _ h'=>h'.elim))))
   refine qa (wpAny_runOwn (h:=none) (codeAny_mono h₅ fun r s₆ ⟨e,h₆⟩=>?_))
   subst e
   exact qd ⟨rfl,h₆⟩
end
def qcz (k:Nat) (g:TG) (tt:TT) (wi2:TI) (g2:TG) (tt2:TT) (te:TE) (σ:St) (Q:VK) (J:It) (H1:Hp):Prop:=∃ W:Nat->Nat->List V->St->Hp->Prop,(∃ m,W 0 m [] (σ++List.replicate k none) H1)/\∀ i m ys σ' H,W i m ys σ' H →
 (J.stop i H/\∀ D,H D=none->Q (.ref D) (upd H D (.lst ys))) ∨
 (J.go i H/\∃ N:List V->St->Hp->Prop,(∀ ys' σ' H',N ys' σ' H'->∃ m',m'<m/\W (i+1) m' ys' σ' H') ∧
  ∀ x H',J.yld i H x H'->g x σ' H' fun σ2 H2=>tt σ2 H2 fun b H3=>if b=true then wi2 σ2 H3 fun J2 H4 =>
   ∃ W2:Nat->Nat->List V->St->Hp->Prop,(∃ m,W2 0 m ys σ2 H4)/\∀ i m ys σ' H,W2 i m ys σ' H →
    (J2.stop i H/\N ys σ' H) ∨
    (J2.go i H/\ys.length<sizeLine/\∃ N2:List V->St->Hp->Prop,(∀ ys' σ' H',N2 ys' σ' H'->∃ m',m'<m/\W2 (i+1) m' ys' σ' H') ∧
     ∀ x H',J2.yld i H x H'->g2 x σ' H' fun σ2 H2=>tt2 σ2 H2 fun b H3=>if b=true then te σ2 H3 fun y H4=>N2 (ys++[y]) σ2 H4 else N2 ys σ2 H3)
   else N ys σ2 H3)
def qf3 (k:Nat) (wi:TI) (g:TG) (tt:TT) (wi2:TI) (g2:TG) (tt2:TT) (te:TE):TE:=fun σ H Q=>wi σ H (qcz k g tt wi2 g2 tt2 te σ Q)
section
variable {X:Cx}
theorem qaV {pins:List (Addr×Obj)}{σ:St}{H:Hp}{s₂:Shared}{L:List Str}{scope:Scope}{cl:List (Str×Addr)}{fp:List Addr}{sc:Scope}{N:List Str}{tg elt iter tg2 iter2:Expr}{ifs ifs2:List Expr}{pos:Pos}
  {g:TG}{tt:TT}{wi2:TI}{g2:TG}{tt2:TT}{te:TE}{Q:VK}{J:It}{it:Addr}{tn:Nat->Heap->Prop}{RR:Value->Addr->Result->Shared->Prop}{E:Value->Shared->Prop}
  (hc:X.calm=true) (hsc:X.env.scope=sc) (hN:X.N=N) (ok:jl sc N L scope=true) (hc1:∀ x c,cl.lookup x=some c->X.env.cells.lookup x=some c)
  (hc2:∀ y∈scope.names,y.2 = .free->∃ c,cl.lookup y.1=some c)
  (hg:∀ cl C s₂ H₂ fp,PG (qE X L scope cl C s₂ H₂ fp) tg g) (hi:∀ cl C s₂ H₂ fp,Ifs (qE X L scope cl C s₂ H₂ fp) ifs tt) (hi2:∀ cl C s₂ H₂ fp,PI (qE X L scope cl C s₂ H₂ fp) tg2 iter2 wi2) (hg2:∀ cl C s₂ H₂ fp,PG (qE X L scope cl C s₂ H₂ fp) tg2 g2) (hf2:∀ cl C s₂ H₂ fp,Ifs (qE X L scope cl C s₂ H₂ fp) ifs2 tt2) (he:∀ cl C s₂ H₂ fp,PE (qE X L scope cl C s₂ H₂ fp) elt te)
  (hs2:∀ env x,foldedSetIterable iter2 env x=pure x)
  (I:Inv X pins σ H s₂) (T:Turn X.prog X.w X.K tg J fp it tn) (st:tn 0 s₂.heap) (hf:∀ b∈fp,Je X pins H b) (hw:qcz L.length g tt wi2 g2 tt2 te σ Q J H)
  (hR:∀ D C m H' s' ys,s'.heap.Ns C m->s₂.heap.objs.size=D->s₂.heap.objs.size<C->H' C=none->D≠C->Inv X pins σ (upd H' D (.lst ys)) s'->Q (.ref D) (upd H' D (.lst ys))->RR (.ref D) C (.ok .next) s') :
  wpAny (model X.prog X.w) X.A (newList []) (fun acc s₃=>wpAny (model X.prog X.w) X.A (newFunctionEnv scope X.env.globals cl [] X.env.qual none .none (some X.env)) (fun cenv s₄ =>
   codeAny (model X.prog X.w) X.A (.compStart (two elt tg iter tg2 iter2 ifs ifs2 scope pos) 0 (.ref it) acc { cenv with scope:=relabel scope X.env }) (RR acc cenv.locals) s₄) E s₃) E s₂:=by
 refine yJ (wpAny_newFunctionEnv (fun y hy=>(yC ok hy).1) (by intro y hy;simp at hy) (fun h₁ hns₁ hsb₁=>?_) (yL ok))
 dsimp only at hns₁ hsb₁ ⊢
 generalize hH2:s₂.heap.push { cls:=.type "list",dict:=none,data:=.seq ([]:List Value).toArray }=H2 at hns₁ hsb₁ ⊢
 have hC:H2.objs.size=s₂.heap.objs.size+1:=by rw [<- hH2,Heap.size_push]
 have hCle:s₂.heap.objs.size<=H2.objs.size:=by rw [hC];exact Nat.le_succ _
 have hDC:s₂.heap.objs.size≠H2.objs.size:=by rw [hC];exact qk (yu _)
 have hlt:∀ b∈fp,b<s₂.heap.objs.size:=fun b hb=>by
  obtain ⟨o,e,_⟩:=T.obj 0 _ st b hb
  exact qh e
 have below:∀ b,b<s₂.heap.objs.size->b≠H2.objs.size:=fun b hb=>by rw [hC];exact qk (Nat.lt_succ_of_lt hb)
 have old:∀ b o,s₂.heap.get? b=some o->h₁.get? b=some o:=fun b o e=>hsb₁.extBut b o (below b (qh e)) (qc _ (hH2 ▸ qc _ e))
 have hacc:h₁.get? s₂.heap.objs.size=some { cls:=.type "list",data:=.seq ([]:List Value).toArray 0 }:=hsb₁.extBut _ _ hDC (qc _ (hH2 ▸ qx _ rfl))
 have Yok:=qaU (L:=L) (scope:=scope) (cl:=cl) (C:=H2.objs.size) (fp:=fp) I hsc hN ok hc1 hc2 hf hlt hCle
 generalize hDn:s₂.heap.objs.size=D at *
 generalize hCn:H2.objs.size=C at *
 have st₁:tn 0 h₁:=T.keep _ _ _ st fun b _ o e=>old b o e
 -- the block's own iterators
 have cellD:∀ x c,cl.lookup x=some c->c≠D:=fun x c e=>by
  obtain ⟨v,q⟩:=I.cell x c (hc1 x c e)
  rw [<- hDn]
  exact qk q.lt
 have fpY:∀ {H':Hp}{its:List Value}{n:Nat},(∀ b∈fp,H' b=none)->∀ b∈fp,Je (qE X L scope cl C s₂ H fp) [(D,{ cls:=.type "list",data:=.seq its.toArray n })] H' b:=fun {H' its n} hn b hb=>by
  refine ⟨hn b hb,(Yok.exf b hb).1,Yok.exfs b hb,.inl hb,(Yok.exf b hb).2,fun p hp=>?_⟩
  have e:p=(D,{ cls:=.type "list",data:=.seq its.toArray n }):=by
   have:p∈[(D,({ cls:=.type "list",data:=.seq its.toArray n }:Obj))]:=hp
   simpa using this
  subst e
  exact Ne.symm (qk (hlt b hb))
 have nfsD:D∉(qE X L scope cl C s₂ H fp).fs:=fun z=>by
  obtain ⟨_,o,ho,_⟩:=Yok.funs.mem z
  exact absurd (show D<s₂.heap.objs.size from qh ho) (by rw [hDn];exact yc _)
 have pinD:∀ {σ':St}{H':Hp}{s':Shared}{pl:List (Addr×Obj)}{its:List Value}{n:Nat},Inv (qE X L scope cl C s₂ H fp) pl σ' H' s'->s'.heap.get? D=some { cls:=.type "list",data:=.seq its.toArray n }->H' D=none →
   Inv (qE X L scope cl C s₂ H fp) [(D,{ cls:=.type "list",data:=.seq its.toArray n })] σ' H' s':=fun {σ' H' s' pl its n} J e hn=>J.pins_of fun p hp=>by
  have e':p=(D,{ cls:=.type "list",data:=.seq its.toArray n }):=by simpa using hp
  subst e'
  exact ⟨e,hn,hDC,nfsD,fun v z=>by cases z⟩
 have I₁:Inv (qE X L scope cl C s₂ H fp) [] (σ++List.replicate L.length none) H { s₂ with heap:=h₁,toks:=s₂.toks+([]:List (Str×Value)).length } :=
  JG I hsc hN ok hc1 Yok (by rw [hDn];exact hCle) rfl I.bare old hns₁
 have HD:H D=none:=I.hok.fresh (by rw [hDn];exact qj _)
 obtain ⟨W,⟨m0,w0⟩,turn⟩:=hw
 have loop:codeAny (model X.prog X.w) X.A (.compLoop (two elt tg iter tg2 iter2 ifs ifs2 scope pos) 0 (.ref it) (.ref D) (compEnvC scope cl C X.env)) (RR (.ref D) C)
   { s₂ with heap:=h₁,toks:=s₂.toks+([]:List (Str×Value)).length }:=by
  refine qfu (hs2 _) (fun n s'=>∃ i ys its k σ' H',Inv (qE X L scope cl C s₂ H fp) [(D,{ cls:=.type "list",data:=.seq its.toArray k })] σ' H' s'/\yb ys its/\ys.length<=sizeLine/\tn i s'.heap/\(∀ b∈fp,H' b=none)/\W i n ys σ' H')
   ?_ m0 ⟨0,[],[],0,_,H,pinD I₁ hacc HD,.nil,qN _,st₁,fun b hb=>(hf b hb).1,w0⟩
  rintro n s3 ⟨i,ys,its,k,σ3,H3,I3,hv3,hz3,st3,fr3,w3⟩
  have hp3:=I3.pin (D,{ cls:=.type "list",data:=.seq its.toArray k }) (by simp)
  rcases turn i n ys σ3 H3 w3 with ⟨stop,q⟩ | ⟨go,Nx,hNx,step⟩
  ·refine thn (T.done (qE X L scope cl C s₂ H fp) rfl rfl rfl hc i _ s3 σ3 H3 _ I3 (fpY fr3) st3 stop) fun r s4 ⟨hr,I4⟩=>?_
   subst hr
   have hp4:=I4.pin (D,{ cls:=.type "list",data:=.seq its.toArray k }) (by simp)
   obtain ⟨m4,hn4,_⟩:=I4.loc
   exact hR D C m4 H3 s4 ys hn4 rfl (by rw [hC];exact yu _) I4.free hDC (qae I hf hDn I4 hp4.1 hp4.2.1 hv3 hz3) (q D hp4.2.1)
  ·refine thn (T.item (qE X L scope cl C s₂ H fp) rfl rfl rfl hc i _ s3 σ3 H3 _ I3 (fpY fr3) st3 go) fun r s4 ⟨u,hr,h4⟩=>?_
   subst hr
   refine thn h4 fun _ s5 hq9=>?_
   obtain ⟨x,H5,I5,r5,y5,st5,fr5⟩:=hq9
   have I5':=I5.pinned (fpY fr5) (T.obj _ _ st5)
   refine thn (hg cl C s₂ H fp _ s5 σ3 H5 x u _ I5' r5 (step x H5 y5)) fun _ s6 hq9=>?_
   obtain ⟨σ6,H6,I6,q6⟩:=hq9
   refine thn (hi cl C s₂ H fp _ s6 σ6 H6 _ I6 q6) fun ok s7 hq9=>?_
   obtain ⟨H7,I7,q7⟩:=hq9
   have later:∀ {σ':St}{H':Hp}{s':Shared},Inv (qE X L scope cl C s₂ H fp) ([(D,{ cls:=.type "list",data:=.seq its.toArray k })]++jD fp s5.heap) σ' H' s' →
     tn (i+1) s'.heap/\(∀ b∈fp,H' b=none)/\s'.heap.get? D=some { cls:=.type "list",data:=.seq its.toArray k }/\H' D=none:=fun {σ' H' s'} J=>by
    refine ⟨T.keep _ _ _ st5 fun b hb o e=>(J.pin (b,o) (qb _ (qb _ (yn hb e)))).1,fun b hb=>?_,?_⟩
    ·obtain ⟨o,e,d⟩:=T.obj _ _ st5 b hb
     exact (J.pin (b,o) (qb _ (qb _ (yn hb e)))).2.1
    ·have z:=J.pin (D,{ cls:=.type "list",data:=.seq its.toArray k }) (qb _ (qp _ (by simp)))
     exact ⟨z.1,z.2.1⟩
   cases ok with
   | false =>
    rw [if_neg (by simp)] at q7 ⊢
    obtain ⟨m',hm',w'⟩:=hNx _ _ _ q7
    obtain ⟨t1,t2,t3,t4⟩:=later I7
    exact ⟨m',hm',i+1,ys,its,k,σ6,H7,pinD I7 t3 t4,hv3,hz3,t1,t2,w'⟩
   | true =>
    rw [if_pos rfl] at q7 ⊢
    refine thn (hi2 cl C s₂ H fp _ s7 σ6 H7 _ I7 q7) fun v2 s8 h8=>thn h8 fun itv s9 h9=>?_
    obtain ⟨it2,fp2,tn2,J2,H9,e9,I9,T2,st9,f9,W2,⟨m2,w9⟩,turn2⟩:=h9
    subst e9
    have fp2Y:∀ {H':Hp}{its':List Value}{k':Nat},(∀ b∈fp2,H' b=none)->∀ b∈fp2,Je (qE X L scope cl C s₂ H fp) ([(D,{ cls:=.type "list",data:=.seq its'.toArray k' })]++jD fp s5.heap) H' b:=fun {H' its' k'} hn b hb=>by
     obtain ⟨_,z1,z2,z3,z4,z5⟩:=f9 b hb
     refine ⟨hn b hb,z1,z2,z3,z4,fun p hp=>?_⟩
     rcases List.mem_append.mp hp with hp | hp
     ·exact z5 p (qp _ hp)
     ·rcases List.mem_append.mp hp with hp | hp
      ·have e:p=(D,{ cls:=.type "list",data:=.seq its'.toArray k' }):=by simpa using hp
       subst e
       exact z5 (D,{ cls:=.type "list",data:=.seq its.toArray k }) (qb _ (qp _ (by simp)))
      ·exact z5 p (qb _ (qb _ hp))
    have nbD:∀ b∈fp,b≠D:=fun b hb=>qk (hlt b hb)
    have outer:∀ {σ':St}{H':Hp}{s':Shared}{ys':List V}{its':List Value}{k':Nat}{pl:List (Addr×Obj)},Inv (qE X L scope cl C s₂ H fp) ([(D,{ cls:=.type "list",data:=.seq its'.toArray k' })]++jD fp s5.heap) σ' H' s'->yb ys' its'->ys'.length<=sizeLine->Nx ys' σ' H' →
      ∃ m',m'<n/\∃ i ys its k σ' H',Inv (qE X L scope cl C s₂ H fp) [(D,{ cls:=.type "list",data:=.seq its.toArray k })] σ' H' s'/\yb ys its/\ys.length<=sizeLine/\tn i s'.heap/\(∀ b∈fp,H' b=none)/\W i m' ys σ' H':=fun {σ' H' s' ys' its' k' pl} J hv hz nx=>by
     obtain ⟨m',hm',w'⟩:=hNx _ _ _ nx
     have z:=J.pin (D,{ cls:=.type "list",data:=.seq its'.toArray k' }) (qb _ (qp _ (by simp)))
     refine ⟨m',hm',i+1,ys',its',k',σ',H',pinD J z.1 z.2.1,hv,hz,?_,fun b hb=>?_,w'⟩
     ·exact T.keep _ _ _ st5 fun b hb o e=>(J.pin (b,o) (qb _ (qb _ (yn hb e)))).1
     ·obtain ⟨o,e,d⟩:=T.obj _ _ st5 b hb
      exact (J.pin (b,o) (qb _ (qb _ (yn hb e)))).2.1
    have loop2:codeAny (model X.prog X.w) X.A (.compLoop (two elt tg iter tg2 iter2 ifs ifs2 scope pos) 1 (.ref it2) (.ref D) (compEnvC scope cl C X.env)) (fun r s₆=>r = .ok .next/\∃ m',m'<n/\∃ i ys its k σ' H',Inv (qE X L scope cl C s₂ H fp) [(D,{ cls:=.type "list",data:=.seq its.toArray k })] σ' H' s₆/\yb ys its/\ys.length<=sizeLine/\tn i s₆.heap/\(∀ b∈fp,H' b=none)/\W i m' ys σ' H') s9:=by
     refine qhQ (fun n2 s'=>∃ j ys2 its2 k2 σ' H',Inv (qE X L scope cl C s₂ H fp) ([(D,{ cls:=.type "list",data:=.seq its2.toArray k2 })]++jD fp s5.heap) σ' H' s'/\yb ys2 its2/\ys2.length<=sizeLine/\tn2 j s'.heap/\(∀ b∈fp2,H' b=none)/\W2 j n2 ys2 σ' H')
      ?_ m2 ⟨0,ys,its,k,σ6,H9,I9,hv3,hz3,st9,fun b hb=>(f9 b hb).1,w9⟩
     rintro n2 t3 ⟨j,ys2,its2,k2,ρ3,G3,I3',hv3',hz3',st3',fr3',w3'⟩
     rcases turn2 j n2 ys2 ρ3 G3 w3' with ⟨stop2,q2⟩ | ⟨go2,hlen2,N2,hN2,step2⟩
     ·refine thn (T2.done (qE X L scope cl C s₂ H fp) rfl rfl rfl hc j _ t3 ρ3 G3 _ I3' (fp2Y fr3') st3' stop2) fun r s4 ⟨hr,I4⟩=>?_
      subst hr
      exact ⟨rfl,outer (pl:=[]) I4 hv3' hz3' q2⟩
     ·refine thn (T2.item (qE X L scope cl C s₂ H fp) rfl rfl rfl hc j _ t3 ρ3 G3 _ I3' (fp2Y fr3') st3' go2) fun r s4 ⟨u,hr,h4⟩=>?_
      subst hr
      refine thn h4 fun _ t5 hq9=>?_
      obtain ⟨x,G5,J5,r5',y5',st5',fr5'⟩:=hq9
      have J5':=J5.pinned (fp2Y fr5') (T2.obj _ _ st5')
      refine thn (hg2 cl C s₂ H fp _ t5 ρ3 G5 x u _ J5' r5' (step2 x G5 y5')) fun _ t6 hq9=>?_
      obtain ⟨ρ6,G6,J6,q6'⟩:=hq9
      refine thn (hf2 cl C s₂ H fp _ t6 ρ6 G6 _ J6 q6') fun ok t7 hq9=>?_
      obtain ⟨G7,J7,q7'⟩:=hq9
      have later2:∀ {σ':St}{H':Hp}{s':Shared},Inv (qE X L scope cl C s₂ H fp) (([(D,{ cls:=.type "list",data:=.seq its2.toArray k2 })]++jD fp s5.heap)++jD fp2 t5.heap) σ' H' s' →
        tn2 (j+1) s'.heap/\(∀ b∈fp2,H' b=none)/\s'.heap.get? D=some { cls:=.type "list",data:=.seq its2.toArray k2 }/\H' D=none:=fun {σ' H' s'} J=>by
       refine ⟨T2.keep _ _ _ st5' fun b hb o e=>(J.pin (b,o) (qb _ (qb _ (yn hb e)))).1,fun b hb=>?_,?_⟩
       ·obtain ⟨o,e,d⟩:=T2.obj _ _ st5' b hb
        exact (J.pin (b,o) (qb _ (qb _ (yn hb e)))).2.1
       ·have z:=J.pin (D,{ cls:=.type "list",data:=.seq its2.toArray k2 }) (qb _ (qp _ (qp _ (by simp))))
        exact ⟨z.1,z.2.1⟩
      cases ok with
      | false =>
       rw [if_neg (by simp)] at q7' ⊢
       obtain ⟨m',hm',w'⟩:=hN2 _ _ _ q7'
       obtain ⟨t1,t2,t3,t4⟩:=later2 J7
       exact ⟨m',hm',j+1,ys2,its2,k2,ρ6,G7,J7.unpinned,hv3',hz3',t1,t2,w'⟩
      | true =>
       rw [if_pos rfl] at q7' ⊢
       refine thn (he cl C s₂ H fp _ t7 ρ6 G7 _ J7 q7') fun y t8 hq9=>?_
       obtain ⟨v,G8,J8,r8,q8⟩:=hq9
       obtain ⟨m',hm',w'⟩:=hN2 _ _ _ q8
       obtain ⟨t1,t2,t3,t4⟩:=later2 J8
       refine append_at (hsz:=by rw [List.size_toArray,<- hv3'.length];exact hz3') t3 fun h9 hs9 hD9=>?_
       have nb2D:∀ b∈fp2,b≠D:=fun b hb z=>(f9 b hb).2.2.2.2.2 (D,{ cls:=.type "list",data:=.seq its.toArray k }) (qb _ (qp _ (by simp))) z.symm
       have J9:Inv (qE X L scope cl C s₂ H fp) [] ρ6 G8 { t8 with heap:=h9 }:=(J8.pins_of (pins':=[]) (fun p hp=>by simp at hp)).turned (it:=D) (t':=t8.toks) (fun b o hb e=>hs9.extBut b o hb e) t4 hDC
        (.inr (by show s₂.heap.objs.size<=D;rw [hDn];exact qj _)) cellD (fun p hp=>by
         have:p∈([]:List (Addr×Obj)):=hp
         simp at this)
       have J9':Inv (qE X L scope cl C s₂ H fp) ([(D,{ cls:=.type "list",data:=.seq (its2++[y]).toArray (k2+1) })]++jD fp s5.heap) ρ6 G8 { t8 with heap:=h9 }:=J9.pins_of fun p hp=>by
        rcases List.mem_append.mp hp with hp | hp
        ·have e':p=(D,{ cls:=.type "list",data:=.seq (its2++[y]).toArray (k2+1) }):=by simpa using hp
         subst e'
         exact ⟨(by rw [hD9];simp),t4,hDC,nfsD,fun v z=>by cases z⟩
        ·have z:=J8.pin p (qb _ (qp _ (qb _ hp)))
         have hpD:p.1≠D:=by
          exact nbD p.1 (ZW hp).1
         exact ⟨hs9.extBut _ _ hpD z.1,z.2⟩
       refine ⟨m',hm',j+1,ys2++[v],its2++[y],k2+1,ρ6,G8,J9',hv3'.append (.cons r8 .nil),by simp;omega,T2.keep _ _ _ t1 fun b hb o e=>hs9.extBut b o (nb2D b hb) e,t2,w'⟩
    exact JI loop2 (T2.self _ 0 _ _ _ st9 loop2)
 exact codeAny_compStart_list loop (T.self _ 0 _ _ _ st₁ loop)
theorem qfg {L:List Str}{scope sc:Scope}{N:List Str}{tg elt iter tg2 iter2:Expr}{ifs ifs2:List Expr}{pos:Pos}{wi:TI}{g:TG}{tt:TT}{wi2:TI}{g2:TG}{tt2:TT}{te:TE}
  (hc:X.calm=true) (hsc:X.env.scope=sc) (hN:X.N=N) (ok:jl sc N L scope=true)
  (hi:PI X tg iter wi) (hg:∀ cl C s₂ H₂ fp,PG (qE X L scope cl C s₂ H₂ fp) tg g) (hf:∀ cl C s₂ H₂ fp,Ifs (qE X L scope cl C s₂ H₂ fp) ifs tt) (hi2:∀ cl C s₂ H₂ fp,PI (qE X L scope cl C s₂ H₂ fp) tg2 iter2 wi2) (hg2:∀ cl C s₂ H₂ fp,PG (qE X L scope cl C s₂ H₂ fp) tg2 g2) (hf2:∀ cl C s₂ H₂ fp,Ifs (qE X L scope cl C s₂ H₂ fp) ifs2 tt2) (he:∀ cl C s₂ H₂ fp,PE (qE X L scope cl C s₂ H₂ fp) elt te)
  (hs:∀ x,foldedSetIterable iter X.env x=pure x:=by intro _;rfl) (hs2:∀ env x,foldedSetIterable iter2 env x=pure x:=by intro _ _;rfl) :
  PE X (two elt tg iter tg2 iter2 ifs ifs2 scope pos) (qf3 L.length wi g tt wi2 g2 tt2 te):=by
 intro pins s σ H Q I h
 obtain ⟨cl,hcl,hc1,hc2⟩:=j6 (env:=X.env) (scope:=scope) fun y hy hfr=>by
  refine I.ok.has y.1 ?_
  have z:=(yC ok hy).2.2 hfr
  rw [<- hsc] at z
  exact z
 rw [eval_ListComp]
 refine wpAny_comprehension_free (use:=none) rfl hs hcl (yL ok) (fun y hy hl=>((yC ok hy).2.1 hl).1) (thn (hi pins s σ H _ I h) fun v s1 h1=>thn h1 fun itv s2 h2=>?_)
 obtain ⟨it,fp,tn,J,H2,e,I2,T,st2,f2,hw⟩:=h2
 subst e
 refine qaV (RR:=fun acc C=>compPost (model X.prog X.w) X.A X.xe none (EP X pins σ Q) acc C) hc hsc hN ok hc1 hc2 hg hf hi2 hg2 hf2 he hs2 I2 T st2 f2 hw ?_
 intro D C m H' s' ys hns hD hC hHC hDC J' q
 refine ⟨m,hns,fun h'' hs''=>⟨.ref D,upd H' D (.lst ys),?_,rfl,q⟩⟩
 have hsz:=I2.sz
 refine J'.turned (it:=C) (t':=s'.toks) (fun b o hb e=>hs''.extBut b o hb e) (by rw [qI (Ne.symm hDC)];exact hHC) (Ne.symm (qk (yI I2.lt hC))) (.inr (qu hsz (yf hC))) (fun x c e=>?_) (fun p hp=>?_)
 ·obtain ⟨v,z⟩:=I2.cell x c e
  exact qk (yI z.lt hC)
 ·exact qk (yI (qh (I2.pin p hp).1) hC)
end
section
variable {X:Cx}{K:W.Frag}{tg iter tg2 iter2:Expr}{pos:Pos}
def qgD (k:Nat) (ti:TId) (g:TGd) (tt:TTd) (ti2:TId) (g2:TGd) (tt2:TTd) (te:TEd):TEd:=fun ρ μ Q=>ti ρ μ fun J μ1=>∃ Pv:Nat->List PyData->Rho->Mu->Prop,Pv 0 [] (ρ++List.replicate k none) μ1/\(∀ i ys ρ' μ',i<=J.n->Pv i ys ρ' μ'->J.ok μ') ∧
 (∀ i ys ρ' μ',i<J.n->Pv i ys ρ' μ'->g (J.item i) ρ' μ' fun ρ2 μ2=>tt ρ2 μ2 fun b μ3=>if b=true then ti2 ρ2 μ3 fun J2 μ4 =>
   ∃ Pv2:Nat->List PyData->Rho->Mu->Prop,Pv2 0 ys ρ2 μ4/\(∀ j ys ρ' μ',j<=J2.n->Pv2 j ys ρ' μ'->J2.ok μ'/\ys.length<4000) ∧
    (∀ j ys ρ' μ',j<J2.n->Pv2 j ys ρ' μ'->g2 (J2.item j) ρ' μ' fun ρ2 μ2=>tt2 ρ2 μ2 fun b μ3=>if b=true then te ρ2 μ3 fun y μ4=>∃ z,y = .d z/\Pv2 (j+1) (ys++[z]) ρ2 μ4 else Pv2 (j+1) ys ρ2 μ3) ∧
    ∀ ys ρ' μ',Pv2 J2.n ys ρ' μ'->Pv (i+1) ys ρ' μ'
  else Pv (i+1) ys ρ2 μ3) ∧
 ∀ ys ρ' μ',Pv J.n ys ρ' μ'->Fin1 Q ys μ'
theorem qeT {k:Nat}{ti:TId}{g:TGd}{tt:TTd}{ti2:TId}{g2:TGd}{tt2:TTd}{te:TEd}{σ:St}{H:Hp}{Q:VK}(h:up K (qgD k ti g tt ti2 g2 tt2 te) σ H Q):qf3 k (upI K ti) (upG K g) (upT K tt) (upI K ti2) (upG K g2) (upT K tt2) (up K te) σ H Q:=by
 obtain ⟨ρ,μ,Q0,hS,hM,h,cl⟩:=h
 refine ⟨ρ,μ,_,hS,hM,h,fun J0 μ1 J H1 q M1 s1 sim=>?_⟩
 obtain ⟨Pv,h0,hok,hstep,hend⟩:=q
 have S0:RelS K (ρ++List.replicate k none) μ1 (σ++List.replicate k none) H1:=by
  have S1:=hS.same s1
  refine ⟨by simp [S1.len],fun i e he=>?_⟩
  by_cases hi:i<ρ.length
  ·rw [qJ hi] at he
   rw [qJ (by rw [<- S1.len];exact hi)]
   exact S1.get i e he
  ·rw [qP (by omega),jp] at he
   split at he <;> cases he
 refine ⟨fun i m ys σ' H'=>m=J0.n - i/\i<=J0.n/\∃ ds ρ' μ',RelS K ρ' μ' σ' H'/\RelM K μ' H'/\qY (mask μ1 H1) (mask μ' H')/\IsAll K (mask μ' H') ys ds/\Pv i ds ρ' μ',⟨_,rfl,qN _,[],_,μ1,S0,M1,qY.refl _,.nil,h0⟩,?_⟩
 rintro i m ys σ' H' ⟨rfl,hi,ds,ρ',μ',S',M',s',hA,p⟩
 have sm:=sim μ' H' M' s' (hok i ds ρ' μ' hi p) i
 by_cases hlt:i<J0.n
 ·obtain ⟨hgo,hyl⟩:=sm.1 hlt
  refine .inr ⟨hgo,fun ys2 σ2 H2=>∃ ds ρ' μ',RelS K ρ' μ' σ2 H2/\RelM K μ' H2/\qY (mask μ1 H1) (mask μ' H2)/\IsAll K (mask μ' H2) ys2 ds/\Pv (i+1) ds ρ' μ',fun ys2 σ2 H2 z=>⟨J0.n - (i+1),by omega,rfl,hlt,z⟩,fun x H2 y=>?_⟩
  obtain ⟨M2,s2,i2⟩:=hyl x H2 y
  refine ⟨_,ρ',μ',_,i2,S'.same s2,M2,hstep i ds ρ' μ' hlt p,fun ρ3 μ3 σ3 H3 q3 S3 M3 s3=>⟨ρ3,μ3,_,S3,M3,q3,fun b μ4 H4 q4 M4 s4=>?_⟩⟩
  have st:=((s'.trans s2).trans s3).trans s4
  have hA4:=IsAll.same ((s2.trans s3).trans s4) hA
  cases b with
  | true =>
   refine qbs ⟨ρ3,μ4,_,S3.same s4,M4,(by simpa using q4),fun K0 ν1 K1 G1 r N1 u1 sim2=>?_⟩
   obtain ⟨Pv2,g0,gok,gstep,gend⟩:=r
   refine ⟨fun j m ys σ' H'=>m=K0.n - j/\j<=K0.n/\∃ ds ρ' μ',RelS K ρ' μ' σ' H'/\RelM K μ' H'/\qY (mask ν1 G1) (mask μ' H')/\IsAll K (mask μ' H') ys ds/\Pv2 j ds ρ' μ',⟨_,rfl,qN _,ds,ρ3,ν1,(S3.same s4).same u1,N1,qY.refl _,IsAll.same u1 hA4,g0⟩,?_⟩
   rintro j m zs σ' H' ⟨rfl,hj,es,ρ',μ',R',M',v',hB,p2⟩
   obtain ⟨ok2,len2⟩:=gok j es ρ' μ' hj p2
   have sm2:=sim2 μ' H' M' v' ok2 j
   have hle:=hB.len
   by_cases hlt2:j<K0.n
   ·obtain ⟨hgo2,hyl2⟩:=sm2.1 hlt2
    refine .inr ⟨hgo2,yZ (by omega),fun ys2 σ2 H2=>∃ ds ρ' μ',RelS K ρ' μ' σ2 H2/\RelM K μ' H2/\qY (mask ν1 G1) (mask μ' H2)/\IsAll K (mask μ' H2) ys2 ds/\Pv2 (j+1) ds ρ' μ',fun ys2 σ2 H2 z=>⟨K0.n - (j+1),by omega,rfl,hlt2,z⟩,fun x H2 y=>?_⟩
    obtain ⟨M2,s2,i2⟩:=hyl2 x H2 y
    refine ⟨_,ρ',μ',_,i2,R'.same s2,M2,gstep j es ρ' μ' hlt2 p2,fun ρ3 μ3 σ3 H3 q3 S3 M3 s3=>⟨ρ3,μ3,_,S3,M3,q3,fun b μ4 H4 q4 M4 s4=>?_⟩⟩
    have st2:=((v'.trans s2).trans s3).trans s4
    cases b with
    | true =>
     refine qbs ⟨ρ3,μ4,_,S3.same s4,M4,(by simpa using q4),fun e μ5 v H5 q5 M5 s5 i5=>?_⟩
     obtain ⟨z,rfl,q5⟩:=q5
     exact ⟨_,ρ3,μ5,(S3.same s4).same s5,M5,st2.trans s5,IsAll.snoc i5 (IsAll.same (((s2.trans s3).trans s4).trans s5) hB),q5⟩
    | false=>exact qaI ⟨_,ρ3,μ4,S3.same s4,M4,st2,IsAll.same ((s2.trans s3).trans s4) hB,by simpa using q4⟩
   ·have e:j=K0.n:=by omega
    subst e
    exact .inl ⟨sm2.2 (qj _),es,ρ',μ',R',M',(st.trans u1).trans v',hB,gend es ρ' μ' p2⟩
  | false=>exact qaI ⟨_,ρ3,μ4,S3.same s4,M4,st,hA4,by simpa using q4⟩
 ·have e:i=J0.n:=by omega
  subst e
  refine .inl ⟨sm.2 (qj _),fun D hD=>?_⟩
  obtain ⟨M4,s4,hn⟩:=M'.laid (o:=.lst ys) hD
  exact cl _ μ' _ _ (hend ds ρ' μ' p) M4 ((s1.trans s').trans s4) (.lst (SqL.of (by rw [q9 hn];exact qM)) (IsAll.same s4 hA))
theorem qij {L:List Str}{scope sc:Scope}{N:List Str}{elt:Expr}{ifs ifs2:List Expr}{ti:TId}{g:TGd}{tt:TTd}{ti2:TId}{g2:TGd}{tt2:TTd}{te:TEd}
  (hc:X.calm=true) (hsc:X.env.scope=sc) (hN:X.N=N) (ok:jl sc N L scope=true)
  (hi:DI K X tg iter ti) (hg:∀ cl C s₂ H₂ fp,DG K (qE X L scope cl C s₂ H₂ fp) tg g) (hf:∀ cl C s₂ H₂ fp,qiF K (qE X L scope cl C s₂ H₂ fp) ifs tt)
  (hi2:∀ cl C s₂ H₂ fp,DI K (qE X L scope cl C s₂ H₂ fp) tg2 iter2 ti2) (hg2:∀ cl C s₂ H₂ fp,DG K (qE X L scope cl C s₂ H₂ fp) tg2 g2) (hf2:∀ cl C s₂ H₂ fp,qiF K (qE X L scope cl C s₂ H₂ fp) ifs2 tt2)
  (he:∀ cl C s₂ H₂ fp,DE K (qE X L scope cl C s₂ H₂ fp) elt te)
  (hs:∀ x,foldedSetIterable iter X.env x=pure x:=by intro _;rfl) (hs2:∀ env x,foldedSetIterable iter2 env x=pure x:=by intro _ _;rfl) :
  DE K X (.ListComp elt [⟨tg,iter,ifs,0⟩,⟨tg2,iter2,ifs2,0⟩] scope pos) (qgD L.length ti g tt ti2 g2 tt2 te):=PE.mono (qfg hc hsc hN ok hi hg hf hi2 hg2 hf2 he hs hs2) fun _ _ _=>qeT
end
end L2
namespace L2
def vl (n p:Pt):Int:=n.1 * p.1+n.2 * p.2
def vls (n:Pt) (ps:List Pt):List Int:=ps.map fun q=>n.1 * q.1+n.2 * q.2
theorem qcv (n:Pt) (ps:List Pt):(vls n ps).length=ps.length:=by unfold vls;rw [List.length_map]
def Hv (n a:Pt) (A:List Pt):Prop:=qaL (vl n a) (vls n A)=true
theorem qio (c:Int) (n:Pt) (A:List Pt):cLt c (vls n A)=A.countP fun p=>decide (vl n p<c):=by
 unfold cLt vls
 rw [List.countP_map];rfl
theorem qiq (c:Int) (n:Pt) (A:List Pt):cGt c (vls n A)=A.countP fun p=>decide (c<vl n p):=by
 unfold cGt vls
 rw [List.countP_map];rfl
theorem qbu {n a:Pt}{A:List Pt}:Hv n a A ↔ 2 * (A.countP fun p=>decide (vl n p<vl n a))<=A.length/\2 * (A.countP fun p=>decide (vl n a<vl n p))<=A.length:=by
 unfold Hv qaL
 rw [Bool.and_eq_true,qio,qiq,qcv]
 simp only [decide_eq_true_eq]
theorem qdZ {n m a b:Pt}{A:List Pt}(h1:∀ p∈A,vl m p<vl m b->vl n p<vl n a) (h2:∀ p∈A,vl m b<vl m p->vl n a<vl n p) (h:Hv n a A):Hv m b A:=by
 rw [qbu] at h ⊢
 have e1:(A.countP fun p=>decide (vl m p<vl m b))<=A.countP fun p=>decide (vl n p<vl n a):=List.countP_mono_left fun p hp z=>qB (h1 p hp (qy z))
 have e2:(A.countP fun p=>decide (vl m b<vl m p))<=A.countP fun p=>decide (vl n a<vl n p):=List.countP_mono_left fun p hp z=>qB (h2 p hp (qy z))
 omega
theorem qgr (n a:Pt):Hv n a []:=by rw [qbu];simp
theorem JS (n:Pt) {A:List Pt}(h:A≠[]):∃ a∈A,Hv n a A:=by
 have hn:vls n A≠[]:=fun z=>h (by unfold vls at z;exact List.map_eq_nil_iff.mp z)
 have hl:0<(vls n A).length:=jo.mpr hn
 have hm:qdz (vls n A)∈vls n A:=by
  unfold qdz
  have hj:((vls n A).length - 1) / 2<(srt (vls n A)).length:=by rw [qat];omega
  rw [qz,List.getElem?_eq_getElem hj]
  exact (JY _).mem_iff.mp (qO hj)
 have hm':=hm
 unfold vls at hm'
 obtain ⟨a,ha,ea⟩:=qv.mp hm'
 refine ⟨a,ha,?_⟩
 unfold Hv
 have:vl n a=qdz (vls n A):=ea
 rw [this]
 exact (qb2 hn _).mpr ⟨Int.le_refl _,qjO hn⟩
theorem qaK {n a b c:Pt}{A:List Pt}(h1:Hv n a A) (h2:Hv n b A) (l1:vl n a<=vl n c) (l2:vl n c<=vl n b):Hv n c A:=by
 rw [qbu] at h1 h2 ⊢
 have e1:(A.countP fun p=>decide (vl n p<vl n c))<=A.countP fun p=>decide (vl n p<vl n b):=List.countP_mono_left fun p hp z=>by
  have:=qy z
  exact qB (by omega)
 have e2:(A.countP fun p=>decide (vl n c<vl n p))<=A.countP fun p=>decide (vl n a<vl n p):=List.countP_mono_left fun p hp z=>by
  have:=qy z
  exact qB (by omega)
 omega
def ng (n:Pt):Pt:=(-n.1,-n.2)
theorem qgW (n p:Pt):vl (ng n) p = - vl n p:=by unfold vl ng;grind
theorem qj2 {n a:Pt}{A:List Pt}(h:Hv n a A):Hv (ng n) a A:=by
 rw [qbu] at h ⊢
 simp only [qgW,Int.neg_lt_neg_iff]
 exact ⟨h.2,h.1⟩
def wy (p q:Pt):Pt:=(q.2 - p.2,p.1 - q.1)
section
variable {A B:List Pt}
def qkH (A B:List Pt):Prop:=∃ (n a:Pt),a∈A++B/\n≠(0,0)/\Hv n a A/\Hv n a B
def Lw (A B:List Pt) (n:Pt):Prop:=∀ a∈A,∀ b∈B,Hv n a A->Hv n b B->vl n a<vl n b
theorem qjQ (hA:A≠[]) (hB:B≠[]) (nd:¬ qkH A B) {n:Pt}(hn:n≠(0,0)):Lw A B n\/Lw B A n:=by
 obtain ⟨a0,ha0,va0⟩:=JS n hA
 obtain ⟨b0,hb0,vb0⟩:=JS n hB
 have noA:∀ a∈A,Hv n a A->¬ Hv n a B:=fun a ha h1 h2=>nd ⟨n,a,qp _ ha,hn,h1,h2⟩
 have noB:∀ b∈B,Hv n b B->¬ Hv n b A:=fun b hb h1 h2=>nd ⟨n,b,qb _ hb,hn,h2,h1⟩
 have key:∀ a∈A,∀ b∈B,Hv n a A->Hv n b B->∀ a'∈A,∀ b'∈B,Hv n a' A->Hv n b' B->vl n a<vl n b->vl n a'<vl n b':=by
  intro a ha b hb h1 h2 a' ha' b' hb' h1' h2' hlt
  by_cases z:vl n a'<vl n b'
  ·exact z
  ·exfalso
   by_cases y:vl n b<=vl n a'
   ·exact noB b hb h2 (qaK h1 h1' (by omega) y)
   ·exact noA a' ha' h1' (qaK h2' h2 (by omega) (by omega))
 by_cases c:vl n a0<vl n b0
 ·exact .inl fun a ha b hb h1 h2=>key a0 ha0 b0 hb0 va0 vb0 a ha b hb h1 h2 c
 ·refine .inr fun b hb a ha h2 h1=>?_
  by_cases z:vl n b<vl n a
  ·exact z
  ·exfalso
   by_cases y:vl n a<vl n b
   ·exact c (key a ha b hb h1 h2 a0 ha0 b0 hb0 va0 vb0 y)
   ·have e:vl n a=vl n b:=by omega
    exact noA a ha h1 (qaK h2 h2 (by omega) (by omega))
theorem qgk (hA:A≠[]) (hB:B≠[]) {n:Pt}(h1:Lw A B n) (h2:Lw B A n):False:=by
 obtain ⟨a0,ha0,va0⟩:=JS n hA
 obtain ⟨b0,hb0,vb0⟩:=JS n hB
 have:=h1 a0 ha0 b0 hb0 va0 vb0
 have:=h2 b0 hb0 a0 ha0 vb0 va0
 omega
theorem ng_ng (n:Pt):ng (ng n)=n:=by unfold ng;simp
theorem qjR {n:Pt}(h:Lw A B n):Lw B A (ng n):=fun b hb a ha h2 h1=>by
 have k1:=qj2 h1
 have k2:=qj2 h2
 rw [ng_ng] at k1 k2
 have:=h a ha b hb k1 k2
 rw [qgW,qgW]
 omega
def Btw (d e x:Pt):Bool:=decide (0<crs d x) && decide (0<crs x e)
theorem JJ {d e x:Pt}:Btw d e x=true ↔ 0<crs d x/\0<crs x e:=by
 unfold Btw
 rw [Bool.and_eq_true,decide_eq_true_eq,decide_eq_true_eq]
def qct (P:List Pt):List Pt:=P.flatMap fun p=>P.map fun q=>wy p q
theorem qeP {P:List Pt}{p q:Pt}(hp:p∈P) (hq:q∈P):wy p q∈qct P:=List.mem_flatMap.mpr ⟨p,hp,qv.mpr ⟨q,hq,rfl⟩⟩
theorem qkt (d p q:Pt):crs d (wy p q)=vl d p - vl d q:=by unfold crs wy vl;grind
theorem qiG (d p q:Pt):crs (wy p q) d=vl d q - vl d p:=by unfold crs wy vl;grind
theorem qfZ (d e p:Pt):vl (d.1+e.1,d.2+e.2) p=vl d p+vl e p:=by unfold vl;grind
theorem pass {P:List Pt}{d e:Pt}(no:∀ x∈qct P,Btw d e x=false) {p a:Pt}(hp:p∈P) (ha:a∈P):¬ (vl d p<vl d a/\vl e a<vl e p):=fun ⟨h1,h2⟩=>by
 have:=no (wy a p) (qeP ha hp)
 have z:Btw d e (wy a p)=true:=JJ.mpr ⟨by rw [qkt];omega,by rw [qiG];omega⟩
 rw [z] at this
 exact absurd this (by decide)
theorem qjN {P A:List Pt}(hP:∀ p∈A,p∈P) {d e:Pt}(no:∀ x∈qct P,Btw d e x=false) {a:Pt}(ha:a∈P) (h:Hv (d.1+e.1,d.2+e.2) a A):Hv d a A/\Hv e a A:=by
 refine ⟨qdZ (fun p hp z=>?_) (fun p hp z=>?_) h,qdZ (fun p hp z=>?_) (fun p hp z=>?_) h⟩
 all_goals
  have k1:=pass no (hP p hp) ha
  have k2:=pass no ha (hP p hp)
  rw [qfZ,qfZ]
  omega
theorem qdE (hA:A≠[]) (hB:B≠[]) (nd:¬ qkH A B) {d e:Pt}(hde:0<crs d e) (no:∀ x∈qct (A++B),Btw d e x=false) (h:Lw A B d):Lw A B e:=by
 have he:e≠(0,0):=fun z=>by rw [z] at hde;unfold crs at hde;simp at hde
 rcases qjQ hA hB nd he with h1 | h1
 ·exact h1
 exfalso
 obtain ⟨a,ha,va⟩:=JS (d.1+e.1,d.2+e.2) hA
 obtain ⟨b,hb,vb⟩:=JS (d.1+e.1,d.2+e.2) hB
 have ma:a∈A++B:=qp _ ha
 have mb:b∈A++B:=qb _ hb
 obtain ⟨a1,a2⟩:=qjN (fun p hp=>qp _ hp) no ma va
 obtain ⟨b1,b2⟩:=qjN (fun p hp=>qb _ hp) no mb vb
 have l1:=h a ha b hb a1 b1
 have l2:=h1 b hb a ha b2 a2
 exact pass no ma mb ⟨l1,l2⟩
theorem qgG {α:Type}{p q:α->Bool}{l:List α}(h:∀ x∈l,p x=true->q x=true) {x:α}(hx:x∈l) (h1:q x=true) (h2:p x=false):l.countP p<l.countP q:=by
 induction l with
 | nil=>exact (nomatch hx)
 | cons y l ih =>
  have sub:l.countP p<=l.countP q:=List.countP_mono_left fun z hz=>h z (qe _ hz)
  rcases List.mem_cons.mp hx with rfl | hx
  ·rw [List.countP_cons_of_neg (by rw [h2];decide),List.countP_cons_of_pos h1];omega
  ·have:=ih (fun z hz=>h z (qe _ hz)) hx
   have hy:=h y qg
   rw [List.countP_cons,List.countP_cons]
   by_cases z:p y=true
   ·rw [if_pos z,if_pos (hy z)];omega
   ·rw [if_neg z];omega
theorem plk (a b c d:Pt):crs a b * crs c d=crs a c * crs b d - crs a d * crs b c:=by unfold crs;grind
theorem qfL (a b:Pt):crs a b = - crs b a:=by unfold crs;grind
theorem YV {x y:Int}(hx:0<x) (h:0<x * y):0<y:=by
 rcases Int.lt_trichotomy y 0 with z | z | z
 ·have:=Int.mul_neg_of_pos_of_neg hx z;omega
 ·rw [z,Int.mul_zero] at h;omega
 ·exact z
theorem btw_l {d e x y:Pt}(hde:0<crs d e) (h1:0<crs d x) (h2:0<crs x e) (k1:0<crs d y) (k2:0<crs y x):0<crs y e:=by
 refine YV h1 ?_
 rw [plk d x y e,qfL x y]
 have:=Int.mul_pos k1 h2
 have:=Int.mul_pos hde k2
 rw [Int.mul_neg]
 omega
theorem btw_r {d e x y:Pt}(hde:0<crs d e) (h1:0<crs d x) (h2:0<crs x e) (k1:0<crs x y) (k2:0<crs y e):0<crs d y:=by
 refine YV h2 ?_
 have e1:=plk d x y e
 have:=Int.mul_pos h1 k2
 have:=Int.mul_pos hde k1
 have e2:crs x e * crs d y=crs d y * crs x e:=Int.mul_comm ..
 omega
theorem qac (x:Pt):crs x x=0:=by unfold crs;grind
theorem qhP (hA:A≠[]) (hB:B≠[]) (nd:¬ qkH A B):∀ (k:Nat) (d e:Pt),(qct (A++B)).countP (Btw d e)<=k->0<crs d e->Lw A B d->Lw A B e:=by
 intro k
 induction k with
 | zero =>
  intro d e hk hde h
  refine qdE hA hB nd hde (fun x hx=>?_) h
  have:(qct (A++B)).countP (Btw d e)=0:=by omega
  rw [List.countP_eq_zero] at this
  exact Bool.eq_false_iff.mpr (this x hx)
 | succ k ih =>
  intro d e hk hde h
  by_cases hx:∃ x∈qct (A++B),Btw d e x=true
  ·obtain ⟨x,hx,bx⟩:=hx
   obtain ⟨b1,b2⟩:=JJ.mp bx
   have c1:(qct (A++B)).countP (Btw d x)<(qct (A++B)).countP (Btw d e):=by
    refine qgG (fun y _ hy=>?_) hx bx ?_
    ·obtain ⟨y1,y2⟩:=JJ.mp hy
     exact JJ.mpr ⟨y1,btw_l hde b1 b2 y1 y2⟩
    ·unfold Btw;rw [qac];simp
   have c2:(qct (A++B)).countP (Btw x e)<(qct (A++B)).countP (Btw d e):=by
    refine qgG (fun y _ hy=>?_) hx bx ?_
    ·obtain ⟨y1,y2⟩:=JJ.mp hy
     exact JJ.mpr ⟨btw_r hde b1 b2 y1 y2,y2⟩
    ·unfold Btw;rw [qac];simp
   exact ih x e (by omega) b2 (ih d x (by omega) b1 h)
  ·refine qdE hA hB nd hde (fun x hx'=>?_) h
   exact Bool.eq_false_iff.mpr fun z=>hx ⟨x,hx',z⟩
theorem done (h:A++B≠[]):qkH A B:=by
 by_cases hA:A=[]
 ·subst hA
  obtain ⟨b,hb,vb⟩:=JS (1,0) (A:=B) (by simpa using h)
  exact ⟨(1,0),b,by simpa using hb,by simp,qgr _ _,vb⟩
 by_cases hB:B=[]
 ·subst hB
  obtain ⟨a,ha,va⟩:=JS (1,0) hA
  exact ⟨(1,0),a,qp _ ha,by simp,va,qgr _ _⟩
 by_cases nd:qkH A B
 ·exact nd
 exfalso
 have turn:=fun (d e:Pt)=>qhP hA hB nd _ d e (qj _)
 have e1:ng (1,0)=(-1,0):=rfl
 rcases qjQ hA hB nd (n:=(1,0)) (by simp) with h1 | h1
 ·have h2:=turn (1,0) (0,1) (by decide) h1
  have h3:=turn (0,1) (-1,0) (by decide) h2
  have h4:=qjR h3
  exact qgk hA hB h1 h4
 ·have h2:=qjR h1
  rw [e1] at h2
  have h3:=turn (-1,0) (0,-1) (by decide) h2
  have h4:=turn (0,-1) (1,0) (by decide) h3
  exact qgk hA hB h4 h1
end
end L2
namespace L2
open PySem PySem.Spec PyProof.Rows PySem.W
def qes (X:Cx) (A:Around) (N:List Str) (qual:Str) (scope:Scope) (f:Addr) (cd:Value) (cl:List (Str×Addr)) (s:Shared) (H:Hp):Cx where
 prog:=X.prog
 w:=X.w
 K:=X.K
 mg:=X.mg
 base:=X.base
 A:=A.deeper (envX qual scope s.heap.objs.size f cd cl)
 N:=N
 s₀:=s
 H₀:=H
 env:=envX qual scope s.heap.objs.size f cd cl
 outer:=X.stack
 stack:=envX qual scope s.heap.objs.size f cd cl::X.stack
 ex:=[]
 calm:=true
 fn:=fun _=>false
 pn:=[]
 xe:=fun _ _=>False
structure LamSc (x y:Str) (sc:Scope):Prop where
 kind:sc.kind = .function
 co:sc.isCoroutine=false
 gen:sc.isGenerator=false
 ne:x≠y
 par:sc.names.lookup x=some .local
 fr:sc.names.lookup y=some .free
 nc:∀ z∈sc.names,z.2≠.cell
section
variable {X:Cx}{pins:List (Addr×Obj)}{σ:St}{H:Hp}{s:Shared}{A:Around}{x y:Str}{scope:Scope}{cl:List (Str×Addr)}{f:Addr}{cd:Value}{qual:Str}
theorem qhX (I:Inv X pins σ H s) (S:LamSc x y scope) (hA:A.frames=some X.stack) (hd:A.handled=none) (hc1:∀ x c,cl.lookup x=some c->X.env.cells.lookup x=some c) (hc2:∀ z∈scope.names,z.2 = .free->∃ c,cl.lookup z.1=some c)
  {u us:Value}{v vs:V}(ru:yP v u) {c:Addr}(hy:cl.lookup y=some c) (hcell:s.heap.IsCell c (some us)) (rs:yP vs us) {h₁:Heap}{tk:Nat}
  (hns:h₁.Ns s.heap.objs.size (fun z=>[(x,u)].reverse.lookup z)) (hk:∀ b o,s.heap.get? b=some o->h₁.get? b=some o) :
  Inv (qes X A [x,y] qual scope f cd cl s H) [] [some v,some vs] H { s with heap:=h₁,toks:=tk }:=by
 have noA:∀ b:Addr,b∉(qes X A [x,y] qual scope f cd cl s H).ex:=fun b z=>absurd (show b∈([]:List Addr) from z) (by simp)
 refine ⟨⟨I.ok.mod,S.kind,rfl,rfl,qj _,fun a b c h1 h2=>I.ok.inj a b c (hc1 _ _ h1) (hc1 _ _ h2),fun z hz=>?_,fun z c h _=>(by cases h),fun _=>hd,Around.frames_deeper hA,.inr ⟨rfl,rfl⟩,fun b z=>absurd z (noA b),I.bs,qu I.ok.bsz I.sz,fun b _ _=>noA b,fun b z=>absurd z (noA b),I.stack,I.stkFree⟩,
  rfl,I.bare,Un.kept hk,⟨_,hns,fun i z w h1 h2 h3=>?_⟩,fun z c h=>?_,I.hok.fresh (qj _),fun z c h=>I.freeC z c (hc1 z c h),fun p hp=>absurd (show p∈([]:List (Addr×Obj)) from hp) (by simp),I.hok.kept hk,rfl⟩
 ·have hz:scope.names.lookup z=some .cell\/scope.names.lookup z=some .free:=hz
  rcases hz with hz | hz
  ·exact absurd rfl (S.nc _ (PySem.mem_of_lookup hz))
  ·exact hc2 _ (PySem.mem_of_lookup hz) rfl
 ·match i,h1,h2 with
  | 0,h1,h2 =>
   have h1:x=z:=Option.some.inj h1
   have h2:v=w:=Option.some.inj (Option.some.inj h2)
   subst h1 h2
   exact ⟨u,ru,.inl ⟨S.par,by simp⟩⟩
  | 1,h1,h2 =>
   have h1:y=z:=Option.some.inj h1
   have h2:vs=w:=Option.some.inj (Option.some.inj h2)
   subst h1 h2
   refine ⟨us,rs,.inr ⟨.inr S.fr,c,hy,?_⟩⟩
   obtain ⟨o,ho,hd⟩:=hcell
   exact ⟨o,hk _ _ ho,hd⟩
  | i+2,h1,h2 =>
   have h1:([x,y]:List Str)[i+2]?=some z:=h1
   simp at h1
 ·obtain ⟨w,o,ho,hd⟩:=I.cell z c (hc1 z c h)
  exact ⟨w,o,hk _ _ ho,hd⟩
theorem qfx {params:Arguments}{body:Expr}{pm ctv:Value}{c':Addr}{te:TE}{k:Nat}{E:Value->Shared->Prop}(I:Inv X pins σ H s) (S:LamSc x y scope) (hA:A.frames=some X.stack) (hr:Room (k+1) A)
  (hc1:∀ x c,cl.lookup x=some c->X.env.cells.lookup x=some c) (hc2:∀ z∈scope.names,z.2 = .free->∃ c,cl.lookup z.1=some c)
  (ho:s.heap.get? f=some (kla_obj "<lambda>" qual params body scope cl pm c' ctv)) (hcd:s.heap.CodeRec (.ref c') qual)
  (hb:∀ u:Value,bindArgs (kla_fn "<lambda>" qual params body scope cl pm (.ref c') ctv) ⟨[u],[]⟩=pure [(x,u)])
  {u us:Value}{v vs:V}(ru:yP v u) {c:Addr}(hy:cl.lookup y=some c) (hcell:s.heap.IsCell c (some us)) (rs:yP vs us)
  (he:Room k (A.deeper (envX qual scope s.heap.objs.size f (.ref c') cl))->PE (qes X A [x,y] qual scope f (.ref c') cl s H) body te) {Q:VK}(q:te [some v,some vs] H Q) :
  wpAny (model X.prog X.w) A (call (.ref f) [u]) (EP X pins σ Q) E s:=by
 refine wpAny_call ?_
 refine kla_callFunE hr.depth ho rfl S.co S.gen rfl hcd ?_
 rw [hb u]
 refine qd (wpAny_newFunctionEnv S.nc (fun z hz=>by rw [qA.mp hz];exact S.par) (fun h₁ hns hsb=>⟨I.nolimit.fresh _ hsb,?_⟩) S.kind)
 have hk₁:∀ b o,s.heap.get? b=some o->h₁.get? b=some o:=fun b o e=>hsb.extBut b o (qk (qh e)) (qc _ e)
 show codeAny _ _ (.expr body (envX qual scope s.heap.objs.size f (.ref c') cl)) _ _
 have J:=qhX (qual:=qual) (f:=f) (cd:=.ref c') (tk:=s.toks+1) I S hA hr.hd hc1 hc2 ru hy hcell rs hns hk₁
 refine kla_codeExpr (qF (he (hr.deeper _) [] _ _ H Q J q) (fun r s' hs=>?_) fun _ _ z=>z.elim)
 obtain ⟨w,H',J',rw',q'⟩:=hs
 exact I.after ⟨w,H',J'.os,J'.bare,J'.base,J'.hok,rw',q'⟩
end
end L2
namespace L2
open PySem PySem.Spec PyProof.Rows PySem.W
def qag (c:Addr) (q:Str):HO:=.ext fun h=>h.CodeRec (.ref c) q
theorem qfM {P:Program}{w:World}{H:Hp}{h:Heap}{c:Addr}{q:Str}(r:h.CodeRec (.ref c) q):jn P w H h c (qag c q):=by
 refine ⟨r,?_,fun h1 h2 p1 k=>?_⟩
 ·obtain ⟨c',o,vs,t,e,ho,_⟩:=r
  cases e
  exact ⟨o,ho⟩
 ·obtain ⟨c',o,vs,t,e,ho,z⟩:=p1
  cases e
  exact ⟨c,o,vs,t,rfl,k o ho,z⟩
def qiA (q:Str) (pos:Pos) (H:Hp) (u:HO):Prop:=∃ ps,u = .tbl ps/\(ps=#[]\/∃ c,ps=#[rawInt pos.line,rawInt pos.col,.ref c]/\H c=some (qag c q))
def YO (base:Heap) (mg:Str->Option Value):Prop:=∃ bm ob,mg "__builtins__" = some (.ref bm)/\bm≠builtinsNs/\base.get? bm=some ob/\ob.cls = .type "module" /\ ob.dict=some builtinsNs/\ob.data = .plain
section
variable {X:Cx}{pins:List (Addr×Obj)}{σ:St}{H:Hp}{s:Shared}{x y:Str}{scope:Scope}{qual:Str}{P c:Addr}{pos:Pos}{params:Arguments}{body:Expr}
theorem qfw (I:Inv X pins σ H s) (hB:YO X.base X.mg) (hC:CodeHd X.base c P) (hcode:X.env.code = .ref c) (hq:X.env.qual ++ "<lambda>" = qual) {u:HO}(hP:H P=some u) (hT:qiA qual pos H u) (hdef:defaultsOf params X.env=([],[]))
  {clos:List (Str×Addr)}(hcl:closureFor scope X.env=pure clos) {Q:Value->Shared->Prop}
  (h:∀ f c' ctv pm H' s',Inv X pins σ H' s'->s'.heap.get? f=some (kla_obj "<lambda>" qual params body scope clos pm c' ctv)->H' f=none->s.heap.objs.size<=f->H' c'=some (qag c' qual)->H' P=some (.tbl #[rawInt pos.line,rawInt pos.col,.ref c'])->(H c'=none\/H'=H)->(∀ b o,H b=some o->b≠P->H' b=some o)->(∀ b o,s.heap.get? b=some o->b≠P->s'.heap.get? b=some o)->Q (.ref f) s') :
  wpAny (model X.prog X.w) X.A (eval (.Lambda params body scope pos) X.env) Q X.xe s:=by
 refine kla_eval hdef ?_
 rw [hq]
 have C:=hC.keeps I.bk
 obtain ⟨ps,rfl,hps⟩:=hT
 have hPo:s.heap.get? P=some (tabObj ps):=I.hok P _ hP
 have hg:s.heap.Ns mainGlobals X.mg:=I.ok.mod.glob.keeps I.bk
 have hbP:∀ b o,X.base.get? b=some o->b≠P:=fun b o e z=>by
  have:=(I.bs b o e).2
  rw [z,hP] at this;cases this
 have hgP:mainGlobals≠P:=by
  obtain ⟨o,es,ep,e,_⟩:=I.ok.mod.glob
  exact hbP _ _ e
 have hBA:s.heap.BuiltinsAt X.mg P:=by
  obtain ⟨bm,ob,b1,b2,b3,b4,b5,b6⟩:=hB
  refine ⟨bm,ob,b1,b2,fun z=>?_,hbP _ _ b3,I.bk _ _ b3,b4,b5,b6⟩
  obtain ⟨o,es,ep,e,hd,_⟩:=I.ok.mod.glob
  rw [z,e] at b3
  cases b3
  rw [b6] at hd
  cases hd
 rcases hps with rfl | ⟨c0,rfl,hc0⟩
 ·refine kla_makeFunction (mg:=X.mg) hcl I.ok.glob hg hcode C hPo trivial rfl hgP hBA fun c' ctv h' tk hx hge hlt hrec htb=>?_
  have old:∀ b o,b≠P->s.heap.get? b=some o->(h'.push (kla_obj "<lambda>" qual params body scope clos ((X.mg "__name__").getD .none) c' ctv)).get? b=some o:=fun b o hb e=>qc _ (hx b o hb e)
  have hcn:H c'=none:=I.hok.fresh hge
  have hcP:c'≠P:=fun z=>by rw [z,hP] at hcn;cases hcn
  have htb2:(h'.push (kla_obj "<lambda>" qual params body scope clos ((X.mg "__name__").getD .none) c' ctv)).get? P=some (tabObj #[rawInt pos.line,rawInt pos.col,.ref c']):=qc _ (by simpa using htb)
  have hrec2:=hrec.push (kla_obj "<lambda>" qual params body scope clos ((X.mg "__name__").getD .none) c' ctv)
  have hsz:s.heap.objs.size<=h'.objs.size:=qu hge (yf hlt)
  have hf:=qx (h:=h') (o:=kla_obj "<lambda>" qual params body scope clos ((X.mg "__name__").getD .none) c' ctv) rfl
  have hfP:h'.objs.size≠P:=fun z=>by
   have:=qh hPo
   rw [<- z] at this
   exact absurd (qH this hsz) (yc _)
  generalize h'.push (kla_obj "<lambda>" qual params body scope clos ((X.mg "__name__").getD .none) c' ctv)=h2 at *
  have nc:∀ b u,H b=some u->b≠c':=fun b u e z=>by rw [z,hcn] at e;cases e
  have nP:∀ b u,H b=some u->(∀ ps,u≠.tbl ps)->b≠P:=fun b u e hu z=>by rw [z,hP] at e;cases e;exact hu _ rfl
  have at':∀ b,b≠P->b≠c'->upd (upd H P (.tbl #[rawInt pos.line,rawInt pos.col,.ref c'])) c' (qag c' qual) b=H b:=fun b h1 h2=>by rw [qI h2,qI h1]
  have hH':upd (upd H P (.tbl #[rawInt pos.line,rawInt pos.col,.ref c'])) c' (qag c' qual) P=some (.tbl #[rawInt pos.line,rawInt pos.col,.ref c']):=by rw [qI (Ne.symm hcP),qM]
  have J:Inv X pins σ (upd (upd H P (.tbl #[rawInt pos.line,rawInt pos.col,.ref c'])) c' (qag c' qual)) { s with heap:=h2,toks:=tk }:=by
   refine I.un ⟨fun b o e n _ _=>old b o (fun z=>by rw [z,hP] at n;cases n) e,fun b o e n _ _=>⟨o.slots,old b o (fun z=>by rw [z,hP] at n;cases n) e⟩,fun b o e n _=>?_,fun b o e _=>?_,fun b xs e=>?_,fun b o u e=>?_,fun b ps e=>?_⟩ fun b u e=>?_
   ·rw [at' b (fun z=>by rw [z,hP] at n;cases n) (fun z=>?_)]
    ·exact n
    ·have:=qh e
     rw [z] at this
     exact absurd (qH this hge) (yc _)
   ·by_cases z:b=P
    ·rw [z];exact ⟨_,htb2⟩
    ·exact ⟨o,old b o z e⟩
   ·rw [at' b (nP b _ e fun _ z=>by cases z) (nc b _ e)];exact e
   ·rw [at' b (nP b _ e fun _ z=>by cases z) (nc b _ e)];exact e
   ·by_cases z:b=P
    ·subst z
     rw [hP] at e
     cases e
     exact ⟨#[rawInt pos.line,rawInt pos.col,.ref c'],by rw [hH'];simp⟩
    ·exact ⟨#[],by rw [at' b z (nc b _ e),e];simp⟩
   ·by_cases z1:b=c'
    ·subst z1
     rw [qM] at e
     cases e
     exact qfM hrec2
    ·by_cases z2:b=P
     ·subst z2
      rw [hH'] at e
      cases e
      exact htb2
     ·rw [at' b z2 z1] at e
      refine (I.hok b u e).stay (fun d v hd q=>old d v (fun z=>?_) q) (fun d q=>?_) fun d xs q=>?_
      ·rcases hd with hd | hd
       ·exact z2 (hd.symm.trans z)
       ·rw [z,hP] at hd;cases hd
      ·rw [at' d (nP d _ q fun _ z=>by cases z) (nc d _ q)];exact q
      ·rw [at' d (nP d _ q fun _ z=>by cases z) (nc d _ q)];exact q
  refine h _ c' ctv _ _ _ J hf ?_ hsz qM hH' (.inl hcn) (fun b o e hb=>?_) (fun b o e hb=>old b o hb e)
  ·rw [at' _ hfP (Nat.ne_of_gt hlt)]
   exact I.hok.fresh hsz
  ·rw [at' b hb (nc b o e)];exact e
 ·have ht:TriplesOk (#[rawInt pos.line,rawInt pos.col,Value.ref c0]).toList:=trivial
  refine kla_makeFunctionHit (mg:=X.mg) (cv:=.ref c0) hcl I.ok.glob hg hcode C hPo ht (by simp [codeAmong,rawInt]) hBA fun ctv h' tk hk hsz=>?_
  have J:Inv X pins σ H { s with heap:=h'.push (kla_obj "<lambda>" qual params body scope clos ((X.mg "__name__").getD .none) c0 ctv),toks:=tk }:=I.kept fun b o e=>qc _ (hk b o e)
  exact h _ c0 ctv _ H _ J (qx _ rfl) (I.hok.fresh hsz) hsz hc0 hP (.inr rfl) (fun _ _ e _=>e) fun b o e _=>qc _ (hk b o e)
end
end L2
namespace L2
open PySem PySem.Spec PyProof.Rows PySem.W
section
variable {X:Cx}{pins:List (Addr×Obj)}{σ:St}{H:Hp}{s:Shared}
theorem Inv.adopt {a:Addr}{o:HO}{h':Heap}{t':Nat}(I:Inv X pins σ H s) (F:Je X pins H a) (k:∀ b u,b≠a->s.heap.get? b=some u->h'.get? b=some u) (new:jn X.prog X.w (upd H a o) h' a o):Inv X pins σ (upd H a o) { s with heap:=h',toks:=t' }:=by
 have hn:H a=none:=F.1
 have nch:∀ b,b∉[a]->b≠a:=fun b hc z=>hc (by simp [z])
 refine I.step (g':=s.gens) (d':=s.drawn) (ch:=[a]) (fun b hb=>?_) (fun b u _ _ hc e _=>k b u (nch b hc) e) (fun b u _ _ hc e _=>⟨u.slots,k b u (nch b hc) e⟩) (fun b u hc e n=>by rw [qI (nch b hc)];exact n)
  (fun b u hc e=>⟨u,k b u (nch b hc) e⟩) (fun b xs e=>by rw [qI (qC e hn)];exact e) (fun b u v e=>by rw [qI (qC e hn)];exact e) (fun b ps e=>⟨#[],by rw [qI (qC e hn),e];simp⟩) (fun m hm=>?_) (fun b u e=>?_) I.bare
 ·rw [qA.mp hb]
  obtain ⟨_,f1,_,f3,f4,f5⟩:=F
  exact ⟨f3,f1,f4,f5⟩
 ·obtain ⟨u,es,ep,ho,r⟩:=hm
  exact ⟨u,es,ep,k _ u (Ne.symm F.2.1) ho,r⟩
 ·by_cases hb:b=a
  ·subst hb
   rw [qM] at e;cases e;exact new
  ·rw [qI hb] at e
   refine (I.hok b u e).stay (fun c v hc q=>k c v ?_ q) (fun c q=>by rw [qI (qC q hn)];exact q) fun c xs q=>by rw [qI (qC q hn)];exact q
   rcases hc with z | z
   ·rw [z];exact hb
   ·exact qC z hn
theorem Inv.pin1 (I:Inv X pins σ H s) {b:Addr}{o:Obj}(F:Je X pins H b) (e:s.heap.get? b=some o) (hd:∀ v,o.data≠.cell v):Inv X (pins++[(b,o)]) σ H s :=
 I.pins_of fun p hp=>(List.mem_append.mp hp).elim (fun z=>I.pin p (qb _ z)) fun z=>by
  rw [qA.mp z];exact ⟨e,F.1,F.2.1,F.2.2.1,hd⟩
theorem Inv.turn1 {h':Heap}{t':Nat}{a:Addr}(I:Inv X pins σ H s) (F:Je X pins H a) (k:∀ b o,b≠a->s.heap.get? b=some o->h'.get? b=some o):Inv X pins σ H { s with heap:=h',toks:=t' } :=
 I.turned k F.1 F.2.1 F.2.2.2.1 F.2.2.2.2.1 F.2.2.2.2.2
theorem Je.at {H':Hp}{a:Addr}(F:Je X pins H a) (h:H' a=none):Je X pins H' a:=⟨h,F.2⟩
theorem qhZ {A:Around}{D kS f:Addr}{vs:List V}{its:List Value}{T:List V->Hp->Prop}{P:PySem.Fin->Shared->Prop}{E:Value->Shared->Prop}{e1 e2:Nat}
  (F1:Je X pins H D) (F2:Je X pins H kS) (hne:D≠kS) (I:Inv X pins σ H s) (hD:s.heap.get? D=some (seqObj "list" #[] e1)) (hk:s.heap.get? kS=some (seqObj "list" #[] e2)) (rv:yb vs its) (hl:vs.length<4900) (t0:T [] H)
  (turn:∀ ks H1 s1 v u pl,Inv X (pins++pl) σ H1 s1->T ks H1->vs[ks.length]?=some v->yP v u->wpAny (model X.prog X.w) A (call (.ref f) [u]) (EP X (pins++pl) σ fun w H2=>T (ks++[w]) H2) (fun _ _=>False) s1)
  (fin:∀ ks H1 s1 kA e,Inv X pins σ H1 s1->s1.heap.get? D=some (seqObj "list" #[] e1)->s1.heap.get? kS=some (seqObj "list" kA e)->H1 D=none->H1 kS=none->yb ks kA.toList->ks.length=vs.length->T ks H1->wpAny (model X.prog X.w) A (ksk_end D false its.toArray e1 (.ref kS) kA) P E s1) :
  wpAny (model X.prog X.w) A (ksk_rest D (.ref f) false its.toArray e1 (.ref kS)) P E s:=by
 unfold ksk_rest
 refine qa (jC ?_)
 first
  | rw [List.forIn_toArray]
  | (rw [<- Array.forIn_toList];simp only [List.toList_toArray])
  | rw [<- Array.forIn_toList]
 have hlen:=rv.length
 refine qa (ksk_fold (fun i s'=>∃ H1 ks kA e,Inv X pins σ H1 s'/\s'.heap.get? D=some (seqObj "list" #[] e1)/\s'.heap.get? kS=some (seqObj "list" kA e)/\H1 D=none/\H1 kS=none/\yb ks kA.toList/\ks.length=i/\T ks H1) its 0 s
  ⟨H,[],#[],e2,I,hD,hk,F1.1,F2.1,.nil,rfl,t0⟩ ?step ?done)
 case step =>
  rintro j x s' hx ⟨H1,ks,kA,e,J,j1,j2,n1,n2,r1,l1,t1⟩
  simp only [Nat.zero_add] at l1 ⊢
  have hj:j<its.length:=(ql.mp hx).1
  obtain ⟨v,hv⟩:∃ v,vs[j]?=some v:=⟨_,List.getElem?_eq_getElem (by omega)⟩
  obtain ⟨u,e3,rx⟩:=yb.get rv hv
  rw [hx] at e3
  cases e3
  have J1:=J.pin1 (F1.at n1) j1 (fun v z=>by cases z)
  have F2':Je X (pins++[(D,seqObj "list" #[] e1)]) H1 kS:=by
   refine ⟨n2,F2.2.1,F2.2.2.1,F2.2.2.2.1,F2.2.2.2.2.1,fun p hp=>?_⟩
   rw [<- List.append_assoc] at hp
   rcases List.mem_append.mp hp with hp | hp
   ·exact F2.2.2.2.2.2 p hp
   ·rw [qA.mp hp];exact hne
  have J2:=J1.pin1 F2' j2 (fun v z=>by cases z)
  rw [List.append_assoc] at J2
  refine qa (wpAny_attempt (qF (turn ks H1 s' v x _ J2 t1 (by rw [l1];exact hv) rx) (fun w s2 h2=>?_) fun _ _ z=>z.elim))
  obtain ⟨y,H2,J3,ry,t2⟩:=h2
  try dsimp only
  have p1:=J3.pin (D,seqObj "list" #[] e1) (by simp)
  have p2:=J3.pin (kS,seqObj "list" kA e) (by simp)
  have J4:=J3.unpinned
  have hz:kA.size=j:=by rw [<- Array.length_toList,<- yb.length r1,l1]
  obtain ⟨c2,hc2⟩:∃ c2,(s2.heap.update kS (Obj.mapSeq (·.push w))).get? kS=some (seqObj "list" (kA.push w) c2):=⟨_,get?_update_seq p2.1 (·.push w)⟩
  refine qa (listUpdate_at p2.1 rfl ?_ (by rw [sizeLine_eq];omega) (qu (Nat.le_of_eq (Array.size_push ..)) (by rw [sizeLine_eq];omega)))
  refine qd ⟨rfl,H2,ks++[y],kA.push w,c2,J4.turn1 (t':=s2.toks) (F2.at p2.2.1) (fun b o hb q=>by rw [yM _ _ _ _ hb];exact q),?_,hc2,p1.2.1,p2.2.1,?_,by rw [List.length_append,l1];rfl,t2⟩
  ·show (s2.heap.update kS _).get? D=_
   rw [yM _ _ _ _ hne];exact p1.1
  ·rw [Array.toList_push]
   exact r1.append (.cons ry .nil)
 case done =>
  rintro s' ⟨H1,ks,kA,e,J,j1,j2,n1,n2,r1,l1,t1⟩
  try dsimp only
  refine qa (listItems_at j2 rfl ?_)
  exact fin ks H1 s' kA e J j1 j2 n1 n2 r1 (by omega) t1
theorem qar {h:Heap}:∀ {ka its:List Value}{kss:List (List Int)}{vs:List V},PySem.Paired (yE h) ka kss->yb vs its->∃ L:List ((Value×Value)×(List Int×V)),ka.zip its=L.map (·.1)/\kss.zip vs=L.map (·.2)/\∀ t∈L,yE h t.1.1 t.2.1/\yP t.2.2 t.1.2
 | _,_,_,_,.nil,_=>⟨[],rfl,rfl,fun _ z=>nomatch z⟩
 | _,_,_,_,.cons _ _,.nil=>⟨[],rfl,rfl,fun _ z=>nomatch z⟩
 | a::ka,u::its,k::kss,v::vs,.cons r1 t1,.cons r2 t2=>by
  obtain ⟨L,e1,e2,e3⟩:=qar t1 t2
  refine ⟨((a,u),(k,v))::L,by simp [e1],by simp [e2],fun t ht=>?_⟩
  rcases List.mem_cons.mp ht with rfl | ht
  ·exact ⟨r1,r2⟩
  ·exact e3 t ht
theorem qa2 {α:Type}(f:α->V) (g:α->Value):∀ (L:List α),(∀ t∈L,yP (f t) (g t))->yb (L.map f) (L.map g)
 | [],_=>.nil
 | a::L,h=>.cons (h a qg) (qa2 f g L fun t ht=>h t (qe _ ht))
theorem qbY {h:Heap}{ka its:List Value}{kss:List (List Int)}{vs:List V}(hT:PySem.Paired (yE h) ka kss) (rv:yb vs its) {xs:List Keyed}(hp:xs.Perm (ka.zip its)) (hs:SdK (kfF h) xs) :
  ∃ ps:List (List Int×V),ps.Perm (kss.zip vs)/\(ps.Pairwise fun a b=>¬ b.1<a.1)/\yb (ps.map (·.2)) (xs.map (·.2)):=by
 obtain ⟨L,e1,e2,e3⟩:=qar hT rv
 obtain ⟨l,p1,p2⟩:=Ya (fun t:(Value×Value)×(List Int×V)=>t.1) hp e1
 have hr:∀ t∈l,yE h t.1.1 t.2.1/\yP t.2.2 t.1.2:=fun t ht=>e3 t (p1.mem_iff.mp ht)
 refine ⟨l.map (·.2),by rw [e2];exact p1.map _,?_,?_⟩
 ·rw [yz]
  unfold SdK at hs
  rw [p2,yz] at hs
  refine hs.imp_of_mem fun {a b} ha hb z=>?_
  have:=of_decide_eq_false z
  rw [qdP (hr a ha).1,qdP (hr b hb).1] at this
  exact this
 ·rw [p2,List.map_map,List.map_map]
  exact qa2 _ _ l fun t ht=>(hr t ht).2
theorem qj9 {A:Around}{D kS:Addr}{vs ks:List V}{its:List Value}{kA:Array Value}{kss:List (List Int)}{P:PySem.Fin->Shared->Prop}{E:Value->Shared->Prop}{e1 e:Nat}
  (F1:Je X pins H D) (F2:Je X pins H kS) (hne:D≠kS) (I:Inv X pins σ H s) (hD:s.heap.get? D=some (seqObj "list" #[] e1)) (hk:s.heap.get? kS=some (seqObj "list" kA e)) (rv:yb vs its) (hl:vs.length<4900) (rk:yb ks kA.toList) (hkl:ks.length=vs.length) (hT:PySem.Paired (JW X.K H) ks kss)
  (fin:∀ ps:List (List Int×V),ps.Perm (kss.zip vs)->(ps.Pairwise fun a b=>¬ b.1<a.1)->∀ s',Inv X pins σ (upd H D (.lst (ps.map (·.2)))) s'->P (.done (.ret .none)) s') :
  wpAny (model X.prog X.w) A (ksk_end D false its.toArray e1 (.ref kS) kA) P E s:=by
 have hK:=I.tupsK hT rk
 have hlen:=rv.length
 have hsz:kA.size=its.length:=by rw [<- Array.length_toList,<- yb.length rk,hkl,hlen]
 have hzs:(kA.zip its.toArray).size=its.length:=by rw [Array.size_zip,hsz,List.size_toArray,Nat.min_self]
 have tail:∀ st:SortSt,(arrOf st).Perm (kA.zip its.toArray)->SdK (kfF s.heap) (arrOf st).toList->failedOf st=none->wpAny (model X.prog X.w) A (ksk_tail D false e1 (.ref kS) st) P E s:=by
  intro st hp hs hfl
  have hp2:(arrOf st).toList.Perm (kA.toList.zip its):=by rw [<- ksk_zip];exact yd.mp hp
  obtain ⟨ps,q1,q2,q3⟩:=qbY hK rv hp2 hs
  have hsz2:(arrOf st).size=its.length:=by rw [hp.size_eq,hzs]
  unfold ksk_tail
  try dsimp only
  have na1:(s.heap.update kS (Obj.mapSeq fun _=>(#[]:Array Value))).get? D=some (seqObj "list" #[] e1):=by rw [yM _ _ _ _ hne];exact hD
  obtain ⟨c2,hc2⟩:∃ c2,((s.heap.update kS (Obj.mapSeq fun _=>(#[]:Array Value))).update D (Obj.mapSeq fun _=>(arrOf st).map (·.2))).get? D=some (seqObj "list" ((arrOf st).map (·.2)) c2) :=
   ⟨_,get?_update_seq na1 fun _=>(arrOf st).map (·.2)⟩
  refine qa (listUpdate_at hk rfl ?_ (by rw [hsz,sizeLine_eq];omega) (qN _))
  refine qa (wpAny_letGo ?_)
  refine qa (seqEpoch_at na1 rfl ?_)
  simp only [Bool.false_eq_true,if_false]
  refine qa (listUpdate_at na1 rfl ?_ (qN _) (by rw [Array.size_map,hsz2,sizeLine_eq];omega))
  rw [hfl]
  simp only [bne_self_eq_false,Bool.false_eq_true,if_false]
  have I1:=I.turn1 (t':=s.toks) (h':=s.heap.update kS (Obj.mapSeq fun _=>(#[]:Array Value))) F2 fun b o hb q=>by rw [yM _ _ _ _ hb];exact q
  refine qd (fin ps q1 q2 _ (I1.adopt (t':=s.toks) F1 (fun b o hb q=>by rw [yM _ _ _ _ hb];exact q) ⟨?_,((arrOf st).map (·.2)).toList,c2,?_,by rw [Array.toArray_toList];exact hc2⟩))
  ·rw [List.length_map,q1.length_eq,List.length_zip,sizeLine_eq]
   omega
  ·rw [Array.toList_map];exact q3
 unfold ksk_end
 try dsimp only
 simp only [Bool.false_eq_true,if_false]
 by_cases h2:its.toArray.size<2
 ·rw [if_pos h2,if_pos h2]
  refine qa (qd ?_)
  rw [StateT.run_pure]
  refine qa (qd ?_)
  try dsimp only
  refine tail (SortSt.mk' general' (kA.zip its.toArray) #[] 7 none) (Array.Perm.refl _) ?_ rfl
  rw [List.size_toArray] at h2
  have:(kA.zip its.toArray).toList.length<2:=by rw [Array.length_toList,hzs];exact h2
  show SdK (kfF s.heap) (kA.zip its.toArray).toList
  generalize (kA.zip its.toArray).toList=zs at this
  match zs,this with
  | [],_=>exact .nil
  | [a],_=>exact List.pairwise_singleton _ _
  | _::_::_,h=>exact absurd h (by simp)
 ·rw [if_neg h2,if_neg h2]
  rw [List.size_toArray] at h2
  have ek:kA=kA.toList.toArray:=by simp
  have kd:=qdO (prog:=X.prog) (w:=X.w) (A:=A) (E:=E) (Q:=fun k s'=>k=tuples' true/\s'=s) hK (by rw [Array.length_toList,hsz];omega) ⟨rfl,rfl⟩
  rw [<- ek] at kd
  refine qa (qF kd (fun k s' h=>?_) fun _ _ z=>z)
  obtain ⟨rfl,rfl⟩:=h
  have hD6:∀ x∈(kA.zip its.toArray).toList,∃ ks,yE s'.heap x.1 ks:=fun x hx=>by
   rw [ksk_zip] at hx
   obtain ⟨L,e1,e2,e3⟩:=qar hK rv
   rw [e1] at hx
   obtain ⟨t,ht,rfl⟩:=qv.mp hx
   exact ⟨_,(e3 t ht).1⟩
  have run:=Yg (prog:=X.prog) (w:=X.w) (A:=A) (E:=E) (s:=s') (st:=SortSt.mk' (tuples' true) (kA.zip its.toArray) #[] 7 none) (a0:=kA.zip its.toArray)
   (Q:=fun _ st'=>(arrOf st').Perm (kA.zip its.toArray)/\SdK (kfF s'.heap) (arrOf st').toList/\failedOf st'=none)
   (qbM (s:=s')) (qgn s'.heap) rfl rfl rfl rfl hD6 (by rw [hzs];omega) (fun st' hp hf hs=>⟨hp,hs,hf⟩)
  refine qa (qF (show wpAny (model X.prog X.w) A (sortRuns'.run _) _ E _ from run) ?_ fun _ _ e=>e)
  rintro ⟨⟨⟩,st'⟩ s'' ⟨rfl,hp,hs,hf⟩
  exact tail st' hp hs hf
theorem qbU {l f:Addr}{vs:List V}{its:List Value}{T:List V->Hp->Prop}{Q:VK}{E:Value->Shared->Prop}(I:Inv X pins σ H s) (hL:s.heap.IsList l its.toArray) (rv:yb vs its) (hl:vs.length<4900) (t0:T [] H)
  (turn:∀ ks H1 s1 v u pl,Inv X (pins++pl) σ H1 s1->T ks H1->vs[ks.length]?=some v->yP v u->wpAny (model X.prog X.w) X.A.in1.in1 (call (.ref f) [u]) (EP X (pins++pl) σ fun w H2=>T (ks++[w]) H2) (fun _ _=>False) s1)
  (fin:∀ ks H1,ks.length=vs.length->T ks H1->∃ kss,PySem.Paired (JW X.K H1) ks kss/\∀ (D:Addr) (ps:List (List Int×V)),H1 D=none->ps.Perm (kss.zip vs)->(ps.Pairwise fun a b=>¬ b.1<a.1)->Q (.ref D) (upd H1 D (.lst (ps.map (·.2))))) :
  wpAny (model X.prog X.w) X.A (call (.builtin "sorted") [.ref l] [(Str.ofString "key",.ref f)]) (EP X pins σ Q) E s:=by
 have hlen:=rv.length
 refine call_function_entry_kw kind_sorted plain_sorted entry_sorted (ksk_s1 _ _) ?_
 unfold Builtin.«sorted»
 refine qa (m:=checkCount "sorted" 1 1 _) (qd ?_)
 refine qa (collect_list hL ?_ (by rw [sizeLine_eq];omega))
 refine qa (wpAny_newList ?_ (by rw [sizeLine_eq];omega))
 have hsz:((s.heap.push (seqObj "list" #[] 0)).update s.heap.objs.size (Obj.mapSeq (·++its.toArray))).objs.size=s.heap.objs.size+1:=by
  rw [Heap.size_update,size_push']
 have hoL:(((s.heap.push (seqObj "list" #[] 0)).update s.heap.objs.size (Obj.mapSeq (·++its.toArray))).push (seqObj "list" its.toArray 0)).get? (s.heap.objs.size+1)=some (seqObj "list" its.toArray 0):=by
  rw [<- hsz];exact qx _ rfl
 have keep:∀ b o,s.heap.get? b=some o->(((s.heap.push (seqObj "list" #[] 0)).update s.heap.objs.size (Obj.mapSeq (·++its.toArray))).push (seqObj "list" its.toArray 0)).get? b=some o:=fun b o q=>by
  have hlt:b<s.heap.objs.size:=qh q
  rw [Heap.get?_push_ne _ _ _ (by rw [hsz];exact qk (Nat.lt_succ_of_lt hlt)),yM _ _ _ _ (qk hlt),Heap.get?_push_ne _ _ _ (qk hlt)]
  exact q
 have hsz2:(((s.heap.push (seqObj "list" #[] 0)).update s.heap.objs.size (Obj.mapSeq (·++its.toArray))).push (seqObj "list" its.toArray 0)).objs.size=s.heap.objs.size+2:=by rw [size_push',hsz]
 show wpAny _ _ _ _ _ { s with heap:=((s.heap.push (seqObj "list" #[] 0)).update s.heap.objs.size (Obj.mapSeq (·++its.toArray))).push (seqObj "list" its.toArray 0) }
 rw [hsz]
 generalize ((s.heap.push (seqObj "list" #[] 0)).update s.heap.objs.size (Obj.mapSeq (·++its.toArray))).push (seqObj "list" its.toArray 0)=h1 at *
 have I1:Inv X pins σ H { s with heap:=h1 }:=I.kept (t':=s.toks) keep
 have FD:Je X pins H (s.heap.objs.size+1):=I.fpOk (Nat.le_succ _) (I.hok.fresh (Nat.le_succ _))
 refine qa (qX (wpAny_call_entry_kw slot_list_sort ⟨_,hoL,rfl⟩ entry_list_sort ?body (ksk_l1 _ _)))
 case body =>
  show wpAny (model X.prog X.w) X.A.in1.in1 (Builtin.«list.sort» ⟨[.ref (s.heap.objs.size+1)],[(Str.ofString "key",.ref f)]⟩) _ _ _
  rw [ksk_t1]
  obtain ⟨e1,ho1⟩:∃ e1,(h1.update (s.heap.objs.size+1) (Obj.mapSeq fun _=>(#[]:Array Value))).get? (s.heap.objs.size+1)=some (seqObj "list" #[] e1):=⟨_,get?_update_seq hoL fun _=>#[]⟩
  have I2:=I1.turn1 (t':=s.toks) (h':=h1.update (s.heap.objs.size+1) (Obj.mapSeq fun _=>(#[]:Array Value))) FD fun b o hb q=>by rw [yM _ _ _ _ hb];exact q
  have z2:(h1.update (s.heap.objs.size+1) (Obj.mapSeq fun _=>(#[]:Array Value))).objs.size=s.heap.objs.size+2:=by rw [Heap.size_update,hsz2]
  unfold ksk_tree
  refine qa (listItems_at hoL rfl ?_)
  refine qa (listUpdate_at hoL rfl ?_ (by rw [List.size_toArray,sizeLine_eq];omega) (qN _))
  refine qa (seqEpoch_at ho1 rfl ?_)
  refine qa (wpAny_newTuple ?_ (by show its.length<=_;rw [sizeLine_eq];omega))
  refine qa (wpAny_newList ?_ (qN _))
  refine qX ?_
  generalize h1.update (s.heap.objs.size+1) (Obj.mapSeq fun _=>(#[]:Array Value))=h2 at *
  have z3:(h2.push (seqObj "tuple" its.toArray 0)).objs.size=s.heap.objs.size+3:=by rw [size_push',z2]
  have k3:∀ b o,h2.get? b=some o->((h2.push (seqObj "tuple" its.toArray 0)).push (seqObj "list" #[] 0)).get? b=some o:=fun b o q=>qc _ (qc _ q)
  have hkS:((h2.push (seqObj "tuple" its.toArray 0)).push (seqObj "list" #[] 0)).get? (s.heap.objs.size+3)=some (seqObj "list" #[] 0):=by rw [<- z3];exact qx _ rfl
  have I3:Inv X pins σ H { s with heap:=(h2.push (seqObj "tuple" its.toArray 0)).push (seqObj "list" #[] 0) }:=I2.kept (t':=s.toks) k3
  have FK:Je X pins H (s.heap.objs.size+3):=I.fpOk (Nat.le_add_right _ 3) (I.hok.fresh (Nat.le_add_right _ 3))
  have hne:s.heap.objs.size+1≠s.heap.objs.size+3:=by omega
  show wpAny (model X.prog X.w) X.A.in1.in1 (ksk_rest (s.heap.objs.size+1) (.ref f) false its.toArray e1 (.ref (h2.push (seqObj "tuple" its.toArray 0)).objs.size)) _ _ { s with heap:=(h2.push (seqObj "tuple" its.toArray 0)).push (seqObj "list" #[] 0) }
  rw [z3]
  refine qhZ (T:=T) FD FK hne I3 (k3 _ _ ho1) hkS rv hl t0 turn fun ks H1 s1 kA e J j1 j2 n1 n2 r1 l1 t1=>?_
  obtain ⟨kss,hT,q⟩:=fin ks H1 l1 t1
  refine qj9 (FD.at n1) (FK.at n2) hne J j1 j2 rv hl r1 l1 hT fun ps p1 p2 s' J'=>⟨_,rfl,?_⟩
  exact qd ⟨_,rfl,.ref (s.heap.objs.size+1),_,J',rfl,q _ ps n1 p1 p2⟩
end
end L2
namespace L2
open PySem PySem.Spec PyProof.Rows PySem.W
def tabC (pos:Pos) (c:Addr):HO:=.tbl #[rawInt pos.line,rawInt pos.col,.ref c]
def qf1 (K:W.Frag) (P:Addr) (qual:Str) (lp:Pos) (i:Nat) (tl te:TE):TE:=fun σ H Q=>tl σ H fun v H1=>∃ l us y u,v = .ref l/\SqL K H1 l us/\us.length<4900/\σ[i]?=some (some y)/\H1 P=some u/\qiA qual lp H1 u ∧
 ∀ H2 c',(∀ b o,H1 b=some o->b≠P->H2 b=some o)->H2 P=some (tabC lp c')->H2 c'=some (qag c' qual)->(H1 c'=none\/H2=H1) →
  ∃ T:List V->Hp->Prop,T [] H2/\(∀ ks H3,T ks H3->H3 c'=some (qag c' qual))/\(∀ ks H3 v,T ks H3->us[ks.length]?=some v->te [some v,some y] H3 fun w H4=>T (ks++[w]) H4) ∧
   ∀ ks H3,ks.length=us.length->T ks H3->∃ kss,PySem.Paired (JW K H3) ks kss/\∀ (D:Addr) (ps:List (List Int×V)),H3 D=none->ps.Perm (kss.zip us)->(ps.Pairwise fun a b=>¬ b.1<a.1)->Q (.ref D) (upd H3 D (.lst (ps.map (·.2))))
section
variable {X:Cx}{x y:Str}{params:Arguments}{le body:Expr}{scope:Scope}{lp kp p p':Pos}{qual:Str}{P c:Addr}{tl te:TE}{k i:Nat}
theorem qfc (hB:YO X.base X.mg) (hC:CodeHd X.base c P) (hcode:X.env.code = .ref c) (hq:X.env.qual ++ "<lambda>" = qual) (hdef:defaultsOf params X.env=([],[])) (S:LamSc x y scope) (hyf:∀ z∈scope.names,z.2 = .free->z.1=y)
  (hyX:X.env.scope.names.lookup y=some .cell) (hN:X.N[i]?=some y) (hg:Gl X "sorted") (hm:X.mg "sorted" = none) (hr:Room (k+1) X.A.in1.in1)
  (hb:∀ (clos:List (Str×Addr)) (pm cd ctv u:Value),bindArgs (kla_fn "<lambda>" qual params body scope clos pm cd ctv) ⟨[u],[]⟩=pure [(x,u)])
  (hl:PE X le tl) (he:∀ f c' cl s H,Room k (X.A.in1.in1.deeper (envX qual scope s.heap.objs.size f (.ref c') cl))->PE (qes X X.A.in1.in1 [x,y] qual scope f (.ref c') cl s H) body te)
  (hs1:starEach [le] X.env=(false,eval le X.env)::starEach [] X.env:=by rfl) :
  PE X (.Call (.Name "sorted" p) [le] [⟨some "key",.Lambda params body scope lp,kp⟩] p') (qf1 X.K P qual lp i tl te):=by
 intro pins s σ H Q I h
 obtain ⟨cl,hcl,hc1,hc2⟩:=j6 (env:=X.env) (scope:=scope) fun z hz hfr=>by
  rw [hyf z hz hfr]
  exact I.ok.has y (.inl hyX)
 refine wpAny_Call_Name_kw (YZ I hg hm YH (callWith_kw ?_ (by rw [hs1];rfl) (by rw [hs1];rfl)))
 have sp:backTo p' (starEach [le] X.env)=(false,eval le X.env)::backTo p' (starEach [] X.env):=by rw [hs1];rfl
 rw [sp]
 refine Calls.spliced_cons (thn (hl pins s σ H _ I h) fun u s1 ⟨v,H1,I1,r1,q1⟩=>Calls.spliced_nil ?_)
 obtain ⟨l,us,yv,tb,rfl,hS,hz,hσ,hP,hT,q⟩:=q1
 cases r1
 refine kws_cons (qfw I1 hB hC hcode hq hP hT hdef hcl fun f c' ctv pm H2 s2 I2 hf hfn hfz hc' hP' hor hk1 hk2=>kws_nil ?_)
 obtain ⟨T,t0,tc,ts,tf⟩:=q H2 c' hk1 hP' hc' hor
 have hSP:∀ us,SqL X.K H1 l us->SqL X.K H2 l us:=fun us z=>by
  have nl:∀ o,H1 l=some o->(∀ ps,o≠.tbl ps)->l≠P:=fun o e hu z=>by
   obtain ⟨ps,e2,_⟩:=hT
   rw [z,hP,e2] at e
   cases e
   exact hu ps rfl
  rcases z with (e | ⟨o,e⟩) | e
  ·exact .inl (.inl (hk1 _ _ e (nl _ e fun _ z=>by cases z)))
  ·exact .inl (.inr ⟨o,hk1 _ _ e (nl _ e fun _ z=>by cases z)⟩)
  ·exact .inr e
 obtain ⟨its,rv,pl,_⟩:=I2.list (hSP us hS)
 have Ff:Je X pins H2 f:=I1.fpOk hfz hfn
 have I3:=I2.pin1 Ff hf (fun v z=>by cases z)
 refine qF (qbU (T:=T) (Q:=Q) (E:=X.xe) I3 pl.isList rv hz t0 (fun ks H3 s3 v u pl2 J t3 hv rvu=>?_) tf) (fun r s4 h4=>?_) fun _ _ z=>z
 ·have fo:=(J.pin (f,kla_obj "<lambda>" qual params body scope cl pm c' ctv) (by simp)).1
  obtain ⟨m,hns,hlk⟩:=id J.loc
  obtain ⟨uy,ry,lk⟩:=hlk i y yv hN hσ (.inr (.inl hyX))
  obtain ⟨cy,hcy,hcell⟩:∃ cy,cl.lookup y=some cy/\s3.heap.IsCell cy (some uy):=by
   obtain ⟨cy,e⟩:=hc2 (y,.free) (PySem.mem_of_lookup S.fr) rfl
   refine ⟨cy,e,?_⟩
   rcases lk with ⟨z,_⟩ | ⟨_,c2,e2,z⟩
   ·have z:X.env.scope.names.lookup y=some .local:=z
    rw [hyX] at z;cases z
   ·rw [hc1 _ _ e] at e2
    cases e2
    exact z
  have hcd:s3.heap.CodeRec (.ref c') qual:=(J.hok c' _ (tc ks H3 t3)).1
  exact qfx (A:=X.A.in1.in1) J S J.ok.frames hr hc1 hc2 fo hcd (fun u=>hb cl pm (.ref c') ctv u) rvu hcy hcell ry (fun rm=>he f c' cl s3 H3 rm) (ts ks H3 v t3 hv)
 ·obtain ⟨w,H',J,rw',qw⟩:=h4
  exact ⟨w,H',J.unpinned,rw',qw⟩
end
def Yk (q:Str) (pos:Pos):MSt where
 R:=qiA q pos
 st:=fun H H' u s ⟨ps,e,h⟩=>⟨ps,e,h.imp id fun ⟨c,e,h⟩=>⟨c,e,s _ _ h⟩⟩
 nt:=fun H u xs ⟨ps,e,_⟩ z=>by rw [e] at z;cases z
 ml:=fun H H' a xs u ha k ⟨ps,e,h⟩=>⟨ps,e,h.imp id fun ⟨c,e,h⟩=>⟨c,e,k _ _ h fun z=>by rw [z,ha] at h;cases h⟩⟩
def qgC (P:Addr) (q:Str) (pos:Pos) (i:Nat) (tl te:TEd):TEd:=fun ρ μ Q=>tl ρ μ fun e μ1=>∃ (zs:List (List Int)) (g:En) (key:List Int->List Int),LstOf μ1 e (zs.map jO)/\zs.length<4900/\ρ[i]?=some (some g)/\(P,MO.any (Yk q pos))∈μ1/\(∀ z,key z≠[]) ∧
 (∀ z∈zs,te [some (.d (jO z)),some g] μ1 fun w μ2=>μ2=μ1/\w = .d (jO (key z))) ∧
 ∀ ps:List (List Int),ps.Perm zs->(ps.Pairwise fun a b=>¬ key b<key a)->Q (.d (.list (ps.map jO))) μ1
theorem Yp {α β:Type}{F:α->β->Prop}{a:α}{b:β}(h:F a b):∀ {l:List α}{m:List β},PySem.Paired F l m->PySem.Paired F (l++[a]) (m++[b])
 | _,_,.nil=>.cons h .nil
 | _,_,.cons x t=>.cons x (Yp h t)
theorem IsAll.getA {K:W.Frag}{H:Hp}{vs:List V}{zs:List (List Int)}(h:IsAll K H vs (zs.map jO)) {j:Nat}{v:V}(e:vs[j]?=some v):∃ z,zs[j]?=some z/\Is K H v (jO z):=by
 obtain ⟨d,e1,e2⟩:=h.get e
 rw [List.getElem?_map] at e1
 cases q:zs[j]? with
 | none=>rw [q] at e1;cases e1
 | some z=>rw [q] at e1;cases e1;exact ⟨z,rfl,e2⟩
theorem qaZ {K:W.Frag}{H:Hp}{key:List Int->List Int}:∀ {zs:List (List Int)}{us:List V},IsAll K H us (zs.map jO)->∃ L:List (List Int×V),(zs.map key).zip us=L.map (fun t=>(key t.1,t.2))/\L.map (·.1)=zs/\∀ t∈L,Is K H t.2 (jO t.1)
 | [],_,.nil=>⟨[],rfl,rfl,fun _ z=>nomatch z⟩
 | z::zs,u::us,.cons r t=>by
  obtain ⟨L,e1,e2,e3⟩:=qaZ (key:=key) t
  refine ⟨(z,u)::L,by simp [e1],by simp [e2],fun t ht=>?_⟩
  rcases List.mem_cons.mp ht with rfl | ht
  ·exact r
  ·exact e3 t ht
theorem Z3 {K:W.Frag}{H:Hp}:∀ {L:List (List Int×V)},(∀ t∈L,Is K H t.2 (jO t.1))->IsAll K H (L.map (·.2)) ((L.map (·.1)).map jO)
 | [],_=>.nil
 | t::L,h=>.cons (h t qg) (Z3 fun u hu=>h u (qe _ hu))
section
variable {K:W.Frag}{P:Addr}{q:Str}{pos:Pos}{i:Nat}{tl te:TEd}
theorem qeR {σ:St}{H:Hp}{Q:VK}(h:up K (qgC P q pos i tl te) σ H Q):qf1 K P q pos i (up K tl) (up K te) σ H Q:=by
 obtain ⟨ρ,μ,Q0,hS,hM,h,cl⟩:=h
 refine ⟨ρ,μ,_,hS,hM,h,fun e μ1 v H1 h1 M1 s1 i1=>?_⟩
 obtain ⟨zs,g,key,hL,hz,hg,hP,hk,ht,hq⟩:=h1
 obtain ⟨l,us,rfl,hl,hA⟩:=hL.get M1 i1
 obtain ⟨y,hy,iy⟩:=(hS.same s1).get i g hg
 obtain ⟨u,hu,tu⟩:=M1.ob P _ hP
 have ulen:us.length=zs.length:=by rw [hA.len,List.length_map]
 refine ⟨l,us,y,u,rfl,hl,by omega,hy,hu,(Yk q pos).st _ _ _ ym tu,fun H2 c' kp hP2 hc2 hor=>?_⟩
 obtain ⟨μa,μb,rfl⟩:=List.append_of_mem hP
 -- the code's object is none of those that may change
 have hcm:c'∉(μa++(P,MO.any (Yk q pos))::μb).map Prod.fst:=by
  rcases hor with hn | rfl
  ·intro z
   obtain ⟨⟨a,o⟩,ho,rfl⟩:=qv.mp z
   obtain ⟨x,e⟩:=(M1.ob a o ho).some
   rw [hn] at e;cases e
  ·rw [hP2] at hu
   cases hu
   obtain ⟨ps,e,hps⟩:=tu
   rcases hps with rfl | ⟨c,rfl,hc⟩
   ·unfold tabC at e
    cases e
   ·unfold tabC at e
    cases e
    exact (yt hc).1
 obtain ⟨M2,s2⟩:=M1.write (o':=MO.any (Yk q pos)) kp fun ss=>⟨_,hP2,_,rfl,.inr ⟨c',rfl,by rw [q9 hcm];exact hc2⟩⟩
 have iy2:=iy.same s2
 have hA2:=hA.same s2
 refine ⟨fun ks H3=>RelM K (μa++(P,MO.any (Yk q pos))::μb) H3/\qY (mask (μa++(P,MO.any (Yk q pos))::μb) H2) (mask (μa++(P,MO.any (Yk q pos))::μb) H3)/\PySem.Paired (JW K (mask (μa++(P,MO.any (Yk q pos))::μb) H3)) ks ((zs.take ks.length).map key),⟨M2,qY.refl _,.nil⟩,fun ks H3 ⟨_,s3,_⟩=>?_,fun ks H3 v ⟨M3,s3,p3⟩ hv=>?_,fun ks H3 hkl ⟨M3,s3,p3⟩=>?_⟩
 ·exact ym _ _ (s3 _ _ (by rw [q9 hcm];exact hc2))
 ·obtain ⟨z,hz,iz⟩:=(hA2.same s3).getA hv
  have hzm:z∈zs:=List.mem_of_getElem? hz
  refine ⟨[some (.d (jO z)),some g],_,_,⟨rfl,fun j e he=>?_⟩,M3,ht z hzm,fun w μ4 x H4 q4 M4 s4 i4=>?_⟩
  ·match j,he with
   | 0,he=>cases he;exact ⟨v,rfl,iz⟩
   | 1,he=>cases he;exact ⟨y,rfl,iy2.same s3⟩
   | j+2,he=>simp at he
  ·obtain ⟨rfl,rfl⟩:=q4
   have i4:Is K (mask (μa++(P,MO.any (Yk q pos))::μb) H4) x (jO (key z)):=i4
   have tz:JW K (mask (μa++(P,MO.any (Yk q pos))::μb) H4) x (key z):=by
    have:=IsAll.tups (K:=K) (us:=[x]) (kss:=[key z]) (.cons i4 .nil) (fun k hk'=>by rw [qA.mp hk'];exact hk z)
    cases this with
    | cons a b=>exact a
   refine ⟨M4,s3.trans s4,?_⟩
   have e:(zs.take (ks++[x]).length).map key=(zs.take ks.length).map key++[key z]:=by
    rw [List.length_append,List.length_singleton,List.take_add_one,hz]
    simp
   rw [e]
   exact Yp tz (jE p3 fun a _ b h=>h.same s4)
 ·rw [List.take_of_length_le (by omega)] at p3
  refine ⟨zs.map key,jE p3 fun a _ b h=>h.up,fun D ps hD pp pw=>?_⟩
  obtain ⟨L,e1,e2,e3⟩:=qaZ (key:=key) hA2
  rw [e1] at pp
  obtain ⟨l2,p1,p2⟩:=Ya (fun t:List Int×V=>(key t.1,t.2)) pp rfl
  obtain ⟨M4,s4,hn⟩:=M3.laid (o:=.lst (ps.map (·.2))) hD
  have hw:ps.map (·.2)=l2.map (·.2):=by rw [p2,List.map_map];rfl
  have pz:(l2.map (·.1)).Perm zs:=by rw [<- e2];exact p1.map _
  refine cl _ _ _ _ (hq (l2.map (·.1)) pz ?_) M4 (((s1.trans s2).trans s3).trans s4) (.lst (SqL.of (by rw [q9 hn];exact qM)) ?_)
  ·rw [p2,yz] at pw
   rw [yz]
   exact pw
  ·have:=Z3 (L:=l2) fun t ht=>((e3 t (p1.mem_iff.mp ht)).same s3).same s4
   rw [<- hw] at this
   exact this
variable {X:Cx}{x y:Str}{params:Arguments}{le body:Expr}{scope:Scope}{kp p p':Pos}{c:Addr}{k:Nat}
theorem qih (hB:YO X.base X.mg) (hC:CodeHd X.base c P) (hcode:X.env.code = .ref c) (hq:X.env.qual ++ "<lambda>" = q) (hdef:defaultsOf params X.env=([],[])) (S:LamSc x y scope) (hyf:∀ z∈scope.names,z.2 = .free->z.1=y)
  (hyX:X.env.scope.names.lookup y=some .cell) (hN:X.N[i]?=some y) (hg:Gl X "sorted") (hm:X.mg "sorted" = none) (hr:Room (k+1) X.A.in1.in1)
  (hb:∀ (clos:List (Str×Addr)) (pm cd ctv u:Value),bindArgs (kla_fn "<lambda>" q params body scope clos pm cd ctv) ⟨[u],[]⟩=pure [(x,u)])
  (hl:DE K X le tl) (he:∀ f c' cl s H,Room k (X.A.in1.in1.deeper (envX q scope s.heap.objs.size f (.ref c') cl))->DE K (qes X X.A.in1.in1 [x,y] q scope f (.ref c') cl s H) body te)
  (hK:X.K=K:=by rfl) (hs1:starEach [le] X.env=(false,eval le X.env)::starEach [] X.env:=by rfl) :
  DE K X (.Call (.Name "sorted" p) [le] [⟨some "key",.Lambda params body scope pos,kp⟩] p') (qgC P q pos i tl te):=by
 subst hK
 exact PE.mono (qfc hB hC hcode hq hdef S hyf hyX hN hg hm hr hb hl he hs1) fun _ _ _=>qeR
end
end L2
namespace L2
open PySem PySem.Spec PyProof.Rows PySem.W
theorem qdN {P:Program}{w:World}{K:W.Frag}{mg mb:Str->Option Value}{CX:CXT}{k:Nat}{fa a tb c:Addr}{fd:FuncData}{x:Str}{sp:Sp}{s₁:Shared}{vs:List Value}{ns:List Int}
  (KX:K.In s₁.heap) (hns:s₁.heap.Ns mainGlobals mg) (hb:s₁.heap.Ns builtinsNs mb) (hbb:∀ x:Str,x ≠ "__name__" -> mb x=bootBuiltins x) (hlim:s₁.heap.NoLimit) (hg:s₁.gens=#[])
  (ha:s₁.heap.get? a=some { cls:=.type "list",data:=.seq vs.toArray }) (hi:IntsAre vs ns) (hl:ns.length<=sizeLine) (hr:Room k callerA)
  (hbm:YO s₁.heap mg) (hT:s₁.heap.get? tb=some (tabObj #[])) (hC:CodeHd s₁.heap c tb) (hKt:K.lookup tb=none)
  (F:∀ base:Heap,K.In base->base.Ns mainGlobals mg->YO base mg->FnOk P w K mg base CX k fa fd [x] sp) (hbind:∀ (s:Shared) (u:Value),BindsTo s fd ⟨[u],[]⟩ [(x,u)])
  (hsp:∀ H:Hp,H tb=some (.tbl #[])->SqL K H a (ns.map V.int)->sp [.ref a] H (fun v _=>v = .bl true) fun _ _ _=>False)
  (hCX:∀ H e s',CX [] H s₁ (fun _ _ _=>False) e s'->False) :
  codeAny (model P w) callerA (.call (.ref fa) ⟨[.ref a],[]⟩) (fun r s'=>r = .ok (.ret (.bool true))/\OldK s₁.heap s'.heap/\s'.os=s₁.os/\AllBare s'.gens) s₁:=by
 have rv:=Yi hi
 have lenV:=hi.length
 have hta:tb≠a:=fun z=>by
  rw [z,ha] at hT
  cases hT
 have core:∀ G:Hp,qkV G->SqL K G a (ns.map V.int)->HOk P w G s₁.heap->(∀ b,G b≠none->b=a)->(G a≠none->K.lookup a=none) →
   codeAny (model P w) callerA (.call (.ref fa) ⟨[.ref a],[]⟩) (fun r s'=>r = .ok (.ret (.bool true))/\OldK s₁.heap s'.heap/\s'.os=s₁.os/\AllBare s'.gens) s₁:=by
  intro G hO hS hokG hAG hKG
  have hGt:G tb=none:=by
   cases q:G tb with
   | none=>rfl
   | some u=>exact absurd (hAG tb (by rw [q];simp)) hta
  have hHt:upd G tb (.tbl #[]) tb=some (.tbl #[]):=qM
  have hHS:SqL K (upd G tb (.tbl #[])) a (ns.map V.int):=by
   rcases hS with (e | ⟨o,e⟩) | e
   ·exact .inl (.inl (by rw [qI (Ne.symm hta)];exact e))
   ·exact .inl (.inr ⟨o,by rw [qI (Ne.symm hta)];exact e⟩)
   ·exact .inr e
  have hok:HOk P w (upd G tb (.tbl #[])) s₁.heap:=fun b u e=>by
   by_cases z:b=tb
   ·subst z
    rw [qM] at e
    cases e
    exact hT
   ·rw [qI z] at e
    exact (hokG b u e).stay (fun c v hc q=>q) (fun c q=>by rw [qI (qC q hGt)];exact q) fun c xs q=>by rw [qI (qC q hGt)];exact q
  have hA:∀ b,upd G tb (.tbl #[]) b≠none->b=tb\/b=a:=fun b h=>by
   by_cases z:b=tb
   ·exact .inl z
   ·rw [qI z] at h
    exact .inr (hAG b h)
  have hO2:∀ b,upd G tb (.tbl #[]) b=none\/b=tb\/∃ o xs,upd G tb (.tbl #[]) b=some (.frz o (.lst xs)):=fun b=>by
   by_cases z:b=tb
   ·exact .inr (.inl z)
   ·rw [qI z]
    rcases hO b with h | h
    ·exact .inl h
    ·exact .inr (.inr h)
  have hKa:upd G tb (.tbl #[]) a≠none->K.lookup a=none:=fun h=>hKG (by rw [qI (Ne.symm hta)] at h;exact h)
  generalize upd G tb (.tbl #[])=H at *
  have base_of:∀ {b:Addr}{o:Obj},s₁.heap.get? b=some o->H b=none->(qaM s₁.heap H).get? b=some o:=fun e n=>qbw e n
  have noA:∀ {b:Addr}{o:Obj},s₁.heap.get? b=some o->(∀ xs n,o.data≠.seq xs n)->(∀ xs,o.data≠.fields xs)->H b=none:=fun {b o} e d1 d2=>by
   cases q:H b with
   | none=>rfl
   | some u =>
    rcases hA b (by rw [q];simp) with e' | e'
    ·subst e'
     rw [hT] at e;cases e
     exact absurd rfl (d2 _)
    ·subst e'
     rw [ha] at e;cases e
     exact absurd rfl (d1 _ _)
  have nsK:∀ {b:Addr}{m:Str->Option Value},s₁.heap.Ns b m->(qaM s₁.heap H).Ns b m:=fun {b m} ⟨o,es,ep,e,d,r⟩=>⟨o,es,ep,base_of e (noA e (fun _ _ z=>by rw [d] at z;cases z) (fun _ z=>by rw [d] at z;cases z)),d,r⟩
  have hKb:K.In (qaM s₁.heap H):=fun b o e=>base_of (KX b o e) (by
   cases q:H b with
   | none=>rfl
   | some u =>
    rcases hA b (by rw [q];simp) with e' | e'
    ·subst e'
     rw [hKt] at e;cases e
    ·subst e'
     rw [hKa (by rw [q];simp)] at e;cases e)
  have hB:YO (qaM s₁.heap H) mg:=by
   obtain ⟨bm,ob,b1,b2,b3,b4,b5,b6⟩:=hbm
   exact ⟨bm,ob,b1,b2,base_of b3 (noA b3 (fun _ _ z=>by rw [b6] at z;cases z) (fun _ z=>by rw [b6] at z;cases z)),b4,b5,b6⟩
  have hM:Mod K mg (qaM s₁.heap H):=⟨hKb,nsK hns,⟨mb,nsK hb,hbb⟩,let ⟨mc,h1,h2⟩:=hlim;⟨mc,nsK h1,h2⟩⟩
  have e0:Env0 P w K mg (qaM s₁.heap H) callerA [] s₁ H:=⟨rfl,hM,fun b o e=>qdo e,Nat.le_of_eq (Z4 _ _),trivial,fun b hb=>absurd (show b∈([]:List Addr) from hb) (by simp),hok,.of_eq hg⟩
  refine codeAny_mono ((F _ hKb (nsK hns) hB).run callerA [] s₁ H ⟨[.ref a],[]⟩ [.ref a] [.ref a] _ _ hr e0 (hbind s₁ (.ref a)) (.cons rfl .nil) (hsp H hHt hHS)) fun r s' h=>?_
  cases r with
  | error e=>exact (hCX H e s' h).elim
  | ok fl =>
   cases fl with
   | next=>exact False.elim h
   | brk=>exact False.elim h
   | cont=>exact False.elim h
   | ret u =>
    obtain ⟨v,H',os,bare,un,hok',r',q⟩:=h
    have q':v = .bl true:=q
    subst q'
    obtain rfl:u=Value.bool true:=r'
    obtain ⟨more,ht'⟩:=un.tbls tb #[] hHt
    have hg':s'.heap.get? tb=some (tabObj more):=by
     have:=hok' tb _ ht'
     rw [Array.empty_append] at this
     exact this
    have keep:∀ b o,b≠tb->s₁.heap.get? b=some o->s'.heap.get? b=some o:=fun b o hb e=>by
     cases q:H b with
     | none=>exact un.keep b o e q (by intro z;exact absurd (show b∈([]:List Addr) from z) (by simp)) (by simp)
     | some u =>
      rcases hO2 b with z | z | ⟨ob,xs,z⟩
      ·rw [q] at z;cases z
      ·exact absurd z hb
      ·have z2:=un.frzs b ob _ z
       obtain ⟨e1,_⟩:=hok b _ z
       obtain ⟨e2,_⟩:=hok' b _ z2
       rw [e] at e1;cases e1
       exact e2
    refine ⟨rfl,⟨fun b o e=>?_,fun b o e=>?_⟩,os,bare⟩
    ·by_cases hb:b=tb
     ·subst hb
      rw [hT] at e
      cases e
      exact .inr (.inl ⟨(hC.tab hT).isCodeTable,rfl,#[],more,rfl,by rw [Array.empty_append];exact hg'⟩)
     ·exact .inl (keep b o hb e)
    ·by_cases hb:b=tb
     ·exact ⟨_,hb ▸ hg'⟩
     ·exact ⟨o,keep b o hb e⟩
 cases hk:K.lookup a with
 | some o =>
  have e:=KX a o hk
  rw [ha] at e
  cases e
  refine core (fun _=>none) (fun _=>.inl rfl) (.inr ⟨_,vs.toArray,_,hk,rfl,rfl,rfl,by rw [List.size_toArray,lenV];exact hl,by simpa using rv⟩) (fun b u z=>by have z':(none:Option HO)=some u:=z;cases z') (fun b z=>absurd rfl z) fun z=>absurd rfl z
 | none =>
  refine core (fun b=>if b=a then some (.frz { cls:=.type "list",data:=.seq vs.toArray } (.lst (ns.map V.int))) else none) (fun b=>?_) (.inl (.inr ⟨{ cls:=.type "list",data:=.seq vs.toArray },if_pos rfl⟩)) (fun b u z=>?_) (fun b z=>?_) fun _=>hk
  ·by_cases hb:b=a
   ·exact .inr ⟨_,_,if_pos hb⟩
   ·exact .inl (if_neg hb)
  ·by_cases hb:b=a
   ·have z':=(if_pos hb).symm.trans z
    cases z'
    subst hb
    exact ⟨ha,by rw [List.length_map];exact hl,vs,_,rv,ha⟩
   ·have z':=(if_neg hb).symm.trans z
    cases z'
  ·by_cases hb:b=a
   ·exact hb
   ·exact absurd (if_neg hb) z
theorem walk_ofT {l:W.OpenLaw}{n k:Nat}{q:Program}{loose:List Str}{XP:(Str->Option Value)->Heap->Prop}{YP:World->Heap->Prop}{d:DefRec}{K:Params->W.Frag}{CX:World->CXT}{sp:World->Sp}{x:Str}(tb c:Addr)
  (hn:l.most=some n) (hn2:n<=sizeLine) (hdf:d.params.defaults=[]) (hr:Room k callerA)
  (hY:∀ (w:World) (h:Heap),YP w h->(K w.params).In h) (hYt:∀ (w:World) (h:Heap),YP w h->h.get? tb=some (tabObj #[])) (hKt:∀ w:World,(K w.params).lookup tb=none) (hCt:∀ w:World,codeHdIn (K w.params) c tb=true)
  (F:∀ (w:World) (mg:Str->Option Value) (fa:Addr) (h:Heap),(K w.params).In h->h.Ns mainGlobals mg->mg d.name=some (.ref fa) →
   ∃ fd:FuncData,(∀ (s:Shared) (u:Value),BindsTo s fd ⟨[u],[]⟩ [(x,u)]) ∧
    ∀ base:Heap,(K w.params).In base->base.Ns mainGlobals mg->YO base mg->FnOk l.prog w (K w.params) mg base (CX w) k fa fd [x] (sp w))
  (hsp:∀ (w:World) (H:Hp) (a:Addr) (ns:List Int),ns.length<=n->H tb=some (.tbl #[])->SqL (K w.params) H a (ns.map V.int)->sp w [.ref a] H (fun v _=>v = .bl true) fun _ _ _=>False)
  (hCX:∀ (w:World) (H:Hp) (s:Shared) (e:Value) (s':Shared),CX w [] H s (fun _ _ _=>False) e s'->False) :
  W.WalkO q loose XP YP l.row.toRowW d [] (fun f vs=>PySem.call f vs):=by
 refine Att.attach_call hn hdf fun w s₀ s₁ mg mb fa o pm cd doc a vs ns G Y ho hd hcd hmg hobj hints hlen hg=>?_
 have KX:=hY w _ Y
 obtain ⟨fd,hb,hF⟩:=F w mg fa _ KX G.T.g hmg
 exact qdN KX G.T.g G.T.b G.T.builtins G.T.nolimit hg hobj hints (qu hlen hn2) hr G.T.bmain (hYt w _ Y) (codeHd_of_K KX (hCt w)) (hKt w) hF hb (fun H hO hS=>hsp w H a ns hlen hO hS) fun H e s'=>hCX w H s₁ e s'
section
variable {P:Program}{w:World}{K:W.Frag}{mg:Str->Option Value}{base:Heap}{CX:CXT}
theorem Fun.okDC {x qual:Str}{st:Stmt}{f cc:Addr}{fd:FuncData}{N ps:List Str}{k:Nat}{sp:SpD}(F:Fun K x qual st f fd) (hcc:fd.code = .ref cc) (S:FnScope N ps (qt st)) (len:∀ es μ Q,sp es μ Q->es.length=ps.length)
  (hbody:∀ (A:Around) (outer:List Env) (s:Shared) (H:Hp) (E:XK) (es:List En) (μ:Mu) (Q:En->Mu->Prop),Room k (A.deeper (envOfC qual (qt st) s.heap.objs.size f (.ref cc)))->sp es μ Q →
   ∃ t,DSs K (qeK CX P w K mg base N qual (qt st) f (.ref cc) A outer s H E).nox (yK st) t/\t { nx:=fun _ μ'=>Q (.d .none) μ',rt:=Q } (es.map some++List.replicate (N.length - es.length) none) μ):FnOk P w K mg base CX (k+1) f fd ps (qZ K sp):=by
 obtain ⟨oc,od,kV,doc,pm,an,cdv,ct,osl,rfl,lk,hcd⟩:=F.ex
 obtain rfl:cdv = .ref cc:=hcc
 refine qh8 lk hcd S (fun vs H Q E ⟨μ,es,Q0,M,hp,h,cl⟩=>(PySem.Paired.length hp).trans (len es μ Q0 h)) fun A outer s H vs Q E hr hq9=>?_
 obtain ⟨μ,es,Q0,M,hp,h,cl⟩:=hq9
 obtain ⟨t,ht,hq⟩:=hbody A outer s H E es μ Q0 hr h
 have hl:vs.length=es.length:=PySem.Paired.length hp
 refine ⟨upS K t,PSs.nox ht,_,μ,_,Paired.mapSome hp N.length N.length (by rw [hl]),M,hq,⟨fun ρ' μ' σ' H' q S' M' s'=>cl _ μ' .non H' q M' s' .non,cl,fun _ _ _ _ q=>q.elim,fun _ _ _ _ q=>q.elim⟩⟩
end
end L2
namespace PySem
open Sem (wp)
section
variable {prog:Program}{w:World}{A:Around}{E:Value->Shared->Prop}{s:Shared}
end
structure Nx (prog:Program) (w:World) (A:Around) (fr:List Addr) (it:Addr) (st:Nat->Heap->Prop) (xs:Array Value):Prop where
 mem:it∈fr
 obj:∀ i h,st i h->∃ o,h.get? it=some o/\∀ v,o.data≠.cell v
 keep:∀ i h h',st i h->(∀ b∈fr,∀ o,h.get? b=some o->h'.get? b=some o)->st i h'
 item:∀ (i:Nat) (s:Shared) (x:Value) (Q:Value->Shared->Prop) (E:Value->Shared->Prop),st i s.heap->xs[i]?=some x →
  (∀ h',st (i+1) h'->Heap.SameBut it s.heap h'->Q x { s with heap:=h' })->wpAny (model prog w) A (Builtin.SmallTypes.nextOf (.ref it)) Q E s
 stop:∀ (i:Nat) (s:Shared) (Q:Value->Shared->Prop) (E:Value->Shared->Prop),st i s.heap->xs[i]?=none →
  (∀ h' e,Heap.ExtBut it s.heap h'->(∃ o,h'.get? e=some o/\o.cls = .type "StopIteration")->E (.ref e) { s with heap:=h' })->wpAny (model prog w) A (Builtin.SmallTypes.nextOf (.ref it)) Q E s
structure ZAp (z TI TO i1 i2:Addr) (f1 f2:List Addr):Prop where
 TIz:TI≠z
 TOz:TO≠z
 TITO:TI≠TO
 z1:z∉f1
 z2:z∉f2
 o1:TO∉f1
 o2:TO∉f2
 t1:TI≠i1
 t2:TI≠i2
 a12:i1∉f2
 a21:i2∉f1
section
variable {prog:Program}{w:World}{A:Around}{E:Value->Shared->Prop}{s:Shared}{z TI TO i1 i2:Addr}{f1 f2:List Addr}{s1 s2:Nat->Heap->Prop}{xs ys:Array Value}{k1 k2:Nat}{x y a b:Value}
end
section
variable {prog:Program}{w:World}{A:Around}{E:Value->Shared->Prop}{s:Shared}
end
end PySem
namespace L2
open PySem PySem.Spec PyProof.Rows
section
variable {X:Cx}{K:W.Frag}
def itZ (ds es:List PyData):Itd:=⟨min ds.length es.length,fun i=>.d (.tuple [ds.getD i .none,es.getD i .none]),fun _=>True⟩
def zipD (ds es:List PyData):List PyData:=List.zipWith (fun a b=>.tuple [a,b]) ds es
theorem Src.z {ds es:List PyData}{μ:Mu}:Src (itZ ds es) (zipD ds es) μ:=by
 refine ⟨by simp [zipD,itZ],fun i x q=>?_,trivial⟩
 unfold zipD at q
 rw [List.getElem?_zipWith] at q
 show En.d (.tuple [ds.getD i .none,es.getD i .none])=_
 cases e1:ds[i]? with
 | none=>rw [e1] at q;simp at q
 | some a =>
  cases e2:es[i]? with
  | none=>rw [e1,e2] at q;simp at q
  | some b =>
   rw [e1,e2] at q
   rw [jd e1,jd e2]
   exact congrArg En.d (by simpa using q)
end
theorem Y0:∀ {ns:List Int}{its:List Value},yb (ns.map V.int) its->∃ xs:List (Int×Tok),its=xs.map (fun p=>.int p.1 p.2)/\xs.map Prod.fst=ns
 | [],_,.nil=>⟨[],rfl,rfl⟩
 | n::ns,_,.cons r t=>by
  obtain ⟨u,rfl⟩:=r
  obtain ⟨xs,rfl,e⟩:=Y0 t
  exact ⟨(n,u)::xs,rfl,by simp [e]⟩
section
variable {X:Cx}{K:W.Frag}
end
abbrev kwD (d:Value):List (Str×Value):=[(Str.ofString "default",d)]
theorem qeB (a d:Value):argsOk "max" ⟨[a],kwD d⟩:=by unfold argsOk;kernel_rfl
section
variable {prog:Program}{w:World}{A:Around}{R:Result->Shared->Prop}{I S:Addr}{fp wr:List Addr}{n:Nat}{P:Nat->Value->Prop}{St:Nat->Heap->Prop}{d:Value}
theorem qbo:(toString "max" ++ toString ".loop" : String) = "max.loop" := by decide
theorem qdC (W:Walks prog w A.in1 I fp wr n P St) (bt:Nat->Nat->Bool) (hcmp:CmpOf prog w A.in1 .Gt P bt) (hSf:S∉fp) :
  ∀ (k j:Nat) (s:Shared) (old:List Value) (c:Nat),n - j=k->j<=n->St j s.heap->(old=[]/\j=0\/∃ vb,old=[vb,vb]/\0<j/\P (argBest bt (j - 1)) vb) →
  s.heap.get? S=some { cls:=.type "list",dict:=none,data:=.seq old.toArray c,slots:=#[] } →
  (∀ v h' tk,(n=0/\v=d\/0<n/\P (argBest bt (n - 1)) v)->(∀ b o,b∉wr->b≠S->s.heap.get? b=some o->h'.get? b=some o)->R (.ok (.ret v)) { s with heap:=h',toks:=tk }) →
  codeAny (model prog w) A (.builtin "max.loop" ⟨[.ref I,.none,.ref S],kwD d⟩) R s:=by
 have hSw:S∉wr:=fun h=>hSf (W.sub _ h)
 intro k
 induction k with
 | zero =>
  intro j s old c hk hj hst ho hS hR
  have hin:j=n:=by omega
  refine codeAny_builtin F.entry_max_loop ?_
  rw [Around.under_plainId F.plain_max_loop _]
  show wpAny _ A.in1 (seqItems? (.ref S) >>= _) _ _ s
  refine qa (wpAny_seqItems hS rfl ?_)
  show wpAny _ A.in1 (tryCatch (pyNext (.ref I)) _ >>= _) _ _ s
  refine qa (wpAny_tryCatch (W.done s _ _ (hin ▸ hst) fun h' tk hk'=>?_))
  have hS':=hk' S _ hSw hS
  rcases ho with ⟨rfl,rfl⟩ | ⟨vb,rfl,h0,hPb⟩
  ·show wpAny _ A.in1 (rule _ >>= _) _ _ _
   refine qa (jC (qd ?_))
   exact hR d _ tk (.inl ⟨hin.symm,rfl⟩) fun b o hbw _ e=>hk' b o hbw e
  ·show wpAny _ A.in1 (updateSeq S (fun _=>#[]) >>= _) _ _ _
   refine qa ?_
   refine wpAny_updateSeq hS' rfl (qa (wpAny_letGo (qd ?_)))
   refine hR vb _ tk (.inr ⟨by omega,by rw [<- hin];exact hPb⟩) fun b o hbw hbS e=>(qT _ _ (Ne.symm hbS)).trans (hk' b o hbw e)
 | succ k ih =>
  intro j s old c hk hj hst ho hS hR
  have hlt:j<n:=by omega
  refine codeAny_builtin F.entry_max_loop ?_
  rw [Around.under_plainId F.plain_max_loop _]
  show wpAny _ A.in1 (seqItems? (.ref S) >>= _) _ _ s
  refine qa (wpAny_seqItems hS rfl ?_)
  show wpAny _ A.in1 (tryCatch (pyNext (.ref I)) _ >>= _) _ _ s
  refine qa (wpAny_tryCatch (W.item j s _ _ hlt hst fun v h' tk hP hst' hk'=>?_))
  have hS':=hk' S _ hSw hS
  rcases ho with ⟨rfl,rfl⟩ | ⟨vb,rfl,h0,hPb⟩
  ·show wpAny _ A.in1 (updateSeq S (fun _=>#[v,v]) >>= _) _ _ _
   refine qa ?_
   refine wpAny_updateSeq hS' rfl ?_
   rw [qbo]
   refine qd ⟨plainId_quiet F.plain_max_loop _,ih 1 _ [v,v] _ (by omega) hlt (W.frame _ _ _ hst' fun b hbf o e=>?_) (.inr ⟨v,rfl,Nat.one_pos,hP⟩) (yA _ hS' rfl) fun v' h'' tk'' hP' hk''=>?_⟩
   ·exact (qT _ _ (fun h:S=b=>hSf (by rw [h];exact hbf))).trans e
   ·exact hR v' h'' tk'' hP' fun b o hbw hbS e=>hk'' b o hbw hbS ((qT _ _ (Ne.symm hbS)).trans (hk' b o hbw e))
  ·have ej:argBest bt j=if bt j (argBest bt (j - 1)) then j else argBest bt (j - 1):=by
    obtain ⟨i,rfl⟩:∃ i,j=i+1:=⟨j - 1,by omega⟩
    rfl
   show wpAny _ A.in1 (tryCatch (holding [v,v] (richCompare .Gt v vb >>= _)) _ >>= _) _ _ _
   refine qa (wpAny_tryCatch (qX (qa (hcmp j (argBest bt (j - 1)) v vb _ _ _ hP hPb ?_))))
   refine qa (qX (wpAny_truthy_bool ?_))
   refine qa (wpAny_letGo (qd ?_))
   cases hb:bt j (argBest bt (j - 1)) with
   | true =>
    simp only [if_true]
    refine qa ?_
    refine wpAny_updateSeq hS' rfl (qa (wpAny_letGo ?_))
    rw [qbo]
    refine qd ⟨plainId_quiet F.plain_max_loop _,ih (j+1) _ [v,v] _ (by omega) hlt (W.frame _ _ _ hst' fun b hbf o e=>?_) (.inr ⟨v,rfl,Nat.succ_pos _,by rw [Nat.add_sub_cancel,ej,hb];exact hP⟩) (yA _ hS' rfl)
     fun v' h'' tk'' hP' hk''=>?_⟩
    ·exact (qT _ _ (fun h:S=b=>hSf (by rw [h];exact hbf))).trans e
    ·exact hR v' h'' tk'' hP' fun b o hbw hbS e=>hk'' b o hbw hbS ((qT _ _ (Ne.symm hbS)).trans (hk' b o hbw e))
   | false =>
    simp only [Bool.false_eq_true,if_false]
    refine qa (wpAny_letGo ?_)
    rw [qbo]
    refine qd ⟨plainId_quiet F.plain_max_loop _,ih (j+1) _ [vb,vb] c (by omega) hlt hst' (.inr ⟨vb,rfl,Nat.succ_pos _,by rw [Nat.add_sub_cancel,ej,hb];exact hPb⟩) hS' fun v' h'' tk'' hP' hk''=>?_⟩
    exact hR v' h'' tk'' hP' fun b o hbw hbS e=>hk'' b o hbw hbS (hk' b o hbw e)
end
section
variable {prog:Program}{w:World}{A:Around}{E:Value->Shared->Prop}{s:Shared}
theorem qah {id:String}{b:Builtin}{args:List Value}{kw:List (Str×Value)}{Q:Value->Shared->Prop}(hk:builtinKind id=none) (hp:plainId id=true)
  (hb:entryFor table id=some b) (ha:argsOk id ⟨args,kw⟩)
  (hc:wpAny (model prog w) A.in1 (b ⟨args,kw⟩) (fun fin s'=>match fin with
   | .done f=>(match (Except.ok f:Result) with | .ok (.ret v)=>Q v s' | .ok _=>False | .error e=>E e s')
   | .again c'=>c'.quiet=true/\codeAny (model prog w) A c' (fun r s'=>match r with | .ok (.ret v)=>Q v s' | .ok _=>False | .error e=>E e s') s') E s) :
  wpAny (model prog w) A (call (.builtin id) args kw) Q E s:=by
 refine wpAny_call (codeAny_call_builtin hp hb ?_)
 simp only [checkBuiltinCall,hk]
 cases hsig:Manifest.signature? id with
 | none=>exact qd hc
 | some sig =>
  have ha':Bind.checkArgs id sig ⟨args,kw⟩=pure ():=by simpa only [argsOk,hsig] using ha
  simp only [ha']
  exact qd hc
theorem qdD {l:Addr}{xs:Array (Int×Tok)}{d:Value}{Q:Value->Shared->Prop}(hh:A.handled=none) (hl:s.heap.IsList l (intItems xs))
  (h:∀ v h' tk,(xs.size=0/\v=d\/0<xs.size/\(intItems xs)[argBest (fun i j=>decide (numAt xs i > numAt xs j)) (xs.size - 1)]?=some v)->(∀ b o,s.heap.get? b=some o->h'.get? b=some o)->Q v { s with heap:=h',toks:=tk }) :
  wpAny (model prog w) A (call (.builtin "max") [.ref l] (kwD d)) Q E s:=by
 refine qah F.kind_max F.plain_max F.entry_max (qeB _ _) ?_
 show wpAny _ A.in1 (Builtin.Builtins.bindParams "max" ["key", "default"] 0 ⟨[],kwD d⟩ >>= _) _ _ s
 refine qa (wpAny_of_eq (show Builtin.Builtins.bindParams "max" ["key", "default"] 0 ⟨[],kwD d⟩=pure [none,some d] from rfl) ?_)
 refine qa (qd ?_)
 refine qa (iter_intList hl fun s₂ e st hfp hlI=>?_)
 subst e
 refine qa (yJ ?_)
 rw [qbo]
 have W:=Walks.list (prog:=prog) (w:=w) (A:=A.in1) hh _ l hlI (intItems xs)
 refine qd ⟨plainId_quiet F.plain_max_loop _,qdC (d:=d) W _ (CmpOf.ints_gt (numAt xs) (fun _ _=>intItems_at)) (fun hm=>yc _ (hfp _ hm)) _ 0 _ [] 0 rfl (qN _) (W.frame _ _ _ st fun b _ o e=>qc _ e) (.inl ⟨rfl,rfl⟩) (qx _ rfl) fun v h' tk hP hk=>?_⟩
 have sz:(intItems xs).size=xs.size:=by simp [intItems]
 rw [sz] at hP
 refine h v h' tk hP ?_
 exact old_kept fun b o hbw e=>hk b o hbw (qk (qh e)) (qc _ e)
end
section
variable {X:Cx}{K:W.Frag}{le de:Expr}{kp p p':Pos}
theorem qex {pins:List (Addr×Obj)}{σ:St}{H:Hp}{s:Shared}{p:Addr}{ns:List Int}{dz:Int}{du:Value}{Q:VK}(hc:X.calm=true) (I:Inv X pins σ H s) (hq:SqL X.K H p (ns.map V.int)) (rd:yP (.int dz) du)
  (q:∀ m:Int,(ns=[]/\m=dz\/m∈ns/\∀ a∈ns,a<=m)->Q (.int m) H):wpAny (model X.prog X.w) X.A (call (.builtin "max") [.ref p] (kwD du)) (EP X pins σ Q) X.xe s:=by
 obtain ⟨its,rv,pl,_⟩:=I.list hq
 obtain ⟨ys,rfl,e⟩:=Y0 rv
 have hl:s.heap.IsList p (intItems ys.toArray):=by
  have:=pl.isList
  simpa [intItems] using this
 refine qdD (I.ok.hd hc) hl fun v h' tk hv hk=>?_
 rcases hv with ⟨h0,rfl⟩ | ⟨h0,hv⟩
 ·refine ⟨.int dz,H,I.kept hk,rd,q dz (.inl ⟨?_,rfl⟩)⟩
  rw [<- e]
  have:ys.length=0:=by simpa using h0
  simp [List.length_eq_zero_iff.mp this]
 ·obtain ⟨t,rfl⟩:=intItems_at hv
  obtain ⟨h1,h2⟩:=argBest_gt (numAt ys.toArray) (ys.toArray.size - 1)
  have na:∀ j,j<ys.length->∃ z,ns[j]?=some z/\numAt ys.toArray j=z:=fun j hj=>by
   refine ⟨ys[j].1,by rw [<- e];simp [hj],by simp [numAt,hj]⟩
  have hn:0<ys.length:=by simpa using h0
  refine ⟨.int _,H,I.kept hk,⟨_,rfl⟩,q _ (.inr ⟨?_,fun a ha=>?_⟩)⟩
  ·have h0:argBest (fun i j=>decide (numAt ys.toArray i > numAt ys.toArray j)) (ys.toArray.size - 1)<ys.length:=by
    simp only [List.size_toArray] at h1 ⊢;omega
   obtain ⟨z,e1,e2⟩:=na _ h0
   rw [e2]
   exact List.mem_of_getElem? e1
  ·obtain ⟨j,hj⟩:=List.mem_iff_getElem?.mp ha
   have hj2:j<ys.length:=by
    have:=(ql.mp hj).1
    rwa [<- e,List.length_map] at this
   obtain ⟨z,e1,e2⟩:=na j hj2
   rw [hj] at e1
   cases e1
   rw [<- e2]
   exact h2 j (by simp only [List.size_toArray];omega)
def tMaxD (K:W.Frag) (tl td:TE):TE:=fun σ H Q=>tl σ H fun v H1=>td σ H1 fun u H2=>∃ p ns dz,v = .ref p/\u = .int dz/\SqL K H2 p (ns.map V.int)/\∀ m:Int,(ns=[]/\m=dz\/m∈ns/\∀ a∈ns,a<=m)->Q (.int m) H2
theorem qhv {tl td:TE}(hc:X.calm=true) (hg:Gl X "max") (hm:X.mg "max" = none) (hl:PE X le tl) (hd:PE X de td) (hs1:starEach [le] X.env=(false,eval le X.env)::starEach [] X.env:=by rfl) :
  PE X (.Call (.Name "max" p) [le] [⟨some "default",de,kp⟩] p') (tMaxD X.K tl td):=by
 intro pins s σ H Q I h
 refine wpAny_Call_Name_kw (YZ I hg hm qbJ (callWith_kw ?_ (by rw [hs1];rfl) (by rw [hs1];rfl)))
 have sp:backTo p' (starEach [le] X.env)=(false,eval le X.env)::backTo p' (starEach [] X.env):=by rw [hs1];rfl
 rw [sp]
 refine Calls.spliced_cons (thn (hl pins s σ H _ I h) fun u s1 ⟨v,H1,I1,r1,q1⟩=>Calls.spliced_nil ?_)
 refine kws_cons (thn (hd pins s1 σ H1 _ I1 q1) fun u2 s2 ⟨v2,H2,I2,r2,q2⟩=>kws_nil ?_)
 obtain ⟨p,ns,dz,rfl,rfl,hq,q⟩:=q2
 cases r1
 exact qex hc I2 hq r2 q
def dMaxD (tl td:TEd):TEd:=fun ρ μ Q=>tl ρ μ fun e μ1=>td ρ μ1 fun f μ2=>∃ (ns:List Int) (dz:Int),LstOf μ2 e (ns.map PyData.int)/\f = .d (.int dz)/\∀ m:Int,(ns=[]/\m=dz\/m∈ns/\∀ a∈ns,a<=m)->Q (.d (.int m)) μ2
theorem qkj {tl td:TEd}(hc:X.calm=true) (hg:Gl X "max") (hm:X.mg "max" = none) (hl:DE K X le tl) (hd:DE K X de td) (hK:X.K=K:=by rfl) (hs1:starEach [le] X.env=(false,eval le X.env)::starEach [] X.env:=by rfl) :
  DE K X (.Call (.Name "max" p) [le] [⟨some "default",de,kp⟩] p') (dMaxD tl td):=by
 subst hK
 refine PE.mono (qhv hc hg hm hl hd hs1) fun σ H Q hq9=>?_
 obtain ⟨ρ,μ,Q0,hS,hM,h,cl⟩:=hq9
 refine up2 (R0:=fun e f μ2=>∃ (ns:List Int) (dz:Int),LstOf μ2 e (ns.map PyData.int)/\f = .d (.int dz)/\∀ m:Int,(ns=[]/\m=dz\/m∈ns/\∀ a∈ns,a<=m)->Q0 (.d (.int m)) μ2) hS hM h fun x y μ2 v u H2 q M2 s2 i1 i2=>?_
 obtain ⟨ns,dz,hL,rfl,q⟩:=q
 obtain ⟨p,ys,rfl,h2,h3⟩:=hL.get M2 i1
 rw [h3.ints_of] at h2
 have i2:Is X.K (mask μ2 H2) u (.int dz):=i2
 cases i2
 exact ⟨p,ns,dz,rfl,rfl,h2,fun m hm=>cl _ μ2 _ _ (q m hm) M2 s2 (.int m)⟩
end
end L2
namespace L2
open PySem PySem.Spec PyProof.Rows PySem.W PySem.SetTable
section
variable {prog:Program}{w:World}{A:Around}{R:Result->Shared->Prop}{E:Value->Shared->Prop}{s:Shared}
theorem qaf (elt target iter:Expr) (ifs:List Expr) (scope:Scope) (pos:Pos) (it acc:Value) (env:Env) :
  compTurn (.SetComp elt [⟨target,iter,ifs,0⟩] scope pos) 0 it acc env=(do
   standAt iter.pos
   match <- pyNext it with
   | none=>pure (.done .next)
   | some v =>
    letOwnedTupleGo target it v
    assign target env v
    let mut ok:=true
    for c in ifs do
     if ok then ok <- isTrue c env (eval c env)
    if ok then
     (do let v <- eval elt env;standAt elt.pos;let _ <- call (.builtin "set.add") [acc,v])
    again (.compLoop (.SetComp elt [⟨target,iter,ifs,0⟩] scope pos) 0 it acc env)):=by rfl
theorem j7 {elt target iter:Expr}{ifs:List Expr}{scope:Scope}{pos:Pos}{it acc:Value}{env:Env}(I:Nat->Shared->Prop)
  (turn:∀ n s,I n s->wpAny (model prog w) A (pyNext it) (fun r s₁=>match r with
   | none=>R (.ok .next) s₁
   | some v=>wpAny (model prog w) A (letOwnedTupleGo target it v) (fun _ s₁'=>wpAny (model prog w) A (assign target env v) (fun _ s₂ =>
     wpAny (model prog w) A (forIn ifs true fun c r=>if r=true then do let ok <- isTrue c env (eval c env);pure (ForInStep.yield ok) else pure (ForInStep.yield r)) (fun ok s₃ =>
      if ok=true then wpAny (model prog w) A (eval elt env) (fun x s₄ =>
       wpAny (model prog w) A (call (.builtin "set.add") [acc,x]) (fun _ s₅=>∃ m,m<n/\I m s₅) (fun _ _=>False) s₄) (fun _ _=>False) s₃
      else ∃ m,m<n/\I m s₃) (fun _ _=>False) s₂) (fun _ _=>False) s₁') (fun _ _=>False) s₁) (fun _ _=>False) s)
  (n:Nat) (h:I n s) :
  codeAny (model prog w) A (.compLoop (.SetComp elt [⟨target,iter,ifs,0⟩] scope pos) 0 it acc env) R s:=by
 refine codeAny_loop rfl I (fun n s hI=>?_) n h
 show wpAny _ A ((compTurn (.SetComp elt [⟨target,iter,ifs,0⟩] scope pos) 0 it acc env).onRaise (fun x=>do noteFrame x env;theTreesLotGoes x)) _ _ s
 refine wpAny_noted ?_
 rw [qaf]
 refine qa (yS (qa (qF (turn n s hI) (fun r s₁ h₁=>?_) fun _ _ h'=>h'.elim)))
 cases r with
 | none=>exact qd h₁
 | some v =>
  refine qa (qF h₁ (fun _ s₁' h₁'=>?_) fun _ _ h'=>h'.elim)
  refine qa (qF h₁' (fun _ s₂ h₂=>qa (qF h₂ (fun ok s₃ h₃=>?_) fun _ _ h'=>h'.elim)) fun _ _ h'=>h'.elim)
  cases ok with
  | false=>exact qd ⟨rfl,h₃⟩
  | true =>
   exact qa (qa (qF h₃ (fun x s₄ h₄=>qa (yS (qa (qF h₄ (fun _ s₅ h₅=>qd (qd ⟨rfl,h₅⟩)) fun _ _ h'=>h'.elim)))) fun _ _ h'=>h'.elim))
theorem j3 {elt target iter ifs yD scope pos it acc env}
  (h0:codeAny (model prog w) A (.compLoop (.SetComp elt (⟨target,iter,ifs,0⟩::yD) scope pos) 0 it acc env) R s)
  (h:wpAny (model prog w) A (pyIter it) (fun it' s'=>codeAny (model prog w) A (.compLoop (.SetComp elt (⟨target,iter,ifs,0⟩::yD) scope pos) 0 it' acc env) R s')
   (notedBy (model prog w) A env fun x s'=>R (.error x) s') s) :
  codeAny (model prog w) A (.compStart (.SetComp elt (⟨target,iter,ifs,0⟩::yD) scope pos) 0 it acc env) R s:=by
 refine codeAny_of_tree ?_
 show wpAny _ _ ((compStart (.SetComp elt (⟨target,iter,ifs,0⟩::yD) scope pos) 0 it acc env).onRaise (fun x=>do noteFrame x env;standAt theWindowsPlace)) _ _ s
 refine wpAny_notedAt ?_
 unfold compStart
 show wpAny _ _ (ask >>= _) _ _ s
 refine qa (jx (wpAny_ite ?_))
 split
 ·first
   | exact qa (qd (qd (And.intro rfl h0)))
   | exact qd (And.intro rfl h0)
 ·first
   | exact qa (jC (qa (yS (qa (qF h (fun it' s' h'=>qd (And.intro rfl h')) fun _ _ x=>x)))))
   | (refine qa (jC ?_);show wpAny _ _ (standAt iter.pos >>= _) _ _ s;exact qa (yS (qa (qF h (fun it' s' h'=>qd (And.intro rfl h')) fun _ _ x=>x))))
theorem qfT {Pv:Value->Prop}{a b:Addr}{kss:List (List Int)}{ks:List Int}{Q:Value->Shared->Prop}(S:YN prog w Pv s.heap a kss) (tb:yE s.heap (.ref b) ks) (pb:Pv (.ref b)) (hu:A.units+8<cLine) (hn:kss.length<4914)
  (hin:ks∈kss->∀ tk,Q .none { s with toks:=tk })
  (hout:ks∉kss->∀ h' kss' tk,Heap.SameBut a s.heap h'->YN prog w Pv h' a kss'->(∀ k,k∈kss' ↔ k=ks\/k∈kss)->Q .none { s with heap:=h',toks:=tk }) :
  wpAny (model prog w) A (call (.builtin "set.add") [.ref a,.ref b]) Q E s:=by
 have hT:s.TypeIs (.ref a) "set" := let ⟨o,_,_,_,_,D⟩:=S;⟨o,D.ho,D.ex.1⟩
 refine wpAny_call_entry F.slot_set_add hT F.entry_set_add ?_ (F.args_set_add_2 _ _)
 unfold Builtin.«set.add» Builtin.Frozenset.oneOther
 simp only [List.isEmpty_nil,bind_assoc]
 unfold Builtin.Frozenset.addrOf setAdd
 refine qa (qd ?_)
 try dsimp only
 refine qa (qd ?_)
 try dsimp only
 refine qa ?_
 refine qX ?_
 have hu1:A.in1.units<cLine:=by show A.units+_<_;omega
 refine qa (wpAny_pyHash_tuple hu1 (tb.key (prog:=prog) (w:=w)) ?_)
 refine qgL (s:={ s with toks:=s.toks+(ks.length+1) }) S tb pb hu1 hn (fun h=>?_) fun h h' kss' sb S2 mem2=>?_
 ·show wpAny _ _ (ret Value.none) _ _ _
  exact qd ⟨_,rfl,hin h _⟩
 ·show wpAny _ _ (ret Value.none) _ _ _
  exact qd ⟨_,rfl,hout h h' kss' _ sb S2 mem2⟩
theorem qdu {Q:Value->Shared->Prop}(q:Q (.ref s.heap.objs.size) { s with heap:=s.heap.push (JB w) }):wpAny (model prog w) A (newSet (.type "set")) Q E s:=by
 unfold newSet
 refine qa ?_
 unfold setsByText
 refine qa (jx (qd ?_))
 exact yJ q (by size_fits)
end
def tSCJ (P:Program) (w:World) (K:W.Frag) (k:Nat) (g:TG) (tt:TT) (te:TE) (σ:St) (Q:VK) (J:It) (H1:Hp):Prop:=∃ W:Nat->Nat->List (Addr×List Int)->St->Hp->Prop,(∃ m,W 0 m [] (σ++List.replicate k none) H1)/\∀ i m bs σ' H,W i m bs σ' H->InS K H bs ∧
 ((J.stop i H/\∀ D,H D=none->Q (.ref D) (upd H D (qa6 P w D bs))) ∨
 (J.go i H/\bs.length<4900/\∃ N:List (Addr×List Int)->St->Hp->Prop,(∀ bs' σ' H',N bs' σ' H'->∃ m',m'<m/\W (i+1) m' bs' σ' H') ∧
  ∀ x H',J.yld i H x H'->g x σ' H' fun σ2 H2=>tt σ2 H2 fun b H3=>if b=true then te σ2 H3 fun y H4=>∃ ks,JW K H4 y ks/\InS K H4 bs/\∀ bs',(∀ c∈bs',c∈bs\/(V.ref c.1=y/\c.2=ks))->(∀ q,q∈bs'.map (·.2) ↔ q=ks\/q∈bs.map (·.2))->(bs'.map (·.2)).Nodup->N bs' σ2 H4 else N bs σ2 H3))
def qiQ (P:Program) (w:World) (K:W.Frag) (k:Nat) (wi:TI) (g:TG) (tt:TT) (te:TE):TE:=fun σ H Q=>wi σ H (tSCJ P w K k g tt te σ Q)
section
variable {X:Cx}
theorem qeX {pins:List (Addr×Obj)}{σ σ':St}{H H':Hp}{s₂ s':Shared}{L:List Str}{scope:Scope}{cl:List (Str×Addr)}{fp:List Addr}{bs:List (Addr×List Int)}{D C:Addr}{pl:List (Addr×Obj)}
  (I:Inv X pins σ H s₂) (hf:∀ b∈fp,Je X pins H b) (hD:s₂.heap.objs.size=D)
  (J:Inv (qE X L scope cl C s₂ H fp) pl σ' H' s') (hpD:qaq X.prog X.w D bs s'.heap) (hHD:H' D=none) :
  Inv X pins σ (upd H' D (qa6 X.prog X.w D bs)) s':=by
 have B:Un (frs X.stack) fp H H' s₂.heap s'.heap:=J.base
 have neD:∀ b o,s₂.heap.get? b=some o->b≠D:=fun b o e=>by rw [<- hD];exact qk (qh e)
 refine I.call' (ch:=fp) J.os ⟨B.keep,B.slot,fun b o e hn hx=>?_,B.there,fun b xs e=>?_,fun b o u e=>?_,fun b ps e=>?_⟩ (fun b o e=>?_) J.bare (fun b hb=>⟨(hf b hb).2.2.2.1,(hf b hb).2.1,(hf b hb).2.2.2.2.1,(hf b hb).2.2.2.2.2⟩)
 ·rw [qI (neD b o e)];exact B.free b o e hn hx
 ·have:=B.tups b xs e
  rw [qI (qC this hHD)];exact this
 ·have:=B.frzs b o u e
  rw [qI (qC this hHD)];exact this
 ·obtain ⟨more,this⟩:=B.tbls b ps e
  exact ⟨more,by rw [qI (qC this hHD)];exact this⟩
 ·by_cases hb:b=D
  ·subst hb
   rw [qM] at e
   cases e
   exact qaq.ok hpD
  ·rw [qI hb] at e
   exact (J.hok b o e).stay (fun _ _ _ q=>q) (fun c q=>by rw [qI (qC q hHD)];exact q) fun c xs q=>by rw [qI (qC q hHD)];exact q
theorem qiV {Y:Cx}{pins:List (Addr×Obj)}{σ:St}{H:Hp}{s:Shared}(I:Inv Y pins σ H s) {D:Addr}{bs:List (Addr×List Int)}(p:qaq Y.prog Y.w D bs s.heap) (hb:InS Y.K H bs) (Pv:Value->Prop) (hp:∀ c∈bs,Pv (Value.ref c.1)):YN Y.prog Y.w Pv s.heap D (bs.map (·.2)):=by
 obtain ⟨o,es,ep,t,m,ho,ex,hd,pl,ld,mo,si,ee,nd⟩:=p
 refine ⟨o,es,ep,t,m,ho,ex,hd,pl,ld,mo,si,?_,nd,fun e he=>?_⟩
 ·rw [ee]
  exact qaY fun b hbb=>I.tupK (hb b hbb)
 ·rw [ee] at he
  obtain ⟨b,h1,rfl⟩:=qv.mp he
  exact hp b h1
theorem qcH {pins:List (Addr×Obj)}{σ:St}{H:Hp}{s₂:Shared}{L:List Str}{scope:Scope}{cl:List (Str×Addr)}{fp:List Addr}{sc:Scope}{N:List Str}{tg elt iter:Expr}{ifs:List Expr}{pos:Pos}
  {g:TG}{tt:TT}{te:TE}{Q:VK}{J:It}{it:Addr}{tn:Nat->Heap->Prop}{RR:Value->Addr->Result->Shared->Prop}{E:Value->Shared->Prop}
  (hu:X.A.units+8<cLine) (hc:X.calm=true) (hsc:X.env.scope=sc) (hN:X.N=N) (ok:jl sc N L scope=true) (hc1:∀ x c,cl.lookup x=some c->X.env.cells.lookup x=some c)
  (hc2:∀ y∈scope.names,y.2 = .free->∃ c,cl.lookup y.1=some c)
  (hg:∀ cl C s₂ H₂ fp,PG (qE X L scope cl C s₂ H₂ fp) tg g) (hi:∀ cl C s₂ H₂ fp,Ifs (qE X L scope cl C s₂ H₂ fp) ifs tt) (he:∀ cl C s₂ H₂ fp,PE (qE X L scope cl C s₂ H₂ fp) elt te)
  (I:Inv X pins σ H s₂) (T:Turn X.prog X.w X.K tg J fp it tn) (st:tn 0 s₂.heap) (hf:∀ b∈fp,Je X pins H b) (hw:tSCJ X.prog X.w X.K L.length g tt te σ Q J H)
  (hR:∀ D C m H' s' bs,s'.heap.Ns C m->s₂.heap.objs.size=D->s₂.heap.objs.size<C->H' C=none->D≠C->Inv X pins σ (upd H' D (qa6 X.prog X.w D bs)) s'->Q (.ref D) (upd H' D (qa6 X.prog X.w D bs))->RR (.ref D) C (.ok .next) s') :
  wpAny (model X.prog X.w) X.A (newSet (.type "set")) (fun acc s₃=>wpAny (model X.prog X.w) X.A (newFunctionEnv scope X.env.globals cl [] X.env.qual none .none (some X.env)) (fun cenv s₄ =>
   codeAny (model X.prog X.w) X.A (.compStart (.SetComp elt [⟨tg,iter,ifs,0⟩] scope pos) 0 (.ref it) acc { cenv with scope:=relabel scope X.env }) (RR acc cenv.locals) s₄) E s₃) E s₂:=by
 refine qdu (wpAny_newFunctionEnv (fun y hy=>(yC ok hy).1) (by intro y hy;simp at hy) (fun h₁ hns₁ hsb₁=>?_) (yL ok))
 dsimp only at hns₁ hsb₁ ⊢
 generalize hH2:s₂.heap.push (JB X.w)=H2 at hns₁ hsb₁ ⊢
 have hC:H2.objs.size=s₂.heap.objs.size+1:=by rw [<- hH2,Heap.size_push]
 have hCle:s₂.heap.objs.size<=H2.objs.size:=by rw [hC];exact Nat.le_succ _
 have hDC:s₂.heap.objs.size≠H2.objs.size:=by rw [hC];exact qk (yu _)
 have hlt:∀ b∈fp,b<s₂.heap.objs.size:=fun b hb=>by
  obtain ⟨o,e,_⟩:=T.obj 0 _ st b hb
  exact qh e
 have below:∀ b,b<s₂.heap.objs.size->b≠H2.objs.size:=fun b hb=>by rw [hC];exact qk (Nat.lt_succ_of_lt hb)
 have old:∀ b o,s₂.heap.get? b=some o->h₁.get? b=some o:=fun b o e=>hsb₁.extBut b o (below b (qh e)) (qc _ (hH2 ▸ qc _ e))
 have hacc:h₁.get? s₂.heap.objs.size=some (JB X.w):=hsb₁.extBut _ _ hDC (qc _ (hH2 ▸ qx _ rfl))
 have Yok:=qaU (L:=L) (scope:=scope) (cl:=cl) (C:=H2.objs.size) (fp:=fp) I hsc hN ok hc1 hc2 hf hlt hCle
 generalize hDn:s₂.heap.objs.size=D at *
 generalize hCn:H2.objs.size=C at *
 have st₁:tn 0 h₁:=T.keep _ _ _ st fun b _ o e=>old b o e
 have cellD:∀ x c,cl.lookup x=some c->c≠D:=fun x c e=>by
  obtain ⟨v,q⟩:=I.cell x c (hc1 x c e)
  rw [<- hDn]
  exact qk q.lt
 have fpY:∀ {H':Hp}{oD:Obj},(∀ b∈fp,H' b=none)->∀ b∈fp,Je (qE X L scope cl C s₂ H fp) [(D,oD)] H' b:=fun {H' oD} hn b hb=>by
  refine ⟨hn b hb,(Yok.exf b hb).1,Yok.exfs b hb,.inl hb,(Yok.exf b hb).2,fun p hp=>?_⟩
  have e:p=(D,oD):=by
   have:p∈[(D,oD)]:=hp
   simpa using this
  subst e
  exact Ne.symm (qk (hlt b hb))
 have nfsD:D∉(qE X L scope cl C s₂ H fp).fs:=fun z=>by
  obtain ⟨_,o,ho,_⟩:=Yok.funs.mem z
  exact absurd (show D<s₂.heap.objs.size from qh ho) (by rw [hDn];exact yc _)
 have pinD:∀ {σ':St}{H':Hp}{s':Shared}{pl:List (Addr×Obj)}{bs:List (Addr×List Int)},Inv (qE X L scope cl C s₂ H fp) pl σ' H' s'->qaq X.prog X.w D bs s'.heap->H' D=none →
   ∃ oD,s'.heap.get? D=some oD/\Inv (qE X L scope cl C s₂ H fp) [(D,oD)] σ' H' s':=fun {σ' H' s' pl bs} J e hn=>by
  obtain ⟨o,es,ep,t,m,ho,ex,hd,r⟩:=e
  refine ⟨o,ho,J.pins_of fun p hp=>?_⟩
  have e':p=(D,o):=by simpa using hp
  subst e'
  exact ⟨ho,hn,hDC,nfsD,fun v z=>by rw [hd] at z;cases z⟩
 have I₁:Inv (qE X L scope cl C s₂ H fp) [] (σ++List.replicate L.length none) H { s₂ with heap:=h₁,toks:=s₂.toks+([]:List (Str×Value)).length } :=
  JG I hsc hN ok hc1 Yok (by rw [hDn];exact hCle) rfl I.bare old hns₁
 have HD:H D=none:=I.hok.fresh (by rw [hDn];exact qj _)
 have toP:∀ {Pv:Value->Prop}{h:Heap}{kss:List (List Int)},YN X.prog X.w Pv h D kss->∃ bs:List (Addr×List Int),qaq X.prog X.w D bs h/\bs.map (·.2)=kss/\(∀ b∈bs,yE h (.ref b.1) b.2/\Pv (.ref b.1)):=fun {Pv h kss} S=>by
  obtain ⟨o,es,ep,t,m,D0⟩:=S
  obtain ⟨bs,e1,e2,e3⟩:=qaN D0.en
  subst e2
  refine ⟨bs,⟨o,es,ep,t,m,D0.ho,D0.ex,D0.hd,D0.pl,D0.ld,D0.mok,D0.si,e1,D0.nd⟩,rfl,fun b hb=>⟨e3 b hb,?_⟩⟩
  exact D0.own (yh X.prog X.w b.2,Value.ref b.1) (by rw [e1];exact qv.mpr ⟨b,hb,rfl⟩)
 have P₁:qaq X.prog X.w D [] h₁:=by
  obtain ⟨bs,p1,p2,_⟩:=toP (qbm (prog:=X.prog) (Pv:=fun _=>True) hacc)
  have:bs=[]:=List.map_eq_nil_iff.mp p2
  rw [this] at p1
  exact p1
 obtain ⟨W,⟨m0,w0⟩,turn⟩:=hw
 have loop:codeAny (model X.prog X.w) X.A (.compLoop (.SetComp elt [⟨tg,iter,ifs,0⟩] scope pos) 0 (.ref it) (.ref D) (compEnvC scope cl C X.env)) (RR (.ref D) C)
   { s₂ with heap:=h₁,toks:=s₂.toks+([]:List (Str×Value)).length }:=by
  obtain ⟨oD1,_,J1⟩:=pinD I₁ P₁ HD
  refine j7 (fun n s'=>∃ i bs oD σ' H',Inv (qE X L scope cl C s₂ H fp) [(D,oD)] σ' H' s'/\qaq X.prog X.w D bs s'.heap/\tn i s'.heap/\(∀ b∈fp,H' b=none)/\W i n bs σ' H')
   ?_ m0 ⟨0,[],oD1,_,H,J1,P₁,st₁,fun b hb=>(hf b hb).1,w0⟩
  rintro n s3 ⟨i,bs,oD,σ3,H3,I3,p3,st3,fr3,w3⟩
  have hp3:=I3.pin (D,oD) (by simp)
  obtain ⟨in3,tu⟩:=turn i n bs σ3 H3 w3
  rcases tu with ⟨stop,q⟩ | ⟨go,hlen,Nx,hNx,step⟩
  ·refine thn (T.done (qE X L scope cl C s₂ H fp) rfl rfl rfl hc i _ s3 σ3 H3 _ I3 (fpY fr3) st3 stop) fun r s4 ⟨hr,I4⟩=>?_
   subst hr
   have hp4:=I4.pin (D,oD) (by simp)
   obtain ⟨m4,hn4,_⟩:=I4.loc
   have p4:qaq X.prog X.w D bs s4.heap:=p3.stay fun o e=>by
    rw [hp3.1] at e
    cases e
    exact hp4.1
   exact hR D C m4 H3 s4 bs hn4 rfl (by rw [hC];exact yu _) I4.free hDC (qeX I hf hDn I4 p4 hp4.2.1) (q D hp4.2.1)
  ·refine thn (T.item (qE X L scope cl C s₂ H fp) rfl rfl rfl hc i _ s3 σ3 H3 _ I3 (fpY fr3) st3 go) fun r s4 ⟨u,hr,h4⟩=>?_
   subst hr
   refine thn h4 fun _ s5 hq9=>?_
   obtain ⟨x,H5,I5,r5,y5,st5,fr5⟩:=hq9
   have I5':=I5.pinned (fpY fr5) (T.obj _ _ st5)
   refine thn (hg cl C s₂ H fp _ s5 σ3 H5 x u _ I5' r5 (step x H5 y5)) fun _ s6 hq9=>?_
   obtain ⟨σ6,H6,I6,q6⟩:=hq9
   refine thn (hi cl C s₂ H fp _ s6 σ6 H6 _ I6 q6) fun ok s7 hq9=>?_
   obtain ⟨H7,I7,q7⟩:=hq9
   have later:∀ {σ':St}{H':Hp}{s':Shared},Inv (qE X L scope cl C s₂ H fp) ([(D,oD)]++jD fp s5.heap) σ' H' s' →
     tn (i+1) s'.heap/\(∀ b∈fp,H' b=none)/\qaq X.prog X.w D bs s'.heap/\H' D=none:=fun {σ' H' s'} J=>by
    refine ⟨T.keep _ _ _ st5 fun b hb o e=>(J.pin (b,o) (qb _ (qb _ (yn hb e)))).1,fun b hb=>?_,?_⟩
    ·obtain ⟨o,e,d⟩:=T.obj _ _ st5 b hb
     exact (J.pin (b,o) (qb _ (qb _ (yn hb e)))).2.1
    ·have z:=J.pin (D,oD) (qb _ (qp _ (by simp)))
     exact ⟨p3.stay fun o e=>by rw [hp3.1] at e;cases e;exact z.1,z.2.1⟩
   cases ok with
   | false =>
    rw [if_neg (by simp)] at q7 ⊢
    obtain ⟨m',hm',w'⟩:=hNx _ _ _ q7
    obtain ⟨t1,t2,t3,t4⟩:=later I7
    obtain ⟨oD7,_,J7⟩:=pinD I7 t3 t4
    exact ⟨m',hm',i+1,bs,oD7,σ6,H7,J7,t3,t1,t2,w'⟩
   | true =>
    rw [if_pos rfl] at q7 ⊢
    refine thn (he cl C s₂ H fp _ s7 σ6 H7 _ I7 q7) fun y s8 hq9=>?_
    obtain ⟨v,H8,I8,r8,q8⟩:=hq9
    obtain ⟨ks,tk8,in8,nx8⟩:=q8
    obtain ⟨t1,t2,t3,t4⟩:=later I8
    obtain ⟨⟨b,rfl,_⟩,_⟩:=id tk8
    have r8:y=Value.ref b:=r8
    subst r8
    have kb:yE s8.heap (.ref b) ks:=I8.tupK tk8
    have S8:=qiV I8 t3 in8 (fun v=>(∃ c∈bs,v=Value.ref c.1)\/v=Value.ref b) (fun c hc=>.inl ⟨c,hc,rfl⟩)
    have nbD:∀ b∈fp,b≠D:=fun b hb=>qk (hlt b hb)
    refine qfT (A:=(qE X L scope cl C s₂ H fp).A) S8 kb (.inr rfl) hu (by rw [List.length_map];exact yI hlen (by decide)) (fun hin tk=>?_) fun hout h9 kss' tk sb S9 mem9=>?_
    ·-- it was there
     obtain ⟨m',hm',w'⟩:=hNx _ _ _ (nx8 bs (fun c hc=>.inl hc) (fun q=>⟨.inr,fun h=>h.elim (fun e=>by rw [e];exact hin) id⟩) (by obtain ⟨_,_,_,_,_,_,_,_,_,_,_,_,_,nd⟩:=t3;exact nd))
     have I9:Inv (qE X L scope cl C s₂ H fp) [] σ6 H8 { s8 with toks:=tk }:=(I8.pins_of (pins':=[]) (fun p hp=>by simp at hp)).turned (it:=D) (h':=s8.heap) (t':=tk) (fun b o hb e=>e) t4 hDC
      (.inr (by show s₂.heap.objs.size<=D;rw [hDn];exact qj _)) cellD (fun p hp=>by
       have:p∈([]:List (Addr×Obj)):=hp
       simp at this)
     obtain ⟨oD9,_,J9⟩:=pinD I9 t3 t4
     exact ⟨m',hm',i+1,bs,oD9,σ6,H8,J9,t3,t1,t2,w'⟩
    ·obtain ⟨bs',p9,e9,o9⟩:=toP S9
     have hbs:∀ c∈bs',c∈bs\/(V.ref c.1=V.ref b/\c.2=ks):=fun c hc=>by
      obtain ⟨k1,k2⟩:=o9 c hc
      have kept:∀ {v:Value}{k:List Int},yE s8.heap v k->yE h9 v k:=fun t=>t.kept fun b o e hcl=>by
       refine sb.extBut b o (fun z=>?_) e
       obtain ⟨o',_,_,_,_,ho',ex',_⟩:=t3
       rw [z,ho'] at e
       cases e
       rw [ex'.1] at hcl
       exact absurd hcl (by decide)
      rcases k2 with ⟨c0,hc0,e⟩ | e
      ·have e:c.1=c0.1:=by injection e
       have k0:yE h9 (.ref c.1) c0.2:=by rw [e];exact kept (I8.tupK (in8 c0 hc0))
       have:=(k1.key (prog:=X.prog) (w:=X.w)).inj (k0.key (prog:=X.prog) (w:=X.w))
       exact .inl (by rw [show c=c0 from Prod.ext e this];exact hc0)
      ·have e:c.1=b:=by injection e
       have k0:yE h9 (.ref c.1) ks:=by rw [e];exact kept kb
       have:=(k1.key (prog:=X.prog) (w:=X.w)).inj (k0.key (prog:=X.prog) (w:=X.w))
       exact .inr ⟨by rw [e],this⟩
     obtain ⟨m',hm',w'⟩:=hNx _ _ _ (nx8 bs' hbs (fun q=>by rw [e9];exact mem9 q) (by obtain ⟨_,_,_,_,_,_,_,_,_,_,_,_,_,nd⟩:=p9;exact nd))
     have I9:Inv (qE X L scope cl C s₂ H fp) [] σ6 H8 { s8 with heap:=h9,toks:=tk }:=(I8.pins_of (pins':=[]) (fun p hp=>by simp at hp)).turned (it:=D) (t':=tk) (fun b o hb e=>sb.extBut b o hb e) t4 hDC
      (.inr (by show s₂.heap.objs.size<=D;rw [hDn];exact qj _)) cellD (fun p hp=>by
       have:p∈([]:List (Addr×Obj)):=hp
       simp at this)
     obtain ⟨oD9,_,J9⟩:=pinD I9 p9 t4
     exact ⟨m',hm',i+1,bs',oD9,σ6,H8,J9,p9,T.keep _ _ _ t1 fun b hb o e=>sb.extBut b o (nbD b hb) e,t2,w'⟩
 exact j3 loop (T.self _ 0 _ _ _ st₁ loop)
end
end L2
namespace L2
open PySem PySem.Spec PyProof.Rows PySem.W PySem.SetTable
section
variable {X:Cx}
theorem qht {L:List Str}{scope sc:Scope}{N:List Str}{tg elt iter:Expr}{ifs:List Expr}{pos:Pos}{wi:TI}{g:TG}{tt:TT}{te:TE}
  (hu:X.A.units+8<cLine) (hc:X.calm=true) (hsc:X.env.scope=sc) (hN:X.N=N) (ok:jl sc N L scope=true)
  (hi:PI X tg iter wi) (hg:∀ cl C s₂ H₂ fp,PG (qE X L scope cl C s₂ H₂ fp) tg g) (hf:∀ cl C s₂ H₂ fp,Ifs (qE X L scope cl C s₂ H₂ fp) ifs tt) (he:∀ cl C s₂ H₂ fp,PE (qE X L scope cl C s₂ H₂ fp) elt te)
  (hs:∀ x,foldedSetIterable iter X.env x=pure x:=by intro _;rfl) :
  PE X (.SetComp elt [⟨tg,iter,ifs,0⟩] scope pos) (qiQ X.prog X.w X.K L.length wi g tt te):=by
 intro pins s σ H Q I h
 obtain ⟨cl,hcl,hc1,hc2⟩:=j6 (env:=X.env) (scope:=scope) fun y hy hfr=>by
  refine I.ok.has y.1 ?_
  have z:=(yC ok hy).2.2 hfr
  rw [<- hsc] at z
  exact z
 rw [arm_eval_SetComp]
 refine wpAny_comprehension_free (use:=none) rfl hs hcl (yL ok) (fun y hy hl=>((yC ok hy).2.1 hl).1) (thn (hi pins s σ H _ I h) fun v s1 h1=>thn h1 fun itv s2 h2=>?_)
 obtain ⟨it,fp,tn,J,H2,e,I2,T,st2,f2,hw⟩:=h2
 subst e
 refine qcH (RR:=fun acc C=>compPost (model X.prog X.w) X.A X.xe none (EP X pins σ Q) acc C) hu hc hsc hN ok hc1 hc2 hg hf he I2 T st2 f2 hw ?_
 intro D C m H' s' bs hns hD hC hHC hDC J' q
 refine ⟨m,hns,fun h'' hs''=>⟨.ref D,upd H' D (qa6 X.prog X.w D bs),?_,rfl,q⟩⟩
 have hsz:=I2.sz
 refine J'.turned (it:=C) (t':=s'.toks) (fun b o hb e=>hs''.extBut b o hb e) (by rw [qI (Ne.symm hDC)];exact hHC) (Ne.symm (qk (yI I2.lt hC))) (.inr (qu hsz (yf hC))) (fun x c e=>?_) (fun p hp=>?_)
 ·obtain ⟨v,z⟩:=I2.cell x c e
  exact qk (yI z.lt hC)
 ·exact qk (yI (qh (I2.pin p hp).1) hC)
end
section
variable {X:Cx}{K:W.Frag}{tg iter:Expr}{pos:Pos}{P:Program}{w:World}
def qko (P:Program) (w:World) (K:W.Frag) (k:Nat) (ti:TId) (g:TGd) (tt:TTd) (te:TEd):TEd:=fun ρ μ Q=>ti ρ μ fun J μ1=>J.n<4900/\∃ Pv:Nat->List (List Int)->Rho->Mu->Prop,Pv 0 [] (ρ++List.replicate k none) μ1/\(∀ i ys ρ' μ',i<=J.n->Pv i ys ρ' μ'->J.ok μ') ∧
 (∀ i ys ρ' μ',i<J.n->Pv i ys ρ' μ'->g (J.item i) ρ' μ' fun ρ2 μ2=>tt ρ2 μ2 fun b μ3=>if b=true then te ρ2 μ3 fun y μ4=>∃ z,z≠[]/\y = .d (jO z)/\Pv (i+1) (ys++[z]) ρ2 μ4 else Pv (i+1) ys ρ2 μ3) ∧
 ∀ ys ρ' μ',Pv J.n ys ρ' μ'->∀ ms,(∀ q,q∈ms ↔ q∈ys)->ms.Nodup->ms.length<4915->Q (.x (qcB P w K ms)) μ'
theorem qfp {α:Type} [DecidableEq α]:∀ {ms kss:List α},ms.Nodup->(∀ q∈ms,q∈kss)->ms.length<=kss.length:=fun h1 h2=>List.Nodup.length_le_of_subset h1 h2
theorem qgZ {k:Nat}{ti:TId}{g:TGd}{tt:TTd}{te:TEd}{σ:St}{H:Hp}{Q:VK}(h:up K (qko P w K k ti g tt te) σ H Q):qiQ P w K k (upI K ti) (upG K g) (upT K tt) (up K te) σ H Q:=by
 obtain ⟨ρ,μ,Q0,hS,hM,h,cl⟩:=h
 refine ⟨ρ,μ,_,hS,hM,h,fun J0 μ1 J H1 q M1 s1 sim=>?_⟩
 obtain ⟨hn,Pv,h0,hok,hstep,hend⟩:=q
 have S0:RelS K (ρ++List.replicate k none) μ1 (σ++List.replicate k none) H1:=by
  have S1:=hS.same s1
  refine ⟨by simp [S1.len],fun i e he=>?_⟩
  by_cases hi:i<ρ.length
  ·rw [qJ hi] at he
   rw [qJ (by rw [<- S1.len];exact hi)]
   exact S1.get i e he
  ·rw [qP (by omega),jp] at he
   split at he <;> cases he
 refine ⟨fun i m bs σ' H'=>m=J0.n - i/\i<=J0.n/\∃ ys ρ' μ',ys.length<=i/\RelS K ρ' μ' σ' H'/\RelM K μ' H'/\qY (mask μ1 H1) (mask μ' H')/\InS K (mask μ' H') bs/\(∀ q,q∈bs.map (·.2) ↔ q∈ys)/\(bs.map (·.2)).Nodup/\Pv i ys ρ' μ',⟨_,rfl,qN _,[],_,μ1,qj _,S0,M1,qY.refl _,(fun _ z=>nomatch z),(fun q=>by simp),.nil,h0⟩,?_⟩
 rintro i m bs σ' H' ⟨rfl,hi,ys,ρ',μ',hy,S',M',s',hA,hm,nd,p⟩
 refine ⟨fun b hb=>(hA b hb).up,?_⟩
 have sm:=sim μ' H' M' s' (hok i ys ρ' μ' hi p) i
 have hbl:bs.length<=i:=by
  have:=qfp nd fun q hq=>(hm q).mp hq
  rw [List.length_map] at this
  omega
 by_cases hlt:i<J0.n
 ·obtain ⟨hgo,hyl⟩:=sm.1 hlt
  refine .inr ⟨hgo,by omega,fun bs2 σ2 H2=>∃ ys ρ' μ',ys.length<=i+1/\RelS K ρ' μ' σ2 H2/\RelM K μ' H2/\qY (mask μ1 H1) (mask μ' H2)/\InS K (mask μ' H2) bs2/\(∀ q,q∈bs2.map (·.2) ↔ q∈ys)/\(bs2.map (·.2)).Nodup/\Pv (i+1) ys ρ' μ',fun ys2 σ2 H2 z=>⟨J0.n - (i+1),by omega,rfl,hlt,z⟩,fun x H2 y=>?_⟩
  obtain ⟨M2,s2,i2⟩:=hyl x H2 y
  refine ⟨_,ρ',μ',_,i2,S'.same s2,M2,hstep i ys ρ' μ' hlt p,fun ρ3 μ3 σ3 H3 q3 S3 M3 s3=>⟨ρ3,μ3,_,S3,M3,q3,fun b μ4 H4 q4 M4 s4=>?_⟩⟩
  have st:=((s'.trans s2).trans s3).trans s4
  cases b with
  | true =>
   refine qbs ⟨ρ3,μ4,_,S3.same s4,M4,(by simpa using q4),fun e μ5 v H5 q5 M5 s5 i5=>?_⟩
   obtain ⟨z,zn,rfl,q5⟩:=q5
   have i5:Is K (mask μ5 H5) v (jO z):=i5
   have tz:JW K (mask μ5 H5) v z:=by
    have:=IsAll.tups (K:=K) (us:=[v]) (kss:=[z]) (.cons i5 .nil) (fun k hk=>by rw [qA.mp hk];exact zn)
    cases this with
    | cons a b=>exact a
   have hA5:=hA.same (((s2.trans s3).trans s4).trans s5)
   refine ⟨z,tz.up,fun b hb=>(hA5 b hb).up,fun bs' c1 c2 c3=>⟨ys++[z],ρ3,μ5,by simp;omega,(S3.same s4).same s5,M5,st.trans s5,fun c hc=>?_,fun q=>?_,c3,q5⟩⟩
   ·rcases c1 c hc with h | ⟨h1,h2⟩
    ·exact hA5 c h
    ·rw [h1,h2];exact tz
   ·rw [c2 q,hm q,List.mem_append,qA]
    exact Or.comm
  | false=>exact qaI ⟨ys,ρ3,μ4,by omega,S3.same s4,M4,st,hA.same ((s2.trans s3).trans s4),hm,nd,by simpa using q4⟩
 ·have e:i=J0.n:=by omega
  subst e
  refine .inl ⟨sm.2 (qj _),fun D hD=>?_⟩
  obtain ⟨M4,s4,hn'⟩:=M'.laid (o:=qa6 P w D bs) hD
  refine cl _ μ' _ _ (hend ys ρ' μ' p (bs.map (·.2)) hm nd (by rw [List.length_map];omega)) M4 ((s1.trans s').trans s4) ⟨D,bs,rfl,?_,hA.same s4,rfl,nd,by rw [List.length_map];omega⟩
  rw [q9 hn'];exact qM
theorem qkh {L:List Str}{scope sc:Scope}{N:List Str}{elt:Expr}{ifs:List Expr}{ti:TId}{g:TGd}{tt:TTd}{te:TEd}
  (hu:X.A.units+64<cLine) (hc:X.calm=true) (hsc:X.env.scope=sc) (hN:X.N=N) (ok:jl sc N L scope=true)
  (hi:DI K X tg iter ti) (hg:∀ cl C s₂ H₂ fp,DG K (qE X L scope cl C s₂ H₂ fp) tg g) (hf:∀ cl C s₂ H₂ fp,qiF K (qE X L scope cl C s₂ H₂ fp) ifs tt) (he:∀ cl C s₂ H₂ fp,DE K (qE X L scope cl C s₂ H₂ fp) elt te)
  (hK:X.K=K:=by rfl) (hP:X.prog=P:=by rfl) (hw:X.w=w:=by rfl) (hs:∀ x,foldedSetIterable iter X.env x=pure x:=by intro _;rfl) :
  DE K X (.SetComp elt [⟨tg,iter,ifs,0⟩] scope pos) (qko P w K L.length ti g tt te):=by
 subst hK hP hw
 exact PE.mono (qht (by omega) hc hsc hN ok hi hg hf he hs) fun _ _ _=>qgZ
end
open PySem PySem.Spec PyProof.Rows
section
variable {X:Cx}{K:W.Frag}{pos:Pos}
end
section
variable {X:Cx}{K:W.Frag}{pins:List (Addr×Obj)}{σ:List (Option V)}{H:Hp}{s:Shared}
end
section
variable {X:Cx}{K:W.Frag}{pos:Pos}
theorem IsAll.set {H:Hp}{v:V}{d:PyData}(h:Is K H v d):∀ {vs:List V}{ds:List PyData}(j:Nat),IsAll K H vs ds->IsAll K H (vs.set j v) (ds.set j d)
 | _,_,_,.nil=>.nil
 | _,_,0,.cons _ r=>.cons h r
 | _,_,j+1,.cons i r=>.cons i (IsAll.set h j r)
end
section
variable {X:Cx}{K:W.Frag}{pos:Pos}
def dgPut (to ti:TEd):TGd:=fun e ρ μ R=>to ρ μ fun o μ1=>ti ρ μ1 fun i μ2=>match e,o,i with
 | .d d,.m p,.d (.int k)=>∃ μ3 μ4 ds,μ2=μ3++(p,.lst ds)::μ4/\0<=k/\k.toNat<ds.length/\R ρ (μ3++(p,.lst (ds.set k.toNat d))::μ4)
 | _,_,_=>False
theorem qgz {o i:Expr}{to ti:TEd}(ho:DE K X o to) (hi:DE K X i ti)
  (ha:∀ v,assign (.Subscript o i pos) X.env v=(do
   let ov <- holding [v] (eval o X.env)
   let iv <- holding [v,ov] (eval i X.env)
   standAt pos
   holding [v,ov,iv] (setItem ov iv v)
   release [v,ov,iv] []):=by intro _;rfl):DG K X (.Subscript o i pos) (dgPut to ti):=by
 refine PG.mono (qdb ho hi Zd ha) fun v σ H Q hq9=>?_
 obtain ⟨e,ρ,μ,Q0,i0,hS,hM,h,cl⟩:=hq9
 refine ⟨ρ,μ,_,hS,hM,h,fun o μ1 v1 H1 q M1 s1 i1=>⟨ρ,μ1,_,hS.same s1,M1,q,fun i μ2 v2 H2 q2 M2 s2 i2=>?_⟩⟩
 split at q2
 ·rename_i d p k
  have i1:v1 = .ref p:=i1
  subst i1
  cases i2
  obtain ⟨μ3,μ4,ds,rfl,hk,hlt,q2⟩:=q2
  obtain ⟨xs,ex,hA⟩:=M2.ob p (.lst ds) (by simp)
  have i0':=i0.same (s1.trans s2)
  have hx:ixN xs.length k=some k.toNat:=by
   unfold ixN
   rw [if_pos hk,if_pos (by rw [hA.len];omega)]
  refine ⟨p,xs,k,k.toNat,rfl,rfl,ex,hx,?_⟩
  obtain ⟨M4,s4⟩:=M2.write (H':=upd H2 p (.lst (xs.set k.toNat v))) (o':=.lst (ds.set k.toNat d)) (fun b u e n=>by rw [qI n];exact e) fun ss=>⟨_,qM,IsAll.set (Is.same ss i0') _ (IsAll.same ss hA)⟩
  exact cl _ _ _ _ q2 (hS.same ((s1.trans s2).trans s4)) M4 ((s1.trans s2).trans s4)
 ·exact q2.elim
end
theorem Room.u70 {k:Nat}{A:Around}(r:Room k A):A.units+70<cLine:=by have:=r.un;omega
section
variable {X:Cx}{K:W.Frag}
theorem qhV {ds:List PyData}(h:PyData.canLayAll0 ds=true) {d:PyData}(hd:d∈ds):d.canLay0=true:=by
 induction ds with
 | nil=>exact (nomatch hd)
 | cons a t ih =>
  simp only [PyData.canLayAll0,Bool.and_eq_true] at h
  rcases List.mem_cons.mp hd with rfl | hd
  ·exact h.1
  ·exact ih h.2 hd
end
section
variable {X:Cx}{K:W.Frag}
end
section
variable {X:Cx}{K:W.Frag}{tg:Expr}{pos:Pos}{es:List Expr}{tr:TAd}{te:TEd}
theorem qcX {μ:Mu}{H:Hp}:∀ {vs:List V}{as:List Addr},Paired (IsE K μ H) vs (as.map En.m)->vs=as.map V.ref
 | _,[],.nil=>rfl
 | _,a::as,.cons h t=>by
  have h:_=V.ref a:=h
  rw [h,qcX t]
  rfl
def dLstR (tr:TAd):TEd:=fun ρ μ Q=>tr ρ μ fun es μ1=>∃ as:List Addr,es=as.map En.m/\as.length<=4000/\∀ p,p∉μ1.map Prod.fst->Q (.m p) ((p,.refs as)::μ1)
theorem qkl (h:DA K X es tr):DE K X (.List es pos) (dLstR tr):=by
 refine PE.mono (qdd h) fun σ H Q hq9=>?_
 obtain ⟨ρ,μ,Q0,hS,hM,h,cl⟩:=hq9
 refine ⟨ρ,μ,_,hS,hM,h,fun es' μ1 vs H1 q M1 s1 i1=>?_⟩
 obtain ⟨as,rfl,hl,q⟩:=q
 have e:=qcX i1
 subst e
 refine ⟨yf (yZ (by rw [List.length_map];exact hl)),fun p hp=>?_⟩
 obtain ⟨_,_,hn⟩:=M1.laid (o:=.lst (as.map V.ref)) hp
 obtain ⟨M2,s2⟩:=M1.new (u:=.lst (as.map V.ref)) (o:=.refs as) hp fun ss=>qM
 exact cl _ _ _ _ (q p hn) M2 (s1.trans s2) rfl
end
end L2
namespace L2
open PySem PySem.Spec PyProof.Rows PySem.W
section
variable {K:W.Frag}
def thawM (s:SpD):SpD:=fun es μ Q=>∃ (a:Addr) (ds:List PyData) (μ1 μ2:Mu) (es':List En),μ=μ1++(a,.lst ds)::μ2/\(μ1++μ2).all (fun p=>okT p.2)=true/\Thaw a ds es es' ∧
 s es' (μ1++μ2) fun e μ'=>∃ p out,e = .m p/\μ'=(p,.lst out)::(μ1++μ2)/\out.all noL=true/\Q (.m p) ((p,.lst out)::μ)
theorem qbS {s:SpD}{vs:List V}{H:Hp}{Q:VK}{E:XK}(h:qZ K (thawM s) vs H Q E):qZ K s vs H Q E:=by
 obtain ⟨μ,es,Q0,M,hp,⟨a,ds,μ1,μ2,es',rfl,hok,ht,hs⟩,cl⟩:=h
 obtain ⟨M',s',hn⟩:=M.drop
 refine ⟨μ1++μ2,es',_,M',ht.is M hp,hs,?_⟩
 rintro e μ' v H' ⟨p,out,rfl,rfl,hx,qq⟩ M2 s2 i2
 obtain ⟨xs,ea,hxs⟩:=M.ob a (.lst ds) (by simp)
 have ea0:mask ((p,.lst out)::(μ1++μ2)) H' a=some (.lst xs):=s2 a (.lst xs) (by rw [q9 hn];exact ea)
 have ea':H' a=some (.lst xs):=(yt ea0).2
 have npa:p≠a:=fun z=>by
  have:=(yt ea0).1
  rw [z] at this
  exact this (by simp)
 have hpn:p∉(μ1++μ2).map Prod.fst:=(List.nodup_cons.mp M2.nd).1
 have hpm:p∉(μ1++(a,MO.lst ds)::μ2).map Prod.fst:=fun z=>by
  simp only [List.map_append,List.map_cons,List.mem_append,List.mem_cons] at z hpn
  rcases z with z | z | z
  ·exact hpn (.inl z)
  ·exact npa z
  ·exact hpn (.inr z)
 have ss:qY (mask (μ1++(a,.lst ds)::μ2) H) (mask ((p,.lst out)::(μ1++(a,.lst ds)::μ2)) H'):=fun b u e=>by
  obtain ⟨h1,h2⟩:=yt e
  have hb:mask (μ1++μ2) H b=some u:=by
   rw [q9];exact h2
   simp only [List.map_append,List.map_cons,List.mem_append,List.mem_cons,not_or] at *
   exact ⟨h1.1,h1.2.2⟩
  obtain ⟨k1,k2⟩:=yt (s2 b u hb)
  rw [q9];exact k2
  simp only [List.map_cons,List.mem_cons,not_or] at k1 ⊢
  exact ⟨k1.1,h1⟩
 have sw:mask ((p,MO.lst out)::(μ1++(a,.lst ds)::μ2)) H'=mask (((p,MO.lst out)::μ1)++(a,.lst ds)::μ2) H':=rfl
 have M3:RelM K ((p,.lst out)::(μ1++(a,.lst ds)::μ2)) H':=by
  refine ⟨List.nodup_cons.mpr ⟨hpm,M.nd⟩,fun b q hq=>?_⟩
  by_cases hba:b=a
  ·subst hba
   have hb:(b,q)∈μ1++(b,.lst ds)::μ2:=by
    rcases List.mem_cons.mp hq with z | z
    ·cases z;exact absurd rfl npa
    ·exact z
   exact (M.ob b q hb).same ss (ea'.trans ea.symm)
  ·have hq':(b,q)∈(p,MO.lst out)::(μ1++μ2):=by
    rcases List.mem_cons.mp hq with z | z
    ·rw [z];exact qg
    ·rcases List.mem_append.mp z with z | z
     ·exact qe _ (qp _ z)
     ·rcases List.mem_cons.mp z with z | z
      ·cases z;exact absurd rfl hba
      ·exact qe _ (qb _ z)
   have h2:=M2.ob b q hq'
   have flat:∀ {vs:List V}{xs:List PyData},xs.all noL=true->IsAll K (mask ((p,.lst out)::(μ1++μ2)) H') vs xs->IsAll K (mask ((p,.lst out)::(μ1++(a,.lst ds)::μ2)) H') vs xs:=fun hx hi=>qdt (μ1:=(p,.lst out)::μ1) ea' hx hi
   cases q with
   | any r =>
    obtain ⟨u,e2,z⟩:=h2
    refine ⟨u,e2,r.ml _ _ a xs u ea0 (fun c o ec hc=>?_) z⟩
    obtain ⟨c1,c2⟩:=yt ec
    rw [q9]
    ·exact c2
    ·simp only [List.map_append,List.map_cons,List.mem_append,List.mem_cons,not_or] at c1 ⊢
     exact ⟨c1.1,c1.2.1,hc,c1.2.2⟩
   | pot M0=>exact h2
   | refs as=>exact h2
   | dct kvs=>exact h2
   | ins C dx fs =>
    rcases List.mem_cons.mp hq' with z | z
    ·cases z
    ·exact absurd (List.all_eq_true.mp hok _ z) (by simp [okT])
   | lst ds' =>
    obtain ⟨xs2,e2,hs2⟩:=h2
    refine ⟨xs2,e2,flat ?_ hs2⟩
    rcases List.mem_cons.mp hq' with z | z
    ·cases z;exact hx
    ·exact List.all_eq_true.mp hok _ z
 exact cl _ _ v H' qq M3 ss i2
theorem Own.thawM {P:Program}{w:World}{mg:Str->Option Value}{base:Heap}{CX:CXT}{k:Nat}{x:Str}{ps:List Str}{s:SpD}(O:Own P w K mg base CX k x ps (qZ K s)):Own P w K mg base CX k x ps (qZ K (L2.thawM s)):=O.imp fun _ _ _ _ h=>qbS h
end
end L2
namespace L2
open PySem PySem.Spec PyProof.Rows PySem.W PySem.SetTable
section
variable {prog:Program}{w:World}{Pv:Value->Prop}{A:Around}{E:Value->Shared->Prop}{s:Shared}{S1:Addr}{k1:List (List Int)}
theorem qhR (S:YN prog w Pv s.heap S1 k1) {b:Addr}{ks:List Int}(tb:yE s.heap (.ref b) ks) (hu:A.units<cLine) {Q:Option Nat->Shared->Prop}(q:∀ r:Option Nat,r.isSome=decide (ks∈k1)->Q r s):wpAny (model prog w) A (setFind S1 (.ref b) (yh prog w ks)) Q E s:=by
 obtain ⟨o,es,ep,t,m,D⟩:=S
 have T:=D.si.tab
 have hle:=D.mok.le
 obtain ⟨j,q1,q2⟩:=T.free (yf hle.1)
 obtain ⟨K,K1,K2⟩:=D.mok.full.walk (yh prog w ks) q1
 have m127:m<=8191:=by have:=D.mok;unfold jw at this;omega
 show wpAny (model prog w) A (setFindIn S1 (.ref b) (yh prog w ks) (99999+1)) Q E s
 unfold setFindIn
 refine qa (yx D.ho D.hd D.fits ?_)
 dsimp only
 rw [if_neg (by simp [byScan,Value.scannable])]
 refine qa ?_
 unfold setSearch
 refine Ym D tb hu (adding:=false) (fun i ei=>?_) (fun no j' _ _ _=>?_) (K:=K) (by rw [K2];exact q2) K1 100000 0 none (by show t.probeStart _=_;rw [qa3,T.mask]) (qN _) (by omega) fun l z=>absurd z (by omega)
 ·exact qd (q (some i) (by rw [qB (List.mem_of_getElem? ei)];rfl))
 ·exact qd (q none (by rw [yr no];rfl))
theorem qaT (S:YN prog w Pv s.heap S1 k1) {b:Addr}{ks:List Int}(tb:yE s.heap (.ref b) ks) (hu:A.units+64<cLine) {Q:Bool->Shared->Prop}(q:Q (decide (ks∈k1)) { s with toks:=s.toks+(ks.length+1) }):wpAny (model prog w) A (contains (.ref S1) (.ref b)) Q E s:=by
 have S':=S
 obtain ⟨o,es,ep,t,m,D⟩:=S
 have T:s.TypeIs (.ref S1) "set" := ⟨o,D.ho,D.ex.1⟩
 unfold contains
 try with_reducible refine qX ?_
 refine qa (wpAny_specialOf T F.slot_set_contains.lookup ?_)
 show wpAny _ _ (if (some (Value.builtin "set.__contains__") == some Value.none)=true then _ else _) _ E s
 rw [if_neg (by rw [beq_builtin_none];exact Bool.false_ne_true)]
 refine qa (wpAny_callSpecialUnlessNone?_slot (name:=Str.ofString "__contains__") T F.slot_set_contains
  (wpAny_call_entry F.slot_set_contains T entry_set_contains ?_ (F.args_set_contains_2 _ _)))
 unfold Builtin.«frozenset.__contains__» Builtin.Frozenset.oneOther
 simp only [List.isEmpty_nil,bind_assoc]
 unfold Builtin.Frozenset.addrOf Builtin.Frozenset.withSetAsKey setContains
 refine qa (qd ?_)
 try dsimp only
 refine qa (qd ?_)
 try dsimp only
 refine qa (wpAny_tryCatch ?_)
 refine qX ?_
 have hu1:A.in1.units<cLine:=by show A.units+_<_;omega
 refine qa (wpAny_pyHash_tuple hu1 (tb.key (prog:=prog) (w:=w)) ?_)
 refine qa (qhR (s:={ s with toks:=s.toks+(ks.length+1) }) S' tb hu1 fun r hr=>?_)
 refine qd ?_
 show wpAny _ _ (ret (Value.bool r.isSome)) _ _ _
 rw [hr]
 exact qd ⟨_,rfl,wpAny_truthy_bool q⟩
end
section
variable {X:Cx}{K:W.Frag}
def rInT (X:Cx) (neg:Bool):R2:=fun x y H Q=>∃ (S:Addr) (bs:List (Addr×List Int)) (ks:List Int),y = .ref S/\H S=some (qa6 X.prog X.w S bs)/\InS X.K H bs/\JW X.K H x ks/\Q (.bl (if neg then !decide (ks∈bs.map (·.2)) else decide (ks∈bs.map (·.2)))) H
theorem qdg (hu:X.A.units+64<cLine):OpR X (compareOp .NotIn) (rInT X true):=by
 intro pins s σ H x y v u Q I rx ry h
 obtain ⟨S,bs,ks,rfl,h1,h2,h3,q⟩:=h
 cases ry
 obtain ⟨⟨a,rfl,_⟩,_⟩:=id h3
 cases rx
 show wpAny _ _ (do return Value.bool (!(<- contains (Value.ref S) (Value.ref a)))) _ _ s
 exact qa (qaT (I.setT h1 h2) (I.tupK h3) hu (qd ⟨.bl _,H,I.tok _,rfl,q⟩))
def rdInT (P:Program) (w:World) (K:W.Frag) (neg:Bool):R2d:=fun x y μ Q=>∃ (ms:List (List Int)) (ks:List Int),x = .d (jO ks)/\ks≠[]/\y = .x (qcB P w K ms)/\Q (.d (.bool (if neg then !decide (ks∈ms) else decide (ks∈ms)))) μ
theorem qg2 {H:Hp}{v:V}{ks:List Int}(h:Is K H v (jO ks)) (hn:ks≠[]):JW K H v ks:=by
 unfold jO at h
 cases h with
 | @tup a xs _ h1 h2 =>
  rw [h2.ints_of] at h1
  exact ⟨⟨a,rfl,h1⟩,hn⟩
theorem qcc {P:Program}{w:World}(hu:X.A.units+64<cLine) (hK:X.K=K:=by rfl) (hP:X.prog=P:=by rfl) (hw:X.w=w:=by rfl):OpR X (compareOp .NotIn) (upR K (rdInT P w K true)):=by
 subst hK hP hw
 refine (qdg hu).mono fun x y H Q h=>?_
 obtain ⟨μ,e,e',Q0,M,i1,i2,q,cl⟩:=h
 obtain ⟨ms,ks,rfl,hn,rfl,q⟩:=q
 obtain ⟨S,bs,rfl,h1,h2,rfl,h4,h5⟩:=i2
 exact ⟨S,bs,ks,rfl,ym _ _ h1,fun b hb=>(h2 b hb).up,(qg2 i1 hn).up,cl _ μ _ H q M (qY.refl _) (.bl _)⟩
def qje (K:W.Frag):V->List V->Hp->VK->Prop:=fun x vs H Q=>∃ (l:Addr) (xs:List V) (ds:List PyData) (y:V) (d:PyData) (j:Nat),x = .ref l/\vs=[y]/\SqL K H l xs/\IsAll K H xs ds/\Is K H y d/\PyData.canLayAll0 ds=true/\SeqAt.shaped d=true ∧
 j<ds.length/\ds.length<=4000/\(∃ z,ds[j]?=some z/\z.eqv d=true)/\(∀ i z,i<j->ds[i]?=some z->z.eqv d=false)/\Q (.int (j:Nat)) H
theorem ZY (hu:X.A.units+70<cLine):MtR X "list.index" (qje X.K):=by
 intro pins s σ H x xs v us Q I rx rs h
 obtain ⟨l,zs,ds,y,d,j,rfl,rfl,hq,hA,hy,hl,hs,hj,hj2,hit,hno,q⟩:=h
 cases rx
 obtain ⟨u,rfl,ry⟩:=Y8 rs
 obtain ⟨its,rv,pl,hz⟩:=I.list hq
 obtain ⟨⟨cls,dd,data,sl⟩,ho,hc,n,hd⟩:=pl.isList
 simp only at hc hd
 subst hc hd
 obtain ⟨bs,rb⟩:=hy.reads I ry
 unfold SeqAt.shaped at hs
 rw [Bool.and_eq_true] at hs
 have hdep:=qy hs.2
 have hlen:its.length=ds.length:=by rw [<- rv.length,hA.len]
 have rd:∀ (i:Nat) (z:Value),its[i]?=some z->∃ dz as,ds[i]?=some dz/\SeqAt.readOf s.heap z=dz/\Reads s.heap z dz as/\dz.canLay0=true:=fun i z ei=>by
  have hi:i<zs.length:=by rw [rv.length];exact (ql.mp ei).1
  obtain ⟨dz,e1,hz1⟩:=hA.get (List.getElem?_eq_getElem hi)
  obtain ⟨uz,e2,rz⟩:=yb.get rv (List.getElem?_eq_getElem hi)
  rw [ei] at e2
  cases e2
  obtain ⟨as,ra⟩:=hz1.reads I rz
  have lz:=qhV hl (List.mem_of_getElem? e1)
  exact ⟨dz,as,e1,SeqAt.readOf_eq lz ra,ra,lz⟩
 refine call_meets F.slot_list_index ⟨_,ho,rfl⟩ F.entry_list_index (F.args_list_index_2 _ _) (SeqAt.list_indexAt l its.toArray n dd sl u (fun z=>(SeqAt.readOf s.heap z).eqv d) j (by simp;omega) (by omega) ?_ ?_) ⟨ho,fun z hz=>?_,?_⟩
 ·have hj':j<its.length:=by omega
  obtain ⟨dz,as,e1,e2,_,_⟩:=rd j its[j] (List.getElem?_eq_getElem hj')
  obtain ⟨z',e3,e4⟩:=hit
  rw [e1] at e3
  cases e3
  show (SeqAt.readOf s.heap its.toArray[j]).eqv d=true
  simp only [List.getElem_toArray]
  rw [e2];exact e4
 ·intro m hm hmj
  have hm':m<its.length:=by simpa using hm
  obtain ⟨dz,as,e1,e2,_,_⟩:=rd m its[m] (List.getElem?_eq_getElem hm')
  show (SeqAt.readOf s.heap its.toArray[m]).eqv d=false
  simp only [List.getElem_toArray]
  rw [e2];exact hno m dz hmj e1
 ·have hz:z∈its:=by simpa using hz
  obtain ⟨i,ei⟩:=qU hz
  obtain ⟨dz,as,e1,e2,ra,lz⟩:=rd i z ei
  rw [e2]
  refine SeqAt.eqAt_reads dz d _ s z u as bs ra rb lz hs.1 ?_
  show X.A.units+1+_<_
  omega
 ·exact ⟨.int _,H,I.tok _,⟨_,rfl⟩,q⟩
def dIdxD (to:TEd) (tr:TAd):TEd:=fun ρ μ Q=>to ρ μ fun x μ1=>∃ ds,LstOf μ1 x ds/\tr ρ μ1 fun es μ2=>LstOf μ2 x ds/\match es with
 | [.d d]=>PyData.canLayAll0 ds=true/\SeqAt.shaped d=true/\∃ j:Nat,j<ds.length/\ds.length<=4000/\(∃ z,ds[j]?=some z/\z.eqv d=true)/\(∀ i z,i<j->ds[i]?=some z->z.eqv d=false)/\Q (.d (.int (j:Nat))) μ2
 | _=>False
theorem qbD {o e:Expr}{to:TEd}{tr:TAd}{p1 pos:Pos}(ho:DE K X o to) (ha:DA K X [e] tr) (hK:X.K=K:=by rfl)
  (h:PE X (.Call (.Attribute o "index" p1) [e] [] pos) (tBM X.K "list" (qje X.K) (up K to) (upA K tr))):DE K X (.Call (.Attribute o "index" p1) [e] [] pos) (dIdxD to tr):=by
 subst hK
 refine PE.mono h fun σ H Q hq9=>?_
 obtain ⟨ρ,μ,Q0,hS,hM,h,cl⟩:=hq9
 refine ⟨ρ,μ,_,hS,hM,h,fun x μ1 v H1 q M1 s1 i1=>?_⟩
 obtain ⟨ds,h1,q⟩:=q
 obtain ⟨p,xs,rfl,a1,a2⟩:=h1.get M1 i1
 refine ⟨.inl ⟨rfl,_,a1⟩,ρ,μ1,_,hS.same s1,M1,q,fun es μ2 vs H2 q2 M2 s2 i2=>?_⟩
 obtain ⟨h2,q2⟩:=q2
 obtain ⟨p',xs',e',b1,b2⟩:=h2.get M2 (i1.same s2)
 cases e'
 split at q2
 ·obtain ⟨v,rfl,h3⟩:=Yq i2
  obtain ⟨c1,c2,j,c3,c4,c5,c6,q2⟩:=q2
  exact ⟨p,xs',ds,v,_,j,rfl,rfl,b1,IsAll.same ym b2,Is.same ym h3,c1,c2,c3,c4,c5,c6,cl _ μ2 _ H2 q2 M2 (s1.trans s2) (.int _)⟩
 ·exact q2.elim
end
open PySem PySem.Spec PyProof.Rows
def qeI (f:Str) (y:En):List (Str×En)->List (Str×En)
 | []=>[(f,y)]
 | (g,x)::t=>if g=f then (g,y)::t else (g,x)::qeI f y t
section
variable {K:W.Frag}{μ:Mu}{H:Hp}
theorem qea {f:Str}:∀ {vs:List (Str×V)}{fs:List (Str×En)}{x:En},PySem.Paired (qeG K μ H) vs fs->fs.lookup f=some x->∃ v,vs.lookup f=some v/\IsE K μ H v x
 | _,_,_,.nil,e=>by cases e
 | (g,v)::vs,(g',y)::fs,x,.cons ⟨h1,h2⟩ t,e=>by
  have h1:g=g':=h1
  subst h1
  simp only [List.lookup_cons] at e ⊢
  split at e
  ·cases e
   exact ⟨v,rfl,h2⟩
  ·exact qea t e
theorem qd9 {f:Str}:∀ {vs:List (Str×V)}{fs:List (Str×En)},PySem.Paired (qeG K μ H) vs fs->fs.lookup f=none->vs.lookup f=none
 | _,_,.nil,_=>rfl
 | (g,v)::vs,(g',y)::fs,.cons ⟨h1,h2⟩ t,e=>by
  have h1:g=g':=h1
  subst h1
  simp only [List.lookup_cons] at e ⊢
  split at e
  ·cases e
  ·exact qd9 t e
theorem qd8 {f:Str}{v:V}{y:En}(hy:IsE K μ H v y):∀ {vs:List (Str×V)}{fs:List (Str×En)},PySem.Paired (qeG K μ H) vs fs->PySem.Paired (qeG K μ H) (Zh f v vs) (qeI f y fs)
 | _,_,.nil=>.cons ⟨rfl,hy⟩ .nil
 | (g,u)::vs,(g',z)::fs,.cons ⟨h1,h2⟩ t=>by
  have h1:g=g':=h1
  subst h1
  unfold Zh qeI
  by_cases c:g=f
  ·rw [if_pos c,if_pos c]
   exact .cons ⟨rfl,hy⟩ t
  ·rw [if_neg c,if_neg c]
   exact .cons ⟨rfl,h2⟩ (qd8 hy t)
end
section
variable {X:Cx}{K:W.Frag}{pos pos' apos p1:Pos}{C:Addr}{f m:Str}
def dFld (C:Addr) (f:Str) (te:TEd):TEd:=fun ρ μ Q=>te ρ μ fun e μ1=>∃ p dx fs x,e = .m p/\(p,MO.ins C dx fs)∈μ1/\fs.lookup f=some x/\Q x μ1
theorem ZC {e:Expr}{te:TEd}(c:Cls X.K C) (n:Jc X.K C f) (he:DE K X e te) (hb:attributeBase e f X.env (eval e X.env)=eval e X.env):DE K X (.Attribute e f pos) (dFld C f te):=by
 refine PE.mono (qju he hb) fun σ H Q hq9=>?_
 obtain ⟨ρ,μ,Q0,hS,hM,h,cl⟩:=hq9
 refine ⟨ρ,μ,_,hS,hM,h,fun e μ1 v H1 q M1 s1 i1=>?_⟩
 obtain ⟨p,dx,fs,x,rfl,hm,hl,q⟩:=q
 have i1:v = .ref p:=i1
 subst i1
 obtain ⟨vs,hv,pv⟩:=M1.ob p _ hm
 obtain ⟨u,e1,e2⟩:=qea pv hl
 exact ⟨p,C,dx,vs,u,rfl,hv,c,n,e1,cl _ μ1 u H1 q M1 s1 e2⟩
def dsFld (C:Addr) (f:Str) (to tv:TEd):TSd:=fun D ρ μ=>tv ρ μ fun y μ1=>to ρ μ1 fun e μ2=>∃ p dx fs fs' μa μb,e = .m p/\μ2=μa++(p,MO.ins C dx fs)::μb/\qeI f y fs=fs'/\fs.length<1000/\D.nx ρ (μa++(p,MO.ins C dx fs')::μb)
theorem qjw {μ μ':Mu}{H H':Hp}(s:qY (mask μ H) (mask μ' H')):∀ {vs:List V}{es:List En},PySem.Paired (IsE K μ H) vs es->PySem.Paired (IsE K μ' H') vs es
 | _,_,.nil=>.nil
 | _,_,.cons h t=>.cons (h.same s) (qjw s t)
theorem qej {o value:Expr}{to tv:TEd}(c:Cls X.K C) (n:Jc X.K C f) (ho:DE K X o to) (hv:DE K X value tv) (hs:swapsWith value (some (.Attribute o f pos')) pos.line X.env=pure false:=by rfl):DS K X (.Assign [.Attribute o f pos'] value pos) (dsFld C f to tv):=by
 refine PS.mono (qjp ho hv hs) fun D σ H hq9=>?_
 obtain ⟨ρ,μ,D0,hS,hM,h,cl⟩:=hq9
 refine ⟨ρ,μ,_,hS,hM,h,fun y μ1 u H1 q M1 s1 i1=>⟨ρ,μ1,_,hS.same s1,M1,q,fun e μ2 v2 H2 q2 M2 s2 i2=>?_⟩⟩
 obtain ⟨p,dx,fs,fs',μa,μb,rfl,rfl,rfl,hl,q2⟩:=q2
 have i2:v2 = .ref p:=i2
 subst i2
 obtain ⟨vs,hv,pv⟩:=M2.ob p (.ins C dx fs) (by simp)
 obtain ⟨M4,s4⟩:=M2.write (H':=upd H2 p (.ins C dx (Zh f u vs))) (o':=.ins C dx (qeI f y fs)) (fun b u e n=>by rw [qI n];exact e) fun ss=>⟨_,qM,qd8 (i1.same (s2.trans ss)) (qeG.all ss pv)⟩
 exact ⟨p,C,dx,vs,rfl,hv,c,n,by rw [PySem.Paired.length pv];exact hl,cl.nx _ _ _ _ q2 (hS.same ((s1.trans s2).trans s4)) M4 ((s1.trans s2).trans s4)⟩
def OwnM (P:Program) (w:World) (K:W.Frag) (mg:Str->Option Value) (base:Heap) (CX:CXT) (k:Nat) (x:Str) (C:Addr) (ps:List Str) (sp:Sp):Prop :=
 ∃ (f:Addr) (fd:FuncData),FnOk P w K mg base CX k f fd ps sp/\mg x=some (.ref C)/\Mk K C f/\JO K fd ps []
def Jd (P:Program) (w:World) (K:W.Frag) (mg:Str->Option Value) (base:Heap) (CX:CXT) (k:Nat) (C:Addr) (m:Str) (ps:List Str) (sp:Sp):Prop :=
 ∃ (f:Addr) (fd:FuncData),FnOk P w K mg base CX k f fd ps sp/\Cls K C/\Meth K C m f/\JO K fd ps []
def dMake (C:Addr) (s:SpD) (tr:TAd):TEd:=fun ρ μ Q=>tr ρ μ fun es μ1=>∀ p dx,p∉μ1.map Prod.fst->s (.m p::es) ((p,MO.ins C dx [])::μ1) fun e μ2=>e = .d .none/\Q (.m p) μ2
theorem qkk {CX:CXT}{k:Nat}{x:Str}{ps:List Str}{s:SpD}{e:Expr}{es:List Expr}{tr:TAd}(O:OwnM X.prog X.w X.K X.mg X.base CX k x C ps (qZ K s)) (hX:NoX CX) (hr:Room (k+1) X.A) (hg:Gl X x) (ha:DA K X (e::es) tr) (hdb:(x == ("__debug__" : Str))=false:=by decide)
  (he:starEach (e::es) X.env=(false,eval e X.env)::starEach es X.env:=by rfl) (hpl:(backTo pos (starEach es X.env)).any (·.1)=false:=by rfl):DE K X (.Call (.Name x p1) (e::es) [] pos) (dMake C s tr):=by
 obtain ⟨g,fd,F,hm,M,hb⟩:=O
 refine PE.mono (qhw M F hr hg hm hb .nil (qfh hX) ha hdb he hpl) fun σ H Q hq9=>?_
 obtain ⟨ρ,μ,Q0,hS,hM,h,cl⟩:=hq9
 refine ⟨ρ,μ,_,hS,hM,h,fun es μ1 vs H1 q M1 s1 i1=>?_⟩
 intro y dx hy hdx hne
 obtain ⟨M2,s2,n2⟩:=M1.laid (o:=.own y) hdx
 have hy2:upd H1 dx (.own y) y=none:=by rw [qI hne.symm];exact hy
 obtain ⟨M3,s3⟩:=M2.new (u:=.ins C dx []) (o:=.ins C dx []) hy2 fun ss=>⟨[],qM,.nil⟩
 obtain ⟨_,_,n3⟩:=M2.laid (o:=.ins C dx []) hy2
 have st:=s2.trans s3
 refine ⟨(y,.ins C dx [])::μ1,.m y::es,_,M3,.cons rfl (by simpa using qjw st i1),q y dx n3,?_⟩
 rintro e μ' v H' ⟨rfl,q'⟩ M' s' i'
 cases i'
 exact ⟨rfl,cl _ μ' _ H' q' M' ((s1.trans st).trans s') rfl⟩
def qkp (C:Addr) (m:Str) (s:SpD) (to:TEd) (tr:TAd):TEd:=fun ρ μ Q=>to ρ μ fun e μ1=>∃ p dx fs,e = .m p/\(p,MO.ins C dx fs)∈μ1/\fs.lookup m=none/\tr ρ μ1 fun es μ2=>s (.m p::es) μ2 Q
theorem qeq {CX:CXT}{k:Nat}{ps:List Str}{s:SpD}{o e:Expr}{es:List Expr}{to:TEd}{tr:TAd}{pl:Sem Bool}(O:Jd X.prog X.w X.K X.mg X.base CX k C m ps (qZ K s)) (hX:NoX CX) (hr:Room k X.A) (ho:DE K X o to) (ha:DA K X (e::es) tr)
  (hst:starEach (e::es) X.env=(false,eval e X.env)::starEach es X.env:=by rfl) (hpl:(backTo pos (starEach es X.env)).any (·.1)=false:=by rfl)
  (ht:eval (.Call (.Attribute o m apos) (e::es) [] pos) X.env=(do
   let ov <- eval o X.env
   standAt apos.atName
   let (f,first) <- holding [ov] (getMethod ov m pl)
   callWith pos f first (backTo pos (starEach (e::es) X.env)) (backToKw pos (keywordEach [] X.env))):=by rfl):DE K X (.Call (.Attribute o m apos) (e::es) [] pos) (qkp C m s to tr):=by
 obtain ⟨g,fd,F,c,hm,hb⟩:=O
 refine PE.mono (qhu ho c hm F hr hb .nil (qfh hX) ha hst hpl ht) fun σ H Q hq9=>?_
 obtain ⟨ρ,μ,Q0,hS,hM,h,cl⟩:=hq9
 refine ⟨ρ,μ,_,hS,hM,h,fun e μ1 v H1 q M1 s1 i1=>?_⟩
 obtain ⟨p,dx,fs,rfl,hmem,hl,q⟩:=q
 have i1:v = .ref p:=i1
 subst i1
 obtain ⟨vs,hv,pv⟩:=M1.ob p _ hmem
 refine ⟨p,dx,vs,rfl,hv,qd9 pv hl,ρ,μ1,_,hS.same s1,M1,q,fun es μ2 us H2 q2 M2 s2 i2=>?_⟩
 exact ⟨μ2,.m p::es,Q0,M2,.cons rfl (by simpa using i2),q2,cl.same (s1.trans s2)⟩
theorem qep {CX:CXT}{k:Nat}{ps:List Str}{s:SpD}{o:Expr}{to:TEd}{pl:Sem Bool}(O:Jd X.prog X.w X.K X.mg X.base CX k C m ps (qZ K s)) (hX:NoX CX) (hr:Room k X.A) (ho:DE K X o to)
  (ht:eval (.Call (.Attribute o m apos) [] [] pos) X.env=(do
   let ov <- eval o X.env
   standAt apos.atName
   let (f,first) <- holding [ov] (getMethod ov m pl)
   callWith pos f first (backTo pos (starEach [] X.env)) (backToKw pos (keywordEach [] X.env))):=by rfl):DE K X (.Call (.Attribute o m apos) [] [] pos) (qkp C m s to dNil):=by
 obtain ⟨g,fd,F,c,hm,hb⟩:=O
 refine PE.mono (qfe ho c hm F hr hb .nil (qfh hX) ht) fun σ H Q hq9=>?_
 obtain ⟨ρ,μ,Q0,hS,hM,h,cl⟩:=hq9
 refine ⟨ρ,μ,_,hS,hM,h,fun e μ1 v H1 q M1 s1 i1=>?_⟩
 obtain ⟨p,dx,fs,rfl,hmem,hl,q⟩:=q
 have i1:v = .ref p:=i1
 subst i1
 obtain ⟨vs,hv,pv⟩:=M1.ob p _ hmem
 refine ⟨p,dx,vs,rfl,hv,qd9 pv hl,?_⟩
 exact ⟨μ1,[.m p],Q0,M1,.cons rfl .nil,q,cl.same s1⟩
end
end L2
local macro_rules | `(tactic| walk_at "i")=>`(tactic| first | refine Jj (fun c=>?_) (fun c=>?_))
namespace K92
open PySem L2
def top (i:Nat):Stmt:=PySem.Challenge.pw_halveline_k92_whole_steps_change_what_pa.main.body.getD i (.Pass ⟨0,0,0,0⟩)
structure Txt (mg:Str->Option Value):Prop where
 len_:mg "len" = none
 range_:mg "range" = none
 max_:mg "max" = none
 min_:mg "min" = none
 abs_:mg "abs" = none
 int_:mg "int" = none
 isinstance_:mg "isinstance" = none
 tuple_:mg "tuple" = none
 bool_:mg "bool" = none
 list_:mg "list" = none
 all_:mg "all" = none
 any_:mg "any" = none
 set_:mg "set" = none
 sorted_:mg "sorted" = none
 str_:mg "str" = none
 enumerate_:mg "enumerate" = none
 zip_:mg "zip" = none
 divmod_:mg "divmod" = none
abbrev qg4:Stmt:=top 6
abbrev je:Stmt:=top 7
abbrev jR:Stmt:=top 8
abbrev jy:Stmt:=top 9
abbrev qg6:Stmt:=top 11
abbrev Y9:Stmt:=top 12
abbrev qg5:Stmt:=top 13
abbrev Zf:Stmt:=top 14
abbrev qav:Stmt:=top 15
abbrev Yl:Stmt:=top 17
abbrev yQ:Stmt:=top 18
abbrev qau:Stmt:=top 20
abbrev jq:Stmt:=top 21
abbrev yY:Stmt:=top 23
abbrev j5:Stmt:=top 25
abbrev Jf:Stmt:=top 27
abbrev Zb:Stmt:=top 28
abbrev yX:Stmt:=top 29
abbrev Jx:Stmt:=top 32
abbrev Jg:Stmt:=top 33
abbrev Jw:Stmt:=top 34
abbrev Yn:Stmt:=top 35
abbrev jT:Stmt:=top 36
abbrev jf:Stmt:=top 37
abbrev Jv:Stmt:=top 38
abbrev jz:Stmt:=top 39
abbrev jS:Stmt:=top 40
abbrev q0:Stmt:=top 41
abbrev qeU:Stmt:=top 42
abbrev y7:Stmt:=YB (top 30) 0
abbrev jV:Stmt:=YB (top 30) 1
abbrev jJ:Stmt:=YB (top 30) 2
abbrev Jh:Stmt:=YB (top 30) 3
abbrev jU:Stmt:=YB (top 30) 6
section
variable {P:Program}{w:World}{K:W.Frag}{mg:Str->Option Value}{base:Heap}{CX:CXT}
abbrev PC0:MO:=.pot 2147483579
def qhi:SpD:=fun es μ Q=>∃ (ns:List Int) (k:Nat),es=[.d (.list (ns.map .int)),.d (.int k)]/\ns.length<=63/\∀ c:Int,Q (.d (.int c)) μ
def qcS:SpD:=fun es μ Q=>∃ (ns:List Int) (k:Nat),es=[.d (.list (ns.map .int)),.d (.int k)]/\ns.length<=63/\k<=63/\∀ p,p∉μ.map Prod.fst->Q (.m p) ((p,PC0)::μ)
theorem qfK {ns:List Int}{lo hi:Option Int}{i:Nat}{x:PyData}(h:(ZJ (ns.map PyData.int) lo hi)[i]?=some x):∃ y,x = .int y:=by
 obtain ⟨y,_,e⟩:=qv.mp (ja (List.mem_of_mem_take (List.mem_of_getElem? h)))
 exact ⟨y,e.symm⟩
theorem qcR:FnScope ["_law_script", "_law_k"] ["_law_script", "_law_k"] (qt Jx):=⟨rfl,rfl,rfl,by decide +kernel,rfl,by decide +kernel,by decide +kernel⟩
theorem qhK {f:Addr}{fd:FuncData}(F:Fun K "_law_cell" "_law_cell" Jx f fd) (T:Txt mg):FnOk P w K mg base CX 1 f fd ["_law_script", "_law_k"] (qZ K qhi):=by
 refine F.okD qcR (fun es μ Q hq0=>by obtain ⟨ns,k,e,_⟩:=hq0;subst e;rfl) (fun cdv A outer s H E es μ Q hr hq0=>?_)
 obtain ⟨ns,n,e,hl,k⟩:=hq0
 subst e
 have nd:=qcR.nd
 refine ⟨_,(qQ (qW (qii (yo qel (dv 1) (yB Y6 (by rfl) T.len_ Y7 (qf (dv 0) qr)) (yk _)) (jP yy (dv 0) (dv 1) (fun _ _=>rfl)) qK))),?_⟩
 refine ⟨_,.l (.d _),?_⟩
 rw [List.length_map]
 refine Jj (fun c=>?_) (fun c=>k 0)
 have hc:(n:Int)<(ns.length:Int):=qy c
 have hn2:n<ns.length:=by omega
 exact ⟨.int ns[n],JM (by rw [List.getElem?_map,List.getElem?_eq_getElem hn2];rfl),k ns[n]⟩
theorem qa7:FnScope ["_law_script", "_law_k", "_law_mixed", "_law_cell_here"] ["_law_script", "_law_k"] (qt Jg):=⟨rfl,rfl,rfl,by decide +kernel,rfl,by decide +kernel,by decide +kernel⟩
theorem qfk {f:Addr}{fd:FuncData}(F:Fun K "_law_store" "_law_store" Jg f fd) (T:Txt mg) (hX:NoX CX) (O_law_cell:Own P w K mg base CX 1 "_law_cell" ["_law_script", "_law_k"] (qZ K qhi)):FnOk P w K mg base CX 2 f fd ["_law_script", "_law_k"] (qZ K qcS):=by
 refine F.okD qa7 (fun es μ Q hq0=>by obtain ⟨ns,k,e,_⟩:=hq0;subst e;rfl) (fun cdv A outer s H E es μ Q hr hq0=>?_)
 obtain ⟨ns,n,e,hl,hn,k⟩:=hq0
 subst e
 have nd:=qa7.nd
 refine ⟨_,(qG (yp (i:=2) nd rfl (by first | exact Or.inl rfl | exact Or.inr rfl) (yO Ja qK (yO y9 qK (dv 1))))
   (qG (qab PassesOwn.never rfl (y8 (ZB (dv 0) Zy (Zx qK))) (qS (i:=3) nd rfl (by first | exact Or.inl rfl | exact Or.inr rfl)) (qQ (yp (i:=2) nd rfl (by first | exact Or.inl rfl | exact Or.inr rfl) (yO qek (yO Ja (yO y9 (dv 2) qK) (dv 3)) qK))))
   (qQ (qic (qer (qf (yB (qeo rfl) (by rfl) T.max_ qbJ (qf qK (qf (yO jN (yi O_law_cell hX (hr.mono (by decide)) rfl (qf (dv 0) (qf (dv 1) qr))) (yO JU qK qK)) qr))) (qf (dv 2) qr))))))),?_⟩
 refine ⟨⟨qeL (by decide) (by decide),qeL (by omega) (by omega)⟩,_,.d _,_,.d _,?_⟩
 refine forL (fun i ρ' μ'=>μ'=μ/\∃ (z:Int) (v:Option En),ρ'=[some (.d (.list (ns.map .int))),some (.d (.int n)),some (.d (.int z)),v]/\0<=z/\z<2147483579) ⟨rfl,_,_,rfl,by omega,by omega⟩ (fun _ _ _ _=>.d _) ?_ ?_
 ·rintro i x ρ' μ' hx ⟨rfl,z,v,rfl,z0,z1⟩
  obtain ⟨y,rfl⟩:=qfK hx
  have g0:0<=(z * 51239+y) % 2147483543:=Int.emod_nonneg _ (by decide)
  have g1:(z * 51239+y) % 2147483543<2147483543:=Int.emod_lt_of_pos _ (by decide)
  exact ⟨⟨qeL (by omega) (by omega),qeL (by decide) (by decide)⟩,(show (0:Int)<2147483543 by decide),Wks.of ⟨rfl,_,_,rfl,g0,by omega⟩⟩
 ·rintro ρ' μ' ⟨rfl,z,v,rfl,z0,z1⟩
  refine ⟨ns,n,rfl,hl,fun c=>⟨⟨by decide,by decide,by decide⟩,zl2,fun p hp=>⟨_,_,FzR.pot ?_ z0 z1,k p hp⟩⟩⟩
  dsimp only
  split <;> omega
theorem qcQ:FnScope ["_law_store_here", "_law_many", "_law_digit"] ["_law_store_here", "_law_many"] (qt Jw):=⟨rfl,rfl,rfl,by decide +kernel,rfl,by decide +kernel,by decide +kernel⟩
theorem qhJ {f:Addr}{fd:FuncData}(F:Fun K "_law_draw" "_law_draw" Jw f fd) (T:Txt mg):FnOk P w K mg base CX 1 f fd ["_law_store_here", "_law_many"] (qZ K (ZU 2147483579)):=by
 refine FnOk.imp (sp:=qcC 2147483579) ?_ fun _ _ _ _ h=>qie h
 refine F.okG qcQ (fun vs H Q E h=>?_) (fun cdv A outer s H vs Q E hr h=>?_)
 ·obtain ⟨p,m,rfl,_⟩:=h
  rfl
 ·obtain ⟨p,m,rfl,⟨p0,p1,e,h0,h1,h2⟩,m0,m1,k⟩:=h
  have nd:=qcQ.nd
  refine ⟨_,(JZ (qjn (qc1 qjB (qbZ Ji (pv 0) jt (fun _ _=>rfl)) jt (yk _)) (JZ (qc4 (qbj qaX (by rfl) T.divmod_ qez (qaB (qbZ Ji (pv 0) jt (fun _ _=>rfl)) (qaB (pv 1) qgi))) (qgg rfl (Zi (qdb (pv 0) jt Zd) (Zi (qdc (i:=2) nd rfl (by first | exact Or.inl rfl | exact Or.inr rfl)) qda))))
   (qaz (qbi (pv 2)))) qc3)
   (JZ (qc4 (ZV qbl (ZV qdi (ZV qaC (qbZ Ji (pv 0) jt (fun _ _=>rfl)) jt) jt) jt) (qdb (pv 0) jt Zd))
   (qaz (qbi (ZV qbl (ZV qhA (ZV qbl (ZV qaC (qbZ Ji (pv 0) jt (fun _ _=>rfl)) (qbZ Ji (pv 0) jt (fun _ _=>rfl))) jt) jt) (pv 1)))))),?_⟩
  refine ⟨_,rfl,p,_,_,_,rfl,rfl,SqL.of e,rfl,_,_,rfl,rfl,_,rfl,?_⟩
  refine Jj (fun c=>?_) (fun c=>?_)
  ·have hc:0<p0:=qy c
   refine ⟨_,rfl,p,_,_,_,rfl,rfl,SqL.of e,rfl,_,rfl,_,_,rfl,⟨m0,by omega⟩,fun t ht=>?_⟩
   have e':=qY.upd (o:=.tup [.int (p0 / m),.int (p0 % m)]) ht _ _ e
   refine ⟨t,_,rfl,SqT.of qM,rfl,_,_,rfl,_,rfl,p,_,_,_,rfl,rfl,e',rfl,_,_,rfl,rfl,?_⟩
   refine ⟨_,rfl,?_⟩
   refine k _ _ (Int.emod_nonneg _ (by omega)) (Int.emod_lt_of_pos _ m0) ⟨p0 / m,p1,qM,Int.ediv_nonneg h0 (by omega),h1,h2⟩ ((qY.upd ht).stp.trans Stp.upd)
  ·refine ⟨_,rfl,p,_,_,_,rfl,rfl,SqL.of e,rfl,_,_,rfl,rfl,⟨Big.of 2147483579 (by decide) (by omega) (by omega),Big.of 40487 (by decide) (by decide) (by decide)⟩,_,_,rfl,rfl,_,_,rfl,rfl,(show (0:Int)<2147483579 by decide),_,rfl,p,_,_,_,rfl,rfl,e,rfl,?_⟩
   have g0:0<=(p1 * 40487+9973) % 2147483579:=Int.emod_nonneg _ (by decide)
   have g1:(p1 * 40487+9973) % 2147483579<2147483579:=Int.emod_lt_of_pos _ (by decide)
   have e':∀ z,(upd H p (.lst [V.int p0,V.int z])) p=some (.lst [V.int p0,V.int z]):=fun z=>qM
   refine ⟨_,rfl,p,_,_,_,rfl,rfl,SqL.of (e' _),rfl,_,rfl,p,_,_,_,rfl,rfl,SqL.of (e' _),rfl,_,_,rfl,rfl,⟨Big.of 2147483579 (by decide) (by omega) (by omega),Big.of 2147483579 (by decide) (by omega) (by omega)⟩,_,_,rfl,rfl,(show (0:Int)<2147483549 by decide),_,_,rfl,rfl,⟨by decide,by decide⟩,_,rfl,_,_,rfl,rfl,m0,?_⟩
   exact k _ _ (Int.emod_nonneg _ (by omega)) (Int.emod_lt_of_pos _ m0) ⟨p0,_,e' _,h0,g0,g1⟩ Stp.upd
theorem e8:(10:Int) ^ (8:Int).toNat=100000000:=by decide
theorem e30:(10:Int) ^ (30:Int).toNat=1000000000000000000000000000000:=by decide
theorem qf9:FnScope ["_law_store_here", "_law_found", "_law_k"] ["_law_store_here"] (qt Yn):=⟨rfl,rfl,rfl,by decide +kernel,rfl,by decide +kernel,by decide +kernel⟩
theorem qjH {f:Addr}{fd:FuncData}(F:Fun K "_law_far" "_law_far" Yn f fd) (T:Txt mg) (hX:NoX CX) (O_law_draw:Own P w K mg base CX 1 "_law_draw" ["_law_store_here", "_law_many"] (qZ K (ZU 2147483579))):FnOk P w K mg base CX 2 f fd ["_law_store_here"] (qZ K (qiC 2147483579)):=by
 refine F.okD qf9 (fun es μ Q hq0=>by obtain ⟨p,e,_⟩:=hq0;subst e;rfl) (fun cdv A outer s H E es μ Q hr hq0=>?_)
 obtain ⟨p,e,hp,k⟩:=hq0
 subst e
 have nd:=qf9.nd
 refine ⟨_,(qG (yp (i:=1) nd rfl (by first | exact Or.inl rfl | exact Or.inr rfl) qK)
   (qG (qab PassesOwn.never rfl (Jq rfl T.range_ (qf qK qr)) (qS (i:=2) nd rfl (by first | exact Or.inl rfl | exact Or.inr rfl)) (qQ (yp (i:=1) nd rfl (by first | exact Or.inl rfl | exact Or.inr rfl) (yO Ja (yO y9 (dv 1) (yO JU qK qK)) (yi O_law_draw hX (hr.mono (by decide)) rfl (qf (dv 0) (qf (yO JU qK qK) qr)))))))
   (qQ (qW (yO Ja (yO jN (yO qek (dv 1) (yO jN (yO y9 qK (yO JU qK qK)) qK)) (yO JU qK qK)) qK))))),?_⟩
 refine ⟨by decide,by decide,qkT (fun i ρ' μ'=>μ'=μ/\∃ (z:Int) (v:Option En),ρ'=[some (.m p),some (.d (.int z)),v]/\0<=z/\z<100000000 ^ i) ⟨rfl,0,none,rfl,by decide,by decide⟩ ?_ ?_⟩
 ·rintro i ρ' μ' hi ⟨rfl,z,v,rfl,z0,z1⟩
  have hb:z<10000000000000000000000000000000000000000:=by
   have:i=0\/i=1\/i=2\/i=3:=by have hi:i<4:=hi;omega
   rcases this with rfl | rfl | rfl | rfl <;> simp at z1 <;> omega
  refine ⟨⟨by decide,by decide,by decide⟩,⟨qeL (by omega) (by omega),by rw [e8];exact qeL (by decide) (by decide)⟩,⟨by decide,by decide,by decide⟩,p,_,rfl,hp,by rw [e8];decide,by rw [e8];decide,fun d d0 d1=>Wks.of ⟨rfl,_,_,rfl,?_,?_⟩⟩
  ·rw [e8] at *;omega
  ·rw [e8] at *
   rw [Int.pow_succ]
   generalize (100000000:Int) ^ i=y at z1
   omega
 ·rintro ρ' μ' ⟨rfl,z,v,rfl,z0,z1⟩
  refine ⟨⟨by decide,by decide,by decide⟩,⟨qeL (by decide) (by decide),by rw [e30];exact qeL (by decide) (by decide)⟩,by rw [e30];show (0:Int)<2 * 1000000000000000000000000000000 - 1;decide,⟨by decide,by decide,by decide⟩,k _ ?_⟩
  rw [e30]
  unfold Num
  omega
end
section
variable {P:Program}{w:World}{K:W.Frag}{mg:Str->Option Value}{base:Heap}{CX:CXT}
theorem Num.bd {n:Int}(h:Num n):-1000000000000000000000000000000<n/\n<1000000000000000000000000000000:=h
theorem ZQ:FnScope ["_law_store_here", "_law_way"] ["_law_store_here"] (qt jT):=⟨rfl,rfl,rfl,by decide +kernel,rfl,by decide +kernel,by decide +kernel⟩
theorem qdk {f:Addr}{fd:FuncData}(F:Fun K "_law_number" "_law_number" jT f fd) (hX:NoX CX) (O_law_draw:Own P w K mg base CX 1 "_law_draw" ["_law_store_here", "_law_many"] (qZ K (ZU 2147483579))) (O_law_far:Own P w K mg base CX 2 "_law_far" ["_law_store_here"] (qZ K (qiC 2147483579))):FnOk P w K mg base CX 3 f fd ["_law_store_here"] (qZ K (qiC 2147483579)):=by
 refine F.okD ZQ (fun es μ Q hq0=>by obtain ⟨p,e,_⟩:=hq0;subst e;rfl) (fun cdv A outer s H E es μ Q hr hq0=>?_)
 obtain ⟨p,e,hp,k⟩:=hq0
 subst e
 have nd:=ZQ.nd
 refine ⟨_,(qG (yp (i:=1) nd rfl (by first | exact Or.inl rfl | exact Or.inr rfl) (yi O_law_draw hX (hr.mono (by decide)) rfl (qf (dv 0) (qf qK qr))))
   (qG (jX (yo (YM hr.units) (dv 1) qK (yk _)) (qQ (qW (yi O_law_far hX (hr.mono (by decide)) rfl (qf (dv 0) qr)))) y4)
   (qG (jX (yo (YM hr.units) (dv 1) qK (yk _)) (qQ (qW (jP yy (qaP (qf (yO jN (yO JU qK qK) qK) (qf (yO jN qK (yO JU qK qK)) qr))) (yi O_law_draw hX (hr.mono (by decide)) rfl (qf (dv 0) (qf qK qr))) (fun _ _=>rfl)))) y4)
   (qQ (qW (yO jN (yi O_law_draw hX (hr.mono (by decide)) rfl (qf (dv 0) (qf qK qr))) qK)))))),?_⟩
 refine ⟨p,_,rfl,hp,by decide,by decide,fun d d0 d1=>Jj (fun c=>?_) (fun c=>Jj (fun c=>?_) (fun c=>?_))⟩
 ·exact ⟨p,rfl,hp,fun n hn=>k n hn⟩
 ·refine ⟨⟨by decide,by decide,by decide⟩,⟨by decide,by decide,by decide⟩,zl2,p,_,rfl,hp,by decide,by decide,fun d d0 d1=>?_⟩
  have:d=0\/d=1:=by omega
  rcases this with rfl | rfl
  ·refine ⟨_,rfl,k (10 ^ (30:Int).toNat - 1) ?_⟩
   rw [e30];unfold Num;omega
  ·refine ⟨_,rfl,k (1 - 10 ^ (30:Int).toNat) ?_⟩
   rw [e30];unfold Num;omega
 ·refine ⟨p,_,rfl,hp,by decide,by decide,fun d d0 d1=>k _ ?_⟩
  unfold Num
  omega
def qbc:SpD:=fun es μ Q=>∃ (p:Addr) (ps:List Pt),es=[.m p,.d (.list (ps.map ptD))]/\(p,PC0)∈μ/\ps.length<=100/\(∀ q∈ps,qci q)/\∀ q,qci q->Q (.d (ptD q)) μ
theorem qbL {ps:List Pt}{d:Int}(d0:0<=d) (d1:d<((ps.map ptD).length:Int)):∃ q∈ps,atI (ps.map ptD) d=some (ptD q):=by
 rw [List.length_map] at d1
 have hd:d.toNat<ps.length:=by omega
 refine ⟨ps[d.toNat],qO hd,?_⟩
 have:=JM (xs:=ps.map ptD) (j:=d.toNat) (v:=ptD ps[d.toNat]) (by rw [List.getElem?_map,List.getElem?_eq_getElem hd];rfl)
 rwa [show ((d.toNat:Nat):Int)=d by omega] at this
theorem qgI {ps:List Pt}{j:Nat}(h1:1<=j) (h2:j<=ps.length):∃ q∈ps,atI (ps.map ptD) (-(j:Int))=some (ptD q):=by
 have hd:ps.length - j<ps.length:=by omega
 refine ⟨ps[ps.length - j],qO hd,?_⟩
 have e:ixN (ps.map ptD).length (-(j:Int))=some (ps.length - j):=by
  unfold ixN
  rw [List.length_map,if_neg (by omega),if_pos (by omega)]
  congr 1
  omega
 unfold atI
 rw [e]
 show (ps.map ptD)[ps.length - j]?=_
 rw [List.getElem?_map,List.getElem?_eq_getElem hd]
 rfl
theorem mul2 {a:Int}(h:Num a):qeH 2 a:=by
 obtain ⟨h1,h2⟩:=h
 exact ⟨qeL (by decide) (by decide),qeL (by omega) (by omega)⟩
theorem qbn {ps:List Pt}(c:(!PyData.eqv (.list (ps.map ptD)) (.list []))=true):0<ps.length:=by
 cases ps with
 | nil=>exact absurd c (by decide)
 | cons a b=>simp
theorem qa8:FnScope ["_law_store_here", "_law_some", "_law_way", "_law_x", "_law_y"] ["_law_store_here", "_law_some"] (qt jf):=⟨rfl,rfl,rfl,by decide +kernel,rfl,by decide +kernel,by decide +kernel⟩
theorem qfl {f:Addr}{fd:FuncData}(F:Fun K "_law_point" "_law_point" jf f fd) (T:Txt mg) (hX:NoX CX) (O_law_draw:Own P w K mg base CX 1 "_law_draw" ["_law_store_here", "_law_many"] (qZ K (ZU 2147483579))) (O_law_number:Own P w K mg base CX 3 "_law_number" ["_law_store_here"] (qZ K (qiC 2147483579))):FnOk P w K mg base CX 4 f fd ["_law_store_here", "_law_some"] (qZ K qbc):=by
 refine F.okD qa8 (fun es μ Q hq0=>by obtain ⟨p,ps,e,_⟩:=hq0;subst e;rfl) (fun cdv A outer s H E es μ Q hr hq0=>?_)
 obtain ⟨p,ps,e,hp,hl,hb,k⟩:=hq0
 subst e
 have nd:=qa8.nd
 have hz:((ps.map ptD).length:Int)<=100000000:=by rw [List.length_map];omega
 have key:∃ t,DSs K (qeK CX P w K mg base ["_law_store_here", "_law_some", "_law_way", "_law_x", "_law_y"] "_law_point" (qt jf) f cdv A outer s H E).nox ((yK jf).drop 4) t ∧
   ∀ (v1 v2 v3:Option En),t { nx:=fun _ μ'=>Q (.d .none) μ',rt:=Q } [some (.m p),some (.d (.list (ps.map ptD))),v1,v2,v3] μ:=by
  refine ⟨_,(qQ (qW (YF (qf (yi O_law_number hX (hr.mono (by decide)) rfl (qf (dv 0) qr)) (qf (yi O_law_number hX (hr.mono (by decide)) rfl (qf (dv 0) qr)) qr))))),fun v1 v2 v3=>?_⟩
  exact ⟨p,rfl,hp,fun a ha=>⟨p,rfl,hp,fun b hb=>⟨zl2,k (a,b) ⟨ha,hb⟩⟩⟩⟩
 obtain ⟨t,ht,hk⟩:=key
 refine ⟨_,(qG (yp (i:=2) nd rfl (by first | exact Or.inl rfl | exact Or.inr rfl) (yi O_law_draw hX (hr.mono (by decide)) rfl (qf (dv 0) (qf qK qr))))
   (qG (jX (qib (Z8 (yo (YM hr.units) (dv 2) qK (yk _)) (YC (yo (ZA hr.units) (dv 1) (qaP qr) (yk _))))) (qQ (qW (jP yy (dv 1) (yi O_law_draw hX (hr.mono (by decide)) rfl (qf (dv 0) (qf (yB Y6 (by rfl) T.len_ Y7 (qf (dv 1) qr)) qr))) (fun _ _=>rfl)))) y4)
   (qG (jX (qib (Z8 (yo (YM hr.units) (dv 2) qK (yk _)) (YC (yo (ZA hr.units) (dv 1) (qaP qr) (yk _))))) (qG (j9 (jP yy (dv 1) (yi O_law_draw hX (hr.mono (by decide)) rfl (qf (dv 0) (qf (yB Y6 (by rfl) T.len_ Y7 (qf (dv 1) qr)) qr))) (fun _ _=>rfl)) (jY (n:=2) rfl (qV (qS (i:=3) nd rfl (by first | exact Or.inl rfl | exact Or.inr rfl)) (qV (qS (i:=4) nd rfl (by first | exact Or.inl rfl | exact Or.inr rfl)) jk))))
   (qQ (qW (jP yy (qaP (qf (YF (qf (dv 3) (qf (yi O_law_number hX (hr.mono (by decide)) rfl (qf (dv 0) qr)) qr))) (qf (YF (qf (yi O_law_number hX (hr.mono (by decide)) rfl (qf (dv 0) qr)) (qf (dv 4) qr))) qr))) (yi O_law_draw hX (hr.mono (by decide)) rfl (qf (dv 0) (qf qK qr))) (fun _ _=>rfl))))) y4)
   (qG (jX (qib (Z8 (yo (YM hr.units) (dv 2) qK (yk _)) (YC (yo qfH (yB Y6 (by rfl) T.len_ Y7 (qf (dv 1) qr)) qK (yk _))))) (qG (qgx (i:=3) (j:=4) rfl nd rfl rfl (by decide) rfl rfl (qf (yO jN (yO y9 qK (jP yy (jP yy (dv 1) (qgB JT qK) (fun _ _=>rfl)) qK (fun _ _=>rfl))) (jP yy (jP yy (dv 1) (qgB JT qK) (fun _ _=>rfl)) qK (fun _ _=>rfl))) (qf (yO jN (yO y9 qK (jP yy (jP yy (dv 1) (qgB JT qK) (fun _ _=>rfl)) qK (fun _ _=>rfl))) (jP yy (jP yy (dv 1) (qgB JT qK) (fun _ _=>rfl)) qK (fun _ _=>rfl))) qr)) rfl)
   (qQ (jX (yo qel (yB (qeo rfl) (by rfl) T.max_ qbJ (qf (yB qbC (by rfl) T.abs_ qbK (qf (dv 3) qr)) (qf (yB qbC (by rfl) T.abs_ qbK (qf (dv 4) qr)) qr))) (yO JU qK qK) (yk _)) (qQ (qW (YF (qf (dv 3) (qf (dv 4) qr))))) y4))) y4)
   ht)))),?_⟩
 refine ⟨p,7,rfl,hp,by decide,by decide,fun wy w0 w1=>?_⟩
 refine Jj (fun c=>?_) (fun c=>?_)
 ·refine ⟨zl0,_,_,.d _,.d _,YS ps,rfl,Jj (fun c2=>?_) (fun c2=>?_)⟩
  ·have hne:=qbn c2
   refine ⟨_,.l (.d _),p,_,rfl,hp,(by show (0:Int)<((ps.map ptD).length:Int);rw [List.length_map];omega),hz,fun d d0 d1=>?_⟩
   obtain ⟨q,hq,e⟩:=qbL d0 d1
   exact ⟨_,e,k q (hb q hq)⟩
  ·have c:wy=0:=qy c
   subst c
   exact hk _ _ _
 ·refine qaI (Jj (fun c2=>?_) (fun c2=>qaI ?_))
  ·have c2:wy=1:=qy c2
   refine ⟨zl0,_,_,.d _,.d _,YS ps,rfl,Jj (fun c3=>?_) (fun c3=>?_)⟩
   ·have hne:=qbn c3
    refine ⟨_,.l (.d _),p,_,rfl,hp,(by show (0:Int)<((ps.map ptD).length:Int);rw [List.length_map];omega),hz,fun d d0 d1=>?_⟩
    obtain ⟨q,hq,e⟩:=qbL d0 d1
    have hq:=hb q hq
    refine ⟨_,e,rfl,p,rfl,hp,fun a ha=>⟨zl2,p,rfl,hp,fun b hb=>⟨zl2,zl2,p,_,rfl,hp,by decide,by decide,fun d d0 d1=>?_⟩⟩⟩
    have:d=0\/d=1:=by omega
    rcases this with rfl | rfl
    ·exact ⟨_,rfl,k (q.1,a) ⟨hq.1,ha⟩⟩
    ·exact ⟨_,rfl,k (b,q.2) ⟨hb,hq.2⟩⟩
   ·subst c2
    exact hk _ _ _
  ·refine Jj (fun c3=>?_) (fun c3=>qaI (hk _ _ _))
   refine ⟨_,.l (.d _),Jj (fun c4=>?_) (fun c4=>hk _ _ _)⟩
   have c4:(1:Int)<((ps.map ptD).length:Int):=qy c4
   rw [List.length_map] at c4
   obtain ⟨q1,hq1,e1⟩:=qgI (ps:=ps) (j:=1) (by omega) (by omega)
   obtain ⟨q2,hq2,e2⟩:=qgI (ps:=ps) (j:=2) (by omega) (by omega)
   have b1:=hb q1 hq1
   have b2:=hb q2 hq2
   refine ⟨_,e1,_,rfl,mul2 b1.1,_,e2,_,rfl,_,e1,_,rfl,mul2 b1.2,_,e2,_,rfl,?_⟩
   refine ⟨⟨by decide,by decide,by decide⟩,Jj (fun c5=>?_) (fun c5=>hk _ _ _)⟩
   have c5:(if ((2 * q1.1 - q2.1).natAbs:Int)<((2 * q1.2 - q2.2).natAbs:Int) then ((2 * q1.2 - q2.2).natAbs:Int) else ((2 * q1.1 - q2.1).natAbs:Int))<10 ^ (30:Int).toNat:=qy c5
   rw [e30] at c5
   refine ⟨zl2,k (2 * q1.1 - q2.1,2 * q1.2 - q2.2) ⟨?_,?_⟩⟩
   ·unfold Num;dsimp only;split at c5 <;> omega
   ·unfold Num;dsimp only;split at c5 <;> omega
def qhh:SpD:=fun es μ Q=>∃ (p:Addr) (ks:List Pt),es=[.m p,.d (.list (ks.map ptD))]/\(p,PC0)∈μ/\ks.length<=40/\(∀ q∈ks,qci q)/\∀ ps:List Pt,ps.length<=9->(∀ q∈ps,qci q)->∀ l,l∉μ.map Prod.fst->Q (.m l) ((l,.lst (ps.map ptD))::μ)
theorem qcP:FnScope ["_law_store_here", "_law_known", "_law_heap_here", "_law_k"] ["_law_store_here", "_law_known"] (qt Jv):=⟨rfl,rfl,rfl,by decide +kernel,rfl,by decide +kernel,by decide +kernel⟩
theorem qhI {f:Addr}{fd:FuncData}(F:Fun K "_law_heap" "_law_heap" Jv f fd) (T:Txt mg) (hX:NoX CX) (O_law_draw:Own P w K mg base CX 1 "_law_draw" ["_law_store_here", "_law_many"] (qZ K (ZU 2147483579))) (O_law_point:Own P w K mg base CX 4 "_law_point" ["_law_store_here", "_law_some"] (qZ K qbc)):FnOk P w K mg base CX 5 f fd ["_law_store_here", "_law_known"] (qZ K qhh):=by
 refine F.okD qcP (fun es μ Q hq0=>by obtain ⟨p,ks,e,_⟩:=hq0;subst e;rfl) (fun cdv A outer s H E es μ Q hr hq0=>?_)
 obtain ⟨p,ks,e,hp,hl,hb,k⟩:=hq0
 subst e
 have nd:=qcP.nd
 refine ⟨_,(qG (yp (i:=2) nd rfl (by first | exact Or.inl rfl | exact Or.inr rfl) (qer qr))
   (qG (qab PassesOwn.never rfl (Jq rfl T.range_ (qf (yi O_law_draw hX (hr.mono (by decide)) rfl (qf (dv 0) (qf qK qr))) qr)) (qS (i:=3) nd rfl (by first | exact Or.inl rfl | exact Or.inr rfl)) (qQ (qid (qfJ (dv 2) (qf (yi O_law_point hX (hr.mono (by decide)) rfl (qf (dv 0) (qf (yO JV (dv 1) (dv 2)) qr))) qr) (h:=qb0 PySem.F.plainAttrs_list PySem.F.slot_list_append PySem.F.type_list_append qdx (dv 2) (qf (yi O_law_point hX (hr.mono (by decide)) rfl (qf (dv 0) (qf (yO JV (dv 1) (dv 2)) qr))) qr))))))
   (qQ (qW (dv 2))))),?_⟩
 refine ⟨zl0,fun l hl'=>?_⟩
 have hp1:∀ o,(p,PC0)∈(l,o)::μ:=fun o=>qe _ hp
 refine ⟨p,_,rfl,hp1 _,by decide,by decide,fun n n0 n1=>⟨by omega,by omega,?_⟩⟩
 refine qkT (fun i ρ' μ'=>∃ ps:List Pt,μ'=(l,.lst (ps.map ptD))::μ/\ps.length=i/\(∀ q∈ps,qci q)/\∃ v1,ρ'=[some (.m p),some (.d (.list (ks.map ptD))),some (.m l),v1])
  ⟨[],rfl,rfl,fun _ h=>(nomatch h),_,rfl⟩ ?_ ?_
 ·rintro i ρ' μ' hi ⟨ps,rfl,hlen,hps,v1,rfl⟩
  have hi:i<n.toNat:=hi
  refine ⟨⟨_,qg⟩,_,_,.d _,.m qg,?_,p,ks++ps,?_,hp1 _,?_,fun q hq=>?_,fun q hq=>⟨[],_,_,rfl,?_,?_⟩⟩
  ·rw [List.length_map,List.length_map];omega
  ·rw [List.map_append]
  ·rw [List.length_append];omega
  ·rcases List.mem_append.mp hq with z | z
   ·exact hb q z
   ·exact hps q z
  ·rw [List.length_map];omega
  ·refine Wks.of ⟨ps++[q],by rw [List.map_append];rfl,by simp;omega,fun z hz=>?_,_,rfl⟩
   rcases List.mem_append.mp hz with h | h
   ·exact hps z h
   ·rw [qA.mp h];exact hq
 ·rintro ρ' μ' ⟨ps,rfl,hlen,hps,v1,rfl⟩
  have hlen:ps.length=n.toNat:=hlen
  exact k ps (by omega) hps l hl'
def sGcd:SpD:=fun es μ Q=>∃ a b:Int,es=[.d (.int a),.d (.int b)]/\Q (.d (.int (Int.gcd a b:Nat))) μ
def qhe:SpD:=fun es μ Q=>∃ a b:Int,es=[.d (.int a),.d (.int b)]/\(a≠0\/b≠0)/\a.natAbs<=10000000000000000000000000000000000000000/\b.natAbs<=10000000000000000000000000000000000000000/\Q (.d (ptD (nrm a b))) μ
def nOf (p q:Pt):Pt:=nrm (q.2 - p.2) (p.1 - q.1)
def thr (p q:Pt):List Int:=[(nOf p q).1,(nOf p q).2,(nOf p q).1 * p.1+(nOf p q).2 * p.2]
abbrev B40:Nat:=10000000000000000000000000000000000000000
def sThr:SpD:=fun es μ Q=>∃ p q:Pt,es=[.d (ptD p),.d (ptD q)]/\Bd 1000000000000000000000000000000 p/\Bd 1000000000000000000000000000000 q/\p≠q/\Q (.d (jO (thr p q))) μ
theorem qgy {p q:Pt}(h:p≠q):q.2 - p.2≠0\/p.1 - q.1≠0:=by
 by_cases z:q.2 - p.2=0
 ·refine .inr fun z2=>h ?_
  have e1:p.1=q.1:=by omega
  have e2:p.2=q.2:=by omega
  exact Prod.ext e1 e2
 ·exact .inl z
theorem Zk {a b:Int}(ha:a.natAbs<=1000000000000000000000000000000) (hb:b.natAbs<=1000000000000000000000000000000):(a - b).natAbs<=2000000000000000000000000000000:=by omega
theorem qdq {a:Int}(ha:a.natAbs<=1000000000000000000000000000000):a.natAbs<=1000000000000000000000000000000:=ha
theorem qjM {p q:Pt}(hp:Bd 1000000000000000000000000000000 p) (hq:Bd 1000000000000000000000000000000 q) (h:p≠q):Bd 2000000000000000000000000000000 (nOf p q):=qgj (qgy h) (Zk hq.2 hp.2) (Zk hp.1 hq.1)
theorem b40:B40<2 ^ 1000:=by decide +kernel
theorem ZX {a b:Int}(ha:a.natAbs<=B40) (hb:b.natAbs<=B40):qeH a b:=⟨yW ha b40,yW hb b40⟩
theorem qgv {p q:Pt}:PyData.eqv (ptD p) (ptD q)=decide (p=q):=by
 obtain ⟨a,b⟩:=p
 obtain ⟨c,d⟩:=q
 simp only [ptD,PyData.eqv,PyData.eqvAll,Prod.mk.injEq]
 by_cases h1:a=c <;> by_cases h2:b=d <;> simp [h1,h2]
theorem qi3:FnScope ["one", "other", "divisor", "rest"] ["one", "other"] (qt je):=⟨rfl,rfl,rfl,by decide +kernel,rfl,by decide +kernel,by decide +kernel⟩
theorem ok_cd {f:Addr}{fd:FuncData}(F:Fun K "common_divisor" "common_divisor" je f fd) (T:Txt mg):FnOk P w K mg base CX 1 f fd ["one", "other"] (qZ K sGcd):=by
 refine F.okD qi3 (fun es μ Q hq0=>by obtain ⟨a,b,e,_⟩:=hq0;subst e;rfl) (fun cdv A outer s H E es μ Q hr hq0=>?_)
 obtain ⟨a,b,e,k⟩:=hq0
 subst e
 have nd:=qi3.nd
 refine ⟨_,(qG (yp (i:=2) nd rfl (by first | exact Or.inl rfl | exact Or.inr rfl) (yB qbC (by rfl) T.abs_ qbK (qf (dv 0) qr)))
   (qG (yp (i:=3) nd rfl (by first | exact Or.inl rfl | exact Or.inr rfl) (yB qbC (by rfl) T.abs_ qbK (qf (dv 1) qr)))
   (qG (qfG PassesOwn.never (yo (ZA hr.units) (dv 3) qK (yk _)) (qQ (qgx (i:=2) (j:=3) rfl nd rfl rfl (by decide) rfl rfl (qf (dv 3) (qf (yO qek (dv 2) (dv 3)) qr)) rfl)))
   (qQ (qW (dv 2)))))),?_⟩
 refine ⟨fun m ρ' μ'=>μ'=μ/\∃ f r:Nat,ρ'=[some (.d (.int a)),some (.d (.int b)),some (.d (.int f)),some (.d (.int r))]/\m=r/\Nat.gcd f r=Int.gcd a b,⟨_,rfl,_,_,rfl,rfl,rfl⟩,?_⟩
 rintro m ρ' μ' ⟨rfl,f,r,rfl,rfl,g⟩
 refine Jj (fun c=>?_) (fun c=>?_)
 ·have hm:m≠0:=by
   rintro rfl
   exact absurd c (by decide)
  refine ⟨(show (0:Int)<(m:Int) by omega),f % m,Nat.mod_lt _ (by omega),Wks.of ⟨rfl,m,f % m,?_,rfl,by rw [qfC];exact g⟩⟩
  rw [Int.natCast_emod];rfl
 ·have:m=0:=by
   by_cases z:m=0
   ·exact z
   ·exact absurd (show (!decide ((m:Int)=0))=true by simp;omega) c
  subst this
  rw [Nat.gcd_zero_right] at g
  subst g
  exact k
theorem qcM:FnScope ["a", "b", "divisor"] ["a", "b"] (qt qg6):=⟨rfl,rfl,rfl,by decide +kernel,rfl,by decide +kernel,by decide +kernel⟩
theorem qhF {f:Addr}{fd:FuncData}(F:Fun K "lead" "lead" qg6 f fd) (hX:NoX CX) (Ocommon_divisor:Own P w K mg base CX 1 "common_divisor" ["one", "other"] (qZ K sGcd)):FnOk P w K mg base CX 2 f fd ["a", "b"] (qZ K qhe):=by
 refine F.okD qcM (fun es μ Q hq0=>by obtain ⟨a,b,e,_⟩:=hq0;subst e;rfl) (fun cdv A outer s H E es μ Q hr hq0=>?_)
 obtain ⟨a,b,e,h0,ha,hb,k⟩:=hq0
 subst e
 have nd:=qcM.nd
 have d0:=YD h0
 have dB:(dvs a b).natAbs<=B40:=by rw [qeh];exact qd3 h0 ha hb
 have dC:∀ z,qfX z (dvs a b):=fun z=>qbx b40 d0 dB
 refine ⟨_,(qG (yp (i:=2) nd rfl (by first | exact Or.inl rfl | exact Or.inr rfl) (yi Ocommon_divisor hX (hr.mono (by decide)) rfl (qf (dv 0) (qf (dv 1) qr))))
   (qG (jX (qib (qkb (yo qel (dv 0) qK (yk _)) (qgw (qib (Z8 (yo (YM hr.units) (dv 0) qK (yk _)) (YC (yo qel (dv 1) qK (yk _)))))))) (qQ (yp (i:=2) nd rfl (by first | exact Or.inl rfl | exact Or.inr rfl) (qgB JT (dv 2)))) y4)
   (qQ (qW (YF (qf (yO qaO (dv 0) (dv 2)) (qf (yO qaO (dv 1) (dv 2)) qr))))))),?_⟩
 refine ⟨a,b,rfl,?_⟩
 refine Jj (fun c=>?_) (fun c=>?_)
 ·have c:a<0:=qy c
  refine qbs ?_
  have e:-(Int.gcd a b:Int)=dvs a b:=by unfold dvs;rw [if_pos (.inl c)]
  exact ⟨by rw [e];exact dC _,by rw [e];exact dC _,zl2,by rw [e];exact k⟩
 ·have c:¬ a<0:=fun z=>c (qB z)
  refine Jj (fun c2=>?_) (fun c2=>?_)
  ·have c2:a=0:=qy c2
   refine Jj (fun c3=>?_) (fun c3=>?_)
   ·have c3:b<0:=qy c3
    have e:-(Int.gcd a b:Int)=dvs a b:=by unfold dvs;rw [if_pos (.inr ⟨c2,c3⟩)]
    exact ⟨by rw [e];exact dC _,by rw [e];exact dC _,zl2,by rw [e];exact k⟩
   ·have c3:¬ b<0:=fun z=>c3 (qB z)
    have e:(Int.gcd a b:Int)=dvs a b:=by unfold dvs;rw [if_neg (by omega)]
    exact ⟨by rw [e];exact dC _,by rw [e];exact dC _,zl2,by rw [e];exact k⟩
  ·have c2:¬ a=0:=fun z=>c2 (qB z)
   have e:(Int.gcd a b:Int)=dvs a b:=by unfold dvs;rw [if_neg (by omega)]
   refine qaI ?_
   exact ⟨by rw [e];exact dC _,by rw [e];exact dC _,zl2,by rw [e];exact k⟩
theorem YT:FnScope ["one", "other", "x", "y", "a", "b"] ["one", "other"] (qt Y9):=⟨rfl,rfl,rfl,by decide +kernel,rfl,by decide +kernel,by decide +kernel⟩
theorem qb1 {f:Addr}{fd:FuncData}(F:Fun K "through" "through" Y9 f fd) (hX:NoX CX) (Olead:Own P w K mg base CX 2 "lead" ["a", "b"] (qZ K qhe)):FnOk P w K mg base CX 3 f fd ["one", "other"] (qZ K sThr):=by
 refine F.okD YT (fun es μ Q hq0=>by obtain ⟨p,q,e,_⟩:=hq0;subst e;rfl) (fun cdv A outer s H E es μ Q hr hq0=>?_)
 obtain ⟨p,q,e,hp,hq,h0,k⟩:=hq0
 subst e
 have nd:=YT.nd
 refine ⟨_,(qG (jX (yo (YM hr.units) (dv 0) (dv 1) (yk _)) (qQ qbA) y4)
   (qG (j9 (dv 0) (jY (n:=2) rfl (qV (qS (i:=2) nd rfl (by first | exact Or.inl rfl | exact Or.inr rfl)) (qV (qS (i:=3) nd rfl (by first | exact Or.inl rfl | exact Or.inr rfl)) jk))))
   (qG (j9 (yi Olead hX (hr.mono (by decide)) rfl (qf (yO jN (jP yy (dv 1) qK (fun _ _=>rfl)) (dv 3)) (qf (yO jN (dv 2) (jP yy (dv 1) qK (fun _ _=>rfl))) qr))) (jY (n:=2) rfl (qV (qS (i:=4) nd rfl (by first | exact Or.inl rfl | exact Or.inr rfl)) (qV (qS (i:=5) nd rfl (by first | exact Or.inl rfl | exact Or.inr rfl)) jk))))
   (qQ (qW (YF (qf (dv 4) (qf (dv 5) (qf (yO Ja (yO y9 (dv 4) (dv 2)) (yO y9 (dv 5) (dv 3))) qr))))))))),?_⟩
 have hb:=qjM hp hq h0
 have h1:=Zk hq.2 hp.2
 have h2:=Zk hp.1 hq.1
 have h3:=qdq hp.1
 have h4:=qdq hp.2
 refine ⟨_,_,.d _,.d _,ZO p,ZO q,Jj (fun c=>?_) (fun c=>?_)⟩
 ·have c:PyData.eqv (ptD p) (ptD q)=true:=c
  rw [qgv] at c
  exact absurd (qy c) h0
 refine ⟨rfl,_,rfl,_,rfl,_,_,rfl,qgy h0,?_,?_,rfl,?_⟩
 ·exact qu h1 (by decide)
 ·exact qu h2 (by decide)
 ·refine ⟨ZX (qu hb.1 (by decide)) (qu h3 (by decide)),ZX (qu hb.2 (by decide)) (qu h4 (by decide)),zl3,k⟩
end
section
variable {P:Program}{w:World}{K:W.Frag}{mg:Str->Option Value}{base:Heap}{CX:CXT}
abbrev B30:Nat:=1000000000000000000000000000000
def hpD (ps:List Pt):PyData:=.list (ps.map ptD)
def Bds (ps:List Pt):Prop:=∀ q∈ps,Bd B30 q
def qhc:SpD:=fun es μ Q=>∃ n:Int,es=[.d (.int n)]/\Q (.d (.int n.sign)) μ
theorem qcJ:FnScope ["number"] ["number"] (qt qg4):=⟨rfl,rfl,rfl,by decide +kernel,rfl,by decide +kernel,by decide +kernel⟩
theorem qhC {f:Addr}{fd:FuncData}(F:Fun K "sign" "sign" qg4 f fd)  : FnOk P w K mg base CX 1 f fd ["number"] (qZ K qhc):=by
 refine F.okD qcJ (fun es μ Q hq0=>by obtain ⟨a,e,_⟩:=hq0;subst e;rfl) (fun cdv A outer s H E es μ Q hr hq0=>?_)
 obtain ⟨a,e,k⟩:=hq0
 subst e
 have nd:=qcJ.nd
 refine ⟨_,(qG (jX (yo qfH (dv 0) qK (yk _)) (qQ (qW qK)) y4)
   (qG (jX (yo qel (dv 0) qK (yk _)) (qQ (qW (qgB JT qK))) y4)
   (qQ (qW qK)))),?_⟩
 refine Jj (fun c=>?_) (fun c=>Jj (fun c2=>?_) (fun c2=>?_))
 ·have c:0<a:=qy c
  rw [Int.sign_eq_one_of_pos c] at k;exact k
 ·have c2:a<0:=qy c2
  rw [Int.sign_eq_neg_one_of_neg c2] at k;exact k
 ·have c:¬ 0<a:=fun z=>c (qB z)
  have c2:¬ a<0:=fun z=>c2 (qB z)
  have:a=0:=by omega
  subst this;exact k
def qhd:SpD:=fun es μ Q=>∃ (a b c:Int) (q:Pt),es=[.d (jO [a,b,c]),.d (ptD q)]/\a.natAbs<=B40/\b.natAbs<=B40/\Bd B30 q/\Q (.d (.int (a * q.1+b * q.2 - c).sign)) μ
theorem qcK:FnScope ["line", "point", "a", "b", "c", "x", "y"] ["line", "point"] (qt qg5):=⟨rfl,rfl,rfl,by decide +kernel,rfl,by decide +kernel,by decide +kernel⟩
theorem qhD {f:Addr}{fd:FuncData}(F:Fun K "side" "side" qg5 f fd) (hX:NoX CX) (Osign:Own P w K mg base CX 1 "sign" ["number"] (qZ K qhc)):FnOk P w K mg base CX 2 f fd ["line", "point"] (qZ K qhd):=by
 refine F.okD qcK (fun es μ Q hq0=>by obtain ⟨a,b,c,q,e,_⟩:=hq0;subst e;rfl) (fun cdv A outer s H E es μ Q hr hq0=>?_)
 obtain ⟨a,b,c,q,e,ha,hb,hq,k⟩:=hq0
 subst e
 have nd:=qcK.nd
 refine ⟨_,(qG (j9 (dv 0) (jY (n:=3) rfl (qV (qS (i:=2) nd rfl (by first | exact Or.inl rfl | exact Or.inr rfl)) (qV (qS (i:=3) nd rfl (by first | exact Or.inl rfl | exact Or.inr rfl)) (qV (qS (i:=4) nd rfl (by first | exact Or.inl rfl | exact Or.inr rfl)) jk)))))
   (qG (j9 (dv 1) (jY (n:=2) rfl (qV (qS (i:=5) nd rfl (by first | exact Or.inl rfl | exact Or.inr rfl)) (qV (qS (i:=6) nd rfl (by first | exact Or.inl rfl | exact Or.inr rfl)) jk))))
   (qQ (qW (yi Osign hX (hr.mono (by decide)) rfl (qf (yO jN (yO Ja (yO y9 (dv 2) (dv 5)) (yO y9 (dv 3) (dv 6))) (dv 4)) qr)))))),?_⟩
 exact ⟨rfl,rfl,ZX ha (qu hq.1 (by decide)),ZX hb (qu hq.2 (by decide)),_,rfl,k⟩
def sSC:SpD:=fun es μ Q=>∃ ns:List Int,es=[.d (.list (ns.map .int))]/\Q (.d (.tuple [.int (ns.count (-1):Nat),.int (ns.count 0:Nat),.int (ns.count 1:Nat)])) μ
theorem qf6:FnScope ["signs"] ["signs"] (qt jR):=⟨rfl,rfl,rfl,by decide +kernel,rfl,by decide +kernel,by decide +kernel⟩
theorem qjE {f:Addr}{fd:FuncData}(F:Fun K "sign_counts" "sign_counts" jR f fd)  : FnOk P w K mg base CX 1 f fd ["signs"] (qZ K sSC):=by
 refine F.okD qf6 (fun es μ Q hq0=>by obtain ⟨ns,e,_⟩:=hq0;subst e;rfl) (fun cdv A outer s H E es μ Q hr hq0=>?_)
 obtain ⟨ns,e,k⟩:=hq0
 subst e
 have nd:=qf6.nd
 refine ⟨_,(qQ (qW (YF (qf (qaQ (dv 0) (qf (qgB JT qK) qr) (h:=qb0 PySem.F.plainAttrs_list PySem.F.slot_list_count PySem.F.type_list_count Zm (dv 0) (qf (qgB JT qK) qr))) (qf (qaQ (dv 0) (qf qK qr) (h:=qb0 PySem.F.plainAttrs_list PySem.F.slot_list_count PySem.F.type_list_count Zm (dv 0) (qf qK qr))) (qf (qaQ (dv 0) (qf qK qr) (h:=qb0 PySem.F.plainAttrs_list PySem.F.slot_list_count PySem.F.type_list_count Zm (dv 0) (qf qK qr))) qr)))))),?_⟩
 exact ⟨ns,.d _,.d _,ns,.d _,.d _,ns,.d _,.d _,zl3,k⟩
def sEv:SpD:=fun es μ Q=>∃ a b c:Nat,es=[.d (.tuple [.int a,.int b,.int c])]/\a<=4000/\c<=4000/\Q (.d (.bool (decide (2 * a<=a+b+c) && decide (2 * c<=a+b+c)))) μ
theorem qi2:FnScope ["shares", "below", "on", "above", "many"] ["shares"] (qt jy):=⟨rfl,rfl,rfl,by decide +kernel,rfl,by decide +kernel,by decide +kernel⟩
theorem ok_ev {f:Addr}{fd:FuncData}(F:Fun K "is_even_share" "is_even_share" jy f fd)  : FnOk P w K mg base CX 1 f fd ["shares"] (qZ K sEv):=by
 refine F.okD qi2 (fun es μ Q hq0=>by obtain ⟨a,b,c,e,_⟩:=hq0;subst e;rfl) (fun cdv A outer s0 H E es μ Q hr hq0=>?_)
 obtain ⟨a,b,c,e,ha,hc,k⟩:=hq0
 subst e
 have nd:=qi2.nd
 refine ⟨_,(qG (j9 (dv 0) (jY (n:=3) rfl (qV (qS (i:=1) nd rfl (by first | exact Or.inl rfl | exact Or.inr rfl)) (qV (qS (i:=2) nd rfl (by first | exact Or.inl rfl | exact Or.inr rfl)) (qV (qS (i:=3) nd rfl (by first | exact Or.inl rfl | exact Or.inr rfl)) jk)))))
   (qG (yp (i:=4) nd rfl (by first | exact Or.inl rfl | exact Or.inr rfl) (yO Ja (yO Ja (dv 1) (dv 2)) (dv 3)))
   (qQ (qW (d_and (qaR qkd (yO y9 qK (dv 1)) (dv 4) (yk _)) (qki (qaR qkd (yO y9 qK (dv 3)) (dv 4) (yk _)))))))),?_⟩
 have m2:∀ z:Nat,z<=4000->qeH 2 (z:Int):=fun z hz=>ZX (by decide) (qu (show ((z:Nat):Int).natAbs<=4000 by omega) (by decide))
 have e1:decide (2 * (a:Int)<=a+b+c)=decide (2 * a<=a+b+c):=by rw [decide_eq_decide];omega
 have e2:decide (2 * (c:Int)<=a+b+c)=decide (2 * c<=a+b+c):=by rw [decide_eq_decide];omega
 rw [<- e1,<- e2] at k
 refine ⟨rfl,m2 a ha,Jj (fun z=>?_) (fun z=>?_)⟩
 ·have z:decide (2 * (a:Int)<=a+b+c)=true:=z
  rw [z,Bool.true_and] at k
  exact ⟨m2 c hc,k⟩
 ·have z:¬ decide (2 * (a:Int)<=a+b+c)=true:=z
  rw [Bool.eq_false_iff.mpr z,Bool.false_and] at k
  exact k
def sgs (c:Int) (vs:List Int):List Int:=vs.map fun v=>(v - c).sign
theorem qcG (c:Int):∀ vs:List Int,(sgs c vs).count (-1)=cLt c vs/\(sgs c vs).count 1=cGt c vs/\(sgs c vs).count (-1)+(sgs c vs).count 0+(sgs c vs).count 1=vs.length
 | []=>⟨rfl,rfl,rfl⟩
 | v::vs=>by
  obtain ⟨h1,h2,h3⟩:=qcG c vs
  unfold sgs cLt cGt at *
  simp only [List.map_cons,List.count_cons,List.countP_cons,List.length_cons]
  rcases Int.lt_trichotomy (v - c) 0 with h | h | h
  ·rw [Int.sign_eq_neg_one_of_neg h]
   have a1:v<c:=by omega
   have a2:¬ c<v:=by omega
   simp [a1,a2];omega
  ·rw [h]
   have a1:¬ v<c:=by omega
   have a2:¬ c<v:=by omega
   simp [a1,a2];omega
  ·rw [Int.sign_eq_one_of_pos h]
   have a1:¬ v<c:=by omega
   have a2:c<v:=by omega
   simp [a1,a2];omega
def sCnt:SpD:=fun es μ Q=>∃ (a b c:Int) (ps:List Pt),es=[.d (jO [a,b,c]),.d (hpD ps)]/\a.natAbs<=B40/\b.natAbs<=B40/\Bds ps/\ps.length<=4000/\Q (.d (.tuple [.int ((sgs c (vls (a,b) ps)).count (-1):Nat),.int ((sgs c (vls (a,b) ps)).count 0:Nat),.int ((sgs c (vls (a,b) ps)).count 1:Nat)])) μ
theorem ZT:FnScope ["line", "heap"] ["line", "heap"] (qt Zf):=⟨rfl,rfl,rfl,by decide +kernel,rfl,by decide +kernel,by decide +kernel⟩
theorem qdn {f:Addr}{fd:FuncData}(F:Fun K "counts" "counts" Zf f fd) (hX:NoX CX) (Osign_counts:Own P w K mg base CX 1 "sign_counts" ["signs"] (qZ K sSC)) (Oside:Own P w K mg base CX 2 "side" ["line", "point"] (qZ K qhd)):FnOk P w K mg base CX 3 f fd ["line", "heap"] (qZ K sCnt):=by
 refine F.okD ZT (fun es μ Q hq0=>by obtain ⟨a,b,c,ps,e,_⟩:=hq0;subst e;rfl) (fun cdv A outer s H E es μ Q hr hq0=>?_)
 obtain ⟨a,b,c,ps,e,ha,hb,hp,hl,k⟩:=hq0
 subst e
 have nd:=ZT.nd
 refine ⟨_,(qQ (qW (yi Osign_counts hX (hr.mono (by decide)) rfl (qf (Jr (L:=["point"]) (sc:=qt Zf) (N:=["line", "heap"]) rfl rfl rfl (by decide +kernel) (y8 (dv 1)) (fun _ _ _ _ _=>(qS (i:=2) (show List.Nodup (["line", "heap", "point"]:List Str) from by decide +kernel) rfl (by first | exact Or.inl rfl | exact Or.inr rfl))) (fun _ _ _ _ _=>JE) (fun _ _ _ _ _=>(yi Oside hX (hr.mono (by decide)) rfl (qf (dv 0) (qf (dv 2) qr))))) qr)))),?_⟩
 refine ⟨_,.d _,(show (ps.map ptD).length<=4000 by rw [List.length_map];exact hl),qgF (as:=ps) (h:=ptD) (fun q=>.int (a * q.1+b * q.2 - c).sign) (Src.l (.d _)) (fun q hq R h=>⟨a,b,c,q,rfl,ha,hb,hp q hq,h⟩) ?_⟩
 refine ⟨sgs c (vls (a,b) ps),?_,k⟩
 unfold sgs vls
 rw [List.map_map,List.map_map];rfl
def qax:SpD:=fun es μ Q=>∃ (a b c:Int) (ps:List Pt),es=[.d (jO [a,b,c]),.d (hpD ps)]/\a.natAbs<=B40/\b.natAbs<=B40/\Bds ps/\ps.length<=4000/\Q (.d (.bool (qaL c (vls (a,b) ps)))) μ
theorem ZS:FnScope ["line", "heap"] ["line", "heap"] (qt qav):=⟨rfl,rfl,rfl,by decide +kernel,rfl,by decide +kernel,by decide +kernel⟩
theorem qdm {f:Addr}{fd:FuncData}(F:Fun K "halves" "halves" qav f fd) (hX:NoX CX) (Ois_even_share:Own P w K mg base CX 1 "is_even_share" ["shares"] (qZ K sEv)) (Ocounts:Own P w K mg base CX 3 "counts" ["line", "heap"] (qZ K sCnt)):FnOk P w K mg base CX 4 f fd ["line", "heap"] (qZ K qax):=by
 refine F.okD ZS (fun es μ Q hq0=>by obtain ⟨a,b,c,ps,e,_⟩:=hq0;subst e;rfl) (fun cdv A outer s H E es μ Q hr hq0=>?_)
 obtain ⟨a,b,c,ps,e,ha,hb,hp,hl,k⟩:=hq0
 subst e
 have nd:=ZS.nd
 refine ⟨_,(qQ (qW (yi Ois_even_share hX (hr.mono (by decide)) rfl (qf (yi Ocounts hX (hr.mono (by decide)) rfl (qf (dv 0) (qf (dv 1) qr))) qr)))),?_⟩
 obtain ⟨h1,h2,h3⟩:=qcG c (vls (a,b) ps)
 have hv:=qcv (a,b) ps
 refine ⟨a,b,c,ps,rfl,ha,hb,hp,hl,_,_,_,rfl,by omega,by omega,?_⟩
 rw [h3,h1,h2]
 exact k
def ptK (p:Pt):List Int:=[p.1,p.2]
theorem qay {p q:Pt}(h:ptK p=ptK q):p=q:=by
 unfold ptK at h
 have h1:=List.cons.inj h
 have h2:=List.cons.inj h1.2
 exact Prod.ext h1.1 h2.1
theorem qc2 (ps:List Pt):ps.map ptD=(ps.map ptK).map jO:=by rw [List.map_map];rfl
theorem qjk (ps:List Pt):∀ k∈ps.map ptK,k≠[]:=fun k hk=>by
 obtain ⟨x,_,rfl⟩:=qv.mp hk
 exact fun z=>nomatch z
def Plc (ps qs:List Pt):Prop:=qs.Nodup/\Srt (qs.map ptK)/\∀ p,p∈qs ↔ p∈ps
theorem qfa {ps qs rs:List Pt}(h1:Plc ps qs) (h2:Plc ps rs):qs=rs:=by
 have hp:qs.Perm rs:=(List.perm_ext_iff_of_nodup h1.1 h2.1).mpr fun p=>(h1.2.2 p).trans (h2.2.2 p).symm
 have s1:=h1.2.1
 have s2:=h2.2.1
 unfold Srt at s1 s2
 rw [yz] at s1 s2
 refine List.Perm.eq_of_pairwise (fun a b _ _ k1 k2=>qay ?_) s1 s2 hp
 exact List.le_antisymm k1 k2
open Classical in
noncomputable def plc (ps:List Pt):List Pt:=epsilon fun qs=>Plc ps qs
theorem qjq {ps qs:List Pt}(h:Plc ps qs):qs=plc ps/\Plc ps (plc ps):=by
 have:=Classical.epsilon_spec (p:=fun qs=>Plc ps qs) ⟨qs,h⟩
 exact ⟨qfa h this,this⟩
theorem qjh {ks:List (List Int)}{ps:List Pt}:(∀ k∈ks,k∈ps.map ptK)->∃ qs:List Pt,ks=qs.map ptK:=by
 induction ks with
 | nil=>exact fun _=>⟨[],rfl⟩
 | cons k ks ih =>
  intro h
  obtain ⟨qs,e⟩:=ih fun z hz=>h z (qe _ hz)
  obtain ⟨a,_,ea⟩:=qv.mp (h k qg)
  exact ⟨a::qs,by rw [e,<- ea];rfl⟩
theorem qhq {ps:List Pt}{ms ks:List (List Int)}(hm:∀ q,q∈ms ↔ q∈ps.map ptK) (hn:ms.Nodup) (hp:ks.Perm ms) (hs:Srt ks):∃ qs:List Pt,ks=qs.map ptK/\Plc ps qs:=by
 obtain ⟨qs,rfl⟩:=qjh fun k hk=>(hm k).mp (hp.mem_iff.mp hk)
 have hnd:(qs.map ptK).Nodup:=hp.nodup_iff.mpr hn
 refine ⟨qs,rfl,(yz.mp hnd).imp fun h z=>h (by rw [z]),hs,fun p=>?_⟩
 have:=(hp.mem_iff (a:=ptK p)).trans (hm _)
 constructor
 ·intro h
  obtain ⟨b,hb,eb⟩:=qv.mp (this.mp (qv.mpr ⟨p,h,rfl⟩))
  rw [<- qay eb];exact hb
 ·intro h
  obtain ⟨b,hb,eb⟩:=qv.mp (this.mpr (qv.mpr ⟨p,h,rfl⟩))
  rw [<- qay eb];exact hb
theorem jF {α:Type} [DecidableEq α]:∀ {ms kss:List α},ms.Nodup->(∀ q∈ms,q∈kss)->ms.length<=kss.length
 | [],_,_,_=>qN _
 | a::ms,kss,hn,h=>by
  have ha:=h a qg
  have h1:=jF (ms:=ms) (kss:=kss.erase a) (List.nodup_cons.mp hn).2 (fun q hq=>by
   have hne:q≠a:=fun z=>(List.nodup_cons.mp hn).1 (z ▸ hq)
   exact (List.mem_erase_of_ne hne).mpr (h q (qe _ hq)))
  rw [List.length_erase_of_mem ha] at h1
  have:=List.length_pos_of_mem ha
  simp only [List.length_cons]
  omega
def sPlc:SpD:=fun es μ Q=>∃ ps:List Pt,es=[.d (hpD ps)]/\ps.length<64/\(Plc ps (plc ps)->Q (.d (hpD (plc ps))) μ)
theorem ZP:FnScope ["heap"] ["heap"] (qt qau):=⟨rfl,rfl,rfl,by decide +kernel,rfl,by decide +kernel,by decide +kernel⟩
theorem qdj {f:Addr}{fd:FuncData}(F:Fun K "places" "places" qau f fd) (T:Txt mg):FnOk P w K mg base CX 1 f fd ["heap"] (qZ K sPlc):=by
 refine F.okD ZP (fun es μ Q hq0=>by obtain ⟨ps,e,_⟩:=hq0;subst e;rfl) (fun cdv A outer s H E es μ Q hr hq0=>?_)
 obtain ⟨ps,e,hl,k⟩:=hq0
 subst e
 have nd:=ZP.nd
 refine ⟨_,(qQ (qW (yB (qbB (P:=P) (w:=w) (K:=K) rfl) (by rfl) T.sorted_ YH (qf (jv (qgA (P:=P) (w:=w) (K:=K) rfl hr.units) (by rfl) T.set_ qgH (qf (dv 0) qr)) qr)))),?_⟩
 refine ⟨ps.map ptK,by rw [<- qc2];exact .d _,qjk ps,by rw [List.length_map];omega,fun ms hm hn h77=>⟨ms,rfl,?_,fun ks hp hs=>?_⟩⟩
 ·have:=jF hn fun q hq=>(hm q).mp hq
  rw [List.length_map] at this
  omega
 ·obtain ⟨qs,rfl,h⟩:=qhq hm hn hp hs
  obtain ⟨rfl,h2⟩:=qjq h
  rw [<- qc2]
  exact k h2
def prs:List Pt->List (Pt×Pt)
 | []=>[]
 | a::t=>t.map (fun b=>(a,b))++prs t
def prD (p:Pt×Pt):PyData:=.tuple [ptD p.1,ptD p.2]
theorem qc6:∀ l:List Pt,2 * (prs l).length+l.length=l.length * l.length
 | []=>rfl
 | a::t=>by
  have:=qc6 t
  simp only [prs,List.length_append,List.length_map,List.length_cons]
  have e:(t.length+1) * (t.length+1)=t.length * t.length+2 * t.length+1:=by
   rw [Nat.add_mul,Nat.mul_add];omega
  omega
theorem qgf {l:List Pt}(h:l.length<=44):(prs l).length<4000:=by
 have:=qc6 l
 have:l.length * l.length<=44 * 44:=Nat.mul_le_mul h h
 by_cases z:l.length=44
 ·omega
 ·have:l.length * l.length<=43 * 43:=Nat.mul_le_mul (by omega) (by omega)
  omega
theorem qbE (ds:List PyData) (i:Nat) (h:i<=ds.length):ZJ ds (some (i:Int)) none=ds.drop i:=by
 have e:HT.sIx ds.length 0 (some (i:Int))=i:=by
  unfold HT.sIx
  simp
  rw [if_neg (by omega)]
  omega
 unfold ZJ
 rw [e]
 have e2:HT.sIx ds.length ds.length none=ds.length:=rfl
 rw [e2]
 exact List.take_of_length_le (by simp)
def sPp:SpD:=fun es μ Q=>∃ ps:List Pt,es=[.d (hpD ps)]/\ps.length<=44/\(Plc ps (plc ps)->Q (.d (.list ((prs (plc ps)).map prD))) μ)
theorem qiY:FnScope ["heap", "unlike"] ["heap"] (qt jq):=⟨rfl,rfl,rfl,by decide +kernel,rfl,by decide +kernel,by decide +kernel⟩
theorem ok_pp {f:Addr}{fd:FuncData}(F:Fun K "place_pairs" "place_pairs" jq f fd) (T:Txt mg) (hX:NoX CX) (Oplaces:Own P w K mg base CX 1 "places" ["heap"] (qZ K sPlc)):FnOk P w K mg base CX 2 f fd ["heap"] (qZ K sPp):=by
 refine F.okD qiY (fun es μ Q hq0=>by obtain ⟨ps,e,_⟩:=hq0;subst e;rfl) (fun cdv A outer s H E es μ Q hr hq0=>?_)
 obtain ⟨ps,e,hl,k⟩:=hq0
 subst e
 have nd:=qiY.nd
 refine ⟨_,(qG (yp (i:=1) nd rfl (by first | exact Or.inl rfl | exact Or.inr rfl) (yi Oplaces hX (hr.mono (by decide)) rfl (qf (dv 0) qr)))
   (qQ (qW (qij (L:=["at", "one", "other"]) (sc:=qt jq) (N:=["heap", "unlike"]) rfl rfl rfl (by decide +kernel) (qif rfl T.enumerate_ (qf (dv 1) qr)) (fun _ _ _ _ _=>(jY (n:=2) rfl (qV (qS (i:=2) (show List.Nodup (["heap", "unlike", "at", "one", "other"]:List Str) from by decide +kernel) rfl (by first | exact Or.inl rfl | exact Or.inr rfl)) (qV (qS (i:=3) (show List.Nodup (["heap", "unlike", "at", "one", "other"]:List Str) from by decide +kernel) rfl (by first | exact Or.inl rfl | exact Or.inr rfl)) jk)))) (fun _ _ _ _ _=>JE) (fun _ _ _ _ _=>(y8 (ZB (dv 1) (Zx (yO Ja (dv 2) qK)) Zy))) (fun _ _ _ _ _=>(qS (i:=4) (show List.Nodup (["heap", "unlike", "at", "one", "other"]:List Str) from by decide +kernel) rfl (by first | exact Or.inl rfl | exact Or.inr rfl))) (fun _ _ _ _ _=>JE) (fun _ _ _ _ _=>(YF (qf (dv 3) (qf (dv 4) qr)))))))),?_⟩
 refine ⟨ps,rfl,by omega,fun hP=>?_⟩
 have hq:(plc ps).length<=44:=qu (jF hP.1 fun q hq=>(hP.2.2 q).mp hq) hl
 have kk:=k hP
 generalize plc ps=qs at *
 have h1000:=qgf hq
 have nthe:∀ i,i<qs.length->∃ a,qs[i]?=some a/\(qs.map ptD).getD i .none=ptD a/\qs.drop i=a::qs.drop (i+1):=fun i hi=>by
  refine ⟨qs[i],List.getElem?_eq_getElem hi,?_,y6 hi⟩
  rw [qz,List.getElem?_map,List.getElem?_eq_getElem hi];rfl
 refine ⟨_,.d _,fun i ys ρ' μ'=>μ'=μ/\(∃ don,don++prs (qs.drop i)=prs qs/\ys=don.map prD)/\∃ v2 v3 v4,ρ'=[some (.d (hpD ps)),some (.d (hpD qs)),v2,v3,v4],⟨rfl,⟨[],rfl,rfl⟩,_,_,_,rfl⟩,(fun i ys ρ' μ' _ _=>.d _),?_,?_⟩
 ·rintro i ys ρ' μ' hi ⟨rfl,⟨don,hd,rfl⟩,v2,v3,v4,rfl⟩
  have hi:i<(qs.map ptD).length:=hi
  rw [List.length_map] at hi
  obtain ⟨a,ha,ea,ed⟩:=nthe i hi
  refine ⟨rfl,_,.d _,_,.d _,?_⟩
  have ec:ZJ (qs.map ptD) (some ((i:Int)+1)) none=(qs.drop (i+1)).map ptD:=by
   have:=qbE (qs.map ptD) (i+1) (by rw [List.length_map];omega)
   rw [Int.natCast_add] at this
   rw [List.map_drop]
   exact this
  have hlen:don.length+(prs (qs.drop i)).length=(prs qs).length:=by rw [<- hd,List.length_append]
  have e3:prs (qs.drop i)=(qs.drop (i+1)).map (fun b=>(a,b))++prs (qs.drop (i+1)):=by rw [ed];rfl
  have hsum:don.length+(qs.drop (i+1)).length<=(prs qs).length:=by
   rw [<- hlen,e3,List.length_append,List.length_map];omega
  refine ⟨fun j ys ρ' μ'=>μ'=μ'/\μ'=_/\j<=(qs.drop (i+1)).length/\ys=(don++((qs.drop (i+1)).take j).map fun b=>(a,b)).map prD/\∃ v4,ρ'=[some (.d (hpD ps)),some (.d (hpD qs)),some (.d (.int (i:Int))),some (.d (ptD a)),v4],⟨rfl,rfl,qN _,(by simp),v4,?_⟩,?_,?_,?_⟩
  ·rw [<- ea];rfl
  ·rintro j ys ρ' μ' hj ⟨_,rfl,hj2,rfl,v4,rfl⟩
   refine ⟨.d _,?_⟩
   rw [List.length_map,List.length_append,List.length_map,List.length_take]
   omega
  ·rintro j ys ρ' μ' hj ⟨_,rfl,hj2,rfl,v4,rfl⟩
   have hj:j<(ZJ (qs.map ptD) (some ((i:Int)+1)) none).length:=hj
   rw [ec,List.length_map] at hj
   have eb:(itL (.d (.list (ZJ (qs.map ptD) (some ((i:Int)+1)) none))) (ZJ (qs.map ptD) (some ((i:Int)+1)) none)).item j = .d (ptD (qs.drop (i+1))[j]):=by
    show En.d ((ZJ (qs.map ptD) (some ((i:Int)+1)) none).getD j .none)=_
    rw [ec,qz,List.getElem?_map,List.getElem?_eq_getElem hj];rfl
   rw [eb]
   refine ⟨zl2,_,rfl,rfl,rfl,hj,?_,_,rfl⟩
   rw [jQ (List.getElem?_eq_getElem hj)]
   simp only [List.map_append,List.append_assoc,List.map_cons,List.map_nil]
   rfl
  ·rintro ys ρ' μ' ⟨_,rfl,hj2,rfl,v4,rfl⟩
   have hn:(itL (.d (.list (ZJ (qs.map ptD) (some ((i:Int)+1)) none))) (ZJ (qs.map ptD) (some ((i:Int)+1)) none)).n=(qs.drop (i+1)).length:=by
    show (ZJ (qs.map ptD) (some ((i:Int)+1)) none).length=_
    rw [ec,List.length_map]
   refine ⟨rfl,⟨_,?_,rfl⟩,_,_,_,rfl⟩
   rw [hn,jB,List.append_assoc,<- e3]
   exact hd
 ·rintro ys ρ' μ' ⟨rfl,⟨don,hd,rfl⟩,v2,v3,v4,rfl⟩
  have:qs.drop (qs.map ptD).length=[]:=by rw [List.length_map];exact List.drop_length
  have hd:don++prs (qs.drop (qs.map ptD).length)=prs qs:=hd
  rw [this] at hd
  have hd:don++[]=prs qs:=hd
  rw [List.append_nil] at hd
  rw [hd]
  exact kk
end
end K92
namespace L2
abbrev Ln:=Pt×Int
def lnK (l:Ln):List Int:=[l.1.1,l.1.2,l.2]
theorem qdJ {l m:Ln}(h:lnK l=lnK m):l=m:=by
 unfold lnK at h
 have h1:=List.cons.inj h
 have h2:=List.cons.inj h1.2
 have h3:=List.cons.inj h2.2
 exact Prod.ext (Prod.ext h1.1 h2.1) h3.1
def Ahd (l m:Ln):Prop:=0<crs l.1 m.1\/(crs l.1 m.1=0/\l.2<m.2)
noncomputable instance (l m:Ln):Decidable (Ahd l m):=by unfold Ahd;infer_instance
theorem qgE (p q:Pt):crs q p = - crs p q:=by unfold crs;grind
theorem qiz (l:Ln):¬ Ahd l l:=by
 rintro (h | ⟨_,h⟩)
 ·rw [qbF] at h;omega
 ·omega
theorem qfS {l m:Ln}(h:Ahd l m):¬ Ahd m l:=by
 have:=qgE l.1 m.1
 rintro (z | ⟨z,y⟩)
 ·rcases h with h | ⟨h,_⟩ <;> omega
 ·rcases h with h | ⟨h,k⟩ <;> omega
theorem qiy {l m:Ln}(hl:IsN l.1) (hm:IsN m.1) (hne:l≠m) (h:¬ Ahd l m):Ahd m l:=by
 have e:=qgE l.1 m.1
 unfold Ahd at *
 by_cases c:crs l.1 m.1=0
 ·have n:=ZD hl hm c
  refine .inr ⟨by omega,?_⟩
  have:l.2≠m.2:=fun z=>hne (Prod.ext n z)
  have:¬ l.2<m.2:=fun z=>h (.inr ⟨c,z⟩)
  omega
 ·have:¬ 0<crs l.1 m.1:=fun z=>h (.inl z)
  exact .inl (by omega)
theorem qgq {n:Pt}(h:IsN n):0<=n.1/\(n.1=0->n=(0,1)):=by
 obtain ⟨_,h | ⟨h1,h2⟩⟩:=h
 ·exact ⟨by omega,fun z=>by omega⟩
 ·exact ⟨by omega,fun _=>Prod.ext h1 h2⟩
theorem YI {ls:List Ln}(h:ls.Pairwise Ahd):ls.Nodup:=List.Pairwise.imp (R:=Ahd) (S:=fun a b=>a≠b) (fun {a b} z (e:a=b)=>qiz a (by rw [<- e] at z;exact z)) h
theorem qfR {ls ms:List Ln}(h1:ls.Pairwise Ahd) (h2:ms.Pairwise Ahd) (h:∀ l,l∈ls ↔ l∈ms):ls=ms:=by
 have n1:=YI h1
 have n2:=YI h2
 exact List.Perm.eq_of_pairwise (fun a b _ _ k1 k2=>absurd k2 (qfS k1)) h1 h2 ((List.perm_ext_iff_of_nodup n1 n2).mpr h)
def qeJ (g:Int) (l:Ln):List Int:=if l.1.1=0 then [1,0,l.2] else [0,(l.1.2 * g).fdiv l.1.1,l.2]
theorem qeb {a b a' b' g:Int}(ha:0<a) (ha':0<a') (h1:a * a<=g) (h2:a' * a'<=g) (hc:a * b' - b * a'<0):(b' * g).fdiv a'+1<=(b * g).fdiv a:=by
 have hg:a * a'<=g:=by
  rcases Int.le_total a a' with z | z
  ·exact Int.le_trans (Int.mul_le_mul_of_nonneg_right z (by omega)) h2
  ·exact Int.le_trans (Int.mul_le_mul_of_nonneg_left z (by omega)) h1
 have g0:0<=g:=Int.le_trans (Int.mul_nonneg (by omega) (by omega)) h1
 generalize hq:(b' * g).fdiv a'=q
 have q1:q * a'<=b' * g:=by
  have:=Int.fmod_add_mul_fdiv (b' * g) a'
  have m0:=Int.fmod_nonneg_of_pos (b' * g) ha'
  rw [hq] at this
  have:a' * q=q * a':=Int.mul_comm _ _
  omega
 have key:(q+1) * a * a'<=b * g * a':=by
  have e1:a * (q * a')<=a * (b' * g):=Int.mul_le_mul_of_nonneg_left q1 (by omega)
  have e2:(a * b'+1) * g<=b * a' * g:=Int.mul_le_mul_of_nonneg_right (by omega) g0
  grind
 have k2:(q+1) * a<=b * g:=Int.le_of_mul_le_mul_right key ha'
 rw [Int.fdiv_eq_ediv_of_nonneg _ (by omega)]
 exact (Int.le_ediv_iff_mul_le ha).mpr k2
theorem qh0 {g:Int}{l m:Ln}(hl:IsN l.1) (hm:IsN m.1) (gl:l.1.1 * l.1.1<=g) (gm:m.1.1 * m.1.1<=g) (hne:l≠m) (h:¬ qeJ g m<qeJ g l):Ahd l m:=by
 obtain ⟨l0,l1⟩:=qgq hl
 obtain ⟨m0,m1⟩:=qgq hm
 by_cases cl:l.1.1=0
 ·by_cases cm:m.1.1=0
  ·unfold qeJ at h
   rw [if_pos cl,if_pos cm] at h
   have e:l.1=m.1:=by rw [l1 cl,m1 cm]
   refine .inr ⟨by rw [e];exact qbF _,?_⟩
   have:¬ m.2<l.2:=fun z=>h (by simp [List.cons_lt_cons_iff,z])
   have:l.2≠m.2:=fun z=>hne (Prod.ext e z)
   omega
  ·exact absurd (by unfold qeJ;rw [if_pos cl,if_neg cm];simp [List.cons_lt_cons_iff]) h
 ·by_cases cm:m.1.1=0
  ·refine .inl ?_
   rw [m1 cm]
   unfold crs
   simp
   omega
  ·unfold qeJ at h
   rw [if_neg cl,if_neg cm] at h
   have lp:0<l.1.1:=by omega
   have mp:0<m.1.1:=by omega
   refine Decidable.byContradiction fun hn=>?_
   have t:=qiy hl hm hne hn
   apply h
   rcases t with t | ⟨t,k⟩
   ·have hc:l.1.1 * m.1.2 - l.1.2 * m.1.1<0:=by unfold crs at t;grind
    have:=qeb lp mp gl gm hc
    rw [List.cons_lt_cons_iff,List.cons_lt_cons_iff]
    exact .inr ⟨rfl,.inl (by omega)⟩
   ·have e:=ZD hm hl t
    rw [e]
    simp [List.cons_lt_cons_iff,k]
def nO (p q:Pt):Pt:=nrm (q.2 - p.2) (p.1 - q.1)
theorem JC {p q:Pt}(h:p≠q):q.2 - p.2≠0\/p.1 - q.1≠0:=by
 by_cases z:q.2 - p.2=0
 ·refine .inr fun z2=>h (Prod.ext (by omega) (by omega))
 ·exact .inl z
theorem qdw {p q:Pt}(h:p≠q):IsN (nO p q):=qhL (JC h)
theorem qhO {p q:Pt}(h:p≠q):vl (nO p q) q=vl (nO p q) p:=by
 obtain ⟨e1,e2⟩:=qaD (q.2 - p.2) (p.1 - q.1) (JC h)
 have d0:=YD (JC h)
 unfold vl nO
 generalize nrm (q.2 - p.2) (p.1 - q.1)=n at *
 generalize dvs (q.2 - p.2) (p.1 - q.1)=d at *
 have:d * (n.1 * q.1+n.2 * q.2)=d * (n.1 * p.1+n.2 * p.2):=by grind
 exact Int.eq_of_mul_eq_mul_left d0 this
theorem qdv {p q n:Pt}(h:p≠q) (hn:IsN n) (e:vl n p=vl n q):n=nO p q:=by
 refine ZD hn (qdw h) ?_
 obtain ⟨e1,e2⟩:=qaD (q.2 - p.2) (p.1 - q.1) (JC h)
 have d0:=YD (JC h)
 unfold vl at e
 unfold crs nO
 generalize nrm (q.2 - p.2) (p.1 - q.1)=m at *
 generalize dvs (q.2 - p.2) (p.1 - q.1)=d at *
 have:d * (n.1 * m.2 - n.2 * m.1)=d * 0:=by grind
 exact Int.eq_of_mul_eq_mul_left d0 this
def JN (ps:List Pt) (l:Ln):Prop:=IsN l.1/\∃ p∈ps,∃ q∈ps,p≠q/\vl l.1 p=l.2/\vl l.1 q=l.2
theorem qfy {ps:List Pt}{p q:Pt}(hp:p∈ps) (hq:q∈ps) (h:p≠q):JN ps (nO p q,vl (nO p q) p):=⟨qdw h,p,hp,q,hq,h,rfl,qhO h⟩
theorem Zq {ps:List Pt}{l:Ln}(h:JN ps l):∃ p∈ps,∃ q∈ps,p≠q/\l=(nO p q,vl (nO p q) p):=by
 obtain ⟨hn,p,hp,q,hq,hne,e1,e2⟩:=h
 have e:=qdv hne hn (e1.trans e2.symm)
 exact ⟨p,hp,q,hq,hne,Prod.ext e (by rw [<- e];exact e1.symm)⟩
theorem nO_sw {p q:Pt}(h:p≠q):(nO q p,vl (nO q p) q)=(nO p q,vl (nO p q) p):=by
 have e:nO q p=nO p q:=qdv h (qdw h.symm) (qhO h.symm)
 rw [e,qhO h]
end L2
namespace L2
def qfY (A B:List Pt) (l:Ln):Prop:=JN (A++B) l/\qaL l.2 (vls l.1 A)=true/\qaL l.2 (vls l.1 B)=true
def qeN (A B:List Pt) (ls:List Ln):Prop:=ls.Pairwise Ahd/\∀ l,l∈ls ↔ qfY A B l
def LRel (T:Pt->Pt) (l m:Ln):Prop:=∃ s:Int,s≠0/\∀ p,vl m.1 (T p) - m.2=s * (vl l.1 p - l.2)
theorem LRel.on {T:Pt->Pt}{l m:Ln}(h:LRel T l m) (p:Pt):vl m.1 (T p)=m.2 ↔ vl l.1 p=l.2:=by
 obtain ⟨s,h0,h⟩:=h
 have:=h p
 constructor
 ·intro z
  rw [z,Int.sub_self] at this
  rcases Int.mul_eq_zero.mp this.symm with y | y
  ·exact absurd y h0
  ·omega
 ·intro z
  rw [z,Int.sub_self,Int.mul_zero] at this
  omega
theorem qbr {ps:List Pt}{l:Ln}(hp:∀ q∈ps,Bd 1000000000000000000000000000000 q) (h:JN ps l):Bd 2000000000000000000000000000000 l.1/\l.2.natAbs<=4000000000000000000000000000000000000000000000000000000000000:=by
 obtain ⟨p,h1,q,h2,hne,rfl⟩:=Zq h
 have b1:=hp p h1
 have b2:=hp q h2
 have nb:Bd 2000000000000000000000000000000 (nO p q):=qgj (JC hne) (by have:=b1.2;have:=b2.2;omega) (by have:=b1.1;have:=b2.1;omega)
 refine ⟨nb,?_⟩
 show (vl (nO p q) p).natAbs<=_
 unfold vl
 have m1:((nO p q).1 * p.1).natAbs<=2000000000000000000000000000000 * 1000000000000000000000000000000:=by rw [Int.natAbs_mul];exact Nat.mul_le_mul nb.1 b1.1
 have m2:((nO p q).2 * p.2).natAbs<=2000000000000000000000000000000 * 1000000000000000000000000000000:=by rw [Int.natAbs_mul];exact Nat.mul_le_mul nb.2 b1.2
 omega
open PySem PySem.Spec PyProof.Rows
section
variable {g:TGd}{tb:TSd}{D:EndsD}{ρ:Rho}{μ:Mu}{te:TEd}{tt:TTd}{Q:En->Mu->Prop}
theorem qku {J:Itd}{α:Type}{as:List α}{h1 h2 h3:α->PyData}(f:α->PyData) (S:Src J (as.map fun a=>.tuple [h1 a,h2 a,h3 a]) μ) (ht:∀ a,a∈as->∀ R:Bool->Mu->Prop,R true μ->tt (ρ++[some (.d (h1 a)),some (.d (h2 a)),some (.d (h3 a))]) μ R)
  (hs:∀ a,a∈as->∀ R:En->Mu->Prop,R (.d (f a)) μ->te (ρ++[some (.d (h1 a)),some (.d (h2 a)),some (.d (h3 a))]) μ R) (hq:Q (.d (.list (as.map f))) μ) :
  qfW 3 J (qem 3 (Jb (jG ρ.length) (Jb (jG (ρ.length+1)) (Jb (jG (ρ.length+2)) qen)))) tt te ρ μ Q:=by
 have hl:J.n=as.length:=by rw [S.n];simp
 refine ⟨fun i ys ρ' μ'=>μ'=μ/\ys=(as.take i).map f/\∃ v w x,ρ'=ρ++[v,w,x],⟨rfl,rfl,none,none,none,rfl⟩,fun i ys ρ' μ' _ ⟨h,_⟩=>by subst h;exact S.ok,?_,?_⟩
 ·rintro i ys ρ' μ' hi ⟨rfl,rfl,v,w,x,rfl⟩
  rw [hl] at hi
  rw [S.it i (.tuple [h1 as[i],h2 as[i],h3 as[i]]) (by rw [List.getElem?_map,List.getElem?_eq_getElem hi];rfl)]
  refine ⟨rfl,?_⟩
  show tt ((((ρ++[v,w,x]).set ρ.length _).set (ρ.length+1) _).set (ρ.length+2) _) μ' _
  have e2:(((ρ++[v,w,x]).set ρ.length (some (.d (h1 as[i])))).set (ρ.length+1) (some (.d (h2 as[i])))).set (ρ.length+2) (some (.d (h3 as[i])))=ρ++[some (.d (h1 as[i])),some (.d (h2 as[i])),some (.d (h3 as[i]))]:=by simp [List.set_append]
  rw [e2]
  refine ht as[i] (qO hi) _ (qbs (hs as[i] (qO hi) _ ⟨_,rfl,rfl,?_,_,_,_,rfl⟩))
  rw [jQ (List.getElem?_eq_getElem hi),List.map_append]
  rfl
 ·rintro ys ρ' μ' ⟨rfl,rfl,_⟩
  rw [hl,jB]
  exact hq
theorem qkv {J:Itd}{α:Type}{as:List α}{h1 h2 h3:α->PyData}(f:α->PyData) (S:Src J (as.map fun a=>.tuple [h1 a,h2 a,h3 a]) μ)
  (hs:∀ a,a∈as->∀ R:En->Mu->Prop,R (.d (f a)) μ->te (ρ++[some (.d (h1 a)),some (.d (h2 a)),some (.d (h3 a))]) μ R) (hq:Q (.d (.list (as.map f))) μ) :
  qfW 3 J (qem 3 (Jb (jG ρ.length) (Jb (jG (ρ.length+1)) (Jb (jG (ρ.length+2)) qen)))) qkU te ρ μ Q:=qku f S (fun _ _ _ h=>h) hs hq
theorem setC2 {Q2:List (List Int)->Mu->Prop}{J:Itd}{α:Type}{as:List α}{h1 h2:α->PyData}(f:α->List Int) (S:Src J (as.map fun a=>.tuple [h1 a,h2 a]) μ) (hn:as.length<4900) (ht:∀ a,a∈as->∀ R:Bool->Mu->Prop,R true μ->tt (ρ++[some (.d (h1 a)),some (.d (h2 a))]) μ R) (hf:∀ a∈as,f a≠[])
  (hs:∀ a,a∈as->∀ R:En->Mu->Prop,R (.d (jO (f a))) μ->te (ρ++[some (.d (h1 a)),some (.d (h2 a))]) μ R)
  (hq:∀ ms:List (List Int),(∀ q,q∈ms ↔ q∈as.map f)->ms.Nodup->ms.length<4915->Q2 ms μ) :
  J.n<4900/\∃ Pv:Nat->List (List Int)->Rho->Mu->Prop,Pv 0 [] (ρ++List.replicate 2 none) μ/\(∀ i ys ρ' μ',i<=J.n->Pv i ys ρ' μ'->J.ok μ') ∧
   (∀ i ys ρ' μ',i<J.n->Pv i ys ρ' μ'->qem 2 (Jb (jG ρ.length) (Jb (jG (ρ.length+1)) qen)) (J.item i) ρ' μ' fun ρ2 μ2=>tt ρ2 μ2 fun b μ3=>if b=true then te ρ2 μ3 fun y μ4=>∃ z,z≠[]/\y = .d (jO z)/\Pv (i+1) (ys++[z]) ρ2 μ4 else Pv (i+1) ys ρ2 μ3) ∧
   ∀ ys ρ' μ',Pv J.n ys ρ' μ'->∀ ms,(∀ q,q∈ms ↔ q∈ys)->ms.Nodup->ms.length<4915->Q2 ms μ':=by
 have hl:J.n=as.length:=by rw [S.n];simp
 refine ⟨by omega,fun i ys ρ' μ'=>μ'=μ/\ys=(as.take i).map f/\∃ v w,ρ'=ρ++[v,w],⟨rfl,rfl,none,none,rfl⟩,fun i ys ρ' μ' _ ⟨h,_⟩=>by subst h;exact S.ok,?_,?_⟩
 ·rintro i ys ρ' μ' hi ⟨rfl,rfl,v,w,rfl⟩
  rw [hl] at hi
  rw [S.it i (.tuple [h1 as[i],h2 as[i]]) (by rw [List.getElem?_map,List.getElem?_eq_getElem hi];rfl)]
  refine ⟨rfl,?_⟩
  show tt (((ρ++[v,w]).set ρ.length _).set (ρ.length+1) _) μ' _
  have e2:((ρ++[v,w]).set ρ.length (some (.d (h1 as[i])))).set (ρ.length+1) (some (.d (h2 as[i])))=ρ++[some (.d (h1 as[i])),some (.d (h2 as[i]))]:=by simp [List.set_append]
  rw [e2]
  refine ht as[i] (qO hi) _ (qbs (hs as[i] (qO hi) _ ⟨_,hf _ (qO hi),rfl,rfl,?_,_,_,rfl⟩))
  rw [jQ (List.getElem?_eq_getElem hi),List.map_append]
  rfl
 ·rintro ys ρ' μ' ⟨rfl,rfl,_⟩
  rw [hl,jB]
  exact hq
end
end L2
namespace K92
open PySem L2
section
variable {P:Program}{w:World}{K:W.Frag}{mg:Str->Option Value}{base:Heap}{CX:CXT}
def lnD (l:Ln):PyData:=jO (lnK l)
def LBd (l:Ln):Prop:=Bd 2000000000000000000000000000000 l.1/\l.2.natAbs<=4000000000000000000000000000000000000000000000000000000000000
def sKey:SpD:=fun es μ Q=>∃ (l:Ln) (g:Int),es=[.d (lnD l),.d (.int g)]/\IsN l.1/\LBd l/\g.natAbs<=4000000000000000000000000000000000000000000000000000000000000/\Q (.d (jO (qeJ g l))) μ
theorem b62:4000000000000000000000000000000000000000000000000000000000000<2 ^ 1000:=by decide +kernel
theorem qcL:FnScope ["line", "scale", "a", "b", "c"] ["line", "scale"] (qt Yl):=⟨rfl,rfl,rfl,by decide +kernel,rfl,by decide +kernel,by decide +kernel⟩
theorem qhE {f:Addr}{fd:FuncData}(F:Fun K "line_key" "line_key" Yl f fd)  : FnOk P w K mg base CX 1 f fd ["line", "scale"] (qZ K sKey):=by
 refine F.okD qcL (fun es μ Q hq0=>by obtain ⟨l,g,e,_⟩:=hq0;subst e;rfl) (fun cdv A outer s H E es μ Q hr hq0=>?_)
 obtain ⟨l,g,e,hn,hb,hg,k⟩:=hq0
 subst e
 have nd:=qcL.nd
 refine ⟨_,(qG (j9 (dv 0) (jY (n:=3) rfl (qV (qS (i:=2) nd rfl (by first | exact Or.inl rfl | exact Or.inr rfl)) (qV (qS (i:=3) nd rfl (by first | exact Or.inl rfl | exact Or.inr rfl)) (qV (qS (i:=4) nd rfl (by first | exact Or.inl rfl | exact Or.inr rfl)) jk)))))
   (qG (jX (yo (YM hr.units) (dv 2) qK (yk _)) (qQ (qW (YF (qf qK (qf qK (qf (dv 4) qr)))))) y4)
   (qQ (qW (YF (qf qK (qf (yO qaO (yO y9 (dv 3) (dv 1)) (dv 2)) (qf (dv 4) qr)))))))),?_⟩
 refine ⟨rfl,Jj (fun c=>?_) (fun c=>?_)⟩
 ·have c:l.1.1=0:=qy c
  unfold qeJ at k
  rw [if_pos c] at k
  exact ⟨zl3,k⟩
 ·have c:¬ l.1.1=0:=fun z=>c (qB z)
  unfold qeJ at k
  rw [if_neg c] at k
  have h2:l.1.2.natAbs<=B40:=qu hb.1.2 (by decide)
  exact ⟨⟨yW h2 b40,yW hg b62⟩,qbx b40 c (qu hb.1.1 (by decide)),zl3,k⟩
abbrev lamP:Pos:=⟨58,29,58,63⟩
abbrev lamQ:Str := "lines_in_order.<locals>.<lambda>"
abbrev TB (tb:Addr):Addr×MO:=(tb,.any (Yk lamQ lamP))
def sLio (tb:Addr):SpD:=fun es μ Q=>∃ ls:List Ln,es=[.d (.list (ls.map lnD))]/\ls.Nodup/\(∀ l∈ls,IsN l.1/\LBd l)/\ls.length<=4000/\TB tb∈μ/\∀ ms:List Ln,ms.Perm ls->ms.Pairwise Ahd->Q (.d (.list (ms.map lnD))) μ
def keyR (g:Int) (z:List Int):List Int:=match z with
 | [a,b,c]=>qeJ g ((a,b),c)
 | _=>[0]
theorem qh1 (g:Int) (z:List Int):keyR g z≠[]:=by
 unfold keyR qeJ
 split
 ·split <;> exact fun h=>nomatch h
 ·exact fun h=>nomatch h
theorem qf7:FnScope ["lines", "scale"] ["lines"] (qt yQ):=⟨rfl,rfl,rfl,by decide +kernel,rfl,by decide +kernel,by decide +kernel⟩
theorem qjF {f tb cc:Addr}{fd:FuncData}(F:Fun K "lines_in_order" "lines_in_order" yQ f fd) (hcc:fd.code = .ref cc) (hB:YO base mg) (hC:W.CodeHd base cc tb) (T:Txt mg) (hX:NoX CX) (Oline_key:Own P w K mg base CX 1 "line_key" ["line", "scale"] (qZ K sKey)):FnOk P w K mg base CX 5 f fd ["lines"] (qZ K (sLio tb)):=by
 refine F.okDC hcc qf7 (fun es μ Q hq0=>by obtain ⟨ls,e,_⟩:=hq0;subst e;rfl) (fun A outer s H E es μ Q hr hq0=>?_)
 obtain ⟨ls,e,hnd,hls,hlen,htb,k⟩:=hq0
 subst e
 have nd:=qf7.nd
 refine ⟨_,(qG (yp (i:=1) nd rfl (by first | exact Or.inl rfl | exact Or.inr rfl) (qkj rfl (by rfl) T.max_ (Jr (L:=["a", "b", "c"]) (sc:=qt yQ) (N:=["lines", "scale"]) rfl rfl rfl (by decide +kernel) (y8 (dv 0)) (fun _ _ _ _ _=>(jY (n:=3) rfl (qV (qS (i:=2) (show List.Nodup (["lines", "scale", "a", "b", "c"]:List Str) from by decide +kernel) rfl (by first | exact Or.inl rfl | exact Or.inr rfl)) (qV (qS (i:=3) (show List.Nodup (["lines", "scale", "a", "b", "c"]:List Str) from by decide +kernel) rfl (by first | exact Or.inl rfl | exact Or.inr rfl)) (qV (qS (i:=4) (show List.Nodup (["lines", "scale", "a", "b", "c"]:List Str) from by decide +kernel) rfl (by first | exact Or.inl rfl | exact Or.inr rfl)) jk))))) (fun _ _ _ _ _=>JE) (fun _ _ _ _ _=>(yO y9 (dv 2) (dv 2)))) qK))
   (qQ (qW (qih (x := "line") (y := "scale") (i:=1) hB hC rfl rfl rfl ⟨rfl,rfl,rfl,by decide,rfl,rfl,by decide +kernel⟩ (by decide +kernel) rfl rfl (by rfl) T.sorted_ (hr.in1.in1) (fun _ _ _ _ _=>rfl) (dv 0) (fun _ _ _ _ _ hr=>(yi Oline_key hX (hr.mono (by decide)) rfl (qf (dv 0) (qf (dv 1) qr)))))))),?_⟩
 have hl2:(ls.map lnD).length<=4000:=by rw [List.length_map];exact hlen
 have hm:∀ l∈ls,l.1.1 * l.1.1<=4000000000000000000000000000000000000000000000000000000000000:=fun l hl=>by
  have h:=(hls l hl).2.1.1
  have:(l.1.1 * l.1.1).natAbs<=2000000000000000000000000000000 * 2000000000000000000000000000000:=by rw [Int.natAbs_mul];exact Nat.mul_le_mul h h
  omega
 refine ⟨_,.d _,hl2,qkv (as:=ls) (fun l=>.int (l.1.1 * l.1.1)) (Src.l (.d _)) (fun l hl R h=>?_) ?_⟩
 ·have h1:l.1.1.natAbs<=B40:=qu (hls l hl).2.1.1 (by decide)
  exact ⟨ZX h1 h1,h⟩
 ·refine ⟨ls.map fun l=>l.1.1 * l.1.1,0,by rw [List.map_map];exact .d _,rfl,fun m hm'=>?_⟩
  have hg:(∀ l∈ls,l.1.1 * l.1.1<=m)/\m.natAbs<=4000000000000000000000000000000000000000000000000000000000000:=by
   rcases hm' with ⟨e,rfl⟩ | ⟨h1,h2⟩
   ·have:ls=[]:=List.map_eq_nil_iff.mp e
    subst this
    exact ⟨fun l hl=>(nomatch hl),by decide⟩
   ·refine ⟨fun l hl=>h2 _ (qv.mpr ⟨l,hl,rfl⟩),?_⟩
    obtain ⟨l,hl,rfl⟩:=qv.mp h1
    have:=hm l hl
    have:0<=l.1.1 * l.1.1:=by
     rcases Int.le_total 0 l.1.1 with z | z
     ·exact Int.mul_nonneg z z
     ·exact Int.mul_nonneg_of_nonpos_of_nonpos z z
    omega
  refine ⟨ls.map lnK,.d (.int m),keyR m,by rw [List.map_map];exact .d _,by rw [List.length_map];omega,rfl,htb,qh1 m,fun z hz=>?_,fun ps pp pw=>?_⟩
  ·obtain ⟨l,hl,rfl⟩:=qv.mp hz
   exact ⟨l,m,rfl,(hls l hl).1,(hls l hl).2,hg.2,rfl,rfl⟩
  ·obtain ⟨ms,p1,rfl⟩:=Ya lnK pp rfl
   have nd2:ms.Nodup:=p1.nodup_iff.mpr hnd
   rw [yz] at pw
   have:=k ms p1 ((pw.and nd2).imp_of_mem fun {a b} ha hb z=>qh0 (hls a (p1.mem_iff.mp ha)).1 (hls b (p1.mem_iff.mp hb)).1 (hg.1 a (p1.mem_iff.mp ha)) (hg.1 b (p1.mem_iff.mp hb)) z.2 z.1)
   rw [List.map_map]
   exact this
def qiD (p:Pt×Pt):Ln:=(nO p.1 p.2,vl (nO p.1 p.2) p.1)
theorem qjS {ks:List (List Int)}{L:List (Pt×Pt)}:(∀ k∈ks,k∈L.map fun p=>thr p.1 p.2)->∃ ls:List Ln,ks=ls.map lnK/\∀ l∈ls,l∈L.map qiD:=by
 induction ks with
 | nil=>exact fun _=>⟨[],rfl,fun _ z=>nomatch z⟩
 | cons k ks ih =>
  intro h
  obtain ⟨ls,e,m⟩:=ih fun z hz=>h z (qe _ hz)
  obtain ⟨a,ha,ea⟩:=qv.mp (h k qg)
  refine ⟨qiD a::ls,by rw [e,<- ea];rfl,fun l hl=>?_⟩
  rcases List.mem_cons.mp hl with rfl | hl
  ·exact qv.mpr ⟨a,ha,rfl⟩
  ·exact m l hl
def qhf (tb:Addr):SpD:=fun es μ Q=>∃ ps:List Pt,es=[.d (hpD ps)]/\ps.length<=44/\Bds ps/\TB tb∈μ/\∀ ls:List Ln,Plc ps (plc ps)->ls.Pairwise Ahd->(∀ l,l∈ls ↔ JN ps l)->ls.length<4000->Q (.d (.list (ls.map lnD))) μ
theorem qc5 {l:List Pt}(hn:l.Nodup) {p:Pt×Pt}(h:p∈prs l):p.1∈l/\p.2∈l/\p.1≠p.2:=by
 induction l with
 | nil=>exact (nomatch h)
 | cons a t ih =>
  obtain ⟨h1,h2⟩:=List.nodup_cons.mp hn
  rcases List.mem_append.mp h with h | h
  ·obtain ⟨b,hb,rfl⟩:=qv.mp h
   exact ⟨qg,qe _ hb,fun z=>h1 (by have z:a=b:=z;rw [z];exact hb)⟩
  ·obtain ⟨a1,a2,a3⟩:=ih h2 h
   exact ⟨qe _ a1,qe _ a2,a3⟩
theorem qe9 {l:List Pt}{a b:Pt}(ha:a∈l) (hb:b∈l) (h:a≠b):(a,b)∈prs l\/(b,a)∈prs l:=by
 induction l with
 | nil=>exact (nomatch ha)
 | cons c t ih =>
  rcases List.mem_cons.mp ha with e | ha'
  ·subst e
   rcases List.mem_cons.mp hb with e | hb'
   ·exact absurd e.symm h
   ·exact .inl (qp _ (qv.mpr ⟨b,hb',rfl⟩))
  ·rcases List.mem_cons.mp hb with e | hb'
   ·subst e
    exact .inr (qp _ (qv.mpr ⟨a,ha',rfl⟩))
   ·rcases ih ha' hb' with h | h
    ·exact .inl (qb _ h)
    ·exact .inr (qb _ h)
theorem qdU {ps:List Pt}(hP:Plc ps (plc ps)) (l:Ln):l∈(prs (plc ps)).map qiD ↔ JN ps l:=by
 constructor
 ·intro h
  obtain ⟨p,hp,rfl⟩:=qv.mp h
  obtain ⟨h1,h2,h3⟩:=qc5 hP.1 hp
  exact qfy ((hP.2.2 _).mp h1) ((hP.2.2 _).mp h2) h3
 ·intro h
  obtain ⟨p,hp,q,hq,hne,rfl⟩:=Zq h
  rcases qe9 ((hP.2.2 _).mpr hp) ((hP.2.2 _).mpr hq) hne with z | z
  ·exact qv.mpr ⟨_,z,rfl⟩
  ·exact qv.mpr ⟨_,z,nO_sw hne⟩
theorem qiO (p q:Pt):thr p q≠[]:=fun h=>nomatch h
theorem qcO:FnScope ["heap"] ["heap"] (qt yY):=⟨rfl,rfl,rfl,by decide +kernel,rfl,by decide +kernel,by decide +kernel⟩
theorem qhH {f:Addr}{fd:FuncData}(F:Fun K "joining_lines" "joining_lines" yY f fd) {tb:Addr}(T:Txt mg) (hX:NoX CX) (Oplace_pairs:Own P w K mg base CX 2 "place_pairs" ["heap"] (qZ K sPp)) (Othrough:Own P w K mg base CX 3 "through" ["one", "other"] (qZ K sThr)) (Olines_in_order:Own P w K mg base CX 5 "lines_in_order" ["lines"] (qZ K (sLio tb))):FnOk P w K mg base CX 6 f fd ["heap"] (qZ K (qhf tb)):=by
 refine F.okD qcO (fun es μ Q hq0=>by obtain ⟨ps,e,_⟩:=hq0;subst e;rfl) (fun cdv A outer s H E es μ Q hr hq0=>?_)
 obtain ⟨ps,e,hl,hb,htb,k⟩:=hq0
 subst e
 have nd:=qcO.nd
 refine ⟨_,(qQ (qW (yi Olines_in_order hX (hr.mono (by decide)) rfl (qf (yB (qbB (P:=P) (w:=w) (K:=K) rfl) (by rfl) T.sorted_ YH (qf (qkh (P:=P) (w:=w) (K:=K) (L:=["one", "other"]) (sc:=qt yY) (N:=["heap"]) hr.units rfl rfl rfl (by decide +kernel) (y8 (yi Oplace_pairs hX (hr.mono (by decide)) rfl (qf (dv 0) qr))) (fun _ _ _ _ _=>(jY (n:=2) rfl (qV (qS (i:=1) (show List.Nodup (["heap", "one", "other"]:List Str) from by decide +kernel) rfl (by first | exact Or.inl rfl | exact Or.inr rfl)) (qV (qS (i:=2) (show List.Nodup (["heap", "one", "other"]:List Str) from by decide +kernel) rfl (by first | exact Or.inl rfl | exact Or.inr rfl)) jk)))) (fun _ _ _ _ _=>JE) (fun _ _ _ _ _=>(yi Othrough hX (hr.mono (by decide)) rfl (qf (dv 1) (qf (dv 2) qr))))) qr)) qr)))),?_⟩
 refine ⟨ps,rfl,hl,fun hP=>?_⟩
 have hq:(plc ps).length<=44:=qu (jF hP.1 fun q hq=>(hP.2.2 q).mp hq) hl
 have h1000:=qgf hq
 have hne:∀ p∈prs (plc ps),Bd B30 p.1/\Bd B30 p.2/\p.1≠p.2:=fun p hp=>by
  obtain ⟨h1,h2,h3⟩:=qc5 hP.1 hp
  exact ⟨hb _ ((hP.2.2 _).mp h1),hb _ ((hP.2.2 _).mp h2),h3⟩
 refine ⟨_,.d _,?_⟩
 refine setC2 (ρ:=[some (.d (hpD ps))]) (μ:=μ) (tt:=qkU) (as:=prs (plc ps)) (h1:=fun p=>ptD p.1) (h2:=fun p=>ptD p.2) (fun p=>thr p.1 p.2) (Src.l (.d _)) (by omega) (fun _ _ _ h=>h) (fun p _=>qiO _ _) (fun p hp R h=>?_) (fun ms hm hnd h49=>?_)
 ·obtain ⟨b1,b2,h3⟩:=hne p hp
  exact ⟨p.1,p.2,rfl,b1,b2,h3,h⟩
 ·have hms:ms.length<4000:=by
   have:=jF hnd fun q hq=>(hm q).mp hq
   rw [List.length_map] at this
   omega
  refine ⟨ms,rfl,by omega,fun ks hp hs=>?_⟩
  obtain ⟨ls,rfl,hin⟩:=qjS (L:=prs (plc ps)) fun q hq=>(hm q).mp (hp.mem_iff.mp hq)
  have hnl:ls.Nodup:=by
   have:(ls.map lnK).Nodup:=hp.nodup_iff.mpr hnd
   exact (yz.mp this).imp fun h z=>h (by rw [z])
  have hJ:∀ l,l∈ls ↔ JN ps l:=fun l=>by
   rw [<- qdU hP l]
   refine ⟨hin l,fun h=>?_⟩
   obtain ⟨p,hp',rfl⟩:=qv.mp h
   have:thr p.1 p.2∈ls.map lnK:=hp.mem_iff.mpr ((hm _).mpr (qv.mpr ⟨p,hp',rfl⟩))
   obtain ⟨l,hl',e⟩:=qv.mp this
   have e2:l=qiD p:=qdJ e
   rw [<- e2];exact hl'
  have hll:ls.length<4000:=by
   have:=hp.length_eq
   rw [List.length_map] at this
   omega
  refine ⟨ls,by rw [List.map_map];rfl,hnl,fun l hl'=>?_,yf hll,htb,fun ms' p' s'=>k ms' hP s' (fun l=>(p'.mem_iff).trans (hJ l)) (by rw [p'.length_eq];exact hll)⟩
  have J:=(hJ l).mp hl'
  exact ⟨J.1,qbr hb J⟩
def qkJ (tb:Addr):SpD:=fun es μ Q=>∃ A B:List Pt,es=[.d (hpD A),.d (hpD B)]/\A.length+B.length<=44/\Bds A/\Bds B/\TB tb∈μ/\∀ ls:List Ln,qeN A B ls->ls.length<4000->(∀ l∈ls,LBd l)->Q (.d (.list (ls.map lnD))) μ
theorem qga:FnScope ["one", "other"] ["one", "other"] (qt j5):=⟨rfl,rfl,rfl,by decide +kernel,rfl,by decide +kernel,by decide +kernel⟩
theorem qjI {f:Addr}{fd:FuncData}(F:Fun K "all_lines" "all_lines" j5 f fd) {tb:Addr}(T:Txt mg) (hX:NoX CX) (Ojoining_lines:Own P w K mg base CX 6 "joining_lines" ["heap"] (qZ K (qhf tb))) (Ohalves:Own P w K mg base CX 4 "halves" ["line", "heap"] (qZ K qax)):FnOk P w K mg base CX 7 f fd ["one", "other"] (qZ K (qkJ tb)):=by
 refine F.okD qga (fun es μ Q hq0=>by obtain ⟨A,B,e,_⟩:=hq0;subst e;rfl) (fun cdv A' outer s H E es μ Q hr hq0=>?_)
 obtain ⟨A,B,e,hl,hA,hB,htb,k⟩:=hq0
 subst e
 have nd:=qga.nd
 refine ⟨_,(qQ (qW (Jr (L:=["line"]) (sc:=qt j5) (N:=["one", "other"]) rfl rfl rfl (by decide +kernel) (y8 (yi Ojoining_lines hX (hr.mono (by decide)) rfl (qf (yO JV (dv 0) (dv 1)) qr))) (fun _ _ _ _ _=>(qS (i:=2) (show List.Nodup (["one", "other", "line"]:List Str) from by decide +kernel) rfl (by first | exact Or.inl rfl | exact Or.inr rfl))) (fun _ _ _ _ _=>(JD (qib (Z8 (qei (yi Ohalves hX (hr.mono (by decide)) rfl (qf (dv 2) (qf (dv 0) qr)))) (YC (qei (yi Ohalves hX (hr.mono (by decide)) rfl (qf (dv 2) (qf (dv 1) qr))))))))) (fun _ _ _ _ _=>(dv 2))))),?_⟩
 have la:(A.map ptD).length=A.length:=List.length_map ..
 have lb:(B.map ptD).length=B.length:=List.length_map ..
 have bd:Bds (A++B):=fun z hz=>by
  rcases List.mem_append.mp hz with h | h
  ·exact hA z h
  ·exact hB z h
 refine ⟨_,_,.d _,.d _,by omega,A++B,(by show [En.d (.list (A.map ptD++B.map ptD))]=_;rw [<- List.map_append];rfl),(by rw [List.length_append];exact hl),bd,htb,fun ls _ hs hJ hll=>?_⟩
 have hbl:∀ l∈ls,LBd l:=fun l hl'=>qbr bd ((hJ l).mp hl')
 have hl2:(ls.map lnD).length<=4000:=by rw [List.length_map];omega
 refine ⟨_,.d _,hl2,YG (as:=ls) (h:=lnD) (fun l=>qaL l.2 (vls l.1 A) && qaL l.2 (vls l.1 B)) lnD (Src.l (.d _)) (fun l hl' R h=>?_) (fun l hl' _ R h=>h) ?_⟩
 ·have n1:l.1.1.natAbs<=B40:=qu (hbl l hl').1.1 (by decide)
  have n2:l.1.2.natAbs<=B40:=qu (hbl l hl').1.2 (by decide)
  refine ⟨l.1.1,l.1.2,l.2,A,rfl,n1,n2,hA,by omega,?_⟩
  cases c:qaL l.2 (vls (l.1.1,l.1.2) A) with
  | true =>
   refine qbs ⟨l.1.1,l.1.2,l.2,B,rfl,n1,n2,hB,by omega,?_⟩
   have c:qaL l.2 (vls l.1 A)=true:=c
   rw [c,Bool.true_and] at h
   exact h
  | false =>
   have c:qaL l.2 (vls l.1 A)=false:=c
   rw [c,Bool.false_and] at h
   exact qaI h
 ·refine k _ ⟨hs.filter _,fun l=>?_⟩ (yW (List.length_filter_le _ _) hll) fun l hl'=>hbl l (List.mem_filter.mp hl').1
  rw [List.mem_filter,hJ l,Bool.and_eq_true]
  rfl
end
section
variable {P:Program}{w:World}{K:W.Frag}{mg:Str->Option Value}{base:Heap}{CX:CXT}
structure TxtK (K:W.Frag) (C:Addr):Prop where
 cl:Cls K C
 n_heaps:Jc K C "heaps"
 n_kept:Jc K C "kept"
theorem qfF (p q:Pt):PyData.eqv (ptD p) (ptD q)=decide (p=q):=qgv
theorem Zo (A:List Pt):PyData.canLayAll0 (A.map ptD)=true:=jH (fun p=>rfl) A
theorem qkA (A:List Pt) (p:Pt):((A.map ptD).any fun z=>z.eqv (ptD p))=decide (p∈A):=by
 rw [List.any_map]
 by_cases h:p∈A
 ·rw [qB h]
  exact List.any_eq_true.mpr ⟨p,h,by show PyData.eqv (ptD p) (ptD p)=true;rw [qfF];exact qB rfl⟩
 ·rw [yr h]
  refine List.any_eq_false.mpr fun q hq=>?_
  show ¬ PyData.eqv (ptD q) (ptD p)=true
  rw [qfF]
  exact fun z=>h (qy z ▸ hq)
theorem Y2 {A:List Pt}{p:Pt}(h:p∈A):A.idxOf p<A.length/\A[A.idxOf p]?=some p/\∀ i q,i<A.idxOf p->A[i]?=some q->q≠p:=by
 have hl:=List.idxOf_lt_length_of_mem h
 refine ⟨hl,?_,fun i q hi hq e=>?_⟩
 ·rw [List.getElem?_eq_getElem hl,List.getElem_idxOf]
 ·subst e
  have:A.idxOf q<=i:=by
   have h1:=(ql.mp hq)
   obtain ⟨hi2,e2⟩:=h1
   refine Nat.le_of_not_lt fun hlt=>?_
   have:=List.not_of_lt_findIdx (p:=fun x=>x == q) (xs:=A) (i:=i) hi
   rw [e2] at this
   simp at this
  omega
theorem qdY {A:List Pt}{p:Pt}(h:p∈A) (hl:A.length<=4000) {R:Nat->Prop}(k:R (A.idxOf p)):∃ j:Nat,j<(A.map ptD).length/\(A.map ptD).length<=4000/\(∃ z,(A.map ptD)[j]?=some z/\z.eqv (ptD p)=true)/\(∀ i z,i<j->(A.map ptD)[i]?=some z->z.eqv (ptD p)=false)/\R j:=by
 obtain ⟨h1,h2,h3⟩:=Y2 h
 refine ⟨A.idxOf p,by rw [List.length_map];exact h1,by rw [List.length_map];exact hl,⟨ptD p,by rw [List.getElem?_map,h2];rfl,by rw [qfF];exact qB rfl⟩,fun i z hi hz=>?_,k⟩
 rw [List.getElem?_map] at hz
 obtain ⟨q,hq,rfl⟩:=Option.map_eq_some_iff.mp hz
 rw [qfF]
 exact yr (h3 i q hi hq)
def sFP:SpD:=fun es μ Q=>∃ (A:List Pt) (p:Pt),es=[.d (hpD A),.d (ptD p)]/\p∈A/\A.length<=4000/\Q (.d (.int (A.idxOf p:Nat))) μ
theorem qi0:FnScope ["heap", "point"] ["heap", "point"] (qt Jf):=⟨rfl,rfl,rfl,by decide +kernel,rfl,by decide +kernel,by decide +kernel⟩
theorem ok_fp {f:Addr}{fd:FuncData}(F:Fun K "find_place" "find_place" Jf f fd)  : FnOk P w K mg base CX 1 f fd ["heap", "point"] (qZ K sFP):=by
 refine F.okD qi0 (fun es μ Q hq0=>by obtain ⟨A,p,e,_⟩:=hq0;subst e;rfl) (fun cdv A' outer s H E es μ Q hr hq0=>?_)
 obtain ⟨A,p,e,hp,hl,k⟩:=hq0
 subst e
 have nd:=qi0.nd
 refine ⟨_,(qG (jX (yo (Zz hr.u66) (dv 1) (dv 0) rfl) (qQ qbA) y4)
   (qQ (qW (qbD (dv 0) (qf (dv 1) qr) (h:=qb0 PySem.F.plainAttrs_list PySem.F.slot_list_index PySem.F.type_list_index (ZY hr.u70) (dv 0) (qf (dv 1) qr)))))),?_⟩
 refine ⟨_,_,rfl,.d _,yU [p.1,p.2],Zo A,Jj (fun c=>?_) (fun c=>?_)⟩
 ·have c:(!((A.map ptD).any fun z=>z.eqv (ptD p)))=true:=c
  rw [qkA,qB hp] at c
  cases c
 ·exact ⟨_,.d _,.d _,Zo A,yU [p.1,p.2],qdY hp hl k⟩
def js (A:List Pt) (p q:Pt):List Pt:=A.set (A.idxOf p) q
theorem qbf {A:List Pt}{p q:Pt}(h:p∈A):A.take (A.idxOf p)++[q]++A.drop (A.idxOf p+1)=js A p q:=by
 have:=(Y2 h).1
 unfold js
 rw [List.set_eq_take_append_cons_drop,if_pos this,List.append_assoc]
 rfl
theorem qks (ds:List PyData) (i:Nat) (h:i<=ds.length):ZJ ds none (some (i:Int))=ds.take i:=by
 unfold ZJ HT.sIx
 simp only [List.drop_zero,Nat.sub_zero]
 congr 1
 simp
 rw [if_neg (by omega)]
 omega
def sStp:SpD:=fun es μ Q=>∃ (A:List Pt) (p q:Pt),es=[.d (hpD A),.d (ptD p),.d (ptD q)]/\p∈A/\A.length<=100/\Q (.d (hpD (js A p q))) μ
theorem qf5:FnScope ["heap", "point", "to", "at"] ["heap", "point", "to"] (qt Zb):=⟨rfl,rfl,rfl,by decide +kernel,rfl,by decide +kernel,by decide +kernel⟩
theorem qjD {f:Addr}{fd:FuncData}(F:Fun K "stepped" "stepped" Zb f fd) (hX:NoX CX) (Ofind_place:Own P w K mg base CX 1 "find_place" ["heap", "point"] (qZ K sFP)):FnOk P w K mg base CX 2 f fd ["heap", "point", "to"] (qZ K sStp):=by
 refine F.okD qf5 (fun es μ Q hq0=>by obtain ⟨A,p,q,e,_⟩:=hq0;subst e;rfl) (fun cdv A' outer s H E es μ Q hr hq0=>?_)
 obtain ⟨A,p,q,e,hp,hl,k⟩:=hq0
 subst e
 have nd:=qf5.nd
 refine ⟨_,(qG (yp (i:=3) nd rfl (by first | exact Or.inl rfl | exact Or.inr rfl) (yi Ofind_place hX (hr.mono (by decide)) rfl (qf (dv 0) (qf (dv 1) qr))))
   (qQ (qW (yO JV (yO JV (ZB (dv 0) Zy (Zx (dv 3))) (qaP (qf (dv 2) qr))) (ZB (dv 0) (Zx (yO JV (dv 3) qK)) Zy))))),?_⟩
 have hi:=(Y2 hp).1
 have c1:ZJ (A.map ptD) none (some ((A.idxOf p:Nat):Int))=(A.take (A.idxOf p)).map ptD:=by rw [qks _ _ (by rw [List.length_map];omega),List.map_take]
 have c2:ZJ (A.map ptD) (some (((A.idxOf p:Nat):Int)+1)) none=(A.drop (A.idxOf p+1)).map ptD:=by
  have:=qbE (A.map ptD) (A.idxOf p+1) (by rw [List.length_map];omega)
  rw [Int.natCast_add] at this
  rw [List.map_drop]
  exact this
 refine ⟨A,p,rfl,hp,by omega,_,.d _,zl1,_,_,.d _,.d _,?_,_,.d _,_,_,.d _,.d _,?_,?_⟩
 ·rw [c1,List.length_map,List.length_take];show _+1<=4000;omega
 ·rw [c1,c2,List.length_append,List.length_map,List.length_map,List.length_take,List.length_drop];show _+1+_<=4000;omega
 ·rw [c1,c2]
  rw [<- qbf hp] at k
  unfold hpD at k
  rw [List.map_append,List.map_append] at k
  exact k
def sLW:SpD:=fun es μ Q=>∃ ls ms:List Ln,es=[.d (.list (ls.map lnD)),.d (.list (ms.map lnD))]/\ls.length<4000/\ms.length<4000/\Q (.d (.list ((ls.filter fun l=>!decide (l∈ms)).map lnD))) μ
theorem qhT {ms:List Ln}{l:Ln}:lnK l∈ms.map lnK ↔ l∈ms:=by
 constructor
 ·intro h
  obtain ⟨m,hm,e⟩:=qv.mp h
  rw [<- qdJ e];exact hm
 ·exact fun h=>qv.mpr ⟨l,h,rfl⟩
theorem qhU (ls:List Ln):ls.map lnD=(ls.map lnK).map jO:=by rw [List.map_map];rfl
theorem qhS (ls:List Ln):∀ k∈ls.map lnK,k≠[]:=fun k hk=>by
 obtain ⟨x,_,rfl⟩:=qv.mp hk
 exact fun z=>nomatch z
theorem qjT (l:Ln):lnK l≠[]:=fun h=>nomatch h
theorem qiZ:FnScope ["lines", "others", "known"] ["lines", "others"] (qt yX):=⟨rfl,rfl,rfl,by decide +kernel,rfl,by decide +kernel,by decide +kernel⟩
theorem ok_lw {f:Addr}{fd:FuncData}(F:Fun K "lines_without" "lines_without" yX f fd) (T:Txt mg):FnOk P w K mg base CX 1 f fd ["lines", "others"] (qZ K sLW):=by
 refine F.okD qiZ (fun es μ Q hq0=>by obtain ⟨ls,ms,e,_⟩:=hq0;subst e;rfl) (fun cdv A' outer s H E es μ Q hr hq0=>?_)
 obtain ⟨ls,ms,e,hl,hm,k⟩:=hq0
 subst e
 have nd:=qiZ.nd
 refine ⟨_,(qG (yp (i:=2) nd rfl (by first | exact Or.inl rfl | exact Or.inr rfl) (jv (qgA (P:=P) (w:=w) (K:=K) rfl hr.units) (by rfl) T.set_ qgH (qf (dv 1) qr)))
   (qQ (qW (Jr (L:=["line"]) (sc:=qt yX) (N:=["lines", "others", "known"]) rfl rfl rfl (by decide +kernel) (y8 (dv 0)) (fun _ _ _ _ _=>(qS (i:=3) (show List.Nodup (["lines", "others", "known", "line"]:List Str) from by decide +kernel) rfl (by first | exact Or.inl rfl | exact Or.inr rfl))) (fun _ _ _ _ _=>(JD (yo (qcc (P:=P) (w:=w) (K:=K) hr.units) (dv 3) (dv 2) rfl))) (fun _ _ _ _ _=>(dv 3)))))),?_⟩
 refine ⟨ms.map lnK,by rw [<- qhU];exact .d _,qhS ms,by rw [List.length_map];omega,fun us hu hn h77=>?_⟩
 refine ⟨_,.d _,(by show (ls.map lnD).length<=4000;rw [List.length_map];omega),YG (as:=ls) (h:=lnD) (fun l=>!decide (l∈ms)) lnD (Src.l (.d _)) (fun l hl' R h=>⟨us,lnK l,rfl,qjT l,rfl,?_⟩) (fun l hl' _ R h=>h) k⟩
 have e:decide (lnK l∈us)=decide (l∈ms):=by rw [decide_eq_decide,hu,qhT]
 rw [<- e] at h
 exact h
def KI (C dx h:Addr) (ls:List Ln):MO:=.ins C dx [("heaps",.m h),("kept",.d (.list (ls.map lnD)))]
def KH (A B:List Pt):MO:=.lst [hpD A,hpD B]
theorem nHK:¬ (("heaps" : Str) = "kept"):=by decide +kernel
theorem Jo {a b:En}:([(("heaps" : Str),a),("kept",b)]:List (Str×En)).lookup ("heaps" : Str)=some a:=by simp [List.lookup_cons]
theorem Zn {a b:En}:([(("heaps" : Str),a),("kept",b)]:List (Str×En)).lookup ("kept" : Str)=some b:=by
 have:(("kept" : Str) == "heaps")=false:=by decide +kernel
 simp [List.lookup_cons,this]
theorem qb6 {a b:En}{m:Str}(h1:(m == ("heaps" : Str))=false:=by decide +kernel) (h2:(m == ("kept" : Str))=false:=by decide +kernel):([(("heaps" : Str),a),("kept",b)]:List (Str×En)).lookup m=none:=by
 simp [List.lookup_cons,h1,h2]
theorem qe6 {a b c:En}:qeI "kept" c [(("heaps" : Str),a),("kept",b)]=[(("heaps" : Str),a),("kept",c)]:=by
 unfold qeI
 rw [if_neg nHK]
 unfold qeI
 rw [if_pos rfl]
theorem qc0 {a c:En}:qeI "kept" c [(("heaps" : Str),a)]=[(("heaps" : Str),a),("kept",c)]:=by
 unfold qeI
 rw [if_neg nHK]
 rfl
def qhg (C tb:Addr):SpD:=fun es μ Q=>∃ (p dx:Addr) (A B:List Pt) (μ0:Mu),es=[.m p,.d (hpD A),.d (hpD B)]/\μ=(p,.ins C dx [])::μ0/\A.length+B.length<=44/\Bds A/\Bds B/\TB tb∈μ0 ∧
 ∀ (h:Addr) (ls:List Ln),qeN A B ls->ls.length<4000->(∀ l∈ls,LBd l)->Q (.d .none) ((h,KH A B)::(p,KI C dx h ls)::μ0)
theorem qba:FnScope ["self", "one", "other"] ["self", "one", "other"] (qt y7):=⟨rfl,rfl,rfl,by decide +kernel,rfl,by decide +kernel,by decide +kernel⟩
theorem qfn {f:Addr}{fd:FuncData}(F:Fun K "__init__" "Keeper.__init__" y7 f fd) {C tb:Addr}(TKeeper:TxtK K C) (T:Txt mg) (hX:NoX CX) (Oall_lines:Own P w K mg base CX 7 "all_lines" ["one", "other"] (qZ K (qkJ tb))):FnOk P w K mg base CX 8 f fd ["self", "one", "other"] (qZ K (qhg C tb)):=by
 refine F.okD qba (fun es μ Q hq0=>by obtain ⟨p,dx,A,B,μ0,e,_⟩:=hq0;subst e;rfl) (fun cdv A' outer s H E es μ Q hr hq0=>?_)
 obtain ⟨p,dx,A,B,μ0,e,e0,hl,hA,hB,htb,k⟩:=hq0
 subst e e0
 have nd:=qba.nd
 refine ⟨_,(qG (qej TKeeper.cl TKeeper.n_heaps (dv 0) (qer (qf (jv JF (by rfl) T.list_ JK (qf (dv 1) qr)) (qf (jv JF (by rfl) T.list_ JK (qf (dv 2) qr)) qr))))
   (qQ (qej TKeeper.cl TKeeper.n_kept (dv 0) (yi Oall_lines hX (hr.mono (by decide)) rfl (qf (dv 1) (qf (dv 2) qr)))))),?_⟩
 refine ⟨_,.l (.d _),_,.l (.d _),zl2,fun h hh=>?_⟩
 refine ⟨p,dx,[],_,[(h,.lst [.list (A.map ptD),.list (B.map ptD)])],μ0,rfl,rfl,rfl,by decide,?_⟩
 refine ⟨A,B,rfl,hl,hA,hB,qe _ (qe _ htb),fun ls hL h4 hb=>?_⟩
 refine ⟨p,dx,[("heaps",.m h)],_,[(h,.lst [.list (A.map ptD),.list (B.map ptD)])],μ0,rfl,rfl,qc0,(show 1<1000 by decide),?_⟩
 exact k h ls hL h4 hb
def at2 (wh:Int) (A B:List Pt):List Pt:=if wh=0 then A else B
theorem qgJ {wh:Int}(h:wh=0\/wh=1) (A B:List Pt):atI [hpD A,hpD B] wh=some (hpD (at2 wh A B)):=by
 rcases h with rfl | rfl
 ·exact JM (j:=0) rfl
 ·exact JM (j:=1) rfl
def qcT (C:Addr):SpD:=fun es μ Q=>∃ (p dx h:Addr) (A B:List Pt) (ls:List Ln) (wh:Int),es=[.m p,.d (.int wh)]/\(p,KI C dx h ls)∈μ/\(h,KH A B)∈μ/\(wh=0\/wh=1)/\Q (.d (hpD (at2 wh A B))) μ
theorem qbb:FnScope ["self", "which"] ["self", "which"] (qt jV):=⟨rfl,rfl,rfl,by decide +kernel,rfl,by decide +kernel,by decide +kernel⟩
theorem qfo {f:Addr}{fd:FuncData}(F:Fun K "heap" "Keeper.heap" jV f fd) {C:Addr}(TKeeper:TxtK K C) (T:Txt mg):FnOk P w K mg base CX 1 f fd ["self", "which"] (qZ K (qcT C)):=by
 refine F.okD qbb (fun es μ Q hq0=>by obtain ⟨p,dx,h,A,B,ls,wh,e,_⟩:=hq0;subst e;rfl) (fun cdv A' outer s H E es μ Q hr hq0=>?_)
 obtain ⟨p,dx,h,A,B,ls,wh,e,hp,hh,hw,k⟩:=hq0
 subst e
 have nd:=qbb.nd
 refine ⟨_,(qQ (qW (jv JF (by rfl) T.list_ JK (qf (jP yy (ZC TKeeper.cl TKeeper.n_heaps (dv 0) rfl) (dv 1) (fun _ _=>rfl)) qr)))),?_⟩
 exact ⟨p,dx,_,_,rfl,hp,Jo,_,_,hh,qgJ hw A B,_,.l (.d _),k⟩
def qaw (C:Addr):SpD:=fun es μ Q=>∃ (p dx h:Addr) (ls:List Ln),es=[.m p]/\(p,KI C dx h ls)∈μ/\Q (.d (.list (ls.map lnD))) μ
theorem ZR:FnScope ["self"] ["self"] (qt jJ):=⟨rfl,rfl,rfl,by decide +kernel,rfl,by decide +kernel,by decide +kernel⟩
theorem qdl {f:Addr}{fd:FuncData}(F:Fun K "lines" "Keeper.lines" jJ f fd) {C:Addr}(TKeeper:TxtK K C) (T:Txt mg):FnOk P w K mg base CX 1 f fd ["self"] (qZ K (qaw C)):=by
 refine F.okD ZR (fun es μ Q hq0=>by obtain ⟨p,dx,h,ls,e,_⟩:=hq0;subst e;rfl) (fun cdv A' outer s H E es μ Q hr hq0=>?_)
 obtain ⟨p,dx,h,ls,e,hp,k⟩:=hq0
 subst e
 have nd:=ZR.nd
 refine ⟨_,(qQ (qW (jv JF (by rfl) T.list_ JK (qf (ZC TKeeper.cl TKeeper.n_kept (dv 0) rfl) qr)))),?_⟩
 exact ⟨p,dx,_,_,rfl,hp,Zn,_,.l (.d _),k⟩
def JR (wh:Int) (X A B:List Pt):List Pt×List Pt:=if wh=0 then (X,B) else (A,X)
theorem qg9 {wh:Int}(h:wh=0\/wh=1) (X A B:List Pt):0<=wh/\wh.toNat < [hpD A,hpD B].length/\[hpD A,hpD B].set wh.toNat (hpD X)=[hpD (JR wh X A B).1,hpD (JR wh X A B).2]:=by
 rcases h with rfl | rfl
 ·exact ⟨by decide,by show 0<2;decide,rfl⟩
 ·exact ⟨by decide,by show 1<2;decide,rfl⟩
def qjK (ls ms:List Ln):PyData:=.tuple [.list ((ls.filter fun l=>!decide (l∈ms)).map lnD),.list ((ms.filter fun l=>!decide (l∈ls)).map lnD)]
def sPut (C tb:Addr):SpD:=fun es μ Q=>∃ (p dx h:Addr) (A B X:List Pt) (ls:List Ln) (wh:Int) (μ1 μ2:Mu),es=[.m p,.d (.int wh),.d (hpD X)]/\μ=μ1++(h,KH A B)::(p,KI C dx h ls)::μ2/\(wh=0\/wh=1)/\ls.length<4000 ∧
 (JR wh X A B).1.length+(JR wh X A B).2.length<=44/\Bds (JR wh X A B).1/\Bds (JR wh X A B).2/\TB tb∈μ1++μ2 ∧
 ∀ ms:List Ln,qeN (JR wh X A B).1 (JR wh X A B).2 ms->ms.length<4000->(∀ l∈ms,LBd l)->Q (.d (qjK ls ms)) (μ1++(h,KH (JR wh X A B).1 (JR wh X A B).2)::(p,KI C dx h ms)::μ2)
theorem qfq {μ1 μ2:Mu}{x a b:Addr×MO}(h:x∈μ1++μ2):x∈μ1++a::b::μ2:=by
 rcases List.mem_append.mp h with h | h
 ·exact qp _ h
 ·exact qb _ (qe _ (qe _ h))
theorem qcN:FnScope ["self", "which", "heap", "elder"] ["self", "which", "heap"] (qt Jh):=⟨rfl,rfl,rfl,by decide +kernel,rfl,by decide +kernel,by decide +kernel⟩
theorem qhG {f:Addr}{fd:FuncData}(F:Fun K "put" "Keeper.put" Jh f fd) {C tb:Addr}(TKeeper:TxtK K C) (hX:NoX CX) (Oall_lines:Own P w K mg base CX 7 "all_lines" ["one", "other"] (qZ K (qkJ tb))) (Olines_without:Own P w K mg base CX 1 "lines_without" ["lines", "others"] (qZ K sLW)):FnOk P w K mg base CX 8 f fd ["self", "which", "heap"] (qZ K (sPut C tb)):=by
 refine F.okD qcN (fun es μ Q hq0=>by obtain ⟨p,dx,h,A,B,X,ls,wh,μ1,μ2,e,_⟩:=hq0;subst e;rfl) (fun cdv A' outer s H E es μ Q hr hq0=>?_)
 obtain ⟨p,dx,h,A,B,X,ls,wh,μ1,μ2,e,e0,hw,hl,hz,hA,hB,htb,k⟩:=hq0
 subst e e0
 have nd:=qcN.nd
 refine ⟨_,(qG (yp (i:=3) nd rfl (by first | exact Or.inl rfl | exact Or.inr rfl) (ZC TKeeper.cl TKeeper.n_kept (dv 0) rfl))
   (qG (j9 (dv 2) (qgz (ZC TKeeper.cl TKeeper.n_heaps (dv 0) rfl) (dv 1)))
   (qG (qej TKeeper.cl TKeeper.n_kept (dv 0) (yi Oall_lines hX (hr.mono (by decide)) rfl (qf (jP yy (ZC TKeeper.cl TKeeper.n_heaps (dv 0) rfl) qK (fun _ _=>rfl)) (qf (jP yy (ZC TKeeper.cl TKeeper.n_heaps (dv 0) rfl) qK (fun _ _=>rfl)) qr))))
   (qQ (qW (YF (qf (yi Olines_without hX (hr.mono (by decide)) rfl (qf (dv 3) (qf (ZC TKeeper.cl TKeeper.n_kept (dv 0) rfl) qr))) (qf (yi Olines_without hX (hr.mono (by decide)) rfl (qf (ZC TKeeper.cl TKeeper.n_kept (dv 0) rfl) (qf (dv 3) qr))) qr)))))))),?_⟩
 obtain ⟨w0,w1,ws⟩:=qg9 hw X A B
 have mp:∀ o o',(p,o)∈μ1++(h,o')::(p,o)::μ2:=fun o o'=>qb _ (qe _ qg)
 have mh:∀ o o',(h,o')∈μ1++(h,o')::(p,o)::μ2:=fun o o'=>qb _ qg
 refine ⟨p,dx,_,_,rfl,mp _ _,Zn,?_⟩
 refine ⟨p,dx,_,_,rfl,mp _ _,Jo,μ1,(p,KI C dx h ls)::μ2,_,rfl,w0,w1,?_⟩
 rw [ws]
 refine ⟨p,dx,_,_,rfl,mp _ _,Jo,_,_,mh _ _,JM (j:=0) rfl,p,dx,_,_,rfl,mp _ _,Jo,_,_,mh _ _,JM (j:=1) rfl,_,_,rfl,hz,hA,hB,qfq htb,fun ms hL h4 hb=>?_⟩
 refine ⟨p,dx,_,_,μ1++[(h,KH (JR wh X A B).1 (JR wh X A B).2)],μ2,rfl,by rw [List.append_assoc];rfl,qe6,(show 2<1000 by decide),?_⟩
 rw [List.append_assoc]
 refine ⟨p,dx,_,_,rfl,mp _ _,Zn,ls,ms,rfl,hl,h4,p,dx,_,_,rfl,mp _ _,Zn,ms,ls,rfl,h4,hl,zl2,?_⟩
 exact k ms hL h4 hb
def qhb (C tb:Addr):SpD:=fun es μ Q=>∃ (p dx h:Addr) (A B:List Pt) (q g:Pt) (ls:List Ln) (wh:Int) (μ1 μ2:Mu),es=[.m p,.d (.int wh),.d (ptD q),.d (ptD g)]/\μ=μ1++(h,KH A B)::(p,KI C dx h ls)::μ2/\(wh=0\/wh=1)/\q∈at2 wh A B/\ls.length<4000 ∧
 A.length+B.length<=44/\Bds A/\Bds B/\Bd B30 g/\TB tb∈μ1++μ2 ∧
 ∀ ms:List Ln,qeN (JR wh (js (at2 wh A B) q g) A B).1 (JR wh (js (at2 wh A B) q g) A B).2 ms->ms.length<4000->(∀ l∈ms,LBd l)->Q (.d (qjK ls ms)) (μ1++(h,KH (JR wh (js (at2 wh A B) q g) A B).1 (JR wh (js (at2 wh A B) q g) A B).2)::(p,KI C dx h ms)::μ2)
theorem jK (A:List Pt) (p q:Pt):(js A p q).length=A.length:=by unfold js;rw [List.length_set]
theorem qbg {A:List Pt}{p q:Pt}(hA:Bds A) (hq:Bd B30 q):Bds (js A p q):=fun z hz=>by
 rcases List.mem_or_eq_of_mem_set hz with h | h
 ·exact hA z h
 ·rw [h];exact hq
theorem qa9:FnScope ["self", "which", "point", "to"] ["self", "which", "point", "to"] (qt jU):=⟨rfl,rfl,rfl,by decide +kernel,rfl,by decide +kernel,by decide +kernel⟩
theorem qfm {f:Addr}{fd:FuncData}(F:Fun K "step" "Keeper.step" jU f fd) {C tb:Addr}(TKeeper:TxtK K C) (hX:NoX CX) (MKeeper_put:Jd P w K mg base CX 8 C "put" ["self", "which", "heap"] (qZ K (sPut C tb))) (Ostepped:Own P w K mg base CX 2 "stepped" ["heap", "point", "to"] (qZ K sStp)):FnOk P w K mg base CX 9 f fd ["self", "which", "point", "to"] (qZ K (qhb C tb)):=by
 refine F.okD qa9 (fun es μ Q hq0=>by obtain ⟨p,dx,h,A,B,q,g,ls,wh,μ1,μ2,e,_⟩:=hq0;subst e;rfl) (fun cdv A' outer s H E es μ Q hr hq0=>?_)
 obtain ⟨p,dx,h,A,B,q,g,ls,wh,μ1,μ2,e,e0,hw,hq,hl,hz,hA,hB,hg,htb,k⟩:=hq0
 subst e e0
 have nd:=qa9.nd
 refine ⟨_,(qQ (qW (qeq MKeeper_put hX (hr.mono (by decide)) (dv 0) (qf (dv 1) (qf (yi Ostepped hX (hr.mono (by decide)) rfl (qf (jP yy (ZC TKeeper.cl TKeeper.n_heaps (dv 0) rfl) (dv 1) (fun _ _=>rfl)) (qf (dv 2) (qf (dv 3) qr)))) qr))))),?_⟩
 have mp:∀ o o',(p,o)∈μ1++(h,o')::(p,o)::μ2:=fun o o'=>qb _ (qe _ qg)
 have mh:∀ o o',(h,o')∈μ1++(h,o')::(p,o)::μ2:=fun o o'=>qb _ qg
 refine ⟨p,dx,_,rfl,mp _ _,qb6,p,dx,_,_,rfl,mp _ _,Jo,_,_,mh _ _,qgJ hw A B,at2 wh A B,q,g,rfl,hq,?_,?_⟩
 ·unfold at2;split <;> omega
 ·refine ⟨p,dx,h,A,B,_,ls,wh,μ1,μ2,rfl,rfl,hw,hl,?_,?_,?_,htb,k⟩
  ·rcases hw with rfl | rfl
   ·show (js A q g).length+B.length<=44;rw [jK];exact hz
   ·show A.length+(js B q g).length<=44;rw [jK];exact hz
  ·rcases hw with rfl | rfl
   ·exact qbg hA hg
   ·exact hA
  ·rcases hw with rfl | rfl
   ·exact hB
   ·exact qbg hB hg
end
section
variable {P:Program}{w:World}{K:W.Frag}{mg:Str->Option Value}{base:Heap}{CX:CXT}
def qa4 (K:W.Frag) (tb:Addr):Sp:=fun vs H Q _=>∃ (a:Addr) (ns:List Int),vs=[.ref a]/\SqL K H a (ns.map V.int)/\H tb=some (.tbl #[])/\ns.length<=63/\∀ H',Q (.bl true) H'
def qi4 (tb:Addr):SpD:=fun es μ Q=>∃ ns:List Int,es=[.d (.list (ns.map .int))]/\ns.length<=63/\μ=[TB tb]/\∀ μ',Q (.d (.bool true)) μ'
theorem qhW {tb:Addr}{vs:List V}{H:Hp}{Q:VK}{E:XK}(h:qa4 K tb vs H Q E):qZ K (qi4 tb) vs H Q E:=by
 obtain ⟨a,ns,rfl,hS,ht,hl,q⟩:=h
 have nt:∀ o,H a=some o->(∀ ps,o≠.tbl ps)->a∉[TB tb].map Prod.fst:=fun o e hu z=>by
  have z:a=tb:=by simpa using z
  rw [z,ht] at e
  cases e
  exact hu _ rfl
 refine ⟨[TB tb],[.d (.list (ns.map .int))],fun e _=>e = .d (.bool true),⟨by simp,fun b o hb=>?_⟩,.cons ?_ .nil,⟨ns,rfl,hl,rfl,fun _=>rfl⟩,?_⟩
 ·cases qA.mp hb
  exact ⟨_,ht,#[],rfl,.inl rfl⟩
 ·refine .lst ?_ (IsAll.ints ns)
  rcases hS with (e | ⟨o,e⟩) | e
  ·exact .inl (.inl (by rw [q9 (nt _ e fun _ z=>by cases z)];exact e))
  ·exact .inl (.inr ⟨o,by rw [q9 (nt _ e fun _ z=>by cases z)];exact e⟩)
  ·exact .inr e
 ·rintro e μ' v H' rfl _ _ i
  cases i
  exact q H'
theorem jc (ls:List Ln):SeqAt.shaped (.list (ls.map lnD))=true:=by
 have d2:PyData.depthAll (ls.map lnD)<=3:=YE (n:=2) (fun p=>by unfold lnD lnK jO;simp [PyData.depth,PyData.depthAll]) ls
 have h1:PyData.canLayAll0 (ls.map lnD)=true:=jH (fun p=>rfl) ls
 unfold SeqAt.shaped
 rw [Bool.and_eq_true]
 refine ⟨by simp only [PyData.canLay0,h1],qB ?_⟩
 simp only [PyData.depth]
 omega
theorem neF {B:PyData}(h:SeqAt.shaped B=true):¬ (!PyData.eqv B B)=true:=fun z=>by
 rw [qbV h] at z;exact absurd z (by decide)
theorem qdp {q:Pt}(h:qci q):Bd B30 q:=by
 obtain ⟨h1,h2⟩:=h
 unfold Num at h1 h2
 exact ⟨(show q.1.natAbs<=1000000000000000000000000000000 by omega),(show q.2.natAbs<=1000000000000000000000000000000 by omega)⟩
theorem JA {ps:List Pt}(h:∀ q∈ps,qci q):Bds ps:=fun q hq=>qdp (h q hq)
theorem qbd {A:List Pt}{q:Pt}(h:q∈A):∃ X Y,A=X++q::Y/\∀ g,js A q g=X++g::Y:=by
 refine ⟨A.take (A.idxOf q),A.drop (A.idxOf q+1),?_,fun g=>?_⟩
 ·obtain ⟨hl,e,_⟩:=Y2 h
  have e2:A[A.idxOf q]=q:=(ql.mp e).2
  have:=y6 hl
  rw [e2] at this
  rw [<- this,qD]
 ·rw [<- qbf h,List.append_assoc];rfl
theorem qbH {A:List Pt}{q g:Pt}{f:Pt->Bool}(h:q∈A) (e:f q=f g):(js A q g).countP f=A.countP f:=by
 obtain ⟨X,Y,e1,e2⟩:=qbd h
 rw [e2 g,e1,List.countP_append,List.countP_append,List.countP_cons,List.countP_cons,e]
def Far (l:Ln) (q:Pt):Int:=vl l.1 q - l.2
theorem qbv {A:List Pt}{q g:Pt}{l:Ln}(h:q∈A) (h1:Far l q≠0) (h2:Far l g≠0) (h3:0<Far l q ↔ 0<Far l g):qaL l.2 (vls l.1 (js A q g))=qaL l.2 (vls l.1 A):=by
 have e1:∀ z:Pt,z.1 * l.1.1+z.2 * l.1.2=z.1 * l.1.1+z.2 * l.1.2:=fun _=>rfl
 have v:∀ z:Pt,l.1.1 * z.1+l.1.2 * z.2=vl l.1 z:=fun _=>rfl
 unfold qaL cLt cGt vls
 rw [List.countP_map,List.countP_map,List.countP_map,List.countP_map,List.length_map,List.length_map,jK]
 unfold Far at h1 h2 h3
 rw [qbH h (by show decide (vl l.1 q<l.2)=decide (vl l.1 g<l.2);rw [decide_eq_decide];omega),qbH h (by show decide (l.2<vl l.1 q)=decide (l.2<vl l.1 g);rw [decide_eq_decide];omega)]
theorem Yd {A:List Pt}{q g z:Pt}(h:q∈A):(z∈A->z≠q->z∈js A q g)/\(z∈js A q g->z≠g->z∈A):=by
 obtain ⟨X,Y,e1,e2⟩:=qbd h
 rw [e2 g,e1]
 simp only [List.mem_append,List.mem_cons]
 constructor
 ·rintro (h | h | h) n
  ·exact .inl h
  ·exact absurd h n
  ·exact .inr (.inr h)
 ·rintro (h | h | h) n
  ·exact .inl h
  ·exact absurd h n
  ·exact .inr (.inr h)
theorem Jp {ps rs:List Pt}{l:Ln}{q:Pt}(h1:Far l q≠0) (hm:∀ z∈ps,z≠q->z∈rs) (h:JN ps l):JN rs l:=by
 obtain ⟨hn,a,ha,b,hb,hab,e1,e2⟩:=h
 unfold Far at h1
 exact ⟨hn,a,hm a ha (fun e=>h1 (by rw [<- e,e1];omega)),b,hm b hb (fun e=>h1 (by rw [<- e,e2];omega)),hab,e1,e2⟩
theorem qeC {A B:List Pt}{q g:Pt}{wh:Int}{l:Ln}(hw:wh=0\/wh=1) (hq:q∈at2 wh A B) (h1:Far l q≠0) (h2:Far l g≠0) (h3:0<Far l q ↔ 0<Far l g) :
  qfY A B l ↔ qfY (JR wh (js (at2 wh A B) q g) A B).1 (JR wh (js (at2 wh A B) q g) A B).2 l:=by
 rcases hw with rfl | rfl
 ·have hq:q∈A:=hq
  show qfY A B l ↔ qfY (js A q g) B l
  unfold qfY
  rw [qbv hq h1 h2 h3]
  have j:JN (A++B) l ↔ JN (js A q g++B) l:=⟨Jp h1 fun z hz hn=>by
   rcases List.mem_append.mp hz with h | h
   ·exact qp _ ((Yd hq).1 h hn)
   ·exact qb _ h,Jp h2 fun z hz hn=>by
   rcases List.mem_append.mp hz with h | h
   ·exact qp _ ((Yd hq).2 h hn)
   ·exact qb _ h⟩
  rw [j]
 ·have hq:q∈B:=hq
  show qfY A B l ↔ qfY A (js B q g) l
  unfold qfY
  rw [qbv hq h1 h2 h3]
  have j:JN (A++B) l ↔ JN (A++js B q g) l:=⟨Jp h1 fun z hz hn=>by
   rcases List.mem_append.mp hz with h | h
   ·exact qp _ h
   ·exact qb _ ((Yd hq).1 h hn),Jp h2 fun z hz hn=>by
   rcases List.mem_append.mp hz with h | h
   ·exact qp _ h
   ·exact qb _ ((Yd hq).2 h hn)⟩
  rw [j]
def Passes (l:Ln) (q g:Pt):Prop:=Far l q=0\/Far l g=0\/¬ (0<Far l q ↔ 0<Far l g)
theorem qdf {A B:List Pt}{q g:Pt}{wh:Int}{ls ms:List Ln}{l:Ln}(hw:wh=0\/wh=1) (hq:q∈at2 wh A B) (h1:qeN A B ls) (h2:qeN (JR wh (js (at2 wh A B) q g) A B).1 (JR wh (js (at2 wh A B) q g) A B).2 ms)
  (h:(l∈ls/\l∉ms)\/(l∈ms/\l∉ls)):Passes l q g:=by
 unfold Passes
 by_cases a:Far l q=0
 ·exact .inl a
 by_cases b:Far l g=0
 ·exact .inr (.inl b)
 refine .inr (.inr fun c=>?_)
 have:=qeC (l:=l) hw hq a b c
 rw [h1.2 l,h2.2 l] at h
 rcases h with ⟨x,y⟩ | ⟨x,y⟩
 ·exact y (this.mp x)
 ·exact y (this.mpr x)
def sFF:SpD:=fun es μ Q=>∃ (l:Ln) (q:Pt),es=[.d (lnD l),.d (ptD q)]/\LBd l/\Bd B30 q/\Q (.d (.int (Far l q))) μ
theorem qi1:FnScope ["_law_line", "_law_point_here"] ["_law_line", "_law_point_here"] (qt jz):=⟨rfl,rfl,rfl,by decide +kernel,rfl,by decide +kernel,by decide +kernel⟩
theorem ok_ff {f:Addr}{fd:FuncData}(F:Fun K "_law_far_from" "_law_far_from" jz f fd)  : FnOk P w K mg base CX 1 f fd ["_law_line", "_law_point_here"] (qZ K sFF):=by
 refine F.okD qi1 (fun es μ Q hq0=>by obtain ⟨l,q,e,_⟩:=hq0;subst e;rfl) (fun cdv A' outer s H E es μ Q hr hq0=>?_)
 obtain ⟨l,q,e,hl,hq,k⟩:=hq0
 subst e
 have nd:=qi1.nd
 refine ⟨_,(qQ (qW (yO jN (yO Ja (yO y9 (jP yy (dv 0) qK (fun _ _=>rfl)) (jP yy (dv 1) qK (fun _ _=>rfl))) (yO y9 (jP yy (dv 0) qK (fun _ _=>rfl)) (jP yy (dv 1) qK (fun _ _=>rfl)))) (jP yy (dv 0) qK (fun _ _=>rfl))))),?_⟩
 have n1:l.1.1.natAbs<=B40:=qu hl.1.1 (by decide)
 have n2:l.1.2.natAbs<=B40:=qu hl.1.2 (by decide)
 exact ⟨_,rfl,_,rfl,ZX n1 (qu hq.1 (by decide)),_,rfl,_,rfl,ZX n2 (qu hq.2 (by decide)),_,rfl,k⟩
def sPs:SpD:=fun es μ Q=>∃ (l:Ln) (q g:Pt),es=[.d (lnD l),.d (ptD q),.d (ptD g)]/\LBd l/\Bd B30 q/\Bd B30 g/\Passes l q g/\Q (.d (.bool true)) μ
theorem qiX:FnScope ["_law_line", "_law_point_here", "_law_goal", "_law_one", "_law_other"] ["_law_line", "_law_point_here", "_law_goal"] (qt jS):=⟨rfl,rfl,rfl,by decide +kernel,rfl,by decide +kernel,by decide +kernel⟩
theorem ok_ps {f:Addr}{fd:FuncData}(F:Fun K "_law_passes" "_law_passes" jS f fd) (hX:NoX CX) (O_law_far_from:Own P w K mg base CX 1 "_law_far_from" ["_law_line", "_law_point_here"] (qZ K sFF)):FnOk P w K mg base CX 2 f fd ["_law_line", "_law_point_here", "_law_goal"] (qZ K sPs):=by
 refine F.okD qiX (fun es μ Q hq0=>by obtain ⟨l,q,g,e,_⟩:=hq0;subst e;rfl) (fun cdv A' outer s H E es μ Q hr hq0=>?_)
 obtain ⟨l,q,g,e,hl,hq,hg,hp,k⟩:=hq0
 subst e
 have nd:=qiX.nd
 refine ⟨_,(qG (yp (i:=3) nd rfl (by first | exact Or.inl rfl | exact Or.inr rfl) (yi O_law_far_from hX (hr.mono (by decide)) rfl (qf (dv 0) (qf (dv 1) qr))))
   (qG (yp (i:=4) nd rfl (by first | exact Or.inl rfl | exact Or.inr rfl) (yi O_law_far_from hX (hr.mono (by decide)) rfl (qf (dv 0) (qf (dv 2) qr))))
   (qQ (qW (d_or (qaR (YM hr.units) (dv 3) qK (yk _)) (d_or (qaR (YM hr.units) (dv 4) qK (yk _)) (qki (qaR (ZA hr.units) (qaR qfH (dv 3) qK (yk _)) (qaR qfH (dv 4) qK (yk _)) (yk _))))))))),?_⟩
 refine ⟨l,q,rfl,hl,hq,l,g,rfl,hl,hg,Jj (fun c=>?_) (fun c=>Jj (fun c2=>?_) (fun c2=>?_))⟩
 ·exact k
 ·exact k
 ·have c:¬ decide (Far l q=0)=true:=c
  have c2:¬ decide (Far l g=0)=true:=c2
  have a:Far l q≠0:=fun e=>c (qB e)
  have b:Far l g≠0:=fun e=>c2 (qB e)
  refine ⟨_,_,.d _,.d _,rfl,rfl,?_⟩
  have:(!PyData.eqv (.bool (decide (0<Far l q))) (.bool (decide (0<Far l g))))=true:=by
   rcases hp with h | h | h
   ·exact absurd h a
   ·exact absurd h b
   ·by_cases x:0<Far l q <;> by_cases y:0<Far l g <;> simp [x,y,PyData.eqv] at h ⊢
  rw [<- this] at k
  exact k
theorem qgl (l m:Ln):PyData.eqv (lnD l) (lnD m)=decide (l=m):=by
 obtain ⟨⟨a,b⟩,c⟩:=l
 obtain ⟨⟨d,e⟩,f⟩:=m
 by_cases h1:a=d <;> by_cases h2:b=e <;> by_cases h3:c=f <;> simp [lnD,lnK,jO,PyData.eqv,PyData.eqvAll,h1,h2,h3]
theorem qgK (ms:List Ln) (l:Ln):((ms.map lnD).any fun z=>z.eqv (lnD l))=decide (l∈ms):=by
 rw [List.any_map]
 by_cases h:l∈ms
 ·rw [qB h]
  exact List.any_eq_true.mpr ⟨l,h,by show PyData.eqv (lnD l) (lnD l)=true;rw [qgl];exact qB rfl⟩
 ·rw [yr h]
  refine List.any_eq_false.mpr fun q hq=>?_
  show ¬ PyData.eqv (lnD q) (lnD l)=true
  rw [qgl]
  exact fun z=>h (qy z ▸ hq)
theorem Zp (ls:List Ln):PyData.canLayAll0 (ls.map lnD)=true:=jH (fun p=>rfl) ls
theorem fm_len {α β γ:Type}(f:α->β->γ) (ys:List β):∀ xs:List α,(xs.flatMap fun p=>ys.map (f p)).length=xs.length * ys.length
 | []=>by simp
 | x::xs=>by
  rw [List.flatMap_cons,List.length_append,List.length_map,fm_len f ys xs,List.length_cons,Nat.add_mul]
  omega
theorem qeD {A B:List Pt}{ls:List Ln}(h:qeN A B ls):ls.length<=(A.length+B.length) * (A.length+B.length):=by
 have:=jF (YI h.1) (kss:=(A++B).flatMap fun p=>(A++B).map fun q=>qiD (p,q)) fun l hl=>by
  obtain ⟨p,hp,q,hq,_,rfl⟩:=Zq ((h.2 l).mp hl).1
  exact List.mem_flatMap.mpr ⟨p,hp,qv.mpr ⟨q,hq,rfl⟩⟩
 rw [fm_len (fun p q=>qiD (p,q)),List.length_append] at this
 exact this
theorem qeY {wh:Int}(hw:wh=0\/wh=1) (A B:List Pt) (q g:Pt):(JR wh (js (at2 wh A B) q g) A B).1.length+(JR wh (js (at2 wh A B) q g) A B).2.length=A.length+B.length:=by
 rcases hw with rfl | rfl
 ·show (js A q g).length+B.length=_;rw [jK]
 ·show A.length+(js B q g).length=_;rw [jK]
def sSR (C tb:Addr):SpD:=fun es μ Q=>∃ (p dx h:Addr) (A B:List Pt) (q g:Pt) (ls:List Ln) (wh:Int) (μ1 μ2:Mu),es=[.m p,.d (.int wh),.d (ptD q),.d (ptD g)]/\μ=μ1++(h,KH A B)::(p,KI C dx h ls)::μ2/\(wh=0\/wh=1)/\q∈at2 wh A B/\ls.length<4000 ∧
 A.length+B.length<=44/\Bds A/\Bds B/\Bd B30 g/\TB tb∈μ1++μ2/\qeN A B ls/\(∀ l∈ls,LBd l) ∧
 ∀ ms:List Ln,qeN (JR wh (js (at2 wh A B) q g) A B).1 (JR wh (js (at2 wh A B) q g) A B).2 ms->ms.length<4000->(∀ l∈ms,LBd l)->Q (.d (.bool true)) (μ1++(h,KH (JR wh (js (at2 wh A B) q g) A B).1 (JR wh (js (at2 wh A B) q g) A B).2)::(p,KI C dx h ms)::μ2)
theorem qiW:FnScope ["_law_keeper", "_law_which", "_law_point_here", "_law_goal", "_law_before", "_law_lost", "_law_new", "_law_now"] ["_law_keeper", "_law_which", "_law_point_here", "_law_goal"] (qt q0):=⟨rfl,rfl,rfl,by decide +kernel,rfl,by decide +kernel,by decide +kernel⟩
theorem ok_sr {f:Addr}{fd:FuncData}(F:Fun K "_law_step_right" "_law_step_right" q0 f fd) {C tb:Addr}(T:Txt mg) (hX:NoX CX) (MKeeper_lines:Jd P w K mg base CX 1 C "lines" ["self"] (qZ K (qaw C))) (MKeeper_step:Jd P w K mg base CX 9 C "step" ["self", "which", "point", "to"] (qZ K (qhb C tb))) (O_law_passes:Own P w K mg base CX 2 "_law_passes" ["_law_line", "_law_point_here", "_law_goal"] (qZ K sPs)):FnOk P w K mg base CX 10 f fd ["_law_keeper", "_law_which", "_law_point_here", "_law_goal"] (qZ K (sSR C tb)):=by
 refine F.okD qiW (fun es μ Q hq0=>by obtain ⟨p,dx,h,A,B,q,g,ls,wh,μ1,μ2,e,_⟩:=hq0;subst e;rfl) (fun cdv A' outer s H E es μ Q hr hq0=>?_)
 obtain ⟨p,dx,h,A,B,q,g,ls,wh,μ1,μ2,e,e0,hw,hq,hl,hz,hA,hB,hg,htb,hL,hlb,k⟩:=hq0
 subst e e0
 have nd:=qiW.nd
 refine ⟨_,(qG (yp (i:=4) nd rfl (by first | exact Or.inl rfl | exact Or.inr rfl) (qep MKeeper_lines hX (hr.mono (by decide)) (dv 0)))
   (qG (j9 (qeq MKeeper_step hX (hr.mono (by decide)) (dv 0) (qf (dv 1) (qf (dv 2) (qf (dv 3) qr)))) (jY (n:=2) rfl (qV (qS (i:=5) nd rfl (by first | exact Or.inl rfl | exact Or.inr rfl)) (qV (qS (i:=6) nd rfl (by first | exact Or.inl rfl | exact Or.inr rfl)) jk))))
   (qG (yp (i:=7) nd rfl (by first | exact Or.inl rfl | exact Or.inr rfl) (qep MKeeper_lines hX (hr.mono (by decide)) (dv 0)))
   (qG (jX (qib (qkb (yo (ZA hr.units) (dv 5) (Jr (L:=["_law_line"]) (sc:=qt q0) (N:=["_law_keeper", "_law_which", "_law_point_here", "_law_goal", "_law_before", "_law_lost", "_law_new", "_law_now"]) rfl rfl rfl (by decide +kernel) (y8 (dv 4)) (fun _ _ _ _ _=>(qS (i:=8) (show List.Nodup (["_law_keeper", "_law_which", "_law_point_here", "_law_goal", "_law_before", "_law_lost", "_law_new", "_law_now", "_law_line"]:List Str) from by decide +kernel) rfl (by first | exact Or.inl rfl | exact Or.inr rfl))) (fun _ _ _ _ _=>(JD (yo (Zz hr.u66) (dv 8) (dv 7) rfl))) (fun _ _ _ _ _=>(dv 8))) (yk _)) (qgw (yo (ZA hr.units) (dv 6) (Jr (L:=["_law_line"]) (sc:=qt q0) (N:=["_law_keeper", "_law_which", "_law_point_here", "_law_goal", "_law_before", "_law_lost", "_law_new", "_law_now"]) rfl rfl rfl (by decide +kernel) (y8 (dv 7)) (fun _ _ _ _ _=>(qS (i:=8) (show List.Nodup (["_law_keeper", "_law_which", "_law_point_here", "_law_goal", "_law_before", "_law_lost", "_law_new", "_law_now", "_law_line"]:List Str) from by decide +kernel) rfl (by first | exact Or.inl rfl | exact Or.inr rfl))) (fun _ _ _ _ _=>(JD (yo (Zz hr.u66) (dv 8) (dv 4) rfl))) (fun _ _ _ _ _=>(dv 8))) (yk _))))) (qQ (qW qkm)) y4)
   (qG (jX (yo (ZA hr.units) (Jr (L:=["_law_line"]) (sc:=qt q0) (N:=["_law_keeper", "_law_which", "_law_point_here", "_law_goal", "_law_before", "_law_lost", "_law_new", "_law_now"]) rfl rfl rfl (by decide +kernel) (y8 (dv 4)) (fun _ _ _ _ _=>(qS (i:=8) (show List.Nodup (["_law_keeper", "_law_which", "_law_point_here", "_law_goal", "_law_before", "_law_lost", "_law_new", "_law_now", "_law_line"]:List Str) from by decide +kernel) rfl (by first | exact Or.inl rfl | exact Or.inr rfl))) (fun _ _ _ _ _=>(JD (yo (qke hr.u66) (dv 8) (dv 7) rfl))) (fun _ _ _ _ _=>(dv 8))) (Jr (L:=["_law_line"]) (sc:=qt q0) (N:=["_law_keeper", "_law_which", "_law_point_here", "_law_goal", "_law_before", "_law_lost", "_law_new", "_law_now"]) rfl rfl rfl (by decide +kernel) (y8 (dv 7)) (fun _ _ _ _ _=>(qS (i:=8) (show List.Nodup (["_law_keeper", "_law_which", "_law_point_here", "_law_goal", "_law_before", "_law_lost", "_law_new", "_law_now", "_law_line"]:List Str) from by decide +kernel) rfl (by first | exact Or.inl rfl | exact Or.inr rfl))) (fun _ _ _ _ _=>(JD (yo (qke hr.u66) (dv 8) (dv 4) rfl))) (fun _ _ _ _ _=>(dv 8))) (yk _)) (qQ (qW qkm)) y4)
   (qQ (qW (yB (qkg rfl) (by rfl) T.all_ qkx (qf (Jr (L:=["_law_line"]) (sc:=qt q0) (N:=["_law_keeper", "_law_which", "_law_point_here", "_law_goal", "_law_before", "_law_lost", "_law_new", "_law_now"]) rfl rfl rfl (by decide +kernel) (y8 (yO JV (dv 5) (dv 6))) (fun _ _ _ _ _=>(qS (i:=8) (show List.Nodup (["_law_keeper", "_law_which", "_law_point_here", "_law_goal", "_law_before", "_law_lost", "_law_new", "_law_now", "_law_line"]:List Str) from by decide +kernel) rfl (by first | exact Or.inl rfl | exact Or.inr rfl))) (fun _ _ _ _ _=>JE) (fun _ _ _ _ _=>(yi O_law_passes hX (hr.mono (by decide)) rfl (qf (dv 8) (qf (dv 2) (qf (dv 3) qr)))))) qr))))))))),?_⟩
 have mp:∀ o o',(p,o)∈μ1++(h,o')::(p,o)::μ2:=fun o o'=>qb _ (qe _ qg)
 have bq:Bd B30 q:=by
  rcases hw with rfl | rfl
  ·exact hA q hq
  ·exact hB q hq
 refine ⟨p,dx,_,rfl,mp _ _,qb6,p,dx,h,ls,rfl,mp _ _,?_⟩
 refine ⟨p,dx,_,rfl,mp _ _,qb6,p,dx,h,A,B,q,g,ls,wh,μ1,μ2,rfl,rfl,hw,hq,hl,hz,hA,hB,hg,htb,fun ms hM hm4 hmb=>?_⟩
 refine ⟨rfl,p,dx,_,rfl,mp _ _,qb6,p,dx,h,ms,rfl,mp _ _,?_⟩
 have l1:(ls.map lnD).length<=4000:=by rw [List.length_map];omega
 have l2:(ms.map lnD).length<=4000:=by rw [List.length_map];omega
 have sh:∀ l:Ln,SeqAt.shaped (lnD l)=true:=fun l=>yU [l.1.1,l.1.2,l.2]
 have tN:∀ (vs:List Ln) (l:Ln) {R:Bool->Mu->Prop}{μ:Mu},R (!decide (l∈vs)) μ->R (!((vs.map lnD).any fun z=>z.eqv (lnD l))) μ:=fun vs l R μ h=>by
  rw [qgK];exact h
 have tI:∀ (vs:List Ln) (l:Ln) {R:Bool->Mu->Prop}{μ:Mu},R (decide (l∈vs)) μ->R ((vs.map lnD).any fun z=>z.eqv (lnD l)) μ:=fun vs l R μ h=>by
  rw [qgK];exact h
 refine ⟨_,.d _,l1,YG (as:=ls) (h:=lnD) (fun l=>!decide (l∈ms)) lnD (Src.l (.d _)) (fun l _ R h=>⟨_,_,rfl,.d _,sh l,Zp ms,tN ms l h⟩) (fun l _ _ R h=>h) ?_⟩
 refine ⟨_,_,.d _,.d _,jc _,jc _,Jj (fun c=>absurd c (neF (jc _))) (fun _=>?_)⟩
 refine ⟨_,.d _,l2,YG (as:=ms) (h:=lnD) (fun l=>!decide (l∈ls)) lnD (Src.l (.d _)) (fun l _ R h=>⟨_,_,rfl,.d _,sh l,Zp ls,tN ls l h⟩) (fun l _ _ R h=>h) ?_⟩
 refine ⟨_,_,.d _,.d _,jc _,jc _,Jj (fun c=>absurd c (neF (jc _))) (fun _=>?_)⟩
 refine ⟨_,.d _,l1,YG (as:=ls) (h:=lnD) (fun l=>decide (l∈ms)) lnD (Src.l (.d _)) (fun l _ R h=>⟨_,_,rfl,.d _,sh l,Zp ms,tI ms l h⟩) (fun l _ _ R h=>h) ?_⟩
 refine ⟨_,.d _,l2,YG (as:=ms) (h:=lnD) (fun l=>decide (l∈ls)) lnD (Src.l (.d _)) (fun l _ R h=>⟨_,_,rfl,.d _,sh l,Zp ls,tI ls l h⟩) (fun l _ _ R h=>h) ?_⟩
 have e:(ls.filter fun l=>decide (l∈ms))=ms.filter fun l=>decide (l∈ls):=qfR (hL.1.filter _) (hM.1.filter _) fun l=>by
  simp only [List.mem_filter,decide_eq_true_eq]
  exact And.comm
 rw [e]
 refine ⟨_,_,.d _,.d _,jc _,jc _,Jj (fun c=>absurd c (neF (jc _))) (fun _=>?_)⟩
 have f1:=List.length_filter_le (fun l=>!decide (l∈ms)) ls
 have f2:=List.length_filter_le (fun l=>!decide (l∈ls)) ms
 have g1:ls.length<=1936:=qu (qeD hL) (Nat.mul_le_mul hz hz)
 have g2:ms.length<=1936:=qu (qeD hM) (by rw [qeY hw];exact Nat.mul_le_mul hz hz)
 refine ⟨_,_,.d _,.d _,by rw [List.length_map,List.length_map];omega,?_⟩
 rw [<- List.map_append]
 refine ⟨_,.d _,(by show (List.map lnD _).length<=4000;rw [List.length_map,List.length_append];omega),qgF (as:=(ls.filter fun l=>!decide (l∈ms))++ms.filter fun l=>!decide (l∈ls)) (h:=lnD) (fun _=>.bool true) (Src.l (.d _)) (fun l hl' R hh=>?_) ?_⟩
 ·have hin:(l∈ls/\l∉ms)\/(l∈ms/\l∉ls):=by
   rcases List.mem_append.mp hl' with z | z
   ·exact .inl (by simpa [List.mem_filter] using z)
   ·exact .inr (by simpa [List.mem_filter] using z)
  exact ⟨l,q,g,rfl,hin.elim (fun z=>hlb l z.1) (fun z=>hmb l z.1),bq,hg,qdf hw hq hL hM hin,hh⟩
 ·generalize ((ls.filter fun l=>!decide (l∈ms))++ms.filter fun l=>!decide (l∈ls))=us
  refine ⟨us.map fun _=>true,by rw [List.map_map];exact .d _,?_⟩
  have e:(us.map fun _=>true).all id=true:=by simp
  show Q (.d (.bool ((us.map fun _=>true).all id))) _
  rw [e]
  exact k ms hM hm4 hmb
end
section
variable {P:Program}{w:World}{K:W.Frag}{mg:Str->Option Value}{base:Heap}{CX:CXT}
theorem qhM (A:List Pt):(A.map ptD).all noL=true:=List.all_eq_true.mpr fun z hz=>by
 obtain ⟨a,_,rfl⟩:=qv.mp hz
 rfl
theorem y3 (A:List Pt):SeqAt.shaped (hpD A)=true:=by
 have d2:PyData.depthAll (A.map ptD)<=3:=YE (n:=2) (fun p=>by unfold ptD;simp [PyData.depth,PyData.depthAll]) A
 have h1:PyData.canLayAll0 (A.map ptD)=true:=jH (fun p=>rfl) A
 unfold SeqAt.shaped
 rw [Bool.and_eq_true]
 refine ⟨by unfold hpD;simp only [PyData.canLay0,h1],qB ?_⟩
 unfold hpD
 simp only [PyData.depth]
 omega
theorem qbe {A:List Pt}{p q:Pt}(hA:∀ z∈A,qci z) (hq:qci q):∀ z∈js A p q,qci z:=fun z hz=>by
 rcases List.mem_or_eq_of_mem_set hz with h | h
 ·exact hA z h
 ·rw [h];exact hq
theorem qa5 {A:List Pt}{q g:Pt}:(A.map ptD).set (A.idxOf q) (ptD g)=(js A q g).map ptD:=by
 unfold js
 rw [List.map_set]
theorem qf8:FnScope ["_law_script", "_law_k", "_law_store_here", "_law_one", "_law_heaps", "_law_keeper", "_law_deed", "_law_which", "_law_at", "_law_point_here", "_law_goal"] ["_law_script"] (qt qeU):=⟨rfl,rfl,rfl,by decide +kernel,rfl,by decide +kernel,by decide +kernel⟩
theorem qjG {f:Addr}{fd:FuncData}(F:Fun K "law" "law" qeU f fd) {C tb:Addr}(T:Txt mg) (hX:NoX CX) (O_law_store:Own P w K mg base CX 2 "_law_store" ["_law_script", "_law_k"] (qZ K qcS)) (O_law_heap:Own P w K mg base CX 5 "_law_heap" ["_law_store_here", "_law_known"] (qZ K qhh)) (O_law_draw:Own P w K mg base CX 1 "_law_draw" ["_law_store_here", "_law_many"] (qZ K (ZU 2147483579))) (O_law_point:Own P w K mg base CX 4 "_law_point" ["_law_store_here", "_law_some"] (qZ K qbc)) (CKeeper:OwnM P w K mg base CX 8 "Keeper" C ["self", "one", "other"] (qZ K (qhg C tb))) (MKeeper_heap:Jd P w K mg base CX 1 C "heap" ["self", "which"] (qZ K (qcT C))) (O_law_step_right:Own P w K mg base CX 10 "_law_step_right" ["_law_keeper", "_law_which", "_law_point_here", "_law_goal"] (qZ K (sSR C tb))):FnOk P w K mg base CX 12 f fd ["_law_script"] (qZ K (qi4 tb)):=by
 refine F.okD qf8 (fun es μ Q hq0=>by obtain ⟨ns,e,_⟩:=hq0;subst e;rfl) (fun cdv A0 outer s H E es μ Q hr hq0=>?_)
 obtain ⟨ns,e,hl,e0,k⟩:=hq0
 subst e e0
 have nd:=qf8.nd
 refine ⟨_,(qG (qab PassesOwn.never rfl (Jq rfl T.range_ (qf (yB (qeo rfl) (by rfl) T.max_ qbJ (qf qK (qf (yB (qkf rfl) (by rfl) T.min_ qkw (qf (yB Y6 (by rfl) T.len_ Y7 (qf (dv 0) qr)) (qf qK qr))) qr))) qr)) (qS (i:=1) nd rfl (by first | exact Or.inl rfl | exact Or.inr rfl)) (qG (yp (i:=2) nd rfl (by first | exact Or.inl rfl | exact Or.inr rfl) (yi O_law_store hX (hr.mono (by decide)) rfl (qf (dv 0) (qf (dv 1) qr))))
   (qG (yp (i:=3) nd rfl (by first | exact Or.inl rfl | exact Or.inr rfl) (yi O_law_heap hX (hr.mono (by decide)) rfl (qf (dv 2) (qf (qaP qr) qr))))
   (qG (yp (i:=4) nd rfl (by first | exact Or.inl rfl | exact Or.inr rfl) (qkl (qf (dv 3) (qf (yi O_law_heap.thawM hX (hr.mono (by decide)) rfl (qf (dv 2) (qf (dv 3) qr))) qr))))
   (qG (yp (i:=5) nd rfl (by first | exact Or.inl rfl | exact Or.inr rfl) (qkk CKeeper hX (hr.mono (by decide)) rfl (qf (jv JF (by rfl) T.list_ JK (qf (jP jh (dv 4) qK (fun _ _=>rfl)) qr)) (qf (jv JF (by rfl) T.list_ JK (qf (jP jh (dv 4) qK (fun _ _=>rfl)) qr)) qr))))
   (qQ (qab PassesOwn.never rfl (Jq rfl T.range_ (qf (yi O_law_draw hX (hr.mono (by decide)) rfl (qf (dv 2) (qf qK qr))) qr)) (qS (i:=6) nd rfl (by first | exact Or.inl rfl | exact Or.inr rfl)) (qG (yp (i:=7) nd rfl (by first | exact Or.inl rfl | exact Or.inr rfl) (yi O_law_draw hX (hr.mono (by decide)) rfl (qf (dv 2) (qf qK qr))))
   (qQ (jX (yo (ZA hr.units) (jP jh (dv 4) (dv 7) (fun _ _=>rfl)) (qaP qr) (yk _)) (qG (yp (i:=8) nd rfl (by first | exact Or.inl rfl | exact Or.inr rfl) (yi O_law_draw hX (hr.mono (by decide)) rfl (qf (dv 2) (qf (yB Y6 (by rfl) T.len_ Y7 (qf (jP jh (dv 4) (dv 7) (fun _ _=>rfl)) qr)) qr))))
   (qG (yp (i:=9) nd rfl (by first | exact Or.inl rfl | exact Or.inr rfl) (jP yy (jP jh (dv 4) (dv 7) (fun _ _=>rfl)) (dv 8) (fun _ _=>rfl)))
   (qG (yp (i:=10) nd rfl (by first | exact Or.inl rfl | exact Or.inr rfl) (yi O_law_point hX (hr.mono (by decide)) rfl (qf (dv 2) (qf (yO JV (jP jh (dv 4) qK (fun _ _=>rfl)) (jP jh (dv 4) qK (fun _ _=>rfl))) qr))))
   (qG (jX (qkc (qei (yi O_law_step_right hX (hr.mono (by decide)) rfl (qf (dv 5) (qf (dv 7) (qf (dv 9) (qf (dv 10) qr))))))) (qQ (qW qkm)) y4)
   (qG (j9 (dv 10) (qgz (jP jh (dv 4) (dv 7) (fun _ _=>rfl)) (qbD (jP jh (dv 4) (dv 7) (fun _ _=>rfl)) (qf (dv 9) qr) (h:=qb0 PySem.F.plainAttrs_list PySem.F.slot_list_index PySem.F.type_list_index (ZY hr.u70) (jP jh (dv 4) (dv 7) (fun _ _=>rfl)) (qf (dv 9) qr)))))
   (qQ (jX (yo (ZA hr.units) (qeq MKeeper_heap hX (hr.mono (by decide)) (dv 5) (qf (dv 7) qr)) (jP jh (dv 4) (dv 7) (fun _ _=>rfl)) (yk _)) (qQ (qW qkm)) y4))))))) y4))))))))))
   (qQ (qW qkm))),?_⟩
 refine ⟨_,.l (.d _),?_⟩
 rw [List.length_map]
 obtain ⟨m,em,hm⟩:∃ m:Int,(if (1:Int)<(if (4:Int)<(ns.length:Int) then 4 else (ns.length:Int)) then (if (4:Int)<(ns.length:Int) then 4 else (ns.length:Int)) else 1)=m/\(1<=m/\m<=4):=⟨_,rfl,by split <;> (try split) <;> omega⟩
 refine ⟨?_,?_,qkT (fun i ρ' μ'=>μ'=[TB tb]/\∃ v1 v2 v3 v4 v5 v6 v7 v8 v9 v10,ρ'=[some (.d (.list (ns.map .int))),v1,v2,v3,v4,v5,v6,v7,v8,v9,v10]) ⟨rfl,_,_,_,_,_,_,_,_,_,_,rfl⟩ ?_ ?_⟩
 ·exact le_of_le_of_eq (show -(2 ^ 62)<=m by omega) em.symm
 ·exact lt_of_eq_of_lt em (show m<2 ^ 62 by omega)
 ·rintro i ρ' μ' hi ⟨rfl,v1,v2,v3,v4,v5,v6,v7,v8,v9,v10,rfl⟩
  have hi:i<Int.toNat _:=hi
  have hi2:i<m.toNat:=lt_of_lt_of_eq hi (congrArg Int.toNat em)
  refine ⟨ns,i,by simp,hl,by omega,fun p hp=>?_⟩
  refine ⟨zl0,p,[],rfl,qg,by decide,(fun _ h=>nomatch h),fun A lA hA a ha=>?_⟩
  refine ⟨a,A.map ptD,[],[(p,PC0),TB tb],_,rfl,rfl,.ot (.me .nil),p,A,rfl,qg,by omega,hA,fun B lB hB b hb=>⟨b,_,rfl,rfl,qhM B,?_⟩⟩
  refine ⟨[a,b],rfl,(show 2<=4000 by decide),fun hs hhs=>?_⟩
  refine ⟨_,a,qg,rfl,A.map ptD,.l (.m (by simp)),_,b,qg,rfl,B.map ptD,.l (.m (by simp)),fun kp dx hkp=>?_⟩
  refine ⟨kp,dx,A,B,_,rfl,rfl,by omega,JA hA,JA hB,by simp,fun h ls hL h4 hlb=>⟨rfl,?_⟩⟩
  refine ⟨p,_,rfl,by simp,by decide,by decide,fun n n0 n1=>⟨by omega,by omega,?_⟩⟩
  refine qkT (fun j ρ' μ'=>∃ (A B:List Pt) (ls:List Ln),μ'=[(h,KH A B),(kp,KI C dx h ls),(hs,MO.refs [a,b]),(b,.lst (B.map ptD)),(a,.lst (A.map ptD)),(p,PC0),TB tb]/\A.length<=9/\B.length<=9/\(∀ q∈A,qci q)/\(∀ q∈B,qci q)/\qeN A B ls/\ls.length<4000/\(∀ l∈ls,LBd l)/\∃ v6 v7 v8 v9 v10,ρ'=[some (.d (.list (ns.map .int))),some (.d (.int (0+(i:Int)))),some (.m p),some (.m a),some (.m hs),some (.m kp),v6,v7,v8,v9,v10])
   ⟨A,B,ls,rfl,lA,lB,hA,hB,hL,h4,hlb,_,_,_,_,_,rfl⟩ ?_ ?_
  ·clear hL h4 hlb hA hB lA lB
   rintro j ρ' μ' hj ⟨A,B,ls,rfl,lA,lB,hA,hB,hL,h4,hlb,v6,v7,v8,v9,v10,rfl⟩
   have mhs:∀ {h' k' b' a':MO},(hs,MO.refs [a,b])∈[(h,h'),(kp,k'),(hs,MO.refs [a,b]),(b,b'),(a,a'),(p,PC0),TB tb]:=by intros;simp
   have mpp:∀ {h' k' b' a':MO},(p,PC0)∈[(h,h'),(kp,k'),(hs,MO.refs [a,b]),(b,b'),(a,a'),(p,PC0),TB tb]:=by intros;simp
   have ma:∀ {h' k' b' a':MO},(a,a')∈[(h,h'),(kp,k'),(hs,MO.refs [a,b]),(b,b'),(a,a'),(p,PC0),TB tb]:=by intros;simp
   have mb:∀ {h' k' b' a':MO},(b,b')∈[(h,h'),(kp,k'),(hs,MO.refs [a,b]),(b,b'),(a,a'),(p,PC0),TB tb]:=by intros;simp
   refine ⟨p,_,rfl,mpp,by decide,by decide,fun wh w0 w1=>?_⟩
   have hw:wh=0\/wh=1:=by omega
   rcases hw with rfl | rfl
   ·have mc:∀ {h' k':MO}{A B:List Pt},(a,MO.lst (A.map ptD))∈[(h,h'),(kp,k'),(hs,MO.refs [a,b]),(b,.lst (B.map ptD)),(a,.lst (A.map ptD)),(p,PC0),TB tb]:=by intros;simp
    refine ⟨_,a,mhs,rfl,zl0,_,_,.m mc,.d _,y3 A,rfl,Jj (fun c1=>?_) (fun c1=>Wks.of ⟨A,B,ls,rfl,lA,lB,hA,hB,hL,h4,hlb,_,_,_,_,_,rfl⟩)⟩
    have hpos:=qbn c1
    refine ⟨_,a,mhs,rfl,_,.l (.m mc),p,_,rfl,mpp,(by show (0:Int)<((A.map ptD).length:Int);rw [List.length_map];omega),(by show ((A.map ptD).length:Int)<=100000000;rw [List.length_map];omega),fun d d0 d1=>?_⟩
    obtain ⟨q,hq,eq⟩:=qbL d0 d1
    refine ⟨_,a,mhs,rfl,_,_,mc,eq,?_⟩
    refine ⟨_,a,mhs,rfl,_,b,mhs,rfl,_,_,.m ma,.m mb,by rw [List.length_map,List.length_map];omega,p,A++B,by rw [List.map_append],mpp,by rw [List.length_append];omega,fun z hz=>?_,fun g hg=>?_⟩
    ·rcases List.mem_append.mp hz with z | z
     ·exact hA _ z
     ·exact hB _ z
    refine ⟨kp,dx,h,A,B,q,g,ls,0,[],[(hs,MO.refs [a,b]),(b,.lst (B.map ptD)),(a,.lst (A.map ptD)),(p,PC0),TB tb],rfl,rfl,by decide,hq,h4,by omega,JA hA,JA hB,qdp hg,by simp,hL,hlb,fun ms hM hm4 hmb=>?_⟩
    have ix:=(Y2 hq).1
    refine ⟨_,a,mhs,rfl,_,a,mhs,rfl,_,.m mc,.m mc,Zo A,yU [q.1,q.2],qdY hq (by omega) ?_⟩
    refine ⟨[(h,KH (js A q g) B),(kp,KI C dx h ms),(hs,MO.refs [a,b]),(b,.lst (B.map ptD))],[(p,PC0),TB tb],_,rfl,by omega,by rw [List.length_map];show ((A.idxOf q:Nat):Int).toNat<_;omega,?_⟩
    rw [Int.toNat_natCast,qa5]
    refine ⟨kp,dx,_,rfl,qe _ qg,qb6,kp,dx,h,(js A q g),B,ms,0,rfl,qe _ qg,qg,by decide,?_⟩
    refine ⟨_,a,mhs,rfl,_,_,.d _,.m (mc (A:=(js A q g)) (B:=B)),y3 _,y3 _,Jj (fun z=>absurd z (neF (y3 _))) (fun _=>?_)⟩
    exact Wks.of ⟨(js A q g),B,ms,rfl,by rw [jK];exact lA,lB,qbe hA hg,hB,hM,hm4,hmb,_,_,_,_,_,rfl⟩
   ·have mc:∀ {h' k':MO}{A B:List Pt},(b,MO.lst (B.map ptD))∈[(h,h'),(kp,k'),(hs,MO.refs [a,b]),(b,.lst (B.map ptD)),(a,.lst (A.map ptD)),(p,PC0),TB tb]:=by intros;simp
    refine ⟨_,b,mhs,rfl,zl0,_,_,.m mc,.d _,y3 B,rfl,Jj (fun c1=>?_) (fun c1=>Wks.of ⟨A,B,ls,rfl,lA,lB,hA,hB,hL,h4,hlb,_,_,_,_,_,rfl⟩)⟩
    have hpos:=qbn c1
    refine ⟨_,b,mhs,rfl,_,.l (.m mc),p,_,rfl,mpp,(by show (0:Int)<((B.map ptD).length:Int);rw [List.length_map];omega),(by show ((B.map ptD).length:Int)<=100000000;rw [List.length_map];omega),fun d d0 d1=>?_⟩
    obtain ⟨q,hq,eq⟩:=qbL d0 d1
    refine ⟨_,b,mhs,rfl,_,_,mc,eq,?_⟩
    refine ⟨_,a,mhs,rfl,_,b,mhs,rfl,_,_,.m ma,.m mb,by rw [List.length_map,List.length_map];omega,p,A++B,by rw [List.map_append],mpp,by rw [List.length_append];omega,fun z hz=>?_,fun g hg=>?_⟩
    ·rcases List.mem_append.mp hz with z | z
     ·exact hA _ z
     ·exact hB _ z
    refine ⟨kp,dx,h,A,B,q,g,ls,1,[],[(hs,MO.refs [a,b]),(b,.lst (B.map ptD)),(a,.lst (A.map ptD)),(p,PC0),TB tb],rfl,rfl,by decide,hq,h4,by omega,JA hA,JA hB,qdp hg,by simp,hL,hlb,fun ms hM hm4 hmb=>?_⟩
    have ix:=(Y2 hq).1
    refine ⟨_,b,mhs,rfl,_,b,mhs,rfl,_,.m mc,.m mc,Zo B,yU [q.1,q.2],qdY hq (by omega) ?_⟩
    refine ⟨[(h,KH A (js B q g)),(kp,KI C dx h ms),(hs,MO.refs [a,b])],[(a,.lst (A.map ptD)),(p,PC0),TB tb],_,rfl,by omega,by rw [List.length_map];show ((B.idxOf q:Nat):Int).toNat<_;omega,?_⟩
    rw [Int.toNat_natCast,qa5]
    refine ⟨kp,dx,_,rfl,qe _ qg,qb6,kp,dx,h,A,(js B q g),ms,1,rfl,qe _ qg,qg,by decide,?_⟩
    refine ⟨_,b,mhs,rfl,_,_,.d _,.m (mc (A:=A) (B:=(js B q g))),y3 _,y3 _,Jj (fun z=>absurd z (neF (y3 _))) (fun _=>?_)⟩
    exact Wks.of ⟨A,(js B q g),ms,rfl,lA,by rw [jK];exact lB,hA,qbe hB hg,hM,hm4,hmb,_,_,_,_,_,rfl⟩
  ·rintro ρ' μ' ⟨A,B,ls,rfl,lA,lB,hA,hB,hL,h4,hlb,v6,v7,v8,v9,v10,rfl⟩
   exact ⟨_,_,Wk.trans Wk.drop1 (Wk.trans Wk.drop1 (Wk.trans Wk.drop1 (Wk.trans Wk.drop1 (Wk.trans Wk.drop1 Wk.drop1)))),rfl,_,_,_,_,_,_,_,_,_,_,rfl⟩
 ·rintro ρ' μ' ⟨rfl,v1,v2,v3,v4,v5,v6,v7,v8,v9,v10,rfl⟩
  exact k _
end
structure FIn (K:W.Frag) (x:Str) (st:Stmt) (f:Addr) (fd:FuncData):Prop where
 a:W.nsIn K mainGlobals x=some (some (.ref f))
 F:Fun K x x st f fd
 k:W.keepIn K (.ref f)=true
theorem fin_mk {K:W.Frag}{x:Str}{st:Stmt}{f:Addr}{oc:Value}{od an:Option Addr}{sl:Array (Option Value)}{kV dc pm cd ct:Value}(a:W.nsIn K mainGlobals x=some (some (.ref f))) (l:K.lookup f=some ⟨oc,od,.func (W.fnOf x x (jA st) (yK st) (qt st) .none kV dc pm an cd ct),sl⟩) (c:W.codeIn K cd x=true) (k:W.keepIn K (.ref f)=true):FIn K x st f (W.fnOf x x (jA st) (yK st) (qt st) .none kV dc pm an cd ct):=⟨a,qd4 l c k,k⟩
structure MIn (K:W.Frag) (C:Addr) (x q:Str) (st:Stmt) (f:Addr) (fd:FuncData):Prop where
 a:W.findIn K (.ref C) x=some (some (.ref f))
 i:W.isFn K (.ref f)=true
 F:Fun K x q st f fd
 k:W.keepIn K (.ref f)=true
theorem min_mk {K:W.Frag}{C:Addr}{x q:Str}{st:Stmt}{f:Addr}{oc:Value}{od an:Option Addr}{sl:Array (Option Value)}{kV dc pm cd ct:Value}(a:W.findIn K (.ref C) x=some (some (.ref f))) (i:W.isFn K (.ref f)=true) (l:K.lookup f=some ⟨oc,od,.func (W.fnOf x q (jA st) (yK st) (qt st) .none kV dc pm an cd ct),sl⟩) (c:W.codeIn K cd q=true) (k:W.keepIn K (.ref f)=true):MIn K C x q st f (W.fnOf x q (jA st) (yK st) (qt st) .none kV dc pm an cd ct):=⟨a,i,qd4 l c k,k⟩
theorem all_mk {l:W.OpenLaw}{w:World}{K:W.Frag}{h:Heap}{mg:Str->Option Value}{fa:Addr}(X:K.In h) (G:h.Ns mainGlobals mg) (hfa:mg "law" = some (.ref fa))
  {C:Addr}(aC_Keeper:W.nsIn K mainGlobals "Keeper" = some (some (.ref C))) (pg_Keeper:W.plainGet K C Str.empty=true) (hd_Keeper:W.hasDictIn K C=true) (po_Keeper:W.plainOver K C=true) (sa_Keeper:W.findIn K (.ref C) "__setattr__" = some (some (.builtin "object.__setattr__"))) (mk_Keeper:W.makesIn K C=true) (kc_Keeper:W.keepIn K (.ref C)=true) (n_Keeper_heaps:W.findIn K (.ref C) "heaps" = some none) (n_Keeper_kept:W.findIn K (.ref C) "kept" = some none)
  {f0 f1 f2 f3 f4 f5 f6 f7 f8 f9 f10 f11 f12 f13 f14 f15 f16 f17 f18 f19 f20 f21 f22 f23 f24 f25 f26 f27 f28 f29 f30 f31 f32:Addr}{d0 d1 d2 d3 d4 d5 d6 d7 d8 d9 d10 d11 d12 d13 d14 d15 d16 d17 d18 d19 d20 d21 d22 d23 d24 d25 d26 d27 d28 d29 d30 d31 d32:FuncData}
  (g0:FIn K "_law_cell" Jx f0 d0)
  (g1:FIn K "_law_store" Jg f1 d1)
  (g2:FIn K "_law_draw" Jw f2 d2)
  (g3:FIn K "_law_far" Yn f3 d3)
  (g4:FIn K "_law_number" jT f4 d4)
  (g5:FIn K "_law_point" jf f5 d5)
  (g6:FIn K "_law_heap" Jv f6 d6)
  (g7:FIn K "common_divisor" je f7 d7)
  (g8:FIn K "lead" qg6 f8 d8)
  (g9:FIn K "through" Y9 f9 d9)
  (g10:FIn K "sign" qg4 f10 d10)
  (g11:FIn K "side" qg5 f11 d11)
  (g12:FIn K "sign_counts" jR f12 d12)
  (g13:FIn K "is_even_share" jy f13 d13)
  (g14:FIn K "counts" Zf f14 d14)
  (g15:FIn K "halves" qav f15 d15)
  (g16:FIn K "places" qau f16 d16)
  (g17:FIn K "place_pairs" jq f17 d17)
  (g18:FIn K "line_key" Yl f18 d18)
  (g19:FIn K "lines_in_order" yQ f19 d19)
  (g20:FIn K "joining_lines" yY f20 d20)
  (g21:FIn K "all_lines" j5 f21 d21)
  (g22:FIn K "find_place" Jf f22 d22)
  (g23:FIn K "stepped" Zb f23 d23)
  (g24:FIn K "lines_without" yX f24 d24)
  (g25:MIn K C "__init__" "Keeper.__init__" y7 f25 d25)
  (g26:MIn K C "heap" "Keeper.heap" jV f26 d26)
  (g27:MIn K C "lines" "Keeper.lines" jJ f27 d27)
  (g28:MIn K C "put" "Keeper.put" Jh f28 d28)
  (g29:MIn K C "step" "Keeper.step" jU f29 d29)
  (g30:FIn K "_law_far_from" jz f30 d30)
  (g31:FIn K "_law_passes" jS f31 d31)
  (g32:FIn K "_law_step_right" q0 f32 d32)
  {f33:Addr}{od33 an33:Option Addr}{sl33:Array (Option Value)}{oc33 kV33 dc33 pm33 cd33 ct33:Value}
  (a33:W.nsIn K mainGlobals "law" = some (some (.ref f33))) (l33:K.lookup f33=some ⟨oc33,od33,.func (W.fnOf "law" "law" (jA qeU) (yK qeU) (qt qeU) .none kV33 dc33 pm33 an33 cd33 ct33),sl33⟩) (c33:W.codeIn K cd33 "law" = true) (k33:W.keepIn K (.ref f33)=true)
  (z0:W.nsIn K mainGlobals "len" = some none)
  (z1:W.nsIn K mainGlobals "range" = some none)
  (z2:W.nsIn K mainGlobals "max" = some none)
  (z3:W.nsIn K mainGlobals "min" = some none)
  (z4:W.nsIn K mainGlobals "abs" = some none)
  (z5:W.nsIn K mainGlobals "int" = some none)
  (z6:W.nsIn K mainGlobals "isinstance" = some none)
  (z7:W.nsIn K mainGlobals "tuple" = some none)
  (z8:W.nsIn K mainGlobals "bool" = some none)
  (z9:W.nsIn K mainGlobals "list" = some none)
  (z10:W.nsIn K mainGlobals "all" = some none)
  (z11:W.nsIn K mainGlobals "any" = some none)
  (z12:W.nsIn K mainGlobals "set" = some none)
  (z13:W.nsIn K mainGlobals "sorted" = some none)
  (z14:W.nsIn K mainGlobals "str" = some none)
  (z15:W.nsIn K mainGlobals "enumerate" = some none)
  (z16:W.nsIn K mainGlobals "zip" = some none)
  (z17:W.nsIn K mainGlobals "divmod" = some none)
  (hcd_:d19.code=Value.ref 130)
  (ch_:W.codeHdIn K 130 128=true)
  : ∃ fd:FuncData,(∀ (s:Shared) (v:Value),BindsTo s fd ⟨[v],[]⟩ [("_law_script",v)])/\∀ base:Heap,K.In base->base.Ns mainGlobals mg->YO base mg->FnOk l.prog w K mg base CX0 12 fa fd ["_law_script"] (qa4 K 128):=by
 have e:=hfa.symm.trans (W.mg_of X G a33)
 cases e
 have T:Txt mg:=⟨W.mg_none_of X G z0,W.mg_none_of X G z1,W.mg_none_of X G z2,W.mg_none_of X G z3,W.mg_none_of X G z4,W.mg_none_of X G z5,W.mg_none_of X G z6,W.mg_none_of X G z7,W.mg_none_of X G z8,W.mg_none_of X G z9,W.mg_none_of X G z10,W.mg_none_of X G z11,W.mg_none_of X G z12,W.mg_none_of X G z13,W.mg_none_of X G z14,W.mg_none_of X G z15,W.mg_none_of X G z16,W.mg_none_of X G z17⟩
 have TKeeper:TxtK K C:=⟨⟨pg_Keeper,hd_Keeper,po_Keeper,sa_Keeper⟩,n_Keeper_heaps,n_Keeper_kept⟩
 have F0:=g0.F
 have b0:=F0.binds (ps:=["_law_script", "_law_k"]) fun _ _ _ _ _ _ us hl=>by obtain ⟨_,_,rfl⟩:=L2.lenIs2 hl rfl;rfl
 have F1:=g1.F
 have b1:=F1.binds (ps:=["_law_script", "_law_k"]) fun _ _ _ _ _ _ us hl=>by obtain ⟨_,_,rfl⟩:=L2.lenIs2 hl rfl;rfl
 have F2:=g2.F
 have b2:=F2.binds (ps:=["_law_store_here", "_law_many"]) fun _ _ _ _ _ _ us hl=>by obtain ⟨_,_,rfl⟩:=L2.lenIs2 hl rfl;rfl
 have F3:=g3.F
 have b3:=F3.binds (ps:=["_law_store_here"]) fun _ _ _ _ _ _ us hl=>by obtain ⟨_,rfl⟩:=L2.lenIs1 hl rfl;rfl
 have F4:=g4.F
 have b4:=F4.binds (ps:=["_law_store_here"]) fun _ _ _ _ _ _ us hl=>by obtain ⟨_,rfl⟩:=L2.lenIs1 hl rfl;rfl
 have F5:=g5.F
 have b5:=F5.binds (ps:=["_law_store_here", "_law_some"]) fun _ _ _ _ _ _ us hl=>by obtain ⟨_,_,rfl⟩:=L2.lenIs2 hl rfl;rfl
 have F6:=g6.F
 have b6:=F6.binds (ps:=["_law_store_here", "_law_known"]) fun _ _ _ _ _ _ us hl=>by obtain ⟨_,_,rfl⟩:=L2.lenIs2 hl rfl;rfl
 have F7:=g7.F
 have b7:=F7.binds (ps:=["one", "other"]) fun _ _ _ _ _ _ us hl=>by obtain ⟨_,_,rfl⟩:=L2.lenIs2 hl rfl;rfl
 have F8:=g8.F
 have b8:=F8.binds (ps:=["a", "b"]) fun _ _ _ _ _ _ us hl=>by obtain ⟨_,_,rfl⟩:=L2.lenIs2 hl rfl;rfl
 have F9:=g9.F
 have b9:=F9.binds (ps:=["one", "other"]) fun _ _ _ _ _ _ us hl=>by obtain ⟨_,_,rfl⟩:=L2.lenIs2 hl rfl;rfl
 have F10:=g10.F
 have b10:=F10.binds (ps:=["number"]) fun _ _ _ _ _ _ us hl=>by obtain ⟨_,rfl⟩:=L2.lenIs1 hl rfl;rfl
 have F11:=g11.F
 have b11:=F11.binds (ps:=["line", "point"]) fun _ _ _ _ _ _ us hl=>by obtain ⟨_,_,rfl⟩:=L2.lenIs2 hl rfl;rfl
 have F12:=g12.F
 have b12:=F12.binds (ps:=["signs"]) fun _ _ _ _ _ _ us hl=>by obtain ⟨_,rfl⟩:=L2.lenIs1 hl rfl;rfl
 have F13:=g13.F
 have b13:=F13.binds (ps:=["shares"]) fun _ _ _ _ _ _ us hl=>by obtain ⟨_,rfl⟩:=L2.lenIs1 hl rfl;rfl
 have F14:=g14.F
 have b14:=F14.binds (ps:=["line", "heap"]) fun _ _ _ _ _ _ us hl=>by obtain ⟨_,_,rfl⟩:=L2.lenIs2 hl rfl;rfl
 have F15:=g15.F
 have b15:=F15.binds (ps:=["line", "heap"]) fun _ _ _ _ _ _ us hl=>by obtain ⟨_,_,rfl⟩:=L2.lenIs2 hl rfl;rfl
 have F16:=g16.F
 have b16:=F16.binds (ps:=["heap"]) fun _ _ _ _ _ _ us hl=>by obtain ⟨_,rfl⟩:=L2.lenIs1 hl rfl;rfl
 have F17:=g17.F
 have b17:=F17.binds (ps:=["heap"]) fun _ _ _ _ _ _ us hl=>by obtain ⟨_,rfl⟩:=L2.lenIs1 hl rfl;rfl
 have F18:=g18.F
 have b18:=F18.binds (ps:=["line", "scale"]) fun _ _ _ _ _ _ us hl=>by obtain ⟨_,_,rfl⟩:=L2.lenIs2 hl rfl;rfl
 have F19:=g19.F
 have b19:=F19.binds (ps:=["lines"]) fun _ _ _ _ _ _ us hl=>by obtain ⟨_,rfl⟩:=L2.lenIs1 hl rfl;rfl
 have F20:=g20.F
 have b20:=F20.binds (ps:=["heap"]) fun _ _ _ _ _ _ us hl=>by obtain ⟨_,rfl⟩:=L2.lenIs1 hl rfl;rfl
 have F21:=g21.F
 have b21:=F21.binds (ps:=["one", "other"]) fun _ _ _ _ _ _ us hl=>by obtain ⟨_,_,rfl⟩:=L2.lenIs2 hl rfl;rfl
 have F22:=g22.F
 have b22:=F22.binds (ps:=["heap", "point"]) fun _ _ _ _ _ _ us hl=>by obtain ⟨_,_,rfl⟩:=L2.lenIs2 hl rfl;rfl
 have F23:=g23.F
 have b23:=F23.binds (ps:=["heap", "point", "to"]) fun _ _ _ _ _ _ us hl=>by obtain ⟨_,_,_,rfl⟩:=L2.lenIs3 hl rfl;rfl
 have F24:=g24.F
 have b24:=F24.binds (ps:=["lines", "others"]) fun _ _ _ _ _ _ us hl=>by obtain ⟨_,_,rfl⟩:=L2.lenIs2 hl rfl;rfl
 have F25:=g25.F
 have b25:=F25.binds (ps:=["self", "one", "other"]) fun _ _ _ _ _ _ us hl=>by obtain ⟨_,_,_,rfl⟩:=L2.lenIs3 hl rfl;rfl
 have F26:=g26.F
 have b26:=F26.binds (ps:=["self", "which"]) fun _ _ _ _ _ _ us hl=>by obtain ⟨_,_,rfl⟩:=L2.lenIs2 hl rfl;rfl
 have F27:=g27.F
 have b27:=F27.binds (ps:=["self"]) fun _ _ _ _ _ _ us hl=>by obtain ⟨_,rfl⟩:=L2.lenIs1 hl rfl;rfl
 have F28:=g28.F
 have b28:=F28.binds (ps:=["self", "which", "heap"]) fun _ _ _ _ _ _ us hl=>by obtain ⟨_,_,_,rfl⟩:=L2.lenIs3 hl rfl;rfl
 have F29:=g29.F
 have b29:=F29.binds (ps:=["self", "which", "point", "to"]) fun _ _ _ _ _ _ us hl=>by obtain ⟨_,_,_,_,rfl⟩:=L2.lenIs4 hl rfl;rfl
 have F30:=g30.F
 have b30:=F30.binds (ps:=["_law_line", "_law_point_here"]) fun _ _ _ _ _ _ us hl=>by obtain ⟨_,_,rfl⟩:=L2.lenIs2 hl rfl;rfl
 have F31:=g31.F
 have b31:=F31.binds (ps:=["_law_line", "_law_point_here", "_law_goal"]) fun _ _ _ _ _ _ us hl=>by obtain ⟨_,_,_,rfl⟩:=L2.lenIs3 hl rfl;rfl
 have F32:=g32.F
 have b32:=F32.binds (ps:=["_law_keeper", "_law_which", "_law_point_here", "_law_goal"]) fun _ _ _ _ _ _ us hl=>by obtain ⟨_,_,_,_,rfl⟩:=L2.lenIs4 hl rfl;rfl
 have F33:=qd4 (st:=qeU) l33 c33 k33
 have b33:=F33.binds (ps:=["_law_script"]) fun _ _ _ _ _ _ us hl=>by obtain ⟨_,rfl⟩:=L2.lenIs1 hl rfl;rfl
 refine ⟨W.fnOf "law" "law" (jA qeU) (yK qeU) (qt qeU) .none kV33 dc33 pm33 an33 cd33 ct33,fun s v=>.of_eq rfl,fun base Kb Gb hB=>?_⟩
 have O_law_cell:Own l.prog w K mg base CX0 1 "_law_cell" ["_law_script", "_law_k"] (qZ K qhi):=⟨_,_,qhK F0 T,W.mg_of X G g0.a,g0.k,b0⟩
 have O_law_store:Own l.prog w K mg base CX0 2 "_law_store" ["_law_script", "_law_k"] (qZ K qcS):=⟨_,_,qfk F1 T YK O_law_cell,W.mg_of X G g1.a,g1.k,b1⟩
 have O_law_draw:Own l.prog w K mg base CX0 1 "_law_draw" ["_law_store_here", "_law_many"] (qZ K (ZU 2147483579)):=⟨_,_,qhJ F2 T,W.mg_of X G g2.a,g2.k,b2⟩
 have O_law_far:Own l.prog w K mg base CX0 2 "_law_far" ["_law_store_here"] (qZ K (qiC 2147483579)):=⟨_,_,qjH F3 T YK O_law_draw,W.mg_of X G g3.a,g3.k,b3⟩
 have O_law_number:Own l.prog w K mg base CX0 3 "_law_number" ["_law_store_here"] (qZ K (qiC 2147483579)):=⟨_,_,qdk F4 YK O_law_draw O_law_far,W.mg_of X G g4.a,g4.k,b4⟩
 have O_law_point:Own l.prog w K mg base CX0 4 "_law_point" ["_law_store_here", "_law_some"] (qZ K qbc):=⟨_,_,qfl F5 T YK O_law_draw O_law_number,W.mg_of X G g5.a,g5.k,b5⟩
 have O_law_heap:Own l.prog w K mg base CX0 5 "_law_heap" ["_law_store_here", "_law_known"] (qZ K qhh):=⟨_,_,qhI F6 T YK O_law_draw O_law_point,W.mg_of X G g6.a,g6.k,b6⟩
 have Ocommon_divisor:Own l.prog w K mg base CX0 1 "common_divisor" ["one", "other"] (qZ K sGcd):=⟨_,_,ok_cd F7 T,W.mg_of X G g7.a,g7.k,b7⟩
 have Olead:Own l.prog w K mg base CX0 2 "lead" ["a", "b"] (qZ K qhe):=⟨_,_,qhF F8 YK Ocommon_divisor,W.mg_of X G g8.a,g8.k,b8⟩
 have Othrough:Own l.prog w K mg base CX0 3 "through" ["one", "other"] (qZ K sThr):=⟨_,_,qb1 F9 YK Olead,W.mg_of X G g9.a,g9.k,b9⟩
 have Osign:Own l.prog w K mg base CX0 1 "sign" ["number"] (qZ K qhc):=⟨_,_,qhC F10 ,W.mg_of X G g10.a,g10.k,b10⟩
 have Oside:Own l.prog w K mg base CX0 2 "side" ["line", "point"] (qZ K qhd):=⟨_,_,qhD F11 YK Osign,W.mg_of X G g11.a,g11.k,b11⟩
 have Osign_counts:Own l.prog w K mg base CX0 1 "sign_counts" ["signs"] (qZ K sSC):=⟨_,_,qjE F12 ,W.mg_of X G g12.a,g12.k,b12⟩
 have Ois_even_share:Own l.prog w K mg base CX0 1 "is_even_share" ["shares"] (qZ K sEv):=⟨_,_,ok_ev F13 ,W.mg_of X G g13.a,g13.k,b13⟩
 have Ocounts:Own l.prog w K mg base CX0 3 "counts" ["line", "heap"] (qZ K sCnt):=⟨_,_,qdn F14 YK Osign_counts Oside,W.mg_of X G g14.a,g14.k,b14⟩
 have Ohalves:Own l.prog w K mg base CX0 4 "halves" ["line", "heap"] (qZ K qax):=⟨_,_,qdm F15 YK Ois_even_share Ocounts,W.mg_of X G g15.a,g15.k,b15⟩
 have Oplaces:Own l.prog w K mg base CX0 1 "places" ["heap"] (qZ K sPlc):=⟨_,_,qdj F16 T,W.mg_of X G g16.a,g16.k,b16⟩
 have Oplace_pairs:Own l.prog w K mg base CX0 2 "place_pairs" ["heap"] (qZ K sPp):=⟨_,_,ok_pp F17 T YK Oplaces,W.mg_of X G g17.a,g17.k,b17⟩
 have Oline_key:Own l.prog w K mg base CX0 1 "line_key" ["line", "scale"] (qZ K sKey):=⟨_,_,qhE F18 ,W.mg_of X G g18.a,g18.k,b18⟩
 have Olines_in_order:Own l.prog w K mg base CX0 5 "lines_in_order" ["lines"] (qZ K (sLio 128)):=⟨_,_,qjF F19 hcd_ hB (W.codeHd_of_K Kb ch_) T YK Oline_key,W.mg_of X G g19.a,g19.k,b19⟩
 have Ojoining_lines:Own l.prog w K mg base CX0 6 "joining_lines" ["heap"] (qZ K (qhf 128)):=⟨_,_,qhH F20 T YK Oplace_pairs Othrough Olines_in_order,W.mg_of X G g20.a,g20.k,b20⟩
 have Oall_lines:Own l.prog w K mg base CX0 7 "all_lines" ["one", "other"] (qZ K (qkJ 128)):=⟨_,_,qjI F21 T YK Ojoining_lines Ohalves,W.mg_of X G g21.a,g21.k,b21⟩
 have Ofind_place:Own l.prog w K mg base CX0 1 "find_place" ["heap", "point"] (qZ K sFP):=⟨_,_,ok_fp F22 ,W.mg_of X G g22.a,g22.k,b22⟩
 have Ostepped:Own l.prog w K mg base CX0 2 "stepped" ["heap", "point", "to"] (qZ K sStp):=⟨_,_,qjD F23 YK Ofind_place,W.mg_of X G g23.a,g23.k,b23⟩
 have Olines_without:Own l.prog w K mg base CX0 1 "lines_without" ["lines", "others"] (qZ K sLW):=⟨_,_,ok_lw F24 T,W.mg_of X G g24.a,g24.k,b24⟩
 have CKeeper:OwnM l.prog w K mg base CX0 8 "Keeper" C ["self", "one", "other"] (qZ K (qhg C 128)):=⟨_,_,qfn F25 TKeeper T YK Oall_lines,W.mg_of X G aC_Keeper,⟨mk_Keeper,g25.a,g25.i,kc_Keeper⟩,b25⟩
 have MKeeper_heap:Jd l.prog w K mg base CX0 1 C "heap" ["self", "which"] (qZ K (qcT C)):=⟨_,_,qfo F26 TKeeper T,TKeeper.cl,⟨g26.a,g26.i,g26.k⟩,b26⟩
 have MKeeper_lines:Jd l.prog w K mg base CX0 1 C "lines" ["self"] (qZ K (qaw C)):=⟨_,_,qdl F27 TKeeper T,TKeeper.cl,⟨g27.a,g27.i,g27.k⟩,b27⟩
 have MKeeper_put:Jd l.prog w K mg base CX0 8 C "put" ["self", "which", "heap"] (qZ K (sPut C 128)):=⟨_,_,qhG F28 TKeeper YK Oall_lines Olines_without,TKeeper.cl,⟨g28.a,g28.i,g28.k⟩,b28⟩
 have MKeeper_step:Jd l.prog w K mg base CX0 9 C "step" ["self", "which", "point", "to"] (qZ K (qhb C 128)):=⟨_,_,qfm F29 TKeeper YK MKeeper_put Ostepped,TKeeper.cl,⟨g29.a,g29.i,g29.k⟩,b29⟩
 have O_law_far_from:Own l.prog w K mg base CX0 1 "_law_far_from" ["_law_line", "_law_point_here"] (qZ K sFF):=⟨_,_,ok_ff F30 ,W.mg_of X G g30.a,g30.k,b30⟩
 have O_law_passes:Own l.prog w K mg base CX0 2 "_law_passes" ["_law_line", "_law_point_here", "_law_goal"] (qZ K sPs):=⟨_,_,ok_ps F31 YK O_law_far_from,W.mg_of X G g31.a,g31.k,b31⟩
 have O_law_step_right:Own l.prog w K mg base CX0 10 "_law_step_right" ["_law_keeper", "_law_which", "_law_point_here", "_law_goal"] (qZ K (sSR C 128)):=⟨_,_,ok_sr F32 T YK MKeeper_lines MKeeper_step O_law_passes,W.mg_of X G g32.a,g32.k,b32⟩
 exact (qjG F33 T YK O_law_store O_law_heap O_law_draw O_law_point CKeeper MKeeper_heap O_law_step_right).imp (fun _ _ _ _ h=>qhW h)
theorem walk {l:W.OpenLaw}{q:Program}{loose:List Str}{XP:(Str->Option Value)->Heap->Prop}{YP:World->Heap->Prop}{d:DefRec}{K:Params->W.Frag}(hn:l.most=some 63) (hdf:d.params.defaults=[])
  (hY:∀ (w:World) (h:Heap),YP w h->(K w.params).In h)
  (hYt:∀ (w:World) (h:Heap),YP w h->h.get? 128=some (W.tabObj #[])) (hKt:∀ w:World,(K w.params).lookup 128=none) (hCt:∀ w:World,W.codeHdIn (K w.params) 130 128=true)
  (F:∀ (w:World) (mg:Str->Option Value) (fa:Addr) (h:Heap),(K w.params).In h->h.Ns mainGlobals mg->mg d.name=some (.ref fa) →
   ∃ fd:FuncData,(∀ (s:Shared) (u:Value),BindsTo s fd ⟨[u],[]⟩ [("_law_script",u)])/\∀ base:Heap,(K w.params).In base->base.Ns mainGlobals mg->YO base mg->FnOk l.prog w (K w.params) mg base CX0 12 fa fd ["_law_script"] (qa4 (K w.params) 128)) :
  W.WalkO q loose XP YP l.row.toRowW d [] (fun f vs=>PySem.call f vs) :=
 L2.walk_ofT (n:=63) (k:=12) (x := "_law_script") (CX:=fun w=>CX0) (sp:=fun w=>qa4 (K w.params) 128) 128 130 hn (by decide) hdf ⟨rfl,by decide,by decide⟩ hY hYt hKt hCt F (fun _ _ a ns hl ht hS=>⟨a,ns,rfl,hS,ht,hl,fun _=>rfl⟩) fun _ _ _ _ _ z=>z
end K92
namespace PySem.W.Fast
def tw809681756498734081:Nat:=0
def tw6792341949281229632:Nat:=0
def tw16516122074406305552:Nat:=0
def tw13305381434148541001:Nat:=0
def tw1754536079196702661:Nat:=0
def tw14378486215889954801:Nat:=0
def tw1236086476736665493:Nat:=0
def tw16529736758988237559:Nat:=0
def tw17511034108798582773:Nat:=0
def tw3679885520861289604:Nat:=0
def tw7820723071209055745:Nat:=0
def tw7878828996311432868:Nat:=0
def tw8715847123732963812:Nat:=0
def tw4298117162164538357:Nat:=0
def tw12298592602369018055:Nat:=0
def tw6319091745437723603:Nat:=0
def tw5828707293387014084:Nat:=0
def tw14200391763620274081:Nat:=0
def tw4171236460288370287:Nat:=0
def tw6474251085631227189:Nat:=0
def tw346351540501061347:Nat:=0
def tw5461466609048418818:Nat:=0
def tw14253831118199563295:Nat:=0
def tw7076553026023690883:Nat:=0
def tw7982824593552507092:Nat:=0
def tw357035719467313227:Nat:=0
def tw10566969861977924841:Nat:=0
def tw12775355871456569687:Nat:=0
def tw7270607444309437813:Nat:=0
def tw15661571141234133225:Nat:=0
def tw10368012109605376744:Nat:=0
def tw7850219819137729534:Nat:=0
def tw12515106196972945598:Nat:=0
def tw12939846795928816638:Nat:=0
def tw15862632522881158660:Nat:=0
def tw5517887357946603564:Nat:=0
def tw14841112161395493829:Nat:=0
def tw13109812714259693567:Nat:=0
def tw2880639569671136951:Nat:=0
def tw15660253775071277240:Nat:=0
def tw1886593089287560120:Nat:=0
def tw3171993082129986311:Nat:=0
def tw4426258336117690791:Nat:=0
def tw6023892550616757684:Nat:=0
def tw13170781302658213318:Nat:=0
def tw7226511011756096066:Nat:=0
def tw2837163968818169301:Nat:=0
def tw5759405197748141259:Nat:=0
def tw11991930433738222456:Nat:=0
def tw3039122070126650223:Nat:=0
def tw9349954025951354629:Nat:=0
def tw12834791117182933599:Nat:=0
def tw10992900539362678125:Nat:=0
def tw5265469195191195236:Nat:=0
def tw13147388425286457764:Nat:=0
def tw7849550831708275334:Nat:=0
def tw15686103140541751863:Nat:=0
def tw1208430951772274946:Nat:=0
def tw4366052555562633316:Nat:=0
def tw741355825750513540:Nat:=0
def tw5152105227030976954:Nat:=0
def tw998714260176906720:Nat:=0
def tw6283512830764378482:Nat:=0
def tw3233921792665455664:Nat:=0
def tw10268086258884914602:Nat:=0
def tw13235981306688258654:Nat:=0
def tw1171207853846822196:Nat:=0
def tw2428994344127904978:Nat:=0
def tw15600488103432252175:Nat:=0
def tw2863927378970333926:Nat:=0
def tw17051861006550912167:Nat:=0
def tw8679938258020302950:Nat:=0
def tw6984913921797516132:Nat:=0
def tw8043853353737283171:Nat:=0
def tw5875410101368907041:Nat:=0
def tw13468771853377884987:Nat:=0
def tw1365795516680459529:Nat:=0
def tw14326350483191197996:Nat:=0
def tw5540079405576329669:Nat:=0
def tw14733384326027001547:Nat:=0
def tw15715171438625053868:Nat:=0
def tw3833877490994583118:Nat:=0
def tw2602326138763929366:Nat:=0
def tw9334048352182886860:Nat:=0
def tw1047267200751701365:Nat:=0
def tw5212889406388304437:Nat:=0
def tw10047271764306308565:Nat:=0
def tw15326152989667273852:Nat:=0
def tw8783878287943921954:Nat:=0
def tw6362464729651418494:Nat:=0
def tw7723092756947053399:Nat:=0
def tw5536796811086182958:Nat:=0
def tw8446115841080070592:Nat:=0
def tw6012513181934797865:Nat:=0
def tw6462658228454559269:Nat:=0
def tw7396965307810079100:Nat:=0
def tw6731357470560743443:Nat:=0
def tw10991043001255488377:Nat:=0
def tw3054527030869699244:Nat:=0
def tw7246701583513530140:Nat:=0
def tw7326386009956220189:Nat:=0
def tw9009159708058351170:Nat:=0
def tw3633762889799838605:Nat:=0
def tw10926394878583096307:Nat:=0
def tw5460391836348228696:Nat:=0
def tw4886218115304733333:Nat:=0
def tw17803199693191337460:Nat:=0
def tw14053228588697707218:Nat:=0
def tw4673314382035411182:Nat:=0
def tw14243317042017582708:Nat:=0
def tw978340506725516451:Nat:=0
def tw11881645304736262148:Nat:=0
def tw12018161500273268573:Nat:=0
def tw9992939070781085709:Nat:=0
def tw5388451779574254029:Nat:=0
def tw6588904608735297827:Nat:=0
def tw4009066725215089730:Nat:=0
def tw6267186365187432335:Nat:=0
def tw6601115809141285890:Nat:=0
def tw10594418781860719708:Nat:=0
def tw10568493687913111423:Nat:=0
def tw5079159638869473781:Nat:=0
def tw7649618300091787322:Nat:=0
def tw4761927708569911432:Nat:=0
def tw18437739587148219472:Nat:=0
def tw4415256216342158228:Nat:=0
def tw356476012677993789:Nat:=0
def tw17202761028933328389:Nat:=0
def tw5213144054884781702:Nat:=0
def tw2309279879999087909:Nat:=0
def tw16091154076912395052:Nat:=0
def tw7833569595474849679:Nat:=0
def tw11251368403304297258:Nat:=0
def tw11137514893281886076:Nat:=0
def tw4273905237603191035:Nat:=0
def tw9416594687777380478:Nat:=0
def tw2670874134718180959:Nat:=0
def tw12083607378347706180:Nat:=0
def tw865143868829380724:Nat:=0
def tw12659667254378790990:Nat:=0
def tw979693016217830667:Nat:=0
def tw4165225193979202409:Nat:=0
def tw17816536479890647671:Nat:=0
def tw3020569342022697263:Nat:=0
def tw16808558721083347553:Nat:=0
def tw7548466357642512554:Nat:=0
def tw11526824399205294067:Nat:=0
def tw6488596247779367667:Nat:=0
def tw9911448475232247824:Nat:=0
def tw10243677947604556070:Nat:=0
def tw17007458960345023197:Nat:=0
def tw15545947042091426869:Nat:=0
def tw3753890571869053181:Nat:=0
def tw11697497662821111980:Nat:=0
def tw10017532786815286039:Nat:=0
def tw2097523485928850986:Nat:=0
def tw404549373337935610:Nat:=0
def tw5380901498587132022:Nat:=0
def tw17450809838925110334:Nat:=0
def tw17252483301636057420:Nat:=0
def tw2823135374536654615:Nat:=0
def tw7508825218396568944:Nat:=0
def tw2144786021496512611:Nat:=0
def tw13968701990289339645:Nat:=0
def tw4953105655037893589:Nat:=0
def tw7761247322933859561:Nat:=0
def tw1087336337403619038:Nat:=0
def tw4107287840425939971:Nat:=0
def tw11896045300170805160:Nat:=0
def tw17863610113396569941:Nat:=0
def tw12184055646125961941:Nat:=0
def tw3876665662133164464:Nat:=0
def tw15040810083292431623:Nat:=0
def tw10802470081711699448:Nat:=0
def tw9985920356546955457:Nat:=0
def tw8964797753598153051:Nat:=0
def tw7659712098659176737:Nat:=0
def tw7072806966390332820:Nat:=0
def tw7292267575918977494:Nat:=0
def tw397276199259516860:Nat:=0
def tw12778160887959316879:Nat:=0
def tw3389410180855863779:Nat:=0
def tw17261305134690486179:Nat:=0
def tw12852562107306466940:Nat:=0
def tw14494798292219445257:Nat:=0
def tw12018322930016966265:Nat:=0
def tw2211751958304438901:Nat:=0
def tw3740998890935918566:Nat:=0
def tw17413944643081243408:Nat:=0
def tw10183959471978867629:Nat:=0
def tw2290188799981344064:Nat:=0
def tw11156727338260628042:Nat:=0
def tw2484831087392811595:Nat:=0
def tw3080188901938619974:Nat:=0
def tw7091646905649322859:Nat:=0
def tw15413114896336549556:Nat:=0
def tw2971392949998799636:Nat:=0
def tw5719816843386068742:Nat:=0
def tw1508950140918891965:Nat:=0
def tw4755803221158542012:Nat:=0
def tw1911527821808309341:Nat:=0
def tw10655607677076104035:Nat:=0
def tw17101608986844276492:Nat:=0
def tw11562217278203059833:Nat:=0
def tw12852460315981351433:Nat:=0
def tw9488426362081301155:Nat:=0
def tw4465012413052581568:Nat:=0
def tw14332388573278766381:Nat:=0
def tw8461690604620086819:Nat:=0
def tw16173700836807311209:Nat:=0
def tw13108124342710298230:Nat:=0
def tw12412485079580301864:Nat:=0
def tw5894163110218698480:Nat:=0
def tw5528486763453098278:Nat:=0
def tw4046464752004713895:Nat:=0
def tw2138206441657738729:Nat:=0
def tw5919573057745307164:Nat:=0
def tw3929186056927262799:Nat:=0
def tw6515973143575487317:Nat:=0
def tw18148773419001881730:Nat:=0
def tw3572485281707168788:Nat:=0
def tw7143845721762507191:Nat:=0
def tw6411228220058255488:Nat:=0
def tw8890091207571913436:Nat:=0
def tw9350823310430886874:Nat:=0
def tw14080169131817893288:Nat:=0
def tw1517774461468561306:Nat:=0
def tw5001897244900000294:Nat:=0
def tw12102799536576490081:Nat:=0
def tw7017331486774769566:Nat:=0
def tw4034546675559531006:Nat:=0
def tw3796732411513208240:Nat:=0
def tw1348058795836133342:Nat:=0
def tw1030420842582725116:Nat:=0
def tw2685568689861672661:Nat:=0
def tw8346603844135458001:Nat:=0
def tw16487080375285949426:Nat:=0
def tw4736725737110524760:Nat:=0
def tw17055391355730065664:Nat:=0
def tw15556913707552253988:Nat:=0
def tw3973974045506947132:Nat:=0
def tw3939423754332458164:Nat:=0
def tw2811359640898836241:Nat:=0
def tw17091980712338603831:Nat:=0
def tw2834820042586674147:Nat:=0
def tw1250538094916345228:Nat:=0
def tw1007055177977591797:Nat:=0
def tw2999484841428181686:Nat:=0
def tw13522062483501340707:Nat:=0
def tw1419090407682249775:Nat:=0
def tw13059262619281481127:Nat:=0
def tw5369759657384635371:Nat:=0
def tw16241851450214987084:Nat:=0
def tw13278150583913188334:Nat:=0
def tw4706231551398471568:Nat:=0
def tw16758262426289259065:Nat:=0
def tw11876497406178137864:Nat:=0
def tw15263910809184577312:Nat:=0
def tw6809188481662242003:Nat:=0
def tw5378971079584700190:Nat:=0
def tw2711696403454117819:Nat:=0
def tw12565729359195426267:Nat:=0
def tw11060881449118089269:Nat:=0
def tw5944374946067298164:Nat:=0
def tw226648257378476716:Nat:=0
def tw10036329696824379779:Nat:=0
def tw1044591198932866785:Nat:=0
def tw106338940825334144:Nat:=0
def tw9106847053579365293:Nat:=0
def tw5122153804164705001:Nat:=0
def tw12285355213135204539:Nat:=0
def tw13884857269300338178:Nat:=0
def tw13398031051557331080:Nat:=0
def tw9440309034530863179:Nat:=0
def tw6451145293425454512:Nat:=0
def tw15909589068063185034:Nat:=0
def tw5842787691630165368:Nat:=0
def tw5218392335866140988:Nat:=0
def tw10277317069860804311:Nat:=0
def tw1692158435003415987:Nat:=0
def tw13776854505557810893:Nat:=0
def tw15772271807959852625:Nat:=0
def tw6953823293170688154:Nat:=0
def tw9701732158271211209:Nat:=0
def tw17318942628999974121:Nat:=0
def tw2124367709104015646:Nat:=0
def tw10954328230706665067:Nat:=0
def tw15868121669296812313:Nat:=0
def tw15575935080166281069:Nat:=0
end PySem.W.Fast
open PySem PySem.W PyProof.Rows
set_option maxRecDepth 100000 in
set_option maxHeartbeats 0 in
theorem PySem.Challenge.cw_halveline_k92_whole_steps_change_what_pa_holds : PySem.Challenge.rw_halveline_k92_whole_steps_change_what_pa.Holds := by
 w_on;o_law;k_head;(case hw=>w_witness2)
 k_fill
 refine K92.walk (l:=PySem.Challenge.rw_halveline_k92_whole_steps_change_what_pa) rfl rfl (fun w h Y=>W.km_in_of Y) (fun w h Y=>W.km_tabs_of Y 128 (by simp)) (fun w=>by kernel_rfl) (fun w=>by kernel_rfl) ?F
 case F =>
  intro w mg fa h KX G hmg
  refine' K92.all_mk KX G hmg ?aC_Keeper ?pg_Keeper ?hd_Keeper ?po_Keeper ?sa_Keeper ?mk_Keeper ?kc_Keeper ?n_Keeper_heaps ?n_Keeper_kept (K92.fin_mk ?a0 ?l0 ?c0 ?k0) (K92.fin_mk ?a1 ?l1 ?c1 ?k1) (K92.fin_mk ?a2 ?l2 ?c2 ?k2) (K92.fin_mk ?a3 ?l3 ?c3 ?k3) (K92.fin_mk ?a4 ?l4 ?c4 ?k4) (K92.fin_mk ?a5 ?l5 ?c5 ?k5) (K92.fin_mk ?a6 ?l6 ?c6 ?k6) (K92.fin_mk ?a7 ?l7 ?c7 ?k7) (K92.fin_mk ?a8 ?l8 ?c8 ?k8) (K92.fin_mk ?a9 ?l9 ?c9 ?k9) (K92.fin_mk ?a10 ?l10 ?c10 ?k10) (K92.fin_mk ?a11 ?l11 ?c11 ?k11) (K92.fin_mk ?a12 ?l12 ?c12 ?k12) (K92.fin_mk ?a13 ?l13 ?c13 ?k13) (K92.fin_mk ?a14 ?l14 ?c14 ?k14) (K92.fin_mk ?a15 ?l15 ?c15 ?k15) (K92.fin_mk ?a16 ?l16 ?c16 ?k16) (K92.fin_mk ?a17 ?l17 ?c17 ?k17) (K92.fin_mk ?a18 ?l18 ?c18 ?k18) (K92.fin_mk ?a19 ?l19 ?c19 ?k19) (K92.fin_mk ?a20 ?l20 ?c20 ?k20) (K92.fin_mk ?a21 ?l21 ?c21 ?k21) (K92.fin_mk ?a22 ?l22 ?c22 ?k22) (K92.fin_mk ?a23 ?l23 ?c23 ?k23) (K92.fin_mk ?a24 ?l24 ?c24 ?k24) (K92.min_mk ?a25 ?i25 ?l25 ?c25 ?k25) (K92.min_mk ?a26 ?i26 ?l26 ?c26 ?k26) (K92.min_mk ?a27 ?i27 ?l27 ?c27 ?k27) (K92.min_mk ?a28 ?i28 ?l28 ?c28 ?k28) (K92.min_mk ?a29 ?i29 ?l29 ?c29 ?k29) (K92.fin_mk ?a30 ?l30 ?c30 ?k30) (K92.fin_mk ?a31 ?l31 ?c31 ?k31) (K92.fin_mk ?a32 ?l32 ?c32 ?k32) ?a33 ?l33 ?c33 ?k33 ?z0 ?z1 ?z2 ?z3 ?z4 ?z5 ?z6 ?z7 ?z8 ?z9 ?z10 ?z11 ?z12 ?z13 ?z14 ?z15 ?z16 ?z17 ?hcd_ ?ch_
  any_goals k_is
  (case hcd_=>rfl)
  (case ch_=>kernel_rfl)
