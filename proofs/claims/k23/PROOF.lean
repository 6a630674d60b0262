import PyProof.Rows.All
import Wide.All
import OpenK.AllK
import Wide.FinOn
import Lean
import PyProof.EqAt
import PyProof.EqKinds
import PyProof.TupleCall
import KE.KSortTup
import PyProof.Rows.SortWalk
import PyProof.Rows.SetFrom
import PyProof.CollectIter
import PyProof.SeqI3
import PyProof.EnumFor
import PyProof.EnumMake
import PyProof.ZipIter
import KE.KLam
import KE.KNestM
import KE.KSortKey
import PyProof.Rows.CallKwBuiltin
import PyProof.WalkInts
import PyProof.DictRoadsH
import PyProof.Rows.TupTab
import PyProof.AttrMissHeap
import KE.KEqDict
import KE.KDictOf
import PyProof.Rows.SortShell
import KE.KDictLaws
import PyProof.DictCompW
import PySem.Challenge.RW_halveline_k23_slopes_and_ranks
set_option Elab.async false
set_option linter.all false
set_option maxRecDepth 100000
noncomputable section
section
open PySem PySem.Spec PyProof.Rows
theorem qa:type_of% @wpAny_bind:=@wpAny_bind
theorem qb:type_of% @Heap.get?_push_of_some:=@Heap.get?_push_of_some
theorem qc:type_of% @wpAny_pure:=@wpAny_pure
theorem qe:type_of% @List.mem_cons_self:=@List.mem_cons_self
theorem qf:type_of% @List.mem_cons_of_mem:=@List.mem_cons_of_mem
theorem qg:type_of% @Nat.ne_of_lt:=@Nat.ne_of_lt
theorem qh:type_of% @List.mem_append_right:=@List.mem_append_right
theorem qi:type_of% @Heap.lt_size:=@Heap.lt_size
theorem qj:type_of% @Heap.get?_push_size:=@Heap.get?_push_size
theorem qk:type_of% @List.getElem?_eq_some_iff:=@List.getElem?_eq_some_iff
theorem ql:type_of% @List.mem_map:=@List.mem_map
theorem qp:type_of% @wpAny_mono:=@wpAny_mono
theorem qq:type_of% @Nat.le_trans:=@Nat.le_trans
theorem qr:type_of% @List.mem_append_left:=@List.mem_append_left
theorem qu:type_of% @Nat.lt_of_lt_of_le:=@Nat.lt_of_lt_of_le
theorem qv:type_of% @List.getElem?_append_left:=@List.getElem?_append_left
theorem qy:type_of% @List.getElem_mem:=@List.getElem_mem
theorem qA:type_of% @List.mem_singleton:=@List.mem_singleton
theorem qB:type_of% @Nat.zero_le:=@Nat.zero_le
theorem qG:type_of% @Array.getElem?_toList:=@Array.getElem?_toList
theorem qH:type_of% @wpAny_holding:=@wpAny_holding
theorem qI:type_of% @List.getElem?_of_mem:=@List.getElem?_of_mem
theorem qJ:type_of% @Heap.get?_update_other:=@Heap.get?_update_other
theorem qN:type_of% @of_decide_eq_true:=@of_decide_eq_true
theorem qO:type_of% @wpAny_seqItems:=@wpAny_seqItems
theorem qP:type_of% @Nat.le_of_lt:=@Nat.le_of_lt
theorem qQ:type_of% @Heap.get?_update_self:=@Heap.get?_update_self
theorem qR:type_of% @Nat.le_add_right:=@Nat.le_add_right
theorem qS:type_of% @List.getElem?_append_right:=@List.getElem?_append_right
theorem qT:type_of% @Nat.lt_succ_of_lt:=@Nat.lt_succ_of_lt
theorem qU:type_of% @List.pairwise_iff_getElem:=@List.pairwise_iff_getElem
theorem qV:type_of% @Heap.size_push:=@Heap.size_push
theorem qZ:type_of% @Nat.lt_succ_self:=@Nat.lt_succ_self
theorem ya:type_of% @List.length_take:=@List.length_take
theorem yb:type_of% @wpAny_newObj_type:=@wpAny_newObj_type
theorem yc:type_of% @decide_eq_false:=@decide_eq_false
theorem ye:type_of% @Nat.lt_irrefl:=@Nat.lt_irrefl
theorem yf:type_of% @wpAny_call_entry:=@wpAny_call_entry
theorem yh:type_of% @List.pairwise_map:=@List.pairwise_map
theorem yi:type_of% @Nat.ne_of_gt:=@Nat.ne_of_gt
theorem yj:type_of% @Nat.lt_trans:=@Nat.lt_trans
theorem yk:type_of% @Option.map_eq_some_iff:=@Option.map_eq_some_iff
theorem yl:type_of% @wpS_bind:=@wpS_bind
theorem yo:type_of% @List.take_length:=@List.take_length
theorem yr:type_of% @Nat.lt_of_le_of_lt:=@Nat.lt_of_le_of_lt
theorem yF:type_of% @List.getElem?_replicate:=@List.getElem?_replicate
theorem yH:type_of% @Bool.false_ne_true:=@Bool.false_ne_true
theorem yN:type_of% @wpAny_setState_of:=@wpAny_setState_of
theorem yO:type_of% @wpAny_field:=@wpAny_field
theorem yQ:type_of% @Heap.get?_update_ne:=@Heap.get?_update_ne
theorem yS:type_of% @wpAny_standAt:=@wpAny_standAt
theorem yU:type_of% @Int.mul_eq_zero:=@Int.mul_eq_zero
theorem yV:type_of% @wpAny_rule:=@wpAny_rule
theorem yX:type_of% @List.getElem?_set_ne:=@List.getElem?_set_ne
theorem yZ:type_of% @wpS_pure:=@wpS_pure
theorem jc:type_of% @wpAny_letGo:=@wpAny_letGo
theorem jh:type_of% @Array.perm_iff_toList_perm:=@Array.perm_iff_toList_perm
theorem jn:type_of% @List.filter_append:=@List.filter_append
theorem ju:type_of% @wpAny_updateSeq:=@wpAny_updateSeq
theorem jv:type_of% @wpAny_pyIter_list:=@wpAny_pyIter_list
theorem jG:type_of% @Nat.lt_or_ge:=@Nat.lt_or_ge
theorem jH:type_of% @wpAny_onRaise:=@wpAny_onRaise
theorem jO:type_of% @wpAny_askSetting:=@wpAny_askSetting
end
namespace L2
theorem lenIs1 {Z:Type}{us:List Z}{n:Nat}(h:us.length=n) (e:n=1):∃ a0,us=[a0]:=by
  subst e;cases us with
  | nil=>simp at h
  | cons a0 us =>
    cases us with
    | nil=>exact ⟨_,rfl⟩
    | cons a b=>simp at h
theorem lenIs2 {Z:Type}{us:List Z}{n:Nat}(h:us.length=n) (e:n=2):∃ a0 a1,us=[a0,a1]:=by
  subst e;cases us with
  | nil=>simp at h
  | cons a0 us =>
    cases us with
    | nil=>simp at h
    | cons a1 us =>
      cases us with
      | nil=>exact ⟨_,_,rfl⟩
      | cons a b=>simp at h
theorem lenIs3 {Z:Type}{us:List Z}{n:Nat}(h:us.length=n) (e:n=3):∃ a0 a1 a2,us=[a0,a1,a2]:=by
  subst e;cases us with
  | nil=>simp at h
  | cons a0 us =>
    cases us with
    | nil=>simp at h
    | cons a1 us =>
      cases us with
      | nil=>simp at h
      | cons a2 us =>
        cases us with
        | nil=>exact ⟨_,_,_,rfl⟩
        | cons a b=>simp at h
theorem lenIs4 {Z:Type}{us:List Z}{n:Nat}(h:us.length=n) (e:n=4):∃ a0 a1 a2 a3,us=[a0,a1,a2,a3]:=by
  subst e;cases us with
  | nil=>simp at h
  | cons a0 us =>
    cases us with
    | nil=>simp at h
    | cons a1 us =>
      cases us with
      | nil=>simp at h
      | cons a2 us =>
        cases us with
        | nil=>simp at h
        | cons a3 us =>
          cases us with
          | nil=>exact ⟨_,_,_,_,rfl⟩
          | cons a b=>simp at h
open PySem PySem.Spec PyProof.Rows
abbrev Key:=Sum Int Str
def qbq:Key->Value->Bool
  | .inl k,v=>Value.isInt k v
  | .inr x,v=>Value.isStrOf x v
def keyH (w:World):Key->Int
  | .inl k=>hashInt k
  | .inr x=>hashStr w x
theorem yD:∀ {k:Key}{v:Value},qbq k v=true->(∃ i t,k=Sum.inl i/\v=Value.int i t)\/(∃ x t,k=Sum.inr x/\v=Value.str x t)
  | .inl i,v,h=>by
    obtain ⟨t,e⟩:=Value.isInt_shape (k:=i) (v:=v) h;exact .inl ⟨i,t,rfl,e⟩
  | .inr x,v,h=>by
    obtain ⟨t,e⟩:=Value.isStrOf_shape (x:=x) (v:=v) h;exact .inr ⟨x,t,rfl,e⟩
theorem qer (i:Int) (t:Tok):qbq (.inl i) (.int i t)=true:=by simp [qbq,Value.isInt]
theorem qeq (x:Str) (t:Tok):qbq (.inr x) (.str x t)=true:=by simp [qbq,Value.isStrOf]
theorem qkM (a b:Int):decide ((Sum.inl a:Key)=Sum.inl b)=(a == b):=by
  by_cases e:a=b
  . subst e;simp
  . have h:¬ (Sum.inl a:Key)=Sum.inl b:=fun q=>e (Sum.inl.inj q)
    rw [yc h];exact (beq_eq_false_iff_ne.mpr e).symm
theorem qkJ (a b:Str):decide ((Sum.inr a:Key)=Sum.inr b)=decide (a=b):=by
  by_cases e:a=b
  . subst e;simp
  . have h:¬ (Sum.inr a:Key)=Sum.inr b:=fun q=>e (Sum.inr.inj q)
    rw [yc h,yc e]
theorem qkL (a:Int) (b:Str):decide ((Sum.inl a:Key)=Sum.inr b)=false:=yc (fun q=>nomatch q)
theorem qkK (a:Str) (b:Int):decide ((Sum.inr a:Key)=Sum.inl b)=false:=yc (fun q=>nomatch q)
def y8 (prog:Program) (w:World):PySem.KeyKind prog w Key where
  is:=qbq
  hash:=keyH w
  inj:=fun v a b ha hb=>by
    rcases yD ha with ⟨i,t,rfl,rfl⟩ | ⟨x,t,rfl,rfl⟩
    . rcases yD hb with ⟨j,u,rfl,e⟩ | ⟨y,u,rfl,e⟩
      . injection e with e1 _;rw [e1]
      . exact nomatch e
    . rcases yD hb with ⟨j,u,rfl,e⟩ | ⟨y,u,rfl,e⟩
      . exact nomatch e
      . injection e with e1 _;rw [e1]
  byValue:=fun k v h=>by rcases yD h with ⟨i,t,rfl,rfl⟩ | ⟨x,t,rfl,rfl⟩ <;> rfl
  pyHash:=fun hv h=>by
    rcases yD hv with ⟨i,t,rfl,rfl⟩ | ⟨x,t,rfl,rfl⟩
    . exact wpAny_pyHash_int h
    . exact wpAny_pyHash_str h
  eqBool:=fun hu hv h=>by
    rcases yD hu with ⟨i,t,rfl,rfl⟩ | ⟨x,t,rfl,rfl⟩
    . rcases yD hv with ⟨j,u,rfl,rfl⟩ | ⟨y,u,rfl,rfl⟩
      . rw [qkM] at h;exact wpAny_eqBool_int h
      . rw [qkL] at h;exact SeqAt.EqAt.int_str i t y u _ _ _ _ h
    . rcases yD hv with ⟨j,u,rfl,rfl⟩ | ⟨y,u,rfl,rfl⟩
      . rw [qkK] at h;exact SeqAt.EqAt.str_int x t j u _ _ _ _ h
      . rw [qkJ] at h;exact wpAny_eqBool_str h
  «strs»:=fun k x t v h=>by
    rcases yD h with ⟨i,u,rfl,e⟩ | ⟨y,u,rfl,e⟩
    . exact nomatch e
    . injection e with e1 _
      subst e1;cases v <;> rfl
theorem qbm (prog:Program) (w:World) (i:Int) (t:Tok):(y8 prog w).is (.inl i) (.int i t)=true:=qer i t
theorem qbl (prog:Program) (w:World) (x:Str) (t:Tok):(y8 prog w).is (.inr x) (.str x t)=true:=qeq x t
inductive V where
  | non | bl (b:Bool) | int (i:Int) | str (x:Str) | byt (b:Array UInt8) | flt (b:UInt64) | ref (a:Addr) | ty (n:String)
  deriving DecidableEq
def jb:V->Value->Prop
  | .non,u=>u=Value.none
  | .bl b,u=>u=Value.bool b
  | .int i,u=>∃ t,u=Value.int i t
  | .str x,u=>∃ t,u=Value.str x t
  | .byt b,u=>∃ t,u=Value.bytes b t
  | .flt b,u=>∃ t,u=Value.float b t
  | .ref a,u=>u=Value.ref a
  | .ty n,u=>u=Value.type n
abbrev yy:List V->List Value->Prop:=Paired jb
theorem yy.length {xs:List V}{us:List Value}(r:yy xs us):xs.length=us.length:=Paired.length r
theorem yy.get:∀ {xs:List V}{us:List Value}{i:Nat}{x:V},yy xs us->xs[i]?=some x->∃ u,us[i]?=some u/\jb x u
  | _,_,_,_,.nil,e=>by simp at e
  | _,_,0,_,.cons r _,e=>by simp at e;subst e;exact ⟨_,rfl,r⟩
  | _,_,i+1,x,.cons _ t,e=>by
    obtain ⟨u,h1,h2⟩:=yy.get (i:=i) (x:=x) t (by simpa using e);exact ⟨u,by simpa using h1,h2⟩
theorem yy.set {x:V}{u:Value}(r:jb x u):∀ {xs:List V}{us:List Value}(i:Nat),yy xs us->yy (xs.set i x) (us.set i u)
  | _,_,_,.nil=>.nil
  | _,_,0,.cons _ t=>.cons r t
  | _,_,i+1,.cons q t=>.cons q (yy.set r i t)
theorem yy.append:∀ {xs ys:List V}{us ws:List Value},yy xs us->yy ys ws->yy (xs++ys) (us++ws)
  | _,_,_,_,.nil,s=>s
  | _,_,_,_,.cons r t,s=>.cons r (yy.append t s)
theorem yy.take:∀ {xs:List V}{us:List Value}(n:Nat),yy xs us->yy (xs.take n) (us.take n)
  | _,_,0,_=>.nil
  | _,_,_+1,.nil=>.nil
  | _,_,n+1,.cons r t=>.cons r (yy.take n t)
theorem yy.drop:∀ {xs:List V}{us:List Value}(n:Nat),yy xs us->yy (xs.drop n) (us.drop n)
  | _,_,0,r=>r
  | _,_,_+1,.nil=>.nil
  | _,_,n+1,.cons _ t=>yy.drop n t
def qhr:Option V->Option Value->Prop
  | some v,some u=>jb v u
  | none,none=>True
  | _,_=>False
def KV {κ:Type}:List (κ×V)->List (κ×Value)->Prop:=Paired fun (p:κ×V) (q:κ×Value)=>p.1=q.1/\jb p.2 q.2
def kV:Key->V
  | .inl i=>.int i
  | .inr x=>.str x
inductive HO where
    | lst (xs:List V)
    | tup (xs:List V)
    | dK (kvs:List (Key×V)) | dT (kvs:List (List Key×V))
    | set (S:Int->Bool) (n:Nat)
    | ins (C dx:Addr) (fs:List (Str×V))
    | own (x:Addr)
    | xd (fs:List (Str×V))
    | met (f x:Addr)
    | rng (lo hi:Int)
    | frz (o:Obj) (u:HO)
    | tbl (ps:Array Value)
    | ext (φ:Heap->Prop)
abbrev Hp:=Addr->Option HO
def upd (H:Hp) (a:Addr) (o:HO):Hp:=fun b=>if b=a then some o else H b
theorem qE {H:Hp}{a:Addr}{o:HO}:upd H a o a=some o:=by unfold upd;rw [if_pos rfl]
theorem qC {H:Hp}{a b:Addr}{o:HO}(h:b≠a):upd H a o b=H b:=by unfold upd;rw [if_neg h]
theorem qt {H:Hp}{a b:Addr}{o:HO}(h:H a=some o) (h':H b=none):a≠b:=by intro e;subst e;rw [h] at h';cases h'
section
variable (P:Program) (w:World)
def ja (H:Hp) (h:Heap) (a:Addr):HO->Prop
  | .lst xs=>xs.length<=sizeLine/\∃ (its:List Value) (n:Nat),yy xs its/\h.get? a=some { cls:=.type "list",data:=.seq its.toArray n }
  | .tup xs=>xs.length<=sizeLine/\∃ its:List Value,yy xs its/\IsTup h a its.toArray
  | .dK kvs=>kvs.length<=sizeLine/\(a == sysModules)=false/\∃ vs,KV kvs vs/\h.DictOf (y8 P w) a vs
  | .dT kvs=>kvs.length<=sizeLine/\(a == sysModules)=false/\∃ xs:List (List Key×Addr×Value),
      Paired (fun (p:List Key×V) (q:List Key×Addr×Value)=>p.1=q.1/\H q.2.1=some (.tup (p.1.map kV))/\jb p.2 q.2.2) kvs xs ∧
      ∃ o es ep,h.get? a=some o/\o.ExactDict/\o.data = .dict es ep/\es.toList=xs.map (entryOfKey (tupleKind (y8 P w)))/\(xs.map (·.1)).Nodup
  | .set S n=>h.SetOf (intKind P w) a S n
  | .ins C dx fs=>H dx=some (.own a)/\fs.length<=1000/\dx≠a/\h.get? a=some (W.instObj C dx) ∧
      ∃ mA,h.Ns1 dx mA/\(∀ f,qhr (fs.lookup f) (mA f))/\PySem.Within mA (fs.map (·.1))
  | .own _=>∃ o,h.get? a=some o
  | .xd fs=>∃ mA,h.Ns1 a mA/\∀ f,qhr (fs.lookup f) (mA f)
  | .rng lo hi=>∃ t u v,h.get? a=some { cls:=.type "range",data:=.fields #[.int lo t,.int hi u,.int 1 v] }
  | .frz o u=>h.get? a=some o/\ja H h a u
  | .tbl ps=>h.get? a=some { cls:=.none,data:=.fields ps }
  | .met f x=>h.get? a=some (W.methodObj (.ref f) (.ref x))
  | .ext φ=>φ h/\(∃ o,h.get? a=some o)/\∀ h1 h2:Heap,φ h1->(∀ o,h1.get? a=some o->h2.get? a=some o)->φ h2
def HOk (H:Hp) (h:Heap):Prop:=∀ a o,H a=some o->ja P w H h a o
end
section
variable {P:Program}{w:World}{H H':Hp}{h h':Heap}{a:Addr}{o:HO}
theorem ja.lt (x:ja P w H h a o):a<h.objs.size:=by
  cases o with
  | lst xs=>obtain ⟨_,_,_,_,e⟩:=x;exact qi e
  | tup xs=>obtain ⟨_,_,_,p⟩:=x;exact p.lt
  | dK kvs=>obtain ⟨_,_,_,_,o,_,_,e,_⟩:=x;exact qi e
  | dT kvs=>obtain ⟨_,_,_,_,o,_,_,e,_⟩:=x;exact qi e
  | set S n=>obtain ⟨o,_,_,_,e,_⟩:=x;exact qi e
  | ins C dx fs=>obtain ⟨_,_,_,e,_⟩:=x;exact qi e
  | own y=>obtain ⟨_,e⟩:=x;exact qi e
  | xd fs=>obtain ⟨_,⟨_,_,_,e,_⟩,_⟩:=x;exact qi e
  | rng lo hi=>obtain ⟨_,_,_,e⟩:=x;exact qi e
  | frz ob u=>obtain ⟨e,_⟩:=x;exact qi e
  | tbl ps=>exact qi (show h.get? a=some _ from x)
  | met f y=>exact qi (show h.get? a=some _ from x)
  | ext φ=>obtain ⟨_,⟨_,e⟩,_⟩:=x;exact qi e
theorem Paired.mapP {Z β:Type}{F G:Z->β->Prop}:∀ {l₁:List Z}{l₂:List β},Paired F l₁ l₂->(∀ a b,F a b->G a b)->Paired G l₁ l₂
  | _,_,.nil,_=>.nil
  | _,_,.cons r t,f=>.cons (f _ _ r) (Paired.mapP t f)
theorem ja.stay (x:ja P w H h a o) (k:∀ b u,(b=a\/H b=some (.own a))->h.get? b=some u->h'.get? b=some u)
    (ho:∀ b,H b=some (.own a)->H' b=some (.own a)) (ht:∀ b xs,H b=some (.tup xs)->H' b=some (.tup xs)):ja P w H' h' a o:=by
  induction o with
  | lst xs=>obtain ⟨z,its,n,r,e⟩:=x;exact ⟨z,its,n,r,k _ _ (.inl rfl) e⟩
  | tup xs=>obtain ⟨z,its,r,ob,e,c⟩:=x;exact ⟨z,its,r,ob,k _ _ (.inl rfl) e,c⟩
  | dK kvs=>obtain ⟨z,y,vs,r,ob,es,ep,e,c⟩:=x;exact ⟨z,y,vs,r,ob,es,ep,k _ _ (.inl rfl) e,c⟩
  | dT kvs =>
    obtain ⟨z,y,xs,r,ob,es,ep,e,c⟩:=x;exact ⟨z,y,xs,Paired.mapP r fun p q z=>⟨z.1,ht _ _ z.2.1,z.2.2⟩,ob,es,ep,k _ _ (.inl rfl) e,c⟩
  | set S n=>obtain ⟨ob,es,ep,t,e,c⟩:=x;exact ⟨ob,es,ep,t,k _ _ (.inl rfl) e,c⟩
  | ins C dx fs =>
    obtain ⟨d,z,ne,e,mA,⟨od,es,ep,e2,c⟩,r⟩:=x;exact ⟨ho _ d,z,ne,k _ _ (.inl rfl) e,mA,⟨od,es,ep,k _ _ (.inr d) e2,c⟩,r⟩
  | own y=>obtain ⟨ob,e⟩:=x;exact ⟨ob,k _ _ (.inl rfl) e⟩
  | xd fs=>obtain ⟨mA,⟨od,es,ep,e,c⟩,r⟩:=x;exact ⟨mA,⟨od,es,ep,k _ _ (.inl rfl) e,c⟩,r⟩
  | rng lo hi=>obtain ⟨t,u,v,e⟩:=x;exact ⟨t,u,v,k _ _ (.inl rfl) e⟩
  | frz ob u ih=>obtain ⟨e,q⟩:=x;exact ⟨k _ _ (.inl rfl) e,ih q⟩
  | tbl ps =>
    have e:h.get? a=some { cls:=.none,data:=.fields ps }:=x;show h'.get? a=some { cls:=.none,data:=.fields ps };exact k a _ (.inl rfl) e
  | met f y =>
    have e:h.get? a=some (W.methodObj (.ref f) (.ref y)):=x;show h'.get? a=some (W.methodObj (.ref f) (.ref y));exact k a _ (.inl rfl) e
  | ext φ=>obtain ⟨p,⟨o,e⟩,st⟩:=x;exact ⟨st _ _ p fun o q=>k _ _ (.inl rfl) q,⟨o,k _ _ (.inl rfl) e⟩,st⟩
theorem HOk.lt (x:HOk P w H h) (e:H a=some o):a<h.objs.size:=(x a o e).lt
theorem HOk.fresh (x:HOk P w H h) (e:h.objs.size<=a):H a=none:=by
  cases q:H a with
  | none=>rfl
  | some u=>exact absurd (qu (x.lt q) e) (ye _)
theorem HOk.kept (x:HOk P w H h) (k:∀ b u,h.get? b=some u->h'.get? b=some u):HOk P w H h':=fun a o e =>
  (x a o e).stay (fun b u _ q=>k b u q) (fun _ q=>q) fun _ _ q=>q
theorem HOk.laid (x:HOk P w H h) (k:∀ b u,h.get? b=some u->h'.get? b=some u) (hp:h.objs.size<=a) (new:ja P w (upd H a o) h' a o):HOk P w (upd H a o) h':=fun b u e=>by
  have hn:=x.fresh hp;by_cases hb:b=a
  . subst hb;rw [qE] at e;cases e;exact new
  . rw [qC hb] at e
    exact (x b u e).stay (fun c v _ q=>k c v q) (fun c q=>by rw [qC (qt q hn)];exact q) fun c xs q=>by rw [qC (qt q hn)];exact q
end
def Rd (H:Hp) (a:Addr) (u:HO):Prop:=H a=some u\/∃ o,H a=some (.frz o u)
theorem Rd.ok {P:Program}{w:World}{H:Hp}{h:Heap}{a:Addr}{u:HO}(r:Rd H a u) (x:HOk P w H h):ja P w H h a u:=by
  rcases r with r | ⟨o,r⟩
  . exact x a u r
  . obtain ⟨_,q⟩:=x a _ r
    exact q
def Mut:Option HO->Prop
  | some (.lst _)=>True
  | some (.dK _)=>True
  | some (.dT _)=>True
  | some (.set _ _)=>True
  | some (.ins _ _ _)=>True
  | some (.ext _)=>True
  | _=>False
section
variable {P:Program}{w:World}{H:Hp}{h h':Heap}{x e:Addr}{o':HO}
theorem HOk.write (ok:HOk P w H h) (mu:Mut (H x)) (he:e=x\/H e=some (.own x)) (k:∀ b u,b≠e->h.get? b=some u->h'.get? b=some u) (heo:∃ u,h'.get? e=some u)
    (new:ja P w (upd H x o') h' x o'):HOk P w (upd H x o') h':=fun b u q=>by
  have nown:∀ c y,H c=some (.own y)->c≠x:=fun c y r z=>by subst z;rw [r] at mu;exact mu
  have ntup:∀ c xs,H c=some (.tup xs)->c≠x:=fun c xs r z=>by subst z;rw [r] at mu;exact mu
  by_cases hb:b=x
  . subst hb;rw [qE] at q;cases q;exact new
  . rw [qC hb] at q
    by_cases hbe:b=e
    . have q':H b=some (.own x):=by
        rcases he with z | z
        . exact absurd (hbe.trans z) hb
        . rw [hbe];exact z
      rw [q] at q';cases q';obtain ⟨v,hv⟩:=heo;exact ⟨v,by rw [hbe];exact hv⟩
    . refine (ok b u q).stay (fun c v hc r=>k c v ?_ r) (fun c r=>by rw [qC (nown c b r)];exact r) fun c xs r=>by rw [qC (ntup c xs r)];exact r
      rcases hc with rfl | hc
      . exact hbe
      . rintro rfl
        rcases he with z | z
        . exact nown c b hc z
        . rw [hc] at z;cases z;exact hb rfl
end
structure Un (fs ex:List Addr) (H H':Hp) (h h':Heap):Prop where
  keep:∀ b o,h.get? b=some o->H b=none->b∉fs->b∉ex->h'.get? b=some o
  slot:∀ b o,h.get? b=some o->H b=none->b∈fs->b∉ex->∃ sl,h'.get? b=some { o with slots:=sl }
  free:∀ b o,h.get? b=some o->H b=none->b∉ex->H' b=none
  there:∀ b o,h.get? b=some o->b∉ex->∃ o',h'.get? b=some o'
  tups:∀ b xs,H b=some (.tup xs)->H' b=some (.tup xs)
  frzs:∀ b o u,H b=some (.frz o u)->H' b=some (.frz o u)
  tbls:∀ b ps,H b=some (.tbl ps)->∃ more,H' b=some (.tbl (ps++more))
section
variable {fs fs' ex ex':List Addr}{H H1 H2:Hp}{h h1 h2 h':Heap}{a x e:Addr}{o:HO}
theorem Un.any (u:Un fs ex H H1 h h1) {b:Addr}{ob:Obj}(q:h.get? b=some ob) (n:H b=none) (hx:b∉ex):∃ sl,h1.get? b=some { ob with slots:=sl }:=by
  by_cases hb:b∈fs
  . exact u.slot b ob q n hb hx
  . exact ⟨ob.slots,u.keep b ob q n hb hx⟩
theorem Un.kept (k:∀ b u,h.get? b=some u->h'.get? b=some u):Un fs ex H H h h' :=
  ⟨fun b ob q _ _ _=>k b ob q,fun b ob q _ _ _=>⟨ob.slots,k b ob q⟩,fun _ _ _ n _=>n,fun b ob q _=>⟨ob,k b ob q⟩,fun _ _ q=>q,fun _ _ _ q=>q,fun _ ps q=>⟨#[],by rw [q];simp⟩⟩
theorem Un.refl:Un fs ex H H h h:=Un.kept fun _ _ q=>q
theorem Un.laid (k:∀ b u,h.get? b=some u->h'.get? b=some u) (hp:h.objs.size<=a) (hn:H a=none):Un fs ex H (upd H a o) h h' where
  keep:=fun b u q _ _ _=>k b u q
  slot:=fun b u q _ _ _=>⟨u.slots,k b u q⟩
  free:=fun b u q n _=>by rw [qC (qg (qu (qi q) hp))];exact n
  there:=fun b u q _=>⟨u,k b u q⟩
  tups:=fun b xs q=>by rw [qC (qt q hn)];exact q
  frzs:=fun b u xs q=>by rw [qC (qt q hn)];exact q
  tbls:=fun b ps q=>⟨#[],by rw [qC (qt q hn),q];simp⟩
theorem Un.write (mu:Mut (H x)) (he:e=x\/H e=some (.own x)) (k:∀ b u,b≠e->h.get? b=some u->h'.get? b=some u) (heo:∃ u,h'.get? e=some u):Un fs ex H (upd H x o) h h':=by
  have hx:∀ b,H b=none->b≠x:=fun b n z=>by subst z;rw [n] at mu;exact mu
  have hb:∀ b,H b=none->b≠e:=fun b n z=>by
    subst z;rcases he with r | r
    . exact hx b n r
    . rw [n] at r;cases r
  have hm:∀ b u,H b=some u->¬ Mut (some u)->b≠x:=fun b u q nm z=>by subst z;rw [q] at mu;exact nm mu
  refine ⟨fun b u q n _ _=>k b u (hb b n) q,fun b u q n _ _=>⟨u.slots,k b u (hb b n) q⟩,fun b u q n _=>by rw [qC (hx b n)];exact n,fun b u q _=>?_,
    fun b xs q=>by rw [qC (hm b _ q fun z=>z)];exact q,fun b u xs q=>by rw [qC (hm b _ q fun z=>z)];exact q,fun b ps q=>⟨#[],by rw [qC (hm b _ q fun z=>z),q];simp⟩⟩
  by_cases hbe:b=e
  . subst hbe;exact heo
  . exact ⟨u,k b u hbe q⟩
end
def trk (h:Heap) (H:Hp):List Addr:=(List.range h.objs.size).filter fun a=>(H a).isSome
def qfi (h:Heap) (H:Hp):Heap:=W.hideAll h (trk h H)
theorem qeA (h:Heap) (H:Hp):(qfi h H).objs.size=h.objs.size:=W.hideAll_size _ _
theorem qf7 {h:Heap}{H:Hp}{b:Addr}{o:Obj}(e:h.get? b=some o) (n:H b=none):(qfi h H).get? b=some o :=
  W.hideAll_get _ e fun hm=>by
    have q:(H b).isSome=true:=(List.mem_filter.mp hm).2;rw [n] at q;simp at q
theorem qix {h:Heap}{H:Hp}{b:Addr}{o:Obj}(e:(qfi h H).get? b=some o):h.get? b=some o/\H b=none:=by
  have e':h.get? b=some o:=W.of_hideAll (trk h H) e;refine ⟨e',?_⟩;cases q:H b with
  | none=>rfl
  | some x =>
    have hm:b∈trk h H:=List.mem_filter.mpr ⟨List.mem_range.mpr (qi e'),by simp [q]⟩;have z:(qfi h H).get? b=none:=W.hideAll_none (trk h H) hm;rw [z] at e;cases e
structure Mod (K:W.Frag) (mg:Str->Option Value) (base:Heap):Prop where
  kin:K.In base
  glob:base.Ns mainGlobals mg
  blt:∃ mb,base.Ns builtinsNs mb/\∀ x:Str,x ≠ "__name__" -> mb x=bootBuiltins x
  nolimit:base.NoLimit
structure Cx where
  prog:Program
  w:World
  K:W.Frag
  mg:Str->Option Value
  base:Heap
  A:Around
  N:List Str
  sa0:Shared
  H0:Hp
  env:Env
  outer:List Env
  stack:List Env
  ex:List Addr
  fn:Str->Bool
  calm:Bool
  pn:List (Addr×Obj)
  xe:Value->Shared->Prop
def frs (l:List Env):List Addr:=l.filterMap (·.frame)
abbrev Cx.fs (X:Cx):List Addr:=frs X.outer
def Vis (sc:Scope) (x:Str):Prop:=sc.names.lookup x=some .local\/sc.names.lookup x=some .cell\/sc.names.lookup x=some .free
def Loc (sc:Scope) (x:Str):Prop:=sc.names.lookup x=some .local\/sc.names.lookup x=some .cell
def Look (env:Env) (h:Heap) (m:Str->Option Value) (x:Str) (u:Value):Prop :=
  (env.kindOf x=some .local/\m x=some u)\/((env.kindOf x=some .cell\/env.kindOf x=some .free)/\∃ c,env.cells.lookup x=some c/\h.IsCell c (some u))
structure Cx.Ok (X:Cx):Prop where
  mod:Mod X.K X.mg X.base
  kind:X.env.scope.kind = .function
  glob:X.env.globals=mainGlobals
  blt:X.env.builtins=builtinsNs
  above:X.sa0.heap.objs.size<=X.env.locals
  inj:∀ x y c,X.env.cells.lookup x=some c->X.env.cells.lookup y=some c->x=y
  has:∀ x,(X.env.kindOf x=some .cell\/X.env.kindOf x=some .free)->∃ c,X.env.cells.lookup x=some c
  cab:∀ x c,X.fn x=true->X.env.cells.lookup x=some c->X.sa0.heap.objs.size<=c
  hd:X.calm=true->X.A.handled=none
  frames:X.A.frames=some X.stack
  stk:X.stack=X.outer\/(X.stack=X.env::X.outer/\X.env.frame=some X.env.locals)
  exf:∀ b∈X.ex,b≠X.env.locals/\∀ x c,X.env.cells.lookup x=some c->c≠b
  bs:∀ b o,X.base.get? b=some o->X.sa0.heap.get? b=some o/\X.H0 b=none
  bsz:X.base.objs.size<=X.sa0.heap.objs.size
  noex:∀ b o,X.base.get? b=some o->b∉X.ex
  exfs:∀ b∈X.ex,b∉X.fs
  funs:X.sa0.heap.FunFrames X.base X.outer
  frf:∀ b∈X.fs,X.H0 b=none
structure Inv (X:Cx) (pins:List (Addr×Obj)) (σ:List (Option V)) (H:Hp) (s:Shared):Prop where
  ok:X.Ok
  os:s.os=X.sa0.os
  bare:AllBare s.gens
  base:Un X.fs X.ex X.H0 H X.sa0.heap s.heap
  loc:∃ m,s.heap.Ns X.env.locals m/\∀ (i:Nat) (x:Str) (v:V),X.N[i]?=some x->σ[i]?=some (some v)->Vis X.env.scope x->∃ u,jb v u/\Look X.env s.heap m x u
  cell:∀ x c,X.env.cells.lookup x=some c->∃ v,s.heap.IsCell c v
  free:H X.env.locals=none
  freeC:∀ x c,X.env.cells.lookup x=some c->H c=none
  pin:∀ p∈X.pn++pins,s.heap.get? p.1=some p.2/\H p.1=none/\p.1≠X.env.locals/\p.1∉X.fs/\∀ v,p.2.data≠.cell v
  hok:HOk X.prog X.w H s.heap
  len:σ.length=X.N.length
section
variable {X:Cx}{pins:List (Addr×Obj)}{σ:List (Option V)}{H H':Hp}{s:Shared}{h':Heap}
theorem Cx.Ok.nofr (ok:X.Ok) {b:Addr}{o:Obj}(e:X.base.get? b=some o):b∉X.fs:=fun hb=>by
  have:=(ok.funs.mem hb).1;rw [e] at this;cases this
theorem Inv.bs (I:Inv X pins σ H s):∀ b o,X.base.get? b=some o->s.heap.get? b=some o/\H b=none:=fun b o e =>
  ⟨I.base.keep b o (I.ok.bs b o e).1 (I.ok.bs b o e).2 (I.ok.nofr e) (I.ok.noex b o e),I.base.free b o (I.ok.bs b o e).1 (I.ok.bs b o e).2 (I.ok.noex b o e)⟩
theorem Inv.bk (I:Inv X pins σ H s):∀ b o,X.base.get? b=some o->s.heap.get? b=some o:=fun b o e=>(I.bs b o e).1
theorem Inv.mod (I:Inv X pins σ H s):Mod X.K X.mg X.base:=I.ok.mod
theorem Inv.kIn (I:Inv X pins σ H s):X.K.In s.heap:=I.ok.mod.kin.keeps I.bk
theorem Inv.nolimit (I:Inv X pins σ H s):s.heap.NoLimit:=I.ok.mod.nolimit.keeps I.bk
theorem Inv.lt (I:Inv X pins σ H s):X.env.locals<s.heap.objs.size:=let ⟨_,hn,_⟩:=I.loc;hn.lt
theorem Inv.sz (I:Inv X pins σ H s):X.sa0.heap.objs.size<=s.heap.objs.size:=qq I.ok.above (qP I.lt)
theorem Inv.nofs (I:Inv X pins σ H s) {a:Addr}(h:s.heap.objs.size<=a):a∉X.fs:=fun hb=>by
  obtain ⟨_,o,ho,_⟩:=I.ok.funs.mem hb;exact absurd (qu (qi ho) (qq I.sz h)) (ye _)
theorem Inv.cne (I:Inv X pins σ H s):∀ x c,X.env.cells.lookup x=some c->c≠X.env.locals:=fun x c e z=>by
  obtain ⟨v,o,ho,hd⟩:=I.cell x c e;obtain ⟨m,⟨o',es,ep,ho',hd',_⟩,_⟩:=I.loc;rw [z,ho'] at ho;cases ho;rw [hd'] at hd;cases hd
theorem Inv.funs (I:Inv X pins σ H s):s.heap.FunFrames X.base X.outer:=by
  have all:∀ (l:List Env),(∀ b∈frs l,b∈X.fs)->X.sa0.heap.FunFrames X.base l->s.heap.FunFrames X.base l:=by
    intro l;induction l with
    | nil=>intro _ _;trivial
    | cons env r ih =>
      intro hs hl;obtain ⟨hk,⟨L,o,hf,hn,ho,hd⟩,hr⟩:=hl;have hL:L∈X.fs:=hs L (by unfold frs;rw [List.filterMap_cons,hf];exact qe);obtain ⟨sl,e⟩:=I.base.slot L o ho (I.ok.frf L hL) hL fun z=>I.ok.exfs L z hL;exact ⟨hk,⟨L,_,hf,hn,e,hd⟩,ih (fun b hb=>hs b (by unfold frs;rw [List.filterMap_cons,hf];exact qf _ hb)) hr⟩
  exact all X.outer (fun _ hb=>hb) I.ok.funs
theorem Inv.stack (I:Inv X pins σ H s):s.heap.FunFrames X.base X.stack:=by
  rcases I.ok.stk with e | ⟨e,hf⟩
  . rw [e];exact I.funs
  . rw [e]
    obtain ⟨m,hn,_⟩:=I.loc;refine .cons (by rw [I.ok.kind];decide) hf hn ?_ I.funs;exact Heap.get?_none_of_le (qq I.ok.bsz I.ok.above)
theorem Inv.stkSub (I:Inv X pins σ H s):∀ b∈frs X.stack,b∈X.env.locals::X.fs:=fun b hb=>by
  rcases I.ok.stk with e | ⟨e,hf⟩
  . rw [e] at hb;exact qf _ hb
  . rw [e] at hb
    unfold frs at hb;rw [List.filterMap_cons,hf] at hb;exact hb
theorem Inv.stkFree (I:Inv X pins σ H s):∀ b∈frs X.stack,H b=none:=fun b hb=>by
  rcases List.mem_cons.mp (I.stkSub b hb) with e | hb
  . rw [e];exact I.free
  . obtain ⟨_,o,ho,_⟩:=I.ok.funs.mem hb
    exact I.base.free b o ho (I.ok.frf b hb) fun z=>I.ok.exfs b z hb
theorem Inv.step {g':Array GenState}{t':Nat}{d':Drawn}{ch:List Addr}(I:Inv X pins σ H s)
    (hch:∀ b∈ch,(b∈X.ex\/X.sa0.heap.objs.size<=b)/\b≠X.env.locals/\(∀ x c,X.env.cells.lookup x=some c->c≠b)/\∀ p∈X.pn++pins,p.1≠b)
    (keep:∀ b o,b≠X.env.locals->b∉X.fs->b∉ch->s.heap.get? b=some o->H b=none->h'.get? b=some o)
    (slot:∀ b o,b≠X.env.locals->b∈X.fs->b∉ch->s.heap.get? b=some o->H b=none->∃ sl,h'.get? b=some { o with slots:=sl }) (free:∀ b o,b∉ch->s.heap.get? b=some o->H b=none->H' b=none)
    (there:∀ b o,b∉ch->s.heap.get? b=some o->∃ o',h'.get? b=some o')
    (tups:∀ b xs,H b=some (.tup xs)->H' b=some (.tup xs)) (frzs:∀ b o u,H b=some (.frz o u)->H' b=some (.frz o u)) (tbls:∀ b ps,H b=some (.tbl ps)->∃ more,H' b=some (.tbl (ps++more)))
    (ns:∀ m,s.heap.Ns X.env.locals m->h'.Ns X.env.locals m) (hok:HOk X.prog X.w H' h') (hg:AllBare g') :
    Inv X pins σ H' { s with heap:=h',gens:=g',drawn:=d',toks:=t' }:=by
  have neL:∀ b o,X.sa0.heap.get? b=some o->b≠X.env.locals:=fun b o e=>qg (qu (qi e) I.ok.above);have neC:∀ b o,X.sa0.heap.get? b=some o->b∉X.ex->b∉ch:=fun b o e hx hb=>by
    rcases (hch b hb).1 with z | z
    . exact hx z
    . exact absurd (qu (qi e) z) (ye _)
  have cellK:∀ x c,X.env.cells.lookup x=some c->∀ v,s.heap.IsCell c v->h'.IsCell c v:=fun x c e v ⟨o,ho,hd⟩=>by
    have nch:c∉ch:=fun z=>(hch c z).2.2.1 x c e rfl;by_cases hc:c∈X.fs
    . obtain ⟨sl,q⟩:=slot c o (I.cne x c e) hc nch ho (I.freeC x c e)
      exact ⟨_,q,hd⟩
    . exact ⟨o,keep c o (I.cne x c e) hc nch ho (I.freeC x c e),hd⟩
  refine ⟨I.ok,I.os,hg,⟨fun b o e n hb hx=>?_,fun b o e n hb hx=>?_,fun b o e n hx=>?_,fun b o e hx=>?_,fun b xs e=>tups b xs (I.base.tups b xs e),fun b o xs e=>frzs b o xs (I.base.frzs b o xs e),fun b ps e=>?_⟩,?_,fun x c e=>?_,?_,fun x c e=>?_,fun p hp=>?_,hok,I.len⟩
  . exact keep b o (neL b o e) hb (neC b o e hx) (I.base.keep b o e n hb hx) (I.base.free b o e n hx)
  . obtain ⟨sl,e1⟩:=I.base.slot b o e n hb hx
    obtain ⟨sl',e2⟩:=slot b _ (neL b o e) hb (neC b o e hx) e1 (I.base.free b o e n hx);exact ⟨sl',e2⟩
  . obtain ⟨o',e1⟩:=I.base.there b o e hx
    exact free b o' (neC b o e hx) e1 (I.base.free b o e n hx)
  . obtain ⟨o',e1⟩:=I.base.there b o e hx
    exact there b o' (neC b o e hx) e1
  . obtain ⟨m1,e1⟩:=I.base.tbls b ps e
    obtain ⟨m2,e2⟩:=tbls b _ e1;exact ⟨m1++m2,by rw [e2,Array.append_assoc]⟩
  . obtain ⟨m,hn,hl⟩:=I.loc
    refine ⟨m,ns m hn,fun i x v e1 e2 e3=>?_⟩;obtain ⟨u,r,l⟩:=hl i x v e1 e2 e3;refine ⟨u,r,?_⟩;rcases l with l | ⟨k,c,e,z⟩
    . exact .inl l
    . exact .inr ⟨k,c,e,cellK x c e _ z⟩
  . obtain ⟨v,z⟩:=I.cell x c e
    exact ⟨v,cellK x c e v z⟩
  . obtain ⟨m,⟨o,_,_,ho,_⟩,_⟩:=I.loc
    exact free _ o (fun z=>(hch _ z).2.1 rfl) ho I.free
  . obtain ⟨v,o,ho,hd⟩:=I.cell x c e
    exact free c o (fun z=>(hch c z).2.2.1 x c e rfl) ho (I.freeC x c e)
  . obtain ⟨e,n,ne,nf,d⟩:=I.pin p hp
    have nch:p.1∉ch:=fun z=>(hch p.1 z).2.2.2 p hp rfl;exact ⟨keep p.1 p.2 ne nf nch e n,free p.1 p.2 nch e n,ne,nf,d⟩
theorem Inv.un {t':Nat}(I:Inv X pins σ H s) (u:Un X.fs [] H H' s.heap h') (hok:HOk X.prog X.w H' h'):Inv X pins σ H' { s with heap:=h',toks:=t' }:=by
  obtain ⟨m,⟨o,es,ep,ho,r⟩,_⟩:=id I.loc;obtain ⟨sl,hL⟩:=u.any ho I.free (by simp);exact I.step (g':=s.gens) (d':=s.drawn) (ch:=[]) (fun _ z=>nomatch z) (fun b o _ hb _ e n=>u.keep b o e n hb (by simp)) (fun b o _ hb _ e n=>u.slot b o e n hb (by simp)) (fun b o _ e n=>u.free b o e n (by simp)) (fun b o _ e=>u.there b o e (by simp)) u.tups u.frzs u.tbls (fun m' hm=>by
    obtain ⟨o',es',ep',ho',r'⟩:=hm;rw [ho] at ho';cases ho';exact ⟨_,es',ep',hL,r'⟩) hok I.bare
theorem Inv.call {g':Array GenState}{t':Nat}{d':Drawn}{ch:List Addr}(I:Inv X pins σ H s) (u:Un (frs X.stack) ch H H' s.heap h') (hok:HOk X.prog X.w H' h') (hg:AllBare g')
    (hch:∀ b∈ch,(b∈X.ex\/X.sa0.heap.objs.size<=b)/\b≠X.env.locals/\(∀ x c,X.env.cells.lookup x=some c->c≠b)/\∀ p∈X.pn++pins,p.1≠b) :
    Inv X pins σ H' { s with heap:=h',gens:=g',drawn:=d',toks:=t' }:=by
  obtain ⟨m,⟨o,es,ep,ho,r⟩,_⟩:=id I.loc;obtain ⟨sl,hL⟩:=u.any ho I.free fun z=>(hch _ z).2.1 rfl;exact I.step (ch:=ch) hch (fun b o hL hb hc e n=>u.keep b o e n (fun z=>(List.mem_cons.mp (I.stkSub b z)).elim hL hb) hc) (fun b o _ _ hc e n=>u.any e n hc) (fun b o hc e n=>u.free b o e n hc) (fun b o hc e=>u.there b o e hc) u.tups u.frzs u.tbls (fun m' hm=>by
    obtain ⟨o',es',ep',ho',r'⟩:=hm;rw [ho] at ho';cases ho';exact ⟨_,es',ep',hL,r'⟩) hok hg
theorem Inv.turned {t':Nat}{it:Addr}(I:Inv X pins σ H s) (k:∀ b o,b≠it->s.heap.get? b=some o->h'.get? b=some o) (hn:H it=none) (hL:it≠X.env.locals)
    (h1:it∈X.ex\/X.sa0.heap.objs.size<=it) (h2:∀ x c,X.env.cells.lookup x=some c->c≠it) (h3:∀ p∈X.pn++pins,p.1≠it):Inv X pins σ H { s with heap:=h',toks:=t' }:=by
  have nit:∀ b u,H b=some u->b≠it:=fun b u e z=>by rw [z,hn] at e;cases e
  refine I.step (g':=s.gens) (d':=s.drawn) (ch:=[it]) (fun b hb=>?_) (fun b o _ _ hc e _=>k b o (fun z=>hc (by simp [z])) e) (fun b o _ _ hc e _=>⟨o.slots,k b o (fun z=>hc (by simp [z])) e⟩) (fun _ _ _ _ n=>n)
    (fun b o hc e=>⟨o,k b o (fun z=>hc (by simp [z])) e⟩) (fun _ _ e=>e) (fun _ _ _ e=>e) (fun b ps e=>⟨#[],by rw [e];simp⟩) (fun m hm=>?_) (fun b u e=>?_) I.bare
  . have e:b=it:=by simpa using hb
    subst e;exact ⟨h1,hL,h2,h3⟩
  . obtain ⟨o,es,ep,ho,r⟩:=hm
    exact ⟨o,es,ep,k _ o (Ne.symm hL) ho,r⟩
  . refine (I.hok b u e).stay (fun c v hc q=>k c v ?_ q) (fun _ q=>q) fun _ _ q=>q
    rcases hc with z | z
    . rw [z];exact nit b u e
    . exact nit c _ z
theorem Inv.tok (I:Inv X pins σ H s) (t:Nat):Inv X pins σ H { s with toks:=t }:=I.un (h':=s.heap) (t':=t) Un.refl I.hok
theorem Inv.kept {t':Nat}(I:Inv X pins σ H s) (k:∀ b u,s.heap.get? b=some u->h'.get? b=some u):Inv X pins σ H { s with heap:=h',toks:=t' }:=I.un (Un.kept k) (I.hok.kept k)
theorem Inv.laid {a:Addr}{o:HO}{t':Nat}(I:Inv X pins σ H s) (k:∀ b u,s.heap.get? b=some u->h'.get? b=some u) (hp:s.heap.objs.size<=a) (new:ja X.prog X.w (upd H a o) h' a o) :
    Inv X pins σ (upd H a o) { s with heap:=h',toks:=t' }:=I.un (Un.laid k hp (I.hok.fresh hp)) (I.hok.laid k hp new)
theorem Inv.write {x e:Addr}{o:HO}{t':Nat}(I:Inv X pins σ H s) (mu:Mut (H x)) (he:e=x\/H e=some (.own x)) (k:∀ b u,b≠e->s.heap.get? b=some u->h'.get? b=some u) (heo:∃ u,h'.get? e=some u)
    (new:ja X.prog X.w (upd H x o) h' x o):Inv X pins σ (upd H x o) { s with heap:=h',toks:=t' }:=I.un (Un.write mu he k heo) (I.hok.write mu he k heo new)
theorem Inv.pins_of {pins':List (Addr×Obj)}(I:Inv X pins σ H s) (h:∀ p∈pins',s.heap.get? p.1=some p.2/\H p.1=none/\p.1≠X.env.locals/\p.1∉X.fs/\∀ v,p.2.data≠.cell v):Inv X pins' σ H s :=
  ⟨I.ok,I.os,I.bare,I.base,I.loc,I.cell,I.free,I.freeC,fun p hp=>(List.mem_append.mp hp).elim (fun z=>I.pin p (qr _ z)) (h p),I.hok,I.len⟩
theorem qb1 {N:List Str}(hN:N.Nodup) {i j:Nat}{x:Str}(a:N[i]?=some x) (b:N[j]?=some x):i=j:=by
  obtain ⟨h1,e1⟩:=qk.mp a;obtain ⟨h2,e2⟩:=qk.mp b;exact (List.getElem_inj hN).mp (e1.trans e2.symm)
theorem qdc {M:Model}{A:Around}{E:Value->Shared->Prop}{i:Nat}{x:Str}{v:V}{u:Value}{Q:Unit->Shared->Prop}(I:Inv X pins σ H s) (hN:X.N.Nodup) (hi:X.N[i]?=some x) (hx:Loc X.env.scope x) (r:jb v u)
    (h:∀ s',Inv X pins (σ.set i (some v)) H s'->(∃ a,Heap.SameBut a s.heap s'.heap/\(a=X.env.locals\/X.env.cells.lookup x=some a))->Q () s') (hf:X.fn x=true\/X.env.scope.names.lookup x=some .local:=by first | exact .inl rfl | exact .inr rfl | assumption):wpAny M A (storeName X.env x u) Q E s:=by
  obtain ⟨m,hn,hl⟩:=id I.loc;have hcls:(X.env.scope.kind == .class || (X.env.scope.kind == .module && X.env.locals != X.env.globals))=false:=by rw [I.ok.kind];rfl
  have hiσ:i<σ.length:=by rw [I.len];exact (qk.mp hi).1
  have cne:=I.cne;have tracked:∀ {a:Addr}{h':Heap},(∃ o,s.heap.get? a=some o/\H a=none)->Heap.SameBut a s.heap h'->HOk X.prog X.w H h':=fun {a h'} ha hs b ob e=>by
    obtain ⟨_,_,hfree⟩:=ha;refine (I.hok b ob e).stay (fun c w' hc q=>(hs.2 c ?_).trans q) (fun _ q=>q) fun _ _ q=>q;rintro rfl;rcases hc with rfl | hc
    . rw [hfree] at e;cases e
    . rw [hfree] at hc;cases hc
  rcases hx with hk | hk
  . refine wpAny_storeName_local hk hn (fun h' hn' hs=>?_) hcls
    obtain ⟨oL,_,_,hoL,_⟩:=id hn;refine h _ ⟨I.ok,I.os,I.bare,⟨fun b o e n hb hx=>?_,fun b o e n hb hx=>?_,I.base.free,fun b o e hx=>?_,I.base.tups,I.base.frzs,I.base.tbls⟩,⟨_,hn',fun j y v' e1 e2 e3=>?_⟩,fun y c e=>?_,I.free,I.freeC,fun p hp=>?_,tracked ⟨oL,hoL,I.free⟩ hs,by simpa using I.len⟩ ⟨_,hs,.inl rfl⟩
    . exact (hs.2 b (qg (qu (qi e) I.ok.above))).trans (I.base.keep b o e n hb hx)
    . obtain ⟨sl,e1⟩:=I.base.slot b o e n hb hx
      exact ⟨sl,(hs.2 b (qg (qu (qi e) I.ok.above))).trans e1⟩
    . obtain ⟨o',e1⟩:=I.base.there b o e hx
      exact ⟨o',(hs.2 b (qg (qu (qi e) I.ok.above))).trans e1⟩
    . by_cases hj:j=i
      . subst hj
        rw [hi] at e1;cases e1;rw [List.getElem?_set_self hiσ] at e2;cases e2
        exact ⟨u,r,.inl ⟨hk,by simp⟩⟩
      . rw [yX (Ne.symm hj)] at e2
        obtain ⟨u',r',q⟩:=hl j y v' e1 e2 e3;refine ⟨u',r',?_⟩;rcases q with ⟨k,e⟩ | ⟨k,c,e,z⟩
        . refine .inl ⟨k,?_⟩
          have:y≠x:=fun e=>hj (qb1 hN e1 (e ▸ hi));simp [this,e]
        . exact .inr ⟨k,c,e,z.sameBut hs (cne y c e)⟩
    . obtain ⟨w',z⟩:=I.cell y c e
      exact ⟨w',z.sameBut hs (cne y c e)⟩
    . obtain ⟨e,n,ne,nf,d⟩:=I.pin p hp
      exact ⟨(hs.2 p.1 ne).trans e,n,ne,nf,d⟩
  . have hfn:X.fn x=true:=by
      rcases hf with z | z
      . exact z
      . rw [z] at hk;cases hk
    obtain ⟨c,hc⟩:=I.ok.has x (.inl hk);obtain ⟨w',z⟩:=I.cell x c hc;refine wpAny_storeName_cell I.ok.kind hk hc z (fun h' hc' hs=>?_);obtain ⟨oc,hoc,hocd⟩:=id z;refine h { s with heap:=h' } ⟨I.ok,I.os,I.bare,⟨fun b o e n hb hx=>?_,fun b o e n hb hx=>?_,I.base.free,fun b o e hx=>?_,I.base.tups,I.base.frzs,I.base.tbls⟩,⟨m,hn.sameBut hs (Ne.symm (cne x c hc)),fun j y v' e1 e2 e3=>?_⟩,fun y c' e=>?_,I.free,I.freeC,fun p hp=>?_,tracked ⟨oc,hoc,I.freeC x c hc⟩ hs,by simpa using I.len⟩ ⟨c,hs,.inr hc⟩
    . exact (hs.2 b (qg (qu (qi e) (I.ok.cab x c hfn hc)))).trans (I.base.keep b o e n hb hx)
    . obtain ⟨sl,e1⟩:=I.base.slot b o e n hb hx
      exact ⟨sl,(hs.2 b (qg (qu (qi e) (I.ok.cab x c hfn hc)))).trans e1⟩
    . obtain ⟨o',e1⟩:=I.base.there b o e hx
      exact ⟨o',(hs.2 b (qg (qu (qi e) (I.ok.cab x c hfn hc)))).trans e1⟩
    . by_cases hj:j=i
      . subst hj
        rw [hi] at e1;cases e1;rw [List.getElem?_set_self hiσ] at e2;cases e2
        exact ⟨u,r,.inr ⟨.inl hk,c,hc,hc'⟩⟩
      . rw [yX (Ne.symm hj)] at e2
        obtain ⟨u',r',q⟩:=hl j y v' e1 e2 e3;refine ⟨u',r',?_⟩;rcases q with q | ⟨k,c',e,z'⟩
        . exact .inl q
        . refine .inr ⟨k,c',e,z'.sameBut hs ?_⟩
          rintro rfl;exact hj (qb1 hN e1 (I.ok.inj _ _ _ e hc ▸ hi))
    . by_cases hcc:c'=c
      . subst hcc;exact ⟨_,hc'⟩
      . obtain ⟨w2,z2⟩:=I.cell y c' e
        exact ⟨w2,z2.sameBut hs hcc⟩
    . obtain ⟨e,n,ne,nf,d⟩:=I.pin p hp
      refine ⟨(hs.2 p.1 ?_).trans e,n,ne,nf,d⟩;intro q;rw [q,hoc] at e;have q':oc=p.2:=Option.some.inj e;exact d w' (by rw [<- q'];exact hocd)
theorem Yj {M:Model}{A:Around}{E:Value->Shared->Prop}{i:Nat}{x:Str}{v:V}{u:Value}{Q:Unit->Shared->Prop}(I:Inv X pins σ H s) (hN:X.N.Nodup) (hi:X.N[i]?=some x) (hx:Loc X.env.scope x) (r:jb v u)
    (h:∀ s',Inv X pins (σ.set i (some v)) H s'->Q () s') (hf:X.fn x=true\/X.env.scope.names.lookup x=some .local:=by first | exact .inl rfl | exact .inr rfl | assumption):wpAny M A (storeName X.env x u) Q E s :=
  qdc I hN hi hx r (fun s' I' _=>h s' I') hf
theorem Inv.call' {s':Shared}{ch:List Addr}(I:Inv X pins σ H s) (ho:s'.os=s.os) (u:Un (frs X.stack) ch H H' s.heap s'.heap) (hok:HOk X.prog X.w H' s'.heap) (hg:AllBare s'.gens)
    (hch:∀ b∈ch,(b∈X.ex\/X.sa0.heap.objs.size<=b)/\b≠X.env.locals/\(∀ x c,X.env.cells.lookup x=some c->c≠b)/\∀ p∈X.pn++pins,p.1≠b):Inv X pins σ H' s':=by
  obtain ⟨h',g',d',t',o'⟩:=s';have e:o'=s.os:=ho;subst e;exact I.call (g':=g') (t':=t') (d':=d') u hok hg hch
end
abbrev XK:=Value->Option Addr->Hp->Prop
abbrev St:=List (Option V)
abbrev VK:=V->Hp->Prop
abbrev TE:=St->Hp->VK->Prop
abbrev TT:=St->Hp->(Bool->Hp->Prop)->Prop
abbrev TA:=St->Hp->(List V->Hp->Prop)->Prop
structure Ends where
  nx:St->Hp->Prop
  rt:VK
  bk:St->Hp->Prop:=fun _ _=>False
  ct:St->Hp->Prop:=fun _ _=>False
abbrev TS:=Ends->St->Hp->Prop
def EP (X:Cx) (pins:List (Addr×Obj)) (σ:St) (Q:VK) (u:Value) (s':Shared):Prop:=∃ v H',Inv X pins σ H' s'/\jb v u/\Q v H'
def TP (X:Cx) (pins:List (Addr×Obj)) (σ:St) (Q:Bool->Hp->Prop) (b:Bool) (s':Shared):Prop:=∃ H',Inv X pins σ H' s'/\Q b H'
def AP (X:Cx) (pins:List (Addr×Obj)) (σ:St) (Q:List V->Hp->Prop) (us:List Value) (s':Shared):Prop:=∃ vs H',Inv X pins σ H' s'/\yy vs us/\Q vs H'
def SP (X:Cx) (pins:List (Addr×Obj)) (D:Ends) (f:Flow) (s':Shared):Prop :=
  match f with
  | .next=>∃ σ' H',Inv X pins σ' H' s'/\D.nx σ' H'
  | .brk=>∃ σ' H',Inv X pins σ' H' s'/\D.bk σ' H'
  | .cont=>∃ σ' H',Inv X pins σ' H' s'/\D.ct σ' H'
  | .ret u=>∃ v σ' H',Inv X pins σ' H' s'/\jb v u/\D.rt v H'
def PE (X:Cx) (e:Expr) (t:TE):Prop :=
  ∀ (pins:List (Addr×Obj)) (s:Shared) (σ:St) (H:Hp) (Q:VK),Inv X pins σ H s->t σ H Q->wpAny (model X.prog X.w) X.A (eval e X.env) (EP X pins σ Q) X.xe s
def PT (X:Cx) (e:Expr) (t:TT):Prop :=
  ∀ (pins:List (Addr×Obj)) (s:Shared) (σ:St) (H:Hp) (Q:Bool->Hp->Prop),Inv X pins σ H s->t σ H Q->wpAny (model X.prog X.w) X.A (isTrue e X.env (eval e X.env)) (TP X pins σ Q) X.xe s
def PW (X:Cx) (e:Expr) (t:TT):Prop :=
  ∀ (whole:Sem Value) (pins:List (Addr×Obj)) (s:Shared) (σ:St) (H:Hp) (Q:Bool->Hp->Prop),Inv X pins σ H s->t σ H Q->wpAny (model X.prog X.w) X.A (isTrue e X.env whole) (TP X pins σ Q) X.xe s
theorem PW.pt {X:Cx}{e:Expr}{t:TT}(h:PW X e t):PT X e t:=h _
def PA (X:Cx) (es:List Expr) (t:TA):Prop :=
  ∀ (pos:Pos) (pins:List (Addr×Obj)) (s:Shared) (σ:St) (H:Hp) (Q:List V->Hp->Prop),Inv X pins σ H s->t σ H Q->wpAny (model X.prog X.w) X.A (spliced (backTo pos (starEach es X.env))) (AP X pins σ Q) X.xe s
def PS (X:Cx) (st:Stmt) (t:TS):Prop :=
  ∀ (pins:List (Addr×Obj)) (s:Shared) (σ:St) (H:Hp) (D:Ends),Inv X pins σ H s->t D σ H->wpAny (model X.prog X.w) X.A (exec st X.env) (SP X pins D) X.xe s
def PSs (X:Cx) (st:List Stmt) (t:TS):Prop :=
  ∀ (pins:List (Addr×Obj)) (s:Shared) (σ:St) (H:Hp) (D:Ends),Inv X pins σ H s->t D σ H->wpAny (model X.prog X.w) X.A (execs st X.env) (SP X pins D) X.xe s
theorem thn {Z:Type}{t:Sem Z}{Q Q':Z->Shared->Prop}{M:Model}{A:Around}{E:Value->Shared->Prop}{s:Shared}(h:wpAny M A t Q E s) (hQ:∀ a s,Q a s->Q' a s):wpAny M A t Q' E s:=qp h hQ fun _ _ x=>x
section
variable {X:Cx}
def tVar (i:Nat):TE:=fun σ H Q=>∃ v,σ[i]?=some (some v)/\Q v H
def tC (v:V):TE:=fun _ H Q=>Q v H
theorem qgS {i:Nat}{x:Str}{pos:Pos}(hN:X.N[i]?=some x) (hv:Vis X.env.scope x) (hd:(x == ("__debug__" : Str))=false:=by decide) (hcd:(x == ("__classdict__" : Str))=false:=by decide):PE X (.Name x pos) (tVar i):=by
  intro pins s σ H Q I h;obtain ⟨v,e,h⟩:=h;obtain ⟨m,hn,hl⟩:=I.loc;obtain ⟨u,r,l⟩:=hl i x v hN e hv;have fin:EP X pins σ Q u s:=⟨v,H,I,r,h⟩;rcases l with ⟨hk,hm⟩ | ⟨hk,c,hc,hcell⟩
  . exact wpAny_Name (wpAny_loadName_local I.ok.kind hk hn hm fin) hd
  . rcases hk with hk | hk
    . exact wpAny_Name (wpAny_loadName_cell I.ok.kind hk hc hcell fin) hd
    . exact wpAny_Name (wpAny_loadName_free I.ok.kind hk hc hcell fin hcd) hd
theorem jz {i j pos}:PE X (.Constant (.int i) j pos) (tC (.int i)):=fun _ _ _ H _ I h=>wpAny_Constant_int ⟨.int i,H,I.tok _,⟨_,rfl⟩,h⟩
theorem pe_bl {b j pos}:PE X (.Constant (.bool b) j pos) (tC (.bl b)):=fun _ _ _ H _ I h=>Constant_bool ⟨.bl b,H,I,rfl,h⟩
def Gl (X:Cx) (x:Str):Prop:=X.env.kindOf x=some .globalImplicit
theorem qiE {E:Value->Shared->Prop}{pins:List (Addr×Obj)}{s:Shared}{σ:St}{H:Hp}{x:Str}{u:Value}{pos:Pos}{Q:Value->Shared->Prop}(I:Inv X pins σ H s) (hg:Gl X x) (hm:X.mg x=some u) (h:Q u s)
    (hd:(x == ("__debug__" : Str))=false:=by decide):wpAny (model X.prog X.w) X.A (eval (.Name x pos) X.env) Q E s :=
  Calls.Name_function_global I.ok.kind hg (Calls.loadGlobal_global (by rw [I.ok.glob];exact I.mod.glob.keeps I.bk) hm h) hd
theorem JE {E:Value->Shared->Prop}{pins:List (Addr×Obj)}{s:Shared}{σ:St}{H:Hp}{x:Str}{u:Value}{pos:Pos}{Q:Value->Shared->Prop}(I:Inv X pins σ H s) (hg:Gl X x) (hm:X.mg x=none) (hv:bootBuiltins x=some u) (h:Q u s)
    (hn:x ≠ "__name__" := by decide) (hd:(x == ("__debug__" : Str))=false:=by decide):wpAny (model X.prog X.w) X.A (eval (.Name x pos) X.env) Q E s:=by
  obtain ⟨mb,h1,h2⟩:=I.mod.blt;exact Calls.Name_function_global I.ok.kind hg (Calls.loadGlobal_builtin (by rw [I.ok.glob];exact I.mod.glob.keeps I.bk) hm (by rw [I.ok.blt];exact h1.keeps I.bk) ((h2 x hn).trans hv) h) hd
theorem qik {x:Str}{v:V}{u:Value}{pos:Pos}(hg:Gl X x) (hm:X.mg x=none) (hv:bootBuiltins x=some u) (r:jb v u) (hn:x ≠ "__name__" := by decide) (hd:(x == ("__debug__" : Str))=false:=by decide):PE X (.Name x pos) (tC v) :=
  fun _ _ _ H _ I h=>JE I hg hm hv ⟨v,H,I,r,h⟩ hn hd
variable {a b:Expr}{ta tb:TE}{pos:Pos}
def tB (t:TE):TT:=fun σ H Q=>t σ H fun x H1=>∃ c,x = .bl c/\Q c H1
theorem qkf {e:Expr}{t:TE}(h:PE X e t) (he:∀ whole,isTrue e X.env whole=(do let v <- whole;standAt e.pos;holding [v] (truthy v)):=by intro _;rfl):PT X e (tB t):=by
  intro pins s σ H Q I hw;refine isTrue_plain (thn (h pins s σ H _ I hw) fun v s1 ⟨x,H1,I1,r1,q1⟩=>?_) (he _);obtain ⟨d,rfl,q⟩:=q1;cases r1
  exact wpAny_truthy_bool ⟨H1,I1,q⟩
variable {tA tB':TT}{rest:List Expr}
def tAnd (t u:TT):TT:=fun σ H Q=>t σ H fun c H1=>if c=true then u σ H1 Q else Q false H1
def tOr (t u:TT):TT:=fun σ H Q=>t σ H fun c H1=>if c=true then Q true H1 else u σ H1 Q
def tNot (t:TT):TT:=fun σ H Q=>t σ H fun c H1=>Q (!c) H1
theorem qh5 (ha:PT X a tA):PW X (.BoolOp .And [a] pos) tA:=by
  intro wh pins s σ H Q I h;refine isTrue_and (thn (ha pins s σ H Q I h) fun c s1 e=>?_);cases c with
  | true=>exact isTrue_and_nil e
  | false=>exact e
theorem qkc (ha:PT X a tA):PW X (.BoolOp .Or [a] pos) tA:=by
  intro wh pins s σ H Q I h;refine isTrue_or (thn (ha pins s σ H Q I h) fun c s1 e=>?_);cases c with
  | false=>exact isTrue_or_nil e
  | true=>exact e
theorem qkd (ha:PT X a tA) (hb:PW X (.BoolOp .And (b::rest) pos) tB'):PW X (.BoolOp .And (a::b::rest) pos) (tAnd tA tB'):=by
  intro wh pins s σ H Q I h;refine isTrue_and (thn (ha pins s σ H _ I h) fun c s1 ⟨H1,I1,q1⟩=>?_);cases c with
  | true=>exact hb wh pins s1 σ H1 Q I1 q1
  | false=>exact ⟨H1,I1,q1⟩
theorem pw_or (ha:PT X a tA) (hb:PW X (.BoolOp .Or (b::rest) pos) tB'):PW X (.BoolOp .Or (a::b::rest) pos) (tOr tA tB'):=by
  intro wh pins s σ H Q I h;refine isTrue_or (thn (ha pins s σ H _ I h) fun c s1 ⟨H1,I1,q1⟩=>?_);cases c with
  | true=>exact ⟨H1,I1,q1⟩
  | false=>exact hb wh pins s1 σ H1 Q I1 q1
theorem qkg (ha:PT X a tA):PT X (.UnaryOp .Not a pos) (tNot tA):=by
  intro pins s σ H Q I h;exact isTrue_not (ha pins s σ H (fun c H1=>Q (!c) H1) I h)
def tAndV (ta tb:TE):TE:=fun σ H Q=>ta σ H fun x H1=>∃ c,x = .bl c/\if c=true then tb σ H1 Q else Q (.bl false) H1
theorem qkq {op} {t:TE}(h:PE X a t):PE X (.BoolOp op [a] pos) t:=fun pins s σ H Q I hw=>BoolOp_one (h pins s σ H Q I hw)
theorem qkr (ha:PE X a ta) (hb:PE X (.BoolOp .And (b::rest) pos) tb):PE X (.BoolOp .And (a::b::rest) pos) (tAndV ta tb):=by
  intro pins s σ H Q I h;refine BoolOp_and (thn (ha pins s σ H _ I h) fun v s1 ⟨x,H1,I1,r1,q1⟩=>?_);obtain ⟨c,rfl,q1⟩:=q1;cases r1
  refine wpAny_truthy_bool ?_;cases c with
  | true=>exact hb pins s1 σ H1 Q I1 q1
  | false=>exact ⟨.bl false,H1,I1,rfl,q1⟩
end
def SqL (K:W.Frag) (H:Hp) (a:Addr) (xs:List V):Prop :=
  Rd H a (.lst xs) ∨
    ∃ (o:Obj) (its:Array Value) (n:Nat),K.lookup a=some o/\o.cls = .type "list" /\ o.dict=none/\o.data = .seq its n/\its.size<=sizeLine/\yy xs its.toList
def SqT (K:W.Frag) (H:Hp) (a:Addr) (xs:List V):Prop :=
  Rd H a (.tup xs) ∨
    ∃ (o:Obj) (its:Array Value) (n:Nat),K.lookup a=some o/\o.cls = .type "tuple" /\ o.data = .seq its n/\its.size<=sizeLine/\yy xs its.toList
def absV:Value->Option V
  | .none=>some .non
  | .bool b=>some (.bl b)
  | .int i _=>some (.int i)
  | .str x _=>some (.str x)
  | .bytes b _=>some (.byt b)
  | .float b _=>some (.flt b)
  | .ref a=>some (.ref a)
  | .type n=>some (.ty n)
  | _=>none
theorem jb.abs {x:V}{u:Value}(r:jb x u):absV u=some x:=by
  cases x with
  | non=>cases r;rfl
  | bl _=>cases r;rfl
  | int _=>obtain ⟨t,rfl⟩:=r;rfl
  | str _=>obtain ⟨t,rfl⟩:=r;rfl
  | byt _=>obtain ⟨t,rfl⟩:=r;rfl
  | flt _=>obtain ⟨t,rfl⟩:=r;rfl
  | ref _=>cases r;rfl
  | ty _=>cases r;rfl
theorem jb.inj {x y:V}{u:Value}(r:jb x u) (q:jb y u):x=y:=Option.some.inj (r.abs.symm.trans q.abs)
theorem yy.inj:∀ {xs ys:List V}{us:List Value},yy xs us->yy ys us->xs=ys
  | _,_,_,.nil,.nil=>rfl
  | _,_,_,.cons r t,.cons r' t'=>by rw [r.inj r',yy.inj t t']
section
variable {X:Cx}{pins:List (Addr×Obj)}{σ:St}{H:Hp}{s:Shared}{a:Addr}{xs ys:List V}
theorem SqL.of {K:W.Frag}(h:H a=some (.lst xs)):SqL K H a xs:=.inl (.inl h)
theorem SqT.of {K:W.Frag}(h:H a=some (.tup xs)):SqT K H a xs:=.inl (.inl h)
theorem Inv.list (I:Inv X pins σ H s) (h:SqL X.K H a xs):∃ its:List Value,yy xs its/\PlainL s.heap a its.toArray/\xs.length<=sizeLine:=by
  rcases h with h | ⟨o,its,n,hk,hc,hd,hs,hz,r⟩
  . obtain ⟨z,its,n,r,e⟩:=h.ok I.hok
    exact ⟨its,r,⟨_,n,e,rfl,rfl,rfl⟩,z⟩
  . refine ⟨its.toList,r,⟨o,n,I.kIn a o hk,hc,hd,by simpa using hs⟩,?_⟩
    have e:=r.length;simp only [Array.length_toList] at e;omega
theorem Inv.tuple (I:Inv X pins σ H s) (h:SqT X.K H a xs):∃ its:List Value,yy xs its/\IsTup s.heap a its.toArray/\xs.length<=sizeLine:=by
  rcases h with h | ⟨o,its,n,hk,hc,hs,hz,r⟩
  . obtain ⟨z,its,r,p⟩:=h.ok I.hok
    exact ⟨its,r,p,z⟩
  . refine ⟨its.toList,r,⟨o,I.kIn a o hk,hc,n,by simpa using hs⟩,?_⟩
    have e:=r.length;simp only [Array.length_toList] at e;omega
theorem Inv.list_inj (I:Inv X pins σ H s) (h:SqL X.K H a xs) (h':SqL X.K H a ys):xs=ys:=by
  obtain ⟨its,r,⟨o,n,e,_,_,d⟩,_⟩:=I.list h;obtain ⟨its',r',⟨o',n',e',_,_,d'⟩,_⟩:=I.list h';rw [e] at e';cases e';rw [d] at d';injection d' with d1 _
  have:its=its':=by simpa using congrArg Array.toList d1
  subst this;exact r.inj r'
end
abbrev Cx.wish (X:Cx) (E:Value->Shared->Prop):Cx:={ X with xe:=E }
abbrev Cx.nox (X:Cx):Cx:=X.wish fun _ _=>False
theorem Cx.Ok.wish {X:Cx}(ok:X.Ok) (E:Value->Shared->Prop):(X.wish E).Ok :=
  ⟨ok.mod,ok.kind,ok.glob,ok.blt,ok.above,ok.inj,ok.has,ok.cab,ok.hd,ok.frames,ok.stk,ok.exf,ok.bs,ok.bsz,ok.noex,ok.exfs,ok.funs,ok.frf⟩
theorem Cx.Ok.unwish {X:Cx}{E:Value->Shared->Prop}(ok:(X.wish E).Ok):X.Ok :=
  ⟨ok.mod,ok.kind,ok.glob,ok.blt,ok.above,ok.inj,ok.has,ok.cab,ok.hd,ok.frames,ok.stk,ok.exf,ok.bs,ok.bsz,ok.noex,ok.exfs,ok.funs,ok.frf⟩
section
variable {X:Cx}{pins:List (Addr×Obj)}{σ:St}{H:Hp}{s:Shared}{E:Value->Shared->Prop}
theorem Inv.wish (I:Inv X pins σ H s) (E:Value->Shared->Prop):Inv (X.wish E) pins σ H s:=⟨I.ok.wish E,I.os,I.bare,I.base,I.loc,I.cell,I.free,I.freeC,I.pin,I.hok,I.len⟩
theorem Inv.unwish (I:Inv (X.wish E) pins σ H s):Inv X pins σ H s:=⟨I.ok.unwish,I.os,I.bare,I.base,I.loc,I.cell,I.free,I.freeC,I.pin,I.hok,I.len⟩
theorem SP.unwish {D:Ends}{f:Flow}{s':Shared}(h:SP (X.wish E) pins D f s'):SP X pins D f s':=by
  cases f with
  | next=>obtain ⟨σ',H',I,q⟩:=h;exact ⟨σ',H',I.unwish,q⟩
  | brk=>obtain ⟨σ',H',I,q⟩:=h;exact ⟨σ',H',I.unwish,q⟩
  | cont=>obtain ⟨σ',H',I,q⟩:=h;exact ⟨σ',H',I.unwish,q⟩
  | ret u=>obtain ⟨v,σ',H',I,r,q⟩:=h;exact ⟨v,σ',H',I.unwish,r,q⟩
theorem PSs.nox {st:List Stmt}{t:TS}(h:PSs X.nox st t):PSs X st t:=fun pins s σ H D I hw =>
  qp (h pins s σ H D (I.wish _) hw) (fun _ _ q=>q.unwish) fun _ _ z=>False.elim z
end
section
variable {X:Cx}{st:Stmt}{rest:List Stmt}{t u:TS}{e:Expr}{te:TE}{pos:Pos}
def tNext:TS:=fun D σ H=>D.nx σ H
def tSeq (t u:TS):TS:=fun D σ H=>t { D with nx:=u D } σ H
theorem qdL:PSs X [] tNext:=fun _ _ σ H _ I h=>wpAny_execs_nil ⟨σ,H,I,h⟩
theorem Yk (h1:PS X st t) (h2:PSs X rest u):PSs X (st::rest) (tSeq t u):=by
  intro pins s σ H D I h;refine wpAny_execs_cons (thn (h1 pins s σ H { D with nx:=u D } I h) fun f s1 q=>?_);cases f with
  | next =>
    obtain ⟨σ',H',I',q⟩:=q;exact h2 pins s1 σ' H' D I' q
  | ret v=>exact q
  | brk=>exact q
  | cont=>exact q
theorem qbf (h1:PS X st t):PSs X [st] t:=by
  intro pins s σ H D I h;refine wpAny_execs_cons (thn (h1 pins s σ H D I h) fun f s1 q=>?_);cases f with
  | next=>exact wpAny_execs_nil q
  | ret v=>exact q
  | brk=>exact q
  | cont=>exact q
theorem Inv.quiet {pins:List (Addr×Obj)}{σ:St}{H:Hp}{s:Shared}(I:Inv X pins σ H s):interactive X.env=false:=by simp [interactive,I.ok.kind]
def tDrop (te:TE):TS:=fun D σ H=>te σ H fun _ H1=>D.nx σ H1
theorem qh7 (he:PE X e te) (hs:swapsWith e none pos.line X.env=pure false:=by rfl):PS X (.Expr e pos) (tDrop te):=by
  intro pins s σ H D I h;exact wpAny_Expr_any (thn (he pins s σ H _ I h) fun v s1 ⟨x,H1,I1,r1,q1⟩=>⟨σ,H1,I1,q1⟩) I.quiet hs
def tRet (te:TE):TS:=fun D σ H=>te σ H D.rt
theorem qbX (he:PE X e te):PS X (.Return (some e) pos) (tRet te):=by
  intro pins s σ H D I h;exact wpAny_Return_some (thn (he pins s σ H _ I h) fun v s1 ⟨x,H1,I1,r1,q1⟩=>⟨x,σ,H1,I1,r1,q1⟩)
def tIfS (c:TT) (t u:TS):TS:=fun D σ H=>c σ H fun b H1=>if b=true then t D σ H1 else u D σ H1
theorem qkj {c:Expr}{a b:List Stmt}{tc:TT}(hc:PT X c tc) (ha:PSs X a t) (hb:PSs X b u):PS X (.If c a b pos) (tIfS tc t u):=by
  intro pins s σ H D I h;refine wpAny_If (thn (hc pins s σ H _ I h) fun d s1 ⟨H1,I1,q1⟩=>?_);cases d with
  | true=>exact ha pins s1 σ H1 D I1 q1
  | false=>exact hb pins s1 σ H1 D I1 q1
def qjG:TS:=fun _ _ _=>False
theorem qfH:PS X st qjG:=fun _ _ _ _ _ _ h=>h.elim
end
abbrev TG:=V->St->Hp->(St->Hp->Prop)->Prop
abbrev TGs:=List V->St->Hp->(St->Hp->Prop)->Prop
def PG (X:Cx) (target:Expr) (t:TG):Prop :=
  ∀ (pins:List (Addr×Obj)) (s:Shared) (σ:St) (H:Hp) (v:V) (u:Value) (Q:St->Hp->Prop),Inv X pins σ H s->jb v u->t v σ H Q →
    wpAny (model X.prog X.w) X.A (assign target X.env u) (fun _ s'=>∃ σ' H',Inv X pins σ' H' s'/\Q σ' H') X.xe s
def PGs (X:Cx) (ts:List Expr) (t:TGs):Prop :=
  ∀ (pins:List (Addr×Obj)) (s:Shared) (σ:St) (H:Hp) (vs:List V) (us:List Value) (Q:St->Hp->Prop),Inv X pins σ H s->yy vs us->t vs σ H Q →
    wpAny (model X.prog X.w) X.A (assignInOrder ((assignEach ts X.env).map (·.2)) us) (fun _ s'=>∃ σ' H',Inv X pins σ' H' s'/\Q σ' H') X.xe s
abbrev qlH:=V->V->V->Hp->(Hp->Prop)->Prop
def PSet (X:Cx) (t:qlH):Prop :=
  ∀ (pins:List (Addr×Obj)) (s:Shared) (σ:St) (H:Hp) (o i v:V) (ov iv u:Value) (Q:Hp->Prop),Inv X pins σ H s->jb o ov->jb i iv->jb v u->t o i v H Q →
    wpAny (model X.prog X.w) X.A (setItem ov iv u) (fun _ s'=>∃ H',Inv X pins σ H' s'/\Q H') X.xe s
section
variable {X:Cx}{pos:Pos}
def qkQ (i:Nat):TG:=fun v σ H Q=>Q (σ.set i (some v)) H
theorem qdW {i:Nat}{x:Str}(hN:X.N.Nodup) (hi:X.N[i]?=some x) (hx:Loc X.env.scope x) (hf:X.fn x=true\/X.env.scope.names.lookup x=some .local:=by first | exact .inl rfl | exact .inr rfl | assumption):PG X (.Name x pos) (qkQ i):=by
  intro pins s σ H v u Q I r h;exact wpAny_assign_Name (Yj I hN hi hx r (fun s' I'=>⟨_,H,I',h⟩) hf)
def gNil:TGs:=fun vs σ H Q=>vs=[]/\Q σ H
def gCons (t:TG) (u:TGs):TGs:=fun vs σ H Q=>∃ v r,vs=v::r/\t v σ H fun σ' H'=>u r σ' H' Q
theorem qdU:PGs X [] gNil:=by
  intro pins s σ H vs us Q I r h;obtain ⟨e,h⟩:=h;subst e;cases r
  exact assignInOrder_nil ⟨σ,H,I,h⟩
theorem ZA {e:Expr}{es:List Expr}{t:TG}{u:TGs}(h1:PG X e t) (h2:PGs X es u)
    (hs:(assignEach (e::es) X.env).map (·.2)=assign e X.env::(assignEach es X.env).map (·.2):=by rfl):PGs X (e::es) (gCons t u):=by
  intro pins s σ H vs us Q I r h;obtain ⟨v,vr,e1,h⟩:=h;subst e1;cases r with
  | cons r rr =>
    rw [hs];refine assignInOrder_cons (thn (h1 pins s σ H _ _ _ I r h) fun _ s1 ⟨σ1,H1,I1,q1⟩=>?_);exact h2 pins s1 σ1 H1 _ _ Q I1 rr q1
def gTup (K:W.Frag) (n:Nat) (t:TGs):TG:=fun v σ H Q=>∃ a xs,v = .ref a/\SqT K H a xs/\xs.length=n/\t xs σ H Q
theorem qgR {es:List Expr}{k:Nat}{t:TGs}{n:Nat}(hc:X.calm=true) (h:PGs X es t)
    (hn:(assignEach es X.env).length=n:=by rfl) (hst:(assignEach es X.env).findIdx? (·.1)=none:=by rfl):PG X (.Tuple es k pos) (gTup X.K n t):=by
  intro pins s σ H v u Q I r hw;obtain ⟨a,xs,e1,hq,hl,hw⟩:=hw;subst e1;cases r
  obtain ⟨its,rv,ht,hz⟩:=I.tuple hq;refine assign_Tuple_tuple (I.ok.hd hc) ht (by simp [hn,<- hl,rv.length]) hst fun h' hx=>?_;have I1:Inv X pins σ H { s with heap:=h' }:=I.kept (t':=s.toks) fun b o e=>hx b o (qg (qi e)) e;exact h pins _ σ H xs _ Q I1 (by simpa using rv) hw
def gSub (to ti:TE) (t:qlH):TG:=fun v σ H Q=>to σ H fun o H1=>ti σ H1 fun i H2=>t o i v H2 fun H3=>Q σ H3
theorem qdV {o i:Expr}{to ti:TE}{t:qlH}(ho:PE X o to) (hi:PE X i ti) (hs:PSet X t)
    (ha:∀ v,assign (.Subscript o i pos) X.env v=(do
      let ov <- holding [v] (eval o X.env)
      let iv <- holding [v,ov] (eval i X.env)
      standAt pos
      holding [v,ov,iv] (setItem ov iv v)
      release [v,ov,iv] []):=by intro _;rfl):PG X (.Subscript o i pos) (gSub to ti t):=by
  intro pins s σ H v u Q I r h;rw [ha];refine qa (qH (thn (ho pins s σ H _ I h) fun ov s1 ⟨x,H1,I1,r1,q1⟩=>?_));refine qa (qH (thn (hi pins s1 σ H1 _ I1 q1) fun iv s2 ⟨y,H2,I2,r2,q2⟩=>?_));refine qa (yS (qa (qH (thn (hs pins s2 σ H2 x y v ov iv u _ I2 r1 r2 r q2) fun _ s3 ⟨H3,I3,q3⟩=>?_))));exact wpAny_release ⟨σ,H3,I3,q3⟩
def tAsg (te:TE) (g:TG):TS:=fun D σ H=>te σ H fun x H1=>g x σ H1 D.nx
theorem qdM {tg e:Expr}{te:TE}{g:TG}(he:PE X e te) (hg:PG X tg g) (hs:swapsWithSole [tg] e pos.line X.env=pure false:=by rfl) (hw:swappedStores [tg] e X.env=pure none:=by rfl)
    (h1:(assignEach [tg] X.env).map (·.2)=[assign tg X.env]:=by rfl):PS X (.Assign [tg] e pos) (tAsg te g):=by
  intro pins s σ H D I h;refine wpAny_Assign_stores (thn (he pins s σ H _ I h) fun v s1 ⟨x,H1,I1,r1,q1⟩=>?_) hs hw;rw [h1];exact thn (hg pins s1 σ H1 x v _ I1 r1 q1) fun _ s2 q=>q
theorem qkh {i:Nat}{x:Str}{e:Expr}{te:TE}{pos':Pos}(hN:X.N.Nodup) (hi:X.N[i]?=some x) (hx:Loc X.env.scope x) (he:PE X e te) (hs:swapsWith e (some (.Name x pos')) pos.line X.env=pure false:=by rfl) (hf:X.fn x=true\/X.env.scope.names.lookup x=some .local:=by first | exact .inl rfl | exact .inr rfl | assumption) :
    PS X (.Assign [.Name x pos'] e pos) (tAsg te (qkQ i)):=by
  intro pins s σ H D I h;refine wpAny_Assign_Name (thn (he pins s σ H _ I h) fun v s1 ⟨y,H1,I1,r1,q1⟩=>?_) hs;exact Yj I1 hN hi hx r1 (fun s2 I2=>⟨_,H1,I2,q1⟩) hf
def tPar (i j:Nat) (ta:TA):TS:=fun D σ H=>ta σ H fun vs H1=>∃ v w,vs=[v,w]/\D.nx ((σ.set i (some v)).set j (some w)) H1
theorem qki {i j:Nat}{x y:Str}{a b:Expr}{ta:TA}{px py pt:Pos}{kt k2 pt2} (hc:X.calm=true) (hN:X.N.Nodup) (hi:X.N[i]?=some x) (hj:X.N[j]?=some y) (hij:i≠j)
    (hx:X.env.scope.names.lookup x=some .local) (hy:X.env.scope.names.lookup y=some .local) (ha:PA X [a,b] ta)
    (hw:swappedStores [.Tuple [.Name x px,.Name y py] kt pt] (.Tuple [a,b] k2 pt2) X.env=pure (some [x,y]))
    (hs:swapsWithSole [.Tuple [.Name x px,.Name y py] kt pt] (.Tuple [a,b] k2 pt2) pos.line X.env=pure false:=by rfl) :
    PS X (.Assign [.Tuple [.Name x px,.Name y py] kt pt] (.Tuple [a,b] k2 pt2) pos) (tPar i j ta):=by
  intro pins s σ H D I h;rw [exec_Assign_arm];refine qa (yS ?_);rw [hs];refine qa (qc ?_);rw [if_neg (by decide)];refine qa (Tuple_ (thn (ha _ pins s σ H _ I h) fun us s1 ⟨vs,H1,I1,r1,q1⟩=>?_));obtain ⟨v,w,e1,q1⟩:=q1;subst e1;obtain ⟨u1,u2,rfl,rv,rw'⟩:∃ u1 u2,us=[u1,u2]/\jb v u1/\jb w u2:=by
    cases r1 with
    | cons p q =>
      cases q with
      | cons p' q' =>
        cases q'
        exact ⟨_,_,rfl,p,p'⟩
  refine yb ?_ (by show 2<=sizeLine;decide);have I2:Inv X pins σ H1 { s1 with heap:=s1.heap.push { cls:=.type "tuple",data:=.seq [u1,u2].toArray } }:=I1.kept (t':=s1.toks) fun b o e=>qb _ e;rw [hw];refine qa (qc ?_);show wpAny (model X.prog X.w) X.A (do rule "assign.swapped-stores";let items <- unpackItems (.ref s1.heap.objs.size) 2 none;assignInOrder [fun v=>bindName X.env y v,fun v=>bindName X.env x v] items.reverse;pure Flow.next) _ _ _;refine qa (yV (qa (unpackItems_tuple (items:=#[u1,u2]) (I.ok.hd hc) (IsTup.new s1.heap _) fun h' hx'=>?_)));have I3:=I2.kept (h':=h') (t':=s1.toks) fun b o e=>hx' b o (qg (qi e)) e;show wpAny _ _ (assignInOrder [fun v=>bindName X.env y v,fun v=>bindName X.env x v] [u2,u1] >>= fun _=>pure Flow.next) _ _ _;refine qa (assignInOrder_cons (wpAny_bindName (Yj I3 hN hj (.inl hy) rw' (fun s2 I4=>?_) (.inr hy))));refine assignInOrder_cons (wpAny_bindName (Yj I4 hN hi (.inl hx) rv (fun s3 I5=>assignInOrder_nil (qc ?_)) (.inr hx)));rw [List.set_comm _ _ (Ne.symm hij)] at I5;exact ⟨_,H1,I5,q1⟩
end
section
variable {X:Cx}{pos:Pos}
def qjE (c:TT) (tb:TS):TS:=fun D σ H=>∃ W:Nat->St->Hp->Prop,(∃ m,W m σ H)/\∀ m σ H,W m σ H →
  c σ H fun b H1=>if b=true then ∃ N:St->Hp->Prop,(∀ σ' H',N σ' H'->∃ m',m'<m/\W m' σ' H')/\tb { D with nx:=N,ct:=N,bk:=D.nx } σ H1 else D.nx σ H1
theorem qfG {c:Expr}{body:List Stmt}{tc:TT}{tb:TS}(hp:PassesOwn (model X.prog X.w) X.A X.env X.xe) (hc:PT X c tc) (hb:PSs X body tb):PS X (.While c body [] pos) (qjE tc tb):=by
  intro pins s σ H D I h;obtain ⟨W,⟨m0,w0⟩,turn⟩:=h;refine wpAny_While (codeAny_whileLoop (fun n s'=>∃ σ' H',Inv X pins σ' H' s'/\W n σ' H') ?_ m0 ⟨σ,H,I,w0⟩);rintro n s1 ⟨σ1,H1,I1,w1⟩;refine wpAny_passesOwn hp (thn (hc pins s1 σ1 H1 _ I1 (turn n σ1 H1 w1)) fun b s2 ⟨H2,I2,q2⟩=>?_);cases b with
  | true =>
    obtain ⟨N,hN,q2⟩:=q2;rw [if_pos rfl];refine wpAny_passesOwn hp (thn (hb pins s2 σ1 H2 _ I2 q2) fun f s3 q3=>?_);cases f with
    | next =>
      obtain ⟨σ3,H3,I3,n3⟩:=q3;obtain ⟨m',hm,w3⟩:=hN σ3 H3 n3;exact ⟨m',hm,σ3,H3,I3,w3⟩
    | cont =>
      obtain ⟨σ3,H3,I3,n3⟩:=q3;obtain ⟨m',hm,w3⟩:=hN σ3 H3 n3;exact ⟨m',hm,σ3,H3,I3,w3⟩
    | brk=>exact q3
    | ret v=>exact q3
  | false =>
    rw [if_neg yH];exact wpAny_execs_nil ⟨σ1,H2,I2,q2⟩
end
structure It where
  go:Nat->Hp->Prop
  yld:Nat->Hp->V->Hp->Prop
  stop:Nat->Hp->Prop
def Jl (X:Cx) (pins:List (Addr×Obj)) (H:Hp) (b:Addr):Prop :=
  H b=none/\b≠X.env.locals/\b∉X.fs/\(b∈X.ex\/X.sa0.heap.objs.size<=b)/\(∀ x c,X.env.cells.lookup x=some c->c≠b)/\∀ p∈X.pn++pins,p.1≠b
theorem Inv.fpOk {X:Cx}{pins:List (Addr×Obj)}{σ:St}{H H':Hp}{s:Shared}{b:Addr}(I:Inv X pins σ H s) (hb:s.heap.objs.size<=b) (hn:H' b=none):Jl X pins H' b:=by
  refine ⟨hn,yi (qu I.lt hb),I.nofs hb,.inr (qq I.sz hb),fun x c e z=>?_,fun p hp z=>?_⟩
  . obtain ⟨v,q⟩:=I.cell x c e
    exact absurd (qu q.lt (by rw [z];exact hb)) (ye _)
  . exact absurd (qu (qi (I.pin p hp).1) (by rw [z];exact hb)) (ye _)
structure Turn (P:Program) (w:World) (K:W.Frag) (tg:Expr) (J:It) (fp:List Addr) (it:Addr) (tn:Nat->Heap->Prop):Prop where
  mem:it∈fp
  obj:∀ i h,tn i h->∀ b∈fp,∃ o,h.get? b=some o/\∀ v,o.data≠.cell v
  keep:∀ i h h',tn i h->(∀ b∈fp,∀ o,h.get? b=some o->h'.get? b=some o)->tn i h'
  item:∀ (X:Cx),X.prog=P->X.w=w->X.K=K->X.calm=true->∀ (i:Nat) (pins:List (Addr×Obj)) (s:Shared) (σ:St) (H:Hp) (E:Value->Shared->Prop),Inv X pins σ H s->(∀ b∈fp,Jl X pins H b)->tn i s.heap->J.go i H →
    wpAny (model P w) X.A (pyNext (.ref it)) (fun r s1=>∃ u,r=some u ∧
      wpAny (model P w) X.A (letOwnedTupleGo tg (.ref it) u) (fun _ s2=>∃ x H',Inv X pins σ H' s2/\jb x u/\J.yld i H x H'/\tn (i+1) s2.heap/\∀ b∈fp,H' b=none) E s1) E s
  done:∀ (X:Cx),X.prog=P->X.w=w->X.K=K->X.calm=true->∀ (i:Nat) (pins:List (Addr×Obj)) (s:Shared) (σ:St) (H:Hp) (E:Value->Shared->Prop),Inv X pins σ H s->(∀ b∈fp,Jl X pins H b)->tn i s.heap->J.stop i H →
    wpAny (model P w) X.A (pyNext (.ref it)) (fun r s1=>r=none/\Inv X pins σ H s1) E s
  self:∀ (A:Around) (i:Nat) (s:Shared) (Q:Value->Shared->Prop) (E:Value->Shared->Prop),tn i s.heap->Q (.ref it) s->wpAny (model P w) A (pyIter (.ref it)) Q E s
abbrev TI:=St->Hp->(It->Hp->Prop)->Prop
def PIE (X:Cx) (pins:List (Addr×Obj)) (σ:St) (tg:Expr) (R:It->Hp->Prop) (itv:Value) (s2:Shared):Prop :=
  ∃ (it:Addr) (fp:List Addr) (tn:Nat->Heap->Prop) (J:It) (H':Hp),itv = .ref it/\Inv X pins σ H' s2/\Turn X.prog X.w X.K tg J fp it tn/\tn 0 s2.heap/\(∀ b∈fp,Jl X pins H' b)/\R J H'
def PI (X:Cx) (tg iter:Expr) (wi:TI):Prop :=
  ∀ (pins:List (Addr×Obj)) (s:Shared) (σ:St) (H:Hp) (R:It->Hp->Prop),Inv X pins σ H s->wi σ H R →
    wpAny (model X.prog X.w) X.A (eval iter X.env) (fun v s1=>wpAny (model X.prog X.w) X.A (pyIter v) (PIE X pins σ tg R) X.xe s1) X.xe s
theorem qkP {M:Model}{A:Around}{E:Value->Shared->Prop}{s:Shared}{tg:Expr}{it:Addr}{u:Value}{o:Obj}{n:String}{vs:Array Value}{Q:Unit->Shared->Prop}(ho:s.heap.get? it=some o) (hc:o.cls = .type n) (hd:o.data = .fields vs)
    (hn:["enumerate", "zip", "dict_itemiterator", "dict_reverseitemiterator", "odict_iterator", "itertools.zip_longest", "itertools.pairwise"].contains n=false) (hQ:Q () s):wpAny M A (letOwnedTupleGo tg (.ref it) u) Q E s:=by
  unfold letOwnedTupleGo;cases tg <;> first
    | exact qc hQ
    | (cases u <;> first
        | exact qc hQ
        | (refine qa (wpAny_load ho ?_)
           rw [hc,hd];show wpAny M A (if (["enumerate", "zip", "dict_itemiterator", "dict_reverseitemiterator", "odict_iterator", "itertools.zip_longest", "itertools.pairwise"].contains n && vs[0]? == some (rawInt _))=true then _ else _) Q E s;rw [if_neg (by intro h;rw [hn,Bool.false_and] at h;cases h)];exact qc hQ))
def Itl (K:W.Frag) (a:Addr):It :=
  ⟨fun i H=>∃ xs x,SqL K H a xs/\xs[i]?=some x,fun i H x H'=>H'=H/\∀ xs,SqL K H a xs->xs[i]?=some x,fun i H=>∃ xs,SqL K H a xs/\xs.length<=i⟩
def Itr (lo:Int) (n:Nat):It:=⟨fun i _=>i<n,fun i H x H'=>H'=H/\x = .int (lo+i),fun i _=>n<=i⟩
theorem qc5 {P:Program}{w:World}{K:W.Frag}{tg:Expr}(a it:Addr):Turn P w K tg (Itl K a) [it] it (fun i h=>h.IsListIter it a i) where
  mem:=by simp
  obj:=fun i h st b hb=>by
    have e:b=it:=by simpa using hb
    subst e;obtain ⟨o,e,c,d⟩:=st;exact ⟨o,e,fun v z=>by rw [d] at z;cases z⟩
  keep:=fun i h h' st k=>st.at fun o e=>k it (by simp) o e
  item:=by
    intro X hP hw hK hc i pins s σ H E I hf st hg;subst hP hw hK;obtain ⟨xs,x,hq,hx⟩:=hg;obtain ⟨its,rv,p,hz⟩:=I.list hq;obtain ⟨u,hu,ru⟩:=rv.get hx;obtain ⟨f0,f1,f2,f3,f4,f5⟩:=hf it (by simp);refine wpAny_pyNext_list_item st p.isList (x:=u) (by simpa using hu) fun h' st' sb=>?_;have I1:Inv X pins σ H { s with heap:=h' }:=I.turned (t':=s.toks) (fun b o hb e=>(sb.2 b hb).trans e) f0 f1 f3 f4 f5;obtain ⟨o,e,c,d⟩:=id st';exact ⟨u,rfl,qkP (s:={ s with heap:=h' }) e c d (by decide) ⟨x,H,I1,ru,⟨rfl,fun ys hy=>by rw [I.list_inj hy hq];exact hx⟩,st',fun b hb=>(hf b hb).1⟩⟩
  done:=by
    intro X hP hw hK hc i pins s σ H E I hf st hg;subst hP hw hK;obtain ⟨xs,hq,hx⟩:=hg;obtain ⟨its,rv,p,hz⟩:=I.list hq;obtain ⟨f0,f1,f2,f3,f4,f5⟩:=hf it (by simp);have hl:=rv.length;exact wpAny_pyNext_list_end (I.ok.hd hc) st p.isList (by simp;omega) fun h' eb=>⟨rfl,I.turned (t':=s.toks) (fun b o hb e=>eb b o hb e) f0 f1 f3 f4 f5⟩
  self:=fun _ _ _ _ _ st h=>wpAny_pyIter_listiter st h
theorem qcr {P:Program}{w:World}{K:W.Frag}{tg:Expr}(it:Addr) (lo:Int) (n:Nat):Turn P w K tg (Itr lo n) [it] it (fun i h=>IsRangeIter h it (lo+(i:Nat) * 1) ((n:Int) - (i:Nat)) 1) where
  mem:=by simp
  obj:=fun i h st b hb=>by
    have e:b=it:=by simpa using hb
    subst e;exact ⟨_,st,fun v z=>by
      have z':Data.fields _=Data.cell v:=z;cases z'⟩
  keep:=fun i h h' st k=>k it (by simp) _ st
  item:=by
    intro X hP hw hK hc i pins s σ H E I hf st hg;subst hP hw hK;obtain ⟨f0,f1,f2,f3,f4,f5⟩:=hf it (by simp);have W:=Walks.range (prog:=X.prog) (w:=X.w) (I.ok.hd hc) it lo 1 n;refine W.item i s _ _ hg st fun v h' tk hv st' kk=>?_;obtain ⟨t,rfl⟩:=hv;have I1:Inv X pins σ H { s with heap:=h',toks:=tk }:=I.turned (fun b o hb e=>kk b o (by simpa using hb) e) f0 f1 f3 f4 f5;refine ⟨_,rfl,qkP (s:={ s with heap:=h',toks:=tk }) (n := "range_iterator") st' rfl rfl (by decide) ⟨.int (lo+i),H,I1,⟨t,?_⟩,⟨rfl,rfl⟩,st',fun b hb=>(hf b hb).1⟩⟩;rw [Int.mul_one]
  done:=by
    intro X hP hw hK hc i pins s σ H E I hf st hg;subst hP hw hK;obtain ⟨f0,f1,f2,f3,f4,f5⟩:=hf it (by simp);exact wpAny_pyNext_range_end (I.ok.hd hc) st (by have:n<=i:=hg;omega) fun h' eb=>⟨rfl,I.turned (t':=s.toks) (fun b o hb e=>eb b o hb e) f0 f1 f3 f4 f5⟩
  self:=fun _ _ _ _ _ st h=>wpAny_pyIter_rangeiter st h
section
variable {X:Cx}{tg:Expr}
def iList (K:W.Frag) (tl:TE):TI:=fun σ H R=>tl σ H fun x H1=>∃ a,x = .ref a/\(∃ xs,SqL K H1 a xs)/\R (Itl K a) H1
theorem qdT {l:Expr}{tl:TE}(hl:PE X l tl):PI X tg l (iList X.K tl):=by
  intro pins s σ H R I h;refine thn (hl pins s σ H _ I h) fun v s1 hq9=>?_;obtain ⟨x,H1,I1,r1,q1⟩:=hq9;obtain ⟨a,e,⟨xs,hq⟩,q⟩:=q1;subst e;cases r1
  obtain ⟨its,rv,p,hz⟩:=I1.list hq;refine jv p.isList ?_;refine ⟨s1.heap.objs.size,[s1.heap.objs.size],_,_,H1,rfl,I1.kept (t':=s1.toks) fun b o e=>qb _ e,qc5 a _,⟨_,qj _ rfl,rfl,rfl⟩,fun b hb=>?_,q⟩;have e:b=s1.heap.objs.size:=by simpa using hb
  subst e;exact I1.fpOk (Nat.le_refl _) (I1.hok.fresh (Nat.le_refl _))
theorem qfE {pins:List (Addr×Obj)}{σ:St}{H:Hp}{s:Shared}{R:It->Hp->Prop}{E:Value->Shared->Prop}{lo hi:Int}{t u v:Tok}{tk:Nat}(I:Inv X pins σ H s) (h1:-(2 ^ 62)<=lo) (h2:lo<2 ^ 62) (h3:-(2 ^ 62)<=hi) (h4:hi<2 ^ 62)
    (q:R (Itr lo (hi - lo).toNat) H):wpAny (model X.prog X.w) X.A (pyIter (.ref s.heap.objs.size)) (PIE X pins σ tg R) E { s with heap:=s.heap.push { cls:=.type "range",data:=.fields #[.int lo t,.int hi u,.int 1 v] },toks:=tk }:=by
  refine wpAny_pyIter_range (IsRange.new ..) (small_one h1 h2 h3 h4) ?_;have I1:Inv X pins σ H { s with heap:=s.heap.push { cls:=.type "range",data:=.fields #[.int lo t,.int hi u,.int 1 v] },toks:=tk }:=I.kept fun b o e=>qb _ e;refine ⟨(s.heap.push { cls:=.type "range",data:=.fields #[.int lo t,.int hi u,.int 1 v] }).objs.size,[(s.heap.push { cls:=.type "range",data:=.fields #[.int lo t,.int hi u,.int 1 v] }).objs.size],_,_,H,rfl,
    I1.kept (t':=tk) fun b o e=>qb _ e,qcr _ lo (hi - lo).toNat,?_,fun b hb=>?_,q⟩
  . have e1:lo+((0:Nat):Int) * 1=lo:=by simp
    have e2:(((hi - lo).toNat:Nat):Int) - ((0:Nat):Int)=Builtin.Range.rangeSize lo hi 1:=by rw [rangeSize_one];split <;> omega
    show IsRangeIter _ _ (lo+((0:Nat):Int) * 1) ((((hi - lo).toNat:Nat):Int) - ((0:Nat):Int)) 1;rw [e1,e2];exact qj _ rfl
  . have e:b=(s.heap.push { cls:=.type "range",data:=.fields #[.int lo t,.int hi u,.int 1 v] }).objs.size:=by simpa using hb
    subst e;exact I1.fpOk (Nat.le_refl _) (I1.hok.fresh (Nat.le_refl _))
def iRng1 (ta:TA):TI:=fun σ H R=>ta σ H fun vs H1=>∃ j:Int,vs=[.int j]/\-(2 ^ 62)<=j/\j<2 ^ 62/\R (Itr 0 j.toNat) H1
theorem qdS {a:Expr}{ta:TA}{p pos:Pos}(hg:Gl X "range") (hm:X.mg "range" = none) (ha:PA X [a] ta) (hs:starEach [a] X.env=[(false,eval a X.env)]:=by rfl):PI X tg (.Call (.Name "range" p) [a] [] pos) (iRng1 ta):=by
  intro pins s σ H R I h;refine Call_ (JE I hg hm boot_range (PyProof.Rows.callWith_type1 (thn (ha pos pins s σ H _ I h) fun us s1 ⟨vs,H1,I1,r1,q1⟩=>?_) hs rfl));obtain ⟨j,e,q1,q2,q⟩:=q1;subst e;cases r1 with
  | cons r rr =>
    cases rr
    obtain ⟨t,rfl⟩:=r;exact call_range_1 (qfE I1 (by omega) (by omega) q1 q2 (by simpa using q))
def tFor (wi:TI) (g:TG) (tb:TS):TS:=fun D σ H=>wi σ H fun J H1=>∃ W:Nat->Nat->St->Hp->Prop,(∃ m,W 0 m σ H1)/\∀ i m σ H,W i m σ H →
  (J.stop i H/\D.nx σ H)\/(J.go i H/\∃ N:St->Hp->Prop,(∀ σ' H',N σ' H'->∃ m',m'<m/\W (i+1) m' σ' H')/\∀ x H',J.yld i H x H'->g x σ H' fun σ2 H2=>tb { D with nx:=N,ct:=N,bk:=D.nx } σ2 H2)
def jL (fp:List Addr) (h:Heap):List (Addr×Obj):=fp.filterMap fun b=>(h.get? b).map fun o=>(b,o)
theorem yq {fp:List Addr}{h:Heap}{b:Addr}{o:Obj}(hb:b∈fp) (e:h.get? b=some o):(b,o)∈jL fp h:=List.mem_filterMap.mpr ⟨b,hb,by rw [e];rfl⟩
theorem qan {fp:List Addr}{h:Heap}{p:Addr×Obj}(hp:p∈jL fp h):p.1∈fp/\h.get? p.1=some p.2:=by
  obtain ⟨b,hb,e⟩:=List.mem_filterMap.mp hp;cases q:h.get? b with
  | none=>rw [q] at e;cases e
  | some o =>
    rw [q] at e;have e':(b,o)=p:=Option.some.inj e;subst e';exact ⟨hb,q⟩
theorem Inv.pinned {pins:List (Addr×Obj)}{σ:St}{H:Hp}{s:Shared}{fp:List Addr}(I:Inv X pins σ H s) (hf:∀ b∈fp,Jl X pins H b) (ho:∀ b∈fp,∃ o,s.heap.get? b=some o/\∀ v,o.data≠.cell v):Inv X (pins++jL fp s.heap) σ H s :=
  I.pins_of fun p hp=>(List.mem_append.mp hp).elim (fun z=>I.pin p (qh _ z)) fun z=>by
    obtain ⟨hb,e⟩:=qan z;obtain ⟨f0,f1,f2,_⟩:=hf p.1 hb;obtain ⟨o,e',d⟩:=ho p.1 hb;rw [e] at e';cases e';exact ⟨e,f0,f1,f2,d⟩
theorem Inv.unpinned {pins pl:List (Addr×Obj)}{σ:St}{H:Hp}{s:Shared}(I:Inv X (pins++pl) σ H s):Inv X pins σ H s:=I.pins_of fun p hp=>I.pin p (qh _ (qr _ hp))
theorem qkk {iter:Expr}{body:List Stmt}{wi:TI}{g:TG}{tb:TS}{pos:Pos}(hp:PassesOwn (model X.prog X.w) X.A X.env X.xe) (hc:X.calm=true) (hi:PI X tg iter wi) (hg:PG X tg g) (hb:PSs X body tb)
    (hs:∀ x,foldedSetIterable iter X.env x=pure x:=by intro _;rfl):PS X (.For tg iter body [] pos) (tFor wi g tb):=by
  intro pins s σ H D I h;refine wpAny_For (thn (hi pins s σ H _ I h) fun v s1 h1=>thn h1 fun itv s2 h2=>?_) hs;obtain ⟨it,fp,tn,J,H2,e,I2,T,st2,f2,W,⟨m0,w0⟩,turn⟩:=h2;subst e
  -- what stays true of the iterator's objects through the loop
  have stat:∀ {H':Hp},(∀ b∈fp,H' b=none)->∀ b∈fp,Jl X pins H' b:=fun hn b hb=>⟨hn b hb,(f2 b hb).2⟩;refine codeAny_forLoop_any (fun n s'=>∃ i σ' H',Inv X pins σ' H' s'/\tn i s'.heap/\(∀ b∈fp,H' b=none)/\W i n σ' H') ?_ m0 ⟨0,σ,H2,I2,st2,fun b hb=>(f2 b hb).1,w0⟩;rintro n s3 ⟨i,σ3,H3,I3,st3,fr3,w3⟩;rcases turn i n σ3 H3 w3 with ⟨stop,qn⟩ | ⟨go,N,hN,step⟩
  . refine wpAny_passesOwn hp (thn (T.done X rfl rfl rfl hc i pins s3 σ3 H3 X.xe I3 (stat fr3) st3 stop) fun r s4 ⟨hr,I4⟩=>?_)
    subst hr;exact wpAny_execs_nil ⟨σ3,H3,I4,qn⟩
  . refine wpAny_passesOwn hp (thn (T.item X rfl rfl rfl hc i pins s3 σ3 H3 X.xe I3 (stat fr3) st3 go) fun r s4 ⟨u,hr,h4⟩=>?_)
    subst hr;refine wpAny_passesOwn hp (thn h4 fun _ s5 ⟨x,H5,I5,r5,y5,st5,fr5⟩=>?_);have I5':=I5.pinned (stat fr5) (T.obj _ _ st5);refine wpAny_passesOwn hp (thn (hg _ s5 σ3 H5 x u _ I5' r5 (step x H5 y5)) fun _ s6 ⟨σ6,H6,I6,q6⟩=>?_);refine wpAny_passesOwn hp (thn (hb _ s6 σ6 H6 _ I6 q6) fun f s7 q7=>?_);have again:∀ {σ7:St}{H7:Hp},Inv X (pins++jL fp s5.heap) σ7 H7 s7->N σ7 H7->∃ m,m<n/\∃ i σ' H',Inv X pins σ' H' s7/\tn i s7.heap/\(∀ b∈fp,H' b=none)/\W i m σ' H':=fun {σ7 H7} I7 n7=>by
      obtain ⟨m',hm,w7⟩:=hN σ7 H7 n7;refine ⟨m',hm,i+1,σ7,H7,I7.unpinned,T.keep _ _ _ st5 fun b hb o e=>(I7.pin (b,o) (qh _ (qh _ (yq hb e)))).1,fun b hb=>?_,w7⟩;obtain ⟨o,e,d⟩:=T.obj _ _ st5 b hb;exact (I7.pin (b,o) (qh _ (qh _ (yq hb e)))).2.1
    cases f with
    | next=>obtain ⟨σ7,H7,I7,n7⟩:=q7;exact again I7 n7
    | cont=>obtain ⟨σ7,H7,I7,n7⟩:=q7;exact again I7 n7
    | brk=>obtain ⟨σ7,H7,I7,q7⟩:=q7;exact ⟨σ7,H7,I7.unpinned,q7⟩
    | ret v=>obtain ⟨x7,σ7,H7,I7,r7,q7⟩:=q7;exact ⟨x7,σ7,H7,I7.unpinned,r7,q7⟩
end
abbrev R2:=V->V->Hp->VK->Prop
def OpR (X:Cx) (f:Value->Value->Sem Value) (r:R2):Prop :=
  ∀ (pins:List (Addr×Obj)) (s:Shared) (σ:St) (H:Hp) (x y:V) (v u:Value) (Q:VK),Inv X pins σ H s->jb x v->jb y u->r x y H Q →
    wpAny (model X.prog X.w) X.A (f v u) (EP X pins σ Q) X.xe s
def UnR (X:Cx) (f:Value->Sem Value) (r:V->Hp->VK->Prop):Prop :=
  ∀ (pins:List (Addr×Obj)) (s:Shared) (σ:St) (H:Hp) (x:V) (v:Value) (Q:VK),Inv X pins σ H s->jb x v->r x H Q →
    wpAny (model X.prog X.w) X.A (f v) (EP X pins σ Q) X.xe s
def yG (X:Cx) (f:Value) (r:List V->Hp->VK->Prop):Prop :=
  ∀ (pins:List (Addr×Obj)) (s:Shared) (σ:St) (H:Hp) (xs:List V) (us:List Value) (Q:VK),Inv X pins σ H s->yy xs us->r xs H Q →
    wpAny (model X.prog X.w) X.A (call f us) (EP X pins σ Q) X.xe s
def tOp (r:R2) (ta tb:TE):TE:=fun σ H Q=>ta σ H fun x H1=>tb σ H1 fun y H2=>r x y H2 Q
def tUn (r:V->Hp->VK->Prop) (ta:TE):TE:=fun σ H Q=>ta σ H fun x H1=>r x H1 Q
def rI (C:Int->Int->Prop) (g:Int->Int->V):R2:=fun x y H Q=>∃ i j,x = .int i/\y = .int j/\C i j/\Q (g i j) H
def rI0 (g:Int->Int->V):R2:=fun x y H Q=>∃ i j,x = .int i/\y = .int j/\Q (g i j) H
def rU (g:Int->V):V->Hp->VK->Prop:=fun x H Q=>∃ i,x = .int i/\Q (g i) H
section
variable {X:Cx}{a b c:Expr}{ta tb tc:TE}{pos:Pos}
theorem binT (ha:PE X a ta) (hb:PE X b tb) {pins:List (Addr×Obj)}{s:Shared}{σ:St}{H:Hp}{R:V->V->Hp->Prop}(I:Inv X pins σ H s)
    (h:ta σ H fun x H1=>tb σ H1 fun y H2=>R x y H2) {Q:Value->Shared->Prop}{f:Value->Value->Sem Value}
    (hf:∀ v u s2 x y H2,Inv X pins σ H2 s2->jb x v->jb y u->R x y H2->wpAny (model X.prog X.w) X.A (f v u) Q X.xe s2) :
    wpAny (model X.prog X.w) X.A (eval a X.env) (fun v sa1=>wpAny (model X.prog X.w) X.A (eval b X.env) (fun u sa2=>wpAny (model X.prog X.w) X.A (f v u) Q X.xe sa2) X.xe sa1) X.xe s:=by
  refine thn (ha pins s σ H _ I h) fun v s1 hq9=>?_;obtain ⟨x,H1,I1,r1,q1⟩:=hq9;refine thn (hb pins s1 σ H1 _ I1 q1) fun u s2 hq9=>?_;obtain ⟨y,H2,I2,r2,q2⟩:=hq9;exact hf v u s2 x y H2 I2 r1 r2 q2
theorem qal {op:Operator}{r:R2}(ho:OpR X (binaryOp op) r) (ha:PE X a ta) (hb:PE X b tb):PE X (.BinOp a op b pos) (tOp r ta tb):=by
  intro pins s σ H Q I h;exact wpAny_BinOp (binT ha hb I h fun v u s2 x y H2 I2 rx ry q=>ho pins s2 σ H2 x y v u Q I2 rx ry q)
theorem qkm {op:UnaryOp}{r:V->Hp->VK->Prop}(ho:UnR X (unaryOp op) r) (ha:PE X a ta):PE X (.UnaryOp op a pos) (tUn r ta):=by
  intro pins s σ H Q I h;exact UnaryOp_ (thn (ha pins s σ H _ I h) fun v s1 ⟨x,H1,I1,r1,q1⟩=>ho pins s1 σ H1 x v Q I1 r1 q1)
theorem opI {f:Value->Value->Sem Value}{C:Int->Int->Prop}{g:Int->Int->Int}
    (rule:∀ (i j:Int) (t u:Tok) (s:Shared) (Q:Value->Shared->Prop) (E:Value->Shared->Prop),C i j->Q (.int (g i j) s.toks) { s with toks:=s.toks+1 }->wpAny (model X.prog X.w) X.A (f (.int i t) (.int j u)) Q E s) :
    OpR X f (rI C fun i j=>.int (g i j)):=by
  intro pins s σ H x y v u Q I rx ry h;obtain ⟨i,j,rfl,rfl,hc,q⟩:=h;obtain ⟨t,rfl⟩:=rx;obtain ⟨t',rfl⟩:=ry;exact rule i j t t' s _ _ hc ⟨.int (g i j),H,I.tok _,⟨_,rfl⟩,q⟩
theorem opI0 {f:Value->Value->Sem Value}{g:Int->Int->Int}
    (rule:∀ (i j:Int) (t u:Tok) (s:Shared) (Q:Value->Shared->Prop) (E:Value->Shared->Prop),Q (.int (g i j) s.toks) { s with toks:=s.toks+1 }->wpAny (model X.prog X.w) X.A (f (.int i t) (.int j u)) Q E s) :
    OpR X f (rI0 fun i j=>.int (g i j)):=by
  intro pins s σ H x y v u Q I rx ry h;obtain ⟨i,j,rfl,rfl,q⟩:=h;obtain ⟨t,rfl⟩:=rx;obtain ⟨t',rfl⟩:=ry;exact rule i j t t' s _ _ ⟨.int (g i j),H,I.tok _,⟨_,rfl⟩,q⟩
theorem opB0 {f:Value->Value->Sem Value}{g:Int->Int->Bool}
    (rule:∀ (i j:Int) (t u:Tok) (s:Shared) (Q:Value->Shared->Prop) (E:Value->Shared->Prop),Q (.bool (g i j)) s->wpAny (model X.prog X.w) X.A (f (.int i t) (.int j u)) Q E s) :
    OpR X f (rI0 fun i j=>.bl (g i j)):=by
  intro pins s σ H x y v u Q I rx ry h;obtain ⟨i,j,rfl,rfl,q⟩:=h;obtain ⟨t,rfl⟩:=rx;obtain ⟨t',rfl⟩:=ry;exact rule i j t t' s _ _ ⟨.bl (g i j),H,I,rfl,q⟩
def CDiv (i j:Int):Prop:=0<j/\j<1073741824
def CPow (i j:Int):Prop:=0<=j/\j<=1000000/\i.natAbs<2 ^ 64
theorem qd0:OpR X (binaryOp .Add) (rI0 fun i j=>.int (i+j)):=opI0 fun _ _ _ _ _ _ _ q=>add_int q
theorem qks:OpR X (binaryOp .Sub) (rI0 fun i j=>.int (i - j)):=opI0 fun _ _ _ _ _ _ _ q=>sub_int q
theorem qdZ:OpR X (binaryOp .FloorDiv) (rI CDiv fun i j=>.int (i / j)):=opI fun i j _ _ _ _ _ hc q=>by
  have h1:(0:Int)<j:=hc.1;have h2:j<1073741824:=hc.2;exact floordiv_int (by omega) (by rw [Int.fdiv_eq_ediv_of_nonneg i (by omega)];exact q) (.inl (PyProof.noPylong_small (by omega)))
theorem qbZ:OpR X (binaryOp .Mod) (rI (fun _ j=>0<j) fun i j=>.int (i % j)):=opI fun i j _ _ _ _ _ hc q=>by
  have h1:(0:Int)<j:=hc;exact mod_int' (by omega) (by rw [Int.fmod_eq_emod_of_nonneg i (by omega)];exact q)
theorem qkt:OpR X (binaryOp .Pow) (rI CPow fun i j=>.int (i ^ j.toNat)):=opI fun _ _ _ _ _ _ _ hc q=>pow_int_small hc.1 hc.2.1 hc.2.2 q
theorem unI {f:Value->Sem Value}{g:Int->Int}
    (rule:∀ (i:Int) (t:Tok) (s:Shared) (Q:Value->Shared->Prop) (E:Value->Shared->Prop),Q (.int (g i) s.toks) { s with toks:=s.toks+1 }->wpAny (model X.prog X.w) X.A (f (.int i t)) Q E s) :
    UnR X f (rU fun i=>.int (g i)):=by
  intro pins s σ H x v Q I rx h;obtain ⟨i,rfl,q⟩:=h;obtain ⟨t,rfl⟩:=rx;exact rule i t s _ _ ⟨.int (g i),H,I.tok _,⟨_,rfl⟩,q⟩
theorem qgw:UnR X (unaryOp .USub) (rU fun i=>.int (-i)):=unI fun _ _ _ _ _ q=>neg_int q
end
section
variable {X:Cx}{a b c:Expr}{ta tb tc:TE}{pos:Pos}
theorem op_lt:OpR X (compareOp .Lt) (rI0 fun i j=>.bl (decide (i<j))):=opB0 fun _ _ _ _ _ _ _ q=>lt_int q
theorem op_le:OpR X (compareOp .LtE) (rI0 fun i j=>.bl (decide (i<=j))):=opB0 fun _ _ _ _ _ _ _ q=>le_int q
theorem qkw:OpR X (compareOp .Gt) (rI0 fun i j=>.bl (decide (j<i))):=opB0 fun _ _ _ _ _ _ _ q=>gt_int q
theorem OpR.or {f:Value->Value->Sem Value}{r r':R2}(h:OpR X f r) (h':OpR X f r'):OpR X f (fun x y H Q=>r x y H Q\/r' x y H Q):=by
  intro pins s σ H x y v u Q I rx ry q;rcases q with q | q
  . exact h pins s σ H x y v u Q I rx ry q
  . exact h' pins s σ H x y v u Q I rx ry q
theorem ym (b:Expr) {op:CmpOp}(h:op≠.In:=by decide) (h2:op≠.NotIn:=by decide):behindInMarks op b=false:=by
  have e1:(op == CmpOp.In)=false:=by cases op <;> first | rfl | exact absurd rfl h
  have e2:(op == CmpOp.NotIn)=false:=by cases op <;> first | rfl | exact absurd rfl h2
  cases b <;> simp [behindInMarks,e1,e2]
theorem qii {op:CmpOp}{r:R2}(ho:OpR X (compareOp op) r) (ha:PE X a ta) (hb:PE X b tb) (hm:behindInMarks op b=false):PE X (.Compare a [op] [b] pos) (tOp r ta tb):=by
  intro pins s σ H Q I h;exact wpAny_Compare1 (binT ha hb I h fun v u s2 x y H2 I2 rx ry q=>ho pins s2 σ H2 x y v u Q I2 rx ry q) hm
def tTest (t:TE):TT:=fun σ H Q=>t σ H fun x H'=>∃ k,x = .bl k/\Q k H'
theorem qdK {op:CmpOp}{r:R2}(ho:OpR X (compareOp op) r) (ha:PE X a ta) (hb:PE X b tb) (hm:behindInMarks op b=false):PT X (.Compare a [op] [b] pos) (tTest (tOp r ta tb)):=by
  intro pins s σ H Q I h;refine wpAny_isTrue_Compare1 (thn (ha pins s σ H _ I h) fun v s1 ⟨x,H1,I1,r1,q1⟩=>thn (hb pins s1 σ H1 _ I1 q1) fun u s2 ⟨y,H2,I2,r2,q2⟩ =>
    thn (ho pins s2 σ H2 x y v u _ I2 r1 r2 q2) fun c s3 ⟨z,H3,I3,r3,k,e,q3⟩=>?_) hm
  subst e;cases r3
  exact wpAny_truthy_bool ⟨H3,I3,q3⟩
theorem qb6:(sizeLine:Nat)<2 ^ 63:=by rw [sizeLine_eq];decide
theorem Jt {x:V}{us:List Value}(r:yy [x] us):∃ u,us=[u]/\jb x u:=by
  cases r with
  | cons r1 r2=>cases r2;exact ⟨_,rfl,r1⟩
theorem qa8 {x y:V}{us:List Value}(r:yy [x,y] us):∃ u w',us=[u,w']/\jb x u/\jb y w':=by
  cases r with
  | cons r1 r2 =>
    cases r2 with
    | cons r3 r4=>cases r4;exact ⟨_,_,rfl,r1,r3⟩
theorem qgr:yG X (.builtin "abs") (fun xs H Q=>∃ i,xs=[.int i]/\Q (.int (if i<0 then -i else i)) H):=by
  intro pins s σ H xs us Q I r h;obtain ⟨i,rfl,q⟩:=h;obtain ⟨u,rfl,t,rfl⟩:=Jt r;exact call_abs_int fun u tk=>⟨.int (if i<0 then -i else i),H,I.tok _,⟨_,rfl⟩,q⟩
theorem qe2 (hc:X.calm=true):yG X (.builtin "max") (fun xs H Q=>∃ i j,xs=[.int i,.int j]/\Q (.int (if j > i then j else i)) H):=by
  intro pins s σ H xs us Q I r h;obtain ⟨i,j,rfl,q⟩:=h;obtain ⟨u,w',rfl,⟨t,rfl⟩,⟨t',rfl⟩⟩:=qa8 r;refine max_two_ints (I.ok.hd hc) fun h' tk k=>⟨_,H,I.kept k,?_,q⟩;by_cases hj:j > i
  . rw [if_pos hj,if_pos hj];exact ⟨_,rfl⟩
  . rw [if_neg hj,if_neg hj];exact ⟨_,rfl⟩
theorem qe0 (hc:X.calm=true):yG X (.builtin "min") (fun xs H Q=>∃ i j,xs=[.int i,.int j]/\Q (.int (if j<i then j else i)) H):=by
  intro pins s σ H xs us Q I r h;obtain ⟨i,j,rfl,q⟩:=h;obtain ⟨u,w',rfl,⟨t,rfl⟩,⟨t',rfl⟩⟩:=qa8 r;refine min_two_ints (I.ok.hd hc) fun h' tk k=>⟨_,H,I.kept k,?_,q⟩;by_cases hj:j<i
  . rw [if_pos hj,if_pos hj];exact ⟨_,rfl⟩
  . rw [if_neg hj,if_neg hj];exact ⟨_,rfl⟩
theorem qe3:yG X (.type "int") (fun xs H Q=>(∃ i,xs=[.int i]/\Q (.int i) H)\/∃ k,xs=[.bl k]/\Q (.int (if k then 1 else 0)) H):=by
  intro pins s σ H xs us Q I r h;rcases h with ⟨i,rfl,q⟩ | ⟨k,rfl,q⟩
  . obtain ⟨u,rfl,t,rfl⟩:=Jt r
    exact call_int_int ⟨.int i,H,I,⟨_,rfl⟩,q⟩
  . obtain ⟨u,rfl,r1⟩:=Jt r
    cases r1
    exact call_int_bool ⟨.int (if k then 1 else 0),H,I.tok _,⟨_,rfl⟩,q⟩
theorem qbC:yG X (.builtin "divmod") (fun xs H Q=>∃ i j,xs=[.int i,.int j]/\CDiv i j/\∀ p,H p=none->Q (.ref p) (upd H p (.tup [.int (i / j),.int (i % j)]))):=by
  intro pins s σ H xs us Q I r h;obtain ⟨i,j,rfl,⟨h1,h2⟩,q⟩:=h;obtain ⟨u,w',rfl,⟨t,rfl⟩,⟨t',rfl⟩⟩:=qa8 r;refine divmod_int (by omega) ?_ (.inl (PyProof.noPylong_small (by omega)));rw [Int.fdiv_eq_ediv_of_nonneg i (by omega),Int.fmod_eq_emod_of_nonneg i (by omega)];have hn:H s.heap.objs.size=none:=I.hok.fresh (Nat.le_refl _);refine ⟨.ref s.heap.objs.size,_,?_,rfl,q _ hn⟩;refine I.laid (fun b o e=>qb _ e) (Nat.le_refl _) ⟨by simp only [List.length_cons,List.length_nil];rw [sizeLine_eq];decide,[.int (i / j) s.toks,.int (i % j) (s.toks+1)],.cons ⟨_,rfl⟩ (.cons ⟨_,rfl⟩ .nil),?_⟩;exact ⟨_,qj s.heap rfl,rfl,0,rfl⟩
end
section
variable {prog:Program}{w:World}{A:Around}{E:Value->Shared->Prop}{s:Shared}{K:W.Frag}{x dx C f:Addr}{mA:Str->Option Value}{name:Str}{v:Value}
end
theorem qhr.some_of {v:V}{o:Option Value}(r:qhr (some v) o):∃ u,o=some u/\jb v u:=by
  cases o with
  | none=>exact (show False from r).elim
  | some u=>exact ⟨u,rfl,r⟩
section
variable {P:Program}{w:World}{H H':Hp}{h h':Heap}{a C dx:Addr}{fs fs':List (Str×V)}
end
structure Cls (K:W.Frag) (C:Addr):Prop where
  pg:W.plainGet K C Str.empty=true
  hd:W.hasDictIn K C=true
  po:W.plainOver K C=true
  sa:W.findIn K (.ref C) "__setattr__" = some (some (.builtin "object.__setattr__"))
section
variable {X:Cx}{pins:List (Addr×Obj)}{σ:St}{H:Hp}{s:Shared}{a C dx:Addr}{fs:List (Str×V)}{f:Str}{v:V}{A:Around}{E:Value->Shared->Prop}
end
section
variable {X:Cx}{o e value:Expr}{f:Str}{pos pos' tpos:Pos}{ta tv:TE}
end
section
variable {X:Cx}{pins:List (Addr×Obj)}{σ:St}{H:Hp}{s:Shared}{A:Around}{E:Value->Shared->Prop}{Q:Value->Shared->Prop}{c:Value}{b:Bool}
inductive TyOf (K:W.Frag) (H:Hp):V->Value->Prop where
  | non:TyOf K H .non (.type "NoneType")
  | bl (x:Bool):TyOf K H (.bl x) (.type "bool")
  | int (i:Int):TyOf K H (.int i) (.type "int")
  | str (x:Str):TyOf K H (.str x) (.type "str")
  | flt (x:UInt64):TyOf K H (.flt x) (.type "float")
  | lst {a:Addr}{xs:List V}(e:H a=some (.lst xs)):TyOf K H (.ref a) (.type "list")
  | frz {a:Addr}{o:Obj}{xs:List V}(e:H a=some (.frz o (.lst xs))):TyOf K H (.ref a) (.type "list")
  | tup {a:Addr}{xs:List V}(e:H a=some (.tup xs)):TyOf K H (.ref a) (.type "tuple")
  | dK {a:Addr}{kvs:List (Key×V)}(e:H a=some (.dK kvs)):TyOf K H (.ref a) (.type "dict")
  | dT {a:Addr}{kvs:List (List Key×V)}(e:H a=some (.dT kvs)):TyOf K H (.ref a) (.type "dict")
  | ins {a C dx:Addr}{fs:List (Str×V)}(e:H a=some (.ins C dx fs)) (cl:Cls K C) (ha:W.findIn K (.ref C) "__class__" = some (some (.builtin "object.__class__")))
      (hn:W.specialIn K (.builtin "object.__class__") "__get__" = some (some (.builtin "getset_descriptor.__get__"))) (htk:W.takesIn K (.builtin "object.__class__")=some true)
      (hm:W.mroIn K C (.type "object")=some true):TyOf K H (.ref a) (.ref C)
end
structure Room (k:Nat) (A:Around):Prop where
  hd:A.handled=none
  dp:A.depth+3 * k+5<recursionLimit
  un:A.units+16 * k+200<cLine
theorem Room.mono {j k:Nat}{A:Around}(r:Room k A) (h:j<=k):Room j A:=⟨r.hd,by have:=r.dp;omega,by have:=r.un;omega⟩
theorem Room.deeper {k:Nat}{A:Around}(r:Room (k+1) A) (env:Env):Room k (A.deeper env) :=
  ⟨r.hd,by have:=r.dp;show A.depth+1+3 * k+5<_;omega,by have:=r.un;show A.units+3+16 * k+200<_;omega⟩
theorem Room.in1 {k:Nat}{A:Around}(r:Room (k+1) A):Room k A.in1 :=
  ⟨r.hd,by have:=r.dp;show A.depth+3 * k+5<_;omega,by have:=r.un;show A.units+1+16 * k+200<_;omega⟩
theorem Room.depth {k:Nat}{A:Around}(r:Room k A):A.depth<recursionLimit:=by have:=r.dp;omega
theorem Room.units {k:Nat}{A:Around}(r:Room k A):A.units+64<cLine:=by have:=r.un;omega
def tNil:TA:=fun _ H Q=>Q [] H
def tCons (ta:TE) (tr:TA):TA:=fun σ H Q=>ta σ H fun x H1=>tr σ H1 fun xs H2=>Q (x::xs) H2
section
variable {X:Cx}{e:Expr}{es:List Expr}{te:TE}{t:TA}{pos:Pos}
theorem qgW:PA X [] tNil:=fun _ _ _ _ H Q I h=>Calls.spliced_nil ⟨[],H,I,.nil,h⟩
theorem qbh (ha:PE X e te) (hr:PA X es t) (hs:starEach (e::es) X.env=(false,eval e X.env)::starEach es X.env:=by rfl):PA X (e::es) (tCons te t):=by
  intro pos pins s σ H Q I h;rw [hs];show wpAny _ _ (spliced ((false,eval e X.env)::backTo pos (starEach es X.env))) _ _ s;refine Calls.spliced_cons (thn (ha pins s σ H _ I h) fun u s1 ⟨x,H1,I1,r1,q1⟩=>?_);exact thn (hr pos pins s1 σ H1 _ I1 q1) fun us s2 ⟨xs,H2,I2,r2,q2⟩=>⟨x::xs,H2,I2,.cons r1 r2,q2⟩
def tTup (t:TA):TE:=fun σ H Q=>t σ H fun xs H1=>xs.length<=sizeLine/\∀ p,H1 p=none->Q (.ref p) (upd H1 p (.tup xs))
def tLst (t:TA):TE:=fun σ H Q=>t σ H fun xs H1=>xs.length<=sizeLine/\∀ p,H1 p=none->Q (.ref p) (upd H1 p (.lst xs))
theorem qkn {x1} (h:PA X es t):PE X (.Tuple es x1 pos) (tTup t):=by
  intro pins s σ H Q I hq;refine wpAny_Tuple_spliced (thn (h pos pins s σ H _ I hq) fun us s1 ⟨xs,H1,I1,r,z,q⟩=>⟨by rw [<- r.length];exact z,?_⟩);have hf:H1 s1.heap.objs.size=none:=I1.hok.fresh (Nat.le_refl _);refine ⟨.ref s1.heap.objs.size,upd H1 s1.heap.objs.size (.tup xs),I1.laid (t':=s1.toks) (fun b u e=>qb _ e) (Nat.le_refl _) ?_,rfl,q _ hf⟩;exact ⟨z,us,r,⟨_,qj _ rfl,rfl,_,rfl⟩⟩
theorem qgT (h:PA X es t):PE X (.List es pos) (tLst t):=by
  intro pins s σ H Q I hq;refine wpAny_List_spliced (thn (h pos pins s σ H _ I hq) fun us s1 ⟨xs,H1,I1,r,z,q⟩=>⟨by rw [<- r.length];exact z,?_⟩);have hf:H1 s1.heap.objs.size=none:=I1.hok.fresh (Nat.le_refl _);refine ⟨.ref s1.heap.objs.size,upd H1 s1.heap.objs.size (.lst xs),I1.laid (t':=s1.toks) (fun b u e=>qb _ e) (Nat.le_refl _) ?_,rfl,q _ hf⟩;exact ⟨z,us,0,r,qj _ rfl⟩
end
abbrev Sp:=List V->Hp->VK->XK->Prop
abbrev CXT:=List Env->Hp->Shared->XK->Value->Shared->Prop
structure Env0 (P:Program) (w:World) (K:W.Frag) (mg:Str->Option Value) (base:Heap) (A:Around) (outer:List Env) (s:Shared) (H:Hp):Prop where
  frames:A.frames=some outer
  mod:Mod K mg base
  bs:∀ b o,base.get? b=some o->s.heap.get? b=some o/\H b=none
  bsz:base.objs.size<=s.heap.objs.size
  funs:s.heap.FunFrames base outer
  frf:∀ b∈frs outer,H b=none
  hok:HOk P w H s.heap
  bare:AllBare s.gens
def CE (outer:List Env) (P:Program) (w:World) (H:Hp) (s:Shared) (Q:VK) (u:Value) (s':Shared):Prop :=
  ∃ v H',s'.os=s.os/\AllBare s'.gens/\Un (frs outer) [] H H' s.heap s'.heap/\HOk P w H' s'.heap/\jb v u/\Q v H'
def CR (CX:CXT) (outer:List Env) (P:Program) (w:World) (H:Hp) (s:Shared) (Q:VK) (E:XK) (r:Result) (s':Shared):Prop :=
  match r with
  | .ok (.ret u)=>CE outer P w H s Q u s'
  | .ok _=>False
  | .error e=>CX outer H s E e s'
structure FnOk (P:Program) (w:World) (K:W.Frag) (mg:Str->Option Value) (base:Heap) (CX:CXT) (k:Nat) (f:Addr) (fd:FuncData) (ps:List Str) (sp:Sp):Prop where
  len:∀ vs H Q E,sp vs H Q E->vs.length=ps.length
  run:∀ (A:Around) (outer:List Env) (s:Shared) (H:Hp) (args:Args) (us:List Value) (vs:List V) (Q:VK) (E:XK),Room k A->Env0 P w K mg base A outer s H->BindsTo s fd args (ps.zip us)->yy vs us->sp vs H Q E →
    codeAny (model P w) A (.call (.ref f) args) (CR CX outer P w H s Q E) s
theorem FnOk.imp {P:Program}{w:World}{K:W.Frag}{mg:Str->Option Value}{base:Heap}{CX:CXT}{k:Nat}{f:Addr}{fd:FuncData}{ps:List Str}{sp sp':Sp}(F:FnOk P w K mg base CX k f fd ps sp)
    (h:∀ vs H Q E,sp' vs H Q E->sp vs H Q E):FnOk P w K mg base CX k f fd ps sp' :=
  ⟨fun vs H Q E q=>F.len vs H Q E (h _ _ _ _ q),fun A outer s H args us vs Q E hr he hb hv hs=>F.run A outer s H args us vs Q E hr he hb hv (h _ _ _ _ hs)⟩
section
variable {X:Cx}{pins:List (Addr×Obj)}{σ:St}{H:Hp}{s s':Shared}
theorem Inv.env0 (I:Inv X pins σ H s):Env0 X.prog X.w X.K X.mg X.base X.A X.stack s H :=
  ⟨I.ok.frames,I.ok.mod,I.bs,qq I.ok.bsz I.sz,I.stack,I.stkFree,I.hok,I.bare⟩
theorem Inv.after {Q:VK}{u:Value}(I:Inv X pins σ H s) (h:CE X.stack X.prog X.w H s Q u s'):EP X pins σ Q u s':=by
  obtain ⟨v,H',os,bare,un,hok,r,q⟩:=h;obtain ⟨hh,g,d,t,os'⟩:=s';obtain rfl:os'=s.os:=os;exact ⟨v,H',I.call (h':=hh) (g':=g) (d':=d) (t':=t) (ch:=[]) un hok bare (fun b z=>absurd z (by simp)),r,q⟩
end
def qjK (sp:Sp) (dvs:List V) (E:XK) (t:TA):TE:=fun σ H Q=>t σ H fun vs H1=>sp (vs++dvs) H1 Q E
def qcX (K:W.Frag) (fd:FuncData) (ps:List Str) (ds:List Value):Prop :=
  ∀ (s:Shared) (us:List Value),K.In s.heap->(us++ds).length=ps.length->BindsTo s fd ⟨us,[]⟩ (ps.zip (us++ds))
theorem qcX.all {K:W.Frag}{fd:FuncData}{ps:List Str}(h:∀ us:List Value,us.length=ps.length->bindArgs fd ⟨us,[]⟩=pure (ps.zip us)):qcX K fd ps []:=fun s us _ hl=>by
  rw [List.append_nil] at hl ⊢;exact .of_eq (h us hl)
def qfe (CX:CXT) (X:Cx) (E:XK):Prop:=∀ (pins:List (Addr×Obj)) (σ:St) (H:Hp) (s:Shared) (e:Value) (s':Shared),Inv X pins σ H s->CX X.stack H s E e s'->X.xe e s'
section
variable {X:Cx}{CX:CXT}{k:Nat}{f C:Addr}{fd:FuncData}{ps:List Str}{sp:Sp}{dvs:List V}{ds:List Value}{E:XK}{x m:Str}{p pos apos:Pos}{e o:Expr}{es:List Expr}{ta:TE}{t:TA}
theorem qjT {pins:List (Addr×Obj)}{σ:St}{H:Hp}{s:Shared}{Q:VK}{us:List Value}{vs:List V}(F:FnOk X.prog X.w X.K X.mg X.base CX k f fd ps sp) (hr:Room k X.A) (hb:qcX X.K fd ps ds) (hd:yy dvs ds) (hx:qfe CX X E)
    (I:Inv X pins σ H s) (r:yy vs us) (h:sp (vs++dvs) H Q E):wpAny (model X.prog X.w) X.A (call (.ref f) us) (EP X pins σ Q) X.xe s:=by
  have r2:yy (vs++dvs) (us++ds):=r.append hd;have hl:(us++ds).length=ps.length:=by rw [<- r2.length];exact F.len _ _ _ _ h
  refine wpAny_call (codeAny_mono (F.run X.A X.stack s H ⟨us,[]⟩ (us++ds) (vs++dvs) Q E hr I.env0 (hb s us I.kIn hl) r2 h) fun r s' hq=>?_);cases r with
  | error e=>exact hx pins σ H s e s' I hq
  | ok fl =>
    cases fl with
    | ret u=>exact I.after hq
    | next=>exact False.elim hq
    | brk=>exact False.elim hq
    | cont=>exact False.elim hq
theorem qij (F:FnOk X.prog X.w X.K X.mg X.base CX k f fd ps sp) (hr:Room k X.A) (hg:Gl X x) (hm:X.mg x=some (.ref f)) (hk:W.keepIn X.K (.ref f)=true) (hb:qcX X.K fd ps ds) (hd:yy dvs ds) (hx:qfe CX X E)
    (ha:PA X (e::es) t) (hdb:(x == ("__debug__" : Str))=false:=by decide) (he:starEach (e::es) X.env=(false,eval e X.env)::starEach es X.env:=by rfl) (hpl:(backTo pos (starEach es X.env)).any (·.1)=false:=by rfl) :
    PE X (.Call (.Name x p) (e::es) [] pos) (qjK sp dvs E t):=by
  intro pins s σ H Q I h;refine wpAny_Call_Name_kw (qiE I hg hm ?_ hdb);refine W.callWith_K (h₀:=X.base) I.ok.mod.kin hk (thn (ha pos pins s σ H _ I h) fun us s1 ⟨vs,H1,I1,r,q⟩=>⟨I1.kIn,?_⟩) he hpl;exact qjT F hr hb hd hx I1 r q
end
section
variable {X:Cx}{CX:CXT}{k:Nat}{f C:Addr}{fd:FuncData}{ps ks:List Str}{sp:Sp}{E:XK}{x m:Str}{p pos apos kpos:Pos}{e o:Expr}{es:List Expr}{kws:List Keyword}{te ta:TE}{t tk:TA}{nm:Option Str}
variable {g:List Value->List Value->List Value}{gV:List V->List V->List V}
end
structure FnScope (N P:List Str) (sc:Scope):Prop where
  kind:sc.kind = .function
  co:sc.isCoroutine=false
  gen:sc.isGenerator=false
  nd:N.Nodup
  pre:N.take P.length=P
  par:∀ x∈P,sc.names.lookup x=some .local\/sc.names.lookup x=some .cell
  nofree:∀ y∈sc.names,y.2≠.free
theorem qaX {kindOf:Str->Option NameKind}{x:Str}:∀ {binds:List (Str×Value)}{m:Str->Option Value},(∀ v,(x,v)∉binds)->bindL kindOf binds m x=m x
  | [],_,_=>rfl
  | (n,v)::r,m,h=>by
    unfold bindL;rw [qaX fun w hw=>h w (qf _ hw)];split
    . have:x≠n:=by rintro rfl;exact h v qe
      simp [this]
    . rfl
theorem qaZ {kindOf:Str->Option NameKind}{x:Str}:∀ {binds:List (Str×Value)}{m:Str->Option Value},(∀ v,(x,v)∉binds)->bindC kindOf binds m x=m x
  | [],_,_=>rfl
  | (n,v)::r,m,h=>by
    unfold bindC;rw [qaZ fun w hw=>h w (qf _ hw)];split
    . rfl
    . have:x≠n:=by rintro rfl;exact h v qe
      simp [this]
theorem qaY {kindOf:Str->Option NameKind}{x:Str}{v:Value}:∀ {P:List Str}{vs:List Value}{i:Nat}{m:Str->Option Value},P.Nodup->P[i]?=some x->vs[i]?=some v->kindOf x=some .local →
    bindL kindOf (P.zip vs) m x=some v
  | [],_,_,_,_,h,_,_=>by simp at h
  | _::_,[],_,_,_,_,h,_=>by simp at h
  | p::P,w::vs,0,m,nd,h1,h2,hk=>by
    simp at h1 h2;subst h1;subst h2;show bindL kindOf ((p,w)::P.zip vs) m p=_;unfold bindL;rw [qaX fun v hv=>(List.nodup_cons.mp nd).1 (List.of_mem_zip hv).1,if_pos hk];simp
  | p::P,w::vs,i+1,m,nd,h1,h2,hk=>by
    show bindL kindOf ((p,w)::P.zip vs) m x=_;unfold bindL;exact qaY (i:=i) (List.nodup_cons.mp nd).2 (by simpa using h1) (by simpa using h2) hk
theorem qa0 {kindOf:Str->Option NameKind}{x:Str}{v:Value}:∀ {P:List Str}{vs:List Value}{i:Nat}{m:Str->Option Value},P.Nodup->P[i]?=some x->vs[i]?=some v->kindOf x≠some .local →
    bindC kindOf (P.zip vs) m x=some v
  | [],_,_,_,_,h,_,_=>by simp at h
  | _::_,[],_,_,_,_,h,_=>by simp at h
  | p::P,w::vs,0,m,nd,h1,h2,hk=>by
    simp at h1 h2;subst h1;subst h2;show bindC kindOf ((p,w)::P.zip vs) m p=_;unfold bindC;rw [qaZ fun v hv=>(List.nodup_cons.mp nd).1 (List.of_mem_zip hv).1,if_neg hk];simp
  | p::P,w::vs,i+1,m,nd,h1,h2,hk=>by
    show bindC kindOf ((p,w)::P.zip vs) m x=_;unfold bindC;exact qa0 (i:=i) (List.nodup_cons.mp nd).2 (by simpa using h1) (by simpa using h2) hk
def qaa (N:List Str) (vs:List V):St:=vs.map some++List.replicate (N.length - vs.length) none
def qhg (CX:CXT) (P:Program) (w:World) (K:W.Frag) (mg:Str->Option Value) (base:Heap) (N:List Str) (qual:Str) (scope:Scope) (f:Addr) (cd:Value) (A:Around) (outer:List Env) (s:Shared) (H:Hp) (E:XK):Cx where
  prog:=P
  w:=w
  K:=K
  mg:=mg
  base:=base
  A:=A.deeper (envOfC qual scope s.heap.objs.size f cd)
  N:=N
  sa0:=s
  H0:=H
  env:=envOfC qual scope s.heap.objs.size f cd
  outer:=outer
  stack:=envOfC qual scope s.heap.objs.size f cd::outer
  ex:=[]
  calm:=true
  fn:=fun _=>true
  pn:=[]
  xe:=fun e s'=>wpAny (model P w) (A.deeper (envOfC qual scope s.heap.objs.size f cd)) (leaving (envOfC qual scope s.heap.objs.size f cd) e) (fun _ s''=>CX outer H s E e s'') (fun e' s''=>CX outer H s E e' s'') s'
theorem qci {sc:Scope}{n:Nat}{x:Str}(h:sc.names.lookup x=some .cell):∃ c,(cellsFrom n sc.names []).lookup x=some c:=by
  have q:=W.cellsFrom_some sc.names n [] (.inl h);exact Option.isSome_iff_exists.mp q
theorem qey {CX:CXT}{P:Program}{w:World}{K:W.Frag}{mg:Str->Option Value}{base:Heap}{N ps:List Str}{qual:Str}{scope:Scope}{f:Addr}{cd:Value}{A:Around}{outer:List Env}{s s1:Shared}{H:Hp}{E:XK}{us:List Value}{vs:List V}
    (S:FnScope N ps scope) (hd:A.handled=none) (e0:Env0 P w K mg base A outer s H) (hl:vs.length=ps.length) (r:yy vs us)
    (x:InCallC s s.heap.objs.size (bindL (envOfC qual scope s.heap.objs.size f cd).kindOf (ps.zip us) fun _=>none) (cellsFrom (s.heap.objs.size+1) scope.names []) (bindC (envOfC qual scope s.heap.objs.size f cd).kindOf (ps.zip us) fun _=>none) s1) :
    Inv (qhg CX P w K mg base N qual scope f cd A outer s H E) [] (qaa N vs) H s1:=by
  have hpl:ps.length<=N.length:=by have:=congrArg List.length S.pre;rw [ya] at this;omega
  obtain ⟨h1,tk,rfl,hk⟩:=x.done;have noA:∀ b:Addr,b∉(qhg CX P w K mg base N qual scope f cd A outer s H E).ex:=fun b z=>absurd (show b∈([]:List Addr) from z) (by simp);refine ⟨⟨e0.mod,S.kind,rfl,rfl,Nat.le_refl _,fun y z c h1 h2=>?_,fun y hy=>?_,fun y c _ h=>?_,fun _=>hd,Around.frames_deeper e0.frames,.inr ⟨rfl,rfl⟩,fun b z=>absurd z (noA b),e0.bs,e0.bsz,fun b _ _=>noA b,fun b z=>absurd z (noA b),e0.funs,e0.frf⟩,
    rfl,e0.bare,Un.kept hk,⟨_,x.toInCall.ns,fun i y v h1 h2 h3=>?_⟩,fun y c h=>⟨_,x.cell y c h⟩,e0.hok.fresh (Nat.le_refl _),fun y c h=>?_,fun p hp=>absurd (show p∈([]:List (Addr×Obj)) from hp) (by simp),e0.hok.kept hk,?_⟩
  . exact name_of_addr x.apart (PySem.mem_of_lookup h1) (PySem.mem_of_lookup h2)
  . have hy:scope.names.lookup y=some .cell\/scope.names.lookup y=some .free:=hy
    rcases hy with hy | hy
    . exact qci hy
    . exact absurd rfl (S.nofree _ (PySem.mem_of_lookup hy))
  . exact qP (x.above y c (PySem.mem_of_lookup h))
  . have hi:i<vs.length:=by
      unfold qaa at h2;by_cases hi:i<vs.length
      . exact hi
      . rw [qS (by simpa using hi)] at h2
        rw [yF] at h2;split at h2 <;> cases h2
    have ha:vs[i]?=some v:=by
      unfold qaa at h2;rw [qv (by simpa using hi),List.getElem?_map] at h2;cases e:vs[i]? with
      | none=>rw [e] at h2;cases h2
      | some a=>rw [e] at h2;cases h2;rfl
    obtain ⟨u,hu,rv⟩:=r.get ha;have hp:ps[i]?=some y:=by rw [<- S.pre,List.getElem?_take_of_lt (by omega)];exact h1
    have ndP:ps.Nodup:=by rw [<- S.pre];exact S.nd.sublist (List.take_sublist _ _)
    refine ⟨u,rv,?_⟩;rcases S.par y (List.mem_of_getElem? hp) with k | k
    . exact .inl ⟨k,qaY ndP hp hu k⟩
    . obtain ⟨c,e⟩:=qci (n:=s.heap.objs.size+1) k
      refine .inr ⟨.inl k,c,e,?_⟩;have q:=x.cell y c e;rw [qa0 ndP hp hu (by show scope.names.lookup y≠_;rw [k];decide)] at q;exact q
  . exact e0.hok.fresh (qP (x.above y c (PySem.mem_of_lookup h)))
  . unfold qaa
    show _=N.length;rw [List.length_append,List.length_map,List.length_replicate];omega
theorem qkT {CX:CXT}{P:Program}{w:World}{K:W.Frag}{mg:Str->Option Value}{base:Heap}{k:Nat}{f:Addr}{name qual:Str}{params:Arguments}{body:List Stmt}{scope:Scope}{dV kV doc pm cdv ct oc:Value}{an od:Option Addr}
    {osl:Array (Option Value)}{N ps:List Str}{sp:Sp}(lk:K.lookup f=some ⟨oc,od,.func (W.fnOf name qual params body scope dV kV doc pm an cdv ct),osl⟩) (hcd:W.codeIn K cdv qual=true) (S:FnScope N ps scope)
    (len:∀ vs H Q E,sp vs H Q E->vs.length=ps.length)
    (hbody:∀ (A:Around) (outer:List Env) (s:Shared) (H:Hp) (vs:List V) (Q:VK) (E:XK),Room k (A.deeper (envOfC qual scope s.heap.objs.size f cdv))->sp vs H Q E →
      ∃ t,PSs (qhg CX P w K mg base N qual scope f cdv A outer s H E) body t/\t { nx:=fun _ H'=>Q .non H',rt:=Q } (qaa N vs) H) :
    FnOk P w K mg base CX (k+1) f (W.fnOf name qual params body scope dV kV doc pm an cdv ct) ps sp:=by
  refine ⟨len,fun A outer s H args us vs Q E hr e0 hb r hsp=>?_⟩;have hl:=len _ _ _ _ hsp;have KX:K.In s.heap:=e0.mod.kin.keeps fun b o e=>(e0.bs b o e).1;have lim:s.heap.NoLimit:=e0.mod.nolimit.keeps fun b o e=>(e0.bs b o e).1;have hkind:∀ y∈ps.zip us,scope.names.lookup y.1=some .local\/(scope.names.lookup y.1=some .cell/\((cellsFrom (s.heap.objs.size+1) scope.names []).lookup y.1).isSome=true):=fun ⟨n,v⟩ hy=>by
    rcases S.par n (List.of_mem_zip hy).1 with q | q
    . exact .inl q
    . exact .inr ⟨q,W.cellsFrom_some _ _ _ (.inl q)⟩
  refine codeAny_call_function hr.depth (KX _ _ lk) rfl S.co S.gen rfl (W.codeRec_of KX hcd) (hb _ _ _ _ ?_);refine wpAny_newFunctionEnv_cells S.kind hkind fun env he s1 x=>?_;subst he;refine ⟨lim.keeps x.toInCall.keep,codeAny_func ?_⟩;obtain ⟨t,ht,hq⟩:=hbody A outer s H vs Q E (hr.deeper _) hsp;have I:Inv (qhg CX P w K mg base N qual scope f cdv A outer s H E) [] (qaa N vs) H s1:=qey S hr.hd e0 hl r x;refine qp (ht [] s1 (qaa N vs) H _ I hq) (fun fl s' hs=>?_) fun e s' hs=>hs;have fin:∀ {σ':St}{H':Hp}{v:V}{u:Value},Inv (qhg CX P w K mg base N qual scope f cdv A outer s H E) [] σ' H' s'->jb v u->Q v H'->CE outer P w H s Q u s' :=
    fun {σ' H' v u} J rv q=>⟨v,H',J.os,J.bare,J.base,J.hok,rv,q⟩
  cases fl with
  | ret u =>
    obtain ⟨v,σ',H',J,rv,q⟩:=hs;exact fin J rv q
  | next =>
    obtain ⟨σ',H',J,q⟩:=hs;exact fin (v:=V.non) (u:=Value.none) J rfl q
  | brk =>
    obtain ⟨_,_,_,q⟩:=hs;exact False.elim q
  | cont =>
    obtain ⟨_,_,_,q⟩:=hs;exact False.elim q
section
variable {X:Cx}{x:Str}{p pos:Pos}{e:Expr}{es:List Expr}{t:TA}{id T:String}{r:List V->Hp->VK->Prop}
def tCB (r:List V->Hp->VK->Prop) (t:TA):TE:=fun σ H Q=>t σ H fun vs H1=>r vs H1 Q
theorem qbY (hc:yG X (.builtin id) r) (hg:Gl X x) (hm:X.mg x=none) (hv:bootBuiltins x=some (.builtin id)) (ha:PA X (e::es) t) (hn:x ≠ "__name__" := by decide) (hdb:(x == ("__debug__" : Str))=false:=by decide)
    (he:starEach (e::es) X.env=(false,eval e X.env)::starEach es X.env:=by rfl) (hpl:(backTo pos (starEach es X.env)).any (·.1)=false:=by rfl):PE X (.Call (.Name x p) (e::es) [] pos) (tCB r t):=by
  intro pins s σ H Q I h;refine wpAny_Call_Name_kw (JE I hg hm hv ?_ hn hdb);exact PyProof.Rows.callWith_builtin1 (thn (ha pos pins s σ H _ I h) fun us s1 ⟨vs,H1,I1,r1,q1⟩=>hc pins s1 σ H1 vs us Q I1 r1 q1) he hpl
theorem qdY (hc:yG X (.type T) r) (hg:Gl X x) (hm:X.mg x=none) (hv:bootBuiltins x=some (.type T)) (ha:PA X (e::es) t) (hn:x ≠ "__name__" := by decide) (hdb:(x == ("__debug__" : Str))=false:=by decide)
    (he:starEach (e::es) X.env=(false,eval e X.env)::starEach es X.env:=by rfl) (hpl:(backTo pos (starEach es X.env)).any (·.1)=false:=by rfl):PE X (.Call (.Name x p) (e::es) [] pos) (tCB r t):=by
  intro pins s σ H Q I h;refine wpAny_Call_Name_kw (JE I hg hm hv ?_ hn hdb);exact PyProof.Rows.callWith_type1 (thn (ha pos pins s σ H _ I h) fun us s1 ⟨vs,H1,I1,r1,q1⟩=>hc pins s1 σ H1 vs us Q I1 r1 q1) he hpl
end
end L2
namespace HT
open PySem PyProof.Rows
def lexLt:List Int->List Int->Bool
  | [],[]=>false
  | [],_::_=>true
  | _::_,[]=>false
  | x::xs,y::ys=>if x=y then lexLt xs ys else decide (x<y)
theorem lexLt_cons (x y:Int) (xs ys:List Int):lexLt (x::xs) (y::ys)=if x=y then lexLt xs ys else decide (x<y):=rfl
theorem lexLt_nil_nil:lexLt [] []=false:=rfl
theorem YX (y:Int) (ys:List Int):lexLt [] (y::ys)=true:=rfl
theorem YY (x:Int) (xs:List Int):lexLt (x::xs) []=false:=rfl
theorem qga (A:Around) (s:Shared) (a:Int) (t:Tok) (c:Int) (u:Tok):∃ e,SeqAt.EqAt A s (.int a t) (.int c u) e/\(e=true ↔ a=c) :=
  ⟨(a == c),SeqAt.EqAt.int_int a t c u,by simp⟩
theorem qfD (A:Around) (s:Shared) (a:Int) (t:Tok) (c:Int) (u:Tok) (prog:Program) (w:World) (E:Value->Shared->Prop) (Q:Value->Shared->Prop) (h:Q (.bool (decide (a<c))) s) :
    wpAny (model prog w) A (richCompare .Lt (.int a t) (.int c u)) Q E s :=
  (PyProof.Rows.lt_int h:wpAny (model prog w) A (compareOp .Lt (.int a t) (.int c u)) Q E s)
section
open PySem.SeqAt
open PySem.AutoSeq1 (wpAny_loadPart')
open PySem.MeetsSeq PySem.MeetsSeq2 PySem.MeetsSeq3
theorem Zo (l b:Addr) (items items2:Array Value) (n n2:Nat) (dd dd2:Option Addr) (sl sl2:Array (Option Value)) (ns ms:List Int) (hi:IntsAre items.toList ns) (hj:IntsAre items2.toList ms) :
    Meets (Builtin.«tuple.__lt__» ⟨[.ref l,.ref b],[]⟩)
      (fun _ R s=>s.heap.get? l=some { cls:=.type "tuple",dict:=dd,data:=.seq items n,slots:=sl }/\s.heap.get? b=some { cls:=.type "tuple",dict:=dd2,data:=.seq items2 n2,slots:=sl2 } ∧
        R (.ok (.ret (.bool (lexLt ns ms)))) s) :=
  .of_wp fun prog w A R s h=>by
    obtain ⟨hp,g,d,tk,os⟩:=s;obtain ⟨hl,hb,h⟩:=h;have f2:=AutoSeq1.sub_tuple_tuple;have z1:items.size=ns.length:=by rw [<- hi.length];simp
    have z2:items2.size=ms.length:=by rw [<- hj.length];simp
    wp_walk using wpAny_loadPart' hl,wpAny_loadPart' hb,wpAny_forIn_list _ (fun rest b s'=>b.1=none/\s'=⟨hp,g,d,tk,os⟩/\∃ (vs ws:List Value) (ns' ms':List Int),rest=vs.zip ws ∧
      IntsAre vs ns'/\IntsAre ws ms'/\ns'.length+items2.size=ms'.length+items.size/\R (.ok (.ret (.bool (lexLt ns' ms')))) ⟨hp,g,d,tk,os⟩) _
    case turn =>
      rintro ⟨y,x⟩ rest b s' ⟨hb',rfl,vs,ws,ns',ms',hz,hvi,hwi,hlen,hR⟩;cases hvi with
      | nil=>rw [List.zip_nil_left] at hz;cases hz
      | cons a t hvi' =>
        cases hwi with
        | nil=>rw [List.zip_nil_right] at hz;cases hz
        | cons c u hwi' =>
          rw [List.zip_cons_cons] at hz;injection hz with hyx hrest
          injection hyx with hy hx
          subst hy hx;rw [lexLt_cons] at hR;simp only [List.length_cons] at hlen;obtain ⟨e,he,hiff⟩:=qga A.in1 ⟨hp,g,d,tk,os⟩ a t c u;refine qa (he prog w _ _ ?_);cases e with
          | true =>
            rw [if_pos (hiff.mp rfl)] at hR
            wp_walk
            exact ⟨rfl,rfl,_,_,_,_,hrest,hvi',hwi',by omega,hR⟩
          | false =>
            rw [if_neg (fun q=>absurd (hiff.mpr q) yH)] at hR;have hri:=qfD A.in1 ⟨hp,g,d,tk,os⟩ a t c u prog w
            wp_walk using hri
            exact ⟨_,rfl,by simpa using hR⟩
    case fin =>
      rintro ⟨b1,b2⟩ s' ⟨hb',rfl,vs,ws,ns',ms',hz,hvi,hwi,hlen,hR⟩;simp only at hb';subst hb';have hv:lexLt ns' ms'=decide (items.size<items2.size):=by
        cases hvi with
        | nil =>
          cases hwi with
          | nil =>
            simp only [List.length_nil] at hlen;rw [lexLt_nil_nil];exact (yc (by omega)).symm
          | cons c u hw =>
            simp only [List.length_nil,List.length_cons] at hlen;rw [YX];exact (decide_eq_true (by omega)).symm
        | cons a t hv =>
          cases hwi with
          | nil =>
            simp only [List.length_nil,List.length_cons] at hlen;rw [YY];exact (yc (by omega)).symm
          | cons c u hw =>
            rw [List.zip_cons_cons] at hz;cases hz
      rw [hv] at hR
      wp_walk
      exact ⟨_,rfl,by simpa [Builtin.Tuple.tupleCompareSizes] using hR⟩
    case h =>
      exact ⟨rfl,rfl,items.toList,items2.toList,ns,ms,rfl,hi,hj,by omega,h⟩
end
section
variable {prog:Program}{w:World}{A:Around}{E:Value->Shared->Prop}{s:Shared}
theorem lt_tupInts {l b:Addr}{items items2:Array Value}{ns ms:List Int}{Q:Value->Shared->Prop}(hl:IsTup s.heap l items) (hb:IsTup s.heap b items2) (hi:IntsAre items.toList ns) (hj:IntsAre items2.toList ms)
    (hu:A.units<cLine) (h:Q (.bool (lexLt ns ms)) s):wpAny (model prog w) A (compareOp .Lt (.ref l) (.ref b)) Q E s:=by
  obtain ⟨⟨cls,dd,data,sl⟩,ho,hc,n,hd⟩:=id hl;obtain ⟨⟨cls2,dd2,data2,sl2⟩,ho2,hc2,n2,hd2⟩:=id hb;simp only at hc hd hc2 hd2;subst hc hd hc2 hd2;exact richCompare_meets_room (op:=.Lt) ⟨_,ho,rfl⟩ ⟨_,ho2,rfl⟩ PySem.F.slot_tuple_lt PySem.F.entry_tuple_lt (PySem.F.args_tuple_lt_2 _ _) (Zo l b items items2 n n2 dd dd2 sl sl2 ns ms hi hj)
    ⟨ho,ho2,show Value.bool (lexLt ns ms)≠Value.notImplemented/\Q (.bool (lexLt ns ms)) s from ⟨(fun x=>nomatch x),h⟩⟩ hu
def sIx (n d:Nat):Option Int->Nat
  | none=>d
  | some v=>if v<0 then (v+(n:Int)).toNat else min v.toNat n
theorem sIx_nat (n d k:Nat):sIx n d (some (k:Int))=min k n:=by
  show (if (k:Int)<0 then ((k:Int)+(n:Int)).toNat else min (k:Int).toNat n)=min k n;rw [if_neg (by omega),Int.toNat_natCast]
end
end HT
namespace L2
open PySem PySem.Spec PyProof.Rows
abbrev TO:=St->Hp->(Option Int->Hp->Prop)->Prop
def PO (X:Cx) (e:Option Expr) (t:TO):Prop :=
  ∀ (pins:List (Addr×Obj)) (s:Shared) (σ:St) (H:Hp) (Q:Option Int->Hp->Prop),Inv X pins σ H s->t σ H Q →
    wpAny (model X.prog X.w) X.A (evalPart e X.env) (fun u s'=>∃ o H',Inv X pins σ H' s'/\IsPart u o/\Q o H') X.xe s
def qhE:TO:=fun _ H Q=>Q none H
def tPart (t:TE):TO:=fun σ H Q=>t σ H fun x H1=>∃ i,x = .int i/\Q (some i) H1
theorem Zf {ns:List Int}:∀ {us:List Value},yy (ns.map V.int) us->IntsAre us ns:=by
  induction ns with
  | nil=>intro us r;rw [List.map_nil] at r;cases r;exact .nil
  | cons n ns ih =>
    intro us r;rw [List.map_cons] at r;cases r with
    | cons r1 r2 =>
      obtain ⟨t,e⟩:=r1;subst e;exact .cons n t (ih r2)
section
variable {X:Cx}{e:Expr}{te:TE}{lo hi:Option Expr}{tl th:TO}{pos p2:Pos}
theorem qia:PO X none qhE:=by
  intro pins s σ H Q I h;rw [evalPart_none];exact qc ⟨none,H,I,.none,h⟩
theorem qh9 (h:PE X e te):PO X (some e) (tPart te):=by
  intro pins s σ H Q I hw;rw [evalPart_some];refine thn (h pins s σ H _ I hw) fun u s1 hq9=>?_;obtain ⟨x,H1,I1,r1,q1⟩:=hq9;obtain ⟨i,rfl,q⟩:=q1;obtain ⟨t,rfl⟩:=r1;exact ⟨some i,H1,I1,.int i t,q⟩
def SlR (X:Cx) (r:V->Option Int->Option Int->Hp->VK->Prop):Prop :=
  ∀ (pins:List (Addr×Obj)) (s:Shared) (σ:St) (H:Hp) (x:V) (v vl vu:Value) (lo hi:Option Int) (sl:Addr) (Q:VK),Inv X pins σ H s->jb x v->s.heap.IsSliceOf sl vl vu .none->IsPart vl lo->IsPart vu hi->r x lo hi H Q →
    ∃ T id,typeLookup (.type T) "__getitem__" = pure (some (.builtin id))/\s.TypeIs v T/\wpAny (model X.prog X.w) X.A (getItem v (.ref sl)) (EP X pins σ Q) X.xe s
def tSl (r:V->Option Int->Option Int->Hp->VK->Prop) (te:TE) (tl th:TO):TE:=fun σ H Q=>te σ H fun x H1=>tl σ H1 fun l H2=>th σ H2 fun u H3=>r x l u H3 Q
theorem qfN {r:V->Option Int->Option Int->Hp->VK->Prop}(hr:SlR X r) (he:PE X e te) (hl:PO X lo tl) (hu:PO X hi th):PE X (.Subscript e (.Slice lo hi none p2) pos) (tSl r te tl th):=by
  intro pins s σ H Q I h;refine Subscript_ (thn (he pins s σ H _ I h) fun v s1 ⟨x,H1,I1,r1,q1⟩=>?_);refine wpAny_Slice (thn (hl pins s1 σ H1 _ I1 q1) fun vl s2 ⟨l,H2,I2,pl,q2⟩=>thn (hu pins s2 σ H2 _ I2 q2) fun vu s3 ⟨u,H3,I3,pu,q3⟩=>?_);rw [evalPart_none];refine qc ?_;have I4:Inv X pins σ H3 { s3 with heap:=s3.heap.push { cls:=.type "slice",data:=.fields #[vl,vu,.none] } }:=I3.kept (t':=s3.toks) fun b ob q=>qb _ q;obtain ⟨T,id,hT,ht,hg⟩:=hr pins { s3 with heap:=s3.heap.push { cls:=.type "slice",data:=.fields #[vl,vu,.none] } } σ H3 x v vl vu l u s3.heap.objs.size Q I4 r1 (Heap.IsSliceOf.new ..) pl pu q3;show wpAny (model X.prog X.w) X.A (subscriptTail e (.Slice lo hi none p2) v (.ref s3.heap.objs.size)) (EP X pins σ Q) X.xe { s3 with heap:=s3.heap.push { cls:=.type "slice",data:=.fields #[vl,vu,.none] } };exact tail_any (ops:=[.ref s3.heap.objs.size,v]) ht hT hg (by with_unfolding_all rfl)
def qjg (xs:List V) (lo hi:Option Int):List V:=(xs.drop (HT.sIx xs.length 0 lo)).take (HT.sIx xs.length xs.length hi - HT.sIx xs.length 0 lo)
theorem qbA (xs:List V) (lo hi:Option Int):(qjg xs lo hi).length<=xs.length:=by
  unfold qjg;rw [ya,List.length_drop];omega
def rLtT (K:W.Frag):R2:=fun x y H Q=>∃ a b ns ms,x = .ref a/\y = .ref b/\SqT K H a (ns.map V.int)/\SqT K H b (ms.map V.int)/\Q (.bl (HT.lexLt ns ms)) H
theorem qkv (hu:X.A.units<cLine):OpR X (compareOp .Lt) (rLtT X.K):=by
  intro pins s σ H x y v u Q I rx ry h;obtain ⟨a,b,ns,ms,rfl,rfl,ha,hb,q⟩:=h;cases rx
  cases ry
  obtain ⟨its,r1,p1,_⟩:=I.tuple ha;obtain ⟨its2,r2,p2,_⟩:=I.tuple hb;have i1:IntsAre its.toArray.toList ns:=Zf r1;have i2:IntsAre its2.toArray.toList ms:=Zf r2;exact HT.lt_tupInts p1 p2 i1 i2 hu ⟨.bl (HT.lexLt ns ms),H,I,rfl,q⟩
end
def ixN (n:Nat) (i:Int):Option Nat:=if 0<=i then (if i<n then some i.toNat else none) else if -(n:Int)<=i then some (i+n).toNat else none
def atI {Z:Type}(xs:List Z) (i:Int):Option Z:=(ixN xs.length i).bind fun j=>xs[j]?
theorem qev {n:Nat}{i:Int}{j:Nat}(h:ixN n i=some j):seqIndex? i n=some j/\j<n/\-(n:Int)<=i/\i<n:=by
  unfold ixN at h;by_cases h0:0<=i
  . rw [if_pos h0] at h
    by_cases h1:i<n
    . rw [if_pos h1] at h
      have e:i.toNat=j:=Option.some.inj h;exact ⟨by rw [seqIndex_of h0 h1,e],by omega,by omega,h1⟩
    . rw [if_neg h1] at h;cases h
  . rw [if_neg h0] at h
    by_cases h1:-(n:Int)<=i
    . rw [if_pos h1] at h
      have e:(i+n).toNat=j:=Option.some.inj h;exact ⟨by rw [seqIndex_neg (by omega) h1,e],by omega,h1,by omega⟩
    . rw [if_neg h1] at h;cases h
theorem qe7 {Z:Type}{xs:List Z}{i:Int}{v:Z}(h:atI xs i=some v):∃ j,seqIndex? i xs.length=some j/\xs[j]?=some v/\j<xs.length/\-(xs.length:Int)<=i/\i<xs.length:=by
  unfold atI at h;cases e:ixN xs.length i with
  | none=>rw [e] at h;cases h
  | some j =>
    rw [e] at h;obtain ⟨h1,h2,h3,h4⟩:=qev e;exact ⟨j,h1,h,h2,h3,h4⟩
theorem qe6 {Z:Type}{xs:List Z}{j:Nat}{v:Z}(h:xs[j]?=some v):atI xs (j:Int)=some v:=by
  have hj:j<xs.length:=(qk.mp h).1;have e:ixN xs.length (j:Int)=some j:=by
    unfold ixN;rw [if_pos (by omega),if_pos (by omega)];simp
  unfold atI;rw [e];exact h
def qfd (b:Expr):Prop:=∀ o i,subscripted b false o i=operate [o,i] (getItem o i)
def IxR (X:Cx) (r:R2):Prop :=
  ∀ (value slice:Expr) (pins:List (Addr×Obj)) (s:Shared) (σ:St) (H:Hp) (x y:V) (v u:Value) (Q:VK),Inv X pins σ H s->jb x v->jb y u->r x y H Q →
    subscripted slice false v u=operate [v,u] (getItem v u)->wpAny (model X.prog X.w) X.A (subscriptTail value slice v u) (EP X pins σ Q) X.xe s
def MtR (X:Cx) (id:String) (r:V->List V->Hp->VK->Prop):Prop :=
  ∀ (pins:List (Addr×Obj)) (s:Shared) (σ:St) (H:Hp) (x:V) (xs:List V) (v:Value) (us:List Value) (Q:VK),Inv X pins σ H s->jb x v->yy xs us->r x xs H Q →
    wpAny (model X.prog X.w) X.A (call (.builtin id) (v::us)) (EP X pins σ Q) X.xe s
section
variable {X:Cx}{a b:Expr}{ta tb:TE}{pos:Pos}
theorem IxR.or {r r':R2}(h:IxR X r) (h':IxR X r'):IxR X (fun x y H Q=>r x y H Q\/r' x y H Q):=by
  intro value slice pins s σ H x y v u Q I rx ry q hs;rcases q with q | q
  . exact h value slice pins s σ H x y v u Q I rx ry q hs
  . exact h' value slice pins s σ H x y v u Q I rx ry q hs
theorem qcD {r:R2}(hr:IxR X r) (ha:PE X a ta) (hb:PE X b tb) (hs:qfd b):PE X (.Subscript a b pos) (tOp r ta tb):=by
  intro pins s σ H Q I h;exact Subscript_ (binT ha hb I h fun v u s2 x y H2 I2 rx ry q=>hr a b pins s2 σ H2 x y v u Q I2 rx ry q (hs _ _))
def rIxL (K:W.Frag):R2:=fun x y H Q=>∃ p xs i v,x = .ref p/\y = .int i/\SqL K H p xs/\atI xs i=some v/\Q v H
def rIxT (K:W.Frag):R2:=fun x y H Q=>∃ p xs i v,x = .ref p/\y = .int i/\SqT K H p xs/\atI xs i=some v/\Q v H
theorem JV:IxR X (rIxL X.K):=by
  intro value slice pins s σ H x y v u Q I rx ry h hs;obtain ⟨p,xs,i,z,rfl,rfl,hq,he,q⟩:=h;cases rx
  obtain ⟨t,rfl⟩:=ry;obtain ⟨its,r,pl,hz⟩:=I.list hq;obtain ⟨j,h1,h2,h3,h4,h5⟩:=qe7 he;obtain ⟨w,ew,rw'⟩:=r.get h2;have hl:=r.length;have hn:=qb6;have fin:EP X pins σ Q w s:=⟨z,H,I,rw',q⟩;by_cases h0:0<=i
  . have hj:i.toNat=j:=by
      rw [seqIndex_of h0 h5] at h1;exact Option.some.inj h1
    exact item_listR pl.isList h0 (by omega) (by rw [hj];simpa using ew) fin hs
  . have hj:(i+(its.toArray.size:Int)).toNat=j:=by
      rw [seqIndex_neg (by omega) h4] at h1;rw [List.size_toArray,<- hl];exact Option.some.inj h1
    exact subscriptTail_builtinR (x:=w) pl.isList.typeIs slot_list_getitem.lookup
      (wpAny_getItem_list_neg (Q:=fun r s'=>r=w/\EP X pins σ Q r s') pl.isList (by omega) (by rw [List.size_toArray] <;> omega) (by omega) (by rw [hj];simpa using ew) ⟨rfl,fin⟩) hs
theorem qkN:IxR X (rIxT X.K):=by
  intro value slice pins s σ H x y v u Q I rx ry h hs;obtain ⟨p,xs,i,z,rfl,rfl,hq,he,q⟩:=h;cases rx
  obtain ⟨t,rfl⟩:=ry;obtain ⟨its,r,pl,hz⟩:=I.tuple hq;obtain ⟨j,h1,h2,h3,h4,h5⟩:=qe7 he;obtain ⟨w,ew,rw'⟩:=r.get h2;have hl:=r.length;have hn:=qb6;have fin:EP X pins σ Q w s:=⟨z,H,I,rw',q⟩;exact subscriptTail_builtinR (x:=w) pl.typeIs slot_tuple_getitem.lookup
    (getItem_tuple (j:=j) (Q:=fun r s'=>r=w/\EP X pins σ Q r s') pl (by omega) (by omega) (by rw [List.size_toArray,<- hl];exact h1) (by simpa using ew) ⟨rfl,fin⟩) hs
theorem qcH (its:List Value) (n j:Nat) (u:Value):Obj.mapSeq (·.setIfInBounds j u) { cls:=.type "list",data:=.seq its.toArray n }={ cls:=.type "list",data:=.seq (its.set j u).toArray n }:=by simp [Obj.mapSeq]
theorem Inv.lst {pins:List (Addr×Obj)}{σ:St}{H:Hp}{s:Shared}{p:Addr}{xs:List V}(I:Inv X pins σ H s) (h:H p=some (.lst xs)) :
    ∃ (its:List Value) (n:Nat),yy xs its/\s.heap.get? p=some { cls:=.type "list",data:=.seq its.toArray n }/\xs.length<=sizeLine:=by
  obtain ⟨z,its,n,r,e⟩:=I.hok p _ h;exact ⟨its,n,r,e,z⟩
theorem Inv.lstUpd {pins:List (Addr×Obj)}{σ:St}{H:Hp}{s:Shared}{p:Addr}{xs ys:List V}{its its':List Value}{n n':Nat}{f:Obj->Obj}(I:Inv X pins σ H s) (h:H p=some (.lst xs))
    (ho:s.heap.get? p=some { cls:=.type "list",data:=.seq its.toArray n }) (hf:f { cls:=.type "list",data:=.seq its.toArray n }={ cls:=.type "list",data:=.seq its'.toArray n' }) (r:yy ys its') (hz:ys.length<=sizeLine) (t:Nat) :
    Inv X pins σ (upd H p (.lst ys)) { s with heap:=s.heap.update p f,toks:=t }:=by
  have e:(s.heap.update p f).get? p=some { cls:=.type "list",data:=.seq its'.toArray n' }:=by rw [qQ f ho (by rw [hf] <;> rfl),hf]
  refine I.write (x:=p) (e:=p) (by rw [h];trivial) (.inl rfl) (fun b u hb q=>(qJ _ _ (Ne.symm hb)).trans q) ⟨_,e⟩ ?_;exact ⟨hz,its',n',r,e⟩
def rSetL:V->V->V->Hp->(Hp->Prop)->Prop:=fun o i v H Q=>∃ p xs k j,o = .ref p/\i = .int k/\H p=some (.lst xs)/\ixN xs.length k=some j/\Q (upd H p (.lst (xs.set j v)))
theorem qbR:PSet X rSetL:=by
  intro pins s σ H o i v ov iv u Q I ro ri rv h;obtain ⟨p,xs,k,j,rfl,rfl,hp,hj,q⟩:=h;cases ro
  obtain ⟨t,rfl⟩:=ri;obtain ⟨its,n,r,ho,hz⟩:=I.lst hp;obtain ⟨h1,h2,h3,h4⟩:=qev hj;have hl:=r.length;have hn:=qb6;have I':Inv X pins σ (upd H p (.lst (xs.set j v))) { s with heap:=s.heap.update p (Obj.mapSeq (·.setIfInBounds j u)) } :=
    I.lstUpd hp ho (qcH its n j u) (r.set rv j) (by rw [List.length_set];exact hz) s.toks
  by_cases h0:0<=k
  . have hk:k.toNat=j:=by
      rw [seqIndex_of h0 h4] at h1;exact Option.some.inj h1
    exact W.ki_setAt ho h0 (by omega) (by rw [List.size_toArray,<- hl];exact h4) (by rw [hk];exact ⟨_,I',q⟩)
  . have hk:(k+(its.toArray.size:Int)).toNat=j:=by
      rw [seqIndex_neg (by omega) h3] at h1;rw [List.size_toArray,<- hl];exact Option.some.inj h1
    exact W.ki_setBack ho (by omega) (by rw [List.size_toArray,<- hl];exact h3) (by omega) (by rw [hk];exact ⟨_,I',q⟩)
theorem qab (lo hi:Option Int) (n:Nat):(sliceBounds lo hi none n).1=((HT.sIx n 0 lo:Nat):Int)/\(sliceBounds lo hi none n).2.1=((HT.sIx n n hi:Nat):Int)/\(sliceBounds lo hi none n).2.2=1:=by
  refine ⟨?_,?_,rfl⟩
  . cases lo with
    | none=>simp [sliceBounds,HT.sIx]
    | some i =>
      simp only [sliceBounds,HT.sIx,Option.getD_none,show (1:Int) > 0 by decide,if_true];by_cases h:i<0
      . simp only [h,if_true] <;> omega
      . simp only [h,if_false] <;> omega
  . cases hi with
    | none=>simp [sliceBounds,HT.sIx]
    | some i =>
      simp only [sliceBounds,HT.sIx,Option.getD_none,show (1:Int) > 0 by decide,if_true];by_cases h:i<0
      . simp only [h,if_true] <;> omega
      . simp only [h,if_false] <;> omega
theorem Zt (its:List Value) (lo hi:Option Int):slicePick its.toArray lo hi none=((its.drop (HT.sIx its.length 0 lo)).take (HT.sIx its.length its.length hi - HT.sIx its.length 0 lo)).toArray:=by
  obtain ⟨h1,h2,h3⟩:=qab lo hi its.toArray.size;unfold slicePick;rw [h1,h2,h3];simp only [sliceRange_one,pick_run,List.size_toArray] <;> rfl
def rSlL (K:W.Frag):V->Option Int->Option Int->Hp->VK->Prop:=fun x lo hi H Q=>∃ a xs,x = .ref a/\SqL K H a xs/\∀ p,H p=none->Q (.ref p) (upd H p (.lst (qjg xs lo hi)))
theorem qhK:SlR X (rSlL X.K):=by
  intro pins s σ H x v vl vu lo hi sl Q I rx hs pl pu h;obtain ⟨a,xs,rfl,hx,q⟩:=h;cases rx
  obtain ⟨its,r,ht,hz⟩:=I.list hx;have hlen:=r.length;refine ⟨"list",_,slot_list_getitem.lookup,ht.isList.typeIs,?_⟩;refine wpAny_getItem_list_slice ht.isList hs pl pu .none (by simp) ?_ (by rw [List.size_toArray] <;> omega);rw [Zt,<- hlen];refine ⟨.ref s.heap.objs.size,_,I.laid (t':=s.toks) (o:=.lst (qjg xs lo hi)) (fun b ob q=>qb _ q) (Nat.le_refl _) ?_,rfl,q _ (I.hok.fresh (Nat.le_refl _))⟩;exact ⟨qq (qbA xs lo hi) hz,_,0,(r.drop (HT.sIx xs.length 0 lo)).take (HT.sIx xs.length xs.length hi - HT.sIx xs.length 0 lo),qj _ rfl⟩
theorem qaW:yG X (.builtin "len") (fun xs H Q=>∃ p ys,xs=[.ref p]/\(SqL X.K H p ys\/SqT X.K H p ys)/\Q (.int ys.length) H):=by
  intro pins s σ H xs us Q I r h;obtain ⟨p,ys,rfl,hq,q⟩:=h;obtain ⟨u,rfl,rx⟩:=Jt r;cases rx
  have hn:=qb6;rcases hq with hq | hq
  . obtain ⟨its,r',pl,hz⟩:=I.list hq
    have hlen:=r'.length;exact Calls.call_len_list pl.isList (by simp only [List.size_toArray] <;> omega) ⟨.int ys.length,H,I.tok _,⟨s.toks+1,by rw [List.size_toArray,hlen]⟩,q⟩
  . obtain ⟨its,r',pl,hz⟩:=I.tuple hq
    have hlen:=r'.length;exact len_tuple pl (by simp only [List.size_toArray] <;> omega) ⟨.int ys.length,H,I.tok _,⟨s.toks+1,by rw [List.size_toArray,hlen]⟩,q⟩
theorem qaV:yG X (.type "list") (fun xs H Q=>∃ p ys,xs=[.ref p]/\(SqL X.K H p ys\/SqT X.K H p ys)/\∀ l,H l=none->Q (.ref l) (upd H l (.lst ys))):=by
  intro pins s σ H xs us Q I r h;obtain ⟨p,ys,rfl,hq,q⟩:=h;obtain ⟨u,rfl,rx⟩:=Jt r;cases rx
  have fin:∀ (its:List Value),yy ys its->ys.length<=sizeLine->∀ (h':Heap) (c':Nat),(∀ b o',s.heap.get? b=some o'->h'.get? b=some o') →
      h'.get? s.heap.objs.size=some { cls:=.type "list",dict:=none,data:=.seq its.toArray c',slots:=#[] }->EP X pins σ Q (.ref s.heap.objs.size) { s with heap:=h' }:=fun its r' hz h' c' kp e =>
    ⟨.ref s.heap.objs.size,_,I.laid (t':=s.toks) kp (Nat.le_refl _) (show ja X.prog X.w _ h' _ (.lst ys) from ⟨hz,its,c',r',e⟩),rfl,q _ (I.hok.fresh (Nat.le_refl _))⟩
  rcases hq with hq | hq
  . obtain ⟨its,r',pl,hz⟩:=I.list hq
    have hlen:=r'.length;obtain ⟨o,ho,hc,n,hd⟩:=pl.isList;exact call_list_seq p (.inl rfl) ho hc hd (fun h' c' kp e=>fin its r' hz h' c' kp e) (by simp only [List.size_toArray] <;> omega)
  . obtain ⟨its,r',pl,hz⟩:=I.tuple hq
    have hlen:=r'.length;obtain ⟨o,ho,hc,n,hd⟩:=pl;exact call_list_seq p (.inr rfl) ho hc hd (fun h' c' kp e=>fin its r' hz h' c' kp e) (by simp only [List.size_toArray] <;> omega)
def tyV (K:W.Frag) (T:String) (x:V) (H:Hp):Prop:=match x with
  | .str _=>T = "str"
  | .int _=>T = "int"
  | .ref p=>(T = "list" /\ ∃ xs,SqL K H p xs)\/(T = "tuple" /\ ∃ o,K.lookup p=some o/\o.cls = .type "tuple" /\ o.dict=none) ∨
      (T = "dict" /\ ((∃ kvs,H p=some (.dK kvs))\/∃ kvs,H p=some (.dT kvs)))\/(T = "set" /\ ∃ S n,H p=some (.set S n))
  | _=>False
theorem qgx {pins:List (Addr×Obj)}{σ:St}{H:Hp}{s:Shared}{T:String}{x:V}{v:Value}(I:Inv X pins σ H s) (r:jb x v) (ty:tyV X.K T x H) :
    s.TypeIs v T/\∀ a,v = .ref a->∃ ob,s.heap.get? a=some ob/\ob.dict=none:=by
  cases x with
  | str z =>
    obtain ⟨t,rfl⟩:=r;cases (show T = "str" from ty)
    exact ⟨typeIs_str s z t,fun _ e=>nomatch e⟩
  | int i =>
    obtain ⟨t,rfl⟩:=r;cases (show T = "int" from ty)
    exact ⟨typeIs_int s i t,fun _ e=>nomatch e⟩
  | ref p =>
    cases r
    rcases ty with ⟨rfl,xs,hq⟩ | ⟨rfl,o,hk,hc,hd⟩ | ⟨rfl,hk⟩ | ⟨rfl,S,n,hk⟩
    . obtain ⟨its,_,pl,_⟩:=I.list hq
      refine ⟨pl.isList.typeIs,fun a e=>?_⟩;cases e
      obtain ⟨o,n,e,c,hd,_⟩:=pl;exact ⟨o,e,hd⟩
    . refine ⟨⟨o,I.kIn p o hk,hc⟩,fun a e=>?_⟩
      cases e
      exact ⟨o,I.kIn _ o hk,hd⟩
    . have z:∃ o,s.heap.get? p=some o/\o.ExactDict:=by
        rcases hk with ⟨kvs,hk⟩ | ⟨kvs,hk⟩
        . obtain ⟨_,_,_,_,o,_,_,e,ex,_⟩:=I.hok p _ hk
          exact ⟨o,e,ex⟩
        . obtain ⟨_,_,_,_,o,_,_,e,ex,_⟩:=I.hok p _ hk
          exact ⟨o,e,ex⟩
      obtain ⟨o,e,ex⟩:=z;refine ⟨⟨o,e,ex.1⟩,fun a e2=>?_⟩;cases e2
      exact ⟨o,e,ex.2.1⟩
    . obtain ⟨o,_,_,_,e,ex,_⟩:=I.hok p _ hk
      refine ⟨⟨o,e,ex.1⟩,fun a e2=>?_⟩;cases e2
      exact ⟨o,e,ex.2.1⟩
  | _=>exact False.elim ty
def tBM0 (K:W.Frag) (T:String) (r:V->List V->Hp->VK->Prop) (to:TE):TE:=fun σ H Q=>to σ H fun x H1=>tyV K T x H1/\r x [] H1 Q
def tBM (K:W.Frag) (T:String) (r:V->List V->Hp->VK->Prop) (to:TE) (t:TA):TE:=fun σ H Q=>to σ H fun x H1=>tyV K T x H1/\t σ H1 fun xs H2=>r x xs H2 Q
variable {o e:Expr}{es:List Expr}{to:TE}{t:TA}{name:Str}{apos cpos:Pos}{T id:String}{r:V->List V->Hp->VK->Prop}
theorem qgU (pa:PlainAttrs T) (slot:Slot T name id) (hty:typeOf (.builtin id)=pure (.type "method_descriptor")) (hm:MtR X id r) (ho:PE X o to)
    (hbase:attributeBase o name X.env (eval o X.env)=eval o X.env:=by rfl) (hline:(apos.endLine == cpos.line)=true:=by rfl):PE X (.Call (.Attribute o name apos) [] [] cpos) (tBM0 X.K T r to):=by
  intro pins s σ H Q I h;refine wpAny_Call_method0_late hbase hline (thn (ho pins s σ H _ I h) fun v s1 ⟨x,H1,I1,r1,ty,q1⟩=>?_);obtain ⟨h1,h2⟩:=qgx I1 r1 ty;exact ⟨T,id,pa,slot,hty,h1,h2,Calls.callWith_builtin rfl (PySem.evalArgs_none (hm pins s1 σ H1 x [] v [] Q I1 r1 .nil q1))⟩
theorem ZB (pa:PlainAttrs T) (slot:Slot T name id) (hty:typeOf (.builtin id)=pure (.type "method_descriptor")) (hm:MtR X id r) (ho:PE X o to) (ha:PA X (e::es) t)
    (hbase:attributeBase o name X.env (eval o X.env)=eval o X.env:=by rfl)
    (hfew:((backTo cpos (starEach (e::es) X.env)).all (fun x=>!x.1) && (backToKw cpos (keywordEach [] X.env)).all (fun x=>x.1.isSome)
      && decide ((e::es).length+([]:List Keyword).length+(if ([]:List Keyword).isEmpty then 0 else 1)<30))=true:=by rfl)
    (hline:(apos.endLine == cpos.line)=true:=by rfl) (hs:starEach (e::es) X.env=(false,eval e X.env)::starEach es X.env:=by rfl) (hplain:(backTo cpos (starEach es X.env)).any (·.1)=false:=by rfl) :
    PE X (.Call (.Attribute o name apos) (e::es) [] cpos) (tBM X.K T r to t):=by
  intro pins s σ H Q I h;refine wpAny_Call_method_late hbase hfew hline rfl (thn (ho pins s σ H _ I h) fun v s1 ⟨x,H1,I1,r1,ty,q1⟩=>?_);obtain ⟨h1,h2⟩:=qgx I1 r1 ty;refine ⟨T,id,pa,slot,hty,h1,h2,?_⟩;have hA:=ha cpos pins s1 σ H1 _ I1 q1;rw [hs] at hA ⊢;refine Calls.callWith_builtin (by show (false || (backTo cpos (starEach es X.env)).any (·.1))=false;rw [hplain] <;> rfl) (Calls.evalArgs_plain ?_);exact thn hA fun us s2 ⟨vs,H2,I2,r2,q2⟩=>hm pins s2 σ H2 x vs v us Q I2 r1 r2 q2
end
def MtM (X:Cx) (id:String) (r:V->List V->Hp->VK->Prop):Prop :=
  ∀ (pins:List (Addr×Obj)) (s:Shared) (σ:St) (H:Hp) (x:V) (xs:List V) (v:Value) (us:List Value) (Q:VK),Inv X pins σ H s->jb x v->yy xs us->r x xs H Q →
    wpAny (model X.prog X.w) X.A (call (.builtin id) (v::us)) (EP X pins σ Q) X.xe s
theorem yy.one:∀ {x:V}{us:List Value},yy [x] us->∃ u,us=[u]/\jb x u
  | _,_,.cons r .nil=>⟨_,rfl,r⟩
theorem yy.zero:∀ {us:List Value},yy [] us->us=[]
  | _,.nil=>rfl
theorem yy.reverse {xs:List V}{us:List Value}(h:yy xs us):yy xs.reverse us.reverse:=by
  induction h with
  | nil=>exact .nil
  | cons r t ih=>rw [List.reverse_cons,List.reverse_cons];exact yy.append ih (.cons r .nil)
section
variable {X:Cx}{pins:List (Addr×Obj)}{σ:St}{H:Hp}{s:Shared}{l b:Addr}{xs ys zs:List V}
theorem Inv.lset {its its':List Value}{n:Nat}{f:Array Value->Array Value}{t':Nat}(I:Inv X pins σ H s) (hH:H l=some (.lst xs))
    (e:s.heap.get? l=some { cls:=.type "list",data:=.seq its.toArray n }) (hf:f its.toArray=its'.toArray) (hv:yy ys its') (hz:ys.length<=sizeLine) :
    Inv X pins σ (upd H l (.lst ys)) { s with heap:=s.heap.update l (Obj.mapSeq f),toks:=t' }:=by
  have q:=PySem.IsL.update e f;rw [hf] at q;refine I.write (x:=l) (e:=l) (by rw [hH];exact trivial) (.inl rfl) (fun b' u hb hu=>(qJ s.heap (Obj.mapSeq f) (Ne.symm hb)).trans hu) ⟨_,q⟩ ?_;exact ⟨hz,its',_,hv,q⟩
theorem Inv.lnew {its:List Value}{t':Nat}(I:Inv X pins σ H s) (hv:yy ys its) (hz:ys.length<=sizeLine) :
    Inv X pins σ (upd H s.heap.objs.size (.lst ys)) { s with heap:=s.heap.push { cls:=.type "list",data:=.seq its.toArray },toks:=t' } :=
  I.laid (fun _ _ q=>qb _ q) (Nat.le_refl _) ⟨hz,its,0,hv,qj _ rfl⟩
theorem Inv.fresh (I:Inv X pins σ H s):H s.heap.objs.size=none:=I.hok.fresh (Nat.le_refl _)
theorem Inv.lstM (I:Inv X pins σ H s) (hH:H l=some (.lst xs)):xs.length<=sizeLine/\∃ (its:List Value) (n:Nat),yy xs its/\xs.length=its.length/\s.heap.get? l=some { cls:=.type "list",data:=.seq its.toArray n }:=by
  obtain ⟨z,its,n,r,e⟩:=I.hok l _ hH;exact ⟨z,its,n,r,r.length,e⟩
theorem qfV {n:Nat}(h:n<=sizeLine):Builtin.List.listTooLong n=false:=by
  unfold Builtin.List.listTooLong;exact yc (by omega)
end
section
variable {X:Cx}
def rAppend:V->List V->Hp->VK->Prop:=fun x vs H Q=>∃ l xs y,x = .ref l/\vs=[y]/\H l=some (.lst xs)/\xs.length<sizeLine/\Q .non (upd H l (.lst (xs++[y])))
theorem jS:MtM X "list.append" rAppend:=by
  intro pins s σ H x vs v us Q I rx rv h;obtain ⟨l,xs,y,rfl,rfl,hH,hz,q⟩:=h;cases rx
  obtain ⟨u,rfl,ru⟩:=rv.one;obtain ⟨z,its,n,r,hl,e⟩:=I.lstM hH;refine call_meets F.slot_list_append ⟨_,e,rfl⟩ F.entry_list_append (F.args_list_append_2 _ _) (PySem.list_append l its.toArray n u (by rw [List.size_toArray];omega)) ⟨e,?_⟩;refine ⟨.non,_,I.lset (its':=its++[u]) hH e (by simp) (r.append (.cons ru .nil)) ?_,rfl,q⟩;rw [List.length_append,List.length_singleton];omega
def rExtend:V->List V->Hp->VK->Prop:=fun x vs H Q=>∃ l b xs zs,x = .ref l/\vs=[.ref b]/\H l=some (.lst xs)/\H b=some (.lst zs)/\xs.length+zs.length<=sizeLine/\Q .non (upd H l (.lst (xs++zs)))
theorem qea:MtM X "list.extend" rExtend:=by
  intro pins s σ H x vs v us Q I rx rv h;obtain ⟨l,b,xs,zs,rfl,rfl,hH,hB,hz,q⟩:=h;cases rx
  obtain ⟨u,rfl,ru⟩:=rv.one;cases ru
  obtain ⟨z,its,n,r,hl,e⟩:=I.lstM hH;obtain ⟨z2,its2,n2,r2,hl2,e2⟩:=I.lstM hB;have hsz:its.toArray.size+its2.toArray.size<=sizeLine:=by rw [List.size_toArray,List.size_toArray];omega
  have hlong:¬ (!its.toArray.isEmpty && Builtin.List.listTooLong (its.toArray.size+its2.toArray.size))=true:=by
    rw [qfV hsz,Bool.and_false];exact yH
  refine call_meets F.slot_list_extend ⟨_,e,rfl⟩ F.entry_list_extend (F.args_list_extend_2 _ _)
    (AutoSeq1.list_extend_list_list_0 l its.toArray n b its2.toArray n2 hlong (by rw [List.size_toArray];omega) (by omega)) ⟨e,e2,?_⟩
  refine ⟨.non,_,I.lset (its':=its++its2) hH e (by simp) (r.append r2) ?_,rfl,q⟩;rw [List.length_append];omega
def rClear:V->List V->Hp->VK->Prop:=fun x vs H Q=>∃ l xs,x = .ref l/\vs=[]/\H l=some (.lst xs)/\Q .non (upd H l (.lst []))
theorem qb4:MtM X "list.clear" rClear:=by
  intro pins s σ H x vs v us Q I rx rv h;obtain ⟨l,xs,rfl,rfl,hH,q⟩:=h;cases rx
  have hus:=rv.zero;subst hus;obtain ⟨z,its,n,r,hl,e⟩:=I.lstM hH;refine call_meets F.slot_list_clear ⟨_,e,rfl⟩ F.entry_list_clear (F.args_list_clear_1 _) (AutoSeq1.list_clear_list_0 l its.toArray n (by rw [List.size_toArray];omega)) ⟨e,?_⟩;exact ⟨.non,_,I.lset (its':=[]) (ys:=[]) hH e rfl .nil (qB _),rfl,q⟩
end
section
variable {prog:Program}{w:World}{A:Around}{E:Value->Shared->Prop}{s:Shared}
set_option maxRecDepth 100000 in
end
section
variable {X:Cx}
end
end L2
namespace Att
open PySem PySem.W PySem.Calls PyProof.Rows
theorem YC {P:Params}{h:Heap}:∀ (ns:List Int) (vs:List Value),WellAll P h vs (ns.map WData.int)->IntsAre vs ns:=by
  intro ns;induction ns with
  | nil =>
    intro vs w;rw [List.map_nil] at w;cases w
    exact .nil
  | cons n ns ih =>
    intro vs w;rw [List.map_cons] at w;cases w with
    | cons a b =>
      cases a
      exact .cons _ _ (ih _ b)
theorem qdo {l:OpenLaw}{n:Nat}(hn:l.most=some n) {P:Params}{h:Heap}{args:List WData}{vals:List Value}
    (hpre:l.row.toRowW.claim.pre args=true) (hwl:WellAll P h vals args) :
    ∃ a vs ns,vals=[Value.ref a]/\args=[WData.list (ns.map WData.int)]/\h.get? a=some { cls:=.type "list",data:=.seq vs.toArray }/\IntsAre vs ns/\ns.length<=n:=by
  have hsh:WShape.hasAll [] args [.list .int]=true:=(pre_splitW hpre).1;have hc:l.pre.holds [] { args:=args }=true:=(pre_splitW hpre).2;obtain ⟨d,r,rfl,h1,h2⟩:=hasAllW_cons hsh;obtain rfl:=hasAllW_nil h2;obtain ⟨xs,rfl,h3⟩:=hasW_list h1;obtain ⟨ns,rfl⟩:=items_int h3;have hlen:ns.length<=n:=by
    unfold OpenLaw.pre at hc;have h4:(WTm.not (.lt (.lit (.int (n:Int))) (.len (.arg 0)))).holds [] { args:=[.list (ns.map .int)] }=true:=by
      have h4:=(holds_andW hc).1;rw [hn] at h4;exact h4
    have h5:=condW_of h4 (w_not (w_lt w_lit (w_len_list (w_arg rfl))));rw [List.length_map] at h5;refine Nat.le_of_not_lt fun q=>?_;have q':(n:Int)<((ns.length:Nat):Int):=by omega
    first
      | (rw [decide_eq_true q'] at h5;exact absurd h5 (by decide))
      | (simp at h5;omega)
  cases hwl with
  | cons w1 w2 =>
    cases w2
    cases w1 with
    | list ho hall=>exact ⟨_,_,ns,rfl,rfl,ho,YC ns _ hall,hlen⟩
theorem qdO (l:OpenLaw) (args:List WData):l.row.toRowW.claim.post args (.bool true) args=true :=
  postW_of (r:=l.row.toRowW) (X:=(true == true))
    (show WShape.has [] (.bool true) .bool=true by first | rfl | decide | simp [WShape.has,WShape.arms,WShape.armsAll])
    (show (WTm.eq .res (.lit (.bool true))).value [] { args:=args,res:=some (.bool true),after:=args }=some (.bool (true == true)) from w_eq_bool (w_res rfl) w_lit) rfl
theorem attach_call {l:OpenLaw}{n:Nat}{q:Program}{loose:List Str}{XP:(Str->Option Value)->Heap->Prop}{YP:World->Heap->Prop}{d:DefRec}
    (hn:l.most=some n) (hdf:d.params.defaults=[])
    (call:∀ (w:World) (sa0 sa1:Shared) (mg mb:Str->Option Value) (fa:Addr) (o:Obj) (pm cd doc:Value) (a:Addr) (vs:List Value) (ns:List Int),
      Ground q loose [] XP w sa0 mg mb sa1.heap->YP w sa1.heap →
      sa1.heap.get? fa=some o->o.data = .func (docDef d.name d.params d.body d.scope pm cd doc)->sa1.heap.CodeRec cd d.name->mg d.name=some (.ref fa) →
      sa1.heap.get? a=some { cls:=.type "list",data:=.seq vs.toArray }->IntsAre vs ns->ns.length<=n->sa1.gens=#[] →
      codeAny (model l.prog w) callerA (.call (.ref fa) ⟨[.ref a],[]⟩) (fun r s'=>r = .ok (.ret (.bool true))/\OldK sa1.heap s'.heap/\s'.os=sa1.os/\AllBare s'.gens) sa1) :
    WalkO q loose XP YP l.row.toRowW d [] (fun f vs=>PySem.call f vs):=by
  intro w sa0 sa1 mg mb G Y fa o pm cd doc dV kV ho hd hcd hD hmg hg args vals as hpre hlay hrd hwl hlo;obtain rfl:dV = .none:=Dflts.none hD hdf;obtain rfl:kV = .none:=Dflts.noKw hD;obtain ⟨a,vs,ns,rfl,rfl,hobj,hints,hlen⟩:=qdo hn hpre hwl;refine enter_call (codeAny_mono (call w sa0 sa1 mg mb fa o pm cd doc a vs ns G Y ho (fd_plain hd) hcd hmg hobj hints hlen hg) fun r s' hq=>?_);obtain ⟨rfl,h2,h3,h4⟩:=hq;exact ⟨.inl ⟨.bool true,.bool true,[],rfl,fun _=>rfl,.bool true,qdO l _,fun _=>⟨List.Pairwise.nil,fun _ hm=>(nomatch hm)⟩⟩,h2,h3,h4⟩
section
variable {prog:Program}{w:World}{A:Around}{E:Value->Shared->Prop}{s:Shared}{K:Frag}
def ledger (h:Heap) (L d:Addr):List (Addr×Obj):=(List.range h.objs.size).filterMap fun a=>if a=L\/a=d then none else (h.get? a).map fun o=>(a,o)
end
end Att
namespace L2
open PySem PySem.Spec PyProof.Rows
theorem Z6:∀ {vs:List Value}{ns:List Int},IntsAre vs ns->yy (ns.map V.int) vs
  | _,_,.nil=>.nil
  | _,_,.cons n t h=>.cons ⟨t,rfl⟩ (Z6 h)
def Only (H:Hp):Prop:=∀ b,H b=none\/∃ o xs,H b=some (.frz o (.lst xs))
def Jf (s:Stmt):Arguments:=match s with
  | .FunctionDef _ a _ _ _ _ _ _ _ _=>a
  | _=>{ posonlyargs:=[],args:=[],vararg:=none,kwonlyargs:=[],kw_defaults:=[],kwarg:=none,defaults:=[] }
def jE (s:Stmt):List Stmt:=match s with
  | .FunctionDef _ _ b _ _ _ _ _ _ _=>b
  | _=>[]
def qx (s:Stmt):Scope:=match s with
  | .FunctionDef _ _ _ _ _ _ sc _ _ _=>sc
  | _=>{ kind:=.function,names:=[],isGenerator:=false,isCoroutine:=false }
abbrev CX0:CXT:=fun _ _ _ _ _ _=>False
abbrev E0:XK:=fun _ _ _=>False
structure Fun (K:W.Frag) (x qual:Str) (st:Stmt) (f:Addr) (fd:FuncData):Prop where
  ex:∃ (oc:Value) (od:Option Addr) (kV doc pm:Value) (an:Option Addr) (cdv ct:Value) (osl:Array (Option Value)),
    fd=W.fnOf x qual (Jf st) (jE st) (qx st) .none kV doc pm an cdv ct/\K.lookup f=some ⟨oc,od,.func fd,osl⟩/\W.codeIn K cdv qual=true
  kp:W.keepIn K (.ref f)=true
section
variable {P:Program}{w:World}{K:W.Frag}{mg:Str->Option Value}{base:Heap}
theorem Fun.binds {x qual:Str}{st:Stmt}{f:Addr}{fd:FuncData}{ps:List Str}(F:Fun K x qual st f fd)
    (h:∀ (kV doc pm:Value) (an:Option Addr) (cdv ct:Value) (us:List Value),us.length=ps.length->bindArgs (W.fnOf x qual (Jf st) (jE st) (qx st) .none kV doc pm an cdv ct) ⟨us,[]⟩=pure (ps.zip us)):qcX K fd ps []:=by
  obtain ⟨oc,od,kV,doc,pm,an,cdv,ct,osl,rfl,lk,hcd⟩:=F.ex;exact .all (h kV doc pm an cdv ct)
theorem qg6 {x qual:Str}{st:Stmt}{f:Addr}{oc:Value}{od an:Option Addr}{osl:Array (Option Value)}{kV doc pm cdv ct:Value}(l:K.lookup f=some ⟨oc,od,.func (W.fnOf x qual (Jf st) (jE st) (qx st) .none kV doc pm an cdv ct),osl⟩)
    (c:W.codeIn K cdv qual=true) (k:W.keepIn K (.ref f)=true):Fun K x qual st f (W.fnOf x qual (Jf st) (jE st) (qx st) .none kV doc pm an cdv ct):=⟨⟨oc,od,kV,doc,pm,an,cdv,ct,osl,rfl,l,c⟩,k⟩
end
section
variable {X:Cx}
theorem pv (i:Nat) {x:Str}{pos:Pos}(hN:X.N[i]?=some x:=by rfl) (hv:Vis X.env.scope x:=by first | exact Or.inl rfl | exact Or.inr (Or.inl rfl) | exact Or.inr (Or.inr rfl)) (hd:(x == ("__debug__" : Str))=false:=by decide)
    (hcd:(x == ("__classdict__" : Str))=false:=by decide):PE X (.Name x pos) (tVar i):=qgS hN hv hd hcd
end
theorem Z3 {A B:Prop}(h:B):if false=true then A else B:=by
  rw [if_neg yH];exact h
theorem qa4 {A B:Prop}(h:A):if true=true then A else B:=by
  rw [if_pos rfl];exact h
theorem Jx {c A B:Prop} [Decidable c] (h1:c->A) (h2:¬ c->B):if c then A else B:=by
  by_cases h:c
  . rw [if_pos h]
    exact h1 h
  . rw [if_neg h]
    exact h2 h
def yd (H H':Hp):Prop:=∀ b o,H b=some o->H' b=some o
theorem yd.refl (H:Hp):yd H H:=fun _ _ h=>h
theorem yd.trans {H H1 H2:Hp}(a:yd H H1) (b:yd H1 H2):yd H H2:=fun c o h=>b c o (a c o h)
theorem yd.seq {K:W.Frag}{H H':Hp}{a:Addr}{xs:List V}(e:yd H H') (h:SqL K H a xs):SqL K H' a xs:=by
  rcases h with (h | ⟨o,h⟩) | h
  . exact .inl (.inl (e _ _ h))
  . exact .inl (.inr ⟨o,e _ _ h⟩)
  . exact .inr h
end L2
set_option maxHeartbeats 4000000
namespace L2
open PySem PySem.Spec PyProof.Rows
theorem yI {n:Nat}(h:n<=4000):n<sizeLine:=yr h (by decide)
def qo (X:Cx) (L:List Str) (scope:Scope) (cl:List (Str×Addr)) (C:Addr) (sa2:Shared) (Ha2:Hp) (fp:List Addr):Cx where
 prog:=X.prog
 w:=X.w
 K:=X.K
 mg:=X.mg
 base:=X.base
 A:=X.A
 N:=X.N++L
 sa0:=sa2
 H0:=Ha2
 env:=compEnvC scope cl C X.env
 outer:=X.stack
 stack:=X.stack
 ex:=fp
 fn:=fun _=>false
 calm:=X.calm
 pn:=[]
 xe:=fun _ _=>False
def jf (sc:Scope) (N L:List Str) (scope:Scope):Bool :=
 decide (scope.kind = .function) && scope.names.all (fun y=>decide (y.2≠.cell) && (decide (y.2≠.local) || (decide (scope.names.lookup y.1=some .local) && decide (y.1∉N))) &&
  (decide (y.2≠.free) || decide (sc.names.lookup y.1=some .cell) || decide (sc.names.lookup y.1=some .free))) && decide ((N++L).Nodup)
theorem yM {sc:Scope}{N L:List Str}{scope:Scope}(h:jf sc N L scope=true):scope.kind = .function:=by
 simp only [jf,Bool.and_eq_true,decide_eq_true_eq] at h;exact h.1.1
theorem yB {sc:Scope}{N L:List Str}{scope:Scope}(h:jf sc N L scope=true) {y:Str×NameKind}(hy:y∈scope.names) :
  y.2≠.cell/\(y.2 = .local->scope.names.lookup y.1=some .local/\y.1∉N)/\(y.2 = .free->sc.names.lookup y.1=some .cell\/sc.names.lookup y.1=some .free):=by
 simp only [jf,Bool.and_eq_true,decide_eq_true_eq,List.all_eq_true,Bool.or_eq_true] at h;have q:=h.1.2 y hy;obtain ⟨⟨q1,q2⟩,q3⟩:=q;refine ⟨q1,fun e=>?_,fun e=>?_⟩
 .rcases q2 with q2 | q2
  .exact absurd e q2
  .exact q2
 .rcases q3 with (q3 | q3) | q3
  .exact absurd e q3
  .exact .inl q3
  .exact .inr q3
theorem Jj {env:Env}:∀ (names:List (Str×NameKind)) (acc:List (Str×Addr)),(∀ y∈names,y.2 = .free->∃ c,env.cells.lookup y.1=some c) →
  (∀ x c,acc.lookup x=some c->env.cells.lookup x=some c) →
  ∃ cl,(forIn names acc (fun (x:Str×NameKind) (cs:List (Str×Addr))=>match x with
   | (name,kind)=>if (kind == NameKind.free)=true then do let a <- cellOf env name;pure (ForInStep.yield ((name,a)::cs)) else pure (ForInStep.yield cs)):Sem (List (Str×Addr)))=pure cl ∧
   (∀ x c,cl.lookup x=some c->env.cells.lookup x=some c)/\(∀ y∈names,y.2 = .free->∃ c,cl.lookup y.1=some c)/\(∀ x c,acc.lookup x=some c->∃ c',cl.lookup x=some c')
 | [],acc,_,ha=>⟨acc,rfl,ha,fun _ h=>(nomatch h),fun _ c e=>⟨c,e⟩⟩
 | (n,k)::r,acc,hf,ha=>by
  by_cases hk:k = .free
  .subst hk;obtain ⟨c,hc⟩:=hf (n,.free) qe rfl;have ha':∀ x c',((n,c)::acc).lookup x=some c'->env.cells.lookup x=some c':=fun x c' e=>by
    by_cases hx:x=n
    .subst hx;simp [List.lookup_cons] at e;rw [<- e];exact hc
    .have:(x == n)=false:=by simpa using hx
     simp [List.lookup_cons,this] at e;exact ha x c' e
   obtain ⟨cl,e1,e2,e3,e4⟩:=Jj r ((n,c)::acc) (fun y hy=>hf y (qf _ hy)) ha';refine ⟨cl,?_,e2,fun y hy hfr=>?_,fun x c' e=>?_⟩
   .rw [List.forIn_cons];show (if (NameKind.free == NameKind.free)=true then (do let a <- cellOf env n;pure (ForInStep.yield ((n,a)::acc))) else pure (ForInStep.yield acc)) >>= _=_;rw [if_pos (by decide)];unfold cellOf;rw [hc];simp only [pure_bind];exact e1
   .rcases List.mem_cons.mp hy with rfl | hy
    .exact e4 n c (by simp [List.lookup_cons])
    .exact e3 y hy hfr
   .by_cases hx:x=n
    .subst hx;exact e4 x c (by simp [List.lookup_cons])
    .have:(x == n)=false:=by simpa using hx
     exact e4 x c' (by simp [List.lookup_cons,this];exact e)
  .obtain ⟨cl,e1,e2,e3,e4⟩:=Jj r acc (fun y hy=>hf y (qf _ hy)) ha;refine ⟨cl,?_,e2,fun y hy hfr=>?_,e4⟩
   .rw [List.forIn_cons];have hb:(k == NameKind.free)=false:=by simpa using hk
    show (if (k == NameKind.free)=true then (do let a <- cellOf env n;pure (ForInStep.yield ((n,a)::acc))) else pure (ForInStep.yield acc)) >>= _=_;rw [hb,if_neg (by simp)];simp only [pure_bind];exact e1
   .rcases List.mem_cons.mp hy with rfl | hy
    .exact absurd hfr hk
    .exact e3 y hy hfr
theorem jV {env:Env}{scope:Scope}(hf:∀ y∈scope.names,y.2 = .free->∃ c,env.cells.lookup y.1=some c) :
  ∃ cl,closureFor scope env=pure cl/\(∀ x c,cl.lookup x=some c->env.cells.lookup x=some c)/\(∀ y∈scope.names,y.2 = .free->∃ c,cl.lookup y.1=some c):=by
 obtain ⟨cl,e1,e2,e3,_⟩:=Jj scope.names [] hf (fun x c e=>by simp at e);refine ⟨cl,?_,e2,e3⟩;unfold closureFor;simp only [bind_pure_comp,map_pure] at *;first
  | exact e1
  | (rw [e1];rfl)
  | (simp only [bind_pure];exact e1)
theorem Zc {names:List (Str×NameKind)}{x:Str}{k:NameKind}(h:names.lookup x=some k):(x,k)∈names:=PySem.mem_of_lookup h
theorem JS {env:Env}:∀ {names:List (Str×NameKind)}{x:Str}{k:NameKind},
  (names.map fun (n,k)=>if (k == NameKind.free && env.scope.kind == .function && env.kindOf n == some .cell) then (n,NameKind.cell) else (n,k)).lookup x=some k →
  ∃ k',names.lookup x=some k'/\(k=k'\/(k' = .free/\k = .cell))
 | [],_,_,h=>by simp at h
 | (n,k0)::r,x,k,h=>by
  cases hx:x == n with
  | true =>
   by_cases hc:(k0 == NameKind.free && env.scope.kind == .function && env.kindOf n == some .cell)=true
   .simp only [List.map_cons,if_pos hc,List.lookup_cons,hx] at h;have hk:k0 = .free:=by
     simp only [Bool.and_eq_true,beq_iff_eq] at hc;exact hc.1.1
    exact ⟨k0,by simp [List.lookup_cons,hx],.inr ⟨hk,(Option.some.inj h).symm⟩⟩
   .simp only [List.map_cons,if_neg hc,List.lookup_cons,hx] at h;exact ⟨k0,by simp [List.lookup_cons,hx],.inl (Option.some.inj h).symm⟩
  | false =>
   have h':(r.map fun (n,k)=>if (k == NameKind.free && env.scope.kind == .function && env.kindOf n == some .cell) then (n,NameKind.cell) else (n,k)).lookup x=some k:=by
    by_cases hc:(k0 == NameKind.free && env.scope.kind == .function && env.kindOf n == some .cell)=true
    .simp only [List.map_cons,if_pos hc,List.lookup_cons,hx] at h;exact h
    .simp only [List.map_cons,if_neg hc,List.lookup_cons,hx] at h;exact h
   obtain ⟨k',e,q⟩:=JS h';exact ⟨k',by simp [List.lookup_cons,hx];exact e,q⟩
def Ifs (X:Cx) (ifs:List Expr) (tt:TT):Prop :=
 ∀ (pins:List (Addr×Obj)) (s:Shared) (σ:St) (H:Hp) (Q:Bool->Hp->Prop),Inv X pins σ H s->tt σ H Q →
  wpAny (model X.prog X.w) X.A (forIn ifs true fun c r=>if r=true then do let ok <- isTrue c X.env (eval c X.env);pure (ForInStep.yield ok) else pure (ForInStep.yield r)) (TP X pins σ Q) X.xe s
def tYes:TT:=fun _ H Q=>Q true H
theorem qiO {X:Cx}:Ifs X [] tYes:=fun pins s σ H Q I h=>wpAny_tests_nil ⟨H,I,h⟩
theorem qiN {X:Cx}{c:Expr}{t:TT}(h:PT X c t):Ifs X [c] t:=fun pins s σ H Q I q=>wpAny_tests_one (h pins s σ H Q I q)
def qgz (k:Nat) (g:TG) (tt:TT) (te:TE) (σ:St) (Q:VK) (J:It) (H1:Hp):Prop:=∃ W:Nat->Nat->List V->St->Hp->Prop,(∃ m,W 0 m [] (σ++List.replicate k none) H1)/\∀ i m ys σ' H,W i m ys σ' H →
 (J.stop i H/\∀ D,H D=none->Q (.ref D) (upd H D (.lst ys))) ∨
 (J.go i H/\ys.length<sizeLine/\∃ N:List V->St->Hp->Prop,(∀ ys' σ' H',N ys' σ' H'->∃ m',m'<m/\W (i+1) m' ys' σ' H') ∧
  ∀ x H',J.yld i H x H'->g x σ' H' fun σ2 H2=>tt σ2 H2 fun b H3=>if b=true then te σ2 H3 fun y H4=>N (ys++[y]) σ2 H4 else N ys σ2 H3)
def qhF (k:Nat) (wi:TI) (g:TG) (tt:TT) (te:TE):TE:=fun σ H Q=>wi σ H (qgz k g tt te σ Q)
section
variable {prog:Program}{w:World}{A:Around}{R:Result->Shared->Prop}{s:Shared}
theorem Jq {elt target iter:Expr}{ifs:List Expr}{scope:Scope}{pos:Pos}{it acc:Value}{env:Env}(I:Nat->Shared->Prop)
  (turn:∀ n s,I n s->wpAny (model prog w) A (pyNext it) (fun r sa1=>match r with
   | none=>R (.ok .next) sa1
   | some v=>wpAny (model prog w) A (letOwnedTupleGo target it v) (fun _ sa1'=>wpAny (model prog w) A (assign target env v) (fun _ sa2 =>
     wpAny (model prog w) A (forIn ifs true fun c r=>if r=true then do let ok <- isTrue c env (eval c env);pure (ForInStep.yield ok) else pure (ForInStep.yield r)) (fun ok sa3 =>
      if ok=true then wpAny (model prog w) A (eval elt env) (fun x sa4 =>
       wpAny (model prog w) A (call (.builtin "list.append") [acc,x]) (fun _ sa5=>∃ m,m<n/\I m sa5) (fun _ _=>False) sa4) (fun _ _=>False) sa3
      else ∃ m,m<n/\I m sa3) (fun _ _=>False) sa2) (fun _ _=>False) sa1') (fun _ _=>False) sa1) (fun _ _=>False) s)
  (n:Nat) (h:I n s) :
  codeAny (model prog w) A (.compLoop (.ListComp elt [⟨target,iter,ifs,0⟩] scope pos) 0 it acc env) R s:=by
 refine codeAny_loop rfl I (fun n s hI=>?_) n h;show wpAny _ A ((compTurn (.ListComp elt [⟨target,iter,ifs,0⟩] scope pos) 0 it acc env).onRaise (fun x=>do noteFrame x env;theTreesLotGoes x)) _ _ s;refine wpAny_noted ?_;rw [compTurn_list];refine qa (yS (qa (qp (turn n s hI) (fun r sa1 hd1=>?_) fun _ _ h'=>h'.elim)));cases r with
 | none=>exact qc hd1
 | some v =>
  refine qa (qp hd1 (fun _ sa1' ha1'=>?_) fun _ _ h'=>h'.elim);refine qa (qp ha1' (fun _ sa2 ha2=>qa (qp ha2 (fun ok sa3 ha3=>?_) fun _ _ h'=>h'.elim)) fun _ _ h'=>h'.elim);cases ok with
  | false=>exact qc ⟨rfl,ha3⟩
  | true =>
   exact qa (qa (qp ha3 (fun x sa4 ha4=>qa (qp ha4 (fun _ sa5 ha5=>qc (qc ⟨rfl,ha5⟩)) fun _ _ h'=>h'.elim)) fun _ _ h'=>h'.elim))
end
section
variable {X:Cx}
theorem ZU {pins:List (Addr×Obj)}{σ:St}{H:Hp}{sa2:Shared}{L:List Str}{scope:Scope}{cl:List (Str×Addr)}{C:Addr}{fp:List Addr}{sc:Scope}{N:List Str}
  (I:Inv X pins σ H sa2) (hsc:X.env.scope=sc) (hN:X.N=N) (ok:jf sc N L scope=true) (hc1:∀ x c,cl.lookup x=some c->X.env.cells.lookup x=some c)
  (hc2:∀ y∈scope.names,y.2 = .free->∃ c,cl.lookup y.1=some c) (hf:∀ b∈fp,Jl X pins H b) (hlt:∀ b∈fp,b<sa2.heap.objs.size) (hC:sa2.heap.objs.size<=C) :
  (qo X L scope cl C sa2 H fp).Ok where
 mod:=I.ok.mod
 kind:=(show scope.kind = .function from yM ok)
 glob:=I.ok.glob
 blt:=I.ok.blt
 above:=hC
 inj:=fun x y c h1 h2=>I.ok.inj x y c (hc1 x c h1) (hc1 y c h2)
 has:=fun x hx=>by
  have hx':∃ k,(relabel scope X.env).names.lookup x=some k/\(k = .cell\/k = .free):=by
   rcases hx with h | h
   .exact ⟨_,h,.inl rfl⟩
   .exact ⟨_,h,.inr rfl⟩
  obtain ⟨k,e,hk⟩:=hx';obtain ⟨k',e',q⟩:=JS e;have hm:=Zc e';have nc:=(yB ok hm).1;have hfree:k' = .free:=by
   rcases q with q | q
   .rcases hk with hk | hk
    .exact absurd (q.symm.trans hk) nc
    .exact q.symm.trans hk
   .exact q.1
  exact hc2 (x,k') hm hfree
 cab:=fun x c h _=>by cases h
 hd:=I.ok.hd
 frames:=I.ok.frames
 stk:=.inl rfl
 exf:=fun b hb=>⟨qg (qu (hlt b hb) hC),fun x c e=>(hf b hb).2.2.2.2.1 x c (hc1 x c e)⟩
 bs:=I.bs
 bsz:=qq I.ok.bsz I.sz
 noex:=fun b o e hb=>by
  rcases (hf b hb).2.2.2.1 with z | z
  .exact I.ok.noex b o e z
  .exact absurd (qu (qi (I.ok.bs b o e).1) z) (ye _)
 exfs:=fun b hb z=>by
  rcases List.mem_cons.mp (I.stkSub b z) with q | q
  .exact (hf b hb).2.1 q
  .exact (hf b hb).2.2.1 q
 funs:=I.stack
 frf:=I.stkFree
theorem Jo {pins:List (Addr×Obj)}{σ:St}{H:Hp}{sa2 sa4:Shared}{L:List Str}{scope:Scope}{cl:List (Str×Addr)}{C:Addr}{fp:List Addr}{sc:Scope}{N:List Str}{m:Str->Option Value}
  (I:Inv X pins σ H sa2) (hsc:X.env.scope=sc) (hN:X.N=N) (ok:jf sc N L scope=true) (hc1:∀ x c,cl.lookup x=some c->X.env.cells.lookup x=some c)
  (Y:(qo X L scope cl C sa2 H fp).Ok) (hC:sa2.heap.objs.size<=C) (hos:sa4.os=sa2.os) (hg:AllBare sa4.gens)
  (old:∀ b o,sa2.heap.get? b=some o->sa4.heap.get? b=some o) (hns:sa4.heap.Ns C m):Inv (qo X L scope cl C sa2 H fp) [] (σ++List.replicate L.length none) H sa4 where
 ok:=Y
 os:=hos
 bare:=hg
 base:=Un.kept old
 loc:=by
  refine ⟨m,hns,fun i x v e1 e2 e3=>?_⟩;have hl:σ.length=X.N.length:=I.len;have hi:i<σ.length:=by
   by_cases h:i<σ.length
   .exact h
   .rw [qS (by omega),yF] at e2;split at e2 <;> cases e2
  rw [qv hi] at e2;have e1':X.N[i]?=some x:=by
   have:(X.N++L)[i]?=some x:=e1;rwa [qv (by omega)] at this
  have e3':∃ k,(relabel scope X.env).names.lookup x=some k/\(k = .local\/k = .cell\/k = .free):=by
   rcases e3 with h | h | h
   .exact ⟨_,h,.inl rfl⟩
   .exact ⟨_,h,.inr (.inl rfl)⟩
   .exact ⟨_,h,.inr (.inr rfl)⟩
  obtain ⟨k,ek,hk⟩:=e3';obtain ⟨k',e',q⟩:=JS ek;have hm:=Zc e';obtain ⟨nc,nl,fr⟩:=yB ok hm;have hk':k' = .free:=by
   rcases q with q | q
   .rcases hk with hk | hk | hk
    .have hl':k' = .local:=q.symm.trans hk;exact absurd (hN ▸ List.mem_of_getElem? e1') (nl hl').2
    .exact absurd (q.symm.trans hk) nc
    .exact q.symm.trans hk
   .exact q.1
  have hX:X.env.kindOf x=some .cell\/X.env.kindOf x=some .free:=by
   have:=fr hk';rw [<- hsc] at this;exact this
  obtain ⟨ma0,hn0,hl0⟩:=I.loc;obtain ⟨u,r,look⟩:=hl0 i x v e1' e2 (.inr hX);refine ⟨u,r,.inr ⟨?_,?_⟩⟩
  .show (relabel scope X.env).names.lookup x=some .cell\/(relabel scope X.env).names.lookup x=some .free;rcases hk with hk | hk | hk
   .exfalso;rcases q with q | q
    .rw [hk] at q;rw [hk'] at q;cases q
    .rw [hk] at q;exact nomatch q.2
   .exact .inl (hk ▸ ek)
   .exact .inr (hk ▸ ek)
  .rcases look with ⟨z,_⟩ | ⟨_,c,ec,hcell⟩
   .exfalso;rcases hX with h | h <;> rw [h] at z <;> cases z
   .obtain ⟨c',ec'⟩:=Y.has x (by
     rcases hk with hk | hk | hk
     .exfalso;rcases q with q | q
      .rw [hk] at q;rw [hk'] at q;cases q
      .rw [hk] at q;exact nomatch q.2
     .exact .inl (hk ▸ ek)
     .exact .inr (hk ▸ ek))
    have hcl:cl.lookup x=some c':=ec';have:c'=c:=Option.some.inj ((hc1 x c' hcl).symm.trans ec);subst this;refine ⟨c',hcl,?_⟩;obtain ⟨o,ho,hd⟩:=hcell;exact ⟨o,old _ _ ho,hd⟩
 cell:=fun x c e=>by
  obtain ⟨v,o,ho,hd⟩:=I.cell x c (hc1 x c e);exact ⟨v,o,old _ _ ho,hd⟩
 free:=I.hok.fresh hC
 freeC:=fun x c e=>I.freeC x c (hc1 x c e)
 pin:=fun p hp=>absurd (show p∈([]:List (Addr×Obj)) from hp) (by simp)
 hok:=I.hok.kept old
 len:=by
  show _=(X.N++L).length;have hl:σ.length=X.N.length:=I.len;simp [hl]
theorem qaP {pins:List (Addr×Obj)}{σ σ':St}{H H':Hp}{sa2 s':Shared}{L:List Str}{scope:Scope}{cl:List (Str×Addr)}{fp:List Addr}{its:List Value}{ys:List V}{D C:Addr}{n:Nat}{pl:List (Addr×Obj)}
  (I:Inv X pins σ H sa2) (hf:∀ b∈fp,Jl X pins H b) (hD:sa2.heap.objs.size=D)
  (J:Inv (qo X L scope cl C sa2 H fp) pl σ' H' s') (hpD:s'.heap.get? D=some { cls:=.type "list",data:=.seq its.toArray n }) (hHD:H' D=none) (hv:yy ys its) (hz:ys.length<=sizeLine) :
  Inv X pins σ (upd H' D (.lst ys)) s':=by
 have B:Un (frs X.stack) fp H H' sa2.heap s'.heap:=J.base;have neD:∀ b o,sa2.heap.get? b=some o->b≠D:=fun b o e=>by rw [<- hD];exact qg (qi e)
 refine I.call' (ch:=fp) J.os ⟨B.keep,B.slot,fun b o e hn hx=>?_,B.there,fun b xs e=>?_,fun b o u e=>?_,fun b ps e=>?_⟩ (fun b o e=>?_) J.bare (fun b hb=>⟨(hf b hb).2.2.2.1,(hf b hb).2.1,(hf b hb).2.2.2.2.1,(hf b hb).2.2.2.2.2⟩)
 .rw [qC (neD b o e)];exact B.free b o e hn hx
 .have:=B.tups b xs e;rw [qC (qt this hHD)];exact this
 .have:=B.frzs b o u e;rw [qC (qt this hHD)];exact this
 .obtain ⟨more,this⟩:=B.tbls b ps e;exact ⟨more,by rw [qC (qt this hHD)];exact this⟩
 .by_cases hb:b=D
  .subst hb;rw [qE] at e;cases e
   exact ⟨hz,its,n,hv,hpD⟩
  .rw [qC hb] at e;exact (J.hok b o e).stay (fun _ _ _ q=>q) (fun c q=>by rw [qC (qt q hHD)];exact q) fun c xs q=>by rw [qC (qt q hHD)];exact q
theorem qcM {pins:List (Addr×Obj)}{σ:St}{H:Hp}{sa2:Shared}{L:List Str}{scope:Scope}{cl:List (Str×Addr)}{fp:List Addr}{sc:Scope}{N:List Str}{tg elt iter:Expr}{ifs:List Expr}{pos:Pos}
  {g:TG}{tt:TT}{te:TE}{Q:VK}{J:It}{it:Addr}{tn:Nat->Heap->Prop}{RR:Value->Addr->Result->Shared->Prop}{E:Value->Shared->Prop}
  (hc:X.calm=true) (hsc:X.env.scope=sc) (hN:X.N=N) (ok:jf sc N L scope=true) (hc1:∀ x c,cl.lookup x=some c->X.env.cells.lookup x=some c)
  (hc2:∀ y∈scope.names,y.2 = .free->∃ c,cl.lookup y.1=some c)
  (hg:∀ cl C sa2 Ha2 fp,PG (qo X L scope cl C sa2 Ha2 fp) tg g) (hi:∀ cl C sa2 Ha2 fp,Ifs (qo X L scope cl C sa2 Ha2 fp) ifs tt) (he:∀ cl C sa2 Ha2 fp,PE (qo X L scope cl C sa2 Ha2 fp) elt te)
  (I:Inv X pins σ H sa2) (T:Turn X.prog X.w X.K tg J fp it tn) (st:tn 0 sa2.heap) (hf:∀ b∈fp,Jl X pins H b) (hw:qgz L.length g tt te σ Q J H)
  (hR:∀ D C m H' s' ys,s'.heap.Ns C m->sa2.heap.objs.size=D->sa2.heap.objs.size<C->H' C=none->D≠C->Inv X pins σ (upd H' D (.lst ys)) s'->Q (.ref D) (upd H' D (.lst ys))->RR (.ref D) C (.ok .next) s') :
  wpAny (model X.prog X.w) X.A (newList []) (fun acc sa3=>wpAny (model X.prog X.w) X.A (newFunctionEnv scope X.env.globals cl [] X.env.qual none .none (some X.env)) (fun cenv sa4 =>
   codeAny (model X.prog X.w) X.A (.compStart (.ListComp elt [⟨tg,iter,ifs,0⟩] scope pos) 0 (.ref it) acc { cenv with scope:=relabel scope X.env }) (RR acc cenv.locals) sa4) E sa3) E sa2:=by
 refine yb (wpAny_newFunctionEnv (fun y hy=>(yB ok hy).1) (by intro y hy;simp at hy) (fun hd1 hns1 hsb1=>?_) (yM ok));dsimp only at hns1 hsb1 ⊢;generalize hH2:sa2.heap.push { cls:=.type "list",dict:=none,data:=.seq ([]:List Value).toArray }=H2 at hns1 hsb1 ⊢;have hC:H2.objs.size=sa2.heap.objs.size+1:=by rw [<- hH2,qV]
 have hCle:sa2.heap.objs.size<=H2.objs.size:=by rw [hC];exact Nat.le_succ _
 have hDC:sa2.heap.objs.size≠H2.objs.size:=by rw [hC];exact qg (qZ _)
 have hlt:∀ b∈fp,b<sa2.heap.objs.size:=fun b hb=>by
  obtain ⟨o,e,_⟩:=T.obj 0 _ st b hb;exact qi e
 have below:∀ b,b<sa2.heap.objs.size->b≠H2.objs.size:=fun b hb=>by rw [hC];exact qg (qT hb)
 have old:∀ b o,sa2.heap.get? b=some o->hd1.get? b=some o:=fun b o e=>hsb1.extBut b o (below b (qi e)) (qb _ (hH2 ▸ qb _ e));have hacc:hd1.get? sa2.heap.objs.size=some { cls:=.type "list",data:=.seq ([]:List Value).toArray 0 }:=hsb1.extBut _ _ hDC (qb _ (hH2 ▸ qj _ rfl));have Yok:=ZU (L:=L) (scope:=scope) (cl:=cl) (C:=H2.objs.size) (fp:=fp) I hsc hN ok hc1 hc2 hf hlt hCle;generalize hDn:sa2.heap.objs.size=D at *;generalize hCn:H2.objs.size=C at *;have sat1:tn 0 hd1:=T.keep _ _ _ st fun b _ o e=>old b o e
 -- the block's own iterators
 have cellD:∀ x c,cl.lookup x=some c->c≠D:=fun x c e=>by
  obtain ⟨v,q⟩:=I.cell x c (hc1 x c e);rw [<- hDn];exact qg q.lt
 have fpY:∀ {H':Hp}{its:List Value}{n:Nat},(∀ b∈fp,H' b=none)->∀ b∈fp,Jl (qo X L scope cl C sa2 H fp) [(D,{ cls:=.type "list",data:=.seq its.toArray n })] H' b:=fun {H' its n} hn b hb=>by
  refine ⟨hn b hb,(Yok.exf b hb).1,Yok.exfs b hb,.inl hb,(Yok.exf b hb).2,fun p hp=>?_⟩;have e:p=(D,{ cls:=.type "list",data:=.seq its.toArray n }):=by
   have:p∈[(D,({ cls:=.type "list",data:=.seq its.toArray n }:Obj))]:=hp;simpa using this
  subst e;exact Ne.symm (qg (hlt b hb))
 have nfsD:D∉(qo X L scope cl C sa2 H fp).fs:=fun z=>by
  obtain ⟨_,o,ho,_⟩:=Yok.funs.mem z;exact absurd (show D<sa2.heap.objs.size from qi ho) (by rw [hDn];exact ye _)
 have pinD:∀ {σ':St}{H':Hp}{s':Shared}{pl:List (Addr×Obj)}{its:List Value}{n:Nat},Inv (qo X L scope cl C sa2 H fp) pl σ' H' s'->s'.heap.get? D=some { cls:=.type "list",data:=.seq its.toArray n }->H' D=none →
   Inv (qo X L scope cl C sa2 H fp) [(D,{ cls:=.type "list",data:=.seq its.toArray n })] σ' H' s':=fun {σ' H' s' pl its n} J e hn=>J.pins_of fun p hp=>by
  have e':p=(D,{ cls:=.type "list",data:=.seq its.toArray n }):=by simpa using hp
  subst e';exact ⟨e,hn,hDC,nfsD,fun v z=>by cases z⟩
 have Ia1:Inv (qo X L scope cl C sa2 H fp) [] (σ++List.replicate L.length none) H { sa2 with heap:=hd1,toks:=sa2.toks+([]:List (Str×Value)).length } :=
  Jo I hsc hN ok hc1 Yok (by rw [hDn];exact hCle) rfl I.bare old hns1
 have HD:H D=none:=I.hok.fresh (by rw [hDn];exact Nat.le_refl _);obtain ⟨W,⟨m0,w0⟩,turn⟩:=hw;have loop:codeAny (model X.prog X.w) X.A (.compLoop (.ListComp elt [⟨tg,iter,ifs,0⟩] scope pos) 0 (.ref it) (.ref D) (compEnvC scope cl C X.env)) (RR (.ref D) C)
   { sa2 with heap:=hd1,toks:=sa2.toks+([]:List (Str×Value)).length }:=by
  refine Jq (fun n s'=>∃ i ys its k σ' H',Inv (qo X L scope cl C sa2 H fp) [(D,{ cls:=.type "list",data:=.seq its.toArray k })] σ' H' s'/\yy ys its/\ys.length<=sizeLine/\tn i s'.heap/\(∀ b∈fp,H' b=none)/\W i n ys σ' H')
   ?_ m0 ⟨0,[],[],0,_,H,pinD Ia1 hacc HD,.nil,qB _,sat1,fun b hb=>(hf b hb).1,w0⟩
  rintro n s3 ⟨i,ys,its,k,σ3,H3,I3,hv3,hz3,st3,fr3,w3⟩;have hp3:=I3.pin (D,{ cls:=.type "list",data:=.seq its.toArray k }) (by simp);rcases turn i n ys σ3 H3 w3 with ⟨stop,q⟩ | ⟨go,hlen,Nx,hNx,step⟩
  .refine thn (T.done (qo X L scope cl C sa2 H fp) rfl rfl rfl hc i _ s3 σ3 H3 _ I3 (fpY fr3) st3 stop) fun r s4 ⟨hr,I4⟩=>?_;subst hr;have hp4:=I4.pin (D,{ cls:=.type "list",data:=.seq its.toArray k }) (by simp);obtain ⟨m4,hn4,_⟩:=I4.loc;exact hR D C m4 H3 s4 ys hn4 rfl (by rw [hC];exact qZ _) I4.free hDC (qaP I hf hDn I4 hp4.1 hp4.2.1 hv3 hz3) (q D hp4.2.1)
  .refine thn (T.item (qo X L scope cl C sa2 H fp) rfl rfl rfl hc i _ s3 σ3 H3 _ I3 (fpY fr3) st3 go) fun r s4 ⟨u,hr,h4⟩=>?_;subst hr;refine thn h4 fun _ s5 hq9=>?_;obtain ⟨x,H5,I5,r5,y5,st5,fr5⟩:=hq9;have I5':=I5.pinned (fpY fr5) (T.obj _ _ st5);refine thn (hg cl C sa2 H fp _ s5 σ3 H5 x u _ I5' r5 (step x H5 y5)) fun _ s6 hq9=>?_;obtain ⟨σ6,H6,I6,q6⟩:=hq9;refine thn (hi cl C sa2 H fp _ s6 σ6 H6 _ I6 q6) fun ok s7 hq9=>?_;obtain ⟨H7,I7,q7⟩:=hq9;have later:∀ {σ':St}{H':Hp}{s':Shared},Inv (qo X L scope cl C sa2 H fp) ([(D,{ cls:=.type "list",data:=.seq its.toArray k })]++jL fp s5.heap) σ' H' s' →
     tn (i+1) s'.heap/\(∀ b∈fp,H' b=none)/\s'.heap.get? D=some { cls:=.type "list",data:=.seq its.toArray k }/\H' D=none:=fun {σ' H' s'} J=>by
    refine ⟨T.keep _ _ _ st5 fun b hb o e=>(J.pin (b,o) (qh _ (qh _ (yq hb e)))).1,fun b hb=>?_,?_⟩
    .obtain ⟨o,e,d⟩:=T.obj _ _ st5 b hb;exact (J.pin (b,o) (qh _ (qh _ (yq hb e)))).2.1
    .have z:=J.pin (D,{ cls:=.type "list",data:=.seq its.toArray k }) (qh _ (qr _ (by simp)));exact ⟨z.1,z.2.1⟩
   cases ok with
   | false =>
    rw [if_neg (by simp)] at q7 ⊢;obtain ⟨m',hm',w'⟩:=hNx _ _ _ q7;obtain ⟨t1,t2,t3,t4⟩:=later I7;exact ⟨m',hm',i+1,ys,its,k,σ6,H7,pinD I7 t3 t4,hv3,hz3,t1,t2,w'⟩
   | true =>
    rw [if_pos rfl] at q7 ⊢;refine thn (he cl C sa2 H fp _ s7 σ6 H7 _ I7 q7) fun y s8 hq9=>?_;obtain ⟨v,H8,I8,r8,q8⟩:=hq9;obtain ⟨m',hm',w'⟩:=hNx _ _ _ q8;obtain ⟨t1,t2,t3,t4⟩:=later I8;refine append_at (hsz:=by rw [List.size_toArray,<- hv3.length];exact hz3) t3 fun h9 hs9 hD9=>?_;have nbD:∀ b∈fp,b≠D:=fun b hb=>qg (hlt b hb);have I9:Inv (qo X L scope cl C sa2 H fp) [] σ6 H8 { s8 with heap:=h9 }:=(I8.pins_of (pins':=[]) (fun p hp=>by simp at hp)).turned (it:=D) (t':=s8.toks) (fun b o hb e=>hs9.extBut b o hb e) t4 hDC
     (.inr (by show sa2.heap.objs.size<=D;rw [hDn];exact Nat.le_refl _)) cellD (fun p hp=>by
      have:p∈([]:List (Addr×Obj)):=hp;simp at this)
    refine ⟨m',hm',i+1,ys++[v],its++[y],k+1,σ6,H8,pinD I9 (by rw [hD9];simp) t4,hv3.append (.cons r8 .nil),by simp;omega,T.keep _ _ _ t1 fun b hb o e=>hs9.extBut b o (nbD b hb) e,t2,w'⟩
 exact codeAny_compStart_list loop (T.self _ 0 _ _ _ sat1 loop)
end
section
variable {X:Cx}
theorem qdX {L:List Str}{scope sc:Scope}{N:List Str}{tg elt iter:Expr}{ifs:List Expr}{pos:Pos}{wi:TI}{g:TG}{tt:TT}{te:TE}
  (hc:X.calm=true) (hsc:X.env.scope=sc) (hN:X.N=N) (ok:jf sc N L scope=true)
  (hi:PI X tg iter wi) (hg:∀ cl C sa2 Ha2 fp,PG (qo X L scope cl C sa2 Ha2 fp) tg g) (hf:∀ cl C sa2 Ha2 fp,Ifs (qo X L scope cl C sa2 Ha2 fp) ifs tt) (he:∀ cl C sa2 Ha2 fp,PE (qo X L scope cl C sa2 Ha2 fp) elt te)
  (hs:∀ x,foldedSetIterable iter X.env x=pure x:=by intro _;rfl) :
  PE X (.ListComp elt [⟨tg,iter,ifs,0⟩] scope pos) (qhF L.length wi g tt te):=by
 intro pins s σ H Q I h;obtain ⟨cl,hcl,hc1,hc2⟩:=jV (env:=X.env) (scope:=scope) fun y hy hfr=>by
  refine I.ok.has y.1 ?_;have z:=(yB ok hy).2.2 hfr;rw [<- hsc] at z;exact z
 rw [eval_ListComp];refine wpAny_comprehension_free (use:=none) rfl hs hcl (yM ok) (fun y hy hl=>((yB ok hy).2.1 hl).1) (thn (hi pins s σ H _ I h) fun v s1 h1=>thn h1 fun itv s2 h2=>?_);obtain ⟨it,fp,tn,J,H2,e,I2,T,st2,f2,hw⟩:=h2;subst e;refine qcM (RR:=fun acc C=>compPost (model X.prog X.w) X.A X.xe none (EP X pins σ Q) acc C) hc hsc hN ok hc1 hc2 hg hf he I2 T st2 f2 hw ?_;intro D C m H' s' ys hns hD hC hHC hDC J' q;refine ⟨m,hns,fun h'' hs''=>⟨.ref D,upd H' D (.lst ys),?_,rfl,q⟩⟩;have hsz:=I2.sz;refine J'.turned (it:=C) (t':=s'.toks) (fun b o hb e=>hs''.extBut b o hb e) (by rw [qC (Ne.symm hDC)];exact hHC) (Ne.symm (qg (yj I2.lt hC))) (.inr (qq hsz (qP hC))) (fun x c e=>?_) (fun p hp=>?_)
 .obtain ⟨v,z⟩:=I2.cell x c e;exact qg (yj z.lt hC)
 .exact qg (yj (qi (I2.pin p hp).1) hC)
end
section
variable {X:Cx}
def Big (i:Int):Prop:=i.natAbs<2 ^ 1000
theorem Big.of {i:Int}(b:Int) (hb:b<2 ^ 1000) (h1:-b<=i) (h2:i<=b):Big i:=by
 unfold Big;have:(i.natAbs:Int)<=b:=by omega
 have h3:(i.natAbs:Int)<2 ^ 1000:=Int.lt_of_le_of_lt this hb
 exact_mod_cast h3
theorem Big.bits {i:Int}(h:Big i):Builtin.Int.intBits i<=2 ^ 20:=by
 unfold Builtin.Int.intBits;by_cases h0:i.natAbs=0
 .have:i=0:=by omega
  subst this;decide
 .have:=(Nat.log2_lt h0).mpr h;split <;> omega
def qbH (i j:Int):Prop:=Big i/\Big j
theorem qbi:OpR X (binaryOp .Mult) (rI qbH fun i j=>.int (i * j)):=opI fun _ _ _ _ _ _ _ hc q=>mul_int q (IntMulOk.of_bits hc.1.bits hc.2.bits)
def qff (i j:Int):Prop:=j≠0/\Big j
theorem qfR:OpR X (binaryOp .FloorDiv) (rI qff fun i j=>.int (i.fdiv j)):=opI fun i j _ _ _ _ _ hc q=>floordiv_int hc.1 q (.inl (PyProof.noPylong_of_log2 (by
 by_cases h0:j.natAbs=0
 .rw [h0];decide
 .have:=(Nat.log2_lt h0).mpr hc.2;omega)))
end
mutual
inductive Is (K:W.Frag) (H:Hp):V->PyData->Prop
 | non:Is K H .non .none
 | bl (b:Bool):Is K H (.bl b) (.bool b)
 | int (i:Int):Is K H (.int i) (.int i)
 | str (x:Str):Is K H (.str x) (.str x)
 | lst {a:Addr}{xs:List V}{ds:List PyData}:SqL K H a xs->IsAll K H xs ds->Is K H (.ref a) (.list ds)
 | tup {a:Addr}{xs:List V}{ds:List PyData}:SqT K H a xs->IsAll K H xs ds->Is K H (.ref a) (.tuple ds)
 | dc {a:Addr}:H a=some (.dK [])->Is K H (.ref a) (.dict [])
inductive IsAll (K:W.Frag) (H:Hp):List V->List PyData->Prop
 | nil:IsAll K H [] []
 | cons {x:V}{xs:List V}{d:PyData}{ds:List PyData}:Is K H x d->IsAll K H xs ds->IsAll K H (x::xs) (d::ds)
end
theorem IsAll.ints {K:W.Frag}{H:Hp}:∀ ns:List Int,IsAll K H (ns.map V.int) (ns.map PyData.int)
 | []=>.nil
 | n::ns=>.cons (.int n) (IsAll.ints ns)
section
variable {X:Cx}{pins:List (Addr×Obj)}{σ:St}{H:Hp}{s:Shared}
mutual
theorem Is.reads (I:Inv X pins σ H s):∀ {x:V}{d:PyData}{u:Value},Is X.K H x d->jb x u->∃ as,Reads s.heap u d as
 | _,_,_,.non,r=>by cases r;exact ⟨_,.none⟩
 | _,_,_,.bl b,r=>by cases r;exact ⟨_,.bool b⟩
 | _,_,_,.int i,r=>by obtain ⟨t,rfl⟩:=r;exact ⟨_,.int i t⟩
 | _,_,_,.str i,r=>by obtain ⟨t,rfl⟩:=r;exact ⟨_,.str i t⟩
 | _,_,_,.lst hq hs,r=>by
  cases r
  obtain ⟨its,rv,pl,hz⟩:=I.list hq;obtain ⟨as,ra⟩:=IsAll.reads I hs rv;obtain ⟨o,ho,hc,n,hd⟩:=pl.isList;exact ⟨_,.list ho hc hd (by simpa using ra)⟩
 | _,_,_,.tup hq hs,r=>by
  cases r
  obtain ⟨its,rv,pl,hz⟩:=I.tuple hq;obtain ⟨as,ra⟩:=IsAll.reads I hs rv;obtain ⟨o,ho,hc,n,hd⟩:=pl;exact ⟨_,.tuple ho hc hd (by simpa using ra)⟩
 | _,_,_,.dc (a:=a) e,r=>by
  cases r
  obtain ⟨_,_,vs,kv,o,es,ep,h1,h2,h3,h4,h5,h6⟩:=(show ja X.prog X.w H s.heap a (.dK []) from I.hok a _ e);have hv:vs=[]:=by cases kv;rfl
  subst hv;have he:es.toList=[]:=by
   generalize es.toList=l at h5;cases h5
   rfl
  exact ⟨_,.dict h1 h2.1 h3 (by rw [he];exact .nil) (by rw [he];exact .nil)⟩
theorem IsAll.reads (I:Inv X pins σ H s):∀ {xs:List V}{ds:List PyData}{us:List Value},IsAll X.K H xs ds->yy xs us->∃ as,ReadsAll s.heap us ds as
 | _,_,_,.nil,r=>by cases r;exact ⟨_,.nil⟩
 | _,_,_,.cons h hs,r=>by
  cases r with
  | cons r1 r2 =>
   obtain ⟨as,ra⟩:=Is.reads I h r1;obtain ⟨bs,rb⟩:=IsAll.reads I hs r2;exact ⟨_,.cons ra rb⟩
end
end
section
variable {X:Cx}
def rEqD (K:W.Frag):R2:=fun x y H Q=>∃ d d',Is K H x d/\Is K H y d'/\SeqAt.shaped d=true/\SeqAt.shaped d'=true/\Q (.bl (PyData.eqv d d')) H
def rNeD (K:W.Frag):R2:=fun x y H Q=>∃ d d',Is K H x d/\Is K H y d'/\SeqAt.shaped d=true/\SeqAt.shaped d'=true/\Q (.bl (!PyData.eqv d d')) H
theorem qkx (hu:X.A.units+64<cLine):OpR X (compareOp .Eq) (rEqD X.K):=by
 intro pins s σ H x y v u Q I rx ry h;obtain ⟨d,d',h1,h2,h3,h4,q⟩:=h;obtain ⟨as,ra⟩:=h1.reads I rx;obtain ⟨bs,rb⟩:=h2.reads I ry;exact eq_dataH ra rb h3 h4 hu ⟨.bl _,H,I,rfl,q⟩
theorem qgX (hu:X.A.units+64<cLine):OpR X (compareOp .NotEq) (rNeD X.K):=by
 intro pins s σ H x y v u Q I rx ry h;obtain ⟨d,d',h1,h2,h3,h4,q⟩:=h;obtain ⟨as,ra⟩:=h1.reads I rx;obtain ⟨bs,rb⟩:=h2.reads I ry;exact ne_dataH ra rb h3 h4 hu ⟨.bl _,H,I,rfl,q⟩
theorem qly {bs:List Bool}{its:List Value}(r:yy (bs.map V.bl) its) {i:Nat}{v:Value}(e:its[i]?=some v):v = .bool (bs.getD i false):=by
 have hl:=r.length;rw [List.length_map] at hl;have hi:i<its.length:=(qk.mp e).1;have hb:(bs.map V.bl)[i]?=some (V.bl (bs.getD i false)):=by
  rw [List.getElem?_map];have:bs[i]?=some (bs.getD i false):=by rw [List.getD_eq_getElem?_getD,List.getElem?_eq_getElem (by omega)];rfl
  rw [this];rfl
 obtain ⟨u,eu,ru⟩:=r.get hb;rw [e] at eu;cases eu
 exact ru
theorem qdJ (bs:List Bool):(List.range bs.length).all (fun i=>bs.getD i false)=bs.all id:=by
 rw [Bool.eq_iff_iff];simp only [List.all_eq_true,List.mem_range,id];constructor
 .intro h b hb;obtain ⟨i,hi,rfl⟩:=List.mem_iff_getElem.mp hb;have:=h i hi;rwa [List.getD_eq_getElem?_getD,List.getElem?_eq_getElem hi] at this
 .intro h i hi;rw [List.getD_eq_getElem?_getD,List.getElem?_eq_getElem hi];exact h _ (qy hi)
theorem qgq (hc:X.calm=true):yG X (.builtin "all") (fun xs H Q=>∃ (p:Addr) (bs:List Bool),xs=[.ref p]/\SqL X.K H p (bs.map V.bl)/\Q (.bl (bs.all id)) H):=by
 intro pins s σ H xs us Q I r h;obtain ⟨p,bs,rfl,hq,q⟩:=h;obtain ⟨u,rfl,rx⟩:=Jt r;cases rx
 obtain ⟨its,rv,pl,hz⟩:=I.list hq;have hl:=rv.length;rw [List.length_map] at hl;refine call_all_walk (jv pl.isList ?_);have hlt:p<s.heap.objs.size:=by obtain ⟨o,e,_⟩:=pl.isList;exact qi e
 refine ⟨s.heap.objs.size,_,_,_,_,_,fun i=>bs.getD i false,rfl,Walks.list (A:=X.A.in1) (I.ok.hd hc) s.heap.objs.size p (qg hlt) its.toArray,⟨⟨_,qj _ rfl,rfl,rfl⟩,pl.isList.push _⟩,?_,fun h' tk k=>?_⟩
 .intro i v s Q E e hQ;have e':its[i]?=some v:=by simpa using e
  rw [qly rv e'];exact wpAny_truthy_bool hQ
 .rw [List.size_toArray,<- hl,qdJ];refine ⟨.bl _,H,I.kept (fun b o e=>k b o (fun hb=>?_) (qb _ e)),rfl,q⟩;have:b=s.heap.objs.size:=by simpa using hb
  exact absurd (this ▸ qi e) (ye _)
end
theorem Jk:bootBuiltins "len" = some (.builtin "len"):=by decide +kernel
theorem Zm:bootBuiltins "abs" = some (.builtin "abs"):=by decide +kernel
theorem YQ:bootBuiltins "max" = some (.builtin "max"):=by decide +kernel
theorem qlv:bootBuiltins "min" = some (.builtin "min"):=by decide +kernel
theorem qlx:bootBuiltins "all" = some (.builtin "all"):=by decide +kernel
theorem qe5:bootBuiltins "divmod" = some (.builtin "divmod"):=by decide +kernel
theorem jF:bootBuiltins "sorted" = some (.builtin "sorted"):=by decide +kernel
theorem j4:bootBuiltins "isinstance" = some (.builtin "isinstance"):=by decide +kernel
theorem qlw:bootBuiltins "int" = some (.type "int"):=by decide +kernel
theorem Yb:bootBuiltins "list" = some (.type "list"):=by decide +kernel
theorem qe4:bootBuiltins "set" = some (.type "set"):=by decide +kernel
def NoX (CX:CXT):Prop:=∀ o H s e s',CX o H s E0 e s'->False
theorem ZG:NoX CX0:=fun _ _ _ _ _ h=>h
theorem passN {CX:CXT}{X:Cx}(h:NoX CX):qfe CX X E0:=fun _ _ _ _ _ _ _ q=>(h _ _ _ _ _ q).elim
def Own (P:Program) (w:World) (K:W.Frag) (mg:Str->Option Value) (base:Heap) (CX:CXT) (k:Nat) (x:Str) (ps:List Str) (sp:Sp):Prop :=
 ∃ (f:Addr) (fd:FuncData),FnOk P w K mg base CX k f fd ps sp/\mg x=some (.ref f)/\W.keepIn K (.ref f)=true/\qcX K fd ps []
section
variable {X:Cx}{CX:CXT}{k:Nat}{x:Str}{ps:List Str}{sp:Sp}{e:Expr}{es:List Expr}{t:TA}{p pos:Pos}
theorem qkp (O:Own X.prog X.w X.K X.mg X.base CX k x ps sp) (hX:NoX CX) (hr:Room k X.A) (hg:Gl X x) (ha:PA X (e::es) t) (hdb:(x == ("__debug__" : Str))=false:=by decide)
  (he:starEach (e::es) X.env=(false,eval e X.env)::starEach es X.env:=by rfl) (hpl:(backTo pos (starEach es X.env)).any (·.1)=false:=by rfl):PE X (.Call (.Name x p) (e::es) [] pos) (qjK sp [] E0 t):=by
 obtain ⟨f,fd,F,hm,hk,hb⟩:=O;exact qij F hr hg hm hk hb .nil (passN hX) ha hdb he hpl
end
section
variable {P:Program}{w:World}{K:W.Frag}{mg:Str->Option Value}{base:Heap}{CX:CXT}
theorem Fun.okG {x qual:Str}{st:Stmt}{f:Addr}{fd:FuncData}{N ps:List Str}{k:Nat}{sp:Sp}(F:Fun K x qual st f fd) (S:FnScope N ps (qx st)) (len:∀ vs H Q E,sp vs H Q E->vs.length=ps.length)
  (hbody:∀ (cdv:Value) (A:Around) (outer:List Env) (s:Shared) (H:Hp) (vs:List V) (Q:VK) (E:XK),Room k (A.deeper (envOfC qual (qx st) s.heap.objs.size f cdv))->sp vs H Q E →
   ∃ t,PSs (qhg CX P w K mg base N qual (qx st) f cdv A outer s H E).nox (jE st) t/\t { nx:=fun _ H'=>Q .non H',rt:=Q } (qaa N vs) H):FnOk P w K mg base CX (k+1) f fd ps sp:=by
 obtain ⟨oc,od,kV,doc,pm,an,cdv,ct,osl,rfl,lk,hcd⟩:=F.ex;refine qkT lk hcd S len fun A outer s H vs Q E hr hsp=>?_;obtain ⟨t,h,q⟩:=hbody cdv A outer s H vs Q E hr hsp;exact ⟨t,h.nox,q⟩
end
def Pot (M:Int) (H:Hp) (p:Addr):Prop:=∃ p0 p1:Int,H p=some (.lst [.int p0,.int p1])/\0<=p0/\0<=p1/\p1<M
def Stp (p:Addr) (H H':Hp):Prop:=∀ b o,H b=some o->b≠p->H' b=some o
theorem Stp.trans {p:Addr}{H H1 H2:Hp}(a:Stp p H H1) (b:Stp p H1 H2):Stp p H H2:=fun c o e n=>b c o (a c o e n) n
theorem Stp.upd {p:Addr}{H:Hp}{o:HO}:Stp p H (upd H p o):=fun b u e n=>by rw [qC n];exact e
theorem yd.stp {p:Addr}{H H':Hp}(h:yd H H'):Stp p H H':=fun b o e _=>h b o e
theorem yd.upd {p:Addr}{H:Hp}{o:HO}(h:H p=none):yd H (upd H p o):=fun b u e=>by rw [qC (qt e h)];exact e
abbrev Pt:=Int×Int
theorem Paired.get {Z β:Type}{R:Z->β->Prop}:∀ {xs:List Z}{ys:List β}{i:Nat}{x:Z},Paired R xs ys->xs[i]?=some x->∃ y,ys[i]?=some y/\R x y
 | _,_,_,_,.nil,e=>by simp at e
 | _,_,0,_,.cons r _,e=>by simp at e;subst e;exact ⟨_,rfl,r⟩
 | _,_,i+1,x,.cons _ t,e=>by
  obtain ⟨u,h1,h2⟩:=Paired.get (i:=i) (x:=x) t (by simpa using e);exact ⟨u,by simpa using h1,h2⟩
theorem Paired.get' {Z β:Type}{R:Z->β->Prop}:∀ {xs:List Z}{ys:List β}{i:Nat}{y:β},Paired R xs ys->ys[i]?=some y->∃ x,xs[i]?=some x/\R x y
 | _,_,_,_,.nil,e=>by simp at e
 | _,_,0,_,.cons r _,e=>by simp at e;subst e;exact ⟨_,rfl,r⟩
 | _,_,i+1,x,.cons _ t,e=>by
  obtain ⟨u,h1,h2⟩:=Paired.get' (i:=i) (y:=x) t (by simpa using e);exact ⟨u,by simpa using h1,h2⟩
theorem Paired.len {Z β:Type}{R:Z->β->Prop}{xs:List Z}{ys:List β}(h:Paired R xs ys):xs.length=ys.length:=PySem.Paired.length h
def ptD (q:Pt):PyData:=.tuple [.int q.1,.int q.2]
theorem YD:∀ ns:List Int,PyData.canLayAll0 (ns.map PyData.int)=true
 | []=>by simp [PyData.canLayAll0]
 | _::r=>by simp [PyData.canLayAll0,PyData.canLay0,YD r]
theorem Ze:∀ ns:List Int,PyData.depthAll (ns.map PyData.int)<=1
 | []=>by simp [PyData.depthAll]
 | _::r=>by
  have:=Ze r;simp only [List.map_cons,PyData.depthAll,PyData.depth];omega
theorem Yz:∀ ps:List Pt,PyData.canLayAll0 (ps.map ptD)=true
 | []=>by simp [PyData.canLayAll0]
 | _::r=>by simp [PyData.canLayAll0,PyData.canLay0,ptD,Yz r]
theorem Y8:∀ ps:List Pt,PyData.depthAll (ps.map ptD)<=3
 | []=>by simp [PyData.depthAll]
 | _::r=>by
  have:=Y8 r;simp only [List.map_cons,PyData.depthAll,PyData.depth,ptD];omega
theorem qbc (ns:List Int):SeqAt.shaped (.tuple (ns.map PyData.int))=true:=by
 have:=Ze ns;unfold SeqAt.shaped;rw [Bool.and_eq_true];refine ⟨by simp only [PyData.canLay0,YD],decide_eq_true ?_⟩;simp only [PyData.depth];omega
theorem qcu (ps:List Pt):SeqAt.shaped (.list (ps.map ptD))=true:=by
 have:=Y8 ps;unfold SeqAt.shaped;rw [Bool.and_eq_true];refine ⟨by simp only [PyData.canLay0,Yz],decide_eq_true ?_⟩;simp only [PyData.depth];omega
theorem qhi {n:Int}(h1:-10000000000000000000000000000000000000000<=n) (h2:n<=10000000000000000000000000000000000000000):Big n:=Big.of 10000000000000000000000000000000000000000 (by decide) h1 h2
theorem sz2:2<=sizeLine:=by decide
section
variable {X:Cx}{K:W.Frag}
end
section
variable {P:Program}{w:World}{H:Hp}{h:Heap}{a:Addr}{o:HO}
theorem ja.has (x:ja P w H h a o):∃ ob,h.get? a=some ob:=by
 cases o with
 | lst xs=>obtain ⟨_,_,_,_,e⟩:=x;exact ⟨_,e⟩
 | tup xs=>obtain ⟨_,_,_,ob,e,_⟩:=x;exact ⟨_,e⟩
 | dK kvs=>obtain ⟨_,_,_,_,ob,_,_,e,_⟩:=x;exact ⟨_,e⟩
 | dT kvs=>obtain ⟨_,_,_,_,ob,_,_,e,_⟩:=x;exact ⟨_,e⟩
 | set S n=>obtain ⟨ob,_,_,_,e,_⟩:=x;exact ⟨_,e⟩
 | ins C dx fs=>obtain ⟨_,_,_,e,_⟩:=x;exact ⟨_,e⟩
 | own y=>exact x
 | xd fs=>obtain ⟨_,⟨_,_,_,e,_⟩,_⟩:=x;exact ⟨_,e⟩
 | rng lo hi=>obtain ⟨_,_,_,e⟩:=x;exact ⟨_,e⟩
 | frz ob u=>obtain ⟨e,_⟩:=x;exact ⟨_,e⟩
 | tbl ps=>exact ⟨_,(show h.get? a=some _ from x)⟩
 | met f y=>exact ⟨_,(show h.get? a=some _ from x)⟩
 | ext φ=>obtain ⟨_,e,_⟩:=x;exact e
end
section
variable {P:Program}{w:World}{K:W.Frag}{mg:Str->Option Value}{base:Heap}{N:List Str}{qual:Str}{scope:Scope}{f C:Addr}{cd:Value}{A:Around}{outer:List Env}{s:Shared}{H:Hp}{E:XK}
 {x:Str}{B newId initId:String}{bmB:List Value}{ea0:Expr}{rest:List Expr}{t:TA}{np cpos pos:Pos}
end
section
variable {X:Cx}{pins:List (Addr×Obj)}{σ:St}{H H':Hp}{s:Shared}
end
section
variable {X:Cx}
end
end L2
namespace L2
open PySem PySem.Spec PyProof.Rows PySem.W Builtin Builtin.ObjectAttr Builtin.Getset_descriptor
section
variable {prog:Program}{w:World}{A:Around}{E:Value->Shared->Prop}{K:Frag}{x C:Addr}
end
section
variable {K:Frag}{x C:Addr}
end
open PySem PySem.Spec PyProof.Rows
section
variable {X:Cx}{pins:List (Addr×Obj)}{σ:St}{H:Hp}{s:Shared}
theorem Inv.laidN {a:Addr}{o:HO}{h':Heap}{t':Nat}(I:Inv X pins σ H s) (k:∀ b u,s.heap.get? b=some u->h'.get? b=some u) (hp:s.heap.get? a=none) (new:ja X.prog X.w (upd H a o) h' a o) :
  H a=none/\Inv X pins σ (upd H a o) { s with heap:=h',toks:=t' }:=by
 have hn:H a=none:=by
  cases z:H a with
  | none=>rfl
  | some u =>
   obtain ⟨ob,e⟩:=(I.hok a u z).has;rw [hp] at e;cases e
 refine ⟨hn,I.un ⟨fun b u q _ _ _=>k b u q,fun b u q _ _ _=>⟨u.slots,k b u q⟩,fun b u q n _=>?_,fun b u q _=>⟨u,k b u q⟩,fun b xs q=>?_,fun b u xs q=>?_,fun b ps q=>?_⟩ fun b u e=>?_⟩
 .rw [qC (fun z=>by rw [z,hp] at q;cases q)];exact n
 .rw [qC (qt q hn)];exact q
 .rw [qC (qt q hn)];exact q
 .exact ⟨#[],by rw [qC (qt q hn),q];simp⟩
 .by_cases hb:b=a
  .subst hb;rw [qE] at e;cases e;exact new
  .rw [qC hb] at e;exact (I.hok b u e).stay (fun c v _ q=>k c v q) (fun c q=>by rw [qC (qt q hn)];exact q) fun c xs q=>by rw [qC (qt q hn)];exact q
end
section
variable {X:Cx}{K:W.Frag}{C:Addr}{x:Str}{e:Expr}{es:List Expr}{t:TA}{p pos:Pos}
end
section
variable {P:Program}{w:World}{K:W.Frag}{mg:Str->Option Value}{base:Heap}{CX:CXT}
end
section
variable {X:Cx}{CX:CXT}{k:Nat}{x:Str}{ps:List Str}{sp:Sp}{e:Expr}{es:List Expr}{t:TA}{p pos:Pos}
end
end L2
namespace L2
open PySem PySem.Spec PyProof.Rows PySem.W
structure Ord (f:Nat->Nat->Bool):Prop where
 asym:∀ a b,f a b=true->f b a=false
 neg:∀ a b c,f a c=true->f a b=true\/f b c=true
abbrev gD (p:Array Nat) (i:Nat):Nat:=p.getD i 0
section
variable {f:Nat->Nat->Bool}
theorem Ord.irr (O:Ord f) (a:Nat):f a a=false:=by
 cases h:f a a with
 | false=>rfl
 | true=>rw [O.asym a a h] at h;cases h
def qjw (f:Nat->Nat->Bool) (p:Array Nat) (k:Nat):Prop:=∀ i j,i<=j->j<k->f (gD p j) (gD p i)=false
def Arr (n:Nat) (p:Array Nat):Prop:=p.Perm (List.range n).toArray
theorem Arr.size {n:Nat}{p:Array Nat}(h:Arr n p):p.size=n:=by rw [h.size_eq];simp
section
variable {n:Nat}{cmp:Nat->Nat->(Bool->Shared->Prop)->Shared->Prop}{s:Shared}
end
end
end L2
namespace L2
open PySem PySem.Spec PyProof.Rows PySem.W
def qek (fin:Bool):List Int->List Int->Bool
 | x::r,y::t=>if x=y then qek fin r t else decide (x<y)
 | _,_=>fin
theorem qej:∀ ns ms:List Int,qek (decide (ns.length<ms.length)) ns ms=decide (ns<ms)
 | [],[]=>by simp [qek]
 | [],_::_=>by simp [qek]
 | _::_,[]=>by simp [qek]
 | x::r,y::t=>by
  have ih:=qej r t;simp only [qek,List.length_cons,Nat.add_lt_add_iff_right];by_cases e:x=y
  .subst e;rw [if_pos rfl,ih];simp [List.cons_lt_cons_iff]
  .rw [if_neg e];simp [List.cons_lt_cons_iff,e]
theorem qb5 {a b:List Int}(h:a<b):¬ b<a:=fun g=>List.lt_irrefl a (List.lt_trans h g)
theorem qee (ks:Nat->List Int):Ord fun i j=>decide (ks i<ks j) where
 asym a b h:=yc (qb5 (qN h))
 neg a b c h:=by
  have h:=qN h;by_cases e:ks a<ks b
  .exact .inl (decide_eq_true e)
  .exact .inr (decide_eq_true (List.lt_of_le_of_lt (List.not_lt.mp e) h))
def yY (h:Heap) (v:Value) (ks:List Int):Prop:=∃ b o xs n,v = .ref b/\h.get? b=some o/\o.cls = .type "tuple" /\ o.data = .seq xs n/\IntsAre xs.toList ks/\ks≠[]
theorem yY.kept {h h':Heap}{v:Value}{ks:List Int}(k:∀ b o,h.get? b=some o->o.cls = .type "tuple" -> h'.get? b=some o) (t:yY h v ks):yY h' v ks:=by
 obtain ⟨b,o,xs,n,e,ho,hc,r⟩:=t;exact ⟨b,o,xs,n,e,k b o ho hc,hc,r⟩
section
variable {prog:Program}{w:World}{A:Around}{E:Value->Shared->Prop}{s:Shared}
theorem qg0 {fin:Bool}{Q:Bool->Shared->Prop}:∀ {xs ys:List Value}{ns ms:List Int}(i:Nat),IntsAre xs ns->IntsAre ys ms->Q (qek fin ns ms) s->KatLex prog w A true fin Q (xs.zip ys) i s
 | _,_,_,_,i,.nil,_,q=>kat_nil (by simpa [qek] using q)
 | _,_,_,_,i,.cons _ _ _,.nil,q=>kat_nil (by simpa [qek] using q)
 | _,_,_,_,i,.cons x t hx,.cons y u hy,q=>by
  refine kat_cons (wpAny_eqBool_int ?_);by_cases e:x=y
  .subst e;rw [beq_self_eq_true];exact kat_yes (qg0 (i+1) hx hy (by simpa [qek] using q))
  .have hb:(x == y)=false:=by simpa using e
   rw [hb];have q':Q (decide (x<y)) s:=by simpa [qek,e] using q
   refine kat_no ?_;cases i with
   | zero=>exact oneLt_int q'
   | succ i=>exact kat_one _ _ (lt_int q')
theorem lt_wp {v u:Value}{ns ms:List Int}{Q:Bool->Shared->Prop}(h1:yY s.heap v ns) (h2:yY s.heap u ms) (q:Q (decide (ns<ms)) s):wpAny (model prog w) A (keyLt' (tuples' true) v u) Q E s:=by
 obtain ⟨a,o,xs,n,rfl,ho,_,hd,hi,_⟩:=h1;obtain ⟨b,o',ys,n',rfl,ho',_,hd',hi',_⟩:=h2;refine kat_lt ho hd ho' hd' (qg0 0 hi hi' ?_);have e1:=IntsAre.length hi;have e2:=IntsAre.length hi';simp only [Array.length_toList] at e1 e2;rw [e1,e2,qej];exact q
theorem Yr {h:Heap}:∀ {vs:List Value}{kss:List (List Int)},PySem.Paired (yY h) vs kss->∃ fs:List Value,KatTups h vs fs/\fs.length=vs.length/\∀ v∈fs,∃ i t,v = .int i t
 | _,_,.nil=>⟨[],trivial,rfl,fun _ z=>nomatch z⟩
 | _,_,.cons ⟨a,o,xs,n,e,ho,hc,hd,hi,hn⟩ r=>by
  obtain ⟨fs,k,hl,hf⟩:=Yr r;subst e;obtain ⟨l⟩:=xs;cases hi with
  | nil=>exact absurd rfl hn
  | cons i t hr =>
   refine ⟨.int i t::fs,KatTups.cons ho hc hd rfl k,by simp [hl],fun v hv=>?_⟩;rcases List.mem_cons.mp hv with rfl | hv
   .exact ⟨i,t,rfl⟩
   .exact hf v hv
theorem qeo {vs:List Value}{kss:List (List Int)}{Q:SortKind->Shared->Prop}(hT:PySem.Paired (yY s.heap) vs kss) (h2:0<vs.length) (q:Q (tuples' true) s):wpAny (model prog w) A (keyKind' vs.toArray) Q E s:=by
 obtain ⟨fs,k,hl,hf⟩:=Yr hT;refine kat_kind (T:=.type "int") k (by omega) (fun v hv=>?_) rfl q;obtain ⟨i,t,rfl⟩:=hf v hv;exact Looks.now
end
end L2
namespace L2
open PySem PySem.Spec PyProof.Rows PySem.W
structure OrdK (f:Keyed->Keyed->Bool):Prop where
 asym:∀ a b,f a b=true->f b a=false
 neg:∀ a b c,f a c=true->f a b=true\/f b c=true
section
variable {f:Keyed->Keyed->Bool}
theorem OrdK.irr (O:OrdK f) (a:Keyed):f a a=false:=by
 cases h:f a a with
 | false=>rfl
 | true=>rw [O.asym a a h] at h;cases h
theorem OrdK.le (O:OrdK f) {a b c:Keyed}(h1:f b a=false) (h2:f c b=false):f c a=false:=by
 cases h:f c a with
 | false=>rfl
 | true=>rcases O.neg _ b _ h with z | z <;> simp_all
theorem OrdK.ltl (O:OrdK f) {a b c:Keyed}(h1:f a b=true) (h2:f c b=false):f a c=true:=by
 rcases O.neg _ c _ h1 with z | z
 .exact z
 .rw [h2] at z;cases z
theorem OrdK.lel (O:OrdK f) {a b c:Keyed}(h1:f b a=false) (h2:f b c=true):f a c=true:=by
 rcases O.neg _ a _ h2 with z | z
 .rw [h1] at z;cases z
 .exact z
def SdK (f:Keyed->Keyed->Bool) (l:List Keyed):Prop:=l.Pairwise fun x y=>f y x=false
def Ask (prog:Program) (w:World) (A:Around) (E:Value->Shared->Prop) (s:Shared) (kd:SortKind) (D:Keyed->Prop) (f:Keyed->Keyed->Bool):Prop :=
 ∀ (x y:Keyed) (st:SortSt) (Q:Option Bool->SortSt->Prop),D x->D y->kindOf st=kd->Q (some (f x y)) st->wpS (model prog w) A E s (lt' x y) Q st
end
section
variable {prog:Program}{w:World}{A:Around}{E:Value->Shared->Prop}{s:Shared}{kd:SortKind}{D:Keyed->Prop}{f:Keyed->Keyed->Bool}
end
end L2
namespace L2
open PySem PySem.Spec PyProof.Rows PySem.W
section
variable {f:Keyed->Keyed->Bool}
end
section
variable {prog:Program}{w:World}{A:Around}{E:Value->Shared->Prop}{s:Shared}{kd:SortKind}{D:Keyed->Prop}{f:Keyed->Keyed->Bool}
end
section
variable {prog:Program}{w:World}{A:Around}{E:Value->Shared->Prop}{s:Shared}{kd:SortKind}{D:Keyed->Prop}{f:Keyed->Keyed->Bool}{a b:Array Keyed}
end
end L2
namespace L2
open PySem PySem.Spec PyProof.Rows PySem.W
section
variable {prog:Program}{w:World}{A:Around}{E:Value->Shared->Prop}{s:Shared}{kd:SortKind}{D:Keyed->Prop}{f:Keyed->Keyed->Bool}{a b:Array Keyed}
end
end L2
namespace L2
open PySem PySem.Spec PyProof.Rows PySem.W
abbrev kD (xs:Array Keyed) (i:Nat):Keyed:=xs.getD i (.none,.none)
theorem qes {xs ys:Array Keyed}{i j:Nat}(h:xs[i]?=ys[j]?):kD xs i=kD ys j:=by simp only [kD,Array.getD_eq_getD_getElem?,h]
theorem qeu {xs:Array Keyed}{i:Nat}(h:i<xs.size):xs[i]?=some (kD xs i):=by rw [Array.getElem?_eq_getElem h];simp [kD,Array.getD,h]
structure SV (lo:Nat) (st0 st:SortSt):Prop where
 kind:kindOf st=kindOf st0
 pend:pendingOf st=pendingOf st0
 fail:failedOf st=failedOf st0
 perm:(arrOf st).Perm (arrOf st0)
 pre:∀ k,k<lo->(arrOf st)[k]?=(arrOf st0)[k]?
theorem SV.refl (lo:Nat) (st:SortSt):SV lo st st:=⟨rfl,rfl,rfl,Array.Perm.refl _,fun _ _=>rfl⟩
theorem SV.size {lo:Nat}{st0 st:SortSt}(h:SV lo st0 st):(arrOf st).size=(arrOf st0).size:=h.perm.size_eq
theorem SV.trans {lo:Nat}{a b c:SortSt}(h:SV lo a b) (g:SV lo b c):SV lo a c:=⟨g.kind.trans h.kind,g.pend.trans h.pend,g.fail.trans h.fail,g.perm.trans h.perm,fun k hk=>(g.pre k hk).trans (h.pre k hk)⟩
def mir (xs:Array Keyed) (i j:Nat):Array Keyed:=mirror xs i j ((j - i) / 2)
theorem qet {xs:Array Keyed}{i j:Nat}(hj:j<=xs.size) (k:Nat):kD (mir xs i j) k=if i<=k/\k<j then kD xs (i+j - 1 - k) else kD xs k:=by
 have e:=getElem?_mirror_all (i:=i) hj k;unfold mir;by_cases h1:i<=k/\k<j
 .rw [if_pos h1] at e ⊢;exact qes e
 .rw [if_neg h1] at e ⊢;exact qes e
theorem SV.mir {lo:Nat}{st0 st:SortSt}(h:SV lo st0 st) {i j:Nat}(hi:lo<=i) (hj:j<=(arrOf st).size):SV lo st0 (setArr st (L2.mir (arrOf st) i j)):=by
 refine ⟨h.kind,h.pend,h.fail,(mirror_perm _ _ _ _).trans h.perm,fun k hk=>?_⟩;show (L2.mir (arrOf st) i j)[k]?=_;unfold L2.mir;rw [getElem?_mirror_all hj,if_neg (by omega)];exact h.pre k hk
section
variable {f:Keyed->Keyed->Bool}
def UpL (f:Keyed->Keyed->Bool) (lo:Nat) (p:Array Keyed) (k:Nat):Prop:=∀ i j,i<=j->j<k->f (kD p (lo+j)) (kD p (lo+i))=false
def DnL (f:Keyed->Keyed->Bool) (lo:Nat) (p:Array Keyed) (k:Nat):Prop:=∀ i j,i<=j->j<k->f (kD p (lo+i)) (kD p (lo+j))=false
def YR (f:Keyed->Keyed->Bool) (a b:Keyed):Prop:=f a b=false/\f b a=false
theorem YR.refl (O:OrdK f) (a:Keyed):YR f a a:=⟨O.irr a,O.irr a⟩
theorem YR.symm {a b:Keyed}(h:YR f a b):YR f b a:=⟨h.2,h.1⟩
theorem YR.trans (O:OrdK f) {a b c:Keyed}(h:YR f a b) (g:YR f b c):YR f a c:=⟨O.le g.1 h.1,O.le h.2 g.2⟩
theorem qkW (O:OrdK f) {a b c:Keyed}(h:YR f a b):f a c=f b c:=by
 cases h1:f b c with
 | true=>exact O.lel h.2 h1
 | false =>
  cases h2:f a c with
  | false=>rfl
  | true =>
   have:=O.lel h.1 h2;rw [h1] at this;cases this
theorem qkV (O:OrdK f) {a b c:Keyed}(h:YR f a b):f c a=f c b:=by
 cases h1:f c b with
 | true=>exact O.ltl h1 h.1
 | false =>
  cases h2:f c a with
  | false=>rfl
  | true =>
   have:=O.ltl h2 h.2;rw [h1] at this;cases this
theorem UpL.one (O:OrdK f) (lo:Nat) (p:Array Keyed):UpL f lo p 1:=fun i j h1 h2=>by
 have:i=j:=by omega
 subst this;exact O.irr _
theorem UpL.succ (O:OrdK f) {lo:Nat}{p:Array Keyed}{k:Nat}(h0:1<=k) (h:UpL f lo p k) (g:f (kD p (lo+k)) (kD p (lo+k - 1))=false):UpL f lo p (k+1):=fun i j hij hj=>by
 by_cases e:j=k
 .subst e;by_cases e2:i=j
  .subst e2;exact O.irr _
  .have:=h i (j - 1) (by omega) (by omega);rw [show lo+(j - 1)=lo+j - 1 by omega] at this;exact O.le this g
 .exact h i j hij (by omega)
theorem DnL.succ (O:OrdK f) {lo:Nat}{p:Array Keyed}{k:Nat}(h0:1<=k) (h:DnL f lo p k) (g:f (kD p (lo+k - 1)) (kD p (lo+k))=false):DnL f lo p (k+1):=fun i j hij hj=>by
 by_cases e:j=k
 .subst e;by_cases e2:i=j
  .subst e2;exact O.irr _
  .have:=h i (j - 1) (by omega) (by omega);rw [show lo+(j - 1)=lo+j - 1 by omega] at this;exact O.le g this
 .exact h i j hij (by omega)
theorem DnL.eqv (O:OrdK f) {lo:Nat}{p q:Array Keyed}{k:Nat}(h:DnL f lo p k) (e:∀ i,YR f (kD q i) (kD p i)):DnL f lo q k:=fun i j h1 h2=>by rw [qkW O (e _),qkV O (e _)];exact h i j h1 h2
theorem Zw (O:OrdK f) {p:Array Keyed}{i j:Nat}(hj:j<=p.size) (h:∀ a b,i<=a->a<j->i<=b->b<j->YR f (kD p a) (kD p b)) (k:Nat):YR f (kD (mir p i j) k) (kD p k):=by
 rw [qet hj];split
 .exact h _ _ (by omega) (by omega) (by omega) (by omega)
 .exact YR.refl O _
theorem UpL.ofRev {lo:Nat}{p:Array Keyed}{k:Nat}(hk:lo+k<=p.size) (h:DnL f lo p k):UpL f lo (mir p lo (lo+k)) k:=fun i j h1 h2=>by
 rw [qet hk,qet hk,if_pos (by omega),if_pos (by omega)];have:=h (k - 1 - j) (k - 1 - i) (by omega) (by omega);rw [show lo+(lo+k) - 1 - (lo+j)=lo+(k - 1 - j) by omega,show lo+(lo+k) - 1 - (lo+i)=lo+(k - 1 - i) by omega];exact this
end
def qlA (lo a nrem:Nat):StateT SortSt Sem (Option (Option Nat)×Nat) :=
 forIn [a:nrem] ((none,a):Option (Option Nat)×Nat) fun _ c=>do
  let x <- ltAt' (lo+c.2) (lo+c.2 - 1)
  match x with
  | some smaller=>if smaller=true then pure (ForInStep.done (none,c.2)) else pure (ForInStep.yield (none,c.2+1))
  | _=>pure (ForInStep.done (some none,c.2))
def Z8 (lo n nrem:Nat):StateT SortSt Sem (Option Nat):=do
 reverseSlice' lo (lo+n)
 let c <- qlA lo n nrem
 match c.1 with
 | some r=>pure r
 | none=>pure (some c.2)
def qgg (lo n nrem:Nat):StateT SortSt Sem (Option (Option Nat)×Nat×Nat) :=
 forIn [n:nrem] ((none,n,0):Option (Option Nat)×Nat×Nat) fun _ c=>do
  let x <- ltAt' (lo+c.2.1) (lo+c.2.1 - 1)
  match x with
  | some smaller =>
   if smaller=true then
    if c.2.2 > 0 then do
     reverseSlice' (lo+c.2.1 - (c.2.2+1)) (lo+c.2.1)
     pure (ForInStep.yield (none,c.2.1+1,0))
    else pure (ForInStep.yield (none,c.2.1+1,0))
   else do
    let y <- ltAt' (lo+c.2.1 - 1) (lo+c.2.1)
    match y with
    | some larger =>
     if larger=true then pure (ForInStep.done (none,c.2.1,c.2.2))
     else pure (ForInStep.yield (none,c.2.1+1,c.2.2+1))
    | _=>pure (ForInStep.done (some none,c.2.1,c.2.2))
  | _=>pure (ForInStep.done (some none,c.2.1,c.2.2))
def Je (lo n nrem:Nat):StateT SortSt Sem (Option Nat):=do
 liftM (rule "list.sort.descending-run")
 let c <- qgg lo (n+1) nrem
 match c.1 with
 | some r=>pure r
 | none =>
  if c.2.2 > 0 then do
   reverseSlice' (lo+c.2.1 - (c.2.2+1)) (lo+c.2.1)
   Z8 lo c.2.1 nrem
  else Z8 lo c.2.1 nrem
theorem qaO (lo nrem:Nat):countRun' lo nrem=(do
  let c <- qlA lo 1 nrem
  match c.1 with
  | some r=>pure r
  | none =>
   if (c.2 == nrem)=true then pure (some c.2)
   else if c.2 > 1 then do
    let x <- ltAt' lo (lo+c.2 - 1)
    match x with
    | some rose=>if rose=true then pure (some c.2) else do
      reverseSlice' lo (lo+c.2)
      Je lo c.2 nrem
    | _=>pure none
   else Je lo c.2 nrem):=by
 rw [countRun'_eq];unfold Je Z8 qgg qlA;dsimp only;congr 1;funext c
 obtain ⟨r,n⟩:=c;cases r with
 | some r=>rfl
 | none =>
  dsimp only;split
  .rfl
  .split
   .congr 1;funext x
    cases x with
    | none=>rfl
    | some rose =>
     dsimp only;split
     .rfl
     .congr 1;funext _r
      congr 1;funext _u
      congr 1;funext s2
      obtain ⟨r2,n2,q2⟩:=s2;cases r2 with
      | some r2=>rfl
      | none =>
       dsimp only;split
       .congr 1;funext _v
        congr 1;funext _w
        congr 1;funext s3
        obtain ⟨r3,n3⟩:=s3;cases r3 <;> rfl
       .congr 1;funext _w
        congr 1;funext s3
        obtain ⟨r3,n3⟩:=s3;cases r3 <;> rfl
   .congr 1;funext _u
    congr 1;funext s2
    obtain ⟨r2,n2,q2⟩:=s2;cases r2 with
    | some r2=>rfl
    | none =>
     dsimp only;split
     .congr 1;funext _v
      congr 1;funext _w
      congr 1;funext s3
      obtain ⟨r3,n3⟩:=s3;cases r3 <;> rfl
     .congr 1;funext _w
      congr 1;funext s3
      obtain ⟨r3,n3⟩:=s3;cases r3 <;> rfl
section
variable {prog:Program}{w:World}{A:Around}{E:Value->Shared->Prop}{s:Shared}{kd:SortKind}{D:Keyed->Prop}{f:Keyed->Keyed->Bool}{st0:SortSt}{lo nrem:Nat}
def qfg (D:Keyed->Prop) (st:SortSt):Prop:=∀ x∈(arrOf st).toList,D x
theorem qfg.of {st st':SortSt}(h:qfg D st) (p:(arrOf st').Perm (arrOf st)):qfg D st':=fun x hx=>h x ((jh.mp p).mem_iff.mp hx)
theorem Yq (hA:Ask prog w A E s kd D f) {st:SortSt}(hk:kindOf st=kd) (hD:qfg D st) {i j:Nat}(hi:i<(arrOf st).size) (hj:j<(arrOf st).size) {Q:Option Bool->SortSt->Prop}(q:Q (some (f (kD (arrOf st) i) (kD (arrOf st) j))) st):wpS (model prog w) A E s (ltAt' i j) Q st:=by
 rw [ltAt'_eq];refine yl (wpS_get ?_);show wpS _ _ _ _ (do let x <- elem' (arrOf st) i;let y <- elem' (arrOf st) j;lt' x y) Q st;rw [elem'_eq,elem'_eq,qeu hi,qeu hj];refine yl (yZ (yl (yZ ?_)));have mem:∀ i,i<(arrOf st).size->kD (arrOf st) i∈(arrOf st).toList:=fun i h=>by
  have e:kD (arrOf st) i=(arrOf st)[i]:=by simp [kD,Array.getD,h]
  rw [e];simp
 exact hA _ _ _ _ (hD _ (mem i hi)) (hD _ (mem j hj)) hk q
theorem qcZ (hA:Ask prog w A E s kd D f) (O:OrdK f) {st:SortSt}(hk:kindOf st=kd) (hD:qfg D st) (hn:lo+nrem<=(arrOf st).size) {a:Nat}(ha:1<=a) (han:a<=nrem) (hs:UpL f lo (arrOf st) a) {Q:Option (Option Nat)×Nat->SortSt->Prop}
  (q:∀ n,a<=n->n<=nrem->UpL f lo (arrOf st) n->(n<nrem->f (kD (arrOf st) (lo+n)) (kD (arrOf st) (lo+n - 1))=true)->Q (none,n) st):wpS (model prog w) A E s (qlA lo a nrem) Q st:=by
 unfold qlA;refine wpS_forRange (I:=fun x c st'=>st'=st/\c=(none,x)/\UpL f lo (arrOf st) x) ?step ?fin ⟨rfl,rfl,hs⟩;case fin =>
  rintro c st' ⟨rfl,rfl,hs'⟩;rw [show max a nrem=nrem by omega] at hs' ⊢;exact q nrem han (Nat.le_refl _) hs' fun z=>absurd z (by omega)
 case step =>
  rintro x c st' hax hxn ⟨rfl,rfl,hs'⟩;dsimp only;refine yl (Yq hA hk hD (by omega) (by omega) ?_);dsimp only;cases c:f (kD (arrOf st') (lo+x)) (kD (arrOf st') (lo+x - 1)) with
  | true =>
   simp only [if_true];exact yZ (q x hax (by omega) hs' fun _=>c)
  | false =>
   simp only [Bool.false_eq_true,if_false];exact yZ ⟨rfl,rfl,hs'.succ O (by omega) c⟩
theorem qbJ {st:SortSt}{i j:Nat}{Q:Unit->SortSt->Prop}(h:Q () (setArr st (mir (arrOf st) i j))):wpS (model prog w) A E s (reverseSlice' i j) Q st:=by rw [reverseSlice'_eq];exact wpS_modify h
def RunP (f:Keyed->Keyed->Bool) (lo nrem:Nat) (st0:SortSt) (Q:Option Nat->SortSt->Prop):Prop:=∀ n st',SV lo st0 st'->1<=n->n<=nrem->UpL f lo (arrOf st') n->Q (some n) st'
theorem Z5 (hA:Ask prog w A E s kd D f) (O:OrdK f) (hk:kindOf st0=kd) (hD:qfg D st0) (hn:lo+nrem<=(arrOf st0).size) {st:SortSt}(hv:SV lo st0 st) {n:Nat}(h1:1<=n) (h2:n<=nrem) (h3:DnL f lo (arrOf st) n) {Q:Option Nat->SortSt->Prop}(q:RunP f lo nrem st0 Q) :
  wpS (model prog w) A E s (Z8 lo n nrem) Q st:=by
 unfold Z8;have hz:=hv.size;refine yl (qbJ ?_);have hv2:=hv.mir (i:=lo) (j:=lo+n) (Nat.le_refl _) (by omega);have up:UpL f lo (arrOf (setArr st (mir (arrOf st) lo (lo+n)))) n:=UpL.ofRev (by omega) h3;generalize setArr st (mir (arrOf st) lo (lo+n))=st2 at hv2 up ⊢;have hz2:=hv2.size;refine yl (qcZ hA O (hv2.kind.trans hk) (hD.of hv2.perm) (by omega) h1 h2 up fun m a1 a2 a3 _=>?_);exact yZ (q m st2 hv2 (by omega) a2 a3)
theorem qfk (hA:Ask prog w A E s kd D f) (O:OrdK f) (hk:kindOf st0=kd) (hD:qfg D st0) (hn:lo+nrem<=(arrOf st0).size) {st:SortSt}(hv:SV lo st0 st) {n:Nat}(h1:1<=n) (h2:n<=nrem) (h3:DnL f lo (arrOf st) n) {Q:Option (Option Nat)×Nat×Nat->SortSt->Prop}
  (q:∀ m k st',SV lo st0 st'->k+1<=m->m<=nrem->DnL f lo (arrOf st') m->(∀ a b,lo+m - (k+1)<=a->a<lo+m->lo+m - (k+1)<=b->b<lo+m->YR f (kD (arrOf st') a) (kD (arrOf st') b))->Q (none,m,k) st') :
  wpS (model prog w) A E s (qgg lo n nrem) Q st:=by
 unfold qgg;have one:∀ (p:Array Keyed) (m a b:Nat),1<=m->lo+m - (0+1)<=a->a<lo+m->lo+m - (0+1)<=b->b<lo+m->YR f (kD p a) (kD p b):=fun p m a b _ _ _ _ _=>by
  have:a=b:=by omega
  subst this;exact YR.refl O _
 refine wpS_forRange (I:=fun x c st'=>SV lo st0 st'/\∃ k,c=(none,x,k)/\k+1<=x/\DnL f lo (arrOf st') x/\(∀ a b,lo+x - (k+1)<=a->a<lo+x->lo+x - (k+1)<=b->b<lo+x->YR f (kD (arrOf st') a) (kD (arrOf st') b))) ?step ?fin ⟨hv,0,rfl,by omega,h3,fun a b=>one _ n a b h1⟩;case fin =>
  rintro c st' ⟨hv',k,rfl,g1,g2,g3⟩;rw [show max n nrem=nrem by omega] at g1 g2 g3 ⊢;exact q nrem k st' hv' g1 (Nat.le_refl _) g2 g3
 case step =>
  rintro x c st' hnx hx ⟨hv',k,rfl,g1,g2,g3⟩;dsimp only;have hz:=hv'.size;refine yl (Yq hA (hv'.kind.trans hk) (hD.of hv'.perm) (by omega) (by omega) ?_);dsimp only;cases c:f (kD (arrOf st') (lo+x)) (kD (arrOf st') (lo+x - 1)) with
  | true =>
   simp only [if_true];have dn:=g2.succ O (by omega) (O.asym _ _ c);by_cases hq:k > 0
   .rw [if_pos hq];refine yl (qbJ ?_);have ev:=Zw O (p:=arrOf st') (i:=lo+x - (k+1)) (j:=lo+x) (by omega) g3;exact yZ ⟨hv'.mir (by omega) (by omega),0,rfl,by omega,dn.eqv O ev,fun a b=>one _ _ a b (by omega)⟩
   .rw [if_neg hq];exact yZ ⟨hv',0,rfl,by omega,dn,fun a b=>one _ _ a b (by omega)⟩
  | false =>
   simp only [Bool.false_eq_true,if_false];refine yl (Yq hA (hv'.kind.trans hk) (hD.of hv'.perm) (by omega) (by omega) ?_);dsimp only;cases d:f (kD (arrOf st') (lo+x - 1)) (kD (arrOf st') (lo+x)) with
   | true =>
    simp only [if_true];exact yZ (q x k st' hv' g1 (by omega) g2 g3)
   | false =>
    simp only [Bool.false_eq_true,if_false];refine yZ ⟨hv',k+1,rfl,by omega,g2.succ O (by omega) d,fun a b a1 a2 b1 b2=>?_⟩;have last:YR f (kD (arrOf st') (lo+x)) (kD (arrOf st') (lo+x - 1)):=⟨c,d⟩;have key:∀ y,lo+(x+1) - (k+1+1)<=y->y<lo+(x+1)->YR f (kD (arrOf st') y) (kD (arrOf st') (lo+x - 1)):=fun y y1 y2=>by
     by_cases e:y=lo+x
     .subst e;exact last
     .exact g3 _ _ (by omega) (by omega) (by omega) (by omega)
    exact (key a a1 a2).trans O (key b b1 b2).symm
theorem Yc (hA:Ask prog w A E s kd D f) (O:OrdK f) (hk:kindOf st0=kd) (hD:qfg D st0) (hn:lo+nrem<=(arrOf st0).size) {st:SortSt}(hv:SV lo st0 st) {n:Nat}(h1:1<=n) (h2:n+1<=nrem) (h3:DnL f lo (arrOf st) (n+1)) {Q:Option Nat->SortSt->Prop}(q:RunP f lo nrem st0 Q) :
  wpS (model prog w) A E s (Je lo n nrem) Q st:=by
 unfold Je;refine yl (wpS_lift (yV ⟨rfl,?_⟩));refine yl (qfk hA O hk hD hn hv (by omega) h2 h3 fun m k st' hv' g1 g2 g3 g4=>?_);dsimp only;have hz:=hv'.size;by_cases hq:k > 0
 .rw [if_pos hq];refine yl (qbJ ?_);have ev:=Zw O (p:=arrOf st') (i:=lo+m - (k+1)) (j:=lo+m) (by omega) g4;exact Z5 hA O hk hD hn (hv'.mir (by omega) (by omega)) (by omega) g2 (g3.eqv O ev) q
 .rw [if_neg hq];exact Z5 hA O hk hD hn hv' (by omega) g2 g3 q
theorem qa7 (hA:Ask prog w A E s kd D f) (O:OrdK f) (hk:kindOf st0=kd) (hD:qfg D st0) (hn:lo+nrem<=(arrOf st0).size) (h1:1<=nrem) {Q:Option Nat->SortSt->Prop}(q:RunP f lo nrem st0 Q) :
  wpS (model prog w) A E s (countRun' lo nrem) Q st0:=by
 rw [qaO];refine yl (qcZ hA O hk hD hn (Nat.le_refl _) h1 (UpL.one O lo _) fun m a1 a2 a3 a4=>?_);dsimp only;by_cases e:m=nrem
 .rw [if_pos (by simpa using e)];exact yZ (q m st0 (SV.refl _ _) a1 a2 a3)
 .rw [if_neg (by simpa using e)];have hlt:=a4 (by omega);by_cases e2:m > 1
  .rw [if_pos e2];refine yl (Yq hA hk hD (by omega) (by omega) ?_);dsimp only;cases c:f (kD (arrOf st0) lo) (kD (arrOf st0) (lo+m - 1)) with
   | true =>
    simp only [if_true];exact yZ (q m st0 (SV.refl _ _) a1 a2 a3)
   | false =>
    simp only [Bool.false_eq_true,if_false];refine yl (qbJ ?_);have al:∀ a b,lo<=a->a<lo+m->lo<=b->b<lo+m->YR f (kD (arrOf st0) a) (kD (arrOf st0) b):=fun a b ha1 ha hb1 hb=>by
     have key:∀ x,lo<=x->x<lo+m->YR f (kD (arrOf st0) x) (kD (arrOf st0) lo):=fun x hx1 hx=>by
      have k1:=a3 0 (x - lo) (by omega) (by omega);have k2:=a3 (x - lo) (m - 1) (by omega) (by omega);rw [show lo+(x - lo)=x by omega] at k1 k2;rw [show lo+(m - 1)=lo+m - 1 by omega] at k2;exact ⟨k1,O.le k2 c⟩
     exact (key a ha1 ha).trans O (key b hb1 hb).symm
    have ev:=Zw O (p:=arrOf st0) (i:=lo) (j:=lo+m) (by omega) al;have dn:DnL f lo (arrOf st0) m:=fun i j hi hj=>(al (lo+i) (lo+j) (by omega) (by omega) (by omega) (by omega)).1;exact Yc hA O hk hD hn ((SV.refl lo st0).mir (Nat.le_refl _) (by omega)) a1 (by omega) ((dn.succ O a1 (O.asym _ _ hlt)).eqv O ev) q
  .rw [if_neg e2];have m1:m=1:=by omega
   subst m1;have dn:DnL f lo (arrOf st0) 1:=fun i j hi hj=>by
    have:i=j:=by omega
    subst this;exact O.irr _
   exact Yc hA O hk hD hn (SV.refl lo st0) (Nat.le_refl _) (by omega) (dn.succ O (Nat.le_refl _) (O.asym _ _ hlt)) q
theorem qav {xs:Array Keyed}{src d:Nat}(hs:src<xs.size) (hd:d<=src) (k:Nat):kD (bubble xs src d) k=if k=src - d then kD xs src else if src - d<k/\k<=src then kD xs (k - 1) else kD xs k:=by
 have e:=getElem?_bubble hs d hd k;by_cases h1:k=src - d
 .rw [if_pos h1] at e ⊢;exact qes e
 .rw [if_neg h1] at e ⊢;by_cases h2:src - d<k/\k<=src
  .rw [if_pos h2] at e ⊢;exact qes e
  .rw [if_neg h2] at e ⊢;exact qes e
theorem qco (hA:Ask prog w A E s kd D f) (O:OrdK f) (hk:kindOf st0=kd) (hD:qfg D st0) {n ok:Nat}(hn:lo+n<=(arrOf st0).size) (hok:ok<=n) (hs:UpL f lo (arrOf st0) ok) {Q:Bool->SortSt->Prop}(q:∀ st',SV lo st0 st'->UpL f lo (arrOf st') n->Q true st') :
  wpS (model prog w) A E s (binarySort' lo n ok) Q st0:=by
 rw [binarySort'_eq];refine yl (wpS_mono (wpS_forRange (I:=fun k c st'=>c=(none,())/\SV lo st0 st'/\UpL f lo (arrOf st') (min k n))
  (Q:=fun c st'=>c=(none,())/\SV lo st0 st'/\UpL f lo (arrOf st') n) ?step ?fin ?init) ?post)
 case post =>
  rintro c st' ⟨rfl,hB',hs'⟩;exact yZ (q st' hB' hs')
 case init =>
  refine ⟨rfl,SV.refl _ _,fun i j hij hj=>?_⟩;by_cases h1:ok=0
  .have:i=j:=by omega
   subst this;exact O.irr _
  .exact hs i j hij (by omega)
 case fin =>
  rintro c st' ⟨hc,hB',hs'⟩;refine ⟨hc,hB',?_⟩;rwa [show min (max (max ok 1) n) n=n by omega] at hs'
 case step =>
  rintro k c st' hak hkn ⟨rfl,hB',hs'⟩;rw [show min k n=k by omega] at hs';have hz:=hB'.size;refine yl (wpS_mono (wpS_forRange (I:=fun x c st''=>st''=st'/\∃ l r,c=(none,l,r)/\l<=r/\r<=k/\r - l<=k - x ∧
    (∀ i,i<l->f (kD (arrOf st') (lo+k)) (kD (arrOf st') (lo+i))=false)/\(∀ i,r<=i->i<k->f (kD (arrOf st') (lo+k)) (kD (arrOf st') (lo+i))=true))
   (Q:=fun c st''=>st''=st'/\∃ l r,c=(none,l,r)/\l<=k ∧
    (∀ i,i<l->f (kD (arrOf st') (lo+k)) (kD (arrOf st') (lo+i))=false)/\(∀ i,l<=i->i<k->f (kD (arrOf st') (lo+k)) (kD (arrOf st') (lo+i))=true)) ?istep ?ifin ?iinit) ?ipost)
  case iinit=>exact ⟨rfl,0,k,rfl,by omega,by omega,by omega,fun i hi=>by omega,fun i h1 h2=>by omega⟩
  case ifin =>
   rintro c st'' ⟨rfl,l,r,rfl,hlr,hrk,hm,hlo,hhi⟩;have:l=r:=by omega
   subst this;exact ⟨rfl,l,l,rfl,hrk,hlo,hhi⟩
  case istep =>
   rintro x c st'' _ hxk ⟨rfl,l,r,rfl,hlr,hrk,hm,hlo,hhi⟩;dsimp only;by_cases hge:l ≥ r
   .rw [if_pos hge];have:l=r:=by omega
    subst this;exact yZ ⟨rfl,l,l,rfl,hrk,hlo,hhi⟩
   .rw [if_neg hge];refine yl (Yq hA (hB'.kind.trans hk) (hD.of hB'.perm) (by omega) (by omega) ?_);dsimp only;cases c:f (kD (arrOf st'') (lo+k)) (kD (arrOf st'') (lo+(l+r) / 2)) with
    | true =>
     simp only [if_true];refine yZ ⟨rfl,l,(l+r) / 2,rfl,by omega,by omega,by omega,hlo,fun i h1 h2=>?_⟩;exact O.ltl c (hs' _ _ h1 h2)
    | false =>
     simp only [Bool.false_eq_true,if_false];refine yZ ⟨rfl,(l+r) / 2+1,r,rfl,by omega,by omega,by omega,fun i h1=>?_,hhi⟩;exact O.le (hs' i ((l+r) / 2) (by omega) (by omega)) c
  case ipost =>
   rintro c st'' ⟨rfl,l,r,rfl,hlk,hlo,hhi⟩;show wpS _ _ _ _ (do moveDown' (lo+k) (lo+l);pure (ForInStep.yield (none,()))) _ _;rw [moveDown'_eq];have hks:lo+k<(arrOf st'').size:=by omega
   have ed:lo+k - (lo+l)=k - l:=by omega
   refine yl (wpS_modify (yZ ⟨rfl,⟨hB'.kind,hB'.pend,hB'.fail,(bubble_perm _ _ _).trans hB'.perm,fun j hj=>?_⟩,?_⟩))
   .show (bubble (arrOf st'') (lo+k) (lo+k - (lo+l)))[j]?=_;rw [getElem?_bubble hks _ (by omega),if_neg (by omega),if_neg (by omega)];exact hB'.pre j hj
   rw [show min (k+1) n=k+1 by omega];intro i j hij hj;show f (kD (bubble (arrOf st'') (lo+k) (lo+k - (lo+l))) (lo+j)) (kD (bubble (arrOf st'') (lo+k) (lo+k - (lo+l))) (lo+i))=false;rw [qav hks (by omega),qav hks (by omega),ed,show lo+k - (k - l)=lo+l by omega];by_cases j1:j=l
   .rw [if_pos (by omega)];by_cases i1:i=l
    .rw [if_pos (by omega)];exact O.irr _
    .rw [if_neg (by omega),if_neg (by omega)];exact hlo i (by omega)
   .rw [if_neg (by omega)];by_cases j2:l<j/\j<=k
    .rw [if_pos (by omega)];by_cases i1:i=l
     .rw [if_pos (by omega)];have:=hhi (j - 1) (by omega) (by omega);rw [show lo+j - 1=lo+(j - 1) by omega];exact O.asym _ _ this
     .rw [if_neg (by omega)];by_cases i2:l<i/\i<=k
      .rw [if_pos (by omega),show lo+j - 1=lo+(j - 1) by omega,show lo+i - 1=lo+(i - 1) by omega];exact hs' _ _ (by omega) (by omega)
      .rw [if_neg (by omega),show lo+j - 1=lo+(j - 1) by omega];exact hs' _ _ (by omega) (by omega)
    .rw [if_neg (by omega),if_neg (by omega),if_neg (by omega)];exact hs' _ _ (by omega) (by omega)
end
end L2
namespace L2
open PySem PySem.Spec PyProof.Rows PySem.W
section
variable {prog:Program}{w:World}{A:Around}{E:Value->Shared->Prop}{s:Shared}{kd:SortKind}{D:Keyed->Prop}{f:Keyed->Keyed->Bool}{st:SortSt}
theorem up_sd {a:Array Keyed}(h:UpL f 0 a a.size):SdK f a.toList:=by
 refine qU.mpr fun i j hi hj hij=>?_;have:=h i j (by omega) (by simpa using hj);have e:∀ k (hk:k<a.toList.length),kD a (0+k)=a.toList[k]:=fun k hk=>by
  have hk':k<a.size:=by simpa using hk
  have:=qeu hk';rw [Array.getElem?_eq_getElem hk'] at this;rw [Nat.zero_add,<- Option.some.inj this];simp
 rw [e j hj,e i hi] at this;exact this
theorem Yp (hA:Ask prog w A E s kd D f) (O:OrdK f) {a0:Array Keyed}(hk:PyProof.Rows.kindOf st=kd) (hf:failedOf st=none) (ha:arrOf st=a0) (hp0:pendingOf st=#[]) (hD:∀ x∈a0.toList,D x) (h2:2<=a0.size) (h64:a0.size<64) {Q:Unit->SortSt->Prop}
  (q:∀ st',(arrOf st').Perm a0->failedOf st'=none->SdK f (arrOf st').toList->Q () st'):wpS (model prog w) A E s sortRuns' Q st:=by
 have hAll:∀ st',(arrOf st').Perm a0->qfg D st':=fun st' h x hx=>hD x ((jh.mp h).mem_iff.mp hx);rw [sortRuns'_eq];refine yl (wpS_get ?_);dsimp only;rw [ha];have hmr:minRun' a0.size a0.size 0=a0.size:=by
  obtain ⟨g,hg⟩:∃ g,a0.size=g+1:=⟨a0.size - 1,by omega⟩;have:minRun' (g+1) a0.size 0=a0.size:=by rw [minRun'_succ,if_pos h64];rfl
  rw [<- hg] at this;exact this
 rw [hmr];refine yl (wpS_mono (wpS_forRange
  (I:=fun x c st'=>∃ lo,c=(none,lo)/\x<=lo/\PyProof.Rows.kindOf st'=kd/\failedOf st'=none/\(arrOf st').Perm a0/\((lo=0/\pendingOf st'=#[])\/(lo=a0.size/\(pendingOf st').size<=1/\SdK f (arrOf st').toList)))
  (Q:=fun c st'=>c=(none,a0.size)/\failedOf st'=none/\(arrOf st').Perm a0/\(pendingOf st').size<=1/\SdK f (arrOf st').toList) ?step ?fin ⟨0,rfl,Nat.le_refl _,hk,hf,ha ▸ Array.Perm.refl _,.inl ⟨rfl,hp0⟩⟩) ?post)
 case fin =>
  rintro c st' ⟨lo,rfl,g1,g2,g3,g4,g5⟩;rcases g5 with ⟨rfl,_⟩ | ⟨rfl,g6,g7⟩
  .omega
  .exact ⟨rfl,g3,g4,g6,g7⟩
 case step =>
  rintro x c st' _ hx ⟨lo,rfl,g1,g2,g3,g4,g5⟩;dsimp only;have hz:(arrOf st').size=a0.size:=g4.size_eq;rcases g5 with ⟨rfl,g5⟩ | ⟨rfl,g6,g7⟩
  .rw [if_neg (by omega)];refine yl (qa7 hA O g2 (hAll _ g4) (by omega) (by omega) fun n st1 hv h1 hn hu=>?_);dsimp only;have fin:∀ st2,SV 0 st' st2->UpL f 0 (arrOf st2) a0.size->PyProof.Rows.kindOf st2=kd/\failedOf st2=none/\(arrOf st2).Perm a0/\pendingOf st2=#[]/\SdK f (arrOf st2).toList:=fun st2 hv hu=>by
    have hz2:(arrOf st2).size=a0.size:=hv.size.trans hz;exact ⟨hv.kind.trans g2,hv.fail.trans g3,hv.perm.trans g4,hv.pend.trans g5,up_sd (by rw [hz2];exact hu)⟩
   by_cases hlt:n<a0.size
   .rw [if_pos hlt];refine yl (wpS_lift (yV ⟨rfl,?_⟩));have hz1:=hv.size;have em:min (a0.size - 0) a0.size=a0.size:=by omega
    rw [em];refine yl (qco (n:=a0.size) (ok:=n) hA O (hv.kind.trans g2) (hAll _ (hv.perm.trans g4)) (by omega) (by omega) hu fun st2 hv2 hu2=>?_);simp only [Bool.not_true,Bool.false_eq_true,if_false];obtain ⟨b1,b2,b3,b4,b5⟩:=fin st2 (hv.trans hv2) hu2;refine yl (wpS_get ?_);rw [show (pendingOf st2).back?=none by rw [b4];rfl];dsimp only;refine yl (wpS_modify (yZ ⟨0+a0.size,rfl,by omega,b1,b2,b3,.inr ⟨by omega,?_,b5⟩⟩));show ((pendingOf st2).push _).size<=1;rw [b4];exact Nat.le_refl 1
   .rw [if_neg hlt];have en:n=a0.size:=by omega
    subst en;obtain ⟨b1,b2,b3,b4,b5⟩:=fin st1 hv hu;refine yl (wpS_get ?_);rw [show (pendingOf st1).back?=none by rw [b4];rfl];dsimp only;refine yl (wpS_modify (yZ ⟨0+a0.size,rfl,by omega,b1,b2,b3,.inr ⟨by omega,?_,b5⟩⟩));show ((pendingOf st1).push _).size<=1;rw [b4];exact Nat.le_refl 1
  .rw [if_pos (Nat.le_refl _)];exact yZ ⟨rfl,g3,g4,g6,g7⟩
 case post =>
  rintro c st' ⟨rfl,g3,g4,g6,g7⟩;dsimp only;refine yl (wpS_mono (wpS_forRange (I:=fun x c sx=>c=(none,())/\failedOf sx=none/\(arrOf sx).Perm a0/\(pendingOf sx).size<=1/\SdK f (arrOf sx).toList)
   (Q:=fun c sx=>c=(none,())/\failedOf sx=none/\(arrOf sx).Perm a0/\(pendingOf sx).size<=1/\SdK f (arrOf sx).toList) ?lstep ?lfin ⟨rfl,g3,g4,g6,g7⟩) ?lpost)
  case lfin=>exact fun c sx h=>h
  case lstep =>
   rintro x c sx _ _ ⟨rfl,g3,g4,g6,g7⟩;refine yl (wpS_get ?_);rw [if_pos g6];exact yZ ⟨rfl,g3,g4,g6,g7⟩
  case lpost =>
   rintro c sx ⟨rfl,g3,g4,g6,g7⟩;dsimp only;exact yZ (q sx g4 g3 g7)
end
end L2
namespace L2
open PySem PySem.Spec PyProof.Rows PySem.W
def qcm (vs:List Value) (p:Array Nat):List Value:=p.toList.map fun i=>vs.getD i Value.none
def ltK (kss:List (List Int)):Nat->Nat->Bool:=fun i j=>decide (kss.getD i []<kss.getD j [])
theorem jA {h:Heap}:∀ {vs:List Value}{kss:List (List Int)},PySem.Paired (yY h) vs kss->∀ i,i<vs.length->yY h (vs.getD i Value.none) (kss.getD i [])
 | _,_,.nil,i,z=>by simp at z
 | _,_,.cons r t,0,_=>r
 | _,_,.cons r t,i+1,z=>jA t i (by simpa using z)
theorem ZX {vs:List Value}{p:Array Nat}(hp:Arr vs.length p):(qcm vs p).length=vs.length:=by
 unfold qcm;rw [List.length_map,Array.length_toList,hp.size]
section
variable {prog:Program}{w:World}{A:Around}{E:Value->Shared->Prop}{s:Shared}
theorem YE:∀ {vs:List Value}{a b:List Int},IntsAre vs a->IntsAre vs b->a=b
 | _,_,_,.nil,.nil=>rfl
 | _,_,_,.cons _ _ h,.cons _ _ g=>by rw [YE h g]
open Classical in
noncomputable def kf (h:Heap) (v:Value):List Int:=epsilon fun ks=>yY h v ks
theorem qep {h:Heap}{v:Value}{ks:List Int}(t:yY h v ks):kf h v=ks:=by
 have t2:=Classical.epsilon_spec (p:=fun ks=>yY h v ks) ⟨ks,t⟩;obtain ⟨a,o,xs,n,rfl,ho,_,hd,hi,_⟩:=t;obtain ⟨a',o',xs',n',e,ho',_,hd',hi',_⟩:=t2;cases e
 rw [ho] at ho';cases ho'
 rw [hd] at hd';cases hd'
 exact YE hi' hi
noncomputable def kfF (h:Heap):Keyed->Keyed->Bool:=fun x y=>decide (kf h x.1<kf h y.1)
theorem qg1 (h:Heap):OrdK (kfF h) where
 asym a b h:=yc (qb5 (qN h))
 neg a b c h1:=by
  have h1:=qN h1;by_cases e:kf h a.1<kf h b.1
  .exact .inl (decide_eq_true e)
  .exact .inr (decide_eq_true (List.lt_of_le_of_lt (List.not_lt.mp e) h1))
theorem qcl:Ask prog w A E s (tuples' true) (fun x=>∃ ks,yY s.heap x.1 ks) (kfF s.heap):=by
 intro x y st Q ⟨k1,t1⟩ ⟨k2,t2⟩ hk q;rw [lt'_eq];refine yl (wpS_get ?_);rw [hk];refine yl (wpS_lift (wpAny_attempt (lt_wp t1 t2 ⟨rfl,?_⟩)));unfold kfF at q;rw [qep t1,qep t2] at q;exact yZ q
theorem Yl {Z β:Type}(g:β->Z) {xs ys:List Z}(h:xs.Perm ys):∀ {l:List β},ys=l.map g->∃ l':List β,l'.Perm l/\xs=l'.map g:=by
 induction h with
 | nil =>
  intro l e;exact ⟨l,List.Perm.refl _,e⟩
 | cons x p ih =>
  intro l e;cases l with
  | nil=>cases e
  | cons b l =>
   rw [List.map_cons] at e;obtain ⟨e1,e2⟩:=List.cons.inj e;obtain ⟨l',p',e'⟩:=ih e2;exact ⟨b::l',p'.cons b,by rw [List.map_cons,e',e1]⟩
 | swap x y l0 =>
  intro l e;match l,e with
  | b::c::l,e =>
   simp only [List.map_cons,List.cons.injEq] at e;obtain ⟨e1,e2,e3⟩:=e;exact ⟨c::b::l,List.Perm.swap _ _ _,by simp [e1,e2,e3]⟩
 | trans p1 p2 ih1 ih2 =>
  intro l e;obtain ⟨l',q1,e1⟩:=ih2 e;obtain ⟨l'',q2,e2⟩:=ih1 e1;exact ⟨l'',q2.trans q1,e2⟩
theorem qfL {h:Heap}{vs:List Value}{kss:List (List Int)}(hT:PySem.Paired (yY h) vs kss) {xs:Array Keyed}(hp:xs.Perm (pairsOf vs)) (hs:SdK (kfF h) xs.toList):∃ p,Arr vs.length p/\qjw (ltK kss) p vs.length/\xs=p.map (kas_item (pairsOf vs)):=by
 have y:=kas_range (pairsOf vs);rw [pairsOf_size] at y;have hp:=jh.mp hp;rw [<- y,Array.toList_map] at hp;obtain ⟨l,p1,e⟩:=Yl _ hp rfl;have p1:l.Perm (List.range vs.length):=by simpa using p1
 have hl:l.length=vs.length:=by rw [p1.length_eq,List.length_range]
 refine ⟨l.toArray,jh.mpr (by simpa using p1),fun i j hij hj=>?_,Array.toList_inj.mp (by rw [e,Array.toList_map])⟩;have gi:∀ i (hi:i<l.length),gD l.toArray i=l[i]:=fun i hi=>by simp [gD,Array.getD,hi]
 rw [gi i (by omega),gi j (by omega)];have lt:∀ i (hi:i<l.length),l[i]<vs.length:=fun i hi=>List.mem_range.mp (p1.mem_iff.mp (qy hi));have key:∀ i (hi:i<l.length),kf h ((kas_item (pairsOf vs) l[i]).1)=kss.getD l[i] []:=fun i hi=>by
  rw [kas_item_eq];exact qep (jA hT _ (lt i hi))
 by_cases c:i=j
 .subst c;exact (qee fun i=>kss.getD i []).irr _
 .rw [e] at hs;have:=qU.mp hs i j (by simp;omega) (by simp;omega) (by omega);simp only [List.getElem_map] at this;unfold kfF at this;rw [key i (by omega),key j (by omega)] at this;exact this
theorem qdg {a:Addr}{vs:List Value}{kss:List (List Int)}{n:Nat}{P:PySem.Fin->Shared->Prop}(ho:s.heap.get? a=some (seqObj "list" vs.toArray n)) (hT:PySem.Paired (yY s.heap) vs kss) (h64:vs.length<64)
  (h:∀ p,Arr vs.length p->qjw (ltK kss) p vs.length->P (.done (.ret .none)) { s with heap:=sortedHeap s.heap a vs (qcm vs p).toArray }) :
  wpAny (model prog w) A (Builtin.«list.sort» ⟨[.ref a],[]⟩) P E s:=by
 rw [list_sort_plain];have hlt:a<s.heap.objs.size:=qi ho;have hn64:vs.length<=sizeLine:=by rw [sizeLine_eq];omega
 refine qa (listItems_at ho rfl (qa (listUpdate_at ho rfl ?_ (by rw [List.size_toArray];exact hn64) (qB _))));obtain ⟨ep,hc⟩:∃ ep,(s.heap.update a (Obj.mapSeq fun _=>(#[]:Array Value))).get? a=some (seqObj "list" #[] ep):=⟨_,get?_update_seq ho fun _=>#[]⟩;refine qa (seqEpoch_at hc rfl (qa (wpAny_newTuple (qa (wpAny_newList (qH ?_) (qB _))) (by show vs.length<=_;exact hn64))));generalize hh:((s.heap.update a (Obj.mapSeq fun _=>(#[]:Array Value))).push (seqObj "tuple" vs.toArray 0)).push (seqObj "list" #[] 0)=h6;have at6:h6.get? a=some (seqObj "list" #[] ep):=by
  rw [<- hh];exact qb _ (qb _ hc)
 have old6:∀ b o,s.heap.get? b=some o->b≠a->h6.get? b=some o:=fun b o e ne=>by
  rw [<- hh];refine qb _ (qb _ ?_);rw [yQ _ _ _ _ ne];exact e
 have hT6:PySem.Paired (yY h6) vs kss:=Paired.mapP hT fun v ks t=>t.kept fun b o e hcl=>old6 b o e fun z=>by
  subst z;rw [ho] at e;cases e
  exact absurd (show Value.type "list" = Value.type "tuple" from hcl) (by decide)
 have fin6:∀ p,Arr vs.length p->qjw (ltK kss) p vs.length->P (.done (.ret .none)) { s with heap:=h6.update a (Obj.mapSeq fun _=>(qcm vs p).toArray) }:=fun p hp hs=>by
  have:=h p hp hs;unfold sortedHeap at this;rw [hh] at this;exact this
 show wpAny (model prog w) A _ P E { s with heap:=h6 };dsimp only;have sz:vs.toArray.size=vs.length:=List.size_toArray ..;have zipE:vs.toArray.zip vs.toArray=pairsOf vs:=rfl;have snd:∀ p,((p.map (kas_item (pairsOf vs))).map (·.2))=(qcm vs p).toArray:=fun p=>by
  apply Array.toList_inj.mp;simp only [Array.toList_map,List.map_map,qcm];exact List.map_congr_left fun i _=>by simp [kas_item_eq]
 by_cases c2:vs.toArray.size<2
 .rw [if_pos c2,if_pos c2];refine qa (qc ?_);rw [StateT.run_pure];refine qa (qc ?_);dsimp only;have e0:((vs.toArray.zip vs.toArray).map (·.2))=(qcm vs (List.range vs.length).toArray).toArray:=by
   have z:=snd (List.range vs.length).toArray;have y:=kas_range (pairsOf vs);rw [pairsOf_size] at y;rw [<- z,y,zipE]
  refine qa (seqEpoch_at at6 rfl (qa (listUpdate_at at6 rfl ?_ (qB _) ?_)))
  .simp only [bne_self_eq_false,Bool.false_eq_true,if_false];refine qc ?_;have f0:=fin6 (List.range vs.length).toArray (Array.Perm.refl _) fun i j hij hj=>by
    have:i=j:=by rw [sz] at c2;omega
    subst this;exact (qee fun i=>kss.getD i []).irr _
   rw [<- e0] at f0;exact f0
  .show ((vs.toArray.zip vs.toArray).map (·.2)).size<=_;rw [e0,List.size_toArray,ZX (Array.Perm.refl _)];omega
 .rw [if_neg c2,if_neg c2];refine qa (qeo (s:={ s with heap:=h6 }) hT6 (by rw [sz] at c2;omega) ?_);have hD6:∀ x∈(pairsOf vs).toList,∃ ks,yY h6 x.1 ks:=fun x hx=>by
   have y:=kas_range (pairsOf vs);rw [pairsOf_size] at y;rw [<- y,Array.toList_map] at hx;obtain ⟨i,hi,rfl⟩:=ql.mp hx;rw [kas_item_eq];exact ⟨_,jA hT6 i (by simpa using hi)⟩
  have run:=Yp (prog:=prog) (w:=w) (A:=A) (E:=E) (s:={ s with heap:=h6 }) (st:=SortSt.mk' (tuples' true) (pairsOf vs) #[] 7 none) (a0:=pairsOf vs)
   (Q:=fun _ st'=>∃ p,Arr vs.length p/\qjw (ltK kss) p vs.length/\arrOf st'=p.map (kas_item (pairsOf vs))/\failedOf st'=none)
   (qcl (s:={ s with heap:=h6 })) (qg1 h6) rfl rfl rfl rfl hD6 (by rw [pairsOf_size];rw [sz] at c2;omega) (by rw [pairsOf_size];omega) (fun st' hp hf hs=>by
    obtain ⟨p,p1,p2,p3⟩:=qfL hT6 hp hs;exact ⟨p,p1,p2,p3,hf⟩)
  refine qa (qp (show wpAny (model prog w) A (sortRuns'.run _) _ E _ from run) ?_ fun _ _ e=>e);rintro ⟨⟨⟩,st'⟩ s' ⟨rfl,p,hp,hs,e1,e2⟩;dsimp only;refine qa (seqEpoch_at at6 rfl (qa (listUpdate_at at6 rfl ?_ (qB _) ?_)))
  .rw [e2];simp only [bne_self_eq_false,Bool.false_eq_true,if_false];refine qc ?_;rw [e1,snd p];exact fin6 p hp hs
  .show ((arrOf st').map (·.2)).size<=_;rw [e1,snd p,List.size_toArray,ZX hp];omega
end
end L2
namespace L2
open PySem PySem.Spec PyProof.Rows PySem.W
abbrev jg (h h':Heap):Prop:=∀ b o,h.get? b=some o->h'.get? b=some o
section
variable {prog:Program}{w:World}{A:Around}{E:Value->Shared->Prop}{s:Shared}
def qjs (s:Shared) (R:List Value->List (List Int)->Prop) (vs:List Value) (s1:Shared):Prop :=
 ∃ h1 tk kss,s1={ s with heap:=h1,toks:=tk }/\jg s.heap h1/\PySem.Paired (yY h1) vs kss/\vs.length<64/\R vs kss
theorem qdf {x:Value}{R:List Value->List (List Int)->Prop}{Q:Value->Shared->Prop}(hcol:∀ E',wpAny (model prog w) A.in1 (collect x) (qjs s R) E' s)
  (h:∀ vs kss p h' tk D e,R vs kss->Arr vs.length p->qjw (ltK kss) p vs.length->PySem.Paired (yY h') vs kss->vs.length<64->jg s.heap h'->s.heap.get? D=none->h'.get? D=some (seqObj "list" (qcm vs p).toArray e)->Q (.ref D) { s with heap:=h',toks:=tk }) :
  wpAny (model prog w) A (call (.builtin "sorted") [x]) Q E s:=by
 refine Calls.call_function_entry kind_sorted plain_sorted entry_sorted (args_sorted1 _) ?_;unfold Builtin.«sorted»;refine qa (m:=checkCount "sorted" 1 1 _) (qc (qa ?_));refine qp (hcol _) (fun vs s1 ⟨h1,tk,kss,e1,kp,hT,h64,hR⟩=>?_) fun _ _ z=>z;subst e1;have hn64:vs.length<=sizeLine:=by rw [sizeLine_eq];omega
 refine qa (wpAny_newList ?_ hn64);have hD:(h1.push (seqObj "list" vs.toArray 0)).get? h1.objs.size=some (seqObj "list" vs.toArray 0):=qj _ rfl;have hT2:PySem.Paired (yY (h1.push (seqObj "list" vs.toArray 0))) vs kss:=Paired.mapP hT fun v ks t=>t.kept fun b o e _=>qb _ e;refine qa (qH (yf slot_list_sort ⟨_,hD,rfl⟩ entry_list_sort (qdg (s:={ s with heap:=h1.push (seqObj "list" vs.toArray 0),toks:=tk }) hD hT2 h64 fun p hp hs=>⟨_,rfl,?_⟩) (args_list_sort _)));obtain ⟨e,he⟩:=sortedHeap_at (vs:=vs) (out:=(qcm vs p).toArray) hD;have kp2:jg h1 (sortedHeap (h1.push (seqObj "list" vs.toArray 0)) h1.objs.size vs (qcm vs p).toArray):=fun b o q1=>by
  have hlt:b<h1.objs.size:=qi q1;rw [sortedHeap_old (qg hlt) (by rw [size_push'];exact qT hlt)];exact qb _ q1
 refine qc ⟨_,rfl,h vs kss p _ tk h1.objs.size e hR hp hs (Paired.mapP hT fun v ks t=>t.kept fun b o e _=>kp2 b o e) h64 (fun b o q=>kp2 b o (kp b o q)) ?_ he⟩
 .cases z:s.heap.get? h1.objs.size with
  | none=>rfl
  | some o =>
   have:=qi (kp _ _ z);exact absurd this (ye _)
theorem qcI {l:Addr}{vs:List Value}{kss:List (List Int)}(hl:s.heap.IsList l vs.toArray) (hT:PySem.Paired (yY s.heap) vs kss) (h64:vs.length<64) (E':Value->Shared->Prop) :
  wpAny (model prog w) A (collect (.ref l)) (qjs s fun us ms=>us=vs/\ms=kss) E' s:=by
 have kp:jg s.heap ((s.heap.push (seqObj "list" #[] 0)).update s.heap.objs.size (Obj.mapSeq (·++vs.toArray))):=fun b o q=>by
  have hlt:b<s.heap.objs.size:=qi q;rw [yQ _ _ _ _ (qg hlt)];exact qb _ q
 exact collect_list hl ⟨_,s.toks,kss,rfl,kp,Paired.mapP hT fun v ks t=>t.kept fun b o e _=>kp b o e,h64,rfl,rfl⟩ (by rw [sizeLine_eq];omega)
end
end L2
namespace L2
open PySem PySem.SetTable
def adv (m:Nat) (p:Probe):Probe :=
 if p.more > 0 then { p with j:=p.j+1,more:=p.more - 1 } else
 { p with j:=(leap m p.i p.perturb).1,more:=runEnd m (leap m p.i p.perturb).1 - (leap m p.i p.perturb).1,i:=(leap m p.i p.perturb).1,perturb:=(leap m p.i p.perturb).2 }
theorem qcV (t:SetTable) (p:Probe):t.advance p=adv t.mask p:=rfl
def at0 (m i e:Nat):Probe:={ j:=i,more:=runEnd m i - i,i:=i,perturb:=e,dummy:=none }
def stp (m:Nat) (h:Int):Nat->Probe
 | 0=>at0 m (bits h % (m+1)) (bits h)
 | k+1=>adv m (stp m h k)
theorem qbM (t:SetTable) (h:Int):t.probeStart h=stp t.mask h 0:=rfl
theorem Z9 (m:Nat) (h:Int):∀ k,(stp m h k).dummy=none
 | 0=>rfl
 | k+1=>by
  have:=Z9 m h k;simp only [stp,adv];split <;> simpa using this
def lp (m:Nat) (h:Int):Nat->Nat×Nat
 | 0=>(bits h % (m+1),bits h)
 | L+1=>leap m (lp m h L).1 (lp m h L).2
theorem qdE {m:Nat}{h:Int}{k i e:Nat}(h0:stp m h k=at0 m i e):∀ r,r<=runEnd m i - i->stp m h (k+r)={ j:=i+r,more:=runEnd m i - i - r,i:=i,perturb:=e,dummy:=none }
 | 0,_=>h0
 | r+1,hr=>by
  have ih:=qdE h0 r (by omega);show adv m (stp m h (k+r))=_;rw [ih];unfold adv;rw [if_pos (show runEnd m i - i - r > 0 by omega)];simp only [Probe.mk.injEq,true_and,and_true];omega
theorem qgK {m:Nat}{h:Int}{k i e:Nat}(h0:stp m h k=at0 m i e):stp m h (k+(runEnd m i - i)+1)=at0 m (leap m i e).1 (leap m i e).2:=by
 have ih:=qdE h0 (runEnd m i - i) (Nat.le_refl _);show adv m (stp m h (k+(runEnd m i - i)))=_;rw [ih];unfold adv;rw [if_neg (show ¬ runEnd m i - i - (runEnd m i - i) > 0 by omega)];rfl
theorem qhX (m i:Nat):runEnd m i - i<=9:=by unfold runEnd;split <;> omega
theorem qgL (m:Nat) (h:Int):∀ L,∃ k,k<=10 * L/\stp m h k=at0 m (lp m h L).1 (lp m h L).2
 | 0=>⟨0,Nat.le_refl _,rfl⟩
 | L+1=>by
  obtain ⟨k,hk,e⟩:=qgL m h L;have:=qhX m (lp m h L).1;exact ⟨_,by omega,qgK e⟩
def lcg (M i:Nat):Nat:=(i * 5+1) % M
def itn (M:Nat):Nat->Nat->Nat
 | 0,i=>i
 | n+1,i=>lcg M (itn M n i)
theorem ZL (M:Nat) (i:Nat):∀ a b,itn M (b+a) i=itn M b (itn M a i)
 | a,0=>by rw [Nat.zero_add];rfl
 | a,b+1=>by
  rw [show b+1+a=(b+a)+1 by omega];show lcg M (itn M (b+a) i)=lcg M (itn M b (itn M a i));rw [ZL M i a b]
structure Full (m:Nat):Prop where
 all:∀ q,q<=m->∃ b,b<=m/\itn (m+1) b 0=q
 back:itn (m+1) (m+1) 0=0
theorem Full.go {m:Nat}(F:Full m) {i q:Nat}(hi:i<=m) (hq:q<=m):∃ b,b<=m/\itn (m+1) b i=q:=by
 obtain ⟨x,hx,rfl⟩:=F.all i hi;obtain ⟨y,hy,rfl⟩:=F.all q hq;by_cases c:x<=y
 .exact ⟨y - x,by omega,by rw [<- ZL,show y - x+x=y by omega]⟩
 .refine ⟨y+(m+1) - x,by omega,?_⟩;rw [<- ZL,show y+(m+1) - x+x=y+(m+1) by omega,ZL,F.back]
theorem qeg (m:Nat) (h:Int):∀ L,(lp m h L).2=bits h / 32 ^ L
 | 0=>by simp [lp]
 | L+1=>by
  show (lp m h L).2 / 32=_;rw [qeg m h L,Nat.div_div_eq_div_mul,Nat.pow_succ]
theorem qjk (h:Int):bits h<18446744073709551616:=by
 unfold bits;have:=Int.emod_lt_of_pos h (show (0:Int)<2 ^ 64 by decide);have:=Int.emod_nonneg h (show (2 ^ 64:Int)≠0 by decide);omega
theorem lp_le (m:Nat) (h:Int):∀ L,(lp m h L).1<=m
 | 0=>by
  have:=Nat.mod_lt (bits h) (show 0<m+1 by omega);show bits h % (m+1)<=m;omega
 | L+1=>by
  show ((lp m h L).1 * 5+1+(lp m h L).2 / 32) % (m+1)<=m;have:=Nat.mod_lt ((lp m h L).1 * 5+1+(lp m h L).2 / 32) (show 0<m+1 by omega);omega
theorem qeh (m:Nat) (h:Int):∀ b,(lp m h (12+b)).1=itn (m+1) b (lp m h 12).1
 | 0=>rfl
 | b+1=>by
  have ih:=qeh m h b;show ((lp m h (12+b)).1 * 5+1+(lp m h (12+b)).2 / 32) % (m+1)=lcg (m+1) (itn (m+1) b (lp m h 12).1);rw [<- ih];have hb:=qjk h;have z:(lp m h (12+b)).2 / 32=0:=by
   rw [qeg,Nat.div_div_eq_div_mul];apply Nat.div_eq_of_lt;have:(32:Nat) ^ (12+b)=32 ^ 12 * 32 ^ b:=Nat.pow_add ..;rw [this];have p1:1<=32 ^ b:=Nat.one_le_pow _ _ (by decide);have:(32:Nat) ^ 12 * 1<=32 ^ 12 * 32 ^ b:=Nat.mul_le_mul_left _ p1;have e12:(32:Nat) ^ 12=1152921504606846976:=by decide
   omega
  rw [z];rfl
theorem Full.lp {m:Nat}(F:Full m) (h:Int) {q:Nat}(hq:q<=m):∃ L,L<=m+12/\(lp m h L).1=q:=by
 obtain ⟨b,hb,e⟩:=F.go (lp_le m h 12) hq;exact ⟨12+b,by omega,by rw [qeh,e]⟩
theorem Full.walk {m:Nat}(F:Full m) (h:Int) {q:Nat}(hq:q<=m):∃ k,k<=10 * (m+12)/\(stp m h k).j=q:=by
 obtain ⟨L,hL,e⟩:=F.lp h hq;obtain ⟨k,hk,e2⟩:=qgL m h L;exact ⟨k,by omega,by rw [e2];exact e⟩
theorem qdb (m:Nat) (h:Int) (k:Nat):(stp m h k).j<=m:=by
 have key:∀ k,(stp m h k).i<=m/\(stp m h k).j+(stp m h k).more<=m:=by
  intro k;induction k with
  | zero =>
   have:=Nat.mod_lt (bits h) (show 0<m+1 by omega);refine ⟨by show bits h % (m+1)<=m;omega,?_⟩;show bits h % (m+1)+(runEnd m (bits h % (m+1)) - bits h % (m+1))<=m;unfold runEnd;split <;> omega
  | succ k ih =>
   obtain ⟨h1,h2⟩:=ih;show (adv m (stp m h k)).i<=m/\(adv m (stp m h k)).j+(adv m (stp m h k)).more<=m;unfold adv;split
   .exact ⟨h1,by simp only;omega⟩
   .have:=Nat.mod_lt ((stp m h k).i * 5+1+(stp m h k).perturb / 32) (show 0<m+1 by omega);have e:(leap m (stp m h k).i (stp m h k).perturb).1=((stp m h k).i * 5+1+(stp m h k).perturb / 32) % (m+1):=rfl;simp only [e];refine ⟨by omega,?_⟩;unfold runEnd;split <;> omega
 have:=(key k).2;omega
def chk (m:Nat):Bool:=(List.range (m+1)).all (fun q=>(List.range (m+1)).any fun b=>itn (m+1) b 0 == q) && itn (m+1) (m+1) 0 == 0
theorem qeC {m:Nat}(h:chk m=true):Full m:=by
 unfold chk at h;rw [Bool.and_eq_true] at h;obtain ⟨h1,h2⟩:=h;refine ⟨fun q hq=>?_,by simpa using h2⟩;have:=List.all_eq_true.mp h1 q (List.mem_range.mpr (by omega));obtain ⟨b,hb,e⟩:=List.any_eq_true.mp this;exact ⟨b,by have:=List.mem_range.mp hb;omega,by simpa using e⟩
theorem full7:Full 7:=qeC (by decide +kernel)
theorem qkR:Full 31:=qeC (by decide +kernel)
end L2
namespace L2
open PySem PySem.SetTable
def S5:Nat->Nat
 | 0=>0
 | n+1=>5 * S5 n+1
theorem qho (a b:Nat):S5 (a+b)=5 ^ b * S5 a+S5 b:=by
 induction b with
 | zero=>simp [S5]
 | succ b ih =>
  rw [<- Nat.add_assoc];show 5 * S5 (a+b)+1=5 ^ (b+1) * S5 a+(5 * S5 b+1);rw [ih,Nat.pow_succ];grind
theorem p5 (e:Nat):∃ q,5 ^ e+1=2 * (2 * q+1):=by
 induction e with
 | zero=>exact ⟨0,rfl⟩
 | succ e ih =>
  obtain ⟨q,hq⟩:=ih;refine ⟨5 * q+1,?_⟩;rw [Nat.pow_succ];omega
theorem qfc (e:Nat):S5 (2 * e)=(5 ^ e+1) * S5 e:=by
 rw [show 2 * e=e+e by omega,qho];grind
theorem qlB (e:Nat):S5 (2 * e+1) % 2=1:=by
 show (5 * S5 (2 * e)+1) % 2=1;obtain ⟨q,hq⟩:=p5 e;rw [qfc,hq,Nat.mul_assoc];omega
theorem qhn:∀ (k d:Nat),2 ^ k ∣ S5 d->2 ^ k ∣ d
 | 0,d,_=>by simp
 | k+1,d,h=>by
  have hev:d % 2=0:=by
   apply Nat.eq_zero_of_not_pos;intro z;have hd:d=2 * (d / 2)+1:=by omega
   have h2:2 ∣ S5 d:=Nat.dvd_trans ⟨2 ^ k,by rw [Nat.pow_succ];omega⟩ h;rw [hd] at h2;have:=qlB (d / 2);omega
  obtain ⟨e,rfl⟩:∃ e,d=2 * e:=⟨d / 2,by omega⟩;obtain ⟨q,hq⟩:=p5 e;rw [qfc,hq,Nat.pow_succ,Nat.mul_comm (2 ^ k),Nat.mul_assoc] at h;have h3:=Nat.dvd_of_mul_dvd_mul_left (by decide) h;have co:Nat.Coprime (2 ^ k) (2 * q+1):=Nat.Coprime.pow_left _ (by
   unfold Nat.Coprime;rw [Nat.gcd_rec];simp [Nat.add_mod])
  have h4:=qhn k e (co.dvd_of_dvd_mul_left h3);rw [Nat.pow_succ,Nat.mul_comm];exact Nat.mul_dvd_mul_left 2 h4
theorem qhm:∀ k,2 ^ k ∣ S5 (2 ^ k)
 | 0=>by simp
 | k+1=>by
  obtain ⟨q,hq⟩:=p5 (2 ^ k);rw [Nat.pow_succ,Nat.mul_comm (2 ^ k) 2,qfc,hq,Nat.mul_assoc];exact Nat.mul_dvd_mul_left 2 (Nat.dvd_trans (qhm k) (Nat.dvd_mul_left _ _))
theorem qg4 (M:Nat):∀ b,itn M b 0 % M=S5 b % M
 | 0=>rfl
 | b+1=>by
  show (itn M b 0 * 5+1) % M % M=(5 * S5 b+1) % M;rw [Nat.mod_mod,Nat.add_mod,Nat.mul_mod,qg4 M b,<- Nat.mul_mod,<- Nat.add_mod,Nat.mul_comm]
theorem qg3 {M:Nat}(hM:0<M):∀ b,itn M b 0<M
 | 0=>hM
 | b+1=>Nat.mod_lt _ hM
theorem qlC {k a b:Nat}(hab:a<=b) (hb:b<2 ^ k) (h:S5 a % 2 ^ k=S5 b % 2 ^ k):a=b:=by
 obtain ⟨d,rfl⟩:∃ d,b=d+a:=⟨b - a,by omega⟩;rw [qho] at h;have h1:2 ^ k ∣ 5 ^ a * S5 d:=by
  have:=Nat.sub_mod_eq_zero_of_mod_eq h.symm;rw [Nat.add_sub_cancel] at this;exact Nat.dvd_of_mod_eq_zero this
 have co:Nat.Coprime (2 ^ k) (5 ^ a):=Nat.Coprime.pow _ _ (by decide);have h2:=qhn k d (co.dvd_of_dvd_mul_left h1);have:d=0:=Nat.eq_zero_of_dvd_of_lt h2 (by omega);omega
theorem qar:∀ {n:Nat}{l:List Nat},l.Nodup->(∀ x∈l,x<n)->l.length=n->∀ q,q<n->q∈l:=fun {n l} h1 h2 h3 q hq=>by
 have hp:l.Perm (List.range n):=by
  have sub:∀ (l r:List Nat),l.Nodup->(∀ x∈l,x∈r)->∃ r',(l++r').Perm r:=by
   intro l;induction l with
   | nil=>exact fun r _ _=>⟨r,List.Perm.refl _⟩
   | cons a l ih =>
    intro r hn hs;have ha:=hs a qe;obtain ⟨r',hr'⟩:=ih (r.erase a) (List.nodup_cons.mp hn).2 (fun x hx=>by
     have:x≠a:=fun z=>(List.nodup_cons.mp hn).1 (z ▸ hx);exact (List.mem_erase_of_ne this).mpr (hs x (qf _ hx)))
    exact ⟨r',(hr'.cons a).trans (List.perm_cons_erase ha).symm⟩
  obtain ⟨r',hr'⟩:=sub l (List.range n) h1 fun x hx=>List.mem_range.mpr (h2 x hx);have:=hr'.length_eq;rw [List.length_append,List.length_range] at this;have:r'=[]:=List.eq_nil_of_length_eq_zero (by omega);rw [this,List.append_nil] at hr';exact hr'
 exact hp.mem_iff.mpr (List.mem_range.mpr hq)
theorem Ym (k m:Nat) (hm:m+1=2 ^ k):Full m:=by
 have hM:0<2 ^ k:=by omega
 have red:∀ b,itn (2 ^ k) b 0=S5 b % 2 ^ k:=fun b=>by
  have:=qg4 (2 ^ k) b;rwa [Nat.mod_eq_of_lt (qg3 hM b)] at this
 refine ⟨fun q hq=>?_,?_⟩
 .have hnd:((List.range (2 ^ k)).map fun b=>itn (2 ^ k) b 0).Nodup:=by
   refine yh.mpr (qU.mpr fun i j hi hj hij z=>?_);rw [List.length_range] at hi hj;rw [List.getElem_range,List.getElem_range,red,red] at z;have:=qlC (qP hij) hj z;omega
  have:=qar hnd (fun x hx=>by
   obtain ⟨b,_,rfl⟩:=ql.mp hx;exact qg3 hM b) (by simp) q (by omega)
  obtain ⟨b,hb,e⟩:=ql.mp this;have:=List.mem_range.mp hb;exact ⟨b,by omega,by rw [hm];exact e⟩
 .rw [hm,red];exact Nat.mod_eq_zero_of_dvd (qhm k)
theorem qiS:Full 127:=Ym 7 127 (by decide)
theorem qiR:Full 511:=Ym 9 511 (by decide)
theorem qf9:Full 2047:=Ym 11 2047 (by decide)
theorem qf8:Full 8191:=Ym 13 8191 (by decide)
def qhq (xs:Array Nat):Prop:=∀ i j,i<j->j<xs.size->xs.getD i 0<xs.getD j 0
theorem getD_some {xs:Array Nat}{i d:Nat}(h:i<xs.size):xs[i]?=some (xs.getD i d):=by simp [Array.getD,h]
theorem ZV {xs:Array Nat}{j:Nat}(hr:qhq xs):∀ (fu lo hi:Nat),lo<=hi->hi<=xs.size->hi - lo<=fu->(∀ i,i<lo->xs.getD i 0<j)->(∀ i,hi<=i->i<xs.size->j<=xs.getD i 0) →
  (∀ i,i<below.go xs j fu lo hi->xs.getD i 0<j)/\(∀ i,below.go xs j fu lo hi<=i->i<xs.size->j<=xs.getD i 0)/\below.go xs j fu lo hi<=xs.size
 | 0,lo,hi,h1,h2,h3,h4,h5=>by
  have:lo=hi:=by omega
  subst this;exact ⟨h4,h5,h2⟩
 | fu+1,lo,hi,h1,h2,h3,h4,h5=>by
  unfold below.go;by_cases c:lo<hi
  .rw [if_pos c];dsimp only;have hm:(lo+hi) / 2<xs.size:=by omega
   have e:xs.getD ((lo+hi) / 2) j=xs.getD ((lo+hi) / 2) 0:=by simp [Array.getD,hm]
   rw [e];by_cases d:xs.getD ((lo+hi) / 2) 0<j
   .rw [if_pos d];refine ZV hr fu _ hi (by omega) h2 (by omega) (fun i hi'=>?_) h5;by_cases q:i=(lo+hi) / 2
    .subst q;exact d
    .exact yj (hr i ((lo+hi) / 2) (by omega) hm) d
   .rw [if_neg d];refine ZV hr fu lo _ (by omega) (by omega) (by omega) h4 fun i hi' hlt=>?_;by_cases q:i=(lo+hi) / 2
    .subst q;omega
    .have:=hr ((lo+hi) / 2) i (by omega) hlt;omega
  .rw [if_neg c];have:lo=hi:=by omega
   subst this;exact ⟨h4,h5,h2⟩
theorem jN {xs:Array Nat}(hr:qhq xs) (j:Nat):(∀ i,i<below xs j->xs.getD i 0<j)/\(∀ i,below xs j<=i->i<xs.size->j<=xs.getD i 0)/\below xs j<=xs.size :=
 ZV hr xs.size 0 xs.size (qB _) (Nat.le_refl _) (by omega) (fun i z=>absurd z (by omega)) fun i a b=>absurd b (by omega)
theorem ZW {xs:Array Nat}(hr:qhq xs) {i j:Nat}(h:xs[i]?=some j):below xs j=i:=by
 obtain ⟨h1,h2,h3⟩:=jN hr j;have hi:i<xs.size:=by
  rcases jG i xs.size with z | z
  .exact z
  .rw [Array.getElem?_eq_none z] at h;cases h
 have e:xs.getD i 0=j:=by
  have:=getD_some (d:=0) hi;rw [h] at this;exact (Option.some.inj this).symm
 rcases Nat.lt_trichotomy (below xs j) i with z | z | z
 .have a:=h2 (below xs j) (Nat.le_refl _) (by omega);have b:=hr (below xs j) i z hi;omega
 .exact z
 .have:=h1 i z;omega
theorem qfA {xs:Array Nat}(hr:qhq xs) {i i' j:Nat}(h:xs[i]?=some j) (h':xs[i']?=some j):i=i':=(ZW hr h).symm.trans (ZW hr h')
structure Tab (t:SetTable) (m n:Nat):Prop where
 mask:t.mask=m
 dm:t.dummies=#[]
 size:t.place.size=n
 rise:qhq t.place
 le:∀ i j:Nat,t.place[i]?=some j->j<=m
def Fl (t:SetTable) (j:Nat):Prop:=∃ i:Nat,t.place[i]?=some j
theorem qeB (j:Nat):has #[] j=false:=by simp [has]
section
variable {t:SetTable}{m n:Nat}
theorem Tab.live (T:Tab t m n) {i j:Nat}(h:t.place[i]?=some j):t.slot j = .live i:=by
 unfold slot;have e:=ZW T.rise h;simp only [e,h,beq_self_eq_true,if_true]
theorem Tab.empty (T:Tab t m n) {j:Nat}(h:¬ Fl t j):t.slot j = .empty:=by
 unfold slot;have e:(t.place[below t.place j]? == some j)=false:=by
  rw [Bool.eq_false_iff];intro z;exact h ⟨_,by simpa using z⟩
 simp only [e,T.dm,qeB,Bool.false_eq_true,if_false]
theorem Tab.free (T:Tab t m n) (hn:n<=m):∃ q,q<=m/\¬ Fl t q:=by
 refine Classical.byContradiction fun hc=>?_;have all:∀ q,q<=m->Fl t q:=fun q hq=>Classical.byContradiction fun z=>hc ⟨q,hq,z⟩;have sub:List.range (m+1) ⊆ t.place.toList:=fun q hq=>by
  obtain ⟨i,e⟩:=all q (by have:=List.mem_range.mp hq;omega);exact List.mem_of_getElem? (by rw [qG];exact e)
 have:=List.Nodup.length_le_of_subset List.nodup_range sub;rw [List.length_range,Array.length_toList,T.size] at this;omega
theorem Tab.probe_go (T:Tab t m n) {hashAt:Nat->Int}{h:Int}{K:Nat}(hK:¬ Fl t (stp m h K).j):∀ (fu k:Nat),k<=K->K - k<fu →
  ∃ x,k<=x/\x<=K/\(∀ l,k<=l->l<x->∃ i:Nat,t.place[i]?=some (stp m h l).j/\hashAt i≠h) ∧
   ((¬ Fl t (stp m h x).j/\probe.go t hashAt h fu (stp m h k)=some (.empty (stp m h x).j none)) ∨
    ∃ i:Nat,t.place[i]?=some (stp m h x).j/\hashAt i=h/\probe.go t hashAt h fu (stp m h k)=some (.candidate (stp m h x).j i (stp m h (x+1))))
 | 0,k,_,z=>absurd z (by omega)
 | fu+1,k,hk,hf=>by
  unfold probe.go;by_cases c:Fl t (stp m h k).j
  .obtain ⟨i,e⟩:=id c;rw [T.live e];dsimp only;have adv1:t.advance (stp m h k)=stp m h (k+1):=by rw [qcV,T.mask];rfl
   by_cases d:hashAt i=h
   .refine ⟨k,Nat.le_refl _,hk,fun l a b=>absurd b (by omega),.inr ⟨i,e,d,?_⟩⟩;rw [if_pos (by rw [d];exact beq_self_eq_true _),adv1]
   .rw [if_neg (by simpa using d),adv1];have hne:k≠K:=fun z=>hK (z ▸ c);obtain ⟨x,x1,x2,x3,x4⟩:=T.probe_go hK fu (k+1) (by omega) (by omega);refine ⟨x,by omega,x2,fun l a b=>?_,x4⟩;by_cases q:l=k
    .subst q;exact ⟨i,e,d⟩
    .exact x3 l (by omega) b
  .rw [T.empty c];dsimp only;exact ⟨k,Nat.le_refl _,hk,fun l a b=>absurd b (by omega),.inl ⟨c,by rw [Z9]⟩⟩
end
theorem y6 {Z:Type}{xs:Array Z}{p:Nat}{x:Z}(hp:p<=xs.size) (i:Nat):(insertAt xs p x)[i]?=if i<p then xs[i]? else if i=p then some x else xs[i - 1]?:=by
 unfold insertAt;have s1:((xs.extract 0 p).push x).size=p+1:=by simp [Array.size_push,Array.size_extract];omega
 have s0:(xs.extract 0 p).size=p:=by simp [Array.size_extract];omega
 rw [Array.getElem?_append,s1];by_cases c:i<p
 .rw [if_pos (by omega),if_pos c,Array.getElem?_push,s0,if_neg (by omega),Array.getElem?_extract,if_pos (by omega),Nat.zero_add]
 .rw [if_neg c];by_cases d:i=p
  .subst d;rw [if_pos (by omega),if_pos rfl,Array.getElem?_push,s0,if_pos rfl]
  .rw [if_neg d,if_neg (by omega),Array.getElem?_extract];by_cases e:i - 1<xs.size
   .rw [if_pos (by omega)];congr 1;omega
   .rw [if_neg (by omega),Array.getElem?_eq_none (by omega)]
theorem JF {Z:Type}{xs:Array Z}{p:Nat}{x:Z}(hp:p<=xs.size):(insertAt xs p x).size=xs.size+1:=by
 unfold insertAt;simp [Array.size_extract];omega
def AtS {Z:Type}(place:Array Nat) (es:Array Z) (j:Nat) (e:Z):Prop:=∃ i:Nat,place[i]?=some j/\es[i]?=some e
theorem qkO {Z:Type}{place:Array Nat}{es:Array Z}{p j j':Nat}{e e':Z}(hp:p<=place.size) (hq:p<=es.size):AtS (insertAt place p j) (insertAt es p e) j' e' ↔ AtS place es j' e'\/(j'=j/\e'=e):=by
 constructor
 .rintro ⟨i,h1,h2⟩;rw [y6 hp] at h1;rw [y6 hq] at h2;by_cases c:i<p
  .rw [if_pos c] at h1 h2;exact .inl ⟨i,h1,h2⟩
  .rw [if_neg c] at h1 h2;by_cases d:i=p
   .rw [if_pos d] at h1 h2;exact .inr ⟨(Option.some.inj h1).symm,(Option.some.inj h2).symm⟩
   .rw [if_neg d] at h1 h2;exact .inl ⟨i - 1,h1,h2⟩
 .rintro (⟨i,h1,h2⟩ | ⟨rfl,rfl⟩)
  .by_cases c:i<p
   .exact ⟨i,by rw [y6 hp,if_pos c];exact h1,by rw [y6 hq,if_pos c];exact h2⟩
   .exact ⟨i+1,by rw [y6 hp,if_neg (by omega),if_neg (by omega)];exact h1,by rw [y6 hq,if_neg (by omega),if_neg (by omega)];exact h2⟩
  .exact ⟨p,by rw [y6 hp,if_neg (by omega),if_pos rfl],by rw [y6 hq,if_neg (by omega),if_pos rfl]⟩
theorem qfz {xs:Array Nat}(hr:qhq xs) {j:Nat}(hj:¬ ∃ i:Nat,xs[i]?=some j):qhq (insertAt xs (below xs j) j):=by
 obtain ⟨h1,h2,h3⟩:=jN hr j;have val:∀ i,i<xs.size+1->(insertAt xs (below xs j) j).getD i 0=if i<below xs j then xs.getD i 0 else if i=below xs j then j else xs.getD (i - 1) 0:=fun i hi=>by
  have e:=y6 (x:=j) h3 i;simp only [Array.getD_eq_getD_getElem?,e];split
  .rfl
  .split <;> rfl
 have gt:∀ i,below xs j<=i->i<xs.size->j<xs.getD i 0:=fun i a b=>by
  have:=h2 i a b;have ne:xs.getD i 0≠j:=fun z=>hj ⟨i,by rw [getD_some (d:=0) b,z]⟩;omega
 intro a b hab hb;rw [JF h3] at hb;rw [val a (by omega),val b hb];by_cases b1:b<below xs j
 .rw [if_pos b1,if_pos (by omega)];exact hr a b hab (by omega)
 .rw [if_neg b1];by_cases b2:b=below xs j
  .rw [if_pos b2,if_pos (by omega)];exact h1 a (by omega)
  .rw [if_neg b2];by_cases a1:a<below xs j
   .rw [if_pos a1];exact hr a (b - 1) (by omega) (by omega)
   .rw [if_neg a1];by_cases a2:a=below xs j
    .rw [if_pos a2];exact gt (b - 1) (by omega) (by omega)
    .rw [if_neg a2];exact hr (a - 1) (b - 1) (by omega) (by omega)
theorem Tab.put {t:SetTable}{m n:Nat}(T:Tab t m n) {j:Nat}(hj:¬ Fl t j) (hm:j<=m):Tab (t.put j).1 m (n+1)/\(t.put j).2=below t.place j/\(t.put j).1.place=insertAt t.place (below t.place j) j:=by
 obtain ⟨h1,h2,h3⟩:=jN T.rise j;refine ⟨⟨T.mask,?_,?_,qfz T.rise hj,fun i j' e=>?_⟩,rfl,rfl⟩
 .show (if has t.dummies j=true then _ else t.dummies)=#[];rw [T.dm,qeB,if_neg (by simp)]
 .show (insertAt t.place (below t.place j) j).size=n+1;rw [JF h3,T.size]
 .have e:(insertAt t.place (below t.place j) j)[i]?=some j':=e;rw [y6 h3] at e;split at e
  .exact T.le _ _ e
  .split at e
   .rw [<- Option.some.inj e];exact hm
   .exact T.le _ _ e
end L2
namespace L2
open PySem PySem.SetTable
def Rch (fl:Nat->Prop) (m:Nat) (h:Int) (j:Nat):Prop:=∃ k,(stp m h k).j=j/\∀ l,l<k->fl (stp m h l).j
theorem Rch.mono {fl fl':Nat->Prop}{m:Nat}{h:Int}{j:Nat}(f:∀ q,fl q->fl' q) (r:Rch fl m h j):Rch fl' m h j:=by
 obtain ⟨k,e,a⟩:=r;exact ⟨k,e,fun l hl=>f _ (a l hl)⟩
structure SetI {Z:Type}(t:SetTable) (es:Array (Int×Z)) (m n:Nat):Prop where
 tab:Tab t m n
 sz:es.size=n
 rch:∀ (j:Nat) (e:Int×Z),AtS t.place es j e->Rch (Fl t) m e.1 j
def fO (owner:Array (Option Nat)) (j:Nat):Prop:=(owner.getD j (some 0)).isSome=true
theorem qeE {m:Nat}{owner:Array (Option Nat)}{h:Int}:∀ (fu L k0:Nat),stp m h k0=at0 m (lp m h L).1 (lp m h L).2->(∀ l,l<k0->fO owner (stp m h l).j)->(∃ L',L<=L'/\L'<L+fu/\¬ fO owner (lp m h L').1) →
  ∃ j,layClean.free m owner fu (lp m h L).1 (lp m h L).2=some j/\¬ fO owner j/\Rch (fO owner) m h j
 | 0,L,k0,_,_,⟨L',a,b,_⟩=>absurd b (by omega)
 | fu+1,L,k0,hk,hf,⟨L',a,b,c⟩=>by
  unfold layClean.free;have ri:=qdE hk;cases hfind:(List.range (runEnd m (lp m h L).1+1 - (lp m h L).1)).find? fun k=>(owner.getD ((lp m h L).1+k) (some 0)).isNone with
  | some kk =>
   obtain ⟨p1,p2,p3⟩:=List.find?_range_eq_some.mp hfind;have hkk:=List.mem_range.mp p2;refine ⟨(lp m h L).1+kk,rfl,fun z=>?_,k0+kk,by rw [ri kk (by omega)],fun l hl=>?_⟩
   .unfold fO at z;rw [Option.isNone_iff_eq_none.mp p1] at z;cases z
   .by_cases d:l<k0
    .exact hf l d
    .obtain ⟨r,rfl⟩:∃ r,l=k0+r:=⟨l - k0,by omega⟩;rw [ri r (by omega)];have:=p3 r (by omega);unfold fO;rw [Bool.not_eq_true',Option.isNone_eq_false_iff] at this;exact this
  | none =>
   have pn:=List.find?_eq_none.mp hfind;have fil:∀ r,r<=runEnd m (lp m h L).1 - (lp m h L).1->fO owner ((lp m h L).1+r):=fun r hr=>by
    have hge:(lp m h L).1<=runEnd m (lp m h L).1:=by unfold runEnd;split <;> omega
    have:=pn r (List.mem_range.mpr (by omega));unfold fO;rw [Bool.not_eq_true,Option.isNone_eq_false_iff] at this;exact this
   have hne:L'≠L:=by
    rintro rfl;exact c (by simpa using fil 0 (qB _))
   refine qeE fu (L+1) (k0+(runEnd m (lp m h L).1 - (lp m h L).1)+1) (qgK hk) (fun l hl=>?_) ⟨L',by omega,by omega,c⟩;by_cases d:l<k0
   .exact hf l d
   .obtain ⟨r,rfl⟩:∃ r,l=k0+r:=⟨l - k0,by omega⟩;rw [ri r (by omega)];exact fil r (by omega)
structure OW (m:Nat) (hs:Nat->Int) (owner:Array (Option Nat)) (k:Nat):Prop where
 sz:owner.size=m+1
 own:∀ j i:Nat,owner[j]?=some (some i)->i<k/\Rch (fO owner) m (hs i) j
 ex:∀ i,i<k->∃ j:Nat,owner[j]?=some (some i)
 inj:∀ j j' i:Nat,owner[j]?=some (some i)->owner[j']?=some (some i)->j=j'
def qf6 (m:Nat) (owner:Array (Option Nat)):List Nat:=(List.range (m+1)).filterMap fun j=>owner.getD j none
theorem Jw {owner:Array (Option Nat)}{j i:Nat}:owner.getD j none=some i ↔ owner[j]?=some (some i):=by
 rw [Array.getD_eq_getD_getElem?];cases owner[j]? with
 | none=>simp
 | some o=>simp
theorem OW.nodup {m k:Nat}{hs:Nat->Int}{owner:Array (Option Nat)}(W:OW m hs owner k):(qf6 m owner).Nodup:=by
 refine List.Pairwise.filterMap _ (fun a a' hne b e b' e' z=>?_) List.nodup_range;subst z;exact hne (W.inj _ _ _ (Jw.mp e) (Jw.mp e'))
theorem OW.len {m k:Nat}{hs:Nat->Int}{owner:Array (Option Nat)}(W:OW m hs owner k):(qf6 m owner).length=k:=by
 apply Nat.le_antisymm
 .have sub:qf6 m owner ⊆ List.range k:=fun i hi=>by
   obtain ⟨j,_,e⟩:=List.mem_filterMap.mp hi;exact List.mem_range.mpr (W.own j i (Jw.mp e)).1
  have:=List.Nodup.length_le_of_subset W.nodup sub;rwa [List.length_range] at this
 .have sub:List.range k ⊆ qf6 m owner:=fun i hi=>by
   obtain ⟨j,e⟩:=W.ex i (List.mem_range.mp hi);have hj:j<owner.size:=by
    rcases jG j owner.size with z | z
    .exact z
    .rw [Array.getElem?_eq_none z] at e;cases e
   exact List.mem_filterMap.mpr ⟨j,List.mem_range.mpr (by rw [W.sz] at hj;exact hj),Jw.mpr e⟩
  have:=List.Nodup.length_le_of_subset List.nodup_range sub;rwa [List.length_range] at this
theorem OW.free {m k:Nat}{hs:Nat->Int}{owner:Array (Option Nat)}(W:OW m hs owner k) (hk:k<=m):∃ q,q<=m/\¬ fO owner q:=by
 refine Classical.byContradiction fun hc=>?_;have all:∀ q,q<=m->fO owner q:=fun q hq=>Classical.byContradiction fun z=>hc ⟨q,hq,z⟩;have h1:=W.len;unfold qf6 at h1;rw [List.length_filterMap_eq_countP] at h1;have h2:List.countP (fun j=>(owner.getD j none).isSome) (List.range (m+1))=(List.range (m+1)).length:=List.countP_eq_length.mpr fun j hj=>by
  have hj:=List.mem_range.mp hj;have a:=all j (by omega);have hlt:j<owner.size:=by rw [W.sz];exact hj
  unfold fO at a;simpa [Array.getD,hlt] using a
 rw [h2,List.length_range] at h1;omega
theorem OW.step {m k:Nat}{hs:Nat->Int}{owner:Array (Option Nat)}(W:OW m hs owner k) {j:Nat}(hj:¬ fO owner j) (hr:Rch (fO owner) m (hs k) j):OW m hs (owner.setIfInBounds j (some k)) (k+1):=by
 have hlt:j<owner.size:=by
  rcases jG j owner.size with z | z
  .exact z
  .refine absurd ?_ hj;unfold fO;simp [Array.getD,Nat.not_lt.mpr z]
 have nn:owner[j]?=some none:=by
  cases e:owner[j]? with
  | none=>rw [Array.getElem?_eq_none_iff] at e;omega
  | some o =>
   cases o with
   | none=>rfl
   | some i =>
    refine absurd ?_ hj;unfold fO;rw [Array.getD_eq_getD_getElem?,e];rfl
 have get:∀ q:Nat,(owner.setIfInBounds j (some k))[q]?=if q=j then some (some k) else owner[q]?:=fun q=>by
  rw [Array.getElem?_setIfInBounds];by_cases c:q=j
  .subst c;simp [hlt]
  .rw [if_neg c,if_neg (fun z=>c z.symm)]
 have up:∀ q,fO owner q->fO (owner.setIfInBounds j (some k)) q:=fun q hq=>by
  unfold fO at hq ⊢;rw [Array.getD_eq_getD_getElem?] at hq ⊢;rw [get];split
  .rfl
  .exact hq
 refine ⟨by rw [Array.size_setIfInBounds];exact W.sz,fun q i e=>?_,fun i hi=>?_,fun q q' i e e'=>?_⟩
 .rw [get] at e;by_cases c:q=j
  .rw [if_pos c] at e;have:k=i:=Option.some.inj (Option.some.inj e);subst this;subst c;exact ⟨by omega,hr.mono up⟩
  .rw [if_neg c] at e;obtain ⟨a,b⟩:=W.own q i e;exact ⟨by omega,b.mono up⟩
 .by_cases c:i=k
  .subst c;exact ⟨j,by rw [get,if_pos rfl]⟩
  .obtain ⟨q,e⟩:=W.ex i (by omega);refine ⟨q,?_⟩;rw [get,if_neg (fun z=>by rw [z,nn] at e;cases e)];exact e
 .rw [get] at e e';by_cases c:q=j
  .rw [if_pos c] at e;have hik:k=i:=Option.some.inj (Option.some.inj e);by_cases c':q'=j
   .rw [c,c']
   .rw [if_neg c'] at e';have:=(W.own q' i e').1;omega
  .rw [if_neg c] at e;by_cases c':q'=j
   .rw [if_pos c'] at e';have hik:k=i:=Option.some.inj (Option.some.inj e');have:=(W.own q i e).1;omega
   .rw [if_neg c'] at e';exact W.inj q q' i e e'
theorem OW.init (m:Nat) (hs:Nat->Int):OW m hs (Array.replicate (m+1) none) 0:=by
 have z:∀ j i:Nat,(Array.replicate (m+1) (none:Option Nat))[j]?=some (some i)->False:=fun j i e=>by
  rw [Array.getElem?_replicate] at e;split at e <;> simp at e
 exact ⟨by simp,fun j i e=>(z j i e).elim,fun i hi=>absurd hi (by omega),fun j j' i e=>(z j i e).elim⟩
def qbp (m:Nat) (acc:Option (Array (Option Nat)×Nat)) (h:Int):Option (Array (Option Nat)×Nat):=do
 let (owner,k) <- acc
 let j <- layClean.free m owner (turns m) (bits h % (m+1)) (bits h)
 pure (owner.setIfInBounds j (some k),k+1)
theorem YB (m:Nat) (hashes:Array Int):layClean m hashes=(hashes.foldl (qbp m) (some (Array.replicate (m+1) none,0))).map (·.1):=rfl
theorem qbs {m:Nat}(F:Full m) {hs:Nat->Int}:∀ (l:List Int) (owner:Array (Option Nat)) (k:Nat),OW m hs owner k->(∀ i (h:Int),l[i]?=some h->hs (k+i)=h)->k+l.length<=m+1 →
  ∃ owner',l.foldl (qbp m) (some (owner,k))=some (owner',k+l.length)/\OW m hs owner' (k+l.length)
 | [],owner,k,W,_,_=>⟨owner,rfl,W⟩
 | h::l,owner,k,W,hl,hk=>by
  simp only [List.length_cons] at hk ⊢;obtain ⟨q,hq,hq2⟩:=W.free (by omega);obtain ⟨L',a,b⟩:=F.lp h hq;obtain ⟨j,e,j1,j2⟩:=qeE (m:=m) (owner:=owner) (h:=h) (turns m) 0 0 rfl (fun l z=>absurd z (by omega)) ⟨L',by omega,by unfold turns;omega,by rw [b];exact hq2⟩;have hk0:hs k=h:=hl 0 h rfl;have W':=W.step j1 (by rw [hk0];exact j2);obtain ⟨o',e',W''⟩:=qbs F l _ (k+1) W' (fun i h' e=>by rw [show k+1+i=k+(i+1) by omega];exact hl (i+1) h' (by simpa using e)) (by omega);refine ⟨o',?_,by rw [show k+(l.length+1)=k+1+l.length by omega];exact W''⟩;rw [List.foldl_cons];have e0:qbp m (some (owner,k)) h=some (owner.setIfInBounds j (some k),k+1):=by
   show (layClean.free m owner (turns m) (bits h % (m+1)) (bits h) >>= fun j=>pure (owner.setIfInBounds j (some k),k+1))=_;have e:layClean.free m owner (turns m) (bits h % (m+1)) (bits h)=some j:=e;rw [e];rfl
  rw [e0,e',show k+(l.length+1)=k+1+l.length by omega]
theorem qg9 {Z β:Type}{f:Z->Option β}:∀ {l:List Z},(∀ x∈l,(f x).isSome=true)->∀ i:Nat,(l.filterMap f)[i]?=l[i]?.bind f
 | [],_,i=>by simp
 | x::l,h,i=>by
  obtain ⟨y,e⟩:=Option.isSome_iff_exists.mp (h x qe);rw [List.filterMap_cons_some e];cases i with
  | zero=>simp [e]
  | succ i=>simpa using qg9 (fun z hz=>h z (qf _ hz)) i
theorem qkU {Z β:Type}{f:Z->Option β}{l:List Z}(h:∀ x∈l,(f x).isSome=true):(l.filterMap f).length=l.length:=by rw [List.length_filterMap_eq_countP,List.countP_eq_length.mpr h]
theorem qen {Z:Type}{m n fi mv:Nat}(F:Full m) {ld pl:Bool}{es:Array (Int×Z)}(hn:es.size=n) (hm:n<=m+1) :
  ∃ (t:SetTable) (order:Array Nat),laid m fi mv ld pl (es.map (·.1))=some (t,order)/\t.led=ld/\t.plain=pl/\(order.filterMap (es[·]?)).size=es.size/\SetI t (order.filterMap (es[·]?)) m n ∧
   (∀ e,e∈(order.filterMap (es[·]?)).toList ↔ e∈es.toList) ∧
   ∀ (i i':Nat) (e e':Int×Z),(order.filterMap (es[·]?))[i]?=some e->(order.filterMap (es[·]?))[i']?=some e'->(∀ y y':Nat,es[y]?=some e->es[y']?=some e'->y=y')->i=i':=by
 obtain ⟨owner,eo,W⟩:=qbs F (hs:=fun i=>((es.map (·.1)).getD i 0)) (es.map (·.1)).toList (Array.replicate (m+1) none) 0 (OW.init m _) (fun i h e=>by rw [Nat.zero_add,Array.getD_eq_getD_getElem?,<- qG,e];rfl) (by simp;omega);have hlen:(es.map (·.1)).toList.length=n:=by simp [hn]
 rw [Nat.zero_add,hlen] at eo W;have live:∃ live:List (Nat×Nat),live=(List.range (m+1)).filterMap fun j=>(owner.getD j none).map (j,·):=⟨_,rfl⟩;obtain ⟨live,el⟩:=live;have lmem:∀ j i,(j,i)∈live ↔ owner[j]?=some (some i):=fun j i=>by
  rw [el,List.mem_filterMap];constructor
  .rintro ⟨q,_,e⟩;cases o:owner.getD q none with
   | none=>rw [o] at e;cases e
   | some x =>
    rw [o] at e;cases e
    exact Jw.mp o
  .intro e;have hj:j<owner.size:=by
    rcases jG j owner.size with z | z
    .exact z
    .rw [Array.getElem?_eq_none z] at e;cases e
   exact ⟨j,List.mem_range.mpr (by rw [W.sz] at hj;exact hj),by rw [Jw.mpr e];rfl⟩
 have llen:live.length=n:=by
  have:=W.len;unfold qf6 at this;rw [List.length_filterMap_eq_countP] at this;rw [el,List.length_filterMap_eq_countP,<- this];congr 1;funext j
  cases owner.getD j none <;> rfl
 have lsort:live.Pairwise fun a b=>a.1<b.1:=by
  rw [el];refine List.Pairwise.filterMap _ (fun a a' hlt b e b' e'=>?_) List.pairwise_lt_range;cases o:owner.getD a none with
  | none=>rw [o] at e;cases e
  | some x =>
   cases o':owner.getD a' none with
   | none=>rw [o'] at e';cases e'
   | some x' =>
    rw [o] at e;rw [o'] at e';cases e;cases e'
    exact hlt
 have some1:∀ x∈live.map (·.2),(es[x]?).isSome=true:=fun x hx=>by
  obtain ⟨⟨j,i⟩,hji,rfl⟩:=ql.mp hx;have:=(W.own j i ((lmem j i).mp hji)).1;simp [hn,this]
 have es':((live.map (·.2)).toArray.filterMap (es[·]?))=((live.map (·.2)).filterMap (es[·]?)).toArray:=by simp
 have get':∀ i:Nat,((live.map (·.2)).toArray.filterMap (es[·]?))[i]?=live[i]?.bind fun x=>es[x.2]?:=fun i=>by
  rw [es',List.getElem?_toArray,qg9 some1,List.getElem?_map];cases live[i]? <;> rfl
 have size':((live.map (·.2)).toArray.filterMap (es[·]?)).size=n:=by rw [es',List.size_toArray,qkU some1,List.length_map,llen]
 have pget:∀ i:Nat,(live.map (·.1)).toArray[i]?=live[i]?.map (·.1):=fun i=>by rw [List.getElem?_toArray,List.getElem?_map]
 refine ⟨{ mask:=m,place:=(live.map (·.1)).toArray,dummies:=#[],finger:=fi,led:=ld,moves:=mv,plain:=pl },(live.map (·.2)).toArray,?_,rfl,rfl,by rw [size',hn],⟨⟨rfl,rfl,by simp [llen],?_,?_⟩,size',?_⟩,fun e=>?_,fun i i' e e' h1 h2 hyy=>?_⟩
 .unfold laid;rw [YB,<- Array.foldl_toList,eo,el];rfl
 .intro a b hab hb;have hb':b<live.length:=by simpa using hb
  have ha':a<live.length:=by omega
  have:=qU.mp lsort a b ha' hb' hab;simpa [Array.getD,ha',hb'] using this
 .intro i j e;rw [show ({ mask:=m,place:=(live.map (·.1)).toArray,dummies:=#[],finger:=fi,led:=ld,moves:=mv,plain:=pl }:SetTable).place[i]?=live[i]?.map (·.1) from pget i] at e;cases o:live[i]? with
  | none=>rw [o] at e;cases e
  | some x =>
   rw [o] at e;obtain ⟨q,y⟩:=x;have hq:=(lmem q y).mp (List.mem_of_getElem? o);have:q=j:=Option.some.inj e;subst this;have hj:q<owner.size:=by
    rcases jG q owner.size with z | z
    .exact z
    .rw [Array.getElem?_eq_none z] at hq;cases hq
   rw [W.sz] at hj;omega
 .rintro j e ⟨i,h1,h2⟩;rw [show ({ mask:=m,place:=(live.map (·.1)).toArray,dummies:=#[],finger:=fi,led:=ld,moves:=mv,plain:=pl }:SetTable).place[i]?=live[i]?.map (·.1) from pget i] at h1;rw [get'] at h2;cases o:live[i]? with
  | none=>rw [o] at h1;cases h1
  | some x =>
   rw [o] at h1 h2;obtain ⟨q,y⟩:=x;have e1:q=j:=Option.some.inj h1;subst e1;have h2:es[y]?=some e:=h2;have hr:=(W.own q y ((lmem q y).mp (List.mem_of_getElem? o))).2;have eh:((es.map (·.1)).getD y 0)=e.1:=by rw [Array.getD_eq_getD_getElem?,Array.getElem?_map,h2];rfl
   rw [<- eh];obtain ⟨k,ek,ak⟩:=hr;refine ⟨k,ek,fun l hl=>?_⟩;have hp:=ak l hl;have hle:=qdb m ((es.map (·.1)).getD y 0) l;generalize (stp m ((es.map (·.1)).getD y 0) l).j=p at hp hle;unfold fO at hp;rw [Array.getD_eq_getD_getElem?] at hp;cases oo:owner[p]? with
   | none =>
    rw [Array.getElem?_eq_none_iff,W.sz] at oo;omega
   | some v =>
    rw [oo] at hp;cases v with
    | none=>cases hp
    | some z =>
     obtain ⟨a,ea⟩:=qI ((lmem p z).mpr oo);exact ⟨a,by rw [show ({ mask:=m,place:=(live.map (·.1)).toArray,dummies:=#[],finger:=fi,led:=ld,moves:=mv,plain:=pl }:SetTable).place[a]?=live[a]?.map (·.1) from pget a,ea];rfl⟩
 .constructor
  .intro he;obtain ⟨i,ei⟩:=qI he;rw [qG,get'] at ei;cases o:live[i]? with
   | none=>rw [o] at ei;cases ei
   | some x =>
    rw [o] at ei;exact List.mem_of_getElem? (by rw [qG];exact ei)
  .intro he;obtain ⟨y,ey⟩:=qI he;rw [qG] at ey;have hy:y<n:=by
    rcases jG y es.size with z | z
    .omega
    .rw [Array.getElem?_eq_none z] at ey;cases ey
   obtain ⟨j,ej⟩:=W.ex y hy;obtain ⟨i,ei⟩:=qI ((lmem j y).mpr ej);refine List.mem_of_getElem? (i:=i) ?_;rw [qG,get',ei];exact ey
 .rw [get'] at h1 h2;cases o:live[i]? with
  | none=>rw [o] at h1;cases h1
  | some x =>
   cases o':live[i']? with
   | none=>rw [o'] at h2;cases h2
   | some x' =>
    rw [o] at h1;rw [o'] at h2;have hxx:x.2=x'.2:=hyy _ _ h1 h2;have j1:=(lmem x.1 x.2).mp (List.mem_of_getElem? o);have j2:=(lmem x'.1 x'.2).mp (List.mem_of_getElem? o');rw [<- hxx] at j2;have jj:=W.inj _ _ _ j1 j2;have hi:i<live.length:=(qk.mp o).1;have hi':i'<live.length:=(qk.mp o').1;have e1:live[i]=x:=(qk.mp o).2;have e2:live[i']=x':=(qk.mp o').2;rcases Nat.lt_trichotomy i i' with z | z | z
    .have:=qU.mp lsort i i' hi hi' z;rw [e1,e2] at this;omega
    .exact z
    .have:=qU.mp lsort i' i hi' hi z;rw [e1,e2] at this;omega
end L2
namespace L2
open PySem PySem.Spec PyProof.Rows PySem.W
section
variable {prog:Program}{w:World}{A:Around}{E:Value->Shared->Prop}{s:Shared}
theorem qf5 {vs:List Value}{ns:List Int}(h:IntsAre vs ns):ItemsAre (intKind prog w) ns vs:=by
 induction h with
 | nil=>exact .nil
 | cons n t _ ih=>exact .cons (intKind_is _ _ _ _) ih
theorem yY.key {h:Heap}{b:Addr}{ks:List Int}(t:yY h (.ref b) ks):IsTupleKey (intKind prog w) h ks b:=by
 obtain ⟨b',o,xs,n,e,ho,hc,hd,hi,_⟩:=t;cases e
 exact ⟨o,xs,n,ho,hc,hd,qf5 hi⟩
abbrev yA (prog:Program) (w:World) (ks:List Int):Int:=tupleKeyHash (intKind prog w) ks
theorem qiP {b:Addr}{ks:List Int}{Q:Bool->Shared->Prop}(t:yY s.heap (.ref b) ks) (q:Q true s):wpAny (model prog w) A (hashByValue 8 (.ref b)) Q E s:=by
 have hT:=(t.key (prog:=prog) (w:=w)).typeIs;obtain ⟨b',o,xs,n,e,ho,hc,hd,hi,_⟩:=t;cases e
 unfold hashByValue;refine qa (wpAny_specialOf hT F.slot_tuple_hash.lookup ?_);show wpAny _ _ (seqItems? (.ref b) >>= _) _ _ s;refine qa (qO ho hd ?_);refine qa ?_;show wpAny _ _ (forIn xs _ _) _ _ s;rw [<- Array.forIn_toList];refine wpAny_forIn_list _ (fun rest r s'=>r.1=none/\s'=s/\∃ ns,IntsAre rest ns) _ ?_ ?_ _ _ ⟨rfl,rfl,_,hi⟩
 .rintro v rest r s' ⟨hr,rfl,ns,hi'⟩;cases hi' with
  | cons i t hi'' =>
   refine qa (qc ?_);simp only [Bool.not_true,Bool.false_eq_true,if_false];exact qc ⟨rfl,rfl,_,hi''⟩
 .rintro ⟨r1,r2⟩ s' ⟨hr,rfl,_⟩;simp only at hr;subst hr;exact qc q
theorem qeX {b:Addr}{ks:List Int}{Q:Bool->Shared->Prop}(t:yY s.heap (.ref b) ks) (q:Q false s):wpAny (model prog w) A (ofAClassStatement 8 (.ref b)) Q E s:=by
 have hT:=(t.key (prog:=prog) (w:=w)).typeIs;obtain ⟨b',o,xs,n,e,ho,hc,hd,hi,_⟩:=t;cases e
 unfold ofAClassStatement;refine qa (wpAny_typeOf hT ?_);dsimp only;rw [if_pos (show ("tuple" == "tuple")=true by decide)];refine qa (qc ?_);simp only [Bool.not_true,Bool.false_eq_true,if_false];refine qa (qO ho hd ?_);dsimp only;refine qa ?_;show wpAny _ _ (forIn xs _ _) _ _ s;rw [<- Array.forIn_toList];refine wpAny_forIn_list _ (fun rest r s'=>r.1=none/\s'=s/\∃ ns,IntsAre rest ns) _ ?_ ?_ _ _ ⟨rfl,rfl,_,hi⟩
 .rintro v rest r s' ⟨hr,rfl,ns,hi'⟩;cases hi' with
  | cons i t hi'' =>
   refine qa (qc ?_);simp only [Bool.false_eq_true,if_false];exact qc ⟨rfl,rfl,_,hi''⟩
 .rintro ⟨r1,r2⟩ s' ⟨hr,rfl,_⟩;simp only at hr;subst hr;exact qc q
theorem qhL {b:Addr}{ks:List Int}(t:yY s.heap (.ref b) ks) {ys:List Value}{Q:Bool->Shared->Prop}(hy:∀ y∈ys,∃ c ks',y = .ref c/\yY s.heap (.ref c) ks') (q:Q false s):wpAny (model prog w) A (searchCouldBeSeen (.ref b) ys) Q E s:=by
 unfold searchCouldBeSeen;refine qa ?_;refine wpAny_forIn_list _ (fun rest r s'=>r.1=none/\s'=s/\∀ y∈rest,∃ c ks',y = .ref c/\yY s.heap (.ref c) ks') _ ?_ ?_ _ _ ⟨rfl,rfl,hy⟩
 .rintro v rest r s' ⟨hr,rfl,hy'⟩;obtain ⟨c,ks',rfl,tc⟩:=hy' v qe;have rest':∀ y∈rest,∃ c ks',y = .ref c/\yY s'.heap (.ref c) ks':=fun y h=>hy' y (qf _ h);dsimp only;by_cases e:(b == c)=true
  .rw [e];simp only [Bool.true_or,if_true];exact qc ⟨rfl,rfl,rest'⟩
  .have e:(b == c)=false:=by simpa using e
   rw [e];simp only [carriedByValue,Bool.false_and,Bool.or_false,Bool.false_eq_true,if_false];refine qa (wpAny_eqIsQuiet_tuple (t.key (prog:=prog) (w:=w)) ?_);simp only [Bool.not_true,Bool.false_eq_true,if_false];refine qa (wpAny_eqIsQuiet_tuple (tc.key (prog:=prog) (w:=w)) ?_);simp only [Bool.not_true,Bool.false_eq_true,if_false];refine qa (qeX t ?_);simp only [Bool.false_eq_true,if_false];refine qa (qeX tc ?_);simp only [Bool.false_eq_true,if_false];exact qc ⟨rfl,rfl,rest'⟩
 .rintro ⟨r1,r2⟩ s' ⟨hr,rfl,_⟩;simp only at hr;subst hr;exact qc q
end
end L2
namespace L2
open PySem PySem.Spec PyProof.Rows PySem.W PySem.SetTable
def js (m n:Nat):Prop:=(m=7/\n<5)\/(m=31/\n<19)\/(m=127/\n<77)\/(m=511/\n<307)\/(m=2047/\n<1229)\/(m=8191/\n<4915)
theorem js.full {m n:Nat}(h:js m n):Full m:=by
 rcases h with ⟨rfl,_⟩ | ⟨rfl,_⟩ | ⟨rfl,_⟩ | ⟨rfl,_⟩ | ⟨rfl,_⟩ | ⟨rfl,_⟩
 .exact full7
 .exact qkR
 .exact qiS
 .exact qiR
 .exact qf9
 .exact qf8
theorem js.le {m n:Nat}(h:js m n):n<m/\n<4915:=by unfold js at h;omega
theorem js.odd {m n:Nat}(h:js m n):(m % 2 == 0)=false:=by rcases h with ⟨rfl,_⟩ | ⟨rfl,_⟩ | ⟨rfl,_⟩ | ⟨rfl,_⟩ | ⟨rfl,_⟩ | ⟨rfl,_⟩ <;> decide
def Z2 (prog:Program) (w:World) (h:Heap) (e:Int×Value) (ks:List Int):Prop:=yY h e.2 ks/\e.1=yA prog w ks
abbrev jr (w:World):Bool:=w.params.followText "set-order"
structure SetD (prog:Program) (w:World) (Pv:Value->Prop) (h:Heap) (a:Addr) (o:Obj) (es:Array (Int×Value)) (ep:Nat) (t:SetTable) (m:Nat) (kss:List (List Int)):Prop where
 ho:h.get? a=some o
 ex:o.ExactSet
 hd:o.data = .set es ep t
 pl:t.plain=true
 ld:t.led=!jr w
 mok:js m es.size
 si:SetI t es m es.size
 en:PySem.Paired (Z2 prog w h) es.toList kss
 nd:kss.Nodup
 own:∀ e∈es.toList,Pv e.2
section
variable {prog:Program}{w:World}{Pv:Value->Prop}{A:Around}{E:Value->Shared->Prop}{s:Shared}{a:Addr}{o:Obj}{es:Array (Int×Value)}{ep:Nat}{t:SetTable}{m:Nat}{kss:List (List Int)}
theorem SetD.fits (D:SetD prog w Pv s.heap a o es ep t m kss):t.fits es.size=true:=by
 have:=D.mok.le;unfold SetTable.fits SetTable.fill;rw [D.si.tab.dm,D.si.tab.size,D.si.tab.mask];simp;omega
theorem SetD.len (D:SetD prog w Pv s.heap a o es ep t m kss):kss.length=es.size:=by
 have:=PySem.Paired.length D.en;rw [Array.length_toList] at this;exact this.symm
theorem SetD.ent (D:SetD prog w Pv s.heap a o es ep t m kss) {i:Nat}{e:Int×Value}(h:es[i]?=some e):∃ ks,kss[i]?=some ks/\Z2 prog w s.heap e ks:=L2.Paired.get D.en (by rw [qG];exact h)
theorem SetD.ent' (D:SetD prog w Pv s.heap a o es ep t m kss) {i:Nat}{ks:List Int}(h:kss[i]?=some ks):∃ e,es[i]?=some e/\Z2 prog w s.heap e ks:=by
 obtain ⟨e,h1,h2⟩:=L2.Paired.get' D.en h;exact ⟨e,by rw [qG] at h1;exact h1,h2⟩
theorem SetD.place (D:SetD prog w Pv s.heap a o es ep t m kss) {i j:Nat}(h:t.place[i]?=some j):∃ e,es[i]?=some e:=by
 have hi:i<t.place.size:=by
  rcases jG i t.place.size with z | z
  .exact z
  .rw [Array.getElem?_eq_none z] at h;cases h
 rw [D.si.tab.size] at hi;exact ⟨es[i],by simp [hi]⟩
theorem qad (D:SetD prog w Pv s.heap a o es ep t m kss) {b:Addr}{ks:List Int}(tb:yY s.heap (.ref b) ks) (hu:A.units<cLine) {adding:Bool}{Q:SetFound->Shared->Prop}
  (hin:∀ i:Nat,kss[i]?=some ks->Q (.there (if adding=true then none else some i)) s)
  (hout:ks∉kss->∀ j,¬ Fl t j->j<=m->Rch (Fl t) m (yA prog w ks) j->Q (.free j false) s) {K:Nat}(hK:¬ Fl t (stp m (yA prog w ks) K).j) (hK2:K<=10 * (m+12)) :
  ∀ (fu k:Nat) (stand:Option Probe),stand.getD (t.probeStart (yA prog w ks))=stp m (yA prog w ks) k->k<=K->K - k<fu →
   (∀ l,l<k->∃ i:Nat,t.place[i]?=some (stp m (yA prog w ks) l).j/\kss[i]?≠some ks)->wpAny (model prog w) A (setSearchFrom a (.ref b) (yA prog w ks) adding fu stand) Q E s
 | 0,k,stand,_,_,z,_=>absurd z (by omega)
 | fu+1,k,stand,hst,hk,hf,hl=>by
  have T:=D.si.tab;unfold setSearchFrom;refine qa (yN D.ho D.hd D.fits ?_);dsimp only;have gw:t.gaveWay=false:=by unfold SetTable.gaveWay;rw [T.mask];exact D.mok.odd
  rw [gw];simp only [Bool.false_eq_true,if_false];rw [hst];obtain ⟨x,x1,x2,x3,x4⟩:=T.probe_go (hashAt:=fun i=>(es[i]?.map (·.1)).getD 0) hK (10 * turns t.mask) k hk (by rw [T.mask];unfold turns;omega)
  -- up to x none is it
  have before:∀ l,l<x->∃ i:Nat,t.place[i]?=some (stp m (yA prog w ks) l).j/\kss[i]?≠some ks:=fun l hlx=>by
   by_cases c:l<k
   .exact hl l c
   .obtain ⟨i,e1,e2⟩:=x3 l (by omega) hlx;refine ⟨i,e1,fun z=>e2 ?_⟩;obtain ⟨e,h1,_,h3⟩:=D.ent' z;simp only [h1,Option.map_some,Option.getD_some,h3]
  rcases x4 with ⟨n1,n2⟩ | ⟨i,e1,e2,e3⟩
  .have pe:t.probe (fun i=>(es[i]?.map (·.1)).getD 0) (yA prog w ks) (stp m (yA prog w ks) k)=some (.empty (stp m (yA prog w ks) x).j none):=n2;have no:ks∉kss:=fun hm=>by
    obtain ⟨i,ei⟩:=qI hm;obtain ⟨e,h1,_,h3⟩:=D.ent' ei;have hi:i<t.place.size:=by
     rw [T.size];rcases jG i es.size with z | z
     .exact z
     .rw [Array.getElem?_eq_none z] at h1;cases h1
    obtain ⟨k',ek,ak⟩:=D.si.rch (t.place[i]) e ⟨i,by simp [hi],h1⟩;rw [h3] at ek ak;rcases Nat.lt_trichotomy k' x with z | z | z
    .obtain ⟨i',p1,p2⟩:=before k' z;rw [ek] at p1;have:i'=i:=qfA T.rise p1 (by simp [hi]);subst this;exact p2 ei
    .subst z;exact n1 ⟨i,by rw [ek];simp [hi]⟩
    .exact n1 (ak x z)
   have fin:=hout no _ n1 (qdb _ _ _) ⟨x,rfl,fun l hlx=>let ⟨i,p,_⟩:=before l hlx;⟨i,p⟩⟩;generalize hp:t.probe _ (yA prog w ks) (stp m (yA prog w ks) k)=r;have er:=hp.symm.trans pe;subst er;exact qc fin
  .have pe:t.probe (fun i=>(es[i]?.map (·.1)).getD 0) (yA prog w ks) (stp m (yA prog w ks) k)=some (.candidate (stp m (yA prog w ks) x).j i (stp m (yA prog w ks) (x+1))):=e3;generalize hp:t.probe _ (yA prog w ks) (stp m (yA prog w ks) k)=r;have er:=hp.symm.trans pe;subst er;dsimp only;obtain ⟨⟨h',y⟩,ee⟩:=D.place e1;obtain ⟨ks',ek,ty,hh⟩:=D.ent ee;obtain ⟨c,oc,xs,nn,ey,hoc⟩:=id ty;have ey:y = .ref c:=ey;subst ey;have ty:yY s.heap (.ref c) ks':=ty;have hstored:∀ y∈List.map (fun x=>x.snd) (Array.filter (fun x=>x.fst == yA prog w ks) es).toList,∃ c ks',y = .ref c/\yY s.heap (.ref c) ks':=fun y hy=>by
    obtain ⟨e,he,rfl⟩:=ql.mp hy;have he':e∈es.toList:=by
     rw [Array.toList_filter] at he;exact (List.mem_filter.mp he).1
    obtain ⟨q,eq⟩:=qI he';rw [qG] at eq;obtain ⟨ks2,_,t2,_⟩:=D.ent eq;obtain ⟨c2,_,_,_,e2,_⟩:=id t2;exact ⟨c2,ks2,e2,by rw [<- e2];exact t2⟩
   have sm:t.sameMemory t.moves t.mask=some true:=by unfold SetTable.sameMemory;rw [if_pos (beq_self_eq_true _)]
   -- once it stands that nobody sees it
   have core:wpAny (model prog w) A (do
     let equal <- holding [Value.ref c] (eqBool (Value.ref c) (Value.ref b))
     let __x <- setState a
     if (adding && equal)=true then pure (SetFound.there none)
      else
       match __x.2.snd.sameMemory t.moves t.mask with
       | some sme =>
        match if sme=true then __x.2.snd.slot (stp m (yA prog w ks) x).j else Slot.empty with
        | Slot.live i' =>
         match __x.fst[i']? with
         | some (fst,y')=>do
          let __do_lift <- isSame y' (Value.ref c)
          let still <- pure (if __do_lift=true then some i' else none)
          match still with
           | none=>do
            rule "set.search.anew"
            setSearchFrom a (Value.ref b) (yA prog w ks) adding fu none
           | some i' =>
            if equal=true then pure (SetFound.there (some i'))
            else setSearchFrom a (Value.ref b) (yA prog w ks) adding fu (some (stp m (yA prog w ks) (x+1)))
         | none=>do
          let still <- pure none
          match still with
           | none=>do
            rule "set.search.anew"
            setSearchFrom a (Value.ref b) (yA prog w ks) adding fu none
           | some i' =>
            if equal=true then pure (SetFound.there (some i'))
            else setSearchFrom a (Value.ref b) (yA prog w ks) adding fu (some (stp m (yA prog w ks) (x+1)))
        | x_1=>do
         let still <- pure none
         match still with
          | none=>do
           rule "set.search.anew"
           setSearchFrom a (Value.ref b) (yA prog w ks) adding fu none
          | some i' =>
           if equal=true then pure (SetFound.there (some i'))
           else setSearchFrom a (Value.ref b) (yA prog w ks) adding fu (some (stp m (yA prog w ks) (x+1)))
       | x_1=>unsupported "set.changed-during-lookup:is-the-new-block-at-the-old-address") Q E s:=by
    refine qa (qH (wpAny_eqBool_tuple hu (ty.key (prog:=prog) (w:=w)) (tb.key (prog:=prog) (w:=w)) ?_));refine qa (yN D.ho D.hd D.fits ?_);dsimp only;have go:∀ eq:Bool,(eq=true->kss[i]?=some ks)->(eq=false->kss[i]?≠some ks)->wpAny (model prog w) A (do
      let __do_lift <- isSame (Value.ref c) (Value.ref c)
      let still <- pure (if __do_lift=true then some i else none)
      match still with
       | none=>do
        rule "set.search.anew"
        setSearchFrom a (Value.ref b) (yA prog w ks) adding fu none
       | some i' =>
        if eq=true then pure (SetFound.there (some i'))
        else setSearchFrom a (Value.ref b) (yA prog w ks) adding fu (some (stp m (yA prog w ks) (x+1)))) (fun r s'=>adding=true/\eq=true\/Q r s') E s:=fun eq q1 q2=>by
     refine qa ?_;unfold isSame;dsimp only;rw [if_pos (beq_self_eq_true _)];refine qc (qa (qc ?_));simp only [if_true];cases eq with
     | true =>
      simp only [if_true];refine qc ?_;cases adding with
      | true=>exact .inl (by simp)
      | false=>exact .inr (by simpa using hin i (q1 rfl))
     | false =>
      simp only [Bool.false_eq_true,if_false];refine qp (qad D tb hu hin hout hK hK2 fu (x+1) _ rfl ?_ ?_ fun l hlx=>?_) (fun r s' q=>.inr q) fun _ _ z=>z
      .have:x≠K:=fun z=>hK (z ▸ ⟨i,e1⟩);omega
      .have:x≠K:=fun z=>hK (z ▸ ⟨i,e1⟩);omega
      .by_cases z:l=x
       .subst z;exact ⟨i,e1,q2 rfl⟩
       .exact before l (by omega)
    by_cases kk:ks'=ks
    .rw [decide_eq_true kk];cases ha:adding with
     | true =>
      simp only [Bool.and_self,if_true];refine qc ?_;have:=hin i (by rw [ek,kk]);rw [ha] at this;simpa using this
     | false =>
      simp only [Bool.and_true,Bool.false_eq_true,if_false,sm,if_true,T.live e1,ee];refine qp (by have:=go true (fun _=>by rw [ek,kk]) (fun z=>by cases z);rw [ha] at this;simpa using this) (fun r s' q=>?_) fun _ _ z=>z;exact q
    .rw [yc kk];simp only [Bool.and_false,Bool.false_eq_true,if_false,sm,if_true,T.live e1,ee];refine qp (by have:=go false (fun z=>by cases z) (fun _ z=>kk (by rw [ek] at z;exact Option.some.inj z));simpa using this) (fun r s' q=>?_) fun _ _ z=>z;exact q
   cases hled:t.led with
   | true =>
    simp only [Bool.not_true,Bool.false_eq_true,if_false,ee];exact core
   | false =>
    simp only [Bool.not_false,if_true];refine qa (qhL tb hstored ?_);simp only [Bool.false_eq_true,if_false,ee];exact core
end
end L2
namespace L2
open PySem PySem.Spec PyProof.Rows PySem.W PySem.SetTable
def qa5 (prog:Program) (w:World) (Pv:Value->Prop) (h:Heap) (a:Addr) (kss:List (List Int)):Prop:=∃ o es ep t m,SetD prog w Pv h a o es ep t m kss
theorem Z2.kept {prog:Program}{w:World}{h h':Heap}{e:Int×Value}{ks:List Int}(k:∀ b o,h.get? b=some o->o.cls = .type "tuple" -> h'.get? b=some o) (t:Z2 prog w h e ks):Z2 prog w h' e ks:=⟨t.1.kept k,t.2⟩
theorem qeG {prog:Program}{w:World}{h h':Heap}{a:Addr}{o:Obj}(ho:h.get? a=some o) (hc:o.cls = .type "set") (sb:Heap.SameBut a h h') {e:Int×Value}{ks:List Int}(t:Z2 prog w h e ks):Z2 prog w h' e ks :=
 t.kept fun b o' e hcl=>by
  have ne:b≠a:=by
   rintro rfl;rw [ho] at e;cases e
   rw [hc] at hcl;exact absurd hcl (by decide)
  rw [sb.2 b ne];exact e
section
variable {prog:Program}{w:World}{A:Around}{E:Value->Shared->Prop}{s:Shared}{a:Addr}{o:Obj}{es:Array (Int×Value)}{ep:Nat}{t:SetTable}{m:Nat}{kss:List (List Int)}
theorem qfC (a:Addr) (wanted:Nat):setRelay a wanted=(do
  let (es,_,t) <- setState a
  if SetTable.sizeAbove wanted > sizeLine then unsupported "set:memory"
  let (es,t) <- (do
   let some (t,order):=t.relaid (es.map (·.1)) wanted | unsupported "internal:set-table-without-room"
   let es':=order.filterMap (es[·]?)
   if es'.size != es.size then unsupported "internal:set-table-lost-an-element"
   pure (es',t))
  storeSet a es t):=rfl
theorem SetI.put {j:Nat}{x:Int×Value}(I:SetI t es m es.size) (hj:¬ Fl t j) (hm:j<=m) (hr:Rch (Fl t) m x.1 j):SetI (t.put j).1 (insertAt es (t.put j).2 x) m (es.size+1):=by
 obtain ⟨T',e2,e3⟩:=I.tab.put hj hm;have hb:=(jN I.tab.rise j).2.2;have hb2:below t.place j<=es.size:=by rw [<- I.tab.size];exact hb
 have up:∀ q,Fl t q->Fl (t.put j).1 q:=fun q ⟨i,e⟩=>by
  unfold Fl;rw [e3];by_cases c:i<below t.place j
  .exact ⟨i,by rw [y6 hb,if_pos c];exact e⟩
  .exact ⟨i+1,by rw [y6 hb,if_neg (by omega),if_neg (by omega)];exact e⟩
 refine ⟨T',by rw [e2,JF hb2],fun j' e' hA=>?_⟩;rw [e3,e2] at hA;rcases (qkO hb hb2).mp hA with h | ⟨rfl,rfl⟩
 .exact (I.rch j' e' h).mono up
 .exact hr.mono up
theorem JR {Z β:Type}{R:Z->β->Prop}:∀ {xs:List Z}{ys:List β}(p:Nat) {x:Z}{y:β},PySem.Paired R xs ys->R x y->PySem.Paired R (xs.take p++x::xs.drop p) (ys.take p++y::ys.drop p)
 | _,_,0,x,y,h,r=>.cons r h
 | _,_,p+1,x,y,.nil,r=>by simpa using PySem.Paired.cons r .nil
 | _,_,p+1,x,y,.cons h t,r=>.cons h (JR p t r)
theorem ZM {Z:Type}{xs:Array Z}{p:Nat}{x:Z}(hp:p<=xs.size):(insertAt xs p x).toList=xs.toList.take p++x::xs.toList.drop p:=by
 unfold insertAt;simp [List.take_of_length_le]
theorem qbn {Z:Type}{xs:List Z}{p:Nat}{x y:Z}:y∈xs.take p++x::xs.drop p ↔ y=x\/y∈xs:=by
 have:y∈xs ↔ y∈xs.take p\/y∈xs.drop p:=by rw [<- List.mem_append,List.take_append_drop]
 simp only [List.mem_append,List.mem_cons,this];constructor
 .rintro (h | h | h)
  .exact .inr (.inl h)
  .exact .inl h
  .exact .inr (.inr h)
 .rintro (h | h | h)
  .exact .inr (.inl h)
  .exact .inl h
  .exact .inr (.inr h)
theorem qaq {Z:Type}{xs:List Z}{p:Nat}{x:Z}(h:xs.Nodup) (hx:x∉xs):(xs.take p++x::xs.drop p).Nodup:=by
 have e:(xs.take p++x::xs.drop p).Perm (x::xs):=by
  have:=List.perm_middle (a:=x) (l₁:=xs.take p) (l₂:=xs.drop p);rwa [List.take_append_drop] at this
 exact e.nodup_iff.mpr (List.nodup_cons.mpr ⟨hx,h⟩)
end
end L2
namespace L2
open PySem PySem.Spec PyProof.Rows PySem.W PySem.SetTable
theorem JC {Z β:Type}{R:Z->β->Prop}:∀ {l:List Z},(∀ e∈l,∃ k,R e k)->∃ ks,PySem.Paired R l ks
 | [],_=>⟨[],.nil⟩
 | e::l,h=>by
  obtain ⟨k,hk⟩:=h e qe;obtain ⟨ks,hks⟩:=JC (fun x hx=>h x (qf _ hx));exact ⟨k::ks,.cons hk hks⟩
section
variable {prog:Program}{w:World}{Pv:Value->Prop}{A:Around}{E:Value->Shared->Prop}{s:Shared}{a:Addr}{o:Obj}{es:Array (Int×Value)}{ep:Nat}{t:SetTable}{m:Nat}{kss:List (List Int)}
theorem Z2.inj {h:Heap}{e:Int×Value}{k k':List Int}(h1:Z2 prog w h e k) (h2:Z2 prog w h e k'):k=k':=by
 obtain ⟨b,_,_,_,e1,_⟩:=id h1.1;have t1:yY h (.ref b) k:=e1 ▸ h1.1;have t2:yY h (.ref b) k':=e1 ▸ h2.1;exact (t1.key (prog:=prog) (w:=w)).inj (t2.key (prog:=prog) (w:=w))
theorem JG (ho:s.heap.get? a=some o) (hd:o.data = .set es ep t) (es':Array (Int×Value)) (t':SetTable):(s.heap.update a (Obj.putSet es' t')).get? a=some { o with data:=.set es' (ep+1) t' }:=by
 have:=qQ (Obj.putSet es' t') ho (by rw [putSet_of es' t' hd];rfl);rw [putSet_of es' t' hd] at this;exact this
theorem qfB {m' n:Nat}{wanted:Nat}{Q:Unit->Shared->Prop}(ho:s.heap.get? a=some o) (ex:o.ExactSet) (hd:o.data = .set es ep t) (pl:t.plain=true) (le:t.led=!jr w) (hf:t.fits es.size=true) (en:PySem.Paired (Z2 prog w s.heap) es.toList kss) (nd:kss.Nodup) (ow:∀ e∈es.toList,Pv e.2)
  (hw:sizeAbove wanted=m'+1) (mo:js m' es.size) (h:∀ h' kss',Heap.SameBut a s.heap h'->qa5 prog w Pv h' a kss'->(∀ k,k∈kss' ↔ k∈kss)->Q () { s with heap:=h' }):wpAny (model prog w) A (setRelay a wanted) Q E s:=by
 rw [qfC];refine qa (yN ho hd hf ?_);dsimp only;have hle:=mo.le;have m127:m'<=8191:=by unfold js at mo;omega
 rw [if_neg (by rw [hw,sizeLine_eq];omega)];obtain ⟨t',order,e1,e2,e3,e4,e5,e6,e7⟩:=qen (m:=m') (n:=es.size) (fi:=t.finger) (mv:=t.movedTo (sizeAbove wanted - 1)) (ld:=t.led) (pl:=t.plain) mo.full (es:=es) rfl (by omega);have er:t.relaid (es.map (·.1)) wanted=some (t',order):=by
  unfold SetTable.relaid;rw [show sizeAbove wanted - 1=m' by omega] at e1 ⊢;exact e1
 rw [er];dsimp only;have e4':((order.filterMap (es[·]?)).size != es.size)=false:=by rw [e4];simp
 rw [e4'];simp only [Bool.false_eq_true,if_false,pure_bind];generalize order.filterMap (es[·]?)=es2 at *;refine wpAny_storeSet_of ho hd ?_ (by rw [e4,sizeLine_eq];omega);have sb:Heap.SameBut a s.heap (s.heap.update a (Obj.putSet es2 t')):=Heap.SameBut.update s.heap a _;have old:∀ e∈es2.toList,∃ k,Z2 prog w s.heap e k/\k∈kss:=fun e he=>by
  obtain ⟨i,ei⟩:=qI ((e6 e).mp he);obtain ⟨k,k1,k2⟩:=L2.Paired.get en ei;exact ⟨k,k2,List.mem_of_getElem? k1⟩
 obtain ⟨kss2,en2⟩:=JC (R:=Z2 prog w s.heap) (l:=es2.toList) fun e he=>let ⟨k,k1,_⟩:=old e he;⟨k,k1⟩;refine h _ kss2 sb ⟨_,es2,ep+1,t',m',JG ho hd es2 t',⟨ex.1,ex.2.1,ex.2.2⟩,rfl,by rw [e3];exact pl,by rw [e2];exact le,by rw [e4];exact mo,by rw [e4];exact e5,Paired.mapP en2 fun e ks tt=>qeG ho ex.1 sb tt,?_,fun e he=>ow e ((e6 e).mp he)⟩ fun k=>⟨fun hk=>?_,fun hk=>?_⟩
 .refine qU.mpr fun i i' hi hi' hlt z=>?_;obtain ⟨x,x1,x2⟩:=L2.Paired.get' en2 (List.getElem?_eq_getElem hi);obtain ⟨x',x1',x2'⟩:=L2.Paired.get' en2 (List.getElem?_eq_getElem hi');rw [qG] at x1 x1';have:=e7 i i' x x' x1 x1' fun y y' ey ey'=>by
   obtain ⟨k,k1,k2⟩:=L2.Paired.get en (show es.toList[y]?=some x by rw [qG];exact ey);obtain ⟨k',k1',k2'⟩:=L2.Paired.get en (show es.toList[y']?=some x' by rw [qG];exact ey');have q1:=k2.inj x2;have q2:=k2'.inj x2';rw [q1] at k1;rw [q2,<- z] at k1';have hy:y<kss.length:=(qk.mp k1).1;have hy':y'<kss.length:=(qk.mp k1').1;have g1:=(qk.mp k1).2;have g2:=(qk.mp k1').2;exact (List.getElem_inj nd).mp (g1.trans g2.symm)
  omega
 .obtain ⟨i,ei⟩:=qI hk;obtain ⟨x,x1,x2⟩:=L2.Paired.get' en2 ei;obtain ⟨k',k1,k2⟩:=old x (List.mem_of_getElem? x1);rw [x2.inj k1];exact k2
 .obtain ⟨i,ei⟩:=qI hk;obtain ⟨x,x1,x2⟩:=L2.Paired.get' en ei;have hx:=(e6 x).mpr (List.mem_of_getElem? x1);obtain ⟨i2,ei2⟩:=qI hx;obtain ⟨k2,q1,q2⟩:=L2.Paired.get en2 ei2;rw [x2.inj q2];exact List.mem_of_getElem? q1
theorem qhk (S:qa5 prog w Pv s.heap a kss) {b:Addr}{ks:List Int}(tb:yY s.heap (.ref b) ks) (pb:Pv (.ref b)) (hu:A.units<cLine) (hn:kss.length<4914) {Q:Bool->Shared->Prop}(hin:ks∈kss->Q false s)
  (hout:ks∉kss->∀ h' kss',Heap.SameBut a s.heap h'->qa5 prog w Pv h' a kss'->(∀ k,k∈kss' ↔ k=ks\/k∈kss)->Q true { s with heap:=h' }):wpAny (model prog w) A (setAddHashed a (.ref b) (yA prog w ks)) Q E s:=by
 obtain ⟨o,es,ep,t,m,D⟩:=S;have T:=D.si.tab;have hl:=D.len;have hle:=D.mok.le;obtain ⟨q,q1,q2⟩:=T.free (qP hle.1);obtain ⟨K,K1,K2⟩:=D.mok.full.walk (yA prog w ks) q1;unfold setAddHashed;refine qH ?_;show wpAny (model prog w) A (setAddHashedIn a (.ref b) (yA prog w ks) (99999+1)) Q E s;unfold setAddHashedIn;refine qa (yN D.ho D.hd D.fits ?_);dsimp only;rw [if_neg (by simp [byScan,Value.scannable])];refine qa ?_;have m127:m<=8191:=by have:=D.mok;unfold js at this;omega
 refine qad D tb hu (adding:=true) (fun i ei=>?_) (fun no j n1 n2 n3=>?_) (K:=K) (by rw [K2];exact q2) K1 100000 0 none (by show t.probeStart _=_;rw [qbM,T.mask]) (qB _) (by omega) fun l z=>absurd z (by omega)
 .simp only [if_true];exact qc (hin (List.mem_of_getElem? ei))
 .dsimp only;refine qa (yN D.ho D.hd D.fits ?_);dsimp only;have I1:=D.si.put (x:=(yA prog w ks,Value.ref b)) n1 n2 n3;obtain ⟨T1,p2,p3⟩:=T.put n1 n2;have hb:=(jN T.rise j).2.2;have hb2:below t.place j<=es.size:=by rw [<- T.size];exact hb
  have pl1:(t.put j).1.plain=true:=D.pl;have le1:(t.put j).1.led=!jr w:=D.ld;rw [pl1];simp only [if_true];refine qa (qiP tb ?_);simp only [if_true];have sz1:(insertAt es (t.put j).2 (yA prog w ks,Value.ref b)).size=es.size+1:=by rw [p2,JF hb2]
  have en1:PySem.Paired (Z2 prog w s.heap) (insertAt es (t.put j).2 (yA prog w ks,Value.ref b)).toList (kss.take (below t.place j)++ks::kss.drop (below t.place j)):=by
   rw [p2,ZM hb2];exact JR _ D.en ⟨tb,rfl⟩
  have ow1:∀ e∈(insertAt es (t.put j).2 (yA prog w ks,Value.ref b)).toList,Pv e.2:=fun e he=>by
   rw [p2,ZM hb2] at he;rcases qbn.mp he with rfl | he
   .exact pb
   .exact D.own e he
  have nd1:=qaq (p:=below t.place j) D.nd no;have fits1:(t.put j).1.fits (es.size+1)=true:=by
   unfold SetTable.fits SetTable.fill;rw [T1.dm,T1.size,T1.mask];simp;omega
  generalize (t.put j).1=t1 at *;generalize insertAt es (t.put j).2 (yA prog w ks,Value.ref b)=es1 at *;generalize hk1:kss.take (below t.place j)++ks::kss.drop (below t.place j)=kss1 at *;have mem1:∀ k,k∈kss1 ↔ k=ks\/k∈kss:=fun k=>by rw [<- hk1];exact qbn
  refine qa (wpAny_storeSet_of D.ho D.hd ?_ (by rw [sz1,sizeLine_eq];omega));have sb:Heap.SameBut a s.heap (s.heap.update a (Obj.putSet es1 t1)):=Heap.SameBut.update s.heap a _;have g1:=JG D.ho D.hd es1 t1;have en2:PySem.Paired (Z2 prog w (s.heap.update a (Obj.putSet es1 t1))) es1.toList kss1:=Paired.mapP en1 fun e k tt=>qeG D.ho D.ex.1 sb tt;generalize s.heap.update a (Obj.putSet es1 t1)=h1 at *;have tf:t1.tooFull=decide ((es.size+1) * 5 ≥ m * 3):=by
   unfold SetTable.tooFull SetTable.fill;rw [T1.dm,T1.size,T1.mask];rfl
  rw [tf];simp only [Bool.not_false,Bool.true_and,decide_eq_true_eq];by_cases c:(es.size+1) * 5 ≥ m * 3
  .rw [if_pos c];have big:∃ m',sizeAbove (grown (es.size+1))=m'+1/\js m' (es.size+1):=by
    rcases D.mok with ⟨rfl,hlt⟩ | ⟨rfl,hlt⟩ | ⟨rfl,hlt⟩ | ⟨rfl,hlt⟩ | ⟨rfl,hlt⟩ | ⟨rfl,hlt⟩
    .have:es.size=4:=by omega
     rw [this];exact ⟨31,by decide,.inr (.inl ⟨rfl,by omega⟩)⟩
    .have:es.size=18:=by omega
     rw [this];exact ⟨127,by decide,.inr (.inr (.inl ⟨rfl,by omega⟩))⟩
    .have:es.size=76:=by omega
     rw [this];exact ⟨511,by decide +kernel,.inr (.inr (.inr (.inl ⟨rfl,by omega⟩)))⟩
    .have:es.size=306:=by omega
     rw [this];exact ⟨2047,by decide +kernel,.inr (.inr (.inr (.inr (.inl ⟨rfl,by omega⟩))))⟩
    .have:es.size=1228:=by omega
     rw [this];exact ⟨8191,by decide +kernel,.inr (.inr (.inr (.inr (.inr ⟨rfl,by omega⟩))))⟩
    .omega
   obtain ⟨m',w1,w2⟩:=big;refine qa (qfB (s:={ s with heap:=h1 }) (n:=0) g1 ⟨D.ex.1,D.ex.2.1,D.ex.2.2⟩ rfl pl1 le1 (by rw [sz1];exact fits1) en2 nd1 ow1 w1 (by rw [sz1];exact w2) fun h' kss' sb' S' mem'=>?_);exact qc (hout no h' kss' ⟨sb'.1.trans sb.1,fun b' ne=>(sb'.2 b' ne).trans (sb.2 b' ne)⟩ S' fun k=>(mem' k).trans (mem1 k))
  .rw [if_neg c];refine qc (hout no h1 kss1 sb ⟨_,es1,ep+1,t1,m,g1,⟨D.ex.1,D.ex.2.1,D.ex.2.2⟩,rfl,pl1,le1,?_,by rw [sz1];exact I1,en2,nd1,ow1⟩ mem1);rw [sz1];rcases D.mok with ⟨rfl,hlt⟩ | ⟨rfl,hlt⟩ | ⟨rfl,hlt⟩ | ⟨rfl,hlt⟩ | ⟨rfl,hlt⟩ | ⟨rfl,hlt⟩
   .exact .inl ⟨rfl,by omega⟩
   .exact .inr (.inl ⟨rfl,by omega⟩)
   .exact .inr (.inr (.inl ⟨rfl,by omega⟩))
   .exact .inr (.inr (.inr (.inl ⟨rfl,by omega⟩)))
   .exact .inr (.inr (.inr (.inr (.inl ⟨rfl,by omega⟩))))
   .exact .inr (.inr (.inr (.inr (.inr ⟨rfl,by omega⟩))))
end
end L2
namespace L2
open PySem PySem.Spec PyProof.Rows PySem.W PySem.SetTable
theorem jm {Z β:Type}{R R':Z->β->Prop}:∀ {xs:List Z}{ys:List β},PySem.Paired R xs ys->(∀ x∈xs,∀ y,R x y->R' x y)->PySem.Paired R' xs ys
 | _,_,.nil,_=>.nil
 | _,_,.cons r t,h=>.cons (h _ qe _ r) (jm t fun x hx=>h x (qf _ hx))
def In0 (h0:Heap) (Pv:Value->Prop):Prop:=∀ v,Pv v->∃ b o,v = .ref b/\h0.get? b=some o
theorem yY.move {h0 h h':Heap}{b:Addr}{o:Obj}{ks:List Int}(e:h0.get? b=some o) (k0:jg h0 h) (k1:jg h0 h') (t:yY h (.ref b) ks):yY h' (.ref b) ks:=by
 obtain ⟨b',o',xs,n,eb,ho,r⟩:=t;cases eb
 have:=k0 _ _ e;rw [this] at ho;cases ho
 exact ⟨b,o,xs,n,rfl,k1 _ _ e,r⟩
theorem qa5.move {prog:Program}{w:World}{Pv:Value->Prop}{h0 h h':Heap}{a:Addr}{kss:List (List Int)}(S:qa5 prog w Pv h a kss) (hPv:In0 h0 Pv) (k0:jg h0 h) (k1:jg h0 h') (hs:∀ o,h.get? a=some o->h'.get? a=some o):qa5 prog w Pv h' a kss:=by
 obtain ⟨o,es,ep,t,m,D⟩:=S;refine ⟨o,es,ep,t,m,hs _ D.ho,D.ex,D.hd,D.pl,D.ld,D.mok,D.si,jm D.en fun e he ks ek=>?_,D.nd,D.own⟩;obtain ⟨hh,v⟩:=e;obtain ⟨b,o0,rfl,e0⟩:=hPv v (D.own _ he);exact ⟨yY.move e0 k0 k1 ek.1,ek.2⟩
section
variable {prog:Program}{w:World}{Pv:Value->Prop}{A:Around}{R:Result->Shared->Prop}{I:Addr}{fp wr:List Addr}{n:Nat}{P:Nat->Value->Prop}{St:Nat->Shared->Prop}
theorem qfu {h0:Heap}{key:Nat->List Int}(W:WalksS prog w A.in1 I fp wr (fun a b=>b=a) n P St) {S:Addr}(hSf:S∉fp) (hS0:h0.get? S=none) (hwr:∀ b∈wr,h0.get? b=none) (hPv:In0 h0 Pv)
  (hval:∀ i v,P i v->yY h0 v (key i)/\Pv v) (hn:∀ ms:List (List Int),ms.Nodup->(∀ q∈ms,∃ j,j<n/\key j=q)->ms.length<4914) (hu:A.units+8<cLine) :
  ∀ (k i:Nat) (s:Shared) (kss:List (List Int)),n - i=k->i<=n->St i s->jg h0 s.heap->qa5 prog w Pv s.heap S kss->(∀ q,q∈kss ↔ ∃ j,j<i/\key j=q)->kss.length<=i →
   (∀ s' kss',Moved (S::wr) (fun a b=>b=a) s s'->jg h0 s'.heap->qa5 prog w Pv s'.heap S kss'->(∀ q,q∈kss' ↔ ∃ j,j<n/\key j=q)->kss'.length<=n->R (.ok (.ret .none)) s') →
   codeAny (model prog w) A (.builtin "set.update.loop" ⟨[.ref S,.ref I],[]⟩) R s:=by
 have hSw:S∉wr:=fun h=>hSf (W.sub _ h);have hsub:∀ b∈wr,b∈S::wr:=fun b hb=>qf _ hb;have kp:∀ {s s':Shared},jg h0 s.heap->Moved wr (fun a b=>b=a) s s'->jg h0 s'.heap:=fun k0 hm b o e=>hm.heap b o (fun z=>by rw [hwr b z] at e;cases e) (k0 b o e);intro k;induction k with
 | zero =>
  intro i s kss hk hi hst k0 hS hmem hlen hR;have hin:i=n:=by omega
  subst hin;refine codeAny_builtin F.entry_set_update_loop ?_;rw [Around.under_plainId F.plain_set_update_loop _];refine qa (m:=pyNext (.ref I)) (W.done s _ _ hst fun s' hm=>?_);refine qc (hR s' kss (hm.mono hsub) (kp k0 hm) ?_ hmem hlen);exact hS.move hPv k0 (kp k0 hm) fun o e=>hm.heap S o hSw e
 | succ k ih =>
  intro i s kss hk hi hst k0 hS hmem hlen hR;have hlt:i<n:=by omega
  refine codeAny_builtin F.entry_set_update_loop ?_;rw [Around.under_plainId F.plain_set_update_loop _];refine qa (m:=pyNext (.ref I)) (W.item i s _ _ hlt hst fun v s' hP hst' hm=>?_);have k1:=kp k0 hm;have hS':=hS.move hPv k0 k1 fun o e=>hm.heap S o hSw e;obtain ⟨tv,pv⟩:=hval i v hP;obtain ⟨b,o0,rfl,e0⟩:=hPv v pv;have tb:yY s'.heap (.ref b) (key i):=yY.move e0 (fun _ _ z=>z) k1 tv;refine qa (m:=holding [Value.ref b] (setAdd S (.ref b))) (qH ?_);unfold setAdd;refine qH ?_;have hu1:A.in1.units<cLine:=by show A.units+_<_;omega
  refine qa (wpAny_pyHash_tuple hu1 (tb.key (prog:=prog) (w:=w)) ?_);refine qhk (s:={ s' with toks:=s'.toks+((key i).length+1) }) hS' tb pv hu1 (hn kss (let ⟨_,_,_,_,_,D⟩:=hS;D.nd) fun q hq=>let ⟨j,hj,e⟩:=(hmem q).mp hq;⟨j,yj hj hlt,e⟩) (fun hin=>?_) fun hout h' kss' sb S2 mem2=>?_
  .refine qc ⟨plainId_quiet F.plain_set_update_loop _,ih (i+1) _ kss (by omega) hlt (W.frame _ s' s'.heap _ hst' (by omega) fun b hb o e=>e) k1 hS' (fun q=>?_) (by omega) fun s'' kss'' hm'' k2 S'' mem'' len''=>?_⟩
   .rw [hmem q];constructor
    .rintro ⟨j,hj,e⟩;exact ⟨j,by omega,e⟩
    .rintro ⟨j,hj,e⟩;by_cases c:j<i
     .exact ⟨j,c,e⟩
     .have:j=i:=by omega
      subst this;rw [e] at hin;exact (hmem q).mp hin
   .exact hR s'' kss'' (Moved.trans W.gtrans ((hm.mono hsub).then_heap (h':=s'.heap) (tk:=s'.toks+((key i).length+1)) (by omega) fun b o hb e=>e) hm'') k2 S'' mem'' len''
  .have k1':jg h0 h':=fun b o e=>by
    rw [sb.2 b (fun z=>by rw [z,hS0] at e;cases e)];exact k1 b o e
   have hl':kss'.length<=i+1:=by
    obtain ⟨_,_,_,_,_,D1⟩:=hS';obtain ⟨_,_,_,_,_,D2⟩:=S2;have:kss'.length<=(key i::kss).length:=List.Nodup.length_le_of_subset D2.nd fun q hq=>by
     rcases (mem2 q).mp hq with rfl | z
     .exact qe
     .exact qf _ z
    simp only [List.length_cons] at this;omega
   refine qc ⟨plainId_quiet F.plain_set_update_loop _,ih (i+1) _ kss' (by omega) hlt (W.frame _ s' h' (s'.toks+((key i).length+1)) hst' (by omega) fun b hb o e=>?_) k1' S2 (fun q=>?_) hl' fun s'' kss'' hm'' k2 S'' mem'' len''=>?_⟩
   .rw [sb.2 b (fun h:b=S=>hSf (by rw [<- h];exact hb))];exact e
   .rw [mem2 q,hmem q];constructor
    .rintro (rfl | ⟨j,hj,e⟩)
     .exact ⟨i,by omega,rfl⟩
     .exact ⟨j,by omega,e⟩
    .rintro ⟨j,hj,e⟩;by_cases c:j<i
     .exact .inr ⟨j,c,e⟩
     .have:j=i:=by omega
      subst this;exact .inl e.symm
   .refine hR s'' kss'' (Moved.trans W.gtrans ((hm.mono hsub).then_heap (h':=h') (tk:=s'.toks+((key i).length+1)) (by omega) fun b o hb e=>?_) hm'') k2 S'' mem'' len'';rw [sb.2 b (fun h:b=S=>hb (by rw [h];exact qe))];exact e
end
end L2
namespace L2
open PySem PySem.Spec PyProof.Rows PySem.W PySem.SetTable
abbrev jI (w:World):Obj:={ cls:=.type "set",dict:=none,data:=.set #[] 0 (.fresh 0 0 (!jr w)) }
theorem qaj:qhq #[]:=fun i j a b=>absurd b (by simp)
theorem qb0 {prog:Program}{w:World}{Pv:Value->Prop}{h:Heap}{a:Addr}(e:h.get? a=some (jI w)):qa5 prog w Pv h a [] :=
 ⟨_,#[],0,_,7,e,⟨rfl,rfl,rfl⟩,rfl,rfl,rfl,.inl ⟨rfl,by decide⟩,⟨⟨rfl,rfl,rfl,qaj,fun i j z=>by simp [SetTable.fresh] at z⟩,rfl,fun j e ⟨i,z,_⟩=>by simp [SetTable.fresh] at z⟩,.nil,List.nodup_nil,fun e z=>by simp at z⟩
section
variable {prog:Program}{w:World}{A:Around}{E:Value->Shared->Prop}{s:Shared}
theorem qbQ (x:Value) {Q₁:Value->Shared->Prop}(q:Q₁ (.ref s.heap.objs.size) { s with heap:=s.heap.push (jI w) }) :
  codeAny (model prog w) A (.call (.builtin "set.__new__") ⟨[.type "set",x],[]⟩) (wants Q₁ E) s:=by
 refine codeAny_of_tree ?_;refine qa (m:=checkBuiltinCall "set.__new__" ⟨[.type "set",x],[]⟩) (wpAny_of_eq (F.newCall_set_1 x) (qc ⟨plainId_quiet F.plain_set_new _,codeAny_builtin F.entry_set_new ?_⟩));rw [Around.under_plainId F.plain_set_new _];unfold Builtin.«set.__new__» Builtin.Frozenset.newClass;have hsub:=sub_set_self;obtain ⟨hp,g,d,tk,os⟩:=s;dsimp only
 wp_walk
 refine jO (qc ?_);dsimp only;simp only [newObj];refine qa (wpAny_alloc (qc (qc q)))
theorem qcv {l:Addr}{vs:List Value}{kss:List (List Int)}{Q:Value->Shared->Prop}(hh:A.handled=none) (hl:s.heap.IsList l vs.toArray) (hT:PySem.Paired (yY s.heap) vs kss) (hn:∀ ms:List (List Int),ms.Nodup->(∀ q∈ms,q∈kss)->ms.length<4914) (hu:A.units+64<cLine)
  (h:∀ h' tk ms,qa5 prog w (·∈vs) h' s.heap.objs.size ms->(∀ q,q∈ms ↔ q∈kss)->jg s.heap h'->Q (.ref s.heap.objs.size) { s with heap:=h',toks:=tk }):wpAny (model prog w) A (call (.type "set") [.ref l]) Q E s:=by
 obtain ⟨c,tl,hmro⟩:=F.called_set.mro;have made:=F.called_set.made;have sub:=F.called_set.sub;refine wpAny_call (codeAny_of_tree ?_);show wpAny (model prog w) _ (callAny (.type "set") _) _ _ s;refine qc ⟨Code.quiet_builtin _ (by decide +kernel),codeAny_builtin F.entry_type_call ?_⟩;rw [Around.under_plain (weight_type_call_type "set" [Value.ref l] []) rfl];have t1:=F.called_set.notType;have t2:=F.called_set.canCreate;have t3:=F.typeCall_set_1 (Value.ref l)
 repeat (any_goals first | assumption | wp_step)
 refine codeAny_mono (qbQ (prog:=prog) (.ref l) (E:=E) (Q₁:=fun v sa1=>v = .ref s.heap.objs.size/\sa1={ s with heap:=s.heap.push (jI w) }) ⟨rfl,rfl⟩) fun r sa1 hr=>?_;cases r with
 | error e=>exact hr
 | ok fl =>
  cases fl with
  | next=>exact hr.elim
  | brk=>exact hr.elim
  | cont=>exact hr.elim
  | ret v =>
   obtain ⟨rfl,rfl⟩:=hr;have hS:(s.heap.push (jI w)).get? s.heap.objs.size=some (jI w):=qj _ rfl;have hTy:Shared.TypeIs { s with heap:=s.heap.push (jI w) } (.ref s.heap.objs.size) "set" := ⟨_,hS,rfl⟩;have i1:=F.called_set.init.lookup;have i2:=F.called_set.init.bind (.ref s.heap.objs.size)
   repeat (any_goals first | assumption | wp_step)
   refine codeAny_mono (codeAny_call_builtin (R:=wants (fun r sa2=>r = .none/\∃ h' tk ms,sa2={ s with heap:=h',toks:=tk }/\qa5 prog w (·∈vs) h' s.heap.objs.size ms/\(∀ q,q∈ms ↔ q∈kss)/\jg s.heap h') E)
    F.called_set.init.plain F.entry_set_init (check_set_init_1 hTy ?_)) fun ra2 sa2 har2=>?_
   .obtain ⟨ol,hol,hcl,nl,hdl⟩:=hl;obtain ⟨ocls,odict,odata,oslots⟩:=ol;simp only at hcl hdl;subst hcl;subst hdl;have hlt:l<s.heap.objs.size:=qi hol;have hol1:(s.heap.push (jI w)).get? l=some { cls:=.type "list",dict:=odict,data:=.seq vs.toArray nl,slots:=oslots }:=qb _ hol;have s1:=F.sub_list_set;have s2:=F.sub_list_frozenset;have s3:(Value.type "list" == Value.type "dict")=false:=by decide
    have hl1:(s.heap.push (jI w)).IsList l vs.toArray:=⟨_,hol1,rfl,nl,rfl⟩;unfold Builtin.«set.__init__» noKeywords Builtin.Frozenset.updateFrom;generalize hPI:pyIter=PI
    wp_walk
    subst hPI;refine jv hl1 (qa (wpAny_runValue ?_));have sz1:(s.heap.push (jI w)).objs.size=s.heap.objs.size+1:=qV ..;have kp2:jg s.heap ((s.heap.push (jI w)).push { cls:=.type "list_iterator",data:=.fields #[.ref l,.int 0 0] }):=fun b o e=>qb _ (qb _ e);have no:∀ b,s.heap.objs.size<=b->s.heap.get? b=none:=fun b hb=>by
     cases z:s.heap.get? b with
     | none=>rfl
     | some o=>exact absurd (qi z) (Nat.not_lt.mpr hb)
    have hin:In0 s.heap (·∈vs):=fun v hv=>by
     obtain ⟨i,ei⟩:=qI hv;obtain ⟨ks,_,b,o,xs,n,e,ho,_⟩:=L2.Paired.get hT ei;exact ⟨b,o,e,ho⟩
    refine qfu (A:=A.in1.in1) (key:=fun i=>kss.getD i []) (h0:=s.heap) (Pv:=(·∈vs)) (Walks.list (by simp [hh]) _ l (by rw [sz1];exact qg (qT hlt)) vs.toArray).toS (S:=s.heap.objs.size) ?_ (no _ (Nat.le_refl _)) (fun b hb=>?_) hin
     (fun i v hv=>?_) (fun ms nd hm=>hn ms nd fun q hq=>by
      obtain ⟨j,hj,e⟩:=hm q hq;have hk:j<kss.length:=by
       rw [<- L2.Paired.len hT];simpa using hj
      rw [List.getD_eq_getElem?_getD,List.getElem?_eq_getElem hk] at e;rw [<- e];exact qy hk) (by show A.units+1+1+8<_;omega) (vs.toArray.size - 0) 0 _ [] rfl (qB _) ⟨⟨_,qj _ rfl,rfl,rfl⟩,hl1.push _⟩ kp2 (qb0 (qb _ hS)) (fun q=>by simp) (qB _) fun s' ms hm k2 S2 mem2 _=>?_
    .rw [sz1];simp only [List.mem_cons,List.not_mem_nil,or_false,not_or];exact ⟨qg (qZ _),yi hlt⟩
    .rw [qA.mp hb,sz1];exact no _ (Nat.le_succ _)
    .have hv':vs[i]?=some v:=by simpa using hv
     have hi:i<vs.length:=(qk.mp hv').1;have:=jA hT i hi;rw [List.getD_eq_getElem?_getD,hv'] at this;exact ⟨this,List.mem_of_getElem? hv'⟩
    .obtain ⟨h',g',d',tk',os'⟩:=s';have e1:g'=s.gens:=hm.gens;have e2:d'=s.drawn:=hm.drawn;have e3:os'=s.os:=hm.os;subst e1;subst e2;subst e3;refine qc ?_;refine qc ⟨rfl,h',tk',ms,rfl,S2,fun q=>?_,k2⟩;rw [mem2 q,List.size_toArray,L2.Paired.len hT];constructor
     .rintro ⟨j,hj,e⟩;rw [List.getD_eq_getElem?_getD,List.getElem?_eq_getElem hj] at e;exact e ▸ qy hj
     .intro hq;obtain ⟨j,hj,e⟩:=List.getElem_of_mem hq;exact ⟨j,hj,by rw [List.getD_eq_getElem?_getD,List.getElem?_eq_getElem hj];exact e⟩
   .cases ra2 with
    | error e=>exact har2
    | ok fl2 =>
     cases fl2 with
     | next=>exact har2.elim
     | brk=>exact har2.elim
     | cont=>exact har2.elim
     | ret r =>
      obtain ⟨rfl,h',tk,ms,rfl,q1,q2,q3⟩:=har2
      repeat (any_goals first | assumption | wp_step)
      exact h _ _ _ q1 q2 q3
theorem Zb {Z:Type} [DecidableEq Z]:∀ {ms kss:List Z},ms.Nodup->(∀ q∈ms,q∈kss)->ms.length<=kss.length
 | [],_,_,_=>qB _
 | a::ms,kss,hn,h=>by
  have ha:=h a qe;have h1:=Zb (ms:=ms) (kss:=kss.erase a) (List.nodup_cons.mp hn).2 (fun q hq=>by
   have hne:q≠a:=fun z=>(List.nodup_cons.mp hn).1 (z ▸ hq);exact (List.mem_erase_of_ne hne).mpr (h q (qf _ hq)))
  rw [List.length_erase_of_mem ha] at h1;have:=List.length_pos_of_mem ha;simp only [List.length_cons];omega
end
end L2
namespace L2
open PySem PySem.Spec PyProof.Rows PySem.W PySem.SetTable
theorem jK:Slot "set_iterator" "__next__" "set_iterator.__next__" :=
 .of (owner := "set_iterator") (n := "__next__") (by rw [typeLookup_type,builtinLookup_eq_fast];kernel_rfl) (by decide +kernel) (by decide +kernel) (by decide +kernel) (by first | exact .inl (by decide +kernel) | exact .inr (by decide +kernel)) (by rw [isSubtype_type];kernel_rfl)
theorem Ye:Slot "set_iterator" "__iter__" "set_iterator.__iter__" :=
 .of (owner := "set_iterator") (n := "__iter__") (by rw [typeLookup_type,builtinLookup_eq_fast];kernel_rfl) (by decide +kernel) (by decide +kernel) (by decide +kernel) (by first | exact .inl (by decide +kernel) | exact .inr (by decide +kernel)) (by rw [isSubtype_type];kernel_rfl)
theorem ZQ:entryFor table "set_iterator.__next__" = some Builtin.«set_iterator.__next__»:=entryFor_of_fast (by kernel_rfl)
theorem ZR:entryFor table "set_iterator.__iter__" = some Builtin.«dict_keyiterator.__iter__»:=entryFor_alias (id' := "dict_keyiterator.__iter__") (by kernel_rfl) rfl (by decide +kernel) (by kernel_rfl)
theorem qa1 (a:Value):argsOk "set_iterator.__next__" ⟨[a],[]⟩:=by unfold argsOk;kernel_rfl
theorem qa2 (a:Value):argsOk "set_iterator.__iter__" ⟨[a],[]⟩:=by unfold argsOk;kernel_rfl
theorem qaD:entryFor table "set.__iter__" = some Builtin.«frozenset.__iter__»:=entryFor_alias (id' := "frozenset.__iter__") (by kernel_rfl) rfl (by decide +kernel) (by kernel_rfl)
theorem qcJ {Z:Type}{l:List Z}{i:Nat}(h:i<l.length):(l[i]::l.eraseIdx i).Perm l:=by
 rw [List.eraseIdx_eq_take_drop_succ];have e:l=l.take i++l[i]::l.drop (i+1):=by rw [<- List.drop_eq_getElem_cons h,List.take_append_drop]
 exact List.perm_middle.symm.trans (List.Perm.of_eq e.symm)
theorem qdR {Z:Type}(next:Nat->Nat):∀ (fu k:Nat) (left:List Z) (out:Array Z),left.length=fu->(pickOrder.go next fu k left out).toList.Perm (out.toList++left)
 | 0,k,left,out,h=>by
  cases List.length_eq_zero_iff.mp h
  simp [pickOrder.go]
 | fu+1,k,left,out,h=>by
  unfold pickOrder.go;have hlt:next k % left.length<left.length:=Nat.mod_lt _ (by omega);simp only [List.getElem?_eq_getElem hlt];have ih:=qdR next fu (k+1) (left.eraseIdx (next k % left.length)) (out.push left[next k % left.length]) (by rw [List.length_eraseIdx_of_lt hlt];omega);refine ih.trans ?_;rw [Array.toList_push,List.append_assoc];exact List.Perm.append_left _ (qcJ hlt)
def ZF (w:World) (S:Addr) (ep:Nat) (es:Array (Int×Value)):Array (Int×Value):=if jr w=true then pickOrder (w.params.setOrder S ep) es else es
theorem JD (w:World) (S:Addr) (ep:Nat) (es:Array (Int×Value)):(ZF w S ep es).toList.Perm es.toList:=by
 unfold ZF;split
 .have:=qdR (w.params.setOrder S ep) es.size 0 es.toList #[] (by simp);have this:(pickOrder.go (w.params.setOrder S ep) es.size 0 es.toList #[]).toList.Perm es.toList:=by simpa using this
  exact this
 .exact List.Perm.refl _
theorem jR (w:World) (S:Addr) (ep:Nat) (es:Array (Int×Value)):(ZF w S ep es).size=es.size:=by
 have:=(JD w S ep es).length_eq;simpa using this
theorem Jv {Z β:Type}{R:Z->β->Prop}{xs xs':List Z}(p:xs.Perm xs'):∀ {ys:List β},PySem.Paired R xs ys->∃ ys',PySem.Paired R xs' ys'/\ys.Perm ys':=by
 induction p with
 | nil=>intro ys h;exact ⟨ys,h,List.Perm.refl _⟩
 | cons x _ ih =>
  intro ys h;cases h with
  | cons r t =>
   obtain ⟨zs,h1,h2⟩:=ih t;exact ⟨_,.cons r h1,h2.cons _⟩
 | swap x y l =>
  intro ys h;cases h with
  | cons r t =>
   cases t with
   | cons r' t'=>exact ⟨_,.cons r' (.cons r t'),List.Perm.swap ..⟩
 | trans _ _ ih1 ih2 =>
  intro ys h;obtain ⟨y1,a1,b1⟩:=ih1 h;obtain ⟨y2,a2,b2⟩:=ih2 a1;exact ⟨y2,a2,b1.trans b2⟩
section
variable {prog:Program}{w:World}{Pv:Value->Prop}{A:Around}{E:Value->Shared->Prop}{s:Shared}{a:Addr}{o:Obj}{es:Array (Int×Value)}{ep:Nat}{t:SetTable}{m:Nat}{kss:List (List Int)}
structure SetB (w:World) (h:Heap) (a:Addr) (o:Obj) (es:Array (Int×Value)) (ep:Nat) (t:SetTable) (m:Nat):Prop where
 ho:h.get? a=some o
 ex:o.ExactSet
 hd:o.data = .set es ep t
 fits:t.fits es.size=true
 pl:t.plain=true
 ld:t.led=!jr w
 tab:Tab t m es.size
theorem SetD.toB (D:SetD prog w Pv s.heap a o es ep t m kss):SetB w s.heap a o es ep t m:=⟨D.ho,D.ex,D.hd,D.fits,D.pl,D.ld,D.si.tab⟩
theorem SetB.at {h h':Heap}(B:SetB w h a o es ep t m) (k:h.get? a=some o->h'.get? a=some o):SetB w h' a o es ep t m:=⟨k B.ho,B.ex,B.hd,B.fits,B.pl,B.ld,B.tab⟩
theorem qhx (D:SetB w s.heap a o es ep t m) {Q:Array (Int×Value)->Shared->Prop}(q:Q (ZF w a ep es) s):wpAny (model prog w) A (setWalk a) Q E s:=by
 unfold setWalk setsByText;refine qa (yN D.ho D.hd D.fits ?_);dsimp only;refine qa (qa (jO (qc ?_)));show wpAny _ _ (if jr w=true then _ else _) _ _ _;cases hb:jr w with
 | true =>
  rw [if_pos rfl];refine qa (jO (qc ?_));unfold ZF at q;rw [if_pos hb] at q;exact q
 | false =>
  unfold ZF at q;rw [if_neg (by rw [hb];decide)] at q;have hled:t.led=true:=by rw [D.ld,hb];rfl
  rw [if_neg (by decide)];show wpAny _ _ (if (!t.plain && decide (es.size > 1))=true then _ else _) _ _ _;rw [if_neg (by rw [D.pl];simp)];refine qa (show wpAny _ _ (if (!t.led && decide (es.size > 1))=true then _ else _) _ _ _ from ?_);rw [if_neg (by rw [hled];simp)];exact qc (qc q)
theorem qiA (D:SetB w s.heap a o es ep t m) {slot i:Nat}(hb:jr w=false->below t.place slot=i) {Q:Option (Value×Nat)->Shared->Prop}
  (q:∀ nx,(jr w=false->i<es.size->below t.place nx=i+1)->Q (((ZF w a ep es)[i]?).map fun e=>(e.2,nx)) s):wpAny (model prog w) A (setNext a slot i ep) Q E s:=by
 unfold setNext setsByText;refine qa (yN D.ho D.hd D.fits ?_);dsimp only;refine qa (qa (jO (qc ?_)));show wpAny _ _ (if jr w=true then _ else _) _ _ _;cases hb':jr w with
 | true =>
  rw [if_pos rfl,if_neg (by simp)];refine qa (qhx D (qc (q slot fun z=>?_)));rw [hb'] at z;cases z
 | false =>
  have hled:t.led=true:=by rw [D.ld,hb'];rfl
  rw [if_neg (by decide)];show wpAny _ _ (if (!t.plain && decide (es.size > 1))=true then _ else _) _ _ _;rw [if_neg (by rw [D.pl];simp)];refine qa (show wpAny _ _ (if (!t.led && !es.isEmpty)=true then _ else _) _ _ _ from ?_);rw [if_neg (by rw [hled];simp)];refine qc ?_;rw [hb hb'];have T:=D.tab;have eo:ZF w a ep es=es:=by unfold ZF;rw [if_neg (by rw [hb'];decide)]
  rw [eo] at q;refine qc ?_;by_cases hi:i<es.size
  .have hp:t.place[i]?=some (t.place.getD i 0):=getD_some (by rw [T.size];exact hi);have he:es[i]?=some es[i]:=by simp [hi]
   have nx:=q (t.place.getD i 0+1) fun _ _=>by
    obtain ⟨b1,b2,b3⟩:=jN T.rise (t.place.getD i 0+1);rw [T.size] at b2 b3;rcases Nat.lt_trichotomy (below t.place (t.place.getD i 0+1)) (i+1) with z | z | z
    .have:=b2 i (by omega) hi;omega
    .exact z
    .have c:=b1 (i+1) z;have d:=T.rise i (i+1) (by omega) (by rw [T.size];omega);omega
   rw [he] at nx;rw [hp,he];exact nx
  .have he:es[i]?=none:=by simp;omega
   have nx:=q 0 fun _ z=>absurd z hi;rw [he] at nx;rw [he];exact nx
end
def SIt (h:Heap) (I S:Addr) (slot i n ep:Nat):Prop:=∃ o,h.get? I=some o/\o.cls = .type "set_iterator" /\ o.data = .fields #[.int slot 0,.int i 0,.ref S,.int n 0,.int ep 0]
theorem SIt.typeIs {s:Shared}{I S:Addr}{slot i n ep:Nat}(h:SIt s.heap I S slot i n ep):s.TypeIs (.ref I) "set_iterator" := let ⟨o,ho,hc,_⟩:=h;⟨o,ho,hc⟩
section
variable {prog:Program}{w:World}{Pv:Value->Prop}{A:Around}{E:Value->Shared->Prop}{s:Shared}{S I:Addr}{o:Obj}{es:Array (Int×Value)}{ep:Nat}{t:SetTable}{m:Nat}{kss:List (List Int)}
structure StS (w:World) (h:Heap) (I S:Addr) (o:Obj) (es:Array (Int×Value)) (ep:Nat) (t:SetTable) (m i:Nat):Prop where
 it:∃ slot,SIt h I S slot i es.size ep/\(jr w=false->i<=es.size->below t.place slot=i)
 st:SetB w h S o es ep t m
theorem qex {i:Nat}(hI:I≠S) (st:StS w s.heap I S o es ep t m i) (hi:i<=es.size) {Q:Option Value->Shared->Prop}
  (hit:∀ e h',(ZF w S ep es)[i]?=some e->StS w h' I S o es ep t m (i+1)->(∀ b ob,b≠I->s.heap.get? b=some ob->h'.get? b=some ob)->Q (some e.2) { s with heap:=h' })
  (hend:i=es.size->A.handled=none/\∀ h',(∀ b ob,b≠I->s.heap.get? b=some ob->h'.get? b=some ob)->Q none { s with heap:=h' }):wpAny (model prog w) A (pyNext (.ref I)) Q E s:=by
 obtain ⟨⟨slot,hs,hb⟩,B⟩:=st;obtain ⟨oi,hoi,hci,hdi⟩:=id hs;unfold pyNext;refine qa (wpAny_attempt (wpAny_callSpecial?_slot (name:=Str.ofString "__next__") hs.typeIs jK (yf jK hs.typeIs ZQ ?_ (qa1 _))));unfold Builtin.«set_iterator.__next__»;refine qa (m:=slotArgs "__next__" 0 ⟨[.ref I],[]⟩) (qc ?_);dsimp only;refine qa (wpAny_fieldsOf hoi hdi ?_);dsimp only;refine qa (wpAny_setEntries_of B.ho B.hd B.fits ?_);rw [if_neg (by simp)];refine qa ?_;simp only [Int.toNat_natCast];refine qiA B (fun z=>hb z hi) fun nx hnx=>?_;by_cases hlt:i<es.size
 .have hlt':i<(ZF w S ep es).size:=by rw [jR];exact hlt
  have eq:(ZF w S ep es)[i]?=some (ZF w S ep es)[i]:=by simp [hlt']
  rw [eq];dsimp only [Option.map_some];refine qa (wpAny_setField hoi hdi (by simp) ?_);have h1:=qQ (Obj.mapFields (·.setIfInBounds 0 (rawInt nx))) hoi (Obj.isFreed_of_fields (Obj.data_mapFields hdi _));have d1:=Obj.data_mapFields hdi (·.setIfInBounds 0 (rawInt (nx:Int)));refine qa (wpAny_setField h1 d1 (by simp) (qc ⟨_,rfl,qc ?_⟩));have h2:=qQ (Obj.mapFields (·.setIfInBounds 1 (rawInt ((i:Int)+1)))) h1 (Obj.isFreed_of_fields (Obj.data_mapFields d1 _));have kp:∀ b ob,b≠I->s.heap.get? b=some ob->((s.heap.update I (Obj.mapFields (·.setIfInBounds 0 (rawInt nx)))).update I (Obj.mapFields (·.setIfInBounds 1 (rawInt ((i:Int)+1))))).get? b=some ob:=fun b ob hb e =>
   (qJ _ _ (Ne.symm hb)).trans ((qJ _ _ (Ne.symm hb)).trans e)
  refine hit _ _ eq ⟨⟨nx,⟨_,h2,?_,?_⟩,fun z _=>hnx z hlt⟩,B.at (kp S _ (Ne.symm hI))⟩ kp
  .rw [Obj.cls_mapFields,Obj.cls_mapFields];exact hci
  .rw [Obj.data_mapFields d1];simp [rawInt]
 .have he:i=es.size:=by omega
  obtain ⟨hh,hq⟩:=hend he;have eq:(ZF w S ep es)[i]?=none:=by simp [jR];omega
  rw [eq];dsimp only [Option.map_none];refine qa (wpAny_setField hoi hdi (by simp) ?_);refine qa ?_;simp only [newExc,newTuple];refine qa (yb ?_ (by size_fits));refine qa (m:=firstArgMember _ _) (wpAny_of_eq (a:=Value.none) (by first | rfl | (simp only [firstArgMember];rfl)) ?_);refine yb ?_ (by size_fits);simp only [raiseNew];refine qa (wpAny_handled ?_);rw [show A.in1.handled=none from hh];refine qa (qc (wpAny_throw ?_));refine qa (wpAny_isInstance (T := "StopIteration") (b:=true) ⟨_,qj _ rfl,rfl⟩ isSubtype_stop ?_);refine qc (hq _ fun b ob hb e=>?_);exact qb _ (qb _ ((qJ _ _ (Ne.symm hb)).trans e))
theorem qc0 (hh:A.handled=none) (hI:I≠S):Walks prog w A I [I,S] [I] es.size (fun i v=>((ZF w S ep es)[i]?).map (·.2)=some v) (fun i h=>StS w h I S o es ep t m i) where
 sub:=fun b hb=>by simp at hb;simp [hb]
 frame:=fun i h h' st hk=>by
  obtain ⟨⟨slot,⟨oi,e1,e2⟩,hb⟩,B⟩:=st;exact ⟨⟨slot,⟨oi,hk I (by simp) _ e1,e2⟩,hb⟩,B.at (hk S (by simp) _)⟩
 item:=fun i s Q E hi st hQ=>qex hI st (by omega) (fun e h' eo st' kp=>hQ e.2 h' s.toks (by rw [eo];rfl) st' fun b ob hb=>kp b ob fun z=>hb (by simp [z])) fun z=>absurd z (by omega)
 done:=fun s Q E st hQ=>qex hI st (Nat.le_refl _) (fun e h' eo _ _=>by
  have:(ZF w S ep es)[es.size]?=none:=by simp [jR]
  rw [this] at eo;cases eo) fun _=>⟨hh,fun h' kp=>hQ h' s.toks fun b ob hb=>kp b ob fun z=>hb (by simp [z])⟩
 self:=fun i s Q E st hQ=>by
  obtain ⟨⟨slot,hs,hb⟩,B⟩:=st;refine wpAny_pyIter_slot hs.typeIs Ye (yf Ye hs.typeIs ZR ?_ (qa2 _));show wpAny _ _ (ret (.ref I)) _ _ s;exact qc ⟨_,rfl, "set_iterator",_,hs.typeIs,jK.lookup,hQ⟩
theorem qf4 (B:SetB w s.heap S o es ep t m) {Q:Value->Shared->Prop}(q:∀ h',jg s.heap h'->StS w h' s.heap.objs.size S o es ep t m 0->h'.objs.size=s.heap.objs.size+1->Q (.ref s.heap.objs.size) { s with heap:=h' }):wpAny (model prog w) A (pyIter (.ref S)) Q E s:=by
 have hT:s.TypeIs (.ref S) "set" := ⟨o,B.ho,B.ex.1⟩;refine wpAny_pyIter_slot hT F.slot_set_iter (yf F.slot_set_iter hT qaD ?_ (F.args_set_iter_1 _));unfold Builtin.«frozenset.__iter__» Builtin.Frozenset.slot0;refine qa (qa (m:=slotArgs "__iter__" 0 ⟨[.ref S],[]⟩) (qc (qc ?_)));unfold Builtin.Frozenset.sizeOf setDrawn setsByText setEpoch;refine qa (qa (wpAny_setEntries_of B.ho B.hd B.fits (qc ?_)));refine qa (qa (yN B.ho B.hd B.fits ?_));dsimp only;refine qa (qa (jO (qc (qc ?_))));rw [if_neg (by show ¬ ((!jr w && (!t.plain && decide (es.size > 1)))=true);rw [B.pl];simp)];refine qa (qc ?_);refine qa (qa (yN B.ho B.hd B.fits (qc ?_)));refine qa (yb (qc ⟨_,rfl, "set_iterator",_,⟨_,qj _ rfl,rfl⟩,jK.lookup,q _ (fun b ob e=>qb _ e) ⟨⟨0,⟨_,qj _ rfl,rfl,rfl⟩,fun _ _=>?_⟩,B.at (qb _)⟩ (qV ..)⟩));obtain ⟨b1,b2,b3⟩:=jN B.tab.rise 0;rcases Nat.eq_zero_or_pos (below t.place 0) with z | z
 .exact z
 .exact absurd (b1 0 z) (by omega)
theorem YM (hh:A.handled=none) (B:SetB w s.heap S o es ep t m) (hz:es.size<4915) {Q:List Value->Shared->Prop}(hQ:∀ h' tk,jg s.heap h'->Q ((ZF w S ep es).toList.map (·.2)) { s with heap:=h',toks:=tk }):wpAny (model prog w) A (collect (.ref S)) Q E s:=by
 have hlt:S<s.heap.objs.size:=qi B.ho;unfold collect;refine qa (wpAny_runValue (codeAny_builtin F.entry_proto_collect ?_));rw [Around.under_plainId F.plain_proto_collect _];refine qa (m:=newList []) (yb ?_);refine qc ⟨plainId_quiet F.plain_list_iadd _,codeAny_builtin F.entry_list_iadd ?_⟩;rw [Around.under_plainId F.plain_list_iadd _];have B1:SetB w (s.heap.push { cls:=.type "list",data:=.seq ([]:List Value).toArray }) S o es ep t m:=B.at (qb _);have hL:(s.heap.push { cls:=.type "list",data:=.seq ([]:List Value).toArray }).get? s.heap.objs.size=some { cls:=.type "list",data:=.seq ([]:List Value).toArray }:=qj _ rfl;have kp1:jg s.heap (s.heap.push { cls:=.type "list",data:=.seq ([]:List Value).toArray }):=fun b ob e=>qb _ e;have sz1:(s.heap.push { cls:=.type "list",data:=.seq ([]:List Value).toArray }).objs.size=s.heap.objs.size+1:=qV ..;show wpAny (model prog w) A.in1 (Builtin.List.listExtendWith (.ref s.heap.objs.size) (.ref S) (.ref s.heap.objs.size)) _ _ { s with heap:=s.heap.push { cls:=.type "list",data:=.seq ([]:List Value).toArray } };generalize s.heap.push { cls:=.type "list",data:=.seq ([]:List Value).toArray }=h1 at *;have hT:Shared.TypeIs { s with heap:=h1 } (.ref S) "set" := ⟨o,B1.ho,B1.ex.1⟩;have ne:Builtin.List.listSameRef (.ref s.heap.objs.size) (.ref S)=false:=by simp only [Builtin.List.listSameRef];exact beq_false_of_ne (yi hlt)
 unfold Builtin.List.listExtendWith;refine qa (wpAny_typeOf hT ?_);rw [if_neg (by rw [ne];decide)];refine qa (qf4 (s:={ s with heap:=h1 }) B1 fun h2 kp2 st2 sz2=>?_);have hT2:Shared.TypeIs { s with heap:=h2 } (.ref S) "set" := ⟨o,st2.st.ho,B1.ex.1⟩;have hL2:=kp2 _ _ hL;refine qa (qH ?_);unfold Builtin.List.listLengthHint;refine qa (wpAny_specialOf hT2 F.slot_set_len.lookup ?_);generalize hid:("set.__len__" : String)=id0
 wp_delta
 rw [show splitId id0=some ("set", "__len__") from by subst hid;decide +kernel];subst hid;refine qa (wpAny_isInstance (b:=true) hT2 sub_set_self ?_);refine qa (m:=typeOf (.ref S)) (wpAny_typeOf hT2 (qc ?_));show wpAny (model prog w) A.in1 (rule "list.extend.makes-room" >>= fun _=>Builtin.List.listTouch (.ref s.heap.objs.size) >>= fun _=>again (.builtin "list.extend.loop" ⟨[.ref s.heap.objs.size,.ref h1.objs.size,.ref s.heap.objs.size],[]⟩)) _ _ _;refine qa (yV (qa ?_));show wpAny (model prog w) A.in1 (updateSeq s.heap.objs.size (·.push .none) >>= fun _=>updateSeq s.heap.objs.size (·.pop)) _ _ _;refine qa (ju hL2 rfl ?_);have hL3:=qQ (Obj.mapSeq (·.push Value.none)) hL2 rfl;refine ju hL3 rfl ?_;have hL4:=qQ (Obj.mapSeq (·.pop)) hL3 rfl;have oth:∀ b ob,b≠s.heap.objs.size->h2.get? b=some ob->((h2.update s.heap.objs.size (Obj.mapSeq (·.push Value.none))).update s.heap.objs.size (Obj.mapSeq (·.pop))).get? b=some ob :=
  fun b ob hb e=>(qJ _ _ (Ne.symm hb)).trans ((qJ _ _ (Ne.symm hb)).trans e)
 have hI:h1.objs.size≠S:=fun z=>by
  have:=qi B1.ho;rw [<- z] at this;exact ye _ this
 have hIL:h1.objs.size≠s.heap.objs.size:=by rw [sz1];exact yi (qZ _)
 have W:WalksS prog w A.in1 h1.objs.size [h1.objs.size,S] [h1.objs.size] (fun a b=>b=a) es.size (fun i v=>((ZF w S ep es)[i]?).map (·.2)=some v) (fun i s=>StS w s.heap h1.objs.size S o es ep t m i):=(qc0 (A:=A.in1) hh hI).toS;refine qc ⟨plainId_quiet F.plain_extend_loop _,codeAny_extend_loopS W (by rw [sizeLine_eq];omega) s.heap.objs.size (fun hm=>?_) _ es.size 0 _ _ _ rfl (qB _) ?_ hL4 (ItemsOf.nil _) fun s' acc' c' hm hS' hacc=>?_⟩
 .rcases List.mem_cons.mp hm with z | z
  .exact hIL z.symm
  .exact yi hlt (qA.mp z)
 .obtain ⟨⟨slot,⟨oi,e1,e2⟩,hb⟩,B2⟩:=st2;exact ⟨⟨slot,⟨oi,oth _ _ hIL e1,e2⟩,hb⟩,B2.at (oth _ _ (qg hlt))⟩
 .refine qa (m:=load s.heap.objs.size) (wpAny_load hS' ?_);have kp:jg s.heap s'.heap:=fun b ob e=>by
   have hb:b<s.heap.objs.size:=qi e;refine hm.heap b ob (fun z=>?_) (oth b ob (qg hb) (kp2 _ _ (kp1 _ _ e)));rcases List.mem_cons.mp z with z | z
   .exact qg hb z
   .rw [qA.mp z,sz1] at hb;exact absurd hb (Nat.not_lt.mpr (Nat.le_succ _))
  have ea:acc'.toList=(ZF w S ep es).toList.map (·.2):=by
   apply List.ext_getElem?;intro i;rw [List.getElem?_map,qG,qG];cases z:acc'[i]? with
   | some v=>exact (hacc.2 i v z).symm
   | none =>
    have:acc'.size<=i:=by simpa using z
    rw [hacc.1,<- jR w S ep es] at this;rw [Array.getElem?_eq_none this];rfl
  have fin:=hQ s'.heap s'.toks kp;rw [<- ea] at fin;obtain ⟨h',g',d',tk',os'⟩:=s';have e1:g'=s.gens:=hm.gens;have e2:d'=s.drawn:=hm.drawn;have e3:os'=s.os:=hm.os;subst e1;subst e2;subst e3;exact qc fin
end
end L2
namespace L2
open PySem PySem.Spec PyProof.Rows PySem.W PySem.SetTable
section
variable {prog:Program}{w:World}{Pv Pv':Value->Prop}{A:Around}{E:Value->Shared->Prop}{s:Shared}{S1 S2:Addr}{k1 k2:List (List Int)}
end
open PySem PySem.Spec PyProof.Rows
mutual
theorem Is.same {K:W.Frag}{H H':Hp}(s:yd H H'):∀ {v:V}{d:PyData},Is K H v d->Is K H' v d
 | _,_,.non=>.non
 | _,_,.bl b=>.bl b
 | _,_,.int i=>.int i
 | _,_,.str x=>.str x
 | _,_,.lst h hs=>.lst (yd.seq s h) (IsAll.same s hs)
 | _,_,.tup h hs=>.tup (by
   rcases h with (e | ⟨o,e⟩) | e
   .exact .inl (.inl (s _ _ e))
   .exact .inl (.inr ⟨o,s _ _ e⟩)
   .exact .inr e) (IsAll.same s hs)
 | _,_,.dc h=>.dc (s _ _ h)
theorem IsAll.same {K:W.Frag}{H H':Hp}(s:yd H H'):∀ {vs:List V}{ds:List PyData},IsAll K H vs ds->IsAll K H' vs ds
 | _,_,.nil=>.nil
 | _,_,.cons h hs=>.cons (Is.same s h) (IsAll.same s hs)
end
theorem IsAll.len {K:W.Frag}{H:Hp}:∀ {vs:List V}{ds:List PyData},IsAll K H vs ds->vs.length=ds.length
 | _,_,.nil=>rfl
 | _,_,.cons _ hs=>by simp [IsAll.len hs]
theorem IsAll.get {K:W.Frag}{H:Hp}:∀ {vs:List V}{ds:List PyData}{i:Nat}{v:V},IsAll K H vs ds->vs[i]?=some v->∃ d,ds[i]?=some d/\Is K H v d
 | _,_,_,_,.nil,e=>by simp at e
 | _,_,0,_,.cons h _,e=>by simp at e;subst e;exact ⟨_,rfl,h⟩
 | _,_,i+1,v,.cons _ t,e=>by
  obtain ⟨u,h1,h2⟩:=IsAll.get (i:=i) (v:=v) t (by simpa using e);exact ⟨u,by simpa using h1,h2⟩
theorem IsAll.get' {K:W.Frag}{H:Hp}:∀ {vs:List V}{ds:List PyData}{i:Nat}{d:PyData},IsAll K H vs ds->ds[i]?=some d->∃ v,vs[i]?=some v/\Is K H v d
 | _,_,_,_,.nil,e=>by simp at e
 | _,_,0,_,.cons h _,e=>by simp at e;subst e;exact ⟨_,rfl,h⟩
 | _,_,i+1,v,.cons _ t,e=>by
  obtain ⟨u,h1,h2⟩:=IsAll.get' (i:=i) (d:=v) t (by simpa using e);exact ⟨u,by simpa using h1,h2⟩
theorem IsAll.snoc {K:W.Frag}{H:Hp}{v:V}{d:PyData}(h:Is K H v d):∀ {vs:List V}{ds:List PyData},IsAll K H vs ds->IsAll K H (vs++[v]) (ds++[d])
 | _,_,.nil=>.cons h .nil
 | _,_,.cons a b=>.cons a (IsAll.snoc h b)
theorem IsAll.app {K:W.Frag}{H:Hp}{us:List V}{es:List PyData}(h:IsAll K H us es):∀ {vs:List V}{ds:List PyData},IsAll K H vs ds->IsAll K H (vs++us) (ds++es)
 | _,_,.nil=>h
 | _,_,.cons a b=>.cons a (IsAll.app h b)
theorem IsAll.drop {K:W.Frag}{H:Hp}:∀ {vs:List V}{ds:List PyData}(n:Nat),IsAll K H vs ds->IsAll K H (vs.drop n) (ds.drop n)
 | _,_,0,h=>h
 | _,_,_+1,.nil=>.nil
 | _,_,n+1,.cons _ t=>IsAll.drop n t
theorem IsAll.take {K:W.Frag}{H:Hp}:∀ {vs:List V}{ds:List PyData}(n:Nat),IsAll K H vs ds->IsAll K H (vs.take n) (ds.take n)
 | _,_,0,h=>.nil
 | _,_,_+1,.nil=>.nil
 | _,_,n+1,.cons h t=>.cons h (IsAll.take n t)
theorem IsAll.rev {K:W.Frag}{H:Hp}:∀ {vs:List V}{ds:List PyData},IsAll K H vs ds->IsAll K H vs.reverse ds.reverse
 | _,_,.nil=>.nil
 | _,_,.cons h t=>by simpa using IsAll.snoc h (IsAll.rev t)
theorem IsAll.ints_of {K:W.Frag}{H:Hp}:∀ {vs:List V}{ns:List Int},IsAll K H vs (ns.map PyData.int)->vs=ns.map V.int
 | _,[],.nil=>rfl
 | _,_::_,.cons h t=>by cases h;rw [IsAll.ints_of t];rfl
theorem IsAll.bools_of {K:W.Frag}{H:Hp}:∀ {vs:List V}{ns:List Bool},IsAll K H vs (ns.map PyData.bool)->vs=ns.map V.bl
 | _,[],.nil=>rfl
 | _,_::_,.cons h t=>by cases h;rw [IsAll.bools_of t];rfl
structure Stb where
 R:V->Hp->Prop
 st:∀ v H H',yd H H'->R v H->R v H'
inductive En where
 | d (x:PyData)
 | m (a:Addr)
 | x (r:Stb)
 | ty (n:String)
structure MSt where
 R:Hp->HO->Prop
 st:∀ H H' u,yd H H'->R H u->R H' u
 nt:∀ H u xs,R H u->u≠.tup xs
 ml:∀ H H' a xs u,H a=some (.lst xs)->(∀ b o,H b=some o->b≠a->H' b=some o)->R H u->R H' u
inductive MO where
 | any (r:MSt)
 | pot (M:Int)
 | lst (ds:List PyData)
 | refs (as:List Addr)
 | dct (ks:List (List Int))
  | ins (C dx:Addr) (fs:List (Str×En))
abbrev Mu:=List (Addr×MO)
def mask (U:Mu) (H:Hp):Hp:=fun a=>if a∈U.map Prod.fst then none else H a
theorem yt {U:Mu}{H:Hp}:yd (mask U H) H:=fun b o e=>by
 unfold mask at e;split at e
 .cases e
 .exact e
theorem Jc {U:Mu}{H:Hp}{b:Addr}{o:HO}(e:mask U H b=some o):b∉U.map Prod.fst/\H b=some o:=by
 unfold mask at e;split at e
 .cases e
 .exact ⟨by assumption,e⟩
theorem qX {U:Mu}{H:Hp}{b:Addr}(h:b∉U.map Prod.fst):mask U H b=H b:=by unfold mask;rw [if_neg h]
theorem ZJ {U U':Mu}{H:Hp}(h:∀ a,a∈U'.map Prod.fst->a∈U.map Prod.fst):yd (mask U H) (mask U' H):=fun b o e=>by
 obtain ⟨h1,h2⟩:=Jc e;rw [qX (fun z=>h1 (h _ z))];exact h2
def IsE (K:W.Frag) (U:Mu) (H:Hp) (v:V):En->Prop
 | .d x=>Is K (mask U H) v x
 | .m a=>v = .ref a
 | .x r=>r.R v (mask U H)
 | .ty n=>v = .ty n
theorem IsE.same {K:W.Frag}{U U':Mu}{H H':Hp}{v:V}{e:En}(s:yd (mask U H) (mask U' H')) (h:IsE K U H v e):IsE K U' H' v e:=by
 cases e with
 | d x=>exact Is.same s h
 | m a=>exact h
 | x r=>exact r.st _ _ _ s h
 | ty n=>exact h
def qjx (K:W.Frag) (U:Mu) (H:Hp) (x:Str×V) (y:Str×En):Prop:=x.1=y.1/\IsE K U H x.2 y.2
theorem qjx.all {K:W.Frag}{U U':Mu}{H H':Hp}(s:yd (mask U H) (mask U' H')):∀ {vs:List (Str×V)}{fs:List (Str×En)},PySem.Paired (qjx K U H) vs fs->PySem.Paired (qjx K U' H') vs fs
 | _,_,.nil=>.nil
 | _,_,.cons h t=>.cons ⟨h.1,h.2.same s⟩ (qjx.all s t)
def qhs (K:W.Frag) (U:Mu) (H:Hp) (a:Addr):MO->Prop
 | .any r=>∃ u,H a=some u/\r.R (mask U H) u
 | .pot M=>Pot M H a
 | .lst ds=>∃ xs,H a=some (.lst xs)/\IsAll K (mask U H) xs ds
 | .refs as=>H a=some (.lst (as.map V.ref))
 | .dct ks=>H a=some (.dT (ks.map fun ns=>(ns.map Sum.inl,V.bl true)))
 | .ins C dx fs=>∃ vs,H a=some (.ins C dx vs)/\PySem.Paired (qjx K U H) vs fs
theorem qhs.some {K:W.Frag}{U:Mu}{H:Hp}{a:Addr}{o:MO}(h:qhs K U H a o):∃ u,H a=some u:=by
 cases o with
 | any r=>obtain ⟨u,e,_⟩:=h;exact ⟨_,e⟩
 | pot M=>obtain ⟨p0,p1,e,_⟩:=h;exact ⟨_,e⟩
 | lst ds=>obtain ⟨xs,e,_⟩:=h;exact ⟨_,e⟩
 | refs as=>exact ⟨_,h⟩
 | dct kvs=>exact ⟨_,h⟩
 | ins C dx fs=>obtain ⟨vs,e,_⟩:=h;exact ⟨_,e⟩
structure RelM (K:W.Frag) (U:Mu) (H:Hp):Prop where
 nd:(U.map Prod.fst).Nodup
 ob:∀ a o,(a,o)∈U->qhs K U H a o
theorem qhs.same {K:W.Frag}{U U':Mu}{H H':Hp}{a:Addr}{o:MO}(s:yd (mask U H) (mask U' H')) (e:H' a=H a) (h:qhs K U H a o):qhs K U' H' a o:=by
 cases o with
 | any r=>obtain ⟨u,q,z⟩:=h;exact ⟨u,e.trans q,r.st _ _ _ s z⟩
 | pot M=>obtain ⟨p0,p1,q,r⟩:=h;exact ⟨p0,p1,e.trans q,r⟩
 | lst ds=>obtain ⟨xs,q,r⟩:=h;exact ⟨xs,e.trans q,IsAll.same s r⟩
 | refs as=>exact e.trans h
 | dct kvs=>exact e.trans h
 | ins C dx fs=>obtain ⟨vs,q,r⟩:=h;exact ⟨vs,e.trans q,qjx.all s r⟩
theorem RelM.same {K:W.Frag}{U:Mu}{H H':Hp}(h:RelM K U H) (s:yd H H'):RelM K U H'/\yd (mask U H) (mask U H'):=by
 have ss:yd (mask U H) (mask U H'):=fun b o e=>by
  obtain ⟨h1,h2⟩:=Jc e;rw [qX h1];exact s _ _ h2
 refine ⟨⟨h.nd,fun a o ho=>?_⟩,ss⟩;have:=h.ob a o ho;obtain ⟨xs,e⟩:=this.some;exact this.same ss ((s _ _ e).trans e.symm)
theorem RelM.laid {K:W.Frag}{U:Mu}{H:Hp}{p:Addr}{o:HO}(h:RelM K U H) (e:H p=none):RelM K U (upd H p o)/\yd (mask U H) (mask U (upd H p o))/\p∉U.map Prod.fst:=by
 obtain ⟨h1,h2⟩:=h.same (yd.upd (o:=o) e);refine ⟨h1,h2,fun z=>?_⟩;obtain ⟨⟨a,q⟩,hq,rfl⟩:=ql.mp z;obtain ⟨xs,e'⟩:=(h.ob a q hq).some;rw [e'] at e;cases e
theorem qeb {U:Mu}{a:Addr}{o:MO}(h:(a,o)∈U):a∈U.map Prod.fst:=ql.mpr ⟨_,h,rfl⟩
theorem RelM.write {K:W.Frag}{U1 U2:Mu}{H H':Hp}{a:Addr}{o o':MO}(h:RelM K (U1++(a,o)::U2) H) (k:∀ b u,H b=some u->b≠a->H' b=some u)
  (new:yd (mask (U1++(a,o)::U2) H) (mask (U1++(a,o')::U2) H')->qhs K (U1++(a,o')::U2) H' a o') :
  RelM K (U1++(a,o')::U2) H'/\yd (mask (U1++(a,o)::U2) H) (mask (U1++(a,o')::U2) H'):=by
 have ks:(U1++(a,o')::U2).map Prod.fst=(U1++(a,o)::U2).map Prod.fst:=by simp
 have ss:yd (mask (U1++(a,o)::U2) H) (mask (U1++(a,o')::U2) H'):=fun b u e=>by
  obtain ⟨h1,h2⟩:=Jc e;rw [qX (by rw [ks];exact h1)];exact k b u h2 fun z=>h1 (by rw [z];simp)
 refine ⟨⟨by rw [ks];exact h.nd,fun b q hq=>?_⟩,ss⟩;have nd:=h.nd;simp only [List.map_append,List.map_cons,List.nodup_append,List.nodup_cons] at nd;have hcase:(b,q)=(a,o')\/((b,q)∈U1++(a,o)::U2/\b≠a):=by
  rcases List.mem_append.mp hq with z | z
  .exact .inr ⟨qr _ z,fun e=>nd.2.2 b (qeb z) a (by simp) e⟩
  .rcases List.mem_cons.mp z with z | z
   .exact .inl z
   .exact .inr ⟨qh _ (qf _ z),fun e=>nd.2.1.1 (e ▸ qeb z)⟩
 rcases hcase with z | ⟨z,hne⟩
 .cases z;exact new ss
 .have:=h.ob b q z;obtain ⟨xs,e⟩:=this.some;exact this.same ss ((k b _ e hne).trans e.symm)
theorem RelM.drop {K:W.Frag}{U1 U2:Mu}{H:Hp}{a:Addr}{o:MO}(h:RelM K (U1++(a,o)::U2) H):RelM K (U1++U2) H/\yd (mask (U1++(a,o)::U2) H) (mask (U1++U2) H)/\a∉(U1++U2).map Prod.fst:=by
 have nd:=h.nd;have ss:yd (mask (U1++(a,o)::U2) H) (mask (U1++U2) H):=ZJ fun b hb=>by
  simp only [List.map_append,List.map_cons,List.mem_append,List.mem_cons] at *;rcases hb with z | z
  .exact .inl z
  .exact .inr (.inr z)
 simp only [List.map_append,List.map_cons,List.nodup_append,List.nodup_cons] at nd;refine ⟨⟨?_,fun b q hq=>?_⟩,ss,?_⟩
 .simp only [List.map_append,List.nodup_append];exact ⟨nd.1,nd.2.1.2,fun x hx y hy=>nd.2.2 x hx y (qf _ hy)⟩
 .have:(b,q)∈U1++(a,o)::U2:=by
   rcases List.mem_append.mp hq with z | z
   .exact qr _ z
   .exact qh _ (qf _ z)
  exact (h.ob b q this).same ss rfl
 .simp only [List.map_append,List.mem_append,not_or];exact ⟨fun z=>nd.2.2 a z a (by simp) rfl,nd.2.1.1⟩
theorem RelM.new {K:W.Frag}{U:Mu}{H:Hp}{p:Addr}{u:HO}{o:MO}(h:RelM K U H) (e:H p=none) (new:yd (mask U H) (mask ((p,o)::U) (upd H p u))->qhs K ((p,o)::U) (upd H p u) p o) :
  RelM K ((p,o)::U) (upd H p u)/\yd (mask U H) (mask ((p,o)::U) (upd H p u)):=by
 obtain ⟨h1,h2,h3⟩:=h.laid (o:=u) e;have ss:yd (mask U H) (mask ((p,o)::U) (upd H p u)):=fun b q z=>by
  obtain ⟨z1,z2⟩:=Jc z;have hb:b≠p:=qt z2 e;rw [qX (by simp only [List.map_cons,List.mem_cons,not_or];exact ⟨hb,z1⟩),qC hb];exact z2
 refine ⟨⟨by simp only [List.map_cons,List.nodup_cons];exact ⟨h3,h.nd⟩,fun b q hq=>?_⟩,ss⟩;rcases List.mem_cons.mp hq with z | z
 .cases z;exact new ss
 .have:=h.ob b q z;obtain ⟨xs,e'⟩:=this.some;exact this.same ss (qC (qt e' e))
abbrev Rho:=List (Option En)
structure RelS (K:W.Frag) (ρ:Rho) (U:Mu) (σ:St) (H:Hp):Prop where
 len:ρ.length=σ.length
 get:∀ (i:Nat) (e:En),ρ[i]?=some (some e)->∃ v,σ[i]?=some (some v)/\IsE K U H v e
theorem RelS.same {K:W.Frag}{ρ:Rho}{U U':Mu}{σ:St}{H H':Hp}(h:RelS K ρ U σ H) (s:yd (mask U H) (mask U' H')):RelS K ρ U' σ H' :=
 ⟨h.len,fun i e q=>let ⟨v,e1,e2⟩:=h.get i e q;⟨v,e1,e2.same s⟩⟩
theorem RelS.set {K:W.Frag}{ρ:Rho}{U:Mu}{σ:St}{H:Hp}{i:Nat}{v:V}{e:En}(h:RelS K ρ U σ H) (r:IsE K U H v e):RelS K (ρ.set i (some e)) U (σ.set i (some v)) H:=by
 refine ⟨by simp [h.len],fun j x q=>?_⟩;by_cases hj:i=j
 .subst hj;have hi:i<ρ.length:=by
   have:=(qk.mp q).1;simpa using this
  rw [List.getElem?_set_self (by rw [<- h.len];exact hi)];rw [List.getElem?_set_self hi] at q;cases q
  exact ⟨v,rfl,r⟩
 .rw [yX hj] at *;exact h.get j x q
def Wk (ρ:Rho) (U:Mu) (ρ':Rho) (U':Mu):Prop:=∀ (K:W.Frag) (σ:St) (H:Hp),RelS K ρ U σ H->RelM K U H->RelS K ρ' U' σ H/\RelM K U' H/\yd (mask U H) (mask U' H)
theorem Wk.refl {ρ:Rho}{U:Mu}:Wk ρ U ρ U:=fun _ _ _ h1 h2=>⟨h1,h2,yd.refl _⟩
theorem Wk.drop {ρ:Rho}{U1 U2:Mu}{a:Addr}{o:MO}:Wk ρ (U1++(a,o)::U2) ρ (U1++U2):=fun _ _ _ h1 h2=>by
 obtain ⟨x,y,_⟩:=h2.drop;exact ⟨h1.same y,x,y⟩
theorem Wk.drop1 {ρ:Rho}{U2:Mu}{a:Addr}{o:MO}:Wk ρ ((a,o)::U2) ρ U2:=Wk.drop (U1:=[])
abbrev TEd:=Rho->Mu->(En->Mu->Prop)->Prop
abbrev TTd:=Rho->Mu->(Bool->Mu->Prop)->Prop
abbrev TAd:=Rho->Mu->(List En->Mu->Prop)->Prop
structure EndsD where
 nx:Rho->Mu->Prop
 rt:En->Mu->Prop
 bk:Rho->Mu->Prop:=fun _ _=>False
 ct:Rho->Mu->Prop:=fun _ _=>False
abbrev TSd:=EndsD->Rho->Mu->Prop
def Cl (K:W.Frag) (U:Mu) (H:Hp) (Q0:En->Mu->Prop) (Q:VK):Prop:=∀ e U' v H',Q0 e U'->RelM K U' H'->yd (mask U H) (mask U' H')->IsE K U' H' v e->Q v H'
def ClT (K:W.Frag) (U:Mu) (H:Hp) (Q0:Bool->Mu->Prop) (Q:Bool->Hp->Prop):Prop:=∀ b U' H',Q0 b U'->RelM K U' H'->yd (mask U H) (mask U' H')->Q b H'
def ClA (K:W.Frag) (U:Mu) (H:Hp) (Q0:List En->Mu->Prop) (Q:List V->Hp->Prop):Prop:=∀ es U' vs H',Q0 es U'->RelM K U' H'->yd (mask U H) (mask U' H')->Paired (IsE K U' H') vs es->Q vs H'
def ClR (K:W.Frag) (U:Mu) (H:Hp) (Q0:Rho->Mu->Prop) (Q:St->Hp->Prop):Prop:=∀ ρ' U' σ' H',Q0 ρ' U'->RelS K ρ' U' σ' H'->RelM K U' H'->yd (mask U H) (mask U' H')->Q σ' H'
structure ClS (K:W.Frag) (U:Mu) (H:Hp) (D0:EndsD) (D:Ends):Prop where
 nx:ClR K U H D0.nx D.nx
 rt:Cl K U H D0.rt D.rt
 bk:ClR K U H D0.bk D.bk
 ct:ClR K U H D0.ct D.ct
theorem Cl.same {K:W.Frag}{U U1:Mu}{H H1:Hp}{Q0:En->Mu->Prop}{Q:VK}(h:Cl K U H Q0 Q) (s:yd (mask U H) (mask U1 H1)):Cl K U1 H1 Q0 Q:=fun e U' v H' a b c d=>h e U' v H' a b (s.trans c) d
theorem ClT.same {K:W.Frag}{U U1:Mu}{H H1:Hp}{Q0:Bool->Mu->Prop}{Q:Bool->Hp->Prop}(h:ClT K U H Q0 Q) (s:yd (mask U H) (mask U1 H1)):ClT K U1 H1 Q0 Q:=fun e U' H' a b c=>h e U' H' a b (s.trans c)
theorem ClR.same {K:W.Frag}{U U1:Mu}{H H1:Hp}{Q0:Rho->Mu->Prop}{Q:St->Hp->Prop}(h:ClR K U H Q0 Q) (s:yd (mask U H) (mask U1 H1)):ClR K U1 H1 Q0 Q:=fun e U' v H' a b c d=>h e U' v H' a b c (s.trans d)
theorem ClS.same {K:W.Frag}{U U1:Mu}{H H1:Hp}{D0:EndsD}{D:Ends}(h:ClS K U H D0 D) (s:yd (mask U H) (mask U1 H1)):ClS K U1 H1 D0 D:=⟨h.nx.same s,h.rt.same s,h.bk.same s,h.ct.same s⟩
def up (K:W.Frag) (t:TEd):TE:=fun σ H Q=>∃ ρ U Q0,RelS K ρ U σ H/\RelM K U H/\t ρ U Q0/\Cl K U H Q0 Q
def upT (K:W.Frag) (t:TTd):TT:=fun σ H Q=>∃ ρ U Q0,RelS K ρ U σ H/\RelM K U H/\t ρ U Q0/\ClT K U H Q0 Q
def upA (K:W.Frag) (t:TAd):TA:=fun σ H Q=>∃ ρ U Q0,RelS K ρ U σ H/\RelM K U H/\t ρ U Q0/\ClA K U H Q0 Q
def upS (K:W.Frag) (t:TSd):TS:=fun D σ H=>∃ ρ U D0,RelS K ρ U σ H/\RelM K U H/\t D0 ρ U/\ClS K U H D0 D
def DE (K:W.Frag) (X:Cx) (e:Expr) (t:TEd):Prop:=PE X e (up K t)
def DT (K:W.Frag) (X:Cx) (e:Expr) (t:TTd):Prop:=PT X e (upT K t)
def DW (K:W.Frag) (X:Cx) (e:Expr) (t:TTd):Prop:=PW X e (upT K t)
def DA (K:W.Frag) (X:Cx) (es:List Expr) (t:TAd):Prop:=PA X es (upA K t)
def DS (K:W.Frag) (X:Cx) (st:Stmt) (t:TSd):Prop:=PS X st (upS K t)
def DSs (K:W.Frag) (X:Cx) (st:List Stmt) (t:TSd):Prop:=PSs X st (upS K t)
section
variable {X:Cx}{K:W.Frag}
theorem PE.mono {e:Expr}{t t':TE}(h:PE X e t) (f:∀ σ H Q,t' σ H Q->t σ H Q):PE X e t':=fun pins s σ H Q I q=>h pins s σ H Q I (f _ _ _ q)
theorem PT.mono {e:Expr}{t t':TT}(h:PT X e t) (f:∀ σ H Q,t' σ H Q->t σ H Q):PT X e t':=fun pins s σ H Q I q=>h pins s σ H Q I (f _ _ _ q)
theorem PW.mono {e:Expr}{t t':TT}(h:PW X e t) (f:∀ σ H Q,t' σ H Q->t σ H Q):PW X e t':=fun wh pins s σ H Q I q=>h wh pins s σ H Q I (f _ _ _ q)
theorem PA.mono {e:List Expr}{t t':TA}(h:PA X e t) (f:∀ σ H Q,t' σ H Q->t σ H Q):PA X e t':=fun p pins s σ H Q I q=>h p pins s σ H Q I (f _ _ _ q)
theorem PS.mono {e:Stmt}{t t':TS}(h:PS X e t) (f:∀ D σ H,t' D σ H->t D σ H):PS X e t':=fun pins s σ H D I q=>h pins s σ H D I (f _ _ _ q)
theorem PSs.mono {e:List Stmt}{t t':TS}(h:PSs X e t) (f:∀ D σ H,t' D σ H->t D σ H):PSs X e t':=fun pins s σ H D I q=>h pins s σ H D I (f _ _ _ q)
theorem OpR.mono {f:Value->Value->Sem Value}{r r':R2}(h:OpR X f r) (g:∀ x y H Q,r' x y H Q->r x y H Q):OpR X f r':=fun pins s σ H x y v u Q I a b c=>h pins s σ H x y v u Q I a b (g _ _ _ _ c)
theorem UnR.mono {f:Value->Sem Value}{r r':V->Hp->VK->Prop}(h:UnR X f r) (g:∀ x H Q,r' x H Q->r x H Q):UnR X f r':=fun pins s σ H x v Q I a c=>h pins s σ H x v Q I a (g _ _ _ c)
theorem yG.mono {f:Value}{r r':List V->Hp->VK->Prop}(h:yG X f r) (g:∀ x H Q,r' x H Q->r x H Q):yG X f r':=fun pins s σ H x v Q I a c=>h pins s σ H x v Q I a (g _ _ _ c)
theorem IxR.mono {r r':R2}(h:IxR X r) (g:∀ x y H Q,r' x y H Q->r x y H Q):IxR X r':=fun a b pins s σ H x y v u Q I p q c=>h a b pins s σ H x y v u Q I p q (g _ _ _ _ c)
def qlg (i:Nat):TEd:=fun ρ U Q=>match ρ[i]? with
 | some (some e)=>Q e U
 | _=>False
def dC (x:PyData):TEd:=fun _ U Q=>Q (.d x) U
theorem dv (i:Nat) {x:Str}{pos:Pos}(hN:X.N[i]?=some x:=by rfl) (hv:Vis X.env.scope x:=by first | exact Or.inl rfl | exact Or.inr (Or.inl rfl) | exact Or.inr (Or.inr rfl)) (hd:(x == ("__debug__" : Str))=false:=by decide)
  (hcd:(x == ("__classdict__" : Str))=false:=by decide):DE K X (.Name x pos) (qlg i):=by
 refine PE.mono (qgS hN hv hd hcd) fun σ H Q hq9=>?_;obtain ⟨ρ,U,Q0,hS,hM,h,cl⟩:=hq9;unfold qlg at h;split at h
 .rename_i e he
  obtain ⟨v,e1,e2⟩:=hS.get i e he;exact ⟨v,e1,cl e U v H h hM (yd.refl _) e2⟩
 .exact h.elim
theorem qF {i:Int}{j pos}:DE K X (.Constant (.int i) j pos) (dC (.int i)):=PE.mono jz fun σ H Q ⟨ρ,U,Q0,hS,hM,h,cl⟩=>cl _ U (.int i) H h hM (yd.refl _) (.int i)
theorem qeS {b:Bool}{j pos}:DE K X (.Constant (.bool b) j pos) (dC (.bool b)):=PE.mono pe_bl fun σ H Q ⟨ρ,U,Q0,hS,hM,h,cl⟩=>cl _ U (.bl b) H h hM (yd.refl _) (.bl b)
theorem up2 {σ:St}{H:Hp}{ta tb:TEd}{R:V->V->Hp->Prop}{ρ:Rho}{U:Mu}{R0:En->En->Mu->Prop}(hS:RelS K ρ U σ H) (hM:RelM K U H) (h:ta ρ U fun x U1=>tb ρ U1 fun y U2=>R0 x y U2)
  (f:∀ x y U2 v u H2,R0 x y U2->RelM K U2 H2->yd (mask U H) (mask U2 H2)->IsE K U2 H2 v x->IsE K U2 H2 u y->R v u H2):up K ta σ H fun v H1=>up K tb σ H1 fun u H2=>R v u H2:=by
 refine ⟨ρ,U,_,hS,hM,h,fun x U1 v H1 q1 M1 s1 i1=>⟨ρ,U1,_,hS.same s1,M1,q1,fun y U2 u H2 q2 M2 s2 i2=>?_⟩⟩;exact f x y U2 v u H2 q2 M2 (s1.trans s2) (i1.same s2) i2
abbrev R2d:=En->En->Mu->(En->Mu->Prop)->Prop
abbrev R1d:=En->Mu->(En->Mu->Prop)->Prop
abbrev RAd:=List En->Mu->(En->Mu->Prop)->Prop
def upR (K:W.Frag) (r:R2d):R2:=fun x y H Q=>∃ U e e' Q0,RelM K U H/\IsE K U H x e/\IsE K U H y e'/\r e e' U Q0/\Cl K U H Q0 Q
def upU (K:W.Frag) (r:R1d):V->Hp->VK->Prop:=fun x H Q=>∃ U e Q0,RelM K U H/\IsE K U H x e/\r e U Q0/\Cl K U H Q0 Q
def upC (K:W.Frag) (r:RAd):List V->Hp->VK->Prop:=fun xs H Q=>∃ U es Q0,RelM K U H/\Paired (IsE K U H) xs es/\r es U Q0/\Cl K U H Q0 Q
variable {a b c:Expr}{ta tb tc:TEd}{pos:Pos}
def dOp (r:R2d) (ta tb:TEd):TEd:=fun ρ U Q=>ta ρ U fun x U1=>tb ρ U1 fun y U2=>r x y U2 Q
def dUn (r:R1d) (ta:TEd):TEd:=fun ρ U Q=>ta ρ U fun x U1=>r x U1 Q
theorem qhA {r:R2d}{σ:St}{H:Hp}{Q:VK}(h:up K (dOp r ta tb) σ H Q):tOp (upR K r) (up K ta) (up K tb) σ H Q:=by
 obtain ⟨ρ,U,Q0,hS,hM,h,cl⟩:=h;exact up2 hS hM h fun x y U2 v u H2 q M2 s2 i1 i2=>⟨U2,x,y,Q0,M2,i1,i2,q,cl.same s2⟩
theorem yC {op:Operator}{r:R2d}(ho:OpR X (binaryOp op) (upR K r)) (ha:DE K X a ta) (hb:DE K X b tb):DE K X (.BinOp a op b pos) (dOp r ta tb):=PE.mono (qal ho ha hb) fun _ _ _=>qhA
theorem qbz {op:CmpOp}{r:R2d}(ho:OpR X (compareOp op) (upR K r)) (ha:DE K X a ta) (hb:DE K X b tb) (hm:behindInMarks op b=false):DE K X (.Compare a [op] [b] pos) (dOp r ta tb):=PE.mono (qii ho ha hb hm) fun _ _ _=>qhA
def qja (t:TEd):TTd:=fun ρ U Q=>t ρ U fun e U1=>match e with
 | .d (.bool k)=>Q k U1
 | _=>False
theorem qhy {t:TEd}{σ:St}{H:Hp}{Q:Bool->Hp->Prop}(h:upT K (qja t) σ H Q):up K t σ H fun x H1=>∃ k,x = .bl k/\Q k H1:=by
 obtain ⟨ρ,U,Q0,hS,hM,h,cl⟩:=h;refine ⟨ρ,U,_,hS,hM,h,fun e U1 v H1 q M1 s1 i1=>?_⟩;split at q
 .cases i1
  exact ⟨_,rfl,cl _ U1 H1 q M1 s1⟩
 .exact q.elim
theorem yE {op:CmpOp}{r:R2d}(ho:OpR X (compareOp op) (upR K r)) (ha:DE K X a ta) (hb:DE K X b tb) (hm:behindInMarks op b=false):DT K X (.Compare a [op] [b] pos) (qja (dOp r ta tb)):=by
 refine PT.mono (qdK ho ha hb hm) fun σ H Q h=>?_;obtain ⟨ρ,U,Q0,hS,hM,h,cl⟩:=h;refine up2 hS hM h fun x y U2 v u H2 q M2 s2 i1 i2=>⟨U2,x,y,_,M2,i1,i2,q,fun e U3 w H3 q3 M3 s3 i3=>?_⟩;split at q3
 .cases i3
  exact ⟨_,rfl,cl _ U3 H3 q3 M3 (s2.trans s3)⟩
 .exact q3.elim
theorem Zh {t:TEd}(h:DE K X a t) (he:∀ whole,isTrue a X.env whole=(do let v <- whole;standAt a.pos;holding [v] (truthy v)):=by intro _;rfl):DT K X a (qja t):=PT.mono (qkf h he) fun _ _ _=>qhy
theorem d_un {op:UnaryOp}{r:R1d}(ho:UnR X (unaryOp op) (upU K r)) (ha:DE K X a ta):DE K X (.UnaryOp op a pos) (dUn r ta):=by
 refine PE.mono (qkm ho ha) fun σ H Q hq9=>?_;obtain ⟨ρ,U,Q0,hS,hM,h,cl⟩:=hq9;exact ⟨ρ,U,_,hS,hM,h,fun e U1 v H1 q M1 s1 i1=>⟨U1,e,Q0,M1,i1,q,cl.same s1⟩⟩
def rdI (C:Int->Int->Prop) (g:Int->Int->PyData):R2d:=fun x y U Q=>match x,y with
 | .d (.int i),.d (.int j)=>C i j/\Q (.d (g i j)) U
 | _,_=>False
def qcC (g:Int->Int->PyData):R2d:=fun x y U Q=>match x,y with
 | .d (.int i),.d (.int j)=>Q (.d (g i j)) U
 | _,_=>False
def rdU (g:Int->PyData):R1d:=fun x U Q=>match x with
 | .d (.int i)=>Q (.d (g i)) U
 | _=>False
theorem qc1 {C:Int->Int->Prop}{g:Int->Int->Int}{x y:V}{H:Hp}{Q:VK}(h:upR K (rdI C fun i j=>.int (g i j)) x y H Q):rI C (fun i j=>.int (g i j)) x y H Q:=by
 obtain ⟨U,e,e',Q0,M,i1,i2,q,cl⟩:=h;unfold rdI at q;split at q
 .cases i1;cases i2
  exact ⟨_,_,rfl,rfl,q.1,cl _ U _ H q.2 M (yd.refl _) (.int _)⟩
 .exact q.elim
theorem qgv {g:Int->Int->Int}{x y:V}{H:Hp}{Q:VK}(h:upR K (qcC fun i j=>.int (g i j)) x y H Q):rI0 (fun i j=>.int (g i j)) x y H Q:=by
 obtain ⟨U,e,e',Q0,M,i1,i2,q,cl⟩:=h;unfold qcC at q;split at q
 .cases i1;cases i2
  exact ⟨_,_,rfl,rfl,cl _ U _ H q M (yd.refl _) (.int _)⟩
 .exact q.elim
theorem qc2 {g:Int->Int->Bool}{x y:V}{H:Hp}{Q:VK}(h:upR K (qcC fun i j=>.bool (g i j)) x y H Q):rI0 (fun i j=>.bl (g i j)) x y H Q:=by
 obtain ⟨U,e,e',Q0,M,i1,i2,q,cl⟩:=h;unfold qcC at q;split at q
 .cases i1;cases i2
  exact ⟨_,_,rfl,rfl,cl _ U _ H q M (yd.refl _) (.bl _)⟩
 .exact q.elim
theorem yJ:OpR X (binaryOp .Add) (upR K (qcC fun i j=>.int (i+j))):=qd0.mono fun _ _ _ _=>qgv
theorem jC:OpR X (binaryOp .Sub) (upR K (qcC fun i j=>.int (i - j))):=qks.mono fun _ _ _ _=>qgv
theorem yL:OpR X (binaryOp .Mult) (upR K (rdI qbH fun i j=>.int (i * j))):=qbi.mono fun _ _ _ _=>qc1
theorem YJ:OpR X (binaryOp .FloorDiv) (upR K (rdI qff fun i j=>.int (i.fdiv j))):=qfR.mono fun _ _ _ _=>qc1
theorem Yn:OpR X (binaryOp .FloorDiv) (upR K (rdI CDiv fun i j=>.int (i / j))):=qdZ.mono fun _ _ _ _=>qc1
theorem qce:OpR X (binaryOp .Mod) (upR K (rdI (fun _ j=>0<j) fun i j=>.int (i % j))):=qbZ.mono fun _ _ _ _=>qc1
theorem qaK:OpR X (binaryOp .Pow) (upR K (rdI CPow fun i j=>.int (i ^ j.toNat))):=qkt.mono fun _ _ _ _=>qc1
theorem qeJ:OpR X (compareOp .Lt) (upR K (qcC fun i j=>.bool (decide (i<j)))):=op_lt.mono fun _ _ _ _=>qc2
theorem do_le:OpR X (compareOp .LtE) (upR K (qcC fun i j=>.bool (decide (i<=j)))):=op_le.mono fun _ _ _ _=>qc2
theorem do_gt:OpR X (compareOp .Gt) (upR K (qcC fun i j=>.bool (decide (j<i)))):=qkw.mono fun _ _ _ _=>qc2
theorem qeI:UnR X (unaryOp .USub) (upU K (rdU fun i=>.int (-i))):=qgw.mono fun x H Q h=>by
 obtain ⟨U,e,Q0,M,i1,q,cl⟩:=h;unfold rdU at q;split at q
 .cases i1
  exact ⟨_,rfl,cl _ U _ H q M (yd.refl _) (.int _)⟩
 .exact q.elim
inductive LstOf (U:Mu):En->List PyData->Prop
 | d (ds:List PyData):LstOf U (.d (.list ds)) ds
 | m {a:Addr}{ds:List PyData}(h:(a,.lst ds)∈U):LstOf U (.m a) ds
theorem LstOf.get {U:Mu}{e:En}{ds:List PyData}{H:Hp}{v:V}(h:LstOf U e ds) (M:RelM K U H) (i:IsE K U H v e):∃ p xs,v = .ref p/\SqL K H p xs/\IsAll K (mask U H) xs ds:=by
 cases h with
 | d ds =>
  cases i with
  | lst h hs=>exact ⟨_,_,rfl,yd.seq yt h,hs⟩
 | m h =>
  obtain ⟨xs,e,hs⟩:=M.ob _ _ h;exact ⟨_,xs,i,SqL.of e,hs⟩
inductive DatOf (U:Mu):En->PyData->Prop
 | d (x:PyData):DatOf U (.d x) x
 | m {a:Addr}{ds:List PyData}(h:(a,.lst ds)∈U):DatOf U (.m a) (.list ds)
theorem DatOf.is {U:Mu}{e:En}{x:PyData}{H:Hp}{v:V}(h:DatOf U e x) (M:RelM K U H) (i:IsE K U H v e):Is K H v x:=by
 cases h with
 | d x=>exact Is.same yt i
 | m h =>
  obtain ⟨xs,e,hs⟩:=M.ob _ _ h;have i:v=_:=i;subst i;exact .lst (SqL.of e) (IsAll.same yt hs)
def qlE (neg:Bool):R2d:=fun x y U Q=>match x,y with
 | .d (.int i),.d (.int j)=>Q (.d (.bool (if neg then !decide (i=j) else decide (i=j)))) U
 | _,_=>∃ d d',DatOf U x d/\DatOf U y d'/\SeqAt.shaped d=true/\SeqAt.shaped d'=true/\Q (.d (.bool (if neg then !PyData.eqv d d' else PyData.eqv d d'))) U
theorem qiU (i j:Int):PyData.eqv (.int i) (.int j)=decide (i=j):=by by_cases h:i=j <;> simp [PyData.eqv,h]
theorem qbV {neg:Bool}{x y:En}{U:Mu}{Q:En->Mu->Prop}(h:qlE neg x y U Q):∃ d d',DatOf U x d/\DatOf U y d'/\SeqAt.shaped d=true/\SeqAt.shaped d'=true/\Q (.d (.bool (if neg then !PyData.eqv d d' else PyData.eqv d d'))) U:=by
 unfold qlE at h;split at h
 .exact ⟨_,_,.d _,.d _,rfl,rfl,by rw [qiU];exact h⟩
 .exact h
theorem Jd (hu:X.A.units+64<cLine) (hK:X.K=K:=by rfl):OpR X (compareOp .Eq) (upR K (qlE false)):=by
 subst hK;refine (qkx hu).mono fun x y H Q h=>?_;obtain ⟨U,e,e',Q0,M,i1,i2,q,cl⟩:=h;obtain ⟨d,d',h1,h2,h3,h4,q⟩:=qbV q;exact ⟨d,d',h1.is M i1,h2.is M i2,h3,h4,cl _ U _ H q M (yd.refl _) (.bl _)⟩
theorem qaL (hu:X.A.units+64<cLine) (hK:X.K=K:=by rfl):OpR X (compareOp .NotEq) (upR K (qlE true)):=by
 subst hK;refine (qgX hu).mono fun x y H Q h=>?_;obtain ⟨U,e,e',Q0,M,i1,i2,q,cl⟩:=h;obtain ⟨d,d',h1,h2,h3,h4,q⟩:=qbV q;exact ⟨d,d',h1.is M i1,h2.is M i2,h3,h4,cl _ U _ H q M (yd.refl _) (.bl _)⟩
def dAnd (t u:TTd):TTd:=fun ρ U Q=>t ρ U fun k U1=>if k=true then u ρ U1 Q else Q false U1
def dOr (t u:TTd):TTd:=fun ρ U Q=>t ρ U fun k U1=>if k=true then Q true U1 else u ρ U1 Q
def dNot (t:TTd):TTd:=fun ρ U Q=>t ρ U fun k U1=>Q (!k) U1
variable {tA tB:TTd}{rest:List Expr}
theorem qbu (ha:DT K X a tA):DW K X (.BoolOp .And [a] pos) tA:=qh5 ha
theorem Zg (ha:DT K X a tA):DW K X (.BoolOp .Or [a] pos) tA:=qkc ha
theorem qeH (ha:DT K X a tA) (hb:DW K X (.BoolOp .And (b::rest) pos) tB):DW K X (.BoolOp .And (a::b::rest) pos) (dAnd tA tB):=by
 refine PW.mono (qkd ha hb) fun σ H Q hq9=>?_;obtain ⟨ρ,U,Q0,hS,hM,h,cl⟩:=hq9;refine ⟨ρ,U,_,hS,hM,h,fun k U1 H1 q M1 s1=>?_⟩;cases k with
 | true=>exact ⟨ρ,U1,Q0,hS.same s1,M1,by simpa using q,cl.same s1⟩
 | false=>exact cl _ U1 H1 (by simpa using q) M1 s1
theorem qaE (ha:DT K X a tA) (hb:DW K X (.BoolOp .Or (b::rest) pos) tB):DW K X (.BoolOp .Or (a::b::rest) pos) (dOr tA tB):=by
 refine PW.mono (pw_or ha hb) fun σ H Q hq9=>?_;obtain ⟨ρ,U,Q0,hS,hM,h,cl⟩:=hq9;refine ⟨ρ,U,_,hS,hM,h,fun k U1 H1 q M1 s1=>?_⟩;cases k with
 | false=>exact ⟨ρ,U1,Q0,hS.same s1,M1,by simpa using q,cl.same s1⟩
 | true=>exact cl _ U1 H1 (by simpa using q) M1 s1
theorem qgd (h:DW K X a tA):DT K X a tA:=PW.pt h
theorem Zi (ha:DT K X a tA):DT K X (.UnaryOp .Not a pos) (dNot tA):=PT.mono (qkg ha) fun σ H Q ⟨ρ,U,Q0,hS,hM,h,cl⟩=>⟨ρ,U,_,hS,hM,h,fun k U1 H1 q M1 s1=>cl _ U1 H1 q M1 s1⟩
def dAndV (ta tb:TEd):TEd:=fun ρ U Q=>ta ρ U fun x U1=>match x with
 | .d (.bool k)=>if k=true then tb ρ U1 Q else Q (.d (.bool false)) U1
 | _=>False
theorem qlb {op} {t:TEd}(h:DE K X a t):DE K X (.BoolOp op [a] pos) t:=qkq h
theorem qle (ha:DE K X a ta) (hb:DE K X (.BoolOp .And (b::rest) pos) tb):DE K X (.BoolOp .And (a::b::rest) pos) (dAndV ta tb):=by
 refine PE.mono (qkr ha hb) fun σ H Q hq9=>?_;obtain ⟨ρ,U,Q0,hS,hM,h,cl⟩:=hq9;refine ⟨ρ,U,_,hS,hM,h,fun e U1 v H1 q M1 s1 i1=>?_⟩;split at q
 .rename_i k
  cases i1
  refine ⟨k,rfl,?_⟩;cases k with
  | true=>exact qa4 ⟨ρ,U1,Q0,hS.same s1,M1,by simpa using q,cl.same s1⟩
  | false=>exact Z3 (cl (.d (.bool false)) U1 _ H1 (by simpa using q) M1 s1 (Is.bl _))
 .exact q.elim
variable {es:List Expr}{tr:TAd}
def qlG:TAd:=fun _ U Q=>Q [] U
def qcL (ta:TEd) (tr:TAd):TAd:=fun ρ U Q=>ta ρ U fun x U1=>tr ρ U1 fun xs U2=>Q (x::xs) U2
theorem qm:DA K X [] qlG:=PA.mono qgW fun σ H Q ⟨ρ,U,Q0,hS,hM,h,cl⟩=>cl _ U _ H h hM (yd.refl _) .nil
theorem qd (ha:DE K X a ta) (hr:DA K X es tr) (hs:starEach (a::es) X.env=(false,eval a X.env)::starEach es X.env:=by rfl):DA K X (a::es) (qcL ta tr):=by
 refine PA.mono (qbh ha hr hs) fun σ H Q hq9=>?_;obtain ⟨ρ,U,Q0,hS,hM,h,cl⟩:=hq9;refine ⟨ρ,U,_,hS,hM,h,fun e U1 v H1 q M1 s1 i1=>⟨ρ,U1,_,hS.same s1,M1,q,fun es' U2 vs H2 q2 M2 s2 i2=>?_⟩⟩;exact cl _ U2 _ H2 q2 M2 (s1.trans s2) (.cons (i1.same s2) i2)
def qjn:List En->Option (List PyData)
 | []=>some []
 | .d x::r=>(qjn r).map (x::·)
 | _::_=>none
theorem Z0 {U:Mu}{H:Hp}:∀ {es:List En}{ds:List PyData}{vs:List V},qjn es=some ds->Paired (IsE K U H) vs es->IsAll K (mask U H) vs ds
 | [],_,_,e,.nil=>by cases e;exact .nil
 | .d x::r,_,_,e,.cons h t=>by
  simp only [qjn] at e;cases q:qjn r with
  | none=>rw [q] at e;cases e
  | some ds'=>rw [q] at e;cases e;exact .cons h (Z0 q t)
 | .m a::r,_,_,e,_=>by cases e
 | .x a::r,_,_,e,_=>by cases e
 | .ty a::r,_,_,e,_=>by cases e
def dTup (tr:TAd):TEd:=fun ρ U Q=>tr ρ U fun es U1=>match qjn es with
 | some ds=>ds.length<=4000/\Q (.d (.tuple ds)) U1
 | none=>False
def dLst (tr:TAd):TEd:=fun ρ U Q=>tr ρ U fun es U1=>match qjn es with
 | some ds=>ds.length<=4000/\Q (.d (.list ds)) U1
 | none=>False
theorem jT {x1} (h:DA K X es tr):DE K X (.Tuple es x1 pos) (dTup tr):=by
 refine PE.mono (qkn h) fun σ H Q hq9=>?_;obtain ⟨ρ,U,Q0,hS,hM,h,cl⟩:=hq9;refine ⟨ρ,U,_,hS,hM,h,fun es' U1 vs H1 q M1 s1 i1=>?_⟩;split at q
 .rename_i ds e
  have hA:=Z0 e i1;refine ⟨qP (yI (by rw [hA.len];exact q.1)),fun p hp=>?_⟩;obtain ⟨M2,s2,hn⟩:=M1.laid (o:=.tup vs) hp;exact cl _ U1 _ _ q.2 M2 (s1.trans s2) (.tup (SqT.of (by rw [qX hn];exact qE)) (IsAll.same s2 hA))
 .exact q.elim
theorem qaN (h:DA K X es tr):DE K X (.List es pos) (dLst tr):=by
 refine PE.mono (qgT h) fun σ H Q hq9=>?_;obtain ⟨ρ,U,Q0,hS,hM,h,cl⟩:=hq9;refine ⟨ρ,U,_,hS,hM,h,fun es' U1 vs H1 q M1 s1 i1=>?_⟩;split at q
 .rename_i ds e
  have hA:=Z0 e i1;refine ⟨qP (yI (by rw [hA.len];exact q.1)),fun p hp=>?_⟩;obtain ⟨M2,s2,hn⟩:=M1.laid (o:=.lst vs) hp;exact cl _ U1 _ _ q.2 M2 (s1.trans s2) (.lst (SqL.of (by rw [qX hn];exact qE)) (IsAll.same s2 hA))
 .exact q.elim
def qlj (tr:TAd):TEd:=fun ρ U Q=>tr ρ U fun es U1=>match qjn es with
 | some ds=>ds.length<=4000/\∀ p,p∉U1.map Prod.fst->Q (.m p) ((p,.lst ds)::U1)
 | none=>False
theorem JH (h:DA K X es tr):DE K X (.List es pos) (qlj tr):=by
 refine PE.mono (qgT h) fun σ H Q hq9=>?_;obtain ⟨ρ,U,Q0,hS,hM,h,cl⟩:=hq9;refine ⟨ρ,U,_,hS,hM,h,fun es' U1 vs H1 q M1 s1 i1=>?_⟩;split at q
 .rename_i ds e
  have hA:=Z0 e i1;refine ⟨qP (yI (by rw [hA.len];exact q.1)),fun p hp=>?_⟩;obtain ⟨_,_,hn⟩:=M1.laid (o:=.lst vs) hp;obtain ⟨M2,s2⟩:=M1.new (u:=.lst vs) (o:=.lst ds) hp fun ss=>⟨vs,qE,IsAll.same ss hA⟩;exact cl _ _ _ _ (q.2 p hn) M2 (s1.trans s2) rfl
 .exact q.elim
end
theorem IsAll.atI {K:W.Frag}{H:Hp}{vs:List V}{ds:List PyData}{i:Int}{z:PyData}(h:IsAll K H vs ds) (e:L2.atI ds i=some z):∃ v,L2.atI vs i=some v/\Is K H v z:=by
 unfold L2.atI at *;rw [h.len];cases q:ixN ds.length i with
 | none=>rw [q] at e;cases e
 | some j =>
  rw [q] at e;obtain ⟨v,e1,e2⟩:=h.get' (i:=j) e;exact ⟨v,e1,e2⟩
section
variable {X:Cx}{K:W.Frag}{a b c:Expr}{ta tb tc:TEd}{tA tB:TTd}{pos:Pos}{es:List Expr}{tr:TAd}
def qj0:R2d:=fun x y U Q=>match y with
 | .d (.int i)=>∃ ds z,LstOf U x ds/\atI ds i=some z/\Q (.d z) U
 | _=>False
def qjZ:R2d:=fun x y U Q=>match x,y with
 | .d (.tuple ds),.d (.int i)=>∃ z,atI ds i=some z/\Q (.d z) U
 | _,_=>False
theorem qiV (hK:X.K=K:=by rfl):IxR X (upR K qj0):=by
 subst hK;refine JV.mono fun x y H Q h=>?_;obtain ⟨U,e,e',Q0,M,i1,i2,q,cl⟩:=h;unfold qj0 at q;split at q
 .obtain ⟨ds,z,h1,h2,q⟩:=q;cases i2
  obtain ⟨p,xs,rfl,h3,h4⟩:=h1.get M i1;obtain ⟨v,e1,e2⟩:=h4.atI h2;exact ⟨p,xs,_,v,rfl,rfl,h3,e1,cl _ U v H q M (yd.refl _) e2⟩
 .exact q.elim
theorem qkY (hK:X.K=K:=by rfl):IxR X (upR K qjZ):=by
 subst hK;refine qkN.mono fun x y H Q h=>?_;obtain ⟨U,e,e',Q0,M,i1,i2,q,cl⟩:=h;unfold qjZ at q;split at q
 .obtain ⟨z,h2,q⟩:=q;cases i2
  have i1':=Is.same yt (show Is X.K (mask U H) x _ from i1);cases i1 with
  | tup h3 h4 =>
   obtain ⟨v,e1,e2⟩:=h4.atI h2;cases i1' with
   | tup h5 h6 =>
    refine ⟨_,_,_,v,rfl,rfl,?_,e1,cl _ U v H q M (yd.refl _) e2⟩;rcases h3 with (e | ⟨o,e⟩) | e
    .exact .inl (.inl (yt _ _ e))
    .exact .inl (.inr ⟨o,yt _ _ e⟩)
    .exact .inr e
 .exact q.elim
theorem Jz {r:R2d}(hr:IxR X (upR K r)) (ha:DE K X a ta) (hb:DE K X b tb) (hs:qfd b):DE K X (.Subscript a b pos) (dOp r ta tb):=PE.mono (qcD hr ha hb hs) fun _ _ _=>qhA
def Y0 (xs:List PyData) (lo hi:Option Int):List PyData:=(xs.drop (HT.sIx xs.length 0 lo)).take (HT.sIx xs.length xs.length hi - HT.sIx xs.length 0 lo)
theorem IsAll.cut {H:Hp}{vs:List V}{ds:List PyData}{lo hi:Option Int}(h:IsAll K H vs ds):IsAll K H (qjg vs lo hi) (Y0 ds lo hi):=by
 unfold qjg Y0;rw [h.len];exact (h.drop _).take _
abbrev TOd:=Rho->Mu->(Option Int->Mu->Prop)->Prop
def upO (K:W.Frag) (t:TOd):TO:=fun σ H Q=>∃ ρ U Q0,RelS K ρ U σ H/\RelM K U H/\t ρ U Q0/\∀ o U' H',Q0 o U'->RelM K U' H'->yd (mask U H) (mask U' H')->Q o H'
def DO (K:W.Frag) (X:Cx) (e:Option Expr) (t:TOd):Prop:=PO X e (upO K t)
theorem PO.mono {e:Option Expr}{t t':TO}(h:PO X e t) (f:∀ σ H Q,t' σ H Q->t σ H Q):PO X e t':=fun pins s σ H Q I q=>h pins s σ H Q I (f _ _ _ q)
def qjc:TOd:=fun _ U Q=>Q none U
def dPart (t:TEd):TOd:=fun ρ U Q=>t ρ U fun x U1=>match x with
 | .d (.int i)=>Q (some i) U1
 | _=>False
theorem JX:DO K X none qjc:=PO.mono qia fun σ H Q ⟨ρ,U,Q0,hS,hM,h,cl⟩=>cl none U H h hM (yd.refl _)
theorem jP (h:DE K X a ta):DO K X (some a) (dPart ta):=PO.mono (qh9 h) fun σ H Q ⟨ρ,U,Q0,hS,hM,h,cl⟩=>⟨ρ,U,_,hS,hM,h,fun e U1 v H1 q M1 s1 i1=>by
 split at q
 .cases i1;exact ⟨_,rfl,cl _ U1 H1 q M1 s1⟩
 .exact q.elim⟩
def dSl (r:En->Option Int->Option Int->Mu->(En->Mu->Prop)->Prop) (te:TEd) (tl th:TOd):TEd:=fun ρ U Q=>te ρ U fun x U1=>tl ρ U1 fun l U2=>th ρ U2 fun u U3=>r x l u U3 Q
def rdSlL:En->Option Int->Option Int->Mu->(En->Mu->Prop)->Prop:=fun x l u U Q=>∃ ds,LstOf U x ds/\Q (.d (.list (Y0 ds l u))) U
theorem Jh {lo hi:Option Expr}{p2:Pos}{tl th:TOd}(ha:DE K X a ta) (hl:DO K X lo tl) (hu:DO K X hi th) (hK:X.K=K:=by rfl):DE K X (.Subscript a (.Slice lo hi none p2) pos) (dSl rdSlL ta tl th):=by
 subst hK;refine PE.mono (qfN qhK ha hl hu) fun σ H Q hq9=>?_;obtain ⟨ρ,U,Q0,hS,hM,h,cl⟩:=hq9;refine ⟨ρ,U,_,hS,hM,h,fun e U1 v H1 q1 M1 s1 i1=>⟨ρ,U1,_,hS.same s1,M1,q1,fun l U2 H2 q2 M2 s2=>⟨ρ,U2,_,hS.same (s1.trans s2),M2,q2,fun u U3 H3 q3 M3 s3=>?_⟩⟩⟩;obtain ⟨ds,h1,q⟩:=q3;have i3:=i1.same (s2.trans s3);obtain ⟨p,xs,rfl,h3,h4⟩:=h1.get M3 i3;refine ⟨p,xs,rfl,h3,fun l hl=>?_⟩;obtain ⟨M4,s4,hn⟩:=M3.laid (o:=.lst (qjg xs _ _)) hl;exact cl _ _ _ _ q M4 ((s1.trans s2).trans (s3.trans s4)) (.lst (SqL.of (by rw [qX hn];exact qE)) (IsAll.same s4 h4.cut))
def dCB (r:RAd) (tr:TAd):TEd:=fun ρ U Q=>tr ρ U fun es U1=>r es U1 Q
theorem qjC {r:RAd}{σ:St}{H:Hp}{Q:VK}(h:up K (dCB r tr) σ H Q):tCB (upC K r) (upA K tr) σ H Q:=by
 obtain ⟨ρ,U,Q0,hS,hM,h,cl⟩:=h;exact ⟨ρ,U,_,hS,hM,h,fun es U1 vs H1 q M1 s1 i1=>⟨U1,es,Q0,M1,i1,q,cl.same s1⟩⟩
theorem qW {id:String}{x:Str}{r:RAd}{e:Expr}{p:Pos}(hc:yG X (.builtin id) (upC K r)) (hg:Gl X x) (hm:X.mg x=none) (hv:bootBuiltins x=some (.builtin id)) (ha:DA K X (e::es) tr) (hn:x ≠ "__name__" := by decide) (hdb:(x == ("__debug__" : Str))=false:=by decide)
  (he:starEach (e::es) X.env=(false,eval e X.env)::starEach es X.env:=by rfl) (hpl:(backTo pos (starEach es X.env)).any (·.1)=false:=by rfl):DE K X (.Call (.Name x p) (e::es) [] pos) (dCB r tr):=PE.mono (qbY hc hg hm hv ha hn hdb he hpl) fun _ _ _=>qjC
theorem jM {T:String}{x:Str}{r:RAd}{e:Expr}{p:Pos}(hc:yG X (.type T) (upC K r)) (hg:Gl X x) (hm:X.mg x=none) (hv:bootBuiltins x=some (.type T)) (ha:DA K X (e::es) tr) (hn:x ≠ "__name__" := by decide) (hdb:(x == ("__debug__" : Str))=false:=by decide)
  (he:starEach (e::es) X.env=(false,eval e X.env)::starEach es X.env:=by rfl) (hpl:(backTo pos (starEach es X.env)).any (·.1)=false:=by rfl):DE K X (.Call (.Name x p) (e::es) [] pos) (dCB r tr):=PE.mono (qdY hc hg hm hv ha hn hdb he hpl) fun _ _ _=>qjC
theorem j5 {U:Mu}{H:Hp}{vs:List V}{e:En}(h:Paired (IsE K U H) vs [e]):∃ v,vs=[v]/\IsE K U H v e:=by cases h with | cons a b=>cases b;exact ⟨_,rfl,a⟩
theorem ZE {U:Mu}{H:Hp}{vs:List V}{e e':En}(h:Paired (IsE K U H) vs [e,e']):∃ v v',vs=[v,v']/\IsE K U H v e/\IsE K U H v' e':=by cases h with | cons a b=>cases b with | cons c d=>cases d;exact ⟨_,_,rfl,a,c⟩
theorem pair3 {U:Mu}{H:Hp}{vs:List V}{e e' e'':En}(h:Paired (IsE K U H) vs [e,e',e'']):∃ v v' v'',vs=[v,v',v'']/\IsE K U H v e/\IsE K U H v' e'/\IsE K U H v'' e'':=by cases h with | cons a b=>cases b with | cons c d=>cases d with | cons f g=>cases g;exact ⟨_,_,_,rfl,a,c,f⟩
def qh3:RAd:=fun es U Q=>match es with
 | [.d (.int i)]=>Q (.d (.int (i.natAbs:Int))) U
 | _=>False
theorem Zk:yG X (.builtin "abs") (upC K qh3):=qgr.mono fun xs H Q h=>by
 obtain ⟨U,es,Q0,M,hp,q,cl⟩:=h;unfold qh3 at q;split at q
 .rename_i i
  obtain ⟨v,rfl,i1⟩:=j5 hp;cases i1
  have e:(if i<0 then -i else i)=(i.natAbs:Int):=by split <;> omega
  exact ⟨_,rfl,by rw [e];exact cl _ U _ H q M (yd.refl _) (.int _)⟩
 .exact q.elim
def qj6 (g:Int->Int->Int):RAd:=fun es U Q=>match es with
 | [.d (.int i),.d (.int j)]=>Q (.d (.int (g i j))) U
 | _=>False
theorem Zj (hc:X.calm=true):yG X (.builtin "max") (upC K (qj6 fun i j=>if i<j then j else i)):=(qe2 hc).mono fun xs H Q h=>by
 obtain ⟨U,es,Q0,M,hp,q,cl⟩:=h;unfold qj6 at q;split at q
 .obtain ⟨v,v',rfl,i1,i2⟩:=ZE hp;cases i1;cases i2
  exact ⟨_,_,rfl,cl _ U _ H q M (yd.refl _) (.int _)⟩
 .exact q.elim
theorem qk6 (hc:X.calm=true):yG X (.builtin "min") (upC K (qj6 fun i j=>if j<i then j else i)):=(qe0 hc).mono fun xs H Q h=>by
 obtain ⟨U,es,Q0,M,hp,q,cl⟩:=h;unfold qj6 at q;split at q
 .obtain ⟨v,v',rfl,i1,i2⟩:=ZE hp;cases i1;cases i2
  exact ⟨_,_,rfl,cl _ U _ H q M (yd.refl _) (.int _)⟩
 .exact q.elim
def qj3:RAd:=fun es U Q=>match es with
 | [.d (.int i)]=>Q (.d (.int i)) U
 | [.d (.bool k)]=>Q (.d (.int (if k=true then 1 else 0))) U
 | _=>False
theorem qk8:yG X (.type "int") (upC K qj3):=qe3.mono fun xs H Q h=>by
 obtain ⟨U,es,Q0,M,hp,q,cl⟩:=h;unfold qj3 at q;split at q
 .obtain ⟨v,rfl,i1⟩:=j5 hp;cases i1
  exact .inl ⟨_,rfl,cl _ U _ H q M (yd.refl _) (.int _)⟩
 .obtain ⟨v,rfl,i1⟩:=j5 hp;cases i1
  exact .inr ⟨_,rfl,cl _ U _ H q M (yd.refl _) (.int _)⟩
 .exact q.elim
inductive SeqOf (U:Mu):En->List PyData->Prop
 | l {e:En}{ds:List PyData}(h:LstOf U e ds):SeqOf U e ds
 | t (ds:List PyData):SeqOf U (.d (.tuple ds)) ds
theorem SeqOf.get {U:Mu}{e:En}{ds:List PyData}{H:Hp}{v:V}(h:SeqOf U e ds) (M:RelM K U H) (i:IsE K U H v e):∃ p xs,v = .ref p/\(SqL K H p xs\/SqT K H p xs)/\IsAll K (mask U H) xs ds:=by
 cases h with
 | l h=>obtain ⟨p,xs,h1,h2,h3⟩:=h.get M i;exact ⟨p,xs,h1,.inl h2,h3⟩
 | t ds =>
  cases i with
  | tup h hs =>
   refine ⟨_,_,rfl,.inr ?_,hs⟩;rcases h with (e | ⟨o,e⟩) | e
   .exact .inl (.inl (yt _ _ e))
   .exact .inl (.inr ⟨o,yt _ _ e⟩)
   .exact .inr e
def qjY:RAd:=fun es U Q=>match es with
 | [e]=>∃ ds,SeqOf U e ds/\Q (.d (.int (ds.length:Int))) U
 | _=>False
theorem Jg (hK:X.K=K:=by rfl):yG X (.builtin "len") (upC K qjY):=by
 subst hK;refine qaW.mono fun xs H Q h=>?_;obtain ⟨U,es,Q0,M,hp,q,cl⟩:=h;unfold qjY at q;split at q
 .obtain ⟨v,rfl,i1⟩:=j5 hp;obtain ⟨ds,h1,q⟩:=q;obtain ⟨p,ys,rfl,h2,h3⟩:=h1.get M i1;exact ⟨p,ys,rfl,h2,by rw [h3.len];exact cl _ U _ H q M (yd.refl _) (.int _)⟩
 .exact q.elim
def qgP:RAd:=fun es U Q=>match es with
 | [e]=>∃ ds,SeqOf U e ds/\Q (.d (.list ds)) U
 | _=>False
theorem qeO (hK:X.K=K:=by rfl):yG X (.type "list") (upC K qgP):=by
 subst hK;refine qaV.mono fun xs H Q h=>?_;obtain ⟨U,es,Q0,M,hp,q,cl⟩:=h;unfold qgP at q;split at q
 .obtain ⟨v,rfl,i1⟩:=j5 hp;obtain ⟨ds,h1,q⟩:=q;obtain ⟨p,ys,rfl,h2,h3⟩:=h1.get M i1;refine ⟨p,ys,rfl,h2,fun l hl=>?_⟩;obtain ⟨M4,s4,hn⟩:=M.laid (o:=.lst ys) hl;exact cl _ U _ _ q M4 s4 (.lst (SqL.of (by rw [qX hn];exact qE)) (IsAll.same s4 h3))
 .exact q.elim
def qj5 (f:List Bool->Bool):RAd:=fun es U Q=>match es with
 | [e]=>∃ bs,LstOf U e (bs.map PyData.bool)/\Q (.d (.bool (f bs))) U
 | _=>False
theorem qk9 (hc:X.calm=true) (hK:X.K=K:=by rfl):yG X (.builtin "all") (upC K (qj5 fun bs=>bs.all id)):=by
 subst hK;refine (qgq hc).mono fun xs H Q h=>?_;obtain ⟨U,es,Q0,M,hp,q,cl⟩:=h;unfold qj5 at q;split at q
 .obtain ⟨v,rfl,i1⟩:=j5 hp;obtain ⟨bs,h1,q⟩:=q;obtain ⟨p,ys,rfl,h2,h3⟩:=h1.get M i1;rw [h3.bools_of] at h2;exact ⟨p,bs,rfl,h2,cl _ U _ H q M (yd.refl _) (.bl _)⟩
 .exact q.elim
def isTy (n:String):PyData->Bool
 | .none=>false
 | .bool _=>n == "bool" || n == "int"
 | .int _=>n == "int"
 | .str _=>n == "str"
 | .list _=>n == "list"
 | .tuple _=>n == "tuple"
 | .dict _=>false
abbrev SpD:=List En->Mu->(En->Mu->Prop)->Prop
def yp (K:W.Frag) (s:SpD):Sp:=fun vs H Q _=>∃ U es Q0,RelM K U H/\Paired (IsE K U H) vs es/\s es U Q0/\Cl K U H Q0 Q
theorem qY {CX:CXT}{k:Nat}{x:Str}{ps:List Str}{s:SpD}{e:Expr}{p:Pos}(O:Own X.prog X.w X.K X.mg X.base CX k x ps (yp K s)) (hX:NoX CX) (hr:Room k X.A) (hg:Gl X x) (ha:DA K X (e::es) tr) (hdb:(x == ("__debug__" : Str))=false:=by decide)
  (he:starEach (e::es) X.env=(false,eval e X.env)::starEach es X.env:=by rfl) (hpl:(backTo pos (starEach es X.env)).any (·.1)=false:=by rfl):DE K X (.Call (.Name x p) (e::es) [] pos) (dCB s tr):=by
 refine PE.mono (qkp O hX hr hg ha hdb he hpl) fun σ H Q hq9=>?_;obtain ⟨ρ,U,Q0,hS,hM,h,cl⟩:=hq9;exact ⟨ρ,U,_,hS,hM,h,fun es U1 vs H1 q M1 s1 i1=>⟨U1,es,Q0,M1,by simpa using i1,q,cl.same s1⟩⟩
inductive Thaw (a:Addr) (ds:List PyData):List En->List En->Prop
 | nil:Thaw a ds [] []
 | me {es es':List En}:Thaw a ds es es'->Thaw a ds (.m a::es) (.d (.list ds)::es')
 | ot {e:En}{es es':List En}:Thaw a ds es es'->Thaw a ds (e::es) (e::es')
end
section
variable {X:Cx}{K:W.Frag}{a b c:Expr}{ta tb tc:TEd}{tA tB:TTd}{pos:Pos}{es:List Expr}{tr:TAd}
def tys:List String:=["int", "bool", "str", "list", "tuple"]
theorem d_ty {x:Str}{n:String}{p:Pos}(hg:Gl X x) (hm:X.mg x=none) (hv:bootBuiltins x=some (.type n)) (hn:x ≠ "__name__" := by decide) (hd:(x == ("__debug__" : Str))=false:=by decide):DE K X (.Name x p) (fun _ U Q=>Q (.ty n) U) :=
 PE.mono (qik (v:=.ty n) hg hm hv rfl hn hd) fun σ H Q ⟨ρ,U,Q0,hS,hM,h,cl⟩=>cl _ U (.ty n) H h hM (yd.refl _) rfl
theorem qcj:yG X (.builtin "isinstance") (fun xs H Q=>∃ x n d,xs=[x,.ty n]/\Is X.K H x d/\n∈tys/\Q (.bl (isTy n d)) H):=by
 intro pins s σ H xs us Q I r h;obtain ⟨x,n,d,rfl,ty,hn,q⟩:=h;obtain ⟨u,u',rfl,rx,ry⟩:=qa8 r;cases ry
 have fin:∀ tk,EP X pins σ Q (.bool (isTy n d)) { s with toks:=tk }:=fun tk=>⟨.bl _,H,I.tok _,rfl,q⟩;have hn:n = "int" \/ n = "bool" \/ n = "str" \/ n = "list" \/ n = "tuple" := by simpa [tys] using hn
 cases ty with
 | non=>cases (show u=Value.none from rx);exact W.kia_one W.kitx_none I.kIn True.intro (by rcases hn with rfl | rfl | rfl | rfl | rfl <;> rfl) (fun z=>nomatch z) fin
 | bl y=>cases (show u=Value.bool y from rx);exact W.kia_one W.kitx_bool I.kIn True.intro (by rcases hn with rfl | rfl | rfl | rfl | rfl <;> rfl) (fun z=>nomatch z) fin
 | int i=>obtain ⟨t,z⟩:=(show ∃ t,u=Value.int i t from rx);cases z;exact W.kia_one W.kitx_int I.kIn True.intro (by rcases hn with rfl | rfl | rfl | rfl | rfl <;> rfl) (fun z=>nomatch z) fin
 | str y=>obtain ⟨t,z⟩:=(show ∃ t,u=Value.str y t from rx);cases z;exact W.kia_one W.kitx_str I.kIn True.intro (by rcases hn with rfl | rfl | rfl | rfl | rfl <;> rfl) (fun z=>nomatch z) fin
 | @lst a xs ds hq _ =>
  cases (show u=Value.ref a from rx)
  obtain ⟨its,_,⟨o,n',h1,h2,_⟩,_⟩:=I.list hq;exact W.kia_one W.kitx_list I.kIn ⟨o,h1,h2⟩ (by rcases hn with rfl | rfl | rfl | rfl | rfl <;> rfl) (fun z=>nomatch z) fin
 | @dc a hq =>
  cases (show u=Value.ref a from rx)
  obtain ⟨_,_,vs,_,o,es,ep,h1,h2,_⟩:=(show ja X.prog X.w H s.heap a (.dK []) from I.hok a _ hq);exact W.kia_one W.kitx_dict I.kIn ⟨o,h1,h2.1⟩ (by rcases hn with rfl | rfl | rfl | rfl | rfl <;> rfl) (fun z=>nomatch z) fin
 | @tup a xs ds hq _ =>
  cases (show u=Value.ref a from rx)
  obtain ⟨its,_,⟨o,h1,h2,_⟩,_⟩:=I.tuple hq;exact W.kia_one W.kitx_tuple I.kIn ⟨o,h1,h2⟩ (by rcases hn with rfl | rfl | rfl | rfl | rfl <;> rfl) (fun z=>nomatch z) fin
def qj2:RAd:=fun es U Q=>match es with
 | [.d x,.ty n]=>n∈tys/\Q (.d (.bool (isTy n x))) U
 | [.m a,.ty n]=>n∈tys/\∃ ds,(a,.lst ds)∈U/\Q (.d (.bool (n == "list"))) U
 | _=>False
theorem qk7 (hK:X.K=K:=by rfl):yG X (.builtin "isinstance") (upC K qj2):=by
 subst hK;refine qcj.mono fun xs H Q h=>?_;obtain ⟨U,es,Q0,M,hp,q,cl⟩:=h;unfold qj2 at q;split at q
 .obtain ⟨v,v',rfl,i1,i2⟩:=ZE hp;have i2:v'=_:=i2;subst i2;exact ⟨_,_,_,rfl,Is.same yt i1,q.1,cl _ U _ H q.2 M (yd.refl _) (.bl _)⟩
 .obtain ⟨v,v',rfl,i1,i2⟩:=ZE hp;have i2:v'=_:=i2;subst i2;obtain ⟨hn,ds,hm,q⟩:=q;have hi:=(DatOf.m hm).is M i1;exact ⟨_,_,_,rfl,hi,hn,cl _ U _ H q M (yd.refl _) (.bl _)⟩
 .exact q.elim
abbrev TGd:=En->Rho->Mu->(Rho->Mu->Prop)->Prop
abbrev qhl:=List PyData->Rho->Mu->(Rho->Mu->Prop)->Prop
def upG (K:W.Frag) (t:TGd):TG:=fun v σ H Q=>∃ e ρ U Q0,IsE K U H v e/\RelS K ρ U σ H/\RelM K U H/\t e ρ U Q0/\ClR K U H Q0 Q
def upGs (K:W.Frag) (t:qhl):TGs:=fun vs σ H Q=>∃ ds ρ U Q0,IsAll K (mask U H) vs ds/\RelS K ρ U σ H/\RelM K U H/\t ds ρ U Q0/\ClR K U H Q0 Q
def DG (K:W.Frag) (X:Cx) (tg:Expr) (t:TGd):Prop:=PG X tg (upG K t)
def DGs (K:W.Frag) (X:Cx) (tg:List Expr) (t:qhl):Prop:=PGs X tg (upGs K t)
theorem PG.mono {tg:Expr}{t t':TG}(h:PG X tg t) (f:∀ v σ H Q,t' v σ H Q->t v σ H Q):PG X tg t':=fun pins s σ H v u Q I r q=>h pins s σ H v u Q I r (f _ _ _ _ q)
theorem PGs.mono {tg:List Expr}{t t':TGs}(h:PGs X tg t) (f:∀ v σ H Q,t' v σ H Q->t v σ H Q):PGs X tg t':=fun pins s σ H v u Q I r q=>h pins s σ H v u Q I r (f _ _ _ _ q)
def y4 (i:Nat):TGd:=fun e ρ U Q=>Q (ρ.set i (some e)) U
theorem qK {i:Nat}{x:Str}(hN:X.N.Nodup) (hi:X.N[i]?=some x) (hx:Loc X.env.scope x) (hf:X.fn x=true\/X.env.scope.names.lookup x=some .local:=by first | exact .inl rfl | exact .inr rfl | assumption):DG K X (.Name x pos) (y4 i) :=
 PG.mono (qdW hN hi hx hf) fun v σ H Q ⟨e,ρ,U,Q0,i1,hS,hM,h,cl⟩=>cl _ U _ H h (hS.set i1) hM (yd.refl _)
def qaM:qhl:=fun ds ρ U Q=>match ds with
 | []=>Q ρ U
 | _=>False
def jq (t:TGd) (u:qhl):qhl:=fun ds ρ U Q=>match ds with
 | x::r=>t (.d x) ρ U fun ρ' U'=>u r ρ' U' Q
 | []=>False
theorem y9:DGs K X [] qaM:=PGs.mono qdU fun vs σ H Q ⟨ds,ρ,U,Q0,i1,hS,hM,h,cl⟩=>by
 unfold qaM at h;split at h
 .cases i1;exact ⟨rfl,cl _ U _ H h hS hM (yd.refl _)⟩
 .exact h.elim
theorem qM {e:Expr}{es:List Expr}{t:TGd}{u:qhl}(h1:DG K X e t) (h2:DGs K X es u)
  (hs:(assignEach (e::es) X.env).map (·.2)=assign e X.env::(assignEach es X.env).map (·.2):=by rfl):DGs K X (e::es) (jq t u):=PGs.mono (ZA h1 h2 hs) fun vs σ H Q ⟨ds,ρ,U,Q0,i1,hS,hM,h,cl⟩=>by
 unfold jq at h;split at h
 .cases i1 with
  | cons i1 i2 =>
   refine ⟨_,_,rfl,.d _,ρ,U,_,i1,hS,hM,h,fun ρ' U' σ' H' q S' M' s'=>?_⟩;exact ⟨_,ρ',U',Q0,IsAll.same s' i2,S',M',q,cl.same s'⟩
 .exact h.elim
def ZS (n:Nat) (t:qhl):TGd:=fun e ρ U Q=>match e with
 | .d (.tuple ds)=>ds.length=n/\t ds ρ U Q
 | _=>False
theorem jD {es:List Expr}{k:Nat}{t:qhl}{n:Nat}(hc:X.calm=true) (h:DGs K X es t) (hK:X.K=K:=by rfl)
  (hn:(assignEach es X.env).length=n:=by rfl) (hst:(assignEach es X.env).findIdx? (·.1)=none:=by rfl):DG K X (.Tuple es k pos) (ZS n t):=by
 subst hK;refine PG.mono (qgR hc h hn hst) fun v σ H Q hq9=>?_;obtain ⟨e,ρ,U,Q0,i1,hS,hM,h,cl⟩:=hq9;unfold ZS at h;split at h
 .obtain ⟨p,xs,rfl,hq,hA⟩:=(SeqOf.t _).get hM i1;cases i1 with
  | tup h1 h2 =>
   refine ⟨_,_,rfl,?_,by rw [h2.len];exact h.1,_,ρ,U,Q0,h2,hS,hM,h.2,cl⟩;rcases h1 with (e | ⟨o,e⟩) | e
   .exact .inl (.inl (yt _ _ e))
   .exact .inl (.inr ⟨o,yt _ _ e⟩)
   .exact .inr e
 .exact h.elim
variable {st:Stmt}{rest:List Stmt}{t u:TSd}{e:Expr}{te:TEd}
def dNext:TSd:=fun D ρ U=>D.nx ρ U
def dSeq (t u:TSd):TSd:=fun D ρ U=>t { D with nx:=u D } ρ U
theorem je:DSs K X [] dNext:=PSs.mono qdL fun D σ H ⟨ρ,U,D0,hS,hM,h,cl⟩=>cl.nx _ U _ H h hS hM (yd.refl _)
theorem qz (h1:DS K X st t) (h2:DSs K X rest u):DSs K X (st::rest) (dSeq t u):=PSs.mono (Yk h1 h2) fun D σ H ⟨ρ,U,D0,hS,hM,h,cl⟩ =>
 ⟨ρ,U,_,hS,hM,h,⟨fun ρ' U' σ' H' q S' M' s'=>⟨ρ',U',D0,S',M',q,cl.same s'⟩,cl.rt,cl.bk,cl.ct⟩⟩
theorem qL (h1:DS K X st t):DSs K X [st] t:=qbf h1
theorem qge:DS K X st (fun _ _ _=>False):=PS.mono qfH fun D σ H ⟨ρ,U,D0,hS,hM,h,cl⟩=>h
def dDrop (te:TEd):TSd:=fun D ρ U=>te ρ U fun _ U1=>D.nx ρ U1
theorem jY (he:DE K X e te) (hs:swapsWith e none pos.line X.env=pure false:=by rfl):DS K X (.Expr e pos) (dDrop te):=PS.mono (qh7 he hs) fun D σ H ⟨ρ,U,D0,hS,hM,h,cl⟩ =>
 ⟨ρ,U,_,hS,hM,h,fun e' U1 v H1 q M1 s1 i1=>cl.nx _ U1 _ H1 q (hS.same s1) M1 s1⟩
def dRet (te:TEd):TSd:=fun D ρ U=>te ρ U D.rt
theorem y0 (he:DE K X e te):DS K X (.Return (some e) pos) (dRet te):=PS.mono (qbX he) fun D σ H ⟨ρ,U,D0,hS,hM,h,cl⟩=>⟨ρ,U,_,hS,hM,h,cl.rt⟩
def FzR (U:Mu) (e:En) (U':Mu) (e':En):Prop:=∀ (K:W.Frag) (v:V) (H:Hp),RelM K U H->IsE K U H v e->RelM K U' H/\IsE K U' H v e'/\yd (mask U H) (mask U' H)
theorem FzR.refl {U:Mu}{e:En}:FzR U e U e:=fun _ _ _ h i=>⟨h,i,yd.refl _⟩
theorem FzR.trans {U U1 U2:Mu}{e e1 e2:En}(h:FzR U e U1 e1) (h':FzR U1 e1 U2 e2):FzR U e U2 e2:=fun K v H a b=>by
 obtain ⟨a1,b1,s1⟩:=h K v H a b;obtain ⟨a2,b2,s2⟩:=h' K v H a1 b1;exact ⟨a2,b2,s1.trans s2⟩
theorem FzR.list {U1 U2:Mu}{p:Addr}{ds:List PyData}:FzR (U1++(p,.lst ds)::U2) (.m p) (U1++U2) (.d (.list ds)):=fun K v H h i=>by
 obtain ⟨M',s,hn⟩:=h.drop;obtain ⟨xs,e,hs⟩:=h.ob p (.lst ds) (by simp);have i:v=_:=i;subst i;exact ⟨M',.lst (SqL.of (by rw [qX hn];exact e)) (IsAll.same s hs),s⟩
theorem FzR.list1 {U2:Mu}{p:Addr}{ds:List PyData}:FzR ((p,.lst ds)::U2) (.m p) U2 (.d (.list ds)):=FzR.list (U1:=[])
theorem FzR.drop {U1 U2:Mu}{p:Addr}{o:MO}{e:En}:FzR (U1++(p,o)::U2) e (U1++U2) e:=fun K v H h i=>by
 obtain ⟨M',s,hn⟩:=h.drop;exact ⟨M',i.same s,s⟩
theorem FzR.drop1 {U2:Mu}{p:Addr}{o:MO}{e:En}:FzR ((p,o)::U2) e U2 e:=FzR.drop (U1:=[])
def qli (te:TEd):TSd:=fun D ρ U=>te ρ U fun e U1=>∃ U2 e2,FzR U1 e U2 e2/\D.rt e2 U2
theorem yT (he:DE K X e te):DS K X (.Return (some e) pos) (qli te):=PS.mono (qbX he) fun D σ H ⟨ρ,U,D0,hS,hM,h,cl⟩=>⟨ρ,U,_,hS,hM,h,fun e' U1 v H1 q M1 s1 i1=>by
 obtain ⟨U2,e2,f,q⟩:=q;obtain ⟨M2,i2,s2⟩:=f K v H1 M1 i1;exact cl.rt _ U2 _ H1 q M2 (s1.trans s2) i2⟩
def dIfS (c:TTd) (t u:TSd):TSd:=fun D ρ U=>c ρ U fun b U1=>if b=true then t D ρ U1 else u D ρ U1
theorem jX {c:Expr}{a b:List Stmt}{tc:TTd}(hc:DT K X c tc) (ha:DSs K X a t) (hb:DSs K X b u):DS K X (.If c a b pos) (dIfS tc t u):=PS.mono (qkj hc ha hb) fun D σ H ⟨ρ,U,D0,hS,hM,h,cl⟩ =>
 ⟨ρ,U,_,hS,hM,h,fun k U1 H1 q M1 s1=>by
  cases k with
  | true=>exact qa4 ⟨ρ,U1,D0,hS.same s1,M1,by simpa using q,cl.same s1⟩
  | false=>exact Z3 ⟨ρ,U1,D0,hS.same s1,M1,by simpa using q,cl.same s1⟩⟩
def dAsg (te:TEd) (g:TGd):TSd:=fun D ρ U=>te ρ U fun e U1=>g e ρ U1 D.nx
theorem yn {i:Nat}{x:Str}{pos':Pos}(hN:X.N.Nodup) (hi:X.N[i]?=some x) (hx:Loc X.env.scope x) (he:DE K X e te) (hs:swapsWith e (some (.Name x pos')) pos.line X.env=pure false:=by rfl) (hf:X.fn x=true\/X.env.scope.names.lookup x=some .local:=by first | exact .inl rfl | exact .inr rfl | assumption) :
  DS K X (.Assign [.Name x pos'] e pos) (dAsg te (y4 i)):=PS.mono (qkh hN hi hx he hs hf) fun D σ H ⟨ρ,U,D0,hS,hM,h,cl⟩ =>
 ⟨ρ,U,_,hS,hM,h,fun e' U1 v H1 q M1 s1 i1=>cl.nx _ U1 _ H1 q ((hS.same s1).set i1) M1 s1⟩
theorem qaJ {tg:Expr}{g:TGd}(he:DE K X e te) (hg:DG K X tg g) (hs:swapsWithSole [tg] e pos.line X.env=pure false:=by rfl) (hw:swappedStores [tg] e X.env=pure none:=by rfl)
  (h1:(assignEach [tg] X.env).map (·.2)=[assign tg X.env]:=by rfl):DS K X (.Assign [tg] e pos) (dAsg te g):=PS.mono (qdM he hg hs hw h1) fun D σ H ⟨ρ,U,D0,hS,hM,h,cl⟩ =>
 ⟨ρ,U,_,hS,hM,h,fun e' U1 v H1 q M1 s1 i1=>⟨e',ρ,U1,D0.nx,i1,hS.same s1,M1,q,cl.nx.same s1⟩⟩
def dPar (i j:Nat) (ta:TAd):TSd:=fun D ρ U=>ta ρ U fun es U1=>match es with
 | [e,e']=>D.nx ((ρ.set i (some e)).set j (some e')) U1
 | _=>False
theorem qaH {i j:Nat}{x y:Str}{a b:Expr}{ta:TAd}{px py pt:Pos}{kt k2 pt2} (hc:X.calm=true) (hN:X.N.Nodup) (hi:X.N[i]?=some x) (hj:X.N[j]?=some y) (hij:i≠j)
  (hx:X.env.scope.names.lookup x=some .local) (hy:X.env.scope.names.lookup y=some .local) (ha:DA K X [a,b] ta)
  (hw:swappedStores [.Tuple [.Name x px,.Name y py] kt pt] (.Tuple [a,b] k2 pt2) X.env=pure (some [x,y]))
  (hs:swapsWithSole [.Tuple [.Name x px,.Name y py] kt pt] (.Tuple [a,b] k2 pt2) pos.line X.env=pure false:=by rfl) :
  DS K X (.Assign [.Tuple [.Name x px,.Name y py] kt pt] (.Tuple [a,b] k2 pt2) pos) (dPar i j ta):=PS.mono (qki hc hN hi hj hij hx hy ha hw hs) fun D σ H ⟨ρ,U,D0,hS,hM,h,cl⟩ =>
 ⟨ρ,U,_,hS,hM,h,fun es U1 vs H1 q M1 s1 i1=>by
  split at q
  .obtain ⟨v,v',rfl,h1,h2⟩:=ZE i1;exact ⟨_,_,rfl,cl.nx _ U1 _ H1 q (((hS.same s1).set h1).set h2) M1 s1⟩
  .exact q.elim⟩
def dApp (to:TEd) (tr:TAd):TEd:=fun ρ U Q=>to ρ U fun x U1=>match x with
 | .m p=>(∃ ds0,(p,.lst ds0)∈U1)/\tr ρ U1 fun es U2=>match es with
  | [.d z]=>∃ U3 U4 ds,U2=U3++(p,.lst ds)::U4/\ds.length<4000/\Q (.d .none) (U3++(p,.lst (ds++[z]))::U4)
  | _=>False
 | _=>False
theorem Jn {o e:Expr}{to:TEd}{p1:Pos}(ho:DE K X o to) (ha:DA K X [e] tr) (hK:X.K=K:=by rfl)
  (h:PE X (.Call (.Attribute o "append" p1) [e] [] pos) (tBM X.K "list" rAppend (up K to) (upA K tr))):DE K X (.Call (.Attribute o "append" p1) [e] [] pos) (dApp to tr):=by
 subst hK;refine PE.mono h fun σ H Q hq9=>?_;obtain ⟨ρ,U,Q0,hS,hM,h,cl⟩:=hq9;refine ⟨ρ,U,_,hS,hM,h,fun x U1 v H1 q M1 s1 i1=>?_⟩;split at q
 .rename_i x' p
  obtain ⟨⟨ds0,hd0⟩,q⟩:=q;have i1:v=_:=i1;subst i1;obtain ⟨xs0,e0,_⟩:=M1.ob _ _ hd0;refine ⟨.inl ⟨rfl,_,SqL.of e0⟩,ρ,U1,_,hS.same s1,M1,q,fun es U2 vs H2 q2 M2 s2 i2=>?_⟩;split at q2
  .rename_i es' z
   obtain ⟨U3,U4,ds,rfl,hl,q2⟩:=q2;obtain ⟨v,rfl,h1⟩:=j5 i2;obtain ⟨xs,ex,hA⟩:=M2.ob p (.lst ds) (by simp);refine ⟨p,xs,v,rfl,rfl,ex,yI (by rw [hA.len];omega),?_⟩;obtain ⟨M3,s3⟩:=M2.write (H':=upd H2 p (.lst (xs++[v]))) (o':=.lst (ds++[z])) (fun b u e n=>by rw [qC n];exact e) fun ss=>⟨_,qE,IsAll.snoc (Is.same ss h1) (IsAll.same ss hA)⟩;exact cl _ _ .non _ q2 M3 ((s1.trans s2).trans s3) .non
  .exact q2.elim
 .exact q.elim
structure Itd where
 n:Nat
 item:Nat->En
 ok:Mu->Prop
abbrev TId:=Rho->Mu->(Itd->Mu->Prop)->Prop
def Sim (K:W.Frag) (J0:Itd) (U1:Mu) (H1:Hp) (J:It):Prop:=∀ U' H',RelM K U' H'->yd (mask U1 H1) (mask U' H')->J0.ok U'->∀ i,
 (i<J0.n->J.go i H'/\∀ x H2,J.yld i H' x H2->RelM K U' H2/\yd (mask U' H') (mask U' H2)/\IsE K U' H2 x (J0.item i))/\(J0.n<=i->J.stop i H')
def upI (K:W.Frag) (t:TId):TI:=fun σ H R=>∃ ρ U Q0,RelS K ρ U σ H/\RelM K U H/\t ρ U Q0/\∀ J0 U1 J H1,Q0 J0 U1->RelM K U1 H1->yd (mask U H) (mask U1 H1)->Sim K J0 U1 H1 J->R J H1
def DI (K:W.Frag) (X:Cx) (tg iter:Expr) (t:TId):Prop:=PI X tg iter (upI K t)
variable {tg iter:Expr}
theorem PI.mono {wi wi':TI}(h:PI X tg iter wi) (f:∀ σ H R,wi' σ H R->wi σ H R):PI X tg iter wi':=fun pins s σ H R I q=>h pins s σ H R I (f _ _ _ q)
def itL (e:En) (ds:List PyData):Itd:=⟨ds.length,fun i=>.d (ds.getD i .none),fun U=>LstOf U e ds⟩
def itR (lo:Int) (n:Nat):Itd:=⟨n,fun i=>.d (.int (lo+i)),fun _=>True⟩
def diL (te:TEd):TId:=fun ρ U Q=>te ρ U fun e U1=>∃ ds,LstOf U1 e ds/\Q (itL e ds) U1
def diR1 (ta:TAd):TId:=fun ρ U Q=>ta ρ U fun es U1=>match es with
 | [.d (.int j)]=>-(2 ^ 62)<=j/\j<2 ^ 62/\Q (itR 0 j.toNat) U1
 | _=>False
theorem jw {ds:List PyData}{i:Nat}{x:PyData}(h:ds[i]?=some x):ds.getD i .none=x:=by rw [List.getD_eq_getElem?_getD,h];rfl
theorem yW {l:Expr}(hl:DE K X l te) (hK:X.K=K:=by rfl):DI K X tg l (diL te):=by
 subst hK;refine PI.mono (qdT hl) fun σ H R hq9=>?_;obtain ⟨ρ,U,Q0,hS,hM,h,cl⟩:=hq9;refine ⟨ρ,U,_,hS,hM,h,fun e U1 v H1 q M1 s1 i1=>?_⟩;obtain ⟨ds,hL,q⟩:=q;obtain ⟨p,xs,rfl,h1,h2⟩:=hL.get M1 i1;refine ⟨p,rfl,⟨xs,h1⟩,cl _ U1 _ H1 q M1 s1 fun U' H' M' s' hok i=>?_⟩;obtain ⟨p',xs',e',h3,h4⟩:=LstOf.get hok M' (i1.same s');cases e'
 have hl:=h4.len;refine ⟨fun hi=>⟨⟨xs',xs'[i]'(by rw [hl];exact hi),h3,by simp⟩,?_⟩,fun hi=>⟨xs',h3,by rw [hl];exact hi⟩⟩;rintro x H2 ⟨rfl,hx⟩;refine ⟨M',yd.refl _,?_⟩;obtain ⟨d,e1,e2⟩:=h4.get (hx xs' h3);show Is X.K (mask U' H2) x (ds.getD i .none);rw [jw e1];exact e2
theorem SqT.up {U:Mu}{H:Hp}{p:Addr}{xs:List V}(h:SqT K (mask U H) p xs):SqT K H p xs:=by
 rcases h with (e | ⟨o,e⟩) | e
 .exact .inl (.inl (yt _ _ e))
 .exact .inl (.inr ⟨o,yt _ _ e⟩)
 .exact .inr e
theorem SqT.same {H H':Hp}{p:Addr}{xs:List V}(s:yd H H') (h:SqT K H p xs):SqT K H' p xs:=by
 rcases h with (e | ⟨o,e⟩) | e
 .exact .inl (.inl (s _ _ e))
 .exact .inl (.inr ⟨o,s _ _ e⟩)
 .exact .inr e
theorem qdi {lo:Int}{n:Nat}{U1:Mu}{H1:Hp}:Sim K (itR lo n) U1 H1 (Itr lo n):=fun U' H' M' s' _ i =>
 ⟨fun hi=>⟨hi,fun x H2 ⟨e,y⟩=>by subst e y;exact ⟨M',yd.refl _,.int _⟩⟩,fun hi=>hi⟩
theorem YK {a:Expr}{ta:TAd}{p:Pos}(hg:Gl X "range") (hm:X.mg "range" = none) (ha:DA K X [a] ta) (hs:starEach [a] X.env=[(false,eval a X.env)]:=by rfl):DI K X tg (.Call (.Name "range" p) [a] [] pos) (diR1 ta) :=
 PI.mono (qdS hg hm ha hs) fun σ H R ⟨ρ,U,Q0,hS,hM,h,cl⟩=>⟨ρ,U,_,hS,hM,h,fun es U1 vs H1 q M1 s1 i1=>by
  split at q
  .obtain ⟨v,rfl,h1⟩:=j5 i1;cases h1
   exact ⟨_,rfl,q.1,q.2.1,cl _ U1 _ H1 q.2.2 M1 s1 qdi⟩
  .exact q.elim⟩
def Wks (P:Rho->Mu->Prop):Rho->Mu->Prop:=fun ρ U=>∃ ρ' U',Wk ρ U ρ' U'/\P ρ' U'
theorem Wks.of {P:Rho->Mu->Prop}{ρ:Rho}{U:Mu}(h:P ρ U):Wks P ρ U:=⟨ρ,U,Wk.refl,h⟩
def dFor (ti:TId) (g:TGd) (tb:TSd):TSd:=fun D ρ U=>ti ρ U fun J U1=>∃ Pv:Nat->Rho->Mu->Prop,Pv 0 ρ U1/\(∀ i ρ' U',i<=J.n->Pv i ρ' U'->J.ok U') ∧
 (∀ i ρ' U',i<J.n->Pv i ρ' U'->g (J.item i) ρ' U' fun ρ2 U2=>tb { D with nx:=Wks (Pv (i+1)),ct:=Wks (Pv (i+1)),bk:=D.nx } ρ2 U2)/\∀ ρ' U',Pv J.n ρ' U'->D.nx ρ' U'
theorem jB {body:List Stmt}{ti:TId}{g:TGd}{tb:TSd}(hp:PassesOwn (model X.prog X.w) X.A X.env X.xe) (hc:X.calm=true) (hi:DI K X tg iter ti) (hg:DG K X tg g) (hb:DSs K X body tb)
  (hs:∀ x,foldedSetIterable iter X.env x=pure x:=by intro _;rfl):DS K X (.For tg iter body [] pos) (dFor ti g tb):=by
 refine PS.mono (qkk hp hc hi hg hb hs) fun D σ H hq9=>?_;obtain ⟨ρ,U,D0,hS,hM,h,cl⟩:=hq9;refine ⟨ρ,U,_,hS,hM,h,fun J0 U1 J H1 q M1 s1 sim=>?_⟩;obtain ⟨Pv,h0,hok,hstep,hend⟩:=q;refine ⟨fun i m σ' H'=>m=J0.n - i/\i<=J0.n/\∃ ρ' U',RelS K ρ' U' σ' H'/\RelM K U' H'/\yd (mask U1 H1) (mask U' H')/\Pv i ρ' U',⟨_,rfl,qB _,ρ,U1,hS.same s1,M1,yd.refl _,h0⟩,?_⟩;rintro i m σ' H' ⟨rfl,hi,ρ',U',S',M',s',p⟩;have sm:=sim U' H' M' s' (hok i ρ' U' hi p) i;by_cases hlt:i<J0.n
 .obtain ⟨hgo,hy⟩:=sm.1 hlt;refine .inr ⟨hgo,fun σ2 H2=>∃ ρ' U',RelS K ρ' U' σ2 H2/\RelM K U' H2/\yd (mask U1 H1) (mask U' H2)/\Pv (i+1) ρ' U',fun σ2 H2 z=>⟨J0.n - (i+1),by omega,rfl,hlt,z⟩,fun x H2 y=>?_⟩;obtain ⟨M2,s2,i2⟩:=hy x H2 y;refine ⟨_,ρ',U',_,i2,S'.same s2,M2,hstep i ρ' U' hlt p,fun ρ3 U3 σ3 H3 q3 S3 M3 s3=>⟨ρ3,U3,_,S3,M3,q3,?_⟩⟩;have st:=(s'.trans s2).trans s3;have again:∀ {ρ4 U4 σ4 H4},Wks (Pv (i+1)) ρ4 U4->RelS K ρ4 U4 σ4 H4->RelM K U4 H4->yd (mask U3 H3) (mask U4 H4)->∃ ρ' U',RelS K ρ' U' σ4 H4/\RelM K U' H4/\yd (mask U1 H1) (mask U' H4)/\Pv (i+1) ρ' U':=by
   rintro ρ4 U4 σ4 H4 ⟨ρ5,U5,wk,p5⟩ S4 M4 s4;obtain ⟨S5,M5,s5⟩:=wk K σ4 H4 S4 M4;exact ⟨ρ5,U5,S5,M5,(st.trans s4).trans s5,p5⟩
  exact ⟨fun _ _ _ _ a b c d=>again a b c d,cl.rt.same (s1.trans st),cl.nx.same (s1.trans st),fun _ _ _ _ a b c d=>again a b c d⟩
 .have e:i=J0.n:=by omega
  subst e;exact .inl ⟨sm.2 (Nat.le_refl _),cl.nx _ U' _ H' (hend ρ' U' p) S' M' (s1.trans s')⟩
def qlf (c:TTd) (tb:TSd):TSd:=fun D ρ U=>∃ Pv:Nat->Rho->Mu->Prop,(∃ m,Pv m ρ U)/\∀ m ρ' U',Pv m ρ' U'->c ρ' U' fun b U1=>if b=true then
 tb { D with nx:=fun ρ2 U2=>∃ m',m'<m/\Wks (Pv m') ρ2 U2,ct:=fun ρ2 U2=>∃ m',m'<m/\Wks (Pv m') ρ2 U2,bk:=D.nx } ρ' U1 else D.nx ρ' U1
theorem qcd {c:Expr}{body:List Stmt}{tc:TTd}{tb:TSd}(hp:PassesOwn (model X.prog X.w) X.A X.env X.xe) (hc:DT K X c tc) (hb:DSs K X body tb):DS K X (.While c body [] pos) (qlf tc tb):=by
 refine PS.mono (qfG hp hc hb) fun D σ H hq9=>?_;obtain ⟨ρ,U,D0,hS,hM,h,cl⟩:=hq9;obtain ⟨Pv,⟨m0,h0⟩,hstep⟩:=h;refine ⟨fun m σ' H'=>∃ ρ' U',RelS K ρ' U' σ' H'/\RelM K U' H'/\yd (mask U H) (mask U' H')/\Pv m ρ' U',⟨m0,ρ,U,hS,hM,yd.refl _,h0⟩,?_⟩;rintro m σ' H' ⟨ρ',U',S',M',s',p⟩;refine ⟨ρ',U',_,S',M',hstep m ρ' U' p,fun k U1 H1 q M1 s1=>?_⟩;cases k with
 | true =>
  refine qa4 ⟨fun σ2 H2=>∃ m',m'<m/\∃ ρ' U',RelS K ρ' U' σ2 H2/\RelM K U' H2/\yd (mask U H) (mask U' H2)/\Pv m' ρ' U',fun σ2 H2 z=>z,ρ',U1,_,S'.same s1,M1,by simpa using q,?_⟩;have st:=s'.trans s1;have again:∀ {ρ4 U4 σ4 H4},(∃ m',m'<m/\Wks (Pv m') ρ4 U4)->RelS K ρ4 U4 σ4 H4->RelM K U4 H4->yd (mask U1 H1) (mask U4 H4)->∃ m',m'<m/\∃ ρ' U',RelS K ρ' U' σ4 H4/\RelM K U' H4/\yd (mask U H) (mask U' H4)/\Pv m' ρ' U':=by
   rintro ρ4 U4 σ4 H4 ⟨m',hm,ρ5,U5,wk,p5⟩ S4 M4 s4;obtain ⟨S5,M5,s5⟩:=wk K σ4 H4 S4 M4;exact ⟨m',hm,ρ5,U5,S5,M5,(st.trans s4).trans s5,p5⟩
  exact ⟨fun _ _ _ _ a b c d=>again a b c d,cl.rt.same st,cl.nx.same st,fun _ _ _ _ a b c d=>again a b c d⟩
 | false=>exact Z3 (cl.nx _ U1 _ H1 (by simpa using q) (S'.same s1) M1 (s'.trans s1))
def qjv:TTd:=fun _ U Q=>Q true U
def qht (K:W.Frag) (X:Cx) (ifs:List Expr) (t:TTd):Prop:=Ifs X ifs (upT K t)
theorem jZ:qht K X [] qjv:=fun pins s σ H Q I ⟨ρ,U,Q0,hS,hM,h,cl⟩=>qiO pins s σ H Q I (cl true U H h hM (yd.refl _))
theorem qeL {c:Expr}{t:TTd}(h:DT K X c t):qht K X [c] t:=qiN h
def Fin1 (Q:En->Mu->Prop) (ys:List PyData) (U:Mu):Prop:=Q (.d (.list ys)) U
def qln (k:Nat) (ti:TId) (g:TGd) (tt:TTd) (te:TEd):TEd:=fun ρ U Q=>ti ρ U fun J U1=>J.n<=4000/\∃ Pv:Nat->List PyData->Rho->Mu->Prop,Pv 0 [] (ρ++List.replicate k none) U1/\(∀ i ys ρ' U',i<=J.n->Pv i ys ρ' U'->J.ok U') ∧
 (∀ i ys ρ' U',i<J.n->Pv i ys ρ' U'->g (J.item i) ρ' U' fun ρ2 U2=>tt ρ2 U2 fun b U3=>if b=true then te ρ2 U3 fun y U4=>∃ z,y = .d z/\Pv (i+1) (ys++[z]) ρ2 U4 else Pv (i+1) ys ρ2 U3) ∧
 ∀ ys ρ' U',Pv J.n ys ρ' U'->Fin1 Q ys U'
theorem qhC {k:Nat}{ti:TId}{g:TGd}{tt:TTd}{te:TEd}{σ:St}{H:Hp}{Q:VK}(h:up K (qln k ti g tt te) σ H Q):qhF k (upI K ti) (upG K g) (upT K tt) (up K te) σ H Q:=by
 obtain ⟨ρ,U,Q0,hS,hM,h,cl⟩:=h;refine ⟨ρ,U,_,hS,hM,h,fun J0 U1 J H1 q M1 s1 sim=>?_⟩;obtain ⟨hn,Pv,h0,hok,hstep,hend⟩:=q;have S0:RelS K (ρ++List.replicate k none) U1 (σ++List.replicate k none) H1:=by
  have S1:=hS.same s1;refine ⟨by simp [S1.len],fun i e he=>?_⟩;by_cases hi:i<ρ.length
  .rw [qv hi] at he;rw [qv (by rw [<- S1.len];exact hi)];exact S1.get i e he
  .rw [qS (by omega),yF] at he;split at he <;> cases he
 refine ⟨fun i m ys σ' H'=>m=J0.n - i/\i<=J0.n/\ys.length<=i/\∃ ds ρ' U',RelS K ρ' U' σ' H'/\RelM K U' H'/\yd (mask U1 H1) (mask U' H')/\IsAll K (mask U' H') ys ds/\Pv i ds ρ' U',⟨_,rfl,qB _,Nat.le_refl _,[],_,U1,S0,M1,yd.refl _,.nil,h0⟩,?_⟩;rintro i m ys σ' H' ⟨rfl,hi,hy,ds,ρ',U',S',M',s',hA,p⟩;have sm:=sim U' H' M' s' (hok i ds ρ' U' hi p) i;by_cases hlt:i<J0.n
 .obtain ⟨hgo,hyl⟩:=sm.1 hlt;refine .inr ⟨hgo,yI (by omega),fun ys2 σ2 H2=>ys2.length<=i+1/\∃ ds ρ' U',RelS K ρ' U' σ2 H2/\RelM K U' H2/\yd (mask U1 H1) (mask U' H2)/\IsAll K (mask U' H2) ys2 ds/\Pv (i+1) ds ρ' U',fun ys2 σ2 H2 z=>⟨J0.n - (i+1),by omega,rfl,hlt,z⟩,fun x H2 y=>?_⟩;obtain ⟨M2,s2,i2⟩:=hyl x H2 y;refine ⟨_,ρ',U',_,i2,S'.same s2,M2,hstep i ds ρ' U' hlt p,fun ρ3 U3 σ3 H3 q3 S3 M3 s3=>⟨ρ3,U3,_,S3,M3,q3,fun b U4 H4 q4 M4 s4=>?_⟩⟩;have st:=((s'.trans s2).trans s3).trans s4;cases b with
  | true =>
   refine qa4 ⟨ρ3,U4,_,S3.same s4,M4,(by simpa using q4),fun e U5 v H5 q5 M5 s5 i5=>?_⟩;obtain ⟨z,rfl,q5⟩:=q5;exact ⟨by simp;omega,_,ρ3,U5,(S3.same s4).same s5,M5,st.trans s5,IsAll.snoc i5 (IsAll.same (((s2.trans s3).trans s4).trans s5) hA),q5⟩
  | false=>exact Z3 ⟨by omega,_,ρ3,U4,S3.same s4,M4,st,IsAll.same ((s2.trans s3).trans s4) hA,by simpa using q4⟩
 .have e:i=J0.n:=by omega
  subst e;refine .inl ⟨sm.2 (Nat.le_refl _),fun D hD=>?_⟩;obtain ⟨M4,s4,hn⟩:=M'.laid (o:=.lst ys) hD;exact cl _ U' _ _ (hend ds ρ' U' p) M4 ((s1.trans s').trans s4) (.lst (SqL.of (by rw [qX hn];exact qE)) (IsAll.same s4 hA))
theorem Zl {L:List Str}{scope sc:Scope}{N:List Str}{elt:Expr}{ifs:List Expr}{ti:TId}{g:TGd}{tt:TTd}{te:TEd}
  (hc:X.calm=true) (hsc:X.env.scope=sc) (hN:X.N=N) (ok:jf sc N L scope=true)
  (hi:DI K X tg iter ti) (hg:∀ cl C sa2 Ha2 fp,DG K (qo X L scope cl C sa2 Ha2 fp) tg g) (hf:∀ cl C sa2 Ha2 fp,qht K (qo X L scope cl C sa2 Ha2 fp) ifs tt) (he:∀ cl C sa2 Ha2 fp,DE K (qo X L scope cl C sa2 Ha2 fp) elt te)
  (hs:∀ x,foldedSetIterable iter X.env x=pure x:=by intro _;rfl) :
  DE K X (.ListComp elt [⟨tg,iter,ifs,0⟩] scope pos) (qln L.length ti g tt te):=PE.mono (qdX hc hsc hN ok hi hg hf he hs) fun _ _ _=>qhC
end
section
variable {P:Program}{w:World}{K:W.Frag}{mg:Str->Option Value}{base:Heap}{CX:CXT}
theorem Paired.mapSome {K:W.Frag}{U:Mu}{H:Hp}{vs:List V}{es:List En}(h:Paired (IsE K U H) vs es) (n m:Nat) (hn:n - vs.length=m - es.length):RelS K (es.map some++List.replicate (m - es.length) none) U (vs.map some++List.replicate (n - vs.length) none) H:=by
 have hl:vs.length=es.length:=PySem.Paired.length h;refine ⟨by simp [hl] at *;omega,fun i e he=>?_⟩;by_cases hi:i<es.length
 .rw [qv (by simpa using hi),List.getElem?_map] at he;rw [qv (by simp;omega),List.getElem?_map];cases q:es[i]? with
  | none=>rw [q] at he;cases he
  | some e' =>
   rw [q] at he;cases he
   obtain ⟨v,e1,e2⟩:=L2.Paired.get' h q;exact ⟨v,by rw [e1];rfl,e2⟩
 .rw [qS (by simp;omega),yF] at he;split at he <;> cases he
theorem Fun.okD {x qual:Str}{st:Stmt}{f:Addr}{fd:FuncData}{N ps:List Str}{k:Nat}{sp:SpD}(F:Fun K x qual st f fd) (S:FnScope N ps (qx st)) (len:∀ es U Q,sp es U Q->es.length=ps.length)
  (hbody:∀ (cdv:Value) (A:Around) (outer:List Env) (s:Shared) (H:Hp) (E:XK) (es:List En) (U:Mu) (Q:En->Mu->Prop),Room k (A.deeper (envOfC qual (qx st) s.heap.objs.size f cdv))->sp es U Q →
   ∃ t,DSs K (qhg CX P w K mg base N qual (qx st) f cdv A outer s H E).nox (jE st) t/\t { nx:=fun _ U'=>Q (.d .none) U',rt:=Q } (es.map some++List.replicate (N.length - es.length) none) U):FnOk P w K mg base CX (k+1) f fd ps (yp K sp):=by
 refine F.okG S (fun vs H Q E ⟨U,es,Q0,M,hp,h,cl⟩=>(PySem.Paired.length hp).trans (len es U Q0 h)) (fun cdv A outer s H vs Q E hr ⟨U,es,Q0,M,hp,h,cl⟩=>?_);obtain ⟨t,ht,hq⟩:=hbody cdv A outer s H E es U Q0 hr h;have hl:vs.length=es.length:=PySem.Paired.length hp;refine ⟨upS K t,ht,_,U,_,Paired.mapSome hp N.length N.length (by rw [hl]),M,hq,⟨fun ρ' U' σ' H' q S' M' s'=>cl _ U' .non H' q M' s' .non,cl,fun _ _ _ _ q=>q.elim,fun _ _ _ _ q=>q.elim⟩⟩
theorem Own.imp {k:Nat}{x:Str}{ps:List Str}{sp sp':Sp}(O:Own P w K mg base CX k x ps sp) (h:∀ vs H Q E,sp' vs H Q E->sp vs H Q E):Own P w K mg base CX k x ps sp':=by
 obtain ⟨f,fd,F,r⟩:=O;exact ⟨f,fd,F.imp h,r⟩
end
section
variable {X:Cx}{K:W.Frag}{a b c:Expr}{ta tb tc:TEd}{tA tB:TTd}{pos:Pos}{es:List Expr}{tr:TAd}
def rdIx:R2d:=fun x y U Q=>match x,y with
 | .d (.tuple ds),.d (.int i)=>∃ z,atI ds i=some z/\Q (.d z) U
 | .d (.list ds),.d (.int i)=>∃ z,atI ds i=some z/\Q (.d z) U
 | .m p,.d (.int i)=>∃ ds z,(p,.lst ds)∈U/\atI ds i=some z/\Q (.d z) U
 | _,_=>False
theorem yx (hK:X.K=K:=by rfl):IxR X (upR K rdIx):=by
 refine (IxR.or (qiV (K:=K) hK) (qkY (K:=K) hK)).mono fun x y H Q h=>?_;obtain ⟨U,e,e',Q0,M,i1,i2,q,cl⟩:=h;unfold rdIx at q;split at q
 .exact .inr ⟨U,_,_,Q0,M,i1,i2,q,cl⟩
 .obtain ⟨z,h1,q⟩:=q;exact .inl ⟨U,_,_,Q0,M,i1,i2,⟨_,z,.d _,h1,q⟩,cl⟩
 .obtain ⟨ds,z,h0,h1,q⟩:=q;exact .inl ⟨U,_,_,Q0,M,i1,i2,⟨ds,z,.m h0,h1,q⟩,cl⟩
 .exact q.elim
def qj4:R2d:=fun x y U Q=>match x,y with
 | .d (.int i),.d (.int j)=>Q (.d (.int (i+j))) U
 | _,_=>∃ ds es,LstOf U x ds/\LstOf U y es/\ds.length+es.length<=4000/\Q (.d (.list (ds++es))) U
section forms
variable {g:TGd}{tb:TSd}{D:EndsD}{ρ:Rho}{U:Mu}{te:TEd}{tt:TTd}{Q:En->Mu->Prop}
theorem qiT {e:En}{ds:List PyData}(Pv:Nat->Rho->Mu->Prop) (h0:Pv 0 ρ U) (hok:∀ i ρ' U',Pv i ρ' U'->LstOf U' e ds)
  (hs:∀ i x ρ' U',ds[i]?=some x->Pv i ρ' U'->g (.d x) ρ' U' fun ρ2 U2=>tb { D with nx:=Wks (Pv (i+1)),ct:=Wks (Pv (i+1)),bk:=D.nx } ρ2 U2) (hd:∀ ρ' U',Pv ds.length ρ' U'->D.nx ρ' U') :
  ∃ Pv:Nat->Rho->Mu->Prop,Pv 0 ρ U/\(∀ i ρ' U',i<=(itL e ds).n->Pv i ρ' U'->(itL e ds).ok U') ∧
   (∀ i ρ' U',i<(itL e ds).n->Pv i ρ' U'->g ((itL e ds).item i) ρ' U' fun ρ2 U2=>tb { D with nx:=Wks (Pv (i+1)),ct:=Wks (Pv (i+1)),bk:=D.nx } ρ2 U2)/\∀ ρ' U',Pv (itL e ds).n ρ' U'->D.nx ρ' U':=by
 refine ⟨Pv,h0,fun i ρ' U' _ p=>hok i ρ' U' p,fun i ρ' U' hi p=>?_,hd⟩;have hi:i<ds.length:=hi;have e1:ds[i]?=some ds[i]:=List.getElem?_eq_getElem hi;show g (.d (ds.getD i .none)) ρ' U' _;rw [jw e1];exact hs i _ ρ' U' e1 p
theorem forR {lo:Int}{n:Nat}(Pv:Nat->Rho->Mu->Prop) (h0:Pv 0 ρ U)
  (hs:∀ i ρ' U',i<n->Pv i ρ' U'->g (.d (.int (lo+i))) ρ' U' fun ρ2 U2=>tb { D with nx:=Wks (Pv (i+1)),ct:=Wks (Pv (i+1)),bk:=D.nx } ρ2 U2) (hd:∀ ρ' U',Pv n ρ' U'->D.nx ρ' U') :
  ∃ Pv:Nat->Rho->Mu->Prop,Pv 0 ρ U/\(∀ i ρ' U',i<=(itR lo n).n->Pv i ρ' U'->(itR lo n).ok U') ∧
   (∀ i ρ' U',i<(itR lo n).n->Pv i ρ' U'->g ((itR lo n).item i) ρ' U' fun ρ2 U2=>tb { D with nx:=Wks (Pv (i+1)),ct:=Wks (Pv (i+1)),bk:=D.nx } ρ2 U2)/\∀ ρ' U',Pv (itR lo n).n ρ' U'->D.nx ρ' U' :=
 ⟨Pv,h0,fun i ρ' U' _ p=>trivial,fun i ρ' U' hi p=>hs i ρ' U' hi p,hd⟩
abbrev qcW (k:Nat) (J:Itd) (g:TGd) (tt:TTd) (te:TEd) (ρ:Rho) (U1:Mu) (Q:En->Mu->Prop):Prop:=∃ Pv:Nat->List PyData->Rho->Mu->Prop,Pv 0 [] (ρ++List.replicate k none) U1/\(∀ i ys ρ' U',i<=J.n->Pv i ys ρ' U'->J.ok U') ∧
 (∀ i ys ρ' U',i<J.n->Pv i ys ρ' U'->g (J.item i) ρ' U' fun ρ2 U2=>tt ρ2 U2 fun b U3=>if b=true then te ρ2 U3 fun y U4=>∃ z,y = .d z/\Pv (i+1) (ys++[z]) ρ2 U4 else Pv (i+1) ys ρ2 U3) ∧
 ∀ ys ρ' U',Pv J.n ys ρ' U'->Fin1 Q ys U'
theorem yw {Z:Type}{ds:List Z}{i:Nat}{x:Z}(h:ds[i]?=some x):ds.take (i+1)=ds.take i++[x]:=by rw [List.take_add_one,h];rfl
structure Src (J:Itd) (ds:List PyData) (U:Mu):Prop where
 n:J.n=ds.length
 it:∀ i x,ds[i]?=some x->J.item i = .d x
 ok:J.ok U
theorem Src.l {e:En}{ds:List PyData}{U:Mu}(h:LstOf U e ds):Src (itL e ds) ds U:=⟨rfl,fun i x e=>by show En.d (ds.getD i .none)=_;rw [jw e],h⟩
theorem qhh {J:Itd}{Z:Type}{as:List Z}{h1 h2:Z->PyData}(p:Z->Bool) (f:Z->PyData) (S:Src J (as.map fun a=>.tuple [h1 a,h2 a]) U)
  (ht:∀ a,a∈as->∀ R:Bool->Mu->Prop,R (p a) U->tt (ρ++[some (.d (h1 a)),some (.d (h2 a))]) U R)
  (hs:∀ a,a∈as->p a=true->∀ R:En->Mu->Prop,R (.d (f a)) U->te (ρ++[some (.d (h1 a)),some (.d (h2 a))]) U R) (hq:Q (.d (.list ((as.filter p).map f))) U):qcW 2 J (ZS 2 (jq (y4 ρ.length) (jq (y4 (ρ.length+1)) qaM))) tt te ρ U Q:=by
 have hl:J.n=as.length:=by rw [S.n];simp
 refine ⟨fun i ys ρ' U'=>U'=U/\ys=((as.take i).filter p).map f/\∃ v w,ρ'=ρ++[v,w],⟨rfl,rfl,none,none,rfl⟩,fun i ys ρ' U' _ ⟨h,_⟩=>by subst h;exact S.ok,?_,?_⟩
 .rintro i ys ρ' U' hi ⟨rfl,rfl,v,w,rfl⟩;rw [hl] at hi;rw [S.it i (.tuple [h1 as[i],h2 as[i]]) (by rw [List.getElem?_map,List.getElem?_eq_getElem hi];rfl)];refine ⟨rfl,?_⟩;show tt (((ρ++[v,w]).set ρ.length _).set (ρ.length+1) _) U' _;have e2:((ρ++[v,w]).set ρ.length (some (.d (h1 as[i])))).set (ρ.length+1) (some (.d (h2 as[i])))=ρ++[some (.d (h1 as[i])),some (.d (h2 as[i]))]:=by simp [List.set_append]
  rw [e2];refine ht as[i] (qy hi) _ ?_;cases hp:p as[i] with
  | true =>
   refine qa4 (hs as[i] (qy hi) hp _ ⟨_,rfl,rfl,?_,_,_,rfl⟩);rw [yw (List.getElem?_eq_getElem hi),jn,List.map_append];simp [hp]
  | false =>
   refine Z3 ⟨rfl,?_,_,_,rfl⟩;rw [yw (List.getElem?_eq_getElem hi),jn,List.map_append];simp [hp]
 .rintro ys ρ' U' ⟨rfl,rfl,_⟩;rw [hl,yo];exact hq
theorem qlu {J:Itd}{Z:Type}{as:List Z}{h1 h2:Z->PyData}(f:Z->PyData) (S:Src J (as.map fun a=>.tuple [h1 a,h2 a]) U)
  (hs:∀ a,a∈as->∀ R:En->Mu->Prop,R (.d (f a)) U->te (ρ++[some (.d (h1 a)),some (.d (h2 a))]) U R) (hq:Q (.d (.list (as.map f))) U):qcW 2 J (ZS 2 (jq (y4 ρ.length) (jq (y4 (ρ.length+1)) qaM))) qjv te ρ U Q :=
 qhh (fun _=>true) f S (fun a _ R h=>h) (fun a ha _=>hs a ha) (by rw [List.filter_eq_self.mpr (fun _ _=>rfl)];exact hq)
end forms
end
def Num (n:Int):Prop:=-1000000000000000000000000000000<n/\n<1000000000000000000000000000000
def dvs (a b:Int):Int:=if a<0\/(a=0/\b<0) then -(Int.gcd a b:Int) else (Int.gcd a b:Int)
theorem qbr {a b:Int}(h:a≠0\/b≠0):0<Int.gcd a b:=Int.gcd_pos_iff.mpr h
theorem Js {a b:Int}(h:a≠0\/b≠0):dvs a b≠0:=by
 have:=qbr h;unfold dvs;split <;> omega
theorem ZO {a b:Int}:(Int.gcd a b:Int) ∣ a:=Int.gcd_dvd_left ..
theorem ZN {a b:Int}:(Int.gcd a b:Int) ∣ b:=Int.gcd_dvd_right ..
theorem qaz {a b:Int}{B:Nat}(h:a≠0\/b≠0) (ha:a.natAbs<=B) (hb:b.natAbs<=B):Int.gcd a b<=B:=by
 rcases h with h | h
 .exact qq (Nat.le_of_dvd (by omega) (Int.natAbs_dvd_natAbs.mpr (ZO (a:=a) (b:=b)))) ha
 .exact qq (Nat.le_of_dvd (by omega) (Int.natAbs_dvd_natAbs.mpr (ZN (a:=a) (b:=b)))) hb
theorem qbv (a b:Int):(dvs a b).natAbs=Int.gcd a b:=by
 unfold dvs;split <;> omega
theorem qaG (a b:Int):dvs a b ∣ a:=by
 unfold dvs;split
 .exact Int.neg_dvd.mpr ZO
 .exact ZO
theorem qaF (a b:Int):dvs a b ∣ b:=by
 unfold dvs;split
 .exact Int.neg_dvd.mpr ZN
 .exact ZN
theorem qca {a d:Int}(hd:d≠0) (h:d ∣ a):(a.fdiv d).natAbs<=a.natAbs:=by
 obtain ⟨c,rfl⟩:=h;rw [Int.mul_fdiv_cancel_left _ hd,Int.natAbs_mul];exact Nat.le_mul_of_pos_left _ (by omega)
theorem qb8 {f r:Nat}:Nat.gcd r (f % r)=Nat.gcd f r:=by rw [Nat.gcd_comm r (f % r),<- Nat.gcd_rec,Nat.gcd_comm]
def nrm (a b:Int):Pt:=(a.fdiv (dvs a b),b.fdiv (dvs a b))
def IsN (q:Pt):Prop:=Int.gcd q.1 q.2=1/\(0<q.1\/(q.1=0/\q.2=1))
def Bd (B:Nat) (q:Pt):Prop:=q.1.natAbs<=B/\q.2.natAbs<=B
theorem JU (a b:Int) (h:a≠0\/b≠0):a=dvs a b * (nrm a b).1/\b=dvs a b * (nrm a b).2:=by
 have d0:=Js h;obtain ⟨c,hc⟩:=qaG a b;obtain ⟨e,he⟩:=qaF a b;unfold nrm;dsimp only;constructor
 .conv=>rhs;rhs;arg 1;rw [hc]
  rw [Int.mul_fdiv_cancel_left _ d0];exact hc
 .conv=>rhs;rhs;arg 1;rw [he]
  rw [Int.mul_fdiv_cancel_left _ d0];exact he
theorem qao {a b:Int}{B:Nat}(h:a≠0\/b≠0) (ha:a.natAbs<=B) (hb:b.natAbs<=B):Bd B (nrm a b) :=
 ⟨qq (qca (Js h) (qaG a b)) ha,qq (qca (Js h) (qaF a b)) hb⟩
theorem qbk {a b:Int}(h:a≠0\/b≠0):IsN (nrm a b):=by
 obtain ⟨h1,h2⟩:=JU a b h;have d0:=Js h;have g0:=qbr h;have hg:Int.gcd a b=(dvs a b).natAbs * Int.gcd (nrm a b).1 (nrm a b).2:=by
  have e:Int.gcd (dvs a b * (nrm a b).1) (dvs a b * (nrm a b).2)=(dvs a b).natAbs * Int.gcd (nrm a b).1 (nrm a b).2:=Int.gcd_mul_left ..;rw [<- h1,<- h2] at e;exact e
 rw [qbv] at hg;have g1:Int.gcd (nrm a b).1 (nrm a b).2=1:=by
  have:=Nat.eq_of_mul_eq_mul_left g0 (show Int.gcd a b * Int.gcd (nrm a b).1 (nrm a b).2=Int.gcd a b * 1 by omega);exact this
 refine ⟨g1,?_⟩;generalize nrm a b=q at *;by_cases ha:a=0
 .right;have hq:q.1=0:=by
   have:dvs a b * q.1=0:=by rw [<- h1];exact ha
   rcases yU.mp this with z | z
   .exact absurd z d0
   .exact z
  refine ⟨hq,?_⟩;rw [hq] at g1;simp at g1;have hb:b≠0:=by rcases h with h | h;exact absurd ha h;exact h
  have:q.2=1\/q.2 = -1:=by omega
  rcases this with z | z
  .exact z
  .exfalso;unfold dvs at h2;rw [z] at h2;split at h2 <;> omega
 .left;have hp:0<dvs a b * q.1\/dvs a b * q.1<0:=by omega
  unfold dvs at h1;split at h1
  .have:a<0:=by omega
   have h1':(Int.gcd a b:Int) * q.1 = -a:=by rw [Int.neg_mul] at h1;omega
   exact Int.pos_of_mul_pos_right (by rw [h1'];omega) (by omega)
  .have:0<a:=by omega
   exact Int.pos_of_mul_pos_right (a:=(Int.gcd a b:Int)) (by rw [<- h1];exact this) (by omega)
theorem ZP {a d:Int}{B:Nat}(hB:B<2 ^ 1000) (h0:d≠0) (hd:d.natAbs<=B):qff a d:=⟨h0,yr hd hB⟩
def crs (p q:Pt):Int:=p.1 * q.2 - p.2 * q.1
theorem JI {p q:Pt}(hp:IsN p) (hq:IsN q) (h:crs p q=0):p=q:=by
 obtain ⟨a,b⟩:=p;obtain ⟨c,d⟩:=q;obtain ⟨g1,s1⟩:=hp;obtain ⟨g2,s2⟩:=hq;unfold crs at h;dsimp only at *;have e:a * d=b * c:=by omega
 have i1:a.natAbs ∣ c.natAbs:=by
  have:a.natAbs ∣ b.natAbs * c.natAbs:=⟨d.natAbs,by rw [<- Int.natAbs_mul,<- Int.natAbs_mul,e]⟩;exact Nat.Coprime.dvd_of_dvd_mul_left (show Nat.Coprime a.natAbs b.natAbs from g1) this
 have i2:c.natAbs ∣ a.natAbs:=by
  have:c.natAbs ∣ d.natAbs * a.natAbs:=⟨b.natAbs,by rw [<- Int.natAbs_mul,<- Int.natAbs_mul,Int.mul_comm d a,e,Int.mul_comm]⟩;exact Nat.Coprime.dvd_of_dvd_mul_left (show Nat.Coprime c.natAbs d.natAbs from g2) this
 have hac:a.natAbs=c.natAbs:=Nat.dvd_antisymm i1 i2;have hac':a=c:=by omega
 subst hac';by_cases ha:a=0
 .subst ha;have:b=1:=by omega
  have:d=1:=by omega
  subst_vars;rfl
 .have:d=b:=Int.eq_of_mul_eq_mul_left ha (by rw [e,Int.mul_comm]);rw [this]
theorem FzR.pot {M a b:Int}{U:Mu}{p:Addr}(ha:0<=a) (hb:0<=b) (hm:b<M):FzR ((p,.lst [.int a,.int b])::U) (.m p) ((p,.pot M)::U) (.m p):=fun K v H h i=>by
 have e:mask ((p,.lst [.int a,.int b])::U) H=mask ((p,.pot M)::U) H:=rfl;refine ⟨⟨by simpa using h.nd,fun b' o ho=>?_⟩,i,by rw [e];exact yd.refl _⟩;rcases List.mem_cons.mp ho with z | z
 .cases z
  obtain ⟨xs,e1,hs⟩:=h.ob p _ qe;have:=IsAll.ints_of (ns:=[a,b]) hs;subst this;exact ⟨a,b,e1,ha,hb,hm⟩
 .have:=h.ob b' o (qf _ z);exact this.same (by rw [e];exact yd.refl _) rfl
def qde (M:Int):Sp:=fun vs H Q _=>∃ (p:Addr) (m:Int),vs=[.ref p,.int m]/\Pot M H p/\0<m/\m<=100000000/\∀ d H',0<=d->d<m->Pot M H' p->Stp p H H'->Q (.int d) H'
def qcA (M:Int):SpD:=fun es U Q=>∃ (p:Addr) (m:Int),es=[.m p,.d (.int m)]/\(p,.pot M)∈U/\0<m/\m<=100000000/\∀ d,0<=d->d<m->Q (.d (.int d)) U
def qjQ (M:Int):SpD:=fun es U Q=>∃ (p:Addr),es=[.m p]/\(p,.pot M)∈U/\∀ n,Num n->Q (.d (.int n)) U
theorem qh8 {K:W.Frag}{U:Mu}{H H':Hp}{p:Addr}{M:Int}(h:RelM K U H) (hp:(p,.pot M)∈U) (hP:Pot M H' p) (s:Stp p H H'):RelM K U H'/\yd (mask U H) (mask U H'):=by
 obtain ⟨U1,U2,rfl⟩:=List.append_of_mem hp;exact h.write (fun b u e n=>s b u e n) fun _=>hP
theorem qiW {K:W.Frag}{M:Int}{vs:List V}{H:Hp}{Q:VK}{E:XK}(h:yp K (qcA M) vs H Q E):qde M vs H Q E:=by
 obtain ⟨U,es,Q0,hM,hp,⟨p,m,rfl,hpot,m0,m1,q⟩,cl⟩:=h;obtain ⟨v,v',rfl,i1,i2⟩:=ZE hp;have i1:v=_:=i1;subst i1;cases i2
 refine ⟨p,m,rfl,hM.ob _ _ hpot,m0,m1,fun d H' d0 d1 hP s=>?_⟩;obtain ⟨M',s'⟩:=qh8 hM hpot hP s;exact cl _ U _ H' (q d d0 d1) M' s' (.int d)
theorem zl0:0<=4000:=by decide
theorem zl1:1<=4000:=by decide
theorem zl2:2<=4000:=by decide
theorem zl3:3<=4000:=by decide
theorem zl4:4<=4000:=by decide
theorem qac (p:Pt):SeqAt.shaped (ptD p)=true:=qbc [p.1,p.2]
theorem qjh (p q:Pt):crs q p = - crs p q:=by
 unfold crs;rw [Int.mul_comm q.1 p.2,Int.mul_comm q.2 p.1];omega
theorem qgo (p:Pt):crs p p=0:=by
 have:=qjh p p;omega
section
variable {X:Cx}{K:W.Frag}{a b c:Expr}{ta tb tc:TEd}{tA tB:TTd}{pos:Pos}{es:List Expr}{tr:TAd}
theorem qg8 {Z β:Type}{f:Z->Option β}{g:Z->β}:∀ {l:List Z},(∀ x∈l,f x=some (g x))->l.filterMap f=l.map g
 | [],_=>rfl
 | x::l,h=>by
  rw [List.filterMap_cons_some (h x qe),qg8 fun y hy=>h y (qf _ hy)];rfl
theorem qfK (its:List Value):slicePick its.toArray none none (some (-1))=its.reverse.toArray:=by
 have e1:sliceBounds none none (some (-1)) its.toArray.size=((its.length:Int) - 1,-1,-1):=by simp [sliceBounds]
 unfold slicePick;rw [e1];dsimp only;congr 1;have e2:sliceRange ((its.length:Int) - 1) (-1) (-1)=(List.range its.length).map fun (k:Nat)=>its.length - 1 - k:=by
  unfold sliceRange;dsimp only;rw [if_neg (by decide)];have e3:(if (its.length:Int) - 1 > -1 then ((its.length:Int) - 1 - -1 - -1 - 1) / (- -1) else 0).toNat=its.length:=by
   split
   .have:((its.length:Int) - 1 - -1 - -1 - 1) / (- -1)=(its.length:Int):=by rw [show (- -1:Int)=1 by decide,Int.ediv_one];omega
    rw [this];omega
   .omega
  rw [e3];apply List.map_congr_left;intro k hk;have:k<its.length:=by simpa using hk
  omega
 rw [e2,List.filterMap_map];apply List.ext_getElem?;intro i;have e4:(List.filterMap ((fun x=>its.toArray[x]?) ∘ fun k=>its.length - 1 - k) (List.range its.length))=(List.range its.length).map fun k=>(its.getD (its.length - 1 - k) Value.none):=by
  refine qg8 fun k hk=>?_;have:k<its.length:=by simpa using hk
  simp [List.getD_eq_getElem?_getD,show its.length - 1 - k<its.length by omega]
 rw [e4];by_cases hi:i<its.length
 .rw [List.getElem?_map,List.getElem?_range hi,List.getElem?_reverse hi];simp [List.getD_eq_getElem?_getD,show its.length - 1 - i<its.length by omega]
 .rw [List.getElem?_eq_none (by simpa using hi),List.getElem?_eq_none (by simpa using hi)]
def tRev (K:W.Frag) (te:TE):TE:=fun σ H Q=>te σ H fun x H1=>∃ a xs,x = .ref a/\SqL K H1 a xs/\∀ p,H1 p=none->Q (.ref p) (upd H1 p (.lst xs.reverse))
theorem qko {e:Expr}{te:TE}{p2 p3 p4:Pos}{j} (he:PE X e te):PE X (.Subscript e (.Slice none none (some (.UnaryOp .USub (.Constant (.int 1) j p3) p4)) p2) pos) (tRev X.K te):=by
 intro pins s σ H Q I h;refine Subscript_ (thn (he pins s σ H _ I h) fun v s1 ⟨x,H1,I1,r1,q1⟩=>?_);obtain ⟨a,xs,rfl,hx,q⟩:=q1;cases r1
 refine wpAny_Slice ?_;rw [evalPart_none];refine qc (qc ?_);rw [evalPart_some];refine thn (qkm qgw jz pins s1 σ H1 (fun y H2=>y = .int (-1)/\H2=H1) I1 ⟨_,rfl,rfl,rfl⟩) fun vs s3 hq9=>?_;obtain ⟨y,H3,I3,r3,e3,e4⟩:=hq9;subst e3 e4;obtain ⟨t,rfl⟩:=r3;have I4:Inv X pins σ H3 { s3 with heap:=s3.heap.push { cls:=.type "slice",data:=.fields #[.none,.none,.int (-1) t] } }:=I3.kept (t':=s3.toks) fun b ob q=>qb _ q;obtain ⟨its,r,ht,hz⟩:=I4.list hx;refine tail_any (ops:=[.ref a,.ref s3.heap.objs.size]) ht.isList.typeIs slot_list_getitem.lookup ?_ (by with_unfolding_all rfl);refine wpAny_getItem_list_slice ht.isList (Heap.IsSliceOf.new ..) .none .none (.int _ t) (by decide) ?_ (by rw [List.size_toArray,<- r.length];exact hz);rw [qfK];refine ⟨.ref _,_,I4.laid (t':=s3.toks) (o:=.lst xs.reverse) (fun b ob q=>qb _ q) (Nat.le_refl _) ?_,rfl,q _ (I4.hok.fresh (Nat.le_refl _))⟩;exact ⟨by rw [List.length_reverse];exact hz,_,0,r.reverse,qj _ rfl⟩
def dRev (te:TEd):TEd:=fun ρ U Q=>te ρ U fun x U1=>∃ ds,LstOf U1 x ds/\Q (.d (.list ds.reverse)) U1
theorem d_rev {e:Expr}{te:TEd}{p2 p3 p4:Pos}{j} (he:DE K X e te) (hK:X.K=K:=by rfl):DE K X (.Subscript e (.Slice none none (some (.UnaryOp .USub (.Constant (.int 1) j p3) p4)) p2) pos) (dRev te):=by
 subst hK;refine PE.mono (qko he) fun σ H Q hq9=>?_;obtain ⟨ρ,U,Q0,hS,hM,h,cl⟩:=hq9;refine ⟨ρ,U,_,hS,hM,h,fun e' U1 v H1 q M1 s1 i1=>?_⟩;obtain ⟨ds,h1,q⟩:=q;obtain ⟨p,xs,rfl,h2,h3⟩:=h1.get M1 i1;refine ⟨p,xs,rfl,h2,fun l hl=>?_⟩;obtain ⟨M4,s4,hn⟩:=M1.laid (o:=.lst xs.reverse) hl;exact cl _ U1 _ _ q M4 (s1.trans s4) (.lst (SqL.of (by rw [qX hn];exact qE)) (IsAll.same s4 h3.rev))
def rCatS (K:W.Frag):R2:=fun x y H Q=>∃ l b xs zs,x = .ref l/\y = .ref b/\SqL K H l xs/\SqL K H b zs/\xs.length+zs.length<=sizeLine/\∀ p,H p=none->Q (.ref p) (upd H p (.lst (xs++zs)))
theorem qim:OpR X (binaryOp .Add) (rCatS X.K):=by
 intro pins s σ H x y v u Q I rx ry h;obtain ⟨l,b,xs,zs,rfl,rfl,hH,hB,hz,q⟩:=h;cases rx
 cases ry
 obtain ⟨its,r,pl,_⟩:=I.list hH;obtain ⟨its2,r2,pl2,_⟩:=I.list hB;obtain ⟨⟨cls,dd,data,sl⟩,ho,hc,n,hd⟩:=pl.isList;obtain ⟨⟨cls2,dd2,data2,sl2⟩,ho2,hc2,n2,hd2⟩:=pl2.isList;simp only at hc hd hc2 hd2;subst hc hd hc2 hd2;have h1:=r.length;have h2:=r2.length;have e:its.toArray++its2.toArray=(its++its2).toArray:=by simp
 refine concat_meets ⟨_,ho,rfl⟩ ⟨_,ho2,rfl⟩ noFill_list_add seq_list_add PySem.F.slot_list_add PySem.F.entry_list_add (PySem.F.args_list_add_2 _ _) (list_addW l b its.toArray its2.toArray n n2 dd dd2 sl sl2 (by simp;omega)) ⟨ho,ho2,?_⟩;rw [e];exact ⟨.ref _,_,I.lnew (t':=s.toks) (r.append r2) (by rw [List.length_append];omega),rfl,q _ I.fresh⟩
theorem qhb (hK:X.K=K:=by rfl):OpR X (binaryOp .Add) (upR K qj4):=by
 subst hK;refine (OpR.or (qd0 (X:=X)) qim).mono fun x y H Q h=>?_;obtain ⟨U,e,e',Q0,M,i1,i2,q,cl⟩:=h;unfold qj4 at q;split at q
 .cases i1;cases i2
  exact .inl ⟨_,_,rfl,rfl,cl _ U _ H q M (yd.refl _) (.int _)⟩
 .obtain ⟨ds,es,h1,h2,hl,q⟩:=q;obtain ⟨p,xs,rfl,a1,a2⟩:=h1.get M i1;obtain ⟨p',xs',rfl,b1,b2⟩:=h2.get M i2;refine .inr ⟨p,p',xs,xs',rfl,rfl,a1,b1,qP (yI (by rw [a2.len,b2.len];exact hl)),fun l hl=>?_⟩;obtain ⟨M4,s4,hn⟩:=M.laid (o:=.lst (xs++xs')) hl;exact cl _ U _ _ q M4 s4 (.lst (SqL.of (by rw [qX hn];exact qE)) (IsAll.same s4 (IsAll.app b2 a2)))
end
section
variable {P:Program}{w:World}{K:W.Frag}{mg:Str->Option Value}{base:Heap}{CX:CXT}{k:Nat}{x:Str}{ps:List Str}{sp sp':Sp}{f:Addr}{fd:FuncData}
end
section
variable {g:TGd}{tb:TSd}{D:EndsD}{ρ:Rho}{U:Mu}{te:TEd}{tt:TTd}{Q:En->Mu->Prop}
theorem qlr {J:Itd}{Z:Type}{as:List Z}{h:Z->PyData}(p:Z->Bool) (f:Z->PyData) (S:Src J (as.map h) U)
  (ht:∀ a,a∈as->∀ R:Bool->Mu->Prop,R (p a) U->tt (ρ++[some (.d (h a))]) U R)
  (hs:∀ a,a∈as->p a=true->∀ R:En->Mu->Prop,R (.d (f a)) U->te (ρ++[some (.d (h a))]) U R) (hq:Q (.d (.list ((as.filter p).map f))) U):qcW 1 J (y4 ρ.length) tt te ρ U Q:=by
 have hl:J.n=as.length:=by rw [S.n];simp
 refine ⟨fun i ys ρ' U'=>U'=U/\ys=((as.take i).filter p).map f/\∃ v,ρ'=ρ++[v],⟨rfl,rfl,none,rfl⟩,fun i ys ρ' U' _ ⟨h,_⟩=>by subst h;exact S.ok,?_,?_⟩
 .rintro i ys ρ' U' hi ⟨rfl,rfl,v,rfl⟩;rw [hl] at hi;rw [S.it i (h as[i]) (by rw [List.getElem?_map,List.getElem?_eq_getElem hi];rfl)];unfold y4;have e2:(ρ++[v]).set ρ.length (some (.d (h as[i])))=ρ++[some (.d (h as[i]))]:=by simp
  rw [e2];refine ht as[i] (qy hi) _ ?_;cases hp:p as[i] with
  | true =>
   refine qa4 (hs as[i] (qy hi) hp _ ⟨_,rfl,rfl,?_,_,rfl⟩);rw [yw (List.getElem?_eq_getElem hi),jn,List.map_append];simp [hp]
  | false =>
   refine Z3 ⟨rfl,?_,_,rfl⟩;rw [yw (List.getElem?_eq_getElem hi),jn,List.map_append];simp [hp]
 .rintro ys ρ' U' ⟨rfl,rfl,_⟩;rw [hl,yo];exact hq
theorem qlq {J:Itd}{Z:Type}{as:List Z}{h:Z->PyData}(f:Z->PyData) (S:Src J (as.map h) U)
  (hs:∀ a,a∈as->∀ R:En->Mu->Prop,R (.d (f a)) U->te (ρ++[some (.d (h a))]) U R) (hq:Q (.d (.list (as.map f))) U):qcW 1 J (y4 ρ.length) qjv te ρ U Q :=
 qlr (fun _=>true) f S (fun a _ R h=>h) (fun a ha _=>hs a ha) (by rw [List.filter_eq_self.mpr (fun _ _=>rfl)];exact hq)
end
section
variable {s:List Int}(h:s.Pairwise (· <= ·)) {j:Nat}(hj:j<s.length) {c:Int}
include h hj
end
mutual
theorem qcb:∀ d:PyData,PyData.canLay0 d=true->PyData.eqv d d=true
 | .none,_=>by simp [PyData.eqv]
 | .bool b,_=>by simp [PyData.eqv]
 | .int i,_=>by simp [PyData.eqv]
 | .str x,_=>by simp [PyData.eqv]
 | .list xs,h=>by
  simp only [PyData.canLay0] at h;simp only [PyData.eqv];exact Jy xs h
 | .tuple xs,h=>by
  simp only [PyData.canLay0] at h;simp only [PyData.eqv];exact Jy xs h
 | .dict xs,h=>by simp [PyData.canLay0] at h
theorem Jy:∀ ds:List PyData,PyData.canLayAll0 ds=true->PyData.eqvAll ds ds=true
 | [],_=>by simp [PyData.eqvAll]
 | d::ds,h=>by
  simp only [PyData.canLayAll0,Bool.and_eq_true] at h;simp only [PyData.eqvAll,Bool.and_eq_true];exact ⟨qcb d h.1,Jy ds h.2⟩
end
theorem Jm {d:PyData}(h:SeqAt.shaped d=true):PyData.eqv d d=true:=qcb d (SeqAt.canLay_of_shaped h)
theorem Ya {Z:Type}{f:Z->PyData}(hf:∀ a,PyData.canLay0 (f a)=true):∀ as:List Z,PyData.canLayAll0 (as.map f)=true
 | []=>by simp [PyData.canLayAll0]
 | a::as=>by simp [PyData.canLayAll0,hf a,Ya hf as]
theorem YL {Z:Type}{f:Z->PyData}{n:Nat}(hf:∀ a,PyData.depth (f a)<=n):∀ as:List Z,PyData.depthAll (as.map f)<=n+1
 | []=>by simp [PyData.depthAll]
 | a::as=>by
  have:=YL hf as;have:=hf a;simp only [List.map_cons,PyData.depthAll];omega
section
variable {X:Cx}{K:W.Frag}{a b c:Expr}{ta tb tc:TEd}{tA tB:TTd}{pos:Pos}{es:List Expr}{tr:TAd}
theorem qg7 {s s':SpD}{vs:List V}{H:Hp}{Q:VK}{E:XK}(f:∀ es U Q,s' es U Q->s es U fun e U'=>∃ U2 e2,FzR U' e U2 e2/\Q e2 U2) (h:yp K s' vs H Q E):yp K s vs H Q E:=by
 obtain ⟨U,es,Q0,M,hp,hs,cl⟩:=h;refine ⟨U,es,_,M,hp,f es U Q0 hs,fun e U' v H' q M' s' i'=>?_⟩;obtain ⟨U2,e2,fz,q⟩:=q;obtain ⟨M2,i2,s2⟩:=fz K v H' M' i';exact cl e2 U2 v H' q M2 (s'.trans s2) i2
end
end L2
namespace L2
open PySem PySem.Spec PyProof.Rows PySem.W PySem.SetTable
def JA (K:W.Frag) (H:Hp) (v:V) (ks:List Int):Prop:=(∃ a,v = .ref a/\SqT K H a (ks.map V.int))/\ks≠[]
theorem JA.same {K:W.Frag}{H H':Hp}{v:V}{ks:List Int}(h:JA K H v ks) (s:yd H H'):JA K H' v ks:=by
 obtain ⟨⟨a,e,q⟩,n⟩:=h;exact ⟨⟨a,e,SqT.same s q⟩,n⟩
def Srt (ms:List (List Int)):Prop:=ms.Pairwise fun a b=>¬ b<a
def qa3 (P:Program) (w:World) (a:Addr) (bs:List (Addr×List Int)) (h:Heap):Prop :=
 ∃ o es ep t m,h.get? a=some o/\o.ExactSet/\o.data = .set es ep t/\t.plain=true/\t.led=(!jr w)/\js m es.size/\SetI t es m es.size/\es.toList=bs.map (fun b=>(yA P w b.2,Value.ref b.1))/\(bs.map (·.2)).Nodup
def qcw (P:Program) (w:World) (a:Addr) (bs:List (Addr×List Int)):HO:=.ext (qa3 P w a bs)
def InS (K:W.Frag) (H:Hp) (bs:List (Addr×List Int)):Prop:=∀ b∈bs,JA K H (.ref b.1) b.2
theorem InS.same {K:W.Frag}{H H':Hp}{bs:List (Addr×List Int)}(h:InS K H bs) (s:yd H H'):InS K H' bs:=fun b hb=>(h b hb).same s
theorem qa3.stay {P:Program}{w:World}{a:Addr}{bs:List (Addr×List Int)}{h1 h2:Heap}(p:qa3 P w a bs h1) (k:∀ o,h1.get? a=some o->h2.get? a=some o):qa3 P w a bs h2:=by
 obtain ⟨o,es,ep,t,m,ho,r⟩:=p;exact ⟨o,es,ep,t,m,k o ho,r⟩
theorem qa3.ok {P:Program}{w:World}{H:Hp}{a:Addr}{bs:List (Addr×List Int)}{h:Heap}(p:qa3 P w a bs h):ja P w H h a (qcw P w a bs):=by
 refine ⟨p,?_,fun h1 h2 p1 k=>p1.stay k⟩;obtain ⟨o,_,_,_,_,ho,_⟩:=p;exact ⟨o,ho⟩
theorem qbt {P:Program}{w:World}{h:Heap}:∀ {l:List (Int×Value)}{ms:List (List Int)},PySem.Paired (Z2 P w h) l ms->∃ bs:List (Addr×List Int),l=bs.map (fun b=>(yA P w b.2,Value.ref b.1))/\bs.map (·.2)=ms/\∀ b∈bs,yY h (.ref b.1) b.2
 | _,_,.nil=>⟨[],rfl,rfl,(fun _ z=>nomatch z)⟩
 | _,_,.cons (a:=e) (b:=ks) r t=>by
  obtain ⟨bs,e1,e2,e3⟩:=qbt t;obtain ⟨hh,v⟩:=e;obtain ⟨r1,r2⟩:=r;obtain ⟨b,_,_,_,eb,_⟩:=id r1;dsimp only at eb r1 r2;subst eb;refine ⟨(b,ks)::bs,?_,?_,fun c hc=>?_⟩
  .rw [List.map_cons,<- e1,r2]
  .rw [List.map_cons,e2]
  .rcases List.mem_cons.mp hc with rfl | hc
   .exact r1
   .exact e3 c hc
theorem qbD {P:Program}{w:World}{h:Heap}:∀ {bs:List (Addr×List Int)},(∀ b∈bs,yY h (.ref b.1) b.2)->PySem.Paired (Z2 P w h) (bs.map (fun b=>(yA P w b.2,Value.ref b.1))) (bs.map (·.2))
 | [],_=>.nil
 | b::bs,k=>.cons ⟨k b qe,rfl⟩ (qbD fun c hc=>k c (qf _ hc))
section
variable {X:Cx}{pins:List (Addr×Obj)}{σ:St}{H:Hp}{s:Shared}
theorem qiM:∀ {ns:List Int}{us:List Value},yy (ns.map V.int) us->IntsAre us ns
 | [],_,.nil=>.nil
 | n::ns,_,.cons ⟨t,e⟩ r=>by
  subst e;exact .cons n t (qiM r)
theorem Inv.tupK (I:Inv X pins σ H s) {a:Addr}{ks:List Int}(h:JA X.K H (.ref a) ks):yY s.heap (.ref a) ks:=by
 obtain ⟨⟨a',e,ha⟩,hn⟩:=h;cases e
 obtain ⟨its,r,⟨o,ho,hc,n,hd⟩,hz⟩:=I.tuple ha;exact ⟨a,o,its.toArray,n,rfl,ho,hc,hd,by simpa using qiM r,hn⟩
theorem Inv.tupsK (I:Inv X pins σ H s):∀ {us:List V}{its:List Value}{kss:List (List Int)},PySem.Paired (JA X.K H) us kss->yy us its->PySem.Paired (yY s.heap) its kss
 | _,_,_,.nil,.nil=>.nil
 | _,_,_,.cons h t,.cons r q=>by
  obtain ⟨⟨a,e,ha⟩,hn⟩:=id h;subst e;cases r
  exact .cons (I.tupK h) (Inv.tupsK I t q)
theorem Inv.setT (I:Inv X pins σ H s) {a:Addr}{bs:List (Addr×List Int)}(h:H a=some (qcw X.prog X.w a bs)) (hb:InS X.K H bs):qa5 X.prog X.w (fun v=>∃ b∈bs,v=Value.ref b.1) s.heap a (bs.map (·.2)):=by
 obtain ⟨⟨o,es,ep,t,m,ho,ex,hd,pl,ld,mo,si,ee,nd⟩,_⟩:=I.hok a _ h;refine ⟨o,es,ep,t,m,ho,ex,hd,pl,ld,mo,si,?_,nd,fun e he=>?_⟩
 .rw [ee];exact qbD fun b hbb=>I.tupK (hb b hbb)
 .rw [ee] at he;obtain ⟨b,h1,rfl⟩:=ql.mp he;exact ⟨b,h1,rfl⟩
theorem qfl {us:List V}{its:List Value}(r:yy us its) {kss:List (List Int)}(h:PySem.Paired (JA X.K H) us kss) {b:Addr}(hb:Value.ref b∈its):∃ i:Nat,us[i]?=some (V.ref b):=by
 obtain ⟨i,ei⟩:=qI hb;have hi:i<us.length:=by rw [r.length];exact (qk.mp ei).1
 obtain ⟨ks,_,⟨⟨a,e,_⟩,_⟩⟩:=L2.Paired.get h (List.getElem?_eq_getElem hi);obtain ⟨u,e1,e2⟩:=yy.get r (List.getElem?_eq_getElem hi);rw [ei] at e1;cases e1
 rw [e] at e2;have:Value.ref b=Value.ref a:=e2;cases this
 exact ⟨i,by rw [List.getElem?_eq_getElem hi,e]⟩
def rSet (X:Cx):List V->Hp->VK->Prop:=fun xs H Q=>∃ (p:Addr) (us:List V) (kss:List (List Int)),xs=[.ref p]/\SqL X.K H p us/\PySem.Paired (JA X.K H) us kss/\(∀ ms:List (List Int),ms.Nodup->(∀ q∈ms,q∈kss)->ms.length<4900) ∧
 ∀ S bs,H S=none->InS X.K H bs->(∀ b∈bs,∃ i:Nat,us[i]?=some (V.ref b.1)/\kss[i]?=some b.2)->(∀ q,q∈bs.map (·.2) ↔ q∈kss)->(bs.map (·.2)).Nodup->bs.length<4915->Q (.ref S) (upd H S (qcw X.prog X.w S bs))
theorem qeY (hc:X.calm=true) (hu:X.A.units+64<cLine):yG X (.type "set") (rSet X):=by
 intro pins s σ H xs us Q I r h;obtain ⟨p,vs,kss,rfl,hS,hT,hl,q⟩:=h;obtain ⟨u,rfl,rx⟩:=Jt r;cases rx
 obtain ⟨its,rv,pl,_⟩:=I.list hS;have hK:=I.tupsK hT rv;have hlen:=rv.length;refine qcv (I.ok.hd hc) pl.isList hK (fun ms nd hm=>yj (hl ms nd hm) (by decide)) hu fun h' tk ms S2 mem kp=>?_;obtain ⟨o,es,ep,t,m,D⟩:=S2;obtain ⟨bs,e1,e2,e3⟩:=qbt D.en;subst e2;have fr:H s.heap.objs.size=none:=I.hok.fresh (Nat.le_refl _);have own:∀ b∈bs,∃ i:Nat,vs[i]?=some (V.ref b.1):=fun b hb=>by
  refine qfl rv hT (D.own (yA X.prog X.w b.2,Value.ref b.1) ?_);rw [e1];exact ql.mpr ⟨b,hb,rfl⟩
 have inS2:∀ b∈bs,JA X.K H (.ref b.1) b.2/\∃ i:Nat,vs[i]?=some (V.ref b.1)/\kss[i]?=some b.2:=fun b hb=>by
  obtain ⟨i,ei⟩:=own b hb;obtain ⟨ks,ek,tn⟩:=L2.Paired.get hT ei;have k1:yY h' (.ref b.1) ks:=(I.tupK tn).kept fun c ob e _=>kp c ob e;have:=(k1.key (prog:=X.prog) (w:=X.w)).inj ((e3 b hb).key (prog:=X.prog) (w:=X.w));rw [<- this];exact ⟨tn,i,ei,ek⟩
 have inS:InS X.K H bs:=fun b hb=>(inS2 b hb).1;have lt:bs.length<4915:=by
  have:=D.mok.le;have z:es.toList.length=bs.length:=by rw [e1,List.length_map]
  rw [Array.length_toList] at z;omega
 refine ⟨.ref s.heap.objs.size,_,I.laid (t':=tk) kp (Nat.le_refl _) (o:=qcw X.prog X.w s.heap.objs.size bs) (qa3.ok ⟨o,es,ep,t,m,D.ho,D.ex,D.hd,D.pl,D.ld,D.mok,D.si,e1,D.nd⟩),rfl,q _ bs fr inS (fun b hb=>(inS2 b hb).2) mem D.nd lt⟩
theorem qgs {h:Heap}{vs:List Value}{kss:List (List Int)}{p:Array Nat}(hT:PySem.Paired (yY h) vs kss) (hp:Arr vs.length p) :
  PySem.Paired (yY h) (qcm vs p) (p.toList.map fun i=>kss.getD i [])/\(p.toList.map fun i=>kss.getD i []).Perm kss:=by
 have lt:∀ i∈p.toList,i<vs.length:=fun i hi=>by
  have:=(Array.Perm.mem_iff hp (a:=i)).mp (Array.mem_toList_iff.mp hi);simpa using this
 constructor
 .unfold qcm;generalize p.toList=l at lt;induction l with
  | nil=>exact .nil
  | cons i l ih=>exact .cons (jA hT i (lt i qe)) (ih fun j hj=>lt j (qf _ hj))
 .have p1:p.toList.Perm (List.range vs.length):=by
   have:=jh.mp hp;simpa using this
  refine (p1.map fun i=>kss.getD i []).trans ?_;rw [L2.Paired.len hT];refine List.Perm.of_eq ?_;apply List.ext_getElem?;intro i;simp only [List.getElem?_map,List.getElem?_range];by_cases hi:i<kss.length
  .simp [hi]
  .simp [hi]
theorem qjl {kss:List (List Int)}{n:Nat}{p:Array Nat}(hp:Arr n p) (hs:qjw (ltK kss) p n):Srt (p.toList.map fun i=>kss.getD i []):=by
 unfold Srt;rw [yh];refine qU.mpr fun i j hi hj hij=>?_;have hj':j<n:=by
  have:=hp.size;simp at hj;omega
 have:=hs i j (qP hij) hj';unfold ltK at this;have:=of_decide_eq_false this;have e1:gD p i=p.toList[i]:=by simp at hi;simp [gD,hi]
 have e2:gD p j=p.toList[j]:=by simp at hj;simp [gD,hj]
 rw [e1,e2] at this;exact this
def qjq (H:Hp) (Pv:V->List Int->Prop) (kss:List (List Int)) (Q:VK):Prop:=∀ D vs ms,H D=none->PySem.Paired Pv vs ms->ms.Perm kss->Srt ms->Q (.ref D) (upd H D (.lst vs))
theorem Y4 {Q:VK}{x:Value}{Pv:V->List Int->Prop}{kss:List (List Int)}(I:Inv X pins σ H s) (q:qjq H Pv kss Q) {R:List Value->List (List Int)->Prop}
  (hR:∀ vs ms,R vs ms->(∀ v∈vs,∃ b ks,v=Value.ref b/\JA X.K H (.ref b) ks/\Pv (.ref b) ks)/\ms.Perm kss) (hcol:∀ E',wpAny (model X.prog X.w) X.A.in1 (collect x) (qjs s R) E' s):wpAny (model X.prog X.w) X.A (call (.builtin "sorted") [x]) (EP X pins σ Q) X.xe s:=by
 refine qdf hcol fun vs ms p h' tk D e hr hp hs hT hz kp hD he=>?_;obtain ⟨r1,r2⟩:=hR vs ms hr;obtain ⟨a1,a2⟩:=qgs hT hp;have hV:∀ l:List Value,(∀ v∈l,∃ b ks,v=Value.ref b/\JA X.K H (.ref b) ks/\Pv (.ref b) ks)->∃ ws:List V,yy ws l/\∀ ks,PySem.Paired (yY h') l ks->PySem.Paired Pv ws ks:=by
  intro l;induction l with
  | nil=>exact fun _=>⟨[],.nil,fun ks z=>(by cases z;exact .nil)⟩
  | cons v l ih =>
   intro hl;obtain ⟨ws,w1,w3⟩:=ih fun u hu=>hl u (qf _ hu);obtain ⟨b,ks,rfl,tn,pv⟩:=hl v qe;refine ⟨.ref b::ws,.cons rfl w1,fun ks' z=>?_⟩;cases z with
    | cons z1 z2 =>
     refine .cons ?_ (w3 _ z2);have k1:yY h' (.ref b) ks:=(I.tupK tn).kept fun c ob e _=>kp c ob e;have:=(k1.key (prog:=X.prog) (w:=X.w)).inj (z1.key (prog:=X.prog) (w:=X.w));rw [<- this];exact pv
 obtain ⟨ws,w1,w3⟩:=hV (qcm vs p) fun v hv=>by
  obtain ⟨i,hi,rfl⟩:=ql.mp hv;have hlt:i<vs.length:=by
   have:=(Array.Perm.mem_iff hp (a:=i)).mp (Array.mem_toList_iff.mp hi);simpa using this
  rw [List.getD_eq_getElem?_getD,List.getElem?_eq_getElem hlt];exact r1 _ (qy hlt)
 have hwl:ws.length<=sizeLine:=by
  rw [w1.length,ZX hp,sizeLine_eq];omega
 obtain ⟨hn,J⟩:=I.laidN (t':=tk) (o:=.lst ws) kp hD ⟨hwl,qcm vs p,e,w1,he⟩;exact ⟨.ref D,_,J,rfl,q D ws _ hn (w3 _ a1) (a2.trans r2) (qjl hp hs)⟩
def qj9 (X:Cx):List V->Hp->VK->Prop:=fun xs H Q=>∃ (p:Addr) (us:List V) (kss:List (List Int)),xs=[.ref p]/\SqL X.K H p us/\PySem.Paired (JA X.K H) us kss/\us.length<64/\qjq H (fun v ks=>∃ i:Nat,us[i]?=some v/\kss[i]?=some ks) kss Q
theorem qcP:yG X (.builtin "sorted") (qj9 X):=by
 intro pins s σ H xs us Q I r h;obtain ⟨p,vs,kss,rfl,hS,hT,hl,q⟩:=h;obtain ⟨u,rfl,rx⟩:=Jt r;cases rx
 obtain ⟨its,rv,pl,_⟩:=I.list hS;have hlen:=rv.length;refine Y4 I q (R:=fun us ms=>us=its/\ms=kss) ?_ fun E'=>qcI pl.isList (I.tupsK hT rv) (by omega) E';rintro _ _ ⟨rfl,rfl⟩;refine ⟨fun v hv=>?_,List.Perm.refl _⟩;obtain ⟨i,ei⟩:=qI hv;have hi:i<vs.length:=by rw [hlen];exact (qk.mp ei).1
 obtain ⟨ks,ek,tn⟩:=L2.Paired.get hT (List.getElem?_eq_getElem hi);obtain ⟨⟨a,e,_⟩,_⟩:=id tn;obtain ⟨u,e1,e2⟩:=yy.get rv (List.getElem?_eq_getElem hi);rw [ei] at e1;cases e1
 rw [e] at e2 tn;exact ⟨a,ks,e2,tn,i,by rw [<- e];exact List.getElem?_eq_getElem hi,ek⟩
def qj7 (X:Cx):List V->Hp->VK->Prop:=fun xs H Q=>∃ (S:Addr) (bs:List (Addr×List Int)),xs=[.ref S]/\H S=some (qcw X.prog X.w S bs)/\InS X.K H bs/\bs.length<64/\qjq H (fun v ks=>∃ b∈bs,v=V.ref b.1/\ks=b.2) (bs.map (·.2)) Q
theorem qcN (hc:X.calm=true):yG X (.builtin "sorted") (qj7 X):=by
 intro pins s σ H xs us Q I r h;obtain ⟨S,bs,rfl,hS,hI,hl,q⟩:=h;obtain ⟨u,rfl,rx⟩:=Jt r;cases rx
 obtain ⟨o,es,ep,t,m,D⟩:=I.setT hS hI;have hz:=D.len;rw [List.length_map] at hz;refine Y4 I q (R:=fun us ms=>(∀ v∈us,∃ b∈bs,v=Value.ref b.1)/\(bs.map (·.2)).Perm ms) ?_ fun E'=>YM (by show X.A.handled=none;exact I.ok.hd hc) D.toB (by omega) fun h' tk kp=>?_
 .rintro us ms ⟨h1,h2⟩;refine ⟨fun v hv=>?_,h2.symm⟩;obtain ⟨b,hb,rfl⟩:=h1 v hv;exact ⟨b.1,b.2,rfl,hI b hb,b,hb,rfl,rfl⟩
 .obtain ⟨ms,m1,m2⟩:=Jv (JD X.w S ep es).symm D.en;refine ⟨h',tk,ms,rfl,kp,?_,?_,?_,m2⟩
  .have:∀ {l:List (Int×Value)}{ks:List (List Int)},PySem.Paired (Z2 X.prog X.w s.heap) l ks->PySem.Paired (yY h') (l.map (·.2)) ks:=by
    intro l ks z;induction z with
    | nil=>exact .nil
    | cons r _ ih=>exact .cons (r.1.kept fun b o e _=>kp b o e) ih
   exact this m1
  .rw [List.length_map,Array.length_toList,jR];omega
  .intro v hv;obtain ⟨e,he,rfl⟩:=ql.mp hv;exact D.own e ((JD X.w S ep es).mem_iff.mp he)
def jQ (ks:List Int):PyData:=.tuple (ks.map PyData.int)
variable {K:W.Frag}
theorem IsAll.tups {H:Hp}:∀ {us:List V}{kss:List (List Int)},IsAll K H us (kss.map jQ)->(∀ k∈kss,k≠[])->PySem.Paired (JA K H) us kss
 | _,[],.nil,_=>.nil
 | _,k::kss,.cons h t,hn=>by
  refine .cons ?_ (IsAll.tups t fun z hz=>hn z (qf _ hz));unfold jQ at h;cases h with
  | @tup a xs _ h1 h2 =>
   rw [h2.ints_of] at h1;exact ⟨⟨a,rfl,h1⟩,hn _ qe⟩
theorem JA.is {H:Hp}{v:V}{ks:List Int}(h:JA K H v ks):Is K H v (jQ ks):=by
 obtain ⟨⟨a,rfl,h1⟩,_⟩:=h;exact .tup h1 (IsAll.ints ks)
theorem JA.up {U:Mu}{H:Hp}{v:V}{ks:List Int}(h:JA K (mask U H) v ks):JA K H v ks:=h.same yt
def qfq (P:Program) (w:World) (K:W.Frag) (ms:List (List Int)):Stb where
 R v H:=∃ S bs,v = .ref S/\H S=some (qcw P w S bs)/\InS K H bs/\bs.map (·.2)=ms/\ms.Nodup/\ms.length<4915
 st:=fun v H H' s ⟨S,bs,e,h1,h2,h3,h4,h5⟩=>⟨S,bs,e,s _ _ h1,h2.same s,h3,h4,h5⟩
def qdI (P:Program) (w:World) (K:W.Frag):RAd:=fun es U Q=>match es with
 | [e]=>∃ kss:List (List Int),LstOf U e (kss.map jQ)/\(∀ k∈kss,k≠[])/\(∀ ms:List (List Int),ms.Nodup->(∀ q∈ms,q∈kss)->ms.length<4900)/\∀ ms,(∀ q,q∈ms ↔ q∈kss)->ms.Nodup->ms.length<4915->Q (.x (qfq P w K ms)) U
 | _=>False
theorem qi2 {P:Program}{w:World}(hc:X.calm=true) (hu:X.A.units+64<cLine) (hK:X.K=K:=by rfl) (hP:X.prog=P:=by rfl) (hw:X.w=w:=by rfl):yG X (.type "set") (upC K (qdI P w K)):=by
 subst hK hP hw;refine (qeY hc hu).mono fun xs H Q h=>?_;obtain ⟨U,es,Q0,M,hp,q,cl⟩:=h;unfold qdI at q;split at q
 .obtain ⟨v,rfl,i1⟩:=j5 hp;obtain ⟨kss,h1,hne,h64,q⟩:=q;obtain ⟨p,ys,rfl,h2,h3⟩:=h1.get M i1;have hT:=IsAll.tups h3 hne;refine ⟨p,ys,kss,rfl,h2,jm hT (fun x _ y h=>h.up),h64,fun S bs hS _ ix mem nd lt=>?_⟩;obtain ⟨M4,s4,hn⟩:=M.laid (o:=qcw X.prog X.w S bs) hS;refine cl _ U _ _ (q (bs.map (·.2)) mem nd (by rw [List.length_map];exact lt)) M4 s4 ⟨S,bs,rfl,?_,fun b hb=>?_,rfl,nd,by rw [List.length_map];exact lt⟩
  .rw [qX hn];exact qE
  .obtain ⟨i,e1,e2⟩:=ix b hb;obtain ⟨ks,e3,tn⟩:=L2.Paired.get hT e1;rw [e2] at e3;cases e3
   exact tn.same s4
 .exact q.elim
def qjX (P:Program) (w:World) (K:W.Frag):RAd:=fun es U Q=>match es with
 | [e]=>∃ kss:List (List Int),LstOf U e (kss.map jQ)/\(∀ k∈kss,k≠[])/\kss.length<4900/\∀ ms,(∀ q,q∈ms ↔ q∈kss)->ms.Nodup->ms.length<4915->Q (.x (qfq P w K ms)) U
 | _=>False
theorem qhc {P:Program}{w:World}(hc:X.calm=true) (hu:X.A.units+64<cLine) (hK:X.K=K:=by rfl) (hP:X.prog=P:=by rfl) (hw:X.w=w:=by rfl):yG X (.type "set") (upC K (qjX P w K)):=by
 refine (qi2 hc hu hK hP hw).mono fun xs H Q h=>?_;obtain ⟨U,es,Q0,M,hp,q,cl⟩:=h;refine ⟨U,es,Q0,M,hp,?_,cl⟩;unfold qjX at q;unfold qdI;split at q
 .obtain ⟨kss,h1,hne,h64,q⟩:=q;exact ⟨kss,h1,hne,fun ms nd hm=>yr (Zb nd hm) h64,q⟩
 .exact q
def qhY (P:Program) (w:World) (K:W.Frag):RAd:=fun es U Q=>∃ ms,es=[.x (qfq P w K ms)]/\ms.length<64/\∀ ks,ks.Perm ms->Srt ks->Q (.d (.list (ks.map jQ))) U
theorem ZC {Pv:V->List Int->Prop}{H:Hp}:∀ {vs:List V}{ms:List (List Int)},PySem.Paired Pv vs ms->(∀ v k,Pv v k->Is K H v (jQ k))->IsAll K H vs (ms.map jQ)
 | _,_,.nil,_=>.nil
 | _,_,.cons h t,f=>.cons (f _ _ h) (ZC t f)
theorem ZT {P:Program}{w:World}(hc:X.calm=true) (hK:X.K=K:=by rfl) (hP:X.prog=P:=by rfl) (hw:X.w=w:=by rfl):yG X (.builtin "sorted") (upC K (qhY P w K)):=by
 subst hK hP hw;refine (qcN hc).mono fun xs H Q h=>?_;obtain ⟨U,es,Q0,M,hp,q,cl⟩:=h;obtain ⟨ms,rfl,h64,q⟩:=q;obtain ⟨v,rfl,i1⟩:=j5 hp;obtain ⟨S,bs,rfl,h1,h2,rfl,h4,h5⟩:=i1;rw [List.length_map] at h64;refine ⟨S,bs,rfl,yt _ _ h1,fun b hb=>(h2 b hb).up,h64,fun D vs ks hD hP hp hs=>?_⟩;obtain ⟨M4,s4,hn⟩:=M.laid (o:=.lst vs) hD;refine cl _ U _ _ (q ks hp hs) M4 s4 (.lst (SqL.of (by rw [qX hn];exact qE)) (ZC hP fun v k hv=>?_));obtain ⟨b,hb,rfl,rfl⟩:=hv;exact ((h2 b hb).same s4).is
def qdH:RAd:=fun es U Q=>match es with
 | [e]=>∃ kss:List (List Int),LstOf U e (kss.map jQ)/\(∀ k∈kss,k≠[])/\kss.length<64/\∀ ks,ks.Perm kss->Srt ks->Q (.d (.list (ks.map jQ))) U
 | _=>False
theorem qgi (hK:X.K=K:=by rfl):yG X (.builtin "sorted") (upC K qdH):=by
 subst hK;refine qcP.mono fun xs H Q h=>?_;obtain ⟨U,es,Q0,M,hp,q,cl⟩:=h;unfold qdH at q;split at q
 .obtain ⟨v,rfl,i1⟩:=j5 hp;obtain ⟨kss,h1,hne,h64,q⟩:=q;obtain ⟨p,ys,rfl,h2,h3⟩:=h1.get M i1;have hT:=IsAll.tups h3 hne;refine ⟨p,ys,kss,rfl,h2,jm hT (fun x _ y h=>h.up),by rw [h3.len,List.length_map];exact h64,fun D vs ks hD hP hp hs=>?_⟩;obtain ⟨M4,s4,hn⟩:=M.laid (o:=.lst vs) hD;refine cl _ U _ _ (q ks hp hs) M4 s4 (.lst (SqL.of (by rw [qX hn];exact qE)) (ZC hP fun v k hv=>?_));obtain ⟨i,e1,e2⟩:=hv;obtain ⟨ks,e3,tn⟩:=L2.Paired.get hT e1;rw [e2] at e3;cases e3
  exact (tn.same s4).is
 .exact q.elim
end
open PySem PySem.Spec PyProof.Rows
theorem Room.u66 {k:Nat}{A:Around}(r:Room k A):A.units+66<cLine:=by have:=r.un;omega
section
variable {X:Cx}{K:W.Frag}
end
section
variable {X:Cx}{pins:List (Addr×Obj)}{σ:St}{H:Hp}{s:Shared}
theorem Inv.turnedL {fp:List Addr}{a:Addr}{o:HO}{h':Heap}{t':Nat}(I:Inv X pins σ H s) (hf:∀ b∈fp,Jl X pins H b) (k:∀ b u,b∉fp->s.heap.get? b=some u->h'.get? b=some u)
  (hp:s.heap.objs.size<=a) (new:ja X.prog X.w (upd H a o) h' a o):Inv X pins σ (upd H a o) { s with heap:=h',toks:=t' }:=by
 have hn:H a=none:=I.hok.fresh hp;have ha:∀ b u,s.heap.get? b=some u->b≠a:=fun b u e z=>absurd (qu (qi e) hp) (by rw [z];exact ye _);have nfp:∀ b u,H b=some u->b∉fp:=fun b u e z=>by
  have:=(hf b z).1;rw [this] at e;cases e
 refine I.step (g':=s.gens) (d':=s.drawn) (ch:=fp) (fun b hb=>?_) (fun b u _ _ hc e _=>k b u hc e) (fun b u _ _ hc e _=>⟨u.slots,k b u hc e⟩) (fun b u _ e n=>by rw [qC (ha b u e)];exact n)
  (fun b u hc e=>⟨u,k b u hc e⟩) (fun b xs e=>by rw [qC (qt e hn)];exact e) (fun b u v e=>by rw [qC (qt e hn)];exact e) (fun b ps e=>⟨#[],by rw [qC (qt e hn),e];simp⟩) (fun m hm=>?_) (fun b u e=>?_) I.bare
 .obtain ⟨_,f1,_,f3,f4,f5⟩:=hf b hb;exact ⟨f3,f1,f4,f5⟩
 .obtain ⟨u,es,ep,ho,r⟩:=hm;exact ⟨u,es,ep,k _ u (fun z=>(hf _ z).2.1 rfl) ho,r⟩
 .by_cases hb:b=a
  .subst hb;rw [qE] at e;cases e;exact new
  .rw [qC hb] at e;refine (I.hok b u e).stay (fun c v hc q=>k c v ?_ q) (fun c q=>by rw [qC (qt q hn)];exact q) fun c xs q=>by rw [qC (qt q hn)];exact q
   rcases hc with z | z
   .rw [z];exact nfp b u e
   .exact nfp c _ z
theorem Inv.turnedF {fp:List Addr}{h':Heap}{t':Nat}(I:Inv X pins σ H s) (hf:∀ b∈fp,Jl X pins H b) (k:∀ b u,b∉fp->s.heap.get? b=some u->h'.get? b=some u):Inv X pins σ H { s with heap:=h',toks:=t' }:=by
 have nfp:∀ b u,H b=some u->b∉fp:=fun b u e z=>by
  have:=(hf b z).1;rw [this] at e;cases e
 refine I.step (g':=s.gens) (d':=s.drawn) (ch:=fp) (fun b hb=>?_) (fun b u _ _ hc e _=>k b u hc e) (fun b u _ _ hc e _=>⟨u.slots,k b u hc e⟩) (fun b u _ e n=>n)
  (fun b u hc e=>⟨u,k b u hc e⟩) (fun b xs e=>e) (fun b u v e=>e) (fun b ps e=>⟨#[],by rw [e];simp⟩) (fun m hm=>?_) (fun b u e=>?_) I.bare
 .obtain ⟨_,f1,_,f3,f4,f5⟩:=hf b hb;exact ⟨f3,f1,f4,f5⟩
 .obtain ⟨u,es,ep,ho,r⟩:=hm;exact ⟨u,es,ep,k _ u (fun z=>(hf _ z).2.1 rfl) ho,r⟩
 .refine (I.hok b u e).stay (fun c v hc q=>k c v ?_ q) (fun _ q=>q) fun _ _ q=>q;rcases hc with z | z
  .rw [z];exact nfp b u e
  .exact nfp c _ z
end
def Ite (K:W.Frag) (a:Addr):It :=
 ⟨fun i H=>∃ xs x,SqL K H a xs/\xs[i]?=some x,fun i H v H'=>∃ t x,H t=none/\v = .ref t/\H'=upd H t (.tup [.int i,x])/\∀ xs,SqL K H a xs->xs[i]?=some x,fun i H=>∃ xs,SqL K H a xs/\xs.length<=i⟩
theorem qc6 {P:Program}{w:World}{K:W.Frag}{elts:List Expr}{x1} {pos:Pos}(a e it:Addr) (hne:e≠it):Turn P w K (.Tuple elts x1 pos) (Ite K a) [e,it] e (fun i h=>(∃ old,IsEnum h e it ((i:Nat):Int) old)/\h.IsListIter it a i) where
 mem:=by simp
 obj:=fun i h st b hb=>by
  obtain ⟨⟨old,he⟩,o,ho,_,hd⟩:=st;rcases List.mem_cons.mp hb with rfl | hb
  .exact ⟨_,he,fun v z=>by cases z⟩
  .have:b=it:=by simpa using hb
   subst this;exact ⟨o,ho,fun v z=>by rw [hd] at z;cases z⟩
 keep:=fun i h h' st k=>by
  obtain ⟨⟨old,he⟩,hi⟩:=st;exact ⟨⟨old,k e (by simp) _ he⟩,hi.at fun o q=>k it (by simp) o q⟩
 item:=by
  intro X hP hw hK hc i pins s σ H E I hf st hg;subst hP hw hK;obtain ⟨⟨old,he⟩,hi⟩:=st;obtain ⟨xs,x,hq,hx⟩:=hg;obtain ⟨its,rv,p,hz⟩:=I.list hq;obtain ⟨u,hu,ru⟩:=rv.get hx;have hes:e<s.heap.objs.size:=qi he;refine wpAny_pyNext_enum_item he hi p.isList (x:=u) (by simpa using hu) hne fun h' heo hi' ht hsz hk=>⟨_,rfl,wpAny_letOwnedTupleGo_enum heo fun h2 he2 hs2=>?_⟩;have hs2:Heap.SameBut e h' h2:=hs2;have fr:H s.heap.objs.size=none:=I.hok.fresh (Nat.le_refl _);have keep:∀ b o,b∉[e,it]->s.heap.get? b=some o->h2.get? b=some o:=fun b o hb q=>by
   simp only [List.mem_cons,List.mem_nil_iff,or_false,not_or] at hb;exact hs2.extBut b o hb.1 (hk b o hb.1 hb.2 q)
  have ht2:h2.get? s.heap.objs.size=some { cls:=.type "tuple",data:=.seq #[.int i s.toks,u] }:=(hs2.2 _ (yi hes)).trans ht;have I2:Inv X pins σ (upd H s.heap.objs.size (.tup [.int i,x])) { s with heap:=h2,toks:=s.toks+1 }:=I.turnedL hf keep (Nat.le_refl _) ⟨sz2,[.int i s.toks,u],.cons ⟨_,rfl⟩ (.cons ru .nil),⟨_,ht2,rfl,_,rfl⟩⟩;refine ⟨.ref s.heap.objs.size,_,I2,rfl,⟨_,x,fr,rfl,rfl,fun ys hy=>by rw [I.list_inj hy hq];exact hx⟩,⟨⟨u,?_⟩,?_⟩,fun b hb=>?_⟩
  .have:((i+1:Nat):Int)=(i:Int)+1:=by omega
   rw [this];exact he2
  .exact hi'.extBut hs2.extBut (Ne.symm hne)
  .have hb':=(hf b hb).1;have:b≠s.heap.objs.size:=by
    rcases List.mem_cons.mp hb with rfl | hb
    .exact qg hes
    .have:b=it:=by simpa using hb
     subst this;obtain ⟨o,ho,_⟩:=hi;exact qg (qi ho)
   rw [qC this];exact hb'
 done:=by
  intro X hP hw hK hc i pins s σ H E I hf st hg;subst hP hw hK;obtain ⟨⟨old,he⟩,hi⟩:=st;obtain ⟨xs,hq,hx⟩:=hg;obtain ⟨its,rv,p,hz⟩:=I.list hq;have hl:=rv.length;refine wpAny_pyNext_enum_end (I.ok.hd hc) he hi p.isList (by simp;omega) fun h' eb=>⟨rfl,?_⟩;exact I.turnedF (t':=s.toks) hf fun b o hb q=>eb b o (fun z=>hb (by simp [z])) q
 self:=fun _ _ _ _ _ st h=>wpAny_pyIter_enum (Classical.choose_spec st.1) h
def iEnum (K:W.Frag) (ta:TA):TI:=fun σ H R=>ta σ H fun vs H1=>∃ a,vs=[.ref a]/\(∃ xs,SqL K H1 a xs)/\R (Ite K a) H1
section
variable {X:Cx}{K:W.Frag}
theorem qid {l:Expr}{ta:TA}{elts:List Expr}{x1} {tpos p pos:Pos}(hg:Gl X "enumerate") (hm:X.mg "enumerate" = none) (ha:PA X [l] ta) (hs:starEach [l] X.env=[(false,eval l X.env)]:=by rfl) :
  PI X (.Tuple elts x1 tpos) (.Call (.Name "enumerate" p) [l] [] pos) (iEnum X.K ta):=by
 intro pins s σ H R I h;refine Call_ (JE I hg hm boot_enumerate (PyProof.Rows.callWith_type1 (thn (ha pos pins s σ H _ I h) fun us s1 ⟨vs,H1,I1,r1,q1⟩=>?_) hs rfl));obtain ⟨a,e,⟨xs,hq⟩,q⟩:=q1;subst e;obtain ⟨u,rfl,rx⟩:=Jt r1;cases rx
 obtain ⟨its,rv,pl,hz⟩:=I1.list hq;refine call_enumerate_list pl.isList fun h' he hi hsz hk=>?_;have I2:Inv X pins σ H1 { s1 with heap:=h' }:=I1.kept (t':=s1.toks) hk;refine wpAny_pyIter_enum he ?_;refine ⟨s1.heap.objs.size+1,[s1.heap.objs.size+1,s1.heap.objs.size],_,_,H1,rfl,I2,qc6 a _ _ (yi (qZ _)),⟨⟨_,he⟩,hi⟩,fun b hb=>?_,q⟩;have hb':s1.heap.objs.size<=b:=by
  rcases List.mem_cons.mp hb with z | z
  .rw [z];exact Nat.le_succ _
  .have:b=s1.heap.objs.size:=by simpa using z
   rw [this];exact Nat.le_refl _
 exact I1.fpOk hb' (I1.hok.fresh hb')
def itE (e:En) (ds:List PyData):Itd:=⟨ds.length,fun i=>.d (.tuple [.int (i:Int),ds.getD i .none]),fun U=>LstOf U e ds⟩
def diE (ta:TAd):TId:=fun ρ U Q=>ta ρ U fun es U1=>match es with
 | [e]=>∃ ds,LstOf U1 e ds/\Q (itE e ds) U1
 | _=>False
theorem qiZ {l:Expr}{ta:TAd}{elts:List Expr}{x1} {tpos p pos:Pos}(hg:Gl X "enumerate") (hm:X.mg "enumerate" = none) (ha:DA K X [l] ta) (hK:X.K=K:=by rfl) (hs:starEach [l] X.env=[(false,eval l X.env)]:=by rfl) :
  DI K X (.Tuple elts x1 tpos) (.Call (.Name "enumerate" p) [l] [] pos) (diE ta):=by
 subst hK;refine PI.mono (qid hg hm ha hs) fun σ H R hq9=>?_;obtain ⟨ρ,U,Q0,hS,hM,h,cl⟩:=hq9;refine ⟨ρ,U,_,hS,hM,h,fun es U1 vs H1 q M1 s1 i1=>?_⟩;split at q
 .rename_i e
  obtain ⟨v,rfl,h1⟩:=j5 i1;obtain ⟨ds,hL,q⟩:=q;obtain ⟨p,xs,rfl,a1,a2⟩:=hL.get M1 h1;refine ⟨p,rfl,⟨xs,a1⟩,cl _ U1 _ H1 q M1 s1 fun U' H' M' s' hok i=>?_⟩;obtain ⟨p',xs',e',h3,h4⟩:=LstOf.get hok M' (h1.same s');cases e'
  have hl:=h4.len;refine ⟨fun hi=>⟨⟨xs',xs'[i]'(by rw [hl];exact hi),h3,by simp⟩,?_⟩,fun hi=>⟨xs',h3,by rw [hl];exact hi⟩⟩;rintro x H2 ⟨t,y,ht,rfl,rfl,hx⟩;obtain ⟨M2,s2,hn⟩:=M'.laid (o:=.tup [.int i,y]) ht;obtain ⟨d,e1,e2⟩:=h4.get (hx xs' h3);refine ⟨M2,s2,?_⟩;show Is X.K (mask U' (upd H' t (.tup [.int i,y]))) (.ref t) (.tuple [.int i,ds.getD i .none]);rw [jw e1];exact .tup (SqT.of (by rw [qX hn];exact qE)) (.cons (.int _) (.cons (Is.same s2 e2) .nil))
 .exact q.elim
end
section
variable {prog:Program}{w:World}{A:Around}{R:Result->Shared->Prop}{s:Shared}
abbrev two (elt t1 i1 t2 i2:Expr) (f1 f2:List Expr) (scope:Scope) (pos:Pos):Expr:=.ListComp elt [⟨t1,i1,f1,0⟩,⟨t2,i2,f2,0⟩] scope pos
theorem JZ {elt t1 i1 t2 i2:Expr}{f1 f2:List Expr}{scope:Scope}{pos:Pos}{it acc:Value}{env:Env}
  (h0:codeAny (model prog w) A (.compLoop (two elt t1 i1 t2 i2 f1 f2 scope pos) 1 it acc env) R s)
  (h:wpAny (model prog w) A (pyIter it) (fun it' s'=>codeAny (model prog w) A (.compLoop (two elt t1 i1 t2 i2 f1 f2 scope pos) 1 it' acc env) R s') (notedBy (model prog w) A env fun x s'=>R (Except.error x) s') s) :
  codeAny (model prog w) A (.compStart (two elt t1 i1 t2 i2 f1 f2 scope pos) 1 it acc env) R s:=by
 refine codeAny_of_tree ?_;refine wpAny_notedAt ?_;refine qa (jO (wpAny_ite ?_));split
 .exact qa (qc (qc ⟨rfl,h0⟩))
 .exact qa (yV (qa (yS (qa (qp h (fun it' s' h'=>qc ⟨rfl,h'⟩) fun _ _ z=>z)))))
theorem qiB {elt t1 i1 t2 i2:Expr}{f1 f2:List Expr}{scope:Scope}{pos:Pos}{it acc:Value}{env:Env}(I:Nat->Shared->Prop)
  (turn:∀ n s,I n s->wpAny (model prog w) A (pyNext it) (fun r sa1=>match r with
   | none=>R (.ok .next) sa1
   | some v=>wpAny (model prog w) A (letOwnedTupleGo t2 it v) (fun _ sa1'=>wpAny (model prog w) A (assign t2 env v) (fun _ sa2 =>
     wpAny (model prog w) A (forIn f2 true fun c r=>if r=true then do let ok <- isTrue c env (eval c env);pure (ForInStep.yield ok) else pure (ForInStep.yield r)) (fun ok sa3 =>
      if ok=true then wpAny (model prog w) A (eval elt env) (fun x sa4 =>
       wpAny (model prog w) A (call (.builtin "list.append") [acc,x]) (fun _ sa5=>∃ m,m<n/\I m sa5) (fun _ _=>False) sa4) (fun _ _=>False) sa3
      else ∃ m,m<n/\I m sa3) (fun _ _=>False) sa2) (fun _ _=>False) sa1') (fun _ _=>False) sa1) (fun _ _=>False) s)
  (n:Nat) (h:I n s):codeAny (model prog w) A (.compLoop (two elt t1 i1 t2 i2 f1 f2 scope pos) 1 it acc env) R s:=by
 refine codeAny_loop rfl I (fun n s hI=>?_) n h;show wpAny _ A ((compTurn (two elt t1 i1 t2 i2 f1 f2 scope pos) 1 it acc env).onRaise (fun x=>do noteFrame x env;theTreesLotGoes x)) _ _ s;refine wpAny_noted ?_;show wpAny _ A (do
  standAt i2.pos
  let o <- pyNext it
  match o with
   | none=>pure (Fin.done Flow.next)
   | some v=>do
    letOwnedTupleGo t2 it v
    assign t2 env v
    let ok <- forIn f2 true fun c r=>if r=true then do let ok <- isTrue c env (eval c env);pure (ForInStep.yield ok) else pure (ForInStep.yield r)
    if ok=true then do
      let _ <- (do let x <- eval elt env;let _ <- call (.builtin "list.append") [acc,x];pure ())
      again (.compLoop (two elt t1 i1 t2 i2 f1 f2 scope pos) 1 it acc env)
     else again (.compLoop (two elt t1 i1 t2 i2 f1 f2 scope pos) 1 it acc env)) _ _ s
 refine qa (yS (qa (qp (turn n s hI) (fun r sa1 hd1=>?_) fun _ _ h'=>h'.elim)));cases r with
 | none=>exact qc hd1
 | some v =>
  refine qa (qp hd1 (fun _ sa1' ha1'=>?_) fun _ _ h'=>h'.elim);refine qa (qp ha1' (fun _ sa2 ha2=>qa (qp ha2 (fun ok sa3 ha3=>?_) fun _ _ h'=>h'.elim)) fun _ _ h'=>h'.elim);cases ok with
  | false=>exact qc ⟨rfl,ha3⟩
  | true =>
   exact qa (qa (qp ha3 (fun x sa4 ha4=>qa (qp ha4 (fun _ sa5 ha5=>qc (qc ⟨rfl,ha5⟩)) fun _ _ h'=>h'.elim)) fun _ _ h'=>h'.elim))
theorem qfZ {elt t1 i1 t2 i2:Expr}{f1 f2:List Expr}{scope:Scope}{pos:Pos}{it acc:Value}{env:Env}(hs:∀ x,foldedSetIterable i2 env x=pure x) (I:Nat->Shared->Prop)
  (turn:∀ n s,I n s->wpAny (model prog w) A (pyNext it) (fun r sa1=>match r with
   | none=>R (.ok .next) sa1
   | some v=>wpAny (model prog w) A (letOwnedTupleGo t1 it v) (fun _ sa1'=>wpAny (model prog w) A (assign t1 env v) (fun _ sa2 =>
     wpAny (model prog w) A (forIn f1 true fun c r=>if r=true then do let ok <- isTrue c env (eval c env);pure (ForInStep.yield ok) else pure (ForInStep.yield r)) (fun ok sa3 =>
      if ok=true then wpAny (model prog w) A (eval i2 env) (fun x sa4 =>
       wpAny (model prog w) A (pyIter x) (fun it2 sa5=>codeAny (model prog w) A (.compStart (two elt t1 i1 t2 i2 f1 f2 scope pos) 1 it2 acc env) (fun r sa6=>r = .ok .next/\∃ m,m<n/\I m sa6) sa5) (fun _ _=>False) sa4) (fun _ _=>False) sa3
      else ∃ m,m<n/\I m sa3) (fun _ _=>False) sa2) (fun _ _=>False) sa1') (fun _ _=>False) sa1) (fun _ _=>False) s)
  (n:Nat) (h:I n s):codeAny (model prog w) A (.compLoop (two elt t1 i1 t2 i2 f1 f2 scope pos) 0 it acc env) R s:=by
 refine codeAny_loop rfl I (fun n s hI=>?_) n h;show wpAny _ A ((compTurn (two elt t1 i1 t2 i2 f1 f2 scope pos) 0 it acc env).onRaise (fun x=>do noteFrame x env;theTreesLotGoes x)) _ _ s;refine wpAny_noted ?_;show wpAny _ A (do
  standAt i1.pos
  let o <- pyNext it
  match o with
   | none=>pure (Fin.done Flow.next)
   | some v=>do
    letOwnedTupleGo t1 it v
    assign t1 env v
    let ok <- forIn f1 true fun c r=>if r=true then do let ok <- isTrue c env (eval c env);pure (ForInStep.yield ok) else pure (ForInStep.yield r)
    if ok=true then do
      let x <- eval i2 env
      standAt i2.pos
      let x <- foldedSetIterable i2 env x
      let it2 <- holding [x] (pyIter x)
      let _ <- runOwn (.compStart (two elt t1 i1 t2 i2 f1 f2 scope pos) 1 it2 acc env) env
      again (.compLoop (two elt t1 i1 t2 i2 f1 f2 scope pos) 0 it acc env)
     else again (.compLoop (two elt t1 i1 t2 i2 f1 f2 scope pos) 0 it acc env)) _ _ s
 refine qa (yS (qa (qp (turn n s hI) (fun r sa1 hd1=>?_) fun _ _ h'=>h'.elim)));cases r with
 | none=>exact qc hd1
 | some v =>
  refine qa (qp hd1 (fun _ sa1' ha1'=>?_) fun _ _ h'=>h'.elim);refine qa (qp ha1' (fun _ sa2 ha2=>qa (qp ha2 (fun ok sa3 ha3=>?_) fun _ _ h'=>h'.elim)) fun _ _ h'=>h'.elim);cases ok with
  | false=>exact qc ⟨rfl,ha3⟩
  | true =>
   refine qa (qp ha3 (fun x sa4 ha4=>qa (yS ?_)) fun _ _ h'=>h'.elim);rw [hs];refine qa (qc (qa (qH (qp ha4 (fun it2 sa5 ha5=>?_) fun _ _ h'=>h'.elim))));refine qa (wpAny_runOwn (h:=none) (codeAny_mono ha5 fun r sa6 ⟨e,ha6⟩=>?_));subst e;exact qc ⟨rfl,ha6⟩
end
def qc9 (k:Nat) (g:TG) (tt:TT) (wi2:TI) (g2:TG) (tt2:TT) (te:TE) (σ:St) (Q:VK) (J:It) (H1:Hp):Prop:=∃ W:Nat->Nat->List V->St->Hp->Prop,(∃ m,W 0 m [] (σ++List.replicate k none) H1)/\∀ i m ys σ' H,W i m ys σ' H →
 (J.stop i H/\∀ D,H D=none->Q (.ref D) (upd H D (.lst ys))) ∨
 (J.go i H/\∃ N:List V->St->Hp->Prop,(∀ ys' σ' H',N ys' σ' H'->∃ m',m'<m/\W (i+1) m' ys' σ' H') ∧
  ∀ x H',J.yld i H x H'->g x σ' H' fun σ2 H2=>tt σ2 H2 fun b H3=>if b=true then wi2 σ2 H3 fun J2 H4 =>
   ∃ W2:Nat->Nat->List V->St->Hp->Prop,(∃ m,W2 0 m ys σ2 H4)/\∀ i m ys σ' H,W2 i m ys σ' H →
    (J2.stop i H/\N ys σ' H) ∨
    (J2.go i H/\ys.length<sizeLine/\∃ N2:List V->St->Hp->Prop,(∀ ys' σ' H',N2 ys' σ' H'->∃ m',m'<m/\W2 (i+1) m' ys' σ' H') ∧
     ∀ x H',J2.yld i H x H'->g2 x σ' H' fun σ2 H2=>tt2 σ2 H2 fun b H3=>if b=true then te σ2 H3 fun y H4=>N2 (ys++[y]) σ2 H4 else N2 ys σ2 H3)
   else N ys σ2 H3)
def qgA (k:Nat) (wi:TI) (g:TG) (tt:TT) (wi2:TI) (g2:TG) (tt2:TT) (te:TE):TE:=fun σ H Q=>wi σ H (qc9 k g tt wi2 g2 tt2 te σ Q)
section
variable {X:Cx}
theorem qbB {pins:List (Addr×Obj)}{σ:St}{H:Hp}{sa2:Shared}{L:List Str}{scope:Scope}{cl:List (Str×Addr)}{fp:List Addr}{sc:Scope}{N:List Str}{tg elt iter tg2 iter2:Expr}{ifs ifs2:List Expr}{pos:Pos}
  {g:TG}{tt:TT}{wi2:TI}{g2:TG}{tt2:TT}{te:TE}{Q:VK}{J:It}{it:Addr}{tn:Nat->Heap->Prop}{RR:Value->Addr->Result->Shared->Prop}{E:Value->Shared->Prop}
  (hc:X.calm=true) (hsc:X.env.scope=sc) (hN:X.N=N) (ok:jf sc N L scope=true) (hc1:∀ x c,cl.lookup x=some c->X.env.cells.lookup x=some c)
  (hc2:∀ y∈scope.names,y.2 = .free->∃ c,cl.lookup y.1=some c)
  (hg:∀ cl C sa2 Ha2 fp,PG (qo X L scope cl C sa2 Ha2 fp) tg g) (hi:∀ cl C sa2 Ha2 fp,Ifs (qo X L scope cl C sa2 Ha2 fp) ifs tt) (hi2:∀ cl C sa2 Ha2 fp,PI (qo X L scope cl C sa2 Ha2 fp) tg2 iter2 wi2) (hg2:∀ cl C sa2 Ha2 fp,PG (qo X L scope cl C sa2 Ha2 fp) tg2 g2) (hf2:∀ cl C sa2 Ha2 fp,Ifs (qo X L scope cl C sa2 Ha2 fp) ifs2 tt2) (he:∀ cl C sa2 Ha2 fp,PE (qo X L scope cl C sa2 Ha2 fp) elt te)
  (hs2:∀ env x,foldedSetIterable iter2 env x=pure x)
  (I:Inv X pins σ H sa2) (T:Turn X.prog X.w X.K tg J fp it tn) (st:tn 0 sa2.heap) (hf:∀ b∈fp,Jl X pins H b) (hw:qc9 L.length g tt wi2 g2 tt2 te σ Q J H)
  (hR:∀ D C m H' s' ys,s'.heap.Ns C m->sa2.heap.objs.size=D->sa2.heap.objs.size<C->H' C=none->D≠C->Inv X pins σ (upd H' D (.lst ys)) s'->Q (.ref D) (upd H' D (.lst ys))->RR (.ref D) C (.ok .next) s') :
  wpAny (model X.prog X.w) X.A (newList []) (fun acc sa3=>wpAny (model X.prog X.w) X.A (newFunctionEnv scope X.env.globals cl [] X.env.qual none .none (some X.env)) (fun cenv sa4 =>
   codeAny (model X.prog X.w) X.A (.compStart (two elt tg iter tg2 iter2 ifs ifs2 scope pos) 0 (.ref it) acc { cenv with scope:=relabel scope X.env }) (RR acc cenv.locals) sa4) E sa3) E sa2:=by
 refine yb (wpAny_newFunctionEnv (fun y hy=>(yB ok hy).1) (by intro y hy;simp at hy) (fun hd1 hns1 hsb1=>?_) (yM ok));dsimp only at hns1 hsb1 ⊢;generalize hH2:sa2.heap.push { cls:=.type "list",dict:=none,data:=.seq ([]:List Value).toArray }=H2 at hns1 hsb1 ⊢;have hC:H2.objs.size=sa2.heap.objs.size+1:=by rw [<- hH2,qV]
 have hCle:sa2.heap.objs.size<=H2.objs.size:=by rw [hC];exact Nat.le_succ _
 have hDC:sa2.heap.objs.size≠H2.objs.size:=by rw [hC];exact qg (qZ _)
 have hlt:∀ b∈fp,b<sa2.heap.objs.size:=fun b hb=>by
  obtain ⟨o,e,_⟩:=T.obj 0 _ st b hb;exact qi e
 have below:∀ b,b<sa2.heap.objs.size->b≠H2.objs.size:=fun b hb=>by rw [hC];exact qg (qT hb)
 have old:∀ b o,sa2.heap.get? b=some o->hd1.get? b=some o:=fun b o e=>hsb1.extBut b o (below b (qi e)) (qb _ (hH2 ▸ qb _ e));have hacc:hd1.get? sa2.heap.objs.size=some { cls:=.type "list",data:=.seq ([]:List Value).toArray 0 }:=hsb1.extBut _ _ hDC (qb _ (hH2 ▸ qj _ rfl));have Yok:=ZU (L:=L) (scope:=scope) (cl:=cl) (C:=H2.objs.size) (fp:=fp) I hsc hN ok hc1 hc2 hf hlt hCle;generalize hDn:sa2.heap.objs.size=D at *;generalize hCn:H2.objs.size=C at *;have sat1:tn 0 hd1:=T.keep _ _ _ st fun b _ o e=>old b o e
 -- the block's own iterators
 have cellD:∀ x c,cl.lookup x=some c->c≠D:=fun x c e=>by
  obtain ⟨v,q⟩:=I.cell x c (hc1 x c e);rw [<- hDn];exact qg q.lt
 have fpY:∀ {H':Hp}{its:List Value}{n:Nat},(∀ b∈fp,H' b=none)->∀ b∈fp,Jl (qo X L scope cl C sa2 H fp) [(D,{ cls:=.type "list",data:=.seq its.toArray n })] H' b:=fun {H' its n} hn b hb=>by
  refine ⟨hn b hb,(Yok.exf b hb).1,Yok.exfs b hb,.inl hb,(Yok.exf b hb).2,fun p hp=>?_⟩;have e:p=(D,{ cls:=.type "list",data:=.seq its.toArray n }):=by
   have:p∈[(D,({ cls:=.type "list",data:=.seq its.toArray n }:Obj))]:=hp;simpa using this
  subst e;exact Ne.symm (qg (hlt b hb))
 have nfsD:D∉(qo X L scope cl C sa2 H fp).fs:=fun z=>by
  obtain ⟨_,o,ho,_⟩:=Yok.funs.mem z;exact absurd (show D<sa2.heap.objs.size from qi ho) (by rw [hDn];exact ye _)
 have pinD:∀ {σ':St}{H':Hp}{s':Shared}{pl:List (Addr×Obj)}{its:List Value}{n:Nat},Inv (qo X L scope cl C sa2 H fp) pl σ' H' s'->s'.heap.get? D=some { cls:=.type "list",data:=.seq its.toArray n }->H' D=none →
   Inv (qo X L scope cl C sa2 H fp) [(D,{ cls:=.type "list",data:=.seq its.toArray n })] σ' H' s':=fun {σ' H' s' pl its n} J e hn=>J.pins_of fun p hp=>by
  have e':p=(D,{ cls:=.type "list",data:=.seq its.toArray n }):=by simpa using hp
  subst e';exact ⟨e,hn,hDC,nfsD,fun v z=>by cases z⟩
 have Ia1:Inv (qo X L scope cl C sa2 H fp) [] (σ++List.replicate L.length none) H { sa2 with heap:=hd1,toks:=sa2.toks+([]:List (Str×Value)).length } :=
  Jo I hsc hN ok hc1 Yok (by rw [hDn];exact hCle) rfl I.bare old hns1
 have HD:H D=none:=I.hok.fresh (by rw [hDn];exact Nat.le_refl _);obtain ⟨W,⟨m0,w0⟩,turn⟩:=hw;have loop:codeAny (model X.prog X.w) X.A (.compLoop (two elt tg iter tg2 iter2 ifs ifs2 scope pos) 0 (.ref it) (.ref D) (compEnvC scope cl C X.env)) (RR (.ref D) C)
   { sa2 with heap:=hd1,toks:=sa2.toks+([]:List (Str×Value)).length }:=by
  refine qfZ (hs2 _) (fun n s'=>∃ i ys its k σ' H',Inv (qo X L scope cl C sa2 H fp) [(D,{ cls:=.type "list",data:=.seq its.toArray k })] σ' H' s'/\yy ys its/\ys.length<=sizeLine/\tn i s'.heap/\(∀ b∈fp,H' b=none)/\W i n ys σ' H')
   ?_ m0 ⟨0,[],[],0,_,H,pinD Ia1 hacc HD,.nil,qB _,sat1,fun b hb=>(hf b hb).1,w0⟩
  rintro n s3 ⟨i,ys,its,k,σ3,H3,I3,hv3,hz3,st3,fr3,w3⟩;have hp3:=I3.pin (D,{ cls:=.type "list",data:=.seq its.toArray k }) (by simp);rcases turn i n ys σ3 H3 w3 with ⟨stop,q⟩ | ⟨go,Nx,hNx,step⟩
  .refine thn (T.done (qo X L scope cl C sa2 H fp) rfl rfl rfl hc i _ s3 σ3 H3 _ I3 (fpY fr3) st3 stop) fun r s4 ⟨hr,I4⟩=>?_;subst hr;have hp4:=I4.pin (D,{ cls:=.type "list",data:=.seq its.toArray k }) (by simp);obtain ⟨m4,hn4,_⟩:=I4.loc;exact hR D C m4 H3 s4 ys hn4 rfl (by rw [hC];exact qZ _) I4.free hDC (qaP I hf hDn I4 hp4.1 hp4.2.1 hv3 hz3) (q D hp4.2.1)
  .refine thn (T.item (qo X L scope cl C sa2 H fp) rfl rfl rfl hc i _ s3 σ3 H3 _ I3 (fpY fr3) st3 go) fun r s4 ⟨u,hr,h4⟩=>?_;subst hr;refine thn h4 fun _ s5 hq9=>?_;obtain ⟨x,H5,I5,r5,y5,st5,fr5⟩:=hq9;have I5':=I5.pinned (fpY fr5) (T.obj _ _ st5);refine thn (hg cl C sa2 H fp _ s5 σ3 H5 x u _ I5' r5 (step x H5 y5)) fun _ s6 hq9=>?_;obtain ⟨σ6,H6,I6,q6⟩:=hq9;refine thn (hi cl C sa2 H fp _ s6 σ6 H6 _ I6 q6) fun ok s7 hq9=>?_;obtain ⟨H7,I7,q7⟩:=hq9;have later:∀ {σ':St}{H':Hp}{s':Shared},Inv (qo X L scope cl C sa2 H fp) ([(D,{ cls:=.type "list",data:=.seq its.toArray k })]++jL fp s5.heap) σ' H' s' →
     tn (i+1) s'.heap/\(∀ b∈fp,H' b=none)/\s'.heap.get? D=some { cls:=.type "list",data:=.seq its.toArray k }/\H' D=none:=fun {σ' H' s'} J=>by
    refine ⟨T.keep _ _ _ st5 fun b hb o e=>(J.pin (b,o) (qh _ (qh _ (yq hb e)))).1,fun b hb=>?_,?_⟩
    .obtain ⟨o,e,d⟩:=T.obj _ _ st5 b hb;exact (J.pin (b,o) (qh _ (qh _ (yq hb e)))).2.1
    .have z:=J.pin (D,{ cls:=.type "list",data:=.seq its.toArray k }) (qh _ (qr _ (by simp)));exact ⟨z.1,z.2.1⟩
   cases ok with
   | false =>
    rw [if_neg (by simp)] at q7 ⊢;obtain ⟨m',hm',w'⟩:=hNx _ _ _ q7;obtain ⟨t1,t2,t3,t4⟩:=later I7;exact ⟨m',hm',i+1,ys,its,k,σ6,H7,pinD I7 t3 t4,hv3,hz3,t1,t2,w'⟩
   | true =>
    rw [if_pos rfl] at q7 ⊢;refine thn (hi2 cl C sa2 H fp _ s7 σ6 H7 _ I7 q7) fun v2 s8 h8=>thn h8 fun itv s9 h9=>?_;obtain ⟨it2,fp2,tn2,J2,H9,e9,I9,T2,st9,f9,W2,⟨m2,w9⟩,turn2⟩:=h9;subst e9;have fp2Y:∀ {H':Hp}{its':List Value}{k':Nat},(∀ b∈fp2,H' b=none)->∀ b∈fp2,Jl (qo X L scope cl C sa2 H fp) ([(D,{ cls:=.type "list",data:=.seq its'.toArray k' })]++jL fp s5.heap) H' b:=fun {H' its' k'} hn b hb=>by
     obtain ⟨_,z1,z2,z3,z4,z5⟩:=f9 b hb;refine ⟨hn b hb,z1,z2,z3,z4,fun p hp=>?_⟩;rcases List.mem_append.mp hp with hp | hp
     .exact z5 p (qr _ hp)
     .rcases List.mem_append.mp hp with hp | hp
      .have e:p=(D,{ cls:=.type "list",data:=.seq its'.toArray k' }):=by simpa using hp
       subst e;exact z5 (D,{ cls:=.type "list",data:=.seq its.toArray k }) (qh _ (qr _ (by simp)))
      .exact z5 p (qh _ (qh _ hp))
    have nbD:∀ b∈fp,b≠D:=fun b hb=>qg (hlt b hb);have outer:∀ {σ':St}{H':Hp}{s':Shared}{ys':List V}{its':List Value}{k':Nat}{pl:List (Addr×Obj)},Inv (qo X L scope cl C sa2 H fp) ([(D,{ cls:=.type "list",data:=.seq its'.toArray k' })]++jL fp s5.heap) σ' H' s'->yy ys' its'->ys'.length<=sizeLine->Nx ys' σ' H' →
      ∃ m',m'<n/\∃ i ys its k σ' H',Inv (qo X L scope cl C sa2 H fp) [(D,{ cls:=.type "list",data:=.seq its.toArray k })] σ' H' s'/\yy ys its/\ys.length<=sizeLine/\tn i s'.heap/\(∀ b∈fp,H' b=none)/\W i m' ys σ' H':=fun {σ' H' s' ys' its' k' pl} J hv hz nx=>by
     obtain ⟨m',hm',w'⟩:=hNx _ _ _ nx;have z:=J.pin (D,{ cls:=.type "list",data:=.seq its'.toArray k' }) (qh _ (qr _ (by simp)));refine ⟨m',hm',i+1,ys',its',k',σ',H',pinD J z.1 z.2.1,hv,hz,?_,fun b hb=>?_,w'⟩
     .exact T.keep _ _ _ st5 fun b hb o e=>(J.pin (b,o) (qh _ (qh _ (yq hb e)))).1
     .obtain ⟨o,e,d⟩:=T.obj _ _ st5 b hb;exact (J.pin (b,o) (qh _ (qh _ (yq hb e)))).2.1
    have loop2:codeAny (model X.prog X.w) X.A (.compLoop (two elt tg iter tg2 iter2 ifs ifs2 scope pos) 1 (.ref it2) (.ref D) (compEnvC scope cl C X.env)) (fun r sa6=>r = .ok .next/\∃ m',m'<n/\∃ i ys its k σ' H',Inv (qo X L scope cl C sa2 H fp) [(D,{ cls:=.type "list",data:=.seq its.toArray k })] σ' H' sa6/\yy ys its/\ys.length<=sizeLine/\tn i sa6.heap/\(∀ b∈fp,H' b=none)/\W i m' ys σ' H') s9:=by
     refine qiB (fun n2 s'=>∃ j ys2 its2 k2 σ' H',Inv (qo X L scope cl C sa2 H fp) ([(D,{ cls:=.type "list",data:=.seq its2.toArray k2 })]++jL fp s5.heap) σ' H' s'/\yy ys2 its2/\ys2.length<=sizeLine/\tn2 j s'.heap/\(∀ b∈fp2,H' b=none)/\W2 j n2 ys2 σ' H')
      ?_ m2 ⟨0,ys,its,k,σ6,H9,I9,hv3,hz3,st9,fun b hb=>(f9 b hb).1,w9⟩
     rintro n2 t3 ⟨j,ys2,its2,k2,ρ3,G3,I3',hv3',hz3',st3',fr3',w3'⟩;rcases turn2 j n2 ys2 ρ3 G3 w3' with ⟨stop2,q2⟩ | ⟨go2,hlen2,N2,hN2,step2⟩
     .refine thn (T2.done (qo X L scope cl C sa2 H fp) rfl rfl rfl hc j _ t3 ρ3 G3 _ I3' (fp2Y fr3') st3' stop2) fun r s4 ⟨hr,I4⟩=>?_;subst hr;exact ⟨rfl,outer (pl:=[]) I4 hv3' hz3' q2⟩
     .refine thn (T2.item (qo X L scope cl C sa2 H fp) rfl rfl rfl hc j _ t3 ρ3 G3 _ I3' (fp2Y fr3') st3' go2) fun r s4 ⟨u,hr,h4⟩=>?_;subst hr;refine thn h4 fun _ t5 hq9=>?_;obtain ⟨x,G5,J5,r5',y5',st5',fr5'⟩:=hq9;have J5':=J5.pinned (fp2Y fr5') (T2.obj _ _ st5');refine thn (hg2 cl C sa2 H fp _ t5 ρ3 G5 x u _ J5' r5' (step2 x G5 y5')) fun _ t6 hq9=>?_;obtain ⟨ρ6,G6,J6,q6'⟩:=hq9;refine thn (hf2 cl C sa2 H fp _ t6 ρ6 G6 _ J6 q6') fun ok t7 hq9=>?_;obtain ⟨G7,J7,q7'⟩:=hq9;have later2:∀ {σ':St}{H':Hp}{s':Shared},Inv (qo X L scope cl C sa2 H fp) (([(D,{ cls:=.type "list",data:=.seq its2.toArray k2 })]++jL fp s5.heap)++jL fp2 t5.heap) σ' H' s' →
        tn2 (j+1) s'.heap/\(∀ b∈fp2,H' b=none)/\s'.heap.get? D=some { cls:=.type "list",data:=.seq its2.toArray k2 }/\H' D=none:=fun {σ' H' s'} J=>by
       refine ⟨T2.keep _ _ _ st5' fun b hb o e=>(J.pin (b,o) (qh _ (qh _ (yq hb e)))).1,fun b hb=>?_,?_⟩
       .obtain ⟨o,e,d⟩:=T2.obj _ _ st5' b hb;exact (J.pin (b,o) (qh _ (qh _ (yq hb e)))).2.1
       .have z:=J.pin (D,{ cls:=.type "list",data:=.seq its2.toArray k2 }) (qh _ (qr _ (qr _ (by simp))));exact ⟨z.1,z.2.1⟩
      cases ok with
      | false =>
       rw [if_neg (by simp)] at q7' ⊢;obtain ⟨m',hm',w'⟩:=hN2 _ _ _ q7';obtain ⟨t1,t2,t3,t4⟩:=later2 J7;exact ⟨m',hm',j+1,ys2,its2,k2,ρ6,G7,J7.unpinned,hv3',hz3',t1,t2,w'⟩
      | true =>
       rw [if_pos rfl] at q7' ⊢;refine thn (he cl C sa2 H fp _ t7 ρ6 G7 _ J7 q7') fun y t8 hq9=>?_;obtain ⟨v,G8,J8,r8,q8⟩:=hq9;obtain ⟨m',hm',w'⟩:=hN2 _ _ _ q8;obtain ⟨t1,t2,t3,t4⟩:=later2 J8;refine append_at (hsz:=by rw [List.size_toArray,<- hv3'.length];exact hz3') t3 fun h9 hs9 hD9=>?_;have nb2D:∀ b∈fp2,b≠D:=fun b hb z=>(f9 b hb).2.2.2.2.2 (D,{ cls:=.type "list",data:=.seq its.toArray k }) (qh _ (qr _ (by simp))) z.symm;have J9:Inv (qo X L scope cl C sa2 H fp) [] ρ6 G8 { t8 with heap:=h9 }:=(J8.pins_of (pins':=[]) (fun p hp=>by simp at hp)).turned (it:=D) (t':=t8.toks) (fun b o hb e=>hs9.extBut b o hb e) t4 hDC
        (.inr (by show sa2.heap.objs.size<=D;rw [hDn];exact Nat.le_refl _)) cellD (fun p hp=>by
         have:p∈([]:List (Addr×Obj)):=hp;simp at this)
       have J9':Inv (qo X L scope cl C sa2 H fp) ([(D,{ cls:=.type "list",data:=.seq (its2++[y]).toArray (k2+1) })]++jL fp s5.heap) ρ6 G8 { t8 with heap:=h9 }:=J9.pins_of fun p hp=>by
        rcases List.mem_append.mp hp with hp | hp
        .have e':p=(D,{ cls:=.type "list",data:=.seq (its2++[y]).toArray (k2+1) }):=by simpa using hp
         subst e';exact ⟨(by rw [hD9];simp),t4,hDC,nfsD,fun v z=>by cases z⟩
        .have z:=J8.pin p (qh _ (qr _ (qh _ hp)));have hpD:p.1≠D:=by exact nbD p.1 (qan hp).1
         exact ⟨hs9.extBut _ _ hpD z.1,z.2⟩
       refine ⟨m',hm',j+1,ys2++[v],its2++[y],k2+1,ρ6,G8,J9',hv3'.append (.cons r8 .nil),by simp;omega,T2.keep _ _ _ t1 fun b hb o e=>hs9.extBut b o (nb2D b hb) e,t2,w'⟩
    exact JZ loop2 (T2.self _ 0 _ _ _ st9 loop2)
 exact codeAny_compStart_list loop (T.self _ 0 _ _ _ sat1 loop)
theorem qfQ {L:List Str}{scope sc:Scope}{N:List Str}{tg elt iter tg2 iter2:Expr}{ifs ifs2:List Expr}{pos:Pos}{wi:TI}{g:TG}{tt:TT}{wi2:TI}{g2:TG}{tt2:TT}{te:TE}
  (hc:X.calm=true) (hsc:X.env.scope=sc) (hN:X.N=N) (ok:jf sc N L scope=true)
  (hi:PI X tg iter wi) (hg:∀ cl C sa2 Ha2 fp,PG (qo X L scope cl C sa2 Ha2 fp) tg g) (hf:∀ cl C sa2 Ha2 fp,Ifs (qo X L scope cl C sa2 Ha2 fp) ifs tt) (hi2:∀ cl C sa2 Ha2 fp,PI (qo X L scope cl C sa2 Ha2 fp) tg2 iter2 wi2) (hg2:∀ cl C sa2 Ha2 fp,PG (qo X L scope cl C sa2 Ha2 fp) tg2 g2) (hf2:∀ cl C sa2 Ha2 fp,Ifs (qo X L scope cl C sa2 Ha2 fp) ifs2 tt2) (he:∀ cl C sa2 Ha2 fp,PE (qo X L scope cl C sa2 Ha2 fp) elt te)
  (hs:∀ x,foldedSetIterable iter X.env x=pure x:=by intro _;rfl) (hs2:∀ env x,foldedSetIterable iter2 env x=pure x:=by intro _ _;rfl) :
  PE X (two elt tg iter tg2 iter2 ifs ifs2 scope pos) (qgA L.length wi g tt wi2 g2 tt2 te):=by
 intro pins s σ H Q I h;obtain ⟨cl,hcl,hc1,hc2⟩:=jV (env:=X.env) (scope:=scope) fun y hy hfr=>by
  refine I.ok.has y.1 ?_;have z:=(yB ok hy).2.2 hfr;rw [<- hsc] at z;exact z
 rw [eval_ListComp];refine wpAny_comprehension_free (use:=none) rfl hs hcl (yM ok) (fun y hy hl=>((yB ok hy).2.1 hl).1) (thn (hi pins s σ H _ I h) fun v s1 h1=>thn h1 fun itv s2 h2=>?_);obtain ⟨it,fp,tn,J,H2,e,I2,T,st2,f2,hw⟩:=h2;subst e;refine qbB (RR:=fun acc C=>compPost (model X.prog X.w) X.A X.xe none (EP X pins σ Q) acc C) hc hsc hN ok hc1 hc2 hg hf hi2 hg2 hf2 he hs2 I2 T st2 f2 hw ?_;intro D C m H' s' ys hns hD hC hHC hDC J' q;refine ⟨m,hns,fun h'' hs''=>⟨.ref D,upd H' D (.lst ys),?_,rfl,q⟩⟩;have hsz:=I2.sz;refine J'.turned (it:=C) (t':=s'.toks) (fun b o hb e=>hs''.extBut b o hb e) (by rw [qC (Ne.symm hDC)];exact hHC) (Ne.symm (qg (yj I2.lt hC))) (.inr (qq hsz (qP hC))) (fun x c e=>?_) (fun p hp=>?_)
 .obtain ⟨v,z⟩:=I2.cell x c e;exact qg (yj z.lt hC)
 .exact qg (yj (qi (I2.pin p hp).1) hC)
end
section
variable {X:Cx}{K:W.Frag}{tg iter tg2 iter2:Expr}{pos:Pos}
def qhf (k:Nat) (ti:TId) (g:TGd) (tt:TTd) (ti2:TId) (g2:TGd) (tt2:TTd) (te:TEd):TEd:=fun ρ U Q=>ti ρ U fun J U1=>∃ Pv:Nat->List PyData->Rho->Mu->Prop,Pv 0 [] (ρ++List.replicate k none) U1/\(∀ i ys ρ' U',i<=J.n->Pv i ys ρ' U'->J.ok U') ∧
 (∀ i ys ρ' U',i<J.n->Pv i ys ρ' U'->g (J.item i) ρ' U' fun ρ2 U2=>tt ρ2 U2 fun b U3=>if b=true then ti2 ρ2 U3 fun J2 U4 =>
   ∃ Pv2:Nat->List PyData->Rho->Mu->Prop,Pv2 0 ys ρ2 U4/\(∀ j ys ρ' U',j<=J2.n->Pv2 j ys ρ' U'->J2.ok U'/\ys.length<4000) ∧
    (∀ j ys ρ' U',j<J2.n->Pv2 j ys ρ' U'->g2 (J2.item j) ρ' U' fun ρ2 U2=>tt2 ρ2 U2 fun b U3=>if b=true then te ρ2 U3 fun y U4=>∃ z,y = .d z/\Pv2 (j+1) (ys++[z]) ρ2 U4 else Pv2 (j+1) ys ρ2 U3) ∧
    ∀ ys ρ' U',Pv2 J2.n ys ρ' U'->Pv (i+1) ys ρ' U'
  else Pv (i+1) ys ρ2 U3) ∧
 ∀ ys ρ' U',Pv J.n ys ρ' U'->Fin1 Q ys U'
theorem qfp {k:Nat}{ti:TId}{g:TGd}{tt:TTd}{ti2:TId}{g2:TGd}{tt2:TTd}{te:TEd}{σ:St}{H:Hp}{Q:VK}(h:up K (qhf k ti g tt ti2 g2 tt2 te) σ H Q):qgA k (upI K ti) (upG K g) (upT K tt) (upI K ti2) (upG K g2) (upT K tt2) (up K te) σ H Q:=by
 obtain ⟨ρ,U,Q0,hS,hM,h,cl⟩:=h;refine ⟨ρ,U,_,hS,hM,h,fun J0 U1 J H1 q M1 s1 sim=>?_⟩;obtain ⟨Pv,h0,hok,hstep,hend⟩:=q;have S0:RelS K (ρ++List.replicate k none) U1 (σ++List.replicate k none) H1:=by
  have S1:=hS.same s1;refine ⟨by simp [S1.len],fun i e he=>?_⟩;by_cases hi:i<ρ.length
  .rw [qv hi] at he;rw [qv (by rw [<- S1.len];exact hi)];exact S1.get i e he
  .rw [qS (by omega),yF] at he;split at he <;> cases he
 refine ⟨fun i m ys σ' H'=>m=J0.n - i/\i<=J0.n/\∃ ds ρ' U',RelS K ρ' U' σ' H'/\RelM K U' H'/\yd (mask U1 H1) (mask U' H')/\IsAll K (mask U' H') ys ds/\Pv i ds ρ' U',⟨_,rfl,qB _,[],_,U1,S0,M1,yd.refl _,.nil,h0⟩,?_⟩;rintro i m ys σ' H' ⟨rfl,hi,ds,ρ',U',S',M',s',hA,p⟩;have sm:=sim U' H' M' s' (hok i ds ρ' U' hi p) i;by_cases hlt:i<J0.n
 .obtain ⟨hgo,hyl⟩:=sm.1 hlt;refine .inr ⟨hgo,fun ys2 σ2 H2=>∃ ds ρ' U',RelS K ρ' U' σ2 H2/\RelM K U' H2/\yd (mask U1 H1) (mask U' H2)/\IsAll K (mask U' H2) ys2 ds/\Pv (i+1) ds ρ' U',fun ys2 σ2 H2 z=>⟨J0.n - (i+1),by omega,rfl,hlt,z⟩,fun x H2 y=>?_⟩;obtain ⟨M2,s2,i2⟩:=hyl x H2 y;refine ⟨_,ρ',U',_,i2,S'.same s2,M2,hstep i ds ρ' U' hlt p,fun ρ3 U3 σ3 H3 q3 S3 M3 s3=>⟨ρ3,U3,_,S3,M3,q3,fun b U4 H4 q4 M4 s4=>?_⟩⟩;have st:=((s'.trans s2).trans s3).trans s4;have hA4:=IsAll.same ((s2.trans s3).trans s4) hA;cases b with
  | true =>
   refine qa4 ⟨ρ3,U4,_,S3.same s4,M4,(by simpa using q4),fun K0 ν1 K1 G1 r N1 u1 sim2=>?_⟩;obtain ⟨Pv2,g0,gok,gstep,gend⟩:=r;refine ⟨fun j m ys σ' H'=>m=K0.n - j/\j<=K0.n/\∃ ds ρ' U',RelS K ρ' U' σ' H'/\RelM K U' H'/\yd (mask ν1 G1) (mask U' H')/\IsAll K (mask U' H') ys ds/\Pv2 j ds ρ' U',⟨_,rfl,qB _,ds,ρ3,ν1,(S3.same s4).same u1,N1,yd.refl _,IsAll.same u1 hA4,g0⟩,?_⟩;rintro j m zs σ' H' ⟨rfl,hj,es,ρ',U',R',M',v',hB,p2⟩;obtain ⟨ok2,len2⟩:=gok j es ρ' U' hj p2;have sm2:=sim2 U' H' M' v' ok2 j;have hle:=hB.len;by_cases hlt2:j<K0.n
   .obtain ⟨hgo2,hyl2⟩:=sm2.1 hlt2;refine .inr ⟨hgo2,yI (by omega),fun ys2 σ2 H2=>∃ ds ρ' U',RelS K ρ' U' σ2 H2/\RelM K U' H2/\yd (mask ν1 G1) (mask U' H2)/\IsAll K (mask U' H2) ys2 ds/\Pv2 (j+1) ds ρ' U',fun ys2 σ2 H2 z=>⟨K0.n - (j+1),by omega,rfl,hlt2,z⟩,fun x H2 y=>?_⟩;obtain ⟨M2,s2,i2⟩:=hyl2 x H2 y;refine ⟨_,ρ',U',_,i2,R'.same s2,M2,gstep j es ρ' U' hlt2 p2,fun ρ3 U3 σ3 H3 q3 S3 M3 s3=>⟨ρ3,U3,_,S3,M3,q3,fun b U4 H4 q4 M4 s4=>?_⟩⟩;have st2:=((v'.trans s2).trans s3).trans s4;cases b with
    | true =>
     refine qa4 ⟨ρ3,U4,_,S3.same s4,M4,(by simpa using q4),fun e U5 v H5 q5 M5 s5 i5=>?_⟩;obtain ⟨z,rfl,q5⟩:=q5;exact ⟨_,ρ3,U5,(S3.same s4).same s5,M5,st2.trans s5,IsAll.snoc i5 (IsAll.same (((s2.trans s3).trans s4).trans s5) hB),q5⟩
    | false=>exact Z3 ⟨_,ρ3,U4,S3.same s4,M4,st2,IsAll.same ((s2.trans s3).trans s4) hB,by simpa using q4⟩
   .have e:j=K0.n:=by omega
    subst e;exact .inl ⟨sm2.2 (Nat.le_refl _),es,ρ',U',R',M',(st.trans u1).trans v',hB,gend es ρ' U' p2⟩
  | false=>exact Z3 ⟨_,ρ3,U4,S3.same s4,M4,st,hA4,by simpa using q4⟩
 .have e:i=J0.n:=by omega
  subst e;refine .inl ⟨sm.2 (Nat.le_refl _),fun D hD=>?_⟩;obtain ⟨M4,s4,hn⟩:=M'.laid (o:=.lst ys) hD;exact cl _ U' _ _ (hend ds ρ' U' p) M4 ((s1.trans s').trans s4) (.lst (SqL.of (by rw [qX hn];exact qE)) (IsAll.same s4 hA))
theorem qi9 {L:List Str}{scope sc:Scope}{N:List Str}{elt:Expr}{ifs ifs2:List Expr}{ti:TId}{g:TGd}{tt:TTd}{ti2:TId}{g2:TGd}{tt2:TTd}{te:TEd}
  (hc:X.calm=true) (hsc:X.env.scope=sc) (hN:X.N=N) (ok:jf sc N L scope=true)
  (hi:DI K X tg iter ti) (hg:∀ cl C sa2 Ha2 fp,DG K (qo X L scope cl C sa2 Ha2 fp) tg g) (hf:∀ cl C sa2 Ha2 fp,qht K (qo X L scope cl C sa2 Ha2 fp) ifs tt)
  (hi2:∀ cl C sa2 Ha2 fp,DI K (qo X L scope cl C sa2 Ha2 fp) tg2 iter2 ti2) (hg2:∀ cl C sa2 Ha2 fp,DG K (qo X L scope cl C sa2 Ha2 fp) tg2 g2) (hf2:∀ cl C sa2 Ha2 fp,qht K (qo X L scope cl C sa2 Ha2 fp) ifs2 tt2)
  (he:∀ cl C sa2 Ha2 fp,DE K (qo X L scope cl C sa2 Ha2 fp) elt te)
  (hs:∀ x,foldedSetIterable iter X.env x=pure x:=by intro _;rfl) (hs2:∀ env x,foldedSetIterable iter2 env x=pure x:=by intro _ _;rfl) :
  DE K X (.ListComp elt [⟨tg,iter,ifs,0⟩,⟨tg2,iter2,ifs2,0⟩] scope pos) (qhf L.length ti g tt ti2 g2 tt2 te):=PE.mono (qfQ hc hsc hN ok hi hg hf hi2 hg2 hf2 he hs hs2) fun _ _ _=>qfp
end
end L2
namespace L2
open PySem PySem.Spec PyProof.Rows PySem.W
def qeT (X:Cx) (A:Around) (N:List Str) (qual:Str) (scope:Scope) (f:Addr) (cd:Value) (cl:List (Str×Addr)) (s:Shared) (H:Hp):Cx where
 prog:=X.prog
 w:=X.w
 K:=X.K
 mg:=X.mg
 base:=X.base
 A:=A.deeper (envX qual scope s.heap.objs.size f cd cl)
 N:=N
 sa0:=s
 H0:=H
 env:=envX qual scope s.heap.objs.size f cd cl
 outer:=X.stack
 stack:=envX qual scope s.heap.objs.size f cd cl::X.stack
 ex:=[]
 calm:=true
 fn:=fun _=>false
 pn:=[]
 xe:=fun _ _=>False
structure LamSc (x y:Str) (sc:Scope):Prop where
 kind:sc.kind = .function
 co:sc.isCoroutine=false
 gen:sc.isGenerator=false
 ne:x≠y
 par:sc.names.lookup x=some .local
 fr:sc.names.lookup y=some .free
 nc:∀ z∈sc.names,z.2≠.cell
section
variable {X:Cx}{pins:List (Addr×Obj)}{σ:St}{H:Hp}{s:Shared}{A:Around}{x y:Str}{scope:Scope}{cl:List (Str×Addr)}{f:Addr}{cd:Value}{qual:Str}
theorem qiG (I:Inv X pins σ H s) (S:LamSc x y scope) (hA:A.frames=some X.stack) (hd:A.handled=none) (hc1:∀ x c,cl.lookup x=some c->X.env.cells.lookup x=some c) (hc2:∀ z∈scope.names,z.2 = .free->∃ c,cl.lookup z.1=some c)
  {u us:Value}{v vs:V}(ru:jb v u) {c:Addr}(hy:cl.lookup y=some c) (hcell:s.heap.IsCell c (some us)) (rs:jb vs us) {hd1:Heap}{tk:Nat}
  (hns:hd1.Ns s.heap.objs.size (fun z=>[(x,u)].reverse.lookup z)) (hk:∀ b o,s.heap.get? b=some o->hd1.get? b=some o) :
  Inv (qeT X A [x,y] qual scope f cd cl s H) [] [some v,some vs] H { s with heap:=hd1,toks:=tk }:=by
 have noA:∀ b:Addr,b∉(qeT X A [x,y] qual scope f cd cl s H).ex:=fun b z=>absurd (show b∈([]:List Addr) from z) (by simp);refine ⟨⟨I.ok.mod,S.kind,rfl,rfl,Nat.le_refl _,fun a b c h1 h2=>I.ok.inj a b c (hc1 _ _ h1) (hc1 _ _ h2),fun z hz=>?_,fun z c h _=>(by cases h),fun _=>hd,Around.frames_deeper hA,.inr ⟨rfl,rfl⟩,fun b z=>absurd z (noA b),I.bs,qq I.ok.bsz I.sz,fun b _ _=>noA b,fun b z=>absurd z (noA b),I.stack,I.stkFree⟩,
  rfl,I.bare,Un.kept hk,⟨_,hns,fun i z w h1 h2 h3=>?_⟩,fun z c h=>?_,I.hok.fresh (Nat.le_refl _),fun z c h=>I.freeC z c (hc1 z c h),fun p hp=>absurd (show p∈([]:List (Addr×Obj)) from hp) (by simp),I.hok.kept hk,rfl⟩
 .have hz:scope.names.lookup z=some .cell\/scope.names.lookup z=some .free:=hz;rcases hz with hz | hz
  .exact absurd rfl (S.nc _ (PySem.mem_of_lookup hz))
  .exact hc2 _ (PySem.mem_of_lookup hz) rfl
 .match i,h1,h2 with
  | 0,h1,h2 =>
   have h1:x=z:=Option.some.inj h1;have h2:v=w:=Option.some.inj (Option.some.inj h2);subst h1 h2;exact ⟨u,ru,.inl ⟨S.par,by simp⟩⟩
  | 1,h1,h2 =>
   have h1:y=z:=Option.some.inj h1;have h2:vs=w:=Option.some.inj (Option.some.inj h2);subst h1 h2;refine ⟨us,rs,.inr ⟨.inr S.fr,c,hy,?_⟩⟩;obtain ⟨o,ho,hd⟩:=hcell;exact ⟨o,hk _ _ ho,hd⟩
  | i+2,h1,h2 =>
   have h1:([x,y]:List Str)[i+2]?=some z:=h1;simp at h1
 .obtain ⟨w,o,ho,hd⟩:=I.cell z c (hc1 z c h);exact ⟨w,o,hk _ _ ho,hd⟩
theorem qf2 {params:Arguments}{body:Expr}{pm ctv:Value}{c':Addr}{te:TE}{k:Nat}{E:Value->Shared->Prop}(I:Inv X pins σ H s) (S:LamSc x y scope) (hA:A.frames=some X.stack) (hr:Room (k+1) A)
  (hc1:∀ x c,cl.lookup x=some c->X.env.cells.lookup x=some c) (hc2:∀ z∈scope.names,z.2 = .free->∃ c,cl.lookup z.1=some c)
  (ho:s.heap.get? f=some (kla_obj "<lambda>" qual params body scope cl pm c' ctv)) (hcd:s.heap.CodeRec (.ref c') qual)
  (hb:∀ u:Value,bindArgs (kla_fn "<lambda>" qual params body scope cl pm (.ref c') ctv) ⟨[u],[]⟩=pure [(x,u)])
  {u us:Value}{v vs:V}(ru:jb v u) {c:Addr}(hy:cl.lookup y=some c) (hcell:s.heap.IsCell c (some us)) (rs:jb vs us)
  (he:Room k (A.deeper (envX qual scope s.heap.objs.size f (.ref c') cl))->PE (qeT X A [x,y] qual scope f (.ref c') cl s H) body te) {Q:VK}(q:te [some v,some vs] H Q) :
  wpAny (model X.prog X.w) A (call (.ref f) [u]) (EP X pins σ Q) E s:=by
 refine wpAny_call ?_;refine kla_callFunE hr.depth ho rfl S.co S.gen rfl hcd ?_;rw [hb u];refine qc (wpAny_newFunctionEnv S.nc (fun z hz=>by rw [qA.mp hz];exact S.par) (fun hd1 hns hsb=>⟨I.nolimit.fresh _ hsb,?_⟩) S.kind);have hak1:∀ b o,s.heap.get? b=some o->hd1.get? b=some o:=fun b o e=>hsb.extBut b o (qg (qi e)) (qb _ e);show codeAny _ _ (.expr body (envX qual scope s.heap.objs.size f (.ref c') cl)) _ _;have J:=qiG (qual:=qual) (f:=f) (cd:=.ref c') (tk:=s.toks+1) I S hA hr.hd hc1 hc2 ru hy hcell rs hns hak1;refine kla_codeExpr (qp (he (hr.deeper _) [] _ _ H Q J q) (fun r s' hs=>?_) fun _ _ z=>z.elim);obtain ⟨w,H',J',rw',q'⟩:=hs;exact I.after ⟨w,H',J'.os,J'.bare,J'.base,J'.hok,rw',q'⟩
end
end L2
namespace L2
open PySem PySem.Spec PyProof.Rows PySem.W
def qaS (c:Addr) (q:Str):HO:=.ext fun h=>h.CodeRec (.ref c) q
theorem qgp {P:Program}{w:World}{H:Hp}{h:Heap}{c:Addr}{q:Str}(r:h.CodeRec (.ref c) q):ja P w H h c (qaS c q):=by
 refine ⟨r,?_,fun h1 h2 p1 k=>?_⟩
 .obtain ⟨c',o,vs,t,e,ho,_⟩:=r;cases e
  exact ⟨o,ho⟩
 .obtain ⟨c',o,vs,t,e,ho,z⟩:=p1;cases e
  exact ⟨c,o,vs,t,rfl,k o ho,z⟩
def qjp (q:Str) (pos:Pos) (H:Hp) (u:HO):Prop:=∃ ps,u = .tbl ps/\(ps=#[]\/∃ c,ps=#[rawInt pos.line,rawInt pos.col,.ref c]/\H c=some (qaS c q))
def Y1 (base:Heap) (mg:Str->Option Value):Prop:=∃ bm ob,mg "__builtins__" = some (.ref bm)/\bm≠builtinsNs/\base.get? bm=some ob/\ob.cls = .type "module" /\ ob.dict=some builtinsNs/\ob.data = .plain
section
variable {X:Cx}{pins:List (Addr×Obj)}{σ:St}{H:Hp}{s:Shared}{x y:Str}{scope:Scope}{qual:Str}{P c:Addr}{pos:Pos}{params:Arguments}{body:Expr}
theorem qf1 (I:Inv X pins σ H s) (hB:Y1 X.base X.mg) (hC:CodeHd X.base c P) (hcode:X.env.code = .ref c) (hq:X.env.qual ++ "<lambda>" = qual) {u:HO}(hP:H P=some u) (hT:qjp qual pos H u) (hdef:defaultsOf params X.env=([],[]))
  {clos:List (Str×Addr)}(hcl:closureFor scope X.env=pure clos) {Q:Value->Shared->Prop}
  (h:∀ f c' ctv pm H' s',Inv X pins σ H' s'->s'.heap.get? f=some (kla_obj "<lambda>" qual params body scope clos pm c' ctv)->H' f=none->s.heap.objs.size<=f->H' c'=some (qaS c' qual)->H' P=some (.tbl #[rawInt pos.line,rawInt pos.col,.ref c'])->(H c'=none\/H'=H)->(∀ b o,H b=some o->b≠P->H' b=some o)->(∀ b o,s.heap.get? b=some o->b≠P->s'.heap.get? b=some o)->Q (.ref f) s') :
  wpAny (model X.prog X.w) X.A (eval (.Lambda params body scope pos) X.env) Q X.xe s:=by
 refine kla_eval hdef ?_;rw [hq];have C:=hC.keeps I.bk;obtain ⟨ps,rfl,hps⟩:=hT;have hPo:s.heap.get? P=some (tabObj ps):=I.hok P _ hP;have hg:s.heap.Ns mainGlobals X.mg:=I.ok.mod.glob.keeps I.bk;have hbP:∀ b o,X.base.get? b=some o->b≠P:=fun b o e z=>by
  have:=(I.bs b o e).2;rw [z,hP] at this;cases this
 have hgP:mainGlobals≠P:=by
  obtain ⟨o,es,ep,e,_⟩:=I.ok.mod.glob;exact hbP _ _ e
 have hBA:s.heap.BuiltinsAt X.mg P:=by
  obtain ⟨bm,ob,b1,b2,b3,b4,b5,b6⟩:=hB;refine ⟨bm,ob,b1,b2,fun z=>?_,hbP _ _ b3,I.bk _ _ b3,b4,b5,b6⟩;obtain ⟨o,es,ep,e,hd,_⟩:=I.ok.mod.glob;rw [z,e] at b3;cases b3
  rw [b6] at hd;cases hd
 rcases hps with rfl | ⟨c0,rfl,hc0⟩
 .refine kla_makeFunction (mg:=X.mg) hcl I.ok.glob hg hcode C hPo trivial rfl hgP hBA fun c' ctv h' tk hx hge hlt hrec htb=>?_;have old:∀ b o,b≠P->s.heap.get? b=some o->(h'.push (kla_obj "<lambda>" qual params body scope clos ((X.mg "__name__").getD .none) c' ctv)).get? b=some o:=fun b o hb e=>qb _ (hx b o hb e);have hcn:H c'=none:=I.hok.fresh hge;have hcP:c'≠P:=fun z=>by rw [z,hP] at hcn;cases hcn
  have htb2:(h'.push (kla_obj "<lambda>" qual params body scope clos ((X.mg "__name__").getD .none) c' ctv)).get? P=some (tabObj #[rawInt pos.line,rawInt pos.col,.ref c']):=qb _ (by simpa using htb);have hrec2:=hrec.push (kla_obj "<lambda>" qual params body scope clos ((X.mg "__name__").getD .none) c' ctv);have hsz:s.heap.objs.size<=h'.objs.size:=qq hge (qP hlt);have hf:=qj (h:=h') (o:=kla_obj "<lambda>" qual params body scope clos ((X.mg "__name__").getD .none) c' ctv) rfl;have hfP:h'.objs.size≠P:=fun z=>by
   have:=qi hPo;rw [<- z] at this;exact absurd (qu this hsz) (ye _)
  generalize h'.push (kla_obj "<lambda>" qual params body scope clos ((X.mg "__name__").getD .none) c' ctv)=h2 at *;have nc:∀ b u,H b=some u->b≠c':=fun b u e z=>by rw [z,hcn] at e;cases e
  have nP:∀ b u,H b=some u->(∀ ps,u≠.tbl ps)->b≠P:=fun b u e hu z=>by rw [z,hP] at e;cases e;exact hu _ rfl
  have at':∀ b,b≠P->b≠c'->upd (upd H P (.tbl #[rawInt pos.line,rawInt pos.col,.ref c'])) c' (qaS c' qual) b=H b:=fun b h1 h2=>by rw [qC h2,qC h1]
  have hH':upd (upd H P (.tbl #[rawInt pos.line,rawInt pos.col,.ref c'])) c' (qaS c' qual) P=some (.tbl #[rawInt pos.line,rawInt pos.col,.ref c']):=by rw [qC (Ne.symm hcP),qE]
  have J:Inv X pins σ (upd (upd H P (.tbl #[rawInt pos.line,rawInt pos.col,.ref c'])) c' (qaS c' qual)) { s with heap:=h2,toks:=tk }:=by
   refine I.un ⟨fun b o e n _ _=>old b o (fun z=>by rw [z,hP] at n;cases n) e,fun b o e n _ _=>⟨o.slots,old b o (fun z=>by rw [z,hP] at n;cases n) e⟩,fun b o e n _=>?_,fun b o e _=>?_,fun b xs e=>?_,fun b o u e=>?_,fun b ps e=>?_⟩ fun b u e=>?_
   .rw [at' b (fun z=>by rw [z,hP] at n;cases n) (fun z=>?_)]
    .exact n
    .have:=qi e;rw [z] at this;exact absurd (qu this hge) (ye _)
   .by_cases z:b=P
    .rw [z];exact ⟨_,htb2⟩
    .exact ⟨o,old b o z e⟩
   .rw [at' b (nP b _ e fun _ z=>by cases z) (nc b _ e)];exact e
   .rw [at' b (nP b _ e fun _ z=>by cases z) (nc b _ e)];exact e
   .by_cases z:b=P
    .subst z;rw [hP] at e;cases e
     exact ⟨#[rawInt pos.line,rawInt pos.col,.ref c'],by rw [hH'];simp⟩
    .exact ⟨#[],by rw [at' b z (nc b _ e),e];simp⟩
   .by_cases z1:b=c'
    .subst z1;rw [qE] at e;cases e
     exact qgp hrec2
    .by_cases z2:b=P
     .subst z2;rw [hH'] at e;cases e
      exact htb2
     .rw [at' b z2 z1] at e;refine (I.hok b u e).stay (fun d v hd q=>old d v (fun z=>?_) q) (fun d q=>?_) fun d xs q=>?_
      .rcases hd with hd | hd
       .exact z2 (hd.symm.trans z)
       .rw [z,hP] at hd;cases hd
      .rw [at' d (nP d _ q fun _ z=>by cases z) (nc d _ q)];exact q
      .rw [at' d (nP d _ q fun _ z=>by cases z) (nc d _ q)];exact q
  refine h _ c' ctv _ _ _ J hf ?_ hsz qE hH' (.inl hcn) (fun b o e hb=>?_) (fun b o e hb=>old b o hb e)
  .rw [at' _ hfP (yi hlt)];exact I.hok.fresh hsz
  .rw [at' b hb (nc b o e)];exact e
 .have ht:TriplesOk (#[rawInt pos.line,rawInt pos.col,Value.ref c0]).toList:=trivial;refine kla_makeFunctionHit (mg:=X.mg) (cv:=.ref c0) hcl I.ok.glob hg hcode C hPo ht (by simp [codeAmong,rawInt]) hBA fun ctv h' tk hk hsz=>?_;have J:Inv X pins σ H { s with heap:=h'.push (kla_obj "<lambda>" qual params body scope clos ((X.mg "__name__").getD .none) c0 ctv),toks:=tk }:=I.kept fun b o e=>qb _ (hk b o e);exact h _ c0 ctv _ H _ J (qj _ rfl) (I.hok.fresh hsz) hsz hc0 hP (.inr rfl) (fun _ _ e _=>e) fun b o e _=>qb _ (hk b o e)
end
end L2
namespace L2
open PySem PySem.Spec PyProof.Rows PySem.W
section
variable {X:Cx}{pins:List (Addr×Obj)}{σ:St}{H:Hp}{s:Shared}
theorem Inv.adopt {a:Addr}{o:HO}{h':Heap}{t':Nat}(I:Inv X pins σ H s) (F:Jl X pins H a) (k:∀ b u,b≠a->s.heap.get? b=some u->h'.get? b=some u) (new:ja X.prog X.w (upd H a o) h' a o):Inv X pins σ (upd H a o) { s with heap:=h',toks:=t' }:=by
 have hn:H a=none:=F.1;have nch:∀ b,b∉[a]->b≠a:=fun b hc z=>hc (by simp [z]);refine I.step (g':=s.gens) (d':=s.drawn) (ch:=[a]) (fun b hb=>?_) (fun b u _ _ hc e _=>k b u (nch b hc) e) (fun b u _ _ hc e _=>⟨u.slots,k b u (nch b hc) e⟩) (fun b u hc e n=>by rw [qC (nch b hc)];exact n)
  (fun b u hc e=>⟨u,k b u (nch b hc) e⟩) (fun b xs e=>by rw [qC (qt e hn)];exact e) (fun b u v e=>by rw [qC (qt e hn)];exact e) (fun b ps e=>⟨#[],by rw [qC (qt e hn),e];simp⟩) (fun m hm=>?_) (fun b u e=>?_) I.bare
 .rw [qA.mp hb];obtain ⟨_,f1,_,f3,f4,f5⟩:=F;exact ⟨f3,f1,f4,f5⟩
 .obtain ⟨u,es,ep,ho,r⟩:=hm;exact ⟨u,es,ep,k _ u (Ne.symm F.2.1) ho,r⟩
 .by_cases hb:b=a
  .subst hb;rw [qE] at e;cases e;exact new
  .rw [qC hb] at e;refine (I.hok b u e).stay (fun c v hc q=>k c v ?_ q) (fun c q=>by rw [qC (qt q hn)];exact q) fun c xs q=>by rw [qC (qt q hn)];exact q
   rcases hc with z | z
   .rw [z];exact hb
   .exact qt z hn
theorem Inv.pin1 (I:Inv X pins σ H s) {b:Addr}{o:Obj}(F:Jl X pins H b) (e:s.heap.get? b=some o) (hd:∀ v,o.data≠.cell v):Inv X (pins++[(b,o)]) σ H s :=
 I.pins_of fun p hp=>(List.mem_append.mp hp).elim (fun z=>I.pin p (qh _ z)) fun z=>by rw [qA.mp z];exact ⟨e,F.1,F.2.1,F.2.2.1,hd⟩
theorem Inv.turn1 {h':Heap}{t':Nat}{a:Addr}(I:Inv X pins σ H s) (F:Jl X pins H a) (k:∀ b o,b≠a->s.heap.get? b=some o->h'.get? b=some o):Inv X pins σ H { s with heap:=h',toks:=t' } :=
 I.turned k F.1 F.2.1 F.2.2.2.1 F.2.2.2.2.1 F.2.2.2.2.2
theorem Jl.at {H':Hp}{a:Addr}(F:Jl X pins H a) (h:H' a=none):Jl X pins H' a:=⟨h,F.2⟩
theorem qiH {A:Around}{D kS f:Addr}{vs:List V}{its:List Value}{T:List V->Hp->Prop}{P:PySem.Fin->Shared->Prop}{E:Value->Shared->Prop}{e1 e2:Nat}
  (F1:Jl X pins H D) (F2:Jl X pins H kS) (hne:D≠kS) (I:Inv X pins σ H s) (hD:s.heap.get? D=some (seqObj "list" #[] e1)) (hk:s.heap.get? kS=some (seqObj "list" #[] e2)) (rv:yy vs its) (hl:vs.length<64) (t0:T [] H)
  (turn:∀ ks H1 s1 v u pl,Inv X (pins++pl) σ H1 s1->T ks H1->vs[ks.length]?=some v->jb v u->wpAny (model X.prog X.w) A (call (.ref f) [u]) (EP X (pins++pl) σ fun w H2=>T (ks++[w]) H2) (fun _ _=>False) s1)
  (fin:∀ ks H1 s1 kA e,Inv X pins σ H1 s1->s1.heap.get? D=some (seqObj "list" #[] e1)->s1.heap.get? kS=some (seqObj "list" kA e)->H1 D=none->H1 kS=none->yy ks kA.toList->ks.length=vs.length->T ks H1->wpAny (model X.prog X.w) A (ksk_end D false its.toArray e1 (.ref kS) kA) P E s1) :
  wpAny (model X.prog X.w) A (ksk_rest D (.ref f) false its.toArray e1 (.ref kS)) P E s:=by
 unfold ksk_rest;refine qa (yV ?_);first
  | rw [List.forIn_toArray]
  | (rw [<- Array.forIn_toList];simp only [List.toList_toArray])
  | rw [<- Array.forIn_toList]
 have hlen:=rv.length;refine qa (ksk_fold (fun i s'=>∃ H1 ks kA e,Inv X pins σ H1 s'/\s'.heap.get? D=some (seqObj "list" #[] e1)/\s'.heap.get? kS=some (seqObj "list" kA e)/\H1 D=none/\H1 kS=none/\yy ks kA.toList/\ks.length=i/\T ks H1) its 0 s
  ⟨H,[],#[],e2,I,hD,hk,F1.1,F2.1,.nil,rfl,t0⟩ ?step ?done)
 case step =>
  rintro j x s' hx ⟨H1,ks,kA,e,J,j1,j2,n1,n2,r1,l1,t1⟩;simp only [Nat.zero_add] at l1 ⊢;have hj:j<its.length:=(qk.mp hx).1;obtain ⟨v,hv⟩:∃ v,vs[j]?=some v:=⟨_,List.getElem?_eq_getElem (by omega)⟩;obtain ⟨u,e3,rx⟩:=yy.get rv hv;rw [hx] at e3;cases e3
  have J1:=J.pin1 (F1.at n1) j1 (fun v z=>by cases z);have F2':Jl X (pins++[(D,seqObj "list" #[] e1)]) H1 kS:=by
   refine ⟨n2,F2.2.1,F2.2.2.1,F2.2.2.2.1,F2.2.2.2.2.1,fun p hp=>?_⟩;rw [<- List.append_assoc] at hp;rcases List.mem_append.mp hp with hp | hp
   .exact F2.2.2.2.2.2 p hp
   .rw [qA.mp hp];exact hne
  have J2:=J1.pin1 F2' j2 (fun v z=>by cases z);rw [List.append_assoc] at J2;refine qa (wpAny_attempt (qp (turn ks H1 s' v x _ J2 t1 (by rw [l1];exact hv) rx) (fun w s2 h2=>?_) fun _ _ z=>z.elim));obtain ⟨y,H2,J3,ry,t2⟩:=h2
  try dsimp only
  have p1:=J3.pin (D,seqObj "list" #[] e1) (by simp);have p2:=J3.pin (kS,seqObj "list" kA e) (by simp);have J4:=J3.unpinned;have hz:kA.size=j:=by rw [<- Array.length_toList,<- yy.length r1,l1]
  obtain ⟨c2,hc2⟩:∃ c2,(s2.heap.update kS (Obj.mapSeq (·.push w))).get? kS=some (seqObj "list" (kA.push w) c2):=⟨_,get?_update_seq p2.1 (·.push w)⟩;refine qa (listUpdate_at p2.1 rfl ?_ (by rw [sizeLine_eq];omega) (qq (Nat.le_of_eq (Array.size_push ..)) (by rw [sizeLine_eq];omega)));refine qc ⟨rfl,H2,ks++[y],kA.push w,c2,J4.turn1 (t':=s2.toks) (F2.at p2.2.1) (fun b o hb q=>by rw [yQ _ _ _ _ hb];exact q),?_,hc2,p1.2.1,p2.2.1,?_,by rw [List.length_append,l1];rfl,t2⟩
  .show (s2.heap.update kS _).get? D=_;rw [yQ _ _ _ _ hne];exact p1.1
  .rw [Array.toList_push];exact r1.append (.cons ry .nil)
 case done =>
  rintro s' ⟨H1,ks,kA,e,J,j1,j2,n1,n2,r1,l1,t1⟩
  try dsimp only
  refine qa (listItems_at j2 rfl ?_);exact fin ks H1 s' kA e J j1 j2 n1 n2 r1 (by omega) t1
theorem qa6 {h:Heap}:∀ {ka its:List Value}{kss:List (List Int)}{vs:List V},PySem.Paired (yY h) ka kss->yy vs its->∃ L:List ((Value×Value)×(List Int×V)),ka.zip its=L.map (·.1)/\kss.zip vs=L.map (·.2)/\∀ t∈L,yY h t.1.1 t.2.1/\jb t.2.2 t.1.2
 | _,_,_,_,.nil,_=>⟨[],rfl,rfl,fun _ z=>nomatch z⟩
 | _,_,_,_,.cons _ _,.nil=>⟨[],rfl,rfl,fun _ z=>nomatch z⟩
 | a::ka,u::its,k::kss,v::vs,.cons r1 t1,.cons r2 t2=>by
  obtain ⟨L,e1,e2,e3⟩:=qa6 t1 t2;refine ⟨((a,u),(k,v))::L,by simp [e1],by simp [e2],fun t ht=>?_⟩;rcases List.mem_cons.mp ht with rfl | ht
  .exact ⟨r1,r2⟩
  .exact e3 t ht
theorem qbK {Z:Type}(f:Z->V) (g:Z->Value):∀ (L:List Z),(∀ t∈L,jb (f t) (g t))->yy (L.map f) (L.map g)
 | [],_=>.nil
 | a::L,h=>.cons (h a qe) (qbK f g L fun t ht=>h t (qf _ ht))
theorem qcB {h:Heap}{ka its:List Value}{kss:List (List Int)}{vs:List V}(hT:PySem.Paired (yY h) ka kss) (rv:yy vs its) {xs:List Keyed}(hp:xs.Perm (ka.zip its)) (hs:SdK (kfF h) xs) :
  ∃ ps:List (List Int×V),ps.Perm (kss.zip vs)/\(ps.Pairwise fun a b=>¬ b.1<a.1)/\yy (ps.map (·.2)) (xs.map (·.2)):=by
 obtain ⟨L,e1,e2,e3⟩:=qa6 hT rv;obtain ⟨l,p1,p2⟩:=Yl (fun t:(Value×Value)×(List Int×V)=>t.1) hp e1;have hr:∀ t∈l,yY h t.1.1 t.2.1/\jb t.2.2 t.1.2:=fun t ht=>e3 t (p1.mem_iff.mp ht);refine ⟨l.map (·.2),by rw [e2];exact p1.map _,?_,?_⟩
 .rw [yh];unfold SdK at hs;rw [p2,yh] at hs;refine hs.imp_of_mem fun {a b} ha hb z=>?_;have:=of_decide_eq_false z;rw [qep (hr a ha).1,qep (hr b hb).1] at this;exact this
 .rw [p2,List.map_map,List.map_map];exact qbK _ _ l fun t ht=>(hr t ht).2
theorem qkX {A:Around}{D kS:Addr}{vs ks:List V}{its:List Value}{kA:Array Value}{kss:List (List Int)}{P:PySem.Fin->Shared->Prop}{E:Value->Shared->Prop}{e1 e:Nat}
  (F1:Jl X pins H D) (F2:Jl X pins H kS) (hne:D≠kS) (I:Inv X pins σ H s) (hD:s.heap.get? D=some (seqObj "list" #[] e1)) (hk:s.heap.get? kS=some (seqObj "list" kA e)) (rv:yy vs its) (hl:vs.length<64) (rk:yy ks kA.toList) (hkl:ks.length=vs.length) (hT:PySem.Paired (JA X.K H) ks kss)
  (fin:∀ ps:List (List Int×V),ps.Perm (kss.zip vs)->(ps.Pairwise fun a b=>¬ b.1<a.1)->∀ s',Inv X pins σ (upd H D (.lst (ps.map (·.2)))) s'->P (.done (.ret .none)) s') :
  wpAny (model X.prog X.w) A (ksk_end D false its.toArray e1 (.ref kS) kA) P E s:=by
 have hK:=I.tupsK hT rk;have hlen:=rv.length;have hsz:kA.size=its.length:=by rw [<- Array.length_toList,<- yy.length rk,hkl,hlen]
 have hzs:(kA.zip its.toArray).size=its.length:=by rw [Array.size_zip,hsz,List.size_toArray,Nat.min_self]
 have tail:∀ st:SortSt,(arrOf st).Perm (kA.zip its.toArray)->SdK (kfF s.heap) (arrOf st).toList->failedOf st=none->wpAny (model X.prog X.w) A (ksk_tail D false e1 (.ref kS) st) P E s:=by
  intro st hp hs hfl;have hp2:(arrOf st).toList.Perm (kA.toList.zip its):=by rw [<- ksk_zip];exact jh.mp hp
  obtain ⟨ps,q1,q2,q3⟩:=qcB hK rv hp2 hs;have hsz2:(arrOf st).size=its.length:=by rw [hp.size_eq,hzs]
  unfold ksk_tail
  try dsimp only
  have na1:(s.heap.update kS (Obj.mapSeq fun _=>(#[]:Array Value))).get? D=some (seqObj "list" #[] e1):=by rw [yQ _ _ _ _ hne];exact hD
  obtain ⟨c2,hc2⟩:∃ c2,((s.heap.update kS (Obj.mapSeq fun _=>(#[]:Array Value))).update D (Obj.mapSeq fun _=>(arrOf st).map (·.2))).get? D=some (seqObj "list" ((arrOf st).map (·.2)) c2) :=
   ⟨_,get?_update_seq na1 fun _=>(arrOf st).map (·.2)⟩
  refine qa (listUpdate_at hk rfl ?_ (by rw [hsz,sizeLine_eq];omega) (qB _));refine qa (jc ?_);refine qa (seqEpoch_at na1 rfl ?_);simp only [Bool.false_eq_true,if_false];refine qa (listUpdate_at na1 rfl ?_ (qB _) (by rw [Array.size_map,hsz2,sizeLine_eq];omega));rw [hfl];simp only [bne_self_eq_false,Bool.false_eq_true,if_false];have I1:=I.turn1 (t':=s.toks) (h':=s.heap.update kS (Obj.mapSeq fun _=>(#[]:Array Value))) F2 fun b o hb q=>by rw [yQ _ _ _ _ hb];exact q
  refine qc (fin ps q1 q2 _ (I1.adopt (t':=s.toks) F1 (fun b o hb q=>by rw [yQ _ _ _ _ hb];exact q) ⟨?_,((arrOf st).map (·.2)).toList,c2,?_,by rw [Array.toArray_toList];exact hc2⟩))
  .rw [List.length_map,q1.length_eq,List.length_zip,sizeLine_eq];omega
  .rw [Array.toList_map];exact q3
 unfold ksk_end
 try dsimp only
 simp only [Bool.false_eq_true,if_false];by_cases h2:its.toArray.size<2
 .rw [if_pos h2,if_pos h2];refine qa (qc ?_);rw [StateT.run_pure];refine qa (qc ?_)
  try dsimp only
  refine tail (SortSt.mk' general' (kA.zip its.toArray) #[] 7 none) (Array.Perm.refl _) ?_ rfl;rw [List.size_toArray] at h2;have:(kA.zip its.toArray).toList.length<2:=by rw [Array.length_toList,hzs];exact h2
  show SdK (kfF s.heap) (kA.zip its.toArray).toList;generalize (kA.zip its.toArray).toList=zs at this;match zs,this with
  | [],_=>exact .nil
  | [a],_=>exact List.pairwise_singleton _ _
  | _::_::_,h=>exact absurd h (by simp)
 .rw [if_neg h2,if_neg h2];rw [List.size_toArray] at h2;have ek:kA=kA.toList.toArray:=by simp
  have kd:=qeo (prog:=X.prog) (w:=X.w) (A:=A) (E:=E) (Q:=fun k s'=>k=tuples' true/\s'=s) hK (by rw [Array.length_toList,hsz];omega) ⟨rfl,rfl⟩;rw [<- ek] at kd;refine qa (qp kd (fun k s' h=>?_) fun _ _ z=>z);obtain ⟨rfl,rfl⟩:=h;have hD6:∀ x∈(kA.zip its.toArray).toList,∃ ks,yY s'.heap x.1 ks:=fun x hx=>by
   rw [ksk_zip] at hx;obtain ⟨L,e1,e2,e3⟩:=qa6 hK rv;rw [e1] at hx;obtain ⟨t,ht,rfl⟩:=ql.mp hx;exact ⟨_,(e3 t ht).1⟩
  have run:=Yp (prog:=X.prog) (w:=X.w) (A:=A) (E:=E) (s:=s') (st:=SortSt.mk' (tuples' true) (kA.zip its.toArray) #[] 7 none) (a0:=kA.zip its.toArray)
   (Q:=fun _ st'=>(arrOf st').Perm (kA.zip its.toArray)/\SdK (kfF s'.heap) (arrOf st').toList/\failedOf st'=none)
   (qcl (s:=s')) (qg1 s'.heap) rfl rfl rfl rfl hD6 (by rw [hzs];omega) (by rw [hzs];omega) (fun st' hp hf hs=>⟨hp,hs,hf⟩)
  refine qa (qp (show wpAny (model X.prog X.w) A (sortRuns'.run _) _ E _ from run) ?_ fun _ _ e=>e);rintro ⟨⟨⟩,st'⟩ s'' ⟨rfl,hp,hs,hf⟩;exact tail st' hp hs hf
theorem qct {l f:Addr}{vs:List V}{its:List Value}{T:List V->Hp->Prop}{Q:VK}{E:Value->Shared->Prop}(I:Inv X pins σ H s) (hL:s.heap.IsList l its.toArray) (rv:yy vs its) (hl:vs.length<64) (t0:T [] H)
  (turn:∀ ks H1 s1 v u pl,Inv X (pins++pl) σ H1 s1->T ks H1->vs[ks.length]?=some v->jb v u->wpAny (model X.prog X.w) X.A.in1.in1 (call (.ref f) [u]) (EP X (pins++pl) σ fun w H2=>T (ks++[w]) H2) (fun _ _=>False) s1)
  (fin:∀ ks H1,ks.length=vs.length->T ks H1->∃ kss,PySem.Paired (JA X.K H1) ks kss/\∀ (D:Addr) (ps:List (List Int×V)),H1 D=none->ps.Perm (kss.zip vs)->(ps.Pairwise fun a b=>¬ b.1<a.1)->Q (.ref D) (upd H1 D (.lst (ps.map (·.2))))) :
  wpAny (model X.prog X.w) X.A (call (.builtin "sorted") [.ref l] [(Str.ofString "key",.ref f)]) (EP X pins σ Q) E s:=by
 have hlen:=rv.length;refine call_function_entry_kw kind_sorted plain_sorted entry_sorted (ksk_s1 _ _) ?_;unfold Builtin.«sorted»;refine qa (m:=checkCount "sorted" 1 1 _) (qc ?_);refine qa (collect_list hL ?_ (by rw [sizeLine_eq];omega));refine qa (wpAny_newList ?_ (by rw [sizeLine_eq];omega));have hsz:((s.heap.push (seqObj "list" #[] 0)).update s.heap.objs.size (Obj.mapSeq (·++its.toArray))).objs.size=s.heap.objs.size+1:=by rw [Heap.size_update,size_push']
 have hoL:(((s.heap.push (seqObj "list" #[] 0)).update s.heap.objs.size (Obj.mapSeq (·++its.toArray))).push (seqObj "list" its.toArray 0)).get? (s.heap.objs.size+1)=some (seqObj "list" its.toArray 0):=by rw [<- hsz];exact qj _ rfl
 have keep:∀ b o,s.heap.get? b=some o->(((s.heap.push (seqObj "list" #[] 0)).update s.heap.objs.size (Obj.mapSeq (·++its.toArray))).push (seqObj "list" its.toArray 0)).get? b=some o:=fun b o q=>by
  have hlt:b<s.heap.objs.size:=qi q;rw [Heap.get?_push_ne _ _ _ (by rw [hsz];exact qg (qT hlt)),yQ _ _ _ _ (qg hlt),Heap.get?_push_ne _ _ _ (qg hlt)];exact q
 have hsz2:(((s.heap.push (seqObj "list" #[] 0)).update s.heap.objs.size (Obj.mapSeq (·++its.toArray))).push (seqObj "list" its.toArray 0)).objs.size=s.heap.objs.size+2:=by rw [size_push',hsz]
 show wpAny _ _ _ _ _ { s with heap:=((s.heap.push (seqObj "list" #[] 0)).update s.heap.objs.size (Obj.mapSeq (·++its.toArray))).push (seqObj "list" its.toArray 0) };rw [hsz];generalize ((s.heap.push (seqObj "list" #[] 0)).update s.heap.objs.size (Obj.mapSeq (·++its.toArray))).push (seqObj "list" its.toArray 0)=h1 at *;have I1:Inv X pins σ H { s with heap:=h1 }:=I.kept (t':=s.toks) keep;have FD:Jl X pins H (s.heap.objs.size+1):=I.fpOk (Nat.le_succ _) (I.hok.fresh (Nat.le_succ _));refine qa (qH (wpAny_call_entry_kw slot_list_sort ⟨_,hoL,rfl⟩ entry_list_sort ?body (ksk_l1 _ _)));case body =>
  show wpAny (model X.prog X.w) X.A.in1.in1 (Builtin.«list.sort» ⟨[.ref (s.heap.objs.size+1)],[(Str.ofString "key",.ref f)]⟩) _ _ _;rw [ksk_t1];obtain ⟨e1,ho1⟩:∃ e1,(h1.update (s.heap.objs.size+1) (Obj.mapSeq fun _=>(#[]:Array Value))).get? (s.heap.objs.size+1)=some (seqObj "list" #[] e1):=⟨_,get?_update_seq hoL fun _=>#[]⟩;have I2:=I1.turn1 (t':=s.toks) (h':=h1.update (s.heap.objs.size+1) (Obj.mapSeq fun _=>(#[]:Array Value))) FD fun b o hb q=>by rw [yQ _ _ _ _ hb];exact q
  have z2:(h1.update (s.heap.objs.size+1) (Obj.mapSeq fun _=>(#[]:Array Value))).objs.size=s.heap.objs.size+2:=by rw [Heap.size_update,hsz2]
  unfold ksk_tree;refine qa (listItems_at hoL rfl ?_);refine qa (listUpdate_at hoL rfl ?_ (by rw [List.size_toArray,sizeLine_eq];omega) (qB _));refine qa (seqEpoch_at ho1 rfl ?_);refine qa (wpAny_newTuple ?_ (by show its.length<=_;rw [sizeLine_eq];omega));refine qa (wpAny_newList ?_ (qB _));refine qH ?_;generalize h1.update (s.heap.objs.size+1) (Obj.mapSeq fun _=>(#[]:Array Value))=h2 at *;have z3:(h2.push (seqObj "tuple" its.toArray 0)).objs.size=s.heap.objs.size+3:=by rw [size_push',z2]
  have k3:∀ b o,h2.get? b=some o->((h2.push (seqObj "tuple" its.toArray 0)).push (seqObj "list" #[] 0)).get? b=some o:=fun b o q=>qb _ (qb _ q);have hkS:((h2.push (seqObj "tuple" its.toArray 0)).push (seqObj "list" #[] 0)).get? (s.heap.objs.size+3)=some (seqObj "list" #[] 0):=by rw [<- z3];exact qj _ rfl
  have I3:Inv X pins σ H { s with heap:=(h2.push (seqObj "tuple" its.toArray 0)).push (seqObj "list" #[] 0) }:=I2.kept (t':=s.toks) k3;have FK:Jl X pins H (s.heap.objs.size+3):=I.fpOk (qR _ 3) (I.hok.fresh (qR _ 3));have hne:s.heap.objs.size+1≠s.heap.objs.size+3:=by omega
  show wpAny (model X.prog X.w) X.A.in1.in1 (ksk_rest (s.heap.objs.size+1) (.ref f) false its.toArray e1 (.ref (h2.push (seqObj "tuple" its.toArray 0)).objs.size)) _ _ { s with heap:=(h2.push (seqObj "tuple" its.toArray 0)).push (seqObj "list" #[] 0) };rw [z3];refine qiH (T:=T) FD FK hne I3 (k3 _ _ ho1) hkS rv hl t0 turn fun ks H1 s1 kA e J j1 j2 n1 n2 r1 l1 t1=>?_;obtain ⟨kss,hT,q⟩:=fin ks H1 l1 t1;refine qkX (FD.at n1) (FK.at n2) hne J j1 j2 rv hl r1 l1 hT fun ps p1 p2 s' J'=>⟨_,rfl,?_⟩;exact qc ⟨_,rfl,.ref (s.heap.objs.size+1),_,J',rfl,q _ ps n1 p1 p2⟩
end
end L2
namespace L2
open PySem PySem.Spec PyProof.Rows PySem.W
def tabC (pos:Pos) (c:Addr):HO:=.tbl #[rawInt pos.line,rawInt pos.col,.ref c]
def qgy (K:W.Frag) (P:Addr) (qual:Str) (lp:Pos) (i:Nat) (tl te:TE):TE:=fun σ H Q=>tl σ H fun v H1=>∃ l us y u,v = .ref l/\SqL K H1 l us/\us.length<64/\σ[i]?=some (some y)/\H1 P=some u/\qjp qual lp H1 u ∧
 ∀ H2 c',(∀ b o,H1 b=some o->b≠P->H2 b=some o)->H2 P=some (tabC lp c')->H2 c'=some (qaS c' qual)->(H1 c'=none\/H2=H1) →
  ∃ T:List V->Hp->Prop,T [] H2/\(∀ ks H3,T ks H3->H3 c'=some (qaS c' qual))/\(∀ ks H3 v,T ks H3->us[ks.length]?=some v->te [some v,some y] H3 fun w H4=>T (ks++[w]) H4) ∧
   ∀ ks H3,ks.length=us.length->T ks H3->∃ kss,PySem.Paired (JA K H3) ks kss/\∀ (D:Addr) (ps:List (List Int×V)),H3 D=none->ps.Perm (kss.zip us)->(ps.Pairwise fun a b=>¬ b.1<a.1)->Q (.ref D) (upd H3 D (.lst (ps.map (·.2))))
section
variable {X:Cx}{x y:Str}{params:Arguments}{le body:Expr}{scope:Scope}{lp kp p p':Pos}{qual:Str}{P c:Addr}{tl te:TE}{k i:Nat}
theorem qfM (hB:Y1 X.base X.mg) (hC:CodeHd X.base c P) (hcode:X.env.code = .ref c) (hq:X.env.qual ++ "<lambda>" = qual) (hdef:defaultsOf params X.env=([],[])) (S:LamSc x y scope) (hyf:∀ z∈scope.names,z.2 = .free->z.1=y)
  (hyX:X.env.scope.names.lookup y=some .cell) (hN:X.N[i]?=some y) (hg:Gl X "sorted") (hm:X.mg "sorted" = none) (hr:Room (k+1) X.A.in1.in1)
  (hb:∀ (clos:List (Str×Addr)) (pm cd ctv u:Value),bindArgs (kla_fn "<lambda>" qual params body scope clos pm cd ctv) ⟨[u],[]⟩=pure [(x,u)])
  (hl:PE X le tl) (he:∀ f c' cl s H,Room k (X.A.in1.in1.deeper (envX qual scope s.heap.objs.size f (.ref c') cl))->PE (qeT X X.A.in1.in1 [x,y] qual scope f (.ref c') cl s H) body te)
  (hs1:starEach [le] X.env=(false,eval le X.env)::starEach [] X.env:=by rfl) :
  PE X (.Call (.Name "sorted" p) [le] [⟨some "key",.Lambda params body scope lp,kp⟩] p') (qgy X.K P qual lp i tl te):=by
 intro pins s σ H Q I h;obtain ⟨cl,hcl,hc1,hc2⟩:=jV (env:=X.env) (scope:=scope) fun z hz hfr=>by
  rw [hyf z hz hfr];exact I.ok.has y (.inl hyX)
 refine wpAny_Call_Name_kw (JE I hg hm jF (callWith_kw ?_ (by rw [hs1];rfl) (by rw [hs1];rfl)));have sp:backTo p' (starEach [le] X.env)=(false,eval le X.env)::backTo p' (starEach [] X.env):=by rw [hs1];rfl
 rw [sp];refine Calls.spliced_cons (thn (hl pins s σ H _ I h) fun u s1 ⟨v,H1,I1,r1,q1⟩=>Calls.spliced_nil ?_);obtain ⟨l,us,yv,tb,rfl,hS,hz,hσ,hP,hT,q⟩:=q1;cases r1
 refine kws_cons (qf1 I1 hB hC hcode hq hP hT hdef hcl fun f c' ctv pm H2 s2 I2 hf hfn hfz hc' hP' hor hk1 hk2=>kws_nil ?_);obtain ⟨T,t0,tc,ts,tf⟩:=q H2 c' hk1 hP' hc' hor;have hSP:∀ us,SqL X.K H1 l us->SqL X.K H2 l us:=fun us z=>by
  have nl:∀ o,H1 l=some o->(∀ ps,o≠.tbl ps)->l≠P:=fun o e hu z=>by
   obtain ⟨ps,e2,_⟩:=hT;rw [z,hP,e2] at e;cases e
   exact hu ps rfl
  rcases z with (e | ⟨o,e⟩) | e
  .exact .inl (.inl (hk1 _ _ e (nl _ e fun _ z=>by cases z)))
  .exact .inl (.inr ⟨o,hk1 _ _ e (nl _ e fun _ z=>by cases z)⟩)
  .exact .inr e
 obtain ⟨its,rv,pl,_⟩:=I2.list (hSP us hS);have Ff:Jl X pins H2 f:=I1.fpOk hfz hfn;have I3:=I2.pin1 Ff hf (fun v z=>by cases z);refine qp (qct (T:=T) (Q:=Q) (E:=X.xe) I3 pl.isList rv hz t0 (fun ks H3 s3 v u pl2 J t3 hv rvu=>?_) tf) (fun r s4 h4=>?_) fun _ _ z=>z
 .have fo:=(J.pin (f,kla_obj "<lambda>" qual params body scope cl pm c' ctv) (by simp)).1;obtain ⟨m,hns,hlk⟩:=id J.loc;obtain ⟨uy,ry,lk⟩:=hlk i y yv hN hσ (.inr (.inl hyX));obtain ⟨cy,hcy,hcell⟩:∃ cy,cl.lookup y=some cy/\s3.heap.IsCell cy (some uy):=by
   obtain ⟨cy,e⟩:=hc2 (y,.free) (PySem.mem_of_lookup S.fr) rfl;refine ⟨cy,e,?_⟩;rcases lk with ⟨z,_⟩ | ⟨_,c2,e2,z⟩
   .have z:X.env.scope.names.lookup y=some .local:=z;rw [hyX] at z;cases z
   .rw [hc1 _ _ e] at e2;cases e2
    exact z
  have hcd:s3.heap.CodeRec (.ref c') qual:=(J.hok c' _ (tc ks H3 t3)).1;exact qf2 (A:=X.A.in1.in1) J S J.ok.frames hr hc1 hc2 fo hcd (fun u=>hb cl pm (.ref c') ctv u) rvu hcy hcell ry (fun rm=>he f c' cl s3 H3 rm) (ts ks H3 v t3 hv)
 .obtain ⟨w,H',J,rw',qw⟩:=h4;exact ⟨w,H',J.unpinned,rw',qw⟩
end
def Ys (q:Str) (pos:Pos):MSt where
 R:=qjp q pos
 st:=fun H H' u s ⟨ps,e,h⟩=>⟨ps,e,h.imp id fun ⟨c,e,h⟩=>⟨c,e,s _ _ h⟩⟩
 nt:=fun H u xs ⟨ps,e,_⟩ z=>by rw [e] at z;cases z
 ml:=fun H H' a xs u ha k ⟨ps,e,h⟩=>⟨ps,e,h.imp id fun ⟨c,e,h⟩=>⟨c,e,k _ _ h fun z=>by rw [z,ha] at h;cases h⟩⟩
def qhd (P:Addr) (q:Str) (pos:Pos) (i:Nat) (tl te:TEd):TEd:=fun ρ U Q=>tl ρ U fun e U1=>∃ (zs:List (List Int)) (g:En) (key:List Int->List Int),LstOf U1 e (zs.map jQ)/\zs.length<64/\ρ[i]?=some (some g)/\(P,MO.any (Ys q pos))∈U1/\(∀ z,key z≠[]) ∧
 (∀ z∈zs,te [some (.d (jQ z)),some g] U1 fun w U2=>U2=U1/\w = .d (jQ (key z))) ∧
 ∀ ps:List (List Int),ps.Perm zs->(ps.Pairwise fun a b=>¬ key b<key a)->Q (.d (.list (ps.map jQ))) U1
theorem YA {Z β:Type}{F:Z->β->Prop}{a:Z}{b:β}(h:F a b):∀ {l:List Z}{m:List β},PySem.Paired F l m->PySem.Paired F (l++[a]) (m++[b])
 | _,_,.nil=>.cons h .nil
 | _,_,.cons x t=>.cons x (YA h t)
theorem IsAll.getA {K:W.Frag}{H:Hp}{vs:List V}{zs:List (List Int)}(h:IsAll K H vs (zs.map jQ)) {j:Nat}{v:V}(e:vs[j]?=some v):∃ z,zs[j]?=some z/\Is K H v (jQ z):=by
 obtain ⟨d,e1,e2⟩:=h.get e;rw [List.getElem?_map] at e1;cases q:zs[j]? with
 | none=>rw [q] at e1;cases e1
 | some z=>rw [q] at e1;cases e1;exact ⟨z,rfl,e2⟩
theorem qbI {K:W.Frag}{H:Hp}{key:List Int->List Int}:∀ {zs:List (List Int)}{us:List V},IsAll K H us (zs.map jQ)->∃ L:List (List Int×V),(zs.map key).zip us=L.map (fun t=>(key t.1,t.2))/\L.map (·.1)=zs/\∀ t∈L,Is K H t.2 (jQ t.1)
 | [],_,.nil=>⟨[],rfl,rfl,fun _ z=>nomatch z⟩
 | z::zs,u::us,.cons r t=>by
  obtain ⟨L,e1,e2,e3⟩:=qbI (key:=key) t;refine ⟨(z,u)::L,by simp [e1],by simp [e2],fun t ht=>?_⟩;rcases List.mem_cons.mp ht with rfl | ht
  .exact r
  .exact e3 t ht
theorem qay {K:W.Frag}{H:Hp}:∀ {L:List (List Int×V)},(∀ t∈L,Is K H t.2 (jQ t.1))->IsAll K H (L.map (·.2)) ((L.map (·.1)).map jQ)
 | [],_=>.nil
 | t::L,h=>.cons (h t qe) (qay fun u hu=>h u (qf _ hu))
section
variable {K:W.Frag}{P:Addr}{q:Str}{pos:Pos}{i:Nat}{tl te:TEd}
theorem qfn {σ:St}{H:Hp}{Q:VK}(h:up K (qhd P q pos i tl te) σ H Q):qgy K P q pos i (up K tl) (up K te) σ H Q:=by
 obtain ⟨ρ,U,Q0,hS,hM,h,cl⟩:=h;refine ⟨ρ,U,_,hS,hM,h,fun e U1 v H1 h1 M1 s1 i1=>?_⟩;obtain ⟨zs,g,key,hL,hz,hg,hP,hk,ht,hq⟩:=h1;obtain ⟨l,us,rfl,hl,hA⟩:=hL.get M1 i1;obtain ⟨y,hy,iy⟩:=(hS.same s1).get i g hg;obtain ⟨u,hu,tu⟩:=M1.ob P _ hP;have ulen:us.length=zs.length:=by rw [hA.len,List.length_map]
 refine ⟨l,us,y,u,rfl,hl,by omega,hy,hu,(Ys q pos).st _ _ _ yt tu,fun H2 c' kp hP2 hc2 hor=>?_⟩;obtain ⟨Ua,Ub,rfl⟩:=List.append_of_mem hP
 -- the code's object is none of those that may change
 have hcm:c'∉(Ua++(P,MO.any (Ys q pos))::Ub).map Prod.fst:=by
  rcases hor with hn | rfl
  .intro z;obtain ⟨⟨a,o⟩,ho,rfl⟩:=ql.mp z;obtain ⟨x,e⟩:=(M1.ob a o ho).some;rw [hn] at e;cases e
  .rw [hP2] at hu;cases hu
   obtain ⟨ps,e,hps⟩:=tu;rcases hps with rfl | ⟨c,rfl,hc⟩
   .unfold tabC at e;cases e
   .unfold tabC at e;cases e
    exact (Jc hc).1
 obtain ⟨M2,s2⟩:=M1.write (o':=MO.any (Ys q pos)) kp fun ss=>⟨_,hP2,_,rfl,.inr ⟨c',rfl,by rw [qX hcm];exact hc2⟩⟩;have iy2:=iy.same s2;have hA2:=hA.same s2;refine ⟨fun ks H3=>RelM K (Ua++(P,MO.any (Ys q pos))::Ub) H3/\yd (mask (Ua++(P,MO.any (Ys q pos))::Ub) H2) (mask (Ua++(P,MO.any (Ys q pos))::Ub) H3)/\PySem.Paired (JA K (mask (Ua++(P,MO.any (Ys q pos))::Ub) H3)) ks ((zs.take ks.length).map key),⟨M2,yd.refl _,.nil⟩,fun ks H3 ⟨_,s3,_⟩=>?_,fun ks H3 v ⟨M3,s3,p3⟩ hv=>?_,fun ks H3 hkl ⟨M3,s3,p3⟩=>?_⟩
 .exact yt _ _ (s3 _ _ (by rw [qX hcm];exact hc2))
 .obtain ⟨z,hz,iz⟩:=(hA2.same s3).getA hv;have hzm:z∈zs:=List.mem_of_getElem? hz;refine ⟨[some (.d (jQ z)),some g],_,_,⟨rfl,fun j e he=>?_⟩,M3,ht z hzm,fun w U4 x H4 q4 M4 s4 i4=>?_⟩
  .match j,he with
   | 0,he=>cases he;exact ⟨v,rfl,iz⟩
   | 1,he=>cases he;exact ⟨y,rfl,iy2.same s3⟩
   | j+2,he=>simp at he
  .obtain ⟨rfl,rfl⟩:=q4;have i4:Is K (mask (Ua++(P,MO.any (Ys q pos))::Ub) H4) x (jQ (key z)):=i4;have tz:JA K (mask (Ua++(P,MO.any (Ys q pos))::Ub) H4) x (key z):=by
    have:=IsAll.tups (K:=K) (us:=[x]) (kss:=[key z]) (.cons i4 .nil) (fun k hk'=>by rw [qA.mp hk'];exact hk z);cases this with
    | cons a b=>exact a
   refine ⟨M4,s3.trans s4,?_⟩;have e:(zs.take (ks++[x]).length).map key=(zs.take ks.length).map key++[key z]:=by
    rw [List.length_append,List.length_singleton,List.take_add_one,hz];simp
   rw [e];exact YA tz (jm p3 fun a _ b h=>h.same s4)
 .rw [List.take_of_length_le (by omega)] at p3;refine ⟨zs.map key,jm p3 fun a _ b h=>h.up,fun D ps hD pp pw=>?_⟩;obtain ⟨L,e1,e2,e3⟩:=qbI (key:=key) hA2;rw [e1] at pp;obtain ⟨l2,p1,p2⟩:=Yl (fun t:List Int×V=>(key t.1,t.2)) pp rfl;obtain ⟨M4,s4,hn⟩:=M3.laid (o:=.lst (ps.map (·.2))) hD;have hw:ps.map (·.2)=l2.map (·.2):=by rw [p2,List.map_map];rfl
  have pz:(l2.map (·.1)).Perm zs:=by rw [<- e2];exact p1.map _
  refine cl _ _ _ _ (hq (l2.map (·.1)) pz ?_) M4 (((s1.trans s2).trans s3).trans s4) (.lst (SqL.of (by rw [qX hn];exact qE)) ?_)
  .rw [p2,yh] at pw;rw [yh];exact pw
  .have:=qay (L:=l2) fun t ht=>((e3 t (p1.mem_iff.mp ht)).same s3).same s4;rw [<- hw] at this;exact this
variable {X:Cx}{x y:Str}{params:Arguments}{le body:Expr}{scope:Scope}{kp p p':Pos}{c:Addr}{k:Nat}
theorem qi4 (hB:Y1 X.base X.mg) (hC:CodeHd X.base c P) (hcode:X.env.code = .ref c) (hq:X.env.qual ++ "<lambda>" = q) (hdef:defaultsOf params X.env=([],[])) (S:LamSc x y scope) (hyf:∀ z∈scope.names,z.2 = .free->z.1=y)
  (hyX:X.env.scope.names.lookup y=some .cell) (hN:X.N[i]?=some y) (hg:Gl X "sorted") (hm:X.mg "sorted" = none) (hr:Room (k+1) X.A.in1.in1)
  (hb:∀ (clos:List (Str×Addr)) (pm cd ctv u:Value),bindArgs (kla_fn "<lambda>" q params body scope clos pm cd ctv) ⟨[u],[]⟩=pure [(x,u)])
  (hl:DE K X le tl) (he:∀ f c' cl s H,Room k (X.A.in1.in1.deeper (envX q scope s.heap.objs.size f (.ref c') cl))->DE K (qeT X X.A.in1.in1 [x,y] q scope f (.ref c') cl s H) body te)
  (hK:X.K=K:=by rfl) (hs1:starEach [le] X.env=(false,eval le X.env)::starEach [] X.env:=by rfl) :
  DE K X (.Call (.Name "sorted" p) [le] [⟨some "key",.Lambda params body scope pos,kp⟩] p') (qhd P q pos i tl te):=by
 subst hK;exact PE.mono (qfM hB hC hcode hq hdef S hyf hyX hN hg hm hr hb hl he hs1) fun _ _ _=>qfn
end
end L2
namespace L2
open PySem PySem.Spec PyProof.Rows PySem.W
theorem qel {P:Program}{w:World}{K:W.Frag}{mg mb:Str->Option Value}{CX:CXT}{k:Nat}{fa a tb c:Addr}{fd:FuncData}{x:Str}{sp:Sp}{sa1:Shared}{vs:List Value}{ns:List Int}
  (KX:K.In sa1.heap) (hns:sa1.heap.Ns mainGlobals mg) (hb:sa1.heap.Ns builtinsNs mb) (hbb:∀ x:Str,x ≠ "__name__" -> mb x=bootBuiltins x) (hlim:sa1.heap.NoLimit) (hg:sa1.gens=#[])
  (ha:sa1.heap.get? a=some { cls:=.type "list",data:=.seq vs.toArray }) (hi:IntsAre vs ns) (hl:ns.length<=sizeLine) (hr:Room k callerA)
  (hbm:Y1 sa1.heap mg) (hT:sa1.heap.get? tb=some (tabObj #[])) (hC:CodeHd sa1.heap c tb) (hKt:K.lookup tb=none)
  (F:∀ base:Heap,K.In base->base.Ns mainGlobals mg->Y1 base mg->FnOk P w K mg base CX k fa fd [x] sp) (hbind:∀ (s:Shared) (u:Value),BindsTo s fd ⟨[u],[]⟩ [(x,u)])
  (hsp:∀ H:Hp,H tb=some (.tbl #[])->SqL K H a (ns.map V.int)->sp [.ref a] H (fun v _=>v = .bl true) fun _ _ _=>False)
  (hCX:∀ H e s',CX [] H sa1 (fun _ _ _=>False) e s'->False) :
  codeAny (model P w) callerA (.call (.ref fa) ⟨[.ref a],[]⟩) (fun r s'=>r = .ok (.ret (.bool true))/\OldK sa1.heap s'.heap/\s'.os=sa1.os/\AllBare s'.gens) sa1:=by
 have rv:=Z6 hi;have lenV:=hi.length;have hta:tb≠a:=fun z=>by
  rw [z,ha] at hT;cases hT
 have core:∀ G:Hp,Only G->SqL K G a (ns.map V.int)->HOk P w G sa1.heap->(∀ b,G b≠none->b=a)->(G a≠none->K.lookup a=none) →
   codeAny (model P w) callerA (.call (.ref fa) ⟨[.ref a],[]⟩) (fun r s'=>r = .ok (.ret (.bool true))/\OldK sa1.heap s'.heap/\s'.os=sa1.os/\AllBare s'.gens) sa1:=by
  intro G hO hS hokG hAG hKG;have hGt:G tb=none:=by
   cases q:G tb with
   | none=>rfl
   | some u=>exact absurd (hAG tb (by rw [q];simp)) hta
  have hHt:upd G tb (.tbl #[]) tb=some (.tbl #[]):=qE;have hHS:SqL K (upd G tb (.tbl #[])) a (ns.map V.int):=by
   rcases hS with (e | ⟨o,e⟩) | e
   .exact .inl (.inl (by rw [qC (Ne.symm hta)];exact e))
   .exact .inl (.inr ⟨o,by rw [qC (Ne.symm hta)];exact e⟩)
   .exact .inr e
  have hok:HOk P w (upd G tb (.tbl #[])) sa1.heap:=fun b u e=>by
   by_cases z:b=tb
   .subst z;rw [qE] at e;cases e
    exact hT
   .rw [qC z] at e;exact (hokG b u e).stay (fun c v hc q=>q) (fun c q=>by rw [qC (qt q hGt)];exact q) fun c xs q=>by rw [qC (qt q hGt)];exact q
  have hA:∀ b,upd G tb (.tbl #[]) b≠none->b=tb\/b=a:=fun b h=>by
   by_cases z:b=tb
   .exact .inl z
   .rw [qC z] at h;exact .inr (hAG b h)
  have hO2:∀ b,upd G tb (.tbl #[]) b=none\/b=tb\/∃ o xs,upd G tb (.tbl #[]) b=some (.frz o (.lst xs)):=fun b=>by
   by_cases z:b=tb
   .exact .inr (.inl z)
   .rw [qC z];rcases hO b with h | h
    .exact .inl h
    .exact .inr (.inr h)
  have hKa:upd G tb (.tbl #[]) a≠none->K.lookup a=none:=fun h=>hKG (by rw [qC (Ne.symm hta)] at h;exact h);generalize upd G tb (.tbl #[])=H at *;have base_of:∀ {b:Addr}{o:Obj},sa1.heap.get? b=some o->H b=none->(qfi sa1.heap H).get? b=some o:=fun e n=>qf7 e n;have noA:∀ {b:Addr}{o:Obj},sa1.heap.get? b=some o->(∀ xs n,o.data≠.seq xs n)->(∀ xs,o.data≠.fields xs)->H b=none:=fun {b o} e d1 d2=>by
   cases q:H b with
   | none=>rfl
   | some u =>
    rcases hA b (by rw [q];simp) with e' | e'
    .subst e';rw [hT] at e;cases e;exact absurd rfl (d2 _)
    .subst e';rw [ha] at e;cases e;exact absurd rfl (d1 _ _)
  have nsK:∀ {b:Addr}{m:Str->Option Value},sa1.heap.Ns b m->(qfi sa1.heap H).Ns b m:=fun {b m} ⟨o,es,ep,e,d,r⟩=>⟨o,es,ep,base_of e (noA e (fun _ _ z=>by rw [d] at z;cases z) (fun _ z=>by rw [d] at z;cases z)),d,r⟩;have hKb:K.In (qfi sa1.heap H):=fun b o e=>base_of (KX b o e) (by
   cases q:H b with
   | none=>rfl
   | some u =>
    rcases hA b (by rw [q];simp) with e' | e'
    .subst e';rw [hKt] at e;cases e
    .subst e';rw [hKa (by rw [q];simp)] at e;cases e)
  have hB:Y1 (qfi sa1.heap H) mg:=by
   obtain ⟨bm,ob,b1,b2,b3,b4,b5,b6⟩:=hbm;exact ⟨bm,ob,b1,b2,base_of b3 (noA b3 (fun _ _ z=>by rw [b6] at z;cases z) (fun _ z=>by rw [b6] at z;cases z)),b4,b5,b6⟩
  have hM:Mod K mg (qfi sa1.heap H):=⟨hKb,nsK hns,⟨mb,nsK hb,hbb⟩,let ⟨mc,h1,h2⟩:=hlim;⟨mc,nsK h1,h2⟩⟩;have e0:Env0 P w K mg (qfi sa1.heap H) callerA [] sa1 H:=⟨rfl,hM,fun b o e=>qix e,Nat.le_of_eq (qeA _ _),trivial,fun b hb=>absurd (show b∈([]:List Addr) from hb) (by simp),hok,.of_eq hg⟩;refine codeAny_mono ((F _ hKb (nsK hns) hB).run callerA [] sa1 H ⟨[.ref a],[]⟩ [.ref a] [.ref a] _ _ hr e0 (hbind sa1 (.ref a)) (.cons rfl .nil) (hsp H hHt hHS)) fun r s' h=>?_;cases r with
  | error e=>exact (hCX H e s' h).elim
  | ok fl =>
   cases fl with
   | next=>exact False.elim h
   | brk=>exact False.elim h
   | cont=>exact False.elim h
   | ret u =>
    obtain ⟨v,H',os,bare,un,hok',r',q⟩:=h;have q':v = .bl true:=q;subst q';obtain rfl:u=Value.bool true:=r';obtain ⟨more,ht'⟩:=un.tbls tb #[] hHt;have hg':s'.heap.get? tb=some (tabObj more):=by
     have:=hok' tb _ ht';rw [Array.empty_append] at this;exact this
    have keep:∀ b o,b≠tb->sa1.heap.get? b=some o->s'.heap.get? b=some o:=fun b o hb e=>by
     cases q:H b with
     | none=>exact un.keep b o e q (by intro z;exact absurd (show b∈([]:List Addr) from z) (by simp)) (by simp)
     | some u =>
      rcases hO2 b with z | z | ⟨ob,xs,z⟩
      .rw [q] at z;cases z
      .exact absurd z hb
      .have z2:=un.frzs b ob _ z;obtain ⟨e1,_⟩:=hok b _ z;obtain ⟨e2,_⟩:=hok' b _ z2;rw [e] at e1;cases e1;exact e2
    refine ⟨rfl,⟨fun b o e=>?_,fun b o e=>?_⟩,os,bare⟩
    .by_cases hb:b=tb
     .subst hb;rw [hT] at e;cases e
      exact .inr (.inl ⟨(hC.tab hT).isCodeTable,rfl,#[],more,rfl,by rw [Array.empty_append];exact hg'⟩)
     .exact .inl (keep b o hb e)
    .by_cases hb:b=tb
     .exact ⟨_,hb ▸ hg'⟩
     .exact ⟨o,keep b o hb e⟩
 cases hk:K.lookup a with
 | some o =>
  have e:=KX a o hk;rw [ha] at e;cases e
  refine core (fun _=>none) (fun _=>.inl rfl) (.inr ⟨_,vs.toArray,_,hk,rfl,rfl,rfl,by rw [List.size_toArray,lenV];exact hl,by simpa using rv⟩) (fun b u z=>by have z':(none:Option HO)=some u:=z;cases z') (fun b z=>absurd rfl z) fun z=>absurd rfl z
 | none =>
  refine core (fun b=>if b=a then some (.frz { cls:=.type "list",data:=.seq vs.toArray } (.lst (ns.map V.int))) else none) (fun b=>?_) (.inl (.inr ⟨{ cls:=.type "list",data:=.seq vs.toArray },if_pos rfl⟩)) (fun b u z=>?_) (fun b z=>?_) fun _=>hk
  .by_cases hb:b=a
   .exact .inr ⟨_,_,if_pos hb⟩
   .exact .inl (if_neg hb)
  .by_cases hb:b=a
   .have z':=(if_pos hb).symm.trans z;cases z'
    subst hb;exact ⟨ha,by rw [List.length_map];exact hl,vs,_,rv,ha⟩
   .have z':=(if_neg hb).symm.trans z;cases z'
  .by_cases hb:b=a
   .exact hb
   .exact absurd (if_neg hb) z
theorem walk_ofT {l:W.OpenLaw}{n k:Nat}{q:Program}{loose:List Str}{XP:(Str->Option Value)->Heap->Prop}{YP:World->Heap->Prop}{d:DefRec}{K:Params->W.Frag}{CX:World->CXT}{sp:World->Sp}{x:Str}(tb c:Addr)
  (hn:l.most=some n) (hn2:n<=sizeLine) (hdf:d.params.defaults=[]) (hr:Room k callerA)
  (hY:∀ (w:World) (h:Heap),YP w h->(K w.params).In h) (hYt:∀ (w:World) (h:Heap),YP w h->h.get? tb=some (tabObj #[])) (hKt:∀ w:World,(K w.params).lookup tb=none) (hCt:∀ w:World,codeHdIn (K w.params) c tb=true)
  (F:∀ (w:World) (mg:Str->Option Value) (fa:Addr) (h:Heap),(K w.params).In h->h.Ns mainGlobals mg->mg d.name=some (.ref fa) →
   ∃ fd:FuncData,(∀ (s:Shared) (u:Value),BindsTo s fd ⟨[u],[]⟩ [(x,u)]) ∧
    ∀ base:Heap,(K w.params).In base->base.Ns mainGlobals mg->Y1 base mg->FnOk l.prog w (K w.params) mg base (CX w) k fa fd [x] (sp w))
  (hsp:∀ (w:World) (H:Hp) (a:Addr) (ns:List Int),ns.length<=n->H tb=some (.tbl #[])->SqL (K w.params) H a (ns.map V.int)->sp w [.ref a] H (fun v _=>v = .bl true) fun _ _ _=>False)
  (hCX:∀ (w:World) (H:Hp) (s:Shared) (e:Value) (s':Shared),CX w [] H s (fun _ _ _=>False) e s'->False) :
  W.WalkO q loose XP YP l.row.toRowW d [] (fun f vs=>PySem.call f vs):=by
 refine Att.attach_call hn hdf fun w sa0 sa1 mg mb fa o pm cd doc a vs ns G Y ho hd hcd hmg hobj hints hlen hg=>?_;have KX:=hY w _ Y;obtain ⟨fd,hb,hF⟩:=F w mg fa _ KX G.T.g hmg;exact qel KX G.T.g G.T.b G.T.builtins G.T.nolimit hg hobj hints (qq hlen hn2) hr G.T.bmain (hYt w _ Y) (codeHd_of_K KX (hCt w)) (hKt w) hF hb (fun H hO hS=>hsp w H a ns hlen hO hS) fun H e s'=>hCX w H sa1 e s'
section
variable {P:Program}{w:World}{K:W.Frag}{mg:Str->Option Value}{base:Heap}{CX:CXT}
theorem Fun.okDC {x qual:Str}{st:Stmt}{f cc:Addr}{fd:FuncData}{N ps:List Str}{k:Nat}{sp:SpD}(F:Fun K x qual st f fd) (hcc:fd.code = .ref cc) (S:FnScope N ps (qx st)) (len:∀ es U Q,sp es U Q->es.length=ps.length)
  (hbody:∀ (A:Around) (outer:List Env) (s:Shared) (H:Hp) (E:XK) (es:List En) (U:Mu) (Q:En->Mu->Prop),Room k (A.deeper (envOfC qual (qx st) s.heap.objs.size f (.ref cc)))->sp es U Q →
   ∃ t,DSs K (qhg CX P w K mg base N qual (qx st) f (.ref cc) A outer s H E).nox (jE st) t/\t { nx:=fun _ U'=>Q (.d .none) U',rt:=Q } (es.map some++List.replicate (N.length - es.length) none) U):FnOk P w K mg base CX (k+1) f fd ps (yp K sp):=by
 obtain ⟨oc,od,kV,doc,pm,an,cdv,ct,osl,rfl,lk,hcd⟩:=F.ex;obtain rfl:cdv = .ref cc:=hcc;refine qkT lk hcd S (fun vs H Q E ⟨U,es,Q0,M,hp,h,cl⟩=>(PySem.Paired.length hp).trans (len es U Q0 h)) fun A outer s H vs Q E hr hq9=>?_;obtain ⟨U,es,Q0,M,hp,h,cl⟩:=hq9;obtain ⟨t,ht,hq⟩:=hbody A outer s H E es U Q0 hr h;have hl:vs.length=es.length:=PySem.Paired.length hp;refine ⟨upS K t,PSs.nox ht,_,U,_,Paired.mapSome hp N.length N.length (by rw [hl]),M,hq,⟨fun ρ' U' σ' H' q S' M' s'=>cl _ U' .non H' q M' s' .non,cl,fun _ _ _ _ q=>q.elim,fun _ _ _ _ q=>q.elim⟩⟩
end
end L2
namespace PySem
open Sem (wp)
section
variable {prog:Program}{w:World}{A:Around}{E:Value->Shared->Prop}{s:Shared}
end
structure Nx (prog:Program) (w:World) (A:Around) (fr:List Addr) (it:Addr) (st:Nat->Heap->Prop) (xs:Array Value):Prop where
 mem:it∈fr
 obj:∀ i h,st i h->∃ o,h.get? it=some o/\∀ v,o.data≠.cell v
 keep:∀ i h h',st i h->(∀ b∈fr,∀ o,h.get? b=some o->h'.get? b=some o)->st i h'
 item:∀ (i:Nat) (s:Shared) (x:Value) (Q:Value->Shared->Prop) (E:Value->Shared->Prop),st i s.heap->xs[i]?=some x →
  (∀ h',st (i+1) h'->Heap.SameBut it s.heap h'->Q x { s with heap:=h' })->wpAny (model prog w) A (Builtin.SmallTypes.nextOf (.ref it)) Q E s
 stop:∀ (i:Nat) (s:Shared) (Q:Value->Shared->Prop) (E:Value->Shared->Prop),st i s.heap->xs[i]?=none →
  (∀ h' e,Heap.ExtBut it s.heap h'->(∃ o,h'.get? e=some o/\o.cls = .type "StopIteration")->E (.ref e) { s with heap:=h' })->wpAny (model prog w) A (Builtin.SmallTypes.nextOf (.ref it)) Q E s
theorem Jr {prog:Program}{w:World}{A:Around}{it t:Addr}{xs:Array Value}(hh:A.handled=none) (hne:t≠it):Nx prog w A [it,t] it (fun i h=>h.IsListIter it t i/\h.IsList t xs) xs where
 mem:=by simp
 obj:=fun i h ⟨⟨o,ho,_,hd⟩,_⟩=>⟨o,ho,fun v z=>by rw [hd] at z;cases z⟩
 keep:=fun i h h' st k=>⟨st.1.at fun o e=>k _ (by simp) o e,st.2.at fun o e=>k _ (by simp) o e⟩
 item:=fun i s x Q E st hx hQ=>wpAny_nextOf_list_item st.1 st.2 hx fun h' hi hs=>hQ h' ⟨hi,st.2.extBut hs.extBut hne⟩ hs
 stop:=fun i s Q E st hx hE=>wpAny_nextOf_list_end hh st.1 st.2 hx hE
structure ZAp (z TI TO i1 i2:Addr) (f1 f2:List Addr):Prop where
 TIz:TI≠z
 TOz:TO≠z
 TITO:TI≠TO
 z1:z∉f1
 z2:z∉f2
 o1:TO∉f1
 o2:TO∉f2
 t1:TI≠i1
 t2:TI≠i2
 a12:i1∉f2
 a21:i2∉f1
section
variable {prog:Program}{w:World}{A:Around}{E:Value->Shared->Prop}{s:Shared}{z TI TO i1 i2:Addr}{f1 f2:List Addr}{s1 s2:Nat->Heap->Prop}{xs ys:Array Value}{k1 k2:Nat}{x y a b:Value}
theorem qD {l:List Addr}{p q:Addr}(hq:q∈l) (hp:p∉l):q≠p:=fun e=>hp (e ▸ hq)
theorem qhv {Q:Value->Shared->Prop}(D:ZAp z TI TO i1 i2 f1 f2) (N1:Nx prog w A f1 i1 s1 xs) (N2:Nx prog w A f2 i2 s2 ys)
  (hz:IsZip s.heap z TI TO .none) (hTI:IsPair s.heap TI (.ref i1) (.ref i2)) (hTO:IsPair s.heap TO a b)
  (h1:s1 k1 s.heap) (h2:s2 k2 s.heap) (hx:xs[k1]?=some x) (hy:ys[k2]?=some y)
  (hQ:∀ h',IsZip h' z TI TO (rawInt s.heap.objs.size)->IsPair h' TO x y->s1 (k1+1) h'->s2 (k2+1) h'->IsPair h' s.heap.objs.size x y->h'.objs.size=s.heap.objs.size+1 →
   (∀ c o,c≠z->c≠TO->c≠i1->c≠i2->s.heap.get? c=some o->h'.get? c=some o)->Q (.ref s.heap.objs.size) { s with heap:=h' }) :
  wpAny (model prog w) A (Builtin.«zip.__next__» ⟨[.ref z],[]⟩) (fun fin s'=>∃ v,fin = .done (.ret v)/\Q v s') E s:=by
 have i1z:i1≠z:=qD N1.mem D.z1;have i2z:i2≠z:=qD N2.mem D.z2;have i1o:i1≠TO:=qD N1.mem D.o1;have i2o:i2≠TO:=qD N2.mem D.o2;have i12:i1≠i2:=qD N1.mem D.a21;have up1:∀ {c:Addr}{h h':Heap}{k:Nat},Heap.ExtBut c h h'->c∉f1->s1 k h->s1 k h':=fun e n st=>N1.keep _ _ _ st fun b hb o q=>e b o (qD hb n) q;have up2:∀ {c:Addr}{h h':Heap}{k:Nat},Heap.ExtBut c h h'->c∉f2->s2 k h->s2 k h':=fun e n st=>N2.keep _ _ _ st fun b hb o q=>e b o (qD hb n) q;show wpAny _ _ (field (.ref z) 2 >>= _) _ _ _;refine qa (yO hz rfl (x:=.bool false) rfl ?_);show wpAny _ _ (field (.ref z) 3 >>= _) _ _ _;refine qa (yO hz rfl (x:=.ref TI) rfl ?_);refine qa (qO hTI rfl ?_);show wpAny _ _ (Builtin.SmallTypes.ownedTupleIsFree (.ref z) >>= _) _ _ _;refine qa ?_;unfold Builtin.SmallTypes.ownedTupleIsFree;refine qa (yO hz rfl (x:=.none) rfl (qc ?_));simp only [if_true];refine qa (yV ?_);refine qa (yO hz rfl (x:=.ref TO) rfl ?_);refine qa (wpAny_setField_rec hz (by simp) fun hA zA sA=>?_);replace zA:IsZip hA z TI TO .ellipsis:=zA;refine qa ?_;simp only [List.zipIdx_cons,List.zipIdx_nil,List.forIn_cons,List.forIn_nil];refine qa (qa (jH ?_));show wpAny _ _ (Builtin.SmallTypes.nextOf (.ref i1) >>= _) _ _ _;refine qa (N1.item k1 _ x _ _ (up1 sA.extBut D.z1 h1) hx fun hB h1B sB=>qc ?_);have oB:IsPair hB TO a b:=sB.extBut _ _ i1o.symm (sA.extBut _ _ D.TOz hTO);refine qa (qO oB rfl ?_);refine qa (wpAny_updateSeq_pair oB fun hC oC sC=>?_);replace oC:IsPair hC TO x b:=oC;refine qa (jc (qc ?_));refine qa (qa (jH ?_));show wpAny _ _ (Builtin.SmallTypes.nextOf (.ref i2) >>= _) _ _ _;refine qa (N2.item k2 _ y _ _ (up2 sC.extBut D.o2 (up2 sB.extBut D.a12 (up2 sA.extBut D.z2 h2))) hy fun hD h2D sD=>qc ?_);have oD:IsPair hD TO x b:=sD.extBut _ _ i2o.symm oC;refine qa (qO oD rfl ?_);refine qa (wpAny_updateSeq_pair oD fun hF oF sF=>?_);replace oF:IsPair hF TO x y:=oF;refine qa (jc (qc (qc ?_)));refine qa (qO oF rfl ?_);refine qa (wpAny_newTuple ?_);have hsz:hF.objs.size=s.heap.objs.size:=by rw [sF.1,sD.1,sC.1,sB.1,sA.1]
 have zF:IsZip hF z TI TO .ellipsis:=sF.extBut _ _ D.TOz.symm (sD.extBut _ _ i2z.symm (sC.extBut _ _ D.TOz.symm (sB.extBut _ _ i1z.symm zA)));have kF:∀ c o,c≠z->c≠TO->c≠i1->c≠i2->s.heap.get? c=some o->hF.get? c=some o:=fun c o c1 c2 c3 c4 e =>
  sF.extBut _ _ c2 (sD.extBut _ _ c4 (sC.extBut _ _ c2 (sB.extBut _ _ c3 (sA.extBut _ _ c1 e))))
 have t1F:s1 (k1+1) hF:=up1 sF.extBut D.o1 (up1 sD.extBut D.a21 (up1 sC.extBut D.o1 h1B));have t2F:s2 (k2+1) hF:=up2 sF.extBut D.o2 h2D;have zlt:z<hF.objs.size:=qi zF;show wpAny _ _ (Builtin.SmallTypes.ownedTupleHandOut (.ref z) (.ref hF.objs.size) >>= _) _ _ _;refine qa ?_;unfold Builtin.SmallTypes.ownedTupleHandOut;have zG:IsZip (hF.push { cls:=.type "tuple",data:=.seq #[x,y] }) z TI TO .ellipsis:=qb _ zF;refine qa (wpAny_setField_rec zG (by simp) fun hI zI sI=>?_);replace zI:IsZip hI z TI TO (rawInt hF.objs.size):=zI;refine wpAny_setField_rec zI (by simp) fun hJ zJ sJ=>?_;replace zJ:IsZip hJ z TI TO (rawInt hF.objs.size):=zJ;have up:∀ c o,c≠z->hF.get? c=some o->hJ.get? c=some o:=fun c o c1 e=>sJ.extBut _ _ c1 (sI.extBut _ _ c1 (qb _ e));have tJ:IsPair hJ hF.objs.size x y:=sJ.extBut _ _ (yi zlt) (sI.extBut _ _ (yi zlt) (qj _ rfl));have sz:hJ.objs.size=hF.objs.size+1:=by rw [sJ.1,sI.1,qV]
 rw [hsz] at zJ tJ sz;refine qc ⟨_,rfl,?_⟩;show Q (.ref hF.objs.size) _;rw [hsz];exact hQ hJ zJ (up _ _ D.TOz oF) (N1.keep _ _ _ t1F fun b hb o q=>up b o (qD hb D.z1) q) (N2.keep _ _ _ t2F fun b hb o q=>up b o (qD hb D.z2) q) tJ sz fun c o c1 c2 c3 c4 e=>up c o c1 (kF c o c1 c2 c3 c4 e)
theorem qjB {Q:PySem.Fin->Shared->Prop}(D:ZAp z TI TO i1 i2 f1 f2) (N1:Nx prog w A f1 i1 s1 xs) (N2:Nx prog w A f2 i2 s2 ys)
  (hz:IsZip s.heap z TI TO .none) (hTI:IsPair s.heap TI (.ref i1) (.ref i2)) (hTO:IsPair s.heap TO a b)
  (h1:s1 k1 s.heap) (h2:s2 k2 s.heap) (hend:xs[k1]?=none\/ys[k2]?=none)
  (hE:∀ h' e,(∀ c o,c≠z->c≠TO->c≠i1->c≠i2->s.heap.get? c=some o->h'.get? c=some o)->(∃ o,h'.get? e=some o/\o.cls = .type "StopIteration")->E (.ref e) { s with heap:=h' }) :
  wpAny (model prog w) A (Builtin.«zip.__next__» ⟨[.ref z],[]⟩) Q E s:=by
 have i1z:i1≠z:=qD N1.mem D.z1;have i2z:i2≠z:=qD N2.mem D.z2;have i1o:i1≠TO:=qD N1.mem D.o1;have i2o:i2≠TO:=qD N2.mem D.o2;have up1:∀ {c:Addr}{h h':Heap}{k:Nat},Heap.ExtBut c h h'->c∉f1->s1 k h->s1 k h':=fun e n st=>N1.keep _ _ _ st fun b hb o q=>e b o (qD hb n) q;have up2:∀ {c:Addr}{h h':Heap}{k:Nat},Heap.ExtBut c h h'->c∉f2->s2 k h->s2 k h':=fun e n st=>N2.keep _ _ _ st fun b hb o q=>e b o (qD hb n) q;show wpAny _ _ (field (.ref z) 2 >>= _) _ _ _;refine qa (yO hz rfl (x:=.bool false) rfl ?_);show wpAny _ _ (field (.ref z) 3 >>= _) _ _ _;refine qa (yO hz rfl (x:=.ref TI) rfl ?_);refine qa (qO hTI rfl ?_);show wpAny _ _ (Builtin.SmallTypes.ownedTupleIsFree (.ref z) >>= _) _ _ _;refine qa ?_;unfold Builtin.SmallTypes.ownedTupleIsFree;refine qa (yO hz rfl (x:=.none) rfl (qc ?_));simp only [if_true];refine qa (yV ?_);refine qa (yO hz rfl (x:=.ref TO) rfl ?_);refine qa (wpAny_setField_rec hz (by simp) fun hA zA sA=>?_);replace zA:IsZip hA z TI TO .ellipsis:=zA;refine qa ?_;simp only [List.zipIdx_cons,List.zipIdx_nil,List.forIn_cons,List.forIn_nil];refine qa (qa (jH ?_));show wpAny _ _ (Builtin.SmallTypes.nextOf (.ref i1) >>= _) _ _ _;cases hx:xs[k1]? with
 | none =>
  refine qa (N1.stop k1 _ _ _ (up1 sA.extBut D.z1 h1) hx fun hB e eB he=>?_);obtain ⟨oe,hoe,hce⟩:=he;have zB:IsZip hB z TI TO .ellipsis:=eB _ _ i1z.symm zA;have hez:e≠z:=fun x=>by subst x;rw [zB] at hoe;cases hoe;simp at hce
  refine wpAny_setField_rec zB (by simp) fun hC _ sC=>hE hC e (fun c o c1 _ c3 _ x=>sC.extBut _ _ c1 (eB _ _ c3 (sA.extBut _ _ c1 x))) ⟨oe,sC.extBut _ _ hez hoe,hce⟩
 | some x =>
  have hy:ys[k2]?=none:=by rcases hend with h | h;rw [hx] at h;cases h;exact h
  refine qa (N1.item k1 _ x _ _ (up1 sA.extBut D.z1 h1) hx fun hB h1B sB=>qc ?_);have oB:IsPair hB TO a b:=sB.extBut _ _ i1o.symm (sA.extBut _ _ D.TOz hTO);refine qa (qO oB rfl ?_);refine qa (wpAny_updateSeq_pair oB fun hC oC sC=>?_);refine qa (jc (qc ?_));refine qa (qa (jH ?_));show wpAny _ _ (Builtin.SmallTypes.nextOf (.ref i2) >>= _) _ _ _;refine qa (N2.stop k2 _ _ _ (up2 sC.extBut D.o2 (up2 sB.extBut D.a12 (up2 sA.extBut D.z2 h2))) hy fun hD e eD he=>?_);obtain ⟨oe,hoe,hce⟩:=he;have zD:IsZip hD z TI TO .ellipsis:=eD _ _ i2z.symm (sC.extBut _ _ D.TOz.symm (sB.extBut _ _ i1z.symm zA));have hez:e≠z:=fun x=>by subst x;rw [zD] at hoe;cases hoe;simp at hce
  refine wpAny_setField_rec zD (by simp) fun hF _ sF=>hE hF e (fun c o c1 c2 c3 c4 x=>sF.extBut _ _ c1 (eD _ _ c4 (sC.extBut _ _ c2 (sB.extBut _ _ c3 (sA.extBut _ _ c1 x))))) ⟨oe,sF.extBut _ _ hez hoe,hce⟩
theorem YU {Q:Option Value->Shared->Prop}(hh:A.handled=none) (D:ZAp z TI TO i1 i2 f1 f2) (N1:∀ A:Around,A.handled=none->Nx prog w A f1 i1 s1 xs) (N2:∀ A:Around,A.handled=none->Nx prog w A f2 i2 s2 ys)
  (hz:IsZip s.heap z TI TO .none) (hTI:IsPair s.heap TI (.ref i1) (.ref i2)) (hTO:IsPair s.heap TO a b)
  (h1:s1 k1 s.heap) (h2:s2 k2 s.heap) (hx:xs[k1]?=some x) (hy:ys[k2]?=some y)
  (hQ:∀ h',IsZip h' z TI TO (rawInt s.heap.objs.size)->IsPair h' TO x y->s1 (k1+1) h'->s2 (k2+1) h'->IsPair h' s.heap.objs.size x y->h'.objs.size=s.heap.objs.size+1 →
   (∀ c o,c≠z->c≠TO->c≠i1->c≠i2->s.heap.get? c=some o->h'.get? c=some o)->Q (some (.ref s.heap.objs.size)) { s with heap:=h' }) :
  wpAny (model prog w) A (pyNext (.ref z)) Q E s:=by
 have hT:s.TypeIs (.ref z) "zip" := ⟨_,hz,rfl⟩;unfold pyNext;exact qa (wpAny_attempt (wpAny_callSpecial?_slot (name:=Str.ofString "__next__") hT F.slot_zip_next
  (yf F.slot_zip_next hT F.entry_zip_next
   (qhv D (N1 _ hh) (N2 _ hh) hz hTI hTO h1 h2 hx hy fun h' a1 a2 a3 a4 a5 a6 a7=>qc (hQ h' a1 a2 a3 a4 a5 a6 a7)) (F.args_zip_next_1 _))))
theorem Zy {Q:Option Value->Shared->Prop}(hh:A.handled=none) (D:ZAp z TI TO i1 i2 f1 f2) (N1:∀ A:Around,A.handled=none->Nx prog w A f1 i1 s1 xs) (N2:∀ A:Around,A.handled=none->Nx prog w A f2 i2 s2 ys)
  (hz:IsZip s.heap z TI TO .none) (hTI:IsPair s.heap TI (.ref i1) (.ref i2)) (hTO:IsPair s.heap TO a b)
  (h1:s1 k1 s.heap) (h2:s2 k2 s.heap) (hend:xs[k1]?=none\/ys[k2]?=none)
  (hQ:∀ h',(∀ c o,c≠z->c≠TO->c≠i1->c≠i2->s.heap.get? c=some o->h'.get? c=some o)->Q none { s with heap:=h' }):wpAny (model prog w) A (pyNext (.ref z)) Q E s:=by
 have hT:s.TypeIs (.ref z) "zip" := ⟨_,hz,rfl⟩;unfold pyNext;refine qa (wpAny_attempt (wpAny_callSpecial?_slot (name:=Str.ofString "__next__") hT F.slot_zip_next
  (yf F.slot_zip_next hT F.entry_zip_next (qjB D (N1 _ hh) (N2 _ hh) hz hTI hTO h1 h2 hend fun h' e hk he=>?_) (F.args_zip_next_1 _))))
 obtain ⟨o,ho,hc⟩:=he;refine qa (wpAny_isInstance (T := "StopIteration") (b:=true) ⟨o,ho,hc⟩ isSubtype_stop ?_);exact qc (hQ _ hk)
end
section
variable {prog:Program}{w:World}{A:Around}{E:Value->Shared->Prop}{s:Shared}
end
end PySem
namespace L2
open PySem PySem.Spec PyProof.Rows
theorem qck:bootBuiltins "zip" = some (.type "zip"):=by decide +kernel
section
variable {X:Cx}{K:W.Frag}
theorem zap {n a b:Addr}(ha:a<n) (hb:b<n):ZAp (n+4) (n+2) (n+3) n (n+1) [n,a] [n+1,b]:=by
 have q1:∀ k:Nat,a≠n+k:=fun k=>qg (qu ha (qR _ _));have q2:∀ k:Nat,b≠n+k:=fun k=>qg (qu hb (qR _ _));have r:∀ i j:Nat,i≠j->n+i≠n+j:=fun i j h e=>h (Nat.add_left_cancel e);have r0:∀ j:Nat,j≠0->n≠n+j:=fun j h e=>h (Nat.left_eq_add.mp e);refine ⟨r _ _ (by decide),r _ _ (by decide),r _ _ (by decide),?_,?_,?_,?_,(r0 2 (by decide)).symm,r 2 1 (by decide),?_,?_⟩ <;> simp only [List.mem_cons,List.mem_nil_iff,or_false,not_or]
 .exact ⟨(r0 4 (by decide)).symm,(q1 4).symm⟩
 .exact ⟨r 4 1 (by decide),(q2 4).symm⟩
 .exact ⟨(r0 3 (by decide)).symm,(q1 3).symm⟩
 .exact ⟨r 3 1 (by decide),(q2 3).symm⟩
 .exact ⟨r0 1 (by decide),(qg hb).symm⟩
 .exact ⟨(r0 1 (by decide)).symm,(q1 1).symm⟩
end
theorem Zd:∀ {ns:List Int}{its:List Value},yy (ns.map V.int) its->∃ xs:List (Int×Tok),its=xs.map (fun p=>.int p.1 p.2)/\xs.map Prod.fst=ns
 | [],_,.nil=>⟨[],rfl,rfl⟩
 | n::ns,_,.cons r t=>by
  obtain ⟨u,rfl⟩:=r;obtain ⟨xs,rfl,e⟩:=Zd t;exact ⟨(n,u)::xs,rfl,by simp [e]⟩
section
variable {X:Cx}{K:W.Frag}
def rdLtT:R2d:=fun x y U Q=>∃ ns ms:List Int,x = .d (.tuple (ns.map PyData.int))/\y = .d (.tuple (ms.map PyData.int))/\Q (.d (.bool (HT.lexLt ns ms))) U
theorem qk2 (hu:X.A.units<cLine) (hK:X.K=K:=by rfl):OpR X (compareOp .Lt) (upR K rdLtT):=by
 subst hK;refine (qkv hu).mono fun x y H Q h=>?_;obtain ⟨U,e,e',Q0,M,i1,i2,q,cl⟩:=h;obtain ⟨ns,ms,rfl,rfl,q⟩:=q;cases i1 with
 | @tup p xs _ h1 h2 =>
 cases i2 with
 | @tup p' ys _ h1' h2' =>
  have a1:=h1.up;have a2:=h1'.up;rw [h2.ints_of] at a1;rw [h2'.ints_of] at a2;exact ⟨p,p',ns,ms,rfl,rfl,a1,a2,cl _ U _ H q M (yd.refl _) (.bl _)⟩
end
abbrev kwD (d:Value):List (Str×Value):=[(Str.ofString "default",d)]
theorem qe8 (a d:Value):argsOk "max" ⟨[a],kwD d⟩:=by unfold argsOk;kernel_rfl
section
variable {prog:Program}{w:World}{A:Around}{R:Result->Shared->Prop}{I S:Addr}{fp wr:List Addr}{n:Nat}{P:Nat->Value->Prop}{St:Nat->Heap->Prop}{d:Value}
theorem qb2:(toString "max" ++ toString ".loop" : String) = "max.loop" := by decide
theorem qec (W:Walks prog w A.in1 I fp wr n P St) (bt:Nat->Nat->Bool) (hcmp:CmpOf prog w A.in1 .Gt P bt) (hSf:S∉fp) :
  ∀ (k j:Nat) (s:Shared) (old:List Value) (c:Nat),n - j=k->j<=n->St j s.heap->(old=[]/\j=0\/∃ vb,old=[vb,vb]/\0<j/\P (argBest bt (j - 1)) vb) →
  s.heap.get? S=some { cls:=.type "list",dict:=none,data:=.seq old.toArray c,slots:=#[] } →
  (∀ v h' tk,(n=0/\v=d\/0<n/\P (argBest bt (n - 1)) v)->(∀ b o,b∉wr->b≠S->s.heap.get? b=some o->h'.get? b=some o)->R (.ok (.ret v)) { s with heap:=h',toks:=tk }) →
  codeAny (model prog w) A (.builtin "max.loop" ⟨[.ref I,.none,.ref S],kwD d⟩) R s:=by
 have hSw:S∉wr:=fun h=>hSf (W.sub _ h);intro k;induction k with
 | zero =>
  intro j s old c hk hj hst ho hS hR;have hin:j=n:=by omega
  refine codeAny_builtin F.entry_max_loop ?_;rw [Around.under_plainId F.plain_max_loop _];show wpAny _ A.in1 (seqItems? (.ref S) >>= _) _ _ s;refine qa (qO hS rfl ?_);show wpAny _ A.in1 (tryCatch (pyNext (.ref I)) _ >>= _) _ _ s;refine qa (wpAny_tryCatch (W.done s _ _ (hin ▸ hst) fun h' tk hk'=>?_));have hS':=hk' S _ hSw hS;rcases ho with ⟨rfl,rfl⟩ | ⟨vb,rfl,h0,hPb⟩
  .show wpAny _ A.in1 (rule _ >>= _) _ _ _;refine qa (yV (qc ?_));exact hR d _ tk (.inl ⟨hin.symm,rfl⟩) fun b o hbw _ e=>hk' b o hbw e
  .show wpAny _ A.in1 (updateSeq S (fun _=>#[]) >>= _) _ _ _;refine qa ?_;refine ju hS' rfl (qa (jc (qc ?_)));refine hR vb _ tk (.inr ⟨by omega,by rw [<- hin];exact hPb⟩) fun b o hbw hbS e=>(qJ _ _ (Ne.symm hbS)).trans (hk' b o hbw e)
 | succ k ih =>
  intro j s old c hk hj hst ho hS hR;have hlt:j<n:=by omega
  refine codeAny_builtin F.entry_max_loop ?_;rw [Around.under_plainId F.plain_max_loop _];show wpAny _ A.in1 (seqItems? (.ref S) >>= _) _ _ s;refine qa (qO hS rfl ?_);show wpAny _ A.in1 (tryCatch (pyNext (.ref I)) _ >>= _) _ _ s;refine qa (wpAny_tryCatch (W.item j s _ _ hlt hst fun v h' tk hP hst' hk'=>?_));have hS':=hk' S _ hSw hS;rcases ho with ⟨rfl,rfl⟩ | ⟨vb,rfl,h0,hPb⟩
  .show wpAny _ A.in1 (updateSeq S (fun _=>#[v,v]) >>= _) _ _ _;refine qa ?_;refine ju hS' rfl ?_;rw [qb2];refine qc ⟨plainId_quiet F.plain_max_loop _,ih 1 _ [v,v] _ (by omega) hlt (W.frame _ _ _ hst' fun b hbf o e=>?_) (.inr ⟨v,rfl,Nat.one_pos,hP⟩) (qQ _ hS' rfl) fun v' h'' tk'' hP' hk''=>?_⟩
   .exact (qJ _ _ (fun h:S=b=>hSf (by rw [h];exact hbf))).trans e
   .exact hR v' h'' tk'' hP' fun b o hbw hbS e=>hk'' b o hbw hbS ((qJ _ _ (Ne.symm hbS)).trans (hk' b o hbw e))
  .have ej:argBest bt j=if bt j (argBest bt (j - 1)) then j else argBest bt (j - 1):=by
    obtain ⟨i,rfl⟩:∃ i,j=i+1:=⟨j - 1,by omega⟩;rfl
   show wpAny _ A.in1 (tryCatch (holding [v,v] (richCompare .Gt v vb >>= _)) _ >>= _) _ _ _;refine qa (wpAny_tryCatch (qH (qa (hcmp j (argBest bt (j - 1)) v vb _ _ _ hP hPb ?_))));refine qa (qH (wpAny_truthy_bool ?_));refine qa (jc (qc ?_));cases hb:bt j (argBest bt (j - 1)) with
   | true =>
    simp only [if_true];refine qa ?_;refine ju hS' rfl (qa (jc ?_));rw [qb2];refine qc ⟨plainId_quiet F.plain_max_loop _,ih (j+1) _ [v,v] _ (by omega) hlt (W.frame _ _ _ hst' fun b hbf o e=>?_) (.inr ⟨v,rfl,Nat.succ_pos _,by rw [Nat.add_sub_cancel,ej,hb];exact hP⟩) (qQ _ hS' rfl)
     fun v' h'' tk'' hP' hk''=>?_⟩
    .exact (qJ _ _ (fun h:S=b=>hSf (by rw [h];exact hbf))).trans e
    .exact hR v' h'' tk'' hP' fun b o hbw hbS e=>hk'' b o hbw hbS ((qJ _ _ (Ne.symm hbS)).trans (hk' b o hbw e))
   | false =>
    simp only [Bool.false_eq_true,if_false];refine qa (jc ?_);rw [qb2];refine qc ⟨plainId_quiet F.plain_max_loop _,ih (j+1) _ [vb,vb] c (by omega) hlt hst' (.inr ⟨vb,rfl,Nat.succ_pos _,by rw [Nat.add_sub_cancel,ej,hb];exact hPb⟩) hS' fun v' h'' tk'' hP' hk''=>?_⟩;exact hR v' h'' tk'' hP' fun b o hbw hbS e=>hk'' b o hbw hbS (hk' b o hbw e)
end
section
variable {prog:Program}{w:World}{A:Around}{E:Value->Shared->Prop}{s:Shared}
theorem qaU {id:String}{b:Builtin}{args:List Value}{kw:List (Str×Value)}{Q:Value->Shared->Prop}(hk:builtinKind id=none) (hp:plainId id=true)
  (hb:entryFor table id=some b) (ha:argsOk id ⟨args,kw⟩)
  (hc:wpAny (model prog w) A.in1 (b ⟨args,kw⟩) (fun fin s'=>match fin with
   | .done f=>(match (Except.ok f:Result) with | .ok (.ret v)=>Q v s' | .ok _=>False | .error e=>E e s')
   | .again c'=>c'.quiet=true/\codeAny (model prog w) A c' (fun r s'=>match r with | .ok (.ret v)=>Q v s' | .ok _=>False | .error e=>E e s') s') E s) :
  wpAny (model prog w) A (call (.builtin id) args kw) Q E s:=by
 refine wpAny_call (codeAny_call_builtin hp hb ?_);simp only [checkBuiltinCall,hk];cases hsig:Manifest.signature? id with
 | none=>exact qc hc
 | some sig =>
  have ha':Bind.checkArgs id sig ⟨args,kw⟩=pure ():=by simpa only [argsOk,hsig] using ha
  simp only [ha'];exact qc hc
theorem qed {l:Addr}{xs:Array (Int×Tok)}{d:Value}{Q:Value->Shared->Prop}(hh:A.handled=none) (hl:s.heap.IsList l (intItems xs))
  (h:∀ v h' tk,(xs.size=0/\v=d\/0<xs.size/\(intItems xs)[argBest (fun i j=>decide (numAt xs i > numAt xs j)) (xs.size - 1)]?=some v)->(∀ b o,s.heap.get? b=some o->h'.get? b=some o)->Q v { s with heap:=h',toks:=tk }) :
  wpAny (model prog w) A (call (.builtin "max") [.ref l] (kwD d)) Q E s:=by
 refine qaU F.kind_max F.plain_max F.entry_max (qe8 _ _) ?_;show wpAny _ A.in1 (Builtin.Builtins.bindParams "max" ["key", "default"] 0 ⟨[],kwD d⟩ >>= _) _ _ s;refine qa (wpAny_of_eq (show Builtin.Builtins.bindParams "max" ["key", "default"] 0 ⟨[],kwD d⟩=pure [none,some d] from rfl) ?_);refine qa (qc ?_);refine qa (iter_intList hl fun sa2 e st hfp hlI=>?_);subst e;refine qa (yb ?_);rw [qb2];have W:=Walks.list (prog:=prog) (w:=w) (A:=A.in1) hh _ l hlI (intItems xs);refine qc ⟨plainId_quiet F.plain_max_loop _,qec (d:=d) W _ (CmpOf.ints_gt (numAt xs) (fun _ _=>intItems_at)) (fun hm=>ye _ (hfp _ hm)) _ 0 _ [] 0 rfl (qB _) (W.frame _ _ _ st fun b _ o e=>qb _ e) (.inl ⟨rfl,rfl⟩) (qj _ rfl) fun v h' tk hP hk=>?_⟩;have sz:(intItems xs).size=xs.size:=by simp [intItems]
 rw [sz] at hP;refine h v h' tk hP ?_;exact old_kept fun b o hbw e=>hk b o hbw (qg (qi e)) (qb _ e)
end
section
variable {X:Cx}{K:W.Frag}{le de:Expr}{kp p p':Pos}
theorem qe1 {pins:List (Addr×Obj)}{σ:St}{H:Hp}{s:Shared}{p:Addr}{ns:List Int}{dz:Int}{du:Value}{Q:VK}(hc:X.calm=true) (I:Inv X pins σ H s) (hq:SqL X.K H p (ns.map V.int)) (rd:jb (.int dz) du)
  (q:∀ m:Int,(ns=[]/\m=dz\/m∈ns/\∀ a∈ns,a<=m)->Q (.int m) H):wpAny (model X.prog X.w) X.A (call (.builtin "max") [.ref p] (kwD du)) (EP X pins σ Q) X.xe s:=by
 obtain ⟨its,rv,pl,_⟩:=I.list hq;obtain ⟨ys,rfl,e⟩:=Zd rv;have hl:s.heap.IsList p (intItems ys.toArray):=by
  have:=pl.isList;simpa [intItems] using this
 refine qed (I.ok.hd hc) hl fun v h' tk hv hk=>?_;rcases hv with ⟨h0,rfl⟩ | ⟨h0,hv⟩
 .refine ⟨.int dz,H,I.kept hk,rd,q dz (.inl ⟨?_,rfl⟩)⟩;rw [<- e];have:ys.length=0:=by simpa using h0
  simp [List.length_eq_zero_iff.mp this]
 .obtain ⟨t,rfl⟩:=intItems_at hv;obtain ⟨h1,h2⟩:=argBest_gt (numAt ys.toArray) (ys.toArray.size - 1);have na:∀ j,j<ys.length->∃ z,ns[j]?=some z/\numAt ys.toArray j=z:=fun j hj=>by refine ⟨ys[j].1,by rw [<- e];simp [hj],by simp [numAt,hj]⟩
  have hn:0<ys.length:=by simpa using h0
  refine ⟨.int _,H,I.kept hk,⟨_,rfl⟩,q _ (.inr ⟨?_,fun a ha=>?_⟩)⟩
  .have h0:argBest (fun i j=>decide (numAt ys.toArray i > numAt ys.toArray j)) (ys.toArray.size - 1)<ys.length:=by simp only [List.size_toArray] at h1 ⊢;omega
   obtain ⟨z,e1,e2⟩:=na _ h0;rw [e2];exact List.mem_of_getElem? e1
  .obtain ⟨j,hj⟩:=List.mem_iff_getElem?.mp ha;have hj2:j<ys.length:=by
    have:=(qk.mp hj).1;rwa [<- e,List.length_map] at this
   obtain ⟨z,e1,e2⟩:=na j hj2;rw [hj] at e1;cases e1
   rw [<- e2];exact h2 j (by simp only [List.size_toArray];omega)
def tMaxD (K:W.Frag) (tl td:TE):TE:=fun σ H Q=>tl σ H fun v H1=>td σ H1 fun u H2=>∃ p ns dz,v = .ref p/\u = .int dz/\SqL K H2 p (ns.map V.int)/\∀ m:Int,(ns=[]/\m=dz\/m∈ns/\∀ a∈ns,a<=m)->Q (.int m) H2
theorem qif {tl td:TE}(hc:X.calm=true) (hg:Gl X "max") (hm:X.mg "max" = none) (hl:PE X le tl) (hd:PE X de td) (hs1:starEach [le] X.env=(false,eval le X.env)::starEach [] X.env:=by rfl) :
  PE X (.Call (.Name "max" p) [le] [⟨some "default",de,kp⟩] p') (tMaxD X.K tl td):=by
 intro pins s σ H Q I h;refine wpAny_Call_Name_kw (JE I hg hm YQ (callWith_kw ?_ (by rw [hs1];rfl) (by rw [hs1];rfl)));have sp:backTo p' (starEach [le] X.env)=(false,eval le X.env)::backTo p' (starEach [] X.env):=by rw [hs1];rfl
 rw [sp];refine Calls.spliced_cons (thn (hl pins s σ H _ I h) fun u s1 ⟨v,H1,I1,r1,q1⟩=>Calls.spliced_nil ?_);refine kws_cons (thn (hd pins s1 σ H1 _ I1 q1) fun u2 s2 ⟨v2,H2,I2,r2,q2⟩=>kws_nil ?_);obtain ⟨p,ns,dz,rfl,rfl,hq,q⟩:=q2;cases r1
 exact qe1 hc I2 hq r2 q
def dMaxD (tl td:TEd):TEd:=fun ρ U Q=>tl ρ U fun e U1=>td ρ U1 fun f U2=>∃ (ns:List Int) (dz:Int),LstOf U2 e (ns.map PyData.int)/\f = .d (.int dz)/\∀ m:Int,(ns=[]/\m=dz\/m∈ns/\∀ a∈ns,a<=m)->Q (.d (.int m)) U2
theorem qlc {tl td:TEd}(hc:X.calm=true) (hg:Gl X "max") (hm:X.mg "max" = none) (hl:DE K X le tl) (hd:DE K X de td) (hK:X.K=K:=by rfl) (hs1:starEach [le] X.env=(false,eval le X.env)::starEach [] X.env:=by rfl) :
  DE K X (.Call (.Name "max" p) [le] [⟨some "default",de,kp⟩] p') (dMaxD tl td):=by
 subst hK;refine PE.mono (qif hc hg hm hl hd hs1) fun σ H Q hq9=>?_;obtain ⟨ρ,U,Q0,hS,hM,h,cl⟩:=hq9;refine up2 (R0:=fun e f U2=>∃ (ns:List Int) (dz:Int),LstOf U2 e (ns.map PyData.int)/\f = .d (.int dz)/\∀ m:Int,(ns=[]/\m=dz\/m∈ns/\∀ a∈ns,a<=m)->Q0 (.d (.int m)) U2) hS hM h fun x y U2 v u H2 q M2 s2 i1 i2=>?_;obtain ⟨ns,dz,hL,rfl,q⟩:=q;obtain ⟨p,ys,rfl,h2,h3⟩:=hL.get M2 i1;rw [h3.ints_of] at h2;have i2:Is X.K (mask U2 H2) u (.int dz):=i2;cases i2
 exact ⟨p,ns,dz,rfl,rfl,h2,fun m hm=>cl _ U2 _ _ (q m hm) M2 s2 (.int m)⟩
end
end L2
namespace L2
open PySem PySem.Spec PyProof.Rows PySem.W PySem.SetTable
section
variable {prog:Program}{w:World}{A:Around}{R:Result->Shared->Prop}{E:Value->Shared->Prop}{s:Shared}
theorem qaQ (elt target iter:Expr) (ifs:List Expr) (scope:Scope) (pos:Pos) (it acc:Value) (env:Env) :
  compTurn (.SetComp elt [⟨target,iter,ifs,0⟩] scope pos) 0 it acc env=(do
   standAt iter.pos
   match <- pyNext it with
   | none=>pure (.done .next)
   | some v =>
    letOwnedTupleGo target it v
    assign target env v
    let mut ok:=true
    for c in ifs do
     if ok then ok <- isTrue c env (eval c env)
    if ok then
     (do let v <- eval elt env;standAt elt.pos;let _ <- call (.builtin "set.add") [acc,v])
    again (.compLoop (.SetComp elt [⟨target,iter,ifs,0⟩] scope pos) 0 it acc env)):=by rfl
theorem Jp {elt target iter:Expr}{ifs:List Expr}{scope:Scope}{pos:Pos}{it acc:Value}{env:Env}(I:Nat->Shared->Prop)
  (turn:∀ n s,I n s->wpAny (model prog w) A (pyNext it) (fun r sa1=>match r with
   | none=>R (.ok .next) sa1
   | some v=>wpAny (model prog w) A (letOwnedTupleGo target it v) (fun _ sa1'=>wpAny (model prog w) A (assign target env v) (fun _ sa2 =>
     wpAny (model prog w) A (forIn ifs true fun c r=>if r=true then do let ok <- isTrue c env (eval c env);pure (ForInStep.yield ok) else pure (ForInStep.yield r)) (fun ok sa3 =>
      if ok=true then wpAny (model prog w) A (eval elt env) (fun x sa4 =>
       wpAny (model prog w) A (call (.builtin "set.add") [acc,x]) (fun _ sa5=>∃ m,m<n/\I m sa5) (fun _ _=>False) sa4) (fun _ _=>False) sa3
      else ∃ m,m<n/\I m sa3) (fun _ _=>False) sa2) (fun _ _=>False) sa1') (fun _ _=>False) sa1) (fun _ _=>False) s)
  (n:Nat) (h:I n s) :
  codeAny (model prog w) A (.compLoop (.SetComp elt [⟨target,iter,ifs,0⟩] scope pos) 0 it acc env) R s:=by
 refine codeAny_loop rfl I (fun n s hI=>?_) n h;show wpAny _ A ((compTurn (.SetComp elt [⟨target,iter,ifs,0⟩] scope pos) 0 it acc env).onRaise (fun x=>do noteFrame x env;theTreesLotGoes x)) _ _ s;refine wpAny_noted ?_;rw [qaQ];refine qa (yS (qa (qp (turn n s hI) (fun r sa1 hd1=>?_) fun _ _ h'=>h'.elim)));cases r with
 | none=>exact qc hd1
 | some v =>
  refine qa (qp hd1 (fun _ sa1' ha1'=>?_) fun _ _ h'=>h'.elim);refine qa (qp ha1' (fun _ sa2 ha2=>qa (qp ha2 (fun ok sa3 ha3=>?_) fun _ _ h'=>h'.elim)) fun _ _ h'=>h'.elim);cases ok with
  | false=>exact qc ⟨rfl,ha3⟩
  | true =>
   exact qa (qa (qp ha3 (fun x sa4 ha4=>qa (yS (qa (qp ha4 (fun _ sa5 ha5=>qc (qc ⟨rfl,ha5⟩)) fun _ _ h'=>h'.elim)))) fun _ _ h'=>h'.elim))
theorem Ji {elt target iter ifs rest scope pos it acc env}
  (h0:codeAny (model prog w) A (.compLoop (.SetComp elt (⟨target,iter,ifs,0⟩::rest) scope pos) 0 it acc env) R s)
  (h:wpAny (model prog w) A (pyIter it) (fun it' s'=>codeAny (model prog w) A (.compLoop (.SetComp elt (⟨target,iter,ifs,0⟩::rest) scope pos) 0 it' acc env) R s')
   (notedBy (model prog w) A env fun x s'=>R (.error x) s') s) :
  codeAny (model prog w) A (.compStart (.SetComp elt (⟨target,iter,ifs,0⟩::rest) scope pos) 0 it acc env) R s:=by
 refine codeAny_of_tree ?_;show wpAny _ _ ((compStart (.SetComp elt (⟨target,iter,ifs,0⟩::rest) scope pos) 0 it acc env).onRaise (fun x=>do noteFrame x env;standAt theWindowsPlace)) _ _ s;refine wpAny_notedAt ?_;unfold compStart;show wpAny _ _ (ask >>= _) _ _ s;refine qa (jO (wpAny_ite ?_));split
 .first
   | exact qa (qc (qc (And.intro rfl h0)))
   | exact qc (And.intro rfl h0)
 .first
   | exact qa (yV (qa (yS (qa (qp h (fun it' s' h'=>qc (And.intro rfl h')) fun _ _ x=>x)))))
   | (refine qa (yV ?_);show wpAny _ _ (standAt iter.pos >>= _) _ _ s;exact qa (yS (qa (qp h (fun it' s' h'=>qc (And.intro rfl h')) fun _ _ x=>x))))
theorem qgu {Pv:Value->Prop}{a b:Addr}{kss:List (List Int)}{ks:List Int}{Q:Value->Shared->Prop}(S:qa5 prog w Pv s.heap a kss) (tb:yY s.heap (.ref b) ks) (pb:Pv (.ref b)) (hu:A.units+8<cLine) (hn:kss.length<4914)
  (hin:ks∈kss->∀ tk,Q .none { s with toks:=tk })
  (hout:ks∉kss->∀ h' kss' tk,Heap.SameBut a s.heap h'->qa5 prog w Pv h' a kss'->(∀ k,k∈kss' ↔ k=ks\/k∈kss)->Q .none { s with heap:=h',toks:=tk }) :
  wpAny (model prog w) A (call (.builtin "set.add") [.ref a,.ref b]) Q E s:=by
 have hT:s.TypeIs (.ref a) "set" := let ⟨o,_,_,_,_,D⟩:=S;⟨o,D.ho,D.ex.1⟩;refine yf F.slot_set_add hT F.entry_set_add ?_ (F.args_set_add_2 _ _);unfold Builtin.«set.add» Builtin.Frozenset.oneOther;simp only [List.isEmpty_nil,bind_assoc];unfold Builtin.Frozenset.addrOf setAdd;refine qa (qc ?_)
 try dsimp only
 refine qa (qc ?_)
 try dsimp only
 refine qa ?_;refine qH ?_;have hu1:A.in1.units<cLine:=by show A.units+_<_;omega
 refine qa (wpAny_pyHash_tuple hu1 (tb.key (prog:=prog) (w:=w)) ?_);refine qhk (s:={ s with toks:=s.toks+(ks.length+1) }) S tb pb hu1 hn (fun h=>?_) fun h h' kss' sb S2 mem2=>?_
 .show wpAny _ _ (ret Value.none) _ _ _;exact qc ⟨_,rfl,hin h _⟩
 .show wpAny _ _ (ret Value.none) _ _ _;exact qc ⟨_,rfl,hout h h' kss' _ sb S2 mem2⟩
theorem qd8 {Q:Value->Shared->Prop}(q:Q (.ref s.heap.objs.size) { s with heap:=s.heap.push (jI w) }):wpAny (model prog w) A (newSet (.type "set")) Q E s:=by
 unfold newSet;refine qa ?_;unfold setsByText;refine qa (jO (qc ?_));exact yb q (by size_fits)
end
def tSCJ (P:Program) (w:World) (K:W.Frag) (k:Nat) (g:TG) (tt:TT) (te:TE) (σ:St) (Q:VK) (J:It) (H1:Hp):Prop:=∃ W:Nat->Nat->List (Addr×List Int)->St->Hp->Prop,(∃ m,W 0 m [] (σ++List.replicate k none) H1)/\∀ i m bs σ' H,W i m bs σ' H->InS K H bs ∧
 ((J.stop i H/\∀ D,H D=none->Q (.ref D) (upd H D (qcw P w D bs))) ∨
 (J.go i H/\bs.length<4900/\∃ N:List (Addr×List Int)->St->Hp->Prop,(∀ bs' σ' H',N bs' σ' H'->∃ m',m'<m/\W (i+1) m' bs' σ' H') ∧
  ∀ x H',J.yld i H x H'->g x σ' H' fun σ2 H2=>tt σ2 H2 fun b H3=>if b=true then te σ2 H3 fun y H4=>∃ ks,JA K H4 y ks/\InS K H4 bs/\∀ bs',(∀ c∈bs',c∈bs\/(V.ref c.1=y/\c.2=ks))->(∀ q,q∈bs'.map (·.2) ↔ q=ks\/q∈bs.map (·.2))->(bs'.map (·.2)).Nodup->N bs' σ2 H4 else N bs σ2 H3))
def qjF (P:Program) (w:World) (K:W.Frag) (k:Nat) (wi:TI) (g:TG) (tt:TT) (te:TE):TE:=fun σ H Q=>wi σ H (tSCJ P w K k g tt te σ Q)
section
variable {X:Cx}
theorem qfv {pins:List (Addr×Obj)}{σ σ':St}{H H':Hp}{sa2 s':Shared}{L:List Str}{scope:Scope}{cl:List (Str×Addr)}{fp:List Addr}{bs:List (Addr×List Int)}{D C:Addr}{pl:List (Addr×Obj)}
  (I:Inv X pins σ H sa2) (hf:∀ b∈fp,Jl X pins H b) (hD:sa2.heap.objs.size=D)
  (J:Inv (qo X L scope cl C sa2 H fp) pl σ' H' s') (hpD:qa3 X.prog X.w D bs s'.heap) (hHD:H' D=none) :
  Inv X pins σ (upd H' D (qcw X.prog X.w D bs)) s':=by
 have B:Un (frs X.stack) fp H H' sa2.heap s'.heap:=J.base;have neD:∀ b o,sa2.heap.get? b=some o->b≠D:=fun b o e=>by rw [<- hD];exact qg (qi e)
 refine I.call' (ch:=fp) J.os ⟨B.keep,B.slot,fun b o e hn hx=>?_,B.there,fun b xs e=>?_,fun b o u e=>?_,fun b ps e=>?_⟩ (fun b o e=>?_) J.bare (fun b hb=>⟨(hf b hb).2.2.2.1,(hf b hb).2.1,(hf b hb).2.2.2.2.1,(hf b hb).2.2.2.2.2⟩)
 .rw [qC (neD b o e)];exact B.free b o e hn hx
 .have:=B.tups b xs e;rw [qC (qt this hHD)];exact this
 .have:=B.frzs b o u e;rw [qC (qt this hHD)];exact this
 .obtain ⟨more,this⟩:=B.tbls b ps e;exact ⟨more,by rw [qC (qt this hHD)];exact this⟩
 .by_cases hb:b=D
  .subst hb;rw [qE] at e;cases e
   exact qa3.ok hpD
  .rw [qC hb] at e;exact (J.hok b o e).stay (fun _ _ _ q=>q) (fun c q=>by rw [qC (qt q hHD)];exact q) fun c xs q=>by rw [qC (qt q hHD)];exact q
theorem qjL {Y:Cx}{pins:List (Addr×Obj)}{σ:St}{H:Hp}{s:Shared}(I:Inv Y pins σ H s) {D:Addr}{bs:List (Addr×List Int)}(p:qa3 Y.prog Y.w D bs s.heap) (hb:InS Y.K H bs) (Pv:Value->Prop) (hp:∀ c∈bs,Pv (Value.ref c.1)):qa5 Y.prog Y.w Pv s.heap D (bs.map (·.2)):=by
 obtain ⟨o,es,ep,t,m,ho,ex,hd,pl,ld,mo,si,ee,nd⟩:=p;refine ⟨o,es,ep,t,m,ho,ex,hd,pl,ld,mo,si,?_,nd,fun e he=>?_⟩
 .rw [ee];exact qbD fun b hbb=>I.tupK (hb b hbb)
 .rw [ee] at he;obtain ⟨b,h1,rfl⟩:=ql.mp he;exact hp b h1
theorem qdl {pins:List (Addr×Obj)}{σ:St}{H:Hp}{sa2:Shared}{L:List Str}{scope:Scope}{cl:List (Str×Addr)}{fp:List Addr}{sc:Scope}{N:List Str}{tg elt iter:Expr}{ifs:List Expr}{pos:Pos}
  {g:TG}{tt:TT}{te:TE}{Q:VK}{J:It}{it:Addr}{tn:Nat->Heap->Prop}{RR:Value->Addr->Result->Shared->Prop}{E:Value->Shared->Prop}
  (hu:X.A.units+8<cLine) (hc:X.calm=true) (hsc:X.env.scope=sc) (hN:X.N=N) (ok:jf sc N L scope=true) (hc1:∀ x c,cl.lookup x=some c->X.env.cells.lookup x=some c)
  (hc2:∀ y∈scope.names,y.2 = .free->∃ c,cl.lookup y.1=some c)
  (hg:∀ cl C sa2 Ha2 fp,PG (qo X L scope cl C sa2 Ha2 fp) tg g) (hi:∀ cl C sa2 Ha2 fp,Ifs (qo X L scope cl C sa2 Ha2 fp) ifs tt) (he:∀ cl C sa2 Ha2 fp,PE (qo X L scope cl C sa2 Ha2 fp) elt te)
  (I:Inv X pins σ H sa2) (T:Turn X.prog X.w X.K tg J fp it tn) (st:tn 0 sa2.heap) (hf:∀ b∈fp,Jl X pins H b) (hw:tSCJ X.prog X.w X.K L.length g tt te σ Q J H)
  (hR:∀ D C m H' s' bs,s'.heap.Ns C m->sa2.heap.objs.size=D->sa2.heap.objs.size<C->H' C=none->D≠C->Inv X pins σ (upd H' D (qcw X.prog X.w D bs)) s'->Q (.ref D) (upd H' D (qcw X.prog X.w D bs))->RR (.ref D) C (.ok .next) s') :
  wpAny (model X.prog X.w) X.A (newSet (.type "set")) (fun acc sa3=>wpAny (model X.prog X.w) X.A (newFunctionEnv scope X.env.globals cl [] X.env.qual none .none (some X.env)) (fun cenv sa4 =>
   codeAny (model X.prog X.w) X.A (.compStart (.SetComp elt [⟨tg,iter,ifs,0⟩] scope pos) 0 (.ref it) acc { cenv with scope:=relabel scope X.env }) (RR acc cenv.locals) sa4) E sa3) E sa2:=by
 refine qd8 (wpAny_newFunctionEnv (fun y hy=>(yB ok hy).1) (by intro y hy;simp at hy) (fun hd1 hns1 hsb1=>?_) (yM ok));dsimp only at hns1 hsb1 ⊢;generalize hH2:sa2.heap.push (jI X.w)=H2 at hns1 hsb1 ⊢;have hC:H2.objs.size=sa2.heap.objs.size+1:=by rw [<- hH2,qV]
 have hCle:sa2.heap.objs.size<=H2.objs.size:=by rw [hC];exact Nat.le_succ _
 have hDC:sa2.heap.objs.size≠H2.objs.size:=by rw [hC];exact qg (qZ _)
 have hlt:∀ b∈fp,b<sa2.heap.objs.size:=fun b hb=>by
  obtain ⟨o,e,_⟩:=T.obj 0 _ st b hb;exact qi e
 have below:∀ b,b<sa2.heap.objs.size->b≠H2.objs.size:=fun b hb=>by rw [hC];exact qg (qT hb)
 have old:∀ b o,sa2.heap.get? b=some o->hd1.get? b=some o:=fun b o e=>hsb1.extBut b o (below b (qi e)) (qb _ (hH2 ▸ qb _ e));have hacc:hd1.get? sa2.heap.objs.size=some (jI X.w):=hsb1.extBut _ _ hDC (qb _ (hH2 ▸ qj _ rfl));have Yok:=ZU (L:=L) (scope:=scope) (cl:=cl) (C:=H2.objs.size) (fp:=fp) I hsc hN ok hc1 hc2 hf hlt hCle;generalize hDn:sa2.heap.objs.size=D at *;generalize hCn:H2.objs.size=C at *;have sat1:tn 0 hd1:=T.keep _ _ _ st fun b _ o e=>old b o e;have cellD:∀ x c,cl.lookup x=some c->c≠D:=fun x c e=>by
  obtain ⟨v,q⟩:=I.cell x c (hc1 x c e);rw [<- hDn];exact qg q.lt
 have fpY:∀ {H':Hp}{oD:Obj},(∀ b∈fp,H' b=none)->∀ b∈fp,Jl (qo X L scope cl C sa2 H fp) [(D,oD)] H' b:=fun {H' oD} hn b hb=>by
  refine ⟨hn b hb,(Yok.exf b hb).1,Yok.exfs b hb,.inl hb,(Yok.exf b hb).2,fun p hp=>?_⟩;have e:p=(D,oD):=by
   have:p∈[(D,oD)]:=hp;simpa using this
  subst e;exact Ne.symm (qg (hlt b hb))
 have nfsD:D∉(qo X L scope cl C sa2 H fp).fs:=fun z=>by
  obtain ⟨_,o,ho,_⟩:=Yok.funs.mem z;exact absurd (show D<sa2.heap.objs.size from qi ho) (by rw [hDn];exact ye _)
 have pinD:∀ {σ':St}{H':Hp}{s':Shared}{pl:List (Addr×Obj)}{bs:List (Addr×List Int)},Inv (qo X L scope cl C sa2 H fp) pl σ' H' s'->qa3 X.prog X.w D bs s'.heap->H' D=none →
   ∃ oD,s'.heap.get? D=some oD/\Inv (qo X L scope cl C sa2 H fp) [(D,oD)] σ' H' s':=fun {σ' H' s' pl bs} J e hn=>by
  obtain ⟨o,es,ep,t,m,ho,ex,hd,r⟩:=e;refine ⟨o,ho,J.pins_of fun p hp=>?_⟩;have e':p=(D,o):=by simpa using hp
  subst e';exact ⟨ho,hn,hDC,nfsD,fun v z=>by rw [hd] at z;cases z⟩
 have Ia1:Inv (qo X L scope cl C sa2 H fp) [] (σ++List.replicate L.length none) H { sa2 with heap:=hd1,toks:=sa2.toks+([]:List (Str×Value)).length } :=
  Jo I hsc hN ok hc1 Yok (by rw [hDn];exact hCle) rfl I.bare old hns1
 have HD:H D=none:=I.hok.fresh (by rw [hDn];exact Nat.le_refl _);have toP:∀ {Pv:Value->Prop}{h:Heap}{kss:List (List Int)},qa5 X.prog X.w Pv h D kss->∃ bs:List (Addr×List Int),qa3 X.prog X.w D bs h/\bs.map (·.2)=kss/\(∀ b∈bs,yY h (.ref b.1) b.2/\Pv (.ref b.1)):=fun {Pv h kss} S=>by
  obtain ⟨o,es,ep,t,m,D0⟩:=S;obtain ⟨bs,e1,e2,e3⟩:=qbt D0.en;subst e2;refine ⟨bs,⟨o,es,ep,t,m,D0.ho,D0.ex,D0.hd,D0.pl,D0.ld,D0.mok,D0.si,e1,D0.nd⟩,rfl,fun b hb=>⟨e3 b hb,?_⟩⟩;exact D0.own (yA X.prog X.w b.2,Value.ref b.1) (by rw [e1];exact ql.mpr ⟨b,hb,rfl⟩)
 have P1:qa3 X.prog X.w D [] hd1:=by
  obtain ⟨bs,p1,p2,_⟩:=toP (qb0 (prog:=X.prog) (Pv:=fun _=>True) hacc);have:bs=[]:=List.map_eq_nil_iff.mp p2;rw [this] at p1;exact p1
 obtain ⟨W,⟨m0,w0⟩,turn⟩:=hw;have loop:codeAny (model X.prog X.w) X.A (.compLoop (.SetComp elt [⟨tg,iter,ifs,0⟩] scope pos) 0 (.ref it) (.ref D) (compEnvC scope cl C X.env)) (RR (.ref D) C)
   { sa2 with heap:=hd1,toks:=sa2.toks+([]:List (Str×Value)).length }:=by
  obtain ⟨oD1,_,J1⟩:=pinD Ia1 P1 HD;refine Jp (fun n s'=>∃ i bs oD σ' H',Inv (qo X L scope cl C sa2 H fp) [(D,oD)] σ' H' s'/\qa3 X.prog X.w D bs s'.heap/\tn i s'.heap/\(∀ b∈fp,H' b=none)/\W i n bs σ' H')
   ?_ m0 ⟨0,[],oD1,_,H,J1,P1,sat1,fun b hb=>(hf b hb).1,w0⟩
  rintro n s3 ⟨i,bs,oD,σ3,H3,I3,p3,st3,fr3,w3⟩;have hp3:=I3.pin (D,oD) (by simp);obtain ⟨in3,tu⟩:=turn i n bs σ3 H3 w3;rcases tu with ⟨stop,q⟩ | ⟨go,hlen,Nx,hNx,step⟩
  .refine thn (T.done (qo X L scope cl C sa2 H fp) rfl rfl rfl hc i _ s3 σ3 H3 _ I3 (fpY fr3) st3 stop) fun r s4 ⟨hr,I4⟩=>?_;subst hr;have hp4:=I4.pin (D,oD) (by simp);obtain ⟨m4,hn4,_⟩:=I4.loc;have p4:qa3 X.prog X.w D bs s4.heap:=p3.stay fun o e=>by
    rw [hp3.1] at e;cases e
    exact hp4.1
   exact hR D C m4 H3 s4 bs hn4 rfl (by rw [hC];exact qZ _) I4.free hDC (qfv I hf hDn I4 p4 hp4.2.1) (q D hp4.2.1)
  .refine thn (T.item (qo X L scope cl C sa2 H fp) rfl rfl rfl hc i _ s3 σ3 H3 _ I3 (fpY fr3) st3 go) fun r s4 ⟨u,hr,h4⟩=>?_;subst hr;refine thn h4 fun _ s5 hq9=>?_;obtain ⟨x,H5,I5,r5,y5,st5,fr5⟩:=hq9;have I5':=I5.pinned (fpY fr5) (T.obj _ _ st5);refine thn (hg cl C sa2 H fp _ s5 σ3 H5 x u _ I5' r5 (step x H5 y5)) fun _ s6 hq9=>?_;obtain ⟨σ6,H6,I6,q6⟩:=hq9;refine thn (hi cl C sa2 H fp _ s6 σ6 H6 _ I6 q6) fun ok s7 hq9=>?_;obtain ⟨H7,I7,q7⟩:=hq9;have later:∀ {σ':St}{H':Hp}{s':Shared},Inv (qo X L scope cl C sa2 H fp) ([(D,oD)]++jL fp s5.heap) σ' H' s' →
     tn (i+1) s'.heap/\(∀ b∈fp,H' b=none)/\qa3 X.prog X.w D bs s'.heap/\H' D=none:=fun {σ' H' s'} J=>by
    refine ⟨T.keep _ _ _ st5 fun b hb o e=>(J.pin (b,o) (qh _ (qh _ (yq hb e)))).1,fun b hb=>?_,?_⟩
    .obtain ⟨o,e,d⟩:=T.obj _ _ st5 b hb;exact (J.pin (b,o) (qh _ (qh _ (yq hb e)))).2.1
    .have z:=J.pin (D,oD) (qh _ (qr _ (by simp)));exact ⟨p3.stay fun o e=>by rw [hp3.1] at e;cases e;exact z.1,z.2.1⟩
   cases ok with
   | false =>
    rw [if_neg (by simp)] at q7 ⊢;obtain ⟨m',hm',w'⟩:=hNx _ _ _ q7;obtain ⟨t1,t2,t3,t4⟩:=later I7;obtain ⟨oD7,_,J7⟩:=pinD I7 t3 t4;exact ⟨m',hm',i+1,bs,oD7,σ6,H7,J7,t3,t1,t2,w'⟩
   | true =>
    rw [if_pos rfl] at q7 ⊢;refine thn (he cl C sa2 H fp _ s7 σ6 H7 _ I7 q7) fun y s8 hq9=>?_;obtain ⟨v,H8,I8,r8,q8⟩:=hq9;obtain ⟨ks,tk8,in8,nx8⟩:=q8;obtain ⟨t1,t2,t3,t4⟩:=later I8;obtain ⟨⟨b,rfl,_⟩,_⟩:=id tk8;have r8:y=Value.ref b:=r8;subst r8;have kb:yY s8.heap (.ref b) ks:=I8.tupK tk8;have S8:=qjL I8 t3 in8 (fun v=>(∃ c∈bs,v=Value.ref c.1)\/v=Value.ref b) (fun c hc=>.inl ⟨c,hc,rfl⟩);have nbD:∀ b∈fp,b≠D:=fun b hb=>qg (hlt b hb);refine qgu (A:=(qo X L scope cl C sa2 H fp).A) S8 kb (.inr rfl) hu (by rw [List.length_map];exact yj hlen (by decide)) (fun hin tk=>?_) fun hout h9 kss' tk sb S9 mem9=>?_
    .-- it was there
     obtain ⟨m',hm',w'⟩:=hNx _ _ _ (nx8 bs (fun c hc=>.inl hc) (fun q=>⟨.inr,fun h=>h.elim (fun e=>by rw [e];exact hin) id⟩) (by obtain ⟨_,_,_,_,_,_,_,_,_,_,_,_,_,nd⟩:=t3;exact nd));have I9:Inv (qo X L scope cl C sa2 H fp) [] σ6 H8 { s8 with toks:=tk }:=(I8.pins_of (pins':=[]) (fun p hp=>by simp at hp)).turned (it:=D) (h':=s8.heap) (t':=tk) (fun b o hb e=>e) t4 hDC
      (.inr (by show sa2.heap.objs.size<=D;rw [hDn];exact Nat.le_refl _)) cellD (fun p hp=>by
       have:p∈([]:List (Addr×Obj)):=hp;simp at this)
     obtain ⟨oD9,_,J9⟩:=pinD I9 t3 t4;exact ⟨m',hm',i+1,bs,oD9,σ6,H8,J9,t3,t1,t2,w'⟩
    .obtain ⟨bs',p9,e9,o9⟩:=toP S9;have hbs:∀ c∈bs',c∈bs\/(V.ref c.1=V.ref b/\c.2=ks):=fun c hc=>by
      obtain ⟨k1,k2⟩:=o9 c hc;have kept:∀ {v:Value}{k:List Int},yY s8.heap v k->yY h9 v k:=fun t=>t.kept fun b o e hcl=>by
       refine sb.extBut b o (fun z=>?_) e;obtain ⟨o',_,_,_,_,ho',ex',_⟩:=t3;rw [z,ho'] at e;cases e
       rw [ex'.1] at hcl;exact absurd hcl (by decide)
      rcases k2 with ⟨c0,hc0,e⟩ | e
      .have e:c.1=c0.1:=by injection e
       have k0:yY h9 (.ref c.1) c0.2:=by rw [e];exact kept (I8.tupK (in8 c0 hc0))
       have:=(k1.key (prog:=X.prog) (w:=X.w)).inj (k0.key (prog:=X.prog) (w:=X.w));exact .inl (by rw [show c=c0 from Prod.ext e this];exact hc0)
      .have e:c.1=b:=by injection e
       have k0:yY h9 (.ref c.1) ks:=by rw [e];exact kept kb
       have:=(k1.key (prog:=X.prog) (w:=X.w)).inj (k0.key (prog:=X.prog) (w:=X.w));exact .inr ⟨by rw [e],this⟩
     obtain ⟨m',hm',w'⟩:=hNx _ _ _ (nx8 bs' hbs (fun q=>by rw [e9];exact mem9 q) (by obtain ⟨_,_,_,_,_,_,_,_,_,_,_,_,_,nd⟩:=p9;exact nd));have I9:Inv (qo X L scope cl C sa2 H fp) [] σ6 H8 { s8 with heap:=h9,toks:=tk }:=(I8.pins_of (pins':=[]) (fun p hp=>by simp at hp)).turned (it:=D) (t':=tk) (fun b o hb e=>sb.extBut b o hb e) t4 hDC
      (.inr (by show sa2.heap.objs.size<=D;rw [hDn];exact Nat.le_refl _)) cellD (fun p hp=>by
       have:p∈([]:List (Addr×Obj)):=hp;simp at this)
     obtain ⟨oD9,_,J9⟩:=pinD I9 p9 t4;exact ⟨m',hm',i+1,bs',oD9,σ6,H8,J9,p9,T.keep _ _ _ t1 fun b hb o e=>sb.extBut b o (nbD b hb) e,t2,w'⟩
 exact Ji loop (T.self _ 0 _ _ _ sat1 loop)
end
end L2
namespace L2
open PySem PySem.Spec PyProof.Rows PySem.W PySem.SetTable
section
variable {X:Cx}
theorem qie {L:List Str}{scope sc:Scope}{N:List Str}{tg elt iter:Expr}{ifs:List Expr}{pos:Pos}{wi:TI}{g:TG}{tt:TT}{te:TE}
  (hu:X.A.units+8<cLine) (hc:X.calm=true) (hsc:X.env.scope=sc) (hN:X.N=N) (ok:jf sc N L scope=true)
  (hi:PI X tg iter wi) (hg:∀ cl C sa2 Ha2 fp,PG (qo X L scope cl C sa2 Ha2 fp) tg g) (hf:∀ cl C sa2 Ha2 fp,Ifs (qo X L scope cl C sa2 Ha2 fp) ifs tt) (he:∀ cl C sa2 Ha2 fp,PE (qo X L scope cl C sa2 Ha2 fp) elt te)
  (hs:∀ x,foldedSetIterable iter X.env x=pure x:=by intro _;rfl) :
  PE X (.SetComp elt [⟨tg,iter,ifs,0⟩] scope pos) (qjF X.prog X.w X.K L.length wi g tt te):=by
 intro pins s σ H Q I h;obtain ⟨cl,hcl,hc1,hc2⟩:=jV (env:=X.env) (scope:=scope) fun y hy hfr=>by
  refine I.ok.has y.1 ?_;have z:=(yB ok hy).2.2 hfr;rw [<- hsc] at z;exact z
 rw [arm_eval_SetComp];refine wpAny_comprehension_free (use:=none) rfl hs hcl (yM ok) (fun y hy hl=>((yB ok hy).2.1 hl).1) (thn (hi pins s σ H _ I h) fun v s1 h1=>thn h1 fun itv s2 h2=>?_);obtain ⟨it,fp,tn,J,H2,e,I2,T,st2,f2,hw⟩:=h2;subst e;refine qdl (RR:=fun acc C=>compPost (model X.prog X.w) X.A X.xe none (EP X pins σ Q) acc C) hu hc hsc hN ok hc1 hc2 hg hf he I2 T st2 f2 hw ?_;intro D C m H' s' bs hns hD hC hHC hDC J' q;refine ⟨m,hns,fun h'' hs''=>⟨.ref D,upd H' D (qcw X.prog X.w D bs),?_,rfl,q⟩⟩;have hsz:=I2.sz;refine J'.turned (it:=C) (t':=s'.toks) (fun b o hb e=>hs''.extBut b o hb e) (by rw [qC (Ne.symm hDC)];exact hHC) (Ne.symm (qg (yj I2.lt hC))) (.inr (qq hsz (qP hC))) (fun x c e=>?_) (fun p hp=>?_)
 .obtain ⟨v,z⟩:=I2.cell x c e;exact qg (yj z.lt hC)
 .exact qg (yj (qi (I2.pin p hp).1) hC)
end
section
variable {X:Cx}{K:W.Frag}{tg iter:Expr}{pos:Pos}{P:Program}{w:World}
def qlh (P:Program) (w:World) (K:W.Frag) (k:Nat) (ti:TId) (g:TGd) (tt:TTd) (te:TEd):TEd:=fun ρ U Q=>ti ρ U fun J U1=>J.n<4900/\∃ Pv:Nat->List (List Int)->Rho->Mu->Prop,Pv 0 [] (ρ++List.replicate k none) U1/\(∀ i ys ρ' U',i<=J.n->Pv i ys ρ' U'->J.ok U') ∧
 (∀ i ys ρ' U',i<J.n->Pv i ys ρ' U'->g (J.item i) ρ' U' fun ρ2 U2=>tt ρ2 U2 fun b U3=>if b=true then te ρ2 U3 fun y U4=>∃ z,z≠[]/\y = .d (jQ z)/\Pv (i+1) (ys++[z]) ρ2 U4 else Pv (i+1) ys ρ2 U3) ∧
 ∀ ys ρ' U',Pv J.n ys ρ' U'->∀ ms,(∀ q,q∈ms ↔ q∈ys)->ms.Nodup->ms.length<4915->Q (.x (qfq P w K ms)) U'
theorem qfW {Z:Type} [DecidableEq Z]:∀ {ms kss:List Z},ms.Nodup->(∀ q∈ms,q∈kss)->ms.length<=kss.length:=fun h1 h2=>List.Nodup.length_le_of_subset h1 h2
theorem qhz {k:Nat}{ti:TId}{g:TGd}{tt:TTd}{te:TEd}{σ:St}{H:Hp}{Q:VK}(h:up K (qlh P w K k ti g tt te) σ H Q):qjF P w K k (upI K ti) (upG K g) (upT K tt) (up K te) σ H Q:=by
 obtain ⟨ρ,U,Q0,hS,hM,h,cl⟩:=h;refine ⟨ρ,U,_,hS,hM,h,fun J0 U1 J H1 q M1 s1 sim=>?_⟩;obtain ⟨hn,Pv,h0,hok,hstep,hend⟩:=q;have S0:RelS K (ρ++List.replicate k none) U1 (σ++List.replicate k none) H1:=by
  have S1:=hS.same s1;refine ⟨by simp [S1.len],fun i e he=>?_⟩;by_cases hi:i<ρ.length
  .rw [qv hi] at he;rw [qv (by rw [<- S1.len];exact hi)];exact S1.get i e he
  .rw [qS (by omega),yF] at he;split at he <;> cases he
 refine ⟨fun i m bs σ' H'=>m=J0.n - i/\i<=J0.n/\∃ ys ρ' U',ys.length<=i/\RelS K ρ' U' σ' H'/\RelM K U' H'/\yd (mask U1 H1) (mask U' H')/\InS K (mask U' H') bs/\(∀ q,q∈bs.map (·.2) ↔ q∈ys)/\(bs.map (·.2)).Nodup/\Pv i ys ρ' U',⟨_,rfl,qB _,[],_,U1,Nat.le_refl _,S0,M1,yd.refl _,(fun _ z=>nomatch z),(fun q=>by simp),.nil,h0⟩,?_⟩;rintro i m bs σ' H' ⟨rfl,hi,ys,ρ',U',hy,S',M',s',hA,hm,nd,p⟩;refine ⟨fun b hb=>(hA b hb).up,?_⟩;have sm:=sim U' H' M' s' (hok i ys ρ' U' hi p) i;have hbl:bs.length<=i:=by
  have:=qfW nd fun q hq=>(hm q).mp hq;rw [List.length_map] at this;omega
 by_cases hlt:i<J0.n
 .obtain ⟨hgo,hyl⟩:=sm.1 hlt;refine .inr ⟨hgo,by omega,fun bs2 σ2 H2=>∃ ys ρ' U',ys.length<=i+1/\RelS K ρ' U' σ2 H2/\RelM K U' H2/\yd (mask U1 H1) (mask U' H2)/\InS K (mask U' H2) bs2/\(∀ q,q∈bs2.map (·.2) ↔ q∈ys)/\(bs2.map (·.2)).Nodup/\Pv (i+1) ys ρ' U',fun ys2 σ2 H2 z=>⟨J0.n - (i+1),by omega,rfl,hlt,z⟩,fun x H2 y=>?_⟩;obtain ⟨M2,s2,i2⟩:=hyl x H2 y;refine ⟨_,ρ',U',_,i2,S'.same s2,M2,hstep i ys ρ' U' hlt p,fun ρ3 U3 σ3 H3 q3 S3 M3 s3=>⟨ρ3,U3,_,S3,M3,q3,fun b U4 H4 q4 M4 s4=>?_⟩⟩;have st:=((s'.trans s2).trans s3).trans s4;cases b with
  | true =>
   refine qa4 ⟨ρ3,U4,_,S3.same s4,M4,(by simpa using q4),fun e U5 v H5 q5 M5 s5 i5=>?_⟩;obtain ⟨z,zn,rfl,q5⟩:=q5;have i5:Is K (mask U5 H5) v (jQ z):=i5;have tz:JA K (mask U5 H5) v z:=by
    have:=IsAll.tups (K:=K) (us:=[v]) (kss:=[z]) (.cons i5 .nil) (fun k hk=>by rw [qA.mp hk];exact zn);cases this with
    | cons a b=>exact a
   have hA5:=hA.same (((s2.trans s3).trans s4).trans s5);refine ⟨z,tz.up,fun b hb=>(hA5 b hb).up,fun bs' c1 c2 c3=>⟨ys++[z],ρ3,U5,by simp;omega,(S3.same s4).same s5,M5,st.trans s5,fun c hc=>?_,fun q=>?_,c3,q5⟩⟩
   .rcases c1 c hc with h | ⟨h1,h2⟩
    .exact hA5 c h
    .rw [h1,h2];exact tz
   .rw [c2 q,hm q,List.mem_append,qA];exact Or.comm
  | false=>exact Z3 ⟨ys,ρ3,U4,by omega,S3.same s4,M4,st,hA.same ((s2.trans s3).trans s4),hm,nd,by simpa using q4⟩
 .have e:i=J0.n:=by omega
  subst e;refine .inl ⟨sm.2 (Nat.le_refl _),fun D hD=>?_⟩;obtain ⟨M4,s4,hn'⟩:=M'.laid (o:=qcw P w D bs) hD;refine cl _ U' _ _ (hend ys ρ' U' p (bs.map (·.2)) hm nd (by rw [List.length_map];omega)) M4 ((s1.trans s').trans s4) ⟨D,bs,rfl,?_,hA.same s4,rfl,nd,by rw [List.length_map];omega⟩;rw [qX hn'];exact qE
theorem qla {L:List Str}{scope sc:Scope}{N:List Str}{elt:Expr}{ifs:List Expr}{ti:TId}{g:TGd}{tt:TTd}{te:TEd}
  (hu:X.A.units+64<cLine) (hc:X.calm=true) (hsc:X.env.scope=sc) (hN:X.N=N) (ok:jf sc N L scope=true)
  (hi:DI K X tg iter ti) (hg:∀ cl C sa2 Ha2 fp,DG K (qo X L scope cl C sa2 Ha2 fp) tg g) (hf:∀ cl C sa2 Ha2 fp,qht K (qo X L scope cl C sa2 Ha2 fp) ifs tt) (he:∀ cl C sa2 Ha2 fp,DE K (qo X L scope cl C sa2 Ha2 fp) elt te)
  (hK:X.K=K:=by rfl) (hP:X.prog=P:=by rfl) (hw:X.w=w:=by rfl) (hs:∀ x,foldedSetIterable iter X.env x=pure x:=by intro _;rfl) :
  DE K X (.SetComp elt [⟨tg,iter,ifs,0⟩] scope pos) (qlh P w K L.length ti g tt te):=by
 subst hK hP hw;exact PE.mono (qie (by omega) hc hsc hN ok hi hg hf he hs) fun _ _ _=>qhz
end
open PySem PySem.Spec PyProof.Rows
section
variable {X:Cx}{K:W.Frag}{pos:Pos}
theorem vals3 {x y z:V}{us:List Value}(r:yy [x,y,z] us):∃ u v w,us=[u,v,w]/\jb x u/\jb y v/\jb z w:=by
 cases r with
 | cons p q =>
  obtain ⟨v,w,rfl,h1,h2⟩:=qa8 q;exact ⟨_,_,_,rfl,p,h1,h2⟩
end
def qjV (X:Cx) (N':List Str):Cx:={ X with N:=N' }
theorem qbP {σ:List (Option V)}{i j:Nat}{v:V}(h:(σ.set j none)[i]?=some (some v)):i≠j/\σ[i]?=some (some v):=by
 by_cases e:i=j
 .subst e;rw [List.getElem?_set_self' ] at h;cases hh:σ[i]? with
  | none=>rw [hh] at h;cases h
  | some a=>rw [hh] at h;cases h
 .exact ⟨e,by rwa [yX (Ne.symm e)] at h⟩
theorem Cx.Ok.ren {X:Cx}{N':List Str}(ok:X.Ok):(qjV X N').Ok :=
 ⟨ok.mod,ok.kind,ok.glob,ok.blt,ok.above,ok.inj,ok.has,ok.cab,ok.hd,ok.frames,ok.stk,ok.exf,ok.bs,ok.bsz,ok.noex,ok.exfs,ok.funs,ok.frf⟩
theorem Cx.Ok.unren {X:Cx}{N':List Str}(ok:(qjV X N').Ok):X.Ok :=
 ⟨ok.mod,ok.kind,ok.glob,ok.blt,ok.above,ok.inj,ok.has,ok.cab,ok.hd,ok.frames,ok.stk,ok.exf,ok.bs,ok.bsz,ok.noex,ok.exfs,ok.funs,ok.frf⟩
section
variable {X:Cx}{K:W.Frag}{pins:List (Addr×Obj)}{σ:List (Option V)}{H:Hp}{s:Shared}
theorem Inv.ren {j:Nat}{d:Str}(I:Inv X pins σ H s):Inv (qjV X (X.N.set j d)) pins (σ.set j none) H s :=
 ⟨Cx.Ok.ren I.ok,I.os,I.bare,I.base,by
  obtain ⟨m,hn,h⟩:=I.loc;refine ⟨m,hn,fun i x v e1 e2 hv=>?_⟩;obtain ⟨hij,e2⟩:=qbP e2;have e1:(X.N.set j d)[i]?=some x:=e1;rw [yX (Ne.symm hij)] at e1;exact h i x v e1 e2 hv,I.cell,I.free,I.freeC,I.pin,I.hok,by
  show (σ.set j none).length=(X.N.set j d).length;rw [List.length_set,List.length_set];exact I.len⟩
theorem Inv.unren {j:Nat}{d:Str}(I:Inv (qjV X (X.N.set j d)) pins σ H s):Inv X pins (σ.set j none) H s :=
 ⟨Cx.Ok.unren I.ok,I.os,I.bare,I.base,by
  obtain ⟨m,hn,h⟩:=I.loc;refine ⟨m,hn,fun i x v e1 e2 hv=>?_⟩;obtain ⟨hij,e2⟩:=qbP e2;exact h i x v (show (X.N.set j d)[i]?=some x by rw [yX (Ne.symm hij)];exact e1) e2 hv,I.cell,I.free,I.freeC,I.pin,I.hok,by
  have:=I.len;have this:σ.length=(X.N.set j d).length:=this;rw [List.length_set] at this;rw [List.length_set];exact this⟩
theorem RelS.forget {ρ:Rho}{U:Mu}(j:Nat) (h:RelS K ρ U σ H):RelS K (ρ.set j none) U (σ.set j none) H:=by
 refine ⟨by simp [h.len],fun i e q=>?_⟩;by_cases hj:i=j
 .subst hj;rw [List.getElem?_set_self'] at q;cases hh:ρ[i]? with
  | none=>rw [hh] at q;cases q
  | some a=>rw [hh] at q;cases q
 .rw [yX (Ne.symm hj)] at q;obtain ⟨v,e1,e2⟩:=h.get i e q;exact ⟨v,by rw [yX (Ne.symm hj)];exact e1,e2⟩
def qjd (j:Nat) (t:TSd):TSd:=fun D ρ U=>t { nx:=fun ρ' U'=>D.nx (ρ'.set j none) U',rt:=D.rt,bk:=fun ρ' U'=>D.bk (ρ'.set j none) U',ct:=fun ρ' U'=>D.ct (ρ'.set j none) U' } (ρ.set j none) U
theorem qaI {st:Stmt}{t:TSd}(j:Nat) (d:Str) {N':List Str}(hN:X.N.set j d=N') (h:DS K (qjV X N') st t):DS K X st (qjd j t):=by
 subst hN;intro pins s σ H D I ⟨ρ,U,D0,hS,hM,ht,cl⟩;let D':Ends:={ nx:=fun σ' H'=>D.nx (σ'.set j none) H',rt:=D.rt,bk:=fun σ' H'=>D.bk (σ'.set j none) H',ct:=fun σ' H'=>D.ct (σ'.set j none) H' }
 refine qp (h pins s (σ.set j none) H D' I.ren ⟨ρ.set j none,U,_,hS.forget j,hM,ht,?_⟩) (fun f s' q=>?_) (fun _ _ x=>x)
 .exact ⟨fun ρ' U' σ' H' a b c d=>cl.nx _ U' _ H' a (b.forget j) c d,cl.rt,fun ρ' U' σ' H' a b c d=>cl.bk _ U' _ H' a (b.forget j) c d,fun ρ' U' σ' H' a b c d=>cl.ct _ U' _ H' a (b.forget j) c d⟩
 .cases f with
  | next=>obtain ⟨σ',H',J,q⟩:=q;exact ⟨_,H',J.unren,q⟩
  | brk=>obtain ⟨σ',H',J,q⟩:=q;exact ⟨_,H',J.unren,q⟩
  | cont=>obtain ⟨σ',H',J,q⟩:=q;exact ⟨_,H',J.unren,q⟩
  | ret u=>obtain ⟨v,σ',H',J,r,q⟩:=q;exact ⟨v,_,H',J.unren,r,q⟩
end
section
variable {X:Cx}{K:W.Frag}{pos:Pos}
end
section
variable {X:Cx}{K:W.Frag}{pos:Pos}
end
end L2
namespace L2
open PySem PySem.Spec PyProof.Rows PySem.W
abbrev kT (P:Program) (w:World):HeapKind P w (List Int):=tupleKind (intKind P w)
theorem ji:entryFor table "dict.update.loop" = some Builtin.«dict.update.loop»:=entryFor_of_tree (by kernel_rfl)
theorem yz:plainId "dict.update.loop" = true:=by decide +kernel
theorem YW:typeLookup (.type "list") "keys" = pure none:=by rw [typeLookup_type,builtinLookup_eq_fast];kernel_rfl
section
variable {prog:Program}{w:World}{A:Around}{E:Value->Shared->Prop}{s:Shared}
theorem qiz {a:Addr}{o:Obj}{xs:Array Value}{k:Nat}{Q:Option Value->Shared->Prop}(hx:s.heap.get? a=some o) (hc:o.cls = .type "list") (hdat:o.data = .seq xs k) (hd:o.dict=none) (hA:A.handled=none)
  (h:∀ h' tk,(∀ b u,s.heap.get? b=some u->h'.get? b=some u)->Q none { s with heap:=h',toks:=tk }):wpAny (model prog w) A (getAttr? (.ref a) "keys") Q E s:=by
 obtain ⟨c,dct,dat,sl⟩:=o;simp only at hc hdat hd;subst hc hdat hd;obtain ⟨hp,g,d,tk,os⟩:=s;have hT:∀ tk',(⟨hp,g,d,tk',os⟩:Shared).TypeIs (.ref a) "list" := fun _=>⟨_,hx,rfl⟩;have f1:=sub_AttributeError;have f3:=F.slot_list_getattribute.lookup;have f4:=F.slot_list_getattribute.bind (.ref a);have f5:=am_list_getattr_none;unfold getAttr? getAttrBy? getAttrBy
 repeat (any_goals (first | assumption | exact hT _ | ((with_reducible show wpAny _ _ (call (Value.builtin "list.__getattribute__") _ _) _ _ _);refine call_meets F.slot_list_getattribute (hT _) am_entry_list_getattribute (F.args_list_getattribute_2 _ _) (meets_getattribute_miss_list a xs k sl "keys" _ YW (by decide +kernel) (by size_fits)) ⟨hx,hA,fun h' tk' e hx'=>?_⟩) | wp_step))
 obtain ⟨t',u',he⟩:=hx'.there;show wpAny _ _ (getattributeRaised _ _ _ _ _ _ _) _ _ _;unfold getattributeRaised
 repeat (any_goals (first | assumption | wp_step))
 exact h _ _ hx'.of.keeps
def Kps (h h':Heap):Prop:=∀ b o,h.get? b=some o->h'.get? b=some o
theorem ZD {t:Addr}{o:Obj}{its:Array Value}{n:Nat}{Q:List Value->Shared->Prop}(ho:s.heap.get? t=some o) (hc:o.cls = .type "tuple") (hd:o.data = .seq its n) (h:Q its.toList s) :
  wpAny (model prog w) A (Builtin.Dict.pairItems (.ref t)) Q E s:=by
 unfold Builtin.Dict.pairItems;refine qa (wpAny_typeOf ⟨o,ho,hc⟩ ?_);rw [if_pos (by decide)];refine qa (qO ho hd ?_);exact qc h
end
section
variable {prog:Program}{w:World}{A:Around}{R:Result->Shared->Prop}{I:Addr}{fp wr:List Addr}{P:Nat->Value->Prop}{St:Nat->Shared->Prop}
theorem Zq {xs:List (List Int×Addr×Value)}{i:Nat}{k:List Int}{a:Addr}{v:Value}(hn:(xs.map (·.1)).Nodup) (hx:xs[i]?=some (k,a,v)):storedH (xs.take i) k a v=xs.take (i+1):=by
 have h:atKey (xs.take i) k=none:=atKey_none_of_get fun j p hj=>by
  rw [List.getElem?_take] at hj;split at hj
  .have:=idxH_unique hn hj hx;omega
  .cases hj
 rw [storedH_new h,List.take_add_one,hx];rfl
theorem Z7 {h h':Heap}{k:List Int}{b:Addr}(kp:Kps h h') (t:IsTupleKey (intKind prog w) h k b):IsTupleKey (intKind prog w) h' k b:=by
 obtain ⟨o,its,n,ho,r⟩:=t;exact ⟨o,its,n,kp _ _ ho,r⟩
def qcn (P:Program) (w:World) (h:Heap) (d:Addr) (xs:List (List Int×Addr×Value)):Prop :=
 ∃ o es ep,h.get? d=some o/\o.ExactDict/\o.data = .dict es ep/\es.toList=xs.map (entryOfKey (kT P w))/\(xs.map (·.1)).Nodup
theorem qcn.at {P:Program}{w:World}{h h':Heap}{d:Addr}{xs:List (List Int×Addr×Value)}(r:qcn P w h d xs) (k:∀ o,h.get? d=some o->h'.get? d=some o):qcn P w h' d xs:=by
 obtain ⟨o,es,ep,ho,r⟩:=r;exact ⟨o,es,ep,k _ ho,r⟩
theorem qcn.of {P:Program}{w:World}{h:Heap}{d:Addr}{xs:List (List Int×Addr×Value)}(r:qcn P w h d xs) (hk:∀ x∈xs,IsTupleKey (intKind P w) h x.1 x.2.1):h.DictOfH (kT P w) d xs:=by
 obtain ⟨o,es,ep,h1,h2,h3,h4,h5⟩:=r;exact ⟨o,es,ep,h1,h2,h3,h4,hk,h5⟩
theorem qcn.get {P:Program}{w:World}{h:Heap}{d:Addr}{xs:List (List Int×Addr×Value)}(r:h.DictOfH (kT P w) d xs):qcn P w h d xs:=by
 obtain ⟨o,es,ep,h1,h2,h3,h4,_,h5⟩:=r;exact ⟨o,es,ep,h1,h2,h3,h4,h5⟩
theorem qfm {h0:Heap}{xs:List (List Int×Addr×Value)}(W:WalksS prog w A.in1 I fp wr (fun a b=>b=a) xs.length P St) {d:Addr}(hdf:d∉fp) (hd0:h0.get? d=none) (hwr:∀ b∈wr,h0.get? b=none)
  (hk:∀ x∈xs,IsTupleKey (intKind prog w) h0 x.1 x.2.1)
  (hval:∀ i v,P i v->∃ t o n k b u,v = .ref t/\h0.get? t=some o/\o.cls = .type "tuple" /\ o.data = .seq #[.ref b,u] n/\xs[i]?=some (k,b,u)) (hn:(xs.map (·.1)).Nodup) (hz:xs.length<=sizeLine) (hu:A.units+8<cLine) :
  ∀ (k i:Nat) (s:Shared),xs.length - i=k->i<=xs.length->St i s->Kps h0 s.heap->qcn prog w s.heap d (xs.take i) →
   (∀ s',Moved (d::wr) (fun a b=>b=a) s s'->Kps h0 s'.heap->qcn prog w s'.heap d xs->R (.ok (.ret .none)) s') →
   codeAny (model prog w) A (.builtin "dict.update.loop" ⟨[.ref d,.ref I,rawInt i,.none],[]⟩) R s:=by
 have hdw:d∉wr:=fun h=>hdf (W.sub _ h);have hsub:∀ b∈wr,b∈d::wr:=fun b hb=>qf _ hb;have kp:∀ {s s':Shared},Kps h0 s.heap->Moved wr (fun a b=>b=a) s s'->Kps h0 s'.heap:=fun k0 hm b o e=>hm.heap b o (fun z=>by rw [hwr b z] at e;cases e) (k0 b o e);intro k;induction k with
 | zero =>
  intro i s hk hi hst k0 hS hR;have hin:i=xs.length:=by omega
  subst hin;refine codeAny_builtin ji ?_;rw [Around.under_plainId yz _];refine qa (m:=pyNext (.ref I)) (W.done s _ _ hst fun s' hm=>?_);rw [yo] at hS;exact qa (qc (qc (hR s' (hm.mono hsub) (kp k0 hm) (hS.at fun o e=>hm.heap d o hdw e))))
 | succ k ih =>
  intro i s hk' hi hst k0 hS hR;have hlt:i<xs.length:=by omega
  refine codeAny_builtin ji ?_;rw [Around.under_plainId yz _];refine qa (m:=pyNext (.ref I)) (W.item i s _ _ hlt hst fun v s' hP hst' hm=>?_);have k1:=kp k0 hm;have hS':=hS.at fun o e=>hm.heap d o hdw e;obtain ⟨t,o,n,kk,b,u,rfl,ho,hc,hd,hx⟩:=hval i v hP;have hmem:(kk,b,u)∈xs:=List.mem_of_getElem? hx;have hu1:A.in1.units<cLine:=by show A.units+_<_;omega
  refine qa (m:=holding [Value.ref t] _) (qH ?_);refine qa (wpAny_tryCatch (ZD (k1 _ _ ho) hc hd ?_));refine qH ?_;have dh:=hS'.of fun x hx=>Z7 k1 (hk x (List.mem_of_mem_take hx));refine wpAny_dictSet_heap (hsz:=by rw [ya];omega) hu1 (Z7 k1 (hk _ hmem)) dh fun h' dh' sb=>?_;rw [Zq hn hx] at dh';have k1':Kps h0 h':=fun b o e=>by
   rw [sb.2 b (fun z=>by rw [z,hd0] at e;cases e)];exact k1 b o e
  refine qc ⟨plainId_quiet yz _,ih (i+1) _ (by omega) hlt (W.frame _ s' h' _ hst' (by omega) fun b hb o e=>?_) k1' (qcn.get dh') fun s'' hm'' k2 S''=>?_⟩
  .rw [sb.2 b (fun z=>hdf (z ▸ hb))];exact e
  .refine hR s'' (Moved.trans W.gtrans ((hm.mono hsub).then_heap (h':=h') (tk:=s'.toks+(kT prog w).draws kk) (by omega) fun b o hb e=>?_) hm'') k2 S'';rw [sb.2 b (fun z=>hb (by rw [z];exact qe))];exact e
end
section
variable {prog:Program}{w:World}{A:Around}{E:Value->Shared->Prop}{s:Shared}
theorem qcK {l:Addr}{vs:List Value}{xs:List (List Int×Addr×Value)}{Q:Value->Shared->Prop}(hh:A.handled=none) (pl:PlainL s.heap l vs.toArray) (hlen:vs.length=xs.length)
  (hk:∀ x∈xs,IsTupleKey (intKind prog w) s.heap x.1 x.2.1)
  (hval:∀ (i:Nat) (v:Value),vs[i]?=some v->∃ t o n k b u,v = .ref t/\s.heap.get? t=some o/\o.cls = .type "tuple" /\ o.data = .seq #[.ref b,u] n/\xs[i]?=some (k,b,u)) (hn:(xs.map (·.1)).Nodup) (hz:xs.length<=sizeLine) (hu:A.units+64<cLine)
  (h:∀ h' tk,Kps s.heap h'->qcn prog w h' s.heap.objs.size xs->Q (.ref s.heap.objs.size) { s with heap:=h',toks:=tk }):wpAny (model prog w) A (call (.type "dict") [.ref l]) Q E s:=by
 refine callType_codes (Q₁:=fun (obj:Value) sa1=>obj=Value.ref s.heap.objs.size/\sa1={ s with heap:=s.heap.push { cls:=.type "dict",data:=.dict #[] } }) F.kt_called_dict (F.kt_typeCall_dict_1 _) F.entry_dict_init (kt_code_dict_new _ ⟨rfl,rfl⟩) ?_;rintro obj sa1 ⟨rfl,rfl⟩;have hS:(s.heap.push { cls:=.type "dict",data:=.dict #[] }).get? s.heap.objs.size=some { cls:=.type "dict",data:=.dict #[] }:=qj _ rfl;have hTy:Shared.TypeIs { s with heap:=s.heap.push { cls:=.type "dict",data:=.dict #[] } } (.ref s.heap.objs.size) "dict" := ⟨_,hS,rfl⟩;have kp1:Kps s.heap (s.heap.push { cls:=.type "dict",data:=.dict #[] }):=fun b o e=>qb _ e;have sz1:(s.heap.push ({ cls:=.type "dict",data:=.dict #[] }:Obj)).objs.size=s.heap.objs.size+1:=qV ..;refine ⟨hTy,F.args_dict_init_2 _ _,?_⟩;generalize s.heap.push { cls:=.type "dict",data:=.dict #[] }=h1 at *;unfold Builtin.«dict.__init__»;refine qa ?_;unfold Builtin.Dict.selfAndRest;refine qa (wpAny_notOrdered_dict hTy ?_);show wpAny _ _ (pure (s.heap.objs.size,[Value.ref l])) _ _ _;refine qc ?_;show wpAny _ _ (Builtin.Dict.updateFrom "dict.__init__" s.heap.objs.size (.ref l) [] .none) _ _ _;unfold Builtin.Dict.updateFrom;obtain ⟨ol,nl,hol,hcl,hdl,hda⟩:=pl;have hlt:l<s.heap.objs.size:=qi hol;refine qa (wpAny_typeOf (T := "list") ⟨ol,kp1 _ _ hol,hcl⟩ ?_);rw [if_pos (by decide)];refine qa (qiz (s:={ s with heap:=h1 }) (kp1 _ _ hol) hcl hda hdl (by simp [hh]) fun h2 tk2 kp2=>?_);rw [if_pos (by rfl)];refine qa (yV ?_);have kp02:Kps s.heap h2:=fun b o e=>kp2 _ _ (kp1 _ _ e);have hS2:=kp2 _ _ hS;have hl2:h2.IsList l vs.toArray:=⟨ol,kp02 _ _ hol,hcl,nl,hda⟩;have hlt2:s.heap.objs.size<h2.objs.size:=qi hS2;refine qa (jv (s:={ s with heap:=h2,toks:=tk2 }) hl2 ?_);have no:∀ b,s.heap.objs.size<=b->s.heap.get? b=none:=fun b hb=>by
  cases z:s.heap.get? b with
  | none=>rfl
  | some o=>exact absurd (qi z) (Nat.not_lt.mpr hb)
 have hne:l≠h2.objs.size:=qg (yj hlt hlt2);have W:=(Walks.list (prog:=prog) (w:=w) (A:=A.in1.in1) (by simp [hh]) h2.objs.size l hne vs.toArray).toS;have ez:vs.toArray.size=xs.length:=by rw [List.size_toArray];exact hlen
 rw [ez] at W;refine qc ⟨plainId_quiet yz _,qfm (A:=A.in1) W (d:=s.heap.objs.size) (h0:=s.heap) ?_ (no _ (Nat.le_refl _)) (fun b hb=>?_) hk (fun i v hv=>hval i v (by simpa using hv)) hn hz (by show A.units+1+8<_;omega) (xs.length - 0) 0 _ rfl (qB _) ⟨⟨_,qj _ rfl,rfl,rfl⟩,hl2.push _⟩ (fun b o e=>qb _ (kp02 _ _ e)) ⟨_,_,_,qb _ hS2,⟨rfl,rfl,rfl⟩,rfl,rfl,List.nodup_nil⟩ fun s' hm k2 S2=>?_⟩
 .simp only [List.mem_cons,List.not_mem_nil,or_false,not_or];exact ⟨qg hlt2,yi hlt⟩
 .rw [qA.mp hb];exact no _ (qP hlt2)
 .obtain ⟨h',g',d',tk',os'⟩:=s';have e1:g'=s.gens:=hm.gens;have e2:d'=s.drawn:=hm.drawn;have e3:os'=s.os:=hm.os;subst e1;subst e2;subst e3;exact ⟨rfl,h h' tk' k2 S2⟩
end
end L2
namespace L2
open PySem PySem.Spec PyProof.Rows PySem.W
section
variable {prog:Program}{w:World}{A:Around}{E:Value->Shared->Prop}{s:Shared}
def qdz (xs ys:List (List Int×Addr×Value)):Bool:=xs.length == ys.length && xs.all fun x=>(atKey ys x.1).isSome
theorem qcx {nm:String}{a b:Addr}{xs ys:List (List Int×Addr×Value)}{Q:Bool->Shared->Prop}(ha:(a == sysModules)=false) (hb:(b == sysModules)=false)
  (da:s.heap.DictOfH (kT prog w) a xs) (db:s.heap.DictOfH (kT prog w) b ys) (hu:A.units<cLine) (tx:∀ x∈xs,x.2.2 = .bool true) (ty:∀ x∈ys,x.2.2 = .bool true) (h:Q (qdz xs ys) s) :
  wpAny (model prog w) A (Builtin.Dict.samePairs nm a b) Q E s:=by
 obtain ⟨oa,es,ep,hoa,_,hda,hea,hka,hna⟩:=da;obtain ⟨ob,es',ep',hob,_,hdb,heb,hkb,hnb⟩:=db;have hla:es.size=xs.length:=size_of_entries hea;have hlb:es'.size=ys.length:=size_of_entries heb;unfold Builtin.Dict.samePairs Builtin.Dict.showsAll;rw [if_neg (show ¬ (a == sysModules)=true by rw [ha];exact yH),if_neg (show ¬ (b == sysModules)=true by rw [hb];exact yH)];refine qa (qc (qa (qc ?_)));refine qa (wpAny_dictEntries hoa hda ?_);dsimp only;refine qa (wpAny_dictEntries hob hdb ?_);unfold qdz at h;by_cases hsz:es.size=es'.size;case neg =>
  rw [if_pos (by simpa using hsz)];have hbf:(xs.length == ys.length)=false:=by rw [<- hla,<- hlb];simpa using hsz
  rw [hbf,Bool.false_and] at h;exact qa (yV (qc h))
 case pos =>
  have hbt:(xs.length == ys.length)=true:=by rw [<- hla,<- hlb];simpa using hsz
  rw [hbt,Bool.true_and] at h;rw [if_neg (by rw [hsz];simp)];refine qa (wpAny_dictEpoch hoa hda ?_);refine qa ?_;rw [Std.Legacy.Range.forIn_eq_forIn_range'];simp only [Std.Legacy.Range.size,Nat.sub_zero,Nat.add_sub_cancel,Nat.div_one];refine wpAny_forIn_list _
   (fun rest q s'=>s'=s/\q=(none,())/\∃ i,rest=List.range' i (es.size - i)/\i<=es.size/\∀ x∈xs.take i,(atKey ys x.1).isSome=true)
   _ ?_ ?_ _ _ ⟨rfl,rfl,0,by simp,qB _,fun x hx=>by simp at hx⟩
  .rintro x rest q s' ⟨rfl,rfl,i,hr,hi,hpre⟩;have hlt:i<es.size:=by
    rcases jG i es.size with h | h
    .exact h
    .rw [Nat.sub_eq_zero_of_le h] at hr;simp at hr
   obtain ⟨rfl,hrest⟩:x=i/\rest=List.range' (i+1) (es.size - (i+1)):=by
    have e:es.size - i=(es.size - (i+1))+1:=by omega
    rw [e,List.range'_succ] at hr;injection hr with h1 h2
    exact ⟨h1,h2⟩
   refine qa (wpAny_dictEntries hoa hda ?_);have hlt':x<xs.length:=by rw [<- hla];exact hlt
   have hx:xs[x]?=some xs[x]:=List.getElem?_eq_getElem hlt';have hxm:xs[x]∈xs:=qy hlt';have ee:es[x]?=some (entryOfKey (kT prog w) xs[x]):=by rw [entry_at hea x,hx];rfl
   rw [ee];generalize xs[x]=z at *;obtain ⟨k,ad,u⟩:=z;show wpAny _ _ (holding [Value.ref ad,u] _ >>= _) _ _ _;refine qa (qH (qa ?_));refine wpAny_dictFind_heap (knd:=kT prog w) hu (hka _ hxm) hob hdb heb hkb hnb (fun hno=>?_) (fun j p hj=>?_)
   .have hn:atKey ys k=none:=atKey_none_of_get hno;have hf:(xs.all fun x=>(atKey ys x.1).isSome)=false:=by
     rw [List.all_eq_false];exact ⟨_,hxm,by rw [hn];decide⟩
    rw [hf] at h;refine qc ?_;show wpAny _ _ (if (!false)=true then _ else _) _ _ _;rw [if_pos (by decide)];exact qc (qc h)
   .refine qa (wpAny_dictEntries hob hdb ?_);have e2:es'[j]?=some (entryOfKey (kT prog w) (k,p)):=by rw [entry_at heb j,hj];rfl
    rw [e2];have u1:u = .bool true:=tx _ hxm;have u2:p.2 = .bool true:=ty _ (List.mem_of_getElem? hj);obtain ⟨pa,pv⟩:=p;have u2:pv = .bool true:=u2;subst u1 u2;have he:SeqAt.EqAt A s' (.bool true) (.bool true) true:=SeqAt.EqAt.same _;refine qH (he prog w _ _ ?_);show wpAny _ _ (if (!true)=true then _ else _) _ _ _;rw [if_neg (by decide)];refine qa (wpAny_dictEpoch hoa hda ?_);rw [if_neg (by simp)];refine qc ⟨rfl,rfl,x+1,hrest,hlt,fun y hy=>?_⟩;rw [List.take_add_one,hx] at hy;rcases List.mem_append.mp hy with c | c
    .exact hpre y c
    .have:y=(k,ad,.bool true):=by simpa using c
     rw [this];show (atKey ys k).isSome=true;rw [atKey_of_get hnb hj];rfl
  .rintro q s' ⟨rfl,rfl,i,hr,hi,hpre⟩;have hin:i=es.size:=by
    rcases jG i es.size with h | h
    .have e:es.size - i=(es.size - (i+1))+1:=by omega
     rw [e,List.range'_succ] at hr;exact nomatch hr
    .exact Nat.le_antisymm hi h
   refine qc ?_;rw [hin,hla,yo] at hpre;have ht:(xs.all fun x=>(atKey ys x.1).isSome)=true:=List.all_eq_true.mpr hpre;rw [ht] at h;exact h
theorem neH {a b:Addr}{xs ys:List (List Int×Addr×Value)}{Q:Value->Shared->Prop}(ha:(a == sysModules)=false) (hb:(b == sysModules)=false)
  (da:s.heap.DictOfH (kT prog w) a xs) (db:s.heap.DictOfH (kT prog w) b ys) (hu:A.units+8<cLine) (tx:∀ x∈xs,x.2.2 = .bool true) (ty:∀ x∈ys,x.2.2 = .bool true) (h:Q (.bool (!qdz xs ys)) s) :
  wpAny (model prog w) A (compareOp .NotEq (.ref a) (.ref b)) Q E s:=by
 refine wpAny_richCompare_same_room (op:=.NotEq) da.typeIs db.typeIs PySem.F.slot_dict_ne (yf PySem.F.slot_dict_ne da.typeIs PySem.F.entry_dict_ne ?_ (PySem.F.args_dict_ne_2 _ _)) (by omega);show wpAny _ _ (Builtin.Dict.dictSlotArgs "__ne__" ⟨[.ref a,.ref b],[]⟩ >>= _) _ _ s;refine qa ?_;unfold Builtin.Dict.dictSlotArgs;refine qa (wpAny_notOrdered_dict da.typeIs ?_);show wpAny _ _ (pure (Value.ref a,Value.ref b)) _ _ s;refine qc ?_;refine qa (wpAny_isInstance (T := "dict") db.typeIs PySem.F.sub_dict_dict ?_);simp only [Bool.not_true,Bool.false_eq_true,if_false];refine qa (qc (qa (qc ?_)));refine qa (qcx ha hb da db (by show A.units+1<_;omega) tx ty ?_);refine qc ⟨_,rfl,?_,?_⟩
 .exact fun x=>nomatch x
 .simpa using h
end
open PySem PySem.Spec PyProof.Rows
section
variable {X:Cx}{K:W.Frag}{pos:Pos}
theorem Inv.room0 {pins:List (Addr×Obj)}{σ:St}{H:Hp}{s:Shared}(I:Inv X pins σ H s):sysModules<s.heap.objs.size :=
 yj (show sysModules<mainGlobals by decide) (I.mod.glob.keeps I.bk).lt
end
end L2
namespace L2
open PySem PySem.Spec PyProof.Rows PySem.W
abbrev YZ (bs:List (Addr×List Int)):List (List Int×Addr×Value):=bs.map fun b=>(b.2,b.1,Value.bool true)
def Z4 (P:Program) (w:World) (a:Addr) (bs:List (Addr×List Int)) (h:Heap):Prop:=qcn P w h a (YZ bs)/\(a == sysModules)=false
def Yg (P:Program) (w:World) (a:Addr) (bs:List (Addr×List Int)):HO:=.ext (Z4 P w a bs)
theorem Z4.ok {P:Program}{w:World}{H:Hp}{a:Addr}{bs:List (Addr×List Int)}{h:Heap}(p:Z4 P w a bs h):ja P w H h a (Yg P w a bs):=by
 refine ⟨p,?_,fun h1 h2 p1 k=>⟨p1.1.at k,p1.2⟩⟩;obtain ⟨⟨o,_,_,ho,_⟩,_⟩:=p;exact ⟨o,ho⟩
theorem YI {bs:List (Addr×List Int)}:∀ x∈YZ bs,x.2.2=Value.bool true:=fun x hx=>by
 obtain ⟨b,_,rfl⟩:=ql.mp hx;rfl
theorem qaB (bs:List (Addr×List Int)):(YZ bs).map (·.1)=bs.map (·.2):=by
 unfold YZ;rw [List.map_map];rfl
theorem qcT {xs:List (List Int×Addr×Value)}{k:List Int}:(atKey xs k).isSome=decide (k∈xs.map (·.1)):=by
 unfold atKey;rw [Option.isSome_map];induction xs with
 | nil=>rfl
 | cons x xs ih =>
  rw [List.find?_cons];by_cases h:x.1=k
  .simp [h]
  .have h2:¬ k=x.1:=fun z=>h z.symm;rw [yc h];rw [show decide (k∈List.map (fun x=>x.1) (x::xs))=decide (k∈List.map (fun x=>x.1) xs) from by simp [h2]];exact ih
theorem Zn {bs:List (Addr×List Int)}{k:List Int}:(atKey (YZ bs) k).isSome=decide (k∈bs.map (·.2)):=by rw [qcT,qaB]
def qbe (ks:List (List Int)) (ns:List Int):List (List Int):=if ns∈ks then ks else ks++[ns]
theorem ZI {ks:List (List Int)}{ns x:List Int}:x∈qbe ks ns ↔ x∈ks\/x=ns:=by
 unfold qbe;split
 .rename_i h
  constructor
  .exact .inl
  .rintro (z | rfl)
   .exact z
   .exact h
 .simp
theorem qf0 (ks:List (List Int)) (ns:List Int):(qbe ks ns).length<=ks.length+1:=by
 unfold qbe;split
 .omega
 .simp
theorem qcG {ks:List (List Int)}{ns:List Int}(h:ks.Nodup):(qbe ks ns).Nodup:=by
 unfold qbe;split
 .exact h
 .rename_i c
  rw [List.nodup_append];refine ⟨h,by simp,fun a ha b hb z=>c ?_⟩;rw [qA] at hb;rw [<- hb,<- z];exact ha
def qcY (bs:List (Addr×List Int)) (b:Addr) (ns:List Int):List (Addr×List Int):=if ns∈bs.map (·.2) then bs else bs++[(b,ns)]
theorem qak (bs:List (Addr×List Int)) (b:Addr) (ns:List Int):(qcY bs b ns).map (·.2)=qbe (bs.map (·.2)) ns:=by
 unfold qcY qbe;split
 .rfl
 .rw [List.map_append];rfl
theorem Yd (bs:List (Addr×List Int)) (b:Addr) (ns:List Int):storedH (YZ bs) ns b (Value.bool true)=YZ (qcY bs b ns):=by
 unfold qcY;have e:=Zn (bs:=bs) (k:=ns);split
 .rename_i h
  rw [decide_eq_true h] at e;obtain ⟨p,hp⟩:=Option.isSome_iff_exists.mp e;rw [storedH_old hp];conv=>rhs;rw [<- List.map_id (YZ bs)]
  apply List.map_congr_left;intro x hx;have:=YI x hx;obtain ⟨a,c,v⟩:=x;have this:v=Value.bool true:=this;subst this;unfold putAt;split <;> rfl
 .rename_i h
  rw [yc h] at e;rw [storedH_new (Option.isNone_iff_eq_none.mp (by simpa using e))];unfold YZ;rw [List.map_append];rfl
section
variable {X:Cx}{pins:List (Addr×Obj)}{σ:St}{H:Hp}{s:Shared}{pos:Pos}
theorem Inv.dctH (I:Inv X pins σ H s) {a:Addr}{bs:List (Addr×List Int)}(h:H a=some (Yg X.prog X.w a bs)) (hb:InS X.K H bs):s.heap.DictOfH (kT X.prog X.w) a (YZ bs)/\(a == sysModules)=false:=by
 obtain ⟨⟨r,m⟩,_⟩:=I.hok a _ h;refine ⟨r.of fun x hx=>?_,m⟩;obtain ⟨b,h1,rfl⟩:=ql.mp hx;exact (I.tupK (hb b h1)).key
def qjI (X:Cx):TE:=fun _ H Q=>∀ p,H p=none->Q (.ref p) (upd H p (Yg X.prog X.w p []))
theorem qfO:PE X (.Dict [] [] pos) (qjI X):=fun pins s σ H Q I h =>
 wpAny_Dict_empty ⟨.ref s.heap.objs.size,_,I.laid (a:=s.heap.objs.size) (o:=Yg X.prog X.w s.heap.objs.size []) (t':=s.toks) (fun _ _ q=>qb _ q) (Nat.le_refl _)
  (Z4.ok ⟨⟨_,#[],0,qj _ rfl,⟨rfl,rfl,rfl⟩,rfl,rfl,List.nodup_nil⟩,beq_eq_false_iff_ne.mpr (Ne.symm (qg I.room0))⟩),rfl,h _ (I.hok.fresh (Nat.le_refl _))⟩
def rSetX (X:Cx):qlH:=fun o i v H Q=>∃ a b bs ns,o = .ref a/\i = .ref b/\v = .bl true/\H a=some (Yg X.prog X.w a bs)/\InS X.K H bs/\JA X.K H (.ref b) ns/\bs.length<=4000/\Q (upd H a (Yg X.prog X.w a (qcY bs b ns)))
theorem qdk (hu:X.A.units+66<cLine):PSet X (rSetX X):=by
 intro pins s σ H o i v ov iv u Q I ro ri rv h;obtain ⟨a,b,bs,ns,rfl,rfl,rfl,ha,hb,ht,hl,q⟩:=h;cases ro
 cases ri
 cases rv
 obtain ⟨dh,m⟩:=I.dctH ha hb;refine wpAny_setItem_heap (hsz:=qP (yI (by unfold YZ;rw [List.length_map];exact hl))) (by show X.A.units+1<_;omega) ((I.tupK ht).key) dh fun h' dh' sb=>⟨_,?_,q⟩;rw [Yd] at dh';have he:∃ q,h'.get? a=some q:=let ⟨q,_,_,hq,_⟩:=dh';⟨q,hq⟩;refine I.write (by rw [ha];exact True.intro) (.inl rfl) (fun b u hb e=>?_) he (Z4.ok ⟨qcn.get dh',m⟩);rw [sb.2 b hb];exact e
def Zu (ms ns:List (List Int)):Bool:=ms.length == ns.length && ms.all fun k=>decide (k∈ns)
theorem qcy (bs cs:List (Addr×List Int)):qdz (YZ bs) (YZ cs)=Zu (bs.map (·.2)) (cs.map (·.2)):=by
 unfold qdz Zu;rw [List.length_map,List.length_map,List.length_map,List.length_map];congr 1;rw [List.all_map,List.all_map];congr 1;funext b
 exact Zn
def rEqX (X:Cx) (neg:Bool):V->V->Hp->VK->Prop:=fun x y H Q=>∃ a b bs cs,x = .ref a/\y = .ref b/\H a=some (Yg X.prog X.w a bs)/\InS X.K H bs/\H b=some (Yg X.prog X.w b cs)/\InS X.K H cs/\Q (.bl (if neg then !Zu (bs.map (·.2)) (cs.map (·.2)) else Zu (bs.map (·.2)) (cs.map (·.2)))) H
theorem qku (hu:X.A.units+64<cLine):OpR X (compareOp .NotEq) (rEqX X true):=by
 intro pins s σ H x y v u Q I rx ry h;obtain ⟨a,b,bs,cs,rfl,rfl,ha,hb,hc,hd,q⟩:=h;cases rx
 cases ry
 obtain ⟨d1,m1⟩:=I.dctH ha hb;obtain ⟨d2,m2⟩:=I.dctH hc hd;refine neH m1 m2 d1 d2 (by omega) YI YI ?_;rw [qcy];exact ⟨.bl _,H,I,rfl,q⟩
def qjr (K:W.Frag) (H:Hp) (v:V) (b:Addr×List Int):Prop:=∃ t,v = .ref t/\SqT K H t [.ref b.1,.bl true]/\JA K H (.ref b.1) b.2
def qkb (X:Cx):List V->Hp->VK->Prop:=fun xs H Q=>∃ (p:Addr) (us:List V) (bs:List (Addr×List Int)),xs=[.ref p]/\SqL X.K H p us/\PySem.Paired (qjr X.K H) us bs/\(bs.map (·.2)).Nodup/\bs.length<=4000 ∧
 ∀ d,H d=none->Q (.ref d) (upd H d (Yg X.prog X.w d bs))
theorem qcS (hc:X.calm=true) (hu:X.A.units+64<cLine):yG X (.type "dict") (qkb X):=by
 intro pins s σ H xs us Q I r h;obtain ⟨p,vs,bs,rfl,hS,hT,hn,hl,q⟩:=h;obtain ⟨u,rfl,rx⟩:=Jt r;cases rx
 obtain ⟨its,rv,pl,_⟩:=I.list hS;have h1:=rv.length;have h2:=L2.Paired.len hT;have hb:∀ (i:Nat) b,bs[i]?=some b->∃ v,vs[i]?=some v/\qjr X.K H v b:=fun i b e=>by
  have hi:i<vs.length:=by rw [h2];exact (qk.mp e).1
  obtain ⟨b',e2,pn⟩:=L2.Paired.get hT (List.getElem?_eq_getElem hi);rw [e] at e2;cases e2
  exact ⟨_,List.getElem?_eq_getElem hi,pn⟩
 refine qcK (xs:=YZ bs) (I.ok.hd hc) pl (by unfold YZ;rw [List.length_map];omega) (fun x hx=>?_) (fun i v e=>?_) (by rw [qaB];exact hn) (qP (yI (by unfold YZ;rw [List.length_map];exact hl))) hu fun h' tk kp rr=>?_
 .obtain ⟨b,hb1,rfl⟩:=ql.mp hx;obtain ⟨i,ei⟩:=qI hb1;obtain ⟨v,_,t,_,_,tn⟩:=hb i b ei;exact (I.tupK tn).key
 .have hi:i<vs.length:=by rw [h1];exact (qk.mp e).1
  obtain ⟨b,e2,t,ev,st,tn⟩:=L2.Paired.get hT (List.getElem?_eq_getElem hi);obtain ⟨u,e3,e4⟩:=yy.get rv (List.getElem?_eq_getElem hi);rw [e] at e3;cases e3
  rw [ev] at e4;have e4:v=Value.ref t:=e4;subst e4;obtain ⟨its2,r2,⟨o,ho,hc2,n,hd⟩,_⟩:=I.tuple st;cases r2 with
  | cons r3 r4 =>
   cases r4 with
   | cons r5 r6 =>
    cases r6
    cases r3
    cases r5
    refine ⟨t,o,n,b.2,b.1,_,rfl,ho,hc2,hd,?_⟩;unfold YZ;rw [List.getElem?_map,e2];rfl
 .exact ⟨.ref s.heap.objs.size,_,I.laid (t':=tk) kp (Nat.le_refl _) (o:=Yg X.prog X.w s.heap.objs.size bs) (Z4.ok ⟨rr,beq_eq_false_iff_ne.mpr (Ne.symm (qg I.room0))⟩),rfl,q _ (I.hok.fresh (Nat.le_refl _))⟩
end
end L2
namespace L2
open PySem PySem.Spec PyProof.Rows PySem.W
theorem InS.ml {K:W.Frag}{H H':Hp}{a:Addr}{xs:List V}{bs:List (Addr×List Int)}(ha:H a=some (.lst xs)) (k:∀ b o,H b=some o->b≠a->H' b=some o) (h:InS K H bs):InS K H' bs:=fun b hb=>by
 obtain ⟨⟨c,e,q⟩,n⟩:=h b hb;refine ⟨⟨c,e,?_⟩,n⟩;rcases q with (e | ⟨o,e⟩) | e
 .exact .inl (.inl (k _ _ e fun z=>by rw [z,ha] at e;cases e))
 .exact .inl (.inr ⟨o,k _ _ e fun z=>by rw [z,ha] at e;cases e⟩)
 .exact .inr e
def qeN (P:Program) (w:World) (K:W.Frag) (a:Addr) (ms:List (List Int)):MSt where
 R H u:=∃ bs,u=Yg P w a bs/\InS K H bs/\bs.map (·.2)=ms
 st:=fun H H' u s ⟨bs,e,h1,h2⟩=>⟨bs,e,h1.same s,h2⟩
 nt:=fun H u xs ⟨bs,e,_⟩ z=>by rw [e] at z;cases z
 ml:=fun H H' a xs u ha k ⟨bs,e,h1,h2⟩=>⟨bs,e,h1.ml ha k,h2⟩
def qcs (P:Program) (w:World) (K:W.Frag) (ms:List (List Int)):Stb where
 R v H:=∃ S bs,v = .ref S/\H S=some (Yg P w S bs)/\InS K H bs/\bs.map (·.2)=ms
 st:=fun v H H' s ⟨S,bs,e,h1,h2,h3⟩=>⟨S,bs,e,s _ _ h1,h2.same s,h3⟩
abbrev DM (P:Program) (w:World) (K:W.Frag) (a:Addr) (ms:List (List Int)):Addr×MO:=(a,.any (qeN P w K a ms))
inductive DctOf (P:Program) (w:World) (K:W.Frag) (U:Mu):En->List (List Int)->Prop
 | x (ms:List (List Int)):DctOf P w K U (.x (qcs P w K ms)) ms
 | m {a:Addr}{ms:List (List Int)}(h:DM P w K a ms∈U):DctOf P w K U (.m a) ms
theorem DctOf.get {P:Program}{w:World}{K:W.Frag}{U:Mu}{e:En}{ms:List (List Int)}{H:Hp}{v:V}(h:DctOf P w K U e ms) (M:RelM K U H) (i:IsE K U H v e) :
  ∃ a bs,v = .ref a/\H a=some (Yg P w a bs)/\InS K H bs/\bs.map (·.2)=ms:=by
 cases h with
 | x =>
  obtain ⟨S,bs,e,h1,h2,h3⟩:=i;exact ⟨S,bs,e,yt _ _ h1,h2.same yt,h3⟩
 | @m a _ hm =>
  have i:v = .ref a:=i;subst i;obtain ⟨u,hu,bs,rfl,h1,h2⟩:=M.ob a _ hm;exact ⟨a,bs,rfl,hu,h1.same yt,h2⟩
theorem FzR.dct {P:Program}{w:World}{K0:W.Frag}{U1 U2:Mu}{p:Addr}{ms:List (List Int)}:FzR (U1++DM P w K0 p ms::U2) (.m p) (U1++U2) (.x (qcs P w K0 ms)):=fun K v H h i=>by
 obtain ⟨M',s,hn⟩:=h.drop;obtain ⟨u,hu,bs,rfl,h1,h2⟩:=h.ob p (.any (qeN P w K0 p ms)) (by simp);have i:v=_:=i;subst i;exact ⟨M',⟨p,bs,rfl,by rw [qX hn];exact hu,h1.same s,h2⟩,s⟩
theorem FzR.dct1 {P:Program}{w:World}{K0:W.Frag}{U2:Mu}{p:Addr}{ms:List (List Int)}:FzR (DM P w K0 p ms::U2) (.m p) U2 (.x (qcs P w K0 ms)):=FzR.dct (U1:=[])
theorem qa9 {K:W.Frag}{H:Hp}{v:V}{ns:List Int}(h:Is K H v (jQ ns)) (hn:ns≠[]):JA K H v ns:=by
 cases h with
 | tup q hs =>
  rw [IsAll.ints_of hs] at q;exact ⟨⟨_,rfl,q⟩,hn⟩
section
variable {X:Cx}{K:W.Frag}{P:Program}{w:World}{pos:Pos}{es:List Expr}{tr:TAd}
def dNewX (P:Program) (w:World) (K:W.Frag):TEd:=fun _ U Q=>∀ p,p∉U.map Prod.fst->Q (.m p) (DM P w K p []::U)
theorem qi5 (hK:X.K=K:=by rfl) (hP:X.prog=P:=by rfl) (hw:X.w=w:=by rfl):DE K X (.Dict [] [] pos) (dNewX P w K):=by
 subst hK hP hw;refine PE.mono qfO fun σ H Q ⟨ρ,U,Q0,hS,hM,h,cl⟩ p hp=>?_;obtain ⟨_,_,hn⟩:=hM.laid (o:=Yg X.prog X.w p []) hp;obtain ⟨M2,s2⟩:=hM.new (u:=Yg X.prog X.w p []) (o:=.any (qeN X.prog X.w X.K p [])) hp fun ss=>⟨_,qE,[],rfl,(fun _ z=>nomatch z),rfl⟩;exact cl _ _ _ _ (h p hn) M2 s2 rfl
def qk5 (P:Program) (w:World) (K:W.Frag) (to ti:TEd):TGd:=fun e ρ U R=>to ρ U fun o U1=>ti ρ U1 fun i U2=>∃ ns p U3 U4 ks,e = .d (.bool true)/\o = .m p/\i = .d (jQ ns)/\ns≠[]/\U2=U3++DM P w K p ks::U4/\ks.length<=4000/\R ρ (U3++DM P w K p (qbe ks ns)::U4)
theorem qi0 (hu:X.A.units+66<cLine) {o i:Expr}{to ti:TEd}(ho:DE K X o to) (hi:DE K X i ti)
  (ha:∀ v,assign (.Subscript o i pos) X.env v=(do
   let ov <- holding [v] (eval o X.env)
   let iv <- holding [v,ov] (eval i X.env)
   standAt pos
   holding [v,ov,iv] (setItem ov iv v)
   release [v,ov,iv] []):=by intro _;rfl) (hK:X.K=K:=by rfl) (hP:X.prog=P:=by rfl) (hw:X.w=w:=by rfl):DG K X (.Subscript o i pos) (qk5 P w K to ti):=by
 subst hK hP hw;refine PG.mono (qdV ho hi (qdk hu) ha) fun v σ H Q hq9=>?_;obtain ⟨e,ρ,U,Q0,i0,hS,hM,h,cl⟩:=hq9;refine ⟨ρ,U,_,hS,hM,h,fun o U1 v1 H1 q M1 s1 i1=>⟨ρ,U1,_,hS.same s1,M1,q,fun i U2 v2 H2 q2 M2 s2 i2=>?_⟩⟩;obtain ⟨ns,p,U3,U4,ks,rfl,rfl,rfl,hne,rfl,hl,q2⟩:=q2;have i1:v1 = .ref p:=i1;subst i1;have tn:=qa9 i2 hne;have i0:Is X.K (mask U H) v (.bool true):=i0;cases i0
 obtain ⟨u,hu2,bs,rfl,hb,rfl⟩:=M2.ob p (.any (qeN X.prog X.w X.K p ks)) (by simp);obtain ⟨⟨b,eb,tq⟩,_⟩:=id tn;subst eb;refine ⟨p,b,bs,ns,rfl,rfl,rfl,hu2,hb.same yt,tn.up,by rw [List.length_map] at hl;exact hl,?_⟩;obtain ⟨M4,s4⟩:=M2.write (H':=upd H2 p (Yg X.prog X.w p (qcY bs b ns))) (o':=.any (qeN X.prog X.w X.K p (qbe (bs.map (·.2)) ns))) (fun b u e n=>by rw [qC n];exact e) fun ss=>⟨_,qE,_,rfl,fun c hc=>by
  unfold qcY at hc;split at hc
  .exact (hb.same ss) c hc
  .rcases List.mem_append.mp hc with z | z
   .exact (hb.same ss) c z
   .rw [qA.mp z];exact tn.same ss,qak bs b ns⟩
 exact cl _ _ _ _ q2 (hS.same ((s1.trans s2).trans s4)) M4 ((s1.trans s2).trans s4)
def rdEqX (P:Program) (w:World) (K:W.Frag) (neg:Bool):R2d:=fun x y U Q=>∃ ms ns,DctOf P w K U x ms/\DctOf P w K U y ns/\Q (.d (.bool (if neg then !Zu ms ns else Zu ms ns))) U
theorem qk0 (hu:X.A.units+64<cLine) (hK:X.K=K:=by rfl) (hP:X.prog=P:=by rfl) (hw:X.w=w:=by rfl):OpR X (compareOp .NotEq) (upR K (rdEqX P w K true)):=by
 subst hK hP hw;refine (qku hu).mono fun x y H Q h=>?_;obtain ⟨U,e,e',Q0,M,i1,i2,q,cl⟩:=h;obtain ⟨ms,ns,h1,h2,q⟩:=q;obtain ⟨a,bs,rfl,ha,hb,rfl⟩:=h1.get M i1;obtain ⟨b,cs,rfl,hc,hd,rfl⟩:=h2.get M i2;exact ⟨a,b,bs,cs,rfl,rfl,ha,hb,hc,hd,cl _ U _ H q M (yd.refl _) (.bl _)⟩
theorem qgV {H:Hp}:∀ {us:List V}{kss:List (List Int)},IsAll K H us (kss.map fun k=>.tuple [jQ k,.bool true])->(∀ k∈kss,k≠[])->∃ bs:List (Addr×List Int),PySem.Paired (qjr K H) us bs/\bs.map (·.2)=kss
 | _,[],.nil,_=>⟨[],.nil,rfl⟩
 | _,k::kss,.cons h t,hne=>by
  obtain ⟨bs,b1,b2⟩:=qgV t fun z hz=>hne z (qf _ hz);cases h with
  | tup q hs =>
   cases hs with
   | cons h1 h2 =>
    cases h2 with
    | cons h3 h4 =>
     cases h4
     cases h3
     have tn:=qa9 h1 (hne k qe);obtain ⟨⟨b,eb,tq⟩,_⟩:=id tn;subst eb;exact ⟨(b,k)::bs,.cons ⟨_,rfl,q,tn⟩ b1,by rw [List.map_cons,b2]⟩
def qh2 (P:Program) (w:World) (K:W.Frag):RAd:=fun es U Q=>∃ e kss,es=[e]/\LstOf U e (kss.map fun k=>.tuple [jQ k,.bool true])/\(∀ k∈kss,k≠[])/\kss.Nodup/\kss.length<=4000/\Q (.x (qcs P w K kss)) U
theorem qgm (hc:X.calm=true) (hu:X.A.units+64<cLine) (hK:X.K=K:=by rfl) (hP:X.prog=P:=by rfl) (hw:X.w=w:=by rfl):yG X (.type "dict") (upC K (qh2 P w K)):=by
 subst hK hP hw;refine (qcS hc hu).mono fun xs H Q h=>?_;obtain ⟨U,es,Q0,M,hp,q,cl⟩:=h;obtain ⟨e,kss,rfl,h1,hne,hnd,hl,q⟩:=q;obtain ⟨v,rfl,i1⟩:=j5 hp;obtain ⟨p,ys,rfl,h2,h3⟩:=h1.get M i1;obtain ⟨bs,b1,rfl⟩:=qgV h3 hne;rw [List.length_map] at hl;refine ⟨p,ys,bs,rfl,h2,jm b1 fun x _ y ⟨t,e,h4,h5⟩=>⟨t,e,SqT.up h4,h5.up⟩,hnd,hl,fun d hd=>?_⟩;obtain ⟨M4,s4,hn⟩:=M.laid (o:=Yg X.prog X.w d bs) hd;refine cl _ U _ _ q M4 s4 ⟨d,bs,rfl,by rw [qX hn];exact qE,fun b hb=>?_,rfl⟩;obtain ⟨i,ei⟩:=qI hb;have hi:i<ys.length:=by rw [L2.Paired.len b1];exact (qk.mp ei).1
 obtain ⟨b',e2,t,_,_,tn⟩:=L2.Paired.get b1 (List.getElem?_eq_getElem hi);rw [ei] at e2;cases e2
 exact tn.same s4
end
open PySem PySem.Spec PyProof.Rows
def ItzL (K:W.Frag) (a b:Addr):It :=
 ⟨fun i H=>∃ xs ys x y,SqL K H a xs/\SqL K H b ys/\xs[i]?=some x/\ys[i]?=some y,
  fun i H v H'=>∃ t x y,H t=none/\v = .ref t/\H'=upd H t (.tup [x,y])/\(∀ xs,SqL K H a xs->xs[i]?=some x)/\∀ ys,SqL K H b ys->ys[i]?=some y,
  fun i H=>∃ xs ys,SqL K H a xs/\SqL K H b ys/\(xs.length<=i\/ys.length<=i)⟩
def zStL (a b z TI TO i1 i2:Addr) (i:Nat) (h:Heap):Prop :=
 IsZip h z TI TO .none/\IsPair h TI (.ref i1) (.ref i2)/\(∃ p q,IsPair h TO p q)/\h.IsListIter i1 a i/\h.IsListIter i2 b i
theorem qc4 {P:Program}{w:World}{K:W.Frag}{elts:List Expr}{x1} {pos:Pos}(a b z TI TO i1 i2:Addr) (D:ZAp z TI TO i1 i2 [i1,a] [i2,b]) (ha:a≠i1) (hb:b≠i2) :
  Turn P w K (.Tuple elts x1 pos) (ItzL K a b) [z,TI,TO,i1,i2] z (zStL a b z TI TO i1 i2) where
 mem:=by simp
 obj:=fun i h ⟨hz,hI,⟨p,q,hO⟩,⟨o1,g1,_,d1⟩,⟨o2,g2,_,d2⟩⟩ c hc=>by
  simp only [List.mem_cons,List.mem_nil_iff,or_false] at hc;rcases hc with rfl | rfl | rfl | rfl | rfl
  .exact ⟨_,hz,fun v e=>by cases e⟩
  .exact ⟨_,hI,fun v e=>by cases e⟩
  .exact ⟨_,hO,fun v e=>by cases e⟩
  .exact ⟨_,g1,fun v e=>by rw [d1] at e;cases e⟩
  .exact ⟨_,g2,fun v e=>by rw [d2] at e;cases e⟩
 keep:=fun i h h' ⟨hz,hI,⟨p,q,hO⟩,h1,h2⟩ k=>⟨k _ (by simp) _ hz,k _ (by simp) _ hI,⟨p,q,k _ (by simp) _ hO⟩,h1.at fun o e=>k _ (by simp) o e,h2.at fun o e=>k _ (by simp) o e⟩
 item:=by
  intro X hP hw hK hc i pins s σ H E I hf st hg;subst hP hw hK;obtain ⟨hz,hI,⟨p,q,hO⟩,h1,h2⟩:=st;obtain ⟨xs,ys,x,y,hq1,hq2,hx,hy⟩:=hg;obtain ⟨is1,rv1,p1,_⟩:=I.list hq1;obtain ⟨is2,rv2,p2,_⟩:=I.list hq2;obtain ⟨u,hu,ru⟩:=rv1.get hx;obtain ⟨v,hv,rw'⟩:=rv2.get hy;have fr:H s.heap.objs.size=none:=I.hok.fresh (Nat.le_refl _);have hzs:z<s.heap.objs.size:=qi hz;refine YU (I.ok.hd hc) D (fun A hh=>Jr hh ha) (fun A hh=>Jr hh hb) hz hI hO ⟨h1,p1.isList⟩ ⟨h2,p2.isList⟩ (x:=u) (y:=v) (by simpa using hu) (by simpa using hv) fun h' hz' hO' t1 t2 ht hsz hk=>⟨_,rfl,wpAny_letOwnedTupleGo_zip hz' fun hA zA sA=>?_⟩;have sA:Heap.SameBut z h' hA:=sA;have keep:∀ c o,c∉[z,TI,TO,i1,i2]->s.heap.get? c=some o->hA.get? c=some o:=fun c o hc q=>by
   simp only [List.mem_cons,List.mem_nil_iff,or_false,not_or] at hc;exact sA.extBut c o hc.1 (hk c o hc.1 hc.2.2.1 hc.2.2.2.1 hc.2.2.2.2 q)
  have htA:hA.get? s.heap.objs.size=some { cls:=.type "tuple",data:=.seq #[u,v] }:=(sA.2 _ (yi hzs)).trans ht;have I2:Inv X pins σ (upd H s.heap.objs.size (.tup [x,y])) { s with heap:=hA,toks:=s.toks }:=I.turnedL hf keep (Nat.le_refl _) ⟨sz2,[u,v],.cons ru (.cons rw' .nil),⟨_,htA,rfl,_,rfl⟩⟩;have hlt:∀ c∈[z,TI,TO,i1,i2],c≠s.heap.objs.size:=fun c hc=>by
   simp only [List.mem_cons,List.mem_nil_iff,or_false] at hc;obtain ⟨o1,g1,_⟩:=h1;obtain ⟨o2,g2,_⟩:=h2;rcases hc with rfl | rfl | rfl | rfl | rfl
   .exact qg hzs
   .exact qg (qi hI)
   .exact qg (qi hO)
   .exact qg (qi g1)
   .exact qg (qi g2)
  have i1z:i1≠z:=qD (l:=[i1,a]) (by simp) D.z1;have i2z:i2≠z:=qD (l:=[i2,b]) (by simp) D.z2;refine ⟨.ref s.heap.objs.size,_,I2,rfl,⟨_,x,y,fr,rfl,rfl,fun zs hz=>by rw [I.list_inj hz hq1];exact hx,fun zs hz=>by rw [I.list_inj hz hq2];exact hy⟩,⟨zA,?_,⟨u,v,?_⟩,?_,?_⟩,fun c hc=>?_⟩
  .exact sA.extBut _ _ D.TIz (hk _ _ D.TIz D.TITO D.t1 D.t2 hI)
  .exact sA.extBut _ _ D.TOz hO'
  .exact t1.1.extBut sA.extBut i1z
  .exact t2.1.extBut sA.extBut i2z
  .rw [qC (hlt c hc)];exact (hf c hc).1
 done:=by
  intro X hP hw hK hc i pins s σ H E I hf st hg;subst hP hw hK;obtain ⟨hz,hI,⟨p,q,hO⟩,h1,h2⟩:=st;obtain ⟨xs,ys,hq1,hq2,hx⟩:=hg;obtain ⟨is1,rv1,p1,_⟩:=I.list hq1;obtain ⟨is2,rv2,p2,_⟩:=I.list hq2;have hl1:=rv1.length;have hl2:=rv2.length;refine Zy (I.ok.hd hc) D (fun A hh=>Jr hh ha) (fun A hh=>Jr hh hb) hz hI hO ⟨h1,p1.isList⟩ ⟨h2,p2.isList⟩ (by
   rcases hx with e | e
   .left;simp;omega
   .right;simp;omega) fun h' k=>⟨rfl,?_⟩
  exact I.turnedF (t':=s.toks) hf fun c o hb q=>by
   simp only [List.mem_cons,List.mem_nil_iff,or_false,not_or] at hb;exact k c o hb.1 hb.2.2.1 hb.2.2.2.1 hb.2.2.2.2 q
 self:=fun _ _ _ _ _ st h=>wpAny_pyIter_zip st.1 h
def iZipL (K:W.Frag) (ta:TA):TI:=fun σ H R=>ta σ H fun vs H1=>∃ a b,vs=[.ref a,.ref b]/\(∃ xs,SqL K H1 a xs)/\(∃ ys,SqL K H1 b ys)/\R (ItzL K a b) H1
section
variable {X:Cx}{K:W.Frag}
theorem qic {l m:Expr}{ta:TA}{elts:List Expr}{x1} {tpos p pos:Pos}(hg:Gl X "zip") (hm:X.mg "zip" = none) (ha:PA X [l,m] ta) (hs:starEach [l,m] X.env=[(false,eval l X.env),(false,eval m X.env)]:=by rfl) (hs2:starEach [m] X.env=[(false,eval m X.env)]:=by rfl) :
  PI X (.Tuple elts x1 tpos) (.Call (.Name "zip" p) [l,m] [] pos) (iZipL X.K ta):=by
 intro pins s σ H R I h;refine Call_ (JE I hg hm qck (PyProof.Rows.callWith_type1 (thn (ha pos pins s σ H _ I h) fun us s1 ⟨vs,H1,I1,r1,q1⟩=>?_) (by rw [hs,hs2]) (by rw [hs2];rfl)));obtain ⟨a,b,e,⟨xs,hq1⟩,⟨ys,hq2⟩,q⟩:=q1;subst e;obtain ⟨u,v,rfl,rx,ry⟩:=qa8 r1;cases rx
 cases ry
 obtain ⟨is1,rv1,p1,_⟩:=I1.list hq1;obtain ⟨is2,rv2,p2,_⟩:=I1.list hq2;have la:a<s1.heap.objs.size:=by obtain ⟨o,ho,_⟩:=p1.isList;exact qi ho
 have lb:b<s1.heap.objs.size:=by obtain ⟨o,ho,_⟩:=p2.isList;exact qi ho
 refine call_zip_2 p1.isList p2.isList fun h' hz hI hO h1 h2 hsz hk=>?_;have I2:Inv X pins σ H1 { s1 with heap:=h' }:=I1.kept (t':=s1.toks) hk;refine wpAny_pyIter_zip hz ?_;refine ⟨s1.heap.objs.size+4,[s1.heap.objs.size+4,s1.heap.objs.size+2,s1.heap.objs.size+3,s1.heap.objs.size,s1.heap.objs.size+1],_,_,H1,rfl,I2,qc4 a b _ _ _ _ _ (zap la lb) (qg la) (qg (qT lb)),⟨hz,hI,⟨_,_,hO⟩,h1,h2⟩,fun c hc=>?_,q⟩;have hc':s1.heap.objs.size<=c:=by
  simp only [List.mem_cons,List.mem_nil_iff,or_false] at hc;rcases hc with rfl | rfl | rfl | rfl | rfl
  .exact qR _ _
  .exact qR _ _
  .exact qR _ _
  .exact Nat.le_refl _
  .exact qR _ _
 exact I1.fpOk hc' (I1.hok.fresh hc')
end
theorem qjj:bootBuiltins "dict" = some (.type "dict"):=by decide +kernel
section
variable {X:Cx}{K:W.Frag}
def qlF (e e':En) (ds es:List PyData):Itd:=⟨min ds.length es.length,fun i=>.d (.tuple [ds.getD i .none,es.getD i .none]),fun U=>LstOf U e ds/\LstOf U e' es⟩
def diZM (ta:TAd):TId:=fun ρ U Q=>ta ρ U fun es U1=>∃ e e' ds ds',es=[e,e']/\LstOf U1 e ds/\LstOf U1 e' ds'/\Q (qlF e e' ds ds') U1
theorem qeK {l m:Expr}{ta:TAd}{elts:List Expr}{x1} {tpos p pos:Pos}(hg:Gl X "zip") (hm:X.mg "zip" = none) (ha:DA K X [l,m] ta) (hK:X.K=K:=by rfl) (hs:starEach [l,m] X.env=[(false,eval l X.env),(false,eval m X.env)]:=by rfl) (hs2:starEach [m] X.env=[(false,eval m X.env)]:=by rfl) :
  DI K X (.Tuple elts x1 tpos) (.Call (.Name "zip" p) [l,m] [] pos) (diZM ta):=by
 subst hK;refine PI.mono (qic hg hm ha hs hs2) fun σ H R hq9=>?_;obtain ⟨ρ,U,Q0,hS,hM,h,cl⟩:=hq9;refine ⟨ρ,U,_,hS,hM,h,fun es U1 vs H1 q M1 s1 i1=>?_⟩;obtain ⟨e,e',ds,es,rfl,hL,hL',q⟩:=q;obtain ⟨v,v',rfl,g1,g2⟩:=ZE i1;obtain ⟨p,xs,rfl,h1,h2⟩:=hL.get M1 g1;obtain ⟨p',ys,rfl,h1',h2'⟩:=hL'.get M1 g2;refine ⟨p,p',rfl,⟨xs,h1⟩,⟨ys,h1'⟩,cl _ U1 _ H1 q M1 s1 fun U' H' M' s' hok i=>?_⟩;obtain ⟨_,xs,e3,h3,h4⟩:=LstOf.get hok.1 M' (g1.same s');cases e3
 obtain ⟨_,ys,e3,h3',h4'⟩:=LstOf.get hok.2 M' (g2.same s');cases e3
 have hl:=h4.len;have hl':=h4'.len;refine ⟨fun hi=>?_,fun hi=>⟨xs,ys,h3,h3',?_⟩⟩
 .have hi:i<min ds.length es.length:=hi;have hi1:i<xs.length:=by omega
  have hi2:i<ys.length:=by omega
  refine ⟨⟨xs,ys,xs[i],ys[i],h3,h3',by simp,by simp⟩,?_⟩;rintro x H2 ⟨t,y,y',ht,rfl,rfl,hx,hy⟩;obtain ⟨M2,s2,hn⟩:=M'.laid (o:=.tup [y,y']) ht;obtain ⟨d,e1,e2⟩:=h4.get (hx xs h3);obtain ⟨d',e1',e2'⟩:=h4'.get (hy ys h3');refine ⟨M2,s2,?_⟩;show Is X.K (mask U' (upd H' t (.tup [y,y']))) (.ref t) (.tuple [ds.getD i .none,es.getD i .none]);rw [jw e1,jw e1'];exact .tup (SqT.of (by rw [qX hn];exact qE)) (.cons (Is.same s2 e2) (.cons (Is.same s2 e2') .nil))
 .have hi:min ds.length es.length<=i:=hi;omega
end
end L2
namespace PySem
open Sem (wp)
abbrev jo (h:Heap) (T:Addr) (a b c:Value):Prop:=h.get? T=some { cls:=.type "tuple",data:=.seq #[a,b,c] }
structure ZAq (z TI TO i1 i2 i3:Addr) (f1 f2 f3:List Addr):Prop where
 TIz:TI≠z
 TOz:TO≠z
 TITO:TI≠TO
 z1:z∉f1
 z2:z∉f2
 z3:z∉f3
 o1:TO∉f1
 o2:TO∉f2
 o3:TO∉f3
 t1:TI≠i1
 t2:TI≠i2
 t3:TI≠i3
 a12:i1∉f2
 a13:i1∉f3
 a21:i2∉f1
 a23:i2∉f3
 a31:i3∉f1
 a32:i3∉f2
section
variable {prog:Program}{w:World}{A:Around}{E:Value->Shared->Prop}{s:Shared}{z TI TO i1 i2 i3:Addr}{f1 f2 f3:List Addr}{s1 s2 s3:Nat->Heap->Prop}{xs ys zs:Array Value}{k1 k2 k3:Nat}{x y u a b c:Value}
theorem yu {T:Addr}{a b c x:Value}{k:Nat}{Q:Unit->Shared->Prop}(hT:jo s.heap T a b c)
  (h:∀ h',h'.get? T=some { cls:=.type "tuple",data:=.seq ((#[a,b,c]:Array Value).setIfInBounds k x) }->Heap.SameBut T s.heap h'->Q () { s with heap:=h' }) :
  wpAny (model prog w) A (updateSeq T (·.setIfInBounds k x)) Q E s:=by
 refine ju hT rfl (h _ ?_ (Heap.SameBut.update ..));rw [qQ _ hT rfl];simp [Obj.mapSeq]
theorem qhu {Q:Value->Shared->Prop}(D:ZAq z TI TO i1 i2 i3 f1 f2 f3) (N1:Nx prog w A f1 i1 s1 xs) (N2:Nx prog w A f2 i2 s2 ys) (N3:Nx prog w A f3 i3 s3 zs)
  (hz:IsZip s.heap z TI TO .none) (hTI:jo s.heap TI (.ref i1) (.ref i2) (.ref i3)) (hTO:jo s.heap TO a b c)
  (h1:s1 k1 s.heap) (h2:s2 k2 s.heap) (h3:s3 k3 s.heap) (hx:xs[k1]?=some x) (hy:ys[k2]?=some y) (hu:zs[k3]?=some u)
  (hQ:∀ h',IsZip h' z TI TO (rawInt s.heap.objs.size)->jo h' TO x y u->s1 (k1+1) h'->s2 (k2+1) h'->s3 (k3+1) h'->jo h' s.heap.objs.size x y u->h'.objs.size=s.heap.objs.size+1 →
   (∀ c o,c≠z->c≠TO->c≠i1->c≠i2->c≠i3->s.heap.get? c=some o->h'.get? c=some o)->Q (.ref s.heap.objs.size) { s with heap:=h' }) :
  wpAny (model prog w) A (Builtin.«zip.__next__» ⟨[.ref z],[]⟩) (fun fin s'=>∃ v,fin = .done (.ret v)/\Q v s') E s:=by
 have i1z:i1≠z:=qD N1.mem D.z1;have i2z:i2≠z:=qD N2.mem D.z2;have i3z:i3≠z:=qD N3.mem D.z3;have i1o:i1≠TO:=qD N1.mem D.o1;have i2o:i2≠TO:=qD N2.mem D.o2;have i3o:i3≠TO:=qD N3.mem D.o3;have up1:∀ {c:Addr}{h h':Heap}{k:Nat},Heap.ExtBut c h h'->c∉f1->s1 k h->s1 k h':=fun e n st=>N1.keep _ _ _ st fun b hb o q=>e b o (qD hb n) q;have up2:∀ {c:Addr}{h h':Heap}{k:Nat},Heap.ExtBut c h h'->c∉f2->s2 k h->s2 k h':=fun e n st=>N2.keep _ _ _ st fun b hb o q=>e b o (qD hb n) q;have up3:∀ {c:Addr}{h h':Heap}{k:Nat},Heap.ExtBut c h h'->c∉f3->s3 k h->s3 k h':=fun e n st=>N3.keep _ _ _ st fun b hb o q=>e b o (qD hb n) q;show wpAny _ _ (field (.ref z) 2 >>= _) _ _ _;refine qa (yO hz rfl (x:=.bool false) rfl ?_);show wpAny _ _ (field (.ref z) 3 >>= _) _ _ _;refine qa (yO hz rfl (x:=.ref TI) rfl ?_);refine qa (qO hTI rfl ?_);show wpAny _ _ (Builtin.SmallTypes.ownedTupleIsFree (.ref z) >>= _) _ _ _;refine qa ?_;unfold Builtin.SmallTypes.ownedTupleIsFree;refine qa (yO hz rfl (x:=.none) rfl (qc ?_));simp only [if_true];refine qa (yV ?_);refine qa (yO hz rfl (x:=.ref TO) rfl ?_);refine qa (wpAny_setField_rec hz (by simp) fun hA zA sA=>?_);replace zA:IsZip hA z TI TO .ellipsis:=zA;refine qa ?_;simp only [List.zipIdx_cons,List.zipIdx_nil,List.forIn_cons,List.forIn_nil];refine qa (qa (jH ?_));show wpAny _ _ (Builtin.SmallTypes.nextOf (.ref i1) >>= _) _ _ _;refine qa (N1.item k1 _ x _ _ (up1 sA.extBut D.z1 h1) hx fun hB h1B sB=>qc ?_);have oB:jo hB TO a b c:=sB.extBut _ _ i1o.symm (sA.extBut _ _ D.TOz hTO);refine qa (qO oB rfl ?_);refine qa (yu oB fun hC oC sC=>?_);replace oC:jo hC TO x b c:=oC;refine qa (jc (qc ?_));refine qa (qa (jH ?_));show wpAny _ _ (Builtin.SmallTypes.nextOf (.ref i2) >>= _) _ _ _;refine qa (N2.item k2 _ y _ _ (up2 sC.extBut D.o2 (up2 sB.extBut D.a12 (up2 sA.extBut D.z2 h2))) hy fun hD h2D sD=>qc ?_);have oD:jo hD TO x b c:=sD.extBut _ _ i2o.symm oC;refine qa (qO oD rfl ?_);refine qa (yu oD fun hG oG sG=>?_);replace oG:jo hG TO x y c:=oG;refine qa (jc (qc ?_));refine qa (qa (jH ?_));show wpAny _ _ (Builtin.SmallTypes.nextOf (.ref i3) >>= _) _ _ _;refine qa (N3.item k3 _ u _ _ (up3 sG.extBut D.o3 (up3 sD.extBut D.a23 (up3 sC.extBut D.o3 (up3 sB.extBut D.a13 (up3 sA.extBut D.z3 h3))))) hu fun hK h3K sK=>qc ?_);have oK:jo hK TO x y c:=sK.extBut _ _ i3o.symm oG;refine qa (qO oK rfl ?_);refine qa (yu oK fun hF oF sF=>?_);replace oF:jo hF TO x y u:=oF;refine qa (jc (qc (qc ?_)));refine qa (qO oF rfl ?_);refine qa (wpAny_newTuple ?_);have hsz:hF.objs.size=s.heap.objs.size:=by rw [sF.1,sK.1,sG.1,sD.1,sC.1,sB.1,sA.1]
 have zF:IsZip hF z TI TO .ellipsis:=sF.extBut _ _ D.TOz.symm (sK.extBut _ _ i3z.symm (sG.extBut _ _ D.TOz.symm (sD.extBut _ _ i2z.symm (sC.extBut _ _ D.TOz.symm (sB.extBut _ _ i1z.symm zA)))));have kF:∀ c o,c≠z->c≠TO->c≠i1->c≠i2->c≠i3->s.heap.get? c=some o->hF.get? c=some o:=fun c o c1 c2 c3 c4 c5 e =>
  sF.extBut _ _ c2 (sK.extBut _ _ c5 (sG.extBut _ _ c2 (sD.extBut _ _ c4 (sC.extBut _ _ c2 (sB.extBut _ _ c3 (sA.extBut _ _ c1 e))))))
 have t1F:s1 (k1+1) hF:=up1 sF.extBut D.o1 (up1 sK.extBut D.a31 (up1 sG.extBut D.o1 (up1 sD.extBut D.a21 (up1 sC.extBut D.o1 h1B))));have t2F:s2 (k2+1) hF:=up2 sF.extBut D.o2 (up2 sK.extBut D.a32 (up2 sG.extBut D.o2 h2D));have t3F:s3 (k3+1) hF:=up3 sF.extBut D.o3 h3K;have zlt:z<hF.objs.size:=qi zF;show wpAny _ _ (Builtin.SmallTypes.ownedTupleHandOut (.ref z) (.ref hF.objs.size) >>= _) _ _ _;refine qa ?_;unfold Builtin.SmallTypes.ownedTupleHandOut;have zG:IsZip (hF.push { cls:=.type "tuple",data:=.seq #[x,y,u] }) z TI TO .ellipsis:=qb _ zF;refine qa (wpAny_setField_rec zG (by simp) fun hI zI sI=>?_);replace zI:IsZip hI z TI TO (rawInt hF.objs.size):=zI;refine wpAny_setField_rec zI (by simp) fun hJ zJ sJ=>?_;replace zJ:IsZip hJ z TI TO (rawInt hF.objs.size):=zJ;have up:∀ c o,c≠z->hF.get? c=some o->hJ.get? c=some o:=fun c o c1 e=>sJ.extBut _ _ c1 (sI.extBut _ _ c1 (qb _ e));have tJ:jo hJ hF.objs.size x y u:=sJ.extBut _ _ (yi zlt) (sI.extBut _ _ (yi zlt) (qj _ rfl));have sz:hJ.objs.size=hF.objs.size+1:=by rw [sJ.1,sI.1,qV]
 rw [hsz] at zJ tJ sz;refine qc ⟨_,rfl,?_⟩;show Q (.ref hF.objs.size) _;rw [hsz];exact hQ hJ zJ (up _ _ D.TOz oF) (N1.keep _ _ _ t1F fun b hb o q=>up b o (qD hb D.z1) q) (N2.keep _ _ _ t2F fun b hb o q=>up b o (qD hb D.z2) q) (N3.keep _ _ _ t3F fun b hb o q=>up b o (qD hb D.z3) q) tJ sz fun c o c1 c2 c3 c4 c5 e=>up c o c1 (kF c o c1 c2 c3 c4 c5 e)
theorem qjA {Q:PySem.Fin->Shared->Prop}(D:ZAq z TI TO i1 i2 i3 f1 f2 f3) (N1:Nx prog w A f1 i1 s1 xs) (N2:Nx prog w A f2 i2 s2 ys) (N3:Nx prog w A f3 i3 s3 zs)
  (hz:IsZip s.heap z TI TO .none) (hTI:jo s.heap TI (.ref i1) (.ref i2) (.ref i3)) (hTO:jo s.heap TO a b c)
  (h1:s1 k1 s.heap) (h2:s2 k2 s.heap) (h3:s3 k3 s.heap) (hend:xs[k1]?=none\/ys[k2]?=none\/zs[k3]?=none)
  (hE:∀ h' e,(∀ c o,c≠z->c≠TO->c≠i1->c≠i2->c≠i3->s.heap.get? c=some o->h'.get? c=some o)->(∃ o,h'.get? e=some o/\o.cls = .type "StopIteration")->E (.ref e) { s with heap:=h' }) :
  wpAny (model prog w) A (Builtin.«zip.__next__» ⟨[.ref z],[]⟩) Q E s:=by
 have i1z:i1≠z:=qD N1.mem D.z1;have i2z:i2≠z:=qD N2.mem D.z2;have i3z:i3≠z:=qD N3.mem D.z3;have i1o:i1≠TO:=qD N1.mem D.o1;have i2o:i2≠TO:=qD N2.mem D.o2;have i3o:i3≠TO:=qD N3.mem D.o3;have up1:∀ {c:Addr}{h h':Heap}{k:Nat},Heap.ExtBut c h h'->c∉f1->s1 k h->s1 k h':=fun e n st=>N1.keep _ _ _ st fun b hb o q=>e b o (qD hb n) q;have up2:∀ {c:Addr}{h h':Heap}{k:Nat},Heap.ExtBut c h h'->c∉f2->s2 k h->s2 k h':=fun e n st=>N2.keep _ _ _ st fun b hb o q=>e b o (qD hb n) q;have up3:∀ {c:Addr}{h h':Heap}{k:Nat},Heap.ExtBut c h h'->c∉f3->s3 k h->s3 k h':=fun e n st=>N3.keep _ _ _ st fun b hb o q=>e b o (qD hb n) q;show wpAny _ _ (field (.ref z) 2 >>= _) _ _ _;refine qa (yO hz rfl (x:=.bool false) rfl ?_);show wpAny _ _ (field (.ref z) 3 >>= _) _ _ _;refine qa (yO hz rfl (x:=.ref TI) rfl ?_);refine qa (qO hTI rfl ?_);show wpAny _ _ (Builtin.SmallTypes.ownedTupleIsFree (.ref z) >>= _) _ _ _;refine qa ?_;unfold Builtin.SmallTypes.ownedTupleIsFree;refine qa (yO hz rfl (x:=.none) rfl (qc ?_));simp only [if_true];refine qa (yV ?_);refine qa (yO hz rfl (x:=.ref TO) rfl ?_);refine qa (wpAny_setField_rec hz (by simp) fun hA zA sA=>?_);replace zA:IsZip hA z TI TO .ellipsis:=zA;refine qa ?_;simp only [List.zipIdx_cons,List.zipIdx_nil,List.forIn_cons,List.forIn_nil];refine qa (qa (jH ?_));show wpAny _ _ (Builtin.SmallTypes.nextOf (.ref i1) >>= _) _ _ _;cases hx:xs[k1]? with
 | none =>
  refine qa (N1.stop k1 _ _ _ (up1 sA.extBut D.z1 h1) hx fun hB e eB he=>?_);obtain ⟨oe,hoe,hce⟩:=he;have zB:IsZip hB z TI TO .ellipsis:=eB _ _ i1z.symm zA;have hez:e≠z:=fun x=>by subst x;rw [zB] at hoe;cases hoe;simp at hce
  refine wpAny_setField_rec zB (by simp) fun hC _ sC=>hE hC e (fun c o c1 _ c3 _ _ x=>sC.extBut _ _ c1 (eB _ _ c3 (sA.extBut _ _ c1 x))) ⟨oe,sC.extBut _ _ hez hoe,hce⟩
 | some x =>
  refine qa (N1.item k1 _ x _ _ (up1 sA.extBut D.z1 h1) hx fun hB h1B sB=>qc ?_);have oB:jo hB TO a b c:=sB.extBut _ _ i1o.symm (sA.extBut _ _ D.TOz hTO);refine qa (qO oB rfl ?_);refine qa (yu oB fun hC oC sC=>?_);replace oC:jo hC TO x b c:=oC;refine qa (jc (qc ?_));refine qa (qa (jH ?_));show wpAny _ _ (Builtin.SmallTypes.nextOf (.ref i2) >>= _) _ _ _;have zC:IsZip hC z TI TO .ellipsis:=sC.extBut _ _ D.TOz.symm (sB.extBut _ _ i1z.symm zA);cases hy:ys[k2]? with
  | none =>
   refine qa (N2.stop k2 _ _ _ (up2 sC.extBut D.o2 (up2 sB.extBut D.a12 (up2 sA.extBut D.z2 h2))) hy fun hD e eD he=>?_);obtain ⟨oe,hoe,hce⟩:=he;have zD:IsZip hD z TI TO .ellipsis:=eD _ _ i2z.symm zC;have hez:e≠z:=fun x=>by subst x;rw [zD] at hoe;cases hoe;simp at hce
   refine wpAny_setField_rec zD (by simp) fun hF _ sF=>hE hF e (fun c o c1 c2 c3 c4 _ x=>sF.extBut _ _ c1 (eD _ _ c4 (sC.extBut _ _ c2 (sB.extBut _ _ c3 (sA.extBut _ _ c1 x))))) ⟨oe,sF.extBut _ _ hez hoe,hce⟩
  | some y =>
   have hu:zs[k3]?=none:=by
    rcases hend with h | h | h
    .rw [hx] at h;cases h
    .rw [hy] at h;cases h
    .exact h
   refine qa (N2.item k2 _ y _ _ (up2 sC.extBut D.o2 (up2 sB.extBut D.a12 (up2 sA.extBut D.z2 h2))) hy fun hD h2D sD=>qc ?_);have oD:jo hD TO x b c:=sD.extBut _ _ i2o.symm oC;refine qa (qO oD rfl ?_);refine qa (yu oD fun hG oG sG=>?_);refine qa (jc (qc ?_));refine qa (qa (jH ?_));show wpAny _ _ (Builtin.SmallTypes.nextOf (.ref i3) >>= _) _ _ _;refine qa (N3.stop k3 _ _ _ (up3 sG.extBut D.o3 (up3 sD.extBut D.a23 (up3 sC.extBut D.o3 (up3 sB.extBut D.a13 (up3 sA.extBut D.z3 h3))))) hu fun hK e eK he=>?_);obtain ⟨oe,hoe,hce⟩:=he;have zK:IsZip hK z TI TO .ellipsis:=eK _ _ i3z.symm (sG.extBut _ _ D.TOz.symm (sD.extBut _ _ i2z.symm zC));have hez:e≠z:=fun x=>by subst x;rw [zK] at hoe;cases hoe;simp at hce
   refine wpAny_setField_rec zK (by simp) fun hF _ sF=>hE hF e (fun c o c1 c2 c3 c4 c5 x=>sF.extBut _ _ c1 (eK _ _ c5 (sG.extBut _ _ c2 (sD.extBut _ _ c4 (sC.extBut _ _ c2 (sB.extBut _ _ c3 (sA.extBut _ _ c1 x))))))) ⟨oe,sF.extBut _ _ hez hoe,hce⟩
theorem YT {Q:Option Value->Shared->Prop}(hh:A.handled=none) (D:ZAq z TI TO i1 i2 i3 f1 f2 f3) (N1:∀ A:Around,A.handled=none->Nx prog w A f1 i1 s1 xs) (N2:∀ A:Around,A.handled=none->Nx prog w A f2 i2 s2 ys) (N3:∀ A:Around,A.handled=none->Nx prog w A f3 i3 s3 zs)
  (hz:IsZip s.heap z TI TO .none) (hTI:jo s.heap TI (.ref i1) (.ref i2) (.ref i3)) (hTO:jo s.heap TO a b c)
  (h1:s1 k1 s.heap) (h2:s2 k2 s.heap) (h3:s3 k3 s.heap) (hx:xs[k1]?=some x) (hy:ys[k2]?=some y) (hu:zs[k3]?=some u)
  (hQ:∀ h',IsZip h' z TI TO (rawInt s.heap.objs.size)->jo h' TO x y u->s1 (k1+1) h'->s2 (k2+1) h'->s3 (k3+1) h'->jo h' s.heap.objs.size x y u->h'.objs.size=s.heap.objs.size+1 →
   (∀ c o,c≠z->c≠TO->c≠i1->c≠i2->c≠i3->s.heap.get? c=some o->h'.get? c=some o)->Q (some (.ref s.heap.objs.size)) { s with heap:=h' }) :
  wpAny (model prog w) A (pyNext (.ref z)) Q E s:=by
 have hT:s.TypeIs (.ref z) "zip" := ⟨_,hz,rfl⟩;unfold pyNext;exact qa (wpAny_attempt (wpAny_callSpecial?_slot (name:=Str.ofString "__next__") hT F.slot_zip_next
  (yf F.slot_zip_next hT F.entry_zip_next
   (qhu D (N1 _ hh) (N2 _ hh) (N3 _ hh) hz hTI hTO h1 h2 h3 hx hy hu fun h' a1 a2 a3 a4 a5 a6 a7 a8=>qc (hQ h' a1 a2 a3 a4 a5 a6 a7 a8)) (F.args_zip_next_1 _))))
theorem Zx {Q:Option Value->Shared->Prop}(hh:A.handled=none) (D:ZAq z TI TO i1 i2 i3 f1 f2 f3) (N1:∀ A:Around,A.handled=none->Nx prog w A f1 i1 s1 xs) (N2:∀ A:Around,A.handled=none->Nx prog w A f2 i2 s2 ys) (N3:∀ A:Around,A.handled=none->Nx prog w A f3 i3 s3 zs)
  (hz:IsZip s.heap z TI TO .none) (hTI:jo s.heap TI (.ref i1) (.ref i2) (.ref i3)) (hTO:jo s.heap TO a b c)
  (h1:s1 k1 s.heap) (h2:s2 k2 s.heap) (h3:s3 k3 s.heap) (hend:xs[k1]?=none\/ys[k2]?=none\/zs[k3]?=none)
  (hQ:∀ h',(∀ c o,c≠z->c≠TO->c≠i1->c≠i2->c≠i3->s.heap.get? c=some o->h'.get? c=some o)->Q none { s with heap:=h' }):wpAny (model prog w) A (pyNext (.ref z)) Q E s:=by
 have hT:s.TypeIs (.ref z) "zip" := ⟨_,hz,rfl⟩;unfold pyNext;refine qa (wpAny_attempt (wpAny_callSpecial?_slot (name:=Str.ofString "__next__") hT F.slot_zip_next
  (yf F.slot_zip_next hT F.entry_zip_next (qjA D (N1 _ hh) (N2 _ hh) (N3 _ hh) hz hTI hTO h1 h2 h3 hend fun h' e hk he=>?_) (F.args_zip_next_1 _))))
 obtain ⟨o,ho,hc⟩:=he;refine qa (wpAny_isInstance (T := "StopIteration") (b:=true) ⟨o,ho,hc⟩ isSubtype_stop ?_);exact qc (hQ _ hk)
end
theorem YS (a b c:Value):checkTypeCall "zip" ⟨[a,b,c],[]⟩=pure ():=by kernel_rfl
theorem ZH (a b c:Value):checkBuiltinCall "zip.__new__" ⟨[.type "zip",a,b,c],[]⟩=pure ():=by kernel_rfl
theorem JJ (a b c d:Value):argsOk "object.__init__" ⟨[a,b,c,d],[]⟩:=by unfold argsOk;rw [signature?_of (id := "object.__init__") (n:=['_','_','t','i','n','i','_','_']) (o:=['t','c','e','j','b','o']) (by kernel_rfl) F.owner_object];kernel_rfl
abbrev zqA (h:Heap) (l1:Addr):Heap:=h.push { cls:=.type "list_iterator",data:=.fields #[.ref l1,.int 0 0] }
abbrev zqC (h:Heap) (l1 l2 l3:Addr):Heap:=(zqA (zqA (zqA h l1) l2) l3).push { cls:=.type "tuple",data:=.seq #[.ref h.objs.size,.ref (zqA h l1).objs.size,.ref (zqA (zqA h l1) l2).objs.size] }
abbrev zqD (h:Heap) (l1 l2 l3:Addr):Heap:=(zqC h l1 l2 l3).push { cls:=.type "tuple",data:=.seq #[.none,.none,.none] }
abbrev zqE (h:Heap) (l1 l2 l3:Addr):Heap:=(zqD h l1 l2 l3).push { cls:=.type "zip",data:=.fields #[.none,.bool false,.bool false,.ref (zqA (zqA (zqA h l1) l2) l3).objs.size,.ref (zqC h l1 l2 l3).objs.size] }
theorem qau (l1 l2 l3:Addr) (xs ys zs:Array Value) :
  Meets (Builtin.«zip.__new__» ⟨[.type "zip",.ref l1,.ref l2,.ref l3],[]⟩) (fun _ R s=>s.heap.IsList l1 xs/\s.heap.IsList l2 ys/\s.heap.IsList l3 zs ∧
   R (.ok (.ret (.ref (zqD s.heap l1 l2 l3).objs.size))) { s with heap:=zqE s.heap l1 l2 l3 }) :=
 .of_wp fun prog w A R s h=>by
  obtain ⟨hp,g,d,tk,os⟩:=s;obtain ⟨hl1,hl2,hl3,h⟩:=h;have hsub:=sub_zip;have hL1:Heap.IsList (Shared.heap ⟨hp,g,d,tk,os⟩) l1 xs:=hl1;have hL2:Heap.IsList (Shared.heap ⟨hp.push { cls:=.type "list_iterator",data:=.fields #[.ref l1,.int 0 0] },g,d,tk,os⟩) l2 ys:=Heap.IsList.push hl2 _;have hL3:Heap.IsList (Shared.heap ⟨(hp.push { cls:=.type "list_iterator",data:=.fields #[.ref l1,.int 0 0] }).push { cls:=.type "list_iterator",data:=.fields #[.ref l2,.int 0 0] },g,d,tk,os⟩) l3 zs:=Heap.IsList.push (Heap.IsList.push hl3 _) _
  wp_walk using jv hL1,jv hL2,jv hL3
  exact ⟨_,rfl,h⟩
section
variable {prog:Program}{w:World}{A:Around}{E:Value->Shared->Prop}{s:Shared}
theorem qji {l1 l2 l3:Addr}{xs ys zs:Array Value}{Q:Value->Shared->Prop}(hl1:s.heap.IsList l1 xs) (hl2:s.heap.IsList l2 ys) (hl3:s.heap.IsList l3 zs)
  (h:∀ h',IsZip h' (s.heap.objs.size+5) (s.heap.objs.size+3) (s.heap.objs.size+4) .none->jo h' (s.heap.objs.size+3) (.ref s.heap.objs.size) (.ref (s.heap.objs.size+1)) (.ref (s.heap.objs.size+2)) →
   jo h' (s.heap.objs.size+4) .none .none .none->h'.IsListIter s.heap.objs.size l1 0->h'.IsListIter (s.heap.objs.size+1) l2 0->h'.IsListIter (s.heap.objs.size+2) l3 0 →
   (∀ c o,s.heap.get? c=some o->h'.get? c=some o)->Q (.ref (s.heap.objs.size+5)) { s with heap:=h' }) :
  wpAny (model prog w) A (call (.type "zip") [.ref l1,.ref l2,.ref l3]) Q E s:=by
 refine callType_new F.called_zip (by decide) (YS _ _ _) (ZH _ _ _) (fun obj=>JJ obj _ _ _) F.entry_zip_new
  (qau l1 l2 l3 xs ys zs) ⟨hl1,hl2,hl3,?_⟩
 have z1:(zqA s.heap l1).objs.size=s.heap.objs.size+1:=qV ..;have z2:(zqA (zqA s.heap l1) l2).objs.size=s.heap.objs.size+2:=by rw [qV,z1]
 have z3:(zqA (zqA (zqA s.heap l1) l2) l3).objs.size=s.heap.objs.size+3:=by rw [qV,z2]
 have z4:(zqC s.heap l1 l2 l3).objs.size=s.heap.objs.size+4:=by rw [qV,z3]
 have z5:(zqD s.heap l1 l2 l3).objs.size=s.heap.objs.size+5:=by rw [qV,z4]
 have g6:(zqE s.heap l1 l2 l3).get? (zqD s.heap l1 l2 l3).objs.size=some _:=qj _ rfl;have g5:(zqE s.heap l1 l2 l3).get? (zqC s.heap l1 l2 l3).objs.size=some _:=qb _ (qj _ rfl);have g4:(zqE s.heap l1 l2 l3).get? (zqA (zqA (zqA s.heap l1) l2) l3).objs.size=some _:=qb _ (qb _ (qj _ rfl));have g3:(zqE s.heap l1 l2 l3).get? (zqA (zqA s.heap l1) l2).objs.size=some _:=qb _ (qb _ (qb _ (qj _ rfl)));have g2:(zqE s.heap l1 l2 l3).get? (zqA s.heap l1).objs.size=some _:=qb _ (qb _ (qb _ (qb _ (qj _ rfl))));have g1:(zqE s.heap l1 l2 l3).get? s.heap.objs.size=some _:=qb _ (qb _ (qb _ (qb _ (qb _ (qj _ rfl)))));show _/\_;rw [z3,z4,z5] at g6;rw [z1,z2,z3] at g4;rw [z4] at g5;rw [z2] at g3;rw [z1] at g2;rw [z5];exact ⟨⟨_,g6,rfl⟩,h _ g6 g4 g5 ⟨_,g1,rfl,rfl⟩ ⟨_,g2,rfl,rfl⟩ ⟨_,g3,rfl,rfl⟩ fun c o x =>
  qb _ (qb _ (qb _ (qb _ (qb _ (qb _ x)))))⟩
end
end PySem
namespace L2
open PySem PySem.Spec PyProof.Rows
def ItzQ (K:W.Frag) (a b c:Addr):It :=
 ⟨fun i H=>∃ xs ys zs x y z,SqL K H a xs/\SqL K H b ys/\SqL K H c zs/\xs[i]?=some x/\ys[i]?=some y/\zs[i]?=some z,
  fun i H v H'=>∃ t x y z,H t=none/\v = .ref t/\H'=upd H t (.tup [x,y,z])/\(∀ xs,SqL K H a xs->xs[i]?=some x)/\(∀ ys,SqL K H b ys->ys[i]?=some y)/\∀ zs,SqL K H c zs->zs[i]?=some z,
  fun i H=>∃ xs ys zs,SqL K H a xs/\SqL K H b ys/\SqL K H c zs/\(xs.length<=i\/ys.length<=i\/zs.length<=i)⟩
def zStQ (a b c z TI TO i1 i2 i3:Addr) (i:Nat) (h:Heap):Prop :=
 IsZip h z TI TO .none/\jo h TI (.ref i1) (.ref i2) (.ref i3)/\(∃ p q r,jo h TO p q r)/\h.IsListIter i1 a i/\h.IsListIter i2 b i/\h.IsListIter i3 c i
theorem szq {x y z:V}:[x,y,z].length<=sizeLine:=by
 rw [sizeLine_eq];show 3<=_;decide
theorem qc3 {P:Program}{w:World}{K:W.Frag}{elts:List Expr}{x1} {pos:Pos}(a b c z TI TO i1 i2 i3:Addr) (D:ZAq z TI TO i1 i2 i3 [i1,a] [i2,b] [i3,c]) (ha:a≠i1) (hb:b≠i2) (hc3:c≠i3) :
  Turn P w K (.Tuple elts x1 pos) (ItzQ K a b c) [z,TI,TO,i1,i2,i3] z (zStQ a b c z TI TO i1 i2 i3) where
 mem:=by simp
 obj:=fun i h ⟨hz,hI,⟨p,q,r,hO⟩,⟨o1,g1,_,d1⟩,⟨o2,g2,_,d2⟩,⟨o3,g3,_,d3⟩⟩ c hc=>by
  simp only [List.mem_cons,List.mem_nil_iff,or_false] at hc;rcases hc with rfl | rfl | rfl | rfl | rfl | rfl
  .exact ⟨_,hz,fun v e=>by cases e⟩
  .exact ⟨_,hI,fun v e=>by cases e⟩
  .exact ⟨_,hO,fun v e=>by cases e⟩
  .exact ⟨_,g1,fun v e=>by rw [d1] at e;cases e⟩
  .exact ⟨_,g2,fun v e=>by rw [d2] at e;cases e⟩
  .exact ⟨_,g3,fun v e=>by rw [d3] at e;cases e⟩
 keep:=fun i h h' ⟨hz,hI,⟨p,q,r,hO⟩,h1,h2,h3⟩ k=>⟨k _ (by simp) _ hz,k _ (by simp) _ hI,⟨p,q,r,k _ (by simp) _ hO⟩,h1.at fun o e=>k _ (by simp) o e,h2.at fun o e=>k _ (by simp) o e,h3.at fun o e=>k _ (by simp) o e⟩
 item:=by
  intro X hP hw hK hc i pins s σ H E I hf st hg;subst hP hw hK;obtain ⟨hz,hI,⟨p,q,r,hO⟩,h1,h2,h3⟩:=st;obtain ⟨xs,ys,zs,x,y,u,hq1,hq2,hq3,hx,hy,hu⟩:=hg;obtain ⟨is1,rv1,p1,_⟩:=I.list hq1;obtain ⟨is2,rv2,p2,_⟩:=I.list hq2;obtain ⟨is3,rv3,p3,_⟩:=I.list hq3;obtain ⟨v1,hv1,rw1⟩:=rv1.get hx;obtain ⟨v2,hv2,rw2⟩:=rv2.get hy;obtain ⟨v3,hv3,rw3⟩:=rv3.get hu;have fr:H s.heap.objs.size=none:=I.hok.fresh (Nat.le_refl _);have hzs:z<s.heap.objs.size:=qi hz;refine YT (I.ok.hd hc) D (fun A hh=>Jr hh ha) (fun A hh=>Jr hh hb) (fun A hh=>Jr hh hc3) hz hI hO ⟨h1,p1.isList⟩ ⟨h2,p2.isList⟩ ⟨h3,p3.isList⟩ (x:=v1) (y:=v2) (u:=v3) (by simpa using hv1) (by simpa using hv2) (by simpa using hv3) fun h' hz' hO' t1 t2 t3 ht hsz hk=>⟨_,rfl,wpAny_letOwnedTupleGo_zip hz' fun hA zA sA=>?_⟩;have sA:Heap.SameBut z h' hA:=sA;have keep:∀ c o,c∉[z,TI,TO,i1,i2,i3]->s.heap.get? c=some o->hA.get? c=some o:=fun c o hc q=>by
   simp only [List.mem_cons,List.mem_nil_iff,or_false,not_or] at hc;exact sA.extBut c o hc.1 (hk c o hc.1 hc.2.2.1 hc.2.2.2.1 hc.2.2.2.2.1 hc.2.2.2.2.2 q)
  have htA:hA.get? s.heap.objs.size=some { cls:=.type "tuple",data:=.seq #[v1,v2,v3] }:=(sA.2 _ (yi hzs)).trans ht;have I2:Inv X pins σ (upd H s.heap.objs.size (.tup [x,y,u])) { s with heap:=hA,toks:=s.toks }:=I.turnedL hf keep (Nat.le_refl _) ⟨szq,[v1,v2,v3],.cons rw1 (.cons rw2 (.cons rw3 .nil)),⟨_,htA,rfl,_,rfl⟩⟩;have hlt:∀ c∈[z,TI,TO,i1,i2,i3],c≠s.heap.objs.size:=fun c hc=>by
   simp only [List.mem_cons,List.mem_nil_iff,or_false] at hc;obtain ⟨o1,g1,_⟩:=h1;obtain ⟨o2,g2,_⟩:=h2;obtain ⟨o3,g3,_⟩:=h3;rcases hc with rfl | rfl | rfl | rfl | rfl | rfl
   .exact qg hzs
   .exact qg (qi hI)
   .exact qg (qi hO)
   .exact qg (qi g1)
   .exact qg (qi g2)
   .exact qg (qi g3)
  have i1z:i1≠z:=qD (l:=[i1,a]) (by simp) D.z1;have i2z:i2≠z:=qD (l:=[i2,b]) (by simp) D.z2;have i3z:i3≠z:=qD (l:=[i3,c]) (by simp) D.z3;refine ⟨.ref s.heap.objs.size,_,I2,rfl,⟨_,x,y,u,fr,rfl,rfl,fun zs hz=>by rw [I.list_inj hz hq1];exact hx,fun zs hz=>by rw [I.list_inj hz hq2];exact hy,fun zs hz=>by rw [I.list_inj hz hq3];exact hu⟩,⟨zA,?_,⟨v1,v2,v3,?_⟩,?_,?_,?_⟩,fun c hc=>?_⟩
  .exact sA.extBut _ _ D.TIz (hk _ _ D.TIz D.TITO D.t1 D.t2 D.t3 hI)
  .exact sA.extBut _ _ D.TOz hO'
  .exact t1.1.extBut sA.extBut i1z
  .exact t2.1.extBut sA.extBut i2z
  .exact t3.1.extBut sA.extBut i3z
  .rw [qC (hlt c hc)];exact (hf c hc).1
 done:=by
  intro X hP hw hK hc i pins s σ H E I hf st hg;subst hP hw hK;obtain ⟨hz,hI,⟨p,q,r,hO⟩,h1,h2,h3⟩:=st;obtain ⟨xs,ys,zs,hq1,hq2,hq3,hx⟩:=hg;obtain ⟨is1,rv1,p1,_⟩:=I.list hq1;obtain ⟨is2,rv2,p2,_⟩:=I.list hq2;obtain ⟨is3,rv3,p3,_⟩:=I.list hq3;have hl1:=rv1.length;have hl2:=rv2.length;have hl3:=rv3.length;refine Zx (I.ok.hd hc) D (fun A hh=>Jr hh ha) (fun A hh=>Jr hh hb) (fun A hh=>Jr hh hc3) hz hI hO ⟨h1,p1.isList⟩ ⟨h2,p2.isList⟩ ⟨h3,p3.isList⟩ (by
   rcases hx with e | e | e
   .left;simp;omega
   .right;left;simp;omega
   .right;right;simp;omega) fun h' k=>⟨rfl,?_⟩
  exact I.turnedF (t':=s.toks) hf fun c o hb q=>by
   simp only [List.mem_cons,List.mem_nil_iff,or_false,not_or] at hb;exact k c o hb.1 hb.2.2.1 hb.2.2.2.1 hb.2.2.2.2.1 hb.2.2.2.2.2 q
 self:=fun _ _ _ _ _ st h=>wpAny_pyIter_zip st.1 h
def iZipQ (K:W.Frag) (ta:TA):TI:=fun σ H R=>ta σ H fun vs H1=>∃ a b c,vs=[.ref a,.ref b,.ref c]/\(∃ xs,SqL K H1 a xs)/\(∃ ys,SqL K H1 b ys)/\(∃ zs,SqL K H1 c zs)/\R (ItzQ K a b c) H1
section
variable {X:Cx}{K:W.Frag}
theorem zaq {n a b c:Addr}(ha:a<n) (hb:b<n) (hc:c<n):ZAq (n+5) (n+3) (n+4) n (n+1) (n+2) [n,a] [n+1,b] [n+2,c]:=by
 have q1:∀ k:Nat,a≠n+k:=fun k=>qg (qu ha (qR _ _));have q2:∀ k:Nat,b≠n+k:=fun k=>qg (qu hb (qR _ _));have q3:∀ k:Nat,c≠n+k:=fun k=>qg (qu hc (qR _ _));have r:∀ i j:Nat,i≠j->n+i≠n+j:=fun i j h e=>h (Nat.add_left_cancel e);have r0:∀ j:Nat,j≠0->n≠n+j:=fun j h e=>h (Nat.left_eq_add.mp e);refine ⟨r _ _ (by decide),r _ _ (by decide),r _ _ (by decide),?_,?_,?_,?_,?_,?_,(r0 3 (by decide)).symm,r 3 1 (by decide),r 3 2 (by decide),?_,?_,?_,?_,?_,?_⟩ <;> simp only [List.mem_cons,List.mem_nil_iff,or_false,not_or]
 .exact ⟨(r0 5 (by decide)).symm,(q1 5).symm⟩
 .exact ⟨r 5 1 (by decide),(q2 5).symm⟩
 .exact ⟨r 5 2 (by decide),(q3 5).symm⟩
 .exact ⟨(r0 4 (by decide)).symm,(q1 4).symm⟩
 .exact ⟨r 4 1 (by decide),(q2 4).symm⟩
 .exact ⟨r 4 2 (by decide),(q3 4).symm⟩
 .exact ⟨r0 1 (by decide),(qg hb).symm⟩
 .exact ⟨r0 2 (by decide),(qg hc).symm⟩
 .exact ⟨(r0 1 (by decide)).symm,(q1 1).symm⟩
 .exact ⟨r 1 2 (by decide),(q3 1).symm⟩
 .exact ⟨(r0 2 (by decide)).symm,(q1 2).symm⟩
 .exact ⟨r 2 1 (by decide),(q2 2).symm⟩
theorem qib {l m n:Expr}{ta:TA}{elts:List Expr}{x1} {tpos p pos:Pos}(hg:Gl X "zip") (hm:X.mg "zip" = none) (ha:PA X [l,m,n] ta) (hs:starEach [l,m,n] X.env=[(false,eval l X.env),(false,eval m X.env),(false,eval n X.env)]:=by rfl) (hs2:starEach [m,n] X.env=[(false,eval m X.env),(false,eval n X.env)]:=by rfl) :
  PI X (.Tuple elts x1 tpos) (.Call (.Name "zip" p) [l,m,n] [] pos) (iZipQ X.K ta):=by
 intro pins s σ H R I h;refine Call_ (JE I hg hm qck (PyProof.Rows.callWith_type1 (thn (ha pos pins s σ H _ I h) fun us s1 ⟨vs,H1,I1,r1,q1⟩=>?_) (by rw [hs,hs2]) (by rw [hs2];rfl)));obtain ⟨a,b,c,e,⟨xs,hq1⟩,⟨ys,hq2⟩,⟨zs,hq3⟩,q⟩:=q1;subst e;obtain ⟨u,v,v3,rfl,rx,ry,rz⟩:=vals3 r1;cases rx
 cases ry
 cases rz
 obtain ⟨is1,rv1,p1,_⟩:=I1.list hq1;obtain ⟨is2,rv2,p2,_⟩:=I1.list hq2;obtain ⟨is3,rv3,p3,_⟩:=I1.list hq3;have la:a<s1.heap.objs.size:=by obtain ⟨o,ho,_⟩:=p1.isList;exact qi ho
 have lb:b<s1.heap.objs.size:=by obtain ⟨o,ho,_⟩:=p2.isList;exact qi ho
 have lc:c<s1.heap.objs.size:=by obtain ⟨o,ho,_⟩:=p3.isList;exact qi ho
 refine qji p1.isList p2.isList p3.isList fun h' hz hI hO h1 h2 h3 hk=>?_;have I2:Inv X pins σ H1 { s1 with heap:=h' }:=I1.kept (t':=s1.toks) hk;refine wpAny_pyIter_zip hz ?_;refine ⟨s1.heap.objs.size+5,[s1.heap.objs.size+5,s1.heap.objs.size+3,s1.heap.objs.size+4,s1.heap.objs.size,s1.heap.objs.size+1,s1.heap.objs.size+2],_,_,H1,rfl,I2,qc3 a b c _ _ _ _ _ _ (zaq la lb lc) (qg la) (qg (qT lb)) (qg (qT (qT lc))),⟨hz,hI,⟨_,_,_,hO⟩,h1,h2,h3⟩,fun c hc=>?_,q⟩;have hc':s1.heap.objs.size<=c:=by
  simp only [List.mem_cons,List.mem_nil_iff,or_false] at hc;rcases hc with rfl | rfl | rfl | rfl | rfl | rfl
  .exact qR _ _
  .exact qR _ _
  .exact qR _ _
  .exact Nat.le_refl _
  .exact qR _ _
  .exact qR _ _
 exact I1.fpOk hc' (I1.hok.fresh hc')
def itZ3 (e e' e'':En) (ds es fs:List PyData):Itd:=⟨min ds.length (min es.length fs.length),fun i=>.d (.tuple [ds.getD i .none,es.getD i .none,fs.getD i .none]),fun U=>LstOf U e ds/\LstOf U e' es/\LstOf U e'' fs⟩
def diZ3 (ta:TAd):TId:=fun ρ U Q=>ta ρ U fun es U1=>∃ e e' e'' ds ds' ds'',es=[e,e',e'']/\LstOf U1 e ds/\LstOf U1 e' ds'/\LstOf U1 e'' ds''/\Q (itZ3 e e' e'' ds ds' ds'') U1
theorem qiY {l m n:Expr}{ta:TAd}{elts:List Expr}{x1} {tpos p pos:Pos}(hg:Gl X "zip") (hm:X.mg "zip" = none) (ha:DA K X [l,m,n] ta) (hK:X.K=K:=by rfl) (hs:starEach [l,m,n] X.env=[(false,eval l X.env),(false,eval m X.env),(false,eval n X.env)]:=by rfl) (hs2:starEach [m,n] X.env=[(false,eval m X.env),(false,eval n X.env)]:=by rfl) :
  DI K X (.Tuple elts x1 tpos) (.Call (.Name "zip" p) [l,m,n] [] pos) (diZ3 ta):=by
 subst hK;refine PI.mono (qib hg hm ha hs hs2) fun σ H R hq9=>?_;obtain ⟨ρ,U,Q0,hS,hM,h,cl⟩:=hq9;refine ⟨ρ,U,_,hS,hM,h,fun es U1 vs H1 q M1 s1 i1=>?_⟩;obtain ⟨e,e',e'',ds,es,fs,rfl,hL,hL',hL'',q⟩:=q;obtain ⟨v,v',v'',rfl,g1,g2,g3⟩:=pair3 i1;obtain ⟨p,xs,rfl,h1,h2⟩:=hL.get M1 g1;obtain ⟨p',ys,rfl,h1',h2'⟩:=hL'.get M1 g2;obtain ⟨p'',zs,rfl,h1'',h2''⟩:=hL''.get M1 g3;refine ⟨p,p',p'',rfl,⟨xs,h1⟩,⟨ys,h1'⟩,⟨zs,h1''⟩,cl _ U1 _ H1 q M1 s1 fun U' H' M' s' hok i=>?_⟩;obtain ⟨_,xs,e3,h3,h4⟩:=LstOf.get hok.1 M' (g1.same s');cases e3
 obtain ⟨_,ys,e3,h3',h4'⟩:=LstOf.get hok.2.1 M' (g2.same s');cases e3
 obtain ⟨_,zs,e3,h3'',h4''⟩:=LstOf.get hok.2.2 M' (g3.same s');cases e3
 have hl:=h4.len;have hl':=h4'.len;have hl'':=h4''.len;refine ⟨fun hi=>?_,fun hi=>⟨xs,ys,zs,h3,h3',h3'',?_⟩⟩
 .have hi:i<min ds.length (min es.length fs.length):=hi;have hi1:i<xs.length:=by omega
  have hi2:i<ys.length:=by omega
  have hi3:i<zs.length:=by omega
  refine ⟨⟨xs,ys,zs,xs[i],ys[i],zs[i],h3,h3',h3'',by simp,by simp,by simp⟩,?_⟩;rintro x H2 ⟨t,y,y',y'',ht,rfl,rfl,hx,hy,hz⟩;obtain ⟨M2,s2,hn⟩:=M'.laid (o:=.tup [y,y',y'']) ht;obtain ⟨d,e1,e2⟩:=h4.get (hx xs h3);obtain ⟨d',e1',e2'⟩:=h4'.get (hy ys h3');obtain ⟨d'',e1'',e2''⟩:=h4''.get (hz zs h3'');refine ⟨M2,s2,?_⟩;show Is X.K (mask U' (upd H' t (.tup [y,y',y'']))) (.ref t) (.tuple [ds.getD i .none,es.getD i .none,fs.getD i .none]);rw [jw e1,jw e1',jw e1''];exact .tup (SqT.of (by rw [qX hn];exact qE)) (.cons (Is.same s2 e2) (.cons (Is.same s2 e2') (.cons (Is.same s2 e2'') .nil)))
 .have hi:min ds.length (min es.length fs.length)<=i:=hi;omega
end
section
variable {κ:Type} [DecidableEq κ]
def qcq (kvs:List (κ×V)) (k:κ):Option V:=(kvs.find? fun kv=>decide (kv.1=k)).map (·.2)
def qgQ (kvs:List (κ×V)) (k:κ) (v:V):List (κ×V) :=
 if (kvs.any fun kv=>decide (kv.1=k))=true then kvs.map (fun kv=>if kv.1=k then (kv.1,v) else kv) else kvs++[(k,v)]
theorem Yh {p:κ×V}{r:List (κ×V)}{k:κ}(e:p.1=k):qcq (p::r) k=some p.2:=by simp [qcq,List.find?_cons,e]
theorem Yi {p:κ×V}{r:List (κ×V)}{k:κ}(e:¬ p.1=k):qcq (p::r) k=qcq r k:=by simp [qcq,List.find?_cons,e]
theorem qbL (k:κ):∀ kvs:List (κ×V),(kvs.any fun kv=>decide (kv.1=k))=(qcq kvs k).isSome
 | []=>rfl
 | p::r=>by
  rw [List.any_cons];by_cases e:p.1=k
  .simp only [Yh e,decide_eq_true e,Bool.true_or,Option.isSome_some]
  .rw [Yi e,yc e,Bool.false_or];exact qbL k r
theorem qbo (kvs:List (κ×V)) (k:κ) (v:V):(qgQ kvs k v).length<=kvs.length+1:=by
 unfold qgQ;split
 .rw [List.length_map];omega
 .rw [List.length_append,List.length_cons,List.length_nil];omega
theorem qfF {kvs:List (κ×V)}{k:κ}(v:V) (h:qcq kvs k=none):qgQ kvs k v=kvs++[(k,v)]:=by
 unfold qgQ;rw [qbL,h];exact if_neg (by decide)
theorem KV.val {kvs:List (κ×V)}{vs:List (κ×Value)}(r:KV kvs vs) (k:κ):qhr (qcq kvs k) (valueAt vs k):=by
 unfold KV at r;induction r with
 | nil=>exact True.intro
 | @cons p q ps qs h t ih =>
  obtain ⟨h1,h2⟩:=h;by_cases e:p.1=k
  .have e':q.1=k:=h1.symm.trans e;have b:valueAt (q::qs) k=some q.2:=by simp [valueAt,List.find?_cons,e']
   rw [Yh e,b];exact h2
  .have e':¬ q.1=k:=fun z=>e (h1.trans z);have b:valueAt (q::qs) k=valueAt qs k:=by simp [valueAt,List.find?_cons,e']
   rw [Yi e,b];exact ih
theorem KV.any {kvs:List (κ×V)}{vs:List (κ×Value)}(r:KV kvs vs) (k:κ):(kvs.any fun kv=>decide (kv.1=k))=vs.any fun kv=>decide (kv.1=k):=by
 unfold KV at r;induction r with
 | nil=>rfl
 | cons h t ih=>rw [List.any_cons,List.any_cons,ih,h.1]
theorem KV.repl {kvs:List (κ×V)}{vs:List (κ×Value)}(r:KV kvs vs) (k:κ) {y:V}{u:Value}(ry:jb y u) :
  KV (kvs.map fun kv=>if kv.1=k then (kv.1,y) else kv) (vs.map fun kv=>if kv.1=k then (kv.1,u) else kv):=by
 unfold KV at r ⊢;induction r with
 | nil=>exact .nil
 | @cons p q ps qs h t ih =>
  rw [List.map_cons,List.map_cons];refine .cons ?_ ih;obtain ⟨h1,h2⟩:=h;by_cases e:p.1=k
  .rw [if_pos e,if_pos (h1.symm.trans e)];exact ⟨h1,ry⟩
  .rw [if_neg e,if_neg (fun z=>e (h1.trans z))];exact ⟨h1,h2⟩
theorem KV.put {kvs:List (κ×V)}{vs:List (κ×Value)}(r:KV kvs vs) (k:κ) {y:V}{u:Value}(ry:jb y u):KV (qgQ kvs k y) (stored vs k u):=by
 unfold qgQ stored;rw [r.any k];by_cases e:(vs.any fun kv=>decide (kv.1=k))=true
 .rw [if_pos e,if_pos e];exact r.repl k ry
 .rw [if_neg e,if_neg e];exact Paired.snoc r ⟨rfl,ry⟩
theorem KV.keys {kvs:List (κ×V)}{vs:List (κ×Value)}(r:KV kvs vs):kvs.map (·.1)=vs.map (·.1):=by
 unfold KV at r;induction r with
 | nil=>rfl
 | cons h t ih=>rw [List.map_cons,List.map_cons,ih,h.1]
theorem KV.length {kvs:List (κ×V)}{vs:List (κ×Value)}(r:KV kvs vs):kvs.length=vs.length:=Paired.length r
end
theorem qiL {P:Program}{w:World}{k:Key}{u:Value}(r:jb (kV k) u):(y8 P w).is k u=true:=by
 cases k with
 | inl i=>obtain ⟨t,e⟩:=(show ∃ t,u=Value.int i t from r);subst e;exact qbm P w i t
 | inr x=>obtain ⟨t,e⟩:=(show ∃ t,u=Value.str x t from r);subst e;exact qbl P w x t
theorem qax {P:Program}{w:World}:∀ {ks:List Key}{us:List Value},yy (ks.map kV) us->ItemsAre (y8 P w) ks us
 | [],_,r=>by rw [List.map_nil] at r;cases r;exact .nil
 | k::ks,_,r=>by
  rw [List.map_cons] at r;cases r with
  | cons h t=>exact .cons (qiL h) (qax t)
abbrev KT (H:Hp):List (List Key×V)->List (List Key×Addr×Value)->Prop:=Paired fun p q=>p.1=q.1/\H q.2.1=some (.tup (p.1.map kV))/\jb p.2 q.2.2
theorem KT.val {H:Hp}{kvs:List (List Key×V)}{xs:List (List Key×Addr×Value)}(r:KT H kvs xs) (k:List Key):qhr (qcq kvs k) ((atKey xs k).map (·.2)):=by
 induction r with
 | nil=>exact True.intro
 | @cons p q ps qs h t ih =>
  obtain ⟨h1,_,h2⟩:=h;by_cases e:p.1=k
  .have e':q.1=k:=h1.symm.trans e;have b:atKey (q::qs) k=some q.2:=by simp [atKey,List.find?_cons,e']
   rw [Yh e,b];exact h2
  .have e':¬ q.1=k:=fun z=>e (h1.trans z);have b:atKey (q::qs) k=atKey qs k:=by simp [atKey,List.find?_cons,e']
   rw [Yi e,b];exact ih
section
variable {P:Program}{w:World}{H:Hp}{h:Heap}{a:Addr}
theorem qjW {u:HO}(ok:HOk P w H h) (e:Rd H a u):ja P w H h a u:=e.ok ok
theorem qiX {kvs:List (Key×V)}(ok:HOk P w H h) (e:Rd H a (.dK kvs)):kvs.length<=sizeLine/\(a == sysModules)=false/\∃ vs,KV kvs vs/\h.DictOf (y8 P w) a vs :=
 show ja P w H h a (.dK kvs) from qjW ok e
theorem qk3 {kvs:List (Key×V)}(ok:HOk P w H h) (e:H a=some (.dK kvs)):kvs.length<=sizeLine/\(a == sysModules)=false/\∃ vs,KV kvs vs/\h.DictOf (y8 P w) a vs:=qiX ok (.inl e)
theorem qg2 {ks:List Key}(ok:HOk P w H h) (e:H a=some (.tup (ks.map kV))):(tupleKind (y8 P w)).is h ks a:=by
 obtain ⟨_,its,r,o,h1,h2,n,h3⟩:=(show ja P w H h a (.tup (ks.map kV)) from ok a _ e);exact ⟨o,its.toArray,n,h1,h2,h3,by simpa using qax r⟩
theorem qkZ {kvs:List (List Key×V)}(ok:HOk P w H h) (e:Rd H a (.dT kvs)):kvs.length<=sizeLine/\(a == sysModules)=false ∧
  ∃ xs,KT H kvs xs/\h.DictOfH (tupleKind (y8 P w)) a xs:=by
 obtain ⟨z,y,xs,r,o,es,ep,h1,h2,h3,h4,h5⟩:=(show ja P w H h a (.dT kvs) from qjW ok e);refine ⟨z,y,xs,r,o,es,ep,h1,h2,h3,h4,fun x hx=>?_,h5⟩;have all:∀ {l:List (List Key×V)}{m:List (List Key×Addr×Value)},KT H l m->∀ x∈m,(tupleKind (y8 P w)).is h x.1 x.2.1:=by
  intro l m q;induction q with
  | nil=>intro x hx;exact nomatch hx
  | @cons p q ps qs hq t ih =>
   intro x hx;rcases List.mem_cons.mp hx with e | hx
   .subst e;exact qg2 ok (by rw [<- hq.1];exact hq.2.1)
   .exact ih x hx
 exact all r x hx
end
def qjz (H:Hp) (a:Addr) (y:V) (r:Option V):Prop :=
 (∃ kvs k,Rd H a (.dK kvs)/\y=kV k/\r=qcq kvs k)\/∃ kvs k b,Rd H a (.dT kvs)/\y = .ref b/\H b=some (.tup (k.map kV))/\r=qcq kvs k
theorem qjz.k {H:Hp}{a:Addr}{kvs:List (Key×V)}{k:Key}(e:H a=some (.dK kvs)):qjz H a (kV k) (qcq kvs k):=.inl ⟨kvs,k,.inl e,rfl,rfl⟩
section
variable {X:Cx}{pins:List (Addr×Obj)}{σ:St}{H:Hp}{s:Shared}{a:Addr}{y v:V}{u r:Value}{o:Option V}{A:Around}{E:Value->Shared->Prop}
theorem Inv.big (I:Inv X pins σ H s):sysModules<s.heap.objs.size:=by
 have h:mainGlobals<s.heap.objs.size:=(I.mod.glob.keeps I.bk).lt;exact yj (by decide) h
theorem qeQ {Q:Value->Shared->Prop}(hu:A.units+1<cLine) (I:Inv X pins σ H s) (g:qjz H a y (some v)) (ry:jb y u) (h:∀ w' s',Inv X pins σ H s'->jb v w'->Q w' s') :
  wpAny (model X.prog X.w) A (getItem (.ref a) u) Q E s:=by
 rcases g with ⟨kvs,k,e,ey,l⟩ | ⟨kvs,k,b,e,ey,eb,l⟩
 .subst ey;obtain ⟨z,hd,vs,rel,dd⟩:=qiX I.hok e;obtain ⟨w',hw,rw'⟩:=qhr.some_of (v:=v) (o:=valueAt vs k) (by rw [l];exact rel.val k);exact wpAny_getItem_of (qiL ry) dd.mapOf hw (h w' _ (I.tok _) rw')
 .subst ey;cases (show u=Value.ref b from ry)
  obtain ⟨z,hd,xs,rel,dd⟩:=qkZ I.hok e;obtain ⟨w',hw,rw'⟩:=qhr.some_of (v:=v) (o:=(atKey xs k).map (·.2)) (by rw [l];exact rel.val k);obtain ⟨p,hp,hp2⟩:=yk.mp hw;refine wpAny_getItem_heap (tupleKind_room_in1 hu) (qg2 I.hok eb) dd hp ?_;rw [hp2];exact h w' _ (I.tok _) rw'
theorem qi3 {h':Heap}{t':Nat}{ob:HO}(I:Inv X pins σ H s) (mu:Mut (H a)) (hs:Heap.SameBut a s.heap h') (he:∃ q,h'.get? a=some q) (new:ja X.prog X.w (upd H a ob) h' a ob) :
  Inv X pins σ (upd H a ob) { s with heap:=h',toks:=t' } :=
 I.write (x:=a) (e:=a) mu (.inl rfl) (fun b q hb z=>(hs.2 b hb).trans z) he new
theorem qk4 {P:Program}{w:World}{H':Hp}{h':Heap}{kvs:List (Key×V)}{vs:List (Key×Value)}(z:kvs.length<=sizeLine) (hd:(a == sysModules)=false) (rel:KV kvs vs) (dd:h'.DictOf (y8 P w) a vs) :
  ja P w H' h' a (.dK kvs):=⟨z,hd,vs,rel,dd⟩
end
section
variable {X:Cx}{pos:Pos}
end
def NoSl (i:Expr):Prop:=∀ ov iv,subscripted i false ov iv=operate [ov,iv] (getItem ov iv)
theorem qhG {prog:Program}{w:World}{A:Around}{E:Value->Shared->Prop}{s:Shared}{env:Env}{value slice:Expr}{pos:Pos}{T id:String}{Q:Value->Shared->Prop}
  (hl:typeLookup (.type T) "__getitem__" = pure (some (.builtin id))) (hs:NoSl slice)
  (h:wpAny (model prog w) A (eval value env) (fun o sa1=>wpAny (model prog w) A (eval slice env) (fun i sa2=>sa2.TypeIs o T/\wpAny (model prog w) A (getItem o i) Q E sa2) E sa1) E s) :
  wpAny (model prog w) A (eval (.Subscript value slice pos) env) Q E s:=by
 refine Subscript_ (qp h (fun o sa1 hd1=>qp hd1 (fun i sa2 ha2=>?_) fun _ _ x=>x) fun _ _ x=>x);obtain ⟨hT,ha2⟩:=ha2;unfold subscriptTail;refine qa ?_;rw [getitemInPython_of_ne hT.not_modules];refine qa (wpAny_specialOf hT hl ?_);have fin:wpAny (model prog w) A (subscripted slice false o i) (fun r sa3=>wpAny (model prog w) A (letTemporaryGo value o r >>= fun _=>pure r) Q E sa3) E sa2:=by
  rw [hs o i];exact wpAny_operating (qp ha2 (fun r sa3 ha3=>qa (wpAny_letTemporaryGo (qc ha3))) fun _ _ x=>x)
 first
  | exact qc (qa fin)
  | exact qa (qc (qa fin))
  | exact qa fin
theorem qbx {X:Cx}{pins:List (Addr×Obj)}{σ:St}{H:Hp}{s:Shared}{a:Addr}{y:V}{o:Option V}(I:Inv X pins σ H s) (g:qjz H a y o):s.TypeIs (.ref a) "dict" := by
 rcases g with ⟨kvs,k,e,_,_⟩ | ⟨kvs,k,b,e,_,_,_⟩
 .obtain ⟨_,_,vs,_,dd⟩:=qiX I.hok e;exact dd.typeIs
 .obtain ⟨_,_,xs,_,dd⟩:=qkZ I.hok e;exact dd.typeIs
def tDGet (td ty:TE):TE:=fun σ H Q=>td σ H fun x H1=>ty σ H1 fun y H2=>∃ a v,x = .ref a/\qjz H2 a y (some v)/\Q v H2
theorem qgf {P:Program}{w:World}{H:Hp}(h:Heap) (hb:sysModules<h.objs.size):ja P w H (h.push { cls:=.type "dict",data:=.dict #[] }) h.objs.size (.dK []) :=
 ⟨qB _,beq_eq_false_iff_ne.mpr (Ne.symm (qg hb)),[],.nil,Heap.DictOf.new h⟩
def qjJ:TE:=fun _ H Q=>∀ p,H p=none->Q (.ref p) (upd H p (.dK []))
section
variable {X:Cx}{o i e value:Expr}{pos pos' tpos:Pos}{td ty tv:TE}
theorem qig (hu:X.A.units+1<cLine) (ho:PE X o td) (hi:PE X i ty) (hs:NoSl i):PE X (.Subscript o i pos) (tDGet td ty):=by
 intro pins s σ H Q I h;refine qhG PySem.F.slot_dict_getitem.lookup hs (thn (ho pins s σ H _ I h) fun u s1 ⟨x,H1,I1,rx,q1⟩=>thn (hi pins s1 σ H1 _ I1 q1) fun iv s2 ⟨y,H2,I2,ry,a,v,ex,g,q2⟩=>?_);subst ex;obtain rfl:u=Value.ref a:=rx;exact ⟨qbx I2 g,qeQ hu I2 g ry fun w' s3 I3 rw'=>⟨v,H2,I3,rw',q2⟩⟩
theorem qfP:PE X (.Dict [] [] pos) qjJ:=fun pins s σ H Q I h =>
 wpAny_Dict_empty ⟨.ref s.heap.objs.size,_,I.laid (a:=s.heap.objs.size) (o:=.dK []) (t':=s.toks) (fun _ _ q=>qb _ q) (Nat.le_refl _) (qgf s.heap I.big),rfl,h _ (I.hok.fresh (Nat.le_refl _))⟩
end
section
variable {X:Cx}{K:W.Frag}{tg iter:Expr}{pos:Pos}
end
end L2
namespace L2
open PySem PySem.Spec PyProof.Rows PySem.W
structure RawD (h:Heap) (d:Addr) (es:Array DictEntry) (ep:Nat):Prop where
 ex:∃ o,h.get? d=some o/\o.ExactDict/\o.data = .dict es ep
theorem RawD.at {h h':Heap}{d:Addr}{es:Array DictEntry}{ep:Nat}(x:RawD h d es ep) (k:∀ o,h.get? d=some o->h'.get? d=some o):RawD h' d es ep :=
 let ⟨o,h1,h2⟩:=x.ex;⟨o,k _ h1,h2⟩
section
variable {prog:Program}{w:World}{A:Around}{E:Value->Shared->Prop}{s:Shared}{d:Addr}{es:Array DictEntry}{ep:Nat}
theorem RawD.typeIs (x:RawD s.heap d es ep):s.TypeIs (.ref d) "dict" := let ⟨o,h1,h2,_⟩:=x.ex;⟨o,h1,h2.1⟩
theorem qew {Q:Value->Shared->Prop}(hd:(d == sysModules)=false) (hm:RawD s.heap d es ep)
  (hQ:Q (.ref s.heap.objs.size) { s with heap:=s.heap.push { cls:=.type "dict_keyiterator",data:=.fields #[.ref d,.int 0 0,.int es.size 0,.int ep 0] } }) :
  wpAny (model prog w) A (pyIter (.ref d)) Q E s:=by
 obtain ⟨o,ho,hc,hdat⟩:=hm.ex;have hT:=hm.typeIs;refine wpAny_pyIter_slot hT F.slot_dict_iter (yf F.slot_dict_iter hT F.entry_dict_iter ?_ (F.args_dict_iter_1 _));unfold Builtin.«dict.__iter__»;refine qa ?_;unfold Builtin.Dict.dictSlotNone;refine qa (wpAny_notOrdered_dict hT ?_);show wpAny _ _ (pure (Value.ref d)) _ _ s;refine qc ?_;show wpAny _ _ (Builtin.Dict.showsAll d >>= _) _ _ s;unfold Builtin.Dict.showsAll;rw [if_neg (by rw [hd];exact yH)];refine qa (qc ?_);refine qa (wpAny_dictEntries ho hdat ?_);refine qa (wpAny_dictEpoch ho hdat ?_);refine qa (yb (qc ⟨_,rfl, "dict_keyiterator",_,⟨_,qj _ rfl,rfl⟩,F.slot_dict_keyiterator_next.lookup,?_⟩));simpa [rawInt] using hQ
theorem qd7 {it:Addr}{i:Nat}{e:DictEntry}{Q:Option Value->Shared->Prop}(hit:s.heap.IsKeyIter it d i es.size ep) (hm:RawD s.heap d es ep) (hx:es[i]?=some e)
  (hQ:∀ h',h'.IsKeyIter it d (i+1) es.size ep->Heap.SameBut it s.heap h'->Q (some e.key) { s with heap:=h' }):wpAny (model prog w) A (pyNext (.ref it)) Q E s:=by
 obtain ⟨o,ho,hc,hd⟩:=id hit;obtain ⟨od,hod,hcd,hdd⟩:=hm.ex;unfold pyNext;refine qa (wpAny_attempt (wpAny_callSpecial?_slot (name:=Str.ofString "__next__") hit.typeIs F.slot_dict_keyiterator_next
  (yf F.slot_dict_keyiterator_next hit.typeIs F.entry_dict_keyiterator_next ?_ (F.args_dict_keyiterator_next_1 _))))
 refine qa (qc ?_);refine qa ?_;refine qa ?_;first | refine qa (wpAny_typeNameOfWhole_keyiter hit.typeIs (qc ?_)) | refine qa (wpAny_typeNameOf_keyiter hit.typeIs (qc ?_))
 refine qa (wpAny_fieldsOf ho hd ?_);have hown:Builtin.Dict_items.ownsTuple "dict_keyiterator" = false:=by decide
 simp only [hown,Bool.false_eq_true,if_false];show wpAny _ _ (if (Value.ref d == Value.none)=true then _ else _) _ _ s;rw [if_neg (show ¬ ((Value.ref d == Value.none)=true) from yH)];refine qa (qc ?_);refine qa (wpAny_dictEntries hod hdd ?_);rw [if_neg (by simp)];refine qa (qc ?_);refine qa (wpAny_dictEpoch hod hdd ?_);rw [if_neg (by simp)];refine qc ?_;simp only [show ¬ ((i:Int)<0) from by omega,if_false,Int.toNat_natCast,hx];refine qa ?_;first | refine qa (wpAny_typeNameOfWhole_keyiter hit.typeIs (qc ?_)) | refine qa (wpAny_typeNameOf_keyiter hit.typeIs (qc ?_))
 refine qa (wpAny_isOneOf_keyiter hit.typeIs ?_);show wpAny _ _ (setField (.ref it) 1 (rawInt ((i:Int)+1)) >>= _) _ _ s;refine qa (wpAny_setField ho hd (by simp) ?_);have hit':(s.heap.update it (Obj.mapFields (·.setIfInBounds 1 (rawInt ((i:Int)+1))))).IsKeyIter it d (i+1) es.size ep :=
  ⟨_,qQ _ ho (Obj.isFreed_of_fields (Obj.data_mapFields hd _)),(Obj.cls_mapFields ..).trans hc,by rw [Obj.data_mapFields hd];simp [rawInt]⟩
 refine qa (qH ?_);refine qa (wpAny_isOneOf_keyiter (s:={ s with heap:=s.heap.update it (Obj.mapFields (·.setIfInBounds 1 (rawInt ((i:Int)+1)))) }) hit'.typeIs ?_);show wpAny _ _ (pure e.key) _ _ _;exact qc (qc ⟨_,rfl,qc (hQ _ hit' (Heap.SameBut.update ..))⟩)
theorem qgb {it:Addr}{Q:Option Value->Shared->Prop}(hh:A.handled=none) (hit:s.heap.IsKeyIter it d es.size es.size ep) (hm:RawD s.heap d es ep)
  (hQ:∀ h',Heap.ExtBut it s.heap h'->Q none { s with heap:=h' }):wpAny (model prog w) A (pyNext (.ref it)) Q E s:=by
 obtain ⟨o,ho,hc,hd⟩:=id hit;obtain ⟨od,hod,hcd,hdd⟩:=hm.ex;unfold pyNext;refine qa (wpAny_attempt (wpAny_callSpecial?_slot (name:=Str.ofString "__next__") hit.typeIs F.slot_dict_keyiterator_next
  (yf F.slot_dict_keyiterator_next hit.typeIs F.entry_dict_keyiterator_next ?_ (F.args_dict_keyiterator_next_1 _))))
 refine qa (qc ?_);refine qa ?_;refine qa ?_;first | refine qa (wpAny_typeNameOfWhole_keyiter hit.typeIs (qc ?_)) | refine qa (wpAny_typeNameOf_keyiter hit.typeIs (qc ?_))
 refine qa (wpAny_fieldsOf ho hd ?_);have hown:Builtin.Dict_items.ownsTuple "dict_keyiterator" = false:=by decide
 simp only [hown,Bool.false_eq_true,if_false];show wpAny _ _ (if (Value.ref d == Value.none)=true then _ else _) _ _ s;rw [if_neg (show ¬ ((Value.ref d == Value.none)=true) from yH)];refine qa (qc ?_);refine qa (wpAny_dictEntries hod hdd ?_);rw [if_neg (by simp)];refine qa (qc ?_);refine qa (wpAny_dictEpoch hod hdd ?_);rw [if_neg (by simp)];refine qc ?_;simp only [show ¬ ((es.size:Int)<0) from by omega,if_false,Int.toNat_natCast,Array.getElem?_eq_none (Nat.le_refl es.size)];refine qa ?_;first | refine qa (wpAny_typeNameOfWhole_keyiter hit.typeIs (qc ?_)) | refine qa (wpAny_typeNameOf_keyiter hit.typeIs (qc ?_))
 show wpAny _ _ (setField (.ref it) 0 .none >>= _) _ _ s;refine qa (wpAny_setField ho hd (by simp) ?_);show wpAny _ _ (newExc (.type "StopIteration") [] >>= _) _ _ _;refine qa ?_;simp only [newExc,newTuple];refine qa (yb ?_ (by size_fits));refine qa (m:=firstArgMember _ _) (wpAny_of_eq (a:=Value.none) (by first | rfl | (simp only [firstArgMember];rfl)) ?_);refine yb ?_ (by size_fits);simp only [raiseNew];refine qa (wpAny_handled ?_);rw [show A.in1.handled=none from hh];refine qa (qc (wpAny_throw ?_));refine qa (wpAny_isInstance (T := "StopIteration") (b:=true) ⟨_,qj _ rfl,rfl⟩ isSubtype_stop ?_);exact qc (hQ _ (((Heap.SameBut.update ..).extBut.push _).push _))
theorem qcp (hh:A.handled=none) {I:Addr}(hne:d≠I) :
  Walks prog w A I [I,d] [I] es.size (fun i v=>(es[i]?).map (·.key)=some v) (fun i h=>h.IsKeyIter I d i es.size ep/\RawD h d es ep) where
 sub:=fun b hb=>by simp at hb;simp [hb]
 frame:=fun _ _ _ st hk=>⟨st.1.at fun o e=>hk I (by simp) o e,st.2.at fun o e=>hk d (by simp) o e⟩
 item:=fun i s Q E hi st hQ=>by
  refine qd7 st.1 st.2 (Array.getElem?_eq_getElem hi) fun h' hit' hs'=>?_;exact hQ _ h' s.toks (by rw [Array.getElem?_eq_getElem hi];rfl) ⟨hit',st.2.at fun o e=>hs'.extBut d o hne e⟩ fun b o hb e=>hs'.extBut b o (fun h=>hb (by simp [h])) e
 done:=fun s Q E st hQ=>qgb hh st.1 st.2 fun h' he'=>hQ h' s.toks fun b o hb e=>he' b o (fun h=>hb (by simp [h])) e
 self:=fun _ _ _ _ st hQ=>wpAny_pyIter_keyiter st.1 hQ
end
section
variable {prog:Program}{w:World}{A:Around}{s:Shared}{R:Result->Shared->Prop}{d:Addr}{es:Array DictEntry}{ep:Nat}
theorem sub_dict_dict:isSubtype (.type "dict") (.type "dict")=pure true:=by rw [isSubtype_type];kernel_rfl
theorem YH (hh:A.handled=none) (S:Addr) (res:Value) (ca0:Nat) (hd:(d == sysModules)=false) (D:RawD s.heap d es ep) (hne:S≠d) (hS:s.heap.get? S=some { cls:=.type "list",data:=.seq #[] ca0 }) (hn:es.size<=sizeLine)
  (hR:∀ h' tk acc' c',(∀ b o,b<s.heap.objs.size->b≠S->s.heap.get? b=some o->h'.get? b=some o)->h'.get? S=some { cls:=.type "list",dict:=none,data:=.seq acc' c',slots:=#[] }->acc'.toList=es.toList.map (·.key)->R (.ok (.ret res)) { s with heap:=h',toks:=tk }) :
  wpAny (model prog w) A.in1 (Builtin.List.listExtendWith (.ref S) (.ref d) res)
   (fun fin s'=>match fin with | .done f=>R (.ok f) s' | .again c'=>c'.quiet=true/\codeAny (model prog w) A c' R s') (fun e s'=>R (.error e) s') s:=by
 have hT:s.TypeIs (.ref d) "dict" := D.typeIs;have hSlt:S<s.heap.objs.size:=qi hS;have hdlt:d<s.heap.objs.size:=let ⟨o,h1,_⟩:=D.ex;qi h1;unfold Builtin.List.listExtendWith;refine qa (wpAny_typeOf hT ?_);have h1:Builtin.List.listSameRef (.ref S) (.ref d)=false:=by simp [Builtin.List.listSameRef,hne]
 have h2:(Value.type "dict" == Value.type "list")=false:=by decide
 have h3:(Value.type "dict" == Value.type "tuple")=false:=by decide
 simp only [h1,h2,h3,Bool.or_false,Bool.false_eq_true,if_false];refine qa (qew hd D ?_);have kp1:∀ b o,s.heap.get? b=some o->(s.heap.push { cls:=.type "dict_keyiterator",data:=.fields #[.ref d,.int 0 0,.int es.size 0,.int ep 0] }).get? b=some o:=fun b o e=>qb _ e;have it1:(s.heap.push { cls:=.type "dict_keyiterator",data:=.fields #[.ref d,.int 0 0,.int es.size 0,.int ep 0] }).IsKeyIter s.heap.objs.size d 0 es.size ep:=⟨_,qj _ rfl,rfl,rfl⟩;generalize s.heap.push { cls:=.type "dict_keyiterator",data:=.fields #[.ref d,.int 0 0,.int es.size 0,.int ep 0] }=hh1 at kp1 it1 ⊢;have D1:RawD hh1 d es ep:=D.at fun o e=>kp1 _ _ e;have hT2:Shared.TypeIs { s with heap:=hh1 } (.ref d) "dict" := RawD.typeIs (s:={ s with heap:=hh1 }) D1;have hL2:=kp1 _ _ hS;refine qa (qH ?_);unfold Builtin.List.listLengthHint;refine qa (wpAny_specialOf hT2 F.slot_dict_len.lookup ?_);generalize hid:("dict.__len__" : String)=id0
 wp_delta
 rw [show splitId id0=some ("dict", "__len__") from by subst hid;decide +kernel];subst hid;refine qa (wpAny_isInstance (b:=true) hT2 sub_dict_dict ?_);refine qa (m:=typeOf (.ref d)) (wpAny_typeOf hT2 (qc ?_));show wpAny (model prog w) A.in1 (rule "list.extend.makes-room" >>= fun _=>Builtin.List.listTouch (.ref S) >>= fun _=>again (.builtin "list.extend.loop" ⟨[.ref S,.ref s.heap.objs.size,res],[]⟩)) _ _ _;refine qa (yV (qa ?_));show wpAny (model prog w) A.in1 (updateSeq S (·.push .none) >>= fun _=>updateSeq S (·.pop)) _ _ _;refine qa (ju hL2 rfl ?_);have hL3:=qQ (Obj.mapSeq (·.push Value.none)) hL2 rfl;refine ju (hz:=by seq_fits) hL3 rfl ?_;have hL4:=qQ (Obj.mapSeq (·.pop)) hL3 rfl;have oth:∀ b ob,b≠S->hh1.get? b=some ob->((hh1.update S (Obj.mapSeq (·.push Value.none))).update S (Obj.mapSeq (·.pop))).get? b=some ob :=
  fun b ob hb e=>(qJ _ _ (Ne.symm hb)).trans ((qJ _ _ (Ne.symm hb)).trans e)
 have hI:d≠s.heap.objs.size:=qg hdlt;have W:WalksS prog w A.in1 s.heap.objs.size [s.heap.objs.size,d] [s.heap.objs.size] (fun a b=>b=a) es.size (fun i v=>(es[i]?).map (·.key)=some v) (fun i s'=>s'.heap.IsKeyIter s.heap.objs.size d i es.size ep/\RawD s'.heap d es ep):=(qcp (A:=A.in1) hh hI).toS;refine qc ⟨plainId_quiet F.plain_extend_loop _,codeAny_extend_loopS W hn S (fun hm=>?_) _ es.size 0 _ _ _ rfl (qB _) ?_ hL4 (ItemsOf.nil _) fun s' acc' c' hm hS' hacc=>?_⟩
 .rcases List.mem_cons.mp hm with z | z
  .exact qg hSlt z
  .exact hne (qA.mp z)
 .exact ⟨it1.at fun o e=>oth _ _ (yi hSlt) e,D1.at fun o e=>oth _ _ (Ne.symm hne) e⟩
 .have kp:∀ b o,b<s.heap.objs.size->b≠S->s.heap.get? b=some o->s'.heap.get? b=some o:=fun b o hb hbS e=>by
   refine hm.heap b o (fun z=>?_) (oth b o hbS (kp1 _ _ e));rcases List.mem_cons.mp z with z | z
   .exact hbS z
   .exact qg hb (qA.mp z)
  have ea:acc'.toList=es.toList.map (·.key):=by
   apply List.ext_getElem?;intro i;rw [List.getElem?_map,qG,qG];cases z:acc'[i]? with
   | some v=>exact (hacc.2 i v z).symm
   | none =>
    have:acc'.size<=i:=by simpa using z
    rw [hacc.1] at this;rw [Array.getElem?_eq_none this];rfl
  have fin:=hR s'.heap s'.toks acc' c' kp hS' ea;obtain ⟨h',g',d',tk',os'⟩:=s';have e1:g'=s.gens:=hm.gens;have e2:d'=s.drawn:=hm.drawn;have e3:os'=s.os:=hm.os;subst e1;subst e2;subst e3;exact fin
theorem qez (hh:A.handled=none) (S:Addr) (hd:(d == sysModules)=false) (D:RawD s.heap d es ep) (hne:S≠d) (hS:s.heap.get? S=some { cls:=.type "list",data:=.seq #[] }) (hn:es.size<=sizeLine)
  (hR:∀ h' tk acc' c',(∀ b o,b<s.heap.objs.size->b≠S->s.heap.get? b=some o->h'.get? b=some o)->h'.get? S=some { cls:=.type "list",dict:=none,data:=.seq acc' c',slots:=#[] }->acc'.toList=es.toList.map (·.key)->R (.ok (.ret .none)) { s with heap:=h',toks:=tk }) :
  wpAny (model prog w) A.in1 (Builtin.«list.__init__» ⟨[.ref S,.ref d],[]⟩)
   (fun fin s'=>match fin with | .done f=>R (.ok f) s' | .again c'=>c'.quiet=true/\codeAny (model prog w) A c' R s') (fun e s'=>R (.error e) s') s:=by
 show wpAny _ A.in1 (do let old <- Builtin.List.listItems (.ref S);Builtin.List.listUpdate (.ref S) (fun _=>#[]);letGo old.toList.reverse;Builtin.List.listExtendWith (.ref S) (.ref d) .none) _ _ s;refine qa ?_;unfold Builtin.List.listItems;refine qa (qO hS rfl (qc ?_));show wpAny _ A.in1 (updateSeq S (fun _=>#[]) >>= fun _=>letGo (#[]:Array Value).toList.reverse >>= fun _=>Builtin.List.listExtendWith (.ref S) (.ref d) .none) _ _ s;refine qa (ju hS rfl ?_);have haS2:=qQ (Obj.mapSeq (fun _=>(#[]:Array Value))) hS rfl;have oth:∀ b o,b≠S->s.heap.get? b=some o->(s.heap.update S (Obj.mapSeq (fun _=>(#[]:Array Value)))).get? b=some o :=
  fun b o hb e=>(qJ _ _ (Ne.symm hb)).trans e
 have hsz:(s.heap.update S (Obj.mapSeq (fun _=>(#[]:Array Value)))).objs.size=s.heap.objs.size:=Heap.size_update ..;refine qa (jc ?_);refine YH hh S .none _ hd (D.at fun o e=>oth _ _ (Ne.symm hne) e) hne haS2 hn fun h' tk acc' c' kp hS' ea=>?_;exact hR h' tk acc' c' (fun b o hb hbS e=>kp b o (by rw [hsz];exact hb) hbS (oth b o hbS e)) hS' ea
theorem qei {E:Value->Shared->Prop}{Q:Value->Shared->Prop}(hh:A.handled=none) (hd:(d == sysModules)=false) (D:RawD s.heap d es ep) (hn:es.size<=sizeLine)
  (hQ:∀ h' tk acc' c',(∀ b o,s.heap.get? b=some o->h'.get? b=some o)->h'.get? s.heap.objs.size=some { cls:=.type "list",dict:=none,data:=.seq acc' c',slots:=#[] }->acc'.toList=es.toList.map (·.key)->Q (.ref s.heap.objs.size) { s with heap:=h',toks:=tk }) :
  wpAny (model prog w) A (call (.type "list") [.ref d]) Q E s:=by
 have hdlt:d<s.heap.objs.size:=let ⟨o,h1,_⟩:=D.ex;qi h1;refine callType_codes (Q₁:=fun obj sa1=>obj = .ref s.heap.objs.size/\sa1={ s with heap:=s.heap.push { cls:=.type "list",data:=.seq #[] } }) F.called_list (F.typeCall_list_1 _) F.entry_list_init
  (code_list_new _ ⟨rfl,rfl⟩) fun obj sa1 hd1=>?_
 obtain ⟨rfl,rfl⟩:=hd1;have hS:(s.heap.push { cls:=.type "list",data:=.seq #[] }).get? s.heap.objs.size=some { cls:=.type "list",data:=.seq #[] }:=qj _ rfl;have hsz:(s.heap.push { cls:=.type "list",data:=.seq #[] }).objs.size=s.heap.objs.size+1:=qV ..;refine ⟨⟨_,hS,rfl⟩,F.args_list_init_2 _ _,qez (A:=A.in1) hh _ hd (D.at fun o e=>qb _ e) (yi hdlt) hS hn fun h' tk acc' c' kp hS' ea=>?_⟩;exact ⟨rfl,hQ h' tk acc' c' (fun b o e=>kp b o (by show b<(s.heap.push _).objs.size;rw [hsz];exact qT (qi e)) (qg (qi e)) (qb _ e)) hS' ea⟩
end
end L2
namespace L2
open PySem PySem.Spec PyProof.Rows PySem.W PySem.SetTable
theorem qem {Z:Type}{m n fi mv:Nat}(F:Full m) {ld pl:Bool}{es:Array (Int×Z)}(hn:es.size=n) (hm:n<=m+1) {t:SetTable}{order:Array Nat}(e:laid m fi mv ld pl (es.map (·.1))=some (t,order)):order.toList.Perm (List.range n):=by
 obtain ⟨owner,eo,W⟩:=qbs F (hs:=fun i=>((es.map (·.1)).getD i 0)) (es.map (·.1)).toList (Array.replicate (m+1) none) 0 (OW.init m _) (fun i h e=>by rw [Nat.zero_add,Array.getD_eq_getD_getElem?,<- qG,e];rfl) (by simp;omega);have hlen:(es.map (·.1)).toList.length=n:=by simp [hn]
 rw [Nat.zero_add,hlen] at eo W;unfold laid at e;rw [YB,<- Array.foldl_toList,eo] at e;have e:some ((⟨m,_,#[],fi,ld,mv,pl⟩:SetTable),(((List.range (m+1)).filterMap fun j=>(owner.getD j none).map (j,·)).map (·.2)).toArray)=some (t,order):=e;have e2:=(Prod.mk.inj (Option.some.inj e)).2;have ei:order.toList=qf6 m owner:=by
  rw [<- e2,List.toList_toArray,List.map_filterMap];unfold qf6;congr 1;funext j
  cases owner.getD j none <;> rfl
 rw [ei];refine (List.perm_ext_iff_of_nodup W.nodup List.nodup_range).mpr fun q=>?_;have lt:∀ x∈qf6 m owner,x<n:=fun x hx=>by
  obtain ⟨j,_,e⟩:=List.mem_filterMap.mp hx;exact (W.own j x (Jw.mp e)).1
 exact ⟨fun h=>List.mem_range.mpr (lt q h),fun h=>qar W.nodup lt W.len q (List.mem_range.mp h)⟩
def EntN (e:Int×Value) (k:Int):Prop:=(∃ u,e.2 = .int k u)/\e.1=hashInt k
structure SetND (w:World) (h:Heap) (a:Addr) (o:Obj) (es:Array (Int×Value)) (ep:Nat) (t:SetTable) (m:Nat) (ks:List Int):Prop where
 ho:h.get? a=some o
 ex:o.ExactSet
 hd:o.data = .set es ep t
 pl:t.plain=true
 ld:t.led=!jr w
 mok:js m es.size
 tab:Tab t m es.size
 en:PySem.Paired EntN es.toList ks
 nd:ks.Nodup
def qfb (w:World) (h:Heap) (a:Addr) (ks:List Int):Prop:=∃ o es ep t m,SetND w h a o es ep t m ks
theorem qfb.at {w:World}{h h':Heap}{a:Addr}{ks:List Int}(S:qfb w h a ks) (k:∀ o,h.get? a=some o->h'.get? a=some o):qfb w h' a ks:=by
 obtain ⟨o,es,ep,t,m,D⟩:=S;exact ⟨o,es,ep,t,m,k _ D.ho,D.ex,D.hd,D.pl,D.ld,D.mok,D.tab,D.en,D.nd⟩
theorem qeD {t:SetTable}{m n:Nat}(T:Tab t m n) (mo:js m n) (h:Int):∃ j,t.freeSlot h=some (j,false)/\¬ Fl t j/\j<=m:=by
 obtain ⟨q,q1,q2⟩:=T.free (qP mo.le.1);obtain ⟨K,K1,K2⟩:=mo.full.walk h q1;obtain ⟨x,x1,x2,x3,x4⟩:=T.probe_go (hashAt:=fun _=>h+1) (h:=h) (K:=K) (by rw [K2];exact q2) (10 * turns t.mask) 0 (qB _) (by rw [T.mask];unfold turns;omega);rcases x4 with ⟨n1,n2⟩ | ⟨i,e1,e2,_⟩
 .refine ⟨_,?_,n1,qdb _ _ _⟩;unfold SetTable.freeSlot;rw [qbM,T.mask];have pe:t.probe (fun _=>h+1) h (stp m h 0)=some (.empty (stp m h x).j none):=n2;rw [pe];rfl
 .omega
section
variable {prog:Program}{w:World}{A:Around}{E:Value->Shared->Prop}{s:Shared}{a:Addr}{o:Obj}{es:Array (Int×Value)}{ep:Nat}{t:SetTable}{m:Nat}{ks:List Int}
theorem Zp {n:Nat}(T:Tab t m n) (mo:n<=m):t.fits n=true:=by
 unfold SetTable.fits SetTable.fill;rw [T.dm,T.size,T.mask];simp;omega
theorem SetND.fits (D:SetND w s.heap a o es ep t m ks):t.fits es.size=true:=Zp D.tab (qP D.mok.le.1)
theorem SetND.len (D:SetND w s.heap a o es ep t m ks):ks.length=es.size:=by
 have:=PySem.Paired.length D.en;rw [Array.length_toList] at this;exact this.symm
theorem SetND.els (D:SetND w s.heap a o es ep t m ks):ElemsOf (intKind prog w) es.toList:=fun e he=>by
 obtain ⟨i,ei⟩:=qI he;obtain ⟨k,_,⟨u,e1⟩,e2⟩:=L2.Paired.get D.en ei;refine ⟨⟨k,?_,e2⟩,by rw [e1];rfl⟩;rw [e1];exact intKind_is prog w k u
theorem SetND.toB (D:SetND w s.heap a o es ep t m ks):SetB w s.heap a o es ep t m:=⟨D.ho,D.ex,D.hd,D.fits,D.pl,D.ld,D.tab⟩
theorem qam {Z β:Type}{R:Z->β->Prop}{xs xs':List Z}(p:xs.Perm xs') {ys:List β}(h:PySem.Paired R xs ys):∃ ys',PySem.Paired R xs' ys'/\ys.Perm ys':=Jv p h
theorem qdG {wanted m':Nat}(hw:sizeAbove wanted=m'+1) (mo:js m' es.size):∃ es' t',relayAll t es wanted=(es',t',false)/\t'.led=t.led/\t'.plain=t.plain/\Tab t' m' es.size/\es'.toList.Perm es.toList/\es'.size=es.size:=by
 have hle:=mo.le;obtain ⟨t',order,e1,e2,e3,e4,e5,e6,e7⟩:=qen (m:=m') (n:=es.size) (fi:=t.finger) (mv:=t.movedTo (sizeAbove wanted - 1)) (ld:=t.led) (pl:=t.plain) mo.full (es:=es) rfl (by omega);have op:=qem mo.full (es:=es) rfl (by omega) e1;have er:t.relaid (es.map (·.1)) wanted=some (t',order):=by
  unfold SetTable.relaid;rw [show sizeAbove wanted - 1=m' by omega] at e1 ⊢;exact e1
 have hf:t'.fits (order.filterMap (es[·]?)).size=true:=by rw [e4];exact Zp e5.tab (qP hle.1)
 have hc:coversAll order es.size=true:=by unfold coversAll;exact List.isPerm_iff.mpr op
 have eq:relayAll t es wanted=(order.filterMap (es[·]?),t',false):=by
  unfold relayAll;rw [er];dsimp only;rw [hc,hf];rfl
 refine ⟨_,t',eq,e2,e3,e5.tab,?_,e4⟩;have:=relayAll_perm t es wanted;rw [eq] at this;exact this
theorem qfw (S:qfb w s.heap a ks) {k:Int}{u:Tok}(hn:ks.length<4000) {Q:Bool->Shared->Prop}(hin:k∈ks->Q false s)
  (hout:k∉ks->∀ h' ks',Heap.SameBut a s.heap h'->qfb w h' a ks'->(∀ q,q∈ks' ↔ q=k\/q∈ks)->Q true { s with heap:=h' }):wpAny (model prog w) A (setAddHashed a (.int k u) (hashInt k)) Q E s:=by
 obtain ⟨o,es,ep,t,m,D⟩:=S;have T:=D.tab;have hl:=D.len;have hle:=D.mok.le;have hel:=D.els (prog:=prog);have hb:es.size<scanBound:=by unfold scanBound;omega
 have hkey:=intKind_is prog w k u;unfold setAddHashed setAddHashedIn;refine qH (qa (yN D.ho D.hd D.fits ?_));dsimp only;rw [byScan_of (x:=.int k u) rfl hb hel];simp only [↓reduceIte];unfold setAddByScan;refine qa ?_;refine qa (yV ?_);refine qa (wpAny_setScan_of (knd:=intKind prog w) hkey D.ho D.hd D.fits hel ?_);cases hr:List.findIdx? (fun e=>(intKind prog w).is k e.2) es.toList with
 | some j =>
  dsimp only;obtain ⟨hj,hpj,_⟩:=List.findIdx?_eq_some_iff_getElem.mp hr;refine qc (qc (hin ?_));obtain ⟨k',ek,⟨u',e1⟩,_⟩:=L2.Paired.get D.en (List.getElem?_eq_getElem hj);rw [e1] at hpj;have:=(intKind prog w).inj _ _ _ hpj (intKind_is prog w k' u');rw [this];exact List.mem_of_getElem? ek
 | none =>
  dsimp only;have no:k∉ks:=fun hm=>by
   obtain ⟨i,ei⟩:=qI hm;obtain ⟨e,he,⟨u',e1⟩,_⟩:=L2.Paired.get' D.en ei;have:=List.findIdx?_eq_none_iff.mp hr e (List.mem_of_getElem? he);rw [e1,intKind_is] at this;cases this
  obtain ⟨j,j1,j2,j3⟩:=qeD T D.mok (hashInt k);obtain ⟨T1,p2,p3⟩:=T.put j2 j3;have hb2:below t.place j<=es.size:=by rw [<- T.size];exact (jN T.rise j).2.2
  have sz1:(insertAt es (t.put j).2 (hashInt k,Value.int k u)).size=es.size+1:=by rw [p2,JF hb2]
  have fits1:(t.put j).1.fits (es.size+1)=true:=Zp T1 (by omega);have eL:layNew t es (hashInt k) (.int k u)=(insertAt es (t.put j).2 (hashInt k,Value.int k u),(t.put j).1,false,false):=by
   unfold layNew;rw [j1];dsimp only;unfold SetTable.orStandIn;rw [sz1,fits1];rfl
  have pl1:(t.put j).1.plain=true:=D.pl;have le1:(t.put j).1.led=!jr w:=D.ld;have en1:PySem.Paired EntN (insertAt es (t.put j).2 (hashInt k,Value.int k u)).toList (ks.take (below t.place j)++k::ks.drop (below t.place j)):=by
   rw [p2,ZM hb2];exact JR _ D.en ⟨⟨u,rfl⟩,rfl⟩
  have nd1:=qaq (p:=below t.place j) D.nd no;have hash:(intKind prog w).hash k=hashInt k:=rfl;rw [eL];generalize (t.put j).1=t1 at *;generalize insertAt es (t.put j).2 (hashInt k,Value.int k u)=es1 at *;generalize hk1:ks.take (below t.place j)++k::ks.drop (below t.place j)=ks1 at *;have mem1:∀ q,q∈ks1 ↔ q=k\/q∈ks:=fun q=>by rw [<- hk1];exact qbn
  dsimp only;refine qa (qc ?_);rw [pl1];simp only [↓reduceIte];refine qa ?_;rw [hashByValue_scannable 8 (x:=.int k u) rfl];refine qc ?_;simp only [plainKind,↓reduceIte];refine qa (wpAny_storeSet_of D.ho D.hd ?_ (by rw [sz1,sizeLine_eq];omega));have sb:Heap.SameBut a s.heap (s.heap.update a (Obj.putSet es1 t1)):=Heap.SameBut.update s.heap a _;have g1:=JG D.ho D.hd es1 t1;generalize s.heap.update a (Obj.putSet es1 t1)=h1 at *;have tf:t1.tooFull=decide ((es.size+1) * 5 ≥ m * 3):=by
   unfold SetTable.tooFull SetTable.fill;rw [T1.dm,T1.size,T1.mask];rfl
  rw [tf];simp only [Bool.not_false,Bool.true_and,decide_eq_true_eq];by_cases c:(es.size+1) * 5 ≥ m * 3
  .rw [if_pos c];have big:∃ m',sizeAbove (grown (es.size+1))=m'+1/\js m' (es.size+1):=by
    rcases D.mok with ⟨rfl,hlt⟩ | ⟨rfl,hlt⟩ | ⟨rfl,hlt⟩ | ⟨rfl,hlt⟩ | ⟨rfl,hlt⟩ | ⟨rfl,hlt⟩
    .have:es.size=4:=by omega
     rw [this];exact ⟨31,by decide,.inr (.inl ⟨rfl,by omega⟩)⟩
    .have:es.size=18:=by omega
     rw [this];exact ⟨127,by decide,.inr (.inr (.inl ⟨rfl,by omega⟩))⟩
    .have:es.size=76:=by omega
     rw [this];exact ⟨511,by decide +kernel,.inr (.inr (.inr (.inl ⟨rfl,by omega⟩)))⟩
    .have:es.size=306:=by omega
     rw [this];exact ⟨2047,by decide +kernel,.inr (.inr (.inr (.inr (.inl ⟨rfl,by omega⟩))))⟩
    .have:es.size=1228:=by omega
     rw [this];exact ⟨8191,by decide +kernel,.inr (.inr (.inr (.inr (.inr ⟨rfl,by omega⟩))))⟩
    .omega
   obtain ⟨m',w1,w2⟩:=big;rw [<- sz1] at w1 w2;obtain ⟨es2,t2,er,le2,pl2,T2,pm,sz2⟩:=qdG (t:=t1) w1 w2;rw [er];dsimp only;obtain ⟨ks2,en2,pk⟩:=qam pm.symm en1;refine qa (qc ?_);refine qa (wpAny_storeSet_of (s:={ s with heap:=h1 }) g1 rfl ?_ (by rw [sz2,sz1,sizeLine_eq];omega));have sb2:Heap.SameBut a h1 (h1.update a (Obj.putSet es2 t2)):=Heap.SameBut.update h1 a _;have g2:=JG (s:={ s with heap:=h1 }) g1 rfl es2 t2;refine qc (qc (hout no _ ks2 (sb.trans sb2) ⟨_,es2,_,t2,m',g2,⟨D.ex.1,D.ex.2.1,D.ex.2.2⟩,rfl,by rw [pl2];exact pl1,by rw [le2];exact le1,by rw [sz2];exact w2,by rw [sz2];exact T2,en2,pk.nodup_iff.mp nd1⟩ fun q=>?_));rw [<- pk.mem_iff];exact mem1 q
  .rw [if_neg c];refine qc (qc (hout no h1 ks1 sb ⟨_,es1,ep+1,t1,m,g1,⟨D.ex.1,D.ex.2.1,D.ex.2.2⟩,rfl,pl1,le1,?_,by rw [sz1];exact T1,en1,nd1⟩ mem1));rw [sz1];rcases D.mok with ⟨rfl,hlt⟩ | ⟨rfl,hlt⟩ | ⟨rfl,hlt⟩ | ⟨rfl,hlt⟩ | ⟨rfl,hlt⟩ | ⟨rfl,hlt⟩
   .exact .inl ⟨rfl,by omega⟩
   .exact .inr (.inl ⟨rfl,by omega⟩)
   .exact .inr (.inr (.inl ⟨rfl,by omega⟩))
   .exact .inr (.inr (.inr (.inl ⟨rfl,by omega⟩)))
   .exact .inr (.inr (.inr (.inr (.inl ⟨rfl,by omega⟩))))
   .exact .inr (.inr (.inr (.inr (.inr ⟨rfl,by omega⟩))))
end
end L2
namespace L2
open PySem PySem.Spec PyProof.Rows PySem.W PySem.SetTable
section
variable {prog:Program}{w:World}{A:Around}{R:Result->Shared->Prop}{I:Addr}{fp wr:List Addr}{n:Nat}{P:Nat->Value->Prop}{St:Nat->Shared->Prop}
theorem qdj {key:Nat->Int}(W:WalksS prog w A.in1 I fp wr (fun a b=>b=a) n P St) {S:Addr}(hSf:S∉fp) (hval:∀ i v,P i v->∃ u,v = .int (key i) u) (hn:n<4000) :
  ∀ (k i:Nat) (s:Shared) (ks:List Int),n - i=k->i<=n->St i s->qfb w s.heap S ks->(∀ q,q∈ks ↔ ∃ j,j<i/\key j=q)->ks.length<=i →
   (∀ s' ks',Moved (S::wr) (fun a b=>b=a) s s'->qfb w s'.heap S ks'->(∀ q,q∈ks' ↔ ∃ j,j<n/\key j=q)->R (.ok (.ret .none)) s') →
   codeAny (model prog w) A (.builtin "set.update.loop" ⟨[.ref S,.ref I],[]⟩) R s:=by
 have hSw:S∉wr:=fun h=>hSf (W.sub _ h);have hsub:∀ b∈wr,b∈S::wr:=fun b hb=>qf _ hb;intro k;induction k with
 | zero =>
  intro i s ks hk hi hst hS hmem hlen hR;have hin:i=n:=by omega
  subst hin;refine codeAny_builtin F.entry_set_update_loop ?_;rw [Around.under_plainId F.plain_set_update_loop _];refine qa (m:=pyNext (.ref I)) (W.done s _ _ hst fun s' hm=>?_);exact qc (hR s' ks (hm.mono hsub) (hS.at fun o e=>hm.heap S o hSw e) hmem)
 | succ k ih =>
  intro i s ks hk hi hst hS hmem hlen hR;have hlt:i<n:=by omega
  refine codeAny_builtin F.entry_set_update_loop ?_;rw [Around.under_plainId F.plain_set_update_loop _];refine qa (m:=pyNext (.ref I)) (W.item i s _ _ hlt hst fun v s' hP hst' hm=>?_);have hS':=hS.at fun o e=>hm.heap S o hSw e;obtain ⟨u,rfl⟩:=hval i v hP;refine qa (m:=holding [Value.int (key i) u] (setAdd S (.int (key i) u))) (qH ?_);unfold setAdd;refine qH ?_;refine qa ((intKind prog w).pyHash (k:=key i) (intKind_is _ _ _ _) ?_);refine qfw (s:={ s' with toks:=s'.toks+1 }) hS' (by omega) (fun hin=>?_) fun hout h' ks' sb S2 mem2=>?_
  .refine qc ⟨plainId_quiet F.plain_set_update_loop _,ih (i+1) _ ks (by omega) hlt (W.frame _ s' s'.heap _ hst' (by omega) fun b hb o e=>e) hS' (fun q=>?_) (by omega) fun s'' ks'' hm'' S'' mem''=>?_⟩
   .rw [hmem q];constructor
    .rintro ⟨j,hj,e⟩;exact ⟨j,by omega,e⟩
    .rintro ⟨j,hj,e⟩;by_cases c:j<i
     .exact ⟨j,c,e⟩
     .have:j=i:=by omega
      subst this;rw [e] at hin;exact (hmem q).mp hin
   .exact hR s'' ks'' (Moved.trans W.gtrans ((hm.mono hsub).then_heap (h':=s'.heap) (tk:=s'.toks+1) (by omega) fun b o hb e=>e) hm'') S'' mem''
  .have hl':ks'.length<=i+1:=by
    obtain ⟨_,_,_,_,_,D2⟩:=S2;have:ks'.length<=(key i::ks).length:=List.Nodup.length_le_of_subset D2.nd fun q hq=>by
     rcases (mem2 q).mp hq with rfl | z
     .exact qe
     .exact qf _ z
    simp only [List.length_cons] at this;omega
   refine qc ⟨plainId_quiet F.plain_set_update_loop _,ih (i+1) _ ks' (by omega) hlt (W.frame _ s' h' (s'.toks+1) hst' (by omega) fun b hb o e=>?_) S2 (fun q=>?_) hl' fun s'' ks'' hm'' S'' mem''=>?_⟩
   .rw [sb.2 b (fun h:b=S=>hSf (by rw [<- h];exact hb))];exact e
   .rw [mem2 q,hmem q];constructor
    .rintro (rfl | ⟨j,hj,e⟩)
     .exact ⟨i,by omega,rfl⟩
     .exact ⟨j,by omega,e⟩
    .rintro ⟨j,hj,e⟩;by_cases c:j<i
     .exact .inr ⟨j,c,e⟩
     .have:j=i:=by omega
      subst this;exact .inl e.symm
   .refine hR s'' ks'' (Moved.trans W.gtrans ((hm.mono hsub).then_heap (h':=h') (tk:=s'.toks+1) (by omega) fun b o hb e=>?_) hm'') S'' mem'';rw [sb.2 b (fun h:b=S=>hb (by rw [h];exact qe))];exact e
end
theorem qd6 {w:World}{h:Heap}{a:Addr}(e:h.get? a=some (jI w)):qfb w h a [] :=
 ⟨_,#[],0,_,7,e,⟨rfl,rfl,rfl⟩,rfl,rfl,rfl,.inl ⟨rfl,by decide⟩,⟨rfl,rfl,rfl,qaj,fun i j z=>by simp [SetTable.fresh] at z⟩,.nil,List.nodup_nil⟩
section
variable {prog:Program}{w:World}{A:Around}{E:Value->Shared->Prop}{s:Shared}
theorem qdm {l:Addr}{vs:List Value}{ns:List Int}{Q:Value->Shared->Prop}(hh:A.handled=none) (hl:s.heap.IsList l vs.toArray) (hT:IntsAre vs ns) (hn:ns.length<4000)
  (h:∀ h' tk ms,qfb w h' s.heap.objs.size ms->(∀ q,q∈ms ↔ q∈ns)->jg s.heap h'->Q (.ref s.heap.objs.size) { s with heap:=h',toks:=tk }):wpAny (model prog w) A (call (.type "set") [.ref l]) Q E s:=by
 obtain ⟨c,tl,hmro⟩:=F.called_set.mro;have made:=F.called_set.made;have sub:=F.called_set.sub;refine wpAny_call (codeAny_of_tree ?_);show wpAny (model prog w) _ (callAny (.type "set") _) _ _ s;refine qc ⟨Code.quiet_builtin _ (by decide +kernel),codeAny_builtin F.entry_type_call ?_⟩;rw [Around.under_plain (weight_type_call_type "set" [Value.ref l] []) rfl];have t1:=F.called_set.notType;have t2:=F.called_set.canCreate;have t3:=F.typeCall_set_1 (Value.ref l)
 repeat (any_goals first | assumption | wp_step)
 refine codeAny_mono (qbQ (prog:=prog) (.ref l) (E:=E) (Q₁:=fun v sa1=>v = .ref s.heap.objs.size/\sa1={ s with heap:=s.heap.push (jI w) }) ⟨rfl,rfl⟩) fun r sa1 hr=>?_;cases r with
 | error e=>exact hr
 | ok fl =>
  cases fl with
  | next=>exact hr.elim
  | brk=>exact hr.elim
  | cont=>exact hr.elim
  | ret v =>
   obtain ⟨rfl,rfl⟩:=hr;have hS:(s.heap.push (jI w)).get? s.heap.objs.size=some (jI w):=qj _ rfl;have hTy:Shared.TypeIs { s with heap:=s.heap.push (jI w) } (.ref s.heap.objs.size) "set" := ⟨_,hS,rfl⟩;have i1:=F.called_set.init.lookup;have i2:=F.called_set.init.bind (.ref s.heap.objs.size)
   repeat (any_goals first | assumption | wp_step)
   refine codeAny_mono (codeAny_call_builtin (R:=wants (fun r sa2=>r = .none/\∃ h' tk ms,sa2={ s with heap:=h',toks:=tk }/\qfb w h' s.heap.objs.size ms/\(∀ q,q∈ms ↔ q∈ns)/\jg s.heap h') E)
    F.called_set.init.plain F.entry_set_init (check_set_init_1 hTy ?_)) fun ra2 sa2 har2=>?_
   .obtain ⟨ol,hol,hcl,nl,hdl⟩:=hl;obtain ⟨ocls,odict,odata,oslots⟩:=ol;simp only at hcl hdl;subst hcl;subst hdl;have hlt:l<s.heap.objs.size:=qi hol;have hol1:(s.heap.push (jI w)).get? l=some { cls:=.type "list",dict:=odict,data:=.seq vs.toArray nl,slots:=oslots }:=qb _ hol;have s1:=F.sub_list_set;have s2:=F.sub_list_frozenset;have s3:(Value.type "list" == Value.type "dict")=false:=by decide
    have hl1:(s.heap.push (jI w)).IsList l vs.toArray:=⟨_,hol1,rfl,nl,rfl⟩;unfold Builtin.«set.__init__» noKeywords Builtin.Frozenset.updateFrom;generalize hPI:pyIter=PI
    wp_walk
    subst hPI;refine jv hl1 (qa (wpAny_runValue ?_));have sz1:(s.heap.push (jI w)).objs.size=s.heap.objs.size+1:=qV ..;have kp2:jg s.heap ((s.heap.push (jI w)).push { cls:=.type "list_iterator",data:=.fields #[.ref l,.int 0 0] }):=fun b o e=>qb _ (qb _ e);have hvn:vs.length=ns.length:=IntsAre.length hT;refine qdj (A:=A.in1.in1) (key:=fun i=>ns.getD i 0) (Walks.list (by simp [hh]) _ l (by rw [sz1];exact qg (qT hlt)) vs.toArray).toS (S:=s.heap.objs.size) ?_
     (fun i v hv=>IntsAre.int_at hT i v (by simpa using hv)) (by rw [List.size_toArray,hvn];exact hn) (vs.toArray.size - 0) 0 _ [] rfl (qB _) ⟨⟨_,qj _ rfl,rfl,rfl⟩,hl1.push _⟩ (qd6 (qb _ hS)) (fun q=>by simp) (qB _) fun s' ms hm S2 mem2=>?_
    .rw [sz1];simp only [List.mem_cons,List.not_mem_nil,or_false,not_or];exact ⟨qg (qZ _),yi hlt⟩
    .obtain ⟨h',g',d',tk',os'⟩:=s';have e1:g'=s.gens:=hm.gens;have e2:d'=s.drawn:=hm.drawn;have e3:os'=s.os:=hm.os;subst e1;subst e2;subst e3;refine qc ?_;refine qc ⟨rfl,h',tk',ms,rfl,S2,fun q=>?_,fun b o e=>?_⟩
     .rw [mem2 q,List.size_toArray,hvn];constructor
      .rintro ⟨j,hj,e⟩;rw [List.getD_eq_getElem?_getD,List.getElem?_eq_getElem hj] at e;exact e ▸ qy hj
      .intro hq;obtain ⟨j,hj,e⟩:=List.getElem_of_mem hq;exact ⟨j,hj,by rw [List.getD_eq_getElem?_getD,List.getElem?_eq_getElem hj];exact e⟩
     .have hb:b<s.heap.objs.size:=qi e;refine hm.heap b o (fun z=>?_) (kp2 b o e);rcases List.mem_cons.mp z with z | z
      .exact qg hb z
      .rw [qA.mp z,sz1] at hb;exact absurd hb (Nat.not_lt.mpr (Nat.le_succ _))
   .cases ra2 with
    | error e=>exact har2
    | ok fl2 =>
     cases fl2 with
     | next=>exact har2.elim
     | brk=>exact har2.elim
     | cont=>exact har2.elim
     | ret r =>
      obtain ⟨rfl,h',tk,ms,rfl,q1,q2,q3⟩:=har2
      repeat (any_goals first | assumption | wp_step)
      exact h _ _ _ q1 q2 q3
theorem Y3 {x:Value}{R:List Int->Prop}{Q:Value->Shared->Prop}(hcol:∀ E',wpAny (model prog w) A.in1 (collect x) (fun vs s1=>∃ h1 tk ns,s1={ s with heap:=h1,toks:=tk }/\jg s.heap h1/\IntsAre vs ns/\vs.length<64/\R ns) E' s)
  (h:∀ ns ns' (out:Array Value) h' tk D e,R ns->IntsAre out.toList ns'->ns'.Perm ns->ns'.Pairwise (· <= ·)->ns'.length<64->jg s.heap h'->s.heap.get? D=none->h'.get? D=some (seqObj "list" out e)->Q (.ref D) { s with heap:=h',toks:=tk }) :
  wpAny (model prog w) A (call (.builtin "sorted") [x]) Q E s:=by
 refine Calls.call_function_entry kind_sorted plain_sorted entry_sorted (args_sorted1 _) ?_;unfold Builtin.«sorted»;refine qa (m:=checkCount "sorted" 1 1 _) (qc (qa ?_));refine qp (hcol _) (fun vs s1 ⟨h1,tk,ns,e1,kp,hT,h64,hR⟩=>?_) fun _ _ z=>z;subst e1;have hn64:vs.length<=sizeLine:=by rw [sizeLine_eq];omega
 refine qa (wpAny_newList ?_ hn64);have hD:(h1.push (seqObj "list" vs.toArray 0)).get? h1.objs.size=some (seqObj "list" vs.toArray 0):=qj _ rfl;refine qa (qH (yf slot_list_sort ⟨_,hD,rfl⟩ entry_list_sort (list_sort_tree (s:={ s with heap:=h1.push (seqObj "list" vs.toArray 0),toks:=tk }) hD hT h64 fun out ns' a1 a2 a3=>⟨_,rfl,?_⟩) (args_list_sort _)));obtain ⟨e,he⟩:=sortedHeap_at (vs:=vs) (out:=out) hD;have kp2:jg h1 (sortedHeap (h1.push (seqObj "list" vs.toArray 0)) h1.objs.size vs out):=fun b o q1=>by
  have hlt:b<h1.objs.size:=qi q1;rw [sortedHeap_old (qg hlt) (by rw [size_push'];exact qT hlt)];exact qb _ q1
 refine qc ⟨_,rfl,h ns ns' out _ tk h1.objs.size e hR a1 a2 a3 ?_ (fun b o q=>kp2 b o (kp b o q)) ?_ he⟩
 .rw [a2.length_eq,<- IntsAre.length hT];exact h64
 .cases z:s.heap.get? h1.objs.size with
  | none=>rfl
  | some o =>
   have:=qi (kp _ _ z);exact absurd this (ye _)
end
theorem qaC:∀ {l:List (Int×Value)}{ks:List Int},PySem.Paired EntN l ks->IntsAre (l.map (·.2)) ks
 | _,_,.nil=>.nil
 | _,_,.cons ⟨⟨u,e⟩,_⟩ t=>by
  rw [List.map_cons,e];exact .cons _ _ (qaC t)
theorem JK:∀ {us:List Value}{ns:List Int},IntsAre us ns->yy (ns.map V.int) us
 | _,_,.nil=>.nil
 | _,_,.cons n t r=>.cons ⟨t,rfl⟩ (JK r)
def qdn (w:World) (a:Addr) (ks:List Int):HO:=.ext (fun h=>qfb w h a ks)
section
variable {X:Cx}{pins:List (Addr×Obj)}{σ:St}{H:Hp}{s:Shared}
def rSetN (X:Cx):List V->Hp->VK->Prop:=fun xs H Q=>∃ (p:Addr) (ns:List Int),xs=[.ref p]/\SqL X.K H p (ns.map V.int)/\ns.length<4000 ∧
 ∀ S ks,H S=none->(∀ q,q∈ks ↔ q∈ns)->ks.Nodup->Q (.ref S) (upd H S (qdn X.w S ks))
theorem qeZ (hc:X.calm=true):yG X (.type "set") (rSetN X):=by
 intro pins s σ H xs us Q I r h;obtain ⟨p,ns,rfl,hS,hl,q⟩:=h;obtain ⟨u,rfl,rx⟩:=Jt r;cases rx
 obtain ⟨its,rv,pl,_⟩:=I.list hS;refine qdm (I.ok.hd hc) pl.isList (qiM rv) hl fun h' tk ms S2 mem kp=>?_;have fr:H s.heap.objs.size=none:=I.hok.fresh (Nat.le_refl _);obtain ⟨o,es,ep,t,m,D⟩:=id S2;exact ⟨.ref s.heap.objs.size,_,I.laid (t':=tk) kp (Nat.le_refl _) (o:=qdn X.w s.heap.objs.size ms) ⟨S2,⟨o,D.ho⟩,fun h1 h2 p1 k=>p1.at k⟩,rfl,q _ ms fr mem D.nd⟩
def qj8 (X:Cx):List V->Hp->VK->Prop:=fun xs H Q=>∃ (S:Addr) (ks:List Int),xs=[.ref S]/\H S=some (qdn X.w S ks)/\ks.length<64 ∧
 ∀ (D:Addr) (ns:List Int),H D=none->ns.Perm ks->ns.Pairwise (· < ·)->Q (.ref D) (upd H D (.lst (ns.map V.int)))
theorem qh4:∀ {ns:List Int},ns.Pairwise (· <= ·)->ns.Nodup->ns.Pairwise (· < ·)
 | [],_,_=>.nil
 | a::l,h,n=>by
  obtain ⟨h1,h2⟩:=List.pairwise_cons.mp h;obtain ⟨n1,n2⟩:=List.nodup_cons.mp n;exact .cons (fun b hb=>by
   have:=h1 b hb;have:a≠b:=fun z=>n1 (z ▸ hb);omega) (qh4 h2 n2)
theorem qcO (hc:X.calm=true):yG X (.builtin "sorted") (qj8 X):=by
 intro pins s σ H xs us Q I r h;obtain ⟨S,ks,rfl,hS,hl,q⟩:=h;obtain ⟨u,rfl,rx⟩:=Jt r;cases rx
 obtain ⟨⟨o,es,ep,t,m,D⟩,_⟩:=I.hok S _ hS;have hz:=D.len;refine Y3 (R:=fun ns=>ks.Perm ns) (fun E'=>YM (by show X.A.handled=none;exact I.ok.hd hc) D.toB (by omega) fun h' tk kp=>?_) fun ns ns' out h' tk D' e hr a1 a2 a3 a4 kp hD he=>?_
 .obtain ⟨ms,m1,m2⟩:=Jv (JD X.w S ep es).symm D.en;refine ⟨h',tk,ms,rfl,kp,qaC m1,?_,m2⟩;rw [List.length_map,Array.length_toList,jR];omega
 .have pm:=a2.trans hr.symm;obtain ⟨hn,J⟩:=I.laidN (t':=tk) (o:=.lst (ns'.map V.int)) kp hD ⟨by rw [List.length_map,sizeLine_eq];omega,out.toList,e,JK a1,by rw [Array.toArray_toList];exact he⟩;exact ⟨.ref D',_,J,rfl,q D' ns' hn pm (qh4 a3 (pm.nodup_iff.mpr D.nd))⟩
variable {K:W.Frag}
def qgB (w:World) (ks:List Int):Stb where
 R v H:=∃ S,v = .ref S/\H S=some (qdn w S ks)
 st:=fun v H H' s ⟨S,e,h1⟩=>⟨S,e,s _ _ h1⟩
def qgO (w:World):RAd:=fun es U Q=>match es with
 | [e]=>∃ ns:List Int,LstOf U e (ns.map PyData.int)/\ns.length<4000/\∀ ks,(∀ q,q∈ks ↔ q∈ns)->ks.Nodup->Q (.x (qgB w ks)) U
 | _=>False
theorem qi1 {w:World}(hc:X.calm=true) (hK:X.K=K:=by rfl) (hw:X.w=w:=by rfl):yG X (.type "set") (upC K (qgO w)):=by
 subst hK hw;refine (qeZ hc).mono fun xs H Q h=>?_;obtain ⟨U,es,Q0,M,hp,q,cl⟩:=h;unfold qgO at q;split at q
 .obtain ⟨v,rfl,i1⟩:=j5 hp;obtain ⟨ns,h1,hl,q⟩:=q;obtain ⟨p,ys,rfl,h2,h3⟩:=h1.get M i1;rw [h3.ints_of] at h2;refine ⟨p,ns,rfl,h2,hl,fun S ks hS mem nd=>?_⟩;obtain ⟨M4,s4,hn⟩:=M.laid (o:=qdn X.w S ks) hS;refine cl _ U _ _ (q ks mem nd) M4 s4 ⟨S,rfl,?_⟩;rw [qX hn];exact qE
 .exact q.elim
def qhZ (w:World):RAd:=fun es U Q=>∃ ks,es=[.x (qgB w ks)]/\ks.length<64/\∀ ns:List Int,ns.Perm ks->ns.Pairwise (· < ·)->Q (.d (.list (ns.map .int))) U
theorem qgj {w:World}(hc:X.calm=true) (hK:X.K=K:=by rfl) (hw:X.w=w:=by rfl):yG X (.builtin "sorted") (upC K (qhZ w)):=by
 subst hK hw;refine (qcO hc).mono fun xs H Q h=>?_;obtain ⟨U,es,Q0,M,hp,q,cl⟩:=h;obtain ⟨ks,rfl,h64,q⟩:=q;obtain ⟨v,rfl,i1⟩:=j5 hp;obtain ⟨S,rfl,h1⟩:=i1;refine ⟨S,ks,rfl,yt _ _ h1,h64,fun D ns hD hp hs=>?_⟩;obtain ⟨M4,s4,hn⟩:=M.laid (o:=.lst (ns.map V.int)) hD;exact cl _ U _ _ (q ns hp hs) M4 s4 (.lst (SqL.of (by rw [qX hn];exact qE)) (IsAll.ints ns))
end
open PySem PySem.Spec PyProof.Rows
section
variable {X:Cx}{K:W.Frag}{tg:Expr}{pos:Pos}{es:List Expr}{tr:TAd}{te:TEd}
def qju (p:Addr) (as:List Addr):Itd:=⟨as.length,fun i=>.m (as.getD i 0),fun U=>(p,.refs as)∈U⟩
def diRf (te:TEd):TId:=fun ρ U Q=>te ρ U fun e U1=>∃ p as,e = .m p/\(p,MO.refs as)∈U1/\Q (qju p as) U1
theorem qby {l:Expr}(hl:DE K X l te) (hK:X.K=K:=by rfl):DI K X tg l (diRf te):=by
 subst hK;refine PI.mono (qdT hl) fun σ H R hq9=>?_;obtain ⟨ρ,U,Q0,hS,hM,h,cl⟩:=hq9;refine ⟨ρ,U,_,hS,hM,h,fun e U1 v H1 q M1 s1 i1=>?_⟩;obtain ⟨p,as,rfl,hL,q⟩:=q;have i1:v = .ref p:=i1;subst i1;have h1:H1 p=some (.lst (as.map V.ref)):=M1.ob p _ hL;refine ⟨p,rfl,⟨_,SqL.of h1⟩,cl _ U1 _ H1 q M1 s1 fun U' H' M' s' hok i=>?_⟩;have h3:H' p=some (.lst (as.map V.ref)):=M'.ob p _ hok;refine ⟨fun hi=>⟨⟨_,(as.map V.ref)[i]'(by rw [List.length_map];exact hi),SqL.of h3,List.getElem?_eq_getElem _⟩,?_⟩,fun hi=>⟨_,SqL.of h3,by rw [List.length_map];exact hi⟩⟩;rintro x H2 ⟨rfl,hx⟩;refine ⟨M',yd.refl _,?_⟩;have:=hx _ (SqL.of h3);have hi':i<as.length:=hi;rw [List.getElem?_map,List.getElem?_eq_getElem hi'] at this;show x = .ref (as.getD i 0);rw [List.getD_eq_getElem?_getD,List.getElem?_eq_getElem hi'];exact (Option.some.inj this).symm
end
theorem qkS {p:Addr}{as:List Addr}{g:TGd}{tb:TSd}{D:EndsD}{ρ:Rho}{U:Mu}(Pv:Nat->Rho->Mu->Prop) (h0:Pv 0 ρ U) (hok:∀ i ρ' U',Pv i ρ' U'->(p,MO.refs as)∈U')
  (hs:∀ i a ρ' U',as[i]?=some a->Pv i ρ' U'->g (.m a) ρ' U' fun ρ2 U2=>tb { D with nx:=Wks (Pv (i+1)),ct:=Wks (Pv (i+1)),bk:=D.nx } ρ2 U2) (hd:∀ ρ' U',Pv as.length ρ' U'->D.nx ρ' U') :
  ∃ Pv:Nat->Rho->Mu->Prop,Pv 0 ρ U/\(∀ i ρ' U',i<=(qju p as).n->Pv i ρ' U'->(qju p as).ok U') ∧
   (∀ i ρ' U',i<(qju p as).n->Pv i ρ' U'->g ((qju p as).item i) ρ' U' fun ρ2 U2=>tb { D with nx:=Wks (Pv (i+1)),ct:=Wks (Pv (i+1)),bk:=D.nx } ρ2 U2)/\∀ ρ' U',Pv (qju p as).n ρ' U'->D.nx ρ' U':=by
 refine ⟨Pv,h0,fun i ρ' U' _ q=>hok i ρ' U' q,fun i ρ' U' hi q=>?_,hd⟩;have hi:i<as.length:=hi;show g (.m (as.getD i 0)) ρ' U' _;rw [List.getD_eq_getElem?_getD,List.getElem?_eq_getElem hi];exact hs i _ ρ' U' (List.getElem?_eq_getElem hi) q
end L2
namespace L2
open PySem PySem.Spec PyProof.Rows PySem.W
section
variable {X:Cx}{K:W.Frag}
inductive DatR (U:Mu):En->PyData->Prop
 | d {e:En}{x:PyData}(h:DatOf U e x):DatR U e x
 | r2 {p a b:Addr}{ds es:List PyData}(h:(p,.refs [a,b])∈U) (ha:(a,.lst ds)∈U) (hb:(b,.lst es)∈U):DatR U (.m p) (.list [.list ds,.list es])
end
end L2
namespace L2
open PySem PySem.Spec PyProof.Rows PySem.W
section
variable {prog:Program}{w:World}{A:Around}{E:Value->Shared->Prop}{s:Shared}{d:Addr}{es:Array DictEntry}{ep:Nat}
theorem qaR {Q:List Value->Shared->Prop}(hh:A.handled=none) (hd:(d == sysModules)=false) (D:RawD s.heap d es ep) (hn:es.size<=sizeLine)
  (hQ:∀ h' tk,jg s.heap h'->Q (es.toList.map (·.key)) { s with heap:=h',toks:=tk }):wpAny (model prog w) A (collect (.ref d)) Q E s:=by
 have hdlt:d<s.heap.objs.size:=let ⟨o,h1,_⟩:=D.ex;qi h1;unfold collect;refine qa (wpAny_runValue (codeAny_builtin F.entry_proto_collect ?_));rw [Around.under_plainId F.plain_proto_collect _];refine qa (m:=newList []) (yb ?_);refine qc ⟨plainId_quiet F.plain_list_iadd _,codeAny_builtin F.entry_list_iadd ?_⟩;rw [Around.under_plainId F.plain_list_iadd _];have hL:(s.heap.push { cls:=.type "list",data:=.seq ([]:List Value).toArray }).get? s.heap.objs.size=some { cls:=.type "list",data:=.seq ([]:List Value).toArray }:=qj _ rfl;have kp1:jg s.heap (s.heap.push { cls:=.type "list",data:=.seq ([]:List Value).toArray }):=fun b ob e=>qb _ e;have sz1:(s.heap.push { cls:=.type "list",data:=.seq ([]:List Value).toArray }).objs.size=s.heap.objs.size+1:=qV ..;show wpAny (model prog w) A.in1 (Builtin.List.listExtendWith (.ref s.heap.objs.size) (.ref d) (.ref s.heap.objs.size)) _ _ { s with heap:=s.heap.push { cls:=.type "list",data:=.seq ([]:List Value).toArray } };refine qp (YH (R:=fun r s'=>match r with
  | .ok (.ret v)=>wpAny (model prog w) A (match v with
   | .ref a=>do
    let o <- load a
    match o.data with
    | .seq xs _=>pure xs.toList
    | _=>unsupported "internal:collect"
   | _=>unsupported "internal:collect") Q E s'
  | .ok _=>False
  | .error e=>E e s') (s:={ s with heap:=s.heap.push { cls:=.type "list",data:=.seq ([]:List Value).toArray } }) hh s.heap.objs.size (.ref s.heap.objs.size) 0 hd (D.at fun o e=>kp1 _ _ e) (yi hdlt) hL hn fun h' tk acc' c' kp hS' ea=>?_) (fun fin s' h=>?_) (fun e s' h=>h)
 .show wpAny _ A (load s.heap.objs.size >>= _) _ _ _;refine qa (wpAny_load hS' ?_);refine qc ?_;have:=hQ h' tk fun b o e=>kp b o (by rw [sz1];exact qT (qi e)) (qg (qi e)) (kp1 b o e);rw [<- ea] at this;exact this
 .cases fin with
  | done f=>cases f <;> exact h
  | again c=>exact h
end
section
variable {X:Cx}{K:W.Frag}
def dkV (kls:List (Int×Addr)):List (Key×V):=kls.map fun p=>(Sum.inl p.1,V.ref p.2)
theorem qbw (kls:List (Int×Addr)) (k:Int):qcq (dkV kls) (Sum.inl k:Key)=(kls.find? fun p=>decide (p.1=k)).map fun p=>V.ref p.2:=by
 induction kls with
 | nil=>rfl
 | cons p t ih =>
  unfold dkV at *;rw [List.map_cons];by_cases h:p.1=k
  .rw [Yh (by rw [h]),List.find?_cons_of_pos (by simpa using h)];rfl
  .rw [Yi (fun z=>h (Sum.inl.inj z)),List.find?_cons_of_neg (by simpa using h),ih]
def qka:List V->Hp->VK->Prop:=fun xs H Q=>∃ (d:Addr) (kls:List (Int×Addr)),xs=[.ref d]/\H d=some (.dK (dkV kls))/\kls.length<64/\(kls.map (·.1)).Nodup ∧
 ∀ (D:Addr) (ns:List Int),H D=none->ns.Perm (kls.map (·.1))->ns.Pairwise (· < ·)->Q (.ref D) (upd H D (.lst (ns.map V.int)))
theorem qiI {u:Value}{k:Int}{P:Program}{w:World}(h:(y8 P w).is (Sum.inl k:Key) u=true):∃ t,u = .int k t:=by
 have h:qbq (Sum.inl k:Key) u=true:=h;rcases yD h with ⟨i,t,e1,e2⟩ | ⟨x,t,e1,e2⟩
 .cases e1;exact ⟨t,e2⟩
 .cases e1
theorem Za {P:Program}{w:World}:∀ {es:List DictEntry}{vs:List (Key×Value)},Pairs (y8 P w) es vs->∀ {ks:List Int},vs.map (·.1)=ks.map Sum.inl->IntsAre (es.map (·.key)) ks
 | _,_,.nil,[],_=>.nil
 | _,_,.cons (kv:=kv) h _ t,k::ks,e=>by
  have e1:kv.1=Sum.inl k:=(List.cons.inj e).1;rw [e1] at h;obtain ⟨u,hu⟩:=qiI h;rw [List.map_cons,hu];exact .cons _ _ (Za t (List.cons.inj e).2)
theorem qcQ (hc:X.calm=true):yG X (.builtin "sorted") qka:=by
 intro pins s σ H xs us Q I r h;obtain ⟨d,kls,rfl,hd,hl,nd,q⟩:=h;obtain ⟨u,rfl,rx⟩:=Jt r;cases rx
 obtain ⟨z,hsm,vs,rel,o,es,ep,ho,ex,hdat,hk,hp,hn⟩:=qk3 I.hok hd;have hkeys:vs.map (·.1)=(kls.map (·.1)).map Sum.inl:=by
  rw [<- rel.keys];unfold dkV;rw [List.map_map,List.map_map];rfl
 have hints:=Za hp hkeys;have hlen:es.toList.length=kls.length:=by
  have:=hints.length;rw [List.length_map,List.length_map] at this;exact this
 have hes:es.size=kls.length:=by rw [<- hlen];simp
 refine Y3 (R:=fun ns=>ns=kls.map (·.1)) (fun E'=>qaR (by show X.A.handled=none;exact I.ok.hd hc) hsm ⟨o,ho,ex,hdat⟩ (by rw [sizeLine_eq];omega) fun h' tk kp=>?_) fun ns ns' out h' tk D' e hr a1 a2 a3 a4 kp hD he=>?_
 .exact ⟨h',tk,_,rfl,kp,hints,by rw [List.length_map];omega,rfl⟩
 .subst hr;obtain ⟨hn',J⟩:=I.laidN (t':=tk) (o:=.lst (ns'.map V.int)) kp hD ⟨by rw [List.length_map,sizeLine_eq];omega,out.toList,e,JK a1,by rw [Array.toArray_toList];exact he⟩;exact ⟨.ref D',_,J,rfl,q D' ns' hn' a2 (qh4 a3 (a2.nodup_iff.mpr nd))⟩
def rSetDef:V->List V->Hp->VK->Prop:=fun x vs H Q=>∃ (d:Addr) (kls:List (Int×Addr)) (k:Int) (y:Addr),x = .ref d/\vs=[.int k,.ref y]/\H d=some (.dK (dkV kls))/\kls.length<4000 ∧
 (∀ p,kls.find? (fun p=>decide (p.1=k))=some p->Q (.ref p.2) H)/\(kls.find? (fun p=>decide (p.1=k))=none->Q (.ref y) (upd H d (.dK (dkV (kls++[(k,y)])))))
theorem qat:MtR X "dict.setdefault" rSetDef:=by
 intro pins s σ H x xs v us Q I rx rs h;obtain ⟨d,kls,k,y,rfl,rfl,hd,hl,h1,h2⟩:=h;cases rx
 obtain ⟨u1,u2,rfl,r1,r2⟩:=qa8 rs;obtain ⟨t,rfl⟩:=(show ∃ t,u1=Value.int k t from r1);cases r2
 obtain ⟨z,hsm,vs,rel,dd⟩:=qk3 I.hok hd;have hz:vs.length<=sizeLine:=by rw [<- rel.length];exact z
 have hv:=rel.val (Sum.inl k);rw [qbw] at hv;refine call_meetsIn PySem.F.slot_dict_setdefault dd.typeIs PySem.F.entry_dict_setdefault (PySem.F.args_dict_setdefault_3 _ _ _) (kt_meets_setdefault (y8 X.prog X.w) d (qiL (k:=Sum.inl k) ⟨t,rfl⟩) hsm (.ref y)) ⟨vs,dd,hz,fun v hv'=>?_,fun hn h' dd' sb=>?_⟩
 .rw [hv'] at hv;cases hf:kls.find? (fun p=>decide (p.1=k)) with
  | none=>rw [hf] at hv;exact hv.elim
  | some p =>
   rw [hf] at hv;cases (show v=Value.ref p.2 from hv)
   exact ⟨.ref p.2,H,I.tok _,rfl,h1 p hf⟩
 .rw [hn] at hv;cases hf:kls.find? (fun p=>decide (p.1=k)) with
  | some p=>rw [hf] at hv;exact hv.elim
  | none =>
   have hnew:qgQ (dkV kls) (Sum.inl k:Key) (V.ref y)=dkV (kls++[(k,y)]):=by
    rw [qfF _ (by rw [qbw,hf];rfl)];unfold dkV;rw [List.map_append];rfl
   have he:∃ q,h'.get? d=some q:=let ⟨q,_,_,hq,_⟩:=dd';⟨q,hq⟩;have hl2:(qgQ (dkV kls) (Sum.inl k:Key) (V.ref y)).length<=sizeLine:=by
    have:=qbo (dkV kls) (Sum.inl k:Key) (V.ref y);have e:(dkV kls).length=kls.length:=List.length_map ..;rw [sizeLine_eq];omega
   refine ⟨.ref y,_,qi3 I (by rw [hd];exact True.intro) sb he (qk4 hl2 hsm (rel.put (Sum.inl k) (y:=V.ref y) (u:=Value.ref y) rfl) dd'),rfl,?_⟩;rw [hnew];exact h2 hf
def dkSt (kls:List (Int×Addr)):MSt:={ R:=fun _ u=>u = .dK (dkV kls),st:=fun _ _ _ _ h=>h,nt:=fun _ u xs h e=>(by rw [h] at e;cases e),ml:=fun _ _ _ _ _ _ _ h=>h }
abbrev DK (d:Addr) (kls:List (Int×Addr)):Addr×MO:=(d,.any (dkSt kls))
theorem RelM.dk {U:Mu}{H:Hp}{d:Addr}{kls:List (Int×Addr)}(M:RelM K U H) (h:DK d kls∈U):H d=some (.dK (dkV kls)):=by
 obtain ⟨u,e,r⟩:=M.ob d _ h;have r:u = .dK (dkV kls):=r;rw [r] at e;exact e
variable {pos p1:Pos}
def qll:TEd:=fun _ U Q=>∀ d,d∉U.map Prod.fst->Q (.m d) (DK d []::U)
theorem qi6:DE K X (.Dict [] [] pos) qll:=by
 refine PE.mono qfP fun σ H Q ⟨ρ,U,Q0,hS,hM,h,cl⟩ p hp=>?_;obtain ⟨_,_,hn⟩:=hM.laid (o:=.dK []) hp;obtain ⟨M2,s2⟩:=hM.new (u:=.dK []) (o:=.any (dkSt [])) hp fun ss=>⟨_,qE,rfl⟩;exact cl _ _ _ _ (h p hn) M2 s2 rfl
def qjb (to:TEd) (tr:TAd):TEd:=fun ρ U Q=>to ρ U fun x U1=>∃ d kls0,x = .m d/\DK d kls0∈U1/\tr ρ U1 fun es U2=>∃ (k:Int) (y:Addr) (kls:List (Int×Addr)) (Ua Ub:Mu),es=[.d (.int k),.m y]/\U2=Ua++DK d kls::Ub/\kls.length<4000 ∧
 (∀ p,kls.find? (fun p=>decide (p.1=k))=some p->Q (.m p.2) U2)/\(kls.find? (fun p=>decide (p.1=k))=none->Q (.m y) (Ua++DK d (kls++[(k,y)])::Ub))
theorem qcg {o:Expr}{e1 e2:Expr}{to:TEd}{tr:TAd}(ho:DE K X o to) (ha:DA K X [e1,e2] tr) (hK:X.K=K:=by rfl)
  (h:PE X (.Call (.Attribute o "setdefault" p1) [e1,e2] [] pos) (tBM X.K "dict" rSetDef (up K to) (upA K tr))):DE K X (.Call (.Attribute o "setdefault" p1) [e1,e2] [] pos) (qjb to tr):=by
 subst hK;refine PE.mono h fun σ H Q hq9=>?_;obtain ⟨ρ,U,Q0,hS,hM,h,cl⟩:=hq9;refine ⟨ρ,U,_,hS,hM,h,fun x U1 v H1 q M1 s1 i1=>?_⟩;obtain ⟨d,kls0,rfl,hm,q⟩:=q;have i1:v = .ref d:=i1;subst i1;refine ⟨.inr (.inr (.inl ⟨rfl,.inl ⟨_,M1.dk hm⟩⟩)),ρ,U1,_,hS.same s1,M1,q,fun es U2 vs H2 q2 M2 s2 i2=>?_⟩;obtain ⟨k,y,kls,Ua,Ub,rfl,rfl,hl,h1,h2⟩:=q2;obtain ⟨v1,v2,rfl,j1,j2⟩:=ZE i2;cases j1
 have j2:v2 = .ref y:=j2;subst j2;refine ⟨d,kls,k,y,rfl,rfl,M2.dk (by simp),hl,fun p hp=>cl _ _ _ H2 (h1 p hp) M2 (s1.trans s2) rfl,fun hn=>?_⟩;obtain ⟨M4,s4⟩:=M2.write (H':=upd H2 d (.dK (dkV (kls++[(k,y)])))) (o':=.any (dkSt (kls++[(k,y)]))) (fun b u e n=>by rw [qC n];exact e) fun ss=>⟨_,qE,rfl⟩;exact cl _ _ _ _ (h2 hn) M4 ((s1.trans s2).trans s4) rfl
def qh0:RAd:=fun es U Q=>∃ d kls,es=[.m d]/\DK d kls∈U/\kls.length<64/\(kls.map (·.1)).Nodup/\∀ ns:List Int,ns.Perm (kls.map (·.1))->ns.Pairwise (· < ·)->Q (.d (.list (ns.map .int))) U
theorem qgk (hc:X.calm=true):yG X (.builtin "sorted") (upC K qh0):=by
 refine (qcQ hc).mono fun xs H Q h=>?_;obtain ⟨U,es,Q0,M,hp,q,cl⟩:=h;obtain ⟨d,kls,rfl,hm,h64,nd,q⟩:=q;obtain ⟨v,rfl,i1⟩:=j5 hp;have i1:v = .ref d:=i1;subst i1;refine ⟨d,kls,rfl,M.dk hm,h64,nd,fun D ns hD hp hs=>?_⟩;obtain ⟨M4,s4,hn⟩:=M.laid (o:=.lst (ns.map V.int)) hD;exact cl _ U _ _ (q ns hp hs) M4 s4 (.lst (SqL.of (by rw [qX hn];exact qE)) (IsAll.ints ns))
def qlm (to ti:TEd):TEd:=fun ρ U Q=>to ρ U fun x U1=>ti ρ U1 fun i U2=>∃ d kls k p,x = .m d/\i = .d (.int k)/\DK d kls∈U2/\kls.find? (fun p=>decide (p.1=k))=some p/\Q (.m p.2) U2
theorem qi7 (hu:X.A.units+1<cLine) {o i:Expr}{to ti:TEd}(ho:DE K X o to) (hi:DE K X i ti) (hs:NoSl i):DE K X (.Subscript o i pos) (qlm to ti):=by
 refine PE.mono (qig hu ho hi hs) fun σ H Q hq9=>?_;obtain ⟨ρ,U,Q0,hS,hM,h,cl⟩:=hq9;refine ⟨ρ,U,_,hS,hM,h,fun x U1 v H1 q M1 s1 i1=>⟨ρ,U1,_,hS.same s1,M1,q,fun i U2 v2 H2 q2 M2 s2 i2=>?_⟩⟩;obtain ⟨d,kls,k,p,rfl,rfl,hm,hf,q2⟩:=q2;have i1:v = .ref d:=i1;subst i1;cases i2
 refine ⟨d,.ref p.2,rfl,?_,cl _ U2 _ H2 q2 M2 (s1.trans s2) rfl⟩;have:=qjz.k (k:=Sum.inl k) (M2.dk hm);rw [qbw,hf] at this;exact this
def qhe (k:Nat) (ti:TId) (g:TGd) (tt:TTd) (te:TEd):TEd:=fun ρ U Q=>ti ρ U fun J U1=>J.n<=4000/\∃ Pv:Nat->List Addr->Rho->Mu->Prop,Pv 0 [] (ρ++List.replicate k none) U1/\(∀ i ys ρ' U',i<=J.n->Pv i ys ρ' U'->J.ok U') ∧
 (∀ i ys ρ' U',i<J.n->Pv i ys ρ' U'->g (J.item i) ρ' U' fun ρ2 U2=>tt ρ2 U2 fun b U3=>if b=true then te ρ2 U3 fun y U4=>∃ z,y = .m z/\Pv (i+1) (ys++[z]) ρ2 U4 else Pv (i+1) ys ρ2 U3) ∧
 ∀ ys ρ' U',Pv J.n ys ρ' U'->∀ p,p∉U'.map Prod.fst->Q (.m p) ((p,.refs ys)::U')
theorem qfo {k:Nat}{ti:TId}{g:TGd}{tt:TTd}{te:TEd}{σ:St}{H:Hp}{Q:VK}(h:up K (qhe k ti g tt te) σ H Q):qhF k (upI K ti) (upG K g) (upT K tt) (up K te) σ H Q:=by
 obtain ⟨ρ,U,Q0,hS,hM,h,cl⟩:=h;refine ⟨ρ,U,_,hS,hM,h,fun J0 U1 J H1 q M1 s1 sim=>?_⟩;obtain ⟨hn,Pv,h0,hok,hstep,hend⟩:=q;have S0:RelS K (ρ++List.replicate k none) U1 (σ++List.replicate k none) H1:=by
  have S1:=hS.same s1;refine ⟨by simp [S1.len],fun i e he=>?_⟩;by_cases hi:i<ρ.length
  .rw [qv hi] at he;rw [qv (by rw [<- S1.len];exact hi)];exact S1.get i e he
  .rw [qS (by omega),yF] at he;split at he <;> cases he
 refine ⟨fun i m ys σ' H'=>m=J0.n - i/\i<=J0.n/\ys.length<=i/\∃ (ds:List Addr) (ρ':Rho) (U':Mu),RelS K ρ' U' σ' H'/\RelM K U' H'/\yd (mask U1 H1) (mask U' H')/\ys=ds.map V.ref/\Pv i ds ρ' U',⟨_,rfl,qB _,Nat.le_refl _,[],_,U1,S0,M1,yd.refl _,rfl,h0⟩,?_⟩;rintro i m ys σ' H' ⟨rfl,hi,hy,ds,ρ',U',S',M',s',hA,p⟩;have sm:=sim U' H' M' s' (hok i ds ρ' U' hi p) i;by_cases hlt:i<J0.n
 .obtain ⟨hgo,hyl⟩:=sm.1 hlt;refine .inr ⟨hgo,yI (by omega),fun ys2 σ2 H2=>ys2.length<=i+1/\∃ (ds:List Addr) (ρ':Rho) (U':Mu),RelS K ρ' U' σ2 H2/\RelM K U' H2/\yd (mask U1 H1) (mask U' H2)/\ys2=ds.map V.ref/\Pv (i+1) ds ρ' U',fun ys2 σ2 H2 z=>⟨J0.n - (i+1),by omega,rfl,hlt,z⟩,fun x H2 y=>?_⟩;obtain ⟨M2,s2,i2⟩:=hyl x H2 y;refine ⟨_,ρ',U',_,i2,S'.same s2,M2,hstep i ds ρ' U' hlt p,fun ρ3 U3 σ3 H3 q3 S3 M3 s3=>⟨ρ3,U3,_,S3,M3,q3,fun b U4 H4 q4 M4 s4=>?_⟩⟩;have st:=((s'.trans s2).trans s3).trans s4;cases b with
  | true =>
   refine qa4 ⟨ρ3,U4,_,S3.same s4,M4,(by simpa using q4),fun e U5 v H5 q5 M5 s5 i5=>?_⟩;obtain ⟨z,rfl,q5⟩:=q5;have i5:v = .ref z:=i5;subst i5;exact ⟨by simp;omega,_,ρ3,U5,(S3.same s4).same s5,M5,st.trans s5,by rw [hA,List.map_append];rfl,q5⟩
  | false=>exact Z3 ⟨by omega,_,ρ3,U4,S3.same s4,M4,st,hA,by simpa using q4⟩
 .have e:i=J0.n:=by omega
  subst e;subst hA;refine .inl ⟨sm.2 (Nat.le_refl _),fun D hD=>?_⟩;obtain ⟨_,_,hn⟩:=M'.laid (o:=.lst (ds.map V.ref)) hD;obtain ⟨M4,s4⟩:=M'.new (u:=.lst (ds.map V.ref)) (o:=.refs ds) hD fun ss=>qE;exact cl _ _ _ _ (hend ds ρ' U' p D hn) M4 ((s1.trans s').trans s4) rfl
theorem qi8 {tg iter:Expr}{L:List Str}{scope sc:Scope}{N:List Str}{elt:Expr}{ifs:List Expr}{ti:TId}{g:TGd}{tt:TTd}{te:TEd}
  (hc:X.calm=true) (hsc:X.env.scope=sc) (hN:X.N=N) (ok:jf sc N L scope=true)
  (hi:DI K X tg iter ti) (hg:∀ cl C sa2 Ha2 fp,DG K (qo X L scope cl C sa2 Ha2 fp) tg g) (hf:∀ cl C sa2 Ha2 fp,qht K (qo X L scope cl C sa2 Ha2 fp) ifs tt) (he:∀ cl C sa2 Ha2 fp,DE K (qo X L scope cl C sa2 Ha2 fp) elt te)
  (hs:∀ x,foldedSetIterable iter X.env x=pure x:=by intro _;rfl) :
  DE K X (.ListComp elt [⟨tg,iter,ifs,0⟩] scope pos) (qhe L.length ti g tt te):=PE.mono (qdX hc hsc hN ok hi hg hf he hs) fun _ _ _=>qfo
end
end L2
namespace L2
open PySem PySem.Spec PyProof.Rows PySem.W
theorem RelM.sub {K:W.Frag}{U U':Mu}{H:Hp}(M:RelM K U H) (s:U'.Sublist U):RelM K U' H/\yd (mask U H) (mask U' H):=by
 have ss:yd (mask U H) (mask U' H):=ZJ fun a ha=>(s.map Prod.fst).subset ha;exact ⟨⟨(s.map Prod.fst).nodup M.nd,fun a o h=>(M.ob a o (s.subset h)).same ss rfl⟩,ss⟩
theorem RelM.perm {K:W.Frag}{U U':Mu}{H:Hp}(M:RelM K U H) (p:U.Perm U'):RelM K U' H/\yd (mask U H) (mask U' H):=by
 have ss:yd (mask U H) (mask U' H):=ZJ fun a ha=>(p.map Prod.fst).mem_iff.mpr ha;exact ⟨⟨(p.map Prod.fst).nodup_iff.mp M.nd,fun a o h=>(M.ob a o (p.mem_iff.mpr h)).same ss rfl⟩,ss⟩
theorem FzR.sub {U U':Mu}{e:En}(s:U'.Sublist U):FzR U e U' e:=fun K v H M i=>by
 obtain ⟨M',ss⟩:=M.sub s;exact ⟨M',i.same ss,ss⟩
theorem FzR.perm {U U':Mu}{e:En}(p:U.Perm U'):FzR U e U' e:=fun K v H M i=>by
 obtain ⟨M',ss⟩:=M.perm p;exact ⟨M',i.same ss,ss⟩
def Rws (U:Mu) (as:List Addr) (rs:List (List PyData)):Prop:=PySem.Paired (fun a r=>(a,MO.lst r)∈U) as rs
def qfY (rs:List (List PyData)):List PyData:=rs.map PyData.list
theorem qgJ {K:W.Frag}{U U':Mu}{H:Hp}(M:RelM K U H) (ss:yd (mask U H) (mask U' H)):∀ {as:List Addr}{rs:List (List PyData)},Rws U as rs->(∀ a∈as,a∉U'.map Prod.fst)->IsAll K (mask U' H) (as.map V.ref) (qfY rs)
 | _,_,.nil,_=>.nil
 | a::as,r::rs,.cons h t,hn=>by
  obtain ⟨xs,e,hs⟩:=M.ob a (.lst r) h;exact .cons (.lst (SqL.of (by rw [qX (hn a qe)];exact e)) (IsAll.same ss hs)) (qgJ M ss t fun b hb=>hn b (qf _ hb))
theorem FzR.refsN {U U':Mu}{p:Addr}{as:List Addr}{rs:List (List PyData)}(hp:(p,MO.refs as)∈U) (ha:Rws U as rs) (s:U'.Sublist U) (np:p∉U'.map Prod.fst) (na:∀ a∈as,a∉U'.map Prod.fst):FzR U (.m p) U' (.d (.list (qfY rs))):=fun K v H M i=>by
 have i:v = .ref p:=i;subst i;obtain ⟨M',ss⟩:=M.sub s;have h1:H p=some (.lst (as.map V.ref)):=M.ob p _ hp;exact ⟨M',.lst (SqL.of (by rw [qX np];exact h1)) (qgJ M ss ha na),ss⟩
theorem qgI {K:W.Frag}{U:Mu}{H:Hp}(M:RelM K U H):∀ {as:List Addr}{rs:List (List PyData)},Rws U as rs->IsAll K H (as.map V.ref) (qfY rs)
 | _,_,.nil=>.nil
 | a::as,r::rs,.cons h t=>by
  obtain ⟨xs,e,hs⟩:=M.ob a (.lst r) h;exact .cons (.lst (SqL.of e) (IsAll.same yt hs)) (qgI M t)
section
variable {X:Cx}{K:W.Frag}{pos p1:Pos}
inductive DatN (U:Mu):En->PyData->Prop
 | d {e:En}{x:PyData}(h:DatOf U e x):DatN U e x
 | r {p:Addr}{as:List Addr}{rs:List (List PyData)}(h:(p,.refs as)∈U) (ha:Rws U as rs):DatN U (.m p) (.list (qfY rs))
theorem DatN.is {U:Mu}{e:En}{x:PyData}{H:Hp}{v:V}(h:DatN U e x) (M:RelM K U H) (i:IsE K U H v e):Is K H v x:=by
 cases h with
 | d h=>exact h.is M i
 | @r p as rs h ha =>
  have hp:H p=some (.lst (as.map V.ref)):=M.ob p _ h;have i:v=_:=i;subst i;exact .lst (SqL.of hp) (qgI M ha)
def rdEqN (neg:Bool):R2d:=fun x y U Q=>∃ d d',DatN U x d/\DatN U y d'/\SeqAt.shaped d=true/\SeqAt.shaped d'=true/\Q (.d (.bool (if neg then !PyData.eqv d d' else PyData.eqv d d'))) U
theorem qk1 (hu:X.A.units+64<cLine) (hK:X.K=K:=by rfl):OpR X (compareOp .NotEq) (upR K (rdEqN true)):=by
 subst hK;refine (qgX hu).mono fun x y H Q h=>?_;obtain ⟨U,e,e',Q0,M,i1,i2,q,cl⟩:=h;obtain ⟨d,d',h1,h2,h3,h4,q⟩:=q;exact ⟨d,d',h1.is M i1,h2.is M i2,h3,h4,cl _ U _ H q M (yd.refl _) (.bl _)⟩
def qj1:RAd:=fun es U Q=>∃ a x,es=[.m a,.ty "list"]/\DatN U (.m a) (.list x)/\Q (.d (.bool true)) U
theorem qeP (hK:X.K=K:=by rfl):yG X (.builtin "isinstance") (upC K qj1):=by
 subst hK;refine qcj.mono fun xs H Q h=>?_;obtain ⟨U,es,Q0,M,hp,⟨a,x,rfl,hd,q⟩,cl⟩:=h;obtain ⟨v,v',rfl,i1,i2⟩:=ZE hp;have i2:v'=_:=i2;subst i2;exact ⟨_,_,_,rfl,hd.is M i1,by decide,cl _ U _ H q M (yd.refl _) (.bl _)⟩
def dExt (to:TEd) (tr:TAd):TEd:=fun ρ U Q=>to ρ U fun x U1=>∃ l ds0,x = .m l/\(l,MO.lst ds0)∈U1/\tr ρ U1 fun es U2=>∃ (b:Addr) (ds fs:List PyData) (Ua Ub:Mu),es=[.m b]/\U2=Ua++(l,.lst ds)::Ub/\(b,MO.lst fs)∈U2/\ds.length+fs.length<=4000/\Q (.d .none) (Ua++(l,.lst (ds++fs))::Ub)
theorem qgn {o e:Expr}{to:TEd}{tr:TAd}(ho:DE K X o to) (ha:DA K X [e] tr) (hK:X.K=K:=by rfl)
  (h:PE X (.Call (.Attribute o "extend" p1) [e] [] pos) (tBM X.K "list" rExtend (up K to) (upA K tr))):DE K X (.Call (.Attribute o "extend" p1) [e] [] pos) (dExt to tr):=by
 subst hK;refine PE.mono h fun σ H Q hq9=>?_;obtain ⟨ρ,U,Q0,hS,hM,h,cl⟩:=hq9;refine ⟨ρ,U,_,hS,hM,h,fun x U1 v H1 q M1 s1 i1=>?_⟩;obtain ⟨l,ds0,rfl,hm,q⟩:=q;have i1:v = .ref l:=i1;subst i1;obtain ⟨xs0,e0,_⟩:=M1.ob l (.lst ds0) hm;refine ⟨.inl ⟨rfl,_,SqL.of e0⟩,ρ,U1,_,hS.same s1,M1,q,fun es U2 vs H2 q2 M2 s2 i2=>?_⟩;obtain ⟨b,ds,fs,Ua,Ub,rfl,rfl,hb,hz,q2⟩:=q2;obtain ⟨v,rfl,j1⟩:=j5 i2;have j1:v = .ref b:=j1;subst j1;obtain ⟨xs,e1,h1⟩:=M2.ob l (.lst ds) (by simp);obtain ⟨zs,e2,h2⟩:=M2.ob b (.lst fs) hb;refine ⟨l,b,xs,zs,rfl,rfl,e1,e2,by rw [h1.len,h2.len,sizeLine_eq];omega,?_⟩;obtain ⟨M4,s4⟩:=M2.write (H':=upd H2 l (.lst (xs++zs))) (o':=.lst (ds++fs)) (fun b u e n=>by rw [qC n];exact e) fun ss=>⟨_,qE,(IsAll.same ss h2).app (IsAll.same ss h1)⟩;exact cl _ _ _ _ q2 M4 ((s1.trans s2).trans s4) .non
end
end L2
namespace L2
def vl (n p:Pt):Int:=n.1 * p.1+n.2 * p.2
def wy (p q:Pt):Pt:=(q.2 - p.2,p.1 - q.1)
section
variable {A B:List Pt}
theorem qeW (d p q:Pt):crs d (wy p q)=vl d p - vl d q:=by unfold crs wy vl;grind
theorem j0 (a b:Pt):crs a b = - crs b a:=by unfold crs;grind
theorem jU (x:Pt):crs x x=0:=by unfold crs;grind
end
end L2
namespace L2
abbrev Ln:=Pt×Int
def lnK (l:Ln):List Int:=[l.1.1,l.1.2,l.2]
theorem qiC {l m:Ln}(h:lnK l=lnK m):l=m:=by
 unfold lnK at h;have h1:=List.cons.inj h;have h2:=List.cons.inj h1.2;have h3:=List.cons.inj h2.2;exact Prod.ext (Prod.ext h1.1 h2.1) h3.1
def Ahd (l m:Ln):Prop:=0<crs l.1 m.1\/(crs l.1 m.1=0/\l.2<m.2)
noncomputable instance (l m:Ln):Decidable (Ahd l m):=by unfold Ahd;infer_instance
theorem qlp (p q:Pt):crs q p = - crs p q:=by unfold crs;grind
theorem qjo {l m:Ln}(hl:IsN l.1) (hm:IsN m.1) (hne:l≠m) (h:¬ Ahd l m):Ahd m l:=by
 have e:=qlp l.1 m.1;unfold Ahd at *;by_cases c:crs l.1 m.1=0
 .have n:=JI hl hm c;refine .inr ⟨by omega,?_⟩;have:l.2≠m.2:=fun z=>hne (Prod.ext n z);have:¬ l.2<m.2:=fun z=>h (.inr ⟨c,z⟩);omega
 .have:¬ 0<crs l.1 m.1:=fun z=>h (.inl z);exact .inl (by omega)
theorem Yf {n:Pt}(h:IsN n):0<=n.1/\(n.1=0->n=(0,1)):=by
 obtain ⟨_,h | ⟨h1,h2⟩⟩:=h
 .exact ⟨by omega,fun z=>by omega⟩
 .exact ⟨by omega,fun _=>Prod.ext h1 h2⟩
def qfh (g:Int) (l:Ln):List Int:=if l.1.1=0 then [1,0,l.2] else [0,(l.1.2 * g).fdiv l.1.1,l.2]
theorem qeF {a b a' b' g:Int}(ha:0<a) (ha':0<a') (h1:a * a<=g) (h2:a' * a'<=g) (hc:a * b' - b * a'<0):(b' * g).fdiv a'+1<=(b * g).fdiv a:=by
 have hg:a * a'<=g:=by
  rcases Int.le_total a a' with z | z
  .exact Int.le_trans (Int.mul_le_mul_of_nonneg_right z (by omega)) h2
  .exact Int.le_trans (Int.mul_le_mul_of_nonneg_left z (by omega)) h1
 have g0:0<=g:=Int.le_trans (Int.mul_nonneg (by omega) (by omega)) h1;generalize hq:(b' * g).fdiv a'=q;have q1:q * a'<=b' * g:=by
  have:=Int.fmod_add_mul_fdiv (b' * g) a';have m0:=Int.fmod_nonneg_of_pos (b' * g) ha';rw [hq] at this;have:a' * q=q * a':=Int.mul_comm _ _;omega
 have key:(q+1) * a * a'<=b * g * a':=by
  have e1:a * (q * a')<=a * (b' * g):=Int.mul_le_mul_of_nonneg_left q1 (by omega);have e2:(a * b'+1) * g<=b * a' * g:=Int.mul_le_mul_of_nonneg_right (by omega) g0;grind
 have k2:(q+1) * a<=b * g:=Int.le_of_mul_le_mul_right key ha';rw [Int.fdiv_eq_ediv_of_nonneg _ (by omega)];exact (Int.le_ediv_iff_mul_le ha).mpr k2
theorem qiJ {g:Int}{l m:Ln}(hl:IsN l.1) (hm:IsN m.1) (gl:l.1.1 * l.1.1<=g) (gm:m.1.1 * m.1.1<=g) (hne:l≠m) (h:¬ qfh g m<qfh g l):Ahd l m:=by
 obtain ⟨l0,l1⟩:=Yf hl;obtain ⟨m0,m1⟩:=Yf hm;by_cases cl:l.1.1=0
 .by_cases cm:m.1.1=0
  .unfold qfh at h;rw [if_pos cl,if_pos cm] at h;have e:l.1=m.1:=by rw [l1 cl,m1 cm]
   refine .inr ⟨by rw [e];exact qgo _,?_⟩;have:¬ m.2<l.2:=fun z=>h (by simp [List.cons_lt_cons_iff,z]);have:l.2≠m.2:=fun z=>hne (Prod.ext e z);omega
  .exact absurd (by unfold qfh;rw [if_pos cl,if_neg cm];simp [List.cons_lt_cons_iff]) h
 .by_cases cm:m.1.1=0
  .refine .inl ?_;rw [m1 cm];unfold crs;simp;omega
  .unfold qfh at h;rw [if_neg cl,if_neg cm] at h;have lp:0<l.1.1:=by omega
   have mp:0<m.1.1:=by omega
   refine Decidable.byContradiction fun hn=>?_;have t:=qjo hl hm hne hn;apply h;rcases t with t | ⟨t,k⟩
   .have hc:l.1.1 * m.1.2 - l.1.2 * m.1.1<0:=by unfold crs at t;grind
    have:=qeF lp mp gl gm hc;rw [List.cons_lt_cons_iff,List.cons_lt_cons_iff];exact .inr ⟨rfl,.inl (by omega)⟩
   .have e:=JI hm hl t;rw [e];simp [List.cons_lt_cons_iff,k]
def nO (p q:Pt):Pt:=nrm (q.2 - p.2) (p.1 - q.1)
theorem JY {p q:Pt}(h:p≠q):q.2 - p.2≠0\/p.1 - q.1≠0:=by
 by_cases z:q.2 - p.2=0
 .refine .inr fun z2=>h (Prod.ext (by omega) (by omega))
 .exact .inl z
theorem qas {p q:Pt}(h:p≠q):IsN (nO p q):=qbk (JY h)
theorem qfX {p q:Pt}(h:p≠q):vl (nO p q) q=vl (nO p q) p:=by
 obtain ⟨e1,e2⟩:=JU (q.2 - p.2) (p.1 - q.1) (JY h);have d0:=Js (JY h);unfold vl nO;generalize nrm (q.2 - p.2) (p.1 - q.1)=n at *;generalize dvs (q.2 - p.2) (p.1 - q.1)=d at *;have:d * (n.1 * q.1+n.2 * q.2)=d * (n.1 * p.1+n.2 * p.2):=by grind
 exact Int.eq_of_mul_eq_mul_left d0 this
theorem qd9 {p q n:Pt}(h:p≠q) (hn:IsN n) (e:vl n p=vl n q):n=nO p q:=by
 refine JI hn (qas h) ?_;obtain ⟨e1,e2⟩:=JU (q.2 - p.2) (p.1 - q.1) (JY h);have d0:=Js (JY h);unfold vl at e;unfold crs nO;generalize nrm (q.2 - p.2) (p.1 - q.1)=m at *;generalize dvs (q.2 - p.2) (p.1 - q.1)=d at *;have:d * (n.1 * m.2 - n.2 * m.1)=d * 0:=by grind
 exact Int.eq_of_mul_eq_mul_left d0 this
def qbG (ps:List Pt) (l:Ln):Prop:=IsN l.1/\∃ p∈ps,∃ q∈ps,p≠q/\vl l.1 p=l.2/\vl l.1 q=l.2
theorem qb7 {ps:List Pt}{p q:Pt}(hp:p∈ps) (hq:q∈ps) (h:p≠q):qbG ps (nO p q,vl (nO p q) p):=⟨qas h,p,hp,q,hq,h,rfl,qfX h⟩
theorem ZK {ps:List Pt}{l:Ln}(h:qbG ps l):∃ p∈ps,∃ q∈ps,p≠q/\l=(nO p q,vl (nO p q) p):=by
 obtain ⟨hn,p,hp,q,hq,hne,e1,e2⟩:=h;have e:=qd9 hne hn (e1.trans e2.symm);exact ⟨p,hp,q,hq,hne,Prod.ext e (by rw [<- e];exact e1.symm)⟩
theorem qkD {p q:Pt}(h:p≠q):(nO q p,vl (nO q p) q)=(nO p q,vl (nO p q) p):=by
 have e:nO q p=nO p q:=qd9 h (qas h.symm) (qfX h.symm);rw [e,qfX h]
end L2
namespace L2
end L2
namespace L2
end L2
namespace L2
theorem qf3 {ps:List Pt}{l:Ln}(hp:∀ q∈ps,Bd 1000000000000000000000000000000 q) (h:qbG ps l):Bd 2000000000000000000000000000000 l.1/\l.2.natAbs<=4000000000000000000000000000000000000000000000000000000000000:=by
 obtain ⟨p,h1,q,h2,hne,rfl⟩:=ZK h;have b1:=hp p h1;have b2:=hp q h2;have nb:Bd 2000000000000000000000000000000 (nO p q):=qao (JY hne) (by have:=b1.2;have:=b2.2;omega) (by have:=b1.1;have:=b2.1;omega);refine ⟨nb,?_⟩;show (vl (nO p q) p).natAbs<=_;unfold vl;have m1:((nO p q).1 * p.1).natAbs<=2000000000000000000000000000000 * 1000000000000000000000000000000:=by rw [Int.natAbs_mul];exact Nat.mul_le_mul nb.1 b1.1
 have m2:((nO p q).2 * p.2).natAbs<=2000000000000000000000000000000 * 1000000000000000000000000000000:=by rw [Int.natAbs_mul];exact Nat.mul_le_mul nb.2 b1.2
 omega
end L2
namespace L2
variable {A B:List Pt}
end L2
namespace L2
variable {A B:List Pt}
end L2
namespace L2
section
variable {A B P:List Pt}
def Slo (P ns:List Pt):Prop:=ns.Pairwise (fun a b=>0<crs a b)/\∀ p∈P,∀ q∈P,p≠q->∃ n∈ns,n≠(0,0)/\crs n (wy p q)=0
end
end L2
namespace L2
def Z1 (n:Pt) (l:List Pt):Prop:=l.Pairwise fun p q=>vl n p<vl n q
theorem Y2 {n:Pt}{l m:List Pt}(h:Z1 n l) (h':Z1 n m) (p:l.Perm m):l=m :=
 List.Perm.eq_of_pairwise (fun a b _ _ k1 k2=>by omega) h h' p
theorem Yt {n:Pt}{one row rest:List Pt}(h:Z1 n one) (p:one.Perm (row++rest)) (lt:∀ x∈row,∀ y∈rest,vl n x<vl n y) :
  (one.take row.length).Perm row/\(one.drop row.length).Perm rest:=by
 have hX:one.filter (fun x=>decide (x∈row))++one.filter (fun x=>!decide (x∈row))=one:=by
  refine Y2 ?_ h (List.filter_append_perm _ _);refine List.pairwise_append.mpr ⟨h.sublist List.filter_sublist,h.sublist List.filter_sublist,fun x hx y hy=>?_⟩;obtain ⟨x1,x2⟩:=List.mem_filter.mp hx;obtain ⟨y1,y2⟩:=List.mem_filter.mp hy;have x2:x∈row:=qN x2;have y2:y∉row:=fun z=>by rw [decide_eq_true z] at y2;exact absurd y2 (by decide)
  have y3:y∈rest:=(List.mem_append.mp (p.mem_iff.mp y1)).resolve_left y2;exact lt x x2 y y3
 have nr:∀ y∈rest,y∉row:=fun y hy z=>by have:=lt y z y hy;omega
 have e1:(row++rest).filter (fun x=>decide (x∈row))=row:=by rw [jn,List.filter_eq_self.mpr (fun x hx=>decide_eq_true hx),List.filter_eq_nil_iff.mpr (fun y hy=>by rw [yc (nr y hy)];decide),List.append_nil]
 have e2:(row++rest).filter (fun x=>!decide (x∈row))=rest:=by rw [jn,List.filter_eq_nil_iff.mpr (fun x hx=>by rw [decide_eq_true hx];decide),List.filter_eq_self.mpr (fun y hy=>by rw [yc (nr y hy)];rfl),List.nil_append]
 have p1:=p.filter (fun x=>decide (x∈row));have p2:=p.filter (fun x=>!decide (x∈row));rw [e1] at p1;rw [e2] at p2;have hl:(one.filter (fun x=>decide (x∈row))).length=row.length:=p1.length_eq;rw [<- hX,<- hl,List.take_left,List.drop_left];rw [hX] at *;exact ⟨p1,p2⟩
theorem qdd {a b:Pt}{X Y:List Pt}(hX:Z1 a X) (hY:Z1 b Y) (p:Y.Perm X) (tu:∀ x∈X,∀ y∈X,vl a x<vl a y->vl b y<vl b x):Y=X.reverse:=by
 refine Y2 hY ?_ (p.trans X.reverse_perm.symm);refine List.pairwise_reverse.mpr ?_;exact List.Pairwise.imp_of_mem (fun {x y} hx hy h=>tu x hx y hy h) hX
structure TurnAt (a s b:Pt) (P:List Pt):Prop where
 up:∀ x∈P,∀ y∈P,vl s x<vl s y->vl a x<vl a y/\vl b x<vl b y
 tu:∀ x∈P,∀ y∈P,vl s x=vl s y->vl a x<vl a y->vl b y<vl b x
def qhp (s:Pt) (rows:List (List Pt)):Prop:=(∀ r∈rows,∀ x∈r,∀ y∈r,vl s x=vl s y)/\rows.Pairwise fun r t=>∀ x∈r,∀ y∈t,vl s x<vl s y
theorem qc7 {a s b:Pt}{P:List Pt}(T:TurnAt a s b P):∀ {rows:List (List Pt)}{one other:List Pt},qhp s rows->(∀ r∈rows,∀ x∈r,x∈P)->Z1 a one->Z1 b other->one.Perm rows.flatten->other.Perm rows.flatten →
  ∀ (k:Nat) (r:List Pt),rows[k]?=some r->((one.drop (rows.take k).flatten.length).take r.length).Perm r/\(other.drop (rows.take k).flatten.length).take r.length=((one.drop (rows.take k).flatten.length).take r.length).reverse
 | [],_,_,_,_,_,_,_,_,k,r,e=>by simp at e
 | r0::rows,one,other,hR,hP,h1,h2,p1,p2,k,r,e=>by
  have lt:∀ x∈r0,∀ y∈rows.flatten,vl s x<vl s y:=fun x hx y hy=>by
   obtain ⟨t,ht,hy⟩:=List.mem_flatten.mp hy;exact (List.pairwise_cons.mp hR.2).1 t ht x hx y hy
  have inP:∀ y∈rows.flatten,y∈P:=fun y hy=>by
   obtain ⟨t,ht,hy⟩:=List.mem_flatten.mp hy;exact hP t (qf _ ht) y hy
  have r0P:=hP r0 qe;rw [List.flatten_cons] at p1 p2;obtain ⟨a1,a2⟩:=Yt h1 p1 fun x hx y hy=>(T.up x (r0P x hx) y (inP y hy) (lt x hx y hy)).1;obtain ⟨b1,b2⟩:=Yt h2 p2 fun x hx y hy=>(T.up x (r0P x hx) y (inP y hy) (lt x hx y hy)).2;cases k with
  | zero =>
   have e:r0=r:=by simpa using e
   subst e;rw [List.take_zero,List.flatten_nil,List.length_nil,List.drop_zero,List.drop_zero];refine ⟨a1,qdd (h1.sublist (List.take_sublist _ _)) (h2.sublist (List.take_sublist _ _)) (b1.trans a1.symm) fun x hx y hy h=>?_⟩;have hx:=a1.mem_iff.mp hx;have hy:=a1.mem_iff.mp hy;exact T.tu x (r0P x hx) y (r0P y hy) (hR.1 r0 qe x hx y hy) h
  | succ k =>
   have e:rows[k]?=some r:=by simpa using e
   have ih:=qc7 T (rows:=rows) (one:=one.drop r0.length) (other:=other.drop r0.length) ⟨fun t ht=>hR.1 t (qf _ ht),(List.pairwise_cons.mp hR.2).2⟩ (fun t ht=>hP t (qf _ ht)) (h1.sublist (List.drop_sublist _ _)) (h2.sublist (List.drop_sublist _ _)) a2 b2 k r e;rw [List.drop_drop,List.drop_drop] at ih;rw [List.take_succ_cons,List.flatten_cons,List.length_append];exact ih
theorem Y9 {N u c C:Int}(hN:0<N) (h:N * u=c * C):(0<u ↔ 0<c * C)/\(u=0 ↔ c * C=0):=by
 rw [<- h];refine ⟨⟨fun h=>Int.mul_pos hN h,fun h=>Int.pos_of_mul_pos_right h hN⟩,⟨fun h=>by rw [h];exact Int.mul_zero _,fun h=>(yU.mp h).resolve_left (by omega)⟩⟩
theorem qb3 {c C:Int}:0<c * C ↔ (0<c/\0<C)\/(c<0/\C<0):=by
 constructor
 .intro h;rcases Int.lt_trichotomy c 0 with a | a | a
  .rcases Int.lt_trichotomy C 0 with b | b | b
   .exact .inr ⟨a,b⟩
   .rw [b,Int.mul_zero] at h;omega
   .have:=Int.mul_neg_of_neg_of_pos a b;omega
  .rw [a,Int.zero_mul] at h;omega
  .rcases Int.lt_trichotomy C 0 with b | b | b
   .have:=Int.mul_neg_of_pos_of_neg a b;omega
   .rw [b,Int.mul_zero] at h;omega
   .exact .inl ⟨a,b⟩
 .rintro (⟨a,b⟩ | ⟨a,b⟩)
  .exact Int.mul_pos a b
  .exact Int.mul_pos_of_neg_of_neg a b
theorem qbF {n x y:Pt}(h:vl n x=vl n y) (m:Pt):(n.1 * n.1+n.2 * n.2) * (vl m y - vl m x)=crs n m * (n.1 * (y.2 - x.2) - n.2 * (y.1 - x.1)):=by
 have h':n.1 * (y.1 - x.1)+n.2 * (y.2 - x.2)=0:=by unfold vl at h;grind
 have e:(n.1 * n.1+n.2 * n.2) * (vl m y - vl m x)=(n.1 * m.1+n.2 * m.2) * (n.1 * (y.1 - x.1)+n.2 * (y.2 - x.2))+crs n m * (n.1 * (y.2 - x.2) - n.2 * (y.1 - x.1)):=by
  unfold vl crs;clear h h';grind
 rw [e,h',Int.mul_zero,Int.zero_add]
theorem qbj {n:Pt}(h:n≠(0,0)):0<n.1 * n.1+n.2 * n.2:=by
 have sq:∀ a:Int,0<=a * a:=fun a=>by
  rcases Int.le_total 0 a with z | z
  .exact Int.mul_nonneg z z
  .exact Int.mul_nonneg_of_nonpos_of_nonpos z z
 have:=sq n.1;have:=sq n.2;by_cases c:n.1=0
 .have c2:n.2≠0:=fun z=>h (Prod.ext c z);have:n.2 * n.2≠0:=fun z=>by rcases yU.mp z with y | y <;> exact c2 y
  omega
 .have:n.1 * n.1≠0:=fun z=>by rcases yU.mp z with y | y <;> exact c y
  omega
theorem qhD {P ns:List Pt}{a s b:Pt}(hS:Slo P ns) (h1:0<crs a s) (h2:0<crs s b) (h:∀ n∈ns,n=s\/(0<crs n s/\0<crs n a/\0<crs n b)\/(crs n s<0/\crs n a<0/\crs n b<0)):TurnAt a s b P:=by
 have key:∀ x∈P,∀ y∈P,x≠y->∃ n∈ns,n≠(0,0)/\vl n x=vl n y:=fun x hx y hy hne=>by
  obtain ⟨n,hn,n0,hc⟩:=hS.2 x hx y hy hne;rw [qeW] at hc;exact ⟨n,hn,n0,by omega⟩
 refine ⟨fun x hx y hy hlt=>?_,fun x hx y hy he hlt=>?_⟩
 .have hne:x≠y:=fun z=>by rw [z] at hlt;omega
  obtain ⟨n,hn,n0,e⟩:=key x hx y hy hne;have N:=qbj n0;have es:=Y9 N (qbF e s);have ea:=Y9 N (qbF e a);have eb:=Y9 N (qbF e b);have g:=es.1.mp (by omega);rw [qb3] at g;have hh:∀ c:Int,(0<c/\0<crs n s\/c<0/\crs n s<0)->0<c * (n.1 * (y.2 - x.2) - n.2 * (y.1 - x.1)):=fun c hc=>by rw [qb3];omega
  have ha:=h n hn;have sa:0<crs n a/\0<crs n s\/crs n a<0/\crs n s<0:=by
   rcases ha with z | z | z
   .rw [z,jU] at g;omega
   .omega
   .omega
  have sb:0<crs n b/\0<crs n s\/crs n b<0/\crs n s<0:=by
   rcases ha with z | z | z
   .rw [z,jU] at g;omega
   .omega
   .omega
  have:=ea.1.mpr (hh _ sa);have:=eb.1.mpr (hh _ sb);omega
 .have hne:x≠y:=fun z=>by rw [z] at hlt;omega
  obtain ⟨n,hn,n0,e⟩:=key x hx y hy hne;have N:=qbj n0;have es:=Y9 N (qbF e s);have ea:=Y9 N (qbF e a);have eb:=Y9 N (qbF e.symm b);have g:=ea.1.mp (by omega);have z0:=es.2.mp (by omega);have g':=g;rw [qb3] at g';have hs:n=s:=by
   rcases h n hn with z | z | z
   .exact z
   .rcases yU.mp z0 with y | y <;> omega
   .rcases yU.mp z0 with y | y <;> omega
  subst hs;rw [j0] at h1;have:0<crs n b * (n.1 * (x.2 - y.2) - n.2 * (x.1 - y.1)):=by
   have ec:n.1 * (x.2 - y.2) - n.2 * (x.1 - y.1) = -(n.1 * (y.2 - x.2) - n.2 * (y.1 - x.1)):=by grind
   rw [qb3,ec];omega
  have:=eb.1.mpr this;omega
end L2
namespace L2
open PySem PySem.Spec PyProof.Rows PySem.W
section
variable {prog:Program}{w:World}{A:Around}{R:Result->Shared->Prop}{E:Value->Shared->Prop}{s:Shared}
theorem j6 {kx vx target iter:Expr}{ifs:List Expr}{scope:Scope}{pos:Pos}{it:Value}{D:Addr}{env:Env}(I:Nat->Shared->Prop)
  (turn:∀ n s,I n s->wpAny (model prog w) A (pyNext it) (fun r sa1=>match r with
   | none=>R (.ok .next) sa1
   | some v=>wpAny (model prog w) A (letOwnedTupleGo target it v) (fun _ sa1'=>wpAny (model prog w) A (assign target env v) (fun _ sa2 =>
     wpAny (model prog w) A (forIn ifs true fun c r=>if r=true then do let ok <- isTrue c env (eval c env);pure (ForInStep.yield ok) else pure (ForInStep.yield r)) (fun ok sa3 =>
      if ok=true then wpAny (model prog w) A (eval kx env) (fun kv sa4=>wpAny (model prog w) A (eval vx env) (fun vv sa5 =>
       wpAny (model prog w) A (dictSet D kv vv) (fun _ sa6=>∃ m,m<n/\I m sa6) (fun _ _=>False) sa5) (fun _ _=>False) sa4) (fun _ _=>False) sa3
      else ∃ m,m<n/\I m sa3) (fun _ _=>False) sa2) (fun _ _=>False) sa1') (fun _ _=>False) sa1) (fun _ _=>False) s)
  (n:Nat) (h:I n s) :
  codeAny (model prog w) A (.compLoop (.DictComp kx vx [⟨target,iter,ifs,0⟩] scope pos) 0 it (.ref D) env) R s:=by
 refine codeAny_loop rfl I (fun n s hI=>?_) n h;show wpAny _ A ((compTurn (.DictComp kx vx [⟨target,iter,ifs,0⟩] scope pos) 0 it (.ref D) env).onRaise (fun x=>do noteFrame x env;theTreesLotGoes x)) _ _ s;refine wpAny_noted ?_;rw [compTurn_dict];refine qa (yS (qa (qp (turn n s hI) (fun r sa1 hd1=>?_) fun _ _ h'=>h'.elim)));cases r with
 | none=>exact qc hd1
 | some v =>
  refine qa (qp hd1 (fun _ sa1' ha1'=>?_) fun _ _ h'=>h'.elim);refine qa (qp ha1' (fun _ sa2 ha2=>qa (qp ha2 (fun ok sa3 ha3=>?_) fun _ _ h'=>h'.elim)) fun _ _ h'=>h'.elim);cases ok with
  | false=>exact qc ⟨rfl,ha3⟩
  | true =>
   exact qa (qa (qp ha3 (fun kv sa4 ha4=>qa (qH (qp ha4 (fun vv sa5 ha5=>qa (yS (qH (qp ha5 (fun _ sa6 ha6=>qc ⟨rfl,ha6⟩) fun _ _ h'=>h'.elim)))) fun _ _ h'=>h'.elim))) fun _ _ h'=>h'.elim))
end
def tDCJ (P:Program) (w:World) (K:W.Frag) (k:Nat) (g:TG) (tt:TT) (te tv:TE) (σ:St) (Q:VK) (J:It) (H1:Hp):Prop:=∃ W:Nat->Nat->List (Addr×List Int)->St->Hp->Prop,(∃ m,W 0 m [] (σ++List.replicate k none) H1)/\∀ i m bs σ' H,W i m bs σ' H->InS K H bs ∧
 ((J.stop i H/\∀ D,H D=none->Q (.ref D) (upd H D (Yg P w D bs))) ∨
 (J.go i H/\bs.length<=4000/\∃ N:List (Addr×List Int)->St->Hp->Prop,(∀ bs' σ' H',N bs' σ' H'->∃ m',m'<m/\W (i+1) m' bs' σ' H') ∧
  ∀ x H',J.yld i H x H'->g x σ' H' fun σ2 H2=>tt σ2 H2 fun b H3=>if b=true then te σ2 H3 fun y H4=>tv σ2 H4 fun z H5=>∃ b ks,y = .ref b/\z = .bl true/\JA K H5 y ks/\InS K H5 bs/\N (qcY bs b ks) σ2 H5 else N bs σ2 H3))
def qjH (P:Program) (w:World) (K:W.Frag) (k:Nat) (wi:TI) (g:TG) (tt:TT) (te tv:TE):TE:=fun σ H Q=>wi σ H (tDCJ P w K k g tt te tv σ Q)
section
variable {X:Cx}
theorem qgh {pins:List (Addr×Obj)}{σ σ':St}{H H':Hp}{sa2 s':Shared}{L:List Str}{scope:Scope}{cl:List (Str×Addr)}{fp:List Addr}{bs:List (Addr×List Int)}{D C:Addr}{pl:List (Addr×Obj)}
  (I:Inv X pins σ H sa2) (hf:∀ b∈fp,Jl X pins H b) (hD:sa2.heap.objs.size=D)
  (J:Inv (qo X L scope cl C sa2 H fp) pl σ' H' s') (hpD:Z4 X.prog X.w D bs s'.heap) (hHD:H' D=none) :
  Inv X pins σ (upd H' D (Yg X.prog X.w D bs)) s':=by
 have B:Un (frs X.stack) fp H H' sa2.heap s'.heap:=J.base;have neD:∀ b o,sa2.heap.get? b=some o->b≠D:=fun b o e=>by rw [<- hD];exact qg (qi e)
 refine I.call' (ch:=fp) J.os ⟨B.keep,B.slot,fun b o e hn hx=>?_,B.there,fun b xs e=>?_,fun b o u e=>?_,fun b ps e=>?_⟩ (fun b o e=>?_) J.bare (fun b hb=>⟨(hf b hb).2.2.2.1,(hf b hb).2.1,(hf b hb).2.2.2.2.1,(hf b hb).2.2.2.2.2⟩)
 .rw [qC (neD b o e)];exact B.free b o e hn hx
 .have:=B.tups b xs e;rw [qC (qt this hHD)];exact this
 .have:=B.frzs b o u e;rw [qC (qt this hHD)];exact this
 .obtain ⟨more,this⟩:=B.tbls b ps e;exact ⟨more,by rw [qC (qt this hHD)];exact this⟩
 .by_cases hb:b=D
  .subst hb;rw [qE] at e;cases e
   exact Z4.ok hpD
  .rw [qC hb] at e;exact (J.hok b o e).stay (fun _ _ _ q=>q) (fun c q=>by rw [qC (qt q hHD)];exact q) fun c xs q=>by rw [qC (qt q hHD)];exact q
theorem Z4.stay {P:Program}{w:World}{a:Addr}{bs:List (Addr×List Int)}{h1 h2:Heap}(p:Z4 P w a bs h1) (k:∀ o,h1.get? a=some o->h2.get? a=some o):Z4 P w a bs h2:=⟨p.1.at k,p.2⟩
theorem qeM {pins:List (Addr×Obj)}{σ:St}{H:Hp}{sa2:Shared}{L:List Str}{scope:Scope}{cl:List (Str×Addr)}{fp:List Addr}{sc:Scope}{N:List Str}{tg kx vx iter:Expr}{ifs:List Expr}{pos:Pos}
  {g:TG}{tt:TT}{te tv:TE}{Q:VK}{J:It}{it:Addr}{tn:Nat->Heap->Prop}{RR:Value->Addr->Result->Shared->Prop}{E:Value->Shared->Prop}
  (hu:X.A.units+64<cLine) (hc:X.calm=true) (hsc:X.env.scope=sc) (hN:X.N=N) (ok:jf sc N L scope=true) (hc1:∀ x c,cl.lookup x=some c->X.env.cells.lookup x=some c)
  (hc2:∀ y∈scope.names,y.2 = .free->∃ c,cl.lookup y.1=some c)
  (hg:∀ cl C sa2 Ha2 fp,PG (qo X L scope cl C sa2 Ha2 fp) tg g) (hi:∀ cl C sa2 Ha2 fp,Ifs (qo X L scope cl C sa2 Ha2 fp) ifs tt) (he:∀ cl C sa2 Ha2 fp,PE (qo X L scope cl C sa2 Ha2 fp) kx te) (hv:∀ cl C sa2 Ha2 fp,PE (qo X L scope cl C sa2 Ha2 fp) vx tv)
  (I:Inv X pins σ H sa2) (T:Turn X.prog X.w X.K tg J fp it tn) (st:tn 0 sa2.heap) (hf:∀ b∈fp,Jl X pins H b) (hw:tDCJ X.prog X.w X.K L.length g tt te tv σ Q J H)
  (hR:∀ D C m H' s' bs,s'.heap.Ns C m->sa2.heap.objs.size=D->sa2.heap.objs.size<C->H' C=none->D≠C->Inv X pins σ (upd H' D (Yg X.prog X.w D bs)) s'->Q (.ref D) (upd H' D (Yg X.prog X.w D bs))->RR (.ref D) C (.ok .next) s') :
  wpAny (model X.prog X.w) X.A newDict (fun acc sa3=>wpAny (model X.prog X.w) X.A (newFunctionEnv scope X.env.globals cl [] X.env.qual none .none (some X.env)) (fun cenv sa4 =>
   codeAny (model X.prog X.w) X.A (.compStart (.DictComp kx vx [⟨tg,iter,ifs,0⟩] scope pos) 0 (.ref it) acc { cenv with scope:=relabel scope X.env }) (RR acc cenv.locals) sa4) E sa3) E sa2:=by
 refine yb (wpAny_newFunctionEnv (fun y hy=>(yB ok hy).1) (by intro y hy;simp at hy) (fun hd1 hns1 hsb1=>?_) (yM ok));dsimp only at hns1 hsb1 ⊢;generalize hH2:sa2.heap.push { cls:=.type "dict",dict:=none,data:=.dict #[] }=H2 at hns1 hsb1 ⊢;have hC:H2.objs.size=sa2.heap.objs.size+1:=by rw [<- hH2,qV]
 have hCle:sa2.heap.objs.size<=H2.objs.size:=by rw [hC];exact Nat.le_succ _
 have hDC:sa2.heap.objs.size≠H2.objs.size:=by rw [hC];exact qg (qZ _)
 have hlt:∀ b∈fp,b<sa2.heap.objs.size:=fun b hb=>by
  obtain ⟨o,e,_⟩:=T.obj 0 _ st b hb;exact qi e
 have below:∀ b,b<sa2.heap.objs.size->b≠H2.objs.size:=fun b hb=>by rw [hC];exact qg (qT hb)
 have old:∀ b o,sa2.heap.get? b=some o->hd1.get? b=some o:=fun b o e=>hsb1.extBut b o (below b (qi e)) (qb _ (hH2 ▸ qb _ e));have hacc:hd1.get? sa2.heap.objs.size=some { cls:=.type "dict",dict:=none,data:=.dict #[] }:=hsb1.extBut _ _ hDC (qb _ (hH2 ▸ qj _ rfl));have Yok:=ZU (L:=L) (scope:=scope) (cl:=cl) (C:=H2.objs.size) (fp:=fp) I hsc hN ok hc1 hc2 hf hlt hCle;have P1:Z4 X.prog X.w sa2.heap.objs.size [] hd1:=⟨⟨_,#[],0,hacc,⟨rfl,rfl,rfl⟩,rfl,rfl,List.nodup_nil⟩,beq_eq_false_iff_ne.mpr (Ne.symm (qg I.room0))⟩;generalize hDn:sa2.heap.objs.size=D at *;generalize hCn:H2.objs.size=C at *;have sat1:tn 0 hd1:=T.keep _ _ _ st fun b _ o e=>old b o e;have cellD:∀ x c,cl.lookup x=some c->c≠D:=fun x c e=>by
  obtain ⟨v,q⟩:=I.cell x c (hc1 x c e);rw [<- hDn];exact qg q.lt
 have fpY:∀ {H':Hp}{oD:Obj},(∀ b∈fp,H' b=none)->∀ b∈fp,Jl (qo X L scope cl C sa2 H fp) [(D,oD)] H' b:=fun {H' oD} hn b hb=>by
  refine ⟨hn b hb,(Yok.exf b hb).1,Yok.exfs b hb,.inl hb,(Yok.exf b hb).2,fun p hp=>?_⟩;have e:p=(D,oD):=by
   have:p∈[(D,oD)]:=hp;simpa using this
  subst e;exact Ne.symm (qg (hlt b hb))
 have nfsD:D∉(qo X L scope cl C sa2 H fp).fs:=fun z=>by
  obtain ⟨_,o,ho,_⟩:=Yok.funs.mem z;exact absurd (show D<sa2.heap.objs.size from qi ho) (by rw [hDn];exact ye _)
 have pinD:∀ {σ':St}{H':Hp}{s':Shared}{pl:List (Addr×Obj)}{bs:List (Addr×List Int)},Inv (qo X L scope cl C sa2 H fp) pl σ' H' s'->Z4 X.prog X.w D bs s'.heap->H' D=none →
   ∃ oD,s'.heap.get? D=some oD/\Inv (qo X L scope cl C sa2 H fp) [(D,oD)] σ' H' s':=fun {σ' H' s' pl bs} J e hn=>by
  obtain ⟨⟨o,es,ep,ho,ex,hd,r⟩,_⟩:=e;refine ⟨o,ho,J.pins_of fun p hp=>?_⟩;have e':p=(D,o):=by simpa using hp
  subst e';exact ⟨ho,hn,hDC,nfsD,fun v z=>by rw [hd] at z;cases z⟩
 have Ia1:Inv (qo X L scope cl C sa2 H fp) [] (σ++List.replicate L.length none) H { sa2 with heap:=hd1,toks:=sa2.toks+([]:List (Str×Value)).length } :=
  Jo I hsc hN ok hc1 Yok (by rw [hDn];exact hCle) rfl I.bare old hns1
 have HD:H D=none:=I.hok.fresh (by rw [hDn];exact Nat.le_refl _);obtain ⟨W,⟨m0,w0⟩,turn⟩:=hw;have loop:codeAny (model X.prog X.w) X.A (.compLoop (.DictComp kx vx [⟨tg,iter,ifs,0⟩] scope pos) 0 (.ref it) (.ref D) (compEnvC scope cl C X.env)) (RR (.ref D) C)
   { sa2 with heap:=hd1,toks:=sa2.toks+([]:List (Str×Value)).length }:=by
  obtain ⟨oD1,_,J1⟩:=pinD Ia1 P1 HD;refine j6 (fun n s'=>∃ i bs oD σ' H',Inv (qo X L scope cl C sa2 H fp) [(D,oD)] σ' H' s'/\Z4 X.prog X.w D bs s'.heap/\tn i s'.heap/\(∀ b∈fp,H' b=none)/\W i n bs σ' H')
   ?_ m0 ⟨0,[],oD1,_,H,J1,P1,sat1,fun b hb=>(hf b hb).1,w0⟩
  rintro n s3 ⟨i,bs,oD,σ3,H3,I3,p3,st3,fr3,w3⟩;have hp3:=I3.pin (D,oD) (by simp);obtain ⟨in3,tu⟩:=turn i n bs σ3 H3 w3;rcases tu with ⟨stop,q⟩ | ⟨go,hlen,Nx,hNx,step⟩
  .refine thn (T.done (qo X L scope cl C sa2 H fp) rfl rfl rfl hc i _ s3 σ3 H3 _ I3 (fpY fr3) st3 stop) fun r s4 ⟨hr,I4⟩=>?_;subst hr;have hp4:=I4.pin (D,oD) (by simp);obtain ⟨m4,hn4,_⟩:=I4.loc;have p4:Z4 X.prog X.w D bs s4.heap:=p3.stay fun o e=>by
    rw [hp3.1] at e;cases e
    exact hp4.1
   exact hR D C m4 H3 s4 bs hn4 rfl (by rw [hC];exact qZ _) I4.free hDC (qgh I hf hDn I4 p4 hp4.2.1) (q D hp4.2.1)
  .refine thn (T.item (qo X L scope cl C sa2 H fp) rfl rfl rfl hc i _ s3 σ3 H3 _ I3 (fpY fr3) st3 go) fun r s4 ⟨u,hr,h4⟩=>?_;subst hr;refine thn h4 fun _ s5 hq9=>?_;obtain ⟨x,H5,I5,r5,y5,st5,fr5⟩:=hq9;have I5':=I5.pinned (fpY fr5) (T.obj _ _ st5);refine thn (hg cl C sa2 H fp _ s5 σ3 H5 x u _ I5' r5 (step x H5 y5)) fun _ s6 hq9=>?_;obtain ⟨σ6,H6,I6,q6⟩:=hq9;refine thn (hi cl C sa2 H fp _ s6 σ6 H6 _ I6 q6) fun ok s7 hq9=>?_;obtain ⟨H7,I7,q7⟩:=hq9;have later:∀ {σ':St}{H':Hp}{s':Shared},Inv (qo X L scope cl C sa2 H fp) ([(D,oD)]++jL fp s5.heap) σ' H' s' →
     tn (i+1) s'.heap/\(∀ b∈fp,H' b=none)/\Z4 X.prog X.w D bs s'.heap/\H' D=none:=fun {σ' H' s'} J=>by
    refine ⟨T.keep _ _ _ st5 fun b hb o e=>(J.pin (b,o) (qh _ (qh _ (yq hb e)))).1,fun b hb=>?_,?_⟩
    .obtain ⟨o,e,d⟩:=T.obj _ _ st5 b hb;exact (J.pin (b,o) (qh _ (qh _ (yq hb e)))).2.1
    .have z:=J.pin (D,oD) (qh _ (qr _ (by simp)));exact ⟨p3.stay fun o e=>by rw [hp3.1] at e;cases e;exact z.1,z.2.1⟩
   cases ok with
   | false =>
    rw [if_neg (by simp)] at q7 ⊢;obtain ⟨m',hm',w'⟩:=hNx _ _ _ q7;obtain ⟨t1,t2,t3,t4⟩:=later I7;obtain ⟨oD7,_,J7⟩:=pinD I7 t3 t4;exact ⟨m',hm',i+1,bs,oD7,σ6,H7,J7,t3,t1,t2,w'⟩
   | true =>
    rw [if_pos rfl] at q7 ⊢;refine thn (he cl C sa2 H fp _ s7 σ6 H7 _ I7 q7) fun y s8 hq9=>?_;obtain ⟨v,H8,I8,r8,q8⟩:=hq9;refine thn (hv cl C sa2 H fp _ s8 σ6 H8 _ I8 q8) fun y2 s9 hq9=>?_;obtain ⟨v2,H9,I9,r9,q9⟩:=hq9;obtain ⟨b,ks,rfl,rfl,tk9,in9,nx9⟩:=q9;obtain ⟨t1,t2,t3,t4⟩:=later I9;have r8:y=Value.ref b:=r8;subst r8;have r9:y2=Value.bool true:=r9;subst r9;have dh:s9.heap.DictOfH (kT X.prog X.w) D (YZ bs):=t3.1.of fun x hx=>by
     obtain ⟨c,hc,rfl⟩:=ql.mp hx;exact (I9.tupK (in9 c hc)).key
    have nbD:∀ b∈fp,b≠D:=fun b hb=>qg (hlt b hb);refine wpAny_dictSet_heap (A:=(qo X L scope cl C sa2 H fp).A) (hsz:=qP (yI (by unfold YZ;rw [List.length_map];exact hlen))) (by show X.A.units<_;omega) ((I9.tupK tk9).key) dh fun h' dh' sb=>?_;rw [Yd] at dh';obtain ⟨m',hm',w'⟩:=hNx _ _ _ nx9;have p9:Z4 X.prog X.w D (qcY bs b ks) h':=⟨qcn.get dh',t3.2⟩;have I10:=(I9.pins_of (pins':=[]) (fun p hp=>by simp at hp)).turned (it:=D) (h':=h') (t':=s9.toks+(kT X.prog X.w).draws ks) (fun b o hb e=>sb.extBut b o hb e) t4 hDC
      (.inr (by show sa2.heap.objs.size<=D;rw [hDn];exact Nat.le_refl _)) cellD (fun p hp=>by
       have:p∈([]:List (Addr×Obj)):=hp;simp at this)
    obtain ⟨oD9,_,J9⟩:=pinD I10 p9 t4;exact ⟨m',hm',i+1,qcY bs b ks,oD9,σ6,H9,J9,p9,T.keep _ _ _ t1 fun b hb o e=>sb.extBut b o (nbD b hb) e,t2,w'⟩
 exact codeAny_compStart_dict loop (T.self _ 0 _ _ _ sat1 loop)
theorem qih {L:List Str}{scope sc:Scope}{N:List Str}{tg kx vx iter:Expr}{ifs:List Expr}{pos:Pos}{wi:TI}{g:TG}{tt:TT}{te tv:TE}
  (hu:X.A.units+64<cLine) (hc:X.calm=true) (hsc:X.env.scope=sc) (hN:X.N=N) (ok:jf sc N L scope=true)
  (hi:PI X tg iter wi) (hg:∀ cl C sa2 Ha2 fp,PG (qo X L scope cl C sa2 Ha2 fp) tg g) (hf:∀ cl C sa2 Ha2 fp,Ifs (qo X L scope cl C sa2 Ha2 fp) ifs tt) (he:∀ cl C sa2 Ha2 fp,PE (qo X L scope cl C sa2 Ha2 fp) kx te) (hv:∀ cl C sa2 Ha2 fp,PE (qo X L scope cl C sa2 Ha2 fp) vx tv)
  (hs:∀ x,foldedSetIterable iter X.env x=pure x:=by intro _;rfl) :
  PE X (.DictComp kx vx [⟨tg,iter,ifs,0⟩] scope pos) (qjH X.prog X.w X.K L.length wi g tt te tv):=by
 intro pins s σ H Q I h;obtain ⟨cl,hcl,hc1,hc2⟩:=jV (env:=X.env) (scope:=scope) fun y hy hfr=>by
  refine I.ok.has y.1 ?_;have z:=(yB ok hy).2.2 hfr;rw [<- hsc] at z;exact z
 rw [arm_eval_DictComp];refine wpAny_comprehension_free (use:=none) rfl hs hcl (yM ok) (fun y hy hl=>((yB ok hy).2.1 hl).1) (thn (hi pins s σ H _ I h) fun v s1 h1=>thn h1 fun itv s2 h2=>?_);obtain ⟨it,fp,tn,J,H2,e,I2,T,st2,f2,hw⟩:=h2;subst e;refine qeM (RR:=fun acc C=>compPost (model X.prog X.w) X.A X.xe none (EP X pins σ Q) acc C) hu hc hsc hN ok hc1 hc2 hg hf he hv I2 T st2 f2 hw ?_;intro D C m H' s' bs hns hD hC hHC hDC J' q;refine ⟨m,hns,fun h'' hs''=>⟨.ref D,upd H' D (Yg X.prog X.w D bs),?_,rfl,q⟩⟩;have hsz:=I2.sz;refine J'.turned (it:=C) (t':=s'.toks) (fun b o hb e=>hs''.extBut b o hb e) (by rw [qC (Ne.symm hDC)];exact hHC) (Ne.symm (qg (yj I2.lt hC))) (.inr (qq hsz (qP hC))) (fun x c e=>?_) (fun p hp=>?_)
 .obtain ⟨v,z⟩:=I2.cell x c e;exact qg (yj z.lt hC)
 .exact qg (yj (qi (I2.pin p hp).1) hC)
end
section
variable {X:Cx}{K:W.Frag}{tg iter:Expr}{pos:Pos}{P:Program}{w:World}
def qlk (P:Program) (w:World) (K:W.Frag) (k:Nat) (ti:TId) (g:TGd) (tt:TTd) (te tv:TEd):TEd:=fun ρ U Q=>ti ρ U fun J U1=>J.n<=4000/\∃ Pv:Nat->List (List Int)->Rho->Mu->Prop,Pv 0 [] (ρ++List.replicate k none) U1/\(∀ i ys ρ' U',i<=J.n->Pv i ys ρ' U'->J.ok U') ∧
 (∀ i ys ρ' U',i<J.n->Pv i ys ρ' U'->g (J.item i) ρ' U' fun ρ2 U2=>tt ρ2 U2 fun b U3=>if b=true then te ρ2 U3 fun y U4=>∃ z,z≠[]/\y = .d (jQ z)/\tv ρ2 U4 fun y2 U5=>y2 = .d (.bool true)/\Pv (i+1) (qbe ys z) ρ2 U5 else Pv (i+1) ys ρ2 U3) ∧
 ∀ ys ρ' U',Pv J.n ys ρ' U'->Q (.x (qcs P w K ys)) U'
theorem qhB {k:Nat}{ti:TId}{g:TGd}{tt:TTd}{te tv:TEd}{σ:St}{H:Hp}{Q:VK}(h:up K (qlk P w K k ti g tt te tv) σ H Q):qjH P w K k (upI K ti) (upG K g) (upT K tt) (up K te) (up K tv) σ H Q:=by
 obtain ⟨ρ,U,Q0,hS,hM,h,cl⟩:=h;refine ⟨ρ,U,_,hS,hM,h,fun J0 U1 J H1 q M1 s1 sim=>?_⟩;obtain ⟨hn,Pv,h0,hok,hstep,hend⟩:=q;have S0:RelS K (ρ++List.replicate k none) U1 (σ++List.replicate k none) H1:=by
  have S1:=hS.same s1;refine ⟨by simp [S1.len],fun i e he=>?_⟩;by_cases hi:i<ρ.length
  .rw [qv hi] at he;rw [qv (by rw [<- S1.len];exact hi)];exact S1.get i e he
  .rw [qS (by omega),yF] at he;split at he <;> cases he
 refine ⟨fun i m bs σ' H'=>m=J0.n - i/\i<=J0.n/\∃ ρ' U',bs.length<=i/\RelS K ρ' U' σ' H'/\RelM K U' H'/\yd (mask U1 H1) (mask U' H')/\InS K (mask U' H') bs/\Pv i (bs.map (·.2)) ρ' U',⟨_,rfl,qB _,_,U1,Nat.le_refl _,S0,M1,yd.refl _,(fun _ z=>nomatch z),h0⟩,?_⟩;rintro i m bs σ' H' ⟨rfl,hi,ρ',U',hbl,S',M',s',hA,p⟩;refine ⟨fun b hb=>(hA b hb).up,?_⟩;have sm:=sim U' H' M' s' (hok i _ ρ' U' hi p) i;by_cases hlt:i<J0.n
 .obtain ⟨hgo,hyl⟩:=sm.1 hlt;refine .inr ⟨hgo,by omega,fun bs2 σ2 H2=>∃ ρ' U',bs2.length<=i+1/\RelS K ρ' U' σ2 H2/\RelM K U' H2/\yd (mask U1 H1) (mask U' H2)/\InS K (mask U' H2) bs2/\Pv (i+1) (bs2.map (·.2)) ρ' U',fun ys2 σ2 H2 z=>⟨J0.n - (i+1),by omega,rfl,hlt,z⟩,fun x H2 y=>?_⟩;obtain ⟨M2,s2,i2⟩:=hyl x H2 y;refine ⟨_,ρ',U',_,i2,S'.same s2,M2,hstep i _ ρ' U' hlt p,fun ρ3 U3 σ3 H3 q3 S3 M3 s3=>⟨ρ3,U3,_,S3,M3,q3,fun b U4 H4 q4 M4 s4=>?_⟩⟩;have st:=((s'.trans s2).trans s3).trans s4;cases b with
  | true =>
   refine qa4 ⟨ρ3,U4,_,S3.same s4,M4,(by simpa using q4),fun e U5 v H5 q5 M5 s5 i5=>?_⟩;obtain ⟨z,zn,rfl,q5⟩:=q5;have i5:Is K (mask U5 H5) v (jQ z):=i5;refine ⟨ρ3,U5,_,(S3.same s4).same s5,M5,q5,fun e2 U6 v2 H6 q6 M6 s6 i6=>?_⟩;obtain ⟨rfl,q6⟩:=q6;have tz:JA K (mask U6 H6) v z:=(qa9 i5 zn).same s6;have hA5:=hA.same ((((s2.trans s3).trans s4).trans s5).trans s6);obtain ⟨⟨b,rfl,_⟩,_⟩:=id tz;have i6:Is K (mask U6 H6) v2 (.bool true):=i6;cases i6
   refine ⟨b,z,rfl,rfl,tz.up,fun c hc=>(hA5 c hc).up,ρ3,U6,?_,((S3.same s4).same s5).same s6,M6,(st.trans s5).trans s6,fun c hc=>?_,by rw [qak];exact q6⟩
   .unfold qcY;split
    .omega
    .rw [List.length_append,List.length_singleton];omega
   .unfold qcY at hc;split at hc
    .exact hA5 c hc
    .rcases List.mem_append.mp hc with h | h
     .exact hA5 c h
     .rw [qA.mp h];exact tz
  | false=>exact Z3 ⟨ρ3,U4,by omega,S3.same s4,M4,st,hA.same ((s2.trans s3).trans s4),by simpa using q4⟩
 .have e:i=J0.n:=by omega
  subst e;refine .inl ⟨sm.2 (Nat.le_refl _),fun D hD=>?_⟩;obtain ⟨M4,s4,hn'⟩:=M'.laid (o:=Yg P w D bs) hD;refine cl _ U' _ _ (hend _ ρ' U' p) M4 ((s1.trans s').trans s4) ⟨D,bs,rfl,?_,hA.same s4,rfl⟩;rw [qX hn'];exact qE
theorem qld {L:List Str}{scope sc:Scope}{N:List Str}{kx vx:Expr}{ifs:List Expr}{ti:TId}{g:TGd}{tt:TTd}{te tv:TEd}
  (hu:X.A.units+64<cLine) (hc:X.calm=true) (hsc:X.env.scope=sc) (hN:X.N=N) (ok:jf sc N L scope=true)
  (hi:DI K X tg iter ti) (hg:∀ cl C sa2 Ha2 fp,DG K (qo X L scope cl C sa2 Ha2 fp) tg g) (hf:∀ cl C sa2 Ha2 fp,qht K (qo X L scope cl C sa2 Ha2 fp) ifs tt) (he:∀ cl C sa2 Ha2 fp,DE K (qo X L scope cl C sa2 Ha2 fp) kx te) (hv:∀ cl C sa2 Ha2 fp,DE K (qo X L scope cl C sa2 Ha2 fp) vx tv)
  (hK:X.K=K:=by rfl) (hP:X.prog=P:=by rfl) (hw:X.w=w:=by rfl) (hs:∀ x,foldedSetIterable iter X.env x=pure x:=by intro _;rfl) :
  DE K X (.DictComp kx vx [⟨tg,iter,ifs,0⟩] scope pos) (qlk P w K L.length ti g tt te tv):=by
 subst hK hP hw;exact PE.mono (qih hu hc hsc hN ok hi hg hf he hv hs) fun _ _ _=>qhB
theorem qcR (hc:X.calm=true):yG X (.type "list") (fun xs H Q=>∃ p bs,xs=[.ref p]/\H p=some (Yg X.prog X.w p bs)/\bs.length<=4000/\∀ l,H l=none->Q (.ref l) (upd H l (.lst (bs.map fun b=>V.ref b.1)))):=by
 intro pins s σ H xs us Q I r h;obtain ⟨p,bs,rfl,hp,hl,q⟩:=h;obtain ⟨u,rfl,rx⟩:=Jt r;cases rx
 obtain ⟨⟨o,es,ep,ho,h2,h3,h4,h5⟩,hd⟩:Z4 X.prog X.w p bs s.heap:=(I.hok _ _ hp).1;have hes:es.size=bs.length:=by rw [<- Array.length_toList,h4,List.length_map];unfold YZ;rw [List.length_map]
 refine qei (by show X.A.handled=none;exact I.ok.hd hc) hd ⟨o,ho,h2,h3⟩ (qP (yI (by omega))) fun h' tk acc' c' kp hS' ea=>?_;have ev:acc'.toList=bs.map fun b=>Value.ref b.1:=by
  rw [ea,h4,List.map_map];unfold YZ;rw [List.map_map];rfl
 have vs:∀ l:List (Addr×List Int),yy (l.map fun b=>V.ref b.1) (l.map fun b=>Value.ref b.1):=fun l=>by
  induction l with
  | nil=>exact .nil
  | cons a t ih=>exact .cons rfl ih
 refine ⟨.ref s.heap.objs.size,_,I.laid (t':=tk) kp (Nat.le_refl _) (show ja X.prog X.w _ h' _ (.lst (bs.map fun b=>V.ref b.1)) from ⟨?_,acc'.toList,c',?_,?_⟩),rfl,q _ (I.hok.fresh (Nat.le_refl _))⟩
 .rw [List.length_map];exact qP (yI hl)
 .rw [ev];exact vs bs
 .rw [hS']
theorem qg5 {H:Hp}:∀ {bs:List (Addr×List Int)},InS K H bs->IsAll K H (bs.map fun b=>V.ref b.1) ((bs.map (·.2)).map jQ)
 | [],_=>.nil
 | b::t,h=>by
  obtain ⟨⟨a,e,q⟩,n⟩:=h b qe;cases e
  exact .cons (.tup q (IsAll.ints b.2)) (qg5 fun c hc=>h c (qf _ hc))
end
end L2
namespace L2
open PySem PySem.Spec PyProof.Rows PySem.W
theorem Room.u1 {k:Nat}{A:Around}(r:Room k A):A.units+1<cLine:=by have:=r.un;omega
def JW (n:Pt) (qs:List Pt) (k:Int):List Pt:=qs.filter fun q=>decide (vl n q=k)
def RkK (n:Pt) (qs:List Pt) (ks:List Int):Prop:=ks.Pairwise (· < ·)/\∀ k,k∈ks ↔ ∃ q∈qs,vl n q=k
def Rk (n:Pt) (qs:List Pt) (rs:List (List Pt)):Prop:=∃ ks,RkK n qs ks/\rs=ks.map (JW n qs)
theorem qfy {n:Pt}{qs:List Pt}{ks ks':List Int}(h:RkK n qs ks) (h':RkK n qs ks'):ks=ks':=by
 have n1:ks.Nodup:=h.1.imp fun h z=>by omega
 have n2:ks'.Nodup:=h'.1.imp fun h z=>by omega
 refine List.Perm.eq_of_pairwise (fun a b _ _ h1 h2=>?_) h.1 h'.1 ((List.perm_ext_iff_of_nodup n1 n2).mpr fun k=>(h.2 k).trans (h'.2 k).symm);have h1:a<b:=h1;have h2:b<a:=h2;omega
theorem Zv {n:Pt}{qs:List Pt}{rs rs':List (List Pt)}(h:Rk n qs rs) (h':Rk n qs rs'):rs=rs':=by
 obtain ⟨ks,h,rfl⟩:=h;obtain ⟨ks',h',rfl⟩:=h';rw [qfy h h']
theorem qdF {n:Pt}{qs:List Pt}{rs:List (List Pt)}(h:Rk n qs rs):qhp n rs/\(∀ r∈rs,∀ x∈r,x∈qs)/\(∀ r∈rs,r.Sublist qs):=by
 obtain ⟨ks,h,rfl⟩:=h;have mf:∀ {k:Int}{x:Pt},x∈JW n qs k ↔ x∈qs/\vl n x=k:=fun {k x}=>by unfold JW;rw [List.mem_filter,decide_eq_true_eq]
 refine ⟨⟨fun r hr x hx y hy=>?_,?_⟩,fun r hr x hx=>?_,fun r hr=>?_⟩
 .obtain ⟨k,_,rfl⟩:=ql.mp hr;rw [(mf.mp hx).2,(mf.mp hy).2]
 .refine yh.mpr (h.1.imp fun {a b} hab x hx y hy=>?_);rw [(mf.mp hx).2,(mf.mp hy).2];exact hab
 .obtain ⟨k,_,rfl⟩:=ql.mp hr;exact (mf.mp hx).1
 .obtain ⟨k,_,rfl⟩:=ql.mp hr;exact List.filter_sublist
theorem qb9 {n:Pt}:∀ {ks:List Int}{qs:List Pt},ks.Nodup->(∀ q∈qs,vl n q∈ks)->((ks.map (JW n qs)).flatten).Perm qs
 | [],qs,_,h=>by
  cases qs with
  | nil=>exact .refl _
  | cons a t=>exact absurd (h a qe) (fun z=>nomatch z)
 | k::ks,qs,hn,h=>by
  have hk:=(List.nodup_cons.mp hn).1;rw [List.map_cons,List.flatten_cons];have e:ks.map (JW n qs)=ks.map (JW n (qs.filter fun q=>!decide (vl n q=k))):=by
   refine List.map_congr_left fun k' hk'=>?_;unfold JW;rw [List.filter_filter];refine List.filter_congr fun q _=>?_;by_cases c:vl n q=k'
   .have:¬ vl n q=k:=fun z=>hk (by rw [<- z,c];exact hk');simp [c];intro z;exact this (by rw [c,z])
   .simp [c]
  rw [e];refine (List.Perm.append_left _ (qb9 (List.nodup_cons.mp hn).2 fun q hq=>?_)).trans ?_
  .obtain ⟨h1,h2⟩:=List.mem_filter.mp hq;have h2:¬ vl n q=k:=by simpa using h2
   rcases List.mem_cons.mp (h q h1) with z | z
   .exact absurd z h2
   .exact z
  .exact List.filter_append_perm _ _
theorem JP {n:Pt}{qs:List Pt}{rs:List (List Pt)}(h:Rk n qs rs):rs.flatten.Perm qs:=by
 obtain ⟨ks,h,rfl⟩:=h;exact qb9 (h.1.imp fun h z=>by omega) fun q hq=>(h.2 _).mpr ⟨q,hq,rfl⟩
def Sep (n:Pt) (qs:List Pt):Prop:=∀ x∈qs,∀ y∈qs,vl n x=vl n y->x=y
theorem qap {Z:Type}{l:List Z}(hn:l.Nodup) (h:∀ x∈l,∀ y∈l,x=y):l.length<=1:=by
 rcases l with _ | ⟨a,_ | ⟨b,t⟩⟩
 .exact qB _
 .exact Nat.le_refl _
 .have:=h a qe b (by simp);subst this;exact absurd qe (List.nodup_cons.mp hn).1
theorem qgM {n:Pt}{qs:List Pt}{rs:List (List Pt)}(h:Rk n qs rs) (hn:qs.Nodup) (hs:Sep n qs):rs.length=qs.length/\Z1 n rs.flatten:=by
 have hp:=JP h;obtain ⟨⟨r1,r2⟩,r3,r4⟩:=qdF h;have one:∀ r∈rs,r.length<=1:=fun r hr=>qap ((r4 r hr).nodup hn) fun x hx y hy=>hs x (r3 r hr x hx) y (r3 r hr y hy) (r1 r hr x hx y hy);have pos:∀ r∈rs,r≠[]:=by
  obtain ⟨ks,h,rfl⟩:=h;intro r hr z;obtain ⟨k,hk,rfl⟩:=ql.mp hr;obtain ⟨q,hq,e⟩:=(h.2 k).mp hk;have:q∈JW n qs k:=by unfold JW;rw [List.mem_filter,decide_eq_true_eq];exact ⟨hq,e⟩
  rw [z] at this;exact nomatch this
 have len1:∀ rs:List (List Pt),(∀ r∈rs,r.length<=1)->(∀ r∈rs,r≠[])->rs.flatten.length=rs.length:=fun rs=>by
  induction rs with
  | nil=>exact fun _ _=>rfl
  | cons r t ih =>
   intro a b;have:=ih (fun r hr=>a r (qf _ hr)) (fun r hr=>b r (qf _ hr));have h1:=a r qe;have h2:=List.length_pos_iff.mpr (b r qe);rw [List.flatten_cons,List.length_append,List.length_cons];omega
 refine ⟨by rw [<- len1 rs one pos,hp.length_eq],?_⟩;unfold Z1;rw [List.pairwise_flatten];refine ⟨fun r hr=>?_,r2⟩;have:=one r hr;rcases r with _ | ⟨a,_ | ⟨b,t⟩⟩
 .exact .nil
 .exact List.pairwise_singleton _ _
 .simp at this
theorem FzR.sp {U m U':Mu}{e:En}(p:U.Perm m) (s:U'.Sublist m):FzR U e U' e:=(FzR.perm p).trans (FzR.sub s)
def cells (as:List Addr) (rs:List (List PyData)):Mu:=List.zipWith (fun a r=>(a,MO.lst r)) as rs
theorem YN {U:Mu}:∀ {as:List Addr}{rs:List (List PyData)},as.length=rs.length->(∀ c∈cells as rs,c∈U)->Rws U as rs
 | [],[],_,_=>.nil
 | a::as,r::rs,hl,h=>.cons (h (a,.lst r) qe) (YN (by simpa using hl) fun c hc=>h c (qf _ hc))
theorem qaT {as:List Addr}{rs:List (List PyData)}{i:Nat}{a:Addr}{r:List PyData}(h1:as[i]?=some a) (h2:rs[i]?=some r):∃ c1 c2,cells as rs=c1++(a,.lst r)::c2/\∀ r',cells as (rs.set i r')=c1++(a,.lst r')::c2:=by
 induction as generalizing rs i with
 | nil=>simp at h1
 | cons b t ih =>
  cases rs with
  | nil=>simp at h2
  | cons s u =>
   cases i with
   | zero =>
    have e1:b=a:=by simpa using h1
    have e2:s=r:=by simpa using h2
    subst e1 e2;exact ⟨[],cells t u,rfl,fun _=>rfl⟩
   | succ i =>
    obtain ⟨c1,c2,e1,e2⟩:=ih (rs:=u) (i:=i) (by simpa using h1) (by simpa using h2);refine ⟨(b,.lst s)::c1,c2,?_,fun r'=>?_⟩
    .show (b,MO.lst s)::cells t u=_;rw [e1];rfl
    .show (b,MO.lst s)::cells t (u.set i r')=_;rw [e2];rfl
structure Rw where
 k:Int
 a:Addr
 ps:List Pt
section
variable (f:Pt->PyData)
def rwC (R:List Rw):Mu:=R.map fun r=>(r.a,MO.lst (r.ps.map f))
def rwK (R:List Rw):List (Int×Addr):=R.map fun r=>(r.k,r.a)
structure RwI (n:Pt) (U0:Mu) (qs:List Pt) (R:List Rw):Prop where
 nd:(R.map (·.k)).Nodup
 ks:∀ k,k∈R.map (·.k) ↔ ∃ q∈qs,vl n q=k
 ps:∀ r∈R,r.ps=JW n qs r.k
 fr:∀ r∈R,r.a∉U0.map Prod.fst
end
theorem qhU {R:List Rw}{k:Int}{p:Int×Addr}(h:(rwK R).find? (fun p=>decide (p.1=k))=some p):∃ R1 r R2,R=R1++r::R2/\r.k=k/\r.a=p.2:=by
 have hm:=List.mem_of_find?_eq_some h;have hk:p.1=k:=by simpa using List.find?_some h
 obtain ⟨r,hr,e⟩:=ql.mp hm;obtain ⟨R1,R2,rfl⟩:=List.append_of_mem hr;refine ⟨R1,r,R2,rfl,?_,?_⟩
 .rw [<- hk,<- e]
 .rw [<- e]
theorem qhT {R:List Rw}{k:Int}(h:(rwK R).find? (fun p=>decide (p.1=k))=none):k∉R.map (·.k):=fun z=>by
 obtain ⟨r,hr,e⟩:=ql.mp z;have:=List.find?_eq_none.mp h (r.k,r.a) (ql.mpr ⟨r,hr,rfl⟩);exact this (by simpa using e)
theorem YG {n q:Pt}{qs:List Pt}{k:Int}(h:vl n q=k):JW n (qs++[q]) k=JW n qs k++[q]:=by
 unfold JW;rw [jn,List.filter_cons_of_pos (by simpa using h)];rfl
theorem YF {n q:Pt}{qs:List Pt}{k:Int}(h:vl n q≠k):JW n (qs++[q]) k=JW n qs k:=by
 unfold JW;rw [jn,List.filter_cons_of_neg (by simpa using h),List.filter_nil,List.append_nil]
theorem qhW {n q:Pt}{U0:Mu}{qs:List Pt}{R:List Rw}{y:Addr}(I:RwI n U0 qs R) (h:vl n q∉R.map (·.k)) (hy:y∉U0.map Prod.fst):RwI n U0 (qs++[q]) (R++[⟨vl n q,y,[q]⟩]):=by
 have none':∀ x∈qs,vl n x≠vl n q:=fun x hx z=>h ((I.ks _).mpr ⟨x,hx,z⟩);refine ⟨?_,fun k=>?_,fun r hr=>?_,fun r hr=>?_⟩
 .rw [List.map_append];refine List.nodup_append.mpr ⟨I.nd,by simp,fun a ha b hb z=>?_⟩;have hb:b=vl n q:=by simpa using hb
  exact h (by rw [<- hb,<- z];exact ha)
 .rw [List.map_append,List.mem_append,I.ks k];constructor
  .rintro (⟨x,hx,e⟩ | h)
   .exact ⟨x,qr _ hx,e⟩
   .have h:k=vl n q:=by simpa using h
    exact ⟨q,by simp,h.symm⟩
  .rintro ⟨x,hx,e⟩;rcases List.mem_append.mp hx with z | z
   .exact .inl ⟨x,z,e⟩
   .have:x=q:=by simpa using z
    subst this;exact .inr (by simpa using e.symm)
 .rcases List.mem_append.mp hr with z | z
  .have:vl n q≠r.k:=fun e=>h (by rw [e];exact ql.mpr ⟨r,z,rfl⟩);rw [YF this];exact I.ps r z
  .have:r=⟨vl n q,y,[q]⟩:=by simpa using z
   subst this;show [q]=_;rw [YG rfl];have:JW n qs (vl n q)=[]:=List.filter_eq_nil_iff.mpr fun x hx=>by simpa using none' x hx
   rw [this];rfl
 .rcases List.mem_append.mp hr with z | z
  .exact I.fr r z
  .have:r=⟨vl n q,y,[q]⟩:=by simpa using z
   subst this;exact hy
theorem qhV {n q:Pt}{U0:Mu}{qs:List Pt}{R1 R2:List Rw}{r:Rw}(I:RwI n U0 qs (R1++r::R2)) (h:r.k=vl n q):RwI n U0 (qs++[q]) (R1++⟨r.k,r.a,r.ps++[q]⟩::R2):=by
 have ek:(R1++(⟨r.k,r.a,r.ps++[q]⟩:Rw)::R2).map (·.k)=(R1++r::R2).map (·.k):=by simp
 have nd:=I.nd;have oth:∀ t,t∈R1\/t∈R2->vl n q≠t.k:=fun t ht z=>by
  rw [List.map_append,List.map_cons] at nd;rw [<- h] at z;rw [List.nodup_append] at nd;rcases ht with ht | ht
  .exact nd.2.2 t.k (ql.mpr ⟨t,ht,rfl⟩) r.k qe z.symm
  .exact (List.nodup_cons.mp nd.2.1).1 (by rw [z];exact ql.mpr ⟨t,ht,rfl⟩)
 refine ⟨by rw [ek];exact nd,fun k=>?_,fun t ht=>?_,fun t ht=>?_⟩
 .rw [ek,I.ks k];constructor
  .rintro ⟨x,hx,e⟩;exact ⟨x,qr _ hx,e⟩
  .rintro ⟨x,hx,e⟩;rcases List.mem_append.mp hx with z | z
   .exact ⟨x,z,e⟩
   .have:x=q:=by simpa using z
    subst this;exact (I.ks k).mp (by rw [<- e,<- h];simp)
 .have go:∀ t,t∈R1\/t∈R2->t.ps=JW n (qs++[q]) t.k:=fun t ht=>by
   rw [YF (oth t ht)];exact I.ps t (by simp;rcases ht with h | h <;> simp [h])
  rcases List.mem_append.mp ht with z | z
  .exact go t (.inl z)
  .rcases List.mem_cons.mp z with z | z
   .subst z;show r.ps++[q]=_;rw [YG h.symm,I.ps r (by simp)]
   .exact go t (.inr z)
 .rcases List.mem_append.mp ht with z | z
  .exact I.fr t (by simp [z])
  .rcases List.mem_cons.mp z with z | z
   .subst z;exact I.fr r (by simp)
   .exact I.fr t (by simp [z])
def adr (R:List Rw) (k:Int):Addr:=match (rwK R).find? (fun p=>decide (p.1=k)) with
 | some p=>p.2
 | none=>0
theorem qhj {R:List Rw}(nd:(R.map (·.k)).Nodup):∀ r∈R,(rwK R).find? (fun p=>decide (p.1=r.k))=some (r.k,r.a):=by
 induction R with
 | nil=>exact fun r h=>nomatch h
 | cons s t ih =>
  intro r hr;rw [List.map_cons] at nd;show ((s.k,s.a)::rwK t).find? _=_;rcases List.mem_cons.mp hr with z | z
  .subst z;rw [List.find?_cons_of_pos (by simp)]
  .have:s.k≠r.k:=fun e=>(List.nodup_cons.mp nd).1 (by rw [e];exact ql.mpr ⟨r,z,rfl⟩);rw [List.find?_cons_of_neg (by simpa using this)];exact ih (List.nodup_cons.mp nd).2 r z
theorem qjS {f:Pt->PyData}{n:Pt}{U0:Mu}{qs:List Pt}{R:List Rw}(I:RwI n U0 qs R) {ns:List Int}(hp:ns.Perm (R.map (·.k))) (hs:ns.Pairwise (· < ·)) :
  RkK n qs ns/\(rwC f R).Perm (cells (ns.map (adr R)) ((ns.map (JW n qs)).map fun r=>r.map f))/\(∀ k∈ns,(rwK R).find? (fun p=>decide (p.1=k))=some (k,adr R k))/\∀ a∈ns.map (adr R),a∉U0.map Prod.fst:=by
 have fa:∀ r∈R,adr R r.k=r.a:=fun r hr=>by unfold adr;rw [qhj I.nd r hr]
 have e:rwC f R=(R.map (·.k)).map fun k=>(adr R k,MO.lst ((JW n qs k).map f)):=by
  unfold rwC;rw [List.map_map];refine List.map_congr_left fun r hr=>?_;show _=(adr R r.k,MO.lst ((JW n qs r.k).map f));rw [fa r hr,<- I.ps r hr]
 have e2:cells (ns.map (adr R)) ((ns.map (JW n qs)).map fun r=>r.map f)=ns.map fun k=>(adr R k,MO.lst ((JW n qs k).map f)):=by
  unfold cells;rw [List.map_map];clear e hp hs;induction ns with
  | nil=>rfl
  | cons k t ih=>rw [List.map_cons,List.map_cons,List.zipWith_cons_cons,ih];rfl
 have mem:∀ k∈ns,∃ r∈R,r.k=k:=fun k hk=>ql.mp (hp.mem_iff.mp hk);refine ⟨⟨hs,fun k=>hp.mem_iff.trans (I.ks k)⟩,?_,fun k hk=>?_,fun a ha=>?_⟩
 .rw [e,e2];exact (hp.symm).map _
 .obtain ⟨r,hr,rfl⟩:=mem k hk;rw [qhj I.nd r hr,fa r hr]
 .obtain ⟨k,hk,rfl⟩:=ql.mp ha;obtain ⟨r,hr,rfl⟩:=mem k hk;rw [fa r hr];exact I.fr r hr
section
variable {X:Cx}{K:W.Frag}{P:Program}{w:World}
def qh1 (P:Program) (w:World) (K:W.Frag):RAd:=fun es U Q=>∃ e ms,es=[e]/\DctOf P w K U e ms/\ms.length<=4000/\∀ p,p∉U.map Prod.fst->Q (.m p) ((p,.lst (ms.map jQ))::U)
theorem qgl (hc:X.calm=true) (hK:X.K=K:=by rfl) (hP:X.prog=P:=by rfl) (hw:X.w=w:=by rfl):yG X (.type "list") (upC K (qh1 P w K)):=by
 subst hK hP hw;refine (qcR hc).mono fun xs H Q h=>?_;obtain ⟨U,es,Q0,M,hp,q,cl⟩:=h;obtain ⟨e,ms,rfl,hd,hl,q⟩:=q;obtain ⟨v,rfl,i1⟩:=j5 hp;obtain ⟨a,bs,rfl,h1,h2,rfl⟩:∃ a bs,v = .ref a/\H a=some (Yg X.prog X.w a bs)/\InS X.K (mask U H) bs/\bs.map (·.2)=ms:=by
  cases hd with
  | x =>
   obtain ⟨S,bs,e,h1,h2,h3⟩:=i1;exact ⟨S,bs,e,yt _ _ h1,h2,h3⟩
  | @m a _ hm =>
   have i:v = .ref a:=i1;subst i;obtain ⟨u,hu,bs,rfl,h1,h2⟩:=M.ob a _ hm;exact ⟨a,bs,rfl,hu,h1,h2⟩
 rw [List.length_map] at hl;refine ⟨a,bs,rfl,h1,hl,fun l hl=>?_⟩;obtain ⟨_,_,hn⟩:=M.laid (o:=.lst (bs.map fun b=>V.ref b.1)) hl;obtain ⟨M4,s4⟩:=M.new (u:=.lst (bs.map fun b=>V.ref b.1)) (o:=.lst ((bs.map (·.2)).map jQ)) hl fun ss=>⟨_,qE,qg5 (h2.same ss)⟩;exact cl _ _ _ _ (q l hn) M4 s4 rfl
end
end L2
namespace L2
def mx1 (a:Int):Int:=if 1<a then a else 1
def qcU (n:Pt):Pt:=nrm (mx1 n.1) (n.2 - 7 * mx1 n.1)
def qjm (n:Pt×Pt):Pt:=nrm (n.1.1+n.2.1) (n.1.2+n.2.2)
def yK (ns:List Pt):List Pt:=(ns.take 1).map qcU++((ns.zip ns.tail).map qjm++(if ns.getLast?=some (0,1) then [] else [(0,1)]))
theorem qgY {u v:Int}(h:0<u\/(u=0/\0<v)) (m:Pt):(0<crs m (nrm u v) ↔ 0<crs m (u,v))/\(crs m (nrm u v)<0 ↔ crs m (u,v)<0):=by
 have h0:u≠0\/v≠0:=by omega
 obtain ⟨e1,e2⟩:=JU u v h0;have hd:0<dvs u v:=by
  have:=qbr h0;unfold dvs;rw [if_neg (by omega)];omega
 have e:crs m (u,v)=dvs u v * crs m (nrm u v):=by
  have:crs m (u,v)=m.1 * (dvs u v * (nrm u v).2) - m.2 * (dvs u v * (nrm u v).1):=by rw [<- e1,<- e2];rfl
  rw [this];unfold crs;generalize dvs u v=d;generalize nrm u v=n;grind
 rw [e];generalize crs m (nrm u v)=x at *;generalize dvs u v=d at *;refine ⟨⟨fun h=>Int.mul_pos hd h,fun h=>Int.pos_of_mul_pos_right h hd⟩,⟨fun h=>Int.mul_neg_of_pos_of_neg hd h,fun h=>?_⟩⟩;rcases Int.lt_trichotomy x 0 with c | c | c
 .exact c
 .rw [c,Int.mul_zero] at h;omega
 .have:=Int.mul_pos hd c;omega
theorem ZZ {n:Pt}:0<mx1 n.1:=by unfold mx1;split <;> omega
theorem ZY {p q:Pt}(hp:IsN p) (hq:IsN q):0<p.1+q.1\/(p.1+q.1=0/\0<p.2+q.2):=by
 have h1:=Yf hp;have h2:=Yf hq;by_cases c:0<p.1+q.1
 .exact .inl c
 .have a:=h1.2 (by omega);have b:=h2.2 (by omega);subst a b;exact .inr ⟨rfl,by decide⟩
theorem qc8 {ns:List Pt}{i:Nat}:ns.tail[i]?=ns[i+1]?:=by cases ns <;> simp
def qlD (ns:List Pt) (i:Nat) (a:Pt):Prop:=(∀ j n,j<i->ns[j]?=some n->0<crs n a)/\∀ j n,i<=j->ns[j]?=some n->crs n a<0
theorem Jb {ns:List Pt}(hp:ns.Pairwise (fun a b=>0<crs a b)) {i j:Nat}{a b:Pt}(h:i<j) (hi:ns[i]?=some a) (hj:ns[j]?=some b):0<crs a b:=by
 obtain ⟨h1,rfl⟩:=qk.mp hi;obtain ⟨h2,rfl⟩:=qk.mp hj;exact qU.mp hp i j h1 h2 h
theorem qfa {ns:List Pt}(hp:ns.Pairwise (fun a b=>0<crs a b)) (hN:∀ n∈ns,IsN n) {i:Nat}{a:Pt}(ha:(yK ns)[i]?=some a):qlD ns i a:=by
 have hm:∀ {j n},ns[j]?=some n->IsN n:=fun h=>hN _ (List.mem_of_getElem? h);unfold yK at ha;by_cases c0:i<(ns.take 1).length
 .rw [qv (by rw [List.length_map];exact c0),List.getElem?_map] at ha;have i0:i=0:=by rw [ya] at c0;omega
  subst i0;rw [List.getElem?_take_of_lt (by omega)] at ha;obtain ⟨s,hs,rfl⟩:=yk.mp ha;refine ⟨fun j n h=>absurd h (by omega),fun j n _ hj=>?_⟩;unfold qcU;refine (qgY (.inl ZZ) n).2.mpr ?_;have us:=Yf (hm hs);have un:=Yf (hm hj);show n.1 * (s.2 - 7 * mx1 s.1) - n.2 * mx1 s.1<0;by_cases z:s.1=0
  .have:=us.2 z;subst this;cases j with
   | zero =>
    have:n=(0,1):=by rw [hs] at hj;exact (Option.some.inj hj).symm
    subst this;decide
   | succ j =>
    have:=Jb hp (Nat.succ_pos j) hs hj;unfold crs at this;simp at this;omega
  .have e:mx1 s.1=s.1:=by unfold mx1;split <;> omega
   rw [e];have hs1:0<s.1:=by omega
   have q0:0<s.1 * s.1:=Int.mul_pos hs1 hs1;cases j with
   | zero =>
    have:n=s:=by rw [hs] at hj;exact (Option.some.inj hj).symm
    subst this;have:n.1 * (n.2 - 7 * n.1) - n.2 * n.1 = -7 * (n.1 * n.1):=by grind
    omega
   | succ j =>
    have h1:=Jb hp (Nat.succ_pos j) hs hj;unfold crs at h1;have h2:0<=n.1 * s.1:=Int.mul_nonneg un.1 us.1;have:n.1 * (s.2 - 7 * s.1) - n.2 * s.1 = -(s.1 * n.2 - s.2 * n.1) - 7 * (n.1 * s.1):=by grind
    omega
 .rw [qS (by rw [List.length_map];omega)] at ha;rw [List.length_map] at ha;cases ns with
  | nil =>
   have:i=0/\a=(0,1):=by
    cases i with
    | zero=>simp at ha;exact ⟨rfl,ha.symm⟩
    | succ i=>simp at ha
   obtain ⟨rfl,rfl⟩:=this;exact ⟨fun j n h=>absurd h (by omega),fun j n _ h=>by simp at h⟩
  | cons s0 t =>
   have e1:((s0::t).take 1).length=1:=by simp
   rw [e1] at ha c0;obtain ⟨k,rfl⟩:∃ k,i=k+1:=⟨i - 1,by omega⟩;rw [Nat.add_sub_cancel] at ha;have ez:(((s0::t).zip (s0::t).tail).map qjm).length=t.length:=by simp
   by_cases c1:k<t.length
   .rw [qv (by rw [ez];exact c1),List.getElem?_map] at ha;obtain ⟨⟨p,q⟩,hpq,rfl⟩:=yk.mp ha;rw [List.getElem?_zip_eq_some] at hpq;obtain ⟨h1,h2⟩:=hpq;rw [qc8] at h2;have h1:(s0::t)[k]?=some p:=h1;have h2:(s0::t)[k+1]?=some q:=h2;have pq:=Jb hp (qZ k) h1 h2;have e:∀ n:Pt,crs n (p.1+q.1,p.2+q.2)=crs n p+crs n q:=fun n=>by unfold crs;grind
    have sg:=fun n=>qgY (ZY (hm h1) (hm h2)) n;refine ⟨fun j n hj hn=>?_,fun j n hj hn=>?_⟩
    .refine (sg n).1.mpr ?_;rw [e];by_cases z:j=k
     .subst z;have:n=p:=by rw [h1] at hn;exact (Option.some.inj hn).symm
      subst this;rw [jU];omega
     .have:=Jb hp (show j<k by omega) hn h1;have:=Jb hp (show j<k+1 by omega) hn h2;omega
    .refine (sg n).2.mpr ?_;rw [e];by_cases z:j=k+1
     .subst z;have:n=q:=by rw [h2] at hn;exact (Option.some.inj hn).symm
      subst this;rw [jU,j0];omega
     .have g1:=Jb hp (show k<j by omega) h1 hn;have g2:=Jb hp (show k+1<j by omega) h2 hn;rw [j0 n p,j0 n q];omega
   .rw [qS (by rw [ez];omega),ez] at ha;split at ha
    .simp at ha
    .rename_i hl
     have:k=t.length/\a=(0,1):=by
      cases hk:k - t.length with
      | zero=>rw [hk] at ha;simp at ha;exact ⟨by omega,ha.symm⟩
      | succ m=>rw [hk] at ha;simp at ha
     obtain ⟨rfl,rfl⟩:=this;refine ⟨fun j n hj hn=>?_,fun j n hj hn=>?_⟩
     .have un:=Yf (hm hn);have:n.1≠0:=fun z=>by
       have en:=un.2 z;subst en;by_cases cj:j=t.length
       .apply hl;rw [List.getLast?_eq_getElem?];rw [<- hn,cj];simp
       .have h3:j+1<(s0::t).length:=by simp;omega
        have:=Jb hp (qZ j) hn (List.getElem?_eq_getElem h3);have u2:=Yf (hN _ (qy h3));unfold crs at this;simp at this;have u3:0<=((s0::t)[j+1]).1:=u2.1;simp at u3;omega
      have h0:=un.1;unfold crs;simp;omega
     .have:=(qk.mp hn).1;simp at this;omega
theorem qe9 {ns:List Pt}(hp:ns.Pairwise (fun a b=>0<crs a b)) (hN:∀ n∈ns,IsN n) {i:Nat}{a s b:Pt}(ha:(yK ns)[i]?=some a) (hs:ns[i]?=some s) (hb:(yK ns)[i+1]?=some b) :
  0<crs a s/\0<crs s b/\(∀ n∈ns,crs n a≠0)/\(∀ n∈ns,crs n b≠0)/\∀ n∈ns,n=s\/(0<crs n s/\0<crs n a/\0<crs n b)\/(crs n s<0/\crs n a<0/\crs n b<0):=by
 have A:=qfa hp hN ha;have B:=qfa hp hN hb;have all:∀ n∈ns,n=s\/(0<crs n s/\0<crs n a/\0<crs n b)\/(crs n s<0/\crs n a<0/\crs n b<0):=fun n hn=>by
  obtain ⟨j,hj,rfl⟩:=List.getElem_of_mem hn;have hj':ns[j]?=some ns[j]:=List.getElem?_eq_getElem hj;rcases Nat.lt_trichotomy j i with c | c | c
  .exact .inr (.inl ⟨Jb hp c hj' hs,A.1 j _ c hj',B.1 j _ (by omega) hj'⟩)
  .subst c;rw [hj'] at hs;exact .inl (Option.some.inj hs)
  .refine .inr (.inr ⟨?_,A.2 j _ (by omega) hj',B.2 j _ c hj'⟩);have:=Jb hp c hs hj';rw [j0];omega
 have s1:=A.2 i s (Nat.le_refl _) hs;have s2:=B.1 i s (by omega) hs;have s1':0<crs a s:=by rw [j0];omega
 refine ⟨s1',s2,fun n hn=>?_,fun n hn=>?_,all⟩
 .rcases all n hn with e | e | e
  .rw [e];omega
  .omega
  .omega
 .rcases all n hn with e | e | e
  .rw [e];omega
  .omega
  .omega
theorem qgC {P ns:List Pt}{a:Pt}(hS:Slo P ns) (h:∀ n∈ns,crs n a≠0):Sep a P:=fun x hx y hy e=>by
 apply Classical.byContradiction;intro hne;obtain ⟨n,hn,n0,hc⟩:=hS.2 x hx y hy hne;rw [qeW] at hc;have en:vl n x=vl n y:=by omega
 have al:=qbF en a;have z:vl a y - vl a x=0:=by omega
 rw [z,Int.mul_zero] at al;have C:n.1 * (y.2 - x.2) - n.2 * (y.1 - x.1)=0:=(yU.mp al.symm).resolve_left (h n hn);have D:n.1 * (y.1 - x.1)+n.2 * (y.2 - x.2)=0:=by unfold vl at en;grind
 have N:=qbj n0;have k1:(n.1 * n.1+n.2 * n.2) * (y.1 - x.1)=0:=by
  have:(n.1 * n.1+n.2 * n.2) * (y.1 - x.1)=n.1 * (n.1 * (y.1 - x.1)+n.2 * (y.2 - x.2)) - n.2 * (n.1 * (y.2 - x.2) - n.2 * (y.1 - x.1)):=by clear C D al en e;grind
  rw [this,C,D];simp
 have k2:(n.1 * n.1+n.2 * n.2) * (y.2 - x.2)=0:=by
  have:(n.1 * n.1+n.2 * n.2) * (y.2 - x.2)=n.2 * (n.1 * (y.1 - x.1)+n.2 * (y.2 - x.2))+n.1 * (n.1 * (y.2 - x.2) - n.2 * (y.1 - x.1)):=by clear C D al en e k1;grind
  rw [this,C,D];simp
 have f1:=(yU.mp k1).resolve_left (by omega);have f2:=(yU.mp k2).resolve_left (by omega);exact hne (Prod.ext (by omega) (by omega))
end L2
namespace L2
open PySem PySem.Spec PyProof.Rows PySem.W
section
variable {X:Cx}{K:W.Frag}{pos:Pos}
end
open PySem PySem.Spec PyProof.Rows
section
variable {X:Cx}{K:W.Frag}{pos:Pos}{es:List Expr}{tr:TAd}
def dClr (to:TEd):TEd:=fun ρ U Q=>to ρ U fun x U1=>∃ p U3 U4 ds,x = .m p/\U1=U3++(p,.lst ds)::U4/\Q (.d .none) (U3++(p,.lst [])::U4)
theorem qeR {o:Expr}{to:TEd}{p1:Pos}(ho:DE K X o to) (hK:X.K=K:=by rfl)
  (h:PE X (.Call (.Attribute o "clear" p1) [] [] pos) (tBM0 X.K "list" rClear (up K to))):DE K X (.Call (.Attribute o "clear" p1) [] [] pos) (dClr to):=by
 subst hK;refine PE.mono h fun σ H Q hq9=>?_;obtain ⟨ρ,U,Q0,hS,hM,h,cl⟩:=hq9;refine ⟨ρ,U,_,hS,hM,h,fun x U1 v H1 q M1 s1 i1=>?_⟩;obtain ⟨p,U3,U4,ds,rfl,rfl,q⟩:=q;have i1:v=_:=i1;subst i1;obtain ⟨xs0,e0,hA⟩:=M1.ob p (.lst ds) (by simp);refine ⟨.inl ⟨rfl,_,SqL.of e0⟩,p,xs0,rfl,rfl,e0,?_⟩;obtain ⟨M3,s3⟩:=M1.write (H':=upd H1 p (.lst [])) (o':=.lst []) (fun b u e n=>by rw [qC n];exact e) fun ss=>⟨_,qE,.nil⟩;exact cl _ _ .non _ q M3 (s1.trans s3) .non
end
section
variable {K:W.Frag}
end
section
variable {g:TGd}{tb:TSd}{D:EndsD}{ρ:Rho}{U:Mu}{te:TEd}{tt:TTd}{Q:En->Mu->Prop}
theorem qls {J:Itd}{Z:Type}{as:List Z}{h1 h2 h3:Z->PyData}(f:Z->PyData) (S:Src J (as.map fun a=>.tuple [h1 a,h2 a,h3 a]) U) (ht:∀ a,a∈as->∀ R:Bool->Mu->Prop,R true U->tt (ρ++[some (.d (h1 a)),some (.d (h2 a)),some (.d (h3 a))]) U R)
  (hs:∀ a,a∈as->∀ R:En->Mu->Prop,R (.d (f a)) U->te (ρ++[some (.d (h1 a)),some (.d (h2 a)),some (.d (h3 a))]) U R) (hq:Q (.d (.list (as.map f))) U) :
  qcW 3 J (ZS 3 (jq (y4 ρ.length) (jq (y4 (ρ.length+1)) (jq (y4 (ρ.length+2)) qaM)))) tt te ρ U Q:=by
 have hl:J.n=as.length:=by rw [S.n];simp
 refine ⟨fun i ys ρ' U'=>U'=U/\ys=(as.take i).map f/\∃ v w x,ρ'=ρ++[v,w,x],⟨rfl,rfl,none,none,none,rfl⟩,fun i ys ρ' U' _ ⟨h,_⟩=>by subst h;exact S.ok,?_,?_⟩
 .rintro i ys ρ' U' hi ⟨rfl,rfl,v,w,x,rfl⟩;rw [hl] at hi;rw [S.it i (.tuple [h1 as[i],h2 as[i],h3 as[i]]) (by rw [List.getElem?_map,List.getElem?_eq_getElem hi];rfl)];refine ⟨rfl,?_⟩;show tt ((((ρ++[v,w,x]).set ρ.length _).set (ρ.length+1) _).set (ρ.length+2) _) U' _;have e2:(((ρ++[v,w,x]).set ρ.length (some (.d (h1 as[i])))).set (ρ.length+1) (some (.d (h2 as[i])))).set (ρ.length+2) (some (.d (h3 as[i])))=ρ++[some (.d (h1 as[i])),some (.d (h2 as[i])),some (.d (h3 as[i]))]:=by simp [List.set_append]
  rw [e2];refine ht as[i] (qy hi) _ (qa4 (hs as[i] (qy hi) _ ⟨_,rfl,rfl,?_,_,_,_,rfl⟩));rw [yw (List.getElem?_eq_getElem hi),List.map_append];rfl
 .rintro ys ρ' U' ⟨rfl,rfl,_⟩;rw [hl,yo];exact hq
theorem qlt {J:Itd}{Z:Type}{as:List Z}{h1 h2 h3:Z->PyData}(f:Z->PyData) (S:Src J (as.map fun a=>.tuple [h1 a,h2 a,h3 a]) U)
  (hs:∀ a,a∈as->∀ R:En->Mu->Prop,R (.d (f a)) U->te (ρ++[some (.d (h1 a)),some (.d (h2 a)),some (.d (h3 a))]) U R) (hq:Q (.d (.list (as.map f))) U) :
  qcW 3 J (ZS 3 (jq (y4 ρ.length) (jq (y4 (ρ.length+1)) (jq (y4 (ρ.length+2)) qaM)))) qjv te ρ U Q:=qls f S (fun _ _ _ h=>h) hs hq
theorem setC2 {Q2:List (List Int)->Mu->Prop}{J:Itd}{Z:Type}{as:List Z}{h1 h2:Z->PyData}(f:Z->List Int) (S:Src J (as.map fun a=>.tuple [h1 a,h2 a]) U) (hn:as.length<4900) (ht:∀ a,a∈as->∀ R:Bool->Mu->Prop,R true U->tt (ρ++[some (.d (h1 a)),some (.d (h2 a))]) U R) (hf:∀ a∈as,f a≠[])
  (hs:∀ a,a∈as->∀ R:En->Mu->Prop,R (.d (jQ (f a))) U->te (ρ++[some (.d (h1 a)),some (.d (h2 a))]) U R)
  (hq:∀ ms:List (List Int),(∀ q,q∈ms ↔ q∈as.map f)->ms.Nodup->ms.length<4915->Q2 ms U) :
  J.n<4900/\∃ Pv:Nat->List (List Int)->Rho->Mu->Prop,Pv 0 [] (ρ++List.replicate 2 none) U/\(∀ i ys ρ' U',i<=J.n->Pv i ys ρ' U'->J.ok U') ∧
   (∀ i ys ρ' U',i<J.n->Pv i ys ρ' U'->ZS 2 (jq (y4 ρ.length) (jq (y4 (ρ.length+1)) qaM)) (J.item i) ρ' U' fun ρ2 U2=>tt ρ2 U2 fun b U3=>if b=true then te ρ2 U3 fun y U4=>∃ z,z≠[]/\y = .d (jQ z)/\Pv (i+1) (ys++[z]) ρ2 U4 else Pv (i+1) ys ρ2 U3) ∧
   ∀ ys ρ' U',Pv J.n ys ρ' U'->∀ ms,(∀ q,q∈ms ↔ q∈ys)->ms.Nodup->ms.length<4915->Q2 ms U':=by
 have hl:J.n=as.length:=by rw [S.n];simp
 refine ⟨by omega,fun i ys ρ' U'=>U'=U/\ys=(as.take i).map f/\∃ v w,ρ'=ρ++[v,w],⟨rfl,rfl,none,none,rfl⟩,fun i ys ρ' U' _ ⟨h,_⟩=>by subst h;exact S.ok,?_,?_⟩
 .rintro i ys ρ' U' hi ⟨rfl,rfl,v,w,rfl⟩;rw [hl] at hi;rw [S.it i (.tuple [h1 as[i],h2 as[i]]) (by rw [List.getElem?_map,List.getElem?_eq_getElem hi];rfl)];refine ⟨rfl,?_⟩;show tt (((ρ++[v,w]).set ρ.length _).set (ρ.length+1) _) U' _;have e2:((ρ++[v,w]).set ρ.length (some (.d (h1 as[i])))).set (ρ.length+1) (some (.d (h2 as[i])))=ρ++[some (.d (h1 as[i])),some (.d (h2 as[i]))]:=by simp [List.set_append]
  rw [e2];refine ht as[i] (qy hi) _ (qa4 (hs as[i] (qy hi) _ ⟨_,hf _ (qy hi),rfl,rfl,?_,_,_,rfl⟩));rw [yw (List.getElem?_eq_getElem hi),List.map_append];rfl
 .rintro ys ρ' U' ⟨rfl,rfl,_⟩;rw [hl,yo];exact hq
end
end L2
namespace L2
open PySem PySem.Spec PyProof.Rows PySem.W
abbrev nK (n:Pt):List Int:=[n.1,n.2]
theorem qkF {a b:Pt}(h:nK a=nK b):a=b:=by
 injection h with h1 h2
 injection h2 with h2 _
 exact Prod.ext h1 h2
theorem qh6 {ls:List Ln}(hs:ls.Pairwise Ahd) (hN:∀ l∈ls,IsN l.1) {i:Nat}{l:Ln}(hi:ls[i]?=some l) {ns:List Pt}(hp:ns.Pairwise (fun a b=>0<crs a b)) (hm:∀ n,n∈ns ↔ ∃ l∈ls.take i,l.1=n) :
  ∃ ms:List Pt,qbe (ns.map nK) (nK l.1)=ms.map nK/\ms.Pairwise (fun a b=>0<crs a b)/\(∀ n,n∈ms ↔ ∃ l∈ls.take (i+1),l.1=n):=by
 have ht:=yw hi;have mem:∀ n,(∃ l'∈ls.take (i+1),l'.1=n) ↔ n∈ns\/n=l.1:=fun n=>by
  rw [hm n,ht];constructor
  .rintro ⟨l',h1,h2⟩;rcases List.mem_append.mp h1 with h | h
   .exact .inl ⟨l',h,h2⟩
   .rw [qA] at h;exact .inr (by rw [<- h2,h])
  .rintro (⟨l',h1,h2⟩ | h)
   .exact ⟨l',qr _ h1,h2⟩
   .exact ⟨l,qh _ (by simp),h.symm⟩
 by_cases c:l.1∈ns
 .refine ⟨ns,?_,hp,fun n=>?_⟩
  .unfold qbe;rw [if_pos (ql.mpr ⟨_,c,rfl⟩)]
  .rw [mem n];exact ⟨.inl,fun h=>h.elim id fun e=>by rw [e];exact c⟩
 .refine ⟨ns++[l.1],?_,?_,fun n=>?_⟩
  .unfold qbe;rw [if_neg,List.map_append]
   .rfl
   .intro z;obtain ⟨n,hn,e⟩:=ql.mp z;exact c (by rw [<- qkF e];exact hn)
  .refine List.pairwise_append.mpr ⟨hp,List.pairwise_singleton _ _,fun a ha b hb=>?_⟩;rw [qA] at hb;subst hb;obtain ⟨l',h1,h2⟩:=(hm a).mp ha;have hlt:Ahd l' l:=by
    obtain ⟨j,hj,e⟩:=List.getElem_of_mem h1;rw [ya] at hj;rw [List.getElem_take] at e;have hi':i<ls.length:=by
     rcases jG i ls.length with h | h
     .exact h
     .rw [List.getElem?_eq_none h] at hi;cases hi
    have:=qU.mp hs j i (by omega) hi' (by omega);rw [List.getElem?_eq_getElem hi'] at hi;cases hi
    rw [e] at this;exact this
   rcases hlt with h | h
   .rw [<- h2];exact h
   .exact absurd (by rw [<- JI (hN l' (List.mem_of_mem_take h1)) (hN l (List.mem_of_getElem? hi)) h.1,h2];exact ha) c
  .rw [mem n,List.mem_append,qA]
section
variable {ρ:Rho}{U:Mu}{te tv:TEd}{tt:TTd}
theorem dctN {Q2:List (List Int)->Mu->Prop}{J:Itd}{ls:List Ln}(hs:ls.Pairwise Ahd) (hN:∀ l∈ls,IsN l.1) (S:Src J (ls.map fun l=>.tuple [.int l.1.1,.int l.1.2,.int l.2]) U) (hn:ls.length<=4000)
  (ht:∀ l,l∈ls->∀ R:Bool->Mu->Prop,R true U->tt (ρ++[some (.d (.int l.1.1)),some (.d (.int l.1.2)),some (.d (.int l.2))]) U R)
  (he:∀ l,l∈ls->∀ R:En->Mu->Prop,R (.d (jQ (nK l.1))) U->te (ρ++[some (.d (.int l.1.1)),some (.d (.int l.1.2)),some (.d (.int l.2))]) U R)
  (hv:∀ l,l∈ls->∀ R:En->Mu->Prop,R (.d (.bool true)) U->tv (ρ++[some (.d (.int l.1.1)),some (.d (.int l.1.2)),some (.d (.int l.2))]) U R)
  (hq:∀ ns:List Pt,ns.Pairwise (fun a b=>0<crs a b)->(∀ n,n∈ns ↔ ∃ l∈ls,l.1=n)->Q2 (ns.map nK) U) :
  J.n<=4000/\∃ Pv:Nat->List (List Int)->Rho->Mu->Prop,Pv 0 [] (ρ++List.replicate 3 none) U/\(∀ i ys ρ' U',i<=J.n->Pv i ys ρ' U'->J.ok U') ∧
   (∀ i ys ρ' U',i<J.n->Pv i ys ρ' U'->ZS 3 (jq (y4 ρ.length) (jq (y4 (ρ.length+1)) (jq (y4 (ρ.length+2)) qaM))) (J.item i) ρ' U' fun ρ2 U2=>tt ρ2 U2 fun b U3=>if b=true then te ρ2 U3 fun y U4=>∃ z,z≠[]/\y = .d (jQ z)/\tv ρ2 U4 fun y2 U5=>y2 = .d (.bool true)/\Pv (i+1) (qbe ys z) ρ2 U5 else Pv (i+1) ys ρ2 U3) ∧
   ∀ ys ρ' U',Pv J.n ys ρ' U'->Q2 ys U':=by
 have hl:J.n=ls.length:=by rw [S.n];simp
 refine ⟨by omega,fun i ys ρ' U'=>U'=U/\(∃ ns:List Pt,ys=ns.map nK/\ns.Pairwise (fun a b=>0<crs a b)/\∀ n,n∈ns ↔ ∃ l∈ls.take i,l.1=n)/\∃ u v w,ρ'=ρ++[u,v,w],⟨rfl,⟨[],rfl,.nil,fun n=>by simp⟩,none,none,none,rfl⟩,fun i ys ρ' U' _ ⟨h,_⟩=>by subst h;exact S.ok,?_,?_⟩
 .rintro i ys ρ' U' hi ⟨rfl,⟨ns,rfl,hp,hm⟩,u,v,w,rfl⟩;rw [hl] at hi;have hi':ls[i]?=some ls[i]:=List.getElem?_eq_getElem hi;obtain ⟨ms,e1,e2,e3⟩:=qh6 hs hN hi' hp hm;rw [S.it i (.tuple [.int ls[i].1.1,.int ls[i].1.2,.int ls[i].2]) (by rw [List.getElem?_map,hi'];rfl)];refine ⟨rfl,?_⟩;show tt ((((ρ++[u,v,w]).set ρ.length _).set (ρ.length+1) _).set (ρ.length+2) _) U' _;have e4:(((ρ++[u,v,w]).set ρ.length (some (.d (.int ls[i].1.1)))).set (ρ.length+1) (some (.d (.int ls[i].1.2)))).set (ρ.length+2) (some (.d (.int ls[i].2)))=ρ++[some (.d (.int ls[i].1.1)),some (.d (.int ls[i].1.2)),some (.d (.int ls[i].2))]:=by simp [List.set_append]
  rw [e4];refine ht _ (qy hi) _ (qa4 (he _ (qy hi) _ ⟨nK ls[i].1,(fun z=>nomatch z),rfl,hv _ (qy hi) _ ⟨rfl,rfl,⟨ms,e1,e2,e3⟩,_,_,_,rfl⟩⟩))
 .rintro ys ρ' U' ⟨rfl,⟨ns,rfl,hp,hm⟩,_⟩;rw [hl,yo] at hm;exact hq ns hp hm
end
open PySem PySem.Spec PyProof.Rows
section
variable {X:Cx}{K:W.Frag}{tg iter:Expr}{pos:Pos}
end
end L2
local macro_rules | `(tactic| walk_at "i")=>`(tactic| first | refine Jx (fun c=>?_) (fun c=>?_))
namespace K23
open PySem L2
def top (i:Nat):Stmt:=PySem.Challenge.pw_halveline_k23_slopes_and_ranks.main.body.getD i (.Pass ⟨0,0,0,0⟩)
structure Txt (mg:Str->Option Value):Prop where
 len_:mg "len" = none
 range_:mg "range" = none
 max_:mg "max" = none
 min_:mg "min" = none
 abs_:mg "abs" = none
 int_:mg "int" = none
 isinstance_:mg "isinstance" = none
 tuple_:mg "tuple" = none
 bool_:mg "bool" = none
 list_:mg "list" = none
 all_:mg "all" = none
 any_:mg "any" = none
 set_:mg "set" = none
 sorted_:mg "sorted" = none
 str_:mg "str" = none
 enumerate_:mg "enumerate" = none
 zip_:mg "zip" = none
 divmod_:mg "divmod" = none
 dict_:mg "dict" = none
abbrev jy:Stmt:=top 4
abbrev qhJ:Stmt:=top 6
abbrev Zr:Stmt:=top 7
abbrev qda:Stmt:=top 9
abbrev Yv:Stmt:=top 10
abbrev jd:Stmt:=top 11
abbrev qba:Stmt:=top 13
abbrev jJ:Stmt:=top 14
abbrev jp:Stmt:=top 16
abbrev Zs:Stmt:=top 17
abbrev qfr:Stmt:=top 18
abbrev Yw:Stmt:=top 20
abbrev JN:Stmt:=top 21
abbrev Yx:Stmt:=top 22
abbrev j7:Stmt:=top 23
abbrev j9:Stmt:=top 24
abbrev Ju:Stmt:=top 25
abbrev Ja:Stmt:=top 26
abbrev JL:Stmt:=top 27
abbrev j8:Stmt:=top 28
abbrev jt:Stmt:=top 29
abbrev yR:Stmt:=top 30
abbrev JO:Stmt:=top 31
abbrev y7:Stmt:=top 32
abbrev JM:Stmt:=top 33
abbrev jk:Stmt:=top 34
abbrev jW:Stmt:=top 35
abbrev qft:Stmt:=top 36
section
variable {P:Program}{w:World}{K:W.Frag}{mg:Str->Option Value}{base:Heap}{CX:CXT}
def sPot:SpD:=fun es U Q=>∃ (ns:List Int) (k:Nat),es=[.d (.list (ns.map .int)),.d (.int k)]/\ns.length<=63/\k<=63/\∀ p,p∉U.map Prod.fst->Q (.m p) ((p,.pot 2147483647)::U)
theorem qgE:FnScope ["_law_script", "_law_k", "_law_cell"] ["_law_script", "_law_k"] (qx Yw):=⟨rfl,rfl,rfl,by decide +kernel,rfl,by decide +kernel,by decide +kernel⟩
theorem qkz {f:Addr}{fd:FuncData}(F:Fun K "_law_pot" "_law_pot" Yw f fd) (T:Txt mg):FnOk P w K mg base CX 1 f fd ["_law_script", "_law_k"] (yp K sPot):=by
 refine F.okD qgE (fun es U Q hq0=>by obtain ⟨ns,k,e,_⟩:=hq0;subst e;rfl) (fun cdv A outer s H E es U Q hr hq0=>?_);obtain ⟨ns,n,e,hl,hn,k⟩:=hq0;subst e;have nd:=qgE.nd;refine ⟨_,(qz (yn (i:=2) nd rfl (by first | exact Or.inl rfl | exact Or.inr rfl) qF)
   (qz (jX (yE qeJ (dv 1) (qW Jg (by rfl) T.len_ Jk (qd (dv 0) qm)) (ym _)) (qL (yn (i:=2) nd rfl (by first | exact Or.inl rfl | exact Or.inr rfl) (Jz yx (dv 0) (dv 1) (fun _ _=>rfl)))) je)
   (qL (yT (JH (qd (qW (Zj rfl) (by rfl) T.max_ YQ (qd qF (qd (yC jC (dv 2) (yC qaK qF qF)) qm))) (qd (yC yJ (yC qce (yC yJ (yC yJ (qW Zk (by rfl) T.abs_ Zm (qd (dv 2) qm)) (yC yL qF (dv 1))) qF) qF) qF) qm))))))),?_⟩
 have fin:∀ cell:Int,qli (qlj (qcL (dCB (qj6 fun i j=>if i<j then j else i) (qcL (dC (.int 0)) (qcL (dOp (qcC fun i j=>.int (i - j)) (qlg 2) (dOp (rdI CPow fun i j=>.int (i ^ j.toNat)) (dC (.int 10)) (dC (.int 18)))) qlG)))
   (qcL (dOp (qcC fun i j=>.int (i+j)) (dOp (rdI (fun _ j=>0<j) fun i j=>.int (i % j)) (dOp (qcC fun i j=>.int (i+j)) (dOp (qcC fun i j=>.int (i+j)) (dCB qh3 (qcL (qlg 2) qlG)) (dOp (rdI qbH fun i j=>.int (i * j)) (dC (.int 7919)) (qlg 1))) (dC (.int 17))) (dC (.int 2147483629))) (dC (.int 1))) qlG)))
   { nx:=fun _ U'=>Q (.d .none) U',rt:=Q } [some (.d (.list (ns.map .int))),some (.d (.int n)),some (.d (.int cell))] U:=fun cell=>by
  refine ⟨⟨by decide,by decide,by decide⟩,⟨qhi (by decide) (by decide),qhi (by omega) (by omega)⟩,(show (0:Int)<2147483629 by decide),zl2,fun p hp=>⟨_,_,FzR.pot ?_ ?_ ?_,k p hp⟩⟩
  .dsimp only;split <;> omega
  .have:=Int.emod_nonneg (↑cell.natAbs+7919 * ↑n+17) (show (2147483629:Int)≠0 by decide);omega
  .have:=Int.emod_lt_of_pos (↑cell.natAbs+7919 * ↑n+17) (show (0:Int)<2147483629 by decide);omega
 refine ⟨_,.l (.d _),?_⟩;rw [List.length_map];refine Jx (fun c=>?_) (fun c=>?_)
 .have hc:(n:Int)<(ns.length:Int):=qN c;have hn2:n<ns.length:=by omega
  exact ⟨.int ns[n],qe6 (by rw [List.getElem?_map,List.getElem?_eq_getElem hn2];rfl),fin ns[n]⟩
 .exact fin 0
theorem qdx:FnScope ["_law_pot_here", "_law_many", "_law_digit"] ["_law_pot_here", "_law_many"] (qx JN):=⟨rfl,rfl,rfl,by decide +kernel,rfl,by decide +kernel,by decide +kernel⟩
theorem qiv {f:Addr}{fd:FuncData}(F:Fun K "_law_draw" "_law_draw" JN f fd) (T:Txt mg):FnOk P w K mg base CX 1 f fd ["_law_pot_here", "_law_many"] (yp K (qcA 2147483647)):=by
 refine FnOk.imp (sp:=qde 2147483647) ?_ fun _ _ _ _ h=>qiW h;refine F.okG qdx (fun vs H Q E h=>?_) (fun cdv A outer s H vs Q E hr h=>?_)
 .obtain ⟨p,m,rfl,_⟩:=h;rfl
 .obtain ⟨p,m,rfl,⟨p0,p1,e,h0,h1,h2⟩,m0,m1,k⟩:=h;have nd:=qdx.nd;refine ⟨_,(Yk (qkj (qdK qkw (qcD JV (pv 0) jz (fun _ _=>rfl)) jz (ym _)) (Yk (qdM (qbY qbC (by rfl) T.divmod_ qe5 (qbh (qcD JV (pv 0) jz (fun _ _=>rfl)) (qbh (pv 1) qgW))) (qgR rfl (ZA (qdV (pv 0) jz qbR) (ZA (qdW (i:=2) nd rfl (by first | exact Or.inl rfl | exact Or.inr rfl)) qdU))))
   (qbf (qbX (pv 2)))) qdL)
   (Yk (qdM (qal qbZ (qal qd0 (qal qbi (qcD JV (pv 0) jz (fun _ _=>rfl)) jz) jz) jz) (qdV (pv 0) jz qbR))
   (qbf (qbX (qal qbZ (qal qdZ (qal qbZ (qal qbi (qcD JV (pv 0) jz (fun _ _=>rfl)) (qcD JV (pv 0) jz (fun _ _=>rfl))) jz) jz) (pv 1)))))),?_⟩
  refine ⟨_,rfl,p,_,_,_,rfl,rfl,SqL.of e,rfl,_,_,rfl,rfl,_,rfl,?_⟩;refine Jx (fun c=>?_) (fun c=>?_)
  .have hc:0<p0:=qN c;refine ⟨_,rfl,p,_,_,_,rfl,rfl,SqL.of e,rfl,_,rfl,_,_,rfl,⟨m0,by omega⟩,fun t ht=>?_⟩;have hpt:p≠t:=qt e ht;have e':=yd.upd (o:=.tup [.int (p0 / m),.int (p0 % m)]) ht _ _ e;refine ⟨t,_,rfl,SqT.of qE,rfl,_,_,rfl,_,rfl,p,_,_,_,rfl,rfl,e',rfl,_,_,rfl,rfl,?_⟩;refine ⟨_,rfl,?_⟩;refine k _ _ (Int.emod_nonneg _ (by omega)) (Int.emod_lt_of_pos _ m0) ⟨p0 / m,p1,qE,Int.ediv_nonneg h0 (by omega),h1,h2⟩ ((yd.upd ht).stp.trans Stp.upd)
  .refine ⟨_,rfl,p,_,_,_,rfl,rfl,SqL.of e,rfl,_,_,rfl,rfl,⟨Big.of 2147483647 (by decide) (by omega) (by omega),Big.of 48271 (by decide) (by decide) (by decide)⟩,_,_,rfl,rfl,_,_,rfl,rfl,(show (0:Int)<2147483647 by decide),_,rfl,p,_,_,_,rfl,rfl,e,rfl,?_⟩;have g0:0<=(p1 * 48271+11) % 2147483647:=Int.emod_nonneg _ (by decide);have g1:(p1 * 48271+11) % 2147483647<2147483647:=Int.emod_lt_of_pos _ (by decide);have e':∀ z,(upd H p (.lst [V.int p0,V.int z])) p=some (.lst [V.int p0,V.int z]):=fun z=>qE;refine ⟨_,rfl,p,_,_,_,rfl,rfl,SqL.of (e' _),rfl,_,rfl,p,_,_,_,rfl,rfl,SqL.of (e' _),rfl,_,_,rfl,rfl,⟨Big.of 2147483647 (by decide) (by omega) (by omega),Big.of 2147483647 (by decide) (by omega) (by omega)⟩,_,_,rfl,rfl,(show (0:Int)<2147483629 by decide),_,_,rfl,rfl,⟨by decide,by decide⟩,_,rfl,_,_,rfl,rfl,m0,?_⟩;exact k _ _ (Int.emod_nonneg _ (by omega)) (Int.emod_lt_of_pos _ m0) ⟨p0,_,e' _,h0,g0,g1⟩ Stp.upd
theorem e8:(10:Int) ^ (8:Int).toNat=100000000:=by decide
theorem e30:(10:Int) ^ (30:Int).toNat=1000000000000000000000000000000:=by decide
theorem qgH:FnScope ["_law_pot_here", "_law_number", "_law_again"] ["_law_pot_here"] (qx Yx):=⟨rfl,rfl,rfl,by decide +kernel,rfl,by decide +kernel,by decide +kernel⟩
theorem qkC {f:Addr}{fd:FuncData}(F:Fun K "_law_far" "_law_far" Yx f fd) (T:Txt mg) (hX:NoX CX) (O_law_draw:Own P w K mg base CX 1 "_law_draw" ["_law_pot_here", "_law_many"] (yp K (qcA 2147483647))):FnOk P w K mg base CX 2 f fd ["_law_pot_here"] (yp K (qjQ 2147483647)):=by
 refine F.okD qgH (fun es U Q hq0=>by obtain ⟨p,e,_⟩:=hq0;subst e;rfl) (fun cdv A outer s H E es U Q hr hq0=>?_);obtain ⟨p,e,hp,k⟩:=hq0;subst e;have nd:=qgH.nd;refine ⟨_,(qz (yn (i:=1) nd rfl (by first | exact Or.inl rfl | exact Or.inr rfl) qF)
   (qz (jB PassesOwn.never rfl (YK rfl T.range_ (qd qF qm)) (qK (i:=2) nd rfl (by first | exact Or.inl rfl | exact Or.inr rfl)) (qL (yn (i:=1) nd rfl (by first | exact Or.inl rfl | exact Or.inr rfl) (yC yJ (yC yL (dv 1) (yC qaK qF qF)) (qY O_law_draw hX (hr.mono (by decide)) rfl (qd (dv 0) (qd (yC qaK qF qF) qm)))))))
   (qL (y0 (yC yJ (yC jC (yC qce (dv 1) (yC jC (yC yL qF (yC qaK qF qF)) qF)) (yC qaK qF qF)) qF))))),?_⟩
 refine ⟨by decide,by decide,forR (fun i ρ' U'=>U'=U/\∃ (z:Int) (v:Option En),ρ'=[some (.m p),some (.d (.int z)),v]/\0<=z/\z<100000000 ^ i) ⟨rfl,0,none,rfl,by decide,by decide⟩ ?_ ?_⟩
 .rintro i ρ' U' hi ⟨rfl,z,v,rfl,z0,z1⟩;have hb:z<10000000000000000000000000000000000000000:=by
   have:i=0\/i=1\/i=2\/i=3:=by have hi:i<4:=hi;omega
   rcases this with rfl | rfl | rfl | rfl <;> simp at z1 <;> omega
  refine ⟨⟨by decide,by decide,by decide⟩,⟨qhi (by omega) (by omega),by rw [e8];exact qhi (by decide) (by decide)⟩,⟨by decide,by decide,by decide⟩,p,_,rfl,hp,by rw [e8];decide,by rw [e8];decide,fun d d0 d1=>Wks.of ⟨rfl,_,_,rfl,?_,?_⟩⟩
  .rw [e8] at *;omega
  .rw [e8] at *;rw [Int.pow_succ];generalize (100000000:Int) ^ i=y at z1;omega
 .rintro ρ' U' ⟨rfl,z,v,rfl,z0,z1⟩;refine ⟨⟨by decide,by decide,by decide⟩,⟨qhi (by decide) (by decide),by rw [e30];exact qhi (by decide) (by decide)⟩,by rw [e30];show (0:Int)<2 * 1000000000000000000000000000000 - 1;decide,⟨by decide,by decide,by decide⟩,k _ ?_⟩;rw [e30];unfold Num;omega
def qjt:SpD:=fun es U Q=>∃ a b:Int,es=[.d (.int a),.d (.int b)]/\Q (.d (.int (Int.gcd a b:Nat))) U
def qai:SpD:=fun es U Q=>∃ a b:Int,es=[.d (.int a),.d (.int b)]/\(a≠0\/b≠0)/\a.natAbs<=10000000000000000000000000000000000000000/\b.natAbs<=10000000000000000000000000000000000000000/\Q (.d (ptD (nrm a b))) U
theorem qae:FnScope ["_law_one", "_law_other"] ["_law_one", "_law_other"] (qx j7):=⟨rfl,rfl,rfl,by decide +kernel,rfl,by decide +kernel,by decide +kernel⟩
theorem qd1 {f:Addr}{fd:FuncData}(F:Fun K "_law_shared" "_law_shared" j7 f fd) (T:Txt mg):FnOk P w K mg base CX 1 f fd ["_law_one", "_law_other"] (yp K qjt):=by
 refine F.okD qae (fun es U Q hq0=>by obtain ⟨a,b,e,_⟩:=hq0;subst e;rfl) (fun cdv A outer s H E es U Q hr hq0=>?_);obtain ⟨a,b,e,k⟩:=hq0;subst e;have nd:=qae.nd;refine ⟨_,(qz (qaH (i:=0) (j:=1) rfl nd rfl rfl (by decide) rfl rfl (qd (qW Zk (by rfl) T.abs_ Zm (qd (dv 0) qm)) (qd (qW Zk (by rfl) T.abs_ Zm (qd (dv 1) qm)) qm)) rfl)
   (qz (qcd PassesOwn.never (yE do_gt (dv 1) qF (ym _)) (qL (qaH (i:=0) (j:=1) rfl nd rfl rfl (by decide) rfl rfl (qd (dv 1) (qd (yC qce (dv 0) (dv 1)) qm)) rfl)))
   (qL (y0 (dv 0))))),?_⟩
 refine ⟨fun m ρ' U'=>U'=U/\∃ f r:Nat,ρ'=[some (.d (.int f)),some (.d (.int r))]/\m=r/\Nat.gcd f r=Int.gcd a b,⟨_,rfl,_,_,rfl,rfl,rfl⟩,?_⟩;rintro m ρ' U' ⟨rfl,f,r,rfl,rfl,g⟩;refine Jx (fun c=>?_) (fun c=>?_)
 .have c:(0:Int)<(m:Int):=qN c;refine ⟨c,f % m,Nat.mod_lt _ (by omega),Wks.of ⟨rfl,m,f % m,?_,rfl,by rw [qb8];exact g⟩⟩;rw [Int.natCast_emod];rfl
 .have c:¬ (0:Int)<(m:Int):=fun z=>c (decide_eq_true z);have:m=0:=by omega
  subst this;rw [Nat.gcd_zero_right] at g;subst g;exact k
theorem qag:FnScope ["_law_a", "_law_b", "_law_by"] ["_law_a", "_law_b"] (qx j9):=⟨rfl,rfl,rfl,by decide +kernel,rfl,by decide +kernel,by decide +kernel⟩
theorem qd3 {f:Addr}{fd:FuncData}(F:Fun K "_law_normal" "_law_normal" j9 f fd) (hX:NoX CX) (O_law_shared:Own P w K mg base CX 1 "_law_shared" ["_law_one", "_law_other"] (yp K qjt)):FnOk P w K mg base CX 2 f fd ["_law_a", "_law_b"] (yp K qai):=by
 refine F.okD qag (fun es U Q hq0=>by obtain ⟨a,b,e,_⟩:=hq0;subst e;rfl) (fun cdv A outer s H E es U Q hr hq0=>?_);obtain ⟨a,b,e,h0,ha,hb,k⟩:=hq0;subst e;have nd:=qag.nd;have d0:=Js h0;have dB:(dvs a b).natAbs<=10000000000000000000000000000000000000000:=by rw [qbv];exact qaz h0 ha hb
 have dC:∀ z,qff z (dvs a b):=fun z=>ZP (B:=10000000000000000000000000000000000000000) (by decide) d0 dB;refine ⟨_,(qz (yn (i:=2) nd rfl (by first | exact Or.inl rfl | exact Or.inr rfl) (qY O_law_shared hX (hr.mono (by decide)) rfl (qd (dv 0) (qd (dv 1) qm))))
   (qz (jX (qgd (qaE (yE qeJ (dv 0) qF (ym _)) (Zg (qgd (qeH (yE (Jd hr.units) (dv 0) qF (ym _)) (qbu (yE qeJ (dv 1) qF (ym _)))))))) (qL (yn (i:=2) nd rfl (by first | exact Or.inl rfl | exact Or.inr rfl) (d_un qeI (dv 2)))) je)
   (qL (y0 (jT (qd (yC YJ (dv 0) (dv 2)) (qd (yC YJ (dv 1) (dv 2)) qm))))))),?_⟩
 refine ⟨a,b,rfl,?_⟩;refine Jx (fun c=>?_) (fun c=>?_)
 .have c:a<0:=qN c;refine qa4 ?_;have e:-(Int.gcd a b:Int)=dvs a b:=by unfold dvs;rw [if_pos (.inl c)]
  exact ⟨by rw [e];exact dC _,by rw [e];exact dC _,zl2,by rw [e];exact k⟩
 .have c:¬ a<0:=fun z=>c (decide_eq_true z);refine Jx (fun c2=>?_) (fun c2=>?_)
  .have c2:a=0:=qN c2;refine Jx (fun c3=>?_) (fun c3=>?_)
   .have c3:b<0:=qN c3;have e:-(Int.gcd a b:Int)=dvs a b:=by unfold dvs;rw [if_pos (.inr ⟨c2,c3⟩)]
    exact ⟨by rw [e];exact dC _,by rw [e];exact dC _,zl2,by rw [e];exact k⟩
   .have c3:¬ b<0:=fun z=>c3 (decide_eq_true z);have e:(Int.gcd a b:Int)=dvs a b:=by unfold dvs;rw [if_neg (by omega)]
    exact ⟨by rw [e];exact dC _,by rw [e];exact dC _,zl2,by rw [e];exact k⟩
  .have c2:¬ a=0:=fun z=>c2 (decide_eq_true z);have e:(Int.gcd a b:Int)=dvs a b:=by unfold dvs;rw [if_neg (by omega)]
   refine Z3 ?_;exact ⟨by rw [e];exact dC _,by rw [e];exact dC _,zl2,by rw [e];exact k⟩
end
section
variable {P:Program}{w:World}{K:W.Frag}{mg:Str->Option Value}{base:Heap}{CX:CXT}
abbrev PT0:MO:=.pot 2147483647
def G2 (n:Int):Prop:=-500000000000000000000000000000<=n/\n<=500000000000000000000000000000
def G10 (n:Int):Prop:=-100000000000000000000000000000<=n/\n<=100000000000000000000000000000
def grD (x y r u:Int):PyData:=.tuple [.int x,.int y,.int r,.int u]
def P31 (q:Pt):Prop:=-1000000000000000000000000000000<=q.1/\q.1<=1000000000000000000000000000000/\-1000000000000000000000000000000<=q.2/\q.2<=1000000000000000000000000000000
def qdB:SpD:=fun es U Q=>∃ (p:Addr) (wy nr x y r u:Int),es=[.m p,.d (.int wy),.d (.int nr),.d (grD x y r u)]/\(p,PT0)∈U/\1<=nr/\nr<=60/\G2 x/\G2 y/\G10 r/\G10 u/\∀ q,P31 q->Q (.d (ptD q)) U
theorem qhM {a b:Int}(ha:a.natAbs<=100000000000000000000000000000000) (hb:b.natAbs<=100000000000000000000000000000000):qbH a b:=⟨qhi (by omega) (by omega),qhi (by omega) (by omega)⟩
theorem qbU:FnScope ["_law_pot_here", "_law_way", "_law_near", "_law_ground_here", "_law_far_here", "_law_x", "_law_y", "_law_right_here", "_law_up", "_law_often"] ["_law_pot_here", "_law_way", "_law_near", "_law_ground_here"] (qx Ju):=⟨rfl,rfl,rfl,by decide +kernel,rfl,by decide +kernel,by decide +kernel⟩
theorem qfU {f:Addr}{fd:FuncData}(F:Fun K "_law_point" "_law_point" Ju f fd) (T:Txt mg) (hX:NoX CX) (O_law_draw:Own P w K mg base CX 1 "_law_draw" ["_law_pot_here", "_law_many"] (yp K (qcA 2147483647))) (O_law_far:Own P w K mg base CX 2 "_law_far" ["_law_pot_here"] (yp K (qjQ 2147483647))):FnOk P w K mg base CX 3 f fd ["_law_pot_here", "_law_way", "_law_near", "_law_ground_here"] (yp K qdB):=by
 refine F.okD qbU (fun es U Q hq0=>by obtain ⟨p,wy,nr,x,y,r,u,e,_⟩:=hq0;subst e;rfl) (fun cdv A outer s H E es U Q hr hq0=>?_);obtain ⟨p,wy,nr,x,y,r,u,e,hp,n1,n2,⟨x1,x2⟩,⟨y1,y2⟩,⟨r1,r2⟩,⟨u1,u2⟩,k⟩:=hq0;subst e;have nd:=qbU.nd;refine ⟨_,(qz (jX (yE (Jd hr.units) (dv 1) qF (ym _)) (qL (y0 (jT (qd (qY O_law_far hX (hr.mono (by decide)) rfl (qd (dv 0) qm)) (qd (qY O_law_far hX (hr.mono (by decide)) rfl (qd (dv 0) qm)) qm))))) je)
   (qz (jX (yE (Jd hr.units) (dv 1) qF (ym _)) (qz (yn (i:=4) nd rfl (by first | exact Or.inl rfl | exact Or.inr rfl) (yC jC (qY O_law_draw hX (hr.mono (by decide)) rfl (qd (dv 0) (qd (yC yJ (yC yL qF (dv 2)) qF) qm))) (dv 2)))
   (qL (y0 (jT (qd (yC jC (yC yL qF (dv 4)) (dv 2)) (qd (yC yJ (yC yL qF (dv 4)) qF) qm)))))) je)
   (qz (jX (yE (Jd hr.units) (dv 1) qF (ym _)) (qz (qaJ (dv 3) (jD (n:=4) rfl (qM (qK (i:=5) nd rfl (by first | exact Or.inl rfl | exact Or.inr rfl)) (qM (qK (i:=6) nd rfl (by first | exact Or.inl rfl | exact Or.inr rfl)) (qM (qK (i:=7) nd rfl (by first | exact Or.inl rfl | exact Or.inr rfl)) (qM (qK (i:=8) nd rfl (by first | exact Or.inl rfl | exact Or.inr rfl)) y9))))))
   (qz (yn (i:=9) nd rfl (by first | exact Or.inl rfl | exact Or.inr rfl) (yC jC (qY O_law_draw hX (hr.mono (by decide)) rfl (qd (dv 0) (qd qF qm))) qF))
   (qL (y0 (jT (qd (yC yJ (dv 5) (yC yL (dv 9) (dv 7))) (qd (yC yJ (yC yJ (dv 6) (yC yL (dv 9) (dv 8))) (jM qk8 (by rfl) T.int_ qlw (qd (qbz (Jd hr.units) (qY O_law_draw hX (hr.mono (by decide)) rfl (qd (dv 0) (qd qF qm))) qF (ym _)) qm))) qm))))))) je)
   (qL (y0 (jT (qd (yC jC (qY O_law_draw hX (hr.mono (by decide)) rfl (qd (dv 0) (qd (yC yJ (yC yL qF (dv 2)) qF) qm))) (dv 2)) (qd (yC jC (qY O_law_draw hX (hr.mono (by decide)) rfl (qd (dv 0) (qd (yC yJ (yC yL qF (dv 2)) qF) qm))) (dv 2)) qm)))))))),?_⟩
 refine Jx (fun c=>?_) (fun c=>?_)
 .refine ⟨p,rfl,hp,fun a ⟨a1,a2⟩=>⟨p,rfl,hp,fun b ⟨b1,b2⟩=>⟨zl2,k (a,b) ⟨?_,?_,?_,?_⟩⟩⟩⟩ <;> (dsimp only;omega)
 refine Jx (fun c=>?_) (fun c=>?_)
 .refine ⟨qhM (by decide) (by omega),p,_,rfl,hp,by omega,by omega,fun d d0 d1=>?_⟩;refine ⟨qhM (by decide) (by omega),qhM (by decide) (by omega),zl2,k (2 * (d - nr) - nr,3 * (d - nr)+1) ⟨?_,?_,?_,?_⟩⟩ <;> (dsimp only;omega)
 refine Jx (fun c=>?_) (fun c=>?_)
 .refine ⟨rfl,p,9,rfl,hp,by decide,by decide,fun d d0 d1=>?_⟩;refine ⟨qhM (by omega) (by omega),qhM (by omega) (by omega),p,6,rfl,hp,by decide,by decide,fun e e0 e1=>?_⟩;have m1:-400000000000000000000000000000<=(d - 4) * r/\(d - 4) * r<=400000000000000000000000000000:=by
   have:d=0\/d=1\/d=2\/d=3\/d=4\/d=5\/d=6\/d=7\/d=8:=by omega
   rcases this with rfl | rfl | rfl | rfl | rfl | rfl | rfl | rfl | rfl <;> omega
  have m2:-400000000000000000000000000000<=(d - 4) * u/\(d - 4) * u<=400000000000000000000000000000:=by
   have:d=0\/d=1\/d=2\/d=3\/d=4\/d=5\/d=6\/d=7\/d=8:=by omega
   rcases this with rfl | rfl | rfl | rfl | rfl | rfl | rfl | rfl | rfl <;> omega
  have m3:0<=(if decide (e=0)=true then (1:Int) else 0)/\(if decide (e=0)=true then (1:Int) else 0)<=1:=by split <;> omega
  exact ⟨zl2,k (x+(d - 4) * r,y+(d - 4) * u+(if decide (e=0)=true then (1:Int) else 0)) ⟨by dsimp only;omega,by dsimp only;omega,by dsimp only;omega,by dsimp only;omega⟩⟩
 .refine ⟨qhM (by decide) (by omega),p,_,rfl,hp,by omega,by omega,fun d d0 d1=>?_⟩;refine ⟨qhM (by decide) (by omega),p,_,rfl,hp,by omega,by omega,fun e e0 e1=>?_⟩;refine ⟨zl2,k (d - nr,e - nr) ⟨?_,?_,?_,?_⟩⟩ <;> (dsimp only;omega)
def qbd:SpD:=fun es U Q=>∃ (p:Addr),es=[.m p]/\(p,PT0)∈U/\∀ x y r u,G2 x->G2 y->G10 r->G10 u->Q (.d (grD x y r u)) U
theorem qah:FnScope ["_law_pot_here"] ["_law_pot_here"] (qx Ja):=⟨rfl,rfl,rfl,by decide +kernel,rfl,by decide +kernel,by decide +kernel⟩
theorem qd4 {f:Addr}{fd:FuncData}(F:Fun K "_law_ground" "_law_ground" Ja f fd) (hX:NoX CX) (O_law_far:Own P w K mg base CX 2 "_law_far" ["_law_pot_here"] (yp K (qjQ 2147483647))):FnOk P w K mg base CX 3 f fd ["_law_pot_here"] (yp K qbd):=by
 refine F.okD qah (fun es U Q hq0=>by obtain ⟨p,e,_⟩:=hq0;subst e;rfl) (fun cdv A outer s H E es U Q hr hq0=>?_);obtain ⟨p,e,hp,k⟩:=hq0;subst e;have nd:=qah.nd;refine ⟨_,(qL (y0 (jT (qd (yC Yn (qY O_law_far hX (hr.mono (by decide)) rfl (qd (dv 0) qm)) qF) (qd (yC Yn (qY O_law_far hX (hr.mono (by decide)) rfl (qd (dv 0) qm)) qF) (qd (yC Yn (qY O_law_far hX (hr.mono (by decide)) rfl (qd (dv 0) qm)) qF) (qd (yC Yn (qY O_law_far hX (hr.mono (by decide)) rfl (qd (dv 0) qm)) qF) qm))))))),?_⟩;refine ⟨p,rfl,hp,fun a ⟨a1,a2⟩=>⟨⟨by decide,by decide⟩,p,rfl,hp,fun b ⟨b1,b2⟩=>⟨⟨by decide,by decide⟩,p,rfl,hp,fun c ⟨c1,c2⟩=>⟨⟨by decide,by decide⟩,p,rfl,hp,fun d ⟨d1,d2⟩=>⟨⟨by decide,by decide⟩,zl4,k _ _ _ _ ⟨?_,?_⟩ ⟨?_,?_⟩ ⟨?_,?_⟩ ⟨?_,?_⟩⟩⟩⟩⟩⟩ <;> omega
def qhO:SpD:=fun es U Q=>∃ (p:Addr) (m x y r u:Int),es=[.m p,.d (.int m),.d (grD x y r u)]/\(p,PT0)∈U/\0<=m/\m<=60/\G2 x/\G2 y/\G10 r/\G10 u/\∀ ps:List Pt,ps.length<=m->(∀ q∈ps,P31 q)->Q (.d (.list (ps.map ptD))) U
theorem qdt:FnScope ["_law_pot_here", "_law_most", "_law_ground_here", "_law_way", "_law_near", "_law_found", "_law_k", "_law_point_here"] ["_law_pot_here", "_law_most", "_law_ground_here"] (qx JL):=⟨rfl,rfl,rfl,by decide +kernel,rfl,by decide +kernel,by decide +kernel⟩
theorem qir {f:Addr}{fd:FuncData}(F:Fun K "_law_heap" "_law_heap" JL f fd) (T:Txt mg) (hX:NoX CX) (O_law_draw:Own P w K mg base CX 1 "_law_draw" ["_law_pot_here", "_law_many"] (yp K (qcA 2147483647))) (O_law_point:Own P w K mg base CX 3 "_law_point" ["_law_pot_here", "_law_way", "_law_near", "_law_ground_here"] (yp K qdB)):FnOk P w K mg base CX 4 f fd ["_law_pot_here", "_law_most", "_law_ground_here"] (yp K qhO):=by
 refine F.okD qdt (fun es U Q hq0=>by obtain ⟨p,m,x,y,r,u,e,_⟩:=hq0;subst e;rfl) (fun cdv A outer s H E es U Q hr hq0=>?_);obtain ⟨p,m,x,y,r,u,e,hp,m0,m1,hx,hy,hr',hu',k⟩:=hq0;subst e;have nd:=qdt.nd;refine ⟨_,(qz (yn (i:=3) nd rfl (by first | exact Or.inl rfl | exact Or.inr rfl) (qY O_law_draw hX (hr.mono (by decide)) rfl (qd (dv 0) (qd qF qm))))
   (qz (yn (i:=4) nd rfl (by first | exact Or.inl rfl | exact Or.inr rfl) (Jz yx (qaN (qd qF (qd qF (qd qF (qd qF qm))))) (qY O_law_draw hX (hr.mono (by decide)) rfl (qd (dv 0) (qd qF qm))) (fun _ _=>rfl)))
   (qz (yn (i:=5) nd rfl (by first | exact Or.inl rfl | exact Or.inr rfl) (JH qm))
   (qz (jB PassesOwn.never rfl (YK rfl T.range_ (qd (qY O_law_draw hX (hr.mono (by decide)) rfl (qd (dv 0) (qd (yC yJ (dv 1) qF) qm))) qm)) (qK (i:=6) nd rfl (by first | exact Or.inl rfl | exact Or.inr rfl)) (qz (yn (i:=7) nd rfl (by first | exact Or.inl rfl | exact Or.inr rfl) (qY O_law_point hX (hr.mono (by decide)) rfl (qd (dv 0) (qd (dv 3) (qd (dv 4) (qd (dv 2) qm))))))
   (qz (jX (qgd (qeH (yE (qaL hr.units) (dv 5) (qaN qm) (ym _)) (qbu (yE (Jd hr.units) (qY O_law_draw hX (hr.mono (by decide)) rfl (qd (dv 0) (qd qF qm))) qF (ym _))))) (qL (yn (i:=7) nd rfl (by first | exact Or.inl rfl | exact Or.inr rfl) (Jz yx (dv 5) (qY O_law_draw hX (hr.mono (by decide)) rfl (qd (dv 0) (qd (qW Jg (by rfl) T.len_ Jk (qd (dv 5) qm)) qm))) (fun _ _=>rfl)))) je)
   (qL (jY (Jn (dv 5) (qd (dv 7) qm) (h:=ZB PySem.F.plainAttrs_list PySem.F.slot_list_append PySem.F.type_list_append jS (dv 5) (qd (dv 7) qm))))))))
   (qL (yT (dv 5))))))),?_⟩
 refine ⟨p,7,rfl,hp,by decide,by decide,fun wy w0 w1=>?_⟩;refine ⟨zl4,p,4,rfl,hp,by decide,by decide,fun d d0 d1=>?_⟩;have hnr:∃ nr:Int,atI [PyData.int 1,.int 2,.int 5,.int 60] d=some (.int nr)/\1<=nr/\nr<=60:=by
  have:d=0\/d=1\/d=2\/d=3:=by omega
  rcases this with rfl | rfl | rfl | rfl
  .exact ⟨1,rfl,by decide,by decide⟩
  .exact ⟨2,rfl,by decide,by decide⟩
  .exact ⟨5,rfl,by decide,by decide⟩
  .exact ⟨60,rfl,by decide,by decide⟩
 obtain ⟨nr,en,n1,n2⟩:=hnr;refine ⟨_,en,zl0,fun l hl=>?_⟩;have hp1:∀ o,(p,PT0)∈(l,o)::U:=fun o=>qf _ hp;refine ⟨p,_,rfl,hp1 _,by omega,by omega,fun n n0 n1'=>⟨by omega,by omega,?_⟩⟩;refine forR (fun i ρ' U'=>∃ ps:List Pt,U'=(l,.lst (ps.map ptD))::U/\ps.length<=i/\(∀ q∈ps,P31 q)/\∃ v1 v2,ρ'=[some (.m p),some (.d (.int m)),some (.d (grD x y r u)),some (.d (.int wy)),some (.d (.int nr)),some (.m l),v1,v2])
  ⟨[],rfl,Nat.le_refl _,fun _ h=>(nomatch h),_,_,rfl⟩ ?_ ?_
 .rintro i ρ' U' hi ⟨ps,rfl,hlen,hps,v1,v2,rfl⟩;refine ⟨p,wy,nr,x,y,r,u,rfl,hp1 _,n1,n2,hx,hy,hr',hu',fun q hq=>?_⟩;refine ⟨zl0,_,_,.m qe,.d _,qcu ps,rfl,?_⟩;have app:∀ (q:Pt) (v:Option En),P31 q->Wks (fun ρ' U'=>∃ ps:List Pt,U'=(l,.lst (ps.map ptD))::U/\ps.length<=i+1/\(∀ q∈ps,P31 q)/\∃ v1 v2,ρ'=[some (.m p),some (.d (.int m)),some (.d (grD x y r u)),some (.d (.int wy)),some (.d (.int nr)),some (.m l),v1,v2])
    [some (.m p),some (.d (.int m)),some (.d (grD x y r u)),some (.d (.int wy)),some (.d (.int nr)),some (.m l),v,some (.d (ptD q))] ((l,.lst (ps.map ptD++[ptD q]))::U):=fun q v hq=>by
   refine Wks.of ⟨ps++[q],by rw [List.map_append];rfl,by simp;omega,fun z hz=>?_,_,_,rfl⟩;rcases List.mem_append.mp hz with h | h
   .exact hps z h
   .rw [qA.mp h];exact hq
  have hlt:(ps.map ptD).length<4000:=by
   have hi:i<n.toNat:=hi;rw [List.length_map];omega
  refine Jx (fun c=>?_) (fun c=>?_)
  .refine ⟨p,5,rfl,hp1 _,by decide,by decide,fun e e0 e1=>Jx (fun c2=>?_) (fun c2=>?_)⟩
   .have hne:0<ps.length:=by
     cases ps with
     | nil=>exact absurd c yH
     | cons a b=>simp
    have hi:i<n.toNat:=hi;refine ⟨_,.l (.m qe),p,_,rfl,hp1 _,?_,?_,fun d2 f0 f1=>?_⟩
    .show (0:Int)<((ps.map ptD).length:Int);rw [List.length_map];omega
    .show ((ps.map ptD).length:Int)<=100000000;rw [List.length_map];omega
    .have f1:d2<((ps.map ptD).length:Int):=f1;rw [List.length_map] at f1;have hd:d2.toNat<ps.length:=by omega
     have ea:atI (ps.map ptD) d2=some (ptD ps[d2.toNat]):=by
      have:=qe6 (xs:=ps.map ptD) (j:=d2.toNat) (v:=ptD ps[d2.toNat]) (by rw [List.getElem?_map,List.getElem?_eq_getElem hd];rfl);rwa [show ((d2.toNat:Nat):Int)=d2 by omega] at this
     exact ⟨_,_,qe,ea,⟨_,qe⟩,[],_,_,rfl,hlt,app _ _ (hps _ (qy hd))⟩
   .exact ⟨⟨_,qe⟩,[],_,_,rfl,hlt,app q _ hq⟩
  .exact ⟨⟨_,qe⟩,[],_,_,rfl,hlt,app q _ hq⟩
 .rintro ρ' U' ⟨ps,rfl,hlen,hps,v1,v2,rfl⟩;exact ⟨_,_,FzR.list1,k ps (by omega) hps⟩
def nOf (p q:Pt):Pt:=nrm (q.2 - p.2) (p.1 - q.1)
def thr (p q:Pt):List Int:=[(nOf p q).1,(nOf p q).2,(nOf p q).1 * p.1+(nOf p q).2 * p.2]
abbrev B40:Nat:=10000000000000000000000000000000000000000
def sThr:SpD:=fun es U Q=>∃ p q:Pt,es=[.d (ptD p),.d (ptD q)]/\Bd 1000000000000000000000000000000 p/\Bd 1000000000000000000000000000000 q/\p≠q/\Q (.d (jQ (thr p q))) U
theorem qcf {p q:Pt}(h:p≠q):q.2 - p.2≠0\/p.1 - q.1≠0:=by
 by_cases z:q.2 - p.2=0
 .refine .inr fun z2=>h ?_;have e1:p.1=q.1:=by omega
  have e2:p.2=q.2:=by omega
  exact Prod.ext e1 e2
 .exact .inl z
theorem JT {a b:Int}(ha:a.natAbs<=1000000000000000000000000000000) (hb:b.natAbs<=1000000000000000000000000000000):(a - b).natAbs<=2000000000000000000000000000000:=by omega
theorem qd5 {a:Int}(ha:a.natAbs<=1000000000000000000000000000000):a.natAbs<=1000000000000000000000000000000:=ha
theorem qgZ {p q:Pt}(hp:Bd 1000000000000000000000000000000 p) (hq:Bd 1000000000000000000000000000000 q) (h:p≠q):Bd 2000000000000000000000000000000 (nOf p q):=qao (qcf h) (JT hq.2 hp.2) (JT hp.1 hq.1)
theorem b40:B40<2 ^ 1000:=by decide +kernel
theorem YV {a b:Int}(ha:a.natAbs<=B40) (hb:b.natAbs<=B40):qbH a b:=⟨yr ha b40,yr hb b40⟩
theorem qha {p q:Pt}:PyData.eqv (ptD p) (ptD q)=decide (p=q):=by
 obtain ⟨a,b⟩:=p;obtain ⟨c,d⟩:=q;simp only [ptD,PyData.eqv,PyData.eqvAll,Prod.mk.injEq];by_cases h1:a=c <;> by_cases h2:b=d <;> simp [h1,h2]
theorem qjP:FnScope ["one", "other", "divisor", "rest"] ["one", "other"] (qx jy):=⟨rfl,rfl,rfl,by decide +kernel,rfl,by decide +kernel,by decide +kernel⟩
theorem ok_cd {f:Addr}{fd:FuncData}(F:Fun K "common_divisor" "common_divisor" jy f fd) (T:Txt mg):FnOk P w K mg base CX 1 f fd ["one", "other"] (yp K qjt):=by
 refine F.okD qjP (fun es U Q hq0=>by obtain ⟨a,b,e,_⟩:=hq0;subst e;rfl) (fun cdv A outer s H E es U Q hr hq0=>?_);obtain ⟨a,b,e,k⟩:=hq0;subst e;have nd:=qjP.nd;refine ⟨_,(qz (yn (i:=2) nd rfl (by first | exact Or.inl rfl | exact Or.inr rfl) (qW Zk (by rfl) T.abs_ Zm (qd (dv 0) qm)))
   (qz (yn (i:=3) nd rfl (by first | exact Or.inl rfl | exact Or.inr rfl) (qW Zk (by rfl) T.abs_ Zm (qd (dv 1) qm)))
   (qz (qcd PassesOwn.never (yE (qaL hr.units) (dv 3) qF (ym _)) (qL (qaH (i:=2) (j:=3) rfl nd rfl rfl (by decide) rfl rfl (qd (dv 3) (qd (yC qce (dv 2) (dv 3)) qm)) rfl)))
   (qL (y0 (dv 2)))))),?_⟩
 refine ⟨fun m ρ' U'=>U'=U/\∃ f r:Nat,ρ'=[some (.d (.int a)),some (.d (.int b)),some (.d (.int f)),some (.d (.int r))]/\m=r/\Nat.gcd f r=Int.gcd a b,⟨_,rfl,_,_,rfl,rfl,rfl⟩,?_⟩;rintro m ρ' U' ⟨rfl,f,r,rfl,rfl,g⟩;refine Jx (fun c=>?_) (fun c=>?_)
 .have hm:m≠0:=by
   rintro rfl;exact absurd c (by decide)
  refine ⟨(show (0:Int)<(m:Int) by omega),f % m,Nat.mod_lt _ (by omega),Wks.of ⟨rfl,m,f % m,?_,rfl,by rw [qb8];exact g⟩⟩;rw [Int.natCast_emod];rfl
 .have:m=0:=by
   by_cases z:m=0
   .exact z
   .exact absurd (show (!decide ((m:Int)=0))=true by simp;omega) c
  subst this;rw [Nat.gcd_zero_right] at g;subst g;exact k
theorem qdr:FnScope ["a", "b", "divisor"] ["a", "b"] (qx qhJ):=⟨rfl,rfl,rfl,by decide +kernel,rfl,by decide +kernel,by decide +kernel⟩
theorem qip {f:Addr}{fd:FuncData}(F:Fun K "lead" "lead" qhJ f fd) (hX:NoX CX) (Ocommon_divisor:Own P w K mg base CX 1 "common_divisor" ["one", "other"] (yp K qjt)):FnOk P w K mg base CX 2 f fd ["a", "b"] (yp K qai):=by
 refine F.okD qdr (fun es U Q hq0=>by obtain ⟨a,b,e,_⟩:=hq0;subst e;rfl) (fun cdv A outer s H E es U Q hr hq0=>?_);obtain ⟨a,b,e,h0,ha,hb,k⟩:=hq0;subst e;have nd:=qdr.nd;have d0:=Js h0;have dB:(dvs a b).natAbs<=B40:=by rw [qbv];exact qaz h0 ha hb
 have dC:∀ z,qff z (dvs a b):=fun z=>ZP b40 d0 dB;refine ⟨_,(qz (yn (i:=2) nd rfl (by first | exact Or.inl rfl | exact Or.inr rfl) (qY Ocommon_divisor hX (hr.mono (by decide)) rfl (qd (dv 0) (qd (dv 1) qm))))
   (qz (jX (qgd (qaE (yE qeJ (dv 0) qF (ym _)) (Zg (qgd (qeH (yE (Jd hr.units) (dv 0) qF (ym _)) (qbu (yE qeJ (dv 1) qF (ym _)))))))) (qL (yn (i:=2) nd rfl (by first | exact Or.inl rfl | exact Or.inr rfl) (d_un qeI (dv 2)))) je)
   (qL (y0 (jT (qd (yC YJ (dv 0) (dv 2)) (qd (yC YJ (dv 1) (dv 2)) qm))))))),?_⟩
 refine ⟨a,b,rfl,?_⟩;refine Jx (fun c=>?_) (fun c=>?_)
 .have c:a<0:=qN c;refine qa4 ?_;have e:-(Int.gcd a b:Int)=dvs a b:=by unfold dvs;rw [if_pos (.inl c)]
  exact ⟨by rw [e];exact dC _,by rw [e];exact dC _,zl2,by rw [e];exact k⟩
 .have c:¬ a<0:=fun z=>c (decide_eq_true z);refine Jx (fun c2=>?_) (fun c2=>?_)
  .have c2:a=0:=qN c2;refine Jx (fun c3=>?_) (fun c3=>?_)
   .have c3:b<0:=qN c3;have e:-(Int.gcd a b:Int)=dvs a b:=by unfold dvs;rw [if_pos (.inr ⟨c2,c3⟩)]
    exact ⟨by rw [e];exact dC _,by rw [e];exact dC _,zl2,by rw [e];exact k⟩
   .have c3:¬ b<0:=fun z=>c3 (decide_eq_true z);have e:(Int.gcd a b:Int)=dvs a b:=by unfold dvs;rw [if_neg (by omega)]
    exact ⟨by rw [e];exact dC _,by rw [e];exact dC _,zl2,by rw [e];exact k⟩
  .have c2:¬ a=0:=fun z=>c2 (decide_eq_true z);have e:(Int.gcd a b:Int)=dvs a b:=by unfold dvs;rw [if_neg (by omega)]
   refine Z3 ?_;exact ⟨by rw [e];exact dC _,by rw [e];exact dC _,zl2,by rw [e];exact k⟩
theorem Y5:FnScope ["one", "other", "x", "y", "a", "b"] ["one", "other"] (qx Zr):=⟨rfl,rfl,rfl,by decide +kernel,rfl,by decide +kernel,by decide +kernel⟩
theorem qcE {f:Addr}{fd:FuncData}(F:Fun K "through" "through" Zr f fd) (hX:NoX CX) (Olead:Own P w K mg base CX 2 "lead" ["a", "b"] (yp K qai)):FnOk P w K mg base CX 3 f fd ["one", "other"] (yp K sThr):=by
 refine F.okD Y5 (fun es U Q hq0=>by obtain ⟨p,q,e,_⟩:=hq0;subst e;rfl) (fun cdv A outer s H E es U Q hr hq0=>?_);obtain ⟨p,q,e,hp,hq,h0,k⟩:=hq0;subst e;have nd:=Y5.nd;refine ⟨_,(qz (jX (yE (Jd hr.units) (dv 0) (dv 1) (ym _)) (qL qge) je)
   (qz (qaJ (dv 0) (jD (n:=2) rfl (qM (qK (i:=2) nd rfl (by first | exact Or.inl rfl | exact Or.inr rfl)) (qM (qK (i:=3) nd rfl (by first | exact Or.inl rfl | exact Or.inr rfl)) y9))))
   (qz (qaJ (qY Olead hX (hr.mono (by decide)) rfl (qd (yC jC (Jz yx (dv 1) qF (fun _ _=>rfl)) (dv 3)) (qd (yC jC (dv 2) (Jz yx (dv 1) qF (fun _ _=>rfl))) qm))) (jD (n:=2) rfl (qM (qK (i:=4) nd rfl (by first | exact Or.inl rfl | exact Or.inr rfl)) (qM (qK (i:=5) nd rfl (by first | exact Or.inl rfl | exact Or.inr rfl)) y9))))
   (qL (y0 (jT (qd (dv 4) (qd (dv 5) (qd (yC yJ (yC yL (dv 4) (dv 2)) (yC yL (dv 5) (dv 3))) qm))))))))),?_⟩
 have hb:=qgZ hp hq h0;have h1:=JT hq.2 hp.2;have h2:=JT hp.1 hq.1;have h3:=qd5 hp.1;have h4:=qd5 hp.2;refine ⟨_,_,.d _,.d _,qac p,qac q,Jx (fun c=>?_) (fun c=>?_)⟩
 .have c:PyData.eqv (ptD p) (ptD q)=true:=c;rw [qha] at c;exact absurd (qN c) h0
 refine ⟨rfl,_,rfl,_,rfl,_,_,rfl,qcf h0,?_,?_,rfl,?_⟩
 .exact qq h1 (by decide)
 .exact qq h2 (by decide)
 .refine ⟨YV (qq hb.1 (by decide)) (qq h3 (by decide)),YV (qq hb.2 (by decide)) (qq h4 (by decide)),zl3,k⟩
end
section
variable {P:Program}{w:World}{K:W.Frag}{mg:Str->Option Value}{base:Heap}{CX:CXT}
abbrev B30:Nat:=1000000000000000000000000000000
def hpD (ps:List Pt):PyData:=.list (ps.map ptD)
def Bds (ps:List Pt):Prop:=∀ q∈ps,Bd B30 q
def ptK (p:Pt):List Int:=[p.1,p.2]
theorem Yy {p q:Pt}(h:ptK p=ptK q):p=q:=by
 unfold ptK at h;have h1:=List.cons.inj h;have h2:=List.cons.inj h1.2;exact Prod.ext h1.1 h2.1
theorem JQ (ps:List Pt):ps.map ptD=(ps.map ptK).map jQ:=by rw [List.map_map];rfl
theorem qbW (ps:List Pt):∀ k∈ps.map ptK,k≠[]:=fun k hk=>by
 obtain ⟨x,_,rfl⟩:=ql.mp hk;exact fun z=>nomatch z
def Plc (ps qs:List Pt):Prop:=qs.Nodup/\Srt (qs.map ptK)/\∀ p,p∈qs ↔ p∈ps
theorem qfJ {ps qs rs:List Pt}(h1:Plc ps qs) (h2:Plc ps rs):qs=rs:=by
 have hp:qs.Perm rs:=(List.perm_ext_iff_of_nodup h1.1 h2.1).mpr fun p=>(h1.2.2 p).trans (h2.2.2 p).symm;have s1:=h1.2.1;have s2:=h2.2.1;unfold Srt at s1 s2;rw [yh] at s1 s2;refine List.Perm.eq_of_pairwise (fun a b _ _ k1 k2=>Yy ?_) s1 s2 hp;exact List.le_antisymm k1 k2
open Classical in
noncomputable def plc (ps:List Pt):List Pt:=epsilon fun qs=>Plc ps qs
theorem qdQ {ps qs:List Pt}(h:Plc ps qs):qs=plc ps/\Plc ps (plc ps):=by
 have:=Classical.epsilon_spec (p:=fun qs=>Plc ps qs) ⟨qs,h⟩;exact ⟨qfJ h this,this⟩
theorem qke {ks:List (List Int)}{ps:List Pt}:(∀ k∈ks,k∈ps.map ptK)->∃ qs:List Pt,ks=qs.map ptK:=by
 induction ks with
 | nil=>exact fun _=>⟨[],rfl⟩
 | cons k ks ih =>
  intro h;obtain ⟨qs,e⟩:=ih fun z hz=>h z (qf _ hz);obtain ⟨a,_,ea⟩:=ql.mp (h k qe);exact ⟨a::qs,by rw [e,<- ea];rfl⟩
theorem qdP {ps:List Pt}{ms ks:List (List Int)}(hm:∀ q,q∈ms ↔ q∈ps.map ptK) (hn:ms.Nodup) (hp:ks.Perm ms) (hs:Srt ks):∃ qs:List Pt,ks=qs.map ptK/\Plc ps qs:=by
 obtain ⟨qs,rfl⟩:=qke fun k hk=>(hm k).mp (hp.mem_iff.mp hk);have hnd:(qs.map ptK).Nodup:=hp.nodup_iff.mpr hn;refine ⟨qs,rfl,(yh.mp hnd).imp fun h z=>h (by rw [z]),hs,fun p=>?_⟩;have:=(hp.mem_iff (a:=ptK p)).trans (hm _);constructor
 .intro h;obtain ⟨b,hb,eb⟩:=ql.mp (this.mp (ql.mpr ⟨p,h,rfl⟩));rw [<- Yy eb];exact hb
 .intro h;obtain ⟨b,hb,eb⟩:=ql.mp (this.mpr (ql.mpr ⟨p,h,rfl⟩));rw [<- Yy eb];exact hb
theorem yg {Z:Type} [DecidableEq Z]:∀ {ms kss:List Z},ms.Nodup->(∀ q∈ms,q∈kss)->ms.length<=kss.length
 | [],_,_,_=>qB _
 | a::ms,kss,hn,h=>by
  have ha:=h a qe;have h1:=yg (ms:=ms) (kss:=kss.erase a) (List.nodup_cons.mp hn).2 (fun q hq=>by
   have hne:q≠a:=fun z=>(List.nodup_cons.mp hn).1 (z ▸ hq);exact (List.mem_erase_of_ne hne).mpr (h q (qf _ hq)))
  rw [List.length_erase_of_mem ha] at h1;have:=List.length_pos_of_mem ha;simp only [List.length_cons];omega
def qfx:SpD:=fun es U Q=>∃ ps:List Pt,es=[.d (hpD ps)]/\ps.length<64/\(Plc ps (plc ps)->Q (.d (hpD (plc ps))) U)
theorem qaf:FnScope ["heap"] ["heap"] (qx qba):=⟨rfl,rfl,rfl,by decide +kernel,rfl,by decide +kernel,by decide +kernel⟩
theorem qd2 {f:Addr}{fd:FuncData}(F:Fun K "places" "places" qba f fd) (T:Txt mg):FnOk P w K mg base CX 1 f fd ["heap"] (yp K qfx):=by
 refine F.okD qaf (fun es U Q hq0=>by obtain ⟨ps,e,_⟩:=hq0;subst e;rfl) (fun cdv A outer s H E es U Q hr hq0=>?_);obtain ⟨ps,e,hl,k⟩:=hq0;subst e;have nd:=qaf.nd;refine ⟨_,(qL (y0 (qW (ZT (P:=P) (w:=w) (K:=K) rfl) (by rfl) T.sorted_ jF (qd (jM (qhc (P:=P) (w:=w) (K:=K) rfl hr.units) (by rfl) T.set_ qe4 (qd (dv 0) qm)) qm)))),?_⟩;refine ⟨ps.map ptK,by rw [<- JQ];exact .d _,qbW ps,by rw [List.length_map];omega,fun ms hm hn h77=>⟨ms,rfl,?_,fun ks hp hs=>?_⟩⟩
 .have:=yg hn fun q hq=>(hm q).mp hq;rw [List.length_map] at this;omega
 .obtain ⟨qs,rfl,h⟩:=qdP hm hn hp hs;obtain ⟨rfl,h2⟩:=qdQ h;rw [<- JQ];exact k h2
def prs:List Pt->List (Pt×Pt)
 | []=>[]
 | a::t=>t.map (fun b=>(a,b))++prs t
def prD (p:Pt×Pt):PyData:=.tuple [ptD p.1,ptD p.2]
theorem Zz:∀ l:List Pt,2 * (prs l).length+l.length=l.length * l.length
 | []=>rfl
 | a::t=>by
  have:=Zz t;simp only [prs,List.length_append,List.length_map,List.length_cons];have e:(t.length+1) * (t.length+1)=t.length * t.length+2 * t.length+1:=by rw [Nat.add_mul,Nat.mul_add];omega
  omega
theorem qkl {l:List Pt}(h:l.length<=44):(prs l).length<4000:=by
 have:=Zz l;have:l.length * l.length<=44 * 44:=Nat.mul_le_mul h h;by_cases z:l.length=44
 .omega
 .have:l.length * l.length<=43 * 43:=Nat.mul_le_mul (by omega) (by omega);omega
theorem qch (ds:List PyData) (i:Nat) (h:i<=ds.length):Y0 ds (some (i:Int)) none=ds.drop i:=by
 have e:HT.sIx ds.length 0 (some (i:Int))=i:=by
  unfold HT.sIx;simp;rw [if_neg (by omega)];omega
 unfold Y0;rw [e];have e2:HT.sIx ds.length ds.length none=ds.length:=rfl;rw [e2];exact List.take_of_length_le (by simp)
def sPp:SpD:=fun es U Q=>∃ ps:List Pt,es=[.d (hpD ps)]/\ps.length<=44/\(Plc ps (plc ps)->Q (.d (.list ((prs (plc ps)).map prD))) U)
theorem qjO:FnScope ["heap", "unlike"] ["heap"] (qx jJ):=⟨rfl,rfl,rfl,by decide +kernel,rfl,by decide +kernel,by decide +kernel⟩
theorem ok_pp {f:Addr}{fd:FuncData}(F:Fun K "place_pairs" "place_pairs" jJ f fd) (T:Txt mg) (hX:NoX CX) (Oplaces:Own P w K mg base CX 1 "places" ["heap"] (yp K qfx)):FnOk P w K mg base CX 2 f fd ["heap"] (yp K sPp):=by
 refine F.okD qjO (fun es U Q hq0=>by obtain ⟨ps,e,_⟩:=hq0;subst e;rfl) (fun cdv A outer s H E es U Q hr hq0=>?_);obtain ⟨ps,e,hl,k⟩:=hq0;subst e;have nd:=qjO.nd;refine ⟨_,(qz (yn (i:=1) nd rfl (by first | exact Or.inl rfl | exact Or.inr rfl) (qY Oplaces hX (hr.mono (by decide)) rfl (qd (dv 0) qm)))
   (qL (y0 (qi9 (L:=["at", "one", "other"]) (sc:=qx jJ) (N:=["heap", "unlike"]) rfl rfl rfl (by decide +kernel) (qiZ rfl T.enumerate_ (qd (dv 1) qm)) (fun _ _ _ _ _=>(jD (n:=2) rfl (qM (qK (i:=2) (show List.Nodup (["heap", "unlike", "at", "one", "other"]:List Str) from by decide +kernel) rfl (by first | exact Or.inl rfl | exact Or.inr rfl)) (qM (qK (i:=3) (show List.Nodup (["heap", "unlike", "at", "one", "other"]:List Str) from by decide +kernel) rfl (by first | exact Or.inl rfl | exact Or.inr rfl)) y9)))) (fun _ _ _ _ _=>jZ) (fun _ _ _ _ _=>(yW (Jh (dv 1) (jP (yC yJ (dv 2) qF)) JX))) (fun _ _ _ _ _=>(qK (i:=4) (show List.Nodup (["heap", "unlike", "at", "one", "other"]:List Str) from by decide +kernel) rfl (by first | exact Or.inl rfl | exact Or.inr rfl))) (fun _ _ _ _ _=>jZ) (fun _ _ _ _ _=>(jT (qd (dv 3) (qd (dv 4) qm)))))))),?_⟩
 refine ⟨ps,rfl,by omega,fun hP=>?_⟩;have hq:(plc ps).length<=44:=qq (yg hP.1 fun q hq=>(hP.2.2 q).mp hq) hl;have kk:=k hP;generalize plc ps=qs at *;have h1000:=qkl hq;have nthe:∀ i,i<qs.length->∃ a,qs[i]?=some a/\(qs.map ptD).getD i .none=ptD a/\qs.drop i=a::qs.drop (i+1):=fun i hi=>by
  refine ⟨qs[i],List.getElem?_eq_getElem hi,?_,List.drop_eq_getElem_cons hi⟩;rw [List.getD_eq_getElem?_getD,List.getElem?_map,List.getElem?_eq_getElem hi];rfl
 refine ⟨_,.d _,fun i ys ρ' U'=>U'=U/\(∃ don,don++prs (qs.drop i)=prs qs/\ys=don.map prD)/\∃ v2 v3 v4,ρ'=[some (.d (hpD ps)),some (.d (hpD qs)),v2,v3,v4],⟨rfl,⟨[],rfl,rfl⟩,_,_,_,rfl⟩,(fun i ys ρ' U' _ _=>.d _),?_,?_⟩
 .rintro i ys ρ' U' hi ⟨rfl,⟨don,hd,rfl⟩,v2,v3,v4,rfl⟩;have hi:i<(qs.map ptD).length:=hi;rw [List.length_map] at hi;obtain ⟨a,ha,ea,ed⟩:=nthe i hi;refine ⟨rfl,_,.d _,_,.d _,?_⟩;have ec:Y0 (qs.map ptD) (some ((i:Int)+1)) none=(qs.drop (i+1)).map ptD:=by
   have:=qch (qs.map ptD) (i+1) (by rw [List.length_map];omega);rw [Int.natCast_add] at this;rw [List.map_drop];exact this
  have hlen:don.length+(prs (qs.drop i)).length=(prs qs).length:=by rw [<- hd,List.length_append]
  have e3:prs (qs.drop i)=(qs.drop (i+1)).map (fun b=>(a,b))++prs (qs.drop (i+1)):=by rw [ed];rfl
  have hsum:don.length+(qs.drop (i+1)).length<=(prs qs).length:=by rw [<- hlen,e3,List.length_append,List.length_map];omega
  refine ⟨fun j ys ρ' U'=>U'=U'/\U'=_/\j<=(qs.drop (i+1)).length/\ys=(don++((qs.drop (i+1)).take j).map fun b=>(a,b)).map prD/\∃ v4,ρ'=[some (.d (hpD ps)),some (.d (hpD qs)),some (.d (.int (i:Int))),some (.d (ptD a)),v4],⟨rfl,rfl,qB _,(by simp),v4,?_⟩,?_,?_,?_⟩
  .rw [<- ea];rfl
  .rintro j ys ρ' U' hj ⟨_,rfl,hj2,rfl,v4,rfl⟩;refine ⟨.d _,?_⟩;rw [List.length_map,List.length_append,List.length_map,ya];omega
  .rintro j ys ρ' U' hj ⟨_,rfl,hj2,rfl,v4,rfl⟩;have hj:j<(Y0 (qs.map ptD) (some ((i:Int)+1)) none).length:=hj;rw [ec,List.length_map] at hj;have eb:(itL (.d (.list (Y0 (qs.map ptD) (some ((i:Int)+1)) none))) (Y0 (qs.map ptD) (some ((i:Int)+1)) none)).item j = .d (ptD (qs.drop (i+1))[j]):=by
    show En.d ((Y0 (qs.map ptD) (some ((i:Int)+1)) none).getD j .none)=_;rw [ec,List.getD_eq_getElem?_getD,List.getElem?_map,List.getElem?_eq_getElem hj];rfl
   rw [eb];refine ⟨zl2,_,rfl,rfl,rfl,hj,?_,_,rfl⟩;rw [yw (List.getElem?_eq_getElem hj)];simp only [List.map_append,List.append_assoc,List.map_cons,List.map_nil];rfl
  .rintro ys ρ' U' ⟨_,rfl,hj2,rfl,v4,rfl⟩;have hn:(itL (.d (.list (Y0 (qs.map ptD) (some ((i:Int)+1)) none))) (Y0 (qs.map ptD) (some ((i:Int)+1)) none)).n=(qs.drop (i+1)).length:=by
    show (Y0 (qs.map ptD) (some ((i:Int)+1)) none).length=_;rw [ec,List.length_map]
   refine ⟨rfl,⟨_,?_,rfl⟩,_,_,_,rfl⟩;rw [hn,yo,List.append_assoc,<- e3];exact hd
 .rintro ys ρ' U' ⟨rfl,⟨don,hd,rfl⟩,v2,v3,v4,rfl⟩;have:qs.drop (qs.map ptD).length=[]:=by rw [List.length_map];exact List.drop_length
  have hd:don++prs (qs.drop (qs.map ptD).length)=prs qs:=hd;rw [this] at hd;have hd:don++[]=prs qs:=hd;rw [List.append_nil] at hd;rw [hd];exact kk
end
section
variable {P:Program}{w:World}{K:W.Frag}{mg:Str->Option Value}{base:Heap}{CX:CXT}
def lnD (l:Ln):PyData:=jQ (lnK l)
def LBd (l:Ln):Prop:=Bd 2000000000000000000000000000000 l.1/\l.2.natAbs<=4000000000000000000000000000000000000000000000000000000000000
def sKey:SpD:=fun es U Q=>∃ (l:Ln) (g:Int),es=[.d (lnD l),.d (.int g)]/\IsN l.1/\LBd l/\g.natAbs<=4000000000000000000000000000000000000000000000000000000000000/\Q (.d (jQ (qfh g l))) U
theorem b62:4000000000000000000000000000000000000000000000000000000000000<2 ^ 1000:=by decide +kernel
theorem qdq:FnScope ["line", "scale", "a", "b", "c"] ["line", "scale"] (qx Yv):=⟨rfl,rfl,rfl,by decide +kernel,rfl,by decide +kernel,by decide +kernel⟩
theorem qio {f:Addr}{fd:FuncData}(F:Fun K "line_key" "line_key" Yv f fd)  : FnOk P w K mg base CX 1 f fd ["line", "scale"] (yp K sKey):=by
 refine F.okD qdq (fun es U Q hq0=>by obtain ⟨l,g,e,_⟩:=hq0;subst e;rfl) (fun cdv A outer s H E es U Q hr hq0=>?_);obtain ⟨l,g,e,hn,hb,hg,k⟩:=hq0;subst e;have nd:=qdq.nd;refine ⟨_,(qz (qaJ (dv 0) (jD (n:=3) rfl (qM (qK (i:=2) nd rfl (by first | exact Or.inl rfl | exact Or.inr rfl)) (qM (qK (i:=3) nd rfl (by first | exact Or.inl rfl | exact Or.inr rfl)) (qM (qK (i:=4) nd rfl (by first | exact Or.inl rfl | exact Or.inr rfl)) y9)))))
   (qz (jX (yE (Jd hr.units) (dv 2) qF (ym _)) (qL (y0 (jT (qd qF (qd qF (qd (dv 4) qm)))))) je)
   (qL (y0 (jT (qd qF (qd (yC YJ (yC yL (dv 3) (dv 1)) (dv 2)) (qd (dv 4) qm)))))))),?_⟩
 refine ⟨rfl,Jx (fun c=>?_) (fun c=>?_)⟩
 .have c:l.1.1=0:=qN c;unfold qfh at k;rw [if_pos c] at k;exact ⟨zl3,k⟩
 .have c:¬ l.1.1=0:=fun z=>c (decide_eq_true z);unfold qfh at k;rw [if_neg c] at k;have h2:l.1.2.natAbs<=B40:=qq hb.1.2 (by decide);exact ⟨⟨yr h2 b40,yr hg b62⟩,ZP b40 c (qq hb.1.1 (by decide)),zl3,k⟩
abbrev lamP:Pos:=⟨35,29,35,63⟩
abbrev lamQ:Str := "lines_in_order.<locals>.<lambda>"
abbrev TB (tb:Addr):Addr×MO:=(tb,.any (Ys lamQ lamP))
def sLio (tb:Addr):SpD:=fun es U Q=>∃ ls:List Ln,es=[.d (.list (ls.map lnD))]/\ls.Nodup/\(∀ l∈ls,IsN l.1/\LBd l)/\ls.length<=60/\TB tb∈U/\∀ ms:List Ln,ms.Perm ls->ms.Pairwise Ahd->Q (.d (.list (ms.map lnD))) U
def keyR (g:Int) (z:List Int):List Int:=match z with
 | [a,b,c]=>qfh g ((a,b),c)
 | _=>[0]
theorem qiK (g:Int) (z:List Int):keyR g z≠[]:=by
 unfold keyR qfh;split
 .split <;> exact fun h=>nomatch h
 .exact fun h=>nomatch h
theorem qgF:FnScope ["lines", "scale"] ["lines"] (qx jd):=⟨rfl,rfl,rfl,by decide +kernel,rfl,by decide +kernel,by decide +kernel⟩
theorem qkA {f tb cc:Addr}{fd:FuncData}(F:Fun K "lines_in_order" "lines_in_order" jd f fd) (hcc:fd.code = .ref cc) (hB:Y1 base mg) (hC:W.CodeHd base cc tb) (T:Txt mg) (hX:NoX CX) (Oline_key:Own P w K mg base CX 1 "line_key" ["line", "scale"] (yp K sKey)):FnOk P w K mg base CX 5 f fd ["lines"] (yp K (sLio tb)):=by
 refine F.okDC hcc qgF (fun es U Q hq0=>by obtain ⟨ls,e,_⟩:=hq0;subst e;rfl) (fun A outer s H E es U Q hr hq0=>?_);obtain ⟨ls,e,hnd,hls,hlen,htb,k⟩:=hq0;subst e;have nd:=qgF.nd;refine ⟨_,(qz (yn (i:=1) nd rfl (by first | exact Or.inl rfl | exact Or.inr rfl) (qlc rfl (by rfl) T.max_ (Zl (L:=["a", "b", "c"]) (sc:=qx jd) (N:=["lines", "scale"]) rfl rfl rfl (by decide +kernel) (yW (dv 0)) (fun _ _ _ _ _=>(jD (n:=3) rfl (qM (qK (i:=2) (show List.Nodup (["lines", "scale", "a", "b", "c"]:List Str) from by decide +kernel) rfl (by first | exact Or.inl rfl | exact Or.inr rfl)) (qM (qK (i:=3) (show List.Nodup (["lines", "scale", "a", "b", "c"]:List Str) from by decide +kernel) rfl (by first | exact Or.inl rfl | exact Or.inr rfl)) (qM (qK (i:=4) (show List.Nodup (["lines", "scale", "a", "b", "c"]:List Str) from by decide +kernel) rfl (by first | exact Or.inl rfl | exact Or.inr rfl)) y9))))) (fun _ _ _ _ _=>jZ) (fun _ _ _ _ _=>(yC yL (dv 2) (dv 2)))) qF))
   (qL (y0 (qi4 (x := "line") (y := "scale") (i:=1) hB hC rfl rfl rfl ⟨rfl,rfl,rfl,by decide,rfl,rfl,by decide +kernel⟩ (by decide +kernel) rfl rfl (by rfl) T.sorted_ (hr.in1.in1) (fun _ _ _ _ _=>rfl) (dv 0) (fun _ _ _ _ _ hr=>(qY Oline_key hX (hr.mono (by decide)) rfl (qd (dv 0) (qd (dv 1) qm)))))))),?_⟩
 have hl2:(ls.map lnD).length<=4000:=by rw [List.length_map];omega
 have hm:∀ l∈ls,l.1.1 * l.1.1<=4000000000000000000000000000000000000000000000000000000000000:=fun l hl=>by
  have h:=(hls l hl).2.1.1;have:(l.1.1 * l.1.1).natAbs<=2000000000000000000000000000000 * 2000000000000000000000000000000:=by rw [Int.natAbs_mul];exact Nat.mul_le_mul h h
  omega
 refine ⟨_,.d _,hl2,qlt (as:=ls) (fun l=>.int (l.1.1 * l.1.1)) (Src.l (.d _)) (fun l hl R h=>?_) ?_⟩
 .have h1:l.1.1.natAbs<=B40:=qq (hls l hl).2.1.1 (by decide);exact ⟨YV h1 h1,h⟩
 .refine ⟨ls.map fun l=>l.1.1 * l.1.1,0,by rw [List.map_map];exact .d _,rfl,fun m hm'=>?_⟩;have hg:(∀ l∈ls,l.1.1 * l.1.1<=m)/\m.natAbs<=4000000000000000000000000000000000000000000000000000000000000:=by
   rcases hm' with ⟨e,rfl⟩ | ⟨h1,h2⟩
   .have:ls=[]:=List.map_eq_nil_iff.mp e;subst this;exact ⟨fun l hl=>(nomatch hl),by decide⟩
   .refine ⟨fun l hl=>h2 _ (ql.mpr ⟨l,hl,rfl⟩),?_⟩;obtain ⟨l,hl,rfl⟩:=ql.mp h1;have:=hm l hl;have:0<=l.1.1 * l.1.1:=by
     rcases Int.le_total 0 l.1.1 with z | z
     .exact Int.mul_nonneg z z
     .exact Int.mul_nonneg_of_nonpos_of_nonpos z z
    omega
  refine ⟨ls.map lnK,.d (.int m),keyR m,by rw [List.map_map];exact .d _,by rw [List.length_map];omega,rfl,htb,qiK m,fun z hz=>?_,fun ps pp pw=>?_⟩
  .obtain ⟨l,hl,rfl⟩:=ql.mp hz;exact ⟨l,m,rfl,(hls l hl).1,(hls l hl).2,hg.2,rfl,rfl⟩
  .obtain ⟨ms,p1,rfl⟩:=Yl lnK pp rfl;have nd2:ms.Nodup:=p1.nodup_iff.mpr hnd;rw [yh] at pw;have:=k ms p1 ((pw.and nd2).imp_of_mem fun {a b} ha hb z=>qiJ (hls a (p1.mem_iff.mp ha)).1 (hls b (p1.mem_iff.mp hb)).1 (hg.1 a (p1.mem_iff.mp ha)) (hg.1 b (p1.mem_iff.mp hb)) z.2 z.1);rw [List.map_map];exact this
def qkH (p:Pt×Pt):Ln:=(nO p.1 p.2,vl (nO p.1 p.2) p.1)
theorem qkG {ks:List (List Int)}{L:List (Pt×Pt)}:(∀ k∈ks,k∈L.map fun p=>thr p.1 p.2)->∃ ls:List Ln,ks=ls.map lnK/\∀ l∈ls,l∈L.map qkH:=by
 induction ks with
 | nil=>exact fun _=>⟨[],rfl,fun _ z=>nomatch z⟩
 | cons k ks ih =>
  intro h;obtain ⟨ls,e,m⟩:=ih fun z hz=>h z (qf _ hz);obtain ⟨a,ha,ea⟩:=ql.mp (h k qe);refine ⟨qkH a::ls,by rw [e,<- ea];rfl,fun l hl=>?_⟩;rcases List.mem_cons.mp hl with rfl | hl
  .exact ql.mpr ⟨a,ha,rfl⟩
  .exact m l hl
def qhN (tb:Addr):SpD:=fun es U Q=>∃ ps:List Pt,es=[.d (hpD ps)]/\ps.length<=11/\Bds ps/\TB tb∈U/\∀ ls:List Ln,Plc ps (plc ps)->ls.Pairwise Ahd->(∀ l,l∈ls ↔ qbG ps l)->ls.length<4000->Q (.d (.list (ls.map lnD))) U
theorem qdN {l:List Pt}(hn:l.Nodup) {p:Pt×Pt}(h:p∈prs l):p.1∈l/\p.2∈l/\p.1≠p.2:=by
 induction l with
 | nil=>exact (nomatch h)
 | cons a t ih =>
  obtain ⟨h1,h2⟩:=List.nodup_cons.mp hn;rcases List.mem_append.mp h with h | h
  .obtain ⟨b,hb,rfl⟩:=ql.mp h;exact ⟨qe,qf _ hb,fun z=>h1 (by have z:a=b:=z;rw [z];exact hb)⟩
  .obtain ⟨a1,a2,a3⟩:=ih h2 h;exact ⟨qf _ a1,qf _ a2,a3⟩
theorem qfI {l:List Pt}{a b:Pt}(ha:a∈l) (hb:b∈l) (h:a≠b):(a,b)∈prs l\/(b,a)∈prs l:=by
 induction l with
 | nil=>exact (nomatch ha)
 | cons c t ih =>
  rcases List.mem_cons.mp ha with e | ha'
  .subst e;rcases List.mem_cons.mp hb with e | hb'
   .exact absurd e.symm h
   .exact .inl (qr _ (ql.mpr ⟨b,hb',rfl⟩))
  .rcases List.mem_cons.mp hb with e | hb'
   .subst e;exact .inr (qr _ (ql.mpr ⟨a,ha',rfl⟩))
   .rcases ih ha' hb' with h | h
    .exact .inl (qh _ h)
    .exact .inr (qh _ h)
theorem qaw {ps:List Pt}(hP:Plc ps (plc ps)) (l:Ln):l∈(prs (plc ps)).map qkH ↔ qbG ps l:=by
 constructor
 .intro h;obtain ⟨p,hp,rfl⟩:=ql.mp h;obtain ⟨h1,h2,h3⟩:=qdN hP.1 hp;exact qb7 ((hP.2.2 _).mp h1) ((hP.2.2 _).mp h2) h3
 .intro h;obtain ⟨p,hp,q,hq,hne,rfl⟩:=ZK h;rcases qfI ((hP.2.2 _).mpr hp) ((hP.2.2 _).mpr hq) hne with z | z
  .exact ql.mpr ⟨_,z,rfl⟩
  .exact ql.mpr ⟨_,z,qkD hne⟩
theorem qjD (p q:Pt):thr p q≠[]:=fun h=>nomatch h
theorem qds:FnScope ["heap"] ["heap"] (qx jp):=⟨rfl,rfl,rfl,by decide +kernel,rfl,by decide +kernel,by decide +kernel⟩
theorem qiq {f:Addr}{fd:FuncData}(F:Fun K "joining_lines" "joining_lines" jp f fd) {tb:Addr}(T:Txt mg) (hX:NoX CX) (Oplace_pairs:Own P w K mg base CX 2 "place_pairs" ["heap"] (yp K sPp)) (Othrough:Own P w K mg base CX 3 "through" ["one", "other"] (yp K sThr)) (Olines_in_order:Own P w K mg base CX 5 "lines_in_order" ["lines"] (yp K (sLio tb))):FnOk P w K mg base CX 6 f fd ["heap"] (yp K (qhN tb)):=by
 refine F.okD qds (fun es U Q hq0=>by obtain ⟨ps,e,_⟩:=hq0;subst e;rfl) (fun cdv A outer s H E es U Q hr hq0=>?_);obtain ⟨ps,e,hl,hb,htb,k⟩:=hq0;subst e;have nd:=qds.nd;refine ⟨_,(qL (y0 (qY Olines_in_order hX (hr.mono (by decide)) rfl (qd (qW (ZT (P:=P) (w:=w) (K:=K) rfl) (by rfl) T.sorted_ jF (qd (qla (P:=P) (w:=w) (K:=K) (L:=["one", "other"]) (sc:=qx jp) (N:=["heap"]) hr.units rfl rfl rfl (by decide +kernel) (yW (qY Oplace_pairs hX (hr.mono (by decide)) rfl (qd (dv 0) qm))) (fun _ _ _ _ _=>(jD (n:=2) rfl (qM (qK (i:=1) (show List.Nodup (["heap", "one", "other"]:List Str) from by decide +kernel) rfl (by first | exact Or.inl rfl | exact Or.inr rfl)) (qM (qK (i:=2) (show List.Nodup (["heap", "one", "other"]:List Str) from by decide +kernel) rfl (by first | exact Or.inl rfl | exact Or.inr rfl)) y9)))) (fun _ _ _ _ _=>jZ) (fun _ _ _ _ _=>(qY Othrough hX (hr.mono (by decide)) rfl (qd (dv 1) (qd (dv 2) qm))))) qm)) qm)))),?_⟩;refine ⟨ps,rfl,by omega,fun hP=>?_⟩;have hq:(plc ps).length<=11:=qq (yg hP.1 fun q hq=>(hP.2.2 q).mp hq) hl;have h1000:(prs (plc ps)).length<=55:=by
  have e:=Zz (plc ps);have:(plc ps).length * (plc ps).length<=11 * (plc ps).length:=Nat.mul_le_mul_right _ hq;omega
 have hne:∀ p∈prs (plc ps),Bd B30 p.1/\Bd B30 p.2/\p.1≠p.2:=fun p hp=>by
  obtain ⟨h1,h2,h3⟩:=qdN hP.1 hp;exact ⟨hb _ ((hP.2.2 _).mp h1),hb _ ((hP.2.2 _).mp h2),h3⟩
 refine ⟨_,.d _,?_⟩;refine setC2 (ρ:=[some (.d (hpD ps))]) (U:=U) (tt:=qjv) (as:=prs (plc ps)) (h1:=fun p=>ptD p.1) (h2:=fun p=>ptD p.2) (fun p=>thr p.1 p.2) (Src.l (.d _)) (by omega) (fun _ _ _ h=>h) (fun p _=>qjD _ _) (fun p hp R h=>?_) (fun ms hm hnd h49=>?_)
 .obtain ⟨b1,b2,h3⟩:=hne p hp;exact ⟨p.1,p.2,rfl,b1,b2,h3,h⟩
 .have hms:ms.length<=55:=by
   have:=yg hnd fun q hq=>(hm q).mp hq;rw [List.length_map] at this;omega
  refine ⟨ms,rfl,by omega,fun ks hp hs=>?_⟩;obtain ⟨ls,rfl,hin⟩:=qkG (L:=prs (plc ps)) fun q hq=>(hm q).mp (hp.mem_iff.mp hq);have hnl:ls.Nodup:=by
   have:(ls.map lnK).Nodup:=hp.nodup_iff.mpr hnd;exact (yh.mp this).imp fun h z=>h (by rw [z])
  have hJ:∀ l,l∈ls ↔ qbG ps l:=fun l=>by
   rw [<- qaw hP l];refine ⟨hin l,fun h=>?_⟩;obtain ⟨p,hp',rfl⟩:=ql.mp h;have:thr p.1 p.2∈ls.map lnK:=hp.mem_iff.mpr ((hm _).mpr (ql.mpr ⟨p,hp',rfl⟩));obtain ⟨l,hl',e⟩:=ql.mp this;have e2:l=qkH p:=qiC e;rw [<- e2];exact hl'
  have hll:ls.length<=55:=by
   have:=hp.length_eq;rw [List.length_map] at this;omega
  refine ⟨ls,by rw [List.map_map];rfl,hnl,fun l hl'=>?_,by omega,htb,fun ms' p' s'=>k ms' hP s' (fun l=>(p'.mem_iff).trans (hJ l)) (by rw [p'.length_eq];omega)⟩;have J:=(hJ l).mp hl';exact ⟨J.1,qf3 hb J⟩
end
section
variable {P:Program}{w:World}{K:W.Frag}{mg:Str->Option Value}{base:Heap}{CX:CXT}
def sVal:SpD:=fun es U Q=>∃ p q:Pt,es=[.d (ptD p),.d (ptD q)]/\Bd B40 p/\Bd B40 q/\Q (.d (.int (vl p q))) U
theorem qbS:FnScope ["normal", "point"] ["normal", "point"] (qx qda):=⟨rfl,rfl,rfl,by decide +kernel,rfl,by decide +kernel,by decide +kernel⟩
theorem qfS {f:Addr}{fd:FuncData}(F:Fun K "value" "value" qda f fd)  : FnOk P w K mg base CX 1 f fd ["normal", "point"] (yp K sVal):=by
 refine F.okD qbS (fun es U Q hq0=>by obtain ⟨p,q,e,_⟩:=hq0;subst e;rfl) (fun cdv A outer s H E es U Q hr hq0=>?_);obtain ⟨p,q,e,hp,hq,k⟩:=hq0;subst e;have nd:=qbS.nd;refine ⟨_,(qL (y0 (yC yJ (yC yL (Jz yx (dv 0) qF (fun _ _=>rfl)) (Jz yx (dv 1) qF (fun _ _=>rfl))) (yC yL (Jz yx (dv 0) qF (fun _ _=>rfl)) (Jz yx (dv 1) qF (fun _ _=>rfl)))))),?_⟩;exact ⟨_,rfl,_,rfl,YV hp.1 hq.1,_,rfl,_,rfl,YV hp.2 hq.2,k⟩
theorem qlz {q:Pt}(h:Bd B30 q):Bd B40 q:=⟨qq h.1 (by decide),qq h.2 (by decide)⟩
def qfj (ps ns:List Pt):Prop:=ns.Pairwise (fun a b=>0<crs a b)/\∀ n,n∈ns ↔ ∃ l,qbG ps l/\l.1=n
def qdA (tb:Addr):SpD:=fun es U Q=>∃ ps:List Pt,es=[.d (hpD ps)]/\ps.length<=11/\Bds ps/\TB tb∈U/\∀ ns:List Pt,qfj ps ns->ns.length<=1000->∀ p,p∉U.map Prod.fst->Q (.m p) ((p,.lst (ns.map ptD))::U)
def sSlo (tb:Addr):SpD:=fun es U Q=>∃ ps:List Pt,es=[.d (hpD ps)]/\ps.length<=11/\Bds ps/\TB tb∈U/\∀ ns:List Pt,qfj ps ns->ns.length<=1000->Q (.d (hpD ns)) U
theorem qdh {tb:Addr}{vs:List V}{H:Hp}{Q:VK}{E:XK}(h:yp K (sSlo tb) vs H Q E):yp K (qdA tb) vs H Q E :=
 qg7 (fun es U Q ⟨A,e,h1,h2,h3,k⟩=>⟨A,e,h1,h2,h3,fun ns a b p hp=>⟨_,_,FzR.list1,k ns a b⟩⟩) h
theorem qgD:FnScope ["heap"] ["heap"] (qx Zs):=⟨rfl,rfl,rfl,by decide +kernel,rfl,by decide +kernel,by decide +kernel⟩
theorem qky {f:Addr}{fd:FuncData}(F:Fun K "slopes" "slopes" Zs f fd) {tb:Addr}(T:Txt mg) (hX:NoX CX) (Ojoining_lines:Own P w K mg base CX 6 "joining_lines" ["heap"] (yp K (qhN tb))):FnOk P w K mg base CX 7 f fd ["heap"] (yp K (qdA tb)):=by
 refine F.okD qgD (fun es U Q hq0=>by obtain ⟨ps,e,_⟩:=hq0;subst e;rfl) (fun cdv A outer s H E es U Q hr hq0=>?_);obtain ⟨ps,e,hl,hb,htb,k⟩:=hq0;subst e;have nd:=qgD.nd;refine ⟨_,(qL (yT (jM (qgl (P:=P) (w:=w) (K:=K) rfl) (by rfl) T.list_ Yb (qd (qld (P:=P) (w:=w) (K:=K) (L:=["a", "b", "c"]) (sc:=qx Zs) (N:=["heap"]) hr.units rfl rfl rfl (by decide +kernel) (yW (qY Ojoining_lines hX (hr.mono (by decide)) rfl (qd (dv 0) qm))) (fun _ _ _ _ _=>(jD (n:=3) rfl (qM (qK (i:=1) (show List.Nodup (["heap", "a", "b", "c"]:List Str) from by decide +kernel) rfl (by first | exact Or.inl rfl | exact Or.inr rfl)) (qM (qK (i:=2) (show List.Nodup (["heap", "a", "b", "c"]:List Str) from by decide +kernel) rfl (by first | exact Or.inl rfl | exact Or.inr rfl)) (qM (qK (i:=3) (show List.Nodup (["heap", "a", "b", "c"]:List Str) from by decide +kernel) rfl (by first | exact Or.inl rfl | exact Or.inr rfl)) y9))))) (fun _ _ _ _ _=>jZ) (fun _ _ _ _ _=>(jT (qd (dv 1) (qd (dv 2) qm)))) (fun _ _ _ _ _=>qeS)) qm)))),?_⟩;refine ⟨ps,rfl,hl,hb,htb,fun ls hP hs hJ hll=>?_⟩;refine ⟨_,.d _,?_⟩;refine dctN (ρ:=[some (.d (hpD ps))]) (U:=U) (tt:=qjv) hs (fun l hl'=>((hJ l).mp hl').1) (Src.l (.d _)) (by omega) (fun _ _ _ h=>h) (fun l hl' R h=>⟨zl2,h⟩) (fun l hl' R h=>h) (fun ns hp hm=>?_);have hle:ns.length<=1000:=by
  have nd:ns.Nodup:=hp.imp fun h z=>by rw [z,jU] at h;omega
  have h1:=yg nd (kss:=(prs (plc ps)).map fun p=>(qkH p).1) fun q hq=>by
   obtain ⟨l,h1,h2⟩:=(hm q).mp hq;have:=(qaw hP l).mpr ((hJ l).mp h1);obtain ⟨x,hx,e⟩:=ql.mp this;exact ql.mpr ⟨x,hx,by rw [e,h2]⟩
  rw [List.length_map] at h1;have h2:=Zz (plc ps);have h3:(plc ps).length<=44:=qq (yg hP.1 fun q hq=>(hP.2.2 q).mp hq) (by omega);have h4:(plc ps).length * (plc ps).length<=44 * (plc ps).length:=Nat.mul_le_mul h3 (Nat.le_refl _);omega
 refine ⟨_,ns.map nK,rfl,.x _,by rw [List.length_map];omega,fun p hp'=>?_⟩;have:=k ns ⟨hp,fun n=>(hm n).trans ⟨fun ⟨l,h1,h2⟩=>⟨l,(hJ l).mp h1,h2⟩,fun ⟨l,h1,h2⟩=>⟨l,(hJ l).mpr h1,h2⟩⟩⟩ hle p hp';rw [List.map_map];exact ⟨_,_,FzR.refl,this⟩
def jl (rs:List (List Pt)):List (List PyData):=rs.map fun r=>r.map ptD
def Y7:SpD:=fun es U Q=>∃ (ps:List Pt) (n:Pt),es=[.d (hpD ps),.d (ptD n)]/\ps.length<64/\Bds ps/\Bd B40 n/\∀ (rs:List (List Pt)) (as:List Addr) (p:Addr),Plc ps (plc ps)->Rk n (plc ps) rs->as.length=rs.length->(∀ a∈as,a∉U.map Prod.fst)->p∉U.map Prod.fst->Q (.m p) ((p,.refs as)::cells as (jl rs)++U)
def sRank:SpD:=fun es U Q=>∃ (ps:List Pt) (n:Pt),es=[.d (hpD ps),.d (ptD n)]/\ps.length<64/\Bds ps/\Bd B40 n/\∀ (rs:List (List Pt)),Plc ps (plc ps)->Rk n (plc ps) rs->Q (.d (.list (rs.map hpD))) U
theorem JB {vs:List V}{H:Hp}{Q:VK}{E:XK}(h:yp K sRank vs H Q E):yp K Y7 vs H Q E :=
 qg7 (fun es U Q ⟨ps,n,e,h1,h2,h3,k⟩=>⟨ps,n,e,h1,h2,h3,fun rs as p hP hR hl ha hp=>by
  refine ⟨U,.d (.list (qfY (jl rs))),FzR.refsN qe (YN (by unfold jl;rw [List.length_map];exact hl) fun c hc=>qf _ (qr _ hc)) ?_ hp ha,?_⟩
  .exact (List.sublist_append_right _ _).cons _
  .have e:qfY (jl rs)=rs.map hpD:=by unfold qfY jl;rw [List.map_map];rfl
   rw [e];exact k rs hP hR⟩) h
theorem qdp:FnScope ["heap", "normal", "rows", "place"] ["heap", "normal"] (qx qfr):=⟨rfl,rfl,rfl,by decide +kernel,rfl,by decide +kernel,by decide +kernel⟩
theorem qin {f:Addr}{fd:FuncData}(F:Fun K "rank" "rank" qfr f fd) (T:Txt mg) (hX:NoX CX) (Oplaces:Own P w K mg base CX 1 "places" ["heap"] (yp K qfx)) (Ovalue:Own P w K mg base CX 1 "value" ["normal", "point"] (yp K sVal)):FnOk P w K mg base CX 2 f fd ["heap", "normal"] (yp K Y7):=by
 refine F.okD qdp (fun es U Q hq0=>by obtain ⟨ps,n,e,_⟩:=hq0;subst e;rfl) (fun cdv A outer s H E es U Q hr hq0=>?_);obtain ⟨ps,n,e,h64,hb,hn,k⟩:=hq0;subst e;have nd:=qdp.nd;refine ⟨_,(qz (yn (i:=2) nd rfl (by first | exact Or.inl rfl | exact Or.inr rfl) qi6)
   (qz (jB PassesOwn.never rfl (yW (qY Oplaces hX (hr.mono (by decide)) rfl (qd (dv 0) qm))) (qK (i:=3) nd rfl (by first | exact Or.inl rfl | exact Or.inr rfl)) (qL (jY (Jn (qcg (dv 2) (qd (qY Ovalue hX (hr.mono (by decide)) rfl (qd (dv 1) (qd (dv 3) qm))) (qd (JH qm) qm)) (h:=ZB PySem.F.plainAttrs_dict PySem.F.slot_dict_setdefault PySem.F.type_dict_setdefault qat (dv 2) (qd (qY Ovalue hX (hr.mono (by decide)) rfl (qd (dv 1) (qd (dv 3) qm))) (qd (JH qm) qm)))) (qd (dv 3) qm) (h:=ZB PySem.F.plainAttrs_list PySem.F.slot_list_append PySem.F.type_list_append jS (qcg (dv 2) (qd (qY Ovalue hX (hr.mono (by decide)) rfl (qd (dv 1) (qd (dv 3) qm))) (qd (JH qm) qm)) (h:=ZB PySem.F.plainAttrs_dict PySem.F.slot_dict_setdefault PySem.F.type_dict_setdefault qat (dv 2) (qd (qY Ovalue hX (hr.mono (by decide)) rfl (qd (dv 1) (qd (dv 3) qm))) (qd (JH qm) qm)))) (qd (dv 3) qm))))))
   (qL (yT (qi8 (L:=["height"]) (sc:=qx qfr) (N:=["heap", "normal", "rows", "place"]) rfl rfl rfl (by decide +kernel) (yW (qW (qgk rfl) (by rfl) T.sorted_ jF (qd (dv 2) qm))) (fun _ _ _ _ _=>(qK (i:=4) (show List.Nodup (["heap", "normal", "rows", "place", "height"]:List Str) from by decide +kernel) rfl (by first | exact Or.inl rfl | exact Or.inr rfl))) (fun _ _ _ _ _=>jZ) (fun _ _ _ _ _=>(qi7 hr.u1 (dv 2) (dv 4) (fun _ _=>rfl)))))))),?_⟩
 refine fun d hd=>⟨ps,rfl,h64,fun hP=>⟨_,.d _,?_⟩⟩;have kk:=fun rs as p=>k rs as p hP;have bd:∀ z∈plc ps,Bd B30 z:=fun z hz=>hb z ((hP.2.2 z).mp hz);have hlen:(plc ps).length<64:=yr (yg hP.1 fun q hq=>(hP.2.2 q).mp hq) h64;generalize plc ps=qs at *;refine qiT (fun i ρ' U'=>∃ R:List Rw,U'=(rwC ptD R).reverse++DK d (rwK R)::U/\RwI n U (qs.take i) R/\∃ v3,ρ'=[some (.d (hpD ps)),some (.d (ptD n)),some (.m d),v3])
  ⟨[],rfl,⟨.nil,(fun k=>by simp),(fun _ h=>(nomatch h)),(fun _ h=>(nomatch h))⟩,_,rfl⟩ (fun _ _ _ _=>.d _) ?_ ?_
 .rintro i x ρ' U' hx ⟨R,rfl,I,v3,rfl⟩;rw [List.getElem?_map] at hx;obtain ⟨q,hq,rfl⟩:=yk.mp hx;have mq:=List.mem_of_getElem? hq;have et:=yw hq;have hRl:R.length<=i:=by
   have:=yg I.nd (kss:=(qs.take i).map (vl n)) fun k hk=>by
    obtain ⟨q,h1,h2⟩:=(I.ks k).mp hk;exact ql.mpr ⟨q,h1,h2⟩
   rw [List.length_map,List.length_map,ya] at this;omega
  have hi:i<qs.length:=(qk.mp hq).1;have hkl:(rwK R).length<4000:=by unfold rwK;rw [List.length_map];omega
  refine ⟨d,rwK R,rfl,by simp,n,q,rfl,hn,qlz (bd q mq),qB _,fun y hy=>⟨vl n q,y,rwK R,(y,.lst [])::(rwC ptD R).reverse,U,rfl,rfl,hkl,fun p hf=>?_,fun hf=>?_⟩⟩
  .obtain ⟨R1,r,R2,rfl,ek,ea⟩:=qhU hf;have eR:(rwC ptD (R1++r::R2)).reverse=(rwC ptD R2).reverse++(r.a,MO.lst (r.ps.map ptD))::(rwC ptD R1).reverse:=by unfold rwC;simp
   rw [<- ea];have hpl:(r.ps.map ptD).length<4000:=by
    rw [I.ps r (by simp),List.length_map];have:=List.length_filter_le (fun q=>decide (vl n q=r.k)) (qs.take i);unfold JW;rw [ya] at this;omega
   refine ⟨⟨r.ps.map ptD,by rw [eR];simp⟩,(y,.lst [])::(rwC ptD R2).reverse,(rwC ptD R1).reverse++DK d (rwK (R1++r::R2))::U,r.ps.map ptD,by rw [eR];simp,hpl,?_⟩;refine ⟨_,_,Wk.drop1,R1++⟨r.k,r.a,r.ps++[q]⟩::R2,?_,?_,_,rfl⟩
   .unfold rwC rwK;simp
   .rw [et];exact qhV I ek
  .have hy':y∉U.map Prod.fst:=fun z=>hy (by
    rw [List.map_append,List.map_cons];exact qh _ (qf _ z))
   refine ⟨⟨[],by simp⟩,[],(rwC ptD R).reverse++DK d (rwK R++[(vl n q,y)])::U,[],rfl,(show 0<4000 by decide),?_⟩;refine Wks.of ⟨R++[⟨vl n q,y,[q]⟩],?_,?_,_,rfl⟩
   .unfold rwC rwK;simp
   .rw [et];exact qhW I (qhT hf) hy'
 .rintro ρ' U' ⟨R,rfl,I,v3,rfl⟩;have el:qs.take (qs.map ptD).length=qs:=by rw [List.length_map,yo]
  rw [el] at I;have hRl:R.length<64:=by
   have:=yg I.nd (kss:=qs.map (vl n)) fun k hk=>by
    obtain ⟨q,h1,h2⟩:=(I.ks k).mp hk;exact ql.mpr ⟨q,h1,h2⟩
   rw [List.length_map,List.length_map] at this;omega
  have ekk:(rwK R).map (·.1)=R.map (·.k):=by unfold rwK;rw [List.map_map];rfl
  refine ⟨d,rwK R,rfl,by simp,by unfold rwK;rw [List.length_map];exact hRl,by rw [ekk];exact I.nd,fun ns hp hs=>?_⟩;rw [ekk] at hp;obtain ⟨e1,e2,e3,e4⟩:=qjS (f:=ptD) I hp hs;have hnl:ns.length<64:=by rw [hp.length_eq,List.length_map];exact hRl
  refine ⟨_,.d _,(by show (ns.map PyData.int).length<=4000;rw [List.length_map];omega),fun i ys ρ' U'=>U'=(rwC ptD R).reverse++DK d (rwK R)::U/\ys=(ns.take i).map (adr R)/\∃ v4,ρ'=[some (.d (hpD ps)),some (.d (ptD n)),some (.m d),v3,v4],⟨rfl,rfl,_,rfl⟩,(fun _ _ _ _ _ _=>.d _),?_,?_⟩
  .rintro i ys ρ' U' hi ⟨rfl,rfl,v4,rfl⟩;have hi:i<(ns.map PyData.int).length:=hi;rw [List.length_map] at hi;have eit:(itL (.d (.list (ns.map PyData.int))) (ns.map PyData.int)).item i = .d (.int ns[i]):=by
    show En.d ((ns.map PyData.int).getD i .none)=_;rw [List.getD_eq_getElem?_getD,List.getElem?_map,List.getElem?_eq_getElem hi];rfl
   rw [eit];refine ⟨d,rwK R,ns[i],_,rfl,rfl,by simp,e3 _ (qy hi),_,rfl,rfl,?_,_,rfl⟩;rw [yw (List.getElem?_eq_getElem hi),List.map_append];rfl
  .rintro ys ρ' U' ⟨rfl,rfl,v4,rfl⟩ p hp';have en:ns.take (ns.map PyData.int).length=ns:=by rw [List.length_map,yo]
   have en:ns.take (itL (.d (.list (ns.map PyData.int))) (ns.map PyData.int)).n=ns:=en;rw [en];have hpU:p∉U.map Prod.fst:=fun z=>hp' (by
    rw [List.map_append,List.map_cons];exact qh _ (qf _ z))
   refine ⟨_,_,FzR.sp (m:=(p,.refs (ns.map (adr R)))::(cells (ns.map (adr R)) (jl (ns.map (JW n qs)))++DK d (rwK R)::U)) ?_ ?_,kk (ns.map (JW n qs)) (ns.map (adr R)) p ⟨ns,e1,rfl⟩ (by rw [List.length_map,List.length_map]) e4 hpU⟩
   .exact ((List.reverse_perm _).trans e2).append_right _ |>.cons _
   .exact ((List.Sublist.refl _).append (List.sublist_cons_self _ _)).cons_cons _
end
section
variable {P:Program}{w:World}{K:W.Frag}{mg:Str->Option Value}{base:Heap}{CX:CXT}
theorem qiy {a b:Int}(h:a≠0\/b≠0):nrm (-a) (-b)=nrm a b:=by
 have h':-a≠0\/-b≠0:=by omega
 obtain ⟨e1,e2⟩:=JU a b h;obtain ⟨e3,e4⟩:=JU (-a) (-b) h';have d1:=Js h;have d2:=Js h';refine JI (qbk h') (qbk h) ?_;generalize nrm a b=n at *;generalize nrm (-a) (-b)=m at *;generalize dvs a b=d at *;generalize dvs (-a) (-b)=d' at *;have e:d' * d * crs m n=0:=by
  unfold crs;have k1:d' * d * (m.1 * n.2 - m.2 * n.1)=(d' * m.1) * (d * n.2) - (d' * m.2) * (d * n.1):=by grind
  rw [k1,<- e1,<- e2,<- e3,<- e4];grind
 rcases yU.mp e with z | z
 .rcases yU.mp z with y | y
  .exact absurd y d2
  .exact absurd y d1
 .exact z
theorem Y6:FnScope ["_law_heap_here"] ["_law_heap_here"] (qx j8):=⟨rfl,rfl,rfl,by decide +kernel,rfl,by decide +kernel,by decide +kernel⟩
theorem qcF {f:Addr}{fd:FuncData}(F:Fun K "_law_places" "_law_places" j8 f fd) (T:Txt mg):FnOk P w K mg base CX 1 f fd ["_law_heap_here"] (yp K qfx):=by
 refine F.okD Y6 (fun es U Q hq0=>by obtain ⟨ps,e,_⟩:=hq0;subst e;rfl) (fun cdv A outer s H E es U Q hr hq0=>?_);obtain ⟨ps,e,hl,k⟩:=hq0;subst e;have nd:=Y6.nd;refine ⟨_,(qL (y0 (qW (ZT (P:=P) (w:=w) (K:=K) rfl) (by rfl) T.sorted_ jF (qd (jM (qhc (P:=P) (w:=w) (K:=K) rfl hr.units) (by rfl) T.set_ qe4 (qd (dv 0) qm)) qm)))),?_⟩;refine ⟨ps.map ptK,by rw [<- JQ];exact .d _,qbW _,by rw [List.length_map];omega,fun ms hm hn h77=>⟨ms,rfl,?_,fun ks hp hs=>?_⟩⟩
 .have:=yg hn fun q hq=>(hm q).mp hq;rw [List.length_map] at this;omega
 obtain ⟨qs,rfl,h⟩:=qdP hm hn hp hs;obtain ⟨rfl,hP⟩:=qdQ h;rw [<- JQ];exact k hP
theorem qkI {p q:Pt}(h:p≠q):HT.lexLt (ptK p) (ptK q)=true\/HT.lexLt (ptK q) (ptK p)=true:=by
 have lx:∀ p q:Pt,HT.lexLt (ptK p) (ptK q)=true ↔ p.1<q.1\/(p.1=q.1/\p.2<q.2):=fun p q=>by
  unfold ptK;rw [HT.lexLt_cons];by_cases h:p.1=q.1
  .rw [if_pos h,HT.lexLt_cons];by_cases h2:p.2=q.2
   .rw [if_pos h2,HT.lexLt_nil_nil];exact ⟨fun z=>absurd z (by decide),fun z=>by omega⟩
   .rw [if_neg h2,decide_eq_true_iff];omega
  .rw [if_neg h,decide_eq_true_iff];omega
 rw [lx,lx];have:p.1≠q.1\/p.2≠q.2:=by
  by_cases c:p.1=q.1
  .exact .inr fun z=>h (Prod.ext c z)
  .exact .inl c
 omega
theorem qiD (p:Pt):¬ HT.lexLt (ptK p) (ptK p)=true:=fun z=>by
 unfold ptK at z;rw [HT.lexLt_cons,if_pos rfl,HT.lexLt_cons,if_pos rfl,HT.lexLt_nil_nil] at z;exact absurd z (by decide)
def qjy (A:List Pt) (x:List Int):Prop:=∃ p∈A,∃ q∈A,p≠q/\x=nK (nO p q)
def qhQ (P:Program) (w:World) (K:W.Frag):SpD:=fun es U Q=>∃ A:List Pt,es=[.d (hpD A)]/\A.length<=44/\Bds A/\∀ ks:List (List Int),ks.Nodup->ks.length<=4000->(∀ x,x∈ks ↔ qjy A x)->Q (.x (qcs P w K ks)) U
theorem qkE {p q:Pt}(h:p≠q):nrm (p.2 - q.2) (q.1 - p.1)=nO p q:=by
 have:=qiy (qcf h);unfold nO;rw [<- this];congr 1 <;> omega
theorem qdv:FnScope ["_law_heap_here", "_law_found", "_law_one", "_law_other"] ["_law_heap_here"] (qx jt):=⟨rfl,rfl,rfl,by decide +kernel,rfl,by decide +kernel,by decide +kernel⟩
theorem qit {f:Addr}{fd:FuncData}(F:Fun K "_law_due_slopes" "_law_due_slopes" jt f fd) (T:Txt mg) (hX:NoX CX) (O_law_normal:Own P w K mg base CX 2 "_law_normal" ["_law_a", "_law_b"] (yp K qai)) (O_law_places:Own P w K mg base CX 1 "_law_places" ["_law_heap_here"] (yp K qfx)):FnOk P w K mg base CX 3 f fd ["_law_heap_here"] (yp K (qhQ P w K)):=by
 refine F.okD qdv (fun es U Q hq0=>by obtain ⟨A,e,_⟩:=hq0;subst e;rfl) (fun cdv A' outer s H E es U Q hr hq0=>?_);obtain ⟨A,e,hl,hA,k⟩:=hq0;subst e;have nd:=qdv.nd;refine ⟨_,(qz (yn (i:=1) nd rfl (by first | exact Or.inl rfl | exact Or.inr rfl) (qi5 (P:=P) (w:=w)))
   (qz (jB PassesOwn.never rfl (yW (qY O_law_places hX (hr.mono (by decide)) rfl (qd (dv 0) qm))) (qK (i:=2) nd rfl (by first | exact Or.inl rfl | exact Or.inr rfl)) (qL (jB PassesOwn.never rfl (yW (qY O_law_places hX (hr.mono (by decide)) rfl (qd (dv 0) qm))) (qK (i:=3) nd rfl (by first | exact Or.inl rfl | exact Or.inr rfl)) (qL (jX (yE (qk2 (yr (qR _ 64) hr.units)) (dv 2) (dv 3) (ym _)) (qL (qaJ qeS ((qi0 (P:=P) (w:=w) hr.u66) (dv 1) (qY O_law_normal hX (hr.mono (by decide)) rfl (qd (yC jC (Jz yx (dv 2) qF (fun _ _=>rfl)) (Jz yx (dv 3) qF (fun _ _=>rfl))) (qd (yC jC (Jz yx (dv 3) qF (fun _ _=>rfl)) (Jz yx (dv 2) qF (fun _ _=>rfl))) qm)))))) je)))))
   (qL (yT (dv 1))))),?_⟩
 refine fun d hd=>⟨A,rfl,by omega,fun hP=>⟨_,.d _,?_⟩⟩;have hmem:∀ z,z∈plc A ↔ z∈A:=hP.2.2;have bd:∀ z∈plc A,Bd B30 z:=fun z hz=>hA z ((hmem z).mp hz);have hlen:(plc A).length<=44:=qq (yg hP.1 fun q hq=>(hmem q).mp hq) hl;generalize eqs:plc A=qs at *;refine qiT (fun i ρ' U'=>∃ ks:List (List Int),U'=DM P w K d ks::U/\i<=qs.length/\ks.Nodup/\(∀ x∈ks,qjy A x)/\(∀ a b (ha:a<qs.length) (hb:b<qs.length),a<i->HT.lexLt (ptK qs[a]) (ptK qs[b])=true->nK (nO qs[a] qs[b])∈ks)/\ks.length<=i * 44/\∃ v2 v3,ρ'=[some (.d (hpD A)),some (.m d),v2,v3])
  ⟨[],rfl,qB _,List.nodup_nil,(fun _ h=>(nomatch h)),(fun a b _ _ h=>absurd h (by omega)),Nat.le_refl _,_,_,rfl⟩ (fun _ _ _ _=>.d _) ?_ ?_
 .rintro i x ρ' U' hx ⟨ks,rfl,hi0,h0,h1,h2,h3,v2,v3,rfl⟩;rw [List.getElem?_map] at hx;obtain ⟨p,hp,rfl⟩:=yk.mp hx;have hi:i<qs.length:=(qk.mp hp).1;have ep:qs[i]=p:=(qk.mp hp).2;refine ⟨A,rfl,by omega,fun _=>⟨_,.d _,?_⟩⟩;rw [eqs];refine qiT (fun j ρ' U'=>∃ ks:List (List Int),U'=DM P w K d ks::U/\j<=qs.length/\ks.Nodup/\(∀ x∈ks,qjy A x)/\(∀ a b (ha:a<qs.length) (hb:b<qs.length),(a<i\/(a=i/\b<j))->HT.lexLt (ptK qs[a]) (ptK qs[b])=true->nK (nO qs[a] qs[b])∈ks)/\ks.length<=i * 44+j/\∃ v3,ρ'=[some (.d (hpD A)),some (.m d),some (.d (ptD p)),v3])
   ⟨ks,rfl,qB _,h0,h1,(fun a b ha hb h=>h2 a b ha hb (by rcases h with h | ⟨_,h⟩ <;> omega)),by omega,_,rfl⟩ (fun _ _ _ _=>.d _) ?_ ?_
  .rintro j x ρ' U' hx ⟨ks,rfl,hj0,g0,g1,g2,g3,v3,rfl⟩;rw [List.getElem?_map] at hx;obtain ⟨q,hq,rfl⟩:=yk.mp hx;have hj:j<qs.length:=(qk.mp hq).1;have eq:qs[j]=q:=(qk.mp hq).2;have mp:p∈qs:=List.mem_of_getElem? hp;have mq:q∈qs:=List.mem_of_getElem? hq;have key:∀ ks':List (List Int),ks'.Nodup->(∀ x∈ks,x∈ks')->(∀ x∈ks',qjy A x)->(HT.lexLt (ptK p) (ptK q)=true->nK (nO p q)∈ks')->ks'.length<=ks.length+1 →
     Wks (fun ρ' U'=>∃ ks:List (List Int),U'=DM P w K d ks::U/\j+1<=qs.length/\ks.Nodup/\(∀ x∈ks,qjy A x)/\(∀ a b (ha:a<qs.length) (hb:b<qs.length),(a<i\/(a=i/\b<j+1))->HT.lexLt (ptK qs[a]) (ptK qs[b])=true->nK (nO qs[a] qs[b])∈ks)/\ks.length<=i * 44+(j+1)/\∃ v3,ρ'=[some (.d (hpD A)),some (.m d),some (.d (ptD p)),v3])
      [some (.d (hpD A)),some (.m d),some (.d (ptD p)),some (.d (ptD q))] (DM P w K d ks'::U):=fun ks' a1 a2 a3 a4 a5=>by
    refine Wks.of ⟨ks',rfl,hj,a1,a3,fun a b ha hb h hd=>?_,by omega,_,rfl⟩;by_cases hh:a=i/\b=j
    .obtain ⟨rfl,rfl⟩:=hh;rw [ep,eq] at hd ⊢;exact a4 hd
    .exact a2 _ (g2 a b ha hb (by rcases h with h | ⟨h,h'⟩ <;> omega) hd)
   refine ⟨ptK p,ptK q,rfl,rfl,Jx (fun c=>?_) (fun c=>?_)⟩
   .have c:HT.lexLt (ptK p) (ptK q)=true:=c;have hne:p≠q:=fun z=>by rw [z] at c;exact qiD q c
    have hd:=qcf hne;refine ⟨_,rfl,_,rfl,_,rfl,_,rfl,_,_,rfl,(by omega),qq (JT (bd p mp).2 (bd q mq).2) (by decide),qq (JT (bd q mq).1 (bd p mp).1) (by decide),?_⟩;rw [qkE hne];refine ⟨nK (nO p q),d,[],U,ks,rfl,rfl,rfl,(fun z=>nomatch z),rfl,by omega,?_⟩;refine key _ (qcG g0) (fun x hx=>ZI.mpr (.inl hx)) (fun x hx=>?_) (fun _=>ZI.mpr (.inr rfl)) (qf0 _ _);rcases ZI.mp hx with h | h
    .exact g1 x h
    .exact ⟨p,(hmem p).mp mp,q,(hmem q).mp mq,hne,h⟩
   .exact key ks g0 (fun x hx=>hx) g1 (fun z=>absurd z c) (by omega)
  .rintro ρ' U' ⟨ks,rfl,hj0,g0,g1,g2,g3,v3,rfl⟩;have hn:(qs.map ptD).length=qs.length:=List.length_map ..;refine Wks.of ⟨ks,rfl,hi,g0,g1,fun a b ha hb h=>g2 a b ha hb ?_,?_,_,_,rfl⟩
   .rw [hn];omega
   .rw [hn] at g3;omega
 .rintro ρ' U' ⟨ks,rfl,hi0,h0,h1,h2,h3,v2,v3,rfl⟩;have hql:(qs.map ptD).length=qs.length:=List.length_map ..;refine ⟨_,_,FzR.dct1,k ks h0 (by omega) fun x=>⟨h1 x,?_⟩⟩;rintro ⟨p,hp,q,hq,hne,rfl⟩;obtain ⟨a,ha,rfl⟩:=List.mem_iff_getElem.mp ((hmem p).mpr hp);obtain ⟨b,hb,rfl⟩:=List.mem_iff_getElem.mp ((hmem q).mpr hq);rcases qkI hne with c | c
  .exact h2 a b ha hb (by omega) c
  .have e:nO qs[a] qs[b]=nO qs[b] qs[a]:=(congrArg Prod.fst (qkD hne)).symm;rw [e];exact h2 b a hb ha (by omega) c
def qhR:SpD:=fun es U Q=>∃ (ps:List Pt) (n:Pt),es=[.d (hpD ps),.d (ptD n)]/\ps.length<64/\Bds ps/\Bd B40 n/\∀ (rs:List (List Pt)),Rk n (plc ps) rs->Q (.d (.list (rs.map hpD))) U
theorem qdw:FnScope ["_law_heap_here", "_law_normal_here", "_law_values", "_law_found", "_law_one"] ["_law_heap_here", "_law_normal_here"] (qx yR):=⟨rfl,rfl,rfl,by decide +kernel,rfl,by decide +kernel,by decide +kernel⟩
theorem qiu {f:Addr}{fd:FuncData}(F:Fun K "_law_due_rank" "_law_due_rank" yR f fd) (T:Txt mg) (hX:NoX CX) (O_law_places:Own P w K mg base CX 1 "_law_places" ["_law_heap_here"] (yp K qfx)):FnOk P w K mg base CX 2 f fd ["_law_heap_here", "_law_normal_here"] (yp K qhR):=by
 refine F.okD qdw (fun es U Q hq0=>by obtain ⟨ps,n,e,_⟩:=hq0;subst e;rfl) (fun cdv A outer s H E es U Q hr hq0=>?_);obtain ⟨ps,n,e,h64,hb,hn,k⟩:=hq0;subst e;have nd:=qdw.nd;refine ⟨_,(qz (yn (i:=2) nd rfl (by first | exact Or.inl rfl | exact Or.inr rfl) (qW (qgj (w:=w) rfl) (by rfl) T.sorted_ jF (qd (jM (qi1 (w:=w) rfl) (by rfl) T.set_ qe4 (qd (Zl (L:=["_law_x", "_law_y"]) (sc:=qx yR) (N:=["_law_heap_here", "_law_normal_here", "_law_values", "_law_found", "_law_one"]) rfl rfl rfl (by decide +kernel) (yW (dv 0)) (fun _ _ _ _ _=>(jD (n:=2) rfl (qM (qK (i:=5) (show List.Nodup (["_law_heap_here", "_law_normal_here", "_law_values", "_law_found", "_law_one", "_law_x", "_law_y"]:List Str) from by decide +kernel) rfl (by first | exact Or.inl rfl | exact Or.inr rfl)) (qM (qK (i:=6) (show List.Nodup (["_law_heap_here", "_law_normal_here", "_law_values", "_law_found", "_law_one", "_law_x", "_law_y"]:List Str) from by decide +kernel) rfl (by first | exact Or.inl rfl | exact Or.inr rfl)) y9)))) (fun _ _ _ _ _=>jZ) (fun _ _ _ _ _=>(yC yJ (yC yL (Jz yx (dv 1) qF (fun _ _=>rfl)) (dv 5)) (yC yL (Jz yx (dv 1) qF (fun _ _=>rfl)) (dv 6))))) qm)) qm)))
   (qz (yn (i:=3) nd rfl (by first | exact Or.inl rfl | exact Or.inr rfl) (JH qm))
   (qz (jB PassesOwn.never rfl (yW (dv 2)) (qK (i:=4) nd rfl (by first | exact Or.inl rfl | exact Or.inr rfl)) (qL (jY (Jn (dv 3) (qd (Zl (L:=["_law_x", "_law_y"]) (sc:=qx yR) (N:=["_law_heap_here", "_law_normal_here", "_law_values", "_law_found", "_law_one"]) rfl rfl rfl (by decide +kernel) (yW (qY O_law_places hX (hr.mono (by decide)) rfl (qd (dv 0) qm))) (fun _ _ _ _ _=>(jD (n:=2) rfl (qM (qK (i:=5) (show List.Nodup (["_law_heap_here", "_law_normal_here", "_law_values", "_law_found", "_law_one", "_law_x", "_law_y"]:List Str) from by decide +kernel) rfl (by first | exact Or.inl rfl | exact Or.inr rfl)) (qM (qK (i:=6) (show List.Nodup (["_law_heap_here", "_law_normal_here", "_law_values", "_law_found", "_law_one", "_law_x", "_law_y"]:List Str) from by decide +kernel) rfl (by first | exact Or.inl rfl | exact Or.inr rfl)) y9)))) (fun _ _ _ _ _=>(qeL (yE (Jd hr.units) (yC yJ (yC yL (Jz yx (dv 1) qF (fun _ _=>rfl)) (dv 5)) (yC yL (Jz yx (dv 1) qF (fun _ _=>rfl)) (dv 6))) (dv 4) (ym _)))) (fun _ _ _ _ _=>(jT (qd (dv 5) (qd (dv 6) qm))))) qm) (h:=ZB PySem.F.plainAttrs_list PySem.F.slot_list_append PySem.F.type_list_append jS (dv 3) (qd (Zl (L:=["_law_x", "_law_y"]) (sc:=qx yR) (N:=["_law_heap_here", "_law_normal_here", "_law_values", "_law_found", "_law_one"]) rfl rfl rfl (by decide +kernel) (yW (qY O_law_places hX (hr.mono (by decide)) rfl (qd (dv 0) qm))) (fun _ _ _ _ _=>(jD (n:=2) rfl (qM (qK (i:=5) (show List.Nodup (["_law_heap_here", "_law_normal_here", "_law_values", "_law_found", "_law_one", "_law_x", "_law_y"]:List Str) from by decide +kernel) rfl (by first | exact Or.inl rfl | exact Or.inr rfl)) (qM (qK (i:=6) (show List.Nodup (["_law_heap_here", "_law_normal_here", "_law_values", "_law_found", "_law_one", "_law_x", "_law_y"]:List Str) from by decide +kernel) rfl (by first | exact Or.inl rfl | exact Or.inr rfl)) y9)))) (fun _ _ _ _ _=>(qeL (yE (Jd hr.units) (yC yJ (yC yL (Jz yx (dv 1) qF (fun _ _=>rfl)) (dv 5)) (yC yL (Jz yx (dv 1) qF (fun _ _=>rfl)) (dv 6))) (dv 4) (ym _)))) (fun _ _ _ _ _=>(jT (qd (dv 5) (qd (dv 6) qm))))) qm))))))
   (qL (yT (dv 3)))))),?_⟩
 have m1:∀ q:Pt,Bd B30 q->qbH n.1 q.1:=fun q hq=>YV hn.1 (qq hq.1 (by decide));have m2:∀ q:Pt,Bd B30 q->qbH n.2 q.2:=fun q hq=>YV hn.2 (qq hq.2 (by decide));refine ⟨_,.d _,(show (ps.map ptD).length<=4000 by rw [List.length_map];omega),qlu (as:=ps) (h1:=fun q=>.int q.1) (h2:=fun q=>.int q.2) (fun q=>.int (vl n q)) (Src.l (.d _)) (fun q hq R h=>?_) ?_⟩
 .exact ⟨_,rfl,m1 q (hb q hq),_,rfl,m2 q (hb q hq),h⟩
 refine ⟨ps.map (vl n),by rw [List.map_map];exact .d _,by rw [List.length_map];omega,fun ks hk kn=>⟨ks,rfl,?_,fun ns hp hs=>?_⟩⟩
 .have:=yg kn fun q hq=>(hk q).mp hq;rw [List.length_map] at this;omega
 refine ⟨zl0,fun l hl=>⟨_,.d _,?_⟩⟩;have hks:∀ k,k∈ns ↔ ∃ q∈ps,vl n q=k:=fun k=>by rw [hp.mem_iff,hk k,ql]
 have hnl:ns.length<=ps.length:=by
  have:=yg (hp.nodup_iff.mpr kn) (kss:=ps.map (vl n)) fun q hq=>ql.mpr ((hks q).mp hq);rwa [List.length_map] at this
 refine qiT (fun i ρ' U'=>(0<i->Plc ps (plc ps))/\U'=(l,.lst (((ns.take i).map (JW n (plc ps))).map hpD))::U/\∃ v4,ρ'=[some (.d (hpD ps)),some (.d (ptD n)),some (.d (.list (ns.map .int))),some (.m l),v4])
  ⟨fun h=>absurd h (by omega),rfl,_,rfl⟩ (fun _ _ _ _=>.d _) ?_ ?_
 .rintro i x ρ' U' hx ⟨_,rfl,v4,rfl⟩;rw [List.getElem?_map] at hx;obtain ⟨v,hv,rfl⟩:=yk.mp hx;have hi:i<ns.length:=(qk.mp hv).1;refine ⟨⟨_,qe⟩,ps,rfl,h64,fun hP=>?_⟩;have bd:∀ z∈plc ps,Bd B30 z:=fun z hz=>hb z ((hP.2.2 z).mp hz);have hlen:(plc ps).length<=ps.length:=yg hP.1 fun q hq=>(hP.2.2 q).mp hq;refine ⟨_,.d _,(show ((plc ps).map ptD).length<=4000 by rw [List.length_map];omega),qhh (as:=plc ps) (h1:=fun q=>.int q.1) (h2:=fun q=>.int q.2) (fun q=>decide (vl n q=v)) ptD (Src.l (.d _)) (fun q hq R h=>?_) (fun q hq _ R h=>⟨zl2,h⟩) ?_⟩
  .exact ⟨_,rfl,m1 q (bd q hq),_,rfl,m2 q (bd q hq),h⟩
  refine ⟨[],U,_,rfl,?_,Wks.of ⟨fun _=>hP,?_,_,rfl⟩⟩
  .rw [List.length_map,List.length_map,ya];omega
  .rw [yw hv];simp only [List.map_append,List.map_cons,List.map_nil];rfl
 .rintro ρ' U' ⟨hP',rfl,v4,rfl⟩;have hn':(ns.map PyData.int).length=ns.length:=List.length_map ..;rw [hn',yo];refine ⟨_,_,FzR.list1,k _ ⟨ns,⟨hs,fun v=>?_⟩,rfl⟩⟩;rw [hks v];rw [hn'] at hP';by_cases c:0<ns.length
  .have hP:=hP' c;constructor
   .rintro ⟨q,h1,h2⟩;exact ⟨q,(hP.2.2 q).mpr h1,h2⟩
   .rintro ⟨q,h1,h2⟩;exact ⟨q,(hP.2.2 q).mp h1,h2⟩
  .have e0:ps=[]:=by
    cases ps with
    | nil=>rfl
    | cons a t=>exact absurd (List.length_pos_of_mem ((hks _).mpr ⟨a,qe,rfl⟩)) c
   subst e0;have hP:Plc [] (plc []):=(qdQ (ps:=[]) (qs:=[]) ⟨.nil,.nil,fun _=>Iff.rfl⟩).2;constructor
   .rintro ⟨q,h1,h2⟩;exact nomatch h1
   .rintro ⟨q,h1,h2⟩;exact nomatch (hP.2.2 q).mp h1
end
section
variable {P:Program}{w:World}{K:W.Frag}{mg:Str->Option Value}{base:Heap}{CX:CXT}
theorem qlo (ds:List PyData) (i:Nat) (h:i<=ds.length):Y0 ds none (some (i:Int))=ds.take i:=by
 unfold Y0 HT.sIx;simp only [List.drop_zero,Nat.sub_zero];congr 1;simp;rw [if_neg (by omega)];omega
theorem qje (ds:List PyData):Y0 ds none (some 1)=ds.take 1:=by
 cases ds with
 | nil=>rfl
 | cons a t=>exact qlo (a::t) 1 (by simp)
theorem qeU {Z:Type}(f:Z->PyData) (ls:List Z):Y0 (ls.map f) (some 1) none=ls.tail.map f:=by
 cases ls with
 | nil=>rfl
 | cons a t =>
  have:=qch ((a::t).map f) 1 (by simp);exact this
theorem qjf (ns:List Pt):Y0 (ns.map ptD) (some (-1)) none=(ns.getLast?.toList).map ptD:=by
 rcases List.eq_nil_or_concat ns with h | ⟨l,a,h⟩
 .subst h;rfl
 .subst h;have e:(l++[a]).map ptD=l.map ptD++[ptD a]:=by simp
  have g:(l++[a]).getLast?.toList=[a]:=by simp
  have hl:(l.map ptD++[ptD a]).length=(l.map ptD).length+1:=by simp
  have s1:HT.sIx ((l.map ptD).length+1) 0 (some (-1))=(l.map ptD).length:=by
   show (if (-1:Int)<0 then (-1+(((l.map ptD).length+1:Nat):Int)).toNat else min (-1:Int).toNat ((l.map ptD).length+1))=_;rw [if_pos (by decide)];omega
  rw [List.concat_eq_append,e,g];unfold Y0;rw [hl,s1,List.drop_left];show List.take ((l.map ptD).length+1 - (l.map ptD).length) [ptD a]=[ptD a];rw [Nat.add_sub_cancel_left];rfl
theorem qcc (ns:List Pt):PyData.eqv (.list ((ns.getLast?.toList).map ptD)) (.list [ptD (0,1)])=decide (ns.getLast?=some (0,1)):=by
 cases h:ns.getLast? with
 | none=>rfl
 | some p =>
  have e:=qha (p:=p) (q:=(0,1));simp only [Option.toList,List.map_cons,List.map_nil,PyData.eqv,PyData.eqvAll,Bool.and_true,Option.some.injEq];exact e
def NsB (ns:List Pt):Prop:=ns.length<=1000/\∀ n∈ns,IsN n/\Bd 2000000000000000000000000000000 n
theorem qhw {ns:List Pt}{i:Nat}(h1:i<ns.length) (h2:i<ns.tail.length):(ns.zip ns.tail)[i]?=some (ns[i],ns.tail[i]):=List.getElem?_zip_eq_some.mpr ⟨List.getElem?_eq_getElem h1,List.getElem?_eq_getElem h2⟩
def qhS:SpD:=fun es U Q=>∃ (t:Addr) (ns:List Pt),es=[.m t]/\(t,MO.lst (ns.map ptD))∈U/\NsB ns/\Q (.d (hpD (yK ns))) U
theorem qdy:FnScope ["_law_told", "_law_found", "_law_a", "_law_b", "_law_one", "_law_other"] ["_law_told"] (qx JO):=⟨rfl,rfl,rfl,by decide +kernel,rfl,by decide +kernel,by decide +kernel⟩
theorem qiw {f:Addr}{fd:FuncData}(F:Fun K "_law_amid" "_law_amid" JO f fd) (T:Txt mg) (hX:NoX CX) (O_law_normal:Own P w K mg base CX 2 "_law_normal" ["_law_a", "_law_b"] (yp K qai)):FnOk P w K mg base CX 3 f fd ["_law_told"] (yp K qhS):=by
 refine F.okD qdy (fun es U Q hq0=>by obtain ⟨t,ns,e,_⟩:=hq0;subst e;rfl) (fun cdv A outer s H E es U Q hr hq0=>?_);obtain ⟨t,ns,e,ht,⟨hl,hB⟩,k⟩:=hq0;subst e;have nd:=qdy.nd;refine ⟨_,(qz (yn (i:=1) nd rfl (by first | exact Or.inl rfl | exact Or.inr rfl) (JH qm))
   (qz (jB PassesOwn.never rfl (yW (Jh (dv 0) JX (jP qF))) (jD (n:=2) rfl (qM (qK (i:=2) nd rfl (by first | exact Or.inl rfl | exact Or.inr rfl)) (qM (qK (i:=3) nd rfl (by first | exact Or.inl rfl | exact Or.inr rfl)) y9))) (qL (jY (Jn (dv 1) (qd (qY O_law_normal hX (hr.mono (by decide)) rfl (qd (qW (Zj rfl) (by rfl) T.max_ YQ (qd qF (qd (dv 2) qm))) (qd (yC jC (dv 3) (yC yL qF (qW (Zj rfl) (by rfl) T.max_ YQ (qd qF (qd (dv 2) qm))))) qm))) qm) (h:=ZB PySem.F.plainAttrs_list PySem.F.slot_list_append PySem.F.type_list_append jS (dv 1) (qd (qY O_law_normal hX (hr.mono (by decide)) rfl (qd (qW (Zj rfl) (by rfl) T.max_ YQ (qd qF (qd (dv 2) qm))) (qd (yC jC (dv 3) (yC yL qF (qW (Zj rfl) (by rfl) T.max_ YQ (qd qF (qd (dv 2) qm))))) qm))) qm))))))
   (qz (jB PassesOwn.never rfl (qeK rfl T.zip_ (qd (dv 0) (qd (Jh (dv 0) (jP qF) JX) qm))) (jD (n:=2) rfl (qM (qK (i:=4) nd rfl (by first | exact Or.inl rfl | exact Or.inr rfl)) (qM (qK (i:=5) nd rfl (by first | exact Or.inl rfl | exact Or.inr rfl)) y9))) (qL (jY (Jn (dv 1) (qd (qY O_law_normal hX (hr.mono (by decide)) rfl (qd (yC yJ (Jz yx (dv 4) qF (fun _ _=>rfl)) (Jz yx (dv 5) qF (fun _ _=>rfl))) (qd (yC yJ (Jz yx (dv 4) qF (fun _ _=>rfl)) (Jz yx (dv 5) qF (fun _ _=>rfl))) qm))) qm) (h:=ZB PySem.F.plainAttrs_list PySem.F.slot_list_append PySem.F.type_list_append jS (dv 1) (qd (qY O_law_normal hX (hr.mono (by decide)) rfl (qd (yC yJ (Jz yx (dv 4) qF (fun _ _=>rfl)) (Jz yx (dv 5) qF (fun _ _=>rfl))) (qd (yC yJ (Jz yx (dv 4) qF (fun _ _=>rfl)) (Jz yx (dv 5) qF (fun _ _=>rfl))) qm))) qm))))))
   (qz (jX (yE (qaL hr.units) (Jh (dv 0) (jP (d_un qeI qF)) JX) (qaN (qd (jT (qd qF (qd qF qm))) qm)) (ym _)) (qL (jY (Jn (dv 1) (qd (jT (qd qF (qd qF qm))) qm) (h:=ZB PySem.F.plainAttrs_list PySem.F.slot_list_append PySem.F.type_list_append jS (dv 1) (qd (jT (qd qF (qd qF qm))) qm))))) je)
   (qL (yT (dv 1))))))),?_⟩
 have m1:∀ c,(t,MO.lst (ns.map ptD))∈c::U:=fun c=>qf _ ht;refine ⟨zl0,fun l hl'=>⟨_,.m (m1 _),?_⟩⟩;rw [qje];refine ⟨_,.d _,?_⟩;refine qiT (fun i ρ' U'=>U'=(l,.lst (((ns.take 1).take i).map (fun n=>ptD (qcU n))))::U/\∃ v2 v3 v4 v5,ρ'=[some (.m t),some (.m l),v2,v3,v4,v5])
  ⟨rfl,_,_,_,_,rfl⟩ (fun _ _ _ _=>.d _) ?_ ?_
 .rintro i x ρ' U' hx ⟨rfl,v2,v3,v4,v5,rfl⟩;rw [<- List.map_take,List.getElem?_map] at hx;obtain ⟨n,hn,rfl⟩:=yk.mp hx;have hn1:=hB n (List.mem_of_mem_take (List.mem_of_getElem? hn));refine ⟨rfl,⟨_,qe⟩,?_⟩;have hm:(mx1 n.1).natAbs<=2000000000000000000000000000000:=by
   have:=hn1.2.1;unfold mx1;split <;> omega
  have h2:n.2.natAbs<=2000000000000000000000000000000:=hn1.2.2;refine ⟨YV (by decide) (qq hm (by decide)),mx1 n.1,n.2 - 7 * mx1 n.1,rfl,.inl (by have:=ZZ (n:=n);omega),(by omega),(by omega),?_⟩;refine ⟨[],U,_,rfl,?_,Wks.of ⟨?_,_,_,_,_,rfl⟩⟩
  .rw [List.length_map,ya,ya];omega
  .rw [yw hn,List.map_append];rfl
 rintro ρ' U' ⟨rfl,v2,v3,v4,v5,rfl⟩;have e0:(ns.take 1).take (((ns.map ptD).take 1).length)=ns.take 1:=by rw [<- List.map_take,List.length_map,yo]
 rw [e0];have e0':(ns.take 1).map (fun n=>ptD (qcU n))=((ns.take 1).map qcU).map ptD:=by rw [List.map_map];rfl
 rw [e0'];refine ⟨_,.m (m1 _),?_⟩;rw [qeU];refine ⟨_,_,_,_,rfl,.m (m1 _),.d _,?_⟩;have ln:(ns.map ptD).length=ns.length:=List.length_map ..;have ln2:(ns.tail.map ptD).length=ns.length - 1:=by rw [List.length_map,List.length_tail]
 have hz:(ns.zip ns.tail).length=ns.length - 1:=by rw [List.length_zip,List.length_tail];omega
 refine ⟨fun i ρ' U'=>U'=(l,.lst (((ns.take 1).map qcU++((ns.zip ns.tail).take i).map qjm).map ptD))::U/\∃ v2 v3 v4 v5,ρ'=[some (.m t),some (.m l),v2,v3,v4,v5],⟨by simp,_,_,_,_,rfl⟩,?_,?_,?_⟩
 .rintro i ρ' U' _ ⟨rfl,_⟩;exact ⟨.m (m1 _),.d _⟩
 .rintro i ρ' U' hi ⟨rfl,v2,v3,v4,v5,rfl⟩;have hi:i<min (ns.map ptD).length (ns.tail.map ptD).length:=hi;have hi1:i<ns.length:=by omega
  have hi2:i<ns.tail.length:=by rw [List.length_tail];omega
  have eit:(qlF (.m t) (.d (.list (ns.tail.map ptD))) (ns.map ptD) (ns.tail.map ptD)).item i = .d (.tuple [ptD ns[i],ptD ns.tail[i]]):=by
   show En.d (.tuple [(ns.map ptD).getD i .none,(ns.tail.map ptD).getD i .none])=_;rw [List.getD_eq_getElem?_getD,List.getD_eq_getElem?_getD,List.getElem?_map,List.getElem?_map,List.getElem?_eq_getElem hi1,List.getElem?_eq_getElem hi2];rfl
  rw [eit];have b1:=hB ns[i] (qy hi1);have b2:=hB ns.tail[i] (List.mem_of_mem_tail (qy hi2));have hzg:=qhw hi1 hi2;generalize ns[i]=p at *;generalize ns.tail[i]=q at *;refine ⟨rfl,⟨_,qe⟩,_,rfl,_,rfl,_,rfl,_,rfl,p.1+q.1,p.2+q.2,rfl,(by have:=ZY b1.1 b2.1;omega),?_,?_,?_⟩
  .have h1:p.1.natAbs<=2000000000000000000000000000000:=b1.2.1;have h2:q.1.natAbs<=2000000000000000000000000000000:=b2.2.1;omega
  .have h1:p.2.natAbs<=2000000000000000000000000000000:=b1.2.2;have h2:q.2.natAbs<=2000000000000000000000000000000:=b2.2.2;omega
  refine ⟨[],U,_,rfl,?_,Wks.of ⟨?_,_,_,_,_,rfl⟩⟩
  .rw [List.length_map,List.length_append,List.length_map,List.length_map,ya,ya];omega
  .rw [yw hzg];simp only [List.map_append,List.map_cons,List.map_nil,List.append_assoc];rfl
 rintro ρ' U' ⟨rfl,v2,v3,v4,v5,rfl⟩;have e1:(ns.zip ns.tail).take (min (ns.map ptD).length (ns.tail.map ptD).length)=ns.zip ns.tail:=List.take_of_length_le (by omega);have e1:(ns.zip ns.tail).take (qlF (.m t) (.d (.list (ns.tail.map ptD))) (ns.map ptD) (ns.tail.map ptD)).n=ns.zip ns.tail:=e1;rw [e1];refine ⟨_,.m (m1 _),?_⟩;rw [qjf];have sh:SeqAt.shaped (.list ((ns.getLast?.toList).map ptD))=true:=by cases ns.getLast? <;> rfl
 refine ⟨zl2,zl1,_,_,.d _,.d _,sh,rfl,Jx (fun c=>?_) (fun c=>?_)⟩
 .have c:(!PyData.eqv (.list ((ns.getLast?.toList).map ptD)) (.list [ptD (0,1)]))=true:=c;rw [qcc] at c;have c:¬ ns.getLast?=some (0,1):=by simpa using c
  refine ⟨⟨_,qe⟩,zl2,[],U,_,rfl,?_,?_⟩
  .rw [List.length_map,List.length_append,List.length_map,List.length_map,ya];omega
  .refine ⟨_,_,FzR.list1,?_⟩;unfold hpD yK at k;rw [if_neg c] at k;simp only [List.map_append,List.map_cons,List.map_nil,List.append_assoc] at k ⊢;exact k
 .have c:¬ (!PyData.eqv (.list ((ns.getLast?.toList).map ptD)) (.list [ptD (0,1)]))=true:=c;rw [qcc] at c;have c:ns.getLast?=some (0,1):=by simpa using c
  refine ⟨_,_,FzR.list1,?_⟩;unfold hpD yK at k;rw [if_pos c,List.append_nil] at k;exact k
end
section
variable {P:Program}{w:World}{K:W.Frag}{mg:Str->Option Value}{base:Heap}{CX:CXT}
theorem Yo (r:List Pt):PyData.depth (hpD r)<=4/\PyData.canLay0 (hpD r)=true:=by
 have d2:PyData.depthAll (r.map ptD)<=3:=YL (n:=2) (fun p=>by unfold ptD;simp [PyData.depth,PyData.depthAll]) r;have h1:PyData.canLayAll0 (r.map ptD)=true:=Ya (fun p=>rfl) r;refine ⟨?_,?_⟩
 .unfold hpD;simp only [PyData.depth];omega
 .unfold hpD;simp only [PyData.canLay0,h1]
theorem yP (r:List Pt):SeqAt.shaped (hpD r)=true:=by
 unfold SeqAt.shaped;rw [Bool.and_eq_true];refine ⟨(Yo r).2,decide_eq_true ?_⟩;have:=(Yo r).1;omega
theorem jx (rs:List (List Pt)):SeqAt.shaped (.list (rs.map hpD))=true:=by
 have d2:PyData.depthAll (rs.map hpD)<=5:=YL (n:=4) (fun p=>(Yo p).1) rs;have h1:PyData.canLayAll0 (rs.map hpD)=true:=Ya (fun p=>(Yo p).2) rs;unfold SeqAt.shaped;rw [Bool.and_eq_true];refine ⟨by simp only [PyData.canLay0,h1],decide_eq_true ?_⟩;simp only [PyData.depth];omega
theorem neF {B:PyData}(h:SeqAt.shaped B=true):¬ (!PyData.eqv B B)=true:=fun z=>by rw [Jm h] at z;exact absurd z (by decide)
theorem qef (rs:List (List Pt)):PyData.list (qfY (jl rs)) = .list (rs.map hpD):=by unfold qfY jl;rw [List.map_map];rfl
theorem YO {as:List Addr}{rs:List (List PyData)}{U:Mu}{p:Addr}(hl:as.length=rs.length):Rws ((p,.refs as)::cells as rs++U) as rs :=
 YN hl fun c hc=>qf _ (qr _ hc)
theorem qgN {n:Pt}{qs:List Pt}{rs:List (List Pt)}(h:Rk n qs rs):rs.length<=qs.length:=by
 obtain ⟨ks,h,rfl⟩:=h;have:=yg (h.1.imp fun h z=>by omega:ks.Nodup) (kss:=qs.map (vl n)) fun k hk=>ql.mpr ((h.2 k).mp hk);rw [List.length_map] at this ⊢;exact this
theorem qbg {ps:List Pt}(hP:Plc ps (plc ps)):(plc ps).length<=ps.length:=yg hP.1 fun q hq=>(hP.2.2 q).mp hq
theorem qiQ {as:List Addr}{i:Nat}(h:i<as.length):as.getD i 0=as[i]:=by rw [List.getD_eq_getElem?_getD,List.getElem?_eq_getElem h];rfl
def sRR:SpD:=fun es U Q=>∃ (ps:List Pt) (n:Pt),es=[.d (hpD ps),.d (ptD n)]/\ps.length<64/\Bds ps/\Bd B40 n/\Q (.d (.bool true)) U
theorem qjN:FnScope ["_law_heap_here", "_law_normal_here", "_law_told", "_law_due", "_law_one"] ["_law_heap_here", "_law_normal_here"] (qx y7):=⟨rfl,rfl,rfl,by decide +kernel,rfl,by decide +kernel,by decide +kernel⟩
theorem ok_rr {f:Addr}{fd:FuncData}(F:Fun K "_law_rank_right" "_law_rank_right" y7 f fd) (T:Txt mg) (hX:NoX CX) (Orank:Own P w K mg base CX 2 "rank" ["heap", "normal"] (yp K Y7)) (O_law_due_rank:Own P w K mg base CX 2 "_law_due_rank" ["_law_heap_here", "_law_normal_here"] (yp K qhR)):FnOk P w K mg base CX 3 f fd ["_law_heap_here", "_law_normal_here"] (yp K sRR):=by
 refine F.okD qjN (fun es U Q hq0=>by obtain ⟨ps,n,e,_⟩:=hq0;subst e;rfl) (fun cdv A outer s H E es U Q hr hq0=>?_);obtain ⟨ps,n,e,h64,hb,hn,k⟩:=hq0;subst e;have nd:=qjN.nd;refine ⟨_,(qz (yn (i:=2) nd rfl (by first | exact Or.inl rfl | exact Or.inr rfl) (qY Orank hX (hr.mono (by decide)) rfl (qd (dv 0) (qd (dv 1) qm))))
   (qz (yn (i:=3) nd rfl (by first | exact Or.inl rfl | exact Or.inr rfl) (qY O_law_due_rank hX (hr.mono (by decide)) rfl (qd (dv 0) (qd (dv 1) qm))))
   (qz (qaI 4 "_hid4" (N':=["_law_heap_here", "_law_normal_here", "_law_told", "_law_due", "_hid4"]) rfl (jX (qgd (qaE (yE (qk1 hr.units) (dv 2) (dv 3) (ym _)) (qaE (Zi (Zh (qW qeP (by rfl) T.isinstance_ j4 (qd (dv 2) (qd (d_ty rfl T.list_ Yb) qm))))) (Zg (Zi (Zh (qW (qk9 rfl) (by rfl) T.all_ qlx (qd (Zl (L:=["_law_one"]) (sc:=qx y7) (N:=["_law_heap_here", "_law_normal_here", "_law_told", "_law_due", "_hid4"]) rfl rfl rfl (by decide +kernel) (qby (dv 2)) (fun _ _ _ _ _=>(qK (i:=5) (show List.Nodup (["_law_heap_here", "_law_normal_here", "_law_told", "_law_due", "_hid4", "_law_one"]:List Str) from by decide +kernel) rfl (by first | exact Or.inl rfl | exact Or.inr rfl))) (fun _ _ _ _ _=>jZ) (fun _ _ _ _ _=>(qW qeP (by rfl) T.isinstance_ j4 (qd (dv 5) (qd (d_ty rfl T.list_ Yb) qm))))) qm)))))))) (qL (yT qeS)) je))
   (qz (jB PassesOwn.never rfl (qby (dv 2)) (qK (i:=4) nd rfl (by first | exact Or.inl rfl | exact Or.inr rfl)) (qL (jY (qeR (dv 4) (h:=qgU PySem.F.plainAttrs_list PySem.F.slot_list_clear PySem.F.type_list_clear qb4 (dv 4))))))
   (qL (yT (qbz (Jd hr.units) (qY (Orank.imp fun _ _ _ _ h=>JB h) hX (hr.mono (by decide)) rfl (qd (dv 0) (qd (dv 1) qm))) (dv 3) (ym _)))))))),?_⟩
 refine ⟨ps,n,rfl,h64,hb,hn,fun rs as p hP hR hl ha hp=>⟨ps,n,rfl,h64,hb,hn,fun rs2 hR2=>?_⟩⟩;obtain rfl:=Zv hR hR2;have hl':as.length=(jl rs).length:=by unfold jl;rw [List.length_map];exact hl
 have hrw:∀ U:Mu,DatN ((p,.refs as)::cells as (jl rs)++U) (.m p) (.list (rs.map hpD)):=fun U=>by
  rw [<- qef];exact .r qe (YO hl')
 have hRl:rs.length<64:=yr (qgN hR) (yr (qbg hP) h64);dsimp only [List.set_cons_zero,List.set_cons_succ];refine ⟨_,_,hrw U,.d (.d _),jx _,jx _,Jx (fun z=>absurd z (neF (jx _))) (fun _=>?_)⟩;refine ⟨p,_,rfl,hrw U,Z3 ?_⟩;refine ⟨p,as,rfl,qe,(show as.length<=4000 by omega),fun i ys ρ' U'=>U'=(p,.refs as)::cells as (jl rs)++U/\ys=List.replicate i (.bool true)/\∃ v5,ρ'=[some (.d (hpD ps)),some (.d (ptD n)),some (.m p),some (.d (.list (rs.map hpD))),none,v5],⟨rfl,rfl,_,rfl⟩,?_,?_,?_⟩
 .rintro i ys ρ' U' _ ⟨rfl,_⟩;exact qe
 .rintro i ys ρ' U' hi ⟨rfl,rfl,v5,rfl⟩;have hi:i<as.length:=hi;have h1:(jl rs)[i]?=some (jl rs)[i]:=List.getElem?_eq_getElem (by omega);obtain ⟨c1,c2,ec,_⟩:=qaT (List.getElem?_eq_getElem hi) h1;have mem:(as[i],MO.lst (jl rs)[i])∈(p,MO.refs as)::cells as (jl rs)++U:=by rw [ec];simp
  show y4 5 (.m (as.getD i 0)) _ _ _;rw [qiQ hi];refine ⟨as[i],_,rfl,.d (.m mem),_,rfl,rfl,?_,_,rfl⟩;rw [List.replicate_succ']
 .rintro ys ρ' U' ⟨rfl,rfl,v5,rfl⟩;refine ⟨List.replicate as.length true,by rw [List.map_replicate];exact .d _,Jx (fun z=>?_) (fun _=>?_)⟩
  .have z:(!(List.replicate as.length true).all id)=true:=z;have e:(List.replicate as.length true).all id=true:=by simp
   rw [e] at z;exact absurd z (by decide)
  refine ⟨p,as,rfl,qe,?_⟩;refine qkS (fun i ρ' U'=>∃ X:List (List PyData),X.length=as.length/\U'=(p,.refs as)::cells as X++U/\∃ v4,ρ'=[some (.d (hpD ps)),some (.d (ptD n)),some (.m p),some (.d (.list (rs.map hpD))),v4])
   ⟨_,hl'.symm,rfl,_,rfl⟩ (fun i ρ' U' ⟨X,_,e,_⟩=>by rw [e];exact qe) ?_ ?_
  .rintro i a ρ' U' hi ⟨X,hX',rfl,v4,rfl⟩;have hi':=(qk.mp hi).1;have h1:X[i]?=some X[i]:=List.getElem?_eq_getElem (by omega);obtain ⟨c1,c2,ec,es⟩:=qaT hi h1;refine ⟨a,(p,.refs as)::c1,c2++U,X[i],rfl,by rw [ec];simp,Wks.of ⟨X.set i [],by rw [List.length_set];exact hX',?_,_,rfl⟩⟩;rw [es];simp
  .rintro ρ' U' ⟨X,hX',rfl,v4,rfl⟩;refine ⟨ps,n,rfl,h64,hb,hn,fun rs3 _ hR3=>?_⟩;obtain rfl:=Zv hR hR3;refine ⟨_,_,.d _,.d _,jx _,jx _,U,_,FzR.sub ((List.sublist_append_right _ _).cons _),?_⟩;have e:PyData.eqv (.list (rs.map hpD)) (.list (rs.map hpD))=true:=Jm (jx rs);show Q (.d (.bool (PyData.eqv (.list (rs.map hpD)) (.list (rs.map hpD))))) U;rw [e];exact k
def qhP:SpD:=fun es U Q=>∃ (p:Addr) (as:List Addr) (rs:List (List Pt)),es=[.m p]/\(p,MO.refs as)∈U/\Rws U as (jl rs)/\rs.flatten.length<=4000/\Q (.d (hpD rs.flatten)) U
theorem qdD {U:Mu}:∀ {as:List Addr}{rs:List (List PyData)},Rws U as rs->∀ {i:Nat}{a:Addr},as[i]?=some a->∃ r,rs[i]?=some r/\(a,MO.lst r)∈U
 | _,_,.nil,_,_,h=>by simp at h
 | _,_,.cons h t,0,a,e=>⟨_,rfl,by have:_=a:=Option.some.inj e;rw [<- this];exact h⟩
 | _,_,.cons h t,i+1,a,e=>by
  obtain ⟨r,h1,h2⟩:=qdD t (i:=i) (a:=a) (by simpa using e);exact ⟨r,by simpa using h1,h2⟩
theorem qdC {U:Mu}:∀ {as:List Addr}{rs:List (List PyData)},Rws U as rs->as.length=rs.length
 | _,_,.nil=>rfl
 | _,_,.cons _ t=>by rw [List.length_cons,List.length_cons,qdC t]
theorem qaA (rs:List (List Pt)) (i:Nat):((rs.take i).flatten).length<=rs.flatten.length:=by
 have:rs.flatten=(rs.take i).flatten++(rs.drop i).flatten:=by rw [<- List.flatten_append,List.take_append_drop]
 rw [this,List.length_append];omega
theorem qdu:FnScope ["_law_rows", "_law_found", "_law_row"] ["_law_rows"] (qx JM):=⟨rfl,rfl,rfl,by decide +kernel,rfl,by decide +kernel,by decide +kernel⟩
theorem qis {f:Addr}{fd:FuncData}(F:Fun K "_law_flat" "_law_flat" JM f fd) (T:Txt mg):FnOk P w K mg base CX 1 f fd ["_law_rows"] (yp K qhP):=by
 refine F.okD qdu (fun es U Q hq0=>by obtain ⟨p,as,rs,e,_⟩:=hq0;subst e;rfl) (fun cdv A outer s H E es U Q hr hq0=>?_);obtain ⟨p,as,rs,e,hp,hw,hl,k⟩:=hq0;subst e;have nd:=qdu.nd;refine ⟨_,(qz (yn (i:=1) nd rfl (by first | exact Or.inl rfl | exact Or.inr rfl) (JH qm))
   (qz (jB PassesOwn.never rfl (qby (dv 0)) (qK (i:=2) nd rfl (by first | exact Or.inl rfl | exact Or.inr rfl)) (qL (jY (qgn (dv 1) (qd (dv 2) qm) (h:=ZB PySem.F.plainAttrs_list PySem.F.slot_list_extend PySem.F.type_list_extend qea (dv 1) (qd (dv 2) qm))))))
   (qL (yT (dv 1))))),?_⟩
 refine ⟨zl0,fun l hl'=>⟨p,as,rfl,qf _ hp,?_⟩⟩;refine qkS (fun i ρ' U'=>U'=(l,.lst (((rs.take i).flatten).map ptD))::U/\∃ v2,ρ'=[some (.m p),some (.m l),v2])
  ⟨rfl,_,rfl⟩ (fun i ρ' U' ⟨e,_⟩=>by rw [e];exact qf _ hp) ?_ ?_
 .rintro i a ρ' U' hi ⟨rfl,v2,rfl⟩;obtain ⟨r0,g1,h2⟩:=qdD hw hi;unfold jl at g1;rw [List.getElem?_map] at g1;obtain ⟨r,h1,rfl⟩:=yk.mp g1;have et:=yw h1;have hz:=qaA rs (i+1);rw [et,List.flatten_append,List.length_append] at hz;have hz:(rs.take i).flatten.length+r.length<=rs.flatten.length:=by simpa using hz
  refine ⟨l,_,rfl,qe,a,_,r.map ptD,[],U,rfl,rfl,qf _ h2,by rw [List.length_map,List.length_map];omega,Wks.of ⟨?_,_,rfl⟩⟩;rw [et,List.flatten_append,List.map_append];simp
 .rintro ρ' U' ⟨rfl,v2,rfl⟩;have e:rs.take as.length=rs:=List.take_of_length_le (by rw [qdC hw];unfold jl;rw [List.length_map];omega);rw [e];exact ⟨_,_,FzR.list1,k⟩
end
section
variable {P:Program}{w:World}{K:W.Frag}{mg:Str->Option Value}{base:Heap}{CX:CXT}
theorem qhH {h r:List Pt}{ks:List (List Int)}(hp:ks.Perm (h.map ptK)) (hs:Srt ks) (hr:h.Perm r) (hr2:Srt (r.map ptK)):ks.map jQ=r.map ptD:=by
 have e:ks=r.map ptK:=by
  unfold Srt at hs hr2;exact List.Perm.eq_of_pairwise (fun a b _ _ k1 k2=>List.le_antisymm k1 k2) hs hr2 (hp.trans (hr.map _))
 rw [e,<- JQ]
theorem qeV (one:List Pt) (m l:Nat) (h:m+l<=one.length):Y0 (one.map ptD) (some (m:Int)) (some ((m:Int)+(l:Int)))=((one.drop m).take l).map ptD:=by
 have s1:HT.sIx (one.map ptD).length 0 (some (m:Int))=m:=by rw [HT.sIx_nat,List.length_map];omega
 have s2:HT.sIx (one.map ptD).length (one.map ptD).length (some ((m:Int)+(l:Int)))=m+l:=by rw [<- Int.natCast_add,HT.sIx_nat,List.length_map];omega
 unfold Y0;rw [s1,s2,Nat.add_sub_cancel_left,List.map_take,List.map_drop]
def sTR:SpD:=fun es U Q=>∃ (ps:List Pt) (a s b:Pt),es=[.d (hpD ps),.d (ptD a),.d (ptD s),.d (ptD b)]/\ps.length<64/\Bds ps/\Bd B40 a/\Bd B40 s/\Bd B40 b/\(Plc ps (plc ps)->TurnAt a s b (plc ps)/\Sep a (plc ps)/\Sep b (plc ps))/\Q (.d (.bool true)) U
theorem qjM:FnScope ["_law_heap_here", "_law_ahead", "_law_slope", "_law_behind", "_law_one", "_law_other", "_law_many", "_law_at", "_law_row", "_law_here", "_law_there"] ["_law_heap_here", "_law_ahead", "_law_slope", "_law_behind"] (qx jk):=⟨rfl,rfl,rfl,by decide +kernel,rfl,by decide +kernel,by decide +kernel⟩
theorem ok_tr {f:Addr}{fd:FuncData}(F:Fun K "_law_turns_right" "_law_turns_right" jk f fd) (T:Txt mg) (hX:NoX CX) (O_law_flat:Own P w K mg base CX 1 "_law_flat" ["_law_rows"] (yp K qhP)) (Orank:Own P w K mg base CX 2 "rank" ["heap", "normal"] (yp K Y7)) (O_law_places:Own P w K mg base CX 1 "_law_places" ["_law_heap_here"] (yp K qfx)):FnOk P w K mg base CX 3 f fd ["_law_heap_here", "_law_ahead", "_law_slope", "_law_behind"] (yp K sTR):=by
 refine F.okD qjM (fun es U Q hq0=>by obtain ⟨ps,a,s,b,e,_⟩:=hq0;subst e;rfl) (fun cdv A outer s0 H E es U Q hr hq0=>?_);obtain ⟨ps,a,sl,b,e,h64,hb,ha,hs,hb',hT,k⟩:=hq0;subst e;have nd:=qjM.nd;refine ⟨_,(qz (qaH (i:=4) (j:=5) rfl nd rfl rfl (by decide) rfl rfl (qd (qY O_law_flat hX (hr.mono (by decide)) rfl (qd (qY Orank hX (hr.mono (by decide)) rfl (qd (dv 0) (qd (dv 1) qm))) qm)) (qd (qY O_law_flat hX (hr.mono (by decide)) rfl (qd (qY Orank hX (hr.mono (by decide)) rfl (qd (dv 0) (qd (dv 3) qm))) qm)) qm)) rfl)
   (qz (yn (i:=6) nd rfl (by first | exact Or.inl rfl | exact Or.inr rfl) (qW Jg (by rfl) T.len_ Jk (qd (qY O_law_places hX (hr.mono (by decide)) rfl (qd (dv 0) qm)) qm)))
   (qz (jX (qgd (qaE (yE (qaL hr.units) (qW Jg (by rfl) T.len_ Jk (qd (dv 4) qm)) (dv 6) (ym _)) (qaE (yE (qaL hr.units) (qW Jg (by rfl) T.len_ Jk (qd (qY (Orank.imp fun _ _ _ _ h=>JB h) hX (hr.mono (by decide)) rfl (qd (dv 0) (qd (dv 1) qm))) qm)) (dv 6) (ym _)) (Zg (yE (qaL hr.units) (qW Jg (by rfl) T.len_ Jk (qd (qY (Orank.imp fun _ _ _ _ h=>JB h) hX (hr.mono (by decide)) rfl (qd (dv 0) (qd (dv 3) qm))) qm)) (dv 6) (ym _)))))) (qL (yT qeS)) je)
   (qz (yn (i:=7) nd rfl (by first | exact Or.inl rfl | exact Or.inr rfl) qF)
   (qz (jB PassesOwn.never rfl (yW (qY (Orank.imp fun _ _ _ _ h=>JB h) hX (hr.mono (by decide)) rfl (qd (dv 0) (qd (dv 2) qm)))) (qK (i:=8) nd rfl (by first | exact Or.inl rfl | exact Or.inr rfl)) (qz (qaH (i:=9) (j:=10) rfl nd rfl rfl (by decide) rfl rfl (qd (Jh (dv 4) (jP (dv 7)) (jP (yC yJ (dv 7) (qW Jg (by rfl) T.len_ Jk (qd (dv 8) qm))))) (qd (Jh (dv 5) (jP (dv 7)) (jP (yC yJ (dv 7) (qW Jg (by rfl) T.len_ Jk (qd (dv 8) qm))))) qm)) rfl)
   (qz (jX (qgd (qaE (yE (qaL hr.units) (qW qgi (by rfl) T.sorted_ jF (qd (dv 9) qm)) (dv 8) (ym _)) (Zg (yE (qaL hr.units) (d_rev (dv 9)) (dv 10) (ym _))))) (qL (yT qeS)) je)
   (qL (yn (i:=7) nd rfl (by first | exact Or.inl rfl | exact Or.inr rfl) (yC yJ (dv 7) (qW Jg (by rfl) T.len_ Jk (qd (dv 8) qm))))))))
   (qL (yT (qbz (Jd hr.units) (dv 7) (qW Jg (by rfl) T.len_ Jk (qd (dv 4) qm)) (ym _))))))))),?_⟩
 refine ⟨ps,a,rfl,h64,hb,ha,fun rs as p hP hR hl hfa hfp=>?_⟩;obtain ⟨T1,S1,S2⟩:=hT hP;have hlen:=qbg hP;have L1:=(JP hR).length_eq;have hl':as.length=(jl rs).length:=by unfold jl;rw [List.length_map];exact hl
 refine ⟨p,as,rs,rfl,qe,YO hl',by omega,?_⟩;refine ⟨ps,b,rfl,h64,hb,hb',fun rs2 as2 p2 _ hR2 hl2 hfa2 hfp2=>?_⟩;have L2':=(JP hR2).length_eq;have hl2':as2.length=(jl rs2).length:=by unfold jl;rw [List.length_map];exact hl2
 refine ⟨p2,as2,rs2,rfl,qe,YO hl2',by omega,?_⟩;obtain ⟨c1,o1⟩:=qgM hR hP.1 S1;obtain ⟨c2,o2⟩:=qgM hR2 hP.1 S2;have fz:FzR ((p2,.refs as2)::cells as2 (jl rs2)++((p,.refs as)::cells as (jl rs)++U)) (.d (.bool true)) U (.d (.bool true)):=FzR.sub (((((List.sublist_append_right _ _).cons _)).trans (List.sublist_append_right _ _)).cons _);generalize (p2,MO.refs as2)::cells as2 (jl rs2)++((p,.refs as)::cells as (jl rs)++U)=U2 at *;refine ⟨ps,rfl,h64,fun _=>⟨_,.l (.d _),?_⟩⟩;dsimp only [List.set_cons_zero,List.set_cons_succ];have no:∀ {x y:Nat},x=y->∀ {G:Prop},(!decide ((x:Int)=(y:Int)))=true->G:=fun e G z=>by
  rw [decide_eq_true (by omega)] at z;exact absurd z (by decide)
 have hpl:∀ l:List Pt,(l.map ptD).length=l.length:=fun l=>List.length_map ..;have hpr:∀ l:List (List Pt),(l.map hpD).length=l.length:=fun l=>List.length_map ..;refine ⟨_,.l (.d _),Jx (fun z=>no (by rw [hpl,hpl];omega) z) (fun _=>?_)⟩;refine ⟨ps,a,rfl,h64,hb,ha,fun rs3 _ hR3=>?_⟩;obtain rfl:=Zv hR hR3;refine ⟨_,.l (.d _),Jx (fun z=>no (by rw [hpl,hpr];omega) z) (fun _=>?_)⟩;refine ⟨ps,b,rfl,h64,hb,hb',fun rs3 _ hR3=>?_⟩;obtain rfl:=Zv hR2 hR3;refine ⟨_,.l (.d _),Jx (fun z=>no (by rw [hpl,hpr];omega) z) (fun _=>?_)⟩;refine ⟨ps,sl,rfl,h64,hb,hs,fun rows _ hS=>⟨_,.d _,?_⟩⟩;obtain ⟨u1,u2,u3⟩:=qdF hS;have pS:=JP hS;have q1:rs.flatten.Perm rows.flatten:=(JP hR).trans pS.symm;have q2:rs2.flatten.Perm rows.flatten:=(JP hR2).trans pS.symm;have tn:=qc7 T1 (rows:=rows) u1 u2 o1 o2 q1 q2;have L3:=pS.length_eq;have srP:∀ r∈rows,Srt (r.map ptK):=fun r hr=>List.Pairwise.sublist ((u3 r hr).map _) hP.2.1;refine qiT (fun i ρ' U'=>U'=U2/\∃ v8 v9 v10,ρ'=[some (.d (hpD ps)),some (.d (ptD a)),some (.d (ptD sl)),some (.d (ptD b)),some (.d (hpD rs.flatten)),some (.d (hpD rs2.flatten)),some (.d (.int (((plc ps).map ptD).length:Nat))),some (.d (.int (((rows.take i).flatten.length:Nat):Int))),v8,v9,v10])
  ⟨rfl,_,_,_,rfl⟩ (fun _ _ _ _=>.d _) ?_ ?_
 .rintro i x ρ' U' hx ⟨rfl,v8,v9,v10,rfl⟩;rw [List.getElem?_map] at hx;obtain ⟨r,hr',rfl⟩:=yk.mp hx;obtain ⟨t1,t2⟩:=tn i r hr';have et:=yw hr';have hz:=qaA rows (i+1);rw [et,List.flatten_append,List.length_append] at hz;have hz:(rows.take i).flatten.length+r.length<=rows.flatten.length:=by simpa using hz
  have mr:=List.mem_of_getElem? hr';have cu1:=qeV rs.flatten (rows.take i).flatten.length r.length (by omega);have cu2:=qeV rs2.flatten (rows.take i).flatten.length r.length (by omega);rw [<- hpl r] at cu1 cu2;refine ⟨_,.l (.d _),_,.d _,_,.l (.d _),_,.d _,?_⟩;rw [cu1,cu2,hpl r];generalize (rs.flatten.drop (rows.take i).flatten.length).take r.length=here at *;generalize (rs2.flatten.drop (rows.take i).flatten.length).take r.length=there at *;subst t2;have hhl:here.length<64:=by have:=t1.length_eq;omega
  dsimp only [List.set_cons_zero,List.set_cons_succ];refine ⟨here.map ptK,by rw [<- JQ];exact .d _,qbW _,by rw [List.length_map];omega,fun ks kp ksr=>?_⟩;rw [qhH kp ksr t1 (srP r mr)];refine ⟨_,_,.d _,.d _,yP r,yP r,Jx (fun z=>absurd z (neF (yP r))) (fun _=>?_)⟩;refine ⟨_,.d _,_,_,.d _,.d _,?_,yP _,Jx (fun z=>?_) (fun _=>?_)⟩
  .rw [<- List.map_reverse];exact yP _
  .have z:(!PyData.eqv (.list (here.map ptD).reverse) (hpD here.reverse))=true:=z;rw [<- List.map_reverse] at z;exact absurd z (neF (yP _))
  .refine ⟨_,.l (.d _),Wks.of ⟨rfl,some (.d (hpD r)),some (.d (hpD here)),some (.d (hpD here.reverse)),?_⟩⟩;rw [et,List.flatten_append,List.length_append];have e1:(((rows.take i).flatten.length+[r].flatten.length:Nat):Int)=(((rows.take i).flatten.length:Nat):Int)+(((r.map ptD).length:Nat):Int):=by rw [hpl];simp
   rw [e1];rfl
 .rintro ρ' U' ⟨rfl,v8,v9,v10,rfl⟩;have e:rows.take (rows.map hpD).length=rows:=by rw [List.length_map,yo]
  rw [e];refine ⟨_,.l (.d _),U,.d (.bool true),?_,k⟩;have ee:decide (((rows.flatten.length:Nat):Int)=(((rs.flatten.map ptD).length:Nat):Int))=true:=decide_eq_true (by rw [hpl];omega);show FzR U' (.d (.bool (decide (((rows.flatten.length:Nat):Int)=(((rs.flatten.map ptD).length:Nat):Int))))) U _;rw [ee];exact fz
end
section
variable {P:Program}{w:World}{K:W.Frag}{mg:Str->Option Value}{base:Heap}{CX:CXT}
def qbN (K:W.Frag) (tb:Addr):Sp:=fun vs H Q _=>∃ (a:Addr) (ns:List Int),vs=[.ref a]/\SqL K H a (ns.map V.int)/\H tb=some (.tbl #[])/\ns.length<=63/\∀ H',Q (.bl true) H'
def qjR (tb:Addr):SpD:=fun es U Q=>∃ ns:List Int,es=[.d (.list (ns.map .int))]/\ns.length<=63/\U=[TB tb]/\∀ U',Q (.d (.bool true)) U'
theorem qiF {tb:Addr}{vs:List V}{H:Hp}{Q:VK}{E:XK}(h:qbN K tb vs H Q E):yp K (qjR tb) vs H Q E:=by
 obtain ⟨a,ns,rfl,hS,ht,hl,q⟩:=h;have nt:∀ o,H a=some o->(∀ ps,o≠.tbl ps)->a∉[TB tb].map Prod.fst:=fun o e hu z=>by
  have z:a=tb:=by simpa using z
  rw [z,ht] at e;cases e
  exact hu _ rfl
 refine ⟨[TB tb],[.d (.list (ns.map .int))],fun e _=>e = .d (.bool true),⟨by simp,fun b o hb=>?_⟩,.cons ?_ .nil,⟨ns,rfl,hl,rfl,fun _=>rfl⟩,?_⟩
 .cases qA.mp hb
  exact ⟨_,ht,#[],rfl,.inl rfl⟩
 .refine .lst ?_ (IsAll.ints ns);rcases hS with (e | ⟨o,e⟩) | e
  .exact .inl (.inl (by rw [qX (nt _ e fun _ z=>by cases z)];exact e))
  .exact .inl (.inr ⟨o,by rw [qX (nt _ e fun _ z=>by cases z)];exact e⟩)
  .exact .inr e
 .rintro e U' v H' rfl _ _ i;cases i
  exact q H'
theorem qcz {ms ns:List (List Int)}(h:ms.length=ns.length) (h2:∀ x∈ms,x∈ns):Zu ms ns=true:=by
 unfold Zu;rw [Bool.and_eq_true];exact ⟨by simp [h],List.all_eq_true.mpr fun x hx=>decide_eq_true (h2 x hx)⟩
theorem Yu {A ns:List Pt}(h:qfj A ns) (n:Pt):n∈ns ↔ ∃ p∈A,∃ q∈A,p≠q/\n=nO p q:=by
 rw [h.2 n];constructor
 .rintro ⟨l,hl,rfl⟩;obtain ⟨p,hp,q,hq,hne,rfl⟩:=ZK hl;exact ⟨p,hp,q,hq,hne,rfl⟩
 .rintro ⟨p,hp,q,hq,hne,rfl⟩;exact ⟨_,qb7 hp hq hne,rfl⟩
theorem qbO {A ns:List Pt}(h:qfj A ns):ns.Nodup:=h.1.imp fun h z=>by rw [z,jU] at h;omega
theorem qfs {A ns ms:List Pt}(h:qfj A ns) (h':qfj A ms):ns=ms:=by
 refine List.Perm.eq_of_pairwise (fun a b _ _ h1 h2=>?_) h.1 h'.1 ((List.perm_ext_iff_of_nodup (qbO h) (qbO h')).mpr fun n=>(h.2 n).trans (h'.2 n).symm);have h1:0<crs a b:=h1;have h2:0<crs b a:=h2;rw [j0] at h2;omega
theorem slo_B {A ns:List Pt}(hA:Bds A) (h:qfj A ns) (hl:ns.length<=1000):NsB ns:=⟨hl,fun n hn=>by
 obtain ⟨p,hp,q,hq,hne,rfl⟩:=(Yu h n).mp hn;exact ⟨qas hne,qgZ (hA p hp) (hA q hq) hne⟩⟩
theorem qbb {A ns:List Pt}(h:qfj A ns) (hP:Plc A (plc A)):Slo (plc A) ns:=⟨h.1,fun p hp q hq hne=>by
 refine ⟨nO p q,(Yu h _).mpr ⟨p,(hP.2.2 p).mp hp,q,(hP.2.2 q).mp hq,hne,rfl⟩,fun z=>?_,?_⟩
 .have:=qas hne;rw [z] at this;have:=this.2;omega
 .rw [qeW,qfX hne];omega⟩
theorem qbE {ns:List Pt}(h:NsB ns):∀ a∈yK ns,Bd B40 a:=fun a ha=>by
 unfold yK at ha;rcases List.mem_append.mp ha with ha | ha
 .obtain ⟨n,hn,rfl⟩:=ql.mp ha;have b:=h.2 n (List.mem_of_mem_take hn);have h1:n.1.natAbs<=2000000000000000000000000000000:=b.2.1;have h2:n.2.natAbs<=2000000000000000000000000000000:=b.2.2;have hm:(mx1 n.1).natAbs<=2000000000000000000000000000000:=by unfold mx1;split <;> omega
  have:=ZZ (n:=n);exact qao (.inl (by omega)) (show (mx1 n.1).natAbs<=10000000000000000000000000000000000000000 by omega) (show (n.2 - 7 * mx1 n.1).natAbs<=10000000000000000000000000000000000000000 by omega)
 .rcases List.mem_append.mp ha with ha | ha
  .obtain ⟨⟨p,q⟩,hn,rfl⟩:=ql.mp ha;obtain ⟨m1,m2⟩:=List.of_mem_zip hn;have b1:=h.2 p m1;have b2:=h.2 q (List.mem_of_mem_tail m2);have h1:p.1.natAbs<=2000000000000000000000000000000:=b1.2.1;have h2:p.2.natAbs<=2000000000000000000000000000000:=b1.2.2;have h3:q.1.natAbs<=2000000000000000000000000000000:=b2.2.1;have h4:q.2.natAbs<=2000000000000000000000000000000:=b2.2.2;exact qao (show p.1+q.1≠0\/p.2+q.2≠0 from by have:=ZY b1.1 b2.1;omega) (show (p.1+q.1).natAbs<=10000000000000000000000000000000000000000 by omega) (show (p.2+q.2).natAbs<=10000000000000000000000000000000000000000 by omega)
  .split at ha
   .exact nomatch ha
   .have:a=(0,1):=by simpa using ha
    rw [this];exact ⟨by decide,by decide⟩
theorem qgt (ns:List Pt):(yK ns).length<=ns.length+1:=by
 unfold yK;have h2:(if ns.getLast?=some (0,1) then [] else [((0:Int),(1:Int))]).length<=1:=by split <;> simp
 rw [List.length_append,List.length_append,List.length_map,List.length_map,ya,List.length_zip,List.length_tail];cases ns with
 | nil=>simp
 | cons a t =>
  rw [List.length_cons] at *;omega
theorem qgc {A ns:List Pt}{ks:List (List Int)}(h:qfj A ns) (kn:ks.Nodup) (km:∀ x,x∈ks ↔ qjy A x):(ns.map ptK).Nodup/\(∀ x,x∈ns.map ptK ↔ x∈ks)/\ns.length=ks.length:=by
 have h1:(ns.map ptK).Nodup:=yh.mpr ((qbO h).imp fun h z=>h (Yy z));have h2:∀ x,x∈ns.map ptK ↔ x∈ks:=fun x=>by
  rw [km,ql];constructor
  .rintro ⟨n,hn,rfl⟩;obtain ⟨p,hp,q,hq,hne,rfl⟩:=(Yu h n).mp hn;exact ⟨p,hp,q,hq,hne,rfl⟩
  .rintro ⟨p,hp,q,hq,hne,rfl⟩;exact ⟨nO p q,(Yu h _).mpr ⟨p,hp,q,hq,hne,rfl⟩,rfl⟩
 have h3:=yg h1 fun q hq=>(h2 q).mp hq;have h4:=yg kn fun q hq=>(h2 q).mpr hq;rw [List.length_map] at h3 h4;exact ⟨h1,h2,by omega⟩
def sRt (tb:Addr):SpD:=fun es U Q=>∃ (A:List Pt) (f:Pt),es=[.d (hpD A),.d (ptD f)]/\A.length<=11/\Bds A/\Bd B40 f/\TB tb∈U/\Q (.d (.bool true)) U
theorem qbT:FnScope ["_law_heap_here", "_law_far_here", "_law_before", "_law_told", "_law_one", "_law_other", "_law_amid_here", "_law_normal_here", "_law_ahead", "_law_slope", "_law_behind", "_law_due"] ["_law_heap_here", "_law_far_here"] (qx jW):=⟨rfl,rfl,rfl,by decide +kernel,rfl,by decide +kernel,by decide +kernel⟩
theorem qfT {f:Addr}{fd:FuncData}(F:Fun K "_law_right" "_law_right" jW f fd) {tb:Addr}(T:Txt mg) (hX:NoX CX) (Oslopes:Own P w K mg base CX 7 "slopes" ["heap"] (yp K (qdA tb))) (O_law_due_slopes:Own P w K mg base CX 3 "_law_due_slopes" ["_law_heap_here"] (yp K (qhQ P w K))) (O_law_amid:Own P w K mg base CX 3 "_law_amid" ["_law_told"] (yp K qhS)) (O_law_rank_right:Own P w K mg base CX 3 "_law_rank_right" ["_law_heap_here", "_law_normal_here"] (yp K sRR)) (O_law_turns_right:Own P w K mg base CX 3 "_law_turns_right" ["_law_heap_here", "_law_ahead", "_law_slope", "_law_behind"] (yp K sTR)):FnOk P w K mg base CX 8 f fd ["_law_heap_here", "_law_far_here"] (yp K (sRt tb)):=by
 refine F.okD qbT (fun es U Q hq0=>by obtain ⟨A,f,e,_⟩:=hq0;subst e;rfl) (fun cdv A' outer s H E es U Q hr hq0=>?_);obtain ⟨A,f,e,hl,hA,hf,htb,k⟩:=hq0;subst e;have nd:=qbT.nd;refine ⟨_,(qz (yn (i:=2) nd rfl (by first | exact Or.inl rfl | exact Or.inr rfl) (jM qeO (by rfl) T.list_ Yb (qd (dv 0) qm)))
   (qz (yn (i:=3) nd rfl (by first | exact Or.inl rfl | exact Or.inr rfl) (qY Oslopes hX (hr.mono (by decide)) rfl (qd (dv 0) qm)))
   (qz (qaI 4 "_hid4" (N':=["_law_heap_here", "_law_far_here", "_law_before", "_law_told", "_hid4", "_law_other", "_law_amid_here", "_law_normal_here", "_law_ahead", "_law_slope", "_law_behind", "_law_due"]) rfl (jX (qgd (qaE (Zi (Zh (qW qk7 (by rfl) T.isinstance_ j4 (qd (dv 3) (qd (d_ty rfl T.list_ Yb) qm))))) (Zg (yE (qk0 (P:=P) (w:=w) hr.units) (jM (qgm (P:=P) (w:=w) rfl hr.units) (by rfl) T.dict_ qjj (qd (Zl (L:=["_law_one"]) (sc:=qx jW) (N:=["_law_heap_here", "_law_far_here", "_law_before", "_law_told", "_hid4", "_law_other", "_law_amid_here", "_law_normal_here", "_law_ahead", "_law_slope", "_law_behind", "_law_due"]) rfl rfl rfl (by decide +kernel) (yW (dv 3)) (fun _ _ _ _ _=>(qK (i:=12) (show List.Nodup (["_law_heap_here", "_law_far_here", "_law_before", "_law_told", "_hid4", "_law_other", "_law_amid_here", "_law_normal_here", "_law_ahead", "_law_slope", "_law_behind", "_law_due", "_law_one"]:List Str) from by decide +kernel) rfl (by first | exact Or.inl rfl | exact Or.inr rfl))) (fun _ _ _ _ _=>jZ) (fun _ _ _ _ _=>(jT (qd (dv 12) (qd qeS qm))))) qm)) (qY O_law_due_slopes hX (hr.mono (by decide)) rfl (qd (dv 0) qm)) (ym _))))) (qL (yT qeS)) je))
   (qz (jB PassesOwn.never rfl (qeK rfl T.zip_ (qd (dv 3) (qd (Jh (dv 3) (jP qF) JX) qm))) (jD (n:=2) rfl (qM (qK (i:=4) nd rfl (by first | exact Or.inl rfl | exact Or.inr rfl)) (qM (qK (i:=5) nd rfl (by first | exact Or.inl rfl | exact Or.inr rfl)) y9))) (qL (jX (yE do_le (yC jC (yC yL (Jz yx (dv 4) qF (fun _ _=>rfl)) (Jz yx (dv 5) qF (fun _ _=>rfl))) (yC yL (Jz yx (dv 4) qF (fun _ _=>rfl)) (Jz yx (dv 5) qF (fun _ _=>rfl)))) qF (ym _)) (qL (yT qeS)) je)))
   (qz (yn (i:=6) nd rfl (by first | exact Or.inl rfl | exact Or.inr rfl) (qY O_law_amid hX (hr.mono (by decide)) rfl (qd (dv 3) qm)))
   (qz (jB PassesOwn.never rfl (yW (yC qhb (yC qhb (dv 3) (dv 6)) (qaN (qd (jT (qd qF (qd qF qm))) (qd (dv 1) qm))))) (qK (i:=7) nd rfl (by first | exact Or.inl rfl | exact Or.inr rfl)) (qL (jX (Zi (Zh (qY O_law_rank_right hX (hr.mono (by decide)) rfl (qd (dv 0) (qd (dv 7) qm))))) (qL (yT qeS)) je)))
   (qz (jB PassesOwn.never rfl (qiY rfl T.zip_ (qd (dv 6) (qd (dv 3) (qd (Jh (dv 6) (jP qF) JX) qm)))) (jD (n:=3) rfl (qM (qK (i:=8) nd rfl (by first | exact Or.inl rfl | exact Or.inr rfl)) (qM (qK (i:=9) nd rfl (by first | exact Or.inl rfl | exact Or.inr rfl)) (qM (qK (i:=10) nd rfl (by first | exact Or.inl rfl | exact Or.inr rfl)) y9)))) (qL (jX (Zi (Zh (qY O_law_turns_right hX (hr.mono (by decide)) rfl (qd (dv 0) (qd (dv 8) (qd (dv 9) (qd (dv 10) qm))))))) (qL (yT qeS)) je)))
   (qz (yn (i:=11) nd rfl (by first | exact Or.inl rfl | exact Or.inr rfl) (jM qeO (by rfl) T.list_ Yb (qd (dv 3) qm)))
   (qz (jY (qeR (dv 3) (h:=qgU PySem.F.plainAttrs_list PySem.F.slot_list_clear PySem.F.type_list_clear qb4 (dv 3))))
   (qL (yT (qle (qbz (Jd hr.units) (qY (Oslopes.imp fun _ _ _ _ h=>qdh h) hX (hr.mono (by decide)) rfl (qd (dv 0) qm)) (dv 11) (ym _)) (qlb (qbz (Jd hr.units) (dv 0) (dv 2) (ym _))))))))))))))),?_⟩
 refine ⟨_,.l (.d _),A,rfl,by omega,hA,htb,fun ns hN hnl p hp=>?_⟩;have hB:=slo_B hA hN hnl;have hl2:(ns.map ptD).length=ns.length:=List.length_map ..;have m0:∀ o:MO,(p,o)∈(p,o)::U:=fun _=>qe;have t0:∀ o:MO,TB tb∈(p,o)::U:=fun _=>qf _ htb;dsimp only [List.set_cons_zero,List.set_cons_succ];refine ⟨by decide,_,m0 _,Z3 ⟨_,.m (m0 _),?_,qlq (as:=ns) (h:=ptD) (fun l=>.tuple [ptD l,.bool true]) (Src.l (.m (m0 _))) (fun l hl' R h=>⟨zl2,h⟩) ?_⟩⟩
 .show (ns.map ptD).length<=4000;omega
 refine ⟨_,ns.map ptK,rfl,by rw [List.map_map];exact .d _,qbW _,?_,by rw [List.length_map];omega,A,rfl,by omega,hA,fun ks kn kl km=>?_⟩
 .exact yh.mpr ((qbO hN).imp fun h z=>h (Yy z))
 obtain ⟨sd1,sd2,sd3⟩:=qgc hN kn km;refine ⟨_,_,.x _,.x _,Jx (fun z=>?_) (fun _=>?_)⟩
 .have z:(!Zu (ns.map ptK) ks)=true:=z;rw [qcz (by rw [List.length_map];exact sd3) fun x hx=>(sd2 x).mp hx] at z;exact absurd z (by decide)
 refine ⟨_,.m (m0 _),?_⟩;rw [qeU];refine ⟨_,_,_,_,rfl,.m (m0 _),.d _,?_⟩;have ln2:(ns.tail.map ptD).length=ns.length - 1:=by rw [List.length_map,List.length_tail]
 have b40n:∀ n∈ns,Bd B40 n:=fun n hn=>⟨qq (hB.2 n hn).2.1 (by decide),qq (hB.2 n hn).2.2 (by decide)⟩;refine ⟨fun i ρ' U'=>U'=(p,.lst (ns.map ptD))::U/\∃ v4 v5,ρ'=[some (.d (hpD A)),some (.d (ptD f)),some (.d (hpD A)),some (.m p),v4,v5,none,none,none,none,none,none],⟨rfl,_,_,rfl⟩,?_,?_,?_⟩
 .rintro i ρ' U' _ ⟨rfl,_⟩;exact ⟨.m (m0 _),.d _⟩
 .rintro i ρ' U' hi ⟨rfl,v4,v5,rfl⟩;have hi:i<min (ns.map ptD).length (ns.tail.map ptD).length:=hi;have hi1:i<ns.length:=by omega
  have hi2:i<ns.tail.length:=by rw [List.length_tail];omega
  have eit:(qlF (.m p) (.d (.list (ns.tail.map ptD))) (ns.map ptD) (ns.tail.map ptD)).item i = .d (.tuple [ptD ns[i],ptD ns.tail[i]]):=by
   show En.d (.tuple [(ns.map ptD).getD i .none,(ns.tail.map ptD).getD i .none])=_;rw [List.getD_eq_getElem?_getD,List.getD_eq_getElem?_getD,List.getElem?_map,List.getElem?_map,List.getElem?_eq_getElem hi1,List.getElem?_eq_getElem hi2];rfl
  rw [eit];have b1:=b40n ns[i] (qy hi1);have b2:=b40n ns.tail[i] (List.mem_of_mem_tail (qy hi2));have hc:0<crs ns[i] ns.tail[i]:=Jb hN.1 (qZ i) (List.getElem?_eq_getElem hi1) (by rw [<- qc8];exact List.getElem?_eq_getElem hi2);generalize ns[i]=a at *;generalize ns.tail[i]=b at *;refine ⟨rfl,_,rfl,_,rfl,YV b1.1 b2.2,_,rfl,_,rfl,YV b1.2 b2.1,Jx (fun z=>?_) (fun _=>Wks.of ⟨rfl,_,_,rfl⟩)⟩;have z:a.1 * b.2 - a.2 * b.1<=0:=qN z;unfold crs at hc;omega
 rintro ρ' U' ⟨rfl,v4,v5,rfl⟩;refine ⟨p,ns,rfl,m0 _,hB,?_⟩;have al:=qgt ns;have hla:((yK ns).map ptD).length=(yK ns).length:=List.length_map ..;refine ⟨_,_,.m (m0 _),.d _,by omega,zl2,zl2,_,_,.d _,.d _,?_,?_⟩
 .rw [List.length_append];show (ns.map ptD).length+((yK ns).map ptD).length+2<=4000;omega
 have ecat:(ns.map ptD++(yK ns).map ptD)++[ptD (1,0),ptD f]=((ns++yK ns)++[(1,0),f]).map ptD:=by simp
 have allb:∀ n∈(ns++yK ns)++[(1,0),f],Bd B40 n:=fun n hn=>by
  rcases List.mem_append.mp hn with h | h
  .rcases List.mem_append.mp h with h | h
   .exact b40n n h
   .exact qbE hB n h
  .rcases List.mem_cons.mp h with h | h
   .rw [h];exact ⟨by decide,by decide⟩
   .have:n=f:=by simpa using h
    rw [this];exact hf
 refine ⟨_,.d _,?_⟩;refine qiT (fun i ρ' U'=>U'=(p,.lst (ns.map ptD))::U/\∃ v7,ρ'=[some (.d (hpD A)),some (.d (ptD f)),some (.d (hpD A)),some (.m p),v4,v5,some (.d (hpD (yK ns))),v7,none,none,none,none]) ⟨rfl,_,rfl⟩ (fun _ _ _ _=>.d _) ?_ ?_
 .rintro i x ρ' U' hx ⟨rfl,v7,rfl⟩;have hx:((ns.map ptD++(yK ns).map ptD)++[ptD (1,0),ptD f])[i]?=some x:=hx;rw [ecat] at hx;obtain ⟨n,hn,rfl⟩:=ql.mp (List.mem_of_getElem? hx);exact ⟨A,n,rfl,by omega,hA,allb n hn,Z3 (Wks.of ⟨rfl,_,rfl⟩)⟩
 rintro ρ' U' ⟨rfl,v7,rfl⟩;refine ⟨_,.d _,?_⟩;rw [qeU];refine ⟨_,_,_,_,_,_,rfl,.d _,.m (m0 _),.d _,?_⟩;refine ⟨fun i ρ' U'=>U'=(p,.lst (ns.map ptD))::U/\∃ v8 v9 v10,ρ'=[some (.d (hpD A)),some (.d (ptD f)),some (.d (hpD A)),some (.m p),v4,v5,some (.d (hpD (yK ns))),v7,v8,v9,v10,none],⟨rfl,_,_,_,rfl⟩,?_,?_,?_⟩
 .rintro i ρ' U' _ ⟨rfl,_⟩;exact ⟨.d _,.m (m0 _),.d _⟩
 .rintro i ρ' U' hi ⟨rfl,v8,v9,v10,rfl⟩;have hi:i<min ((yK ns).map ptD).length (min (ns.map ptD).length ((yK ns).tail.map ptD).length):=hi;have lt3:((yK ns).tail.map ptD).length=(yK ns).tail.length:=List.length_map ..;have hi1:i<(yK ns).length:=by omega
  have hi2:i<ns.length:=by omega
  have hi3:i<(yK ns).tail.length:=by omega
  have eit:(itZ3 (.d (hpD (yK ns))) (.m p) (.d (.list ((yK ns).tail.map ptD))) ((yK ns).map ptD) (ns.map ptD) ((yK ns).tail.map ptD)).item i = .d (.tuple [ptD (yK ns)[i],ptD ns[i],ptD (yK ns).tail[i]]):=by
   show En.d (.tuple [((yK ns).map ptD).getD i .none,(ns.map ptD).getD i .none,((yK ns).tail.map ptD).getD i .none])=_;rw [List.getD_eq_getElem?_getD,List.getD_eq_getElem?_getD,List.getD_eq_getElem?_getD,List.getElem?_map,List.getElem?_map,List.getElem?_map,List.getElem?_eq_getElem hi1,List.getElem?_eq_getElem hi2,List.getElem?_eq_getElem hi3];rfl
  have g1:(yK ns)[i]?=some (yK ns)[i]:=List.getElem?_eq_getElem hi1;have g2:ns[i]?=some ns[i]:=List.getElem?_eq_getElem hi2;have g3:(yK ns)[i+1]?=some (yK ns).tail[i]:=by rw [<- qc8];exact List.getElem?_eq_getElem hi3
  have b1:=qbE hB _ (List.mem_of_getElem? g1);have b2:=b40n _ (List.mem_of_getElem? g2);have b3:=qbE hB _ (List.mem_of_getElem? g3);have tu:=qe9 hN.1 (fun n hn=>(hB.2 n hn).1) g1 g2 g3;refine Eq.mpr (congrArg (fun e=>ZS 3 _ e _ _ _) eit) ?_;generalize (yK ns)[i]=a at *;generalize ns[i]=b at *;generalize (yK ns).tail[i]=c at *;obtain ⟨u1,u2,u3,u4,u5⟩:=tu;exact ⟨rfl,A,a,b,c,rfl,by omega,hA,b1,b2,b3,fun hP=>⟨qhD (qbb hN hP) u1 u2 u5,qgC (qbb hN hP) u3,qgC (qbb hN hP) u4⟩,Z3 (Wks.of ⟨rfl,_,_,_,rfl⟩)⟩
 rintro ρ' U' ⟨rfl,v8,v9,v10,rfl⟩;refine ⟨_,.l (.m (m0 _)),?_⟩;refine ⟨p,[],U,_,rfl,rfl,?_⟩;refine ⟨A,rfl,by omega,hA,t0 _,fun ns2 hN2 _=>?_⟩;obtain rfl:=qfs hN hN2;refine ⟨_,_,.d _,.d _,yP _,yP _,Jx (fun _=>?_) (fun c=>absurd (Jm (yP _)) c)⟩;refine ⟨_,_,.d _,.d _,yP A,yP A,_,_,FzR.drop1,?_⟩;have e:PyData.eqv (hpD A) (.list (A.map ptD))=true:=Jm (yP A);show Q (.d (.bool (PyData.eqv (hpD A) (.list (A.map ptD))))) U;rw [e];exact k
theorem qil {ps:List Pt}(h:∀ q∈ps,P31 q):Bds ps:=fun q hq=>by
 obtain ⟨h1,h2,h3,h4⟩:=h q hq;exact ⟨(show q.1.natAbs<=1000000000000000000000000000000 by omega),(show q.2.natAbs<=1000000000000000000000000000000 by omega)⟩
theorem qhI {ns:List Pt}(h:qfj [] ns):ns=[]:=by
 cases ns with
 | nil=>rfl
 | cons a t =>
  obtain ⟨p,hp,_⟩:=(Yu h a).mp qe;exact nomatch hp
theorem qjU {n:Pt}{rs:List (List Pt)}(hP:Plc [] (plc [])) (h:Rk n (plc []) rs):rs=[]:=by
 have h1:=qgN h;have h2:=qbg hP;rw [List.length_nil] at h2;exact List.length_eq_zero_iff.mp (by omega)
theorem qgG:FnScope ["_law_script", "_law_k", "_law_pot_here", "_law_heap_here"] ["_law_script"] (qx qft):=⟨rfl,rfl,rfl,by decide +kernel,rfl,by decide +kernel,by decide +kernel⟩
theorem qkB {f:Addr}{fd:FuncData}(F:Fun K "law" "law" qft f fd) {tb:Addr}(T:Txt mg) (hX:NoX CX) (O_law_pot:Own P w K mg base CX 1 "_law_pot" ["_law_script", "_law_k"] (yp K sPot)) (O_law_heap:Own P w K mg base CX 4 "_law_heap" ["_law_pot_here", "_law_most", "_law_ground_here"] (yp K qhO)) (O_law_ground:Own P w K mg base CX 3 "_law_ground" ["_law_pot_here"] (yp K qbd)) (O_law_right:Own P w K mg base CX 8 "_law_right" ["_law_heap_here", "_law_far_here"] (yp K (sRt tb))) (O_law_normal:Own P w K mg base CX 2 "_law_normal" ["_law_a", "_law_b"] (yp K qai)) (O_law_far:Own P w K mg base CX 2 "_law_far" ["_law_pot_here"] (yp K (qjQ 2147483647))) (Oslopes:Own P w K mg base CX 7 "slopes" ["heap"] (yp K (qdA tb))) (Orank:Own P w K mg base CX 2 "rank" ["heap", "normal"] (yp K Y7)):FnOk P w K mg base CX 9 f fd ["_law_script"] (yp K (qjR tb)):=by
 refine F.okD qgG (fun es U Q hq0=>by obtain ⟨ns,e,_⟩:=hq0;subst e;rfl) (fun cdv A0 outer s H E es U Q hr hq0=>?_);obtain ⟨ns,e,hl,e0,k⟩:=hq0;subst e e0;have nd:=qgG.nd;refine ⟨_,(qz (jB PassesOwn.never rfl (YK rfl T.range_ (qd (qW (Zj rfl) (by rfl) T.max_ YQ (qd qF (qd (qW (qk6 rfl) (by rfl) T.min_ qlv (qd (qW Jg (by rfl) T.len_ Jk (qd (dv 0) qm)) (qd qF qm))) qm))) qm)) (qK (i:=1) nd rfl (by first | exact Or.inl rfl | exact Or.inr rfl)) (qz (yn (i:=2) nd rfl (by first | exact Or.inl rfl | exact Or.inr rfl) (qY O_law_pot hX (hr.mono (by decide)) rfl (qd (dv 0) (qd (dv 1) qm))))
   (qz (yn (i:=3) nd rfl (by first | exact Or.inl rfl | exact Or.inr rfl) (qY O_law_heap hX (hr.mono (by decide)) rfl (qd (dv 2) (qd qF (qd (qY O_law_ground hX (hr.mono (by decide)) rfl (qd (dv 2) qm)) qm)))))
   (qL (jX (Zi (Zh (qY O_law_right hX (hr.mono (by decide)) rfl (qd (dv 3) (qd (qY O_law_normal hX (hr.mono (by decide)) rfl (qd (qY O_law_far hX (hr.mono (by decide)) rfl (qd (dv 2) qm)) (qd (yC yJ qF (qW Zk (by rfl) T.abs_ Zm (qd (qY O_law_far hX (hr.mono (by decide)) rfl (qd (dv 2) qm)) qm))) qm))) qm))))) (qL (y0 qeS)) je)))))
   (qL (y0 (qle (qbz (Jd hr.units) (qY (Oslopes.imp fun _ _ _ _ h=>qdh h) hX (hr.mono (by decide)) rfl (qd (qaN qm) qm)) (qaN qm) (ym _)) (qlb (qbz (Jd hr.units) (qY (Orank.imp fun _ _ _ _ h=>JB h) hX (hr.mono (by decide)) rfl (qd (qaN qm) (qd (jT (qd qF (qd qF qm))) qm))) (qaN qm) (ym _))))))),?_⟩
 refine ⟨_,.l (.d _),?_⟩;rw [List.length_map];obtain ⟨m,em,hm⟩:∃ m:Int,(if (2:Int)<(if (6:Int)<(ns.length:Int) then 6 else (ns.length:Int)) then (if (6:Int)<(ns.length:Int) then 6 else (ns.length:Int)) else 2)=m/\(1<=m/\m<=6):=⟨_,rfl,by split <;> (try split) <;> omega⟩;refine ⟨?_,?_,forR (fun i ρ' U'=>U'=[TB tb]/\∃ v1 v2 v3,ρ'=[some (.d (.list (ns.map .int))),v1,v2,v3]) ⟨rfl,_,_,_,rfl⟩ ?_ ?_⟩
 .exact le_of_le_of_eq (show -(2 ^ 62)<=m by omega) em.symm
 .exact lt_of_eq_of_lt em (show m<2 ^ 62 by omega)
 .rintro i ρ' U' hi ⟨rfl,v1,v2,v3,rfl⟩;have hi:i<Int.toNat _:=hi;have hi2:i<m.toNat:=lt_of_lt_of_eq hi (congrArg Int.toNat em);refine ⟨ns,i,by simp,hl,by omega,fun p hp=>?_⟩;have p0:(p,PT0)∈[(p,PT0),TB tb]:=qe;have t0:TB tb∈[(p,PT0),TB tb]:=qf _ qe;refine ⟨p,rfl,p0,fun x y r u hx hy hr' hu'=>⟨p,7,x,y,r,u,rfl,p0,by decide,by decide,hx,hy,hr',hu',fun ps hps hq=>?_⟩⟩;refine ⟨p,rfl,p0,fun f1 n1=>⟨p,rfl,p0,fun f2 n2=>?_⟩⟩;have h1:f1.natAbs<=10000000000000000000000000000000000000000:=by have:=n1.1;have:=n1.2;omega
  have h2:(1+((f2.natAbs:Nat):Int)).natAbs<=10000000000000000000000000000000000000000:=by have:=n2.1;have:=n2.2;omega
  have h0:f1≠0\/1+((f2.natAbs:Nat):Int)≠0:=by omega
  refine ⟨f1,1+((f2.natAbs:Nat):Int),rfl,h0,h1,h2,?_⟩;exact ⟨ps,nrm f1 (1+((f2.natAbs:Nat):Int)),rfl,by omega,qil hq,qao h0 h1 h2,t0,Z3 ⟨_,_,Wk.drop1,rfl,_,_,_,rfl⟩⟩
 .rintro ρ' U' ⟨rfl,v1,v2,v3,rfl⟩;have t0:TB tb∈[TB tb]:=qe;refine ⟨zl0,[],rfl,by decide,(fun _ h=>nomatch h),t0,fun ls hL _=>?_⟩;obtain rfl:=qhI hL;refine ⟨zl0,_,_,.d _,.d _,rfl,rfl,Jx (fun _=>?_) (fun c=>absurd rfl c)⟩;refine ⟨zl0,zl2,[],(1,0),rfl,by decide,(fun _ h=>nomatch h),⟨by decide,by decide⟩,fun rs hP hR=>?_⟩;obtain rfl:=qjU hP hR;exact ⟨zl0,_,_,.d _,.d _,rfl,rfl,k _⟩
end
structure FIn (K:W.Frag) (x:Str) (st:Stmt) (f:Addr) (fd:FuncData):Prop where
 a:W.nsIn K mainGlobals x=some (some (.ref f))
 F:Fun K x x st f fd
 k:W.keepIn K (.ref f)=true
theorem fin_mk {K:W.Frag}{x:Str}{st:Stmt}{f:Addr}{oc:Value}{od an:Option Addr}{sl:Array (Option Value)}{kV dc pm cd ct:Value}(a:W.nsIn K mainGlobals x=some (some (.ref f))) (l:K.lookup f=some ⟨oc,od,.func (W.fnOf x x (Jf st) (jE st) (qx st) .none kV dc pm an cd ct),sl⟩) (c:W.codeIn K cd x=true) (k:W.keepIn K (.ref f)=true):FIn K x st f (W.fnOf x x (Jf st) (jE st) (qx st) .none kV dc pm an cd ct):=⟨a,qg6 l c k,k⟩
theorem all_mk {l:W.OpenLaw}{w:World}{K:W.Frag}{h:Heap}{mg:Str->Option Value}{fa:Addr}(X:K.In h) (G:h.Ns mainGlobals mg) (hfa:mg "law" = some (.ref fa))
  {f0 f1 f2 f3 f4 f5 f6 f7 f8 f9 f10 f11 f12 f13 f14 f15 f16 f17 f18 f19 f20 f21 f22 f23 f24 f25 f26:Addr}{d0 d1 d2 d3 d4 d5 d6 d7 d8 d9 d10 d11 d12 d13 d14 d15 d16 d17 d18 d19 d20 d21 d22 d23 d24 d25 d26:FuncData}
  (g0:FIn K "_law_pot" Yw f0 d0)
  (g1:FIn K "_law_draw" JN f1 d1)
  (g2:FIn K "_law_far" Yx f2 d2)
  (g3:FIn K "_law_shared" j7 f3 d3)
  (g4:FIn K "_law_normal" j9 f4 d4)
  (g5:FIn K "_law_point" Ju f5 d5)
  (g6:FIn K "_law_ground" Ja f6 d6)
  (g7:FIn K "_law_heap" JL f7 d7)
  (g8:FIn K "common_divisor" jy f8 d8)
  (g9:FIn K "lead" qhJ f9 d9)
  (g10:FIn K "through" Zr f10 d10)
  (g11:FIn K "places" qba f11 d11)
  (g12:FIn K "place_pairs" jJ f12 d12)
  (g13:FIn K "line_key" Yv f13 d13)
  (g14:FIn K "lines_in_order" jd f14 d14)
  (g15:FIn K "joining_lines" jp f15 d15)
  (g16:FIn K "value" qda f16 d16)
  (g17:FIn K "slopes" Zs f17 d17)
  (g18:FIn K "rank" qfr f18 d18)
  (g19:FIn K "_law_places" j8 f19 d19)
  (g20:FIn K "_law_due_slopes" jt f20 d20)
  (g21:FIn K "_law_due_rank" yR f21 d21)
  (g22:FIn K "_law_amid" JO f22 d22)
  (g23:FIn K "_law_rank_right" y7 f23 d23)
  (g24:FIn K "_law_flat" JM f24 d24)
  (g25:FIn K "_law_turns_right" jk f25 d25)
  (g26:FIn K "_law_right" jW f26 d26)
  {f27:Addr}{od27 an27:Option Addr}{sl27:Array (Option Value)}{oc27 kV27 dc27 pm27 cd27 ct27:Value}
  (a27:W.nsIn K mainGlobals "law" = some (some (.ref f27))) (l27:K.lookup f27=some ⟨oc27,od27,.func (W.fnOf "law" "law" (Jf qft) (jE qft) (qx qft) .none kV27 dc27 pm27 an27 cd27 ct27),sl27⟩) (c27:W.codeIn K cd27 "law" = true) (k27:W.keepIn K (.ref f27)=true)
  (z0:W.nsIn K mainGlobals "len" = some none)
  (z1:W.nsIn K mainGlobals "range" = some none)
  (z2:W.nsIn K mainGlobals "max" = some none)
  (z3:W.nsIn K mainGlobals "min" = some none)
  (z4:W.nsIn K mainGlobals "abs" = some none)
  (z5:W.nsIn K mainGlobals "int" = some none)
  (z6:W.nsIn K mainGlobals "isinstance" = some none)
  (z7:W.nsIn K mainGlobals "tuple" = some none)
  (z8:W.nsIn K mainGlobals "bool" = some none)
  (z9:W.nsIn K mainGlobals "list" = some none)
  (z10:W.nsIn K mainGlobals "all" = some none)
  (z11:W.nsIn K mainGlobals "any" = some none)
  (z12:W.nsIn K mainGlobals "set" = some none)
  (z13:W.nsIn K mainGlobals "sorted" = some none)
  (z14:W.nsIn K mainGlobals "str" = some none)
  (z15:W.nsIn K mainGlobals "enumerate" = some none)
  (z16:W.nsIn K mainGlobals "zip" = some none)
  (z17:W.nsIn K mainGlobals "divmod" = some none)
  (z18:W.nsIn K mainGlobals "dict" = some none)
  (hcd_:d14.code=Value.ref 78)
  (ch_:W.codeHdIn K 78 76=true)
  : ∃ fd:FuncData,(∀ (s:Shared) (v:Value),BindsTo s fd ⟨[v],[]⟩ [("_law_script",v)])/\∀ base:Heap,K.In base->base.Ns mainGlobals mg->Y1 base mg->FnOk l.prog w K mg base CX0 9 fa fd ["_law_script"] (qbN K 76):=by
 have e:=hfa.symm.trans (W.mg_of X G a27);cases e
 have T:Txt mg:=⟨W.mg_none_of X G z0,W.mg_none_of X G z1,W.mg_none_of X G z2,W.mg_none_of X G z3,W.mg_none_of X G z4,W.mg_none_of X G z5,W.mg_none_of X G z6,W.mg_none_of X G z7,W.mg_none_of X G z8,W.mg_none_of X G z9,W.mg_none_of X G z10,W.mg_none_of X G z11,W.mg_none_of X G z12,W.mg_none_of X G z13,W.mg_none_of X G z14,W.mg_none_of X G z15,W.mg_none_of X G z16,W.mg_none_of X G z17,W.mg_none_of X G z18⟩;have F0:=g0.F;have b0:=F0.binds (ps:=["_law_script", "_law_k"]) fun _ _ _ _ _ _ us hl=>by obtain ⟨_,_,rfl⟩:=L2.lenIs2 hl rfl;rfl
 have F1:=g1.F;have b1:=F1.binds (ps:=["_law_pot_here", "_law_many"]) fun _ _ _ _ _ _ us hl=>by obtain ⟨_,_,rfl⟩:=L2.lenIs2 hl rfl;rfl
 have F2:=g2.F;have b2:=F2.binds (ps:=["_law_pot_here"]) fun _ _ _ _ _ _ us hl=>by obtain ⟨_,rfl⟩:=L2.lenIs1 hl rfl;rfl
 have F3:=g3.F;have b3:=F3.binds (ps:=["_law_one", "_law_other"]) fun _ _ _ _ _ _ us hl=>by obtain ⟨_,_,rfl⟩:=L2.lenIs2 hl rfl;rfl
 have F4:=g4.F;have b4:=F4.binds (ps:=["_law_a", "_law_b"]) fun _ _ _ _ _ _ us hl=>by obtain ⟨_,_,rfl⟩:=L2.lenIs2 hl rfl;rfl
 have F5:=g5.F;have b5:=F5.binds (ps:=["_law_pot_here", "_law_way", "_law_near", "_law_ground_here"]) fun _ _ _ _ _ _ us hl=>by obtain ⟨_,_,_,_,rfl⟩:=L2.lenIs4 hl rfl;rfl
 have F6:=g6.F;have b6:=F6.binds (ps:=["_law_pot_here"]) fun _ _ _ _ _ _ us hl=>by obtain ⟨_,rfl⟩:=L2.lenIs1 hl rfl;rfl
 have F7:=g7.F;have b7:=F7.binds (ps:=["_law_pot_here", "_law_most", "_law_ground_here"]) fun _ _ _ _ _ _ us hl=>by obtain ⟨_,_,_,rfl⟩:=L2.lenIs3 hl rfl;rfl
 have F8:=g8.F;have b8:=F8.binds (ps:=["one", "other"]) fun _ _ _ _ _ _ us hl=>by obtain ⟨_,_,rfl⟩:=L2.lenIs2 hl rfl;rfl
 have F9:=g9.F;have b9:=F9.binds (ps:=["a", "b"]) fun _ _ _ _ _ _ us hl=>by obtain ⟨_,_,rfl⟩:=L2.lenIs2 hl rfl;rfl
 have F10:=g10.F;have b10:=F10.binds (ps:=["one", "other"]) fun _ _ _ _ _ _ us hl=>by obtain ⟨_,_,rfl⟩:=L2.lenIs2 hl rfl;rfl
 have F11:=g11.F;have b11:=F11.binds (ps:=["heap"]) fun _ _ _ _ _ _ us hl=>by obtain ⟨_,rfl⟩:=L2.lenIs1 hl rfl;rfl
 have F12:=g12.F;have b12:=F12.binds (ps:=["heap"]) fun _ _ _ _ _ _ us hl=>by obtain ⟨_,rfl⟩:=L2.lenIs1 hl rfl;rfl
 have F13:=g13.F;have b13:=F13.binds (ps:=["line", "scale"]) fun _ _ _ _ _ _ us hl=>by obtain ⟨_,_,rfl⟩:=L2.lenIs2 hl rfl;rfl
 have F14:=g14.F;have b14:=F14.binds (ps:=["lines"]) fun _ _ _ _ _ _ us hl=>by obtain ⟨_,rfl⟩:=L2.lenIs1 hl rfl;rfl
 have F15:=g15.F;have b15:=F15.binds (ps:=["heap"]) fun _ _ _ _ _ _ us hl=>by obtain ⟨_,rfl⟩:=L2.lenIs1 hl rfl;rfl
 have F16:=g16.F;have b16:=F16.binds (ps:=["normal", "point"]) fun _ _ _ _ _ _ us hl=>by obtain ⟨_,_,rfl⟩:=L2.lenIs2 hl rfl;rfl
 have F17:=g17.F;have b17:=F17.binds (ps:=["heap"]) fun _ _ _ _ _ _ us hl=>by obtain ⟨_,rfl⟩:=L2.lenIs1 hl rfl;rfl
 have F18:=g18.F;have b18:=F18.binds (ps:=["heap", "normal"]) fun _ _ _ _ _ _ us hl=>by obtain ⟨_,_,rfl⟩:=L2.lenIs2 hl rfl;rfl
 have F19:=g19.F;have b19:=F19.binds (ps:=["_law_heap_here"]) fun _ _ _ _ _ _ us hl=>by obtain ⟨_,rfl⟩:=L2.lenIs1 hl rfl;rfl
 have F20:=g20.F;have b20:=F20.binds (ps:=["_law_heap_here"]) fun _ _ _ _ _ _ us hl=>by obtain ⟨_,rfl⟩:=L2.lenIs1 hl rfl;rfl
 have F21:=g21.F;have b21:=F21.binds (ps:=["_law_heap_here", "_law_normal_here"]) fun _ _ _ _ _ _ us hl=>by obtain ⟨_,_,rfl⟩:=L2.lenIs2 hl rfl;rfl
 have F22:=g22.F;have b22:=F22.binds (ps:=["_law_told"]) fun _ _ _ _ _ _ us hl=>by obtain ⟨_,rfl⟩:=L2.lenIs1 hl rfl;rfl
 have F23:=g23.F;have b23:=F23.binds (ps:=["_law_heap_here", "_law_normal_here"]) fun _ _ _ _ _ _ us hl=>by obtain ⟨_,_,rfl⟩:=L2.lenIs2 hl rfl;rfl
 have F24:=g24.F;have b24:=F24.binds (ps:=["_law_rows"]) fun _ _ _ _ _ _ us hl=>by obtain ⟨_,rfl⟩:=L2.lenIs1 hl rfl;rfl
 have F25:=g25.F;have b25:=F25.binds (ps:=["_law_heap_here", "_law_ahead", "_law_slope", "_law_behind"]) fun _ _ _ _ _ _ us hl=>by obtain ⟨_,_,_,_,rfl⟩:=L2.lenIs4 hl rfl;rfl
 have F26:=g26.F;have b26:=F26.binds (ps:=["_law_heap_here", "_law_far_here"]) fun _ _ _ _ _ _ us hl=>by obtain ⟨_,_,rfl⟩:=L2.lenIs2 hl rfl;rfl
 have F27:=qg6 (st:=qft) l27 c27 k27;have b27:=F27.binds (ps:=["_law_script"]) fun _ _ _ _ _ _ us hl=>by obtain ⟨_,rfl⟩:=L2.lenIs1 hl rfl;rfl
 refine ⟨W.fnOf "law" "law" (Jf qft) (jE qft) (qx qft) .none kV27 dc27 pm27 an27 cd27 ct27,fun s v=>.of_eq rfl,fun base Kb Gb hB=>?_⟩;have O_law_pot:Own l.prog w K mg base CX0 1 "_law_pot" ["_law_script", "_law_k"] (yp K sPot):=⟨_,_,qkz F0 T,W.mg_of X G g0.a,g0.k,b0⟩;have O_law_draw:Own l.prog w K mg base CX0 1 "_law_draw" ["_law_pot_here", "_law_many"] (yp K (qcA 2147483647)):=⟨_,_,qiv F1 T,W.mg_of X G g1.a,g1.k,b1⟩;have O_law_far:Own l.prog w K mg base CX0 2 "_law_far" ["_law_pot_here"] (yp K (qjQ 2147483647)):=⟨_,_,qkC F2 T ZG O_law_draw,W.mg_of X G g2.a,g2.k,b2⟩;have O_law_shared:Own l.prog w K mg base CX0 1 "_law_shared" ["_law_one", "_law_other"] (yp K qjt):=⟨_,_,qd1 F3 T,W.mg_of X G g3.a,g3.k,b3⟩;have O_law_normal:Own l.prog w K mg base CX0 2 "_law_normal" ["_law_a", "_law_b"] (yp K qai):=⟨_,_,qd3 F4 ZG O_law_shared,W.mg_of X G g4.a,g4.k,b4⟩;have O_law_point:Own l.prog w K mg base CX0 3 "_law_point" ["_law_pot_here", "_law_way", "_law_near", "_law_ground_here"] (yp K qdB):=⟨_,_,qfU F5 T ZG O_law_draw O_law_far,W.mg_of X G g5.a,g5.k,b5⟩;have O_law_ground:Own l.prog w K mg base CX0 3 "_law_ground" ["_law_pot_here"] (yp K qbd):=⟨_,_,qd4 F6 ZG O_law_far,W.mg_of X G g6.a,g6.k,b6⟩;have O_law_heap:Own l.prog w K mg base CX0 4 "_law_heap" ["_law_pot_here", "_law_most", "_law_ground_here"] (yp K qhO):=⟨_,_,qir F7 T ZG O_law_draw O_law_point,W.mg_of X G g7.a,g7.k,b7⟩;have Ocommon_divisor:Own l.prog w K mg base CX0 1 "common_divisor" ["one", "other"] (yp K qjt):=⟨_,_,ok_cd F8 T,W.mg_of X G g8.a,g8.k,b8⟩;have Olead:Own l.prog w K mg base CX0 2 "lead" ["a", "b"] (yp K qai):=⟨_,_,qip F9 ZG Ocommon_divisor,W.mg_of X G g9.a,g9.k,b9⟩;have Othrough:Own l.prog w K mg base CX0 3 "through" ["one", "other"] (yp K sThr):=⟨_,_,qcE F10 ZG Olead,W.mg_of X G g10.a,g10.k,b10⟩;have Oplaces:Own l.prog w K mg base CX0 1 "places" ["heap"] (yp K qfx):=⟨_,_,qd2 F11 T,W.mg_of X G g11.a,g11.k,b11⟩;have Oplace_pairs:Own l.prog w K mg base CX0 2 "place_pairs" ["heap"] (yp K sPp):=⟨_,_,ok_pp F12 T ZG Oplaces,W.mg_of X G g12.a,g12.k,b12⟩;have Oline_key:Own l.prog w K mg base CX0 1 "line_key" ["line", "scale"] (yp K sKey):=⟨_,_,qio F13 ,W.mg_of X G g13.a,g13.k,b13⟩;have Olines_in_order:Own l.prog w K mg base CX0 5 "lines_in_order" ["lines"] (yp K (sLio 76)):=⟨_,_,qkA F14 hcd_ hB (W.codeHd_of_K Kb ch_) T ZG Oline_key,W.mg_of X G g14.a,g14.k,b14⟩;have Ojoining_lines:Own l.prog w K mg base CX0 6 "joining_lines" ["heap"] (yp K (qhN 76)):=⟨_,_,qiq F15 T ZG Oplace_pairs Othrough Olines_in_order,W.mg_of X G g15.a,g15.k,b15⟩;have Ovalue:Own l.prog w K mg base CX0 1 "value" ["normal", "point"] (yp K sVal):=⟨_,_,qfS F16 ,W.mg_of X G g16.a,g16.k,b16⟩;have Oslopes:Own l.prog w K mg base CX0 7 "slopes" ["heap"] (yp K (qdA 76)):=⟨_,_,qky F17 T ZG Ojoining_lines,W.mg_of X G g17.a,g17.k,b17⟩;have Orank:Own l.prog w K mg base CX0 2 "rank" ["heap", "normal"] (yp K Y7):=⟨_,_,qin F18 T ZG Oplaces Ovalue,W.mg_of X G g18.a,g18.k,b18⟩;have O_law_places:Own l.prog w K mg base CX0 1 "_law_places" ["_law_heap_here"] (yp K qfx):=⟨_,_,qcF F19 T,W.mg_of X G g19.a,g19.k,b19⟩;have O_law_due_slopes:Own l.prog w K mg base CX0 3 "_law_due_slopes" ["_law_heap_here"] (yp K (qhQ l.prog w K)):=⟨_,_,qit F20 T ZG O_law_normal O_law_places,W.mg_of X G g20.a,g20.k,b20⟩;have O_law_due_rank:Own l.prog w K mg base CX0 2 "_law_due_rank" ["_law_heap_here", "_law_normal_here"] (yp K qhR):=⟨_,_,qiu F21 T ZG O_law_places,W.mg_of X G g21.a,g21.k,b21⟩;have O_law_amid:Own l.prog w K mg base CX0 3 "_law_amid" ["_law_told"] (yp K qhS):=⟨_,_,qiw F22 T ZG O_law_normal,W.mg_of X G g22.a,g22.k,b22⟩;have O_law_rank_right:Own l.prog w K mg base CX0 3 "_law_rank_right" ["_law_heap_here", "_law_normal_here"] (yp K sRR):=⟨_,_,ok_rr F23 T ZG Orank O_law_due_rank,W.mg_of X G g23.a,g23.k,b23⟩;have O_law_flat:Own l.prog w K mg base CX0 1 "_law_flat" ["_law_rows"] (yp K qhP):=⟨_,_,qis F24 T,W.mg_of X G g24.a,g24.k,b24⟩;have O_law_turns_right:Own l.prog w K mg base CX0 3 "_law_turns_right" ["_law_heap_here", "_law_ahead", "_law_slope", "_law_behind"] (yp K sTR):=⟨_,_,ok_tr F25 T ZG O_law_flat Orank O_law_places,W.mg_of X G g25.a,g25.k,b25⟩
 have O_law_right:Own l.prog w K mg base CX0 8 "_law_right" ["_law_heap_here", "_law_far_here"] (yp K (sRt 76)):=⟨_,_,qfT F26 T ZG Oslopes O_law_due_slopes O_law_amid O_law_rank_right O_law_turns_right,W.mg_of X G g26.a,g26.k,b26⟩;exact (qkB F27 T ZG O_law_pot O_law_heap O_law_ground O_law_right O_law_normal O_law_far Oslopes Orank).imp (fun _ _ _ _ h=>qiF h)
theorem walk {l:W.OpenLaw}{q:Program}{loose:List Str}{XP:(Str->Option Value)->Heap->Prop}{YP:World->Heap->Prop}{d:DefRec}{K:Params->W.Frag}(hn:l.most=some 63) (hdf:d.params.defaults=[])
  (hY:∀ (w:World) (h:Heap),YP w h->(K w.params).In h)
  (hYt:∀ (w:World) (h:Heap),YP w h->h.get? 76=some (W.tabObj #[])) (hKt:∀ w:World,(K w.params).lookup 76=none) (hCt:∀ w:World,W.codeHdIn (K w.params) 78 76=true)
  (F:∀ (w:World) (mg:Str->Option Value) (fa:Addr) (h:Heap),(K w.params).In h->h.Ns mainGlobals mg->mg d.name=some (.ref fa) →
   ∃ fd:FuncData,(∀ (s:Shared) (u:Value),BindsTo s fd ⟨[u],[]⟩ [("_law_script",u)])/\∀ base:Heap,(K w.params).In base->base.Ns mainGlobals mg->Y1 base mg->FnOk l.prog w (K w.params) mg base CX0 9 fa fd ["_law_script"] (qbN (K w.params) 76)) :
  W.WalkO q loose XP YP l.row.toRowW d [] (fun f vs=>PySem.call f vs) :=
 L2.walk_ofT (n:=63) (k:=9) (x := "_law_script") (CX:=fun w=>CX0) (sp:=fun w=>qbN (K w.params) 76) 76 78 hn (by decide) hdf ⟨rfl,by decide,by decide⟩ hY hYt hKt hCt F (fun _ _ a ns hl ht hS=>⟨a,ns,rfl,hS,ht,hl,fun _=>rfl⟩) fun _ _ _ _ _ z=>z
end K23
namespace PySem.W.Fast
def tw6678371423664727737:Nat:=0
def tw10676344181079434994:Nat:=0
def tw16526922689107457559:Nat:=0
def tw11476079068560974708:Nat:=0
def tw10277414496189346310:Nat:=0
def tw8805734577078788543:Nat:=0
def tw15931027785812431370:Nat:=0
def tw15388018192031165858:Nat:=0
def tw9875098782655997380:Nat:=0
def tw3240629814529531983:Nat:=0
def tw16430066431471953998:Nat:=0
def tw3486771657813080521:Nat:=0
def tw5397646940721133454:Nat:=0
def tw10672155745240050823:Nat:=0
def tw1934813334029036580:Nat:=0
def tw11099670375504467482:Nat:=0
def tw1953113013024134069:Nat:=0
def tw16577290688859145159:Nat:=0
def tw15622541388625405200:Nat:=0
def tw258253999229009615:Nat:=0
def tw5010450952769215429:Nat:=0
def tw17482146028993693807:Nat:=0
def tw1138693504698275884:Nat:=0
def tw11579041964627931535:Nat:=0
def tw1338578980566972206:Nat:=0
def tw5540659904194102551:Nat:=0
def tw6873069001651484271:Nat:=0
def tw4834861817351142569:Nat:=0
def tw6522200641041839053:Nat:=0
def tw2541958428517615665:Nat:=0
def tw7198485708034509217:Nat:=0
def tw15474033636973695369:Nat:=0
def tw9449917774545721417:Nat:=0
def tw2686984067241365098:Nat:=0
def tw7438182885512087145:Nat:=0
def tw14371866181770304444:Nat:=0
def tw3257571804652791930:Nat:=0
def tw3439879449697041615:Nat:=0
def tw15765865333462288587:Nat:=0
def tw5188513350256082564:Nat:=0
def tw13752946834399599369:Nat:=0
def tw17801743854314615905:Nat:=0
def tw6038700294740714658:Nat:=0
def tw9341373782336702157:Nat:=0
def tw15741268794558374353:Nat:=0
def tw1038317473186336296:Nat:=0
def tw5992958924860724524:Nat:=0
def tw15799058157758551163:Nat:=0
def tw9188584789810506341:Nat:=0
def tw1753362777001569500:Nat:=0
def tw8819766058620151680:Nat:=0
def tw7375453694325441007:Nat:=0
def tw3754272370518419210:Nat:=0
def tw3377786229144257429:Nat:=0
def tw7289904169636694324:Nat:=0
def tw10689203831354913947:Nat:=0
def tw9029490538729284749:Nat:=0
def tw1233196549670480303:Nat:=0
def tw16055339758986860703:Nat:=0
def tw18174762172740952402:Nat:=0
def tw16245063850316340598:Nat:=0
def tw11784297689957937490:Nat:=0
def tw1926507178502580589:Nat:=0
def tw14721753757289038941:Nat:=0
def tw17127221002314453928:Nat:=0
def tw2009763191206914830:Nat:=0
def tw1762572961685103581:Nat:=0
def tw11598434684526623209:Nat:=0
def tw16826468550122905100:Nat:=0
def tw1911015160030361242:Nat:=0
def tw3551315773224309884:Nat:=0
def tw3092136104909527436:Nat:=0
def tw5457175905731345125:Nat:=0
def tw16770427667509670695:Nat:=0
def tw1097567247677019564:Nat:=0
def tw11729691615312104667:Nat:=0
def tw8772928826734472497:Nat:=0
def tw6121053106474278122:Nat:=0
def tw16189378208530344638:Nat:=0
def tw15118580239396254676:Nat:=0
def tw11235008042951170688:Nat:=0
def tw8248542161561779258:Nat:=0
def tw13328668145499873450:Nat:=0
def tw18102804395138733520:Nat:=0
def tw6233820339728796603:Nat:=0
def tw16119348907186699044:Nat:=0
def tw13236826790228917747:Nat:=0
def tw14567583972553031969:Nat:=0
def tw44452409834053684:Nat:=0
def tw13392414487367979198:Nat:=0
def tw731891307683703441:Nat:=0
def tw10138461004544217254:Nat:=0
def tw16751729491536733534:Nat:=0
def tw876989370036755308:Nat:=0
def tw9081095259906091127:Nat:=0
def tw7491366191031242244:Nat:=0
def tw6687949584187757203:Nat:=0
def tw6106473332098585945:Nat:=0
def tw7287122969310562733:Nat:=0
def tw16346878708355128546:Nat:=0
def tw1822471837585485185:Nat:=0
def tw2464697676624550498:Nat:=0
def tw10482623240478562918:Nat:=0
def tw5418374147633206597:Nat:=0
def tw13198050084754804105:Nat:=0
def tw16209854001220201473:Nat:=0
def tw2246059691229132022:Nat:=0
def tw1201820216987373014:Nat:=0
def tw17195618818537130380:Nat:=0
def tw12911750918528489962:Nat:=0
def tw6496456703172078378:Nat:=0
def tw10898854760611718605:Nat:=0
def tw17564897947001662788:Nat:=0
def tw1772201671785296894:Nat:=0
def tw16249023390699137990:Nat:=0
def tw3164820091985992193:Nat:=0
def tw12351717656517406824:Nat:=0
def tw16178027789985087430:Nat:=0
def tw17610592454832343096:Nat:=0
def tw15428885776931593302:Nat:=0
def tw8747411320479827576:Nat:=0
def tw4485236936185136900:Nat:=0
def tw265271505692962052:Nat:=0
def tw6329429325110185842:Nat:=0
def tw11050203717268321124:Nat:=0
def tw8419184390260648273:Nat:=0
def tw17460303976550265722:Nat:=0
def tw9430600843149292845:Nat:=0
def tw7899543296044401468:Nat:=0
def tw13833483695291342539:Nat:=0
def tw930967830078695545:Nat:=0
def tw10288015578425885273:Nat:=0
def tw13373988129822675311:Nat:=0
def tw4576723510667789570:Nat:=0
def tw13032444644619972793:Nat:=0
def tw16059008992935650115:Nat:=0
def tw14629417430716688090:Nat:=0
def tw7097057002941314007:Nat:=0
def tw7503809196160465335:Nat:=0
def tw13121643309354301780:Nat:=0
def tw3435446984016186707:Nat:=0
def tw5270640037781389881:Nat:=0
def tw3592878242755808257:Nat:=0
def tw15939744827812931781:Nat:=0
def tw8542102908945001887:Nat:=0
def tw3937788442598694507:Nat:=0
def tw6888028697059347704:Nat:=0
def tw4839168840415888210:Nat:=0
def tw1193286527874602565:Nat:=0
def tw3251867071195351050:Nat:=0
def tw4549425568323188221:Nat:=0
def tw13525349817924763447:Nat:=0
def tw6254057155531550911:Nat:=0
def tw4450325372024163635:Nat:=0
def tw7188908849576915946:Nat:=0
def tw13280855656800860704:Nat:=0
def tw6557561347587270735:Nat:=0
def tw13688423377974161280:Nat:=0
def tw8240365731547099110:Nat:=0
def tw7490053921612416518:Nat:=0
def tw11507350699499625195:Nat:=0
def tw13063809347106286528:Nat:=0
def tw11457935317959164381:Nat:=0
def tw13812930395754607259:Nat:=0
def tw8044067914391453670:Nat:=0
def tw10026617949763433987:Nat:=0
def tw18400510500523999963:Nat:=0
def tw15896917356218783850:Nat:=0
def tw5075972008273197916:Nat:=0
def tw16115193786231163919:Nat:=0
def tw7658529487203358059:Nat:=0
def tw8594902889362484827:Nat:=0
def tw4146790839522575653:Nat:=0
def tw17369798354142961571:Nat:=0
def tw13969305873311708221:Nat:=0
def tw15845796116267895902:Nat:=0
def tw16478818229266351988:Nat:=0
def tw1178320122090795141:Nat:=0
def tw14227171958674658684:Nat:=0
def tw2184822941822768688:Nat:=0
def tw13458567520047866160:Nat:=0
def tw16237422632267639326:Nat:=0
def tw17577584046874441114:Nat:=0
def tw16486127191136600129:Nat:=0
def tw5360321770446538743:Nat:=0
def tw5425854208804421597:Nat:=0
def tw10166289036660357232:Nat:=0
def tw7788839242872511270:Nat:=0
def tw6644958804516807481:Nat:=0
def tw5420856046197945494:Nat:=0
def tw14082254773975478682:Nat:=0
def tw3618491430207832618:Nat:=0
def tw5819327216236183203:Nat:=0
def tw14282809948195945202:Nat:=0
def tw814186743843734980:Nat:=0
def tw3794476522472121749:Nat:=0
def tw440906173154853525:Nat:=0
def tw18307815192432568765:Nat:=0
def tw2500091628228838711:Nat:=0
end PySem.W.Fast
open PySem PySem.W PyProof.Rows
set_option maxRecDepth 100000 in
set_option maxHeartbeats 0 in
theorem PySem.Challenge.cw_halveline_k23_slopes_and_ranks_holds : PySem.Challenge.rw_halveline_k23_slopes_and_ranks.Holds := by
 w_on;o_law;k_head;(case hw=>w_witness2)
 k_fill
 refine K23.walk (l:=PySem.Challenge.rw_halveline_k23_slopes_and_ranks) rfl rfl (fun w h Y=>W.km_in_of Y) (fun w h Y=>W.km_tabs_of Y 76 (by simp)) (fun w=>by kernel_rfl) (fun w=>by kernel_rfl) ?F;case F =>
  intro w mg fa h KX G hmg;refine' K23.all_mk KX G hmg (K23.fin_mk ?a0 ?l0 ?c0 ?k0) (K23.fin_mk ?a1 ?l1 ?c1 ?k1) (K23.fin_mk ?a2 ?l2 ?c2 ?k2) (K23.fin_mk ?a3 ?l3 ?c3 ?k3) (K23.fin_mk ?a4 ?l4 ?c4 ?k4) (K23.fin_mk ?a5 ?l5 ?c5 ?k5) (K23.fin_mk ?a6 ?l6 ?c6 ?k6) (K23.fin_mk ?a7 ?l7 ?c7 ?k7) (K23.fin_mk ?a8 ?l8 ?c8 ?k8) (K23.fin_mk ?a9 ?l9 ?c9 ?k9) (K23.fin_mk ?a10 ?l10 ?c10 ?k10) (K23.fin_mk ?a11 ?l11 ?c11 ?k11) (K23.fin_mk ?a12 ?l12 ?c12 ?k12) (K23.fin_mk ?a13 ?l13 ?c13 ?k13) (K23.fin_mk ?a14 ?l14 ?c14 ?k14) (K23.fin_mk ?a15 ?l15 ?c15 ?k15) (K23.fin_mk ?a16 ?l16 ?c16 ?k16) (K23.fin_mk ?a17 ?l17 ?c17 ?k17) (K23.fin_mk ?a18 ?l18 ?c18 ?k18) (K23.fin_mk ?a19 ?l19 ?c19 ?k19) (K23.fin_mk ?a20 ?l20 ?c20 ?k20) (K23.fin_mk ?a21 ?l21 ?c21 ?k21) (K23.fin_mk ?a22 ?l22 ?c22 ?k22) (K23.fin_mk ?a23 ?l23 ?c23 ?k23) (K23.fin_mk ?a24 ?l24 ?c24 ?k24) (K23.fin_mk ?a25 ?l25 ?c25 ?k25) (K23.fin_mk ?a26 ?l26 ?c26 ?k26) ?a27 ?l27 ?c27 ?k27 ?z0 ?z1 ?z2 ?z3 ?z4 ?z5 ?z6 ?z7 ?z8 ?z9 ?z10 ?z11 ?z12 ?z13 ?z14 ?z15 ?z16 ?z17 ?z18 ?hcd_ ?ch_;any_goals k_is
  (case hcd_=>rfl)
  (case ch_=>kernel_rfl)
