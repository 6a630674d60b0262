import PyProof.Rows.All
import Wide.All
import OpenK.AllK
import Wide.FinOn
import Lean
import PyProof.EqAt
import PyProof.EqKinds
import PyProof.TupleCall
import PyProof.EnumFor
import PyProof.EnumMake
import PyProof.ZipIter
import PyProof.WalkInts
import PyProof.SeqI3
import KE.KSortTup
import PyProof.Rows.SortWalk
import PyProof.Rows.SetFrom
import PyProof.CollectIter
import PySem.Challenge.RW_halveline_k63_whole_halving_flats
set_option Elab.async false
set_option linter.all false
set_option maxRecDepth 100000
noncomputable section
section
open PySem PySem.Spec PyProof.Rows
theorem qa:type_of% @wpAny_bind:=@wpAny_bind
theorem qb:type_of% @Heap.get?_push_of_some:=@Heap.get?_push_of_some
theorem qd:type_of% @wpAny_pure:=@wpAny_pure
theorem qe:type_of% @List.mem_cons_of_mem:=@List.mem_cons_of_mem
theorem qf:type_of% @List.mem_append_right:=@List.mem_append_right
theorem qg:type_of% @List.mem_cons_self:=@List.mem_cons_self
theorem qh:type_of% @Heap.lt_size:=@Heap.lt_size
theorem qi:type_of% @wpS_bind:=@wpS_bind
theorem qj:type_of% @Nat.le_refl:=@Nat.le_refl
theorem qk:type_of% @Nat.ne_of_lt:=@Nat.ne_of_lt
theorem ql:type_of% @wpS_pure:=@wpS_pure
theorem qo:type_of% @List.getElem?_eq_some_iff:=@List.getElem?_eq_some_iff
theorem qp:type_of% @Array.getElem?_toList:=@Array.getElem?_toList
theorem qq:type_of% @List.getD_eq_getElem?_getD:=@List.getD_eq_getElem?_getD
theorem qr:type_of% @Heap.get?_push_size:=@Heap.get?_push_size
theorem qv:type_of% @of_decide_eq_true:=@of_decide_eq_true
theorem qw:type_of% @List.take_append_drop:=@List.take_append_drop
theorem qy:type_of% @Nat.lt_of_lt_of_le:=@Nat.lt_of_lt_of_le
theorem qz:type_of% @List.mem_singleton:=@List.mem_singleton
theorem qB:type_of% @decide_eq_true:=@decide_eq_true
theorem qC:type_of% @List.mem_append_left:=@List.mem_append_left
theorem qH:type_of% @List.pairwise_iff_getElem:=@List.pairwise_iff_getElem
theorem qI:type_of% @List.getElem?_append_left:=@List.getElem?_append_left
theorem qJ:type_of% @Nat.le_trans:=@Nat.le_trans
theorem qK:type_of% @List.mem_map:=@List.mem_map
theorem qL:type_of% @List.pairwise_append:=@List.pairwise_append
theorem qN:type_of% @wpAny_mono:=@wpAny_mono
theorem qO:type_of% @List.getElem?_append_right:=@List.getElem?_append_right
theorem qQ:type_of% @Nat.zero_le:=@Nat.zero_le
theorem qS:type_of% @List.getElem?_of_mem:=@List.getElem?_of_mem
theorem qT:type_of% @wpAny_newObj_type:=@wpAny_newObj_type
theorem qX:type_of% @List.getElem_mem:=@List.getElem_mem
theorem qZ:type_of% @wpS_forRange:=@wpS_forRange
theorem yb:type_of% @Int.lt_trichotomy:=@Int.lt_trichotomy
theorem yg:type_of% @Array.getElem?_eq_none:=@Array.getElem?_eq_none
theorem yl:type_of% @Nat.le_of_lt:=@Nat.le_of_lt
theorem yr:type_of% @Heap.size_push:=@Heap.size_push
theorem yu:type_of% @List.take_length:=@List.take_length
theorem yv:type_of% @Array.perm_iff_toList_perm:=@Array.perm_iff_toList_perm
theorem yy:type_of% @List.drop_eq_getElem_cons:=@List.drop_eq_getElem_cons
theorem yA:type_of% @decide_eq_false:=@decide_eq_false
theorem yC:type_of% @wpAny_field:=@wpAny_field
theorem yH:type_of% @List.mem_of_mem_drop:=@List.mem_of_mem_drop
theorem yI:type_of% @List.mem_iff_getElem:=@List.mem_iff_getElem
theorem yK:type_of% @wpAny_holding:=@wpAny_holding
theorem yN:type_of% @Nat.lt_irrefl:=@Nat.lt_irrefl
theorem yQ:type_of% @wpAny_setState_of:=@wpAny_setState_of
theorem yR:type_of% @wpS_mono:=@wpS_mono
theorem yT:type_of% @Heap.get?_update_other:=@Heap.get?_update_other
theorem yY:type_of% @wpAny_call_entry:=@wpAny_call_entry
theorem y9:type_of% @Nat.lt_trans:=@Nat.lt_trans
theorem ja:type_of% @Heap.get?_update_self:=@Heap.get?_update_self
theorem jb:type_of% @wpAny_seqItems:=@wpAny_seqItems
theorem jh:type_of% @wpS_modify:=@wpS_modify
theorem jl:type_of% @Bool.eq_false_iff:=@Bool.eq_false_iff
theorem jD:type_of% @wpAny_rule:=@wpAny_rule
theorem jK:type_of% @Nat.lt_of_le_of_lt:=@Nat.lt_of_le_of_lt
end
namespace L2
theorem lenIs1 {α:Type}{us:List α}{n:Nat}(h:us.length=n) (e:n=1):∃ a0,us=[a0]:=by
  subst e
  cases us with
  | nil=>simp at h
  | cons a0 us =>
    cases us with
    | nil=>exact ⟨_,rfl⟩
    | cons a b=>simp at h
theorem lenIs2 {α:Type}{us:List α}{n:Nat}(h:us.length=n) (e:n=2):∃ a0 a1,us=[a0,a1]:=by
  subst e
  cases us with
  | nil=>simp at h
  | cons a0 us =>
    cases us with
    | nil=>simp at h
    | cons a1 us =>
      cases us with
      | nil=>exact ⟨_,_,rfl⟩
      | cons a b=>simp at h
theorem lenIs3 {α:Type}{us:List α}{n:Nat}(h:us.length=n) (e:n=3):∃ a0 a1 a2,us=[a0,a1,a2]:=by
  subst e
  cases us with
  | nil=>simp at h
  | cons a0 us =>
    cases us with
    | nil=>simp at h
    | cons a1 us =>
      cases us with
      | nil=>simp at h
      | cons a2 us =>
        cases us with
        | nil=>exact ⟨_,_,_,rfl⟩
        | cons a b=>simp at h
open PySem PySem.Spec PyProof.Rows
abbrev Key:=Sum Int Str
def qi8:Key->Value->Bool
  | .inl k,v=>Value.isInt k v
  | .inr x,v=>Value.isStrOf x v
def keyH (w:World):Key->Int
  | .inl k=>hashInt k
  | .inr x=>hashStr w x
theorem yw:∀ {k:Key}{v:Value},qi8 k v=true->(∃ i t,k=Sum.inl i/\v=Value.int i t)\/(∃ x t,k=Sum.inr x/\v=Value.str x t)
  | .inl i,v,h=>by
    obtain ⟨t,e⟩:=Value.isInt_shape (k:=i) (v:=v) h
    exact .inl ⟨i,t,rfl,e⟩
  | .inr x,v,h=>by
    obtain ⟨t,e⟩:=Value.isStrOf_shape (x:=x) (v:=v) h
    exact .inr ⟨x,t,rfl,e⟩
theorem qi7 (a b:Int):decide ((Sum.inl a:Key)=Sum.inl b)=(a == b):=by
  by_cases e:a=b
  · subst e;simp
  · have h:¬ (Sum.inl a:Key)=Sum.inl b:=fun q=>e (Sum.inl.inj q)
    rw [yA h]
    exact (beq_eq_false_iff_ne.mpr e).symm
theorem qi4 (a b:Str):decide ((Sum.inr a:Key)=Sum.inr b)=decide (a=b):=by
  by_cases e:a=b
  · subst e;simp
  · have h:¬ (Sum.inr a:Key)=Sum.inr b:=fun q=>e (Sum.inr.inj q)
    rw [yA h,yA e]
theorem qi6 (a:Int) (b:Str):decide ((Sum.inl a:Key)=Sum.inr b)=false:=yA (fun q=>nomatch q)
theorem qi5 (a:Str) (b:Int):decide ((Sum.inr a:Key)=Sum.inl b)=false:=yA (fun q=>nomatch q)
def qc8 (prog:Program) (w:World):PySem.KeyKind prog w Key where
  is:=qi8
  hash:=keyH w
  inj:=fun v a b ha hb=>by
    rcases yw ha with ⟨i,t,rfl,rfl⟩ | ⟨x,t,rfl,rfl⟩
    · rcases yw hb with ⟨j,u,rfl,e⟩ | ⟨y,u,rfl,e⟩
      · injection e with e1 _;rw [e1]
      · exact nomatch e
    · rcases yw hb with ⟨j,u,rfl,e⟩ | ⟨y,u,rfl,e⟩
      · exact nomatch e
      · injection e with e1 _;rw [e1]
  byValue:=fun k v h=>by
    rcases yw h with ⟨i,t,rfl,rfl⟩ | ⟨x,t,rfl,rfl⟩ <;> rfl
  pyHash:=fun hv h=>by
    rcases yw hv with ⟨i,t,rfl,rfl⟩ | ⟨x,t,rfl,rfl⟩
    · exact wpAny_pyHash_int h
    · exact wpAny_pyHash_str h
  eqBool:=fun hu hv h=>by
    rcases yw hu with ⟨i,t,rfl,rfl⟩ | ⟨x,t,rfl,rfl⟩
    · rcases yw hv with ⟨j,u,rfl,rfl⟩ | ⟨y,u,rfl,rfl⟩
      · rw [qi7] at h;exact wpAny_eqBool_int h
      · rw [qi6] at h;exact SeqAt.EqAt.int_str i t y u _ _ _ _ h
    · rcases yw hv with ⟨j,u,rfl,rfl⟩ | ⟨y,u,rfl,rfl⟩
      · rw [qi5] at h;exact SeqAt.EqAt.str_int x t j u _ _ _ _ h
      · rw [qi4] at h;exact wpAny_eqBool_str h
  «strs»:=fun k x t v h=>by
    rcases yw h with ⟨i,u,rfl,e⟩ | ⟨y,u,rfl,e⟩
    · exact nomatch e
    · injection e with e1 _
      subst e1
      cases v <;> rfl
inductive V where
  | non | bl (b:Bool) | int (i:Int) | str (x:Str) | byt (b:Array UInt8) | flt (b:UInt64) | ref (a:Addr) | ty (n:String)
  deriving DecidableEq
def jg:V->Value->Prop
  | .non,u=>u=Value.none
  | .bl b,u=>u=Value.bool b
  | .int i,u=>∃ t,u=Value.int i t
  | .str x,u=>∃ t,u=Value.str x t
  | .byt b,u=>∃ t,u=Value.bytes b t
  | .flt b,u=>∃ t,u=Value.float b t
  | .ref a,u=>u=Value.ref a
  | .ty n,u=>u=Value.type n
abbrev yo:List V->List Value->Prop:=Paired jg
theorem yo.length {xs:List V}{us:List Value}(r:yo xs us):xs.length=us.length:=Paired.length r
theorem yo.get:∀ {xs:List V}{us:List Value}{i:Nat}{x:V},yo xs us->xs[i]?=some x->∃ u,us[i]?=some u/\jg x u
  | _,_,_,_,.nil,e=>by simp at e
  | _,_,0,_,.cons r _,e=>by simp at e;subst e;exact ⟨_,rfl,r⟩
  | _,_,i+1,x,.cons _ t,e=>by
    obtain ⟨u,h1,h2⟩:=yo.get (i:=i) (x:=x) t (by simpa using e)
    exact ⟨u,by simpa using h1,h2⟩
theorem yo.set {x:V}{u:Value}(r:jg x u):∀ {xs:List V}{us:List Value}(i:Nat),yo xs us->yo (xs.set i x) (us.set i u)
  | _,_,_,.nil=>.nil
  | _,_,0,.cons _ t=>.cons r t
  | _,_,i+1,.cons q t=>.cons q (yo.set r i t)
theorem yo.append:∀ {xs ys:List V}{us ws:List Value},yo xs us->yo ys ws->yo (xs++ys) (us++ws)
  | _,_,_,_,.nil,s=>s
  | _,_,_,_,.cons r t,s=>.cons r (yo.append t s)
theorem yo.take:∀ {xs:List V}{us:List Value}(n:Nat),yo xs us->yo (xs.take n) (us.take n)
  | _,_,0,_=>.nil
  | _,_,_+1,.nil=>.nil
  | _,_,n+1,.cons r t=>.cons r (yo.take n t)
theorem yo.drop:∀ {xs:List V}{us:List Value}(n:Nat),yo xs us->yo (xs.drop n) (us.drop n)
  | _,_,0,r=>r
  | _,_,_+1,.nil=>.nil
  | _,_,n+1,.cons _ t=>yo.drop n t
def RelO:Option V->Option Value->Prop
  | some v,some u=>jg v u
  | none,none=>True
  | _,_=>False
def KV {κ:Type}:List (κ×V)->List (κ×Value)->Prop:=Paired fun (p:κ×V) (q:κ×Value)=>p.1=q.1/\jg p.2 q.2
def kV:Key->V
  | .inl i=>.int i
  | .inr x=>.str x
inductive HO where
    | lst (xs:List V)
    | tup (xs:List V)
    | dK (kvs:List (Key×V)) | dT (kvs:List (List Key×V))
    | set (S:Int->Bool) (n:Nat)
    | ins (C dx:Addr) (fs:List (Str×V))
    | own (x:Addr)
    | xd (fs:List (Str×V))
    | met (f x:Addr)
    | rng (lo hi:Int)
    | frz (o:Obj) (u:HO)
    | tbl (ps:Array Value)
    | ext (φ:Heap->Prop)
abbrev Hp:=Addr->Option HO
def upd (H:Hp) (a:Addr) (o:HO):Hp:=fun b=>if b=a then some o else H b
theorem qV {H:Hp}{a:Addr}{o:HO}:upd H a o a=some o:=by unfold upd;rw [if_pos rfl]
theorem qP {H:Hp}{a b:Addr}{o:HO}(h:b≠a):upd H a o b=H b:=by unfold upd;rw [if_neg h]
theorem qiZ {H:Hp}{a b:Addr}{o u:HO}(h:H a=some o) (h':H b=some u) (d:o≠u):a≠b:=by
  intro e;subst e;rw [h] at h';exact d (Option.some.inj h')
theorem qM {H:Hp}{a b:Addr}{o:HO}(h:H a=some o) (h':H b=none):a≠b:=by
  intro e;subst e;rw [h] at h';cases h'
section
variable (P:Program) (w:World)
def jC (H:Hp) (h:Heap) (a:Addr):HO->Prop
  | .lst xs=>xs.length<=sizeLine/\∃ (its:List Value) (n:Nat),yo xs its/\h.get? a=some { cls:=.type "list",data:=.seq its.toArray n }
  | .tup xs=>xs.length<=sizeLine/\∃ its:List Value,yo xs its/\IsTup h a its.toArray
  | .dK kvs=>kvs.length<=sizeLine/\(a == sysModules)=false/\∃ vs,KV kvs vs/\h.DictOf (qc8 P w) a vs
  | .dT kvs=>kvs.length<=sizeLine/\(a == sysModules)=false/\∃ xs:List (List Key×Addr×Value),
      Paired (fun (p:List Key×V) (q:List Key×Addr×Value)=>p.1=q.1/\H q.2.1=some (.tup (p.1.map kV))/\jg p.2 q.2.2) kvs xs ∧
      ∃ o es ep,h.get? a=some o/\o.ExactDict/\o.data = .dict es ep/\es.toList=xs.map (entryOfKey (tupleKind (qc8 P w)))/\(xs.map (·.1)).Nodup
  | .set S n=>h.SetOf (intKind P w) a S n
  | .ins C dx fs=>H dx=some (.own a)/\fs.length<=1000/\dx≠a/\h.get? a=some (W.instObj C dx) ∧
      ∃ mA,h.Ns1 dx mA/\(∀ f,RelO (fs.lookup f) (mA f))/\PySem.Within mA (fs.map (·.1))
  | .own _=>∃ o,h.get? a=some o
  | .xd fs=>∃ mA,h.Ns1 a mA/\∀ f,RelO (fs.lookup f) (mA f)
  | .rng lo hi=>∃ t u v,h.get? a=some { cls:=.type "range",data:=.fields #[.int lo t,.int hi u,.int 1 v] }
  | .frz o u=>h.get? a=some o/\jC H h a u
  | .tbl ps=>h.get? a=some { cls:=.none,data:=.fields ps }
  | .met f x=>h.get? a=some (W.methodObj (.ref f) (.ref x))
  | .ext φ=>φ h/\(∃ o,h.get? a=some o)/\∀ h1 h2:Heap,φ h1->(∀ o,h1.get? a=some o->h2.get? a=some o)->φ h2
def HOk (H:Hp) (h:Heap):Prop:=∀ a o,H a=some o->jC P w H h a o
end
section
variable {P:Program}{w:World}{H H':Hp}{h h':Heap}{a:Addr}{o:HO}
theorem jC.lt (x:jC P w H h a o):a<h.objs.size:=by
  cases o with
  | lst xs=>obtain ⟨_,_,_,_,e⟩:=x;exact qh e
  | tup xs=>obtain ⟨_,_,_,p⟩:=x;exact p.lt
  | dK kvs=>obtain ⟨_,_,_,_,o,_,_,e,_⟩:=x;exact qh e
  | dT kvs=>obtain ⟨_,_,_,_,o,_,_,e,_⟩:=x;exact qh e
  | set S n=>obtain ⟨o,_,_,_,e,_⟩:=x;exact qh e
  | ins C dx fs=>obtain ⟨_,_,_,e,_⟩:=x;exact qh e
  | own y=>obtain ⟨_,e⟩:=x;exact qh e
  | xd fs=>obtain ⟨_,⟨_,_,_,e,_⟩,_⟩:=x;exact qh e
  | rng lo hi=>obtain ⟨_,_,_,e⟩:=x;exact qh e
  | frz ob u=>obtain ⟨e,_⟩:=x;exact qh e
  | tbl ps=>exact qh (show h.get? a=some _ from x)
  | met f y=>exact qh (show h.get? a=some _ from x)
  | ext φ=>obtain ⟨_,⟨_,e⟩,_⟩:=x;exact qh e
theorem Paired.mapP {α β:Type}{F G:α->β->Prop}:∀ {l₁:List α}{l₂:List β},Paired F l₁ l₂->(∀ a b,F a b->G a b)->Paired G l₁ l₂
  | _,_,.nil,_=>.nil
  | _,_,.cons r t,f=>.cons (f _ _ r) (Paired.mapP t f)
theorem Paired.imp' {α β:Type}{F G:α->β->Prop}(f:∀ a b,F a b->G a b) {l₁:List α}{l₂:List β}(r:Paired F l₁ l₂):Paired G l₁ l₂:=Paired.mapP r f
theorem jC.stay (x:jC P w H h a o) (k:∀ b u,(b=a\/H b=some (.own a))->h.get? b=some u->h'.get? b=some u)
    (ho:∀ b,H b=some (.own a)->H' b=some (.own a)) (ht:∀ b xs,H b=some (.tup xs)->H' b=some (.tup xs)):jC P w H' h' a o:=by
  induction o with
  | lst xs=>obtain ⟨z,its,n,r,e⟩:=x;exact ⟨z,its,n,r,k _ _ (.inl rfl) e⟩
  | tup xs=>obtain ⟨z,its,r,ob,e,c⟩:=x;exact ⟨z,its,r,ob,k _ _ (.inl rfl) e,c⟩
  | dK kvs=>obtain ⟨z,y,vs,r,ob,es,ep,e,c⟩:=x;exact ⟨z,y,vs,r,ob,es,ep,k _ _ (.inl rfl) e,c⟩
  | dT kvs =>
    obtain ⟨z,y,xs,r,ob,es,ep,e,c⟩:=x
    exact ⟨z,y,xs,Paired.mapP r fun p q z=>⟨z.1,ht _ _ z.2.1,z.2.2⟩,ob,es,ep,k _ _ (.inl rfl) e,c⟩
  | set S n=>obtain ⟨ob,es,ep,t,e,c⟩:=x;exact ⟨ob,es,ep,t,k _ _ (.inl rfl) e,c⟩
  | ins C dx fs =>
    obtain ⟨d,z,ne,e,mA,⟨od,es,ep,e2,c⟩,r⟩:=x
    exact ⟨ho _ d,z,ne,k _ _ (.inl rfl) e,mA,⟨od,es,ep,k _ _ (.inr d) e2,c⟩,r⟩
  | own y=>obtain ⟨ob,e⟩:=x;exact ⟨ob,k _ _ (.inl rfl) e⟩
  | xd fs=>obtain ⟨mA,⟨od,es,ep,e,c⟩,r⟩:=x;exact ⟨mA,⟨od,es,ep,k _ _ (.inl rfl) e,c⟩,r⟩
  | rng lo hi=>obtain ⟨t,u,v,e⟩:=x;exact ⟨t,u,v,k _ _ (.inl rfl) e⟩
  | frz ob u ih=>obtain ⟨e,q⟩:=x;exact ⟨k _ _ (.inl rfl) e,ih q⟩
  | tbl ps =>
    have e:h.get? a=some { cls:=.none,data:=.fields ps }:=x
    show h'.get? a=some { cls:=.none,data:=.fields ps }
    exact k a _ (.inl rfl) e
  | met f y =>
    have e:h.get? a=some (W.methodObj (.ref f) (.ref y)):=x
    show h'.get? a=some (W.methodObj (.ref f) (.ref y))
    exact k a _ (.inl rfl) e
  | ext φ=>obtain ⟨p,⟨o,e⟩,st⟩:=x;exact ⟨st _ _ p fun o q=>k _ _ (.inl rfl) q,⟨o,k _ _ (.inl rfl) e⟩,st⟩
theorem HOk.lt (x:HOk P w H h) (e:H a=some o):a<h.objs.size:=(x a o e).lt
theorem HOk.fresh (x:HOk P w H h) (e:h.objs.size<=a):H a=none:=by
  cases q:H a with
  | none=>rfl
  | some u=>exact absurd (qy (x.lt q) e) (yN _)
theorem HOk.kept (x:HOk P w H h) (k:∀ b u,h.get? b=some u->h'.get? b=some u):HOk P w H h':=fun a o e =>
  (x a o e).stay (fun b u _ q=>k b u q) (fun _ q=>q) fun _ _ q=>q
theorem HOk.laid (x:HOk P w H h) (k:∀ b u,h.get? b=some u->h'.get? b=some u) (hp:h.objs.size<=a) (new:jC P w (upd H a o) h' a o):HOk P w (upd H a o) h':=fun b u e=>by
  have hn:=x.fresh hp
  by_cases hb:b=a
  · subst hb;rw [qV] at e;cases e;exact new
  · rw [qP hb] at e
    exact (x b u e).stay (fun c v _ q=>k c v q) (fun c q=>by rw [qP (qM q hn)];exact q) fun c xs q=>by rw [qP (qM q hn)];exact q
end
def Rd (H:Hp) (a:Addr) (u:HO):Prop:=H a=some u\/∃ o,H a=some (.frz o u)
theorem Rd.of {H:Hp}{a:Addr}{u:HO}(h:H a=some u):Rd H a u:=.inl h
theorem Rd.ok {P:Program}{w:World}{H:Hp}{h:Heap}{a:Addr}{u:HO}(r:Rd H a u) (x:HOk P w H h):jC P w H h a u:=by
  rcases r with r | ⟨o,r⟩
  · exact x a u r
  · obtain ⟨_,q⟩:=x a _ r
    exact q
def Mut:Option HO->Prop
  | some (.lst _)=>True
  | some (.dK _)=>True
  | some (.dT _)=>True
  | some (.set _ _)=>True
  | some (.ins _ _ _)=>True
  | some (.ext _)=>True
  | _=>False
section
variable {P:Program}{w:World}{H:Hp}{h h':Heap}{x e:Addr}{o':HO}
theorem HOk.write (ok:HOk P w H h) (mu:Mut (H x)) (he:e=x\/H e=some (.own x)) (k:∀ b u,b≠e->h.get? b=some u->h'.get? b=some u) (heo:∃ u,h'.get? e=some u)
    (new:jC P w (upd H x o') h' x o'):HOk P w (upd H x o') h':=fun b u q=>by
  have nown:∀ c y,H c=some (.own y)->c≠x:=fun c y r z=>by subst z;rw [r] at mu;exact mu
  have ntup:∀ c xs,H c=some (.tup xs)->c≠x:=fun c xs r z=>by subst z;rw [r] at mu;exact mu
  by_cases hb:b=x
  · subst hb;rw [qV] at q;cases q;exact new
  · rw [qP hb] at q
    by_cases hbe:b=e
    · have q':H b=some (.own x):=by
        rcases he with z | z
        · exact absurd (hbe.trans z) hb
        · rw [hbe];exact z
      rw [q] at q';cases q'
      obtain ⟨v,hv⟩:=heo
      exact ⟨v,by rw [hbe];exact hv⟩
    · refine (ok b u q).stay (fun c v hc r=>k c v ?_ r) (fun c r=>by rw [qP (nown c b r)];exact r) fun c xs r=>by rw [qP (ntup c xs r)];exact r
      rcases hc with rfl | hc
      · exact hbe
      · rintro rfl
        rcases he with z | z
        · exact nown c b hc z
        · rw [hc] at z;cases z;exact hb rfl
end
structure Un (fs ex:List Addr) (H H':Hp) (h h':Heap):Prop where
  keep:∀ b o,h.get? b=some o->H b=none->b∉fs->b∉ex->h'.get? b=some o
  slot:∀ b o,h.get? b=some o->H b=none->b∈fs->b∉ex->∃ sl,h'.get? b=some { o with slots:=sl }
  free:∀ b o,h.get? b=some o->H b=none->b∉ex->H' b=none
  there:∀ b o,h.get? b=some o->b∉ex->∃ o',h'.get? b=some o'
  tups:∀ b xs,H b=some (.tup xs)->H' b=some (.tup xs)
  frzs:∀ b o u,H b=some (.frz o u)->H' b=some (.frz o u)
  tbls:∀ b ps,H b=some (.tbl ps)->∃ more,H' b=some (.tbl (ps++more))
section
variable {fs fs' ex ex':List Addr}{H H1 H2:Hp}{h h1 h2 h':Heap}{a x e:Addr}{o:HO}
theorem Un.any (u:Un fs ex H H1 h h1) {b:Addr}{ob:Obj}(q:h.get? b=some ob) (n:H b=none) (hx:b∉ex):∃ sl,h1.get? b=some { ob with slots:=sl }:=by
  by_cases hb:b∈fs
  · exact u.slot b ob q n hb hx
  · exact ⟨ob.slots,u.keep b ob q n hb hx⟩
theorem Un.trans (a:Un fs ex H H1 h h1) (b:Un fs ex H1 H2 h1 h2):Un fs ex H H2 h h2 where
  keep:=fun c ob q n hc hx=>b.keep c ob (a.keep c ob q n hc hx) (a.free c ob q n hx) hc hx
  slot:=fun c ob q n hc hx=>by
    obtain ⟨sl,e1⟩:=a.slot c ob q n hc hx
    obtain ⟨sl',e2⟩:=b.slot c _ e1 (a.free c ob q n hx) hc hx
    exact ⟨sl',e2⟩
  free:=fun c ob q n hx=>by
    obtain ⟨o',e1⟩:=a.there c ob q hx
    exact b.free c o' e1 (a.free c ob q n hx) hx
  there:=fun c ob q hx=>by
    obtain ⟨o',e1⟩:=a.there c ob q hx
    exact b.there c o' e1 hx
  tups:=fun c xs q=>b.tups c xs (a.tups c xs q)
  frzs:=fun c ob xs q=>b.frzs c ob xs (a.frzs c ob xs q)
  tbls:=fun c ps q=>by
    obtain ⟨m1,e1⟩:=a.tbls c ps q
    obtain ⟨m2,e2⟩:=b.tbls c _ e1
    exact ⟨m1++m2,by rw [e2,Array.append_assoc]⟩
theorem Un.kept (k:∀ b u,h.get? b=some u->h'.get? b=some u):Un fs ex H H h h' :=
  ⟨fun b ob q _ _ _=>k b ob q,fun b ob q _ _ _=>⟨ob.slots,k b ob q⟩,fun _ _ _ n _=>n,fun b ob q _=>⟨ob,k b ob q⟩,fun _ _ q=>q,fun _ _ _ q=>q,fun _ ps q=>⟨#[],by rw [q];simp⟩⟩
theorem Un.refl:Un fs ex H H h h:=Un.kept fun _ _ q=>q
theorem Un.laid (k:∀ b u,h.get? b=some u->h'.get? b=some u) (hp:h.objs.size<=a) (hn:H a=none):Un fs ex H (upd H a o) h h' where
  keep:=fun b u q _ _ _=>k b u q
  slot:=fun b u q _ _ _=>⟨u.slots,k b u q⟩
  free:=fun b u q n _=>by rw [qP (qk (qy (qh q) hp))];exact n
  there:=fun b u q _=>⟨u,k b u q⟩
  tups:=fun b xs q=>by rw [qP (qM q hn)];exact q
  frzs:=fun b u xs q=>by rw [qP (qM q hn)];exact q
  tbls:=fun b ps q=>⟨#[],by rw [qP (qM q hn),q];simp⟩
theorem Un.write (mu:Mut (H x)) (he:e=x\/H e=some (.own x)) (k:∀ b u,b≠e->h.get? b=some u->h'.get? b=some u) (heo:∃ u,h'.get? e=some u):Un fs ex H (upd H x o) h h':=by
  have hx:∀ b,H b=none->b≠x:=fun b n z=>by subst z;rw [n] at mu;exact mu
  have hb:∀ b,H b=none->b≠e:=fun b n z=>by
    subst z
    rcases he with r | r
    · exact hx b n r
    · rw [n] at r;cases r
  have hm:∀ b u,H b=some u->¬ Mut (some u)->b≠x:=fun b u q nm z=>by subst z;rw [q] at mu;exact nm mu
  refine ⟨fun b u q n _ _=>k b u (hb b n) q,fun b u q n _ _=>⟨u.slots,k b u (hb b n) q⟩,fun b u q n _=>by rw [qP (hx b n)];exact n,fun b u q _=>?_,
    fun b xs q=>by rw [qP (hm b _ q fun z=>z)];exact q,fun b u xs q=>by rw [qP (hm b _ q fun z=>z)];exact q,fun b ps q=>⟨#[],by rw [qP (hm b _ q fun z=>z),q];simp⟩⟩
  by_cases hbe:b=e
  · subst hbe;exact heo
  · exact ⟨u,k b u hbe q⟩
theorem Un.mono (u:Un fs ex H H1 h h1) (hs:∀ b∈fs,b∈fs') (hx:∀ b∈ex,b∈ex'):Un fs' ex' H H1 h h1 :=
  ⟨fun b ob q n hb he=>u.keep b ob q n (fun z=>hb (hs b z)) fun z=>he (hx b z),fun _ _ q n _ he=>u.any q n fun z=>he (hx _ z),fun b ob q n he=>u.free b ob q n fun z=>he (hx b z),fun b ob q he=>u.there b ob q fun z=>he (hx b z),u.tups,u.frzs,u.tbls⟩
end
def trk (h:Heap) (H:Hp):List Addr:=(List.range h.objs.size).filter fun a=>(H a).isSome
def qeV (h:Heap) (H:Hp):Heap:=W.hideAll h (trk h H)
theorem qdu (h:Heap) (H:Hp):(qeV h H).objs.size=h.objs.size:=W.hideAll_size _ _
theorem qeU {h:Heap}{H:Hp}{b:Addr}{o:Obj}(e:h.get? b=some o) (n:H b=none):(qeV h H).get? b=some o :=
  W.hideAll_get _ e fun hm=>by
    have q:(H b).isSome=true:=(List.mem_filter.mp hm).2
    rw [n] at q;simp at q
theorem qgT {h:Heap}{H:Hp}{b:Addr}{o:Obj}(e:(qeV h H).get? b=some o):h.get? b=some o/\H b=none:=by
  have e':h.get? b=some o:=W.of_hideAll (trk h H) e
  refine ⟨e',?_⟩
  cases q:H b with
  | none=>rfl
  | some x =>
    have hm:b∈trk h H:=List.mem_filter.mpr ⟨List.mem_range.mpr (qh e'),by simp [q]⟩
    have z:(qeV h H).get? b=none:=W.hideAll_none (trk h H) hm
    rw [z] at e;cases e
def qhD (g h:Heap) (L:Addr):List (Addr×Obj):=(List.range h.objs.size).filterMap fun a=>if a=L\/(g.get? a).isSome=true then none else (h.get? a).map fun o=>(a,o)
def yE (g h:Heap) (L d:Addr):List (Addr×Obj):=(qhD g h L).filter fun p=>decide (p.1≠d)
structure Mod (K:W.Frag) (mg:Str->Option Value) (base:Heap):Prop where
  kin:K.In base
  glob:base.Ns mainGlobals mg
  blt:∃ mb,base.Ns builtinsNs mb/\∀ x:Str,x ≠ "__name__" -> mb x=bootBuiltins x
  nolimit:base.NoLimit
structure Cx where
  prog:Program
  w:World
  K:W.Frag
  mg:Str->Option Value
  base:Heap
  A:Around
  N:List Str
  s₀:Shared
  H₀:Hp
  env:Env
  outer:List Env
  stack:List Env
  ex:List Addr
  fn:Str->Bool
  calm:Bool
  pn:List (Addr×Obj)
  xe:Value->Shared->Prop
def frs (l:List Env):List Addr:=l.filterMap (·.frame)
abbrev Cx.fs (X:Cx):List Addr:=frs X.outer
def Vis (sc:Scope) (x:Str):Prop:=sc.names.lookup x=some .local\/sc.names.lookup x=some .cell\/sc.names.lookup x=some .free
def Loc (sc:Scope) (x:Str):Prop:=sc.names.lookup x=some .local\/sc.names.lookup x=some .cell
def Look (env:Env) (h:Heap) (m:Str->Option Value) (x:Str) (u:Value):Prop :=
  (env.kindOf x=some .local/\m x=some u)\/((env.kindOf x=some .cell\/env.kindOf x=some .free)/\∃ c,env.cells.lookup x=some c/\h.IsCell c (some u))
structure Cx.Ok (X:Cx):Prop where
  mod:Mod X.K X.mg X.base
  kind:X.env.scope.kind = .function
  glob:X.env.globals=mainGlobals
  blt:X.env.builtins=builtinsNs
  above:X.s₀.heap.objs.size<=X.env.locals
  inj:∀ x y c,X.env.cells.lookup x=some c->X.env.cells.lookup y=some c->x=y
  has:∀ x,(X.env.kindOf x=some .cell\/X.env.kindOf x=some .free)->∃ c,X.env.cells.lookup x=some c
  cab:∀ x c,X.fn x=true->X.env.cells.lookup x=some c->X.s₀.heap.objs.size<=c
  hd:X.calm=true->X.A.handled=none
  frames:X.A.frames=some X.stack
  stk:X.stack=X.outer\/(X.stack=X.env::X.outer/\X.env.frame=some X.env.locals)
  exf:∀ b∈X.ex,b≠X.env.locals/\∀ x c,X.env.cells.lookup x=some c->c≠b
  bs:∀ b o,X.base.get? b=some o->X.s₀.heap.get? b=some o/\X.H₀ b=none
  bsz:X.base.objs.size<=X.s₀.heap.objs.size
  noex:∀ b o,X.base.get? b=some o->b∉X.ex
  exfs:∀ b∈X.ex,b∉X.fs
  funs:X.s₀.heap.FunFrames X.base X.outer
  frf:∀ b∈X.fs,X.H₀ b=none
structure Inv (X:Cx) (pins:List (Addr×Obj)) (σ:List (Option V)) (H:Hp) (s:Shared):Prop where
  ok:X.Ok
  os:s.os=X.s₀.os
  bare:AllBare s.gens
  base:Un X.fs X.ex X.H₀ H X.s₀.heap s.heap
  loc:∃ m,s.heap.Ns X.env.locals m/\∀ (i:Nat) (x:Str) (v:V),X.N[i]?=some x->σ[i]?=some (some v)->Vis X.env.scope x->∃ u,jg v u/\Look X.env s.heap m x u
  cell:∀ x c,X.env.cells.lookup x=some c->∃ v,s.heap.IsCell c v
  free:H X.env.locals=none
  freeC:∀ x c,X.env.cells.lookup x=some c->H c=none
  pin:∀ p∈X.pn++pins,s.heap.get? p.1=some p.2/\H p.1=none/\p.1≠X.env.locals/\p.1∉X.fs/\∀ v,p.2.data≠.cell v
  hok:HOk X.prog X.w H s.heap
  len:σ.length=X.N.length
section
variable {X:Cx}{pins:List (Addr×Obj)}{σ:List (Option V)}{H H':Hp}{s:Shared}{h':Heap}
theorem Cx.Ok.nofr (ok:X.Ok) {b:Addr}{o:Obj}(e:X.base.get? b=some o):b∉X.fs:=fun hb=>by
  have:=(ok.funs.mem hb).1
  rw [e] at this;cases this
theorem Inv.bs (I:Inv X pins σ H s):∀ b o,X.base.get? b=some o->s.heap.get? b=some o/\H b=none:=fun b o e =>
  ⟨I.base.keep b o (I.ok.bs b o e).1 (I.ok.bs b o e).2 (I.ok.nofr e) (I.ok.noex b o e),I.base.free b o (I.ok.bs b o e).1 (I.ok.bs b o e).2 (I.ok.noex b o e)⟩
theorem Inv.bk (I:Inv X pins σ H s):∀ b o,X.base.get? b=some o->s.heap.get? b=some o:=fun b o e=>(I.bs b o e).1
theorem Inv.mod (I:Inv X pins σ H s):Mod X.K X.mg X.base:=I.ok.mod
theorem Inv.kIn (I:Inv X pins σ H s):X.K.In s.heap:=I.ok.mod.kin.keeps I.bk
theorem Inv.nolimit (I:Inv X pins σ H s):s.heap.NoLimit:=I.ok.mod.nolimit.keeps I.bk
theorem Inv.fr (I:Inv X pins σ H s):∃ m,Fr X.base X.env.locals s.heap m :=
  let ⟨m,hn,_⟩:=I.loc
  ⟨m,hn,I.bk,qJ I.ok.bsz I.ok.above⟩
theorem Inv.lt (I:Inv X pins σ H s):X.env.locals<s.heap.objs.size:=let ⟨_,hn,_⟩:=I.loc;hn.lt
theorem Inv.sz (I:Inv X pins σ H s):X.s₀.heap.objs.size<=s.heap.objs.size:=qJ I.ok.above (yl I.lt)
theorem Inv.nofs (I:Inv X pins σ H s) {a:Addr}(h:s.heap.objs.size<=a):a∉X.fs:=fun hb=>by
  obtain ⟨_,o,ho,_⟩:=I.ok.funs.mem hb
  exact absurd (qy (qh ho) (qJ I.sz h)) (yN _)
theorem Inv.cne (I:Inv X pins σ H s):∀ x c,X.env.cells.lookup x=some c->c≠X.env.locals:=fun x c e z=>by
  obtain ⟨v,o,ho,hd⟩:=I.cell x c e
  obtain ⟨m,⟨o',es,ep,ho',hd',_⟩,_⟩:=I.loc
  rw [z,ho'] at ho;cases ho;rw [hd'] at hd;cases hd
theorem Inv.funs (I:Inv X pins σ H s):s.heap.FunFrames X.base X.outer:=by
  have all:∀ (l:List Env),(∀ b∈frs l,b∈X.fs)->X.s₀.heap.FunFrames X.base l->s.heap.FunFrames X.base l:=by
    intro l
    induction l with
    | nil=>intro _ _;trivial
    | cons env r ih =>
      intro hs hl
      obtain ⟨hk,⟨L,o,hf,hn,ho,hd⟩,hr⟩:=hl
      have hL:L∈X.fs:=hs L (by unfold frs;rw [List.filterMap_cons,hf];exact qg)
      obtain ⟨sl,e⟩:=I.base.slot L o ho (I.ok.frf L hL) hL fun z=>I.ok.exfs L z hL
      exact ⟨hk,⟨L,_,hf,hn,e,hd⟩,ih (fun b hb=>hs b (by unfold frs;rw [List.filterMap_cons,hf];exact qe _ hb)) hr⟩
  exact all X.outer (fun _ hb=>hb) I.ok.funs
theorem Inv.stack (I:Inv X pins σ H s):s.heap.FunFrames X.base X.stack:=by
  rcases I.ok.stk with e | ⟨e,hf⟩
  · rw [e];exact I.funs
  · rw [e]
    obtain ⟨m,hn,_⟩:=I.loc
    refine .cons (by rw [I.ok.kind];decide) hf hn ?_ I.funs
    exact Heap.get?_none_of_le (qJ I.ok.bsz I.ok.above)
theorem Inv.stkSub (I:Inv X pins σ H s):∀ b∈frs X.stack,b∈X.env.locals::X.fs:=fun b hb=>by
  rcases I.ok.stk with e | ⟨e,hf⟩
  · rw [e] at hb;exact qe _ hb
  · rw [e] at hb
    unfold frs at hb
    rw [List.filterMap_cons,hf] at hb
    exact hb
theorem Inv.stkFree (I:Inv X pins σ H s):∀ b∈frs X.stack,H b=none:=fun b hb=>by
  rcases List.mem_cons.mp (I.stkSub b hb) with e | hb
  · rw [e];exact I.free
  · obtain ⟨_,o,ho,_⟩:=I.ok.funs.mem hb
    exact I.base.free b o ho (I.ok.frf b hb) fun z=>I.ok.exfs b z hb
theorem Inv.step {g':Array GenState}{t':Nat}{d':Drawn}{ch:List Addr}(I:Inv X pins σ H s)
    (hch:∀ b∈ch,(b∈X.ex\/X.s₀.heap.objs.size<=b)/\b≠X.env.locals/\(∀ x c,X.env.cells.lookup x=some c->c≠b)/\∀ p∈X.pn++pins,p.1≠b)
    (keep:∀ b o,b≠X.env.locals->b∉X.fs->b∉ch->s.heap.get? b=some o->H b=none->h'.get? b=some o)
    (slot:∀ b o,b≠X.env.locals->b∈X.fs->b∉ch->s.heap.get? b=some o->H b=none->∃ sl,h'.get? b=some { o with slots:=sl }) (free:∀ b o,b∉ch->s.heap.get? b=some o->H b=none->H' b=none)
    (there:∀ b o,b∉ch->s.heap.get? b=some o->∃ o',h'.get? b=some o')
    (tups:∀ b xs,H b=some (.tup xs)->H' b=some (.tup xs)) (frzs:∀ b o u,H b=some (.frz o u)->H' b=some (.frz o u)) (tbls:∀ b ps,H b=some (.tbl ps)->∃ more,H' b=some (.tbl (ps++more)))
    (ns:∀ m,s.heap.Ns X.env.locals m->h'.Ns X.env.locals m) (hok:HOk X.prog X.w H' h') (hg:AllBare g') :
    Inv X pins σ H' { s with heap:=h',gens:=g',drawn:=d',toks:=t' }:=by
  have neL:∀ b o,X.s₀.heap.get? b=some o->b≠X.env.locals:=fun b o e=>qk (qy (qh e) I.ok.above)
  have neC:∀ b o,X.s₀.heap.get? b=some o->b∉X.ex->b∉ch:=fun b o e hx hb=>by
    rcases (hch b hb).1 with z | z
    · exact hx z
    · exact absurd (qy (qh e) z) (yN _)
  have cellK:∀ x c,X.env.cells.lookup x=some c->∀ v,s.heap.IsCell c v->h'.IsCell c v:=fun x c e v ⟨o,ho,hd⟩=>by
    have nch:c∉ch:=fun z=>(hch c z).2.2.1 x c e rfl
    by_cases hc:c∈X.fs
    · obtain ⟨sl,q⟩:=slot c o (I.cne x c e) hc nch ho (I.freeC x c e)
      exact ⟨_,q,hd⟩
    · exact ⟨o,keep c o (I.cne x c e) hc nch ho (I.freeC x c e),hd⟩
  refine ⟨I.ok,I.os,hg,⟨fun b o e n hb hx=>?_,fun b o e n hb hx=>?_,fun b o e n hx=>?_,fun b o e hx=>?_,fun b xs e=>tups b xs (I.base.tups b xs e),fun b o xs e=>frzs b o xs (I.base.frzs b o xs e),fun b ps e=>?_⟩,?_,fun x c e=>?_,?_,fun x c e=>?_,fun p hp=>?_,hok,I.len⟩
  · exact keep b o (neL b o e) hb (neC b o e hx) (I.base.keep b o e n hb hx) (I.base.free b o e n hx)
  · obtain ⟨sl,e1⟩:=I.base.slot b o e n hb hx
    obtain ⟨sl',e2⟩:=slot b _ (neL b o e) hb (neC b o e hx) e1 (I.base.free b o e n hx)
    exact ⟨sl',e2⟩
  · obtain ⟨o',e1⟩:=I.base.there b o e hx
    exact free b o' (neC b o e hx) e1 (I.base.free b o e n hx)
  · obtain ⟨o',e1⟩:=I.base.there b o e hx
    exact there b o' (neC b o e hx) e1
  · obtain ⟨m1,e1⟩:=I.base.tbls b ps e
    obtain ⟨m2,e2⟩:=tbls b _ e1
    exact ⟨m1++m2,by rw [e2,Array.append_assoc]⟩
  · obtain ⟨m,hn,hl⟩:=I.loc
    refine ⟨m,ns m hn,fun i x v e1 e2 e3=>?_⟩
    obtain ⟨u,r,l⟩:=hl i x v e1 e2 e3
    refine ⟨u,r,?_⟩
    rcases l with l | ⟨k,c,e,z⟩
    · exact .inl l
    · exact .inr ⟨k,c,e,cellK x c e _ z⟩
  · obtain ⟨v,z⟩:=I.cell x c e
    exact ⟨v,cellK x c e v z⟩
  · obtain ⟨m,⟨o,_,_,ho,_⟩,_⟩:=I.loc
    exact free _ o (fun z=>(hch _ z).2.1 rfl) ho I.free
  · obtain ⟨v,o,ho,hd⟩:=I.cell x c e
    exact free c o (fun z=>(hch c z).2.2.1 x c e rfl) ho (I.freeC x c e)
  · obtain ⟨e,n,ne,nf,d⟩:=I.pin p hp
    have nch:p.1∉ch:=fun z=>(hch p.1 z).2.2.2 p hp rfl
    exact ⟨keep p.1 p.2 ne nf nch e n,free p.1 p.2 nch e n,ne,nf,d⟩
theorem Inv.un {t':Nat}(I:Inv X pins σ H s) (u:Un X.fs [] H H' s.heap h') (hok:HOk X.prog X.w H' h'):Inv X pins σ H' { s with heap:=h',toks:=t' }:=by
  obtain ⟨m,⟨o,es,ep,ho,r⟩,_⟩:=id I.loc
  obtain ⟨sl,hL⟩:=u.any ho I.free (by simp)
  exact I.step (g':=s.gens) (d':=s.drawn) (ch:=[]) (fun _ z=>nomatch z) (fun b o _ hb _ e n=>u.keep b o e n hb (by simp)) (fun b o _ hb _ e n=>u.slot b o e n hb (by simp)) (fun b o _ e n=>u.free b o e n (by simp)) (fun b o _ e=>u.there b o e (by simp)) u.tups u.frzs u.tbls (fun m' hm=>by
    obtain ⟨o',es',ep',ho',r'⟩:=hm
    rw [ho] at ho';cases ho'
    exact ⟨_,es',ep',hL,r'⟩) hok I.bare
theorem Inv.call {g':Array GenState}{t':Nat}{d':Drawn}{ch:List Addr}(I:Inv X pins σ H s) (u:Un (frs X.stack) ch H H' s.heap h') (hok:HOk X.prog X.w H' h') (hg:AllBare g')
    (hch:∀ b∈ch,(b∈X.ex\/X.s₀.heap.objs.size<=b)/\b≠X.env.locals/\(∀ x c,X.env.cells.lookup x=some c->c≠b)/\∀ p∈X.pn++pins,p.1≠b) :
    Inv X pins σ H' { s with heap:=h',gens:=g',drawn:=d',toks:=t' }:=by
  obtain ⟨m,⟨o,es,ep,ho,r⟩,_⟩:=id I.loc
  obtain ⟨sl,hL⟩:=u.any ho I.free fun z=>(hch _ z).2.1 rfl
  exact I.step (ch:=ch) hch (fun b o hL hb hc e n=>u.keep b o e n (fun z=>(List.mem_cons.mp (I.stkSub b z)).elim hL hb) hc) (fun b o _ _ hc e n=>u.any e n hc) (fun b o hc e n=>u.free b o e n hc) (fun b o hc e=>u.there b o e hc) u.tups u.frzs u.tbls (fun m' hm=>by
    obtain ⟨o',es',ep',ho',r'⟩:=hm
    rw [ho] at ho';cases ho'
    exact ⟨_,es',ep',hL,r'⟩) hok hg
theorem Inv.turned {t':Nat}{it:Addr}(I:Inv X pins σ H s) (k:∀ b o,b≠it->s.heap.get? b=some o->h'.get? b=some o) (hn:H it=none) (hL:it≠X.env.locals)
    (h1:it∈X.ex\/X.s₀.heap.objs.size<=it) (h2:∀ x c,X.env.cells.lookup x=some c->c≠it) (h3:∀ p∈X.pn++pins,p.1≠it):Inv X pins σ H { s with heap:=h',toks:=t' }:=by
  have nit:∀ b u,H b=some u->b≠it:=fun b u e z=>by rw [z,hn] at e;cases e
  refine I.step (g':=s.gens) (d':=s.drawn) (ch:=[it]) (fun b hb=>?_) (fun b o _ _ hc e _=>k b o (fun z=>hc (by simp [z])) e) (fun b o _ _ hc e _=>⟨o.slots,k b o (fun z=>hc (by simp [z])) e⟩) (fun _ _ _ _ n=>n)
    (fun b o hc e=>⟨o,k b o (fun z=>hc (by simp [z])) e⟩) (fun _ _ e=>e) (fun _ _ _ e=>e) (fun b ps e=>⟨#[],by rw [e];simp⟩) (fun m hm=>?_) (fun b u e=>?_) I.bare
  · have e:b=it:=by simpa using hb
    subst e
    exact ⟨h1,hL,h2,h3⟩
  · obtain ⟨o,es,ep,ho,r⟩:=hm
    exact ⟨o,es,ep,k _ o (Ne.symm hL) ho,r⟩
  · refine (I.hok b u e).stay (fun c v hc q=>k c v ?_ q) (fun _ q=>q) fun _ _ q=>q
    rcases hc with z | z
    · rw [z];exact nit b u e
    · exact nit c _ z
theorem Inv.tok (I:Inv X pins σ H s) (t:Nat):Inv X pins σ H { s with toks:=t }:=I.un (h':=s.heap) (t':=t) Un.refl I.hok
theorem Inv.kept {t':Nat}(I:Inv X pins σ H s) (k:∀ b u,s.heap.get? b=some u->h'.get? b=some u):Inv X pins σ H { s with heap:=h',toks:=t' }:=I.un (Un.kept k) (I.hok.kept k)
theorem Inv.laid {a:Addr}{o:HO}{t':Nat}(I:Inv X pins σ H s) (k:∀ b u,s.heap.get? b=some u->h'.get? b=some u) (hp:s.heap.objs.size<=a) (new:jC X.prog X.w (upd H a o) h' a o) :
    Inv X pins σ (upd H a o) { s with heap:=h',toks:=t' }:=I.un (Un.laid k hp (I.hok.fresh hp)) (I.hok.laid k hp new)
theorem Inv.write {x e:Addr}{o:HO}{t':Nat}(I:Inv X pins σ H s) (mu:Mut (H x)) (he:e=x\/H e=some (.own x)) (k:∀ b u,b≠e->s.heap.get? b=some u->h'.get? b=some u) (heo:∃ u,h'.get? e=some u)
    (new:jC X.prog X.w (upd H x o) h' x o):Inv X pins σ (upd H x o) { s with heap:=h',toks:=t' }:=I.un (Un.write mu he k heo) (I.hok.write mu he k heo new)
theorem Inv.pins_of {pins':List (Addr×Obj)}(I:Inv X pins σ H s) (h:∀ p∈pins',s.heap.get? p.1=some p.2/\H p.1=none/\p.1≠X.env.locals/\p.1∉X.fs/\∀ v,p.2.data≠.cell v):Inv X pins' σ H s :=
  ⟨I.ok,I.os,I.bare,I.base,I.loc,I.cell,I.free,I.freeC,fun p hp=>(List.mem_append.mp hp).elim (fun z=>I.pin p (qC _ z)) (h p),I.hok,I.len⟩
theorem Zc {N:List Str}(hN:N.Nodup) {i j:Nat}{x:Str}(a:N[i]?=some x) (b:N[j]?=some x):i=j:=by
  obtain ⟨h1,e1⟩:=qo.mp a
  obtain ⟨h2,e2⟩:=qo.mp b
  exact (List.getElem_inj hN).mp (e1.trans e2.symm)
theorem ZH {M:Model}{A:Around}{E:Value->Shared->Prop}{i:Nat}{x:Str}{v:V}{u:Value}{Q:Unit->Shared->Prop}(I:Inv X pins σ H s) (hN:X.N.Nodup) (hi:X.N[i]?=some x) (hx:Loc X.env.scope x) (r:jg v u)
    (h:∀ s',Inv X pins (σ.set i (some v)) H s'->(∃ a,Heap.SameBut a s.heap s'.heap/\(a=X.env.locals\/X.env.cells.lookup x=some a))->Q () s') (hf:X.fn x=true\/X.env.scope.names.lookup x=some .local:=by first | exact .inl rfl | exact .inr rfl | assumption):wpAny M A (storeName X.env x u) Q E s:=by
  obtain ⟨m,hn,hl⟩:=id I.loc
  have hcls:(X.env.scope.kind == .class || (X.env.scope.kind == .module && X.env.locals != X.env.globals))=false:=by rw [I.ok.kind];rfl
  have hiσ:i<σ.length:=by rw [I.len];exact (qo.mp hi).1
  have cne:=I.cne
  have tracked:∀ {a:Addr}{h':Heap},(∃ o,s.heap.get? a=some o/\H a=none)->Heap.SameBut a s.heap h'->HOk X.prog X.w H h':=fun {a h'} ha hs b ob e=>by
    obtain ⟨_,_,hfree⟩:=ha
    refine (I.hok b ob e).stay (fun c w' hc q=>(hs.2 c ?_).trans q) (fun _ q=>q) fun _ _ q=>q
    rintro rfl
    rcases hc with rfl | hc
    · rw [hfree] at e;cases e
    · rw [hfree] at hc;cases hc
  rcases hx with hk | hk
  · refine wpAny_storeName_local hk hn (fun h' hn' hs=>?_) hcls
    obtain ⟨oL,_,_,hoL,_⟩:=id hn
    refine h _ ⟨I.ok,I.os,I.bare,⟨fun b o e n hb hx=>?_,fun b o e n hb hx=>?_,I.base.free,fun b o e hx=>?_,I.base.tups,I.base.frzs,I.base.tbls⟩,⟨_,hn',fun j y v' e1 e2 e3=>?_⟩,fun y c e=>?_,I.free,I.freeC,fun p hp=>?_,tracked ⟨oL,hoL,I.free⟩ hs,by simpa using I.len⟩ ⟨_,hs,.inl rfl⟩
    · exact (hs.2 b (qk (qy (qh e) I.ok.above))).trans (I.base.keep b o e n hb hx)
    · obtain ⟨sl,e1⟩:=I.base.slot b o e n hb hx
      exact ⟨sl,(hs.2 b (qk (qy (qh e) I.ok.above))).trans e1⟩
    · obtain ⟨o',e1⟩:=I.base.there b o e hx
      exact ⟨o',(hs.2 b (qk (qy (qh e) I.ok.above))).trans e1⟩
    · by_cases hj:j=i
      · subst hj
        rw [hi] at e1;cases e1
        rw [List.getElem?_set_self hiσ] at e2
        cases e2
        exact ⟨u,r,.inl ⟨hk,by simp⟩⟩
      · rw [List.getElem?_set_ne (Ne.symm hj)] at e2
        obtain ⟨u',r',q⟩:=hl j y v' e1 e2 e3
        refine ⟨u',r',?_⟩
        rcases q with ⟨k,e⟩ | ⟨k,c,e,z⟩
        · refine .inl ⟨k,?_⟩
          have:y≠x:=fun e=>hj (Zc hN e1 (e ▸ hi))
          simp [this,e]
        · exact .inr ⟨k,c,e,z.sameBut hs (cne y c e)⟩
    · obtain ⟨w',z⟩:=I.cell y c e
      exact ⟨w',z.sameBut hs (cne y c e)⟩
    · obtain ⟨e,n,ne,nf,d⟩:=I.pin p hp
      exact ⟨(hs.2 p.1 ne).trans e,n,ne,nf,d⟩
  · have hfn:X.fn x=true:=by
      rcases hf with z | z
      · exact z
      · rw [z] at hk;cases hk
    obtain ⟨c,hc⟩:=I.ok.has x (.inl hk)
    obtain ⟨w',z⟩:=I.cell x c hc
    refine wpAny_storeName_cell I.ok.kind hk hc z (fun h' hc' hs=>?_)
    obtain ⟨oc,hoc,hocd⟩:=id z
    refine h { s with heap:=h' } ⟨I.ok,I.os,I.bare,⟨fun b o e n hb hx=>?_,fun b o e n hb hx=>?_,I.base.free,fun b o e hx=>?_,I.base.tups,I.base.frzs,I.base.tbls⟩,⟨m,hn.sameBut hs (Ne.symm (cne x c hc)),fun j y v' e1 e2 e3=>?_⟩,fun y c' e=>?_,I.free,I.freeC,fun p hp=>?_,tracked ⟨oc,hoc,I.freeC x c hc⟩ hs,by simpa using I.len⟩ ⟨c,hs,.inr hc⟩
    · exact (hs.2 b (qk (qy (qh e) (I.ok.cab x c hfn hc)))).trans (I.base.keep b o e n hb hx)
    · obtain ⟨sl,e1⟩:=I.base.slot b o e n hb hx
      exact ⟨sl,(hs.2 b (qk (qy (qh e) (I.ok.cab x c hfn hc)))).trans e1⟩
    · obtain ⟨o',e1⟩:=I.base.there b o e hx
      exact ⟨o',(hs.2 b (qk (qy (qh e) (I.ok.cab x c hfn hc)))).trans e1⟩
    · by_cases hj:j=i
      · subst hj
        rw [hi] at e1;cases e1
        rw [List.getElem?_set_self hiσ] at e2
        cases e2
        exact ⟨u,r,.inr ⟨.inl hk,c,hc,hc'⟩⟩
      · rw [List.getElem?_set_ne (Ne.symm hj)] at e2
        obtain ⟨u',r',q⟩:=hl j y v' e1 e2 e3
        refine ⟨u',r',?_⟩
        rcases q with q | ⟨k,c',e,z'⟩
        · exact .inl q
        · refine .inr ⟨k,c',e,z'.sameBut hs ?_⟩
          rintro rfl
          exact hj (Zc hN e1 (I.ok.inj _ _ _ e hc ▸ hi))
    · by_cases hcc:c'=c
      · subst hcc;exact ⟨_,hc'⟩
      · obtain ⟨w2,z2⟩:=I.cell y c' e
        exact ⟨w2,z2.sameBut hs hcc⟩
    · obtain ⟨e,n,ne,nf,d⟩:=I.pin p hp
      refine ⟨(hs.2 p.1 ?_).trans e,n,ne,nf,d⟩
      intro q
      rw [q,hoc] at e
      have q':oc=p.2:=Option.some.inj e
      exact d w' (by rw [<- q'];exact hocd)
theorem jL {M:Model}{A:Around}{E:Value->Shared->Prop}{i:Nat}{x:Str}{v:V}{u:Value}{Q:Unit->Shared->Prop}(I:Inv X pins σ H s) (hN:X.N.Nodup) (hi:X.N[i]?=some x) (hx:Loc X.env.scope x) (r:jg v u)
    (h:∀ s',Inv X pins (σ.set i (some v)) H s'->Q () s') (hf:X.fn x=true\/X.env.scope.names.lookup x=some .local:=by first | exact .inl rfl | exact .inr rfl | assumption):wpAny M A (storeName X.env x u) Q E s :=
  ZH I hN hi hx r (fun s' I' _=>h s' I') hf
theorem Inv.call' {s':Shared}{ch:List Addr}(I:Inv X pins σ H s) (ho:s'.os=s.os) (u:Un (frs X.stack) ch H H' s.heap s'.heap) (hok:HOk X.prog X.w H' s'.heap) (hg:AllBare s'.gens)
    (hch:∀ b∈ch,(b∈X.ex\/X.s₀.heap.objs.size<=b)/\b≠X.env.locals/\(∀ x c,X.env.cells.lookup x=some c->c≠b)/\∀ p∈X.pn++pins,p.1≠b):Inv X pins σ H' s':=by
  obtain ⟨h',g',d',t',o'⟩:=s'
  have e:o'=s.os:=ho
  subst e
  exact I.call (g':=g') (t':=t') (d':=d') u hok hg hch
end
abbrev XK:=Value->Option Addr->Hp->Prop
abbrev St:=List (Option V)
abbrev VK:=V->Hp->Prop
abbrev TE:=St->Hp->VK->Prop
abbrev TT:=St->Hp->(Bool->Hp->Prop)->Prop
abbrev TA:=St->Hp->(List V->Hp->Prop)->Prop
structure Ends where
  nx:St->Hp->Prop
  rt:VK
  bk:St->Hp->Prop:=fun _ _=>False
  ct:St->Hp->Prop:=fun _ _=>False
abbrev TS:=Ends->St->Hp->Prop
def EP (X:Cx) (pins:List (Addr×Obj)) (σ:St) (Q:VK) (u:Value) (s':Shared):Prop:=∃ v H',Inv X pins σ H' s'/\jg v u/\Q v H'
def TP (X:Cx) (pins:List (Addr×Obj)) (σ:St) (Q:Bool->Hp->Prop) (b:Bool) (s':Shared):Prop:=∃ H',Inv X pins σ H' s'/\Q b H'
def AP (X:Cx) (pins:List (Addr×Obj)) (σ:St) (Q:List V->Hp->Prop) (us:List Value) (s':Shared):Prop:=∃ vs H',Inv X pins σ H' s'/\yo vs us/\Q vs H'
def SP (X:Cx) (pins:List (Addr×Obj)) (D:Ends) (f:Flow) (s':Shared):Prop :=
  match f with
  | .next=>∃ σ' H',Inv X pins σ' H' s'/\D.nx σ' H'
  | .brk=>∃ σ' H',Inv X pins σ' H' s'/\D.bk σ' H'
  | .cont=>∃ σ' H',Inv X pins σ' H' s'/\D.ct σ' H'
  | .ret u=>∃ v σ' H',Inv X pins σ' H' s'/\jg v u/\D.rt v H'
def PE (X:Cx) (e:Expr) (t:TE):Prop :=
  ∀ (pins:List (Addr×Obj)) (s:Shared) (σ:St) (H:Hp) (Q:VK),Inv X pins σ H s->t σ H Q->wpAny (model X.prog X.w) X.A (eval e X.env) (EP X pins σ Q) X.xe s
def PT (X:Cx) (e:Expr) (t:TT):Prop :=
  ∀ (pins:List (Addr×Obj)) (s:Shared) (σ:St) (H:Hp) (Q:Bool->Hp->Prop),Inv X pins σ H s->t σ H Q->wpAny (model X.prog X.w) X.A (isTrue e X.env (eval e X.env)) (TP X pins σ Q) X.xe s
def PW (X:Cx) (e:Expr) (t:TT):Prop :=
  ∀ (whole:Sem Value) (pins:List (Addr×Obj)) (s:Shared) (σ:St) (H:Hp) (Q:Bool->Hp->Prop),Inv X pins σ H s->t σ H Q->wpAny (model X.prog X.w) X.A (isTrue e X.env whole) (TP X pins σ Q) X.xe s
theorem PW.pt {X:Cx}{e:Expr}{t:TT}(h:PW X e t):PT X e t:=h _
def PA (X:Cx) (es:List Expr) (t:TA):Prop :=
  ∀ (pos:Pos) (pins:List (Addr×Obj)) (s:Shared) (σ:St) (H:Hp) (Q:List V->Hp->Prop),Inv X pins σ H s->t σ H Q->wpAny (model X.prog X.w) X.A (spliced (backTo pos (starEach es X.env))) (AP X pins σ Q) X.xe s
def PS (X:Cx) (st:Stmt) (t:TS):Prop :=
  ∀ (pins:List (Addr×Obj)) (s:Shared) (σ:St) (H:Hp) (D:Ends),Inv X pins σ H s->t D σ H->wpAny (model X.prog X.w) X.A (exec st X.env) (SP X pins D) X.xe s
def PSs (X:Cx) (st:List Stmt) (t:TS):Prop :=
  ∀ (pins:List (Addr×Obj)) (s:Shared) (σ:St) (H:Hp) (D:Ends),Inv X pins σ H s->t D σ H->wpAny (model X.prog X.w) X.A (execs st X.env) (SP X pins D) X.xe s
theorem thn {α:Type}{t:Sem α}{Q Q':α->Shared->Prop}{M:Model}{A:Around}{E:Value->Shared->Prop}{s:Shared}(h:wpAny M A t Q E s) (hQ:∀ a s,Q a s->Q' a s):wpAny M A t Q' E s:=qN h hQ fun _ _ x=>x
section
variable {X:Cx}
def tVar (i:Nat):TE:=fun σ H Q=>∃ v,σ[i]?=some (some v)/\Q v H
def tC (v:V):TE:=fun _ H Q=>Q v H
theorem qfM {i:Nat}{x:Str}{pos:Pos}(hN:X.N[i]?=some x) (hv:Vis X.env.scope x) (hd:(x == ("__debug__" : Str))=false:=by decide) (hcd:(x == ("__classdict__" : Str))=false:=by decide):PE X (.Name x pos) (tVar i):=by
  intro pins s σ H Q I h
  obtain ⟨v,e,h⟩:=h
  obtain ⟨m,hn,hl⟩:=I.loc
  obtain ⟨u,r,l⟩:=hl i x v hN e hv
  have fin:EP X pins σ Q u s:=⟨v,H,I,r,h⟩
  rcases l with ⟨hk,hm⟩ | ⟨hk,c,hc,hcell⟩
  · exact wpAny_Name (wpAny_loadName_local I.ok.kind hk hn hm fin) hd
  · rcases hk with hk | hk
    · exact wpAny_Name (wpAny_loadName_cell I.ok.kind hk hc hcell fin) hd
    · exact wpAny_Name (wpAny_loadName_free I.ok.kind hk hc hcell fin hcd) hd
theorem jo {i j pos}:PE X (.Constant (.int i) j pos) (tC (.int i)):=fun _ _ _ H _ I h=>wpAny_Constant_int ⟨.int i,H,I.tok _,⟨_,rfl⟩,h⟩
theorem pe_bl {b j pos}:PE X (.Constant (.bool b) j pos) (tC (.bl b)):=fun _ _ _ H _ I h=>Constant_bool ⟨.bl b,H,I,rfl,h⟩
theorem qiI {j pos}:PE X (.Constant .none j pos) (tC .non):=fun _ _ _ H _ I h=>Constant_none ⟨.non,H,I,rfl,h⟩
def Gl (X:Cx) (x:Str):Prop:=X.env.kindOf x=some .globalImplicit
theorem qgX {E:Value->Shared->Prop}{pins:List (Addr×Obj)}{s:Shared}{σ:St}{H:Hp}{x:Str}{u:Value}{pos:Pos}{Q:Value->Shared->Prop}(I:Inv X pins σ H s) (hg:Gl X x) (hm:X.mg x=some u) (h:Q u s)
    (hd:(x == ("__debug__" : Str))=false:=by decide):wpAny (model X.prog X.w) X.A (eval (.Name x pos) X.env) Q E s :=
  Calls.Name_function_global I.ok.kind hg (Calls.loadGlobal_global (by rw [I.ok.glob];exact I.mod.glob.keeps I.bk) hm h) hd
theorem YN {E:Value->Shared->Prop}{pins:List (Addr×Obj)}{s:Shared}{σ:St}{H:Hp}{x:Str}{u:Value}{pos:Pos}{Q:Value->Shared->Prop}(I:Inv X pins σ H s) (hg:Gl X x) (hm:X.mg x=none) (hv:bootBuiltins x=some u) (h:Q u s)
    (hn:x ≠ "__name__" := by decide) (hd:(x == ("__debug__" : Str))=false:=by decide):wpAny (model X.prog X.w) X.A (eval (.Name x pos) X.env) Q E s:=by
  obtain ⟨mb,h1,h2⟩:=I.mod.blt
  exact Calls.Name_function_global I.ok.kind hg (Calls.loadGlobal_builtin (by rw [I.ok.glob];exact I.mod.glob.keeps I.bk) hm (by rw [I.ok.blt];exact h1.keeps I.bk) ((h2 x hn).trans hv) h) hd
theorem qgJ {x:Str}{v:V}{u:Value}{pos:Pos}(hg:Gl X x) (hm:X.mg x=none) (hv:bootBuiltins x=some u) (r:jg v u) (hn:x ≠ "__name__" := by decide) (hd:(x == ("__debug__" : Str))=false:=by decide):PE X (.Name x pos) (tC v) :=
  fun _ _ _ H _ I h=>YN I hg hm hv ⟨v,H,I,r,h⟩ hn hd
variable {a b:Expr}{ta tb:TE}{pos:Pos}
def tB (t:TE):TT:=fun σ H Q=>t σ H fun x H1=>∃ c,x = .bl c/\Q c H1
theorem qiv {e:Expr}{t:TE}(h:PE X e t) (he:∀ whole,isTrue e X.env whole=(do let v <- whole;standAt e.pos;holding [v] (truthy v)):=by intro _;rfl):PT X e (tB t):=by
  intro pins s σ H Q I hw
  refine isTrue_plain (thn (h pins s σ H _ I hw) fun v s1 ⟨x,H1,I1,r1,q1⟩=>?_) (he _)
  obtain ⟨d,rfl,q⟩:=q1
  cases r1
  exact wpAny_truthy_bool ⟨H1,I1,q⟩
variable {tA tB':TT}{yE:List Expr}
def tAnd (t u:TT):TT:=fun σ H Q=>t σ H fun c H1=>if c=true then u σ H1 Q else Q false H1
def tOr (t u:TT):TT:=fun σ H Q=>t σ H fun c H1=>if c=true then Q true H1 else u σ H1 Q
def tNot (t:TT):TT:=fun σ H Q=>t σ H fun c H1=>Q (!c) H1
theorem qgw (ha:PT X a tA):PW X (.BoolOp .And [a] pos) tA:=by
  intro wh pins s σ H Q I h
  refine isTrue_and (thn (ha pins s σ H Q I h) fun c s1 e=>?_)
  cases c with
  | true=>exact isTrue_and_nil e
  | false=>exact e
theorem qis (ha:PT X a tA):PW X (.BoolOp .Or [a] pos) tA:=by
  intro wh pins s σ H Q I h
  refine isTrue_or (thn (ha pins s σ H Q I h) fun c s1 e=>?_)
  cases c with
  | false=>exact isTrue_or_nil e
  | true=>exact e
theorem qit (ha:PT X a tA) (hb:PW X (.BoolOp .And (b::yE) pos) tB'):PW X (.BoolOp .And (a::b::yE) pos) (tAnd tA tB'):=by
  intro wh pins s σ H Q I h
  refine isTrue_and (thn (ha pins s σ H _ I h) fun c s1 ⟨H1,I1,q1⟩=>?_)
  cases c with
  | true=>exact hb wh pins s1 σ H1 Q I1 q1
  | false=>exact ⟨H1,I1,q1⟩
theorem pw_or (ha:PT X a tA) (hb:PW X (.BoolOp .Or (b::yE) pos) tB'):PW X (.BoolOp .Or (a::b::yE) pos) (tOr tA tB'):=by
  intro wh pins s σ H Q I h
  refine isTrue_or (thn (ha pins s σ H _ I h) fun c s1 ⟨H1,I1,q1⟩=>?_)
  cases c with
  | true=>exact ⟨H1,I1,q1⟩
  | false=>exact hb wh pins s1 σ H1 Q I1 q1
theorem qiw (ha:PT X a tA):PT X (.UnaryOp .Not a pos) (tNot tA):=by
  intro pins s σ H Q I h
  exact isTrue_not (ha pins s σ H (fun c H1=>Q (!c) H1) I h)
def tAndV (ta tb:TE):TE:=fun σ H Q=>ta σ H fun x H1=>∃ c,x = .bl c/\if c=true then tb σ H1 Q else Q (.bl false) H1
def tNotV (ta:TE):TE:=fun σ H Q=>ta σ H fun x H1=>∃ c,x = .bl c/\Q (.bl (!c)) H1
theorem qiG {op} {t:TE}(h:PE X a t):PE X (.BoolOp op [a] pos) t:=fun pins s σ H Q I hw=>BoolOp_one (h pins s σ H Q I hw)
theorem qiJ (ha:PE X a ta) (hb:PE X (.BoolOp .And (b::yE) pos) tb):PE X (.BoolOp .And (a::b::yE) pos) (tAndV ta tb):=by
  intro pins s σ H Q I h
  refine BoolOp_and (thn (ha pins s σ H _ I h) fun v s1 ⟨x,H1,I1,r1,q1⟩=>?_)
  obtain ⟨c,rfl,q1⟩:=q1
  cases r1
  refine wpAny_truthy_bool ?_
  cases c with
  | true=>exact hb pins s1 σ H1 Q I1 q1
  | false=>exact ⟨.bl false,H1,I1,rfl,q1⟩
theorem qiH (ha:PE X a ta):PE X (.UnaryOp .Not a pos) (tNotV ta):=by
  intro pins s σ H Q I h
  refine UnaryOp_ (thn (ha pins s σ H _ I h) fun v s1 ⟨x,H1,I1,r1,q1⟩=>?_)
  obtain ⟨c,rfl,q1⟩:=q1
  cases r1
  exact not_of (wpAny_truthy_bool ⟨.bl (!c),H1,I1,rfl,q1⟩)
def tIf (t:TT) (ta tb:TE):TE:=fun σ H Q=>t σ H fun c H1=>if c=true then ta σ H1 Q else tb σ H1 Q
theorem qeH {c:Expr}(hc:PT X c tA) (ha:PE X a ta) (hb:PE X b tb):PE X (.IfExp c a b pos) (tIf tA ta tb):=by
  intro pins s σ H Q I h
  refine wpAny_IfExp (thn (hc pins s σ H _ I h) fun d s1 ⟨H1,I1,q1⟩=>?_)
  cases d with
  | true=>exact ha pins s1 σ H1 Q I1 q1
  | false=>exact hb pins s1 σ H1 Q I1 q1
end
def SqL (K:W.Frag) (H:Hp) (a:Addr) (xs:List V):Prop :=
  Rd H a (.lst xs) ∨
    ∃ (o:Obj) (its:Array Value) (n:Nat),K.lookup a=some o/\o.cls = .type "list" /\ o.dict=none/\o.data = .seq its n/\its.size<=sizeLine/\yo xs its.toList
def SqT (K:W.Frag) (H:Hp) (a:Addr) (xs:List V):Prop :=
  Rd H a (.tup xs) ∨
    ∃ (o:Obj) (its:Array Value) (n:Nat),K.lookup a=some o/\o.cls = .type "tuple" /\ o.data = .seq its n/\its.size<=sizeLine/\yo xs its.toList
def absV:Value->Option V
  | .none=>some .non
  | .bool b=>some (.bl b)
  | .int i _=>some (.int i)
  | .str x _=>some (.str x)
  | .bytes b _=>some (.byt b)
  | .float b _=>some (.flt b)
  | .ref a=>some (.ref a)
  | .type n=>some (.ty n)
  | _=>none
theorem jg.abs {x:V}{u:Value}(r:jg x u):absV u=some x:=by
  cases x with
  | non=>cases r;rfl
  | bl _=>cases r;rfl
  | int _=>obtain ⟨t,rfl⟩:=r;rfl
  | str _=>obtain ⟨t,rfl⟩:=r;rfl
  | byt _=>obtain ⟨t,rfl⟩:=r;rfl
  | flt _=>obtain ⟨t,rfl⟩:=r;rfl
  | ref _=>cases r;rfl
  | ty _=>cases r;rfl
theorem jg.inj {x y:V}{u:Value}(r:jg x u) (q:jg y u):x=y:=Option.some.inj (r.abs.symm.trans q.abs)
theorem yo.inj:∀ {xs ys:List V}{us:List Value},yo xs us->yo ys us->xs=ys
  | _,_,_,.nil,.nil=>rfl
  | _,_,_,.cons r t,.cons r' t'=>by rw [r.inj r',yo.inj t t']
section
variable {X:Cx}{pins:List (Addr×Obj)}{σ:St}{H:Hp}{s:Shared}{a:Addr}{xs ys:List V}
theorem SqL.of {K:W.Frag}(h:H a=some (.lst xs)):SqL K H a xs:=.inl (.inl h)
theorem SqT.of {K:W.Frag}(h:H a=some (.tup xs)):SqT K H a xs:=.inl (.inl h)
theorem Inv.list (I:Inv X pins σ H s) (h:SqL X.K H a xs):∃ its:List Value,yo xs its/\PlainL s.heap a its.toArray/\xs.length<=sizeLine:=by
  rcases h with h | ⟨o,its,n,hk,hc,hd,hs,hz,r⟩
  · obtain ⟨z,its,n,r,e⟩:=h.ok I.hok
    exact ⟨its,r,⟨_,n,e,rfl,rfl,rfl⟩,z⟩
  · refine ⟨its.toList,r,⟨o,n,I.kIn a o hk,hc,hd,by simpa using hs⟩,?_⟩
    have e:=r.length
    simp only [Array.length_toList] at e
    omega
theorem Inv.tuple (I:Inv X pins σ H s) (h:SqT X.K H a xs):∃ its:List Value,yo xs its/\IsTup s.heap a its.toArray/\xs.length<=sizeLine:=by
  rcases h with h | ⟨o,its,n,hk,hc,hs,hz,r⟩
  · obtain ⟨z,its,r,p⟩:=h.ok I.hok
    exact ⟨its,r,p,z⟩
  · refine ⟨its.toList,r,⟨o,I.kIn a o hk,hc,n,by simpa using hs⟩,?_⟩
    have e:=r.length
    simp only [Array.length_toList] at e
    omega
theorem Inv.list_inj (I:Inv X pins σ H s) (h:SqL X.K H a xs) (h':SqL X.K H a ys):xs=ys:=by
  obtain ⟨its,r,⟨o,n,e,_,_,d⟩,_⟩:=I.list h
  obtain ⟨its',r',⟨o',n',e',_,_,d'⟩,_⟩:=I.list h'
  rw [e] at e';cases e'
  rw [d] at d'
  injection d' with d1 _
  have:its=its':=by simpa using congrArg Array.toList d1
  subst this
  exact r.inj r'
theorem Inv.tuple_inj (I:Inv X pins σ H s) (h:SqT X.K H a xs) (h':SqT X.K H a ys):xs=ys:=by
  obtain ⟨its,r,⟨o,e,_,n,d⟩,_⟩:=I.tuple h
  obtain ⟨its',r',⟨o',e',_,n',d'⟩,_⟩:=I.tuple h'
  rw [e] at e';cases e'
  rw [d] at d'
  injection d' with d1 _
  have:its=its':=by simpa using congrArg Array.toList d1
  subst this
  exact r.inj r'
end
abbrev Cx.wish (X:Cx) (E:Value->Shared->Prop):Cx:={ X with xe:=E }
abbrev Cx.nox (X:Cx):Cx:=X.wish fun _ _=>False
theorem Cx.Ok.wish {X:Cx}(ok:X.Ok) (E:Value->Shared->Prop):(X.wish E).Ok :=
  ⟨ok.mod,ok.kind,ok.glob,ok.blt,ok.above,ok.inj,ok.has,ok.cab,ok.hd,ok.frames,ok.stk,ok.exf,ok.bs,ok.bsz,ok.noex,ok.exfs,ok.funs,ok.frf⟩
theorem Cx.Ok.unwish {X:Cx}{E:Value->Shared->Prop}(ok:(X.wish E).Ok):X.Ok :=
  ⟨ok.mod,ok.kind,ok.glob,ok.blt,ok.above,ok.inj,ok.has,ok.cab,ok.hd,ok.frames,ok.stk,ok.exf,ok.bs,ok.bsz,ok.noex,ok.exfs,ok.funs,ok.frf⟩
section
variable {X:Cx}{pins:List (Addr×Obj)}{σ:St}{H:Hp}{s:Shared}{E:Value->Shared->Prop}
theorem Inv.wish (I:Inv X pins σ H s) (E:Value->Shared->Prop):Inv (X.wish E) pins σ H s:=⟨I.ok.wish E,I.os,I.bare,I.base,I.loc,I.cell,I.free,I.freeC,I.pin,I.hok,I.len⟩
theorem Inv.unwish (I:Inv (X.wish E) pins σ H s):Inv X pins σ H s:=⟨I.ok.unwish,I.os,I.bare,I.base,I.loc,I.cell,I.free,I.freeC,I.pin,I.hok,I.len⟩
theorem SP.unwish {D:Ends}{f:Flow}{s':Shared}(h:SP (X.wish E) pins D f s'):SP X pins D f s':=by
  cases f with
  | next=>obtain ⟨σ',H',I,q⟩:=h;exact ⟨σ',H',I.unwish,q⟩
  | brk=>obtain ⟨σ',H',I,q⟩:=h;exact ⟨σ',H',I.unwish,q⟩
  | cont=>obtain ⟨σ',H',I,q⟩:=h;exact ⟨σ',H',I.unwish,q⟩
  | ret u=>obtain ⟨v,σ',H',I,r,q⟩:=h;exact ⟨v,σ',H',I.unwish,r,q⟩
theorem PE.nox {e:Expr}{t:TE}(h:PE X.nox e t):PE X e t:=fun pins s σ H Q I hw =>
  qN (h pins s σ H Q (I.wish _) hw) (fun _ _ ⟨v,H',I',r,q⟩=>⟨v,H',I'.unwish,r,q⟩) fun _ _ z=>False.elim z
theorem PT.nox {e:Expr}{t:TT}(h:PT X.nox e t):PT X e t:=fun pins s σ H Q I hw =>
  qN (h pins s σ H Q (I.wish _) hw) (fun _ _ ⟨H',I',q⟩=>⟨H',I'.unwish,q⟩) fun _ _ z=>False.elim z
theorem PSs.nox {st:List Stmt}{t:TS}(h:PSs X.nox st t):PSs X st t:=fun pins s σ H D I hw =>
  qN (h pins s σ H D (I.wish _) hw) (fun _ _ q=>q.unwish) fun _ _ z=>False.elim z
end
section
variable {X:Cx}{st:Stmt}{yE:List Stmt}{t u:TS}{e:Expr}{te:TE}{pos:Pos}
def tNext:TS:=fun D σ H=>D.nx σ H
def tSeq (t u:TS):TS:=fun D σ H=>t { D with nx:=u D } σ H
theorem qcN:PSs X [] tNext:=fun _ _ σ H _ I h=>wpAny_execs_nil ⟨σ,H,I,h⟩
theorem Ju (h1:PS X st t) (h2:PSs X yE u):PSs X (st::yE) (tSeq t u):=by
  intro pins s σ H D I h
  refine wpAny_execs_cons (thn (h1 pins s σ H { D with nx:=u D } I h) fun f s1 q=>?_)
  cases f with
  | next =>
    obtain ⟨σ',H',I',q⟩:=q
    exact h2 pins s1 σ' H' D I' q
  | ret v=>exact q
  | brk=>exact q
  | cont=>exact q
theorem qas (h1:PS X st t):PSs X [st] t:=by
  intro pins s σ H D I h
  refine wpAny_execs_cons (thn (h1 pins s σ H D I h) fun f s1 q=>?_)
  cases f with
  | next=>exact wpAny_execs_nil q
  | ret v=>exact q
  | brk=>exact q
  | cont=>exact q
def tCont:TS:=fun D σ H=>D.ct σ H
theorem qat:PS X (.Continue pos) tCont:=fun _ _ σ H _ I h=>wpAny_Continue ⟨σ,H,I,h⟩
theorem Inv.quiet {pins:List (Addr×Obj)}{σ:St}{H:Hp}{s:Shared}(I:Inv X pins σ H s):interactive X.env=false:=by simp [interactive,I.ok.kind]
def tDrop (te:TE):TS:=fun D σ H=>te σ H fun _ H1=>D.nx σ H1
theorem qgz (he:PE X e te) (hs:swapsWith e none pos.line X.env=pure false:=by rfl):PS X (.Expr e pos) (tDrop te):=by
  intro pins s σ H D I h
  exact wpAny_Expr_any (thn (he pins s σ H _ I h) fun v s1 ⟨x,H1,I1,r1,q1⟩=>⟨σ,H1,I1,q1⟩) I.quiet hs
def tRet (te:TE):TS:=fun D σ H=>te σ H D.rt
theorem qa6 (he:PE X e te):PS X (.Return (some e) pos) (tRet te):=by
  intro pins s σ H D I h
  exact wpAny_Return_some (thn (he pins s σ H _ I h) fun v s1 ⟨x,H1,I1,r1,q1⟩=>⟨x,σ,H1,I1,r1,q1⟩)
def tIfS (c:TT) (t u:TS):TS:=fun D σ H=>c σ H fun b H1=>if b=true then t D σ H1 else u D σ H1
theorem qiy {c:Expr}{a b:List Stmt}{tc:TT}(hc:PT X c tc) (ha:PSs X a t) (hb:PSs X b u):PS X (.If c a b pos) (tIfS tc t u):=by
  intro pins s σ H D I h
  refine wpAny_If (thn (hc pins s σ H _ I h) fun d s1 ⟨H1,I1,q1⟩=>?_)
  cases d with
  | true=>exact ha pins s1 σ H1 D I1 q1
  | false=>exact hb pins s1 σ H1 D I1 q1
def qh0:TS:=fun _ _ _=>False
theorem qeA:PS X st qh0:=fun _ _ _ _ _ _ h=>h.elim
end
abbrev TG:=V->St->Hp->(St->Hp->Prop)->Prop
abbrev TGs:=List V->St->Hp->(St->Hp->Prop)->Prop
def PG (X:Cx) (target:Expr) (t:TG):Prop :=
  ∀ (pins:List (Addr×Obj)) (s:Shared) (σ:St) (H:Hp) (v:V) (u:Value) (Q:St->Hp->Prop),Inv X pins σ H s->jg v u->t v σ H Q →
    wpAny (model X.prog X.w) X.A (assign target X.env u) (fun _ s'=>∃ σ' H',Inv X pins σ' H' s'/\Q σ' H') X.xe s
def PGs (X:Cx) (ts:List Expr) (t:TGs):Prop :=
  ∀ (pins:List (Addr×Obj)) (s:Shared) (σ:St) (H:Hp) (vs:List V) (us:List Value) (Q:St->Hp->Prop),Inv X pins σ H s->yo vs us->t vs σ H Q →
    wpAny (model X.prog X.w) X.A (assignInOrder ((assignEach ts X.env).map (·.2)) us) (fun _ s'=>∃ σ' H',Inv X pins σ' H' s'/\Q σ' H') X.xe s
abbrev TSet:=V->V->V->Hp->(Hp->Prop)->Prop
def PSet (X:Cx) (t:TSet):Prop :=
  ∀ (pins:List (Addr×Obj)) (s:Shared) (σ:St) (H:Hp) (o i v:V) (ov iv u:Value) (Q:Hp->Prop),Inv X pins σ H s->jg o ov->jg i iv->jg v u->t o i v H Q →
    wpAny (model X.prog X.w) X.A (setItem ov iv u) (fun _ s'=>∃ H',Inv X pins σ H' s'/\Q H') X.xe s
section
variable {X:Cx}{pos:Pos}
def qeY (i:Nat):TG:=fun v σ H Q=>Q (σ.set i (some v)) H
theorem qgE {i:Nat}{x:Str}(hN:X.N.Nodup) (hi:X.N[i]?=some x) (hx:Loc X.env.scope x) (hf:X.fn x=true\/X.env.scope.names.lookup x=some .local:=by first | exact .inl rfl | exact .inr rfl | assumption):PG X (.Name x pos) (qeY i):=by
  intro pins s σ H v u Q I r h
  exact wpAny_assign_Name (jL I hN hi hx r (fun s' I'=>⟨_,H,I',h⟩) hf)
def gNil:TGs:=fun vs σ H Q=>vs=[]/\Q σ H
def gCons (t:TG) (u:TGs):TGs:=fun vs σ H Q=>∃ v r,vs=v::r/\t v σ H fun σ' H'=>u r σ' H' Q
theorem qcX:PGs X [] gNil:=by
  intro pins s σ H vs us Q I r h
  obtain ⟨e,h⟩:=h
  subst e
  cases r
  exact assignInOrder_nil ⟨σ,H,I,h⟩
theorem qa8 {e:Expr}{es:List Expr}{t:TG}{u:TGs}(h1:PG X e t) (h2:PGs X es u)
    (hs:(assignEach (e::es) X.env).map (·.2)=assign e X.env::(assignEach es X.env).map (·.2):=by rfl):PGs X (e::es) (gCons t u):=by
  intro pins s σ H vs us Q I r h
  obtain ⟨v,vr,e1,h⟩:=h
  subst e1
  cases r with
  | cons r rr =>
    rw [hs]
    refine assignInOrder_cons (thn (h1 pins s σ H _ _ _ I r h) fun _ s1 ⟨σ1,H1,I1,q1⟩=>?_)
    exact h2 pins s1 σ1 H1 _ _ Q I1 rr q1
def gTup (K:W.Frag) (n:Nat) (t:TGs):TG:=fun v σ H Q=>∃ a xs,v = .ref a/\SqT K H a xs/\xs.length=n/\t xs σ H Q
theorem qfK {es:List Expr}{k:Nat}{t:TGs}{n:Nat}(hc:X.calm=true) (h:PGs X es t)
    (hn:(assignEach es X.env).length=n:=by rfl) (hst:(assignEach es X.env).findIdx? (·.1)=none:=by rfl):PG X (.Tuple es k pos) (gTup X.K n t):=by
  intro pins s σ H v u Q I r hw
  obtain ⟨a,xs,e1,hq,hl,hw⟩:=hw
  subst e1
  cases r
  obtain ⟨its,rv,ht,hz⟩:=I.tuple hq
  refine assign_Tuple_tuple (I.ok.hd hc) ht (by simp [hn,<- hl,rv.length]) hst fun h' hx=>?_
  have I1:Inv X pins σ H { s with heap:=h' }:=I.kept (t':=s.toks) fun b o e=>hx b o (qk (qh e)) e
  exact h pins _ σ H xs _ Q I1 (by simpa using rv) hw
def gSub (to ti:TE) (t:TSet):TG:=fun v σ H Q=>to σ H fun o H1=>ti σ H1 fun i H2=>t o i v H2 fun H3=>Q σ H3
theorem qfL {o i:Expr}{to ti:TE}{t:TSet}(ho:PE X o to) (hi:PE X i ti) (hs:PSet X t)
    (ha:∀ v,assign (.Subscript o i pos) X.env v=(do
      let ov <- holding [v] (eval o X.env)
      let iv <- holding [v,ov] (eval i X.env)
      standAt pos
      holding [v,ov,iv] (setItem ov iv v)
      release [v,ov,iv] []):=by intro _;rfl):PG X (.Subscript o i pos) (gSub to ti t):=by
  intro pins s σ H v u Q I r h
  rw [ha]
  refine qa (yK (thn (ho pins s σ H _ I h) fun ov s1 ⟨x,H1,I1,r1,q1⟩=>?_))
  refine qa (yK (thn (hi pins s1 σ H1 _ I1 q1) fun iv s2 ⟨y,H2,I2,r2,q2⟩=>?_))
  refine qa (wpAny_standAt (qa (yK (thn (hs pins s2 σ H2 x y v ov iv u _ I2 r1 r2 r q2) fun _ s3 ⟨H3,I3,q3⟩=>?_))))
  exact wpAny_release ⟨σ,H3,I3,q3⟩
def tAsg (te:TE) (g:TG):TS:=fun D σ H=>te σ H fun x H1=>g x σ H1 D.nx
theorem qcO {tg e:Expr}{te:TE}{g:TG}(he:PE X e te) (hg:PG X tg g) (hs:swapsWithSole [tg] e pos.line X.env=pure false:=by rfl) (hw:swappedStores [tg] e X.env=pure none:=by rfl)
    (h1:(assignEach [tg] X.env).map (·.2)=[assign tg X.env]:=by rfl):PS X (.Assign [tg] e pos) (tAsg te g):=by
  intro pins s σ H D I h
  refine wpAny_Assign_stores (thn (he pins s σ H _ I h) fun v s1 ⟨x,H1,I1,r1,q1⟩=>?_) hs hw
  rw [h1]
  exact thn (hg pins s1 σ H1 x v _ I1 r1 q1) fun _ s2 q=>q
theorem qfJ {i:Nat}{x:Str}{e:Expr}{te:TE}{pos':Pos}(hN:X.N.Nodup) (hi:X.N[i]?=some x) (hx:Loc X.env.scope x) (he:PE X e te) (hs:swapsWith e (some (.Name x pos')) pos.line X.env=pure false:=by rfl) (hf:X.fn x=true\/X.env.scope.names.lookup x=some .local:=by first | exact .inl rfl | exact .inr rfl | assumption) :
    PS X (.Assign [.Name x pos'] e pos) (tAsg te (qeY i)):=by
  intro pins s σ H D I h
  refine wpAny_Assign_Name (thn (he pins s σ H _ I h) fun v s1 ⟨y,H1,I1,r1,q1⟩=>?_) hs
  exact jL I1 hN hi hx r1 (fun s2 I2=>⟨_,H1,I2,q1⟩) hf
def tPar (i j:Nat) (ta:TA):TS:=fun D σ H=>ta σ H fun vs H1=>∃ v w,vs=[v,w]/\D.nx ((σ.set i (some v)).set j (some w)) H1
theorem qix {i j:Nat}{x y:Str}{a b:Expr}{ta:TA}{px py pt:Pos}{kt k2 pt2} (hc:X.calm=true) (hN:X.N.Nodup) (hi:X.N[i]?=some x) (hj:X.N[j]?=some y) (hij:i≠j)
    (hx:X.env.scope.names.lookup x=some .local) (hy:X.env.scope.names.lookup y=some .local) (ha:PA X [a,b] ta)
    (hw:swappedStores [.Tuple [.Name x px,.Name y py] kt pt] (.Tuple [a,b] k2 pt2) X.env=pure (some [x,y]))
    (hs:swapsWithSole [.Tuple [.Name x px,.Name y py] kt pt] (.Tuple [a,b] k2 pt2) pos.line X.env=pure false:=by rfl) :
    PS X (.Assign [.Tuple [.Name x px,.Name y py] kt pt] (.Tuple [a,b] k2 pt2) pos) (tPar i j ta):=by
  intro pins s σ H D I h
  rw [exec_Assign_arm]
  refine qa (wpAny_standAt ?_)
  rw [hs]
  refine qa (qd ?_)
  rw [if_neg (by decide)]
  refine qa (Tuple_ (thn (ha _ pins s σ H _ I h) fun us s1 ⟨vs,H1,I1,r1,q1⟩=>?_))
  obtain ⟨v,w,e1,q1⟩:=q1
  subst e1
  obtain ⟨u1,u2,rfl,rv,rw'⟩:∃ u1 u2,us=[u1,u2]/\jg v u1/\jg w u2:=by
    cases r1 with
    | cons p q =>
      cases q with
      | cons p' q' =>
        cases q'
        exact ⟨_,_,rfl,p,p'⟩
  refine qT ?_ (by show 2<=sizeLine;decide)
  have I2:Inv X pins σ H1 { s1 with heap:=s1.heap.push { cls:=.type "tuple",data:=.seq [u1,u2].toArray } }:=I1.kept (t':=s1.toks) fun b o e=>qb _ e
  rw [hw]
  refine qa (qd ?_)
  show wpAny (model X.prog X.w) X.A (do rule "assign.swapped-stores";let items <- unpackItems (.ref s1.heap.objs.size) 2 none;assignInOrder [fun v=>bindName X.env y v,fun v=>bindName X.env x v] items.reverse;pure Flow.next) _ _ _
  refine qa (jD (qa (unpackItems_tuple (items:=#[u1,u2]) (I.ok.hd hc) (IsTup.new s1.heap _) fun h' hx'=>?_)))
  have I3:=I2.kept (h':=h') (t':=s1.toks) fun b o e=>hx' b o (qk (qh e)) e
  show wpAny _ _ (assignInOrder [fun v=>bindName X.env y v,fun v=>bindName X.env x v] [u2,u1] >>= fun _=>pure Flow.next) _ _ _
  refine qa (assignInOrder_cons (wpAny_bindName (jL I3 hN hj (.inl hy) rw' (fun s2 I4=>?_) (.inr hy))))
  refine assignInOrder_cons (wpAny_bindName (jL I4 hN hi (.inl hx) rv (fun s3 I5=>assignInOrder_nil (qd ?_)) (.inr hx)))
  rw [List.set_comm _ _ (Ne.symm hij)] at I5
  exact ⟨_,H1,I5,q1⟩
end
section
variable {X:Cx}{pos:Pos}
def qhZ (c:TT) (tb:TS):TS:=fun D σ H=>∃ W:Nat->St->Hp->Prop,(∃ m,W m σ H)/\∀ m σ H,W m σ H →
  c σ H fun b H1=>if b=true then ∃ N:St->Hp->Prop,(∀ σ' H',N σ' H'->∃ m',m'<m/\W m' σ' H')/\tb { D with nx:=N,ct:=N,bk:=D.nx } σ H1 else D.nx σ H1
theorem qez {c:Expr}{body:List Stmt}{tc:TT}{tb:TS}(hp:PassesOwn (model X.prog X.w) X.A X.env X.xe) (hc:PT X c tc) (hb:PSs X body tb):PS X (.While c body [] pos) (qhZ tc tb):=by
  intro pins s σ H D I h
  obtain ⟨W,⟨m0,w0⟩,turn⟩:=h
  refine wpAny_While (codeAny_whileLoop (fun n s'=>∃ σ' H',Inv X pins σ' H' s'/\W n σ' H') ?_ m0 ⟨σ,H,I,w0⟩)
  rintro n s1 ⟨σ1,H1,I1,w1⟩
  refine wpAny_passesOwn hp (thn (hc pins s1 σ1 H1 _ I1 (turn n σ1 H1 w1)) fun b s2 ⟨H2,I2,q2⟩=>?_)
  cases b with
  | true =>
    obtain ⟨N,hN,q2⟩:=q2
    rw [if_pos rfl]
    refine wpAny_passesOwn hp (thn (hb pins s2 σ1 H2 _ I2 q2) fun f s3 q3=>?_)
    cases f with
    | next =>
      obtain ⟨σ3,H3,I3,n3⟩:=q3
      obtain ⟨m',hm,w3⟩:=hN σ3 H3 n3
      exact ⟨m',hm,σ3,H3,I3,w3⟩
    | cont =>
      obtain ⟨σ3,H3,I3,n3⟩:=q3
      obtain ⟨m',hm,w3⟩:=hN σ3 H3 n3
      exact ⟨m',hm,σ3,H3,I3,w3⟩
    | brk=>exact q3
    | ret v=>exact q3
  | false =>
    rw [if_neg Bool.false_ne_true]
    exact wpAny_execs_nil ⟨σ1,H2,I2,q2⟩
end
structure It where
  go:Nat->Hp->Prop
  yld:Nat->Hp->V->Hp->Prop
  stop:Nat->Hp->Prop
def qaV (X:Cx) (pins:List (Addr×Obj)) (H:Hp) (b:Addr):Prop :=
  H b=none/\b≠X.env.locals/\b∉X.fs/\(b∈X.ex\/X.s₀.heap.objs.size<=b)/\(∀ x c,X.env.cells.lookup x=some c->c≠b)/\∀ p∈X.pn++pins,p.1≠b
theorem Inv.fpOk {X:Cx}{pins:List (Addr×Obj)}{σ:St}{H H':Hp}{s:Shared}{b:Addr}(I:Inv X pins σ H s) (hb:s.heap.objs.size<=b) (hn:H' b=none):qaV X pins H' b:=by
  refine ⟨hn,Nat.ne_of_gt (qy I.lt hb),I.nofs hb,.inr (qJ I.sz hb),fun x c e z=>?_,fun p hp z=>?_⟩
  · obtain ⟨v,q⟩:=I.cell x c e
    exact absurd (qy q.lt (by rw [z];exact hb)) (yN _)
  · exact absurd (qy (qh (I.pin p hp).1) (by rw [z];exact hb)) (yN _)
structure Turn (P:Program) (w:World) (K:W.Frag) (tg:Expr) (J:It) (fp:List Addr) (it:Addr) (tn:Nat->Heap->Prop):Prop where
  mem:it∈fp
  obj:∀ i h,tn i h->∀ b∈fp,∃ o,h.get? b=some o/\∀ v,o.data≠.cell v
  keep:∀ i h h',tn i h->(∀ b∈fp,∀ o,h.get? b=some o->h'.get? b=some o)->tn i h'
  item:∀ (X:Cx),X.prog=P->X.w=w->X.K=K->X.calm=true->∀ (i:Nat) (pins:List (Addr×Obj)) (s:Shared) (σ:St) (H:Hp) (E:Value->Shared->Prop),Inv X pins σ H s->(∀ b∈fp,qaV X pins H b)->tn i s.heap->J.go i H →
    wpAny (model P w) X.A (pyNext (.ref it)) (fun r s1=>∃ u,r=some u ∧
      wpAny (model P w) X.A (letOwnedTupleGo tg (.ref it) u) (fun _ s2=>∃ x H',Inv X pins σ H' s2/\jg x u/\J.yld i H x H'/\tn (i+1) s2.heap/\∀ b∈fp,H' b=none) E s1) E s
  done:∀ (X:Cx),X.prog=P->X.w=w->X.K=K->X.calm=true->∀ (i:Nat) (pins:List (Addr×Obj)) (s:Shared) (σ:St) (H:Hp) (E:Value->Shared->Prop),Inv X pins σ H s->(∀ b∈fp,qaV X pins H b)->tn i s.heap->J.stop i H →
    wpAny (model P w) X.A (pyNext (.ref it)) (fun r s1=>r=none/\Inv X pins σ H s1) E s
  self:∀ (A:Around) (i:Nat) (s:Shared) (Q:Value->Shared->Prop) (E:Value->Shared->Prop),tn i s.heap->Q (.ref it) s->wpAny (model P w) A (pyIter (.ref it)) Q E s
abbrev TI:=St->Hp->(It->Hp->Prop)->Prop
def PIE (X:Cx) (pins:List (Addr×Obj)) (σ:St) (tg:Expr) (R:It->Hp->Prop) (itv:Value) (s2:Shared):Prop :=
  ∃ (it:Addr) (fp:List Addr) (tn:Nat->Heap->Prop) (J:It) (H':Hp),itv = .ref it/\Inv X pins σ H' s2/\Turn X.prog X.w X.K tg J fp it tn/\tn 0 s2.heap/\(∀ b∈fp,qaV X pins H' b)/\R J H'
def PI (X:Cx) (tg iter:Expr) (wi:TI):Prop :=
  ∀ (pins:List (Addr×Obj)) (s:Shared) (σ:St) (H:Hp) (R:It->Hp->Prop),Inv X pins σ H s->wi σ H R →
    wpAny (model X.prog X.w) X.A (eval iter X.env) (fun v s1=>wpAny (model X.prog X.w) X.A (pyIter v) (PIE X pins σ tg R) X.xe s1) X.xe s
theorem qg8 {M:Model}{A:Around}{E:Value->Shared->Prop}{s:Shared}{tg:Expr}{it:Addr}{u:Value}{o:Obj}{n:String}{vs:Array Value}{Q:Unit->Shared->Prop}(ho:s.heap.get? it=some o) (hc:o.cls = .type n) (hd:o.data = .fields vs)
    (hn:["enumerate", "zip", "dict_itemiterator", "dict_reverseitemiterator", "odict_iterator", "itertools.zip_longest", "itertools.pairwise"].contains n=false) (hQ:Q () s):wpAny M A (letOwnedTupleGo tg (.ref it) u) Q E s:=by
  unfold letOwnedTupleGo
  cases tg <;> first
    | exact qd hQ
    | (cases u <;> first
        | exact qd hQ
        | (refine qa (wpAny_load ho ?_)
           rw [hc,hd]
           show wpAny M A (if (["enumerate", "zip", "dict_itemiterator", "dict_reverseitemiterator", "odict_iterator", "itertools.zip_longest", "itertools.pairwise"].contains n && vs[0]? == some (rawInt _))=true then _ else _) Q E s
           rw [if_neg (by intro h;rw [hn,Bool.false_and] at h;cases h)]
           exact qd hQ))
def Itl (K:W.Frag) (a:Addr):It :=
  ⟨fun i H=>∃ xs x,SqL K H a xs/\xs[i]?=some x,fun i H x H'=>H'=H/\∀ xs,SqL K H a xs->xs[i]?=some x,fun i H=>∃ xs,SqL K H a xs/\xs.length<=i⟩
def Itt (K:W.Frag) (a:Addr):It :=
  ⟨fun i H=>∃ xs x,SqT K H a xs/\xs[i]?=some x,fun i H x H'=>H'=H/\∀ xs,SqT K H a xs->xs[i]?=some x,fun i H=>∃ xs,SqT K H a xs/\xs.length<=i⟩
def Itr (lo:Int) (n:Nat):It:=⟨fun i _=>i<n,fun i H x H'=>H'=H/\x = .int (lo+i),fun i _=>n<=i⟩
theorem qcp {P:Program}{w:World}{K:W.Frag}{tg:Expr}(a it:Addr):Turn P w K tg (Itl K a) [it] it (fun i h=>h.IsListIter it a i) where
  mem:=by simp
  obj:=fun i h st b hb=>by
    have e:b=it:=by simpa using hb
    subst e
    obtain ⟨o,e,c,d⟩:=st
    exact ⟨o,e,fun v z=>by rw [d] at z;cases z⟩
  keep:=fun i h h' st k=>st.at fun o e=>k it (by simp) o e
  item:=by
    intro X hP hw hK hc i pins s σ H E I hf st hg
    subst hP hw hK
    obtain ⟨xs,x,hq,hx⟩:=hg
    obtain ⟨its,rv,p,hz⟩:=I.list hq
    obtain ⟨u,hu,ru⟩:=rv.get hx
    obtain ⟨f0,f1,f2,f3,f4,f5⟩:=hf it (by simp)
    refine wpAny_pyNext_list_item st p.isList (x:=u) (by simpa using hu) fun h' st' sb=>?_
    have I1:Inv X pins σ H { s with heap:=h' }:=I.turned (t':=s.toks) (fun b o hb e=>(sb.2 b hb).trans e) f0 f1 f3 f4 f5
    obtain ⟨o,e,c,d⟩:=id st'
    exact ⟨u,rfl,qg8 (s:={ s with heap:=h' }) e c d (by decide) ⟨x,H,I1,ru,⟨rfl,fun ys hy=>by rw [I.list_inj hy hq];exact hx⟩,st',fun b hb=>(hf b hb).1⟩⟩
  done:=by
    intro X hP hw hK hc i pins s σ H E I hf st hg
    subst hP hw hK
    obtain ⟨xs,hq,hx⟩:=hg
    obtain ⟨its,rv,p,hz⟩:=I.list hq
    obtain ⟨f0,f1,f2,f3,f4,f5⟩:=hf it (by simp)
    have hl:=rv.length
    exact wpAny_pyNext_list_end (I.ok.hd hc) st p.isList (by simp;omega) fun h' eb=>⟨rfl,I.turned (t':=s.toks) (fun b o hb e=>eb b o hb e) f0 f1 f3 f4 f5⟩
  self:=fun _ _ _ _ _ st h=>wpAny_pyIter_listiter st h
theorem qbN {P:Program}{w:World}{K:W.Frag}{tg:Expr}(a it:Addr):Turn P w K tg (Itt K a) [it] it (fun i h=>h.IsTupleIter it a i) where
  mem:=by simp
  obj:=fun i h st b hb=>by
    have e:b=it:=by simpa using hb
    subst e
    obtain ⟨o,e,c,d⟩:=st
    exact ⟨o,e,fun v z=>by rw [d] at z;cases z⟩
  keep:=fun i h h' st k=>st.at fun o e=>k it (by simp) o e
  item:=by
    intro X hP hw hK hc i pins s σ H E I hf st hg
    subst hP hw hK
    obtain ⟨xs,x,hq,hx⟩:=hg
    obtain ⟨its,rv,p,hz⟩:=I.tuple hq
    obtain ⟨u,hu,ru⟩:=rv.get hx
    obtain ⟨f0,f1,f2,f3,f4,f5⟩:=hf it (by simp)
    refine wpAny_pyNext_tuple_item st (show s.heap.IsTuple a its.toArray from p) (x:=u) (by simpa using hu) fun h' st' sb=>?_
    have I1:Inv X pins σ H { s with heap:=h' }:=I.turned (t':=s.toks) (fun b o hb e=>(sb.2 b hb).trans e) f0 f1 f3 f4 f5
    obtain ⟨o,e,c,d⟩:=id st'
    exact ⟨u,rfl,qg8 (s:={ s with heap:=h' }) e c d (by decide) ⟨x,H,I1,ru,⟨rfl,fun ys hy=>by rw [I.tuple_inj hy hq];exact hx⟩,st',fun b hb=>(hf b hb).1⟩⟩
  done:=by
    intro X hP hw hK hc i pins s σ H E I hf st hg
    subst hP hw hK
    obtain ⟨xs,hq,hx⟩:=hg
    obtain ⟨its,rv,p,hz⟩:=I.tuple hq
    obtain ⟨f0,f1,f2,f3,f4,f5⟩:=hf it (by simp)
    have hl:=rv.length
    exact wpAny_pyNext_tuple_end (I.ok.hd hc) st (show s.heap.IsTuple a its.toArray from p) (by simp;omega) fun h' eb=>⟨rfl,I.turned (t':=s.toks) (fun b o hb e=>eb b o hb e) f0 f1 f3 f4 f5⟩
  self:=fun _ _ _ _ _ st h=>wpAny_pyIter_tupleiter st h
theorem qbO {P:Program}{w:World}{K:W.Frag}{tg:Expr}(it:Addr) (lo:Int) (n:Nat):Turn P w K tg (Itr lo n) [it] it (fun i h=>IsRangeIter h it (lo+(i:Nat) * 1) ((n:Int) - (i:Nat)) 1) where
  mem:=by simp
  obj:=fun i h st b hb=>by
    have e:b=it:=by simpa using hb
    subst e
    exact ⟨_,st,fun v z=>by
      have z':Data.fields _=Data.cell v:=z
      cases z'⟩
  keep:=fun i h h' st k=>k it (by simp) _ st
  item:=by
    intro X hP hw hK hc i pins s σ H E I hf st hg
    subst hP hw hK
    obtain ⟨f0,f1,f2,f3,f4,f5⟩:=hf it (by simp)
    have W:=Walks.range (prog:=X.prog) (w:=X.w) (I.ok.hd hc) it lo 1 n
    refine W.item i s _ _ hg st fun v h' tk hv st' kk=>?_
    obtain ⟨t,rfl⟩:=hv
    have I1:Inv X pins σ H { s with heap:=h',toks:=tk }:=I.turned (fun b o hb e=>kk b o (by simpa using hb) e) f0 f1 f3 f4 f5
    refine ⟨_,rfl,qg8 (s:={ s with heap:=h',toks:=tk }) (n := "range_iterator") st' rfl rfl (by decide) ⟨.int (lo+i),H,I1,⟨t,?_⟩,⟨rfl,rfl⟩,st',fun b hb=>(hf b hb).1⟩⟩
    rw [Int.mul_one]
  done:=by
    intro X hP hw hK hc i pins s σ H E I hf st hg
    subst hP hw hK
    obtain ⟨f0,f1,f2,f3,f4,f5⟩:=hf it (by simp)
    exact wpAny_pyNext_range_end (I.ok.hd hc) st (by have:n<=i:=hg;omega) fun h' eb=>⟨rfl,I.turned (t':=s.toks) (fun b o hb e=>eb b o hb e) f0 f1 f3 f4 f5⟩
  self:=fun _ _ _ _ _ st h=>wpAny_pyIter_rangeiter st h
section
variable {X:Cx}{tg:Expr}
def iList (K:W.Frag) (tl:TE):TI:=fun σ H R=>tl σ H fun x H1=>∃ a,x = .ref a/\(∃ xs,SqL K H1 a xs)/\R (Itl K a) H1
def iTup (K:W.Frag) (tl:TE):TI:=fun σ H R=>tl σ H fun x H1=>∃ a,x = .ref a/\(∃ xs,SqT K H1 a xs)/\R (Itt K a) H1
theorem qgD {l:Expr}{tl:TE}(hl:PE X l tl):PI X tg l (iList X.K tl):=by
  intro pins s σ H R I h
  refine thn (hl pins s σ H _ I h) fun v s1 hq9=>?_
  obtain ⟨x,H1,I1,r1,q1⟩:=hq9
  obtain ⟨a,e,⟨xs,hq⟩,q⟩:=q1
  subst e
  cases r1
  obtain ⟨its,rv,p,hz⟩:=I1.list hq
  refine wpAny_pyIter_list p.isList ?_
  refine ⟨s1.heap.objs.size,[s1.heap.objs.size],_,_,H1,rfl,I1.kept (t':=s1.toks) fun b o e=>qb _ e,qcp a _,⟨_,qr _ rfl,rfl,rfl⟩,fun b hb=>?_,q⟩
  have e:b=s1.heap.objs.size:=by simpa using hb
  subst e
  exact I1.fpOk (qj _) (I1.hok.fresh (qj _))
theorem qiD {l:Expr}{tl:TE}(hl:PE X l tl):PI X tg l (iTup X.K tl):=by
  intro pins s σ H R I h
  refine thn (hl pins s σ H _ I h) fun v s1 hq9=>?_
  obtain ⟨x,H1,I1,r1,q1⟩:=hq9
  obtain ⟨a,e,⟨xs,hq⟩,q⟩:=q1
  subst e
  cases r1
  obtain ⟨its,rv,p,hz⟩:=I1.tuple hq
  refine wpAny_pyIter_tuple (show s1.heap.IsTuple a its.toArray from p) ?_
  refine ⟨s1.heap.objs.size,[s1.heap.objs.size],_,_,H1,rfl,I1.kept (t':=s1.toks) fun b o e=>qb _ e,qbN a _,⟨_,qr _ rfl,rfl,rfl⟩,fun b hb=>?_,q⟩
  have e:b=s1.heap.objs.size:=by simpa using hb
  subst e
  exact I1.fpOk (qj _) (I1.hok.fresh (qj _))
theorem qey {pins:List (Addr×Obj)}{σ:St}{H:Hp}{s:Shared}{R:It->Hp->Prop}{E:Value->Shared->Prop}{lo hi:Int}{t u v:Tok}{tk:Nat}(I:Inv X pins σ H s) (h1:-(2 ^ 62)<=lo) (h2:lo<2 ^ 62) (h3:-(2 ^ 62)<=hi) (h4:hi<2 ^ 62)
    (q:R (Itr lo (hi - lo).toNat) H):wpAny (model X.prog X.w) X.A (pyIter (.ref s.heap.objs.size)) (PIE X pins σ tg R) E { s with heap:=s.heap.push { cls:=.type "range",data:=.fields #[.int lo t,.int hi u,.int 1 v] },toks:=tk }:=by
  refine wpAny_pyIter_range (IsRange.new ..) (small_one h1 h2 h3 h4) ?_
  have I1:Inv X pins σ H { s with heap:=s.heap.push { cls:=.type "range",data:=.fields #[.int lo t,.int hi u,.int 1 v] },toks:=tk }:=I.kept fun b o e=>qb _ e
  refine ⟨(s.heap.push { cls:=.type "range",data:=.fields #[.int lo t,.int hi u,.int 1 v] }).objs.size,[(s.heap.push { cls:=.type "range",data:=.fields #[.int lo t,.int hi u,.int 1 v] }).objs.size],_,_,H,rfl,
    I1.kept (t':=tk) fun b o e=>qb _ e,qbO _ lo (hi - lo).toNat,?_,fun b hb=>?_,q⟩
  · have e1:lo+((0:Nat):Int) * 1=lo:=by simp
    have e2:(((hi - lo).toNat:Nat):Int) - ((0:Nat):Int)=Builtin.Range.rangeSize lo hi 1:=by rw [rangeSize_one];split <;> omega
    show IsRangeIter _ _ (lo+((0:Nat):Int) * 1) ((((hi - lo).toNat:Nat):Int) - ((0:Nat):Int)) 1
    rw [e1,e2]
    exact qr _ rfl
  · have e:b=(s.heap.push { cls:=.type "range",data:=.fields #[.int lo t,.int hi u,.int 1 v] }).objs.size:=by simpa using hb
    subst e
    exact I1.fpOk (qj _) (I1.hok.fresh (qj _))
def iRng1 (ta:TA):TI:=fun σ H R=>ta σ H fun vs H1=>∃ j:Int,vs=[.int j]/\-(2 ^ 62)<=j/\j<2 ^ 62/\R (Itr 0 j.toNat) H1
theorem qcV {a:Expr}{ta:TA}{p pos:Pos}(hg:Gl X "range") (hm:X.mg "range" = none) (ha:PA X [a] ta) (hs:starEach [a] X.env=[(false,eval a X.env)]:=by rfl):PI X tg (.Call (.Name "range" p) [a] [] pos) (iRng1 ta):=by
  intro pins s σ H R I h
  refine Call_ (YN I hg hm boot_range (PyProof.Rows.callWith_type1 (thn (ha pos pins s σ H _ I h) fun us s1 ⟨vs,H1,I1,r1,q1⟩=>?_) hs rfl))
  obtain ⟨j,e,q1,q2,q⟩:=q1
  subst e
  cases r1 with
  | cons r rr =>
    cases rr
    obtain ⟨t,rfl⟩:=r
    exact call_range_1 (qey I1 (by omega) (by omega) q1 q2 (by simpa using q))
def tFor (wi:TI) (g:TG) (tb:TS):TS:=fun D σ H=>wi σ H fun J H1=>∃ W:Nat->Nat->St->Hp->Prop,(∃ m,W 0 m σ H1)/\∀ i m σ H,W i m σ H →
  (J.stop i H/\D.nx σ H)\/(J.go i H/\∃ N:St->Hp->Prop,(∀ σ' H',N σ' H'->∃ m',m'<m/\W (i+1) m' σ' H')/\∀ x H',J.yld i H x H'->g x σ H' fun σ2 H2=>tb { D with nx:=N,ct:=N,bk:=D.nx } σ2 H2)
def jS (fp:List Addr) (h:Heap):List (Addr×Obj):=fp.filterMap fun b=>(h.get? b).map fun o=>(b,o)
theorem yx {fp:List Addr}{h:Heap}{b:Addr}{o:Obj}(hb:b∈fp) (e:h.get? b=some o):(b,o)∈jS fp h:=List.mem_filterMap.mpr ⟨b,hb,by rw [e];rfl⟩
theorem ZP {fp:List Addr}{h:Heap}{p:Addr×Obj}(hp:p∈jS fp h):p.1∈fp/\h.get? p.1=some p.2:=by
  obtain ⟨b,hb,e⟩:=List.mem_filterMap.mp hp
  cases q:h.get? b with
  | none=>rw [q] at e;cases e
  | some o =>
    rw [q] at e
    have e':(b,o)=p:=Option.some.inj e
    subst e'
    exact ⟨hb,q⟩
theorem Inv.pinned {pins:List (Addr×Obj)}{σ:St}{H:Hp}{s:Shared}{fp:List Addr}(I:Inv X pins σ H s) (hf:∀ b∈fp,qaV X pins H b) (ho:∀ b∈fp,∃ o,s.heap.get? b=some o/\∀ v,o.data≠.cell v):Inv X (pins++jS fp s.heap) σ H s :=
  I.pins_of fun p hp=>(List.mem_append.mp hp).elim (fun z=>I.pin p (qf _ z)) fun z=>by
    obtain ⟨hb,e⟩:=ZP z
    obtain ⟨f0,f1,f2,_⟩:=hf p.1 hb
    obtain ⟨o,e',d⟩:=ho p.1 hb
    rw [e] at e';cases e'
    exact ⟨e,f0,f1,f2,d⟩
theorem Inv.unpinned {pins pl:List (Addr×Obj)}{σ:St}{H:Hp}{s:Shared}(I:Inv X (pins++pl) σ H s):Inv X pins σ H s:=I.pins_of fun p hp=>I.pin p (qf _ (qC _ hp))
theorem qiz {iter:Expr}{body:List Stmt}{wi:TI}{g:TG}{tb:TS}{pos:Pos}(hp:PassesOwn (model X.prog X.w) X.A X.env X.xe) (hc:X.calm=true) (hi:PI X tg iter wi) (hg:PG X tg g) (hb:PSs X body tb)
    (hs:∀ x,foldedSetIterable iter X.env x=pure x:=by intro _;rfl):PS X (.For tg iter body [] pos) (tFor wi g tb):=by
  intro pins s σ H D I h
  refine wpAny_For (thn (hi pins s σ H _ I h) fun v s1 h1=>thn h1 fun itv s2 h2=>?_) hs
  obtain ⟨it,fp,tn,J,H2,e,I2,T,st2,f2,W,⟨m0,w0⟩,turn⟩:=h2
  subst e
  -- what stays true of the iterator's objects through the loop
  have stat:∀ {H':Hp},(∀ b∈fp,H' b=none)->∀ b∈fp,qaV X pins H' b:=fun hn b hb=>⟨hn b hb,(f2 b hb).2⟩
  refine codeAny_forLoop_any (fun n s'=>∃ i σ' H',Inv X pins σ' H' s'/\tn i s'.heap/\(∀ b∈fp,H' b=none)/\W i n σ' H') ?_ m0 ⟨0,σ,H2,I2,st2,fun b hb=>(f2 b hb).1,w0⟩
  rintro n s3 ⟨i,σ3,H3,I3,st3,fr3,w3⟩
  rcases turn i n σ3 H3 w3 with ⟨stop,qn⟩ | ⟨go,N,hN,step⟩
  · refine wpAny_passesOwn hp (thn (T.done X rfl rfl rfl hc i pins s3 σ3 H3 X.xe I3 (stat fr3) st3 stop) fun r s4 ⟨hr,I4⟩=>?_)
    subst hr
    exact wpAny_execs_nil ⟨σ3,H3,I4,qn⟩
  · refine wpAny_passesOwn hp (thn (T.item X rfl rfl rfl hc i pins s3 σ3 H3 X.xe I3 (stat fr3) st3 go) fun r s4 ⟨u,hr,h4⟩=>?_)
    subst hr
    refine wpAny_passesOwn hp (thn h4 fun _ s5 ⟨x,H5,I5,r5,y5,st5,fr5⟩=>?_)
    have I5':=I5.pinned (stat fr5) (T.obj _ _ st5)
    refine wpAny_passesOwn hp (thn (hg _ s5 σ3 H5 x u _ I5' r5 (step x H5 y5)) fun _ s6 ⟨σ6,H6,I6,q6⟩=>?_)
    refine wpAny_passesOwn hp (thn (hb _ s6 σ6 H6 _ I6 q6) fun f s7 q7=>?_)
    have again:∀ {σ7:St}{H7:Hp},Inv X (pins++jS fp s5.heap) σ7 H7 s7->N σ7 H7->∃ m,m<n/\∃ i σ' H',Inv X pins σ' H' s7/\tn i s7.heap/\(∀ b∈fp,H' b=none)/\W i m σ' H':=fun {σ7 H7} I7 n7=>by
      obtain ⟨m',hm,w7⟩:=hN σ7 H7 n7
      refine ⟨m',hm,i+1,σ7,H7,I7.unpinned,T.keep _ _ _ st5 fun b hb o e=>(I7.pin (b,o) (qf _ (qf _ (yx hb e)))).1,fun b hb=>?_,w7⟩
      obtain ⟨o,e,d⟩:=T.obj _ _ st5 b hb
      exact (I7.pin (b,o) (qf _ (qf _ (yx hb e)))).2.1
    cases f with
    | next=>obtain ⟨σ7,H7,I7,n7⟩:=q7;exact again I7 n7
    | cont=>obtain ⟨σ7,H7,I7,n7⟩:=q7;exact again I7 n7
    | brk=>obtain ⟨σ7,H7,I7,q7⟩:=q7;exact ⟨σ7,H7,I7.unpinned,q7⟩
    | ret v=>obtain ⟨x7,σ7,H7,I7,r7,q7⟩:=q7;exact ⟨x7,σ7,H7,I7.unpinned,r7,q7⟩
end
abbrev R2:=V->V->Hp->VK->Prop
def OpR (X:Cx) (f:Value->Value->Sem Value) (r:R2):Prop :=
  ∀ (pins:List (Addr×Obj)) (s:Shared) (σ:St) (H:Hp) (x y:V) (v u:Value) (Q:VK),Inv X pins σ H s->jg x v->jg y u->r x y H Q →
    wpAny (model X.prog X.w) X.A (f v u) (EP X pins σ Q) X.xe s
def UnR (X:Cx) (f:Value->Sem Value) (r:V->Hp->VK->Prop):Prop :=
  ∀ (pins:List (Addr×Obj)) (s:Shared) (σ:St) (H:Hp) (x:V) (v:Value) (Q:VK),Inv X pins σ H s->jg x v->r x H Q →
    wpAny (model X.prog X.w) X.A (f v) (EP X pins σ Q) X.xe s
def yz (X:Cx) (f:Value) (r:List V->Hp->VK->Prop):Prop :=
  ∀ (pins:List (Addr×Obj)) (s:Shared) (σ:St) (H:Hp) (xs:List V) (us:List Value) (Q:VK),Inv X pins σ H s->yo xs us->r xs H Q →
    wpAny (model X.prog X.w) X.A (call f us) (EP X pins σ Q) X.xe s
def tOp (r:R2) (ta tb:TE):TE:=fun σ H Q=>ta σ H fun x H1=>tb σ H1 fun y H2=>r x y H2 Q
def tUn (r:V->Hp->VK->Prop) (ta:TE):TE:=fun σ H Q=>ta σ H fun x H1=>r x H1 Q
def rI (C:Int->Int->Prop) (g:Int->Int->V):R2:=fun x y H Q=>∃ i j,x = .int i/\y = .int j/\C i j/\Q (g i j) H
def rI0 (g:Int->Int->V):R2:=fun x y H Q=>∃ i j,x = .int i/\y = .int j/\Q (g i j) H
def rU (g:Int->V):V->Hp->VK->Prop:=fun x H Q=>∃ i,x = .int i/\Q (g i) H
section
variable {X:Cx}{a b c:Expr}{ta tb tc:TE}{pos:Pos}
theorem binT (ha:PE X a ta) (hb:PE X b tb) {pins:List (Addr×Obj)}{s:Shared}{σ:St}{H:Hp}{R:V->V->Hp->Prop}(I:Inv X pins σ H s)
    (h:ta σ H fun x H1=>tb σ H1 fun y H2=>R x y H2) {Q:Value->Shared->Prop}{f:Value->Value->Sem Value}
    (hf:∀ v u s2 x y H2,Inv X pins σ H2 s2->jg x v->jg y u->R x y H2->wpAny (model X.prog X.w) X.A (f v u) Q X.xe s2) :
    wpAny (model X.prog X.w) X.A (eval a X.env) (fun v s₁=>wpAny (model X.prog X.w) X.A (eval b X.env) (fun u s₂=>wpAny (model X.prog X.w) X.A (f v u) Q X.xe s₂) X.xe s₁) X.xe s:=by
  refine thn (ha pins s σ H _ I h) fun v s1 hq9=>?_
  obtain ⟨x,H1,I1,r1,q1⟩:=hq9
  refine thn (hb pins s1 σ H1 _ I1 q1) fun u s2 hq9=>?_
  obtain ⟨y,H2,I2,r2,q2⟩:=hq9
  exact hf v u s2 x y H2 I2 r1 r2 q2
theorem Yz {op:Operator}{r:R2}(ho:OpR X (binaryOp op) r) (ha:PE X a ta) (hb:PE X b tb):PE X (.BinOp a op b pos) (tOp r ta tb):=by
  intro pins s σ H Q I h
  exact wpAny_BinOp (binT ha hb I h fun v u s2 x y H2 I2 rx ry q=>ho pins s2 σ H2 x y v u Q I2 rx ry q)
theorem pe_un {op:UnaryOp}{r:V->Hp->VK->Prop}(ho:UnR X (unaryOp op) r) (ha:PE X a ta):PE X (.UnaryOp op a pos) (tUn r ta):=by
  intro pins s σ H Q I h
  exact UnaryOp_ (thn (ha pins s σ H _ I h) fun v s1 ⟨x,H1,I1,r1,q1⟩=>ho pins s1 σ H1 x v Q I1 r1 q1)
theorem opI {f:Value->Value->Sem Value}{C:Int->Int->Prop}{g:Int->Int->Int}
    (rule:∀ (i j:Int) (t u:Tok) (s:Shared) (Q:Value->Shared->Prop) (E:Value->Shared->Prop),C i j->Q (.int (g i j) s.toks) { s with toks:=s.toks+1 }->wpAny (model X.prog X.w) X.A (f (.int i t) (.int j u)) Q E s) :
    OpR X f (rI C fun i j=>.int (g i j)):=by
  intro pins s σ H x y v u Q I rx ry h
  obtain ⟨i,j,rfl,rfl,hc,q⟩:=h
  obtain ⟨t,rfl⟩:=rx
  obtain ⟨t',rfl⟩:=ry
  exact rule i j t t' s _ _ hc ⟨.int (g i j),H,I.tok _,⟨_,rfl⟩,q⟩
theorem opI0 {f:Value->Value->Sem Value}{g:Int->Int->Int}
    (rule:∀ (i j:Int) (t u:Tok) (s:Shared) (Q:Value->Shared->Prop) (E:Value->Shared->Prop),Q (.int (g i j) s.toks) { s with toks:=s.toks+1 }->wpAny (model X.prog X.w) X.A (f (.int i t) (.int j u)) Q E s) :
    OpR X f (rI0 fun i j=>.int (g i j)):=by
  intro pins s σ H x y v u Q I rx ry h
  obtain ⟨i,j,rfl,rfl,q⟩:=h
  obtain ⟨t,rfl⟩:=rx
  obtain ⟨t',rfl⟩:=ry
  exact rule i j t t' s _ _ ⟨.int (g i j),H,I.tok _,⟨_,rfl⟩,q⟩
theorem opB0 {f:Value->Value->Sem Value}{g:Int->Int->Bool}
    (rule:∀ (i j:Int) (t u:Tok) (s:Shared) (Q:Value->Shared->Prop) (E:Value->Shared->Prop),Q (.bool (g i j)) s->wpAny (model X.prog X.w) X.A (f (.int i t) (.int j u)) Q E s) :
    OpR X f (rI0 fun i j=>.bl (g i j)):=by
  intro pins s σ H x y v u Q I rx ry h
  obtain ⟨i,j,rfl,rfl,q⟩:=h
  obtain ⟨t,rfl⟩:=rx
  obtain ⟨t',rfl⟩:=ry
  exact rule i j t t' s _ _ ⟨.bl (g i j),H,I,rfl,q⟩
def CDiv (i j:Int):Prop:=0<j/\j<1073741824
def CPow (i j:Int):Prop:=0<=j/\j<=1000000/\i.natAbs<2 ^ 64
def CMul (i j:Int):Prop:=(-(2 ^ 64)<i/\i<2 ^ 64)\/(-(2 ^ 64)<j/\j<2 ^ 64)
theorem CMul.ok {i j:Int}(h:CMul i j):IntMulOk i j:=by
  rcases h with ⟨h1,h2⟩ | ⟨h1,h2⟩
  · exact .of_left (intBits_le_64 h1 h2)
  · exact .of_right (intBits_le_64 h1 h2)
theorem qc2:OpR X (binaryOp .Add) (rI0 fun i j=>.int (i+j)):=opI0 fun _ _ _ _ _ _ _ q=>add_int q
theorem qiL:OpR X (binaryOp .Sub) (rI0 fun i j=>.int (i - j)):=opI0 fun _ _ _ _ _ _ _ q=>sub_int q
theorem qc1:OpR X (binaryOp .FloorDiv) (rI CDiv fun i j=>.int (i / j)):=opI fun i j _ _ _ _ _ hc q=>by
  have h1:(0:Int)<j:=hc.1
  have h2:j<1073741824:=hc.2
  exact floordiv_int (by omega) (by rw [Int.fdiv_eq_ediv_of_nonneg i (by omega)];exact q) (.inl (PyProof.noPylong_small (by omega)))
theorem ZN:OpR X (binaryOp .Mod) (rI (fun _ j=>0<j) fun i j=>.int (i % j)):=opI fun i j _ _ _ _ _ hc q=>by
  have h1:(0:Int)<j:=hc
  exact mod_int' (by omega) (by rw [Int.fmod_eq_emod_of_nonneg i (by omega)];exact q)
theorem qiM:OpR X (binaryOp .Pow) (rI CPow fun i j=>.int (i ^ j.toNat)):=opI fun _ _ _ _ _ _ _ hc q=>pow_int_small hc.1 hc.2.1 hc.2.2 q
theorem unI {f:Value->Sem Value}{g:Int->Int}
    (rule:∀ (i:Int) (t:Tok) (s:Shared) (Q:Value->Shared->Prop) (E:Value->Shared->Prop),Q (.int (g i) s.toks) { s with toks:=s.toks+1 }->wpAny (model X.prog X.w) X.A (f (.int i t)) Q E s) :
    UnR X f (rU fun i=>.int (g i)):=by
  intro pins s σ H x v Q I rx h
  obtain ⟨i,rfl,q⟩:=h
  obtain ⟨t,rfl⟩:=rx
  exact rule i t s _ _ ⟨.int (g i),H,I.tok _,⟨_,rfl⟩,q⟩
theorem qhW:UnR X (unaryOp .USub) (rU fun i=>.int (-i)):=unI fun _ _ _ _ _ q=>neg_int q
end
section
variable {X:Cx}{a b c:Expr}{ta tb tc:TE}{pos:Pos}
theorem op_lt:OpR X (compareOp .Lt) (rI0 fun i j=>.bl (decide (i<j))):=opB0 fun _ _ _ _ _ _ _ q=>lt_int q
theorem op_le:OpR X (compareOp .LtE) (rI0 fun i j=>.bl (decide (i<=j))):=opB0 fun _ _ _ _ _ _ _ q=>le_int q
theorem qiQ:OpR X (compareOp .Gt) (rI0 fun i j=>.bl (decide (j<i))):=opB0 fun _ _ _ _ _ _ _ q=>gt_int q
theorem OpR.or {f:Value->Value->Sem Value}{r r':R2}(h:OpR X f r) (h':OpR X f r'):OpR X f (fun x y H Q=>r x y H Q\/r' x y H Q):=by
  intro pins s σ H x y v u Q I rx ry q
  rcases q with q | q
  · exact h pins s σ H x y v u Q I rx ry q
  · exact h' pins s σ H x y v u Q I rx ry q
theorem q0 (b:Expr) {op:CmpOp}(h:op≠.In:=by decide) (h2:op≠.NotIn:=by decide):behindInMarks op b=false:=by
  have e1:(op == CmpOp.In)=false:=by cases op <;> first | rfl | exact absurd rfl h
  have e2:(op == CmpOp.NotIn)=false:=by cases op <;> first | rfl | exact absurd rfl h2
  cases b <;> simp [behindInMarks,e1,e2]
theorem qgH {op:CmpOp}{r:R2}(ho:OpR X (compareOp op) r) (ha:PE X a ta) (hb:PE X b tb) (hm:behindInMarks op b=false):PE X (.Compare a [op] [b] pos) (tOp r ta tb):=by
  intro pins s σ H Q I h
  exact wpAny_Compare1 (binT ha hb I h fun v u s2 x y H2 I2 rx ry q=>ho pins s2 σ H2 x y v u Q I2 rx ry q) hm
def tTest (t:TE):TT:=fun σ H Q=>t σ H fun x H'=>∃ k,x = .bl k/\Q k H'
theorem qcM {op:CmpOp}{r:R2}(ho:OpR X (compareOp op) r) (ha:PE X a ta) (hb:PE X b tb) (hm:behindInMarks op b=false):PT X (.Compare a [op] [b] pos) (tTest (tOp r ta tb)):=by
  intro pins s σ H Q I h
  refine wpAny_isTrue_Compare1 (thn (ha pins s σ H _ I h) fun v s1 ⟨x,H1,I1,r1,q1⟩=>thn (hb pins s1 σ H1 _ I1 q1) fun u s2 ⟨y,H2,I2,r2,q2⟩ =>
    thn (ho pins s2 σ H2 x y v u _ I2 r1 r2 q2) fun c s3 ⟨z,H3,I3,r3,k,e,q3⟩=>?_) hm
  subst e
  cases r3
  exact wpAny_truthy_bool ⟨H3,I3,q3⟩
theorem qbf:(sizeLine:Nat)<2 ^ 63:=by rw [sizeLine_eq];decide
theorem J1 {x:V}{us:List Value}(r:yo [x] us):∃ u,us=[u]/\jg x u:=by
  cases r with
  | cons r1 r2=>cases r2;exact ⟨_,rfl,r1⟩
theorem qcl {x y:V}{us:List Value}(r:yo [x,y] us):∃ u w',us=[u,w']/\jg x u/\jg y w':=by
  cases r with
  | cons r1 r2 =>
    cases r2 with
    | cons r3 r4=>cases r4;exact ⟨_,_,rfl,r1,r3⟩
theorem qfg:yz X (.builtin "abs") (fun xs H Q=>∃ i,xs=[.int i]/\Q (.int (if i<0 then -i else i)) H):=by
  intro pins s σ H xs us Q I r h
  obtain ⟨i,rfl,q⟩:=h
  obtain ⟨u,rfl,t,rfl⟩:=J1 r
  exact call_abs_int fun u tk=>⟨.int (if i<0 then -i else i),H,I.tok _,⟨_,rfl⟩,q⟩
theorem qd1 (hc:X.calm=true):yz X (.builtin "max") (fun xs H Q=>∃ i j,xs=[.int i,.int j]/\Q (.int (if j > i then j else i)) H):=by
  intro pins s σ H xs us Q I r h
  obtain ⟨i,j,rfl,q⟩:=h
  obtain ⟨u,w',rfl,⟨t,rfl⟩,⟨t',rfl⟩⟩:=qcl r
  refine max_two_ints (I.ok.hd hc) fun h' tk k=>⟨_,H,I.kept k,?_,q⟩
  by_cases hj:j > i
  · rw [if_pos hj,if_pos hj];exact ⟨_,rfl⟩
  · rw [if_neg hj,if_neg hj];exact ⟨_,rfl⟩
theorem qdZ (hc:X.calm=true):yz X (.builtin "min") (fun xs H Q=>∃ i j,xs=[.int i,.int j]/\Q (.int (if j<i then j else i)) H):=by
  intro pins s σ H xs us Q I r h
  obtain ⟨i,j,rfl,q⟩:=h
  obtain ⟨u,w',rfl,⟨t,rfl⟩,⟨t',rfl⟩⟩:=qcl r
  refine min_two_ints (I.ok.hd hc) fun h' tk k=>⟨_,H,I.kept k,?_,q⟩
  by_cases hj:j<i
  · rw [if_pos hj,if_pos hj];exact ⟨_,rfl⟩
  · rw [if_neg hj,if_neg hj];exact ⟨_,rfl⟩
theorem qd2:yz X (.type "int") (fun xs H Q=>(∃ i,xs=[.int i]/\Q (.int i) H)\/∃ k,xs=[.bl k]/\Q (.int (if k then 1 else 0)) H):=by
  intro pins s σ H xs us Q I r h
  rcases h with ⟨i,rfl,q⟩ | ⟨k,rfl,q⟩
  · obtain ⟨u,rfl,t,rfl⟩:=J1 r
    exact call_int_int ⟨.int i,H,I,⟨_,rfl⟩,q⟩
  · obtain ⟨u,rfl,r1⟩:=J1 r
    cases r1
    exact call_int_bool ⟨.int (if k then 1 else 0),H,I.tok _,⟨_,rfl⟩,q⟩
end
structure ObjM (h:Heap) (x dx C:Addr) (mA:Str->Option Value):Prop where
  obj:h.get? x=some (W.instObj C dx)
  ns:h.Ns1 dx mA
  ne:dx≠x
theorem qdf {h:Heap}{dx:Addr}{mA:Str->Option Value}(n:h.Ns1 dx mA):∃ od,h.get? dx=some od/\∀ name,W.lookIn name od=some (mA name):=by
  obtain ⟨o,es,ep,ho,hd,hk,_,hm⟩:=n
  refine ⟨o,ho,fun name=>?_⟩
  have e:=hm name
  unfold nsFind findBy at e
  rw [<- Array.find?_toList] at e
  unfold W.lookIn
  rw [hd]
  dsimp only
  split
  · rename_i y q
    rw [q] at e
    exact congrArg some e
  · rename_i q
    rw [q] at e
    have a:es.toList.any (·.refKey)=false:=by
      rw [List.any_eq_false]
      intro y hy
      obtain ⟨z,t,hkey⟩:=hk y (Array.mem_toList_iff.mp hy)
      simp [DictEntry.refKey,hkey]
    have a':¬ es.toList.any (·.refKey)=true:=by rw [a];exact Bool.false_ne_true
    rw [if_neg a']
    exact congrArg some e
theorem ObjM.look {h:Heap}{x dx C:Addr}{mA:Str->Option Value}(I:ObjM h x dx C mA):∃ od,W.InstAt h x (W.instObj C dx) C (some od)/\∀ name,W.lookIn name od=some (mA name) :=
  let ⟨od,ho,hl⟩:=qdf I.ns
  ⟨od,⟨I.obj,rfl,rfl,ho⟩,hl⟩
section
variable {prog:Program}{w:World}{A:Around}{E:Value->Shared->Prop}{s:Shared}{K:W.Frag}{x dx C f:Addr}{mA:Str->Option Value}{name:Str}{v:Value}
end
section
variable {P:Program}{w:World}{H H':Hp}{h h':Heap}{a C dx:Addr}{fs fs':List (Str×V)}
end
structure Cls (K:W.Frag) (C:Addr):Prop where
  pg:W.plainGet K C Str.empty=true
  hd:W.hasDictIn K C=true
  po:W.plainOver K C=true
  sa:W.findIn K (.ref C) "__setattr__" = some (some (.builtin "object.__setattr__"))
theorem Cls.get {K:W.Frag}{C:Addr}(c:Cls K C) (f:Str):W.plainGet K C f=true:=c.pg
structure Con (K:W.Frag) (C:Addr) (f:Str) (v:V) (u:Value):Prop where
  at_:W.findIn K (.ref C) f=some (some u)
  rel:jg v u
  get:W.specialIn K u "__get__" = some none
  cp:W.copiedNames.contains f=false
structure Meth (K:W.Frag) (C:Addr) (m:Str) (f:Addr):Prop where
  at_:W.findIn K (.ref C) m=some (some (.ref f))
  fn:W.isFn K (.ref f)=true
  kp:W.keepIn K (.ref f)=true
section
variable {X:Cx}{pins:List (Addr×Obj)}{σ:St}{H:Hp}{s:Shared}{a C dx:Addr}{fs:List (Str×V)}{f:Str}{v:V}{A:Around}{E:Value->Shared->Prop}
theorem Inv.made (I:Inv X pins σ H s):Inv X pins σ (upd (upd H s.heap.objs.size (.own (s.heap.objs.size+1))) (s.heap.objs.size+1) (.ins C s.heap.objs.size []))
    { s with heap:=(s.heap.push W.emptyDict).push (W.instObj C s.heap.objs.size) }:=by
  have e1:(s.heap.push W.emptyDict).get? s.heap.objs.size=some W.emptyDict:=qr s.heap rfl
  have e2:((s.heap.push W.emptyDict).push (W.instObj C s.heap.objs.size)).get? (s.heap.objs.size+1)=some (W.instObj C s.heap.objs.size):=by
    have:=qr (s.heap.push W.emptyDict) (o:=W.instObj C s.heap.objs.size) rfl
    rwa [yr] at this
  have e3:(s.heap.push W.emptyDict).Ns s.heap.objs.size (fun _=>none):=⟨W.emptyDict,#[],_,e1,rfl,(fun e he=>absurd he (by simp)),fun _=>rfl⟩
  have I1:=I.laid (a:=s.heap.objs.size) (o:=.own (s.heap.objs.size+1)) (h':=s.heap.push W.emptyDict) (t':=s.toks) (fun b u q=>qb _ q) (qj _) ⟨_,e1⟩
  refine I1.laid (a:=s.heap.objs.size+1) (o:=.ins C s.heap.objs.size []) (t':=s.toks) (fun b u q=>qb _ q) (Nat.le_of_eq (yr _ _)) ?_
  have ne:s.heap.objs.size≠s.heap.objs.size+1:=qk (Nat.lt_succ_self _)
  refine ⟨by rw [qP ne,qV],qQ _,ne,e2,fun _=>none,(Heap.Ns1.of_empty e3).at fun o q=>qb _ q,fun _=>True.intro,fun y hy=>absurd rfl hy⟩
end
section
variable {X:Cx}{o e value:Expr}{f:Str}{pos pos' tpos:Pos}{ta tv:TE}
end
section
variable {X:Cx}{pins:List (Addr×Obj)}{σ:St}{H:Hp}{s:Shared}{A:Around}{E:Value->Shared->Prop}{Q:Value->Shared->Prop}{c:Value}{b:Bool}
inductive TyOf (K:W.Frag) (H:Hp):V->Value->Prop where
  | non:TyOf K H .non (.type "NoneType")
  | bl (x:Bool):TyOf K H (.bl x) (.type "bool")
  | int (i:Int):TyOf K H (.int i) (.type "int")
  | str (x:Str):TyOf K H (.str x) (.type "str")
  | flt (x:UInt64):TyOf K H (.flt x) (.type "float")
  | lst {a:Addr}{xs:List V}(e:H a=some (.lst xs)):TyOf K H (.ref a) (.type "list")
  | frz {a:Addr}{o:Obj}{xs:List V}(e:H a=some (.frz o (.lst xs))):TyOf K H (.ref a) (.type "list")
  | tup {a:Addr}{xs:List V}(e:H a=some (.tup xs)):TyOf K H (.ref a) (.type "tuple")
  | dK {a:Addr}{kvs:List (Key×V)}(e:H a=some (.dK kvs)):TyOf K H (.ref a) (.type "dict")
  | dT {a:Addr}{kvs:List (List Key×V)}(e:H a=some (.dT kvs)):TyOf K H (.ref a) (.type "dict")
  | ins {a C dx:Addr}{fs:List (Str×V)}(e:H a=some (.ins C dx fs)) (cl:Cls K C) (ha:W.findIn K (.ref C) "__class__" = some (some (.builtin "object.__class__")))
      (hn:W.specialIn K (.builtin "object.__class__") "__get__" = some (some (.builtin "getset_descriptor.__get__"))) (htk:W.takesIn K (.builtin "object.__class__")=some true)
      (hm:W.mroIn K C (.type "object")=some true):TyOf K H (.ref a) (.ref C)
end
structure Room (k:Nat) (A:Around):Prop where
  hd:A.handled=none
  dp:A.depth+3 * k+5<recursionLimit
  un:A.units+16 * k+200<cLine
theorem Room.mono {j k:Nat}{A:Around}(r:Room k A) (h:j<=k):Room j A:=⟨r.hd,by have:=r.dp;omega,by have:=r.un;omega⟩
theorem Room.deeper {k:Nat}{A:Around}(r:Room (k+1) A) (env:Env):Room k (A.deeper env) :=
  ⟨r.hd,by have:=r.dp;show A.depth+1+3 * k+5<_;omega,by have:=r.un;show A.units+3+16 * k+200<_;omega⟩
theorem Room.in1 {k:Nat}{A:Around}(r:Room (k+1) A):Room k A.in1 :=
  ⟨r.hd,by have:=r.dp;show A.depth+3 * k+5<_;omega,by have:=r.un;show A.units+1+16 * k+200<_;omega⟩
theorem Room.depth {k:Nat}{A:Around}(r:Room k A):A.depth<recursionLimit:=by have:=r.dp;omega
theorem Room.units {k:Nat}{A:Around}(r:Room k A):A.units+64<cLine:=by have:=r.un;omega
def tNil:TA:=fun _ H Q=>Q [] H
def tCons (ta:TE) (tr:TA):TA:=fun σ H Q=>ta σ H fun x H1=>tr σ H1 fun xs H2=>Q (x::xs) H2
section
variable {X:Cx}{e:Expr}{es:List Expr}{te:TE}{t:TA}{pos:Pos}
theorem qiK:PA X [] tNil:=fun _ _ _ _ H Q I h=>Calls.spliced_nil ⟨[],H,I,.nil,h⟩
theorem qgL (ha:PE X e te) (hr:PA X es t) (hs:starEach (e::es) X.env=(false,eval e X.env)::starEach es X.env:=by rfl):PA X (e::es) (tCons te t):=by
  intro pos pins s σ H Q I h
  rw [hs]
  show wpAny _ _ (spliced ((false,eval e X.env)::backTo pos (starEach es X.env))) _ _ s
  refine Calls.spliced_cons (thn (ha pins s σ H _ I h) fun u s1 ⟨x,H1,I1,r1,q1⟩=>?_)
  exact thn (hr pos pins s1 σ H1 _ I1 q1) fun us s2 ⟨xs,H2,I2,r2,q2⟩=>⟨x::xs,H2,I2,.cons r1 r2,q2⟩
def tTup (t:TA):TE:=fun σ H Q=>t σ H fun xs H1=>xs.length<=sizeLine/\∀ p,H1 p=none->Q (.ref p) (upd H1 p (.tup xs))
def tLst (t:TA):TE:=fun σ H Q=>t σ H fun xs H1=>xs.length<=sizeLine/\∀ p,H1 p=none->Q (.ref p) (upd H1 p (.lst xs))
theorem qiE {x1} (h:PA X es t):PE X (.Tuple es x1 pos) (tTup t):=by
  intro pins s σ H Q I hq
  refine wpAny_Tuple_spliced (thn (h pos pins s σ H _ I hq) fun us s1 ⟨xs,H1,I1,r,z,q⟩=>⟨by rw [<- r.length];exact z,?_⟩)
  have hf:H1 s1.heap.objs.size=none:=I1.hok.fresh (qj _)
  refine ⟨.ref s1.heap.objs.size,upd H1 s1.heap.objs.size (.tup xs),I1.laid (t':=s1.toks) (fun b u e=>qb _ e) (qj _) ?_,rfl,q _ hf⟩
  exact ⟨z,us,r,⟨_,qr _ rfl,rfl,_,rfl⟩⟩
theorem qcY (h:PA X es t):PE X (.List es pos) (tLst t):=by
  intro pins s σ H Q I hq
  refine wpAny_List_spliced (thn (h pos pins s σ H _ I hq) fun us s1 ⟨xs,H1,I1,r,z,q⟩=>⟨by rw [<- r.length];exact z,?_⟩)
  have hf:H1 s1.heap.objs.size=none:=I1.hok.fresh (qj _)
  refine ⟨.ref s1.heap.objs.size,upd H1 s1.heap.objs.size (.lst xs),I1.laid (t':=s1.toks) (fun b u e=>qb _ e) (qj _) ?_,rfl,q _ hf⟩
  exact ⟨z,us,0,r,qr _ rfl⟩
end
abbrev Sp:=List V->Hp->VK->XK->Prop
abbrev CXT:=List Env->Hp->Shared->XK->Value->Shared->Prop
structure Env0 (P:Program) (w:World) (K:W.Frag) (mg:Str->Option Value) (base:Heap) (A:Around) (outer:List Env) (s:Shared) (H:Hp):Prop where
  frames:A.frames=some outer
  mod:Mod K mg base
  bs:∀ b o,base.get? b=some o->s.heap.get? b=some o/\H b=none
  bsz:base.objs.size<=s.heap.objs.size
  funs:s.heap.FunFrames base outer
  frf:∀ b∈frs outer,H b=none
  hok:HOk P w H s.heap
  bare:AllBare s.gens
def CE (outer:List Env) (P:Program) (w:World) (H:Hp) (s:Shared) (Q:VK) (u:Value) (s':Shared):Prop :=
  ∃ v H',s'.os=s.os/\AllBare s'.gens/\Un (frs outer) [] H H' s.heap s'.heap/\HOk P w H' s'.heap/\jg v u/\Q v H'
def CR (CX:CXT) (outer:List Env) (P:Program) (w:World) (H:Hp) (s:Shared) (Q:VK) (E:XK) (r:Result) (s':Shared):Prop :=
  match r with
  | .ok (.ret u)=>CE outer P w H s Q u s'
  | .ok _=>False
  | .error e=>CX outer H s E e s'
structure FnOk (P:Program) (w:World) (K:W.Frag) (mg:Str->Option Value) (base:Heap) (CX:CXT) (k:Nat) (f:Addr) (fd:FuncData) (ps:List Str) (sp:Sp):Prop where
  len:∀ vs H Q E,sp vs H Q E->vs.length=ps.length
  run:∀ (A:Around) (outer:List Env) (s:Shared) (H:Hp) (args:Args) (us:List Value) (vs:List V) (Q:VK) (E:XK),Room k A->Env0 P w K mg base A outer s H->BindsTo s fd args (ps.zip us)->yo vs us->sp vs H Q E →
    codeAny (model P w) A (.call (.ref f) args) (CR CX outer P w H s Q E) s
theorem FnOk.mono {P:Program}{w:World}{K:W.Frag}{mg:Str->Option Value}{base:Heap}{CX:CXT}{j k:Nat}{f:Addr}{fd:FuncData}{ps:List Str}{sp:Sp}(F:FnOk P w K mg base CX j f fd ps sp) (h:j<=k) :
    FnOk P w K mg base CX k f fd ps sp:=⟨F.len,fun A outer s H args us vs Q E hr=>F.run A outer s H args us vs Q E (hr.mono h)⟩
theorem FnOk.imp {P:Program}{w:World}{K:W.Frag}{mg:Str->Option Value}{base:Heap}{CX:CXT}{k:Nat}{f:Addr}{fd:FuncData}{ps:List Str}{sp sp':Sp}(F:FnOk P w K mg base CX k f fd ps sp)
    (h:∀ vs H Q E,sp' vs H Q E->sp vs H Q E):FnOk P w K mg base CX k f fd ps sp' :=
  ⟨fun vs H Q E q=>F.len vs H Q E (h _ _ _ _ q),fun A outer s H args us vs Q E hr he hb hv hs=>F.run A outer s H args us vs Q E hr he hb hv (h _ _ _ _ hs)⟩
theorem Env0.in1 {P:Program}{w:World}{K:W.Frag}{mg:Str->Option Value}{base:Heap}{A:Around}{outer:List Env}{s:Shared}{H:Hp}(e:Env0 P w K mg base A outer s H) :
    Env0 P w K mg base A.in1 outer s H:=⟨e.frames,e.mod,e.bs,e.bsz,e.funs,e.frf,e.hok,e.bare⟩
section
variable {X:Cx}{pins:List (Addr×Obj)}{σ:St}{H:Hp}{s s':Shared}
theorem Inv.env0 (I:Inv X pins σ H s):Env0 X.prog X.w X.K X.mg X.base X.A X.stack s H :=
  ⟨I.ok.frames,I.ok.mod,I.bs,qJ I.ok.bsz I.sz,I.stack,I.stkFree,I.hok,I.bare⟩
theorem Inv.after {Q:VK}{u:Value}(I:Inv X pins σ H s) (h:CE X.stack X.prog X.w H s Q u s'):EP X pins σ Q u s':=by
  obtain ⟨v,H',os,bare,un,hok,r,q⟩:=h
  obtain ⟨hh,g,d,t,os'⟩:=s'
  obtain rfl:os'=s.os:=os
  exact ⟨v,H',I.call (h':=hh) (g':=g) (d':=d) (t':=t) (ch:=[]) un hok bare (fun b z=>absurd z (by simp)),r,q⟩
end
def qh1 (sp:Sp) (dvs:List V) (E:XK) (t:TA):TE:=fun σ H Q=>t σ H fun vs H1=>sp (vs++dvs) H1 Q E
def qaW (K:W.Frag) (fd:FuncData) (ps:List Str) (ds:List Value):Prop :=
  ∀ (s:Shared) (us:List Value),K.In s.heap->(us++ds).length=ps.length->BindsTo s fd ⟨us,[]⟩ (ps.zip (us++ds))
theorem qaW.all {K:W.Frag}{fd:FuncData}{ps:List Str}(h:∀ us:List Value,us.length=ps.length->bindArgs fd ⟨us,[]⟩=pure (ps.zip us)):qaW K fd ps []:=fun s us _ hl=>by
  rw [List.append_nil] at hl ⊢
  exact .of_eq (h us hl)
def qea (CX:CXT) (X:Cx) (E:XK):Prop:=∀ (pins:List (Addr×Obj)) (σ:St) (H:Hp) (s:Shared) (e:Value) (s':Shared),Inv X pins σ H s->CX X.stack H s E e s'->X.xe e s'
section
variable {X:Cx}{CX:CXT}{k:Nat}{f C:Addr}{fd:FuncData}{ps:List Str}{sp:Sp}{dvs:List V}{ds:List Value}{E:XK}{x m:Str}{p pos apos:Pos}{e o:Expr}{es:List Expr}{ta:TE}{t:TA}
theorem qie {pins:List (Addr×Obj)}{σ:St}{H:Hp}{s:Shared}{Q:VK}{us:List Value}{vs:List V}(F:FnOk X.prog X.w X.K X.mg X.base CX k f fd ps sp) (hr:Room k X.A) (hb:qaW X.K fd ps ds) (hd:yo dvs ds) (hx:qea CX X E)
    (I:Inv X pins σ H s) (r:yo vs us) (h:sp (vs++dvs) H Q E):wpAny (model X.prog X.w) X.A (call (.ref f) us) (EP X pins σ Q) X.xe s:=by
  have r2:yo (vs++dvs) (us++ds):=r.append hd
  have hl:(us++ds).length=ps.length:=by rw [<- r2.length];exact F.len _ _ _ _ h
  refine wpAny_call (codeAny_mono (F.run X.A X.stack s H ⟨us,[]⟩ (us++ds) (vs++dvs) Q E hr I.env0 (hb s us I.kIn hl) r2 h) fun r s' hq=>?_)
  cases r with
  | error e=>exact hx pins σ H s e s' I hq
  | ok fl =>
    cases fl with
    | ret u=>exact I.after hq
    | next=>exact False.elim hq
    | brk=>exact False.elim hq
    | cont=>exact False.elim hq
theorem qgI (F:FnOk X.prog X.w X.K X.mg X.base CX k f fd ps sp) (hr:Room k X.A) (hg:Gl X x) (hm:X.mg x=some (.ref f)) (hk:W.keepIn X.K (.ref f)=true) (hb:qaW X.K fd ps ds) (hd:yo dvs ds) (hx:qea CX X E)
    (ha:PA X (e::es) t) (hdb:(x == ("__debug__" : Str))=false:=by decide) (he:starEach (e::es) X.env=(false,eval e X.env)::starEach es X.env:=by rfl) (hpl:(backTo pos (starEach es X.env)).any (·.1)=false:=by rfl) :
    PE X (.Call (.Name x p) (e::es) [] pos) (qh1 sp dvs E t):=by
  intro pins s σ H Q I h
  refine wpAny_Call_Name_kw (qgX I hg hm ?_ hdb)
  refine W.callWith_K (h₀:=X.base) I.ok.mod.kin hk (thn (ha pos pins s σ H _ I h) fun us s1 ⟨vs,H1,I1,r,q⟩=>⟨I1.kIn,?_⟩) he hpl
  exact qie F hr hb hd hx I1 r q
structure Mk (K:W.Frag) (C f:Addr):Prop where
  makes:W.makesIn K C=true
  init:W.findIn K (.ref C) "__init__" = some (some (.ref f))
  fn:W.isFn K (.ref f)=true
  kp:W.keepIn K (.ref C)=true
end
section
variable {X:Cx}{CX:CXT}{k:Nat}{f C:Addr}{fd:FuncData}{ps ks:List Str}{sp:Sp}{E:XK}{x m:Str}{p pos apos kpos:Pos}{e o:Expr}{es:List Expr}{kws:List Keyword}{te ta:TE}{t tk:TA}{nm:Option Str}
structure KBinds (K:W.Frag) (fd:FuncData) (ps ks:List Str) (g:List Value->List Value->List Value) (gV:List V->List V->List V):Prop where
  to:∀ (s:Shared) (us ws:List Value),K.In s.heap->(g us ws).length=ps.length->BindsTo s fd ⟨us,ks.zip ws⟩ (ps.zip (g us ws))
  rel:∀ {vs:List V}{us:List Value}{zs:List V}{ws:List Value},yo vs us->yo zs ws->yo (gV vs zs) (g us ws)
variable {g:List Value->List Value->List Value}{gV:List V->List V->List V}
end
structure FnScope (N P:List Str) (sc:Scope):Prop where
  kind:sc.kind = .function
  co:sc.isCoroutine=false
  gen:sc.isGenerator=false
  nd:N.Nodup
  pre:N.take P.length=P
  par:∀ x∈P,sc.names.lookup x=some .local\/sc.names.lookup x=some .cell
  nofree:∀ y∈sc.names,y.2≠.free
theorem qae {kindOf:Str->Option NameKind}{x:Str}:∀ {binds:List (Str×Value)}{m:Str->Option Value},(∀ v,(x,v)∉binds)->bindL kindOf binds m x=m x
  | [],_,_=>rfl
  | (n,v)::r,m,h=>by
    unfold bindL
    rw [qae fun w hw=>h w (qe _ hw)]
    split
    · have:x≠n:=by rintro rfl;exact h v qg
      simp [this]
    · rfl
theorem qag {kindOf:Str->Option NameKind}{x:Str}:∀ {binds:List (Str×Value)}{m:Str->Option Value},(∀ v,(x,v)∉binds)->bindC kindOf binds m x=m x
  | [],_,_=>rfl
  | (n,v)::r,m,h=>by
    unfold bindC
    rw [qag fun w hw=>h w (qe _ hw)]
    split
    · rfl
    · have:x≠n:=by rintro rfl;exact h v qg
      simp [this]
theorem qaf {kindOf:Str->Option NameKind}{x:Str}{v:Value}:∀ {P:List Str}{vs:List Value}{i:Nat}{m:Str->Option Value},P.Nodup->P[i]?=some x->vs[i]?=some v->kindOf x=some .local →
    bindL kindOf (P.zip vs) m x=some v
  | [],_,_,_,_,h,_,_=>by simp at h
  | _::_,[],_,_,_,_,h,_=>by simp at h
  | p::P,w::vs,0,m,nd,h1,h2,hk=>by
    simp at h1 h2;subst h1;subst h2
    show bindL kindOf ((p,w)::P.zip vs) m p=_
    unfold bindL
    rw [qae fun v hv=>(List.nodup_cons.mp nd).1 (List.of_mem_zip hv).1,if_pos hk]
    simp
  | p::P,w::vs,i+1,m,nd,h1,h2,hk=>by
    show bindL kindOf ((p,w)::P.zip vs) m x=_
    unfold bindL
    exact qaf (i:=i) (List.nodup_cons.mp nd).2 (by simpa using h1) (by simpa using h2) hk
theorem qah {kindOf:Str->Option NameKind}{x:Str}{v:Value}:∀ {P:List Str}{vs:List Value}{i:Nat}{m:Str->Option Value},P.Nodup->P[i]?=some x->vs[i]?=some v->kindOf x≠some .local →
    bindC kindOf (P.zip vs) m x=some v
  | [],_,_,_,_,h,_,_=>by simp at h
  | _::_,[],_,_,_,_,h,_=>by simp at h
  | p::P,w::vs,0,m,nd,h1,h2,hk=>by
    simp at h1 h2;subst h1;subst h2
    show bindC kindOf ((p,w)::P.zip vs) m p=_
    unfold bindC
    rw [qag fun v hv=>(List.nodup_cons.mp nd).1 (List.of_mem_zip hv).1,if_neg hk]
    simp
  | p::P,w::vs,i+1,m,nd,h1,h2,hk=>by
    show bindC kindOf ((p,w)::P.zip vs) m x=_
    unfold bindC
    exact qah (i:=i) (List.nodup_cons.mp nd).2 (by simpa using h1) (by simpa using h2) hk
def Y2 (N:List Str) (vs:List V):St:=vs.map some++List.replicate (N.length - vs.length) none
def qdR (CX:CXT) (P:Program) (w:World) (K:W.Frag) (mg:Str->Option Value) (base:Heap) (N:List Str) (qual:Str) (scope:Scope) (f:Addr) (cd:Value) (A:Around) (outer:List Env) (s:Shared) (H:Hp) (E:XK):Cx where
  prog:=P
  w:=w
  K:=K
  mg:=mg
  base:=base
  A:=A.deeper (envOfC qual scope s.heap.objs.size f cd)
  N:=N
  s₀:=s
  H₀:=H
  env:=envOfC qual scope s.heap.objs.size f cd
  outer:=outer
  stack:=envOfC qual scope s.heap.objs.size f cd::outer
  ex:=[]
  calm:=true
  fn:=fun _=>true
  pn:=[]
  xe:=fun e s'=>wpAny (model P w) (A.deeper (envOfC qual scope s.heap.objs.size f cd)) (leaving (envOfC qual scope s.heap.objs.size f cd) e) (fun _ s''=>CX outer H s E e s'') (fun e' s''=>CX outer H s E e' s'') s'
theorem qbI {sc:Scope}{n:Nat}{x:Str}(h:sc.names.lookup x=some .cell):∃ c,(cellsFrom n sc.names []).lookup x=some c:=by
  have q:=W.cellsFrom_some sc.names n [] (.inl h)
  exact Option.isSome_iff_exists.mp q
theorem qdq {CX:CXT}{P:Program}{w:World}{K:W.Frag}{mg:Str->Option Value}{base:Heap}{N ps:List Str}{qual:Str}{scope:Scope}{f:Addr}{cd:Value}{A:Around}{outer:List Env}{s s1:Shared}{H:Hp}{E:XK}{us:List Value}{vs:List V}
    (S:FnScope N ps scope) (hd:A.handled=none) (e0:Env0 P w K mg base A outer s H) (hl:vs.length=ps.length) (r:yo vs us)
    (x:InCallC s s.heap.objs.size (bindL (envOfC qual scope s.heap.objs.size f cd).kindOf (ps.zip us) fun _=>none) (cellsFrom (s.heap.objs.size+1) scope.names []) (bindC (envOfC qual scope s.heap.objs.size f cd).kindOf (ps.zip us) fun _=>none) s1) :
    Inv (qdR CX P w K mg base N qual scope f cd A outer s H E) [] (Y2 N vs) H s1:=by
  have hpl:ps.length<=N.length:=by have:=congrArg List.length S.pre;rw [List.length_take] at this;omega
  obtain ⟨h1,tk,rfl,hk⟩:=x.done
  have noA:∀ b:Addr,b∉(qdR CX P w K mg base N qual scope f cd A outer s H E).ex:=fun b z=>absurd (show b∈([]:List Addr) from z) (by simp)
  refine ⟨⟨e0.mod,S.kind,rfl,rfl,qj _,fun y z c h1 h2=>?_,fun y hy=>?_,fun y c _ h=>?_,fun _=>hd,Around.frames_deeper e0.frames,.inr ⟨rfl,rfl⟩,fun b z=>absurd z (noA b),e0.bs,e0.bsz,fun b _ _=>noA b,fun b z=>absurd z (noA b),e0.funs,e0.frf⟩,
    rfl,e0.bare,Un.kept hk,⟨_,x.toInCall.ns,fun i y v h1 h2 h3=>?_⟩,fun y c h=>⟨_,x.cell y c h⟩,e0.hok.fresh (qj _),fun y c h=>?_,fun p hp=>absurd (show p∈([]:List (Addr×Obj)) from hp) (by simp),e0.hok.kept hk,?_⟩
  · exact name_of_addr x.apart (PySem.mem_of_lookup h1) (PySem.mem_of_lookup h2)
  · have hy:scope.names.lookup y=some .cell\/scope.names.lookup y=some .free:=hy
    rcases hy with hy | hy
    · exact qbI hy
    · exact absurd rfl (S.nofree _ (PySem.mem_of_lookup hy))
  · exact yl (x.above y c (PySem.mem_of_lookup h))
  · have hi:i<vs.length:=by
      unfold Y2 at h2
      by_cases hi:i<vs.length
      · exact hi
      · rw [qO (by simpa using hi)] at h2
        rw [List.getElem?_replicate] at h2
        split at h2 <;> cases h2
    have ha:vs[i]?=some v:=by
      unfold Y2 at h2
      rw [qI (by simpa using hi),List.getElem?_map] at h2
      cases e:vs[i]? with
      | none=>rw [e] at h2;cases h2
      | some a=>rw [e] at h2;cases h2;rfl
    obtain ⟨u,hu,rv⟩:=r.get ha
    have hp:ps[i]?=some y:=by
      rw [<- S.pre,List.getElem?_take_of_lt (by omega)];exact h1
    have ndP:ps.Nodup:=by rw [<- S.pre];exact S.nd.sublist (List.take_sublist _ _)
    refine ⟨u,rv,?_⟩
    rcases S.par y (List.mem_of_getElem? hp) with k | k
    · exact .inl ⟨k,qaf ndP hp hu k⟩
    · obtain ⟨c,e⟩:=qbI (n:=s.heap.objs.size+1) k
      refine .inr ⟨.inl k,c,e,?_⟩
      have q:=x.cell y c e
      rw [qah ndP hp hu (by show scope.names.lookup y≠_;rw [k];decide)] at q
      exact q
  · exact e0.hok.fresh (yl (x.above y c (PySem.mem_of_lookup h)))
  · unfold Y2
    show _=N.length
    rw [List.length_append,List.length_map,List.length_replicate]
    omega
theorem qjf {CX:CXT}{P:Program}{w:World}{K:W.Frag}{mg:Str->Option Value}{base:Heap}{k:Nat}{f:Addr}{name qual:Str}{params:Arguments}{body:List Stmt}{scope:Scope}{dV kV doc pm cdv ct oc:Value}{an od:Option Addr}
    {osl:Array (Option Value)}{N ps:List Str}{sp:Sp}(lk:K.lookup f=some ⟨oc,od,.func (W.fnOf name qual params body scope dV kV doc pm an cdv ct),osl⟩) (hcd:W.codeIn K cdv qual=true) (S:FnScope N ps scope)
    (len:∀ vs H Q E,sp vs H Q E->vs.length=ps.length)
    (hbody:∀ (A:Around) (outer:List Env) (s:Shared) (H:Hp) (vs:List V) (Q:VK) (E:XK),Room k (A.deeper (envOfC qual scope s.heap.objs.size f cdv))->sp vs H Q E →
      ∃ t,PSs (qdR CX P w K mg base N qual scope f cdv A outer s H E) body t/\t { nx:=fun _ H'=>Q .non H',rt:=Q } (Y2 N vs) H) :
    FnOk P w K mg base CX (k+1) f (W.fnOf name qual params body scope dV kV doc pm an cdv ct) ps sp:=by
  refine ⟨len,fun A outer s H args us vs Q E hr e0 hb r hsp=>?_⟩
  have hl:=len _ _ _ _ hsp
  have KX:K.In s.heap:=e0.mod.kin.keeps fun b o e=>(e0.bs b o e).1
  have lim:s.heap.NoLimit:=e0.mod.nolimit.keeps fun b o e=>(e0.bs b o e).1
  have hkind:∀ y∈ps.zip us,scope.names.lookup y.1=some .local\/(scope.names.lookup y.1=some .cell/\((cellsFrom (s.heap.objs.size+1) scope.names []).lookup y.1).isSome=true):=fun ⟨n,v⟩ hy=>by
    rcases S.par n (List.of_mem_zip hy).1 with q | q
    · exact .inl q
    · exact .inr ⟨q,W.cellsFrom_some _ _ _ (.inl q)⟩
  refine codeAny_call_function hr.depth (KX _ _ lk) rfl S.co S.gen rfl (W.codeRec_of KX hcd) (hb _ _ _ _ ?_)
  refine wpAny_newFunctionEnv_cells S.kind hkind fun env he s1 x=>?_
  subst he
  refine ⟨lim.keeps x.toInCall.keep,codeAny_func ?_⟩
  obtain ⟨t,ht,hq⟩:=hbody A outer s H vs Q E (hr.deeper _) hsp
  have I:Inv (qdR CX P w K mg base N qual scope f cdv A outer s H E) [] (Y2 N vs) H s1:=qdq S hr.hd e0 hl r x
  refine qN (ht [] s1 (Y2 N vs) H _ I hq) (fun fl s' hs=>?_) fun e s' hs=>hs
  have fin:∀ {σ':St}{H':Hp}{v:V}{u:Value},Inv (qdR CX P w K mg base N qual scope f cdv A outer s H E) [] σ' H' s'->jg v u->Q v H'->CE outer P w H s Q u s' :=
    fun {σ' H' v u} J rv q=>⟨v,H',J.os,J.bare,J.base,J.hok,rv,q⟩
  cases fl with
  | ret u =>
    obtain ⟨v,σ',H',J,rv,q⟩:=hs
    exact fin J rv q
  | next =>
    obtain ⟨σ',H',J,q⟩:=hs
    exact fin (v:=V.non) (u:=Value.none) J rfl q
  | brk =>
    obtain ⟨_,_,_,q⟩:=hs
    exact False.elim q
  | cont =>
    obtain ⟨_,_,_,q⟩:=hs
    exact False.elim q
section
variable {X:Cx}{x:Str}{p pos:Pos}{e:Expr}{es:List Expr}{t:TA}{id T:String}{r:List V->Hp->VK->Prop}
def tCB (r:List V->Hp->VK->Prop) (t:TA):TE:=fun σ H Q=>t σ H fun vs H1=>r vs H1 Q
theorem qeJ (hc:yz X (.builtin id) r) (hg:Gl X x) (hm:X.mg x=none) (hv:bootBuiltins x=some (.builtin id)) (ha:PA X (e::es) t) (hn:x ≠ "__name__" := by decide) (hdb:(x == ("__debug__" : Str))=false:=by decide)
    (he:starEach (e::es) X.env=(false,eval e X.env)::starEach es X.env:=by rfl) (hpl:(backTo pos (starEach es X.env)).any (·.1)=false:=by rfl):PE X (.Call (.Name x p) (e::es) [] pos) (tCB r t):=by
  intro pins s σ H Q I h
  refine wpAny_Call_Name_kw (YN I hg hm hv ?_ hn hdb)
  exact PyProof.Rows.callWith_builtin1 (thn (ha pos pins s σ H _ I h) fun us s1 ⟨vs,H1,I1,r1,q1⟩=>hc pins s1 σ H1 vs us Q I1 r1 q1) he hpl
theorem qcZ (hc:yz X (.type T) r) (hg:Gl X x) (hm:X.mg x=none) (hv:bootBuiltins x=some (.type T)) (ha:PA X (e::es) t) (hn:x ≠ "__name__" := by decide) (hdb:(x == ("__debug__" : Str))=false:=by decide)
    (he:starEach (e::es) X.env=(false,eval e X.env)::starEach es X.env:=by rfl) (hpl:(backTo pos (starEach es X.env)).any (·.1)=false:=by rfl):PE X (.Call (.Name x p) (e::es) [] pos) (tCB r t):=by
  intro pins s σ H Q I h
  refine wpAny_Call_Name_kw (YN I hg hm hv ?_ hn hdb)
  exact PyProof.Rows.callWith_type1 (thn (ha pos pins s σ H _ I h) fun us s1 ⟨vs,H1,I1,r1,q1⟩=>hc pins s1 σ H1 vs us Q I1 r1 q1) he hpl
end
end L2
namespace HT
open PySem PyProof.Rows
def lexLt:List Int->List Int->Bool
  | [],[]=>false
  | [],_::_=>true
  | _::_,[]=>false
  | x::xs,y::ys=>if x=y then lexLt xs ys else decide (x<y)
theorem qbV (x y:Int) (xs ys:List Int):lexLt (x::xs) (y::ys)=if x=y then lexLt xs ys else decide (x<y):=rfl
theorem Ze:lexLt [] []=false:=rfl
theorem YC (y:Int) (ys:List Int):lexLt [] (y::ys)=true:=rfl
theorem YD (x:Int) (xs:List Int):lexLt (x::xs) []=false:=rfl
theorem qe1 (A:Around) (s:Shared) (a:Int) (t:Tok) (c:Int) (u:Tok):∃ e,SeqAt.EqAt A s (.int a t) (.int c u) e/\(e=true ↔ a=c) :=
  ⟨(a == c),SeqAt.EqAt.int_int a t c u,by simp⟩
theorem qex (A:Around) (s:Shared) (a:Int) (t:Tok) (c:Int) (u:Tok) (prog:Program) (w:World) (E:Value->Shared->Prop) (Q:Value->Shared->Prop) (h:Q (.bool (decide (a<c))) s) :
    wpAny (model prog w) A (richCompare .Lt (.int a t) (.int c u)) Q E s :=
  (PyProof.Rows.lt_int h:wpAny (model prog w) A (compareOp .Lt (.int a t) (.int c u)) Q E s)
section
open PySem.SeqAt
open PySem.AutoSeq1 (wpAny_loadPart')
open PySem.MeetsSeq PySem.MeetsSeq2 PySem.MeetsSeq3
theorem Y0 (l b:Addr) (items items2:Array Value) (n n2:Nat) (dd dd2:Option Addr) (sl sl2:Array (Option Value)) (ns ms:List Int) (hi:IntsAre items.toList ns) (hj:IntsAre items2.toList ms) :
    Meets (Builtin.«tuple.__lt__» ⟨[.ref l,.ref b],[]⟩)
      (fun _ R s=>s.heap.get? l=some { cls:=.type "tuple",dict:=dd,data:=.seq items n,slots:=sl }/\s.heap.get? b=some { cls:=.type "tuple",dict:=dd2,data:=.seq items2 n2,slots:=sl2 } ∧
        R (.ok (.ret (.bool (lexLt ns ms)))) s) :=
  .of_wp fun prog w A R s h=>by
    obtain ⟨hp,g,d,tk,os⟩:=s;obtain ⟨hl,hb,h⟩:=h
    have f2:=AutoSeq1.sub_tuple_tuple
    have z1:items.size=ns.length:=by rw [<- hi.length];simp
    have z2:items2.size=ms.length:=by rw [<- hj.length];simp
    wp_walk using wpAny_loadPart' hl,wpAny_loadPart' hb,wpAny_forIn_list _ (fun yE b s'=>b.1=none/\s'=⟨hp,g,d,tk,os⟩/\∃ (vs ws:List Value) (ns' ms':List Int),yE=vs.zip ws ∧
      IntsAre vs ns'/\IntsAre ws ms'/\ns'.length+items2.size=ms'.length+items.size/\R (.ok (.ret (.bool (lexLt ns' ms')))) ⟨hp,g,d,tk,os⟩) _
    case turn =>
      rintro ⟨y,x⟩ yE b s' ⟨hb',rfl,vs,ws,ns',ms',hz,hvi,hwi,hlen,hR⟩
      cases hvi with
      | nil=>rw [List.zip_nil_left] at hz;cases hz
      | cons a t hvi' =>
        cases hwi with
        | nil=>rw [List.zip_nil_right] at hz;cases hz
        | cons c u hwi' =>
          rw [List.zip_cons_cons] at hz
          injection hz with hyx hrest
          injection hyx with hy hx
          subst hy hx
          rw [qbV] at hR
          simp only [List.length_cons] at hlen
          obtain ⟨e,he,hiff⟩:=qe1 A.in1 ⟨hp,g,d,tk,os⟩ a t c u
          refine qa (he prog w _ _ ?_)
          cases e with
          | true =>
            rw [if_pos (hiff.mp rfl)] at hR
            wp_walk
            exact ⟨rfl,rfl,_,_,_,_,hrest,hvi',hwi',by omega,hR⟩
          | false =>
            rw [if_neg (fun q=>absurd (hiff.mpr q) Bool.false_ne_true)] at hR
            have hri:=qex A.in1 ⟨hp,g,d,tk,os⟩ a t c u prog w
            wp_walk using hri
            exact ⟨_,rfl,by simpa using hR⟩
    case fin =>
      rintro ⟨b1,b2⟩ s' ⟨hb',rfl,vs,ws,ns',ms',hz,hvi,hwi,hlen,hR⟩
      simp only at hb'
      subst hb'
      have hv:lexLt ns' ms'=decide (items.size<items2.size):=by
        cases hvi with
        | nil =>
          cases hwi with
          | nil =>
            simp only [List.length_nil] at hlen
            rw [Ze]
            exact (yA (by omega)).symm
          | cons c u hw =>
            simp only [List.length_nil,List.length_cons] at hlen
            rw [YC]
            exact (qB (by omega)).symm
        | cons a t hv =>
          cases hwi with
          | nil =>
            simp only [List.length_nil,List.length_cons] at hlen
            rw [YD]
            exact (yA (by omega)).symm
          | cons c u hw =>
            rw [List.zip_cons_cons] at hz
            cases hz
      rw [hv] at hR
      wp_walk
      exact ⟨_,rfl,by simpa [Builtin.Tuple.tupleCompareSizes] using hR⟩
    case h =>
      exact ⟨rfl,rfl,items.toList,items2.toList,ns,ms,rfl,hi,hj,by omega,h⟩
end
section
variable {prog:Program}{w:World}{A:Around}{E:Value->Shared->Prop}{s:Shared}
theorem lt_tupInts {l b:Addr}{items items2:Array Value}{ns ms:List Int}{Q:Value->Shared->Prop}(hl:IsTup s.heap l items) (hb:IsTup s.heap b items2) (hi:IntsAre items.toList ns) (hj:IntsAre items2.toList ms)
    (hu:A.units<cLine) (h:Q (.bool (lexLt ns ms)) s):wpAny (model prog w) A (compareOp .Lt (.ref l) (.ref b)) Q E s:=by
  obtain ⟨⟨cls,dd,data,sl⟩,ho,hc,n,hd⟩:=id hl
  obtain ⟨⟨cls2,dd2,data2,sl2⟩,ho2,hc2,n2,hd2⟩:=id hb
  simp only at hc hd hc2 hd2
  subst hc hd hc2 hd2
  exact richCompare_meets_room (op:=.Lt) ⟨_,ho,rfl⟩ ⟨_,ho2,rfl⟩ PySem.F.slot_tuple_lt PySem.F.entry_tuple_lt (PySem.F.args_tuple_lt_2 _ _) (Y0 l b items items2 n n2 dd dd2 sl sl2 ns ms hi hj)
    ⟨ho,ho2,show Value.bool (lexLt ns ms)≠Value.notImplemented/\Q (.bool (lexLt ns ms)) s from ⟨(fun x=>nomatch x),h⟩⟩ hu
def sIx (n d:Nat):Option Int->Nat
  | none=>d
  | some v=>if v<0 then (v+(n:Int)).toNat else min v.toNat n
theorem qid (n d:Nat) (hd:d<=n) (o:Option Int):sIx n d o<=n:=by
  cases o with
  | none=>exact hd
  | some v =>
    show (if v<0 then (v+(n:Int)).toNat else min v.toNat n)<=n
    by_cases hv:v<0
    · rw [if_pos hv];omega
    · rw [if_neg hv];exact Nat.min_le_right _ _
theorem qdW (v:Int) (n d:Nat):(if v<0 then max (v+(n:Int)) 0 else min v (n:Int))=((sIx n d (some v):Nat):Int):=by
  show (if v<0 then max (v+(n:Int)) 0 else min v (n:Int))=(((if v<0 then (v+(n:Int)).toNat else min v.toNat n):Nat):Int)
  by_cases hv:v<0
  · simp only [if_pos hv];omega
  · simp only [if_neg hv];omega
theorem qb3 (lo hi:Option Int) (n:Nat):Builtin.Slice.sliceAdjust lo hi 1 (n:Int)=(((sIx n 0 lo:Nat):Int),((sIx n n hi:Nat):Int)):=by
  have h1:¬ ((1:Int)<0):=by omega
  unfold Builtin.Slice.sliceAdjust
  simp only [h1,if_false]
  refine Prod.ext ?_ ?_
  · cases lo with
    | none=>rfl
    | some v=>exact qdW v n 0
  · cases hi with
    | none=>rfl
    | some v=>exact qdW v n n
theorem qbS (i j:Nat):Builtin.Slice.slicePlaces (i:Int) (j:Int) 1=j - i:=by
  unfold Builtin.Slice.slicePlaces
  have h1:(1:Int) > 0:=by omega
  simp only [h1,if_true,Int.ediv_one]
  split <;> omega
theorem YI {v:Value}{o:Option Int}{Q:Option Int->Shared->Prop}(p:IsPart v o) (h:Q o s):wpAny (model prog w) A (Builtin.Slice.slicePartIndex v) Q E s:=by
  cases p with
  | none=>exact slicePart_none h
  | int i t=>exact slicePart_int h
theorem J3 {sl:Addr}{vl vu:Value}{lo hi:Option Int}{n:Nat}{Q:Int×Int×Nat->Shared->Prop}(hs:s.heap.IsSliceOf sl vl vu .none) (pl:IsPart vl lo) (pu:IsPart vu hi)
    (h:Q (((sIx n 0 lo:Nat):Int),1,sIx n n hi - sIx n 0 lo) s):wpAny (model prog w) A (Builtin.Slice.sliceApplied (.ref sl) (pure (n:Int))) Q E s:=by
  obtain ⟨os,hos,hcs,hds⟩:=id hs
  unfold Builtin.Slice.sliceApplied Builtin.Slice.sliceFields
  refine qa (qa (yC hos hds (x:=vl) rfl (qa (yC hos hds (x:=vu) rfl (qa (yC hos hds (x:=.none) rfl (qd ?_)))))))
  refine qa (slicePart_none ?_)
  show wpAny _ _ (if ((1:Int) == 0)=true then _ else _) _ _ s
  rw [if_neg (by decide)]
  refine qa (YI pl (qa (YI pu (qa (qd ?_)))))
  show wpAny _ _ (match Builtin.Slice.sliceAdjust lo hi 1 (n:Int) with | (lo,hi)=>pure (lo,(1:Int),Builtin.Slice.slicePlaces lo hi 1)) _ _ s
  rw [qb3 lo hi n]
  show wpAny _ _ (pure (((sIx n 0 lo:Nat):Int),(1:Int),Builtin.Slice.slicePlaces ((sIx n 0 lo:Nat):Int) ((sIx n n hi:Nat):Int) 1)) _ _ s
  rw [qbS]
  exact qd h
theorem qeE (xs:Array Value) (i k:Nat):((List.range k).filterMap fun (m:Nat)=>xs[((i:Int)+(m:Int) * 1).toNat]?).toArray=((xs.toList.drop i).take k).toArray:=by
  have e:(fun (m:Nat)=>xs[((i:Int)+(m:Int) * 1).toNat]?)=fun m=>xs[i+m]?:=by
    funext m
    have:((i:Int)+(m:Int) * 1).toNat=i+m:=by omega
    rw [this]
  rw [e]
  have:=pick_run xs i k
  rw [List.filterMap_map] at this
  have e2:((fun x=>xs[x]?) ∘ fun x=>i+x)=fun m=>xs[i+m]?:=rfl
  rw [e2] at this
  rw [this]
theorem getItem_tuple_cut {t sl:Addr}{items:Array Value}{vl vu:Value}{lo hi:Option Int}{Q:Value->Shared->Prop}(ht:IsTup s.heap t items) (hs:s.heap.IsSliceOf sl vl vu .none) (pl:IsPart vl lo) (pu:IsPart vu hi)
    (hw:¬ (sIx items.size 0 lo=0/\sIx items.size items.size hi=items.size))
    (h:Q (.ref s.heap.objs.size) { s with heap:=s.heap.push { cls:=.type "tuple",data:=.seq ((items.toList.drop (sIx items.size 0 lo)).take (sIx items.size items.size hi - sIx items.size 0 lo)).toArray } })
    (hsz:items.size<=sizeLine):wpAny (model prog w) A (getItem (.ref t) (.ref sl)) Q E s:=by
  have htake:sizeOk (.seq ((items.toList.drop (sIx items.size 0 lo)).take (sIx items.size items.size hi - sIx items.size 0 lo)).toArray):=by
    show ((items.toList.drop (sIx items.size 0 lo)).take (sIx items.size items.size hi - sIx items.size 0 lo)).toArray.size<=sizeLine
    rw [List.size_toArray,List.length_take,List.length_drop,Array.length_toList]
    omega
  have hj:sIx items.size items.size hi<=items.size:=qid _ _ (qj _) hi
  obtain ⟨os,hos,hcs,hds⟩:=id hs
  have hTs:s.TypeIs (.ref sl) "slice" := ⟨os,hos,hcs⟩
  unfold getItem
  try with_reducible refine yK ?_
  first | refine qa (qd ?_) | skip
  refine qa (wpAny_sequenceKey ht.typeIs (by decide) ?_)
  refine qa (wpAny_callSpecial?_slot (name:=Str.ofString "__getitem__") ht.typeIs PyProof.Rows.slot_tuple_getitem
    (yY PyProof.Rows.slot_tuple_getitem ht.typeIs entry_tuple_getitem ?_ (args_tuple_getitem _ _)))
  show wpAny _ _ (Builtin.Tuple.tupleItemsOf (.ref t) >>= _) _ _ s
  refine qa (tupleItemsOf_ ht ?_)
  refine qa (wpAny_typeOf hTs ?_)
  rw [if_pos (by decide)]
  refine qa (J3 hs pl pu ?_)
  have hno:¬ ((((sIx items.size 0 lo:Nat):Int) == 0 && (1:Int) == 1 && (sIx items.size items.size hi - sIx items.size 0 lo) == items.size)=true):=by
    intro q
    rw [Bool.and_eq_true,Bool.and_eq_true] at q
    have q1:((sIx items.size 0 lo:Nat):Int)=0:=eq_of_beq q.1.1
    have q2:sIx items.size items.size hi - sIx items.size 0 lo=items.size:=eq_of_beq q.2
    exact hw ⟨by omega,by omega⟩
  show wpAny _ _ (if (((sIx items.size 0 lo:Nat):Int) == 0 && (1:Int) == 1 && (sIx items.size items.size hi - sIx items.size 0 lo) == items.size)=true then _ else _) _ _ s
  rw [if_neg hno,qeE]
  first
    | exact qa (m:=Builtin.Tuple.tupleExact _) (qT (qd ⟨_,rfl,qd h⟩) htake)
    | exact qa (m:=Builtin.Tuple.tupleExact _) (qT (qa (qd (qd ⟨_,rfl,qd h⟩))) htake)
    | exact qa (qa (m:=Builtin.Tuple.tupleExact _) (qT (qd (qd ⟨_,rfl,qd h⟩)) htake))
    | exact qa (qa (m:=Builtin.Tuple.tupleExact _) (qT (qd ⟨_,rfl,qd h⟩) htake))
end
end HT
namespace L2
open PySem PySem.Spec PyProof.Rows
abbrev TO:=St->Hp->(Option Int->Hp->Prop)->Prop
def PO (X:Cx) (e:Option Expr) (t:TO):Prop :=
  ∀ (pins:List (Addr×Obj)) (s:Shared) (σ:St) (H:Hp) (Q:Option Int->Hp->Prop),Inv X pins σ H s->t σ H Q →
    wpAny (model X.prog X.w) X.A (evalPart e X.env) (fun u s'=>∃ o H',Inv X pins σ H' s'/\IsPart u o/\Q o H') X.xe s
def qgf:TO:=fun _ H Q=>Q none H
def tPart (t:TE):TO:=fun σ H Q=>t σ H fun x H1=>∃ i,x = .int i/\Q (some i) H1
theorem JN {ns:List Int}:∀ {us:List Value},yo (ns.map V.int) us->IntsAre us ns:=by
  induction ns with
  | nil=>intro us r;rw [List.map_nil] at r;cases r;exact .nil
  | cons n ns ih =>
    intro us r
    rw [List.map_cons] at r
    cases r with
    | cons r1 r2 =>
      obtain ⟨t,e⟩:=r1
      subst e
      exact .cons n t (ih r2)
section
variable {X:Cx}{e:Expr}{te:TE}{lo hi:Option Expr}{tl th:TO}{pos p2:Pos}
theorem qgC:PO X none qgf:=by
  intro pins s σ H Q I h
  rw [evalPart_none]
  exact qd ⟨none,H,I,.none,h⟩
theorem qgB (h:PE X e te):PO X (some e) (tPart te):=by
  intro pins s σ H Q I hw
  rw [evalPart_some]
  refine thn (h pins s σ H _ I hw) fun u s1 hq9=>?_
  obtain ⟨x,H1,I1,r1,q1⟩:=hq9
  obtain ⟨i,rfl,q⟩:=q1
  obtain ⟨t,rfl⟩:=r1
  exact ⟨some i,H1,I1,.int i t,q⟩
def SlR (X:Cx) (r:V->Option Int->Option Int->Hp->VK->Prop):Prop :=
  ∀ (pins:List (Addr×Obj)) (s:Shared) (σ:St) (H:Hp) (x:V) (v vl vu:Value) (lo hi:Option Int) (sl:Addr) (Q:VK),Inv X pins σ H s->jg x v->s.heap.IsSliceOf sl vl vu .none->IsPart vl lo->IsPart vu hi->r x lo hi H Q →
    ∃ T id,typeLookup (.type T) "__getitem__" = pure (some (.builtin id))/\s.TypeIs v T/\wpAny (model X.prog X.w) X.A (getItem v (.ref sl)) (EP X pins σ Q) X.xe s
theorem SlR.or {r r':V->Option Int->Option Int->Hp->VK->Prop}(h:SlR X r) (h':SlR X r'):SlR X (fun x lo hi H Q=>r x lo hi H Q\/r' x lo hi H Q):=by
  intro pins s σ H x v vl vu lo hi sl Q I rx hs pl pu q
  rcases q with q | q
  · exact h pins s σ H x v vl vu lo hi sl Q I rx hs pl pu q
  · exact h' pins s σ H x v vl vu lo hi sl Q I rx hs pl pu q
def tSl (r:V->Option Int->Option Int->Hp->VK->Prop) (te:TE) (tl th:TO):TE:=fun σ H Q=>te σ H fun x H1=>tl σ H1 fun l H2=>th σ H2 fun u H3=>r x l u H3 Q
theorem qba {r:V->Option Int->Option Int->Hp->VK->Prop}(hr:SlR X r) (he:PE X e te) (hl:PO X lo tl) (hu:PO X hi th):PE X (.Subscript e (.Slice lo hi none p2) pos) (tSl r te tl th):=by
  intro pins s σ H Q I h
  refine Subscript_ (thn (he pins s σ H _ I h) fun v s1 ⟨x,H1,I1,r1,q1⟩=>?_)
  refine wpAny_Slice (thn (hl pins s1 σ H1 _ I1 q1) fun vl s2 ⟨l,H2,I2,pl,q2⟩=>thn (hu pins s2 σ H2 _ I2 q2) fun vu s3 ⟨u,H3,I3,pu,q3⟩=>?_)
  rw [evalPart_none]
  refine qd ?_
  have I4:Inv X pins σ H3 { s3 with heap:=s3.heap.push { cls:=.type "slice",data:=.fields #[vl,vu,.none] } }:=I3.kept (t':=s3.toks) fun b ob q=>qb _ q
  obtain ⟨T,id,hT,ht,hg⟩:=hr pins { s3 with heap:=s3.heap.push { cls:=.type "slice",data:=.fields #[vl,vu,.none] } } σ H3 x v vl vu l u s3.heap.objs.size Q I4 r1 (Heap.IsSliceOf.new ..) pl pu q3
  show wpAny (model X.prog X.w) X.A (subscriptTail e (.Slice lo hi none p2) v (.ref s3.heap.objs.size)) (EP X pins σ Q) X.xe { s3 with heap:=s3.heap.push { cls:=.type "slice",data:=.fields #[vl,vu,.none] } }
  exact tail_any (ops:=[.ref s3.heap.objs.size,v]) ht hT hg (by with_unfolding_all rfl)
def qec (xs:List V) (lo hi:Option Int):List V:=(xs.drop (HT.sIx xs.length 0 lo)).take (HT.sIx xs.length xs.length hi - HT.sIx xs.length 0 lo)
theorem Yv (xs:List V) (lo hi:Option Int):(qec xs lo hi).length<=xs.length:=by
  unfold qec
  rw [List.length_take,List.length_drop]
  omega
def rSlT (K:W.Frag):V->Option Int->Option Int->Hp->VK->Prop:=fun x lo hi H Q=>∃ a xs,x = .ref a/\SqT K H a xs ∧
  ¬ (HT.sIx xs.length 0 lo=0/\HT.sIx xs.length xs.length hi=xs.length)/\∀ p,H p=none->Q (.ref p) (upd H p (.tup (qec xs lo hi)))
theorem qh2:SlR X (rSlT X.K):=by
  intro pins s σ H x v vl vu lo hi sl Q I rx hs pl pu h
  obtain ⟨a,xs,rfl,hx,hw,q⟩:=h
  cases rx
  obtain ⟨its,r,ht,hz⟩:=I.tuple hx
  have hlen:its.toArray.size=xs.length:=by rw [List.size_toArray];exact r.length.symm
  refine ⟨"tuple",_,PyProof.Rows.slot_tuple_getitem.lookup,ht.typeIs,?_⟩
  refine HT.getItem_tuple_cut ht hs pl pu (by rw [hlen];exact hw) ?_ (by rw [hlen];exact hz)
  rw [hlen]
  refine ⟨.ref s.heap.objs.size,_,I.laid (t':=s.toks) (o:=.tup (qec xs lo hi)) (fun b ob q=>qb _ q) (qj _) ?_,rfl,q _ (I.hok.fresh (qj _))⟩
  exact ⟨qJ (Yv xs lo hi) hz,_,(r.drop (HT.sIx xs.length 0 lo)).take (HT.sIx xs.length xs.length hi - HT.sIx xs.length 0 lo),IsTup.new _ _⟩
def rLtT (K:W.Frag):R2:=fun x y H Q=>∃ a b ns ms,x = .ref a/\y = .ref b/\SqT K H a (ns.map V.int)/\SqT K H b (ms.map V.int)/\Q (.bl (HT.lexLt ns ms)) H
theorem qiO (hu:X.A.units<cLine):OpR X (compareOp .Lt) (rLtT X.K):=by
  intro pins s σ H x y v u Q I rx ry h
  obtain ⟨a,b,ns,ms,rfl,rfl,ha,hb,q⟩:=h
  cases rx
  cases ry
  obtain ⟨its,r1,p1,_⟩:=I.tuple ha
  obtain ⟨its2,r2,p2,_⟩:=I.tuple hb
  have i1:IntsAre its.toArray.toList ns:=JN r1
  have i2:IntsAre its2.toArray.toList ms:=JN r2
  exact HT.lt_tupInts p1 p2 i1 i2 hu ⟨.bl (HT.lexLt ns ms),H,I,rfl,q⟩
end
def ixN (n:Nat) (i:Int):Option Nat:=if 0<=i then (if i<n then some i.toNat else none) else if -(n:Int)<=i then some (i+n).toNat else none
def atI {α:Type}(xs:List α) (i:Int):Option α:=(ixN xs.length i).bind fun j=>xs[j]?
theorem qdn {n:Nat}{i:Int}{j:Nat}(h:ixN n i=some j):seqIndex? i n=some j/\j<n/\-(n:Int)<=i/\i<n:=by
  unfold ixN at h
  by_cases h0:0<=i
  · rw [if_pos h0] at h
    by_cases h1:i<n
    · rw [if_pos h1] at h
      have e:i.toNat=j:=Option.some.inj h
      exact ⟨by rw [seqIndex_of h0 h1,e],by omega,by omega,h1⟩
    · rw [if_neg h1] at h;cases h
  · rw [if_neg h0] at h
    by_cases h1:-(n:Int)<=i
    · rw [if_pos h1] at h
      have e:(i+n).toNat=j:=Option.some.inj h
      exact ⟨by rw [seqIndex_neg (by omega) h1,e],by omega,h1,by omega⟩
    · rw [if_neg h1] at h;cases h
theorem qd6 {α:Type}{xs:List α}{i:Int}{v:α}(h:atI xs i=some v):∃ j,seqIndex? i xs.length=some j/\xs[j]?=some v/\j<xs.length/\-(xs.length:Int)<=i/\i<xs.length:=by
  unfold atI at h
  cases e:ixN xs.length i with
  | none=>rw [e] at h;cases h
  | some j =>
    rw [e] at h
    obtain ⟨h1,h2,h3,h4⟩:=qdn e
    exact ⟨j,h1,h,h2,h3,h4⟩
theorem Zw {α:Type}{xs:List α}{j:Nat}{v:α}(h:xs[j]?=some v):atI xs (j:Int)=some v:=by
  have hj:j<xs.length:=(qo.mp h).1
  have e:ixN xs.length (j:Int)=some j:=by
    unfold ixN
    rw [if_pos (by omega),if_pos (by omega)];simp
  unfold atI;rw [e];exact h
def qd9 (b:Expr):Prop:=∀ o i,subscripted b false o i=operate [o,i] (getItem o i)
def IxR (X:Cx) (r:R2):Prop :=
  ∀ (value slice:Expr) (pins:List (Addr×Obj)) (s:Shared) (σ:St) (H:Hp) (x y:V) (v u:Value) (Q:VK),Inv X pins σ H s->jg x v->jg y u->r x y H Q →
    subscripted slice false v u=operate [v,u] (getItem v u)->wpAny (model X.prog X.w) X.A (subscriptTail value slice v u) (EP X pins σ Q) X.xe s
def MtR (X:Cx) (id:String) (r:V->List V->Hp->VK->Prop):Prop :=
  ∀ (pins:List (Addr×Obj)) (s:Shared) (σ:St) (H:Hp) (x:V) (xs:List V) (v:Value) (us:List Value) (Q:VK),Inv X pins σ H s->jg x v->yo xs us->r x xs H Q →
    wpAny (model X.prog X.w) X.A (call (.builtin id) (v::us)) (EP X pins σ Q) X.xe s
section
variable {X:Cx}{a b:Expr}{ta tb:TE}{pos:Pos}
theorem IxR.or {r r':R2}(h:IxR X r) (h':IxR X r'):IxR X (fun x y H Q=>r x y H Q\/r' x y H Q):=by
  intro value slice pins s σ H x y v u Q I rx ry q hs
  rcases q with q | q
  · exact h value slice pins s σ H x y v u Q I rx ry q hs
  · exact h' value slice pins s σ H x y v u Q I rx ry q hs
theorem MtR.or {id:String}{r r':V->List V->Hp->VK->Prop}(h:MtR X id r) (h':MtR X id r'):MtR X id (fun x xs H Q=>r x xs H Q\/r' x xs H Q):=by
  intro pins s σ H x xs v us Q I rx rs q
  rcases q with q | q
  · exact h pins s σ H x xs v us Q I rx rs q
  · exact h' pins s σ H x xs v us Q I rx rs q
theorem qau {r:R2}(hr:IxR X r) (ha:PE X a ta) (hb:PE X b tb) (hs:qd9 b):PE X (.Subscript a b pos) (tOp r ta tb):=by
  intro pins s σ H Q I h
  exact Subscript_ (binT ha hb I h fun v u s2 x y H2 I2 rx ry q=>hr a b pins s2 σ H2 x y v u Q I2 rx ry q (hs _ _))
def rIxL (K:W.Frag):R2:=fun x y H Q=>∃ p xs i v,x = .ref p/\y = .int i/\SqL K H p xs/\atI xs i=some v/\Q v H
def rIxT (K:W.Frag):R2:=fun x y H Q=>∃ p xs i v,x = .ref p/\y = .int i/\SqT K H p xs/\atI xs i=some v/\Q v H
theorem j4:IxR X (rIxL X.K):=by
  intro value slice pins s σ H x y v u Q I rx ry h hs
  obtain ⟨p,xs,i,z,rfl,rfl,hq,he,q⟩:=h
  cases rx
  obtain ⟨t,rfl⟩:=ry
  obtain ⟨its,r,pl,hz⟩:=I.list hq
  obtain ⟨j,h1,h2,h3,h4,h5⟩:=qd6 he
  obtain ⟨w,ew,rw'⟩:=r.get h2
  have hl:=r.length
  have hn:=qbf
  have fin:EP X pins σ Q w s:=⟨z,H,I,rw',q⟩
  by_cases h0:0<=i
  · have hj:i.toNat=j:=by
      rw [seqIndex_of h0 h5] at h1
      exact Option.some.inj h1
    exact item_listR pl.isList h0 (by omega) (by rw [hj];simpa using ew) fin hs
  · have hj:(i+(its.toArray.size:Int)).toNat=j:=by
      rw [seqIndex_neg (by omega) h4] at h1
      rw [List.size_toArray,<- hl]
      exact Option.some.inj h1
    exact subscriptTail_builtinR (x:=w) pl.isList.typeIs slot_list_getitem.lookup
      (wpAny_getItem_list_neg (Q:=fun r s'=>r=w/\EP X pins σ Q r s') pl.isList (by omega) (by rw [List.size_toArray] <;> omega) (by omega) (by rw [hj];simpa using ew) ⟨rfl,fin⟩) hs
theorem qi9:IxR X (rIxT X.K):=by
  intro value slice pins s σ H x y v u Q I rx ry h hs
  obtain ⟨p,xs,i,z,rfl,rfl,hq,he,q⟩:=h
  cases rx
  obtain ⟨t,rfl⟩:=ry
  obtain ⟨its,r,pl,hz⟩:=I.tuple hq
  obtain ⟨j,h1,h2,h3,h4,h5⟩:=qd6 he
  obtain ⟨w,ew,rw'⟩:=r.get h2
  have hl:=r.length
  have hn:=qbf
  have fin:EP X pins σ Q w s:=⟨z,H,I,rw',q⟩
  exact subscriptTail_builtinR (x:=w) pl.typeIs slot_tuple_getitem.lookup
    (getItem_tuple (j:=j) (Q:=fun r s'=>r=w/\EP X pins σ Q r s') pl (by omega) (by omega) (by rw [List.size_toArray,<- hl];exact h1) (by simpa using ew) ⟨rfl,fin⟩) hs
theorem qbU (its:List Value) (n j:Nat) (u:Value):Obj.mapSeq (·.setIfInBounds j u) { cls:=.type "list",data:=.seq its.toArray n }={ cls:=.type "list",data:=.seq (its.set j u).toArray n }:=by
  simp [Obj.mapSeq]
theorem Inv.lst {pins:List (Addr×Obj)}{σ:St}{H:Hp}{s:Shared}{p:Addr}{xs:List V}(I:Inv X pins σ H s) (h:H p=some (.lst xs)) :
    ∃ (its:List Value) (n:Nat),yo xs its/\s.heap.get? p=some { cls:=.type "list",data:=.seq its.toArray n }/\xs.length<=sizeLine:=by
  obtain ⟨z,its,n,r,e⟩:=I.hok p _ h
  exact ⟨its,n,r,e,z⟩
theorem Inv.lstUpd {pins:List (Addr×Obj)}{σ:St}{H:Hp}{s:Shared}{p:Addr}{xs ys:List V}{its its':List Value}{n n':Nat}{f:Obj->Obj}(I:Inv X pins σ H s) (h:H p=some (.lst xs))
    (ho:s.heap.get? p=some { cls:=.type "list",data:=.seq its.toArray n }) (hf:f { cls:=.type "list",data:=.seq its.toArray n }={ cls:=.type "list",data:=.seq its'.toArray n' }) (r:yo ys its') (hz:ys.length<=sizeLine) (t:Nat) :
    Inv X pins σ (upd H p (.lst ys)) { s with heap:=s.heap.update p f,toks:=t }:=by
  have e:(s.heap.update p f).get? p=some { cls:=.type "list",data:=.seq its'.toArray n' }:=by
    rw [ja f ho (by rw [hf] <;> rfl),hf]
  refine I.write (x:=p) (e:=p) (by rw [h];trivial) (.inl rfl) (fun b u hb q=>(yT _ _ (Ne.symm hb)).trans q) ⟨_,e⟩ ?_
  exact ⟨hz,its',n',r,e⟩
def rSetL:V->V->V->Hp->(Hp->Prop)->Prop:=fun o i v H Q=>∃ p xs k j,o = .ref p/\i = .int k/\H p=some (.lst xs)/\ixN xs.length k=some j/\Q (upd H p (.lst (xs.set j v)))
theorem qa3:PSet X rSetL:=by
  intro pins s σ H o i v ov iv u Q I ro ri rv h
  obtain ⟨p,xs,k,j,rfl,rfl,hp,hj,q⟩:=h
  cases ro
  obtain ⟨t,rfl⟩:=ri
  obtain ⟨its,n,r,ho,hz⟩:=I.lst hp
  obtain ⟨h1,h2,h3,h4⟩:=qdn hj
  have hl:=r.length
  have hn:=qbf
  have I':Inv X pins σ (upd H p (.lst (xs.set j v))) { s with heap:=s.heap.update p (Obj.mapSeq (·.setIfInBounds j u)) } :=
    I.lstUpd hp ho (qbU its n j u) (r.set rv j) (by rw [List.length_set];exact hz) s.toks
  by_cases h0:0<=k
  · have hk:k.toNat=j:=by
      rw [seqIndex_of h0 h4] at h1
      exact Option.some.inj h1
    exact W.ki_setAt ho h0 (by omega) (by rw [List.size_toArray,<- hl];exact h4) (by rw [hk];exact ⟨_,I',q⟩)
  · have hk:(k+(its.toArray.size:Int)).toNat=j:=by
      rw [seqIndex_neg (by omega) h3] at h1
      rw [List.size_toArray,<- hl]
      exact Option.some.inj h1
    exact W.ki_setBack ho (by omega) (by rw [List.size_toArray,<- hl];exact h3) (by omega) (by rw [hk];exact ⟨_,I',q⟩)
theorem ZI (lo hi:Option Int) (n:Nat):(sliceBounds lo hi none n).1=((HT.sIx n 0 lo:Nat):Int)/\(sliceBounds lo hi none n).2.1=((HT.sIx n n hi:Nat):Int)/\(sliceBounds lo hi none n).2.2=1:=by
  refine ⟨?_,?_,rfl⟩
  · cases lo with
    | none=>simp [sliceBounds,HT.sIx]
    | some i =>
      simp only [sliceBounds,HT.sIx,Option.getD_none,show (1:Int) > 0 by decide,if_true]
      by_cases h:i<0
      · simp only [h,if_true] <;> omega
      · simp only [h,if_false] <;> omega
  · cases hi with
    | none=>simp [sliceBounds,HT.sIx]
    | some i =>
      simp only [sliceBounds,HT.sIx,Option.getD_none,show (1:Int) > 0 by decide,if_true]
      by_cases h:i<0
      · simp only [h,if_true] <;> omega
      · simp only [h,if_false] <;> omega
theorem Y4 (its:List Value) (lo hi:Option Int):slicePick its.toArray lo hi none=((its.drop (HT.sIx its.length 0 lo)).take (HT.sIx its.length its.length hi - HT.sIx its.length 0 lo)).toArray:=by
  obtain ⟨h1,h2,h3⟩:=ZI lo hi its.toArray.size
  unfold slicePick
  rw [h1,h2,h3]
  simp only [sliceRange_one,pick_run,List.size_toArray] <;> rfl
def rSlL (K:W.Frag):V->Option Int->Option Int->Hp->VK->Prop:=fun x lo hi H Q=>∃ a xs,x = .ref a/\SqL K H a xs/\∀ p,H p=none->Q (.ref p) (upd H p (.lst (qec xs lo hi)))
theorem qgj:SlR X (rSlL X.K):=by
  intro pins s σ H x v vl vu lo hi sl Q I rx hs pl pu h
  obtain ⟨a,xs,rfl,hx,q⟩:=h
  cases rx
  obtain ⟨its,r,ht,hz⟩:=I.list hx
  have hlen:=r.length
  refine ⟨"list",_,slot_list_getitem.lookup,ht.isList.typeIs,?_⟩
  refine wpAny_getItem_list_slice ht.isList hs pl pu .none (by simp) ?_ (by rw [List.size_toArray] <;> omega)
  rw [Y4,<- hlen]
  refine ⟨.ref s.heap.objs.size,_,I.laid (t':=s.toks) (o:=.lst (qec xs lo hi)) (fun b ob q=>qb _ q) (qj _) ?_,rfl,q _ (I.hok.fresh (qj _))⟩
  exact ⟨qJ (Yv xs lo hi) hz,_,0,(r.drop (HT.sIx xs.length 0 lo)).take (HT.sIx xs.length xs.length hi - HT.sIx xs.length 0 lo),qr _ rfl⟩
theorem qab:yz X (.builtin "len") (fun xs H Q=>∃ p ys,xs=[.ref p]/\(SqL X.K H p ys\/SqT X.K H p ys)/\Q (.int ys.length) H):=by
  intro pins s σ H xs us Q I r h
  obtain ⟨p,ys,rfl,hq,q⟩:=h
  obtain ⟨u,rfl,rx⟩:=J1 r
  cases rx
  have hn:=qbf
  rcases hq with hq | hq
  · obtain ⟨its,r',pl,hz⟩:=I.list hq
    have hlen:=r'.length
    exact Calls.call_len_list pl.isList (by simp only [List.size_toArray] <;> omega) ⟨.int ys.length,H,I.tok _,⟨s.toks+1,by rw [List.size_toArray,hlen]⟩,q⟩
  · obtain ⟨its,r',pl,hz⟩:=I.tuple hq
    have hlen:=r'.length
    exact len_tuple pl (by simp only [List.size_toArray] <;> omega) ⟨.int ys.length,H,I.tok _,⟨s.toks+1,by rw [List.size_toArray,hlen]⟩,q⟩
theorem yz.or {f:Value}{r r':List V->Hp->VK->Prop}(h:yz X f r) (h':yz X f r'):yz X f (fun xs H Q=>r xs H Q\/r' xs H Q):=by
  intro pins s σ H xs us Q I rs q
  rcases q with q | q
  · exact h pins s σ H xs us Q I rs q
  · exact h' pins s σ H xs us Q I rs q
theorem qaa:yz X (.type "list") (fun xs H Q=>∃ p ys,xs=[.ref p]/\(SqL X.K H p ys\/SqT X.K H p ys)/\∀ l,H l=none->Q (.ref l) (upd H l (.lst ys))):=by
  intro pins s σ H xs us Q I r h
  obtain ⟨p,ys,rfl,hq,q⟩:=h
  obtain ⟨u,rfl,rx⟩:=J1 r
  cases rx
  have fin:∀ (its:List Value),yo ys its->ys.length<=sizeLine->∀ (h':Heap) (c':Nat),(∀ b o',s.heap.get? b=some o'->h'.get? b=some o') →
      h'.get? s.heap.objs.size=some { cls:=.type "list",dict:=none,data:=.seq its.toArray c',slots:=#[] }->EP X pins σ Q (.ref s.heap.objs.size) { s with heap:=h' }:=fun its r' hz h' c' kp e =>
    ⟨.ref s.heap.objs.size,_,I.laid (t':=s.toks) kp (qj _) (show jC X.prog X.w _ h' _ (.lst ys) from ⟨hz,its,c',r',e⟩),rfl,q _ (I.hok.fresh (qj _))⟩
  rcases hq with hq | hq
  · obtain ⟨its,r',pl,hz⟩:=I.list hq
    have hlen:=r'.length
    obtain ⟨o,ho,hc,n,hd⟩:=pl.isList
    exact call_list_seq p (.inl rfl) ho hc hd (fun h' c' kp e=>fin its r' hz h' c' kp e) (by simp only [List.size_toArray] <;> omega)
  · obtain ⟨its,r',pl,hz⟩:=I.tuple hq
    have hlen:=r'.length
    obtain ⟨o,ho,hc,n,hd⟩:=pl
    exact call_list_seq p (.inr rfl) ho hc hd (fun h' c' kp e=>fin its r' hz h' c' kp e) (by simp only [List.size_toArray] <;> omega)
theorem Zs:yz X (.type "tuple") (fun xs H Q=>∃ p ys,xs=[.ref p]/\((SqL X.K H p ys/\∀ l,H l=none->Q (.ref l) (upd H l (.tup ys)))\/(SqT X.K H p ys/\Q (.ref p) H))):=by
  intro pins s σ H xs us Q I r h
  obtain ⟨p,ys,rfl,h⟩:=h
  obtain ⟨u,rfl,rx⟩:=J1 r
  cases rx
  rcases h with ⟨hq,q⟩ | ⟨hq,q⟩
  · obtain ⟨its,r',pl,hz⟩:=I.list hq
    have hlen:=r'.length
    refine call_tuple_list pl.isList (fun h' kp=>?_) (by simp only [List.size_toArray] <;> omega)
    have I1:Inv X pins σ H { s with heap:=h' }:=I.kept (t':=s.toks) kp
    have I2:Inv X pins σ (upd H h'.objs.size (.tup ys)) { s with heap:=h'.push { cls:=.type "tuple",data:=.seq its.toArray } } :=
      I1.laid (t':=s.toks) (fun b o e=>qb _ e) (qj _) (show jC X.prog X.w _ _ _ (.tup ys) from ⟨hz,its,r',IsTup.new _ _⟩)
    exact ⟨.ref h'.objs.size,_,I2,rfl,q _ (I1.hok.fresh (qj _))⟩
  · obtain ⟨its,r',pl,hz⟩:=I.tuple hq
    exact call_tuple_same pl ⟨.ref p,H,I,rfl,q⟩
def tyV (K:W.Frag) (T:String) (x:V) (H:Hp):Prop:=match x with
  | .str _=>T = "str"
  | .int _=>T = "int"
  | .ref p=>(T = "list" /\ ∃ xs,SqL K H p xs)\/(T = "tuple" /\ ∃ o,K.lookup p=some o/\o.cls = .type "tuple" /\ o.dict=none) ∨
      (T = "dict" /\ ((∃ kvs,H p=some (.dK kvs))\/∃ kvs,H p=some (.dT kvs)))\/(T = "set" /\ ∃ S n,H p=some (.set S n))
  | _=>False
theorem qhX {pins:List (Addr×Obj)}{σ:St}{H:Hp}{s:Shared}{T:String}{x:V}{v:Value}(I:Inv X pins σ H s) (r:jg x v) (ty:tyV X.K T x H) :
    s.TypeIs v T/\∀ a,v = .ref a->∃ ob,s.heap.get? a=some ob/\ob.dict=none:=by
  cases x with
  | str z =>
    obtain ⟨t,rfl⟩:=r
    cases (show T = "str" from ty)
    exact ⟨typeIs_str s z t,fun _ e=>nomatch e⟩
  | int i =>
    obtain ⟨t,rfl⟩:=r
    cases (show T = "int" from ty)
    exact ⟨typeIs_int s i t,fun _ e=>nomatch e⟩
  | ref p =>
    cases r
    rcases ty with ⟨rfl,xs,hq⟩ | ⟨rfl,o,hk,hc,hd⟩ | ⟨rfl,hk⟩ | ⟨rfl,S,n,hk⟩
    · obtain ⟨its,_,pl,_⟩:=I.list hq
      refine ⟨pl.isList.typeIs,fun a e=>?_⟩
      cases e
      obtain ⟨o,n,e,c,hd,_⟩:=pl
      exact ⟨o,e,hd⟩
    · refine ⟨⟨o,I.kIn p o hk,hc⟩,fun a e=>?_⟩
      cases e
      exact ⟨o,I.kIn _ o hk,hd⟩
    · have z:∃ o,s.heap.get? p=some o/\o.ExactDict:=by
        rcases hk with ⟨kvs,hk⟩ | ⟨kvs,hk⟩
        · obtain ⟨_,_,_,_,o,_,_,e,ex,_⟩:=I.hok p _ hk
          exact ⟨o,e,ex⟩
        · obtain ⟨_,_,_,_,o,_,_,e,ex,_⟩:=I.hok p _ hk
          exact ⟨o,e,ex⟩
      obtain ⟨o,e,ex⟩:=z
      refine ⟨⟨o,e,ex.1⟩,fun a e2=>?_⟩
      cases e2
      exact ⟨o,e,ex.2.1⟩
    · obtain ⟨o,_,_,_,e,ex,_⟩:=I.hok p _ hk
      refine ⟨⟨o,e,ex.1⟩,fun a e2=>?_⟩
      cases e2
      exact ⟨o,e,ex.2.1⟩
  | _=>exact False.elim ty
def tBM (K:W.Frag) (T:String) (r:V->List V->Hp->VK->Prop) (to:TE) (t:TA):TE:=fun σ H Q=>to σ H fun x H1=>tyV K T x H1/\t σ H1 fun xs H2=>r x xs H2 Q
variable {o e:Expr}{es:List Expr}{to:TE}{t:TA}{name:Str}{apos cpos:Pos}{T id:String}{r:V->List V->Hp->VK->Prop}
theorem qc0 (pa:PlainAttrs T) (slot:Slot T name id) (hty:typeOf (.builtin id)=pure (.type "method_descriptor")) (hm:MtR X id r) (ho:PE X o to) (ha:PA X (e::es) t)
    (hbase:attributeBase o name X.env (eval o X.env)=eval o X.env:=by rfl)
    (hfew:((backTo cpos (starEach (e::es) X.env)).all (fun x=>!x.1) && (backToKw cpos (keywordEach [] X.env)).all (fun x=>x.1.isSome)
      && decide ((e::es).length+([]:List Keyword).length+(if ([]:List Keyword).isEmpty then 0 else 1)<30))=true:=by rfl)
    (hline:(apos.endLine == cpos.line)=true:=by rfl) (hs:starEach (e::es) X.env=(false,eval e X.env)::starEach es X.env:=by rfl) (hplain:(backTo cpos (starEach es X.env)).any (·.1)=false:=by rfl) :
    PE X (.Call (.Attribute o name apos) (e::es) [] cpos) (tBM X.K T r to t):=by
  intro pins s σ H Q I h
  refine wpAny_Call_method_late hbase hfew hline rfl (thn (ho pins s σ H _ I h) fun v s1 ⟨x,H1,I1,r1,ty,q1⟩=>?_)
  obtain ⟨h1,h2⟩:=qhX I1 r1 ty
  refine ⟨T,id,pa,slot,hty,h1,h2,?_⟩
  have hA:=ha cpos pins s1 σ H1 _ I1 q1
  rw [hs] at hA ⊢
  refine Calls.callWith_builtin (by show (false || (backTo cpos (starEach es X.env)).any (·.1))=false;rw [hplain] <;> rfl) (Calls.evalArgs_plain ?_)
  exact thn hA fun us s2 ⟨vs,H2,I2,r2,q2⟩=>hm pins s2 σ H2 x vs v us Q I2 r1 r2 q2
end
def MtM (X:Cx) (id:String) (r:V->List V->Hp->VK->Prop):Prop :=
  ∀ (pins:List (Addr×Obj)) (s:Shared) (σ:St) (H:Hp) (x:V) (xs:List V) (v:Value) (us:List Value) (Q:VK),Inv X pins σ H s->jg x v->yo xs us->r x xs H Q →
    wpAny (model X.prog X.w) X.A (call (.builtin id) (v::us)) (EP X pins σ Q) X.xe s
theorem yo.one:∀ {x:V}{us:List Value},yo [x] us->∃ u,us=[u]/\jg x u
  | _,_,.cons r .nil=>⟨_,rfl,r⟩
theorem yo.two:∀ {x y:V}{us:List Value},yo [x,y] us->∃ u v,us=[u,v]/\jg x u/\jg y v
  | _,_,_,.cons r (.cons q .nil)=>⟨_,_,rfl,r,q⟩
theorem yo.zero:∀ {us:List Value},yo [] us->us=[]
  | _,.nil=>rfl
theorem yo.eraseIdx:∀ {xs:List V}{us:List Value}(i:Nat),yo xs us->yo (xs.eraseIdx i) (us.eraseIdx i)
  | _,_,_,.nil=>.nil
  | _,_,0,.cons _ t=>t
  | _,_,i+1,.cons r t=>.cons r (yo.eraseIdx i t)
theorem yo.reverse {xs:List V}{us:List Value}(h:yo xs us):yo xs.reverse us.reverse:=by
  induction h with
  | nil=>exact .nil
  | cons r t ih=>rw [List.reverse_cons,List.reverse_cons];exact yo.append ih (.cons r .nil)
section
variable {X:Cx}{pins:List (Addr×Obj)}{σ:St}{H:Hp}{s:Shared}{l b:Addr}{xs ys zs:List V}
theorem Inv.lset {its its':List Value}{n:Nat}{f:Array Value->Array Value}{t':Nat}(I:Inv X pins σ H s) (hH:H l=some (.lst xs))
    (e:s.heap.get? l=some { cls:=.type "list",data:=.seq its.toArray n }) (hf:f its.toArray=its'.toArray) (hv:yo ys its') (hz:ys.length<=sizeLine) :
    Inv X pins σ (upd H l (.lst ys)) { s with heap:=s.heap.update l (Obj.mapSeq f),toks:=t' }:=by
  have q:=PySem.IsL.update e f
  rw [hf] at q
  refine I.write (x:=l) (e:=l) (by rw [hH];exact trivial) (.inl rfl) (fun b' u hb hu=>(yT s.heap (Obj.mapSeq f) (Ne.symm hb)).trans hu) ⟨_,q⟩ ?_
  exact ⟨hz,its',_,hv,q⟩
theorem Inv.lnew {its:List Value}{t':Nat}(I:Inv X pins σ H s) (hv:yo ys its) (hz:ys.length<=sizeLine) :
    Inv X pins σ (upd H s.heap.objs.size (.lst ys)) { s with heap:=s.heap.push { cls:=.type "list",data:=.seq its.toArray },toks:=t' } :=
  I.laid (fun _ _ q=>qb _ q) (qj _) ⟨hz,its,0,hv,qr _ rfl⟩
theorem Inv.fresh (I:Inv X pins σ H s):H s.heap.objs.size=none:=I.hok.fresh (qj _)
theorem Inv.lstM (I:Inv X pins σ H s) (hH:H l=some (.lst xs)):xs.length<=sizeLine/\∃ (its:List Value) (n:Nat),yo xs its/\xs.length=its.length/\s.heap.get? l=some { cls:=.type "list",data:=.seq its.toArray n }:=by
  obtain ⟨z,its,n,r,e⟩:=I.hok l _ hH
  exact ⟨z,its,n,r,r.length,e⟩
end
section
variable {X:Cx}
def rAppend:V->List V->Hp->VK->Prop:=fun x vs H Q=>∃ l xs y,x = .ref l/\vs=[y]/\H l=some (.lst xs)/\xs.length<sizeLine/\Q .non (upd H l (.lst (xs++[y])))
theorem ZR:MtM X "list.append" rAppend:=by
  intro pins s σ H x vs v us Q I rx rv h
  obtain ⟨l,xs,y,rfl,rfl,hH,hz,q⟩:=h
  cases rx
  obtain ⟨u,rfl,ru⟩:=rv.one
  obtain ⟨z,its,n,r,hl,e⟩:=I.lstM hH
  refine call_meets F.slot_list_append ⟨_,e,rfl⟩ F.entry_list_append (F.args_list_append_2 _ _) (PySem.list_append l its.toArray n u (by rw [List.size_toArray];omega)) ⟨e,?_⟩
  refine ⟨.non,_,I.lset (its':=its++[u]) hH e (by simp) (r.append (.cons ru .nil)) ?_,rfl,q⟩
  rw [List.length_append,List.length_singleton]
  omega
end
section
variable {prog:Program}{w:World}{A:Around}{E:Value->Shared->Prop}{s:Shared}
set_option maxRecDepth 100000 in
end
section
variable {X:Cx}
end
end L2
namespace Att
open PySem PySem.W PySem.Calls PyProof.Rows
theorem Yp {P:Params}{h:Heap}:∀ (ns:List Int) (vs:List Value),WellAll P h vs (ns.map WData.int)->IntsAre vs ns:=by
  intro ns
  induction ns with
  | nil =>
    intro vs w
    rw [List.map_nil] at w
    cases w
    exact .nil
  | cons n ns ih =>
    intro vs w
    rw [List.map_cons] at w
    cases w with
    | cons a b =>
      cases a
      exact .cons _ _ (ih _ b)
theorem qcA {l:OpenLaw}{n:Nat}(hn:l.most=some n) {P:Params}{h:Heap}{args:List WData}{vals:List Value}
    (hpre:l.row.toRowW.claim.pre args=true) (hwl:WellAll P h vals args) :
    ∃ a vs ns,vals=[Value.ref a]/\args=[WData.list (ns.map WData.int)]/\h.get? a=some { cls:=.type "list",data:=.seq vs.toArray }/\IntsAre vs ns/\ns.length<=n:=by
  have hsh:WShape.hasAll [] args [.list .int]=true:=(pre_splitW hpre).1
  have hc:l.pre.holds [] { args:=args }=true:=(pre_splitW hpre).2
  obtain ⟨d,r,rfl,h1,h2⟩:=hasAllW_cons hsh
  obtain rfl:=hasAllW_nil h2
  obtain ⟨xs,rfl,h3⟩:=hasW_list h1
  obtain ⟨ns,rfl⟩:=items_int h3
  have hlen:ns.length<=n:=by
    unfold OpenLaw.pre at hc
    have h4:(WTm.not (.lt (.lit (.int (n:Int))) (.len (.arg 0)))).holds [] { args:=[.list (ns.map .int)] }=true:=by
      have h4:=(holds_andW hc).1
      rw [hn] at h4
      exact h4
    have h5:=condW_of h4 (w_not (w_lt w_lit (w_len_list (w_arg rfl))))
    rw [List.length_map] at h5
    refine Nat.le_of_not_lt fun q=>?_
    have q':(n:Int)<((ns.length:Nat):Int):=by omega
    first
      | (rw [qB q'] at h5;exact absurd h5 (by decide))
      | (simp at h5;omega)
  cases hwl with
  | cons w1 w2 =>
    cases w2
    cases w1 with
    | list ho hall=>exact ⟨_,_,ns,rfl,rfl,ho,Yp ns _ hall,hlen⟩
theorem qcR (l:OpenLaw) (args:List WData):l.row.toRowW.claim.post args (.bool true) args=true :=
  postW_of (r:=l.row.toRowW) (X:=(true == true))
    (show WShape.has [] (.bool true) .bool=true by first | rfl | decide | simp [WShape.has,WShape.arms,WShape.armsAll])
    (show (WTm.eq .res (.lit (.bool true))).value [] { args:=args,res:=some (.bool true),after:=args }=some (.bool (true == true)) from w_eq_bool (w_res rfl) w_lit) rfl
theorem attach_call {l:OpenLaw}{n:Nat}{q:Program}{loose:List Str}{XP:(Str->Option Value)->Heap->Prop}{YP:World->Heap->Prop}{d:DefRec}
    (hn:l.most=some n) (hdf:d.params.defaults=[])
    (call:∀ (w:World) (s₀ s₁:Shared) (mg mb:Str->Option Value) (fa:Addr) (o:Obj) (pm cd doc:Value) (a:Addr) (vs:List Value) (ns:List Int),
      Ground q loose [] XP w s₀ mg mb s₁.heap->YP w s₁.heap →
      s₁.heap.get? fa=some o->o.data = .func (docDef d.name d.params d.body d.scope pm cd doc)->s₁.heap.CodeRec cd d.name->mg d.name=some (.ref fa) →
      s₁.heap.get? a=some { cls:=.type "list",data:=.seq vs.toArray }->IntsAre vs ns->ns.length<=n->s₁.gens=#[] →
      codeAny (model l.prog w) callerA (.call (.ref fa) ⟨[.ref a],[]⟩) (fun r s'=>r = .ok (.ret (.bool true))/\OldK s₁.heap s'.heap/\s'.os=s₁.os/\AllBare s'.gens) s₁) :
    WalkO q loose XP YP l.row.toRowW d [] (fun f vs=>PySem.call f vs):=by
  intro w s₀ s₁ mg mb G Y fa o pm cd doc dV kV ho hd hcd hD hmg hg args vals as hpre hlay hrd hwl hlo
  obtain rfl:dV = .none:=Dflts.none hD hdf
  obtain rfl:kV = .none:=Dflts.noKw hD
  obtain ⟨a,vs,ns,rfl,rfl,hobj,hints,hlen⟩:=qcA hn hpre hwl
  refine enter_call (codeAny_mono (call w s₀ s₁ mg mb fa o pm cd doc a vs ns G Y ho (fd_plain hd) hcd hmg hobj hints hlen hg) fun r s' hq=>?_)
  obtain ⟨rfl,h2,h3,h4⟩:=hq
  exact ⟨.inl ⟨.bool true,.bool true,[],rfl,fun _=>rfl,.bool true,qcR l _,fun _=>⟨List.Pairwise.nil,fun _ hm=>(nomatch hm)⟩⟩,h2,h3,h4⟩
section
variable {prog:Program}{w:World}{A:Around}{E:Value->Shared->Prop}{s:Shared}{K:Frag}
def ledger (h:Heap) (L d:Addr):List (Addr×Obj):=(List.range h.objs.size).filterMap fun a=>if a=L\/a=d then none else (h.get? a).map fun o=>(a,o)
end
end Att
namespace L2
open PySem PySem.Spec PyProof.Rows
theorem ZD:∀ {vs:List Value}{ns:List Int},IntsAre vs ns->yo (ns.map V.int) vs
  | _,_,.nil=>.nil
  | _,_,.cons n t h=>.cons ⟨t,rfl⟩ (ZD h)
def Only (H:Hp):Prop:=∀ b,H b=none\/∃ o xs,H b=some (.frz o (.lst xs))
theorem qeR {P:Program}{w:World}{K:W.Frag}{mg mb:Str->Option Value}{CX:CXT}{k:Nat}{fa a:Addr}{fd:FuncData}{x:Str}{sp:Sp}{s₁:Shared}{vs:List Value}{ns:List Int}
    (KX:K.In s₁.heap) (hns:s₁.heap.Ns mainGlobals mg) (hb:s₁.heap.Ns builtinsNs mb) (hbb:∀ x:Str,x ≠ "__name__" -> mb x=bootBuiltins x) (hlim:s₁.heap.NoLimit) (hg:s₁.gens=#[])
    (ha:s₁.heap.get? a=some { cls:=.type "list",data:=.seq vs.toArray }) (hi:IntsAre vs ns) (hl:ns.length<=sizeLine) (hr:Room k callerA)
    (F:∀ base:Heap,K.In base->base.Ns mainGlobals mg->FnOk P w K mg base CX k fa fd [x] sp) (hbind:∀ (s:Shared) (u:Value),BindsTo s fd ⟨[u],[]⟩ [(x,u)])
    (hsp:∀ H:Hp,Only H->SqL K H a (ns.map V.int)->sp [.ref a] H (fun v _=>v = .bl true) fun _ _ _=>False)
    (hCX:∀ H e s',CX [] H s₁ (fun _ _ _=>False) e s'->False) :
    codeAny (model P w) callerA (.call (.ref fa) ⟨[.ref a],[]⟩) (fun r s'=>r = .ok (.ret (.bool true))/\OldK s₁.heap s'.heap/\s'.os=s₁.os/\AllBare s'.gens) s₁:=by
  have rv:=ZD hi
  have lenV:=hi.length
  -- from an abstract heap in which nothing but the script may be tracked
  have core:∀ H:Hp,Only H->SqL K H a (ns.map V.int)->HOk P w H s₁.heap->(∀ b,H b≠none->b=a)->(H a≠none->K.lookup a=none) →
      codeAny (model P w) callerA (.call (.ref fa) ⟨[.ref a],[]⟩) (fun r s'=>r = .ok (.ret (.bool true))/\OldK s₁.heap s'.heap/\s'.os=s₁.os/\AllBare s'.gens) s₁:=by
    intro H hO hS hok hA hK
    have base_of:∀ {b:Addr}{o:Obj},s₁.heap.get? b=some o->H b=none->(qeV s₁.heap H).get? b=some o:=fun e n=>qeU e n
    have noA:∀ {b:Addr}{o:Obj}{es:Array DictEntry}{ep:Nat},s₁.heap.get? b=some o->o.data = .dict es ep->H b=none:=fun {b o es ep} e d=>by
      cases q:H b with
      | none=>rfl
      | some u =>
        have e':b=a:=hA b (by rw [q];simp)
        subst e'
        rw [ha] at e;cases e
        have d':Data.seq vs.toArray _=Data.dict es ep:=d
        cases d'
    have nsK:∀ {b:Addr}{m:Str->Option Value},s₁.heap.Ns b m->(qeV s₁.heap H).Ns b m:=fun {b m} ⟨o,es,ep,e,d,r⟩=>⟨o,es,ep,base_of e (noA e d),d,r⟩
    have hKb:K.In (qeV s₁.heap H):=fun b o e=>base_of (KX b o e) (by
      cases q:H b with
      | none=>rfl
      | some u =>
        have e':b=a:=hA b (by rw [q];simp)
        subst e'
        rw [hK (by rw [q];simp)] at e;cases e)
    have hM:Mod K mg (qeV s₁.heap H):=⟨hKb,nsK hns,⟨mb,nsK hb,hbb⟩,let ⟨mc,h1,h2⟩:=hlim;⟨mc,nsK h1,h2⟩⟩
    have e0:Env0 P w K mg (qeV s₁.heap H) callerA [] s₁ H:=⟨rfl,hM,fun b o e=>qgT e,Nat.le_of_eq (qdu _ _),trivial,fun b hb=>absurd (show b∈([]:List Addr) from hb) (by simp),hok,.of_eq hg⟩
    refine codeAny_mono ((F _ hKb (nsK hns)).run callerA [] s₁ H ⟨[.ref a],[]⟩ [.ref a] [.ref a] _ _ hr e0 (hbind s₁ (.ref a)) (.cons rfl .nil) (hsp H hO hS)) fun r s' h=>?_
    cases r with
    | error e=>exact (hCX H e s' h).elim
    | ok fl =>
      cases fl with
      | next=>exact False.elim h
      | brk=>exact False.elim h
      | cont=>exact False.elim h
      | ret u =>
        obtain ⟨v,H',os,bare,un,hok',r',q⟩:=h
        have q':v = .bl true:=q
        subst q'
        obtain rfl:u=Value.bool true:=r'
        refine ⟨rfl,OldK.of_keep fun b o e=>?_,os,bare⟩
        cases q:H b with
        | none=>exact un.keep b o e q (by intro z;exact absurd (show b∈([]:List Addr) from z) (by simp)) (by simp)
        | some u =>
          rcases hO b with z | ⟨ob,xs,z⟩
          · rw [q] at z;cases z
          · have z2:=un.frzs b ob _ z
            obtain ⟨e1,_⟩:=hok b _ z
            obtain ⟨e2,_⟩:=hok' b _ z2
            rw [e] at e1;cases e1
            exact e2
  cases hk:K.lookup a with
  | some o =>
    -- the script is one of the module's own objects
    have e:=KX a o hk
    rw [ha] at e
    cases e
    refine core (fun _=>none) (fun _=>.inl rfl) (.inr ⟨_,vs.toArray,_,hk,rfl,rfl,rfl,by rw [List.size_toArray,lenV];exact hl,by simpa using rv⟩) (fun b u z=>by have z':(none:Option HO)=some u:=z;cases z') (fun b z=>absurd rfl z) fun z=>absurd rfl z
  | none =>
    refine core (fun b=>if b=a then some (.frz { cls:=.type "list",data:=.seq vs.toArray } (.lst (ns.map V.int))) else none) (fun b=>?_) (.inl (.inr ⟨{ cls:=.type "list",data:=.seq vs.toArray },if_pos rfl⟩)) (fun b u z=>?_) (fun b z=>?_) fun _=>hk
    · by_cases hb:b=a
      · exact .inr ⟨_,_,if_pos hb⟩
      · exact .inl (if_neg hb)
    · by_cases hb:b=a
      · have z':=(if_pos hb).symm.trans z
        cases z'
        subst hb
        exact ⟨ha,by rw [List.length_map];exact hl,vs,_,rv,ha⟩
      · have z':=(if_neg hb).symm.trans z
        cases z'
    · by_cases hb:b=a
      · exact hb
      · exact absurd (if_neg hb) z
abbrev KOf {K:W.Frag}{h:Heap}(_:K.In h):W.Frag:=K
theorem walk_of {l:W.OpenLaw}{n k:Nat}{q:Program}{loose:List Str}{XP:(Str->Option Value)->Heap->Prop}{YP:World->Heap->Prop}{d:DefRec}{K:Params->W.Frag}{CX:World->CXT}{sp:World->Sp}{x:Str}
    (hn:l.most=some n) (hn2:n<=sizeLine) (hdf:d.params.defaults=[]) (hr:Room k callerA)
    (hY:∀ (w:World) (h:Heap),YP w h->(K w.params).In h)
    (F:∀ (w:World) (mg:Str->Option Value) (fa:Addr) (h:Heap),(K w.params).In h->h.Ns mainGlobals mg->mg d.name=some (.ref fa) →
      ∃ fd:FuncData,(∀ (s:Shared) (u:Value),BindsTo s fd ⟨[u],[]⟩ [(x,u)]) ∧
        ∀ base:Heap,(K w.params).In base->base.Ns mainGlobals mg->FnOk l.prog w (K w.params) mg base (CX w) k fa fd [x] (sp w))
    (hsp:∀ (w:World) (H:Hp) (a:Addr) (ns:List Int),ns.length<=n->Only H->SqL (K w.params) H a (ns.map V.int)->sp w [.ref a] H (fun v _=>v = .bl true) fun _ _ _=>False)
    (hCX:∀ (w:World) (H:Hp) (s:Shared) (e:Value) (s':Shared),CX w [] H s (fun _ _ _=>False) e s'->False) :
    W.WalkO q loose XP YP l.row.toRowW d [] (fun f vs=>PySem.call f vs):=by
  refine Att.attach_call hn hdf fun w s₀ s₁ mg mb fa o pm cd doc a vs ns G Y ho hd hcd hmg hobj hints hlen hg=>?_
  have KX:=hY w _ Y
  obtain ⟨fd,hb,hF⟩:=F w mg fa _ KX G.T.g hmg
  exact qeR KX G.T.g G.T.b G.T.builtins G.T.nolimit hg hobj hints (qJ hlen hn2) hr hF hb (fun H hO hS=>hsp w H a ns hlen hO hS) fun H e s'=>hCX w H s₁ e s'
def Ja (s:Stmt):Arguments:=match s with
  | .FunctionDef _ a _ _ _ _ _ _ _ _=>a
  | _=>{ posonlyargs:=[],args:=[],vararg:=none,kwonlyargs:=[],kw_defaults:=[],kwarg:=none,defaults:=[] }
def yX (s:Stmt):List Stmt:=match s with
  | .FunctionDef _ _ b _ _ _ _ _ _ _=>b
  | _=>[]
def qt (s:Stmt):Scope:=match s with
  | .FunctionDef _ _ _ _ _ _ sc _ _ _=>sc
  | _=>{ kind:=.function,names:=[],isGenerator:=false,isCoroutine:=false }
abbrev CX0:CXT:=fun _ _ _ _ _ _=>False
abbrev E0:XK:=fun _ _ _=>False
structure Fun (K:W.Frag) (x qual:Str) (st:Stmt) (f:Addr) (fd:FuncData):Prop where
  ex:∃ (oc:Value) (od:Option Addr) (kV doc pm:Value) (an:Option Addr) (cdv ct:Value) (osl:Array (Option Value)),
    fd=W.fnOf x qual (Ja st) (yX st) (qt st) .none kV doc pm an cdv ct/\K.lookup f=some ⟨oc,od,.func fd,osl⟩/\W.codeIn K cdv qual=true
  kp:W.keepIn K (.ref f)=true
section
variable {P:Program}{w:World}{K:W.Frag}{mg:Str->Option Value}{base:Heap}
theorem Fun.ok {x qual:Str}{st:Stmt}{f:Addr}{fd:FuncData}{N ps:List Str}{k:Nat}{sp:Sp}(F:Fun K x qual st f fd) (S:FnScope N ps (qt st)) (len:∀ vs H Q E,sp vs H Q E->vs.length=ps.length)
    (hbody:∀ (cdv:Value) (A:Around) (outer:List Env) (s:Shared) (H:Hp) (vs:List V) (Q:VK) (E:XK),Room k (A.deeper (envOfC qual (qt st) s.heap.objs.size f cdv))->sp vs H Q E →
      ∃ t,PSs (qdR CX0 P w K mg base N qual (qt st) f cdv A outer s H E).nox (yX st) t/\t { nx:=fun _ H'=>Q .non H',rt:=Q } (Y2 N vs) H):FnOk P w K mg base CX0 (k+1) f fd ps sp:=by
  obtain ⟨oc,od,kV,doc,pm,an,cdv,ct,osl,rfl,lk,hcd⟩:=F.ex
  refine qjf lk hcd S len fun A outer s H vs Q E hr hsp=>?_
  obtain ⟨t,h,q⟩:=hbody cdv A outer s H vs Q E hr hsp
  exact ⟨t,h.nox,q⟩
theorem Fun.binds {x qual:Str}{st:Stmt}{f:Addr}{fd:FuncData}{ps:List Str}(F:Fun K x qual st f fd)
    (h:∀ (kV doc pm:Value) (an:Option Addr) (cdv ct:Value) (us:List Value),us.length=ps.length->bindArgs (W.fnOf x qual (Ja st) (yX st) (qt st) .none kV doc pm an cdv ct) ⟨us,[]⟩=pure (ps.zip us)):qaW K fd ps []:=by
  obtain ⟨oc,od,kV,doc,pm,an,cdv,ct,osl,rfl,lk,hcd⟩:=F.ex
  exact .all (h kV doc pm an cdv ct)
theorem qfS {x qual:Str}{st:Stmt}{f:Addr}{oc:Value}{od an:Option Addr}{osl:Array (Option Value)}{kV doc pm cdv ct:Value}(l:K.lookup f=some ⟨oc,od,.func (W.fnOf x qual (Ja st) (yX st) (qt st) .none kV doc pm an cdv ct),osl⟩)
    (c:W.codeIn K cdv qual=true) (k:W.keepIn K (.ref f)=true):Fun K x qual st f (W.fnOf x qual (Ja st) (yX st) (qt st) .none kV doc pm an cdv ct):=⟨⟨oc,od,kV,doc,pm,an,cdv,ct,osl,rfl,l,c⟩,k⟩
end
section
variable {X:Cx}
theorem pv (i:Nat) {x:Str}{pos:Pos}(hN:X.N[i]?=some x:=by rfl) (hv:Vis X.env.scope x:=by first | exact Or.inl rfl | exact Or.inr (Or.inl rfl) | exact Or.inr (Or.inr rfl)) (hd:(x == ("__debug__" : Str))=false:=by decide)
    (hcd:(x == ("__classdict__" : Str))=false:=by decide):PE X (.Name x pos) (tVar i):=qfM hN hv hd hcd
end
theorem qbh {A B:Prop}(h:B):if false=true then A else B:=by
  rw [if_neg Bool.false_ne_true]
  exact h
theorem qb6 {A B:Prop}(h:A):if true=true then A else B:=by
  rw [if_pos rfl]
  exact h
theorem Jk {c A B:Prop} [Decidable c] (h1:c->A) (h2:¬ c->B):if c then A else B:=by
  by_cases h:c
  · rw [if_pos h]
    exact h1 h
  · rw [if_neg h]
    exact h2 h
def qU (H H':Hp):Prop:=∀ b o,H b=some o->H' b=some o
theorem qU.refl (H:Hp):qU H H:=fun _ _ h=>h
theorem qU.trans {H H1 H2:Hp}(a:qU H H1) (b:qU H1 H2):qU H H2:=fun c o h=>b c o (a c o h)
theorem qU.free {H H':Hp}(e:qU H H') {l:Addr}(h:H' l=Option.none):H l=Option.none:=by
  cases q:H l with
  | none=>rfl
  | some o =>
    rw [e l o q] at h
    cases h
theorem qU.seq {K:W.Frag}{H H':Hp}{a:Addr}{xs:List V}(e:qU H H') (h:SqL K H a xs):SqL K H' a xs:=by
  rcases h with (h | ⟨o,h⟩) | h
  · exact .inl (.inl (e _ _ h))
  · exact .inl (.inr ⟨o,e _ _ h⟩)
  · exact .inr h
end L2
set_option maxHeartbeats 4000000
namespace L2
open PySem PySem.Spec PyProof.Rows
theorem jc {n:Nat}(h:n<=4000):n<sizeLine:=jK h (by decide)
def qD (X:Cx) (L:List Str) (scope:Scope) (cl:List (Str×Addr)) (C:Addr) (s₂:Shared) (H₂:Hp) (fp:List Addr):Cx where
 prog:=X.prog
 w:=X.w
 K:=X.K
 mg:=X.mg
 base:=X.base
 A:=X.A
 N:=X.N++L
 s₀:=s₂
 H₀:=H₂
 env:=compEnvC scope cl C X.env
 outer:=X.stack
 stack:=X.stack
 ex:=fp
 fn:=fun _=>false
 calm:=X.calm
 pn:=[]
 xe:=fun _ _=>False
def jz (sc:Scope) (N L:List Str) (scope:Scope):Bool :=
 decide (scope.kind = .function) && scope.names.all (fun y=>decide (y.2≠.cell) && (decide (y.2≠.local) || (decide (scope.names.lookup y.1=some .local) && decide (y.1∉N))) &&
  (decide (y.2≠.free) || decide (sc.names.lookup y.1=some .cell) || decide (sc.names.lookup y.1=some .free))) && decide ((N++L).Nodup)
theorem y8 {sc:Scope}{N L:List Str}{scope:Scope}(h:jz sc N L scope=true):scope.kind = .function:=by
 simp only [jz,Bool.and_eq_true,decide_eq_true_eq] at h
 exact h.1.1
theorem yM {sc:Scope}{N L:List Str}{scope:Scope}(h:jz sc N L scope=true) {y:Str×NameKind}(hy:y∈scope.names) :
  y.2≠.cell/\(y.2 = .local->scope.names.lookup y.1=some .local/\y.1∉N)/\(y.2 = .free->sc.names.lookup y.1=some .cell\/sc.names.lookup y.1=some .free):=by
 simp only [jz,Bool.and_eq_true,decide_eq_true_eq,List.all_eq_true,Bool.or_eq_true] at h
 have q:=h.1.2 y hy
 obtain ⟨⟨q1,q2⟩,q3⟩:=q
 refine ⟨q1,fun e=>?_,fun e=>?_⟩
 ·rcases q2 with q2 | q2
  ·exact absurd e q2
  ·exact q2
 ·rcases q3 with (q3 | q3) | q3
  ·exact absurd e q3
  ·exact .inl q3
  ·exact .inr q3
theorem Jc {env:Env}:∀ (names:List (Str×NameKind)) (acc:List (Str×Addr)),(∀ y∈names,y.2 = .free->∃ c,env.cells.lookup y.1=some c) →
  (∀ x c,acc.lookup x=some c->env.cells.lookup x=some c) →
  ∃ cl,(forIn names acc (fun (x:Str×NameKind) (cs:List (Str×Addr))=>match x with
   | (name,kind)=>if (kind == NameKind.free)=true then do let a <- cellOf env name;pure (ForInStep.yield ((name,a)::cs)) else pure (ForInStep.yield cs)):Sem (List (Str×Addr)))=pure cl ∧
   (∀ x c,cl.lookup x=some c->env.cells.lookup x=some c)/\(∀ y∈names,y.2 = .free->∃ c,cl.lookup y.1=some c)/\(∀ x c,acc.lookup x=some c->∃ c',cl.lookup x=some c')
 | [],acc,_,ha=>⟨acc,rfl,ha,fun _ h=>(nomatch h),fun _ c e=>⟨c,e⟩⟩
 | (n,k)::r,acc,hf,ha=>by
  by_cases hk:k = .free
  ·subst hk
   obtain ⟨c,hc⟩:=hf (n,.free) qg rfl
   have ha':∀ x c',((n,c)::acc).lookup x=some c'->env.cells.lookup x=some c':=fun x c' e=>by
    by_cases hx:x=n
    ·subst hx
     simp [List.lookup_cons] at e
     rw [<- e];exact hc
    ·have:(x == n)=false:=by simpa using hx
     simp [List.lookup_cons,this] at e
     exact ha x c' e
   obtain ⟨cl,e1,e2,e3,e4⟩:=Jc r ((n,c)::acc) (fun y hy=>hf y (qe _ hy)) ha'
   refine ⟨cl,?_,e2,fun y hy hfr=>?_,fun x c' e=>?_⟩
   ·rw [List.forIn_cons]
    show (if (NameKind.free == NameKind.free)=true then (do let a <- cellOf env n;pure (ForInStep.yield ((n,a)::acc))) else pure (ForInStep.yield acc)) >>= _=_
    rw [if_pos (by decide)]
    unfold cellOf
    rw [hc]
    simp only [pure_bind]
    exact e1
   ·rcases List.mem_cons.mp hy with rfl | hy
    ·exact e4 n c (by simp [List.lookup_cons])
    ·exact e3 y hy hfr
   ·by_cases hx:x=n
    ·subst hx
     exact e4 x c (by simp [List.lookup_cons])
    ·have:(x == n)=false:=by simpa using hx
     exact e4 x c' (by simp [List.lookup_cons,this];exact e)
  ·obtain ⟨cl,e1,e2,e3,e4⟩:=Jc r acc (fun y hy=>hf y (qe _ hy)) ha
   refine ⟨cl,?_,e2,fun y hy hfr=>?_,e4⟩
   ·rw [List.forIn_cons]
    have hb:(k == NameKind.free)=false:=by simpa using hk
    show (if (k == NameKind.free)=true then (do let a <- cellOf env n;pure (ForInStep.yield ((n,a)::acc))) else pure (ForInStep.yield acc)) >>= _=_
    rw [hb,if_neg (by simp)]
    simp only [pure_bind]
    exact e1
   ·rcases List.mem_cons.mp hy with rfl | hy
    ·exact absurd hfr hk
    ·exact e3 y hy hfr
theorem JS {env:Env}{scope:Scope}(hf:∀ y∈scope.names,y.2 = .free->∃ c,env.cells.lookup y.1=some c) :
  ∃ cl,closureFor scope env=pure cl/\(∀ x c,cl.lookup x=some c->env.cells.lookup x=some c)/\(∀ y∈scope.names,y.2 = .free->∃ c,cl.lookup y.1=some c):=by
 obtain ⟨cl,e1,e2,e3,_⟩:=Jc scope.names [] hf (fun x c e=>by simp at e)
 refine ⟨cl,?_,e2,e3⟩
 unfold closureFor
 simp only [bind_pure_comp,map_pure] at *
 first
  | exact e1
  | (rw [e1];rfl)
  | (simp only [bind_pure];exact e1)
theorem YM {names:List (Str×NameKind)}{x:Str}{k:NameKind}(h:names.lookup x=some k):(x,k)∈names:=PySem.mem_of_lookup h
theorem JK {env:Env}:∀ {names:List (Str×NameKind)}{x:Str}{k:NameKind},
  (names.map fun (n,k)=>if (k == NameKind.free && env.scope.kind == .function && env.kindOf n == some .cell) then (n,NameKind.cell) else (n,k)).lookup x=some k →
  ∃ k',names.lookup x=some k'/\(k=k'\/(k' = .free/\k = .cell))
 | [],_,_,h=>by simp at h
 | (n,k0)::r,x,k,h=>by
  cases hx:x == n with
  | true =>
   by_cases hc:(k0 == NameKind.free && env.scope.kind == .function && env.kindOf n == some .cell)=true
   ·simp only [List.map_cons,if_pos hc,List.lookup_cons,hx] at h
    have hk:k0 = .free:=by
     simp only [Bool.and_eq_true,beq_iff_eq] at hc
     exact hc.1.1
    exact ⟨k0,by simp [List.lookup_cons,hx],.inr ⟨hk,(Option.some.inj h).symm⟩⟩
   ·simp only [List.map_cons,if_neg hc,List.lookup_cons,hx] at h
    exact ⟨k0,by simp [List.lookup_cons,hx],.inl (Option.some.inj h).symm⟩
  | false =>
   have h':(r.map fun (n,k)=>if (k == NameKind.free && env.scope.kind == .function && env.kindOf n == some .cell) then (n,NameKind.cell) else (n,k)).lookup x=some k:=by
    by_cases hc:(k0 == NameKind.free && env.scope.kind == .function && env.kindOf n == some .cell)=true
    ·simp only [List.map_cons,if_pos hc,List.lookup_cons,hx] at h;exact h
    ·simp only [List.map_cons,if_neg hc,List.lookup_cons,hx] at h;exact h
   obtain ⟨k',e,q⟩:=JK h'
   exact ⟨k',by simp [List.lookup_cons,hx];exact e,q⟩
def Ifs (X:Cx) (ifs:List Expr) (tt:TT):Prop :=
 ∀ (pins:List (Addr×Obj)) (s:Shared) (σ:St) (H:Hp) (Q:Bool->Hp->Prop),Inv X pins σ H s->tt σ H Q →
  wpAny (model X.prog X.w) X.A (forIn ifs true fun c r=>if r=true then do let ok <- isTrue c X.env (eval c X.env);pure (ForInStep.yield ok) else pure (ForInStep.yield r)) (TP X pins σ Q) X.xe s
def tYes:TT:=fun _ H Q=>Q true H
theorem qg5 {X:Cx}:Ifs X [] tYes:=fun pins s σ H Q I h=>wpAny_tests_nil ⟨H,I,h⟩
theorem qg4 {X:Cx}{c:Expr}{t:TT}(h:PT X c t):Ifs X [c] t:=fun pins s σ H Q I q=>wpAny_tests_one (h pins s σ H Q I q)
def qfq (k:Nat) (g:TG) (tt:TT) (te:TE) (σ:St) (Q:VK) (J:It) (H1:Hp):Prop:=∃ W:Nat->Nat->List V->St->Hp->Prop,(∃ m,W 0 m [] (σ++List.replicate k none) H1)/\∀ i m ys σ' H,W i m ys σ' H →
 (J.stop i H/\∀ D,H D=none->Q (.ref D) (upd H D (.lst ys))) ∨
 (J.go i H/\ys.length<sizeLine/\∃ N:List V->St->Hp->Prop,(∀ ys' σ' H',N ys' σ' H'->∃ m',m'<m/\W (i+1) m' ys' σ' H') ∧
  ∀ x H',J.yld i H x H'->g x σ' H' fun σ2 H2=>tt σ2 H2 fun b H3=>if b=true then te σ2 H3 fun y H4=>N (ys++[y]) σ2 H4 else N ys σ2 H3)
def qgg (k:Nat) (wi:TI) (g:TG) (tt:TT) (te:TE):TE:=fun σ H Q=>wi σ H (qfq k g tt te σ Q)
section
variable {prog:Program}{w:World}{A:Around}{R:Result->Shared->Prop}{s:Shared}
theorem Jj {elt target iter:Expr}{ifs:List Expr}{scope:Scope}{pos:Pos}{it acc:Value}{env:Env}(I:Nat->Shared->Prop)
  (turn:∀ n s,I n s->wpAny (model prog w) A (pyNext it) (fun r s₁=>match r with
   | none=>R (.ok .next) s₁
   | some v=>wpAny (model prog w) A (letOwnedTupleGo target it v) (fun _ s₁'=>wpAny (model prog w) A (assign target env v) (fun _ s₂ =>
     wpAny (model prog w) A (forIn ifs true fun c r=>if r=true then do let ok <- isTrue c env (eval c env);pure (ForInStep.yield ok) else pure (ForInStep.yield r)) (fun ok s₃ =>
      if ok=true then wpAny (model prog w) A (eval elt env) (fun x s₄ =>
       wpAny (model prog w) A (call (.builtin "list.append") [acc,x]) (fun _ s₅=>∃ m,m<n/\I m s₅) (fun _ _=>False) s₄) (fun _ _=>False) s₃
      else ∃ m,m<n/\I m s₃) (fun _ _=>False) s₂) (fun _ _=>False) s₁') (fun _ _=>False) s₁) (fun _ _=>False) s)
  (n:Nat) (h:I n s) :
  codeAny (model prog w) A (.compLoop (.ListComp elt [⟨target,iter,ifs,0⟩] scope pos) 0 it acc env) R s:=by
 refine codeAny_loop rfl I (fun n s hI=>?_) n h
 show wpAny _ A ((compTurn (.ListComp elt [⟨target,iter,ifs,0⟩] scope pos) 0 it acc env).onRaise (fun x=>do noteFrame x env;theTreesLotGoes x)) _ _ s
 refine wpAny_noted ?_
 rw [compTurn_list]
 refine qa (wpAny_standAt (qa (qN (turn n s hI) (fun r s₁ h₁=>?_) fun _ _ h'=>h'.elim)))
 cases r with
 | none=>exact qd h₁
 | some v =>
  refine qa (qN h₁ (fun _ s₁' h₁'=>?_) fun _ _ h'=>h'.elim)
  refine qa (qN h₁' (fun _ s₂ h₂=>qa (qN h₂ (fun ok s₃ h₃=>?_) fun _ _ h'=>h'.elim)) fun _ _ h'=>h'.elim)
  cases ok with
  | false=>exact qd ⟨rfl,h₃⟩
  | true =>
   exact qa (qa (qN h₃ (fun x s₄ h₄=>qa (qN h₄ (fun _ s₅ h₅=>qd (qd ⟨rfl,h₅⟩)) fun _ _ h'=>h'.elim)) fun _ _ h'=>h'.elim))
end
section
variable {X:Cx}
theorem qdS {pins:List (Addr×Obj)}{σ:St}{H:Hp}{s₂:Shared}{L:List Str}{scope:Scope}{cl:List (Str×Addr)}{C:Addr}{fp:List Addr}{sc:Scope}{N:List Str}
  (I:Inv X pins σ H s₂) (hsc:X.env.scope=sc) (hN:X.N=N) (ok:jz sc N L scope=true) (hc1:∀ x c,cl.lookup x=some c->X.env.cells.lookup x=some c)
  (hc2:∀ y∈scope.names,y.2 = .free->∃ c,cl.lookup y.1=some c) (hf:∀ b∈fp,qaV X pins H b) (hlt:∀ b∈fp,b<s₂.heap.objs.size) (hC:s₂.heap.objs.size<=C) :
  (qD X L scope cl C s₂ H fp).Ok where
 mod:=I.ok.mod
 kind:=(show scope.kind = .function from y8 ok)
 glob:=I.ok.glob
 blt:=I.ok.blt
 above:=hC
 inj:=fun x y c h1 h2=>I.ok.inj x y c (hc1 x c h1) (hc1 y c h2)
 has:=fun x hx=>by
  have hx':∃ k,(relabel scope X.env).names.lookup x=some k/\(k = .cell\/k = .free):=by
   rcases hx with h | h
   ·exact ⟨_,h,.inl rfl⟩
   ·exact ⟨_,h,.inr rfl⟩
  obtain ⟨k,e,hk⟩:=hx'
  obtain ⟨k',e',q⟩:=JK e
  have hm:=YM e'
  have nc:=(yM ok hm).1
  have hfree:k' = .free:=by
   rcases q with q | q
   ·rcases hk with hk | hk
    ·exact absurd (q.symm.trans hk) nc
    ·exact q.symm.trans hk
   ·exact q.1
  exact hc2 (x,k') hm hfree
 cab:=fun x c h _=>by cases h
 hd:=I.ok.hd
 frames:=I.ok.frames
 stk:=.inl rfl
 exf:=fun b hb=>⟨qk (qy (hlt b hb) hC),fun x c e=>(hf b hb).2.2.2.2.1 x c (hc1 x c e)⟩
 bs:=I.bs
 bsz:=qJ I.ok.bsz I.sz
 noex:=fun b o e hb=>by
  rcases (hf b hb).2.2.2.1 with z | z
  ·exact I.ok.noex b o e z
  ·exact absurd (qy (qh (I.ok.bs b o e).1) z) (yN _)
 exfs:=fun b hb z=>by
  rcases List.mem_cons.mp (I.stkSub b z) with q | q
  ·exact (hf b hb).2.1 q
  ·exact (hf b hb).2.2.1 q
 funs:=I.stack
 frf:=I.stkFree
theorem YV {pins:List (Addr×Obj)}{σ:St}{H:Hp}{s₂ s₄:Shared}{L:List Str}{scope:Scope}{cl:List (Str×Addr)}{C:Addr}{fp:List Addr}{sc:Scope}{N:List Str}{m:Str->Option Value}
  (I:Inv X pins σ H s₂) (hsc:X.env.scope=sc) (hN:X.N=N) (ok:jz sc N L scope=true) (hc1:∀ x c,cl.lookup x=some c->X.env.cells.lookup x=some c)
  (Y:(qD X L scope cl C s₂ H fp).Ok) (hC:s₂.heap.objs.size<=C) (hos:s₄.os=s₂.os) (hg:AllBare s₄.gens)
  (old:∀ b o,s₂.heap.get? b=some o->s₄.heap.get? b=some o) (hns:s₄.heap.Ns C m):Inv (qD X L scope cl C s₂ H fp) [] (σ++List.replicate L.length none) H s₄ where
 ok:=Y
 os:=hos
 bare:=hg
 base:=Un.kept old
 loc:=by
  refine ⟨m,hns,fun i x v e1 e2 e3=>?_⟩
  have hl:σ.length=X.N.length:=I.len
  have hi:i<σ.length:=by
   by_cases h:i<σ.length
   ·exact h
   ·rw [qO (by omega),List.getElem?_replicate] at e2
    split at e2 <;> cases e2
  rw [qI hi] at e2
  have e1':X.N[i]?=some x:=by
   have:(X.N++L)[i]?=some x:=e1
   rwa [qI (by omega)] at this
  have e3':∃ k,(relabel scope X.env).names.lookup x=some k/\(k = .local\/k = .cell\/k = .free):=by
   rcases e3 with h | h | h
   ·exact ⟨_,h,.inl rfl⟩
   ·exact ⟨_,h,.inr (.inl rfl)⟩
   ·exact ⟨_,h,.inr (.inr rfl)⟩
  obtain ⟨k,ek,hk⟩:=e3'
  obtain ⟨k',e',q⟩:=JK ek
  have hm:=YM e'
  obtain ⟨nc,nl,fr⟩:=yM ok hm
  have hk':k' = .free:=by
   rcases q with q | q
   ·rcases hk with hk | hk | hk
    ·have hl':k' = .local:=q.symm.trans hk
     exact absurd (hN ▸ List.mem_of_getElem? e1') (nl hl').2
    ·exact absurd (q.symm.trans hk) nc
    ·exact q.symm.trans hk
   ·exact q.1
  have hX:X.env.kindOf x=some .cell\/X.env.kindOf x=some .free:=by
   have:=fr hk'
   rw [<- hsc] at this
   exact this
  obtain ⟨m₀,hn₀,hl₀⟩:=I.loc
  obtain ⟨u,r,look⟩:=hl₀ i x v e1' e2 (.inr hX)
  refine ⟨u,r,.inr ⟨?_,?_⟩⟩
  ·show (relabel scope X.env).names.lookup x=some .cell\/(relabel scope X.env).names.lookup x=some .free
   rcases hk with hk | hk | hk
   ·exfalso
    rcases q with q | q
    ·rw [hk] at q;rw [hk'] at q;cases q
    ·rw [hk] at q;exact nomatch q.2
   ·exact .inl (hk ▸ ek)
   ·exact .inr (hk ▸ ek)
  ·rcases look with ⟨z,_⟩ | ⟨_,c,ec,hcell⟩
   ·exfalso
    rcases hX with h | h <;> rw [h] at z <;> cases z
   ·obtain ⟨c',ec'⟩:=Y.has x (by
     rcases hk with hk | hk | hk
     ·exfalso
      rcases q with q | q
      ·rw [hk] at q;rw [hk'] at q;cases q
      ·rw [hk] at q;exact nomatch q.2
     ·exact .inl (hk ▸ ek)
     ·exact .inr (hk ▸ ek))
    have hcl:cl.lookup x=some c':=ec'
    have:c'=c:=Option.some.inj ((hc1 x c' hcl).symm.trans ec)
    subst this
    refine ⟨c',hcl,?_⟩
    obtain ⟨o,ho,hd⟩:=hcell
    exact ⟨o,old _ _ ho,hd⟩
 cell:=fun x c e=>by
  obtain ⟨v,o,ho,hd⟩:=I.cell x c (hc1 x c e)
  exact ⟨v,o,old _ _ ho,hd⟩
 free:=I.hok.fresh hC
 freeC:=fun x c e=>I.freeC x c (hc1 x c e)
 pin:=fun p hp=>absurd (show p∈([]:List (Addr×Obj)) from hp) (by simp)
 hok:=I.hok.kept old
 len:=by
  show _=(X.N++L).length
  have hl:σ.length=X.N.length:=I.len
  simp [hl]
theorem Z9 {pins:List (Addr×Obj)}{σ σ':St}{H H':Hp}{s₂ s':Shared}{L:List Str}{scope:Scope}{cl:List (Str×Addr)}{fp:List Addr}{its:List Value}{ys:List V}{D C:Addr}{n:Nat}{pl:List (Addr×Obj)}
  (I:Inv X pins σ H s₂) (hf:∀ b∈fp,qaV X pins H b) (hD:s₂.heap.objs.size=D)
  (J:Inv (qD X L scope cl C s₂ H fp) pl σ' H' s') (hpD:s'.heap.get? D=some { cls:=.type "list",data:=.seq its.toArray n }) (hHD:H' D=none) (hv:yo ys its) (hz:ys.length<=sizeLine) :
  Inv X pins σ (upd H' D (.lst ys)) s':=by
 have B:Un (frs X.stack) fp H H' s₂.heap s'.heap:=J.base
 have neD:∀ b o,s₂.heap.get? b=some o->b≠D:=fun b o e=>by rw [<- hD];exact qk (qh e)
 refine I.call' (ch:=fp) J.os ⟨B.keep,B.slot,fun b o e hn hx=>?_,B.there,fun b xs e=>?_,fun b o u e=>?_,fun b ps e=>?_⟩ (fun b o e=>?_) J.bare (fun b hb=>⟨(hf b hb).2.2.2.1,(hf b hb).2.1,(hf b hb).2.2.2.2.1,(hf b hb).2.2.2.2.2⟩)
 ·rw [qP (neD b o e)];exact B.free b o e hn hx
 ·have:=B.tups b xs e
  rw [qP (qM this hHD)];exact this
 ·have:=B.frzs b o u e
  rw [qP (qM this hHD)];exact this
 ·obtain ⟨more,this⟩:=B.tbls b ps e
  exact ⟨more,by rw [qP (qM this hHD)];exact this⟩
 ·by_cases hb:b=D
  ·subst hb
   rw [qV] at e
   cases e
   exact ⟨hz,its,n,hv,hpD⟩
  ·rw [qP hb] at e
   exact (J.hok b o e).stay (fun _ _ _ q=>q) (fun c q=>by rw [qP (qM q hHD)];exact q) fun c xs q=>by rw [qP (qM q hHD)];exact q
theorem YW {pins:List (Addr×Obj)}{σ:St}{H:Hp}{s₂:Shared}{L:List Str}{scope:Scope}{cl:List (Str×Addr)}{fp:List Addr}{sc:Scope}{N:List Str}{tg elt iter:Expr}{ifs:List Expr}{pos:Pos}
  {g:TG}{tt:TT}{te:TE}{Q:VK}{J:It}{it:Addr}{tn:Nat->Heap->Prop}{RR:Value->Addr->Result->Shared->Prop}{E:Value->Shared->Prop}
  (hc:X.calm=true) (hsc:X.env.scope=sc) (hN:X.N=N) (ok:jz sc N L scope=true) (hc1:∀ x c,cl.lookup x=some c->X.env.cells.lookup x=some c)
  (hc2:∀ y∈scope.names,y.2 = .free->∃ c,cl.lookup y.1=some c)
  (hg:∀ cl C s₂ H₂ fp,PG (qD X L scope cl C s₂ H₂ fp) tg g) (hi:∀ cl C s₂ H₂ fp,Ifs (qD X L scope cl C s₂ H₂ fp) ifs tt) (he:∀ cl C s₂ H₂ fp,PE (qD X L scope cl C s₂ H₂ fp) elt te)
  (I:Inv X pins σ H s₂) (T:Turn X.prog X.w X.K tg J fp it tn) (st:tn 0 s₂.heap) (hf:∀ b∈fp,qaV X pins H b) (hw:qfq L.length g tt te σ Q J H)
  (hR:∀ D C m H' s' ys,s'.heap.Ns C m->s₂.heap.objs.size=D->s₂.heap.objs.size<C->H' C=none->D≠C->Inv X pins σ (upd H' D (.lst ys)) s'->Q (.ref D) (upd H' D (.lst ys))->RR (.ref D) C (.ok .next) s') :
  wpAny (model X.prog X.w) X.A (newList []) (fun acc s₃=>wpAny (model X.prog X.w) X.A (newFunctionEnv scope X.env.globals cl [] X.env.qual none .none (some X.env)) (fun cenv s₄ =>
   codeAny (model X.prog X.w) X.A (.compStart (.ListComp elt [⟨tg,iter,ifs,0⟩] scope pos) 0 (.ref it) acc { cenv with scope:=relabel scope X.env }) (RR acc cenv.locals) s₄) E s₃) E s₂:=by
 refine qT (wpAny_newFunctionEnv (fun y hy=>(yM ok hy).1) (by intro y hy;simp at hy) (fun h₁ hns₁ hsb₁=>?_) (y8 ok))
 dsimp only at hns₁ hsb₁ ⊢
 generalize hH2:s₂.heap.push { cls:=.type "list",dict:=none,data:=.seq ([]:List Value).toArray }=H2 at hns₁ hsb₁ ⊢
 have hC:H2.objs.size=s₂.heap.objs.size+1:=by rw [<- hH2,yr]
 have hCle:s₂.heap.objs.size<=H2.objs.size:=by rw [hC];exact Nat.le_succ _
 have hDC:s₂.heap.objs.size≠H2.objs.size:=by rw [hC];exact qk (Nat.lt_succ_self _)
 have hlt:∀ b∈fp,b<s₂.heap.objs.size:=fun b hb=>by
  obtain ⟨o,e,_⟩:=T.obj 0 _ st b hb
  exact qh e
 have below:∀ b,b<s₂.heap.objs.size->b≠H2.objs.size:=fun b hb=>by rw [hC];exact qk (Nat.lt_succ_of_lt hb)
 have old:∀ b o,s₂.heap.get? b=some o->h₁.get? b=some o:=fun b o e=>hsb₁.extBut b o (below b (qh e)) (qb _ (hH2 ▸ qb _ e))
 have hacc:h₁.get? s₂.heap.objs.size=some { cls:=.type "list",data:=.seq ([]:List Value).toArray 0 }:=hsb₁.extBut _ _ hDC (qb _ (hH2 ▸ qr _ rfl))
 have Yok:=qdS (L:=L) (scope:=scope) (cl:=cl) (C:=H2.objs.size) (fp:=fp) I hsc hN ok hc1 hc2 hf hlt hCle
 generalize hDn:s₂.heap.objs.size=D at *
 generalize hCn:H2.objs.size=C at *
 have st₁:tn 0 h₁:=T.keep _ _ _ st fun b _ o e=>old b o e
 -- the block's own iterators
 have cellD:∀ x c,cl.lookup x=some c->c≠D:=fun x c e=>by
  obtain ⟨v,q⟩:=I.cell x c (hc1 x c e)
  rw [<- hDn]
  exact qk q.lt
 have fpY:∀ {H':Hp}{its:List Value}{n:Nat},(∀ b∈fp,H' b=none)->∀ b∈fp,qaV (qD X L scope cl C s₂ H fp) [(D,{ cls:=.type "list",data:=.seq its.toArray n })] H' b:=fun {H' its n} hn b hb=>by
  refine ⟨hn b hb,(Yok.exf b hb).1,Yok.exfs b hb,.inl hb,(Yok.exf b hb).2,fun p hp=>?_⟩
  have e:p=(D,{ cls:=.type "list",data:=.seq its.toArray n }):=by
   have:p∈[(D,({ cls:=.type "list",data:=.seq its.toArray n }:Obj))]:=hp
   simpa using this
  subst e
  exact Ne.symm (qk (hlt b hb))
 have nfsD:D∉(qD X L scope cl C s₂ H fp).fs:=fun z=>by
  obtain ⟨_,o,ho,_⟩:=Yok.funs.mem z
  exact absurd (show D<s₂.heap.objs.size from qh ho) (by rw [hDn];exact yN _)
 have pinD:∀ {σ':St}{H':Hp}{s':Shared}{pl:List (Addr×Obj)}{its:List Value}{n:Nat},Inv (qD X L scope cl C s₂ H fp) pl σ' H' s'->s'.heap.get? D=some { cls:=.type "list",data:=.seq its.toArray n }->H' D=none →
   Inv (qD X L scope cl C s₂ H fp) [(D,{ cls:=.type "list",data:=.seq its.toArray n })] σ' H' s':=fun {σ' H' s' pl its n} J e hn=>J.pins_of fun p hp=>by
  have e':p=(D,{ cls:=.type "list",data:=.seq its.toArray n }):=by simpa using hp
  subst e'
  exact ⟨e,hn,hDC,nfsD,fun v z=>by cases z⟩
 have I₁:Inv (qD X L scope cl C s₂ H fp) [] (σ++List.replicate L.length none) H { s₂ with heap:=h₁,toks:=s₂.toks+([]:List (Str×Value)).length } :=
  YV I hsc hN ok hc1 Yok (by rw [hDn];exact hCle) rfl I.bare old hns₁
 have HD:H D=none:=I.hok.fresh (by rw [hDn];exact qj _)
 obtain ⟨W,⟨m0,w0⟩,turn⟩:=hw
 have loop:codeAny (model X.prog X.w) X.A (.compLoop (.ListComp elt [⟨tg,iter,ifs,0⟩] scope pos) 0 (.ref it) (.ref D) (compEnvC scope cl C X.env)) (RR (.ref D) C)
   { s₂ with heap:=h₁,toks:=s₂.toks+([]:List (Str×Value)).length }:=by
  refine Jj (fun n s'=>∃ i ys its k σ' H',Inv (qD X L scope cl C s₂ H fp) [(D,{ cls:=.type "list",data:=.seq its.toArray k })] σ' H' s'/\yo ys its/\ys.length<=sizeLine/\tn i s'.heap/\(∀ b∈fp,H' b=none)/\W i n ys σ' H')
   ?_ m0 ⟨0,[],[],0,_,H,pinD I₁ hacc HD,.nil,qQ _,st₁,fun b hb=>(hf b hb).1,w0⟩
  rintro n s3 ⟨i,ys,its,k,σ3,H3,I3,hv3,hz3,st3,fr3,w3⟩
  have hp3:=I3.pin (D,{ cls:=.type "list",data:=.seq its.toArray k }) (by simp)
  rcases turn i n ys σ3 H3 w3 with ⟨stop,q⟩ | ⟨go,hlen,Nx,hNx,step⟩
  ·refine thn (T.done (qD X L scope cl C s₂ H fp) rfl rfl rfl hc i _ s3 σ3 H3 _ I3 (fpY fr3) st3 stop) fun r s4 ⟨hr,I4⟩=>?_
   subst hr
   have hp4:=I4.pin (D,{ cls:=.type "list",data:=.seq its.toArray k }) (by simp)
   obtain ⟨m4,hn4,_⟩:=I4.loc
   exact hR D C m4 H3 s4 ys hn4 rfl (by rw [hC];exact Nat.lt_succ_self _) I4.free hDC (Z9 I hf hDn I4 hp4.1 hp4.2.1 hv3 hz3) (q D hp4.2.1)
  ·refine thn (T.item (qD X L scope cl C s₂ H fp) rfl rfl rfl hc i _ s3 σ3 H3 _ I3 (fpY fr3) st3 go) fun r s4 ⟨u,hr,h4⟩=>?_
   subst hr
   refine thn h4 fun _ s5 hq9=>?_
   obtain ⟨x,H5,I5,r5,y5,st5,fr5⟩:=hq9
   have I5':=I5.pinned (fpY fr5) (T.obj _ _ st5)
   refine thn (hg cl C s₂ H fp _ s5 σ3 H5 x u _ I5' r5 (step x H5 y5)) fun _ s6 hq9=>?_
   obtain ⟨σ6,H6,I6,q6⟩:=hq9
   refine thn (hi cl C s₂ H fp _ s6 σ6 H6 _ I6 q6) fun ok s7 hq9=>?_
   obtain ⟨H7,I7,q7⟩:=hq9
   have later:∀ {σ':St}{H':Hp}{s':Shared},Inv (qD X L scope cl C s₂ H fp) ([(D,{ cls:=.type "list",data:=.seq its.toArray k })]++jS fp s5.heap) σ' H' s' →
     tn (i+1) s'.heap/\(∀ b∈fp,H' b=none)/\s'.heap.get? D=some { cls:=.type "list",data:=.seq its.toArray k }/\H' D=none:=fun {σ' H' s'} J=>by
    refine ⟨T.keep _ _ _ st5 fun b hb o e=>(J.pin (b,o) (qf _ (qf _ (yx hb e)))).1,fun b hb=>?_,?_⟩
    ·obtain ⟨o,e,d⟩:=T.obj _ _ st5 b hb
     exact (J.pin (b,o) (qf _ (qf _ (yx hb e)))).2.1
    ·have z:=J.pin (D,{ cls:=.type "list",data:=.seq its.toArray k }) (qf _ (qC _ (by simp)))
     exact ⟨z.1,z.2.1⟩
   cases ok with
   | false =>
    rw [if_neg (by simp)] at q7 ⊢
    obtain ⟨m',hm',w'⟩:=hNx _ _ _ q7
    obtain ⟨t1,t2,t3,t4⟩:=later I7
    exact ⟨m',hm',i+1,ys,its,k,σ6,H7,pinD I7 t3 t4,hv3,hz3,t1,t2,w'⟩
   | true =>
    rw [if_pos rfl] at q7 ⊢
    refine thn (he cl C s₂ H fp _ s7 σ6 H7 _ I7 q7) fun y s8 hq9=>?_
    obtain ⟨v,H8,I8,r8,q8⟩:=hq9
    obtain ⟨m',hm',w'⟩:=hNx _ _ _ q8
    obtain ⟨t1,t2,t3,t4⟩:=later I8
    refine append_at (hsz:=by rw [List.size_toArray,<- hv3.length];exact hz3) t3 fun h9 hs9 hD9=>?_
    have nbD:∀ b∈fp,b≠D:=fun b hb=>qk (hlt b hb)
    have I9:Inv (qD X L scope cl C s₂ H fp) [] σ6 H8 { s8 with heap:=h9 }:=(I8.pins_of (pins':=[]) (fun p hp=>by simp at hp)).turned (it:=D) (t':=s8.toks) (fun b o hb e=>hs9.extBut b o hb e) t4 hDC
     (.inr (by show s₂.heap.objs.size<=D;rw [hDn];exact qj _)) cellD (fun p hp=>by
      have:p∈([]:List (Addr×Obj)):=hp
      simp at this)
    refine ⟨m',hm',i+1,ys++[v],its++[y],k+1,σ6,H8,pinD I9 (by rw [hD9];simp) t4,hv3.append (.cons r8 .nil),by simp;omega,T.keep _ _ _ t1 fun b hb o e=>hs9.extBut b o (nbD b hb) e,t2,w'⟩
 exact codeAny_compStart_list loop (T.self _ 0 _ _ _ st₁ loop)
end
section
variable {X:Cx}
theorem qgG {L:List Str}{scope sc:Scope}{N:List Str}{tg elt iter:Expr}{ifs:List Expr}{pos:Pos}{wi:TI}{g:TG}{tt:TT}{te:TE}
  (hc:X.calm=true) (hsc:X.env.scope=sc) (hN:X.N=N) (ok:jz sc N L scope=true)
  (hi:PI X tg iter wi) (hg:∀ cl C s₂ H₂ fp,PG (qD X L scope cl C s₂ H₂ fp) tg g) (hf:∀ cl C s₂ H₂ fp,Ifs (qD X L scope cl C s₂ H₂ fp) ifs tt) (he:∀ cl C s₂ H₂ fp,PE (qD X L scope cl C s₂ H₂ fp) elt te)
  (hs:∀ x,foldedSetIterable iter X.env x=pure x:=by intro _;rfl) :
  PE X (.ListComp elt [⟨tg,iter,ifs,0⟩] scope pos) (qgg L.length wi g tt te):=by
 intro pins s σ H Q I h
 obtain ⟨cl,hcl,hc1,hc2⟩:=JS (env:=X.env) (scope:=scope) fun y hy hfr=>by
  refine I.ok.has y.1 ?_
  have z:=(yM ok hy).2.2 hfr
  rw [<- hsc] at z
  exact z
 rw [eval_ListComp]
 refine wpAny_comprehension_free (use:=none) rfl hs hcl (y8 ok) (fun y hy hl=>((yM ok hy).2.1 hl).1) (thn (hi pins s σ H _ I h) fun v s1 h1=>thn h1 fun itv s2 h2=>?_)
 obtain ⟨it,fp,tn,J,H2,e,I2,T,st2,f2,hw⟩:=h2
 subst e
 refine YW (RR:=fun acc C=>compPost (model X.prog X.w) X.A X.xe none (EP X pins σ Q) acc C) hc hsc hN ok hc1 hc2 hg hf he I2 T st2 f2 hw ?_
 intro D C m H' s' ys hns hD hC hHC hDC J' q
 refine ⟨m,hns,fun h'' hs''=>⟨.ref D,upd H' D (.lst ys),?_,rfl,q⟩⟩
 have hsz:=I2.sz
 refine J'.turned (it:=C) (t':=s'.toks) (fun b o hb e=>hs''.extBut b o hb e) (by rw [qP (Ne.symm hDC)];exact hHC) (Ne.symm (qk (y9 I2.lt hC))) (.inr (qJ hsz (yl hC))) (fun x c e=>?_) (fun p hp=>?_)
 ·obtain ⟨v,z⟩:=I2.cell x c e
  exact qk (y9 z.lt hC)
 ·exact qk (y9 (qh (I2.pin p hp).1) hC)
theorem qgx {i:Nat}{x:Str}{pos' spos:Pos}{L:List Str}{scope sc:Scope}{N:List Str}{tg elt iter:Expr}{ifs:List Expr}{pos:Pos}{wi:TI}{g:TG}{tt:TT}{te:TE}
  (hNd:X.N.Nodup) (hxi:X.N[i]?=some x) (hx:Loc X.env.scope x)
  (hc:X.calm=true) (hsc:X.env.scope=sc) (hN:X.N=N) (ok:jz sc N L scope=true)
  (hi:PI X tg iter wi) (hg:∀ cl C s₂ H₂ fp,PG (qD X L scope cl C s₂ H₂ fp) tg g) (hf:∀ cl C s₂ H₂ fp,Ifs (qD X L scope cl C s₂ H₂ fp) ifs tt) (he:∀ cl C s₂ H₂ fp,PE (qD X L scope cl C s₂ H₂ fp) elt te)
  (hsw:swapsWith (.ListComp elt [⟨tg,iter,ifs,0⟩] scope pos) (some (.Name x pos')) spos.line X.env=pure true:=by rfl)
  (hs:∀ x,foldedSetIterable iter X.env x=pure x:=by intro _;rfl)
  (hfn:X.fn x=true\/X.env.scope.names.lookup x=some .local:=by first | exact .inl rfl | exact .inr rfl | assumption) :
  PS X (.Assign [.Name x pos'] (.ListComp elt [⟨tg,iter,ifs,0⟩] scope pos) spos) (tAsg (qgg L.length wi g tt te) (qeY i)):=by
 intro pins s σ H D I h
 obtain ⟨cl,hcl,hc1,hc2⟩:=JS (env:=X.env) (scope:=scope) fun y hy hfr=>by
  refine I.ok.has y.1 ?_
  have z:=(yM ok hy).2.2 hfr
  rw [<- hsc] at z
  exact z
 rw [exec_Assign_Name_used _ _ _ _ hsw]
 refine qa (wpAny_standAt (qa ?_))
 show wpAny _ X.A (do let _ <- comprehension (.ListComp elt [⟨tg,iter,ifs,0⟩] scope pos) scope X.env _ (newList []) false (eval iter X.env) (some (assign (.Name x pos') X.env))) _ _ s
 refine qa (qN (wpAny_comprehension_free (use:=some (assign (.Name x pos') X.env)) (Q:=fun _ s'=>SP X pins D .next s') rfl hs hcl (y8 ok) (fun y hy hl=>((yM ok hy).2.1 hl).1)
  (thn (hi pins s σ H _ I h) fun v s1 h1=>thn h1 fun itv s2 h2=>?_)) (fun _ s' hq=>qd (qd hq)) fun _ _ e=>e)
 obtain ⟨it,fp,tn,J,H2,e,I2,T,st2,f2,hw⟩:=h2
 subst e
 refine YW (RR:=fun acc C=>compPost (model X.prog X.w) X.A X.xe (some (assign (.Name x pos') X.env)) (fun _ s'=>SP X pins D .next s') acc C) hc hsc hN ok hc1 hc2 hg hf he I2 T st2 f2 hw ?_
 intro D' C m H' s' ys hns hD hC hHC hDC J' q
 have hsz:=I2.sz
 have neL:C≠X.env.locals:=Ne.symm (qk (y9 I2.lt hC))
 have neC:∀ x c,X.env.cells.lookup x=some c->c≠C:=fun x c e=>by
  obtain ⟨v,z⟩:=I2.cell x c e
  exact qk (y9 z.lt hC)
 show wpAny _ X.A (assign (.Name x pos') X.env (.ref D')) _ _ s'
 refine wpAny_assign_Name (ZH J' hNd hxi hx (v:=.ref D') rfl (fun s'' J'' ⟨a,hsb,ha⟩=>?_) hfn)
 have haC:C≠a:=by
  rcases ha with ha | ha
  ·rw [ha];exact neL
  ·exact Ne.symm (neC x a ha)
 refine ⟨m,hns.sameBut hsb haC,fun h'' hs''=>⟨_,upd H' D' (.lst ys),?_,q⟩⟩
 refine J''.turned (it:=C) (t':=s''.toks) (fun b o hb e=>hs''.extBut b o hb e) (by rw [qP (Ne.symm hDC)];exact hHC) neL (.inr (qJ hsz (yl hC))) neC (fun p hp=>?_)
 exact qk (y9 (qh (I2.pin p hp).1) hC)
end
section
variable {X:Cx}
def Big (i:Int):Prop:=i.natAbs<2 ^ 1000
theorem Big.of {i:Int}(b:Int) (hb:b<2 ^ 1000) (h1:-b<=i) (h2:i<=b):Big i:=by
 unfold Big
 have:(i.natAbs:Int)<=b:=by omega
 have h3:(i.natAbs:Int)<2 ^ 1000:=Int.lt_of_le_of_lt this hb
 exact_mod_cast h3
theorem Big.bits {i:Int}(h:Big i):Builtin.Int.intBits i<=2 ^ 20:=by
 unfold Builtin.Int.intBits
 by_cases h0:i.natAbs=0
 ·have:i=0:=by omega
  subst this
  decide
 ·have:=(Nat.log2_lt h0).mpr h
  split <;> omega
def qb5 (i j:Int):Prop:=Big i/\Big j
theorem qax:OpR X (binaryOp .Mult) (rI qb5 fun i j=>.int (i * j)):=opI fun _ _ _ _ _ _ _ hc q=>mul_int q (IntMulOk.of_bits hc.1.bits hc.2.bits)
def qhI (i j:Int):Prop:=j≠0/\Big j
theorem qeK:OpR X (binaryOp .FloorDiv) (rI qhI fun i j=>.int (i.fdiv j)):=opI fun i j _ _ _ _ _ hc q=>floordiv_int hc.1 q (.inl (PyProof.noPylong_of_log2 (by
 by_cases h0:j.natAbs=0
 ·rw [h0];decide
 ·have:=(Nat.log2_lt h0).mpr hc.2
  omega)))
end
mutual
inductive Is (K:W.Frag) (H:Hp):V->PyData->Prop
 | non:Is K H .non .none
 | bl (b:Bool):Is K H (.bl b) (.bool b)
 | int (i:Int):Is K H (.int i) (.int i)
 | str (x:Str):Is K H (.str x) (.str x)
 | lst {a:Addr}{xs:List V}{ds:List PyData}:SqL K H a xs->IsAll K H xs ds->Is K H (.ref a) (.list ds)
 | tup {a:Addr}{xs:List V}{ds:List PyData}:SqT K H a xs->IsAll K H xs ds->Is K H (.ref a) (.tuple ds)
 | dc {a:Addr}:H a=some (.dK [])->Is K H (.ref a) (.dict [])
inductive IsAll (K:W.Frag) (H:Hp):List V->List PyData->Prop
 | nil:IsAll K H [] []
 | cons {x:V}{xs:List V}{d:PyData}{ds:List PyData}:Is K H x d->IsAll K H xs ds->IsAll K H (x::xs) (d::ds)
end
theorem IsAll.ints {K:W.Frag}{H:Hp}:∀ ns:List Int,IsAll K H (ns.map V.int) (ns.map PyData.int)
 | []=>.nil
 | n::ns=>.cons (.int n) (IsAll.ints ns)
theorem IsAll.bools {K:W.Frag}{H:Hp}:∀ ns:List Bool,IsAll K H (ns.map V.bl) (ns.map PyData.bool)
 | []=>.nil
 | n::ns=>.cons (.bl n) (IsAll.bools ns)
section
variable {X:Cx}{pins:List (Addr×Obj)}{σ:St}{H:Hp}{s:Shared}
mutual
theorem Is.reads (I:Inv X pins σ H s):∀ {x:V}{d:PyData}{u:Value},Is X.K H x d->jg x u->∃ as,Reads s.heap u d as
 | _,_,_,.non,r=>by cases r;exact ⟨_,.none⟩
 | _,_,_,.bl b,r=>by cases r;exact ⟨_,.bool b⟩
 | _,_,_,.int i,r=>by obtain ⟨t,rfl⟩:=r;exact ⟨_,.int i t⟩
 | _,_,_,.str i,r=>by obtain ⟨t,rfl⟩:=r;exact ⟨_,.str i t⟩
 | _,_,_,.lst hq hs,r=>by
  cases r
  obtain ⟨its,rv,pl,hz⟩:=I.list hq
  obtain ⟨as,ra⟩:=IsAll.reads I hs rv
  obtain ⟨o,ho,hc,n,hd⟩:=pl.isList
  exact ⟨_,.list ho hc hd (by simpa using ra)⟩
 | _,_,_,.tup hq hs,r=>by
  cases r
  obtain ⟨its,rv,pl,hz⟩:=I.tuple hq
  obtain ⟨as,ra⟩:=IsAll.reads I hs rv
  obtain ⟨o,ho,hc,n,hd⟩:=pl
  exact ⟨_,.tuple ho hc hd (by simpa using ra)⟩
 | _,_,_,.dc (a:=a) e,r=>by
  cases r
  obtain ⟨_,_,vs,kv,o,es,ep,h1,h2,h3,h4,h5,h6⟩:=(show jC X.prog X.w H s.heap a (.dK []) from I.hok a _ e)
  have hv:vs=[]:=by cases kv;rfl
  subst hv
  have he:es.toList=[]:=by
   generalize es.toList=l at h5
   cases h5
   rfl
  exact ⟨_,.dict h1 h2.1 h3 (by rw [he];exact .nil) (by rw [he];exact .nil)⟩
theorem IsAll.reads (I:Inv X pins σ H s):∀ {xs:List V}{ds:List PyData}{us:List Value},IsAll X.K H xs ds->yo xs us->∃ as,ReadsAll s.heap us ds as
 | _,_,_,.nil,r=>by cases r;exact ⟨_,.nil⟩
 | _,_,_,.cons h hs,r=>by
  cases r with
  | cons r1 r2 =>
   obtain ⟨as,ra⟩:=Is.reads I h r1
   obtain ⟨bs,rb⟩:=IsAll.reads I hs r2
   exact ⟨_,.cons ra rb⟩
end
end
section
variable {X:Cx}
def rEqD (K:W.Frag):R2:=fun x y H Q=>∃ d d',Is K H x d/\Is K H y d'/\SeqAt.shaped d=true/\SeqAt.shaped d'=true/\Q (.bl (PyData.eqv d d')) H
def rNeD (K:W.Frag):R2:=fun x y H Q=>∃ d d',Is K H x d/\Is K H y d'/\SeqAt.shaped d=true/\SeqAt.shaped d'=true/\Q (.bl (!PyData.eqv d d')) H
theorem qiR (hu:X.A.units+64<cLine):OpR X (compareOp .Eq) (rEqD X.K):=by
 intro pins s σ H x y v u Q I rx ry h
 obtain ⟨d,d',h1,h2,h3,h4,q⟩:=h
 obtain ⟨as,ra⟩:=h1.reads I rx
 obtain ⟨bs,rb⟩:=h2.reads I ry
 exact eq_dataH ra rb h3 h4 hu ⟨.bl _,H,I,rfl,q⟩
theorem qiN (hu:X.A.units+64<cLine):OpR X (compareOp .NotEq) (rNeD X.K):=by
 intro pins s σ H x y v u Q I rx ry h
 obtain ⟨d,d',h1,h2,h3,h4,q⟩:=h
 obtain ⟨as,ra⟩:=h1.reads I rx
 obtain ⟨bs,rb⟩:=h2.reads I ry
 exact ne_dataH ra rb h3 h4 hu ⟨.bl _,H,I,rfl,q⟩
theorem qjA {bs:List Bool}{its:List Value}(r:yo (bs.map V.bl) its) {i:Nat}{v:Value}(e:its[i]?=some v):v = .bool (bs.getD i false):=by
 have hl:=r.length
 rw [List.length_map] at hl
 have hi:i<its.length:=(qo.mp e).1
 have hb:(bs.map V.bl)[i]?=some (V.bl (bs.getD i false)):=by
  rw [List.getElem?_map]
  have:bs[i]?=some (bs.getD i false):=by
   rw [qq,List.getElem?_eq_getElem (by omega)];rfl
  rw [this];rfl
 obtain ⟨u,eu,ru⟩:=r.get hb
 rw [e] at eu
 cases eu
 exact ru
theorem qcL (bs:List Bool):(List.range bs.length).all (fun i=>bs.getD i false)=bs.all id:=by
 rw [Bool.eq_iff_iff]
 simp only [List.all_eq_true,List.mem_range,id]
 constructor
 ·intro h b hb
  obtain ⟨i,hi,rfl⟩:=yI.mp hb
  have:=h i hi
  rwa [qq,List.getElem?_eq_getElem hi] at this
 ·intro h i hi
  rw [qq,List.getElem?_eq_getElem hi]
  exact h _ (qX hi)
theorem qff (hc:X.calm=true):yz X (.builtin "all") (fun xs H Q=>∃ (p:Addr) (bs:List Bool),xs=[.ref p]/\SqL X.K H p (bs.map V.bl)/\Q (.bl (bs.all id)) H):=by
 intro pins s σ H xs us Q I r h
 obtain ⟨p,bs,rfl,hq,q⟩:=h
 obtain ⟨u,rfl,rx⟩:=J1 r
 cases rx
 obtain ⟨its,rv,pl,hz⟩:=I.list hq
 have hl:=rv.length
 rw [List.length_map] at hl
 refine call_all_walk (wpAny_pyIter_list pl.isList ?_)
 have hlt:p<s.heap.objs.size:=by obtain ⟨o,e,_⟩:=pl.isList;exact qh e
 refine ⟨s.heap.objs.size,_,_,_,_,_,fun i=>bs.getD i false,rfl,Walks.list (A:=X.A.in1) (I.ok.hd hc) s.heap.objs.size p (qk hlt) its.toArray,⟨⟨_,qr _ rfl,rfl,rfl⟩,pl.isList.push _⟩,?_,fun h' tk k=>?_⟩
 ·intro i v s Q E e hQ
  have e':its[i]?=some v:=by simpa using e
  rw [qjA rv e']
  exact wpAny_truthy_bool hQ
 ·rw [List.size_toArray,<- hl,qcL]
  refine ⟨.bl _,H,I.kept (fun b o e=>k b o (fun hb=>?_) (qb _ e)),rfl,q⟩
  have:b=s.heap.objs.size:=by simpa using hb
  exact absurd (this ▸ qh e) (yN _)
def qfI (K:W.Frag):V->List V->Hp->VK->Prop:=fun x vs H Q=>∃ (l:Addr) (ns:List Int) (k:Int),x = .ref l/\vs=[.int k]/\SqL K H l (ns.map V.int)/\Q (.int (ns.count k:Nat)) H
theorem Zd:MtR X "list.count" (qfI X.K):=by
 intro pins s σ H x xs v us Q I rx rs h
 obtain ⟨l,ns,k,rfl,rfl,hq,q⟩:=h
 cases rx
 obtain ⟨u,rfl,t,rfl⟩:=J1 rs
 obtain ⟨its,rv,pl,hz⟩:=I.list hq
 exact count_list_ints pl.isList (JN rv) ⟨.int _,H,I.tok _,⟨_,rfl⟩,q⟩
end
theorem Jd:bootBuiltins "len" = some (.builtin "len"):=by decide +kernel
theorem qad:bootBuiltins "abs" = some (.builtin "abs"):=by decide +kernel
theorem qd3:bootBuiltins "max" = some (.builtin "max"):=by decide +kernel
theorem qjz:bootBuiltins "min" = some (.builtin "min"):=by decide +kernel
theorem qd4:bootBuiltins "all" = some (.builtin "all"):=by decide +kernel
theorem qac:bootBuiltins "sorted" = some (.builtin "sorted"):=by decide +kernel
theorem jk:bootBuiltins "isinstance" = some (.builtin "isinstance"):=by decide +kernel
theorem qf0:bootBuiltins "int" = some (.type "int"):=by decide +kernel
theorem qhy:bootBuiltins "bool" = some (.type "bool"):=by decide +kernel
theorem qhx:bootBuiltins "list" = some (.type "list"):=by decide +kernel
theorem Zt:bootBuiltins "tuple" = some (.type "tuple"):=by decide +kernel
theorem qfZ:bootBuiltins "set" = some (.type "set"):=by decide +kernel
def NoX (CX:CXT):Prop:=∀ o H s e s',CX o H s E0 e s'->False
theorem ZQ:NoX CX0:=fun _ _ _ _ _ h=>h
theorem passN {CX:CXT}{X:Cx}(h:NoX CX):qea CX X E0:=fun _ _ _ _ _ _ _ q=>(h _ _ _ _ _ q).elim
def Own (P:Program) (w:World) (K:W.Frag) (mg:Str->Option Value) (base:Heap) (CX:CXT) (k:Nat) (x:Str) (ps:List Str) (sp:Sp):Prop :=
 ∃ (f:Addr) (fd:FuncData),FnOk P w K mg base CX k f fd ps sp/\mg x=some (.ref f)/\W.keepIn K (.ref f)=true/\qaW K fd ps []
section
variable {X:Cx}{CX:CXT}{k:Nat}{x:Str}{ps:List Str}{sp:Sp}{e:Expr}{es:List Expr}{t:TA}{p pos:Pos}
theorem qiF (O:Own X.prog X.w X.K X.mg X.base CX k x ps sp) (hX:NoX CX) (hr:Room k X.A) (hg:Gl X x) (ha:PA X (e::es) t) (hdb:(x == ("__debug__" : Str))=false:=by decide)
  (he:starEach (e::es) X.env=(false,eval e X.env)::starEach es X.env:=by rfl) (hpl:(backTo pos (starEach es X.env)).any (·.1)=false:=by rfl):PE X (.Call (.Name x p) (e::es) [] pos) (qh1 sp [] E0 t):=by
 obtain ⟨f,fd,F,hm,hk,hb⟩:=O
 exact qgI F hr hg hm hk hb .nil (passN hX) ha hdb he hpl
end
section
variable {P:Program}{w:World}{K:W.Frag}{mg:Str->Option Value}{base:Heap}{CX:CXT}
theorem Fun.okG {x qual:Str}{st:Stmt}{f:Addr}{fd:FuncData}{N ps:List Str}{k:Nat}{sp:Sp}(F:Fun K x qual st f fd) (S:FnScope N ps (qt st)) (len:∀ vs H Q E,sp vs H Q E->vs.length=ps.length)
  (hbody:∀ (cdv:Value) (A:Around) (outer:List Env) (s:Shared) (H:Hp) (vs:List V) (Q:VK) (E:XK),Room k (A.deeper (envOfC qual (qt st) s.heap.objs.size f cdv))->sp vs H Q E →
   ∃ t,PSs (qdR CX P w K mg base N qual (qt st) f cdv A outer s H E).nox (yX st) t/\t { nx:=fun _ H'=>Q .non H',rt:=Q } (Y2 N vs) H):FnOk P w K mg base CX (k+1) f fd ps sp:=by
 obtain ⟨oc,od,kV,doc,pm,an,cdv,ct,osl,rfl,lk,hcd⟩:=F.ex
 refine qjf lk hcd S len fun A outer s H vs Q E hr hsp=>?_
 obtain ⟨t,h,q⟩:=hbody cdv A outer s H vs Q E hr hsp
 exact ⟨t,h.nox,q⟩
end
def Pot (M:Int) (H:Hp) (p:Addr):Prop:=∃ p0 p1:Int,H p=some (.lst [.int p0,.int p1])/\0<=p0/\0<=p1/\p1<M
def Stp (p:Addr) (H H':Hp):Prop:=∀ b o,H b=some o->b≠p->H' b=some o
theorem Stp.refl {p:Addr}{H:Hp}:Stp p H H:=fun _ _ e _=>e
theorem Stp.trans {p:Addr}{H H1 H2:Hp}(a:Stp p H H1) (b:Stp p H1 H2):Stp p H H2:=fun c o e n=>b c o (a c o e n) n
theorem Stp.upd {p:Addr}{H:Hp}{o:HO}:Stp p H (upd H p o):=fun b u e n=>by rw [qP n];exact e
theorem qU.stp {p:Addr}{H H':Hp}(h:qU H H'):Stp p H H':=fun b o e _=>h b o e
theorem qU.upd {p:Addr}{H:Hp}{o:HO}(h:H p=none):qU H (upd H p o):=fun b u e=>by rw [qP (qM e h)];exact e
theorem Stp.free {p:Addr}{H H':Hp}(h:Stp p H H') {l:Addr}(e:H' l=none) (hp:∃ o,H' p=some o):H l=none:=by
 cases q:H l with
 | none=>rfl
 | some o =>
  by_cases hl:l=p
  ·subst hl
   obtain ⟨u,hu⟩:=hp
   rw [hu] at e;cases e
  ·rw [h l o q hl] at e;cases e
theorem Pot.some {M:Int}{H:Hp}{p:Addr}(h:Pot M H p):∃ o,H p=some o:=let ⟨_,_,e,_⟩:=h;⟨_,e⟩
theorem Stp.lst {K:W.Frag}{p a:Addr}{H H':Hp}{xs:List V}(h:Stp p H H') (e:SqL K H a xs) (n:a≠p):SqL K H' a xs:=by
 rcases e with (e | ⟨o,e⟩) | e
 ·exact .inl (.inl (h _ _ e n))
 ·exact .inl (.inr ⟨o,h _ _ e n⟩)
 ·exact .inr e
def qb8 (H:Hp) (v:V) (ns:List Int):Prop:=∃ a,v = .ref a/\H a=some (.tup (ns.map V.int))
theorem qb8.is {K:W.Frag}{H:Hp}{v:V}{ns:List Int}(h:qb8 H v ns):Is K H v (.tuple (ns.map PyData.int)):=by
 obtain ⟨a,rfl,e⟩:=h
 exact .tup (SqT.of e) (IsAll.ints ns)
theorem qb8.same {H H':Hp}{v:V}{ns:List Int}(s:qU H H') (h:qb8 H v ns):qb8 H' v ns:=by
 obtain ⟨a,rfl,e⟩:=h
 exact ⟨a,rfl,s _ _ e⟩
theorem qb8.stp {p:Addr}{M:Int}{H H':Hp}{v:V}{ns:List Int}(s:Stp p H H') (hp:Pot M H p) (h:qb8 H v ns):qb8 H' v ns:=by
 obtain ⟨a,rfl,e⟩:=h
 obtain ⟨_,_,q,_⟩:=hp
 exact ⟨a,rfl,s _ _ e (qiZ e q (by intro z;cases z))⟩
abbrev Pt:=Int×Int
def PtAt (H:Hp) (v:V) (q:Pt):Prop:=qb8 H v [q.1,q.2]
abbrev Pts (H:Hp):List V->List Pt->Prop:=Paired (PtAt H)
theorem Paired.get {α β:Type}{R:α->β->Prop}:∀ {xs:List α}{ys:List β}{i:Nat}{x:α},Paired R xs ys->xs[i]?=some x->∃ y,ys[i]?=some y/\R x y
 | _,_,_,_,.nil,e=>by simp at e
 | _,_,0,_,.cons r _,e=>by simp at e;subst e;exact ⟨_,rfl,r⟩
 | _,_,i+1,x,.cons _ t,e=>by
  obtain ⟨u,h1,h2⟩:=Paired.get (i:=i) (x:=x) t (by simpa using e)
  exact ⟨u,by simpa using h1,h2⟩
theorem Paired.get' {α β:Type}{R:α->β->Prop}:∀ {xs:List α}{ys:List β}{i:Nat}{y:β},Paired R xs ys->ys[i]?=some y->∃ x,xs[i]?=some x/\R x y
 | _,_,_,_,.nil,e=>by simp at e
 | _,_,0,_,.cons r _,e=>by simp at e;subst e;exact ⟨_,rfl,r⟩
 | _,_,i+1,x,.cons _ t,e=>by
  obtain ⟨u,h1,h2⟩:=Paired.get' (i:=i) (y:=x) t (by simpa using e)
  exact ⟨u,by simpa using h1,h2⟩
theorem Paired.len {α β:Type}{R:α->β->Prop}{xs:List α}{ys:List β}(h:Paired R xs ys):xs.length=ys.length:=PySem.Paired.length h
theorem Pts.same {H H':Hp}{vs:List V}{ps:List Pt}(s:qU H H') (h:Pts H vs ps):Pts H' vs ps:=Paired.mapP h fun _ _ q=>qb8.same s q
theorem Pts.stp {p:Addr}{M:Int}{H H':Hp}{vs:List V}{ps:List Pt}(s:Stp p H H') (hp:Pot M H p) (h:Pts H vs ps):Pts H' vs ps:=Paired.mapP h fun _ _ q=>qb8.stp s hp q
def ptD (q:Pt):PyData:=.tuple [.int q.1,.int q.2]
theorem Pts.is {K:W.Frag}{H:Hp}:∀ {vs:List V}{ps:List Pt},Pts H vs ps->IsAll K H vs (ps.map ptD)
 | _,_,.nil=>.nil
 | _,_,.cons r t=>.cons (qb8.is r) (Pts.is t)
theorem Jp:∀ ns:List Int,PyData.canLayAll0 (ns.map PyData.int)=true
 | []=>by simp [PyData.canLayAll0]
 | _::r=>by simp [PyData.canLayAll0,PyData.canLay0,Jp r]
theorem JM:∀ ns:List Int,PyData.depthAll (ns.map PyData.int)<=1
 | []=>by simp [PyData.depthAll]
 | _::r=>by
  have:=JM r
  simp only [List.map_cons,PyData.depthAll,PyData.depth]
  omega
theorem qap (ns:List Int):SeqAt.shaped (.tuple (ns.map PyData.int))=true:=by
 have:=JM ns
 unfold SeqAt.shaped
 rw [Bool.and_eq_true]
 refine ⟨by simp only [PyData.canLay0,Jp],qB ?_⟩
 simp only [PyData.depth]
 omega
theorem qf1 {n:Int}(h1:-10000000000000000000000000000000000000000<=n) (h2:n<=10000000000000000000000000000000000000000):Big n:=Big.of 10000000000000000000000000000000000000000 (by decide) h1 h2
theorem sz2:2<=sizeLine:=by decide
theorem sz1:1<=sizeLine:=by decide
theorem Pot.upd {M:Int}{H:Hp}{p l:Addr}{o:HO}(h:Pot M H p) (n:p≠l):Pot M (upd H l o) p:=by
 obtain ⟨p0,p1,e,r⟩:=h
 exact ⟨p0,p1,by rw [qP n];exact e,r⟩
theorem Pot.same {M:Int}{H H':Hp}{p:Addr}(h:Pot M H p) (s:qU H H'):Pot M H' p:=by
 obtain ⟨p0,p1,e,r⟩:=h
 exact ⟨p0,p1,s _ _ e,r⟩
theorem Pts.upd {H:Hp}{l:Addr}{us vs xs:List V}{ps:List Pt}(h:Pts H vs ps) (e:H l=some (.lst us)):Pts (upd H l (.lst xs)) vs ps :=
 Paired.mapP h fun _ _ ⟨a,r,q⟩=>⟨a,r,by rw [qP (qiZ q e (by intro z;cases z))];exact q⟩
section
variable {X:Cx}{K:W.Frag}
end
section
variable {P:Program}{w:World}{H:Hp}{h:Heap}{a:Addr}{o:HO}
theorem jC.has (x:jC P w H h a o):∃ ob,h.get? a=some ob:=by
 cases o with
 | lst xs=>obtain ⟨_,_,_,_,e⟩:=x;exact ⟨_,e⟩
 | tup xs=>obtain ⟨_,_,_,ob,e,_⟩:=x;exact ⟨_,e⟩
 | dK kvs=>obtain ⟨_,_,_,_,ob,_,_,e,_⟩:=x;exact ⟨_,e⟩
 | dT kvs=>obtain ⟨_,_,_,_,ob,_,_,e,_⟩:=x;exact ⟨_,e⟩
 | set S n=>obtain ⟨ob,_,_,_,e,_⟩:=x;exact ⟨_,e⟩
 | ins C dx fs=>obtain ⟨_,_,_,e,_⟩:=x;exact ⟨_,e⟩
 | own y=>exact x
 | xd fs=>obtain ⟨_,⟨_,_,_,e,_⟩,_⟩:=x;exact ⟨_,e⟩
 | rng lo hi=>obtain ⟨_,_,_,e⟩:=x;exact ⟨_,e⟩
 | frz ob u=>obtain ⟨e,_⟩:=x;exact ⟨_,e⟩
 | tbl ps=>exact ⟨_,(show h.get? a=some _ from x)⟩
 | met f y=>exact ⟨_,(show h.get? a=some _ from x)⟩
 | ext φ=>obtain ⟨_,e,_⟩:=x;exact e
end
section
variable {P:Program}{w:World}{K:W.Frag}{mg:Str->Option Value}{base:Heap}{N:List Str}{qual:Str}{scope:Scope}{f C:Addr}{cd:Value}{A:Around}{outer:List Env}{s:Shared}{H:Hp}{E:XK}
 {x:Str}{B newId initId:String}{bmB:List Value}{e₀:Expr}{yE:List Expr}{t:TA}{np cpos pos:Pos}
end
section
variable {X:Cx}{pins:List (Addr×Obj)}{σ:St}{H H':Hp}{s:Shared}
theorem Inv.goes {i:Nat}{n:Str}{h':Heap}{m:Str->Option Value}{v:Option Value}(I:Inv X pins σ H s) (hN:X.N.Nodup) (hi:X.N[i]?=some n) (hn:s.heap.Ns X.env.locals m)
  (hl:∀ (j:Nat) (x:Str) (v:V),X.N[j]?=some x->σ[j]?=some (some v)->Vis X.env.scope x->∃ u,jg v u/\Look X.env s.heap m x u)
  (hn':h'.Ns X.env.locals (fun x=>if x=n then v else m x)) (hs:Heap.SameBut X.env.locals s.heap h') (tk:Nat):Inv X pins (σ.set i none) H { s with heap:=h',toks:=tk }:=by
 have keepb:∀ b o,b≠X.env.locals->s.heap.get? b=some o->h'.get? b=some o:=fun b o hb e=>(hs.2 b hb).trans e
 have neL:∀ b o,X.s₀.heap.get? b=some o->b≠X.env.locals:=fun b o e=>qk (qy (qh e) I.ok.above)
 refine ⟨I.ok,I.os,I.bare,⟨fun b o e n hb hx=>keepb b o (neL b o e) (I.base.keep b o e n hb hx),fun b o e n hb hx=>?_,I.base.free,fun b o e hx=>?_,I.base.tups,I.base.frzs,I.base.tbls⟩,⟨_,hn',fun j y u e1 e2 e3=>?_⟩,fun y c e=>?_,I.free,I.freeC,fun p hp=>?_,fun b u e=>?_,by simpa using I.len⟩
 ·obtain ⟨sl,e1⟩:=I.base.slot b o e n hb hx
  exact ⟨sl,keepb b _ (neL b o e) e1⟩
 ·obtain ⟨o',e1⟩:=I.base.there b o e hx
  exact ⟨o',keepb b _ (neL b o e) e1⟩
 ·have hji:j≠i:=by
   rintro rfl
   rw [List.getElem?_set] at e2
   simp only [if_true] at e2
   split at e2 <;> cases e2
  rw [List.getElem?_set_ne (Ne.symm hji)] at e2
  obtain ⟨u',r,q⟩:=hl j y u e1 e2 e3
  refine ⟨u',r,?_⟩
  rcases q with ⟨k,e⟩ | ⟨k,c,e,z⟩
  ·refine .inl ⟨k,?_⟩
   have hy:y≠n:=fun z=>hji (Zc hN e1 (z ▸ hi))
   simp [hy,e]
  ·exact .inr ⟨k,c,e,z.sameBut hs (I.cne y c e)⟩
 ·obtain ⟨v',z⟩:=I.cell y c e
  exact ⟨v',z.sameBut hs (I.cne y c e)⟩
 ·obtain ⟨e,n,ne,nf,d⟩:=I.pin p hp
  exact ⟨keepb _ _ ne e,n,ne,nf,d⟩
 ·refine (I.hok b u e).stay (fun c v hc q=>keepb c v ?_ q) (fun _ q=>q) fun _ _ q=>q
  rintro rfl
  rcases hc with z | z
  ·rw [<- z,I.free] at e;cases e
  ·rw [I.free] at z;cases z
end
abbrev blank (n:Nat):St:=List.replicate n none
section
variable {X:Cx}
end
end L2
namespace L2
open PySem PySem.Spec PyProof.Rows PySem.W Builtin Builtin.ObjectAttr Builtin.Getset_descriptor
section
variable {prog:Program}{w:World}{A:Around}{E:Value->Shared->Prop}{K:Frag}{x C:Addr}
structure ExcCls (K:Frag) (C:Addr):Prop where
 ga:findIn K (.ref C) "__getattribute__" = some (some (.builtin "BaseException.__getattribute__"))
 gb:findIn K (.ref C) "__getattr__" = some none
 cl:findIn K (.ref C) "__class__" = some (some (.builtin "object.__class__"))
 gt:specialIn K (.builtin "object.__class__") "__get__" = some (some (.builtin "getset_descriptor.__get__"))
 tk:takesIn K (.builtin "object.__class__")=some true
 ob:mroIn K C (.type "object")=some true
 be:mroIn K C (.type "BaseException")=some true
 ct:(clsIn K C).isSome=true
end
section
variable {K:Frag}{x C:Addr}
end
def clsV:V->Value->Prop
 | .ref D,u=>u = .ref D
 | .ty n,u=>u = .type n
 | _,_=>False
theorem clsV.rel {v:V}{u u':Value}(h:clsV v u) (r:jg v u'):u'=u:=by
 cases v <;> first | exact h.elim | (cases h;cases r;rfl)
open PySem PySem.Spec PyProof.Rows
section
variable {X:Cx}{pins:List (Addr×Obj)}{σ:St}{H:Hp}{s:Shared}
theorem Inv.laidN {a:Addr}{o:HO}{h':Heap}{t':Nat}(I:Inv X pins σ H s) (k:∀ b u,s.heap.get? b=some u->h'.get? b=some u) (hp:s.heap.get? a=none) (new:jC X.prog X.w (upd H a o) h' a o) :
  H a=none/\Inv X pins σ (upd H a o) { s with heap:=h',toks:=t' }:=by
 have hn:H a=none:=by
  cases z:H a with
  | none=>rfl
  | some u =>
   obtain ⟨ob,e⟩:=(I.hok a u z).has
   rw [hp] at e;cases e
 refine ⟨hn,I.un ⟨fun b u q _ _ _=>k b u q,fun b u q _ _ _=>⟨u.slots,k b u q⟩,fun b u q n _=>?_,fun b u q _=>⟨u,k b u q⟩,fun b xs q=>?_,fun b u xs q=>?_,fun b ps q=>?_⟩ fun b u e=>?_⟩
 ·rw [qP (fun z=>by rw [z,hp] at q;cases q)];exact n
 ·rw [qP (qM q hn)];exact q
 ·rw [qP (qM q hn)];exact q
 ·exact ⟨#[],by rw [qP (qM q hn),q];simp⟩
 ·by_cases hb:b=a
  ·subst hb
   rw [qV] at e;cases e;exact new
  ·rw [qP hb] at e
   exact (I.hok b u e).stay (fun c v _ q=>k c v q) (fun c q=>by rw [qP (qM q hn)];exact q) fun c xs q=>by rw [qP (qM q hn)];exact q
end
section
variable {X:Cx}{K:W.Frag}{C:Addr}{x:Str}{e:Expr}{es:List Expr}{t:TA}{p pos:Pos}
end
structure RoomU (k:Nat) (A:Around):Prop where
 dp:A.depth+3 * k+5<recursionLimit
 un:A.units+16 * k+200<cLine
theorem Room.toU {k:Nat}{A:Around}(r:Room k A):RoomU k A:=⟨r.dp,r.un⟩
theorem RoomU.mono {j k:Nat}{A:Around}(r:RoomU k A) (h:j<=k):RoomU j A:=⟨by have:=r.dp;omega,by have:=r.un;omega⟩
theorem RoomU.units {k:Nat}{A:Around}(r:RoomU k A):A.units+64<cLine:=by have:=r.un;omega
structure FnU (P:Program) (w:World) (K:W.Frag) (mg:Str->Option Value) (base:Heap) (CX:CXT) (k:Nat) (f:Addr) (fd:FuncData) (ps:List Str) (sp:Sp):Prop where
 len:∀ vs H Q E,sp vs H Q E->vs.length=ps.length
 run:∀ (A:Around) (outer:List Env) (s:Shared) (H:Hp) (args:Args) (us:List Value) (vs:List V) (Q:VK) (E:XK),RoomU k A->Env0 P w K mg base A outer s H->BindsTo s fd args (ps.zip us)->yo vs us->sp vs H Q E →
  codeAny (model P w) A (.call (.ref f) args) (CR CX outer P w H s Q E) s
theorem FnU.ok {P:Program}{w:World}{K:W.Frag}{mg:Str->Option Value}{base:Heap}{CX:CXT}{k:Nat}{f:Addr}{fd:FuncData}{ps:List Str}{sp:Sp}(F:FnU P w K mg base CX k f fd ps sp):FnOk P w K mg base CX k f fd ps sp :=
 ⟨F.len,fun A outer s H args us vs Q E hr=>F.run A outer s H args us vs Q E hr.toU⟩
section
variable {P:Program}{w:World}{K:W.Frag}{mg:Str->Option Value}{base:Heap}{CX:CXT}
end
def OwnU (P:Program) (w:World) (K:W.Frag) (mg:Str->Option Value) (base:Heap) (CX:CXT) (k:Nat) (x:Str) (ps:List Str) (sp:Sp):Prop :=
 ∃ (f:Addr) (fd:FuncData),FnU P w K mg base CX k f fd ps sp/\mg x=some (.ref f)/\W.keepIn K (.ref f)=true/\qaW K fd ps []
theorem OwnU.own {P:Program}{w:World}{K:W.Frag}{mg:Str->Option Value}{base:Heap}{CX:CXT}{k:Nat}{x:Str}{ps:List Str}{sp:Sp}(O:OwnU P w K mg base CX k x ps sp):Own P w K mg base CX k x ps sp :=
 let ⟨f,fd,F,r⟩:=O;⟨f,fd,F.ok,r⟩
section
variable {X:Cx}{CX:CXT}{k:Nat}{x:Str}{ps:List Str}{sp:Sp}{e:Expr}{es:List Expr}{t:TA}{p pos:Pos}
end
mutual
theorem Is.same {K:W.Frag}{H H':Hp}(s:qU H H'):∀ {v:V}{d:PyData},Is K H v d->Is K H' v d
 | _,_,.non=>.non
 | _,_,.bl b=>.bl b
 | _,_,.int i=>.int i
 | _,_,.str x=>.str x
 | _,_,.lst h hs=>.lst (qU.seq s h) (IsAll.same s hs)
 | _,_,.tup h hs=>.tup (by
   rcases h with (e | ⟨o,e⟩) | e
   ·exact .inl (.inl (s _ _ e))
   ·exact .inl (.inr ⟨o,s _ _ e⟩)
   ·exact .inr e) (IsAll.same s hs)
 | _,_,.dc h=>.dc (s _ _ h)
theorem IsAll.same {K:W.Frag}{H H':Hp}(s:qU H H'):∀ {vs:List V}{ds:List PyData},IsAll K H vs ds->IsAll K H' vs ds
 | _,_,.nil=>.nil
 | _,_,.cons h hs=>.cons (Is.same s h) (IsAll.same s hs)
end
theorem IsAll.len {K:W.Frag}{H:Hp}:∀ {vs:List V}{ds:List PyData},IsAll K H vs ds->vs.length=ds.length
 | _,_,.nil=>rfl
 | _,_,.cons _ hs=>by simp [IsAll.len hs]
theorem IsAll.get {K:W.Frag}{H:Hp}:∀ {vs:List V}{ds:List PyData}{i:Nat}{v:V},IsAll K H vs ds->vs[i]?=some v->∃ d,ds[i]?=some d/\Is K H v d
 | _,_,_,_,.nil,e=>by simp at e
 | _,_,0,_,.cons h _,e=>by simp at e;subst e;exact ⟨_,rfl,h⟩
 | _,_,i+1,v,.cons _ t,e=>by
  obtain ⟨u,h1,h2⟩:=IsAll.get (i:=i) (v:=v) t (by simpa using e)
  exact ⟨u,by simpa using h1,h2⟩
theorem IsAll.get' {K:W.Frag}{H:Hp}:∀ {vs:List V}{ds:List PyData}{i:Nat}{d:PyData},IsAll K H vs ds->ds[i]?=some d->∃ v,vs[i]?=some v/\Is K H v d
 | _,_,_,_,.nil,e=>by simp at e
 | _,_,0,_,.cons h _,e=>by simp at e;subst e;exact ⟨_,rfl,h⟩
 | _,_,i+1,v,.cons _ t,e=>by
  obtain ⟨u,h1,h2⟩:=IsAll.get' (i:=i) (d:=v) t (by simpa using e)
  exact ⟨u,by simpa using h1,h2⟩
theorem IsAll.snoc {K:W.Frag}{H:Hp}{v:V}{d:PyData}(h:Is K H v d):∀ {vs:List V}{ds:List PyData},IsAll K H vs ds->IsAll K H (vs++[v]) (ds++[d])
 | _,_,.nil=>.cons h .nil
 | _,_,.cons a b=>.cons a (IsAll.snoc h b)
theorem IsAll.app {K:W.Frag}{H:Hp}{us:List V}{es:List PyData}(h:IsAll K H us es):∀ {vs:List V}{ds:List PyData},IsAll K H vs ds->IsAll K H (vs++us) (ds++es)
 | _,_,.nil=>h
 | _,_,.cons a b=>.cons a (IsAll.app h b)
theorem IsAll.drop {K:W.Frag}{H:Hp}:∀ {vs:List V}{ds:List PyData}(n:Nat),IsAll K H vs ds->IsAll K H (vs.drop n) (ds.drop n)
 | _,_,0,h=>h
 | _,_,_+1,.nil=>.nil
 | _,_,n+1,.cons _ t=>IsAll.drop n t
theorem IsAll.take {K:W.Frag}{H:Hp}:∀ {vs:List V}{ds:List PyData}(n:Nat),IsAll K H vs ds->IsAll K H (vs.take n) (ds.take n)
 | _,_,0,h=>.nil
 | _,_,_+1,.nil=>.nil
 | _,_,n+1,.cons h t=>.cons h (IsAll.take n t)
theorem IsAll.ints_of {K:W.Frag}{H:Hp}:∀ {vs:List V}{ns:List Int},IsAll K H vs (ns.map PyData.int)->vs=ns.map V.int
 | _,[],.nil=>rfl
 | _,_::_,.cons h t=>by cases h;rw [IsAll.ints_of t];rfl
theorem IsAll.bools_of {K:W.Frag}{H:Hp}:∀ {vs:List V}{ns:List Bool},IsAll K H vs (ns.map PyData.bool)->vs=ns.map V.bl
 | _,[],.nil=>rfl
 | _,_::_,.cons h t=>by cases h;rw [IsAll.bools_of t];rfl
structure Stb where
 R:V->Hp->Prop
 st:∀ v H H',qU H H'->R v H->R v H'
inductive En where
 | d (x:PyData)
 | m (a:Addr)
 | x (r:Stb)
 | ty (n:String)
structure MSt where
 R:Hp->HO->Prop
 st:∀ H H' u,qU H H'->R H u->R H' u
 nt:∀ H u xs,R H u->u≠.tup xs
 ml:∀ H H' a xs u,H a=some (.lst xs)->(∀ b o,H b=some o->b≠a->H' b=some o)->R H u->R H' u
inductive MO where
 | any (r:MSt)
 | pot (M:Int)
 | lst (ds:List PyData)
 | refs (as:List Addr)
 | dct (ks:List (List Int))
  | ins (C dx:Addr) (fs:List (Str×En))
abbrev Mu:=List (Addr×MO)
def mask (μ:Mu) (H:Hp):Hp:=fun a=>if a∈μ.map Prod.fst then none else H a
theorem Jg {H:Hp}:mask [] H=H:=by funext a;simp [mask]
theorem yt {μ:Mu}{H:Hp}:qU (mask μ H) H:=fun b o e=>by
 unfold mask at e
 split at e
 ·cases e
 ·exact e
theorem Jx {μ:Mu}{H:Hp}{b:Addr}{o:HO}(e:mask μ H b=some o):b∉μ.map Prod.fst/\H b=some o:=by
 unfold mask at e
 split at e
 ·cases e
 ·exact ⟨by assumption,e⟩
theorem yc {μ:Mu}{H:Hp}{b:Addr}(h:b∉μ.map Prod.fst):mask μ H b=H b:=by unfold mask;rw [if_neg h]
theorem qeO {μ μ':Mu}{H:Hp}(h:∀ a,a∈μ'.map Prod.fst->a∈μ.map Prod.fst):qU (mask μ H) (mask μ' H):=fun b o e=>by
 obtain ⟨h1,h2⟩:=Jx e
 rw [yc (fun z=>h1 (h _ z))];exact h2
def IsE (K:W.Frag) (μ:Mu) (H:Hp) (v:V):En->Prop
 | .d x=>Is K (mask μ H) v x
 | .m a=>v = .ref a
 | .x r=>r.R v (mask μ H)
 | .ty n=>v = .ty n
theorem IsE.same {K:W.Frag}{μ μ':Mu}{H H':Hp}{v:V}{e:En}(s:qU (mask μ H) (mask μ' H')) (h:IsE K μ H v e):IsE K μ' H' v e:=by
 cases e with
 | d x=>exact Is.same s h
 | m a=>exact h
 | x r=>exact r.st _ _ _ s h
 | ty n=>exact h
def qhO (K:W.Frag) (μ:Mu) (H:Hp) (x:Str×V) (y:Str×En):Prop:=x.1=y.1/\IsE K μ H x.2 y.2
theorem qhO.all {K:W.Frag}{μ μ':Mu}{H H':Hp}(s:qU (mask μ H) (mask μ' H')):∀ {vs:List (Str×V)}{fs:List (Str×En)},PySem.Paired (qhO K μ H) vs fs->PySem.Paired (qhO K μ' H') vs fs
 | _,_,.nil=>.nil
 | _,_,.cons h t=>.cons ⟨h.1,h.2.same s⟩ (qhO.all s t)
def qf7 (K:W.Frag) (μ:Mu) (H:Hp) (a:Addr):MO->Prop
 | .any r=>∃ u,H a=some u/\r.R (mask μ H) u
 | .pot M=>Pot M H a
 | .lst ds=>∃ xs,H a=some (.lst xs)/\IsAll K (mask μ H) xs ds
 | .refs as=>H a=some (.lst (as.map V.ref))
 | .dct ks=>H a=some (.dT (ks.map fun ns=>(ns.map Sum.inl,V.bl true)))
 | .ins C dx fs=>∃ vs,H a=some (.ins C dx vs)/\PySem.Paired (qhO K μ H) vs fs
theorem qf7.some {K:W.Frag}{μ:Mu}{H:Hp}{a:Addr}{o:MO}(h:qf7 K μ H a o):∃ u,H a=some u:=by
 cases o with
 | any r=>obtain ⟨u,e,_⟩:=h;exact ⟨_,e⟩
 | pot M=>obtain ⟨p0,p1,e,_⟩:=h;exact ⟨_,e⟩
 | lst ds=>obtain ⟨xs,e,_⟩:=h;exact ⟨_,e⟩
 | refs as=>exact ⟨_,h⟩
 | dct kvs=>exact ⟨_,h⟩
 | ins C dx fs=>obtain ⟨vs,e,_⟩:=h;exact ⟨_,e⟩
structure RelM (K:W.Frag) (μ:Mu) (H:Hp):Prop where
 nd:(μ.map Prod.fst).Nodup
 ob:∀ a o,(a,o)∈μ->qf7 K μ H a o
theorem RelM.nil {K:W.Frag}{H:Hp}:RelM K [] H:=⟨by simp,fun _ _ h=>nomatch h⟩
theorem qf7.same {K:W.Frag}{μ μ':Mu}{H H':Hp}{a:Addr}{o:MO}(s:qU (mask μ H) (mask μ' H')) (e:H' a=H a) (h:qf7 K μ H a o):qf7 K μ' H' a o:=by
 cases o with
 | any r=>obtain ⟨u,q,z⟩:=h;exact ⟨u,e.trans q,r.st _ _ _ s z⟩
 | pot M=>obtain ⟨p0,p1,q,r⟩:=h;exact ⟨p0,p1,e.trans q,r⟩
 | lst ds=>obtain ⟨xs,q,r⟩:=h;exact ⟨xs,e.trans q,IsAll.same s r⟩
 | refs as=>exact e.trans h
 | dct kvs=>exact e.trans h
 | ins C dx fs=>obtain ⟨vs,q,r⟩:=h;exact ⟨vs,e.trans q,qhO.all s r⟩
theorem RelM.same {K:W.Frag}{μ:Mu}{H H':Hp}(h:RelM K μ H) (s:qU H H'):RelM K μ H'/\qU (mask μ H) (mask μ H'):=by
 have ss:qU (mask μ H) (mask μ H'):=fun b o e=>by
  obtain ⟨h1,h2⟩:=Jx e
  rw [yc h1];exact s _ _ h2
 refine ⟨⟨h.nd,fun a o ho=>?_⟩,ss⟩
 have:=h.ob a o ho
 obtain ⟨xs,e⟩:=this.some
 exact this.same ss ((s _ _ e).trans e.symm)
theorem RelM.laid {K:W.Frag}{μ:Mu}{H:Hp}{p:Addr}{o:HO}(h:RelM K μ H) (e:H p=none):RelM K μ (upd H p o)/\qU (mask μ H) (mask μ (upd H p o))/\p∉μ.map Prod.fst:=by
 obtain ⟨h1,h2⟩:=h.same (qU.upd (o:=o) e)
 refine ⟨h1,h2,fun z=>?_⟩
 obtain ⟨⟨a,q⟩,hq,rfl⟩:=qK.mp z
 obtain ⟨xs,e'⟩:=(h.ob a q hq).some
 rw [e'] at e;cases e
theorem qc9 {μ:Mu}{a:Addr}{o:MO}(h:(a,o)∈μ):a∈μ.map Prod.fst:=qK.mpr ⟨_,h,rfl⟩
theorem RelM.write {K:W.Frag}{μ1 μ2:Mu}{H H':Hp}{a:Addr}{o o':MO}(h:RelM K (μ1++(a,o)::μ2) H) (k:∀ b u,H b=some u->b≠a->H' b=some u)
  (new:qU (mask (μ1++(a,o)::μ2) H) (mask (μ1++(a,o')::μ2) H')->qf7 K (μ1++(a,o')::μ2) H' a o') :
  RelM K (μ1++(a,o')::μ2) H'/\qU (mask (μ1++(a,o)::μ2) H) (mask (μ1++(a,o')::μ2) H'):=by
 have ks:(μ1++(a,o')::μ2).map Prod.fst=(μ1++(a,o)::μ2).map Prod.fst:=by simp
 have ss:qU (mask (μ1++(a,o)::μ2) H) (mask (μ1++(a,o')::μ2) H'):=fun b u e=>by
  obtain ⟨h1,h2⟩:=Jx e
  rw [yc (by rw [ks];exact h1)]
  exact k b u h2 fun z=>h1 (by rw [z];simp)
 refine ⟨⟨by rw [ks];exact h.nd,fun b q hq=>?_⟩,ss⟩
 have nd:=h.nd
 simp only [List.map_append,List.map_cons,List.nodup_append,List.nodup_cons] at nd
 have hcase:(b,q)=(a,o')\/((b,q)∈μ1++(a,o)::μ2/\b≠a):=by
  rcases List.mem_append.mp hq with z | z
  ·exact .inr ⟨qC _ z,fun e=>nd.2.2 b (qc9 z) a (by simp) e⟩
  ·rcases List.mem_cons.mp z with z | z
   ·exact .inl z
   ·exact .inr ⟨qf _ (qe _ z),fun e=>nd.2.1.1 (e ▸ qc9 z)⟩
 rcases hcase with z | ⟨z,hne⟩
 ·cases z;exact new ss
 ·have:=h.ob b q z
  obtain ⟨xs,e⟩:=this.some
  exact this.same ss ((k b _ e hne).trans e.symm)
theorem RelM.drop {K:W.Frag}{μ1 μ2:Mu}{H:Hp}{a:Addr}{o:MO}(h:RelM K (μ1++(a,o)::μ2) H):RelM K (μ1++μ2) H/\qU (mask (μ1++(a,o)::μ2) H) (mask (μ1++μ2) H)/\a∉(μ1++μ2).map Prod.fst:=by
 have nd:=h.nd
 have ss:qU (mask (μ1++(a,o)::μ2) H) (mask (μ1++μ2) H):=qeO fun b hb=>by
  simp only [List.map_append,List.map_cons,List.mem_append,List.mem_cons] at *
  rcases hb with z | z
  ·exact .inl z
  ·exact .inr (.inr z)
 simp only [List.map_append,List.map_cons,List.nodup_append,List.nodup_cons] at nd
 refine ⟨⟨?_,fun b q hq=>?_⟩,ss,?_⟩
 ·simp only [List.map_append,List.nodup_append]
  exact ⟨nd.1,nd.2.1.2,fun x hx y hy=>nd.2.2 x hx y (qe _ hy)⟩
 ·have:(b,q)∈μ1++(a,o)::μ2:=by
   rcases List.mem_append.mp hq with z | z
   ·exact qC _ z
   ·exact qf _ (qe _ z)
  exact (h.ob b q this).same ss rfl
 ·simp only [List.map_append,List.mem_append,not_or]
  exact ⟨fun z=>nd.2.2 a z a (by simp) rfl,nd.2.1.1⟩
theorem RelM.new {K:W.Frag}{μ:Mu}{H:Hp}{p:Addr}{u:HO}{o:MO}(h:RelM K μ H) (e:H p=none) (new:qU (mask μ H) (mask ((p,o)::μ) (upd H p u))->qf7 K ((p,o)::μ) (upd H p u) p o) :
  RelM K ((p,o)::μ) (upd H p u)/\qU (mask μ H) (mask ((p,o)::μ) (upd H p u)):=by
 obtain ⟨h1,h2,h3⟩:=h.laid (o:=u) e
 have ss:qU (mask μ H) (mask ((p,o)::μ) (upd H p u)):=fun b q z=>by
  obtain ⟨z1,z2⟩:=Jx z
  have hb:b≠p:=qM z2 e
  rw [yc (by simp only [List.map_cons,List.mem_cons,not_or];exact ⟨hb,z1⟩),qP hb];exact z2
 refine ⟨⟨by simp only [List.map_cons,List.nodup_cons];exact ⟨h3,h.nd⟩,fun b q hq=>?_⟩,ss⟩
 rcases List.mem_cons.mp hq with z | z
 ·cases z;exact new ss
 ·have:=h.ob b q z
  obtain ⟨xs,e'⟩:=this.some
  exact this.same ss (qP (qM e' e))
abbrev Rho:=List (Option En)
structure RelS (K:W.Frag) (ρ:Rho) (μ:Mu) (σ:St) (H:Hp):Prop where
 len:ρ.length=σ.length
 get:∀ (i:Nat) (e:En),ρ[i]?=some (some e)->∃ v,σ[i]?=some (some v)/\IsE K μ H v e
theorem RelS.same {K:W.Frag}{ρ:Rho}{μ μ':Mu}{σ:St}{H H':Hp}(h:RelS K ρ μ σ H) (s:qU (mask μ H) (mask μ' H')):RelS K ρ μ' σ H' :=
 ⟨h.len,fun i e q=>let ⟨v,e1,e2⟩:=h.get i e q;⟨v,e1,e2.same s⟩⟩
theorem RelS.set {K:W.Frag}{ρ:Rho}{μ:Mu}{σ:St}{H:Hp}{i:Nat}{v:V}{e:En}(h:RelS K ρ μ σ H) (r:IsE K μ H v e):RelS K (ρ.set i (some e)) μ (σ.set i (some v)) H:=by
 refine ⟨by simp [h.len],fun j x q=>?_⟩
 by_cases hj:i=j
 ·subst hj
  have hi:i<ρ.length:=by
   have:=(qo.mp q).1
   simpa using this
  rw [List.getElem?_set_self (by rw [<- h.len];exact hi)]
  rw [List.getElem?_set_self hi] at q
  cases q
  exact ⟨v,rfl,r⟩
 ·rw [List.getElem?_set_ne hj] at *
  exact h.get j x q
def Wk (ρ:Rho) (μ:Mu) (ρ':Rho) (μ':Mu):Prop:=∀ (K:W.Frag) (σ:St) (H:Hp),RelS K ρ μ σ H->RelM K μ H->RelS K ρ' μ' σ H/\RelM K μ' H/\qU (mask μ H) (mask μ' H)
theorem Wk.refl {ρ:Rho}{μ:Mu}:Wk ρ μ ρ μ:=fun _ _ _ h1 h2=>⟨h1,h2,qU.refl _⟩
theorem Wk.trans {ρ ρ1 ρ2:Rho}{μ μ1 μ2:Mu}(h:Wk ρ μ ρ1 μ1) (h':Wk ρ1 μ1 ρ2 μ2):Wk ρ μ ρ2 μ2:=fun K σ H a b=>by
 obtain ⟨a1,b1,s1⟩:=h K σ H a b
 obtain ⟨a2,b2,s2⟩:=h' K σ H a1 b1
 exact ⟨a2,b2,s1.trans s2⟩
def Lt (ρ' ρ:Rho):Prop:=ρ'.length=ρ.length/\∀ (i:Nat) (e:En),ρ'[i]?=some (some e)->ρ[i]?=some (some e)
theorem Wk.names {ρ ρ':Rho}{μ:Mu}(h:Lt ρ' ρ):Wk ρ μ ρ' μ:=fun _ _ _ h1 h2=>⟨⟨h.1.trans h1.len,fun i e q=>h1.get i e (h.2 i e q)⟩,h2,qU.refl _⟩
theorem Wk.drop {ρ:Rho}{μ1 μ2:Mu}{a:Addr}{o:MO}:Wk ρ (μ1++(a,o)::μ2) ρ (μ1++μ2):=fun _ _ _ h1 h2=>by
 obtain ⟨x,y,_⟩:=h2.drop
 exact ⟨h1.same y,x,y⟩
theorem Wk.drop1 {ρ:Rho}{μ2:Mu}{a:Addr}{o:MO}:Wk ρ ((a,o)::μ2) ρ μ2:=Wk.drop (μ1:=[])
theorem Lt.nil:Lt [] []:=⟨rfl,fun i e h=>h⟩
theorem Lt.keep {ρ' ρ:Rho}{e:Option En}(h:Lt ρ' ρ):Lt (e::ρ') (e::ρ):=⟨by simp [h.1],fun i x q=>by
 cases i with
 | zero=>simpa using q
 | succ i=>simp at q;simpa using h.2 i x q⟩
theorem Lt.refl (ρ:Rho):Lt ρ ρ:=⟨rfl,fun i e h=>h⟩
abbrev TEd:=Rho->Mu->(En->Mu->Prop)->Prop
abbrev TTd:=Rho->Mu->(Bool->Mu->Prop)->Prop
abbrev TAd:=Rho->Mu->(List En->Mu->Prop)->Prop
structure EndsD where
 nx:Rho->Mu->Prop
 rt:En->Mu->Prop
 bk:Rho->Mu->Prop:=fun _ _=>False
 ct:Rho->Mu->Prop:=fun _ _=>False
abbrev TSd:=EndsD->Rho->Mu->Prop
def Cl (K:W.Frag) (μ:Mu) (H:Hp) (Q0:En->Mu->Prop) (Q:VK):Prop:=∀ e μ' v H',Q0 e μ'->RelM K μ' H'->qU (mask μ H) (mask μ' H')->IsE K μ' H' v e->Q v H'
def ClT (K:W.Frag) (μ:Mu) (H:Hp) (Q0:Bool->Mu->Prop) (Q:Bool->Hp->Prop):Prop:=∀ b μ' H',Q0 b μ'->RelM K μ' H'->qU (mask μ H) (mask μ' H')->Q b H'
def ClA (K:W.Frag) (μ:Mu) (H:Hp) (Q0:List En->Mu->Prop) (Q:List V->Hp->Prop):Prop:=∀ es μ' vs H',Q0 es μ'->RelM K μ' H'->qU (mask μ H) (mask μ' H')->Paired (IsE K μ' H') vs es->Q vs H'
def ClR (K:W.Frag) (μ:Mu) (H:Hp) (Q0:Rho->Mu->Prop) (Q:St->Hp->Prop):Prop:=∀ ρ' μ' σ' H',Q0 ρ' μ'->RelS K ρ' μ' σ' H'->RelM K μ' H'->qU (mask μ H) (mask μ' H')->Q σ' H'
structure ClS (K:W.Frag) (μ:Mu) (H:Hp) (D0:EndsD) (D:Ends):Prop where
 nx:ClR K μ H D0.nx D.nx
 rt:Cl K μ H D0.rt D.rt
 bk:ClR K μ H D0.bk D.bk
 ct:ClR K μ H D0.ct D.ct
theorem Cl.same {K:W.Frag}{μ μ1:Mu}{H H1:Hp}{Q0:En->Mu->Prop}{Q:VK}(h:Cl K μ H Q0 Q) (s:qU (mask μ H) (mask μ1 H1)):Cl K μ1 H1 Q0 Q:=fun e μ' v H' a b c d=>h e μ' v H' a b (s.trans c) d
theorem ClT.same {K:W.Frag}{μ μ1:Mu}{H H1:Hp}{Q0:Bool->Mu->Prop}{Q:Bool->Hp->Prop}(h:ClT K μ H Q0 Q) (s:qU (mask μ H) (mask μ1 H1)):ClT K μ1 H1 Q0 Q:=fun e μ' H' a b c=>h e μ' H' a b (s.trans c)
theorem ClR.same {K:W.Frag}{μ μ1:Mu}{H H1:Hp}{Q0:Rho->Mu->Prop}{Q:St->Hp->Prop}(h:ClR K μ H Q0 Q) (s:qU (mask μ H) (mask μ1 H1)):ClR K μ1 H1 Q0 Q:=fun e μ' v H' a b c d=>h e μ' v H' a b c (s.trans d)
theorem ClS.same {K:W.Frag}{μ μ1:Mu}{H H1:Hp}{D0:EndsD}{D:Ends}(h:ClS K μ H D0 D) (s:qU (mask μ H) (mask μ1 H1)):ClS K μ1 H1 D0 D:=⟨h.nx.same s,h.rt.same s,h.bk.same s,h.ct.same s⟩
def up (K:W.Frag) (t:TEd):TE:=fun σ H Q=>∃ ρ μ Q0,RelS K ρ μ σ H/\RelM K μ H/\t ρ μ Q0/\Cl K μ H Q0 Q
def upT (K:W.Frag) (t:TTd):TT:=fun σ H Q=>∃ ρ μ Q0,RelS K ρ μ σ H/\RelM K μ H/\t ρ μ Q0/\ClT K μ H Q0 Q
def upA (K:W.Frag) (t:TAd):TA:=fun σ H Q=>∃ ρ μ Q0,RelS K ρ μ σ H/\RelM K μ H/\t ρ μ Q0/\ClA K μ H Q0 Q
def upS (K:W.Frag) (t:TSd):TS:=fun D σ H=>∃ ρ μ D0,RelS K ρ μ σ H/\RelM K μ H/\t D0 ρ μ/\ClS K μ H D0 D
def DE (K:W.Frag) (X:Cx) (e:Expr) (t:TEd):Prop:=PE X e (up K t)
def DT (K:W.Frag) (X:Cx) (e:Expr) (t:TTd):Prop:=PT X e (upT K t)
def DW (K:W.Frag) (X:Cx) (e:Expr) (t:TTd):Prop:=PW X e (upT K t)
def DA (K:W.Frag) (X:Cx) (es:List Expr) (t:TAd):Prop:=PA X es (upA K t)
def DS (K:W.Frag) (X:Cx) (st:Stmt) (t:TSd):Prop:=PS X st (upS K t)
def DSs (K:W.Frag) (X:Cx) (st:List Stmt) (t:TSd):Prop:=PSs X st (upS K t)
section
variable {X:Cx}{K:W.Frag}
theorem PE.mono {e:Expr}{t t':TE}(h:PE X e t) (f:∀ σ H Q,t' σ H Q->t σ H Q):PE X e t':=fun pins s σ H Q I q=>h pins s σ H Q I (f _ _ _ q)
theorem PT.mono {e:Expr}{t t':TT}(h:PT X e t) (f:∀ σ H Q,t' σ H Q->t σ H Q):PT X e t':=fun pins s σ H Q I q=>h pins s σ H Q I (f _ _ _ q)
theorem PW.mono {e:Expr}{t t':TT}(h:PW X e t) (f:∀ σ H Q,t' σ H Q->t σ H Q):PW X e t':=fun wh pins s σ H Q I q=>h wh pins s σ H Q I (f _ _ _ q)
theorem PA.mono {e:List Expr}{t t':TA}(h:PA X e t) (f:∀ σ H Q,t' σ H Q->t σ H Q):PA X e t':=fun p pins s σ H Q I q=>h p pins s σ H Q I (f _ _ _ q)
theorem PS.mono {e:Stmt}{t t':TS}(h:PS X e t) (f:∀ D σ H,t' D σ H->t D σ H):PS X e t':=fun pins s σ H D I q=>h pins s σ H D I (f _ _ _ q)
theorem PSs.mono {e:List Stmt}{t t':TS}(h:PSs X e t) (f:∀ D σ H,t' D σ H->t D σ H):PSs X e t':=fun pins s σ H D I q=>h pins s σ H D I (f _ _ _ q)
theorem OpR.mono {f:Value->Value->Sem Value}{r r':R2}(h:OpR X f r) (g:∀ x y H Q,r' x y H Q->r x y H Q):OpR X f r':=fun pins s σ H x y v u Q I a b c=>h pins s σ H x y v u Q I a b (g _ _ _ _ c)
theorem UnR.mono {f:Value->Sem Value}{r r':V->Hp->VK->Prop}(h:UnR X f r) (g:∀ x H Q,r' x H Q->r x H Q):UnR X f r':=fun pins s σ H x v Q I a c=>h pins s σ H x v Q I a (g _ _ _ c)
theorem yz.mono {f:Value}{r r':List V->Hp->VK->Prop}(h:yz X f r) (g:∀ x H Q,r' x H Q->r x H Q):yz X f r':=fun pins s σ H x v Q I a c=>h pins s σ H x v Q I a (g _ _ _ c)
theorem IxR.mono {r r':R2}(h:IxR X r) (g:∀ x y H Q,r' x y H Q->r x y H Q):IxR X r':=fun a b pins s σ H x y v u Q I p q c=>h a b pins s σ H x y v u Q I p q (g _ _ _ _ c)
theorem MtM.mono {id:String}{r r':V->List V->Hp->VK->Prop}(h:MtM X id r) (g:∀ x y H Q,r' x y H Q->r x y H Q):MtM X id r':=fun pins s σ H x xs v us Q I a b c=>h pins s σ H x xs v us Q I a b (g _ _ _ _ c)
theorem MtR.mono {id:String}{r r':V->List V->Hp->VK->Prop}(h:MtR X id r) (g:∀ x y H Q,r' x y H Q->r x y H Q):MtR X id r':=fun pins s σ H x xs v us Q I a b c=>h pins s σ H x xs v us Q I a b (g _ _ _ _ c)
def dVar (i:Nat):TEd:=fun ρ μ Q=>match ρ[i]? with
 | some (some e)=>Q e μ
 | _=>False
def dC (x:PyData):TEd:=fun _ μ Q=>Q (.d x) μ
theorem dv (i:Nat) {x:Str}{pos:Pos}(hN:X.N[i]?=some x:=by rfl) (hv:Vis X.env.scope x:=by first | exact Or.inl rfl | exact Or.inr (Or.inl rfl) | exact Or.inr (Or.inr rfl)) (hd:(x == ("__debug__" : Str))=false:=by decide)
  (hcd:(x == ("__classdict__" : Str))=false:=by decide):DE K X (.Name x pos) (dVar i):=by
 refine PE.mono (qfM hN hv hd hcd) fun σ H Q hq9=>?_
 obtain ⟨ρ,μ,Q0,hS,hM,h,cl⟩:=hq9
 unfold dVar at h
 split at h
 ·rename_i e he
  obtain ⟨v,e1,e2⟩:=hS.get i e he
  exact ⟨v,e1,cl e μ v H h hM (qU.refl _) e2⟩
 ·exact h.elim
theorem qu {i:Int}{j pos}:DE K X (.Constant (.int i) j pos) (dC (.int i)):=PE.mono jo fun σ H Q ⟨ρ,μ,Q0,hS,hM,h,cl⟩=>cl _ μ (.int i) H h hM (qU.refl _) (.int i)
theorem qdQ {b:Bool}{j pos}:DE K X (.Constant (.bool b) j pos) (dC (.bool b)):=PE.mono pe_bl fun σ H Q ⟨ρ,μ,Q0,hS,hM,h,cl⟩=>cl _ μ (.bl b) H h hM (qU.refl _) (.bl b)
theorem qhr {j pos}:DE K X (.Constant .none j pos) (dC .none):=PE.mono qiI fun σ H Q ⟨ρ,μ,Q0,hS,hM,h,cl⟩=>cl _ μ .non H h hM (qU.refl _) .non
theorem up2 {σ:St}{H:Hp}{ta tb:TEd}{R:V->V->Hp->Prop}{ρ:Rho}{μ:Mu}{R0:En->En->Mu->Prop}(hS:RelS K ρ μ σ H) (hM:RelM K μ H) (h:ta ρ μ fun x μ1=>tb ρ μ1 fun y μ2=>R0 x y μ2)
  (f:∀ x y μ2 v u H2,R0 x y μ2->RelM K μ2 H2->qU (mask μ H) (mask μ2 H2)->IsE K μ2 H2 v x->IsE K μ2 H2 u y->R v u H2):up K ta σ H fun v H1=>up K tb σ H1 fun u H2=>R v u H2:=by
 refine ⟨ρ,μ,_,hS,hM,h,fun x μ1 v H1 q1 M1 s1 i1=>⟨ρ,μ1,_,hS.same s1,M1,q1,fun y μ2 u H2 q2 M2 s2 i2=>?_⟩⟩
 exact f x y μ2 v u H2 q2 M2 (s1.trans s2) (i1.same s2) i2
abbrev R2d:=En->En->Mu->(En->Mu->Prop)->Prop
abbrev R1d:=En->Mu->(En->Mu->Prop)->Prop
abbrev RAd:=List En->Mu->(En->Mu->Prop)->Prop
def upR (K:W.Frag) (r:R2d):R2:=fun x y H Q=>∃ μ e e' Q0,RelM K μ H/\IsE K μ H x e/\IsE K μ H y e'/\r e e' μ Q0/\Cl K μ H Q0 Q
def upU (K:W.Frag) (r:R1d):V->Hp->VK->Prop:=fun x H Q=>∃ μ e Q0,RelM K μ H/\IsE K μ H x e/\r e μ Q0/\Cl K μ H Q0 Q
def upC (K:W.Frag) (r:RAd):List V->Hp->VK->Prop:=fun xs H Q=>∃ μ es Q0,RelM K μ H/\Paired (IsE K μ H) xs es/\r es μ Q0/\Cl K μ H Q0 Q
variable {a b c:Expr}{ta tb tc:TEd}{pos:Pos}
def dOp (r:R2d) (ta tb:TEd):TEd:=fun ρ μ Q=>ta ρ μ fun x μ1=>tb ρ μ1 fun y μ2=>r x y μ2 Q
def dUn (r:R1d) (ta:TEd):TEd:=fun ρ μ Q=>ta ρ μ fun x μ1=>r x μ1 Q
theorem qge {r:R2d}{σ:St}{H:Hp}{Q:VK}(h:up K (dOp r ta tb) σ H Q):tOp (upR K r) (up K ta) (up K tb) σ H Q:=by
 obtain ⟨ρ,μ,Q0,hS,hM,h,cl⟩:=h
 exact up2 hS hM h fun x y μ2 v u H2 q M2 s2 i1 i2=>⟨μ2,x,y,Q0,M2,i1,i2,q,cl.same s2⟩
theorem yj {op:Operator}{r:R2d}(ho:OpR X (binaryOp op) (upR K r)) (ha:DE K X a ta) (hb:DE K X b tb):DE K X (.BinOp a op b pos) (dOp r ta tb):=PE.mono (Yz ho ha hb) fun _ _ _=>qge
theorem J4 {op:CmpOp}{r:R2d}(ho:OpR X (compareOp op) (upR K r)) (ha:DE K X a ta) (hb:DE K X b tb) (hm:behindInMarks op b=false):DE K X (.Compare a [op] [b] pos) (dOp r ta tb):=PE.mono (qgH ho ha hb hm) fun _ _ _=>qge
def qht (t:TEd):TTd:=fun ρ μ Q=>t ρ μ fun e μ1=>match e with
 | .d (.bool k)=>Q k μ1
 | _=>False
theorem qgd {t:TEd}{σ:St}{H:Hp}{Q:Bool->Hp->Prop}(h:upT K (qht t) σ H Q):up K t σ H fun x H1=>∃ k,x = .bl k/\Q k H1:=by
 obtain ⟨ρ,μ,Q0,hS,hM,h,cl⟩:=h
 refine ⟨ρ,μ,_,hS,hM,h,fun e μ1 v H1 q M1 s1 i1=>?_⟩
 split at q
 ·cases i1
  exact ⟨_,rfl,cl _ μ1 H1 q M1 s1⟩
 ·exact q.elim
theorem yB {op:CmpOp}{r:R2d}(ho:OpR X (compareOp op) (upR K r)) (ha:DE K X a ta) (hb:DE K X b tb) (hm:behindInMarks op b=false):DT K X (.Compare a [op] [b] pos) (qht (dOp r ta tb)):=by
 refine PT.mono (qcM ho ha hb hm) fun σ H Q h=>?_
 obtain ⟨ρ,μ,Q0,hS,hM,h,cl⟩:=h
 refine up2 hS hM h fun x y μ2 v u H2 q M2 s2 i1 i2=>⟨μ2,x,y,_,M2,i1,i2,q,fun e μ3 w H3 q3 M3 s3 i3=>?_⟩
 split at q3
 ·cases i3
  exact ⟨_,rfl,cl _ μ3 H3 q3 M3 (s2.trans s3)⟩
 ·exact q3.elim
theorem jH {t:TEd}(h:DE K X a t) (he:∀ whole,isTrue a X.env whole=(do let v <- whole;standAt a.pos;holding [v] (truthy v)):=by intro _;rfl):DT K X a (qht t):=PT.mono (qiv h he) fun _ _ _=>qgd
theorem qjq {op:UnaryOp}{r:R1d}(ho:UnR X (unaryOp op) (upU K r)) (ha:DE K X a ta):DE K X (.UnaryOp op a pos) (dUn r ta):=by
 refine PE.mono (pe_un ho ha) fun σ H Q hq9=>?_
 obtain ⟨ρ,μ,Q0,hS,hM,h,cl⟩:=hq9
 exact ⟨ρ,μ,_,hS,hM,h,fun e μ1 v H1 q M1 s1 i1=>⟨μ1,e,Q0,M1,i1,q,cl.same s1⟩⟩
def rdI (C:Int->Int->Prop) (g:Int->Int->PyData):R2d:=fun x y μ Q=>match x,y with
 | .d (.int i),.d (.int j)=>C i j/\Q (.d (g i j)) μ
 | _,_=>False
def qew (g:Int->Int->PyData):R2d:=fun x y μ Q=>match x,y with
 | .d (.int i),.d (.int j)=>Q (.d (g i j)) μ
 | _,_=>False
def rdU (g:Int->PyData):R1d:=fun x μ Q=>match x with
 | .d (.int i)=>Q (.d (g i)) μ
 | _=>False
theorem qeg {C:Int->Int->Prop}{g:Int->Int->Int}{x y:V}{H:Hp}{Q:VK}(h:upR K (rdI C fun i j=>.int (g i j)) x y H Q):rI C (fun i j=>.int (g i j)) x y H Q:=by
 obtain ⟨μ,e,e',Q0,M,i1,i2,q,cl⟩:=h
 unfold rdI at q
 split at q
 ·cases i1;cases i2
  exact ⟨_,_,rfl,rfl,q.1,cl _ μ _ H q.2 M (qU.refl _) (.int _)⟩
 ·exact q.elim
theorem qfp {g:Int->Int->Int}{x y:V}{H:Hp}{Q:VK}(h:upR K (qew fun i j=>.int (g i j)) x y H Q):rI0 (fun i j=>.int (g i j)) x y H Q:=by
 obtain ⟨μ,e,e',Q0,M,i1,i2,q,cl⟩:=h
 unfold qew at q
 split at q
 ·cases i1;cases i2
  exact ⟨_,_,rfl,rfl,cl _ μ _ H q M (qU.refl _) (.int _)⟩
 ·exact q.elim
theorem qcn {g:Int->Int->Bool}{x y:V}{H:Hp}{Q:VK}(h:upR K (qew fun i j=>.bool (g i j)) x y H Q):rI0 (fun i j=>.bl (g i j)) x y H Q:=by
 obtain ⟨μ,e,e',Q0,M,i1,i2,q,cl⟩:=h
 unfold qew at q
 split at q
 ·cases i1;cases i2
  exact ⟨_,_,rfl,rfl,cl _ μ _ H q M (qU.refl _) (.bl _)⟩
 ·exact q.elim
theorem jr:OpR X (binaryOp .Add) (upR K (qew fun i j=>.int (i+j))):=qc2.mono fun _ _ _ _=>qfp
theorem yq:OpR X (binaryOp .Sub) (upR K (qew fun i j=>.int (i - j))):=qiL.mono fun _ _ _ _=>qfp
theorem yn:OpR X (binaryOp .Mult) (upR K (rdI qb5 fun i j=>.int (i * j))):=qax.mono fun _ _ _ _=>qeg
theorem qaM:OpR X (binaryOp .FloorDiv) (upR K (rdI qhI fun i j=>.int (i.fdiv j))):=qeK.mono fun _ _ _ _=>qeg
theorem qbt:OpR X (binaryOp .Mod) (upR K (rdI (fun _ j=>0<j) fun i j=>.int (i % j))):=ZN.mono fun _ _ _ _=>qeg
theorem Ys:OpR X (binaryOp .Pow) (upR K (rdI CPow fun i j=>.int (i ^ j.toNat))):=qiM.mono fun _ _ _ _=>qeg
theorem qdK:OpR X (compareOp .Lt) (upR K (qew fun i j=>.bool (decide (i<j)))):=op_lt.mono fun _ _ _ _=>qcn
theorem qe4:OpR X (compareOp .LtE) (upR K (qew fun i j=>.bool (decide (i<=j)))):=op_le.mono fun _ _ _ _=>qcn
theorem qe5:OpR X (compareOp .Gt) (upR K (qew fun i j=>.bool (decide (j<i)))):=qiQ.mono fun _ _ _ _=>qcn
theorem Z0:UnR X (unaryOp .USub) (upU K (rdU fun i=>.int (-i))):=qhW.mono fun x H Q h=>by
 obtain ⟨μ,e,Q0,M,i1,q,cl⟩:=h
 unfold rdU at q
 split at q
 ·cases i1
  exact ⟨_,rfl,cl _ μ _ H q M (qU.refl _) (.int _)⟩
 ·exact q.elim
inductive LstOf (μ:Mu):En->List PyData->Prop
 | d (ds:List PyData):LstOf μ (.d (.list ds)) ds
 | m {a:Addr}{ds:List PyData}(h:(a,.lst ds)∈μ):LstOf μ (.m a) ds
theorem LstOf.get {μ:Mu}{e:En}{ds:List PyData}{H:Hp}{v:V}(h:LstOf μ e ds) (M:RelM K μ H) (i:IsE K μ H v e):∃ p xs,v = .ref p/\SqL K H p xs/\IsAll K (mask μ H) xs ds:=by
 cases h with
 | d ds =>
  cases i with
  | lst h hs=>exact ⟨_,_,rfl,qU.seq yt h,hs⟩
 | m h =>
  obtain ⟨xs,e,hs⟩:=M.ob _ _ h
  exact ⟨_,xs,i,SqL.of e,hs⟩
inductive DatOf (μ:Mu):En->PyData->Prop
 | d (x:PyData):DatOf μ (.d x) x
 | m {a:Addr}{ds:List PyData}(h:(a,.lst ds)∈μ):DatOf μ (.m a) (.list ds)
theorem DatOf.is {μ:Mu}{e:En}{x:PyData}{H:Hp}{v:V}(h:DatOf μ e x) (M:RelM K μ H) (i:IsE K μ H v e):Is K H v x:=by
 cases h with
 | d x=>exact Is.same yt i
 | m h =>
  obtain ⟨xs,e,hs⟩:=M.ob _ _ h
  have i:v=_:=i
  subst i
  exact .lst (SqL.of e) (IsAll.same yt hs)
def qjT (neg:Bool):R2d:=fun x y μ Q=>match x,y with
 | .d (.int i),.d (.int j)=>Q (.d (.bool (if neg then !decide (i=j) else decide (i=j)))) μ
 | _,_=>∃ d d',DatOf μ x d/\DatOf μ y d'/\SeqAt.shaped d=true/\SeqAt.shaped d'=true/\Q (.d (.bool (if neg then !PyData.eqv d d' else PyData.eqv d d'))) μ
theorem qhd (i j:Int):PyData.eqv (.int i) (.int j)=decide (i=j):=by
 by_cases h:i=j <;> simp [PyData.eqv,h]
theorem qa5 {neg:Bool}{x y:En}{μ:Mu}{Q:En->Mu->Prop}(h:qjT neg x y μ Q):∃ d d',DatOf μ x d/\DatOf μ y d'/\SeqAt.shaped d=true/\SeqAt.shaped d'=true/\Q (.d (.bool (if neg then !PyData.eqv d d' else PyData.eqv d d'))) μ:=by
 unfold qjT at h
 split at h
 ·exact ⟨_,_,.d _,.d _,rfl,rfl,by rw [qhd];exact h⟩
 ·exact h
theorem Z1 (hu:X.A.units+64<cLine) (hK:X.K=K:=by rfl):OpR X (compareOp .Eq) (upR K (qjT false)):=by
 subst hK
 refine (qiR hu).mono fun x y H Q h=>?_
 obtain ⟨μ,e,e',Q0,M,i1,i2,q,cl⟩:=h
 obtain ⟨d,d',h1,h2,h3,h4,q⟩:=qa5 q
 exact ⟨d,d',h1.is M i1,h2.is M i2,h3,h4,cl _ μ _ H q M (qU.refl _) (.bl _)⟩
theorem YF (hu:X.A.units+64<cLine) (hK:X.K=K:=by rfl):OpR X (compareOp .NotEq) (upR K (qjT true)):=by
 subst hK
 refine (qiN hu).mono fun x y H Q h=>?_
 obtain ⟨μ,e,e',Q0,M,i1,i2,q,cl⟩:=h
 obtain ⟨d,d',h1,h2,h3,h4,q⟩:=qa5 q
 exact ⟨d,d',h1.is M i1,h2.is M i2,h3,h4,cl _ μ _ H q M (qU.refl _) (.bl _)⟩
def dAnd (t u:TTd):TTd:=fun ρ μ Q=>t ρ μ fun k μ1=>if k=true then u ρ μ1 Q else Q false μ1
def dOr (t u:TTd):TTd:=fun ρ μ Q=>t ρ μ fun k μ1=>if k=true then Q true μ1 else u ρ μ1 Q
def dNot (t:TTd):TTd:=fun ρ μ Q=>t ρ μ fun k μ1=>Q (!k) μ1
variable {tA tB:TTd}{yE:List Expr}
theorem qaI (ha:DT K X a tA):DW K X (.BoolOp .And [a] pos) tA:=qgw ha
theorem qbp (ha:DT K X a tA):DW K X (.BoolOp .Or [a] pos) tA:=qis ha
theorem qbq (ha:DT K X a tA) (hb:DW K X (.BoolOp .And (b::yE) pos) tB):DW K X (.BoolOp .And (a::b::yE) pos) (dAnd tA tB):=by
 refine PW.mono (qit ha hb) fun σ H Q hq9=>?_
 obtain ⟨ρ,μ,Q0,hS,hM,h,cl⟩:=hq9
 refine ⟨ρ,μ,_,hS,hM,h,fun k μ1 H1 q M1 s1=>?_⟩
 cases k with
 | true=>exact ⟨ρ,μ1,Q0,hS.same s1,M1,by simpa using q,cl.same s1⟩
 | false=>exact cl _ μ1 H1 (by simpa using q) M1 s1
theorem qdG (ha:DT K X a tA) (hb:DW K X (.BoolOp .Or (b::yE) pos) tB):DW K X (.BoolOp .Or (a::b::yE) pos) (dOr tA tB):=by
 refine PW.mono (pw_or ha hb) fun σ H Q hq9=>?_
 obtain ⟨ρ,μ,Q0,hS,hM,h,cl⟩:=hq9
 refine ⟨ρ,μ,_,hS,hM,h,fun k μ1 H1 q M1 s1=>?_⟩
 cases k with
 | false=>exact ⟨ρ,μ1,Q0,hS.same s1,M1,by simpa using q,cl.same s1⟩
 | true=>exact cl _ μ1 H1 (by simpa using q) M1 s1
theorem qhf (h:DW K X a tA):DT K X a tA:=PW.pt h
theorem Yr (ha:DT K X a tA):DT K X (.UnaryOp .Not a pos) (dNot tA):=PT.mono (qiw ha) fun σ H Q ⟨ρ,μ,Q0,hS,hM,h,cl⟩=>⟨ρ,μ,_,hS,hM,h,fun k μ1 H1 q M1 s1=>cl _ μ1 H1 q M1 s1⟩
def dAndV (ta tb:TEd):TEd:=fun ρ μ Q=>ta ρ μ fun x μ1=>match x with
 | .d (.bool k)=>if k=true then tb ρ μ1 Q else Q (.d (.bool false)) μ1
 | _=>False
def dNotV (ta:TEd):TEd:=fun ρ μ Q=>ta ρ μ fun x μ1=>match x with
 | .d (.bool k)=>Q (.d (.bool (!k))) μ1
 | _=>False
theorem qbZ {op} {t:TEd}(h:DE K X a t):DE K X (.BoolOp op [a] pos) t:=qiG h
theorem qaR (ha:DE K X a ta) (hb:DE K X (.BoolOp .And (b::yE) pos) tb):DE K X (.BoolOp .And (a::b::yE) pos) (dAndV ta tb):=by
 refine PE.mono (qiJ ha hb) fun σ H Q hq9=>?_
 obtain ⟨ρ,μ,Q0,hS,hM,h,cl⟩:=hq9
 refine ⟨ρ,μ,_,hS,hM,h,fun e μ1 v H1 q M1 s1 i1=>?_⟩
 split at q
 ·rename_i k
  cases i1
  refine ⟨k,rfl,?_⟩
  cases k with
  | true=>exact qb6 ⟨ρ,μ1,Q0,hS.same s1,M1,by simpa using q,cl.same s1⟩
  | false=>exact qbh (cl (.d (.bool false)) μ1 _ H1 (by simpa using q) M1 s1 (Is.bl _))
 ·exact q.elim
theorem d_not (ha:DE K X a ta):DE K X (.UnaryOp .Not a pos) (dNotV ta):=by
 refine PE.mono (qiH ha) fun σ H Q hq9=>?_
 obtain ⟨ρ,μ,Q0,hS,hM,h,cl⟩:=hq9
 refine ⟨ρ,μ,_,hS,hM,h,fun e μ1 v H1 q M1 s1 i1=>?_⟩
 split at q
 ·cases i1
  exact ⟨_,rfl,cl _ μ1 _ H1 q M1 s1 (.bl _)⟩
 ·exact q.elim
def dIf (t:TTd) (ta tb:TEd):TEd:=fun ρ μ Q=>t ρ μ fun k μ1=>if k=true then ta ρ μ1 Q else tb ρ μ1 Q
theorem qhs (hc:DT K X c tA) (ha:DE K X a ta) (hb:DE K X b tb):DE K X (.IfExp c a b pos) (dIf tA ta tb):=by
 refine PE.mono (qeH hc ha hb) fun σ H Q hq9=>?_
 obtain ⟨ρ,μ,Q0,hS,hM,h,cl⟩:=hq9
 refine ⟨ρ,μ,_,hS,hM,h,fun k μ1 H1 q M1 s1=>?_⟩
 cases k with
 | true=>exact qb6 ⟨ρ,μ1,Q0,hS.same s1,M1,by simpa using q,cl.same s1⟩
 | false=>exact qbh ⟨ρ,μ1,Q0,hS.same s1,M1,by simpa using q,cl.same s1⟩
variable {es:List Expr}{tr:TAd}
def dNil:TAd:=fun _ μ Q=>Q [] μ
def dCons (ta:TEd) (tr:TAd):TAd:=fun ρ μ Q=>ta ρ μ fun x μ1=>tr ρ μ1 fun xs μ2=>Q (x::xs) μ2
theorem qm:DA K X [] dNil:=PA.mono qiK fun σ H Q ⟨ρ,μ,Q0,hS,hM,h,cl⟩=>cl _ μ _ H h hM (qU.refl _) .nil
theorem qc (ha:DE K X a ta) (hr:DA K X es tr) (hs:starEach (a::es) X.env=(false,eval a X.env)::starEach es X.env:=by rfl):DA K X (a::es) (dCons ta tr):=by
 refine PA.mono (qgL ha hr hs) fun σ H Q hq9=>?_
 obtain ⟨ρ,μ,Q0,hS,hM,h,cl⟩:=hq9
 refine ⟨ρ,μ,_,hS,hM,h,fun e μ1 v H1 q M1 s1 i1=>⟨ρ,μ1,_,hS.same s1,M1,q,fun es' μ2 vs H2 q2 M2 s2 i2=>?_⟩⟩
 exact cl _ μ2 _ H2 q2 M2 (s1.trans s2) (.cons (i1.same s2) i2)
def qhE:List En->Option (List PyData)
 | []=>some []
 | .d x::r=>(qhE r).map (x::·)
 | _::_=>none
theorem Zy {μ:Mu}{H:Hp}:∀ {es:List En}{ds:List PyData}{vs:List V},qhE es=some ds->Paired (IsE K μ H) vs es->IsAll K (mask μ H) vs ds
 | [],_,_,e,.nil=>by cases e;exact .nil
 | .d x::r,_,_,e,.cons h t=>by
  simp only [qhE] at e
  cases q:qhE r with
  | none=>rw [q] at e;cases e
  | some ds'=>rw [q] at e;cases e;exact .cons h (Zy q t)
 | .m a::r,_,_,e,_=>by cases e
 | .x a::r,_,_,e,_=>by cases e
 | .ty a::r,_,_,e,_=>by cases e
def dTup (tr:TAd):TEd:=fun ρ μ Q=>tr ρ μ fun es μ1=>match qhE es with
 | some ds=>ds.length<=4000/\Q (.d (.tuple ds)) μ1
 | none=>False
def dLst (tr:TAd):TEd:=fun ρ μ Q=>tr ρ μ fun es μ1=>match qhE es with
 | some ds=>ds.length<=4000/\Q (.d (.list ds)) μ1
 | none=>False
theorem JQ {x1} (h:DA K X es tr):DE K X (.Tuple es x1 pos) (dTup tr):=by
 refine PE.mono (qiE h) fun σ H Q hq9=>?_
 obtain ⟨ρ,μ,Q0,hS,hM,h,cl⟩:=hq9
 refine ⟨ρ,μ,_,hS,hM,h,fun es' μ1 vs H1 q M1 s1 i1=>?_⟩
 split at q
 ·rename_i ds e
  have hA:=Zy e i1
  refine ⟨yl (jc (by rw [hA.len];exact q.1)),fun p hp=>?_⟩
  obtain ⟨M2,s2,hn⟩:=M1.laid (o:=.tup vs) hp
  exact cl _ μ1 _ _ q.2 M2 (s1.trans s2) (.tup (SqT.of (by rw [yc hn];exact qV)) (IsAll.same s2 hA))
 ·exact q.elim
theorem qb0 (h:DA K X es tr):DE K X (.List es pos) (dLst tr):=by
 refine PE.mono (qcY h) fun σ H Q hq9=>?_
 obtain ⟨ρ,μ,Q0,hS,hM,h,cl⟩:=hq9
 refine ⟨ρ,μ,_,hS,hM,h,fun es' μ1 vs H1 q M1 s1 i1=>?_⟩
 split at q
 ·rename_i ds e
  have hA:=Zy e i1
  refine ⟨yl (jc (by rw [hA.len];exact q.1)),fun p hp=>?_⟩
  obtain ⟨M2,s2,hn⟩:=M1.laid (o:=.lst vs) hp
  exact cl _ μ1 _ _ q.2 M2 (s1.trans s2) (.lst (SqL.of (by rw [yc hn];exact qV)) (IsAll.same s2 hA))
 ·exact q.elim
def dLstM (tr:TAd):TEd:=fun ρ μ Q=>tr ρ μ fun es μ1=>match qhE es with
 | some ds=>ds.length<=4000/\∀ p,p∉μ1.map Prod.fst->Q (.m p) ((p,.lst ds)::μ1)
 | none=>False
theorem Z6 (h:DA K X es tr):DE K X (.List es pos) (dLstM tr):=by
 refine PE.mono (qcY h) fun σ H Q hq9=>?_
 obtain ⟨ρ,μ,Q0,hS,hM,h,cl⟩:=hq9
 refine ⟨ρ,μ,_,hS,hM,h,fun es' μ1 vs H1 q M1 s1 i1=>?_⟩
 split at q
 ·rename_i ds e
  have hA:=Zy e i1
  refine ⟨yl (jc (by rw [hA.len];exact q.1)),fun p hp=>?_⟩
  obtain ⟨_,_,hn⟩:=M1.laid (o:=.lst vs) hp
  obtain ⟨M2,s2⟩:=M1.new (u:=.lst vs) (o:=.lst ds) hp fun ss=>⟨vs,qV,IsAll.same ss hA⟩
  exact cl _ _ _ _ (q.2 p hn) M2 (s1.trans s2) rfl
 ·exact q.elim
end
theorem IsAll.atI {K:W.Frag}{H:Hp}{vs:List V}{ds:List PyData}{i:Int}{z:PyData}(h:IsAll K H vs ds) (e:L2.atI ds i=some z):∃ v,L2.atI vs i=some v/\Is K H v z:=by
 unfold L2.atI at *
 rw [h.len]
 cases q:ixN ds.length i with
 | none=>rw [q] at e;cases e
 | some j =>
  rw [q] at e
  obtain ⟨v,e1,e2⟩:=h.get' (i:=j) e
  exact ⟨v,e1,e2⟩
section
variable {X:Cx}{K:W.Frag}{a b c:Expr}{ta tb tc:TEd}{tA tB:TTd}{pos:Pos}{es:List Expr}{tr:TAd}
def qik:R2d:=fun x y μ Q=>match y with
 | .d (.int i)=>∃ ds z,LstOf μ x ds/\atI ds i=some z/\Q (.d z) μ
 | _=>False
def qii:R2d:=fun x y μ Q=>match x,y with
 | .d (.tuple ds),.d (.int i)=>∃ z,atI ds i=some z/\Q (.d z) μ
 | _,_=>False
def qij:R2d:=fun x y μ Q=>match x,y with
 | .m p,.d (.int i)=>∃ as z,(p,.refs as)∈μ/\atI as i=some z/\Q (.m z) μ
 | _,_=>False
theorem qhe (hK:X.K=K:=by rfl):IxR X (upR K qik):=by
 subst hK
 refine j4.mono fun x y H Q h=>?_
 obtain ⟨μ,e,e',Q0,M,i1,i2,q,cl⟩:=h
 unfold qik at q
 split at q
 ·obtain ⟨ds,z,h1,h2,q⟩:=q
  cases i2
  obtain ⟨p,xs,rfl,h3,h4⟩:=h1.get M i1
  obtain ⟨v,e1,e2⟩:=h4.atI h2
  exact ⟨p,xs,_,v,rfl,rfl,h3,e1,cl _ μ v H q M (qU.refl _) e2⟩
 ·exact q.elim
theorem qjj (hK:X.K=K:=by rfl):IxR X (upR K qii):=by
 subst hK
 refine qi9.mono fun x y H Q h=>?_
 obtain ⟨μ,e,e',Q0,M,i1,i2,q,cl⟩:=h
 unfold qii at q
 split at q
 ·obtain ⟨z,h2,q⟩:=q
  cases i2
  have i1':=Is.same yt (show Is X.K (mask μ H) x _ from i1)
  cases i1 with
  | tup h3 h4 =>
   obtain ⟨v,e1,e2⟩:=h4.atI h2
   cases i1' with
   | tup h5 h6 =>
    refine ⟨_,_,_,v,rfl,rfl,?_,e1,cl _ μ v H q M (qU.refl _) e2⟩
    rcases h3 with (e | ⟨o,e⟩) | e
    ·exact .inl (.inl (yt _ _ e))
    ·exact .inl (.inr ⟨o,yt _ _ e⟩)
    ·exact .inr e
 ·exact q.elim
theorem qhB {α β:Type}(f:α->β) (xs:List α) (i:Int):atI (xs.map f) i=(atI xs i).map f:=by
 unfold atI
 rw [List.length_map]
 cases ixN xs.length i with
 | none=>rfl
 | some j=>simp
theorem qaH (hK:X.K=K:=by rfl):IxR X (upR K qij):=by
 subst hK
 refine j4.mono fun x y H Q h=>?_
 obtain ⟨μ,e,e',Q0,M,i1,i2,q,cl⟩:=h
 unfold qij at q
 split at q
 ·obtain ⟨as,z,h1,h2,q⟩:=q
  cases i2
  have i1:x=_:=i1
  subst i1
  have h3:=M.ob _ _ h1
  exact ⟨_,_,_,.ref z,rfl,rfl,SqL.of h3,by rw [qhB,h2];rfl,cl (.m z) μ _ H q M (qU.refl _) rfl⟩
 ·exact q.elim
theorem yJ {r:R2d}(hr:IxR X (upR K r)) (ha:DE K X a ta) (hb:DE K X b tb) (hs:qd9 b):DE K X (.Subscript a b pos) (dOp r ta tb):=PE.mono (qau hr ha hb hs) fun _ _ _=>qge
def Z7 (xs:List PyData) (lo hi:Option Int):List PyData:=(xs.drop (HT.sIx xs.length 0 lo)).take (HT.sIx xs.length xs.length hi - HT.sIx xs.length 0 lo)
theorem IsAll.cut {H:Hp}{vs:List V}{ds:List PyData}{lo hi:Option Int}(h:IsAll K H vs ds):IsAll K H (qec vs lo hi) (Z7 ds lo hi):=by
 unfold qec Z7
 rw [h.len]
 exact (h.drop _).take _
abbrev TOd:=Rho->Mu->(Option Int->Mu->Prop)->Prop
def upO (K:W.Frag) (t:TOd):TO:=fun σ H Q=>∃ ρ μ Q0,RelS K ρ μ σ H/\RelM K μ H/\t ρ μ Q0/\∀ o μ' H',Q0 o μ'->RelM K μ' H'->qU (mask μ H) (mask μ' H')->Q o H'
def DO (K:W.Frag) (X:Cx) (e:Option Expr) (t:TOd):Prop:=PO X e (upO K t)
theorem PO.mono {e:Option Expr}{t t':TO}(h:PO X e t) (f:∀ σ H Q,t' σ H Q->t σ H Q):PO X e t':=fun pins s σ H Q I q=>h pins s σ H Q I (f _ _ _ q)
def qhu:TOd:=fun _ μ Q=>Q none μ
def dPart (t:TEd):TOd:=fun ρ μ Q=>t ρ μ fun x μ1=>match x with
 | .d (.int i)=>Q (some i) μ1
 | _=>False
theorem j7:DO K X none qhu:=PO.mono qgC fun σ H Q ⟨ρ,μ,Q0,hS,hM,h,cl⟩=>cl none μ H h hM (qU.refl _)
theorem j6 (h:DE K X a ta):DO K X (some a) (dPart ta):=PO.mono (qgB h) fun σ H Q ⟨ρ,μ,Q0,hS,hM,h,cl⟩=>⟨ρ,μ,_,hS,hM,h,fun e μ1 v H1 q M1 s1 i1=>by
 split at q
 ·cases i1;exact ⟨_,rfl,cl _ μ1 H1 q M1 s1⟩
 ·exact q.elim⟩
def dSl (r:En->Option Int->Option Int->Mu->(En->Mu->Prop)->Prop) (te:TEd) (tl th:TOd):TEd:=fun ρ μ Q=>te ρ μ fun x μ1=>tl ρ μ1 fun l μ2=>th ρ μ2 fun u μ3=>r x l u μ3 Q
def rdSlL:En->Option Int->Option Int->Mu->(En->Mu->Prop)->Prop:=fun x l u μ Q=>∃ ds,LstOf μ x ds/\Q (.d (.list (Z7 ds l u))) μ
def qif:En->Option Int->Option Int->Mu->(En->Mu->Prop)->Prop:=fun x l u μ Q=>match x with
 | .d (.tuple ds)=>¬ (HT.sIx ds.length 0 l=0/\HT.sIx ds.length ds.length u=ds.length)/\Q (.d (.tuple (Z7 ds l u))) μ
 | _=>False
theorem Yu {lo hi:Option Expr}{p2:Pos}{tl th:TOd}(ha:DE K X a ta) (hl:DO K X lo tl) (hu:DO K X hi th) (hK:X.K=K:=by rfl):DE K X (.Subscript a (.Slice lo hi none p2) pos) (dSl rdSlL ta tl th):=by
 subst hK
 refine PE.mono (qba qgj ha hl hu) fun σ H Q hq9=>?_
 obtain ⟨ρ,μ,Q0,hS,hM,h,cl⟩:=hq9
 refine ⟨ρ,μ,_,hS,hM,h,fun e μ1 v H1 q1 M1 s1 i1=>⟨ρ,μ1,_,hS.same s1,M1,q1,fun l μ2 H2 q2 M2 s2=>⟨ρ,μ2,_,hS.same (s1.trans s2),M2,q2,fun u μ3 H3 q3 M3 s3=>?_⟩⟩⟩
 obtain ⟨ds,h1,q⟩:=q3
 have i3:=i1.same (s2.trans s3)
 obtain ⟨p,xs,rfl,h3,h4⟩:=h1.get M3 i3
 refine ⟨p,xs,rfl,h3,fun l hl=>?_⟩
 obtain ⟨M4,s4,hn⟩:=M3.laid (o:=.lst (qec xs _ _)) hl
 exact cl _ _ _ _ q M4 ((s1.trans s2).trans (s3.trans s4)) (.lst (SqL.of (by rw [yc hn];exact qV)) (IsAll.same s4 h4.cut))
theorem Zq {lo hi:Option Expr}{p2:Pos}{tl th:TOd}(ha:DE K X a ta) (hl:DO K X lo tl) (hu:DO K X hi th) (hK:X.K=K:=by rfl):DE K X (.Subscript a (.Slice lo hi none p2) pos) (dSl qif ta tl th):=by
 subst hK
 refine PE.mono (qba qh2 ha hl hu) fun σ H Q hq9=>?_
 obtain ⟨ρ,μ,Q0,hS,hM,h,cl⟩:=hq9
 refine ⟨ρ,μ,_,hS,hM,h,fun e μ1 v H1 q1 M1 s1 i1=>⟨ρ,μ1,_,hS.same s1,M1,q1,fun l μ2 H2 q2 M2 s2=>⟨ρ,μ2,_,hS.same (s1.trans s2),M2,q2,fun u μ3 H3 q3 M3 s3=>?_⟩⟩⟩
 have i3:=i1.same (s2.trans s3)
 unfold qif at q3
 split at q3
 ·cases i3 with
  | tup h3 h4 =>
   rename_i a1 xs1
   have h5:SqT X.K H3 a1 xs1:=by
    rcases h3 with (e | ⟨o,e⟩) | e
    ·exact .inl (.inl (yt _ _ e))
    ·exact .inl (.inr ⟨o,yt _ _ e⟩)
    ·exact .inr e
   refine ⟨_,_,rfl,h5,by rw [h4.len];exact q3.1,fun l hl=>?_⟩
   obtain ⟨M4,s4,hn⟩:=M3.laid (o:=.tup (qec _ _ _)) hl
   exact cl _ _ _ _ q3.2 M4 ((s1.trans s2).trans (s3.trans s4)) (.tup (SqT.of (by rw [yc hn];exact qV)) (IsAll.same s4 h4.cut))
 ·exact q3.elim
def dCB (r:RAd) (tr:TAd):TEd:=fun ρ μ Q=>tr ρ μ fun es μ1=>r es μ1 Q
theorem qhV {r:RAd}{σ:St}{H:Hp}{Q:VK}(h:up K (dCB r tr) σ H Q):tCB (upC K r) (upA K tr) σ H Q:=by
 obtain ⟨ρ,μ,Q0,hS,hM,h,cl⟩:=h
 exact ⟨ρ,μ,_,hS,hM,h,fun es μ1 vs H1 q M1 s1 i1=>⟨μ1,es,Q0,M1,i1,q,cl.same s1⟩⟩
theorem qY {id:String}{x:Str}{r:RAd}{e:Expr}{p:Pos}(hc:yz X (.builtin id) (upC K r)) (hg:Gl X x) (hm:X.mg x=none) (hv:bootBuiltins x=some (.builtin id)) (ha:DA K X (e::es) tr) (hn:x ≠ "__name__" := by decide) (hdb:(x == ("__debug__" : Str))=false:=by decide)
  (he:starEach (e::es) X.env=(false,eval e X.env)::starEach es X.env:=by rfl) (hpl:(backTo pos (starEach es X.env)).any (·.1)=false:=by rfl):DE K X (.Call (.Name x p) (e::es) [] pos) (dCB r tr):=PE.mono (qeJ hc hg hm hv ha hn hdb he hpl) fun _ _ _=>qhV
theorem Jz {T:String}{x:Str}{r:RAd}{e:Expr}{p:Pos}(hc:yz X (.type T) (upC K r)) (hg:Gl X x) (hm:X.mg x=none) (hv:bootBuiltins x=some (.type T)) (ha:DA K X (e::es) tr) (hn:x ≠ "__name__" := by decide) (hdb:(x == ("__debug__" : Str))=false:=by decide)
  (he:starEach (e::es) X.env=(false,eval e X.env)::starEach es X.env:=by rfl) (hpl:(backTo pos (starEach es X.env)).any (·.1)=false:=by rfl):DE K X (.Call (.Name x p) (e::es) [] pos) (dCB r tr):=PE.mono (qcZ hc hg hm hv ha hn hdb he hpl) fun _ _ _=>qhV
theorem Jo {μ:Mu}{H:Hp}{vs:List V}{e:En}(h:Paired (IsE K μ H) vs [e]):∃ v,vs=[v]/\IsE K μ H v e:=by
 cases h with | cons a b=>cases b;exact ⟨_,rfl,a⟩
theorem qaw {μ:Mu}{H:Hp}{vs:List V}{e e':En}(h:Paired (IsE K μ H) vs [e,e']):∃ v v',vs=[v,v']/\IsE K μ H v e/\IsE K μ H v' e':=by
 cases h with | cons a b=>cases b with | cons c d=>cases d;exact ⟨_,_,rfl,a,c⟩
theorem pair3 {μ:Mu}{H:Hp}{vs:List V}{e e' e'':En}(h:Paired (IsE K μ H) vs [e,e',e'']):∃ v v' v'',vs=[v,v',v'']/\IsE K μ H v e/\IsE K μ H v' e'/\IsE K μ H v'' e'':=by
 cases h with | cons a b=>cases b with | cons c d=>cases d with | cons f g=>cases g;exact ⟨_,_,_,rfl,a,c,f⟩
def qiq:RAd:=fun es μ Q=>match es with
 | [.d (.int i)]=>Q (.d (.int (i.natAbs:Int))) μ
 | _=>False
theorem Z5:yz X (.builtin "abs") (upC K qiq):=qfg.mono fun xs H Q h=>by
 obtain ⟨μ,es,Q0,M,hp,q,cl⟩:=h
 unfold qiq at q
 split at q
 ·rename_i i
  obtain ⟨v,rfl,i1⟩:=Jo hp
  cases i1
  have e:(if i<0 then -i else i)=(i.natAbs:Int):=by split <;> omega
  exact ⟨_,rfl,by rw [e];exact cl _ μ _ H q M (qU.refl _) (.int _)⟩
 ·exact q.elim
def qjU (g:Int->Int->Int):RAd:=fun es μ Q=>match es with
 | [.d (.int i),.d (.int j)]=>Q (.d (.int (g i j))) μ
 | _=>False
theorem qfW (hc:X.calm=true):yz X (.builtin "max") (upC K (qjU fun i j=>if i<j then j else i)):=(qd1 hc).mono fun xs H Q h=>by
 obtain ⟨μ,es,Q0,M,hp,q,cl⟩:=h
 unfold qjU at q
 split at q
 ·obtain ⟨v,v',rfl,i1,i2⟩:=qaw hp
  cases i1;cases i2
  exact ⟨_,_,rfl,cl _ μ _ H q M (qU.refl _) (.int _)⟩
 ·exact q.elim
theorem qjo (hc:X.calm=true):yz X (.builtin "min") (upC K (qjU fun i j=>if j<i then j else i)):=(qdZ hc).mono fun xs H Q h=>by
 obtain ⟨μ,es,Q0,M,hp,q,cl⟩:=h
 unfold qjU at q
 split at q
 ·obtain ⟨v,v',rfl,i1,i2⟩:=qaw hp
  cases i1;cases i2
  exact ⟨_,_,rfl,cl _ μ _ H q M (qU.refl _) (.int _)⟩
 ·exact q.elim
def qim:RAd:=fun es μ Q=>match es with
 | [.d (.int i)]=>Q (.d (.int i)) μ
 | [.d (.bool k)]=>Q (.d (.int (if k=true then 1 else 0))) μ
 | _=>False
theorem qjp:yz X (.type "int") (upC K qim):=qd2.mono fun xs H Q h=>by
 obtain ⟨μ,es,Q0,M,hp,q,cl⟩:=h
 unfold qim at q
 split at q
 ·obtain ⟨v,rfl,i1⟩:=Jo hp
  cases i1
  exact .inl ⟨_,rfl,cl _ μ _ H q M (qU.refl _) (.int _)⟩
 ·obtain ⟨v,rfl,i1⟩:=Jo hp
  cases i1
  exact .inr ⟨_,rfl,cl _ μ _ H q M (qU.refl _) (.int _)⟩
 ·exact q.elim
inductive SeqOf (μ:Mu):En->List PyData->Prop
 | l {e:En}{ds:List PyData}(h:LstOf μ e ds):SeqOf μ e ds
 | t (ds:List PyData):SeqOf μ (.d (.tuple ds)) ds
theorem SeqOf.get {μ:Mu}{e:En}{ds:List PyData}{H:Hp}{v:V}(h:SeqOf μ e ds) (M:RelM K μ H) (i:IsE K μ H v e):∃ p xs,v = .ref p/\(SqL K H p xs\/SqT K H p xs)/\IsAll K (mask μ H) xs ds:=by
 cases h with
 | l h=>obtain ⟨p,xs,h1,h2,h3⟩:=h.get M i;exact ⟨p,xs,h1,.inl h2,h3⟩
 | t ds =>
  cases i with
  | tup h hs =>
   refine ⟨_,_,rfl,.inr ?_,hs⟩
   rcases h with (e | ⟨o,e⟩) | e
   ·exact .inl (.inl (yt _ _ e))
   ·exact .inl (.inr ⟨o,yt _ _ e⟩)
   ·exact .inr e
def qih:RAd:=fun es μ Q=>match es with
 | [e]=>∃ ds,SeqOf μ e ds/\Q (.d (.int (ds.length:Int))) μ
 | _=>False
theorem Jb (hK:X.K=K:=by rfl):yz X (.builtin "len") (upC K qih):=by
 subst hK
 refine qab.mono fun xs H Q h=>?_
 obtain ⟨μ,es,Q0,M,hp,q,cl⟩:=h
 unfold qih at q
 split at q
 ·obtain ⟨v,rfl,i1⟩:=Jo hp
  obtain ⟨ds,h1,q⟩:=q
  obtain ⟨p,ys,rfl,h2,h3⟩:=h1.get M i1
  exact ⟨p,ys,rfl,h2,by rw [h3.len];exact cl _ μ _ H q M (qU.refl _) (.int _)⟩
 ·exact q.elim
def qfH:RAd:=fun es μ Q=>match es with
 | [e]=>∃ ds,SeqOf μ e ds/\Q (.d (.list ds)) μ
 | _=>False
theorem qhp (hK:X.K=K:=by rfl):yz X (.type "list") (upC K qfH):=by
 subst hK
 refine qaa.mono fun xs H Q h=>?_
 obtain ⟨μ,es,Q0,M,hp,q,cl⟩:=h
 unfold qfH at q
 split at q
 ·obtain ⟨v,rfl,i1⟩:=Jo hp
  obtain ⟨ds,h1,q⟩:=q
  obtain ⟨p,ys,rfl,h2,h3⟩:=h1.get M i1
  refine ⟨p,ys,rfl,h2,fun l hl=>?_⟩
  obtain ⟨M4,s4,hn⟩:=M.laid (o:=.lst ys) hl
  exact cl _ μ _ _ q M4 s4 (.lst (SqL.of (by rw [yc hn];exact qV)) (IsAll.same s4 h3))
 ·exact q.elim
def qcJ:RAd:=fun es μ Q=>match es with
 | [e]=>∃ ds,LstOf μ e ds/\Q (.d (.tuple ds)) μ
 | _=>False
theorem qfa (hK:X.K=K:=by rfl):yz X (.type "tuple") (upC K qcJ):=by
 subst hK
 refine Zs.mono fun xs H Q h=>?_
 obtain ⟨μ,es,Q0,M,hp,q,cl⟩:=h
 unfold qcJ at q
 split at q
 ·obtain ⟨v,rfl,i1⟩:=Jo hp
  obtain ⟨ds,h1,q⟩:=q
  obtain ⟨p,ys,rfl,h2,h3⟩:=h1.get M i1
  refine ⟨p,ys,rfl,.inl ⟨h2,fun l hl=>?_⟩⟩
  obtain ⟨M4,s4,hn⟩:=M.laid (o:=.tup ys) hl
  exact cl _ μ _ _ q M4 s4 (.tup (SqT.of (by rw [yc hn];exact qV)) (IsAll.same s4 h3))
 ·exact q.elim
def qio (f:List Bool->Bool):RAd:=fun es μ Q=>match es with
 | [e]=>∃ bs,LstOf μ e (bs.map PyData.bool)/\Q (.d (.bool (f bs))) μ
 | _=>False
theorem qdO (hc:X.calm=true) (hK:X.K=K:=by rfl):yz X (.builtin "all") (upC K (qio fun bs=>bs.all id)):=by
 subst hK
 refine (qff hc).mono fun xs H Q h=>?_
 obtain ⟨μ,es,Q0,M,hp,q,cl⟩:=h
 unfold qio at q
 split at q
 ·obtain ⟨v,rfl,i1⟩:=Jo hp
  obtain ⟨bs,h1,q⟩:=q
  obtain ⟨p,ys,rfl,h2,h3⟩:=h1.get M i1
  rw [h3.bools_of] at h2
  exact ⟨p,bs,rfl,h2,cl _ μ _ H q M (qU.refl _) (.bl _)⟩
 ·exact q.elim
def isTy (n:String):PyData->Bool
 | .none=>false
 | .bool _=>n == "bool" || n == "int"
 | .int _=>n == "int"
 | .str _=>n == "str"
 | .list _=>n == "list"
 | .tuple _=>n == "tuple"
 | .dict _=>false
abbrev SpD:=List En->Mu->(En->Mu->Prop)->Prop
def yf (K:W.Frag) (s:SpD):Sp:=fun vs H Q _=>∃ μ es Q0,RelM K μ H/\Paired (IsE K μ H) vs es/\s es μ Q0/\Cl K μ H Q0 Q
theorem ya {CX:CXT}{k:Nat}{x:Str}{ps:List Str}{s:SpD}{e:Expr}{p:Pos}(O:Own X.prog X.w X.K X.mg X.base CX k x ps (yf K s)) (hX:NoX CX) (hr:Room k X.A) (hg:Gl X x) (ha:DA K X (e::es) tr) (hdb:(x == ("__debug__" : Str))=false:=by decide)
  (he:starEach (e::es) X.env=(false,eval e X.env)::starEach es X.env:=by rfl) (hpl:(backTo pos (starEach es X.env)).any (·.1)=false:=by rfl):DE K X (.Call (.Name x p) (e::es) [] pos) (dCB s tr):=by
 refine PE.mono (qiF O hX hr hg ha hdb he hpl) fun σ H Q hq9=>?_
 obtain ⟨ρ,μ,Q0,hS,hM,h,cl⟩:=hq9
 exact ⟨ρ,μ,_,hS,hM,h,fun es μ1 vs H1 q M1 s1 i1=>⟨μ1,es,Q0,M1,by simpa using i1,q,cl.same s1⟩⟩
theorem IsAll.flat {H H':Hp}:∀ {vs:List V}{ds:List PyData},ds.all (fun | .list _=>false | .dict _=>false | .tuple _=>false | _=>true)=true->IsAll K H vs ds->IsAll K H' vs ds
 | _,[],_,.nil=>.nil
 | _,d::ds,h,.cons a b=>by
  simp only [List.all_cons,Bool.and_eq_true] at h
  refine .cons ?_ (IsAll.flat h.2 b)
  cases a with
  | non=>exact .non
  | bl b=>exact .bl b
  | int i=>exact .int i
  | str x=>exact .str x
  | lst _ _=>exact absurd h.1 (by simp)
  | tup _ _=>exact absurd h.1 (by simp)
  | dc _=>exact absurd h.1 (by simp)
inductive Thaw (a:Addr) (ds:List PyData):List En->List En->Prop
 | nil:Thaw a ds [] []
 | me {es es':List En}:Thaw a ds es es'->Thaw a ds (.m a::es) (.d (.list ds)::es')
 | ot {e:En}{es es':List En}:Thaw a ds es es'->Thaw a ds (e::es) (e::es')
theorem Thaw.is {μ1 μ2:Mu}{a:Addr}{ds:List PyData}{H:Hp}(M:RelM K (μ1++(a,.lst ds)::μ2) H):∀ {es es':List En}{vs:List V},Thaw a ds es es'->Paired (IsE K (μ1++(a,.lst ds)::μ2) H) vs es->Paired (IsE K (μ1++μ2) H) vs es'
 | _,_,_,.nil,.nil=>.nil
 | _,_,_,.me t,.cons i r=>by
  obtain ⟨M',s,hn⟩:=M.drop
  obtain ⟨xs,e,hs⟩:=M.ob a (.lst ds) (by simp)
  refine .cons ?_ (Thaw.is M t r)
  have i:_=V.ref a:=i
  subst i
  exact .lst (SqL.of (by rw [yc hn];exact e)) (IsAll.same s hs)
 | _,_,_,.ot t,.cons i r=>.cons (i.same M.drop.2.1) (Thaw.is M t r)
end
section
variable {X:Cx}{K:W.Frag}{a b c:Expr}{ta tb tc:TEd}{tA tB:TTd}{pos:Pos}{es:List Expr}{tr:TAd}
def tys:List String:=["int", "bool", "str", "list", "tuple"]
theorem qj5 {x:Str}{n:String}{p:Pos}(hg:Gl X x) (hm:X.mg x=none) (hv:bootBuiltins x=some (.type n)) (hn:x ≠ "__name__" := by decide) (hd:(x == ("__debug__" : Str))=false:=by decide):DE K X (.Name x p) (fun _ μ Q=>Q (.ty n) μ) :=
 PE.mono (qgJ (v:=.ty n) hg hm hv rfl hn hd) fun σ H Q ⟨ρ,μ,Q0,hS,hM,h,cl⟩=>cl _ μ (.ty n) H h hM (qU.refl _) rfl
theorem qfe:yz X (.builtin "isinstance") (fun xs H Q=>∃ x n d,xs=[x,.ty n]/\Is X.K H x d/\n∈tys/\Q (.bl (isTy n d)) H):=by
 intro pins s σ H xs us Q I r h
 obtain ⟨x,n,d,rfl,ty,hn,q⟩:=h
 obtain ⟨u,u',rfl,rx,ry⟩:=qcl r
 cases ry
 have fin:∀ tk,EP X pins σ Q (.bool (isTy n d)) { s with toks:=tk }:=fun tk=>⟨.bl _,H,I.tok _,rfl,q⟩
 have hn:n = "int" \/ n = "bool" \/ n = "str" \/ n = "list" \/ n = "tuple" := by simpa [tys] using hn
 cases ty with
 | non=>cases (show u=Value.none from rx);exact W.kia_one W.kitx_none I.kIn True.intro (by rcases hn with rfl | rfl | rfl | rfl | rfl <;> rfl) (fun z=>nomatch z) fin
 | bl y=>cases (show u=Value.bool y from rx);exact W.kia_one W.kitx_bool I.kIn True.intro (by rcases hn with rfl | rfl | rfl | rfl | rfl <;> rfl) (fun z=>nomatch z) fin
 | int i=>obtain ⟨t,z⟩:=(show ∃ t,u=Value.int i t from rx);cases z;exact W.kia_one W.kitx_int I.kIn True.intro (by rcases hn with rfl | rfl | rfl | rfl | rfl <;> rfl) (fun z=>nomatch z) fin
 | str y=>obtain ⟨t,z⟩:=(show ∃ t,u=Value.str y t from rx);cases z;exact W.kia_one W.kitx_str I.kIn True.intro (by rcases hn with rfl | rfl | rfl | rfl | rfl <;> rfl) (fun z=>nomatch z) fin
 | @lst a xs ds hq _ =>
  cases (show u=Value.ref a from rx)
  obtain ⟨its,_,⟨o,n',h1,h2,_⟩,_⟩:=I.list hq
  exact W.kia_one W.kitx_list I.kIn ⟨o,h1,h2⟩ (by rcases hn with rfl | rfl | rfl | rfl | rfl <;> rfl) (fun z=>nomatch z) fin
 | @dc a hq =>
  cases (show u=Value.ref a from rx)
  obtain ⟨_,_,vs,_,o,es,ep,h1,h2,_⟩:=(show jC X.prog X.w H s.heap a (.dK []) from I.hok a _ hq)
  exact W.kia_one W.kitx_dict I.kIn ⟨o,h1,h2.1⟩ (by rcases hn with rfl | rfl | rfl | rfl | rfl <;> rfl) (fun z=>nomatch z) fin
 | @tup a xs ds hq _ =>
  cases (show u=Value.ref a from rx)
  obtain ⟨its,_,⟨o,h1,h2,_⟩,_⟩:=I.tuple hq
  exact W.kia_one W.kitx_tuple I.kIn ⟨o,h1,h2⟩ (by rcases hn with rfl | rfl | rfl | rfl | rfl <;> rfl) (fun z=>nomatch z) fin
def qil:RAd:=fun es μ Q=>match es with
 | [.d x,.ty n]=>n∈tys/\Q (.d (.bool (isTy n x))) μ
 | [.m a,.ty n]=>n∈tys/\∃ ds,(a,.lst ds)∈μ/\Q (.d (.bool (n == "list"))) μ
 | _=>False
theorem qbC (hK:X.K=K:=by rfl):yz X (.builtin "isinstance") (upC K qil):=by
 subst hK
 refine qfe.mono fun xs H Q h=>?_
 obtain ⟨μ,es,Q0,M,hp,q,cl⟩:=h
 unfold qil at q
 split at q
 ·obtain ⟨v,v',rfl,i1,i2⟩:=qaw hp
  have i2:v'=_:=i2
  subst i2
  exact ⟨_,_,_,rfl,Is.same yt i1,q.1,cl _ μ _ H q.2 M (qU.refl _) (.bl _)⟩
 ·obtain ⟨v,v',rfl,i1,i2⟩:=qaw hp
  have i2:v'=_:=i2
  subst i2
  obtain ⟨hn,ds,hm,q⟩:=q
  have hi:=(DatOf.m hm).is M i1
  exact ⟨_,_,_,rfl,hi,hn,cl _ μ _ H q M (qU.refl _) (.bl _)⟩
 ·exact q.elim
abbrev TGd:=En->Rho->Mu->(Rho->Mu->Prop)->Prop
abbrev qf2:=List PyData->Rho->Mu->(Rho->Mu->Prop)->Prop
def upG (K:W.Frag) (t:TGd):TG:=fun v σ H Q=>∃ e ρ μ Q0,IsE K μ H v e/\RelS K ρ μ σ H/\RelM K μ H/\t e ρ μ Q0/\ClR K μ H Q0 Q
def upGs (K:W.Frag) (t:qf2):TGs:=fun vs σ H Q=>∃ ds ρ μ Q0,IsAll K (mask μ H) vs ds/\RelS K ρ μ σ H/\RelM K μ H/\t ds ρ μ Q0/\ClR K μ H Q0 Q
def DG (K:W.Frag) (X:Cx) (tg:Expr) (t:TGd):Prop:=PG X tg (upG K t)
def DGs (K:W.Frag) (X:Cx) (tg:List Expr) (t:qf2):Prop:=PGs X tg (upGs K t)
theorem PG.mono {tg:Expr}{t t':TG}(h:PG X tg t) (f:∀ v σ H Q,t' v σ H Q->t v σ H Q):PG X tg t':=fun pins s σ H v u Q I r q=>h pins s σ H v u Q I r (f _ _ _ _ q)
theorem PGs.mono {tg:List Expr}{t t':TGs}(h:PGs X tg t) (f:∀ v σ H Q,t' v σ H Q->t v σ H Q):PGs X tg t':=fun pins s σ H v u Q I r q=>h pins s σ H v u Q I r (f _ _ _ _ q)
def Jm (i:Nat):TGd:=fun e ρ μ Q=>Q (ρ.set i (some e)) μ
theorem qF {i:Nat}{x:Str}(hN:X.N.Nodup) (hi:X.N[i]?=some x) (hx:Loc X.env.scope x) (hf:X.fn x=true\/X.env.scope.names.lookup x=some .local:=by first | exact .inl rfl | exact .inr rfl | assumption):DG K X (.Name x pos) (Jm i) :=
 PG.mono (qgE hN hi hx hf) fun v σ H Q ⟨e,ρ,μ,Q0,i1,hS,hM,h,cl⟩=>cl _ μ _ H h (hS.set i1) hM (qU.refl _)
def qe8:qf2:=fun ds ρ μ Q=>match ds with
 | []=>Q ρ μ
 | _=>False
def YU (t:TGd) (u:qf2):qf2:=fun ds ρ μ Q=>match ds with
 | x::r=>t (.d x) ρ μ fun ρ' μ'=>u r ρ' μ' Q
 | []=>False
theorem jt:DGs K X [] qe8:=PGs.mono qcX fun vs σ H Q ⟨ds,ρ,μ,Q0,i1,hS,hM,h,cl⟩=>by
 unfold qe8 at h
 split at h
 ·cases i1;exact ⟨rfl,cl _ μ _ H h hS hM (qU.refl _)⟩
 ·exact h.elim
theorem qR {e:Expr}{es:List Expr}{t:TGd}{u:qf2}(h1:DG K X e t) (h2:DGs K X es u)
  (hs:(assignEach (e::es) X.env).map (·.2)=assign e X.env::(assignEach es X.env).map (·.2):=by rfl):DGs K X (e::es) (YU t u):=PGs.mono (qa8 h1 h2 hs) fun vs σ H Q ⟨ds,ρ,μ,Q0,i1,hS,hM,h,cl⟩=>by
 unfold YU at h
 split at h
 ·cases i1 with
  | cons i1 i2 =>
   refine ⟨_,_,rfl,.d _,ρ,μ,_,i1,hS,hM,h,fun ρ' μ' σ' H' q S' M' s'=>?_⟩
   exact ⟨_,ρ',μ',Q0,IsAll.same s' i2,S',M',q,cl.same s'⟩
 ·exact h.elim
def qe7 (n:Nat) (t:qf2):TGd:=fun e ρ μ Q=>match e with
 | .d (.tuple ds)=>ds.length=n/\t ds ρ μ Q
 | _=>False
theorem j8 {es:List Expr}{k:Nat}{t:qf2}{n:Nat}(hc:X.calm=true) (h:DGs K X es t) (hK:X.K=K:=by rfl)
  (hn:(assignEach es X.env).length=n:=by rfl) (hst:(assignEach es X.env).findIdx? (·.1)=none:=by rfl):DG K X (.Tuple es k pos) (qe7 n t):=by
 subst hK
 refine PG.mono (qfK hc h hn hst) fun v σ H Q hq9=>?_
 obtain ⟨e,ρ,μ,Q0,i1,hS,hM,h,cl⟩:=hq9
 unfold qe7 at h
 split at h
 ·obtain ⟨p,xs,rfl,hq,hA⟩:=(SeqOf.t _).get hM i1
  cases i1 with
  | tup h1 h2 =>
   refine ⟨_,_,rfl,?_,by rw [h2.len];exact h.1,_,ρ,μ,Q0,h2,hS,hM,h.2,cl⟩
   rcases h1 with (e | ⟨o,e⟩) | e
   ·exact .inl (.inl (yt _ _ e))
   ·exact .inl (.inr ⟨o,yt _ _ e⟩)
   ·exact .inr e
 ·exact h.elim
variable {st:Stmt}{yE:List Stmt}{t u:TSd}{e:Expr}{te:TEd}
def dNext:TSd:=fun D ρ μ=>D.nx ρ μ
def dSeq (t u:TSd):TSd:=fun D ρ μ=>t { D with nx:=u D } ρ μ
theorem yL:DSs K X [] dNext:=PSs.mono qcN fun D σ H ⟨ρ,μ,D0,hS,hM,h,cl⟩=>cl.nx _ μ _ H h hS hM (qU.refl _)
theorem qx (h1:DS K X st t) (h2:DSs K X yE u):DSs K X (st::yE) (dSeq t u):=PSs.mono (Ju h1 h2) fun D σ H ⟨ρ,μ,D0,hS,hM,h,cl⟩ =>
 ⟨ρ,μ,_,hS,hM,h,⟨fun ρ' μ' σ' H' q S' M' s'=>⟨ρ',μ',D0,S',M',q,cl.same s'⟩,cl.rt,cl.bk,cl.ct⟩⟩
theorem qG (h1:DS K X st t):DSs K X [st] t:=qas h1
theorem qe2:DS K X st (fun _ _ _=>False):=PS.mono qeA fun D σ H ⟨ρ,μ,D0,hS,hM,h,cl⟩=>h
theorem qaL:DS K X (.Continue pos) (fun D ρ μ=>D.ct ρ μ):=PS.mono qat fun D σ H ⟨ρ,μ,D0,hS,hM,h,cl⟩=>cl.ct _ μ _ H h hS hM (qU.refl _)
def dDrop (te:TEd):TSd:=fun D ρ μ=>te ρ μ fun _ μ1=>D.nx ρ μ1
theorem qdJ (he:DE K X e te) (hs:swapsWith e none pos.line X.env=pure false:=by rfl):DS K X (.Expr e pos) (dDrop te):=PS.mono (qgz he hs) fun D σ H ⟨ρ,μ,D0,hS,hM,h,cl⟩ =>
 ⟨ρ,μ,_,hS,hM,h,fun e' μ1 v H1 q M1 s1 i1=>cl.nx _ μ1 _ H1 q (hS.same s1) M1 s1⟩
def dRet (te:TEd):TSd:=fun D ρ μ=>te ρ μ D.rt
theorem qW (he:DE K X e te):DS K X (.Return (some e) pos) (dRet te):=PS.mono (qa6 he) fun D σ H ⟨ρ,μ,D0,hS,hM,h,cl⟩=>⟨ρ,μ,_,hS,hM,h,cl.rt⟩
def FzR (μ:Mu) (e:En) (μ':Mu) (e':En):Prop:=∀ (K:W.Frag) (v:V) (H:Hp),RelM K μ H->IsE K μ H v e->RelM K μ' H/\IsE K μ' H v e'/\qU (mask μ H) (mask μ' H)
theorem FzR.refl {μ:Mu}{e:En}:FzR μ e μ e:=fun _ _ _ h i=>⟨h,i,qU.refl _⟩
theorem FzR.trans {μ μ1 μ2:Mu}{e e1 e2:En}(h:FzR μ e μ1 e1) (h':FzR μ1 e1 μ2 e2):FzR μ e μ2 e2:=fun K v H a b=>by
 obtain ⟨a1,b1,s1⟩:=h K v H a b
 obtain ⟨a2,b2,s2⟩:=h' K v H a1 b1
 exact ⟨a2,b2,s1.trans s2⟩
theorem FzR.list {μ1 μ2:Mu}{p:Addr}{ds:List PyData}:FzR (μ1++(p,.lst ds)::μ2) (.m p) (μ1++μ2) (.d (.list ds)):=fun K v H h i=>by
 obtain ⟨M',s,hn⟩:=h.drop
 obtain ⟨xs,e,hs⟩:=h.ob p (.lst ds) (by simp)
 have i:v=_:=i
 subst i
 exact ⟨M',.lst (SqL.of (by rw [yc hn];exact e)) (IsAll.same s hs),s⟩
theorem FzR.list1 {μ2:Mu}{p:Addr}{ds:List PyData}:FzR ((p,.lst ds)::μ2) (.m p) μ2 (.d (.list ds)):=FzR.list (μ1:=[])
theorem FzR.drop {μ1 μ2:Mu}{p:Addr}{o:MO}{e:En}:FzR (μ1++(p,o)::μ2) e (μ1++μ2) e:=fun K v H h i=>by
 obtain ⟨M',s,hn⟩:=h.drop
 exact ⟨M',i.same s,s⟩
theorem FzR.drop1 {μ2:Mu}{p:Addr}{o:MO}{e:En}:FzR ((p,o)::μ2) e μ2 e:=FzR.drop (μ1:=[])
def dRetF (te:TEd):TSd:=fun D ρ μ=>te ρ μ fun e μ1=>∃ μ2 e2,FzR μ1 e μ2 e2/\D.rt e2 μ2
theorem qaK (he:DE K X e te):DS K X (.Return (some e) pos) (dRetF te):=PS.mono (qa6 he) fun D σ H ⟨ρ,μ,D0,hS,hM,h,cl⟩=>⟨ρ,μ,_,hS,hM,h,fun e' μ1 v H1 q M1 s1 i1=>by
 obtain ⟨μ2,e2,f,q⟩:=q
 obtain ⟨M2,i2,s2⟩:=f K v H1 M1 i1
 exact cl.rt _ μ2 _ H1 q M2 (s1.trans s2) i2⟩
def dIfS (c:TTd) (t u:TSd):TSd:=fun D ρ μ=>c ρ μ fun b μ1=>if b=true then t D ρ μ1 else u D ρ μ1
theorem jB {c:Expr}{a b:List Stmt}{tc:TTd}(hc:DT K X c tc) (ha:DSs K X a t) (hb:DSs K X b u):DS K X (.If c a b pos) (dIfS tc t u):=PS.mono (qiy hc ha hb) fun D σ H ⟨ρ,μ,D0,hS,hM,h,cl⟩ =>
 ⟨ρ,μ,_,hS,hM,h,fun k μ1 H1 q M1 s1=>by
  cases k with
  | true=>exact qb6 ⟨ρ,μ1,D0,hS.same s1,M1,by simpa using q,cl.same s1⟩
  | false=>exact qbh ⟨ρ,μ1,D0,hS.same s1,M1,by simpa using q,cl.same s1⟩⟩
def dAsg (te:TEd) (g:TGd):TSd:=fun D ρ μ=>te ρ μ fun e μ1=>g e ρ μ1 D.nx
theorem ym {i:Nat}{x:Str}{pos':Pos}(hN:X.N.Nodup) (hi:X.N[i]?=some x) (hx:Loc X.env.scope x) (he:DE K X e te) (hs:swapsWith e (some (.Name x pos')) pos.line X.env=pure false:=by rfl) (hf:X.fn x=true\/X.env.scope.names.lookup x=some .local:=by first | exact .inl rfl | exact .inr rfl | assumption) :
  DS K X (.Assign [.Name x pos'] e pos) (dAsg te (Jm i)):=PS.mono (qfJ hN hi hx he hs hf) fun D σ H ⟨ρ,μ,D0,hS,hM,h,cl⟩ =>
 ⟨ρ,μ,_,hS,hM,h,fun e' μ1 v H1 q M1 s1 i1=>cl.nx _ μ1 _ H1 q ((hS.same s1).set i1) M1 s1⟩
theorem qbs {tg:Expr}{g:TGd}(he:DE K X e te) (hg:DG K X tg g) (hs:swapsWithSole [tg] e pos.line X.env=pure false:=by rfl) (hw:swappedStores [tg] e X.env=pure none:=by rfl)
  (h1:(assignEach [tg] X.env).map (·.2)=[assign tg X.env]:=by rfl):DS K X (.Assign [tg] e pos) (dAsg te g):=PS.mono (qcO he hg hs hw h1) fun D σ H ⟨ρ,μ,D0,hS,hM,h,cl⟩ =>
 ⟨ρ,μ,_,hS,hM,h,fun e' μ1 v H1 q M1 s1 i1=>⟨e',ρ,μ1,D0.nx,i1,hS.same s1,M1,q,cl.nx.same s1⟩⟩
def dPar (i j:Nat) (ta:TAd):TSd:=fun D ρ μ=>ta ρ μ fun es μ1=>match es with
 | [e,e']=>D.nx ((ρ.set i (some e)).set j (some e')) μ1
 | _=>False
theorem qdI {i j:Nat}{x y:Str}{a b:Expr}{ta:TAd}{px py pt:Pos}{kt k2 pt2} (hc:X.calm=true) (hN:X.N.Nodup) (hi:X.N[i]?=some x) (hj:X.N[j]?=some y) (hij:i≠j)
  (hx:X.env.scope.names.lookup x=some .local) (hy:X.env.scope.names.lookup y=some .local) (ha:DA K X [a,b] ta)
  (hw:swappedStores [.Tuple [.Name x px,.Name y py] kt pt] (.Tuple [a,b] k2 pt2) X.env=pure (some [x,y]))
  (hs:swapsWithSole [.Tuple [.Name x px,.Name y py] kt pt] (.Tuple [a,b] k2 pt2) pos.line X.env=pure false:=by rfl) :
  DS K X (.Assign [.Tuple [.Name x px,.Name y py] kt pt] (.Tuple [a,b] k2 pt2) pos) (dPar i j ta):=PS.mono (qix hc hN hi hj hij hx hy ha hw hs) fun D σ H ⟨ρ,μ,D0,hS,hM,h,cl⟩ =>
 ⟨ρ,μ,_,hS,hM,h,fun es μ1 vs H1 q M1 s1 i1=>by
  split at q
  ·obtain ⟨v,v',rfl,h1,h2⟩:=qaw i1
   exact ⟨_,_,rfl,cl.nx _ μ1 _ H1 q (((hS.same s1).set h1).set h2) M1 s1⟩
  ·exact q.elim⟩
def dApp (to:TEd) (tr:TAd):TEd:=fun ρ μ Q=>to ρ μ fun x μ1=>match x with
 | .m p=>(∃ ds0,(p,.lst ds0)∈μ1)/\tr ρ μ1 fun es μ2=>match es with
  | [.d z]=>∃ μ3 μ4 ds,μ2=μ3++(p,.lst ds)::μ4/\ds.length<4000/\Q (.d .none) (μ3++(p,.lst (ds++[z]))::μ4)
  | _=>False
 | _=>False
theorem qbD {o e:Expr}{to:TEd}{p1:Pos}(ho:DE K X o to) (ha:DA K X [e] tr) (hK:X.K=K:=by rfl)
  (h:PE X (.Call (.Attribute o "append" p1) [e] [] pos) (tBM X.K "list" rAppend (up K to) (upA K tr))):DE K X (.Call (.Attribute o "append" p1) [e] [] pos) (dApp to tr):=by
 subst hK
 refine PE.mono h fun σ H Q hq9=>?_
 obtain ⟨ρ,μ,Q0,hS,hM,h,cl⟩:=hq9
 refine ⟨ρ,μ,_,hS,hM,h,fun x μ1 v H1 q M1 s1 i1=>?_⟩
 split at q
 ·rename_i x' p
  obtain ⟨⟨ds0,hd0⟩,q⟩:=q
  have i1:v=_:=i1
  subst i1
  obtain ⟨xs0,e0,_⟩:=M1.ob _ _ hd0
  refine ⟨.inl ⟨rfl,_,SqL.of e0⟩,ρ,μ1,_,hS.same s1,M1,q,fun es μ2 vs H2 q2 M2 s2 i2=>?_⟩
  split at q2
  ·rename_i es' z
   obtain ⟨μ3,μ4,ds,rfl,hl,q2⟩:=q2
   obtain ⟨v,rfl,h1⟩:=Jo i2
   obtain ⟨xs,ex,hA⟩:=M2.ob p (.lst ds) (by simp)
   refine ⟨p,xs,v,rfl,rfl,ex,jc (by rw [hA.len];omega),?_⟩
   obtain ⟨M3,s3⟩:=M2.write (H':=upd H2 p (.lst (xs++[v]))) (o':=.lst (ds++[z])) (fun b u e n=>by rw [qP n];exact e) fun ss=>⟨_,qV,IsAll.snoc (Is.same ss h1) (IsAll.same ss hA)⟩
   exact cl _ _ .non _ q2 M3 ((s1.trans s2).trans s3) .non
  ·exact q2.elim
 ·exact q.elim
structure Itd where
 n:Nat
 item:Nat->En
 ok:Mu->Prop
abbrev TId:=Rho->Mu->(Itd->Mu->Prop)->Prop
def Sim (K:W.Frag) (J0:Itd) (μ1:Mu) (H1:Hp) (J:It):Prop:=∀ μ' H',RelM K μ' H'->qU (mask μ1 H1) (mask μ' H')->J0.ok μ'->∀ i,
 (i<J0.n->J.go i H'/\∀ x H2,J.yld i H' x H2->RelM K μ' H2/\qU (mask μ' H') (mask μ' H2)/\IsE K μ' H2 x (J0.item i))/\(J0.n<=i->J.stop i H')
def upI (K:W.Frag) (t:TId):TI:=fun σ H R=>∃ ρ μ Q0,RelS K ρ μ σ H/\RelM K μ H/\t ρ μ Q0/\∀ J0 μ1 J H1,Q0 J0 μ1->RelM K μ1 H1->qU (mask μ H) (mask μ1 H1)->Sim K J0 μ1 H1 J->R J H1
def DI (K:W.Frag) (X:Cx) (tg iter:Expr) (t:TId):Prop:=PI X tg iter (upI K t)
variable {tg iter:Expr}
theorem PI.mono {wi wi':TI}(h:PI X tg iter wi) (f:∀ σ H R,wi' σ H R->wi σ H R):PI X tg iter wi':=fun pins s σ H R I q=>h pins s σ H R I (f _ _ _ q)
def itL (e:En) (ds:List PyData):Itd:=⟨ds.length,fun i=>.d (ds.getD i .none),fun μ=>LstOf μ e ds⟩
def itT (ds:List PyData):Itd:=⟨ds.length,fun i=>.d (ds.getD i .none),fun _=>True⟩
def itR (lo:Int) (n:Nat):Itd:=⟨n,fun i=>.d (.int (lo+i)),fun _=>True⟩
def diL (te:TEd):TId:=fun ρ μ Q=>te ρ μ fun e μ1=>∃ ds,LstOf μ1 e ds/\Q (itL e ds) μ1
def diT (te:TEd):TId:=fun ρ μ Q=>te ρ μ fun e μ1=>match e with
 | .d (.tuple ds)=>Q (itT ds) μ1
 | _=>False
def diR1 (ta:TAd):TId:=fun ρ μ Q=>ta ρ μ fun es μ1=>match es with
 | [.d (.int j)]=>-(2 ^ 62)<=j/\j<2 ^ 62/\Q (itR 0 j.toNat) μ1
 | _=>False
theorem yF {ds:List PyData}{i:Nat}{x:PyData}(h:ds[i]?=some x):ds.getD i .none=x:=by rw [qq,h];rfl
theorem js {l:Expr}(hl:DE K X l te) (hK:X.K=K:=by rfl):DI K X tg l (diL te):=by
 subst hK
 refine PI.mono (qgD hl) fun σ H R hq9=>?_
 obtain ⟨ρ,μ,Q0,hS,hM,h,cl⟩:=hq9
 refine ⟨ρ,μ,_,hS,hM,h,fun e μ1 v H1 q M1 s1 i1=>?_⟩
 obtain ⟨ds,hL,q⟩:=q
 obtain ⟨p,xs,rfl,h1,h2⟩:=hL.get M1 i1
 refine ⟨p,rfl,⟨xs,h1⟩,cl _ μ1 _ H1 q M1 s1 fun μ' H' M' s' hok i=>?_⟩
 obtain ⟨p',xs',e',h3,h4⟩:=LstOf.get hok M' (i1.same s')
 cases e'
 have hl:=h4.len
 refine ⟨fun hi=>⟨⟨xs',xs'[i]'(by rw [hl];exact hi),h3,by simp⟩,?_⟩,fun hi=>⟨xs',h3,by rw [hl];exact hi⟩⟩
 rintro x H2 ⟨rfl,hx⟩
 refine ⟨M',qU.refl _,?_⟩
 obtain ⟨d,e1,e2⟩:=h4.get (hx xs' h3)
 show Is X.K (mask μ' H2) x (ds.getD i .none)
 rw [yF e1]
 exact e2
theorem SqT.up {μ:Mu}{H:Hp}{p:Addr}{xs:List V}(h:SqT K (mask μ H) p xs):SqT K H p xs:=by
 rcases h with (e | ⟨o,e⟩) | e
 ·exact .inl (.inl (yt _ _ e))
 ·exact .inl (.inr ⟨o,yt _ _ e⟩)
 ·exact .inr e
theorem SqT.same {H H':Hp}{p:Addr}{xs:List V}(s:qU H H') (h:SqT K H p xs):SqT K H' p xs:=by
 rcases h with (e | ⟨o,e⟩) | e
 ·exact .inl (.inl (s _ _ e))
 ·exact .inl (.inr ⟨o,s _ _ e⟩)
 ·exact .inr e
theorem Z2 {l:Expr}(hl:DE K X l te) (hK:X.K=K:=by rfl):DI K X tg l (diT te):=by
 subst hK
 refine PI.mono (qiD hl) fun σ H R hq9=>?_
 obtain ⟨ρ,μ,Q0,hS,hM,h,cl⟩:=hq9
 refine ⟨ρ,μ,_,hS,hM,h,fun e μ1 v H1 q M1 s1 i1=>?_⟩
 split at q
 ·rename_i ds
  cases i1 with
  | @tup p xs _ h1 h2 =>
   refine ⟨p,rfl,⟨xs,h1.up⟩,cl _ μ1 _ H1 q M1 s1 fun μ' H' M' s' hok i=>?_⟩
   have h3:=(SqT.same s' h1).up
   have h4:=IsAll.same s' h2
   have hl:=h4.len
   refine ⟨fun hi=>⟨⟨xs,xs[i]'(by rw [hl];exact hi),h3,by simp⟩,?_⟩,fun hi=>⟨xs,h3,by rw [hl];exact hi⟩⟩
   rintro x H2 ⟨rfl,hx⟩
   refine ⟨M',qU.refl _,?_⟩
   obtain ⟨d,e1,e2⟩:=h4.get (hx xs h3)
   show Is X.K (mask μ' H2) x (ds.getD i .none)
   rw [yF e1]
   exact e2
 ·exact q.elim
theorem qcy {lo:Int}{n:Nat}{μ1:Mu}{H1:Hp}:Sim K (itR lo n) μ1 H1 (Itr lo n):=fun μ' H' M' s' _ i =>
 ⟨fun hi=>⟨hi,fun x H2 ⟨e,y⟩=>by subst e y;exact ⟨M',qU.refl _,.int _⟩⟩,fun hi=>hi⟩
theorem Jy {a:Expr}{ta:TAd}{p:Pos}(hg:Gl X "range") (hm:X.mg "range" = none) (ha:DA K X [a] ta) (hs:starEach [a] X.env=[(false,eval a X.env)]:=by rfl):DI K X tg (.Call (.Name "range" p) [a] [] pos) (diR1 ta) :=
 PI.mono (qcV hg hm ha hs) fun σ H R ⟨ρ,μ,Q0,hS,hM,h,cl⟩=>⟨ρ,μ,_,hS,hM,h,fun es μ1 vs H1 q M1 s1 i1=>by
  split at q
  ·obtain ⟨v,rfl,h1⟩:=Jo i1
   cases h1
   exact ⟨_,rfl,q.1,q.2.1,cl _ μ1 _ H1 q.2.2 M1 s1 qcy⟩
  ·exact q.elim⟩
def Wks (P:Rho->Mu->Prop):Rho->Mu->Prop:=fun ρ μ=>∃ ρ' μ',Wk ρ μ ρ' μ'/\P ρ' μ'
theorem Wks.of {P:Rho->Mu->Prop}{ρ:Rho}{μ:Mu}(h:P ρ μ):Wks P ρ μ:=⟨ρ,μ,Wk.refl,h⟩
def dFor (ti:TId) (g:TGd) (tb:TSd):TSd:=fun D ρ μ=>ti ρ μ fun J μ1=>∃ Pv:Nat->Rho->Mu->Prop,Pv 0 ρ μ1/\(∀ i ρ' μ',i<=J.n->Pv i ρ' μ'->J.ok μ') ∧
 (∀ i ρ' μ',i<J.n->Pv i ρ' μ'->g (J.item i) ρ' μ' fun ρ2 μ2=>tb { D with nx:=Wks (Pv (i+1)),ct:=Wks (Pv (i+1)),bk:=D.nx } ρ2 μ2)/\∀ ρ' μ',Pv J.n ρ' μ'->D.nx ρ' μ'
theorem Jl {body:List Stmt}{ti:TId}{g:TGd}{tb:TSd}(hp:PassesOwn (model X.prog X.w) X.A X.env X.xe) (hc:X.calm=true) (hi:DI K X tg iter ti) (hg:DG K X tg g) (hb:DSs K X body tb)
  (hs:∀ x,foldedSetIterable iter X.env x=pure x:=by intro _;rfl):DS K X (.For tg iter body [] pos) (dFor ti g tb):=by
 refine PS.mono (qiz hp hc hi hg hb hs) fun D σ H hq9=>?_
 obtain ⟨ρ,μ,D0,hS,hM,h,cl⟩:=hq9
 refine ⟨ρ,μ,_,hS,hM,h,fun J0 μ1 J H1 q M1 s1 sim=>?_⟩
 obtain ⟨Pv,h0,hok,hstep,hend⟩:=q
 refine ⟨fun i m σ' H'=>m=J0.n - i/\i<=J0.n/\∃ ρ' μ',RelS K ρ' μ' σ' H'/\RelM K μ' H'/\qU (mask μ1 H1) (mask μ' H')/\Pv i ρ' μ',⟨_,rfl,qQ _,ρ,μ1,hS.same s1,M1,qU.refl _,h0⟩,?_⟩
 rintro i m σ' H' ⟨rfl,hi,ρ',μ',S',M',s',p⟩
 have sm:=sim μ' H' M' s' (hok i ρ' μ' hi p) i
 by_cases hlt:i<J0.n
 ·obtain ⟨hgo,hy⟩:=sm.1 hlt
  refine .inr ⟨hgo,fun σ2 H2=>∃ ρ' μ',RelS K ρ' μ' σ2 H2/\RelM K μ' H2/\qU (mask μ1 H1) (mask μ' H2)/\Pv (i+1) ρ' μ',fun σ2 H2 z=>⟨J0.n - (i+1),by omega,rfl,hlt,z⟩,fun x H2 y=>?_⟩
  obtain ⟨M2,s2,i2⟩:=hy x H2 y
  refine ⟨_,ρ',μ',_,i2,S'.same s2,M2,hstep i ρ' μ' hlt p,fun ρ3 μ3 σ3 H3 q3 S3 M3 s3=>⟨ρ3,μ3,_,S3,M3,q3,?_⟩⟩
  have st:=(s'.trans s2).trans s3
  have again:∀ {ρ4 μ4 σ4 H4},Wks (Pv (i+1)) ρ4 μ4->RelS K ρ4 μ4 σ4 H4->RelM K μ4 H4->qU (mask μ3 H3) (mask μ4 H4)->∃ ρ' μ',RelS K ρ' μ' σ4 H4/\RelM K μ' H4/\qU (mask μ1 H1) (mask μ' H4)/\Pv (i+1) ρ' μ':=by
   rintro ρ4 μ4 σ4 H4 ⟨ρ5,μ5,wk,p5⟩ S4 M4 s4
   obtain ⟨S5,M5,s5⟩:=wk K σ4 H4 S4 M4
   exact ⟨ρ5,μ5,S5,M5,(st.trans s4).trans s5,p5⟩
  exact ⟨fun _ _ _ _ a b c d=>again a b c d,cl.rt.same (s1.trans st),cl.nx.same (s1.trans st),fun _ _ _ _ a b c d=>again a b c d⟩
 ·have e:i=J0.n:=by omega
  subst e
  exact .inl ⟨sm.2 (qj _),cl.nx _ μ' _ H' (hend ρ' μ' p) S' M' (s1.trans s')⟩
def qjs (c:TTd) (tb:TSd):TSd:=fun D ρ μ=>∃ Pv:Nat->Rho->Mu->Prop,(∃ m,Pv m ρ μ)/\∀ m ρ' μ',Pv m ρ' μ'->c ρ' μ' fun b μ1=>if b=true then
 tb { D with nx:=fun ρ2 μ2=>∃ m',m'<m/\Wks (Pv m') ρ2 μ2,ct:=fun ρ2 μ2=>∃ m',m'<m/\Wks (Pv m') ρ2 μ2,bk:=D.nx } ρ' μ1 else D.nx ρ' μ1
theorem qbr {c:Expr}{body:List Stmt}{tc:TTd}{tb:TSd}(hp:PassesOwn (model X.prog X.w) X.A X.env X.xe) (hc:DT K X c tc) (hb:DSs K X body tb):DS K X (.While c body [] pos) (qjs tc tb):=by
 refine PS.mono (qez hp hc hb) fun D σ H hq9=>?_
 obtain ⟨ρ,μ,D0,hS,hM,h,cl⟩:=hq9
 obtain ⟨Pv,⟨m0,h0⟩,hstep⟩:=h
 refine ⟨fun m σ' H'=>∃ ρ' μ',RelS K ρ' μ' σ' H'/\RelM K μ' H'/\qU (mask μ H) (mask μ' H')/\Pv m ρ' μ',⟨m0,ρ,μ,hS,hM,qU.refl _,h0⟩,?_⟩
 rintro m σ' H' ⟨ρ',μ',S',M',s',p⟩
 refine ⟨ρ',μ',_,S',M',hstep m ρ' μ' p,fun k μ1 H1 q M1 s1=>?_⟩
 cases k with
 | true =>
  refine qb6 ⟨fun σ2 H2=>∃ m',m'<m/\∃ ρ' μ',RelS K ρ' μ' σ2 H2/\RelM K μ' H2/\qU (mask μ H) (mask μ' H2)/\Pv m' ρ' μ',fun σ2 H2 z=>z,ρ',μ1,_,S'.same s1,M1,by simpa using q,?_⟩
  have st:=s'.trans s1
  have again:∀ {ρ4 μ4 σ4 H4},(∃ m',m'<m/\Wks (Pv m') ρ4 μ4)->RelS K ρ4 μ4 σ4 H4->RelM K μ4 H4->qU (mask μ1 H1) (mask μ4 H4)->∃ m',m'<m/\∃ ρ' μ',RelS K ρ' μ' σ4 H4/\RelM K μ' H4/\qU (mask μ H) (mask μ' H4)/\Pv m' ρ' μ':=by
   rintro ρ4 μ4 σ4 H4 ⟨m',hm,ρ5,μ5,wk,p5⟩ S4 M4 s4
   obtain ⟨S5,M5,s5⟩:=wk K σ4 H4 S4 M4
   exact ⟨m',hm,ρ5,μ5,S5,M5,(st.trans s4).trans s5,p5⟩
  exact ⟨fun _ _ _ _ a b c d=>again a b c d,cl.rt.same st,cl.nx.same st,fun _ _ _ _ a b c d=>again a b c d⟩
 | false=>exact qbh (cl.nx _ μ1 _ H1 (by simpa using q) (S'.same s1) M1 (s'.trans s1))
def dYes:TTd:=fun _ μ Q=>Q true μ
def qhP (K:W.Frag) (X:Cx) (ifs:List Expr) (t:TTd):Prop:=Ifs X ifs (upT K t)
theorem y7:qhP K X [] dYes:=fun pins s σ H Q I ⟨ρ,μ,Q0,hS,hM,h,cl⟩=>qg5 pins s σ H Q I (cl true μ H h hM (qU.refl _))
theorem qaN {c:Expr}{t:TTd}(h:DT K X c t):qhP K X [c] t:=qg4 h
def Fin1 (Q:En->Mu->Prop) (ys:List PyData) (μ:Mu):Prop:=Q (.d (.list ys)) μ
def qhv (k:Nat) (ti:TId) (g:TGd) (tt:TTd) (te:TEd):TEd:=fun ρ μ Q=>ti ρ μ fun J μ1=>J.n<=4000/\∃ Pv:Nat->List PyData->Rho->Mu->Prop,Pv 0 [] (ρ++List.replicate k none) μ1/\(∀ i ys ρ' μ',i<=J.n->Pv i ys ρ' μ'->J.ok μ') ∧
 (∀ i ys ρ' μ',i<J.n->Pv i ys ρ' μ'->g (J.item i) ρ' μ' fun ρ2 μ2=>tt ρ2 μ2 fun b μ3=>if b=true then te ρ2 μ3 fun y μ4=>∃ z,y = .d z/\Pv (i+1) (ys++[z]) ρ2 μ4 else Pv (i+1) ys ρ2 μ3) ∧
 ∀ ys ρ' μ',Pv J.n ys ρ' μ'->Fin1 Q ys μ'
theorem qco {k:Nat}{ti:TId}{g:TGd}{tt:TTd}{te:TEd}{σ:St}{H:Hp}{Q:VK}(h:up K (qhv k ti g tt te) σ H Q):qgg k (upI K ti) (upG K g) (upT K tt) (up K te) σ H Q:=by
 obtain ⟨ρ,μ,Q0,hS,hM,h,cl⟩:=h
 refine ⟨ρ,μ,_,hS,hM,h,fun J0 μ1 J H1 q M1 s1 sim=>?_⟩
 obtain ⟨hn,Pv,h0,hok,hstep,hend⟩:=q
 have S0:RelS K (ρ++List.replicate k none) μ1 (σ++List.replicate k none) H1:=by
  have S1:=hS.same s1
  refine ⟨by simp [S1.len],fun i e he=>?_⟩
  by_cases hi:i<ρ.length
  ·rw [qI hi] at he
   rw [qI (by rw [<- S1.len];exact hi)]
   exact S1.get i e he
  ·rw [qO (by omega),List.getElem?_replicate] at he
   split at he <;> cases he
 refine ⟨fun i m ys σ' H'=>m=J0.n - i/\i<=J0.n/\ys.length<=i/\∃ ds ρ' μ',RelS K ρ' μ' σ' H'/\RelM K μ' H'/\qU (mask μ1 H1) (mask μ' H')/\IsAll K (mask μ' H') ys ds/\Pv i ds ρ' μ',⟨_,rfl,qQ _,qj _,[],_,μ1,S0,M1,qU.refl _,.nil,h0⟩,?_⟩
 rintro i m ys σ' H' ⟨rfl,hi,hy,ds,ρ',μ',S',M',s',hA,p⟩
 have sm:=sim μ' H' M' s' (hok i ds ρ' μ' hi p) i
 by_cases hlt:i<J0.n
 ·obtain ⟨hgo,hyl⟩:=sm.1 hlt
  refine .inr ⟨hgo,jc (by omega),fun ys2 σ2 H2=>ys2.length<=i+1/\∃ ds ρ' μ',RelS K ρ' μ' σ2 H2/\RelM K μ' H2/\qU (mask μ1 H1) (mask μ' H2)/\IsAll K (mask μ' H2) ys2 ds/\Pv (i+1) ds ρ' μ',fun ys2 σ2 H2 z=>⟨J0.n - (i+1),by omega,rfl,hlt,z⟩,fun x H2 y=>?_⟩
  obtain ⟨M2,s2,i2⟩:=hyl x H2 y
  refine ⟨_,ρ',μ',_,i2,S'.same s2,M2,hstep i ds ρ' μ' hlt p,fun ρ3 μ3 σ3 H3 q3 S3 M3 s3=>⟨ρ3,μ3,_,S3,M3,q3,fun b μ4 H4 q4 M4 s4=>?_⟩⟩
  have st:=((s'.trans s2).trans s3).trans s4
  cases b with
  | true =>
   refine qb6 ⟨ρ3,μ4,_,S3.same s4,M4,(by simpa using q4),fun e μ5 v H5 q5 M5 s5 i5=>?_⟩
   obtain ⟨z,rfl,q5⟩:=q5
   exact ⟨by simp;omega,_,ρ3,μ5,(S3.same s4).same s5,M5,st.trans s5,IsAll.snoc i5 (IsAll.same (((s2.trans s3).trans s4).trans s5) hA),q5⟩
  | false=>exact qbh ⟨by omega,_,ρ3,μ4,S3.same s4,M4,st,IsAll.same ((s2.trans s3).trans s4) hA,by simpa using q4⟩
 ·have e:i=J0.n:=by omega
  subst e
  refine .inl ⟨sm.2 (qj _),fun D hD=>?_⟩
  obtain ⟨M4,s4,hn⟩:=M'.laid (o:=.lst ys) hD
  exact cl _ μ' _ _ (hend ds ρ' μ' p) M4 ((s1.trans s').trans s4) (.lst (SqL.of (by rw [yc hn];exact qV)) (IsAll.same s4 hA))
theorem JZ {L:List Str}{scope sc:Scope}{N:List Str}{elt:Expr}{ifs:List Expr}{ti:TId}{g:TGd}{tt:TTd}{te:TEd}
  (hc:X.calm=true) (hsc:X.env.scope=sc) (hN:X.N=N) (ok:jz sc N L scope=true)
  (hi:DI K X tg iter ti) (hg:∀ cl C s₂ H₂ fp,DG K (qD X L scope cl C s₂ H₂ fp) tg g) (hf:∀ cl C s₂ H₂ fp,qhP K (qD X L scope cl C s₂ H₂ fp) ifs tt) (he:∀ cl C s₂ H₂ fp,DE K (qD X L scope cl C s₂ H₂ fp) elt te)
  (hs:∀ x,foldedSetIterable iter X.env x=pure x:=by intro _;rfl) :
  DE K X (.ListComp elt [⟨tg,iter,ifs,0⟩] scope pos) (qhv L.length ti g tt te):=PE.mono (qgG hc hsc hN ok hi hg hf he hs) fun _ _ _=>qco
theorem Zn {i:Nat}{x:Str}{pos' spos:Pos}{L:List Str}{scope sc:Scope}{N:List Str}{elt:Expr}{ifs:List Expr}{ti:TId}{g:TGd}{tt:TTd}{te:TEd}
  (hNd:X.N.Nodup) (hxi:X.N[i]?=some x) (hx:Loc X.env.scope x)
  (hc:X.calm=true) (hsc:X.env.scope=sc) (hN:X.N=N) (ok:jz sc N L scope=true)
  (hi:DI K X tg iter ti) (hg:∀ cl C s₂ H₂ fp,DG K (qD X L scope cl C s₂ H₂ fp) tg g) (hf:∀ cl C s₂ H₂ fp,qhP K (qD X L scope cl C s₂ H₂ fp) ifs tt) (he:∀ cl C s₂ H₂ fp,DE K (qD X L scope cl C s₂ H₂ fp) elt te)
  (hsw:swapsWith (.ListComp elt [⟨tg,iter,ifs,0⟩] scope pos) (some (.Name x pos')) spos.line X.env=pure true:=by rfl)
  (hs:∀ x,foldedSetIterable iter X.env x=pure x:=by intro _;rfl)
  (hfn:X.fn x=true\/X.env.scope.names.lookup x=some .local:=by first | exact .inl rfl | exact .inr rfl | assumption) :
  DS K X (.Assign [.Name x pos'] (.ListComp elt [⟨tg,iter,ifs,0⟩] scope pos) spos) (dAsg (qhv L.length ti g tt te) (Jm i)) :=
 PS.mono (qgx hNd hxi hx hc hsc hN ok hi hg hf he hsw hs hfn) fun D σ H ⟨ρ,μ,D0,hS,hM,h,cl⟩=>qco (Q:=fun x H1=>qeY i x σ H1 D.nx) ⟨ρ,μ,_,hS,hM,h,fun e' μ1 v H1 q M1 s1 i1=>cl.nx _ μ1 _ H1 q ((hS.same s1).set i1) M1 s1⟩
end
section
variable {P:Program}{w:World}{K:W.Frag}{mg:Str->Option Value}{base:Heap}{CX:CXT}
theorem Paired.mapSome {K:W.Frag}{μ:Mu}{H:Hp}{vs:List V}{es:List En}(h:Paired (IsE K μ H) vs es) (n m:Nat) (hn:n - vs.length=m - es.length):RelS K (es.map some++List.replicate (m - es.length) none) μ (vs.map some++List.replicate (n - vs.length) none) H:=by
 have hl:vs.length=es.length:=PySem.Paired.length h
 refine ⟨by simp [hl] at *;omega,fun i e he=>?_⟩
 by_cases hi:i<es.length
 ·rw [qI (by simpa using hi),List.getElem?_map] at he
  rw [qI (by simp;omega),List.getElem?_map]
  cases q:es[i]? with
  | none=>rw [q] at he;cases he
  | some e' =>
   rw [q] at he
   cases he
   obtain ⟨v,e1,e2⟩:=L2.Paired.get' h q
   exact ⟨v,by rw [e1];rfl,e2⟩
 ·rw [qO (by simp;omega),List.getElem?_replicate] at he
  split at he <;> cases he
theorem Fun.okD {x qual:Str}{st:Stmt}{f:Addr}{fd:FuncData}{N ps:List Str}{k:Nat}{sp:SpD}(F:Fun K x qual st f fd) (S:FnScope N ps (qt st)) (len:∀ es μ Q,sp es μ Q->es.length=ps.length)
  (hbody:∀ (cdv:Value) (A:Around) (outer:List Env) (s:Shared) (H:Hp) (E:XK) (es:List En) (μ:Mu) (Q:En->Mu->Prop),Room k (A.deeper (envOfC qual (qt st) s.heap.objs.size f cdv))->sp es μ Q →
   ∃ t,DSs K (qdR CX P w K mg base N qual (qt st) f cdv A outer s H E).nox (yX st) t/\t { nx:=fun _ μ'=>Q (.d .none) μ',rt:=Q } (es.map some++List.replicate (N.length - es.length) none) μ):FnOk P w K mg base CX (k+1) f fd ps (yf K sp):=by
 refine F.okG S (fun vs H Q E ⟨μ,es,Q0,M,hp,h,cl⟩=>(PySem.Paired.length hp).trans (len es μ Q0 h)) (fun cdv A outer s H vs Q E hr ⟨μ,es,Q0,M,hp,h,cl⟩=>?_)
 obtain ⟨t,ht,hq⟩:=hbody cdv A outer s H E es μ Q0 hr h
 have hl:vs.length=es.length:=PySem.Paired.length hp
 refine ⟨upS K t,ht,_,μ,_,Paired.mapSome hp N.length N.length (by rw [hl]),M,hq,⟨fun ρ' μ' σ' H' q S' M' s'=>cl _ μ' .non H' q M' s' .non,cl,fun _ _ _ _ q=>q.elim,fun _ _ _ _ q=>q.elim⟩⟩
theorem Own.imp {k:Nat}{x:Str}{ps:List Str}{sp sp':Sp}(O:Own P w K mg base CX k x ps sp) (h:∀ vs H Q E,sp' vs H Q E->sp vs H Q E):Own P w K mg base CX k x ps sp':=by
 obtain ⟨f,fd,F,r⟩:=O
 exact ⟨f,fd,F.imp h,r⟩
end
section
variable {X:Cx}{K:W.Frag}{a b c:Expr}{ta tb tc:TEd}{tA tB:TTd}{pos:Pos}{es:List Expr}{tr:TAd}
def rdIs (neg:Bool):R2d:=fun x y μ Q=>match x,y with
 | .d (.bool i),.d (.bool j)=>Q (.d (.bool (if neg then i != j else i == j))) μ
 | .d .none,.d .none=>Q (.d (.bool (!neg))) μ
 | .d (.bool _),.d .none=>Q (.d (.bool neg)) μ
 | .d (.int _),.d .none=>Q (.d (.bool neg)) μ
 | .d (.tuple _),.d .none=>Q (.d (.bool neg)) μ
 | .d (.list _),.d .none=>Q (.d (.bool neg)) μ
 | _,_=>False
theorem qjl:OpR X (compareOp .Is) (upR K (rdIs false)):=by
 intro pins s σ H x y v u Q I rx ry h
 obtain ⟨μ,e,e',Q0,M,i1,i2,q,cl⟩:=h
 unfold rdIs at q
 split at q
 ·cases i1;cases i2;cases rx;cases ry
  exact is_bool ⟨.bl _,H,I,rfl,cl _ μ _ H q M (qU.refl _) (.bl _)⟩
 ·cases i1;cases i2;cases rx;cases ry
  exact is_none_gen ⟨.bl _,H,I,rfl,cl _ μ _ H q M (qU.refl _) (.bl _)⟩
 ·cases i1;cases i2;cases rx;cases ry
  exact is_none_gen ⟨.bl _,H,I,rfl,cl _ μ _ H q M (qU.refl _) (.bl _)⟩
 ·cases i1;cases i2;obtain ⟨t,rfl⟩:=rx;cases ry
  exact is_none_gen ⟨.bl _,H,I,rfl,cl _ μ _ H q M (qU.refl _) (.bl _)⟩
 ·cases i1;cases i2;cases rx;cases ry
  exact is_none_gen ⟨.bl _,H,I,rfl,cl _ μ _ H q M (qU.refl _) (.bl _)⟩
 ·cases i1;cases i2;cases rx;cases ry
  exact is_none_gen ⟨.bl _,H,I,rfl,cl _ μ _ H q M (qU.refl _) (.bl _)⟩
 ·exact q.elim
def rdIx:R2d:=fun x y μ Q=>match x,y with
 | .d (.tuple ds),.d (.int i)=>∃ z,atI ds i=some z/\Q (.d z) μ
 | .d (.list ds),.d (.int i)=>∃ z,atI ds i=some z/\Q (.d z) μ
 | .m p,.d (.int i)=>∃ ds z,(p,.lst ds)∈μ/\atI ds i=some z/\Q (.d z) μ
 | _,_=>False
theorem qE (hK:X.K=K:=by rfl):IxR X (upR K rdIx):=by
 refine (IxR.or (qhe (K:=K) hK) (qjj (K:=K) hK)).mono fun x y H Q h=>?_
 obtain ⟨μ,e,e',Q0,M,i1,i2,q,cl⟩:=h
 unfold rdIx at q
 split at q
 ·exact .inr ⟨μ,_,_,Q0,M,i1,i2,q,cl⟩
 ·obtain ⟨z,h1,q⟩:=q
  exact .inl ⟨μ,_,_,Q0,M,i1,i2,⟨_,z,.d _,h1,q⟩,cl⟩
 ·obtain ⟨ds,z,h0,h1,q⟩:=q
  exact .inl ⟨μ,_,_,Q0,M,i1,i2,⟨ds,z,.m h0,h1,q⟩,cl⟩
 ·exact q.elim
def qin:R2d:=fun x y μ Q=>match x,y with
 | .d (.int i),.d (.int j)=>Q (.d (.int (i+j))) μ
 | _,_=>∃ ds es,LstOf μ x ds/\LstOf μ y es/\ds.length+es.length<=4000/\Q (.d (.list (ds++es))) μ
section forms
variable {g:TGd}{tb:TSd}{D:EndsD}{ρ:Rho}{μ:Mu}{te:TEd}{tt:TTd}{Q:En->Mu->Prop}
theorem qj4 {e:En}{ds:List PyData}(Pv:Nat->Rho->Mu->Prop) (h0:Pv 0 ρ μ) (hok:∀ i ρ' μ',Pv i ρ' μ'->LstOf μ' e ds)
  (hs:∀ i x ρ' μ',ds[i]?=some x->Pv i ρ' μ'->g (.d x) ρ' μ' fun ρ2 μ2=>tb { D with nx:=Wks (Pv (i+1)),ct:=Wks (Pv (i+1)),bk:=D.nx } ρ2 μ2) (hd:∀ ρ' μ',Pv ds.length ρ' μ'->D.nx ρ' μ') :
  ∃ Pv:Nat->Rho->Mu->Prop,Pv 0 ρ μ/\(∀ i ρ' μ',i<=(itL e ds).n->Pv i ρ' μ'->(itL e ds).ok μ') ∧
   (∀ i ρ' μ',i<(itL e ds).n->Pv i ρ' μ'->g ((itL e ds).item i) ρ' μ' fun ρ2 μ2=>tb { D with nx:=Wks (Pv (i+1)),ct:=Wks (Pv (i+1)),bk:=D.nx } ρ2 μ2)/\∀ ρ' μ',Pv (itL e ds).n ρ' μ'->D.nx ρ' μ':=by
 refine ⟨Pv,h0,fun i ρ' μ' _ p=>hok i ρ' μ' p,fun i ρ' μ' hi p=>?_,hd⟩
 have hi:i<ds.length:=hi
 have e1:ds[i]?=some ds[i]:=List.getElem?_eq_getElem hi
 show g (.d (ds.getD i .none)) ρ' μ' _
 rw [yF e1]
 exact hs i _ ρ' μ' e1 p
theorem forT {ds:List PyData}(Pv:Nat->Rho->Mu->Prop) (h0:Pv 0 ρ μ)
  (hs:∀ i x ρ' μ',ds[i]?=some x->Pv i ρ' μ'->g (.d x) ρ' μ' fun ρ2 μ2=>tb { D with nx:=Wks (Pv (i+1)),ct:=Wks (Pv (i+1)),bk:=D.nx } ρ2 μ2) (hd:∀ ρ' μ',Pv ds.length ρ' μ'->D.nx ρ' μ') :
  ∃ Pv:Nat->Rho->Mu->Prop,Pv 0 ρ μ/\(∀ i ρ' μ',i<=(itT ds).n->Pv i ρ' μ'->(itT ds).ok μ') ∧
   (∀ i ρ' μ',i<(itT ds).n->Pv i ρ' μ'->g ((itT ds).item i) ρ' μ' fun ρ2 μ2=>tb { D with nx:=Wks (Pv (i+1)),ct:=Wks (Pv (i+1)),bk:=D.nx } ρ2 μ2)/\∀ ρ' μ',Pv (itT ds).n ρ' μ'->D.nx ρ' μ':=by
 refine ⟨Pv,h0,fun i ρ' μ' _ p=>trivial,fun i ρ' μ' hi p=>?_,hd⟩
 have hi:i<ds.length:=hi
 have e1:ds[i]?=some ds[i]:=List.getElem?_eq_getElem hi
 show g (.d (ds.getD i .none)) ρ' μ' _
 rw [yF e1]
 exact hs i _ ρ' μ' e1 p
theorem qhN {lo:Int}{n:Nat}(Pv:Nat->Rho->Mu->Prop) (h0:Pv 0 ρ μ)
  (hs:∀ i ρ' μ',i<n->Pv i ρ' μ'->g (.d (.int (lo+i))) ρ' μ' fun ρ2 μ2=>tb { D with nx:=Wks (Pv (i+1)),ct:=Wks (Pv (i+1)),bk:=D.nx } ρ2 μ2) (hd:∀ ρ' μ',Pv n ρ' μ'->D.nx ρ' μ') :
  ∃ Pv:Nat->Rho->Mu->Prop,Pv 0 ρ μ/\(∀ i ρ' μ',i<=(itR lo n).n->Pv i ρ' μ'->(itR lo n).ok μ') ∧
   (∀ i ρ' μ',i<(itR lo n).n->Pv i ρ' μ'->g ((itR lo n).item i) ρ' μ' fun ρ2 μ2=>tb { D with nx:=Wks (Pv (i+1)),ct:=Wks (Pv (i+1)),bk:=D.nx } ρ2 μ2)/\∀ ρ' μ',Pv (itR lo n).n ρ' μ'->D.nx ρ' μ' :=
 ⟨Pv,h0,fun i ρ' μ' _ p=>trivial,fun i ρ' μ' hi p=>hs i ρ' μ' hi p,hd⟩
abbrev qfo (k:Nat) (J:Itd) (g:TGd) (tt:TTd) (te:TEd) (ρ:Rho) (μ1:Mu) (Q:En->Mu->Prop):Prop:=∃ Pv:Nat->List PyData->Rho->Mu->Prop,Pv 0 [] (ρ++List.replicate k none) μ1/\(∀ i ys ρ' μ',i<=J.n->Pv i ys ρ' μ'->J.ok μ') ∧
 (∀ i ys ρ' μ',i<J.n->Pv i ys ρ' μ'->g (J.item i) ρ' μ' fun ρ2 μ2=>tt ρ2 μ2 fun b μ3=>if b=true then te ρ2 μ3 fun y μ4=>∃ z,y = .d z/\Pv (i+1) (ys++[z]) ρ2 μ4 else Pv (i+1) ys ρ2 μ3) ∧
 ∀ ys ρ' μ',Pv J.n ys ρ' μ'->Fin1 Q ys μ'
theorem jE {α:Type}{ds:List α}{i:Nat}{x:α}(h:ds[i]?=some x):ds.take (i+1)=ds.take i++[x]:=by rw [List.take_add_one,h];rfl
structure Src (J:Itd) (ds:List PyData) (μ:Mu):Prop where
 n:J.n=ds.length
 it:∀ i x,ds[i]?=some x->J.item i = .d x
 ok:J.ok μ
theorem Src.l {e:En}{ds:List PyData}{μ:Mu}(h:LstOf μ e ds):Src (itL e ds) ds μ:=⟨rfl,fun i x e=>by show En.d (ds.getD i .none)=_;rw [yF e],h⟩
theorem Src.d {ds:List PyData}{μ:Mu}:Src (itL (.d (.list ds)) ds) ds μ:=Src.l (.d ds)
theorem Src.t {ds:List PyData}{μ:Mu}:Src (itT ds) ds μ:=⟨rfl,fun i x e=>by show En.d (ds.getD i .none)=_;rw [yF e],trivial⟩
def rng (lo:Int) (n:Nat):List PyData:=(List.range n).map fun (i:Nat)=>PyData.int (lo+(i:Int))
theorem Src.r {lo:Int}{n:Nat}{μ:Mu}:Src (itR lo n) (rng lo n) μ:=by
 refine ⟨by simp [rng,itR],fun i x e=>?_,trivial⟩
 unfold rng at e
 rw [List.getElem?_map] at e
 by_cases hi:i<n
 ·rw [List.getElem?_range hi] at e
  cases e
  rfl
 ·rw [List.getElem?_eq_none (by simpa using hi)] at e
  exact nomatch e
theorem qjw {J:Itd}{α:Type}{as:List α}{h1 h2:α->PyData}(p:α->Bool) (f:α->PyData) (S:Src J (as.map fun a=>.tuple [h1 a,h2 a]) μ)
  (ht:∀ a,a∈as->∀ R:Bool->Mu->Prop,R (p a) μ->tt (ρ++[some (.d (h1 a)),some (.d (h2 a))]) μ R)
  (hs:∀ a,a∈as->p a=true->∀ R:En->Mu->Prop,R (.d (f a)) μ->te (ρ++[some (.d (h1 a)),some (.d (h2 a))]) μ R) (hq:Q (.d (.list ((as.filter p).map f))) μ):qfo 2 J (qe7 2 (YU (Jm ρ.length) (YU (Jm (ρ.length+1)) qe8))) tt te ρ μ Q:=by
 have hl:J.n=as.length:=by rw [S.n];simp
 refine ⟨fun i ys ρ' μ'=>μ'=μ/\ys=((as.take i).filter p).map f/\∃ v w,ρ'=ρ++[v,w],⟨rfl,rfl,none,none,rfl⟩,fun i ys ρ' μ' _ ⟨h,_⟩=>by subst h;exact S.ok,?_,?_⟩
 ·rintro i ys ρ' μ' hi ⟨rfl,rfl,v,w,rfl⟩
  rw [hl] at hi
  rw [S.it i (.tuple [h1 as[i],h2 as[i]]) (by rw [List.getElem?_map,List.getElem?_eq_getElem hi];rfl)]
  refine ⟨rfl,?_⟩
  show tt (((ρ++[v,w]).set ρ.length _).set (ρ.length+1) _) μ' _
  have e2:((ρ++[v,w]).set ρ.length (some (.d (h1 as[i])))).set (ρ.length+1) (some (.d (h2 as[i])))=ρ++[some (.d (h1 as[i])),some (.d (h2 as[i]))]:=by simp [List.set_append]
  rw [e2]
  refine ht as[i] (qX hi) _ ?_
  cases hp:p as[i] with
  | true =>
   refine qb6 (hs as[i] (qX hi) hp _ ⟨_,rfl,rfl,?_,_,_,rfl⟩)
   rw [jE (List.getElem?_eq_getElem hi),List.filter_append,List.map_append]
   simp [hp]
  | false =>
   refine qbh ⟨rfl,?_,_,_,rfl⟩
   rw [jE (List.getElem?_eq_getElem hi),List.filter_append,List.map_append]
   simp [hp]
 ·rintro ys ρ' μ' ⟨rfl,rfl,_⟩
  rw [hl,yu]
  exact hq
theorem qdT {J:Itd}{α:Type}{as:List α}{h1 h2:α->PyData}(f:α->PyData) (S:Src J (as.map fun a=>.tuple [h1 a,h2 a]) μ)
  (hs:∀ a,a∈as->∀ R:En->Mu->Prop,R (.d (f a)) μ->te (ρ++[some (.d (h1 a)),some (.d (h2 a))]) μ R) (hq:Q (.d (.list (as.map f))) μ):qfo 2 J (qe7 2 (YU (Jm ρ.length) (YU (Jm (ρ.length+1)) qe8))) dYes te ρ μ Q :=
 qjw (fun _=>true) f S (fun a _ R h=>h) (fun a ha _=>hs a ha) (by rw [List.filter_eq_self.mpr (fun _ _=>rfl)];exact hq)
end forms
end
def Num (n:Int):Prop:=-1000000000000000000000000000000<n/\n<1000000000000000000000000000000
def sgn (n:Int):Int:=if 0<n then 1 else if n<0 then -1 else 0
def dvs (a b:Int):Int:=if a<0\/(a=0/\b<0) then -(Int.gcd a b:Int) else (Int.gcd a b:Int)
theorem Zk {a d:Int}(hd:d≠0) (h:d ∣ a):(a.fdiv d).natAbs<=a.natAbs:=by
 obtain ⟨c,rfl⟩:=h
 rw [Int.mul_fdiv_cancel_left _ hd,Int.natAbs_mul]
 exact Nat.le_mul_of_pos_left _ (by omega)
theorem qbk {f r:Nat}:Nat.gcd r (f % r)=Nat.gcd f r:=by
 rw [Nat.gcd_comm r (f % r),<- Nat.gcd_rec,Nat.gcd_comm]
def Bd (B:Nat) (q:Pt):Prop:=q.1.natAbs<=B/\q.2.natAbs<=B
theorem Zj {a d:Int}{B:Nat}(hB:B<2 ^ 1000) (h0:d≠0) (hd:d.natAbs<=B):qhI a d:=⟨h0,jK hd hB⟩
theorem FzR.pot {M a b:Int}{μ:Mu}{p:Addr}(ha:0<=a) (hb:0<=b) (hm:b<M):FzR ((p,.lst [.int a,.int b])::μ) (.m p) ((p,.pot M)::μ) (.m p):=fun K v H h i=>by
 have e:mask ((p,.lst [.int a,.int b])::μ) H=mask ((p,.pot M)::μ) H:=rfl
 refine ⟨⟨by simpa using h.nd,fun b' o ho=>?_⟩,i,by rw [e];exact qU.refl _⟩
 rcases List.mem_cons.mp ho with z | z
 ·cases z
  obtain ⟨xs,e1,hs⟩:=h.ob p _ qg
  have:=IsAll.ints_of (ns:=[a,b]) hs
  subst this
  exact ⟨a,b,e1,ha,hb,hm⟩
 ·have:=h.ob b' o (qe _ z)
  exact this.same (by rw [e];exact qU.refl _) rfl
def qcu (M:Int):Sp:=fun vs H Q _=>∃ (p:Addr) (m:Int),vs=[.ref p,.int m]/\Pot M H p/\0<m/\m<=100000000/\∀ d H',0<=d->d<m->Pot M H' p->Stp p H H'->Q (.int d) H'
def qar (M:Int):SpD:=fun es μ Q=>∃ (p:Addr) (m:Int),es=[.m p,.d (.int m)]/\(p,.pot M)∈μ/\0<m/\m<=100000000/\∀ d,0<=d->d<m->Q (.d (.int d)) μ
def qhJ (M:Int):SpD:=fun es μ Q=>∃ (p:Addr),es=[.m p]/\(p,.pot M)∈μ/\∀ n,Num n->Q (.d (.int n)) μ
theorem qgA {K:W.Frag}{μ:Mu}{H H':Hp}{p:Addr}{M:Int}(h:RelM K μ H) (hp:(p,.pot M)∈μ) (hP:Pot M H' p) (s:Stp p H H'):RelM K μ H'/\qU (mask μ H) (mask μ H'):=by
 obtain ⟨μ1,μ2,rfl⟩:=List.append_of_mem hp
 exact h.write (fun b u e n=>s b u e n) fun _=>hP
theorem qhg {K:W.Frag}{M:Int}{vs:List V}{H:Hp}{Q:VK}{E:XK}(h:yf K (qar M) vs H Q E):qcu M vs H Q E:=by
 obtain ⟨μ,es,Q0,hM,hp,⟨p,m,rfl,hpot,m0,m1,q⟩,cl⟩:=h
 obtain ⟨v,v',rfl,i1,i2⟩:=qaw hp
 have i1:v=_:=i1
 subst i1
 cases i2
 refine ⟨p,m,rfl,hM.ob _ _ hpot,m0,m1,fun d H' d0 d1 hP s=>?_⟩
 obtain ⟨M',s'⟩:=qgA hM hpot hP s
 exact cl _ μ _ H' (q d d0 d1) M' s' (.int d)
theorem zl0:0<=4000:=by decide
theorem zl2:2<=4000:=by decide
theorem zl3:3<=4000:=by decide
theorem zl4:4<=4000:=by decide
def qen (K:W.Frag):Sp:=fun vs H Q _=>∃ (a:Addr) (ns:List Int),vs=[.ref a]/\SqL K H a (ns.map V.int)/\ns.length<=63/\∀ H',Q (.bl true) H'
def sLaw:SpD:=fun es μ Q=>∃ ns:List Int,es=[.d (.list (ns.map .int))]/\ns.length<=63/\μ=[]/\∀ μ',Q (.d (.bool true)) μ'
theorem qi2 {K:W.Frag}{vs:List V}{H:Hp}{Q:VK}{E:XK}(h:qen K vs H Q E):yf K sLaw vs H Q E:=by
 obtain ⟨a,ns,rfl,hS,hl,q⟩:=h
 refine ⟨[],[.d (.list (ns.map .int))],fun e _=>e = .d (.bool true),RelM.nil,.cons ?_ .nil,⟨ns,rfl,hl,rfl,fun _=>rfl⟩,?_⟩
 ·show Is K (mask [] H) (.ref a) _
  rw [Jg]
  exact .lst hS (IsAll.ints ns)
 ·rintro e μ' v H' rfl _ _ i
  cases i
  exact q H'
section
variable {X:Cx}{K:W.Frag}{a b c:Expr}{ta tb tc:TEd}{tA tB:TTd}{pos:Pos}{es:List Expr}{tr:TAd}
def rCatS (K:W.Frag):R2:=fun x y H Q=>∃ l b xs zs,x = .ref l/\y = .ref b/\SqL K H l xs/\SqL K H b zs/\xs.length+zs.length<=sizeLine/\∀ p,H p=none->Q (.ref p) (upd H p (.lst (xs++zs)))
theorem qgN:OpR X (binaryOp .Add) (rCatS X.K):=by
 intro pins s σ H x y v u Q I rx ry h
 obtain ⟨l,b,xs,zs,rfl,rfl,hH,hB,hz,q⟩:=h
 cases rx
 cases ry
 obtain ⟨its,r,pl,_⟩:=I.list hH
 obtain ⟨its2,r2,pl2,_⟩:=I.list hB
 obtain ⟨⟨cls,dd,data,sl⟩,ho,hc,n,hd⟩:=pl.isList
 obtain ⟨⟨cls2,dd2,data2,sl2⟩,ho2,hc2,n2,hd2⟩:=pl2.isList
 simp only at hc hd hc2 hd2
 subst hc hd hc2 hd2
 have h1:=r.length
 have h2:=r2.length
 have e:its.toArray++its2.toArray=(its++its2).toArray:=by simp
 refine concat_meets ⟨_,ho,rfl⟩ ⟨_,ho2,rfl⟩ noFill_list_add seq_list_add PySem.F.slot_list_add PySem.F.entry_list_add (PySem.F.args_list_add_2 _ _) (list_addW l b its.toArray its2.toArray n n2 dd dd2 sl sl2 (by simp;omega)) ⟨ho,ho2,?_⟩
 rw [e]
 exact ⟨.ref _,_,I.lnew (t':=s.toks) (r.append r2) (by rw [List.length_append];omega),rfl,q _ I.fresh⟩
theorem YT (hK:X.K=K:=by rfl):OpR X (binaryOp .Add) (upR K qin):=by
 subst hK
 refine (OpR.or (qc2 (X:=X)) qgN).mono fun x y H Q h=>?_
 obtain ⟨μ,e,e',Q0,M,i1,i2,q,cl⟩:=h
 unfold qin at q
 split at q
 ·cases i1;cases i2
  exact .inl ⟨_,_,rfl,rfl,cl _ μ _ H q M (qU.refl _) (.int _)⟩
 ·obtain ⟨ds,es,h1,h2,hl,q⟩:=q
  obtain ⟨p,xs,rfl,a1,a2⟩:=h1.get M i1
  obtain ⟨p',xs',rfl,b1,b2⟩:=h2.get M i2
  refine .inr ⟨p,p',xs,xs',rfl,rfl,a1,b1,yl (jc (by rw [a2.len,b2.len];exact hl)),fun l hl=>?_⟩
  obtain ⟨M4,s4,hn⟩:=M.laid (o:=.lst (xs++xs')) hl
  exact cl _ μ _ _ q M4 s4 (.lst (SqL.of (by rw [yc hn];exact qV)) (IsAll.same s4 (IsAll.app b2 a2)))
def qjt (to:TEd) (tr:TAd):TEd:=fun ρ μ Q=>to ρ μ fun x μ1=>∃ ns:List Int,LstOf μ1 x (ns.map PyData.int)/\tr ρ μ1 fun es μ2=>LstOf μ2 x (ns.map PyData.int)/\match es with
 | [.d (.int k)]=>Q (.d (.int (ns.count k:Nat))) μ2
 | _=>False
theorem qaQ {o e:Expr}{to:TEd}{p1:Pos}(ho:DE K X o to) (ha:DA K X [e] tr) (hK:X.K=K:=by rfl)
  (h:PE X (.Call (.Attribute o "count" p1) [e] [] pos) (tBM X.K "list" (qfI X.K) (up K to) (upA K tr))):DE K X (.Call (.Attribute o "count" p1) [e] [] pos) (qjt to tr):=by
 subst hK
 refine PE.mono h fun σ H Q hq9=>?_
 obtain ⟨ρ,μ,Q0,hS,hM,h,cl⟩:=hq9
 refine ⟨ρ,μ,_,hS,hM,h,fun x μ1 v H1 q M1 s1 i1=>?_⟩
 obtain ⟨ns,h1,q⟩:=q
 obtain ⟨p,xs,rfl,a1,a2⟩:=h1.get M1 i1
 refine ⟨.inl ⟨rfl,_,a1⟩,ρ,μ1,_,hS.same s1,M1,q,fun es μ2 vs H2 q2 M2 s2 i2=>?_⟩
 obtain ⟨h2,q2⟩:=q2
 obtain ⟨p',xs',e',b1,b2⟩:=h2.get M2 (i1.same s2)
 cases e'
 rw [b2.ints_of] at b1
 split at q2
 ·obtain ⟨v,rfl,h3⟩:=Jo i2
  cases h3
  exact ⟨p,ns,_,rfl,rfl,b1,cl _ μ2 _ H2 q2 M2 (s1.trans s2) (.int _)⟩
 ·exact q2.elim
end
section
variable {P:Program}{w:World}{K:W.Frag}{mg:Str->Option Value}{base:Heap}{CX:CXT}{k:Nat}{x:Str}{ps:List Str}{sp sp':Sp}{f:Addr}{fd:FuncData}
def spOr (sp sp':Sp):Sp:=fun vs H Q E=>sp vs H Q E\/sp' vs H Q E
theorem FnOk.or (h:FnOk P w K mg base CX k f fd ps sp) (h':FnOk P w K mg base CX k f fd ps sp'):FnOk P w K mg base CX k f fd ps (spOr sp sp') :=
 ⟨fun vs H Q E q=>q.elim (h.len vs H Q E) (h'.len vs H Q E),fun A outer s H args us vs Q E hr he hb hv q=>q.elim (h.run A outer s H args us vs Q E hr he hb hv) (h'.run A outer s H args us vs Q E hr he hb hv)⟩
theorem Own.l (O:Own P w K mg base CX k x ps (spOr sp sp')):Own P w K mg base CX k x ps sp:=O.imp fun _ _ _ _ h=>.inl h
theorem Own.r (O:Own P w K mg base CX k x ps (spOr sp sp')):Own P w K mg base CX k x ps sp':=O.imp fun _ _ _ _ h=>.inr h
theorem RelS.of {vs:List V}{es:List En}{H:Hp}(n:Nat) (h:Paired (IsE K [] H) vs es):RelS K (es.map some++List.replicate n none) [] (vs.map some++List.replicate n none) H:=by
 have:=Paired.mapSome (K:=K) h (vs.length+n) (es.length+n) (by omega)
 simpa using this
theorem IsE.nil {H:Hp}{v:V}{d:PyData}(h:Is K H v d):IsE K [] H v (.d d):=by
 show Is K (mask [] H) v d
 rw [Jg];exact h
end
section
variable {g:TGd}{tb:TSd}{D:EndsD}{ρ:Rho}{μ:Mu}{te:TEd}{tt:TTd}{Q:En->Mu->Prop}
theorem qbG {J:Itd}{α:Type}{as:List α}{h:α->PyData}(p:α->Bool) (f:α->PyData) (S:Src J (as.map h) μ)
  (ht:∀ a,a∈as->∀ R:Bool->Mu->Prop,R (p a) μ->tt (ρ++[some (.d (h a))]) μ R)
  (hs:∀ a,a∈as->p a=true->∀ R:En->Mu->Prop,R (.d (f a)) μ->te (ρ++[some (.d (h a))]) μ R) (hq:Q (.d (.list ((as.filter p).map f))) μ):qfo 1 J (Jm ρ.length) tt te ρ μ Q:=by
 have hl:J.n=as.length:=by rw [S.n];simp
 refine ⟨fun i ys ρ' μ'=>μ'=μ/\ys=((as.take i).filter p).map f/\∃ v,ρ'=ρ++[v],⟨rfl,rfl,none,rfl⟩,fun i ys ρ' μ' _ ⟨h,_⟩=>by subst h;exact S.ok,?_,?_⟩
 ·rintro i ys ρ' μ' hi ⟨rfl,rfl,v,rfl⟩
  rw [hl] at hi
  rw [S.it i (h as[i]) (by rw [List.getElem?_map,List.getElem?_eq_getElem hi];rfl)]
  unfold Jm
  have e2:(ρ++[v]).set ρ.length (some (.d (h as[i])))=ρ++[some (.d (h as[i]))]:=by simp
  rw [e2]
  refine ht as[i] (qX hi) _ ?_
  cases hp:p as[i] with
  | true =>
   refine qb6 (hs as[i] (qX hi) hp _ ⟨_,rfl,rfl,?_,_,rfl⟩)
   rw [jE (List.getElem?_eq_getElem hi),List.filter_append,List.map_append]
   simp [hp]
  | false =>
   refine qbh ⟨rfl,?_,_,rfl⟩
   rw [jE (List.getElem?_eq_getElem hi),List.filter_append,List.map_append]
   simp [hp]
 ·rintro ys ρ' μ' ⟨rfl,rfl,_⟩
  rw [hl,yu]
  exact hq
theorem YX {J:Itd}{α:Type}{as:List α}{h:α->PyData}(f:α->PyData) (S:Src J (as.map h) μ)
  (hs:∀ a,a∈as->∀ R:En->Mu->Prop,R (.d (f a)) μ->te (ρ++[some (.d (h a))]) μ R) (hq:Q (.d (.list (as.map f))) μ):qfo 1 J (Jm ρ.length) dYes te ρ μ Q :=
 qbG (fun _=>true) f S (fun a _ R h=>h) (fun a ha _=>hs a ha) (by rw [List.filter_eq_self.mpr (fun _ _=>rfl)];exact hq)
end
def cLt (c:Int) (ns:List Int):Nat:=ns.countP (fun v=>decide (v<c))
def cGt (c:Int) (ns:List Int):Nat:=ns.countP (fun v=>decide (c<v))
theorem YH {s:List Int}(h:s.Pairwise (· <= ·)) {i j:Nat}(hi:i<=j) (hj:j<s.length):s.getD i 0<=s.getD j 0:=by
 rw [qq,qq,List.getElem?_eq_getElem hj,List.getElem?_eq_getElem (by omega)]
 show s[i]<=s[j]
 by_cases e:i=j
 ·subst e;exact Int.le_refl _
 ·exact qH.mp h i j (by omega) hj (by omega)
theorem Yw (p:Int->Bool) (s:List Int) (j:Nat):s.countP p=(s.take j).countP p+(s.drop j).countP p:=by
 rw [<- List.countP_append,qw]
theorem qbH {p:Int->Bool}{l:List Int}(h:∀ x∈l,p x=false):l.countP p=0:=by
 rw [List.countP_eq_zero]
 intro x hx
 simp [h x hx]
theorem qhw {p:Int->Bool}{l:List Int}(h:∀ x∈l,p x=true):l.countP p=l.length:=by
 rw [List.countP_eq_length]
 exact h
theorem qaA {s:List Int}(h:s.Pairwise (· <= ·)) {j:Nat}(hj:j<s.length) {x:Int}(hx:x∈s.take (j+1)):x<=s.getD j 0:=by
 obtain ⟨i,hi,rfl⟩:=yI.mp hx
 have:i<j+1:=by simp at hi;omega
 have:=YH h (i:=i) (j:=j) (by omega) hj
 rw [qq (l:=s) (i:=i),List.getElem?_eq_getElem (by omega)] at this
 simpa using this
theorem Yn {s:List Int}(h:s.Pairwise (· <= ·)) {j:Nat}(hj:j<s.length) {x:Int}(hx:x∈s.drop j):s.getD j 0<=x:=by
 obtain ⟨i,hi,rfl⟩:=yI.mp hx
 have hl:j+i<s.length:=by simp at hi;omega
 have:=YH h (i:=j) (j:=j+i) (by omega) hl
 rw [qq (l:=s) (i:=j+i),List.getElem?_eq_getElem hl] at this
 simpa using this
section
variable {s:List Int}(h:s.Pairwise (· <= ·)) {j:Nat}(hj:j<s.length) {c:Int}
include h hj
theorem cA (hc:c<=s.getD j 0):cLt c s<=j:=by
 unfold cLt
 rw [Yw _ s j,qbH (l:=s.drop j)]
 ·have:=List.countP_le_length (p:=fun v=>decide (v<c)) (l:=s.take j)
  simp at this ⊢
  omega
 ·intro x hx
  have:=Yn h hj hx
  simp;omega
theorem cB (hc:s.getD j 0<=c):cGt c s<=s.length - 1 - j:=by
 unfold cGt
 rw [Yw _ s (j+1),qbH (l:=s.take (j+1))]
 ·have:=List.countP_le_length (p:=fun v=>decide (c<v)) (l:=s.drop (j+1))
  simp at this ⊢
  omega
 ·intro x hx
  have:=qaA h hj hx
  simp;omega
theorem cC (hc:c<s.getD j 0):s.length - j<=cGt c s:=by
 unfold cGt
 rw [Yw _ s j,qhw (l:=s.drop j)]
 ·simp
 ·intro x hx
  have:=Yn h hj hx
  simp;omega
end
def twice:List Int->List Int
 | []=>[]
 | x::l=>x::x::twice l
mutual
theorem qbo:∀ d:PyData,PyData.canLay0 d=true->PyData.eqv d d=true
 | .none,_=>by simp [PyData.eqv]
 | .bool b,_=>by simp [PyData.eqv]
 | .int i,_=>by simp [PyData.eqv]
 | .str x,_=>by simp [PyData.eqv]
 | .list xs,h=>by
  simp only [PyData.canLay0] at h
  simp only [PyData.eqv]
  exact Jq xs h
 | .tuple xs,h=>by
  simp only [PyData.canLay0] at h
  simp only [PyData.eqv]
  exact Jq xs h
 | .dict xs,h=>by simp [PyData.canLay0] at h
theorem Jq:∀ ds:List PyData,PyData.canLayAll0 ds=true->PyData.eqvAll ds ds=true
 | [],_=>by simp [PyData.eqvAll]
 | d::ds,h=>by
  simp only [PyData.canLayAll0,Bool.and_eq_true] at h
  simp only [PyData.eqvAll,Bool.and_eq_true]
  exact ⟨qbo d h.1,Jq ds h.2⟩
end
theorem qbQ {d:PyData}(h:SeqAt.shaped d=true):PyData.eqv d d=true:=qbo d (SeqAt.canLay_of_shaped h)
theorem Ji {α:Type}{f:α->PyData}(hf:∀ a,PyData.canLay0 (f a)=true):∀ as:List α,PyData.canLayAll0 (as.map f)=true
 | []=>by simp [PyData.canLayAll0]
 | a::as=>by simp [PyData.canLayAll0,hf a,Ji hf as]
theorem Z4 {α:Type}{f:α->PyData}{n:Nat}(hf:∀ a,PyData.depth (f a)<=n):∀ as:List α,PyData.depthAll (as.map f)<=n+1
 | []=>by simp [PyData.depthAll]
 | a::as=>by
  have:=Z4 hf as
  have:=hf a
  simp only [List.map_cons,PyData.depthAll]
  omega
section
variable {X:Cx}{K:W.Frag}{a b c:Expr}{ta tb tc:TEd}{tA tB:TTd}{pos:Pos}{es:List Expr}{tr:TAd}
end
section
variable {X:Cx}{pins:List (Addr×Obj)}{σ:St}{H:Hp}{s:Shared}
theorem Inv.turnedL {fp:List Addr}{a:Addr}{o:HO}{h':Heap}{t':Nat}(I:Inv X pins σ H s) (hf:∀ b∈fp,qaV X pins H b) (k:∀ b u,b∉fp->s.heap.get? b=some u->h'.get? b=some u)
  (hp:s.heap.objs.size<=a) (new:jC X.prog X.w (upd H a o) h' a o):Inv X pins σ (upd H a o) { s with heap:=h',toks:=t' }:=by
 have hn:H a=none:=I.hok.fresh hp
 have ha:∀ b u,s.heap.get? b=some u->b≠a:=fun b u e z=>absurd (qy (qh e) hp) (by rw [z];exact yN _)
 have nfp:∀ b u,H b=some u->b∉fp:=fun b u e z=>by
  have:=(hf b z).1
  rw [this] at e;cases e
 refine I.step (g':=s.gens) (d':=s.drawn) (ch:=fp) (fun b hb=>?_) (fun b u _ _ hc e _=>k b u hc e) (fun b u _ _ hc e _=>⟨u.slots,k b u hc e⟩) (fun b u _ e n=>by rw [qP (ha b u e)];exact n)
  (fun b u hc e=>⟨u,k b u hc e⟩) (fun b xs e=>by rw [qP (qM e hn)];exact e) (fun b u v e=>by rw [qP (qM e hn)];exact e) (fun b ps e=>⟨#[],by rw [qP (qM e hn),e];simp⟩) (fun m hm=>?_) (fun b u e=>?_) I.bare
 ·obtain ⟨_,f1,_,f3,f4,f5⟩:=hf b hb
  exact ⟨f3,f1,f4,f5⟩
 ·obtain ⟨u,es,ep,ho,r⟩:=hm
  exact ⟨u,es,ep,k _ u (fun z=>(hf _ z).2.1 rfl) ho,r⟩
 ·by_cases hb:b=a
  ·subst hb
   rw [qV] at e;cases e;exact new
  ·rw [qP hb] at e
   refine (I.hok b u e).stay (fun c v hc q=>k c v ?_ q) (fun c q=>by rw [qP (qM q hn)];exact q) fun c xs q=>by rw [qP (qM q hn)];exact q
   rcases hc with z | z
   ·rw [z];exact nfp b u e
   ·exact nfp c _ z
theorem Inv.turnedF {fp:List Addr}{h':Heap}{t':Nat}(I:Inv X pins σ H s) (hf:∀ b∈fp,qaV X pins H b) (k:∀ b u,b∉fp->s.heap.get? b=some u->h'.get? b=some u):Inv X pins σ H { s with heap:=h',toks:=t' }:=by
 have nfp:∀ b u,H b=some u->b∉fp:=fun b u e z=>by
  have:=(hf b z).1
  rw [this] at e;cases e
 refine I.step (g':=s.gens) (d':=s.drawn) (ch:=fp) (fun b hb=>?_) (fun b u _ _ hc e _=>k b u hc e) (fun b u _ _ hc e _=>⟨u.slots,k b u hc e⟩) (fun b u _ e n=>n)
  (fun b u hc e=>⟨u,k b u hc e⟩) (fun b xs e=>e) (fun b u v e=>e) (fun b ps e=>⟨#[],by rw [e];simp⟩) (fun m hm=>?_) (fun b u e=>?_) I.bare
 ·obtain ⟨_,f1,_,f3,f4,f5⟩:=hf b hb
  exact ⟨f3,f1,f4,f5⟩
 ·obtain ⟨u,es,ep,ho,r⟩:=hm
  exact ⟨u,es,ep,k _ u (fun z=>(hf _ z).2.1 rfl) ho,r⟩
 ·refine (I.hok b u e).stay (fun c v hc q=>k c v ?_ q) (fun _ q=>q) fun _ _ q=>q
  rcases hc with z | z
  ·rw [z];exact nfp b u e
  ·exact nfp c _ z
end
def Ite (K:W.Frag) (a:Addr):It :=
 ⟨fun i H=>∃ xs x,SqL K H a xs/\xs[i]?=some x,fun i H v H'=>∃ t x,H t=none/\v = .ref t/\H'=upd H t (.tup [.int i,x])/\∀ xs,SqL K H a xs->xs[i]?=some x,fun i H=>∃ xs,SqL K H a xs/\xs.length<=i⟩
theorem qcq {P:Program}{w:World}{K:W.Frag}{elts:List Expr}{x1} {pos:Pos}(a e it:Addr) (hne:e≠it):Turn P w K (.Tuple elts x1 pos) (Ite K a) [e,it] e (fun i h=>(∃ old,IsEnum h e it ((i:Nat):Int) old)/\h.IsListIter it a i) where
 mem:=by simp
 obj:=fun i h st b hb=>by
  obtain ⟨⟨old,he⟩,o,ho,_,hd⟩:=st
  rcases List.mem_cons.mp hb with rfl | hb
  ·exact ⟨_,he,fun v z=>by cases z⟩
  ·have:b=it:=by simpa using hb
   subst this
   exact ⟨o,ho,fun v z=>by rw [hd] at z;cases z⟩
 keep:=fun i h h' st k=>by
  obtain ⟨⟨old,he⟩,hi⟩:=st
  exact ⟨⟨old,k e (by simp) _ he⟩,hi.at fun o q=>k it (by simp) o q⟩
 item:=by
  intro X hP hw hK hc i pins s σ H E I hf st hg
  subst hP hw hK
  obtain ⟨⟨old,he⟩,hi⟩:=st
  obtain ⟨xs,x,hq,hx⟩:=hg
  obtain ⟨its,rv,p,hz⟩:=I.list hq
  obtain ⟨u,hu,ru⟩:=rv.get hx
  have hes:e<s.heap.objs.size:=qh he
  refine wpAny_pyNext_enum_item he hi p.isList (x:=u) (by simpa using hu) hne fun h' heo hi' ht hsz hk=>⟨_,rfl,wpAny_letOwnedTupleGo_enum heo fun h2 he2 hs2=>?_⟩
  have hs2:Heap.SameBut e h' h2:=hs2
  have fr:H s.heap.objs.size=none:=I.hok.fresh (qj _)
  have keep:∀ b o,b∉[e,it]->s.heap.get? b=some o->h2.get? b=some o:=fun b o hb q=>by
   simp only [List.mem_cons,List.mem_nil_iff,or_false,not_or] at hb
   exact hs2.extBut b o hb.1 (hk b o hb.1 hb.2 q)
  have ht2:h2.get? s.heap.objs.size=some { cls:=.type "tuple",data:=.seq #[.int i s.toks,u] }:=(hs2.2 _ (Nat.ne_of_gt hes)).trans ht
  have I2:Inv X pins σ (upd H s.heap.objs.size (.tup [.int i,x])) { s with heap:=h2,toks:=s.toks+1 }:=I.turnedL hf keep (qj _) ⟨sz2,[.int i s.toks,u],.cons ⟨_,rfl⟩ (.cons ru .nil),⟨_,ht2,rfl,_,rfl⟩⟩
  refine ⟨.ref s.heap.objs.size,_,I2,rfl,⟨_,x,fr,rfl,rfl,fun ys hy=>by rw [I.list_inj hy hq];exact hx⟩,⟨⟨u,?_⟩,?_⟩,fun b hb=>?_⟩
  ·have:((i+1:Nat):Int)=(i:Int)+1:=by omega
   rw [this];exact he2
  ·exact hi'.extBut hs2.extBut (Ne.symm hne)
  ·have hb':=(hf b hb).1
   have:b≠s.heap.objs.size:=by
    rcases List.mem_cons.mp hb with rfl | hb
    ·exact qk hes
    ·have:b=it:=by simpa using hb
     subst this
     obtain ⟨o,ho,_⟩:=hi
     exact qk (qh ho)
   rw [qP this];exact hb'
 done:=by
  intro X hP hw hK hc i pins s σ H E I hf st hg
  subst hP hw hK
  obtain ⟨⟨old,he⟩,hi⟩:=st
  obtain ⟨xs,hq,hx⟩:=hg
  obtain ⟨its,rv,p,hz⟩:=I.list hq
  have hl:=rv.length
  refine wpAny_pyNext_enum_end (I.ok.hd hc) he hi p.isList (by simp;omega) fun h' eb=>⟨rfl,?_⟩
  exact I.turnedF (t':=s.toks) hf fun b o hb q=>eb b o (fun z=>hb (by simp [z])) q
 self:=fun _ _ _ _ _ st h=>wpAny_pyIter_enum (Classical.choose_spec st.1) h
def iEnum (K:W.Frag) (ta:TA):TI:=fun σ H R=>ta σ H fun vs H1=>∃ a,vs=[.ref a]/\(∃ xs,SqL K H1 a xs)/\R (Ite K a) H1
section
variable {X:Cx}{K:W.Frag}
theorem qcW {l:Expr}{ta:TA}{elts:List Expr}{x1} {tpos p pos:Pos}(hg:Gl X "enumerate") (hm:X.mg "enumerate" = none) (ha:PA X [l] ta) (hs:starEach [l] X.env=[(false,eval l X.env)]:=by rfl) :
  PI X (.Tuple elts x1 tpos) (.Call (.Name "enumerate" p) [l] [] pos) (iEnum X.K ta):=by
 intro pins s σ H R I h
 refine Call_ (YN I hg hm boot_enumerate (PyProof.Rows.callWith_type1 (thn (ha pos pins s σ H _ I h) fun us s1 ⟨vs,H1,I1,r1,q1⟩=>?_) hs rfl))
 obtain ⟨a,e,⟨xs,hq⟩,q⟩:=q1
 subst e
 obtain ⟨u,rfl,rx⟩:=J1 r1
 cases rx
 obtain ⟨its,rv,pl,hz⟩:=I1.list hq
 refine call_enumerate_list pl.isList fun h' he hi hsz hk=>?_
 have I2:Inv X pins σ H1 { s1 with heap:=h' }:=I1.kept (t':=s1.toks) hk
 refine wpAny_pyIter_enum he ?_
 refine ⟨s1.heap.objs.size+1,[s1.heap.objs.size+1,s1.heap.objs.size],_,_,H1,rfl,I2,qcq a _ _ (Nat.ne_of_gt (Nat.lt_succ_self _)),⟨⟨_,he⟩,hi⟩,fun b hb=>?_,q⟩
 have hb':s1.heap.objs.size<=b:=by
  rcases List.mem_cons.mp hb with z | z
  ·rw [z];exact Nat.le_succ _
  ·have:b=s1.heap.objs.size:=by simpa using z
   rw [this];exact qj _
 exact I1.fpOk hb' (I1.hok.fresh hb')
def qdD (ds:List PyData):List PyData:=(List.range ds.length).map fun (i:Nat)=>.tuple [.int (i:Int),ds.getD i .none]
def itE (e:En) (ds:List PyData):Itd:=⟨ds.length,fun i=>.d (.tuple [.int (i:Int),ds.getD i .none]),fun μ=>LstOf μ e ds⟩
def diE (ta:TAd):TId:=fun ρ μ Q=>ta ρ μ fun es μ1=>match es with
 | [e]=>∃ ds,LstOf μ1 e ds/\Q (itE e ds) μ1
 | _=>False
theorem qdM {l:Expr}{ta:TAd}{elts:List Expr}{x1} {tpos p pos:Pos}(hg:Gl X "enumerate") (hm:X.mg "enumerate" = none) (ha:DA K X [l] ta) (hK:X.K=K:=by rfl) (hs:starEach [l] X.env=[(false,eval l X.env)]:=by rfl) :
  DI K X (.Tuple elts x1 tpos) (.Call (.Name "enumerate" p) [l] [] pos) (diE ta):=by
 subst hK
 refine PI.mono (qcW hg hm ha hs) fun σ H R hq9=>?_
 obtain ⟨ρ,μ,Q0,hS,hM,h,cl⟩:=hq9
 refine ⟨ρ,μ,_,hS,hM,h,fun es μ1 vs H1 q M1 s1 i1=>?_⟩
 split at q
 ·rename_i e
  obtain ⟨v,rfl,h1⟩:=Jo i1
  obtain ⟨ds,hL,q⟩:=q
  obtain ⟨p,xs,rfl,a1,a2⟩:=hL.get M1 h1
  refine ⟨p,rfl,⟨xs,a1⟩,cl _ μ1 _ H1 q M1 s1 fun μ' H' M' s' hok i=>?_⟩
  obtain ⟨p',xs',e',h3,h4⟩:=LstOf.get hok M' (h1.same s')
  cases e'
  have hl:=h4.len
  refine ⟨fun hi=>⟨⟨xs',xs'[i]'(by rw [hl];exact hi),h3,by simp⟩,?_⟩,fun hi=>⟨xs',h3,by rw [hl];exact hi⟩⟩
  rintro x H2 ⟨t,y,ht,rfl,rfl,hx⟩
  obtain ⟨M2,s2,hn⟩:=M'.laid (o:=.tup [.int i,y]) ht
  obtain ⟨d,e1,e2⟩:=h4.get (hx xs' h3)
  refine ⟨M2,s2,?_⟩
  show Is X.K (mask μ' (upd H' t (.tup [.int i,y]))) (.ref t) (.tuple [.int i,ds.getD i .none])
  rw [yF e1]
  exact .tup (SqT.of (by rw [yc hn];exact qV)) (.cons (.int _) (.cons (Is.same s2 e2) .nil))
 ·exact q.elim
theorem ZY (ds:List PyData):(qdD ds).length=ds.length:=by simp [qdD]
theorem qdC {ds:List PyData}{i:Nat}{x:PyData}(h:ds[i]?=some x):(qdD ds)[i]?=some (.tuple [.int (i:Int),x]):=by
 have hi:i<ds.length:=(qo.mp h).1
 unfold qdD
 rw [List.getElem?_map,List.getElem?_range hi,<- yF h]
 rfl
theorem Src.e {e:En}{ds:List PyData}{μ:Mu}(h:LstOf μ e ds):Src (itE e ds) (qdD ds) μ:=by
 refine ⟨(ZY ds).symm,fun i x q=>?_,h⟩
 have hi:i<ds.length:=by
  have:=(qo.mp q).1
  rwa [ZY] at this
 rw [qdC (List.getElem?_eq_getElem hi)] at q
 cases q
 show En.d (.tuple [.int (i:Int),ds.getD i .none])=_
 rw [yF (List.getElem?_eq_getElem hi)]
end
end L2
namespace PySem
open Sem (wp)
section
variable {prog:Program}{w:World}{A:Around}{E:Value->Shared->Prop}{s:Shared}
theorem Ym {it t:Addr}{i:Nat}{items} {x:Value}{Q:Value->Shared->Prop}(hit:s.heap.IsTupleIter it t i)
  (ht:s.heap.IsTuple t items) (hx:items[i]?=some x)
  (hQ:∀ h',h'.IsTupleIter it t (i+1)->Heap.SameBut it s.heap h'->Q x { s with heap:=h' }) :
  wpAny (model prog w) A (Builtin.SmallTypes.nextOf (.ref it)) Q E s:=by
 obtain ⟨o,ho,hc,hd⟩:=id hit
 obtain ⟨ol,hol,_,nl,hdl⟩:=ht
 unfold Builtin.SmallTypes.nextOf
 refine qa (wpAny_callSpecial?_slot (name:=Str.ofString "__next__") hit.typeIs F.slot_tuple_iterator_next
  (yY F.slot_tuple_iterator_next hit.typeIs F.entry_tuple_iterator_next ?_ (F.args_tuple_iterator_next_1 _)))
 show wpAny _ _ (field (.ref it) 0 >>= _) _ _ s
 refine qa (yC ho hd (x:=.ref t) rfl ?_)
 show wpAny _ _ (if (Value.ref t == Value.none)=true then _ else _) _ _ s
 rw [if_neg (show ¬ ((Value.ref t == Value.none)=true) from Bool.false_ne_true)]
 show wpAny _ _ (field (.ref it) 1 >>= _) _ _ s
 refine qa (yC ho hd (x:=.int i 0) rfl ?_)
 show wpAny _ _ (seqItems? (.ref t) >>= _) _ _ s
 refine qa (jb hol hdl ?_)
 simp only [Int.toNat_natCast,hx]
 refine qa (wpAny_setField ho hd (by simp) (qd ⟨x,rfl,qd (hQ _ ?_ (Heap.SameBut.update ..))⟩))
 exact ⟨_,ja _ ho (Obj.isFreed_of_fields (Obj.data_mapFields hd _)),(Obj.cls_mapFields ..).trans hc,by
  rw [Obj.data_mapFields hd];simp [rawInt]⟩
theorem YB {it t:Addr}{i:Nat}{items} {Q:Value->Shared->Prop}(hh:A.handled=none)
  (hit:s.heap.IsTupleIter it t i) (ht:s.heap.IsTuple t items) (hx:items[i]?=none)
  (hE:∀ h' e,Heap.ExtBut it s.heap h'->(∃ o,h'.get? e=some o/\o.cls = .type "StopIteration")->E (.ref e) { s with heap:=h' }) :
  wpAny (model prog w) A (Builtin.SmallTypes.nextOf (.ref it)) Q E s:=by
 obtain ⟨o,ho,hc,hd⟩:=id hit
 obtain ⟨ol,hol,_,nl,hdl⟩:=ht
 unfold Builtin.SmallTypes.nextOf
 refine qa (wpAny_callSpecial?_slot (name:=Str.ofString "__next__") hit.typeIs F.slot_tuple_iterator_next
  (yY F.slot_tuple_iterator_next hit.typeIs F.entry_tuple_iterator_next ?_ (F.args_tuple_iterator_next_1 _)))
 show wpAny _ _ (field (.ref it) 0 >>= _) _ _ s
 refine qa (yC ho hd (x:=.ref t) rfl ?_)
 show wpAny _ _ (if (Value.ref t == Value.none)=true then _ else _) _ _ s
 rw [if_neg (show ¬ ((Value.ref t == Value.none)=true) from Bool.false_ne_true)]
 show wpAny _ _ (field (.ref it) 1 >>= _) _ _ s
 refine qa (yC ho hd (x:=.int i 0) rfl ?_)
 show wpAny _ _ (seqItems? (.ref t) >>= _) _ _ s
 refine qa (jb hol hdl ?_)
 simp only [Int.toNat_natCast,hx]
 refine qa (jD (qa (wpAny_setField ho hd (by simp) ?_)))
 show wpAny _ _ (newExc (.type "StopIteration") [] >>= _) _ _ _
 refine qa ?_
 simp only [newExc,newTuple]
 refine qa (qT ?_ (by size_fits))
 refine qa (m:=firstArgMember _ _) (wpAny_of_eq (a:=Value.none) (by first | rfl | (simp only [firstArgMember];rfl)) ?_)
 refine qT ?_ (by size_fits)
 simp only [raiseNew]
 refine qa (wpAny_handled ?_)
 first | rw [show A.in1.handled=none from hh] | rw [hh]
 refine qa (qd (wpAny_throw ?_))
 exact hE _ _ (((Heap.SameBut.update ..).extBut.push _).push _) ⟨_,qr _ rfl,rfl⟩
end
structure Nx (prog:Program) (w:World) (A:Around) (fr:List Addr) (it:Addr) (st:Nat->Heap->Prop) (xs:Array Value):Prop where
 mem:it∈fr
 obj:∀ i h,st i h->∃ o,h.get? it=some o/\∀ v,o.data≠.cell v
 keep:∀ i h h',st i h->(∀ b∈fr,∀ o,h.get? b=some o->h'.get? b=some o)->st i h'
 item:∀ (i:Nat) (s:Shared) (x:Value) (Q:Value->Shared->Prop) (E:Value->Shared->Prop),st i s.heap->xs[i]?=some x →
  (∀ h',st (i+1) h'->Heap.SameBut it s.heap h'->Q x { s with heap:=h' })->wpAny (model prog w) A (Builtin.SmallTypes.nextOf (.ref it)) Q E s
 stop:∀ (i:Nat) (s:Shared) (Q:Value->Shared->Prop) (E:Value->Shared->Prop),st i s.heap->xs[i]?=none →
  (∀ h' e,Heap.ExtBut it s.heap h'->(∃ o,h'.get? e=some o/\o.cls = .type "StopIteration")->E (.ref e) { s with heap:=h' })->wpAny (model prog w) A (Builtin.SmallTypes.nextOf (.ref it)) Q E s
theorem qbc {prog:Program}{w:World}{A:Around}{it t:Addr}{xs:Array Value}(hh:A.handled=none) (hne:t≠it):Nx prog w A [it,t] it (fun i h=>h.IsTupleIter it t i/\h.IsTuple t xs) xs where
 mem:=by simp
 obj:=fun i h ⟨⟨o,ho,_,hd⟩,_⟩=>⟨o,ho,fun v z=>by rw [hd] at z;cases z⟩
 keep:=fun i h h' ⟨⟨o,ho,r⟩,⟨o2,ho2,r2⟩⟩ k=>⟨⟨o,k _ (by simp) _ ho,r⟩,⟨o2,k _ (by simp) _ ho2,r2⟩⟩
 item:=fun i s x Q E st hx hQ=>Ym st.1 st.2 hx fun h' hi hs=>hQ h' ⟨hi,st.2.extBut hs.extBut hne⟩ hs
 stop:=fun i s Q E st hx hE=>YB hh st.1 st.2 hx hE
structure ZAp (z TI TO i1 i2:Addr) (f1 f2:List Addr):Prop where
 TIz:TI≠z
 TOz:TO≠z
 TITO:TI≠TO
 z1:z∉f1
 z2:z∉f2
 o1:TO∉f1
 o2:TO∉f2
 t1:TI≠i1
 t2:TI≠i2
 a12:i1∉f2
 a21:i2∉f1
section
variable {prog:Program}{w:World}{A:Around}{E:Value->Shared->Prop}{s:Shared}{z TI TO i1 i2:Addr}{f1 f2:List Addr}{s1 s2:Nat->Heap->Prop}{xs ys:Array Value}{k1 k2:Nat}{x y a b:Value}
theorem q9 {l:List Addr}{p q:Addr}(hq:q∈l) (hp:p∉l):q≠p:=fun e=>hp (e ▸ hq)
theorem qf8 {Q:Value->Shared->Prop}(D:ZAp z TI TO i1 i2 f1 f2) (N1:Nx prog w A f1 i1 s1 xs) (N2:Nx prog w A f2 i2 s2 ys)
  (hz:IsZip s.heap z TI TO .none) (hTI:IsPair s.heap TI (.ref i1) (.ref i2)) (hTO:IsPair s.heap TO a b)
  (h1:s1 k1 s.heap) (h2:s2 k2 s.heap) (hx:xs[k1]?=some x) (hy:ys[k2]?=some y)
  (hQ:∀ h',IsZip h' z TI TO (rawInt s.heap.objs.size)->IsPair h' TO x y->s1 (k1+1) h'->s2 (k2+1) h'->IsPair h' s.heap.objs.size x y->h'.objs.size=s.heap.objs.size+1 →
   (∀ c o,c≠z->c≠TO->c≠i1->c≠i2->s.heap.get? c=some o->h'.get? c=some o)->Q (.ref s.heap.objs.size) { s with heap:=h' }) :
  wpAny (model prog w) A (Builtin.«zip.__next__» ⟨[.ref z],[]⟩) (fun fin s'=>∃ v,fin = .done (.ret v)/\Q v s') E s:=by
 have i1z:i1≠z:=q9 N1.mem D.z1
 have i2z:i2≠z:=q9 N2.mem D.z2
 have i1o:i1≠TO:=q9 N1.mem D.o1
 have i2o:i2≠TO:=q9 N2.mem D.o2
 have i12:i1≠i2:=q9 N1.mem D.a21
 have up1:∀ {c:Addr}{h h':Heap}{k:Nat},Heap.ExtBut c h h'->c∉f1->s1 k h->s1 k h':=fun e n st=>N1.keep _ _ _ st fun b hb o q=>e b o (q9 hb n) q
 have up2:∀ {c:Addr}{h h':Heap}{k:Nat},Heap.ExtBut c h h'->c∉f2->s2 k h->s2 k h':=fun e n st=>N2.keep _ _ _ st fun b hb o q=>e b o (q9 hb n) q
 show wpAny _ _ (field (.ref z) 2 >>= _) _ _ _
 refine qa (yC hz rfl (x:=.bool false) rfl ?_)
 show wpAny _ _ (field (.ref z) 3 >>= _) _ _ _
 refine qa (yC hz rfl (x:=.ref TI) rfl ?_)
 refine qa (jb hTI rfl ?_)
 show wpAny _ _ (Builtin.SmallTypes.ownedTupleIsFree (.ref z) >>= _) _ _ _
 refine qa ?_
 unfold Builtin.SmallTypes.ownedTupleIsFree
 refine qa (yC hz rfl (x:=.none) rfl (qd ?_))
 simp only [if_true]
 refine qa (jD ?_)
 refine qa (yC hz rfl (x:=.ref TO) rfl ?_)
 refine qa (wpAny_setField_rec hz (by simp) fun hA zA sA=>?_)
 replace zA:IsZip hA z TI TO .ellipsis:=zA
 refine qa ?_
 simp only [List.zipIdx_cons,List.zipIdx_nil,List.forIn_cons,List.forIn_nil]
 refine qa (qa (wpAny_onRaise ?_))
 show wpAny _ _ (Builtin.SmallTypes.nextOf (.ref i1) >>= _) _ _ _
 refine qa (N1.item k1 _ x _ _ (up1 sA.extBut D.z1 h1) hx fun hB h1B sB=>qd ?_)
 have oB:IsPair hB TO a b:=sB.extBut _ _ i1o.symm (sA.extBut _ _ D.TOz hTO)
 refine qa (jb oB rfl ?_)
 refine qa (wpAny_updateSeq_pair oB fun hC oC sC=>?_)
 replace oC:IsPair hC TO x b:=oC
 refine qa (wpAny_letGo (qd ?_))
 refine qa (qa (wpAny_onRaise ?_))
 show wpAny _ _ (Builtin.SmallTypes.nextOf (.ref i2) >>= _) _ _ _
 refine qa (N2.item k2 _ y _ _ (up2 sC.extBut D.o2 (up2 sB.extBut D.a12 (up2 sA.extBut D.z2 h2))) hy fun hD h2D sD=>qd ?_)
 have oD:IsPair hD TO x b:=sD.extBut _ _ i2o.symm oC
 refine qa (jb oD rfl ?_)
 refine qa (wpAny_updateSeq_pair oD fun hF oF sF=>?_)
 replace oF:IsPair hF TO x y:=oF
 refine qa (wpAny_letGo (qd (qd ?_)))
 refine qa (jb oF rfl ?_)
 refine qa (wpAny_newTuple ?_)
 have hsz:hF.objs.size=s.heap.objs.size:=by rw [sF.1,sD.1,sC.1,sB.1,sA.1]
 have zF:IsZip hF z TI TO .ellipsis:=sF.extBut _ _ D.TOz.symm (sD.extBut _ _ i2z.symm (sC.extBut _ _ D.TOz.symm (sB.extBut _ _ i1z.symm zA)))
 have kF:∀ c o,c≠z->c≠TO->c≠i1->c≠i2->s.heap.get? c=some o->hF.get? c=some o:=fun c o c1 c2 c3 c4 e =>
  sF.extBut _ _ c2 (sD.extBut _ _ c4 (sC.extBut _ _ c2 (sB.extBut _ _ c3 (sA.extBut _ _ c1 e))))
 have t1F:s1 (k1+1) hF:=up1 sF.extBut D.o1 (up1 sD.extBut D.a21 (up1 sC.extBut D.o1 h1B))
 have t2F:s2 (k2+1) hF:=up2 sF.extBut D.o2 h2D
 have zlt:z<hF.objs.size:=qh zF
 show wpAny _ _ (Builtin.SmallTypes.ownedTupleHandOut (.ref z) (.ref hF.objs.size) >>= _) _ _ _
 refine qa ?_
 unfold Builtin.SmallTypes.ownedTupleHandOut
 have zG:IsZip (hF.push { cls:=.type "tuple",data:=.seq #[x,y] }) z TI TO .ellipsis:=qb _ zF
 refine qa (wpAny_setField_rec zG (by simp) fun hI zI sI=>?_)
 replace zI:IsZip hI z TI TO (rawInt hF.objs.size):=zI
 refine wpAny_setField_rec zI (by simp) fun hJ zJ sJ=>?_
 replace zJ:IsZip hJ z TI TO (rawInt hF.objs.size):=zJ
 have up:∀ c o,c≠z->hF.get? c=some o->hJ.get? c=some o:=fun c o c1 e=>sJ.extBut _ _ c1 (sI.extBut _ _ c1 (qb _ e))
 have tJ:IsPair hJ hF.objs.size x y:=sJ.extBut _ _ (Nat.ne_of_gt zlt) (sI.extBut _ _ (Nat.ne_of_gt zlt) (qr _ rfl))
 have sz:hJ.objs.size=hF.objs.size+1:=by rw [sJ.1,sI.1,yr]
 rw [hsz] at zJ tJ sz
 refine qd ⟨_,rfl,?_⟩
 show Q (.ref hF.objs.size) _
 rw [hsz]
 exact hQ hJ zJ (up _ _ D.TOz oF) (N1.keep _ _ _ t1F fun b hb o q=>up b o (q9 hb D.z1) q) (N2.keep _ _ _ t2F fun b hb o q=>up b o (q9 hb D.z2) q) tJ sz fun c o c1 c2 c3 c4 e=>up c o c1 (kF c o c1 c2 c3 c4 e)
theorem qhQ {Q:PySem.Fin->Shared->Prop}(D:ZAp z TI TO i1 i2 f1 f2) (N1:Nx prog w A f1 i1 s1 xs) (N2:Nx prog w A f2 i2 s2 ys)
  (hz:IsZip s.heap z TI TO .none) (hTI:IsPair s.heap TI (.ref i1) (.ref i2)) (hTO:IsPair s.heap TO a b)
  (h1:s1 k1 s.heap) (h2:s2 k2 s.heap) (hend:xs[k1]?=none\/ys[k2]?=none)
  (hE:∀ h' e,(∀ c o,c≠z->c≠TO->c≠i1->c≠i2->s.heap.get? c=some o->h'.get? c=some o)->(∃ o,h'.get? e=some o/\o.cls = .type "StopIteration")->E (.ref e) { s with heap:=h' }) :
  wpAny (model prog w) A (Builtin.«zip.__next__» ⟨[.ref z],[]⟩) Q E s:=by
 have i1z:i1≠z:=q9 N1.mem D.z1
 have i2z:i2≠z:=q9 N2.mem D.z2
 have i1o:i1≠TO:=q9 N1.mem D.o1
 have i2o:i2≠TO:=q9 N2.mem D.o2
 have up1:∀ {c:Addr}{h h':Heap}{k:Nat},Heap.ExtBut c h h'->c∉f1->s1 k h->s1 k h':=fun e n st=>N1.keep _ _ _ st fun b hb o q=>e b o (q9 hb n) q
 have up2:∀ {c:Addr}{h h':Heap}{k:Nat},Heap.ExtBut c h h'->c∉f2->s2 k h->s2 k h':=fun e n st=>N2.keep _ _ _ st fun b hb o q=>e b o (q9 hb n) q
 show wpAny _ _ (field (.ref z) 2 >>= _) _ _ _
 refine qa (yC hz rfl (x:=.bool false) rfl ?_)
 show wpAny _ _ (field (.ref z) 3 >>= _) _ _ _
 refine qa (yC hz rfl (x:=.ref TI) rfl ?_)
 refine qa (jb hTI rfl ?_)
 show wpAny _ _ (Builtin.SmallTypes.ownedTupleIsFree (.ref z) >>= _) _ _ _
 refine qa ?_
 unfold Builtin.SmallTypes.ownedTupleIsFree
 refine qa (yC hz rfl (x:=.none) rfl (qd ?_))
 simp only [if_true]
 refine qa (jD ?_)
 refine qa (yC hz rfl (x:=.ref TO) rfl ?_)
 refine qa (wpAny_setField_rec hz (by simp) fun hA zA sA=>?_)
 replace zA:IsZip hA z TI TO .ellipsis:=zA
 refine qa ?_
 simp only [List.zipIdx_cons,List.zipIdx_nil,List.forIn_cons,List.forIn_nil]
 refine qa (qa (wpAny_onRaise ?_))
 show wpAny _ _ (Builtin.SmallTypes.nextOf (.ref i1) >>= _) _ _ _
 cases hx:xs[k1]? with
 | none =>
  refine qa (N1.stop k1 _ _ _ (up1 sA.extBut D.z1 h1) hx fun hB e eB he=>?_)
  obtain ⟨oe,hoe,hce⟩:=he
  have zB:IsZip hB z TI TO .ellipsis:=eB _ _ i1z.symm zA
  have hez:e≠z:=fun x=>by subst x;rw [zB] at hoe;cases hoe;simp at hce
  refine wpAny_setField_rec zB (by simp) fun hC _ sC=>hE hC e (fun c o c1 _ c3 _ x=>sC.extBut _ _ c1 (eB _ _ c3 (sA.extBut _ _ c1 x))) ⟨oe,sC.extBut _ _ hez hoe,hce⟩
 | some x =>
  have hy:ys[k2]?=none:=by rcases hend with h | h;rw [hx] at h;cases h;exact h
  refine qa (N1.item k1 _ x _ _ (up1 sA.extBut D.z1 h1) hx fun hB h1B sB=>qd ?_)
  have oB:IsPair hB TO a b:=sB.extBut _ _ i1o.symm (sA.extBut _ _ D.TOz hTO)
  refine qa (jb oB rfl ?_)
  refine qa (wpAny_updateSeq_pair oB fun hC oC sC=>?_)
  refine qa (wpAny_letGo (qd ?_))
  refine qa (qa (wpAny_onRaise ?_))
  show wpAny _ _ (Builtin.SmallTypes.nextOf (.ref i2) >>= _) _ _ _
  refine qa (N2.stop k2 _ _ _ (up2 sC.extBut D.o2 (up2 sB.extBut D.a12 (up2 sA.extBut D.z2 h2))) hy fun hD e eD he=>?_)
  obtain ⟨oe,hoe,hce⟩:=he
  have zD:IsZip hD z TI TO .ellipsis:=eD _ _ i2z.symm (sC.extBut _ _ D.TOz.symm (sB.extBut _ _ i1z.symm zA))
  have hez:e≠z:=fun x=>by subst x;rw [zD] at hoe;cases hoe;simp at hce
  refine wpAny_setField_rec zD (by simp) fun hF _ sF=>hE hF e (fun c o c1 c2 c3 c4 x=>sF.extBut _ _ c1 (eD _ _ c4 (sC.extBut _ _ c2 (sB.extBut _ _ c3 (sA.extBut _ _ c1 x))))) ⟨oe,sF.extBut _ _ hez hoe,hce⟩
theorem Yy {Q:Option Value->Shared->Prop}(hh:A.handled=none) (D:ZAp z TI TO i1 i2 f1 f2) (N1:∀ A:Around,A.handled=none->Nx prog w A f1 i1 s1 xs) (N2:∀ A:Around,A.handled=none->Nx prog w A f2 i2 s2 ys)
  (hz:IsZip s.heap z TI TO .none) (hTI:IsPair s.heap TI (.ref i1) (.ref i2)) (hTO:IsPair s.heap TO a b)
  (h1:s1 k1 s.heap) (h2:s2 k2 s.heap) (hx:xs[k1]?=some x) (hy:ys[k2]?=some y)
  (hQ:∀ h',IsZip h' z TI TO (rawInt s.heap.objs.size)->IsPair h' TO x y->s1 (k1+1) h'->s2 (k2+1) h'->IsPair h' s.heap.objs.size x y->h'.objs.size=s.heap.objs.size+1 →
   (∀ c o,c≠z->c≠TO->c≠i1->c≠i2->s.heap.get? c=some o->h'.get? c=some o)->Q (some (.ref s.heap.objs.size)) { s with heap:=h' }) :
  wpAny (model prog w) A (pyNext (.ref z)) Q E s:=by
 have hT:s.TypeIs (.ref z) "zip" := ⟨_,hz,rfl⟩
 unfold pyNext
 exact qa (wpAny_attempt (wpAny_callSpecial?_slot (name:=Str.ofString "__next__") hT F.slot_zip_next
  (yY F.slot_zip_next hT F.entry_zip_next
   (qf8 D (N1 _ hh) (N2 _ hh) hz hTI hTO h1 h2 hx hy fun h' a1 a2 a3 a4 a5 a6 a7=>qd (hQ h' a1 a2 a3 a4 a5 a6 a7)) (F.args_zip_next_1 _))))
theorem Y8 {Q:Option Value->Shared->Prop}(hh:A.handled=none) (D:ZAp z TI TO i1 i2 f1 f2) (N1:∀ A:Around,A.handled=none->Nx prog w A f1 i1 s1 xs) (N2:∀ A:Around,A.handled=none->Nx prog w A f2 i2 s2 ys)
  (hz:IsZip s.heap z TI TO .none) (hTI:IsPair s.heap TI (.ref i1) (.ref i2)) (hTO:IsPair s.heap TO a b)
  (h1:s1 k1 s.heap) (h2:s2 k2 s.heap) (hend:xs[k1]?=none\/ys[k2]?=none)
  (hQ:∀ h',(∀ c o,c≠z->c≠TO->c≠i1->c≠i2->s.heap.get? c=some o->h'.get? c=some o)->Q none { s with heap:=h' }):wpAny (model prog w) A (pyNext (.ref z)) Q E s:=by
 have hT:s.TypeIs (.ref z) "zip" := ⟨_,hz,rfl⟩
 unfold pyNext
 refine qa (wpAny_attempt (wpAny_callSpecial?_slot (name:=Str.ofString "__next__") hT F.slot_zip_next
  (yY F.slot_zip_next hT F.entry_zip_next (qhQ D (N1 _ hh) (N2 _ hh) hz hTI hTO h1 h2 hend fun h' e hk he=>?_) (F.args_zip_next_1 _))))
 obtain ⟨o,ho,hc⟩:=he
 refine qa (wpAny_isInstance (T := "StopIteration") (b:=true) ⟨o,ho,hc⟩ isSubtype_stop ?_)
 exact qd (hQ _ hk)
end
abbrev zpA (h:Heap) (n:String) (l1:Addr):Heap:=h.push { cls:=.type n,data:=.fields #[.ref l1,.int 0 0] }
abbrev zpB (h:Heap) (n:String) (l1 l2:Addr):Heap:=(zpA h n l1).push { cls:=.type n,data:=.fields #[.ref l2,.int 0 0] }
abbrev zpC (h:Heap) (n:String) (l1 l2:Addr):Heap:=(zpB h n l1 l2).push { cls:=.type "tuple",data:=.seq #[.ref h.objs.size,.ref (zpA h n l1).objs.size] }
abbrev zpD (h:Heap) (n:String) (l1 l2:Addr):Heap:=(zpC h n l1 l2).push { cls:=.type "tuple",data:=.seq #[.none,.none] }
abbrev zpE (h:Heap) (n:String) (l1 l2:Addr):Heap:=(zpD h n l1 l2).push { cls:=.type "zip",data:=.fields #[.none,.bool false,.bool false,.ref (zpB h n l1 l2).objs.size,.ref (zpC h n l1 l2).objs.size] }
theorem ZV (l1 l2:Addr) (xs ys:Array Value) :
  Meets (Builtin.«zip.__new__» ⟨[.type "zip",.ref l1,.ref l2],[]⟩) (fun _ R s=>s.heap.IsTuple l1 xs/\s.heap.IsTuple l2 ys ∧
   R (.ok (.ret (.ref (zpD s.heap "tuple_iterator" l1 l2).objs.size))) { s with heap:=zpE s.heap "tuple_iterator" l1 l2 }) :=
 .of_wp fun prog w A R s h=>by
  obtain ⟨hp,g,d,tk,os⟩:=s;obtain ⟨hl1,hl2,h⟩:=h
  have hsub:=sub_zip
  have hL1:Heap.IsTuple (Shared.heap ⟨hp,g,d,tk,os⟩) l1 xs:=hl1
  have hL2:Heap.IsTuple (Shared.heap ⟨hp.push { cls:=.type "tuple_iterator",data:=.fields #[.ref l1,.int 0 0] },g,d,tk,os⟩) l2 ys:=Heap.IsTuple.push hl2 _
  wp_walk using wpAny_pyIter_tuple hL1,wpAny_pyIter_tuple hL2
  exact ⟨_,rfl,h⟩
section
variable {prog:Program}{w:World}{A:Around}{E:Value->Shared->Prop}{s:Shared}
theorem qdX {l1 l2:Addr}{xs ys:Array Value}{Q:Value->Shared->Prop}(hl1:s.heap.IsTuple l1 xs) (hl2:s.heap.IsTuple l2 ys)
  (h:∀ h',IsZip h' (s.heap.objs.size+4) (s.heap.objs.size+2) (s.heap.objs.size+3) .none->IsPair h' (s.heap.objs.size+2) (.ref s.heap.objs.size) (.ref (s.heap.objs.size+1)) →
   IsPair h' (s.heap.objs.size+3) .none .none->h'.IsTupleIter s.heap.objs.size l1 0->h'.IsTupleIter (s.heap.objs.size+1) l2 0->h'.objs.size=s.heap.objs.size+5 →
   (∀ c o,s.heap.get? c=some o->h'.get? c=some o)->Q (.ref (s.heap.objs.size+4)) { s with heap:=h' }) :
  wpAny (model prog w) A (call (.type "zip") [.ref l1,.ref l2]) Q E s:=by
 refine callType_new F.called_zip (by decide) (F.typeCall_zip_2 _ _) (F.newCall_zip_2 _ _) (fun obj=>F.args_object_init_3 obj _ _) F.entry_zip_new
  (ZV l1 l2 xs ys) ⟨hl1,hl2,?_⟩
 have z1:(zpA s.heap "tuple_iterator" l1).objs.size=s.heap.objs.size+1:=yr ..
 have z2:(zpB s.heap "tuple_iterator" l1 l2).objs.size=s.heap.objs.size+2:=by rw [yr,z1]
 have z3:(zpC s.heap "tuple_iterator" l1 l2).objs.size=s.heap.objs.size+3:=by rw [yr,z2]
 have z4:(zpD s.heap "tuple_iterator" l1 l2).objs.size=s.heap.objs.size+4:=by rw [yr,z3]
 have z5:(zpE s.heap "tuple_iterator" l1 l2).objs.size=s.heap.objs.size+5:=by rw [yr,z4]
 have g5:(zpE s.heap "tuple_iterator" l1 l2).get? (zpD s.heap "tuple_iterator" l1 l2).objs.size=some _:=qr _ rfl
 have g4:(zpE s.heap "tuple_iterator" l1 l2).get? (zpC s.heap "tuple_iterator" l1 l2).objs.size=some _:=qb _ (qr _ rfl)
 have g3:(zpE s.heap "tuple_iterator" l1 l2).get? (zpB s.heap "tuple_iterator" l1 l2).objs.size=some _:=qb _ (qb _ (qr _ rfl))
 have g2:(zpE s.heap "tuple_iterator" l1 l2).get? (zpA s.heap "tuple_iterator" l1).objs.size=some _:=qb _ (qb _ (qb _ (qr _ rfl)))
 have g1:(zpE s.heap "tuple_iterator" l1 l2).get? s.heap.objs.size=some _:=qb _ (qb _ (qb _ (qb _ (qr _ rfl))))
 show _/\_
 rw [z2,z3,z4] at g5
 rw [z1,z2] at g3
 rw [z3] at g4
 rw [z1] at g2
 rw [z4]
 exact ⟨⟨_,g5,rfl⟩,h _ g5 g3 g4 ⟨_,g1,rfl,rfl⟩ ⟨_,g2,rfl,rfl⟩ z5 fun c o x =>
  qb _ (qb _ (qb _ (qb _ (qb _ x))))⟩
end
end PySem
namespace L2
open PySem PySem.Spec PyProof.Rows
def Itz (K:W.Frag) (a b:Addr):It :=
 ⟨fun i H=>∃ xs ys x y,SqT K H a xs/\SqT K H b ys/\xs[i]?=some x/\ys[i]?=some y,
  fun i H v H'=>∃ t x y,H t=none/\v = .ref t/\H'=upd H t (.tup [x,y])/\(∀ xs,SqT K H a xs->xs[i]?=some x)/\∀ ys,SqT K H b ys->ys[i]?=some y,
  fun i H=>∃ xs ys,SqT K H a xs/\SqT K H b ys/\(xs.length<=i\/ys.length<=i)⟩
def zSt (a b z TI TO i1 i2:Addr) (i:Nat) (h:Heap):Prop :=
 IsZip h z TI TO .none/\IsPair h TI (.ref i1) (.ref i2)/\(∃ p q,IsPair h TO p q)/\h.IsTupleIter i1 a i/\h.IsTupleIter i2 b i
theorem qek {P:Program}{w:World}{K:W.Frag}{elts:List Expr}{x1} {pos:Pos}(a b z TI TO i1 i2:Addr) (D:ZAp z TI TO i1 i2 [i1,a] [i2,b]) (ha:a≠i1) (hb:b≠i2) :
  Turn P w K (.Tuple elts x1 pos) (Itz K a b) [z,TI,TO,i1,i2] z (zSt a b z TI TO i1 i2) where
 mem:=by simp
 obj:=fun i h ⟨hz,hI,⟨p,q,hO⟩,⟨o1,g1,_,d1⟩,⟨o2,g2,_,d2⟩⟩ c hc=>by
  simp only [List.mem_cons,List.mem_nil_iff,or_false] at hc
  rcases hc with rfl | rfl | rfl | rfl | rfl
  ·exact ⟨_,hz,fun v e=>by cases e⟩
  ·exact ⟨_,hI,fun v e=>by cases e⟩
  ·exact ⟨_,hO,fun v e=>by cases e⟩
  ·exact ⟨_,g1,fun v e=>by rw [d1] at e;cases e⟩
  ·exact ⟨_,g2,fun v e=>by rw [d2] at e;cases e⟩
 keep:=fun i h h' ⟨hz,hI,⟨p,q,hO⟩,h1,h2⟩ k=>⟨k _ (by simp) _ hz,k _ (by simp) _ hI,⟨p,q,k _ (by simp) _ hO⟩,h1.at fun o e=>k _ (by simp) o e,h2.at fun o e=>k _ (by simp) o e⟩
 item:=by
  intro X hP hw hK hc i pins s σ H E I hf st hg
  subst hP hw hK
  obtain ⟨hz,hI,⟨p,q,hO⟩,h1,h2⟩:=st
  obtain ⟨xs,ys,x,y,hq1,hq2,hx,hy⟩:=hg
  obtain ⟨is1,rv1,p1,_⟩:=I.tuple hq1
  obtain ⟨is2,rv2,p2,_⟩:=I.tuple hq2
  obtain ⟨u,hu,ru⟩:=rv1.get hx
  obtain ⟨v,hv,rw'⟩:=rv2.get hy
  have fr:H s.heap.objs.size=none:=I.hok.fresh (qj _)
  have hzs:z<s.heap.objs.size:=qh hz
  refine Yy (I.ok.hd hc) D (fun A hh=>qbc hh ha) (fun A hh=>qbc hh hb) hz hI hO ⟨h1,p1⟩ ⟨h2,p2⟩ (x:=u) (y:=v) (by simpa using hu) (by simpa using hv) fun h' hz' hO' t1 t2 ht hsz hk=>⟨_,rfl,wpAny_letOwnedTupleGo_zip hz' fun hA zA sA=>?_⟩
  have sA:Heap.SameBut z h' hA:=sA
  have keep:∀ c o,c∉[z,TI,TO,i1,i2]->s.heap.get? c=some o->hA.get? c=some o:=fun c o hc q=>by
   simp only [List.mem_cons,List.mem_nil_iff,or_false,not_or] at hc
   exact sA.extBut c o hc.1 (hk c o hc.1 hc.2.2.1 hc.2.2.2.1 hc.2.2.2.2 q)
  have htA:hA.get? s.heap.objs.size=some { cls:=.type "tuple",data:=.seq #[u,v] }:=(sA.2 _ (Nat.ne_of_gt hzs)).trans ht
  have I2:Inv X pins σ (upd H s.heap.objs.size (.tup [x,y])) { s with heap:=hA,toks:=s.toks }:=I.turnedL hf keep (qj _) ⟨sz2,[u,v],.cons ru (.cons rw' .nil),⟨_,htA,rfl,_,rfl⟩⟩
  have hlt:∀ c∈[z,TI,TO,i1,i2],c≠s.heap.objs.size:=fun c hc=>by
   simp only [List.mem_cons,List.mem_nil_iff,or_false] at hc
   obtain ⟨o1,g1,_⟩:=h1
   obtain ⟨o2,g2,_⟩:=h2
   rcases hc with rfl | rfl | rfl | rfl | rfl
   ·exact qk hzs
   ·exact qk (qh hI)
   ·exact qk (qh hO)
   ·exact qk (qh g1)
   ·exact qk (qh g2)
  have i1z:i1≠z:=q9 (l:=[i1,a]) (by simp) D.z1
  have i2z:i2≠z:=q9 (l:=[i2,b]) (by simp) D.z2
  refine ⟨.ref s.heap.objs.size,_,I2,rfl,⟨_,x,y,fr,rfl,rfl,fun zs hz=>by rw [I.tuple_inj hz hq1];exact hx,fun zs hz=>by rw [I.tuple_inj hz hq2];exact hy⟩,⟨zA,?_,⟨u,v,?_⟩,?_,?_⟩,fun c hc=>?_⟩
  ·exact sA.extBut _ _ D.TIz (hk _ _ D.TIz D.TITO D.t1 D.t2 hI)
  ·exact sA.extBut _ _ D.TOz hO'
  ·exact t1.1.extBut sA.extBut i1z
  ·exact t2.1.extBut sA.extBut i2z
  ·rw [qP (hlt c hc)];exact (hf c hc).1
 done:=by
  intro X hP hw hK hc i pins s σ H E I hf st hg
  subst hP hw hK
  obtain ⟨hz,hI,⟨p,q,hO⟩,h1,h2⟩:=st
  obtain ⟨xs,ys,hq1,hq2,hx⟩:=hg
  obtain ⟨is1,rv1,p1,_⟩:=I.tuple hq1
  obtain ⟨is2,rv2,p2,_⟩:=I.tuple hq2
  have hl1:=rv1.length
  have hl2:=rv2.length
  refine Y8 (I.ok.hd hc) D (fun A hh=>qbc hh ha) (fun A hh=>qbc hh hb) hz hI hO ⟨h1,p1⟩ ⟨h2,p2⟩ (by
   rcases hx with e | e
   ·left;simp;omega
   ·right;simp;omega) fun h' k=>⟨rfl,?_⟩
  exact I.turnedF (t':=s.toks) hf fun c o hb q=>by
   simp only [List.mem_cons,List.mem_nil_iff,or_false,not_or] at hb
   exact k c o hb.1 hb.2.2.1 hb.2.2.2.1 hb.2.2.2.2 q
 self:=fun _ _ _ _ _ st h=>wpAny_pyIter_zip st.1 h
theorem qfi:bootBuiltins "zip" = some (.type "zip"):=by decide +kernel
def iZip (K:W.Frag) (ta:TA):TI:=fun σ H R=>ta σ H fun vs H1=>∃ a b,vs=[.ref a,.ref b]/\(∃ xs,SqT K H1 a xs)/\(∃ ys,SqT K H1 b ys)/\R (Itz K a b) H1
section
variable {X:Cx}{K:W.Frag}
theorem zap {n a b:Addr}(ha:a<n) (hb:b<n):ZAp (n+4) (n+2) (n+3) n (n+1) [n,a] [n+1,b]:=by
 have q1:∀ k:Nat,a≠n+k:=fun k=>qk (qy ha (Nat.le_add_right _ _))
 have q2:∀ k:Nat,b≠n+k:=fun k=>qk (qy hb (Nat.le_add_right _ _))
 have r:∀ i j:Nat,i≠j->n+i≠n+j:=fun i j h e=>h (Nat.add_left_cancel e)
 have r0:∀ j:Nat,j≠0->n≠n+j:=fun j h e=>h (Nat.left_eq_add.mp e)
 refine ⟨r _ _ (by decide),r _ _ (by decide),r _ _ (by decide),?_,?_,?_,?_,(r0 2 (by decide)).symm,r 2 1 (by decide),?_,?_⟩ <;> simp only [List.mem_cons,List.mem_nil_iff,or_false,not_or]
 ·exact ⟨(r0 4 (by decide)).symm,(q1 4).symm⟩
 ·exact ⟨r 4 1 (by decide),(q2 4).symm⟩
 ·exact ⟨(r0 3 (by decide)).symm,(q1 3).symm⟩
 ·exact ⟨r 3 1 (by decide),(q2 3).symm⟩
 ·exact ⟨r0 1 (by decide),(qk hb).symm⟩
 ·exact ⟨(r0 1 (by decide)).symm,(q1 1).symm⟩
theorem qiC {l m:Expr}{ta:TA}{elts:List Expr}{x1} {tpos p pos:Pos}(hg:Gl X "zip") (hm:X.mg "zip" = none) (ha:PA X [l,m] ta) (hs:starEach [l,m] X.env=[(false,eval l X.env),(false,eval m X.env)]:=by rfl) (hs2:starEach [m] X.env=[(false,eval m X.env)]:=by rfl) :
  PI X (.Tuple elts x1 tpos) (.Call (.Name "zip" p) [l,m] [] pos) (iZip X.K ta):=by
 intro pins s σ H R I h
 refine Call_ (YN I hg hm qfi (PyProof.Rows.callWith_type1 (thn (ha pos pins s σ H _ I h) fun us s1 ⟨vs,H1,I1,r1,q1⟩=>?_) (by rw [hs,hs2]) (by rw [hs2];rfl)))
 obtain ⟨a,b,e,⟨xs,hq1⟩,⟨ys,hq2⟩,q⟩:=q1
 subst e
 obtain ⟨u,v,rfl,rx,ry⟩:=qcl r1
 cases rx
 cases ry
 obtain ⟨is1,rv1,p1,_⟩:=I1.tuple hq1
 obtain ⟨is2,rv2,p2,_⟩:=I1.tuple hq2
 have la:a<s1.heap.objs.size:=by obtain ⟨o,ho,_⟩:=p1;exact qh ho
 have lb:b<s1.heap.objs.size:=by obtain ⟨o,ho,_⟩:=p2;exact qh ho
 refine qdX p1 p2 fun h' hz hI hO h1 h2 hsz hk=>?_
 have I2:Inv X pins σ H1 { s1 with heap:=h' }:=I1.kept (t':=s1.toks) hk
 refine wpAny_pyIter_zip hz ?_
 refine ⟨s1.heap.objs.size+4,[s1.heap.objs.size+4,s1.heap.objs.size+2,s1.heap.objs.size+3,s1.heap.objs.size,s1.heap.objs.size+1],_,_,H1,rfl,I2,qek a b _ _ _ _ _ (zap la lb) (qk la) (qk (Nat.lt_succ_of_lt lb)),⟨hz,hI,⟨_,_,hO⟩,h1,h2⟩,fun c hc=>?_,q⟩
 have hc':s1.heap.objs.size<=c:=by
  simp only [List.mem_cons,List.mem_nil_iff,or_false] at hc
  rcases hc with rfl | rfl | rfl | rfl | rfl
  ·exact Nat.le_add_right _ _
  ·exact Nat.le_add_right _ _
  ·exact Nat.le_add_right _ _
  ·exact qj _
  ·exact Nat.le_add_right _ _
 exact I1.fpOk hc' (I1.hok.fresh hc')
def itZ (ds es:List PyData):Itd:=⟨min ds.length es.length,fun i=>.d (.tuple [ds.getD i .none,es.getD i .none]),fun _=>True⟩
def diZ (ta:TAd):TId:=fun ρ μ Q=>ta ρ μ fun es μ1=>match es with
 | [.d (.tuple ds),.d (.tuple es)]=>Q (itZ ds es) μ1
 | _=>False
theorem qdL {l m:Expr}{ta:TAd}{elts:List Expr}{x1} {tpos p pos:Pos}(hg:Gl X "zip") (hm:X.mg "zip" = none) (ha:DA K X [l,m] ta) (hK:X.K=K:=by rfl) (hs:starEach [l,m] X.env=[(false,eval l X.env),(false,eval m X.env)]:=by rfl) (hs2:starEach [m] X.env=[(false,eval m X.env)]:=by rfl) :
  DI K X (.Tuple elts x1 tpos) (.Call (.Name "zip" p) [l,m] [] pos) (diZ ta):=by
 subst hK
 refine PI.mono (qiC hg hm ha hs hs2) fun σ H R hq9=>?_
 obtain ⟨ρ,μ,Q0,hS,hM,h,cl⟩:=hq9
 refine ⟨ρ,μ,_,hS,hM,h,fun es μ1 vs H1 q M1 s1 i1=>?_⟩
 split at q
 ·rename_i ds es
  obtain ⟨v,v',rfl,g1,g2⟩:=qaw i1
  cases g1 with
  | @tup p xs _ h1 h2 =>
  cases g2 with
  | @tup p' ys _ h1' h2' =>
   refine ⟨p,p',rfl,⟨xs,h1.up⟩,⟨ys,h1'.up⟩,cl _ μ1 _ H1 q M1 s1 fun μ' H' M' s' hok i=>?_⟩
   have h3:=(SqT.same s' h1).up
   have h4:=IsAll.same s' h2
   have hl:=h4.len
   have h3':=(SqT.same s' h1').up
   have h4':=IsAll.same s' h2'
   have hl':=h4'.len
   refine ⟨fun hi=>?_,fun hi=>⟨xs,ys,h3,h3',?_⟩⟩
   ·have hi:i<min ds.length es.length:=hi
    have hi1:i<xs.length:=by omega
    have hi2:i<ys.length:=by omega
    refine ⟨⟨xs,ys,xs[i],ys[i],h3,h3',by simp,by simp⟩,?_⟩
    rintro x H2 ⟨t,y,y',ht,rfl,rfl,hx,hy⟩
    obtain ⟨M2,s2,hn⟩:=M'.laid (o:=.tup [y,y']) ht
    obtain ⟨d,e1,e2⟩:=h4.get (hx xs h3)
    obtain ⟨d',e1',e2'⟩:=h4'.get (hy ys h3')
    refine ⟨M2,s2,?_⟩
    show Is X.K (mask μ' (upd H' t (.tup [y,y']))) (.ref t) (.tuple [ds.getD i .none,es.getD i .none])
    rw [yF e1,yF e1']
    exact .tup (SqT.of (by rw [yc hn];exact qV)) (.cons (Is.same s2 e2) (.cons (Is.same s2 e2') .nil))
   ·have hi:min ds.length es.length<=i:=hi
    omega
 ·exact q.elim
def zipD (ds es:List PyData):List PyData:=List.zipWith (fun a b=>.tuple [a,b]) ds es
theorem Src.z {ds es:List PyData}{μ:Mu}:Src (itZ ds es) (zipD ds es) μ:=by
 refine ⟨by simp [zipD,itZ],fun i x q=>?_,trivial⟩
 unfold zipD at q
 rw [List.getElem?_zipWith] at q
 show En.d (.tuple [ds.getD i .none,es.getD i .none])=_
 cases e1:ds[i]? with
 | none=>rw [e1] at q;simp at q
 | some a =>
  cases e2:es[i]? with
  | none=>rw [e1,e2] at q;simp at q
  | some b =>
   rw [e1,e2] at q
   rw [yF e1,yF e2]
   exact congrArg En.d (by simpa using q)
end
theorem YO:∀ {ns:List Int}{its:List Value},yo (ns.map V.int) its->∃ xs:List (Int×Tok),its=xs.map (fun p=>.int p.1 p.2)/\xs.map Prod.fst=ns
 | [],_,.nil=>⟨[],rfl,rfl⟩
 | n::ns,_,.cons r t=>by
  obtain ⟨u,rfl⟩:=r
  obtain ⟨xs,rfl,e⟩:=YO t
  exact ⟨(n,u)::xs,rfl,by simp [e]⟩
section
variable {X:Cx}{K:W.Frag}
theorem qd0 (hc:X.calm=true):yz X (.builtin "max") (fun xs H Q=>∃ p ns,xs=[.ref p]/\SqL X.K H p (ns.map V.int)/\ns≠[]/\∀ m:Int,m∈ns->(∀ a∈ns,a<=m)->Q (.int m) H):=by
 intro pins s σ H xs us Q I r h
 obtain ⟨p,ns,rfl,hq,hne,q⟩:=h
 obtain ⟨u,rfl,rx⟩:=J1 r
 cases rx
 obtain ⟨its,rv,pl,_⟩:=I.list hq
 obtain ⟨ys,rfl,e⟩:=YO rv
 have hl:s.heap.IsList p (intItems ys.toArray):=by
  have:=pl.isList
  simpa [intItems] using this
 have hn:0<ys.length:=by
  have:=List.length_pos_iff.mpr hne
  rw [<- e,List.length_map] at this
  exact this
 refine max_intList (I.ok.hd hc) hl (by simpa using hn) fun v h' tk hv hk=>?_
 obtain ⟨t,rfl⟩:=intItems_at hv
 obtain ⟨h1,h2⟩:=argBest_gt (numAt ys.toArray) (ys.toArray.size - 1)
 have na:∀ j,j<ys.length->∃ z,ns[j]?=some z/\numAt ys.toArray j=z:=fun j hj=>by
  refine ⟨ys[j].1,by rw [<- e];simp [hj],by simp [numAt,hj]⟩
 refine ⟨.int _,H,I.kept hk,⟨_,rfl⟩,q _ ?_ fun a ha=>?_⟩
 ·have h0:argBest (fun i j=>decide (numAt ys.toArray i > numAt ys.toArray j)) (ys.toArray.size - 1)<ys.length:=by
   simp only [List.size_toArray] at h1 ⊢;omega
  obtain ⟨z,e1,e2⟩:=na _ h0
  rw [e2]
  exact List.mem_of_getElem? e1
 ·obtain ⟨j,hj⟩:=List.mem_iff_getElem?.mp ha
  have hj2:j<ys.length:=by
   have:=(qo.mp hj).1
   rwa [<- e,List.length_map] at this
  obtain ⟨z,e1,e2⟩:=na j hj2
  rw [hj] at e1
  cases e1
  rw [<- e2]
  exact h2 j (by simp only [List.size_toArray];omega)
def qfG:RAd:=fun es μ Q=>match es with
 | [e]=>∃ ns:List Int,LstOf μ e (ns.map PyData.int)/\ns≠[]/\∀ m:Int,m∈ns->(∀ a∈ns,a<=m)->Q (.d (.int m)) μ
 | _=>False
theorem qho (hc:X.calm=true) (hK:X.K=K:=by rfl):yz X (.builtin "max") (upC K qfG):=by
 subst hK
 refine (qd0 hc).mono fun xs H Q h=>?_
 obtain ⟨μ,es,Q0,M,hp,q,cl⟩:=h
 unfold qfG at q
 split at q
 ·obtain ⟨v,rfl,i1⟩:=Jo hp
  obtain ⟨ns,h1,hne,q⟩:=q
  obtain ⟨p,ys,rfl,h2,h3⟩:=h1.get M i1
  rw [h3.ints_of] at h2
  exact ⟨p,ns,rfl,h2,hne,fun m h4 h5=>cl _ μ _ _ (q m h4 h5) M (qU.refl _) (.int _)⟩
 ·exact q.elim
def rdLtT:R2d:=fun x y μ Q=>∃ ns ms:List Int,x = .d (.tuple (ns.map PyData.int))/\y = .d (.tuple (ms.map PyData.int))/\Q (.d (.bool (HT.lexLt ns ms))) μ
theorem qjk (hu:X.A.units<cLine) (hK:X.K=K:=by rfl):OpR X (compareOp .Lt) (upR K rdLtT):=by
 subst hK
 refine (qiO hu).mono fun x y H Q h=>?_
 obtain ⟨μ,e,e',Q0,M,i1,i2,q,cl⟩:=h
 obtain ⟨ns,ms,rfl,rfl,q⟩:=q
 cases i1 with
 | @tup p xs _ h1 h2 =>
 cases i2 with
 | @tup p' ys _ h1' h2' =>
  have a1:=h1.up
  have a2:=h1'.up
  rw [h2.ints_of] at a1
  rw [h2'.ints_of] at a2
  exact ⟨p,p',ns,ms,rfl,rfl,a1,a2,cl _ μ _ H q M (qU.refl _) (.bl _)⟩
end
section
variable {X:Cx}{K:W.Frag}{pos:Pos}
def tPar3 (i j k:Nat) (ta:TA):TS:=fun D σ H=>ta σ H fun vs H1=>∃ u v w,vs=[u,v,w]/\D.nx (((σ.set k (some w)).set j (some v)).set i (some u)) H1
theorem vals3 {x y z:V}{us:List Value}(r:yo [x,y,z] us):∃ u v w,us=[u,v,w]/\jg x u/\jg y v/\jg z w:=by
 cases r with
 | cons p q =>
  obtain ⟨v,w,rfl,h1,h2⟩:=qcl q
  exact ⟨_,_,_,rfl,p,h1,h2⟩
theorem qgy {i j k:Nat}{x y z:Str}{a b c:Expr}{ta:TA}{px py pz pt:Pos}{kt k2 pt2} (hc:X.calm=true) (hN:X.N.Nodup) (hi:X.N[i]?=some x) (hj:X.N[j]?=some y) (hk:X.N[k]?=some z)
  (hx:X.env.scope.names.lookup x=some .local) (hy:X.env.scope.names.lookup y=some .local) (hz:X.env.scope.names.lookup z=some .local) (ha:PA X [a,b,c] ta)
  (hw:swappedStores [.Tuple [.Name x px,.Name y py,.Name z pz] kt pt] (.Tuple [a,b,c] k2 pt2) X.env=pure (some [x,y,z]))
  (hs:swapsWithSole [.Tuple [.Name x px,.Name y py,.Name z pz] kt pt] (.Tuple [a,b,c] k2 pt2) pos.line X.env=pure false:=by rfl) :
  PS X (.Assign [.Tuple [.Name x px,.Name y py,.Name z pz] kt pt] (.Tuple [a,b,c] k2 pt2) pos) (tPar3 i j k ta):=by
 intro pins s σ H D I h
 rw [exec_Assign_arm]
 refine qa (wpAny_standAt ?_)
 rw [hs]
 refine qa (qd ?_)
 rw [if_neg (by decide)]
 refine qa (Tuple_ (thn (ha _ pins s σ H _ I h) fun us s1 ⟨vs,H1,I1,r1,q1⟩=>?_))
 obtain ⟨u,v,w,e1,q1⟩:=q1
 subst e1
 obtain ⟨u1,u2,u3,rfl,ru,rv,rw'⟩:=vals3 r1
 refine qT ?_ (by show 3<=sizeLine;decide)
 have I2:Inv X pins σ H1 { s1 with heap:=s1.heap.push { cls:=.type "tuple",data:=.seq [u1,u2,u3].toArray } }:=I1.kept (t':=s1.toks) fun b o e=>qb _ e
 rw [hw]
 refine qa (qd ?_)
 show wpAny (model X.prog X.w) X.A (do rule "assign.swapped-stores";let items <- unpackItems (.ref s1.heap.objs.size) 3 none;assignInOrder [fun v=>bindName X.env z v,fun v=>bindName X.env y v,fun v=>bindName X.env x v] items.reverse;pure Flow.next) _ _ _
 refine qa (jD (qa (unpackItems_tuple (items:=#[u1,u2,u3]) (I.ok.hd hc) (IsTup.new s1.heap _) fun h' hx'=>?_)))
 have I3:=I2.kept (h':=h') (t':=s1.toks) fun b o e=>hx' b o (qk (qh e)) e
 show wpAny _ _ (assignInOrder [fun v=>bindName X.env z v,fun v=>bindName X.env y v,fun v=>bindName X.env x v] [u3,u2,u1] >>= fun _=>pure Flow.next) _ _ _
 refine qa (assignInOrder_cons (wpAny_bindName (jL I3 hN hk (.inl hz) rw' (fun s2 I4=>?_) (.inr hz))))
 refine assignInOrder_cons (wpAny_bindName (jL I4 hN hj (.inl hy) rv (fun s3 I5=>?_) (.inr hy)))
 refine assignInOrder_cons (wpAny_bindName (jL I5 hN hi (.inl hx) ru (fun s4 I6=>assignInOrder_nil (qd ?_)) (.inr hx)))
 exact ⟨_,H1,I6,q1⟩
def dPar3 (i j k:Nat) (ta:TAd):TSd:=fun D ρ μ=>ta ρ μ fun es μ1=>match es with
 | [a,b,c]=>D.nx (((ρ.set k (some c)).set j (some b)).set i (some a)) μ1
 | _=>False
theorem qdH {i j k:Nat}{x y z:Str}{a b c:Expr}{ta:TAd}{px py pz pt:Pos}{kt k2 pt2} (hc:X.calm=true) (hN:X.N.Nodup) (hi:X.N[i]?=some x) (hj:X.N[j]?=some y) (hk:X.N[k]?=some z)
  (hx:X.env.scope.names.lookup x=some .local) (hy:X.env.scope.names.lookup y=some .local) (hz:X.env.scope.names.lookup z=some .local) (ha:DA K X [a,b,c] ta)
  (hw:swappedStores [.Tuple [.Name x px,.Name y py,.Name z pz] kt pt] (.Tuple [a,b,c] k2 pt2) X.env=pure (some [x,y,z]))
  (hs:swapsWithSole [.Tuple [.Name x px,.Name y py,.Name z pz] kt pt] (.Tuple [a,b,c] k2 pt2) pos.line X.env=pure false:=by rfl) :
  DS K X (.Assign [.Tuple [.Name x px,.Name y py,.Name z pz] kt pt] (.Tuple [a,b,c] k2 pt2) pos) (dPar3 i j k ta):=PS.mono (qgy hc hN hi hj hk hx hy hz ha hw hs) fun D σ H ⟨ρ,μ,D0,hS,hM,h,cl⟩ =>
 ⟨ρ,μ,_,hS,hM,h,fun es μ1 vs H1 q M1 s1 i1=>by
  split at q
  ·obtain ⟨u,v,w,rfl,h1,h2,h3⟩:=pair3 i1
   exact ⟨_,_,_,rfl,cl.nx _ μ1 _ H1 q ((((hS.same s1).set h3).set h2).set h1) M1 s1⟩
  ·exact q.elim⟩
end
section
variable {X:Cx}{K:W.Frag}{pins:List (Addr×Obj)}{σ:List (Option V)}{H:Hp}{s:Shared}
end
section
variable {X:Cx}{K:W.Frag}{pos:Pos}
theorem IsAll.set {H:Hp}{v:V}{d:PyData}(h:Is K H v d):∀ {vs:List V}{ds:List PyData}(j:Nat),IsAll K H vs ds->IsAll K H (vs.set j v) (ds.set j d)
 | _,_,_,.nil=>.nil
 | _,_,0,.cons _ r=>.cons h r
 | _,_,j+1,.cons i r=>.cons i (IsAll.set h j r)
end
end L2
namespace L2
open PySem PySem.Spec PyProof.Rows PySem.W
structure Ord (f:Nat->Nat->Bool):Prop where
 asym:∀ a b,f a b=true->f b a=false
 neg:∀ a b c,f a c=true->f a b=true\/f b c=true
abbrev gD (p:Array Nat) (i:Nat):Nat:=p.getD i 0
theorem qjd {p q:Array Nat}{i j:Nat}(h:p[i]?=q[j]?):gD p i=gD q j:=by
 simp only [gD,Array.getD_eq_getD_getElem?,h]
section
variable {f:Nat->Nat->Bool}
theorem Ord.irr (O:Ord f) (a:Nat):f a a=false:=by
 cases h:f a a with
 | false=>rfl
 | true=>rw [O.asym a a h] at h;cases h
theorem Ord.le (O:Ord f) {a b c:Nat}(h1:f b a=false) (h2:f c b=false):f c a=false:=by
 cases h:f c a with
 | false=>rfl
 | true=>rcases O.neg _ b _ h with z | z <;> simp_all
theorem Ord.ltl (O:Ord f) {a b c:Nat}(h1:f a b=true) (h2:f c b=false):f a c=true:=by
 rcases O.neg _ c _ h1 with z | z
 ·exact z
 ·rw [h2] at z;cases z
theorem Ord.lel (O:Ord f) {a b c:Nat}(h1:f b a=false) (h2:f b c=true):f a c=true:=by
 rcases O.neg _ a _ h2 with z | z
 ·rw [h1] at z;cases z
 ·exact z
def qb4 (f:Nat->Nat->Bool) (p:Array Nat) (k:Nat):Prop:=∀ i j,i<=j->j<k->f (gD p j) (gD p i)=false
def qhH (f:Nat->Nat->Bool) (p:Array Nat) (k:Nat):Prop:=∀ i j,i<=j->j<k->f (gD p i) (gD p j)=false
def Eqv (f:Nat->Nat->Bool) (a b:Nat):Prop:=f a b=false/\f b a=false
theorem Eqv.refl (O:Ord f) (a:Nat):Eqv f a a:=⟨O.irr a,O.irr a⟩
theorem Eqv.symm {a b:Nat}(h:Eqv f a b):Eqv f b a:=⟨h.2,h.1⟩
theorem Eqv.trans (O:Ord f) {a b c:Nat}(h:Eqv f a b) (g:Eqv f b c):Eqv f a c:=⟨O.le g.1 h.1,O.le h.2 g.2⟩
theorem qb4.one (O:Ord f) (p:Array Nat):qb4 f p 1:=fun i j h1 h2=>by
 have:i=j:=by omega
 subst this;exact O.irr _
theorem qb4.succ (O:Ord f) {p:Array Nat}{k:Nat}(h0:1<=k) (h:qb4 f p k) (g:f (gD p k) (gD p (k - 1))=false):qb4 f p (k+1):=fun i j hij hj=>by
 by_cases e:j=k
 ·subst e
  by_cases e2:i=j
  ·subst e2;exact O.irr _
  ·exact O.le (h i (j - 1) (by omega) (by omega)) g
 ·exact h i j hij (by omega)
theorem qhH.succ (O:Ord f) {p:Array Nat}{k:Nat}(h0:1<=k) (h:qhH f p k) (g:f (gD p (k - 1)) (gD p k)=false):qhH f p (k+1):=fun i j hij hj=>by
 by_cases e:j=k
 ·subst e
  by_cases e2:i=j
  ·subst e2;exact O.irr _
  ·exact O.le g (h i (j - 1) (by omega) (by omega))
 ·exact h i j hij (by omega)
def Arr (n:Nat) (p:Array Nat):Prop:=p.Perm (List.range n).toArray
theorem Arr.size {n:Nat}{p:Array Nat}(h:Arr n p):p.size=n:=by rw [h.size_eq];simp
theorem Arr.lt {n:Nat}{p:Array Nat}(h:Arr n p) {i:Nat}(hi:i<n):gD p i<n:=by
 have hs:=h.size
 have hi':i<p.size:=by omega
 have e:gD p i=p[i]:=by simp [gD,Array.getD,hi']
 rw [e]
 have:p[i]∈p.toList:=by simp
 have:=(yv.mp h).mem_iff.mp this
 simpa using this
theorem qfR {p:Array Nat}{i j:Nat}(hj:j<=p.size) (k:Nat):gD (kas_rev p i j) k=if i<=k/\k<j then gD p (i+j - 1 - k) else gD p k:=by
 have e:=getElem?_mirror_all (i:=i) hj k
 unfold kas_rev
 by_cases h1:i<=k/\k<j
 ·rw [if_pos h1] at e ⊢;exact qjd e
 ·rw [if_neg h1] at e ⊢;exact qjd e
theorem eqv_l (O:Ord f) {a b c:Nat}(h:Eqv f a b):f a c=f b c:=by
 cases h1:f b c with
 | true=>exact O.lel h.2 h1
 | false =>
  cases h2:f a c with
  | false=>rfl
  | true =>
   have:=O.lel h.1 h2
   rw [h1] at this;cases this
theorem eqv_r (O:Ord f) {a b c:Nat}(h:Eqv f a b):f c a=f c b:=by
 cases h1:f c b with
 | true=>exact O.ltl h1 h.1
 | false =>
  cases h2:f c a with
  | false=>rfl
  | true =>
   have:=O.ltl h2 h.2
   rw [h1] at this;cases this
theorem qhH.eqv (O:Ord f) {p q:Array Nat}{k:Nat}(h:qhH f p k) (e:∀ i,Eqv f (gD q i) (gD p i)):qhH f q k:=fun i j h1 h2=>by
 rw [eqv_l O (e i),eqv_r O (e j)];exact h i j h1 h2
theorem qb4.ofRev {p:Array Nat}{k:Nat}(hk:k<=p.size) (h:qhH f p k):qb4 f (kas_rev p 0 k) k:=fun i j h1 h2=>by
 rw [qfR hk,qfR hk,if_pos (by omega),if_pos (by omega)]
 exact h _ _ (by omega) (by omega)
section
variable {n:Nat}{cmp:Nat->Nat->(Bool->Shared->Prop)->Shared->Prop}{s:Shared}
end
end
end L2
namespace L2
open PySem PySem.Spec PyProof.Rows PySem.W
def qdh (fin:Bool):List Int->List Int->Bool
 | x::r,y::t=>if x=y then qdh fin r t else decide (x<y)
 | _,_=>fin
theorem qdg:∀ ns ms:List Int,qdh (decide (ns.length<ms.length)) ns ms=decide (ns<ms)
 | [],[]=>by simp [qdh]
 | [],_::_=>by simp [qdh]
 | _::_,[]=>by simp [qdh]
 | x::r,y::t=>by
  have ih:=qdg r t
  simp only [qdh,List.length_cons,Nat.add_lt_add_iff_right]
  by_cases e:x=y
  ·subst e
   rw [if_pos rfl,ih]
   simp [List.cons_lt_cons_iff]
  ·rw [if_neg e]
   simp [List.cons_lt_cons_iff,e]
theorem qbe {a b:List Int}(h:a<b):¬ b<a:=fun g=>List.lt_irrefl a (List.lt_trans h g)
theorem qdc (ks:Nat->List Int):Ord fun i j=>decide (ks i<ks j) where
 asym a b h:=yA (qbe (qv h))
 neg a b c h:=by
  have h:=qv h
  by_cases e:ks a<ks b
  ·exact .inl (qB e)
  ·exact .inr (qB (List.lt_of_le_of_lt (List.not_lt.mp e) h))
def je (h:Heap) (v:Value) (ks:List Int):Prop:=∃ b o xs n,v = .ref b/\h.get? b=some o/\o.cls = .type "tuple" /\ o.data = .seq xs n/\IntsAre xs.toList ks/\ks≠[]
theorem je.kept {h h':Heap}{v:Value}{ks:List Int}(k:∀ b o,h.get? b=some o->o.cls = .type "tuple" -> h'.get? b=some o) (t:je h v ks):je h' v ks:=by
 obtain ⟨b,o,xs,n,e,ho,hc,r⟩:=t
 exact ⟨b,o,xs,n,e,k b o ho hc,hc,r⟩
section
variable {prog:Program}{w:World}{A:Around}{E:Value->Shared->Prop}{s:Shared}
theorem qfO {fin:Bool}{Q:Bool->Shared->Prop}:∀ {xs ys:List Value}{ns ms:List Int}(i:Nat),IntsAre xs ns->IntsAre ys ms->Q (qdh fin ns ms) s->KatLex prog w A true fin Q (xs.zip ys) i s
 | _,_,_,_,i,.nil,_,q=>kat_nil (by simpa [qdh] using q)
 | _,_,_,_,i,.cons _ _ _,.nil,q=>kat_nil (by simpa [qdh] using q)
 | _,_,_,_,i,.cons x t hx,.cons y u hy,q=>by
  refine kat_cons (wpAny_eqBool_int ?_)
  by_cases e:x=y
  ·subst e
   rw [beq_self_eq_true]
   exact kat_yes (qfO (i+1) hx hy (by simpa [qdh] using q))
  ·have hb:(x == y)=false:=by simpa using e
   rw [hb]
   have q':Q (decide (x<y)) s:=by simpa [qdh,e] using q
   refine kat_no ?_
   cases i with
   | zero=>exact oneLt_int q'
   | succ i=>exact kat_one _ _ (lt_int q')
theorem lt_wp {v u:Value}{ns ms:List Int}{Q:Bool->Shared->Prop}(h1:je s.heap v ns) (h2:je s.heap u ms) (q:Q (decide (ns<ms)) s):wpAny (model prog w) A (keyLt' (tuples' true) v u) Q E s:=by
 obtain ⟨a,o,xs,n,rfl,ho,_,hd,hi,_⟩:=h1
 obtain ⟨b,o',ys,n',rfl,ho',_,hd',hi',_⟩:=h2
 refine kat_lt ho hd ho' hd' (qfO 0 hi hi' ?_)
 have e1:=IntsAre.length hi
 have e2:=IntsAre.length hi'
 simp only [Array.length_toList] at e1 e2
 rw [e1,e2,qdg]
 exact q
theorem Yh {h:Heap}:∀ {vs:List Value}{kss:List (List Int)},PySem.Paired (je h) vs kss->∃ fs:List Value,KatTups h vs fs/\fs.length=vs.length/\∀ v∈fs,∃ i t,v = .int i t
 | _,_,.nil=>⟨[],trivial,rfl,fun _ z=>nomatch z⟩
 | _,_,.cons ⟨a,o,xs,n,e,ho,hc,hd,hi,hn⟩ r=>by
  obtain ⟨fs,k,hl,hf⟩:=Yh r
  subst e
  obtain ⟨l⟩:=xs
  cases hi with
  | nil=>exact absurd rfl hn
  | cons i t hr =>
   refine ⟨.int i t::fs,KatTups.cons ho hc hd rfl k,by simp [hl],fun v hv=>?_⟩
   rcases List.mem_cons.mp hv with rfl | hv
   ·exact ⟨i,t,rfl⟩
   ·exact hf v hv
theorem qg0 {vs:List Value}{kss:List (List Int)}{Q:SortKind->Shared->Prop}(hT:PySem.Paired (je s.heap) vs kss) (h2:0<vs.length) (q:Q (tuples' true) s):wpAny (model prog w) A (keyKind' vs.toArray) Q E s:=by
 obtain ⟨fs,k,hl,hf⟩:=Yh hT
 refine kat_kind (T:=.type "int") k (by omega) (fun v hv=>?_) rfl q
 obtain ⟨i,t,rfl⟩:=hf v hv
 exact Looks.now
end
end L2
namespace L2
open PySem PySem.Spec PyProof.Rows PySem.W
structure OrdK (f:Keyed->Keyed->Bool):Prop where
 asym:∀ a b,f a b=true->f b a=false
 neg:∀ a b c,f a c=true->f a b=true\/f b c=true
section
variable {f:Keyed->Keyed->Bool}
theorem OrdK.irr (O:OrdK f) (a:Keyed):f a a=false:=by
 cases h:f a a with
 | false=>rfl
 | true=>rw [O.asym a a h] at h;cases h
theorem OrdK.le (O:OrdK f) {a b c:Keyed}(h1:f b a=false) (h2:f c b=false):f c a=false:=by
 cases h:f c a with
 | false=>rfl
 | true=>rcases O.neg _ b _ h with z | z <;> simp_all
theorem OrdK.ltl (O:OrdK f) {a b c:Keyed}(h1:f a b=true) (h2:f c b=false):f a c=true:=by
 rcases O.neg _ c _ h1 with z | z
 ·exact z
 ·rw [h2] at z;cases z
theorem OrdK.lel (O:OrdK f) {a b c:Keyed}(h1:f b a=false) (h2:f b c=true):f a c=true:=by
 rcases O.neg _ a _ h2 with z | z
 ·rw [h1] at z;cases z
 ·exact z
def SdK (f:Keyed->Keyed->Bool) (l:List Keyed):Prop:=l.Pairwise fun x y=>f y x=false
def Ask (prog:Program) (w:World) (A:Around) (E:Value->Shared->Prop) (s:Shared) (kd:SortKind) (D:Keyed->Prop) (f:Keyed->Keyed->Bool):Prop :=
 ∀ (x y:Keyed) (st:SortSt) (Q:Option Bool->SortSt->Prop),D x->D y->kindOf st=kd->Q (some (f x y)) st->wpS (model prog w) A E s (lt' x y) Q st
end
def y6:Bool->Keyed->Array Keyed->Nat->Nat->Nat->StateT SortSt Sem (Option Nat):=sortPriv% PySem.Builtin.gallop
def Jr (left:Bool) (key:Keyed) (arr:Array Keyed) (base i:Nat):StateT SortSt Sem (Option Bool):=do
  let x <- elem' arr (base+i)
  if left then lt' x key else return (<- lt' key x).map (!·)
theorem qbW (left:Bool) (key:Keyed) (arr:Array Keyed) (base n hint:Nat):y6 left key arr base n hint=(do
 let mut lastofs:=0
 let mut ofs:=1
 let mut lo:=0
 let mut hi:=0
 let some right <- Jr left key arr base hint | return none
 if right then
  let maxofs:=n - hint
  for _ in [0:n] do
   if ofs ≥ maxofs then break
   let some more <- Jr left key arr base (hint+ofs) | return none
   if !more then break
   lastofs:=ofs
   ofs:=2 * ofs+1
  lo:=hint+lastofs+1
  hi:=hint+min ofs maxofs
 else
  let maxofs:=hint+1
  for _ in [0:n] do
   if ofs ≥ maxofs then break
   let some found <- Jr left key arr base (hint - ofs) | return none
   if found then break
   lastofs:=ofs
   ofs:=2 * ofs+1
  lo:=hint+1 - min ofs maxofs
  hi:=hint - lastofs
 for _ in [0:n] do
  if lo ≥ hi then break
  let m:=lo+(hi - lo) / 2
  let some more <- Jr left key arr base m | return none
  if more then lo:=m+1 else hi:=m
 return some hi):=rfl
section
variable {prog:Program}{w:World}{A:Around}{E:Value->Shared->Prop}{s:Shared}{kd:SortKind}{D:Keyed->Prop}{f:Keyed->Keyed->Bool}
def byd (f:Keyed->Keyed->Bool) (left:Bool) (key x:Keyed):Bool:=if left then f x key else !f key x
theorem qci (hA:Ask prog w A E s kd D f) {left:Bool}{key x:Keyed}{arr:Array Keyed}{base i:Nat}{st:SortSt}{Q:Option Bool->SortSt->Prop}(hk:kindOf st=kd) (hx:arr[base+i]?=some x) (dk:D key) (dx:D x) (q:Q (some (byd f left key x)) st) :
  wpS (model prog w) A E s (Jr left key arr base i) Q st:=by
 unfold Jr
 rw [elem'_eq,hx]
 refine qi (ql ?_)
 cases left with
 | true=>exact hA _ _ _ _ dx dk hk q
 | false=>exact qi (hA _ _ _ _ dk dx hk (ql q))
theorem qch (hA:Ask prog w A E s kd D f) {left:Bool}{key:Keyed}{arr:Array Keyed}{base n hint:Nat}{st:SortSt}{Q:Option Nat->SortSt->Prop}(hk:kindOf st=kd) (xs:List Keyed)
  (hn:xs.length=n) (hx:∀ i (h:i<xs.length),arr[base+i]?=some xs[i]) (dk:D key) (dx:∀ x∈xs,D x) (hh:hint<n) (hm:∀ i j (hi:i<xs.length) (hj:j<xs.length),i<=j->byd f left key xs[j]=true->byd f left key xs[i]=true)
  (q:∀ k,k<=n->(∀ i (h:i<xs.length),i<k->byd f left key xs[i]=true)->(∀ i (h:i<xs.length),k<=i->byd f left key xs[i]=false)->Q (some k) st) :
  wpS (model prog w) A E s (y6 left key arr base n hint) Q st:=by
 have ask:∀ (i:Nat) (h:i<xs.length) (Q:Option Bool->SortSt->Prop),Q (some (byd f left key xs[i])) st->wpS (model prog w) A E s (Jr left key arr base i) Q st:=fun i h Q q=>qci hA hk (hx i h) dk (dx _ (qX h)) q
 generalize hp:(fun x=>byd f left key x)=p at *
 have hp':∀ x,byd f left key x=p x:=fun x=>by rw [<- hp]
 simp only [hp'] at hm q ask
 subst hn
 rw [qbW]
 dsimp only
 refine qi (ask hint hh _ ?_)
 dsimp only
 cases hc:p xs[hint] with
 | true =>
  simp only [if_true]
  refine qi (yR (qZ (I:=fun x c st'=>st'=st/\∃ l o,c=(none,l,o)/\l<o/\x+1<=o/\hint+l<xs.length/\(∀ h:hint+l<xs.length,p xs[hint+l]=true))
   (Q:=fun c st'=>st'=st/\∃ l o,c=(none,l,o)/\l<o/\hint+l<xs.length/\(∀ h:hint+l<xs.length,p xs[hint+l]=true)/\(xs.length<=hint+o\/∃ h:hint+o<xs.length,p xs[hint+o]=false)) ?step ?fin ⟨rfl,0,1,rfl,by omega,by omega,hh,fun _=>hc⟩) ?post)
  case fin =>
   rintro c st' ⟨rfl,l,o,rfl,a1,a2,a3,a4⟩
   exact ⟨rfl,l,o,rfl,a1,a3,a4,.inl (by omega)⟩
  case step =>
   rintro x c st' _ hx' ⟨rfl,l,o,rfl,a1,a2,a3,a4⟩
   dsimp only
   by_cases hge:o ≥ xs.length - hint
   ·rw [if_pos hge]
    exact ql ⟨rfl,l,o,rfl,a1,a3,a4,.inl (by omega)⟩
   ·rw [if_neg hge]
    have ho:hint+o<xs.length:=by omega
    refine qi (ask _ ho _ ?_)
    dsimp only
    cases hc2:p xs[hint+o] with
    | true =>
     simp only [Bool.not_true,Bool.false_eq_true,if_false]
     exact ql ⟨rfl,o,2 * o+1,rfl,by omega,by omega,ho,fun _=>hc2⟩
    | false =>
     simp only [Bool.not_false,if_true]
     exact ql ⟨rfl,l,o,rfl,a1,a3,a4,.inr ⟨ho,hc2⟩⟩
  case post =>
   rintro c st' ⟨rfl,l,o,rfl,a1,a3,a4,a5⟩
   dsimp only
   have h3:∀ i (h:i<xs.length),i<(hint+l+1)->p xs[i]=true:=fun i h hi=>by
    exact hm i (hint+l) h a3 (by omega) (a4 a3)
   have h4:∀ i (h:i<xs.length),(hint+min o (xs.length - hint))<=i->p xs[i]=false:=fun i h hi=>by
    rcases a5 with a5 | ⟨a5,a6⟩
    ·exact absurd h (by omega)
    ·cases hz:p xs[i] with
     | false=>rfl
     | true=>rw [hm (hint+o) i a5 h (by omega) hz] at a6;cases a6
   refine qi (yR (qZ (I:=fun x c sx=>sx=st'/\∃ l r,c=(none,l,r)/\l<=r/\r<=xs.length/\r - l<=xs.length - x/\(∀ i (h:i<xs.length),i<l->p xs[i]=true)/\(∀ i (h:i<xs.length),r<=i->p xs[i]=false))
    (Q:=fun c sx=>sx=st'/\∃ r,c=(none,r,r)/\r<=xs.length/\(∀ i (h:i<xs.length),i<r->p xs[i]=true)/\(∀ i (h:i<xs.length),r<=i->p xs[i]=false)) ?step0 ?fin0 ⟨rfl,(hint+l+1),(hint+min o (xs.length - hint)),rfl,by omega,by omega,by omega,h3,h4⟩) ?post0)
   case fin0 =>
    rintro c st' ⟨rfl,l,r,rfl,a1,a2,a3,a4,a5⟩
    have:l=r:=by omega
    subst this
    exact ⟨rfl,l,rfl,a2,a4,a5⟩
   case step0 =>
    rintro x c st' _ hx' ⟨rfl,l,r,rfl,a1,a2,a3,a4,a5⟩
    dsimp only
    by_cases hge:l ≥ r
    ·rw [if_pos hge]
     have:l=r:=by omega
     subst this
     exact ql ⟨rfl,l,rfl,a2,a4,a5⟩
    ·rw [if_neg hge]
     have hmid:l+(r - l) / 2<xs.length:=by omega
     refine qi (ask _ hmid _ ?_)
     dsimp only
     cases hc:p xs[l+(r - l) / 2] with
     | true =>
      simp only [if_true]
      refine ql ⟨rfl,_,_,rfl,by omega,by omega,by omega,fun i h hi=>?_,a5⟩
      exact hm i (l+(r - l) / 2) h hmid (by omega) hc
     | false =>
      simp only [Bool.false_eq_true,if_false]
      refine ql ⟨rfl,_,_,rfl,by omega,by omega,by omega,a4,fun i h hi=>?_⟩
      cases hz:p xs[i] with
      | false=>rfl
      | true=>rw [hm (l+(r - l) / 2) i hmid h hi hz] at hc;cases hc
   case post0 =>
    rintro c st' ⟨rfl,r,rfl,a2,a4,a5⟩
    exact ql (q r a2 a4 a5)
 | false =>
  simp only [Bool.false_eq_true,if_false]
  refine qi (yR (qZ (I:=fun x c st'=>st'=st/\∃ l o,c=(none,l,o)/\l<o/\x+1<=o/\l<=hint/\(∀ h:hint - l<xs.length,p xs[hint - l]=false))
   (Q:=fun c st'=>st'=st/\∃ l o,c=(none,l,o)/\l<o/\l<=hint/\(∀ h:hint - l<xs.length,p xs[hint - l]=false)/\(hint+1<=o\/(o<=hint/\∃ h:hint - o<xs.length,p xs[hint - o]=true))) ?step ?fin ⟨rfl,0,1,rfl,by omega,by omega,by omega,fun _=>hc⟩) ?post)
  case fin =>
   rintro c st' ⟨rfl,l,o,rfl,a1,a2,a3,a4⟩
   exact ⟨rfl,l,o,rfl,a1,a3,a4,.inl (by omega)⟩
  case step =>
   rintro x c st' _ hx' ⟨rfl,l,o,rfl,a1,a2,a3,a4⟩
   dsimp only
   by_cases hge:o ≥ hint+1
   ·rw [if_pos hge]
    exact ql ⟨rfl,l,o,rfl,a1,a3,a4,.inl (by omega)⟩
   ·rw [if_neg hge]
    have ho:hint - o<xs.length:=by omega
    refine qi (ask _ ho _ ?_)
    dsimp only
    cases hc2:p xs[hint - o] with
    | true =>
     simp only [if_true]
     exact ql ⟨rfl,l,o,rfl,a1,a3,a4,.inr ⟨by omega,ho,hc2⟩⟩
    | false =>
     simp only [Bool.false_eq_true,if_false]
     exact ql ⟨rfl,o,2 * o+1,rfl,by omega,by omega,by omega,fun _=>hc2⟩
  case post =>
   rintro c st' ⟨rfl,l,o,rfl,a1,a3,a4,a5⟩
   dsimp only
   have h3:∀ i (h:i<xs.length),i<(hint+1 - min o (hint+1))->p xs[i]=true:=fun i h hi=>by
    rcases a5 with a5 | ⟨a5,a6,a7⟩
    ·exact absurd hi (by omega)
    ·exact hm i (hint - o) h a6 (by omega) a7
   have h4:∀ i (h:i<xs.length),(hint - l)<=i->p xs[i]=false:=fun i h hi=>by
    have hz0:=a4 (by omega)
    cases hz:p xs[i] with
    | false=>rfl
    | true=>rw [hm (hint - l) i (by omega) h hi hz] at hz0;cases hz0
   refine qi (yR (qZ (I:=fun x c sx=>sx=st'/\∃ l r,c=(none,l,r)/\l<=r/\r<=xs.length/\r - l<=xs.length - x/\(∀ i (h:i<xs.length),i<l->p xs[i]=true)/\(∀ i (h:i<xs.length),r<=i->p xs[i]=false))
    (Q:=fun c sx=>sx=st'/\∃ r,c=(none,r,r)/\r<=xs.length/\(∀ i (h:i<xs.length),i<r->p xs[i]=true)/\(∀ i (h:i<xs.length),r<=i->p xs[i]=false)) ?step1 ?fin1 ⟨rfl,(hint+1 - min o (hint+1)),(hint - l),rfl,by omega,by omega,by omega,h3,h4⟩) ?post1)
   case fin1 =>
    rintro c st' ⟨rfl,l,r,rfl,a1,a2,a3,a4,a5⟩
    have:l=r:=by omega
    subst this
    exact ⟨rfl,l,rfl,a2,a4,a5⟩
   case step1 =>
    rintro x c st' _ hx' ⟨rfl,l,r,rfl,a1,a2,a3,a4,a5⟩
    dsimp only
    by_cases hge:l ≥ r
    ·rw [if_pos hge]
     have:l=r:=by omega
     subst this
     exact ql ⟨rfl,l,rfl,a2,a4,a5⟩
    ·rw [if_neg hge]
     have hmid:l+(r - l) / 2<xs.length:=by omega
     refine qi (ask _ hmid _ ?_)
     dsimp only
     cases hc:p xs[l+(r - l) / 2] with
     | true =>
      simp only [if_true]
      refine ql ⟨rfl,_,_,rfl,by omega,by omega,by omega,fun i h hi=>?_,a5⟩
      exact hm i (l+(r - l) / 2) h hmid (by omega) hc
     | false =>
      simp only [Bool.false_eq_true,if_false]
      refine ql ⟨rfl,_,_,rfl,by omega,by omega,by omega,a4,fun i h hi=>?_⟩
      cases hz:p xs[i] with
      | false=>rfl
      | true=>rw [hm (l+(r - l) / 2) i hmid h hi hz] at hc;cases hc
   case post1 =>
    rintro c st' ⟨rfl,r,rfl,a2,a4,a5⟩
    exact ql (q r a2 a4 a5)
end
end L2
namespace L2
open PySem PySem.Spec PyProof.Rows PySem.W
section
variable {f:Keyed->Keyed->Bool}
theorem qfh (O:OrdK f) {left:Bool}{key:Keyed}{xs:List Keyed}(hs:SdK f xs) (i j:Nat) (hi:i<xs.length) (hj:j<xs.length) (hij:i<=j) (h:byd f left key xs[j]=true):byd f left key xs[i]=true:=by
 have hle:f xs[j] xs[i]=false:=by
  by_cases e:i=j
  ·subst e;exact O.irr _
  ·exact qH.mp hs i j hi hj (by omega)
 unfold byd at *
 cases left with
 | true =>
  simp only [if_true] at *
  exact O.lel hle h
 | false =>
  simp only [Bool.false_eq_true,if_false,Bool.not_eq_true'] at *
  exact O.le hle h
theorem mv {out X A B:List Keyed}(h1:SdK f (out++(X++A))) (h2:SdK f (out++B)) (c:∀ x∈X,∀ y∈B,f y x=false):SdK f ((out++X)++A)/\SdK f ((out++X)++B):=by
 unfold SdK at *
 refine ⟨by rw [List.append_assoc];exact h1,?_⟩
 rw [<- List.append_assoc] at h1
 obtain ⟨g1,_,_⟩:=qL.mp h1
 obtain ⟨_,k2,k3⟩:=qL.mp h2
 refine qL.mpr ⟨g1,k2,fun x hx y hy=>?_⟩
 rcases List.mem_append.mp hx with h | h
 ·exact k3 x h y hy
 ·exact c x h y hy
theorem qjW {O' X A B:List Keyed}(h1:SdK f ((A++X)++O')) (h2:SdK f (B++O')) (c:∀ x∈X,∀ y∈B,f x y=false):SdK f (A++(X++O'))/\SdK f (B++(X++O')):=by
 unfold SdK at *
 rw [List.append_assoc] at h1
 refine ⟨h1,?_⟩
 obtain ⟨_,g1,_⟩:=qL.mp h1
 obtain ⟨k1,_,k3⟩:=qL.mp h2
 refine qL.mpr ⟨k1,g1,fun x hx y hy=>?_⟩
 rcases List.mem_append.mp hy with h | h
 ·exact c y h x hx
 ·exact k3 x hx y h
end
section
variable {prog:Program}{w:World}{A:Around}{E:Value->Shared->Prop}{s:Shared}{kd:SortKind}{D:Keyed->Prop}{f:Keyed->Keyed->Bool}
theorem YG (hA:Ask prog w A E s kd D f) (O:OrdK f) {left:Bool}{key:Keyed}{arr:Array Keyed}{base n hint:Nat}{st:SortSt}{Q:Option Nat->SortSt->Prop}(hk:kindOf st=kd) (xs:List Keyed)
  (hn:xs.length=n) (hx:∀ i,i<xs.length->arr[base+i]?=xs[i]?) (dk:D key) (dx:∀ x∈xs,D x) (hh:hint<n) (hs:SdK f xs)
  (q:∀ k,k<=n->(∀ x∈xs.take k,byd f left key x=true)->(∀ x∈xs.drop k,byd f left key x=false)->Q (some k) st) :
  wpS (model prog w) A E s (y6 left key arr base n hint) Q st:=by
 refine qch hA hk xs hn (fun i h=>by rw [hx i h,List.getElem?_eq_getElem h]) dk dx hh (qfh O hs) fun k h1 h2 h3=>q k h1 (fun x hx=>?_) (fun x hx=>?_)
 ·obtain ⟨i,hi,rfl⟩:=yI.mp hx
  rw [List.getElem_take]
  exact h2 i _ (by rw [List.length_take] at hi;omega)
 ·obtain ⟨i,hi,rfl⟩:=yI.mp hx
  rw [List.getElem_drop]
  exact h3 (k+i) _ (by omega)
end
def yp (st st':SortSt):Prop:=kindOf st'=kindOf st/\arrOf st'=arrOf st/\pendingOf st'=pendingOf st/\failedOf st'=failedOf st
theorem yp.refl (st:SortSt):yp st st:=⟨rfl,rfl,rfl,rfl⟩
theorem yp.trans {a b c:SortSt}(h:yp a b) (g:yp b c):yp a c:=⟨g.1.trans h.1,g.2.1.trans h.2.1,g.2.2.1.trans h.2.2.1,g.2.2.2.trans h.2.2.2⟩
def Ya:Array Keyed->Array Keyed->StateT SortSt Sem (Array Keyed):=sortPriv% PySem.Builtin.mergeLo
def ye:Nat->StateT SortSt Sem Unit:=sortPriv% PySem.Builtin.setMinGallop
theorem yP (g:Nat):ye g=modify fun s=>SortSt.mk' (kindOf s) (arrOf s) (pendingOf s) g (failedOf s):=rfl
abbrev GS:=Option (Array Keyed)×Array Keyed×Nat×Nat×Nat×Nat×Nat
abbrev CS:=Option (Array Keyed)×Array Keyed×Nat×Nat×Nat×Nat
def qjX (a b:Array Keyed) (out:Array Keyed) (ia ib mg ac bc:Nat):StateT SortSt Sem (ForInStep GS):=do
 let x <- elem' a ia
 if (ia+1+1 == a.size)=true then pure (.done (some (out.push x++b.extract ib b.size++a.extract (ia+1) a.size),out.push x,ia+1,ib,mg,ac,bc))
 else if (decide (ac<7) && decide (bc<7))=true then pure (.done (none,out.push x,ia+1,ib,mg,ac,bc))
 else pure (.yield (none,out.push x,ia+1,ib,mg,ac,bc))
def loG3 (a b:Array Keyed) (out:Array Keyed) (ia ib mg ac bc:Nat):StateT SortSt Sem (ForInStep GS):=do
 let x <- elem' a ia
 let k <- y6 true x b ib (b.size - ib) 0
 match k with
 | some k =>
  if k > 0 then
   if (ib+k == b.size)=true then pure (.done (some (out++b.extract ib (ib+k)++a.extract ia a.size++b.extract (ib+k) b.size),out++b.extract ib (ib+k),ia,ib+k,mg,ac,k))
   else qjX a b (out++b.extract ib (ib+k)) ia (ib+k) mg ac k
  else qjX a b out ia ib mg ac k
 | _=>pure (.done (some (out++a.extract ia a.size++b.extract ib b.size),out,ia,ib,mg,ac,bc))
def qjY (a b:Array Keyed) (out:Array Keyed) (ia ib mg ac bc:Nat):StateT SortSt Sem (ForInStep GS):=do
 let x <- elem' b ib
 if (ib+1 == b.size)=true then pure (.done (some (out.push x++a.extract ia a.size++b.extract (ib+1) b.size),out.push x,ia,ib+1,mg,ac,bc))
 else loG3 a b (out.push x) ia (ib+1) mg ac bc
def qjZ (a b:Array Keyed) (out:Array Keyed) (ia ib mg ac bc:Nat):StateT SortSt Sem (ForInStep GS):=do
 ye mg
 let x <- elem' b ib
 let k <- y6 false x a ia (a.size - ia) 0
 match k with
 | some k =>
  if k > 0 then
   if (ia+k+1 == a.size)=true then pure (.done (some (out++a.extract ia (ia+k)++b.extract ib b.size++a.extract (ia+k) a.size),out++a.extract ia (ia+k),ia+k,ib,mg,k,bc))
   else if (ia+k == a.size)=true then pure (.done (some (out++a.extract ia (ia+k)++a.extract (ia+k) a.size++b.extract ib b.size),out++a.extract ia (ia+k),ia+k,ib,mg,k,bc))
   else qjY a b (out++a.extract ia (ia+k)) (ia+k) ib mg k bc
  else qjY a b out ia ib mg k bc
 | _=>pure (.done (some (out++a.extract ia a.size++b.extract ib b.size),out,ia,ib,mg,ac,bc))
def loGB (a b:Array Keyed) (_:Nat) (c:GS):StateT SortSt Sem (ForInStep GS) :=
 if c.2.2.2.2.1 > 1 then qjZ a b c.2.1 c.2.2.1 c.2.2.2.1 (c.2.2.2.2.1 - 1) c.2.2.2.2.2.1 c.2.2.2.2.2.2 else qjZ a b c.2.1 c.2.2.1 c.2.2.2.1 c.2.2.2.2.1 c.2.2.2.2.2.1 c.2.2.2.2.2.2
def loCB (a b:Array Keyed) (mg:Nat) (_:Nat) (c:CS):StateT SortSt Sem (ForInStep CS):=do
 let y <- elem' b c.2.2.2.1
 let x <- elem' a c.2.2.1
 let r <- lt' y x
 match r with
 | some bWins =>
  if bWins=true then do
   let y <- elem' b c.2.2.2.1
   if (c.2.2.2.1+1 == b.size)=true then pure (.done (some (c.2.1.push y++a.extract c.2.2.1 a.size++b.extract (c.2.2.2.1+1) b.size),c.2.1.push y,c.2.2.1,c.2.2.2.1+1,0,c.2.2.2.2.2+1))
   else if c.2.2.2.2.2+1 ≥ mg then pure (.done (none,c.2.1.push y,c.2.2.1,c.2.2.2.1+1,0,c.2.2.2.2.2+1))
   else pure (.yield (none,c.2.1.push y,c.2.2.1,c.2.2.2.1+1,0,c.2.2.2.2.2+1))
  else do
   let x <- elem' a c.2.2.1
   if (c.2.2.1+1+1 == a.size)=true then pure (.done (some (c.2.1.push x++b.extract c.2.2.2.1 b.size++a.extract (c.2.2.1+1) a.size),c.2.1.push x,c.2.2.1+1,c.2.2.2.1,c.2.2.2.2.1+1,0))
   else if c.2.2.2.2.1+1 ≥ mg then pure (.done (none,c.2.1.push x,c.2.2.1+1,c.2.2.2.1,c.2.2.2.2.1+1,0))
   else pure (.yield (none,c.2.1.push x,c.2.2.1+1,c.2.2.2.1,c.2.2.2.2.1+1,0))
 | _=>pure (.done (some (c.2.1++a.extract c.2.2.1 a.size++b.extract c.2.2.2.1 b.size),c.2.1,c.2.2.1,c.2.2.2.1,c.2.2.2.2.1,c.2.2.2.2.2))
abbrev OS:=Option (Array Keyed)×Array Keyed×Nat×Nat×Nat
def loOB (a b:Array Keyed) (_:Nat) (c:OS):StateT SortSt Sem (ForInStep OS):=do
 let c1 <- forIn [0:a.size+b.size] ((none,c.2.1,c.2.2.1,c.2.2.2.1,0,0):CS) (loCB a b c.2.2.2.2)
 match c1.1 with
 | some r=>pure (.done (some r,c1.2.1,c1.2.2.1,c1.2.2.2.1,c.2.2.2.2))
 | none=>do
  liftM (rule "list.sort.gallop")
  let c2 <- forIn [0:a.size+b.size] ((none,c1.2.1,c1.2.2.1,c1.2.2.2.1,c.2.2.2.2+1,c1.2.2.2.2.1,c1.2.2.2.2.2):GS) (loGB a b)
  match c2.1 with
  | some r=>pure (.done (some r,c2.2.1,c2.2.2.1,c2.2.2.2.1,c2.2.2.2.2.1))
  | none=>do
   ye (c2.2.2.2.2.1+1)
   pure (.yield (none,c2.2.1,c2.2.2.1,c2.2.2.2.1,c2.2.2.2.2.1+1))
theorem ZS (a b:Array Keyed):Ya a b=(do
 rule "list.sort.merge-lo"
 let total:=a.size+b.size
 let done (out:Array Keyed) (ia ib:Nat):=out++a.extract ia a.size++b.extract ib b.size
 let lastOfA (out:Array Keyed) (ia ib:Nat):=out++b.extract ib b.size++a.extract ia a.size
 let mut out:Array Keyed:=#[<- elem' b 0]
 let mut ia:=0
 let mut ib:=1
 if ib == b.size then return done out ia ib
 if ia+1 == a.size then return lastOfA out ia ib
 let mut minGallop:=gallopOf (<- get)
 for _ in [0:total] do
  let mut acount:=0
  let mut bcount:=0
  for _ in [0:total] do
   let some bWins <- lt' (<- elem' b ib) (<- elem' a ia) | return done out ia ib
   if bWins then
    out:=out.push (<- elem' b ib);ib:=ib+1;bcount:=bcount+1;acount:=0
    if ib == b.size then return done out ia ib
    if bcount ≥ minGallop then break
   else
    out:=out.push (<- elem' a ia);ia:=ia+1;acount:=acount+1;bcount:=0
    if ia+1 == a.size then return lastOfA out ia ib
    if acount ≥ minGallop then break
  rule "list.sort.gallop"
  minGallop:=minGallop+1
  for _ in [0:total] do
   if minGallop > 1 then minGallop:=minGallop - 1
   ye minGallop
   let some k <- y6 false (<- elem' b ib) a ia (a.size - ia) 0 | return done out ia ib
   acount:=k
   if k > 0 then
    out:=out++a.extract ia (ia+k);ia:=ia+k
    if ia+1 == a.size then return lastOfA out ia ib
    if ia == a.size then return done out ia ib
   out:=out.push (<- elem' b ib);ib:=ib+1
   if ib == b.size then return done out ia ib
   let some k <- y6 true (<- elem' a ia) b ib (b.size - ib) 0 | return done out ia ib
   bcount:=k
   if k > 0 then
    out:=out++b.extract ib (ib+k);ib:=ib+k
    if ib == b.size then return done out ia ib
   out:=out.push (<- elem' a ia);ia:=ia+1
   if ia+1 == a.size then return lastOfA out ia ib
   if acount<7 && bcount<7 then break
  minGallop:=minGallop+1
  ye minGallop
 unsupported "internal:list.sort.merge-bound"):=rfl
theorem qay (a b:Array Keyed):Ya a b=(do
 liftM (rule "list.sort.merge-lo")
 let y <- elem' b 0
 if (1 == b.size)=true then pure (#[y]++a.extract 0 a.size++b.extract 1 b.size)
 else if (0+1 == a.size)=true then pure (#[y]++b.extract 1 b.size++a.extract 0 a.size)
 else do
  let g <- get
  let c <- forIn [0:a.size+b.size] ((none,#[y],0,1,gallopOf g):OS) (loOB a b)
  match c.1 with
  | some r=>pure r
  | none=>liftM (unsupported "internal:list.sort.merge-bound" : Sem (Array Keyed))):=by
 rw [ZS]
 dsimp only
 congr 1
 funext _u
 congr 1
 funext y
 congr 1
 congr 1
 congr 1
 funext g
 congr 1
 ·congr 1
  funext i c
  unfold loOB
  congr 1
  funext c1
  obtain ⟨r1,o1,ia1,ib1,ac1,bc1⟩:=c1
  cases r1 with
  | some r=>rfl
  | none =>
   dsimp only
   congr 1
   funext _v
   congr 1
   funext c2
   obtain ⟨r2,o2,ia2,ib2,m2,ac2,bc2⟩:=c2
   cases r2 <;> rfl
 ·funext c
  obtain ⟨r,o,ia,ib,m⟩:=c
  cases r <;> rfl
section
variable {prog:Program}{w:World}{A:Around}{E:Value->Shared->Prop}{s:Shared}{kd:SortKind}{D:Keyed->Prop}{f:Keyed->Keyed->Bool}{a b:Array Keyed}
def Js (f:Keyed->Keyed->Bool) (a b:Array Keyed) (o:Array Keyed):Prop:=SdK f o.toList/\o.toList.Perm (a.toList++b.toList)
structure JL (f:Keyed->Keyed->Bool) (a b out:Array Keyed) (ia ib:Nat):Prop where
 s1:SdK f (out.toList++a.toList.drop ia)
 s2:SdK f (out.toList++b.toList.drop ib)
 pm:(out.toList++(a.toList.drop ia++b.toList.drop ib)).Perm (a.toList++b.toList)
structure Both (D:Keyed->Prop) (f:Keyed->Keyed->Bool) (a b:Array Keyed):Prop where
 da:∀ x∈a.toList,D x
 db:∀ x∈b.toList,D x
 na:0<a.size
 nb:0<b.size
 last:∀ x∈b.toList,f x (a[a.size - 1]'(by omega))=true
 first:f (b[0]'nb) (a[0]'na)=true
 sa:SdK f a.toList
 sb:SdK f b.toList
theorem JL.size (j:JL f a b out ia ib) (h1:ia<=a.size) (h2:ib<=b.size):out.size=ia+ib:=by
 have:=j.pm.length_eq
 simp at this
 omega
theorem getD? {xs:Array Keyed}{i:Nat}(h:i<xs.size):xs[i]?=some xs[i]:=Array.getElem?_eq_getElem h
theorem jq {xs:Array Keyed}{i:Nat}(h:i<xs.size):xs.toList.drop i=xs[i]::xs.toList.drop (i+1):=by
 rw [yy (by simpa using h)];rfl
theorem Yo (O:OrdK f) {xs:Array Keyed}{i:Nat}(hs:SdK f xs.toList) (h:i<xs.size) {y:Keyed}(hy:y∈xs.toList.drop i):f y xs[i]=false:=by
 rw [jq h] at hy
 rcases List.mem_cons.mp hy with rfl | hy
 ·exact O.irr _
 ·have:SdK f (xs.toList.drop i):=List.Pairwise.sublist (List.drop_sublist _ _) hs
  rw [jq h] at this
  exact (List.pairwise_cons.mp this).1 _ hy
theorem JL.pushB (O:OrdK f) (hb:Both D f a b) (j:JL f a b out ia ib) (h1:ia<a.size) (h2:ib<b.size) (h:f a[ia] b[ib]=false):JL f a b (out.push b[ib]) ia (ib+1):=by
 have e:=jq h2
 have s2:=j.s2
 have pm:=j.pm
 rw [e] at s2 pm
 obtain ⟨g1,g2⟩:=mv (X:=[b[ib]]) s2 j.s1 (fun x hx y hy=>by
  rw [qz.mp hx]
  exact O.le h (Yo O hb.sa h1 hy))
 refine ⟨by rw [Array.toList_push];exact g2,by rw [Array.toList_push];exact g1,?_⟩
 rw [Array.toList_push,List.append_assoc]
 refine List.Perm.trans (List.Perm.append_left _ ?_) pm
 exact (List.perm_middle (l₁:=a.toList.drop ia) (l₂:=b.toList.drop (ib+1)) (a:=b[ib])).symm
theorem JL.pushA (O:OrdK f) (hb:Both D f a b) (j:JL f a b out ia ib) (h1:ia<a.size) (h2:ib<b.size) (h:f b[ib] a[ia]=false):JL f a b (out.push a[ia]) (ia+1) ib:=by
 have e:=jq h1
 have s1:=j.s1
 have pm:=j.pm
 rw [e] at s1 pm
 obtain ⟨g1,g2⟩:=mv (X:=[a[ia]]) s1 j.s2 (fun x hx y hy=>by
  rw [qz.mp hx]
  exact O.le h (Yo O hb.sb h2 hy))
 refine ⟨by rw [Array.toList_push];exact g1,by rw [Array.toList_push];exact g2,?_⟩
 rw [Array.toList_push,List.append_assoc]
 exact pm
theorem jP (xs:Array Keyed) (i k:Nat):(xs.extract i (i+k)).toList=(xs.toList.drop i).take k:=by
 simp [Array.toList_extract,List.extract_eq_take_drop]
theorem jy (xs:Array Keyed) (i:Nat):(xs.extract i xs.size).toList=xs.toList.drop i:=by
 simp [Array.toList_extract,List.extract_eq_take_drop]
 exact List.take_of_length_le (by simp)
theorem YS (xs:Array Keyed) (i k:Nat):xs.toList.drop i=(xs.toList.drop i).take k++xs.toList.drop (i+k):=by
 have:=(qw k (xs.toList.drop i)).symm
 rwa [List.drop_drop] at this
theorem JL.chunkA (O:OrdK f) (hb:Both D f a b) (j:JL f a b out ia ib) (h2:ib<b.size) {k:Nat}(h:∀ x∈(a.toList.drop ia).take k,f b[ib] x=false):JL f a b (out++a.extract ia (ia+k)) (ia+k) ib:=by
 have s1:=j.s1
 have pm:=j.pm
 rw [YS a ia k] at s1 pm
 obtain ⟨g1,g2⟩:=mv s1 j.s2 (fun x hx y hy=>O.le (h x hx) (Yo O hb.sb h2 hy))
 refine ⟨by rw [Array.toList_append,jP];exact g1,by rw [Array.toList_append,jP];exact g2,?_⟩
 rw [Array.toList_append,jP,List.append_assoc,<- List.append_assoc ((a.toList.drop ia).take k)]
 exact pm
theorem JL.chunkB (O:OrdK f) (hb:Both D f a b) (j:JL f a b out ia ib) (h1:ia<a.size) {k:Nat}(h:∀ x∈(b.toList.drop ib).take k,f a[ia] x=false):JL f a b (out++b.extract ib (ib+k)) ia (ib+k):=by
 have s2:=j.s2
 have pm:=j.pm
 rw [YS b ib k] at s2 pm
 obtain ⟨g1,g2⟩:=mv s2 j.s1 (fun x hx y hy=>O.le (h x hx) (Yo O hb.sa h1 hy))
 refine ⟨by rw [Array.toList_append,jP];exact g2,by rw [Array.toList_append,jP];exact g1,?_⟩
 rw [Array.toList_append,jP,List.append_assoc]
 refine List.Perm.trans (List.Perm.append_left _ ?_) pm
 rw [<- List.append_assoc,<- List.append_assoc]
 exact List.Perm.append_right _ List.perm_append_comm
theorem JL.done (j:JL f a b out ia ib) (h:a.size<=ia\/b.size<=ib):Js f a b (out++a.extract ia a.size++b.extract ib b.size):=by
 refine ⟨?_,?_⟩
 ·rw [Array.toList_append,Array.toList_append,jy,jy]
  rcases h with h | h
  ·rw [List.drop_of_length_le (show a.toList.length<=ia by simpa using h),List.append_nil]
   exact j.s2
  ·rw [List.drop_of_length_le (show b.toList.length<=ib by simpa using h),List.append_nil]
   exact j.s1
 ·rw [Array.toList_append,Array.toList_append,jy,jy,List.append_assoc]
  exact j.pm
theorem JL.lastA (O:OrdK f) (hb:Both D f a b) (j:JL f a b out ia ib) (h:ia+1=a.size):Js f a b (out++b.extract ib b.size++a.extract ia a.size):=by
 have e:a.toList.drop ia=[a[ia]]:=by
  rw [jq (show ia<a.size by omega),List.drop_of_length_le (by simp;omega)]
 refine ⟨?_,?_⟩
 ·rw [Array.toList_append,Array.toList_append,jy,jy]
  have s1:=j.s1
  rw [e] at s1 ⊢
  unfold SdK at *
  obtain ⟨_,_,g3⟩:=qL.mp s1
  refine qL.mpr ⟨j.s2,List.pairwise_singleton _ _,fun x hx y hy=>?_⟩
  rcases List.mem_append.mp hx with z | z
  ·exact g3 x z y hy
  ·rw [qz.mp hy]
   have:=hb.last x (yH z)
   have e2:a.size - 1=ia:=by omega
   simp only [e2] at this
   exact O.asym _ _ this
 ·rw [Array.toList_append,Array.toList_append,jy,jy,List.append_assoc]
  exact List.Perm.trans (List.Perm.append_left _ List.perm_append_comm) j.pm
def qfn (f:Keyed->Keyed->Bool) (a b:Array Keyed) (st:SortSt) (n0:Nat) (r:ForInStep GS) (st':SortSt):Prop:=yp st st'/\match r with
 | .done (some o,_)=>Js f a b o
 | .done (none,out,ia,ib,_)=>JL f a b out ia ib/\ia+1<a.size/\ib<b.size/\n0<=ia+ib
 | .yield (none,out,ia,ib,_)=>JL f a b out ia ib/\ia+1<a.size/\ib<b.size/\n0<=ia+ib
 | .yield (some _,_)=>False
theorem yi {xs:Array Keyed}{i:Nat}(h:i<xs.size) {st:SortSt}{Q:Keyed->SortSt->Prop}(q:Q xs[i] st):wpS (model prog w) A E s (elem' xs i) Q st:=by
 rw [elem'_eq,getD? h]
 exact ql q
theorem qcb (O:OrdK f) (hb:Both D f a b) {st0 st:SortSt}(hst:yp st0 st) {out:Array Keyed}{ia ib mg ac bc n0:Nat}(j:JL f a b out ia ib) (h1:ia+1<a.size) (h2:ib<b.size) (hn:n0<=ia+ib) (h:f b[ib] (a[ia]'(by omega))=false) :
  wpS (model prog w) A E s (qjX a b out ia ib mg ac bc) (qfn f a b st0 n0) st:=by
 unfold qjX
 refine qi (yi (show ia<a.size by omega) ?_)
 have j2:=j.pushA O hb (show ia<a.size by omega) h2 h
 by_cases e:ia+1+1=a.size
 ·rw [if_pos (by simpa using e)]
  exact ql ⟨hst,j2.lastA O hb e⟩
 ·rw [if_neg (by simpa using e)]
  split
  ·exact ql ⟨hst,j2,by omega,h2,by omega⟩
  ·exact ql ⟨hst,j2,by omega,h2,by omega⟩
theorem qf9 (hA:Ask prog w A E s kd D f) (O:OrdK f) (hb:Both D f a b) {st0 st:SortSt}(hk:kindOf st0=kd) (hst:yp st0 st) {out:Array Keyed}{ia ib mg ac bc n0:Nat}(j:JL f a b out ia ib) (h1:ia+1<a.size) (h2:ib<b.size) (hn:n0<=ia+ib) :
  wpS (model prog w) A E s (loG3 a b out ia ib mg ac bc) (qfn f a b st0 n0) st:=by
 unfold loG3
 refine qi (yi (show ia<a.size by omega) ?_)
 refine qi (YG hA O (hst.1.trans hk) (b.toList.drop ib) (by simp) (fun i hi=>?_) (hb.da _ (by simp)) (fun x hx=>hb.db x (yH hx)) (by omega) (List.Pairwise.sublist (List.drop_sublist _ _) hb.sb) fun k hk1 hk2 hk3=>?_)
 ·rw [List.getElem?_drop,qp]
 have hlt:∀ x∈(b.toList.drop ib).take k,f x (a[ia]'(by omega))=true:=fun x hx=>hk2 x hx
 have hge:∀ x∈(b.toList.drop ib).drop k,f x (a[ia]'(by omega))=false:=fun x hx=>hk3 x hx
 have j2:=j.chunkB O hb (show ia<a.size by omega) (k:=k) (fun x hx=>O.asym _ _ (hlt x hx))
 have nxt:∀ h:ib+k<b.size,f b[ib+k] (a[ia]'(by omega))=false:=fun h=>hge _ (by
  rw [List.drop_drop,jq h]
  exact qg)
 dsimp only
 by_cases hk0:k > 0
 ·rw [if_pos hk0]
  by_cases e:ib+k=b.size
  ·rw [if_pos (by simpa using e)]
   exact ql ⟨hst,j2.done (.inr (by omega))⟩
  ·rw [if_neg (by simpa using e)]
   exact qcb O hb hst j2 h1 (by omega) (by omega) (nxt (by omega))
 ·rw [if_neg hk0]
  have:k=0:=by omega
  subst this
  exact qcb O hb hst j h1 h2 hn (nxt h2)
theorem qcc (hA:Ask prog w A E s kd D f) (O:OrdK f) (hb:Both D f a b) {st0 st:SortSt}(hk:kindOf st0=kd) (hst:yp st0 st) {out:Array Keyed}{ia ib mg ac bc n0:Nat}(j:JL f a b out ia ib) (h1:ia+1<a.size) (h2:ib<b.size) (hn:n0<=ia+ib) (h:f (a[ia]'(by omega)) b[ib]=false) :
  wpS (model prog w) A E s (qjY a b out ia ib mg ac bc) (qfn f a b st0 n0) st:=by
 unfold qjY
 refine qi (yi h2 ?_)
 have j2:=j.pushB O hb (show ia<a.size by omega) h2 h
 by_cases e:ib+1=b.size
 ·rw [if_pos (by simpa using e)]
  exact ql ⟨hst,j2.done (.inr (by omega))⟩
 ·rw [if_neg (by simpa using e)]
  exact qf9 hA O hb hk hst j2 h1 (by omega) (by omega)
theorem qcd (hA:Ask prog w A E s kd D f) (O:OrdK f) (hb:Both D f a b) {st0 st:SortSt}(hk:kindOf st0=kd) (hst:yp st0 st) {out:Array Keyed}{ia ib mg ac bc n0:Nat}(j:JL f a b out ia ib) (h1:ia+1<a.size) (h2:ib<b.size) (hn:n0<=ia+ib) :
  wpS (model prog w) A E s (qjZ a b out ia ib mg ac bc) (qfn f a b st0 n0) st:=by
 unfold qjZ
 rw [yP]
 refine qi (jh ?_)
 have hst2:=hst.trans (show yp st (SortSt.mk' (kindOf st) (arrOf st) (pendingOf st) mg (failedOf st)) from ⟨rfl,rfl,rfl,rfl⟩)
 generalize SortSt.mk' (kindOf st) (arrOf st) (pendingOf st) mg (failedOf st)=st2 at hst2 ⊢
 refine qi (yi h2 ?_)
 refine qi (YG hA O (hst2.1.trans hk) (a.toList.drop ia) (by simp) (fun i hi=>?_) (hb.db _ (by simp)) (fun x hx=>hb.da x (yH hx)) (by omega) (List.Pairwise.sublist (List.drop_sublist _ _) hb.sa) fun k hk1 hk2 hk3=>?_)
 ·rw [List.getElem?_drop,qp]
 have hle:∀ x∈(a.toList.drop ia).take k,f b[ib] x=false:=fun x hx=>by
  have:=hk2 x hx
  simpa [byd] using this
 have hgt:∀ x∈(a.toList.drop ia).drop k,f b[ib] x=true:=fun x hx=>by
  have:=hk3 x hx
  simpa [byd] using this
 have j2:=j.chunkA O hb h2 (k:=k) hle
 have nxt:∀ h:ia+k<a.size,f a[ia+k] b[ib]=false:=fun h=>O.asym _ _ (hgt _ (by
  rw [List.drop_drop,jq h]
  exact qg))
 dsimp only
 by_cases hk0:k > 0
 ·rw [if_pos hk0]
  by_cases e:ia+k+1=a.size
  ·rw [if_pos (by simpa using e)]
   exact ql ⟨hst2,j2.lastA O hb e⟩
  ·rw [if_neg (by simpa using e)]
   by_cases e2:ia+k=a.size
   ·rw [if_pos (by simpa using e2)]
    exact ql ⟨hst2,j2.done (.inl (by omega))⟩
   ·rw [if_neg (by simpa using e2)]
    exact qcc hA O hb hk hst2 j2 (by omega) h2 (by omega) (nxt (by omega))
 ·rw [if_neg hk0]
  have:k=0:=by omega
  subst this
  exact qcc hA O hb hk hst2 j h1 h2 hn (nxt (by omega))
def CPost (f:Keyed->Keyed->Bool) (a b:Array Keyed) (st:SortSt) (n0:Nat) (r:CS) (st':SortSt):Prop:=yp st st'/\match r with
 | (some o,_)=>Js f a b o
 | (none,out,ia,ib,_)=>JL f a b out ia ib/\ia+1<a.size/\ib<b.size/\n0<ia+ib
theorem qhS (hA:Ask prog w A E s kd D f) (O:OrdK f) (hb:Both D f a b) {st:SortSt}(hk:kindOf st=kd) {out:Array Keyed}{ia ib mg:Nat}(j:JL f a b out ia ib) (h1:ia+1<a.size) (h2:ib<b.size) :
  wpS (model prog w) A E s (forIn [0:a.size+b.size] ((none,out,ia,ib,0,0):CS) (loCB a b mg)) (CPost f a b st (ia+ib)) st:=by
 refine qZ (I:=fun x c st'=>yp st st'/\∃ out' ia' ib' ac bc,c=(none,out',ia',ib',ac,bc)/\JL f a b out' ia' ib'/\ia'+1<a.size/\ib'<b.size/\ia+ib+x<=ia'+ib') ?step ?fin ⟨yp.refl _,out,ia,ib,0,0,rfl,j,h1,h2,by omega⟩
 case fin =>
  rintro c st' ⟨hst,out',ia',ib',ac,bc,rfl,j',g1,g2,g3⟩
  exact ⟨hst,j',g1,g2,by omega⟩
 case step =>
  rintro x c st' _ hx ⟨hst,out',ia',ib',ac,bc,rfl,j',g1,g2,g3⟩
  unfold loCB
  dsimp only
  refine qi (yi g2 (qi (yi (show ia'<a.size by omega) ?_)))
  refine qi (hA _ _ _ _ (hb.db _ (by simp)) (hb.da _ (by simp)) (hst.1.trans hk) ?_)
  dsimp only
  cases c:f b[ib'] (a[ia']'(by omega)) with
  | true =>
   simp only [if_true]
   refine qi (yi g2 ?_)
   have j2:=j'.pushB O hb (show ia'<a.size by omega) g2 (O.asym _ _ c)
   by_cases e:ib'+1=b.size
   ·rw [if_pos (by simpa using e)]
    exact ql ⟨hst,j2.done (.inr (by omega))⟩
   ·rw [if_neg (by simpa using e)]
    split
    ·exact ql ⟨hst,j2,g1,by omega,by omega⟩
    ·exact ql ⟨hst,_,_,_,_,_,rfl,j2,g1,by omega,by omega⟩
  | false =>
   simp only [Bool.false_eq_true,if_false]
   refine qi (yi (show ia'<a.size by omega) ?_)
   have j2:=j'.pushA O hb (show ia'<a.size by omega) g2 c
   by_cases e:ia'+1+1=a.size
   ·rw [if_pos (by simpa using e)]
    exact ql ⟨hst,j2.lastA O hb e⟩
   ·rw [if_neg (by simpa using e)]
    split
    ·exact ql ⟨hst,j2,by omega,g2,by omega⟩
    ·exact ql ⟨hst,_,_,_,_,_,rfl,j2,by omega,g2,by omega⟩
def qjK (f:Keyed->Keyed->Bool) (a b:Array Keyed) (st:SortSt) (n0:Nat) (r:GS) (st':SortSt):Prop:=yp st st'/\match r with
 | (some o,_)=>Js f a b o
 | (none,out,ia,ib,_)=>JL f a b out ia ib/\ia+1<a.size/\ib<b.size/\n0<=ia+ib
theorem qhR (hA:Ask prog w A E s kd D f) (O:OrdK f) (hb:Both D f a b) {st0 st:SortSt}(hk:kindOf st0=kd) (hst:yp st0 st) {out:Array Keyed}{ia ib mg ac bc:Nat}(j:JL f a b out ia ib) (h1:ia+1<a.size) (h2:ib<b.size) :
  wpS (model prog w) A E s (forIn [0:a.size+b.size] ((none,out,ia,ib,mg,ac,bc):GS) (loGB a b)) (qjK f a b st0 (ia+ib)) st:=by
 refine qZ (I:=fun x c st'=>yp st0 st'/\∃ out' ia' ib' mg ac bc,c=(none,out',ia',ib',mg,ac,bc)/\JL f a b out' ia' ib'/\ia'+1<a.size/\ib'<b.size/\ia+ib<=ia'+ib') ?step ?fin ⟨hst,out,ia,ib,mg,ac,bc,rfl,j,h1,h2,by omega⟩
 case fin =>
  rintro c st' ⟨hst,out',ia',ib',mg,ac,bc,rfl,j',g1,g2,g3⟩
  exact ⟨hst,j',g1,g2,g3⟩
 case step =>
  rintro x c st' _ hx ⟨hst,out',ia',ib',mg,ac,bc,rfl,j',g1,g2,g3⟩
  unfold loGB
  dsimp only
  split
  ·refine yR (qcd hA O hb hk hst j' g1 g2 g3) fun r st'' h=>?_
   obtain ⟨h0,h⟩:=h
   match r,h with
   | .done (some o,_),h=>exact ⟨h0,h⟩
   | .done (none,out,ia,ib,_),h=>exact ⟨h0,h⟩
   | .yield (none,out,ia,ib,m,c,d),h=>exact ⟨h0,_,_,_,_,_,_,rfl,h⟩
  ·refine yR (qcd hA O hb hk hst j' g1 g2 g3) fun r st'' h=>?_
   obtain ⟨h0,h⟩:=h
   match r,h with
   | .done (some o,_),h=>exact ⟨h0,h⟩
   | .done (none,out,ia,ib,_),h=>exact ⟨h0,h⟩
   | .yield (none,out,ia,ib,m,c,d),h=>exact ⟨h0,_,_,_,_,_,_,rfl,h⟩
theorem qbK (hA:Ask prog w A E s kd D f) (O:OrdK f) (hb:Both D f a b) {st:SortSt}(hk:kindOf st=kd) {Q:Array Keyed->SortSt->Prop}(q:∀ o st',yp st st'->Js f a b o->Q o st') :
  wpS (model prog w) A E s (Ya a b) Q st:=by
 rw [qay]
 refine qi (wpS_lift (jD ⟨rfl,?_⟩))
 refine qi (yi hb.nb ?_)
 have na:=hb.na
 have nb:=hb.nb
 have j0:JL f a b #[] 0 0:=⟨by simpa using hb.sa,by simpa using hb.sb,by simp⟩
 have j1:JL f a b #[b[0]'nb] 0 1:=by
  have:=j0.pushB O hb na nb (O.asym _ _ hb.first)
  simpa using this
 by_cases e:b.size=1
 ·rw [if_pos (by simp [e])]
  exact ql (q _ _ (yp.refl _) (j1.done (.inr (by omega))))
 ·rw [if_neg (by simpa using fun z:1=b.size=>e z.symm)]
  by_cases e2:0+1=a.size
  ·rw [if_pos (by simpa using e2)]
   exact ql (q _ _ (yp.refl _) (j1.lastA O hb e2))
  ·rw [if_neg (by simpa using e2)]
   refine qi (wpS_get ?_)
   refine qi (yR (qZ (I:=fun x c st'=>yp st st'/\∃ out ia ib mg,c=(none,out,ia,ib,mg)/\JL f a b out ia ib/\ia+1<a.size/\ib<b.size/\x+1<=ia+ib)
    (Q:=fun c st'=>yp st st'/\∃ o r,c=(some o,r)/\Js f a b o) ?step ?fin ⟨yp.refl _,_,_,_,_,rfl,j1,by omega,by omega,by omega⟩) ?post)
   case fin =>
    rintro c st' ⟨hst,out,ia,ib,mg,rfl,j,g1,g2,g3⟩
    omega
   case post =>
    rintro c st' ⟨hst,o,r,rfl,h⟩
    exact ql (q o st' hst h)
   case step =>
    rintro x c st' _ hx ⟨hst,out,ia,ib,mg,rfl,j,g1,g2,g3⟩
    unfold loOB
    dsimp only
    refine qi (yR (qhS hA O hb (hst.1.trans hk) j g1 g2) ?_)
    rintro c1 st1 ⟨hst1,h⟩
    match c1,h with
    | (some o,out,ia,ib,_),h=>exact ql ⟨hst.trans hst1,o,_,rfl,h⟩
    | (none,out1,ia1,ib1,ac,bc),⟨j1,k1,k2,k3⟩ =>
     dsimp only
     refine qi (wpS_lift (jD ⟨rfl,?_⟩))
     refine qi (yR (qhR hA O hb hk (hst.trans hst1) j1 k1 k2) ?_)
     rintro c2 st2 ⟨hst2,h⟩
     match c2,h with
     | (some o,out,ia,ib,mg,_),h=>exact ql ⟨hst2,o,_,rfl,h⟩
     | (none,out2,ia2,ib2,mg2,ac,bc),⟨j2,l1,l2,l3⟩ =>
      dsimp only
      rw [yP]
      refine qi (jh (ql ⟨hst2.trans ⟨rfl,rfl,rfl,rfl⟩,_,_,_,_,rfl,j2,l1,l2,by omega⟩))
end
end L2
namespace L2
open PySem PySem.Spec PyProof.Rows PySem.W
def Yb:Array Keyed->Array Keyed->StateT SortSt Sem (Array Keyed):=sortPriv% PySem.Builtin.mergeHi
abbrev GH:=Option (Array Keyed)×Nat×Nat×Array Keyed×Nat×Nat×Nat
abbrev CH:=Option (Array Keyed)×Nat×Nat×Array Keyed×Nat×Nat
abbrev OH:=Option (Array Keyed)×Nat×Nat×Array Keyed×Nat
def YE (a b out:Array Keyed) (na nb:Nat):Array Keyed:=a.extract 0 na++b.extract 0 nb++out.reverse
def YR (a b out:Array Keyed) (na nb:Nat):Array Keyed:=b.extract 0 nb++a.extract 0 na++out.reverse
def qj0 (a b:Array Keyed) (na nb:Nat) (out:Array Keyed) (mg ac bc:Nat):StateT SortSt Sem (ForInStep GH):=do
 let x <- elem' a (na - 1)
 if (na - 1 == 0)=true then pure (.done (some (YE a b (out.push x) (na - 1) nb),na - 1,nb,out.push x,mg,ac,bc))
 else if (decide (ac<7) && decide (bc<7))=true then pure (.done (none,na - 1,nb,out.push x,mg,ac,bc))
 else pure (.yield (none,na - 1,nb,out.push x,mg,ac,bc))
def hiG3 (a b:Array Keyed) (na nb:Nat) (out:Array Keyed) (mg ac bc:Nat):StateT SortSt Sem (ForInStep GH):=do
 let x <- elem' a (na - 1)
 let k <- y6 true x b 0 nb (nb - 1)
 match k with
 | some at_ =>
  if nb - at_ > 0 then
   if (at_ == 1)=true then pure (.done (some (YR a b (out++(b.extract at_ nb).reverse) na at_),na,at_,out++(b.extract at_ nb).reverse,mg,ac,nb - at_))
   else if (at_ == 0)=true then pure (.done (some (YE a b (out++(b.extract at_ nb).reverse) na at_),na,at_,out++(b.extract at_ nb).reverse,mg,ac,nb - at_))
   else qj0 a b na at_ (out++(b.extract at_ nb).reverse) mg ac (nb - at_)
  else qj0 a b na nb out mg ac (nb - at_)
 | _=>pure (.done (some (YE a b out na nb),na,nb,out,mg,ac,bc))
def qj1 (a b:Array Keyed) (na nb:Nat) (out:Array Keyed) (mg ac bc:Nat):StateT SortSt Sem (ForInStep GH):=do
 let x <- elem' b (nb - 1)
 if (nb - 1 == 1)=true then pure (.done (some (YR a b (out.push x) na (nb - 1)),na,nb - 1,out.push x,mg,ac,bc))
 else hiG3 a b na (nb - 1) (out.push x) mg ac bc
def qj2 (a b:Array Keyed) (na nb:Nat) (out:Array Keyed) (mg ac bc:Nat):StateT SortSt Sem (ForInStep GH):=do
 ye mg
 let x <- elem' b (nb - 1)
 let k <- y6 false x a 0 na (na - 1)
 match k with
 | some at_ =>
  if na - at_ > 0 then
   if (at_ == 0)=true then pure (.done (some (YE a b (out++(a.extract at_ na).reverse) at_ nb),at_,nb,out++(a.extract at_ na).reverse,mg,na - at_,bc))
   else qj1 a b at_ nb (out++(a.extract at_ na).reverse) mg (na - at_) bc
  else qj1 a b na nb out mg (na - at_) bc
 | _=>pure (.done (some (YE a b out na nb),na,nb,out,mg,ac,bc))
def hiGB (a b:Array Keyed) (_:Nat) (c:GH):StateT SortSt Sem (ForInStep GH) :=
 if c.2.2.2.2.1 > 1 then qj2 a b c.2.1 c.2.2.1 c.2.2.2.1 (c.2.2.2.2.1 - 1) c.2.2.2.2.2.1 c.2.2.2.2.2.2 else qj2 a b c.2.1 c.2.2.1 c.2.2.2.1 c.2.2.2.2.1 c.2.2.2.2.2.1 c.2.2.2.2.2.2
def hiCB (a b:Array Keyed) (mg:Nat) (_:Nat) (c:CH):StateT SortSt Sem (ForInStep CH):=do
 let y <- elem' b (c.2.2.1 - 1)
 let x <- elem' a (c.2.1 - 1)
 let r <- lt' y x
 match r with
 | some aWins =>
  if aWins=true then do
   let x <- elem' a (c.2.1 - 1)
   if (c.2.1 - 1 == 0)=true then pure (.done (some (YE a b (c.2.2.2.1.push x) (c.2.1 - 1) c.2.2.1),c.2.1 - 1,c.2.2.1,c.2.2.2.1.push x,c.2.2.2.2.1+1,0))
   else if c.2.2.2.2.1+1 ≥ mg then pure (.done (none,c.2.1 - 1,c.2.2.1,c.2.2.2.1.push x,c.2.2.2.2.1+1,0))
   else pure (.yield (none,c.2.1 - 1,c.2.2.1,c.2.2.2.1.push x,c.2.2.2.2.1+1,0))
  else do
   let y <- elem' b (c.2.2.1 - 1)
   if (c.2.2.1 - 1 == 1)=true then pure (.done (some (YR a b (c.2.2.2.1.push y) c.2.1 (c.2.2.1 - 1)),c.2.1,c.2.2.1 - 1,c.2.2.2.1.push y,0,c.2.2.2.2.2+1))
   else if c.2.2.2.2.2+1 ≥ mg then pure (.done (none,c.2.1,c.2.2.1 - 1,c.2.2.2.1.push y,0,c.2.2.2.2.2+1))
   else pure (.yield (none,c.2.1,c.2.2.1 - 1,c.2.2.2.1.push y,0,c.2.2.2.2.2+1))
 | _=>pure (.done (some (YE a b c.2.2.2.1 c.2.1 c.2.2.1),c.2.1,c.2.2.1,c.2.2.2.1,c.2.2.2.2.1,c.2.2.2.2.2))
def hiOB (a b:Array Keyed) (_:Nat) (c:OH):StateT SortSt Sem (ForInStep OH):=do
 let c1 <- forIn [0:a.size+b.size] ((none,c.2.1,c.2.2.1,c.2.2.2.1,0,0):CH) (hiCB a b c.2.2.2.2)
 match c1.1 with
 | some r=>pure (.done (some r,c1.2.1,c1.2.2.1,c1.2.2.2.1,c.2.2.2.2))
 | none=>do
  liftM (rule "list.sort.gallop")
  let c2 <- forIn [0:a.size+b.size] ((none,c1.2.1,c1.2.2.1,c1.2.2.2.1,c.2.2.2.2+1,c1.2.2.2.2.1,c1.2.2.2.2.2):GH) (hiGB a b)
  match c2.1 with
  | some r=>pure (.done (some r,c2.2.1,c2.2.2.1,c2.2.2.2.1,c2.2.2.2.2.1))
  | none=>do
   ye (c2.2.2.2.2.1+1)
   pure (.yield (none,c2.2.1,c2.2.2.1,c2.2.2.2.1,c2.2.2.2.2.1+1))
theorem ZT (a b:Array Keyed):Yb a b=(do
 rule "list.sort.merge-hi"
 let total:=a.size+b.size
 let done (out:Array Keyed) (na nb:Nat):=a.extract 0 na++b.extract 0 nb++out.reverse
 let firstOfB (out:Array Keyed) (na nb:Nat):=b.extract 0 nb++a.extract 0 na++out.reverse
 let mut na:=a.size - 1
 let mut nb:=b.size
 let mut out:Array Keyed:=#[<- elem' a na]
 if na == 0 then return done out na nb
 if nb == 1 then return firstOfB out na nb
 let mut minGallop:=gallopOf (<- get)
 for _ in [0:total] do
  let mut acount:=0
  let mut bcount:=0
  for _ in [0:total] do
   let some aWins <- lt' (<- elem' b (nb - 1)) (<- elem' a (na - 1)) | return done out na nb
   if aWins then
    na:=na - 1;out:=out.push (<- elem' a na);acount:=acount+1;bcount:=0
    if na == 0 then return done out na nb
    if acount ≥ minGallop then break
   else
    nb:=nb - 1;out:=out.push (<- elem' b nb);bcount:=bcount+1;acount:=0
    if nb == 1 then return firstOfB out na nb
    if bcount ≥ minGallop then break
  rule "list.sort.gallop"
  minGallop:=minGallop+1
  for _ in [0:total] do
   if minGallop > 1 then minGallop:=minGallop - 1
   ye minGallop
   let some at_ <- y6 false (<- elem' b (nb - 1)) a 0 na (na - 1) | return done out na nb
   let k:=na - at_
   acount:=k
   if k > 0 then
    out:=out++(a.extract at_ na).reverse;na:=at_
    if na == 0 then return done out na nb
   nb:=nb - 1;out:=out.push (<- elem' b nb)
   if nb == 1 then return firstOfB out na nb
   let some at_ <- y6 true (<- elem' a (na - 1)) b 0 nb (nb - 1) | return done out na nb
   let k:=nb - at_
   bcount:=k
   if k > 0 then
    out:=out++(b.extract at_ nb).reverse;nb:=at_
    if nb == 1 then return firstOfB out na nb
    if nb == 0 then return done out na nb
   na:=na - 1;out:=out.push (<- elem' a na)
   if na == 0 then return done out na nb
   if acount<7 && bcount<7 then break
  minGallop:=minGallop+1
  ye minGallop
 unsupported "internal:list.sort.merge-bound"):=rfl
theorem qaz (a b:Array Keyed):Yb a b=(do
 liftM (rule "list.sort.merge-hi")
 let x <- elem' a (a.size - 1)
 if (a.size - 1 == 0)=true then pure (YE a b #[x] (a.size - 1) b.size)
 else if (b.size == 1)=true then pure (YR a b #[x] (a.size - 1) b.size)
 else do
  let g <- get
  let c <- forIn [0:a.size+b.size] ((none,a.size - 1,b.size,#[x],gallopOf g):OH) (hiOB a b)
  match c.1 with
  | some r=>pure r
  | none=>liftM (unsupported "internal:list.sort.merge-bound" : Sem (Array Keyed))):=by
 rw [ZT]
 dsimp only
 congr 1
 funext _u
 congr 1
 funext y
 congr 1
 congr 1
 congr 1
 funext g
 congr 1
 ·congr 1
  funext i c
  unfold hiOB
  congr 1
  funext c1
  obtain ⟨r1,na1,nb1,o1,ac1,bc1⟩:=c1
  cases r1 with
  | some r=>rfl
  | none =>
   dsimp only
   congr 1
   funext _v
   congr 1
   funext c2
   obtain ⟨r2,na2,nb2,o2,m2,ac2,bc2⟩:=c2
   cases r2 <;> rfl
 ·funext c
  obtain ⟨r,na,nb,o,m⟩:=c
  cases r <;> rfl
section
variable {prog:Program}{w:World}{A:Around}{E:Value->Shared->Prop}{s:Shared}{kd:SortKind}{D:Keyed->Prop}{f:Keyed->Keyed->Bool}{a b:Array Keyed}
structure JH (f:Keyed->Keyed->Bool) (a b:Array Keyed) (na nb:Nat) (out:Array Keyed):Prop where
 s1:SdK f (a.toList.take na++out.toList.reverse)
 s2:SdK f (b.toList.take nb++out.toList.reverse)
 pm:(a.toList.take na++(b.toList.take nb++out.toList.reverse)).Perm (a.toList++b.toList)
theorem yZ {xs:Array Keyed}{i:Nat}(h:i<xs.size):xs.toList.take (i+1)=xs.toList.take i++[xs[i]]:=by
 rw [List.take_add_one,List.getElem?_eq_getElem (by simpa using h)];rfl
theorem Zh (O:OrdK f) {xs:Array Keyed}{i:Nat}(hs:SdK f xs.toList) (h:i<xs.size) {y:Keyed}(hy:y∈xs.toList.take (i+1)):f xs[i] y=false:=by
 rw [yZ h] at hy
 rcases List.mem_append.mp hy with hy | hy
 ·have:SdK f (xs.toList.take (i+1)):=List.Pairwise.sublist (List.take_sublist _ _) hs
  rw [yZ h] at this
  exact (qL.mp this).2.2 y hy _ (qz.mpr rfl)
 ·rw [qz.mp hy]
  exact O.irr _
theorem JH.pushA (O:OrdK f) (hb:Both D f a b) (j:JH f a b na nb out) (h1:0<na) (h2:na<=a.size) (h3:0<nb) (h4:nb<=b.size) (h:f (a[na - 1]'(by omega)) (b[nb - 1]'(by omega))=false):JH f a b (na - 1) nb (out.push (a[na - 1]'(by omega))):=by
 have e:=yZ (xs:=a) (i:=na - 1) (by omega)
 rw [show na - 1+1=na by omega] at e
 have s1:=j.s1
 have pm:=j.pm
 rw [e] at s1 pm
 obtain ⟨g1,g2⟩:=qjW s1 j.s2 (fun x hx y hy=>by
  rw [qz.mp hx]
  have:=Zh O hb.sb (i:=nb - 1) (by omega) (y:=y) (by rw [show nb - 1+1=nb by omega];exact hy)
  exact O.le this h)
 refine ⟨by simpa using g1,by simpa using g2,?_⟩
 refine List.Perm.trans ?_ pm
 rw [List.append_assoc]
 refine List.Perm.append_left _ ?_
 simp only [Array.toList_push,List.reverse_append,List.reverse_cons,List.reverse_nil,List.nil_append]
 exact List.perm_middle
theorem JH.pushB (O:OrdK f) (hb:Both D f a b) (j:JH f a b na nb out) (h1:0<na) (h2:na<=a.size) (h3:0<nb) (h4:nb<=b.size) (h:f (b[nb - 1]'(by omega)) (a[na - 1]'(by omega))=false):JH f a b na (nb - 1) (out.push (b[nb - 1]'(by omega))):=by
 have e:=yZ (xs:=b) (i:=nb - 1) (by omega)
 rw [show nb - 1+1=nb by omega] at e
 have s2:=j.s2
 have pm:=j.pm
 rw [e] at s2 pm
 obtain ⟨g1,g2⟩:=qjW s2 j.s1 (fun x hx y hy=>by
  rw [qz.mp hx]
  have:=Zh O hb.sa (i:=na - 1) (by omega) (y:=y) (by rw [show na - 1+1=na by omega];exact hy)
  exact O.le this h)
 refine ⟨by simpa using g2,by simpa using g1,?_⟩
 refine List.Perm.trans ?_ pm
 refine List.Perm.append_left _ ?_
 simp
theorem qdz (xs:Array Keyed) {i n:Nat}(h:i<=n) (hn:n<=xs.size):xs.toList.take n=xs.toList.take i++(xs.extract i n).toList:=by
 have e:(xs.extract i n).toList=(xs.toList.drop i).take (n - i):=by simp [Array.toList_extract,List.extract_eq_take_drop]
 rw [e,<- List.drop_take]
 have:=(qw i (xs.toList.take n)).symm
 rwa [List.take_take,Nat.min_eq_left h] at this
theorem JH.chunkA (O:OrdK f) (hb:Both D f a b) (j:JH f a b na nb out) {k:Nat}(hk:k<=na) (h2:na<=a.size) (h3:0<nb) (h4:nb<=b.size) (h:∀ x∈(a.extract k na).toList,f x (b[nb - 1]'(by omega))=false):JH f a b k nb (out++(a.extract k na).reverse):=by
 have s1:=j.s1
 have pm:=j.pm
 rw [qdz a hk h2] at s1 pm
 obtain ⟨g1,g2⟩:=qjW s1 j.s2 (fun x hx y hy=>by
  have:=Zh O hb.sb (i:=nb - 1) (by omega) (y:=y) (by rw [show nb - 1+1=nb by omega];exact hy)
  exact O.le this (h x hx))
 refine ⟨by simpa using g1,by simpa using g2,?_⟩
 refine List.Perm.trans ?_ pm
 rw [List.append_assoc]
 refine List.Perm.append_left _ ?_
 simp only [Array.toList_append,Array.toList_reverse,List.reverse_append,List.reverse_reverse]
 rw [<- List.append_assoc,<- List.append_assoc]
 exact List.Perm.append_right _ List.perm_append_comm
theorem JH.chunkB (O:OrdK f) (hb:Both D f a b) (j:JH f a b na nb out) {k:Nat}(hk:k<=nb) (h2:nb<=b.size) (h3:0<na) (h4:na<=a.size) (h:∀ x∈(b.extract k nb).toList,f x (a[na - 1]'(by omega))=false):JH f a b na k (out++(b.extract k nb).reverse):=by
 have s2:=j.s2
 have pm:=j.pm
 rw [qdz b hk h2] at s2 pm
 obtain ⟨g1,g2⟩:=qjW s2 j.s1 (fun x hx y hy=>by
  have:=Zh O hb.sa (i:=na - 1) (by omega) (y:=y) (by rw [show na - 1+1=na by omega];exact hy)
  exact O.le this (h x hx))
 refine ⟨by simpa using g2,by simpa using g1,?_⟩
 refine List.Perm.trans ?_ pm
 refine List.Perm.append_left _ ?_
 simp
theorem qfU (xs:Array Keyed) (n:Nat):(xs.extract 0 n).toList=xs.toList.take n:=by simp [Array.toList_extract,List.extract_eq_take_drop]
theorem JH.done (j:JH f a b na nb out) (h:na=0\/nb=0):Js f a b (YE a b out na nb):=by
 unfold YE
 refine ⟨?_,?_⟩
 ·rw [Array.toList_append,Array.toList_append,qfU,qfU,Array.toList_reverse]
  rcases h with rfl | rfl
  ·simpa using j.s2
  ·simpa using j.s1
 ·rw [Array.toList_append,Array.toList_append,qfU,qfU,Array.toList_reverse,List.append_assoc]
  exact j.pm
theorem JH.firstB (O:OrdK f) (hb:Both D f a b) (j:JH f a b na nb out) (h:nb=1):Js f a b (YR a b out na nb):=by
 subst h
 have nb:=hb.nb
 have e:b.toList.take 1=[b[0]'nb]:=by
  have:=yZ (xs:=b) (i:=0) nb
  simpa using this
 unfold YR
 refine ⟨?_,?_⟩
 ·rw [Array.toList_append,Array.toList_append,qfU,qfU,Array.toList_reverse]
  have s2:=j.s2
  rw [e] at s2 ⊢
  unfold SdK at *
  obtain ⟨_,_,g3⟩:=qL.mp s2
  rw [List.append_assoc]
  refine qL.mpr ⟨List.pairwise_singleton _ _,j.s1,fun x hx y hy=>?_⟩
  rcases List.mem_append.mp hy with z | z
  ·rw [qz.mp hx]
   have h1:=Yo O hb.sa hb.na (y:=y) (by rw [List.drop_zero];exact List.mem_of_mem_take z)
   exact O.le (O.asym _ _ hb.first) h1
  ·exact g3 x hx y z
 ·rw [Array.toList_append,Array.toList_append,qfU,qfU,Array.toList_reverse,List.append_assoc]
  refine List.Perm.trans ?_ j.pm
  rw [<- List.append_assoc,<- List.append_assoc]
  exact List.Perm.append_right _ List.perm_append_comm
def InH (f:Keyed->Keyed->Bool) (a b:Array Keyed) (na nb:Nat) (out:Array Keyed):Prop:=JH f a b na nb out/\0<na/\na<=a.size/\1<nb/\nb<=b.size
def qfm (f:Keyed->Keyed->Bool) (a b:Array Keyed) (st:SortSt) (n0:Nat) (r:ForInStep GH) (st':SortSt):Prop:=yp st st'/\match r with
 | .done (some o,_)=>Js f a b o
 | .done (none,na,nb,out,_)=>InH f a b na nb out/\na+nb<=n0
 | .yield (none,na,nb,out,_)=>InH f a b na nb out/\na+nb<=n0
 | .yield (some _,_)=>False
theorem qce (O:OrdK f) (hb:Both D f a b) {st0 st:SortSt}(hst:yp st0 st) {out:Array Keyed}{na nb mg ac bc n0:Nat}(j:InH f a b na nb out) (hn:na+nb<=n0) (h:∀ h1 h2,f (a[na - 1]'h1) (b[nb - 1]'h2)=false) :
  wpS (model prog w) A E s (qj0 a b na nb out mg ac bc) (qfm f a b st0 n0) st:=by
 obtain ⟨j,h1,h2,h3,h4⟩:=j
 unfold qj0
 refine qi (yi (show na - 1<a.size by omega) ?_)
 have j2:=j.pushA O hb h1 h2 (by omega) h4 (h (by omega) (by omega))
 by_cases e:na - 1=0
 ·rw [if_pos (by simpa using e)]
  exact ql ⟨hst,j2.done (.inl e)⟩
 ·rw [if_neg (by simpa using e)]
  split
  ·exact ql ⟨hst,⟨j2,by omega,by omega,h3,h4⟩,by omega⟩
  ·exact ql ⟨hst,⟨j2,by omega,by omega,h3,h4⟩,by omega⟩
theorem qdA {xs:Array Keyed}{k n:Nat}(hn:n<=xs.size) {x:Keyed}(hx:x∈(xs.extract k n).toList):x∈(xs.toList.take n).drop k:=by
 have e:(xs.extract k n).toList=(xs.toList.drop k).take (n - k):=by simp [Array.toList_extract,List.extract_eq_take_drop]
 rw [e,<- List.drop_take] at hx
 exact hx
theorem qga (hA:Ask prog w A E s kd D f) (O:OrdK f) (hb:Both D f a b) {st0 st:SortSt}(hk:kindOf st0=kd) (hst:yp st0 st) {out:Array Keyed}{na nb mg ac bc n0:Nat}(j:InH f a b na nb out) (hn:na+nb<=n0) :
  wpS (model prog w) A E s (hiG3 a b na nb out mg ac bc) (qfm f a b st0 n0) st:=by
 obtain ⟨j,h1,h2,h3,h4⟩:=j
 unfold hiG3
 refine qi (yi (show na - 1<a.size by omega) ?_)
 refine qi (YG hA O (hst.1.trans hk) (b.toList.take nb) (by simp;omega) (fun i hi=>?_) (hb.da _ (by simp)) (fun x hx=>hb.db x (List.mem_of_mem_take hx)) (by omega) (List.Pairwise.sublist (List.take_sublist _ _) hb.sb) fun k hk1 hk2 hk3=>?_)
 ·have hi:i<nb:=by simp at hi;omega
  rw [Nat.zero_add,List.getElem?_take,if_pos hi,qp]
 have hge:∀ x∈(b.extract k nb).toList,f x (a[na - 1]'(by omega))=false:=fun x hx=>hk3 x (qdA h4 hx)
 have hlt:∀ x∈(b.toList.take nb).take k,f x (a[na - 1]'(by omega))=true:=fun x hx=>hk2 x hx
 have j2:=j.chunkB O hb hk1 h4 h1 h2 hge
 have nxt:∀ (h0:0<k) (z1:na - 1<a.size) (z2:k - 1<b.size),f (a[na - 1]'z1) (b[k - 1]'z2)=false:=fun h0 z1 z2=>O.asym _ _ (hlt _ (by
  rw [List.take_take,Nat.min_eq_left hk1]
  have:=yZ (xs:=b) (i:=k - 1) z2
  rw [show k - 1+1=k by omega] at this
  rw [this]
  exact qf _ (qz.mpr rfl)))
 dsimp only
 by_cases hk0:nb - k > 0
 ·rw [if_pos hk0]
  by_cases e:k=1
  ·rw [if_pos (by simpa using e)]
   exact ql ⟨hst,j2.firstB O hb e⟩
  ·rw [if_neg (by simpa using e)]
   by_cases e2:k=0
   ·rw [if_pos (by simpa using e2)]
    exact ql ⟨hst,j2.done (.inr e2)⟩
   ·rw [if_neg (by simpa using e2)]
    exact qce O hb hst ⟨j2,h1,h2,by omega,by omega⟩ (by omega) (nxt (by omega))
 ·rw [if_neg hk0]
  have:k=nb:=by omega
  subst this
  exact qce O hb hst ⟨j,h1,h2,h3,h4⟩ hn (nxt (by omega))
theorem qcf (hA:Ask prog w A E s kd D f) (O:OrdK f) (hb:Both D f a b) {st0 st:SortSt}(hk:kindOf st0=kd) (hst:yp st0 st) {out:Array Keyed}{na nb mg ac bc n0:Nat}(j:InH f a b na nb out) (hn:na+nb<=n0) (h:∀ h1 h2,f (b[nb - 1]'h2) (a[na - 1]'h1)=false) :
  wpS (model prog w) A E s (qj1 a b na nb out mg ac bc) (qfm f a b st0 n0) st:=by
 obtain ⟨j,h1,h2,h3,h4⟩:=j
 unfold qj1
 refine qi (yi (show nb - 1<b.size by omega) ?_)
 have j2:=j.pushB O hb h1 h2 (by omega) h4 (h (by omega) (by omega))
 by_cases e:nb - 1=1
 ·rw [if_pos (by simpa using e)]
  exact ql ⟨hst,j2.firstB O hb e⟩
 ·rw [if_neg (by simpa using e)]
  exact qga hA O hb hk hst ⟨j2,h1,h2,by omega,by omega⟩ (by omega)
theorem qcg (hA:Ask prog w A E s kd D f) (O:OrdK f) (hb:Both D f a b) {st0 st:SortSt}(hk:kindOf st0=kd) (hst:yp st0 st) {out:Array Keyed}{na nb mg ac bc n0:Nat}(j:InH f a b na nb out) (hn:na+nb<=n0) :
  wpS (model prog w) A E s (qj2 a b na nb out mg ac bc) (qfm f a b st0 n0) st:=by
 obtain ⟨j,h1,h2,h3,h4⟩:=j
 unfold qj2
 rw [yP]
 refine qi (jh ?_)
 have hst2:=hst.trans (show yp st (SortSt.mk' (kindOf st) (arrOf st) (pendingOf st) mg (failedOf st)) from ⟨rfl,rfl,rfl,rfl⟩)
 generalize SortSt.mk' (kindOf st) (arrOf st) (pendingOf st) mg (failedOf st)=st2 at hst2 ⊢
 refine qi (yi (show nb - 1<b.size by omega) ?_)
 refine qi (YG hA O (hst2.1.trans hk) (a.toList.take na) (by simp;omega) (fun i hi=>?_) (hb.db _ (by simp)) (fun x hx=>hb.da x (List.mem_of_mem_take hx)) (by omega) (List.Pairwise.sublist (List.take_sublist _ _) hb.sa) fun k hk1 hk2 hk3=>?_)
 ·have hi:i<na:=by simp at hi;omega
  rw [Nat.zero_add,List.getElem?_take,if_pos hi,qp]
 have hgt:∀ x∈(a.extract k na).toList,f x (b[nb - 1]'(by omega))=false:=fun x hx=>by
  have:=hk3 x (qdA h2 hx)
  exact O.asym _ _ (by simpa [byd] using this)
 have hle:∀ x∈(a.toList.take na).take k,f (b[nb - 1]'(by omega)) x=false:=fun x hx=>by
  have:=hk2 x hx
  simpa [byd] using this
 have j2:=j.chunkA O hb hk1 h2 (by omega) h4 hgt
 have nxt:∀ (h0:0<k) (z1:k - 1<a.size) (z2:nb - 1<b.size),f (b[nb - 1]'z2) (a[k - 1]'z1)=false:=fun h0 z1 z2=>hle _ (by
  rw [List.take_take,Nat.min_eq_left hk1]
  have:=yZ (xs:=a) (i:=k - 1) z1
  rw [show k - 1+1=k by omega] at this
  rw [this]
  exact qf _ (qz.mpr rfl))
 dsimp only
 by_cases hk0:na - k > 0
 ·rw [if_pos hk0]
  by_cases e:k=0
  ·rw [if_pos (by simpa using e)]
   exact ql ⟨hst2,j2.done (.inl e)⟩
  ·rw [if_neg (by simpa using e)]
   exact qcf hA O hb hk hst2 ⟨j2,by omega,by omega,h3,h4⟩ (by omega) (nxt (by omega))
 ·rw [if_neg hk0]
  have:k=na:=by omega
  subst this
  exact qcf hA O hb hk hst2 ⟨j,h1,h2,h3,h4⟩ hn (nxt (by omega))
def qjL (f:Keyed->Keyed->Bool) (a b:Array Keyed) (st:SortSt) (n0:Nat) (r:CH) (st':SortSt):Prop:=yp st st'/\match r with
 | (some o,_)=>Js f a b o
 | (none,na,nb,out,_)=>InH f a b na nb out/\na+nb<n0
theorem qhU (hA:Ask prog w A E s kd D f) (O:OrdK f) (hb:Both D f a b) {st:SortSt}(hk:kindOf st=kd) {out:Array Keyed}{na nb mg:Nat}(j:InH f a b na nb out) :
  wpS (model prog w) A E s (forIn [0:a.size+b.size] ((none,na,nb,out,0,0):CH) (hiCB a b mg)) (qjL f a b st (na+nb)) st:=by
 have nz:=hb.na
 refine qZ (I:=fun x c st'=>yp st st'/\∃ na' nb' out' ac bc,c=(none,na',nb',out',ac,bc)/\InH f a b na' nb' out'/\na'+nb'+x<=na+nb) ?step ?fin ⟨yp.refl _,na,nb,out,0,0,rfl,j,by omega⟩
 case fin =>
  rintro c st' ⟨hst,na',nb',out',ac,bc,rfl,j',g3⟩
  exact ⟨hst,j',by omega⟩
 case step =>
  rintro x c st' _ hx ⟨hst,na',nb',out',ac,bc,rfl,⟨j',h1,h2,h3,h4⟩,g3⟩
  unfold hiCB
  dsimp only
  refine qi (yi (show nb' - 1<b.size by omega) (qi (yi (show na' - 1<a.size by omega) ?_)))
  refine qi (hA _ _ _ _ (hb.db _ (by simp)) (hb.da _ (by simp)) (hst.1.trans hk) ?_)
  dsimp only
  cases c:f (b[nb' - 1]'(by omega)) (a[na' - 1]'(by omega)) with
  | true =>
   simp only [if_true]
   refine qi (yi (show na' - 1<a.size by omega) ?_)
   have j2:=j'.pushA O hb h1 h2 (by omega) h4 (O.asym _ _ c)
   by_cases e:na' - 1=0
   ·rw [if_pos (by simpa using e)]
    exact ql ⟨hst,j2.done (.inl e)⟩
   ·rw [if_neg (by simpa using e)]
    split
    ·exact ql ⟨hst,⟨j2,by omega,by omega,h3,h4⟩,by omega⟩
    ·exact ql ⟨hst,_,_,_,_,_,rfl,⟨j2,by omega,by omega,h3,h4⟩,by omega⟩
  | false =>
   simp only [Bool.false_eq_true,if_false]
   refine qi (yi (show nb' - 1<b.size by omega) ?_)
   have j2:=j'.pushB O hb h1 h2 (by omega) h4 c
   by_cases e:nb' - 1=1
   ·rw [if_pos (by simpa using e)]
    exact ql ⟨hst,j2.firstB O hb e⟩
   ·rw [if_neg (by simpa using e)]
    split
    ·exact ql ⟨hst,⟨j2,h1,h2,by omega,by omega⟩,by omega⟩
    ·exact ql ⟨hst,_,_,_,_,_,rfl,⟨j2,h1,h2,by omega,by omega⟩,by omega⟩
def qjI (f:Keyed->Keyed->Bool) (a b:Array Keyed) (st:SortSt) (n0:Nat) (r:GH) (st':SortSt):Prop:=yp st st'/\match r with
 | (some o,_)=>Js f a b o
 | (none,na,nb,out,_)=>InH f a b na nb out/\na+nb<=n0
theorem qhT (hA:Ask prog w A E s kd D f) (O:OrdK f) (hb:Both D f a b) {st0 st:SortSt}(hk:kindOf st0=kd) (hst:yp st0 st) {out:Array Keyed}{na nb mg ac bc:Nat}(j:InH f a b na nb out) :
  wpS (model prog w) A E s (forIn [0:a.size+b.size] ((none,na,nb,out,mg,ac,bc):GH) (hiGB a b)) (qjI f a b st0 (na+nb)) st:=by
 refine qZ (I:=fun x c st'=>yp st0 st'/\∃ na' nb' out' mg ac bc,c=(none,na',nb',out',mg,ac,bc)/\InH f a b na' nb' out'/\na'+nb'<=na+nb) ?step ?fin ⟨hst,na,nb,out,mg,ac,bc,rfl,j,by omega⟩
 case fin =>
  rintro c st' ⟨hst,na',nb',out',mg,ac,bc,rfl,j',g3⟩
  exact ⟨hst,j',g3⟩
 case step =>
  rintro x c st' _ hx ⟨hst,na',nb',out',mg,ac,bc,rfl,j',g3⟩
  unfold hiGB
  dsimp only
  split
  ·refine yR (qcg hA O hb hk hst j' g3) fun r st'' h=>?_
   obtain ⟨h0,h⟩:=h
   match r,h with
   | .done (some o,_),h=>exact ⟨h0,h⟩
   | .done (none,na,nb,out,_),h=>exact ⟨h0,h⟩
   | .yield (none,na,nb,out,m,c,d),h=>exact ⟨h0,_,_,_,_,_,_,rfl,h⟩
  ·refine yR (qcg hA O hb hk hst j' g3) fun r st'' h=>?_
   obtain ⟨h0,h⟩:=h
   match r,h with
   | .done (some o,_),h=>exact ⟨h0,h⟩
   | .done (none,na,nb,out,_),h=>exact ⟨h0,h⟩
   | .yield (none,na,nb,out,m,c,d),h=>exact ⟨h0,_,_,_,_,_,_,rfl,h⟩
theorem qbL (hA:Ask prog w A E s kd D f) (O:OrdK f) (hb:Both D f a b) {st:SortSt}(hk:kindOf st=kd) {Q:Array Keyed->SortSt->Prop}(q:∀ o st',yp st st'->Js f a b o->Q o st') :
  wpS (model prog w) A E s (Yb a b) Q st:=by
 have na:=hb.na
 have nb:=hb.nb
 rw [qaz]
 refine qi (wpS_lift (jD ⟨rfl,?_⟩))
 refine qi (yi (show a.size - 1<a.size by omega) ?_)
 have j0:JH f a b a.size b.size #[]:=⟨by rw [<- Array.length_toList,yu];simpa using hb.sa,by rw [<- Array.length_toList,yu];simpa using hb.sb,by rw [<- Array.length_toList,yu,<- Array.length_toList,yu];simp⟩
 have j1:JH f a b (a.size - 1) b.size #[a[a.size - 1]]:=by
  have:=j0.pushA O hb na (qj _) nb (qj _) (O.asym _ _ (hb.last _ (by simp)))
  simpa using this
 by_cases e:a.size - 1=0
 ·rw [if_pos (by simpa using e)]
  exact ql (q _ _ (yp.refl _) (j1.done (.inl e)))
 ·rw [if_neg (by simpa using e)]
  by_cases e2:b.size=1
  ·rw [if_pos (by simpa using e2)]
   exact ql (q _ _ (yp.refl _) (j1.firstB O hb e2))
  ·rw [if_neg (by simpa using e2)]
   refine qi (wpS_get ?_)
   refine qi (yR (qZ (I:=fun x c st'=>yp st st'/\∃ na nb out mg,c=(none,na,nb,out,mg)/\InH f a b na nb out/\na+nb+x<=a.size+b.size)
    (Q:=fun c st'=>yp st st'/\∃ o r,c=(some o,r)/\Js f a b o) ?step ?fin ⟨yp.refl _,_,_,_,_,rfl,⟨j1,by omega,by omega,by omega,qj _⟩,by omega⟩) ?post)
   case fin =>
    rintro c st' ⟨hst,na,nb,out,mg,rfl,⟨j,g1,g2,g3,g4⟩,g5⟩
    omega
   case post =>
    rintro c st' ⟨hst,o,r,rfl,h⟩
    exact ql (q o st' hst h)
   case step =>
    rintro x c st' _ hx ⟨hst,na,nb,out,mg,rfl,j,g3⟩
    unfold hiOB
    dsimp only
    refine qi (yR (qhU hA O hb (hst.1.trans hk) j) ?_)
    rintro c1 st1 ⟨hst1,h⟩
    match c1,h with
    | (some o,na,nb,out,_),h=>exact ql ⟨hst.trans hst1,o,_,rfl,h⟩
    | (none,na1,nb1,out1,ac,bc),⟨j1,k3⟩ =>
     dsimp only
     refine qi (wpS_lift (jD ⟨rfl,?_⟩))
     refine qi (yR (qhT hA O hb hk (hst.trans hst1) j1) ?_)
     rintro c2 st2 ⟨hst2,h⟩
     match c2,h with
     | (some o,na,nb,out,mg,_),h=>exact ql ⟨hst2,o,_,rfl,h⟩
     | (none,na2,nb2,out2,mg2,ac,bc),⟨j2,l3⟩ =>
      dsimp only
      rw [yP]
      refine qi (jh (ql ⟨hst2.trans ⟨rfl,rfl,rfl,rfl⟩,_,_,_,_,rfl,j2,by omega⟩))
end
end L2
namespace L2
open PySem PySem.Spec PyProof.Rows PySem.W
abbrev kD (xs:Array Keyed) (i:Nat):Keyed:=xs.getD i (.none,.none)
theorem qdj {xs ys:Array Keyed}{i j:Nat}(h:xs[i]?=ys[j]?):kD xs i=kD ys j:=by
 simp only [kD,Array.getD_eq_getD_getElem?,h]
theorem qdm {xs:Array Keyed}{i:Nat}(h:i<xs.size):xs[i]?=some (kD xs i):=by
 rw [Array.getElem?_eq_getElem h];simp [kD,Array.getD,h]
structure SV (lo:Nat) (st0 st:SortSt):Prop where
 kind:kindOf st=kindOf st0
 pend:pendingOf st=pendingOf st0
 fail:failedOf st=failedOf st0
 perm:(arrOf st).Perm (arrOf st0)
 pre:∀ k,k<lo->(arrOf st)[k]?=(arrOf st0)[k]?
theorem SV.refl (lo:Nat) (st:SortSt):SV lo st st:=⟨rfl,rfl,rfl,Array.Perm.refl _,fun _ _=>rfl⟩
theorem SV.size {lo:Nat}{st0 st:SortSt}(h:SV lo st0 st):(arrOf st).size=(arrOf st0).size:=h.perm.size_eq
theorem SV.trans {lo:Nat}{a b c:SortSt}(h:SV lo a b) (g:SV lo b c):SV lo a c:=⟨g.kind.trans h.kind,g.pend.trans h.pend,g.fail.trans h.fail,g.perm.trans h.perm,fun k hk=>(g.pre k hk).trans (h.pre k hk)⟩
def mir (xs:Array Keyed) (i j:Nat):Array Keyed:=mirror xs i j ((j - i) / 2)
theorem qdk {xs:Array Keyed}{i j:Nat}(hj:j<=xs.size) (k:Nat):kD (mir xs i j) k=if i<=k/\k<j then kD xs (i+j - 1 - k) else kD xs k:=by
 have e:=getElem?_mirror_all (i:=i) hj k
 unfold mir
 by_cases h1:i<=k/\k<j
 ·rw [if_pos h1] at e ⊢;exact qdj e
 ·rw [if_neg h1] at e ⊢;exact qdj e
theorem SV.mir {lo:Nat}{st0 st:SortSt}(h:SV lo st0 st) {i j:Nat}(hi:lo<=i) (hj:j<=(arrOf st).size):SV lo st0 (setArr st (L2.mir (arrOf st) i j)):=by
 refine ⟨h.kind,h.pend,h.fail,(mirror_perm _ _ _ _).trans h.perm,fun k hk=>?_⟩
 show (L2.mir (arrOf st) i j)[k]?=_
 unfold L2.mir
 rw [getElem?_mirror_all hj,if_neg (by omega)]
 exact h.pre k hk
section
variable {f:Keyed->Keyed->Bool}
def UpL (f:Keyed->Keyed->Bool) (lo:Nat) (p:Array Keyed) (k:Nat):Prop:=∀ i j,i<=j->j<k->f (kD p (lo+j)) (kD p (lo+i))=false
def DnL (f:Keyed->Keyed->Bool) (lo:Nat) (p:Array Keyed) (k:Nat):Prop:=∀ i j,i<=j->j<k->f (kD p (lo+i)) (kD p (lo+j))=false
def Yx (f:Keyed->Keyed->Bool) (a b:Keyed):Prop:=f a b=false/\f b a=false
theorem Yx.refl (O:OrdK f) (a:Keyed):Yx f a a:=⟨O.irr a,O.irr a⟩
theorem Yx.symm {a b:Keyed}(h:Yx f a b):Yx f b a:=⟨h.2,h.1⟩
theorem Yx.trans (O:OrdK f) {a b c:Keyed}(h:Yx f a b) (g:Yx f b c):Yx f a c:=⟨O.le g.1 h.1,O.le h.2 g.2⟩
theorem qji (O:OrdK f) {a b c:Keyed}(h:Yx f a b):f a c=f b c:=by
 cases h1:f b c with
 | true=>exact O.lel h.2 h1
 | false =>
  cases h2:f a c with
  | false=>rfl
  | true =>
   have:=O.lel h.1 h2
   rw [h1] at this;cases this
theorem qjh (O:OrdK f) {a b c:Keyed}(h:Yx f a b):f c a=f c b:=by
 cases h1:f c b with
 | true=>exact O.ltl h1 h.1
 | false =>
  cases h2:f c a with
  | false=>rfl
  | true =>
   have:=O.ltl h2 h.2
   rw [h1] at this;cases this
theorem UpL.one (O:OrdK f) (lo:Nat) (p:Array Keyed):UpL f lo p 1:=fun i j h1 h2=>by
 have:i=j:=by omega
 subst this;exact O.irr _
theorem UpL.succ (O:OrdK f) {lo:Nat}{p:Array Keyed}{k:Nat}(h0:1<=k) (h:UpL f lo p k) (g:f (kD p (lo+k)) (kD p (lo+k - 1))=false):UpL f lo p (k+1):=fun i j hij hj=>by
 by_cases e:j=k
 ·subst e
  by_cases e2:i=j
  ·subst e2;exact O.irr _
  ·have:=h i (j - 1) (by omega) (by omega)
   rw [show lo+(j - 1)=lo+j - 1 by omega] at this
   exact O.le this g
 ·exact h i j hij (by omega)
theorem DnL.succ (O:OrdK f) {lo:Nat}{p:Array Keyed}{k:Nat}(h0:1<=k) (h:DnL f lo p k) (g:f (kD p (lo+k - 1)) (kD p (lo+k))=false):DnL f lo p (k+1):=fun i j hij hj=>by
 by_cases e:j=k
 ·subst e
  by_cases e2:i=j
  ·subst e2;exact O.irr _
  ·have:=h i (j - 1) (by omega) (by omega)
   rw [show lo+(j - 1)=lo+j - 1 by omega] at this
   exact O.le g this
 ·exact h i j hij (by omega)
theorem DnL.eqv (O:OrdK f) {lo:Nat}{p q:Array Keyed}{k:Nat}(h:DnL f lo p k) (e:∀ i,Yx f (kD q i) (kD p i)):DnL f lo q k:=fun i j h1 h2=>by
 rw [qji O (e _),qjh O (e _)];exact h i j h1 h2
theorem Y7 (O:OrdK f) {p:Array Keyed}{i j:Nat}(hj:j<=p.size) (h:∀ a b,i<=a->a<j->i<=b->b<j->Yx f (kD p a) (kD p b)) (k:Nat):Yx f (kD (mir p i j) k) (kD p k):=by
 rw [qdk hj]
 split
 ·exact h _ _ (by omega) (by omega) (by omega) (by omega)
 ·exact Yx.refl O _
theorem UpL.ofRev {lo:Nat}{p:Array Keyed}{k:Nat}(hk:lo+k<=p.size) (h:DnL f lo p k):UpL f lo (mir p lo (lo+k)) k:=fun i j h1 h2=>by
 rw [qdk hk,qdk hk,if_pos (by omega),if_pos (by omega)]
 have:=h (k - 1 - j) (k - 1 - i) (by omega) (by omega)
 rw [show lo+(lo+k) - 1 - (lo+j)=lo+(k - 1 - j) by omega,show lo+(lo+k) - 1 - (lo+i)=lo+(k - 1 - i) by omega]
 exact this
end
def qjD (lo a nrem:Nat):StateT SortSt Sem (Option (Option Nat)×Nat) :=
 forIn [a:nrem] ((none,a):Option (Option Nat)×Nat) fun _ c=>do
  let x <- ltAt' (lo+c.2) (lo+c.2 - 1)
  match x with
  | some smaller=>if smaller=true then pure (ForInStep.done (none,c.2)) else pure (ForInStep.yield (none,c.2+1))
  | _=>pure (ForInStep.done (some none,c.2))
def ZF (lo n nrem:Nat):StateT SortSt Sem (Option Nat):=do
 reverseSlice' lo (lo+n)
 let c <- qjD lo n nrem
 match c.1 with
 | some r=>pure r
 | none=>pure (some c.2)
def qe9 (lo n nrem:Nat):StateT SortSt Sem (Option (Option Nat)×Nat×Nat) :=
 forIn [n:nrem] ((none,n,0):Option (Option Nat)×Nat×Nat) fun _ c=>do
  let x <- ltAt' (lo+c.2.1) (lo+c.2.1 - 1)
  match x with
  | some smaller =>
   if smaller=true then
    if c.2.2 > 0 then do
     reverseSlice' (lo+c.2.1 - (c.2.2+1)) (lo+c.2.1)
     pure (ForInStep.yield (none,c.2.1+1,0))
    else pure (ForInStep.yield (none,c.2.1+1,0))
   else do
    let y <- ltAt' (lo+c.2.1 - 1) (lo+c.2.1)
    match y with
    | some larger =>
     if larger=true then pure (ForInStep.done (none,c.2.1,c.2.2))
     else pure (ForInStep.yield (none,c.2.1+1,c.2.2+1))
    | _=>pure (ForInStep.done (some none,c.2.1,c.2.2))
  | _=>pure (ForInStep.done (some none,c.2.1,c.2.2))
def j9 (lo n nrem:Nat):StateT SortSt Sem (Option Nat):=do
 liftM (rule "list.sort.descending-run")
 let c <- qe9 lo (n+1) nrem
 match c.1 with
 | some r=>pure r
 | none =>
  if c.2.2 > 0 then do
   reverseSlice' (lo+c.2.1 - (c.2.2+1)) (lo+c.2.1)
   ZF lo c.2.1 nrem
  else ZF lo c.2.1 nrem
theorem Z8 (lo nrem:Nat):countRun' lo nrem=(do
  let c <- qjD lo 1 nrem
  match c.1 with
  | some r=>pure r
  | none =>
   if (c.2 == nrem)=true then pure (some c.2)
   else if c.2 > 1 then do
    let x <- ltAt' lo (lo+c.2 - 1)
    match x with
    | some rose=>if rose=true then pure (some c.2) else do
      reverseSlice' lo (lo+c.2)
      j9 lo c.2 nrem
    | _=>pure none
   else j9 lo c.2 nrem):=by
 rw [countRun'_eq]
 unfold j9 ZF qe9 qjD
 dsimp only
 congr 1
 funext c
 obtain ⟨r,n⟩:=c
 cases r with
 | some r=>rfl
 | none =>
  dsimp only
  split
  ·rfl
  ·split
   ·congr 1
    funext x
    cases x with
    | none=>rfl
    | some rose =>
     dsimp only
     split
     ·rfl
     ·congr 1
      funext _r
      congr 1
      funext _u
      congr 1
      funext s2
      obtain ⟨r2,n2,q2⟩:=s2
      cases r2 with
      | some r2=>rfl
      | none =>
       dsimp only
       split
       ·congr 1
        funext _v
        congr 1
        funext _w
        congr 1
        funext s3
        obtain ⟨r3,n3⟩:=s3
        cases r3 <;> rfl
       ·congr 1
        funext _w
        congr 1
        funext s3
        obtain ⟨r3,n3⟩:=s3
        cases r3 <;> rfl
   ·congr 1
    funext _u
    congr 1
    funext s2
    obtain ⟨r2,n2,q2⟩:=s2
    cases r2 with
    | some r2=>rfl
    | none =>
     dsimp only
     split
     ·congr 1
      funext _v
      congr 1
      funext _w
      congr 1
      funext s3
      obtain ⟨r3,n3⟩:=s3
      cases r3 <;> rfl
     ·congr 1
      funext _w
      congr 1
      funext s3
      obtain ⟨r3,n3⟩:=s3
      cases r3 <;> rfl
section
variable {prog:Program}{w:World}{A:Around}{E:Value->Shared->Prop}{s:Shared}{kd:SortKind}{D:Keyed->Prop}{f:Keyed->Keyed->Bool}{st0:SortSt}{lo nrem:Nat}
def qb9 (D:Keyed->Prop) (st:SortSt):Prop:=∀ x∈(arrOf st).toList,D x
theorem qb9.of {st st':SortSt}(h:qb9 D st) (p:(arrOf st').Perm (arrOf st)):qb9 D st':=fun x hx=>h x ((yv.mp p).mem_iff.mp hx)
theorem Yg (hA:Ask prog w A E s kd D f) {st:SortSt}(hk:kindOf st=kd) (hD:qb9 D st) {i j:Nat}(hi:i<(arrOf st).size) (hj:j<(arrOf st).size) {Q:Option Bool->SortSt->Prop}(q:Q (some (f (kD (arrOf st) i) (kD (arrOf st) j))) st):wpS (model prog w) A E s (ltAt' i j) Q st:=by
 rw [ltAt'_eq]
 refine qi (wpS_get ?_)
 show wpS _ _ _ _ (do let x <- elem' (arrOf st) i;let y <- elem' (arrOf st) j;lt' x y) Q st
 rw [elem'_eq,elem'_eq,qdm hi,qdm hj]
 refine qi (ql (qi (ql ?_)))
 have mem:∀ i,i<(arrOf st).size->kD (arrOf st) i∈(arrOf st).toList:=fun i h=>by
  have e:kD (arrOf st) i=(arrOf st)[i]:=by simp [kD,Array.getD,h]
  rw [e];simp
 exact hA _ _ _ _ (hD _ (mem i hi)) (hD _ (mem j hj)) hk q
theorem qcj (hA:Ask prog w A E s kd D f) (O:OrdK f) {st:SortSt}(hk:kindOf st=kd) (hD:qb9 D st) (hn:lo+nrem<=(arrOf st).size) {a:Nat}(ha:1<=a) (han:a<=nrem) (hs:UpL f lo (arrOf st) a) {Q:Option (Option Nat)×Nat->SortSt->Prop}
  (q:∀ n,a<=n->n<=nrem->UpL f lo (arrOf st) n->(n<nrem->f (kD (arrOf st) (lo+n)) (kD (arrOf st) (lo+n - 1))=true)->Q (none,n) st):wpS (model prog w) A E s (qjD lo a nrem) Q st:=by
 unfold qjD
 refine qZ (I:=fun x c st'=>st'=st/\c=(none,x)/\UpL f lo (arrOf st) x) ?step ?fin ⟨rfl,rfl,hs⟩
 case fin =>
  rintro c st' ⟨rfl,rfl,hs'⟩
  rw [show max a nrem=nrem by omega] at hs' ⊢
  exact q nrem han (qj _) hs' fun z=>absurd z (by omega)
 case step =>
  rintro x c st' hax hxn ⟨rfl,rfl,hs'⟩
  dsimp only
  refine qi (Yg hA hk hD (by omega) (by omega) ?_)
  dsimp only
  cases c:f (kD (arrOf st') (lo+x)) (kD (arrOf st') (lo+x - 1)) with
  | true =>
   simp only [if_true]
   exact ql (q x hax (by omega) hs' fun _=>c)
  | false =>
   simp only [Bool.false_eq_true,if_false]
   exact ql ⟨rfl,rfl,hs'.succ O (by omega) c⟩
theorem qaZ {st:SortSt}{i j:Nat}{Q:Unit->SortSt->Prop}(h:Q () (setArr st (mir (arrOf st) i j))):wpS (model prog w) A E s (reverseSlice' i j) Q st:=by
 rw [reverseSlice'_eq];exact jh h
def RunP (f:Keyed->Keyed->Bool) (lo nrem:Nat) (st0:SortSt) (Q:Option Nat->SortSt->Prop):Prop:=∀ n st',SV lo st0 st'->1<=n->n<=nrem->UpL f lo (arrOf st') n->Q (some n) st'
theorem ZC (hA:Ask prog w A E s kd D f) (O:OrdK f) (hk:kindOf st0=kd) (hD:qb9 D st0) (hn:lo+nrem<=(arrOf st0).size) {st:SortSt}(hv:SV lo st0 st) {n:Nat}(h1:1<=n) (h2:n<=nrem) (h3:DnL f lo (arrOf st) n) {Q:Option Nat->SortSt->Prop}(q:RunP f lo nrem st0 Q) :
  wpS (model prog w) A E s (ZF lo n nrem) Q st:=by
 unfold ZF
 have hz:=hv.size
 refine qi (qaZ ?_)
 have hv2:=hv.mir (i:=lo) (j:=lo+n) (qj _) (by omega)
 have up:UpL f lo (arrOf (setArr st (mir (arrOf st) lo (lo+n)))) n:=UpL.ofRev (by omega) h3
 generalize setArr st (mir (arrOf st) lo (lo+n))=st2 at hv2 up ⊢
 have hz2:=hv2.size
 refine qi (qcj hA O (hv2.kind.trans hk) (hD.of hv2.perm) (by omega) h1 h2 up fun m a1 a2 a3 _=>?_)
 exact ql (q m st2 hv2 (by omega) a2 a3)
theorem qed (hA:Ask prog w A E s kd D f) (O:OrdK f) (hk:kindOf st0=kd) (hD:qb9 D st0) (hn:lo+nrem<=(arrOf st0).size) {st:SortSt}(hv:SV lo st0 st) {n:Nat}(h1:1<=n) (h2:n<=nrem) (h3:DnL f lo (arrOf st) n) {Q:Option (Option Nat)×Nat×Nat->SortSt->Prop}
  (q:∀ m k st',SV lo st0 st'->k+1<=m->m<=nrem->DnL f lo (arrOf st') m->(∀ a b,lo+m - (k+1)<=a->a<lo+m->lo+m - (k+1)<=b->b<lo+m->Yx f (kD (arrOf st') a) (kD (arrOf st') b))->Q (none,m,k) st') :
  wpS (model prog w) A E s (qe9 lo n nrem) Q st:=by
 unfold qe9
 have one:∀ (p:Array Keyed) (m a b:Nat),1<=m->lo+m - (0+1)<=a->a<lo+m->lo+m - (0+1)<=b->b<lo+m->Yx f (kD p a) (kD p b):=fun p m a b _ _ _ _ _=>by
  have:a=b:=by omega
  subst this;exact Yx.refl O _
 refine qZ (I:=fun x c st'=>SV lo st0 st'/\∃ k,c=(none,x,k)/\k+1<=x/\DnL f lo (arrOf st') x/\(∀ a b,lo+x - (k+1)<=a->a<lo+x->lo+x - (k+1)<=b->b<lo+x->Yx f (kD (arrOf st') a) (kD (arrOf st') b))) ?step ?fin ⟨hv,0,rfl,by omega,h3,fun a b=>one _ n a b h1⟩
 case fin =>
  rintro c st' ⟨hv',k,rfl,g1,g2,g3⟩
  rw [show max n nrem=nrem by omega] at g1 g2 g3 ⊢
  exact q nrem k st' hv' g1 (qj _) g2 g3
 case step =>
  rintro x c st' hnx hx ⟨hv',k,rfl,g1,g2,g3⟩
  dsimp only
  have hz:=hv'.size
  refine qi (Yg hA (hv'.kind.trans hk) (hD.of hv'.perm) (by omega) (by omega) ?_)
  dsimp only
  cases c:f (kD (arrOf st') (lo+x)) (kD (arrOf st') (lo+x - 1)) with
  | true =>
   simp only [if_true]
   have dn:=g2.succ O (by omega) (O.asym _ _ c)
   by_cases hq:k > 0
   ·rw [if_pos hq]
    refine qi (qaZ ?_)
    have ev:=Y7 O (p:=arrOf st') (i:=lo+x - (k+1)) (j:=lo+x) (by omega) g3
    exact ql ⟨hv'.mir (by omega) (by omega),0,rfl,by omega,dn.eqv O ev,fun a b=>one _ _ a b (by omega)⟩
   ·rw [if_neg hq]
    exact ql ⟨hv',0,rfl,by omega,dn,fun a b=>one _ _ a b (by omega)⟩
  | false =>
   simp only [Bool.false_eq_true,if_false]
   refine qi (Yg hA (hv'.kind.trans hk) (hD.of hv'.perm) (by omega) (by omega) ?_)
   dsimp only
   cases d:f (kD (arrOf st') (lo+x - 1)) (kD (arrOf st') (lo+x)) with
   | true =>
    simp only [if_true]
    exact ql (q x k st' hv' g1 (by omega) g2 g3)
   | false =>
    simp only [Bool.false_eq_true,if_false]
    refine ql ⟨hv',k+1,rfl,by omega,g2.succ O (by omega) d,fun a b a1 a2 b1 b2=>?_⟩
    have last:Yx f (kD (arrOf st') (lo+x)) (kD (arrOf st') (lo+x - 1)):=⟨c,d⟩
    have key:∀ y,lo+(x+1) - (k+1+1)<=y->y<lo+(x+1)->Yx f (kD (arrOf st') y) (kD (arrOf st') (lo+x - 1)):=fun y y1 y2=>by
     by_cases e:y=lo+x
     ·subst e;exact last
     ·exact g3 _ _ (by omega) (by omega) (by omega) (by omega)
    exact (key a a1 a2).trans O (key b b1 b2).symm
theorem JT (hA:Ask prog w A E s kd D f) (O:OrdK f) (hk:kindOf st0=kd) (hD:qb9 D st0) (hn:lo+nrem<=(arrOf st0).size) {st:SortSt}(hv:SV lo st0 st) {n:Nat}(h1:1<=n) (h2:n+1<=nrem) (h3:DnL f lo (arrOf st) (n+1)) {Q:Option Nat->SortSt->Prop}(q:RunP f lo nrem st0 Q) :
  wpS (model prog w) A E s (j9 lo n nrem) Q st:=by
 unfold j9
 refine qi (wpS_lift (jD ⟨rfl,?_⟩))
 refine qi (qed hA O hk hD hn hv (by omega) h2 h3 fun m k st' hv' g1 g2 g3 g4=>?_)
 dsimp only
 have hz:=hv'.size
 by_cases hq:k > 0
 ·rw [if_pos hq]
  refine qi (qaZ ?_)
  have ev:=Y7 O (p:=arrOf st') (i:=lo+m - (k+1)) (j:=lo+m) (by omega) g4
  exact ZC hA O hk hD hn (hv'.mir (by omega) (by omega)) (by omega) g2 (g3.eqv O ev) q
 ·rw [if_neg hq]
  exact ZC hA O hk hD hn hv' (by omega) g2 g3 q
theorem qam (hA:Ask prog w A E s kd D f) (O:OrdK f) (hk:kindOf st0=kd) (hD:qb9 D st0) (hn:lo+nrem<=(arrOf st0).size) (h1:1<=nrem) {Q:Option Nat->SortSt->Prop}(q:RunP f lo nrem st0 Q) :
  wpS (model prog w) A E s (countRun' lo nrem) Q st0:=by
 rw [Z8]
 refine qi (qcj hA O hk hD hn (qj _) h1 (UpL.one O lo _) fun m a1 a2 a3 a4=>?_)
 dsimp only
 by_cases e:m=nrem
 ·rw [if_pos (by simpa using e)]
  exact ql (q m st0 (SV.refl _ _) a1 a2 a3)
 ·rw [if_neg (by simpa using e)]
  have hlt:=a4 (by omega)
  by_cases e2:m > 1
  ·rw [if_pos e2]
   refine qi (Yg hA hk hD (by omega) (by omega) ?_)
   dsimp only
   cases c:f (kD (arrOf st0) lo) (kD (arrOf st0) (lo+m - 1)) with
   | true =>
    simp only [if_true]
    exact ql (q m st0 (SV.refl _ _) a1 a2 a3)
   | false =>
    simp only [Bool.false_eq_true,if_false]
    refine qi (qaZ ?_)
    have al:∀ a b,lo<=a->a<lo+m->lo<=b->b<lo+m->Yx f (kD (arrOf st0) a) (kD (arrOf st0) b):=fun a b ha1 ha hb1 hb=>by
     have key:∀ x,lo<=x->x<lo+m->Yx f (kD (arrOf st0) x) (kD (arrOf st0) lo):=fun x hx1 hx=>by
      have k1:=a3 0 (x - lo) (by omega) (by omega)
      have k2:=a3 (x - lo) (m - 1) (by omega) (by omega)
      rw [show lo+(x - lo)=x by omega] at k1 k2
      rw [show lo+(m - 1)=lo+m - 1 by omega] at k2
      exact ⟨k1,O.le k2 c⟩
     exact (key a ha1 ha).trans O (key b hb1 hb).symm
    have ev:=Y7 O (p:=arrOf st0) (i:=lo) (j:=lo+m) (by omega) al
    have dn:DnL f lo (arrOf st0) m:=fun i j hi hj=>(al (lo+i) (lo+j) (by omega) (by omega) (by omega) (by omega)).1
    exact JT hA O hk hD hn ((SV.refl lo st0).mir (qj _) (by omega)) a1 (by omega) ((dn.succ O a1 (O.asym _ _ hlt)).eqv O ev) q
  ·rw [if_neg e2]
   have m1:m=1:=by omega
   subst m1
   have dn:DnL f lo (arrOf st0) 1:=fun i j hi hj=>by
    have:i=j:=by omega
    subst this;exact O.irr _
   exact JT hA O hk hD hn (SV.refl lo st0) (qj _) (by omega) (dn.succ O (qj _) (O.asym _ _ hlt)) q
theorem ZW {xs:Array Keyed}{src d:Nat}(hs:src<xs.size) (hd:d<=src) (k:Nat):kD (bubble xs src d) k=if k=src - d then kD xs src else if src - d<k/\k<=src then kD xs (k - 1) else kD xs k:=by
 have e:=getElem?_bubble hs d hd k
 by_cases h1:k=src - d
 ·rw [if_pos h1] at e ⊢;exact qdj e
 ·rw [if_neg h1] at e ⊢
  by_cases h2:src - d<k/\k<=src
  ·rw [if_pos h2] at e ⊢;exact qdj e
  ·rw [if_neg h2] at e ⊢;exact qdj e
theorem qbM (hA:Ask prog w A E s kd D f) (O:OrdK f) (hk:kindOf st0=kd) (hD:qb9 D st0) {n ok:Nat}(hn:lo+n<=(arrOf st0).size) (hok:ok<=n) (hs:UpL f lo (arrOf st0) ok) {Q:Bool->SortSt->Prop}(q:∀ st',SV lo st0 st'->UpL f lo (arrOf st') n->Q true st') :
  wpS (model prog w) A E s (binarySort' lo n ok) Q st0:=by
 rw [binarySort'_eq]
 refine qi (yR (qZ (I:=fun k c st'=>c=(none,())/\SV lo st0 st'/\UpL f lo (arrOf st') (min k n))
  (Q:=fun c st'=>c=(none,())/\SV lo st0 st'/\UpL f lo (arrOf st') n) ?step ?fin ?init) ?post)
 case post =>
  rintro c st' ⟨rfl,hB',hs'⟩
  exact ql (q st' hB' hs')
 case init =>
  refine ⟨rfl,SV.refl _ _,fun i j hij hj=>?_⟩
  by_cases h1:ok=0
  ·have:i=j:=by omega
   subst this;exact O.irr _
  ·exact hs i j hij (by omega)
 case fin =>
  rintro c st' ⟨hc,hB',hs'⟩
  refine ⟨hc,hB',?_⟩
  rwa [show min (max (max ok 1) n) n=n by omega] at hs'
 case step =>
  rintro k c st' hak hkn ⟨rfl,hB',hs'⟩
  rw [show min k n=k by omega] at hs'
  have hz:=hB'.size
  refine qi (yR (qZ (I:=fun x c st''=>st''=st'/\∃ l r,c=(none,l,r)/\l<=r/\r<=k/\r - l<=k - x ∧
    (∀ i,i<l->f (kD (arrOf st') (lo+k)) (kD (arrOf st') (lo+i))=false)/\(∀ i,r<=i->i<k->f (kD (arrOf st') (lo+k)) (kD (arrOf st') (lo+i))=true))
   (Q:=fun c st''=>st''=st'/\∃ l r,c=(none,l,r)/\l<=k ∧
    (∀ i,i<l->f (kD (arrOf st') (lo+k)) (kD (arrOf st') (lo+i))=false)/\(∀ i,l<=i->i<k->f (kD (arrOf st') (lo+k)) (kD (arrOf st') (lo+i))=true)) ?istep ?ifin ?iinit) ?ipost)
  case iinit=>exact ⟨rfl,0,k,rfl,by omega,by omega,by omega,fun i hi=>by omega,fun i h1 h2=>by omega⟩
  case ifin =>
   rintro c st'' ⟨rfl,l,r,rfl,hlr,hrk,hm,hlo,hhi⟩
   have:l=r:=by omega
   subst this
   exact ⟨rfl,l,l,rfl,hrk,hlo,hhi⟩
  case istep =>
   rintro x c st'' _ hxk ⟨rfl,l,r,rfl,hlr,hrk,hm,hlo,hhi⟩
   dsimp only
   by_cases hge:l ≥ r
   ·rw [if_pos hge]
    have:l=r:=by omega
    subst this
    exact ql ⟨rfl,l,l,rfl,hrk,hlo,hhi⟩
   ·rw [if_neg hge]
    refine qi (Yg hA (hB'.kind.trans hk) (hD.of hB'.perm) (by omega) (by omega) ?_)
    dsimp only
    cases c:f (kD (arrOf st'') (lo+k)) (kD (arrOf st'') (lo+(l+r) / 2)) with
    | true =>
     simp only [if_true]
     refine ql ⟨rfl,l,(l+r) / 2,rfl,by omega,by omega,by omega,hlo,fun i h1 h2=>?_⟩
     exact O.ltl c (hs' _ _ h1 h2)
    | false =>
     simp only [Bool.false_eq_true,if_false]
     refine ql ⟨rfl,(l+r) / 2+1,r,rfl,by omega,by omega,by omega,fun i h1=>?_,hhi⟩
     exact O.le (hs' i ((l+r) / 2) (by omega) (by omega)) c
  case ipost =>
   rintro c st'' ⟨rfl,l,r,rfl,hlk,hlo,hhi⟩
   show wpS _ _ _ _ (do moveDown' (lo+k) (lo+l);pure (ForInStep.yield (none,()))) _ _
   rw [moveDown'_eq]
   have hks:lo+k<(arrOf st'').size:=by omega
   have ed:lo+k - (lo+l)=k - l:=by omega
   refine qi (jh (ql ⟨rfl,⟨hB'.kind,hB'.pend,hB'.fail,(bubble_perm _ _ _).trans hB'.perm,fun j hj=>?_⟩,?_⟩))
   ·show (bubble (arrOf st'') (lo+k) (lo+k - (lo+l)))[j]?=_
    rw [getElem?_bubble hks _ (by omega),if_neg (by omega),if_neg (by omega)]
    exact hB'.pre j hj
   rw [show min (k+1) n=k+1 by omega]
   intro i j hij hj
   show f (kD (bubble (arrOf st'') (lo+k) (lo+k - (lo+l))) (lo+j)) (kD (bubble (arrOf st'') (lo+k) (lo+k - (lo+l))) (lo+i))=false
   rw [ZW hks (by omega),ZW hks (by omega),ed,show lo+k - (k - l)=lo+l by omega]
   by_cases j1:j=l
   ·rw [if_pos (by omega)]
    by_cases i1:i=l
    ·rw [if_pos (by omega)];exact O.irr _
    ·rw [if_neg (by omega),if_neg (by omega)]
     exact hlo i (by omega)
   ·rw [if_neg (by omega)]
    by_cases j2:l<j/\j<=k
    ·rw [if_pos (by omega)]
     by_cases i1:i=l
     ·rw [if_pos (by omega)]
      have:=hhi (j - 1) (by omega) (by omega)
      rw [show lo+j - 1=lo+(j - 1) by omega]
      exact O.asym _ _ this
     ·rw [if_neg (by omega)]
      by_cases i2:l<i/\i<=k
      ·rw [if_pos (by omega),show lo+j - 1=lo+(j - 1) by omega,show lo+i - 1=lo+(i - 1) by omega];exact hs' _ _ (by omega) (by omega)
      ·rw [if_neg (by omega),show lo+j - 1=lo+(j - 1) by omega];exact hs' _ _ (by omega) (by omega)
    ·rw [if_neg (by omega),if_neg (by omega),if_neg (by omega)]
     exact hs' _ _ (by omega) (by omega)
end
end L2
namespace L2
open PySem PySem.Spec PyProof.Rows PySem.W
section
variable {f:Keyed->Keyed->Bool}
def yd (f:Keyed->Keyed->Bool):Nat->List (List Keyed)->List (Nat×Nat×Nat)->Prop
 | _,[],[]=>True
 | off,sg::sgs,p::ps=>p.1=off/\p.2.1=sg.length/\SdK f sg/\sg≠[]/\yd f (off+sg.length) sgs ps
 | _,_,_=>False
theorem yd.len:∀ {off:Nat}{segs:List (List Keyed)}{ps:List (Nat×Nat×Nat)},yd f off segs ps->segs.length=ps.length
 | _,[],[],_=>rfl
 | _,_::_,_::_,h=>by simp [yd.len h.2.2.2.2]
theorem yd.snoc:∀ {off:Nat}{segs:List (List Keyed)}{ps:List (Nat×Nat×Nat)}{sg:List Keyed}{pw:Nat},yd f off segs ps->SdK f sg->sg≠[]->yd f off (segs++[sg]) (ps++[(off+segs.flatten.length,sg.length,pw)])
 | _,[],[],_,_,_,h1,h2=>⟨by simp,rfl,h1,h2,trivial⟩
 | off,a::segs,p::ps,sg,pw,h,h1,h2=>by
  obtain ⟨g1,g2,g3,g4,g5⟩:=h
  have:=yd.snoc (pw:=pw) g5 h1 h2
  refine ⟨g1,g2,g3,g4,?_⟩
  simp only [List.flatten_cons,List.length_append]
  rw [Nat.add_assoc] at this
  exact this
theorem yd.split:∀ {p1:List (Nat×Nat×Nat)}{off:Nat}{segs:List (List Keyed)}{A B:Nat×Nat×Nat}{p2:List (Nat×Nat×Nat)},yd f off segs (p1++A::B::p2) →
  ∃ s1 X Y s2,segs=s1++X::Y::s2/\A.1=off+s1.flatten.length/\A.2.1=X.length/\B.1=off+s1.flatten.length+X.length/\B.2.1=Y.length/\SdK f X/\SdK f Y/\X≠[]/\Y≠[] ∧
   ∀ Z pw,SdK f Z->Z.length=X.length+Y.length->yd f off (s1++Z::s2) (p1++(A.1,X.length+Y.length,pw)::p2)
 | [],off,a::b::segs,A,B,p2,h=>by
  obtain ⟨g1,g2,g3,g4,h1,h2,h3,h4,h5⟩:=h
  refine ⟨[],a,b,segs,rfl,by simpa using g1,g2,by simpa using h1,h2,g3,h3,g4,h4,fun Z pw z1 z2=>⟨g1,z2.symm,z1,fun e=>?_,?_⟩⟩
  ·subst e
   simp at z2
   have:=List.length_pos_iff.mpr g4
   omega
  ·rw [z2,<- Nat.add_assoc];exact h5
 | p::p1,off,a::segs,A,B,p2,h=>by
  obtain ⟨g1,g2,g3,g4,g5⟩:=h
  obtain ⟨s1,X,Y,s2,e,k1,k2,k3,k4,k5,k6,k7,k8,k9⟩:=yd.split g5
  refine ⟨a::s1,X,Y,s2,by rw [e];rfl,by rw [k1];simp;omega,k2,by rw [k3];simp;omega,k4,k5,k6,k7,k8,fun Z pw z1 z2=>⟨g1,g2,g3,g4,k9 Z pw z1 z2⟩⟩
theorem yd.repow {g:Nat×Nat×Nat->Nat×Nat×Nat}(hg:∀ p,(g p).1=p.1/\(g p).2.1=p.2.1):∀ {off:Nat}{segs:List (List Keyed)}{ps:List (Nat×Nat×Nat)}{i:Nat},yd f off segs ps->yd f off segs (ps.modify i g)
 | _,[],[],i,h=>by rw [List.modify_nil];exact h
 | _,a::segs,p::ps,0,h=>by
  obtain ⟨g1,g2,g3,g4,g5⟩:=h
  simp only [List.modify_zero_cons]
  exact ⟨(hg p).1.trans g1,(hg p).2.trans g2,g3,g4,g5⟩
 | _,a::segs,p::ps,i+1,h=>by
  obtain ⟨g1,g2,g3,g4,g5⟩:=h
  simp only [List.modify_succ_cons]
  exact ⟨g1,g2,g3,g4,yd.repow hg g5⟩
theorem yd.flat_pos:∀ {off:Nat}{segs:List (List Keyed)}{ps:List (Nat×Nat×Nat)},yd f off segs ps->ps.length<=segs.flatten.length
 | _,[],[],_=>qj _
 | _,a::segs,p::ps,h=>by
  have:=yd.flat_pos h.2.2.2.2
  have:=List.length_pos_iff.mpr h.2.2.2.1
  rw [List.flatten_cons,List.length_append,List.length_cons];omega
end
def wrt (base:Nat) (a:Array Keyed) (l:List (Keyed×Nat)):Array Keyed:=l.foldl (fun a (p:Keyed×Nat)=>a.setIfInBounds (base+p.2) p.1) a
theorem qaY:∀ {M:List Keyed}{n base:Nat}{arr:Array Keyed}{A B C:List Keyed},arr.toList=A++(B++C)->A.length=base+n->M.length=B.length->(wrt base arr (M.zipIdx n)).toList=A++(M++C)
 | [],n,base,arr,A,B,C,h,_,hm=>by
  have:B=[]:=List.eq_nil_of_length_eq_zero hm.symm
  subst this
  simpa [wrt] using h
 | m::M,n,base,arr,A,[],C,h,_,hm=>by simp at hm
 | m::M,n,base,arr,A,b::B,C,h,ha,hm=>by
  have e:(arr.setIfInBounds (base+n) m).toList=(A++[m])++(B++C):=by
   rw [Array.toList_setIfInBounds,h,<- ha]
   simp
  have:=qaY (M:=M) (n:=n+1) (base:=base) (arr:=arr.setIfInBounds (base+n) m) e (by simp;omega) (by simpa using hm)
  rw [List.zipIdx_cons]
  show (wrt base (arr.setIfInBounds (base+n) m) (M.zipIdx (n+1))).toList=_
  rw [this]
  simp
theorem ZU (i:Nat):mergeAt' i=(do
 let s <- get
 let (some (sa,na,power),some (sb,nb,_)):=((pendingOf s)[i]?,(pendingOf s)[i+1]?) | unsupported "internal:list.sort.pending"
 set (SortSt.mk' (PyProof.Rows.kindOf s) (arrOf s) (((pendingOf s).setIfInBounds i (sa,na+nb,power)).eraseIdxIfInBounds (i+1)) (gallopOf s) (failedOf s))
 let some k <- y6 false (<- elem' (arrOf s) sb) (arrOf s) sa na 0 | return false
 let (sa,na):=(sa+k,na - k)
 if na == 0 then return true
 let some nb <- y6 true (<- elem' (arrOf s) (sa+na - 1)) (arrOf s) sb nb (nb - 1) | return false
 if nb == 0 then return true
 let x:=(arrOf s).extract sa sb
 let y:=(arrOf s).extract sb (sb+nb)
 let merged <- if na<=nb then Ya x y else Yb x y
 modify fun s=>SortSt.mk' (PyProof.Rows.kindOf s) (merged.toList.zipIdx.foldl (fun a (p,j)=>a.setIfInBounds (sa+j) p) (arrOf s)) (pendingOf s) (gallopOf s) (failedOf s)
 return (failedOf (<- get)).isNone):=rfl
section
variable {prog:Program}{w:World}{A:Around}{E:Value->Shared->Prop}{s:Shared}{kd:SortKind}{D:Keyed->Prop}{f:Keyed->Keyed->Bool}{st:SortSt}
theorem qgb {st st':SortSt}{Q:PUnit->SortSt->Prop}(h:Q ⟨⟩ st'):wpS (model prog w) A E s (set st':StateT SortSt Sem PUnit) Q st:=by
 unfold wpS;rw [StateT.run_set];exact qd ⟨rfl,h⟩
theorem qbY {p1 p2:List (Nat×Nat×Nat)}{a b v:Nat×Nat×Nat}{ps:Array (Nat×Nat×Nat)}(h:ps.toList=p1++a::b::p2):((ps.setIfInBounds p1.length v).eraseIdxIfInBounds (p1.length+1)).toList=p1++v::p2:=by
 have hz:ps.size=p1.length+2+p2.length:=by
  rw [<- Array.length_toList,h];simp;omega
 unfold Array.eraseIdxIfInBounds
 rw [dif_pos (by simp;omega),Array.toList_eraseIdx,Array.toList_setIfInBounds,h]
 simp
 rw [List.eraseIdx_append_of_length_le (by omega)]
 simp
theorem Y6 {X Y:List Keyed}(h1:SdK f X) (h2:SdK f Y) (c:∀ x∈X,∀ y∈Y,f y x=false):SdK f (X++Y):=qL.mpr ⟨h1,h2,c⟩
theorem JB (hA:Ask prog w A E s kd D f) (O:OrdK f) (hk:PyProof.Rows.kindOf st=kd) (hD:qb9 D st) (hf:failedOf st=none) {segs:List (List Keyed)}{yE:List Keyed}{i:Nat}(ha:(arrOf st).toList=segs.flatten++yE) (hp:yd f 0 segs (pendingOf st).toList) (hi:i+1<(pendingOf st).size) {Q:Bool->SortSt->Prop}
  (q:∀ st' segs',PyProof.Rows.kindOf st'=kd->failedOf st'=none->(arrOf st').Perm (arrOf st)->(arrOf st').toList=segs'.flatten++yE->segs'.flatten.length=segs.flatten.length->yd f 0 segs' (pendingOf st').toList->(pendingOf st').size+1=(pendingOf st).size->Q true st') :
  wpS (model prog w) A E s (mergeAt' i) Q st:=by
 have hlen:(pendingOf st).toList.length=(pendingOf st).size:=Array.length_toList
 obtain ⟨p1,a0,b0,p2,hpl,hp1⟩:∃ p1 a0 b0 p2,(pendingOf st).toList=p1++a0::b0::p2/\p1.length=i:=by
  refine ⟨(pendingOf st).toList.take i,(pendingOf st)[i],(pendingOf st)[i+1],(pendingOf st).toList.drop (i+2),?_,by simp;omega⟩
  have e1:=yy (l:=(pendingOf st).toList) (i:=i) (by omega)
  have e2:=yy (l:=(pendingOf st).toList) (i:=i+1) (by omega)
  have:=(qw i (pendingOf st).toList).symm
  rw [e1,e2] at this
  exact this
 rw [hpl] at hp
 obtain ⟨s1,X,Y,s2,rfl,k1,k2,k3,k4,k5,k6,k7,k8,k9⟩:=hp.split
 have g1:(pendingOf st)[i]?=some a0:=by
  rw [<- qp,hpl,<- hp1];simp
 have g2:(pendingOf st)[i+1]?=some b0:=by
  rw [<- qp,hpl,<- hp1]
  rw [qO (by omega)]
  simp
 obtain ⟨sa,na,pw⟩:=a0
 obtain ⟨sb,nb,pw2⟩:=b0
 simp only [Nat.zero_add] at k1 k2 k3 k4
 subst k2 k4
 rw [ZU]
 refine qi (wpS_get ?_)
 rw [g1,g2]
 dsimp only
 refine qi (qgb ?_)
 have hnp:(((pendingOf st).setIfInBounds i (sa,X.length+Y.length,pw)).eraseIdxIfInBounds (i+1)).toList=p1++(sa,X.length+Y.length,pw)::p2:=by
  rw [<- hp1];exact qbY hpl
 have hsz:(((pendingOf st).setIfInBounds i (sa,X.length+Y.length,pw)).eraseIdxIfInBounds (i+1)).size+1=(pendingOf st).size:=by
  rw [<- Array.length_toList,hnp,<- hlen,hpl];simp;omega
 generalize ((pendingOf st).setIfInBounds i (sa,X.length+Y.length,pw)).eraseIdxIfInBounds (i+1)=np at hnp hsz ⊢
 have harr:(arrOf st).toList=s1.flatten++(X++(Y++(s2.flatten++yE))):=by rw [ha];simp
 have hsz2:(arrOf st).size=s1.flatten.length+(X.length+(Y.length+(s2.flatten.length+yE.length))):=by
  rw [<- Array.length_toList,harr];simp
 have hX:0<X.length:=List.length_pos_iff.mpr k7
 have hY:0<Y.length:=List.length_pos_iff.mpr k8
 have getX:∀ j,j<X.length->(arrOf st)[sa+j]?=X[j]?:=fun j hj=>by
  rw [<- qp,harr,k1,qO (by omega),qI (by omega)]
  congr 1;omega
 have getY:∀ j,j<Y.length->(arrOf st)[sb+j]?=Y[j]?:=fun j hj=>by
  rw [<- qp,harr,k3,qO (by omega),qO (by omega),qI (by omega)]
  congr 1;omega
 have dX:∀ x∈X,D x:=fun x hx=>hD x (by rw [harr];simp [hx])
 have dY:∀ x∈Y,D x:=fun x hx=>hD x (by rw [harr];simp [hx])
 -- the end,by what stands there then
 have fin:∀ (st':SortSt) (Z:List Keyed),PyProof.Rows.kindOf st'=kd->failedOf st'=none->pendingOf st'=np->(arrOf st').toList=s1.flatten++(Z++(s2.flatten++yE))->SdK f Z->Z.Perm (X++Y)->Q true st':=fun st' Z z1 z2 z3 z4 z5 z6=>by
  have zl:=z6.length_eq
  rw [List.length_append] at zl
  refine q st' (s1++Z::s2) z1 z2 ?_ (by rw [z4];simp) (by simp [zl];omega) ?_ (by rw [z3];exact hsz)
  ·rw [yv,z4,harr]
   refine List.Perm.append_left _ ?_
   rw [<- List.append_assoc X Y]
   exact List.Perm.append_right _ z6
  ·rw [z3,hnp]
   have:=k9 Z pw z5 zl
   simpa using this
 have fin0:SdK f (X++Y)->Q true (SortSt.mk' (PyProof.Rows.kindOf st) (arrOf st) np (gallopOf st) (failedOf st)):=fun h=>fin _ (X++Y) hk hf rfl (by rw [harr];simp) h (List.Perm.refl _)
 have y0:(arrOf st)[sb]?=some Y[0]:=by
  have:=getY 0 hY
  rwa [Nat.add_zero,List.getElem?_eq_getElem hY] at this
 rw [elem'_eq,y0]
 refine qi (ql ?_)
 refine qi (YG hA O hk X rfl getX (dY _ (qX hY)) dX hX k5 fun k hk1 hk2 hk3=>?_)
 have leX:∀ x∈X.take k,f Y[0] x=false:=fun x hx=>by simpa [byd] using hk2 x hx
 have gtX:∀ x∈X.drop k,f Y[0] x=true:=fun x hx=>by simpa [byd] using hk3 x hx
 have Y0le:∀ y∈Y,f y Y[0]=false:=fun y hy=>by
  obtain ⟨j,hj,rfl⟩:=yI.mp hy
  by_cases e:j=0
  ·subst e;exact O.irr _
  ·exact qH.mp k6 0 j hY hj (by omega)
 dsimp only
 by_cases e:X.length - k=0
 ·rw [if_pos (by simpa using e)]
  refine ql (fin0 (Y6 k5 k6 fun x hx y hy=>?_))
  have:X.take k=X:=List.take_of_length_le (by omega)
  exact O.le (leX x (by rw [this];exact hx)) (Y0le y hy)
 ·rw [if_neg (by simpa using e)]
  have hl:X.length - 1<X.length:=by omega
  have xl:(arrOf st)[sa+k+(X.length - k) - 1]?=some X[X.length - 1]:=by
   rw [show sa+k+(X.length - k) - 1=sa+(X.length - 1) by omega,getX _ hl,List.getElem?_eq_getElem hl]
  rw [elem'_eq,xl]
  refine qi (ql ?_)
  refine qi (YG hA O hk Y rfl getY (dX _ (qX hl)) dY (by omega) k6 fun m hm1 hm2 hm3=>?_)
  have ltY:∀ x∈Y.take m,f x X[X.length - 1]=true:=fun x hx=>hm2 x hx
  have geY:∀ x∈Y.drop m,f x X[X.length - 1]=false:=fun x hx=>hm3 x hx
  have Xle:∀ x∈X,f X[X.length - 1] x=false:=fun x hx=>by
   obtain ⟨j,hj,rfl⟩:=yI.mp hx
   by_cases e:j=X.length - 1
   ·subst e;exact O.irr _
   ·exact qH.mp k5 j (X.length - 1) hj hl (by omega)
  dsimp only
  by_cases e2:m=0
  ·rw [if_pos (by simpa using e2)]
   subst e2
   refine ql (fin0 (Y6 k5 k6 fun x hx y hy=>O.le (Xle x hx) (geY y (by simpa using hy))))
  ·rw [if_neg (by simpa using e2)]
   have ex:((arrOf st).extract (sa+k) sb).toList=X.drop k:=by
    have e:((arrOf st).extract (sa+k) sb).toList=((arrOf st).toList.drop (sa+k)).take (sb - (sa+k)):=by simp [Array.toList_extract,List.extract_eq_take_drop]
    rw [e,harr,k1,k3,List.drop_append,List.drop_of_length_le (by omega),List.nil_append,show s1.flatten.length+k - s1.flatten.length=k by omega,List.drop_append_of_le_length (by omega),List.take_append_of_le_length (by simp;omega)]
    exact List.take_of_length_le (by simp;omega)
   have ey:((arrOf st).extract sb (sb+m)).toList=Y.take m:=by
    rw [jP,harr,k3,List.drop_append,List.drop_of_length_le (by omega),List.nil_append,show s1.flatten.length+X.length - s1.flatten.length=X.length by omega,List.drop_left,List.take_append_of_le_length hm1]
   generalize (arrOf st).extract (sa+k) sb=ax at ex ⊢
   generalize (arrOf st).extract sb (sb+m)=ay at ey ⊢
   have hax:ax.size=X.length - k:=by rw [<- Array.length_toList,ex];simp
   have hay:ay.size=m:=by rw [<- Array.length_toList,ey];simp;omega
   have getax:∀ j (h:j<ax.size),ax[j]=X[k+j]'(by omega):=fun j h=>by
    have:ax.toList[j]'(by simpa using h)=(X.drop k)[j]'(by simp;omega):=by simp only [ex]
    rw [List.getElem_drop] at this
    exact this
   have getay:∀ j (h:j<ay.size),ay[j]=Y[j]'(by omega):=fun j h=>by
    have:ay.toList[j]'(by simpa using h)=(Y.take m)[j]'(by simp;omega):=by simp only [ey]
    rw [List.getElem_take] at this
    exact this
   have hB:Both D f ax ay:=by
    refine ⟨fun x hx=>dX x (yH (by rw [<- ex];exact hx)),fun x hx=>dY x (List.mem_of_mem_take (by rw [<- ey];exact hx)),by omega,by omega,fun x hx=>?_,?_,?_,?_⟩
    ·rw [getax]
     have:=ltY x (by rw [<- ey];exact hx)
     simp only [hax,show k+(X.length - k - 1)=X.length - 1 by omega]
     exact this
    ·rw [getax,getay]
     exact gtX _ (yI.mpr ⟨0,by simp;omega,by rw [List.getElem_drop]⟩)
    ·rw [ex];exact List.Pairwise.sublist (List.drop_sublist _ _) k5
    ·rw [ey];exact List.Pairwise.sublist (List.take_sublist _ _) k6
   have key:∀ (o:Array Keyed) (st':SortSt),yp (SortSt.mk' (PyProof.Rows.kindOf st) (arrOf st) np (gallopOf st) (failedOf st)) st'->Js f ax ay o->Q true (SortSt.mk' (PyProof.Rows.kindOf st') (wrt (sa+k) (arrOf st') o.toList.zipIdx) (pendingOf st') (gallopOf st') (failedOf st')):=fun o st' hs ⟨h1,h2⟩=>by
    rw [ex,ey] at h2
    have ol:=h2.length_eq
    refine fin _ (X.take k++(o.toList++Y.drop m)) (hs.1.trans hk) (hs.2.2.2.trans hf) hs.2.2.1 ?_ ?_ ?_
    ·show (wrt (sa+k) (arrOf st') o.toList.zipIdx).toList=_
     have ea:(arrOf st').toList=(s1.flatten++X.take k)++((X.drop k++Y.take m)++(Y.drop m++(s2.flatten++yE))):=by
      have:arrOf st'=arrOf st:=hs.2.1
      rw [this,harr]
      have e1:=qw k X
      have e2:=qw m Y
      rw [<- List.append_assoc (X.drop k++Y.take m),List.append_assoc (X.drop k),e2]
      rw [List.append_assoc s1.flatten,<- List.append_assoc (X.take k),<- List.append_assoc (X.take k),e1]
      simp
     rw [qaY (n:=0) ea (by rw [List.length_append,List.length_take];omega) ol]
     simp
    ·refine Y6 (List.Pairwise.sublist (List.take_sublist _ _) k5) (Y6 h1 (List.Pairwise.sublist (List.drop_sublist _ _) k6) fun x hx y hy=>?_) fun x hx y hy=>?_
     ·have hx:=h2.mem_iff.mp hx
      rcases List.mem_append.mp hx with z | z
      ·exact O.le (Xle x (yH z)) (geY y hy)
      ·have hY2:=qw m Y
       have:SdK f (Y.take m++Y.drop m):=by rw [hY2];exact k6
       exact (qL.mp this).2.2 x z y hy
     ·rcases List.mem_append.mp hy with z | z
      ·have z:=h2.mem_iff.mp z
       rcases List.mem_append.mp z with z | z
       ·have hX2:=qw k X
        have:SdK f (X.take k++X.drop k):=by rw [hX2];exact k5
        exact (qL.mp this).2.2 x hx y z
       ·exact O.le (leX x hx) (Y0le y (List.mem_of_mem_take z))
      ·exact O.le (leX x hx) (Y0le y (yH z))
    ·refine List.Perm.trans (List.Perm.append_left _ (List.Perm.append_right _ h2)) ?_
     rw [List.append_assoc,qw m Y,<- List.append_assoc,qw k X]
   by_cases e3:X.length - k<=m
   ·rw [if_pos e3]
    refine qi (qbK (st:=SortSt.mk' (PyProof.Rows.kindOf st) (arrOf st) np (gallopOf st) (failedOf st)) hA O hB hk fun o st' hs h=>?_)
    refine qi (jh (qi (wpS_get (ql ?_))))
    have e0:(failedOf st').isNone=true:=by
     have:failedOf st'=none:=hs.2.2.2.trans hf
     rw [this];rfl
    show Q (failedOf st').isNone _
    rw [e0]
    exact key o st' hs h
   ·rw [if_neg e3]
    refine qi (qbL (st:=SortSt.mk' (PyProof.Rows.kindOf st) (arrOf st) np (gallopOf st) (failedOf st)) hA O hB hk fun o st' hs h=>?_)
    refine qi (jh (qi (wpS_get (ql ?_))))
    have e0:(failedOf st').isNone=true:=by
     have:failedOf st'=none:=hs.2.2.2.trans hf
     rw [this];rfl
    show Q (failedOf st').isNone _
    rw [e0]
    exact key o st' hs h
structure RI (f:Keyed->Keyed->Bool) (kd:SortKind) (a0:Array Keyed) (lo:Nat) (st:SortSt):Prop where
 kind:PyProof.Rows.kindOf st=kd
 fail:failedOf st=none
 perm:(arrOf st).Perm a0
 segs:∃ segs yE,(arrOf st).toList=segs.flatten++yE/\segs.flatten.length=lo/\yd f 0 segs (pendingOf st).toList
theorem RI.size {a0:Array Keyed}{lo:Nat}(h:RI f kd a0 lo st):(arrOf st).size=a0.size:=h.perm.size_eq
theorem qdl {xs:Array Keyed}{i:Nat}{l:List Keyed}{pre:List Keyed}{post:List Keyed}(h:xs.toList=pre++(l++post)) (hi:i<l.length):kD xs (pre.length+i)=l[i]:=by
 have hz:pre.length+i<xs.size:=by rw [<- Array.length_toList,h];simp;omega
 have:=qdm hz
 rw [<- qp,h,qO (by omega),qI (by omega),Nat.add_sub_cancel_left,List.getElem?_eq_getElem hi] at this
 exact (Option.some.inj this).symm
theorem RI.run {a0:Array Keyed}{lo n:Nat}{st0 st:SortSt}(h:RI f kd a0 lo st0) (hv:SV lo st0 st) (h1:1<=n) (h2:lo+n<=a0.size) (hu:UpL f lo (arrOf st) n):∃ segs run yE,(arrOf st).toList=segs.flatten++(run++yE)/\segs.flatten.length=lo/\yd f 0 segs (pendingOf st).toList/\SdK f run/\run.length=n:=by
 obtain ⟨segs,yE,g1,g2,g3⟩:=h.segs
 have hz:(arrOf st).size=a0.size:=hv.size.trans h.size
 have hz0:=h.size
 have e1:(arrOf st).toList.take lo=segs.flatten:=by
  have:(arrOf st).toList.take lo=(arrOf st0).toList.take lo:=by
   apply List.ext_getElem?
   intro i
   rw [List.getElem?_take,List.getElem?_take]
   split
   ·rename_i hi
    rw [qp,qp]
    exact hv.pre i hi
   ·rfl
  rw [this,g1,<- g2,List.take_left]
 have hl:(arrOf st).toList.length=a0.size:=by rw [Array.length_toList];exact hz
 refine ⟨segs,((arrOf st).toList.drop lo).take n,((arrOf st).toList.drop lo).drop n,?_,g2,by rw [hv.pend];exact g3,?_,by simp;omega⟩
 ·rw [qw n,<- e1,qw]
 ·refine qH.mpr fun i j hi hj hij=>?_
  have hi':i<n:=by simp at hi;omega
  have hj':j<n:=by simp at hj;omega
  have:=hu i j (by omega) hj'
  have ed:(arrOf st).toList=segs.flatten++(((arrOf st).toList.drop lo).take n++((arrOf st).toList.drop lo).drop n):=by rw [qw n,<- e1,qw]
  subst g2
  rw [qdl ed hi,qdl ed hj] at this
  exact this
theorem RI.push {a0:Array Keyed}{lo n:Nat}{st:SortSt}(hk:PyProof.Rows.kindOf st=kd) (hf:failedOf st=none) (hp:(arrOf st).Perm a0) {segs:List (List Keyed)}{run yE:List Keyed}(g1:(arrOf st).toList=segs.flatten++(run++yE)) (g2:segs.flatten.length=lo) (g3:yd f 0 segs (pendingOf st).toList) (g4:SdK f run) (g5:run.length=n) (h1:1<=n) :
  RI f kd a0 (lo+n) (setPending st ((pendingOf st).push (lo,n,0))):=by
 refine ⟨hk,hf,hp,segs++[run],yE,by rw [show arrOf (setPending st ((pendingOf st).push (lo,n,0)))=arrOf st from rfl,g1];simp,by simp only [List.flatten_append,List.length_append,List.flatten_cons,List.flatten_nil,List.append_nil,g2,g5],?_⟩
 have:=g3.snoc (pw:=0) g4 (fun e=>by subst e;simp at g5;omega)
 rw [show (pendingOf (setPending st ((pendingOf st).push (lo,n,0)))).toList=(pendingOf st).toList++[(lo,n,0)] from Array.toList_push ..]
 rw [Nat.zero_add,g2,g5] at this
 exact this
theorem qal (hA:Ask prog w A E s kd D f) (O:OrdK f) {a0:Array Keyed}(hk:PyProof.Rows.kindOf st=kd) (hf:failedOf st=none) (ha:arrOf st=a0) (hp0:pendingOf st=#[]) (hD:∀ x∈a0.toList,D x) (h2:2<=a0.size) {Q:Unit->SortSt->Prop}
  (q:∀ st',(arrOf st').Perm a0->failedOf st'=none->SdK f (arrOf st').toList->Q () st'):wpS (model prog w) A E s sortRuns' Q st:=by
 have hAll:∀ st',(arrOf st').Perm a0->qb9 D st':=fun st' h x hx=>hD x ((yv.mp h).mem_iff.mp hx)
 rw [sortRuns'_eq]
 refine qi (wpS_get ?_)
 dsimp only
 rw [ha]
 generalize minRun' a0.size a0.size 0=minrun
 refine qi (yR (qZ
  (I:=fun x c st'=>∃ lo,c=(none,lo)/\x<=lo/\lo<=a0.size/\RI f kd a0 lo st')
  (Q:=fun c st'=>c=(none,a0.size)/\RI f kd a0 a0.size st') ?step ?fin ⟨0,rfl,qj _,qQ _,hk,hf,ha ▸ Array.Perm.refl _,[],a0.toList,by rw [ha];rfl,rfl,by rw [hp0];trivial⟩) ?post)
 case fin =>
  rintro c st' ⟨lo,rfl,g1,g2,g3⟩
  have:lo=a0.size:=by omega
  subst this
  exact ⟨rfl,g3⟩
 case step =>
  rintro x c st' _ hx ⟨lo,rfl,g1,g2,g3⟩
  dsimp only
  by_cases hge:lo ≥ a0.size
  ·rw [if_pos hge]
   have:lo=a0.size:=by omega
   subst this
   exact ql ⟨rfl,g3⟩
  ·rw [if_neg hge]
   have hz:=g3.size
   refine qi (qam hA O g3.kind (hAll _ g3.perm) (by omega) (by omega) fun n st1 hv h1 hn hu=>?_)
   dsimp only
   -- with a run of n,merge and push
   have next:∀ (n:Nat) (st1:SortSt),SV lo st' st1->1<=n->lo+n<=a0.size->UpL f lo (arrOf st1) n->∃ segs run yE,PyProof.Rows.kindOf st1=kd/\failedOf st1=none/\(arrOf st1).Perm a0/\(arrOf st1).toList=segs.flatten++(run++yE)/\segs.flatten.length=lo/\yd f 0 segs (pendingOf st1).toList/\SdK f run/\run.length=n:=fun n st1 hv h1 hn hu=>by
    obtain ⟨segs,run,yE,e⟩:=g3.run hv h1 hn hu
    exact ⟨segs,run,yE,hv.kind.trans g3.kind,hv.fail.trans g3.fail,hv.perm.trans g3.perm,e⟩
   by_cases hlt:n<minrun
   ·rw [if_pos hlt]
    refine qi (wpS_lift (jD ⟨rfl,?_⟩))
    have hz1:=hv.size
    refine qi (qbM (n:=min (a0.size - lo) minrun) (ok:=n) hA O (hv.kind.trans g3.kind) (hAll _ (hv.perm.trans g3.perm)) (by omega) (by omega) hu fun st2 hv2 hu2=>?_)
    simp only [Bool.not_true,Bool.false_eq_true,if_false]
    obtain ⟨segs,run,yE,b1,b2,b3,b4,b5,b6,b7,b8⟩:=next (min (a0.size - lo) minrun) st2 (hv.trans hv2) (by omega) (by omega) hu2
    have hnn:1<=min (a0.size - lo) minrun/\min (a0.size - lo) minrun<=a0.size - lo:=by omega
    generalize min (a0.size - lo) minrun=n at *
    have hn1:1<=n:=by omega
    refine qi (wpS_get ?_)
    cases hb:(pendingOf st2).back? with
    | none =>
     dsimp only
     exact qi (jh (ql ⟨lo+n,rfl,by omega,by omega,RI.push b1 b2 b3 b4 b5 b6 b7 b8 hn1⟩))
    | some p =>
     obtain ⟨s1,n1,pw1⟩:=p
     dsimp only
     generalize power' a0.size (2 * s1+n1) (2 * s1+n1+n1+n) a0.size=pw
     refine qi (yR (qZ (I:=fun _ c sx=>c=(none,())/\∃ segs,PyProof.Rows.kindOf sx=kd/\failedOf sx=none/\(arrOf sx).Perm a0/\(arrOf sx).toList=segs.flatten++(run++yE)/\segs.flatten.length=lo/\yd f 0 segs (pendingOf sx).toList)
      (Q:=fun c sx=>c=(none,())/\∃ segs,PyProof.Rows.kindOf sx=kd/\failedOf sx=none/\(arrOf sx).Perm a0/\(arrOf sx).toList=segs.flatten++(run++yE)/\segs.flatten.length=lo/\yd f 0 segs (pendingOf sx).toList) ?mstep1 ?mfin1 ⟨rfl,segs,b1,b2,b3,b4,b5,b6⟩) ?mpost1)
     case mfin1=>exact fun c sx h=>h
     case mstep1 =>
      rintro y c sx _ _ ⟨rfl,segs,d1,d2,d3,d4,d5,d6⟩
      refine qi (wpS_get ?_)
      by_cases hs:(pendingOf sx).size > 1
      ·rw [if_pos hs]
       have e:(pendingOf sx)[(pendingOf sx).size - 2]?=some ((pendingOf sx)[(pendingOf sx).size - 2]):=Array.getElem?_eq_getElem (by omega)
       rw [e]
       generalize (pendingOf sx)[(pendingOf sx).size - 2]=t
       obtain ⟨t1,t2,t3⟩:=t
       dsimp only
       split
       ·exact ql ⟨rfl,segs,d1,d2,d3,d4,d5,d6⟩
       ·refine qi (JB hA O d1 (hAll _ d3) d2 d4 d6 (by omega) fun st4 segs' z1 z2 z3 z4 z5 z6 z7=>?_)
        simp only [Bool.not_true,Bool.false_eq_true,if_false]
        exact ql ⟨rfl,segs',z1,z2,z3.trans d3,z4,z5.trans d5,z6⟩
      ·rw [if_neg hs]
       exact ql ⟨rfl,segs,d1,d2,d3,d4,d5,d6⟩
     case mpost1 =>
      rintro c sx ⟨rfl,segs,d1,d2,d3,d4,d5,d6⟩
      dsimp only
      refine qi (jh (qi (jh (ql ⟨lo+n,rfl,by omega,by omega,?_⟩))))
      have d7:yd f 0 segs ((pendingOf sx).modify ((pendingOf sx).size - 1) fun x=>(x.1,x.2.1,pw)).toList:=by
       rw [Array.toList_modify];exact yd.repow (g:=fun x=>(x.1,x.2.1,pw)) (fun p=>⟨rfl,rfl⟩) d6
      exact RI.push (st:=setPending sx ((pendingOf sx).modify ((pendingOf sx).size - 1) fun x=>(x.1,x.2.1,pw))) d1 d2 d3 d4 d5 d7 b7 b8 hn1
   ·rw [if_neg hlt]
    obtain ⟨segs,run,yE,b1,b2,b3,b4,b5,b6,b7,b8⟩:=next n st1 hv h1 (by omega) hu
    have hn1:1<=n:=by omega
    refine qi (wpS_get ?_)
    cases hb:(pendingOf st1).back? with
    | none =>
     dsimp only
     exact qi (jh (ql ⟨lo+n,rfl,by omega,by omega,RI.push b1 b2 b3 b4 b5 b6 b7 b8 hn1⟩))
    | some p =>
     obtain ⟨s1,n1,pw1⟩:=p
     dsimp only
     generalize power' a0.size (2 * s1+n1) (2 * s1+n1+n1+n) a0.size=pw
     refine qi (yR (qZ (I:=fun _ c sx=>c=(none,())/\∃ segs,PyProof.Rows.kindOf sx=kd/\failedOf sx=none/\(arrOf sx).Perm a0/\(arrOf sx).toList=segs.flatten++(run++yE)/\segs.flatten.length=lo/\yd f 0 segs (pendingOf sx).toList)
      (Q:=fun c sx=>c=(none,())/\∃ segs,PyProof.Rows.kindOf sx=kd/\failedOf sx=none/\(arrOf sx).Perm a0/\(arrOf sx).toList=segs.flatten++(run++yE)/\segs.flatten.length=lo/\yd f 0 segs (pendingOf sx).toList) ?mstep2 ?mfin2 ⟨rfl,segs,b1,b2,b3,b4,b5,b6⟩) ?mpost1)
     case mfin2=>exact fun c sx h=>h
     case mstep2 =>
      rintro y c sx _ _ ⟨rfl,segs,d1,d2,d3,d4,d5,d6⟩
      refine qi (wpS_get ?_)
      by_cases hs:(pendingOf sx).size > 1
      ·rw [if_pos hs]
       have e:(pendingOf sx)[(pendingOf sx).size - 2]?=some ((pendingOf sx)[(pendingOf sx).size - 2]):=Array.getElem?_eq_getElem (by omega)
       rw [e]
       generalize (pendingOf sx)[(pendingOf sx).size - 2]=t
       obtain ⟨t1,t2,t3⟩:=t
       dsimp only
       split
       ·exact ql ⟨rfl,segs,d1,d2,d3,d4,d5,d6⟩
       ·refine qi (JB hA O d1 (hAll _ d3) d2 d4 d6 (by omega) fun st4 segs' z1 z2 z3 z4 z5 z6 z7=>?_)
        simp only [Bool.not_true,Bool.false_eq_true,if_false]
        exact ql ⟨rfl,segs',z1,z2,z3.trans d3,z4,z5.trans d5,z6⟩
      ·rw [if_neg hs]
       exact ql ⟨rfl,segs,d1,d2,d3,d4,d5,d6⟩
     case mpost1 =>
      rintro c sx ⟨rfl,segs,d1,d2,d3,d4,d5,d6⟩
      dsimp only
      refine qi (jh (qi (jh (ql ⟨lo+n,rfl,by omega,by omega,?_⟩))))
      have d7:yd f 0 segs ((pendingOf sx).modify ((pendingOf sx).size - 1) fun x=>(x.1,x.2.1,pw)).toList:=by
       rw [Array.toList_modify];exact yd.repow (g:=fun x=>(x.1,x.2.1,pw)) (fun p=>⟨rfl,rfl⟩) d6
      exact RI.push (st:=setPending sx ((pendingOf sx).modify ((pendingOf sx).size - 1) fun x=>(x.1,x.2.1,pw))) d1 d2 d3 d4 d5 d7 b7 b8 hn1
 case post =>
  rintro c st' ⟨rfl,g3⟩
  dsimp only
  refine qi (yR (qZ (I:=fun x c sx=>c=(none,())/\RI f kd a0 a0.size sx/\(pendingOf sx).size+x<=a0.size+1)
   (Q:=fun c sx=>c=(none,())/\RI f kd a0 a0.size sx/\(pendingOf sx).size<=1) ?lstep ?lfin ⟨rfl,g3,?linit⟩) ?lpost)
  case linit =>
   obtain ⟨segs,yE,e1,e2,e3⟩:=g3.segs
   have:=e3.flat_pos
   rw [Array.length_toList] at this
   omega
  case lfin =>
   rintro c sx ⟨rfl,h,h'⟩
   exact ⟨rfl,h,by omega⟩
  case lstep =>
   rintro x c sx _ _ ⟨rfl,h,h'⟩
   refine qi (wpS_get ?_)
   by_cases hs:(pendingOf sx).size<=1
   ·rw [if_pos hs]
    exact ql ⟨rfl,h,hs⟩
   ·rw [if_neg hs]
    obtain ⟨segs,yE,e1,e2,e3⟩:=h.segs
    have go:∀ i,i+1<(pendingOf sx).size->wpS (model prog w) A E s (mergeAt' i) (fun r st4=>r=true/\RI f kd a0 a0.size st4/\(pendingOf st4).size+1=(pendingOf sx).size) sx:=fun i hi =>
     JB hA O h.kind (hAll _ h.perm) h.fail e1 e3 hi fun st4 segs' z1 z2 z3 z4 z5 z6 z7=>⟨rfl,⟨z1,z2,z3.trans h.perm,segs',yE,z4,z5.trans e2,z6⟩,z7⟩
    refine qi (yR (go _ ?_) fun r st4 hr=>?_)
    ·have two:∀ (c:Prop) [Decidable c] (a b z:Nat),a+1<z->b+1<z->(if c then a else b)+1<z:=fun c _ a b z h1 h2=>by split <;> assumption
     exact two _ _ _ _ (by omega) (by omega)
    ·obtain ⟨rfl,h4,h5⟩:=hr
     simp only [Bool.not_true,Bool.false_eq_true,if_false]
     exact ql ⟨rfl,h4,by omega⟩
  case lpost =>
   rintro c sx ⟨rfl,h,h'⟩
   dsimp only
   obtain ⟨segs,yE,e1,e2,e3⟩:=h.segs
   refine ql (q sx h.perm h.fail ?_)
   have hl:=e3.len
   rw [Array.length_toList] at hl
   have hz:=h.size
   match segs,hl,e1,e2,e3 with
   | [],_,_,e2,_=>simp at e2;omega
   | [Z],_,e1,e2,e3 =>
    have e1l:=congrArg List.length e1
    rw [List.length_append,Array.length_toList,e2,hz] at e1l
    have:yE=[]:=List.eq_nil_of_length_eq_zero (by omega)
    rw [e1,this,List.append_nil]
    match (pendingOf sx).toList,e3 with
    | [p],e3=>simpa using e3.2.2.1
   | _::_::_,hl,_,_,_=>simp at hl;omega
end
end L2
namespace L2
open PySem PySem.Spec PyProof.Rows PySem.W
def qbJ (vs:List Value) (p:Array Nat):List Value:=p.toList.map fun i=>vs.getD i Value.none
def ltK (kss:List (List Int)):Nat->Nat->Bool:=fun i j=>decide (kss.getD i []<kss.getD j [])
theorem jp {h:Heap}:∀ {vs:List Value}{kss:List (List Int)},PySem.Paired (je h) vs kss->∀ i,i<vs.length->je h (vs.getD i Value.none) (kss.getD i [])
 | _,_,.nil,i,z=>by simp at z
 | _,_,.cons r t,0,_=>r
 | _,_,.cons r t,i+1,z=>jp t i (by simpa using z)
theorem Zx {vs:List Value}{p:Array Nat}(hp:Arr vs.length p):(qbJ vs p).length=vs.length:=by
 unfold qbJ
 rw [List.length_map,Array.length_toList,hp.size]
section
variable {prog:Program}{w:World}{A:Around}{E:Value->Shared->Prop}{s:Shared}
theorem Yq:∀ {vs:List Value}{a b:List Int},IntsAre vs a->IntsAre vs b->a=b
 | _,_,_,.nil,.nil=>rfl
 | _,_,_,.cons _ _ h,.cons _ _ g=>by rw [Yq h g]
open Classical in
noncomputable def kf (h:Heap) (v:Value):List Int:=epsilon fun ks=>je h v ks
theorem qg1 {h:Heap}{v:Value}{ks:List Int}(t:je h v ks):kf h v=ks:=by
 have t2:=Classical.epsilon_spec (p:=fun ks=>je h v ks) ⟨ks,t⟩
 obtain ⟨a,o,xs,n,rfl,ho,_,hd,hi,_⟩:=t
 obtain ⟨a',o',xs',n',e,ho',_,hd',hi',_⟩:=t2
 cases e
 rw [ho] at ho'
 cases ho'
 rw [hd] at hd'
 cases hd'
 exact Yq hi' hi
noncomputable def kfF (h:Heap):Keyed->Keyed->Bool:=fun x y=>decide (kf h x.1<kf h y.1)
theorem qi3 (h:Heap):OrdK (kfF h) where
 asym a b h:=yA (qbe (qv h))
 neg a b c h1:=by
  have h1:=qv h1
  by_cases e:kf h a.1<kf h b.1
  ·exact .inl (qB e)
  ·exact .inr (qB (List.lt_of_le_of_lt (List.not_lt.mp e) h1))
theorem qfk:Ask prog w A E s (tuples' true) (fun x=>∃ ks,je s.heap x.1 ks) (kfF s.heap):=by
 intro x y st Q ⟨k1,t1⟩ ⟨k2,t2⟩ hk q
 rw [lt'_eq]
 refine qi (wpS_get ?_)
 rw [hk]
 refine qi (wpS_lift (wpAny_attempt (lt_wp t1 t2 ⟨rfl,?_⟩)))
 unfold kfF at q
 rw [qg1 t1,qg1 t2] at q
 exact ql q
theorem qeF {α β:Type}(g:β->α) {xs ys:List α}(h:xs.Perm ys):∀ {l:List β},ys=l.map g->∃ l':List β,l'.Perm l/\xs=l'.map g:=by
 induction h with
 | nil =>
  intro l e
  exact ⟨l,List.Perm.refl _,e⟩
 | cons x p ih =>
  intro l e
  cases l with
  | nil=>cases e
  | cons b l =>
   rw [List.map_cons] at e
   obtain ⟨e1,e2⟩:=List.cons.inj e
   obtain ⟨l',p',e'⟩:=ih e2
   exact ⟨b::l',p'.cons b,by rw [List.map_cons,e',e1]⟩
 | swap x y l0 =>
  intro l e
  match l,e with
  | b::c::l,e =>
   simp only [List.map_cons,List.cons.injEq] at e
   obtain ⟨e1,e2,e3⟩:=e
   exact ⟨c::b::l,List.Perm.swap _ _ _,by simp [e1,e2,e3]⟩
 | trans p1 p2 ih1 ih2 =>
  intro l e
  obtain ⟨l',q1,e1⟩:=ih2 e
  obtain ⟨l'',q2,e2⟩:=ih1 e1
  exact ⟨l'',q2.trans q1,e2⟩
theorem qeG {h:Heap}{vs:List Value}{kss:List (List Int)}(hT:PySem.Paired (je h) vs kss) {xs:Array Keyed}(hp:xs.Perm (pairsOf vs)) (hs:SdK (kfF h) xs.toList):∃ p,Arr vs.length p/\qb4 (ltK kss) p vs.length/\xs=p.map (kas_item (pairsOf vs)):=by
 have y:=kas_range (pairsOf vs)
 rw [pairsOf_size] at y
 have hp:=yv.mp hp
 rw [<- y,Array.toList_map] at hp
 obtain ⟨l,p1,e⟩:=qeF _ hp rfl
 have p1:l.Perm (List.range vs.length):=by simpa using p1
 have hl:l.length=vs.length:=by rw [p1.length_eq,List.length_range]
 refine ⟨l.toArray,yv.mpr (by simpa using p1),fun i j hij hj=>?_,Array.toList_inj.mp (by rw [e,Array.toList_map])⟩
 have gi:∀ i (hi:i<l.length),gD l.toArray i=l[i]:=fun i hi=>by simp [gD,Array.getD,hi]
 rw [gi i (by omega),gi j (by omega)]
 have lt:∀ i (hi:i<l.length),l[i]<vs.length:=fun i hi=>List.mem_range.mp (p1.mem_iff.mp (qX hi))
 have key:∀ i (hi:i<l.length),kf h ((kas_item (pairsOf vs) l[i]).1)=kss.getD l[i] []:=fun i hi=>by
  rw [kas_item_eq]
  exact qg1 (jp hT _ (lt i hi))
 by_cases c:i=j
 ·subst c
  exact (qdc fun i=>kss.getD i []).irr _
 ·rw [e] at hs
  have:=qH.mp hs i j (by simp;omega) (by simp;omega) (by omega)
  simp only [List.getElem_map] at this
  unfold kfF at this
  rw [key i (by omega),key j (by omega)] at this
  exact this
theorem qcx {a:Addr}{vs:List Value}{kss:List (List Int)}{n:Nat}{P:PySem.Fin->Shared->Prop}(ho:s.heap.get? a=some (seqObj "list" vs.toArray n)) (hT:PySem.Paired (je s.heap) vs kss) (h64:vs.length<4915)
  (h:∀ p,Arr vs.length p->qb4 (ltK kss) p vs.length->P (.done (.ret .none)) { s with heap:=sortedHeap s.heap a vs (qbJ vs p).toArray }) :
  wpAny (model prog w) A (Builtin.«list.sort» ⟨[.ref a],[]⟩) P E s:=by
 rw [list_sort_plain]
 have hlt:a<s.heap.objs.size:=qh ho
 have hn64:vs.length<=sizeLine:=by rw [sizeLine_eq];omega
 refine qa (listItems_at ho rfl (qa (listUpdate_at ho rfl ?_ (by rw [List.size_toArray];exact hn64) (qQ _))))
 obtain ⟨ep,hc⟩:∃ ep,(s.heap.update a (Obj.mapSeq fun _=>(#[]:Array Value))).get? a=some (seqObj "list" #[] ep):=⟨_,get?_update_seq ho fun _=>#[]⟩
 refine qa (seqEpoch_at hc rfl (qa (wpAny_newTuple (qa (wpAny_newList (yK ?_) (qQ _))) (by show vs.length<=_;exact hn64))))
 generalize hh:((s.heap.update a (Obj.mapSeq fun _=>(#[]:Array Value))).push (seqObj "tuple" vs.toArray 0)).push (seqObj "list" #[] 0)=h6
 have at6:h6.get? a=some (seqObj "list" #[] ep):=by
  rw [<- hh]
  exact qb _ (qb _ hc)
 have old6:∀ b o,s.heap.get? b=some o->b≠a->h6.get? b=some o:=fun b o e ne=>by
  rw [<- hh]
  refine qb _ (qb _ ?_)
  rw [Heap.get?_update_ne _ _ _ _ ne]
  exact e
 have hT6:PySem.Paired (je h6) vs kss:=Paired.mapP hT fun v ks t=>t.kept fun b o e hcl=>old6 b o e fun z=>by
  subst z
  rw [ho] at e
  cases e
  exact absurd (show Value.type "list" = Value.type "tuple" from hcl) (by decide)
 have fin6:∀ p,Arr vs.length p->qb4 (ltK kss) p vs.length->P (.done (.ret .none)) { s with heap:=h6.update a (Obj.mapSeq fun _=>(qbJ vs p).toArray) }:=fun p hp hs=>by
  have:=h p hp hs
  unfold sortedHeap at this
  rw [hh] at this
  exact this
 show wpAny (model prog w) A _ P E { s with heap:=h6 }
 dsimp only
 have sz:vs.toArray.size=vs.length:=List.size_toArray ..
 have zipE:vs.toArray.zip vs.toArray=pairsOf vs:=rfl
 have snd:∀ p,((p.map (kas_item (pairsOf vs))).map (·.2))=(qbJ vs p).toArray:=fun p=>by
  apply Array.toList_inj.mp
  simp only [Array.toList_map,List.map_map,qbJ]
  exact List.map_congr_left fun i _=>by simp [kas_item_eq]
 by_cases c2:vs.toArray.size<2
 ·rw [if_pos c2,if_pos c2]
  refine qa (qd ?_)
  rw [StateT.run_pure]
  refine qa (qd ?_)
  dsimp only
  have e0:((vs.toArray.zip vs.toArray).map (·.2))=(qbJ vs (List.range vs.length).toArray).toArray:=by
   have z:=snd (List.range vs.length).toArray
   have y:=kas_range (pairsOf vs)
   rw [pairsOf_size] at y
   rw [<- z,y,zipE]
  refine qa (seqEpoch_at at6 rfl (qa (listUpdate_at at6 rfl ?_ (qQ _) ?_)))
  ·simp only [bne_self_eq_false,Bool.false_eq_true,if_false]
   refine qd ?_
   have f0:=fin6 (List.range vs.length).toArray (Array.Perm.refl _) fun i j hij hj=>by
    have:i=j:=by rw [sz] at c2;omega
    subst this
    exact (qdc fun i=>kss.getD i []).irr _
   rw [<- e0] at f0
   exact f0
  ·show ((vs.toArray.zip vs.toArray).map (·.2)).size<=_
   rw [e0,List.size_toArray,Zx (Array.Perm.refl _)]
   omega
 ·rw [if_neg c2,if_neg c2]
  refine qa (qg0 (s:={ s with heap:=h6 }) hT6 (by rw [sz] at c2;omega) ?_)
  have hD6:∀ x∈(pairsOf vs).toList,∃ ks,je h6 x.1 ks:=fun x hx=>by
   have y:=kas_range (pairsOf vs)
   rw [pairsOf_size] at y
   rw [<- y,Array.toList_map] at hx
   obtain ⟨i,hi,rfl⟩:=qK.mp hx
   rw [kas_item_eq]
   exact ⟨_,jp hT6 i (by simpa using hi)⟩
  have run:=qal (prog:=prog) (w:=w) (A:=A) (E:=E) (s:={ s with heap:=h6 }) (st:=SortSt.mk' (tuples' true) (pairsOf vs) #[] 7 none) (a0:=pairsOf vs)
   (Q:=fun _ st'=>∃ p,Arr vs.length p/\qb4 (ltK kss) p vs.length/\arrOf st'=p.map (kas_item (pairsOf vs))/\failedOf st'=none)
   (qfk (s:={ s with heap:=h6 })) (qi3 h6) rfl rfl rfl rfl hD6 (by rw [pairsOf_size];rw [sz] at c2;omega) (fun st' hp hf hs=>by
    obtain ⟨p,p1,p2,p3⟩:=qeG hT6 hp hs
    exact ⟨p,p1,p2,p3,hf⟩)
  refine qa (qN (show wpAny (model prog w) A (sortRuns'.run _) _ E _ from run) ?_ fun _ _ e=>e)
  rintro ⟨⟨⟩,st'⟩ s' ⟨rfl,p,hp,hs,e1,e2⟩
  dsimp only
  refine qa (seqEpoch_at at6 rfl (qa (listUpdate_at at6 rfl ?_ (qQ _) ?_)))
  ·rw [e2]
   simp only [bne_self_eq_false,Bool.false_eq_true,if_false]
   refine qd ?_
   rw [e1,snd p]
   exact fin6 p hp hs
  ·show ((arrOf st').map (·.2)).size<=_
   rw [e1,snd p,List.size_toArray,Zx hp]
   omega
end
end L2
namespace L2
open PySem PySem.Spec PyProof.Rows PySem.W
abbrev jJ (h h':Heap):Prop:=∀ b o,h.get? b=some o->h'.get? b=some o
section
variable {prog:Program}{w:World}{A:Around}{E:Value->Shared->Prop}{s:Shared}
def qjJ (s:Shared) (R:List Value->List (List Int)->Prop) (vs:List Value) (s1:Shared):Prop :=
 ∃ h1 tk kss,s1={ s with heap:=h1,toks:=tk }/\jJ s.heap h1/\PySem.Paired (je h1) vs kss/\vs.length<4915/\R vs kss
theorem qcw {x:Value}{R:List Value->List (List Int)->Prop}{Q:Value->Shared->Prop}(hcol:∀ E',wpAny (model prog w) A.in1 (collect x) (qjJ s R) E' s)
  (h:∀ vs kss p h' tk D e,R vs kss->Arr vs.length p->qb4 (ltK kss) p vs.length->PySem.Paired (je h') vs kss->vs.length<4915->jJ s.heap h'->s.heap.get? D=none->h'.get? D=some (seqObj "list" (qbJ vs p).toArray e)->Q (.ref D) { s with heap:=h',toks:=tk }) :
  wpAny (model prog w) A (call (.builtin "sorted") [x]) Q E s:=by
 refine Calls.call_function_entry kind_sorted plain_sorted entry_sorted (args_sorted1 _) ?_
 unfold Builtin.«sorted»
 refine qa (m:=checkCount "sorted" 1 1 _) (qd (qa ?_))
 refine qN (hcol _) (fun vs s1 ⟨h1,tk,kss,e1,kp,hT,h64,hR⟩=>?_) fun _ _ z=>z
 subst e1
 have hn64:vs.length<=sizeLine:=by rw [sizeLine_eq];omega
 refine qa (wpAny_newList ?_ hn64)
 have hD:(h1.push (seqObj "list" vs.toArray 0)).get? h1.objs.size=some (seqObj "list" vs.toArray 0):=qr _ rfl
 have hT2:PySem.Paired (je (h1.push (seqObj "list" vs.toArray 0))) vs kss:=Paired.mapP hT fun v ks t=>t.kept fun b o e _=>qb _ e
 refine qa (yK (yY slot_list_sort ⟨_,hD,rfl⟩ entry_list_sort (qcx (s:={ s with heap:=h1.push (seqObj "list" vs.toArray 0),toks:=tk }) hD hT2 h64 fun p hp hs=>⟨_,rfl,?_⟩) (args_list_sort _)))
 obtain ⟨e,he⟩:=sortedHeap_at (vs:=vs) (out:=(qbJ vs p).toArray) hD
 have kp2:jJ h1 (sortedHeap (h1.push (seqObj "list" vs.toArray 0)) h1.objs.size vs (qbJ vs p).toArray):=fun b o q1=>by
  have hlt:b<h1.objs.size:=qh q1
  rw [sortedHeap_old (qk hlt) (by rw [size_push'];exact Nat.lt_succ_of_lt hlt)]
  exact qb _ q1
 refine qd ⟨_,rfl,h vs kss p _ tk h1.objs.size e hR hp hs (Paired.mapP hT fun v ks t=>t.kept fun b o e _=>kp2 b o e) h64 (fun b o q=>kp2 b o (kp b o q)) ?_ he⟩
 ·cases z:s.heap.get? h1.objs.size with
  | none=>rfl
  | some o =>
   have:=qh (kp _ _ z)
   exact absurd this (yN _)
end
end L2
namespace L2
open PySem PySem.SetTable
def adv (m:Nat) (p:Probe):Probe :=
 if p.more > 0 then { p with j:=p.j+1,more:=p.more - 1 } else
 { p with j:=(leap m p.i p.perturb).1,more:=runEnd m (leap m p.i p.perturb).1 - (leap m p.i p.perturb).1,i:=(leap m p.i p.perturb).1,perturb:=(leap m p.i p.perturb).2 }
theorem qb2 (t:SetTable) (p:Probe):t.advance p=adv t.mask p:=rfl
def at0 (m i e:Nat):Probe:={ j:=i,more:=runEnd m i - i,i:=i,perturb:=e,dummy:=none }
def stp (m:Nat) (h:Int):Nat->Probe
 | 0=>at0 m (bits h % (m+1)) (bits h)
 | k+1=>adv m (stp m h k)
theorem qem (t:SetTable) (h:Int):t.probeStart h=stp t.mask h 0:=rfl
theorem ZG (m:Nat) (h:Int):∀ k,(stp m h k).dummy=none
 | 0=>rfl
 | k+1=>by
  have:=ZG m h k
  simp only [stp,adv]
  split <;> simpa using this
def lp (m:Nat) (h:Int):Nat->Nat×Nat
 | 0=>(bits h % (m+1),bits h)
 | L+1=>leap m (lp m h L).1 (lp m h L).2
theorem qcG {m:Nat}{h:Int}{k i e:Nat}(h0:stp m h k=at0 m i e):∀ r,r<=runEnd m i - i->stp m h (k+r)={ j:=i+r,more:=runEnd m i - i - r,i:=i,perturb:=e,dummy:=none }
 | 0,_=>h0
 | r+1,hr=>by
  have ih:=qcG h0 r (by omega)
  show adv m (stp m h (k+r))=_
  rw [ih]
  unfold adv
  rw [if_pos (show runEnd m i - i - r > 0 by omega)]
  simp only [Probe.mk.injEq,true_and,and_true]
  omega
theorem qfD {m:Nat}{h:Int}{k i e:Nat}(h0:stp m h k=at0 m i e):stp m h (k+(runEnd m i - i)+1)=at0 m (leap m i e).1 (leap m i e).2:=by
 have ih:=qcG h0 (runEnd m i - i) (qj _)
 show adv m (stp m h (k+(runEnd m i - i)))=_
 rw [ih]
 unfold adv
 rw [if_neg (show ¬ runEnd m i - i - (runEnd m i - i) > 0 by omega)]
 rfl
theorem qgt (m i:Nat):runEnd m i - i<=9:=by unfold runEnd;split <;> omega
theorem qfE (m:Nat) (h:Int):∀ L,∃ k,k<=10 * L/\stp m h k=at0 m (lp m h L).1 (lp m h L).2
 | 0=>⟨0,qj _,rfl⟩
 | L+1=>by
  obtain ⟨k,hk,e⟩:=qfE m h L
  have:=qgt m (lp m h L).1
  exact ⟨_,by omega,qfD e⟩
def lcg (M i:Nat):Nat:=(i * 5+1) % M
def itn (M:Nat):Nat->Nat->Nat
 | 0,i=>i
 | n+1,i=>lcg M (itn M n i)
theorem Zf (M:Nat) (i:Nat):∀ a b,itn M (b+a) i=itn M b (itn M a i)
 | a,0=>by rw [Nat.zero_add];rfl
 | a,b+1=>by
  rw [show b+1+a=(b+a)+1 by omega]
  show lcg M (itn M (b+a) i)=lcg M (itn M b (itn M a i))
  rw [Zf M i a b]
structure Full (m:Nat):Prop where
 all:∀ q,q<=m->∃ b,b<=m/\itn (m+1) b 0=q
 back:itn (m+1) (m+1) 0=0
theorem Full.go {m:Nat}(F:Full m) {i q:Nat}(hi:i<=m) (hq:q<=m):∃ b,b<=m/\itn (m+1) b i=q:=by
 obtain ⟨x,hx,rfl⟩:=F.all i hi
 obtain ⟨y,hy,rfl⟩:=F.all q hq
 by_cases c:x<=y
 ·exact ⟨y - x,by omega,by rw [<- Zf,show y - x+x=y by omega]⟩
 ·refine ⟨y+(m+1) - x,by omega,?_⟩
  rw [<- Zf,show y+(m+1) - x+x=y+(m+1) by omega,Zf,F.back]
theorem qdd (m:Nat) (h:Int):∀ L,(lp m h L).2=bits h / 32 ^ L
 | 0=>by simp [lp]
 | L+1=>by
  show (lp m h L).2 / 32=_
  rw [qdd m h L,Nat.div_div_eq_div_mul,Nat.pow_succ]
theorem qhz (h:Int):bits h<18446744073709551616:=by
 unfold bits
 have:=Int.emod_lt_of_pos h (show (0:Int)<2 ^ 64 by decide)
 have:=Int.emod_nonneg h (show (2 ^ 64:Int)≠0 by decide)
 omega
theorem lp_le (m:Nat) (h:Int):∀ L,(lp m h L).1<=m
 | 0=>by
  have:=Nat.mod_lt (bits h) (show 0<m+1 by omega)
  show bits h % (m+1)<=m
  omega
 | L+1=>by
  show ((lp m h L).1 * 5+1+(lp m h L).2 / 32) % (m+1)<=m
  have:=Nat.mod_lt ((lp m h L).1 * 5+1+(lp m h L).2 / 32) (show 0<m+1 by omega)
  omega
theorem qde (m:Nat) (h:Int):∀ b,(lp m h (12+b)).1=itn (m+1) b (lp m h 12).1
 | 0=>rfl
 | b+1=>by
  have ih:=qde m h b
  show ((lp m h (12+b)).1 * 5+1+(lp m h (12+b)).2 / 32) % (m+1)=lcg (m+1) (itn (m+1) b (lp m h 12).1)
  rw [<- ih]
  have hb:=qhz h
  have z:(lp m h (12+b)).2 / 32=0:=by
   rw [qdd,Nat.div_div_eq_div_mul]
   apply Nat.div_eq_of_lt
   have:(32:Nat) ^ (12+b)=32 ^ 12 * 32 ^ b:=Nat.pow_add ..
   rw [this]
   have p1:1<=32 ^ b:=Nat.one_le_pow _ _ (by decide)
   have:(32:Nat) ^ 12 * 1<=32 ^ 12 * 32 ^ b:=Nat.mul_le_mul_left _ p1
   have e12:(32:Nat) ^ 12=1152921504606846976:=by decide
   omega
  rw [z]
  rfl
theorem Full.lp {m:Nat}(F:Full m) (h:Int) {q:Nat}(hq:q<=m):∃ L,L<=m+12/\(lp m h L).1=q:=by
 obtain ⟨b,hb,e⟩:=F.go (lp_le m h 12) hq
 exact ⟨12+b,by omega,by rw [qde,e]⟩
theorem Full.walk {m:Nat}(F:Full m) (h:Int) {q:Nat}(hq:q<=m):∃ k,k<=10 * (m+12)/\(stp m h k).j=q:=by
 obtain ⟨L,hL,e⟩:=F.lp h hq
 obtain ⟨k,hk,e2⟩:=qfE m h L
 exact ⟨k,by omega,by rw [e2];exact e⟩
theorem qfs (m:Nat) (h:Int) (k:Nat):(stp m h k).j<=m:=by
 have key:∀ k,(stp m h k).i<=m/\(stp m h k).j+(stp m h k).more<=m:=by
  intro k
  induction k with
  | zero =>
   have:=Nat.mod_lt (bits h) (show 0<m+1 by omega)
   refine ⟨by show bits h % (m+1)<=m;omega,?_⟩
   show bits h % (m+1)+(runEnd m (bits h % (m+1)) - bits h % (m+1))<=m
   unfold runEnd
   split <;> omega
  | succ k ih =>
   obtain ⟨h1,h2⟩:=ih
   show (adv m (stp m h k)).i<=m/\(adv m (stp m h k)).j+(adv m (stp m h k)).more<=m
   unfold adv
   split
   ·exact ⟨h1,by simp only;omega⟩
   ·have:=Nat.mod_lt ((stp m h k).i * 5+1+(stp m h k).perturb / 32) (show 0<m+1 by omega)
    have e:(leap m (stp m h k).i (stp m h k).perturb).1=((stp m h k).i * 5+1+(stp m h k).perturb / 32) % (m+1):=rfl
    simp only [e]
    refine ⟨by omega,?_⟩
    unfold runEnd
    split <;> omega
 have:=(key k).2
 omega
def chk (m:Nat):Bool:=(List.range (m+1)).all (fun q=>(List.range (m+1)).any fun b=>itn (m+1) b 0 == q) && itn (m+1) (m+1) 0 == 0
theorem qdw {m:Nat}(h:chk m=true):Full m:=by
 unfold chk at h
 rw [Bool.and_eq_true] at h
 obtain ⟨h1,h2⟩:=h
 refine ⟨fun q hq=>?_,by simpa using h2⟩
 have:=List.all_eq_true.mp h1 q (List.mem_range.mpr (by omega))
 obtain ⟨b,hb,e⟩:=List.any_eq_true.mp this
 exact ⟨b,by have:=List.mem_range.mp hb;omega,by simpa using e⟩
theorem full7:Full 7:=qdw (by decide +kernel)
theorem qje:Full 31:=qdw (by decide +kernel)
end L2
namespace L2
open PySem PySem.SetTable
def S5:Nat->Nat
 | 0=>0
 | n+1=>5 * S5 n+1
theorem qf5 (a b:Nat):S5 (a+b)=5 ^ b * S5 a+S5 b:=by
 induction b with
 | zero=>simp [S5]
 | succ b ih =>
  rw [<- Nat.add_assoc]
  show 5 * S5 (a+b)+1=5 ^ (b+1) * S5 a+(5 * S5 b+1)
  rw [ih,Nat.pow_succ]
  grind
theorem p5 (e:Nat):∃ q,5 ^ e+1=2 * (2 * q+1):=by
 induction e with
 | zero=>exact ⟨0,rfl⟩
 | succ e ih =>
  obtain ⟨q,hq⟩:=ih
  refine ⟨5 * q+1,?_⟩
  rw [Nat.pow_succ]
  omega
theorem qd8 (e:Nat):S5 (2 * e)=(5 ^ e+1) * S5 e:=by
 rw [show 2 * e=e+e by omega,qf5]
 grind
theorem qjG (e:Nat):S5 (2 * e+1) % 2=1:=by
 show (5 * S5 (2 * e)+1) % 2=1
 obtain ⟨q,hq⟩:=p5 e
 rw [qd8,hq,Nat.mul_assoc]
 omega
theorem qf4:∀ (k d:Nat),2 ^ k ∣ S5 d->2 ^ k ∣ d
 | 0,d,_=>by simp
 | k+1,d,h=>by
  have hev:d % 2=0:=by
   apply Nat.eq_zero_of_not_pos
   intro z
   have hd:d=2 * (d / 2)+1:=by omega
   have h2:2 ∣ S5 d:=Nat.dvd_trans ⟨2 ^ k,by rw [Nat.pow_succ];omega⟩ h
   rw [hd] at h2
   have:=qjG (d / 2)
   omega
  obtain ⟨e,rfl⟩:∃ e,d=2 * e:=⟨d / 2,by omega⟩
  obtain ⟨q,hq⟩:=p5 e
  rw [qd8,hq,Nat.pow_succ,Nat.mul_comm (2 ^ k),Nat.mul_assoc] at h
  have h3:=Nat.dvd_of_mul_dvd_mul_left (by decide) h
  have co:Nat.Coprime (2 ^ k) (2 * q+1):=Nat.Coprime.pow_left _ (by
   unfold Nat.Coprime
   rw [Nat.gcd_rec]
   simp [Nat.add_mod])
  have h4:=qf4 k e (co.dvd_of_dvd_mul_left h3)
  rw [Nat.pow_succ,Nat.mul_comm]
  exact Nat.mul_dvd_mul_left 2 h4
theorem qf3:∀ k,2 ^ k ∣ S5 (2 ^ k)
 | 0=>by simp
 | k+1=>by
  obtain ⟨q,hq⟩:=p5 (2 ^ k)
  rw [Nat.pow_succ,Nat.mul_comm (2 ^ k) 2,qd8,hq,Nat.mul_assoc]
  exact Nat.mul_dvd_mul_left 2 (Nat.dvd_trans (qf3 k) (Nat.dvd_mul_left _ _))
theorem qfQ (M:Nat):∀ b,itn M b 0 % M=S5 b % M
 | 0=>rfl
 | b+1=>by
  show (itn M b 0 * 5+1) % M % M=(5 * S5 b+1) % M
  rw [Nat.mod_mod,Nat.add_mod,Nat.mul_mod,qfQ M b,<- Nat.mul_mod,<- Nat.add_mod,Nat.mul_comm]
theorem qfP {M:Nat}(hM:0<M):∀ b,itn M b 0<M
 | 0=>hM
 | b+1=>Nat.mod_lt _ hM
theorem qjH {k a b:Nat}(hab:a<=b) (hb:b<2 ^ k) (h:S5 a % 2 ^ k=S5 b % 2 ^ k):a=b:=by
 obtain ⟨d,rfl⟩:∃ d,b=d+a:=⟨b - a,by omega⟩
 rw [qf5] at h
 have h1:2 ^ k ∣ 5 ^ a * S5 d:=by
  have:=Nat.sub_mod_eq_zero_of_mod_eq h.symm
  rw [Nat.add_sub_cancel] at this
  exact Nat.dvd_of_mod_eq_zero this
 have co:Nat.Coprime (2 ^ k) (5 ^ a):=Nat.Coprime.pow _ _ (by decide)
 have h2:=qf4 k d (co.dvd_of_dvd_mul_left h1)
 have:d=0:=Nat.eq_zero_of_dvd_of_lt h2 (by omega)
 omega
theorem qc7:∀ {n:Nat}{l:List Nat},l.Nodup->(∀ x∈l,x<n)->l.length=n->∀ q,q<n->q∈l:=fun {n l} h1 h2 h3 q hq=>by
 have hp:l.Perm (List.range n):=by
  have sub:∀ (l r:List Nat),l.Nodup->(∀ x∈l,x∈r)->∃ r',(l++r').Perm r:=by
   intro l
   induction l with
   | nil=>exact fun r _ _=>⟨r,List.Perm.refl _⟩
   | cons a l ih =>
    intro r hn hs
    have ha:=hs a qg
    obtain ⟨r',hr'⟩:=ih (r.erase a) (List.nodup_cons.mp hn).2 (fun x hx=>by
     have:x≠a:=fun z=>(List.nodup_cons.mp hn).1 (z ▸ hx)
     exact (List.mem_erase_of_ne this).mpr (hs x (qe _ hx)))
    exact ⟨r',(hr'.cons a).trans (List.perm_cons_erase ha).symm⟩
  obtain ⟨r',hr'⟩:=sub l (List.range n) h1 fun x hx=>List.mem_range.mpr (h2 x hx)
  have:=hr'.length_eq
  rw [List.length_append,List.length_range] at this
  have:r'=[]:=List.eq_nil_of_length_eq_zero (by omega)
  rw [this,List.append_nil] at hr'
  exact hr'
 exact hp.mem_iff.mpr (List.mem_range.mpr hq)
theorem Ye (k m:Nat) (hm:m+1=2 ^ k):Full m:=by
 have hM:0<2 ^ k:=by omega
 have red:∀ b,itn (2 ^ k) b 0=S5 b % 2 ^ k:=fun b=>by
  have:=qfQ (2 ^ k) b
  rwa [Nat.mod_eq_of_lt (qfP hM b)] at this
 refine ⟨fun q hq=>?_,?_⟩
 ·have hnd:((List.range (2 ^ k)).map fun b=>itn (2 ^ k) b 0).Nodup:=by
   refine List.pairwise_map.mpr (qH.mpr fun i j hi hj hij z=>?_)
   rw [List.length_range] at hi hj
   rw [List.getElem_range,List.getElem_range,red,red] at z
   have:=qjH (yl hij) hj z
   omega
  have:=qc7 hnd (fun x hx=>by
   obtain ⟨b,_,rfl⟩:=qK.mp hx
   exact qfP hM b) (by simp) q (by omega)
  obtain ⟨b,hb,e⟩:=qK.mp this
  have:=List.mem_range.mp hb
  exact ⟨b,by omega,by rw [hm];exact e⟩
 ·rw [hm,red]
  exact Nat.mod_eq_zero_of_dvd (qf3 k)
theorem qha:Full 127:=Ye 7 127 (by decide)
theorem qg9:Full 511:=Ye 9 511 (by decide)
theorem qe0:Full 2047:=Ye 11 2047 (by decide)
theorem qeZ:Full 8191:=Ye 13 8191 (by decide)
def qf6 (xs:Array Nat):Prop:=∀ i j,i<j->j<xs.size->xs.getD i 0<xs.getD j 0
theorem getD_some {xs:Array Nat}{i d:Nat}(h:i<xs.size):xs[i]?=some (xs.getD i d):=by
 simp [Array.getD,h]
theorem Zu {xs:Array Nat}{j:Nat}(hr:qf6 xs):∀ (fu lo hi:Nat),lo<=hi->hi<=xs.size->hi - lo<=fu->(∀ i,i<lo->xs.getD i 0<j)->(∀ i,hi<=i->i<xs.size->j<=xs.getD i 0) →
  (∀ i,i<below.go xs j fu lo hi->xs.getD i 0<j)/\(∀ i,below.go xs j fu lo hi<=i->i<xs.size->j<=xs.getD i 0)/\below.go xs j fu lo hi<=xs.size
 | 0,lo,hi,h1,h2,h3,h4,h5=>by
  have:lo=hi:=by omega
  subst this
  exact ⟨h4,h5,h2⟩
 | fu+1,lo,hi,h1,h2,h3,h4,h5=>by
  unfold below.go
  by_cases c:lo<hi
  ·rw [if_pos c]
   dsimp only
   have hm:(lo+hi) / 2<xs.size:=by omega
   have e:xs.getD ((lo+hi) / 2) j=xs.getD ((lo+hi) / 2) 0:=by simp [Array.getD,hm]
   rw [e]
   by_cases d:xs.getD ((lo+hi) / 2) 0<j
   ·rw [if_pos d]
    refine Zu hr fu _ hi (by omega) h2 (by omega) (fun i hi'=>?_) h5
    by_cases q:i=(lo+hi) / 2
    ·subst q;exact d
    ·exact y9 (hr i ((lo+hi) / 2) (by omega) hm) d
   ·rw [if_neg d]
    refine Zu hr fu lo _ (by omega) (by omega) (by omega) h4 fun i hi' hlt=>?_
    by_cases q:i=(lo+hi) / 2
    ·subst q;omega
    ·have:=hr ((lo+hi) / 2) i (by omega) hlt
     omega
  ·rw [if_neg c]
   have:lo=hi:=by omega
   subst this
   exact ⟨h4,h5,h2⟩
theorem jR {xs:Array Nat}(hr:qf6 xs) (j:Nat):(∀ i,i<below xs j->xs.getD i 0<j)/\(∀ i,below xs j<=i->i<xs.size->j<=xs.getD i 0)/\below xs j<=xs.size :=
 Zu hr xs.size 0 xs.size (qQ _) (qj _) (by omega) (fun i z=>absurd z (by omega)) fun i a b=>absurd b (by omega)
theorem Zv {xs:Array Nat}(hr:qf6 xs) {i j:Nat}(h:xs[i]?=some j):below xs j=i:=by
 obtain ⟨h1,h2,h3⟩:=jR hr j
 have hi:i<xs.size:=by
  rcases Nat.lt_or_ge i xs.size with z | z
  ·exact z
  ·rw [yg z] at h;cases h
 have e:xs.getD i 0=j:=by
  have:=getD_some (d:=0) hi
  rw [h] at this
  exact (Option.some.inj this).symm
 rcases Nat.lt_trichotomy (below xs j) i with z | z | z
 ·have a:=h2 (below xs j) (qj _) (by omega)
  have b:=hr (below xs j) i z hi
  omega
 ·exact z
 ·have:=h1 i z
  omega
theorem qet {xs:Array Nat}(hr:qf6 xs) {i i' j:Nat}(h:xs[i]?=some j) (h':xs[i']?=some j):i=i':=(Zv hr h).symm.trans (Zv hr h')
structure Tab (t:SetTable) (m n:Nat):Prop where
 mask:t.mask=m
 dm:t.dummies=#[]
 size:t.place.size=n
 rise:qf6 t.place
 le:∀ i j:Nat,t.place[i]?=some j->j<=m
def Fl (t:SetTable) (j:Nat):Prop:=∃ i:Nat,t.place[i]?=some j
theorem qdv (j:Nat):has #[] j=false:=by simp [has]
section
variable {t:SetTable}{m n:Nat}
theorem Tab.live (T:Tab t m n) {i j:Nat}(h:t.place[i]?=some j):t.slot j = .live i:=by
 unfold slot
 have e:=Zv T.rise h
 simp only [e,h,beq_self_eq_true,if_true]
theorem Tab.empty (T:Tab t m n) {j:Nat}(h:¬ Fl t j):t.slot j = .empty:=by
 unfold slot
 have e:(t.place[below t.place j]? == some j)=false:=by
  rw [jl]
  intro z
  exact h ⟨_,by simpa using z⟩
 simp only [e,T.dm,qdv,Bool.false_eq_true,if_false]
theorem Tab.free (T:Tab t m n) (hn:n<=m):∃ q,q<=m/\¬ Fl t q:=by
 refine Classical.byContradiction fun hc=>?_
 have all:∀ q,q<=m->Fl t q:=fun q hq=>Classical.byContradiction fun z=>hc ⟨q,hq,z⟩
 have sub:List.range (m+1) ⊆ t.place.toList:=fun q hq=>by
  obtain ⟨i,e⟩:=all q (by have:=List.mem_range.mp hq;omega)
  exact List.mem_of_getElem? (by rw [qp];exact e)
 have:=List.Nodup.length_le_of_subset List.nodup_range sub
 rw [List.length_range,Array.length_toList,T.size] at this
 omega
theorem Tab.probe_go (T:Tab t m n) {hashAt:Nat->Int}{h:Int}{K:Nat}(hK:¬ Fl t (stp m h K).j):∀ (fu k:Nat),k<=K->K - k<fu →
  ∃ x,k<=x/\x<=K/\(∀ l,k<=l->l<x->∃ i:Nat,t.place[i]?=some (stp m h l).j/\hashAt i≠h) ∧
   ((¬ Fl t (stp m h x).j/\probe.go t hashAt h fu (stp m h k)=some (.empty (stp m h x).j none)) ∨
    ∃ i:Nat,t.place[i]?=some (stp m h x).j/\hashAt i=h/\probe.go t hashAt h fu (stp m h k)=some (.candidate (stp m h x).j i (stp m h (x+1))))
 | 0,k,_,z=>absurd z (by omega)
 | fu+1,k,hk,hf=>by
  unfold probe.go
  by_cases c:Fl t (stp m h k).j
  ·obtain ⟨i,e⟩:=id c
   rw [T.live e]
   dsimp only
   have adv1:t.advance (stp m h k)=stp m h (k+1):=by rw [qb2,T.mask];rfl
   by_cases d:hashAt i=h
   ·refine ⟨k,qj _,hk,fun l a b=>absurd b (by omega),.inr ⟨i,e,d,?_⟩⟩
    rw [if_pos (by rw [d];exact beq_self_eq_true _),adv1]
   ·rw [if_neg (by simpa using d),adv1]
    have hne:k≠K:=fun z=>hK (z ▸ c)
    obtain ⟨x,x1,x2,x3,x4⟩:=T.probe_go hK fu (k+1) (by omega) (by omega)
    refine ⟨x,by omega,x2,fun l a b=>?_,x4⟩
    by_cases q:l=k
    ·subst q;exact ⟨i,e,d⟩
    ·exact x3 l (by omega) b
  ·rw [T.empty c]
   dsimp only
   exact ⟨k,qj _,hk,fun l a b=>absurd b (by omega),.inl ⟨c,by rw [ZG]⟩⟩
end
theorem yO {α:Type}{xs:Array α}{p:Nat}{x:α}(hp:p<=xs.size) (i:Nat):(insertAt xs p x)[i]?=if i<p then xs[i]? else if i=p then some x else xs[i - 1]?:=by
 unfold insertAt
 have s1:((xs.extract 0 p).push x).size=p+1:=by simp [Array.size_push,Array.size_extract];omega
 have s0:(xs.extract 0 p).size=p:=by simp [Array.size_extract];omega
 rw [Array.getElem?_append,s1]
 by_cases c:i<p
 ·rw [if_pos (by omega),if_pos c,Array.getElem?_push,s0,if_neg (by omega),Array.getElem?_extract,if_pos (by omega),Nat.zero_add]
 ·rw [if_neg c]
  by_cases d:i=p
  ·subst d
   rw [if_pos (by omega),if_pos rfl,Array.getElem?_push,s0,if_pos rfl]
  ·rw [if_neg d,if_neg (by omega),Array.getElem?_extract]
   by_cases e:i - 1<xs.size
   ·rw [if_pos (by omega)]
    congr 1
    omega
   ·rw [if_neg (by omega),yg (by omega)]
theorem Yc {α:Type}{xs:Array α}{p:Nat}{x:α}(hp:p<=xs.size):(insertAt xs p x).size=xs.size+1:=by
 unfold insertAt
 simp [Array.size_extract]
 omega
def AtS {α:Type}(place:Array Nat) (es:Array α) (j:Nat) (e:α):Prop:=∃ i:Nat,place[i]?=some j/\es[i]?=some e
theorem qjb {α:Type}{place:Array Nat}{es:Array α}{p j j':Nat}{e e':α}(hp:p<=place.size) (hq:p<=es.size):AtS (insertAt place p j) (insertAt es p e) j' e' ↔ AtS place es j' e'\/(j'=j/\e'=e):=by
 constructor
 ·rintro ⟨i,h1,h2⟩
  rw [yO hp] at h1
  rw [yO hq] at h2
  by_cases c:i<p
  ·rw [if_pos c] at h1 h2
   exact .inl ⟨i,h1,h2⟩
  ·rw [if_neg c] at h1 h2
   by_cases d:i=p
   ·rw [if_pos d] at h1 h2
    exact .inr ⟨(Option.some.inj h1).symm,(Option.some.inj h2).symm⟩
   ·rw [if_neg d] at h1 h2
    exact .inl ⟨i - 1,h1,h2⟩
 ·rintro (⟨i,h1,h2⟩ | ⟨rfl,rfl⟩)
  ·by_cases c:i<p
   ·exact ⟨i,by rw [yO hp,if_pos c];exact h1,by rw [yO hq,if_pos c];exact h2⟩
   ·exact ⟨i+1,by rw [yO hp,if_neg (by omega),if_neg (by omega)];exact h1,by rw [yO hq,if_neg (by omega),if_neg (by omega)];exact h2⟩
  ·exact ⟨p,by rw [yO hp,if_neg (by omega),if_pos rfl],by rw [yO hq,if_neg (by omega),if_pos rfl]⟩
theorem qes {xs:Array Nat}(hr:qf6 xs) {j:Nat}(hj:¬ ∃ i:Nat,xs[i]?=some j):qf6 (insertAt xs (below xs j) j):=by
 obtain ⟨h1,h2,h3⟩:=jR hr j
 have val:∀ i,i<xs.size+1->(insertAt xs (below xs j) j).getD i 0=if i<below xs j then xs.getD i 0 else if i=below xs j then j else xs.getD (i - 1) 0:=fun i hi=>by
  have e:=yO (x:=j) h3 i
  simp only [Array.getD_eq_getD_getElem?,e]
  split
  ·rfl
  ·split <;> rfl
 have gt:∀ i,below xs j<=i->i<xs.size->j<xs.getD i 0:=fun i a b=>by
  have:=h2 i a b
  have ne:xs.getD i 0≠j:=fun z=>hj ⟨i,by rw [getD_some (d:=0) b,z]⟩
  omega
 intro a b hab hb
 rw [Yc h3] at hb
 rw [val a (by omega),val b hb]
 by_cases b1:b<below xs j
 ·rw [if_pos b1,if_pos (by omega)]
  exact hr a b hab (by omega)
 ·rw [if_neg b1]
  by_cases b2:b=below xs j
  ·rw [if_pos b2,if_pos (by omega)]
   exact h1 a (by omega)
  ·rw [if_neg b2]
   by_cases a1:a<below xs j
   ·rw [if_pos a1]
    exact hr a (b - 1) (by omega) (by omega)
   ·rw [if_neg a1]
    by_cases a2:a=below xs j
    ·rw [if_pos a2]
     exact gt (b - 1) (by omega) (by omega)
    ·rw [if_neg a2]
     exact hr (a - 1) (b - 1) (by omega) (by omega)
theorem Tab.put {t:SetTable}{m n:Nat}(T:Tab t m n) {j:Nat}(hj:¬ Fl t j) (hm:j<=m):Tab (t.put j).1 m (n+1)/\(t.put j).2=below t.place j/\(t.put j).1.place=insertAt t.place (below t.place j) j:=by
 obtain ⟨h1,h2,h3⟩:=jR T.rise j
 refine ⟨⟨T.mask,?_,?_,qes T.rise hj,fun i j' e=>?_⟩,rfl,rfl⟩
 ·show (if has t.dummies j=true then _ else t.dummies)=#[]
  rw [T.dm,qdv,if_neg (by simp)]
 ·show (insertAt t.place (below t.place j) j).size=n+1
  rw [Yc h3,T.size]
 ·have e:(insertAt t.place (below t.place j) j)[i]?=some j':=e
  rw [yO h3] at e
  split at e
  ·exact T.le _ _ e
  ·split at e
   ·rw [<- Option.some.inj e];exact hm
   ·exact T.le _ _ e
end L2
namespace L2
open PySem PySem.SetTable
def Rch (fl:Nat->Prop) (m:Nat) (h:Int) (j:Nat):Prop:=∃ k,(stp m h k).j=j/\∀ l,l<k->fl (stp m h l).j
theorem Rch.mono {fl fl':Nat->Prop}{m:Nat}{h:Int}{j:Nat}(f:∀ q,fl q->fl' q) (r:Rch fl m h j):Rch fl' m h j:=by
 obtain ⟨k,e,a⟩:=r
 exact ⟨k,e,fun l hl=>f _ (a l hl)⟩
structure SetI {α:Type}(t:SetTable) (es:Array (Int×α)) (m n:Nat):Prop where
 tab:Tab t m n
 sz:es.size=n
 rch:∀ (j:Nat) (e:Int×α),AtS t.place es j e->Rch (Fl t) m e.1 j
def fO (owner:Array (Option Nat)) (j:Nat):Prop:=(owner.getD j (some 0)).isSome=true
theorem qdx {m:Nat}{owner:Array (Option Nat)}{h:Int}:∀ (fu L k0:Nat),stp m h k0=at0 m (lp m h L).1 (lp m h L).2->(∀ l,l<k0->fO owner (stp m h l).j)->(∃ L',L<=L'/\L'<L+fu/\¬ fO owner (lp m h L').1) →
  ∃ j,layClean.free m owner fu (lp m h L).1 (lp m h L).2=some j/\¬ fO owner j/\Rch (fO owner) m h j
 | 0,L,k0,_,_,⟨L',a,b,_⟩=>absurd b (by omega)
 | fu+1,L,k0,hk,hf,⟨L',a,b,c⟩=>by
  unfold layClean.free
  have ri:=qcG hk
  cases hfind:(List.range (runEnd m (lp m h L).1+1 - (lp m h L).1)).find? fun k=>(owner.getD ((lp m h L).1+k) (some 0)).isNone with
  | some kk =>
   obtain ⟨p1,p2,p3⟩:=List.find?_range_eq_some.mp hfind
   have hkk:=List.mem_range.mp p2
   refine ⟨(lp m h L).1+kk,rfl,fun z=>?_,k0+kk,by rw [ri kk (by omega)],fun l hl=>?_⟩
   ·unfold fO at z
    rw [Option.isNone_iff_eq_none.mp p1] at z
    cases z
   ·by_cases d:l<k0
    ·exact hf l d
    ·obtain ⟨r,rfl⟩:∃ r,l=k0+r:=⟨l - k0,by omega⟩
     rw [ri r (by omega)]
     have:=p3 r (by omega)
     unfold fO
     rw [Bool.not_eq_true',Option.isNone_eq_false_iff] at this
     exact this
  | none =>
   have pn:=List.find?_eq_none.mp hfind
   have fil:∀ r,r<=runEnd m (lp m h L).1 - (lp m h L).1->fO owner ((lp m h L).1+r):=fun r hr=>by
    have hge:(lp m h L).1<=runEnd m (lp m h L).1:=by unfold runEnd;split <;> omega
    have:=pn r (List.mem_range.mpr (by omega))
    unfold fO
    rw [Bool.not_eq_true,Option.isNone_eq_false_iff] at this
    exact this
   have hne:L'≠L:=by
    rintro rfl
    exact c (by simpa using fil 0 (qQ _))
   refine qdx fu (L+1) (k0+(runEnd m (lp m h L).1 - (lp m h L).1)+1) (qfD hk) (fun l hl=>?_) ⟨L',by omega,by omega,c⟩
   by_cases d:l<k0
   ·exact hf l d
   ·obtain ⟨r,rfl⟩:∃ r,l=k0+r:=⟨l - k0,by omega⟩
    rw [ri r (by omega)]
    exact fil r (by omega)
structure OW (m:Nat) (hs:Nat->Int) (owner:Array (Option Nat)) (k:Nat):Prop where
 sz:owner.size=m+1
 own:∀ j i:Nat,owner[j]?=some (some i)->i<k/\Rch (fO owner) m (hs i) j
 ex:∀ i,i<k->∃ j:Nat,owner[j]?=some (some i)
 inj:∀ j j' i:Nat,owner[j]?=some (some i)->owner[j']?=some (some i)->j=j'
def qhM (m:Nat) (owner:Array (Option Nat)):List Nat:=(List.range (m+1)).filterMap fun j=>owner.getD j none
theorem JJ {owner:Array (Option Nat)}{j i:Nat}:owner.getD j none=some i ↔ owner[j]?=some (some i):=by
 rw [Array.getD_eq_getD_getElem?]
 cases owner[j]? with
 | none=>simp
 | some o=>simp
theorem OW.nodup {m k:Nat}{hs:Nat->Int}{owner:Array (Option Nat)}(W:OW m hs owner k):(qhM m owner).Nodup:=by
 refine List.Pairwise.filterMap _ (fun a a' hne b e b' e' z=>?_) List.nodup_range
 subst z
 exact hne (W.inj _ _ _ (JJ.mp e) (JJ.mp e'))
theorem OW.len {m k:Nat}{hs:Nat->Int}{owner:Array (Option Nat)}(W:OW m hs owner k):(qhM m owner).length=k:=by
 apply Nat.le_antisymm
 ·have sub:qhM m owner ⊆ List.range k:=fun i hi=>by
   obtain ⟨j,_,e⟩:=List.mem_filterMap.mp hi
   exact List.mem_range.mpr (W.own j i (JJ.mp e)).1
  have:=List.Nodup.length_le_of_subset W.nodup sub
  rwa [List.length_range] at this
 ·have sub:List.range k ⊆ qhM m owner:=fun i hi=>by
   obtain ⟨j,e⟩:=W.ex i (List.mem_range.mp hi)
   have hj:j<owner.size:=by
    rcases Nat.lt_or_ge j owner.size with z | z
    ·exact z
    ·rw [yg z] at e;cases e
   exact List.mem_filterMap.mpr ⟨j,List.mem_range.mpr (by rw [W.sz] at hj;exact hj),JJ.mpr e⟩
  have:=List.Nodup.length_le_of_subset List.nodup_range sub
  rwa [List.length_range] at this
theorem OW.free {m k:Nat}{hs:Nat->Int}{owner:Array (Option Nat)}(W:OW m hs owner k) (hk:k<=m):∃ q,q<=m/\¬ fO owner q:=by
 refine Classical.byContradiction fun hc=>?_
 have all:∀ q,q<=m->fO owner q:=fun q hq=>Classical.byContradiction fun z=>hc ⟨q,hq,z⟩
 have h1:=W.len
 unfold qhM at h1
 rw [List.length_filterMap_eq_countP] at h1
 have h2:List.countP (fun j=>(owner.getD j none).isSome) (List.range (m+1))=(List.range (m+1)).length:=List.countP_eq_length.mpr fun j hj=>by
  have hj:=List.mem_range.mp hj
  have a:=all j (by omega)
  have hlt:j<owner.size:=by rw [W.sz];exact hj
  unfold fO at a
  simpa [Array.getD,hlt] using a
 rw [h2,List.length_range] at h1
 omega
theorem OW.step {m k:Nat}{hs:Nat->Int}{owner:Array (Option Nat)}(W:OW m hs owner k) {j:Nat}(hj:¬ fO owner j) (hr:Rch (fO owner) m (hs k) j):OW m hs (owner.setIfInBounds j (some k)) (k+1):=by
 have hlt:j<owner.size:=by
  rcases Nat.lt_or_ge j owner.size with z | z
  ·exact z
  ·refine absurd ?_ hj
   unfold fO
   simp [Array.getD,Nat.not_lt.mpr z]
 have nn:owner[j]?=some none:=by
  cases e:owner[j]? with
  | none=>rw [Array.getElem?_eq_none_iff] at e;omega
  | some o =>
   cases o with
   | none=>rfl
   | some i =>
    refine absurd ?_ hj
    unfold fO
    rw [Array.getD_eq_getD_getElem?,e]
    rfl
 have get:∀ q:Nat,(owner.setIfInBounds j (some k))[q]?=if q=j then some (some k) else owner[q]?:=fun q=>by
  rw [Array.getElem?_setIfInBounds]
  by_cases c:q=j
  ·subst c;simp [hlt]
  ·rw [if_neg c,if_neg (fun z=>c z.symm)]
 have up:∀ q,fO owner q->fO (owner.setIfInBounds j (some k)) q:=fun q hq=>by
  unfold fO at hq ⊢
  rw [Array.getD_eq_getD_getElem?] at hq ⊢
  rw [get]
  split
  ·rfl
  ·exact hq
 refine ⟨by rw [Array.size_setIfInBounds];exact W.sz,fun q i e=>?_,fun i hi=>?_,fun q q' i e e'=>?_⟩
 ·rw [get] at e
  by_cases c:q=j
  ·rw [if_pos c] at e
   have:k=i:=Option.some.inj (Option.some.inj e)
   subst this
   subst c
   exact ⟨by omega,hr.mono up⟩
  ·rw [if_neg c] at e
   obtain ⟨a,b⟩:=W.own q i e
   exact ⟨by omega,b.mono up⟩
 ·by_cases c:i=k
  ·subst c
   exact ⟨j,by rw [get,if_pos rfl]⟩
  ·obtain ⟨q,e⟩:=W.ex i (by omega)
   refine ⟨q,?_⟩
   rw [get,if_neg (fun z=>by rw [z,nn] at e;cases e)]
   exact e
 ·rw [get] at e e'
  by_cases c:q=j
  ·rw [if_pos c] at e
   have hik:k=i:=Option.some.inj (Option.some.inj e)
   by_cases c':q'=j
   ·rw [c,c']
   ·rw [if_neg c'] at e'
    have:=(W.own q' i e').1
    omega
  ·rw [if_neg c] at e
   by_cases c':q'=j
   ·rw [if_pos c'] at e'
    have hik:k=i:=Option.some.inj (Option.some.inj e')
    have:=(W.own q i e).1
    omega
   ·rw [if_neg c'] at e'
    exact W.inj q q' i e e'
theorem OW.init (m:Nat) (hs:Nat->Int):OW m hs (Array.replicate (m+1) none) 0:=by
 have z:∀ j i:Nat,(Array.replicate (m+1) (none:Option Nat))[j]?=some (some i)->False:=fun j i e=>by
  rw [Array.getElem?_replicate] at e
  split at e <;> simp at e
 exact ⟨by simp,fun j i e=>(z j i e).elim,fun i hi=>absurd hi (by omega),fun j j' i e=>(z j i e).elim⟩
def qaE (m:Nat) (acc:Option (Array (Option Nat)×Nat)) (h:Int):Option (Array (Option Nat)×Nat):=do
 let (owner,k) <- acc
 let j <- layClean.free m owner (turns m) (bits h % (m+1)) (bits h)
 pure (owner.setIfInBounds j (some k),k+1)
theorem qaF (m:Nat) (hashes:Array Int):layClean m hashes=(hashes.foldl (qaE m) (some (Array.replicate (m+1) none,0))).map (·.1):=rfl
theorem qdy {m:Nat}(F:Full m) {hs:Nat->Int}:∀ (l:List Int) (owner:Array (Option Nat)) (k:Nat),OW m hs owner k->(∀ i (h:Int),l[i]?=some h->hs (k+i)=h)->k+l.length<=m+1 →
  ∃ owner',l.foldl (qaE m) (some (owner,k))=some (owner',k+l.length)/\OW m hs owner' (k+l.length)
 | [],owner,k,W,_,_=>⟨owner,rfl,W⟩
 | h::l,owner,k,W,hl,hk=>by
  simp only [List.length_cons] at hk ⊢
  obtain ⟨q,hq,hq2⟩:=W.free (by omega)
  obtain ⟨L',a,b⟩:=F.lp h hq
  obtain ⟨j,e,j1,j2⟩:=qdx (m:=m) (owner:=owner) (h:=h) (turns m) 0 0 rfl (fun l z=>absurd z (by omega)) ⟨L',by omega,by unfold turns;omega,by rw [b];exact hq2⟩
  have hk0:hs k=h:=hl 0 h rfl
  have W':=W.step j1 (by rw [hk0];exact j2)
  obtain ⟨o',e',W''⟩:=qdy F l _ (k+1) W' (fun i h' e=>by rw [show k+1+i=k+(i+1) by omega];exact hl (i+1) h' (by simpa using e)) (by omega)
  refine ⟨o',?_,by rw [show k+(l.length+1)=k+1+l.length by omega];exact W''⟩
  rw [List.foldl_cons]
  have e0:qaE m (some (owner,k)) h=some (owner.setIfInBounds j (some k),k+1):=by
   show (layClean.free m owner (turns m) (bits h % (m+1)) (bits h) >>= fun j=>pure (owner.setIfInBounds j (some k),k+1))=_
   have e:layClean.free m owner (turns m) (bits h % (m+1)) (bits h)=some j:=e
   rw [e]
   rfl
  rw [e0,e',show k+(l.length+1)=k+1+l.length by omega]
theorem qfT {α β:Type}{f:α->Option β}:∀ {l:List α},(∀ x∈l,(f x).isSome=true)->∀ i:Nat,(l.filterMap f)[i]?=l[i]?.bind f
 | [],_,i=>by simp
 | x::l,h,i=>by
  obtain ⟨y,e⟩:=Option.isSome_iff_exists.mp (h x qg)
  rw [List.filterMap_cons_some e]
  cases i with
  | zero=>simp [e]
  | succ i=>simpa using qfT (fun z hz=>h z (qe _ hz)) i
theorem qjg {α β:Type}{f:α->Option β}{l:List α}(h:∀ x∈l,(f x).isSome=true):(l.filterMap f).length=l.length:=by
 rw [List.length_filterMap_eq_countP,List.countP_eq_length.mpr h]
theorem qgZ {α:Type}{m n fi mv:Nat}(F:Full m) {ld pl:Bool}{es:Array (Int×α)}(hn:es.size=n) (hm:n<=m+1) :
  ∃ (t:SetTable) (order:Array Nat),laid m fi mv ld pl (es.map (·.1))=some (t,order)/\t.led=ld/\t.plain=pl/\(order.filterMap (es[·]?)).size=es.size/\SetI t (order.filterMap (es[·]?)) m n ∧
   (∀ e,e∈(order.filterMap (es[·]?)).toList ↔ e∈es.toList) ∧
   ∀ (i i':Nat) (e e':Int×α),(order.filterMap (es[·]?))[i]?=some e->(order.filterMap (es[·]?))[i']?=some e'->(∀ y y':Nat,es[y]?=some e->es[y']?=some e'->y=y')->i=i':=by
 obtain ⟨owner,eo,W⟩:=qdy F (hs:=fun i=>((es.map (·.1)).getD i 0)) (es.map (·.1)).toList (Array.replicate (m+1) none) 0 (OW.init m _) (fun i h e=>by
  rw [Nat.zero_add,Array.getD_eq_getD_getElem?,<- qp,e];rfl) (by simp;omega)
 have hlen:(es.map (·.1)).toList.length=n:=by simp [hn]
 rw [Nat.zero_add,hlen] at eo W
 have live:∃ live:List (Nat×Nat),live=(List.range (m+1)).filterMap fun j=>(owner.getD j none).map (j,·):=⟨_,rfl⟩
 obtain ⟨live,el⟩:=live
 have lmem:∀ j i,(j,i)∈live ↔ owner[j]?=some (some i):=fun j i=>by
  rw [el,List.mem_filterMap]
  constructor
  ·rintro ⟨q,_,e⟩
   cases o:owner.getD q none with
   | none=>rw [o] at e;cases e
   | some x =>
    rw [o] at e
    cases e
    exact JJ.mp o
  ·intro e
   have hj:j<owner.size:=by
    rcases Nat.lt_or_ge j owner.size with z | z
    ·exact z
    ·rw [yg z] at e;cases e
   exact ⟨j,List.mem_range.mpr (by rw [W.sz] at hj;exact hj),by rw [JJ.mpr e];rfl⟩
 have llen:live.length=n:=by
  have:=W.len
  unfold qhM at this
  rw [List.length_filterMap_eq_countP] at this
  rw [el,List.length_filterMap_eq_countP,<- this]
  congr 1
  funext j
  cases owner.getD j none <;> rfl
 have lsort:live.Pairwise fun a b=>a.1<b.1:=by
  rw [el]
  refine List.Pairwise.filterMap _ (fun a a' hlt b e b' e'=>?_) List.pairwise_lt_range
  cases o:owner.getD a none with
  | none=>rw [o] at e;cases e
  | some x =>
   cases o':owner.getD a' none with
   | none=>rw [o'] at e';cases e'
   | some x' =>
    rw [o] at e;rw [o'] at e'
    cases e;cases e'
    exact hlt
 have some1:∀ x∈live.map (·.2),(es[x]?).isSome=true:=fun x hx=>by
  obtain ⟨⟨j,i⟩,hji,rfl⟩:=qK.mp hx
  have:=(W.own j i ((lmem j i).mp hji)).1
  simp [hn,this]
 have es':((live.map (·.2)).toArray.filterMap (es[·]?))=((live.map (·.2)).filterMap (es[·]?)).toArray:=by simp
 have get':∀ i:Nat,((live.map (·.2)).toArray.filterMap (es[·]?))[i]?=live[i]?.bind fun x=>es[x.2]?:=fun i=>by
  rw [es',List.getElem?_toArray,qfT some1,List.getElem?_map]
  cases live[i]? <;> rfl
 have size':((live.map (·.2)).toArray.filterMap (es[·]?)).size=n:=by
  rw [es',List.size_toArray,qjg some1,List.length_map,llen]
 have pget:∀ i:Nat,(live.map (·.1)).toArray[i]?=live[i]?.map (·.1):=fun i=>by rw [List.getElem?_toArray,List.getElem?_map]
 refine ⟨{ mask:=m,place:=(live.map (·.1)).toArray,dummies:=#[],finger:=fi,led:=ld,moves:=mv,plain:=pl },(live.map (·.2)).toArray,?_,rfl,rfl,by rw [size',hn],⟨⟨rfl,rfl,by simp [llen],?_,?_⟩,size',?_⟩,fun e=>?_,fun i i' e e' h1 h2 hyy=>?_⟩
 ·unfold laid
  rw [qaF,<- Array.foldl_toList,eo,el]
  rfl
 ·intro a b hab hb
  have hb':b<live.length:=by simpa using hb
  have ha':a<live.length:=by omega
  have:=qH.mp lsort a b ha' hb' hab
  simpa [Array.getD,ha',hb'] using this
 ·intro i j e
  rw [show ({ mask:=m,place:=(live.map (·.1)).toArray,dummies:=#[],finger:=fi,led:=ld,moves:=mv,plain:=pl }:SetTable).place[i]?=live[i]?.map (·.1) from pget i] at e
  cases o:live[i]? with
  | none=>rw [o] at e;cases e
  | some x =>
   rw [o] at e
   obtain ⟨q,y⟩:=x
   have hq:=(lmem q y).mp (List.mem_of_getElem? o)
   have:q=j:=Option.some.inj e
   subst this
   have hj:q<owner.size:=by
    rcases Nat.lt_or_ge q owner.size with z | z
    ·exact z
    ·rw [yg z] at hq;cases hq
   rw [W.sz] at hj
   omega
 ·rintro j e ⟨i,h1,h2⟩
  rw [show ({ mask:=m,place:=(live.map (·.1)).toArray,dummies:=#[],finger:=fi,led:=ld,moves:=mv,plain:=pl }:SetTable).place[i]?=live[i]?.map (·.1) from pget i] at h1
  rw [get'] at h2
  cases o:live[i]? with
  | none=>rw [o] at h1;cases h1
  | some x =>
   rw [o] at h1 h2
   obtain ⟨q,y⟩:=x
   have e1:q=j:=Option.some.inj h1
   subst e1
   have h2:es[y]?=some e:=h2
   have hr:=(W.own q y ((lmem q y).mp (List.mem_of_getElem? o))).2
   have eh:((es.map (·.1)).getD y 0)=e.1:=by
    rw [Array.getD_eq_getD_getElem?,Array.getElem?_map,h2];rfl
   rw [<- eh]
   obtain ⟨k,ek,ak⟩:=hr
   refine ⟨k,ek,fun l hl=>?_⟩
   have hp:=ak l hl
   have hle:=qfs m ((es.map (·.1)).getD y 0) l
   generalize (stp m ((es.map (·.1)).getD y 0) l).j=p at hp hle
   unfold fO at hp
   rw [Array.getD_eq_getD_getElem?] at hp
   cases oo:owner[p]? with
   | none =>
    rw [Array.getElem?_eq_none_iff,W.sz] at oo
    omega
   | some v =>
    rw [oo] at hp
    cases v with
    | none=>cases hp
    | some z =>
     obtain ⟨a,ea⟩:=qS ((lmem p z).mpr oo)
     exact ⟨a,by rw [show ({ mask:=m,place:=(live.map (·.1)).toArray,dummies:=#[],finger:=fi,led:=ld,moves:=mv,plain:=pl }:SetTable).place[a]?=live[a]?.map (·.1) from pget a,ea];rfl⟩
 ·constructor
  ·intro he
   obtain ⟨i,ei⟩:=qS he
   rw [qp,get'] at ei
   cases o:live[i]? with
   | none=>rw [o] at ei;cases ei
   | some x =>
    rw [o] at ei
    exact List.mem_of_getElem? (by rw [qp];exact ei)
  ·intro he
   obtain ⟨y,ey⟩:=qS he
   rw [qp] at ey
   have hy:y<n:=by
    rcases Nat.lt_or_ge y es.size with z | z
    ·omega
    ·rw [yg z] at ey;cases ey
   obtain ⟨j,ej⟩:=W.ex y hy
   obtain ⟨i,ei⟩:=qS ((lmem j y).mpr ej)
   refine List.mem_of_getElem? (i:=i) ?_
   rw [qp,get',ei]
   exact ey
 ·rw [get'] at h1 h2
  cases o:live[i]? with
  | none=>rw [o] at h1;cases h1
  | some x =>
   cases o':live[i']? with
   | none=>rw [o'] at h2;cases h2
   | some x' =>
    rw [o] at h1;rw [o'] at h2
    have hxx:x.2=x'.2:=hyy _ _ h1 h2
    have j1:=(lmem x.1 x.2).mp (List.mem_of_getElem? o)
    have j2:=(lmem x'.1 x'.2).mp (List.mem_of_getElem? o')
    rw [<- hxx] at j2
    have jj:=W.inj _ _ _ j1 j2
    have hi:i<live.length:=(qo.mp o).1
    have hi':i'<live.length:=(qo.mp o').1
    have e1:live[i]=x:=(qo.mp o).2
    have e2:live[i']=x':=(qo.mp o').2
    rcases Nat.lt_trichotomy i i' with z | z | z
    ·have:=qH.mp lsort i i' hi hi' z
     rw [e1,e2] at this
     omega
    ·exact z
    ·have:=qH.mp lsort i' i hi' hi z
     rw [e1,e2] at this
     omega
end L2
namespace L2
open PySem PySem.Spec PyProof.Rows PySem.W
section
variable {prog:Program}{w:World}{A:Around}{E:Value->Shared->Prop}{s:Shared}
theorem qeT {vs:List Value}{ns:List Int}(h:IntsAre vs ns):ItemsAre (intKind prog w) ns vs:=by
 induction h with
 | nil=>exact .nil
 | cons n t _ ih=>exact .cons (intKind_is _ _ _ _) ih
theorem je.key {h:Heap}{b:Addr}{ks:List Int}(t:je h (.ref b) ks):IsTupleKey (intKind prog w) h ks b:=by
 obtain ⟨b',o,xs,n,e,ho,hc,hd,hi,_⟩:=t
 cases e
 exact ⟨o,xs,n,ho,hc,hd,qeT hi⟩
abbrev yk (prog:Program) (w:World) (ks:List Int):Int:=tupleKeyHash (intKind prog w) ks
theorem qg6 {b:Addr}{ks:List Int}{Q:Bool->Shared->Prop}(t:je s.heap (.ref b) ks) (q:Q true s):wpAny (model prog w) A (hashByValue 8 (.ref b)) Q E s:=by
 have hT:=(t.key (prog:=prog) (w:=w)).typeIs
 obtain ⟨b',o,xs,n,e,ho,hc,hd,hi,_⟩:=t
 cases e
 unfold hashByValue
 refine qa (wpAny_specialOf hT F.slot_tuple_hash.lookup ?_)
 show wpAny _ _ (seqItems? (.ref b) >>= _) _ _ s
 refine qa (jb ho hd ?_)
 refine qa ?_
 show wpAny _ _ (forIn xs _ _) _ _ s
 rw [<- Array.forIn_toList]
 refine wpAny_forIn_list _ (fun yE r s'=>r.1=none/\s'=s/\∃ ns,IntsAre yE ns) _ ?_ ?_ _ _ ⟨rfl,rfl,_,hi⟩
 ·rintro v yE r s' ⟨hr,rfl,ns,hi'⟩
  cases hi' with
  | cons i t hi'' =>
   refine qa (qd ?_)
   simp only [Bool.not_true,Bool.false_eq_true,if_false]
   exact qd ⟨rfl,rfl,_,hi''⟩
 ·rintro ⟨r1,r2⟩ s' ⟨hr,rfl,_⟩
  simp only at hr
  subst hr
  exact qd q
theorem qdV {b:Addr}{ks:List Int}{Q:Bool->Shared->Prop}(t:je s.heap (.ref b) ks) (q:Q false s):wpAny (model prog w) A (ofAClassStatement 8 (.ref b)) Q E s:=by
 have hT:=(t.key (prog:=prog) (w:=w)).typeIs
 obtain ⟨b',o,xs,n,e,ho,hc,hd,hi,_⟩:=t
 cases e
 unfold ofAClassStatement
 refine qa (wpAny_typeOf hT ?_)
 dsimp only
 rw [if_pos (show ("tuple" == "tuple")=true by decide)]
 refine qa (qd ?_)
 simp only [Bool.not_true,Bool.false_eq_true,if_false]
 refine qa (jb ho hd ?_)
 dsimp only
 refine qa ?_
 show wpAny _ _ (forIn xs _ _) _ _ s
 rw [<- Array.forIn_toList]
 refine wpAny_forIn_list _ (fun yE r s'=>r.1=none/\s'=s/\∃ ns,IntsAre yE ns) _ ?_ ?_ _ _ ⟨rfl,rfl,_,hi⟩
 ·rintro v yE r s' ⟨hr,rfl,ns,hi'⟩
  cases hi' with
  | cons i t hi'' =>
   refine qa (qd ?_)
   simp only [Bool.false_eq_true,if_false]
   exact qd ⟨rfl,rfl,_,hi''⟩
 ·rintro ⟨r1,r2⟩ s' ⟨hr,rfl,_⟩
  simp only at hr
  subst hr
  exact qd q
theorem qgo {b:Addr}{ks:List Int}(t:je s.heap (.ref b) ks) {ys:List Value}{Q:Bool->Shared->Prop}(hy:∀ y∈ys,∃ c ks',y = .ref c/\je s.heap (.ref c) ks') (q:Q false s):wpAny (model prog w) A (searchCouldBeSeen (.ref b) ys) Q E s:=by
 unfold searchCouldBeSeen
 refine qa ?_
 refine wpAny_forIn_list _ (fun yE r s'=>r.1=none/\s'=s/\∀ y∈yE,∃ c ks',y = .ref c/\je s.heap (.ref c) ks') _ ?_ ?_ _ _ ⟨rfl,rfl,hy⟩
 ·rintro v yE r s' ⟨hr,rfl,hy'⟩
  obtain ⟨c,ks',rfl,tc⟩:=hy' v qg
  have rest':∀ y∈yE,∃ c ks',y = .ref c/\je s'.heap (.ref c) ks':=fun y h=>hy' y (qe _ h)
  dsimp only
  by_cases e:(b == c)=true
  ·rw [e]
   simp only [Bool.true_or,if_true]
   exact qd ⟨rfl,rfl,rest'⟩
  ·have e:(b == c)=false:=by simpa using e
   rw [e]
   simp only [carriedByValue,Bool.false_and,Bool.or_false,Bool.false_eq_true,if_false]
   refine qa (wpAny_eqIsQuiet_tuple (t.key (prog:=prog) (w:=w)) ?_)
   simp only [Bool.not_true,Bool.false_eq_true,if_false]
   refine qa (wpAny_eqIsQuiet_tuple (tc.key (prog:=prog) (w:=w)) ?_)
   simp only [Bool.not_true,Bool.false_eq_true,if_false]
   refine qa (qdV t ?_)
   simp only [Bool.false_eq_true,if_false]
   refine qa (qdV tc ?_)
   simp only [Bool.false_eq_true,if_false]
   exact qd ⟨rfl,rfl,rest'⟩
 ·rintro ⟨r1,r2⟩ s' ⟨hr,rfl,_⟩
  simp only at hr
  subst hr
  exact qd q
end
end L2
namespace L2
open PySem PySem.Spec PyProof.Rows PySem.W PySem.SetTable
def jI (m n:Nat):Prop:=(m=7/\n<5)\/(m=31/\n<19)\/(m=127/\n<77)\/(m=511/\n<307)\/(m=2047/\n<1229)\/(m=8191/\n<4915)
theorem jI.full {m n:Nat}(h:jI m n):Full m:=by
 rcases h with ⟨rfl,_⟩ | ⟨rfl,_⟩ | ⟨rfl,_⟩ | ⟨rfl,_⟩ | ⟨rfl,_⟩ | ⟨rfl,_⟩
 ·exact full7
 ·exact qje
 ·exact qha
 ·exact qg9
 ·exact qe0
 ·exact qeZ
theorem jI.le {m n:Nat}(h:jI m n):n<m/\n<4915:=by unfold jI at h;omega
theorem jI.odd {m n:Nat}(h:jI m n):(m % 2 == 0)=false:=by
 rcases h with ⟨rfl,_⟩ | ⟨rfl,_⟩ | ⟨rfl,_⟩ | ⟨rfl,_⟩ | ⟨rfl,_⟩ | ⟨rfl,_⟩ <;> decide
def Zz (prog:Program) (w:World) (h:Heap) (e:Int×Value) (ks:List Int):Prop:=je h e.2 ks/\e.1=yk prog w ks
abbrev ju (w:World):Bool:=w.params.followText "set-order"
structure SetD (prog:Program) (w:World) (Pv:Value->Prop) (h:Heap) (a:Addr) (o:Obj) (es:Array (Int×Value)) (ep:Nat) (t:SetTable) (m:Nat) (kss:List (List Int)):Prop where
 ho:h.get? a=some o
 ex:o.ExactSet
 hd:o.data = .set es ep t
 pl:t.plain=true
 ld:t.led=!ju w
 mok:jI m es.size
 si:SetI t es m es.size
 en:PySem.Paired (Zz prog w h) es.toList kss
 nd:kss.Nodup
 own:∀ e∈es.toList,Pv e.2
section
variable {prog:Program}{w:World}{Pv:Value->Prop}{A:Around}{E:Value->Shared->Prop}{s:Shared}{a:Addr}{o:Obj}{es:Array (Int×Value)}{ep:Nat}{t:SetTable}{m:Nat}{kss:List (List Int)}
theorem SetD.fits (D:SetD prog w Pv s.heap a o es ep t m kss):t.fits es.size=true:=by
 have:=D.mok.le
 unfold SetTable.fits SetTable.fill
 rw [D.si.tab.dm,D.si.tab.size,D.si.tab.mask]
 simp
 omega
theorem SetD.len (D:SetD prog w Pv s.heap a o es ep t m kss):kss.length=es.size:=by
 have:=PySem.Paired.length D.en
 rw [Array.length_toList] at this
 exact this.symm
theorem SetD.ent (D:SetD prog w Pv s.heap a o es ep t m kss) {i:Nat}{e:Int×Value}(h:es[i]?=some e):∃ ks,kss[i]?=some ks/\Zz prog w s.heap e ks:=L2.Paired.get D.en (by rw [qp];exact h)
theorem SetD.ent' (D:SetD prog w Pv s.heap a o es ep t m kss) {i:Nat}{ks:List Int}(h:kss[i]?=some ks):∃ e,es[i]?=some e/\Zz prog w s.heap e ks:=by
 obtain ⟨e,h1,h2⟩:=L2.Paired.get' D.en h
 exact ⟨e,by rw [qp] at h1;exact h1,h2⟩
theorem SetD.place (D:SetD prog w Pv s.heap a o es ep t m kss) {i j:Nat}(h:t.place[i]?=some j):∃ e,es[i]?=some e:=by
 have hi:i<t.place.size:=by
  rcases Nat.lt_or_ge i t.place.size with z | z
  ·exact z
  ·rw [yg z] at h;cases h
 rw [D.si.tab.size] at hi
 exact ⟨es[i],by simp [hi]⟩
theorem ZJ (D:SetD prog w Pv s.heap a o es ep t m kss) {b:Addr}{ks:List Int}(tb:je s.heap (.ref b) ks) (hu:A.units<cLine) {adding:Bool}{Q:SetFound->Shared->Prop}
  (hin:∀ i:Nat,kss[i]?=some ks->Q (.there (if adding=true then none else some i)) s)
  (hout:ks∉kss->∀ j,¬ Fl t j->j<=m->Rch (Fl t) m (yk prog w ks) j->Q (.free j false) s) {K:Nat}(hK:¬ Fl t (stp m (yk prog w ks) K).j) (hK2:K<=10 * (m+12)) :
  ∀ (fu k:Nat) (stand:Option Probe),stand.getD (t.probeStart (yk prog w ks))=stp m (yk prog w ks) k->k<=K->K - k<fu →
   (∀ l,l<k->∃ i:Nat,t.place[i]?=some (stp m (yk prog w ks) l).j/\kss[i]?≠some ks)->wpAny (model prog w) A (setSearchFrom a (.ref b) (yk prog w ks) adding fu stand) Q E s
 | 0,k,stand,_,_,z,_=>absurd z (by omega)
 | fu+1,k,stand,hst,hk,hf,hl=>by
  have T:=D.si.tab
  unfold setSearchFrom
  refine qa (yQ D.ho D.hd D.fits ?_)
  dsimp only
  have gw:t.gaveWay=false:=by unfold SetTable.gaveWay;rw [T.mask];exact D.mok.odd
  rw [gw]
  simp only [Bool.false_eq_true,if_false]
  rw [hst]
  obtain ⟨x,x1,x2,x3,x4⟩:=T.probe_go (hashAt:=fun i=>(es[i]?.map (·.1)).getD 0) hK (10 * turns t.mask) k hk (by rw [T.mask];unfold turns;omega)
  -- up to x none is it
  have before:∀ l,l<x->∃ i:Nat,t.place[i]?=some (stp m (yk prog w ks) l).j/\kss[i]?≠some ks:=fun l hlx=>by
   by_cases c:l<k
   ·exact hl l c
   ·obtain ⟨i,e1,e2⟩:=x3 l (by omega) hlx
    refine ⟨i,e1,fun z=>e2 ?_⟩
    obtain ⟨e,h1,_,h3⟩:=D.ent' z
    simp only [h1,Option.map_some,Option.getD_some,h3]
  rcases x4 with ⟨n1,n2⟩ | ⟨i,e1,e2,e3⟩
  ·have pe:t.probe (fun i=>(es[i]?.map (·.1)).getD 0) (yk prog w ks) (stp m (yk prog w ks) k)=some (.empty (stp m (yk prog w ks) x).j none):=n2
   have no:ks∉kss:=fun hm=>by
    obtain ⟨i,ei⟩:=qS hm
    obtain ⟨e,h1,_,h3⟩:=D.ent' ei
    have hi:i<t.place.size:=by
     rw [T.size]
     rcases Nat.lt_or_ge i es.size with z | z
     ·exact z
     ·rw [yg z] at h1;cases h1
    obtain ⟨k',ek,ak⟩:=D.si.rch (t.place[i]) e ⟨i,by simp [hi],h1⟩
    rw [h3] at ek ak
    rcases Nat.lt_trichotomy k' x with z | z | z
    ·obtain ⟨i',p1,p2⟩:=before k' z
     rw [ek] at p1
     have:i'=i:=qet T.rise p1 (by simp [hi])
     subst this
     exact p2 ei
    ·subst z
     exact n1 ⟨i,by rw [ek];simp [hi]⟩
    ·exact n1 (ak x z)
   have fin:=hout no _ n1 (qfs _ _ _) ⟨x,rfl,fun l hlx=>let ⟨i,p,_⟩:=before l hlx;⟨i,p⟩⟩
   generalize hp:t.probe _ (yk prog w ks) (stp m (yk prog w ks) k)=r
   have er:=hp.symm.trans pe
   subst er
   exact qd fin
  ·have pe:t.probe (fun i=>(es[i]?.map (·.1)).getD 0) (yk prog w ks) (stp m (yk prog w ks) k)=some (.candidate (stp m (yk prog w ks) x).j i (stp m (yk prog w ks) (x+1))):=e3
   generalize hp:t.probe _ (yk prog w ks) (stp m (yk prog w ks) k)=r
   have er:=hp.symm.trans pe
   subst er
   dsimp only
   obtain ⟨⟨h',y⟩,ee⟩:=D.place e1
   obtain ⟨ks',ek,ty,hh⟩:=D.ent ee
   obtain ⟨c,oc,xs,nn,ey,hoc⟩:=id ty
   have ey:y = .ref c:=ey
   subst ey
   have ty:je s.heap (.ref c) ks':=ty
   have hstored:∀ y∈List.map (fun x=>x.snd) (Array.filter (fun x=>x.fst == yk prog w ks) es).toList,∃ c ks',y = .ref c/\je s.heap (.ref c) ks':=fun y hy=>by
    obtain ⟨e,he,rfl⟩:=qK.mp hy
    have he':e∈es.toList:=by
     rw [Array.toList_filter] at he
     exact (List.mem_filter.mp he).1
    obtain ⟨q,eq⟩:=qS he'
    rw [qp] at eq
    obtain ⟨ks2,_,t2,_⟩:=D.ent eq
    obtain ⟨c2,_,_,_,e2,_⟩:=id t2
    exact ⟨c2,ks2,e2,by rw [<- e2];exact t2⟩
   have sm:t.sameMemory t.moves t.mask=some true:=by unfold SetTable.sameMemory;rw [if_pos (beq_self_eq_true _)]
   -- once it stands that nobody sees it
   have core:wpAny (model prog w) A (do
     let equal <- holding [Value.ref c] (eqBool (Value.ref c) (Value.ref b))
     let __x <- setState a
     if (adding && equal)=true then pure (SetFound.there none)
      else
       match __x.2.snd.sameMemory t.moves t.mask with
       | some sme =>
        match if sme=true then __x.2.snd.slot (stp m (yk prog w ks) x).j else Slot.empty with
        | Slot.live i' =>
         match __x.fst[i']? with
         | some (fst,y')=>do
          let __do_lift <- isSame y' (Value.ref c)
          let still <- pure (if __do_lift=true then some i' else none)
          match still with
           | none=>do
            rule "set.search.anew"
            setSearchFrom a (Value.ref b) (yk prog w ks) adding fu none
           | some i' =>
            if equal=true then pure (SetFound.there (some i'))
            else setSearchFrom a (Value.ref b) (yk prog w ks) adding fu (some (stp m (yk prog w ks) (x+1)))
         | none=>do
          let still <- pure none
          match still with
           | none=>do
            rule "set.search.anew"
            setSearchFrom a (Value.ref b) (yk prog w ks) adding fu none
           | some i' =>
            if equal=true then pure (SetFound.there (some i'))
            else setSearchFrom a (Value.ref b) (yk prog w ks) adding fu (some (stp m (yk prog w ks) (x+1)))
        | x_1=>do
         let still <- pure none
         match still with
          | none=>do
           rule "set.search.anew"
           setSearchFrom a (Value.ref b) (yk prog w ks) adding fu none
          | some i' =>
           if equal=true then pure (SetFound.there (some i'))
           else setSearchFrom a (Value.ref b) (yk prog w ks) adding fu (some (stp m (yk prog w ks) (x+1)))
       | x_1=>unsupported "set.changed-during-lookup:is-the-new-block-at-the-old-address") Q E s:=by
    refine qa (yK (wpAny_eqBool_tuple hu (ty.key (prog:=prog) (w:=w)) (tb.key (prog:=prog) (w:=w)) ?_))
    refine qa (yQ D.ho D.hd D.fits ?_)
    dsimp only
    have go:∀ eq:Bool,(eq=true->kss[i]?=some ks)->(eq=false->kss[i]?≠some ks)->wpAny (model prog w) A (do
      let __do_lift <- isSame (Value.ref c) (Value.ref c)
      let still <- pure (if __do_lift=true then some i else none)
      match still with
       | none=>do
        rule "set.search.anew"
        setSearchFrom a (Value.ref b) (yk prog w ks) adding fu none
       | some i' =>
        if eq=true then pure (SetFound.there (some i'))
        else setSearchFrom a (Value.ref b) (yk prog w ks) adding fu (some (stp m (yk prog w ks) (x+1)))) (fun r s'=>adding=true/\eq=true\/Q r s') E s:=fun eq q1 q2=>by
     refine qa ?_
     unfold isSame
     dsimp only
     rw [if_pos (beq_self_eq_true _)]
     refine qd (qa (qd ?_))
     simp only [if_true]
     cases eq with
     | true =>
      simp only [if_true]
      refine qd ?_
      cases adding with
      | true=>exact .inl (by simp)
      | false=>exact .inr (by simpa using hin i (q1 rfl))
     | false =>
      simp only [Bool.false_eq_true,if_false]
      refine qN (ZJ D tb hu hin hout hK hK2 fu (x+1) _ rfl ?_ ?_ fun l hlx=>?_) (fun r s' q=>.inr q) fun _ _ z=>z
      ·have:x≠K:=fun z=>hK (z ▸ ⟨i,e1⟩)
       omega
      ·have:x≠K:=fun z=>hK (z ▸ ⟨i,e1⟩)
       omega
      ·by_cases z:l=x
       ·subst z;exact ⟨i,e1,q2 rfl⟩
       ·exact before l (by omega)
    by_cases kk:ks'=ks
    ·rw [qB kk]
     cases ha:adding with
     | true =>
      simp only [Bool.and_self,if_true]
      refine qd ?_
      have:=hin i (by rw [ek,kk])
      rw [ha] at this
      simpa using this
     | false =>
      simp only [Bool.and_true,Bool.false_eq_true,if_false,sm,if_true,T.live e1,ee]
      refine qN (by have:=go true (fun _=>by rw [ek,kk]) (fun z=>by cases z);rw [ha] at this;simpa using this) (fun r s' q=>?_) fun _ _ z=>z
      exact q
    ·rw [yA kk]
     simp only [Bool.and_false,Bool.false_eq_true,if_false,sm,if_true,T.live e1,ee]
     refine qN (by have:=go false (fun z=>by cases z) (fun _ z=>kk (by rw [ek] at z;exact Option.some.inj z));simpa using this) (fun r s' q=>?_) fun _ _ z=>z
     exact q
   cases hled:t.led with
   | true =>
    simp only [Bool.not_true,Bool.false_eq_true,if_false,ee]
    exact core
   | false =>
    simp only [Bool.not_false,if_true]
    refine qa (qgo tb hstored ?_)
    simp only [Bool.false_eq_true,if_false,ee]
    exact core
end
end L2
namespace L2
open PySem PySem.Spec PyProof.Rows PySem.W PySem.SetTable
def qaU (prog:Program) (w:World) (Pv:Value->Prop) (h:Heap) (a:Addr) (kss:List (List Int)):Prop:=∃ o es ep t m,SetD prog w Pv h a o es ep t m kss
theorem Zz.kept {prog:Program}{w:World}{h h':Heap}{e:Int×Value}{ks:List Int}(k:∀ b o,h.get? b=some o->o.cls = .type "tuple" -> h'.get? b=some o) (t:Zz prog w h e ks):Zz prog w h' e ks:=⟨t.1.kept k,t.2⟩
theorem qaU.kept {prog:Program}{w:World}{Pv:Value->Prop}{h h':Heap}{a:Addr}{kss:List (List Int)}(k:jJ h h') (S:qaU prog w Pv h a kss):qaU prog w Pv h' a kss:=by
 obtain ⟨o,es,ep,t,m,D⟩:=S
 exact ⟨o,es,ep,t,m,k _ _ D.ho,D.ex,D.hd,D.pl,D.ld,D.mok,D.si,Paired.mapP D.en fun e ks t=>t.kept fun b o e _=>k b o e,D.nd,D.own⟩
theorem qdF {prog:Program}{w:World}{h h':Heap}{a:Addr}{o:Obj}(ho:h.get? a=some o) (hc:o.cls = .type "set") (sb:Heap.SameBut a h h') {e:Int×Value}{ks:List Int}(t:Zz prog w h e ks):Zz prog w h' e ks :=
 t.kept fun b o' e hcl=>by
  have ne:b≠a:=by
   rintro rfl
   rw [ho] at e
   cases e
   rw [hc] at hcl
   exact absurd hcl (by decide)
  rw [sb.2 b ne];exact e
section
variable {prog:Program}{w:World}{A:Around}{E:Value->Shared->Prop}{s:Shared}{a:Addr}{o:Obj}{es:Array (Int×Value)}{ep:Nat}{t:SetTable}{m:Nat}{kss:List (List Int)}
theorem qev (a:Addr) (wanted:Nat):setRelay a wanted=(do
  let (es,_,t) <- setState a
  if SetTable.sizeAbove wanted > sizeLine then unsupported "set:memory"
  let (es,t) <- (do
   let some (t,order):=t.relaid (es.map (·.1)) wanted | unsupported "internal:set-table-without-room"
   let es':=order.filterMap (es[·]?)
   if es'.size != es.size then unsupported "internal:set-table-lost-an-element"
   pure (es',t))
  storeSet a es t):=rfl
theorem SetI.put {j:Nat}{x:Int×Value}(I:SetI t es m es.size) (hj:¬ Fl t j) (hm:j<=m) (hr:Rch (Fl t) m x.1 j):SetI (t.put j).1 (insertAt es (t.put j).2 x) m (es.size+1):=by
 obtain ⟨T',e2,e3⟩:=I.tab.put hj hm
 have hb:=(jR I.tab.rise j).2.2
 have hb2:below t.place j<=es.size:=by rw [<- I.tab.size];exact hb
 have up:∀ q,Fl t q->Fl (t.put j).1 q:=fun q ⟨i,e⟩=>by
  unfold Fl
  rw [e3]
  by_cases c:i<below t.place j
  ·exact ⟨i,by rw [yO hb,if_pos c];exact e⟩
  ·exact ⟨i+1,by rw [yO hb,if_neg (by omega),if_neg (by omega)];exact e⟩
 refine ⟨T',by rw [e2,Yc hb2],fun j' e' hA=>?_⟩
 rw [e3,e2] at hA
 rcases (qjb hb hb2).mp hA with h | ⟨rfl,rfl⟩
 ·exact (I.rch j' e' h).mono up
 ·exact hr.mono up
theorem YK {α β:Type}{R:α->β->Prop}:∀ {xs:List α}{ys:List β}(p:Nat) {x:α}{y:β},PySem.Paired R xs ys->R x y->PySem.Paired R (xs.take p++x::xs.drop p) (ys.take p++y::ys.drop p)
 | _,_,0,x,y,h,r=>.cons r h
 | _,_,p+1,x,y,.nil,r=>by simpa using PySem.Paired.cons r .nil
 | _,_,p+1,x,y,.cons h t,r=>.cons h (YK p t r)
theorem qbi {α:Type}{xs:Array α}{p:Nat}{x:α}(hp:p<=xs.size):(insertAt xs p x).toList=xs.toList.take p++x::xs.toList.drop p:=by
 unfold insertAt
 simp [List.take_of_length_le]
theorem qda {α:Type}{xs:List α}{p:Nat}{x y:α}:y∈xs.take p++x::xs.drop p ↔ y=x\/y∈xs:=by
 have:y∈xs ↔ y∈xs.take p\/y∈xs.drop p:=by rw [<- List.mem_append,qw]
 simp only [List.mem_append,List.mem_cons,this]
 constructor
 ·rintro (h | h | h)
  ·exact .inr (.inl h)
  ·exact .inl h
  ·exact .inr (.inr h)
 ·rintro (h | h | h)
  ·exact .inr (.inl h)
  ·exact .inl h
  ·exact .inr (.inr h)
theorem qc6 {α:Type}{xs:List α}{p:Nat}{x:α}(h:xs.Nodup) (hx:x∉xs):(xs.take p++x::xs.drop p).Nodup:=by
 have e:(xs.take p++x::xs.drop p).Perm (x::xs):=by
  have:=List.perm_middle (a:=x) (l₁:=xs.take p) (l₂:=xs.drop p)
  rwa [qw] at this
 exact e.nodup_iff.mpr (List.nodup_cons.mpr ⟨hx,h⟩)
end
end L2
namespace L2
open PySem PySem.Spec PyProof.Rows PySem.W PySem.SetTable
theorem Jv {α β:Type}{R:α->β->Prop}:∀ {l:List α},(∀ e∈l,∃ k,R e k)->∃ ks,PySem.Paired R l ks
 | [],_=>⟨[],.nil⟩
 | e::l,h=>by
  obtain ⟨k,hk⟩:=h e qg
  obtain ⟨ks,hks⟩:=Jv (fun x hx=>h x (qe _ hx))
  exact ⟨k::ks,.cons hk hks⟩
section
variable {prog:Program}{w:World}{Pv:Value->Prop}{A:Around}{E:Value->Shared->Prop}{s:Shared}{a:Addr}{o:Obj}{es:Array (Int×Value)}{ep:Nat}{t:SetTable}{m:Nat}{kss:List (List Int)}
theorem Zz.inj {h:Heap}{e:Int×Value}{k k':List Int}(h1:Zz prog w h e k) (h2:Zz prog w h e k'):k=k':=by
 obtain ⟨b,_,_,_,e1,_⟩:=id h1.1
 have t1:je h (.ref b) k:=e1 ▸ h1.1
 have t2:je h (.ref b) k':=e1 ▸ h2.1
 exact (t1.key (prog:=prog) (w:=w)).inj (t2.key (prog:=prog) (w:=w))
theorem ZX (ho:s.heap.get? a=some o) (hd:o.data = .set es ep t) (es':Array (Int×Value)) (t':SetTable):(s.heap.update a (Obj.putSet es' t')).get? a=some { o with data:=.set es' (ep+1) t' }:=by
 have:=ja (Obj.putSet es' t') ho (by rw [putSet_of es' t' hd];rfl)
 rw [putSet_of es' t' hd] at this
 exact this
theorem qeu {m' n:Nat}{wanted:Nat}{Q:Unit->Shared->Prop}(ho:s.heap.get? a=some o) (ex:o.ExactSet) (hd:o.data = .set es ep t) (pl:t.plain=true) (le:t.led=!ju w) (hf:t.fits es.size=true) (en:PySem.Paired (Zz prog w s.heap) es.toList kss) (nd:kss.Nodup) (ow:∀ e∈es.toList,Pv e.2)
  (hw:sizeAbove wanted=m'+1) (mo:jI m' es.size) (h:∀ h' kss',Heap.SameBut a s.heap h'->qaU prog w Pv h' a kss'->(∀ k,k∈kss' ↔ k∈kss)->Q () { s with heap:=h' }):wpAny (model prog w) A (setRelay a wanted) Q E s:=by
 rw [qev]
 refine qa (yQ ho hd hf ?_)
 dsimp only
 have hle:=mo.le
 have m127:m'<=8191:=by unfold jI at mo;omega
 rw [if_neg (by rw [hw,sizeLine_eq];omega)]
 obtain ⟨t',order,e1,e2,e3,e4,e5,e6,e7⟩:=qgZ (m:=m') (n:=es.size) (fi:=t.finger) (mv:=t.movedTo (sizeAbove wanted - 1)) (ld:=t.led) (pl:=t.plain) mo.full (es:=es) rfl (by omega)
 have er:t.relaid (es.map (·.1)) wanted=some (t',order):=by
  unfold SetTable.relaid
  rw [show sizeAbove wanted - 1=m' by omega] at e1 ⊢
  exact e1
 rw [er]
 dsimp only
 have e4':((order.filterMap (es[·]?)).size != es.size)=false:=by rw [e4];simp
 rw [e4']
 simp only [Bool.false_eq_true,if_false,pure_bind]
 generalize order.filterMap (es[·]?)=es2 at *
 refine wpAny_storeSet_of ho hd ?_ (by rw [e4,sizeLine_eq];omega)
 have sb:Heap.SameBut a s.heap (s.heap.update a (Obj.putSet es2 t')):=Heap.SameBut.update s.heap a _
 have old:∀ e∈es2.toList,∃ k,Zz prog w s.heap e k/\k∈kss:=fun e he=>by
  obtain ⟨i,ei⟩:=qS ((e6 e).mp he)
  obtain ⟨k,k1,k2⟩:=L2.Paired.get en ei
  exact ⟨k,k2,List.mem_of_getElem? k1⟩
 obtain ⟨kss2,en2⟩:=Jv (R:=Zz prog w s.heap) (l:=es2.toList) fun e he=>let ⟨k,k1,_⟩:=old e he;⟨k,k1⟩
 refine h _ kss2 sb ⟨_,es2,ep+1,t',m',ZX ho hd es2 t',⟨ex.1,ex.2.1,ex.2.2⟩,rfl,by rw [e3];exact pl,by rw [e2];exact le,by rw [e4];exact mo,by rw [e4];exact e5,Paired.mapP en2 fun e ks tt=>qdF ho ex.1 sb tt,?_,fun e he=>ow e ((e6 e).mp he)⟩ fun k=>⟨fun hk=>?_,fun hk=>?_⟩
 ·refine qH.mpr fun i i' hi hi' hlt z=>?_
  obtain ⟨x,x1,x2⟩:=L2.Paired.get' en2 (List.getElem?_eq_getElem hi)
  obtain ⟨x',x1',x2'⟩:=L2.Paired.get' en2 (List.getElem?_eq_getElem hi')
  rw [qp] at x1 x1'
  have:=e7 i i' x x' x1 x1' fun y y' ey ey'=>by
   obtain ⟨k,k1,k2⟩:=L2.Paired.get en (show es.toList[y]?=some x by rw [qp];exact ey)
   obtain ⟨k',k1',k2'⟩:=L2.Paired.get en (show es.toList[y']?=some x' by rw [qp];exact ey')
   have q1:=k2.inj x2
   have q2:=k2'.inj x2'
   rw [q1] at k1
   rw [q2,<- z] at k1'
   have hy:y<kss.length:=(qo.mp k1).1
   have hy':y'<kss.length:=(qo.mp k1').1
   have g1:=(qo.mp k1).2
   have g2:=(qo.mp k1').2
   exact (List.getElem_inj nd).mp (g1.trans g2.symm)
  omega
 ·obtain ⟨i,ei⟩:=qS hk
  obtain ⟨x,x1,x2⟩:=L2.Paired.get' en2 ei
  obtain ⟨k',k1,k2⟩:=old x (List.mem_of_getElem? x1)
  rw [x2.inj k1];exact k2
 ·obtain ⟨i,ei⟩:=qS hk
  obtain ⟨x,x1,x2⟩:=L2.Paired.get' en ei
  have hx:=(e6 x).mpr (List.mem_of_getElem? x1)
  obtain ⟨i2,ei2⟩:=qS hx
  obtain ⟨k2,q1,q2⟩:=L2.Paired.get en2 ei2
  rw [x2.inj q2]
  exact List.mem_of_getElem? q1
theorem qjE (S:qaU prog w Pv s.heap a kss) {b:Addr}{ks:List Int}(tb:je s.heap (.ref b) ks) (pb:Pv (.ref b)) (hu:A.units<cLine) (hn:kss.length<4914) {Q:Bool->Shared->Prop}(hin:ks∈kss->Q false s)
  (hout:ks∉kss->∀ h' kss',Heap.SameBut a s.heap h'->qaU prog w Pv h' a kss'->(∀ k,k∈kss' ↔ k=ks\/k∈kss)->Q true { s with heap:=h' }):wpAny (model prog w) A (setAddHashed a (.ref b) (yk prog w ks)) Q E s:=by
 obtain ⟨o,es,ep,t,m,D⟩:=S
 have T:=D.si.tab
 have hl:=D.len
 have hle:=D.mok.le
 obtain ⟨q,q1,q2⟩:=T.free (yl hle.1)
 obtain ⟨K,K1,K2⟩:=D.mok.full.walk (yk prog w ks) q1
 unfold setAddHashed
 refine yK ?_
 show wpAny (model prog w) A (setAddHashedIn a (.ref b) (yk prog w ks) (99999+1)) Q E s
 unfold setAddHashedIn
 refine qa (yQ D.ho D.hd D.fits ?_)
 dsimp only
 rw [if_neg (by simp [byScan,Value.scannable])]
 refine qa ?_
 have m127:m<=8191:=by have:=D.mok;unfold jI at this;omega
 refine ZJ D tb hu (adding:=true) (fun i ei=>?_) (fun no j n1 n2 n3=>?_) (K:=K) (by rw [K2];exact q2) K1 100000 0 none (by show t.probeStart _=_;rw [qem,T.mask]) (qQ _) (by omega) fun l z=>absurd z (by omega)
 ·simp only [if_true]
  exact qd (hin (List.mem_of_getElem? ei))
 ·dsimp only
  refine qa (yQ D.ho D.hd D.fits ?_)
  dsimp only
  have I1:=D.si.put (x:=(yk prog w ks,Value.ref b)) n1 n2 n3
  obtain ⟨T1,p2,p3⟩:=T.put n1 n2
  have hb:=(jR T.rise j).2.2
  have hb2:below t.place j<=es.size:=by rw [<- T.size];exact hb
  have pl1:(t.put j).1.plain=true:=D.pl
  have le1:(t.put j).1.led=!ju w:=D.ld
  rw [pl1]
  simp only [if_true]
  refine qa (qg6 tb ?_)
  simp only [if_true]
  have sz1:(insertAt es (t.put j).2 (yk prog w ks,Value.ref b)).size=es.size+1:=by rw [p2,Yc hb2]
  have en1:PySem.Paired (Zz prog w s.heap) (insertAt es (t.put j).2 (yk prog w ks,Value.ref b)).toList (kss.take (below t.place j)++ks::kss.drop (below t.place j)):=by
   rw [p2,qbi hb2]
   exact YK _ D.en ⟨tb,rfl⟩
  have ow1:∀ e∈(insertAt es (t.put j).2 (yk prog w ks,Value.ref b)).toList,Pv e.2:=fun e he=>by
   rw [p2,qbi hb2] at he
   rcases qda.mp he with rfl | he
   ·exact pb
   ·exact D.own e he
  have nd1:=qc6 (p:=below t.place j) D.nd no
  have fits1:(t.put j).1.fits (es.size+1)=true:=by
   unfold SetTable.fits SetTable.fill
   rw [T1.dm,T1.size,T1.mask]
   simp
   omega
  generalize (t.put j).1=t1 at *
  generalize insertAt es (t.put j).2 (yk prog w ks,Value.ref b)=es1 at *
  generalize hk1:kss.take (below t.place j)++ks::kss.drop (below t.place j)=kss1 at *
  have mem1:∀ k,k∈kss1 ↔ k=ks\/k∈kss:=fun k=>by rw [<- hk1];exact qda
  refine qa (wpAny_storeSet_of D.ho D.hd ?_ (by rw [sz1,sizeLine_eq];omega))
  have sb:Heap.SameBut a s.heap (s.heap.update a (Obj.putSet es1 t1)):=Heap.SameBut.update s.heap a _
  have g1:=ZX D.ho D.hd es1 t1
  have en2:PySem.Paired (Zz prog w (s.heap.update a (Obj.putSet es1 t1))) es1.toList kss1:=Paired.mapP en1 fun e k tt=>qdF D.ho D.ex.1 sb tt
  generalize s.heap.update a (Obj.putSet es1 t1)=h1 at *
  have tf:t1.tooFull=decide ((es.size+1) * 5 ≥ m * 3):=by
   unfold SetTable.tooFull SetTable.fill
   rw [T1.dm,T1.size,T1.mask]
   rfl
  rw [tf]
  simp only [Bool.not_false,Bool.true_and,decide_eq_true_eq]
  by_cases c:(es.size+1) * 5 ≥ m * 3
  ·rw [if_pos c]
   have big:∃ m',sizeAbove (grown (es.size+1))=m'+1/\jI m' (es.size+1):=by
    rcases D.mok with ⟨rfl,hlt⟩ | ⟨rfl,hlt⟩ | ⟨rfl,hlt⟩ | ⟨rfl,hlt⟩ | ⟨rfl,hlt⟩ | ⟨rfl,hlt⟩
    ·have:es.size=4:=by omega
     rw [this]
     exact ⟨31,by decide,.inr (.inl ⟨rfl,by omega⟩)⟩
    ·have:es.size=18:=by omega
     rw [this]
     exact ⟨127,by decide,.inr (.inr (.inl ⟨rfl,by omega⟩))⟩
    ·have:es.size=76:=by omega
     rw [this]
     exact ⟨511,by decide +kernel,.inr (.inr (.inr (.inl ⟨rfl,by omega⟩)))⟩
    ·have:es.size=306:=by omega
     rw [this]
     exact ⟨2047,by decide +kernel,.inr (.inr (.inr (.inr (.inl ⟨rfl,by omega⟩))))⟩
    ·have:es.size=1228:=by omega
     rw [this]
     exact ⟨8191,by decide +kernel,.inr (.inr (.inr (.inr (.inr ⟨rfl,by omega⟩))))⟩
    ·omega
   obtain ⟨m',w1,w2⟩:=big
   refine qa (qeu (s:={ s with heap:=h1 }) (n:=0) g1 ⟨D.ex.1,D.ex.2.1,D.ex.2.2⟩ rfl pl1 le1 (by rw [sz1];exact fits1) en2 nd1 ow1 w1 (by rw [sz1];exact w2) fun h' kss' sb' S' mem'=>?_)
   exact qd (hout no h' kss' ⟨sb'.1.trans sb.1,fun b' ne=>(sb'.2 b' ne).trans (sb.2 b' ne)⟩ S' fun k=>(mem' k).trans (mem1 k))
  ·rw [if_neg c]
   refine qd (hout no h1 kss1 sb ⟨_,es1,ep+1,t1,m,g1,⟨D.ex.1,D.ex.2.1,D.ex.2.2⟩,rfl,pl1,le1,?_,by rw [sz1];exact I1,en2,nd1,ow1⟩ mem1)
   rw [sz1]
   rcases D.mok with ⟨rfl,hlt⟩ | ⟨rfl,hlt⟩ | ⟨rfl,hlt⟩ | ⟨rfl,hlt⟩ | ⟨rfl,hlt⟩ | ⟨rfl,hlt⟩
   ·exact .inl ⟨rfl,by omega⟩
   ·exact .inr (.inl ⟨rfl,by omega⟩)
   ·exact .inr (.inr (.inl ⟨rfl,by omega⟩))
   ·exact .inr (.inr (.inr (.inl ⟨rfl,by omega⟩)))
   ·exact .inr (.inr (.inr (.inr (.inl ⟨rfl,by omega⟩))))
   ·exact .inr (.inr (.inr (.inr (.inr ⟨rfl,by omega⟩))))
end
end L2
namespace L2
open PySem PySem.Spec PyProof.Rows PySem.W PySem.SetTable
theorem JI {α β:Type}{R R':α->β->Prop}:∀ {xs:List α}{ys:List β},PySem.Paired R xs ys->(∀ x∈xs,∀ y,R x y->R' x y)->PySem.Paired R' xs ys
 | _,_,.nil,_=>.nil
 | _,_,.cons r t,h=>.cons (h _ qg _ r) (JI t fun x hx=>h x (qe _ hx))
def In0 (h0:Heap) (Pv:Value->Prop):Prop:=∀ v,Pv v->∃ b o,v = .ref b/\h0.get? b=some o
theorem je.move {h0 h h':Heap}{b:Addr}{o:Obj}{ks:List Int}(e:h0.get? b=some o) (k0:jJ h0 h) (k1:jJ h0 h') (t:je h (.ref b) ks):je h' (.ref b) ks:=by
 obtain ⟨b',o',xs,n,eb,ho,r⟩:=t
 cases eb
 have:=k0 _ _ e
 rw [this] at ho
 cases ho
 exact ⟨b,o,xs,n,rfl,k1 _ _ e,r⟩
theorem qaU.move {prog:Program}{w:World}{Pv:Value->Prop}{h0 h h':Heap}{a:Addr}{kss:List (List Int)}(S:qaU prog w Pv h a kss) (hPv:In0 h0 Pv) (k0:jJ h0 h) (k1:jJ h0 h') (hs:∀ o,h.get? a=some o->h'.get? a=some o):qaU prog w Pv h' a kss:=by
 obtain ⟨o,es,ep,t,m,D⟩:=S
 refine ⟨o,es,ep,t,m,hs _ D.ho,D.ex,D.hd,D.pl,D.ld,D.mok,D.si,JI D.en fun e he ks ek=>?_,D.nd,D.own⟩
 obtain ⟨hh,v⟩:=e
 obtain ⟨b,o0,rfl,e0⟩:=hPv v (D.own _ he)
 exact ⟨je.move e0 k0 k1 ek.1,ek.2⟩
section
variable {prog:Program}{w:World}{Pv:Value->Prop}{A:Around}{R:Result->Shared->Prop}{I:Addr}{fp wr:List Addr}{n:Nat}{P:Nat->Value->Prop}{St:Nat->Shared->Prop}
theorem qeq {h0:Heap}{key:Nat->List Int}(W:WalksS prog w A.in1 I fp wr (fun a b=>b=a) n P St) {S:Addr}(hSf:S∉fp) (hS0:h0.get? S=none) (hwr:∀ b∈wr,h0.get? b=none) (hPv:In0 h0 Pv)
  (hval:∀ i v,P i v->je h0 v (key i)/\Pv v) (hn:∀ ms:List (List Int),ms.Nodup->(∀ q∈ms,∃ j,j<n/\key j=q)->ms.length<4914) (hu:A.units+8<cLine) :
  ∀ (k i:Nat) (s:Shared) (kss:List (List Int)),n - i=k->i<=n->St i s->jJ h0 s.heap->qaU prog w Pv s.heap S kss->(∀ q,q∈kss ↔ ∃ j,j<i/\key j=q)->kss.length<=i →
   (∀ s' kss',Moved (S::wr) (fun a b=>b=a) s s'->jJ h0 s'.heap->qaU prog w Pv s'.heap S kss'->(∀ q,q∈kss' ↔ ∃ j,j<n/\key j=q)->kss'.length<=n->R (.ok (.ret .none)) s') →
   codeAny (model prog w) A (.builtin "set.update.loop" ⟨[.ref S,.ref I],[]⟩) R s:=by
 have hSw:S∉wr:=fun h=>hSf (W.sub _ h)
 have hsub:∀ b∈wr,b∈S::wr:=fun b hb=>qe _ hb
 have kp:∀ {s s':Shared},jJ h0 s.heap->Moved wr (fun a b=>b=a) s s'->jJ h0 s'.heap:=fun k0 hm b o e=>hm.heap b o (fun z=>by rw [hwr b z] at e;cases e) (k0 b o e)
 intro k
 induction k with
 | zero =>
  intro i s kss hk hi hst k0 hS hmem hlen hR
  have hin:i=n:=by omega
  subst hin
  refine codeAny_builtin F.entry_set_update_loop ?_
  rw [Around.under_plainId F.plain_set_update_loop _]
  refine qa (m:=pyNext (.ref I)) (W.done s _ _ hst fun s' hm=>?_)
  refine qd (hR s' kss (hm.mono hsub) (kp k0 hm) ?_ hmem hlen)
  exact hS.move hPv k0 (kp k0 hm) fun o e=>hm.heap S o hSw e
 | succ k ih =>
  intro i s kss hk hi hst k0 hS hmem hlen hR
  have hlt:i<n:=by omega
  refine codeAny_builtin F.entry_set_update_loop ?_
  rw [Around.under_plainId F.plain_set_update_loop _]
  refine qa (m:=pyNext (.ref I)) (W.item i s _ _ hlt hst fun v s' hP hst' hm=>?_)
  have k1:=kp k0 hm
  have hS':=hS.move hPv k0 k1 fun o e=>hm.heap S o hSw e
  obtain ⟨tv,pv⟩:=hval i v hP
  obtain ⟨b,o0,rfl,e0⟩:=hPv v pv
  have tb:je s'.heap (.ref b) (key i):=je.move e0 (fun _ _ z=>z) k1 tv
  refine qa (m:=holding [Value.ref b] (setAdd S (.ref b))) (yK ?_)
  unfold setAdd
  refine yK ?_
  have hu1:A.in1.units<cLine:=by show A.units+_<_;omega
  refine qa (wpAny_pyHash_tuple hu1 (tb.key (prog:=prog) (w:=w)) ?_)
  refine qjE (s:={ s' with toks:=s'.toks+((key i).length+1) }) hS' tb pv hu1 (hn kss (let ⟨_,_,_,_,_,D⟩:=hS;D.nd) fun q hq=>let ⟨j,hj,e⟩:=(hmem q).mp hq;⟨j,y9 hj hlt,e⟩) (fun hin=>?_) fun hout h' kss' sb S2 mem2=>?_
  ·refine qd ⟨plainId_quiet F.plain_set_update_loop _,ih (i+1) _ kss (by omega) hlt (W.frame _ s' s'.heap _ hst' (by omega) fun b hb o e=>e) k1 hS' (fun q=>?_) (by omega) fun s'' kss'' hm'' k2 S'' mem'' len''=>?_⟩
   ·rw [hmem q]
    constructor
    ·rintro ⟨j,hj,e⟩;exact ⟨j,by omega,e⟩
    ·rintro ⟨j,hj,e⟩
     by_cases c:j<i
     ·exact ⟨j,c,e⟩
     ·have:j=i:=by omega
      subst this
      rw [e] at hin
      exact (hmem q).mp hin
   ·exact hR s'' kss'' (Moved.trans W.gtrans ((hm.mono hsub).then_heap (h':=s'.heap) (tk:=s'.toks+((key i).length+1)) (by omega) fun b o hb e=>e) hm'') k2 S'' mem'' len''
  ·have k1':jJ h0 h':=fun b o e=>by
    rw [sb.2 b (fun z=>by rw [z,hS0] at e;cases e)]
    exact k1 b o e
   have hl':kss'.length<=i+1:=by
    obtain ⟨_,_,_,_,_,D1⟩:=hS'
    obtain ⟨_,_,_,_,_,D2⟩:=S2
    have:kss'.length<=(key i::kss).length:=List.Nodup.length_le_of_subset D2.nd fun q hq=>by
     rcases (mem2 q).mp hq with rfl | z
     ·exact qg
     ·exact qe _ z
    simp only [List.length_cons] at this
    omega
   refine qd ⟨plainId_quiet F.plain_set_update_loop _,ih (i+1) _ kss' (by omega) hlt (W.frame _ s' h' (s'.toks+((key i).length+1)) hst' (by omega) fun b hb o e=>?_) k1' S2 (fun q=>?_) hl' fun s'' kss'' hm'' k2 S'' mem'' len''=>?_⟩
   ·rw [sb.2 b (fun h:b=S=>hSf (by rw [<- h];exact hb))];exact e
   ·rw [mem2 q,hmem q]
    constructor
    ·rintro (rfl | ⟨j,hj,e⟩)
     ·exact ⟨i,by omega,rfl⟩
     ·exact ⟨j,by omega,e⟩
    ·rintro ⟨j,hj,e⟩
     by_cases c:j<i
     ·exact .inr ⟨j,c,e⟩
     ·have:j=i:=by omega
      subst this
      exact .inl e.symm
   ·refine hR s'' kss'' (Moved.trans W.gtrans ((hm.mono hsub).then_heap (h':=h') (tk:=s'.toks+((key i).length+1)) (by omega) fun b o hb e=>?_) hm'') k2 S'' mem'' len''
    rw [sb.2 b (fun h:b=S=>hb (by rw [h];exact qg))];exact e
end
end L2
namespace L2
open PySem PySem.Spec PyProof.Rows PySem.W PySem.SetTable
abbrev YA (w:World):Obj:={ cls:=.type "set",dict:=none,data:=.set #[] 0 (.fresh 0 0 (!ju w)) }
theorem qcH:qf6 #[]:=fun i j a b=>absurd b (by simp)
theorem qeM {prog:Program}{w:World}{Pv:Value->Prop}{h:Heap}{a:Addr}(e:h.get? a=some (YA w)):qaU prog w Pv h a [] :=
 ⟨_,#[],0,_,7,e,⟨rfl,rfl,rfl⟩,rfl,rfl,rfl,.inl ⟨rfl,by decide⟩,⟨⟨rfl,rfl,rfl,qcH,fun i j z=>by simp [SetTable.fresh] at z⟩,rfl,fun j e ⟨i,z,_⟩=>by simp [SetTable.fresh] at z⟩,.nil,List.nodup_nil,fun e z=>by simp at z⟩
section
variable {prog:Program}{w:World}{A:Around}{E:Value->Shared->Prop}{s:Shared}
theorem qep (x:Value) {Q₁:Value->Shared->Prop}(q:Q₁ (.ref s.heap.objs.size) { s with heap:=s.heap.push (YA w) }) :
  codeAny (model prog w) A (.call (.builtin "set.__new__") ⟨[.type "set",x],[]⟩) (wants Q₁ E) s:=by
 refine codeAny_of_tree ?_
 refine qa (m:=checkBuiltinCall "set.__new__" ⟨[.type "set",x],[]⟩) (wpAny_of_eq (F.newCall_set_1 x) (qd ⟨plainId_quiet F.plain_set_new _,codeAny_builtin F.entry_set_new ?_⟩))
 rw [Around.under_plainId F.plain_set_new _]
 unfold Builtin.«set.__new__» Builtin.Frozenset.newClass
 have hsub:=sub_set_self
 obtain ⟨hp,g,d,tk,os⟩:=s
 dsimp only
 wp_walk
 refine wpAny_askSetting (qd ?_)
 dsimp only
 simp only [newObj]
 refine qa (wpAny_alloc (qd (qd q)))
theorem qbR {l:Addr}{vs:List Value}{kss:List (List Int)}{Q:Value->Shared->Prop}(hh:A.handled=none) (hl:s.heap.IsList l vs.toArray) (hT:PySem.Paired (je s.heap) vs kss) (hn:∀ ms:List (List Int),ms.Nodup->(∀ q∈ms,q∈kss)->ms.length<4914) (hu:A.units+64<cLine)
  (h:∀ h' tk ms,qaU prog w (·∈vs) h' s.heap.objs.size ms->(∀ q,q∈ms ↔ q∈kss)->jJ s.heap h'->Q (.ref s.heap.objs.size) { s with heap:=h',toks:=tk }):wpAny (model prog w) A (call (.type "set") [.ref l]) Q E s:=by
 obtain ⟨c,tl,hmro⟩:=F.called_set.mro
 have made:=F.called_set.made
 have sub:=F.called_set.sub
 refine wpAny_call (codeAny_of_tree ?_)
 show wpAny (model prog w) _ (callAny (.type "set") _) _ _ s
 refine qd ⟨Code.quiet_builtin _ (by decide +kernel),codeAny_builtin F.entry_type_call ?_⟩
 rw [Around.under_plain (weight_type_call_type "set" [Value.ref l] []) rfl]
 have t1:=F.called_set.notType
 have t2:=F.called_set.canCreate
 have t3:=F.typeCall_set_1 (Value.ref l)
 repeat (any_goals first | assumption | wp_step)
 refine codeAny_mono (qep (prog:=prog) (.ref l) (E:=E) (Q₁:=fun v s₁=>v = .ref s.heap.objs.size/\s₁={ s with heap:=s.heap.push (YA w) }) ⟨rfl,rfl⟩) fun r s₁ hr=>?_
 cases r with
 | error e=>exact hr
 | ok fl =>
  cases fl with
  | next=>exact hr.elim
  | brk=>exact hr.elim
  | cont=>exact hr.elim
  | ret v =>
   obtain ⟨rfl,rfl⟩:=hr
   have hS:(s.heap.push (YA w)).get? s.heap.objs.size=some (YA w):=qr _ rfl
   have hTy:Shared.TypeIs { s with heap:=s.heap.push (YA w) } (.ref s.heap.objs.size) "set" := ⟨_,hS,rfl⟩
   have i1:=F.called_set.init.lookup
   have i2:=F.called_set.init.bind (.ref s.heap.objs.size)
   repeat (any_goals first | assumption | wp_step)
   refine codeAny_mono (codeAny_call_builtin (R:=wants (fun r s₂=>r = .none/\∃ h' tk ms,s₂={ s with heap:=h',toks:=tk }/\qaU prog w (·∈vs) h' s.heap.objs.size ms/\(∀ q,q∈ms ↔ q∈kss)/\jJ s.heap h') E)
    F.called_set.init.plain F.entry_set_init (check_set_init_1 hTy ?_)) fun r₂ s₂ hr₂=>?_
   ·obtain ⟨ol,hol,hcl,nl,hdl⟩:=hl
    obtain ⟨ocls,odict,odata,oslots⟩:=ol
    simp only at hcl hdl
    subst hcl;subst hdl
    have hlt:l<s.heap.objs.size:=qh hol
    have hol1:(s.heap.push (YA w)).get? l=some { cls:=.type "list",dict:=odict,data:=.seq vs.toArray nl,slots:=oslots }:=qb _ hol
    have s1:=F.sub_list_set
    have s2:=F.sub_list_frozenset
    have s3:(Value.type "list" == Value.type "dict")=false:=by decide
    have hl1:(s.heap.push (YA w)).IsList l vs.toArray:=⟨_,hol1,rfl,nl,rfl⟩
    unfold Builtin.«set.__init__» noKeywords Builtin.Frozenset.updateFrom
    generalize hPI:pyIter=PI
    wp_walk
    subst hPI
    refine wpAny_pyIter_list hl1 (qa (wpAny_runValue ?_))
    have sz1:(s.heap.push (YA w)).objs.size=s.heap.objs.size+1:=yr ..
    have kp2:jJ s.heap ((s.heap.push (YA w)).push { cls:=.type "list_iterator",data:=.fields #[.ref l,.int 0 0] }):=fun b o e=>qb _ (qb _ e)
    have no:∀ b,s.heap.objs.size<=b->s.heap.get? b=none:=fun b hb=>by
     cases z:s.heap.get? b with
     | none=>rfl
     | some o=>exact absurd (qh z) (Nat.not_lt.mpr hb)
    have hin:In0 s.heap (·∈vs):=fun v hv=>by
     obtain ⟨i,ei⟩:=qS hv
     obtain ⟨ks,_,b,o,xs,n,e,ho,_⟩:=L2.Paired.get hT ei
     exact ⟨b,o,e,ho⟩
    refine qeq (A:=A.in1.in1) (key:=fun i=>kss.getD i []) (h0:=s.heap) (Pv:=(·∈vs)) (Walks.list (by simp [hh]) _ l (by rw [sz1];exact qk (Nat.lt_succ_of_lt hlt)) vs.toArray).toS (S:=s.heap.objs.size) ?_ (no _ (qj _)) (fun b hb=>?_) hin
     (fun i v hv=>?_) (fun ms nd hm=>hn ms nd fun q hq=>by
      obtain ⟨j,hj,e⟩:=hm q hq
      have hk:j<kss.length:=by
       rw [<- L2.Paired.len hT]
       simpa using hj
      rw [qq,List.getElem?_eq_getElem hk] at e
      rw [<- e]
      exact qX hk) (by show A.units+1+1+8<_;omega) (vs.toArray.size - 0) 0 _ [] rfl (qQ _) ⟨⟨_,qr _ rfl,rfl,rfl⟩,hl1.push _⟩ kp2 (qeM (qb _ hS)) (fun q=>by simp) (qQ _) fun s' ms hm k2 S2 mem2 _=>?_
    ·rw [sz1];simp only [List.mem_cons,List.not_mem_nil,or_false,not_or];exact ⟨qk (Nat.lt_succ_self _),Nat.ne_of_gt hlt⟩
    ·rw [qz.mp hb,sz1];exact no _ (Nat.le_succ _)
    ·have hv':vs[i]?=some v:=by simpa using hv
     have hi:i<vs.length:=(qo.mp hv').1
     have:=jp hT i hi
     rw [qq,hv'] at this
     exact ⟨this,List.mem_of_getElem? hv'⟩
    ·obtain ⟨h',g',d',tk',os'⟩:=s'
     have e1:g'=s.gens:=hm.gens
     have e2:d'=s.drawn:=hm.drawn
     have e3:os'=s.os:=hm.os
     subst e1;subst e2;subst e3
     refine qd ?_
     refine qd ⟨rfl,h',tk',ms,rfl,S2,fun q=>?_,k2⟩
     rw [mem2 q,List.size_toArray,L2.Paired.len hT]
     constructor
     ·rintro ⟨j,hj,e⟩
      rw [qq,List.getElem?_eq_getElem hj] at e
      exact e ▸ qX hj
     ·intro hq
      obtain ⟨j,hj,e⟩:=List.getElem_of_mem hq
      exact ⟨j,hj,by rw [qq,List.getElem?_eq_getElem hj];exact e⟩
   ·cases r₂ with
    | error e=>exact hr₂
    | ok fl₂ =>
     cases fl₂ with
     | next=>exact hr₂.elim
     | brk=>exact hr₂.elim
     | cont=>exact hr₂.elim
     | ret r =>
      obtain ⟨rfl,h',tk,ms,rfl,q1,q2,q3⟩:=hr₂
      repeat (any_goals first | assumption | wp_step)
      exact h _ _ _ q1 q2 q3
theorem YL {α:Type} [DecidableEq α]:∀ {ms kss:List α},ms.Nodup->(∀ q∈ms,q∈kss)->ms.length<=kss.length
 | [],_,_,_=>qQ _
 | a::ms,kss,hn,h=>by
  have ha:=h a qg
  have h1:=YL (ms:=ms) (kss:=kss.erase a) (List.nodup_cons.mp hn).2 (fun q hq=>by
   have hne:q≠a:=fun z=>(List.nodup_cons.mp hn).1 (z ▸ hq)
   exact (List.mem_erase_of_ne hne).mpr (h q (qe _ hq)))
  rw [List.length_erase_of_mem ha] at h1
  have:=List.length_pos_of_mem ha
  simp only [List.length_cons]
  omega
end
end L2
namespace L2
open PySem PySem.Spec PyProof.Rows PySem.W PySem.SetTable
theorem jw:Slot "set_iterator" "__next__" "set_iterator.__next__" :=
 .of (owner := "set_iterator") (n := "__next__") (by rw [typeLookup_type,builtinLookup_eq_fast];kernel_rfl) (by decide +kernel) (by decide +kernel) (by decide +kernel) (by first | exact .inl (by decide +kernel) | exact .inr (by decide +kernel)) (by rw [isSubtype_type];kernel_rfl)
theorem JU:Slot "set_iterator" "__iter__" "set_iterator.__iter__" :=
 .of (owner := "set_iterator") (n := "__iter__") (by rw [typeLookup_type,builtinLookup_eq_fast];kernel_rfl) (by decide +kernel) (by decide +kernel) (by decide +kernel) (by first | exact .inl (by decide +kernel) | exact .inr (by decide +kernel)) (by rw [isSubtype_type];kernel_rfl)
theorem Zl:entryFor table "set_iterator.__next__" = some Builtin.«set_iterator.__next__»:=entryFor_of_fast (by kernel_rfl)
theorem Zm:entryFor table "set_iterator.__iter__" = some Builtin.«dict_keyiterator.__iter__»:=entryFor_alias (id' := "dict_keyiterator.__iter__") (by kernel_rfl) rfl (by decide +kernel) (by kernel_rfl)
theorem qai (a:Value):argsOk "set_iterator.__next__" ⟨[a],[]⟩:=by unfold argsOk;kernel_rfl
theorem qaj (a:Value):argsOk "set_iterator.__iter__" ⟨[a],[]⟩:=by unfold argsOk;kernel_rfl
theorem ZZ:entryFor table "set.__iter__" = some Builtin.«frozenset.__iter__»:=entryFor_alias (id' := "frozenset.__iter__") (by kernel_rfl) rfl (by decide +kernel) (by kernel_rfl)
theorem qbX {α:Type}{l:List α}{i:Nat}(h:i<l.length):(l[i]::l.eraseIdx i).Perm l:=by
 rw [List.eraseIdx_eq_take_drop_succ]
 have e:l=l.take i++l[i]::l.drop (i+1):=by rw [<- yy h,qw]
 exact List.perm_middle.symm.trans (List.Perm.of_eq e.symm)
theorem qcU {α:Type}(next:Nat->Nat):∀ (fu k:Nat) (left:List α) (out:Array α),left.length=fu->(pickOrder.go next fu k left out).toList.Perm (out.toList++left)
 | 0,k,left,out,h=>by
  cases List.length_eq_zero_iff.mp h
  simp [pickOrder.go]
 | fu+1,k,left,out,h=>by
  unfold pickOrder.go
  have hlt:next k % left.length<left.length:=Nat.mod_lt _ (by omega)
  simp only [List.getElem?_eq_getElem hlt]
  have ih:=qcU next fu (k+1) (left.eraseIdx (next k % left.length)) (out.push left[next k % left.length]) (by rw [List.length_eraseIdx_of_lt hlt];omega)
  refine ih.trans ?_
  rw [Array.toList_push,List.append_assoc]
  exact List.Perm.append_left _ (qbX hlt)
def Za (w:World) (S:Addr) (ep:Nat) (es:Array (Int×Value)):Array (Int×Value):=if ju w=true then pickOrder (w.params.setOrder S ep) es else es
theorem Yl (w:World) (S:Addr) (ep:Nat) (es:Array (Int×Value)):(Za w S ep es).toList.Perm es.toList:=by
 unfold Za
 split
 ·have:=qcU (w.params.setOrder S ep) es.size 0 es.toList #[] (by simp)
  have this:(pickOrder.go (w.params.setOrder S ep) es.size 0 es.toList #[]).toList.Perm es.toList:=by simpa using this
  exact this
 ·exact List.Perm.refl _
theorem j3 (w:World) (S:Addr) (ep:Nat) (es:Array (Int×Value)):(Za w S ep es).size=es.size:=by
 have:=(Yl w S ep es).length_eq
 simpa using this
theorem qav {α β:Type}{R:α->β->Prop}{xs xs':List α}(p:xs.Perm xs'):∀ {ys:List β},PySem.Paired R xs ys->∃ ys',PySem.Paired R xs' ys'/\ys.Perm ys':=by
 induction p with
 | nil=>intro ys h;exact ⟨ys,h,List.Perm.refl _⟩
 | cons x _ ih =>
  intro ys h
  cases h with
  | cons r t =>
   obtain ⟨zs,h1,h2⟩:=ih t
   exact ⟨_,.cons r h1,h2.cons _⟩
 | swap x y l =>
  intro ys h
  cases h with
  | cons r t =>
   cases t with
   | cons r' t'=>exact ⟨_,.cons r' (.cons r t'),List.Perm.swap ..⟩
 | trans _ _ ih1 ih2 =>
  intro ys h
  obtain ⟨y1,a1,b1⟩:=ih1 h
  obtain ⟨y2,a2,b2⟩:=ih2 a1
  exact ⟨y2,a2,b1.trans b2⟩
section
variable {prog:Program}{w:World}{Pv:Value->Prop}{A:Around}{E:Value->Shared->Prop}{s:Shared}{a:Addr}{o:Obj}{es:Array (Int×Value)}{ep:Nat}{t:SetTable}{m:Nat}{kss:List (List Int)}
structure SetB (w:World) (h:Heap) (a:Addr) (o:Obj) (es:Array (Int×Value)) (ep:Nat) (t:SetTable) (m:Nat):Prop where
 ho:h.get? a=some o
 ex:o.ExactSet
 hd:o.data = .set es ep t
 fits:t.fits es.size=true
 pl:t.plain=true
 ld:t.led=!ju w
 tab:Tab t m es.size
theorem SetD.toB (D:SetD prog w Pv s.heap a o es ep t m kss):SetB w s.heap a o es ep t m:=⟨D.ho,D.ex,D.hd,D.fits,D.pl,D.ld,D.si.tab⟩
theorem SetB.at {h h':Heap}(B:SetB w h a o es ep t m) (k:h.get? a=some o->h'.get? a=some o):SetB w h' a o es ep t m:=⟨k B.ho,B.ex,B.hd,B.fits,B.pl,B.ld,B.tab⟩
theorem qgc (D:SetB w s.heap a o es ep t m) {Q:Array (Int×Value)->Shared->Prop}(q:Q (Za w a ep es) s):wpAny (model prog w) A (setWalk a) Q E s:=by
 unfold setWalk setsByText
 refine qa (yQ D.ho D.hd D.fits ?_)
 dsimp only
 refine qa (qa (wpAny_askSetting (qd ?_)))
 show wpAny _ _ (if ju w=true then _ else _) _ _ _
 cases hb:ju w with
 | true =>
  rw [if_pos rfl]
  refine qa (wpAny_askSetting (qd ?_))
  unfold Za at q
  rw [if_pos hb] at q
  exact q
 | false =>
  unfold Za at q
  rw [if_neg (by rw [hb];decide)] at q
  have hled:t.led=true:=by rw [D.ld,hb];rfl
  rw [if_neg (by decide)]
  show wpAny _ _ (if (!t.plain && decide (es.size > 1))=true then _ else _) _ _ _
  rw [if_neg (by rw [D.pl];simp)]
  refine qa (show wpAny _ _ (if (!t.led && decide (es.size > 1))=true then _ else _) _ _ _ from ?_)
  rw [if_neg (by rw [hled];simp)]
  exact qd (qd q)
theorem qgU (D:SetB w s.heap a o es ep t m) {slot i:Nat}(hb:ju w=false->below t.place slot=i) {Q:Option (Value×Nat)->Shared->Prop}
  (q:∀ nx,(ju w=false->i<es.size->below t.place nx=i+1)->Q (((Za w a ep es)[i]?).map fun e=>(e.2,nx)) s):wpAny (model prog w) A (setNext a slot i ep) Q E s:=by
 unfold setNext setsByText
 refine qa (yQ D.ho D.hd D.fits ?_)
 dsimp only
 refine qa (qa (wpAny_askSetting (qd ?_)))
 show wpAny _ _ (if ju w=true then _ else _) _ _ _
 cases hb':ju w with
 | true =>
  rw [if_pos rfl,if_neg (by simp)]
  refine qa (qgc D (qd (q slot fun z=>?_)))
  rw [hb'] at z;cases z
 | false =>
  have hled:t.led=true:=by rw [D.ld,hb'];rfl
  rw [if_neg (by decide)]
  show wpAny _ _ (if (!t.plain && decide (es.size > 1))=true then _ else _) _ _ _
  rw [if_neg (by rw [D.pl];simp)]
  refine qa (show wpAny _ _ (if (!t.led && !es.isEmpty)=true then _ else _) _ _ _ from ?_)
  rw [if_neg (by rw [hled];simp)]
  refine qd ?_
  rw [hb hb']
  have T:=D.tab
  have eo:Za w a ep es=es:=by unfold Za;rw [if_neg (by rw [hb'];decide)]
  rw [eo] at q
  refine qd ?_
  by_cases hi:i<es.size
  ·have hp:t.place[i]?=some (t.place.getD i 0):=getD_some (by rw [T.size];exact hi)
   have he:es[i]?=some es[i]:=by simp [hi]
   have nx:=q (t.place.getD i 0+1) fun _ _=>by
    obtain ⟨b1,b2,b3⟩:=jR T.rise (t.place.getD i 0+1)
    rw [T.size] at b2 b3
    rcases Nat.lt_trichotomy (below t.place (t.place.getD i 0+1)) (i+1) with z | z | z
    ·have:=b2 i (by omega) hi
     omega
    ·exact z
    ·have c:=b1 (i+1) z
     have d:=T.rise i (i+1) (by omega) (by rw [T.size];omega)
     omega
   rw [he] at nx
   rw [hp,he]
   exact nx
  ·have he:es[i]?=none:=by simp;omega
   have nx:=q 0 fun _ z=>absurd z hi
   rw [he] at nx
   rw [he]
   exact nx
end
def SIt (h:Heap) (I S:Addr) (slot i n ep:Nat):Prop:=∃ o,h.get? I=some o/\o.cls = .type "set_iterator" /\ o.data = .fields #[.int slot 0,.int i 0,.ref S,.int n 0,.int ep 0]
theorem SIt.typeIs {s:Shared}{I S:Addr}{slot i n ep:Nat}(h:SIt s.heap I S slot i n ep):s.TypeIs (.ref I) "set_iterator" := let ⟨o,ho,hc,_⟩:=h;⟨o,ho,hc⟩
section
variable {prog:Program}{w:World}{Pv:Value->Prop}{A:Around}{E:Value->Shared->Prop}{s:Shared}{S I:Addr}{o:Obj}{es:Array (Int×Value)}{ep:Nat}{t:SetTable}{m:Nat}{kss:List (List Int)}
structure StS (w:World) (h:Heap) (I S:Addr) (o:Obj) (es:Array (Int×Value)) (ep:Nat) (t:SetTable) (m i:Nat):Prop where
 it:∃ slot,SIt h I S slot i es.size ep/\(ju w=false->i<=es.size->below t.place slot=i)
 st:SetB w h S o es ep t m
theorem qdo {i:Nat}(hI:I≠S) (st:StS w s.heap I S o es ep t m i) (hi:i<=es.size) {Q:Option Value->Shared->Prop}
  (hit:∀ e h',(Za w S ep es)[i]?=some e->StS w h' I S o es ep t m (i+1)->(∀ b ob,b≠I->s.heap.get? b=some ob->h'.get? b=some ob)->Q (some e.2) { s with heap:=h' })
  (hend:i=es.size->A.handled=none/\∀ h',(∀ b ob,b≠I->s.heap.get? b=some ob->h'.get? b=some ob)->Q none { s with heap:=h' }):wpAny (model prog w) A (pyNext (.ref I)) Q E s:=by
 obtain ⟨⟨slot,hs,hb⟩,B⟩:=st
 obtain ⟨oi,hoi,hci,hdi⟩:=id hs
 unfold pyNext
 refine qa (wpAny_attempt (wpAny_callSpecial?_slot (name:=Str.ofString "__next__") hs.typeIs jw (yY jw hs.typeIs Zl ?_ (qai _))))
 unfold Builtin.«set_iterator.__next__»
 refine qa (m:=slotArgs "__next__" 0 ⟨[.ref I],[]⟩) (qd ?_)
 dsimp only
 refine qa (wpAny_fieldsOf hoi hdi ?_)
 dsimp only
 refine qa (wpAny_setEntries_of B.ho B.hd B.fits ?_)
 rw [if_neg (by simp)]
 refine qa ?_
 simp only [Int.toNat_natCast]
 refine qgU B (fun z=>hb z hi) fun nx hnx=>?_
 by_cases hlt:i<es.size
 ·have hlt':i<(Za w S ep es).size:=by rw [j3];exact hlt
  have eq:(Za w S ep es)[i]?=some (Za w S ep es)[i]:=by simp [hlt']
  rw [eq]
  dsimp only [Option.map_some]
  refine qa (wpAny_setField hoi hdi (by simp) ?_)
  have h1:=ja (Obj.mapFields (·.setIfInBounds 0 (rawInt nx))) hoi (Obj.isFreed_of_fields (Obj.data_mapFields hdi _))
  have d1:=Obj.data_mapFields hdi (·.setIfInBounds 0 (rawInt (nx:Int)))
  refine qa (wpAny_setField h1 d1 (by simp) (qd ⟨_,rfl,qd ?_⟩))
  have h2:=ja (Obj.mapFields (·.setIfInBounds 1 (rawInt ((i:Int)+1)))) h1 (Obj.isFreed_of_fields (Obj.data_mapFields d1 _))
  have kp:∀ b ob,b≠I->s.heap.get? b=some ob->((s.heap.update I (Obj.mapFields (·.setIfInBounds 0 (rawInt nx)))).update I (Obj.mapFields (·.setIfInBounds 1 (rawInt ((i:Int)+1))))).get? b=some ob:=fun b ob hb e =>
   (yT _ _ (Ne.symm hb)).trans ((yT _ _ (Ne.symm hb)).trans e)
  refine hit _ _ eq ⟨⟨nx,⟨_,h2,?_,?_⟩,fun z _=>hnx z hlt⟩,B.at (kp S _ (Ne.symm hI))⟩ kp
  ·rw [Obj.cls_mapFields,Obj.cls_mapFields];exact hci
  ·rw [Obj.data_mapFields d1];simp [rawInt]
 ·have he:i=es.size:=by omega
  obtain ⟨hh,hq⟩:=hend he
  have eq:(Za w S ep es)[i]?=none:=by simp [j3];omega
  rw [eq]
  dsimp only [Option.map_none]
  refine qa (wpAny_setField hoi hdi (by simp) ?_)
  refine qa ?_
  simp only [newExc,newTuple]
  refine qa (qT ?_ (by size_fits))
  refine qa (m:=firstArgMember _ _) (wpAny_of_eq (a:=Value.none) (by first | rfl | (simp only [firstArgMember];rfl)) ?_)
  refine qT ?_ (by size_fits)
  simp only [raiseNew]
  refine qa (wpAny_handled ?_)
  rw [show A.in1.handled=none from hh]
  refine qa (qd (wpAny_throw ?_))
  refine qa (wpAny_isInstance (T := "StopIteration") (b:=true) ⟨_,qr _ rfl,rfl⟩ isSubtype_stop ?_)
  refine qd (hq _ fun b ob hb e=>?_)
  exact qb _ (qb _ ((yT _ _ (Ne.symm hb)).trans e))
theorem qck (hh:A.handled=none) (hI:I≠S):Walks prog w A I [I,S] [I] es.size (fun i v=>((Za w S ep es)[i]?).map (·.2)=some v) (fun i h=>StS w h I S o es ep t m i) where
 sub:=fun b hb=>by simp at hb;simp [hb]
 frame:=fun i h h' st hk=>by
  obtain ⟨⟨slot,⟨oi,e1,e2⟩,hb⟩,B⟩:=st
  exact ⟨⟨slot,⟨oi,hk I (by simp) _ e1,e2⟩,hb⟩,B.at (hk S (by simp) _)⟩
 item:=fun i s Q E hi st hQ=>qdo hI st (by omega) (fun e h' eo st' kp=>hQ e.2 h' s.toks (by rw [eo];rfl) st' fun b ob hb=>kp b ob fun z=>hb (by simp [z])) fun z=>absurd z (by omega)
 done:=fun s Q E st hQ=>qdo hI st (qj _) (fun e h' eo _ _=>by
  have:(Za w S ep es)[es.size]?=none:=by simp [j3]
  rw [this] at eo;cases eo) fun _=>⟨hh,fun h' kp=>hQ h' s.toks fun b ob hb=>kp b ob fun z=>hb (by simp [z])⟩
 self:=fun i s Q E st hQ=>by
  obtain ⟨⟨slot,hs,hb⟩,B⟩:=st
  refine wpAny_pyIter_slot hs.typeIs JU (yY JU hs.typeIs Zm ?_ (qaj _))
  show wpAny _ _ (ret (.ref I)) _ _ s
  exact qd ⟨_,rfl, "set_iterator",_,hs.typeIs,jw.lookup,hQ⟩
theorem qeS (B:SetB w s.heap S o es ep t m) {Q:Value->Shared->Prop}(q:∀ h',jJ s.heap h'->StS w h' s.heap.objs.size S o es ep t m 0->h'.objs.size=s.heap.objs.size+1->Q (.ref s.heap.objs.size) { s with heap:=h' }):wpAny (model prog w) A (pyIter (.ref S)) Q E s:=by
 have hT:s.TypeIs (.ref S) "set" := ⟨o,B.ho,B.ex.1⟩
 refine wpAny_pyIter_slot hT F.slot_set_iter (yY F.slot_set_iter hT ZZ ?_ (F.args_set_iter_1 _))
 unfold Builtin.«frozenset.__iter__» Builtin.Frozenset.slot0
 refine qa (qa (m:=slotArgs "__iter__" 0 ⟨[.ref S],[]⟩) (qd (qd ?_)))
 unfold Builtin.Frozenset.sizeOf setDrawn setsByText setEpoch
 refine qa (qa (wpAny_setEntries_of B.ho B.hd B.fits (qd ?_)))
 refine qa (qa (yQ B.ho B.hd B.fits ?_))
 dsimp only
 refine qa (qa (wpAny_askSetting (qd (qd ?_))))
 rw [if_neg (by show ¬ ((!ju w && (!t.plain && decide (es.size > 1)))=true);rw [B.pl];simp)]
 refine qa (qd ?_)
 refine qa (qa (yQ B.ho B.hd B.fits (qd ?_)))
 refine qa (qT (qd ⟨_,rfl, "set_iterator",_,⟨_,qr _ rfl,rfl⟩,jw.lookup,q _ (fun b ob e=>qb _ e) ⟨⟨0,⟨_,qr _ rfl,rfl,rfl⟩,fun _ _=>?_⟩,B.at (qb _)⟩ (yr ..)⟩))
 obtain ⟨b1,b2,b3⟩:=jR B.tab.rise 0
 rcases Nat.eq_zero_or_pos (below t.place 0) with z | z
 ·exact z
 ·exact absurd (b1 0 z) (by omega)
theorem qaT (hh:A.handled=none) (B:SetB w s.heap S o es ep t m) (hz:es.size<4915) {Q:List Value->Shared->Prop}(hQ:∀ h' tk,jJ s.heap h'->Q ((Za w S ep es).toList.map (·.2)) { s with heap:=h',toks:=tk }):wpAny (model prog w) A (collect (.ref S)) Q E s:=by
 have hlt:S<s.heap.objs.size:=qh B.ho
 unfold collect
 refine qa (wpAny_runValue (codeAny_builtin F.entry_proto_collect ?_))
 rw [Around.under_plainId F.plain_proto_collect _]
 refine qa (m:=newList []) (qT ?_)
 refine qd ⟨plainId_quiet F.plain_list_iadd _,codeAny_builtin F.entry_list_iadd ?_⟩
 rw [Around.under_plainId F.plain_list_iadd _]
 have B1:SetB w (s.heap.push { cls:=.type "list",data:=.seq ([]:List Value).toArray }) S o es ep t m:=B.at (qb _)
 have hL:(s.heap.push { cls:=.type "list",data:=.seq ([]:List Value).toArray }).get? s.heap.objs.size=some { cls:=.type "list",data:=.seq ([]:List Value).toArray }:=qr _ rfl
 have kp1:jJ s.heap (s.heap.push { cls:=.type "list",data:=.seq ([]:List Value).toArray }):=fun b ob e=>qb _ e
 have sz1:(s.heap.push { cls:=.type "list",data:=.seq ([]:List Value).toArray }).objs.size=s.heap.objs.size+1:=yr ..
 show wpAny (model prog w) A.in1 (Builtin.List.listExtendWith (.ref s.heap.objs.size) (.ref S) (.ref s.heap.objs.size)) _ _ { s with heap:=s.heap.push { cls:=.type "list",data:=.seq ([]:List Value).toArray } }
 generalize s.heap.push { cls:=.type "list",data:=.seq ([]:List Value).toArray }=h1 at *
 have hT:Shared.TypeIs { s with heap:=h1 } (.ref S) "set" := ⟨o,B1.ho,B1.ex.1⟩
 have ne:Builtin.List.listSameRef (.ref s.heap.objs.size) (.ref S)=false:=by simp only [Builtin.List.listSameRef];exact beq_false_of_ne (Nat.ne_of_gt hlt)
 unfold Builtin.List.listExtendWith
 refine qa (wpAny_typeOf hT ?_)
 rw [if_neg (by rw [ne];decide)]
 refine qa (qeS (s:={ s with heap:=h1 }) B1 fun h2 kp2 st2 sz2=>?_)
 have hT2:Shared.TypeIs { s with heap:=h2 } (.ref S) "set" := ⟨o,st2.st.ho,B1.ex.1⟩
 have hL2:=kp2 _ _ hL
 refine qa (yK ?_)
 unfold Builtin.List.listLengthHint
 refine qa (wpAny_specialOf hT2 F.slot_set_len.lookup ?_)
 generalize hid:("set.__len__" : String)=id0
 wp_delta
 rw [show splitId id0=some ("set", "__len__") from by subst hid;decide +kernel]
 subst hid
 refine qa (wpAny_isInstance (b:=true) hT2 sub_set_self ?_)
 refine qa (m:=typeOf (.ref S)) (wpAny_typeOf hT2 (qd ?_))
 show wpAny (model prog w) A.in1 (rule "list.extend.makes-room" >>= fun _=>Builtin.List.listTouch (.ref s.heap.objs.size) >>= fun _=>again (.builtin "list.extend.loop" ⟨[.ref s.heap.objs.size,.ref h1.objs.size,.ref s.heap.objs.size],[]⟩)) _ _ _
 refine qa (jD (qa ?_))
 show wpAny (model prog w) A.in1 (updateSeq s.heap.objs.size (·.push .none) >>= fun _=>updateSeq s.heap.objs.size (·.pop)) _ _ _
 refine qa (wpAny_updateSeq hL2 rfl ?_)
 have hL3:=ja (Obj.mapSeq (·.push Value.none)) hL2 rfl
 refine wpAny_updateSeq hL3 rfl ?_
 have hL4:=ja (Obj.mapSeq (·.pop)) hL3 rfl
 have oth:∀ b ob,b≠s.heap.objs.size->h2.get? b=some ob->((h2.update s.heap.objs.size (Obj.mapSeq (·.push Value.none))).update s.heap.objs.size (Obj.mapSeq (·.pop))).get? b=some ob :=
  fun b ob hb e=>(yT _ _ (Ne.symm hb)).trans ((yT _ _ (Ne.symm hb)).trans e)
 have hI:h1.objs.size≠S:=fun z=>by
  have:=qh B1.ho
  rw [<- z] at this
  exact yN _ this
 have hIL:h1.objs.size≠s.heap.objs.size:=by rw [sz1];exact Nat.ne_of_gt (Nat.lt_succ_self _)
 have W:WalksS prog w A.in1 h1.objs.size [h1.objs.size,S] [h1.objs.size] (fun a b=>b=a) es.size (fun i v=>((Za w S ep es)[i]?).map (·.2)=some v) (fun i s=>StS w s.heap h1.objs.size S o es ep t m i):=(qck (A:=A.in1) hh hI).toS
 refine qd ⟨plainId_quiet F.plain_extend_loop _,codeAny_extend_loopS W (by rw [sizeLine_eq];omega) s.heap.objs.size (fun hm=>?_) _ es.size 0 _ _ _ rfl (qQ _) ?_ hL4 (ItemsOf.nil _) fun s' acc' c' hm hS' hacc=>?_⟩
 ·rcases List.mem_cons.mp hm with z | z
  ·exact hIL z.symm
  ·exact Nat.ne_of_gt hlt (qz.mp z)
 ·obtain ⟨⟨slot,⟨oi,e1,e2⟩,hb⟩,B2⟩:=st2
  exact ⟨⟨slot,⟨oi,oth _ _ hIL e1,e2⟩,hb⟩,B2.at (oth _ _ (qk hlt))⟩
 ·refine qa (m:=load s.heap.objs.size) (wpAny_load hS' ?_)
  have kp:jJ s.heap s'.heap:=fun b ob e=>by
   have hb:b<s.heap.objs.size:=qh e
   refine hm.heap b ob (fun z=>?_) (oth b ob (qk hb) (kp2 _ _ (kp1 _ _ e)))
   rcases List.mem_cons.mp z with z | z
   ·exact qk hb z
   ·rw [qz.mp z,sz1] at hb
    exact absurd hb (Nat.not_lt.mpr (Nat.le_succ _))
  have ea:acc'.toList=(Za w S ep es).toList.map (·.2):=by
   apply List.ext_getElem?
   intro i
   rw [List.getElem?_map,qp,qp]
   cases z:acc'[i]? with
   | some v=>exact (hacc.2 i v z).symm
   | none =>
    have:acc'.size<=i:=by simpa using z
    rw [hacc.1,<- j3 w S ep es] at this
    rw [yg this]
    rfl
  have fin:=hQ s'.heap s'.toks kp
  rw [<- ea] at fin
  obtain ⟨h',g',d',tk',os'⟩:=s'
  have e1:g'=s.gens:=hm.gens
  have e2:d'=s.drawn:=hm.drawn
  have e3:os'=s.os:=hm.os
  subst e1;subst e2;subst e3
  exact qd fin
end
end L2
namespace L2
open PySem PySem.Spec PyProof.Rows PySem.W PySem.SetTable
section
variable {prog:Program}{w:World}{Pv Pv':Value->Prop}{A:Around}{E:Value->Shared->Prop}{s:Shared}{S1 S2:Addr}{k1 k2:List (List Int)}
end
end L2
namespace L2
open PySem PySem.Spec PyProof.Rows PySem.W PySem.SetTable
def qak (K:W.Frag) (H:Hp) (v:V) (ks:List Int):Prop:=(∃ a,v = .ref a/\SqT K H a (ks.map V.int))/\ks≠[]
theorem qak.same {K:W.Frag}{H H':Hp}{v:V}{ks:List Int}(h:qak K H v ks) (s:qU H H'):qak K H' v ks:=by
 obtain ⟨⟨a,e,q⟩,n⟩:=h
 exact ⟨⟨a,e,SqT.same s q⟩,n⟩
def Srt (ms:List (List Int)):Prop:=ms.Pairwise fun a b=>¬ b<a
def qgm (P:Program) (w:World) (a:Addr) (bs:List (Addr×List Int)) (h:Heap):Prop :=
 ∃ o es ep t m,h.get? a=some o/\o.ExactSet/\o.data = .set es ep t/\t.plain=true/\t.led=(!ju w)/\jI m es.size/\SetI t es m es.size/\es.toList=bs.map (fun b=>(yk P w b.2,Value.ref b.1))/\(bs.map (·.2)).Nodup
def qgn (P:Program) (w:World) (a:Addr) (bs:List (Addr×List Int)):HO:=.ext (qgm P w a bs)
def InS (K:W.Frag) (H:Hp) (bs:List (Addr×List Int)):Prop:=∀ b∈bs,qak K H (.ref b.1) b.2
theorem InS.same {K:W.Frag}{H H':Hp}{bs:List (Addr×List Int)}(h:InS K H bs) (s:qU H H'):InS K H' bs:=fun b hb=>(h b hb).same s
theorem qgm.stay {P:Program}{w:World}{a:Addr}{bs:List (Addr×List Int)}{h1 h2:Heap}(p:qgm P w a bs h1) (k:∀ o,h1.get? a=some o->h2.get? a=some o):qgm P w a bs h2:=by
 obtain ⟨o,es,ep,t,m,ho,r⟩:=p
 exact ⟨o,es,ep,t,m,k o ho,r⟩
theorem qgm.ok {P:Program}{w:World}{H:Hp}{a:Addr}{bs:List (Addr×List Int)}{h:Heap}(p:qgm P w a bs h):jC P w H h a (qgn P w a bs):=by
 refine ⟨p,?_,fun h1 h2 p1 k=>p1.stay k⟩
 obtain ⟨o,_,_,_,_,ho,_⟩:=p
 exact ⟨o,ho⟩
theorem qdE {P:Program}{w:World}{h:Heap}:∀ {l:List (Int×Value)}{ms:List (List Int)},PySem.Paired (Zz P w h) l ms->∃ bs:List (Addr×List Int),l=bs.map (fun b=>(yk P w b.2,Value.ref b.1))/\bs.map (·.2)=ms/\∀ b∈bs,je h (.ref b.1) b.2
 | _,_,.nil=>⟨[],rfl,rfl,(fun _ z=>nomatch z)⟩
 | _,_,.cons (a:=e) (b:=ks) r t=>by
  obtain ⟨bs,e1,e2,e3⟩:=qdE t
  obtain ⟨hh,v⟩:=e
  obtain ⟨r1,r2⟩:=r
  obtain ⟨b,_,_,_,eb,_⟩:=id r1
  dsimp only at eb r1 r2
  subst eb
  refine ⟨(b,ks)::bs,?_,?_,fun c hc=>?_⟩
  ·rw [List.map_cons,<- e1,r2]
  ·rw [List.map_cons,e2]
  ·rcases List.mem_cons.mp hc with rfl | hc
   ·exact r1
   ·exact e3 c hc
theorem qd5 {P:Program}{w:World}{h:Heap}:∀ {bs:List (Addr×List Int)},(∀ b∈bs,je h (.ref b.1) b.2)->PySem.Paired (Zz P w h) (bs.map (fun b=>(yk P w b.2,Value.ref b.1))) (bs.map (·.2))
 | [],_=>.nil
 | b::bs,k=>.cons ⟨k b qg,rfl⟩ (qd5 fun c hc=>k c (qe _ hc))
section
variable {X:Cx}{pins:List (Addr×Obj)}{σ:St}{H:Hp}{s:Shared}
theorem qja:∀ {ns:List Int}{us:List Value},yo (ns.map V.int) us->IntsAre us ns
 | [],_,.nil=>.nil
 | n::ns,_,.cons ⟨t,e⟩ r=>by
  subst e
  exact .cons n t (qja r)
theorem Inv.tupK (I:Inv X pins σ H s) {a:Addr}{ks:List Int}(h:qak X.K H (.ref a) ks):je s.heap (.ref a) ks:=by
 obtain ⟨⟨a',e,ha⟩,hn⟩:=h
 cases e
 obtain ⟨its,r,⟨o,ho,hc,n,hd⟩,hz⟩:=I.tuple ha
 exact ⟨a,o,its.toArray,n,rfl,ho,hc,hd,by simpa using qja r,hn⟩
theorem Inv.tupsK (I:Inv X pins σ H s):∀ {us:List V}{its:List Value}{kss:List (List Int)},PySem.Paired (qak X.K H) us kss->yo us its->PySem.Paired (je s.heap) its kss
 | _,_,_,.nil,.nil=>.nil
 | _,_,_,.cons h t,.cons r q=>by
  obtain ⟨⟨a,e,ha⟩,hn⟩:=id h
  subst e
  cases r
  exact .cons (I.tupK h) (Inv.tupsK I t q)
theorem Inv.setT (I:Inv X pins σ H s) {a:Addr}{bs:List (Addr×List Int)}(h:H a=some (qgn X.prog X.w a bs)) (hb:InS X.K H bs):qaU X.prog X.w (fun v=>∃ b∈bs,v=Value.ref b.1) s.heap a (bs.map (·.2)):=by
 obtain ⟨⟨o,es,ep,t,m,ho,ex,hd,pl,ld,mo,si,ee,nd⟩,_⟩:=I.hok a _ h
 refine ⟨o,es,ep,t,m,ho,ex,hd,pl,ld,mo,si,?_,nd,fun e he=>?_⟩
 ·rw [ee]
  exact qd5 fun b hbb=>I.tupK (hb b hbb)
 ·rw [ee] at he
  obtain ⟨b,h1,rfl⟩:=qK.mp he
  exact ⟨b,h1,rfl⟩
theorem qee {us:List V}{its:List Value}(r:yo us its) {kss:List (List Int)}(h:PySem.Paired (qak X.K H) us kss) {b:Addr}(hb:Value.ref b∈its):∃ i:Nat,us[i]?=some (V.ref b):=by
 obtain ⟨i,ei⟩:=qS hb
 have hi:i<us.length:=by rw [r.length];exact (qo.mp ei).1
 obtain ⟨ks,_,⟨⟨a,e,_⟩,_⟩⟩:=L2.Paired.get h (List.getElem?_eq_getElem hi)
 obtain ⟨u,e1,e2⟩:=yo.get r (List.getElem?_eq_getElem hi)
 rw [ei] at e1
 cases e1
 rw [e] at e2
 have:Value.ref b=Value.ref a:=e2
 cases this
 exact ⟨i,by rw [List.getElem?_eq_getElem hi,e]⟩
def rSet (X:Cx):List V->Hp->VK->Prop:=fun xs H Q=>∃ (p:Addr) (us:List V) (kss:List (List Int)),xs=[.ref p]/\SqL X.K H p us/\PySem.Paired (qak X.K H) us kss/\(∀ ms:List (List Int),ms.Nodup->(∀ q∈ms,q∈kss)->ms.length<4900) ∧
 ∀ S bs,H S=none->InS X.K H bs->(∀ b∈bs,∃ i:Nat,us[i]?=some (V.ref b.1)/\kss[i]?=some b.2)->(∀ q,q∈bs.map (·.2) ↔ q∈kss)->(bs.map (·.2)).Nodup->bs.length<4915->Q (.ref S) (upd H S (qgn X.prog X.w S bs))
theorem qdY (hc:X.calm=true) (hu:X.A.units+64<cLine):yz X (.type "set") (rSet X):=by
 intro pins s σ H xs us Q I r h
 obtain ⟨p,vs,kss,rfl,hS,hT,hl,q⟩:=h
 obtain ⟨u,rfl,rx⟩:=J1 r
 cases rx
 obtain ⟨its,rv,pl,_⟩:=I.list hS
 have hK:=I.tupsK hT rv
 have hlen:=rv.length
 refine qbR (I.ok.hd hc) pl.isList hK (fun ms nd hm=>y9 (hl ms nd hm) (by decide)) hu fun h' tk ms S2 mem kp=>?_
 obtain ⟨o,es,ep,t,m,D⟩:=S2
 obtain ⟨bs,e1,e2,e3⟩:=qdE D.en
 subst e2
 have fr:H s.heap.objs.size=none:=I.hok.fresh (qj _)
 have own:∀ b∈bs,∃ i:Nat,vs[i]?=some (V.ref b.1):=fun b hb=>by
  refine qee rv hT (D.own (yk X.prog X.w b.2,Value.ref b.1) ?_)
  rw [e1]
  exact qK.mpr ⟨b,hb,rfl⟩
 have inS2:∀ b∈bs,qak X.K H (.ref b.1) b.2/\∃ i:Nat,vs[i]?=some (V.ref b.1)/\kss[i]?=some b.2:=fun b hb=>by
  obtain ⟨i,ei⟩:=own b hb
  obtain ⟨ks,ek,tn⟩:=L2.Paired.get hT ei
  have k1:je h' (.ref b.1) ks:=(I.tupK tn).kept fun c ob e _=>kp c ob e
  have:=(k1.key (prog:=X.prog) (w:=X.w)).inj ((e3 b hb).key (prog:=X.prog) (w:=X.w))
  rw [<- this]
  exact ⟨tn,i,ei,ek⟩
 have inS:InS X.K H bs:=fun b hb=>(inS2 b hb).1
 have lt:bs.length<4915:=by
  have:=D.mok.le
  have z:es.toList.length=bs.length:=by rw [e1,List.length_map]
  rw [Array.length_toList] at z
  omega
 refine ⟨.ref s.heap.objs.size,_,I.laid (t':=tk) kp (qj _) (o:=qgn X.prog X.w s.heap.objs.size bs) (qgm.ok ⟨o,es,ep,t,m,D.ho,D.ex,D.hd,D.pl,D.ld,D.mok,D.si,e1,D.nd⟩),rfl,q _ bs fr inS (fun b hb=>(inS2 b hb).2) mem D.nd lt⟩
theorem qfl {h:Heap}{vs:List Value}{kss:List (List Int)}{p:Array Nat}(hT:PySem.Paired (je h) vs kss) (hp:Arr vs.length p) :
  PySem.Paired (je h) (qbJ vs p) (p.toList.map fun i=>kss.getD i [])/\(p.toList.map fun i=>kss.getD i []).Perm kss:=by
 have lt:∀ i∈p.toList,i<vs.length:=fun i hi=>by
  have:=(Array.Perm.mem_iff hp (a:=i)).mp (Array.mem_toList_iff.mp hi)
  simpa using this
 constructor
 ·unfold qbJ
  generalize p.toList=l at lt
  induction l with
  | nil=>exact .nil
  | cons i l ih=>exact .cons (jp hT i (lt i qg)) (ih fun j hj=>lt j (qe _ hj))
 ·have p1:p.toList.Perm (List.range vs.length):=by
   have:=yv.mp hp
   simpa using this
  refine (p1.map fun i=>kss.getD i []).trans ?_
  rw [L2.Paired.len hT]
  refine List.Perm.of_eq ?_
  apply List.ext_getElem?
  intro i
  simp only [List.getElem?_map,List.getElem?_range]
  by_cases hi:i<kss.length
  ·simp [hi]
  ·simp [hi]
theorem qhC {kss:List (List Int)}{n:Nat}{p:Array Nat}(hp:Arr n p) (hs:qb4 (ltK kss) p n):Srt (p.toList.map fun i=>kss.getD i []):=by
 unfold Srt
 rw [List.pairwise_map]
 refine qH.mpr fun i j hi hj hij=>?_
 have hj':j<n:=by
  have:=hp.size
  simp at hj
  omega
 have:=hs i j (yl hij) hj'
 unfold ltK at this
 have:=of_decide_eq_false this
 have e1:gD p i=p.toList[i]:=by simp at hi;simp [gD,hi]
 have e2:gD p j=p.toList[j]:=by simp at hj;simp [gD,hj]
 rw [e1,e2] at this
 exact this
def qjF (H:Hp) (Pv:V->List Int->Prop) (kss:List (List Int)) (Q:VK):Prop:=∀ D vs ms,H D=none->PySem.Paired Pv vs ms->ms.Perm kss->Srt ms->Q (.ref D) (upd H D (.lst vs))
theorem qbP {Q:VK}{x:Value}{Pv:V->List Int->Prop}{kss:List (List Int)}(I:Inv X pins σ H s) (q:qjF H Pv kss Q) {R:List Value->List (List Int)->Prop}
  (hR:∀ vs ms,R vs ms->(∀ v∈vs,∃ b ks,v=Value.ref b/\qak X.K H (.ref b) ks/\Pv (.ref b) ks)/\ms.Perm kss) (hcol:∀ E',wpAny (model X.prog X.w) X.A.in1 (collect x) (qjJ s R) E' s):wpAny (model X.prog X.w) X.A (call (.builtin "sorted") [x]) (EP X pins σ Q) X.xe s:=by
 refine qcw hcol fun vs ms p h' tk D e hr hp hs hT hz kp hD he=>?_
 obtain ⟨r1,r2⟩:=hR vs ms hr
 obtain ⟨a1,a2⟩:=qfl hT hp
 have hV:∀ l:List Value,(∀ v∈l,∃ b ks,v=Value.ref b/\qak X.K H (.ref b) ks/\Pv (.ref b) ks)->∃ ws:List V,yo ws l/\∀ ks,PySem.Paired (je h') l ks->PySem.Paired Pv ws ks:=by
  intro l
  induction l with
  | nil=>exact fun _=>⟨[],.nil,fun ks z=>(by cases z;exact .nil)⟩
  | cons v l ih =>
   intro hl
   obtain ⟨ws,w1,w3⟩:=ih fun u hu=>hl u (qe _ hu)
   obtain ⟨b,ks,rfl,tn,pv⟩:=hl v qg
   refine ⟨.ref b::ws,.cons rfl w1,fun ks' z=>?_⟩
   cases z with
    | cons z1 z2 =>
     refine .cons ?_ (w3 _ z2)
     have k1:je h' (.ref b) ks:=(I.tupK tn).kept fun c ob e _=>kp c ob e
     have:=(k1.key (prog:=X.prog) (w:=X.w)).inj (z1.key (prog:=X.prog) (w:=X.w))
     rw [<- this]
     exact pv
 obtain ⟨ws,w1,w3⟩:=hV (qbJ vs p) fun v hv=>by
  obtain ⟨i,hi,rfl⟩:=qK.mp hv
  have hlt:i<vs.length:=by
   have:=(Array.Perm.mem_iff hp (a:=i)).mp (Array.mem_toList_iff.mp hi)
   simpa using this
  rw [qq,List.getElem?_eq_getElem hlt]
  exact r1 _ (qX hlt)
 have hwl:ws.length<=sizeLine:=by
  rw [w1.length,Zx hp,sizeLine_eq]
  omega
 obtain ⟨hn,J⟩:=I.laidN (t':=tk) (o:=.lst ws) kp hD ⟨hwl,qbJ vs p,e,w1,he⟩
 exact ⟨.ref D,_,J,rfl,q D ws _ hn (w3 _ a1) (a2.trans r2) (qhC hp hs)⟩
def qir (X:Cx):List V->Hp->VK->Prop:=fun xs H Q=>∃ (S:Addr) (bs:List (Addr×List Int)),xs=[.ref S]/\H S=some (qgn X.prog X.w S bs)/\InS X.K H bs/\bs.length<4900/\qjF H (fun v ks=>∃ b∈bs,v=V.ref b.1/\ks=b.2) (bs.map (·.2)) Q
theorem qb1 (hc:X.calm=true):yz X (.builtin "sorted") (qir X):=by
 intro pins s σ H xs us Q I r h
 obtain ⟨S,bs,rfl,hS,hI,hl,q⟩:=h
 obtain ⟨u,rfl,rx⟩:=J1 r
 cases rx
 obtain ⟨o,es,ep,t,m,D⟩:=I.setT hS hI
 have hz:=D.len
 rw [List.length_map] at hz
 refine qbP I q (R:=fun us ms=>(∀ v∈us,∃ b∈bs,v=Value.ref b.1)/\(bs.map (·.2)).Perm ms) ?_ fun E'=>qaT (by show X.A.handled=none;exact I.ok.hd hc) D.toB (by omega) fun h' tk kp=>?_
 ·rintro us ms ⟨h1,h2⟩
  refine ⟨fun v hv=>?_,h2.symm⟩
  obtain ⟨b,hb,rfl⟩:=h1 v hv
  exact ⟨b.1,b.2,rfl,hI b hb,b,hb,rfl,rfl⟩
 ·obtain ⟨ms,m1,m2⟩:=qav (Yl X.w S ep es).symm D.en
  refine ⟨h',tk,ms,rfl,kp,?_,?_,?_,m2⟩
  ·have:∀ {l:List (Int×Value)}{ks:List (List Int)},PySem.Paired (Zz X.prog X.w s.heap) l ks->PySem.Paired (je h') (l.map (·.2)) ks:=by
    intro l ks z
    induction z with
    | nil=>exact .nil
    | cons r _ ih=>exact .cons (r.1.kept fun b o e _=>kp b o e) ih
   exact this m1
  ·rw [List.length_map,Array.length_toList,j3];omega
  ·intro v hv
   obtain ⟨e,he,rfl⟩:=qK.mp hv
   exact D.own e ((Yl X.w S ep es).mem_iff.mp he)
def qel (ks:List Int):PyData:=.tuple (ks.map PyData.int)
variable {K:W.Frag}
theorem IsAll.tups {H:Hp}:∀ {us:List V}{kss:List (List Int)},IsAll K H us (kss.map qel)->(∀ k∈kss,k≠[])->PySem.Paired (qak K H) us kss
 | _,[],.nil,_=>.nil
 | _,k::kss,.cons h t,hn=>by
  refine .cons ?_ (IsAll.tups t fun z hz=>hn z (qe _ hz))
  unfold qel at h
  cases h with
  | @tup a xs _ h1 h2 =>
   rw [h2.ints_of] at h1
   exact ⟨⟨a,rfl,h1⟩,hn _ qg⟩
theorem qak.is {H:Hp}{v:V}{ks:List Int}(h:qak K H v ks):Is K H v (qel ks):=by
 obtain ⟨⟨a,rfl,h1⟩,_⟩:=h
 exact .tup h1 (IsAll.ints ks)
theorem qak.up {μ:Mu}{H:Hp}{v:V}{ks:List Int}(h:qak K (mask μ H) v ks):qak K H v ks:=h.same yt
def qgh (P:Program) (w:World) (K:W.Frag) (ms:List (List Int)):Stb where
 R v H:=∃ S bs,v = .ref S/\H S=some (qgn P w S bs)/\InS K H bs/\bs.map (·.2)=ms/\ms.Nodup/\ms.length<4915
 st:=fun v H H' s ⟨S,bs,e,h1,h2,h3,h4,h5⟩=>⟨S,bs,e,s _ _ h1,h2.same s,h3,h4,h5⟩
def qcK (P:Program) (w:World) (K:W.Frag):RAd:=fun es μ Q=>match es with
 | [e]=>∃ kss:List (List Int),LstOf μ e (kss.map qel)/\(∀ k∈kss,k≠[])/\(∀ ms:List (List Int),ms.Nodup->(∀ q∈ms,q∈kss)->ms.length<4900)/\∀ ms,(∀ q,q∈ms ↔ q∈kss)->ms.Nodup->ms.length<4915->Q (.x (qgh P w K ms)) μ
 | _=>False
theorem qhn {P:Program}{w:World}(hc:X.calm=true) (hu:X.A.units+64<cLine) (hK:X.K=K:=by rfl) (hP:X.prog=P:=by rfl) (hw:X.w=w:=by rfl):yz X (.type "set") (upC K (qcK P w K)):=by
 subst hK hP hw
 refine (qdY hc hu).mono fun xs H Q h=>?_
 obtain ⟨μ,es,Q0,M,hp,q,cl⟩:=h
 unfold qcK at q
 split at q
 ·obtain ⟨v,rfl,i1⟩:=Jo hp
  obtain ⟨kss,h1,hne,h64,q⟩:=q
  obtain ⟨p,ys,rfl,h2,h3⟩:=h1.get M i1
  have hT:=IsAll.tups h3 hne
  refine ⟨p,ys,kss,rfl,h2,JI hT (fun x _ y h=>h.up),h64,fun S bs hS _ ix mem nd lt=>?_⟩
  obtain ⟨M4,s4,hn⟩:=M.laid (o:=qgn X.prog X.w S bs) hS
  refine cl _ μ _ _ (q (bs.map (·.2)) mem nd (by rw [List.length_map];exact lt)) M4 s4 ⟨S,bs,rfl,?_,fun b hb=>?_,rfl,nd,by rw [List.length_map];exact lt⟩
  ·rw [yc hn];exact qV
  ·obtain ⟨i,e1,e2⟩:=ix b hb
   obtain ⟨ks,e3,tn⟩:=L2.Paired.get hT e1
   rw [e2] at e3
   cases e3
   exact tn.same s4
 ·exact q.elim
def qig (P:Program) (w:World) (K:W.Frag):RAd:=fun es μ Q=>match es with
 | [e]=>∃ kss:List (List Int),LstOf μ e (kss.map qel)/\(∀ k∈kss,k≠[])/\kss.length<4900/\∀ ms,(∀ q,q∈ms ↔ q∈kss)->ms.Nodup->ms.length<4915->Q (.x (qgh P w K ms)) μ
 | _=>False
theorem qfV {P:Program}{w:World}(hc:X.calm=true) (hu:X.A.units+64<cLine) (hK:X.K=K:=by rfl) (hP:X.prog=P:=by rfl) (hw:X.w=w:=by rfl):yz X (.type "set") (upC K (qig P w K)):=by
 refine (qhn hc hu hK hP hw).mono fun xs H Q h=>?_
 obtain ⟨μ,es,Q0,M,hp,q,cl⟩:=h
 refine ⟨μ,es,Q0,M,hp,?_,cl⟩
 unfold qig at q
 unfold qcK
 split at q
 ·obtain ⟨kss,h1,hne,h64,q⟩:=q
  exact ⟨kss,h1,hne,fun ms nd hm=>jK (YL nd hm) h64,q⟩
 ·exact q
def qgv (P:Program) (w:World) (K:W.Frag):RAd:=fun es μ Q=>∃ ms,es=[.x (qgh P w K ms)]/\ms.length<4900/\∀ ks,ks.Perm ms->Srt ks->Q (.d (.list (ks.map qel))) μ
theorem qbb {Pv:V->List Int->Prop}{H:Hp}:∀ {vs:List V}{ms:List (List Int)},PySem.Paired Pv vs ms->(∀ v k,Pv v k->Is K H v (qel k))->IsAll K H vs (ms.map qel)
 | _,_,.nil,_=>.nil
 | _,_,.cons h t,f=>.cons (f _ _ h) (qbb t f)
theorem qbB {P:Program}{w:World}(hc:X.calm=true) (hK:X.K=K:=by rfl) (hP:X.prog=P:=by rfl) (hw:X.w=w:=by rfl):yz X (.builtin "sorted") (upC K (qgv P w K)):=by
 subst hK hP hw
 refine (qb1 hc).mono fun xs H Q h=>?_
 obtain ⟨μ,es,Q0,M,hp,q,cl⟩:=h
 obtain ⟨ms,rfl,h64,q⟩:=q
 obtain ⟨v,rfl,i1⟩:=Jo hp
 obtain ⟨S,bs,rfl,h1,h2,rfl,h4,h5⟩:=i1
 rw [List.length_map] at h64
 refine ⟨S,bs,rfl,yt _ _ h1,fun b hb=>(h2 b hb).up,h64,fun D vs ks hD hP hp hs=>?_⟩
 obtain ⟨M4,s4,hn⟩:=M.laid (o:=.lst vs) hD
 refine cl _ μ _ _ (q ks hp hs) M4 s4 (.lst (SqL.of (by rw [yc hn];exact qV)) (qbb hP fun v k hv=>?_))
 obtain ⟨b,hb,rfl,rfl⟩:=hv
 exact ((h2 b hb).same s4).is
end
open PySem PySem.Spec PyProof.Rows
theorem Room.u66 {k:Nat}{A:Around}(r:Room k A):A.units+66<cLine:=by have:=r.un;omega
section
variable {X:Cx}{K:W.Frag}
theorem qiP (hu:X.A.units+66<cLine):OpR X (compareOp .In) (fun x y H Q=>∃ d ds,Is X.K H x d/\Is X.K H y (.list ds)/\SeqAt.shaped d=true/\PyData.canLayAll0 ds=true/\Q (.bl (ds.any fun z=>z.eqv d)) H):=by
 intro pins s σ H x y v u Q I rx ry h
 obtain ⟨d,ds,h1,h2,h3,h4,q⟩:=h
 obtain ⟨as,ra⟩:=h1.reads I rx
 obtain ⟨bs,rb⟩:=h2.reads I ry
 unfold SeqAt.shaped at h3
 rw [Bool.and_eq_true] at h3
 have hd:=qv h3.2
 exact SeqAt.in_list_reads rb ra h4 h3.1 (by omega) ⟨.bl _,H,I,rfl,q⟩
def rdIn (neg:Bool):R2d:=fun x y μ Q=>∃ d ds,x = .d d/\LstOf μ y ds/\SeqAt.shaped d=true/\PyData.canLayAll0 ds=true/\Q (.d (.bool (if neg then !ds.any fun z=>z.eqv d else ds.any fun z=>z.eqv d))) μ
theorem LstOf.is {μ:Mu}{e:En}{ds:List PyData}{H:Hp}{v:V}(h:LstOf μ e ds) (M:RelM K μ H) (i:IsE K μ H v e):Is K H v (.list ds):=by
 obtain ⟨p,xs,rfl,h1,h2⟩:=h.get M i
 exact .lst h1 (IsAll.same yt h2)
theorem do_in (hu:X.A.units+66<cLine) (hK:X.K=K:=by rfl):OpR X (compareOp .In) (upR K (rdIn false)):=by
 subst hK
 refine (qiP hu).mono fun x y H Q h=>?_
 obtain ⟨μ,e,e',Q0,M,i1,i2,q,cl⟩:=h
 obtain ⟨d,ds,rfl,h1,h3,h4,q⟩:=q
 exact ⟨d,ds,Is.same yt i1,h1.is M i2,h3,h4,cl _ μ _ H q M (qU.refl _) (.bl _)⟩
end
section
variable {prog:Program}{w:World}{A:Around}{R:Result->Shared->Prop}{s:Shared}
abbrev two (elt t1 i1 t2 i2:Expr) (f1 f2:List Expr) (scope:Scope) (pos:Pos):Expr:=.ListComp elt [⟨t1,i1,f1,0⟩,⟨t2,i2,f2,0⟩] scope pos
theorem JR {elt t1 i1 t2 i2:Expr}{f1 f2:List Expr}{scope:Scope}{pos:Pos}{it acc:Value}{env:Env}
  (h0:codeAny (model prog w) A (.compLoop (two elt t1 i1 t2 i2 f1 f2 scope pos) 1 it acc env) R s)
  (h:wpAny (model prog w) A (pyIter it) (fun it' s'=>codeAny (model prog w) A (.compLoop (two elt t1 i1 t2 i2 f1 f2 scope pos) 1 it' acc env) R s') (notedBy (model prog w) A env fun x s'=>R (Except.error x) s') s) :
  codeAny (model prog w) A (.compStart (two elt t1 i1 t2 i2 f1 f2 scope pos) 1 it acc env) R s:=by
 refine codeAny_of_tree ?_
 refine wpAny_notedAt ?_
 refine qa (wpAny_askSetting (wpAny_ite ?_))
 split
 ·exact qa (qd (qd ⟨rfl,h0⟩))
 ·exact qa (jD (qa (wpAny_standAt (qa (qN h (fun it' s' h'=>qd ⟨rfl,h'⟩) fun _ _ z=>z)))))
theorem qgW {elt t1 i1 t2 i2:Expr}{f1 f2:List Expr}{scope:Scope}{pos:Pos}{it acc:Value}{env:Env}(I:Nat->Shared->Prop)
  (turn:∀ n s,I n s->wpAny (model prog w) A (pyNext it) (fun r s₁=>match r with
   | none=>R (.ok .next) s₁
   | some v=>wpAny (model prog w) A (letOwnedTupleGo t2 it v) (fun _ s₁'=>wpAny (model prog w) A (assign t2 env v) (fun _ s₂ =>
     wpAny (model prog w) A (forIn f2 true fun c r=>if r=true then do let ok <- isTrue c env (eval c env);pure (ForInStep.yield ok) else pure (ForInStep.yield r)) (fun ok s₃ =>
      if ok=true then wpAny (model prog w) A (eval elt env) (fun x s₄ =>
       wpAny (model prog w) A (call (.builtin "list.append") [acc,x]) (fun _ s₅=>∃ m,m<n/\I m s₅) (fun _ _=>False) s₄) (fun _ _=>False) s₃
      else ∃ m,m<n/\I m s₃) (fun _ _=>False) s₂) (fun _ _=>False) s₁') (fun _ _=>False) s₁) (fun _ _=>False) s)
  (n:Nat) (h:I n s):codeAny (model prog w) A (.compLoop (two elt t1 i1 t2 i2 f1 f2 scope pos) 1 it acc env) R s:=by
 refine codeAny_loop rfl I (fun n s hI=>?_) n h
 show wpAny _ A ((compTurn (two elt t1 i1 t2 i2 f1 f2 scope pos) 1 it acc env).onRaise (fun x=>do noteFrame x env;theTreesLotGoes x)) _ _ s
 refine wpAny_noted ?_
 show wpAny _ A (do
  standAt i2.pos
  let o <- pyNext it
  match o with
   | none=>pure (Fin.done Flow.next)
   | some v=>do
    letOwnedTupleGo t2 it v
    assign t2 env v
    let ok <- forIn f2 true fun c r=>if r=true then do let ok <- isTrue c env (eval c env);pure (ForInStep.yield ok) else pure (ForInStep.yield r)
    if ok=true then do
      let _ <- (do let x <- eval elt env;let _ <- call (.builtin "list.append") [acc,x];pure ())
      again (.compLoop (two elt t1 i1 t2 i2 f1 f2 scope pos) 1 it acc env)
     else again (.compLoop (two elt t1 i1 t2 i2 f1 f2 scope pos) 1 it acc env)) _ _ s
 refine qa (wpAny_standAt (qa (qN (turn n s hI) (fun r s₁ h₁=>?_) fun _ _ h'=>h'.elim)))
 cases r with
 | none=>exact qd h₁
 | some v =>
  refine qa (qN h₁ (fun _ s₁' h₁'=>?_) fun _ _ h'=>h'.elim)
  refine qa (qN h₁' (fun _ s₂ h₂=>qa (qN h₂ (fun ok s₃ h₃=>?_) fun _ _ h'=>h'.elim)) fun _ _ h'=>h'.elim)
  cases ok with
  | false=>exact qd ⟨rfl,h₃⟩
  | true =>
   exact qa (qa (qN h₃ (fun x s₄ h₄=>qa (qN h₄ (fun _ s₅ h₅=>qd (qd ⟨rfl,h₅⟩)) fun _ _ h'=>h'.elim)) fun _ _ h'=>h'.elim))
theorem qeP {elt t1 i1 t2 i2:Expr}{f1 f2:List Expr}{scope:Scope}{pos:Pos}{it acc:Value}{env:Env}(hs:∀ x,foldedSetIterable i2 env x=pure x) (I:Nat->Shared->Prop)
  (turn:∀ n s,I n s->wpAny (model prog w) A (pyNext it) (fun r s₁=>match r with
   | none=>R (.ok .next) s₁
   | some v=>wpAny (model prog w) A (letOwnedTupleGo t1 it v) (fun _ s₁'=>wpAny (model prog w) A (assign t1 env v) (fun _ s₂ =>
     wpAny (model prog w) A (forIn f1 true fun c r=>if r=true then do let ok <- isTrue c env (eval c env);pure (ForInStep.yield ok) else pure (ForInStep.yield r)) (fun ok s₃ =>
      if ok=true then wpAny (model prog w) A (eval i2 env) (fun x s₄ =>
       wpAny (model prog w) A (pyIter x) (fun it2 s₅=>codeAny (model prog w) A (.compStart (two elt t1 i1 t2 i2 f1 f2 scope pos) 1 it2 acc env) (fun r s₆=>r = .ok .next/\∃ m,m<n/\I m s₆) s₅) (fun _ _=>False) s₄) (fun _ _=>False) s₃
      else ∃ m,m<n/\I m s₃) (fun _ _=>False) s₂) (fun _ _=>False) s₁') (fun _ _=>False) s₁) (fun _ _=>False) s)
  (n:Nat) (h:I n s):codeAny (model prog w) A (.compLoop (two elt t1 i1 t2 i2 f1 f2 scope pos) 0 it acc env) R s:=by
 refine codeAny_loop rfl I (fun n s hI=>?_) n h
 show wpAny _ A ((compTurn (two elt t1 i1 t2 i2 f1 f2 scope pos) 0 it acc env).onRaise (fun x=>do noteFrame x env;theTreesLotGoes x)) _ _ s
 refine wpAny_noted ?_
 show wpAny _ A (do
  standAt i1.pos
  let o <- pyNext it
  match o with
   | none=>pure (Fin.done Flow.next)
   | some v=>do
    letOwnedTupleGo t1 it v
    assign t1 env v
    let ok <- forIn f1 true fun c r=>if r=true then do let ok <- isTrue c env (eval c env);pure (ForInStep.yield ok) else pure (ForInStep.yield r)
    if ok=true then do
      let x <- eval i2 env
      standAt i2.pos
      let x <- foldedSetIterable i2 env x
      let it2 <- holding [x] (pyIter x)
      let _ <- runOwn (.compStart (two elt t1 i1 t2 i2 f1 f2 scope pos) 1 it2 acc env) env
      again (.compLoop (two elt t1 i1 t2 i2 f1 f2 scope pos) 0 it acc env)
     else again (.compLoop (two elt t1 i1 t2 i2 f1 f2 scope pos) 0 it acc env)) _ _ s
 refine qa (wpAny_standAt (qa (qN (turn n s hI) (fun r s₁ h₁=>?_) fun _ _ h'=>h'.elim)))
 cases r with
 | none=>exact qd h₁
 | some v =>
  refine qa (qN h₁ (fun _ s₁' h₁'=>?_) fun _ _ h'=>h'.elim)
  refine qa (qN h₁' (fun _ s₂ h₂=>qa (qN h₂ (fun ok s₃ h₃=>?_) fun _ _ h'=>h'.elim)) fun _ _ h'=>h'.elim)
  cases ok with
  | false=>exact qd ⟨rfl,h₃⟩
  | true =>
   refine qa (qN h₃ (fun x s₄ h₄=>qa (wpAny_standAt ?_)) fun _ _ h'=>h'.elim)
   rw [hs]
   refine qa (qd (qa (yK (qN h₄ (fun it2 s₅ h₅=>?_) fun _ _ h'=>h'.elim))))
   refine qa (wpAny_runOwn (h:=none) (codeAny_mono h₅ fun r s₆ ⟨e,h₆⟩=>?_))
   subst e
   exact qd ⟨rfl,h₆⟩
end
def qcs (k:Nat) (g:TG) (tt:TT) (wi2:TI) (g2:TG) (tt2:TT) (te:TE) (σ:St) (Q:VK) (J:It) (H1:Hp):Prop:=∃ W:Nat->Nat->List V->St->Hp->Prop,(∃ m,W 0 m [] (σ++List.replicate k none) H1)/\∀ i m ys σ' H,W i m ys σ' H →
 (J.stop i H/\∀ D,H D=none->Q (.ref D) (upd H D (.lst ys))) ∨
 (J.go i H/\∃ N:List V->St->Hp->Prop,(∀ ys' σ' H',N ys' σ' H'->∃ m',m'<m/\W (i+1) m' ys' σ' H') ∧
  ∀ x H',J.yld i H x H'->g x σ' H' fun σ2 H2=>tt σ2 H2 fun b H3=>if b=true then wi2 σ2 H3 fun J2 H4 =>
   ∃ W2:Nat->Nat->List V->St->Hp->Prop,(∃ m,W2 0 m ys σ2 H4)/\∀ i m ys σ' H,W2 i m ys σ' H →
    (J2.stop i H/\N ys σ' H) ∨
    (J2.go i H/\ys.length<sizeLine/\∃ N2:List V->St->Hp->Prop,(∀ ys' σ' H',N2 ys' σ' H'->∃ m',m'<m/\W2 (i+1) m' ys' σ' H') ∧
     ∀ x H',J2.yld i H x H'->g2 x σ' H' fun σ2 H2=>tt2 σ2 H2 fun b H3=>if b=true then te σ2 H3 fun y H4=>N2 (ys++[y]) σ2 H4 else N2 ys σ2 H3)
   else N ys σ2 H3)
def qfr (k:Nat) (wi:TI) (g:TG) (tt:TT) (wi2:TI) (g2:TG) (tt2:TT) (te:TE):TE:=fun σ H Q=>wi σ H (qcs k g tt wi2 g2 tt2 te σ Q)
section
variable {X:Cx}
theorem qaS {pins:List (Addr×Obj)}{σ:St}{H:Hp}{s₂:Shared}{L:List Str}{scope:Scope}{cl:List (Str×Addr)}{fp:List Addr}{sc:Scope}{N:List Str}{tg elt iter tg2 iter2:Expr}{ifs ifs2:List Expr}{pos:Pos}
  {g:TG}{tt:TT}{wi2:TI}{g2:TG}{tt2:TT}{te:TE}{Q:VK}{J:It}{it:Addr}{tn:Nat->Heap->Prop}{RR:Value->Addr->Result->Shared->Prop}{E:Value->Shared->Prop}
  (hc:X.calm=true) (hsc:X.env.scope=sc) (hN:X.N=N) (ok:jz sc N L scope=true) (hc1:∀ x c,cl.lookup x=some c->X.env.cells.lookup x=some c)
  (hc2:∀ y∈scope.names,y.2 = .free->∃ c,cl.lookup y.1=some c)
  (hg:∀ cl C s₂ H₂ fp,PG (qD X L scope cl C s₂ H₂ fp) tg g) (hi:∀ cl C s₂ H₂ fp,Ifs (qD X L scope cl C s₂ H₂ fp) ifs tt) (hi2:∀ cl C s₂ H₂ fp,PI (qD X L scope cl C s₂ H₂ fp) tg2 iter2 wi2) (hg2:∀ cl C s₂ H₂ fp,PG (qD X L scope cl C s₂ H₂ fp) tg2 g2) (hf2:∀ cl C s₂ H₂ fp,Ifs (qD X L scope cl C s₂ H₂ fp) ifs2 tt2) (he:∀ cl C s₂ H₂ fp,PE (qD X L scope cl C s₂ H₂ fp) elt te)
  (hs2:∀ env x,foldedSetIterable iter2 env x=pure x)
  (I:Inv X pins σ H s₂) (T:Turn X.prog X.w X.K tg J fp it tn) (st:tn 0 s₂.heap) (hf:∀ b∈fp,qaV X pins H b) (hw:qcs L.length g tt wi2 g2 tt2 te σ Q J H)
  (hR:∀ D C m H' s' ys,s'.heap.Ns C m->s₂.heap.objs.size=D->s₂.heap.objs.size<C->H' C=none->D≠C->Inv X pins σ (upd H' D (.lst ys)) s'->Q (.ref D) (upd H' D (.lst ys))->RR (.ref D) C (.ok .next) s') :
  wpAny (model X.prog X.w) X.A (newList []) (fun acc s₃=>wpAny (model X.prog X.w) X.A (newFunctionEnv scope X.env.globals cl [] X.env.qual none .none (some X.env)) (fun cenv s₄ =>
   codeAny (model X.prog X.w) X.A (.compStart (two elt tg iter tg2 iter2 ifs ifs2 scope pos) 0 (.ref it) acc { cenv with scope:=relabel scope X.env }) (RR acc cenv.locals) s₄) E s₃) E s₂:=by
 refine qT (wpAny_newFunctionEnv (fun y hy=>(yM ok hy).1) (by intro y hy;simp at hy) (fun h₁ hns₁ hsb₁=>?_) (y8 ok))
 dsimp only at hns₁ hsb₁ ⊢
 generalize hH2:s₂.heap.push { cls:=.type "list",dict:=none,data:=.seq ([]:List Value).toArray }=H2 at hns₁ hsb₁ ⊢
 have hC:H2.objs.size=s₂.heap.objs.size+1:=by rw [<- hH2,yr]
 have hCle:s₂.heap.objs.size<=H2.objs.size:=by rw [hC];exact Nat.le_succ _
 have hDC:s₂.heap.objs.size≠H2.objs.size:=by rw [hC];exact qk (Nat.lt_succ_self _)
 have hlt:∀ b∈fp,b<s₂.heap.objs.size:=fun b hb=>by
  obtain ⟨o,e,_⟩:=T.obj 0 _ st b hb
  exact qh e
 have below:∀ b,b<s₂.heap.objs.size->b≠H2.objs.size:=fun b hb=>by rw [hC];exact qk (Nat.lt_succ_of_lt hb)
 have old:∀ b o,s₂.heap.get? b=some o->h₁.get? b=some o:=fun b o e=>hsb₁.extBut b o (below b (qh e)) (qb _ (hH2 ▸ qb _ e))
 have hacc:h₁.get? s₂.heap.objs.size=some { cls:=.type "list",data:=.seq ([]:List Value).toArray 0 }:=hsb₁.extBut _ _ hDC (qb _ (hH2 ▸ qr _ rfl))
 have Yok:=qdS (L:=L) (scope:=scope) (cl:=cl) (C:=H2.objs.size) (fp:=fp) I hsc hN ok hc1 hc2 hf hlt hCle
 generalize hDn:s₂.heap.objs.size=D at *
 generalize hCn:H2.objs.size=C at *
 have st₁:tn 0 h₁:=T.keep _ _ _ st fun b _ o e=>old b o e
 -- the block's own iterators
 have cellD:∀ x c,cl.lookup x=some c->c≠D:=fun x c e=>by
  obtain ⟨v,q⟩:=I.cell x c (hc1 x c e)
  rw [<- hDn]
  exact qk q.lt
 have fpY:∀ {H':Hp}{its:List Value}{n:Nat},(∀ b∈fp,H' b=none)->∀ b∈fp,qaV (qD X L scope cl C s₂ H fp) [(D,{ cls:=.type "list",data:=.seq its.toArray n })] H' b:=fun {H' its n} hn b hb=>by
  refine ⟨hn b hb,(Yok.exf b hb).1,Yok.exfs b hb,.inl hb,(Yok.exf b hb).2,fun p hp=>?_⟩
  have e:p=(D,{ cls:=.type "list",data:=.seq its.toArray n }):=by
   have:p∈[(D,({ cls:=.type "list",data:=.seq its.toArray n }:Obj))]:=hp
   simpa using this
  subst e
  exact Ne.symm (qk (hlt b hb))
 have nfsD:D∉(qD X L scope cl C s₂ H fp).fs:=fun z=>by
  obtain ⟨_,o,ho,_⟩:=Yok.funs.mem z
  exact absurd (show D<s₂.heap.objs.size from qh ho) (by rw [hDn];exact yN _)
 have pinD:∀ {σ':St}{H':Hp}{s':Shared}{pl:List (Addr×Obj)}{its:List Value}{n:Nat},Inv (qD X L scope cl C s₂ H fp) pl σ' H' s'->s'.heap.get? D=some { cls:=.type "list",data:=.seq its.toArray n }->H' D=none →
   Inv (qD X L scope cl C s₂ H fp) [(D,{ cls:=.type "list",data:=.seq its.toArray n })] σ' H' s':=fun {σ' H' s' pl its n} J e hn=>J.pins_of fun p hp=>by
  have e':p=(D,{ cls:=.type "list",data:=.seq its.toArray n }):=by simpa using hp
  subst e'
  exact ⟨e,hn,hDC,nfsD,fun v z=>by cases z⟩
 have I₁:Inv (qD X L scope cl C s₂ H fp) [] (σ++List.replicate L.length none) H { s₂ with heap:=h₁,toks:=s₂.toks+([]:List (Str×Value)).length } :=
  YV I hsc hN ok hc1 Yok (by rw [hDn];exact hCle) rfl I.bare old hns₁
 have HD:H D=none:=I.hok.fresh (by rw [hDn];exact qj _)
 obtain ⟨W,⟨m0,w0⟩,turn⟩:=hw
 have loop:codeAny (model X.prog X.w) X.A (.compLoop (two elt tg iter tg2 iter2 ifs ifs2 scope pos) 0 (.ref it) (.ref D) (compEnvC scope cl C X.env)) (RR (.ref D) C)
   { s₂ with heap:=h₁,toks:=s₂.toks+([]:List (Str×Value)).length }:=by
  refine qeP (hs2 _) (fun n s'=>∃ i ys its k σ' H',Inv (qD X L scope cl C s₂ H fp) [(D,{ cls:=.type "list",data:=.seq its.toArray k })] σ' H' s'/\yo ys its/\ys.length<=sizeLine/\tn i s'.heap/\(∀ b∈fp,H' b=none)/\W i n ys σ' H')
   ?_ m0 ⟨0,[],[],0,_,H,pinD I₁ hacc HD,.nil,qQ _,st₁,fun b hb=>(hf b hb).1,w0⟩
  rintro n s3 ⟨i,ys,its,k,σ3,H3,I3,hv3,hz3,st3,fr3,w3⟩
  have hp3:=I3.pin (D,{ cls:=.type "list",data:=.seq its.toArray k }) (by simp)
  rcases turn i n ys σ3 H3 w3 with ⟨stop,q⟩ | ⟨go,Nx,hNx,step⟩
  ·refine thn (T.done (qD X L scope cl C s₂ H fp) rfl rfl rfl hc i _ s3 σ3 H3 _ I3 (fpY fr3) st3 stop) fun r s4 ⟨hr,I4⟩=>?_
   subst hr
   have hp4:=I4.pin (D,{ cls:=.type "list",data:=.seq its.toArray k }) (by simp)
   obtain ⟨m4,hn4,_⟩:=I4.loc
   exact hR D C m4 H3 s4 ys hn4 rfl (by rw [hC];exact Nat.lt_succ_self _) I4.free hDC (Z9 I hf hDn I4 hp4.1 hp4.2.1 hv3 hz3) (q D hp4.2.1)
  ·refine thn (T.item (qD X L scope cl C s₂ H fp) rfl rfl rfl hc i _ s3 σ3 H3 _ I3 (fpY fr3) st3 go) fun r s4 ⟨u,hr,h4⟩=>?_
   subst hr
   refine thn h4 fun _ s5 hq9=>?_
   obtain ⟨x,H5,I5,r5,y5,st5,fr5⟩:=hq9
   have I5':=I5.pinned (fpY fr5) (T.obj _ _ st5)
   refine thn (hg cl C s₂ H fp _ s5 σ3 H5 x u _ I5' r5 (step x H5 y5)) fun _ s6 hq9=>?_
   obtain ⟨σ6,H6,I6,q6⟩:=hq9
   refine thn (hi cl C s₂ H fp _ s6 σ6 H6 _ I6 q6) fun ok s7 hq9=>?_
   obtain ⟨H7,I7,q7⟩:=hq9
   have later:∀ {σ':St}{H':Hp}{s':Shared},Inv (qD X L scope cl C s₂ H fp) ([(D,{ cls:=.type "list",data:=.seq its.toArray k })]++jS fp s5.heap) σ' H' s' →
     tn (i+1) s'.heap/\(∀ b∈fp,H' b=none)/\s'.heap.get? D=some { cls:=.type "list",data:=.seq its.toArray k }/\H' D=none:=fun {σ' H' s'} J=>by
    refine ⟨T.keep _ _ _ st5 fun b hb o e=>(J.pin (b,o) (qf _ (qf _ (yx hb e)))).1,fun b hb=>?_,?_⟩
    ·obtain ⟨o,e,d⟩:=T.obj _ _ st5 b hb
     exact (J.pin (b,o) (qf _ (qf _ (yx hb e)))).2.1
    ·have z:=J.pin (D,{ cls:=.type "list",data:=.seq its.toArray k }) (qf _ (qC _ (by simp)))
     exact ⟨z.1,z.2.1⟩
   cases ok with
   | false =>
    rw [if_neg (by simp)] at q7 ⊢
    obtain ⟨m',hm',w'⟩:=hNx _ _ _ q7
    obtain ⟨t1,t2,t3,t4⟩:=later I7
    exact ⟨m',hm',i+1,ys,its,k,σ6,H7,pinD I7 t3 t4,hv3,hz3,t1,t2,w'⟩
   | true =>
    rw [if_pos rfl] at q7 ⊢
    refine thn (hi2 cl C s₂ H fp _ s7 σ6 H7 _ I7 q7) fun v2 s8 h8=>thn h8 fun itv s9 h9=>?_
    obtain ⟨it2,fp2,tn2,J2,H9,e9,I9,T2,st9,f9,W2,⟨m2,w9⟩,turn2⟩:=h9
    subst e9
    have fp2Y:∀ {H':Hp}{its':List Value}{k':Nat},(∀ b∈fp2,H' b=none)->∀ b∈fp2,qaV (qD X L scope cl C s₂ H fp) ([(D,{ cls:=.type "list",data:=.seq its'.toArray k' })]++jS fp s5.heap) H' b:=fun {H' its' k'} hn b hb=>by
     obtain ⟨_,z1,z2,z3,z4,z5⟩:=f9 b hb
     refine ⟨hn b hb,z1,z2,z3,z4,fun p hp=>?_⟩
     rcases List.mem_append.mp hp with hp | hp
     ·exact z5 p (qC _ hp)
     ·rcases List.mem_append.mp hp with hp | hp
      ·have e:p=(D,{ cls:=.type "list",data:=.seq its'.toArray k' }):=by simpa using hp
       subst e
       exact z5 (D,{ cls:=.type "list",data:=.seq its.toArray k }) (qf _ (qC _ (by simp)))
      ·exact z5 p (qf _ (qf _ hp))
    have nbD:∀ b∈fp,b≠D:=fun b hb=>qk (hlt b hb)
    have outer:∀ {σ':St}{H':Hp}{s':Shared}{ys':List V}{its':List Value}{k':Nat}{pl:List (Addr×Obj)},Inv (qD X L scope cl C s₂ H fp) ([(D,{ cls:=.type "list",data:=.seq its'.toArray k' })]++jS fp s5.heap) σ' H' s'->yo ys' its'->ys'.length<=sizeLine->Nx ys' σ' H' →
      ∃ m',m'<n/\∃ i ys its k σ' H',Inv (qD X L scope cl C s₂ H fp) [(D,{ cls:=.type "list",data:=.seq its.toArray k })] σ' H' s'/\yo ys its/\ys.length<=sizeLine/\tn i s'.heap/\(∀ b∈fp,H' b=none)/\W i m' ys σ' H':=fun {σ' H' s' ys' its' k' pl} J hv hz nx=>by
     obtain ⟨m',hm',w'⟩:=hNx _ _ _ nx
     have z:=J.pin (D,{ cls:=.type "list",data:=.seq its'.toArray k' }) (qf _ (qC _ (by simp)))
     refine ⟨m',hm',i+1,ys',its',k',σ',H',pinD J z.1 z.2.1,hv,hz,?_,fun b hb=>?_,w'⟩
     ·exact T.keep _ _ _ st5 fun b hb o e=>(J.pin (b,o) (qf _ (qf _ (yx hb e)))).1
     ·obtain ⟨o,e,d⟩:=T.obj _ _ st5 b hb
      exact (J.pin (b,o) (qf _ (qf _ (yx hb e)))).2.1
    have loop2:codeAny (model X.prog X.w) X.A (.compLoop (two elt tg iter tg2 iter2 ifs ifs2 scope pos) 1 (.ref it2) (.ref D) (compEnvC scope cl C X.env)) (fun r s₆=>r = .ok .next/\∃ m',m'<n/\∃ i ys its k σ' H',Inv (qD X L scope cl C s₂ H fp) [(D,{ cls:=.type "list",data:=.seq its.toArray k })] σ' H' s₆/\yo ys its/\ys.length<=sizeLine/\tn i s₆.heap/\(∀ b∈fp,H' b=none)/\W i m' ys σ' H') s9:=by
     refine qgW (fun n2 s'=>∃ j ys2 its2 k2 σ' H',Inv (qD X L scope cl C s₂ H fp) ([(D,{ cls:=.type "list",data:=.seq its2.toArray k2 })]++jS fp s5.heap) σ' H' s'/\yo ys2 its2/\ys2.length<=sizeLine/\tn2 j s'.heap/\(∀ b∈fp2,H' b=none)/\W2 j n2 ys2 σ' H')
      ?_ m2 ⟨0,ys,its,k,σ6,H9,I9,hv3,hz3,st9,fun b hb=>(f9 b hb).1,w9⟩
     rintro n2 t3 ⟨j,ys2,its2,k2,ρ3,G3,I3',hv3',hz3',st3',fr3',w3'⟩
     rcases turn2 j n2 ys2 ρ3 G3 w3' with ⟨stop2,q2⟩ | ⟨go2,hlen2,N2,hN2,step2⟩
     ·refine thn (T2.done (qD X L scope cl C s₂ H fp) rfl rfl rfl hc j _ t3 ρ3 G3 _ I3' (fp2Y fr3') st3' stop2) fun r s4 ⟨hr,I4⟩=>?_
      subst hr
      exact ⟨rfl,outer (pl:=[]) I4 hv3' hz3' q2⟩
     ·refine thn (T2.item (qD X L scope cl C s₂ H fp) rfl rfl rfl hc j _ t3 ρ3 G3 _ I3' (fp2Y fr3') st3' go2) fun r s4 ⟨u,hr,h4⟩=>?_
      subst hr
      refine thn h4 fun _ t5 hq9=>?_
      obtain ⟨x,G5,J5,r5',y5',st5',fr5'⟩:=hq9
      have J5':=J5.pinned (fp2Y fr5') (T2.obj _ _ st5')
      refine thn (hg2 cl C s₂ H fp _ t5 ρ3 G5 x u _ J5' r5' (step2 x G5 y5')) fun _ t6 hq9=>?_
      obtain ⟨ρ6,G6,J6,q6'⟩:=hq9
      refine thn (hf2 cl C s₂ H fp _ t6 ρ6 G6 _ J6 q6') fun ok t7 hq9=>?_
      obtain ⟨G7,J7,q7'⟩:=hq9
      have later2:∀ {σ':St}{H':Hp}{s':Shared},Inv (qD X L scope cl C s₂ H fp) (([(D,{ cls:=.type "list",data:=.seq its2.toArray k2 })]++jS fp s5.heap)++jS fp2 t5.heap) σ' H' s' →
        tn2 (j+1) s'.heap/\(∀ b∈fp2,H' b=none)/\s'.heap.get? D=some { cls:=.type "list",data:=.seq its2.toArray k2 }/\H' D=none:=fun {σ' H' s'} J=>by
       refine ⟨T2.keep _ _ _ st5' fun b hb o e=>(J.pin (b,o) (qf _ (qf _ (yx hb e)))).1,fun b hb=>?_,?_⟩
       ·obtain ⟨o,e,d⟩:=T2.obj _ _ st5' b hb
        exact (J.pin (b,o) (qf _ (qf _ (yx hb e)))).2.1
       ·have z:=J.pin (D,{ cls:=.type "list",data:=.seq its2.toArray k2 }) (qf _ (qC _ (qC _ (by simp))))
        exact ⟨z.1,z.2.1⟩
      cases ok with
      | false =>
       rw [if_neg (by simp)] at q7' ⊢
       obtain ⟨m',hm',w'⟩:=hN2 _ _ _ q7'
       obtain ⟨t1,t2,t3,t4⟩:=later2 J7
       exact ⟨m',hm',j+1,ys2,its2,k2,ρ6,G7,J7.unpinned,hv3',hz3',t1,t2,w'⟩
      | true =>
       rw [if_pos rfl] at q7' ⊢
       refine thn (he cl C s₂ H fp _ t7 ρ6 G7 _ J7 q7') fun y t8 hq9=>?_
       obtain ⟨v,G8,J8,r8,q8⟩:=hq9
       obtain ⟨m',hm',w'⟩:=hN2 _ _ _ q8
       obtain ⟨t1,t2,t3,t4⟩:=later2 J8
       refine append_at (hsz:=by rw [List.size_toArray,<- hv3'.length];exact hz3') t3 fun h9 hs9 hD9=>?_
       have nb2D:∀ b∈fp2,b≠D:=fun b hb z=>(f9 b hb).2.2.2.2.2 (D,{ cls:=.type "list",data:=.seq its.toArray k }) (qf _ (qC _ (by simp))) z.symm
       have J9:Inv (qD X L scope cl C s₂ H fp) [] ρ6 G8 { t8 with heap:=h9 }:=(J8.pins_of (pins':=[]) (fun p hp=>by simp at hp)).turned (it:=D) (t':=t8.toks) (fun b o hb e=>hs9.extBut b o hb e) t4 hDC
        (.inr (by show s₂.heap.objs.size<=D;rw [hDn];exact qj _)) cellD (fun p hp=>by
         have:p∈([]:List (Addr×Obj)):=hp
         simp at this)
       have J9':Inv (qD X L scope cl C s₂ H fp) ([(D,{ cls:=.type "list",data:=.seq (its2++[y]).toArray (k2+1) })]++jS fp s5.heap) ρ6 G8 { t8 with heap:=h9 }:=J9.pins_of fun p hp=>by
        rcases List.mem_append.mp hp with hp | hp
        ·have e':p=(D,{ cls:=.type "list",data:=.seq (its2++[y]).toArray (k2+1) }):=by simpa using hp
         subst e'
         exact ⟨(by rw [hD9];simp),t4,hDC,nfsD,fun v z=>by cases z⟩
        ·have z:=J8.pin p (qf _ (qC _ (qf _ hp)))
         have hpD:p.1≠D:=by
          exact nbD p.1 (ZP hp).1
         exact ⟨hs9.extBut _ _ hpD z.1,z.2⟩
       refine ⟨m',hm',j+1,ys2++[v],its2++[y],k2+1,ρ6,G8,J9',hv3'.append (.cons r8 .nil),by simp;omega,T2.keep _ _ _ t1 fun b hb o e=>hs9.extBut b o (nb2D b hb) e,t2,w'⟩
    exact JR loop2 (T2.self _ 0 _ _ _ st9 loop2)
 exact codeAny_compStart_list loop (T.self _ 0 _ _ _ st₁ loop)
theorem qeI {L:List Str}{scope sc:Scope}{N:List Str}{tg elt iter tg2 iter2:Expr}{ifs ifs2:List Expr}{pos:Pos}{wi:TI}{g:TG}{tt:TT}{wi2:TI}{g2:TG}{tt2:TT}{te:TE}
  (hc:X.calm=true) (hsc:X.env.scope=sc) (hN:X.N=N) (ok:jz sc N L scope=true)
  (hi:PI X tg iter wi) (hg:∀ cl C s₂ H₂ fp,PG (qD X L scope cl C s₂ H₂ fp) tg g) (hf:∀ cl C s₂ H₂ fp,Ifs (qD X L scope cl C s₂ H₂ fp) ifs tt) (hi2:∀ cl C s₂ H₂ fp,PI (qD X L scope cl C s₂ H₂ fp) tg2 iter2 wi2) (hg2:∀ cl C s₂ H₂ fp,PG (qD X L scope cl C s₂ H₂ fp) tg2 g2) (hf2:∀ cl C s₂ H₂ fp,Ifs (qD X L scope cl C s₂ H₂ fp) ifs2 tt2) (he:∀ cl C s₂ H₂ fp,PE (qD X L scope cl C s₂ H₂ fp) elt te)
  (hs:∀ x,foldedSetIterable iter X.env x=pure x:=by intro _;rfl) (hs2:∀ env x,foldedSetIterable iter2 env x=pure x:=by intro _ _;rfl) :
  PE X (two elt tg iter tg2 iter2 ifs ifs2 scope pos) (qfr L.length wi g tt wi2 g2 tt2 te):=by
 intro pins s σ H Q I h
 obtain ⟨cl,hcl,hc1,hc2⟩:=JS (env:=X.env) (scope:=scope) fun y hy hfr=>by
  refine I.ok.has y.1 ?_
  have z:=(yM ok hy).2.2 hfr
  rw [<- hsc] at z
  exact z
 rw [eval_ListComp]
 refine wpAny_comprehension_free (use:=none) rfl hs hcl (y8 ok) (fun y hy hl=>((yM ok hy).2.1 hl).1) (thn (hi pins s σ H _ I h) fun v s1 h1=>thn h1 fun itv s2 h2=>?_)
 obtain ⟨it,fp,tn,J,H2,e,I2,T,st2,f2,hw⟩:=h2
 subst e
 refine qaS (RR:=fun acc C=>compPost (model X.prog X.w) X.A X.xe none (EP X pins σ Q) acc C) hc hsc hN ok hc1 hc2 hg hf hi2 hg2 hf2 he hs2 I2 T st2 f2 hw ?_
 intro D C m H' s' ys hns hD hC hHC hDC J' q
 refine ⟨m,hns,fun h'' hs''=>⟨.ref D,upd H' D (.lst ys),?_,rfl,q⟩⟩
 have hsz:=I2.sz
 refine J'.turned (it:=C) (t':=s'.toks) (fun b o hb e=>hs''.extBut b o hb e) (by rw [qP (Ne.symm hDC)];exact hHC) (Ne.symm (qk (y9 I2.lt hC))) (.inr (qJ hsz (yl hC))) (fun x c e=>?_) (fun p hp=>?_)
 ·obtain ⟨v,z⟩:=I2.cell x c e
  exact qk (y9 z.lt hC)
 ·exact qk (y9 (qh (I2.pin p hp).1) hC)
end
section
variable {X:Cx}{K:W.Frag}{tg iter tg2 iter2:Expr}{pos:Pos}
def qfX (k:Nat) (ti:TId) (g:TGd) (tt:TTd) (ti2:TId) (g2:TGd) (tt2:TTd) (te:TEd):TEd:=fun ρ μ Q=>ti ρ μ fun J μ1=>∃ Pv:Nat->List PyData->Rho->Mu->Prop,Pv 0 [] (ρ++List.replicate k none) μ1/\(∀ i ys ρ' μ',i<=J.n->Pv i ys ρ' μ'->J.ok μ') ∧
 (∀ i ys ρ' μ',i<J.n->Pv i ys ρ' μ'->g (J.item i) ρ' μ' fun ρ2 μ2=>tt ρ2 μ2 fun b μ3=>if b=true then ti2 ρ2 μ3 fun J2 μ4 =>
   ∃ Pv2:Nat->List PyData->Rho->Mu->Prop,Pv2 0 ys ρ2 μ4/\(∀ j ys ρ' μ',j<=J2.n->Pv2 j ys ρ' μ'->J2.ok μ'/\ys.length<4000) ∧
    (∀ j ys ρ' μ',j<J2.n->Pv2 j ys ρ' μ'->g2 (J2.item j) ρ' μ' fun ρ2 μ2=>tt2 ρ2 μ2 fun b μ3=>if b=true then te ρ2 μ3 fun y μ4=>∃ z,y = .d z/\Pv2 (j+1) (ys++[z]) ρ2 μ4 else Pv2 (j+1) ys ρ2 μ3) ∧
    ∀ ys ρ' μ',Pv2 J2.n ys ρ' μ'->Pv (i+1) ys ρ' μ'
  else Pv (i+1) ys ρ2 μ3) ∧
 ∀ ys ρ' μ',Pv J.n ys ρ' μ'->Fin1 Q ys μ'
theorem qeh {k:Nat}{ti:TId}{g:TGd}{tt:TTd}{ti2:TId}{g2:TGd}{tt2:TTd}{te:TEd}{σ:St}{H:Hp}{Q:VK}(h:up K (qfX k ti g tt ti2 g2 tt2 te) σ H Q):qfr k (upI K ti) (upG K g) (upT K tt) (upI K ti2) (upG K g2) (upT K tt2) (up K te) σ H Q:=by
 obtain ⟨ρ,μ,Q0,hS,hM,h,cl⟩:=h
 refine ⟨ρ,μ,_,hS,hM,h,fun J0 μ1 J H1 q M1 s1 sim=>?_⟩
 obtain ⟨Pv,h0,hok,hstep,hend⟩:=q
 have S0:RelS K (ρ++List.replicate k none) μ1 (σ++List.replicate k none) H1:=by
  have S1:=hS.same s1
  refine ⟨by simp [S1.len],fun i e he=>?_⟩
  by_cases hi:i<ρ.length
  ·rw [qI hi] at he
   rw [qI (by rw [<- S1.len];exact hi)]
   exact S1.get i e he
  ·rw [qO (by omega),List.getElem?_replicate] at he
   split at he <;> cases he
 refine ⟨fun i m ys σ' H'=>m=J0.n - i/\i<=J0.n/\∃ ds ρ' μ',RelS K ρ' μ' σ' H'/\RelM K μ' H'/\qU (mask μ1 H1) (mask μ' H')/\IsAll K (mask μ' H') ys ds/\Pv i ds ρ' μ',⟨_,rfl,qQ _,[],_,μ1,S0,M1,qU.refl _,.nil,h0⟩,?_⟩
 rintro i m ys σ' H' ⟨rfl,hi,ds,ρ',μ',S',M',s',hA,p⟩
 have sm:=sim μ' H' M' s' (hok i ds ρ' μ' hi p) i
 by_cases hlt:i<J0.n
 ·obtain ⟨hgo,hyl⟩:=sm.1 hlt
  refine .inr ⟨hgo,fun ys2 σ2 H2=>∃ ds ρ' μ',RelS K ρ' μ' σ2 H2/\RelM K μ' H2/\qU (mask μ1 H1) (mask μ' H2)/\IsAll K (mask μ' H2) ys2 ds/\Pv (i+1) ds ρ' μ',fun ys2 σ2 H2 z=>⟨J0.n - (i+1),by omega,rfl,hlt,z⟩,fun x H2 y=>?_⟩
  obtain ⟨M2,s2,i2⟩:=hyl x H2 y
  refine ⟨_,ρ',μ',_,i2,S'.same s2,M2,hstep i ds ρ' μ' hlt p,fun ρ3 μ3 σ3 H3 q3 S3 M3 s3=>⟨ρ3,μ3,_,S3,M3,q3,fun b μ4 H4 q4 M4 s4=>?_⟩⟩
  have st:=((s'.trans s2).trans s3).trans s4
  have hA4:=IsAll.same ((s2.trans s3).trans s4) hA
  cases b with
  | true =>
   refine qb6 ⟨ρ3,μ4,_,S3.same s4,M4,(by simpa using q4),fun K0 ν1 K1 G1 r N1 u1 sim2=>?_⟩
   obtain ⟨Pv2,g0,gok,gstep,gend⟩:=r
   refine ⟨fun j m ys σ' H'=>m=K0.n - j/\j<=K0.n/\∃ ds ρ' μ',RelS K ρ' μ' σ' H'/\RelM K μ' H'/\qU (mask ν1 G1) (mask μ' H')/\IsAll K (mask μ' H') ys ds/\Pv2 j ds ρ' μ',⟨_,rfl,qQ _,ds,ρ3,ν1,(S3.same s4).same u1,N1,qU.refl _,IsAll.same u1 hA4,g0⟩,?_⟩
   rintro j m zs σ' H' ⟨rfl,hj,es,ρ',μ',R',M',v',hB,p2⟩
   obtain ⟨ok2,len2⟩:=gok j es ρ' μ' hj p2
   have sm2:=sim2 μ' H' M' v' ok2 j
   have hle:=hB.len
   by_cases hlt2:j<K0.n
   ·obtain ⟨hgo2,hyl2⟩:=sm2.1 hlt2
    refine .inr ⟨hgo2,jc (by omega),fun ys2 σ2 H2=>∃ ds ρ' μ',RelS K ρ' μ' σ2 H2/\RelM K μ' H2/\qU (mask ν1 G1) (mask μ' H2)/\IsAll K (mask μ' H2) ys2 ds/\Pv2 (j+1) ds ρ' μ',fun ys2 σ2 H2 z=>⟨K0.n - (j+1),by omega,rfl,hlt2,z⟩,fun x H2 y=>?_⟩
    obtain ⟨M2,s2,i2⟩:=hyl2 x H2 y
    refine ⟨_,ρ',μ',_,i2,R'.same s2,M2,gstep j es ρ' μ' hlt2 p2,fun ρ3 μ3 σ3 H3 q3 S3 M3 s3=>⟨ρ3,μ3,_,S3,M3,q3,fun b μ4 H4 q4 M4 s4=>?_⟩⟩
    have st2:=((v'.trans s2).trans s3).trans s4
    cases b with
    | true =>
     refine qb6 ⟨ρ3,μ4,_,S3.same s4,M4,(by simpa using q4),fun e μ5 v H5 q5 M5 s5 i5=>?_⟩
     obtain ⟨z,rfl,q5⟩:=q5
     exact ⟨_,ρ3,μ5,(S3.same s4).same s5,M5,st2.trans s5,IsAll.snoc i5 (IsAll.same (((s2.trans s3).trans s4).trans s5) hB),q5⟩
    | false=>exact qbh ⟨_,ρ3,μ4,S3.same s4,M4,st2,IsAll.same ((s2.trans s3).trans s4) hB,by simpa using q4⟩
   ·have e:j=K0.n:=by omega
    subst e
    exact .inl ⟨sm2.2 (qj _),es,ρ',μ',R',M',(st.trans u1).trans v',hB,gend es ρ' μ' p2⟩
  | false=>exact qbh ⟨_,ρ3,μ4,S3.same s4,M4,st,hA4,by simpa using q4⟩
 ·have e:i=J0.n:=by omega
  subst e
  refine .inl ⟨sm.2 (qj _),fun D hD=>?_⟩
  obtain ⟨M4,s4,hn⟩:=M'.laid (o:=.lst ys) hD
  exact cl _ μ' _ _ (hend ds ρ' μ' p) M4 ((s1.trans s').trans s4) (.lst (SqL.of (by rw [yc hn];exact qV)) (IsAll.same s4 hA))
theorem qdP {L:List Str}{scope sc:Scope}{N:List Str}{elt:Expr}{ifs ifs2:List Expr}{ti:TId}{g:TGd}{tt:TTd}{ti2:TId}{g2:TGd}{tt2:TTd}{te:TEd}
  (hc:X.calm=true) (hsc:X.env.scope=sc) (hN:X.N=N) (ok:jz sc N L scope=true)
  (hi:DI K X tg iter ti) (hg:∀ cl C s₂ H₂ fp,DG K (qD X L scope cl C s₂ H₂ fp) tg g) (hf:∀ cl C s₂ H₂ fp,qhP K (qD X L scope cl C s₂ H₂ fp) ifs tt)
  (hi2:∀ cl C s₂ H₂ fp,DI K (qD X L scope cl C s₂ H₂ fp) tg2 iter2 ti2) (hg2:∀ cl C s₂ H₂ fp,DG K (qD X L scope cl C s₂ H₂ fp) tg2 g2) (hf2:∀ cl C s₂ H₂ fp,qhP K (qD X L scope cl C s₂ H₂ fp) ifs2 tt2)
  (he:∀ cl C s₂ H₂ fp,DE K (qD X L scope cl C s₂ H₂ fp) elt te)
  (hs:∀ x,foldedSetIterable iter X.env x=pure x:=by intro _;rfl) (hs2:∀ env x,foldedSetIterable iter2 env x=pure x:=by intro _ _;rfl) :
  DE K X (.ListComp elt [⟨tg,iter,ifs,0⟩,⟨tg2,iter2,ifs2,0⟩] scope pos) (qfX L.length ti g tt ti2 g2 tt2 te):=PE.mono (qeI hc hsc hN ok hi hg hf hi2 hg2 hf2 he hs hs2) fun _ _ _=>qeh
end
section
variable {X:Cx}{K:W.Frag}{tg:Expr}{pos:Pos}{es:List Expr}{tr:TAd}{te:TEd}
theorem qcI {μ:Mu}{H:Hp}:∀ {vs:List V}{as:List Addr},Paired (IsE K μ H) vs (as.map En.m)->vs=as.map V.ref
 | _,[],.nil=>rfl
 | _,a::as,.cons h t=>by
  have h:_=V.ref a:=h
  rw [h,qcI t]
  rfl
def dLstR (tr:TAd):TEd:=fun ρ μ Q=>tr ρ μ fun es μ1=>∃ as:List Addr,es=as.map En.m/\as.length<=4000/\∀ p,p∉μ1.map Prod.fst->Q (.m p) ((p,.refs as)::μ1)
theorem qjr (h:DA K X es tr):DE K X (.List es pos) (dLstR tr):=by
 refine PE.mono (qcY h) fun σ H Q hq9=>?_
 obtain ⟨ρ,μ,Q0,hS,hM,h,cl⟩:=hq9
 refine ⟨ρ,μ,_,hS,hM,h,fun es' μ1 vs H1 q M1 s1 i1=>?_⟩
 obtain ⟨as,rfl,hl,q⟩:=q
 have e:=qcI i1
 subst e
 refine ⟨yl (jc (by rw [List.length_map];exact hl)),fun p hp=>?_⟩
 obtain ⟨_,_,hn⟩:=M1.laid (o:=.lst (as.map V.ref)) hp
 obtain ⟨M2,s2⟩:=M1.new (u:=.lst (as.map V.ref)) (o:=.refs as) hp fun ss=>qV
 exact cl _ _ _ _ (q p hn) M2 (s1.trans s2) rfl
end
end L2
namespace L2
open PySem
abbrev P3:=Int×Int×Int
def spD (p:P3):PyData:=.tuple [.int p.1,.int p.2.1,.int p.2.2]
def ftD (n:P3) (c:Int):PyData:=.tuple [.int n.1,.int n.2.1,.int n.2.2,.int c]
def N3 (B:Nat) (p:P3):Prop:=p.1.natAbs<=B/\p.2.1.natAbs<=B/\p.2.2.natAbs<=B
def yh (q p:P3):P3:=(q.1 - p.1,q.2.1 - p.2.1,q.2.2 - p.2.2)
def yS (p q:P3):P3:=(p.2.1 * q.2.2 - p.2.2 * q.2.1,p.2.2 * q.1 - p.1 * q.2.2,p.1 * q.2.1 - p.2.1 * q.1)
def upr (p q r:P3):P3:=yS (yh q p) (yh r p)
def qA (n p:P3):Int:=n.1 * p.1+n.2.1 * p.2.1+n.2.2 * p.2.2
def Jw (n:P3):P3:=(-n.1,-n.2.1,-n.2.2)
def JY (n:P3):Nat:=Int.gcd (Int.gcd n.1 n.2.1:Nat) n.2.2
def dv3 (n:P3):Int:=if HT.lexLt [n.1,n.2.1,n.2.2] [0,0,0] then -(JY n:Int) else (JY n:Int)
def ld3 (n:P3):P3:=(n.1.fdiv (dv3 n),n.2.1.fdiv (dv3 n),n.2.2.fdiv (dv3 n))
def Ld (n:P3):Prop:=0<n.1\/(n.1=0/\(0<n.2.1\/(n.2.1=0/\0<n.2.2)))
def Z3:P3:=(0,0,0)
theorem ne3 {n:P3}(h:n≠Z3):n.1≠0\/n.2.1≠0\/n.2.2≠0:=by
 by_cases h1:n.1=0
 ·by_cases h2:n.2.1=0
  ·by_cases h3:n.2.2=0
   ·exact absurd (Prod.ext h1 (Prod.ext h2 h3)) h
   ·exact .inr (.inr h3)
  ·exact .inr (.inl h2)
 ·exact .inl h1
theorem qbn (n:P3):(JY n:Int) ∣ n.1:=Int.dvd_trans (Int.gcd_dvd_left ..) (Int.gcd_dvd_left ..)
theorem qbm (n:P3):(JY n:Int) ∣ n.2.1:=Int.dvd_trans (Int.gcd_dvd_left ..) (Int.gcd_dvd_right ..)
theorem qbl (n:P3):(JY n:Int) ∣ n.2.2:=Int.gcd_dvd_right ..
theorem Yd {n:P3}(h:n≠Z3):0<JY n:=by
 refine Int.gcd_pos_iff.mpr ?_
 rcases ne3 h with h | h | h
 ·left;have:=Int.gcd_pos_iff.mpr (show n.1≠0\/n.2.1≠0 from .inl h);omega
 ·left;have:=Int.gcd_pos_iff.mpr (show n.1≠0\/n.2.1≠0 from .inr h);omega
 ·exact .inr h
theorem qeW {n:P3}{d:Int}(h1:d ∣ n.1) (h2:d ∣ n.2.1) (h3:d ∣ n.2.2):d ∣ (JY n:Int):=by
 unfold JY
 exact Int.dvd_coe_gcd (Int.dvd_coe_gcd h1 h2) h3
theorem qaJ (n:P3):(dv3 n).natAbs=JY n:=by
 unfold dv3
 split <;> omega
theorem j5 {n:P3}(h:n≠Z3):dv3 n≠0:=by
 have:=Yd h
 have:=qaJ n
 omega
theorem JO {n:P3}{x:Int}(h:(JY n:Int) ∣ x):dv3 n ∣ x:=by
 unfold dv3
 split
 ·exact Int.neg_dvd.mpr h
 ·exact h
theorem Zi {d x:Int}(h0:d≠0) (h:d ∣ x):x=d * x.fdiv d:=by
 obtain ⟨c,rfl⟩:=h
 rw [Int.mul_fdiv_cancel_left _ h0]
theorem qaC {n:P3}(h:n≠Z3):n.1=dv3 n * (ld3 n).1/\n.2.1=dv3 n * (ld3 n).2.1/\n.2.2=dv3 n * (ld3 n).2.2 :=
 ⟨Zi (j5 h) (JO (qbn n)),Zi (j5 h) (JO (qbm n)),Zi (j5 h) (JO (qbl n))⟩
theorem qgY {n:P3}(h:n≠Z3):JY (ld3 n)=1:=by
 obtain ⟨e1,e2,e3⟩:=qaC h
 have hd:=j5 h
 have key:dv3 n * (JY (ld3 n):Int) ∣ (JY n:Int):=by
  refine qeW ?_ ?_ ?_
  ·rw [e1];exact Int.mul_dvd_mul_left _ (qbn _)
  ·rw [e2];exact Int.mul_dvd_mul_left _ (qbm _)
  ·rw [e3];exact Int.mul_dvd_mul_left _ (qbl _)
 have:=Int.natAbs_dvd_natAbs.mpr key
 rw [Int.natAbs_mul,qaJ,Int.natAbs_natCast,Int.natAbs_natCast] at this
 have g0:=Yd h
 have:JY n * JY (ld3 n) ∣ JY n * 1:=by rwa [Nat.mul_one]
 exact Nat.dvd_one.mp (Nat.dvd_of_mul_dvd_mul_left g0 this)
theorem lex3 (a b c:Int):HT.lexLt [a,b,c] [0,0,0]=true ↔ (a<0\/(a=0/\(b<0\/(b=0/\c<0)))):=by
 simp only [HT.lexLt]
 by_cases ha:a=0
 ·by_cases hb:b=0
  ·by_cases hc:c=0 <;> simp [ha,hb,hc]
  ·simp [ha,hb]
 ·simp [ha]
theorem jF {d x:Int}(hd:0<d) (h:0<d * x):0<x:=by
 by_cases hx:0<x
 ·exact hx
 ·have:=Int.mul_nonneg (Int.le_of_lt hd) (show 0 <= -x by omega)
  rw [Int.mul_neg] at this
  omega
theorem qi1 {n:P3}(h:n≠Z3):Ld (ld3 n):=by
 obtain ⟨e1,e2,e3⟩:=qaC h
 have g0:=Yd h
 have hd:=j5 h
 have z1:n.1=0->(ld3 n).1=0:=fun e=>by rw [e1] at e;rcases Int.mul_eq_zero.mp e with z | z;exact absurd z hd;exact z
 have z2:n.2.1=0->(ld3 n).2.1=0:=fun e=>by rw [e2] at e;rcases Int.mul_eq_zero.mp e with z | z;exact absurd z hd;exact z
 by_cases hl:HT.lexLt [n.1,n.2.1,n.2.2] [0,0,0]=true
 ·have ed:dv3 n = -(JY n:Int):=by unfold dv3;rw [if_pos hl]
  have sg:∀ x y:Int,x=dv3 n * y->x<0->0<y:=fun x y e hx=>by
   rw [ed] at e
   refine jF (d:=(JY n:Int)) (by omega) ?_
   rw [Int.neg_mul] at e
   omega
  rcases (lex3 _ _ _).mp hl with a | ⟨a,b | ⟨b,c⟩⟩
  ·exact .inl (sg _ _ e1 a)
  ·exact .inr ⟨z1 a,.inl (sg _ _ e2 b)⟩
  ·exact .inr ⟨z1 a,.inr ⟨z2 b,sg _ _ e3 c⟩⟩
 ·have ed:dv3 n=(JY n:Int):=by unfold dv3;rw [if_neg hl]
  have sg:∀ x y:Int,x=dv3 n * y->0<x->0<y:=fun x y e hx=>by
   rw [ed] at e
   exact jF (d:=(JY n:Int)) (by omega) (by omega)
  have hl':=mt (lex3 _ _ _).mpr hl
  have:=ne3 h
  by_cases a:n.1=0
  ·by_cases b:n.2.1=0
   ·exact .inr ⟨z1 a,.inr ⟨z2 b,sg _ _ e3 (by omega)⟩⟩
   ·exact .inr ⟨z1 a,.inl (sg _ _ e2 (by omega))⟩
  ·exact .inl (sg _ _ e1 (by omega))
theorem YY (p q r:P3):upr q p r=Jw (upr p q r):=by
 obtain ⟨a,b,c⟩:=p
 obtain ⟨d,e,f⟩:=q
 obtain ⟨g,h,i⟩:=r
 simp only [upr,yS,yh,Jw,Prod.mk.injEq]
 refine ⟨?_,?_,?_⟩ <;> grind
theorem qa2 (p q r:P3):qA (upr p q r) q=qA (upr p q r) p:=by
 obtain ⟨a,b,c⟩:=p
 obtain ⟨d,e,f⟩:=q
 obtain ⟨g,h,i⟩:=r
 simp only [upr,yS,yh,qA]
 grind
theorem qa1 (p q r:P3):qA (upr p q r) r=qA (upr p q r) p:=by
 obtain ⟨a,b,c⟩:=p
 obtain ⟨d,e,f⟩:=q
 obtain ⟨g,h,i⟩:=r
 simp only [upr,yS,yh,qA]
 grind
theorem Zp {n:P3}(h:n≠Z3) (p:P3):qA n p=dv3 n * qA (ld3 n) p:=by
 obtain ⟨e1,e2,e3⟩:=qaC h
 unfold qA
 generalize dv3 n=d at *
 generalize ld3 n=m at *
 rw [e1,e2,e3]
 grind
theorem qe3 {n:P3}(h:n≠Z3) {p q:P3}(e:qA n p=qA n q):qA (ld3 n) p=qA (ld3 n) q:=by
 rw [Zp h,Zp h] at e
 exact Int.eq_of_mul_eq_mul_left (j5 h) e
theorem qaD {n:P3}(h:n≠Z3) {B:Nat}(hb:N3 B n):N3 B (ld3 n) :=
 ⟨qJ (Zk (j5 h) (JO (qbn n))) hb.1,qJ (Zk (j5 h) (JO (qbm n))) hb.2.1,qJ (Zk (j5 h) (JO (qbl n))) hb.2.2⟩
theorem yG {a b:Int}{A B:Nat}(h1:a.natAbs<=A) (h2:b.natAbs<=B):(a * b).natAbs<=A * B:=by
 rw [Int.natAbs_mul];exact Nat.mul_le_mul h1 h2
theorem JD {a b:Int}{A B:Nat}(h1:a.natAbs<=A) (h2:b.natAbs<=B):(a - b).natAbs<=A+B:=by omega
theorem yD {A:Nat}{p q:P3}(h1:N3 A p) (h2:N3 A q):N3 (A+A) (yh q p):=⟨JD h2.1 h1.1,JD h2.2.1 h1.2.1,JD h2.2.2 h1.2.2⟩
theorem qfc {A:Nat}{p q:P3}(h1:N3 A p) (h2:N3 A q):N3 (A * A+A * A) (yS p q) :=
 ⟨JD (yG h1.2.1 h2.2.2) (yG h1.2.2 h2.2.1),JD (yG h1.2.2 h2.1) (yG h1.1 h2.2.2),JD (yG h1.1 h2.2.1) (yG h1.2.1 h2.1)⟩
theorem qcm {A:Nat}{p q r:P3}(h1:N3 A p) (h2:N3 A q) (h3:N3 A r):N3 ((A+A) * (A+A)+(A+A) * (A+A)) (upr p q r):=qfc (yD h1 h2) (yD h1 h3)
theorem qeX {B:Nat}{n:P3}(h:n≠Z3) (hb:N3 B n):JY n<=B:=by
 have g0:=Yd h
 obtain ⟨b1,b2,b3⟩:=hb
 rcases ne3 h with e | e | e
 ·exact qJ (Nat.le_of_dvd (by omega) (by simpa using Int.natAbs_dvd_natAbs.mpr (qbn n))) b1
 ·exact qJ (Nat.le_of_dvd (by omega) (by simpa using Int.natAbs_dvd_natAbs.mpr (qbm n))) b2
 ·exact qJ (Nat.le_of_dvd (by omega) (by simpa using Int.natAbs_dvd_natAbs.mpr (qbl n))) b3
end L2
namespace L2
open PySem
def jf (p q r x:P3):Int:=qA (upr p q r) x - qA (upr p q r) p
def HVf (f:P3->Int) (X:List P3):Prop:=2 * X.countP (fun x=>decide (f x<0))<=X.length/\2 * X.countP (fun x=>decide (0<f x))<=X.length
theorem qbF {X:List P3}{g:P3->Bool}{m:P3}(h:∀ x∈X,g x=true->x=m):X.countP g<=X.count m:=by
 unfold List.count
 exact List.countP_mono_left fun x hx hg=>by rw [h x hx hg];exact beq_self_eq_true m
theorem JA {g:P3->Bool}{m:P3}(h:g m=false):∀ X:List P3,X.countP g+X.count m<=X.length
 | []=>qj _
 | x::X=>by
  have ih:=JA h X
  simp only [List.countP_cons,List.count_cons,List.length_cons]
  by_cases hx:x=m
  ·subst hx
   rw [h,beq_self_eq_true]
   simp only [if_true]
   simp
   omega
  ·have:(x == m)=false:=by simpa using hx
   rw [this]
   split <;> simp <;> omega
theorem qbj {f:P3->Int}{X:List P3}{l m:P3}(h1:∀ x∈X,f x<0->x=l) (h2:∀ x∈X,0<f x->x=m) (hl:2 * X.count l<=X.length) (hm:2 * X.count m<=X.length):HVf f X:=by
 have a:=qbF (X:=X) (g:=fun x=>decide (f x<0)) (m:=l) fun x hx hg=>h1 x hx (qv hg)
 have b:=qbF (X:=X) (g:=fun x=>decide (0<f x)) (m:=m) fun x hx hg=>h2 x hx (qv hg)
 exact ⟨by omega,by omega⟩
theorem Zg {f:P3->Int}{X:List P3}{h:P3}(h0:f h=0) (hh:X.length<2 * X.count h):HVf f X:=by
 have a:=JA (g:=fun x=>decide (f x<0)) (m:=h) (by simp [h0]) X
 have b:=JA (g:=fun x=>decide (0<f x)) (m:=h) (by simp [h0]) X
 exact ⟨by omega,by omega⟩
theorem qds {f g:P3->Int}{X:List P3}(e:∀ x,g x = - f x) (h:HVf f X):HVf g X:=by
 have e1:(fun x=>decide (g x<0))=fun x=>decide (0<f x):=by funext x;rw [e x,decide_eq_decide];omega
 have e2:(fun x=>decide (0<g x))=fun x=>decide (f x<0):=by funext x;rw [e x,decide_eq_decide];omega
 unfold HVf
 rw [e1,e2]
 exact ⟨h.2,h.1⟩
theorem qbz (p q r:P3):jf p q r p=0:=by unfold jf;omega
theorem qby (p q r:P3):jf p q r q=0:=by unfold jf;rw [qa2];omega
theorem qbx (p q r:P3):jf p q r r=0:=by unfold jf;rw [qa1];omega
theorem Yt {p q r:P3}(h:upr p q r=Z3) (x:P3):jf p q r x=0:=by unfold jf;rw [h];simp [qA,Z3]
theorem qaP (p q r x:P3):jf q p r x = - jf p q r x:=by
 obtain ⟨a,b,c⟩:=p
 obtain ⟨d,e,f⟩:=q
 obtain ⟨g,h,i⟩:=r
 obtain ⟨j,k,l⟩:=x
 simp only [jf,upr,yS,yh,qA]
 grind
theorem qaO (p q r x:P3):jf p r q x = - jf p q r x:=by
 obtain ⟨a,b,c⟩:=p
 obtain ⟨d,e,f⟩:=q
 obtain ⟨g,h,i⟩:=r
 obtain ⟨j,k,l⟩:=x
 simp only [jf,upr,yS,yh,qA]
 grind
theorem qdN (p q r x:P3):jf p q x r = - jf p q r x:=by
 obtain ⟨a,b,c⟩:=p
 obtain ⟨d,e,f⟩:=q
 obtain ⟨g,h,i⟩:=r
 obtain ⟨j,k,l⟩:=x
 simp only [jf,upr,yS,yh,qA]
 grind
theorem YZ {p q r:P3}(h:upr p q r≠Z3):p≠q:=fun e=>h (by
 subst e;obtain ⟨a,b,c⟩:=p;obtain ⟨g,h,i⟩:=r;simp [upr,yS,yh,Z3])
theorem qa0 {p q r:P3}(h:upr p q r≠Z3):p≠r:=fun e=>h (by
 subst e;obtain ⟨a,b,c⟩:=p;obtain ⟨g,h,i⟩:=q;simp [upr,yS,yh,Z3])
theorem qef {p q r:P3}(h:upr p q r≠Z3):q≠r:=fun e=>h (by
 subst e;obtain ⟨a,b,c⟩:=p;obtain ⟨g,h,i⟩:=q;simp only [upr,yS,yh,Z3,Prod.mk.injEq];refine ⟨?_,?_,?_⟩ <;> grind)
def lam (p0 p1 p2 p3 p4:P3):Fin 5->Int
 | 0=>jf p1 p2 p3 p4
 | 1=>- jf p0 p2 p3 p4
 | 2=>jf p0 p1 p3 p4
 | 3=>- jf p0 p1 p2 p4
 | 4=>jf p0 p1 p2 p3
def pts (p0 p1 p2 p3 p4:P3):Fin 5->P3
 | 0=>p0
 | 1=>p1
 | 2=>p2
 | 3=>p3
 | 4=>p4
structure Geo (p:Fin 5->P3) (L:Fin 5->Int) (i j:Fin 5):Prop where
 h:∃ x y z:Fin 5,(∀ k,k=x\/k=y\/k=z\/k=i\/k=j)/\((jf (p x) (p y) (p z) (p i)=L j/\jf (p x) (p y) (p z) (p j) = - L i)\/(jf (p x) (p y) (p z) (p i) = - L j/\jf (p x) (p y) (p z) (p j)=L i))
theorem geo (p0 p1 p2 p3 p4:P3):∀ i j:Fin 5,i<j->Geo (pts p0 p1 p2 p3 p4) (lam p0 p1 p2 p3 p4) i j:=by
 have a12:=qaP
 have a23:=qaO
 have a34:=qdN
 have all5:∀ x y z i j:Fin 5,[x,y,z,i,j].Nodup->∀ k,k=x\/k=y\/k=z\/k=i\/k=j:=by decide
 intro i j h
 match i,j,h with
 | 0,1,_=>exact ⟨2,3,4,all5 _ _ _ _ _ (by decide),by simp only [pts,lam];rw [a34 p2 p3 p0 p4,a23 p2 p0 p3 p4,a12 p0 p2 p3 p4,a34 p2 p3 p1 p4,a23 p2 p1 p3 p4,a12 p1 p2 p3 p4];first | omega | exact .inr ⟨by omega,rfl⟩ | exact .inr ⟨rfl,by omega⟩ | exact .inl ⟨by omega,rfl⟩ | exact .inl ⟨rfl,by omega⟩ | (simp;done)⟩
 | 0,2,_=>exact ⟨1,3,4,all5 _ _ _ _ _ (by decide),by simp only [pts,lam];rw [a34 p1 p3 p0 p4,a23 p1 p0 p3 p4,a12 p0 p1 p3 p4,a34 p1 p3 p2 p4,a23 p1 p2 p3 p4];first | omega | exact .inr ⟨by omega,rfl⟩ | exact .inr ⟨rfl,by omega⟩ | exact .inl ⟨by omega,rfl⟩ | exact .inl ⟨rfl,by omega⟩ | (simp;done)⟩
 | 0,3,_=>exact ⟨1,2,4,all5 _ _ _ _ _ (by decide),by simp only [pts,lam];rw [a34 p1 p2 p0 p4,a23 p1 p0 p2 p4,a12 p0 p1 p2 p4,a34 p1 p2 p3 p4];first | omega | exact .inr ⟨by omega,rfl⟩ | exact .inr ⟨rfl,by omega⟩ | exact .inl ⟨by omega,rfl⟩ | exact .inl ⟨rfl,by omega⟩ | (simp;done)⟩
 | 0,4,_=>exact ⟨1,2,3,all5 _ _ _ _ _ (by decide),by simp only [pts,lam];rw [a34 p1 p2 p0 p3,a23 p1 p0 p2 p3,a12 p0 p1 p2 p3];first | omega | exact .inr ⟨by omega,rfl⟩ | exact .inr ⟨rfl,by omega⟩ | exact .inl ⟨by omega,rfl⟩ | exact .inl ⟨rfl,by omega⟩ | (simp;done)⟩
 | 1,2,_=>exact ⟨0,3,4,all5 _ _ _ _ _ (by decide),by simp only [pts,lam];rw [a34 p0 p3 p1 p4,a23 p0 p1 p3 p4,a34 p0 p3 p2 p4,a23 p0 p2 p3 p4];first | omega | exact .inr ⟨by omega,rfl⟩ | exact .inr ⟨rfl,by omega⟩ | exact .inl ⟨by omega,rfl⟩ | exact .inl ⟨rfl,by omega⟩ | (simp;done)⟩
 | 1,3,_=>exact ⟨0,2,4,all5 _ _ _ _ _ (by decide),by simp only [pts,lam];rw [a34 p0 p2 p1 p4,a23 p0 p1 p2 p4,a34 p0 p2 p3 p4];first | omega | exact .inr ⟨by omega,rfl⟩ | exact .inr ⟨rfl,by omega⟩ | exact .inl ⟨by omega,rfl⟩ | exact .inl ⟨rfl,by omega⟩ | (simp;done)⟩
 | 1,4,_=>exact ⟨0,2,3,all5 _ _ _ _ _ (by decide),by simp only [pts,lam];rw [a34 p0 p2 p1 p3,a23 p0 p1 p2 p3];first | omega | exact .inr ⟨by omega,rfl⟩ | exact .inr ⟨rfl,by omega⟩ | exact .inl ⟨by omega,rfl⟩ | exact .inl ⟨rfl,by omega⟩ | (simp;done)⟩
 | 2,3,_=>exact ⟨0,1,4,all5 _ _ _ _ _ (by decide),by simp only [pts,lam];rw [a34 p0 p1 p2 p4,a34 p0 p1 p3 p4];first | omega | exact .inr ⟨by omega,rfl⟩ | exact .inr ⟨rfl,by omega⟩ | exact .inl ⟨by omega,rfl⟩ | exact .inl ⟨rfl,by omega⟩ | (simp;done)⟩
 | 2,4,_=>exact ⟨0,1,3,all5 _ _ _ _ _ (by decide),by simp only [pts,lam];rw [a34 p0 p1 p2 p3];first | omega | exact .inr ⟨by omega,rfl⟩ | exact .inr ⟨rfl,by omega⟩ | exact .inl ⟨by omega,rfl⟩ | exact .inl ⟨rfl,by omega⟩ | (simp;done)⟩
 | 3,4,_=>exact ⟨0,1,2,all5 _ _ _ _ _ (by decide),by simp only [pts,lam];first | omega | exact .inr ⟨by omega,rfl⟩ | exact .inr ⟨rfl,by omega⟩ | exact .inl ⟨by omega,rfl⟩ | exact .inl ⟨rfl,by omega⟩ | (simp;done)⟩
 | 4,j,h=>exact absurd (show (4:Nat)<j.val from h) (by omega)
theorem geo2 (p0 p1 p2 p3 p4:P3) (i j:Fin 5) (h:i≠j):Geo (pts p0 p1 p2 p3 p4) (lam p0 p1 p2 p3 p4) i j:=by
 by_cases c:i<j
 ·exact geo _ _ _ _ _ i j c
 ·obtain ⟨x,y,z,h1,h2⟩:=(geo p0 p1 p2 p3 p4 j i (by omega)).h
  exact ⟨x,y,z,fun k=>by rcases h1 k with a | a | a | a | a <;> simp [a],by rcases h2 with ⟨a,b⟩ | ⟨a,b⟩ <;> omega⟩
def Hav (X:List P3) (x:P3):Prop:=X.length<2 * X.count x
theorem qg7 {X:List P3}{x y:P3}(hne:x≠y) (hx:Hav X x) (hy:Hav X y):False:=by
 have:=JA (g:=fun z=>z == x) (m:=y) (by simpa using fun e=>hne e.symm) X
 unfold Hav List.count at *
 omega
theorem YQ {n:Nat}(p:Fin (n+1)->P3) (inj:∀ i j,p i=p j->i=j) (X:List P3):∃ i,∀ j,j≠i->¬ Hav X (p j):=by
 by_cases h:∃ i,Hav X (p i)
 ·obtain ⟨i,hi⟩:=h
  exact ⟨i,fun j hj z=>qg7 (fun e=>hj (inj _ _ e)) z hi⟩
 ·exact ⟨0,fun j _ z=>h ⟨j,z⟩⟩
def Ok3 (pl:List P3) (Xs:List (List P3)):Prop:=∃ p q r,p∈pl/\q∈pl/\r∈pl/\upr p q r≠Z3/\∀ X∈Xs,HVf (jf p q r) X
set_option synthInstance.maxSize 100000 in
set_option synthInstance.maxHeartbeats 0 in
theorem fin5a:∀ a b c:Fin 5,(¬ ∀ i j k:Fin 5,¬ (i≠j/\i≠k/\j≠k/\(i≠a/\i≠b/\i≠c)/\(j≠a/\j≠b/\j≠c)/\(k≠a/\k≠b/\k≠c)))\/(a≠b/\a≠c/\b≠c/\¬ ∀ l m:Fin 5,¬ (l≠m/\(l≠a/\l≠b/\l≠c)/\(m≠a/\m≠b/\m≠c))):=by decide +kernel
theorem fin5 (a b c:Fin 5):(∃ i j k:Fin 5,i≠j/\i≠k/\j≠k/\(i≠a/\i≠b/\i≠c)/\(j≠a/\j≠b/\j≠c)/\(k≠a/\k≠b/\k≠c))\/(a≠b/\a≠c/\b≠c/\∃ l m:Fin 5,l≠m/\(l≠a/\l≠b/\l≠c)/\(m≠a/\m≠b/\m≠c)):=by
 rcases fin5a a b c with h | ⟨h1,h2,h3,h⟩
 ·left
  refine Classical.byContradiction fun n=>h fun i j k q=>n ⟨i,j,k,q⟩
 ·right
  exact ⟨h1,h2,h3,Classical.byContradiction fun n=>h fun l m q=>n ⟨l,m,q⟩⟩
theorem five {pl:List P3}{A B C:List P3}(p0 p1 p2 p3 p4:P3) (nd:[p0,p1,p2,p3,p4].Nodup) (hin:∀ x∈[p0,p1,p2,p3,p4],x∈pl) (hX:∀ X∈[A,B,C],∀ x∈X,x∈[p0,p1,p2,p3,p4]) (h0:∃ i,lam p0 p1 p2 p3 p4 i≠0):Ok3 pl [A,B,C]:=by
 have inj:∀ i j,pts p0 p1 p2 p3 p4 i=pts p0 p1 p2 p3 p4 j->i=j:=by
  simp only [List.nodup_cons,List.mem_cons,List.mem_nil_iff,not_or,or_false] at nd
  intro i j
  match i,j with
  | 0,0 | 1,1 | 2,2 | 3,3 | 4,4=>exact fun _=>rfl
  | 0,1=>exact fun e=>absurd e nd.1.1
  | 0,2=>exact fun e=>absurd e nd.1.2.1
  | 0,3=>exact fun e=>absurd e nd.1.2.2.1
  | 0,4=>exact fun e=>absurd e nd.1.2.2.2
  | 1,2=>exact fun e=>absurd e nd.2.1.1
  | 1,3=>exact fun e=>absurd e nd.2.1.2.1
  | 1,4=>exact fun e=>absurd e nd.2.1.2.2
  | 2,3=>exact fun e=>absurd e nd.2.2.1.1
  | 2,4=>exact fun e=>absurd e nd.2.2.1.2
  | 3,4=>exact fun e=>absurd e nd.2.2.2.1
  | 1,0=>exact fun e=>absurd e.symm nd.1.1
  | 2,0=>exact fun e=>absurd e.symm nd.1.2.1
  | 3,0=>exact fun e=>absurd e.symm nd.1.2.2.1
  | 4,0=>exact fun e=>absurd e.symm nd.1.2.2.2
  | 2,1=>exact fun e=>absurd e.symm nd.2.1.1
  | 3,1=>exact fun e=>absurd e.symm nd.2.1.2.1
  | 4,1=>exact fun e=>absurd e.symm nd.2.1.2.2
  | 3,2=>exact fun e=>absurd e.symm nd.2.2.1.1
  | 4,2=>exact fun e=>absurd e.symm nd.2.2.1.2
  | 4,3=>exact fun e=>absurd e.symm nd.2.2.2.1
 have hpl:∀ i,pts p0 p1 p2 p3 p4 i∈pl:=fun i=>by
  match i with
  | 0=>exact hin p0 (by simp)
  | 1=>exact hin p1 (by simp)
  | 2=>exact hin p2 (by simp)
  | 3=>exact hin p3 (by simp)
  | 4=>exact hin p4 (by simp)
 have hX':∀ X∈[A,B,C],∀ x∈X,∃ i,x=pts p0 p1 p2 p3 p4 i:=fun X hX0 x hx=>by
  have:=hX X hX0 x hx
  simp only [List.mem_cons,List.mem_nil_iff,or_false] at this
  rcases this with e | e | e | e | e
  ·exact ⟨0,e⟩
  ·exact ⟨1,e⟩
  ·exact ⟨2,e⟩
  ·exact ⟨3,e⟩
  ·exact ⟨4,e⟩
 have hg:=geo2 p0 p1 p2 p3 p4
 generalize pts p0 p1 p2 p3 p4=p at *
 generalize lam p0 p1 p2 p3 p4=L at *
 have oneZero:∀ i j,i≠j->L i≠0->L j=0->(∀ X∈[A,B,C],¬ Hav X (p j))->Ok3 pl [A,B,C]:=fun i j hij hi hj hv=>by
  obtain ⟨x,y,z,h1,h2⟩:=(hg i j hij).h
  refine ⟨p x,p y,p z,hpl _,hpl _,hpl _,fun e=>?_,fun X hX0=>?_⟩
  ·rw [Yt e,Yt e] at h2;omega
  ·have off:∀ s∈X,jf (p x) (p y) (p z) s≠0->s=p j:=fun s hs hd=>by
    obtain ⟨k,rfl⟩:=hX' X hX0 s hs
    rcases h1 k with e | e | e | e | e <;> subst e
    ·exact absurd (qbz ..) hd
    ·exact absurd (qby ..) hd
    ·exact absurd (qbx ..) hd
    ·omega
    ·rfl
   have:=hv X hX0
   unfold Hav at this
   exact qbj (fun s hs h=>off s hs (by omega)) (fun s hs h=>off s hs (by omega)) (by omega) (by omega)
 have same:∀ i j,i≠j->L i * L j > 0->(∀ X∈[A,B,C],¬ Hav X (p i))->(∀ X∈[A,B,C],¬ Hav X (p j))->Ok3 pl [A,B,C]:=fun i j hij hs hvi hvj=>by
  obtain ⟨x,y,z,h1,h2⟩:=(hg i j hij).h
  have hs2:(0<L i/\0<L j)\/(L i<0/\L j<0):=by
   rcases yb (L i) 0 with a | a | a
   ·right;refine ⟨a,?_⟩
    by_cases c:L j<0
    ·exact c
    ·have:=Int.mul_nonneg (show 0 <= - L i by omega) (show 0<=L j by omega)
     rw [Int.neg_mul] at this;omega
   ·rw [a] at hs;simp at hs
   ·left;refine ⟨a,?_⟩
    by_cases c:0<L j
    ·exact c
    ·have:=Int.mul_nonneg (show 0<=L i by omega) (show 0 <= - L j by omega)
     rw [Int.mul_neg] at this;omega
  refine ⟨p x,p y,p z,hpl _,hpl _,hpl _,fun e=>?_,fun X hX0=>?_⟩
  ·rw [Yt e,Yt e] at h2;omega
  ·have off:∀ s∈X,jf (p x) (p y) (p z) s≠0->s=p i\/s=p j:=fun s hs hd=>by
    obtain ⟨k,rfl⟩:=hX' X hX0 s hs
    rcases h1 k with e | e | e | e | e <;> subst e
    ·exact absurd (qbz ..) hd
    ·exact absurd (qby ..) hd
    ·exact absurd (qbx ..) hd
    ·exact .inl rfl
    ·exact .inr rfl
   have w1:=hvi X hX0
   have w2:=hvj X hX0
   unfold Hav at w1 w2
   by_cases c:jf (p x) (p y) (p z) (p i)<0
   ·refine qbj (l:=p i) (m:=p j) (fun s hs h=>?_) (fun s hs h=>?_) (by omega) (by omega)
    ·rcases off s hs (by omega) with e | e
     ·exact e
     ·subst e;omega
    ·rcases off s hs (by omega) with e | e
     ·subst e;omega
     ·exact e
   ·refine qbj (l:=p j) (m:=p i) (fun s hs h=>?_) (fun s hs h=>?_) (by omega) (by omega)
    ·rcases off s hs (by omega) with e | e
     ·subst e;omega
     ·exact e
    ·rcases off s hs (by omega) with e | e
     ·exact e
     ·subst e;omega
 obtain ⟨a,ha⟩:=YQ p inj A
 obtain ⟨b,hb⟩:=YQ p inj B
 obtain ⟨c,hc⟩:=YQ p inj C
 have av:∀ j,(j≠a/\j≠b/\j≠c)->∀ X∈[A,B,C],¬ Hav X (p j):=fun j hj X hX0=>by
  simp only [List.mem_cons,List.mem_nil_iff,or_false] at hX0
  rcases hX0 with rfl | rfl | rfl
  ·exact ha j hj.1
  ·exact hb j hj.2.1
  ·exact hc j hj.2.2
 have zero:∀ j,(∀ X∈[A,B,C],¬ Hav X (p j))->L j=0->Ok3 pl [A,B,C]:=fun j hv hj=>by
  obtain ⟨i,hi⟩:=h0
  exact oneZero i j (fun e=>hi (e ▸ hj)) hi hj hv
 have sgm:∀ x y:Int,(0<x/\0<y)\/(x<0/\y<0)->x * y > 0:=fun x y h=>by
  rcases h with ⟨h1,h2⟩ | ⟨h1,h2⟩
  ·exact Int.mul_pos h1 h2
  ·exact Int.mul_pos_of_neg_of_neg h1 h2
 have three:∀ i j k,i≠j->i≠k->j≠k->(∀ X∈[A,B,C],¬ Hav X (p i))->(∀ X∈[A,B,C],¬ Hav X (p j))->(∀ X∈[A,B,C],¬ Hav X (p k))->Ok3 pl [A,B,C]:=fun i j k n1 n2 n3 v1 v2 v3=>by
  by_cases z1:L i=0
  ·exact zero i v1 z1
  by_cases z2:L j=0
  ·exact zero j v2 z2
  by_cases z3:L k=0
  ·exact zero k v3 z3
  by_cases s1:(0<L i/\0<L j)\/(L i<0/\L j<0)
  ·exact same i j n1 (sgm _ _ s1) v1 v2
  by_cases s2:(0<L i/\0<L k)\/(L i<0/\L k<0)
  ·exact same i k n2 (sgm _ _ s2) v1 v3
  ·exact same j k n3 (sgm _ _ (by omega)) v2 v3
 rcases fin5 a b c with ⟨i,j,k,n1,n2,n3,v1,v2,v3⟩ | ⟨nab,nac,nbc,l,m,nlm,vl,vm⟩
 ·exact three i j k n1 n2 n3 (av i v1) (av j v2) (av k v3)
 ·have hl:=av l vl
  have hm:=av m vm
  by_cases wa:Hav A (p a)
  ·by_cases wb:Hav B (p b)
   ·by_cases wc:Hav C (p c)
    ·by_cases zl:L l=0
     ·exact zero l hl zl
     obtain ⟨x,y,z,h1,h2⟩:=(hg l m nlm).h
     have on:∀ k,k≠l->k≠m->jf (p x) (p y) (p z) (p k)=0:=fun k k1 k2=>by
      rcases h1 k with e | e | e | e | e
      ·subst e;exact qbz ..
      ·subst e;exact qby ..
      ·subst e;exact qbx ..
      ·exact absurd e k1
      ·exact absurd e k2
     refine ⟨p x,p y,p z,hpl _,hpl _,hpl _,fun e=>?_,fun X hX0=>?_⟩
     ·rw [Yt e,Yt e] at h2;omega
     ·simp only [List.mem_cons,List.mem_nil_iff,or_false] at hX0
      rcases hX0 with rfl | rfl | rfl
      ·exact Zg (on a (fun e=>vl.1 e.symm) fun e=>vm.1 e.symm) wa
      ·exact Zg (on b (fun e=>vl.2.1 e.symm) fun e=>vm.2.1 e.symm) wb
      ·exact Zg (on c (fun e=>vl.2.2 e.symm) fun e=>vm.2.2 e.symm) wc
    ·refine three l m c nlm vl.2.2 vm.2.2 hl hm fun X hX0=>?_
     simp only [List.mem_cons,List.mem_nil_iff,or_false] at hX0
     rcases hX0 with rfl | rfl | rfl
     ·exact ha c (fun e=>nac e.symm)
     ·exact hb c (fun e=>nbc e.symm)
     ·exact wc
   ·refine three l m b nlm vl.2.1 vm.2.1 hl hm fun X hX0=>?_
    simp only [List.mem_cons,List.mem_nil_iff,or_false] at hX0
    rcases hX0 with rfl | rfl | rfl
    ·exact ha b (fun e=>nab e.symm)
    ·exact wb
    ·exact hc b nbc
  ·refine three l m a nlm vl.1 vm.1 hl hm fun X hX0=>?_
   simp only [List.mem_cons,List.mem_nil_iff,or_false] at hX0
   rcases hX0 with rfl | rfl | rfl
   ·exact wa
   ·exact hb a nab
   ·exact hc a nac
def qhK (p0 p1 p2 p3:P3):Fin 4->P3
 | 0=>p0
 | 1=>p1
 | 2=>p2
 | 3=>p3
theorem fin4a:∀ a b c:Fin 4,¬ ∀ j:Fin 4,¬ (j≠a/\j≠b/\j≠c):=by decide
theorem qj3 {pl:List P3}{A B C:List P3}(p0 p1 p2 p3:P3) (nd:[p0,p1,p2,p3].Nodup) (hin:∀ x∈[p0,p1,p2,p3],x∈pl) (hX:∀ X∈[A,B,C],∀ x∈X,x∈[p0,p1,p2,p3]) (h0:jf p0 p1 p2 p3≠0):Ok3 pl [A,B,C]:=by
 have inj:∀ i j,qhK p0 p1 p2 p3 i=qhK p0 p1 p2 p3 j->i=j:=by
  simp only [List.nodup_cons,List.mem_cons,List.mem_nil_iff,not_or,or_false] at nd
  intro i j
  match i,j with
  | 0,0 | 1,1 | 2,2 | 3,3=>exact fun _=>rfl
  | 0,1=>exact fun e=>absurd e nd.1.1
  | 0,2=>exact fun e=>absurd e nd.1.2.1
  | 0,3=>exact fun e=>absurd e nd.1.2.2
  | 1,2=>exact fun e=>absurd e nd.2.1.1
  | 1,3=>exact fun e=>absurd e nd.2.1.2
  | 2,3=>exact fun e=>absurd e nd.2.2.1
  | 1,0=>exact fun e=>absurd e.symm nd.1.1
  | 2,0=>exact fun e=>absurd e.symm nd.1.2.1
  | 3,0=>exact fun e=>absurd e.symm nd.1.2.2
  | 2,1=>exact fun e=>absurd e.symm nd.2.1.1
  | 3,1=>exact fun e=>absurd e.symm nd.2.1.2
  | 3,2=>exact fun e=>absurd e.symm nd.2.2.1
 have one:∀ x y z j:P3,x∈[p0,p1,p2,p3]->y∈[p0,p1,p2,p3]->z∈[p0,p1,p2,p3]->(∀ s∈[p0,p1,p2,p3],s=x\/s=y\/s=z\/s=j)->jf x y z j≠0->(∀ X∈[A,B,C],¬ Hav X j)->Ok3 pl [A,B,C]:=fun x y z j hx hy hz h1 h2 hv=>by
  refine ⟨x,y,z,hin _ hx,hin _ hy,hin _ hz,fun e=>h2 (Yt e _),fun X hX0=>?_⟩
  have off:∀ s∈X,jf x y z s≠0->s=j:=fun s hs hd=>by
   rcases h1 s (hX X hX0 s hs) with e | e | e | e
   ·subst e;exact absurd (qbz ..) hd
   ·subst e;exact absurd (qby ..) hd
   ·subst e;exact absurd (qbx ..) hd
   ·exact e
  have:=hv X hX0
  unfold Hav at this
  exact qbj (fun s hs h=>off s hs (by omega)) (fun s hs h=>off s hs (by omega)) (by omega) (by omega)
 obtain ⟨a,ha⟩:=YQ (qhK p0 p1 p2 p3) inj A
 obtain ⟨b,hb⟩:=YQ (qhK p0 p1 p2 p3) inj B
 obtain ⟨c,hc⟩:=YQ (qhK p0 p1 p2 p3) inj C
 obtain ⟨j,hj⟩:∃ j:Fin 4,j≠a/\j≠b/\j≠c:=Classical.byContradiction fun n=>fin4a a b c fun j q=>n ⟨j,q⟩
 have av:∀ X∈[A,B,C],¬ Hav X (qhK p0 p1 p2 p3 j):=fun X hX0=>by
  simp only [List.mem_cons,List.mem_nil_iff,or_false] at hX0
  rcases hX0 with rfl | rfl | rfl
  ·exact ha j hj.1
  ·exact hb j hj.2.1
  ·exact hc j hj.2.2
 have a12:=qaP
 have a23:=qaO
 have a34:=qdN
 match j,av with
 | 3,av=>exact one p0 p1 p2 p3 (by simp) (by simp) (by simp) (fun s hs=>by simpa using hs) h0 av
 | 2,av=>exact one p0 p1 p3 p2 (by simp) (by simp) (by simp) (fun s hs=>by simp at hs;rcases hs with h | h | h | h <;> simp [h]) (by rw [a34];omega) av
 | 1,av=>exact one p0 p2 p3 p1 (by simp) (by simp) (by simp) (fun s hs=>by simp at hs;rcases hs with h | h | h | h <;> simp [h]) (by rw [a34 p0 p2 p1 p3,a23 p0 p1 p2 p3];omega) av
 | 0,av=>exact one p1 p2 p3 p0 (by simp) (by simp) (by simp) (fun s hs=>by simp at hs;rcases hs with h | h | h | h <;> simp [h]) (by rw [a34 p1 p2 p0 p3,a23 p1 p0 p2 p3,a12 p0 p1 p2 p3];omega) av
end L2
namespace L2
open PySem
def xs (f:Nat->Bool):Nat->Bool
 | 0=>false
 | n+1=>xor (xs f n) (f n)
theorem ZA (f g:Nat->Bool):∀ n,xs (fun i=>xor (f i) (g i)) n=xor (xs f n) (xs g n)
 | 0=>rfl
 | n+1=>by
  simp only [xs,ZA f g n]
  cases xs f n <;> cases xs g n <;> cases f n <;> cases g n <;> rfl
theorem ZB (f:Nat->Bool):∀ n,xs (fun i=>xor (f i) (f (i+1))) n=xor (f 0) (f n)
 | 0=>by simp [xs]
 | n+1=>by
  simp only [xs,ZB f n]
  cases f 0 <;> cases f n <;> cases f (n+1) <;> rfl
theorem Je {f g:Nat->Bool}:∀ {n},(∀ i,i<n->f i=g i)->xs f n=xs g n
 | 0,_=>rfl
 | n+1,h=>by
  simp only [xs,Je fun i hi=>h i (Nat.lt_succ_of_lt hi),h n (Nat.lt_succ_self n)]
theorem qaX (f:Nat->Bool):∀ n,xs f (n+1)=xor (f 0) (xs (fun i=>f (i+1)) n)
 | 0=>by simp [xs]
 | n+1=>by
  have:=qaX f n
  simp only [xs] at this ⊢
  rw [this]
  cases f 0 <;> cases xs (fun i=>f (i+1)) n <;> cases f (n+1) <;> rfl
theorem qca (f:Nat->Bool):∀ n,xs (fun i=>f (n - 1 - i)) n=xs f n
 | 0=>rfl
 | n+1=>by
  rw [qaX]
  have e:xs (fun i=>f (n+1 - 1 - (i+1))) n=xs (fun i=>f (n - 1 - i)) n:=Je fun i hi=>by
   congr 1
   omega
  rw [e,qca f n]
  simp only [xs,Nat.add_sub_cancel,Nat.sub_zero]
  cases f n <;> cases xs f n <;> rfl
theorem grid {M:Nat}(s t:Nat->Nat->Bool) (bx:∀ x,x<=M->s (M - x) M=!s x 0/\t (M - x) M=!t x 0) (by_:∀ y,y<=M->s M (M - y)=!s 0 y/\t M (M - y)=!t 0 y) :
  ∃ x y,x<M/\y<M/\¬ (s x y=s (x+1) y/\s x y=s x (y+1)/\s x y=s (x+1) (y+1))/\¬ (t x y=t (x+1) y/\t x y=t x (y+1)/\t x y=t (x+1) (y+1)):=by
 refine Classical.byContradiction fun hn=>?_
 have cell:∀ x y,x<M->y<M->(s x y=s (x+1) y/\s x y=s x (y+1)/\s x y=s (x+1) (y+1))\/(t x y=t (x+1) y/\t x y=t x (y+1)/\t x y=t (x+1) (y+1)):=fun x y hx hy=>by
  refine Classical.byContradiction fun z=>hn ⟨x,y,hx,hy,fun a=>z (.inl a),fun a=>z (.inr a)⟩
 let H:Nat->Nat->Bool:=fun x y=>(xor (s x y) (s (x+1) y)) && t x y
 let V:Nat->Nat->Bool:=fun x y=>(xor (s x y) (s x (y+1))) && t x y
 have sq:∀ x y,x<M->y<M->xor (H x y) (H x (y+1))=xor (V x y) (V (x+1) y):=fun x y hx hy=>by
  show xor ((xor (s x y) (s (x+1) y)) && t x y) ((xor (s x (y+1)) (s (x+1) (y+1))) && t x (y+1))=xor ((xor (s x y) (s x (y+1))) && t x y) ((xor (s (x+1) y) (s (x+1) (y+1))) && t (x+1) y)
  rcases cell x y hx hy with ⟨a,b,c⟩ | ⟨a,b,c⟩
  ·rw [<- a,<- b,<- c];simp
  ·rw [<- a,<- b]
   cases s x y <;> cases s (x+1) y <;> cases s x (y+1) <;> cases s (x+1) (y+1) <;> cases t x y <;> rfl
 have row:∀ y,y<M->xor (xs (fun x=>H x y) M) (xs (fun x=>H x (y+1)) M)=xor (V 0 y) (V M y):=fun y hy=>by
  rw [<- ZA,Je (g:=fun x=>xor (V x y) (V (x+1) y)) fun x hx=>sq x y hx hy]
  exact ZB (fun x=>V x y) M
 have all:xor (xs (fun x=>H x 0) M) (xs (fun x=>H x M) M)=xor (xs (fun y=>V 0 y) M) (xs (fun y=>V M y) M):=by
  refine ((ZB (fun y=>xs (fun x=>H x y) M) M).symm.trans ?_).trans (ZA (fun y=>V 0 y) (fun y=>V M y) M)
  exact Je fun y hy=>row y hy
 have eH:xor (xs (fun x=>H x 0) M) (xs (fun x=>H x M) M)=xor (s 0 0) (s M 0):=by
  rw [<- qca (fun x=>H x M)]
  refine (ZA (fun x=>H x 0) (fun x=>H (M - 1 - x) M) M).symm.trans ((Je fun x hx=>?_).trans (ZB (fun x=>s x 0) M))
  obtain ⟨a1,a2⟩:=bx x (yl hx)
  obtain ⟨b1,b2⟩:=bx (x+1) hx
  have e1:M - 1 - x=M - (x+1):=by omega
  have e2:M - 1 - x+1=M - x:=by omega
  show xor ((xor (s x 0) (s (x+1) 0)) && t x 0) ((xor (s (M - 1 - x) M) (s (M - 1 - x+1) M)) && t (M - 1 - x) M)=xor (s x 0) (s (x+1) 0)
  rw [e2,e1,a1,b1,b2]
  -- where s changes,t is one and the same at both ends
  by_cases hM:0<M
  ·by_cases hs:s x 0=s (x+1) 0
   ·rw [hs];simp
   ·have ht:t x 0=t (x+1) 0:=by
     rcases cell x 0 hx hM with ⟨a,_⟩ | ⟨a,_⟩
     ·exact absurd a hs
     ·exact a
    rw [ht]
    cases s x 0 <;> cases s (x+1) 0 <;> cases t (x+1) 0 <;> simp at hs ⊢
  ·omega
 have eV:xor (xs (fun y=>V 0 y) M) (xs (fun y=>V M y) M)=xor (s 0 0) (s 0 M):=by
  rw [<- qca (fun y=>V M y)]
  refine (ZA (fun y=>V 0 y) (fun y=>V M (M - 1 - y)) M).symm.trans ((Je fun y hy=>?_).trans (ZB (fun y=>s 0 y) M))
  obtain ⟨a1,a2⟩:=by_ y (yl hy)
  obtain ⟨b1,b2⟩:=by_ (y+1) hy
  have e1:M - 1 - y=M - (y+1):=by omega
  have e2:M - 1 - y+1=M - y:=by omega
  show xor ((xor (s 0 y) (s 0 (y+1))) && t 0 y) ((xor (s M (M - 1 - y)) (s M (M - 1 - y+1))) && t M (M - 1 - y))=xor (s 0 y) (s 0 (y+1))
  rw [e2,e1,a1,b1,b2]
  have hM:0<M:=by omega
  by_cases hs:s 0 y=s 0 (y+1)
  ·rw [hs];simp
  ·have ht:t 0 y=t 0 (y+1):=by
    rcases cell 0 y hM hy with ⟨_,a,_⟩ | ⟨_,a,_⟩
    ·exact absurd a hs
    ·exact a
   rw [ht]
   cases s 0 y <;> cases s 0 (y+1) <;> cases t 0 (y+1) <;> simp at hs ⊢
 rw [eH,eV] at all
 have c:=(by_ 0 (qQ _)).1
 have d:=(bx 0 (qQ _)).1
 have e:=(by_ M (qj _)).1
 simp only [Nat.sub_zero,Nat.sub_self] at c d e
 -- s M M=not s 0 0,s M 0=not s 0 M
 rw [e] at all
 cases h1:s 0 0 <;> cases h2:s 0 M <;> simp [h1,h2] at all
end L2
namespace L2
open PySem
def Md (f:P3->Int) (X:List P3) (m:Int):Prop:=2 * X.countP (fun x=>decide (f x<m))<X.length/\2 * X.countP (fun x=>decide (m<f x))<X.length
theorem Yf {X:List P3}{f g:P3->Bool}(h:∀ x∈X,f x=true->g x=true):X.countP f<=X.countP g:=List.countP_mono_left h
theorem cnt_le {f:P3->Int}{m:Int}(X:List P3):X.countP (fun x=>decide (m<f x))+X.countP (fun x=>decide (f x<=m))=X.length:=by
 induction X with
 | nil=>rfl
 | cons a t ih =>
  simp only [List.countP_cons,List.length_cons]
  by_cases h:m<f a
  ·have:¬ f a<=m:=by omega
   simp [h,this];omega
  ·have:f a<=m:=by omega
   simp [h,this];omega
theorem JX {f g:P3->Int}{X:List P3}{a b R:Int}(hf:Md f X a) (hg:Md g X b) (h:∀ x∈X,g x<=f x+R):b<=a+R:=by
 refine Int.not_lt.mp fun hlt=>?_
 have h1:=Yf (X:=X) (f:=fun x=>decide (f x<=a)) (g:=fun x=>decide (g x<b)) fun x hx z=>by
  have z:f x<=a:=qv z
  have:=h x hx
  exact qB (by omega)
 have h2:=cnt_le (f:=f) (m:=a) X
 have h3:=hf.2
 have h4:=hg.1
 omega
theorem qaB {f:P3->Int}{X:List P3}{a b:Int}(h1:Md f X a) (h2:Md f X b):a=b:=by
 have x:=JX (R:=0) h1 h2 fun x _=>by omega
 have y:=JX (R:=0) h2 h1 fun x _=>by omega
 omega
theorem qdb {f g:P3->Int}{X:List P3}{a:Int}(h:Md f X a) (e:∀ x,g x = - f x):Md g X (-a):=by
 have e1:(fun x=>decide (g x < -a))=fun x=>decide (a<f x):=by funext x;rw [e x,decide_eq_decide];omega
 have e2:(fun x=>decide (-a<g x))=fun x=>decide (f x<a):=by funext x;rw [e x,decide_eq_decide];omega
 unfold Md
 rw [e1,e2]
 exact ⟨h.2,h.1⟩
theorem qbd {P:P3->Prop}(f:P3->Int):∀ {X:List P3},(∃ x∈X,P x)->∃ x∈X,P x/\∀ y∈X,P y->f y<=f x
 | [],h=>by obtain ⟨x,hx,_⟩:=h;cases hx
 | a::t,h=>by
  by_cases ht:∃ x∈t,P x
  ·obtain ⟨x,hx,px,hm⟩:=qbd f ht
   by_cases pa:P a/\f x<f a
   ·refine ⟨a,qg,pa.1,fun y hy py=>?_⟩
    rcases List.mem_cons.mp hy with rfl | hy
    ·omega
    ·have:=hm y hy py;omega
   ·refine ⟨x,qe _ hx,px,fun y hy py=>?_⟩
    rcases List.mem_cons.mp hy with rfl | hy
    ·refine Int.not_lt.mp fun z=>pa ⟨py,z⟩
    ·exact hm y hy py
  ·obtain ⟨x,hx,px⟩:=h
   rcases List.mem_cons.mp hx with rfl | hx
   ·refine ⟨x,qg,px,fun y hy py=>?_⟩
    rcases List.mem_cons.mp hy with rfl | hy
    ·omega
    ·exact absurd ⟨y,hy,py⟩ ht
   ·exact absurd ⟨x,hx,px⟩ ht
theorem qjy {f:P3->Int}{m:Int}(X:List P3):X.countP (fun x=>decide (f x<m))+X.countP (fun x=>decide (m<=f x))=X.length:=by
 have:=cnt_le (f:=fun x=>- f x) (m:=-m) X
 have e1:(fun x=>decide (-m < - f x))=fun x=>decide (f x<m):=by funext x;rw [decide_eq_decide];omega
 have e2:(fun x=>decide (- f x <= -m))=fun x=>decide (m<=f x):=by funext x;rw [decide_eq_decide];omega
 rw [e1,e2] at this
 exact this
theorem qgV (f:P3->Int) {X:List P3}{k:Nat}(hk:X.length=2 * k+1):∃ x∈X,Md f X (f x):=by
 -- the greatest one with at most k less
 have h0:∃ x∈X,2 * X.countP (fun y=>decide (f y<f x))<X.length:=by
  obtain ⟨x,hx,_,hm⟩:=qbd (P:=fun _=>True) (fun x=>- f x) (X:=X) (by
   cases X with
   | nil=>simp at hk
   | cons a t=>exact ⟨a,qg,trivial⟩)
  refine ⟨x,hx,?_⟩
  have:X.countP (fun y=>decide (f y<f x))=0:=List.countP_eq_zero.mpr fun y hy=>by
   have:=hm y hy trivial
   simp;omega
  omega
 obtain ⟨x,hx,px,hm⟩:=qbd f h0
 refine ⟨x,hx,px,?_⟩
 refine Nat.not_le.mp fun hge=>?_
 -- more than k greater: the least of these is a greater one
 have hpos:0<X.countP (fun y=>decide (f x<f y)):=by omega
 obtain ⟨y0,hy0,hz⟩:=List.countP_pos_iff.mp hpos
 obtain ⟨y,hy,py,hmin⟩:=qbd (P:=fun y=>f x<f y) (fun x=>- f x) (X:=X) ⟨y0,hy0,qv hz⟩
 have c1:=qjy (f:=f) (m:=f y) X
 have c2:=Yf (X:=X) (f:=fun z=>decide (f x<f z)) (g:=fun z=>decide (f y<=f z)) fun z hz w=>by
  have:=hmin z hz (qv w)
  exact qB (by omega)
 have:=hm y hy (by omega)
 omega
def qjV (n:P3):Bool:=if n.1=0 then (if n.2.1=0 then decide (0<n.2.2) else decide (0<n.2.1)) else decide (0<n.1)
theorem qeB {n:P3}(h:n≠Z3):qjV (Jw n)=!qjV n:=by
 obtain ⟨a,b,c⟩:=n
 have h:¬ (a=0/\b=0/\c=0):=fun ⟨x,y,z⟩=>h (by rw [x,y,z];rfl)
 unfold qjV Jw
 by_cases h1:a=0
 ·by_cases h2:b=0
  ·have h3:c≠0:=fun z=>h ⟨h1,h2,z⟩
   by_cases h4:0<c <;> simp [h1,h2,h4] <;> omega
  ·by_cases h4:0<b <;> simp [h1,h2,h4] <;> omega
 ·by_cases h4:0<a <;> simp [h1,h4] <;> omega
theorem Zo (n x:P3):qA (Jw n) x = - qA n x:=by
 obtain ⟨a,b,c⟩:=n
 obtain ⟨d,e,f⟩:=x
 simp only [qA,Jw]
 grind
def sgN (n:P3) (a b:Int):Bool:=if a<b then true else if b<a then false else qjV n
theorem qcz {n:P3}{a b:Int}(h:n≠Z3):sgN (Jw n) (-a) (-b)=!sgN n a b:=by
 unfold sgN
 rcases yb a b with c | c | c
 ·rw [if_neg (by omega),if_pos (by omega),if_pos c];rfl
 ·rw [if_neg (by omega),if_neg (by omega),if_neg (by omega),if_neg (by omega),qeB h]
 ·rw [if_pos (by omega),if_neg (by omega),if_pos c];rfl
theorem qfv {n n':P3}{a b a' b' R:Int}(h:sgN n a b≠sgN n' a' b') (h1:a'<=a+R) (h2:a<=a'+R) (h3:b'<=b+R) (h4:b<=b'+R) (hR:0<=R):b - a<=2 * R/\a - b<=2 * R:=by
 unfold sgN at h
 rcases yb a b with c | c | c
 ·rw [if_pos c] at h
  by_cases c':a'<b'
  ·rw [if_pos c'] at h;exact absurd rfl h
  ·omega
 ·omega
 ·rw [if_neg (by omega),if_pos c] at h
  by_cases c':b'<a'
  ·rw [if_neg (by omega),if_pos c'] at h;exact absurd rfl h
  ·omega
def mx (a b:Int):Int:=if a<b then b else a
def jT (N:Nat) (x y:Nat):P3:=((x:Int) - N,(y:Int) - N,(N:Int) - mx ((x:Int) - N).natAbs ((y:Int) - N).natAbs)
theorem qbv {N x y:Nat}(h:0<N):jT N x y≠Z3:=fun e=>by
 unfold jT Z3 at e
 have e1:=congrArg Prod.fst e
 have e2:=congrArg (fun z=>z.2.1) e
 have e3:=congrArg (fun z=>z.2.2) e
 simp only [mx] at e1 e2 e3
 split at e3 <;> omega
theorem dir_x {N x:Nat}(h:x<=2 * N):jT N (2 * N - x) (2 * N)=Jw (jT N x 0):=by
 unfold jT Jw
 refine Prod.ext ?_ (Prod.ext ?_ ?_)
 ·show ((2 * N - x:Nat):Int) - N = -((x:Int) - N);omega
 ·show ((2 * N:Nat):Int) - N = -(((0:Nat):Int) - N);omega
 ·show (N:Int) - mx (((2 * N - x:Nat):Int) - N).natAbs (((2 * N:Nat):Int) - N).natAbs = -((N:Int) - mx ((x:Int) - N).natAbs (((0:Nat):Int) - N).natAbs)
  unfold mx
  split <;> split <;> omega
theorem dir_y {N y:Nat}(h:y<=2 * N):jT N (2 * N) (2 * N - y)=Jw (jT N 0 y):=by
 unfold jT Jw
 refine Prod.ext ?_ (Prod.ext ?_ ?_)
 ·show ((2 * N:Nat):Int) - N = -(((0:Nat):Int) - N);omega
 ·show ((2 * N - y:Nat):Int) - N = -((y:Int) - N);omega
 ·show (N:Int) - mx (((2 * N:Nat):Int) - N).natAbs (((2 * N - y:Nat):Int) - N).natAbs = -((N:Int) - mx (((0:Nat):Int) - N).natAbs ((y:Int) - N).natAbs)
  unfold mx
  split <;> split <;> omega
def qj6 (n n':P3):Prop:=(n.1 - n'.1).natAbs<=1/\(n.2.1 - n'.2.1).natAbs<=1/\(n.2.2 - n'.2.2).natAbs<=1
theorem qbu {N x y x' y':Nat}(hx:x'=x\/x'=x+1) (hy:y'=y\/y'=y+1):qj6 (jT N x y) (jT N x' y'):=by
 unfold qj6 jT mx
 refine ⟨?_,?_,?_⟩
 ·show (((x:Int) - N) - ((x':Int) - N)).natAbs<=1;omega
 ·show (((y:Int) - N) - ((y':Int) - N)).natAbs<=1;omega
 ·simp only
  split <;> split <;> omega
theorem qhj {N x y:Nat}:N<=2 * (jT N x y).1.natAbs\/N<=2 * (jT N x y).2.1.natAbs\/N<=2 * (jT N x y).2.2.natAbs:=by
 unfold jT mx
 simp only
 split <;> omega
theorem Jh {n n' p:P3}{B:Nat}(h:qj6 n n') (hp:N3 B p):qA n' p<=qA n p+3 * B/\qA n p<=qA n' p+3 * B:=by
 obtain ⟨h1,h2,h3⟩:=h
 obtain ⟨b1,b2,b3⟩:=hp
 have e:qA n p - qA n' p=(n.1 - n'.1) * p.1+(n.2.1 - n'.2.1) * p.2.1+(n.2.2 - n'.2.2) * p.2.2:=by
  unfold qA;grind
 have m1:=yG h1 b1
 have m2:=yG h2 b2
 have m3:=yG h3 b3
 rw [Nat.one_mul] at m1 m2 m3
 omega
theorem qeN {A B C:List P3}{Bd N ka kb kc:Nat}(hA:A.length=2 * ka+1) (hB:B.length=2 * kb+1) (hC:C.length=2 * kc+1) (hb:∀ X∈[A,B,C],∀ x∈X,N3 Bd x) (hN:0<N) :
  ∃ (n:P3) (p:P3) (b c:Int),(N<=2 * n.1.natAbs\/N<=2 * n.2.1.natAbs\/N<=2 * n.2.2.natAbs)/\p∈A/\Md (qA n) A (qA n p)/\Md (qA n) B b/\Md (qA n) C c/\(b - qA n p).natAbs<=6 * Bd/\(c - qA n p).natAbs<=6 * Bd:=by
 have cA:=fun n:P3=>qgV (qA n) hA
 have cB:=fun n:P3=>qgV (qA n) hB
 have cC:=fun n:P3=>qgV (qA n) hC
 let a:=fun n=>qA n (Classical.choose (cA n))
 let b:=fun n=>qA n (Classical.choose (cB n))
 let c:=fun n=>qA n (Classical.choose (cC n))
 have ha:∀ n,Md (qA n) A (a n):=fun n=>(Classical.choose_spec (cA n)).2
 have hb':∀ n,Md (qA n) B (b n):=fun n=>(Classical.choose_spec (cB n)).2
 have hc:∀ n,Md (qA n) C (c n):=fun n=>(Classical.choose_spec (cC n)).2
 have na:∀ n,a (Jw n) = - a n:=fun n=>qaB (ha (Jw n)) (qdb (ha n) (Zo n))
 have nb:∀ n,b (Jw n) = - b n:=fun n=>qaB (hb' (Jw n)) (qdb (hb' n) (Zo n))
 have nc:∀ n,c (Jw n) = - c n:=fun n=>qaB (hc (Jw n)) (qdb (hc n) (Zo n))
 have sN:∀ n,n≠Z3->sgN (Jw n) (a (Jw n)) (b (Jw n))=!sgN n (a n) (b n):=fun n h=>by rw [na,nb];exact qcz h
 have tN:∀ n,n≠Z3->sgN (Jw n) (a (Jw n)) (c (Jw n))=!sgN n (a n) (c n):=fun n h=>by rw [na,nc];exact qcz h
 obtain ⟨x,y,hx,hy,h1,h2⟩:=grid (M:=2 * N) (fun x y=>sgN (jT N x y) (a (jT N x y)) (b (jT N x y))) (fun x y=>sgN (jT N x y) (a (jT N x y)) (c (jT N x y)))
  (fun x hx=>by
   have e:=dir_x hx
   simp only [e]
   exact ⟨sN _ (qbv hN),tN _ (qbv hN)⟩)
  (fun y hy=>by
   have e:=dir_y hy
   simp only [e]
   exact ⟨sN _ (qbv hN),tN _ (qbv hN)⟩)
 have lip:∀ n n',qj6 n n'->(a n'<=a n+3 * Bd/\a n<=a n'+3 * Bd)/\(b n'<=b n+3 * Bd/\b n<=b n'+3 * Bd)/\(c n'<=c n+3 * Bd/\c n<=c n'+3 * Bd):=fun n n' h=>by
  refine ⟨⟨JX (ha n) (ha n') fun x hx=>(Jh h (hb A (by simp) x hx)).1,JX (ha n') (ha n) fun x hx=>(Jh h (hb A (by simp) x hx)).2⟩,⟨JX (hb' n) (hb' n') fun x hx=>(Jh h (hb B (by simp) x hx)).1,JX (hb' n') (hb' n) fun x hx=>(Jh h (hb B (by simp) x hx)).2⟩,⟨JX (hc n) (hc n') fun x hx=>(Jh h (hb C (by simp) x hx)).1,JX (hc n') (hc n) fun x hx=>(Jh h (hb C (by simp) x hx)).2⟩⟩
 have pick:∀ (s:Nat->Nat->Bool),¬ (s x y=s (x+1) y/\s x y=s x (y+1)/\s x y=s (x+1) (y+1))->∃ x' y',(x'=x\/x'=x+1)/\(y'=y\/y'=y+1)/\s x y≠s x' y':=fun s h=>by
  by_cases h1:s x y=s (x+1) y
  ·by_cases h2:s x y=s x (y+1)
   ·exact ⟨x+1,y+1,.inr rfl,.inr rfl,fun z=>h ⟨h1,h2,z⟩⟩
   ·exact ⟨x,y+1,.inl rfl,.inr rfl,h2⟩
  ·exact ⟨x+1,y,.inr rfl,.inl rfl,h1⟩
 obtain ⟨x1,y1,ex1,ey1,d1⟩:=pick (fun x y=>sgN (jT N x y) (a (jT N x y)) (b (jT N x y))) h1
 obtain ⟨x2,y2,ex2,ey2,d2⟩:=pick (fun x y=>sgN (jT N x y) (a (jT N x y)) (c (jT N x y))) h2
 obtain ⟨la,lb,_⟩:=lip _ _ (qbu (N:=N) ex1 ey1)
 obtain ⟨la2,_,lc2⟩:=lip _ _ (qbu (N:=N) ex2 ey2)
 have r1:=qfv (R:=3 * Bd) d1 la.1 la.2 lb.1 lb.2 (by omega)
 have r2:=qfv (R:=3 * Bd) d2 la2.1 la2.2 lc2.1 lc2.2 (by omega)
 refine ⟨jT N x y,Classical.choose (cA (jT N x y)),b (jT N x y),c (jT N x y),qhj,(Classical.choose_spec (cA (jT N x y))).1,ha _,hb' _,hc _,?_,?_⟩
 ·show (b (jT N x y) - a (jT N x y)).natAbs<=6 * Bd
  omega
 ·show (c (jT N x y) - a (jT N x y)).natAbs<=6 * Bd
  omega
end L2
namespace L2
open PySem
theorem jQ (n x p:P3):qA n (yh x p)=qA n x - qA n p:=by
 unfold qA yh;grind
theorem JP (p q r x:P3):jf p q r x=qA (yS (yh q p) (yh r p)) (yh x p):=by
 rw [jQ];rfl
theorem qjc {f g:P3->Int}{X:List P3}{m:Int}(h:Md g X m) (h1:∀ x∈X,f x<0->g x<m) (h2:∀ x∈X,0<f x->m<g x):HVf f X:=by
 have a:=Yf (X:=X) (f:=fun x=>decide (f x<0)) (g:=fun x=>decide (g x<m)) fun x hx z=>qB (h1 x hx (qv z))
 have b:=Yf (X:=X) (f:=fun x=>decide (0<f x)) (g:=fun x=>decide (m<g x)) fun x hx z=>qB (h2 x hx (qv z))
 obtain ⟨c,d⟩:=h
 exact ⟨by omega,by omega⟩
theorem JW {e x:Int}:(0<e->(0<x->0<e * x)/\(x<0->e * x<0))/\(e<0->(0<x->e * x<0)/\(x<0->0<e * x)) :=
 ⟨fun h=>⟨fun z=>Int.mul_pos h z,fun z=>Int.mul_neg_of_pos_of_neg h z⟩,fun h=>⟨fun z=>Int.mul_neg_of_neg_of_pos h z,fun z=>Int.mul_pos_of_neg_of_neg h z⟩⟩
theorem qdt {f g:P3->Int}{X:List P3}{m e:Int}(he:e≠0) (h:Md g X m) (hh:∀ x∈X,(0<e * f x->m<g x)/\(e * f x<0->g x<m)):HVf f X:=by
 rcases yb e 0 with c | c | c
 ·refine qds (f:=fun x=>- f x) (fun x=>by omega) (qjc h (fun x hx z=>?_) fun x hx z=>?_)
  ·exact (hh x hx).2 ((JW.2 c).1 (by omega))
  ·exact (hh x hx).1 ((JW.2 c).2 (by omega))
 ·exact absurd c he
 ·exact qjc h (fun x hx z=>(hh x hx).2 ((JW.1 c).2 z)) fun x hx z=>(hh x hx).1 ((JW.1 c).1 z)
theorem qgl {u P v:Int}(h:(0<P/\0<u * v)\/(P<0/\u * v<0)):(0<u * P->0<v)/\(u * P<0->v<0):=by
 rcases yb u 0 with c | c | c
 ·have k1:=(JW (e:=u) (x:=P)).2 c
  have k2:=(JW (e:=u) (x:=v)).2 c
  rcases yb v 0 with d | d | d
  ·have:=k2.2 d
   refine ⟨fun z=>?_,fun _=>d⟩
   rcases h with ⟨a,b⟩ | ⟨a,b⟩
   ·have:=k1.1 a;omega
   ·omega
  ·subst d;simp at h
  ·have:=k2.1 d
   refine ⟨fun _=>d,fun z=>?_⟩
   rcases h with ⟨a,b⟩ | ⟨a,b⟩
   ·omega
   ·have:=k1.2 a;omega
 ·subst c;simp at h
 ·have k1:=(JW (e:=u) (x:=P)).1 c
  have k2:=(JW (e:=u) (x:=v)).1 c
  rcases yb v 0 with d | d | d
  ·have:=k2.2 d
   refine ⟨fun z=>?_,fun _=>d⟩
   rcases h with ⟨a,b⟩ | ⟨a,b⟩
   ·omega
   ·have:=k1.2 a;omega
  ·subst d;simp at h
  ·have:=k2.1 d
   refine ⟨fun _=>d,fun z=>?_⟩
   rcases h with ⟨a,b⟩ | ⟨a,b⟩
   ·have:=k1.1 a;omega
   ·omega
theorem qfd {S:List P3}{w g:P3->Int}{n1 u1 gp:Int}{K1 U t:Nat}(h:∀ x∈S,∃ E:Int,n1 * w x=u1 * (g x - gp)+E/\E.natAbs<=K1) (hu:u1.natAbs<=U) (hn:K1+U * (2 * t)<n1.natAbs) (hg:gp.natAbs<=t) :
  ∃ e:Int,e≠0/\∀ x∈S,(0<e * w x->(t:Int)<g x)/\(e * w x<0->g x < -(t:Int)):=by
 have big:∀ x∈S,w x≠0->n1.natAbs<=(n1 * w x).natAbs:=fun x _ hw=>by
  rw [Int.natAbs_mul]
  exact Nat.le_mul_of_pos_right _ (by omega)
 by_cases hu1:u1=0
 ·refine ⟨1,by decide,fun x hx=>?_⟩
  obtain ⟨E,e1,e2⟩:=h x hx
  have:w x=0:=Classical.byContradiction fun hw=>by
   have:=big x hx hw
   rw [hu1,Int.zero_mul,Int.zero_add] at e1
   rw [e1] at this
   omega
  rw [this]
  simp
 ·refine ⟨n1 * u1,Int.mul_ne_zero (by omega) hu1,fun x hx=>?_⟩
  by_cases hw:w x=0
  ·rw [hw];simp
  obtain ⟨E,e1,e2⟩:=h x hx
  have b:=big x hx hw
  have eq:n1 * u1 * w x=u1 * (n1 * w x):=by grind
  rw [eq]
  have far:2 * t<(g x - gp).natAbs:=Nat.not_le.mp fun z=>by
   have:=yG hu z
   omega
  generalize n1 * w x=P at *
  generalize hv:g x - gp=v at *
  obtain ⟨s1,s2⟩:=qgl (u:=u1) (P:=P) (v:=v) (by omega)
  exact ⟨fun z=>by have:=s1 z;omega,fun z=>by have:=s2 z;omega⟩
theorem cop {S:List P3}{n p q r:P3}{Bd t:Nat}{a:Int}(hS:∀ x∈S,N3 Bd x) (hp:p∈S) (hq:q∈S) (hr:r∈S) (tp:(qA n p - a).natAbs<=t) (tq:(qA n q - a).natAbs<=t) (tr:(qA n r - a).natAbs<=t)
  (hbig:48 * (Bd * Bd * t)<n.1.natAbs\/48 * (Bd * Bd * t)<n.2.1.natAbs\/48 * (Bd * Bd * t)<n.2.2.natAbs) :
  ∃ e:Int,e≠0/\∀ x∈S,(0<e * jf p q r x->(t:Int)<qA n x - a)/\(e * jf p q r x<0->qA n x - a < -(t:Int)):=by
 have dA:qA n (yh q p)=qA n q - qA n p:=jQ ..
 have dB:qA n (yh r p)=qA n r - qA n p:=jQ ..
 have aA:(qA n (yh q p)).natAbs<=t+t:=by rw [dA];omega
 have aB:(qA n (yh r p)).natAbs<=t+t:=by rw [dB];omega
 have uA:=qcm (hS p hp) (hS q hq) (hS r hr)
 have bA:=yD (hS p hp) (hS q hq)
 have bB:=yD (hS p hp) (hS r hr)
 have eU:(Bd+Bd) * (Bd+Bd)+(Bd+Bd) * (Bd+Bd)=8 * (Bd * Bd):=by grind
 rw [eU] at uA
 have prod:∀ {y c d:Int},y.natAbs<=Bd+Bd->c.natAbs<=Bd+Bd->d.natAbs<=t+t->(y * (c * d)).natAbs<=8 * (Bd * Bd * t):=fun {y c d} h1 h2 h3=>by
  have:=yG h1 (yG h2 h3)
  have e:(Bd+Bd) * ((Bd+Bd) * (t+t))=8 * (Bd * Bd * t):=by grind
  rw [e] at this
  exact this
 have qj3:∀ {y1 y2 c1 c2 d1 d2 x1 x2:Int},y1.natAbs<=Bd+Bd->y2.natAbs<=Bd+Bd->c1.natAbs<=Bd+Bd->c2.natAbs<=Bd+Bd->d1.natAbs<=Bd+Bd->d2.natAbs<=Bd+Bd->x1.natAbs<=t+t->x2.natAbs<=t+t->(y1 * (c1 * x1 - d1 * x2) - y2 * (c2 * x1 - d2 * x2)).natAbs<=32 * (Bd * Bd * t):=fun {y1 y2 c1 c2 d1 d2 x1 x2} h1 h2 h3 h4 h5 h6 h7 h8=>by
  have p1:=prod h1 h3 h7
  have p2:=prod h1 h5 h8
  have p3:=prod h2 h4 h7
  have p4:=prod h2 h6 h8
  rw [Int.mul_sub,Int.mul_sub]
  omega
 have e16:8 * (Bd * Bd) * (2 * t)=16 * (Bd * Bd * t):=by grind
 have fin:∀ (n1 u1:Int),u1.natAbs<=8 * (Bd * Bd)->48 * (Bd * Bd * t)<n1.natAbs->(∀ x∈S,∃ E:Int,n1 * jf p q r x=u1 * ((qA n x - a) - (qA n p - a))+E/\E.natAbs<=32 * (Bd * Bd * t)) →
   ∃ e:Int,e≠0/\∀ x∈S,(0<e * jf p q r x->(t:Int)<qA n x - a)/\(e * jf p q r x<0->qA n x - a < -(t:Int)):=fun n1 u1 h1 h2 h3 =>
  qfd (w:=jf p q r) (g:=fun x=>qA n x - a) (gp:=qA n p - a) (K1:=32 * (Bd * Bd * t)) (U:=8 * (Bd * Bd)) h3 h1 (by omega) tp
 have dv:∀ x,(qA n x - a) - (qA n p - a)=qA n (yh x p):=fun x=>by rw [jQ];omega
 obtain ⟨a1,a2,a3⟩:=bA
 obtain ⟨b1,b2,b3⟩:=bB
 rcases hbig with h | h | h
 ·refine fin n.1 (upr p q r).1 uA.1 h fun x hx=>?_
  obtain ⟨y1,y2,y3⟩:=yD (hS p hp) (hS x hx)
  refine ⟨_,?_,qj3 y2 y3 a3 a2 b3 b2 aB aA⟩
  rw [dv,JP]
  unfold upr
  generalize yh x p=Y
  generalize yh q p=A
  generalize yh r p=B
  unfold qA yS
  grind
 ·refine fin n.2.1 (upr p q r).2.1 uA.2.1 h fun x hx=>?_
  obtain ⟨y1,y2,y3⟩:=yD (hS p hp) (hS x hx)
  refine ⟨_,?_,qj3 y3 y1 a1 a3 b1 b3 aB aA⟩
  rw [dv,JP]
  unfold upr
  generalize yh x p=Y
  generalize yh q p=A
  generalize yh r p=B
  unfold qA yS
  grind
 ·refine fin n.2.2 (upr p q r).2.2 uA.2.2 h fun x hx=>?_
  obtain ⟨y1,y2,y3⟩:=yD (hS p hp) (hS x hx)
  refine ⟨_,?_,qj3 y1 y2 a2 a1 b2 b1 aB aA⟩
  rw [dv,JP]
  unfold upr
  generalize yh x p=Y
  generalize yh q p=A
  generalize yh r p=B
  unfold qA yS
  grind
theorem qbg {P:P3->Prop}{le:P3->P3->Prop}(tot:∀ x y,le x y\/le y x) (tr:∀ x y z,P x->P y->P z->le x y->le y z->le x z):∀ {X:List P3},(∃ x∈X,P x)->∃ x∈X,P x/\∀ y∈X,P y->le x y
 | [],h=>by obtain ⟨x,hx,_⟩:=h;cases hx
 | a::t,h=>by
  have refl:∀ x,le x x:=fun x=>(tot x x).elim id id
  by_cases ht:∃ x∈t,P x
  ·obtain ⟨x,hx,px,hm⟩:=qbg tot tr ht
   by_cases pa:P a/\le a x
   ·refine ⟨a,qg,pa.1,fun y hy py=>?_⟩
    rcases List.mem_cons.mp hy with rfl | hy
    ·exact refl _
    ·exact tr a x y pa.1 px py pa.2 (hm y hy py)
   ·refine ⟨x,qe _ hx,px,fun y hy py=>?_⟩
    rcases List.mem_cons.mp hy with rfl | hy
    ·exact (tot x y).resolve_right fun z=>pa ⟨py,z⟩
    ·exact hm y hy py
  ·obtain ⟨x,hx,px⟩:=h
   rcases List.mem_cons.mp hx with rfl | hx
   ·refine ⟨x,qg,px,fun y hy py=>?_⟩
    rcases List.mem_cons.mp hy with rfl | hy
    ·exact refl _
    ·exact absurd ⟨y,hy,py⟩ ht
   ·exact absurd ⟨x,hx,px⟩ ht
def d4 (d y z:P3):Int:=qA (yS d y) z
theorem qju (d y z:P3):d4 d z y = - d4 d y z:=by unfold d4 qA yS;grind
theorem d4_id (m d x y z:P3):d4 d x y * qA m z+d4 d y z * qA m x - d4 d x z * qA m y=qA m d * qA (yS x y) z:=by
 obtain ⟨m1,m2,m3⟩:=m
 obtain ⟨d1,d2,d3⟩:=d
 obtain ⟨x1,x2,x3⟩:=x
 obtain ⟨y1,y2,y3⟩:=y
 obtain ⟨z1,z2,z3⟩:=z
 simp only [d4,qA,yS]
 grind
theorem d4_z {d y z:P3}(h:yS d z=Z3):d4 d y z=0:=by
 rw [qju d z y]
 unfold d4
 rw [h]
 simp [qA,Z3]
theorem Yj {c:Int}(h:c≠0):0<c * c:=by
 rcases yb c 0 with z | z | z
 ·exact Int.mul_pos_of_neg_of_neg z z
 ·exact absurd z h
 ·exact Int.mul_pos z z
theorem rot {S:List P3}{m p d:P3}(hd:qA m d=0) (hz:∀ x∈S,qA m (yh x p)=0->yS d (yh x p)=Z3) (hex:∃ x∈S,qA m (yh x p)≠0) :
  ∃ z∈S,qA m (yh z p)≠0/\∀ x∈S,(0<qA m (yh z p) * d4 d (yh z p) (yh x p)->0<qA m (yh x p))/\(qA m (yh z p) * d4 d (yh z p) (yh x p)<0->qA m (yh x p)<0):=by
 let c:=fun x:P3=>qA m (yh x p)
 let D:=fun x y:P3=>d4 d (yh x p) (yh y p)
 obtain ⟨z,hz1,hz2,hz3⟩:=qbg (P:=fun x=>c x≠0) (le:=fun x y=>0<=c x * c y * D x y) (fun x y=>by
   have e:c y * c x * D y x = - (c x * c y * D x y):=by
    have:D y x = - D x y:=qju ..
    rw [this];grind
   rw [e];omega) (fun x y w px py pw h1 h2=>by
   have id:=d4_id m d (yh x p) (yh y p) (yh w p)
   rw [hd,Int.zero_mul] at id
   have id:D x y * c w+D y w * c x - D x w * c y=0:=id
   have e:c x * c w * D x w * (c y * c y)=c x * c y * D x y * (c w * c w)+c y * c w * D y w * (c x * c x):=by grind
   have n1:=Int.mul_nonneg h1 (Int.le_of_lt (Yj pw))
   have n2:=Int.mul_nonneg h2 (Int.le_of_lt (Yj px))
   refine Int.not_lt.mp fun z=>?_
   have:=Int.mul_neg_of_neg_of_pos z (Yj py)
   omega) hex
 refine ⟨z,hz1,hz2,fun x hx=>?_⟩
 by_cases hc:c x=0
 ·have:D z x=0:=d4_z (hz x hx hc)
  show (0<c z * D z x->0<c x)/\(c z * D z x<0->c x<0)
  rw [this];simp
 ·have g:=hz3 x hx hc
  show (0<c z * D z x->0<c x)/\(c z * D z x<0->c x<0)
  have e:c z * c x * D z x=c x * (c z * D z x):=by grind
  rw [e] at g
  generalize c z * D z x=F at *
  generalize c x=Cx' at *
  constructor
  ·intro hF
   refine Classical.byContradiction fun z=>?_
   have:=Int.mul_neg_of_neg_of_pos (show Cx'<0 by omega) hF
   omega
  ·intro hF
   refine Classical.byContradiction fun z=>?_
   have:=Int.mul_neg_of_pos_of_neg (show 0<Cx' by omega) hF
   omega
theorem qi0 {a b c d:P3}(h0:a≠b) (h1:upr a b c=Z3) (h2:upr a b d=Z3):upr a c d=Z3:=by
 obtain ⟨a1,a2,a3⟩:=a
 obtain ⟨b1,b2,b3⟩:=b
 obtain ⟨c1,c2,c3⟩:=c
 obtain ⟨d1,d2,d3⟩:=d
 simp only [upr,yS,yh,Z3,Prod.mk.injEq,ne_eq] at *
 have e1:=h1.1
 have e2:=h1.2.1
 have e3:=h1.2.2
 have f1:=h2.1
 have f2:=h2.2.1
 have f3:=h2.2.2
 have hb:b1 - a1≠0\/b2 - a2≠0\/b3 - a3≠0:=by omega
 generalize b1 - a1=x1 at *
 generalize b2 - a2=x2 at *
 generalize b3 - a3=x3 at *
 generalize c1 - a1=y1 at *
 generalize c2 - a2=y2 at *
 generalize c3 - a3=y3 at *
 generalize d1 - a1=z1 at *
 generalize d2 - a2=z2 at *
 generalize d3 - a3=z3 at *
 have can:∀ x y:Int,x≠0->x * y=0->y=0:=fun x y h e=>(Int.mul_eq_zero.mp e).resolve_left h
 rcases hb with h | h | h
 ·exact ⟨can _ _ (Int.mul_ne_zero h h) (by grind),can _ _ h (by grind),can _ _ h (by grind)⟩
 ·exact ⟨can _ _ h (by grind),can _ _ (Int.mul_ne_zero h h) (by grind),can _ _ h (by grind)⟩
 ·exact ⟨can _ _ h (by grind),can _ _ h (by grind),can _ _ (Int.mul_ne_zero h h) (by grind)⟩
theorem qd7 {S:List P3}{p q:P3}(hne:p≠q) (h:∀ x∈S,upr p q x=Z3):∀ a∈S,∀ b∈S,∀ c∈S,upr a b c=Z3:=fun a ha b hb c hc=>by
 have h2:∀ x∈S,∀ y∈S,upr p x y=Z3:=fun x hx y hy=>qi0 hne (h x hx) (h y hy)
 by_cases e:a=p
 ·subst e;exact h2 b hb c hc
 ·have sw:∀ x∈S,upr a p x=Z3:=fun x hx=>by rw [YY,h2 a ha x hx];rfl
  exact qi0 e (sw b hb) (sw c hc)
end L2
namespace L2
open PySem
theorem qfY (m u y:P3):qA u u * qA m y - qA m u * qA u y=qA (yS m u) (yS y u):=by
 obtain ⟨m1,m2,m3⟩:=m
 obtain ⟨d1,d2,d3⟩:=u
 obtain ⟨x1,x2,x3⟩:=y
 simp only [qA,yS]
 grind
theorem qjv (d y:P3):yS y d=Jw (yS d y):=by
 obtain ⟨d1,d2,d3⟩:=d
 obtain ⟨x1,x2,x3⟩:=y
 simp only [yS,Jw,Prod.mk.injEq]
 refine ⟨?_,?_,?_⟩ <;> grind
theorem qhh (n:P3):qA n Z3=0:=by simp [qA,Z3]
theorem crs_z {d y:P3}(h:yS d y=Z3):yS y d=Z3:=by rw [qjv,h];rfl
theorem qbA {d:P3}(h:d≠Z3):0<qA d d:=by
 obtain ⟨a,b,c⟩:=d
 have h:¬ (a=0/\b=0/\c=0):=fun ⟨x,y,z⟩=>h (by rw [x,y,z];rfl)
 have sq:∀ z:Int,0<=z * z/\(z≠0->0<z * z):=fun z=>by
  refine ⟨?_,fun c=>Yj c⟩
  by_cases c:z=0
  ·subst c;decide
  ·exact Int.le_of_lt (Yj c)
 show 0<a * a+b * b+c * c
 obtain ⟨a1,a2⟩:=sq a
 obtain ⟨b1,b2⟩:=sq b
 obtain ⟨c1,c2⟩:=sq c
 by_cases x:a=0
 ·by_cases y:b=0
  ·have:=c2 (fun z=>h ⟨x,y,z⟩);omega
  ·have:=b2 y;omega
 ·have:=a2 x;omega
theorem qgK {m d y:P3}(hd:d≠Z3) (h0:qA m d=0) (h:yS d y=Z3):qA m y=0:=by
 have:=qfY m d y
 rw [h0,crs_z h,qhh,Int.zero_mul,Int.sub_zero] at this
 exact (Int.mul_eq_zero.mp this).resolve_left (Int.ne_of_gt (qbA hd))
def qgF (n d:P3):P3:=(qA d d * n.1 - qA n d * d.1,qA d d * n.2.1 - qA n d * d.2.1,qA d d * n.2.2 - qA n d * d.2.2)
theorem qa9 (n d y:P3):qA (qgF n d) y=qA d d * qA n y - qA n d * qA d y:=by
 unfold qgF
 generalize qA d d=A
 generalize qA n d=B
 unfold qA
 grind
def sm3 (c:Int) (k:P3):P3:=(c * k.1,c * k.2.1,c * k.2.2)
theorem qfu (c:Int) (k y:P3):qA (sm3 c k) y=c * qA k y:=by unfold sm3 qA;grind
theorem Yi (p:P3):yh p p=Z3:=by unfold yh Z3;simp
theorem qct {p q:P3}(h:p≠q):yh q p≠Z3:=fun e=>h (by
 obtain ⟨a,b,c⟩:=p
 obtain ⟨d,f,g⟩:=q
 simp only [yh,Z3,Prod.mk.injEq] at e ⊢
 omega)
theorem crs_d (e d:P3):qA (yS e d) d=0:=by unfold qA yS;grind
theorem qbE (n e d:P3):yS n (yS e d)=(e.1 * qA n d - d.1 * qA n e,e.2.1 * qA n d - d.2.1 * qA n e,e.2.2 * qA n d - d.2.2 * qA n e):=by
 unfold yS qA
 simp only [Prod.mk.injEq]
 refine ⟨?_,?_,?_⟩ <;> grind
theorem odd3 {pl X:List P3}{s0:P3}(hs:s0∈pl) (hX:∀ x∈X,x∈pl):∃ (Y:List P3) (k:Nat),Y.length=2 * k+1/\(∀ x∈Y,x∈pl)/\∀ f,HVf f Y->HVf f X:=by
 by_cases ho:X.length % 2=1
 ·exact ⟨X,X.length / 2,by omega,hX,fun f h=>h⟩
 ·cases X with
  | nil=>exact ⟨[s0],0,rfl,fun x hx=>by rw [qz.mp hx];exact hs,fun f _=>⟨by simp,by simp⟩⟩
  | cons a t =>
   simp only [List.length_cons] at ho
   refine ⟨t,t.length / 2,by omega,fun x hx=>hX x (qe _ hx),fun f ⟨h1,h2⟩=>?_⟩
   have c1:(a::t).countP (fun x=>decide (f x<0))<=t.countP (fun x=>decide (f x<0))+1:=by rw [List.countP_cons];split <;> omega
   have c2:(a::t).countP (fun x=>decide (0<f x))<=t.countP (fun x=>decide (0<f x))+1:=by rw [List.countP_cons];split <;> omega
   exact ⟨by simp only [List.length_cons];omega,by simp only [List.length_cons];omega⟩
theorem qjB:∀ pl:List P3,∃ B:Nat,∀ x∈pl,N3 B x
 | []=>⟨0,fun _ h=>nomatch h⟩
 | a::t=>by
  obtain ⟨B,hB⟩:=qjB t
  refine ⟨B+a.1.natAbs+a.2.1.natAbs+a.2.2.natAbs,fun x hx=>?_⟩
  rcases List.mem_cons.mp hx with rfl | hx
  ·exact ⟨by omega,by omega,by omega⟩
  ·obtain ⟨b1,b2,b3⟩:=hB x hx
   exact ⟨by omega,by omega,by omega⟩
theorem qhi {A:Nat}{d y:P3}(h1:N3 A d) (h2:N3 A y):(qA d y).natAbs<=3 * (A * A):=by
 have a:=yG h1.1 h2.1
 have b:=yG h1.2.1 h2.2.1
 have c:=yG h1.2.2 h2.2.2
 unfold qA
 omega
theorem qgM (n:P3):∃ e:P3,e≠Z3/\qA n e=0:=by
 obtain ⟨a,b,c⟩:=n
 by_cases h:a=0/\b=0
 ·refine ⟨(1,0,0),by decide,?_⟩
  show a * 1+b * 0+c * 0=0
  omega
 ·refine ⟨(b,-a,0),fun e=>h ?_,?_⟩
  ·simp only [Z3,Prod.mk.injEq] at e
   omega
  ·show a * b+b * (-a)+c * 0=0
   grind
theorem ham3 {pl A B C:List P3}(hX:∀ X∈[A,B,C],∀ x∈X,x∈pl) {u v w:P3}(hu:u∈pl) (hv:v∈pl) (hw:w∈pl) (hn:upr u v w≠Z3):Ok3 pl [A,B,C]:=by
 obtain ⟨Bd,hBd⟩:=qjB pl
 obtain ⟨A',ka,lA,mA,fA⟩:=odd3 hu (hX A (by simp))
 obtain ⟨B',kb,lB,mB,fB⟩:=odd3 hu (hX B (by simp))
 obtain ⟨C',kc,lC,mC,fC⟩:=odd3 hu (hX C (by simp))
 obtain ⟨t0,ht0⟩:∃ t0,t0=6 * Bd:=⟨_,rfl⟩
 obtain ⟨t1,ht1⟩:∃ t1,t1=t0+24 * (Bd * Bd * t0)+1:=⟨_,rfl⟩
 obtain ⟨n,p0,b,c,big,hp0,hA,hB,hC,nb,nc⟩:=qeN (N:=2 * (48 * (Bd * Bd * t1))+2) lA lB lC (Bd:=Bd) (fun X hX' x hx=>by
  simp only [List.mem_cons,List.mem_nil_iff,or_false] at hX'
  rcases hX' with rfl | rfl | rfl
  ·exact hBd x (mA x hx)
  ·exact hBd x (mB x hx)
  ·exact hBd x (mC x hx)) (by omega)
 obtain ⟨a,ha⟩:∃ a,a=qA n p0:=⟨_,rfl⟩
 rw [<- ha] at nb nc hA
 rw [<- ht0] at nb nc
 have m0:p0∈pl:=mA _ hp0
 have fin:∀ p q r (e:Int),p∈pl->q∈pl->r∈pl->upr p q r≠Z3->e≠0->(∀ x∈pl,(0<e * jf p q r x->(t0:Int)<qA n x - a)/\(e * jf p q r x<0->qA n x - a < -(t0:Int)))->Ok3 pl [A,B,C]:=fun p q r e hp hq hr hne he h=>by
  refine ⟨p,q,r,hp,hq,hr,hne,fun X hX'=>?_⟩
  simp only [List.mem_cons,List.mem_nil_iff,or_false] at hX'
  rcases hX' with rfl | rfl | rfl
  ·exact fA _ (qdt he hA fun x hx=>⟨fun z=>by have:=(h x (mA x hx)).1 z;omega,fun z=>by have:=(h x (mA x hx)).2 z;omega⟩)
  ·exact fB _ (qdt he hB fun x hx=>⟨fun z=>by have:=(h x (mB x hx)).1 z;omega,fun z=>by have:=(h x (mB x hx)).2 z;omega⟩)
  ·exact fC _ (qdt he hC fun x hx=>⟨fun z=>by have:=(h x (mC x hx)).1 z;omega,fun z=>by have:=(h x (mC x hx)).2 z;omega⟩)
 by_cases c1:∃ p∈pl,∃ q∈pl,∃ r∈pl,(qA n p - a).natAbs<=t1/\(qA n q - a).natAbs<=t1/\(qA n r - a).natAbs<=t1/\upr p q r≠Z3
 ·obtain ⟨p,hp,q,hq,r,hr,tp,tq,tr,hne⟩:=c1
  obtain ⟨e,he,h⟩:=cop hBd hp hq hr tp tq tr (by omega)
  exact fin p q r e hp hq hr hne he fun x hx=>⟨fun z=>by have:=(h x hx).1 z;omega,fun z=>by have:=(h x hx).2 z;omega⟩
 have col:∀ p∈pl,∀ q∈pl,∀ r∈pl,(qA n p - a).natAbs<=t1->(qA n q - a).natAbs<=t1->(qA n r - a).natAbs<=t1->upr p q r=Z3:=fun p hp q hq r hr tp tq tr=>Classical.byContradiction fun z=>c1 ⟨p,hp,q,hq,r,hr,tp,tq,tr,z⟩
 by_cases c2:∃ p∈pl,∃ q∈pl,p≠q/\(qA n p - a).natAbs<=t0/\(qA n q - a).natAbs<=t0
 ·obtain ⟨p,hp,q,hq,hpq,tp,tq⟩:=c2
  have hd0:=qct hpq
  have ed:qA n (yh q p)=qA n q - qA n p:=jQ ..
  obtain ⟨d,hd⟩:∃ d,d=yh q p:=⟨_,rfl⟩
  have bd:N3 (Bd+Bd) d:=by rw [hd];exact yD (hBd p hp) (hBd q hq)
  have eu:∀ x,upr p q x=yS d (yh x p):=fun x=>by rw [hd];rfl
  rw [<- hd] at hd0 ed
  have pd:=qbA hd0
  have near:∀ x∈pl,(qA n x - a).natAbs<=t1->yS d (yh x p)=Z3:=fun x hx tx=>by rw [<- eu];exact col p hp q hq x hx (by omega) (by omega) tx
  have far:∀ x∈pl,t1<(qA n x - a).natAbs->(0<qA n x - a->0<qA (qgF n d) (yh x p))/\(qA n x - a<0->qA (qgF n d) (yh x p)<0):=fun x hx tx=>by
   have e1:qA n (yh x p)=qA n x - qA n p:=jQ ..
   have b1:(qA n d).natAbs<=t0+t0:=by rw [ed];omega
   have b2:=qhi bd (yD (hBd p hp) (hBd x hx))
   have b3:=yG b1 b2
   have e3:(t0+t0) * (3 * ((Bd+Bd) * (Bd+Bd)))=24 * (Bd * Bd * t0):=by grind
   rw [e3] at b3
   rw [qa9]
   generalize qA n d * qA d (yh x p)=F at *
   have e4:∀ y:Int,0<y->y<=qA d d * y:=fun y hy=>by
    have:=Int.mul_le_mul_of_nonneg_right (show 1<=qA d d by omega) (Int.le_of_lt hy)
    omega
   constructor
   ·intro z
    have:=e4 (qA n (yh x p)) (by omega)
    omega
   ·intro z
    have:=e4 (- qA n (yh x p)) (by omega)
    rw [Int.mul_neg] at this
    omega
  have m0':qA (qgF n d) d=0:=by rw [qa9];grind
  have hz:∀ x∈pl,qA (qgF n d) (yh x p)=0->yS d (yh x p)=Z3:=fun x hx z=>by
   by_cases tx:(qA n x - a).natAbs<=t1
   ·exact near x hx tx
   ·have:=far x hx (by omega)
    omega
  obtain ⟨z,mz,nz,hh⟩:=rot m0' hz (Classical.byContradiction fun no=>hn (qd7 hpq (fun x hx=>by
   rw [eu]
   exact hz x hx (Classical.byContradiction fun q=>no ⟨x,hx,q⟩)) u hu v hv w hw))
  refine fin p q z _ hp hq mz (fun e=>nz ?_) nz fun x hx=>?_
  ·rw [eu] at e
   exact qgK hd0 m0' e
  ·have ee:jf p q z x=d4 d (yh z p) (yh x p):=by rw [JP,<- hd];rfl
   rw [ee]
   have key:∀ s:Int,qA (qgF n d) (yh x p)≠0->t1<(qA n x - a).natAbs:=fun _ hne=>Nat.not_le.mp fun tx=>hne (qgK hd0 m0' (near x hx tx))
   obtain ⟨h1,h2⟩:=hh x hx
   constructor
   ·intro q
    have:=h1 q
    have k:=key 0 (by omega)
    have:=far x hx k
    omega
   ·intro q
    have:=h2 q
    have k:=key 0 (by omega)
    have:=far x hx k
    omega
 -- just one place is near
 have one:∀ x∈pl,x≠p0->t0<(qA n x - a).natAbs:=fun x hx hne=>Nat.not_le.mp fun tx=>c2 ⟨x,hx,p0,m0,hne,tx,by rw [<- ha];omega⟩
 have en:∀ x,qA n (yh x p0)=qA n x - a:=fun x=>by rw [jQ,<- ha]
 have sgn:∀ x∈pl,(0<qA n (yh x p0)->(t0:Int)<qA n x - a)/\(qA n (yh x p0)<0->qA n x - a < -(t0:Int)):=fun x hx=>by
  by_cases e:x=p0
  ·subst e
   rw [Yi,qhh]
   simp
  ·have:=one x hx e
   rw [en]
   omega
 obtain ⟨e,he0,hen⟩:=qgM n
 obtain ⟨z1,mz1,nz1,hh1⟩:=rot (S:=pl) (p:=p0) hen (fun x hx z=>by
  by_cases q:x=p0
  ·subst q
   rw [Yi]
   unfold yS Z3
   simp
  ·have:=one x hx q
   rw [en] at z
   omega) (by
  by_cases q:u=p0
  ·have hvne:v≠p0:=fun z=>YZ hn (q.trans z.symm)
   refine ⟨v,hv,?_⟩
   have:=one v hv hvne
   rw [en];omega
  ·refine ⟨u,hu,?_⟩
   have:=one u hu q
   rw [en];omega)
 have hp1:p0≠z1:=fun q=>nz1 (by rw [<- q,Yi,qhh])
 have hd0:=qct hp1
 obtain ⟨d,hd⟩:∃ d,d=yh z1 p0:=⟨_,rfl⟩
 have eu:∀ x,upr p0 z1 x=yS d (yh x p0):=fun x=>by rw [hd];rfl
 rw [<- hd] at hd0 nz1 hh1
 obtain ⟨m,hm⟩:∃ m,m=sm3 (qA n d) (yS e d):=⟨_,rfl⟩
 have em:∀ y,qA m y=qA n d * d4 e d y:=fun y=>by rw [hm,qfu];rfl
 have md:qA m d=0:=by rw [hm,qfu,crs_d,Int.mul_zero]
 have hm1:∀ x∈pl,(0<qA m (yh x p0)->0<qA n (yh x p0))/\(qA m (yh x p0)<0->qA n (yh x p0)<0):=fun x hx=>by
  rw [em]
  exact hh1 x hx
 by_cases c3:∃ x∈pl,qA m (yh x p0)=0/\yS d (yh x p0)≠Z3
 ·obtain ⟨x1,hx1,h0,h1⟩:=c3
  obtain ⟨g,hg⟩:∃ g,g=yh x1 p0:=⟨_,rfl⟩
  rw [<- hg] at h0 h1
  have mU:yS m (yS d g)=Z3:=by rw [qbE,h0,md];simp [Z3]
  have pU:=qbA h1
  have id:∀ y,qA (yS d g) (yS d g) * qA m y=qA m (yS d g) * qA (yS d g) y:=fun y=>by
   have:=qfY m (yS d g) y
   rw [mU] at this
   have z:qA Z3 (yS y (yS d g))=0:=by simp [qA,Z3]
   rw [z] at this
   omega
  have m0':m≠Z3:=fun q=>by
   have k0:yS e d≠Z3:=fun z=>by
    have:=qbE n e d
    rw [z,hen] at this
    have t:yS n Z3=Z3:=by unfold yS Z3;simp
    rw [t] at this
    have t1:=congrArg Prod.fst this
    have t2:=congrArg (fun z=>z.2.1) this
    have t3:=congrArg (fun z=>z.2.2) this
    simp only [Z3,Int.mul_zero,Int.sub_zero] at t1 t2 t3
    have can:∀ x:Int,0=x * qA n d->x=0:=fun x h=>(Int.mul_eq_zero.mp h.symm).resolve_right nz1
    exact he0 (Prod.ext (can _ t1) (Prod.ext (can _ t2) (can _ t3)))
   rw [hm] at q
   have can:∀ x:Int,qA n d * x=0->x=0:=fun x h=>(Int.mul_eq_zero.mp h).resolve_left nz1
   have t1:=congrArg Prod.fst q
   have t2:=congrArg (fun z=>z.2.1) q
   have t3:=congrArg (fun z=>z.2.2) q
   exact k0 (Prod.ext (can _ t1) (Prod.ext (can _ t2) (can _ t3)))
  have ne:qA m (yS d g)≠0:=fun q=>by
   have:=id m
   rw [q,Int.zero_mul] at this
   have:=(Int.mul_eq_zero.mp this).resolve_left (Int.ne_of_gt pU)
   have:=qbA m0'
   omega
  refine fin p0 z1 x1 _ m0 mz1 hx1 (by rw [eu,<- hg];exact h1) ne fun x hx=>?_
  have ee:jf p0 z1 x1 x=qA (yS d g) (yh x p0):=by rw [JP,<- hd,<- hg]
  rw [ee,<- id]
  obtain ⟨q1,q2⟩:=hm1 x hx
  obtain ⟨q3,q4⟩:=sgn x hx
  constructor
  ·intro q
   exact q3 (q1 (jF pU q))
  ·intro q
   refine q4 (q2 ?_)
   have:=jF (x:=- qA m (yh x p0)) pU (by rw [Int.mul_neg];omega)
   omega
 ·have hz:∀ x∈pl,qA m (yh x p0)=0->yS d (yh x p0)=Z3:=fun x hx z=>Classical.byContradiction fun q=>c3 ⟨x,hx,z,q⟩
  obtain ⟨z2,mz2,nz2,hh2⟩:=rot md hz (Classical.byContradiction fun no=>hn (qd7 hp1 (fun x hx=>by
   rw [eu]
   exact hz x hx (Classical.byContradiction fun q=>no ⟨x,hx,q⟩)) u hu v hv w hw))
  refine fin p0 z1 z2 _ m0 mz1 mz2 (fun q=>nz2 ?_) nz2 fun x hx=>?_
  ·rw [eu] at q
   exact qgK hd0 md q
  ·have ee:jf p0 z1 z2 x=d4 d (yh z2 p0) (yh x p0):=by rw [JP,<- hd];rfl
   rw [ee]
   obtain ⟨q1,q2⟩:=hm1 x hx
   obtain ⟨q3,q4⟩:=sgn x hx
   obtain ⟨q5,q6⟩:=hh2 x hx
   exact ⟨fun q=>q3 (q1 (q5 q)),fun q=>q4 (q2 (q6 q))⟩
end L2
local macro_rules | `(tactic| walk_at "i")=>`(tactic| first | refine Jk (fun c=>?_) (fun c=>?_))
namespace K63
open PySem L2
def top (i:Nat):Stmt:=PySem.Challenge.pw_halveline_k63_whole_halving_flats.main.body.getD i (.Pass ⟨0,0,0,0⟩)
structure Txt (mg:Str->Option Value):Prop where
 len_:mg "len" = none
 range_:mg "range" = none
 max_:mg "max" = none
 min_:mg "min" = none
 abs_:mg "abs" = none
 int_:mg "int" = none
 isinstance_:mg "isinstance" = none
 tuple_:mg "tuple" = none
 bool_:mg "bool" = none
 list_:mg "list" = none
 all_:mg "all" = none
 any_:mg "any" = none
 set_:mg "set" = none
 sorted_:mg "sorted" = none
 str_:mg "str" = none
 enumerate_:mg "enumerate" = none
 zip_:mg "zip" = none
 divmod_:mg "divmod" = none
abbrev qgi:Stmt:=top 1
abbrev jm:Stmt:=top 2
abbrev jU:Stmt:=top 3
abbrev jA:Stmt:=top 4
abbrev qan:Stmt:=top 6
abbrev jv:Stmt:=top 7
abbrev Y1:Stmt:=top 12
abbrev jW:Stmt:=top 13
abbrev Jn:Stmt:=top 14
abbrev yU:Stmt:=top 15
abbrev JE:Stmt:=top 16
abbrev jx:Stmt:=top 17
abbrev jV:Stmt:=top 18
abbrev ji:Stmt:=top 20
abbrev jM:Stmt:=top 21
abbrev jX:Stmt:=top 23
abbrev JG:Stmt:=top 24
abbrev JF:Stmt:=top 25
abbrev jY:Stmt:=top 26
abbrev y4:Stmt:=top 27
abbrev yV:Stmt:=top 28
abbrev Yk:Stmt:=top 29
abbrev jO:Stmt:=top 30
abbrev yW:Stmt:=top 31
abbrev jd:Stmt:=top 32
abbrev jN:Stmt:=top 33
abbrev jn:Stmt:=top 34
abbrev jZ:Stmt:=top 35
abbrev qeb:Stmt:=top 36
section
variable {P:Program}{w:World}{K:W.Frag}{mg:Str->Option Value}{base:Heap}{CX:CXT}
abbrev PA0:MO:=.pot 2147483629
def sPot:SpD:=fun es μ Q=>∃ (ns:List Int) (k:Nat),es=[.d (.list (ns.map .int)),.d (.int k)]/\ns.length<=63/\k<=63/\∀ p,p∉μ.map Prod.fst->Q (.m p) ((p,PA0)::μ)
theorem qfb {ns:List Int}{lo hi:Option Int}{i:Nat}{x:PyData}(h:(Z7 (ns.map PyData.int) lo hi)[i]?=some x):∃ y,x = .int y:=by
 obtain ⟨y,_,e⟩:=qK.mp (yH (List.mem_of_mem_take (List.mem_of_getElem? h)))
 exact ⟨y,e.symm⟩
theorem qfy:FnScope ["_law_script", "_law_k", "_law_cell", "_law_mixed", "_law_one"] ["_law_script", "_law_k"] (qt jX):=⟨rfl,rfl,rfl,by decide +kernel,rfl,by decide +kernel,by decide +kernel⟩
theorem qiU {f:Addr}{fd:FuncData}(F:Fun K "_law_pot" "_law_pot" jX f fd) (T:Txt mg):FnOk P w K mg base CX 1 f fd ["_law_script", "_law_k"] (yf K sPot):=by
 refine F.okD qfy (fun es μ Q hq0=>by obtain ⟨ns,k,e,_⟩:=hq0;subst e;rfl) (fun cdv A outer s H E es μ Q hr hq0=>?_)
 obtain ⟨ns,n,e,hl,hn,k⟩:=hq0
 subst e
 have nd:=qfy.nd
 have key:∃ t,DSs K (qdR CX P w K mg base ["_law_script", "_law_k", "_law_cell", "_law_mixed", "_law_one"] "_law_pot" (qt jX) f cdv A outer s H E).nox ((yX jX).drop 1) t ∧
   ∀ cell:Int,t { nx:=fun _ μ'=>Q (.d .none) μ',rt:=Q } [some (.d (.list (ns.map .int))),some (.d (.int n)),some (.d (.int cell)),none,none] μ:=by
  refine ⟨_,(qx (ym (i:=3) nd rfl (by first | exact Or.inl rfl | exact Or.inr rfl) (yj jr qu (yj yn qu (dv 1))))
   (qx (Jl PassesOwn.never rfl (js (Yu (dv 0) j7 (j6 qu))) (qF (i:=4) nd rfl (by first | exact Or.inl rfl | exact Or.inr rfl)) (qG (ym (i:=3) nd rfl (by first | exact Or.inl rfl | exact Or.inr rfl) (yj qbt (yj jr (yj yn (dv 3) qu) (dv 4)) qu))))
   (qG (qaK (Z6 (qc (qY (qfW rfl) (by rfl) T.max_ qd3 (qc qu (qc (yj yq (dv 2) (yj Ys qu qu)) qm))) (qc (dv 3) qm))))))),fun cell=>?_⟩
  refine ⟨⟨qf1 (by decide) (by decide),qf1 (by omega) (by omega)⟩,_,.d _,_,.d _,?_⟩
  refine qj4 (fun i ρ' μ'=>μ'=μ/\∃ (z:Int) (v:Option En),ρ'=[some (.d (.list (ns.map .int))),some (.d (.int n)),some (.d (.int cell)),some (.d (.int z)),v]/\0<=z/\z<2147483629) ⟨rfl,_,_,rfl,by omega,by omega⟩ (fun _ _ _ _=>.d _) ?_ ?_
  ·rintro i x ρ' μ' hx ⟨rfl,z,v,rfl,z0,z1⟩
   obtain ⟨y,rfl⟩:=qfb hx
   exact ⟨⟨qf1 (by omega) (by omega),qf1 (by decide) (by decide)⟩,(show (0:Int)<2147483629 by decide),Wks.of ⟨rfl,_,_,rfl,Int.emod_nonneg _ (by decide),Int.emod_lt_of_pos _ (by decide)⟩⟩
  ·rintro ρ' μ' ⟨rfl,z,v,rfl,z0,z1⟩
   refine ⟨⟨by decide,by decide,by decide⟩,zl2,fun p hp=>⟨_,_,FzR.pot ?_ z0 z1,k p hp⟩⟩
   dsimp only
   split <;> omega
 obtain ⟨t,ht,hk⟩:=key
 refine ⟨_,(qx (ym (i:=2) nd rfl (by first | exact Or.inl rfl | exact Or.inr rfl) (qhs (yB qdK (dv 1) (qY Jb (by rfl) T.len_ Jd (qc (dv 0) qm)) (q0 _)) (yJ qE (dv 0) (dv 1) (fun _ _=>rfl)) qu))
   ht),?_⟩
 refine ⟨_,.l (.d _),?_⟩
 rw [List.length_map]
 refine Jk (fun c=>?_) (fun c=>?_)
 ·have hc:(n:Int)<(ns.length:Int):=qv c
  have hn2:n<ns.length:=by omega
  exact ⟨.int ns[n],Zw (by rw [List.getElem?_map,List.getElem?_eq_getElem hn2];rfl),hk ns[n]⟩
 ·exact hk 0
theorem qcC:FnScope ["_law_pot_here", "_law_many", "_law_digit"] ["_law_pot_here", "_law_many"] (qt JG):=⟨rfl,rfl,rfl,by decide +kernel,rfl,by decide +kernel,by decide +kernel⟩
theorem qgP {f:Addr}{fd:FuncData}(F:Fun K "_law_take" "_law_take" JG f fd):FnOk P w K mg base CX 1 f fd ["_law_pot_here", "_law_many"] (yf K (qar 2147483629)):=by
 refine FnOk.imp (sp:=qcu 2147483629) ?_ fun _ _ _ _ h=>qhg h
 refine F.okG qcC (fun vs H Q E h=>?_) (fun cdv A outer s H vs Q E hr h=>?_)
 ·obtain ⟨p,m,rfl,_⟩:=h
  rfl
 ·obtain ⟨p,m,rfl,⟨p0,p1,e,h0,h1,h2⟩,m0,m1,k⟩:=h
  have nd:=qcC.nd
  refine ⟨_,(Ju (qiy (qcM qiQ (qau j4 (pv 0) jo (fun _ _=>rfl)) jo (q0 _)) (Ju (qfJ (i:=2) nd rfl (by first | exact Or.inl rfl | exact Or.inr rfl) (Yz ZN (qau j4 (pv 0) jo (fun _ _=>rfl)) (pv 1)))
   (Ju (qcO (Yz qc1 (qau j4 (pv 0) jo (fun _ _=>rfl)) (pv 1)) (qfL (pv 0) jo qa3))
   (qas (qa6 (pv 2))))) qcN)
   (Ju (qcO (Yz ZN (Yz qc2 (Yz qax (qau j4 (pv 0) jo (fun _ _=>rfl)) jo) jo) jo) (qfL (pv 0) jo qa3))
   (qas (qa6 (Yz ZN (Yz qc1 (Yz ZN (Yz qax (qau j4 (pv 0) jo (fun _ _=>rfl)) (qau j4 (pv 0) jo (fun _ _=>rfl))) jo) jo) (pv 1)))))),?_⟩
  refine ⟨_,rfl,p,_,_,_,rfl,rfl,SqL.of e,rfl,_,_,rfl,rfl,_,rfl,?_⟩
  refine Jk (fun c=>?_) (fun c=>?_)
  ·have hc:0<p0:=qv c
   refine ⟨_,rfl,p,_,_,_,rfl,rfl,SqL.of e,rfl,_,rfl,_,_,rfl,rfl,m0,?_⟩
   refine ⟨_,rfl,p,_,_,_,rfl,rfl,SqL.of e,rfl,_,rfl,_,_,rfl,rfl,⟨m0,by omega⟩,_,rfl,p,_,_,_,rfl,rfl,e,rfl,?_⟩
   refine ⟨_,rfl,?_⟩
   refine k _ _ (Int.emod_nonneg _ (by omega)) (Int.emod_lt_of_pos _ m0) ⟨p0 / m,p1,qV,Int.ediv_nonneg h0 (by omega),h1,h2⟩ Stp.upd
  ·refine ⟨_,rfl,p,_,_,_,rfl,rfl,SqL.of e,rfl,_,_,rfl,rfl,⟨Big.of 2147483629 (by decide) (by omega) (by omega),Big.of 39373 (by decide) (by decide) (by decide)⟩,_,_,rfl,rfl,_,_,rfl,rfl,(show (0:Int)<2147483629 by decide),_,rfl,p,_,_,_,rfl,rfl,e,rfl,?_⟩
   have g0:0<=(p1 * 39373+2311) % 2147483629:=Int.emod_nonneg _ (by decide)
   have g1:(p1 * 39373+2311) % 2147483629<2147483629:=Int.emod_lt_of_pos _ (by decide)
   have e':∀ z,(upd H p (.lst [V.int p0,V.int z])) p=some (.lst [V.int p0,V.int z]):=fun z=>qV
   refine ⟨_,rfl,p,_,_,_,rfl,rfl,SqL.of (e' _),rfl,_,rfl,p,_,_,_,rfl,rfl,SqL.of (e' _),rfl,_,_,rfl,rfl,⟨Big.of 2147483629 (by decide) (by omega) (by omega),Big.of 2147483629 (by decide) (by omega) (by omega)⟩,_,_,rfl,rfl,(show (0:Int)<2147483587 by decide),_,_,rfl,rfl,⟨by decide,by decide⟩,_,rfl,_,_,rfl,rfl,m0,?_⟩
   exact k _ _ (Int.emod_nonneg _ (by omega)) (Int.emod_lt_of_pos _ m0) ⟨p0,_,e' _,h0,g0,g1⟩ Stp.upd
theorem e8:(10:Int) ^ (8:Int).toNat=100000000:=by decide
theorem e30:(10:Int) ^ (30:Int).toNat=1000000000000000000000000000000:=by decide
theorem qcB:FnScope ["_law_pot_here", "_law_found", "_law_k"] ["_law_pot_here"] (qt JF):=⟨rfl,rfl,rfl,by decide +kernel,rfl,by decide +kernel,by decide +kernel⟩
theorem qgO {f:Addr}{fd:FuncData}(F:Fun K "_law_wide" "_law_wide" JF f fd) (T:Txt mg) (hX:NoX CX) (O_law_take:Own P w K mg base CX 1 "_law_take" ["_law_pot_here", "_law_many"] (yf K (qar 2147483629))):FnOk P w K mg base CX 2 f fd ["_law_pot_here"] (yf K (qhJ 2147483629)):=by
 refine F.okD qcB (fun es μ Q hq0=>by obtain ⟨p,e,_⟩:=hq0;subst e;rfl) (fun cdv A outer s H E es μ Q hr hq0=>?_)
 obtain ⟨p,e,hp,k⟩:=hq0
 subst e
 have nd:=qcB.nd
 refine ⟨_,(qx (ym (i:=1) nd rfl (by first | exact Or.inl rfl | exact Or.inr rfl) qu)
   (qx (Jl PassesOwn.never rfl (Jy rfl T.range_ (qc qu qm)) (qF (i:=2) nd rfl (by first | exact Or.inl rfl | exact Or.inr rfl)) (qG (ym (i:=1) nd rfl (by first | exact Or.inl rfl | exact Or.inr rfl) (yj jr (yj yn (dv 1) (yj Ys qu qu)) (ya O_law_take hX (hr.mono (by decide)) rfl (qc (dv 0) (qc (yj Ys qu qu) qm)))))))
   (qG (qW (yj jr (yj yq (yj qbt (dv 1) (yj yq (yj yn qu (yj Ys qu qu)) qu)) (yj Ys qu qu)) qu))))),?_⟩
 refine ⟨by decide,by decide,qhN (fun i ρ' μ'=>μ'=μ/\∃ (z:Int) (v:Option En),ρ'=[some (.m p),some (.d (.int z)),v]/\0<=z/\z<100000000 ^ i) ⟨rfl,0,none,rfl,by decide,by decide⟩ ?_ ?_⟩
 ·rintro i ρ' μ' hi ⟨rfl,z,v,rfl,z0,z1⟩
  have hb:z<10000000000000000000000000000000000000000:=by
   have:i=0\/i=1\/i=2\/i=3:=by have hi:i<4:=hi;omega
   rcases this with rfl | rfl | rfl | rfl <;> simp at z1 <;> omega
  refine ⟨⟨by decide,by decide,by decide⟩,⟨qf1 (by omega) (by omega),by rw [e8];exact qf1 (by decide) (by decide)⟩,⟨by decide,by decide,by decide⟩,p,_,rfl,hp,by rw [e8];decide,by rw [e8];decide,fun d d0 d1=>Wks.of ⟨rfl,_,_,rfl,?_,?_⟩⟩
  ·rw [e8] at *;omega
  ·rw [e8] at *
   rw [Int.pow_succ]
   generalize (100000000:Int) ^ i=y at z1
   omega
 ·rintro ρ' μ' ⟨rfl,z,v,rfl,z0,z1⟩
  refine ⟨⟨by decide,by decide,by decide⟩,⟨qf1 (by decide) (by decide),by rw [e30];exact qf1 (by decide) (by decide)⟩,by rw [e30];show (0:Int)<2 * 1000000000000000000000000000000 - 1;decide,⟨by decide,by decide,by decide⟩,k _ ?_⟩
  rw [e30]
  unfold Num
  omega
theorem ZL:FnScope ["_law_pot_here"] ["_law_pot_here"] (qt jY):=⟨rfl,rfl,rfl,by decide +kernel,rfl,by decide +kernel,by decide +kernel⟩
theorem qc4 {f:Addr}{fd:FuncData}(F:Fun K "_law_number" "_law_number" jY f fd) (hX:NoX CX) (O_law_take:Own P w K mg base CX 1 "_law_take" ["_law_pot_here", "_law_many"] (yf K (qar 2147483629))) (O_law_wide:Own P w K mg base CX 2 "_law_wide" ["_law_pot_here"] (yf K (qhJ 2147483629))):FnOk P w K mg base CX 3 f fd ["_law_pot_here"] (yf K (qhJ 2147483629)):=by
 refine F.okD ZL (fun es μ Q hq0=>by obtain ⟨p,e,_⟩:=hq0;subst e;rfl) (fun cdv A outer s H E es μ Q hr hq0=>?_)
 obtain ⟨p,e,hp,k⟩:=hq0
 subst e
 have nd:=ZL.nd
 refine ⟨_,(qx (jB (yB (Z1 hr.units) (ya O_law_take hX (hr.mono (by decide)) rfl (qc (dv 0) (qc qu qm))) qu (q0 _)) (qG (qW (ya O_law_wide hX (hr.mono (by decide)) rfl (qc (dv 0) qm)))) yL)
   (qG (qW (yj yq (ya O_law_take hX (hr.mono (by decide)) rfl (qc (dv 0) (qc qu qm))) qu)))),?_⟩
 refine ⟨p,_,rfl,hp,by decide,by decide,fun d d0 d1=>Jk (fun c=>?_) (fun c=>?_)⟩
 ·exact ⟨p,rfl,hp,fun n hn=>k n hn⟩
 ·refine ⟨p,_,rfl,hp,by decide,by decide,fun d d0 d1=>k _ ?_⟩
  unfold Num
  omega
end
section
variable {P:Program}{w:World}{K:W.Frag}{mg:Str->Option Value}{base:Heap}{CX:CXT}
abbrev B0:Nat:=1000000000000000000000000000000
theorem bI {n:Int}(h:n.natAbs<=B0):Big n:=jK h (show B0<2 ^ 1000 by decide +kernel)
theorem bII {n:Int}(h:n.natAbs<=B0+B0):Big n:=jK h (show B0+B0<2 ^ 1000 by decide +kernel)
theorem bM:B0 * B0 * 100<2 ^ 1000:=by decide +kernel
theorem qfj {n:Int}(h:n.natAbs<=B0 * B0 * 100):Big n:=jK h bM
theorem bU:(B0+B0) * (B0+B0)+(B0+B0) * (B0+B0)<=B0 * B0 * 100:=by decide +kernel
def qgq:SpD:=fun es μ Q=>∃ n:Int,es=[.d (.int n)]/\Q (.d (.int n.sign)) μ
theorem qcE:FnScope ["number"] ["number"] (qt qgi):=⟨rfl,rfl,rfl,by decide +kernel,rfl,by decide +kernel,by decide +kernel⟩
theorem qgR {f:Addr}{fd:FuncData}(F:Fun K "sign" "sign" qgi f fd)  : FnOk P w K mg base CX 1 f fd ["number"] (yf K qgq):=by
 refine F.okD qcE (fun es μ Q hq0=>by obtain ⟨a,e,_⟩:=hq0;subst e;rfl) (fun cdv A outer s H E es μ Q hr hq0=>?_)
 obtain ⟨a,e,k⟩:=hq0
 subst e
 have nd:=qcE.nd
 refine ⟨_,(qx (jB (yB qe5 (dv 0) qu (q0 _)) (qG (qW qu)) yL)
   (qx (jB (yB qdK (dv 0) qu (q0 _)) (qG (qW (qjq Z0 qu))) yL)
   (qG (qW qu)))),?_⟩
 refine Jk (fun c=>?_) (fun c=>Jk (fun c2=>?_) (fun c2=>?_))
 ·have c:0<a:=qv c
  rw [Int.sign_eq_one_of_pos c] at k;exact k
 ·have c2:a<0:=qv c2
  rw [Int.sign_eq_neg_one_of_neg c2] at k;exact k
 ·have c:¬ 0<a:=fun z=>c (qB z)
  have c2:¬ a<0:=fun z=>c2 (qB z)
  have:a=0:=by omega
  subst this;exact k
def sGcd:SpD:=fun es μ Q=>∃ a b:Int,es=[.d (.int a),.d (.int b)]/\Q (.d (.int (Int.gcd a b:Nat))) μ
theorem qic:FnScope ["one", "other", "divisor", "rest"] ["one", "other"] (qt jm):=⟨rfl,rfl,rfl,by decide +kernel,rfl,by decide +kernel,by decide +kernel⟩
theorem ok_cd {f:Addr}{fd:FuncData}(F:Fun K "common_divisor" "common_divisor" jm f fd) (T:Txt mg):FnOk P w K mg base CX 1 f fd ["one", "other"] (yf K sGcd):=by
 refine F.okD qic (fun es μ Q hq0=>by obtain ⟨a,b,e,_⟩:=hq0;subst e;rfl) (fun cdv A outer s H E es μ Q hr hq0=>?_)
 obtain ⟨a,b,e,k⟩:=hq0
 subst e
 have nd:=qic.nd
 refine ⟨_,(qx (ym (i:=2) nd rfl (by first | exact Or.inl rfl | exact Or.inr rfl) (qY Z5 (by rfl) T.abs_ qad (qc (dv 0) qm)))
   (qx (ym (i:=3) nd rfl (by first | exact Or.inl rfl | exact Or.inr rfl) (qY Z5 (by rfl) T.abs_ qad (qc (dv 1) qm)))
   (qx (qbr PassesOwn.never (yB (YF hr.units) (dv 3) qu (q0 _)) (qG (qdI (i:=2) (j:=3) rfl nd rfl rfl (by decide) rfl rfl (qc (dv 3) (qc (yj qbt (dv 2) (dv 3)) qm)) rfl)))
   (qG (qW (dv 2)))))),?_⟩
 refine ⟨fun m ρ' μ'=>μ'=μ/\∃ f r:Nat,ρ'=[some (.d (.int a)),some (.d (.int b)),some (.d (.int f)),some (.d (.int r))]/\m=r/\Nat.gcd f r=Int.gcd a b,⟨_,rfl,_,_,rfl,rfl,rfl⟩,?_⟩
 rintro m ρ' μ' ⟨rfl,f,r,rfl,rfl,g⟩
 refine Jk (fun c=>?_) (fun c=>?_)
 ·have hm:m≠0:=by
   rintro rfl
   exact absurd c (by decide)
  refine ⟨(show (0:Int)<(m:Int) by omega),f % m,Nat.mod_lt _ (by omega),Wks.of ⟨rfl,m,f % m,?_,rfl,by rw [qbk];exact g⟩⟩
  rw [Int.natCast_emod];rfl
 ·have:m=0:=by
   by_cases z:m=0
   ·exact z
   ·exact absurd (show (!decide ((m:Int)=0))=true by simp;omega) c
  subst this
  rw [Nat.gcd_zero_right] at g
  subst g
  exact k
def qjO:SpD:=fun es μ Q=>∃ p q r:P3,es=[.d (spD p),.d (spD q),.d (spD r)]/\N3 B0 p/\N3 B0 q/\N3 B0 r/\Q (.d (spD (upr p q r))) μ
theorem YJ:FnScope ["one", "two", "three", "x", "y", "z", "g", "h", "k", "u", "v", "w"] ["one", "two", "three"] (qt Y1):=⟨rfl,rfl,rfl,by decide +kernel,rfl,by decide +kernel,by decide +kernel⟩
theorem qbT {f:Addr}{fd:FuncData}(F:Fun K "upright" "upright" Y1 f fd)  : FnOk P w K mg base CX 1 f fd ["one", "two", "three"] (yf K qjO):=by
 refine F.okD YJ (fun es μ Q hq0=>by obtain ⟨p,q,r,e,_⟩:=hq0;subst e;rfl) (fun cdv A outer s H E es μ Q hr hq0=>?_)
 obtain ⟨p,q,r,e,h1,h2,h3,k⟩:=hq0
 subst e
 have nd:=YJ.nd
 refine ⟨_,(qx (qbs (dv 0) (j8 (n:=3) rfl (qR (qF (i:=3) nd rfl (by first | exact Or.inl rfl | exact Or.inr rfl)) (qR (qF (i:=4) nd rfl (by first | exact Or.inl rfl | exact Or.inr rfl)) (qR (qF (i:=5) nd rfl (by first | exact Or.inl rfl | exact Or.inr rfl)) jt)))))
   (qx (qdH (i:=6) (j:=7) (k:=8) rfl nd rfl rfl rfl rfl rfl rfl (qc (yj yq (yJ qE (dv 1) qu (fun _ _=>rfl)) (dv 3)) (qc (yj yq (yJ qE (dv 1) qu (fun _ _=>rfl)) (dv 4)) (qc (yj yq (yJ qE (dv 1) qu (fun _ _=>rfl)) (dv 5)) qm))) rfl)
   (qx (qdH (i:=9) (j:=10) (k:=11) rfl nd rfl rfl rfl rfl rfl rfl (qc (yj yq (yJ qE (dv 2) qu (fun _ _=>rfl)) (dv 3)) (qc (yj yq (yJ qE (dv 2) qu (fun _ _=>rfl)) (dv 4)) (qc (yj yq (yJ qE (dv 2) qu (fun _ _=>rfl)) (dv 5)) qm))) rfl)
   (qG (qW (JQ (qc (yj yq (yj yn (dv 7) (dv 11)) (yj yn (dv 8) (dv 10))) (qc (yj yq (yj yn (dv 8) (dv 9)) (yj yn (dv 6) (dv 11))) (qc (yj yq (yj yn (dv 6) (dv 10)) (yj yn (dv 7) (dv 9))) qm))))))))),?_⟩
 obtain ⟨a1,a2,a3⟩:=yD h1 h2
 obtain ⟨b1,b2,b3⟩:=yD h1 h3
 exact ⟨rfl,_,rfl,_,rfl,_,rfl,_,rfl,_,rfl,_,rfl,⟨bII a2,bII b3⟩,⟨bII a3,bII b2⟩,⟨bII a3,bII b1⟩,⟨bII a1,bII b3⟩,⟨bII a1,bII b2⟩,⟨bII a2,bII b1⟩,zl3,k⟩
theorem qcv (p q:P3):PyData.eqv (spD p) (spD q)=decide (p=q):=by
 obtain ⟨a,b,c⟩:=p
 obtain ⟨d,e,f⟩:=q
 by_cases h1:a=d <;> by_cases h2:b=e <;> by_cases h3:c=f <;> simp [spD,PyData.eqv,PyData.eqvAll,h1,h2,h3]
def qjS:SpD:=fun es μ Q=>∃ p q r:P3,es=[.d (spD p),.d (spD q),.d (spD r)]/\N3 B0 p/\N3 B0 q/\N3 B0 r/\Q (.d (.bool (decide (upr p q r=Z3)))) μ
theorem qfC:FnScope ["one", "two", "three"] ["one", "two", "three"] (qt jW):=⟨rfl,rfl,rfl,by decide +kernel,rfl,by decide +kernel,by decide +kernel⟩
theorem qiY {f:Addr}{fd:FuncData}(F:Fun K "are_aligned" "are_aligned" jW f fd) (hX:NoX CX) (Oupright:Own P w K mg base CX 1 "upright" ["one", "two", "three"] (yf K qjO)):FnOk P w K mg base CX 2 f fd ["one", "two", "three"] (yf K qjS):=by
 refine F.okD qfC (fun es μ Q hq0=>by obtain ⟨p,q,r,e,_⟩:=hq0;subst e;rfl) (fun cdv A outer s H E es μ Q hr hq0=>?_)
 obtain ⟨p,q,r,e,h1,h2,h3,k⟩:=hq0
 subst e
 have nd:=qfC.nd
 refine ⟨_,(qG (qW (J4 (Z1 hr.units) (ya Oupright hX (hr.mono (by decide)) rfl (qc (dv 0) (qc (dv 1) (qc (dv 2) qm)))) (JQ (qc qu (qc qu (qc qu qm)))) (q0 _)))),?_⟩
 refine ⟨p,q,r,rfl,h1,h2,h3,zl3,_,_,.d _,.d _,rfl,rfl,?_⟩
 rw [<- qcv (upr p q r) Z3] at k
 exact k
def qer:SpD:=fun es μ Q=>(∃ n p:P3,es=[.d (spD n),.d (spD p)]/\N3 (B0 * B0 * 100) n/\N3 B0 p/\Q (.d (.int (qA n p))) μ)\/∃ (n p:P3) (c:Int),es=[.d (ftD n c),.d (spD p)]/\N3 (B0 * B0 * 100) n/\N3 B0 p/\Q (.d (.int (qA n p))) μ
theorem Jt:FnScope ["flat", "spot"] ["flat", "spot"] (qt Jn):=⟨rfl,rfl,rfl,by decide +kernel,rfl,by decide +kernel,by decide +kernel⟩
theorem Zb {f:Addr}{fd:FuncData}(F:Fun K "flat_value" "flat_value" Jn f fd)  : FnOk P w K mg base CX 1 f fd ["flat", "spot"] (yf K qer):=by
 refine F.okD Jt (fun es μ Q h=>by rcases h with ⟨a,b,e,_⟩ | ⟨a,b,c,e,_⟩ <;> (subst e;rfl)) (fun cdv A outer s H E es μ Q hr h=>?_)
 have nd:=Jt.nd
 rcases h with ⟨n,p,e,⟨a1,a2,a3⟩,⟨b1,b2,b3⟩,k⟩ | ⟨n,p,c,e,⟨a1,a2,a3⟩,⟨b1,b2,b3⟩,k⟩
 ·subst e
  refine ⟨_,(qG (qW (yj jr (yj jr (yj yn (yJ qE (dv 0) qu (fun _ _=>rfl)) (yJ qE (dv 1) qu (fun _ _=>rfl))) (yj yn (yJ qE (dv 0) qu (fun _ _=>rfl)) (yJ qE (dv 1) qu (fun _ _=>rfl)))) (yj yn (yJ qE (dv 0) qu (fun _ _=>rfl)) (yJ qE (dv 1) qu (fun _ _=>rfl)))))),?_⟩
  exact ⟨_,rfl,_,rfl,⟨qfj a1,bI b1⟩,_,rfl,_,rfl,⟨qfj a2,bI b2⟩,_,rfl,_,rfl,⟨qfj a3,bI b3⟩,k⟩
 ·subst e
  refine ⟨_,(qG (qW (yj jr (yj jr (yj yn (yJ qE (dv 0) qu (fun _ _=>rfl)) (yJ qE (dv 1) qu (fun _ _=>rfl))) (yj yn (yJ qE (dv 0) qu (fun _ _=>rfl)) (yJ qE (dv 1) qu (fun _ _=>rfl)))) (yj yn (yJ qE (dv 0) qu (fun _ _=>rfl)) (yJ qE (dv 1) qu (fun _ _=>rfl)))))),?_⟩
  exact ⟨_,rfl,_,rfl,⟨qfj a1,bI b1⟩,_,rfl,_,rfl,⟨qfj a2,bI b2⟩,_,rfl,_,rfl,⟨qfj a3,bI b3⟩,k⟩
theorem qej {p q r:P3}(h1:N3 B0 p) (h2:N3 B0 q) (h3:N3 B0 r):N3 (B0 * B0 * 100) (upr p q r):=by
 obtain ⟨a,b,c⟩:=qcm h1 h2 h3
 exact ⟨qJ a bU,qJ b bU,qJ c bU⟩
def sFl:SpD:=fun es μ Q=>∃ p q r:P3,es=[.d (spD p),.d (spD q),.d (spD r)]/\N3 B0 p/\N3 B0 q/\N3 B0 r/\upr p q r≠Z3/\Q (.d (ftD (ld3 (upr p q r)) (qA (ld3 (upr p q r)) p))) μ
theorem qh8:FnScope ["one", "two", "three", "a", "b", "c", "divisor", "lead"] ["one", "two", "three"] (qt yU):=⟨rfl,rfl,rfl,by decide +kernel,rfl,by decide +kernel,by decide +kernel⟩
theorem ok_fl {f:Addr}{fd:FuncData}(F:Fun K "flat_through" "flat_through" yU f fd) (hX:NoX CX) (Oare_aligned:Own P w K mg base CX 2 "are_aligned" ["one", "two", "three"] (yf K qjS)) (Oupright:Own P w K mg base CX 1 "upright" ["one", "two", "three"] (yf K qjO)) (Ocommon_divisor:Own P w K mg base CX 1 "common_divisor" ["one", "other"] (yf K sGcd)) (Oflat_value:Own P w K mg base CX 1 "flat_value" ["flat", "spot"] (yf K qer)):FnOk P w K mg base CX 3 f fd ["one", "two", "three"] (yf K sFl):=by
 refine F.okD qh8 (fun es μ Q hq0=>by obtain ⟨p,q,r,e,_⟩:=hq0;subst e;rfl) (fun cdv A outer s H E es μ Q hr hq0=>?_)
 obtain ⟨p,q,r,e,h1,h2,h3,h0,k⟩:=hq0
 subst e
 have nd:=qh8.nd
 have key:∃ t,DSs K (qdR CX P w K mg base ["one", "two", "three", "a", "b", "c", "divisor", "lead"] "flat_through" (qt yU) f cdv A outer s H E).nox ((yX yU).drop 4) t ∧
   t { nx:=fun _ μ'=>Q (.d .none) μ',rt:=Q } [some (.d (spD p)),some (.d (spD q)),some (.d (spD r)),some (.d (.int (upr p q r).1)),some (.d (.int (upr p q r).2.1)),some (.d (.int (upr p q r).2.2)),some (.d (.int (dv3 (upr p q r)))),none] μ:=by
  refine ⟨_,(qx (ym (i:=7) nd rfl (by first | exact Or.inl rfl | exact Or.inr rfl) (JQ (qc (yj qaM (dv 3) (dv 6)) (qc (yj qaM (dv 4) (dv 6)) (qc (yj qaM (dv 5) (dv 6)) qm)))))
   (qG (qW (JQ (qc (yJ qE (dv 7) qu (fun _ _=>rfl)) (qc (yJ qE (dv 7) qu (fun _ _=>rfl)) (qc (yJ qE (dv 7) qu (fun _ _=>rfl)) (qc (ya Oflat_value hX (hr.mono (by decide)) rfl (qc (dv 7) (qc (dv 0) qm))) qm)))))))),?_⟩
  have hd:=j5 h0
  have hb:(dv3 (upr p q r)).natAbs<=B0 * B0 * 100:=by rw [qaJ];exact qeX h0 (qej h1 h2 h3)
  refine ⟨Zj bM hd hb,Zj bM hd hb,Zj bM hd hb,zl3,_,rfl,_,rfl,_,rfl,.inl ⟨ld3 (upr p q r),p,rfl,qaD h0 (qej h1 h2 h3),h1,zl4,k⟩⟩
 obtain ⟨t,ht,hk⟩:=key
 refine ⟨_,(qx (jB (jH (ya Oare_aligned hX (hr.mono (by decide)) rfl (qc (dv 0) (qc (dv 1) (qc (dv 2) qm))))) (qG qe2) yL)
   (qx (qbs (ya Oupright hX (hr.mono (by decide)) rfl (qc (dv 0) (qc (dv 1) (qc (dv 2) qm)))) (j8 (n:=3) rfl (qR (qF (i:=3) nd rfl (by first | exact Or.inl rfl | exact Or.inr rfl)) (qR (qF (i:=4) nd rfl (by first | exact Or.inl rfl | exact Or.inr rfl)) (qR (qF (i:=5) nd rfl (by first | exact Or.inl rfl | exact Or.inr rfl)) jt)))))
   (qx (ym (i:=6) nd rfl (by first | exact Or.inl rfl | exact Or.inr rfl) (ya Ocommon_divisor hX (hr.mono (by decide)) rfl (qc (ya Ocommon_divisor hX (hr.mono (by decide)) rfl (qc (dv 3) (qc (dv 4) qm))) (qc (dv 5) qm))))
   (qx (jB (yB (qjk (jK (Nat.le_add_right _ 64) hr.units)) (JQ (qc (dv 3) (qc (dv 4) (qc (dv 5) qm)))) (JQ (qc qu (qc qu (qc qu qm)))) (q0 _)) (qG (ym (i:=6) nd rfl (by first | exact Or.inl rfl | exact Or.inr rfl) (qjq Z0 (dv 6)))) yL)
   ht)))),?_⟩
 refine ⟨p,q,r,rfl,h1,h2,h3,Jk (fun c=>absurd (qv c) h0) (fun c=>?_)⟩
 refine ⟨p,q,r,rfl,h1,h2,h3,rfl,_,_,rfl,_,_,rfl,?_⟩
 refine ⟨zl3,zl3,[_,_,_],[0,0,0],rfl,rfl,?_⟩
 unfold dv3 at hk
 refine Jk (fun c=>?_) (fun c=>?_)
 ·rw [if_pos c] at hk;exact hk
 ·rw [if_neg c] at hk;exact hk
def qgr:SpD:=fun es μ Q=>∃ (n p:P3) (c:Int),es=[.d (ftD n c),.d (spD p)]/\N3 (B0 * B0 * 100) n/\N3 B0 p/\Q (.d (.int (qA n p - c).sign)) μ
theorem JV:FnScope ["flat", "spot"] ["flat", "spot"] (qt JE):=⟨rfl,rfl,rfl,by decide +kernel,rfl,by decide +kernel,by decide +kernel⟩
theorem ZO {f:Addr}{fd:FuncData}(F:Fun K "flat_side" "flat_side" JE f fd) (hX:NoX CX) (Osign:Own P w K mg base CX 1 "sign" ["number"] (yf K qgq)) (Oflat_value:Own P w K mg base CX 1 "flat_value" ["flat", "spot"] (yf K qer)):FnOk P w K mg base CX 2 f fd ["flat", "spot"] (yf K qgr):=by
 refine F.okD JV (fun es μ Q hq0=>by obtain ⟨n,p,c,e,_⟩:=hq0;subst e;rfl) (fun cdv A outer s H E es μ Q hr hq0=>?_)
 obtain ⟨n,p,c,e,h1,h2,k⟩:=hq0
 subst e
 have nd:=JV.nd
 refine ⟨_,(qG (qW (ya Osign hX (hr.mono (by decide)) rfl (qc (yj yq (ya Oflat_value hX (hr.mono (by decide)) rfl (qc (dv 0) (qc (dv 1) qm))) (yJ qE (dv 0) qu (fun _ _=>rfl))) qm)))),?_⟩
 exact .inr ⟨n,p,c,rfl,h1,h2,_,rfl,_,rfl,k⟩
end
section
variable {P:Program}{w:World}{K:W.Frag}{mg:Str->Option Value}{base:Heap}{CX:CXT}
def qjP:SpD:=fun es μ Q=>∃ p q r:P3,es=[.d (spD p),.d (spD q),.d (spD r)]/\N3 B0 p/\N3 B0 q/\N3 B0 r/\Q (.d (.list [.int (upr p q r).1,.int (upr p q r).2.1,.int (upr p q r).2.2])) μ
theorem qfw:FnScope ["_law_one", "_law_two", "_law_three", "_law_p", "_law_q", "_law_found", "_law_k"] ["_law_one", "_law_two", "_law_three"] (qt yV):=⟨rfl,rfl,rfl,by decide +kernel,rfl,by decide +kernel,by decide +kernel⟩
theorem qiS {f:Addr}{fd:FuncData}(F:Fun K "_law_upright" "_law_upright" yV f fd) (T:Txt mg):FnOk P w K mg base CX 1 f fd ["_law_one", "_law_two", "_law_three"] (yf K qjP):=by
 refine F.okD qfw (fun es μ Q hq0=>by obtain ⟨p,q,r,e,_⟩:=hq0;subst e;rfl) (fun cdv A outer s H E es μ Q hr hq0=>?_)
 obtain ⟨p,q,r,e,h1,h2,h3,k⟩:=hq0
 subst e
 have nd:=qfw.nd
 refine ⟨_,(qx (Zn (i:=3) nd rfl (by first | exact Or.inl rfl | exact Or.inr rfl) (L:=["_law_here", "_law_there"]) (sc:=qt yV) (N:=["_law_one", "_law_two", "_law_three", "_law_p", "_law_q", "_law_found", "_law_k"]) rfl rfl rfl (by decide +kernel) (qdL rfl T.zip_ (qc (dv 0) (qc (dv 1) qm))) (fun _ _ _ _ _=>(j8 (n:=2) rfl (qR (qF (i:=7) (show List.Nodup (["_law_one", "_law_two", "_law_three", "_law_p", "_law_q", "_law_found", "_law_k", "_law_here", "_law_there"]:List Str) from by decide +kernel) rfl (by first | exact Or.inl rfl | exact Or.inr rfl)) (qR (qF (i:=8) (show List.Nodup (["_law_one", "_law_two", "_law_three", "_law_p", "_law_q", "_law_found", "_law_k", "_law_here", "_law_there"]:List Str) from by decide +kernel) rfl (by first | exact Or.inl rfl | exact Or.inr rfl)) jt)))) (fun _ _ _ _ _=>y7) (fun _ _ _ _ _=>(yj yq (dv 8) (dv 7))))
   (qx (Zn (i:=4) nd rfl (by first | exact Or.inl rfl | exact Or.inr rfl) (L:=["_law_here", "_law_there"]) (sc:=qt yV) (N:=["_law_one", "_law_two", "_law_three", "_law_p", "_law_q", "_law_found", "_law_k"]) rfl rfl rfl (by decide +kernel) (qdL rfl T.zip_ (qc (dv 0) (qc (dv 2) qm))) (fun _ _ _ _ _=>(j8 (n:=2) rfl (qR (qF (i:=7) (show List.Nodup (["_law_one", "_law_two", "_law_three", "_law_p", "_law_q", "_law_found", "_law_k", "_law_here", "_law_there"]:List Str) from by decide +kernel) rfl (by first | exact Or.inl rfl | exact Or.inr rfl)) (qR (qF (i:=8) (show List.Nodup (["_law_one", "_law_two", "_law_three", "_law_p", "_law_q", "_law_found", "_law_k", "_law_here", "_law_there"]:List Str) from by decide +kernel) rfl (by first | exact Or.inl rfl | exact Or.inr rfl)) jt)))) (fun _ _ _ _ _=>y7) (fun _ _ _ _ _=>(yj yq (dv 8) (dv 7))))
   (qx (ym (i:=5) nd rfl (by first | exact Or.inl rfl | exact Or.inr rfl) (Z6 qm))
   (qx (Jl PassesOwn.never rfl (Jy rfl T.range_ (qc qu qm)) (qF (i:=6) nd rfl (by first | exact Or.inl rfl | exact Or.inr rfl)) (qG (qdJ (qbD (dv 5) (qc (yj yq (yj yn (yJ qE (dv 3) (yj yq (dv 6) qu) (fun _ _=>rfl)) (yJ qE (dv 4) (yj yq (dv 6) qu) (fun _ _=>rfl))) (yj yn (yJ qE (dv 3) (yj yq (dv 6) qu) (fun _ _=>rfl)) (yJ qE (dv 4) (yj yq (dv 6) qu) (fun _ _=>rfl)))) qm) (h:=qc0 PySem.F.plainAttrs_list PySem.F.slot_list_append PySem.F.type_list_append ZR (dv 5) (qc (yj yq (yj yn (yJ qE (dv 3) (yj yq (dv 6) qu) (fun _ _=>rfl)) (yJ qE (dv 4) (yj yq (dv 6) qu) (fun _ _=>rfl))) (yj yn (yJ qE (dv 3) (yj yq (dv 6) qu) (fun _ _=>rfl)) (yJ qE (dv 4) (yj yq (dv 6) qu) (fun _ _=>rfl)))) qm))))))
   (qG (qaK (dv 5))))))),?_⟩
 obtain ⟨a1,a2,a3⟩:=yD h1 h2
 obtain ⟨b1,b2,b3⟩:=yD h1 h3
 refine ⟨zl3,qdT (as:=[(p.1,q.1),(p.2.1,q.2.1),(p.2.2,q.2.2)]) (h1:=fun a=>.int a.1) (h2:=fun a=>.int a.2) (fun a=>.int (a.2 - a.1)) Src.z (fun a _ R h=>h) ?_⟩
 refine ⟨zl3,qdT (as:=[(p.1,r.1),(p.2.1,r.2.1),(p.2.2,r.2.2)]) (h1:=fun a=>.int a.1) (h2:=fun a=>.int a.2) (fun a=>.int (a.2 - a.1)) Src.z (fun a _ R h=>h) ?_⟩
 refine ⟨zl0,fun l hl=>⟨by decide,by decide,?_⟩⟩
 refine qhN (fun i ρ' μ'=>μ'=(l,.lst ([PyData.int (upr p q r).1,.int (upr p q r).2.1,.int (upr p q r).2.2].take i))::μ/\∃ v,ρ'=[some (.d (spD p)),some (.d (spD q)),some (.d (spD r)),some (.d (.list [.int (yh q p).1,.int (yh q p).2.1,.int (yh q p).2.2])),some (.d (.list [.int (yh r p).1,.int (yh r p).2.1,.int (yh r p).2.2])),some (.m l),v]) ⟨rfl,_,rfl⟩ ?_ ?_
 ·rintro i ρ' μ' hi ⟨rfl,v,rfl⟩
  have hi:i=0\/i=1\/i=2:=by have hi:i<3:=hi;omega
  rcases hi with rfl | rfl | rfl
  ·exact ⟨⟨_,qg⟩,_,rfl,_,rfl,⟨bII a2,bII b3⟩,_,rfl,_,rfl,⟨bII a3,bII b2⟩,[],_,_,rfl,(by show 0<4000;decide),Wks.of ⟨rfl,_,rfl⟩⟩
  ·exact ⟨⟨_,qg⟩,_,rfl,_,rfl,⟨bII a3,bII b1⟩,_,rfl,_,rfl,⟨bII a1,bII b3⟩,[],_,_,rfl,(by show 1<4000;decide),Wks.of ⟨rfl,_,rfl⟩⟩
  ·exact ⟨⟨_,qg⟩,_,rfl,_,rfl,⟨bII a1,bII b2⟩,_,rfl,_,rfl,⟨bII a2,bII b1⟩,[],_,_,rfl,(by show 2<4000;decide),Wks.of ⟨rfl,_,rfl⟩⟩
 ·rintro ρ' μ' ⟨rfl,v,rfl⟩
  exact ⟨_,_,FzR.list1,k⟩
theorem Y5 (ns:List Int):SeqAt.shaped (.list (ns.map PyData.int))=true:=by
 have:=JM ns
 unfold SeqAt.shaped
 rw [Bool.and_eq_true]
 refine ⟨by simp only [PyData.canLay0,Jp],qB ?_⟩
 simp only [PyData.depth]
 omega
def qgp:SpD:=fun es μ Q=>∃ (p:Addr) (ps:List P3),es=[.m p,.d (.list (ps.map spD))]/\(p,PA0)∈μ/\ps.length<=100/\(∀ q∈ps,N3 B0 q)/\∀ q,N3 B0 q->Q (.d (spD q)) μ
theorem qjC {ps:List P3}{d:Int}(d0:0<=d) (d1:d<((ps.map spD).length:Int)):∃ q∈ps,atI (ps.map spD) d=some (spD q):=by
 rw [List.length_map] at d1
 have hd:d.toNat<ps.length:=by omega
 refine ⟨ps[d.toNat],qX hd,?_⟩
 have:=Zw (xs:=ps.map spD) (j:=d.toNat) (v:=spD ps[d.toNat]) (by rw [List.getElem?_map,List.getElem?_eq_getElem hd];rfl)
 rwa [show ((d.toNat:Nat):Int)=d by omega] at this
theorem qhA {ps:List P3}(h:0<ps.length):∃ q∈ps,atI (ps.map spD) (-1)=some (spD q):=by
 have hd:ps.length - 1<ps.length:=by omega
 refine ⟨ps[ps.length - 1],qX hd,?_⟩
 have e:ixN (ps.map spD).length (-1)=some (ps.length - 1):=by
  unfold ixN
  rw [List.length_map,if_neg (by omega),if_pos (by omega)]
  congr 1
  omega
 unfold atI
 rw [e]
 show (ps.map spD)[ps.length - 1]?=_
 rw [List.getElem?_map,List.getElem?_eq_getElem hd]
 rfl
theorem qeo (ps:List P3):SeqAt.shaped (.list (ps.map spD))=true:=by
 have hd:∀ ps:List P3,PyData.depthAll (ps.map spD)<=2:=fun ps=>by
  induction ps with
  | nil=>simp [PyData.depthAll]
  | cons a b ih=>simp only [List.map_cons,PyData.depthAll];simp only [spD,PyData.depth,PyData.depthAll];omega
 have:=hd ps
 unfold SeqAt.shaped
 rw [Bool.and_eq_true]
 refine ⟨by simp only [PyData.canLay0];exact Ji (fun a=>by simp [spD,PyData.canLay0,PyData.canLayAll0]) ps,qB ?_⟩
 simp only [PyData.depth]
 omega
theorem num3 {a b c:Int}(h1:Num a) (h2:Num b) (h3:Num c):N3 B0 (a,b,c):=by
 unfold Num at h1 h2 h3
 exact ⟨(by show a.natAbs<=1000000000000000000000000000000;omega),(by show b.natAbs<=1000000000000000000000000000000;omega),(by show c.natAbs<=1000000000000000000000000000000;omega)⟩
theorem qcD:FnScope ["_law_pot_here", "_law_some", "_law_way", "_law_one", "_law_other", "_law_found"] ["_law_pot_here", "_law_some"] (qt y4):=⟨rfl,rfl,rfl,by decide +kernel,rfl,by decide +kernel,by decide +kernel⟩
theorem qgQ {f:Addr}{fd:FuncData}(F:Fun K "_law_spot" "_law_spot" y4 f fd) (T:Txt mg) (hX:NoX CX) (O_law_take:Own P w K mg base CX 1 "_law_take" ["_law_pot_here", "_law_many"] (yf K (qar 2147483629))) (O_law_number:Own P w K mg base CX 3 "_law_number" ["_law_pot_here"] (yf K (qhJ 2147483629))):FnOk P w K mg base CX 4 f fd ["_law_pot_here", "_law_some"] (yf K qgp):=by
 refine F.okD qcD (fun es μ Q hq0=>by obtain ⟨p,ps,e,_⟩:=hq0;subst e;rfl) (fun cdv A outer s H E es μ Q hr hq0=>?_)
 obtain ⟨p,ps,e,hp,hl,hb,k⟩:=hq0
 subst e
 have nd:=qcD.nd
 have hz:((ps.map spD).length:Int)<=100000000:=by rw [List.length_map];omega
 have key:∃ t,DSs K (qdR CX P w K mg base ["_law_pot_here", "_law_some", "_law_way", "_law_one", "_law_other", "_law_found"] "_law_spot" (qt y4) f cdv A outer s H E).nox ((yX y4).drop 3) t ∧
   ∀ (v1 v2 v3 v4:Option En),t { nx:=fun _ μ'=>Q (.d .none) μ',rt:=Q } [some (.m p),some (.d (.list (ps.map spD))),v1,v2,v3,v4] μ:=by
  refine ⟨_,(qG (qW (JQ (qc (ya O_law_number hX (hr.mono (by decide)) rfl (qc (dv 0) qm)) (qc (ya O_law_number hX (hr.mono (by decide)) rfl (qc (dv 0) qm)) (qc (ya O_law_number hX (hr.mono (by decide)) rfl (qc (dv 0) qm)) qm)))))),fun v1 v2 v3 v4=>?_⟩
  exact ⟨p,rfl,hp,fun a ha=>⟨p,rfl,hp,fun b hb=>⟨p,rfl,hp,fun c hc=>⟨zl3,k (a,b,c) (num3 ha hb hc)⟩⟩⟩⟩
 obtain ⟨t,ht,hk⟩:=key
 refine ⟨_,(qx (ym (i:=2) nd rfl (by first | exact Or.inl rfl | exact Or.inr rfl) (ya O_law_take hX (hr.mono (by decide)) rfl (qc (dv 0) (qc qu qm))))
   (qx (jB (qhf (qbq (yB (Z1 hr.units) (dv 2) qu (q0 _)) (qaI (yB (YF hr.units) (dv 1) (qb0 qm) (q0 _))))) (qG (qW (yJ qE (dv 1) (ya O_law_take hX (hr.mono (by decide)) rfl (qc (dv 0) (qc (qY Jb (by rfl) T.len_ Jd (qc (dv 1) qm)) qm))) (fun _ _=>rfl)))) yL)
   (qx (jB (qhf (qbq (yB (Z1 hr.units) (dv 2) qu (q0 _)) (qaI (yB qe5 (qY Jb (by rfl) T.len_ Jd (qc (dv 1) qm)) qu (q0 _))))) (qx (qdI (i:=3) (j:=4) rfl nd rfl rfl (by decide) rfl rfl (qc (yJ qE (dv 1) (qjq Z0 qu) (fun _ _=>rfl)) (qc (yJ qE (dv 1) (ya O_law_take hX (hr.mono (by decide)) rfl (qc (dv 0) (qc (qY Jb (by rfl) T.len_ Jd (qc (dv 1) qm)) qm))) (fun _ _=>rfl)) qm)) rfl)
   (qx (ym (i:=5) nd rfl (by first | exact Or.inl rfl | exact Or.inr rfl) (Jz qfa (by rfl) T.tuple_ Zt (qc (JZ (L:=["_law_here", "_law_there"]) (sc:=qt y4) (N:=["_law_pot_here", "_law_some", "_law_way", "_law_one", "_law_other", "_law_found"]) rfl rfl rfl (by decide +kernel) (qdL rfl T.zip_ (qc (dv 3) (qc (dv 4) qm))) (fun _ _ _ _ _=>(j8 (n:=2) rfl (qR (qF (i:=6) (show List.Nodup (["_law_pot_here", "_law_some", "_law_way", "_law_one", "_law_other", "_law_found", "_law_here", "_law_there"]:List Str) from by decide +kernel) rfl (by first | exact Or.inl rfl | exact Or.inr rfl)) (qR (qF (i:=7) (show List.Nodup (["_law_pot_here", "_law_some", "_law_way", "_law_one", "_law_other", "_law_found", "_law_here", "_law_there"]:List Str) from by decide +kernel) rfl (by first | exact Or.inl rfl | exact Or.inr rfl)) jt)))) (fun _ _ _ _ _=>y7) (fun _ _ _ _ _=>(yj yq (yj yn qu (dv 6)) (dv 7)))) qm)))
   (qG (jB (yB qdK (qY (qho rfl) (by rfl) T.max_ qd3 (qc (JZ (L:=["_law_number_here"]) (sc:=qt y4) (N:=["_law_pot_here", "_law_some", "_law_way", "_law_one", "_law_other", "_law_found"]) rfl rfl rfl (by decide +kernel) (Z2 (dv 5)) (fun _ _ _ _ _=>(qF (i:=6) (show List.Nodup (["_law_pot_here", "_law_some", "_law_way", "_law_one", "_law_other", "_law_found", "_law_number_here"]:List Str) from by decide +kernel) rfl (by first | exact Or.inl rfl | exact Or.inr rfl))) (fun _ _ _ _ _=>y7) (fun _ _ _ _ _=>(qY Z5 (by rfl) T.abs_ qad (qc (dv 6) qm)))) qm)) (yj Ys qu qu) (q0 _)) (qG (qW (dv 5))) yL)))) yL)
   ht))),?_⟩
 refine ⟨p,8,rfl,hp,by decide,by decide,fun wy w0 w1=>?_⟩
 refine Jk (fun c=>?_) (fun c=>?_)
 ·refine ⟨zl0,_,_,.d _,.d _,qeo ps,rfl,Jk (fun c2=>?_) (fun c2=>?_)⟩
  ·have hne:0<ps.length:=by
    cases ps with
    | nil=>exact absurd c2 (by decide)
    | cons a b=>simp
   refine ⟨_,.l (.d _),p,_,rfl,hp,(by show (0:Int)<((ps.map spD).length:Int);rw [List.length_map];omega),hz,fun d d0 d1=>?_⟩
   obtain ⟨q,hq,e⟩:=qjC d0 d1
   exact ⟨_,e,k q (hb q hq)⟩
  ·have c:wy=0:=qv c
   subst c
   exact hk _ _ _ _
 ·refine qbh (Jk (fun c2=>?_) (fun c2=>qbh (hk _ _ _ _)))
  refine ⟨_,.l (.d _),Jk (fun c3=>?_) (fun c3=>hk _ _ _ _)⟩
  have c3:(1:Int)<((ps.map spD).length:Int):=qv c3
  have hne:0<ps.length:=by rw [List.length_map] at c3;omega
  obtain ⟨q,hq,eq⟩:=qhA hne
  refine ⟨_,eq,_,.l (.d _),p,_,rfl,hp,(by show (0:Int)<((ps.map spD).length:Int);omega),hz,fun d d0 d1=>?_⟩
  obtain ⟨r,hr',er⟩:=qjC d0 d1
  obtain ⟨a1,a2,a3⟩:=hb q hq
  have tw:qb5 2 q.1/\qb5 2 q.2.1/\qb5 2 q.2.2:=⟨⟨bI (by decide),bI a1⟩,⟨bI (by decide),bI a2⟩,⟨bI (by decide),bI a3⟩⟩
  refine ⟨_,er,zl3,qdT (as:=[(q.1,r.1),(q.2.1,r.2.1),(q.2.2,r.2.2)]) (h1:=fun a=>.int a.1) (h2:=fun a=>.int a.2) (fun a=>.int (2 * a.1 - a.2)) Src.z (fun a ha R h=>⟨?_,h⟩) ?_⟩
  ·simp only [List.mem_cons,List.mem_nil_iff,or_false] at ha
   rcases ha with rfl | rfl | rfl
   ·exact tw.1
   ·exact tw.2.1
   ·exact tw.2.2
  ·refine ⟨_,.d _,zl3,YX (as:=[2 * q.1 - r.1,2 * q.2.1 - r.2.1,2 * q.2.2 - r.2.2]) (h:=PyData.int) (fun a=>.int (a.natAbs:Int)) Src.t (fun a _ R h=>h) ?_⟩
   refine ⟨[((2 * q.1 - r.1).natAbs:Int),((2 * q.2.1 - r.2.1).natAbs:Int),((2 * q.2.2 - r.2.2).natAbs:Int)],.d _,by simp,fun m hm hle=>⟨⟨by decide,by decide,by decide⟩,Jk (fun c4=>?_) (fun c4=>hk _ _ _ _)⟩⟩
   have c4:m<10 ^ (30:Int).toNat:=qv c4
   rw [e30] at c4
   have g1:=hle _ (qg)
   have g2:=hle _ (qe _ qg)
   have g3:=hle _ (qe _ (qe _ qg))
   exact k (2 * q.1 - r.1,2 * q.2.1 - r.2.1,2 * q.2.2 - r.2.2) ⟨(by show (2 * q.1 - r.1).natAbs<=1000000000000000000000000000000;omega),(by show (2 * q.2.1 - r.2.1).natAbs<=1000000000000000000000000000000;omega),(by show (2 * q.2.2 - r.2.2).natAbs<=1000000000000000000000000000000;omega)⟩
def qb7 (ns:List Int):P3:=((ns.count (-1):Nat),(ns.count 0:Nat),(ns.count 1:Nat))
def sgs (n:P3) (c:Int) (ss:List P3):List Int:=ss.map fun a=>(qA n a - c).sign
def sSC:SpD:=fun es μ Q=>∃ ns:List Int,es=[.d (.list (ns.map .int))]/\Q (.d (spD (qb7 ns))) μ
theorem qfx:FnScope ["signs"] ["signs"] (qt jU):=⟨rfl,rfl,rfl,by decide +kernel,rfl,by decide +kernel,by decide +kernel⟩
theorem qiT {f:Addr}{fd:FuncData}(F:Fun K "sign_counts" "sign_counts" jU f fd)  : FnOk P w K mg base CX 1 f fd ["signs"] (yf K sSC):=by
 refine F.okD qfx (fun es μ Q hq0=>by obtain ⟨ns,e,_⟩:=hq0;subst e;rfl) (fun cdv A outer s H E es μ Q hr hq0=>?_)
 obtain ⟨ns,e,k⟩:=hq0
 subst e
 have nd:=qfx.nd
 refine ⟨_,(qG (qW (JQ (qc (qaQ (dv 0) (qc (qjq Z0 qu) qm) (h:=qc0 PySem.F.plainAttrs_list PySem.F.slot_list_count PySem.F.type_list_count Zd (dv 0) (qc (qjq Z0 qu) qm))) (qc (qaQ (dv 0) (qc qu qm) (h:=qc0 PySem.F.plainAttrs_list PySem.F.slot_list_count PySem.F.type_list_count Zd (dv 0) (qc qu qm))) (qc (qaQ (dv 0) (qc qu qm) (h:=qc0 PySem.F.plainAttrs_list PySem.F.slot_list_count PySem.F.type_list_count Zd (dv 0) (qc qu qm))) qm)))))),?_⟩
 exact ⟨ns,.d _,.d _,ns,.d _,.d _,ns,.d _,.d _,zl3,k⟩
def evn (s:P3):Bool:=decide (2 * s.1<=s.1+s.2.1+s.2.2) && decide (2 * s.2.2<=s.1+s.2.1+s.2.2)
def sEv:SpD:=fun es μ Q=>∃ s:P3,es=[.d (spD s)]/\N3 B0 s/\Q (.d (.bool (evn s))) μ
theorem qib:FnScope ["shares", "below", "on", "above", "many"] ["shares"] (qt jA):=⟨rfl,rfl,rfl,by decide +kernel,rfl,by decide +kernel,by decide +kernel⟩
theorem ok_ev {f:Addr}{fd:FuncData}(F:Fun K "is_even_share" "is_even_share" jA f fd)  : FnOk P w K mg base CX 1 f fd ["shares"] (yf K sEv):=by
 refine F.okD qib (fun es μ Q hq0=>by obtain ⟨s,e,_⟩:=hq0;subst e;rfl) (fun cdv A outer s0 H E es μ Q hr hq0=>?_)
 obtain ⟨s,e,⟨a1,a2,a3⟩,k⟩:=hq0
 subst e
 have nd:=qib.nd
 refine ⟨_,(qx (qbs (dv 0) (j8 (n:=3) rfl (qR (qF (i:=1) nd rfl (by first | exact Or.inl rfl | exact Or.inr rfl)) (qR (qF (i:=2) nd rfl (by first | exact Or.inl rfl | exact Or.inr rfl)) (qR (qF (i:=3) nd rfl (by first | exact Or.inl rfl | exact Or.inr rfl)) jt)))))
   (qx (ym (i:=4) nd rfl (by first | exact Or.inl rfl | exact Or.inr rfl) (yj jr (yj jr (dv 1) (dv 2)) (dv 3)))
   (qG (qW (qaR (J4 qe4 (yj yn qu (dv 1)) (dv 4) (q0 _)) (qbZ (J4 qe4 (yj yn qu (dv 3)) (dv 4) (q0 _)))))))),?_⟩
 unfold evn at k
 refine ⟨rfl,⟨bI (by decide),bI a1⟩,Jk (fun c=>?_) (fun c=>?_)⟩
 ·have c:decide (2 * s.1<=s.1+s.2.1+s.2.2)=true:=c
  rw [c,Bool.true_and] at k
  exact ⟨⟨bI (by decide),bI a3⟩,k⟩
 ·have c:¬ decide (2 * s.1<=s.1+s.2.1+s.2.2)=true:=c
  rw [jl.mpr c,Bool.false_and] at k
  exact k
theorem cnt_le (ns:List Int) (v:Int):ns.count v<=ns.length:=List.count_le_length
theorem cnt_N {ns:List Int}(h:ns.length<=4000):N3 B0 (qb7 ns):=by
 have q:∀ v,((ns.count v:Nat):Int).natAbs<=B0:=fun v=>by
  have:=cnt_le ns v
  show ((ns.count v:Nat):Int).natAbs<=1000000000000000000000000000000
  omega
 exact ⟨q _,q _,q _⟩
def sFC:SpD:=fun es μ Q=>∃ (n:P3) (c:Int) (ss:List P3),es=[.d (ftD n c),.d (.list (ss.map spD))]/\N3 (B0 * B0 * 100) n/\(∀ s∈ss,N3 B0 s)/\ss.length<=4000/\Q (.d (spD (qb7 (sgs n c ss)))) μ
theorem qia:FnScope ["flat", "cloud"] ["flat", "cloud"] (qt jx):=⟨rfl,rfl,rfl,by decide +kernel,rfl,by decide +kernel,by decide +kernel⟩
theorem ok_fc {f:Addr}{fd:FuncData}(F:Fun K "flat_counts" "flat_counts" jx f fd) (hX:NoX CX) (Osign_counts:Own P w K mg base CX 1 "sign_counts" ["signs"] (yf K sSC)) (Oflat_side:Own P w K mg base CX 2 "flat_side" ["flat", "spot"] (yf K qgr)):FnOk P w K mg base CX 3 f fd ["flat", "cloud"] (yf K sFC):=by
 refine F.okD qia (fun es μ Q hq0=>by obtain ⟨n,c,ss,e,_⟩:=hq0;subst e;rfl) (fun cdv A outer s H E es μ Q hr hq0=>?_)
 obtain ⟨n,c,ss,e,hn,hs,hl,k⟩:=hq0
 subst e
 have nd:=qia.nd
 refine ⟨_,(qG (qW (ya Osign_counts hX (hr.mono (by decide)) rfl (qc (JZ (L:=["spot"]) (sc:=qt jx) (N:=["flat", "cloud"]) rfl rfl rfl (by decide +kernel) (js (dv 1)) (fun _ _ _ _ _=>(qF (i:=2) (show List.Nodup (["flat", "cloud", "spot"]:List Str) from by decide +kernel) rfl (by first | exact Or.inl rfl | exact Or.inr rfl))) (fun _ _ _ _ _=>y7) (fun _ _ _ _ _=>(ya Oflat_side hX (hr.mono (by decide)) rfl (qc (dv 0) (qc (dv 2) qm))))) qm)))),?_⟩
 refine ⟨_,.d _,(show (ss.map spD).length<=4000 by rw [List.length_map];exact hl),YX (as:=ss) (h:=spD) (fun a=>.int (qA n a - c).sign) (Src.l (.d _)) (fun a ha R h=>⟨n,a,c,rfl,hn,hs a ha,h⟩) ?_⟩
 refine ⟨sgs n c ss,?_,k⟩
 unfold sgs
 rw [List.map_map];rfl
def sFH:SpD:=fun es μ Q=>∃ (n:P3) (c:Int) (ss:List P3),es=[.d (ftD n c),.d (.list (ss.map spD))]/\N3 (B0 * B0 * 100) n/\(∀ s∈ss,N3 B0 s)/\ss.length<=4000/\Q (.d (.bool (evn (qb7 (sgs n c ss))))) μ
theorem qh9:FnScope ["flat", "cloud"] ["flat", "cloud"] (qt jV):=⟨rfl,rfl,rfl,by decide +kernel,rfl,by decide +kernel,by decide +kernel⟩
theorem ok_fh {f:Addr}{fd:FuncData}(F:Fun K "flat_halves" "flat_halves" jV f fd) (hX:NoX CX) (Ois_even_share:Own P w K mg base CX 1 "is_even_share" ["shares"] (yf K sEv)) (Oflat_counts:Own P w K mg base CX 3 "flat_counts" ["flat", "cloud"] (yf K sFC)):FnOk P w K mg base CX 4 f fd ["flat", "cloud"] (yf K sFH):=by
 refine F.okD qh9 (fun es μ Q hq0=>by obtain ⟨n,c,ss,e,_⟩:=hq0;subst e;rfl) (fun cdv A outer s H E es μ Q hr hq0=>?_)
 obtain ⟨n,c,ss,e,hn,hs,hl,k⟩:=hq0
 subst e
 have nd:=qh9.nd
 refine ⟨_,(qG (qW (ya Ois_even_share hX (hr.mono (by decide)) rfl (qc (ya Oflat_counts hX (hr.mono (by decide)) rfl (qc (dv 0) (qc (dv 1) qm))) qm)))),?_⟩
 exact ⟨n,c,ss,rfl,hn,hs,hl,_,rfl,cnt_N (by unfold sgs;rw [List.length_map];exact hl),k⟩
theorem sign3 (x:Int):x.sign = -1\/x.sign=0\/x.sign=1:=by
 rcases yb x 0 with h | h | h
 ·exact .inl (Int.sign_eq_neg_one_of_neg h)
 ·subst h;exact .inr (.inl rfl)
 ·exact .inr (.inr (Int.sign_eq_one_of_pos h))
theorem qdU:∀ ns:List Int,(∀ s∈ns,s = -1\/s=0\/s=1)->ns.count (-1)+ns.count 0+ns.count 1=ns.length
 | [],_=>rfl
 | s::ns,h=>by
  have ih:=qdU ns fun z hz=>h z (qe _ hz)
  rcases h s qg with rfl | rfl | rfl <;> simp [List.count_cons] <;> omega
theorem qgk (n:P3) (c:Int) (ss:List P3):(qb7 (sgs n c ss)).1+(qb7 (sgs n c ss)).2.1+(qb7 (sgs n c ss)).2.2=(ss.length:Int):=by
 have:=qdU (sgs n c ss) fun s hs=>by
  obtain ⟨a,_,rfl⟩:=qK.mp hs
  exact sign3 _
 have e:(sgs n c ss).length=ss.length:=by unfold sgs;rw [List.length_map]
 unfold qb7
 show (((sgs n c ss).count (-1):Nat):Int)+((sgs n c ss).count 0:Nat)+((sgs n c ss).count 1:Nat)=_
 omega
def qgs:SpD:=fun es μ Q=>∃ n:P3,es=[.d (spD n)]/\Q (.d (.int (JY n:Nat))) μ
def fg (ns:List Int):Nat:=ns.foldl (fun g n=>Nat.gcd g n.natAbs) 0
theorem qhc (ns:List Int) (n:Int):fg (ns++[n])=Nat.gcd (fg ns) n.natAbs:=by simp [fg]
theorem qcF:FnScope ["_law_numbers", "_law_found", "_law_number_here", "_law_rest"] ["_law_numbers"] (qt jO):=⟨rfl,rfl,rfl,by decide +kernel,rfl,by decide +kernel,by decide +kernel⟩
theorem qgS {f:Addr}{fd:FuncData}(F:Fun K "_law_divisor" "_law_divisor" jO f fd) (T:Txt mg):FnOk P w K mg base CX 1 f fd ["_law_numbers"] (yf K qgs):=by
 refine F.okD qcF (fun es μ Q hq0=>by obtain ⟨n,e,_⟩:=hq0;subst e;rfl) (fun cdv A outer s H E es μ Q hr hq0=>?_)
 obtain ⟨n,e,k⟩:=hq0
 subst e
 have nd:=qcF.nd
 refine ⟨_,(qx (ym (i:=1) nd rfl (by first | exact Or.inl rfl | exact Or.inr rfl) qu)
   (qx (Jl PassesOwn.never rfl (Z2 (dv 0)) (qF (i:=2) nd rfl (by first | exact Or.inl rfl | exact Or.inr rfl)) (qx (ym (i:=3) nd rfl (by first | exact Or.inl rfl | exact Or.inr rfl) (qY Z5 (by rfl) T.abs_ qad (qc (dv 2) qm)))
   (qG (qbr PassesOwn.never (yB (YF hr.units) (dv 3) qu (q0 _)) (qG (qdI (i:=1) (j:=3) rfl nd rfl rfl (by decide) rfl rfl (qc (dv 3) (qc (yj qbt (dv 1) (dv 3)) qm)) rfl))))))
   (qG (qW (dv 1))))),?_⟩
 refine forT (fun i ρ' μ'=>μ'=μ/\∃ v1 v2,ρ'=[some (.d (spD n)),some (.d (.int (fg ([n.1,n.2.1,n.2.2].take i):Nat))),v1,v2]) ⟨rfl,_,_,rfl⟩ ?_ ?_
 ·rintro i x ρ' μ' hx ⟨rfl,v1,v2,rfl⟩
  have hx':([n.1,n.2.1,n.2.2].map PyData.int)[i]?=some x:=hx
  rw [List.getElem?_map] at hx'
  obtain ⟨z,hz,rfl⟩:=Option.map_eq_some_iff.mp hx'
  have et:fg ([n.1,n.2.1,n.2.2].take (i+1))=Nat.gcd (fg ([n.1,n.2.1,n.2.2].take i)) z.natAbs:=by
   rw [List.take_succ,hz,<- qhc];rfl
  refine ⟨fun m ρ' μ2=>μ2=μ'/\∃ f r:Nat,ρ'=[some (.d (spD n)),some (.d (.int f)),some (.d (.int z)),some (.d (.int r))]/\m=r/\Nat.gcd f r=Nat.gcd (fg ([n.1,n.2.1,n.2.2].take i)) z.natAbs,⟨_,rfl,_,_,rfl,rfl,rfl⟩,?_⟩
  rintro m ρ' μ2 ⟨rfl,f,r,rfl,rfl,g⟩
  refine Jk (fun c=>?_) (fun c=>?_)
  ·have hm:m≠0:=by
    rintro rfl
    exact absurd c (by decide)
   refine ⟨(show (0:Int)<(m:Int) by omega),f % m,Nat.mod_lt _ (by omega),Wks.of ⟨rfl,m,f % m,?_,rfl,by rw [qbk];exact g⟩⟩
   rw [Int.natCast_emod];rfl
  ·have:m=0:=by
    by_cases z:m=0
    ·exact z
    ·exact absurd (show (!decide ((m:Int)=0))=true by simp;omega) c
   subst this
   rw [Nat.gcd_zero_right] at g
   refine Wks.of ⟨rfl,some (.d (.int z)),some (.d (.int (0:Nat))),?_⟩
   rw [et,<- g]
 ·rintro ρ' μ' ⟨rfl,v1,v2,rfl⟩
  have e:fg ([n.1,n.2.1,n.2.2].take 3)=JY n:=by
   simp [fg,JY,Int.gcd]
  rw [<- e] at k
  exact k
theorem qeQ {n:P3}(h:Ld n):∃ z yE,[n.1,n.2.1,n.2.2].filter (fun a=>!decide (a=0))=z::yE/\0<z:=by
 rcases h with h | ⟨h,h' | ⟨h',h''⟩⟩
 ·exact ⟨n.1,_,by rw [List.filter_cons_of_pos (by simp;omega)],h⟩
 ·exact ⟨n.2.1,_,by rw [List.filter_cons_of_neg (by simp [h]),List.filter_cons_of_pos (by simp;omega)],h'⟩
 ·exact ⟨n.2.2,_,by rw [List.filter_cons_of_neg (by simp [h]),List.filter_cons_of_neg (by simp [h']),List.filter_cons_of_pos (by simp;omega)],h''⟩
def sIsF:SpD:=fun es μ Q=>∃ (n:P3) (c:Int),es=[.d (ftD n c)]/\Ld n/\JY n=1/\Q (.d (.bool true)) μ
theorem qfA:FnScope ["_law_found", "_law_first"] ["_law_found"] (qt yW):=⟨rfl,rfl,rfl,by decide +kernel,rfl,by decide +kernel,by decide +kernel⟩
theorem qiW {f:Addr}{fd:FuncData}(F:Fun K "_law_is_flat" "_law_is_flat" yW f fd) (T:Txt mg) (hX:NoX CX) (O_law_divisor:Own P w K mg base CX 1 "_law_divisor" ["_law_numbers"] (yf K qgs)):FnOk P w K mg base CX 2 f fd ["_law_found"] (yf K sIsF):=by
 refine F.okD qfA (fun es μ Q hq0=>by obtain ⟨n,c,e,_⟩:=hq0;subst e;rfl) (fun cdv A outer s H E es μ Q hr hq0=>?_)
 obtain ⟨n,c,e,h1,h2,k⟩:=hq0
 subst e
 have nd:=qfA.nd
 refine ⟨_,(qx (jB (qhf (qdG (Yr (jH (qY qbC (by rfl) T.isinstance_ jk (qc (dv 0) (qc (qj5 rfl T.tuple_ Zt) qm))))) (qbp (yB (YF hr.units) (qY Jb (by rfl) T.len_ Jd (qc (dv 0) qm)) qu (q0 _))))) (qG (qW qdQ)) yL)
   (qx (jB (Yr (jH (qY (qdO rfl) (by rfl) T.all_ qd4 (qc (JZ (L:=["_law_number_here"]) (sc:=qt yW) (N:=["_law_found", "_law_first"]) rfl rfl rfl (by decide +kernel) (Z2 (dv 0)) (fun _ _ _ _ _=>(qF (i:=2) (show List.Nodup (["_law_found", "_law_first", "_law_number_here"]:List Str) from by decide +kernel) rfl (by first | exact Or.inl rfl | exact Or.inr rfl))) (fun _ _ _ _ _=>y7) (fun _ _ _ _ _=>(qaR (qY qbC (by rfl) T.isinstance_ jk (qc (dv 2) (qc (qj5 rfl T.int_ qf0) qm))) (qbZ (d_not (qY qbC (by rfl) T.isinstance_ jk (qc (dv 2) (qc (qj5 rfl T.bool_ qhy) qm)))))))) qm)))) (qG (qW qdQ)) yL)
   (qx (Zn (i:=1) nd rfl (by first | exact Or.inl rfl | exact Or.inr rfl) (L:=["_law_number_here"]) (sc:=qt yW) (N:=["_law_found", "_law_first"]) rfl rfl rfl (by decide +kernel) (Z2 (Zq (dv 0) j7 (j6 qu))) (fun _ _ _ _ _=>(qF (i:=2) (show List.Nodup (["_law_found", "_law_first", "_law_number_here"]:List Str) from by decide +kernel) rfl (by first | exact Or.inl rfl | exact Or.inr rfl))) (fun _ _ _ _ _=>(qaN (yB (YF hr.units) (dv 2) qu (q0 _)))) (fun _ _ _ _ _=>(dv 2)))
   (qG (qW (qaR (J4 (YF hr.units) (dv 1) (qb0 qm) (q0 _)) (qaR (J4 qe5 (yJ qE (dv 1) qu (fun _ _=>rfl)) qu (q0 _)) (qbZ (J4 (Z1 hr.units) (ya O_law_divisor hX (hr.mono (by decide)) rfl (qc (Zq (dv 0) j7 (j6 qu)) qm)) qu (q0 _)))))))))),?_⟩
 refine ⟨by decide,qbh ⟨_,.t _,?_⟩⟩
 refine ⟨zl4,YX (as:=[n.1,n.2.1,n.2.2,c]) (h:=PyData.int) (fun _=>.bool true) Src.t (fun a _ R h=>⟨by decide,qb6 ⟨by decide,h⟩⟩) ?_⟩
 have hs4:¬ (HT.sIx 4 0 none=0/\HT.sIx 4 4 (some 3)=4):=by decide
 refine ⟨[true,true,true,true],.d _,hs4,?_⟩
 obtain ⟨z,yE,ef,hz⟩:=qeQ h1
 refine ⟨zl3,qbG (as:=[n.1,n.2.1,n.2.2]) (h:=PyData.int) (fun a=>!decide (a=0)) PyData.int Src.t (fun a _ R h=>h) (fun a _ _ R h=>h) ?_⟩
 rw [ef]
 refine ⟨zl0,_,_,.d _,.d _,Y5 (z::yE),rfl,Jk (fun c=>?_) (fun c=>absurd rfl c)⟩
 have e0:atI ((z::yE).map PyData.int) 0=some (.int z):=Zw (j:=0) rfl
 refine ⟨.int z,e0,Jk (fun c=>?_) (fun c=>absurd (qB hz) c)⟩
 refine ⟨hs4,n,rfl,?_⟩
 have e1:decide (((JY n:Nat):Int)=1)=true:=by rw [h2];rfl
 rw [<- e1] at k
 exact k
def qjR:SpD:=fun es μ Q=>∃ (n p:P3) (c:Int),es=[.d (ftD n c),.d (spD p)]/\N3 (B0 * B0 * 100) n/\N3 B0 p/\Q (.d (.int (qA n p - c))) μ
theorem qfB:FnScope ["_law_flat", "_law_spot_here", "_law_found"] ["_law_flat", "_law_spot_here"] (qt Yk):=⟨rfl,rfl,rfl,by decide +kernel,rfl,by decide +kernel,by decide +kernel⟩
theorem qiX {f:Addr}{fd:FuncData}(F:Fun K "_law_far" "_law_far" Yk f fd)  : FnOk P w K mg base CX 1 f fd ["_law_flat", "_law_spot_here"] (yf K qjR):=by
 refine F.okD qfB (fun es μ Q hq0=>by obtain ⟨n,p,c,e,_⟩:=hq0;subst e;rfl) (fun cdv A outer s H E es μ Q hr hq0=>?_)
 obtain ⟨n,p,c,e,⟨a1,a2,a3⟩,⟨b1,b2,b3⟩,k⟩:=hq0
 subst e
 have nd:=qfB.nd
 refine ⟨_,(qx (ym (i:=2) nd rfl (by first | exact Or.inl rfl | exact Or.inr rfl) (yj jr (yj yn (yJ qE (dv 0) qu (fun _ _=>rfl)) (yJ qE (dv 1) qu (fun _ _=>rfl))) (yj yn (yJ qE (dv 0) qu (fun _ _=>rfl)) (yJ qE (dv 1) qu (fun _ _=>rfl)))))
   (qG (qW (yj yq (yj jr (dv 2) (yj yn (yJ qE (dv 0) qu (fun _ _=>rfl)) (yJ qE (dv 1) qu (fun _ _=>rfl)))) (yJ qE (dv 0) qu (fun _ _=>rfl)))))),?_⟩
 exact ⟨_,rfl,_,rfl,⟨qfj a1,bI b1⟩,_,rfl,_,rfl,⟨qfj a2,bI b2⟩,_,rfl,_,rfl,⟨qfj a3,bI b3⟩,_,rfl,k⟩
end
section
variable {P:Program}{w:World}{K:W.Frag}{mg:Str->Option Value}{base:Heap}{CX:CXT}
def clD (ps:List P3):PyData:=.list (ps.map spD)
def spK (p:P3):List Int:=[p.1,p.2.1,p.2.2]
theorem qao {p q:P3}(h:spK p=spK q):p=q:=by
 unfold spK at h
 have h1:=List.cons.inj h
 have h2:=List.cons.inj h1.2
 have h3:=List.cons.inj h2.2
 exact Prod.ext h1.1 (Prod.ext h2.1 h3.1)
theorem Y3 (ps:List P3):ps.map spD=(ps.map spK).map qel:=by rw [List.map_map];rfl
theorem qft (ps:List P3):∀ k∈ps.map spK,k≠[]:=fun k hk=>by
 obtain ⟨x,_,rfl⟩:=qK.mp hk
 exact fun z=>nomatch z
def Plc (ps qs:List P3):Prop:=qs.Nodup/\Srt (qs.map spK)/\∀ p,p∈qs ↔ p∈ps
theorem qeC {ps qs rs:List P3}(h1:Plc ps qs) (h2:Plc ps rs):qs=rs:=by
 have hp:qs.Perm rs:=(List.perm_ext_iff_of_nodup h1.1 h2.1).mpr fun p=>(h1.2.2 p).trans (h2.2.2 p).symm
 have s1:=h1.2.1
 have s2:=h2.2.1
 unfold Srt at s1 s2
 rw [List.pairwise_map] at s1 s2
 refine List.Perm.eq_of_pairwise (fun a b _ _ k1 k2=>qao ?_) s1 s2 hp
 exact List.le_antisymm k1 k2
open Classical in
noncomputable def plc (ps:List P3):List P3:=epsilon fun qs=>Plc ps qs
theorem qcT {ps qs:List P3}(h:Plc ps qs):qs=plc ps/\Plc ps (plc ps):=by
 have:=Classical.epsilon_spec (p:=fun qs=>Plc ps qs) ⟨qs,h⟩
 exact ⟨qeC h this,this⟩
theorem qiu {ks:List (List Int)}{ps:List P3}:(∀ k∈ks,k∈ps.map spK)->∃ qs:List P3,ks=qs.map spK:=by
 induction ks with
 | nil=>exact fun _=>⟨[],rfl⟩
 | cons k ks ih =>
  intro h
  obtain ⟨qs,e⟩:=ih fun z hz=>h z (qe _ hz)
  obtain ⟨a,_,ea⟩:=qK.mp (h k qg)
  exact ⟨a::qs,by rw [e,<- ea];rfl⟩
theorem qcS {ps:List P3}{ms ks:List (List Int)}(hm:∀ q,q∈ms ↔ q∈ps.map spK) (hn:ms.Nodup) (hp:ks.Perm ms) (hs:Srt ks):∃ qs:List P3,ks=qs.map spK/\Plc ps qs:=by
 obtain ⟨qs,rfl⟩:=qiu fun k hk=>(hm k).mp (hp.mem_iff.mp hk)
 have hnd:(qs.map spK).Nodup:=hp.nodup_iff.mpr hn
 refine ⟨qs,rfl,(List.pairwise_map.mp hnd).imp fun h z=>h (by rw [z]),hs,fun p=>?_⟩
 have:=(hp.mem_iff (a:=spK p)).trans (hm _)
 constructor
 ·intro h
  obtain ⟨b,hb,eb⟩:=qK.mp (this.mp (qK.mpr ⟨p,h,rfl⟩))
  rw [<- qao eb];exact hb
 ·intro h
  obtain ⟨b,hb,eb⟩:=qK.mp (this.mpr (qK.mpr ⟨p,h,rfl⟩))
  rw [<- qao eb];exact hb
theorem jG {α:Type} [DecidableEq α]:∀ {ms kss:List α},ms.Nodup->(∀ q∈ms,q∈kss)->ms.length<=kss.length
 | [],_,_,_=>qQ _
 | a::ms,kss,hn,h=>by
  have ha:=h a qg
  have h1:=jG (ms:=ms) (kss:=kss.erase a) (List.nodup_cons.mp hn).2 (fun q hq=>by
   have hne:q≠a:=fun z=>(List.nodup_cons.mp hn).1 (z ▸ hq)
   exact (List.mem_erase_of_ne hne).mpr (h q (qe _ hq)))
  rw [List.length_erase_of_mem ha] at h1
  have:=List.length_pos_of_mem ha
  simp only [List.length_cons]
  omega
def qjQ:SpD:=fun es μ Q=>∃ ps:List P3,es=[.d (clD ps)]/\ps.length<64/\(Plc ps (plc ps)->Q (.d (clD (plc ps))) μ)
theorem ZK:FnScope ["heap"] ["heap"] (qt qan):=⟨rfl,rfl,rfl,by decide +kernel,rfl,by decide +kernel,by decide +kernel⟩
theorem qc3 {f:Addr}{fd:FuncData}(F:Fun K "places" "places" qan f fd) (T:Txt mg):FnOk P w K mg base CX 1 f fd ["heap"] (yf K qjQ):=by
 refine F.okD ZK (fun es μ Q hq0=>by obtain ⟨ps,e,_⟩:=hq0;subst e;rfl) (fun cdv A outer s H E es μ Q hr hq0=>?_)
 obtain ⟨ps,e,hl,k⟩:=hq0
 subst e
 have nd:=ZK.nd
 refine ⟨_,(qG (qW (qY (qbB (P:=P) (w:=w) (K:=K) rfl) (by rfl) T.sorted_ qac (qc (Jz (qfV (P:=P) (w:=w) (K:=K) rfl hr.units) (by rfl) T.set_ qfZ (qc (dv 0) qm)) qm)))),?_⟩
 refine ⟨ps.map spK,by rw [<- Y3];exact .d _,qft ps,by rw [List.length_map];omega,fun ms hm hn h77=>⟨ms,rfl,?_,fun ks hp hs=>?_⟩⟩
 ·have:=jG hn fun q hq=>(hm q).mp hq
  rw [List.length_map] at this
  omega
 ·obtain ⟨qs,rfl,h⟩:=qcS hm hn hp hs
  obtain ⟨rfl,h2⟩:=qcT h
  rw [<- Y3]
  exact k h2
def prs:List P3->List (P3×P3)
 | []=>[]
 | a::t=>t.map (fun b=>(a,b))++prs t
def prD (p:P3×P3):PyData:=.tuple [spD p.1,spD p.2]
theorem qcQ:∀ l:List P3,2 * (prs l).length+l.length=l.length * l.length
 | []=>rfl
 | a::t=>by
  have:=qcQ t
  simp only [prs,List.length_append,List.length_map,List.length_cons]
  have e:(t.length+1) * (t.length+1)=t.length * t.length+2 * t.length+1:=by
   rw [Nat.add_mul,Nat.mul_add];omega
  omega
theorem qiA {l:List P3}(h:l.length<=44):(prs l).length<4000:=by
 have:=qcQ l
 have:l.length * l.length<=44 * 44:=Nat.mul_le_mul h h
 by_cases z:l.length=44
 ·omega
 ·have:l.length * l.length<=43 * 43:=Nat.mul_le_mul (by omega) (by omega)
  omega
theorem Zr (ds:List PyData) (i:Nat) (h:i<=ds.length):Z7 ds (some (i:Int)) none=ds.drop i:=by
 have e:HT.sIx ds.length 0 (some (i:Int))=i:=by
  unfold HT.sIx
  simp
  rw [if_neg (by omega)]
  omega
 unfold Z7
 rw [e]
 have e2:HT.sIx ds.length ds.length none=ds.length:=rfl
 rw [e2]
 exact List.take_of_length_le (by simp)
def sPp:SpD:=fun es μ Q=>∃ ps:List P3,es=[.d (clD ps)]/\ps.length<=44/\(Plc ps (plc ps)->Q (.d (.list ((prs (plc ps)).map prD))) μ)
theorem qh4:FnScope ["heap", "unlike"] ["heap"] (qt jv):=⟨rfl,rfl,rfl,by decide +kernel,rfl,by decide +kernel,by decide +kernel⟩
theorem ok_pp {f:Addr}{fd:FuncData}(F:Fun K "place_pairs" "place_pairs" jv f fd) (T:Txt mg) (hX:NoX CX) (Oplaces:Own P w K mg base CX 1 "places" ["heap"] (yf K qjQ)):FnOk P w K mg base CX 2 f fd ["heap"] (yf K sPp):=by
 refine F.okD qh4 (fun es μ Q hq0=>by obtain ⟨ps,e,_⟩:=hq0;subst e;rfl) (fun cdv A outer s H E es μ Q hr hq0=>?_)
 obtain ⟨ps,e,hl,k⟩:=hq0
 subst e
 have nd:=qh4.nd
 refine ⟨_,(qx (ym (i:=1) nd rfl (by first | exact Or.inl rfl | exact Or.inr rfl) (ya Oplaces hX (hr.mono (by decide)) rfl (qc (dv 0) qm)))
   (qG (qW (qdP (L:=["at", "one", "other"]) (sc:=qt jv) (N:=["heap", "unlike"]) rfl rfl rfl (by decide +kernel) (qdM rfl T.enumerate_ (qc (dv 1) qm)) (fun _ _ _ _ _=>(j8 (n:=2) rfl (qR (qF (i:=2) (show List.Nodup (["heap", "unlike", "at", "one", "other"]:List Str) from by decide +kernel) rfl (by first | exact Or.inl rfl | exact Or.inr rfl)) (qR (qF (i:=3) (show List.Nodup (["heap", "unlike", "at", "one", "other"]:List Str) from by decide +kernel) rfl (by first | exact Or.inl rfl | exact Or.inr rfl)) jt)))) (fun _ _ _ _ _=>y7) (fun _ _ _ _ _=>(js (Yu (dv 1) (j6 (yj jr (dv 2) qu)) j7))) (fun _ _ _ _ _=>(qF (i:=4) (show List.Nodup (["heap", "unlike", "at", "one", "other"]:List Str) from by decide +kernel) rfl (by first | exact Or.inl rfl | exact Or.inr rfl))) (fun _ _ _ _ _=>y7) (fun _ _ _ _ _=>(JQ (qc (dv 3) (qc (dv 4) qm)))))))),?_⟩
 refine ⟨ps,rfl,by omega,fun hP=>?_⟩
 have hq:(plc ps).length<=44:=qJ (jG hP.1 fun q hq=>(hP.2.2 q).mp hq) hl
 have kk:=k hP
 generalize plc ps=qs at *
 have h1000:=qiA hq
 have nthe:∀ i,i<qs.length->∃ a,qs[i]?=some a/\(qs.map spD).getD i .none=spD a/\qs.drop i=a::qs.drop (i+1):=fun i hi=>by
  refine ⟨qs[i],List.getElem?_eq_getElem hi,?_,yy hi⟩
  rw [qq,List.getElem?_map,List.getElem?_eq_getElem hi];rfl
 refine ⟨_,.d _,fun i ys ρ' μ'=>μ'=μ/\(∃ don,don++prs (qs.drop i)=prs qs/\ys=don.map prD)/\∃ v2 v3 v4,ρ'=[some (.d (clD ps)),some (.d (clD qs)),v2,v3,v4],⟨rfl,⟨[],rfl,rfl⟩,_,_,_,rfl⟩,(fun i ys ρ' μ' _ _=>.d _),?_,?_⟩
 ·rintro i ys ρ' μ' hi ⟨rfl,⟨don,hd,rfl⟩,v2,v3,v4,rfl⟩
  have hi:i<(qs.map spD).length:=hi
  rw [List.length_map] at hi
  obtain ⟨a,ha,ea,ed⟩:=nthe i hi
  refine ⟨rfl,_,.d _,_,.d _,?_⟩
  have ec:Z7 (qs.map spD) (some ((i:Int)+1)) none=(qs.drop (i+1)).map spD:=by
   have:=Zr (qs.map spD) (i+1) (by rw [List.length_map];omega)
   rw [Int.natCast_add] at this
   rw [List.map_drop]
   exact this
  have hlen:don.length+(prs (qs.drop i)).length=(prs qs).length:=by rw [<- hd,List.length_append]
  have e3:prs (qs.drop i)=(qs.drop (i+1)).map (fun b=>(a,b))++prs (qs.drop (i+1)):=by rw [ed];rfl
  have hsum:don.length+(qs.drop (i+1)).length<=(prs qs).length:=by
   rw [<- hlen,e3,List.length_append,List.length_map];omega
  refine ⟨fun j ys ρ' μ'=>μ'=μ'/\μ'=_/\j<=(qs.drop (i+1)).length/\ys=(don++((qs.drop (i+1)).take j).map fun b=>(a,b)).map prD/\∃ v4,ρ'=[some (.d (clD ps)),some (.d (clD qs)),some (.d (.int (i:Int))),some (.d (spD a)),v4],⟨rfl,rfl,qQ _,(by simp),v4,?_⟩,?_,?_,?_⟩
  ·rw [<- ea];rfl
  ·rintro j ys ρ' μ' hj ⟨_,rfl,hj2,rfl,v4,rfl⟩
   refine ⟨.d _,?_⟩
   rw [List.length_map,List.length_append,List.length_map,List.length_take]
   omega
  ·rintro j ys ρ' μ' hj ⟨_,rfl,hj2,rfl,v4,rfl⟩
   have hj:j<(Z7 (qs.map spD) (some ((i:Int)+1)) none).length:=hj
   rw [ec,List.length_map] at hj
   have eb:(itL (.d (.list (Z7 (qs.map spD) (some ((i:Int)+1)) none))) (Z7 (qs.map spD) (some ((i:Int)+1)) none)).item j = .d (spD (qs.drop (i+1))[j]):=by
    show En.d ((Z7 (qs.map spD) (some ((i:Int)+1)) none).getD j .none)=_
    rw [ec,qq,List.getElem?_map,List.getElem?_eq_getElem hj];rfl
   rw [eb]
   refine ⟨zl2,_,rfl,rfl,rfl,hj,?_,_,rfl⟩
   rw [jE (List.getElem?_eq_getElem hj)]
   simp only [List.map_append,List.append_assoc,List.map_cons,List.map_nil]
   rfl
  ·rintro ys ρ' μ' ⟨_,rfl,hj2,rfl,v4,rfl⟩
   have hn:(itL (.d (.list (Z7 (qs.map spD) (some ((i:Int)+1)) none))) (Z7 (qs.map spD) (some ((i:Int)+1)) none)).n=(qs.drop (i+1)).length:=by
    show (Z7 (qs.map spD) (some ((i:Int)+1)) none).length=_
    rw [ec,List.length_map]
   refine ⟨rfl,⟨_,?_,rfl⟩,_,_,_,rfl⟩
   rw [hn,yu,List.append_assoc,<- e3]
   exact hd
 ·rintro ys ρ' μ' ⟨rfl,⟨don,hd,rfl⟩,v2,v3,v4,rfl⟩
  have:qs.drop (qs.map spD).length=[]:=by rw [List.length_map];exact List.drop_length
  have hd:don++prs (qs.drop (qs.map spD).length)=prs qs:=hd
  rw [this] at hd
  have hd:don++[]=prs qs:=hd
  rw [List.append_nil] at hd
  rw [hd]
  exact kk
abbrev Tr:=P3×P3×P3
def trs:List P3->List Tr
 | []=>[]
 | a::t=>(prs t).map (fun b=>(a,b.1,b.2))++trs t
def trD (t:Tr):PyData:=.tuple [spD t.1,spD t.2.1,spD t.2.2]
def qjN:Nat->Nat
 | 0=>0
 | n+1=>n+qjN n
def qjM:Nat->Nat
 | 0=>0
 | n+1=>qjN n+qjM n
theorem qa7:∀ l:List P3,(prs l).length=qjN l.length
 | []=>rfl
 | a::t=>by simp only [prs,List.length_append,List.length_map,List.length_cons,qjN,qa7 t]
theorem qcr:∀ l:List P3,(trs l).length=qjM l.length
 | []=>rfl
 | a::t=>by simp only [trs,List.length_append,List.length_map,List.length_cons,qjM,qcr t,qa7 t]
theorem qhY:∀ n:Nat,n<=28->qjM n<4000:=by decide
theorem qeD {ps qs:List P3}(h:Plc ps qs) (n:Nat):Plc (qs.drop n) (plc (qs.drop n))/\plc (qs.drop n)=qs.drop n:=by
 have h2:Plc (qs.drop n) (qs.drop n):=⟨(List.drop_sublist n qs).nodup h.1,by
  have:=h.2.1
  unfold Srt at *
  rw [List.map_drop]
  exact this.sublist (List.drop_sublist ..),fun p=>Iff.rfl⟩
 obtain ⟨e,h3⟩:=qcT h2
 exact ⟨h3,e.symm⟩
def sTr:SpD:=fun es μ Q=>∃ ps:List P3,es=[.d (clD ps)]/\ps.length<=28/\(Plc ps (plc ps)->Q (.d (.list ((trs (plc ps)).map trD))) μ)
theorem qh3:FnScope ["cloud", "unlike"] ["cloud"] (qt ji):=⟨rfl,rfl,rfl,by decide +kernel,rfl,by decide +kernel,by decide +kernel⟩
theorem ok_st {f:Addr}{fd:FuncData}(F:Fun K "spot_triples" "spot_triples" ji f fd) (T:Txt mg) (hX:NoX CX) (Oplaces:Own P w K mg base CX 1 "places" ["heap"] (yf K qjQ)) (Oplace_pairs:Own P w K mg base CX 2 "place_pairs" ["heap"] (yf K sPp)):FnOk P w K mg base CX 3 f fd ["cloud"] (yf K sTr):=by
 refine F.okD qh3 (fun es μ Q hq0=>by obtain ⟨ps,e,_⟩:=hq0;subst e;rfl) (fun cdv A outer s H E es μ Q hr hq0=>?_)
 obtain ⟨ps,e,hl,k⟩:=hq0
 subst e
 have nd:=qh3.nd
 refine ⟨_,(qx (ym (i:=1) nd rfl (by first | exact Or.inl rfl | exact Or.inr rfl) (ya Oplaces hX (hr.mono (by decide)) rfl (qc (dv 0) qm)))
   (qG (qW (qdP (L:=["at", "one", "two", "three"]) (sc:=qt ji) (N:=["cloud", "unlike"]) rfl rfl rfl (by decide +kernel) (qdM rfl T.enumerate_ (qc (dv 1) qm)) (fun _ _ _ _ _=>(j8 (n:=2) rfl (qR (qF (i:=2) (show List.Nodup (["cloud", "unlike", "at", "one", "two", "three"]:List Str) from by decide +kernel) rfl (by first | exact Or.inl rfl | exact Or.inr rfl)) (qR (qF (i:=3) (show List.Nodup (["cloud", "unlike", "at", "one", "two", "three"]:List Str) from by decide +kernel) rfl (by first | exact Or.inl rfl | exact Or.inr rfl)) jt)))) (fun _ _ _ _ _=>y7) (fun _ _ _ _ _=>(js (ya Oplace_pairs hX (hr.mono (by decide)) rfl (qc (Yu (dv 1) (j6 (yj jr (dv 2) qu)) j7) qm)))) (fun _ _ _ _ _=>(j8 (n:=2) rfl (qR (qF (i:=4) (show List.Nodup (["cloud", "unlike", "at", "one", "two", "three"]:List Str) from by decide +kernel) rfl (by first | exact Or.inl rfl | exact Or.inr rfl)) (qR (qF (i:=5) (show List.Nodup (["cloud", "unlike", "at", "one", "two", "three"]:List Str) from by decide +kernel) rfl (by first | exact Or.inl rfl | exact Or.inr rfl)) jt)))) (fun _ _ _ _ _=>y7) (fun _ _ _ _ _=>(JQ (qc (dv 3) (qc (dv 4) (qc (dv 5) qm))))))))),?_⟩
 refine ⟨ps,rfl,by omega,fun hP=>?_⟩
 have hq:(plc ps).length<=28:=qJ (jG hP.1 fun q hq=>(hP.2.2 q).mp hq) hl
 have kk:=k hP
 have hdr:=qeD hP
 generalize plc ps=qs at *
 have h1000:(trs qs).length<4000:=by rw [qcr];exact qhY _ hq
 have nthe:∀ i,i<qs.length->∃ a,qs[i]?=some a/\(qs.map spD).getD i .none=spD a/\qs.drop i=a::qs.drop (i+1):=fun i hi=>by
  refine ⟨qs[i],List.getElem?_eq_getElem hi,?_,yy hi⟩
  rw [qq,List.getElem?_map,List.getElem?_eq_getElem hi];rfl
 refine ⟨_,.d _,fun i ys ρ' μ'=>μ'=μ/\(∃ don,don++trs (qs.drop i)=trs qs/\ys=don.map trD)/\∃ v2 v3 v4 v5,ρ'=[some (.d (clD ps)),some (.d (clD qs)),v2,v3,v4,v5],⟨rfl,⟨[],rfl,rfl⟩,_,_,_,_,rfl⟩,(fun i ys ρ' μ' _ _=>.d _),?_,?_⟩
 ·rintro i ys ρ' μ' hi ⟨rfl,⟨don,hd,rfl⟩,v2,v3,v4,v5,rfl⟩
  have hi:i<(qs.map spD).length:=hi
  rw [List.length_map] at hi
  obtain ⟨a,ha,ea,ed⟩:=nthe i hi
  have ec:Z7 (qs.map spD) (some ((i:Int)+1)) none=(qs.drop (i+1)).map spD:=by
   have:=Zr (qs.map spD) (i+1) (by rw [List.length_map];omega)
   rw [Int.natCast_add] at this
   rw [List.map_drop]
   exact this
  obtain ⟨hP2,hp2⟩:=hdr (i+1)
  refine ⟨rfl,_,.d _,qs.drop (i+1),by rw [ec];rfl,by rw [List.length_drop];omega,fun _=>?_⟩
  rw [hp2]
  refine ⟨_,.d _,?_⟩
  have hlen:don.length+(trs (qs.drop i)).length=(trs qs).length:=by rw [<- hd,List.length_append]
  have e3:trs (qs.drop i)=(prs (qs.drop (i+1))).map (fun b=>(a,b.1,b.2))++trs (qs.drop (i+1)):=by rw [ed];rfl
  have hsum:don.length+(prs (qs.drop (i+1))).length<=(trs qs).length:=by
   rw [<- hlen,e3,List.length_append,List.length_map];omega
  refine ⟨fun j ys ρ' μ'=>μ'=μ'/\μ'=_/\j<=(prs (qs.drop (i+1))).length/\ys=(don++((prs (qs.drop (i+1))).take j).map fun b=>(a,b.1,b.2)).map trD/\∃ v4 v5,ρ'=[some (.d (clD ps)),some (.d (clD qs)),some (.d (.int (i:Int))),some (.d (spD a)),v4,v5],⟨rfl,rfl,qQ _,(by simp),v4,v5,?_⟩,?_,?_,?_⟩
  ·rw [<- ea];rfl
  ·rintro j ys ρ' μ' hj ⟨_,rfl,hj2,rfl,v4,v5,rfl⟩
   refine ⟨.d _,?_⟩
   rw [List.length_map,List.length_append,List.length_map,List.length_take]
   omega
  ·rintro j ys ρ' μ' hj ⟨_,rfl,hj2,rfl,v4,v5,rfl⟩
   have hj:j<((prs (qs.drop (i+1))).map prD).length:=hj
   rw [List.length_map] at hj
   have eb:(itL (.d (.list ((prs (qs.drop (i+1))).map prD))) ((prs (qs.drop (i+1))).map prD)).item j = .d (prD (prs (qs.drop (i+1)))[j]):=by
    show En.d (((prs (qs.drop (i+1))).map prD).getD j .none)=_
    rw [qq,List.getElem?_map,List.getElem?_eq_getElem hj];rfl
   rw [eb]
   refine ⟨rfl,zl3,_,rfl,rfl,rfl,hj,?_,_,_,rfl⟩
   rw [jE (List.getElem?_eq_getElem hj)]
   simp only [List.map_append,List.append_assoc,List.map_cons,List.map_nil]
   rfl
  ·rintro ys ρ' μ' ⟨_,rfl,hj2,rfl,v4,v5,rfl⟩
   have hn:(itL (.d (.list ((prs (qs.drop (i+1))).map prD))) ((prs (qs.drop (i+1))).map prD)).n=(prs (qs.drop (i+1))).length:=by
    show ((prs (qs.drop (i+1))).map prD).length=_
    rw [List.length_map]
   refine ⟨rfl,⟨_,?_,rfl⟩,_,_,_,_,rfl⟩
   rw [hn,yu,List.append_assoc,<- e3]
   exact hd
 ·rintro ys ρ' μ' ⟨rfl,⟨don,hd,rfl⟩,v2,v3,v4,v5,rfl⟩
  have:qs.drop (qs.map spD).length=[]:=by rw [List.length_map];exact List.drop_length
  have hd:don++trs (qs.drop (qs.map spD).length)=trs qs:=hd
  rw [this] at hd
  have hd:don++[]=trs qs:=hd
  rw [List.append_nil] at hd
  rw [hd]
  exact kk
def nm3 (t:Tr):P3:=ld3 (upr t.1 t.2.1 t.2.2)
def ct3 (t:Tr):Int:=qA (nm3 t) t.1
def hv3 (t:Tr) (X:List P3):Bool:=evn (qb7 (sgs (nm3 t) (ct3 t) X))
def gd3 (A B C:List P3) (t:Tr):Bool:=(!decide (upr t.1 t.2.1 t.2.2=Z3)) && (hv3 t A && (hv3 t B && hv3 t C))
def hfD:Option Tr->PyData
 | none=>.none
 | some t=>.tuple [ftD (nm3 t) (ct3 t),spD t.1,spD t.2.1,spD t.2.2]
noncomputable def hf3 (A B C:List P3):Option Tr:=(trs (plc (A++B++C))).find? (gd3 A B C)
def sHF:SpD:=fun es μ Q=>∃ A B C:List P3,es=[.d (clD A),.d (clD B),.d (clD C)]/\A.length+B.length+C.length<=28/\(∀ X∈[A,B,C],∀ x∈X,N3 B0 x)/\(Plc (A++B++C) (plc (A++B++C))->Q (.d (hfD (hf3 A B C))) μ)
theorem Y9:∀ {l:List P3}{t:P3×P3},t∈prs l->t.1∈l/\t.2∈l
 | a::l,t,h=>by
  rcases List.mem_append.mp h with h | h
  ·obtain ⟨b,hb,rfl⟩:=qK.mp h
   exact ⟨qg,qe _ hb⟩
  ·exact ⟨qe _ (Y9 h).1,qe _ (Y9 h).2⟩
theorem JC:∀ {l:List P3}{t:Tr},t∈trs l->t.1∈l/\t.2.1∈l/\t.2.2∈l
 | a::l,t,h=>by
  rcases List.mem_append.mp h with h | h
  ·obtain ⟨b,hb,rfl⟩:=qK.mp h
   exact ⟨qg,qe _ (Y9 hb).1,qe _ (Y9 hb).2⟩
  ·exact ⟨qe _ (JC h).1,qe _ (JC h).2.1,qe _ (JC h).2.2⟩
theorem qhb {l:List Tr}{p:Tr->Bool}{i:Nat}{t:Tr}(h:l[i]?=some t) (hn:∀ x∈l.take i,p x=false) (ht:p t=true):l.find? p=some t:=by
 have hi:=(qo.mp h).1
 have e:l=l.take i++t::l.drop (i+1):=by
  rw [<- (qo.mp h).2,<- yy hi,qw]
 refine List.find?_eq_some_iff_append.mpr ⟨ht,_,_,e,fun a ha=>by rw [hn a ha];rfl⟩
theorem qh7:FnScope ["one", "two", "three", "first", "second", "third", "flat"] ["one", "two", "three"] (qt jM):=⟨rfl,rfl,rfl,by decide +kernel,rfl,by decide +kernel,by decide +kernel⟩
theorem ok_hf {f:Addr}{fd:FuncData}(F:Fun K "halving_flat" "halving_flat" jM f fd) (hX:NoX CX) (Ospot_triples:Own P w K mg base CX 3 "spot_triples" ["cloud"] (yf K sTr)) (Oare_aligned:Own P w K mg base CX 2 "are_aligned" ["one", "two", "three"] (yf K qjS)) (Oflat_through:Own P w K mg base CX 3 "flat_through" ["one", "two", "three"] (yf K sFl)) (Oflat_halves:Own P w K mg base CX 4 "flat_halves" ["flat", "cloud"] (yf K sFH)):FnOk P w K mg base CX 5 f fd ["one", "two", "three"] (yf K sHF):=by
 refine F.okD qh7 (fun es μ Q hq0=>by obtain ⟨A,B,C,e,_⟩:=hq0;subst e;rfl) (fun cdv A' outer s H E es μ Q hr hq0=>?_)
 obtain ⟨A,B,C,e,hl,hb,k⟩:=hq0
 subst e
 have nd:=qh7.nd
 refine ⟨_,(qx (Jl PassesOwn.never rfl (js (ya Ospot_triples hX (hr.mono (by decide)) rfl (qc (yj YT (yj YT (dv 0) (dv 1)) (dv 2)) qm))) (j8 (n:=3) rfl (qR (qF (i:=3) nd rfl (by first | exact Or.inl rfl | exact Or.inr rfl)) (qR (qF (i:=4) nd rfl (by first | exact Or.inl rfl | exact Or.inr rfl)) (qR (qF (i:=5) nd rfl (by first | exact Or.inl rfl | exact Or.inr rfl)) jt)))) (qx (jB (jH (ya Oare_aligned hX (hr.mono (by decide)) rfl (qc (dv 3) (qc (dv 4) (qc (dv 5) qm))))) (qG qaL) yL)
   (qx (ym (i:=6) nd rfl (by first | exact Or.inl rfl | exact Or.inr rfl) (ya Oflat_through hX (hr.mono (by decide)) rfl (qc (dv 3) (qc (dv 4) (qc (dv 5) qm)))))
   (qG (jB (qhf (qbq (jH (ya Oflat_halves hX (hr.mono (by decide)) rfl (qc (dv 6) (qc (dv 0) qm)))) (qbq (jH (ya Oflat_halves hX (hr.mono (by decide)) rfl (qc (dv 6) (qc (dv 1) qm)))) (qaI (jH (ya Oflat_halves hX (hr.mono (by decide)) rfl (qc (dv 6) (qc (dv 2) qm)))))))) (qG (qW (JQ (qc (dv 6) (qc (dv 3) (qc (dv 4) (qc (dv 5) qm))))))) yL)))))
   (qG (qW qhr))),?_⟩
 have l1:A.length<=28:=by omega
 have l2:B.length<=28:=by omega
 have l3:C.length<=28:=by omega
 have z1:(A.map spD).length<=28:=by rw [List.length_map];exact l1
 have z2:(B.map spD).length<=28:=by rw [List.length_map];exact l2
 have z3:(C.map spD).length<=28:=by rw [List.length_map];exact l3
 refine ⟨_,_,.d _,.d _,by omega,_,_,.d _,.d _,by rw [List.length_append];omega,A++B++C,by unfold clD;rw [List.map_append,List.map_append],by rw [List.length_append,List.length_append];omega,fun hP=>?_⟩
 have kk:=k hP
 have hbd:∀ x∈plc (A++B++C),N3 B0 x:=fun x hx=>by
  have:=(hP.2.2 x).mp hx
  rcases List.mem_append.mp this with h | h
  ·rcases List.mem_append.mp h with h | h
   ·exact hb A (by simp) x h
   ·exact hb B (by simp) x h
  ·exact hb C (by simp) x h
 unfold hf3 at kk
 generalize plc (A++B++C)=pl at *
 refine ⟨_,.d _,?_⟩
 refine qj4 (fun i ρ' μ'=>μ'=μ/\(∀ x∈(trs pl).take i,gd3 A B C x=false)/\∃ v1 v2 v3 v4,ρ'=[some (.d (clD A)),some (.d (clD B)),some (.d (clD C)),v1,v2,v3,v4]) ⟨rfl,fun _ h=>(nomatch h),_,_,_,_,rfl⟩ (fun _ _ _ _=>.d _) ?_ ?_
 ·rintro i x ρ' μ' hx ⟨rfl,hn,v1,v2,v3,v4,rfl⟩
  rw [List.getElem?_map] at hx
  obtain ⟨t,ht,rfl⟩:=Option.map_eq_some_iff.mp hx
  obtain ⟨m1,m2,m3⟩:=JC (List.mem_of_getElem? ht)
  have b1:=hbd _ m1
  have b2:=hbd _ m2
  have b3:=hbd _ m3
  have next:gd3 A B C t=false->∀ x∈(trs pl).take (i+1),gd3 A B C x=false:=fun hg x hx=>by
   rw [List.take_succ,ht] at hx
   rcases List.mem_append.mp hx with h | h
   ·exact hn x h
   ·rw [qz.mp h];exact hg
  refine ⟨rfl,t.1,t.2.1,t.2.2,rfl,b1,b2,b3,Jk (fun c=>?_) (fun c=>?_)⟩
  ·refine Wks.of ⟨rfl,next ?_,_,_,_,_,rfl⟩
   unfold gd3
   rw [show decide (upr t.1 t.2.1 t.2.2=Z3)=true from c]
   rfl
  ·have c:¬ decide (upr t.1 t.2.1 t.2.2=Z3)=true:=c
   have hu:upr t.1 t.2.1 t.2.2≠Z3:=fun e=>c (qB e)
   have hN:N3 (B0 * B0 * 100) (nm3 t):=qaD hu (qej b1 b2 b3)
   have eg:gd3 A B C t=(hv3 t A && (hv3 t B && hv3 t C)):=by
    unfold gd3
    rw [jl.mpr c]
    rfl
   refine ⟨t.1,t.2.1,t.2.2,rfl,b1,b2,b3,hu,nm3 t,ct3 t,A,rfl,hN,hb A (by simp),by omega,Jk (fun c1=>?_) (fun c1=>?_)⟩
   ·have c1:hv3 t A=true:=c1
    refine ⟨nm3 t,ct3 t,B,rfl,hN,hb B (by simp),by omega,Jk (fun c2=>?_) (fun c2=>?_)⟩
    ·have c2:hv3 t B=true:=c2
     refine ⟨nm3 t,ct3 t,C,rfl,hN,hb C (by simp),by omega,Jk (fun c3=>?_) (fun c3=>?_)⟩
     ·have c3:hv3 t C=true:=c3
      refine ⟨zl4,?_⟩
      rw [qhb ht hn (by rw [eg,c1,c2,c3];rfl)] at kk
      exact kk
     ·have c3:¬ hv3 t C=true:=c3
      exact Wks.of ⟨rfl,next (by rw [eg,c1,c2,jl.mpr c3];rfl),_,_,_,_,rfl⟩
    ·have c2:¬ hv3 t B=true:=c2
     exact Wks.of ⟨rfl,next (by rw [eg,c1,jl.mpr c2];rfl),_,_,_,_,rfl⟩
   ·have c1:¬ hv3 t A=true:=c1
    exact Wks.of ⟨rfl,next (by rw [eg,jl.mpr c1];rfl),_,_,_,_,rfl⟩
 ·rintro ρ' μ' ⟨rfl,hn,v1,v2,v3,v4,rfl⟩
  rw [List.length_map,yu] at hn
  rw [List.find?_eq_none.mpr fun x hx=>by rw [hn x hx];decide] at kk
  exact kk
end
section
variable {P:Program}{w:World}{K:W.Frag}{mg:Str->Option Value}{base:Heap}{CX:CXT}
theorem qjx (f:P3->Int) (X:List P3):(X.map fun a=>(f a).sign).count (-1)=X.countP (fun x=>decide (f x<0))/\(X.map fun a=>(f a).sign).count 1=X.countP (fun x=>decide (0<f x)):=by
 unfold List.count
 rw [List.countP_map,List.countP_map]
 constructor
 ·congr 1
  funext x
  show ((f x).sign == -1)=_
  rcases yb (f x) 0 with h | h | h
  ·rw [Int.sign_eq_neg_one_of_neg h];simp [h]
  ·rw [h];rfl
  ·rw [Int.sign_eq_one_of_pos h];simp;omega
 ·congr 1
  funext x
  show ((f x).sign == 1)=_
  rcases yb (f x) 0 with h | h | h
  ·rw [Int.sign_eq_neg_one_of_neg h];simp;omega
  ·rw [h];rfl
  ·rw [Int.sign_eq_one_of_pos h];simp [h]
theorem qdB (n:P3) (c:Int) (X:List P3):evn (qb7 (sgs n c X))=true ↔ HVf (fun x=>qA n x - c) X:=by
 have hs:=qgk n c X
 obtain ⟨h1,h2⟩:=qjx (fun x=>qA n x - c) X
 have e1:(qb7 (sgs n c X)).1=((X.countP (fun x=>decide (qA n x - c<0)):Nat):Int):=congrArg Int.ofNat h1
 have e2:(qb7 (sgs n c X)).2.2=((X.countP (fun x=>decide (0<qA n x - c)):Nat):Int):=congrArg Int.ofNat h2
 unfold evn HVf
 rw [hs,e1,e2,Bool.and_eq_true,decide_eq_true_iff,decide_eq_true_iff]
 show 2 * ((X.countP (fun x=>decide (qA n x - c<0)):Nat):Int)<=(X.length:Int)/\2 * ((X.countP (fun x=>decide (0<qA n x - c)):Nat):Int)<=(X.length:Int) ↔ 2 * X.countP (fun x=>decide (qA n x - c<0))<=X.length/\2 * X.countP (fun x=>decide (0<qA n x - c))<=X.length
 omega
theorem qdr {f g:P3->Int}{d:Int}(hd:d≠0) (e:∀ x,g x=d * f x) {X:List P3}:HVf g X ↔ HVf f X:=by
 rcases yb d 0 with h | h | h
 ·have s1:∀ x,g x<0 ↔ 0<f x:=fun x=>by
   rw [e x]
   constructor
   ·intro z
    by_cases q:0<f x
    ·exact q
    ·have:=Int.mul_nonneg (show 0 <= -d by omega) (show 0 <= - f x by omega)
     rw [Int.neg_mul_neg] at this;omega
   ·intro z
    exact Int.mul_neg_of_neg_of_pos h z
  have s2:∀ x,0<g x ↔ f x<0:=fun x=>by
   rw [e x]
   constructor
   ·intro z
    by_cases q:f x<0
    ·exact q
    ·have:=Int.mul_nonneg (show 0 <= -d by omega) (show 0<=f x by omega)
     rw [Int.neg_mul] at this;omega
   ·intro z
    exact Int.mul_pos_of_neg_of_neg h z
  unfold HVf
  simp only [s1,s2]
  exact And.comm
 ·exact absurd h hd
 ·have s1:∀ x,g x<0 ↔ f x<0:=fun x=>by
   rw [e x]
   constructor
   ·intro z
    by_cases q:f x<0
    ·exact q
    ·have:=Int.mul_nonneg (show 0<=d by omega) (show 0<=f x by omega)
     omega
   ·intro z
    exact Int.mul_neg_of_pos_of_neg h z
  have s2:∀ x,0<g x ↔ 0<f x:=fun x=>by
   rw [e x]
   constructor
   ·intro z
    exact jF h z
   ·intro z
    exact Int.mul_pos h z
  unfold HVf
  simp only [s1,s2]
theorem qaG {t:Tr}(hu:upr t.1 t.2.1 t.2.2≠Z3) (X:List P3):hv3 t X=true ↔ HVf (jf t.1 t.2.1 t.2.2) X:=by
 unfold hv3
 rw [qdB]
 refine (qdr (j5 hu) fun x=>?_).symm
 unfold jf nm3 ct3
 rw [Zp hu x,Zp hu t.1]
 unfold nm3
 rw [Int.mul_sub]
theorem qfN {p q r:P3}{Xs:List (List P3)}(h:upr p q r≠Z3/\∀ X∈Xs,HVf (jf p q r) X):(upr q p r≠Z3/\∀ X∈Xs,HVf (jf q p r) X)/\(upr p r q≠Z3/\∀ X∈Xs,HVf (jf p r q) X):=by
 have nz:∀ n:P3,Jw n=Z3->n=Z3:=fun n e=>by
  obtain ⟨a,b,c⟩:=n
  simp only [Jw,Z3,Prod.mk.injEq] at e ⊢
  omega
 have e2:upr p r q=Jw (upr p q r):=by
  obtain ⟨a,b,c⟩:=p
  obtain ⟨d,e,f⟩:=q
  obtain ⟨g,i,j⟩:=r
  simp only [upr,yS,yh,Jw,Prod.mk.injEq]
  refine ⟨?_,?_,?_⟩ <;> grind
 exact ⟨⟨fun e=>h.1 (nz _ (by rw [<- YY];exact e)),fun X hX=>qds (qaP p q r) (h.2 X hX)⟩,⟨fun e=>h.1 (nz _ (by rw [<- e2];exact e)),fun X hX=>qds (qaO p q r) (h.2 X hX)⟩⟩
theorem qcP {G:P3->P3->Prop}(sy:∀ a b,G a b->G b a):∀ {l:List P3}{p q:P3},p∈l->q∈l->p≠q->G p q->∃ t∈prs l,G t.1 t.2
 | a::l,p,q,hp,hq,hne,g=>by
  rcases List.mem_cons.mp hp with rfl | hp2
  ·rcases List.mem_cons.mp hq with rfl | hq2
   ·exact absurd rfl hne
   ·exact ⟨_,qC _ (qK.mpr ⟨q,hq2,rfl⟩),g⟩
  ·rcases List.mem_cons.mp hq with rfl | hq2
   ·exact ⟨_,qC _ (qK.mpr ⟨p,hp2,rfl⟩),sy _ _ g⟩
   ·obtain ⟨t,h1,h2⟩:=qcP sy hp2 hq2 hne g
    exact ⟨t,qf _ h1,h2⟩
theorem ZE {G:P3->P3->P3->Prop}(s1:∀ a b c,G a b c->G b a c) (s2:∀ a b c,G a b c->G a c b):∀ {l:List P3}{p q r:P3},p∈l->q∈l->r∈l->p≠q->p≠r->q≠r->G p q r->∃ t∈trs l,G t.1 t.2.1 t.2.2
 | a::l,p,q,r,hp,hq,hr,n1,n2,n3,g=>by
  have one:∀ x y,x∈l->y∈l->x≠y->G a x y->∃ t∈trs (a::l),G t.1 t.2.1 t.2.2:=fun x y hx hy hne g=>by
   obtain ⟨t,h1,h2⟩:=qcP (G:=G a) (fun _ _ h=>s2 _ _ _ h) hx hy hne g
   exact ⟨_,qC _ (qK.mpr ⟨t,h1,rfl⟩),h2⟩
  rcases List.mem_cons.mp hp with rfl | hp2
  ·exact one q r ((List.mem_cons.mp hq).resolve_left n1.symm) ((List.mem_cons.mp hr).resolve_left n2.symm) n3 g
  rcases List.mem_cons.mp hq with rfl | hq2
  ·exact one p r hp2 ((List.mem_cons.mp hr).resolve_left n3.symm) n2 (s1 _ _ _ g)
  rcases List.mem_cons.mp hr with rfl | hr2
  ·exact one p q hp2 hq2 n1 (s1 _ _ _ (s2 _ _ _ g))
  ·obtain ⟨t,h1,h2⟩:=ZE s1 s2 hp2 hq2 hr2 n1 n2 n3 g
   exact ⟨t,qf _ h1,h2⟩
def inl:List P3->Bool
 | []=>true
 | a::t=>t.all fun b=>t.all fun c=>decide (upr a b c=Z3)
def qhG (A B C:List P3) (o:Option Tr):Prop:=(inl (plc (A++B++C))=true/\o=none)\/(inl (plc (A++B++C))=false/\∃ t,o=some t/\t.1∈plc (A++B++C)/\t.2.1∈plc (A++B++C)/\t.2.2∈plc (A++B++C)/\upr t.1 t.2.1 t.2.2≠Z3/\∀ X∈[A,B,C],hv3 t X=true)
theorem lin3 {a b c d:P3}(h0:a≠b) (h1:upr a b c=Z3) (h2:upr a b d=Z3):upr a c d=Z3:=by
 obtain ⟨a1,a2,a3⟩:=a
 obtain ⟨b1,b2,b3⟩:=b
 obtain ⟨c1,c2,c3⟩:=c
 obtain ⟨d1,d2,d3⟩:=d
 simp only [upr,yS,yh,Z3,Prod.mk.injEq,ne_eq] at *
 have e1:=h1.1
 have e2:=h1.2.1
 have e3:=h1.2.2
 have f1:=h2.1
 have f2:=h2.2.1
 have f3:=h2.2.2
 have hb:b1 - a1≠0\/b2 - a2≠0\/b3 - a3≠0:=by omega
 generalize b1 - a1=x1 at *
 generalize b2 - a2=x2 at *
 generalize b3 - a3=x3 at *
 generalize c1 - a1=y1 at *
 generalize c2 - a2=y2 at *
 generalize c3 - a3=y3 at *
 generalize d1 - a1=z1 at *
 generalize d2 - a2=z2 at *
 generalize d3 - a3=z3 at *
 have can:∀ x y:Int,x≠0->x * y=0->y=0:=fun x y h e=>(Int.mul_eq_zero.mp e).resolve_left h
 rcases hb with h | h | h
 ·exact ⟨can _ _ (Int.mul_ne_zero h h) (by grind),can _ _ h (by grind),can _ _ h (by grind)⟩
 ·exact ⟨can _ _ h (by grind),can _ _ (Int.mul_ne_zero h h) (by grind),can _ _ h (by grind)⟩
 ·exact ⟨can _ _ h (by grind),can _ _ h (by grind),can _ _ (Int.mul_ne_zero h h) (by grind)⟩
theorem qg2 {pl:List P3}(h:inl pl=false):∃ a∈pl,∃ b∈pl,∃ c∈pl,upr a b c≠Z3:=by
 match pl,h with
 | a::t,h =>
  refine Classical.byContradiction fun n=>?_
  have:inl (a::t)=true:=by
   refine List.all_eq_true.mpr fun b hb=>List.all_eq_true.mpr fun c hc=>qB ?_
   refine Classical.byContradiction fun z=>n ⟨a,qg,b,qe _ hb,c,qe _ hc,z⟩
  rw [this] at h
  cases h
theorem qg3 {pl:List P3}(h:inl pl=true) (nd:pl.Nodup):∀ p∈pl,∀ q∈pl,∀ r∈pl,upr p q r=Z3:=by
 match pl,h,nd with
 | [],_,_=>exact fun p hp=>(nomatch hp)
 | a::t,h,nd =>
  have hh:∀ b∈t,∀ c∈t,upr a b c=Z3:=fun b hb c hc=>qv (List.all_eq_true.mp (List.all_eq_true.mp h b hb) c hc)
  have h2:∀ b∈a::t,∀ c∈a::t,upr a b c=Z3:=fun b hb c hc=>by
   refine Classical.byContradiction fun z=>?_
   have n1:=YZ z
   have n2:=qa0 z
   exact z (hh b ((List.mem_cons.mp hb).resolve_left n1.symm) c ((List.mem_cons.mp hc).resolve_left n2.symm))
  intro p hp q hq r hr
  refine Classical.byContradiction fun z=>?_
  have key:∀ p q r,p∈a::t->q∈a::t->r∈a::t->upr p q r≠Z3->a=p\/False:=fun p q r hp hq hr z=>by
   by_cases e:a=p
   ·exact .inl e
   ·right
    -- all through a and p
    have cyc:∀ x,x∈a::t->upr p a x=Z3:=fun x hx=>by
     have:=h2 p hp x hx
     have e2:=YY a p x
     rw [this] at e2
     exact e2
    have:=lin3 (a:=p) (b:=a) (c:=q) (d:=r) (fun z=>e z.symm) (cyc q hq) (cyc r hr)
    exact z this
  rcases key p q r hp hq hr z with e | e
  ·subst e
   exact z (h2 q hq r hr)
  ·exact e
theorem rt_of {A B C:List P3}(hP:Plc (A++B++C) (plc (A++B++C))) (ham:inl (plc (A++B++C))=false->Ok3 (plc (A++B++C)) [A,B,C]):qhG A B C (hf3 A B C):=by
 by_cases h:inl (plc (A++B++C))=true
 ·left
  refine ⟨h,List.find?_eq_none.mpr fun t ht=>?_⟩
  obtain ⟨m1,m2,m3⟩:=JC ht
  unfold gd3
  rw [qg3 h hP.1 _ m1 _ m2 _ m3]
  exact fun z=>by simp at z
 ·have h:=jl.mpr h
  right
  refine ⟨h,?_⟩
  obtain ⟨p,q,r,hp,hq,hr,hu,hv⟩:=ham h
  obtain ⟨t,ht,hu2,hv2⟩:=ZE (G:=fun a b c=>upr a b c≠Z3/\∀ X∈[A,B,C],HVf (jf a b c) X) (fun a b c g=>(qfN g).1) (fun a b c g=>(qfN g).2) hp hq hr (YZ hu) (qa0 hu) (qef hu) ⟨hu,hv⟩
  have hg:gd3 A B C t=true:=by
   unfold gd3
   rw [(qaG hu2 A).mpr (hv2 A (by simp)),(qaG hu2 B).mpr (hv2 B (by simp)),(qaG hu2 C).mpr (hv2 C (by simp))]
   simp [hu2]
  unfold hf3
  cases hf:(trs (plc (A++B++C))).find? (gd3 A B C) with
  | none=>exact absurd hg (List.find?_eq_none.mp hf t ht)
  | some u =>
   have g:=List.find?_some hf
   obtain ⟨m1,m2,m3⟩:=JC (List.mem_of_find?_eq_some hf)
   unfold gd3 at g
   simp only [Bool.and_eq_true,Bool.not_eq_true',decide_eq_false_iff_not] at g
   refine ⟨u,rfl,m1,m2,m3,g.1,fun X hX=>?_⟩
   simp only [List.mem_cons,List.mem_nil_iff,or_false] at hX
   rcases hX with rfl | rfl | rfl
   ·exact g.2.1
   ·exact g.2.2.1
   ·exact g.2.2.2
def sLH:SpD:=fun es μ Q=>∃ (n:P3) (c:Int) (ss:List P3),es=[.d (ftD n c),.d (clD ss)]/\N3 (B0 * B0 * 100) n/\(∀ s∈ss,N3 B0 s)/\ss.length<=4000/\HVf (fun x=>qA n x - c) ss/\Q (.d (.bool true)) μ
theorem qh5:FnScope ["_law_flat", "_law_cloud", "_law_less", "_law_more"] ["_law_flat", "_law_cloud"] (qt jd):=⟨rfl,rfl,rfl,by decide +kernel,rfl,by decide +kernel,by decide +kernel⟩
theorem ok_lh {f:Addr}{fd:FuncData}(F:Fun K "_law_halves" "_law_halves" jd f fd) (T:Txt mg) (hX:NoX CX) (O_law_far:Own P w K mg base CX 1 "_law_far" ["_law_flat", "_law_spot_here"] (yf K qjR)):FnOk P w K mg base CX 2 f fd ["_law_flat", "_law_cloud"] (yf K sLH):=by
 refine F.okD qh5 (fun es μ Q hq0=>by obtain ⟨n,c,ss,e,_⟩:=hq0;subst e;rfl) (fun cdv A outer s H E es μ Q hr hq0=>?_)
 obtain ⟨n,c,ss,e,hn,hs,hl,hv,k⟩:=hq0
 subst e
 have nd:=qh5.nd
 refine ⟨_,(qx (ym (i:=2) nd rfl (by first | exact Or.inl rfl | exact Or.inr rfl) (qY Jb (by rfl) T.len_ Jd (qc (JZ (L:=["_law_spot_here"]) (sc:=qt jd) (N:=["_law_flat", "_law_cloud", "_law_less", "_law_more"]) rfl rfl rfl (by decide +kernel) (js (dv 1)) (fun _ _ _ _ _=>(qF (i:=4) (show List.Nodup (["_law_flat", "_law_cloud", "_law_less", "_law_more", "_law_spot_here"]:List Str) from by decide +kernel) rfl (by first | exact Or.inl rfl | exact Or.inr rfl))) (fun _ _ _ _ _=>(qaN (yB qdK (ya O_law_far hX (hr.mono (by decide)) rfl (qc (dv 0) (qc (dv 4) qm))) qu (q0 _)))) (fun _ _ _ _ _=>(dv 4))) qm)))
   (qx (ym (i:=3) nd rfl (by first | exact Or.inl rfl | exact Or.inr rfl) (qY Jb (by rfl) T.len_ Jd (qc (JZ (L:=["_law_spot_here"]) (sc:=qt jd) (N:=["_law_flat", "_law_cloud", "_law_less", "_law_more"]) rfl rfl rfl (by decide +kernel) (js (dv 1)) (fun _ _ _ _ _=>(qF (i:=4) (show List.Nodup (["_law_flat", "_law_cloud", "_law_less", "_law_more", "_law_spot_here"]:List Str) from by decide +kernel) rfl (by first | exact Or.inl rfl | exact Or.inr rfl))) (fun _ _ _ _ _=>(qaN (yB qe5 (ya O_law_far hX (hr.mono (by decide)) rfl (qc (dv 0) (qc (dv 4) qm))) qu (q0 _)))) (fun _ _ _ _ _=>(dv 4))) qm)))
   (qG (qW (qaR (J4 qe4 (yj yn qu (dv 2)) (qY Jb (by rfl) T.len_ Jd (qc (dv 1) qm)) (q0 _)) (qbZ (J4 qe4 (yj yn qu (dv 3)) (qY Jb (by rfl) T.len_ Jd (qc (dv 1) qm)) (q0 _)))))))),?_⟩
 have hl2:(ss.map spD).length<=4000:=by rw [List.length_map];exact hl
 refine ⟨_,.d _,hl2,qbG (as:=ss) (h:=spD) (fun a=>decide (qA n a - c<0)) spD (Src.l (.d _)) (fun a ha R h=>⟨n,a,c,rfl,hn,hs a ha,h⟩) (fun a ha _ R h=>h) ?_⟩
 refine ⟨_,.l (.d _),_,.d _,hl2,qbG (as:=ss) (h:=spD) (fun a=>decide (0<qA n a - c)) spD (Src.l (.d _)) (fun a ha R h=>⟨n,a,c,rfl,hn,hs a ha,h⟩) (fun a ha _ R h=>h) ?_⟩
 have m2:∀ l:List PyData,l.length<=4000->qb5 2 ((l.length:Nat):Int):=fun l hl=>⟨bI (by decide),bI (show ((l.length:Nat):Int).natAbs<=1000000000000000000000000000000 by omega)⟩
 obtain ⟨v1,v2⟩:=hv
 have v1:2 * ss.countP (fun a=>decide (qA n a - c<0))<=ss.length:=v1
 have v2:2 * ss.countP (fun a=>decide (0<qA n a - c))<=ss.length:=v2
 rw [List.countP_eq_length_filter] at v1 v2
 have f1:=List.length_filter_le (fun a=>decide (qA n a - c<0)) ss
 have f2:=List.length_filter_le (fun a=>decide (0<qA n a - c)) ss
 refine ⟨_,.l (.d _),m2 _ (by rw [List.length_map];omega),_,.l (.d _),Jk (fun _=>?_) (fun z=>absurd (qB ?_) z)⟩
 ·refine ⟨m2 _ (by rw [List.length_map];omega),_,.l (.d _),?_⟩
  rw [List.length_map,List.length_map]
  have:decide (2 * (((ss.filter fun a=>decide (0<qA n a - c)).length:Nat):Int)<=(ss.length:Int))=true:=qB (by omega)
  rw [<- this] at k
  exact k
 ·show 2 * ((((ss.filter fun a=>decide (qA n a - c<0)).map spD).length:Nat):Int)<=((ss.map spD).length:Int)
  rw [List.length_map,List.length_map]
  omega
theorem qdi (n:P3):PyData.eqv (.list [.int n.1,.int n.2.1,.int n.2.2]) (.list [.int 0,.int 0,.int 0])=decide (n=Z3):=by
 obtain ⟨a,b,c⟩:=n
 by_cases h1:a=0 <;> by_cases h2:b=0 <;> by_cases h3:c=0 <;> simp [PyData.eqv,PyData.eqvAll,Z3,h1,h2,h3]
def sIL:SpD:=fun es μ Q=>∃ ss:List P3,es=[.d (clD ss)]/\(∀ s∈ss,N3 B0 s)/\ss.length<=4000/\Q (.d (.bool (inl ss))) μ
theorem qh6:FnScope ["_law_some", "_law_two", "_law_three"] ["_law_some"] (qt jN):=⟨rfl,rfl,rfl,by decide +kernel,rfl,by decide +kernel,by decide +kernel⟩
theorem ok_il {f:Addr}{fd:FuncData}(F:Fun K "_law_in_line" "_law_in_line" jN f fd) (hX:NoX CX) (O_law_upright:Own P w K mg base CX 1 "_law_upright" ["_law_one", "_law_two", "_law_three"] (yf K qjP)):FnOk P w K mg base CX 2 f fd ["_law_some"] (yf K sIL):=by
 refine F.okD qh6 (fun es μ Q hq0=>by obtain ⟨ss,e,_⟩:=hq0;subst e;rfl) (fun cdv A outer s H E es μ Q hr hq0=>?_)
 obtain ⟨ss,e,hs,hl,k⟩:=hq0
 subst e
 have nd:=qh6.nd
 refine ⟨_,(qx (Jl PassesOwn.never rfl (js (Yu (dv 0) (j6 qu) j7)) (qF (i:=1) nd rfl (by first | exact Or.inl rfl | exact Or.inr rfl)) (qG (Jl PassesOwn.never rfl (js (Yu (dv 0) (j6 qu) j7)) (qF (i:=2) nd rfl (by first | exact Or.inl rfl | exact Or.inr rfl)) (qG (jB (yB (YF hr.units) (ya O_law_upright hX (hr.mono (by decide)) rfl (qc (yJ qE (dv 0) qu (fun _ _=>rfl)) (qc (dv 1) (qc (dv 2) qm)))) (qb0 (qc qu (qc qu (qc qu qm)))) (q0 _)) (qG (qW qdQ)) yL)))))
   (qG (qW qdQ))),?_⟩
 have ec:Z7 (ss.map spD) (some 1) none=(ss.drop 1).map spD:=by
  rw [List.map_drop]
  by_cases h:1<=ss.length
  ·exact Zr (ss.map spD) 1 (by rw [List.length_map];exact h)
  ·have:ss=[]:=List.eq_nil_of_length_eq_zero (by omega)
   subst this;rfl
 obtain ⟨a,ha⟩:∃ a:P3,ss.drop 1≠[]->ss=a::ss.drop 1:=by
  cases ss with
  | nil=>exact ⟨Z3,fun h=>absurd rfl h⟩
  | cons a t=>exact ⟨a,fun _=>rfl⟩
 have hd:∀ s∈ss.drop 1,N3 B0 s:=fun s h=>hs s (yH h)
 have kt:(∀ b∈ss.drop 1,∀ c∈ss.drop 1,upr a b c=Z3)->Q (.d (.bool true)) μ:=fun h=>by
  have:inl ss=true:=by
   cases ss with
   | nil=>rfl
   | cons a' t =>
    refine List.all_eq_true.mpr fun b hb=>List.all_eq_true.mpr fun c hc=>qB ?_
    have:=ha (fun z=>by rw [show (a'::t).drop 1=t from rfl] at z;rw [z] at hb;cases hb)
    rw [(List.cons.inj this).1]
    exact h b hb c hc
  rw [<- this];exact k
 have kf:∀ b∈ss.drop 1,∀ c∈ss.drop 1,upr a b c≠Z3->Q (.d (.bool false)) μ:=fun b hb c hc hu=>by
  have:inl ss=false:=by
   have e:=ha (fun z=>by rw [z] at hb;cases hb)
   generalize ss.drop 1=t at *
   subst e
   refine jl.mpr fun z=>hu ?_
   exact qv (List.all_eq_true.mp (List.all_eq_true.mp z b hb) c hc)
  rw [<- this];exact k
 have e0:ss.drop 1≠[]->atI (ss.map spD) 0=some (spD a)/\N3 B0 a:=fun h=>by
  have:=ha h
  rw [this]
  exact ⟨Zw (j:=0) rfl,hs a (by rw [this];exact qg)⟩
 refine ⟨_,.d _,_,.d _,?_⟩
 rw [ec]
 refine qj4 (fun i ρ' μ'=>μ'=μ/\(∀ b∈(ss.drop 1).take i,∀ c∈ss.drop 1,upr a b c=Z3)/\∃ v1 v2,ρ'=[some (.d (clD ss)),v1,v2]) ⟨rfl,fun _ h=>(nomatch h),_,_,rfl⟩ (fun _ _ _ _=>.d _) ?_ ?_
 ·rintro i x ρ' μ' hx ⟨rfl,hi,v1,v2,rfl⟩
  rw [List.getElem?_map] at hx
  obtain ⟨b,hb,rfl⟩:=Option.map_eq_some_iff.mp hx
  have mb:=List.mem_of_getElem? hb
  have hne:ss.drop 1≠[]:=fun z=>by rw [z] at mb;cases mb
  obtain ⟨ea,na⟩:=e0 hne
  refine ⟨_,.d _,_,.d _,?_⟩
  rw [ec]
  refine qj4 (fun j ρ' μ2=>μ2=μ'/\(∀ c∈(ss.drop 1).take j,upr a b c=Z3)/\∃ v2,ρ'=[some (.d (clD ss)),some (.d (spD b)),v2]) ⟨rfl,fun _ h=>(nomatch h),_,rfl⟩ (fun _ _ _ _=>.d _) ?_ ?_
  ·rintro j x ρ' μ2 hx ⟨rfl,hj,v2,rfl⟩
   rw [List.getElem?_map] at hx
   obtain ⟨c,hc,rfl⟩:=Option.map_eq_some_iff.mp hx
   have mc:=List.mem_of_getElem? hc
   refine ⟨_,ea,a,b,c,rfl,na,hd b mb,hd c mc,zl3,_,_,.d _,.d _,Y5 [_,_,_],rfl,Jk (fun z=>?_) (fun z=>?_)⟩
   ·have z:(!PyData.eqv (.list [.int (upr a b c).1,.int (upr a b c).2.1,.int (upr a b c).2.2]) (.list [.int 0,.int 0,.int 0]))=true:=z
    rw [qdi] at z
    exact kf b mb c mc (by simpa using z)
   ·have z:¬ (!PyData.eqv (.list [.int (upr a b c).1,.int (upr a b c).2.1,.int (upr a b c).2.2]) (.list [.int 0,.int 0,.int 0]))=true:=z
    rw [qdi] at z
    refine Wks.of ⟨rfl,fun d hd'=>?_,_,rfl⟩
    rw [List.take_succ,hc] at hd'
    rcases List.mem_append.mp hd' with h | h
    ·exact hj d h
    ·rw [qz.mp h];simpa using z
  ·rintro ρ' μ2 ⟨rfl,hj,v2,rfl⟩
   rw [List.length_map,yu] at hj
   refine Wks.of ⟨rfl,fun d hd'=>?_,_,_,rfl⟩
   rw [List.take_succ,hb] at hd'
   rcases List.mem_append.mp hd' with h | h
   ·exact hi d h
   ·rw [qz.mp h];exact hj
 ·rintro ρ' μ' ⟨rfl,hi,v1,v2,rfl⟩
  rw [List.length_map,yu] at hi
  exact kt hi
def sRt:SpD:=fun es μ Q=>∃ (A B C:List P3) (o:Option Tr),es=[.d (hfD o),.d (.list [clD A,clD B,clD C])]/\A.length+B.length+C.length<=28/\(∀ X∈[A,B,C],∀ x∈X,N3 B0 x)/\(Plc (A++B++C) (plc (A++B++C))->qhG A B C o)/\Q (.d (.bool true)) μ
theorem qa4:FnScope ["_law_found", "_law_clouds_here", "_law_some"] ["_law_found", "_law_clouds_here"] (qt jn):=⟨rfl,rfl,rfl,by decide +kernel,rfl,by decide +kernel,by decide +kernel⟩
theorem qeL {f:Addr}{fd:FuncData}(F:Fun K "_law_right" "_law_right" jn f fd) (T:Txt mg) (hX:NoX CX) (O_law_in_line:Own P w K mg base CX 2 "_law_in_line" ["_law_some"] (yf K sIL)) (O_law_is_flat:Own P w K mg base CX 2 "_law_is_flat" ["_law_found"] (yf K sIsF)) (O_law_far:Own P w K mg base CX 1 "_law_far" ["_law_flat", "_law_spot_here"] (yf K qjR)) (O_law_upright:Own P w K mg base CX 1 "_law_upright" ["_law_one", "_law_two", "_law_three"] (yf K qjP)) (O_law_halves:Own P w K mg base CX 2 "_law_halves" ["_law_flat", "_law_cloud"] (yf K sLH)):FnOk P w K mg base CX 4 f fd ["_law_found", "_law_clouds_here"] (yf K sRt):=by
 refine F.okD qa4 (fun es μ Q hq0=>by obtain ⟨A,B,C,o,e,_⟩:=hq0;subst e;rfl) (fun cdv A' outer s H E es μ Q hr hq0=>?_)
 obtain ⟨A,B,C,o,e,hl,hb,hR,k⟩:=hq0
 subst e
 have nd:=qa4.nd
 refine ⟨_,(qx (ym (i:=2) nd rfl (by first | exact Or.inl rfl | exact Or.inr rfl) (qY (qbB (P:=P) (w:=w) (K:=K) rfl) (by rfl) T.sorted_ qac (qc (Jz (qfV (P:=P) (w:=w) (K:=K) rfl hr.units) (by rfl) T.set_ qfZ (qc (yj YT (yj YT (yJ qE (dv 1) qu (fun _ _=>rfl)) (yJ qE (dv 1) qu (fun _ _=>rfl))) (yJ qE (dv 1) qu (fun _ _=>rfl))) qm)) qm)))
   (qx (jB (qhf (qdG (jH (ya O_law_in_line hX (hr.mono (by decide)) rfl (qc (dv 2) qm))) (qbp (yB qjl (dv 0) qhr (q0 _))))) (qG (qW (qaR (ya O_law_in_line hX (hr.mono (by decide)) rfl (qc (dv 2) qm)) (qbZ (J4 qjl (dv 0) qhr (q0 _)))))) yL)
   (qx (jB (qhf (qdG (Yr (jH (qY qbC (by rfl) T.isinstance_ jk (qc (dv 0) (qc (qj5 rfl T.tuple_ Zt) qm))))) (qdG (yB (YF hr.units) (qY Jb (by rfl) T.len_ Jd (qc (dv 0) qm)) qu (q0 _)) (qbp (Yr (jH (ya O_law_is_flat hX (hr.mono (by decide)) rfl (qc (yJ qE (dv 0) qu (fun _ _=>rfl)) qm)))))))) (qG (qW qdQ)) yL)
   (qx (jB (Yr (jH (qY (qdO rfl) (by rfl) T.all_ qd4 (qc (JZ (L:=["_law_spot_here"]) (sc:=qt jn) (N:=["_law_found", "_law_clouds_here", "_law_some"]) rfl rfl rfl (by decide +kernel) (Z2 (Zq (dv 0) (j6 qu) j7)) (fun _ _ _ _ _=>(qF (i:=3) (show List.Nodup (["_law_found", "_law_clouds_here", "_law_some", "_law_spot_here"]:List Str) from by decide +kernel) rfl (by first | exact Or.inl rfl | exact Or.inr rfl))) (fun _ _ _ _ _=>y7) (fun _ _ _ _ _=>(qaR (J4 (do_in hr.u66) (dv 3) (dv 2) rfl) (qbZ (J4 (Z1 hr.units) (ya O_law_far hX (hr.mono (by decide)) rfl (qc (yJ qE (dv 0) qu (fun _ _=>rfl)) (qc (dv 3) qm))) qu (q0 _)))))) qm)))) (qG (qW qdQ)) yL)
   (qx (jB (yB (Z1 hr.units) (ya O_law_upright hX (hr.mono (by decide)) rfl (qc (yJ qE (dv 0) qu (fun _ _=>rfl)) (qc (yJ qE (dv 0) qu (fun _ _=>rfl)) (qc (yJ qE (dv 0) qu (fun _ _=>rfl)) qm)))) (qb0 (qc qu (qc qu (qc qu qm)))) (q0 _)) (qG (qW qdQ)) yL)
   (qG (qW (qY (qdO rfl) (by rfl) T.all_ qd4 (qc (JZ (L:=["_law_cloud"]) (sc:=qt jn) (N:=["_law_found", "_law_clouds_here", "_law_some"]) rfl rfl rfl (by decide +kernel) (js (dv 1)) (fun _ _ _ _ _=>(qF (i:=3) (show List.Nodup (["_law_found", "_law_clouds_here", "_law_some", "_law_cloud"]:List Str) from by decide +kernel) rfl (by first | exact Or.inl rfl | exact Or.inr rfl))) (fun _ _ _ _ _=>y7) (fun _ _ _ _ _=>(ya O_law_halves hX (hr.mono (by decide)) rfl (qc (yJ qE (dv 0) qu (fun _ _=>rfl)) (qc (dv 3) qm))))) qm))))))))),?_⟩
 have z1:(A.map spD).length<=28:=by rw [List.length_map];omega
 have z2:(B.map spD).length<=28:=by rw [List.length_map];omega
 have z3:(C.map spD).length<=28:=by rw [List.length_map];omega
 have hl2:(A++B++C).length<=28:=by rw [List.length_append,List.length_append];omega
 refine ⟨_,rfl,_,rfl,_,_,.d _,.d _,by omega,_,rfl,_,_,.d _,.d _,by rw [List.length_append];omega,?_⟩
 rw [<- List.map_append,<- List.map_append]
 refine ⟨(A++B++C).map spK,by rw [<- Y3];exact .d _,qft _,by rw [List.length_map];omega,fun ms hm hn h77=>⟨ms,rfl,?_,fun ks hp hs=>?_⟩⟩
 ·have:=jG hn fun q hq=>(hm q).mp hq
  rw [List.length_map] at this
  omega
 obtain ⟨qs,rfl,h⟩:=qcS hm hn hp hs
 obtain ⟨rfl,hP⟩:=qcT h
 rw [<- Y3]
 have hr':=hR hP
 have hbd:∀ x∈plc (A++B++C),N3 B0 x:=fun x hx=>by
  have:=(hP.2.2 x).mp hx
  rcases List.mem_append.mp this with h | h
  ·rcases List.mem_append.mp h with h | h
   ·exact hb A (by simp) x h
   ·exact hb B (by simp) x h
  ·exact hb C (by simp) x h
 have hlp:(plc (A++B++C)).length<=28:=qJ (jG hP.1 fun q hq=>(hP.2.2 q).mp hq) hl2
 unfold qhG at hr'
 generalize plc (A++B++C)=pl at *
 refine ⟨pl,rfl,hbd,by omega,?_⟩
 rcases hr' with ⟨hi,rfl⟩ | ⟨hi,t,rfl,m1,m2,m3,hu,hv⟩
 ·rw [hi]
  refine qb6 ⟨pl,rfl,hbd,by omega,?_⟩
  rw [hi]
  exact qb6 k
 ·rw [hi]
  have b1:=hbd _ m1
  have b2:=hbd _ m2
  have b3:=hbd _ m3
  have hN:N3 (B0 * B0 * 100) (nm3 t):=qaD hu (qej b1 b2 b3)
  refine qbh ⟨by decide,qbh ⟨_,.t _,_,rfl,nm3 t,ct3 t,rfl,qi1 hu,qgY hu,?_⟩⟩
  have hs4:¬ (HT.sIx 4 0 (some 1)=0/\HT.sIx 4 4 none=4):=by decide
  have onf:∀ a∈[t.1,t.2.1,t.2.2],qA (nm3 t) a - ct3 t=0:=fun a ha=>by
   have:qA (upr t.1 t.2.1 t.2.2) a=qA (upr t.1 t.2.1 t.2.2) t.1:=by
    simp only [List.mem_cons,List.mem_nil_iff,or_false] at ha
    rcases ha with rfl | rfl | rfl
    ·rfl
    ·exact qa2 ..
    ·exact qa1 ..
   have:=qe3 hu this
   unfold ct3 nm3
   omega
  have mem3:∀ a∈[t.1,t.2.1,t.2.2],a∈pl:=fun a ha=>by
   simp only [List.mem_cons,List.mem_nil_iff,or_false] at ha
   rcases ha with rfl | rfl | rfl
   ·exact m1
   ·exact m2
   ·exact m3
  have lay:PyData.canLayAll0 (pl.map spD)=true:=Ji (fun a=>by simp [spD,PyData.canLay0,PyData.canLayAll0]) pl
  have anyp:∀ a∈pl,((pl.map spD).any fun z=>z.eqv (spD a))=true:=fun a ha=>List.any_eq_true.mpr ⟨spD a,qK.mpr ⟨a,ha,rfl⟩,by rw [qcv];exact qB rfl⟩
  refine ⟨hs4,zl3,YX (as:=[t.1,t.2.1,t.2.2]) (h:=spD) (fun _=>.bool true) Src.t (fun a ha R h=>⟨_,_,rfl,.d _,qap [a.1,a.2.1,a.2.2],lay,Jk (fun _=>?_) (fun z=>absurd (anyp a (mem3 a ha)) z)⟩) ?_⟩
  ·refine ⟨_,rfl,nm3 t,a,ct3 t,rfl,hN,hbd a (mem3 a ha),?_⟩
   have e:decide (qA (nm3 t) a - ct3 t=0)=true:=qB (onf a ha)
   rw [<- e] at h
   exact h
  ·refine ⟨[true,true,true],.d _,?_⟩
   refine ⟨_,rfl,_,rfl,_,rfl,t.1,t.2.1,t.2.2,rfl,b1,b2,b3,zl3,_,_,.d _,.d _,Y5 [_,_,_],rfl,Jk (fun z=>?_) (fun z=>?_)⟩
   ·have z:PyData.eqv (.list [.int (upr t.1 t.2.1 t.2.2).1,.int (upr t.1 t.2.1 t.2.2).2.1,.int (upr t.1 t.2.1 t.2.2).2.2]) (.list [.int 0,.int 0,.int 0])=true:=z
    rw [qdi] at z
    exact absurd (qv z) hu
   ·refine ⟨_,.d _,zl3,YX (as:=[A,B,C]) (h:=clD) (fun _=>.bool true) (Src.l (.d _)) (fun X hX R h=>⟨_,rfl,nm3 t,ct3 t,X,rfl,hN,hb X hX,?_,(qdB ..).mp (hv X hX),h⟩) ?_⟩
    ·simp only [List.mem_cons,List.mem_nil_iff,or_false] at hX
     rcases hX with rfl | rfl | rfl <;> omega
    ·exact ⟨[true,true,true],.d _,k⟩
end
end K63
namespace L2
open PySem PySem.Spec PyProof.Rows PySem.W
section
variable {X:Cx}{K:W.Frag}{pos:Pos}
end
open PySem PySem.Spec PyProof.Rows
theorem qdp {K:W.Frag}{μ:Mu}{H:Hp}{v:V}{e:En}(h:IsE K [] (mask μ H) v e):IsE K μ H v e:=by
 cases e with
 | d x=>exact (show Is K (mask μ H) v x by rw [<- Jg (H:=mask μ H)];exact h)
 | m a=>exact h
 | x r=>exact (show r.R v (mask μ H) by rw [<- Jg (H:=mask μ H)];exact h)
 | ty n=>exact h
def stT (K:W.Frag) (es:List En):Stb:=⟨fun v H=>∃ p vs,v = .ref p/\SqT K H p vs/\Paired (IsE K [] H) vs es,fun _ _ _ s ⟨p,vs,e,h1,h2⟩=>⟨p,vs,e,h1.same s,Paired.imp' (r:=h2) fun _ _ h=>h.same (by rw [Jg,Jg];exact s)⟩⟩
section
variable {X:Cx}{K:W.Frag}{pos:Pos}{es:List Expr}{tr:TAd}
abbrev qhF:=List En->Rho->Mu->(Rho->Mu->Prop)->Prop
def qei (K:W.Frag) (t:qhF):TGs:=fun vs σ H Q=>∃ es ρ μ Q0,Paired (IsE K μ H) vs es/\RelS K ρ μ σ H/\RelM K μ H/\t es ρ μ Q0/\ClR K μ H Q0 Q
def qjm:qhF:=fun es ρ μ Q=>es=[]/\Q ρ μ
def qhl (t:TGd) (u:qhF):qhF:=fun es ρ μ Q=>∃ e r,es=e::r/\t e ρ μ fun ρ' μ'=>u r ρ' μ' Q
theorem qhk:PGs X [] (qei K qjm):=PGs.mono qcX fun vs σ H Q ⟨ds,ρ,μ,Q0,i1,hS,hM,h,cl⟩=>by
 obtain ⟨rfl,h⟩:=h
 cases i1
 exact ⟨rfl,cl _ μ _ H h hS hM (qU.refl _)⟩
theorem qbw {e:Expr}{t:TGd}{u:qhF}(h1:DG K X e t) (h2:PGs X es (qei K u))
  (hs:(assignEach (e::es) X.env).map (·.2)=assign e X.env::(assignEach es X.env).map (·.2):=by rfl):PGs X (e::es) (qei K (qhl t u)):=PGs.mono (qa8 h1 h2 hs) fun vs σ H Q ⟨ds,ρ,μ,Q0,i1,hS,hM,h,cl⟩=>by
 obtain ⟨e1,r,rfl,h⟩:=h
 cases i1 with
 | cons i1 i2 =>
  refine ⟨_,_,rfl,e1,ρ,μ,_,i1,hS,hM,h,fun ρ' μ' σ' H' q S' M' s'=>?_⟩
  exact ⟨r,ρ',μ',Q0,Paired.imp' (r:=i2) fun _ _ h=>h.same s',S',M',q,cl.same s'⟩
def qjn (K:W.Frag) (n:Nat) (t:qhF):TGd:=fun e ρ μ Q=>∃ es,e = .x (stT K es)/\es.length=n/\t es ρ μ Q
theorem qhm {k:Nat}{t:qhF}{n:Nat}(hc:X.calm=true) (h:PGs X es (qei K t)) (hK:X.K=K:=by rfl)
  (hn:(assignEach es X.env).length=n:=by rfl) (hst:(assignEach es X.env).findIdx? (·.1)=none:=by rfl):DG K X (.Tuple es k pos) (qjn K n t):=by
 subst hK
 refine PG.mono (qfK hc h hn hst) fun v σ H Q hq9=>?_
 obtain ⟨e,ρ,μ,Q0,i1,hS,hM,h,cl⟩:=hq9
 obtain ⟨es',rfl,hl,h⟩:=h
 obtain ⟨p,vs,rfl,h1,h2⟩:=i1
 exact ⟨p,vs,rfl,h1.same yt,by rw [Paired.len h2];exact hl,es',ρ,μ,Q0,Paired.imp' (r:=h2) fun _ _ h=>qdp h,hS,hM,h,cl⟩
def FzK (K:W.Frag) (μ:Mu) (e:En) (μ':Mu) (e':En):Prop:=∀ (v:V) (H:Hp),RelM K μ H->IsE K μ H v e->RelM K μ' H/\IsE K μ' H v e'/\qU (mask μ H) (mask μ' H)
theorem FzK.two {μ1 μ2:Mu}{l:Addr}{x:PyData}{ds:List PyData}:FzK K (μ1++(l,.lst ds)::μ2) (.x (stT K [.d x,.m l])) (μ1++μ2) (.d (.tuple [x,.list ds])):=fun v H h i=>by
 obtain ⟨M',s,hn⟩:=h.drop
 obtain ⟨xs,e,hs⟩:=h.ob l (.lst ds) (by simp)
 obtain ⟨p,vs,rfl,h1,h2⟩:=i
 refine ⟨M',.tup (h1.same s) ?_,s⟩
 cases h2 with
 | cons a b =>
  cases b with
  | cons b c =>
   cases c
   have b:_=V.ref l:=b
   subst b
   have a:=qdp a
   exact .cons (Is.same s a) (.cons (.lst (SqL.of (by rw [yc hn];exact e)) (IsAll.same s hs)) .nil)
end
section
variable {K:W.Frag}
end
theorem FzR.refs3 {μ:Mu}{p a b c:Addr}{ds es fs:List PyData}:FzR ((p,.refs [a,b,c])::(c,.lst fs)::(b,.lst es)::(a,.lst ds)::μ) (.m p) μ (.d (.list [.list ds,.list es,.list fs])):=fun K v H h i=>by
 have i:v = .ref p:=i
 subst i
 have hp:H p=some (.lst [V.ref a,V.ref b,V.ref c]):=h.ob p (.refs [a,b,c]) (by simp)
 obtain ⟨xc,ec,hc⟩:=h.ob c (.lst fs) (by simp)
 obtain ⟨xb,eb,hb⟩:=h.ob b (.lst es) (by simp)
 obtain ⟨xa,ea,ha⟩:=h.ob a (.lst ds) (by simp)
 obtain ⟨M1,s1,n1⟩:=h.drop (μ1:=[])
 obtain ⟨M2,s2,n2⟩:=M1.drop (μ1:=[])
 obtain ⟨M3,s3,n3⟩:=M2.drop (μ1:=[])
 obtain ⟨M4,s4,n4⟩:=M3.drop (μ1:=[])
 have st:=((s1.trans s2).trans s3).trans s4
 have np:p∉μ.map Prod.fst:=fun z=>n1 (by simp only [List.nil_append,List.map_cons,List.mem_cons];exact .inr (.inr (.inr z)))
 have nc:c∉μ.map Prod.fst:=fun z=>n2 (by simp only [List.nil_append,List.map_cons,List.mem_cons];exact .inr (.inr z))
 have nb:b∉μ.map Prod.fst:=fun z=>n3 (by simp only [List.nil_append,List.map_cons,List.mem_cons];exact .inr z)
 have na:a∉μ.map Prod.fst:=n4
 refine ⟨M4,.lst (SqL.of (by rw [yc np];exact hp)) (.cons (.lst (SqL.of (by rw [yc na];exact ea)) (IsAll.same st ha)) (.cons (.lst (SqL.of (by rw [yc nb];exact eb)) (IsAll.same st hb)) (.cons (.lst (SqL.of (by rw [yc nc];exact ec)) (IsAll.same st hc)) .nil))),st⟩
section
variable {X:Cx}{K:W.Frag}
def qhL (K:W.Frag) (p:Addr) (as:List Addr):Itd:=⟨as.length,fun i=>.x (stT K [.d (.int (i:Int)),.m (as.getD i 0)]),fun μ=>(p,.refs as)∈μ⟩
def diER (K:W.Frag) (ta:TAd):TId:=fun ρ μ Q=>ta ρ μ fun es μ1=>∃ p as,es=[.m p]/\(p,MO.refs as)∈μ1/\Q (qhL K p as) μ1
theorem qe6 {l:Expr}{ta:TAd}{elts:List Expr}{x1} {tpos p pos:Pos}(hg:Gl X "enumerate") (hm:X.mg "enumerate" = none) (ha:DA K X [l] ta) (hK:X.K=K:=by rfl) (hs:starEach [l] X.env=[(false,eval l X.env)]:=by rfl) :
  DI K X (.Tuple elts x1 tpos) (.Call (.Name "enumerate" p) [l] [] pos) (diER K ta):=by
 subst hK
 refine PI.mono (qcW hg hm ha hs) fun σ H R hq9=>?_
 obtain ⟨ρ,μ,Q0,hS,hM,h,cl⟩:=hq9
 refine ⟨ρ,μ,_,hS,hM,h,fun es μ1 vs H1 q M1 s1 i1=>?_⟩
 obtain ⟨p,as,rfl,hL,q⟩:=q
 obtain ⟨v,rfl,h1⟩:=Jo i1
 have h1:v = .ref p:=h1
 subst h1
 have g1:H1 p=some (.lst (as.map V.ref)):=M1.ob p _ hL
 refine ⟨p,rfl,⟨_,SqL.of g1⟩,cl _ μ1 _ H1 q M1 s1 fun μ' H' M' s' hok i=>?_⟩
 have h3:H' p=some (.lst (as.map V.ref)):=M'.ob p _ hok
 refine ⟨fun hi=>⟨⟨_,(as.map V.ref)[i]'(by rw [List.length_map];exact hi),SqL.of h3,List.getElem?_eq_getElem _⟩,?_⟩,fun hi=>⟨_,SqL.of h3,by rw [List.length_map];exact hi⟩⟩
 rintro x H2 ⟨t,y,ht,rfl,rfl,hx⟩
 obtain ⟨M2,s2,hn⟩:=M'.laid (o:=.tup [.int i,y]) ht
 have e1:=hx _ (SqL.of h3)
 have hi':i<as.length:=hi
 rw [List.getElem?_map,List.getElem?_eq_getElem hi'] at e1
 refine ⟨M2,s2,t,[.int i,y],rfl,SqT.of (by rw [yc hn];exact qV),.cons (.int _) (.cons ?_ .nil)⟩
 show y = .ref (as.getD i 0)
 rw [qq,List.getElem?_eq_getElem hi']
 exact (Option.some.inj e1).symm
theorem forER {p:Addr}{as:List Addr}{g:TGd}{tb:TSd}{D:EndsD}{ρ:Rho}{μ:Mu}(Pv:Nat->Rho->Mu->Prop) (h0:Pv 0 ρ μ) (hok:∀ i ρ' μ',Pv i ρ' μ'->(p,MO.refs as)∈μ')
  (hs:∀ i a ρ' μ',as[i]?=some a->Pv i ρ' μ'->g (.x (stT K [.d (.int (i:Int)),.m a])) ρ' μ' fun ρ2 μ2=>tb { D with nx:=Wks (Pv (i+1)),ct:=Wks (Pv (i+1)),bk:=D.nx } ρ2 μ2) (hd:∀ ρ' μ',Pv as.length ρ' μ'->D.nx ρ' μ') :
  ∃ Pv:Nat->Rho->Mu->Prop,Pv 0 ρ μ/\(∀ i ρ' μ',i<=(qhL K p as).n->Pv i ρ' μ'->(qhL K p as).ok μ') ∧
   (∀ i ρ' μ',i<(qhL K p as).n->Pv i ρ' μ'->g ((qhL K p as).item i) ρ' μ' fun ρ2 μ2=>tb { D with nx:=Wks (Pv (i+1)),ct:=Wks (Pv (i+1)),bk:=D.nx } ρ2 μ2)/\∀ ρ' μ',Pv (qhL K p as).n ρ' μ'->D.nx ρ' μ':=by
 refine ⟨Pv,h0,fun i ρ' μ' _ q=>hok i ρ' μ' q,fun i ρ' μ' hi q=>?_,hd⟩
 have hi:i<as.length:=hi
 show g (.x (stT K [.d (.int (i:Int)),.m (as.getD i 0)])) ρ' μ' _
 rw [qq,List.getElem?_eq_getElem hi]
 exact hs i _ ρ' μ' (List.getElem?_eq_getElem hi) q
def qip:RAd:=fun es μ Q=>∃ i:Int,es=[.d (.int i)]/\∀ z:Int,z=(i.natAbs:Int)->Q (.d (.int z)) μ
theorem qhq:yz X (.builtin "abs") (upC K qip):=Z5.mono fun xs H Q h=>by
 obtain ⟨μ,es,Q0,M,hp,⟨i,rfl,q⟩,cl⟩:=h
 exact ⟨μ,_,Q0,M,hp,q _ rfl,cl⟩
end
end L2
namespace K63
open PySem L2
section
variable {P:Program}{w:World}{K:W.Frag}{mg:Str->Option Value}{base:Heap}{CX:CXT}
theorem e20:(10:Int) ^ (20:Int).toNat=100000000000000000000:=by decide
def sCl:SpD:=fun es μ Q=>∃ (p:Addr),es=[.m p]/\μ=[(p,PA0)]/\∀ A B C:List P3,A.length<=8->B.length<=8->C.length<=8->(∀ X∈[A,B,C],∀ x∈X,N3 B0 x)->Q (.d (.list [clD A,clD B,clD C])) μ
theorem ZM:FnScope ["_law_pot_here", "_law_clouds_here", "_law_most", "_law_push", "_law_k", "_law_cloud", "_law_j", "_law_x", "_law_y", "_law_z"] ["_law_pot_here"] (qt jZ):=⟨rfl,rfl,rfl,by decide +kernel,rfl,by decide +kernel,by decide +kernel⟩
theorem qc5 {f:Addr}{fd:FuncData}(F:Fun K "_law_clouds" "_law_clouds" jZ f fd) (T:Txt mg) (hX:NoX CX) (O_law_take:Own P w K mg base CX 1 "_law_take" ["_law_pot_here", "_law_many"] (yf K (qar 2147483629))) (O_law_spot:Own P w K mg base CX 4 "_law_spot" ["_law_pot_here", "_law_some"] (yf K qgp)):FnOk P w K mg base CX 5 f fd ["_law_pot_here"] (yf K sCl):=by
 refine F.okD ZM (fun es μ Q hq0=>by obtain ⟨p,e,_⟩:=hq0;subst e;rfl) (fun cdv A' outer s H E es μ Q hr hq0=>?_)
 obtain ⟨p,e,e',k⟩:=hq0
 subst e e'
 have nd:=ZM.nd
 refine ⟨_,(qx (ym (i:=1) nd rfl (by first | exact Or.inl rfl | exact Or.inr rfl) (qjr (qc (Z6 qm) (qc (Z6 qm) (qc (Z6 qm) qm)))))
   (qx (ym (i:=2) nd rfl (by first | exact Or.inl rfl | exact Or.inr rfl) (yJ qE (qb0 (qc qu (qc qu qm))) (Jz qjp (by rfl) T.int_ qf0 (qc (J4 (Z1 hr.units) (ya O_law_take hX (hr.mono (by decide)) rfl (qc (dv 0) (qc qu qm))) qu (q0 _)) qm)) (fun _ _=>rfl)))
   (qx (ym (i:=3) nd rfl (by first | exact Or.inl rfl | exact Or.inr rfl) (yJ qE (qb0 (qc qu (qc qu (qc qu qm)))) (ya O_law_take hX (hr.mono (by decide)) rfl (qc (dv 0) (qc qu qm))) (fun _ _=>rfl)))
   (qx (Jl PassesOwn.never rfl (qe6 rfl T.enumerate_ (qc (dv 1) qm)) (qhm (n:=2) rfl (qbw (qF (i:=4) nd rfl (by first | exact Or.inl rfl | exact Or.inr rfl)) (qbw (qF (i:=5) nd rfl (by first | exact Or.inl rfl | exact Or.inr rfl)) qhk))) (qG (Jl PassesOwn.never rfl (Jy rfl T.range_ (qc (ya O_law_take hX (hr.mono (by decide)) rfl (qc (dv 0) (qc (dv 2) qm))) qm)) (qF (i:=6) nd rfl (by first | exact Or.inl rfl | exact Or.inr rfl)) (qx (qbs (ya O_law_spot hX (hr.mono (by decide)) rfl (qc (dv 0) (qc (yj YT (yj YT (yJ qaH (dv 1) qu (fun _ _=>rfl)) (yJ qaH (dv 1) qu (fun _ _=>rfl))) (yJ qaH (dv 1) qu (fun _ _=>rfl))) qm))) (j8 (n:=3) rfl (qR (qF (i:=7) nd rfl (by first | exact Or.inl rfl | exact Or.inr rfl)) (qR (qF (i:=8) nd rfl (by first | exact Or.inl rfl | exact Or.inr rfl)) (qR (qF (i:=9) nd rfl (by first | exact Or.inl rfl | exact Or.inr rfl)) jt)))))
   (qx (jB (yB qdK (qY qhq (by rfl) T.abs_ qad (qc (dv 7) qm)) (yj Ys qu qu) (q0 _)) (qG (ym (i:=7) nd rfl (by first | exact Or.inl rfl | exact Or.inr rfl) (yj jr (dv 7) (yj yn (dv 4) (dv 3))))) yL)
   (qG (qdJ (qbD (dv 5) (qc (JQ (qc (dv 7) (qc (dv 8) (qc (dv 9) qm)))) qm) (h:=qc0 PySem.F.plainAttrs_list PySem.F.slot_list_append PySem.F.type_list_append ZR (dv 5) (qc (JQ (qc (dv 7) (qc (dv 8) (qc (dv 9) qm)))) qm))))))))))
   (qG (qaK (dv 1))))))),?_⟩
 refine ⟨zl0,fun a ha=>⟨zl0,fun b hb=>⟨zl0,fun c hc=>?_⟩⟩⟩
 refine ⟨[a,b,c],rfl,(show 3<=4000 by decide),fun h hh=>?_⟩
 have hp0:(p,PA0)∈[(h,MO.refs [a,b,c]),(c,.lst []),(b,.lst []),(a,.lst []),(p,PA0)]:=by simp
 refine ⟨zl2,p,_,rfl,hp0,by decide,by decide,fun d d0 d1=>?_⟩
 obtain ⟨mo,emo,hmo⟩:∃ mo:Int,atI [PyData.int 7,PyData.int 9] (if decide (d=3)=true then 1 else 0)=some (.int mo)/\(mo=7\/mo=9):=by
  by_cases q:d=3
  ·subst q;exact ⟨9,rfl,.inr rfl⟩
  ·have:decide (d=3)=false:=yA q
   rw [this]
   exact ⟨7,rfl,.inl rfl⟩
 refine ⟨_,emo,zl3,p,_,rfl,hp0,by decide,by decide,fun d2 d20 d21=>?_⟩
 obtain ⟨pu,epu,hpu⟩:∃ pu:Int,atI [PyData.int 0,PyData.int 0,PyData.int 100] d2=some (.int pu)/\(pu=0\/pu=100):=by
  have:d2=0\/d2=1\/d2=2:=by omega
  rcases this with rfl | rfl | rfl
  ·exact ⟨0,rfl,.inl rfl⟩
  ·exact ⟨0,rfl,.inl rfl⟩
  ·exact ⟨100,rfl,.inr rfl⟩
 refine ⟨_,epu,h,[a,b,c],rfl,qg,?_⟩
 refine forER (fun i ρ' μ'=>∃ A B C:List P3,μ'=[(h,MO.refs [a,b,c]),(c,.lst (C.map spD)),(b,.lst (B.map spD)),(a,.lst (A.map spD)),(p,PA0)]/\A.length<=8/\B.length<=8/\C.length<=8/\(∀ q∈A,N3 B0 q)/\(∀ q∈B,N3 B0 q)/\(∀ q∈C,N3 B0 q)/\(i<=0->A=[])/\(i<=1->B=[])/\(i<=2->C=[])/\∃ v1 v2 v3 v4 v5 v6,ρ'=[some (.m p),some (.m h),some (.d (.int mo)),some (.d (.int pu)),v1,v2,v3,v4,v5,v6])
  ⟨[],[],[],rfl,by simp,by simp,by simp,fun _ h=>(nomatch h),fun _ h=>(nomatch h),fun _ h=>(nomatch h),fun _=>rfl,fun _=>rfl,fun _=>rfl,_,_,_,_,_,_,rfl⟩ (by rintro i ρ' μ' ⟨A,B,C,rfl,_⟩;exact qg) ?_ ?_
 ·rintro i x ρ' μ' hx ⟨A,B,C,rfl,lA,lB,lC,hA,hB,hC,eA,eB,eC,v1,v2,v3,v4,v5,v6,rfl⟩
  have hi:i<3:=(qo.mp hx).1
  refine ⟨_,rfl,rfl,_,_,rfl,_,_,rfl,rfl,?_⟩
  refine ⟨p,_,rfl,by simp,by omega,by omega,fun n n0 n1=>⟨by omega,by omega,?_⟩⟩
  have hi:i=0\/i=1\/i=2:=by omega
  rcases hi with rfl | rfl | rfl
  ·cases hx
   cases eA (by omega)
   refine qhN (fun j ρ' μ'=>∃ X:List P3,μ'=[(h,MO.refs [a,b,c]),(c,.lst (C.map spD)),(b,.lst (B.map spD))]++(a,.lst (X.map spD))::[(p,PA0)]/\X.length=j/\(∀ q∈X,N3 B0 q)/\∃ v1 v2 v3 v4,ρ'=[some (.m p),some (.m h),some (.d (.int mo)),some (.d (.int pu)),some (.d (.int (0:Nat))),some (.m a),v1,v2,v3,v4]) ⟨[],rfl,rfl,fun _ h=>(nomatch h),_,_,_,_,rfl⟩ ?_ ?_
   ·rintro j ρ' μ' hj ⟨X,rfl,lX,hX',v1,v2,v3,v4,rfl⟩
    have hj:j<n.toNat:=hj
    have hhm:(h,MO.refs [a,b,c])∈[(h,MO.refs [a,b,c]),(c,.lst (C.map spD)),(b,.lst (B.map spD))]++(a,MO.lst (X.map spD))::[(p,PA0)]:=by simp
    have hpm:(p,PA0)∈[(h,MO.refs [a,b,c]),(c,.lst (C.map spD)),(b,.lst (B.map spD))]++(a,MO.lst (X.map spD))::[(p,PA0)]:=by simp
    have am:(a,MO.lst (X.map spD))∈[(h,MO.refs [a,b,c]),(c,.lst (C.map spD)),(b,.lst (B.map spD))]++(a,MO.lst (X.map spD))::[(p,PA0)]:=by simp
    have bm:(b,MO.lst (B.map spD))∈[(h,MO.refs [a,b,c]),(c,.lst (C.map spD)),(b,.lst (B.map spD))]++(a,MO.lst (X.map spD))::[(p,PA0)]:=by simp
    have cm:(c,MO.lst (C.map spD))∈[(h,MO.refs [a,b,c]),(c,.lst (C.map spD)),(b,.lst (B.map spD))]++(a,MO.lst (X.map spD))::[(p,PA0)]:=by simp
    have z1:(X.map spD).length<=8:=by rw [List.length_map];omega
    have z2:(B.map spD).length<=8:=by rw [List.length_map];omega
    have z3:(C.map spD).length<=8:=by rw [List.length_map];omega
    refine ⟨_,a,hhm,rfl,_,b,hhm,rfl,_,_,.m am,.m bm,by omega,_,c,hhm,rfl,_,_,.d _,.m cm,by rw [List.length_append];omega,p,X++B++C,by rw [List.map_append,List.map_append],hpm,by rw [List.length_append,List.length_append];rw [List.length_map] at z1 z2 z3;omega,fun q hq=>?_,fun q hq=>?_⟩
    ·rcases List.mem_append.mp hq with z | z
     ·rcases List.mem_append.mp z with z | z
      ·exact hX' q z
      ·exact hB q z
     ·exact hC q z
    have keep:∀ q':P3,N3 B0 q'->∀ (w1 w2 w3 w4:Option En),Wks (fun ρ' μ'=>∃ X:List P3,μ'=[(h,MO.refs [a,b,c]),(c,.lst (C.map spD)),(b,.lst (B.map spD))]++(a,.lst (X.map spD))::[(p,PA0)]/\X.length=j+1/\(∀ q∈X,N3 B0 q)/\∃ v1 v2 v3 v4,ρ'=[some (.m p),some (.m h),some (.d (.int mo)),some (.d (.int pu)),some (.d (.int (0:Nat))),some (.m a),v1,v2,v3,v4])
      [some (.m p),some (.m h),some (.d (.int mo)),some (.d (.int pu)),some (.d (.int (0:Nat))),some (.m a),w1,w2,w3,w4] ([(h,MO.refs [a,b,c]),(c,.lst (C.map spD)),(b,.lst (B.map spD))]++(a,.lst (X.map spD++[spD q']))::[(p,PA0)]):=fun q' hq' w1 w2 w3 w4=>by
     refine Wks.of ⟨X++[q'],by rw [List.map_append];rfl,by simp;omega,fun z hz=>?_,_,_,_,_,rfl⟩
     rcases List.mem_append.mp hz with h | h
     ·exact hX' z h
     ·rw [qz.mp h];exact hq'
    have lx:(X.map spD).length<4000:=by rw [List.length_map];omega
    refine ⟨rfl,_,rfl,fun ab hab=>⟨⟨by decide,by decide,by decide⟩,?_⟩⟩
    refine Jk (fun cc=>?_) (fun cc=>?_)
    ·have cc:ab<10 ^ (20:Int).toNat:=qv cc
     rw [e20] at cc
     refine ⟨⟨bI (by decide),bI (by show pu.natAbs<=1000000000000000000000000000000;omega)⟩,⟨X.map spD,by simp⟩,zl3,[(h,MO.refs [a,b,c]),(c,.lst (C.map spD)),(b,.lst (B.map spD))],[(p,PA0)],_,rfl,lx,?_⟩
     refine keep (q.1+(0:Nat) * pu,q.2.1,q.2.2) ⟨?_,hq.2.1,hq.2.2⟩ _ _ _ _
     show (q.1+(0:Nat) * pu).natAbs<=1000000000000000000000000000000
     rcases hpu with rfl | rfl <;> omega
    ·exact ⟨⟨X.map spD,by simp⟩,zl3,[(h,MO.refs [a,b,c]),(c,.lst (C.map spD)),(b,.lst (B.map spD))],[(p,PA0)],_,rfl,lx,keep q hq _ _ _ _⟩
   ·rintro ρ' μ' ⟨X,rfl,lX,hX',v1,v2,v3,v4,rfl⟩
    have lX:X.length=n.toNat:=lX
    exact Wks.of ⟨X,B,C,rfl,by omega,lB,lC,hX',hB,hC,fun z=>absurd z (by omega),fun z=>eB (by omega),fun z=>eC (by omega),_,_,_,_,_,_,rfl⟩
  ·cases hx
   cases eB (by omega)
   refine qhN (fun j ρ' μ'=>∃ X:List P3,μ'=[(h,MO.refs [a,b,c]),(c,.lst (C.map spD))]++(b,.lst (X.map spD))::[(a,MO.lst (A.map spD)),(p,PA0)]/\X.length=j/\(∀ q∈X,N3 B0 q)/\∃ v1 v2 v3 v4,ρ'=[some (.m p),some (.m h),some (.d (.int mo)),some (.d (.int pu)),some (.d (.int (1:Nat))),some (.m b),v1,v2,v3,v4]) ⟨[],rfl,rfl,fun _ h=>(nomatch h),_,_,_,_,rfl⟩ ?_ ?_
   ·rintro j ρ' μ' hj ⟨X,rfl,lX,hX',v1,v2,v3,v4,rfl⟩
    have hj:j<n.toNat:=hj
    have hhm:(h,MO.refs [a,b,c])∈[(h,MO.refs [a,b,c]),(c,.lst (C.map spD))]++(b,MO.lst (X.map spD))::[(a,MO.lst (A.map spD)),(p,PA0)]:=by simp
    have hpm:(p,PA0)∈[(h,MO.refs [a,b,c]),(c,.lst (C.map spD))]++(b,MO.lst (X.map spD))::[(a,MO.lst (A.map spD)),(p,PA0)]:=by simp
    have am:(a,MO.lst (A.map spD))∈[(h,MO.refs [a,b,c]),(c,.lst (C.map spD))]++(b,MO.lst (X.map spD))::[(a,MO.lst (A.map spD)),(p,PA0)]:=by simp
    have bm:(b,MO.lst (X.map spD))∈[(h,MO.refs [a,b,c]),(c,.lst (C.map spD))]++(b,MO.lst (X.map spD))::[(a,MO.lst (A.map spD)),(p,PA0)]:=by simp
    have cm:(c,MO.lst (C.map spD))∈[(h,MO.refs [a,b,c]),(c,.lst (C.map spD))]++(b,MO.lst (X.map spD))::[(a,MO.lst (A.map spD)),(p,PA0)]:=by simp
    have z1:(A.map spD).length<=8:=by rw [List.length_map];omega
    have z2:(X.map spD).length<=8:=by rw [List.length_map];omega
    have z3:(C.map spD).length<=8:=by rw [List.length_map];omega
    refine ⟨_,a,hhm,rfl,_,b,hhm,rfl,_,_,.m am,.m bm,by omega,_,c,hhm,rfl,_,_,.d _,.m cm,by rw [List.length_append];omega,p,A++X++C,by rw [List.map_append,List.map_append],hpm,by rw [List.length_append,List.length_append];rw [List.length_map] at z1 z2 z3;omega,fun q hq=>?_,fun q hq=>?_⟩
    ·rcases List.mem_append.mp hq with z | z
     ·rcases List.mem_append.mp z with z | z
      ·exact hA q z
      ·exact hX' q z
     ·exact hC q z
    have keep:∀ q':P3,N3 B0 q'->∀ (w1 w2 w3 w4:Option En),Wks (fun ρ' μ'=>∃ X:List P3,μ'=[(h,MO.refs [a,b,c]),(c,.lst (C.map spD))]++(b,.lst (X.map spD))::[(a,MO.lst (A.map spD)),(p,PA0)]/\X.length=j+1/\(∀ q∈X,N3 B0 q)/\∃ v1 v2 v3 v4,ρ'=[some (.m p),some (.m h),some (.d (.int mo)),some (.d (.int pu)),some (.d (.int (1:Nat))),some (.m b),v1,v2,v3,v4])
      [some (.m p),some (.m h),some (.d (.int mo)),some (.d (.int pu)),some (.d (.int (1:Nat))),some (.m b),w1,w2,w3,w4] ([(h,MO.refs [a,b,c]),(c,.lst (C.map spD))]++(b,.lst (X.map spD++[spD q']))::[(a,MO.lst (A.map spD)),(p,PA0)]):=fun q' hq' w1 w2 w3 w4=>by
     refine Wks.of ⟨X++[q'],by rw [List.map_append];rfl,by simp;omega,fun z hz=>?_,_,_,_,_,rfl⟩
     rcases List.mem_append.mp hz with h | h
     ·exact hX' z h
     ·rw [qz.mp h];exact hq'
    have lx:(X.map spD).length<4000:=by rw [List.length_map];omega
    refine ⟨rfl,_,rfl,fun ab hab=>⟨⟨by decide,by decide,by decide⟩,?_⟩⟩
    refine Jk (fun cc=>?_) (fun cc=>?_)
    ·have cc:ab<10 ^ (20:Int).toNat:=qv cc
     rw [e20] at cc
     refine ⟨⟨bI (by decide),bI (by show pu.natAbs<=1000000000000000000000000000000;omega)⟩,⟨X.map spD,by simp⟩,zl3,[(h,MO.refs [a,b,c]),(c,.lst (C.map spD))],[(a,MO.lst (A.map spD)),(p,PA0)],_,rfl,lx,?_⟩
     refine keep (q.1+(1:Nat) * pu,q.2.1,q.2.2) ⟨?_,hq.2.1,hq.2.2⟩ _ _ _ _
     show (q.1+(1:Nat) * pu).natAbs<=1000000000000000000000000000000
     rcases hpu with rfl | rfl <;> omega
    ·exact ⟨⟨X.map spD,by simp⟩,zl3,[(h,MO.refs [a,b,c]),(c,.lst (C.map spD))],[(a,MO.lst (A.map spD)),(p,PA0)],_,rfl,lx,keep q hq _ _ _ _⟩
   ·rintro ρ' μ' ⟨X,rfl,lX,hX',v1,v2,v3,v4,rfl⟩
    have lX:X.length=n.toNat:=lX
    exact Wks.of ⟨A,X,C,rfl,lA,by omega,lC,hA,hX',hC,fun z=>absurd z (by omega),fun z=>absurd z (by omega),fun z=>eC (by omega),_,_,_,_,_,_,rfl⟩
  ·cases hx
   cases eC (by omega)
   refine qhN (fun j ρ' μ'=>∃ X:List P3,μ'=[(h,MO.refs [a,b,c])]++(c,.lst (X.map spD))::[(b,MO.lst (B.map spD)),(a,MO.lst (A.map spD)),(p,PA0)]/\X.length=j/\(∀ q∈X,N3 B0 q)/\∃ v1 v2 v3 v4,ρ'=[some (.m p),some (.m h),some (.d (.int mo)),some (.d (.int pu)),some (.d (.int (2:Nat))),some (.m c),v1,v2,v3,v4]) ⟨[],rfl,rfl,fun _ h=>(nomatch h),_,_,_,_,rfl⟩ ?_ ?_
   ·rintro j ρ' μ' hj ⟨X,rfl,lX,hX',v1,v2,v3,v4,rfl⟩
    have hj:j<n.toNat:=hj
    have hhm:(h,MO.refs [a,b,c])∈[(h,MO.refs [a,b,c])]++(c,MO.lst (X.map spD))::[(b,MO.lst (B.map spD)),(a,MO.lst (A.map spD)),(p,PA0)]:=by simp
    have hpm:(p,PA0)∈[(h,MO.refs [a,b,c])]++(c,MO.lst (X.map spD))::[(b,MO.lst (B.map spD)),(a,MO.lst (A.map spD)),(p,PA0)]:=by simp
    have am:(a,MO.lst (A.map spD))∈[(h,MO.refs [a,b,c])]++(c,MO.lst (X.map spD))::[(b,MO.lst (B.map spD)),(a,MO.lst (A.map spD)),(p,PA0)]:=by simp
    have bm:(b,MO.lst (B.map spD))∈[(h,MO.refs [a,b,c])]++(c,MO.lst (X.map spD))::[(b,MO.lst (B.map spD)),(a,MO.lst (A.map spD)),(p,PA0)]:=by simp
    have cm:(c,MO.lst (X.map spD))∈[(h,MO.refs [a,b,c])]++(c,MO.lst (X.map spD))::[(b,MO.lst (B.map spD)),(a,MO.lst (A.map spD)),(p,PA0)]:=by simp
    have z1:(A.map spD).length<=8:=by rw [List.length_map];omega
    have z2:(B.map spD).length<=8:=by rw [List.length_map];omega
    have z3:(X.map spD).length<=8:=by rw [List.length_map];omega
    refine ⟨_,a,hhm,rfl,_,b,hhm,rfl,_,_,.m am,.m bm,by omega,_,c,hhm,rfl,_,_,.d _,.m cm,by rw [List.length_append];omega,p,A++B++X,by rw [List.map_append,List.map_append],hpm,by rw [List.length_append,List.length_append];rw [List.length_map] at z1 z2 z3;omega,fun q hq=>?_,fun q hq=>?_⟩
    ·rcases List.mem_append.mp hq with z | z
     ·rcases List.mem_append.mp z with z | z
      ·exact hA q z
      ·exact hB q z
     ·exact hX' q z
    have keep:∀ q':P3,N3 B0 q'->∀ (w1 w2 w3 w4:Option En),Wks (fun ρ' μ'=>∃ X:List P3,μ'=[(h,MO.refs [a,b,c])]++(c,.lst (X.map spD))::[(b,MO.lst (B.map spD)),(a,MO.lst (A.map spD)),(p,PA0)]/\X.length=j+1/\(∀ q∈X,N3 B0 q)/\∃ v1 v2 v3 v4,ρ'=[some (.m p),some (.m h),some (.d (.int mo)),some (.d (.int pu)),some (.d (.int (2:Nat))),some (.m c),v1,v2,v3,v4])
      [some (.m p),some (.m h),some (.d (.int mo)),some (.d (.int pu)),some (.d (.int (2:Nat))),some (.m c),w1,w2,w3,w4] ([(h,MO.refs [a,b,c])]++(c,.lst (X.map spD++[spD q']))::[(b,MO.lst (B.map spD)),(a,MO.lst (A.map spD)),(p,PA0)]):=fun q' hq' w1 w2 w3 w4=>by
     refine Wks.of ⟨X++[q'],by rw [List.map_append];rfl,by simp;omega,fun z hz=>?_,_,_,_,_,rfl⟩
     rcases List.mem_append.mp hz with h | h
     ·exact hX' z h
     ·rw [qz.mp h];exact hq'
    have lx:(X.map spD).length<4000:=by rw [List.length_map];omega
    refine ⟨rfl,_,rfl,fun ab hab=>⟨⟨by decide,by decide,by decide⟩,?_⟩⟩
    refine Jk (fun cc=>?_) (fun cc=>?_)
    ·have cc:ab<10 ^ (20:Int).toNat:=qv cc
     rw [e20] at cc
     refine ⟨⟨bI (by decide),bI (by show pu.natAbs<=1000000000000000000000000000000;omega)⟩,⟨X.map spD,by simp⟩,zl3,[(h,MO.refs [a,b,c])],[(b,MO.lst (B.map spD)),(a,MO.lst (A.map spD)),(p,PA0)],_,rfl,lx,?_⟩
     refine keep (q.1+(2:Nat) * pu,q.2.1,q.2.2) ⟨?_,hq.2.1,hq.2.2⟩ _ _ _ _
     show (q.1+(2:Nat) * pu).natAbs<=1000000000000000000000000000000
     rcases hpu with rfl | rfl <;> omega
    ·exact ⟨⟨X.map spD,by simp⟩,zl3,[(h,MO.refs [a,b,c])],[(b,MO.lst (B.map spD)),(a,MO.lst (A.map spD)),(p,PA0)],_,rfl,lx,keep q hq _ _ _ _⟩
   ·rintro ρ' μ' ⟨X,rfl,lX,hX',v1,v2,v3,v4,rfl⟩
    have lX:X.length=n.toNat:=lX
    exact Wks.of ⟨A,B,X,rfl,lA,lB,by omega,hA,hB,hX',fun z=>absurd z (by omega),fun z=>absurd z (by omega),fun z=>absurd z (by omega),_,_,_,_,_,_,rfl⟩
 ·rintro ρ' μ' ⟨A,B,C,rfl,lA,lB,lC,hA,hB,hC,_,_,_,v1,v2,v3,v4,v5,v6,rfl⟩
  refine ⟨_,_,FzR.refs3,k A B C lA lB lC fun X hX' x hx=>?_⟩
  simp only [List.mem_cons,List.mem_nil_iff,or_false] at hX'
  rcases hX' with rfl | rfl | rfl
  ·exact hA x hx
  ·exact hB x hx
  ·exact hC x hx
theorem qiB {ps qs:List P3}(h:∀ x,x∈ps ↔ x∈qs):plc ps=plc qs:=by
 have:Plc ps=Plc qs:=by
  funext rs
  unfold Plc
  simp only [h]
 unfold plc
 rw [this]
theorem qgu {A B C:List P3}{o:Option Tr}(h:qhG C A B o):qhG A B C o:=by
 have e:plc (C++A++B)=plc (A++B++C):=qiB fun x=>by
  simp only [List.mem_append]
  constructor
  ·rintro ((h | h) | h)
   ·exact .inr h
   ·exact .inl (.inl h)
   ·exact .inl (.inr h)
  ·rintro ((h | h) | h)
   ·exact .inl (.inr h)
   ·exact .inr h
   ·exact .inl (.inl h)
 unfold qhG at *
 rw [e] at h
 rcases h with h | ⟨h1,t,h2,h3,h4,h5,h6,h7⟩
 ·exact .inl h
 ·refine .inr ⟨h1,t,h2,h3,h4,h5,h6,fun X hX=>h7 X ?_⟩
  simp only [List.mem_cons,List.mem_nil_iff,or_false] at hX ⊢
  rcases hX with h | h | h <;> simp [h]
theorem qfF {A B C:List P3}(hP:Plc (A++B++C) (plc (A++B++C))):qhG A B C (hf3 A B C):=rt_of hP fun hi=>by
 obtain ⟨a,ha,b,hb,c,hc,hu⟩:=qg2 hi
 refine ham3 (fun X hX x hx=>(hP.2.2 x).mpr ?_) ha hb hc hu
 simp only [List.mem_cons,List.mem_nil_iff,or_false] at hX
 rcases hX with rfl | rfl | rfl <;> simp [hx]
theorem qaq (A B C:List P3):SeqAt.shaped (.list [clD A,clD B,clD C])=true:=by
 have hd:∀ ps:List P3,PyData.depthAll (ps.map spD)<=3:=fun ps=>Z4 (n:=2) (fun p=>by unfold spD;simp [PyData.depth,PyData.depthAll]) ps
 have hl:∀ ps:List P3,PyData.canLayAll0 (ps.map spD)=true:=fun ps=>Ji (fun p=>rfl) ps
 have a:=hd A
 have b:=hd B
 have c:=hd C
 unfold SeqAt.shaped
 rw [Bool.and_eq_true]
 refine ⟨by unfold clD;simp only [PyData.canLay0,PyData.canLayAll0,hl,Bool.and_self],qB ?_⟩
 unfold clD
 simp only [PyData.depth,PyData.depthAll]
 omega
theorem Jf (o:Option Tr):SeqAt.shaped (hfD o)=true:=by cases o <;> rfl
theorem neF {B:PyData}(h:SeqAt.shaped B=true):¬ (!PyData.eqv B B)=true:=fun z=>by
 rw [qbQ h] at z;exact absurd z (by decide)
theorem qfz:FnScope ["_law_script", "_law_k", "_law_clouds_here", "_law_handed", "_law_found"] ["_law_script"] (qt qeb):=⟨rfl,rfl,rfl,by decide +kernel,rfl,by decide +kernel,by decide +kernel⟩
theorem qiV {f:Addr}{fd:FuncData}(F:Fun K "law" "law" qeb f fd) (T:Txt mg) (hX:NoX CX) (O_law_pot:Own P w K mg base CX 1 "_law_pot" ["_law_script", "_law_k"] (yf K sPot)) (O_law_clouds:Own P w K mg base CX 5 "_law_clouds" ["_law_pot_here"] (yf K sCl)) (Ohalving_flat:Own P w K mg base CX 5 "halving_flat" ["one", "two", "three"] (yf K sHF)) (O_law_right:Own P w K mg base CX 4 "_law_right" ["_law_found", "_law_clouds_here"] (yf K sRt)):FnOk P w K mg base CX 6 f fd ["_law_script"] (yf K sLaw):=by
 refine F.okD qfz (fun es μ Q hq0=>by obtain ⟨ns,e,_⟩:=hq0;subst e;rfl) (fun cdv A' outer s H E es μ Q hr hq0=>?_)
 obtain ⟨ns,e,hl,e0,k⟩:=hq0
 subst e e0
 have nd:=qfz.nd
 refine ⟨_,(qx (Jl PassesOwn.never rfl (Jy rfl T.range_ (qc (qY (qfW rfl) (by rfl) T.max_ qd3 (qc qu (qc (qY (qjo rfl) (by rfl) T.min_ qjz (qc (qY Jb (by rfl) T.len_ Jd (qc (dv 0) qm)) (qc qu qm))) qm))) qm)) (qF (i:=1) nd rfl (by first | exact Or.inl rfl | exact Or.inr rfl)) (qx (ym (i:=2) nd rfl (by first | exact Or.inl rfl | exact Or.inr rfl) (ya O_law_clouds hX (hr.mono (by decide)) rfl (qc (ya O_law_pot hX (hr.mono (by decide)) rfl (qc (dv 0) (qc (dv 1) qm))) qm)))
   (qx (Zn (i:=3) nd rfl (by first | exact Or.inl rfl | exact Or.inr rfl) (L:=["_law_cloud"]) (sc:=qt qeb) (N:=["_law_script", "_law_k", "_law_clouds_here", "_law_handed", "_law_found"]) rfl rfl rfl (by decide +kernel) (js (dv 2)) (fun _ _ _ _ _=>(qF (i:=5) (show List.Nodup (["_law_script", "_law_k", "_law_clouds_here", "_law_handed", "_law_found", "_law_cloud"]:List Str) from by decide +kernel) rfl (by first | exact Or.inl rfl | exact Or.inr rfl))) (fun _ _ _ _ _=>y7) (fun _ _ _ _ _=>(Jz qhp (by rfl) T.list_ qhx (qc (dv 5) qm))))
   (qx (ym (i:=4) nd rfl (by first | exact Or.inl rfl | exact Or.inr rfl) (ya Ohalving_flat hX (hr.mono (by decide)) rfl (qc (yJ qE (dv 3) qu (fun _ _=>rfl)) (qc (yJ qE (dv 3) qu (fun _ _=>rfl)) (qc (yJ qE (dv 3) qu (fun _ _=>rfl)) qm)))))
   (qx (jB (qhf (qdG (Yr (jH (ya O_law_right hX (hr.mono (by decide)) rfl (qc (dv 4) (qc (dv 2) qm))))) (qbp (yB (YF hr.units) (dv 3) (dv 2) (q0 _))))) (qG (qW qdQ)) yL)
   (qx (jB (Yr (jH (ya O_law_right hX (hr.mono (by decide)) rfl (qc (ya Ohalving_flat hX (hr.mono (by decide)) rfl (qc (yJ qE (dv 3) qu (fun _ _=>rfl)) (qc (yJ qE (dv 3) qu (fun _ _=>rfl)) (qc (yJ qE (dv 3) qu (fun _ _=>rfl)) qm)))) (qc (dv 2) qm))))) (qG (qW qdQ)) yL)
   (qG (jB (yB (YF hr.units) (ya Ohalving_flat hX (hr.mono (by decide)) rfl (qc (yJ qE (dv 3) qu (fun _ _=>rfl)) (qc (yJ qE (dv 3) qu (fun _ _=>rfl)) (qc (yJ qE (dv 3) qu (fun _ _=>rfl)) qm)))) (dv 4) (q0 _)) (qG (qW qdQ)) yL))))))))
   (qG (qW qdQ))),?_⟩
 refine ⟨_,.l (.d _),?_⟩
 rw [List.length_map]
 obtain ⟨m,em,hm⟩:∃ m:Int,(if (1:Int)<(if (2:Int)<(ns.length:Int) then 2 else (ns.length:Int)) then (if (2:Int)<(ns.length:Int) then 2 else (ns.length:Int)) else 1)=m/\(1<=m/\m<=2):=⟨_,rfl,by split <;> (try split) <;> omega⟩
 refine ⟨?_,?_,qhN (fun i ρ' μ'=>μ'=[]/\∃ v1 v2 v3 v4,ρ'=[some (.d (.list (ns.map .int))),v1,v2,v3,v4]) ⟨rfl,_,_,_,_,rfl⟩ ?_ ?_⟩
 ·exact le_of_le_of_eq (show -(2 ^ 62)<=m by omega) em.symm
 ·exact lt_of_eq_of_lt em (show m<2 ^ 62 by omega)
 ·rintro i ρ' μ' hi ⟨rfl,v1,v2,v3,v4,rfl⟩
  have hi:i<Int.toNat _:=hi
  have hi2:i<m.toNat:=lt_of_lt_of_eq hi (congrArg Int.toNat em)
  refine ⟨ns,i,by simp,hl,by omega,fun p hp=>?_⟩
  refine ⟨p,rfl,rfl,fun A B C lA lB lC hb=>?_⟩
  refine ⟨_,.d _,zl3,YX (as:=[A,B,C]) (h:=clD) clD (Src.l (.d _)) (fun X _ R h=>⟨_,.l (.d _),h⟩) ?_⟩
  refine ⟨_,rfl,_,rfl,_,rfl,A,B,C,rfl,by omega,hb,fun hP=>?_⟩
  refine ⟨A,B,C,hf3 A B C,rfl,by omega,hb,fun _=>qfF hP,?_⟩
  refine ⟨_,_,.d _,.d _,qaq A B C,qaq A B C,Jk (fun z=>absurd z (neF (qaq A B C))) (fun _=>?_)⟩
  have hb2:∀ X∈[C,A,B],∀ x∈X,N3 B0 x:=fun X hX' x hx=>hb X (by
   simp only [List.mem_cons,List.mem_nil_iff,or_false] at hX' ⊢
   rcases hX' with h | h | h <;> simp [h]) x hx
  refine ⟨_,rfl,_,rfl,_,rfl,C,A,B,rfl,by omega,hb2,fun hP2=>?_⟩
  refine ⟨A,B,C,hf3 C A B,rfl,by omega,hb,fun _=>qgu (qfF hP2),?_⟩
  refine ⟨_,rfl,_,rfl,_,rfl,A,B,C,rfl,by omega,hb,fun _=>?_⟩
  generalize hf3 A B C=o
  cases o with
  | none =>
   refine ⟨_,_,.d _,.d _,Jf none,Jf none,Jk (fun z=>absurd z (neF (Jf none))) (fun _=>?_)⟩
   exact ⟨_,_,Wk.drop1,rfl,_,_,_,_,rfl⟩
  | some t =>
   refine ⟨_,_,.d _,.d _,Jf (some t),Jf (some t),Jk (fun z=>absurd z (neF (Jf (some t)))) (fun _=>?_)⟩
   exact ⟨_,_,Wk.drop1,rfl,_,_,_,_,rfl⟩
 ·rintro ρ' μ' ⟨rfl,v1,v2,v3,v4,rfl⟩
  exact k _
end
structure FIn (K:W.Frag) (x:Str) (st:Stmt) (f:Addr) (fd:FuncData):Prop where
 a:W.nsIn K mainGlobals x=some (some (.ref f))
 F:Fun K x x st f fd
 k:W.keepIn K (.ref f)=true
theorem fin_mk {K:W.Frag}{x:Str}{st:Stmt}{f:Addr}{oc:Value}{od an:Option Addr}{sl:Array (Option Value)}{kV dc pm cd ct:Value}(a:W.nsIn K mainGlobals x=some (some (.ref f))) (l:K.lookup f=some ⟨oc,od,.func (W.fnOf x x (Ja st) (yX st) (qt st) .none kV dc pm an cd ct),sl⟩) (c:W.codeIn K cd x=true) (k:W.keepIn K (.ref f)=true):FIn K x st f (W.fnOf x x (Ja st) (yX st) (qt st) .none kV dc pm an cd ct):=⟨a,qfS l c k,k⟩
theorem all_mk {l:W.OpenLaw}{w:World}{K:W.Frag}{h:Heap}{mg:Str->Option Value}{fa:Addr}(X:K.In h) (G:h.Ns mainGlobals mg) (hfa:mg "law" = some (.ref fa))
  {f0 f1 f2 f3 f4 f5 f6 f7 f8 f9 f10 f11 f12 f13 f14 f15 f16 f17 f18 f19 f20 f21 f22 f23 f24 f25 f26 f27:Addr}{d0 d1 d2 d3 d4 d5 d6 d7 d8 d9 d10 d11 d12 d13 d14 d15 d16 d17 d18 d19 d20 d21 d22 d23 d24 d25 d26 d27:FuncData}
  (g0:FIn K "_law_pot" jX f0 d0)
  (g1:FIn K "_law_take" JG f1 d1)
  (g2:FIn K "_law_wide" JF f2 d2)
  (g3:FIn K "_law_number" jY f3 d3)
  (g4:FIn K "sign" qgi f4 d4)
  (g5:FIn K "common_divisor" jm f5 d5)
  (g6:FIn K "upright" Y1 f6 d6)
  (g7:FIn K "are_aligned" jW f7 d7)
  (g8:FIn K "flat_value" Jn f8 d8)
  (g9:FIn K "flat_through" yU f9 d9)
  (g10:FIn K "flat_side" JE f10 d10)
  (g11:FIn K "_law_upright" yV f11 d11)
  (g12:FIn K "_law_spot" y4 f12 d12)
  (g13:FIn K "sign_counts" jU f13 d13)
  (g14:FIn K "is_even_share" jA f14 d14)
  (g15:FIn K "flat_counts" jx f15 d15)
  (g16:FIn K "flat_halves" jV f16 d16)
  (g17:FIn K "_law_divisor" jO f17 d17)
  (g18:FIn K "_law_is_flat" yW f18 d18)
  (g19:FIn K "_law_far" Yk f19 d19)
  (g20:FIn K "places" qan f20 d20)
  (g21:FIn K "place_pairs" jv f21 d21)
  (g22:FIn K "spot_triples" ji f22 d22)
  (g23:FIn K "halving_flat" jM f23 d23)
  (g24:FIn K "_law_halves" jd f24 d24)
  (g25:FIn K "_law_in_line" jN f25 d25)
  (g26:FIn K "_law_right" jn f26 d26)
  (g27:FIn K "_law_clouds" jZ f27 d27)
  {f28:Addr}{od28 an28:Option Addr}{sl28:Array (Option Value)}{oc28 kV28 dc28 pm28 cd28 ct28:Value}
  (a28:W.nsIn K mainGlobals "law" = some (some (.ref f28))) (l28:K.lookup f28=some ⟨oc28,od28,.func (W.fnOf "law" "law" (Ja qeb) (yX qeb) (qt qeb) .none kV28 dc28 pm28 an28 cd28 ct28),sl28⟩) (c28:W.codeIn K cd28 "law" = true) (k28:W.keepIn K (.ref f28)=true)
  (z0:W.nsIn K mainGlobals "len" = some none)
  (z1:W.nsIn K mainGlobals "range" = some none)
  (z2:W.nsIn K mainGlobals "max" = some none)
  (z3:W.nsIn K mainGlobals "min" = some none)
  (z4:W.nsIn K mainGlobals "abs" = some none)
  (z5:W.nsIn K mainGlobals "int" = some none)
  (z6:W.nsIn K mainGlobals "isinstance" = some none)
  (z7:W.nsIn K mainGlobals "tuple" = some none)
  (z8:W.nsIn K mainGlobals "bool" = some none)
  (z9:W.nsIn K mainGlobals "list" = some none)
  (z10:W.nsIn K mainGlobals "all" = some none)
  (z11:W.nsIn K mainGlobals "any" = some none)
  (z12:W.nsIn K mainGlobals "set" = some none)
  (z13:W.nsIn K mainGlobals "sorted" = some none)
  (z14:W.nsIn K mainGlobals "str" = some none)
  (z15:W.nsIn K mainGlobals "enumerate" = some none)
  (z16:W.nsIn K mainGlobals "zip" = some none)
  (z17:W.nsIn K mainGlobals "divmod" = some none)
  : ∃ fd:FuncData,(∀ (s:Shared) (v:Value),BindsTo s fd ⟨[v],[]⟩ [("_law_script",v)])/\∀ base:Heap,K.In base->base.Ns mainGlobals mg->FnOk l.prog w K mg base CX0 6 fa fd ["_law_script"] (qen K):=by
 have e:=hfa.symm.trans (W.mg_of X G a28)
 cases e
 have T:Txt mg:=⟨W.mg_none_of X G z0,W.mg_none_of X G z1,W.mg_none_of X G z2,W.mg_none_of X G z3,W.mg_none_of X G z4,W.mg_none_of X G z5,W.mg_none_of X G z6,W.mg_none_of X G z7,W.mg_none_of X G z8,W.mg_none_of X G z9,W.mg_none_of X G z10,W.mg_none_of X G z11,W.mg_none_of X G z12,W.mg_none_of X G z13,W.mg_none_of X G z14,W.mg_none_of X G z15,W.mg_none_of X G z16,W.mg_none_of X G z17⟩
 have F0:=g0.F
 have b0:=F0.binds (ps:=["_law_script", "_law_k"]) fun _ _ _ _ _ _ us hl=>by obtain ⟨_,_,rfl⟩:=L2.lenIs2 hl rfl;rfl
 have F1:=g1.F
 have b1:=F1.binds (ps:=["_law_pot_here", "_law_many"]) fun _ _ _ _ _ _ us hl=>by obtain ⟨_,_,rfl⟩:=L2.lenIs2 hl rfl;rfl
 have F2:=g2.F
 have b2:=F2.binds (ps:=["_law_pot_here"]) fun _ _ _ _ _ _ us hl=>by obtain ⟨_,rfl⟩:=L2.lenIs1 hl rfl;rfl
 have F3:=g3.F
 have b3:=F3.binds (ps:=["_law_pot_here"]) fun _ _ _ _ _ _ us hl=>by obtain ⟨_,rfl⟩:=L2.lenIs1 hl rfl;rfl
 have F4:=g4.F
 have b4:=F4.binds (ps:=["number"]) fun _ _ _ _ _ _ us hl=>by obtain ⟨_,rfl⟩:=L2.lenIs1 hl rfl;rfl
 have F5:=g5.F
 have b5:=F5.binds (ps:=["one", "other"]) fun _ _ _ _ _ _ us hl=>by obtain ⟨_,_,rfl⟩:=L2.lenIs2 hl rfl;rfl
 have F6:=g6.F
 have b6:=F6.binds (ps:=["one", "two", "three"]) fun _ _ _ _ _ _ us hl=>by obtain ⟨_,_,_,rfl⟩:=L2.lenIs3 hl rfl;rfl
 have F7:=g7.F
 have b7:=F7.binds (ps:=["one", "two", "three"]) fun _ _ _ _ _ _ us hl=>by obtain ⟨_,_,_,rfl⟩:=L2.lenIs3 hl rfl;rfl
 have F8:=g8.F
 have b8:=F8.binds (ps:=["flat", "spot"]) fun _ _ _ _ _ _ us hl=>by obtain ⟨_,_,rfl⟩:=L2.lenIs2 hl rfl;rfl
 have F9:=g9.F
 have b9:=F9.binds (ps:=["one", "two", "three"]) fun _ _ _ _ _ _ us hl=>by obtain ⟨_,_,_,rfl⟩:=L2.lenIs3 hl rfl;rfl
 have F10:=g10.F
 have b10:=F10.binds (ps:=["flat", "spot"]) fun _ _ _ _ _ _ us hl=>by obtain ⟨_,_,rfl⟩:=L2.lenIs2 hl rfl;rfl
 have F11:=g11.F
 have b11:=F11.binds (ps:=["_law_one", "_law_two", "_law_three"]) fun _ _ _ _ _ _ us hl=>by obtain ⟨_,_,_,rfl⟩:=L2.lenIs3 hl rfl;rfl
 have F12:=g12.F
 have b12:=F12.binds (ps:=["_law_pot_here", "_law_some"]) fun _ _ _ _ _ _ us hl=>by obtain ⟨_,_,rfl⟩:=L2.lenIs2 hl rfl;rfl
 have F13:=g13.F
 have b13:=F13.binds (ps:=["signs"]) fun _ _ _ _ _ _ us hl=>by obtain ⟨_,rfl⟩:=L2.lenIs1 hl rfl;rfl
 have F14:=g14.F
 have b14:=F14.binds (ps:=["shares"]) fun _ _ _ _ _ _ us hl=>by obtain ⟨_,rfl⟩:=L2.lenIs1 hl rfl;rfl
 have F15:=g15.F
 have b15:=F15.binds (ps:=["flat", "cloud"]) fun _ _ _ _ _ _ us hl=>by obtain ⟨_,_,rfl⟩:=L2.lenIs2 hl rfl;rfl
 have F16:=g16.F
 have b16:=F16.binds (ps:=["flat", "cloud"]) fun _ _ _ _ _ _ us hl=>by obtain ⟨_,_,rfl⟩:=L2.lenIs2 hl rfl;rfl
 have F17:=g17.F
 have b17:=F17.binds (ps:=["_law_numbers"]) fun _ _ _ _ _ _ us hl=>by obtain ⟨_,rfl⟩:=L2.lenIs1 hl rfl;rfl
 have F18:=g18.F
 have b18:=F18.binds (ps:=["_law_found"]) fun _ _ _ _ _ _ us hl=>by obtain ⟨_,rfl⟩:=L2.lenIs1 hl rfl;rfl
 have F19:=g19.F
 have b19:=F19.binds (ps:=["_law_flat", "_law_spot_here"]) fun _ _ _ _ _ _ us hl=>by obtain ⟨_,_,rfl⟩:=L2.lenIs2 hl rfl;rfl
 have F20:=g20.F
 have b20:=F20.binds (ps:=["heap"]) fun _ _ _ _ _ _ us hl=>by obtain ⟨_,rfl⟩:=L2.lenIs1 hl rfl;rfl
 have F21:=g21.F
 have b21:=F21.binds (ps:=["heap"]) fun _ _ _ _ _ _ us hl=>by obtain ⟨_,rfl⟩:=L2.lenIs1 hl rfl;rfl
 have F22:=g22.F
 have b22:=F22.binds (ps:=["cloud"]) fun _ _ _ _ _ _ us hl=>by obtain ⟨_,rfl⟩:=L2.lenIs1 hl rfl;rfl
 have F23:=g23.F
 have b23:=F23.binds (ps:=["one", "two", "three"]) fun _ _ _ _ _ _ us hl=>by obtain ⟨_,_,_,rfl⟩:=L2.lenIs3 hl rfl;rfl
 have F24:=g24.F
 have b24:=F24.binds (ps:=["_law_flat", "_law_cloud"]) fun _ _ _ _ _ _ us hl=>by obtain ⟨_,_,rfl⟩:=L2.lenIs2 hl rfl;rfl
 have F25:=g25.F
 have b25:=F25.binds (ps:=["_law_some"]) fun _ _ _ _ _ _ us hl=>by obtain ⟨_,rfl⟩:=L2.lenIs1 hl rfl;rfl
 have F26:=g26.F
 have b26:=F26.binds (ps:=["_law_found", "_law_clouds_here"]) fun _ _ _ _ _ _ us hl=>by obtain ⟨_,_,rfl⟩:=L2.lenIs2 hl rfl;rfl
 have F27:=g27.F
 have b27:=F27.binds (ps:=["_law_pot_here"]) fun _ _ _ _ _ _ us hl=>by obtain ⟨_,rfl⟩:=L2.lenIs1 hl rfl;rfl
 have F28:=qfS (st:=qeb) l28 c28 k28
 have b28:=F28.binds (ps:=["_law_script"]) fun _ _ _ _ _ _ us hl=>by obtain ⟨_,rfl⟩:=L2.lenIs1 hl rfl;rfl
 refine ⟨W.fnOf "law" "law" (Ja qeb) (yX qeb) (qt qeb) .none kV28 dc28 pm28 an28 cd28 ct28,fun s v=>.of_eq rfl,fun base Kb Gb=>?_⟩
 have O_law_pot:Own l.prog w K mg base CX0 1 "_law_pot" ["_law_script", "_law_k"] (yf K sPot):=⟨_,_,qiU F0 T,W.mg_of X G g0.a,g0.k,b0⟩
 have O_law_take:Own l.prog w K mg base CX0 1 "_law_take" ["_law_pot_here", "_law_many"] (yf K (qar 2147483629)):=⟨_,_,qgP F1 ,W.mg_of X G g1.a,g1.k,b1⟩
 have O_law_wide:Own l.prog w K mg base CX0 2 "_law_wide" ["_law_pot_here"] (yf K (qhJ 2147483629)):=⟨_,_,qgO F2 T ZQ O_law_take,W.mg_of X G g2.a,g2.k,b2⟩
 have O_law_number:Own l.prog w K mg base CX0 3 "_law_number" ["_law_pot_here"] (yf K (qhJ 2147483629)):=⟨_,_,qc4 F3 ZQ O_law_take O_law_wide,W.mg_of X G g3.a,g3.k,b3⟩
 have Osign:Own l.prog w K mg base CX0 1 "sign" ["number"] (yf K qgq):=⟨_,_,qgR F4 ,W.mg_of X G g4.a,g4.k,b4⟩
 have Ocommon_divisor:Own l.prog w K mg base CX0 1 "common_divisor" ["one", "other"] (yf K sGcd):=⟨_,_,ok_cd F5 T,W.mg_of X G g5.a,g5.k,b5⟩
 have Oupright:Own l.prog w K mg base CX0 1 "upright" ["one", "two", "three"] (yf K qjO):=⟨_,_,qbT F6 ,W.mg_of X G g6.a,g6.k,b6⟩
 have Oare_aligned:Own l.prog w K mg base CX0 2 "are_aligned" ["one", "two", "three"] (yf K qjS):=⟨_,_,qiY F7 ZQ Oupright,W.mg_of X G g7.a,g7.k,b7⟩
 have Oflat_value:Own l.prog w K mg base CX0 1 "flat_value" ["flat", "spot"] (yf K qer):=⟨_,_,Zb F8 ,W.mg_of X G g8.a,g8.k,b8⟩
 have Oflat_through:Own l.prog w K mg base CX0 3 "flat_through" ["one", "two", "three"] (yf K sFl):=⟨_,_,ok_fl F9 ZQ Oare_aligned Oupright Ocommon_divisor Oflat_value,W.mg_of X G g9.a,g9.k,b9⟩
 have Oflat_side:Own l.prog w K mg base CX0 2 "flat_side" ["flat", "spot"] (yf K qgr):=⟨_,_,ZO F10 ZQ Osign Oflat_value,W.mg_of X G g10.a,g10.k,b10⟩
 have O_law_upright:Own l.prog w K mg base CX0 1 "_law_upright" ["_law_one", "_law_two", "_law_three"] (yf K qjP):=⟨_,_,qiS F11 T,W.mg_of X G g11.a,g11.k,b11⟩
 have O_law_spot:Own l.prog w K mg base CX0 4 "_law_spot" ["_law_pot_here", "_law_some"] (yf K qgp):=⟨_,_,qgQ F12 T ZQ O_law_take O_law_number,W.mg_of X G g12.a,g12.k,b12⟩
 have Osign_counts:Own l.prog w K mg base CX0 1 "sign_counts" ["signs"] (yf K sSC):=⟨_,_,qiT F13 ,W.mg_of X G g13.a,g13.k,b13⟩
 have Ois_even_share:Own l.prog w K mg base CX0 1 "is_even_share" ["shares"] (yf K sEv):=⟨_,_,ok_ev F14 ,W.mg_of X G g14.a,g14.k,b14⟩
 have Oflat_counts:Own l.prog w K mg base CX0 3 "flat_counts" ["flat", "cloud"] (yf K sFC):=⟨_,_,ok_fc F15 ZQ Osign_counts Oflat_side,W.mg_of X G g15.a,g15.k,b15⟩
 have Oflat_halves:Own l.prog w K mg base CX0 4 "flat_halves" ["flat", "cloud"] (yf K sFH):=⟨_,_,ok_fh F16 ZQ Ois_even_share Oflat_counts,W.mg_of X G g16.a,g16.k,b16⟩
 have O_law_divisor:Own l.prog w K mg base CX0 1 "_law_divisor" ["_law_numbers"] (yf K qgs):=⟨_,_,qgS F17 T,W.mg_of X G g17.a,g17.k,b17⟩
 have O_law_is_flat:Own l.prog w K mg base CX0 2 "_law_is_flat" ["_law_found"] (yf K sIsF):=⟨_,_,qiW F18 T ZQ O_law_divisor,W.mg_of X G g18.a,g18.k,b18⟩
 have O_law_far:Own l.prog w K mg base CX0 1 "_law_far" ["_law_flat", "_law_spot_here"] (yf K qjR):=⟨_,_,qiX F19 ,W.mg_of X G g19.a,g19.k,b19⟩
 have Oplaces:Own l.prog w K mg base CX0 1 "places" ["heap"] (yf K qjQ):=⟨_,_,qc3 F20 T,W.mg_of X G g20.a,g20.k,b20⟩
 have Oplace_pairs:Own l.prog w K mg base CX0 2 "place_pairs" ["heap"] (yf K sPp):=⟨_,_,ok_pp F21 T ZQ Oplaces,W.mg_of X G g21.a,g21.k,b21⟩
 have Ospot_triples:Own l.prog w K mg base CX0 3 "spot_triples" ["cloud"] (yf K sTr):=⟨_,_,ok_st F22 T ZQ Oplaces Oplace_pairs,W.mg_of X G g22.a,g22.k,b22⟩
 have Ohalving_flat:Own l.prog w K mg base CX0 5 "halving_flat" ["one", "two", "three"] (yf K sHF):=⟨_,_,ok_hf F23 ZQ Ospot_triples Oare_aligned Oflat_through Oflat_halves,W.mg_of X G g23.a,g23.k,b23⟩
 have O_law_halves:Own l.prog w K mg base CX0 2 "_law_halves" ["_law_flat", "_law_cloud"] (yf K sLH):=⟨_,_,ok_lh F24 T ZQ O_law_far,W.mg_of X G g24.a,g24.k,b24⟩
 have O_law_in_line:Own l.prog w K mg base CX0 2 "_law_in_line" ["_law_some"] (yf K sIL):=⟨_,_,ok_il F25 ZQ O_law_upright,W.mg_of X G g25.a,g25.k,b25⟩
 have O_law_right:Own l.prog w K mg base CX0 4 "_law_right" ["_law_found", "_law_clouds_here"] (yf K sRt):=⟨_,_,qeL F26 T ZQ O_law_in_line O_law_is_flat O_law_far O_law_upright O_law_halves,W.mg_of X G g26.a,g26.k,b26⟩
 have O_law_clouds:Own l.prog w K mg base CX0 5 "_law_clouds" ["_law_pot_here"] (yf K sCl):=⟨_,_,qc5 F27 T ZQ O_law_take O_law_spot,W.mg_of X G g27.a,g27.k,b27⟩
 exact (qiV F28 T ZQ O_law_pot O_law_clouds Ohalving_flat O_law_right).imp (fun _ _ _ _ h=>qi2 h)
theorem walk {l:W.OpenLaw}{q:Program}{loose:List Str}{XP:(Str->Option Value)->Heap->Prop}{YP:World->Heap->Prop}{d:DefRec}{K:Params->W.Frag}(hn:l.most=some 63) (hdf:d.params.defaults=[])
  (hY:∀ (w:World) (h:Heap),YP w h->(K w.params).In h)
  (F:∀ (w:World) (mg:Str->Option Value) (fa:Addr) (h:Heap),(K w.params).In h->h.Ns mainGlobals mg->mg d.name=some (.ref fa) →
   ∃ fd:FuncData,(∀ (s:Shared) (u:Value),BindsTo s fd ⟨[u],[]⟩ [("_law_script",u)])/\∀ base:Heap,(K w.params).In base->base.Ns mainGlobals mg->FnOk l.prog w (K w.params) mg base CX0 6 fa fd ["_law_script"] (qen (K w.params))) :
  W.WalkO q loose XP YP l.row.toRowW d [] (fun f vs=>PySem.call f vs) :=
 L2.walk_of (n:=63) (k:=6) (x := "_law_script") (CX:=fun w=>CX0) (sp:=fun w=>qen (K w.params)) hn (by decide) hdf ⟨rfl,by decide,by decide⟩ hY F (fun _ _ a ns hl _ hS=>⟨a,ns,rfl,hS,hl,fun _=>rfl⟩) fun _ _ _ _ _ z=>z
end K63
namespace PySem.W.Fast
def tw8921079801781132693:Nat:=0
def tw5944505099142255048:Nat:=0
def tw16593990324354415270:Nat:=0
def tw14968970320271428336:Nat:=0
def tw1009217206047827390:Nat:=0
def tw15719785682953326299:Nat:=0
def tw13707727596334414414:Nat:=0
def tw11957149571090602965:Nat:=0
def tw8501458741360037107:Nat:=0
def tw15247277408404160097:Nat:=0
def tw3162472432412850596:Nat:=0
def tw17055251955306070868:Nat:=0
def tw10955666054238600615:Nat:=0
def tw94788785089470156:Nat:=0
def tw17617924747283296416:Nat:=0
def tw15736330668732189832:Nat:=0
def tw6815919222077230291:Nat:=0
def tw9329520566899488747:Nat:=0
def tw9355273407198995714:Nat:=0
def tw5613615541494925769:Nat:=0
def tw12944927671322334803:Nat:=0
def tw11288934959012746880:Nat:=0
def tw18184924317388864550:Nat:=0
def tw1317912929145966813:Nat:=0
def tw629624571773896759:Nat:=0
def tw15173031550360430338:Nat:=0
def tw878325027630450963:Nat:=0
def tw3526952027941344685:Nat:=0
def tw17179578033192219735:Nat:=0
def tw10720400830071162523:Nat:=0
def tw6769199502413456884:Nat:=0
def tw14683409927575906398:Nat:=0
def tw16243619976737818117:Nat:=0
def tw11499057780074189650:Nat:=0
def tw5192479783745088699:Nat:=0
def tw2570794466652040961:Nat:=0
def tw17855325868910110551:Nat:=0
def tw5850283558120290489:Nat:=0
def tw17742266919724750207:Nat:=0
def tw17396960333219139857:Nat:=0
def tw1089728534752913472:Nat:=0
def tw11209611062160754388:Nat:=0
def tw720552224375543142:Nat:=0
def tw2410671783019850164:Nat:=0
def tw580196036176094195:Nat:=0
def tw14289136410842910045:Nat:=0
def tw14413205637909892267:Nat:=0
def tw12290421914615890830:Nat:=0
def tw8887454688866525717:Nat:=0
def tw5982185269544483299:Nat:=0
def tw13646722677479344201:Nat:=0
def tw14120826260586452307:Nat:=0
def tw3549705317827319670:Nat:=0
def tw3505985006879160869:Nat:=0
def tw14106331893074251008:Nat:=0
def tw4796464946299005235:Nat:=0
def tw2594509748843155108:Nat:=0
def tw2837453807996169701:Nat:=0
def tw2026691417380394311:Nat:=0
def tw11591531667028857704:Nat:=0
def tw15721238488845099528:Nat:=0
def tw17664972491456831078:Nat:=0
def tw4731825236491654471:Nat:=0
def tw2371498389615956128:Nat:=0
def tw5918120907741906432:Nat:=0
def tw14672615800931682912:Nat:=0
def tw4712887894218000883:Nat:=0
def tw1942131928388628208:Nat:=0
def tw16354802348379387136:Nat:=0
def tw4088322290137025199:Nat:=0
def tw14017877901004665252:Nat:=0
def tw8496448924168470611:Nat:=0
def tw8962319293298617285:Nat:=0
def tw7442771258239086025:Nat:=0
def tw9058345839363162552:Nat:=0
def tw7249607742985304098:Nat:=0
def tw18184020390138827595:Nat:=0
def tw16751503084897675581:Nat:=0
def tw1510277747232760259:Nat:=0
def tw13308929740791513093:Nat:=0
def tw16835217343885586478:Nat:=0
def tw11216553494152880741:Nat:=0
def tw5676739785724117634:Nat:=0
def tw15510989768063596468:Nat:=0
def tw8011243455359472119:Nat:=0
def tw5944753587796765821:Nat:=0
def tw14438354715898695384:Nat:=0
def tw16080604243666249530:Nat:=0
def tw14112384073102696399:Nat:=0
def tw2154622261845658819:Nat:=0
def tw13033678350180305925:Nat:=0
def tw4526962484203380347:Nat:=0
def tw14855377583526643632:Nat:=0
def tw1800572620023134496:Nat:=0
def tw18335335262634682721:Nat:=0
def tw13655302414679617174:Nat:=0
def tw11490310001556356207:Nat:=0
def tw15037919831904846514:Nat:=0
def tw8669091843045642245:Nat:=0
def tw1789368553691143757:Nat:=0
def tw17973176776066290899:Nat:=0
def tw3864435672308462877:Nat:=0
def tw4956752582982637794:Nat:=0
def tw6524428065821747927:Nat:=0
def tw2468870861944458238:Nat:=0
def tw17293330440581402639:Nat:=0
def tw10447902043514255069:Nat:=0
def tw18000531056121831898:Nat:=0
def tw16184284432442969729:Nat:=0
def tw8732041304393045336:Nat:=0
def tw2467965176434920782:Nat:=0
def tw3852551000398814847:Nat:=0
def tw15725726096832039989:Nat:=0
def tw4084853553687636546:Nat:=0
def tw16729632702064884984:Nat:=0
def tw1041170174155552509:Nat:=0
def tw6321636336699172220:Nat:=0
def tw15945254882337783230:Nat:=0
def tw13726750323264519746:Nat:=0
def tw13086206152347119262:Nat:=0
def tw14004066586696975867:Nat:=0
def tw15402945797071475554:Nat:=0
def tw10680973872981274854:Nat:=0
def tw7654426816434556446:Nat:=0
def tw16690642529055779825:Nat:=0
def tw5887508973042284103:Nat:=0
def tw16204393079680345805:Nat:=0
def tw13214775080374212920:Nat:=0
def tw14205149050246119913:Nat:=0
def tw7039928923859896099:Nat:=0
def tw16657940011289177106:Nat:=0
def tw14969798047271715579:Nat:=0
def tw16585838081996402309:Nat:=0
def tw10826783877196273741:Nat:=0
def tw3952829271413069834:Nat:=0
def tw6227839421558750101:Nat:=0
def tw4316084935217704735:Nat:=0
def tw15221655006432137577:Nat:=0
def tw12104913023162428233:Nat:=0
def tw3028572167628432524:Nat:=0
def tw8137418279484945755:Nat:=0
def tw12873820197788875552:Nat:=0
def tw9538895190106462323:Nat:=0
def tw8829909295173516925:Nat:=0
def tw15256036844133240182:Nat:=0
def tw1005027196695351889:Nat:=0
def tw17968740470859555073:Nat:=0
def tw15113316977965551025:Nat:=0
def tw16412336048502326043:Nat:=0
def tw11296486589089275690:Nat:=0
def tw16353921948158585810:Nat:=0
def tw1459376062287700366:Nat:=0
def tw12353823476527051031:Nat:=0
def tw8474839690896273081:Nat:=0
def tw8070043313570388653:Nat:=0
def tw17255942547236435742:Nat:=0
def tw16973386086200927892:Nat:=0
def tw6024953776214235926:Nat:=0
def tw6970461936644494348:Nat:=0
def tw487533011542018778:Nat:=0
def tw5782965437978557944:Nat:=0
def tw17117958859712063858:Nat:=0
def tw3771944204819129312:Nat:=0
def tw7934913520430049825:Nat:=0
def tw3345337300589231154:Nat:=0
def tw4250999520553049561:Nat:=0
def tw9186408745899180898:Nat:=0
def tw2460921774651957220:Nat:=0
def tw4681008671000008413:Nat:=0
def tw1330182062636601543:Nat:=0
def tw1831972189064188384:Nat:=0
def tw3629102499961260369:Nat:=0
def tw16539485010723781902:Nat:=0
def tw5129890397252497833:Nat:=0
def tw8531304691086084361:Nat:=0
def tw6929678821519940486:Nat:=0
def tw4806808226680697391:Nat:=0
def tw12554589031828927676:Nat:=0
def tw7777335487763879064:Nat:=0
def tw3987947709933700887:Nat:=0
def tw9559442636214008904:Nat:=0
def tw15462244929503986764:Nat:=0
def tw2111577402927994569:Nat:=0
def tw13871103237832872717:Nat:=0
def tw10544808588026773203:Nat:=0
def tw14424653423676339240:Nat:=0
def tw2549735073959691332:Nat:=0
def tw14074124119123986107:Nat:=0
def tw1609535401337133333:Nat:=0
def tw5223075918839236784:Nat:=0
def tw7227763357027221006:Nat:=0
def tw5606977363090778847:Nat:=0
def tw16147905535447515615:Nat:=0
def tw16441387383334324993:Nat:=0
def tw13415594562119800152:Nat:=0
def tw10525443343789380155:Nat:=0
def tw581819502997251886:Nat:=0
def tw1679984574688632405:Nat:=0
def tw11520580130361620277:Nat:=0
def tw14148063548442546190:Nat:=0
def tw12899669270209561312:Nat:=0
def tw16612980284051449718:Nat:=0
def tw3663619924518909192:Nat:=0
end PySem.W.Fast
open PySem PySem.W PyProof.Rows
set_option maxRecDepth 100000 in
set_option maxHeartbeats 0 in
theorem PySem.Challenge.cw_halveline_k63_whole_halving_flats_holds : PySem.Challenge.rw_halveline_k63_whole_halving_flats.Holds := by
 w_on;o_law;k_head;(case hw=>w_witness2)
 k_fill
 refine K63.walk (l:=PySem.Challenge.rw_halveline_k63_whole_halving_flats) rfl rfl (fun w h Y=>W.kIn_of Y) ?F
 case F =>
  intro w mg fa h KX G hmg
  refine' K63.all_mk KX G hmg (K63.fin_mk ?a0 ?l0 ?c0 ?k0) (K63.fin_mk ?a1 ?l1 ?c1 ?k1) (K63.fin_mk ?a2 ?l2 ?c2 ?k2) (K63.fin_mk ?a3 ?l3 ?c3 ?k3) (K63.fin_mk ?a4 ?l4 ?c4 ?k4) (K63.fin_mk ?a5 ?l5 ?c5 ?k5) (K63.fin_mk ?a6 ?l6 ?c6 ?k6) (K63.fin_mk ?a7 ?l7 ?c7 ?k7) (K63.fin_mk ?a8 ?l8 ?c8 ?k8) (K63.fin_mk ?a9 ?l9 ?c9 ?k9) (K63.fin_mk ?a10 ?l10 ?c10 ?k10) (K63.fin_mk ?a11 ?l11 ?c11 ?k11) (K63.fin_mk ?a12 ?l12 ?c12 ?k12) (K63.fin_mk ?a13 ?l13 ?c13 ?k13) (K63.fin_mk ?a14 ?l14 ?c14 ?k14) (K63.fin_mk ?a15 ?l15 ?c15 ?k15) (K63.fin_mk ?a16 ?l16 ?c16 ?k16) (K63.fin_mk ?a17 ?l17 ?c17 ?k17) (K63.fin_mk ?a18 ?l18 ?c18 ?k18) (K63.fin_mk ?a19 ?l19 ?c19 ?k19) (K63.fin_mk ?a20 ?l20 ?c20 ?k20) (K63.fin_mk ?a21 ?l21 ?c21 ?k21) (K63.fin_mk ?a22 ?l22 ?c22 ?k22) (K63.fin_mk ?a23 ?l23 ?c23 ?k23) (K63.fin_mk ?a24 ?l24 ?c24 ?k24) (K63.fin_mk ?a25 ?l25 ?c25 ?k25) (K63.fin_mk ?a26 ?l26 ?c26 ?k26) (K63.fin_mk ?a27 ?l27 ?c27 ?k27) ?a28 ?l28 ?c28 ?k28 ?z0 ?z1 ?z2 ?z3 ?z4 ?z5 ?z6 ?z7 ?z8 ?z9 ?z10 ?z11 ?z12 ?z13 ?z14 ?z15 ?z16 ?z17
  any_goals k_is
