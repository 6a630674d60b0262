import PyProof.Rows.All
import Wide.All
import OpenK.AllK
import Wide.FinOn
import Lean
import PyProof.EqAt
import PyProof.EqKinds
import PyProof.TupleCall
import KE.KSortTup
import PyProof.Rows.SortWalk
import PyProof.Rows.SetFrom
import PyProof.CollectIter
import PyProof.SeqI3
import PyProof.EnumFor
import PyProof.EnumMake
import PyProof.ZipIter
import KE.KLam
import KE.KNestM
import KE.KSortKey
import PyProof.Rows.CallKwBuiltin
import PyProof.WalkInts
import PyProof.DictRoadsH
import PyProof.Rows.TupTab
import PyProof.AttrMissHeap
import KE.KEqDict
import KE.KDictOf
import PyProof.DictCompW
import PyProof.Rows.SortShell
import KE.KDictLaws
import PySem.Challenge.RW_halveline_k91_keepers_keep_all_lines
set_option Elab.async false
set_option linter.all false
set_option maxRecDepth 100000
section
open PySem PySem.Spec PyProof.Rows
theorem qa:type_of% @wpAny_bind:=@wpAny_bind
theorem qc:type_of% @List.length_map:=@List.length_map
theorem qd:type_of% @List.mem_cons_of_mem:=@List.mem_cons_of_mem
theorem qe:type_of% @wpAny_pure:=@wpAny_pure
theorem qf:type_of% @List.getElem?_eq_getElem:=@List.getElem?_eq_getElem
theorem qg:type_of% @List.mem_append_right:=@List.mem_append_right
theorem qh:type_of% @Heap.get?_push_of_some:=@Heap.get?_push_of_some
theorem qi:type_of% @List.mem_cons_self:=@List.mem_cons_self
theorem qk:type_of% @Bool.false_eq_true:=@Bool.false_eq_true
theorem ql:type_of% @Heap.lt_size:=@Heap.lt_size
theorem qm:type_of% @List.getElem?_eq_some_iff:=@List.getElem?_eq_some_iff
theorem qo:type_of% @Nat.le_refl:=@Nat.le_refl
theorem qp:type_of% @Nat.ne_of_lt:=@Nat.ne_of_lt
theorem qr:type_of% @wpS_bind:=@wpS_bind
theorem qt:type_of% @Nat.le_trans:=@Nat.le_trans
theorem qu:type_of% @List.append_assoc:=@List.append_assoc
theorem qv:type_of% @List.length_append:=@List.length_append
theorem qx:type_of% @wpS_pure:=@wpS_pure
theorem qy:type_of% @Array.getElem?_toList:=@Array.getElem?_toList
theorem qz:type_of% @List.size_toArray:=@List.size_toArray
theorem qA:type_of% @Heap.get?_push_size:=@Heap.get?_push_size
theorem qB:type_of% @List.mem_append:=@List.mem_append
theorem qD:type_of% @Array.length_toList:=@Array.length_toList
theorem qE:type_of% @List.mem_singleton:=@List.mem_singleton
theorem qF:type_of% @List.mem_map:=@List.mem_map
theorem qG:type_of% @List.mem_cons:=@List.mem_cons
theorem qI:type_of% @List.map_append:=@List.map_append
theorem qJ:type_of% @of_decide_eq_true:=@of_decide_eq_true
theorem qK:type_of% @List.getElem?_map:=@List.getElem?_map
theorem qL:type_of% @Array.toList_append:=@Array.toList_append
theorem qN:type_of% @decide_eq_true:=@decide_eq_true
theorem qP:type_of% @wpAny_mono:=@wpAny_mono
theorem qQ:type_of% @List.getElem?_append_left:=@List.getElem?_append_left
theorem qS:type_of% @List.mem_append_left:=@List.mem_append_left
theorem qT:type_of% @Nat.lt_of_lt_of_le:=@Nat.lt_of_lt_of_le
theorem qW:type_of% @List.take_append_drop:=@List.take_append_drop
theorem qX:type_of% @List.getD_eq_getElem?_getD:=@List.getD_eq_getElem?_getD
theorem qY:type_of% @Heap.get?_update_other:=@Heap.get?_update_other
theorem qZ:type_of% @Nat.zero_le:=@Nat.zero_le
theorem q0:type_of% @List.pairwise_append:=@List.pairwise_append
theorem q9:type_of% @List.getElem?_append_right:=@List.getElem?_append_right
theorem ya:type_of% @List.getElem_mem:=@List.getElem_mem
theorem yb:type_of% @List.map_cons:=@List.map_cons
theorem yf:type_of% @wpAny_holding:=@wpAny_holding
theorem yg:type_of% @List.pairwise_iff_getElem:=@List.pairwise_iff_getElem
theorem yh:type_of% @List.lookup_cons:=@List.lookup_cons
theorem yi:type_of% @decide_eq_false:=@decide_eq_false
theorem yk:type_of% @List.getElem?_of_mem:=@List.getElem?_of_mem
theorem yl:type_of% @List.length_cons:=@List.length_cons
theorem ym:type_of% @Bool.and_eq_true:=@Bool.and_eq_true
theorem yn:type_of% @Nat.le_of_lt:=@Nat.le_of_lt
theorem yo:type_of% @Heap.get?_update_self:=@Heap.get?_update_self
theorem yu:type_of% @Array.getElem?_eq_none:=@Array.getElem?_eq_none
theorem yw:type_of% @List.length_take:=@List.length_take
theorem yx:type_of% @List.nodup_cons:=@List.nodup_cons
theorem yz:type_of% @Nat.lt_irrefl:=@Nat.lt_irrefl
theorem yC:type_of% @List.mem_range:=@List.mem_range
theorem yD:type_of% @List.mem_filterMap:=@List.mem_filterMap
theorem yE:type_of% @wpS_forRange:=@wpS_forRange
theorem yF:type_of% @wpAny_newObj_type:=@wpAny_newObj_type
theorem yI:type_of% @List.getElem?_set_ne:=@List.getElem?_set_ne
theorem yJ:type_of% @Nat.lt_trans:=@Nat.lt_trans
theorem yV:type_of% @List.getElem?_replicate:=@List.getElem?_replicate
theorem y4:type_of% @Nat.lt_succ_self:=@Nat.lt_succ_self
theorem y6:type_of% @List.map_map:=@List.map_map
theorem y7:type_of% @Array.perm_iff_toList_perm:=@Array.perm_iff_toList_perm
theorem ja:type_of% @wpAny_setState_of:=@wpAny_setState_of
theorem jc:type_of% @List.pairwise_map:=@List.pairwise_map
theorem jd:type_of% @Array.toList_push:=@Array.toList_push
theorem jk:type_of% @List.take_length:=@List.take_length
theorem jm:type_of% @List.mem_of_mem_take:=@List.mem_of_mem_take
theorem jn:type_of% @List.mem_of_mem_drop:=@List.mem_of_mem_drop
theorem jo:type_of% @List.mem_iff_getElem:=@List.mem_iff_getElem
theorem jp:type_of% @wpAny_standAt:=@wpAny_standAt
theorem jt:type_of% @List.append_nil:=@List.append_nil
theorem ju:type_of% @Heap.get?_update_ne:=@Heap.get?_update_ne
theorem jv:type_of% @wpS_mono:=@wpS_mono
theorem jC:type_of% @wpAny_call_entry:=@wpAny_call_entry
theorem jL:type_of% @Nat.lt_of_le_of_lt:=@Nat.lt_of_le_of_lt
theorem jM:type_of% @List.cons_lt_cons_iff:=@List.cons_lt_cons_iff
theorem jW:type_of% @Nat.mul_le_mul:=@Nat.mul_le_mul
theorem jX:type_of% @List.extract_eq_take_drop:=@List.extract_eq_take_drop
theorem jY:type_of% @List.drop_eq_getElem_cons:=@List.drop_eq_getElem_cons
theorem jZ:type_of% @Array.getElem?_eq_getElem:=@Array.getElem?_eq_getElem
theorem j5:type_of% @wpS_modify:=@wpS_modify
theorem j6:type_of% @wpAny_rule:=@wpAny_rule
theorem j9:type_of% @List.flatten_cons:=@List.flatten_cons
theorem Jn:type_of% @Bool.not_true:=@Bool.not_true
theorem Jz:type_of% @wpAny_askSetting:=@wpAny_askSetting
theorem JD:type_of% @Heap.size_push:=@Heap.size_push
theorem JP:type_of% @List.take_of_length_le:=@List.take_of_length_le
theorem JQ:type_of% @wpAny_Call_Name_kw:=@wpAny_Call_Name_kw
theorem JS:type_of% @Bool.false_ne_true:=@Bool.false_ne_true
end
namespace L2
end L2
open PySem PySem.Spec PyProof.Rows L2
variable {α β:Type}{n t' i j k lo m ia ib ac bc n0 na nb ep:Nat}{xs a0 arr out:Array Keyed}{x name qual:Str}{u cd pm ct oc acc:Value}{a b it tb f p C dx ea I S CL CN C1 C2 C3 C4 C5 C6 C7 C8:Addr}{o e c tg iter value elt t1 i1 t2 i2 tg2 iter2:Expr}{P prog:Program}{w:World}{h h' base h0:Heap}{Ob:List (Addr×Obj)}{s s' sa2:Shared}{ch fp wr:List Addr}{N ps loose L N':List Str}{M:Model}{A:Around}{E xe:Value->Shared->Prop}{pos pos' tpos apos np p1 kp p':Pos}{K:W.Frag}{D:Keyed->Prop}{st st0:SortSt}{es ifs elts f1 f2 ifs2:List Expr}{body:List Stmt}{R:Result->Shared->Prop}{pl:Sem Bool}{op:CmpOp}{mA mg:Str->Option Value}{ns ks:List Int}{kw:List (Str×Value)}{env:Env}{fd:FuncData}{outer:List Env}{ds:List PyData}{sc scope:Scope}{params:Arguments}{an od:Option Addr}{T:String}{its:List Value}{XP:(Str->Option Value)->Heap->Prop}{YP:World->Heap->Prop}{cl:List (Str×Addr)}{tn:Nat->Heap->Prop}{RR:Value->Addr->Result->Shared->Prop}{kss:List (List Int)}{kd:SortKind}{left:Bool}{owner:Array (Option Nat)}{hs:Nat->Int}{Pv:Value->Prop}{wh way:Int}
noncomputable section
local macro_rules | `(tactic| trivial)=>`(tactic| first | exact Or.inl rfl | exact Or.inr rfl | exact⟨rfl,rfl,rfl,by decide +kernel,rfl,by decide +kernel,by decide +kernel⟩ | (intro _ _ _ h;repeat (first | (obtain⟨e,_⟩:=h;subst e;rfl) | obtain⟨_,h⟩:=h)) | fail)
namespace L2
theorem lenIs1 {us:List α}(h:us.length=n) (e:n=1):∃ a0,us=[a0]:=by
  subst e;cases us with
  | nil=>simp at h
  | cons a0 us =>
    cases us with
    | nil=>exact⟨_,rfl⟩
    | cons a b=>simp at h
theorem lenIs2 {us:List α}(h:us.length=n) (e:n=2):∃ a0 a1,us=[a0,a1]:=by
  subst e;cases us with
  | nil=>simp at h
  | cons a0 us =>
    cases us with
    | nil=>simp at h
    | cons a1 us =>
      cases us with
      | nil=>exact⟨_,_,rfl⟩
      | cons a b=>simp at h
theorem lenIs3 {us:List α}(h:us.length=n) (e:n=3):∃ a0 a1 a2,us=[a0,a1,a2]:=by
  subst e;cases us with
  | nil=>simp at h
  | cons a0 us =>
    cases us with
    | nil=>simp at h
    | cons a1 us =>
      cases us with
      | nil=>simp at h
      | cons a2 us =>
        cases us with
        | nil=>exact⟨_,_,_,rfl⟩
        | cons a b=>simp at h
theorem lenIs4 {us:List α}(h:us.length=n) (e:n=4):∃ a0 a1 a2 a3,us=[a0,a1,a2,a3]:=by
  subst e;cases us with
  | nil=>simp at h
  | cons a0 us =>
    cases us with
    | nil=>simp at h
    | cons a1 us =>
      cases us with
      | nil=>simp at h
      | cons a2 us =>
        cases us with
        | nil=>simp at h
        | cons a3 us =>
          cases us with
          | nil=>exact⟨_,_,_,_,rfl⟩
          | cons a b=>simp at h
theorem lenIs5 {us:List α}(h:us.length=n) (e:n=5):∃ a0 a1 a2 a3 a4,us=[a0,a1,a2,a3,a4]:=by
  subst e;cases us with
  | nil=>simp at h
  | cons a0 us =>
    cases us with
    | nil=>simp at h
    | cons a1 us =>
      cases us with
      | nil=>simp at h
      | cons a2 us =>
        cases us with
        | nil=>simp at h
        | cons a3 us =>
          cases us with
          | nil=>simp at h
          | cons a4 us =>
            cases us with
            | nil=>exact⟨_,_,_,_,_,rfl⟩
            | cons a b=>simp at h
end L2
namespace L2
abbrev Key:=Sum Int Str
def qm5:Key->Value->Bool
  | .inl k,v=>Value.isInt k v
  | .inr x,v=>Value.isStrOf x v
def keyH (w:World):Key->Int
  | .inl k=>hashInt k
  | .inr x=>hashStr w x
theorem y8:∀ {k:Key}{v:Value},qm5 k v=true->(∃ i t,k=Sum.inl i/\v=Value.int i t)\/(∃ x t,k=Sum.inr x/\v=Value.str x t)
  | .inl i,v,h=>by
    obtain⟨t,e⟩:=Value.isInt_shape (k:=i) (v:=v) h;exact .inl ⟨i,t,rfl,e⟩
  | .inr x,v,h=>by
    obtain⟨t,e⟩:=Value.isStrOf_shape (x:=x) (v:=v) h;exact .inr ⟨x,t,rfl,e⟩
theorem qm4 (a b:Int):decide ((Sum.inl a:Key)=Sum.inl b)=(a == b):=by
  by_cases e:a=b
  . subst e;simp
  . have h:¬ (Sum.inl a:Key)=Sum.inl b:=fun q=>e (Sum.inl.inj q)
    rw[yi h];exact (beq_eq_false_iff_ne.mpr e).symm
theorem qm1 (a b:Str):decide ((Sum.inr a:Key)=Sum.inr b)=decide (a=b):=by
  by_cases e:a=b
  . subst e;simp
  . have h:¬ (Sum.inr a:Key)=Sum.inr b:=fun q=>e (Sum.inr.inj q)
    rw[yi h,yi e]
theorem qm3 (a:Int) (b:Str):decide ((Sum.inl a:Key)=Sum.inr b)=false:=yi (fun q=>nomatch q)
theorem qm2 (a:Str) (b:Int):decide ((Sum.inr a:Key)=Sum.inl b)=false:=yi (fun q=>nomatch q)
def qfV (prog:Program) (w:World):PySem.KeyKind prog w Key where
  is:=qm5
  hash:=keyH w
  inj:=fun v a b ha hb=>by
    rcases y8 ha with⟨i,t,rfl,rfl⟩ | ⟨x,t,rfl,rfl⟩
    . rcases y8 hb with⟨j,u,rfl,e⟩ | ⟨y,u,rfl,e⟩
      . injection e with e1 _;rw[e1]
      . exact nomatch e
    . rcases y8 hb with⟨j,u,rfl,e⟩ | ⟨y,u,rfl,e⟩
      . exact nomatch e
      . injection e with e1 _;rw[e1]
  byValue:=fun k v h=>by rcases y8 h with⟨i,t,rfl,rfl⟩ | ⟨x,t,rfl,rfl⟩ <;> rfl
  pyHash:=fun hv h=>by
    rcases y8 hv with⟨i,t,rfl,rfl⟩ | ⟨x,t,rfl,rfl⟩
    . exact wpAny_pyHash_int h
    . exact wpAny_pyHash_str h
  eqBool:=fun hu hv h=>by
    rcases y8 hu with⟨i,t,rfl,rfl⟩ | ⟨x,t,rfl,rfl⟩
    . rcases y8 hv with⟨j,u,rfl,rfl⟩ | ⟨y,u,rfl,rfl⟩
      . rw[qm4] at h;exact wpAny_eqBool_int h
      . rw[qm3] at h;exact SeqAt.EqAt.int_str i t y u _ _ _ _ h
    . rcases y8 hv with⟨j,u,rfl,rfl⟩ | ⟨y,u,rfl,rfl⟩
      . rw[qm2] at h;exact SeqAt.EqAt.str_int x t j u _ _ _ _ h
      . rw[qm1] at h;exact wpAny_eqBool_str h
  «strs»:=fun k x t v h=>by
    rcases y8 h with⟨i,u,rfl,e⟩ | ⟨y,u,rfl,e⟩
    . exact nomatch e
    . injection e with e1 _
      subst e1;cases v <;> rfl
end L2
namespace L2
variable {x e:Addr}
inductive V where
  | non | bl (b:Bool) | int (i:Int) | str (x:Str) | byt (b:Array UInt8) | flt (b:UInt64) | ref (a:Addr) | ty (n:String)
  deriving DecidableEq
def jw:V->Value->Prop
  | .non,u=>u=Value.none
  | .bl b,u=>u=Value.bool b
  | .int i,u=>∃ t,u=Value.int i t
  | .str x,u=>∃ t,u=Value.str x t
  | .byt b,u=>∃ t,u=Value.bytes b t
  | .flt b,u=>∃ t,u=Value.float b t
  | .ref a,u=>u=Value.ref a
  | .ty n,u=>u=Value.type n
abbrev yN:List V->List Value->Prop:=Paired jw
theorem yN.length {xs:List V}{us:List Value}(r:yN xs us):xs.length=us.length:=Paired.length r
theorem yN.get:∀ {xs:List V}{us:List Value}{i:Nat}{x:V},yN xs us->xs[i]?=some x->∃ u,us[i]?=some u/\jw x u
  | _,_,_,_,.nil,e=>by simp at e
  | _,_,0,_,.cons r _,e=>by simp at e;subst e;exact⟨_,rfl,r⟩
  | _,_,i+1,x,.cons _ t,e=>by
    obtain⟨u,h1,h2⟩:=yN.get (i:=i) (x:=x) t (by simpa using e);exact⟨u,by simpa using h1,h2⟩
theorem yN.set {x:V}(r:jw x u):∀ {xs:List V}{us:List Value}(i:Nat),yN xs us->yN (xs.set i x) (us.set i u)
  | _,_,_,.nil=>.nil
  | _,_,0,.cons _ t=>.cons r t
  | _,_,i+1,.cons q t=>.cons q (yN.set r i t)
theorem yN.append:∀ {xs ys:List V}{us ws:List Value},yN xs us->yN ys ws->yN (xs++ys) (us++ws)
  | _,_,_,_,.nil,s=>s
  | _,_,_,_,.cons r t,s=>.cons r (yN.append t s)
theorem yN.take:∀ {xs:List V}{us:List Value}(n:Nat),yN xs us->yN (xs.take n) (us.take n)
  | _,_,0,_=>.nil
  | _,_,_+1,.nil=>.nil
  | _,_,n+1,.cons r t=>.cons r (yN.take n t)
theorem yN.drop:∀ {xs:List V}{us:List Value}(n:Nat),yN xs us->yN (xs.drop n) (us.drop n)
  | _,_,0,r=>r
  | _,_,_+1,.nil=>.nil
  | _,_,n+1,.cons _ t=>yN.drop n t
def qg7:Option V->Option Value->Prop
  | some v,some u=>jw v u
  | none,none=>True
  | _,_=>False
def KV {κ:Type}:List (κ×V)->List (κ×Value)->Prop:=Paired fun (p:κ×V) (q:κ×Value)=>p.1=q.1/\jw p.2 q.2
def kV:Key->V
  | .inl i=>.int i
  | .inr x=>.str x
inductive HO where
    | lst (xs:List V)
    | tup (xs:List V)
    | dK (kvs:List (Key×V)) | dT (kvs:List (List Key×V))
    | set (S:Int->Bool) (n:Nat)
    | ins (C dx:Addr) (fs:List (Str×V))
    | own (x:Addr)
    | xd (fs:List (Str×V))
    | met (f x:Addr)
    | rng (lo hi:Int)
    | frz (o:Obj) (u:HO)
    | tbl (ps:Array Value)
    | ext (φ:Heap->Prop)
abbrev Hp:=Addr->Option HO
def upd (H:Hp) (a:Addr) (o:HO):Hp:=fun b=>if b=a then some o else H b
theorem qU {H:Hp}{o:HO}:upd H a o a=some o:=by unfold upd;rw[if_pos rfl]
theorem qV {H:Hp}{o:HO}(h:b≠a):upd H a o b=H b:=by unfold upd;rw[if_neg h]
theorem qM {H:Hp}{o:HO}(h:H a=some o) (h':H b=none):a≠b:=by intro e;subst e;rw[h] at h';cases h'
section
variable (P:Program) (w:World)
def jK (H:Hp) (h:Heap) (a:Addr):HO->Prop
  | .lst xs=>xs.length<=sizeLine/\∃ (its:List Value) (n:Nat),yN xs its/\h.get? a=some { cls:=.type "list",data:=.seq its.toArray n }
  | .tup xs=>xs.length<=sizeLine/\∃ its:List Value,yN xs its/\IsTup h a its.toArray
  | .dK kvs=>kvs.length<=sizeLine/\(a == sysModules)=false/\∃ vs,KV kvs vs/\h.DictOf (qfV P w) a vs
  | .dT kvs=>kvs.length<=sizeLine/\(a == sysModules)=false/\∃ xs:List (List Key×Addr×Value),
      Paired (fun (p:List Key×V) (q:List Key×Addr×Value)=>p.1=q.1/\H q.2.1=some (.tup (p.1.map kV))/\jw p.2 q.2.2) kvs xs ∧
      ∃ o es ep,h.get? a=some o/\o.ExactDict/\o.data = .dict es ep/\es.toList=xs.map (entryOfKey (tupleKind (qfV P w)))/\(xs.map (·.1)).Nodup
  | .set S n=>h.SetOf (intKind P w) a S n
  | .ins C dx fs=>H dx=some (.own a)/\fs.length<=1000/\dx≠a/\h.get? a=some (W.instObj C dx) ∧
      ∃ mA,h.Ns1 dx mA/\(∀ f,qg7 (fs.lookup f) (mA f))/\PySem.Within mA (fs.map (·.1))
  | .own _=>∃ o,h.get? a=some o
  | .xd fs=>∃ mA,h.Ns1 a mA/\∀ f,qg7 (fs.lookup f) (mA f)
  | .rng lo hi=>∃ t u v,h.get? a=some { cls:=.type "range",data:=.fields #[.int lo t,.int hi u,.int 1 v] }
  | .frz o u=>h.get? a=some o/\jK H h a u
  | .tbl ps=>h.get? a=some { cls:=.none,data:=.fields ps }
  | .met f x=>h.get? a=some (W.methodObj (.ref f) (.ref x))
  | .ext φ=>φ h/\(∃ o,h.get? a=some o)/\∀ h1 h2:Heap,φ h1->(∀ o,h1.get? a=some o->h2.get? a=some o)->φ h2
def HOk (H:Hp) (h:Heap):Prop:=∀ a o,H a=some o->jK P w H h a o
end
section
variable {H H':Hp}{o:HO}
theorem jK.lt (x:jK P w H h a o):a<h.objs.size:=by
  cases o with
  | lst xs=>obtain⟨_,_,_,_,e⟩:=x;exact ql e
  | tup xs=>obtain⟨_,_,_,p⟩:=x;exact p.lt
  | dK kvs=>obtain⟨_,_,_,_,o,_,_,e,_⟩:=x;exact ql e
  | dT kvs=>obtain⟨_,_,_,_,o,_,_,e,_⟩:=x;exact ql e
  | set S n=>obtain⟨o,_,_,_,e,_⟩:=x;exact ql e
  | ins C dx fs=>obtain⟨_,_,_,e,_⟩:=x;exact ql e
  | own y=>obtain⟨_,e⟩:=x;exact ql e
  | xd fs=>obtain⟨_,⟨_,_,_,e,_⟩,_⟩:=x;exact ql e
  | rng lo hi=>obtain⟨_,_,_,e⟩:=x;exact ql e
  | frz ob u=>obtain⟨e,_⟩:=x;exact ql e
  | tbl ps=>exact ql (show h.get? a=some _ from x)
  | met f y=>exact ql (show h.get? a=some _ from x)
  | ext φ=>obtain⟨_,⟨_,e⟩,_⟩:=x;exact ql e
theorem Paired.mapP {F Ga:α->β->Prop}:∀ {l₁:List α}{l₂:List β},Paired F l₁ l₂->(∀ a b,F a b->Ga a b)->Paired Ga l₁ l₂
  | _,_,.nil,_=>.nil
  | _,_,.cons r t,f=>.cons (f _ _ r) (Paired.mapP t f)
theorem Paired.imp' {F Ga:α->β->Prop}(f:∀ a b,F a b->Ga a b) {l₁:List α}{l₂:List β}(r:Paired F l₁ l₂):Paired Ga l₁ l₂:=Paired.mapP r f
theorem jK.stay (x:jK P w H h a o) (k:∀ b u,(b=a\/H b=some (.own a))->h.get? b=some u->h'.get? b=some u)
    (ho:∀ b,H b=some (.own a)->H' b=some (.own a)) (ht:∀ b xs,H b=some (.tup xs)->H' b=some (.tup xs)):jK P w H' h' a o:=by
  induction o with
  | lst xs=>obtain⟨z,its,n,r,e⟩:=x;exact⟨z,its,n,r,k _ _ (.inl rfl) e⟩
  | tup xs=>obtain⟨z,its,r,ob,e,c⟩:=x;exact⟨z,its,r,ob,k _ _ (.inl rfl) e,c⟩
  | dK kvs=>obtain⟨z,y,vs,r,ob,es,ep,e,c⟩:=x;exact⟨z,y,vs,r,ob,es,ep,k _ _ (.inl rfl) e,c⟩
  | dT kvs =>
    obtain⟨z,y,xs,r,ob,es,ep,e,c⟩:=x;exact⟨z,y,xs,Paired.mapP r fun p q z=>⟨z.1,ht _ _ z.2.1,z.2.2⟩,ob,es,ep,k _ _ (.inl rfl) e,c⟩
  | set S n=>obtain⟨ob,es,ep,t,e,c⟩:=x;exact⟨ob,es,ep,t,k _ _ (.inl rfl) e,c⟩
  | ins C dx fs =>
    obtain⟨d,z,ne,e,mA,⟨od,es,ep,e2,c⟩,r⟩:=x;exact⟨ho _ d,z,ne,k _ _ (.inl rfl) e,mA,⟨od,es,ep,k _ _ (.inr d) e2,c⟩,r⟩
  | own y=>obtain⟨ob,e⟩:=x;exact⟨ob,k _ _ (.inl rfl) e⟩
  | xd fs=>obtain⟨mA,⟨od,es,ep,e,c⟩,r⟩:=x;exact⟨mA,⟨od,es,ep,k _ _ (.inl rfl) e,c⟩,r⟩
  | rng lo hi=>obtain⟨t,u,v,e⟩:=x;exact⟨t,u,v,k _ _ (.inl rfl) e⟩
  | frz ob u ih=>obtain⟨e,q⟩:=x;exact⟨k _ _ (.inl rfl) e,ih q⟩
  | tbl ps =>
    have e:h.get? a=some { cls:=.none,data:=.fields ps }:=x;show h'.get? a=some { cls:=.none,data:=.fields ps };exact k a _ (.inl rfl) e
  | met f y =>
    have e:h.get? a=some (W.methodObj (.ref f) (.ref y)):=x;show h'.get? a=some (W.methodObj (.ref f) (.ref y));exact k a _ (.inl rfl) e
  | ext φ=>obtain⟨p,⟨o,e⟩,st⟩:=x;exact⟨st _ _ p fun o q=>k _ _ (.inl rfl) q,⟨o,k _ _ (.inl rfl) e⟩,st⟩
theorem HOk.lt (x:HOk P w H h) (e:H a=some o):a<h.objs.size:=(x a o e).lt
theorem HOk.fresh (x:HOk P w H h) (e:h.objs.size<=a):H a=none:=by
  cases q:H a with
  | none=>rfl
  | some u=>exact absurd (qT (x.lt q) e) (yz _)
theorem HOk.kept (x:HOk P w H h) (k:∀ b u,h.get? b=some u->h'.get? b=some u):HOk P w H h':=fun a o e =>
  (x a o e).stay (fun b u _ q=>k b u q) (fun _ q=>q) fun _ _ q=>q
theorem HOk.laid (x:HOk P w H h) (k:∀ b u,h.get? b=some u->h'.get? b=some u) (hp:h.objs.size<=a) (new:jK P w (upd H a o) h' a o):HOk P w (upd H a o) h':=fun b u e=>by
  have hn:=x.fresh hp;by_cases hb:b=a
  . subst hb;rw[qU] at e;cases e;exact new
  . rw[qV hb] at e
    exact (x b u e).stay (fun c v _ q=>k c v q) (fun c q=>by rw[qV (qM q hn)];exact q) fun c xs q=>by rw[qV (qM q hn)];exact q
end
def Rd (H:Hp) (a:Addr) (u:HO):Prop:=H a=some u\/∃ o,H a=some (.frz o u)
theorem Rd.ok {H:Hp}{u:HO}(r:Rd H a u) (x:HOk P w H h):jK P w H h a u:=by
  rcases r with r | ⟨o,r⟩
  . exact x a u r
  . obtain⟨_,q⟩:=x a _ r
    exact q
def Mut:Option HO->Prop
  | some (.lst _)=>True
  | some (.dK _)=>True
  | some (.dT _)=>True
  | some (.set _ _)=>True
  | some (.ins _ _ _)=>True
  | some (.ext _)=>True
  | _=>False
section
variable {H:Hp}{o':HO}
theorem HOk.write (ok:HOk P w H h) (mu:Mut (H x)) (he:e=x\/H e=some (.own x)) (k:∀ b u,b≠e->h.get? b=some u->h'.get? b=some u) (heo:∃ u,h'.get? e=some u)
    (new:jK P w (upd H x o') h' x o'):HOk P w (upd H x o') h':=fun b u q=>by
  have nown:∀ c y,H c=some (.own y)->c≠x:=fun c y r z=>by subst z;rw[r] at mu;exact mu
  have ntup:∀ c xs,H c=some (.tup xs)->c≠x:=fun c xs r z=>by subst z;rw[r] at mu;exact mu
  by_cases hb:b=x
  . subst hb;rw[qU] at q;cases q;exact new
  . rw[qV hb] at q
    by_cases hbe:b=e
    . have q':H b=some (.own x):=by
        rcases he with z | z
        . exact absurd (hbe.trans z) hb
        . rw[hbe];exact z
      rw[q] at q';cases q';obtain⟨v,hv⟩:=heo;exact⟨v,by rw[hbe];exact hv⟩
    . refine (ok b u q).stay (fun c v hc r=>k c v ?_ r) (fun c r=>by rw[qV (nown c b r)];exact r) fun c xs r=>by rw[qV (ntup c xs r)];exact r
      rcases hc with rfl | hc
      . exact hbe
      . rintro rfl
        rcases he with z | z
        . exact nown c b hc z
        . rw[hc] at z;cases z;exact hb rfl
end
structure Un (fs ex:List Addr) (H H':Hp) (h h':Heap):Prop where
  keep:∀ b o,h.get? b=some o->H b=none->b∉fs->b∉ex->h'.get? b=some o
  slot:∀ b o,h.get? b=some o->H b=none->b∈fs->b∉ex->∃ sl,h'.get? b=some { o with slots:=sl }
  free:∀ b o,h.get? b=some o->H b=none->b∉ex->H' b=none
  there:∀ b o,h.get? b=some o->b∉ex->∃ o',h'.get? b=some o'
  tups:∀ b xs,H b=some (.tup xs)->H' b=some (.tup xs)
  frzs:∀ b o u,H b=some (.frz o u)->H' b=some (.frz o u)
  tbls:∀ b ps,H b=some (.tbl ps)->∃ more,H' b=some (.tbl (ps++more))
section
variable {fs fs' ex ex':List Addr}{H H1 H2:Hp}{h1 h2:Heap}{o:HO}
theorem Un.any (u:Un fs ex H H1 h h1) {ob:Obj}(q:h.get? b=some ob) (n:H b=none) (hx:b∉ex):∃ sl,h1.get? b=some { ob with slots:=sl }:=by
  by_cases hb:b∈fs
  . exact u.slot b ob q n hb hx
  . exact⟨ob.slots,u.keep b ob q n hb hx⟩
theorem Un.kept (k:∀ b u,h.get? b=some u->h'.get? b=some u):Un fs ex H H h h' :=
  ⟨fun b ob q _ _ _=>k b ob q,fun b ob q _ _ _=>⟨ob.slots,k b ob q⟩,fun _ _ _ n _=>n,fun b ob q _=>⟨ob,k b ob q⟩,fun _ _ q=>q,fun _ _ _ q=>q,fun _ ps q=>⟨#[],by rw[q];simp⟩⟩
theorem Un.refl:Un fs ex H H h h:=Un.kept fun _ _ q=>q
theorem Un.laid (k:∀ b u,h.get? b=some u->h'.get? b=some u) (hp:h.objs.size<=a) (hn:H a=none):Un fs ex H (upd H a o) h h' where
  keep:=fun b u q _ _ _=>k b u q
  slot:=fun b u q _ _ _=>⟨u.slots,k b u q⟩
  free:=fun b u q n _=>by rw[qV (qp (qT (ql q) hp))];exact n
  there:=fun b u q _=>⟨u,k b u q⟩
  tups:=fun b xs q=>by rw[qV (qM q hn)];exact q
  frzs:=fun b u xs q=>by rw[qV (qM q hn)];exact q
  tbls:=fun b ps q=>⟨#[],by rw[qV (qM q hn),q];simp⟩
theorem Un.write (mu:Mut (H x)) (he:e=x\/H e=some (.own x)) (k:∀ b u,b≠e->h.get? b=some u->h'.get? b=some u) (heo:∃ u,h'.get? e=some u):Un fs ex H (upd H x o) h h':=by
  have hx:∀ b,H b=none->b≠x:=fun b n z=>by subst z;rw[n] at mu;exact mu
  have hb:∀ b,H b=none->b≠e:=fun b n z=>by
    subst z;rcases he with r | r
    . exact hx b n r
    . rw[n] at r;cases r
  have hm:∀ b u,H b=some u->¬ Mut (some u)->b≠x:=fun b u q nm z=>by subst z;rw[q] at mu;exact nm mu
  refine⟨fun b u q n _ _=>k b u (hb b n) q,fun b u q n _ _=>⟨u.slots,k b u (hb b n) q⟩,fun b u q n _=>by rw[qV (hx b n)];exact n,fun b u q _=>?_,
    fun b xs q=>by rw[qV (hm b _ q fun z=>z)];exact q,fun b u xs q=>by rw[qV (hm b _ q fun z=>z)];exact q,fun b ps q=>⟨#[],by rw[qV (hm b _ q fun z=>z),q];simp⟩⟩
  by_cases hbe:b=e
  . subst hbe;exact heo
  . exact⟨u,k b u hbe q⟩
end
def trk (h:Heap) (H:Hp):List Addr:=(List.range h.objs.size).filter fun a=>(H a).isSome
def qg5 (h:Heap) (H:Hp):Heap:=W.hideAll h (trk h H)
theorem qgl (h:Heap) (H:Hp):(qg5 h H).objs.size=h.objs.size:=W.hideAll_size _ _
theorem qh5 {H:Hp}{o:Obj}(e:h.get? b=some o) (n:H b=none):(qg5 h H).get? b=some o :=
  W.hideAll_get _ e fun hm=>by
    have q:(H b).isSome=true:=(List.mem_filter.mp hm).2;rw[n] at q;simp at q
theorem qkA {H:Hp}{o:Obj}(e:(qg5 h H).get? b=some o):h.get? b=some o/\H b=none:=by
  have e':h.get? b=some o:=W.of_hideAll (trk h H) e;refine⟨e',?_⟩;cases q:H b with
  | none=>rfl
  | some x =>
    have hm:b∈trk h H:=List.mem_filter.mpr ⟨yC.mpr (ql e'),by simp[q]⟩;have z:(qg5 h H).get? b=none:=W.hideAll_none (trk h H) hm;rw[z] at e;cases e
end L2
variable {H H' H1 H2:L2.Hp}{v y:L2.V}{ys vs:List L2.V}
namespace L2
variable {g':Array GenState}{d':Drawn}{pins':List (Addr×Obj)}{Q:Unit->Shared->Prop}
structure Mod (K:W.Frag) (mg:Str->Option Value) (base:Heap):Prop where
  kin:K.In base
  glob:base.Ns mainGlobals mg
  blt:∃ mb,base.Ns builtinsNs mb/\∀ x:Str,x ≠ "__name__" -> mb x=bootBuiltins x
  nolimit:base.NoLimit
structure Cx where
  prog:Program
  w:World
  K:W.Frag
  mg:Str->Option Value
  base:Heap
  A:Around
  N:List Str
  s₀:Shared
  H₀:Hp
  env:Env
  outer:List Env
  stack:List Env
  ex:List Addr
  fn:Str->Bool
  calm:Bool
  pn:List (Addr×Obj)
  xe:Value->Shared->Prop
def frs (l:List Env):List Addr:=l.filterMap (·.frame)
abbrev Cx.fs (X:Cx):List Addr:=frs X.outer
def Vis (sc:Scope) (x:Str):Prop:=sc.names.lookup x=some .local\/sc.names.lookup x=some .cell\/sc.names.lookup x=some .free
def Loc (sc:Scope) (x:Str):Prop:=sc.names.lookup x=some .local\/sc.names.lookup x=some .cell
def Look (env:Env) (h:Heap) (m:Str->Option Value) (x:Str) (u:Value):Prop :=
  (env.kindOf x=some .local/\m x=some u)\/((env.kindOf x=some .cell\/env.kindOf x=some .free)/\∃ c,env.cells.lookup x=some c/\h.IsCell c (some u))
structure Cx.Ok (X:Cx):Prop where
  mod:Mod X.K X.mg X.base
  kind:X.env.scope.kind = .function
  glob:X.env.globals=mainGlobals
  blt:X.env.builtins=builtinsNs
  above:X.s₀.heap.objs.size<=X.env.locals
  inj:∀ x y c,X.env.cells.lookup x=some c->X.env.cells.lookup y=some c->x=y
  has:∀ x,(X.env.kindOf x=some .cell\/X.env.kindOf x=some .free)->∃ c,X.env.cells.lookup x=some c
  cab:∀ x c,X.fn x=true->X.env.cells.lookup x=some c->X.s₀.heap.objs.size<=c
  hd:X.calm=true->X.A.handled=none
  frames:X.A.frames=some X.stack
  stk:X.stack=X.outer\/(X.stack=X.env::X.outer/\X.env.frame=some X.env.locals)
  exf:∀ b∈X.ex,b≠X.env.locals/\∀ x c,X.env.cells.lookup x=some c->c≠b
  bs:∀ b o,X.base.get? b=some o->X.s₀.heap.get? b=some o/\X.H₀ b=none
  bsz:X.base.objs.size<=X.s₀.heap.objs.size
  noex:∀ b o,X.base.get? b=some o->b∉X.ex
  exfs:∀ b∈X.ex,b∉X.fs
  funs:X.s₀.heap.FunFrames X.base X.outer
  frf:∀ b∈X.fs,X.H₀ b=none
structure Inv (X:Cx) (Ob:List (Addr×Obj)) (G:List (Option V)) (H:Hp) (s:Shared):Prop where
  ok:X.Ok
  os:s.os=X.s₀.os
  bare:AllBare s.gens
  base:Un X.fs X.ex X.H₀ H X.s₀.heap s.heap
  loc:∃ m,s.heap.Ns X.env.locals m/\∀ (i:Nat) (x:Str) (v:V),X.N[i]?=some x->G[i]?=some (some v)->Vis X.env.scope x->∃ u,jw v u/\Look X.env s.heap m x u
  cell:∀ x c,X.env.cells.lookup x=some c->∃ v,s.heap.IsCell c v
  free:H X.env.locals=none
  freeC:∀ x c,X.env.cells.lookup x=some c->H c=none
  pin:∀ p∈X.pn++Ob,s.heap.get? p.1=some p.2/\H p.1=none/\p.1≠X.env.locals/\p.1∉X.fs/\∀ v,p.2.data≠.cell v
  hok:HOk X.prog X.w H s.heap
  len:G.length=X.N.length
section
variable {X:Cx}{G:List (Option V)}
theorem Cx.Ok.nofr (ok:X.Ok) {o:Obj}(e:X.base.get? b=some o):b∉X.fs:=fun hb=>by
  have:=(ok.funs.mem hb).1;rw[e] at this;cases this
theorem Inv.bs (I:Inv X Ob G H s):∀ b o,X.base.get? b=some o->s.heap.get? b=some o/\H b=none:=fun b o e =>
  ⟨I.base.keep b o (I.ok.bs b o e).1 (I.ok.bs b o e).2 (I.ok.nofr e) (I.ok.noex b o e),I.base.free b o (I.ok.bs b o e).1 (I.ok.bs b o e).2 (I.ok.noex b o e)⟩
theorem Inv.bk (I:Inv X Ob G H s):∀ b o,X.base.get? b=some o->s.heap.get? b=some o:=fun b o e=>(I.bs b o e).1
theorem Inv.mod (I:Inv X Ob G H s):Mod X.K X.mg X.base:=I.ok.mod
theorem Inv.kIn (I:Inv X Ob G H s):X.K.In s.heap:=I.ok.mod.kin.keeps I.bk
theorem Inv.nolimit (I:Inv X Ob G H s):s.heap.NoLimit:=I.ok.mod.nolimit.keeps I.bk
theorem Inv.lt (I:Inv X Ob G H s):X.env.locals<s.heap.objs.size:=let ⟨_,hn,_⟩:=I.loc;hn.lt
theorem Inv.sz (I:Inv X Ob G H s):X.s₀.heap.objs.size<=s.heap.objs.size:=qt I.ok.above (yn I.lt)
theorem Inv.nofs (I:Inv X Ob G H s) (h:s.heap.objs.size<=a):a∉X.fs:=fun hb=>by
  obtain⟨_,o,ho,_⟩:=I.ok.funs.mem hb;exact absurd (qT (ql ho) (qt I.sz h)) (yz _)
theorem Inv.cne (I:Inv X Ob G H s):∀ x c,X.env.cells.lookup x=some c->c≠X.env.locals:=fun x c e z=>by
  obtain⟨v,o,ho,hd⟩:=I.cell x c e;obtain⟨m,⟨o',es,ep,ho',hd',_⟩,_⟩:=I.loc;rw[z,ho'] at ho;cases ho;rw[hd'] at hd;cases hd
theorem Inv.funs (I:Inv X Ob G H s):s.heap.FunFrames X.base X.outer:=by
  have all:∀ (l:List Env),(∀ b∈frs l,b∈X.fs)->X.s₀.heap.FunFrames X.base l->s.heap.FunFrames X.base l:=by
    intro l;induction l with
    | nil=>intro _ _;trivial
    | cons env r ih =>
      intro hs hl;obtain⟨hk,⟨L,o,hf,hn,ho,hd⟩,hr⟩:=hl;have hL:L∈X.fs:=hs L (by unfold frs;rw[List.filterMap_cons,hf];exact qi);obtain⟨sl,e⟩:=I.base.slot L o ho (I.ok.frf L hL) hL fun z=>I.ok.exfs L z hL;exact⟨hk,⟨L,_,hf,hn,e,hd⟩,ih (fun b hb=>hs b (by unfold frs;rw[List.filterMap_cons,hf];exact qd _ hb)) hr⟩
  exact all X.outer (fun _ hb=>hb) I.ok.funs
theorem Inv.stack (I:Inv X Ob G H s):s.heap.FunFrames X.base X.stack:=by
  rcases I.ok.stk with e | ⟨e,hf⟩
  . rw[e];exact I.funs
  . rw[e]
    obtain⟨m,hn,_⟩:=I.loc;refine .cons (by rw[I.ok.kind];decide) hf hn ?_ I.funs;exact Heap.get?_none_of_le (qt I.ok.bsz I.ok.above)
theorem Inv.stkSub (I:Inv X Ob G H s):∀ b∈frs X.stack,b∈X.env.locals::X.fs:=fun b hb=>by
  rcases I.ok.stk with e | ⟨e,hf⟩
  . rw[e] at hb;exact qd _ hb
  . rw[e] at hb
    unfold frs at hb;rw[List.filterMap_cons,hf] at hb;exact hb
theorem Inv.stkFree (I:Inv X Ob G H s):∀ b∈frs X.stack,H b=none:=fun b hb=>by
  rcases qG.mp (I.stkSub b hb) with e | hb
  . rw[e];exact I.free
  . obtain⟨_,o,ho,_⟩:=I.ok.funs.mem hb
    exact I.base.free b o ho (I.ok.frf b hb) fun z=>I.ok.exfs b z hb
theorem Inv.step (I:Inv X Ob G H s)
    (hch:∀ b∈ch,(b∈X.ex\/X.s₀.heap.objs.size<=b)/\b≠X.env.locals/\(∀ x c,X.env.cells.lookup x=some c->c≠b)/\∀ p∈X.pn++Ob,p.1≠b)
    (keep:∀ b o,b≠X.env.locals->b∉X.fs->b∉ch->s.heap.get? b=some o->H b=none->h'.get? b=some o)
    (slot:∀ b o,b≠X.env.locals->b∈X.fs->b∉ch->s.heap.get? b=some o->H b=none->∃ sl,h'.get? b=some { o with slots:=sl }) (free:∀ b o,b∉ch->s.heap.get? b=some o->H b=none->H' b=none)
    (there:∀ b o,b∉ch->s.heap.get? b=some o->∃ o',h'.get? b=some o')
    (tups:∀ b xs,H b=some (.tup xs)->H' b=some (.tup xs)) (frzs:∀ b o u,H b=some (.frz o u)->H' b=some (.frz o u)) (tbls:∀ b ps,H b=some (.tbl ps)->∃ more,H' b=some (.tbl (ps++more)))
    (ns:∀ m,s.heap.Ns X.env.locals m->h'.Ns X.env.locals m) (hok:HOk X.prog X.w H' h') (hg:AllBare g') :
    Inv X Ob G H' { s with heap:=h',gens:=g',drawn:=d',toks:=t' }:=by
  have neL:∀ b o,X.s₀.heap.get? b=some o->b≠X.env.locals:=fun b o e=>qp (qT (ql e) I.ok.above);have neC:∀ b o,X.s₀.heap.get? b=some o->b∉X.ex->b∉ch:=fun b o e hx hb=>by
    rcases (hch b hb).1 with z | z
    . exact hx z
    . exact absurd (qT (ql e) z) (yz _)
  have cellK:∀ x c,X.env.cells.lookup x=some c->∀ v,s.heap.IsCell c v->h'.IsCell c v:=fun x c e v ⟨o,ho,hd⟩=>by
    have nch:c∉ch:=fun z=>(hch c z).2.2.1 x c e rfl;by_cases hc:c∈X.fs
    . obtain⟨sl,q⟩:=slot c o (I.cne x c e) hc nch ho (I.freeC x c e)
      exact⟨_,q,hd⟩
    . exact⟨o,keep c o (I.cne x c e) hc nch ho (I.freeC x c e),hd⟩
  refine⟨I.ok,I.os,hg,⟨fun b o e n hb hx=>?_,fun b o e n hb hx=>?_,fun b o e n hx=>?_,fun b o e hx=>?_,fun b xs e=>tups b xs (I.base.tups b xs e),fun b o xs e=>frzs b o xs (I.base.frzs b o xs e),fun b ps e=>?_⟩,?_,fun x c e=>?_,?_,fun x c e=>?_,fun p hp=>?_,hok,I.len⟩
  . exact keep b o (neL b o e) hb (neC b o e hx) (I.base.keep b o e n hb hx) (I.base.free b o e n hx)
  . obtain⟨sl,e1⟩:=I.base.slot b o e n hb hx
    obtain⟨sl',e2⟩:=slot b _ (neL b o e) hb (neC b o e hx) e1 (I.base.free b o e n hx);exact⟨sl',e2⟩
  . obtain⟨o',e1⟩:=I.base.there b o e hx
    exact free b o' (neC b o e hx) e1 (I.base.free b o e n hx)
  . obtain⟨o',e1⟩:=I.base.there b o e hx
    exact there b o' (neC b o e hx) e1
  . obtain⟨m1,e1⟩:=I.base.tbls b ps e
    obtain⟨m2,e2⟩:=tbls b _ e1;exact⟨m1++m2,by rw[e2,Array.append_assoc]⟩
  . obtain⟨m,hn,hl⟩:=I.loc
    refine⟨m,ns m hn,fun i x v e1 e2 e3=>?_⟩;obtain⟨u,r,l⟩:=hl i x v e1 e2 e3;refine⟨u,r,?_⟩;rcases l with l | ⟨k,c,e,z⟩
    . exact .inl l
    . exact .inr ⟨k,c,e,cellK x c e _ z⟩
  . obtain⟨v,z⟩:=I.cell x c e
    exact⟨v,cellK x c e v z⟩
  . obtain⟨m,⟨o,_,_,ho,_⟩,_⟩:=I.loc
    exact free _ o (fun z=>(hch _ z).2.1 rfl) ho I.free
  . obtain⟨v,o,ho,hd⟩:=I.cell x c e
    exact free c o (fun z=>(hch c z).2.2.1 x c e rfl) ho (I.freeC x c e)
  . obtain⟨e,n,ne,nf,d⟩:=I.pin p hp
    have nch:p.1∉ch:=fun z=>(hch p.1 z).2.2.2 p hp rfl;exact⟨keep p.1 p.2 ne nf nch e n,free p.1 p.2 nch e n,ne,nf,d⟩
theorem Inv.un (I:Inv X Ob G H s) (u:Un X.fs [] H H' s.heap h') (hok:HOk X.prog X.w H' h'):Inv X Ob G H' { s with heap:=h',toks:=t' }:=by
  obtain⟨m,⟨o,es,ep,ho,r⟩,_⟩:=id I.loc;obtain⟨sl,hL⟩:=u.any ho I.free (by simp);exact I.step (g':=s.gens) (d':=s.drawn) (ch:=[]) (fun _ z=>nomatch z) (fun b o _ hb _ e n=>u.keep b o e n hb (by simp)) (fun b o _ hb _ e n=>u.slot b o e n hb (by simp)) (fun b o _ e n=>u.free b o e n (by simp)) (fun b o _ e=>u.there b o e (by simp)) u.tups u.frzs u.tbls (fun m' hm=>by
    obtain⟨o',es',ep',ho',r'⟩:=hm;rw[ho] at ho';cases ho';exact⟨_,es',ep',hL,r'⟩) hok I.bare
theorem Inv.call (I:Inv X Ob G H s) (u:Un (frs X.stack) ch H H' s.heap h') (hok:HOk X.prog X.w H' h') (hg:AllBare g')
    (hch:∀ b∈ch,(b∈X.ex\/X.s₀.heap.objs.size<=b)/\b≠X.env.locals/\(∀ x c,X.env.cells.lookup x=some c->c≠b)/\∀ p∈X.pn++Ob,p.1≠b) :
    Inv X Ob G H' { s with heap:=h',gens:=g',drawn:=d',toks:=t' }:=by
  obtain⟨m,⟨o,es,ep,ho,r⟩,_⟩:=id I.loc;obtain⟨sl,hL⟩:=u.any ho I.free fun z=>(hch _ z).2.1 rfl;exact I.step (ch:=ch) hch (fun b o hL hb hc e n=>u.keep b o e n (fun z=>(qG.mp (I.stkSub b z)).elim hL hb) hc) (fun b o _ _ hc e n=>u.any e n hc) (fun b o hc e n=>u.free b o e n hc) (fun b o hc e=>u.there b o e hc) u.tups u.frzs u.tbls (fun m' hm=>by
    obtain⟨o',es',ep',ho',r'⟩:=hm;rw[ho] at ho';cases ho';exact⟨_,es',ep',hL,r'⟩) hok hg
theorem Inv.turned (I:Inv X Ob G H s) (k:∀ b o,b≠it->s.heap.get? b=some o->h'.get? b=some o) (hn:H it=none) (hL:it≠X.env.locals)
    (h1:it∈X.ex\/X.s₀.heap.objs.size<=it) (h2:∀ x c,X.env.cells.lookup x=some c->c≠it) (h3:∀ p∈X.pn++Ob,p.1≠it):Inv X Ob G H { s with heap:=h',toks:=t' }:=by
  have nit:∀ b u,H b=some u->b≠it:=fun b u e z=>by rw[z,hn] at e;cases e
  refine I.step (g':=s.gens) (d':=s.drawn) (ch:=[it]) (fun b hb=>?_) (fun b o _ _ hc e _=>k b o (fun z=>hc (by simp[z])) e) (fun b o _ _ hc e _=>⟨o.slots,k b o (fun z=>hc (by simp[z])) e⟩) (fun _ _ _ _ n=>n)
    (fun b o hc e=>⟨o,k b o (fun z=>hc (by simp[z])) e⟩) (fun _ _ e=>e) (fun _ _ _ e=>e) (fun b ps e=>⟨#[],by rw[e];simp⟩) (fun m hm=>?_) (fun b u e=>?_) I.bare
  . have e:b=it:=by simpa using hb
    subst e;exact⟨h1,hL,h2,h3⟩
  . obtain⟨o,es,ep,ho,r⟩:=hm
    exact⟨o,es,ep,k _ o (Ne.symm hL) ho,r⟩
  . refine (I.hok b u e).stay (fun c v hc q=>k c v ?_ q) (fun _ q=>q) fun _ _ q=>q
    rcases hc with z | z
    . rw[z];exact nit b u e
    . exact nit c _ z
theorem Inv.tok (I:Inv X Ob G H s) (t:Nat):Inv X Ob G H { s with toks:=t }:=I.un (h':=s.heap) (t':=t) Un.refl I.hok
theorem Inv.kept (I:Inv X Ob G H s) (k:∀ b u,s.heap.get? b=some u->h'.get? b=some u):Inv X Ob G H { s with heap:=h',toks:=t' }:=I.un (Un.kept k) (I.hok.kept k)
theorem Inv.laid {o:HO}(I:Inv X Ob G H s) (k:∀ b u,s.heap.get? b=some u->h'.get? b=some u) (hp:s.heap.objs.size<=a) (new:jK X.prog X.w (upd H a o) h' a o) :
    Inv X Ob G (upd H a o) { s with heap:=h',toks:=t' }:=I.un (Un.laid k hp (I.hok.fresh hp)) (I.hok.laid k hp new)
theorem Inv.write {x e:Addr}{o:HO}(I:Inv X Ob G H s) (mu:Mut (H x)) (he:e=x\/H e=some (.own x)) (k:∀ b u,b≠e->s.heap.get? b=some u->h'.get? b=some u) (heo:∃ u,h'.get? e=some u)
    (new:jK X.prog X.w (upd H x o) h' x o):Inv X Ob G (upd H x o) { s with heap:=h',toks:=t' }:=I.un (Un.write mu he k heo) (I.hok.write mu he k heo new)
theorem Inv.weak {G':List (Option V)}(I:Inv X Ob G H s) (hl:G'.length=G.length) (w:∀ (i:Nat) v,G'[i]?=some (some v)->G[i]?=some (some v)):Inv X Ob G' H s :=
  ⟨I.ok,I.os,I.bare,I.base,let ⟨m,hn,hl'⟩:=I.loc;⟨m,hn,fun i x v e1 e2 e3=>hl' i x v e1 (w i v e2) e3⟩,I.cell,I.free,I.freeC,I.pin,I.hok,hl.trans I.len⟩
theorem Inv.pins_of (I:Inv X Ob G H s) (h:∀ p∈pins',s.heap.get? p.1=some p.2/\H p.1=none/\p.1≠X.env.locals/\p.1∉X.fs/\∀ v,p.2.data≠.cell v):Inv X pins' G H s :=
  ⟨I.ok,I.os,I.bare,I.base,I.loc,I.cell,I.free,I.freeC,fun p hp=>(qB.mp hp).elim (fun z=>I.pin p (qS _ z)) (h p),I.hok,I.len⟩
theorem qaY (hN:N.Nodup) (a:N[i]?=some x) (b:N[j]?=some x):i=j:=by
  obtain⟨h1,e1⟩:=qm.mp a;obtain⟨h2,e2⟩:=qm.mp b;exact (List.getElem_inj hN).mp (e1.trans e2.symm)
abbrev FnL (X:Cx) (x:Str):Prop:=X.fn x=true\/X.env.scope.names.lookup x=some .local
theorem qbB (I:Inv X Ob G H s) (hN:X.N.Nodup) (hi:X.N[i]?=some x) (hx:Loc X.env.scope x) (r:jw v u)
    (h:∀ s',Inv X Ob (G.set i (some v)) H s'->(∃ a,Heap.SameBut a s.heap s'.heap/\(a=X.env.locals\/X.env.cells.lookup x=some a))->Q () s') (hf:FnL X x:=by trivial):wpAny M A (storeName X.env x u) Q E s:=by
  obtain⟨m,hn,hl⟩:=id I.loc;have hcls:(X.env.scope.kind == .class || (X.env.scope.kind == .module && X.env.locals != X.env.globals))=false:=by rw[I.ok.kind];rfl
  have hiU:i<G.length:=by rw[I.len];exact (qm.mp hi).1
  have cne:=I.cne;have tracked:∀ {a:Addr}{h':Heap},(∃ o,s.heap.get? a=some o/\H a=none)->Heap.SameBut a s.heap h'->HOk X.prog X.w H h':=fun {a h'} ha hs b ob e=>by
    obtain⟨_,_,hfree⟩:=ha;refine (I.hok b ob e).stay (fun c w' hc q=>(hs.2 c ?_).trans q) (fun _ q=>q) fun _ _ q=>q;rintro rfl;rcases hc with rfl | hc
    . rw[hfree] at e;cases e
    . rw[hfree] at hc;cases hc
  rcases hx with hk | hk
  . refine wpAny_storeName_local hk hn (fun h' hn' hs=>?_) hcls
    obtain⟨oL,_,_,hoL,_⟩:=id hn;refine h _ ⟨I.ok,I.os,I.bare,⟨fun b o e n hb hx=>?_,fun b o e n hb hx=>?_,I.base.free,fun b o e hx=>?_,I.base.tups,I.base.frzs,I.base.tbls⟩,⟨_,hn',fun j y v' e1 e2 e3=>?_⟩,fun y c e=>?_,I.free,I.freeC,fun p hp=>?_,tracked ⟨oL,hoL,I.free⟩ hs,by simpa using I.len⟩ ⟨_,hs,.inl rfl⟩
    . exact (hs.2 b (qp (qT (ql e) I.ok.above))).trans (I.base.keep b o e n hb hx)
    . obtain⟨sl,e1⟩:=I.base.slot b o e n hb hx
      exact⟨sl,(hs.2 b (qp (qT (ql e) I.ok.above))).trans e1⟩
    . obtain⟨o',e1⟩:=I.base.there b o e hx
      exact⟨o',(hs.2 b (qp (qT (ql e) I.ok.above))).trans e1⟩
    . by_cases hj:j=i
      . subst hj
        rw[hi] at e1;cases e1;rw[List.getElem?_set_self hiU] at e2;cases e2
        exact⟨u,r,.inl ⟨hk,by simp⟩⟩
      . rw[yI (Ne.symm hj)] at e2
        obtain⟨u',r',q⟩:=hl j y v' e1 e2 e3;refine⟨u',r',?_⟩;rcases q with⟨k,e⟩ | ⟨k,c,e,z⟩
        . refine .inl ⟨k,?_⟩
          have:y≠x:=fun e=>hj (qaY hN e1 (e ▸ hi));simp[this,e]
        . exact .inr ⟨k,c,e,z.sameBut hs (cne y c e)⟩
    . obtain⟨w',z⟩:=I.cell y c e
      exact⟨w',z.sameBut hs (cne y c e)⟩
    . obtain⟨e,n,ne,nf,d⟩:=I.pin p hp
      exact⟨(hs.2 p.1 ne).trans e,n,ne,nf,d⟩
  . have hfn:X.fn x=true:=by
      rcases hf with z | z
      . exact z
      . rw[z] at hk;cases hk
    obtain⟨c,hc⟩:=I.ok.has x (.inl hk);obtain⟨w',z⟩:=I.cell x c hc;refine wpAny_storeName_cell I.ok.kind hk hc z (fun h' hc' hs=>?_);obtain⟨oc,hoc,hocd⟩:=id z;refine h { s with heap:=h' } ⟨I.ok,I.os,I.bare,⟨fun b o e n hb hx=>?_,fun b o e n hb hx=>?_,I.base.free,fun b o e hx=>?_,I.base.tups,I.base.frzs,I.base.tbls⟩,⟨m,hn.sameBut hs (Ne.symm (cne x c hc)),fun j y v' e1 e2 e3=>?_⟩,fun y c' e=>?_,I.free,I.freeC,fun p hp=>?_,tracked ⟨oc,hoc,I.freeC x c hc⟩ hs,by simpa using I.len⟩ ⟨c,hs,.inr hc⟩
    . exact (hs.2 b (qp (qT (ql e) (I.ok.cab x c hfn hc)))).trans (I.base.keep b o e n hb hx)
    . obtain⟨sl,e1⟩:=I.base.slot b o e n hb hx
      exact⟨sl,(hs.2 b (qp (qT (ql e) (I.ok.cab x c hfn hc)))).trans e1⟩
    . obtain⟨o',e1⟩:=I.base.there b o e hx
      exact⟨o',(hs.2 b (qp (qT (ql e) (I.ok.cab x c hfn hc)))).trans e1⟩
    . by_cases hj:j=i
      . subst hj
        rw[hi] at e1;cases e1;rw[List.getElem?_set_self hiU] at e2;cases e2
        exact⟨u,r,.inr ⟨.inl hk,c,hc,hc'⟩⟩
      . rw[yI (Ne.symm hj)] at e2
        obtain⟨u',r',q⟩:=hl j y v' e1 e2 e3;refine⟨u',r',?_⟩;rcases q with q | ⟨k,c',e,z'⟩
        . exact .inl q
        . refine .inr ⟨k,c',e,z'.sameBut hs ?_⟩
          rintro rfl;exact hj (qaY hN e1 (I.ok.inj _ _ _ e hc ▸ hi))
    . by_cases hcc:c'=c
      . subst hcc;exact⟨_,hc'⟩
      . obtain⟨w2,z2⟩:=I.cell y c' e
        exact⟨w2,z2.sameBut hs hcc⟩
    . obtain⟨e,n,ne,nf,d⟩:=I.pin p hp
      refine⟨(hs.2 p.1 ?_).trans e,n,ne,nf,d⟩;intro q;rw[q,hoc] at e;have q':oc=p.2:=Option.some.inj e;exact d w' (by rw[<- q'];exact hocd)
theorem YR (I:Inv X Ob G H s) (hN:X.N.Nodup) (hi:X.N[i]?=some x) (hx:Loc X.env.scope x) (r:jw v u)
    (h:∀ s',Inv X Ob (G.set i (some v)) H s'->Q () s') (hf:FnL X x:=by trivial):wpAny M A (storeName X.env x u) Q E s :=
  qbB I hN hi hx r (fun s' I' _=>h s' I') hf
theorem Inv.call' (I:Inv X Ob G H s) (ho:s'.os=s.os) (u:Un (frs X.stack) ch H H' s.heap s'.heap) (hok:HOk X.prog X.w H' s'.heap) (hg:AllBare s'.gens)
    (hch:∀ b∈ch,(b∈X.ex\/X.s₀.heap.objs.size<=b)/\b≠X.env.locals/\(∀ x c,X.env.cells.lookup x=some c->c≠b)/\∀ p∈X.pn++Ob,p.1≠b):Inv X Ob G H' s':=by
  obtain⟨h',g',d',t',o'⟩:=s';have e:o'=s.os:=ho;subst e;exact I.call (g':=g') (t':=t') (d':=d') u hok hg hch
end
abbrev XK:=Value->Option Addr->Hp->Prop
abbrev St:=List (Option V)
abbrev VK:=V->Hp->Prop
abbrev TE:=St->Hp->VK->Prop
abbrev TT:=St->Hp->(Bool->Hp->Prop)->Prop
abbrev TA:=St->Hp->(List V->Hp->Prop)->Prop
structure Ends where
  nx:St->Hp->Prop
  rt:VK
  bk:St->Hp->Prop:=fun _ _=>False
  ct:St->Hp->Prop:=fun _ _=>False
abbrev TS:=Ends->St->Hp->Prop
def EP (X:Cx) (Ob:List (Addr×Obj)) (G:St) (Q:VK) (u:Value) (s':Shared):Prop:=∃ v H',Inv X Ob G H' s'/\jw v u/\Q v H'
def TP (X:Cx) (Ob:List (Addr×Obj)) (G:St) (Q:Bool->Hp->Prop) (b:Bool) (s':Shared):Prop:=∃ H',Inv X Ob G H' s'/\Q b H'
def AP (X:Cx) (Ob:List (Addr×Obj)) (G:St) (Q:List V->Hp->Prop) (us:List Value) (s':Shared):Prop:=∃ vs H',Inv X Ob G H' s'/\yN vs us/\Q vs H'
def SP (X:Cx) (Ob:List (Addr×Obj)) (D:Ends) (f:Flow) (s':Shared):Prop :=
  match f with
  | .next=>∃ G' H',Inv X Ob G' H' s'/\D.nx G' H'
  | .brk=>∃ G' H',Inv X Ob G' H' s'/\D.bk G' H'
  | .cont=>∃ G' H',Inv X Ob G' H' s'/\D.ct G' H'
  | .ret u=>∃ v G' H',Inv X Ob G' H' s'/\jw v u/\D.rt v H'
def PE (X:Cx) (e:Expr) (t:TE):Prop :=
  ∀ Ob s G H (Q:VK),Inv X Ob G H s->t G H Q->wpAny (model X.prog X.w) X.A (eval e X.env) (EP X Ob G Q) X.xe s
def PT (X:Cx) (e:Expr) (t:TT):Prop :=
  ∀ Ob s G H (Q:Bool->Hp->Prop),Inv X Ob G H s->t G H Q->wpAny (model X.prog X.w) X.A (isTrue e X.env (eval e X.env)) (TP X Ob G Q) X.xe s
def PW (X:Cx) (e:Expr) (t:TT):Prop :=
  ∀ (whole:Sem Value) Ob s G H (Q:Bool->Hp->Prop),Inv X Ob G H s->t G H Q->wpAny (model X.prog X.w) X.A (isTrue e X.env whole) (TP X Ob G Q) X.xe s
theorem PW.pt {X:Cx}{t:TT}(h:PW X e t):PT X e t:=h _
def PA (X:Cx) (es:List Expr) (t:TA):Prop :=
  ∀ (pos:Pos) Ob s G H (Q:List V->Hp->Prop),Inv X Ob G H s->t G H Q->wpAny (model X.prog X.w) X.A (spliced (backTo pos (starEach es X.env))) (AP X Ob G Q) X.xe s
def PS (X:Cx) (st:Stmt) (t:TS):Prop :=
  ∀ Ob s G H (D:Ends),Inv X Ob G H s->t D G H->wpAny (model X.prog X.w) X.A (exec st X.env) (SP X Ob D) X.xe s
def PSs (X:Cx) (st:List Stmt) (t:TS):Prop :=
  ∀ Ob s G H (D:Ends),Inv X Ob G H s->t D G H->wpAny (model X.prog X.w) X.A (execs st X.env) (SP X Ob D) X.xe s
theorem thn {t:Sem α}{Q Q':α->Shared->Prop}(h:wpAny M A t Q E s) (hQ:∀ a s,Q a s->Q' a s):wpAny M A t Q' E s:=qP h hQ fun _ _ x=>x
end L2
variable {X:L2.Cx}{G:L2.St}{Q:L2.VK}{t:L2.TA}{ta tl:L2.TE}
namespace L2
variable {Q:Value->Shared->Prop}
section
def tVar (i:Nat):TE:=fun G H Q=>∃ v,G[i]?=some (some v)/\Q v H
def tC (v:V):TE:=fun _ H Q=>Q v H
theorem qde (hN:X.N[i]?=some x) (hv:Vis X.env.scope x) (hd:(x == ("__debug__" : Str))=false:=by decide) (hcd:(x == ("__classdict__" : Str))=false:=by decide):PE X (.Name x pos) (tVar i):=by
  intro Ob s G H Q I h;obtain⟨v,e,h⟩:=h;obtain⟨m,hn,hl⟩:=I.loc;obtain⟨u,r,l⟩:=hl i x v hN e hv;have fin:EP X Ob G Q u s:=⟨v,H,I,r,h⟩;rcases l with⟨hk,hm⟩ | ⟨hk,c,hc,hcell⟩
  . exact wpAny_Name (wpAny_loadName_local I.ok.kind hk hn hm fin) hd
  . rcases hk with hk | hk
    . exact wpAny_Name (wpAny_loadName_cell I.ok.kind hk hc hcell fin) hd
    . exact wpAny_Name (wpAny_loadName_free I.ok.kind hk hc hcell fin hcd) hd
theorem Jr {i j pos}:PE X (.Constant (.int i) j pos) (tC (.int i)):=fun _ _ _ H _ I h=>wpAny_Constant_int ⟨.int i,H,I.tok _,⟨_,rfl⟩,h⟩
theorem pe_bl {b j pos}:PE X (.Constant (.bool b) j pos) (tC (.bl b)):=fun _ _ _ H _ I h=>Constant_bool ⟨.bl b,H,I,rfl,h⟩
theorem qft {j pos}:PE X (.Constant .none j pos) (tC .non):=fun _ _ _ H _ I h=>Constant_none ⟨.non,H,I,rfl,h⟩
theorem Z6 {x j pos}:PE X (.Constant (.str x) j pos) (tC (.str x)):=fun _ _ _ H _ I h=>Calls.Constant_str ⟨.str x,H,I.tok _,⟨_,rfl⟩,h⟩
def Gl (X:Cx) (x:Str):Prop:=X.env.kindOf x=some .globalImplicit
theorem Zj (I:Inv X Ob G H s) (hg:Gl X x) (hm:X.mg x=some u) (h:Q u s)
    (hd:(x == ("__debug__" : Str))=false:=by decide):wpAny (model X.prog X.w) X.A (eval (.Name x pos) X.env) Q E s :=
  Calls.Name_function_global I.ok.kind hg (Calls.loadGlobal_global (by rw[I.ok.glob];exact I.mod.glob.keeps I.bk) hm h) hd
theorem qad (I:Inv X Ob G H s) (hg:Gl X x) (hm:X.mg x=none) (hv:bootBuiltins x=some u) (h:Q u s)
    (hn:x ≠ "__name__" := by decide) (hd:(x == ("__debug__" : Str))=false:=by decide):wpAny (model X.prog X.w) X.A (eval (.Name x pos) X.env) Q E s:=by
  obtain⟨mb,h1,h2⟩:=I.mod.blt;exact Calls.Name_function_global I.ok.kind hg (Calls.loadGlobal_builtin (by rw[I.ok.glob];exact I.mod.glob.keeps I.bk) hm (by rw[I.ok.blt];exact h1.keeps I.bk) ((h2 x hn).trans hv) h) hd
theorem JW (hg:Gl X x) (hm:X.mg x=some u) (r:jw v u) (hd:(x == ("__debug__" : Str))=false:=by decide):PE X (.Name x pos) (tC v) :=
  fun _ _ _ H _ I h=>Zj I hg hm ⟨v,H,I,r,h⟩ hd
theorem qfy (hg:Gl X x) (hm:X.mg x=none) (hv:bootBuiltins x=some u) (r:jw v u) (hn:x ≠ "__name__" := by decide) (hd:(x == ("__debug__" : Str))=false:=by decide):PE X (.Name x pos) (tC v) :=
  fun _ _ _ H _ I h=>qad I hg hm hv ⟨v,H,I,r,h⟩ hn hd
variable {a b:Expr}{tb:TE}
def tB (t:TE):TT:=fun G H Q=>t G H fun x H1=>∃ c,x = .bl c/\Q c H1
theorem qi2 {t:TE}(h:PE X e t) (he:∀ whole,isTrue e X.env whole=(do let v <- whole;standAt e.pos;holding [v] (truthy v)):=by intro _;rfl):PT X e (tB t):=by
  intro Ob s G H Q I hw;refine isTrue_plain (thn (h Ob s G H _ I hw) fun v s1 ⟨x,H1,I1,r1,q1⟩=>?_) (he _);obtain⟨d,rfl,q⟩:=q1;cases r1
  exact wpAny_truthy_bool ⟨H1,I1,q⟩
variable {tA tB':TT}{rest:List Expr}
def tAnd (t u:TT):TT:=fun G H Q=>t G H fun c H1=>if c=true then u G H1 Q else Q false H1
def tOr (t u:TT):TT:=fun G H Q=>t G H fun c H1=>if c=true then Q true H1 else u G H1 Q
def tNot (t:TT):TT:=fun G H Q=>t G H fun c H1=>Q (!c) H1
theorem qj0 (ha:PT X a tA):PW X (.BoolOp .And [a] pos) tA:=by
  intro wh Ob s G H Q I h;refine isTrue_and (thn (ha Ob s G H Q I h) fun c s1 e=>?_);cases c with
  | true=>exact isTrue_and_nil e
  | false=>exact e
theorem qmo (ha:PT X a tA):PW X (.BoolOp .Or [a] pos) tA:=by
  intro wh Ob s G H Q I h;refine isTrue_or (thn (ha Ob s G H Q I h) fun c s1 e=>?_);cases c with
  | false=>exact isTrue_or_nil e
  | true=>exact e
theorem qmp (ha:PT X a tA) (hb:PW X (.BoolOp .And (b::rest) pos) tB'):PW X (.BoolOp .And (a::b::rest) pos) (tAnd tA tB'):=by
  intro wh Ob s G H Q I h;refine isTrue_and (thn (ha Ob s G H _ I h) fun c s1 ⟨H1,I1,q1⟩=>?_);cases c with
  | true=>exact hb wh Ob s1 G H1 Q I1 q1
  | false=>exact⟨H1,I1,q1⟩
theorem pw_or (ha:PT X a tA) (hb:PW X (.BoolOp .Or (b::rest) pos) tB'):PW X (.BoolOp .Or (a::b::rest) pos) (tOr tA tB'):=by
  intro wh Ob s G H Q I h;refine isTrue_or (thn (ha Ob s G H _ I h) fun c s1 ⟨H1,I1,q1⟩=>?_);cases c with
  | true=>exact⟨H1,I1,q1⟩
  | false=>exact hb wh Ob s1 G H1 Q I1 q1
theorem qmr (ha:PT X a tA):PT X (.UnaryOp .Not a pos) (tNot tA):=by
  intro Ob s G H Q I h;exact isTrue_not (ha Ob s G H (fun c H1=>Q (!c) H1) I h)
def tAndV (ta tb:TE):TE:=fun G H Q=>ta G H fun x H1=>∃ c,x = .bl c/\if c=true then tb G H1 Q else Q (.bl false) H1
def tNotV (ta:TE):TE:=fun G H Q=>ta G H fun x H1=>∃ c,x = .bl c/\Q (.bl (!c)) H1
theorem qi5 {op} {t:TE}(h:PE X a t):PE X (.BoolOp op [a] pos) t:=fun Ob s G H Q I hw=>BoolOp_one (h Ob s G H Q I hw)
theorem qfz (ha:PE X a ta) (hb:PE X (.BoolOp .And (b::rest) pos) tb):PE X (.BoolOp .And (a::b::rest) pos) (tAndV ta tb):=by
  intro Ob s G H Q I h;refine BoolOp_and (thn (ha Ob s G H _ I h) fun v s1 ⟨x,H1,I1,r1,q1⟩=>?_);obtain⟨c,rfl,q1⟩:=q1;cases r1
  refine wpAny_truthy_bool ?_;cases c with
  | true=>exact hb Ob s1 G H1 Q I1 q1
  | false=>exact⟨.bl false,H1,I1,rfl,q1⟩
theorem qmB (ha:PE X a ta):PE X (.UnaryOp .Not a pos) (tNotV ta):=by
  intro Ob s G H Q I h;refine UnaryOp_ (thn (ha Ob s G H _ I h) fun v s1 ⟨x,H1,I1,r1,q1⟩=>?_);obtain⟨c,rfl,q1⟩:=q1;cases r1
  exact not_of (wpAny_truthy_bool ⟨.bl (!c),H1,I1,rfl,q1⟩)
def tIf (t:TT) (ta tb:TE):TE:=fun G H Q=>t G H fun c H1=>if c=true then ta G H1 Q else tb G H1 Q
theorem qdf (hc:PT X c tA) (ha:PE X a ta) (hb:PE X b tb):PE X (.IfExp c a b pos) (tIf tA ta tb):=by
  intro Ob s G H Q I h;refine wpAny_IfExp (thn (hc Ob s G H _ I h) fun d s1 ⟨H1,I1,q1⟩=>?_);cases d with
  | true=>exact ha Ob s1 G H1 Q I1 q1
  | false=>exact hb Ob s1 G H1 Q I1 q1
end
end L2
namespace L2
variable {te:TE}{tc:TT}
def SqL (K:W.Frag) (H:Hp) (a:Addr) (xs:List V):Prop :=
  Rd H a (.lst xs) ∨
    ∃ (o:Obj) (its:Array Value) (n:Nat),K.lookup a=some o/\o.cls = .type "list" /\ o.dict=none/\o.data = .seq its n/\its.size<=sizeLine/\yN xs its.toList
def SqT (K:W.Frag) (H:Hp) (a:Addr) (xs:List V):Prop :=
  Rd H a (.tup xs) ∨
    ∃ (o:Obj) (its:Array Value) (n:Nat),K.lookup a=some o/\o.cls = .type "tuple" /\ o.data = .seq its n/\its.size<=sizeLine/\yN xs its.toList
def absV:Value->Option V
  | .none=>some .non
  | .bool b=>some (.bl b)
  | .int i _=>some (.int i)
  | .str x _=>some (.str x)
  | .bytes b _=>some (.byt b)
  | .float b _=>some (.flt b)
  | .ref a=>some (.ref a)
  | .type n=>some (.ty n)
  | _=>none
theorem jw.abs {x:V}(r:jw x u):absV u=some x:=by
  cases x with
  | non=>cases r;rfl
  | bl _=>cases r;rfl
  | int _=>obtain⟨t,rfl⟩:=r;rfl
  | str _=>obtain⟨t,rfl⟩:=r;rfl
  | byt _=>obtain⟨t,rfl⟩:=r;rfl
  | flt _=>obtain⟨t,rfl⟩:=r;rfl
  | ref _=>cases r;rfl
  | ty _=>cases r;rfl
theorem jw.inj {x:V}(r:jw x u) (q:jw y u):x=y:=Option.some.inj (r.abs.symm.trans q.abs)
theorem yN.inj:∀ {xs ys:List V}{us:List Value},yN xs us->yN ys us->xs=ys
  | _,_,_,.nil,.nil=>rfl
  | _,_,_,.cons r t,.cons r' t'=>by rw[r.inj r',yN.inj t t']
section
variable {xs:List V}
theorem SqL.of (h:H a=some (.lst xs)):SqL K H a xs:=.inl (.inl h)
theorem SqT.of (h:H a=some (.tup xs)):SqT K H a xs:=.inl (.inl h)
theorem Inv.list (I:Inv X Ob G H s) (h:SqL X.K H a xs):∃ its:List Value,yN xs its/\PlainL s.heap a its.toArray/\xs.length<=sizeLine:=by
  rcases h with h | ⟨o,its,n,hk,hc,hd,hs,hz,r⟩
  . obtain⟨z,its,n,r,e⟩:=h.ok I.hok
    exact⟨its,r,⟨_,n,e,rfl,rfl,rfl⟩,z⟩
  . refine⟨its.toList,r,⟨o,n,I.kIn a o hk,hc,hd,by simpa using hs⟩,?_⟩
    have e:=r.length;simp only[qD] at e;omega
theorem Inv.tuple (I:Inv X Ob G H s) (h:SqT X.K H a xs):∃ its:List Value,yN xs its/\IsTup s.heap a its.toArray/\xs.length<=sizeLine:=by
  rcases h with h | ⟨o,its,n,hk,hc,hs,hz,r⟩
  . obtain⟨z,its,r,p⟩:=h.ok I.hok
    exact⟨its,r,p,z⟩
  . refine⟨its.toList,r,⟨o,I.kIn a o hk,hc,n,by simpa using hs⟩,?_⟩
    have e:=r.length;simp only[qD] at e;omega
theorem Inv.list_inj (I:Inv X Ob G H s) (h:SqL X.K H a xs) (h':SqL X.K H a ys):xs=ys:=by
  obtain⟨its,r,⟨o,n,e,_,_,d⟩,_⟩:=I.list h;obtain⟨its',r',⟨o',n',e',_,_,d'⟩,_⟩:=I.list h';rw[e] at e';cases e';rw[d] at d';injection d' with d1 _
  have:its=its':=by simpa using congrArg Array.toList d1
  subst this;exact r.inj r'
end
abbrev Cx.wish (X:Cx) (E:Value->Shared->Prop):Cx:={ X with xe:=E }
abbrev Cx.nox (X:Cx):Cx:=X.wish fun _ _=>False
theorem Cx.Ok.wish (ok:X.Ok) (E:Value->Shared->Prop):(X.wish E).Ok :=
  ⟨ok.mod,ok.kind,ok.glob,ok.blt,ok.above,ok.inj,ok.has,ok.cab,ok.hd,ok.frames,ok.stk,ok.exf,ok.bs,ok.bsz,ok.noex,ok.exfs,ok.funs,ok.frf⟩
theorem Cx.Ok.unwish (ok:(X.wish E).Ok):X.Ok :=
  ⟨ok.mod,ok.kind,ok.glob,ok.blt,ok.above,ok.inj,ok.has,ok.cab,ok.hd,ok.frames,ok.stk,ok.exf,ok.bs,ok.bsz,ok.noex,ok.exfs,ok.funs,ok.frf⟩
theorem Inv.wish (I:Inv X Ob G H s) (E:Value->Shared->Prop):Inv (X.wish E) Ob G H s:=⟨I.ok.wish E,I.os,I.bare,I.base,I.loc,I.cell,I.free,I.freeC,I.pin,I.hok,I.len⟩
theorem Inv.unwish (I:Inv (X.wish E) Ob G H s):Inv X Ob G H s:=⟨I.ok.unwish,I.os,I.bare,I.base,I.loc,I.cell,I.free,I.freeC,I.pin,I.hok,I.len⟩
theorem SP.unwish {D:Ends}{f:Flow}(h:SP (X.wish E) Ob D f s'):SP X Ob D f s':=by
  cases f with
  | next=>obtain⟨G',H',I,q⟩:=h;exact⟨G',H',I.unwish,q⟩
  | brk=>obtain⟨G',H',I,q⟩:=h;exact⟨G',H',I.unwish,q⟩
  | cont=>obtain⟨G',H',I,q⟩:=h;exact⟨G',H',I.unwish,q⟩
  | ret u=>obtain⟨v,G',H',I,r,q⟩:=h;exact⟨v,G',H',I.unwish,r,q⟩
theorem PSs.nox {st:List Stmt}{t:TS}(h:PSs X.nox st t):PSs X st t:=fun Ob s G H D I hw =>
  qP (h Ob s G H D (I.wish _) hw) (fun _ _ q=>q.unwish) fun _ _ z=>False.elim z
section
variable {st:Stmt}{rest:List Stmt}{t u:TS}
def tNext:TS:=fun D G H=>D.nx G H
def tSeq (t u:TS):TS:=fun D G H=>t { D with nx:=u D } G H
theorem qcp:PSs X [] tNext:=fun _ _ G H _ I h=>wpAny_execs_nil ⟨G,H,I,h⟩
theorem jQ (h1:PS X st t) (h2:PSs X rest u):PSs X (st::rest) (tSeq t u):=by
  intro Ob s G H D I h;refine wpAny_execs_cons (thn (h1 Ob s G H { D with nx:=u D } I h) fun f s1 q=>?_);cases f with
  | next =>
    obtain⟨G',H',I',q⟩:=q;exact h2 Ob s1 G' H' D I' q
  | ret v=>exact q
  | brk=>exact q
  | cont=>exact q
theorem jH (h1:PS X st t):PSs X [st] t:=by
  intro Ob s G H D I h;refine wpAny_execs_cons (thn (h1 Ob s G H D I h) fun f s1 q=>?_);cases f with
  | next=>exact wpAny_execs_nil q
  | ret v=>exact q
  | brk=>exact q
  | cont=>exact q
theorem Inv.quiet (I:Inv X Ob G H s):interactive X.env=false:=by simp[interactive,I.ok.kind]
def tDrop (te:TE):TS:=fun D G H=>te G H fun _ H1=>D.nx G H1
theorem qj3 (he:PE X e te) (hs:swapsWith e none pos.line X.env=pure false:=by rfl):PS X (.Expr e pos) (tDrop te):=by
  intro Ob s G H D I h;exact wpAny_Expr_any (thn (he Ob s G H _ I h) fun v s1 ⟨x,H1,I1,r1,q1⟩=>⟨G,H1,I1,q1⟩) I.quiet hs
def tRet (te:TE):TS:=fun D G H=>te G H D.rt
theorem Zx (he:PE X e te):PS X (.Return (some e) pos) (tRet te):=by
  intro Ob s G H D I h;exact wpAny_Return_some (thn (he Ob s G H _ I h) fun v s1 ⟨x,H1,I1,r1,q1⟩=>⟨x,G,H1,I1,r1,q1⟩)
def tIfS (c:TT) (t u:TS):TS:=fun D G H=>c G H fun b H1=>if b=true then t D G H1 else u D G H1
theorem qfi {a b:List Stmt}(hc:PT X c tc) (ha:PSs X a t) (hb:PSs X b u):PS X (.If c a b pos) (tIfS tc t u):=by
  intro Ob s G H D I h;refine wpAny_If (thn (hc Ob s G H _ I h) fun d s1 ⟨H1,I1,q1⟩=>?_);cases d with
  | true=>exact ha Ob s1 G H1 D I1 q1
  | false=>exact hb Ob s1 G H1 D I1 q1
def qiB:TS:=fun _ _ _=>False
theorem qhz:PS X st qiB:=fun _ _ _ _ _ _ h=>h.elim
theorem YU {sts:List Stmt}:PSs X sts qiB:=fun _ _ _ _ _ _ h=>h.elim
end
abbrev TG:=V->St->Hp->(St->Hp->Prop)->Prop
abbrev TGs:=List V->St->Hp->(St->Hp->Prop)->Prop
def PG (X:Cx) (target:Expr) (t:TG):Prop :=
  ∀ Ob s G H (v:V) (u:Value) (Q:St->Hp->Prop),Inv X Ob G H s->jw v u->t v G H Q →
    wpAny (model X.prog X.w) X.A (assign target X.env u) (fun _ s'=>∃ G' H',Inv X Ob G' H' s'/\Q G' H') X.xe s
def PGs (X:Cx) (ts:List Expr) (t:TGs):Prop :=
  ∀ Ob s G H (vs:List V) (us:List Value) (Q:St->Hp->Prop),Inv X Ob G H s->yN vs us->t vs G H Q →
    wpAny (model X.prog X.w) X.A (assignInOrder ((assignEach ts X.env).map (·.2)) us) (fun _ s'=>∃ G' H',Inv X Ob G' H' s'/\Q G' H') X.xe s
abbrev qnZ:=V->V->V->Hp->(Hp->Prop)->Prop
def PSet (X:Cx) (t:qnZ):Prop :=
  ∀ Ob s G H (o i v:V) (ov iv u:Value) (Q:Hp->Prop),Inv X Ob G H s->jw o ov->jw i iv->jw v u->t o i v H Q →
    wpAny (model X.prog X.w) X.A (setItem ov iv u) (fun _ s'=>∃ H',Inv X Ob G H' s'/\Q H') X.xe s
def qh7 (i:Nat):TG:=fun v G H Q=>Q (G.set i (some v)) H
theorem qfs (hN:X.N.Nodup) (hi:X.N[i]?=some x) (hx:Loc X.env.scope x) (hf:FnL X x:=by trivial):PG X (.Name x pos) (qh7 i):=by
  intro Ob s G H v u Q I r h;exact wpAny_assign_Name (YR I hN hi hx r (fun s' I'=>⟨_,H,I',h⟩) hf)
def gNil:TGs:=fun vs G H Q=>vs=[]/\Q G H
def gCons (t:TG) (u:TGs):TGs:=fun vs G H Q=>∃ v r,vs=v::r/\t v G H fun G' H'=>u r G' H' Q
theorem qcq:PGs X [] gNil:=by
  intro Ob s G H vs us Q I r h;obtain⟨e,h⟩:=h;subst e;cases r
  exact assignInOrder_nil ⟨G,H,I,h⟩
theorem ZI {t:TG}{u:TGs}(h1:PG X e t) (h2:PGs X es u)
    (hs:(assignEach (e::es) X.env).map (·.2)=assign e X.env::(assignEach es X.env).map (·.2):=by rfl):PGs X (e::es) (gCons t u):=by
  intro Ob s G H vs us Q I r h;obtain⟨v,vr,e1,h⟩:=h;subst e1;cases r with
  | cons r rr =>
    rw[hs];refine assignInOrder_cons (thn (h1 Ob s G H _ _ _ I r h) fun _ s1 ⟨G1,H1,I1,q1⟩=>?_);exact h2 Ob s1 G1 H1 _ _ Q I1 rr q1
def gTup (K:W.Frag) (n:Nat) (t:TGs):TG:=fun v G H Q=>∃ a xs,v = .ref a/\SqT K H a xs/\xs.length=n/\t xs G H Q
theorem qfr {t:TGs}(hc:X.calm=true) (h:PGs X es t)
    (hn:(assignEach es X.env).length=n:=by rfl) (hst:(assignEach es X.env).findIdx? (·.1)=none:=by rfl):PG X (.Tuple es k pos) (gTup X.K n t):=by
  intro Ob s G H v u Q I r hw;obtain⟨a,xs,e1,hq,hl,hw⟩:=hw;subst e1;cases r
  obtain⟨its,rv,ht,hz⟩:=I.tuple hq;refine assign_Tuple_tuple (I.ok.hd hc) ht (by simp[hn,<- hl,rv.length]) hst fun h' hx=>?_;have I1:Inv X Ob G H { s with heap:=h' }:=I.kept (t':=s.toks) fun b o e=>hx b o (qp (ql e)) e;exact h Ob _ G H xs _ Q I1 (by simpa using rv) hw
def gSub (to ti:TE) (t:qnZ):TG:=fun v G H Q=>to G H fun o H1=>ti G H1 fun i H2=>t o i v H2 fun H3=>Q G H3
theorem qbK {i:Expr}{to ti:TE}{t:qnZ}(ho:PE X o to) (hi:PE X i ti) (hs:PSet X t)
    (ha:∀ v,assign (.Subscript o i pos) X.env v=(do
      let ov <- holding [v] (eval o X.env)
      let iv <- holding [v,ov] (eval i X.env)
      standAt pos
      holding [v,ov,iv] (setItem ov iv v)
      release [v,ov,iv] []):=by intro _;rfl):PG X (.Subscript o i pos) (gSub to ti t):=by
  intro Ob s G H v u Q I r h;rw[ha];refine qa (yf (thn (ho Ob s G H _ I h) fun ov s1 ⟨x,H1,I1,r1,q1⟩=>?_));refine qa (yf (thn (hi Ob s1 G H1 _ I1 q1) fun iv s2 ⟨y,H2,I2,r2,q2⟩=>?_));refine qa (jp (qa (yf (thn (hs Ob s2 G H2 x y v ov iv u _ I2 r1 r2 r q2) fun _ s3 ⟨H3,I3,q3⟩=>?_))));exact wpAny_release ⟨G,H3,I3,q3⟩
def tAsg (te:TE) (g:TG):TS:=fun D G H=>te G H fun x H1=>g x G H1 D.nx
theorem qfj {g:TG}(he:PE X e te) (hg:PG X tg g) (hs:swapsWithSole [tg] e pos.line X.env=pure false:=by rfl) (hw:swappedStores [tg] e X.env=pure none:=by rfl)
    (h1:(assignEach [tg] X.env).map (·.2)=[assign tg X.env]:=by rfl):PS X (.Assign [tg] e pos) (tAsg te g):=by
  intro Ob s G H D I h;refine wpAny_Assign_stores (thn (he Ob s G H _ I h) fun v s1 ⟨x,H1,I1,r1,q1⟩=>?_) hs hw;rw[h1];exact thn (hg Ob s1 G H1 x v _ I1 r1 q1) fun _ s2 q=>q
theorem Zw (hN:X.N.Nodup) (hi:X.N[i]?=some x) (hx:Loc X.env.scope x) (he:PE X e te) (hs:swapsWith e (some (.Name x pos')) pos.line X.env=pure false:=by rfl) (hf:FnL X x:=by trivial) :
    PS X (.Assign [.Name x pos'] e pos) (tAsg te (qh7 i)):=by
  intro Ob s G H D I h;refine wpAny_Assign_Name (thn (he Ob s G H _ I h) fun v s1 ⟨y,H1,I1,r1,q1⟩=>?_) hs;exact YR I1 hN hi hx r1 (fun s2 I2=>⟨_,H1,I2,q1⟩) hf
def tPar (i j:Nat) (ta:TA):TS:=fun D G H=>ta G H fun vs H1=>∃ v w,vs=[v,w]/\D.nx ((G.set i (some v)).set j (some w)) H1
theorem qmt {y:Str}{a b:Expr}{ta:TA}{px py pt:Pos}{kt k2 pt2} (hc:X.calm=true) (hN:X.N.Nodup) (hi:X.N[i]?=some x) (hj:X.N[j]?=some y) (hij:i≠j)
    (hx:X.env.scope.names.lookup x=some .local) (hy:X.env.scope.names.lookup y=some .local) (ha:PA X [a,b] ta)
    (hw:swappedStores [.Tuple [.Name x px,.Name y py] kt pt] (.Tuple [a,b] k2 pt2) X.env=pure (some [x,y]))
    (hs:swapsWithSole [.Tuple [.Name x px,.Name y py] kt pt] (.Tuple [a,b] k2 pt2) pos.line X.env=pure false:=by rfl) :
    PS X (.Assign [.Tuple [.Name x px,.Name y py] kt pt] (.Tuple [a,b] k2 pt2) pos) (tPar i j ta):=by
  intro Ob s G H D I h;rw[exec_Assign_arm];refine qa (jp ?_);rw[hs];refine qa (qe ?_);rw[if_neg (by decide)];refine qa (Tuple_ (thn (ha _ Ob s G H _ I h) fun us s1 ⟨vs,H1,I1,r1,q1⟩=>?_));obtain⟨v,w,e1,q1⟩:=q1;subst e1;obtain⟨u1,u2,rfl,rv,rw'⟩:∃ u1 u2,us=[u1,u2]/\jw v u1/\jw w u2:=by
    cases r1 with
    | cons p q =>
      cases q with
      | cons p' q' =>
        cases q'
        exact⟨_,_,rfl,p,p'⟩
  refine yF ?_ (by show 2<=sizeLine;decide);have I2:Inv X Ob G H1 { s1 with heap:=s1.heap.push { cls:=.type "tuple",data:=.seq [u1,u2].toArray } }:=I1.kept (t':=s1.toks) fun b o e=>qh _ e;rw[hw];refine qa (qe ?_);show wpAny (model X.prog X.w) X.A (do rule "assign.swapped-stores";let items <- unpackItems (.ref s1.heap.objs.size) 2 none;assignInOrder [fun v=>bindName X.env y v,fun v=>bindName X.env x v] items.reverse;pure Flow.next) _ _ _;refine qa (j6 (qa (unpackItems_tuple (items:=#[u1,u2]) (I.ok.hd hc) (IsTup.new s1.heap _) fun h' hx'=>?_)));have I3:=I2.kept (h':=h') (t':=s1.toks) fun b o e=>hx' b o (qp (ql e)) e;show wpAny _ _ (assignInOrder [fun v=>bindName X.env y v,fun v=>bindName X.env x v] [u2,u1] >>= fun _=>pure Flow.next) _ _ _;refine qa (assignInOrder_cons (wpAny_bindName (YR I3 hN hj (.inl hy) rw' (fun s2 I4=>?_) (.inr hy))));refine assignInOrder_cons (wpAny_bindName (YR I4 hN hi (.inl hx) rv (fun s3 I5=>assignInOrder_nil (qe ?_)) (.inr hx)));rw[List.set_comm _ _ (Ne.symm hij)] at I5;exact⟨_,H1,I5,q1⟩
def qlN (c:TT) (tb:TS):TS:=fun D G H=>∃ W:Nat->St->Hp->Prop,(∃ m,W m G H)/\∀ m G H,W m G H →
  c G H fun b H1=>if b=true then ∃ N:St->Hp->Prop,(∀ G' H',N G' H'->∃ m',m'<m/\W m' G' H')/\tb { D with nx:=N,ct:=N,bk:=D.nx } G H1 else D.nx G H1
theorem qhx {tb:TS}(hp:PassesOwn (model X.prog X.w) X.A X.env X.xe) (hc:PT X c tc) (hb:PSs X body tb):PS X (.While c body [] pos) (qlN tc tb):=by
  intro Ob s G H D I h;obtain⟨W,⟨m0,w0⟩,turn⟩:=h;refine wpAny_While (codeAny_whileLoop (fun n s'=>∃ G' H',Inv X Ob G' H' s'/\W n G' H') ?_ m0 ⟨G,H,I,w0⟩);rintro n s1 ⟨G1,H1,I1,w1⟩;refine wpAny_passesOwn hp (thn (hc Ob s1 G1 H1 _ I1 (turn n G1 H1 w1)) fun b s2 ⟨H2,I2,q2⟩=>?_);cases b with
  | true =>
    obtain⟨N,hN,q2⟩:=q2;rw[if_pos rfl];refine wpAny_passesOwn hp (thn (hb Ob s2 G1 H2 _ I2 q2) fun f s3 q3=>?_);cases f with
    | next =>
      obtain⟨G3,H3,I3,n3⟩:=q3;obtain⟨m',hm,w3⟩:=hN G3 H3 n3;exact⟨m',hm,G3,H3,I3,w3⟩
    | cont =>
      obtain⟨G3,H3,I3,n3⟩:=q3;obtain⟨m',hm,w3⟩:=hN G3 H3 n3;exact⟨m',hm,G3,H3,I3,w3⟩
    | brk=>exact q3
    | ret v=>exact q3
  | false =>
    rw[if_neg JS];exact wpAny_execs_nil ⟨G1,H2,I2,q2⟩
structure It where
  go:Nat->Hp->Prop
  yld:Nat->Hp->V->Hp->Prop
  stop:Nat->Hp->Prop
def YC (X:Cx) (Ob:List (Addr×Obj)) (H:Hp) (b:Addr):Prop :=
  H b=none/\b≠X.env.locals/\b∉X.fs/\(b∈X.ex\/X.s₀.heap.objs.size<=b)/\(∀ x c,X.env.cells.lookup x=some c->c≠b)/\∀ p∈X.pn++Ob,p.1≠b
theorem Inv.fpOk (I:Inv X Ob G H s) (hb:s.heap.objs.size<=b) (hn:H' b=none):YC X Ob H' b:=by
  refine⟨hn,Nat.ne_of_gt (qT I.lt hb),I.nofs hb,.inr (qt I.sz hb),fun x c e z=>?_,fun p hp z=>?_⟩
  . obtain⟨v,q⟩:=I.cell x c e
    exact absurd (qT q.lt (by rw[z];exact hb)) (yz _)
  . exact absurd (qT (ql (I.pin p hp).1) (by rw[z];exact hb)) (yz _)
structure Turn (P:Program) (w:World) (K:W.Frag) (tg:Expr) (J:It) (fp:List Addr) (it:Addr) (tn:Nat->Heap->Prop):Prop where
  mem:it∈fp
  obj:∀ i h,tn i h->∀ b∈fp,∃ o,h.get? b=some o/\∀ v,o.data≠.cell v
  keep:∀ i h h',tn i h->(∀ b∈fp,∀ o,h.get? b=some o->h'.get? b=some o)->tn i h'
  item:∀ (X:Cx),X.prog=P->X.w=w->X.K=K->X.calm=true->∀ (i:Nat) Ob s G H (E:Value->Shared->Prop),Inv X Ob G H s->(∀ b∈fp,YC X Ob H b)->tn i s.heap->J.go i H →
    wpAny (model P w) X.A (pyNext (.ref it)) (fun r s1=>∃ u,r=some u ∧
      wpAny (model P w) X.A (letOwnedTupleGo tg (.ref it) u) (fun _ s2=>∃ x H',Inv X Ob G H' s2/\jw x u/\J.yld i H x H'/\tn (i+1) s2.heap/\∀ b∈fp,H' b=none) E s1) E s
  done:∀ (X:Cx),X.prog=P->X.w=w->X.K=K->X.calm=true->∀ (i:Nat) Ob s G H (E:Value->Shared->Prop),Inv X Ob G H s->(∀ b∈fp,YC X Ob H b)->tn i s.heap->J.stop i H →
    wpAny (model P w) X.A (pyNext (.ref it)) (fun r s1=>r=none/\Inv X Ob G H s1) E s
  self:∀ (A:Around) (i:Nat) (s:Shared) (Q:Value->Shared->Prop) (E:Value->Shared->Prop),tn i s.heap->Q (.ref it) s->wpAny (model P w) A (pyIter (.ref it)) Q E s
abbrev TI:=St->Hp->(It->Hp->Prop)->Prop
def PIE (X:Cx) (Ob:List (Addr×Obj)) (G:St) (tg:Expr) (R:It->Hp->Prop) (itv:Value) (s2:Shared):Prop :=
  ∃ (it:Addr) (fp:List Addr) (tn:Nat->Heap->Prop) (J:It) (H':Hp),itv = .ref it/\Inv X Ob G H' s2/\Turn X.prog X.w X.K tg J fp it tn/\tn 0 s2.heap/\(∀ b∈fp,YC X Ob H' b)/\R J H'
def PI (X:Cx) (tg iter:Expr) (wi:TI):Prop :=
  ∀ Ob s G H (R:It->Hp->Prop),Inv X Ob G H s->wi G H R →
    wpAny (model X.prog X.w) X.A (eval iter X.env) (fun v s1=>wpAny (model X.prog X.w) X.A (pyIter v) (PIE X Ob G tg R) X.xe s1) X.xe s
theorem qm9 {o:Obj}{n:String}{vs:Array Value}{Q:Unit->Shared->Prop}(ho:s.heap.get? it=some o) (hc:o.cls = .type n) (hd:o.data = .fields vs)
    (hn:["enumerate", "zip", "dict_itemiterator", "dict_reverseitemiterator", "odict_iterator", "itertools.zip_longest", "itertools.pairwise"].contains n=false) (hQ:Q () s):wpAny M A (letOwnedTupleGo tg (.ref it) u) Q E s:=by
  unfold letOwnedTupleGo;cases tg <;> first
    | exact qe hQ
    | (cases u <;> first
        | exact qe hQ
        | (refine qa (wpAny_load ho ?_)
           rw[hc,hd];show wpAny M A (if (["enumerate", "zip", "dict_itemiterator", "dict_reverseitemiterator", "odict_iterator", "itertools.zip_longest", "itertools.pairwise"].contains n && vs[0]? == some (rawInt _))=true then _ else _) Q E s;rw[if_neg (by intro h;rw[hn,Bool.false_and] at h;cases h)];exact qe hQ))
def Itl (K:W.Frag) (a:Addr):It :=
  ⟨fun i H=>∃ xs x,SqL K H a xs/\xs[i]?=some x,fun i H x H'=>H'=H/\∀ xs,SqL K H a xs->xs[i]?=some x,fun i H=>∃ xs,SqL K H a xs/\xs.length<=i⟩
def Itr (lo:Int) (n:Nat):It:=⟨fun i _=>i<n,fun i H x H'=>H'=H/\x = .int (lo+i),fun i _=>n<=i⟩
theorem qeA (a it:Addr):Turn P w K tg (Itl K a) [it] it (fun i h=>h.IsListIter it a i) where
  mem:=by simp
  obj:=fun i h st b hb=>by
    have e:b=it:=by simpa using hb
    subst e;obtain⟨o,e,c,d⟩:=st;exact⟨o,e,fun v z=>by rw[d] at z;cases z⟩
  keep:=fun i h h' st k=>st.at fun o e=>k it (by simp) o e
  item:=by
    intro X hP hw hK hc i Ob s G H E I hf st hg;subst hP hw hK;obtain⟨xs,x,hq,hx⟩:=hg;obtain⟨its,rv,p,hz⟩:=I.list hq;obtain⟨u,hu,ru⟩:=rv.get hx;obtain⟨f0,f1,f2,f3,f4,f5⟩:=hf it (by simp);refine wpAny_pyNext_list_item st p.isList (x:=u) (by simpa using hu) fun h' st' sb=>?_;have I1:Inv X Ob G H { s with heap:=h' }:=I.turned (t':=s.toks) (fun b o hb e=>(sb.2 b hb).trans e) f0 f1 f3 f4 f5;obtain⟨o,e,c,d⟩:=id st';exact⟨u,rfl,qm9 (s:={ s with heap:=h' }) e c d (by decide) ⟨x,H,I1,ru,⟨rfl,fun ys hy=>by rw[I.list_inj hy hq];exact hx⟩,st',fun b hb=>(hf b hb).1⟩⟩
  done:=by
    intro X hP hw hK hc i Ob s G H E I hf st hg;subst hP hw hK;obtain⟨xs,hq,hx⟩:=hg;obtain⟨its,rv,p,hz⟩:=I.list hq;obtain⟨f0,f1,f2,f3,f4,f5⟩:=hf it (by simp);have hl:=rv.length;exact wpAny_pyNext_list_end (I.ok.hd hc) st p.isList (by simp;omega) fun h' eb=>⟨rfl,I.turned (t':=s.toks) (fun b o hb e=>eb b o hb e) f0 f1 f3 f4 f5⟩
  self:=fun _ _ _ _ _ st h=>wpAny_pyIter_listiter st h
theorem qdR (it:Addr) (lo:Int) (n:Nat):Turn P w K tg (Itr lo n) [it] it (fun i h=>IsRangeIter h it (lo+(i:Nat) * 1) ((n:Int) - (i:Nat)) 1) where
  mem:=by simp
  obj:=fun i h st b hb=>by
    have e:b=it:=by simpa using hb
    subst e;exact⟨_,st,fun v z=>by
      have z':Data.fields _=Data.cell v:=z;cases z'⟩
  keep:=fun i h h' st k=>k it (by simp) _ st
  item:=by
    intro X hP hw hK hc i Ob s G H E I hf st hg;subst hP hw hK;obtain⟨f0,f1,f2,f3,f4,f5⟩:=hf it (by simp);have W:=Walks.range (prog:=X.prog) (w:=X.w) (I.ok.hd hc) it lo 1 n;refine W.item i s _ _ hg st fun v h' tk hv st' kk=>?_;obtain⟨t,rfl⟩:=hv;have I1:Inv X Ob G H { s with heap:=h',toks:=tk }:=I.turned (fun b o hb e=>kk b o (by simpa using hb) e) f0 f1 f3 f4 f5;refine⟨_,rfl,qm9 (s:={ s with heap:=h',toks:=tk }) (n := "range_iterator") st' rfl rfl (by decide) ⟨.int (lo+i),H,I1,⟨t,?_⟩,⟨rfl,rfl⟩,st',fun b hb=>(hf b hb).1⟩⟩;rw[Int.mul_one]
  done:=by
    intro X hP hw hK hc i Ob s G H E I hf st hg;subst hP hw hK;obtain⟨f0,f1,f2,f3,f4,f5⟩:=hf it (by simp);exact wpAny_pyNext_range_end (I.ok.hd hc) st (by have:n<=i:=hg;omega) fun h' eb=>⟨rfl,I.turned (t':=s.toks) (fun b o hb e=>eb b o hb e) f0 f1 f3 f4 f5⟩
  self:=fun _ _ _ _ _ st h=>wpAny_pyIter_rangeiter st h
end L2
variable {wi:L2.TI}
namespace L2
def iList (K:W.Frag) (tl:TE):TI:=fun G H R=>tl G H fun x H1=>∃ a,x = .ref a/\(∃ xs,SqL K H1 a xs)/\R (Itl K a) H1
theorem qfq {l:Expr}(hl:PE X l tl):PI X tg l (iList X.K tl):=by
  intro Ob s G H R I h;refine thn (hl Ob s G H _ I h) fun v s1 Og=>?_;obtain⟨x,H1,I1,r1,q1⟩:=Og;obtain⟨a,e,⟨xs,hq⟩,q⟩:=q1;subst e;cases r1
  obtain⟨its,rv,p,hz⟩:=I1.list hq;refine wpAny_pyIter_list p.isList ?_;refine⟨s1.heap.objs.size,[s1.heap.objs.size],_,_,H1,rfl,I1.kept (t':=s1.toks) fun b o e=>qh _ e,qeA a _,⟨_,qA _ rfl,rfl,rfl⟩,fun b hb=>?_,q⟩;have e:b=s1.heap.objs.size:=by simpa using hb
  subst e;exact I1.fpOk (qo _) (I1.hok.fresh (qo _))
theorem qhv {R:It->Hp->Prop}{lo hi:Int}{t u v:Tok}{tk:Nat}(I:Inv X Ob G H s) (h1:-(2 ^ 62)<=lo) (h2:lo<2 ^ 62) (h3:-(2 ^ 62)<=hi) (h4:hi<2 ^ 62)
    (q:R (Itr lo (hi - lo).toNat) H):wpAny (model X.prog X.w) X.A (pyIter (.ref s.heap.objs.size)) (PIE X Ob G tg R) E { s with heap:=s.heap.push { cls:=.type "range",data:=.fields #[.int lo t,.int hi u,.int 1 v] },toks:=tk }:=by
  refine wpAny_pyIter_range (IsRange.new ..) (small_one h1 h2 h3 h4) ?_;have I1:Inv X Ob G H { s with heap:=s.heap.push { cls:=.type "range",data:=.fields #[.int lo t,.int hi u,.int 1 v] },toks:=tk }:=I.kept fun b o e=>qh _ e;refine⟨(s.heap.push { cls:=.type "range",data:=.fields #[.int lo t,.int hi u,.int 1 v] }).objs.size,[(s.heap.push { cls:=.type "range",data:=.fields #[.int lo t,.int hi u,.int 1 v] }).objs.size],_,_,H,rfl,
    I1.kept (t':=tk) fun b o e=>qh _ e,qdR _ lo (hi - lo).toNat,?_,fun b hb=>?_,q⟩
  . have e1:lo+((0:Nat):Int) * 1=lo:=by simp
    have e2:(((hi - lo).toNat:Nat):Int) - ((0:Nat):Int)=Builtin.Range.rangeSize lo hi 1:=by rw[rangeSize_one];split <;> omega
    show IsRangeIter _ _ (lo+((0:Nat):Int) * 1) ((((hi - lo).toNat:Nat):Int) - ((0:Nat):Int)) 1;rw[e1,e2];exact qA _ rfl
  . have e:b=(s.heap.push { cls:=.type "range",data:=.fields #[.int lo t,.int hi u,.int 1 v] }).objs.size:=by simpa using hb
    subst e;exact I1.fpOk (qo _) (I1.hok.fresh (qo _))
def iRng1 (ta:TA):TI:=fun G H R=>ta G H fun vs H1=>∃ j:Int,vs=[.int j]/\-(2 ^ 62)<=j/\j<2 ^ 62/\R (Itr 0 j.toNat) H1
theorem qfp {a:Expr}{ta:TA}{p:Pos}(hg:Gl X "range") (hm:X.mg "range" = none) (ha:PA X [a] ta) (hs:starEach [a] X.env=[(false,eval a X.env)]:=by rfl):PI X tg (.Call (.Name "range" p) [a] [] pos) (iRng1 ta):=by
  intro Ob s G H R I h;refine Call_ (qad I hg hm boot_range (PyProof.Rows.callWith_type1 (thn (ha pos Ob s G H _ I h) fun us s1 ⟨vs,H1,I1,r1,q1⟩=>?_) hs rfl));obtain⟨j,e,q1,q2,q⟩:=q1;subst e;cases r1 with
  | cons r rr =>
    cases rr
    obtain⟨t,rfl⟩:=r;exact call_range_1 (qhv I1 (by omega) (by omega) q1 q2 (by simpa using q))
def tFor (wi:TI) (g:TG) (tb:TS):TS:=fun D G H=>wi G H fun J H1=>∃ W:Nat->Nat->St->Hp->Prop,(∃ m,W 0 m G H1)/\∀ i m G H,W i m G H →
  (J.stop i H/\D.nx G H)\/(J.go i H/\∃ N:St->Hp->Prop,(∀ G' H',N G' H'->∃ m',m'<m/\W (i+1) m' G' H')/\∀ x H',J.yld i H x H'->g x G H' fun G2 H2=>tb { D with nx:=N,ct:=N,bk:=D.nx } G2 H2)
def JI (fp:List Addr) (h:Heap):List (Addr×Obj):=fp.filterMap fun b=>(h.get? b).map fun o=>(b,o)
theorem yQ {o:Obj}(hb:b∈fp) (e:h.get? b=some o):(b,o)∈JI fp h:=yD.mpr ⟨b,hb,by rw[e];rfl⟩
theorem qbM {p:Addr×Obj}(hp:p∈JI fp h):p.1∈fp/\h.get? p.1=some p.2:=by
  obtain⟨b,hb,e⟩:=yD.mp hp;cases q:h.get? b with
  | none=>rw[q] at e;cases e
  | some o =>
    rw[q] at e;have e':(b,o)=p:=Option.some.inj e;subst e';exact⟨hb,q⟩
theorem Inv.pinned (I:Inv X Ob G H s) (hf:∀ b∈fp,YC X Ob H b) (ho:∀ b∈fp,∃ o,s.heap.get? b=some o/\∀ v,o.data≠.cell v):Inv X (Ob++JI fp s.heap) G H s :=
  I.pins_of fun p hp=>(qB.mp hp).elim (fun z=>I.pin p (qg _ z)) fun z=>by
    obtain⟨hb,e⟩:=qbM z;obtain⟨f0,f1,f2,_⟩:=hf p.1 hb;obtain⟨o,e',d⟩:=ho p.1 hb;rw[e] at e';cases e';exact⟨e,f0,f1,f2,d⟩
theorem Inv.unpinned {pl:List (Addr×Obj)}(I:Inv X (Ob++pl) G H s):Inv X Ob G H s:=I.pins_of fun p hp=>I.pin p (qg _ (qS _ hp))
theorem qmu {g:TG}{tb:TS}(hp:PassesOwn (model X.prog X.w) X.A X.env X.xe) (hc:X.calm=true) (hi:PI X tg iter wi) (hg:PG X tg g) (hb:PSs X body tb)
    (hs:∀ x,foldedSetIterable iter X.env x=pure x:=by intro _;rfl):PS X (.For tg iter body [] pos) (tFor wi g tb):=by
  intro Ob s G H D I h;refine wpAny_For (thn (hi Ob s G H _ I h) fun v s1 h1=>thn h1 fun itv s2 h2=>?_) hs;obtain⟨it,fp,tn,J,H2,e,I2,T,st2,f2,W,⟨m0,w0⟩,turn⟩:=h2;subst e
  have stat:∀ {H':Hp},(∀ b∈fp,H' b=none)->∀ b∈fp,YC X Ob H' b:=fun hn b hb=>⟨hn b hb,(f2 b hb).2⟩;refine codeAny_forLoop_any (fun n s'=>∃ i G' H',Inv X Ob G' H' s'/\tn i s'.heap/\(∀ b∈fp,H' b=none)/\W i n G' H') ?_ m0 ⟨0,G,H2,I2,st2,fun b hb=>(f2 b hb).1,w0⟩;rintro n s3 ⟨i,G3,H3,I3,st3,fr3,w3⟩;rcases turn i n G3 H3 w3 with⟨stop,qn⟩ | ⟨go,N,hN,step⟩
  . refine wpAny_passesOwn hp (thn (T.done X rfl rfl rfl hc i Ob s3 G3 H3 X.xe I3 (stat fr3) st3 stop) fun r s4 ⟨hr,I4⟩=>?_)
    subst hr;exact wpAny_execs_nil ⟨G3,H3,I4,qn⟩
  . refine wpAny_passesOwn hp (thn (T.item X rfl rfl rfl hc i Ob s3 G3 H3 X.xe I3 (stat fr3) st3 go) fun r s4 ⟨u,hr,h4⟩=>?_)
    subst hr;refine wpAny_passesOwn hp (thn h4 fun _ s5 ⟨x,H5,I5,r5,y5,st5,fr5⟩=>?_);have I5':=I5.pinned (stat fr5) (T.obj _ _ st5);refine wpAny_passesOwn hp (thn (hg _ s5 G3 H5 x u _ I5' r5 (step x H5 y5)) fun _ s6 ⟨G6,H6,I6,q6⟩=>?_);refine wpAny_passesOwn hp (thn (hb _ s6 G6 H6 _ I6 q6) fun f s7 q7=>?_);have again:∀ {G7:St}{H7:Hp},Inv X (Ob++JI fp s5.heap) G7 H7 s7->N G7 H7->∃ m,m<n/\∃ i G' H',Inv X Ob G' H' s7/\tn i s7.heap/\(∀ b∈fp,H' b=none)/\W i m G' H':=fun {G7 H7} I7 n7=>by
      obtain⟨m',hm,w7⟩:=hN G7 H7 n7;refine⟨m',hm,i+1,G7,H7,I7.unpinned,T.keep _ _ _ st5 fun b hb o e=>(I7.pin (b,o) (qg _ (qg _ (yQ hb e)))).1,fun b hb=>?_,w7⟩;obtain⟨o,e,d⟩:=T.obj _ _ st5 b hb;exact (I7.pin (b,o) (qg _ (qg _ (yQ hb e)))).2.1
    cases f with
    | next=>obtain⟨G7,H7,I7,n7⟩:=q7;exact again I7 n7
    | cont=>obtain⟨G7,H7,I7,n7⟩:=q7;exact again I7 n7
    | brk=>obtain⟨G7,H7,I7,q7⟩:=q7;exact⟨G7,H7,I7.unpinned,q7⟩
    | ret v=>obtain⟨x7,G7,H7,I7,r7,q7⟩:=q7;exact⟨x7,G7,H7,I7.unpinned,r7,q7⟩
end L2
namespace L2
variable {a b:Expr}{tc:TE}{f:Value->Value->Sem Value}{g:Int->Int->Int}{us:List Value}
abbrev R2:=V->V->Hp->VK->Prop
def OpR (X:Cx) (f:Value->Value->Sem Value) (r:R2):Prop :=
  ∀ Ob s G H (x y:V) (v u:Value) (Q:VK),Inv X Ob G H s->jw x v->jw y u->r x y H Q →
    wpAny (model X.prog X.w) X.A (f v u) (EP X Ob G Q) X.xe s
def UnR (X:Cx) (f:Value->Sem Value) (r:V->Hp->VK->Prop):Prop :=
  ∀ Ob s G H (x:V) (v:Value) (Q:VK),Inv X Ob G H s->jw x v->r x H Q →
    wpAny (model X.prog X.w) X.A (f v) (EP X Ob G Q) X.xe s
def jq (X:Cx) (f:Value) (r:List V->Hp->VK->Prop):Prop :=
  ∀ Ob s G H (xs:List V) (us:List Value) (Q:VK),Inv X Ob G H s->yN xs us->r xs H Q →
    wpAny (model X.prog X.w) X.A (call f us) (EP X Ob G Q) X.xe s
def tOp (r:R2) (ta tb:TE):TE:=fun G H Q=>ta G H fun x H1=>tb G H1 fun y H2=>r x y H2 Q
def tUn (r:V->Hp->VK->Prop) (ta:TE):TE:=fun G H Q=>ta G H fun x H1=>r x H1 Q
def rI (C:Int->Int->Prop) (g:Int->Int->V):R2:=fun x y H Q=>∃ i j,x = .int i/\y = .int j/\C i j/\Q (g i j) H
def rI0 (g:Int->Int->V):R2:=fun x y H Q=>∃ i j,x = .int i/\y = .int j/\Q (g i j) H
def rU (g:Int->V):V->Hp->VK->Prop:=fun x H Q=>∃ i,x = .int i/\Q (g i) H
section
variable {tb:TE}
theorem binT (ha:PE X a ta) (hb:PE X b tb) {R:V->V->Hp->Prop}(I:Inv X Ob G H s)
    (h:ta G H fun x H1=>tb G H1 fun y H2=>R x y H2) {Q:Value->Shared->Prop}
    (hf:∀ v u s2 x y H2,Inv X Ob G H2 s2->jw x v->jw y u->R x y H2->wpAny (model X.prog X.w) X.A (f v u) Q X.xe s2) :
    wpAny (model X.prog X.w) X.A (eval a X.env) (fun v sa1=>wpAny (model X.prog X.w) X.A (eval b X.env) (fun u sa2=>wpAny (model X.prog X.w) X.A (f v u) Q X.xe sa2) X.xe sa1) X.xe s:=by
  refine thn (ha Ob s G H _ I h) fun v s1 Og=>?_;obtain⟨x,H1,I1,r1,q1⟩:=Og;refine thn (hb Ob s1 G H1 _ I1 q1) fun u s2 Og=>?_;obtain⟨y,H2,I2,r2,q2⟩:=Og;exact hf v u s2 x y H2 I2 r1 r2 q2
theorem qbL {op:Operator}{r:R2}(ho:OpR X (binaryOp op) r) (ha:PE X a ta) (hb:PE X b tb):PE X (.BinOp a op b pos) (tOp r ta tb):=by
  intro Ob s G H Q I h;exact wpAny_BinOp (binT ha hb I h fun v u s2 x y H2 I2 rx ry q=>ho Ob s2 G H2 x y v u Q I2 rx ry q)
theorem pe_un {op:UnaryOp}{r:V->Hp->VK->Prop}(ho:UnR X (unaryOp op) r) (ha:PE X a ta):PE X (.UnaryOp op a pos) (tUn r ta):=by
  intro Ob s G H Q I h;exact UnaryOp_ (thn (ha Ob s G H _ I h) fun v s1 ⟨x,H1,I1,r1,q1⟩=>ho Ob s1 G H1 x v Q I1 r1 q1)
theorem opI {C:Int->Int->Prop}
    (rule:∀ (i j:Int) (t u:Tok) (s:Shared) (Q:Value->Shared->Prop) (E:Value->Shared->Prop),C i j->Q (.int (g i j) s.toks) { s with toks:=s.toks+1 }->wpAny (model X.prog X.w) X.A (f (.int i t) (.int j u)) Q E s) :
    OpR X f (rI C fun i j=>.int (g i j)):=by
  intro Ob s G H x y v u Q I rx ry h;obtain⟨i,j,rfl,rfl,hc,q⟩:=h;obtain⟨t,rfl⟩:=rx;obtain⟨t',rfl⟩:=ry;exact rule i j t t' s _ _ hc ⟨.int (g i j),H,I.tok _,⟨_,rfl⟩,q⟩
theorem opI0
    (rule:∀ (i j:Int) (t u:Tok) (s:Shared) (Q:Value->Shared->Prop) (E:Value->Shared->Prop),Q (.int (g i j) s.toks) { s with toks:=s.toks+1 }->wpAny (model X.prog X.w) X.A (f (.int i t) (.int j u)) Q E s) :
    OpR X f (rI0 fun i j=>.int (g i j)):=by
  intro Ob s G H x y v u Q I rx ry h;obtain⟨i,j,rfl,rfl,q⟩:=h;obtain⟨t,rfl⟩:=rx;obtain⟨t',rfl⟩:=ry;exact rule i j t t' s _ _ ⟨.int (g i j),H,I.tok _,⟨_,rfl⟩,q⟩
theorem opB0 {g:Int->Int->Bool}
    (rule:∀ (i j:Int) (t u:Tok) (s:Shared) (Q:Value->Shared->Prop) (E:Value->Shared->Prop),Q (.bool (g i j)) s->wpAny (model X.prog X.w) X.A (f (.int i t) (.int j u)) Q E s) :
    OpR X f (rI0 fun i j=>.bl (g i j)):=by
  intro Ob s G H x y v u Q I rx ry h;obtain⟨i,j,rfl,rfl,q⟩:=h;obtain⟨t,rfl⟩:=rx;obtain⟨t',rfl⟩:=ry;exact rule i j t t' s _ _ ⟨.bl (g i j),H,I,rfl,q⟩
def CDiv (i j:Int):Prop:=0<j/\j<1073741824
def CPow (i j:Int):Prop:=0<=j/\j<=1000000/\i.natAbs<2 ^ 64
theorem qfE:OpR X (binaryOp .Add) (rI0 fun i j=>.int (i+j)):=opI0 fun _ _ _ _ _ _ _ q=>add_int q
theorem qmG:OpR X (binaryOp .Sub) (rI0 fun i j=>.int (i - j)):=opI0 fun _ _ _ _ _ _ _ q=>sub_int q
theorem qkg:OpR X (binaryOp .FloorDiv) (rI CDiv fun i j=>.int (i / j)):=opI fun i j _ _ _ _ _ hc q=>by
  have h1:(0:Int)<j:=hc.1;have h2:j<1073741824:=hc.2;exact floordiv_int (by omega) (by rw[Int.fdiv_eq_ediv_of_nonneg i (by omega)];exact q) (.inl (PyProof.noPylong_small (by omega)))
theorem qdi:OpR X (binaryOp .Mod) (rI (fun _ j=>0<j) fun i j=>.int (i % j)):=opI fun i j _ _ _ _ _ hc q=>by
  have h1:(0:Int)<j:=hc;exact mod_int' (by omega) (by rw[Int.fmod_eq_emod_of_nonneg i (by omega)];exact q)
theorem qmH:OpR X (binaryOp .Pow) (rI CPow fun i j=>.int (i ^ j.toNat)):=opI fun _ _ _ _ _ _ _ hc q=>pow_int_small hc.1 hc.2.1 hc.2.2 q
theorem unI {f:Value->Sem Value}{g:Int->Int}
    (rule:∀ (i:Int) (t:Tok) (s:Shared) (Q:Value->Shared->Prop) (E:Value->Shared->Prop),Q (.int (g i) s.toks) { s with toks:=s.toks+1 }->wpAny (model X.prog X.w) X.A (f (.int i t)) Q E s) :
    UnR X f (rU fun i=>.int (g i)):=by
  intro Ob s G H x v Q I rx h;obtain⟨i,rfl,q⟩:=h;obtain⟨t,rfl⟩:=rx;exact rule i t s _ _ ⟨.int (g i),H,I.tok _,⟨_,rfl⟩,q⟩
theorem qlL:UnR X (unaryOp .USub) (rU fun i=>.int (-i)):=unI fun _ _ _ _ _ q=>neg_int q
end
section
variable {tb:TE}
theorem op_lt:OpR X (compareOp .Lt) (rI0 fun i j=>.bl (decide (i<j))):=opB0 fun _ _ _ _ _ _ _ q=>lt_int q
theorem op_le:OpR X (compareOp .LtE) (rI0 fun i j=>.bl (decide (i<=j))):=opB0 fun _ _ _ _ _ _ _ q=>le_int q
theorem qmI:OpR X (compareOp .Gt) (rI0 fun i j=>.bl (decide (j<i))):=opB0 fun _ _ _ _ _ _ _ q=>gt_int q
theorem OpR.or {r r':R2}(h:OpR X f r) (h':OpR X f r'):OpR X f (fun x y H Q=>r x y H Q\/r' x y H Q):=by
  intro Ob s G H x y v u Q I rx ry q;rcases q with q | q
  . exact h Ob s G H x y v u Q I rx ry q
  . exact h' Ob s G H x y v u Q I rx ry q
theorem yj (b:Expr) (h:op≠.In:=by decide) (h2:op≠.NotIn:=by decide):behindInMarks op b=false:=by
  have e1:(op == CmpOp.In)=false:=by cases op <;> first | rfl | exact absurd rfl h
  have e2:(op == CmpOp.NotIn)=false:=by cases op <;> first | rfl | exact absurd rfl h2
  cases b <;> simp[behindInMarks,e1,e2]
theorem qkd {r:R2}(ho:OpR X (compareOp op) r) (ha:PE X a ta) (hb:PE X b tb) (hm:behindInMarks op b=false):PE X (.Compare a [op] [b] pos) (tOp r ta tb):=by
  intro Ob s G H Q I h;exact wpAny_Compare1 (binT ha hb I h fun v u s2 x y H2 I2 rx ry q=>ho Ob s2 G H2 x y v u Q I2 rx ry q) hm
def tTest (t:TE):TT:=fun G H Q=>t G H fun x H'=>∃ k,x = .bl k/\Q k H'
theorem qfg {r:R2}(ho:OpR X (compareOp op) r) (ha:PE X a ta) (hb:PE X b tb) (hm:behindInMarks op b=false):PT X (.Compare a [op] [b] pos) (tTest (tOp r ta tb)):=by
  intro Ob s G H Q I h;refine wpAny_isTrue_Compare1 (thn (ha Ob s G H _ I h) fun v s1 ⟨x,H1,I1,r1,q1⟩=>thn (hb Ob s1 G H1 _ I1 q1) fun u s2 ⟨y,H2,I2,r2,q2⟩ =>
    thn (ho Ob s2 G H2 x y v u _ I2 r1 r2 q2) fun c s3 ⟨z,H3,I3,r3,k,e,q3⟩=>?_) hm
  subst e;cases r3
  exact wpAny_truthy_bool ⟨H3,I3,q3⟩
theorem qdn:(sizeLine:Nat)<2 ^ 63:=by rw[sizeLine_eq];decide
theorem qar {x:V}(r:yN [x] us):∃ u,us=[u]/\jw x u:=by
  cases r with
  | cons r1 r2=>cases r2;exact⟨_,rfl,r1⟩
theorem qex {x:V}(r:yN [x,y] us):∃ u w',us=[u,w']/\jw x u/\jw y w':=by
  cases r with
  | cons r1 r2 =>
    cases r2 with
    | cons r3 r4=>cases r4;exact⟨_,_,rfl,r1,r3⟩
theorem qin:jq X (.builtin "abs") (fun xs H Q=>∃ i,xs=[.int i]/\Q (.int (if i<0 then -i else i)) H):=by
  intro Ob s G H xs us Q I r h;obtain⟨i,rfl,q⟩:=h;obtain⟨u,rfl,t,rfl⟩:=qar r;exact call_abs_int fun u tk=>⟨.int (if i<0 then -i else i),H,I.tok _,⟨_,rfl⟩,q⟩
theorem qgR (hc:X.calm=true):jq X (.builtin "max") (fun xs H Q=>∃ i j,xs=[.int i,.int j]/\Q (.int (if j > i then j else i)) H):=by
  intro Ob s G H xs us Q I r h;obtain⟨i,j,rfl,q⟩:=h;obtain⟨u,w',rfl,⟨t,rfl⟩,⟨t',rfl⟩⟩:=qex r;refine max_two_ints (I.ok.hd hc) fun h' tk k=>⟨_,H,I.kept k,?_,q⟩;by_cases hj:j > i
  . rw[if_pos hj,if_pos hj];exact⟨_,rfl⟩
  . rw[if_neg hj,if_neg hj];exact⟨_,rfl⟩
theorem qgP (hc:X.calm=true):jq X (.builtin "min") (fun xs H Q=>∃ i j,xs=[.int i,.int j]/\Q (.int (if j<i then j else i)) H):=by
  intro Ob s G H xs us Q I r h;obtain⟨i,j,rfl,q⟩:=h;obtain⟨u,w',rfl,⟨t,rfl⟩,⟨t',rfl⟩⟩:=qex r;refine min_two_ints (I.ok.hd hc) fun h' tk k=>⟨_,H,I.kept k,?_,q⟩;by_cases hj:j<i
  . rw[if_pos hj,if_pos hj];exact⟨_,rfl⟩
  . rw[if_neg hj,if_neg hj];exact⟨_,rfl⟩
theorem qcP:jq X (.builtin "divmod") (fun xs H Q=>∃ i j,xs=[.int i,.int j]/\CDiv i j/\∀ p,H p=none->Q (.ref p) (upd H p (.tup [.int (i / j),.int (i % j)]))):=by
  intro Ob s G H xs us Q I r h;obtain⟨i,j,rfl,⟨h1,h2⟩,q⟩:=h;obtain⟨u,w',rfl,⟨t,rfl⟩,⟨t',rfl⟩⟩:=qex r;refine divmod_int (by omega) ?_ (.inl (PyProof.noPylong_small (by omega)));rw[Int.fdiv_eq_ediv_of_nonneg i (by omega),Int.fmod_eq_emod_of_nonneg i (by omega)];have hn:H s.heap.objs.size=none:=I.hok.fresh (qo _);refine⟨.ref s.heap.objs.size,_,?_,rfl,q _ hn⟩;refine I.laid (fun b o e=>qh _ e) (qo _) ⟨by simp only[yl,List.length_nil];rw[sizeLine_eq];decide,[.int (i / j) s.toks,.int (i % j) (s.toks+1)],.cons ⟨_,rfl⟩ (.cons ⟨_,rfl⟩ .nil),?_⟩;exact⟨_,qA s.heap rfl,rfl,0,rfl⟩
end
end L2
variable {r':L2.R2}
namespace L2
variable {x:Addr}{f:Str}{Q:Value->Shared->Prop}{b:Bool}
structure ObjM (h:Heap) (x dx C:Addr) (mA:Str->Option Value):Prop where
  obj:h.get? x=some (W.instObj C dx)
  ns:h.Ns1 dx mA
  ne:dx≠x
theorem qf3 (n:h.Ns1 dx mA):∃ od,h.get? dx=some od/\∀ name,W.lookIn name od=some (mA name):=by
  obtain⟨o,es,ep,ho,hd,hk,_,hm⟩:=n;refine⟨o,ho,fun name=>?_⟩;have e:=hm name;unfold nsFind findBy at e;rw[<- Array.find?_toList] at e;unfold W.lookIn;rw[hd];dsimp only;split
  . rename_i y q
    rw[q] at e;exact congrArg some e
  . rename_i q
    rw[q] at e;have a:es.toList.any (·.refKey)=false:=by
      rw[List.any_eq_false];intro y hy;obtain⟨z,t,hkey⟩:=hk y (Array.mem_toList_iff.mp hy);simp[DictEntry.refKey,hkey]
    have a':¬ es.toList.any (·.refKey)=true:=by rw[a];exact JS
    rw[if_neg a'];exact congrArg some e
theorem ObjM.look (I:ObjM h x dx C mA):∃ od,W.InstAt h x (W.instObj C dx) C (some od)/\∀ name,W.lookIn name od=some (mA name) :=
  let ⟨od,ho,hl⟩:=qf3 I.ns
  ⟨od,⟨I.obj,rfl,rfl,ho⟩,hl⟩
section
variable {f:Addr}{v:Value}
theorem qkS {expr:Bool}(X:K.In s.heap) (I:ObjM s.heap x dx C mA) (hg:W.plainGet K C name=true) (hh:W.hasDictIn K C=true)
    (ha:W.findIn K (.ref C) name=some none) (hv:mA name=some v) (hv':W.handedIn v=true) (h:Q v { s with toks:=s.toks+1 }) :
    wpAny (model prog w) A (getAttr (.ref x) name expr) Q E s:=by
  obtain⟨od,J,hl⟩:=I.look;exact W.get_value X J (W.plainGet_of hg).1 (W.findObj_own hh ha rfl (by rw[hl,hv])) hv' h
theorem qh6 {Q:Value×List Value->Shared->Prop}(X:K.In s.heap) (I:ObjM s.heap x dx C mA) (hg:W.plainGet K C name=true)
    (hf:W.findIn K (.ref C) name=some (some (.ref f))) (ht:W.isFn K (.ref f)=true) (hv:mA name=none) (h:Q (.ref f,[.ref x]) s) :
    wpAny (model prog w) A (getMethod (.ref x) name pl) Q E s:=by
  obtain⟨od,J,hl⟩:=I.look;exact W.method_fn X J (W.plainGet_of hg).1 (W.plainGet_of hg).2 hf (beq_iff_eq.mp ht) (by show (W.lookIn name od).map (·.isSome)=some false;rw[hl,hv];rfl) h
theorem qjT {ns:List Str}{Q:Unit->Shared->Prop}(X:K.In s.heap) (I:ObjM s.heap x dx C mA)
    (hs:W.findIn K (.ref C) "__setattr__" = some (some (.builtin "object.__setattr__"))) (hp:W.plainOver K C=true) (ht:W.takerIn K C name=some none) (hh:W.hasDictIn K C=true)
    (hw:PySem.Within mA ns) (hsz:ns.length<=sizeLine)
    (h:∀ h',ObjM h' x dx C (fun y=>if y=name then some v else mA y)->Heap.SameBut dx s.heap h'->Q () { s with heap:=h',toks:=s.toks+2 }) :
    wpAny (model prog w) A (setAttr (.ref x) name v) Q E s:=by
  obtain⟨od,J,hl⟩:=I.look;refine W.set_plain X J hs (W.osa_open (s:={ s with toks:=s.toks+1 }) (r:=none) X J hp ht fun b=>?_);obtain⟨cd,hc,hd'⟩:=W.any_some hh;have hx:s.heap.get? x=some ⟨.ref C,some dx,.plain,#[]⟩:=I.obj;refine qa (qe (qa (qa (wpAny_loadPart hx (qa (W.Looks.here (s:={ s with toks:=s.toks+1 }) (W.looks_clsIn X hc) ?_))))));rw[hd'];refine qe (a:=some dx) (qa (qe (qa ?_)));refine wpAny_nsSet1 (s:={ s with toks:=s.toks+1 }) I.ns fun h' hn2 hs2=>?_;obtain⟨oD,esD,epD,hoD,hdD,hcD⟩:=hn2.count (PySem.Within.cons name v hw);refine qa (wpAny_lookBehind hoD (by rw[hdD];exact pastItsLine_dict (qt hcD (by rw[yl];omega))) ?_);exact qe (h _ ⟨(hs2.2 _ (Ne.symm I.ne)).trans I.obj,hn2,I.ne⟩ hs2)
theorem qhY {vs:List Value}(X:K.In s.heap) (hm:W.makesIn K C=true)
    (hi:W.findIn K (.ref C) "__init__" = some (some (.ref f))) (hf:W.typeIn K (.ref f)=some (.type "function"))
    (h:codeAny (model prog w) (A.under (.builtin "type.__call__" ⟨.ref C::vs,kw⟩)) (.call (.ref f) ⟨.ref (s.heap.objs.size+1)::vs,kw⟩) (W.InitBack (s.heap.objs.size+1) R)
      { s with heap:=(s.heap.push W.emptyDict).push (W.instObj C s.heap.objs.size) }) :
    codeAny (model prog w) A (.call (.ref C) ⟨vs,kw⟩) R s:=by
  obtain⟨hh,g,d,t,os⟩:=s;exact W.make_core (W.makes_of X hm) (W.looks_findIn X hi) (fun self=>W.bind_fn X self hf) (.inl rfl) h
end
def qaV (f:Str) (v:V):List (Str×V)->List (Str×V)
  | []=>[(f,v)]
  | (g,x)::r=>if g=f then (g,v)::r else (g,x)::qaV f v r
theorem qaa (f g:Str) (v:V):∀ fs:List (Str×V),(qaV f v fs).lookup g=if g=f then some v else fs.lookup g
  | []=>by
    show List.lookup g [(f,v)]=_;by_cases h:g=f
    . have hb:(g == f)=true:=beq_iff_eq.mpr h
      simp only[List.lookup,hb,if_pos h]
    . have hb:(g == f)=false:=beq_eq_false_iff_ne.mpr h
      simp only[List.lookup,hb,if_neg h]
  | (k,x)::r=>by
    have ih:=qaa f g v r;rw[show qaV f v ((k,x)::r)=(if k=f then (k,v)::r else (k,x)::qaV f v r) from rfl];by_cases hk:k=f
    . rw[if_pos hk]
      by_cases h:g=k
      . have hb:(g == k)=true:=beq_iff_eq.mpr h
        simp only[List.lookup,hb,if_pos (h.trans hk)]
      . have hb:(g == k)=false:=beq_eq_false_iff_ne.mpr h
        simp only[List.lookup,hb,if_neg (fun e:g=f=>h (e.trans hk.symm))]
    . rw[if_neg hk]
      by_cases h:g=k
      . have hb:(g == k)=true:=beq_iff_eq.mpr h
        simp only[List.lookup,hb,if_neg (fun e:g=f=>hk (h.symm.trans e))]
      . have hb:(g == k)=false:=beq_eq_false_iff_ne.mpr h
        simp only[List.lookup,hb];exact ih
theorem qae (f:Str) (v:V):∀ fs:List (Str×V),f∈(qaV f v fs).map (·.1)/\∀ g,g∈fs.map (·.1)->g∈(qaV f v fs).map (·.1)
  | []=>⟨by simp[qaV],fun g h=>by simp at h⟩
  | (k,x)::r=>by
    obtain⟨i1,i2⟩:=qae f v r;rw[show qaV f v ((k,x)::r)=(if k=f then (k,v)::r else (k,x)::qaV f v r) from rfl];by_cases hk:k=f
    . rw[if_pos hk]
      subst hk;exact⟨by simp,fun g h=>by simpa using h⟩
    . rw[if_neg hk]
      refine⟨?_,fun g h=>?_⟩
      . rw[yb]
        exact qd _ i1
      . rw[yb] at h ⊢
        rcases qG.mp h with e | e
        . exact qG.mpr (.inl e)
        . exact qd _ (i2 g e)
theorem qab (f:Str) (v:V):∀ fs:List (Str×V),(qaV f v fs).length<=fs.length+1
  | []=>by simp[qaV]
  | (k,x)::r=>by
    have ih:=qab f v r;rw[show qaV f v ((k,x)::r)=(if k=f then (k,v)::r else (k,x)::qaV f v r) from rfl];by_cases hk:k=f
    . rw[if_pos hk,yl,yl];omega
    . rw[if_neg hk,yl,yl];omega
theorem qg7.some_of {o:Option Value}(r:qg7 (some v) o):∃ u,o=some u/\jw v u:=by
  cases o with
  | none=>exact (show False from r).elim
  | some u=>exact⟨u,rfl,r⟩
theorem qg7.none_of {o:Option Value}(r:qg7 none o):o=none:=by
  cases o with
  | none=>rfl
  | some u=>exact (show False from r).elim
theorem qgn (r:jw v u):W.handedIn u=true:=by
  cases v with
  | non=>cases (show u=Value.none from r);rfl
  | bl b=>cases (show u=Value.bool b from r);rfl
  | int i=>obtain⟨t,e⟩:=(show ∃ t,u=Value.int i t from r);cases e;rfl
  | str x=>obtain⟨t,e⟩:=(show ∃ t,u=Value.str x t from r);cases e;rfl
  | byt b=>obtain⟨t,e⟩:=(show ∃ t,u=Value.bytes b t from r);cases e;rfl
  | flt b=>obtain⟨t,e⟩:=(show ∃ t,u=Value.float b t from r);cases e;rfl
  | ref a=>cases (show u=Value.ref a from r);rfl
  | ty n=>cases (show u=Value.type n from r);rfl
section
variable {fs fs':List (Str×V)}
theorem qcB (hok:HOk P w H h) (e:H a=some (.ins C dx fs)):∃ mA,ObjM h a dx C mA/\(∀ f,qg7 (fs.lookup f) (mA f))/\PySem.Within mA (fs.map (·.1))/\fs.length<=1000/\H dx=some (.own a):=by
  obtain⟨d,z,ne,ob,mA,n,r,q⟩:=(show jK P w H h a (.ins C dx fs) from hok a _ e);exact⟨mA,⟨ob,n,ne⟩,r,q,z,d⟩
end
structure Cls (K:W.Frag) (C:Addr):Prop where
  pg:W.plainGet K C Str.empty=true
  hd:W.hasDictIn K C=true
  po:W.plainOver K C=true
  sa:W.findIn K (.ref C) "__setattr__" = some (some (.builtin "object.__setattr__"))
theorem Cls.get (c:Cls K C) (f:Str):W.plainGet K C f=true:=c.pg
def YB (K:W.Frag) (C:Addr) (f:Str):Prop:=W.findIn K (.ref C) f=some none
theorem YB.taker (n:YB K C f):W.takerIn K C f=some none:=by
  unfold W.takerIn;rw[show W.findIn K (.ref C) f=some none from n];rfl
structure Meth (K:W.Frag) (C:Addr) (m:Str) (f:Addr):Prop where
  at_:W.findIn K (.ref C) m=some (some (.ref f))
  fn:W.isFn K (.ref f)=true
  kp:W.keepIn K (.ref f)=true
section
variable {fs:List (Str×V)}
theorem qd6 (I:Inv X Ob G H s) (e:H a=some (.ins C dx fs)) (c:Cls X.K C) (n:YB X.K C f) (l:fs.lookup f=some v)
    (h:∀ u s',Inv X Ob G H s'->jw v u->Q u s'):wpAny (model X.prog X.w) A (getAttr (.ref a) f b) Q E s:=by
  obtain⟨mA,Oa,r,_,_,_⟩:=qcB I.hok e;obtain⟨u,hu,ru⟩:=qg7.some_of (v:=v) (o:=mA f) (by rw[<- l];exact r f);exact qkS I.kIn Oa (c.get f) c.hd n hu (qgn ru) (h u _ (I.tok _) ru)
theorem qaE {m:Str}{g:Addr}{Q:Value×List Value->Shared->Prop}(I:Inv X Ob G H s) (e:H a=some (.ins C dx fs)) (c:Cls X.K C) (k:Meth X.K C m g) (l:fs.lookup m=none)
    (h:Q (.ref g,[.ref a]) s):wpAny (model X.prog X.w) A (getMethod (.ref a) m pl) Q E s:=by
  obtain⟨mA,Oa,r,_,_,_⟩:=qcB I.hok e;have hn:mA m=none:=qg7.none_of (by rw[<- l];exact r m);exact qh6 I.kIn Oa (c.get m) k.at_ k.fn hn h
theorem qdV {Q:Unit->Shared->Prop}(I:Inv X Ob G H s) (e:H a=some (.ins C dx fs)) (c:Cls X.K C) (n:YB X.K C f) (hl:fs.length<1000) (ry:jw y u)
    (h:∀ s',Inv X Ob G (upd H a (.ins C dx (qaV f y fs))) s'->Q () s'):wpAny (model X.prog X.w) A (setAttr (.ref a) f u) Q E s:=by
  obtain⟨mA,Oa,r,wi,_,ho⟩:=qcB I.hok e;have hz:(fs.map (·.1)).length<=sizeLine:=by rw[qc,sizeLine_eq];omega
  refine qjT I.kIn Oa c.sa c.po n.taker c.hd wi hz fun h' Oa' sb=>h _ ?_;have hd:∃ o,h'.get? dx=some o:=let ⟨o,_,_,e',_⟩:=Oa'.ns;⟨o,e'⟩;refine I.write (x:=a) (e:=dx) (by rw[e];exact True.intro) (.inr ho) (fun b q hb z=>(sb.2 b hb).trans z) hd ?_;refine⟨by rw[qV Oa.ne];exact ho,?_,Oa.ne,Oa'.obj,_,Oa'.ns,fun g=>?_,fun g hg=>?_⟩
  . have:=qab f y fs;omega
  . show qg7 ((qaV f y fs).lookup g) (if g=f then some u else mA g)
    rw[qaa];by_cases q:g=f
    . rw[if_pos q,if_pos q];exact ry
    . rw[if_neg q,if_neg q];exact r g
  . by_cases q:g=f
    . rw[q];exact (qae f y fs).1
    . refine (qae f y fs).2 g (wi g fun z=>hg ?_)
      show (if g=f then some u else mA g)=none;rw[if_neg q];exact z
theorem Inv.made (I:Inv X Ob G H s):Inv X Ob G (upd (upd H s.heap.objs.size (.own (s.heap.objs.size+1))) (s.heap.objs.size+1) (.ins C s.heap.objs.size []))
    { s with heap:=(s.heap.push W.emptyDict).push (W.instObj C s.heap.objs.size) }:=by
  have e1:(s.heap.push W.emptyDict).get? s.heap.objs.size=some W.emptyDict:=qA s.heap rfl;have e2:((s.heap.push W.emptyDict).push (W.instObj C s.heap.objs.size)).get? (s.heap.objs.size+1)=some (W.instObj C s.heap.objs.size):=by
    have:=qA (s.heap.push W.emptyDict) (o:=W.instObj C s.heap.objs.size) rfl;rwa[JD] at this
  have e3:(s.heap.push W.emptyDict).Ns s.heap.objs.size (fun _=>none):=⟨W.emptyDict,#[],_,e1,rfl,(fun e he=>absurd he (by simp)),fun _=>rfl⟩;have I1:=I.laid (a:=s.heap.objs.size) (o:=.own (s.heap.objs.size+1)) (h':=s.heap.push W.emptyDict) (t':=s.toks) (fun b u q=>qh _ q) (qo _) ⟨_,e1⟩;refine I1.laid (a:=s.heap.objs.size+1) (o:=.ins C s.heap.objs.size []) (t':=s.toks) (fun b u q=>qh _ q) (Nat.le_of_eq (JD _ _)) ?_;have ne:s.heap.objs.size≠s.heap.objs.size+1:=qp (y4 _);refine⟨by rw[qV ne,qU],qZ _,ne,e2,fun _=>none,(Heap.Ns1.of_empty e3).at fun o q=>qh _ q,fun _=>True.intro,fun y hy=>absurd rfl hy⟩
theorem qls (hb:attributeBase e f env (eval e env)=eval e env)
    (h:wpAny (model prog w) A (eval e env) (fun o sa1=>wpAny (model prog w) A (getAttr o f true) Q E sa1) E s):wpAny (model prog w) A (eval (.Attribute e f pos) env) Q E s :=
  Attribute_any_ h (by rw[arm_eval_Attribute,hb])
end
def tFld (K:W.Frag) (ta:TE) (f:Str):TE:=fun G H Q=>ta G H fun x H1=>∃ a C dx fs v,x = .ref a/\H1 a=some (.ins C dx fs)/\Cls K C/\YB K C f/\fs.lookup f=some v/\Q v H1
def sFld (K:W.Frag) (ta tv:TE) (f:Str):TS:=fun D G H=>tv G H fun y H1=>ta G H1 fun x H2=>∃ a C dx fs,x = .ref a/\H2 a=some (.ins C dx fs)/\Cls K C/\YB K C f/\fs.length<1000 ∧
  D.nx G (upd H2 a (.ins C dx (qaV f y fs)))
section
variable {tv:TE}
theorem qmC (he:PE X e ta) (hb:attributeBase e f X.env (eval e X.env)=eval e X.env):PE X (.Attribute e f pos) (tFld X.K ta f):=by
  intro Ob s G H Q I h;refine qls hb (thn (he Ob s G H _ I h) fun u s1 ⟨x,H1,I1,rx,a,C,dx,fs,v,ex,ea,c,n,l,q⟩=>?_);subst ex;obtain rfl:u=Value.ref a:=rx;exact qd6 I1 ea c n l fun u' s2 I2 ru=>⟨v,H1,I2,ru,q⟩
theorem qmv (ha:PE X o ta) (hv:PE X value tv) (hs:swapsWith value (some (.Attribute o f pos')) pos.line X.env=pure false):PS X (.Assign [.Attribute o f pos'] value pos) (sFld X.K ta tv f):=by
  intro Ob s G H D I h;refine plainObj_wpAny_Assign_Attribute (thn (hv Ob s G H _ I h) fun u s1 ⟨y,H1,I1,ry,q⟩=>thn (ha Ob s1 G H1 _ I1 q) fun ov s2 ⟨x,H2,I2,rx,a,C,dx,fs,ex,ea,c,n,l,q2⟩=>?_) hs;subst ex;obtain rfl:ov=Value.ref a:=rx;exact qdV I2 ea c n l ry fun s3 I3=>⟨G,_,I3,q2⟩
end
section
variable {c:Value}
inductive TyOf (K:W.Frag) (H:Hp):V->Value->Prop where
  | non:TyOf K H .non (.type "NoneType")
  | bl (x:Bool):TyOf K H (.bl x) (.type "bool")
  | int (i:Int):TyOf K H (.int i) (.type "int")
  | str (x:Str):TyOf K H (.str x) (.type "str")
  | flt (x:UInt64):TyOf K H (.flt x) (.type "float")
  | lst {a:Addr}{xs:List V}(e:H a=some (.lst xs)):TyOf K H (.ref a) (.type "list")
  | frz {a:Addr}{o:Obj}{xs:List V}(e:H a=some (.frz o (.lst xs))):TyOf K H (.ref a) (.type "list")
  | tup {a:Addr}{xs:List V}(e:H a=some (.tup xs)):TyOf K H (.ref a) (.type "tuple")
  | dK {a:Addr}{kvs:List (Key×V)}(e:H a=some (.dK kvs)):TyOf K H (.ref a) (.type "dict")
  | dT {a:Addr}{kvs:List (List Key×V)}(e:H a=some (.dT kvs)):TyOf K H (.ref a) (.type "dict")
  | ins {a C dx:Addr}{fs:List (Str×V)}(e:H a=some (.ins C dx fs)) (cl:Cls K C) (ha:W.findIn K (.ref C) "__class__" = some (some (.builtin "object.__class__")))
      (hn:W.specialIn K (.builtin "object.__class__") "__get__" = some (some (.builtin "getset_descriptor.__get__"))) (htk:W.takesIn K (.builtin "object.__class__")=some true)
      (hm:W.mroIn K C (.type "object")=some true):TyOf K H (.ref a) (.ref C)
end
end L2
namespace L2
variable {us:List Value}{te:TE}{E:XK}{v:Value}
structure Room (k:Nat) (A:Around):Prop where
  hd:A.handled=none
  dp:A.depth+3 * k+5<recursionLimit
  un:A.units+16 * k+200<cLine
theorem Room.mono (r:Room k A) (h:j<=k):Room j A:=⟨r.hd,by have:=r.dp;omega,by have:=r.un;omega⟩
theorem Room.mo (r:Room k A) (h:j<=k:=by decide):Room j A:=r.mono h
theorem Room.deeper (r:Room (k+1) A) (env:Env):Room k (A.deeper env) :=
  ⟨r.hd,by have:=r.dp;show A.depth+1+3 * k+5<_;omega,by have:=r.un;show A.units+3+16 * k+200<_;omega⟩
theorem Room.in1 (r:Room (k+1) A):Room k A.in1 :=
  ⟨r.hd,by have:=r.dp;show A.depth+3 * k+5<_;omega,by have:=r.un;show A.units+1+16 * k+200<_;omega⟩
theorem qd4 : (A.under (.builtin "type.__call__" ⟨.ref C::us,kw⟩)).depth=A.depth+1:=by first | rfl | simp[Around.under,Code.weight,Code.isCreation,Code.isGuard,Code.isCaller,Code.frames,Code.isFrame,guardIds]
theorem qd3 : (A.under (.builtin "type.__call__" ⟨.ref C::us,kw⟩)).units=A.units+1:=by first | rfl | simp[Around.under,Code.cUnits,Code.frames,Code.isFrame]
theorem Room.make (r:Room (k+1) A) (C:Addr) (us:List Value) (kw:List (Str×Value)):Room k (A.under (.builtin "type.__call__" ⟨.ref C::us,kw⟩)) :=
  ⟨r.hd,by have:=r.dp;rw[qd4];omega,by have:=r.un;rw[qd3];omega⟩
theorem Room.depth (r:Room k A):A.depth<recursionLimit:=by have:=r.dp;omega
theorem Room.units (r:Room k A):A.units+64<cLine:=by have:=r.un;omega
def tNil:TA:=fun _ H Q=>Q [] H
def tCons (ta:TE) (tr:TA):TA:=fun G H Q=>ta G H fun x H1=>tr G H1 fun xs H2=>Q (x::xs) H2
theorem Js:PA X [] tNil:=fun _ _ _ _ H Q I h=>Calls.spliced_nil ⟨[],H,I,.nil,h⟩
theorem yy (ha:PE X e te) (hr:PA X es t) (hs:starEach (e::es) X.env=(false,eval e X.env)::starEach es X.env:=by rfl):PA X (e::es) (tCons te t):=by
  intro pos Ob s G H Q I h;rw[hs];show wpAny _ _ (spliced ((false,eval e X.env)::backTo pos (starEach es X.env))) _ _ s;refine Calls.spliced_cons (thn (ha Ob s G H _ I h) fun u s1 ⟨x,H1,I1,r1,q1⟩=>?_);exact thn (hr pos Ob s1 G H1 _ I1 q1) fun us s2 ⟨xs,H2,I2,r2,q2⟩=>⟨x::xs,H2,I2,.cons r1 r2,q2⟩
def tTup (t:TA):TE:=fun G H Q=>t G H fun xs H1=>xs.length<=sizeLine/\∀ p,H1 p=none->Q (.ref p) (upd H1 p (.tup xs))
def tLst (t:TA):TE:=fun G H Q=>t G H fun xs H1=>xs.length<=sizeLine/\∀ p,H1 p=none->Q (.ref p) (upd H1 p (.lst xs))
theorem Z5 {x1} (h:PA X es t):PE X (.Tuple es x1 pos) (tTup t):=by
  intro Ob s G H Q I hq;refine wpAny_Tuple_spliced (thn (h pos Ob s G H _ I hq) fun us s1 ⟨xs,H1,I1,r,z,q⟩=>⟨by rw[<- r.length];exact z,?_⟩);have hf:H1 s1.heap.objs.size=none:=I1.hok.fresh (qo _);refine⟨.ref s1.heap.objs.size,upd H1 s1.heap.objs.size (.tup xs),I1.laid (t':=s1.toks) (fun b u e=>qh _ e) (qo _) ?_,rfl,q _ hf⟩;exact⟨z,us,r,⟨_,qA _ rfl,rfl,_,rfl⟩⟩
theorem qfu (h:PA X es t):PE X (.List es pos) (tLst t):=by
  intro Ob s G H Q I hq;refine wpAny_List_spliced (thn (h pos Ob s G H _ I hq) fun us s1 ⟨xs,H1,I1,r,z,q⟩=>⟨by rw[<- r.length];exact z,?_⟩);have hf:H1 s1.heap.objs.size=none:=I1.hok.fresh (qo _);refine⟨.ref s1.heap.objs.size,upd H1 s1.heap.objs.size (.lst xs),I1.laid (t':=s1.toks) (fun b u e=>qh _ e) (qo _) ?_,rfl,q _ hf⟩;exact⟨z,us,0,r,qA _ rfl⟩
abbrev Sp:=List V->Hp->VK->XK->Prop
abbrev CXT:=List Env->Hp->Shared->XK->Value->Shared->Prop
structure Env0 (P:Program) (w:World) (K:W.Frag) (mg:Str->Option Value) (base:Heap) (A:Around) (outer:List Env) (s:Shared) (H:Hp):Prop where
  frames:A.frames=some outer
  mod:Mod K mg base
  bs:∀ b o,base.get? b=some o->s.heap.get? b=some o/\H b=none
  bsz:base.objs.size<=s.heap.objs.size
  funs:s.heap.FunFrames base outer
  frf:∀ b∈frs outer,H b=none
  hok:HOk P w H s.heap
  bare:AllBare s.gens
def CE (outer:List Env) (P:Program) (w:World) (H:Hp) (s:Shared) (Q:VK) (u:Value) (s':Shared):Prop :=
  ∃ v H',s'.os=s.os/\AllBare s'.gens/\Un (frs outer) [] H H' s.heap s'.heap/\HOk P w H' s'.heap/\jw v u/\Q v H'
def CR (CX:CXT) (outer:List Env) (P:Program) (w:World) (H:Hp) (s:Shared) (Q:VK) (E:XK) (r:Result) (s':Shared):Prop :=
  match r with
  | .ok (.ret u)=>CE outer P w H s Q u s'
  | .ok _=>False
  | .error e=>CX outer H s E e s'
structure FnOk (P:Program) (w:World) (K:W.Frag) (mg:Str->Option Value) (base:Heap) (CX:CXT) (k:Nat) (f:Addr) (fd:FuncData) (ps:List Str) (sp:Sp):Prop where
  len:∀ vs H Q E,sp vs H Q E->vs.length=ps.length
  run:∀ (A:Around) (outer:List Env) (s:Shared) (H:Hp) (args:Args) (us:List Value) (vs:List V) (Q:VK) (E:XK),Room k A->Env0 P w K mg base A outer s H->BindsTo s fd args (ps.zip us)->yN vs us->sp vs H Q E →
    codeAny (model P w) A (.call (.ref f) args) (CR CX outer P w H s Q E) s
theorem FnOk.imp {CX:CXT}{sp sp':Sp}(F:FnOk P w K mg base CX k f fd ps sp)
    (h:∀ vs H Q E,sp' vs H Q E->sp vs H Q E):FnOk P w K mg base CX k f fd ps sp' :=
  ⟨fun vs H Q E q=>F.len vs H Q E (h _ _ _ _ q),fun A outer s H args us vs Q E hr he hb hv hs=>F.run A outer s H args us vs Q E hr he hb hv (h _ _ _ _ hs)⟩
theorem Env0.make (e:Env0 P w K mg base A outer s H) (C:Addr) (us:List Value) (kw:List (Str×Value)) :
    Env0 P w K mg base (A.under (.builtin "type.__call__" ⟨.ref C::us,kw⟩)) outer s H:=⟨by first | exact e.frames | (simpa[Around.under,Code.envs,Code.isFrame,pushEnvs] using e.frames),e.mod,e.bs,e.bsz,e.funs,e.frf,e.hok,e.bare⟩
theorem Inv.env0 (I:Inv X Ob G H s):Env0 X.prog X.w X.K X.mg X.base X.A X.stack s H :=
  ⟨I.ok.frames,I.ok.mod,I.bs,qt I.ok.bsz I.sz,I.stack,I.stkFree,I.hok,I.bare⟩
theorem Inv.after (I:Inv X Ob G H s) (h:CE X.stack X.prog X.w H s Q u s'):EP X Ob G Q u s':=by
  obtain⟨v,H',os,bare,un,hok,r,q⟩:=h;obtain⟨hh,g,d,t,os'⟩:=s';obtain rfl:os'=s.os:=os;exact⟨v,H',I.call (h':=hh) (g':=g) (d':=d) (t':=t) (ch:=[]) un hok bare (fun b z=>absurd z (by simp)),r,q⟩
def qhi (sp:Sp) (dvs:List V) (E:XK) (t:TA):TE:=fun G H Q=>t G H fun vs H1=>sp (vs++dvs) H1 Q E
def qlQ (C:Addr) (m:Str) (sp:Sp) (dvs:List V) (E:XK) (ta:TE) (t:TA):TE:=fun G H Q=>ta G H fun x H1=>∃ a dx fs,x = .ref a/\H1 a=some (.ins C dx fs)/\fs.lookup m=none ∧
  t G H1 fun vs H2=>sp (x::(vs++dvs)) H2 Q E
def tMake (C:Addr) (sp:Sp) (dvs:List V) (E:XK) (t:TA):TE:=fun G H Q=>t G H fun vs H1=>∀ x dx,H1 x=none->H1 dx=none->dx≠x →
  sp (.ref x::(vs++dvs)) (upd (upd H1 dx (.own x)) x (.ins C dx [])) (fun v H2=>v = .non/\Q (.ref x) H2) E
def Zs (K:W.Frag) (fd:FuncData) (ps:List Str) (ds:List Value):Prop :=
  ∀ (s:Shared) (us:List Value),K.In s.heap->(us++ds).length=ps.length->BindsTo s fd ⟨us,[]⟩ (ps.zip (us++ds))
theorem Zs.all (h:∀ us:List Value,us.length=ps.length->bindArgs fd ⟨us,[]⟩=pure (ps.zip us)):Zs K fd ps []:=fun s us _ hl=>by
  rw[jt] at hl ⊢;exact .of_eq (h us hl)
def YA (CX:CXT) (X:Cx) (E:XK):Prop:=∀ (Ob:List (Addr×Obj)) (G:St) (H:Hp) (s:Shared) (e:Value) (s':Shared),Inv X Ob G H s->CX X.stack H s E e s'->X.xe e s'
section
variable {CX:CXT}{sp:Sp}{dvs:List V}{ds:List Value}{m:Str}{p:Pos}
theorem qe8 (F:FnOk X.prog X.w X.K X.mg X.base CX k f fd ps sp) (hr:Room k X.A) (hb:Zs X.K fd ps ds) (hd:yN dvs ds) (hx:YA CX X E)
    (I:Inv X Ob G H s) (r:yN vs us) (h:sp (vs++dvs) H Q E):wpAny (model X.prog X.w) X.A (call (.ref f) us) (EP X Ob G Q) X.xe s:=by
  have r2:yN (vs++dvs) (us++ds):=r.append hd;have hl:(us++ds).length=ps.length:=by rw[<- r2.length];exact F.len _ _ _ _ h
  refine wpAny_call (codeAny_mono (F.run X.A X.stack s H ⟨us,[]⟩ (us++ds) (vs++dvs) Q E hr I.env0 (hb s us I.kIn hl) r2 h) fun r s' hq=>?_);cases r with
  | error e=>exact hx Ob G H s e s' I hq
  | ok fl =>
    cases fl with
    | ret u=>exact I.after hq
    | next=>exact False.elim hq
    | brk=>exact False.elim hq
    | cont=>exact False.elim hq
theorem qfx (F:FnOk X.prog X.w X.K X.mg X.base CX k f fd ps sp) (hr:Room k X.A) (hg:Gl X x) (hm:X.mg x=some (.ref f)) (hk:W.keepIn X.K (.ref f)=true) (hb:Zs X.K fd ps ds) (hd:yN dvs ds) (hx:YA CX X E)
    (ha:PA X (e::es) t) (hdb:(x == ("__debug__" : Str))=false:=by decide) (he:starEach (e::es) X.env=(false,eval e X.env)::starEach es X.env:=by rfl) (hpl:(backTo pos (starEach es X.env)).any (·.1)=false:=by rfl) :
    PE X (.Call (.Name x p) (e::es) [] pos) (qhi sp dvs E t):=by
  intro Ob s G H Q I h;refine JQ (Zj I hg hm ?_ hdb);refine W.callWith_K (h₀:=X.base) I.ok.mod.kin hk (thn (ha pos Ob s G H _ I h) fun us s1 ⟨vs,H1,I1,r,q⟩=>⟨I1.kIn,?_⟩) he hpl;exact qe8 F hr hb hd hx I1 r q
theorem Z7 (he:PE X o ta) (c:Cls X.K C) (hm:Meth X.K C m f) (F:FnOk X.prog X.w X.K X.mg X.base CX k f fd ps sp) (hr:Room k X.A) (hb:Zs X.K fd ps ds) (hd:yN dvs ds) (hx:YA CX X E) (ha:PA X (e::es) t)
    (hst:starEach (e::es) X.env=(false,eval e X.env)::starEach es X.env:=by rfl) (hpl:(backTo pos (starEach es X.env)).any (·.1)=false:=by rfl)
    (ht:eval (.Call (.Attribute o m apos) (e::es) [] pos) X.env=(do
      let ov <- eval o X.env
      standAt apos.atName
      let (f,first) <- holding [ov] (getMethod ov m pl)
      callWith pos f first (backTo pos (starEach (e::es) X.env)) (backToKw pos (keywordEach [] X.env))):=by rfl) :
    PE X (.Call (.Attribute o m apos) (e::es) [] pos) (qlQ C m sp dvs E ta t):=by
  intro Ob s G H Q I h;refine W.methodCall_KW (pl:=pl) (thn (he Ob s G H _ I h) fun u s1 ⟨x,H1,I1,rx,a,dx,fs,ex,ea,l,q⟩=>?_) ht;subst ex;obtain rfl:u=Value.ref a:=rx;refine qaE I1 ea c hm l ?_;refine W.callWith_K (first:=[.ref a]) (h₀:=X.base) I.ok.mod.kin hm.kp (thn (ha pos Ob s1 G H1 _ I1 q) fun us s2 ⟨vs,H2,I2,r,q2⟩=>⟨I2.kIn,?_⟩) hst hpl;exact qe8 (us:=.ref a::us) (vs:=.ref a::vs) F hr hb hd hx I2 (.cons rfl r) q2
theorem qhF (he:PE X o ta) (c:Cls X.K C) (hm:Meth X.K C m f) (F:FnOk X.prog X.w X.K X.mg X.base CX k f fd ps sp) (hr:Room k X.A) (hb:Zs X.K fd ps ds) (hd:yN dvs ds) (hx:YA CX X E)
    (ht:eval (.Call (.Attribute o m apos) [] [] pos) X.env=(do
      let ov <- eval o X.env
      standAt apos.atName
      let (f,first) <- holding [ov] (getMethod ov m pl)
      callWith pos f first (backTo pos (starEach [] X.env)) (backToKw pos (keywordEach [] X.env))):=by rfl) :
    PE X (.Call (.Attribute o m apos) [] [] pos) (qlQ C m sp dvs E ta tNil):=by
  intro Ob s G H Q I h;refine W.methodCall_KW (pl:=pl) (thn (he Ob s G H _ I h) fun u s1 ⟨x,H1,I1,rx,a,dx,fs,ex,ea,l,q⟩=>?_) ht;subst ex;obtain rfl:u=Value.ref a:=rx;refine qaE I1 ea c hm l ?_;exact W.callWith_K0 (first:=[.ref a]) I1.kIn hm.kp (qe8 (us:=[.ref a]) (vs:=[.ref a]) F hr hb hd hx I1 (.cons rfl .nil) q)
structure Mk (K:W.Frag) (C f:Addr):Prop where
  makes:W.makesIn K C=true
  init:W.findIn K (.ref C) "__init__" = some (some (.ref f))
  fn:W.isFn K (.ref f)=true
  kp:W.keepIn K (.ref C)=true
theorem qho (M:Mk X.K C f) (F:FnOk X.prog X.w X.K X.mg X.base CX k f fd ps sp) (hr:Room (k+1) X.A) (hb:Zs X.K fd ps ds) (hd:yN dvs ds)
    (hx:YA CX X E) (I:Inv X Ob G H s) (r:yN vs us)
    (h:∀ x dx,H x=none->H dx=none->dx≠x->sp (.ref x::(vs++dvs)) (upd (upd H dx (.own x)) x (.ins C dx [])) (fun v H2=>v = .non/\Q (.ref x) H2) E) :
    wpAny (model X.prog X.w) X.A (call (.ref C) us) (EP X Ob G Q) X.xe s:=by
  have hq:=h (s.heap.objs.size+1) s.heap.objs.size (I.hok.fresh (Nat.le_succ _)) (I.hok.fresh (qo _)) (qp (y4 _));have I2:=Inv.made (C:=C) I;have r2:yN (V.ref (s.heap.objs.size+1)::(vs++dvs)) (Value.ref (s.heap.objs.size+1)::(us++ds)):=.cons rfl (r.append hd);have hl:(Value.ref (s.heap.objs.size+1)::us++ds).length=ps.length:=by
    have e:=r2.length;rw[F.len _ _ _ _ hq] at e;exact e.symm
  refine wpAny_call (qhY (f:=f) I.kIn M.makes M.init (beq_iff_eq.mp M.fn) (codeAny_mono (F.run _ X.stack _ _ ⟨Value.ref (s.heap.objs.size+1)::us,[]⟩ (Value.ref (s.heap.objs.size+1)::(us++ds)) _ _ E (hr.make C us [])
    (I2.env0.make C us []) (hb _ (Value.ref (s.heap.objs.size+1)::us) I2.kIn hl) r2 hq) fun r s' hq'=>?_))
  cases r with
  | error e=>exact hx Ob G _ _ e s' I2 hq'
  | ok fl =>
    cases fl with
    | ret u =>
      obtain⟨v,H',I3,rv,ev,q3⟩:=I2.after hq';subst ev;exact⟨rv,⟨V.ref (s.heap.objs.size+1),H',I3,rfl,q3⟩⟩
    | next=>exact False.elim hq'
    | brk=>exact False.elim hq'
    | cont=>exact False.elim hq'
theorem qkc (M:Mk X.K C f) (F:FnOk X.prog X.w X.K X.mg X.base CX k f fd ps sp) (hr:Room (k+1) X.A) (hg:Gl X x) (hm:X.mg x=some (.ref C)) (hb:Zs X.K fd ps ds) (hd:yN dvs ds) (hx:YA CX X E)
    (ha:PA X (e::es) t) (hdb:(x == ("__debug__" : Str))=false:=by decide) (he:starEach (e::es) X.env=(false,eval e X.env)::starEach es X.env:=by rfl) (hpl:(backTo pos (starEach es X.env)).any (·.1)=false:=by rfl) :
    PE X (.Call (.Name x p) (e::es) [] pos) (tMake C sp dvs E t):=by
  intro Ob s G H Q I h;refine JQ (Zj I hg hm ?_ hdb);refine W.callWith_K (h₀:=X.base) I.ok.mod.kin M.kp (thn (ha pos Ob s G H _ I h) fun us s1 ⟨vs,H1,I1,r,q⟩=>⟨I1.kIn,?_⟩) he hpl;exact qho M F hr hb hd hx I1 r q
end
section
variable {CX:CXT}{ks:List Str}{sp:Sp}{m:Str}{p kpos:Pos}{kws:List Keyword}{tk:TA}{nm:Option Str}
variable {g:List Value->List Value->List Value}{gV:List V->List V->List V}
end
structure FnScope (N P:List Str) (sc:Scope):Prop where
  kind:sc.kind = .function
  co:sc.isCoroutine=false
  gen:sc.isGenerator=false
  nd:N.Nodup
  pre:N.take P.length=P
  par:∀ x∈P,sc.names.lookup x=some .local\/sc.names.lookup x=some .cell
  nofree:∀ y∈sc.names,y.2≠.free
theorem qb9 {kindOf:Str->Option NameKind}:∀ {binds:List (Str×Value)}{m:Str->Option Value},(∀ v,(x,v)∉binds)->bindL kindOf binds m x=m x
  | [],_,_=>rfl
  | (n,v)::r,m,h=>by
    unfold bindL;rw[qb9 fun w hw=>h w (qd _ hw)];split
    . have:x≠n:=by rintro rfl;exact h v qi
      simp[this]
    . rfl
theorem qcb {kindOf:Str->Option NameKind}:∀ {binds:List (Str×Value)}{m:Str->Option Value},(∀ v,(x,v)∉binds)->bindC kindOf binds m x=m x
  | [],_,_=>rfl
  | (n,v)::r,m,h=>by
    unfold bindC;rw[qcb fun w hw=>h w (qd _ hw)];split
    . rfl
    . have:x≠n:=by rintro rfl;exact h v qi
      simp[this]
theorem qca {kindOf:Str->Option NameKind}:∀ {P:List Str}{vs:List Value}{i:Nat}{m:Str->Option Value},P.Nodup->P[i]?=some x->vs[i]?=some v->kindOf x=some .local →
    bindL kindOf (P.zip vs) m x=some v
  | [],_,_,_,_,h,_,_=>by simp at h
  | _::_,[],_,_,_,_,h,_=>by simp at h
  | p::P,w::vs,0,m,nd,h1,h2,hk=>by
    simp at h1 h2;subst h1;subst h2;show bindL kindOf ((p,w)::P.zip vs) m p=_;unfold bindL;rw[qb9 fun v hv=>(yx.mp nd).1 (List.of_mem_zip hv).1,if_pos hk];simp
  | p::P,w::vs,i+1,m,nd,h1,h2,hk=>by
    show bindL kindOf ((p,w)::P.zip vs) m x=_;unfold bindL;exact qca (i:=i) (yx.mp nd).2 (by simpa using h1) (by simpa using h2) hk
theorem qcc {kindOf:Str->Option NameKind}:∀ {P:List Str}{vs:List Value}{i:Nat}{m:Str->Option Value},P.Nodup->P[i]?=some x->vs[i]?=some v->kindOf x≠some .local →
    bindC kindOf (P.zip vs) m x=some v
  | [],_,_,_,_,h,_,_=>by simp at h
  | _::_,[],_,_,_,_,h,_=>by simp at h
  | p::P,w::vs,0,m,nd,h1,h2,hk=>by
    simp at h1 h2;subst h1;subst h2;show bindC kindOf ((p,w)::P.zip vs) m p=_;unfold bindC;rw[qcb fun v hv=>(yx.mp nd).1 (List.of_mem_zip hv).1,if_neg hk];simp
  | p::P,w::vs,i+1,m,nd,h1,h2,hk=>by
    show bindC kindOf ((p,w)::P.zip vs) m x=_;unfold bindC;exact qcc (i:=i) (yx.mp nd).2 (by simpa using h1) (by simpa using h2) hk
def JT (N:List Str) (vs:List V):St:=vs.map some++List.replicate (N.length - vs.length) none
def qao (CX:CXT) (P:Program) (w:World) (K:W.Frag) (mg:Str->Option Value) (base:Heap) (N:List Str) (qual:Str) (scope:Scope) (f:Addr) (cd:Value) (A:Around) (outer:List Env) (s:Shared) (H:Hp) (E:XK):Cx where
  prog:=P
  w:=w
  K:=K
  mg:=mg
  base:=base
  A:=A.deeper (envOfC qual scope s.heap.objs.size f cd)
  N:=N
  s₀:=s
  H₀:=H
  env:=envOfC qual scope s.heap.objs.size f cd
  outer:=outer
  stack:=envOfC qual scope s.heap.objs.size f cd::outer
  ex:=[]
  calm:=true
  fn:=fun _=>true
  pn:=[]
  xe:=fun e s'=>wpAny (model P w) (A.deeper (envOfC qual scope s.heap.objs.size f cd)) (leaving (envOfC qual scope s.heap.objs.size f cd) e) (fun _ s''=>CX outer H s E e s'') (fun e' s''=>CX outer H s E e' s'') s'
theorem qdG (h:sc.names.lookup x=some .cell):∃ c,(cellsFrom n sc.names []).lookup x=some c:=by
  have q:=W.cellsFrom_some sc.names n [] (.inl h);exact Option.isSome_iff_exists.mp q
theorem qbU {CX:CXT}{s1:Shared}
    (S:FnScope N ps scope) (hd:A.handled=none) (e0:Env0 P w K mg base A outer s H) (hl:vs.length=ps.length) (r:yN vs us)
    (x:InCallC s s.heap.objs.size (bindL (envOfC qual scope s.heap.objs.size f cd).kindOf (ps.zip us) fun _=>none) (cellsFrom (s.heap.objs.size+1) scope.names []) (bindC (envOfC qual scope s.heap.objs.size f cd).kindOf (ps.zip us) fun _=>none) s1) :
    Inv (qao CX P w K mg base N qual scope f cd A outer s H E) [] (JT N vs) H s1:=by
  have hpl:ps.length<=N.length:=by have:=congrArg List.length S.pre;rw[yw] at this;omega
  obtain⟨h1,tk,rfl,hk⟩:=x.done;have noA:∀ b:Addr,b∉(qao CX P w K mg base N qual scope f cd A outer s H E).ex:=fun b z=>absurd (show b∈([]:List Addr) from z) (by simp);refine⟨⟨e0.mod,S.kind,rfl,rfl,qo _,fun y z c h1 h2=>?_,fun y hy=>?_,fun y c _ h=>?_,fun _=>hd,Around.frames_deeper e0.frames,.inr ⟨rfl,rfl⟩,fun b z=>absurd z (noA b),e0.bs,e0.bsz,fun b _ _=>noA b,fun b z=>absurd z (noA b),e0.funs,e0.frf⟩,
    rfl,e0.bare,Un.kept hk,⟨_,x.toInCall.ns,fun i y v h1 h2 h3=>?_⟩,fun y c h=>⟨_,x.cell y c h⟩,e0.hok.fresh (qo _),fun y c h=>?_,fun p hp=>absurd (show p∈([]:List (Addr×Obj)) from hp) (by simp),e0.hok.kept hk,?_⟩
  . exact name_of_addr x.apart (PySem.mem_of_lookup h1) (PySem.mem_of_lookup h2)
  . have hy:scope.names.lookup y=some .cell\/scope.names.lookup y=some .free:=hy
    rcases hy with hy | hy
    . exact qdG hy
    . exact absurd rfl (S.nofree _ (PySem.mem_of_lookup hy))
  . exact yn (x.above y c (PySem.mem_of_lookup h))
  . have hi:i<vs.length:=by
      unfold JT at h2;by_cases hi:i<vs.length
      . exact hi
      . rw[q9 (by simpa using hi)] at h2
        rw[yV] at h2;split at h2 <;> cases h2
    have ha:vs[i]?=some v:=by
      unfold JT at h2;rw[qQ (by simpa using hi),qK] at h2;cases e:vs[i]? with
      | none=>rw[e] at h2;cases h2
      | some a=>rw[e] at h2;cases h2;rfl
    obtain⟨u,hu,rv⟩:=r.get ha;have hp:ps[i]?=some y:=by rw[<- S.pre,List.getElem?_take_of_lt (by omega)];exact h1
    have ndP:ps.Nodup:=by rw[<- S.pre];exact S.nd.sublist (List.take_sublist _ _)
    refine⟨u,rv,?_⟩;rcases S.par y (List.mem_of_getElem? hp) with k | k
    . exact .inl ⟨k,qca ndP hp hu k⟩
    . obtain⟨c,e⟩:=qdG (n:=s.heap.objs.size+1) k
      refine .inr ⟨.inl k,c,e,?_⟩;have q:=x.cell y c e;rw[qcc ndP hp hu (by show scope.names.lookup y≠_;rw[k];decide)] at q;exact q
  . exact e0.hok.fresh (yn (x.above y c (PySem.mem_of_lookup h)))
  . unfold JT
    show _=N.length;rw[qv,qc,List.length_replicate];omega
theorem qkV {CX:CXT}{dV kV doc Oh:Value}
    {osl:Array (Option Value)}{sp:Sp}(lk:K.lookup f=some ⟨oc,od,.func (W.fnOf name qual params body scope dV kV doc pm an Oh ct),osl⟩) (hcd:W.codeIn K Oh qual=true) (S:FnScope N ps scope)
    (len:∀ vs H Q E,sp vs H Q E->vs.length=ps.length)
    (hbody:∀ (A:Around) (outer:List Env) (s:Shared) (H:Hp) (vs:List V) (Q:VK) (E:XK),Room k (A.deeper (envOfC qual scope s.heap.objs.size f Oh))->sp vs H Q E →
      ∃ t,PSs (qao CX P w K mg base N qual scope f Oh A outer s H E) body t/\t { nx:=fun _ H'=>Q .non H',rt:=Q } (JT N vs) H) :
    FnOk P w K mg base CX (k+1) f (W.fnOf name qual params body scope dV kV doc pm an Oh ct) ps sp:=by
  refine⟨len,fun A outer s H args us vs Q E hr e0 hb r hsp=>?_⟩;have hl:=len _ _ _ _ hsp;have KX:K.In s.heap:=e0.mod.kin.keeps fun b o e=>(e0.bs b o e).1;have lim:s.heap.NoLimit:=e0.mod.nolimit.keeps fun b o e=>(e0.bs b o e).1;have hkind:∀ y∈ps.zip us,scope.names.lookup y.1=some .local\/(scope.names.lookup y.1=some .cell/\((cellsFrom (s.heap.objs.size+1) scope.names []).lookup y.1).isSome=true):=fun ⟨n,v⟩ hy=>by
    rcases S.par n (List.of_mem_zip hy).1 with q | q
    . exact .inl q
    . exact .inr ⟨q,W.cellsFrom_some _ _ _ (.inl q)⟩
  refine codeAny_call_function hr.depth (KX _ _ lk) rfl S.co S.gen rfl (W.codeRec_of KX hcd) (hb _ _ _ _ ?_);refine wpAny_newFunctionEnv_cells S.kind hkind fun env he s1 x=>?_;subst he;refine⟨lim.keeps x.toInCall.keep,codeAny_func ?_⟩;obtain⟨t,ht,hq⟩:=hbody A outer s H vs Q E (hr.deeper _) hsp;have I:Inv (qao CX P w K mg base N qual scope f Oh A outer s H E) [] (JT N vs) H s1:=qbU S hr.hd e0 hl r x;refine qP (ht [] s1 (JT N vs) H _ I hq) (fun fl s' hs=>?_) fun e s' hs=>hs;have fin:∀ {G':St}{H':Hp}{v:V}{u:Value},Inv (qao CX P w K mg base N qual scope f Oh A outer s H E) [] G' H' s'->jw v u->Q v H'->CE outer P w H s Q u s' :=
    fun {G' H' v u} J rv q=>⟨v,H',J.os,J.bare,J.base,J.hok,rv,q⟩
  cases fl with
  | ret u =>
    obtain⟨v,G',H',J,rv,q⟩:=hs;exact fin J rv q
  | next =>
    obtain⟨G',H',J,q⟩:=hs;exact fin (v:=V.non) (u:=Value.none) J rfl q
  | brk =>
    obtain⟨_,_,_,q⟩:=hs;exact False.elim q
  | cont =>
    obtain⟨_,_,_,q⟩:=hs;exact False.elim q
end L2
variable {CX:L2.CXT}{sp sp':L2.Sp}
namespace L2
section
variable {p:Pos}{id:String}{r:List V->Hp->VK->Prop}
def tCB (r:List V->Hp->VK->Prop) (t:TA):TE:=fun G H Q=>t G H fun vs H1=>r vs H1 Q
theorem YV (hc:jq X (.builtin id) r) (hg:Gl X x) (hm:X.mg x=none) (hv:bootBuiltins x=some (.builtin id)) (ha:PA X (e::es) t) (hn:x ≠ "__name__" := by decide) (hdb:(x == ("__debug__" : Str))=false:=by decide)
    (he:starEach (e::es) X.env=(false,eval e X.env)::starEach es X.env:=by rfl) (hpl:(backTo pos (starEach es X.env)).any (·.1)=false:=by rfl):PE X (.Call (.Name x p) (e::es) [] pos) (tCB r t):=by
  intro Ob s G H Q I h;refine JQ (qad I hg hm hv ?_ hn hdb);exact PyProof.Rows.callWith_builtin1 (thn (ha pos Ob s G H _ I h) fun us s1 ⟨vs,H1,I1,r1,q1⟩=>hc Ob s1 G H1 vs us Q I1 r1 q1) he hpl
theorem qfw (hc:jq X (.type T) r) (hg:Gl X x) (hm:X.mg x=none) (hv:bootBuiltins x=some (.type T)) (ha:PA X (e::es) t) (hn:x ≠ "__name__" := by decide) (hdb:(x == ("__debug__" : Str))=false:=by decide)
    (he:starEach (e::es) X.env=(false,eval e X.env)::starEach es X.env:=by rfl) (hpl:(backTo pos (starEach es X.env)).any (·.1)=false:=by rfl):PE X (.Call (.Name x p) (e::es) [] pos) (tCB r t):=by
  intro Ob s G H Q I h;refine JQ (qad I hg hm hv ?_ hn hdb);exact PyProof.Rows.callWith_type1 (thn (ha pos Ob s G H _ I h) fun us s1 ⟨vs,H1,I1,r1,q1⟩=>hc Ob s1 G H1 vs us Q I1 r1 q1) he hpl
end
end L2
namespace HT
open PySem PyProof.Rows
section
open PySem.SeqAt
open PySem.AutoSeq1 (wpAny_loadPart')
open PySem.MeetsSeq PySem.MeetsSeq2 PySem.MeetsSeq3
end
def sIx (n d:Nat):Option Int->Nat
  | none=>d
  | some v=>if v<0 then (v+(n:Int)).toNat else min v.toNat n
end HT
namespace L2
abbrev TO:=St->Hp->(Option Int->Hp->Prop)->Prop
def PO (X:Cx) (e:Option Expr) (t:TO):Prop :=
  ∀ Ob s G H (Q:Option Int->Hp->Prop),Inv X Ob G H s->t G H Q →
    wpAny (model X.prog X.w) X.A (evalPart e X.env) (fun u s'=>∃ o H',Inv X Ob G H' s'/\IsPart u o/\Q o H') X.xe s
def qjO:TO:=fun _ H Q=>Q none H
def tPart (t:TE):TO:=fun G H Q=>t G H fun x H1=>∃ i,x = .int i/\Q (some i) H1
theorem qd5 : ∀ {us:List Value},yN (ns.map V.int) us->IntsAre us ns:=by
  induction ns with
  | nil=>intro us r;rw[List.map_nil] at r;cases r;exact .nil
  | cons n ns ih =>
    intro us r;rw[yb] at r;cases r with
    | cons r1 r2 =>
      obtain⟨t,e⟩:=r1;subst e;exact .cons n t (ih r2)
section
variable {te:TE}{lo hi:Option Expr}{tl th:TO}{p2:Pos}
theorem qj6:PO X none qjO:=by
  intro Ob s G H Q I h;rw[evalPart_none];exact qe ⟨none,H,I,.none,h⟩
theorem qj5 (h:PE X e te):PO X (some e) (tPart te):=by
  intro Ob s G H Q I hw;rw[evalPart_some];refine thn (h Ob s G H _ I hw) fun u s1 Og=>?_;obtain⟨x,H1,I1,r1,q1⟩:=Og;obtain⟨i,rfl,q⟩:=q1;obtain⟨t,rfl⟩:=r1;exact⟨some i,H1,I1,.int i t,q⟩
def SlR (X:Cx) (r:V->Option Int->Option Int->Hp->VK->Prop):Prop :=
  ∀ Ob s G H (x:V) (v vl vu:Value) (lo hi:Option Int) (sl:Addr) (Q:VK),Inv X Ob G H s->jw x v->s.heap.IsSliceOf sl vl vu .none->IsPart vl lo->IsPart vu hi->r x lo hi H Q →
    ∃ T id,typeLookup (.type T) "__getitem__" = pure (some (.builtin id))/\s.TypeIs v T/\wpAny (model X.prog X.w) X.A (getItem v (.ref sl)) (EP X Ob G Q) X.xe s
def tSl (r:V->Option Int->Option Int->Hp->VK->Prop) (te:TE) (tl th:TO):TE:=fun G H Q=>te G H fun x H1=>tl G H1 fun l H2=>th G H2 fun u H3=>r x l u H3 Q
theorem qhE {r:V->Option Int->Option Int->Hp->VK->Prop}(hr:SlR X r) (he:PE X e te) (hl:PO X lo tl) (hu:PO X hi th):PE X (.Subscript e (.Slice lo hi none p2) pos) (tSl r te tl th):=by
  intro Ob s G H Q I h;refine Subscript_ (thn (he Ob s G H _ I h) fun v s1 ⟨x,H1,I1,r1,q1⟩=>?_);refine wpAny_Slice (thn (hl Ob s1 G H1 _ I1 q1) fun vl s2 ⟨l,H2,I2,pl,q2⟩=>thn (hu Ob s2 G H2 _ I2 q2) fun vu s3 ⟨u,H3,I3,pu,q3⟩=>?_);rw[evalPart_none];refine qe ?_;have I4:Inv X Ob G H3 { s3 with heap:=s3.heap.push { cls:=.type "slice",data:=.fields #[vl,vu,.none] } }:=I3.kept (t':=s3.toks) fun b ob q=>qh _ q;obtain⟨T,id,hT,ht,hg⟩:=hr Ob { s3 with heap:=s3.heap.push { cls:=.type "slice",data:=.fields #[vl,vu,.none] } } G H3 x v vl vu l u s3.heap.objs.size Q I4 r1 (Heap.IsSliceOf.new ..) pl pu q3;show wpAny (model X.prog X.w) X.A (subscriptTail e (.Slice lo hi none p2) v (.ref s3.heap.objs.size)) (EP X Ob G Q) X.xe { s3 with heap:=s3.heap.push { cls:=.type "slice",data:=.fields #[vl,vu,.none] } };exact tail_any (ops:=[.ref s3.heap.objs.size,v]) ht hT hg (by with_unfolding_all rfl)
def qlp (xs:List V) (lo hi:Option Int):List V:=(xs.drop (HT.sIx xs.length 0 lo)).take (HT.sIx xs.length xs.length hi - HT.sIx xs.length 0 lo)
theorem qcK (xs:List V) (lo hi:Option Int):(qlp xs lo hi).length<=xs.length:=by
  unfold qlp;rw[yw,List.length_drop];omega
end
end L2
namespace L2
def ixN (n:Nat) (i:Int):Option Nat:=if 0<=i then (if i<n then some i.toNat else none) else if -(n:Int)<=i then some (i+n).toNat else none
def atI (xs:List α) (i:Int):Option α:=(ixN xs.length i).bind fun j=>xs[j]?
theorem qgh {i:Int}(h:ixN n i=some j):seqIndex? i n=some j/\j<n/\-(n:Int)<=i/\i<n:=by
  unfold ixN at h;by_cases h0:0<=i
  . rw[if_pos h0] at h
    by_cases h1:i<n
    . rw[if_pos h1] at h
      have e:i.toNat=j:=Option.some.inj h;exact⟨by rw[seqIndex_of h0 h1,e],by omega,by omega,h1⟩
    . rw[if_neg h1] at h;cases h
  . rw[if_neg h0] at h
    by_cases h1:-(n:Int)<=i
    . rw[if_pos h1] at h
      have e:(i+n).toNat=j:=Option.some.inj h;exact⟨by rw[seqIndex_neg (by omega) h1,e],by omega,h1,by omega⟩
    . rw[if_neg h1] at h;cases h
theorem qgU {xs:List α}{i:Int}{v:α}(h:atI xs i=some v):∃ j,seqIndex? i xs.length=some j/\xs[j]?=some v/\j<xs.length/\-(xs.length:Int)<=i/\i<xs.length:=by
  unfold atI at h;cases e:ixN xs.length i with
  | none=>rw[e] at h;cases h
  | some j =>
    rw[e] at h;obtain⟨h1,h2,h3,h4⟩:=qgh e;exact⟨j,h1,h,h2,h3,h4⟩
theorem yP {xs:List α}{v:α}(h:xs[j]?=some v):atI xs (j:Int)=some v:=by
  have hj:j<xs.length:=(qm.mp h).1;have e:ixN xs.length (j:Int)=some j:=by
    unfold ixN;rw[if_pos (by omega),if_pos (by omega)];simp
  unfold atI;rw[e];exact h
def qgZ (b:Expr):Prop:=∀ o i,subscripted b false o i=operate [o,i] (getItem o i)
def IxR (X:Cx) (r:R2):Prop :=
  ∀ (value slice:Expr) Ob s G H (x y:V) (v u:Value) (Q:VK),Inv X Ob G H s->jw x v->jw y u->r x y H Q →
    subscripted slice false v u=operate [v,u] (getItem v u)->wpAny (model X.prog X.w) X.A (subscriptTail value slice v u) (EP X Ob G Q) X.xe s
def MtR (X:Cx) (id:String) (r:V->List V->Hp->VK->Prop):Prop :=
  ∀ Ob s G H (x:V) (xs:List V) (v:Value) (us:List Value) (Q:VK),Inv X Ob G H s->jw x v->yN xs us->r x xs H Q →
    wpAny (model X.prog X.w) X.A (call (.builtin id) (v::us)) (EP X Ob G Q) X.xe s
section
variable {a b:Expr}{tb:TE}
theorem IxR.or {r:R2}(h:IxR X r) (h':IxR X r'):IxR X (fun x y H Q=>r x y H Q\/r' x y H Q):=by
  intro value slice Ob s G H x y v u Q I rx ry q hs;rcases q with q | q
  . exact h value slice Ob s G H x y v u Q I rx ry q hs
  . exact h' value slice Ob s G H x y v u Q I rx ry q hs
theorem qdY {r:R2}(hr:IxR X r) (ha:PE X a ta) (hb:PE X b tb) (hs:qgZ b):PE X (.Subscript a b pos) (tOp r ta tb):=by
  intro Ob s G H Q I h;exact Subscript_ (binT ha hb I h fun v u s2 x y H2 I2 rx ry q=>hr a b Ob s2 G H2 x y v u Q I2 rx ry q (hs _ _))
def rIxL (K:W.Frag):R2:=fun x y H Q=>∃ p xs i v,x = .ref p/\y = .int i/\SqL K H p xs/\atI xs i=some v/\Q v H
def rIxT (K:W.Frag):R2:=fun x y H Q=>∃ p xs i v,x = .ref p/\y = .int i/\SqT K H p xs/\atI xs i=some v/\Q v H
theorem YI:IxR X (rIxL X.K):=by
  intro value slice Ob s G H x y v u Q I rx ry h hs;obtain⟨p,xs,i,z,rfl,rfl,hq,he,q⟩:=h;cases rx
  obtain⟨t,rfl⟩:=ry;obtain⟨its,r,pl,hz⟩:=I.list hq;obtain⟨j,h1,h2,h3,h4,h5⟩:=qgU he;obtain⟨w,ew,rw'⟩:=r.get h2;have hl:=r.length;have hn:=qdn;have fin:EP X Ob G Q w s:=⟨z,H,I,rw',q⟩;by_cases h0:0<=i
  . have hj:i.toNat=j:=by
      rw[seqIndex_of h0 h5] at h1;exact Option.some.inj h1
    exact item_listR pl.isList h0 (by omega) (by rw[hj];simpa using ew) fin hs
  . have hj:(i+(its.toArray.size:Int)).toNat=j:=by
      rw[seqIndex_neg (by omega) h4] at h1;rw[qz,<- hl];exact Option.some.inj h1
    exact subscriptTail_builtinR (x:=w) pl.isList.typeIs slot_list_getitem.lookup
      (wpAny_getItem_list_neg (Q:=fun r s'=>r=w/\EP X Ob G Q r s') pl.isList (by omega) (by rw[qz] <;> omega) (by omega) (by rw[hj];simpa using ew) ⟨rfl,fin⟩) hs
theorem qjf:IxR X (rIxT X.K):=by
  intro value slice Ob s G H x y v u Q I rx ry h hs;obtain⟨p,xs,i,z,rfl,rfl,hq,he,q⟩:=h;cases rx
  obtain⟨t,rfl⟩:=ry;obtain⟨its,r,pl,hz⟩:=I.tuple hq;obtain⟨j,h1,h2,h3,h4,h5⟩:=qgU he;obtain⟨w,ew,rw'⟩:=r.get h2;have hl:=r.length;have hn:=qdn;have fin:EP X Ob G Q w s:=⟨z,H,I,rw',q⟩;exact subscriptTail_builtinR (x:=w) pl.typeIs slot_tuple_getitem.lookup
    (getItem_tuple (j:=j) (Q:=fun r s'=>r=w/\EP X Ob G Q r s') pl (by omega) (by omega) (by rw[qz,<- hl];exact h1) (by simpa using ew) ⟨rfl,fin⟩) hs
theorem qd2 (its:List Value) (n j:Nat) (u:Value):Obj.mapSeq (·.setIfInBounds j u) { cls:=.type "list",data:=.seq its.toArray n }={ cls:=.type "list",data:=.seq (its.set j u).toArray n }:=by simp[Obj.mapSeq]
theorem Inv.lst {Ob:List (Addr×Obj)}{G:St}{H:Hp}{s:Shared}{p:Addr}{xs:List V}(I:Inv X Ob G H s) (h:H p=some (.lst xs)) :
    ∃ (its:List Value) (n:Nat),yN xs its/\s.heap.get? p=some { cls:=.type "list",data:=.seq its.toArray n }/\xs.length<=sizeLine:=by
  obtain⟨z,its,n,r,e⟩:=I.hok p _ h;exact⟨its,n,r,e,z⟩
theorem Inv.lstUpd {xs:List V}{its':List Value}{n':Nat}{f:Obj->Obj}(I:Inv X Ob G H s) (h:H p=some (.lst xs))
    (ho:s.heap.get? p=some { cls:=.type "list",data:=.seq its.toArray n }) (hf:f { cls:=.type "list",data:=.seq its.toArray n }={ cls:=.type "list",data:=.seq its'.toArray n' }) (r:yN ys its') (hz:ys.length<=sizeLine) (t:Nat) :
    Inv X Ob G (upd H p (.lst ys)) { s with heap:=s.heap.update p f,toks:=t }:=by
  have e:(s.heap.update p f).get? p=some { cls:=.type "list",data:=.seq its'.toArray n' }:=by rw[yo f ho (by rw[hf] <;> rfl),hf]
  refine I.write (x:=p) (e:=p) (by rw[h];trivial) (.inl rfl) (fun b u hb q=>(qY _ _ (Ne.symm hb)).trans q) ⟨_,e⟩ ?_;exact⟨hz,its',n',r,e⟩
def rSetL:V->V->V->Hp->(Hp->Prop)->Prop:=fun o i v H Q=>∃ p xs k j,o = .ref p/\i = .int k/\H p=some (.lst xs)/\ixN xs.length k=some j/\Q (upd H p (.lst (xs.set j v)))
theorem ZF:PSet X rSetL:=by
  intro Ob s G H o i v ov iv u Q I ro ri rv h;obtain⟨p,xs,k,j,rfl,rfl,hp,hj,q⟩:=h;cases ro
  obtain⟨t,rfl⟩:=ri;obtain⟨its,n,r,ho,hz⟩:=I.lst hp;obtain⟨h1,h2,h3,h4⟩:=qgh hj;have hl:=r.length;have hn:=qdn;have I':Inv X Ob G (upd H p (.lst (xs.set j v))) { s with heap:=s.heap.update p (Obj.mapSeq (·.setIfInBounds j u)) } :=
    I.lstUpd hp ho (qd2 its n j u) (r.set rv j) (by rw[List.length_set];exact hz) s.toks
  by_cases h0:0<=k
  . have hk:k.toNat=j:=by
      rw[seqIndex_of h0 h4] at h1;exact Option.some.inj h1
    exact W.ki_setAt ho h0 (by omega) (by rw[qz,<- hl];exact h4) (by rw[hk];exact⟨_,I',q⟩)
  . have hk:(k+(its.toArray.size:Int)).toNat=j:=by
      rw[seqIndex_neg (by omega) h3] at h1;rw[qz,<- hl];exact Option.some.inj h1
    exact W.ki_setBack ho (by omega) (by rw[qz,<- hl];exact h3) (by omega) (by rw[hk];exact⟨_,I',q⟩)
theorem qbC (lo hi:Option Int) (n:Nat):(sliceBounds lo hi none n).1=((HT.sIx n 0 lo:Nat):Int)/\(sliceBounds lo hi none n).2.1=((HT.sIx n n hi:Nat):Int)/\(sliceBounds lo hi none n).2.2=1:=by
  refine⟨?_,?_,rfl⟩
  . cases lo with
    | none=>simp[sliceBounds,HT.sIx]
    | some i =>
      simp only[sliceBounds,HT.sIx,Option.getD_none,show (1:Int) > 0 by decide,if_true];by_cases h:i<0
      . simp only[h,if_true] <;> omega
      . simp only[h,if_false] <;> omega
  . cases hi with
    | none=>simp[sliceBounds,HT.sIx]
    | some i =>
      simp only[sliceBounds,HT.sIx,Option.getD_none,show (1:Int) > 0 by decide,if_true];by_cases h:i<0
      . simp only[h,if_true] <;> omega
      . simp only[h,if_false] <;> omega
theorem qaQ (its:List Value) (lo hi:Option Int):slicePick its.toArray lo hi none=((its.drop (HT.sIx its.length 0 lo)).take (HT.sIx its.length its.length hi - HT.sIx its.length 0 lo)).toArray:=by
  obtain⟨h1,h2,h3⟩:=qbC lo hi its.toArray.size;unfold slicePick;rw[h1,h2,h3];simp only[sliceRange_one,pick_run,qz] <;> rfl
def rSlL (K:W.Frag):V->Option Int->Option Int->Hp->VK->Prop:=fun x lo hi H Q=>∃ a xs,x = .ref a/\SqL K H a xs/\∀ p,H p=none->Q (.ref p) (upd H p (.lst (qlp xs lo hi)))
theorem qjS:SlR X (rSlL X.K):=by
  intro Ob s G H x v vl vu lo hi sl Q I rx hs pl pu h;obtain⟨a,xs,rfl,hx,q⟩:=h;cases rx
  obtain⟨its,r,ht,hz⟩:=I.list hx;have hlen:=r.length;refine⟨"list",_,slot_list_getitem.lookup,ht.isList.typeIs,?_⟩;refine wpAny_getItem_list_slice ht.isList hs pl pu .none (by simp) ?_ (by rw[qz] <;> omega);rw[qaQ,<- hlen];refine⟨.ref s.heap.objs.size,_,I.laid (t':=s.toks) (o:=.lst (qlp xs lo hi)) (fun b ob q=>qh _ q) (qo _) ?_,rfl,q _ (I.hok.fresh (qo _))⟩;exact⟨qt (qcK xs lo hi) hz,_,0,(r.drop (HT.sIx xs.length 0 lo)).take (HT.sIx xs.length xs.length hi - HT.sIx xs.length 0 lo),qA _ rfl⟩
theorem ZD:jq X (.builtin "len") (fun xs H Q=>∃ p ys,xs=[.ref p]/\(SqL X.K H p ys\/SqT X.K H p ys)/\Q (.int ys.length) H):=by
  intro Ob s G H xs us Q I r h;obtain⟨p,ys,rfl,hq,q⟩:=h;obtain⟨u,rfl,rx⟩:=qar r;cases rx
  have hn:=qdn;rcases hq with hq | hq
  . obtain⟨its,r',pl,hz⟩:=I.list hq
    have hlen:=r'.length;exact Calls.call_len_list pl.isList (by simp only[qz] <;> omega) ⟨.int ys.length,H,I.tok _,⟨s.toks+1,by rw[qz,hlen]⟩,q⟩
  . obtain⟨its,r',pl,hz⟩:=I.tuple hq
    have hlen:=r'.length;exact len_tuple pl (by simp only[qz] <;> omega) ⟨.int ys.length,H,I.tok _,⟨s.toks+1,by rw[qz,hlen]⟩,q⟩
theorem ZC:jq X (.type "list") (fun xs H Q=>∃ p ys,xs=[.ref p]/\(SqL X.K H p ys\/SqT X.K H p ys)/\∀ l,H l=none->Q (.ref l) (upd H l (.lst ys))):=by
  intro Ob s G H xs us Q I r h;obtain⟨p,ys,rfl,hq,q⟩:=h;obtain⟨u,rfl,rx⟩:=qar r;cases rx
  have fin:∀ (its:List Value),yN ys its->ys.length<=sizeLine->∀ (h':Heap) (c':Nat),(∀ b o',s.heap.get? b=some o'->h'.get? b=some o') →
      h'.get? s.heap.objs.size=some { cls:=.type "list",dict:=none,data:=.seq its.toArray c',slots:=#[] }->EP X Ob G Q (.ref s.heap.objs.size) { s with heap:=h' }:=fun its r' hz h' c' kp e =>
    ⟨.ref s.heap.objs.size,_,I.laid (t':=s.toks) kp (qo _) (show jK X.prog X.w _ h' _ (.lst ys) from ⟨hz,its,c',r',e⟩),rfl,q _ (I.hok.fresh (qo _))⟩
  rcases hq with hq | hq
  . obtain⟨its,r',pl,hz⟩:=I.list hq
    have hlen:=r'.length;obtain⟨o,ho,hc,n,hd⟩:=pl.isList;exact call_list_seq p (.inl rfl) ho hc hd (fun h' c' kp e=>fin its r' hz h' c' kp e) (by simp only[qz] <;> omega)
  . obtain⟨its,r',pl,hz⟩:=I.tuple hq
    have hlen:=r'.length;obtain⟨o,ho,hc,n,hd⟩:=pl;exact call_list_seq p (.inr rfl) ho hc hd (fun h' c' kp e=>fin its r' hz h' c' kp e) (by simp only[qz] <;> omega)
def tyV (K:W.Frag) (T:String) (x:V) (H:Hp):Prop:=match x with
  | .str _=>T = "str"
  | .int _=>T = "int"
  | .ref p=>(T = "list" /\ ∃ xs,SqL K H p xs)\/(T = "tuple" /\ ∃ o,K.lookup p=some o/\o.cls = .type "tuple" /\ o.dict=none) ∨
      (T = "dict" /\ ((∃ kvs,H p=some (.dK kvs))\/∃ kvs,H p=some (.dT kvs)))\/(T = "set" /\ ∃ S n,H p=some (.set S n))
  | _=>False
theorem qiz {x:V}{v:Value}(I:Inv X Ob G H s) (r:jw x v) (ty:tyV X.K T x H) :
    s.TypeIs v T/\∀ a,v = .ref a->∃ ob,s.heap.get? a=some ob/\ob.dict=none:=by
  cases x with
  | str z =>
    obtain⟨t,rfl⟩:=r;cases (show T = "str" from ty)
    exact⟨typeIs_str s z t,fun _ e=>nomatch e⟩
  | int i =>
    obtain⟨t,rfl⟩:=r;cases (show T = "int" from ty)
    exact⟨typeIs_int s i t,fun _ e=>nomatch e⟩
  | ref p =>
    cases r
    rcases ty with⟨rfl,xs,hq⟩ | ⟨rfl,o,hk,hc,hd⟩ | ⟨rfl,hk⟩ | ⟨rfl,S,n,hk⟩
    . obtain⟨its,_,pl,_⟩:=I.list hq
      refine⟨pl.isList.typeIs,fun a e=>?_⟩;cases e
      obtain⟨o,n,e,c,hd,_⟩:=pl;exact⟨o,e,hd⟩
    . refine⟨⟨o,I.kIn p o hk,hc⟩,fun a e=>?_⟩
      cases e
      exact⟨o,I.kIn _ o hk,hd⟩
    . have z:∃ o,s.heap.get? p=some o/\o.ExactDict:=by
        rcases hk with⟨kvs,hk⟩ | ⟨kvs,hk⟩
        . obtain⟨_,_,_,_,o,_,_,e,ex,_⟩:=I.hok p _ hk
          exact⟨o,e,ex⟩
        . obtain⟨_,_,_,_,o,_,_,e,ex,_⟩:=I.hok p _ hk
          exact⟨o,e,ex⟩
      obtain⟨o,e,ex⟩:=z;refine⟨⟨o,e,ex.1⟩,fun a e2=>?_⟩;cases e2
      exact⟨o,e,ex.2.1⟩
    . obtain⟨o,_,_,_,e,ex,_⟩:=I.hok p _ hk
      refine⟨⟨o,e,ex.1⟩,fun a e2=>?_⟩;cases e2
      exact⟨o,e,ex.2.1⟩
  | _=>exact False.elim ty
def tBM0 (K:W.Frag) (T:String) (r:V->List V->Hp->VK->Prop) (to:TE):TE:=fun G H Q=>to G H fun x H1=>tyV K T x H1/\r x [] H1 Q
def tBM (K:W.Frag) (T:String) (r:V->List V->Hp->VK->Prop) (to:TE) (t:TA):TE:=fun G H Q=>to G H fun x H1=>tyV K T x H1/\t G H1 fun xs H2=>r x xs H2 Q
variable {to:TE}{cpos:Pos}{id:String}{r:V->List V->Hp->VK->Prop}
theorem qmD (pa:PlainAttrs T) (slot:Slot T name id) (hty:typeOf (.builtin id)=pure (.type "method_descriptor")) (hm:MtR X id r) (ho:PE X o to)
    (hbase:attributeBase o name X.env (eval o X.env)=eval o X.env:=by rfl) (hline:(apos.endLine == cpos.line)=true:=by rfl):PE X (.Call (.Attribute o name apos) [] [] cpos) (tBM0 X.K T r to):=by
  intro Ob s G H Q I h;refine wpAny_Call_method0_late hbase hline (thn (ho Ob s G H _ I h) fun v s1 ⟨x,H1,I1,r1,ty,q1⟩=>?_);obtain⟨h1,h2⟩:=qiz I1 r1 ty;exact⟨T,id,pa,slot,hty,h1,h2,Calls.callWith_builtin rfl (PySem.evalArgs_none (hm Ob s1 G H1 x [] v [] Q I1 r1 .nil q1))⟩
theorem ZE (pa:PlainAttrs T) (slot:Slot T name id) (hty:typeOf (.builtin id)=pure (.type "method_descriptor")) (hm:MtR X id r) (ho:PE X o to) (ha:PA X (e::es) t)
    (hbase:attributeBase o name X.env (eval o X.env)=eval o X.env:=by rfl)
    (hfew:((backTo cpos (starEach (e::es) X.env)).all (fun x=>!x.1) && (backToKw cpos (keywordEach [] X.env)).all (fun x=>x.1.isSome)
      && decide ((e::es).length+([]:List Keyword).length+(if ([]:List Keyword).isEmpty then 0 else 1)<30))=true:=by rfl)
    (hline:(apos.endLine == cpos.line)=true:=by rfl) (hs:starEach (e::es) X.env=(false,eval e X.env)::starEach es X.env:=by rfl) (hplain:(backTo cpos (starEach es X.env)).any (·.1)=false:=by rfl) :
    PE X (.Call (.Attribute o name apos) (e::es) [] cpos) (tBM X.K T r to t):=by
  intro Ob s G H Q I h;refine wpAny_Call_method_late hbase hfew hline rfl (thn (ho Ob s G H _ I h) fun v s1 ⟨x,H1,I1,r1,ty,q1⟩=>?_);obtain⟨h1,h2⟩:=qiz I1 r1 ty;refine⟨T,id,pa,slot,hty,h1,h2,?_⟩;have hA:=ha cpos Ob s1 G H1 _ I1 q1;rw[hs] at hA ⊢;refine Calls.callWith_builtin (by show (false || (backTo cpos (starEach es X.env)).any (·.1))=false;rw[hplain] <;> rfl) (Calls.evalArgs_plain ?_);exact thn hA fun us s2 ⟨vs,H2,I2,r2,q2⟩=>hm Ob s2 G H2 x vs v us Q I2 r1 r2 q2
end
end L2
namespace L2
def MtM (X:Cx) (id:String) (r:V->List V->Hp->VK->Prop):Prop :=
  ∀ Ob s G H (x:V) (xs:List V) (v:Value) (us:List Value) (Q:VK),Inv X Ob G H s->jw x v->yN xs us->r x xs H Q →
    wpAny (model X.prog X.w) X.A (call (.builtin id) (v::us)) (EP X Ob G Q) X.xe s
theorem yN.one:∀ {x:V}{us:List Value},yN [x] us->∃ u,us=[u]/\jw x u
  | _,_,.cons r .nil=>⟨_,rfl,r⟩
theorem yN.zero:∀ {us:List Value},yN [] us->us=[]
  | _,.nil=>rfl
section
variable {l:Addr}{xs zs:List V}
theorem Inv.lset {its':List Value}{f:Array Value->Array Value}(I:Inv X Ob G H s) (hH:H l=some (.lst xs))
    (e:s.heap.get? l=some { cls:=.type "list",data:=.seq its.toArray n }) (hf:f its.toArray=its'.toArray) (hv:yN ys its') (hz:ys.length<=sizeLine) :
    Inv X Ob G (upd H l (.lst ys)) { s with heap:=s.heap.update l (Obj.mapSeq f),toks:=t' }:=by
  have q:=PySem.IsL.update e f;rw[hf] at q;refine I.write (x:=l) (e:=l) (by rw[hH];exact trivial) (.inl rfl) (fun b' u hb hu=>(qY s.heap (Obj.mapSeq f) (Ne.symm hb)).trans hu) ⟨_,q⟩ ?_;exact⟨hz,its',_,hv,q⟩
theorem Inv.lnew (I:Inv X Ob G H s) (hv:yN ys its) (hz:ys.length<=sizeLine) :
    Inv X Ob G (upd H s.heap.objs.size (.lst ys)) { s with heap:=s.heap.push { cls:=.type "list",data:=.seq its.toArray },toks:=t' } :=
  I.laid (fun _ _ q=>qh _ q) (qo _) ⟨hz,its,0,hv,qA _ rfl⟩
theorem Inv.fresh (I:Inv X Ob G H s):H s.heap.objs.size=none:=I.hok.fresh (qo _)
theorem Inv.lstM (I:Inv X Ob G H s) (hH:H l=some (.lst xs)):xs.length<=sizeLine/\∃ (its:List Value) (n:Nat),yN xs its/\xs.length=its.length/\s.heap.get? l=some { cls:=.type "list",data:=.seq its.toArray n }:=by
  obtain⟨z,its,n,r,e⟩:=I.hok l _ hH;exact⟨z,its,n,r,r.length,e⟩
end
def rAppend:V->List V->Hp->VK->Prop:=fun x vs H Q=>∃ l xs y,x = .ref l/\vs=[y]/\H l=some (.lst xs)/\xs.length<sizeLine/\Q .non (upd H l (.lst (xs++[y])))
theorem Je:MtM X "list.append" rAppend:=by
  intro Ob s G H x vs v us Q I rx rv h;obtain⟨l,xs,y,rfl,rfl,hH,hz,q⟩:=h;cases rx
  obtain⟨u,rfl,ru⟩:=rv.one;obtain⟨z,its,n,r,hl,e⟩:=I.lstM hH;refine call_meets F.slot_list_append ⟨_,e,rfl⟩ F.entry_list_append (F.args_list_append_2 _ _) (PySem.list_append l its.toArray n u (by rw[qz];omega)) ⟨e,?_⟩;refine⟨.non,_,I.lset (its':=its++[u]) hH e (by simp) (r.append (.cons ru .nil)) ?_,rfl,q⟩;rw[qv,List.length_singleton];omega
def rClear:V->List V->Hp->VK->Prop:=fun x vs H Q=>∃ l xs,x = .ref l/\vs=[]/\H l=some (.lst xs)/\Q .non (upd H l (.lst []))
theorem qhV:MtM X "list.clear" rClear:=by
  intro Ob s G H x vs v us Q I rx rv h;obtain⟨l,xs,rfl,rfl,hH,q⟩:=h;cases rx
  have hus:=rv.zero;subst hus;obtain⟨z,its,n,r,hl,e⟩:=I.lstM hH;refine call_meets F.slot_list_clear ⟨_,e,rfl⟩ F.entry_list_clear (F.args_list_clear_1 _) (AutoSeq1.list_clear_list_0 l its.toArray n (by rw[qz];omega)) ⟨e,?_⟩;exact⟨.non,_,I.lset (its':=[]) (ys:=[]) hH e rfl .nil (qZ _),rfl,q⟩
end L2
namespace Att
open PySem PySem.W PySem.Calls PyProof.Rows
variable {P:Params}
theorem qaf : ∀ (ns:List Int) (vs:List Value),WellAll P h vs (ns.map WData.int)->IntsAre vs ns:=by
  intro ns;induction ns with
  | nil =>
    intro vs w;rw[List.map_nil] at w;cases w
    exact .nil
  | cons n ns ih =>
    intro vs w;rw[yb] at w;cases w with
    | cons a b =>
      cases a
      exact .cons _ _ (ih _ b)
theorem qeO {l:OpenLaw}(hn:l.most=some n) {args:List WData}{vals:List Value}
    (hpre:l.row.toRowW.claim.pre args=true) (hwl:WellAll P h vals args) :
    ∃ a vs ns,vals=[Value.ref a]/\args=[WData.list (ns.map WData.int)]/\h.get? a=some { cls:=.type "list",data:=.seq vs.toArray }/\IntsAre vs ns/\ns.length<=n:=by
  have hsh:WShape.hasAll [] args [.list .int]=true:=(pre_splitW hpre).1;have hc:l.pre.holds [] { args:=args }=true:=(pre_splitW hpre).2;obtain⟨d,r,rfl,h1,h2⟩:=hasAllW_cons hsh;obtain rfl:=hasAllW_nil h2;obtain⟨xs,rfl,h3⟩:=hasW_list h1;obtain⟨ns,rfl⟩:=items_int h3;have hlen:ns.length<=n:=by
    unfold OpenLaw.pre at hc;have h4:(WTm.not (.lt (.lit (.int (n:Int))) (.len (.arg 0)))).holds [] { args:=[.list (ns.map .int)] }=true:=by
      have h4:=(holds_andW hc).1;rw[hn] at h4;exact h4
    have h5:=condW_of h4 (w_not (w_lt w_lit (w_len_list (w_arg rfl))));rw[qc] at h5;refine Nat.le_of_not_lt fun q=>?_;have q':(n:Int)<((ns.length:Nat):Int):=by omega
    first
      | (rw[qN q'] at h5;exact absurd h5 (by decide))
      | (simp at h5;omega)
  cases hwl with
  | cons w1 w2 =>
    cases w2
    cases w1 with
    | list ho hall=>exact⟨_,_,ns,rfl,rfl,ho,qaf ns _ hall,hlen⟩
theorem qfn (l:OpenLaw) (args:List WData):l.row.toRowW.claim.post args (.bool true) args=true :=
  postW_of (r:=l.row.toRowW) (X:=(true == true))
    (show WShape.has [] (.bool true) .bool=true by first | rfl | decide | simp[WShape.has,WShape.arms,WShape.armsAll])
    (show (WTm.eq .res (.lit (.bool true))).value [] { args:=args,res:=some (.bool true),after:=args }=some (.bool (true == true)) from w_eq_bool (w_res rfl) w_lit) rfl
theorem attach_call {l:OpenLaw}{q:Program}{d:DefRec}
    (hn:l.most=some n) (hdf:d.params.defaults=[])
    (call:∀ (w:World) (s₀ sa1:Shared) (mg mb:Str->Option Value) (fa:Addr) (o:Obj) (pm cd doc:Value) (a:Addr) (vs:List Value) (ns:List Int),
      Ground q loose [] XP w s₀ mg mb sa1.heap->YP w sa1.heap →
      sa1.heap.get? fa=some o->o.data = .func (docDef d.name d.params d.body d.scope pm cd doc)->sa1.heap.CodeRec cd d.name->mg d.name=some (.ref fa) →
      sa1.heap.get? a=some { cls:=.type "list",data:=.seq vs.toArray }->IntsAre vs ns->ns.length<=n->sa1.gens=#[] →
      codeAny (model l.prog w) callerA (.call (.ref fa) ⟨[.ref a],[]⟩) (fun r s'=>r = .ok (.ret (.bool true))/\OldK sa1.heap s'.heap/\s'.os=sa1.os/\AllBare s'.gens) sa1) :
    WalkO q loose XP YP l.row.toRowW d [] (fun f vs=>PySem.call f vs):=by
  intro w s₀ sa1 mg mb Ga Y fa o pm cd doc dV kV ho hd hcd hD hmg hg args vals as hpre hlay hrd hwl hlo;obtain rfl:dV = .none:=Dflts.none hD hdf;obtain rfl:kV = .none:=Dflts.noKw hD;obtain⟨a,vs,ns,rfl,rfl,hobj,hints,hlen⟩:=qeO hn hpre hwl;refine enter_call (codeAny_mono (call w s₀ sa1 mg mb fa o pm cd doc a vs ns Ga Y ho (fd_plain hd) hcd hmg hobj hints hlen hg) fun r s' hq=>?_);obtain⟨rfl,h2,h3,h4⟩:=hq;exact⟨.inl ⟨.bool true,.bool true,[],rfl,fun _=>rfl,.bool true,qfn l _,fun _=>⟨List.Pairwise.nil,fun _ hm=>(nomatch hm)⟩⟩,h2,h3,h4⟩
section
variable {K:Frag}
def ledger (h:Heap) (L d:Addr):List (Addr×Obj):=(List.range h.objs.size).filterMap fun a=>if a=L\/a=d then none else (h.get? a).map fun o=>(a,o)
end
end Att
namespace L2
theorem qbw:∀ {vs:List Value}{ns:List Int},IntsAre vs ns->yN (ns.map V.int) vs
  | _,_,.nil=>.nil
  | _,_,.cons n t h=>.cons ⟨t,rfl⟩ (qbw h)
def Only (H:Hp):Prop:=∀ b,H b=none\/∃ o xs,H b=some (.frz o (.lst xs))
end L2
namespace L2
end L2
namespace L2
variable {st:Stmt}{A B:Prop}
def YJ (s:Stmt) (j:Nat):Stmt:=match s with
  | .ClassDef _ _ _ body _ _ _ _ _ _ _=>body.getD j (.Pass ⟨0,0,0,0⟩)
  | _=>.Pass ⟨0,0,0,0⟩
def jJ (s:Stmt):Arguments:=match s with
  | .FunctionDef _ a _ _ _ _ _ _ _ _=>a
  | _=>{ posonlyargs:=[],args:=[],vararg:=none,kwonlyargs:=[],kw_defaults:=[],kwarg:=none,defaults:=[] }
def yY (s:Stmt):List Stmt:=match s with
  | .FunctionDef _ _ b _ _ _ _ _ _ _=>b
  | _=>[]
def qq (s:Stmt):Scope:=match s with
  | .FunctionDef _ _ _ _ _ _ sc _ _ _=>sc
  | _=>{ kind:=.function,names:=[],isGenerator:=false,isCoroutine:=false }
abbrev E0:XK:=fun _ _ _=>False
structure Fun (K:W.Frag) (x qual:Str) (st:Stmt) (f:Addr) (fd:FuncData):Prop where
  ex:∃ (oc:Value) (od:Option Addr) (kV doc pm:Value) (an:Option Addr) (Oh ct:Value) (osl:Array (Option Value)),
    fd=W.fnOf x qual (jJ st) (yY st) (qq st) .none kV doc pm an Oh ct/\K.lookup f=some ⟨oc,od,.func fd,osl⟩/\W.codeIn K Oh qual=true
  kp:W.keepIn K (.ref f)=true
theorem Fun.binds (F:Fun K x qual st f fd)
    (h:∀ (kV doc pm:Value) (an:Option Addr) (Oh ct:Value) (us:List Value),us.length=ps.length->bindArgs (W.fnOf x qual (jJ st) (yY st) (qq st) .none kV doc pm an Oh ct) ⟨us,[]⟩=pure (ps.zip us)):Zs K fd ps []:=by
  obtain⟨oc,od,kV,doc,pm,an,Oh,ct,osl,rfl,lk,hcd⟩:=F.ex;exact .all (h kV doc pm an Oh ct)
theorem qgp {osl:Array (Option Value)}{kV doc Oh:Value}(l:K.lookup f=some ⟨oc,od,.func (W.fnOf x qual (jJ st) (yY st) (qq st) .none kV doc pm an Oh ct),osl⟩)
    (c:W.codeIn K Oh qual=true) (k:W.keepIn K (.ref f)=true):Fun K x qual st f (W.fnOf x qual (jJ st) (yY st) (qq st) .none kV doc pm an Oh ct):=⟨⟨oc,od,kV,doc,pm,an,Oh,ct,osl,rfl,l,c⟩,k⟩
theorem pv (i:Nat) (hN:X.N[i]?=some x:=by rfl) (hv:Vis X.env.scope x:=by first | exact Or.inl rfl | exact Or.inr (Or.inl rfl) | exact Or.inr (Or.inr rfl)) (hd:(x == ("__debug__" : Str))=false:=by decide)
    (hcd:(x == ("__classdict__" : Str))=false:=by decide):PE X (.Name x pos) (tVar i):=qde hN hv hd hcd
theorem YO (h:B):if false=true then A else B:=by
  rw[if_neg JS];exact h
theorem ZO (h:A):if true=true then A else B:=by
  rw[if_pos rfl];exact h
theorem JR {c:Prop} [Decidable c] (h1:c->A) (h2:¬ c->B):if c then A else B:=by
  by_cases h:c
  . rw[if_pos h]
    exact h1 h
  . rw[if_neg h]
    exact h2 h
def yr (H H':Hp):Prop:=∀ b o,H b=some o->H' b=some o
theorem yr.refl (H:Hp):yr H H:=fun _ _ h=>h
theorem yr.trans (a:yr H H1) (b:yr H1 H2):yr H H2:=fun c o h=>b c o (a c o h)
theorem yr.seq {xs:List V}(e:yr H H') (h:SqL K H a xs):SqL K H' a xs:=by
  rcases h with (h | ⟨o,h⟩) | h
  . exact .inl (.inl (e _ _ h))
  . exact .inl (.inr ⟨o,e _ _ h⟩)
  . exact .inr h
end L2
set_option maxHeartbeats 4000000
namespace L2
variable {names:List (Str×NameKind)}{target:Expr}
theorem yR (h:n<=4000):n<sizeLine:=jL h (by decide)
def qO (X:Cx) (L:List Str) (scope:Scope) (cl:List (Str×Addr)) (C:Addr) (sa2:Shared) (Ha2:Hp) (fp:List Addr):Cx where
 prog:=X.prog
 w:=X.w
 K:=X.K
 mg:=X.mg
 base:=X.base
 A:=X.A
 N:=X.N++L
 s₀:=sa2
 H₀:=Ha2
 env:=compEnvC scope cl C X.env
 outer:=X.stack
 stack:=X.stack
 ex:=fp
 fn:=fun _=>false
 calm:=X.calm
 pn:=[]
 xe:=fun _ _=>False
def jE (sc:Scope) (N L:List Str) (scope:Scope):Bool :=
 decide (scope.kind = .function) && scope.names.all (fun y=>decide (y.2≠.cell) && (decide (y.2≠.local) || (decide (scope.names.lookup y.1=some .local) && decide (y.1∉N))) &&
  (decide (y.2≠.free) || decide (sc.names.lookup y.1=some .cell) || decide (sc.names.lookup y.1=some .free))) && decide ((N++L).Nodup)
theorem jh (h:jE sc N L scope=true):scope.kind = .function:=by
 simp only[jE,ym,decide_eq_true_eq] at h;exact h.1.1
theorem yZ (h:jE sc N L scope=true) {y:Str×NameKind}(hy:y∈scope.names) :
  y.2≠.cell/\(y.2 = .local->scope.names.lookup y.1=some .local/\y.1∉N)/\(y.2 = .free->sc.names.lookup y.1=some .cell\/sc.names.lookup y.1=some .free):=by
 simp only[jE,ym,decide_eq_true_eq,List.all_eq_true,Bool.or_eq_true] at h;have q:=h.1.2 y hy;obtain⟨⟨q1,q2⟩,q3⟩:=q;refine⟨q1,fun e=>?_,fun e=>?_⟩
 .rcases q2 with q2 | q2
  .exact absurd e q2
  .exact q2
 .rcases q3 with (q3 | q3) | q3
  .exact absurd e q3
  .exact .inl q3
  .exact .inr q3
theorem Yt : ∀ (names:List (Str×NameKind)) (acc:List (Str×Addr)),(∀ y∈names,y.2 = .free->∃ c,env.cells.lookup y.1=some c) →
  (∀ x c,acc.lookup x=some c->env.cells.lookup x=some c) →
  ∃ cl,(forIn names acc (fun (x:Str×NameKind) (cs:List (Str×Addr))=>match x with
   | (name,kind)=>if (kind == NameKind.free)=true then do let a <- cellOf env name;pure (ForInStep.yield ((name,a)::cs)) else pure (ForInStep.yield cs)):Sem (List (Str×Addr)))=pure cl ∧
   (∀ x c,cl.lookup x=some c->env.cells.lookup x=some c)/\(∀ y∈names,y.2 = .free->∃ c,cl.lookup y.1=some c)/\(∀ x c,acc.lookup x=some c->∃ c',cl.lookup x=some c')
 | [],acc,_,ha=>⟨acc,rfl,ha,fun _ h=>(nomatch h),fun _ c e=>⟨c,e⟩⟩
 | (n,k)::r,acc,hf,ha=>by
  by_cases hk:k = .free
  .subst hk;obtain⟨c,hc⟩:=hf (n,.free) qi rfl;have ha':∀ x c',((n,c)::acc).lookup x=some c'->env.cells.lookup x=some c':=fun x c' e=>by
    by_cases hx:x=n
    .subst hx;simp[yh] at e;rw[<- e];exact hc
    .have:(x == n)=false:=by simpa using hx
     simp[yh,this] at e;exact ha x c' e
   obtain⟨cl,e1,e2,e3,e4⟩:=Yt r ((n,c)::acc) (fun y hy=>hf y (qd _ hy)) ha';refine⟨cl,?_,e2,fun y hy hfr=>?_,fun x c' e=>?_⟩
   .rw [List.forIn_cons];show (if (NameKind.free == NameKind.free)=true then (do let a <- cellOf env n;pure (ForInStep.yield ((n,a)::acc))) else pure (ForInStep.yield acc)) >>= _=_;rw[if_pos (by decide)];unfold cellOf;rw[hc];simp only[pure_bind];exact e1
   .rcases qG.mp hy with rfl | hy
    .exact e4 n c (by simp[yh])
    .exact e3 y hy hfr
   .by_cases hx:x=n
    .subst hx;exact e4 x c (by simp[yh])
    .have:(x == n)=false:=by simpa using hx
     exact e4 x c' (by simp[yh,this];exact e)
  .obtain ⟨cl,e1,e2,e3,e4⟩:=Yt r acc (fun y hy=>hf y (qd _ hy)) ha;refine⟨cl,?_,e2,fun y hy hfr=>?_,e4⟩
   .rw [List.forIn_cons];have hb:(k == NameKind.free)=false:=by simpa using hk
    show (if (k == NameKind.free)=true then (do let a <- cellOf env n;pure (ForInStep.yield ((n,a)::acc))) else pure (ForInStep.yield acc)) >>= _=_;rw[hb,if_neg (by simp)];simp only[pure_bind];exact e1
   .rcases qG.mp hy with rfl | hy
    .exact absurd hfr hk
    .exact e3 y hy hfr
theorem JN (hf:∀ y∈scope.names,y.2 = .free->∃ c,env.cells.lookup y.1=some c) :
  ∃ cl,closureFor scope env=pure cl/\(∀ x c,cl.lookup x=some c->env.cells.lookup x=some c)/\(∀ y∈scope.names,y.2 = .free->∃ c,cl.lookup y.1=some c):=by
 obtain⟨cl,e1,e2,e3,_⟩:=Yt scope.names [] hf (fun x c e=>by simp at e);refine⟨cl,?_,e2,e3⟩;unfold closureFor;simp only[bind_pure_comp,map_pure] at *;first
  | exact e1
  | (rw[e1];rfl)
  | (simp only[bind_pure];exact e1)
theorem qaB {k:NameKind}(h:names.lookup x=some k):(x,k)∈names:=PySem.mem_of_lookup h
theorem Zg : ∀ {names:List (Str×NameKind)}{x:Str}{k:NameKind},
  (names.map fun (n,k)=>if (k == NameKind.free && env.scope.kind == .function && env.kindOf n == some .cell) then (n,NameKind.cell) else (n,k)).lookup x=some k →
  ∃ k',names.lookup x=some k'/\(k=k'\/(k' = .free/\k = .cell))
 | [],_,_,h=>by simp at h
 | (n,k0)::r,x,k,h=>by
  cases hx:x == n with
  | true =>
   by_cases hc:(k0 == NameKind.free && env.scope.kind == .function && env.kindOf n == some .cell)=true
   .simp only[yb,if_pos hc,yh,hx] at h;have hk:k0 = .free:=by
     simp only[ym,beq_iff_eq] at hc;exact hc.1.1
    exact⟨k0,by simp[yh,hx],.inr ⟨hk,(Option.some.inj h).symm⟩⟩
   .simp only[yb,if_neg hc,yh,hx] at h;exact⟨k0,by simp[yh,hx],.inl (Option.some.inj h).symm⟩
  | false =>
   have h':(r.map fun (n,k)=>if (k == NameKind.free && env.scope.kind == .function && env.kindOf n == some .cell) then (n,NameKind.cell) else (n,k)).lookup x=some k:=by
    by_cases hc:(k0 == NameKind.free && env.scope.kind == .function && env.kindOf n == some .cell)=true
    .simp only[yb,if_pos hc,yh,hx] at h;exact h
    .simp only[yb,if_neg hc,yh,hx] at h;exact h
   obtain⟨k',e,q⟩:=Zg h';exact⟨k',by simp[yh,hx];exact e,q⟩
def Ifs (X:Cx) (ifs:List Expr) (tt:TT):Prop :=
 ∀ Ob s G H (Q:Bool->Hp->Prop),Inv X Ob G H s->tt G H Q →
  wpAny (model X.prog X.w) X.A (forIn ifs true fun c r=>if r=true then do let ok <- isTrue c X.env (eval c X.env);pure (ForInStep.yield ok) else pure (ForInStep.yield r)) (TP X Ob G Q) X.xe s
def tYes:TT:=fun _ H Q=>Q true H
theorem qkQ : Ifs X [] tYes:=fun Ob s G H Q I h=>wpAny_tests_nil ⟨H,I,h⟩
theorem qkP {t:TT}(h:PT X c t):Ifs X [c] t:=fun Ob s G H Q I q=>wpAny_tests_one (h Ob s G H Q I q)
def qiC (k:Nat) (g:TG) (tt:TT) (te:TE) (G:St) (Q:VK) (J:It) (H1:Hp):Prop:=∃ W:Nat->Nat->List V->St->Hp->Prop,(∃ m,W 0 m [] (G++List.replicate k none) H1)/\∀ i m ys G' H,W i m ys G' H →
 (J.stop i H/\∀ D,H D=none->Q (.ref D) (upd H D (.lst ys))) ∨
 (J.go i H/\ys.length<sizeLine/\∃ N:List V->St->Hp->Prop,(∀ ys' G' H',N ys' G' H'->∃ m',m'<m/\W (i+1) m' ys' G' H') ∧
  ∀ x H',J.yld i H x H'->g x G' H' fun G2 H2=>tt G2 H2 fun b H3=>if b=true then te G2 H3 fun y H4=>N (ys++[y]) G2 H4 else N ys G2 H3)
def qhh (k:Nat) (wi:TI) (g:TG) (tt:TT) (te:TE):TE:=fun G H Q=>wi G H (qiC k g tt te G Q)
theorem Yy {it:Value}(I:Nat->Shared->Prop)
  (turn:∀ n s,I n s->wpAny (model prog w) A (pyNext it) (fun r sa1=>match r with
   | none=>R (.ok .next) sa1
   | some v=>wpAny (model prog w) A (letOwnedTupleGo target it v) (fun _ s1'=>wpAny (model prog w) A (assign target env v) (fun _ sa2 =>
     wpAny (model prog w) A (forIn ifs true fun c r=>if r=true then do let ok <- isTrue c env (eval c env);pure (ForInStep.yield ok) else pure (ForInStep.yield r)) (fun ok sa3 =>
      if ok=true then wpAny (model prog w) A (eval elt env) (fun x sa4 =>
       wpAny (model prog w) A (call (.builtin "list.append") [acc,x]) (fun _ sa5=>∃ m,m<n/\I m sa5) (fun _ _=>False) sa4) (fun _ _=>False) sa3
      else ∃ m,m<n/\I m sa3) (fun _ _=>False) sa2) (fun _ _=>False) s1') (fun _ _=>False) sa1) (fun _ _=>False) s)
  (n:Nat) (h:I n s) :
  codeAny (model prog w) A (.compLoop (.ListComp elt [⟨target,iter,ifs,0⟩] scope pos) 0 it acc env) R s:=by
 refine codeAny_loop rfl I (fun n s hI=>?_) n h;show wpAny _ A ((compTurn (.ListComp elt [⟨target,iter,ifs,0⟩] scope pos) 0 it acc env).onRaise (fun x=>do noteFrame x env;theTreesLotGoes x)) _ _ s;refine wpAny_noted ?_;rw[compTurn_list];refine qa (jp (qa (qP (turn n s hI) (fun r sa1 hd1=>?_) fun _ _ h'=>h'.elim)));cases r with
 | none=>exact qe hd1
 | some v =>
  refine qa (qP hd1 (fun _ s1' ha1'=>?_) fun _ _ h'=>h'.elim);refine qa (qP ha1' (fun _ sa2 ha2=>qa (qP ha2 (fun ok sa3 ha3=>?_) fun _ _ h'=>h'.elim)) fun _ _ h'=>h'.elim);cases ok with
  | false=>exact qe ⟨rfl,ha3⟩
  | true =>
   exact qa (qa (qP ha3 (fun x sa4 ha4=>qa (qP ha4 (fun _ sa5 ha5=>qe (qe ⟨rfl,ha5⟩)) fun _ _ h'=>h'.elim)) fun _ _ h'=>h'.elim))
theorem qcM
  (I:Inv X Ob G H sa2) (hsc:X.env.scope=sc) (hN:X.N=N) (ok:jE sc N L scope=true) (hc1:∀ x c,cl.lookup x=some c->X.env.cells.lookup x=some c)
  (hc2:∀ y∈scope.names,y.2 = .free->∃ c,cl.lookup y.1=some c) (hf:∀ b∈fp,YC X Ob H b) (hlt:∀ b∈fp,b<sa2.heap.objs.size) (hC:sa2.heap.objs.size<=C) :
  (qO X L scope cl C sa2 H fp).Ok where
 mod:=I.ok.mod
 kind:=(show scope.kind = .function from jh ok)
 glob:=I.ok.glob
 blt:=I.ok.blt
 above:=hC
 inj:=fun x y c h1 h2=>I.ok.inj x y c (hc1 x c h1) (hc1 y c h2)
 has:=fun x hx=>by
  have hx':∃ k,(relabel scope X.env).names.lookup x=some k/\(k = .cell\/k = .free):=by
   rcases hx with h | h
   .exact ⟨_,h,.inl rfl⟩
   .exact ⟨_,h,.inr rfl⟩
  obtain⟨k,e,hk⟩:=hx';obtain⟨k',e',q⟩:=Zg e;have hm:=qaB e';have nc:=(yZ ok hm).1;have hfree:k' = .free:=by
   rcases q with q | q
   .rcases hk with hk | hk
    .exact absurd (q.symm.trans hk) nc
    .exact q.symm.trans hk
   .exact q.1
  exact hc2 (x,k') hm hfree
 cab:=fun x c h _=>by cases h
 hd:=I.ok.hd
 frames:=I.ok.frames
 stk:=.inl rfl
 exf:=fun b hb=>⟨qp (qT (hlt b hb) hC),fun x c e=>(hf b hb).2.2.2.2.1 x c (hc1 x c e)⟩
 bs:=I.bs
 bsz:=qt I.ok.bsz I.sz
 noex:=fun b o e hb=>by
  rcases (hf b hb).2.2.2.1 with z | z
  .exact I.ok.noex b o e z
  .exact absurd (qT (ql (I.ok.bs b o e).1) z) (yz _)
 exfs:=fun b hb z=>by
  rcases qG.mp (I.stkSub b z) with q | q
  .exact (hf b hb).2.1 q
  .exact (hf b hb).2.2.1 q
 funs:=I.stack
 frf:=I.stkFree
theorem Zo {sa4:Shared}{m:Str->Option Value}
  (I:Inv X Ob G H sa2) (hsc:X.env.scope=sc) (hN:X.N=N) (ok:jE sc N L scope=true) (hc1:∀ x c,cl.lookup x=some c->X.env.cells.lookup x=some c)
  (Y:(qO X L scope cl C sa2 H fp).Ok) (hC:sa2.heap.objs.size<=C) (hos:sa4.os=sa2.os) (hg:AllBare sa4.gens)
  (old:∀ b o,sa2.heap.get? b=some o->sa4.heap.get? b=some o) (hns:sa4.heap.Ns C m):Inv (qO X L scope cl C sa2 H fp) [] (G++List.replicate L.length none) H sa4 where
 ok:=Y
 os:=hos
 bare:=hg
 base:=Un.kept old
 loc:=by
  refine⟨m,hns,fun i x v e1 e2 e3=>?_⟩;have hl:G.length=X.N.length:=I.len;have hi:i<G.length:=by
   by_cases h:i<G.length
   .exact h
   .rw [q9 (by lia),yV] at e2;split at e2 <;> cases e2
  rw[qQ hi] at e2;have e1':X.N[i]?=some x:=by
   have:(X.N++L)[i]?=some x:=e1;rwa[qQ (by lia)] at this
  have e3':∃ k,(relabel scope X.env).names.lookup x=some k/\(k = .local\/k = .cell\/k = .free):=by
   rcases e3 with h | h | h
   .exact ⟨_,h,.inl rfl⟩
   .exact ⟨_,h,.inr (.inl rfl)⟩
   .exact ⟨_,h,.inr (.inr rfl)⟩
  obtain⟨k,ek,hk⟩:=e3';obtain⟨k',e',q⟩:=Zg ek;have hm:=qaB e';obtain⟨nc,nl,fr⟩:=yZ ok hm;have hk':k' = .free:=by
   rcases q with q | q
   .rcases hk with hk | hk | hk
    .have hl':k' = .local:=q.symm.trans hk;exact absurd (hN ▸ List.mem_of_getElem? e1') (nl hl').2
    .exact absurd (q.symm.trans hk) nc
    .exact q.symm.trans hk
   .exact q.1
  have hX:X.env.kindOf x=some .cell\/X.env.kindOf x=some .free:=by
   have:=fr hk';rw[<- hsc] at this;exact this
  obtain⟨ma0,hn0,hl0⟩:=I.loc;obtain⟨u,r,look⟩:=hl0 i x v e1' e2 (.inr hX);refine⟨u,r,.inr ⟨?_,?_⟩⟩
  .show (relabel scope X.env).names.lookup x=some .cell\/(relabel scope X.env).names.lookup x=some .free;rcases hk with hk | hk | hk
   .exfalso;rcases q with q | q
    .rw [hk] at q;rw[hk'] at q;cases q
    .rw [hk] at q;exact nomatch q.2
   .exact .inl (hk ▸ ek)
   .exact .inr (hk ▸ ek)
  .rcases look with⟨z,_⟩ | ⟨_,c,ec,hcell⟩
   .exfalso;rcases hX with h | h <;> rw[h] at z <;> cases z
   .obtain ⟨c',ec'⟩:=Y.has x (by
     rcases hk with hk | hk | hk
     .exfalso;rcases q with q | q
      .rw [hk] at q;rw[hk'] at q;cases q
      .rw [hk] at q;exact nomatch q.2
     .exact .inl (hk ▸ ek)
     .exact .inr (hk ▸ ek))
    have hcl:cl.lookup x=some c':=ec';have:c'=c:=Option.some.inj ((hc1 x c' hcl).symm.trans ec);subst this;refine⟨c',hcl,?_⟩;obtain⟨o,ho,hd⟩:=hcell;exact⟨o,old _ _ ho,hd⟩
 cell:=fun x c e=>by
  obtain⟨v,o,ho,hd⟩:=I.cell x c (hc1 x c e);exact⟨v,o,old _ _ ho,hd⟩
 free:=I.hok.fresh hC
 freeC:=fun x c e=>I.freeC x c (hc1 x c e)
 pin:=fun p hp=>absurd (show p∈([]:List (Addr×Obj)) from hp) (by simp)
 hok:=I.hok.kept old
 len:=by
  show _=(X.N++L).length;have hl:G.length=X.N.length:=I.len;simp[hl]
theorem qb5 {G':St}{D:Addr}{pl:List (Addr×Obj)}
  (I:Inv X Ob G H sa2) (hf:∀ b∈fp,YC X Ob H b) (hD:sa2.heap.objs.size=D)
  (J:Inv (qO X L scope cl C sa2 H fp) pl G' H' s') (hpD:s'.heap.get? D=some { cls:=.type "list",data:=.seq its.toArray n }) (hHD:H' D=none) (hv:yN ys its) (hz:ys.length<=sizeLine) :
  Inv X Ob G (upd H' D (.lst ys)) s':=by
 have B:Un (frs X.stack) fp H H' sa2.heap s'.heap:=J.base;have neD:∀ b o,sa2.heap.get? b=some o->b≠D:=fun b o e=>by rw[<- hD];exact qp (ql e)
 refine I.call' (ch:=fp) J.os ⟨B.keep,B.slot,fun b o e hn hx=>?_,B.there,fun b xs e=>?_,fun b o u e=>?_,fun b ps e=>?_⟩ (fun b o e=>?_) J.bare (fun b hb=>⟨(hf b hb).2.2.2.1,(hf b hb).2.1,(hf b hb).2.2.2.2.1,(hf b hb).2.2.2.2.2⟩)
 .rw [qV (neD b o e)];exact B.free b o e hn hx
 .have:=B.tups b xs e;rw[qV (qM this hHD)];exact this
 .have:=B.frzs b o u e;rw[qV (qM this hHD)];exact this
 .obtain ⟨more,this⟩:=B.tbls b ps e;exact⟨more,by rw[qV (qM this hHD)];exact this⟩
 .by_cases hb:b=D
  .subst hb;rw[qU] at e;cases e
   exact⟨hz,its,n,hv,hpD⟩
  .rw [qV hb] at e;exact (J.hok b o e).stay (fun _ _ _ q=>q) (fun c q=>by rw[qV (qM q hHD)];exact q) fun c xs q=>by rw[qV (qM q hHD)];exact q
theorem qaK
  {g:TG}{tt:TT}{te:TE}{J:It}
  (hc:X.calm=true) (hsc:X.env.scope=sc) (hN:X.N=N) (ok:jE sc N L scope=true) (hc1:∀ x c,cl.lookup x=some c->X.env.cells.lookup x=some c)
  (hc2:∀ y∈scope.names,y.2 = .free->∃ c,cl.lookup y.1=some c)
  (hg:∀ cl C sa2 Ha2 fp,PG (qO X L scope cl C sa2 Ha2 fp) tg g) (hi:∀ cl C sa2 Ha2 fp,Ifs (qO X L scope cl C sa2 Ha2 fp) ifs tt) (he:∀ cl C sa2 Ha2 fp,PE (qO X L scope cl C sa2 Ha2 fp) elt te)
  (I:Inv X Ob G H sa2) (T:Turn X.prog X.w X.K tg J fp it tn) (st:tn 0 sa2.heap) (hf:∀ b∈fp,YC X Ob H b) (hw:qiC L.length g tt te G Q J H)
  (hR:∀ D C m H' s' ys,s'.heap.Ns C m->sa2.heap.objs.size=D->sa2.heap.objs.size<C->H' C=none->D≠C->Inv X Ob G (upd H' D (.lst ys)) s'->Q (.ref D) (upd H' D (.lst ys))->RR (.ref D) C (.ok .next) s') :
  wpAny (model X.prog X.w) X.A (newList []) (fun acc sa3=>wpAny (model X.prog X.w) X.A (newFunctionEnv scope X.env.globals cl [] X.env.qual none .none (some X.env)) (fun cenv sa4 =>
   codeAny (model X.prog X.w) X.A (.compStart (.ListComp elt [⟨tg,iter,ifs,0⟩] scope pos) 0 (.ref it) acc { cenv with scope:=relabel scope X.env }) (RR acc cenv.locals) sa4) E sa3) E sa2:=by
 refine yF (wpAny_newFunctionEnv (fun y hy=>(yZ ok hy).1) (by intro y hy;simp at hy) (fun hd1 hns1 hsb1=>?_) (jh ok));dsimp only at hns1 hsb1 ⊢;generalize hH2:sa2.heap.push { cls:=.type "list",dict:=none,data:=.seq ([]:List Value).toArray }=H2 at hns1 hsb1 ⊢;have hC:H2.objs.size=sa2.heap.objs.size+1:=by rw[<- hH2,JD]
 have hCle:sa2.heap.objs.size<=H2.objs.size:=by rw[hC];exact Nat.le_succ _
 have hDC:sa2.heap.objs.size≠H2.objs.size:=by rw[hC];exact qp (y4 _)
 have hlt:∀ b∈fp,b<sa2.heap.objs.size:=fun b hb=>by
  obtain⟨o,e,_⟩:=T.obj 0 _ st b hb;exact ql e
 have below:∀ b,b<sa2.heap.objs.size->b≠H2.objs.size:=fun b hb=>by rw[hC];exact qp (Nat.lt_succ_of_lt hb)
 have old:∀ b o,sa2.heap.get? b=some o->hd1.get? b=some o:=fun b o e=>hsb1.extBut b o (below b (ql e)) (qh _ (hH2 ▸ qh _ e));have hacc:hd1.get? sa2.heap.objs.size=some { cls:=.type "list",data:=.seq ([]:List Value).toArray 0 }:=hsb1.extBut _ _ hDC (qh _ (hH2 ▸ qA _ rfl));have Yok:=qcM (L:=L) (scope:=scope) (cl:=cl) (C:=H2.objs.size) (fp:=fp) I hsc hN ok hc1 hc2 hf hlt hCle;generalize hDn:sa2.heap.objs.size=D at *;generalize hCn:H2.objs.size=C at *;have sat1:tn 0 hd1:=T.keep _ _ _ st fun b _ o e=>old b o e
 have cellD:∀ x c,cl.lookup x=some c->c≠D:=fun x c e=>by
  obtain⟨v,q⟩:=I.cell x c (hc1 x c e);rw[<- hDn];exact qp q.lt
 have fpY:∀ {H':Hp}{its:List Value}{n:Nat},(∀ b∈fp,H' b=none)->∀ b∈fp,YC (qO X L scope cl C sa2 H fp) [(D,{ cls:=.type "list",data:=.seq its.toArray n })] H' b:=fun {H' its n} hn b hb=>by
  refine⟨hn b hb,(Yok.exf b hb).1,Yok.exfs b hb,.inl hb,(Yok.exf b hb).2,fun p hp=>?_⟩;have e:p=(D,{ cls:=.type "list",data:=.seq its.toArray n }):=by
   have:p∈[(D,({ cls:=.type "list",data:=.seq its.toArray n }:Obj))]:=hp;simpa using this
  subst e;exact Ne.symm (qp (hlt b hb))
 have nfsD:D∉(qO X L scope cl C sa2 H fp).fs:=fun z=>by
  obtain⟨_,o,ho,_⟩:=Yok.funs.mem z;exact absurd (show D<sa2.heap.objs.size from ql ho) (by rw[hDn];exact yz _)
 have pinD:∀ {G':St}{H':Hp}{s':Shared}{pl:List (Addr×Obj)}{its:List Value}{n:Nat},Inv (qO X L scope cl C sa2 H fp) pl G' H' s'->s'.heap.get? D=some { cls:=.type "list",data:=.seq its.toArray n }->H' D=none →
   Inv (qO X L scope cl C sa2 H fp) [(D,{ cls:=.type "list",data:=.seq its.toArray n })] G' H' s':=fun {G' H' s' pl its n} J e hn=>J.pins_of fun p hp=>by
  have e':p=(D,{ cls:=.type "list",data:=.seq its.toArray n }):=by simpa using hp
  subst e';exact⟨e,hn,hDC,nfsD,fun v z=>by cases z⟩
 have Ia1:Inv (qO X L scope cl C sa2 H fp) [] (G++List.replicate L.length none) H { sa2 with heap:=hd1,toks:=sa2.toks+([]:List (Str×Value)).length } :=
  Zo I hsc hN ok hc1 Yok (by rw[hDn];exact hCle) rfl I.bare old hns1
 have HD:H D=none:=I.hok.fresh (by rw[hDn];exact qo _);obtain⟨W,⟨m0,w0⟩,turn⟩:=hw;have loop:codeAny (model X.prog X.w) X.A (.compLoop (.ListComp elt [⟨tg,iter,ifs,0⟩] scope pos) 0 (.ref it) (.ref D) (compEnvC scope cl C X.env)) (RR (.ref D) C)
   { sa2 with heap:=hd1,toks:=sa2.toks+([]:List (Str×Value)).length }:=by
  refine Yy (fun n s'=>∃ i ys its k G' H',Inv (qO X L scope cl C sa2 H fp) [(D,{ cls:=.type "list",data:=.seq its.toArray k })] G' H' s'/\yN ys its/\ys.length<=sizeLine/\tn i s'.heap/\(∀ b∈fp,H' b=none)/\W i n ys G' H')
   ?_ m0 ⟨0,[],[],0,_,H,pinD Ia1 hacc HD,.nil,qZ _,sat1,fun b hb=>(hf b hb).1,w0⟩
  rintro n s3 ⟨i,ys,its,k,G3,H3,I3,hv3,hz3,st3,fr3,w3⟩;have hp3:=I3.pin (D,{ cls:=.type "list",data:=.seq its.toArray k }) (by simp);rcases turn i n ys G3 H3 w3 with⟨stop,q⟩ | ⟨go,hlen,Nx,hNx,step⟩
  .refine thn (T.done (qO X L scope cl C sa2 H fp) rfl rfl rfl hc i _ s3 G3 H3 _ I3 (fpY fr3) st3 stop) fun r s4 ⟨hr,I4⟩=>?_;subst hr;have hp4:=I4.pin (D,{ cls:=.type "list",data:=.seq its.toArray k }) (by simp);obtain⟨m4,hn4,_⟩:=I4.loc;exact hR D C m4 H3 s4 ys hn4 rfl (by rw[hC];exact y4 _) I4.free hDC (qb5 I hf hDn I4 hp4.1 hp4.2.1 hv3 hz3) (q D hp4.2.1)
  .refine thn (T.item (qO X L scope cl C sa2 H fp) rfl rfl rfl hc i _ s3 G3 H3 _ I3 (fpY fr3) st3 go) fun r s4 ⟨u,hr,h4⟩=>?_;subst hr;refine thn h4 fun _ s5 Og=>?_;obtain⟨x,H5,I5,r5,y5,st5,fr5⟩:=Og;have I5':=I5.pinned (fpY fr5) (T.obj _ _ st5);refine thn (hg cl C sa2 H fp _ s5 G3 H5 x u _ I5' r5 (step x H5 y5)) fun _ s6 Og=>?_;obtain⟨G6,H6,I6,q6⟩:=Og;refine thn (hi cl C sa2 H fp _ s6 G6 H6 _ I6 q6) fun ok s7 Og=>?_;obtain⟨H7,I7,q7⟩:=Og;have later:∀ {G':St}{H':Hp}{s':Shared},Inv (qO X L scope cl C sa2 H fp) ([(D,{ cls:=.type "list",data:=.seq its.toArray k })]++JI fp s5.heap) G' H' s' →
     tn (i+1) s'.heap/\(∀ b∈fp,H' b=none)/\s'.heap.get? D=some { cls:=.type "list",data:=.seq its.toArray k }/\H' D=none:=fun {G' H' s'} J=>by
    refine⟨T.keep _ _ _ st5 fun b hb o e=>(J.pin (b,o) (qg _ (qg _ (yQ hb e)))).1,fun b hb=>?_,?_⟩
    .obtain ⟨o,e,d⟩:=T.obj _ _ st5 b hb;exact (J.pin (b,o) (qg _ (qg _ (yQ hb e)))).2.1
    .have z:=J.pin (D,{ cls:=.type "list",data:=.seq its.toArray k }) (qg _ (qS _ (by simp)));exact⟨z.1,z.2.1⟩
   cases ok with
   | false =>
    rw[if_neg (by simp)] at q7 ⊢;obtain⟨m',hm',w'⟩:=hNx _ _ _ q7;obtain⟨t1,t2,t3,t4⟩:=later I7;exact⟨m',hm',i+1,ys,its,k,G6,H7,pinD I7 t3 t4,hv3,hz3,t1,t2,w'⟩
   | true =>
    rw[if_pos rfl] at q7 ⊢;refine thn (he cl C sa2 H fp _ s7 G6 H7 _ I7 q7) fun y s8 Og=>?_;obtain⟨v,H8,I8,r8,q8⟩:=Og;obtain⟨m',hm',w'⟩:=hNx _ _ _ q8;obtain⟨t1,t2,t3,t4⟩:=later I8;refine append_at (hsz:=by rw[qz,<- hv3.length];exact hz3) t3 fun h9 hs9 hD9=>?_;have nbD:∀ b∈fp,b≠D:=fun b hb=>qp (hlt b hb);have I9:Inv (qO X L scope cl C sa2 H fp) [] G6 H8 { s8 with heap:=h9 }:=(I8.pins_of (pins':=[]) (fun p hp=>by simp at hp)).turned (it:=D) (t':=s8.toks) (fun b o hb e=>hs9.extBut b o hb e) t4 hDC
     (.inr (by show sa2.heap.objs.size<=D;rw[hDn];exact qo _)) cellD (fun p hp=>by
      have:p∈([]:List (Addr×Obj)):=hp;simp at this)
    refine⟨m',hm',i+1,ys++[v],its++[y],k+1,G6,H8,pinD I9 (by rw[hD9];simp) t4,hv3.append (.cons r8 .nil),by simp;lia,T.keep _ _ _ t1 fun b hb o e=>hs9.extBut b o (nbD b hb) e,t2,w'⟩
 exact codeAny_compStart_list loop (T.self _ 0 _ _ _ sat1 loop)
end L2
namespace L2
variable {g:TG}{tt:TT}{te:TE}
theorem qfv
  (hc:X.calm=true) (hsc:X.env.scope=sc) (hN:X.N=N) (ok:jE sc N L scope=true)
  (hi:PI X tg iter wi) (hg:∀ cl C sa2 Ha2 fp,PG (qO X L scope cl C sa2 Ha2 fp) tg g) (hf:∀ cl C sa2 Ha2 fp,Ifs (qO X L scope cl C sa2 Ha2 fp) ifs tt) (he:∀ cl C sa2 Ha2 fp,PE (qO X L scope cl C sa2 Ha2 fp) elt te)
  (hs:∀ x,foldedSetIterable iter X.env x=pure x:=by intro _;rfl) :
  PE X (.ListComp elt [⟨tg,iter,ifs,0⟩] scope pos) (qhh L.length wi g tt te):=by
 intro Ob s G H Q I h;obtain⟨cl,hcl,hc1,hc2⟩:=JN (env:=X.env) (scope:=scope) fun y hy hfr=>by
  refine I.ok.has y.1 ?_;have z:=(yZ ok hy).2.2 hfr;rw[<- hsc] at z;exact z
 rw[eval_ListComp];refine wpAny_comprehension_free (use:=none) rfl hs hcl (jh ok) (fun y hy hl=>((yZ ok hy).2.1 hl).1) (thn (hi Ob s G H _ I h) fun v s1 h1=>thn h1 fun itv s2 h2=>?_);obtain⟨it,fp,tn,J,H2,e,I2,T,st2,f2,hw⟩:=h2;subst e;refine qaK (RR:=fun acc C=>compPost (model X.prog X.w) X.A X.xe none (EP X Ob G Q) acc C) hc hsc hN ok hc1 hc2 hg hf he I2 T st2 f2 hw ?_;intro D C m H' s' ys hns hD hC hHC hDC J' q;refine⟨m,hns,fun h'' hs''=>⟨.ref D,upd H' D (.lst ys),?_,rfl,q⟩⟩;have hsz:=I2.sz;refine J'.turned (it:=C) (t':=s'.toks) (fun b o hb e=>hs''.extBut b o hb e) (by rw[qV (Ne.symm hDC)];exact hHC) (Ne.symm (qp (yJ I2.lt hC))) (.inr (qt hsz (yn hC))) (fun x c e=>?_) (fun p hp=>?_)
 .obtain ⟨v,z⟩:=I2.cell x c e;exact qp (yJ z.lt hC)
 .exact qp (yJ (ql (I2.pin p hp).1) hC)
theorem qj2 {spos:Pos}
  (hNd:X.N.Nodup) (hxi:X.N[i]?=some x) (hx:Loc X.env.scope x)
  (hc:X.calm=true) (hsc:X.env.scope=sc) (hN:X.N=N) (ok:jE sc N L scope=true)
  (hi:PI X tg iter wi) (hg:∀ cl C sa2 Ha2 fp,PG (qO X L scope cl C sa2 Ha2 fp) tg g) (hf:∀ cl C sa2 Ha2 fp,Ifs (qO X L scope cl C sa2 Ha2 fp) ifs tt) (he:∀ cl C sa2 Ha2 fp,PE (qO X L scope cl C sa2 Ha2 fp) elt te)
  (hsw:swapsWith (.ListComp elt [⟨tg,iter,ifs,0⟩] scope pos) (some (.Name x pos')) spos.line X.env=pure true:=by rfl)
  (hs:∀ x,foldedSetIterable iter X.env x=pure x:=by intro _;rfl)
  (hfn:FnL X x:=by trivial) :
  PS X (.Assign [.Name x pos'] (.ListComp elt [⟨tg,iter,ifs,0⟩] scope pos) spos) (tAsg (qhh L.length wi g tt te) (qh7 i)):=by
 intro Ob s G H D I h;obtain⟨cl,hcl,hc1,hc2⟩:=JN (env:=X.env) (scope:=scope) fun y hy hfr=>by
  refine I.ok.has y.1 ?_;have z:=(yZ ok hy).2.2 hfr;rw[<- hsc] at z;exact z
 rw[exec_Assign_Name_used _ _ _ _ hsw];refine qa (jp (qa ?_));show wpAny _ X.A (do let _ <- comprehension (.ListComp elt [⟨tg,iter,ifs,0⟩] scope pos) scope X.env _ (newList []) false (eval iter X.env) (some (assign (.Name x pos') X.env))) _ _ s;refine qa (qP (wpAny_comprehension_free (use:=some (assign (.Name x pos') X.env)) (Q:=fun _ s'=>SP X Ob D .next s') rfl hs hcl (jh ok) (fun y hy hl=>((yZ ok hy).2.1 hl).1)
  (thn (hi Ob s G H _ I h) fun v s1 h1=>thn h1 fun itv s2 h2=>?_)) (fun _ s' hq=>qe (qe hq)) fun _ _ e=>e)
 obtain⟨it,fp,tn,J,H2,e,I2,T,st2,f2,hw⟩:=h2;subst e;refine qaK (RR:=fun acc C=>compPost (model X.prog X.w) X.A X.xe (some (assign (.Name x pos') X.env)) (fun _ s'=>SP X Ob D .next s') acc C) hc hsc hN ok hc1 hc2 hg hf he I2 T st2 f2 hw ?_;intro D' C m H' s' ys hns hD hC hHC hDC J' q;have hsz:=I2.sz;have neL:C≠X.env.locals:=Ne.symm (qp (yJ I2.lt hC));have neC:∀ x c,X.env.cells.lookup x=some c->c≠C:=fun x c e=>by
  obtain⟨v,z⟩:=I2.cell x c e;exact qp (yJ z.lt hC)
 show wpAny _ X.A (assign (.Name x pos') X.env (.ref D')) _ _ s';refine wpAny_assign_Name (qbB J' hNd hxi hx (v:=.ref D') rfl (fun s'' J'' ⟨a,hsb,ha⟩=>?_) hfn);have haC:C≠a:=by
  rcases ha with ha | ha
  .rw [ha];exact neL
  .exact Ne.symm (neC x a ha)
 refine⟨m,hns.sameBut hsb haC,fun h'' hs''=>⟨_,upd H' D' (.lst ys),?_,q⟩⟩;refine J''.turned (it:=C) (t':=s''.toks) (fun b o hb e=>hs''.extBut b o hb e) (by rw[qV (Ne.symm hDC)];exact hHC) neL (.inr (qt hsz (yn hC))) neC (fun p hp=>?_);exact qp (yJ (ql (I2.pin p hp).1) hC)
end L2
namespace L2
def Big (i:Int):Prop:=i.natAbs<2 ^ 1000
theorem Big.of {i:Int}(b:Int) (hb:b<2 ^ 1000) (h1:-b<=i) (h2:i<=b):Big i:=by
 unfold Big;have:(i.natAbs:Int)<=b:=by lia
 have h3:(i.natAbs:Int)<2 ^ 1000:=Int.lt_of_le_of_lt this hb
 exact_mod_cast h3
theorem Big.bits {i:Int}(h:Big i):Builtin.Int.intBits i<=2 ^ 20:=by
 unfold Builtin.Int.intBits;by_cases h0:i.natAbs=0
 .have:i=0:=by lia
  subst this;decide
 .have:=(Nat.log2_lt h0).mpr h;split <;> lia
def qbr (i j:Int):Prop:=Big i/\Big j
theorem qcs:OpR X (binaryOp .Mult) (rI qbr fun i j=>.int (i * j)):=opI fun _ _ _ _ _ _ _ hc q=>mul_int q (IntMulOk.of_bits hc.1.bits hc.2.bits)
def qg1 (i j:Int):Prop:=j≠0/\Big j
theorem qhJ:OpR X (binaryOp .FloorDiv) (rI qg1 fun i j=>.int (i.fdiv j)):=opI fun i j _ _ _ _ _ hc q=>floordiv_int hc.1 q (.inl (PyProof.noPylong_of_log2 (by
 by_cases h0:j.natAbs=0
 .rw [h0];decide
 .have:=(Nat.log2_lt h0).mpr hc.2;lia)))
mutual
inductive Is (K:W.Frag) (H:Hp):V->PyData->Prop
 | non:Is K H .non .none
 | bl (b:Bool):Is K H (.bl b) (.bool b)
 | int (i:Int):Is K H (.int i) (.int i)
 | str (x:Str):Is K H (.str x) (.str x)
 | lst {a:Addr}{xs:List V}{ds:List PyData}:SqL K H a xs->IsAll K H xs ds->Is K H (.ref a) (.list ds)
 | tup {a:Addr}{xs:List V}{ds:List PyData}:SqT K H a xs->IsAll K H xs ds->Is K H (.ref a) (.tuple ds)
 | dc {a:Addr}:H a=some (.dK [])->Is K H (.ref a) (.dict [])
inductive IsAll (K:W.Frag) (H:Hp):List V->List PyData->Prop
 | nil:IsAll K H [] []
 | cons {x:V}{xs:List V}{d:PyData}{ds:List PyData}:Is K H x d->IsAll K H xs ds->IsAll K H (x::xs) (d::ds)
end
theorem IsAll.ints : ∀ ns:List Int,IsAll K H (ns.map V.int) (ns.map PyData.int)
 | []=>.nil
 | n::ns=>.cons (.int n) (IsAll.ints ns)
mutual
theorem Is.reads (I:Inv X Ob G H s):∀ {x:V}{d:PyData}{u:Value},Is X.K H x d->jw x u->∃ as,Reads s.heap u d as
 | _,_,_,.non,r=>by cases r;exact⟨_,.none⟩
 | _,_,_,.bl b,r=>by cases r;exact⟨_,.bool b⟩
 | _,_,_,.int i,r=>by obtain⟨t,rfl⟩:=r;exact⟨_,.int i t⟩
 | _,_,_,.str i,r=>by obtain⟨t,rfl⟩:=r;exact⟨_,.str i t⟩
 | _,_,_,.lst hq hs,r=>by
  cases r
  obtain⟨its,rv,pl,hz⟩:=I.list hq;obtain⟨as,ra⟩:=IsAll.reads I hs rv;obtain⟨o,ho,hc,n,hd⟩:=pl.isList;exact⟨_,.list ho hc hd (by simpa using ra)⟩
 | _,_,_,.tup hq hs,r=>by
  cases r
  obtain⟨its,rv,pl,hz⟩:=I.tuple hq;obtain⟨as,ra⟩:=IsAll.reads I hs rv;obtain⟨o,ho,hc,n,hd⟩:=pl;exact⟨_,.tuple ho hc hd (by simpa using ra)⟩
 | _,_,_,.dc (a:=a) e,r=>by
  cases r
  obtain⟨_,_,vs,kv,o,es,ep,h1,h2,h3,h4,h5,h6⟩:=(show jK X.prog X.w H s.heap a (.dK []) from I.hok a _ e);have hv:vs=[]:=by cases kv;rfl
  subst hv;have he:es.toList=[]:=by
   generalize es.toList=l at h5;cases h5
   rfl
  exact⟨_,.dict h1 h2.1 h3 (by rw[he];exact .nil) (by rw[he];exact .nil)⟩
theorem IsAll.reads (I:Inv X Ob G H s):∀ {xs:List V}{ds:List PyData}{us:List Value},IsAll X.K H xs ds->yN xs us->∃ as,ReadsAll s.heap us ds as
 | _,_,_,.nil,r=>by cases r;exact⟨_,.nil⟩
 | _,_,_,.cons h hs,r=>by
  cases r with
  | cons r1 r2 =>
   obtain⟨as,ra⟩:=Is.reads I h r1;obtain⟨bs,rb⟩:=IsAll.reads I hs r2;exact⟨_,.cons ra rb⟩
end
def rEqD (K:W.Frag):R2:=fun x y H Q=>∃ d d',Is K H x d/\Is K H y d'/\SeqAt.shaped d=true/\SeqAt.shaped d'=true/\Q (.bl (PyData.eqv d d')) H
def rNeD (K:W.Frag):R2:=fun x y H Q=>∃ d d',Is K H x d/\Is K H y d'/\SeqAt.shaped d=true/\SeqAt.shaped d'=true/\Q (.bl (!PyData.eqv d d')) H
theorem qi7 (hu:X.A.units+64<cLine):OpR X (compareOp .Eq) (rEqD X.K):=by
 intro Ob s G H x y v u Q I rx ry h;obtain⟨d,d',h1,h2,h3,h4,q⟩:=h;obtain⟨as,ra⟩:=h1.reads I rx;obtain⟨bs,rb⟩:=h2.reads I ry;exact eq_dataH ra rb h3 h4 hu ⟨.bl _,H,I,rfl,q⟩
theorem qi6 (hu:X.A.units+64<cLine):OpR X (compareOp .NotEq) (rNeD X.K):=by
 intro Ob s G H x y v u Q I rx ry h;obtain⟨d,d',h1,h2,h3,h4,q⟩:=h;obtain⟨as,ra⟩:=h1.reads I rx;obtain⟨bs,rb⟩:=h2.reads I ry;exact ne_dataH ra rb h3 h4 hu ⟨.bl _,H,I,rfl,q⟩
theorem qnA {bs:List Bool}(r:yN (bs.map V.bl) its) {v:Value}(e:its[i]?=some v):v = .bool (bs.getD i false):=by
 have hl:=r.length;rw[qc] at hl;have hi:i<its.length:=(qm.mp e).1;have hb:(bs.map V.bl)[i]?=some (V.bl (bs.getD i false)):=by
  rw[qK];have:bs[i]?=some (bs.getD i false):=by rw[qX,qf (by lia)];rfl
  rw[this];rfl
 obtain⟨u,eu,ru⟩:=r.get hb;rw[e] at eu;cases eu
 exact ru
theorem qfd (bs:List Bool):(List.range bs.length).all (fun i=>bs.getD i false)=bs.all id:=by
 rw[Bool.eq_iff_iff];simp only[List.all_eq_true,yC,id];constructor
 .intro h b hb;obtain⟨i,hi,rfl⟩:=jo.mp hb;have:=h i hi;rwa[qX,qf hi] at this
 .intro h i hi;rw[qX,qf hi];exact h _ (ya hi)
theorem qim (hc:X.calm=true):jq X (.builtin "all") (fun xs H Q=>∃ (p:Addr) (bs:List Bool),xs=[.ref p]/\SqL X.K H p (bs.map V.bl)/\Q (.bl (bs.all id)) H):=by
 intro Ob s G H xs us Q I r h;obtain⟨p,bs,rfl,hq,q⟩:=h;obtain⟨u,rfl,rx⟩:=qar r;cases rx
 obtain⟨its,rv,pl,hz⟩:=I.list hq;have hl:=rv.length;rw[qc] at hl;refine call_all_walk (wpAny_pyIter_list pl.isList ?_);have hlt:p<s.heap.objs.size:=by obtain⟨o,e,_⟩:=pl.isList;exact ql e
 refine⟨s.heap.objs.size,_,_,_,_,_,fun i=>bs.getD i false,rfl,Walks.list (A:=X.A.in1) (I.ok.hd hc) s.heap.objs.size p (qp hlt) its.toArray,⟨⟨_,qA _ rfl,rfl,rfl⟩,pl.isList.push _⟩,?_,fun h' tk k=>?_⟩
 .intro i v s Q E e hQ;have e':its[i]?=some v:=by simpa using e
  rw[qnA rv e'];exact wpAny_truthy_bool hQ
 .rw [qz,<- hl,qfd];refine⟨.bl _,H,I.kept (fun b o e=>k b o (fun hb=>?_) (qh _ e)),rfl,q⟩;have:b=s.heap.objs.size:=by simpa using hb
  exact absurd (this ▸ ql e) (yz _)
def qi1 (K:W.Frag):V->List V->Hp->VK->Prop:=fun x vs H Q=>∃ (l:Addr) (ns:List Int) (k:Int),x = .ref l/\vs=[.int k]/\SqL K H l (ns.map V.int)/\Q (.int (ns.count k:Nat)) H
theorem qaZ:MtR X "list.count" (qi1 X.K):=by
 intro Ob s G H x xs v us Q I rx rs h;obtain⟨l,ns,k,rfl,rfl,hq,q⟩:=h;cases rx
 obtain⟨u,rfl,t,rfl⟩:=qar rs;obtain⟨its,rv,pl,hz⟩:=I.list hq;exact count_list_ints pl.isList (qd5 rv) ⟨.int _,H,I.tok _,⟨_,rfl⟩,q⟩
end L2
namespace L2
theorem JO:bootBuiltins "len" = some (.builtin "len"):=by decide +kernel
theorem qaM:bootBuiltins "abs" = some (.builtin "abs"):=by decide +kernel
theorem qdH:bootBuiltins "max" = some (.builtin "max"):=by decide +kernel
theorem qny:bootBuiltins "min" = some (.builtin "min"):=by decide +kernel
theorem qnz:bootBuiltins "all" = some (.builtin "all"):=by decide +kernel
theorem qgS:bootBuiltins "divmod" = some (.builtin "divmod"):=by decide +kernel
theorem qap:bootBuiltins "sorted" = some (.builtin "sorted"):=by decide +kernel
theorem y9:bootBuiltins "isinstance" = some (.builtin "isinstance"):=by decide +kernel
theorem Jm:bootBuiltins "list" = some (.type "list"):=by decide +kernel
theorem qip:bootBuiltins "tuple" = some (.type "tuple"):=by decide +kernel
theorem qjx:bootBuiltins "set" = some (.type "set"):=by decide +kernel
def NoX (CX:CXT):Prop:=∀ o H s e s',CX o H s E0 e s'->False
theorem qhI (h:NoX CX):YA CX X E0:=fun _ _ _ _ _ _ _ q=>(h _ _ _ _ _ q).elim
def Own (P:Program) (w:World) (K:W.Frag) (mg:Str->Option Value) (base:Heap) (CX:CXT) (k:Nat) (x:Str) (ps:List Str) (sp:Sp):Prop :=
 ∃ (f:Addr) (fd:FuncData),FnOk P w K mg base CX k f fd ps sp/\mg x=some (.ref f)/\W.keepIn K (.ref f)=true/\Zs K fd ps []
section
variable {p:Pos}
theorem qmA (Oa:Own X.prog X.w X.K X.mg X.base CX k x ps sp) (hX:NoX CX) (hr:Room k X.A) (hg:Gl X x) (ha:PA X (e::es) t) (hdb:(x == ("__debug__" : Str))=false:=by decide)
  (he:starEach (e::es) X.env=(false,eval e X.env)::starEach es X.env:=by rfl) (hpl:(backTo pos (starEach es X.env)).any (·.1)=false:=by rfl):PE X (.Call (.Name x p) (e::es) [] pos) (qhi sp [] E0 t):=by
 obtain⟨f,fd,F,hm,hk,hb⟩:=Oa;exact qfx F hr hg hm hk hb .nil (qhI hX) ha hdb he hpl
end
theorem Fun.okG {st:Stmt}(F:Fun K x qual st f fd) (S:FnScope N ps (qq st)) (len:∀ vs H Q E,sp vs H Q E->vs.length=ps.length)
  (hbody:∀ (Oh:Value) (A:Around) (outer:List Env) (s:Shared) (H:Hp) (vs:List V) (Q:VK) (E:XK),Room k (A.deeper (envOfC qual (qq st) s.heap.objs.size f Oh))->sp vs H Q E →
   ∃ t,PSs (qao CX P w K mg base N qual (qq st) f Oh A outer s H E).nox (yY st) t/\t { nx:=fun _ H'=>Q .non H',rt:=Q } (JT N vs) H):FnOk P w K mg base CX (k+1) f fd ps sp:=by
 obtain⟨oc,od,kV,doc,pm,an,Oh,ct,osl,rfl,lk,hcd⟩:=F.ex;refine qkV lk hcd S len fun A outer s H vs Q E hr hsp=>?_;obtain⟨t,h,q⟩:=hbody Oh A outer s H vs Q E hr hsp;exact⟨t,h.nox,q⟩
def Pot (M:Int) (H:Hp) (p:Addr):Prop:=∃ p0 p1:Int,H p=some (.lst [.int p0,.int p1])/\0<=p0/\0<=p1/\p1<M
def Stp (p:Addr) (H H':Hp):Prop:=∀ b o,H b=some o->b≠p->H' b=some o
theorem Stp.trans (a:Stp p H H1) (b:Stp p H1 H2):Stp p H H2:=fun c o e n=>b c o (a c o e n) n
theorem Stp.upd {o:HO}:Stp p H (upd H p o):=fun b u e n=>by rw[qV n];exact e
theorem yr.stp (h:yr H H'):Stp p H H':=fun b o e _=>h b o e
theorem yr.upd {o:HO}(h:H p=none):yr H (upd H p o):=fun b u e=>by rw[qV (qM e h)];exact e
abbrev Pt:=Int×Int
theorem Paired.get {R:α->β->Prop}:∀ {xs:List α}{ys:List β}{i:Nat}{x:α},Paired R xs ys->xs[i]?=some x->∃ y,ys[i]?=some y/\R x y
 | _,_,_,_,.nil,e=>by simp at e
 | _,_,0,_,.cons r _,e=>by simp at e;subst e;exact⟨_,rfl,r⟩
 | _,_,i+1,x,.cons _ t,e=>by
  obtain⟨u,h1,h2⟩:=Paired.get (i:=i) (x:=x) t (by simpa using e);exact⟨u,by simpa using h1,h2⟩
theorem Paired.get' {R:α->β->Prop}:∀ {xs:List α}{ys:List β}{i:Nat}{y:β},Paired R xs ys->ys[i]?=some y->∃ x,xs[i]?=some x/\R x y
 | _,_,_,_,.nil,e=>by simp at e
 | _,_,0,_,.cons r _,e=>by simp at e;subst e;exact⟨_,rfl,r⟩
 | _,_,i+1,x,.cons _ t,e=>by
  obtain⟨u,h1,h2⟩:=Paired.get' (i:=i) (y:=x) t (by simpa using e);exact⟨u,by simpa using h1,h2⟩
theorem Paired.len {R:α->β->Prop}{xs:List α}{ys:List β}(h:Paired R xs ys):xs.length=ys.length:=PySem.Paired.length h
def ptD (q:Pt):PyData:=.tuple [.int q.1,.int q.2]
theorem qag:∀ ns:List Int,PyData.canLayAll0 (ns.map PyData.int)=true
 | []=>by simp[PyData.canLayAll0]
 | _::r=>by simp[PyData.canLayAll0,PyData.canLay0,qag r]
theorem qaD:∀ ns:List Int,PyData.depthAll (ns.map PyData.int)<=1
 | []=>by simp[PyData.depthAll]
 | _::r=>by
  have:=qaD r;simp only[yb,PyData.depthAll,PyData.depth];lia
theorem Z4:∀ ps:List Pt,PyData.canLayAll0 (ps.map ptD)=true
 | []=>by simp[PyData.canLayAll0]
 | _::r=>by simp[PyData.canLayAll0,PyData.canLay0,ptD,Z4 r]
theorem qax:∀ ps:List Pt,PyData.depthAll (ps.map ptD)<=3
 | []=>by simp[PyData.depthAll]
 | _::r=>by
  have:=qax r;simp only[yb,PyData.depthAll,PyData.depth,ptD];lia
theorem jf (ns:List Int):SeqAt.shaped (.tuple (ns.map PyData.int))=true:=by
 have:=qaD ns;unfold SeqAt.shaped;rw[ym];refine⟨by simp only[PyData.canLay0,qag],qN ?_⟩;simp only[PyData.depth];lia
theorem Y7 (ps:List Pt):SeqAt.shaped (.list (ps.map ptD))=true:=by
 have:=qax ps;unfold SeqAt.shaped;rw[ym];refine⟨by simp only[PyData.canLay0,Z4],qN ?_⟩;simp only[PyData.depth];lia
theorem qg6 {n:Int}(h1:-10000000000000000000000000000000000000000<=n) (h2:n<=10000000000000000000000000000000000000000):Big n:=Big.of 10000000000000000000000000000000000000000 (by decide) h1 h2
theorem sz2:2<=sizeLine:=by decide
theorem sz1:1<=sizeLine:=by decide
end L2
variable {q:L2.Pt}{B:List L2.Pt}
namespace L2
variable {bmB:List Value}{newId initId:String}
section
variable {o:HO}
theorem jK.has (x:jK P w H h a o):∃ ob,h.get? a=some ob:=by
 cases o with
 | lst xs=>obtain⟨_,_,_,_,e⟩:=x;exact⟨_,e⟩
 | tup xs=>obtain⟨_,_,_,ob,e,_⟩:=x;exact⟨_,e⟩
 | dK kvs=>obtain⟨_,_,_,_,ob,_,_,e,_⟩:=x;exact⟨_,e⟩
 | dT kvs=>obtain⟨_,_,_,_,ob,_,_,e,_⟩:=x;exact⟨_,e⟩
 | set S n=>obtain⟨ob,_,_,_,e,_⟩:=x;exact⟨_,e⟩
 | ins C dx fs=>obtain⟨_,_,_,e,_⟩:=x;exact⟨_,e⟩
 | own y=>exact x
 | xd fs=>obtain⟨_,⟨_,_,_,e,_⟩,_⟩:=x;exact⟨_,e⟩
 | rng lo hi=>obtain⟨_,_,_,e⟩:=x;exact⟨_,e⟩
 | frz ob u=>obtain⟨e,_⟩:=x;exact⟨_,e⟩
 | tbl ps=>exact⟨_,(show h.get? a=some _ from x)⟩
 | met f y=>exact⟨_,(show h.get? a=some _ from x)⟩
 | ext φ=>obtain⟨_,e,_⟩:=x;exact e
end
def Cov (B:Heap) (H':Hp) (h₀ h:Heap) (fs:List Addr):Prop:=∀ b o,h.get? b=some o->b∉fs->((∃ oa0,h₀.get? b=some oa0)\/∃ u,H' b=some u)->B.get? b=some o
def XC (P:Program) (w:World):CXT:=fun outer H s E e s'=>∃ (ea:Addr) (cls a0:Value) (H':Hp) (B:Heap),e = .ref ea/\s'.os=s.os/\AllBare s'.gens/\Un (frs outer) [] H H' s.heap s'.heap/\HOk P w H' s'.heap ∧
 Heap.FlyingW B outer ea cls a0 s'.heap/\Cov B H' s.heap s'.heap (frs outer)/\H' ea=none/\E cls none H'
theorem YX : NoX (XC P w):=fun _ _ _ _ _ ⟨_,_,_,_,_,_,_,_,_,_,_,_,_,z⟩=>z
theorem qkW (KX:K.In h) (q:W.excIn K C bmB newId=true) :
  ∃ bm N nm qn bs hd sn sub ab col dd k0 k1 k2 k3 k5 mN,h.get? C=some (excClassObj nm qn C N bs bm hd sn sub ab col dd k0 k1 k2 k3 k5 newId)/\h.Ns N mN/\mN "__init__" = none/\OwnTail h bmB bm:=by
 unfold W.excIn at q;split at q
 .rename_i dd cd sl look
  split at q
  .rename_i C2 bm s0 s1 s2 s3 nid s5 emro esl
   simp only[ym,beq_iff_eq,Bool.not_eq_true'] at q;obtain⟨⟨⟨⟨⟨rfl,rfl⟩,nodel⟩,tl⟩,nsok⟩,noinit⟩:=q;obtain⟨nm,bs,mro,ns,qn,hd,sn,sub,ab,col,del⟩:=cd;dsimp only at emro nodel nsok noinit;subst emro nodel;obtain rfl:sl=#[s0,s1,s2,s3,some (.builtin nid),s5]:=by
    obtain⟨l⟩:=sl;simp only at esl;rw[esl]
   exact⟨bm,ns,nm,qn,bs,hd,sn,sub,ab,col,dd,s0,s1,s2,s3,s5,_,KX _ _ look,.of_isNs (W.isNs_of_in KX nsok),W.nsMap_none_of_in KX nsok noinit,W.tail_of_in KX tl⟩
  .cases q
 .cases q
theorem qai {fs:List Addr}:∀ {l:List Env},h.FunFrames base l->(∀ b∈frs l,b∈fs)->h.FunFrames (W.hideAll h fs) l
 | [],_,_=>trivial
 | env::r,⟨hk,⟨L,o,hf,hn,ho,hd⟩,hr⟩,hs=>by
  have hm:L∈frs (env::r):=yD.mpr ⟨env,qi,hf⟩;refine⟨hk,⟨L,o,hf,W.hideAll_none _ (hs L hm),ho,hd⟩,qai hr fun b hb=>hs b ?_⟩;obtain⟨e,he,hfe⟩:=yD.mp hb;exact yD.mpr ⟨e,qd _ he,hfe⟩
def qlP (E:XK) (cls:Value) (t:TA):TS:=fun _ G H=>t G H fun vs H2=>vs.length<=sizeLine/\E cls none H2
section
variable {E:XK}{B:String}{ea0:Expr}{rest:List Expr}{cpos:Pos}
theorem qhy (q:W.excIn K C bmB newId=true) (FB:ExcBaseFacts B newId initId bmB) (hm:mg x=some (.ref C)) (hg:Gl (qao (XC P w) P w K mg base N qual scope f cd A outer s H E) x)
  (ha:PA (qao (XC P w) P w K mg base N qual scope f cd A outer s H E) (ea0::rest) t)
  (he:starEach (ea0::rest) (qao (XC P w) P w K mg base N qual scope f cd A outer s H E).env=(false,eval ea0 (qao (XC P w) P w K mg base N qual scope f cd A outer s H E).env)::starEach rest (qao (XC P w) P w K mg base N qual scope f cd A outer s H E).env:=by rfl)
  (hpl:(backTo cpos (starEach rest (qao (XC P w) P w K mg base N qual scope f cd A outer s H E).env)).any (·.1)=false:=by rfl) (hdb:(x == ("__debug__" : Str))=false:=by decide) :
  PS (qao (XC P w) P w K mg base N qual scope f cd A outer s H E) (.Raise (some (.Call (.Name x np) (ea0::rest) [] cpos)) none pos) (qlP E (.ref C) t):=by
 intro Ob s1 G H1 D I h;generalize hX:qao (XC P w) P w K mg base N qual scope f cd A outer s H E=X at *;have xK:X.K=K:=by rw[<- hX];rfl
 have xmg:X.mg=mg:=by rw[<- hX];rfl
 have xst:X.stack=X.env::X.outer:=by rw[<- hX];rfl
 have xfr:X.env.frame=some X.env.locals:=by rw[<- hX];rfl
 have xex:X.ex=[]:=by rw[<- hX];rfl
 obtain⟨tl,Nn,nm,qn,bs,hdct,sn,sub,ab,col,dd,k0,k1,k2,k3,k5,mN,hC,hN,hni,T⟩:=qkW (K:=K) (xK ▸ I.ok.mod.kin) q;have hhd:X.A.handled=none:=I.ok.hd (by rw[<- hX];rfl);refine wpAny_Raise_call_subT (C:=C) (nm:=nm) (q:=qn) (N:=Nn) (bs:=bs) (bm:=tl) (hdct:=hdct) (sn:=sn) (sub:=sub) (ab:=ab) (col:=col) (dd:=dd) (k0:=k0) (k1:=k1) (k2:=k2) (k3:=k3) (k5:=k5)
  FB (mN:=mN) (T.hasType FB.hasBase) hhd (by rw[he];show (false || (backTo cpos (starEach rest X.env)).any (·.1))=false;rw[hpl];rfl) hni (Zj I hg (xmg ▸ hm) ⟨rfl,?_⟩ hdb)
 have hA:=ha cpos Ob s1 G H1 _ I h;rw[he] at hA ⊢;refine Calls.evalArgs_plain (qP hA (fun us s2 ⟨vs,H2,I2,r2,hz,hE⟩=>⟨rfl,by rw[<- r2.length];exact hz,I2.bk _ _ hC,hN.keeps I2.bk,T.keeps I2.bk,fun h' e made=>?_⟩) fun _ _ y=>y)
 have fsub:∀ b∈frs X.stack,b=X.env.locals\/b∈X.fs:=fun b hb=>qG.mp (I2.stkSub b hb);have hfs:∀ b∈X.fs,b∈frs X.stack:=fun b hb=>by
  rw[xst];obtain⟨e,he,hfe⟩:=yD.mp hb;exact yD.mpr ⟨e,qd _ he,hfe⟩
 have leave:wpAny (model X.prog X.w) X.A (leaving X.env (.ref e)) (fun _ s''=>XC X.prog X.w X.outer X.H₀ X.s₀ E (.ref e) s'') (fun e' s''=>XC X.prog X.w X.outer X.H₀ X.s₀ E e' s'') { s2 with heap:=h' }:=by
  refine wpAny_leaves_madeW (base:=W.hideAll s2.heap (frs X.stack)) (h:=s2.heap) (by rw[<- xst];exact I2.ok.frames) xfr (fun b o hb=>W.of_hideAll _ hb) (by rw[<- xst];exact qai I2.stack fun b hb=>hb) made fun h'' t fl _ _ ups=>?_;have kept:∀ b o,s2.heap.get? b=some o->b∉frs X.stack->h''.get? b=some o:=fun b o eb nb=>fl.1 b o (W.hideAll_get _ eb nb);have bs:Un X.fs [] X.H₀ H2 X.s₀.heap s2.heap:=by have:=I2.base;rw[xex] at this;exact this
  have oldnf:∀ b o,X.s₀.heap.get? b=some o->b∉X.fs->b∉frs X.stack:=fun b o eb nb z=>by
   rcases fsub b z with z | z
   .exact absurd (qT (ql eb) I2.ok.above) (by rw[z];exact yz _)
   .exact nb z
  have trk:∀ b u,H2 b=some u->b∉frs X.stack:=fun b u eb z=>by
   have:=I2.stkFree b z;rw[this] at eb;cases eb
  refine⟨e,.ref C,.ref t,H2,_,rfl,I2.os,I2.bare,⟨fun b o eb n nf _=>?_,fun b o eb n nf _=>?_,bs.free,fun b o eb _=>?_,bs.tups,bs.frzs,bs.tbls⟩,fun b u eb=>?_,fl,fun b o eb nb cov=>?_,?_,hE⟩
  .exact kept b o (bs.keep b o eb n nf (by simp)) (oldnf b o eb nf)
  .obtain ⟨sl,e1⟩:=bs.slot b o eb n nf (by simp);obtain⟨_,o',ho',hd'⟩:=I2.stack.mem (hfs b nf);rw[e1] at ho';cases ho';obtain⟨sl2,e2⟩:=ups b _ (made.keeps b _ e1) hd';exact⟨sl2,e2⟩
  .obtain ⟨o',e1⟩:=bs.there b o eb (by simp);by_cases nb:b∈frs X.stack
   .obtain ⟨_,o2,ho2,hd2⟩:=I2.stack.mem nb;rw[e1] at ho2;cases ho2;obtain⟨sl2,e2⟩:=ups b _ (made.keeps b _ e1) hd2;exact⟨_,e2⟩
   .exact ⟨o',kept b o' e1 nb⟩
  .refine (I2.hok b u eb).stay (fun c v hc e1=>kept c v e1 ?_) (fun _ z=>z) fun _ _ z=>z;rcases hc with rfl | hc
   .exact trk c u eb
   .exact trk c _ hc
  .have nfr:b∉frs X.stack:=by
    rcases cov with⟨o0,e0⟩ | ⟨u,eu⟩
    .exact oldnf b o0 e0 nb
    .exact trk b u eu
   have there:∃ o2,s2.heap.get? b=some o2:=by
    rcases cov with⟨o0,e0⟩ | ⟨u,eu⟩
    .exact bs.there b o0 e0 (by simp)
    .exact (I2.hok b u eu).has
   obtain⟨o2,e2⟩:=there;have:=kept b o2 e2 nfr;rw[eb] at this;cases this;exact W.hideAll_get _ e2 nfr
  .cases z:H2 e with
   | none=>rfl
   | some u =>
    obtain⟨o2,e2⟩:=(I2.hok e u z).has;have:=made.new;rw[e2] at this;cases this
 rw[<- hX] at leave ⊢;exact leave
end
end L2
namespace L2
variable {pn:List (Addr×Obj)}{suite:List Stmt}
abbrev qcj (X:Cx) (pn:List (Addr×Obj)) (xe:Value->Shared->Prop):Cx:={ X with pn:=pn,xe:=xe }
abbrev qck (X:Cx) (ea:Addr):Cx:={ X with A:=X.A.mark (some (.ref ea)),calm:=false,xe:=fun _ _=>False }
theorem Cx.Ok.tryC (o:X.Ok):(qcj X pn xe).Ok :=
 ⟨o.mod,o.kind,o.glob,o.blt,o.above,o.inj,o.has,o.cab,o.hd,o.frames,o.stk,o.exf,o.bs,o.bsz,o.noex,o.exfs,o.funs,o.frf⟩
theorem Cx.Ok.sufC (o:X.Ok):(qck X ea).Ok :=
 ⟨o.mod,o.kind,o.glob,o.blt,o.above,o.inj,o.has,o.cab,(fun z=>nomatch z),o.frames,o.stk,o.exf,o.bs,o.bsz,o.noex,o.exfs,o.funs,o.frf⟩
theorem Inv.tryC (I:Inv X Ob G H s):Inv (qcj X (X.pn++Ob) xe) [] G H s :=
 ⟨I.ok.tryC,I.os,I.bare,I.base,I.loc,I.cell,I.free,I.freeC,fun p hp=>I.pin p (by simpa using hp),I.hok,I.len⟩
theorem Cx.Ok.untry (o:(qcj X pn xe).Ok):X.Ok :=
 ⟨o.mod,o.kind,o.glob,o.blt,o.above,o.inj,o.has,o.cab,o.hd,o.frames,o.stk,o.exf,o.bs,o.bsz,o.noex,o.exfs,o.funs,o.frf⟩
theorem Inv.untry {pl:List (Addr×Obj)}(I:Inv (qcj X (X.pn++Ob) xe) pl G H s):Inv X Ob G H s :=
 ⟨I.ok.untry,I.os,I.bare,I.base,I.loc,I.cell,I.free,I.freeC,fun p hp=>I.pin p (qS _ hp),I.hok,I.len⟩
theorem Inv.sufC (I:Inv X Ob G H s):Inv (qck X ea) Ob G H s :=
 ⟨I.ok.sufC,I.os,I.bare,I.base,I.loc,I.cell,I.free,I.freeC,I.pin,I.hok,I.len⟩
theorem Inv.unsuf (o:X.Ok) (I:Inv (qck X ea) Ob G H s):Inv X Ob G H s :=
 ⟨o,I.os,I.bare,I.base,I.loc,I.cell,I.free,I.freeC,I.pin,I.hok,I.len⟩
theorem Inv.goes {n:Str}{m:Str->Option Value}{v:Option Value}(I:Inv X Ob G H s) (hN:X.N.Nodup) (hi:X.N[i]?=some n) (hn:s.heap.Ns X.env.locals m)
  (hl:∀ (j:Nat) (x:Str) (v:V),X.N[j]?=some x->G[j]?=some (some v)->Vis X.env.scope x->∃ u,jw v u/\Look X.env s.heap m x u)
  (hn':h'.Ns X.env.locals (fun x=>if x=n then v else m x)) (hs:Heap.SameBut X.env.locals s.heap h') (tk:Nat):Inv X Ob (G.set i none) H { s with heap:=h',toks:=tk }:=by
 have keepb:∀ b o,b≠X.env.locals->s.heap.get? b=some o->h'.get? b=some o:=fun b o hb e=>(hs.2 b hb).trans e;have neL:∀ b o,X.s₀.heap.get? b=some o->b≠X.env.locals:=fun b o e=>qp (qT (ql e) I.ok.above);refine⟨I.ok,I.os,I.bare,⟨fun b o e n hb hx=>keepb b o (neL b o e) (I.base.keep b o e n hb hx),fun b o e n hb hx=>?_,I.base.free,fun b o e hx=>?_,I.base.tups,I.base.frzs,I.base.tbls⟩,⟨_,hn',fun j y u e1 e2 e3=>?_⟩,fun y c e=>?_,I.free,I.freeC,fun p hp=>?_,fun b u e=>?_,by simpa using I.len⟩
 .obtain ⟨sl,e1⟩:=I.base.slot b o e n hb hx;exact⟨sl,keepb b _ (neL b o e) e1⟩
 .obtain ⟨o',e1⟩:=I.base.there b o e hx;exact⟨o',keepb b _ (neL b o e) e1⟩
 .have hji:j≠i:=by
   rintro rfl;rw[List.getElem?_set] at e2;simp only[if_true] at e2;split at e2 <;> cases e2
  rw[yI (Ne.symm hji)] at e2;obtain⟨u',r,q⟩:=hl j y u e1 e2 e3;refine⟨u',r,?_⟩;rcases q with⟨k,e⟩ | ⟨k,c,e,z⟩
  .refine .inl ⟨k,?_⟩;have hy:y≠n:=fun z=>hji (qaY hN e1 (z ▸ hi));simp[hy,e]
  .exact .inr ⟨k,c,e,z.sameBut hs (I.cne y c e)⟩
 .obtain ⟨v',z⟩:=I.cell y c e;exact⟨v',z.sameBut hs (I.cne y c e)⟩
 .obtain ⟨e,n,ne,nf,d⟩:=I.pin p hp;exact⟨keepb _ _ ne e,n,ne,nf,d⟩
 .refine (I.hok b u e).stay (fun c v hc q=>keepb c v ?_ q) (fun _ q=>q) fun _ _ q=>q;rintro rfl;rcases hc with z | z
  .rw [<- z,I.free] at e;cases e
  .rw [I.free] at z;cases z
def qkX (ea:Addr) (cls:Value):HO:=.ext fun h=>∃ oe,h.get? ea=some oe/\oe.cls=cls
abbrev qiq (n:Nat):St:=List.replicate n none
def tTry (K:W.Frag) (c0:Value) (n i:Nat) (tb:XK->TS) (ts:TS):TS:=fun D G H=>tb (fun cls _ H'=>W.exmOne K cls c0=some true ∧
 ∀ ea,H' ea=none->ts { nx:=fun G' H2=>D.nx (G'.set i none) H2,rt:=D.rt,bk:=fun G' H2=>D.bk (G'.set i none) H2,ct:=fun G' H2=>D.ct (G'.set i none) H2 } ((qiq n).set i (some (.ref ea))) (upd H' ea (qkX ea cls))) D G H
theorem qdt {G1:St}{s1:Shared}{B h6:Heap}{cls a0:Value}(I1:Inv X Ob G1 H1 s1) (os:s'.os=s1.os) (bare:AllBare s'.gens)
  (un:Un (frs X.stack) [] H1 H' s1.heap s'.heap) (hok:HOk X.prog X.w H' s'.heap) (cov:Cov B H' s1.heap s'.heap (frs X.stack)) (hn:H' ea=none)
  (fl:Heap.FlyingW B X.stack ea cls a0 h6) (fl0:Heap.FlyingW B X.stack ea cls a0 s'.heap) (ups:s'.heap.UpToSlots h6) :
  Inv X Ob G1 H' { s' with heap:=h6 }/\Inv X Ob G1 (upd H' ea (qkX ea cls)) { s' with heap:=h6 }:=by
 have notold:∀ o,s1.heap.get? ea≠some o:=fun o e=>by
  obtain⟨_,nB,_,oe,vs,_,_,_,he,_,hd,_⟩:=id fl0;have nf:ea∉frs X.stack:=fun z=>by
   obtain⟨_,o2,ho2,hd2⟩:=fl0.2.2.1.mem z;rw[he] at ho2;cases ho2;exact hd2 _ hd
  have:=cov ea oe he nf (.inl ⟨o,e⟩);rw[nB] at this;cases this
 have keepc:∀ b o,s'.heap.get? b=some o->b∉frs X.stack->((∃ oa0,s1.heap.get? b=some oa0)\/∃ u,H' b=some u)->h6.get? b=some o:=fun b o e nb c=>fl.1 b o (cov b o e nb c);have trk:∀ b u,H' b=some u->b∉frs X.stack:=fun b u eb z=>by
  obtain⟨_,o0,ho0,_⟩:=I1.stack.mem z;have:=un.free b o0 ho0 (I1.stkFree b z) (by simp);rw[this] at eb;cases eb
 have un6:∀ H2:Hp,(∀ b,b≠ea->H2 b=H' b)->Un (frs X.stack) [] H1 H2 s1.heap h6:=fun H2 hH=>by
  refine⟨fun b o e n nf hx=>keepc b o (un.keep b o e n nf hx) nf (.inl ⟨o,e⟩),fun b o e n nf hx=>?_,fun b o e n hx=>?_,fun b o e hx=>?_,fun b xs e=>?_,fun b o u e=>?_,fun b ps e=>?_⟩
  .obtain ⟨sl,e1⟩:=un.slot b o e n nf hx;obtain⟨_,o2,ho2,hd2⟩:=I1.stack.mem nf;rw[e] at ho2;cases ho2;obtain⟨sl2,e2⟩:=ups b _ e1 hd2;exact⟨sl2,e2⟩
  .have hb:b≠ea:=by rintro rfl;exact notold _ e
   rw[hH b hb];exact un.free b o e n hx
  .obtain ⟨o',e1⟩:=un.there b o e hx;by_cases nb:b∈frs X.stack
   .obtain ⟨_,o2,ho2,hd2⟩:=I1.stack.mem nb;rw[e] at ho2;cases ho2;obtain⟨sl,e3⟩:=un.slot b o e (I1.stkFree b nb) nb hx;obtain⟨sl2,e2⟩:=ups b _ e3 hd2;exact⟨_,e2⟩
   .exact ⟨o',keepc b o' e1 nb (.inl ⟨o,e⟩)⟩
  .have:=un.tups b xs e;rw[hH b (qM this hn)];exact this
  .have:=un.frzs b o u e;rw[hH b (qM this hn)];exact this
  .obtain ⟨more,this⟩:=un.tbls b ps e;exact⟨more,by rw[hH b (qM this hn)];exact this⟩
 have hok6:HOk X.prog X.w H' h6:=fun b u e=>(hok b u e).stay (fun c v hc q=>by
  rcases hc with rfl | hc
  .exact keepc c v q (trk c u e) (.inr ⟨u,e⟩)
  .exact keepc c v q (trk c _ hc) (.inr ⟨_,hc⟩)) (fun _ q=>q) fun _ _ q=>q
 refine⟨I1.call' (s':={ s' with heap:=h6 }) (ch:=[]) os (un6 H' fun _ _=>rfl) hok6 bare (fun b z=>nomatch z),?_⟩;refine I1.call' (s':={ s' with heap:=h6 }) (ch:=[]) os (un6 _ fun b hb=>qV hb) (fun b u e=>?_) bare (fun b z=>nomatch z);by_cases hb:b=ea
 .subst hb;rw[qU] at e;cases e
  obtain⟨oe,vs,he,hc,hd,_⟩:=fl.first;exact⟨⟨oe,he,hc⟩,⟨oe,he⟩,fun h1 h2 ⟨o,e1,e2⟩ k=>⟨o,k o e1,e2⟩⟩
 .rw [qV hb] at e;exact (hok6 b u e).stay (fun _ _ _ q=>q) (fun c q=>by rw[qV (qM q hn)];exact q) fun c xs q=>by rw[qV (qM q hn)];exact q
theorem qi3 {ba0:Stmt}{cx n:Str}{hpos:Pos}{c0:Value}{tb:XK->TS}{ts:TS}
  (hst:X.stack=X.env::X.outer) (hfr:X.env.frame=some X.env.locals) (hN:X.N.Nodup) (hi:X.N[i]?=some n) (hl:X.env.scope.names.lookup n=some .local) (hk:X.N.length=k)
  (hg:Gl X cx) (hm:X.mg cx=some c0)
  (hb:∀ (E:XK) (pn:List (Addr×Obj)) (xe:Value->Shared->Prop),YA (XC X.prog X.w) (qcj X pn xe) E->PSs (qcj X pn xe) body (tb E))
  (hs:∀ ea,PSs (qck X ea) (ba0::suite) ts) (hdb:(cx == ("__debug__" : Str))=false:=by decide) :
  PS X (.Try body [.ExceptHandler (some (.Name cx np)) (some n) (ba0::suite) hpos] [] [] pos) (tTry X.K c0 k i tb ts):=by
 intro Ob s G H D I h;refine wpAny_Try_except (qP (hb _ (X.pn++Ob) (fun e s'=>∃ G1 H1 s1,Inv X Ob G1 H1 s1/\XC X.prog X.w X.stack H1 s1 _ e s') (fun pl G1 H1 s1 e s' J q=>⟨G1,H1,s1,J.untry,q⟩) [] s G H D I.tryC h) (fun f s1 q=>?_) (fun e s' q=>?_))
 .cases f with
  | next=>obtain⟨G1,H1,J,q⟩:=q;exact wpAny_execs_nil ⟨G1,H1,J.untry,q⟩
  | brk=>obtain⟨G1,H1,J,q⟩:=q;exact⟨G1,H1,J.untry,q⟩
  | cont=>obtain⟨G1,H1,J,q⟩:=q;exact⟨G1,H1,J.untry,q⟩
  | ret u=>obtain⟨v,G1,H1,J,r,q⟩:=q;exact⟨v,G1,H1,J.untry,r,q⟩
 .obtain ⟨G1,H1,s1,I1,ea,cls,a0,H',B,rfl,os,bare,un,hok,fl,cov,hn,hex,hE⟩:=q;have fl':=fl;rw[hst] at fl';refine wpAny_looks_onW (by rw[<- hst];exact I1.ok.frames) hfr fl' fun h4 held sm4=>wpAny_landsW held fun h5 fl5 sm5=>?_;have fl5':Heap.FlyingW B X.stack ea cls a0 h5:=by rw[hst];exact fl5
  have J5:=(qdt I1 os bare un hok cov hn fl5' fl (sm4.trans sm5)).1;obtain⟨oe,heo,hcls⟩:=fl5.there;have LT:W.Looks (model X.prog X.w) h5 (typeOf (.ref ea)) cls:=hcls ▸ (W.Looks.ld heo).andThen .now;refine wpAny_handleBy_cons (codeAny_handlers_test (Zj (X:=qck X ea) J5.sufC hg hm ?_ hdb)) (by intro z;cases z);refine (W.exm_one (K:=X.K) J5.kIn LT hex).here ?_;refine codeAny_handlers_suite_as ?_;refine lands_againW fl5 fun h6 fl6 sm6=>?_;have fl6':Heap.FlyingW B X.stack ea cls a0 h6:=by rw[hst];exact fl6
  have J6:=(qdt I1 os bare un hok cov hn fl6' fl ((sm4.trans sm5).trans sm6)).2;have J6b:=J6.weak (G':=qiq k) (by rw[J6.len,hk];simp[qiq]) (fun j v e=>by
   simp only[qiq,yV] at e;split at e <;> cases e)
  refine YR (X:=qck X ea) J6b.sufC hN hi (.inl hl) (v:=.ref ea) rfl (fun s7 J7=>?_) (.inr hl);refine qP (hs ea Ob s7 _ _ _ J7 (hE ea hn)) (fun f s8 q=>?_) (fun _ _ z=>z.elim);have fin:∀ {G8:St}{H8:Hp},Inv (qck X ea) Ob G8 H8 s8->(∀ s9,Inv X Ob (G8.set i none) H8 s9->SP X Ob D f s9) →
    wpAny (model X.prog X.w) X.A (do bindName X.env n .none;unbindBehindTheSuite X.env n hpos) (fun _ s9=>SP X Ob D f s9) X.xe s8:=fun {G8 H8} J8 kk=>by
   have J8':=J8.unsuf I1.ok;obtain⟨m,hns,hloc⟩:=id J8'.loc;refine wpAny_nameGoes_keeps hl hns (by rw[I1.ok.kind];rfl) fun h9 v hn9 hs9=>kk _ ?_;exact J8'.goes hN hi hns hloc hn9 hs9 _
  cases f with
  | next=>obtain⟨G8,H8,J8,q⟩:=q;exact fin J8 fun s9 J9=>⟨_,_,J9,q⟩
  | brk=>obtain⟨G8,H8,J8,q⟩:=q;exact fin J8 fun s9 J9=>⟨_,_,J9,q⟩
  | cont=>obtain⟨G8,H8,J8,q⟩:=q;exact fin J8 fun s9 J9=>⟨_,_,J9,q⟩
  | ret u=>obtain⟨v,G8,H8,J8,r,q⟩:=q;exact fin J8 fun s9 J9=>⟨v,_,_,J9,r,q⟩
theorem qaW {p:Pos}{E:XK}(Oa:Own X.prog X.w X.K X.mg X.base CX k x ps sp) (hx:YA CX X E) (hr:Room k X.A) (hg:Gl X x) (ha:PA X (e::es) t) (hdb:(x == ("__debug__" : Str))=false:=by decide)
  (he:starEach (e::es) X.env=(false,eval e X.env)::starEach es X.env:=by rfl) (hpl:(backTo pos (starEach es X.env)).any (·.1)=false:=by rfl):PE X (.Call (.Name x p) (e::es) [] pos) (qhi sp [] E t):=by
 obtain⟨f,fd,F,hm,hk,hb⟩:=Oa;exact qfx F hr hg hm hk hb .nil hx ha hdb he hpl
end L2
namespace L2
open W Builtin Builtin.ObjectAttr Builtin.Getset_descriptor
variable {K:Frag}{x:Addr}
structure ExcCls (K:Frag) (C:Addr):Prop where
 ga:findIn K (.ref C) "__getattribute__" = some (some (.builtin "BaseException.__getattribute__"))
 gb:findIn K (.ref C) "__getattr__" = some none
 cl:findIn K (.ref C) "__class__" = some (some (.builtin "object.__class__"))
 gt:specialIn K (.builtin "object.__class__") "__get__" = some (some (.builtin "getset_descriptor.__get__"))
 tk:takesIn K (.builtin "object.__class__")=some true
 ob:mroIn K C (.type "object")=some true
 be:mroIn K C (.type "BaseException")=some true
 ct:(clsIn K C).isSome=true
theorem qib (KX:K.In h) (T:ExcCls K C):Looks M h (find (.ref x) (.ref C) "__class__") (.bind (.builtin "getset_descriptor.__get__") (.builtin "object.__class__")):=by
 have f1:=looks_findIn (M:=M) KX T.cl;have f2:Looks M h (getOf (some (.builtin "object.__class__"))) (some (.builtin "getset_descriptor.__get__")):=looks_specialIn KX T.gt;have f3:=looks_takesIn (M:=M) KX T.tk;exact f1.andThen (f2.andThen ((show Looks M h (dataDescriptor? (some (.builtin "object.__class__")) (some (.builtin "getset_descriptor.__get__"))) (some (.builtin "getset_descriptor.__get__",.builtin "object.__class__")) from f3.andThen .now).andThen (Looks.tag .now)))
theorem qbZ {tp:Value}(KX:K.In s.heap) (T:ExcCls K C) (LT:Looks (model prog w) s.heap (typeOf (.ref x)) (.ref C)) (q:R (.ok (.ret (.ref C))) s) :
  codeAny (model prog w) A (.call (.builtin "getset_descriptor.__get__") ⟨[.builtin "object.__class__",.ref x,tp],[]⟩) R s:=by
 obtain⟨hh,gg,dr,tt,oo⟩:=s;have L1:=looks_mroIn (M:=model prog w) KX T.ob;refine codeAny_call_builtin KF.slot_gs.plain KF.entry_gs (KF.slot_gs.check _ _ _ _ _ _ _ _ KF.type_class (KF.args_gs _ _ _) ?_);unfold Builtin.«getset_descriptor.__get__» descrGet;rw[dga_obj];refine qa (qe ?_);unfold descrGetter descrCheckInstance descrNameAndClass isInstance;simp only[KF.owner_class];repeat lk
 refine⟨Code.quiet_builtin _ (by decide +kernel),codeAny_builtin KF.entry_class ?_⟩;unfold Builtin.«object.__class__» shownTypeOf
 repeat lk
 exact q
theorem qgy {Q:Option Value->Shared->Prop}(KX:K.In s.heap) (T:ExcCls K C) (LT:Looks (model prog w) s.heap (typeOf (.ref x)) (.ref C)) (q:Q (some (.ref C)) { s with toks:=s.toks+1 }) :
  wpAny (model prog w) A (getAttr? (.ref x) "__class__") Q E s:=by
 obtain⟨hh,gg,dr,tt,oo⟩:=s;have L1:=looks_findIn (M:=model prog w) KX T.ga;have L2:=looks_findIn (M:=model prog w) KX T.gb;have L3:=qib (M:=model prog w) (x:=x) KX T;have L4:=looks_mroIn (M:=model prog w) KX T.be;have hk:builtinKind "BaseException.__getattribute__" = some .slot:=by decide +kernel
 have hsp:splitId "BaseException.__getattribute__" = some ("BaseException", "__getattribute__"):=by decide +kernel
 unfold getAttr? getAttrBy? getAttrBy;refine qa (wpAny_mkText (qa (wpAny_attempt (yf (qa (LT.at (qa (L1.at ?_))))))));show wpAny _ _ (getAttrByItsOwn (.ref x) _ (.ref C) (.builtin "BaseException.__getattribute__") false false) _ _ _;unfold getAttrByItsOwn hookBefore;rw[if_pos (show onTheHeap (Value.ref C)=true from rfl)];refine qa (L2.at ?_);refine qa (wpAny_attempt (yf ?_));unfold callGetattribute;rw[if_neg (by simp)];unfold boundAndCalled;refine qa (wpAny_of_eq (F.excAttr_ValueError.ga.bind (.ref x)) ?_);refine wpAny_call (codeAny_call_builtin F.excAttr_ValueError.ga.plain F.entry_bexc_ga ?_);have ha:=F.args_bexc_ga (.ref x) (.str "__class__" tt);show wpAny _ _ (checkBuiltinCall "BaseException.__getattribute__" ⟨[.ref x,.str "__class__" tt],[]⟩) _ _ _;simp only[checkBuiltinCall,hk,hsp];refine qa ?_;unfold isInstance;refine qa (LT.at (L4.at ?_))
 repeat (any_goals (first | assumption | with_reducible refine Looks.at (by assumption) ?_ | wp_step))
 refine qbZ (s:=⟨hh,gg,dr,tt+1,oo⟩) KX T LT ?_;refine qe ?_
 repeat (any_goals (first | assumption | wp_step))
theorem qdo (T:ExcCls K C):KitX K (.ref x) (.ref C) (fun h=>∃ oe,h.get? x=some oe/\oe.cls = .ref C) where
 ty:=fun M h _ ⟨oe,e,c⟩=>c ▸ (Looks.ld e).andThen .now
 it:=fun M h KX _=>by
  obtain⟨cd,e⟩:=Option.isSome_iff_exists.mp T.ct;unfold clsIn at e;split at e
  .rename_i look
   intro A' Q' E' s' k q;unfold isType loadHead;exact qa (wpAny_loadPart (k _ _ (KX _ _ look)) (qe q))
  .cases e
 ne:=fun h tp dd its n sl KX htp=>by
  obtain⟨cd,e⟩:=Option.isSome_iff_exists.mp T.ct;refine Bool.eq_false_iff.mpr fun z=>?_;have ee:C=tp:=Value.ref.inj (beq_iff_eq.mp z);subst ee;unfold clsIn at e;split at e
  .rename_i look
   have z2:=(KX _ _ look).symm.trans htp;cases z2
  .cases e
 ca:=fun KX ⟨oe,e,c⟩ q=>qgy KX T (c ▸ (Looks.ld e).andThen .now) q
def qlD:V->Value->Prop
 | .ref D,u=>u = .ref D
 | .ty n,u=>u = .type n
 | _,_=>False
theorem qlD.rel {u':Value}(h:qlD v u) (r:jw v u'):u'=u:=by cases v <;> first | exact h.elim | (cases h;cases r;rfl)
def rIsx (K:Frag):List V->Hp->VK->Prop:=fun xs H Q=>∃ (ea C:Addr) (c:V) (b:Bool),xs=[.ref ea,c]/\H ea=some (qkX ea (.ref C))/\ExcCls K C ∧
 ((∃ u,qlD c u/\kitOne K (.ref C) u=some b)\/∃ (tp:Addr) (vs:List V) (us:List Value),c = .ref tp/\H tp=some (.tup vs)/\Paired qlD vs us/\kitAny K (.ref C) us=some b)/\Q (.bl b) H
theorem qaz:∀ {vs:List V}{us us':List Value},Paired qlD vs us->yN vs us'->us'=us
 | _,_,_,.nil,.nil=>rfl
 | _,_,_,.cons a b,.cons c d=>by rw[qlD.rel a c,qaz b d]
theorem qbh (hK:X.K=K):jq X (.builtin "isinstance") (rIsx K):=by
 subst hK;intro Ob s G H xs us Q I r h;obtain⟨ea,C,c,b,rfl,he,T,hc,q⟩:=h;obtain⟨u,u',rfl,rx,ry⟩:=qex r;cases rx
 have ph:∃ oe,s.heap.get? ea=some oe/\oe.cls = .ref C:=(show jK X.prog X.w H s.heap ea (qkX ea (.ref C)) from I.hok ea _ he).1;rcases hc with⟨v,hv,e⟩ | ⟨tp,vs,ws,rfl,htp,hp,e⟩
 .rw [hv.rel ry];exact kia_one (qdo T) I.kIn ph e (fun z=>nomatch z) fun tk=>⟨.bl b,H,I.tok _,rfl,q⟩
 .cases ry
  obtain⟨_,its,rv,o,ho,hcls,n,hd⟩:=(show jK X.prog X.w H s.heap tp (.tup vs) from I.hok tp _ htp);have ei:=qaz hp rv;subst ei;obtain⟨oc,od,dt,sl⟩:=o;dsimp only at hcls hd;subst hcls hd;exact kia_tup (qdo T) I.kIn ph ho e (fun z=>nomatch z) fun tk=>⟨.bl b,H,I.tok _,rfl,q⟩
end L2
namespace L2
abbrev bmV:List Value:=[.type "ValueError",.type "Exception",.type "BaseException",.type "object"]
theorem Inv.laidN {o:HO}(I:Inv X Ob G H s) (k:∀ b u,s.heap.get? b=some u->h'.get? b=some u) (hp:s.heap.get? a=none) (new:jK X.prog X.w (upd H a o) h' a o) :
  H a=none/\Inv X Ob G (upd H a o) { s with heap:=h',toks:=t' }:=by
 have hn:H a=none:=by
  cases z:H a with
  | none=>rfl
  | some u =>
   obtain⟨ob,e⟩:=(I.hok a u z).has;rw[hp] at e;cases e
 refine⟨hn,I.un ⟨fun b u q _ _ _=>k b u q,fun b u q _ _ _=>⟨u.slots,k b u q⟩,fun b u q n _=>?_,fun b u q _=>⟨u,k b u q⟩,fun b xs q=>?_,fun b u xs q=>?_,fun b ps q=>?_⟩ fun b u e=>?_⟩
 .rw [qV (fun z=>by rw[z,hp] at q;cases q)];exact n
 .rw [qV (qM q hn)];exact q
 .rw [qV (qM q hn)];exact q
 .exact ⟨#[],by rw[qV (qM q hn),q];simp⟩
 .by_cases hb:b=a
  .subst hb;rw[qU] at e;cases e;exact new
  .rw [qV hb] at e;exact (I.hok b u e).stay (fun c v _ q=>k c v q) (fun c q=>by rw[qV (qM q hn)];exact q) fun c xs q=>by rw[qV (qM q hn)];exact q
section
variable {p:Pos}
end
structure RoomU (k:Nat) (A:Around):Prop where
 dp:A.depth+3 * k+5<recursionLimit
 un:A.units+16 * k+200<cLine
theorem Room.toU (r:Room k A):RoomU k A:=⟨r.dp,r.un⟩
theorem RoomU.mono (r:RoomU k A) (h:j<=k):RoomU j A:=⟨by have:=r.dp;lia,by have:=r.un;lia⟩
structure FnU (P:Program) (w:World) (K:W.Frag) (mg:Str->Option Value) (base:Heap) (CX:CXT) (k:Nat) (f:Addr) (fd:FuncData) (ps:List Str) (sp:Sp):Prop where
 len:∀ vs H Q E,sp vs H Q E->vs.length=ps.length
 run:∀ (A:Around) (outer:List Env) (s:Shared) (H:Hp) (args:Args) (us:List Value) (vs:List V) (Q:VK) (E:XK),RoomU k A->Env0 P w K mg base A outer s H->BindsTo s fd args (ps.zip us)->yN vs us->sp vs H Q E →
  codeAny (model P w) A (.call (.ref f) args) (CR CX outer P w H s Q E) s
theorem FnU.ok (F:FnU P w K mg base CX k f fd ps sp):FnOk P w K mg base CX k f fd ps sp :=
 ⟨F.len,fun A outer s H args us vs Q E hr=>F.run A outer s H args us vs Q E hr.toU⟩
abbrev cxU (CX:CXT) (P:Program) (w:World) (K:W.Frag) (mg:Str->Option Value) (base:Heap) (N:List Str) (qual:Str) (scope:Scope) (f:Addr) (cd:Value) (A:Around) (outer:List Env) (s:Shared) (H:Hp) (E:XK):Cx :=
 { qao CX P w K mg base N qual scope f cd A outer s H E with calm:=false,xe:=fun _ _=>False }
theorem Fun.okU {st:Stmt}(F:Fun K x qual st f fd) (S:FnScope N ps (qq st)) (len:∀ vs H Q E,sp vs H Q E->vs.length=ps.length)
  (hbody:∀ (Oh:Value) (A:Around) (outer:List Env) (s:Shared) (H:Hp) (vs:List V) (Q:VK) (E:XK),RoomU k (A.deeper (envOfC qual (qq st) s.heap.objs.size f Oh))->sp vs H Q E →
   ∃ t,PSs (cxU CX P w K mg base N qual (qq st) f Oh A outer s H E) (yY st) t/\t { nx:=fun _ H'=>Q .non H',rt:=Q } (JT N vs) H):FnU P w K mg base CX (k+1) f fd ps sp:=by
 obtain⟨oc,od,kV,doc,pm,an,Oh,ct,osl,rfl,lk,hcd⟩:=F.ex;refine⟨len,fun A outer s H args us vs Q E hr e0 hb r hsp=>?_⟩;have hl:=len _ _ _ _ hsp;have KX:K.In s.heap:=e0.mod.kin.keeps fun b o e=>(e0.bs b o e).1;have lim:s.heap.NoLimit:=e0.mod.nolimit.keeps fun b o e=>(e0.bs b o e).1;have hkind:∀ y∈ps.zip us,(qq st).names.lookup y.1=some .local\/((qq st).names.lookup y.1=some .cell/\((cellsFrom (s.heap.objs.size+1) (qq st).names []).lookup y.1).isSome=true):=fun ⟨n,v⟩ hy=>by
  rcases S.par n (List.of_mem_zip hy).1 with q | q
  .exact .inl q
  .exact .inr ⟨q,W.cellsFrom_some _ _ _ (.inl q)⟩
 refine codeAny_call_function (by have:=hr.dp;lia) (KX _ _ lk) rfl S.co S.gen rfl (W.codeRec_of KX hcd) (hb _ _ _ _ ?_);refine wpAny_newFunctionEnv_cells S.kind hkind fun env he s1 x=>?_;subst he;refine⟨lim.keeps x.toInCall.keep,codeAny_func ?_⟩;have hr':RoomU k (A.deeper (envOfC qual (qq st) s.heap.objs.size f Oh)):=⟨by have:=hr.dp;show A.depth+1+3 * k+5<_;lia,by have:=hr.un;show A.units+3+16 * k+200<_;lia⟩;obtain⟨t,ht,hq⟩:=hbody Oh A outer s H vs Q E hr' hsp;have I0:Inv (qao CX P w K mg base N qual (qq st) f Oh { A with handled:=none } outer s H E) [] (JT N vs) H s1:=qbU S rfl ⟨e0.frames,e0.mod,e0.bs,e0.bsz,e0.funs,e0.frf,e0.hok,e0.bare⟩ hl r x;have o:=I0.ok;have fr:(A.deeper (envOfC qual (qq st) s.heap.objs.size f Oh)).frames=some (envOfC qual (qq st) s.heap.objs.size f Oh::outer):=Around.frames_deeper e0.frames;have I:Inv (cxU CX P w K mg base N qual (qq st) f Oh A outer s H E) [] (JT N vs) H s1 :=
  ⟨⟨o.mod,o.kind,o.glob,o.blt,o.above,o.inj,o.has,o.cab,(fun z=>nomatch z),fr,o.stk,o.exf,o.bs,o.bsz,o.noex,o.exfs,o.funs,o.frf⟩,I0.os,I0.bare,I0.base,I0.loc,I0.cell,I0.free,I0.freeC,I0.pin,I0.hok,I0.len⟩
 refine qP (ht [] s1 (JT N vs) H _ I hq) (fun fl s' hs=>?_) fun e s' hs=>hs.elim;have fin:∀ {G':St}{H':Hp}{v:V}{u:Value},Inv (cxU CX P w K mg base N qual (qq st) f Oh A outer s H E) [] G' H' s'->jw v u->Q v H'->CE outer P w H s Q u s' :=
  fun {G' H' v u} J rv q=>⟨v,H',J.os,J.bare,J.base,J.hok,rv,q⟩
 cases fl with
 | ret u=>obtain⟨v,G',H',J,rv,q⟩:=hs;exact fin J rv q
 | next=>obtain⟨G',H',J,q⟩:=hs;exact fin (v:=V.non) (u:=Value.none) J rfl q
 | brk=>obtain⟨_,_,_,q⟩:=hs;exact False.elim q
 | cont=>obtain⟨_,_,_,q⟩:=hs;exact False.elim q
def qlF (P:Program) (w:World) (K:W.Frag) (mg:Str->Option Value) (base:Heap) (CX:CXT) (k:Nat) (x:Str) (ps:List Str) (sp:Sp):Prop :=
 ∃ (f:Addr) (fd:FuncData),FnU P w K mg base CX k f fd ps sp/\mg x=some (.ref f)/\W.keepIn K (.ref f)=true/\Zs K fd ps []
theorem qlF.own (Oa:qlF P w K mg base CX k x ps sp):Own P w K mg base CX k x ps sp :=
 let ⟨f,fd,F,r⟩:=Oa;⟨f,fd,F.ok,r⟩
section
variable {p:Pos}
theorem qka (Oa:qlF X.prog X.w X.K X.mg X.base CX k x ps sp) (hX:NoX CX) (hr:RoomU k X.A) (hg:Gl X x) (ha:PA X (e::es) t) (hdb:(x == ("__debug__" : Str))=false:=by decide)
  (he:starEach (e::es) X.env=(false,eval e X.env)::starEach es X.env:=by rfl) (hpl:(backTo pos (starEach es X.env)).any (·.1)=false:=by rfl):PE X (.Call (.Name x p) (e::es) [] pos) (qhi sp [] E0 t):=by
 obtain⟨f,fd,F,hm,hk,hb⟩:=Oa;intro Ob s G H Q I h;refine JQ (Zj I hg hm ?_ hdb);refine W.callWith_K (h₀:=X.base) I.ok.mod.kin hk (thn (ha pos Ob s G H _ I h) fun us s1 ⟨vs,H1,I1,r,q⟩=>⟨I1.kIn,?_⟩) he hpl;have hl:us.length=ps.length:=by rw[<- r.length,<- F.len _ _ _ _ q];simp
 have bnd:=hb s1 us I1.kIn (by simpa using hl);rw[jt] at bnd;have q':sp vs H1 Q E0:=by simpa using q
 refine wpAny_call (codeAny_mono (F.run X.A X.stack s1 H1 ⟨us,[]⟩ us vs Q E0 hr I1.env0 bnd r q') fun r s' hq=>?_);cases r with
 | error e=>exact (hX _ _ _ _ _ hq).elim
 | ok fl =>
  cases fl with
  | ret u=>exact I1.after hq
  | next=>exact False.elim hq
  | brk=>exact False.elim hq
  | cont=>exact False.elim hq
end
end L2
namespace L2
open W
structure Ord (f:Nat->Nat->Bool):Prop where
 asym:∀ a b,f a b=true->f b a=false
 neg:∀ a b c,f a c=true->f a b=true\/f b c=true
abbrev gD (p:Array Nat) (i:Nat):Nat:=p.getD i 0
section
variable {f:Nat->Nat->Bool}
theorem Ord.irr (Oa:Ord f) (a:Nat):f a a=false:=by
 cases h:f a a with
 | false=>rfl
 | true=>rw[Oa.asym a a h] at h;cases h
def qlE (f:Nat->Nat->Bool) (p:Array Nat) (k:Nat):Prop:=∀ i j,i<=j->j<k->f (gD p j) (gD p i)=false
def Arr (n:Nat) (p:Array Nat):Prop:=p.Perm (List.range n).toArray
theorem Arr.size {p:Array Nat}(h:Arr n p):p.size=n:=by rw[h.size_eq];simp
section
variable {cmp:Nat->Nat->(Bool->Shared->Prop)->Shared->Prop}
end
end
end L2
namespace L2
open W
variable {v:Value}{Q:Bool->Shared->Prop}
def qf8 (fin:Bool):List Int->List Int->Bool
 | x::r,y::t=>if x=y then qf8 fin r t else decide (x<y)
 | _,_=>fin
theorem qf7:∀ ns ms:List Int,qf8 (decide (ns.length<ms.length)) ns ms=decide (ns<ms)
 | [],[]=>by simp[qf8]
 | [],_::_=>by simp[qf8]
 | _::_,[]=>by simp[qf8]
 | x::r,y::t=>by
  have ih:=qf7 r t;simp only[qf8,yl,Nat.add_lt_add_iff_right];by_cases e:x=y
  .subst e;rw[if_pos rfl,ih];simp[jM]
  .rw [if_neg e];simp[jM,e]
theorem qdm {a b:List Int}(h:a<b):¬ b<a:=fun g=>List.lt_irrefl a (List.lt_trans h g)
theorem qf0 (ks:Nat->List Int):Ord fun i j=>decide (ks i<ks j) where
 asym a b h:=yi (qdm (qJ h))
 neg a b c h:=by
  have h:=qJ h;by_cases e:ks a<ks b
  .exact .inl (qN e)
  .exact .inr (qN (List.lt_of_le_of_lt (List.not_lt.mp e) h))
def jl (h:Heap) (v:Value) (ks:List Int):Prop:=∃ b o xs n,v = .ref b/\h.get? b=some o/\o.cls = .type "tuple" /\ o.data = .seq xs n/\IntsAre xs.toList ks/\ks≠[]
theorem jl.kept (k:∀ b o,h.get? b=some o->o.cls = .type "tuple" -> h'.get? b=some o) (t:jl h v ks):jl h' v ks:=by
 obtain⟨b,o,xs,n,e,ho,hc,r⟩:=t;exact⟨b,o,xs,n,e,k b o ho hc,hc,r⟩
theorem qjc {fin:Bool}:∀ {xs ys:List Value}{ns ms:List Int}(i:Nat),IntsAre xs ns->IntsAre ys ms->Q (qf8 fin ns ms) s->KatLex prog w A true fin Q (xs.zip ys) i s
 | _,_,_,_,i,.nil,_,q=>kat_nil (by simpa[qf8] using q)
 | _,_,_,_,i,.cons _ _ _,.nil,q=>kat_nil (by simpa[qf8] using q)
 | _,_,_,_,i,.cons x t hx,.cons y u hy,q=>by
  refine kat_cons (wpAny_eqBool_int ?_);by_cases e:x=y
  .subst e;rw[beq_self_eq_true];exact kat_yes (qjc (i+1) hx hy (by simpa[qf8] using q))
  .have hb:(x == y)=false:=by simpa using e
   rw[hb];have q':Q (decide (x<y)) s:=by simpa[qf8,e] using q
   refine kat_no ?_;cases i with
   | zero=>exact oneLt_int q'
   | succ i=>exact kat_one _ _ (lt_int q')
theorem lt_wp {ms:List Int}(h1:jl s.heap v ns) (h2:jl s.heap u ms) (q:Q (decide (ns<ms)) s):wpAny (model prog w) A (keyLt' (tuples' true) v u) Q E s:=by
 obtain⟨a,o,xs,n,rfl,ho,_,hd,hi,_⟩:=h1;obtain⟨b,o',ys,n',rfl,ho',_,hd',hi',_⟩:=h2;refine kat_lt ho hd ho' hd' (qjc 0 hi hi' ?_);have e1:=IntsAre.length hi;have e2:=IntsAre.length hi';simp only[qD] at e1 e2;rw[e1,e2,qf7];exact q
theorem ZW : ∀ {vs:List Value}{kss:List (List Int)},PySem.Paired (jl h) vs kss->∃ fs:List Value,KatTups h vs fs/\fs.length=vs.length/\∀ v∈fs,∃ i t,v = .int i t
 | _,_,.nil=>⟨[],trivial,rfl,fun _ z=>nomatch z⟩
 | _,_,.cons ⟨a,o,xs,n,e,ho,hc,hd,hi,hn⟩ r=>by
  obtain⟨fs,k,hl,hf⟩:=ZW r;subst e;obtain⟨l⟩:=xs;cases hi with
  | nil=>exact absurd rfl hn
  | cons i t hr =>
   refine⟨.int i t::fs,KatTups.cons ho hc hd rfl k,by simp[hl],fun v hv=>?_⟩;rcases qG.mp hv with rfl | hv
   .exact ⟨i,t,rfl⟩
   .exact hf v hv
theorem qga {vs:List Value}{Q:SortKind->Shared->Prop}(hT:PySem.Paired (jl s.heap) vs kss) (h2:0<vs.length) (q:Q (tuples' true) s):wpAny (model prog w) A (keyKind' vs.toArray) Q E s:=by
 obtain⟨fs,k,hl,hf⟩:=ZW hT;refine kat_kind (T:=.type "int") k (by lia) (fun v hv=>?_) rfl q;obtain⟨i,t,rfl⟩:=hf v hv;exact Looks.now
end L2
namespace L2
open W
variable {f:Keyed->Keyed->Bool}{a b c:Keyed}{base:Nat}
structure OrdK (f:Keyed->Keyed->Bool):Prop where
 asym:∀ a b,f a b=true->f b a=false
 neg:∀ a b c,f a c=true->f a b=true\/f b c=true
theorem OrdK.irr (Oa:OrdK f) (a:Keyed):f a a=false:=by
 cases h:f a a with
 | false=>rfl
 | true=>rw[Oa.asym a a h] at h;cases h
theorem OrdK.le (Oa:OrdK f) (h1:f b a=false) (h2:f c b=false):f c a=false:=by
 cases h:f c a with
 | false=>rfl
 | true=>rcases Oa.neg _ b _ h with z | z <;> simp_all
theorem OrdK.ltl (Oa:OrdK f) (h1:f a b=true) (h2:f c b=false):f a c=true:=by
 rcases Oa.neg _ c _ h1 with z | z
 .exact z
 .rw [h2] at z;cases z
theorem OrdK.lel (Oa:OrdK f) (h1:f b a=false) (h2:f b c=true):f a c=true:=by
 rcases Oa.neg _ a _ h2 with z | z
 .rw [h1] at z;cases z
 .exact z
def SdK (f:Keyed->Keyed->Bool) (l:List Keyed):Prop:=l.Pairwise fun x y=>f y x=false
def Ask (prog:Program) (w:World) (A:Around) (E:Value->Shared->Prop) (s:Shared) (kd:SortKind) (D:Keyed->Prop) (f:Keyed->Keyed->Bool):Prop :=
 ∀ (x y:Keyed) (st:SortSt) (Q:Option Bool->SortSt->Prop),D x->D y->kindOf st=kd->Q (some (f x y)) st->wpS (model prog w) A E s (lt' x y) Q st
def jI:Bool->Keyed->Array Keyed->Nat->Nat->Nat->StateT SortSt Sem (Option Nat):=sortPriv% PySem.Builtin.gallop
def YM (left:Bool) (key:Keyed) (arr:Array Keyed) (base i:Nat):StateT SortSt Sem (Option Bool):=do
  let x <- elem' arr (base+i)
  if left then lt' x key else return (<- lt' key x).map (!·)
theorem qd7 (left:Bool) (key:Keyed) (arr:Array Keyed) (base n hint:Nat):jI left key arr base n hint=(do
 let mut lastofs:=0
 let mut ofs:=1
 let mut lo:=0
 let mut hi:=0
 let some right <- YM left key arr base hint | return none
 if right then
  let maxofs:=n - hint
  for _ in [0:n] do
   if ofs ≥ maxofs then break
   let some more <- YM left key arr base (hint+ofs) | return none
   if !more then break
   lastofs:=ofs
   ofs:=2 * ofs+1
  lo:=hint+lastofs+1
  hi:=hint+min ofs maxofs
 else
  let maxofs:=hint+1
  for _ in [0:n] do
   if ofs ≥ maxofs then break
   let some found <- YM left key arr base (hint - ofs) | return none
   if found then break
   lastofs:=ofs
   ofs:=2 * ofs+1
  lo:=hint+1 - min ofs maxofs
  hi:=hint - lastofs
 for _ in [0:n] do
  if lo ≥ hi then break
  let m:=lo+(hi - lo) / 2
  let some more <- YM left key arr base m | return none
  if more then lo:=m+1 else hi:=m
 return some hi):=rfl
def byd (f:Keyed->Keyed->Bool) (left:Bool) (key x:Keyed):Bool:=if left then f x key else !f key x
theorem qet (hA:Ask prog w A E s kd D f) {key x:Keyed}{Q:Option Bool->SortSt->Prop}(hk:kindOf st=kd) (hx:arr[base+i]?=some x) (dk:D key) (dx:D x) (q:Q (some (byd f left key x)) st) :
  wpS (model prog w) A E s (YM left key arr base i) Q st:=by
 unfold YM;rw[elem'_eq,hx];refine qr (qx ?_);cases left with
 | true=>exact hA _ _ _ _ dx dk hk q
 | false=>exact qr (hA _ _ _ _ dk dx hk (qx q))
theorem qes (hA:Ask prog w A E s kd D f) {key:Keyed}{hint:Nat}{Q:Option Nat->SortSt->Prop}(hk:kindOf st=kd) (xs:List Keyed)
  (hn:xs.length=n) (hx:∀ i (h:i<xs.length),arr[base+i]?=some xs[i]) (dk:D key) (dx:∀ x∈xs,D x) (hh:hint<n) (hm:∀ i j (hi:i<xs.length) (hj:j<xs.length),i<=j->byd f left key xs[j]=true->byd f left key xs[i]=true)
  (q:∀ k,k<=n->(∀ i (h:i<xs.length),i<k->byd f left key xs[i]=true)->(∀ i (h:i<xs.length),k<=i->byd f left key xs[i]=false)->Q (some k) st) :
  wpS (model prog w) A E s (jI left key arr base n hint) Q st:=by
 have ask:∀ (i:Nat) (h:i<xs.length) (Q:Option Bool->SortSt->Prop),Q (some (byd f left key xs[i])) st->wpS (model prog w) A E s (YM left key arr base i) Q st:=fun i h Q q=>qet hA hk (hx i h) dk (dx _ (ya h)) q;generalize hp:(fun x=>byd f left key x)=p at *;have hp':∀ x,byd f left key x=p x:=fun x=>by rw[<- hp]
 simp only[hp'] at hm q ask;subst hn;rw[qd7];dsimp only;refine qr (ask hint hh _ ?_);dsimp only;cases hc:p xs[hint] with
 | true =>
  simp only[if_true];refine qr (jv (yE (I:=fun x c st'=>st'=st/\∃ l o,c=(none,l,o)/\l<o/\x+1<=o/\hint+l<xs.length/\(∀ h:hint+l<xs.length,p xs[hint+l]=true))
   (Q:=fun c st'=>st'=st/\∃ l o,c=(none,l,o)/\l<o/\hint+l<xs.length/\(∀ h:hint+l<xs.length,p xs[hint+l]=true)/\(xs.length<=hint+o\/∃ h:hint+o<xs.length,p xs[hint+o]=false)) ?step ?fin ⟨rfl,0,1,rfl,by omega,by omega,hh,fun _=>hc⟩) ?post)
  case fin =>
   rintro c st' ⟨rfl,l,o,rfl,a1,a2,a3,a4⟩;exact⟨rfl,l,o,rfl,a1,a3,a4,.inl (by omega)⟩
  case step =>
   rintro x c st' _ hx' ⟨rfl,l,o,rfl,a1,a2,a3,a4⟩;dsimp only;by_cases hge:o ≥ xs.length - hint
   .rw [if_pos hge];exact qx ⟨rfl,l,o,rfl,a1,a3,a4,.inl (by omega)⟩
   .rw [if_neg hge];have ho:hint+o<xs.length:=by omega
    refine qr (ask _ ho _ ?_);dsimp only;cases hc2:p xs[hint+o] with
    | true =>
     simp only[Jn,qk,if_false];exact qx ⟨rfl,o,2 * o+1,rfl,by omega,by omega,ho,fun _=>hc2⟩
    | false =>
     simp only[Bool.not_false,if_true];exact qx ⟨rfl,l,o,rfl,a1,a3,a4,.inr ⟨ho,hc2⟩⟩
  case post =>
   rintro c st' ⟨rfl,l,o,rfl,a1,a3,a4,a5⟩;dsimp only;have h3:∀ i (h:i<xs.length),i<(hint+l+1)->p xs[i]=true:=fun i h hi=>by exact hm i (hint+l) h a3 (by omega) (a4 a3)
   have h4:∀ i (h:i<xs.length),(hint+min o (xs.length - hint))<=i->p xs[i]=false:=fun i h hi=>by
    rcases a5 with a5 | ⟨a5,a6⟩
    .exact absurd h (by omega)
    .cases hz:p xs[i] with
     | false=>rfl
     | true=>rw[hm (hint+o) i a5 h (by omega) hz] at a6;cases a6
   refine qr (jv (yE (I:=fun x c sx=>sx=st'/\∃ l r,c=(none,l,r)/\l<=r/\r<=xs.length/\r - l<=xs.length - x/\(∀ i (h:i<xs.length),i<l->p xs[i]=true)/\(∀ i (h:i<xs.length),r<=i->p xs[i]=false))
    (Q:=fun c sx=>sx=st'/\∃ r,c=(none,r,r)/\r<=xs.length/\(∀ i (h:i<xs.length),i<r->p xs[i]=true)/\(∀ i (h:i<xs.length),r<=i->p xs[i]=false)) ?step0 ?fin0 ⟨rfl,(hint+l+1),(hint+min o (xs.length - hint)),rfl,by omega,by omega,by omega,h3,h4⟩) ?post0)
   case fin0 =>
    rintro c st' ⟨rfl,l,r,rfl,a1,a2,a3,a4,a5⟩;have:l=r:=by omega
    subst this;exact⟨rfl,l,rfl,a2,a4,a5⟩
   case step0 =>
    rintro x c st' _ hx' ⟨rfl,l,r,rfl,a1,a2,a3,a4,a5⟩;dsimp only;by_cases hge:l ≥ r
    .rw [if_pos hge];have:l=r:=by omega
     subst this;exact qx ⟨rfl,l,rfl,a2,a4,a5⟩
    .rw [if_neg hge];have hmid:l+(r - l) / 2<xs.length:=by omega
     refine qr (ask _ hmid _ ?_);dsimp only;cases hc:p xs[l+(r - l) / 2] with
     | true =>
      simp only[if_true];refine qx ⟨rfl,_,_,rfl,by omega,by omega,by omega,fun i h hi=>?_,a5⟩;exact hm i (l+(r - l) / 2) h hmid (by omega) hc
     | false =>
      simp only[qk,if_false];refine qx ⟨rfl,_,_,rfl,by omega,by omega,by omega,a4,fun i h hi=>?_⟩;cases hz:p xs[i] with
      | false=>rfl
      | true=>rw[hm (l+(r - l) / 2) i hmid h hi hz] at hc;cases hc
   case post0 =>
    rintro c st' ⟨rfl,r,rfl,a2,a4,a5⟩;exact qx (q r a2 a4 a5)
 | false =>
  simp only[qk,if_false];refine qr (jv (yE (I:=fun x c st'=>st'=st/\∃ l o,c=(none,l,o)/\l<o/\x+1<=o/\l<=hint/\(∀ h:hint - l<xs.length,p xs[hint - l]=false))
   (Q:=fun c st'=>st'=st/\∃ l o,c=(none,l,o)/\l<o/\l<=hint/\(∀ h:hint - l<xs.length,p xs[hint - l]=false)/\(hint+1<=o\/(o<=hint/\∃ h:hint - o<xs.length,p xs[hint - o]=true))) ?step ?fin ⟨rfl,0,1,rfl,by omega,by omega,by omega,fun _=>hc⟩) ?post)
  case fin =>
   rintro c st' ⟨rfl,l,o,rfl,a1,a2,a3,a4⟩;exact⟨rfl,l,o,rfl,a1,a3,a4,.inl (by omega)⟩
  case step =>
   rintro x c st' _ hx' ⟨rfl,l,o,rfl,a1,a2,a3,a4⟩;dsimp only;by_cases hge:o ≥ hint+1
   .rw [if_pos hge];exact qx ⟨rfl,l,o,rfl,a1,a3,a4,.inl (by omega)⟩
   .rw [if_neg hge];have ho:hint - o<xs.length:=by omega
    refine qr (ask _ ho _ ?_);dsimp only;cases hc2:p xs[hint - o] with
    | true =>
     simp only[if_true];exact qx ⟨rfl,l,o,rfl,a1,a3,a4,.inr ⟨by omega,ho,hc2⟩⟩
    | false =>
     simp only[qk,if_false];exact qx ⟨rfl,o,2 * o+1,rfl,by omega,by omega,by omega,fun _=>hc2⟩
  case post =>
   rintro c st' ⟨rfl,l,o,rfl,a1,a3,a4,a5⟩;dsimp only;have h3:∀ i (h:i<xs.length),i<(hint+1 - min o (hint+1))->p xs[i]=true:=fun i h hi=>by
    rcases a5 with a5 | ⟨a5,a6,a7⟩
    .exact absurd hi (by omega)
    .exact hm i (hint - o) h a6 (by omega) a7
   have h4:∀ i (h:i<xs.length),(hint - l)<=i->p xs[i]=false:=fun i h hi=>by
    have hz0:=a4 (by omega);cases hz:p xs[i] with
    | false=>rfl
    | true=>rw[hm (hint - l) i (by omega) h hi hz] at hz0;cases hz0
   refine qr (jv (yE (I:=fun x c sx=>sx=st'/\∃ l r,c=(none,l,r)/\l<=r/\r<=xs.length/\r - l<=xs.length - x/\(∀ i (h:i<xs.length),i<l->p xs[i]=true)/\(∀ i (h:i<xs.length),r<=i->p xs[i]=false))
    (Q:=fun c sx=>sx=st'/\∃ r,c=(none,r,r)/\r<=xs.length/\(∀ i (h:i<xs.length),i<r->p xs[i]=true)/\(∀ i (h:i<xs.length),r<=i->p xs[i]=false)) ?step1 ?fin1 ⟨rfl,(hint+1 - min o (hint+1)),(hint - l),rfl,by omega,by omega,by omega,h3,h4⟩) ?post1)
   case fin1 =>
    rintro c st' ⟨rfl,l,r,rfl,a1,a2,a3,a4,a5⟩;have:l=r:=by omega
    subst this;exact⟨rfl,l,rfl,a2,a4,a5⟩
   case step1 =>
    rintro x c st' _ hx' ⟨rfl,l,r,rfl,a1,a2,a3,a4,a5⟩;dsimp only;by_cases hge:l ≥ r
    .rw [if_pos hge];have:l=r:=by omega
     subst this;exact qx ⟨rfl,l,rfl,a2,a4,a5⟩
    .rw [if_neg hge];have hmid:l+(r - l) / 2<xs.length:=by omega
     refine qr (ask _ hmid _ ?_);dsimp only;cases hc:p xs[l+(r - l) / 2] with
     | true =>
      simp only[if_true];refine qx ⟨rfl,_,_,rfl,by omega,by omega,by omega,fun i h hi=>?_,a5⟩;exact hm i (l+(r - l) / 2) h hmid (by omega) hc
     | false =>
      simp only[qk,if_false];refine qx ⟨rfl,_,_,rfl,by omega,by omega,by omega,a4,fun i h hi=>?_⟩;cases hz:p xs[i] with
      | false=>rfl
      | true=>rw[hm (l+(r - l) / 2) i hmid h hi hz] at hc;cases hc
   case post1 =>
    rintro c st' ⟨rfl,r,rfl,a2,a4,a5⟩;exact qx (q r a2 a4 a5)
end L2
namespace L2
open W
variable {f:Keyed->Keyed->Bool}{X B:List Keyed}{mg:Nat}
theorem qio (Oa:OrdK f) {key:Keyed}{xs:List Keyed}(hs:SdK f xs) (i j:Nat) (hi:i<xs.length) (hj:j<xs.length) (hij:i<=j) (h:byd f left key xs[j]=true):byd f left key xs[i]=true:=by
 have hle:f xs[j] xs[i]=false:=by
  by_cases e:i=j
  .subst e;exact Oa.irr _
  .exact yg.mp hs i j hi hj (by lia)
 unfold byd at *;cases left with
 | true =>
  simp only[if_true] at *;exact Oa.lel hle h
 | false =>
  simp only[qk,if_false,Bool.not_eq_true'] at *;exact Oa.le hle h
theorem mv {out A:List Keyed}(h1:SdK f (out++(X++A))) (h2:SdK f (out++B)) (c:∀ x∈X,∀ y∈B,f y x=false):SdK f ((out++X)++A)/\SdK f ((out++X)++B):=by
 unfold SdK at *;refine⟨by rw[qu];exact h1,?_⟩;rw[<- qu] at h1;obtain⟨g1,_,_⟩:=q0.mp h1;obtain⟨_,k2,k3⟩:=q0.mp h2;refine q0.mpr ⟨g1,k2,fun x hx y hy=>?_⟩;rcases qB.mp hx with h | h
 .exact k3 x h y hy
 .exact c x h y hy
theorem qnP {Oa' A:List Keyed}(h1:SdK f ((A++X)++Oa')) (h2:SdK f (B++Oa')) (c:∀ x∈X,∀ y∈B,f x y=false):SdK f (A++(X++Oa'))/\SdK f (B++(X++Oa')):=by
 unfold SdK at *;rw[qu] at h1;refine⟨h1,?_⟩;obtain⟨_,g1,_⟩:=q0.mp h1;obtain⟨k1,_,k3⟩:=q0.mp h2;refine q0.mpr ⟨k1,g1,fun x hx y hy=>?_⟩;rcases qB.mp hy with h | h
 .exact c y h x hx
 .exact k3 x hx y h
theorem qav (hA:Ask prog w A E s kd D f) (Oa:OrdK f) {key:Keyed}{base hint:Nat}{Q:Option Nat->SortSt->Prop}(hk:kindOf st=kd) (xs:List Keyed)
  (hn:xs.length=n) (hx:∀ i,i<xs.length->arr[base+i]?=xs[i]?) (dk:D key) (dx:∀ x∈xs,D x) (hh:hint<n) (hs:SdK f xs)
  (q:∀ k,k<=n->(∀ x∈xs.take k,byd f left key x=true)->(∀ x∈xs.drop k,byd f left key x=false)->Q (some k) st) :
  wpS (model prog w) A E s (jI left key arr base n hint) Q st:=by
 refine qes hA hk xs hn (fun i h=>by rw[hx i h,qf h]) dk dx hh (qio Oa hs) fun k h1 h2 h3=>q k h1 (fun x hx=>?_) (fun x hx=>?_)
 .obtain ⟨i,hi,rfl⟩:=jo.mp hx;rw[List.getElem_take];exact h2 i _ (by rw[yw] at hi;lia)
 .obtain ⟨i,hi,rfl⟩:=jo.mp hx;rw[List.getElem_drop];exact h3 (k+i) _ (by lia)
def yT (st st':SortSt):Prop:=kindOf st'=kindOf st/\arrOf st'=arrOf st/\pendingOf st'=pendingOf st/\failedOf st'=failedOf st
theorem yT.refl (st:SortSt):yT st st:=⟨rfl,rfl,rfl,rfl⟩
theorem yT.trans {a b c:SortSt}(h:yT a b) (g:yT b c):yT a c:=⟨g.1.trans h.1,g.2.1.trans h.2.1,g.2.2.1.trans h.2.2.1,g.2.2.2.trans h.2.2.2⟩
def ZK:Array Keyed->Array Keyed->StateT SortSt Sem (Array Keyed):=sortPriv% PySem.Builtin.mergeLo
def yK:Nat->StateT SortSt Sem Unit:=sortPriv% PySem.Builtin.setMinGallop
theorem js (g:Nat):yK g=modify fun s=>SortSt.mk' (kindOf s) (arrOf s) (pendingOf s) g (failedOf s):=rfl
abbrev GS:=Option (Array Keyed)×Array Keyed×Nat×Nat×Nat×Nat×Nat
abbrev CS:=Option (Array Keyed)×Array Keyed×Nat×Nat×Nat×Nat
def qnQ (a b:Array Keyed) (out:Array Keyed) (ia ib mg ac bc:Nat):StateT SortSt Sem (ForInStep GS):=do
 let x <- elem' a ia
 if (ia+1+1 == a.size)=true then pure (.done (some (out.push x++b.extract ib b.size++a.extract (ia+1) a.size),out.push x,ia+1,ib,mg,ac,bc))
 else if (decide (ac<7) && decide (bc<7))=true then pure (.done (none,out.push x,ia+1,ib,mg,ac,bc))
 else pure (.yield (none,out.push x,ia+1,ib,mg,ac,bc))
def loG3 (a b:Array Keyed) (out:Array Keyed) (ia ib mg ac bc:Nat):StateT SortSt Sem (ForInStep GS):=do
 let x <- elem' a ia
 let k <- jI true x b ib (b.size - ib) 0
 match k with
 | some k =>
  if k > 0 then
   if (ib+k == b.size)=true then pure (.done (some (out++b.extract ib (ib+k)++a.extract ia a.size++b.extract (ib+k) b.size),out++b.extract ib (ib+k),ia,ib+k,mg,ac,k))
   else qnQ a b (out++b.extract ib (ib+k)) ia (ib+k) mg ac k
  else qnQ a b out ia ib mg ac k
 | _=>pure (.done (some (out++a.extract ia a.size++b.extract ib b.size),out,ia,ib,mg,ac,bc))
def qnR (a b:Array Keyed) (out:Array Keyed) (ia ib mg ac bc:Nat):StateT SortSt Sem (ForInStep GS):=do
 let x <- elem' b ib
 if (ib+1 == b.size)=true then pure (.done (some (out.push x++a.extract ia a.size++b.extract (ib+1) b.size),out.push x,ia,ib+1,mg,ac,bc))
 else loG3 a b (out.push x) ia (ib+1) mg ac bc
def qnS (a b:Array Keyed) (out:Array Keyed) (ia ib mg ac bc:Nat):StateT SortSt Sem (ForInStep GS):=do
 yK mg
 let x <- elem' b ib
 let k <- jI false x a ia (a.size - ia) 0
 match k with
 | some k =>
  if k > 0 then
   if (ia+k+1 == a.size)=true then pure (.done (some (out++a.extract ia (ia+k)++b.extract ib b.size++a.extract (ia+k) a.size),out++a.extract ia (ia+k),ia+k,ib,mg,k,bc))
   else if (ia+k == a.size)=true then pure (.done (some (out++a.extract ia (ia+k)++a.extract (ia+k) a.size++b.extract ib b.size),out++a.extract ia (ia+k),ia+k,ib,mg,k,bc))
   else qnR a b (out++a.extract ia (ia+k)) (ia+k) ib mg k bc
  else qnR a b out ia ib mg k bc
 | _=>pure (.done (some (out++a.extract ia a.size++b.extract ib b.size),out,ia,ib,mg,ac,bc))
def loGB (a b:Array Keyed) (_:Nat) (c:GS):StateT SortSt Sem (ForInStep GS) :=
 if c.2.2.2.2.1 > 1 then qnS a b c.2.1 c.2.2.1 c.2.2.2.1 (c.2.2.2.2.1 - 1) c.2.2.2.2.2.1 c.2.2.2.2.2.2 else qnS a b c.2.1 c.2.2.1 c.2.2.2.1 c.2.2.2.2.1 c.2.2.2.2.2.1 c.2.2.2.2.2.2
def loCB (a b:Array Keyed) (mg:Nat) (_:Nat) (c:CS):StateT SortSt Sem (ForInStep CS):=do
 let y <- elem' b c.2.2.2.1
 let x <- elem' a c.2.2.1
 let r <- lt' y x
 match r with
 | some bWins =>
  if bWins=true then do
   let y <- elem' b c.2.2.2.1
   if (c.2.2.2.1+1 == b.size)=true then pure (.done (some (c.2.1.push y++a.extract c.2.2.1 a.size++b.extract (c.2.2.2.1+1) b.size),c.2.1.push y,c.2.2.1,c.2.2.2.1+1,0,c.2.2.2.2.2+1))
   else if c.2.2.2.2.2+1 ≥ mg then pure (.done (none,c.2.1.push y,c.2.2.1,c.2.2.2.1+1,0,c.2.2.2.2.2+1))
   else pure (.yield (none,c.2.1.push y,c.2.2.1,c.2.2.2.1+1,0,c.2.2.2.2.2+1))
  else do
   let x <- elem' a c.2.2.1
   if (c.2.2.1+1+1 == a.size)=true then pure (.done (some (c.2.1.push x++b.extract c.2.2.2.1 b.size++a.extract (c.2.2.1+1) a.size),c.2.1.push x,c.2.2.1+1,c.2.2.2.1,c.2.2.2.2.1+1,0))
   else if c.2.2.2.2.1+1 ≥ mg then pure (.done (none,c.2.1.push x,c.2.2.1+1,c.2.2.2.1,c.2.2.2.2.1+1,0))
   else pure (.yield (none,c.2.1.push x,c.2.2.1+1,c.2.2.2.1,c.2.2.2.2.1+1,0))
 | _=>pure (.done (some (c.2.1++a.extract c.2.2.1 a.size++b.extract c.2.2.2.1 b.size),c.2.1,c.2.2.1,c.2.2.2.1,c.2.2.2.2.1,c.2.2.2.2.2))
abbrev OS:=Option (Array Keyed)×Array Keyed×Nat×Nat×Nat
def loOB (a b:Array Keyed) (_:Nat) (c:OS):StateT SortSt Sem (ForInStep OS):=do
 let c1 <- forIn [0:a.size+b.size] ((none,c.2.1,c.2.2.1,c.2.2.2.1,0,0):CS) (loCB a b c.2.2.2.2)
 match c1.1 with
 | some r=>pure (.done (some r,c1.2.1,c1.2.2.1,c1.2.2.2.1,c.2.2.2.2))
 | none=>do
  liftM (rule "list.sort.gallop")
  let c2 <- forIn [0:a.size+b.size] ((none,c1.2.1,c1.2.2.1,c1.2.2.2.1,c.2.2.2.2+1,c1.2.2.2.2.1,c1.2.2.2.2.2):GS) (loGB a b)
  match c2.1 with
  | some r=>pure (.done (some r,c2.2.1,c2.2.2.1,c2.2.2.2.1,c2.2.2.2.2.1))
  | none=>do
   yK (c2.2.2.2.2.1+1)
   pure (.yield (none,c2.2.1,c2.2.2.1,c2.2.2.2.1,c2.2.2.2.2.1+1))
theorem qbO (a b:Array Keyed):ZK a b=(do
 rule "list.sort.merge-lo"
 let total:=a.size+b.size
 let done (out:Array Keyed) (ia ib:Nat):=out++a.extract ia a.size++b.extract ib b.size
 let lastOfA (out:Array Keyed) (ia ib:Nat):=out++b.extract ib b.size++a.extract ia a.size
 let mut out:Array Keyed:=#[<- elem' b 0]
 let mut ia:=0
 let mut ib:=1
 if ib == b.size then return done out ia ib
 if ia+1 == a.size then return lastOfA out ia ib
 let mut minGallop:=gallopOf (<- get)
 for _ in [0:total] do
  let mut acount:=0
  let mut bcount:=0
  for _ in [0:total] do
   let some bWins <- lt' (<- elem' b ib) (<- elem' a ia) | return done out ia ib
   if bWins then
    out:=out.push (<- elem' b ib);ib:=ib+1;bcount:=bcount+1;acount:=0
    if ib == b.size then return done out ia ib
    if bcount ≥ minGallop then break
   else
    out:=out.push (<- elem' a ia);ia:=ia+1;acount:=acount+1;bcount:=0
    if ia+1 == a.size then return lastOfA out ia ib
    if acount ≥ minGallop then break
  rule "list.sort.gallop"
  minGallop:=minGallop+1
  for _ in [0:total] do
   if minGallop > 1 then minGallop:=minGallop - 1
   yK minGallop
   let some k <- jI false (<- elem' b ib) a ia (a.size - ia) 0 | return done out ia ib
   acount:=k
   if k > 0 then
    out:=out++a.extract ia (ia+k);ia:=ia+k
    if ia+1 == a.size then return lastOfA out ia ib
    if ia == a.size then return done out ia ib
   out:=out.push (<- elem' b ib);ib:=ib+1
   if ib == b.size then return done out ia ib
   let some k <- jI true (<- elem' a ia) b ib (b.size - ib) 0 | return done out ia ib
   bcount:=k
   if k > 0 then
    out:=out++b.extract ib (ib+k);ib:=ib+k
    if ib == b.size then return done out ia ib
   out:=out.push (<- elem' a ia);ia:=ia+1
   if ia+1 == a.size then return lastOfA out ia ib
   if acount<7 && bcount<7 then break
  minGallop:=minGallop+1
  yK minGallop
 unsupported "internal:list.sort.merge-bound"):=rfl
theorem qcu (a b:Array Keyed):ZK a b=(do
 liftM (rule "list.sort.merge-lo")
 let y <- elem' b 0
 if (1 == b.size)=true then pure (#[y]++a.extract 0 a.size++b.extract 1 b.size)
 else if (0+1 == a.size)=true then pure (#[y]++b.extract 1 b.size++a.extract 0 a.size)
 else do
  let g <- get
  let c <- forIn [0:a.size+b.size] ((none,#[y],0,1,gallopOf g):OS) (loOB a b)
  match c.1 with
  | some r=>pure r
  | none=>liftM (unsupported "internal:list.sort.merge-bound" : Sem (Array Keyed))):=by
 rw[qbO];dsimp only;congr 1;funext _u
 congr 1;funext y
 congr 1;congr 1;congr 1;funext g
 congr 1
 .congr 1;funext i c
  unfold loOB;congr 1;funext c1
  obtain⟨r1,o1,ia1,ib1,ac1,bc1⟩:=c1;cases r1 with
  | some r=>rfl
  | none =>
   dsimp only;congr 1;funext _v
   congr 1;funext c2
   obtain⟨r2,o2,ia2,ib2,m2,ac2,bc2⟩:=c2;cases r2 <;> rfl
 .funext c
  obtain⟨r,o,ia,ib,m⟩:=c;cases r <;> rfl
section
variable {a b:Array Keyed}
def YN (f:Keyed->Keyed->Bool) (a b:Array Keyed) (o:Array Keyed):Prop:=SdK f o.toList/\o.toList.Perm (a.toList++b.toList)
structure JL (f:Keyed->Keyed->Bool) (a b out:Array Keyed) (ia ib:Nat):Prop where
 s1:SdK f (out.toList++a.toList.drop ia)
 s2:SdK f (out.toList++b.toList.drop ib)
 pm:(out.toList++(a.toList.drop ia++b.toList.drop ib)).Perm (a.toList++b.toList)
structure Both (D:Keyed->Prop) (f:Keyed->Keyed->Bool) (a b:Array Keyed):Prop where
 da:∀ x∈a.toList,D x
 db:∀ x∈b.toList,D x
 na:0<a.size
 nb:0<b.size
 last:∀ x∈b.toList,f x (a[a.size - 1]'(by omega))=true
 first:f (b[0]'nb) (a[0]'na)=true
 sa:SdK f a.toList
 sb:SdK f b.toList
theorem getD? (h:i<xs.size):xs[i]?=some xs[i]:=jZ h
theorem Jg (h:i<xs.size):xs.toList.drop i=xs[i]::xs.toList.drop (i+1):=by rw[jY (by simpa using h)];rfl
theorem qac (Oa:OrdK f) (hs:SdK f xs.toList) (h:i<xs.size) {y:Keyed}(hy:y∈xs.toList.drop i):f y xs[i]=false:=by
 rw[Jg h] at hy;rcases qG.mp hy with rfl | hy
 .exact Oa.irr _
 .have:SdK f (xs.toList.drop i):=List.Pairwise.sublist (List.drop_sublist _ _) hs;rw[Jg h] at this;exact (List.pairwise_cons.mp this).1 _ hy
theorem JL.pushB (Oa:OrdK f) (hb:Both D f a b) (j:JL f a b out ia ib) (h1:ia<a.size) (h2:ib<b.size) (h:f a[ia] b[ib]=false):JL f a b (out.push b[ib]) ia (ib+1):=by
 have e:=Jg h2;have s2:=j.s2;have pm:=j.pm;rw[e] at s2 pm;obtain⟨g1,g2⟩:=mv (X:=[b[ib]]) s2 j.s1 (fun x hx y hy=>by
  rw[qE.mp hx];exact Oa.le h (qac Oa hb.sa h1 hy))
 refine⟨by rw[jd];exact g2,by rw[jd];exact g1,?_⟩;rw[jd,qu];refine List.Perm.trans (List.Perm.append_left _ ?_) pm;exact (List.perm_middle (l₁:=a.toList.drop ia) (l₂:=b.toList.drop (ib+1)) (a:=b[ib])).symm
theorem JL.pushA (Oa:OrdK f) (hb:Both D f a b) (j:JL f a b out ia ib) (h1:ia<a.size) (h2:ib<b.size) (h:f b[ib] a[ia]=false):JL f a b (out.push a[ia]) (ia+1) ib:=by
 have e:=Jg h1;have s1:=j.s1;have pm:=j.pm;rw[e] at s1 pm;obtain⟨g1,g2⟩:=mv (X:=[a[ia]]) s1 j.s2 (fun x hx y hy=>by
  rw[qE.mp hx];exact Oa.le h (qac Oa hb.sb h2 hy))
 refine⟨by rw[jd];exact g1,by rw[jd];exact g2,?_⟩;rw[jd,qu];exact pm
theorem JZ (xs:Array Keyed) (i k:Nat):(xs.extract i (i+k)).toList=(xs.toList.drop i).take k:=by simp[Array.toList_extract,jX]
theorem Jt (xs:Array Keyed) (i:Nat):(xs.extract i xs.size).toList=xs.toList.drop i:=by
 simp[Array.toList_extract,jX];exact JP (by simp)
theorem qaI (xs:Array Keyed) (i k:Nat):xs.toList.drop i=(xs.toList.drop i).take k++xs.toList.drop (i+k):=by
 have:=(qW k (xs.toList.drop i)).symm;rwa[List.drop_drop] at this
theorem JL.chunkA (Oa:OrdK f) (hb:Both D f a b) (j:JL f a b out ia ib) (h2:ib<b.size) (h:∀ x∈(a.toList.drop ia).take k,f b[ib] x=false):JL f a b (out++a.extract ia (ia+k)) (ia+k) ib:=by
 have s1:=j.s1;have pm:=j.pm;rw[qaI a ia k] at s1 pm;obtain⟨g1,g2⟩:=mv s1 j.s2 (fun x hx y hy=>Oa.le (h x hx) (qac Oa hb.sb h2 hy));refine⟨by rw[qL,JZ];exact g1,by rw[qL,JZ];exact g2,?_⟩;rw[qL,JZ,qu,<- qu ((a.toList.drop ia).take k)];exact pm
theorem JL.chunkB (Oa:OrdK f) (hb:Both D f a b) (j:JL f a b out ia ib) (h1:ia<a.size) (h:∀ x∈(b.toList.drop ib).take k,f a[ia] x=false):JL f a b (out++b.extract ib (ib+k)) ia (ib+k):=by
 have s2:=j.s2;have pm:=j.pm;rw[qaI b ib k] at s2 pm;obtain⟨g1,g2⟩:=mv s2 j.s1 (fun x hx y hy=>Oa.le (h x hx) (qac Oa hb.sa h1 hy));refine⟨by rw[qL,JZ];exact g2,by rw[qL,JZ];exact g1,?_⟩;rw[qL,JZ,qu];refine List.Perm.trans (List.Perm.append_left _ ?_) pm;rw[<- qu,<- qu];exact List.Perm.append_right _ List.perm_append_comm
theorem JL.done (j:JL f a b out ia ib) (h:a.size<=ia\/b.size<=ib):YN f a b (out++a.extract ia a.size++b.extract ib b.size):=by
 refine⟨?_,?_⟩
 .rw [qL,qL,Jt,Jt];rcases h with h | h
  .rw [List.drop_of_length_le (show a.toList.length<=ia by simpa using h),jt];exact j.s2
  .rw [List.drop_of_length_le (show b.toList.length<=ib by simpa using h),jt];exact j.s1
 .rw [qL,qL,Jt,Jt,qu];exact j.pm
theorem JL.lastA (Oa:OrdK f) (hb:Both D f a b) (j:JL f a b out ia ib) (h:ia+1=a.size):YN f a b (out++b.extract ib b.size++a.extract ia a.size):=by
 have e:a.toList.drop ia=[a[ia]]:=by rw[Jg (show ia<a.size by lia),List.drop_of_length_le (by simp;lia)]
 refine⟨?_,?_⟩
 .rw [qL,qL,Jt,Jt];have s1:=j.s1;rw[e] at s1 ⊢;unfold SdK at *;obtain⟨_,_,g3⟩:=q0.mp s1;refine q0.mpr ⟨j.s2,List.pairwise_singleton _ _,fun x hx y hy=>?_⟩;rcases qB.mp hx with z | z
  .exact g3 x z y hy
  .rw [qE.mp hy];have:=hb.last x (jn z);have e2:a.size - 1=ia:=by lia
   simp only[e2] at this;exact Oa.asym _ _ this
 .rw [qL,qL,Jt,Jt,qu];exact List.Perm.trans (List.Perm.append_left _ List.perm_append_comm) j.pm
def qiw (f:Keyed->Keyed->Bool) (a b:Array Keyed) (st:SortSt) (n0:Nat) (r:ForInStep GS) (st':SortSt):Prop:=yT st st'/\match r with
 | .done (some o,_)=>YN f a b o
 | .done (none,out,ia,ib,_)=>JL f a b out ia ib/\ia+1<a.size/\ib<b.size/\n0<=ia+ib
 | .yield (none,out,ia,ib,_)=>JL f a b out ia ib/\ia+1<a.size/\ib<b.size/\n0<=ia+ib
 | .yield (some _,_)=>False
theorem yO (h:i<xs.size) {Q:Keyed->SortSt->Prop}(q:Q xs[i] st):wpS (model prog w) A E s (elem' xs i) Q st:=by
 rw[elem'_eq,getD? h];exact qx q
theorem qem (Oa:OrdK f) (hb:Both D f a b) (hst:yT st0 st) (j:JL f a b out ia ib) (h1:ia+1<a.size) (h2:ib<b.size) (hn:n0<=ia+ib) (h:f b[ib] (a[ia]'(by omega))=false) :
  wpS (model prog w) A E s (qnQ a b out ia ib mg ac bc) (qiw f a b st0 n0) st:=by
 unfold qnQ;refine qr (yO (show ia<a.size by lia) ?_);have j2:=j.pushA Oa hb (show ia<a.size by lia) h2 h;by_cases e:ia+1+1=a.size
 .rw [if_pos (by simpa using e)];exact qx ⟨hst,j2.lastA Oa hb e⟩
 .rw [if_neg (by simpa using e)];split
  .exact qx ⟨hst,j2,by lia,h2,by lia⟩
  .exact qx ⟨hst,j2,by lia,h2,by lia⟩
theorem qjH (hA:Ask prog w A E s kd D f) (Oa:OrdK f) (hb:Both D f a b) (hk:kindOf st0=kd) (hst:yT st0 st) (j:JL f a b out ia ib) (h1:ia+1<a.size) (h2:ib<b.size) (hn:n0<=ia+ib) :
  wpS (model prog w) A E s (loG3 a b out ia ib mg ac bc) (qiw f a b st0 n0) st:=by
 unfold loG3;refine qr (yO (show ia<a.size by lia) ?_);refine qr (qav hA Oa (hst.1.trans hk) (b.toList.drop ib) (by simp) (fun i hi=>?_) (hb.da _ (by simp)) (fun x hx=>hb.db x (jn hx)) (by lia) (List.Pairwise.sublist (List.drop_sublist _ _) hb.sb) fun k hk1 hk2 hk3=>?_)
 .rw [List.getElem?_drop,qy]
 have hlt:∀ x∈(b.toList.drop ib).take k,f x (a[ia]'(by lia))=true:=fun x hx=>hk2 x hx;have hge:∀ x∈(b.toList.drop ib).drop k,f x (a[ia]'(by lia))=false:=fun x hx=>hk3 x hx;have j2:=j.chunkB Oa hb (show ia<a.size by lia) (k:=k) (fun x hx=>Oa.asym _ _ (hlt x hx));have nxt:∀ h:ib+k<b.size,f b[ib+k] (a[ia]'(by lia))=false:=fun h=>hge _ (by
  rw[List.drop_drop,Jg h];exact qi)
 dsimp only;by_cases hk0:k > 0
 .rw [if_pos hk0];by_cases e:ib+k=b.size
  .rw [if_pos (by simpa using e)];exact qx ⟨hst,j2.done (.inr (by lia))⟩
  .rw [if_neg (by simpa using e)];exact qem Oa hb hst j2 h1 (by lia) (by lia) (nxt (by lia))
 .rw [if_neg hk0];have:k=0:=by lia
  subst this;exact qem Oa hb hst j h1 h2 hn (nxt h2)
theorem qen (hA:Ask prog w A E s kd D f) (Oa:OrdK f) (hb:Both D f a b) (hk:kindOf st0=kd) (hst:yT st0 st) (j:JL f a b out ia ib) (h1:ia+1<a.size) (h2:ib<b.size) (hn:n0<=ia+ib) (h:f (a[ia]'(by omega)) b[ib]=false) :
  wpS (model prog w) A E s (qnR a b out ia ib mg ac bc) (qiw f a b st0 n0) st:=by
 unfold qnR;refine qr (yO h2 ?_);have j2:=j.pushB Oa hb (show ia<a.size by lia) h2 h;by_cases e:ib+1=b.size
 .rw [if_pos (by simpa using e)];exact qx ⟨hst,j2.done (.inr (by lia))⟩
 .rw [if_neg (by simpa using e)];exact qjH hA Oa hb hk hst j2 h1 (by lia) (by lia)
theorem qeo (hA:Ask prog w A E s kd D f) (Oa:OrdK f) (hb:Both D f a b) (hk:kindOf st0=kd) (hst:yT st0 st) (j:JL f a b out ia ib) (h1:ia+1<a.size) (h2:ib<b.size) (hn:n0<=ia+ib) :
  wpS (model prog w) A E s (qnS a b out ia ib mg ac bc) (qiw f a b st0 n0) st:=by
 unfold qnS;rw[js];refine qr (j5 ?_);have hst2:=hst.trans (show yT st (SortSt.mk' (kindOf st) (arrOf st) (pendingOf st) mg (failedOf st)) from ⟨rfl,rfl,rfl,rfl⟩);generalize SortSt.mk' (kindOf st) (arrOf st) (pendingOf st) mg (failedOf st)=st2 at hst2 ⊢;refine qr (yO h2 ?_);refine qr (qav hA Oa (hst2.1.trans hk) (a.toList.drop ia) (by simp) (fun i hi=>?_) (hb.db _ (by simp)) (fun x hx=>hb.da x (jn hx)) (by lia) (List.Pairwise.sublist (List.drop_sublist _ _) hb.sa) fun k hk1 hk2 hk3=>?_)
 .rw [List.getElem?_drop,qy]
 have hle:∀ x∈(a.toList.drop ia).take k,f b[ib] x=false:=fun x hx=>by
  have:=hk2 x hx;simpa[byd] using this
 have hgt:∀ x∈(a.toList.drop ia).drop k,f b[ib] x=true:=fun x hx=>by
  have:=hk3 x hx;simpa[byd] using this
 have j2:=j.chunkA Oa hb h2 (k:=k) hle;have nxt:∀ h:ia+k<a.size,f a[ia+k] b[ib]=false:=fun h=>Oa.asym _ _ (hgt _ (by
  rw[List.drop_drop,Jg h];exact qi))
 dsimp only;by_cases hk0:k > 0
 .rw [if_pos hk0];by_cases e:ia+k+1=a.size
  .rw [if_pos (by simpa using e)];exact qx ⟨hst2,j2.lastA Oa hb e⟩
  .rw [if_neg (by simpa using e)];by_cases e2:ia+k=a.size
   .rw [if_pos (by simpa using e2)];exact qx ⟨hst2,j2.done (.inl (by lia))⟩
   .rw [if_neg (by simpa using e2)];exact qen hA Oa hb hk hst2 j2 (by lia) h2 (by lia) (nxt (by lia))
 .rw [if_neg hk0];have:k=0:=by lia
  subst this;exact qen hA Oa hb hk hst2 j h1 h2 hn (nxt (by lia))
def CPost (f:Keyed->Keyed->Bool) (a b:Array Keyed) (st:SortSt) (n0:Nat) (r:CS) (st':SortSt):Prop:=yT st st'/\match r with
 | (some o,_)=>YN f a b o
 | (none,out,ia,ib,_)=>JL f a b out ia ib/\ia+1<a.size/\ib<b.size/\n0<ia+ib
theorem qlH (hA:Ask prog w A E s kd D f) (Oa:OrdK f) (hb:Both D f a b) (hk:kindOf st=kd) (j:JL f a b out ia ib) (h1:ia+1<a.size) (h2:ib<b.size) :
  wpS (model prog w) A E s (forIn [0:a.size+b.size] ((none,out,ia,ib,0,0):CS) (loCB a b mg)) (CPost f a b st (ia+ib)) st:=by
 refine yE (I:=fun x c st'=>yT st st'/\∃ out' ia' ib' ac bc,c=(none,out',ia',ib',ac,bc)/\JL f a b out' ia' ib'/\ia'+1<a.size/\ib'<b.size/\ia+ib+x<=ia'+ib') ?step ?fin ⟨yT.refl _,out,ia,ib,0,0,rfl,j,h1,h2,by lia⟩;case fin =>
  rintro c st' ⟨hst,out',ia',ib',ac,bc,rfl,j',g1,g2,g3⟩;exact⟨hst,j',g1,g2,by lia⟩
 case step =>
  rintro x c st' _ hx ⟨hst,out',ia',ib',ac,bc,rfl,j',g1,g2,g3⟩;unfold loCB;dsimp only;refine qr (yO g2 (qr (yO (show ia'<a.size by lia) ?_)));refine qr (hA _ _ _ _ (hb.db _ (by simp)) (hb.da _ (by simp)) (hst.1.trans hk) ?_);dsimp only;cases c:f b[ib'] (a[ia']'(by lia)) with
  | true =>
   simp only[if_true];refine qr (yO g2 ?_);have j2:=j'.pushB Oa hb (show ia'<a.size by lia) g2 (Oa.asym _ _ c);by_cases e:ib'+1=b.size
   .rw [if_pos (by simpa using e)];exact qx ⟨hst,j2.done (.inr (by lia))⟩
   .rw [if_neg (by simpa using e)];split
    .exact qx ⟨hst,j2,g1,by lia,by lia⟩
    .exact qx ⟨hst,_,_,_,_,_,rfl,j2,g1,by lia,by lia⟩
  | false =>
   simp only[qk,if_false];refine qr (yO (show ia'<a.size by lia) ?_);have j2:=j'.pushA Oa hb (show ia'<a.size by lia) g2 c;by_cases e:ia'+1+1=a.size
   .rw [if_pos (by simpa using e)];exact qx ⟨hst,j2.lastA Oa hb e⟩
   .rw [if_neg (by simpa using e)];split
    .exact qx ⟨hst,j2,by lia,g2,by lia⟩
    .exact qx ⟨hst,_,_,_,_,_,rfl,j2,by lia,g2,by lia⟩
def qnJ (f:Keyed->Keyed->Bool) (a b:Array Keyed) (st:SortSt) (n0:Nat) (r:GS) (st':SortSt):Prop:=yT st st'/\match r with
 | (some o,_)=>YN f a b o
 | (none,out,ia,ib,_)=>JL f a b out ia ib/\ia+1<a.size/\ib<b.size/\n0<=ia+ib
theorem qlG (hA:Ask prog w A E s kd D f) (Oa:OrdK f) (hb:Both D f a b) (hk:kindOf st0=kd) (hst:yT st0 st) (j:JL f a b out ia ib) (h1:ia+1<a.size) (h2:ib<b.size) :
  wpS (model prog w) A E s (forIn [0:a.size+b.size] ((none,out,ia,ib,mg,ac,bc):GS) (loGB a b)) (qnJ f a b st0 (ia+ib)) st:=by
 refine yE (I:=fun x c st'=>yT st0 st'/\∃ out' ia' ib' mg ac bc,c=(none,out',ia',ib',mg,ac,bc)/\JL f a b out' ia' ib'/\ia'+1<a.size/\ib'<b.size/\ia+ib<=ia'+ib') ?step ?fin ⟨hst,out,ia,ib,mg,ac,bc,rfl,j,h1,h2,by lia⟩;case fin =>
  rintro c st' ⟨hst,out',ia',ib',mg,ac,bc,rfl,j',g1,g2,g3⟩;exact⟨hst,j',g1,g2,g3⟩
 case step =>
  rintro x c st' _ hx ⟨hst,out',ia',ib',mg,ac,bc,rfl,j',g1,g2,g3⟩;unfold loGB;dsimp only;split
  .refine jv (qeo hA Oa hb hk hst j' g1 g2 g3) fun r st'' h=>?_;obtain⟨h0,h⟩:=h;match r,h with
   | .done (some o,_),h=>exact⟨h0,h⟩
   | .done (none,out,ia,ib,_),h=>exact⟨h0,h⟩
   | .yield (none,out,ia,ib,m,c,d),h=>exact⟨h0,_,_,_,_,_,_,rfl,h⟩
  .refine jv (qeo hA Oa hb hk hst j' g1 g2 g3) fun r st'' h=>?_;obtain⟨h0,h⟩:=h;match r,h with
   | .done (some o,_),h=>exact⟨h0,h⟩
   | .done (none,out,ia,ib,_),h=>exact⟨h0,h⟩
   | .yield (none,out,ia,ib,m,c,d),h=>exact⟨h0,_,_,_,_,_,_,rfl,h⟩
theorem qdN (hA:Ask prog w A E s kd D f) (Oa:OrdK f) (hb:Both D f a b) (hk:kindOf st=kd) {Q:Array Keyed->SortSt->Prop}(q:∀ o st',yT st st'->YN f a b o->Q o st') :
  wpS (model prog w) A E s (ZK a b) Q st:=by
 rw[qcu];refine qr (wpS_lift (j6 ⟨rfl,?_⟩));refine qr (yO hb.nb ?_);have na:=hb.na;have nb:=hb.nb;have j0:JL f a b #[] 0 0:=⟨by simpa using hb.sa,by simpa using hb.sb,by simp⟩;have j1:JL f a b #[b[0]'nb] 0 1:=by
  have:=j0.pushB Oa hb na nb (Oa.asym _ _ hb.first);simpa using this
 by_cases e:b.size=1
 .rw [if_pos (by simp[e])];exact qx (q _ _ (yT.refl _) (j1.done (.inr (by lia))))
 .rw [if_neg (by simpa using fun z:1=b.size=>e z.symm)];by_cases e2:0+1=a.size
  .rw [if_pos (by simpa using e2)];exact qx (q _ _ (yT.refl _) (j1.lastA Oa hb e2))
  .rw [if_neg (by simpa using e2)];refine qr (wpS_get ?_);refine qr (jv (yE (I:=fun x c st'=>yT st st'/\∃ out ia ib mg,c=(none,out,ia,ib,mg)/\JL f a b out ia ib/\ia+1<a.size/\ib<b.size/\x+1<=ia+ib)
    (Q:=fun c st'=>yT st st'/\∃ o r,c=(some o,r)/\YN f a b o) ?step ?fin ⟨yT.refl _,_,_,_,_,rfl,j1,by lia,by lia,by lia⟩) ?post)
   case fin =>
    rintro c st' ⟨hst,out,ia,ib,mg,rfl,j,g1,g2,g3⟩;lia
   case post =>
    rintro c st' ⟨hst,o,r,rfl,h⟩;exact qx (q o st' hst h)
   case step =>
    rintro x c st' _ hx ⟨hst,out,ia,ib,mg,rfl,j,g1,g2,g3⟩;unfold loOB;dsimp only;refine qr (jv (qlH hA Oa hb (hst.1.trans hk) j g1 g2) ?_);rintro c1 st1 ⟨hst1,h⟩;match c1,h with
    | (some o,out,ia,ib,_),h=>exact qx ⟨hst.trans hst1,o,_,rfl,h⟩
    | (none,out1,ia1,ib1,ac,bc),⟨j1,k1,k2,k3⟩ =>
     dsimp only;refine qr (wpS_lift (j6 ⟨rfl,?_⟩));refine qr (jv (qlG hA Oa hb hk (hst.trans hst1) j1 k1 k2) ?_);rintro c2 st2 ⟨hst2,h⟩;match c2,h with
     | (some o,out,ia,ib,mg,_),h=>exact qx ⟨hst2,o,_,rfl,h⟩
     | (none,out2,ia2,ib2,mg2,ac,bc),⟨j2,l1,l2,l3⟩ =>
      dsimp only;rw[js];refine qr (j5 (qx ⟨hst2.trans ⟨rfl,rfl,rfl,rfl⟩,_,_,_,_,rfl,j2,l1,l2,by lia⟩))
end
end L2
namespace L2
open W
variable {mg:Nat}
def ZL:Array Keyed->Array Keyed->StateT SortSt Sem (Array Keyed):=sortPriv% PySem.Builtin.mergeHi
abbrev GH:=Option (Array Keyed)×Nat×Nat×Array Keyed×Nat×Nat×Nat
abbrev CH:=Option (Array Keyed)×Nat×Nat×Array Keyed×Nat×Nat
abbrev OH:=Option (Array Keyed)×Nat×Nat×Array Keyed×Nat
def qas (a b out:Array Keyed) (na nb:Nat):Array Keyed:=a.extract 0 na++b.extract 0 nb++out.reverse
def qaF (a b out:Array Keyed) (na nb:Nat):Array Keyed:=b.extract 0 nb++a.extract 0 na++out.reverse
def qnT (a b:Array Keyed) (na nb:Nat) (out:Array Keyed) (mg ac bc:Nat):StateT SortSt Sem (ForInStep GH):=do
 let x <- elem' a (na - 1)
 if (na - 1 == 0)=true then pure (.done (some (qas a b (out.push x) (na - 1) nb),na - 1,nb,out.push x,mg,ac,bc))
 else if (decide (ac<7) && decide (bc<7))=true then pure (.done (none,na - 1,nb,out.push x,mg,ac,bc))
 else pure (.yield (none,na - 1,nb,out.push x,mg,ac,bc))
def hiG3 (a b:Array Keyed) (na nb:Nat) (out:Array Keyed) (mg ac bc:Nat):StateT SortSt Sem (ForInStep GH):=do
 let x <- elem' a (na - 1)
 let k <- jI true x b 0 nb (nb - 1)
 match k with
 | some at_ =>
  if nb - at_ > 0 then
   if (at_ == 1)=true then pure (.done (some (qaF a b (out++(b.extract at_ nb).reverse) na at_),na,at_,out++(b.extract at_ nb).reverse,mg,ac,nb - at_))
   else if (at_ == 0)=true then pure (.done (some (qas a b (out++(b.extract at_ nb).reverse) na at_),na,at_,out++(b.extract at_ nb).reverse,mg,ac,nb - at_))
   else qnT a b na at_ (out++(b.extract at_ nb).reverse) mg ac (nb - at_)
  else qnT a b na nb out mg ac (nb - at_)
 | _=>pure (.done (some (qas a b out na nb),na,nb,out,mg,ac,bc))
def qnU (a b:Array Keyed) (na nb:Nat) (out:Array Keyed) (mg ac bc:Nat):StateT SortSt Sem (ForInStep GH):=do
 let x <- elem' b (nb - 1)
 if (nb - 1 == 1)=true then pure (.done (some (qaF a b (out.push x) na (nb - 1)),na,nb - 1,out.push x,mg,ac,bc))
 else hiG3 a b na (nb - 1) (out.push x) mg ac bc
def qnV (a b:Array Keyed) (na nb:Nat) (out:Array Keyed) (mg ac bc:Nat):StateT SortSt Sem (ForInStep GH):=do
 yK mg
 let x <- elem' b (nb - 1)
 let k <- jI false x a 0 na (na - 1)
 match k with
 | some at_ =>
  if na - at_ > 0 then
   if (at_ == 0)=true then pure (.done (some (qas a b (out++(a.extract at_ na).reverse) at_ nb),at_,nb,out++(a.extract at_ na).reverse,mg,na - at_,bc))
   else qnU a b at_ nb (out++(a.extract at_ na).reverse) mg (na - at_) bc
  else qnU a b na nb out mg (na - at_) bc
 | _=>pure (.done (some (qas a b out na nb),na,nb,out,mg,ac,bc))
def hiGB (a b:Array Keyed) (_:Nat) (c:GH):StateT SortSt Sem (ForInStep GH) :=
 if c.2.2.2.2.1 > 1 then qnV a b c.2.1 c.2.2.1 c.2.2.2.1 (c.2.2.2.2.1 - 1) c.2.2.2.2.2.1 c.2.2.2.2.2.2 else qnV a b c.2.1 c.2.2.1 c.2.2.2.1 c.2.2.2.2.1 c.2.2.2.2.2.1 c.2.2.2.2.2.2
def hiCB (a b:Array Keyed) (mg:Nat) (_:Nat) (c:CH):StateT SortSt Sem (ForInStep CH):=do
 let y <- elem' b (c.2.2.1 - 1)
 let x <- elem' a (c.2.1 - 1)
 let r <- lt' y x
 match r with
 | some aWins =>
  if aWins=true then do
   let x <- elem' a (c.2.1 - 1)
   if (c.2.1 - 1 == 0)=true then pure (.done (some (qas a b (c.2.2.2.1.push x) (c.2.1 - 1) c.2.2.1),c.2.1 - 1,c.2.2.1,c.2.2.2.1.push x,c.2.2.2.2.1+1,0))
   else if c.2.2.2.2.1+1 ≥ mg then pure (.done (none,c.2.1 - 1,c.2.2.1,c.2.2.2.1.push x,c.2.2.2.2.1+1,0))
   else pure (.yield (none,c.2.1 - 1,c.2.2.1,c.2.2.2.1.push x,c.2.2.2.2.1+1,0))
  else do
   let y <- elem' b (c.2.2.1 - 1)
   if (c.2.2.1 - 1 == 1)=true then pure (.done (some (qaF a b (c.2.2.2.1.push y) c.2.1 (c.2.2.1 - 1)),c.2.1,c.2.2.1 - 1,c.2.2.2.1.push y,0,c.2.2.2.2.2+1))
   else if c.2.2.2.2.2+1 ≥ mg then pure (.done (none,c.2.1,c.2.2.1 - 1,c.2.2.2.1.push y,0,c.2.2.2.2.2+1))
   else pure (.yield (none,c.2.1,c.2.2.1 - 1,c.2.2.2.1.push y,0,c.2.2.2.2.2+1))
 | _=>pure (.done (some (qas a b c.2.2.2.1 c.2.1 c.2.2.1),c.2.1,c.2.2.1,c.2.2.2.1,c.2.2.2.2.1,c.2.2.2.2.2))
def hiOB (a b:Array Keyed) (_:Nat) (c:OH):StateT SortSt Sem (ForInStep OH):=do
 let c1 <- forIn [0:a.size+b.size] ((none,c.2.1,c.2.2.1,c.2.2.2.1,0,0):CH) (hiCB a b c.2.2.2.2)
 match c1.1 with
 | some r=>pure (.done (some r,c1.2.1,c1.2.2.1,c1.2.2.2.1,c.2.2.2.2))
 | none=>do
  liftM (rule "list.sort.gallop")
  let c2 <- forIn [0:a.size+b.size] ((none,c1.2.1,c1.2.2.1,c1.2.2.2.1,c.2.2.2.2+1,c1.2.2.2.2.1,c1.2.2.2.2.2):GH) (hiGB a b)
  match c2.1 with
  | some r=>pure (.done (some r,c2.2.1,c2.2.2.1,c2.2.2.2.1,c2.2.2.2.2.1))
  | none=>do
   yK (c2.2.2.2.2.1+1)
   pure (.yield (none,c2.2.1,c2.2.2.1,c2.2.2.2.1,c2.2.2.2.2.1+1))
theorem qbP (a b:Array Keyed):ZL a b=(do
 rule "list.sort.merge-hi"
 let total:=a.size+b.size
 let done (out:Array Keyed) (na nb:Nat):=a.extract 0 na++b.extract 0 nb++out.reverse
 let firstOfB (out:Array Keyed) (na nb:Nat):=b.extract 0 nb++a.extract 0 na++out.reverse
 let mut na:=a.size - 1
 let mut nb:=b.size
 let mut out:Array Keyed:=#[<- elem' a na]
 if na == 0 then return done out na nb
 if nb == 1 then return firstOfB out na nb
 let mut minGallop:=gallopOf (<- get)
 for _ in [0:total] do
  let mut acount:=0
  let mut bcount:=0
  for _ in [0:total] do
   let some aWins <- lt' (<- elem' b (nb - 1)) (<- elem' a (na - 1)) | return done out na nb
   if aWins then
    na:=na - 1;out:=out.push (<- elem' a na);acount:=acount+1;bcount:=0
    if na == 0 then return done out na nb
    if acount ≥ minGallop then break
   else
    nb:=nb - 1;out:=out.push (<- elem' b nb);bcount:=bcount+1;acount:=0
    if nb == 1 then return firstOfB out na nb
    if bcount ≥ minGallop then break
  rule "list.sort.gallop"
  minGallop:=minGallop+1
  for _ in [0:total] do
   if minGallop > 1 then minGallop:=minGallop - 1
   yK minGallop
   let some at_ <- jI false (<- elem' b (nb - 1)) a 0 na (na - 1) | return done out na nb
   let k:=na - at_
   acount:=k
   if k > 0 then
    out:=out++(a.extract at_ na).reverse;na:=at_
    if na == 0 then return done out na nb
   nb:=nb - 1;out:=out.push (<- elem' b nb)
   if nb == 1 then return firstOfB out na nb
   let some at_ <- jI true (<- elem' a (na - 1)) b 0 nb (nb - 1) | return done out na nb
   let k:=nb - at_
   bcount:=k
   if k > 0 then
    out:=out++(b.extract at_ nb).reverse;nb:=at_
    if nb == 1 then return firstOfB out na nb
    if nb == 0 then return done out na nb
   na:=na - 1;out:=out.push (<- elem' a na)
   if na == 0 then return done out na nb
   if acount<7 && bcount<7 then break
  minGallop:=minGallop+1
  yK minGallop
 unsupported "internal:list.sort.merge-bound"):=rfl
theorem qcv (a b:Array Keyed):ZL a b=(do
 liftM (rule "list.sort.merge-hi")
 let x <- elem' a (a.size - 1)
 if (a.size - 1 == 0)=true then pure (qas a b #[x] (a.size - 1) b.size)
 else if (b.size == 1)=true then pure (qaF a b #[x] (a.size - 1) b.size)
 else do
  let g <- get
  let c <- forIn [0:a.size+b.size] ((none,a.size - 1,b.size,#[x],gallopOf g):OH) (hiOB a b)
  match c.1 with
  | some r=>pure r
  | none=>liftM (unsupported "internal:list.sort.merge-bound" : Sem (Array Keyed))):=by
 rw[qbP];dsimp only;congr 1;funext _u
 congr 1;funext y
 congr 1;congr 1;congr 1;funext g
 congr 1
 .congr 1;funext i c
  unfold hiOB;congr 1;funext c1
  obtain⟨r1,na1,nb1,o1,ac1,bc1⟩:=c1;cases r1 with
  | some r=>rfl
  | none =>
   dsimp only;congr 1;funext _v
   congr 1;funext c2
   obtain⟨r2,na2,nb2,o2,m2,ac2,bc2⟩:=c2;cases r2 <;> rfl
 .funext c
  obtain⟨r,na,nb,o,m⟩:=c;cases r <;> rfl
section
variable {f:Keyed->Keyed->Bool}{a b:Array Keyed}
structure JH (f:Keyed->Keyed->Bool) (a b:Array Keyed) (na nb:Nat) (out:Array Keyed):Prop where
 s1:SdK f (a.toList.take na++out.toList.reverse)
 s2:SdK f (b.toList.take nb++out.toList.reverse)
 pm:(a.toList.take na++(b.toList.take nb++out.toList.reverse)).Perm (a.toList++b.toList)
theorem jF (h:i<xs.size):xs.toList.take (i+1)=xs.toList.take i++[xs[i]]:=by rw[List.take_add_one,qf (by simpa using h)];rfl
theorem qa6 (Oa:OrdK f) (hs:SdK f xs.toList) (h:i<xs.size) {y:Keyed}(hy:y∈xs.toList.take (i+1)):f xs[i] y=false:=by
 rw[jF h] at hy;rcases qB.mp hy with hy | hy
 .have:SdK f (xs.toList.take (i+1)):=List.Pairwise.sublist (List.take_sublist _ _) hs;rw[jF h] at this;exact (q0.mp this).2.2 y hy _ (qE.mpr rfl)
 .rw [qE.mp hy];exact Oa.irr _
theorem JH.pushA (Oa:OrdK f) (hb:Both D f a b) (j:JH f a b na nb out) (h1:0<na) (h2:na<=a.size) (h3:0<nb) (h4:nb<=b.size) (h:f (a[na - 1]'(by omega)) (b[nb - 1]'(by omega))=false):JH f a b (na - 1) nb (out.push (a[na - 1]'(by omega))):=by
 have e:=jF (xs:=a) (i:=na - 1) (by lia);rw[show na - 1+1=na by lia] at e;have s1:=j.s1;have pm:=j.pm;rw[e] at s1 pm;obtain⟨g1,g2⟩:=qnP s1 j.s2 (fun x hx y hy=>by
  rw[qE.mp hx];have:=qa6 Oa hb.sb (i:=nb - 1) (by lia) (y:=y) (by rw[show nb - 1+1=nb by lia];exact hy);exact Oa.le this h)
 refine⟨by simpa using g1,by simpa using g2,?_⟩;refine List.Perm.trans ?_ pm;rw[qu];refine List.Perm.append_left _ ?_;simp only[jd,List.reverse_append,List.reverse_cons,List.reverse_nil,List.nil_append];exact List.perm_middle
theorem JH.pushB (Oa:OrdK f) (hb:Both D f a b) (j:JH f a b na nb out) (h1:0<na) (h2:na<=a.size) (h3:0<nb) (h4:nb<=b.size) (h:f (b[nb - 1]'(by omega)) (a[na - 1]'(by omega))=false):JH f a b na (nb - 1) (out.push (b[nb - 1]'(by omega))):=by
 have e:=jF (xs:=b) (i:=nb - 1) (by lia);rw[show nb - 1+1=nb by lia] at e;have s2:=j.s2;have pm:=j.pm;rw[e] at s2 pm;obtain⟨g1,g2⟩:=qnP s2 j.s1 (fun x hx y hy=>by
  rw[qE.mp hx];have:=qa6 Oa hb.sa (i:=na - 1) (by lia) (y:=y) (by rw[show na - 1+1=na by lia];exact hy);exact Oa.le this h)
 refine⟨by simpa using g2,by simpa using g1,?_⟩;refine List.Perm.trans ?_ pm;refine List.Perm.append_left _ ?_;simp
theorem qgw (xs:Array Keyed) (h:i<=n) (hn:n<=xs.size):xs.toList.take n=xs.toList.take i++(xs.extract i n).toList:=by
 have e:(xs.extract i n).toList=(xs.toList.drop i).take (n - i):=by simp[Array.toList_extract,jX]
 rw[e,<- List.drop_take];have:=(qW i (xs.toList.take n)).symm;rwa[List.take_take,Nat.min_eq_left h] at this
theorem JH.chunkA (Oa:OrdK f) (hb:Both D f a b) (j:JH f a b na nb out) (hk:k<=na) (h2:na<=a.size) (h3:0<nb) (h4:nb<=b.size) (h:∀ x∈(a.extract k na).toList,f x (b[nb - 1]'(by omega))=false):JH f a b k nb (out++(a.extract k na).reverse):=by
 have s1:=j.s1;have pm:=j.pm;rw[qgw a hk h2] at s1 pm;obtain⟨g1,g2⟩:=qnP s1 j.s2 (fun x hx y hy=>by
  have:=qa6 Oa hb.sb (i:=nb - 1) (by lia) (y:=y) (by rw[show nb - 1+1=nb by lia];exact hy);exact Oa.le this (h x hx))
 refine⟨by simpa using g1,by simpa using g2,?_⟩;refine List.Perm.trans ?_ pm;rw[qu];refine List.Perm.append_left _ ?_;simp only[qL,Array.toList_reverse,List.reverse_append,List.reverse_reverse];rw[<- qu,<- qu];exact List.Perm.append_right _ List.perm_append_comm
theorem JH.chunkB (Oa:OrdK f) (hb:Both D f a b) (j:JH f a b na nb out) (hk:k<=nb) (h2:nb<=b.size) (h3:0<na) (h4:na<=a.size) (h:∀ x∈(b.extract k nb).toList,f x (a[na - 1]'(by omega))=false):JH f a b na k (out++(b.extract k nb).reverse):=by
 have s2:=j.s2;have pm:=j.pm;rw[qgw b hk h2] at s2 pm;obtain⟨g1,g2⟩:=qnP s2 j.s1 (fun x hx y hy=>by
  have:=qa6 Oa hb.sa (i:=na - 1) (by lia) (y:=y) (by rw[show na - 1+1=na by lia];exact hy);exact Oa.le this (h x hx))
 refine⟨by simpa using g2,by simpa using g1,?_⟩;refine List.Perm.trans ?_ pm;refine List.Perm.append_left _ ?_;simp
theorem qjl (xs:Array Keyed) (n:Nat):(xs.extract 0 n).toList=xs.toList.take n:=by simp[Array.toList_extract,jX]
theorem JH.done (j:JH f a b na nb out) (h:na=0\/nb=0):YN f a b (qas a b out na nb):=by
 unfold qas;refine⟨?_,?_⟩
 .rw [qL,qL,qjl,qjl,Array.toList_reverse];rcases h with rfl | rfl
  .simpa using j.s2
  .simpa using j.s1
 .rw [qL,qL,qjl,qjl,Array.toList_reverse,qu];exact j.pm
theorem JH.firstB (Oa:OrdK f) (hb:Both D f a b) (j:JH f a b na nb out) (h:nb=1):YN f a b (qaF a b out na nb):=by
 subst h;have nb:=hb.nb;have e:b.toList.take 1=[b[0]'nb]:=by
  have:=jF (xs:=b) (i:=0) nb;simpa using this
 unfold qaF;refine⟨?_,?_⟩
 .rw [qL,qL,qjl,qjl,Array.toList_reverse];have s2:=j.s2;rw[e] at s2 ⊢;unfold SdK at *;obtain⟨_,_,g3⟩:=q0.mp s2;rw[qu];refine q0.mpr ⟨List.pairwise_singleton _ _,j.s1,fun x hx y hy=>?_⟩;rcases qB.mp hy with z | z
  .rw [qE.mp hx];have h1:=qac Oa hb.sa hb.na (y:=y) (by rw[List.drop_zero];exact jm z);exact Oa.le (Oa.asym _ _ hb.first) h1
  .exact g3 x hx y z
 .rw [qL,qL,qjl,qjl,Array.toList_reverse,qu];refine List.Perm.trans ?_ j.pm;rw[<- qu,<- qu];exact List.Perm.append_right _ List.perm_append_comm
def InH (f:Keyed->Keyed->Bool) (a b:Array Keyed) (na nb:Nat) (out:Array Keyed):Prop:=JH f a b na nb out/\0<na/\na<=a.size/\1<nb/\nb<=b.size
def qiv (f:Keyed->Keyed->Bool) (a b:Array Keyed) (st:SortSt) (n0:Nat) (r:ForInStep GH) (st':SortSt):Prop:=yT st st'/\match r with
 | .done (some o,_)=>YN f a b o
 | .done (none,na,nb,out,_)=>InH f a b na nb out/\na+nb<=n0
 | .yield (none,na,nb,out,_)=>InH f a b na nb out/\na+nb<=n0
 | .yield (some _,_)=>False
theorem qep (Oa:OrdK f) (hb:Both D f a b) (hst:yT st0 st) (j:InH f a b na nb out) (hn:na+nb<=n0) (h:∀ h1 h2,f (a[na - 1]'h1) (b[nb - 1]'h2)=false) :
  wpS (model prog w) A E s (qnT a b na nb out mg ac bc) (qiv f a b st0 n0) st:=by
 obtain⟨j,h1,h2,h3,h4⟩:=j;unfold qnT;refine qr (yO (show na - 1<a.size by lia) ?_);have j2:=j.pushA Oa hb h1 h2 (by lia) h4 (h (by lia) (by lia));by_cases e:na - 1=0
 .rw [if_pos (by simpa using e)];exact qx ⟨hst,j2.done (.inl e)⟩
 .rw [if_neg (by simpa using e)];split
  .exact qx ⟨hst,⟨j2,by lia,by lia,h3,h4⟩,by lia⟩
  .exact qx ⟨hst,⟨j2,by lia,by lia,h3,h4⟩,by lia⟩
theorem qgx (hn:n<=xs.size) {x:Keyed}(hx:x∈(xs.extract k n).toList):x∈(xs.toList.take n).drop k:=by
 have e:(xs.extract k n).toList=(xs.toList.drop k).take (n - k):=by simp[Array.toList_extract,jX]
 rw[e,<- List.drop_take] at hx;exact hx
theorem qjI (hA:Ask prog w A E s kd D f) (Oa:OrdK f) (hb:Both D f a b) (hk:kindOf st0=kd) (hst:yT st0 st) (j:InH f a b na nb out) (hn:na+nb<=n0) :
  wpS (model prog w) A E s (hiG3 a b na nb out mg ac bc) (qiv f a b st0 n0) st:=by
 obtain⟨j,h1,h2,h3,h4⟩:=j;unfold hiG3;refine qr (yO (show na - 1<a.size by lia) ?_);refine qr (qav hA Oa (hst.1.trans hk) (b.toList.take nb) (by simp;lia) (fun i hi=>?_) (hb.da _ (by simp)) (fun x hx=>hb.db x (jm hx)) (by lia) (List.Pairwise.sublist (List.take_sublist _ _) hb.sb) fun k hk1 hk2 hk3=>?_)
 .have hi:i<nb:=by simp at hi;lia
  rw[Nat.zero_add,List.getElem?_take,if_pos hi,qy]
 have hge:∀ x∈(b.extract k nb).toList,f x (a[na - 1]'(by lia))=false:=fun x hx=>hk3 x (qgx h4 hx);have hlt:∀ x∈(b.toList.take nb).take k,f x (a[na - 1]'(by lia))=true:=fun x hx=>hk2 x hx;have j2:=j.chunkB Oa hb hk1 h4 h1 h2 hge;have nxt:∀ (h0:0<k) (z1:na - 1<a.size) (z2:k - 1<b.size),f (a[na - 1]'z1) (b[k - 1]'z2)=false:=fun h0 z1 z2=>Oa.asym _ _ (hlt _ (by
  rw[List.take_take,Nat.min_eq_left hk1];have:=jF (xs:=b) (i:=k - 1) z2;rw[show k - 1+1=k by lia] at this;rw[this];exact qg _ (qE.mpr rfl)))
 dsimp only;by_cases hk0:nb - k > 0
 .rw [if_pos hk0];by_cases e:k=1
  .rw [if_pos (by simpa using e)];exact qx ⟨hst,j2.firstB Oa hb e⟩
  .rw [if_neg (by simpa using e)];by_cases e2:k=0
   .rw [if_pos (by simpa using e2)];exact qx ⟨hst,j2.done (.inr e2)⟩
   .rw [if_neg (by simpa using e2)];exact qep Oa hb hst ⟨j2,h1,h2,by lia,by lia⟩ (by lia) (nxt (by lia))
 .rw [if_neg hk0];have:k=nb:=by lia
  subst this;exact qep Oa hb hst ⟨j,h1,h2,h3,h4⟩ hn (nxt (by lia))
theorem qeq (hA:Ask prog w A E s kd D f) (Oa:OrdK f) (hb:Both D f a b) (hk:kindOf st0=kd) (hst:yT st0 st) (j:InH f a b na nb out) (hn:na+nb<=n0) (h:∀ h1 h2,f (b[nb - 1]'h2) (a[na - 1]'h1)=false) :
  wpS (model prog w) A E s (qnU a b na nb out mg ac bc) (qiv f a b st0 n0) st:=by
 obtain⟨j,h1,h2,h3,h4⟩:=j;unfold qnU;refine qr (yO (show nb - 1<b.size by lia) ?_);have j2:=j.pushB Oa hb h1 h2 (by lia) h4 (h (by lia) (by lia));by_cases e:nb - 1=1
 .rw [if_pos (by simpa using e)];exact qx ⟨hst,j2.firstB Oa hb e⟩
 .rw [if_neg (by simpa using e)];exact qjI hA Oa hb hk hst ⟨j2,h1,h2,by lia,by lia⟩ (by lia)
theorem qer (hA:Ask prog w A E s kd D f) (Oa:OrdK f) (hb:Both D f a b) (hk:kindOf st0=kd) (hst:yT st0 st) (j:InH f a b na nb out) (hn:na+nb<=n0) :
  wpS (model prog w) A E s (qnV a b na nb out mg ac bc) (qiv f a b st0 n0) st:=by
 obtain⟨j,h1,h2,h3,h4⟩:=j;unfold qnV;rw[js];refine qr (j5 ?_);have hst2:=hst.trans (show yT st (SortSt.mk' (kindOf st) (arrOf st) (pendingOf st) mg (failedOf st)) from ⟨rfl,rfl,rfl,rfl⟩);generalize SortSt.mk' (kindOf st) (arrOf st) (pendingOf st) mg (failedOf st)=st2 at hst2 ⊢;refine qr (yO (show nb - 1<b.size by lia) ?_);refine qr (qav hA Oa (hst2.1.trans hk) (a.toList.take na) (by simp;lia) (fun i hi=>?_) (hb.db _ (by simp)) (fun x hx=>hb.da x (jm hx)) (by lia) (List.Pairwise.sublist (List.take_sublist _ _) hb.sa) fun k hk1 hk2 hk3=>?_)
 .have hi:i<na:=by simp at hi;lia
  rw[Nat.zero_add,List.getElem?_take,if_pos hi,qy]
 have hgt:∀ x∈(a.extract k na).toList,f x (b[nb - 1]'(by lia))=false:=fun x hx=>by
  have:=hk3 x (qgx h2 hx);exact Oa.asym _ _ (by simpa[byd] using this)
 have hle:∀ x∈(a.toList.take na).take k,f (b[nb - 1]'(by lia)) x=false:=fun x hx=>by
  have:=hk2 x hx;simpa[byd] using this
 have j2:=j.chunkA Oa hb hk1 h2 (by lia) h4 hgt;have nxt:∀ (h0:0<k) (z1:k - 1<a.size) (z2:nb - 1<b.size),f (b[nb - 1]'z2) (a[k - 1]'z1)=false:=fun h0 z1 z2=>hle _ (by
  rw[List.take_take,Nat.min_eq_left hk1];have:=jF (xs:=a) (i:=k - 1) z1;rw[show k - 1+1=k by lia] at this;rw[this];exact qg _ (qE.mpr rfl))
 dsimp only;by_cases hk0:na - k > 0
 .rw [if_pos hk0];by_cases e:k=0
  .rw [if_pos (by simpa using e)];exact qx ⟨hst2,j2.done (.inl e)⟩
  .rw [if_neg (by simpa using e)];exact qeq hA Oa hb hk hst2 ⟨j2,by lia,by lia,h3,h4⟩ (by lia) (nxt (by lia))
 .rw [if_neg hk0];have:k=na:=by lia
  subst this;exact qeq hA Oa hb hk hst2 ⟨j,h1,h2,h3,h4⟩ hn (nxt (by lia))
def qnK (f:Keyed->Keyed->Bool) (a b:Array Keyed) (st:SortSt) (n0:Nat) (r:CH) (st':SortSt):Prop:=yT st st'/\match r with
 | (some o,_)=>YN f a b o
 | (none,na,nb,out,_)=>InH f a b na nb out/\na+nb<n0
theorem qlJ (hA:Ask prog w A E s kd D f) (Oa:OrdK f) (hb:Both D f a b) (hk:kindOf st=kd) (j:InH f a b na nb out) :
  wpS (model prog w) A E s (forIn [0:a.size+b.size] ((none,na,nb,out,0,0):CH) (hiCB a b mg)) (qnK f a b st (na+nb)) st:=by
 have nz:=hb.na;refine yE (I:=fun x c st'=>yT st st'/\∃ na' nb' out' ac bc,c=(none,na',nb',out',ac,bc)/\InH f a b na' nb' out'/\na'+nb'+x<=na+nb) ?step ?fin ⟨yT.refl _,na,nb,out,0,0,rfl,j,by lia⟩;case fin =>
  rintro c st' ⟨hst,na',nb',out',ac,bc,rfl,j',g3⟩;exact⟨hst,j',by lia⟩
 case step =>
  rintro x c st' _ hx ⟨hst,na',nb',out',ac,bc,rfl,⟨j',h1,h2,h3,h4⟩,g3⟩;unfold hiCB;dsimp only;refine qr (yO (show nb' - 1<b.size by lia) (qr (yO (show na' - 1<a.size by lia) ?_)));refine qr (hA _ _ _ _ (hb.db _ (by simp)) (hb.da _ (by simp)) (hst.1.trans hk) ?_);dsimp only;cases c:f (b[nb' - 1]'(by lia)) (a[na' - 1]'(by lia)) with
  | true =>
   simp only[if_true];refine qr (yO (show na' - 1<a.size by lia) ?_);have j2:=j'.pushA Oa hb h1 h2 (by lia) h4 (Oa.asym _ _ c);by_cases e:na' - 1=0
   .rw [if_pos (by simpa using e)];exact qx ⟨hst,j2.done (.inl e)⟩
   .rw [if_neg (by simpa using e)];split
    .exact qx ⟨hst,⟨j2,by lia,by lia,h3,h4⟩,by lia⟩
    .exact qx ⟨hst,_,_,_,_,_,rfl,⟨j2,by lia,by lia,h3,h4⟩,by lia⟩
  | false =>
   simp only[qk,if_false];refine qr (yO (show nb' - 1<b.size by lia) ?_);have j2:=j'.pushB Oa hb h1 h2 (by lia) h4 c;by_cases e:nb' - 1=1
   .rw [if_pos (by simpa using e)];exact qx ⟨hst,j2.firstB Oa hb e⟩
   .rw [if_neg (by simpa using e)];split
    .exact qx ⟨hst,⟨j2,h1,h2,by lia,by lia⟩,by lia⟩
    .exact qx ⟨hst,_,_,_,_,_,rfl,⟨j2,h1,h2,by lia,by lia⟩,by lia⟩
def qnH (f:Keyed->Keyed->Bool) (a b:Array Keyed) (st:SortSt) (n0:Nat) (r:GH) (st':SortSt):Prop:=yT st st'/\match r with
 | (some o,_)=>YN f a b o
 | (none,na,nb,out,_)=>InH f a b na nb out/\na+nb<=n0
theorem qlI (hA:Ask prog w A E s kd D f) (Oa:OrdK f) (hb:Both D f a b) (hk:kindOf st0=kd) (hst:yT st0 st) (j:InH f a b na nb out) :
  wpS (model prog w) A E s (forIn [0:a.size+b.size] ((none,na,nb,out,mg,ac,bc):GH) (hiGB a b)) (qnH f a b st0 (na+nb)) st:=by
 refine yE (I:=fun x c st'=>yT st0 st'/\∃ na' nb' out' mg ac bc,c=(none,na',nb',out',mg,ac,bc)/\InH f a b na' nb' out'/\na'+nb'<=na+nb) ?step ?fin ⟨hst,na,nb,out,mg,ac,bc,rfl,j,by lia⟩;case fin =>
  rintro c st' ⟨hst,na',nb',out',mg,ac,bc,rfl,j',g3⟩;exact⟨hst,j',g3⟩
 case step =>
  rintro x c st' _ hx ⟨hst,na',nb',out',mg,ac,bc,rfl,j',g3⟩;unfold hiGB;dsimp only;split
  .refine jv (qer hA Oa hb hk hst j' g3) fun r st'' h=>?_;obtain⟨h0,h⟩:=h;match r,h with
   | .done (some o,_),h=>exact⟨h0,h⟩
   | .done (none,na,nb,out,_),h=>exact⟨h0,h⟩
   | .yield (none,na,nb,out,m,c,d),h=>exact⟨h0,_,_,_,_,_,_,rfl,h⟩
  .refine jv (qer hA Oa hb hk hst j' g3) fun r st'' h=>?_;obtain⟨h0,h⟩:=h;match r,h with
   | .done (some o,_),h=>exact⟨h0,h⟩
   | .done (none,na,nb,out,_),h=>exact⟨h0,h⟩
   | .yield (none,na,nb,out,m,c,d),h=>exact⟨h0,_,_,_,_,_,_,rfl,h⟩
theorem qdO (hA:Ask prog w A E s kd D f) (Oa:OrdK f) (hb:Both D f a b) (hk:kindOf st=kd) {Q:Array Keyed->SortSt->Prop}(q:∀ o st',yT st st'->YN f a b o->Q o st') :
  wpS (model prog w) A E s (ZL a b) Q st:=by
 have na:=hb.na;have nb:=hb.nb;rw[qcv];refine qr (wpS_lift (j6 ⟨rfl,?_⟩));refine qr (yO (show a.size - 1<a.size by lia) ?_);have j0:JH f a b a.size b.size #[]:=⟨by rw[<- qD,jk];simpa using hb.sa,by rw[<- qD,jk];simpa using hb.sb,by rw[<- qD,jk,<- qD,jk];simp⟩;have j1:JH f a b (a.size - 1) b.size #[a[a.size - 1]]:=by
  have:=j0.pushA Oa hb na (qo _) nb (qo _) (Oa.asym _ _ (hb.last _ (by simp)));simpa using this
 by_cases e:a.size - 1=0
 .rw [if_pos (by simpa using e)];exact qx (q _ _ (yT.refl _) (j1.done (.inl e)))
 .rw [if_neg (by simpa using e)];by_cases e2:b.size=1
  .rw [if_pos (by simpa using e2)];exact qx (q _ _ (yT.refl _) (j1.firstB Oa hb e2))
  .rw [if_neg (by simpa using e2)];refine qr (wpS_get ?_);refine qr (jv (yE (I:=fun x c st'=>yT st st'/\∃ na nb out mg,c=(none,na,nb,out,mg)/\InH f a b na nb out/\na+nb+x<=a.size+b.size)
    (Q:=fun c st'=>yT st st'/\∃ o r,c=(some o,r)/\YN f a b o) ?step ?fin ⟨yT.refl _,_,_,_,_,rfl,⟨j1,by lia,by lia,by lia,qo _⟩,by lia⟩) ?post)
   case fin =>
    rintro c st' ⟨hst,na,nb,out,mg,rfl,⟨j,g1,g2,g3,g4⟩,g5⟩;lia
   case post =>
    rintro c st' ⟨hst,o,r,rfl,h⟩;exact qx (q o st' hst h)
   case step =>
    rintro x c st' _ hx ⟨hst,na,nb,out,mg,rfl,j,g3⟩;unfold hiOB;dsimp only;refine qr (jv (qlJ hA Oa hb (hst.1.trans hk) j) ?_);rintro c1 st1 ⟨hst1,h⟩;match c1,h with
    | (some o,na,nb,out,_),h=>exact qx ⟨hst.trans hst1,o,_,rfl,h⟩
    | (none,na1,nb1,out1,ac,bc),⟨j1,k3⟩ =>
     dsimp only;refine qr (wpS_lift (j6 ⟨rfl,?_⟩));refine qr (jv (qlI hA Oa hb hk (hst.trans hst1) j1) ?_);rintro c2 st2 ⟨hst2,h⟩;match c2,h with
     | (some o,na,nb,out,mg,_),h=>exact qx ⟨hst2,o,_,rfl,h⟩
     | (none,na2,nb2,out2,mg2,ac,bc),⟨j2,l3⟩ =>
      dsimp only;rw[js];refine qr (j5 (qx ⟨hst2.trans ⟨rfl,rfl,rfl,rfl⟩,_,_,_,_,rfl,j2,by lia⟩))
end
end L2
namespace L2
open W
variable {a b c:Keyed}{f:Keyed->Keyed->Bool}{p:Array Keyed}{Q:Option Nat->SortSt->Prop}
abbrev kD (xs:Array Keyed) (i:Nat):Keyed:=xs.getD i (.none,.none)
theorem qgc {ys:Array Keyed}(h:xs[i]?=ys[j]?):kD xs i=kD ys j:=by simp only[kD,Array.getD_eq_getD_getElem?,h]
theorem qgf (h:i<xs.size):xs[i]?=some (kD xs i):=by rw[jZ h];simp[kD,Array.getD,h]
structure SV (lo:Nat) (st0 st:SortSt):Prop where
 kind:kindOf st=kindOf st0
 pend:pendingOf st=pendingOf st0
 fail:failedOf st=failedOf st0
 perm:(arrOf st).Perm (arrOf st0)
 pre:∀ k,k<lo->(arrOf st)[k]?=(arrOf st0)[k]?
theorem SV.refl (lo:Nat) (st:SortSt):SV lo st st:=⟨rfl,rfl,rfl,Array.Perm.refl _,fun _ _=>rfl⟩
theorem SV.size (h:SV lo st0 st):(arrOf st).size=(arrOf st0).size:=h.perm.size_eq
theorem SV.trans {a b c:SortSt}(h:SV lo a b) (g:SV lo b c):SV lo a c:=⟨g.kind.trans h.kind,g.pend.trans h.pend,g.fail.trans h.fail,g.perm.trans h.perm,fun k hk=>(g.pre k hk).trans (h.pre k hk)⟩
def mir (xs:Array Keyed) (i j:Nat):Array Keyed:=mirror xs i j ((j - i) / 2)
theorem qgd (hj:j<=xs.size) (k:Nat):kD (mir xs i j) k=if i<=k/\k<j then kD xs (i+j - 1 - k) else kD xs k:=by
 have e:=getElem?_mirror_all (i:=i) hj k;unfold mir;by_cases h1:i<=k/\k<j
 .rw [if_pos h1] at e ⊢;exact qgc e
 .rw [if_neg h1] at e ⊢;exact qgc e
theorem SV.mir (h:SV lo st0 st) (hi:lo<=i) (hj:j<=(arrOf st).size):SV lo st0 (setArr st (L2.mir (arrOf st) i j)):=by
 refine⟨h.kind,h.pend,h.fail,(mirror_perm _ _ _ _).trans h.perm,fun k hk=>?_⟩;show (L2.mir (arrOf st) i j)[k]?=_;unfold L2.mir;rw[getElem?_mirror_all hj,if_neg (by lia)];exact h.pre k hk
def UpL (f:Keyed->Keyed->Bool) (lo:Nat) (p:Array Keyed) (k:Nat):Prop:=∀ i j,i<=j->j<k->f (kD p (lo+j)) (kD p (lo+i))=false
def DnL (f:Keyed->Keyed->Bool) (lo:Nat) (p:Array Keyed) (k:Nat):Prop:=∀ i j,i<=j->j<k->f (kD p (lo+i)) (kD p (lo+j))=false
def qaq (f:Keyed->Keyed->Bool) (a b:Keyed):Prop:=f a b=false/\f b a=false
theorem qaq.refl (Oa:OrdK f) (a:Keyed):qaq f a a:=⟨Oa.irr a,Oa.irr a⟩
theorem qaq.symm (h:qaq f a b):qaq f b a:=⟨h.2,h.1⟩
theorem qaq.trans (Oa:OrdK f) (h:qaq f a b) (g:qaq f b c):qaq f a c:=⟨Oa.le g.1 h.1,Oa.le h.2 g.2⟩
theorem qnc (Oa:OrdK f) (h:qaq f a b):f a c=f b c:=by
 cases h1:f b c with
 | true=>exact Oa.lel h.2 h1
 | false =>
  cases h2:f a c with
  | false=>rfl
  | true =>
   have:=Oa.lel h.1 h2;rw[h1] at this;cases this
theorem qnb (Oa:OrdK f) (h:qaq f a b):f c a=f c b:=by
 cases h1:f c b with
 | true=>exact Oa.ltl h1 h.1
 | false =>
  cases h2:f c a with
  | false=>rfl
  | true =>
   have:=Oa.ltl h2 h.2;rw[h1] at this;cases this
theorem UpL.one (Oa:OrdK f) (lo:Nat) (p:Array Keyed):UpL f lo p 1:=fun i j h1 h2=>by
 have:i=j:=by lia
 subst this;exact Oa.irr _
theorem UpL.succ (Oa:OrdK f) (h0:1<=k) (h:UpL f lo p k) (g:f (kD p (lo+k)) (kD p (lo+k - 1))=false):UpL f lo p (k+1):=fun i j hij hj=>by
 by_cases e:j=k
 .subst e;by_cases e2:i=j
  .subst e2;exact Oa.irr _
  .have:=h i (j - 1) (by lia) (by lia);rw[show lo+(j - 1)=lo+j - 1 by lia] at this;exact Oa.le this g
 .exact h i j hij (by lia)
theorem DnL.succ (Oa:OrdK f) (h0:1<=k) (h:DnL f lo p k) (g:f (kD p (lo+k - 1)) (kD p (lo+k))=false):DnL f lo p (k+1):=fun i j hij hj=>by
 by_cases e:j=k
 .subst e;by_cases e2:i=j
  .subst e2;exact Oa.irr _
  .have:=h i (j - 1) (by lia) (by lia);rw[show lo+(j - 1)=lo+j - 1 by lia] at this;exact Oa.le g this
 .exact h i j hij (by lia)
theorem DnL.eqv (Oa:OrdK f) {q:Array Keyed}(h:DnL f lo p k) (e:∀ i,qaq f (kD q i) (kD p i)):DnL f lo q k:=fun i j h1 h2=>by rw[qnc Oa (e _),qnb Oa (e _)];exact h i j h1 h2
theorem qaU (Oa:OrdK f) (hj:j<=p.size) (h:∀ a b,i<=a->a<j->i<=b->b<j->qaq f (kD p a) (kD p b)) (k:Nat):qaq f (kD (mir p i j) k) (kD p k):=by
 rw[qgd hj];split
 .exact h _ _ (by lia) (by lia) (by lia) (by lia)
 .exact qaq.refl Oa _
theorem UpL.ofRev (hk:lo+k<=p.size) (h:DnL f lo p k):UpL f lo (mir p lo (lo+k)) k:=fun i j h1 h2=>by
 rw[qgd hk,qgd hk,if_pos (by lia),if_pos (by lia)];have:=h (k - 1 - j) (k - 1 - i) (by lia) (by lia);rw[show lo+(lo+k) - 1 - (lo+j)=lo+(k - 1 - j) by lia,show lo+(lo+k) - 1 - (lo+i)=lo+(k - 1 - i) by lia];exact this
def qnB (lo a nrem:Nat):StateT SortSt Sem (Option (Option Nat)×Nat) :=
 forIn [a:nrem] ((none,a):Option (Option Nat)×Nat) fun _ c=>do
  let x <- ltAt' (lo+c.2) (lo+c.2 - 1)
  match x with
  | some smaller=>if smaller=true then pure (ForInStep.done (none,c.2)) else pure (ForInStep.yield (none,c.2+1))
  | _=>pure (ForInStep.done (some none,c.2))
def qby (lo n nrem:Nat):StateT SortSt Sem (Option Nat):=do
 reverseSlice' lo (lo+n)
 let c <- qnB lo n nrem
 match c.1 with
 | some r=>pure r
 | none=>pure (some c.2)
def qif (lo n nrem:Nat):StateT SortSt Sem (Option (Option Nat)×Nat×Nat) :=
 forIn [n:nrem] ((none,n,0):Option (Option Nat)×Nat×Nat) fun _ c=>do
  let x <- ltAt' (lo+c.2.1) (lo+c.2.1 - 1)
  match x with
  | some smaller =>
   if smaller=true then
    if c.2.2 > 0 then do
     reverseSlice' (lo+c.2.1 - (c.2.2+1)) (lo+c.2.1)
     pure (ForInStep.yield (none,c.2.1+1,0))
    else pure (ForInStep.yield (none,c.2.1+1,0))
   else do
    let y <- ltAt' (lo+c.2.1 - 1) (lo+c.2.1)
    match y with
    | some larger =>
     if larger=true then pure (ForInStep.done (none,c.2.1,c.2.2))
     else pure (ForInStep.yield (none,c.2.1+1,c.2.2+1))
    | _=>pure (ForInStep.done (some none,c.2.1,c.2.2))
  | _=>pure (ForInStep.done (some none,c.2.1,c.2.2))
def Yq (lo n nrem:Nat):StateT SortSt Sem (Option Nat):=do
 liftM (rule "list.sort.descending-run")
 let c <- qif lo (n+1) nrem
 match c.1 with
 | some r=>pure r
 | none =>
  if c.2.2 > 0 then do
   reverseSlice' (lo+c.2.1 - (c.2.2+1)) (lo+c.2.1)
   qby lo c.2.1 nrem
  else qby lo c.2.1 nrem
theorem qb4 (lo nrem:Nat):countRun' lo nrem=(do
  let c <- qnB lo 1 nrem
  match c.1 with
  | some r=>pure r
  | none =>
   if (c.2 == nrem)=true then pure (some c.2)
   else if c.2 > 1 then do
    let x <- ltAt' lo (lo+c.2 - 1)
    match x with
    | some rose=>if rose=true then pure (some c.2) else do
      reverseSlice' lo (lo+c.2)
      Yq lo c.2 nrem
    | _=>pure none
   else Yq lo c.2 nrem):=by
 rw[countRun'_eq];unfold Yq qby qif qnB;dsimp only;congr 1;funext c
 obtain⟨r,n⟩:=c;cases r with
 | some r=>rfl
 | none =>
  dsimp only;split
  .rfl
  .split
   .congr 1;funext x
    cases x with
    | none=>rfl
    | some rose =>
     dsimp only;split
     .rfl
     .congr 1;funext _r
      congr 1;funext _u
      congr 1;funext s2
      obtain⟨r2,n2,q2⟩:=s2;cases r2 with
      | some r2=>rfl
      | none =>
       dsimp only;split
       .congr 1;funext _v
        congr 1;funext _w
        congr 1;funext s3
        obtain⟨r3,n3⟩:=s3;cases r3 <;> rfl
       .congr 1;funext _w
        congr 1;funext s3
        obtain⟨r3,n3⟩:=s3;cases r3 <;> rfl
   .congr 1;funext _u
    congr 1;funext s2
    obtain⟨r2,n2,q2⟩:=s2;cases r2 with
    | some r2=>rfl
    | none =>
     dsimp only;split
     .congr 1;funext _v
      congr 1;funext _w
      congr 1;funext s3
      obtain⟨r3,n3⟩:=s3;cases r3 <;> rfl
     .congr 1;funext _w
      congr 1;funext s3
      obtain⟨r3,n3⟩:=s3;cases r3 <;> rfl
section
variable {nrem:Nat}
def qel (D:Keyed->Prop) (st:SortSt):Prop:=∀ x∈(arrOf st).toList,D x
theorem qel.of {st':SortSt}(h:qel D st) (p:(arrOf st').Perm (arrOf st)):qel D st':=fun x hx=>h x ((y7.mp p).mem_iff.mp hx)
theorem ZV (hA:Ask prog w A E s kd D f) (hk:kindOf st=kd) (hD:qel D st) (hi:i<(arrOf st).size) (hj:j<(arrOf st).size) {Q:Option Bool->SortSt->Prop}(q:Q (some (f (kD (arrOf st) i) (kD (arrOf st) j))) st):wpS (model prog w) A E s (ltAt' i j) Q st:=by
 rw[ltAt'_eq];refine qr (wpS_get ?_);show wpS _ _ _ _ (do let x <- elem' (arrOf st) i;let y <- elem' (arrOf st) j;lt' x y) Q st;rw[elem'_eq,elem'_eq,qgf hi,qgf hj];refine qr (qx (qr (qx ?_)));have mem:∀ i,i<(arrOf st).size->kD (arrOf st) i∈(arrOf st).toList:=fun i h=>by
  have e:kD (arrOf st) i=(arrOf st)[i]:=by simp[kD,Array.getD,h]
  rw[e];simp
 exact hA _ _ _ _ (hD _ (mem i hi)) (hD _ (mem j hj)) hk q
theorem qeu (hA:Ask prog w A E s kd D f) (Oa:OrdK f) (hk:kindOf st=kd) (hD:qel D st) (hn:lo+nrem<=(arrOf st).size) {a:Nat}(ha:1<=a) (han:a<=nrem) (hs:UpL f lo (arrOf st) a) {Q:Option (Option Nat)×Nat->SortSt->Prop}
  (q:∀ n,a<=n->n<=nrem->UpL f lo (arrOf st) n->(n<nrem->f (kD (arrOf st) (lo+n)) (kD (arrOf st) (lo+n - 1))=true)->Q (none,n) st):wpS (model prog w) A E s (qnB lo a nrem) Q st:=by
 unfold qnB;refine yE (I:=fun x c st'=>st'=st/\c=(none,x)/\UpL f lo (arrOf st) x) ?step ?fin ⟨rfl,rfl,hs⟩;case fin =>
  rintro c st' ⟨rfl,rfl,hs'⟩;rw[show max a nrem=nrem by lia] at hs' ⊢;exact q nrem han (qo _) hs' fun z=>absurd z (by lia)
 case step =>
  rintro x c st' hax hxn ⟨rfl,rfl,hs'⟩;dsimp only;refine qr (ZV hA hk hD (by lia) (by lia) ?_);dsimp only;cases c:f (kD (arrOf st') (lo+x)) (kD (arrOf st') (lo+x - 1)) with
  | true =>
   simp only[if_true];exact qx (q x hax (by lia) hs' fun _=>c)
  | false =>
   simp only[qk,if_false];exact qx ⟨rfl,rfl,hs'.succ Oa (by lia) c⟩
theorem qcY {Q:Unit->SortSt->Prop}(h:Q () (setArr st (mir (arrOf st) i j))):wpS (model prog w) A E s (reverseSlice' i j) Q st:=by rw[reverseSlice'_eq];exact j5 h
def RunP (f:Keyed->Keyed->Bool) (lo nrem:Nat) (st0:SortSt) (Q:Option Nat->SortSt->Prop):Prop:=∀ n st',SV lo st0 st'->1<=n->n<=nrem->UpL f lo (arrOf st') n->Q (some n) st'
theorem qbv (hA:Ask prog w A E s kd D f) (Oa:OrdK f) (hk:kindOf st0=kd) (hD:qel D st0) (hn:lo+nrem<=(arrOf st0).size) (hv:SV lo st0 st) (h1:1<=n) (h2:n<=nrem) (h3:DnL f lo (arrOf st) n) (q:RunP f lo nrem st0 Q) :
  wpS (model prog w) A E s (qby lo n nrem) Q st:=by
 unfold qby;have hz:=hv.size;refine qr (qcY ?_);have hv2:=hv.mir (i:=lo) (j:=lo+n) (qo _) (by lia);have up:UpL f lo (arrOf (setArr st (mir (arrOf st) lo (lo+n)))) n:=UpL.ofRev (by lia) h3;generalize setArr st (mir (arrOf st) lo (lo+n))=st2 at hv2 up ⊢;have hz2:=hv2.size;refine qr (qeu hA Oa (hv2.kind.trans hk) (hD.of hv2.perm) (by lia) h1 h2 up fun m a1 a2 a3 _=>?_);exact qx (q m st2 hv2 (by lia) a2 a3)
theorem qg9 (hA:Ask prog w A E s kd D f) (Oa:OrdK f) (hk:kindOf st0=kd) (hD:qel D st0) (hn:lo+nrem<=(arrOf st0).size) (hv:SV lo st0 st) (h1:1<=n) (h2:n<=nrem) (h3:DnL f lo (arrOf st) n) {Q:Option (Option Nat)×Nat×Nat->SortSt->Prop}
  (q:∀ m k st',SV lo st0 st'->k+1<=m->m<=nrem->DnL f lo (arrOf st') m->(∀ a b,lo+m - (k+1)<=a->a<lo+m->lo+m - (k+1)<=b->b<lo+m->qaq f (kD (arrOf st') a) (kD (arrOf st') b))->Q (none,m,k) st') :
  wpS (model prog w) A E s (qif lo n nrem) Q st:=by
 unfold qif;have one:∀ (p:Array Keyed) (m a b:Nat),1<=m->lo+m - (0+1)<=a->a<lo+m->lo+m - (0+1)<=b->b<lo+m->qaq f (kD p a) (kD p b):=fun p m a b _ _ _ _ _=>by
  have:a=b:=by lia
  subst this;exact qaq.refl Oa _
 refine yE (I:=fun x c st'=>SV lo st0 st'/\∃ k,c=(none,x,k)/\k+1<=x/\DnL f lo (arrOf st') x/\(∀ a b,lo+x - (k+1)<=a->a<lo+x->lo+x - (k+1)<=b->b<lo+x->qaq f (kD (arrOf st') a) (kD (arrOf st') b))) ?step ?fin ⟨hv,0,rfl,by lia,h3,fun a b=>one _ n a b h1⟩;case fin =>
  rintro c st' ⟨hv',k,rfl,g1,g2,g3⟩;rw[show max n nrem=nrem by lia] at g1 g2 g3 ⊢;exact q nrem k st' hv' g1 (qo _) g2 g3
 case step =>
  rintro x c st' hnx hx ⟨hv',k,rfl,g1,g2,g3⟩;dsimp only;have hz:=hv'.size;refine qr (ZV hA (hv'.kind.trans hk) (hD.of hv'.perm) (by lia) (by lia) ?_);dsimp only;cases c:f (kD (arrOf st') (lo+x)) (kD (arrOf st') (lo+x - 1)) with
  | true =>
   simp only[if_true];have dn:=g2.succ Oa (by lia) (Oa.asym _ _ c);by_cases hq:k > 0
   .rw [if_pos hq];refine qr (qcY ?_);have ev:=qaU Oa (p:=arrOf st') (i:=lo+x - (k+1)) (j:=lo+x) (by lia) g3;exact qx ⟨hv'.mir (by lia) (by lia),0,rfl,by lia,dn.eqv Oa ev,fun a b=>one _ _ a b (by lia)⟩
   .rw [if_neg hq];exact qx ⟨hv',0,rfl,by lia,dn,fun a b=>one _ _ a b (by lia)⟩
  | false =>
   simp only[qk,if_false];refine qr (ZV hA (hv'.kind.trans hk) (hD.of hv'.perm) (by lia) (by lia) ?_);dsimp only;cases d:f (kD (arrOf st') (lo+x - 1)) (kD (arrOf st') (lo+x)) with
   | true =>
    simp only[if_true];exact qx (q x k st' hv' g1 (by lia) g2 g3)
   | false =>
    simp only[qk,if_false];refine qx ⟨hv',k+1,rfl,by lia,g2.succ Oa (by lia) d,fun a b a1 a2 b1 b2=>?_⟩;have last:qaq f (kD (arrOf st') (lo+x)) (kD (arrOf st') (lo+x - 1)):=⟨c,d⟩;have key:∀ y,lo+(x+1) - (k+1+1)<=y->y<lo+(x+1)->qaq f (kD (arrOf st') y) (kD (arrOf st') (lo+x - 1)):=fun y y1 y2=>by
     by_cases e:y=lo+x
     .subst e;exact last
     .exact g3 _ _ (by lia) (by lia) (by lia) (by lia)
    exact (key a a1 a2).trans Oa (key b b1 b2).symm
theorem Zt (hA:Ask prog w A E s kd D f) (Oa:OrdK f) (hk:kindOf st0=kd) (hD:qel D st0) (hn:lo+nrem<=(arrOf st0).size) (hv:SV lo st0 st) (h1:1<=n) (h2:n+1<=nrem) (h3:DnL f lo (arrOf st) (n+1)) (q:RunP f lo nrem st0 Q) :
  wpS (model prog w) A E s (Yq lo n nrem) Q st:=by
 unfold Yq;refine qr (wpS_lift (j6 ⟨rfl,?_⟩));refine qr (qg9 hA Oa hk hD hn hv (by lia) h2 h3 fun m k st' hv' g1 g2 g3 g4=>?_);dsimp only;have hz:=hv'.size;by_cases hq:k > 0
 .rw [if_pos hq];refine qr (qcY ?_);have ev:=qaU Oa (p:=arrOf st') (i:=lo+m - (k+1)) (j:=lo+m) (by lia) g4;exact qbv hA Oa hk hD hn (hv'.mir (by lia) (by lia)) (by lia) g2 (g3.eqv Oa ev) q
 .rw [if_neg hq];exact qbv hA Oa hk hD hn hv' (by lia) g2 g3 q
theorem qci (hA:Ask prog w A E s kd D f) (Oa:OrdK f) (hk:kindOf st0=kd) (hD:qel D st0) (hn:lo+nrem<=(arrOf st0).size) (h1:1<=nrem) (q:RunP f lo nrem st0 Q) :
  wpS (model prog w) A E s (countRun' lo nrem) Q st0:=by
 rw[qb4];refine qr (qeu hA Oa hk hD hn (qo _) h1 (UpL.one Oa lo _) fun m a1 a2 a3 a4=>?_);dsimp only;by_cases e:m=nrem
 .rw [if_pos (by simpa using e)];exact qx (q m st0 (SV.refl _ _) a1 a2 a3)
 .rw [if_neg (by simpa using e)];have hlt:=a4 (by lia);by_cases e2:m > 1
  .rw [if_pos e2];refine qr (ZV hA hk hD (by lia) (by lia) ?_);dsimp only;cases c:f (kD (arrOf st0) lo) (kD (arrOf st0) (lo+m - 1)) with
   | true =>
    simp only[if_true];exact qx (q m st0 (SV.refl _ _) a1 a2 a3)
   | false =>
    simp only[qk,if_false];refine qr (qcY ?_);have al:∀ a b,lo<=a->a<lo+m->lo<=b->b<lo+m->qaq f (kD (arrOf st0) a) (kD (arrOf st0) b):=fun a b ha1 ha hb1 hb=>by
     have key:∀ x,lo<=x->x<lo+m->qaq f (kD (arrOf st0) x) (kD (arrOf st0) lo):=fun x hx1 hx=>by
      have k1:=a3 0 (x - lo) (by lia) (by lia);have k2:=a3 (x - lo) (m - 1) (by lia) (by lia);rw[show lo+(x - lo)=x by lia] at k1 k2;rw[show lo+(m - 1)=lo+m - 1 by lia] at k2;exact⟨k1,Oa.le k2 c⟩
     exact (key a ha1 ha).trans Oa (key b hb1 hb).symm
    have ev:=qaU Oa (p:=arrOf st0) (i:=lo) (j:=lo+m) (by lia) al;have dn:DnL f lo (arrOf st0) m:=fun i j hi hj=>(al (lo+i) (lo+j) (by lia) (by lia) (by lia) (by lia)).1;exact Zt hA Oa hk hD hn ((SV.refl lo st0).mir (qo _) (by lia)) a1 (by lia) ((dn.succ Oa a1 (Oa.asym _ _ hlt)).eqv Oa ev) q
  .rw [if_neg e2];have m1:m=1:=by lia
   subst m1;have dn:DnL f lo (arrOf st0) 1:=fun i j hi hj=>by
    have:i=j:=by lia
    subst this;exact Oa.irr _
   exact Zt hA Oa hk hD hn (SV.refl lo st0) (qo _) (by lia) (dn.succ Oa (qo _) (Oa.asym _ _ hlt)) q
theorem qbR {src d:Nat}(hs:src<xs.size) (hd:d<=src) (k:Nat):kD (bubble xs src d) k=if k=src - d then kD xs src else if src - d<k/\k<=src then kD xs (k - 1) else kD xs k:=by
 have e:=getElem?_bubble hs d hd k;by_cases h1:k=src - d
 .rw [if_pos h1] at e ⊢;exact qgc e
 .rw [if_neg h1] at e ⊢;by_cases h2:src - d<k/\k<=src
  .rw [if_pos h2] at e ⊢;exact qgc e
  .rw [if_neg h2] at e ⊢;exact qgc e
theorem qdP (hA:Ask prog w A E s kd D f) (Oa:OrdK f) (hk:kindOf st0=kd) (hD:qel D st0) {ok:Nat}(hn:lo+n<=(arrOf st0).size) (hok:ok<=n) (hs:UpL f lo (arrOf st0) ok) {Q:Bool->SortSt->Prop}(q:∀ st',SV lo st0 st'->UpL f lo (arrOf st') n->Q true st') :
  wpS (model prog w) A E s (binarySort' lo n ok) Q st0:=by
 rw[binarySort'_eq];refine qr (jv (yE (I:=fun k c st'=>c=(none,())/\SV lo st0 st'/\UpL f lo (arrOf st') (min k n))
  (Q:=fun c st'=>c=(none,())/\SV lo st0 st'/\UpL f lo (arrOf st') n) ?step ?fin ?init) ?post)
 case post =>
  rintro c st' ⟨rfl,hB',hs'⟩;exact qx (q st' hB' hs')
 case init =>
  refine⟨rfl,SV.refl _ _,fun i j hij hj=>?_⟩;by_cases h1:ok=0
  .have:i=j:=by lia
   subst this;exact Oa.irr _
  .exact hs i j hij (by lia)
 case fin =>
  rintro c st' ⟨hc,hB',hs'⟩;refine⟨hc,hB',?_⟩;rwa[show min (max (max ok 1) n) n=n by lia] at hs'
 case step =>
  rintro k c st' hak hkn ⟨rfl,hB',hs'⟩;rw[show min k n=k by lia] at hs';have hz:=hB'.size;refine qr (jv (yE (I:=fun x c st''=>st''=st'/\∃ l r,c=(none,l,r)/\l<=r/\r<=k/\r - l<=k - x ∧
    (∀ i,i<l->f (kD (arrOf st') (lo+k)) (kD (arrOf st') (lo+i))=false)/\(∀ i,r<=i->i<k->f (kD (arrOf st') (lo+k)) (kD (arrOf st') (lo+i))=true))
   (Q:=fun c st''=>st''=st'/\∃ l r,c=(none,l,r)/\l<=k ∧
    (∀ i,i<l->f (kD (arrOf st') (lo+k)) (kD (arrOf st') (lo+i))=false)/\(∀ i,l<=i->i<k->f (kD (arrOf st') (lo+k)) (kD (arrOf st') (lo+i))=true)) ?istep ?ifin ?iinit) ?ipost)
  case iinit=>exact⟨rfl,0,k,rfl,by lia,by lia,by lia,fun i hi=>by lia,fun i h1 h2=>by lia⟩
  case ifin =>
   rintro c st'' ⟨rfl,l,r,rfl,hlr,hrk,hm,hlo,hhi⟩;have:l=r:=by lia
   subst this;exact⟨rfl,l,l,rfl,hrk,hlo,hhi⟩
  case istep =>
   rintro x c st'' _ hxk ⟨rfl,l,r,rfl,hlr,hrk,hm,hlo,hhi⟩;dsimp only;by_cases hge:l ≥ r
   .rw [if_pos hge];have:l=r:=by lia
    subst this;exact qx ⟨rfl,l,l,rfl,hrk,hlo,hhi⟩
   .rw [if_neg hge];refine qr (ZV hA (hB'.kind.trans hk) (hD.of hB'.perm) (by lia) (by lia) ?_);dsimp only;cases c:f (kD (arrOf st'') (lo+k)) (kD (arrOf st'') (lo+(l+r) / 2)) with
    | true =>
     simp only[if_true];refine qx ⟨rfl,l,(l+r) / 2,rfl,by lia,by lia,by lia,hlo,fun i h1 h2=>?_⟩;exact Oa.ltl c (hs' _ _ h1 h2)
    | false =>
     simp only[qk,if_false];refine qx ⟨rfl,(l+r) / 2+1,r,rfl,by lia,by lia,by lia,fun i h1=>?_,hhi⟩;exact Oa.le (hs' i ((l+r) / 2) (by lia) (by lia)) c
  case ipost =>
   rintro c st'' ⟨rfl,l,r,rfl,hlk,hlo,hhi⟩;show wpS _ _ _ _ (do moveDown' (lo+k) (lo+l);pure (ForInStep.yield (none,()))) _ _;rw[moveDown'_eq];have hks:lo+k<(arrOf st'').size:=by lia
   have ed:lo+k - (lo+l)=k - l:=by lia
   refine qr (j5 (qx ⟨rfl,⟨hB'.kind,hB'.pend,hB'.fail,(bubble_perm _ _ _).trans hB'.perm,fun j hj=>?_⟩,?_⟩))
   .show (bubble (arrOf st'') (lo+k) (lo+k - (lo+l)))[j]?=_;rw[getElem?_bubble hks _ (by lia),if_neg (by lia),if_neg (by lia)];exact hB'.pre j hj
   rw[show min (k+1) n=k+1 by lia];intro i j hij hj;show f (kD (bubble (arrOf st'') (lo+k) (lo+k - (lo+l))) (lo+j)) (kD (bubble (arrOf st'') (lo+k) (lo+k - (lo+l))) (lo+i))=false;rw[qbR hks (by lia),qbR hks (by lia),ed,show lo+k - (k - l)=lo+l by lia];by_cases j1:j=l
   .rw [if_pos (by lia)];by_cases i1:i=l
    .rw [if_pos (by lia)];exact Oa.irr _
    .rw [if_neg (by lia),if_neg (by lia)];exact hlo i (by lia)
   .rw [if_neg (by lia)];by_cases j2:l<j/\j<=k
    .rw [if_pos (by lia)];by_cases i1:i=l
     .rw [if_pos (by lia)];have:=hhi (j - 1) (by lia) (by lia);rw[show lo+j - 1=lo+(j - 1) by lia];exact Oa.asym _ _ this
     .rw [if_neg (by lia)];by_cases i2:l<i/\i<=k
      .rw [if_pos (by lia),show lo+j - 1=lo+(j - 1) by lia,show lo+i - 1=lo+(i - 1) by lia];exact hs' _ _ (by lia) (by lia)
      .rw [if_neg (by lia),show lo+j - 1=lo+(j - 1) by lia];exact hs' _ _ (by lia) (by lia)
    .rw [if_neg (by lia),if_neg (by lia),if_neg (by lia)];exact hs' _ _ (by lia) (by lia)
end
end L2
namespace L2
open W
variable {f:Keyed->Keyed->Bool}{segs:List (List Keyed)}
def yH (f:Keyed->Keyed->Bool):Nat->List (List Keyed)->List (Nat×Nat×Nat)->Prop
 | _,[],[]=>True
 | off,sg::sgs,p::ps=>p.1=off/\p.2.1=sg.length/\SdK f sg/\sg≠[]/\yH f (off+sg.length) sgs ps
 | _,_,_=>False
theorem yH.len:∀ {off:Nat}{segs:List (List Keyed)}{ps:List (Nat×Nat×Nat)},yH f off segs ps->segs.length=ps.length
 | _,[],[],_=>rfl
 | _,_::_,_::_,h=>by simp[yH.len h.2.2.2.2]
theorem yH.snoc:∀ {off:Nat}{segs:List (List Keyed)}{ps:List (Nat×Nat×Nat)}{sg:List Keyed}{pw:Nat},yH f off segs ps->SdK f sg->sg≠[]->yH f off (segs++[sg]) (ps++[(off+segs.flatten.length,sg.length,pw)])
 | _,[],[],_,_,_,h1,h2=>⟨by simp,rfl,h1,h2,trivial⟩
 | off,a::segs,p::ps,sg,pw,h,h1,h2=>by
  obtain⟨g1,g2,g3,g4,g5⟩:=h;have:=yH.snoc (pw:=pw) g5 h1 h2;refine⟨g1,g2,g3,g4,?_⟩;simp only[j9,qv];rw[Nat.add_assoc] at this;exact this
theorem yH.split:∀ {p1:List (Nat×Nat×Nat)}{off:Nat}{segs:List (List Keyed)}{A B:Nat×Nat×Nat}{p2:List (Nat×Nat×Nat)},yH f off segs (p1++A::B::p2) →
  ∃ s1 X Y s2,segs=s1++X::Y::s2/\A.1=off+s1.flatten.length/\A.2.1=X.length/\B.1=off+s1.flatten.length+X.length/\B.2.1=Y.length/\SdK f X/\SdK f Y/\X≠[]/\Y≠[] ∧
   ∀ Z pw,SdK f Z->Z.length=X.length+Y.length->yH f off (s1++Z::s2) (p1++(A.1,X.length+Y.length,pw)::p2)
 | [],off,a::b::segs,A,B,p2,h=>by
  obtain⟨g1,g2,g3,g4,h1,h2,h3,h4,h5⟩:=h;refine⟨[],a,b,segs,rfl,by simpa using g1,g2,by simpa using h1,h2,g3,h3,g4,h4,fun Z pw z1 z2=>⟨g1,z2.symm,z1,fun e=>?_,?_⟩⟩
  .subst e;simp at z2;have:=List.length_pos_iff.mpr g4;lia
  .rw [z2,<- Nat.add_assoc];exact h5
 | p::p1,off,a::segs,A,B,p2,h=>by
  obtain⟨g1,g2,g3,g4,g5⟩:=h;obtain⟨s1,X,Y,s2,e,k1,k2,k3,k4,k5,k6,k7,k8,k9⟩:=yH.split g5;refine⟨a::s1,X,Y,s2,by rw[e];rfl,by rw[k1];simp;lia,k2,by rw[k3];simp;lia,k4,k5,k6,k7,k8,fun Z pw z1 z2=>⟨g1,g2,g3,g4,k9 Z pw z1 z2⟩⟩
theorem yH.repow {g:Nat×Nat×Nat->Nat×Nat×Nat}(hg:∀ p,(g p).1=p.1/\(g p).2.1=p.2.1):∀ {off:Nat}{segs:List (List Keyed)}{ps:List (Nat×Nat×Nat)}{i:Nat},yH f off segs ps->yH f off segs (ps.modify i g)
 | _,[],[],i,h=>by rw[List.modify_nil];exact h
 | _,a::segs,p::ps,0,h=>by
  obtain⟨g1,g2,g3,g4,g5⟩:=h;simp only[List.modify_zero_cons];exact⟨(hg p).1.trans g1,(hg p).2.trans g2,g3,g4,g5⟩
 | _,a::segs,p::ps,i+1,h=>by
  obtain⟨g1,g2,g3,g4,g5⟩:=h;simp only[List.modify_succ_cons];exact⟨g1,g2,g3,g4,yH.repow hg g5⟩
theorem yH.flat_pos:∀ {off:Nat}{segs:List (List Keyed)}{ps:List (Nat×Nat×Nat)},yH f off segs ps->ps.length<=segs.flatten.length
 | _,[],[],_=>qo _
 | _,a::segs,p::ps,h=>by
  have:=yH.flat_pos h.2.2.2.2;have:=List.length_pos_iff.mpr h.2.2.2.1;rw[j9,qv,yl];lia
def wrt (base:Nat) (a:Array Keyed) (l:List (Keyed×Nat)):Array Keyed:=l.foldl (fun a (p:Keyed×Nat)=>a.setIfInBounds (base+p.2) p.1) a
theorem qcX:∀ {M:List Keyed}{n base:Nat}{arr:Array Keyed}{A B C:List Keyed},arr.toList=A++(B++C)->A.length=base+n->M.length=B.length->(wrt base arr (M.zipIdx n)).toList=A++(M++C)
 | [],n,base,arr,A,B,C,h,_,hm=>by
  have:B=[]:=List.eq_nil_of_length_eq_zero hm.symm;subst this;simpa[wrt] using h
 | m::M,n,base,arr,A,[],C,h,_,hm=>by simp at hm
 | m::M,n,base,arr,A,b::B,C,h,ha,hm=>by
  have e:(arr.setIfInBounds (base+n) m).toList=(A++[m])++(B++C):=by
   rw[Array.toList_setIfInBounds,h,<- ha];simp
  have:=qcX (M:=M) (n:=n+1) (base:=base) (arr:=arr.setIfInBounds (base+n) m) e (by simp;lia) (by simpa using hm);rw[List.zipIdx_cons];show (wrt base (arr.setIfInBounds (base+n) m) (M.zipIdx (n+1))).toList=_;rw[this];simp
theorem qbQ (i:Nat):mergeAt' i=(do
 let s <- get
 let (some (sa,na,power),some (sb,nb,_)):=((pendingOf s)[i]?,(pendingOf s)[i+1]?) | unsupported "internal:list.sort.pending"
 set (SortSt.mk' (PyProof.Rows.kindOf s) (arrOf s) (((pendingOf s).setIfInBounds i (sa,na+nb,power)).eraseIdxIfInBounds (i+1)) (gallopOf s) (failedOf s))
 let some k <- jI false (<- elem' (arrOf s) sb) (arrOf s) sa na 0 | return false
 let (sa,na):=(sa+k,na - k)
 if na == 0 then return true
 let some nb <- jI true (<- elem' (arrOf s) (sa+na - 1)) (arrOf s) sb nb (nb - 1) | return false
 if nb == 0 then return true
 let x:=(arrOf s).extract sa sb
 let y:=(arrOf s).extract sb (sb+nb)
 let merged <- if na<=nb then ZK x y else ZL x y
 modify fun s=>SortSt.mk' (PyProof.Rows.kindOf s) (merged.toList.zipIdx.foldl (fun a (p,j)=>a.setIfInBounds (sa+j) p) (arrOf s)) (pendingOf s) (gallopOf s) (failedOf s)
 return (failedOf (<- get)).isNone):=rfl
theorem qjJ {st':SortSt}{Q:PUnit->SortSt->Prop}(h:Q ⟨⟩ st'):wpS (model prog w) A E s (set st':StateT SortSt Sem PUnit) Q st:=by unfold wpS;rw[StateT.run_set];exact qe ⟨rfl,h⟩
theorem qd9 {p1 p2:List (Nat×Nat×Nat)}{a b v:Nat×Nat×Nat}{ps:Array (Nat×Nat×Nat)}(h:ps.toList=p1++a::b::p2):((ps.setIfInBounds p1.length v).eraseIdxIfInBounds (p1.length+1)).toList=p1++v::p2:=by
 have hz:ps.size=p1.length+2+p2.length:=by rw[<- qD,h];simp;lia
 unfold Array.eraseIdxIfInBounds;rw[dif_pos (by simp;lia),Array.toList_eraseIdx,Array.toList_setIfInBounds,h];simp;rw[List.eraseIdx_append_of_length_le (by lia)];simp
theorem qaS {X Y:List Keyed}(h1:SdK f X) (h2:SdK f Y) (c:∀ x∈X,∀ y∈Y,f y x=false):SdK f (X++Y):=q0.mpr ⟨h1,h2,c⟩
theorem Y6 (hA:Ask prog w A E s kd D f) (Oa:OrdK f) (hk:PyProof.Rows.kindOf st=kd) (hD:qel D st) (hf:failedOf st=none) {rest:List Keyed}(ha:(arrOf st).toList=segs.flatten++rest) (hp:yH f 0 segs (pendingOf st).toList) (hi:i+1<(pendingOf st).size) {Q:Bool->SortSt->Prop}
  (q:∀ st' segs',PyProof.Rows.kindOf st'=kd->failedOf st'=none->(arrOf st').Perm (arrOf st)->(arrOf st').toList=segs'.flatten++rest->segs'.flatten.length=segs.flatten.length->yH f 0 segs' (pendingOf st').toList->(pendingOf st').size+1=(pendingOf st).size->Q true st') :
  wpS (model prog w) A E s (mergeAt' i) Q st:=by
 have hlen:(pendingOf st).toList.length=(pendingOf st).size:=qD;obtain⟨p1,a0,b0,p2,hpl,hp1⟩:∃ p1 a0 b0 p2,(pendingOf st).toList=p1++a0::b0::p2/\p1.length=i:=by
  refine⟨(pendingOf st).toList.take i,(pendingOf st)[i],(pendingOf st)[i+1],(pendingOf st).toList.drop (i+2),?_,by simp;lia⟩;have e1:=jY (l:=(pendingOf st).toList) (i:=i) (by lia);have e2:=jY (l:=(pendingOf st).toList) (i:=i+1) (by lia);have:=(qW i (pendingOf st).toList).symm;rw[e1,e2] at this;exact this
 rw[hpl] at hp;obtain⟨s1,X,Y,s2,rfl,k1,k2,k3,k4,k5,k6,k7,k8,k9⟩:=hp.split;have g1:(pendingOf st)[i]?=some a0:=by rw[<- qy,hpl,<- hp1];simp
 have g2:(pendingOf st)[i+1]?=some b0:=by
  rw[<- qy,hpl,<- hp1];rw[q9 (by lia)];simp
 obtain⟨sa,na,pw⟩:=a0;obtain⟨sb,nb,pw2⟩:=b0;simp only[Nat.zero_add] at k1 k2 k3 k4;subst k2 k4;rw[qbQ];refine qr (wpS_get ?_);rw[g1,g2];dsimp only;refine qr (qjJ ?_);have hnp:(((pendingOf st).setIfInBounds i (sa,X.length+Y.length,pw)).eraseIdxIfInBounds (i+1)).toList=p1++(sa,X.length+Y.length,pw)::p2:=by rw[<- hp1];exact qd9 hpl
 have hsz:(((pendingOf st).setIfInBounds i (sa,X.length+Y.length,pw)).eraseIdxIfInBounds (i+1)).size+1=(pendingOf st).size:=by rw[<- qD,hnp,<- hlen,hpl];simp;lia
 generalize ((pendingOf st).setIfInBounds i (sa,X.length+Y.length,pw)).eraseIdxIfInBounds (i+1)=np at hnp hsz ⊢;have harr:(arrOf st).toList=s1.flatten++(X++(Y++(s2.flatten++rest))):=by rw[ha];simp
 have hsz2:(arrOf st).size=s1.flatten.length+(X.length+(Y.length+(s2.flatten.length+rest.length))):=by rw[<- qD,harr];simp
 have hX:0<X.length:=List.length_pos_iff.mpr k7;have hY:0<Y.length:=List.length_pos_iff.mpr k8;have getX:∀ j,j<X.length->(arrOf st)[sa+j]?=X[j]?:=fun j hj=>by
  rw[<- qy,harr,k1,q9 (by lia),qQ (by lia)];congr 1;lia
 have getY:∀ j,j<Y.length->(arrOf st)[sb+j]?=Y[j]?:=fun j hj=>by
  rw[<- qy,harr,k3,q9 (by lia),q9 (by lia),qQ (by lia)];congr 1;lia
 have dX:∀ x∈X,D x:=fun x hx=>hD x (by rw[harr];simp[hx]);have dY:∀ x∈Y,D x:=fun x hx=>hD x (by rw[harr];simp[hx])
 have fin:∀ (st':SortSt) (Z:List Keyed),PyProof.Rows.kindOf st'=kd->failedOf st'=none->pendingOf st'=np->(arrOf st').toList=s1.flatten++(Z++(s2.flatten++rest))->SdK f Z->Z.Perm (X++Y)->Q true st':=fun st' Z z1 z2 z3 z4 z5 z6=>by
  have zl:=z6.length_eq;rw[qv] at zl;refine q st' (s1++Z::s2) z1 z2 ?_ (by rw[z4];simp) (by simp[zl];lia) ?_ (by rw[z3];exact hsz)
  .rw [y7,z4,harr];refine List.Perm.append_left _ ?_;rw[<- qu X Y];exact List.Perm.append_right _ z6
  .rw [z3,hnp];have:=k9 Z pw z5 zl;simpa using this
 have fin0:SdK f (X++Y)->Q true (SortSt.mk' (PyProof.Rows.kindOf st) (arrOf st) np (gallopOf st) (failedOf st)):=fun h=>fin _ (X++Y) hk hf rfl (by rw[harr];simp) h (List.Perm.refl _);have y0:(arrOf st)[sb]?=some Y[0]:=by
  have:=getY 0 hY;rwa[Nat.add_zero,qf hY] at this
 rw[elem'_eq,y0];refine qr (qx ?_);refine qr (qav hA Oa hk X rfl getX (dY _ (ya hY)) dX hX k5 fun k hk1 hk2 hk3=>?_);have leX:∀ x∈X.take k,f Y[0] x=false:=fun x hx=>by simpa[byd] using hk2 x hx
 have gtX:∀ x∈X.drop k,f Y[0] x=true:=fun x hx=>by simpa[byd] using hk3 x hx
 have Y0le:∀ y∈Y,f y Y[0]=false:=fun y hy=>by
  obtain⟨j,hj,rfl⟩:=jo.mp hy;by_cases e:j=0
  .subst e;exact Oa.irr _
  .exact yg.mp k6 0 j hY hj (by lia)
 dsimp only;by_cases e:X.length - k=0
 .rw [if_pos (by simpa using e)];refine qx (fin0 (qaS k5 k6 fun x hx y hy=>?_));have:X.take k=X:=JP (by lia);exact Oa.le (leX x (by rw[this];exact hx)) (Y0le y hy)
 .rw [if_neg (by simpa using e)];have hl:X.length - 1<X.length:=by lia
  have xl:(arrOf st)[sa+k+(X.length - k) - 1]?=some X[X.length - 1]:=by rw[show sa+k+(X.length - k) - 1=sa+(X.length - 1) by lia,getX _ hl,qf hl]
  rw[elem'_eq,xl];refine qr (qx ?_);refine qr (qav hA Oa hk Y rfl getY (dX _ (ya hl)) dY (by lia) k6 fun m hm1 hm2 hm3=>?_);have ltY:∀ x∈Y.take m,f x X[X.length - 1]=true:=fun x hx=>hm2 x hx;have geY:∀ x∈Y.drop m,f x X[X.length - 1]=false:=fun x hx=>hm3 x hx;have Xle:∀ x∈X,f X[X.length - 1] x=false:=fun x hx=>by
   obtain⟨j,hj,rfl⟩:=jo.mp hx;by_cases e:j=X.length - 1
   .subst e;exact Oa.irr _
   .exact yg.mp k5 j (X.length - 1) hj hl (by lia)
  dsimp only;by_cases e2:m=0
  .rw [if_pos (by simpa using e2)];subst e2;refine qx (fin0 (qaS k5 k6 fun x hx y hy=>Oa.le (Xle x hx) (geY y (by simpa using hy))))
  .rw [if_neg (by simpa using e2)];have ex:((arrOf st).extract (sa+k) sb).toList=X.drop k:=by
    have e:((arrOf st).extract (sa+k) sb).toList=((arrOf st).toList.drop (sa+k)).take (sb - (sa+k)):=by simp[Array.toList_extract,jX]
    rw[e,harr,k1,k3,List.drop_append,List.drop_of_length_le (by lia),List.nil_append,show s1.flatten.length+k - s1.flatten.length=k by lia,List.drop_append_of_le_length (by lia),List.take_append_of_le_length (by simp;lia)];exact JP (by simp;lia)
   have ey:((arrOf st).extract sb (sb+m)).toList=Y.take m:=by rw[JZ,harr,k3,List.drop_append,List.drop_of_length_le (by lia),List.nil_append,show s1.flatten.length+X.length - s1.flatten.length=X.length by lia,List.drop_left,List.take_append_of_le_length hm1]
   generalize (arrOf st).extract (sa+k) sb=ax at ex ⊢;generalize (arrOf st).extract sb (sb+m)=ay at ey ⊢;have hax:ax.size=X.length - k:=by rw[<- qD,ex];simp
   have hay:ay.size=m:=by rw[<- qD,ey];simp;lia
   have getax:∀ j (h:j<ax.size),ax[j]=X[k+j]'(by lia):=fun j h=>by
    have:ax.toList[j]'(by simpa using h)=(X.drop k)[j]'(by simp;lia):=by simp only[ex]
    rw[List.getElem_drop] at this;exact this
   have getay:∀ j (h:j<ay.size),ay[j]=Y[j]'(by lia):=fun j h=>by
    have:ay.toList[j]'(by simpa using h)=(Y.take m)[j]'(by simp;lia):=by simp only[ey]
    rw[List.getElem_take] at this;exact this
   have hB:Both D f ax ay:=by
    refine⟨fun x hx=>dX x (jn (by rw[<- ex];exact hx)),fun x hx=>dY x (jm (by rw[<- ey];exact hx)),by lia,by lia,fun x hx=>?_,?_,?_,?_⟩
    .rw [getax];have:=ltY x (by rw[<- ey];exact hx);simp only[hax,show k+(X.length - k - 1)=X.length - 1 by lia];exact this
    .rw [getax,getay];exact gtX _ (jo.mpr ⟨0,by simp;lia,by rw[List.getElem_drop]⟩)
    .rw [ex];exact List.Pairwise.sublist (List.drop_sublist _ _) k5
    .rw [ey];exact List.Pairwise.sublist (List.take_sublist _ _) k6
   have key:∀ (o:Array Keyed) (st':SortSt),yT (SortSt.mk' (PyProof.Rows.kindOf st) (arrOf st) np (gallopOf st) (failedOf st)) st'->YN f ax ay o->Q true (SortSt.mk' (PyProof.Rows.kindOf st') (wrt (sa+k) (arrOf st') o.toList.zipIdx) (pendingOf st') (gallopOf st') (failedOf st')):=fun o st' hs ⟨h1,h2⟩=>by
    rw[ex,ey] at h2;have ol:=h2.length_eq;refine fin _ (X.take k++(o.toList++Y.drop m)) (hs.1.trans hk) (hs.2.2.2.trans hf) hs.2.2.1 ?_ ?_ ?_
    .show (wrt (sa+k) (arrOf st') o.toList.zipIdx).toList=_;have ea:(arrOf st').toList=(s1.flatten++X.take k)++((X.drop k++Y.take m)++(Y.drop m++(s2.flatten++rest))):=by
      have:arrOf st'=arrOf st:=hs.2.1;rw[this,harr];have e1:=qW k X;have e2:=qW m Y;rw[<- qu (X.drop k++Y.take m),qu (X.drop k),e2];rw[qu s1.flatten,<- qu (X.take k),<- qu (X.take k),e1];simp
     rw[qcX (n:=0) ea (by rw[qv,yw];lia) ol];simp
    .refine qaS (List.Pairwise.sublist (List.take_sublist _ _) k5) (qaS h1 (List.Pairwise.sublist (List.drop_sublist _ _) k6) fun x hx y hy=>?_) fun x hx y hy=>?_
     .have hx:=h2.mem_iff.mp hx;rcases qB.mp hx with z | z
      .exact Oa.le (Xle x (jn z)) (geY y hy)
      .have hY2:=qW m Y;have:SdK f (Y.take m++Y.drop m):=by rw[hY2];exact k6
       exact (q0.mp this).2.2 x z y hy
     .rcases qB.mp hy with z | z
      .have z:=h2.mem_iff.mp z;rcases qB.mp z with z | z
       .have hX2:=qW k X;have:SdK f (X.take k++X.drop k):=by rw[hX2];exact k5
        exact (q0.mp this).2.2 x hx y z
       .exact Oa.le (leX x hx) (Y0le y (jm z))
      .exact Oa.le (leX x hx) (Y0le y (jn z))
    .refine List.Perm.trans (List.Perm.append_left _ (List.Perm.append_right _ h2)) ?_;rw[qu,qW m Y,<- qu,qW k X]
   by_cases e3:X.length - k<=m
   .rw [if_pos e3];refine qr (qdN (st:=SortSt.mk' (PyProof.Rows.kindOf st) (arrOf st) np (gallopOf st) (failedOf st)) hA Oa hB hk fun o st' hs h=>?_);refine qr (j5 (qr (wpS_get (qx ?_))));have e0:(failedOf st').isNone=true:=by
     have:failedOf st'=none:=hs.2.2.2.trans hf;rw[this];rfl
    show Q (failedOf st').isNone _;rw[e0];exact key o st' hs h
   .rw [if_neg e3];refine qr (qdO (st:=SortSt.mk' (PyProof.Rows.kindOf st) (arrOf st) np (gallopOf st) (failedOf st)) hA Oa hB hk fun o st' hs h=>?_);refine qr (j5 (qr (wpS_get (qx ?_))));have e0:(failedOf st').isNone=true:=by
     have:failedOf st'=none:=hs.2.2.2.trans hf;rw[this];rfl
    show Q (failedOf st').isNone _;rw[e0];exact key o st' hs h
structure RI (f:Keyed->Keyed->Bool) (kd:SortKind) (a0:Array Keyed) (lo:Nat) (st:SortSt):Prop where
 kind:PyProof.Rows.kindOf st=kd
 fail:failedOf st=none
 perm:(arrOf st).Perm a0
 segs:∃ segs rest,(arrOf st).toList=segs.flatten++rest/\segs.flatten.length=lo/\yH f 0 segs (pendingOf st).toList
theorem RI.size (h:RI f kd a0 lo st):(arrOf st).size=a0.size:=h.perm.size_eq
theorem qge {l:List Keyed}{pre:List Keyed}{post:List Keyed}(h:xs.toList=pre++(l++post)) (hi:i<l.length):kD xs (pre.length+i)=l[i]:=by
 have hz:pre.length+i<xs.size:=by rw[<- qD,h];simp;lia
 have:=qgf hz;rw[<- qy,h,q9 (by lia),qQ (by lia),Nat.add_sub_cancel_left,qf hi] at this;exact (Option.some.inj this).symm
theorem RI.run (h:RI f kd a0 lo st0) (hv:SV lo st0 st) (h1:1<=n) (h2:lo+n<=a0.size) (hu:UpL f lo (arrOf st) n):∃ segs run rest,(arrOf st).toList=segs.flatten++(run++rest)/\segs.flatten.length=lo/\yH f 0 segs (pendingOf st).toList/\SdK f run/\run.length=n:=by
 obtain⟨segs,rest,g1,g2,g3⟩:=h.segs;have hz:(arrOf st).size=a0.size:=hv.size.trans h.size;have hz0:=h.size;have e1:(arrOf st).toList.take lo=segs.flatten:=by
  have:(arrOf st).toList.take lo=(arrOf st0).toList.take lo:=by
   apply List.ext_getElem?;intro i;rw[List.getElem?_take,List.getElem?_take];split
   .rename_i hi
    rw[qy,qy];exact hv.pre i hi
   .rfl
  rw[this,g1,<- g2,List.take_left]
 have hl:(arrOf st).toList.length=a0.size:=by rw[qD];exact hz
 refine⟨segs,((arrOf st).toList.drop lo).take n,((arrOf st).toList.drop lo).drop n,?_,g2,by rw[hv.pend];exact g3,?_,by simp;lia⟩
 .rw [qW n,<- e1,qW]
 .refine yg.mpr fun i j hi hj hij=>?_;have hi':i<n:=by simp at hi;lia
  have hj':j<n:=by simp at hj;lia
  have:=hu i j (by lia) hj';have ed:(arrOf st).toList=segs.flatten++(((arrOf st).toList.drop lo).take n++((arrOf st).toList.drop lo).drop n):=by rw[qW n,<- e1,qW]
  subst g2;rw[qge ed hi,qge ed hj] at this;exact this
theorem RI.push (hk:PyProof.Rows.kindOf st=kd) (hf:failedOf st=none) (hp:(arrOf st).Perm a0) {run rest:List Keyed}(g1:(arrOf st).toList=segs.flatten++(run++rest)) (g2:segs.flatten.length=lo) (g3:yH f 0 segs (pendingOf st).toList) (g4:SdK f run) (g5:run.length=n) (h1:1<=n) :
  RI f kd a0 (lo+n) (setPending st ((pendingOf st).push (lo,n,0))):=by
 refine⟨hk,hf,hp,segs++[run],rest,by rw[show arrOf (setPending st ((pendingOf st).push (lo,n,0)))=arrOf st from rfl,g1];simp,by simp only[List.flatten_append,qv,j9,List.flatten_nil,jt,g2,g5],?_⟩;have:=g3.snoc (pw:=0) g4 (fun e=>by subst e;simp at g5;lia);rw[show (pendingOf (setPending st ((pendingOf st).push (lo,n,0)))).toList=(pendingOf st).toList++[(lo,n,0)] from jd ..];rw[Nat.zero_add,g2,g5] at this;exact this
theorem ZU (hA:Ask prog w A E s kd D f) (Oa:OrdK f) (hk:PyProof.Rows.kindOf st=kd) (hf:failedOf st=none) (ha:arrOf st=a0) (hp0:pendingOf st=#[]) (hD:∀ x∈a0.toList,D x) (h2:2<=a0.size) {Q:Unit->SortSt->Prop}
  (q:∀ st',(arrOf st').Perm a0->failedOf st'=none->SdK f (arrOf st').toList->Q () st'):wpS (model prog w) A E s sortRuns' Q st:=by
 have hAll:∀ st',(arrOf st').Perm a0->qel D st':=fun st' h x hx=>hD x ((y7.mp h).mem_iff.mp hx);rw[sortRuns'_eq];refine qr (wpS_get ?_);dsimp only;rw[ha];generalize minRun' a0.size a0.size 0=minrun;refine qr (jv (yE
  (I:=fun x c st'=>∃ lo,c=(none,lo)/\x<=lo/\lo<=a0.size/\RI f kd a0 lo st')
  (Q:=fun c st'=>c=(none,a0.size)/\RI f kd a0 a0.size st') ?step ?fin ⟨0,rfl,qo _,qZ _,hk,hf,ha ▸ Array.Perm.refl _,[],a0.toList,by rw[ha];rfl,rfl,by rw[hp0];trivial⟩) ?post)
 case fin =>
  rintro c st' ⟨lo,rfl,g1,g2,g3⟩;have:lo=a0.size:=by lia
  subst this;exact⟨rfl,g3⟩
 case step =>
  rintro x c st' _ hx ⟨lo,rfl,g1,g2,g3⟩;dsimp only;by_cases hge:lo ≥ a0.size
  .rw [if_pos hge];have:lo=a0.size:=by lia
   subst this;exact qx ⟨rfl,g3⟩
  .rw [if_neg hge];have hz:=g3.size;refine qr (qci hA Oa g3.kind (hAll _ g3.perm) (by lia) (by lia) fun n st1 hv h1 hn hu=>?_);dsimp only
   have next:∀ (n:Nat) (st1:SortSt),SV lo st' st1->1<=n->lo+n<=a0.size->UpL f lo (arrOf st1) n->∃ segs run rest,PyProof.Rows.kindOf st1=kd/\failedOf st1=none/\(arrOf st1).Perm a0/\(arrOf st1).toList=segs.flatten++(run++rest)/\segs.flatten.length=lo/\yH f 0 segs (pendingOf st1).toList/\SdK f run/\run.length=n:=fun n st1 hv h1 hn hu=>by
    obtain⟨segs,run,rest,e⟩:=g3.run hv h1 hn hu;exact⟨segs,run,rest,hv.kind.trans g3.kind,hv.fail.trans g3.fail,hv.perm.trans g3.perm,e⟩
   by_cases hlt:n<minrun
   .rw [if_pos hlt];refine qr (wpS_lift (j6 ⟨rfl,?_⟩));have hz1:=hv.size;refine qr (qdP (n:=min (a0.size - lo) minrun) (ok:=n) hA Oa (hv.kind.trans g3.kind) (hAll _ (hv.perm.trans g3.perm)) (by lia) (by lia) hu fun st2 hv2 hu2=>?_);simp only[Jn,qk,if_false];obtain⟨segs,run,rest,b1,b2,b3,b4,b5,b6,b7,b8⟩:=next (min (a0.size - lo) minrun) st2 (hv.trans hv2) (by lia) (by lia) hu2
    have hnn:1<=min (a0.size - lo) minrun/\min (a0.size - lo) minrun<=a0.size - lo:=by lia
    generalize min (a0.size - lo) minrun=n at *;have hn1:1<=n:=by lia
    refine qr (wpS_get ?_);cases hb:(pendingOf st2).back? with
    | none =>
     dsimp only;exact qr (j5 (qx ⟨lo+n,rfl,by lia,by lia,RI.push b1 b2 b3 b4 b5 b6 b7 b8 hn1⟩))
    | some p =>
     obtain⟨s1,n1,pw1⟩:=p;dsimp only;generalize power' a0.size (2 * s1+n1) (2 * s1+n1+n1+n) a0.size=pw;refine qr (jv (yE (I:=fun _ c sx=>c=(none,())/\∃ segs,PyProof.Rows.kindOf sx=kd/\failedOf sx=none/\(arrOf sx).Perm a0/\(arrOf sx).toList=segs.flatten++(run++rest)/\segs.flatten.length=lo/\yH f 0 segs (pendingOf sx).toList)
      (Q:=fun c sx=>c=(none,())/\∃ segs,PyProof.Rows.kindOf sx=kd/\failedOf sx=none/\(arrOf sx).Perm a0/\(arrOf sx).toList=segs.flatten++(run++rest)/\segs.flatten.length=lo/\yH f 0 segs (pendingOf sx).toList) ?mstep1 ?mfin1 ⟨rfl,segs,b1,b2,b3,b4,b5,b6⟩) ?mpost1)
     case mfin1=>exact fun c sx h=>h
     case mstep1 =>
      rintro y c sx _ _ ⟨rfl,segs,d1,d2,d3,d4,d5,d6⟩;refine qr (wpS_get ?_);by_cases hs:(pendingOf sx).size > 1
      .rw [if_pos hs];have e:(pendingOf sx)[(pendingOf sx).size - 2]?=some ((pendingOf sx)[(pendingOf sx).size - 2]):=jZ (by lia);rw[e];generalize (pendingOf sx)[(pendingOf sx).size - 2]=t;obtain⟨t1,t2,t3⟩:=t;dsimp only;split
       .exact qx ⟨rfl,segs,d1,d2,d3,d4,d5,d6⟩
       .refine qr (Y6 hA Oa d1 (hAll _ d3) d2 d4 d6 (by lia) fun st4 segs' z1 z2 z3 z4 z5 z6 z7=>?_);simp only[Jn,qk,if_false];exact qx ⟨rfl,segs',z1,z2,z3.trans d3,z4,z5.trans d5,z6⟩
      .rw [if_neg hs];exact qx ⟨rfl,segs,d1,d2,d3,d4,d5,d6⟩
     case mpost1 =>
      rintro c sx ⟨rfl,segs,d1,d2,d3,d4,d5,d6⟩;dsimp only;refine qr (j5 (qr (j5 (qx ⟨lo+n,rfl,by lia,by lia,?_⟩))));have d7:yH f 0 segs ((pendingOf sx).modify ((pendingOf sx).size - 1) fun x=>(x.1,x.2.1,pw)).toList:=by rw[Array.toList_modify];exact yH.repow (g:=fun x=>(x.1,x.2.1,pw)) (fun p=>⟨rfl,rfl⟩) d6
      exact RI.push (st:=setPending sx ((pendingOf sx).modify ((pendingOf sx).size - 1) fun x=>(x.1,x.2.1,pw))) d1 d2 d3 d4 d5 d7 b7 b8 hn1
   .rw [if_neg hlt];obtain⟨segs,run,rest,b1,b2,b3,b4,b5,b6,b7,b8⟩:=next n st1 hv h1 (by lia) hu
    have hn1:1<=n:=by lia
    refine qr (wpS_get ?_);cases hb:(pendingOf st1).back? with
    | none =>
     dsimp only;exact qr (j5 (qx ⟨lo+n,rfl,by lia,by lia,RI.push b1 b2 b3 b4 b5 b6 b7 b8 hn1⟩))
    | some p =>
     obtain⟨s1,n1,pw1⟩:=p;dsimp only;generalize power' a0.size (2 * s1+n1) (2 * s1+n1+n1+n) a0.size=pw;refine qr (jv (yE (I:=fun _ c sx=>c=(none,())/\∃ segs,PyProof.Rows.kindOf sx=kd/\failedOf sx=none/\(arrOf sx).Perm a0/\(arrOf sx).toList=segs.flatten++(run++rest)/\segs.flatten.length=lo/\yH f 0 segs (pendingOf sx).toList)
      (Q:=fun c sx=>c=(none,())/\∃ segs,PyProof.Rows.kindOf sx=kd/\failedOf sx=none/\(arrOf sx).Perm a0/\(arrOf sx).toList=segs.flatten++(run++rest)/\segs.flatten.length=lo/\yH f 0 segs (pendingOf sx).toList) ?mstep2 ?mfin2 ⟨rfl,segs,b1,b2,b3,b4,b5,b6⟩) ?mpost1)
     case mfin2=>exact fun c sx h=>h
     case mstep2 =>
      rintro y c sx _ _ ⟨rfl,segs,d1,d2,d3,d4,d5,d6⟩;refine qr (wpS_get ?_);by_cases hs:(pendingOf sx).size > 1
      .rw [if_pos hs];have e:(pendingOf sx)[(pendingOf sx).size - 2]?=some ((pendingOf sx)[(pendingOf sx).size - 2]):=jZ (by lia);rw[e];generalize (pendingOf sx)[(pendingOf sx).size - 2]=t;obtain⟨t1,t2,t3⟩:=t;dsimp only;split
       .exact qx ⟨rfl,segs,d1,d2,d3,d4,d5,d6⟩
       .refine qr (Y6 hA Oa d1 (hAll _ d3) d2 d4 d6 (by lia) fun st4 segs' z1 z2 z3 z4 z5 z6 z7=>?_);simp only[Jn,qk,if_false];exact qx ⟨rfl,segs',z1,z2,z3.trans d3,z4,z5.trans d5,z6⟩
      .rw [if_neg hs];exact qx ⟨rfl,segs,d1,d2,d3,d4,d5,d6⟩
     case mpost1 =>
      rintro c sx ⟨rfl,segs,d1,d2,d3,d4,d5,d6⟩;dsimp only;refine qr (j5 (qr (j5 (qx ⟨lo+n,rfl,by lia,by lia,?_⟩))));have d7:yH f 0 segs ((pendingOf sx).modify ((pendingOf sx).size - 1) fun x=>(x.1,x.2.1,pw)).toList:=by rw[Array.toList_modify];exact yH.repow (g:=fun x=>(x.1,x.2.1,pw)) (fun p=>⟨rfl,rfl⟩) d6
      exact RI.push (st:=setPending sx ((pendingOf sx).modify ((pendingOf sx).size - 1) fun x=>(x.1,x.2.1,pw))) d1 d2 d3 d4 d5 d7 b7 b8 hn1
 case post =>
  rintro c st' ⟨rfl,g3⟩;dsimp only;refine qr (jv (yE (I:=fun x c sx=>c=(none,())/\RI f kd a0 a0.size sx/\(pendingOf sx).size+x<=a0.size+1)
   (Q:=fun c sx=>c=(none,())/\RI f kd a0 a0.size sx/\(pendingOf sx).size<=1) ?lstep ?lfin ⟨rfl,g3,?linit⟩) ?lpost)
  case linit =>
   obtain⟨segs,rest,e1,e2,e3⟩:=g3.segs;have:=e3.flat_pos;rw[qD] at this;lia
  case lfin =>
   rintro c sx ⟨rfl,h,h'⟩;exact⟨rfl,h,by lia⟩
  case lstep =>
   rintro x c sx _ _ ⟨rfl,h,h'⟩;refine qr (wpS_get ?_);by_cases hs:(pendingOf sx).size<=1
   .rw [if_pos hs];exact qx ⟨rfl,h,hs⟩
   .rw [if_neg hs];obtain⟨segs,rest,e1,e2,e3⟩:=h.segs;have go:∀ i,i+1<(pendingOf sx).size->wpS (model prog w) A E s (mergeAt' i) (fun r st4=>r=true/\RI f kd a0 a0.size st4/\(pendingOf st4).size+1=(pendingOf sx).size) sx:=fun i hi =>
     Y6 hA Oa h.kind (hAll _ h.perm) h.fail e1 e3 hi fun st4 segs' z1 z2 z3 z4 z5 z6 z7=>⟨rfl,⟨z1,z2,z3.trans h.perm,segs',rest,z4,z5.trans e2,z6⟩,z7⟩
    refine qr (jv (go _ ?_) fun r st4 hr=>?_)
    .have two:∀ (c:Prop) [Decidable c] (a b z:Nat),a+1<z->b+1<z->(if c then a else b)+1<z:=fun c _ a b z h1 h2=>by split <;> assumption
     exact two _ _ _ _ (by lia) (by lia)
    .obtain ⟨rfl,h4,h5⟩:=hr;simp only[Jn,qk,if_false];exact qx ⟨rfl,h4,by lia⟩
  case lpost =>
   rintro c sx ⟨rfl,h,h'⟩;dsimp only;obtain⟨segs,rest,e1,e2,e3⟩:=h.segs;refine qx (q sx h.perm h.fail ?_);have hl:=e3.len;rw[qD] at hl;have hz:=h.size;match segs,hl,e1,e2,e3 with
   | [],_,_,e2,_=>simp at e2;lia
   | [Z],_,e1,e2,e3 =>
    have e1l:=congrArg List.length e1;rw[qv,qD,e2,hz] at e1l;have:rest=[]:=List.eq_nil_of_length_eq_zero (by lia);rw[e1,this,jt];match (pendingOf sx).toList,e3 with
    | [p],e3=>simpa using e3.2.2.1
   | _::_::_,hl,_,_,_=>simp at hl;lia
end L2
namespace L2
open W
variable {vs:List Value}
def qdJ (vs:List Value) (p:Array Nat):List Value:=p.toList.map fun i=>vs.getD i Value.none
def ltK (kss:List (List Int)):Nat->Nat->Bool:=fun i j=>decide (kss.getD i []<kss.getD j [])
theorem Jd : ∀ {vs:List Value}{kss:List (List Int)},PySem.Paired (jl h) vs kss->∀ i,i<vs.length->jl h (vs.getD i Value.none) (kss.getD i [])
 | _,_,.nil,i,z=>by simp at z
 | _,_,.cons r t,0,_=>r
 | _,_,.cons r t,i+1,z=>Jd t i (by simpa using z)
theorem qbl {p:Array Nat}(hp:Arr vs.length p):(qdJ vs p).length=vs.length:=by
 unfold qdJ;rw[qc,qD,hp.size]
theorem qah:∀ {vs:List Value}{a b:List Int},IntsAre vs a->IntsAre vs b->a=b
 | _,_,_,.nil,.nil=>rfl
 | _,_,_,.cons _ _ h,.cons _ _ g=>by rw[qah h g]
open Classical in
noncomputable def kf (h:Heap) (v:Value):List Int:=epsilon fun ks=>jl h v ks
theorem qgb {v:Value}(t:jl h v ks):kf h v=ks:=by
 have t2:=Classical.epsilon_spec (p:=fun ks=>jl h v ks) ⟨ks,t⟩;obtain⟨a,o,xs,n,rfl,ho,_,hd,hi,_⟩:=t;obtain⟨a',o',xs',n',e,ho',_,hd',hi',_⟩:=t2;cases e
 rw[ho] at ho';cases ho'
 rw[hd] at hd';cases hd'
 exact qah hi' hi
noncomputable def kfF (h:Heap):Keyed->Keyed->Bool:=fun x y=>decide (kf h x.1<kf h y.1)
theorem qje (h:Heap):OrdK (kfF h) where
 asym a b h:=yi (qdm (qJ h))
 neg a b c h1:=by
  have h1:=qJ h1;by_cases e:kf h a.1<kf h b.1
  .exact .inl (qN e)
  .exact .inr (qN (List.lt_of_le_of_lt (List.not_lt.mp e) h1))
theorem qdI:Ask prog w A E s (tuples' true) (fun x=>∃ ks,jl s.heap x.1 ks) (kfF s.heap):=by
 intro x y st Q ⟨k1,t1⟩ ⟨k2,t2⟩ hk q;rw[lt'_eq];refine qr (wpS_get ?_);rw[hk];refine qr (wpS_lift (wpAny_attempt (lt_wp t1 t2 ⟨rfl,?_⟩)));unfold kfF at q;rw[qgb t1,qgb t2] at q;exact qx q
theorem ZJ (g:β->α) {xs ys:List α}(h:xs.Perm ys):∀ {l:List β},ys=l.map g->∃ l':List β,l'.Perm l/\xs=l'.map g:=by
 induction h with
 | nil =>
  intro l e;exact⟨l,List.Perm.refl _,e⟩
 | cons x p ih =>
  intro l e;cases l with
  | nil=>cases e
  | cons b l =>
   rw[yb] at e;obtain⟨e1,e2⟩:=List.cons.inj e;obtain⟨l',p',e'⟩:=ih e2;exact⟨b::l',p'.cons b,by rw[yb,e',e1]⟩
 | swap x y l0 =>
  intro l e;match l,e with
  | b::c::l,e =>
   simp only[yb,List.cons.injEq] at e;obtain⟨e1,e2,e3⟩:=e;exact⟨c::b::l,List.Perm.swap _ _ _,by simp[e1,e2,e3]⟩
 | trans p1 p2 ih1 ih2 =>
  intro l e;obtain⟨l',q1,e1⟩:=ih2 e;obtain⟨l'',q2,e2⟩:=ih1 e1;exact⟨l'',q2.trans q1,e2⟩
theorem qhC (hT:PySem.Paired (jl h) vs kss) (hp:xs.Perm (pairsOf vs)) (hs:SdK (kfF h) xs.toList):∃ p,Arr vs.length p/\qlE (ltK kss) p vs.length/\xs=p.map (kas_item (pairsOf vs)):=by
 have y:=kas_range (pairsOf vs);rw[pairsOf_size] at y;have hp:=y7.mp hp;rw[<- y,Array.toList_map] at hp;obtain⟨l,p1,e⟩:=ZJ _ hp rfl;have p1:l.Perm (List.range vs.length):=by simpa using p1
 have hl:l.length=vs.length:=by rw[p1.length_eq,List.length_range]
 refine⟨l.toArray,y7.mpr (by simpa using p1),fun i j hij hj=>?_,Array.toList_inj.mp (by rw[e,Array.toList_map])⟩;have gi:∀ i (hi:i<l.length),gD l.toArray i=l[i]:=fun i hi=>by simp[gD,Array.getD,hi]
 rw[gi i (by lia),gi j (by lia)];have lt:∀ i (hi:i<l.length),l[i]<vs.length:=fun i hi=>yC.mp (p1.mem_iff.mp (ya hi));have key:∀ i (hi:i<l.length),kf h ((kas_item (pairsOf vs) l[i]).1)=kss.getD l[i] []:=fun i hi=>by
  rw[kas_item_eq];exact qgb (Jd hT _ (lt i hi))
 by_cases c:i=j
 .subst c;exact (qf0 fun i=>kss.getD i []).irr _
 .rw [e] at hs;have:=yg.mp hs i j (by simp;lia) (by simp;lia) (by lia);simp only[List.getElem_map] at this;unfold kfF at this;rw[key i (by lia),key j (by lia)] at this;exact this
theorem qeH {P:PySem.Fin->Shared->Prop}(ho:s.heap.get? a=some (seqObj "list" vs.toArray n)) (hT:PySem.Paired (jl s.heap) vs kss) (h64:vs.length<4915)
  (h:∀ p,Arr vs.length p->qlE (ltK kss) p vs.length->P (.done (.ret .none)) { s with heap:=sortedHeap s.heap a vs (qdJ vs p).toArray }) :
  wpAny (model prog w) A (Builtin.«list.sort» ⟨[.ref a],[]⟩) P E s:=by
 rw[list_sort_plain];have hlt:a<s.heap.objs.size:=ql ho;have hn64:vs.length<=sizeLine:=by rw[sizeLine_eq];lia
 refine qa (listItems_at ho rfl (qa (listUpdate_at ho rfl ?_ (by rw[qz];exact hn64) (qZ _))));obtain⟨ep,hc⟩:∃ ep,(s.heap.update a (Obj.mapSeq fun _=>(#[]:Array Value))).get? a=some (seqObj "list" #[] ep):=⟨_,get?_update_seq ho fun _=>#[]⟩;refine qa (seqEpoch_at hc rfl (qa (wpAny_newTuple (qa (wpAny_newList (yf ?_) (qZ _))) (by show vs.length<=_;exact hn64))));generalize hh:((s.heap.update a (Obj.mapSeq fun _=>(#[]:Array Value))).push (seqObj "tuple" vs.toArray 0)).push (seqObj "list" #[] 0)=h6;have at6:h6.get? a=some (seqObj "list" #[] ep):=by
  rw[<- hh];exact qh _ (qh _ hc)
 have old6:∀ b o,s.heap.get? b=some o->b≠a->h6.get? b=some o:=fun b o e ne=>by
  rw[<- hh];refine qh _ (qh _ ?_);rw[ju _ _ _ _ ne];exact e
 have hT6:PySem.Paired (jl h6) vs kss:=Paired.mapP hT fun v ks t=>t.kept fun b o e hcl=>old6 b o e fun z=>by
  subst z;rw[ho] at e;cases e
  exact absurd (show Value.type "list" = Value.type "tuple" from hcl) (by decide)
 have fin6:∀ p,Arr vs.length p->qlE (ltK kss) p vs.length->P (.done (.ret .none)) { s with heap:=h6.update a (Obj.mapSeq fun _=>(qdJ vs p).toArray) }:=fun p hp hs=>by
  have:=h p hp hs;unfold sortedHeap at this;rw[hh] at this;exact this
 show wpAny (model prog w) A _ P E { s with heap:=h6 };dsimp only;have sz:vs.toArray.size=vs.length:=qz ..;have zipE:vs.toArray.zip vs.toArray=pairsOf vs:=rfl;have snd:∀ p,((p.map (kas_item (pairsOf vs))).map (·.2))=(qdJ vs p).toArray:=fun p=>by
  apply Array.toList_inj.mp;simp only[Array.toList_map,y6,qdJ];exact List.map_congr_left fun i _=>by simp[kas_item_eq]
 by_cases c2:vs.toArray.size<2
 .rw [if_pos c2,if_pos c2];refine qa (qe ?_);rw[StateT.run_pure];refine qa (qe ?_);dsimp only;have e0:((vs.toArray.zip vs.toArray).map (·.2))=(qdJ vs (List.range vs.length).toArray).toArray:=by
   have z:=snd (List.range vs.length).toArray;have y:=kas_range (pairsOf vs);rw[pairsOf_size] at y;rw[<- z,y,zipE]
  refine qa (seqEpoch_at at6 rfl (qa (listUpdate_at at6 rfl ?_ (qZ _) ?_)))
  .simp only[bne_self_eq_false,qk,if_false];refine qe ?_;have f0:=fin6 (List.range vs.length).toArray (Array.Perm.refl _) fun i j hij hj=>by
    have:i=j:=by rw[sz] at c2;lia
    subst this;exact (qf0 fun i=>kss.getD i []).irr _
   rw[<- e0] at f0;exact f0
  .show ((vs.toArray.zip vs.toArray).map (·.2)).size<=_;rw[e0,qz,qbl (Array.Perm.refl _)];lia
 .rw [if_neg c2,if_neg c2];refine qa (qga (s:={ s with heap:=h6 }) hT6 (by rw[sz] at c2;lia) ?_);have hD6:∀ x∈(pairsOf vs).toList,∃ ks,jl h6 x.1 ks:=fun x hx=>by
   have y:=kas_range (pairsOf vs);rw[pairsOf_size] at y;rw[<- y,Array.toList_map] at hx;obtain⟨i,hi,rfl⟩:=qF.mp hx;rw[kas_item_eq];exact⟨_,Jd hT6 i (by simpa using hi)⟩
  have run:=ZU (prog:=prog) (w:=w) (A:=A) (E:=E) (s:={ s with heap:=h6 }) (st:=SortSt.mk' (tuples' true) (pairsOf vs) #[] 7 none) (a0:=pairsOf vs)
   (Q:=fun _ st'=>∃ p,Arr vs.length p/\qlE (ltK kss) p vs.length/\arrOf st'=p.map (kas_item (pairsOf vs))/\failedOf st'=none)
   (qdI (s:={ s with heap:=h6 })) (qje h6) rfl rfl rfl rfl hD6 (by rw[pairsOf_size];rw[sz] at c2;lia) (fun st' hp hf hs=>by
    obtain⟨p,p1,p2,p3⟩:=qhC hT6 hp hs;exact⟨p,p1,p2,p3,hf⟩)
  refine qa (qP (show wpAny (model prog w) A (sortRuns'.run _) _ E _ from run) ?_ fun _ _ e=>e);rintro⟨⟨⟩,st'⟩ s' ⟨rfl,p,hp,hs,e1,e2⟩;dsimp only;refine qa (seqEpoch_at at6 rfl (qa (listUpdate_at at6 rfl ?_ (qZ _) ?_)))
  .rw [e2];simp only[bne_self_eq_false,qk,if_false];refine qe ?_;rw[e1,snd p];exact fin6 p hp hs
  .show ((arrOf st').map (·.2)).size<=_;rw[e1,snd p,qz,qbl hp];lia
end L2
namespace L2
open W
abbrev Yb (h h':Heap):Prop:=∀ b o,h.get? b=some o->h'.get? b=some o
def qnI (s:Shared) (R:List Value->List (List Int)->Prop) (vs:List Value) (s1:Shared):Prop :=
 ∃ h1 tk kss,s1={ s with heap:=h1,toks:=tk }/\Yb s.heap h1/\PySem.Paired (jl h1) vs kss/\vs.length<4915/\R vs kss
theorem qeG {x:Value}{R:List Value->List (List Int)->Prop}{Q:Value->Shared->Prop}(hcol:∀ E',wpAny (model prog w) A.in1 (collect x) (qnI s R) E' s)
  (h:∀ vs kss p h' tk D e,R vs kss->Arr vs.length p->qlE (ltK kss) p vs.length->PySem.Paired (jl h') vs kss->vs.length<4915->Yb s.heap h'->s.heap.get? D=none->h'.get? D=some (seqObj "list" (qdJ vs p).toArray e)->Q (.ref D) { s with heap:=h',toks:=tk }) :
  wpAny (model prog w) A (call (.builtin "sorted") [x]) Q E s:=by
 refine Calls.call_function_entry kind_sorted plain_sorted entry_sorted (args_sorted1 _) ?_;unfold Builtin.«sorted»;refine qa (m:=checkCount "sorted" 1 1 _) (qe (qa ?_));refine qP (hcol _) (fun vs s1 ⟨h1,tk,kss,e1,kp,hT,h64,hR⟩=>?_) fun _ _ z=>z;subst e1;have hn64:vs.length<=sizeLine:=by rw[sizeLine_eq];lia
 refine qa (wpAny_newList ?_ hn64);have hD:(h1.push (seqObj "list" vs.toArray 0)).get? h1.objs.size=some (seqObj "list" vs.toArray 0):=qA _ rfl;have hT2:PySem.Paired (jl (h1.push (seqObj "list" vs.toArray 0))) vs kss:=Paired.mapP hT fun v ks t=>t.kept fun b o e _=>qh _ e;refine qa (yf (jC slot_list_sort ⟨_,hD,rfl⟩ entry_list_sort (qeH (s:={ s with heap:=h1.push (seqObj "list" vs.toArray 0),toks:=tk }) hD hT2 h64 fun p hp hs=>⟨_,rfl,?_⟩) (args_list_sort _)));obtain⟨e,he⟩:=sortedHeap_at (vs:=vs) (out:=(qdJ vs p).toArray) hD;have kp2:Yb h1 (sortedHeap (h1.push (seqObj "list" vs.toArray 0)) h1.objs.size vs (qdJ vs p).toArray):=fun b o q1=>by
  have hlt:b<h1.objs.size:=ql q1;rw[sortedHeap_old (qp hlt) (by rw[size_push'];exact Nat.lt_succ_of_lt hlt)];exact qh _ q1
 refine qe ⟨_,rfl,h vs kss p _ tk h1.objs.size e hR hp hs (Paired.mapP hT fun v ks t=>t.kept fun b o e _=>kp2 b o e) h64 (fun b o q=>kp2 b o (kp b o q)) ?_ he⟩
 .cases z:s.heap.get? h1.objs.size with
  | none=>rfl
  | some o =>
   have:=ql (kp _ _ z);exact absurd this (yz _)
end L2
namespace L2
open PySem PySem.SetTable
variable {q:Nat}
def adv (m:Nat) (p:Probe):Probe :=
 if p.more > 0 then { p with j:=p.j+1,more:=p.more - 1 } else
 { p with j:=(leap m p.i p.perturb).1,more:=runEnd m (leap m p.i p.perturb).1 - (leap m p.i p.perturb).1,i:=(leap m p.i p.perturb).1,perturb:=(leap m p.i p.perturb).2 }
theorem qej (t:SetTable) (p:Probe):t.advance p=adv t.mask p:=rfl
def at0 (m i e:Nat):Probe:={ j:=i,more:=runEnd m i - i,i:=i,perturb:=e,dummy:=none }
def stp (m:Nat) (h:Int):Nat->Probe
 | 0=>at0 m (bits h % (m+1)) (bits h)
 | k+1=>adv m (stp m h k)
theorem qc0 (t:SetTable) (h:Int):t.probeStart h=stp t.mask h 0:=rfl
theorem qbz (m:Nat) (h:Int):∀ k,(stp m h k).dummy=none
 | 0=>rfl
 | k+1=>by
  have:=qbz m h k;simp only[stp,adv];split <;> simpa using this
def lp (m:Nat) (h:Int):Nat->Nat×Nat
 | 0=>(bits h % (m+1),bits h)
 | L+1=>leap m (lp m h L).1 (lp m h L).2
theorem qe7 {h:Int}{e:Nat}(h0:stp m h k=at0 m i e):∀ r,r<=runEnd m i - i->stp m h (k+r)={ j:=i+r,more:=runEnd m i - i - r,i:=i,perturb:=e,dummy:=none }
 | 0,_=>h0
 | r+1,hr=>by
  have ih:=qe7 h0 r (by lia);show adv m (stp m h (k+r))=_;rw[ih];unfold adv;rw[if_pos (show runEnd m i - i - r > 0 by lia)];simp only[Probe.mk.injEq,true_and,and_true];lia
theorem qiY {h:Int}{e:Nat}(h0:stp m h k=at0 m i e):stp m h (k+(runEnd m i - i)+1)=at0 m (leap m i e).1 (leap m i e).2:=by
 have ih:=qe7 h0 (runEnd m i - i) (qo _);show adv m (stp m h (k+(runEnd m i - i)))=_;rw[ih];unfold adv;rw[if_neg (show ¬ runEnd m i - i - (runEnd m i - i) > 0 by lia)];rfl
theorem qjW (m i:Nat):runEnd m i - i<=9:=by unfold runEnd;split <;> lia
theorem qiZ (m:Nat) (h:Int):∀ L,∃ k,k<=10 * L/\stp m h k=at0 m (lp m h L).1 (lp m h L).2
 | 0=>⟨0,qo _,rfl⟩
 | L+1=>by
  obtain⟨k,hk,e⟩:=qiZ m h L;have:=qjW m (lp m h L).1;exact⟨_,by lia,qiY e⟩
def lcg (M i:Nat):Nat:=(i * 5+1) % M
def itn (M:Nat):Nat->Nat->Nat
 | 0,i=>i
 | n+1,i=>lcg M (itn M n i)
theorem qa5 (M:Nat) (i:Nat):∀ a b,itn M (b+a) i=itn M b (itn M a i)
 | a,0=>by rw[Nat.zero_add];rfl
 | a,b+1=>by
  rw[show b+1+a=(b+a)+1 by lia];show lcg M (itn M (b+a) i)=lcg M (itn M b (itn M a i));rw[qa5 M i a b]
structure Full (m:Nat):Prop where
 all:∀ q,q<=m->∃ b,b<=m/\itn (m+1) b 0=q
 back:itn (m+1) (m+1) 0=0
theorem Full.go (F:Full m) (hi:i<=m) (hq:q<=m):∃ b,b<=m/\itn (m+1) b i=q:=by
 obtain⟨x,hx,rfl⟩:=F.all i hi;obtain⟨y,hy,rfl⟩:=F.all q hq;by_cases c:x<=y
 .exact ⟨y - x,by lia,by rw[<- qa5,show y - x+x=y by lia]⟩
 .refine ⟨y+(m+1) - x,by lia,?_⟩;rw[<- qa5,show y+(m+1) - x+x=y+(m+1) by lia,qa5,F.back]
theorem qf1 (m:Nat) (h:Int):∀ L,(lp m h L).2=bits h / 32 ^ L
 | 0=>by simp[lp]
 | L+1=>by
  show (lp m h L).2 / 32=_;rw[qf1 m h L,Nat.div_div_eq_div_mul,Nat.pow_succ]
theorem qlr (h:Int):bits h<18446744073709551616:=by
 unfold bits;have:=Int.emod_lt_of_pos h (show (0:Int)<2 ^ 64 by decide);have:=Int.emod_nonneg h (show (2 ^ 64:Int)≠0 by decide);lia
theorem lp_le (m:Nat) (h:Int):∀ L,(lp m h L).1<=m
 | 0=>by
  have:=Nat.mod_lt (bits h) (show 0<m+1 by lia);show bits h % (m+1)<=m;lia
 | L+1=>by
  show ((lp m h L).1 * 5+1+(lp m h L).2 / 32) % (m+1)<=m;have:=Nat.mod_lt ((lp m h L).1 * 5+1+(lp m h L).2 / 32) (show 0<m+1 by lia);lia
theorem qf2 (m:Nat) (h:Int):∀ b,(lp m h (12+b)).1=itn (m+1) b (lp m h 12).1
 | 0=>rfl
 | b+1=>by
  have ih:=qf2 m h b;show ((lp m h (12+b)).1 * 5+1+(lp m h (12+b)).2 / 32) % (m+1)=lcg (m+1) (itn (m+1) b (lp m h 12).1);rw[<- ih];have hb:=qlr h;have z:(lp m h (12+b)).2 / 32=0:=by
   rw[qf1,Nat.div_div_eq_div_mul];apply Nat.div_eq_of_lt;have:(32:Nat) ^ (12+b)=32 ^ 12 * 32 ^ b:=Nat.pow_add ..;rw[this];have p1:1<=32 ^ b:=Nat.one_le_pow _ _ (by decide);have:(32:Nat) ^ 12 * 1<=32 ^ 12 * 32 ^ b:=Nat.mul_le_mul_left _ p1;have e12:(32:Nat) ^ 12=1152921504606846976:=by decide
   lia
  rw[z];rfl
theorem Full.lp (F:Full m) (h:Int) (hq:q<=m):∃ L,L<=m+12/\(lp m h L).1=q:=by
 obtain⟨b,hb,e⟩:=F.go (lp_le m h 12) hq;exact⟨12+b,by lia,by rw[qf2,e]⟩
theorem Full.walk (F:Full m) (h:Int) (hq:q<=m):∃ k,k<=10 * (m+12)/\(stp m h k).j=q:=by
 obtain⟨L,hL,e⟩:=F.lp h hq;obtain⟨k,hk,e2⟩:=qiZ m h L;exact⟨k,by lia,by rw[e2];exact e⟩
theorem qiE (m:Nat) (h:Int) (k:Nat):(stp m h k).j<=m:=by
 have key:∀ k,(stp m h k).i<=m/\(stp m h k).j+(stp m h k).more<=m:=by
  intro k;induction k with
  | zero =>
   have:=Nat.mod_lt (bits h) (show 0<m+1 by lia);refine⟨by show bits h % (m+1)<=m;lia,?_⟩;show bits h % (m+1)+(runEnd m (bits h % (m+1)) - bits h % (m+1))<=m;unfold runEnd;split <;> lia
  | succ k ih =>
   obtain⟨h1,h2⟩:=ih;show (adv m (stp m h k)).i<=m/\(adv m (stp m h k)).j+(adv m (stp m h k)).more<=m;unfold adv;split
   .exact ⟨h1,by simp only;lia⟩
   .have:=Nat.mod_lt ((stp m h k).i * 5+1+(stp m h k).perturb / 32) (show 0<m+1 by lia);have e:(leap m (stp m h k).i (stp m h k).perturb).1=((stp m h k).i * 5+1+(stp m h k).perturb / 32) % (m+1):=rfl;simp only[e];refine⟨by lia,?_⟩;unfold runEnd;split <;> lia
 have:=(key k).2;lia
def chk (m:Nat):Bool:=(List.range (m+1)).all (fun q=>(List.range (m+1)).any fun b=>itn (m+1) b 0 == q) && itn (m+1) (m+1) 0 == 0
theorem qgq (h:chk m=true):Full m:=by
 unfold chk at h;rw[ym] at h;obtain⟨h1,h2⟩:=h;refine⟨fun q hq=>?_,by simpa using h2⟩;have:=List.all_eq_true.mp h1 q (yC.mpr (by lia));obtain⟨b,hb,e⟩:=List.any_eq_true.mp this;exact⟨b,by have:=yC.mp hb;lia,by simpa using e⟩
theorem full7:Full 7:=qgq (by decide +kernel)
theorem qna:Full 31:=qgq (by decide +kernel)
end L2
namespace L2
open PySem PySem.SetTable
variable {xs:Array Nat}{t:SetTable}{hashAt:Nat->Int}{p:Nat}
def S5:Nat->Nat
 | 0=>0
 | n+1=>5 * S5 n+1
theorem qjD (a b:Nat):S5 (a+b)=5 ^ b * S5 a+S5 b:=by
 induction b with
 | zero=>simp[S5]
 | succ b ih =>
  rw[<- Nat.add_assoc];show 5 * S5 (a+b)+1=5 ^ (b+1) * S5 a+(5 * S5 b+1);rw[ih,Nat.pow_succ];grind
theorem p5 (e:Nat):∃ q,5 ^ e+1=2 * (2 * q+1):=by
 induction e with
 | zero=>exact⟨0,rfl⟩
 | succ e ih =>
  obtain⟨q,hq⟩:=ih;refine⟨5 * q+1,?_⟩;rw[Nat.pow_succ];lia
theorem qgY (e:Nat):S5 (2 * e)=(5 ^ e+1) * S5 e:=by
 rw[show 2 * e=e+e by lia,qjD];grind
theorem qnF (e:Nat):S5 (2 * e+1) % 2=1:=by
 show (5 * S5 (2 * e)+1) % 2=1;obtain⟨q,hq⟩:=p5 e;rw[qgY,hq,Nat.mul_assoc];lia
theorem qjC:∀ (k d:Nat),2 ^ k ∣ S5 d->2 ^ k ∣ d
 | 0,d,_=>by simp
 | k+1,d,h=>by
  have hev:d % 2=0:=by
   apply Nat.eq_zero_of_not_pos;intro z;have hd:d=2 * (d / 2)+1:=by lia
   have h2:2 ∣ S5 d:=Nat.dvd_trans ⟨2 ^ k,by rw[Nat.pow_succ];lia⟩ h;rw[hd] at h2;have:=qnF (d / 2);lia
  obtain⟨e,rfl⟩:∃ e,d=2 * e:=⟨d / 2,by lia⟩;obtain⟨q,hq⟩:=p5 e;rw[qgY,hq,Nat.pow_succ,Nat.mul_comm (2 ^ k),Nat.mul_assoc] at h;have h3:=Nat.dvd_of_mul_dvd_mul_left (by decide) h;have co:Nat.Coprime (2 ^ k) (2 * q+1):=Nat.Coprime.pow_left _ (by
   unfold Nat.Coprime;rw[Nat.gcd_rec];simp[Nat.add_mod])
  have h4:=qjC k e (co.dvd_of_dvd_mul_left h3);rw[Nat.pow_succ,Nat.mul_comm];exact Nat.mul_dvd_mul_left 2 h4
theorem qjB:∀ k,2 ^ k ∣ S5 (2 ^ k)
 | 0=>by simp
 | k+1=>by
  obtain⟨q,hq⟩:=p5 (2 ^ k);rw[Nat.pow_succ,Nat.mul_comm (2 ^ k) 2,qgY,hq,Nat.mul_assoc];exact Nat.mul_dvd_mul_left 2 (Nat.dvd_trans (qjB k) (Nat.dvd_mul_left _ _))
theorem qjh (M:Nat):∀ b,itn M b 0 % M=S5 b % M
 | 0=>rfl
 | b+1=>by
  show (itn M b 0 * 5+1) % M % M=(5 * S5 b+1) % M;rw[Nat.mod_mod,Nat.add_mod,Nat.mul_mod,qjh M b,<- Nat.mul_mod,<- Nat.add_mod,Nat.mul_comm]
theorem qjg {M:Nat}(hM:0<M):∀ b,itn M b 0<M
 | 0=>hM
 | b+1=>Nat.mod_lt _ hM
theorem qnG {a b:Nat}(hab:a<=b) (hb:b<2 ^ k) (h:S5 a % 2 ^ k=S5 b % 2 ^ k):a=b:=by
 obtain⟨d,rfl⟩:∃ d,b=d+a:=⟨b - a,by lia⟩;rw[qjD] at h;have h1:2 ^ k ∣ 5 ^ a * S5 d:=by
  have:=Nat.sub_mod_eq_zero_of_mod_eq h.symm;rw[Nat.add_sub_cancel] at this;exact Nat.dvd_of_mod_eq_zero this
 have co:Nat.Coprime (2 ^ k) (5 ^ a):=Nat.Coprime.pow _ _ (by decide);have h2:=qjC k d (co.dvd_of_dvd_mul_left h1);have:d=0:=Nat.eq_zero_of_dvd_of_lt h2 (by lia);lia
theorem qfP:∀ {n:Nat}{l:List Nat},l.Nodup->(∀ x∈l,x<n)->l.length=n->∀ q,q<n->q∈l:=fun {n l} h1 h2 h3 q hq=>by
 have hp:l.Perm (List.range n):=by
  have sub:∀ (l r:List Nat),l.Nodup->(∀ x∈l,x∈r)->∃ r',(l++r').Perm r:=by
   intro l;induction l with
   | nil=>exact fun r _ _=>⟨r,List.Perm.refl _⟩
   | cons a l ih =>
    intro r hn hs;have ha:=hs a qi;obtain⟨r',hr'⟩:=ih (r.erase a) (yx.mp hn).2 (fun x hx=>by
     have:x≠a:=fun z=>(yx.mp hn).1 (z ▸ hx);exact (List.mem_erase_of_ne this).mpr (hs x (qd _ hx)))
    exact⟨r',(hr'.cons a).trans (List.perm_cons_erase ha).symm⟩
  obtain⟨r',hr'⟩:=sub l (List.range n) h1 fun x hx=>yC.mpr (h2 x hx);have:=hr'.length_eq;rw[qv,List.length_range] at this;have:r'=[]:=List.eq_nil_of_length_eq_zero (by lia);rw[this,jt] at hr';exact hr'
 exact hp.mem_iff.mpr (yC.mpr hq)
theorem ZQ (k m:Nat) (hm:m+1=2 ^ k):Full m:=by
 have hM:0<2 ^ k:=by lia
 have red:∀ b,itn (2 ^ k) b 0=S5 b % 2 ^ k:=fun b=>by
  have:=qjh (2 ^ k) b;rwa[Nat.mod_eq_of_lt (qjg hM b)] at this
 refine⟨fun q hq=>?_,?_⟩
 .have hnd:((List.range (2 ^ k)).map fun b=>itn (2 ^ k) b 0).Nodup:=by
   refine jc.mpr (yg.mpr fun i j hi hj hij z=>?_);rw[List.length_range] at hi hj;rw[List.getElem_range,List.getElem_range,red,red] at z;have:=qnG (yn hij) hj z;lia
  have:=qfP hnd (fun x hx=>by
   obtain⟨b,_,rfl⟩:=qF.mp hx;exact qjg hM b) (by simp) q (by lia)
  obtain⟨b,hb,e⟩:=qF.mp this;have:=yC.mp hb;exact⟨b,by lia,by rw[hm];exact e⟩
 .rw [hm,red];exact Nat.mod_eq_zero_of_dvd (qjB k)
theorem qkU:Full 127:=ZQ 7 127 (by decide)
theorem qkT:Full 511:=ZQ 9 511 (by decide)
theorem qh9:Full 2047:=ZQ 11 2047 (by decide)
theorem qh8:Full 8191:=ZQ 13 8191 (by decide)
def qjE (xs:Array Nat):Prop:=∀ i j,i<j->j<xs.size->xs.getD i 0<xs.getD j 0
theorem getD_some {d:Nat}(h:i<xs.size):xs[i]?=some (xs.getD i d):=by simp[Array.getD,h]
theorem qbj (hr:qjE xs):∀ (fu lo hi:Nat),lo<=hi->hi<=xs.size->hi - lo<=fu->(∀ i,i<lo->xs.getD i 0<j)->(∀ i,hi<=i->i<xs.size->j<=xs.getD i 0) →
  (∀ i,i<below.go xs j fu lo hi->xs.getD i 0<j)/\(∀ i,below.go xs j fu lo hi<=i->i<xs.size->j<=xs.getD i 0)/\below.go xs j fu lo hi<=xs.size
 | 0,lo,hi,h1,h2,h3,h4,h5=>by
  have:lo=hi:=by lia
  subst this;exact⟨h4,h5,h2⟩
 | fu+1,lo,hi,h1,h2,h3,h4,h5=>by
  unfold below.go;by_cases c:lo<hi
  .rw [if_pos c];dsimp only;have hm:(lo+hi) / 2<xs.size:=by lia
   have e:xs.getD ((lo+hi) / 2) j=xs.getD ((lo+hi) / 2) 0:=by simp[Array.getD,hm]
   rw[e];by_cases d:xs.getD ((lo+hi) / 2) 0<j
   .rw [if_pos d];refine qbj hr fu _ hi (by lia) h2 (by lia) (fun i hi'=>?_) h5;by_cases q:i=(lo+hi) / 2
    .subst q;exact d
    .exact yJ (hr i ((lo+hi) / 2) (by lia) hm) d
   .rw [if_neg d];refine qbj hr fu lo _ (by lia) (by lia) (by lia) h4 fun i hi' hlt=>?_;by_cases q:i=(lo+hi) / 2
    .subst q;lia
    .have:=hr ((lo+hi) / 2) i (by lia) hlt;lia
  .rw [if_neg c];have:lo=hi:=by lia
   subst this;exact⟨h4,h5,h2⟩
theorem Ya (hr:qjE xs) (j:Nat):(∀ i,i<below xs j->xs.getD i 0<j)/\(∀ i,below xs j<=i->i<xs.size->j<=xs.getD i 0)/\below xs j<=xs.size :=
 qbj hr xs.size 0 xs.size (qZ _) (qo _) (by lia) (fun i z=>absurd z (by lia)) fun i a b=>absurd b (by lia)
theorem qbk (hr:qjE xs) (h:xs[i]?=some j):below xs j=i:=by
 obtain⟨h1,h2,h3⟩:=Ya hr j;have hi:i<xs.size:=by
  rcases Nat.lt_or_ge i xs.size with z | z
  .exact z
  .rw [yu z] at h;cases h
 have e:xs.getD i 0=j:=by
  have:=getD_some (d:=0) hi;rw[h] at this;exact (Option.some.inj this).symm
 rcases Nat.lt_trichotomy (below xs j) i with z | z | z
 .have a:=h2 (below xs j) (qo _) (by lia);have b:=hr (below xs j) i z hi;lia
 .exact z
 .have:=h1 i z;lia
theorem qhq (hr:qjE xs) {i':Nat}(h:xs[i]?=some j) (h':xs[i']?=some j):i=i':=(qbk hr h).symm.trans (qbk hr h')
structure Tab (t:SetTable) (m n:Nat):Prop where
 mask:t.mask=m
 dm:t.dummies=#[]
 size:t.place.size=n
 rise:qjE t.place
 le:∀ i j:Nat,t.place[i]?=some j->j<=m
def Fl (t:SetTable) (j:Nat):Prop:=∃ i:Nat,t.place[i]?=some j
theorem qgm (j:Nat):has #[] j=false:=by simp[has]
theorem Tab.live (T:Tab t m n) (h:t.place[i]?=some j):t.slot j = .live i:=by
 unfold slot;have e:=qbk T.rise h;simp only[e,h,beq_self_eq_true,if_true]
theorem Tab.empty (T:Tab t m n) (h:¬ Fl t j):t.slot j = .empty:=by
 unfold slot;have e:(t.place[below t.place j]? == some j)=false:=by
  rw[Bool.eq_false_iff];intro z;exact h ⟨_,by simpa using z⟩
 simp only[e,T.dm,qgm,qk,if_false]
theorem Tab.free (T:Tab t m n) (hn:n<=m):∃ q,q<=m/\¬ Fl t q:=by
 refine Classical.byContradiction fun hc=>?_;have all:∀ q,q<=m->Fl t q:=fun q hq=>Classical.byContradiction fun z=>hc ⟨q,hq,z⟩;have sub:List.range (m+1) ⊆ t.place.toList:=fun q hq=>by
  obtain⟨i,e⟩:=all q (by have:=yC.mp hq;lia);exact List.mem_of_getElem? (by rw[qy];exact e)
 have:=List.Nodup.length_le_of_subset List.nodup_range sub;rw[List.length_range,qD,T.size] at this;lia
theorem Tab.probe_go (T:Tab t m n) {h:Int}{K:Nat}(hK:¬ Fl t (stp m h K).j):∀ (fu k:Nat),k<=K->K - k<fu →
  ∃ x,k<=x/\x<=K/\(∀ l,k<=l->l<x->∃ i:Nat,t.place[i]?=some (stp m h l).j/\hashAt i≠h) ∧
   ((¬ Fl t (stp m h x).j/\probe.go t hashAt h fu (stp m h k)=some (.empty (stp m h x).j none)) ∨
    ∃ i:Nat,t.place[i]?=some (stp m h x).j/\hashAt i=h/\probe.go t hashAt h fu (stp m h k)=some (.candidate (stp m h x).j i (stp m h (x+1))))
 | 0,k,_,z=>absurd z (by lia)
 | fu+1,k,hk,hf=>by
  unfold probe.go;by_cases c:Fl t (stp m h k).j
  .obtain ⟨i,e⟩:=id c;rw[T.live e];dsimp only;have adv1:t.advance (stp m h k)=stp m h (k+1):=by rw[qej,T.mask];rfl
   by_cases d:hashAt i=h
   .refine ⟨k,qo _,hk,fun l a b=>absurd b (by lia),.inr ⟨i,e,d,?_⟩⟩;rw[if_pos (by rw[d];exact beq_self_eq_true _),adv1]
   .rw [if_neg (by simpa using d),adv1];have hne:k≠K:=fun z=>hK (z ▸ c);obtain⟨x,x1,x2,x3,x4⟩:=T.probe_go hK fu (k+1) (by lia) (by lia);refine⟨x,by lia,x2,fun l a b=>?_,x4⟩;by_cases q:l=k
    .subst q;exact⟨i,e,d⟩
    .exact x3 l (by lia) b
  .rw [T.empty c];dsimp only;exact⟨k,qo _,hk,fun l a b=>absurd b (by lia),.inl ⟨c,by rw[qbz]⟩⟩
theorem jr {xs:Array α}{x:α}(hp:p<=xs.size) (i:Nat):(insertAt xs p x)[i]?=if i<p then xs[i]? else if i=p then some x else xs[i - 1]?:=by
 unfold insertAt;have s1:((xs.extract 0 p).push x).size=p+1:=by simp[Array.size_push,Array.size_extract];lia
 have s0:(xs.extract 0 p).size=p:=by simp[Array.size_extract];lia
 rw[Array.getElem?_append,s1];by_cases c:i<p
 .rw [if_pos (by lia),if_pos c,Array.getElem?_push,s0,if_neg (by lia),Array.getElem?_extract,if_pos (by lia),Nat.zero_add]
 .rw [if_neg c];by_cases d:i=p
  .subst d;rw[if_pos (by lia),if_pos rfl,Array.getElem?_push,s0,if_pos rfl]
  .rw [if_neg d,if_neg (by lia),Array.getElem?_extract];by_cases e:i - 1<xs.size
   .rw [if_pos (by lia)];congr 1;lia
   .rw [if_neg (by lia),yu (by lia)]
theorem ZP {xs:Array α}{x:α}(hp:p<=xs.size):(insertAt xs p x).size=xs.size+1:=by
 unfold insertAt;simp[Array.size_extract];lia
def AtS (place:Array Nat) (es:Array α) (j:Nat) (e:α):Prop:=∃ i:Nat,place[i]?=some j/\es[i]?=some e
theorem qm8 {place:Array Nat}{es:Array α}{j':Nat}{e e':α}(hp:p<=place.size) (hq:p<=es.size):AtS (insertAt place p j) (insertAt es p e) j' e' ↔ AtS place es j' e'\/(j'=j/\e'=e):=by
 constructor
 .rintro ⟨i,h1,h2⟩;rw[jr hp] at h1;rw[jr hq] at h2;by_cases c:i<p
  .rw [if_pos c] at h1 h2;exact .inl ⟨i,h1,h2⟩
  .rw [if_neg c] at h1 h2;by_cases d:i=p
   .rw [if_pos d] at h1 h2;exact .inr ⟨(Option.some.inj h1).symm,(Option.some.inj h2).symm⟩
   .rw [if_neg d] at h1 h2;exact .inl ⟨i - 1,h1,h2⟩
 .rintro (⟨i,h1,h2⟩ | ⟨rfl,rfl⟩)
  .by_cases c:i<p
   .exact ⟨i,by rw[jr hp,if_pos c];exact h1,by rw[jr hq,if_pos c];exact h2⟩
   .exact ⟨i+1,by rw[jr hp,if_neg (by lia),if_neg (by lia)];exact h1,by rw[jr hq,if_neg (by lia),if_neg (by lia)];exact h2⟩
  .exact ⟨p,by rw[jr hp,if_neg (by lia),if_pos rfl],by rw[jr hq,if_neg (by lia),if_pos rfl]⟩
theorem qhp (hr:qjE xs) (hj:¬ ∃ i:Nat,xs[i]?=some j):qjE (insertAt xs (below xs j) j):=by
 obtain⟨h1,h2,h3⟩:=Ya hr j;have val:∀ i,i<xs.size+1->(insertAt xs (below xs j) j).getD i 0=if i<below xs j then xs.getD i 0 else if i=below xs j then j else xs.getD (i - 1) 0:=fun i hi=>by
  have e:=jr (x:=j) h3 i;simp only[Array.getD_eq_getD_getElem?,e];split
  .rfl
  .split <;> rfl
 have gt:∀ i,below xs j<=i->i<xs.size->j<xs.getD i 0:=fun i a b=>by
  have:=h2 i a b;have ne:xs.getD i 0≠j:=fun z=>hj ⟨i,by rw[getD_some (d:=0) b,z]⟩;lia
 intro a b hab hb;rw[ZP h3] at hb;rw[val a (by lia),val b hb];by_cases b1:b<below xs j
 .rw [if_pos b1,if_pos (by lia)];exact hr a b hab (by lia)
 .rw [if_neg b1];by_cases b2:b=below xs j
  .rw [if_pos b2,if_pos (by lia)];exact h1 a (by lia)
  .rw [if_neg b2];by_cases a1:a<below xs j
   .rw [if_pos a1];exact hr a (b - 1) (by lia) (by lia)
   .rw [if_neg a1];by_cases a2:a=below xs j
    .rw [if_pos a2];exact gt (b - 1) (by lia) (by lia)
    .rw [if_neg a2];exact hr (a - 1) (b - 1) (by lia) (by lia)
theorem Tab.put (T:Tab t m n) (hj:¬ Fl t j) (hm:j<=m):Tab (t.put j).1 m (n+1)/\(t.put j).2=below t.place j/\(t.put j).1.place=insertAt t.place (below t.place j) j:=by
 obtain⟨h1,h2,h3⟩:=Ya T.rise j;refine⟨⟨T.mask,?_,?_,qhp T.rise hj,fun i j' e=>?_⟩,rfl,rfl⟩
 .show (if has t.dummies j=true then _ else t.dummies)=#[];rw[T.dm,qgm,if_neg (by simp)]
 .show (insertAt t.place (below t.place j) j).size=n+1;rw[ZP h3,T.size]
 .have e:(insertAt t.place (below t.place j) j)[i]?=some j':=e;rw[jr h3] at e;split at e
  .exact T.le _ _ e
  .split at e
   .rw [<- Option.some.inj e];exact hm
   .exact T.le _ _ e
end L2
namespace L2
open PySem PySem.SetTable
def Rch (fl:Nat->Prop) (m:Nat) (h:Int) (j:Nat):Prop:=∃ k,(stp m h k).j=j/\∀ l,l<k->fl (stp m h l).j
theorem Rch.mono {fl fl':Nat->Prop}{h:Int}(f:∀ q,fl q->fl' q) (r:Rch fl m h j):Rch fl' m h j:=by
 obtain⟨k,e,a⟩:=r;exact⟨k,e,fun l hl=>f _ (a l hl)⟩
structure SetI {α:Type}(t:SetTable) (es:Array (Int×α)) (m n:Nat):Prop where
 tab:Tab t m n
 sz:es.size=n
 rch:∀ (j:Nat) (e:Int×α),AtS t.place es j e->Rch (Fl t) m e.1 j
def fO (owner:Array (Option Nat)) (j:Nat):Prop:=(owner.getD j (some 0)).isSome=true
theorem qgr {h:Int}:∀ (fu L k0:Nat),stp m h k0=at0 m (lp m h L).1 (lp m h L).2->(∀ l,l<k0->fO owner (stp m h l).j)->(∃ L',L<=L'/\L'<L+fu/\¬ fO owner (lp m h L').1) →
  ∃ j,layClean.free m owner fu (lp m h L).1 (lp m h L).2=some j/\¬ fO owner j/\Rch (fO owner) m h j
 | 0,L,k0,_,_,⟨L',a,b,_⟩=>absurd b (by lia)
 | fu+1,L,k0,hk,hf,⟨L',a,b,c⟩=>by
  unfold layClean.free;have ri:=qe7 hk;cases hfind:(List.range (runEnd m (lp m h L).1+1 - (lp m h L).1)).find? fun k=>(owner.getD ((lp m h L).1+k) (some 0)).isNone with
  | some kk =>
   obtain⟨p1,p2,p3⟩:=List.find?_range_eq_some.mp hfind;have hkk:=yC.mp p2;refine⟨(lp m h L).1+kk,rfl,fun z=>?_,k0+kk,by rw[ri kk (by lia)],fun l hl=>?_⟩
   .unfold fO at z;rw[Option.isNone_iff_eq_none.mp p1] at z;cases z
   .by_cases d:l<k0
    .exact hf l d
    .obtain ⟨r,rfl⟩:∃ r,l=k0+r:=⟨l - k0,by lia⟩;rw[ri r (by lia)];have:=p3 r (by lia);unfold fO;rw[Bool.not_eq_true',Option.isNone_eq_false_iff] at this;exact this
  | none =>
   have pn:=List.find?_eq_none.mp hfind;have fil:∀ r,r<=runEnd m (lp m h L).1 - (lp m h L).1->fO owner ((lp m h L).1+r):=fun r hr=>by
    have hge:(lp m h L).1<=runEnd m (lp m h L).1:=by unfold runEnd;split <;> lia
    have:=pn r (yC.mpr (by lia));unfold fO;rw[Bool.not_eq_true,Option.isNone_eq_false_iff] at this;exact this
   have hne:L'≠L:=by
    rintro rfl;exact c (by simpa using fil 0 (qZ _))
   refine qgr fu (L+1) (k0+(runEnd m (lp m h L).1 - (lp m h L).1)+1) (qiY hk) (fun l hl=>?_) ⟨L',by lia,by lia,c⟩;by_cases d:l<k0
   .exact hf l d
   .obtain ⟨r,rfl⟩:∃ r,l=k0+r:=⟨l - k0,by lia⟩;rw[ri r (by lia)];exact fil r (by lia)
structure OW (m:Nat) (hs:Nat->Int) (owner:Array (Option Nat)) (k:Nat):Prop where
 sz:owner.size=m+1
 own:∀ j i:Nat,owner[j]?=some (some i)->i<k/\Rch (fO owner) m (hs i) j
 ex:∀ i,i<k->∃ j:Nat,owner[j]?=some (some i)
 inj:∀ j j' i:Nat,owner[j]?=some (some i)->owner[j']?=some (some i)->j=j'
def qlz (m:Nat) (owner:Array (Option Nat)):List Nat:=(List.range (m+1)).filterMap fun j=>owner.getD j none
theorem Zf : owner.getD j none=some i ↔ owner[j]?=some (some i):=by
 rw[Array.getD_eq_getD_getElem?];cases owner[j]? with
 | none=>simp
 | some o=>simp
theorem OW.nodup (W:OW m hs owner k):(qlz m owner).Nodup:=by
 refine List.Pairwise.filterMap _ (fun a a' hne b e b' e' z=>?_) List.nodup_range;subst z;exact hne (W.inj _ _ _ (Zf.mp e) (Zf.mp e'))
theorem OW.len (W:OW m hs owner k):(qlz m owner).length=k:=by
 apply Nat.le_antisymm
 .have sub:qlz m owner ⊆ List.range k:=fun i hi=>by
   obtain⟨j,_,e⟩:=yD.mp hi;exact yC.mpr (W.own j i (Zf.mp e)).1
  have:=List.Nodup.length_le_of_subset W.nodup sub;rwa[List.length_range] at this
 .have sub:List.range k ⊆ qlz m owner:=fun i hi=>by
   obtain⟨j,e⟩:=W.ex i (yC.mp hi);have hj:j<owner.size:=by
    rcases Nat.lt_or_ge j owner.size with z | z
    .exact z
    .rw [yu z] at e;cases e
   exact yD.mpr ⟨j,yC.mpr (by rw[W.sz] at hj;exact hj),Zf.mpr e⟩
  have:=List.Nodup.length_le_of_subset List.nodup_range sub;rwa[List.length_range] at this
theorem OW.free (W:OW m hs owner k) (hk:k<=m):∃ q,q<=m/\¬ fO owner q:=by
 refine Classical.byContradiction fun hc=>?_;have all:∀ q,q<=m->fO owner q:=fun q hq=>Classical.byContradiction fun z=>hc ⟨q,hq,z⟩;have h1:=W.len;unfold qlz at h1;rw[List.length_filterMap_eq_countP] at h1;have h2:List.countP (fun j=>(owner.getD j none).isSome) (List.range (m+1))=(List.range (m+1)).length:=List.countP_eq_length.mpr fun j hj=>by
  have hj:=yC.mp hj;have a:=all j (by lia);have hlt:j<owner.size:=by rw[W.sz];exact hj
  unfold fO at a;simpa[Array.getD,hlt] using a
 rw[h2,List.length_range] at h1;lia
theorem OW.step (W:OW m hs owner k) (hj:¬ fO owner j) (hr:Rch (fO owner) m (hs k) j):OW m hs (owner.setIfInBounds j (some k)) (k+1):=by
 have hlt:j<owner.size:=by
  rcases Nat.lt_or_ge j owner.size with z | z
  .exact z
  .refine absurd ?_ hj;unfold fO;simp[Array.getD,Nat.not_lt.mpr z]
 have nn:owner[j]?=some none:=by
  cases e:owner[j]? with
  | none=>rw[Array.getElem?_eq_none_iff] at e;lia
  | some o =>
   cases o with
   | none=>rfl
   | some i =>
    refine absurd ?_ hj;unfold fO;rw[Array.getD_eq_getD_getElem?,e];rfl
 have get:∀ q:Nat,(owner.setIfInBounds j (some k))[q]?=if q=j then some (some k) else owner[q]?:=fun q=>by
  rw[Array.getElem?_setIfInBounds];by_cases c:q=j
  .subst c;simp[hlt]
  .rw [if_neg c,if_neg (fun z=>c z.symm)]
 have up:∀ q,fO owner q->fO (owner.setIfInBounds j (some k)) q:=fun q hq=>by
  unfold fO at hq ⊢;rw[Array.getD_eq_getD_getElem?] at hq ⊢;rw[get];split
  .rfl
  .exact hq
 refine⟨by rw[Array.size_setIfInBounds];exact W.sz,fun q i e=>?_,fun i hi=>?_,fun q q' i e e'=>?_⟩
 .rw [get] at e;by_cases c:q=j
  .rw [if_pos c] at e;have:k=i:=Option.some.inj (Option.some.inj e);subst this;subst c;exact⟨by lia,hr.mono up⟩
  .rw [if_neg c] at e;obtain⟨a,b⟩:=W.own q i e;exact⟨by lia,b.mono up⟩
 .by_cases c:i=k
  .subst c;exact⟨j,by rw[get,if_pos rfl]⟩
  .obtain ⟨q,e⟩:=W.ex i (by lia);refine⟨q,?_⟩;rw[get,if_neg (fun z=>by rw[z,nn] at e;cases e)];exact e
 .rw [get] at e e';by_cases c:q=j
  .rw [if_pos c] at e;have hik:k=i:=Option.some.inj (Option.some.inj e);by_cases c':q'=j
   .rw [c,c']
   .rw [if_neg c'] at e';have:=(W.own q' i e').1;lia
  .rw [if_neg c] at e;by_cases c':q'=j
   .rw [if_pos c'] at e';have hik:k=i:=Option.some.inj (Option.some.inj e');have:=(W.own q i e).1;lia
   .rw [if_neg c'] at e';exact W.inj q q' i e e'
theorem OW.init (m:Nat) (hs:Nat->Int):OW m hs (Array.replicate (m+1) none) 0:=by
 have z:∀ j i:Nat,(Array.replicate (m+1) (none:Option Nat))[j]?=some (some i)->False:=fun j i e=>by
  rw[Array.getElem?_replicate] at e;split at e <;> simp at e
 exact⟨by simp,fun j i e=>(z j i e).elim,fun i hi=>absurd hi (by lia),fun j j' i e=>(z j i e).elim⟩
def qcy (m:Nat) (acc:Option (Array (Option Nat)×Nat)) (h:Int):Option (Array (Option Nat)×Nat):=do
 let (owner,k) <- acc
 let j <- layClean.free m owner (turns m) (bits h % (m+1)) (bits h)
 pure (owner.setIfInBounds j (some k),k+1)
theorem qcz (m:Nat) (hashes:Array Int):layClean m hashes=(hashes.foldl (qcy m) (some (Array.replicate (m+1) none,0))).map (·.1):=rfl
theorem qgs (F:Full m):∀ (l:List Int) (owner:Array (Option Nat)) (k:Nat),OW m hs owner k->(∀ i (h:Int),l[i]?=some h->hs (k+i)=h)->k+l.length<=m+1 →
  ∃ owner',l.foldl (qcy m) (some (owner,k))=some (owner',k+l.length)/\OW m hs owner' (k+l.length)
 | [],owner,k,W,_,_=>⟨owner,rfl,W⟩
 | h::l,owner,k,W,hl,hk=>by
  simp only[yl] at hk ⊢;obtain⟨q,hq,hq2⟩:=W.free (by lia);obtain⟨L',a,b⟩:=F.lp h hq;obtain⟨j,e,j1,j2⟩:=qgr (m:=m) (owner:=owner) (h:=h) (turns m) 0 0 rfl (fun l z=>absurd z (by lia)) ⟨L',by lia,by unfold turns;lia,by rw[b];exact hq2⟩;have hk0:hs k=h:=hl 0 h rfl;have W':=W.step j1 (by rw[hk0];exact j2);obtain⟨o',e',W''⟩:=qgs F l _ (k+1) W' (fun i h' e=>by rw[show k+1+i=k+(i+1) by lia];exact hl (i+1) h' (by simpa using e)) (by lia);refine⟨o',?_,by rw[show k+(l.length+1)=k+1+l.length by lia];exact W''⟩;rw[List.foldl_cons];have e0:qcy m (some (owner,k)) h=some (owner.setIfInBounds j (some k),k+1):=by
   show (layClean.free m owner (turns m) (bits h % (m+1)) (bits h) >>= fun j=>pure (owner.setIfInBounds j (some k),k+1))=_;have e:layClean.free m owner (turns m) (bits h % (m+1)) (bits h)=some j:=e;rw[e];rfl
  rw[e0,e',show k+(l.length+1)=k+1+l.length by lia]
theorem qjk {f:α->Option β}:∀ {l:List α},(∀ x∈l,(f x).isSome=true)->∀ i:Nat,(l.filterMap f)[i]?=l[i]?.bind f
 | [],_,i=>by simp
 | x::l,h,i=>by
  obtain⟨y,e⟩:=Option.isSome_iff_exists.mp (h x qi);rw[List.filterMap_cons_some e];cases i with
  | zero=>simp[e]
  | succ i=>simpa using qjk (fun z hz=>h z (qd _ hz)) i
theorem fm_len {f:α->Option β}{l:List α}(h:∀ x∈l,(f x).isSome=true):(l.filterMap f).length=l.length:=by rw[List.length_filterMap_eq_countP,List.countP_eq_length.mpr h]
theorem qkL {fi mv:Nat}(F:Full m) {ld pl:Bool}{es:Array (Int×α)}(hn:es.size=n) (hm:n<=m+1) :
  ∃ (t:SetTable) (order:Array Nat),laid m fi mv ld pl (es.map (·.1))=some (t,order)/\t.led=ld/\t.plain=pl/\(order.filterMap (es[·]?)).size=es.size/\SetI t (order.filterMap (es[·]?)) m n ∧
   (∀ e,e∈(order.filterMap (es[·]?)).toList ↔ e∈es.toList) ∧
   ∀ (i i':Nat) (e e':Int×α),(order.filterMap (es[·]?))[i]?=some e->(order.filterMap (es[·]?))[i']?=some e'->(∀ y y':Nat,es[y]?=some e->es[y']?=some e'->y=y')->i=i':=by
 obtain⟨owner,eo,W⟩:=qgs F (hs:=fun i=>((es.map (·.1)).getD i 0)) (es.map (·.1)).toList (Array.replicate (m+1) none) 0 (OW.init m _) (fun i h e=>by rw[Nat.zero_add,Array.getD_eq_getD_getElem?,<- qy,e];rfl) (by simp;lia);have hlen:(es.map (·.1)).toList.length=n:=by simp[hn]
 rw[Nat.zero_add,hlen] at eo W;have live:∃ live:List (Nat×Nat),live=(List.range (m+1)).filterMap fun j=>(owner.getD j none).map (j,·):=⟨_,rfl⟩;obtain⟨live,el⟩:=live;have lmem:∀ j i,(j,i)∈live ↔ owner[j]?=some (some i):=fun j i=>by
  rw[el,yD];constructor
  .rintro ⟨q,_,e⟩;cases o:owner.getD q none with
   | none=>rw[o] at e;cases e
   | some x =>
    rw[o] at e;cases e
    exact Zf.mp o
  .intro e;have hj:j<owner.size:=by
    rcases Nat.lt_or_ge j owner.size with z | z
    .exact z
    .rw [yu z] at e;cases e
   exact⟨j,yC.mpr (by rw[W.sz] at hj;exact hj),by rw[Zf.mpr e];rfl⟩
 have llen:live.length=n:=by
  have:=W.len;unfold qlz at this;rw[List.length_filterMap_eq_countP] at this;rw[el,List.length_filterMap_eq_countP,<- this];congr 1;funext j
  cases owner.getD j none <;> rfl
 have lsort:live.Pairwise fun a b=>a.1<b.1:=by
  rw[el];refine List.Pairwise.filterMap _ (fun a a' hlt b e b' e'=>?_) List.pairwise_lt_range;cases o:owner.getD a none with
  | none=>rw[o] at e;cases e
  | some x =>
   cases o':owner.getD a' none with
   | none=>rw[o'] at e';cases e'
   | some x' =>
    rw[o] at e;rw[o'] at e';cases e;cases e'
    exact hlt
 have some1:∀ x∈live.map (·.2),(es[x]?).isSome=true:=fun x hx=>by
  obtain⟨⟨j,i⟩,hji,rfl⟩:=qF.mp hx;have:=(W.own j i ((lmem j i).mp hji)).1;simp[hn,this]
 have es':((live.map (·.2)).toArray.filterMap (es[·]?))=((live.map (·.2)).filterMap (es[·]?)).toArray:=by simp
 have get':∀ i:Nat,((live.map (·.2)).toArray.filterMap (es[·]?))[i]?=live[i]?.bind fun x=>es[x.2]?:=fun i=>by
  rw[es',List.getElem?_toArray,qjk some1,qK];cases live[i]? <;> rfl
 have size':((live.map (·.2)).toArray.filterMap (es[·]?)).size=n:=by rw[es',qz,fm_len some1,qc,llen]
 have pget:∀ i:Nat,(live.map (·.1)).toArray[i]?=live[i]?.map (·.1):=fun i=>by rw[List.getElem?_toArray,qK]
 refine⟨{ mask:=m,place:=(live.map (·.1)).toArray,dummies:=#[],finger:=fi,led:=ld,moves:=mv,plain:=pl },(live.map (·.2)).toArray,?_,rfl,rfl,by rw[size',hn],⟨⟨rfl,rfl,by simp[llen],?_,?_⟩,size',?_⟩,fun e=>?_,fun i i' e e' h1 h2 hyy=>?_⟩
 .unfold laid;rw[qcz,<- Array.foldl_toList,eo,el];rfl
 .intro a b hab hb;have hb':b<live.length:=by simpa using hb
  have ha':a<live.length:=by lia
  have:=yg.mp lsort a b ha' hb' hab;simpa[Array.getD,ha',hb'] using this
 .intro i j e;rw[show ({ mask:=m,place:=(live.map (·.1)).toArray,dummies:=#[],finger:=fi,led:=ld,moves:=mv,plain:=pl }:SetTable).place[i]?=live[i]?.map (·.1) from pget i] at e;cases o:live[i]? with
  | none=>rw[o] at e;cases e
  | some x =>
   rw[o] at e;obtain⟨q,y⟩:=x;have hq:=(lmem q y).mp (List.mem_of_getElem? o);have:q=j:=Option.some.inj e;subst this;have hj:q<owner.size:=by
    rcases Nat.lt_or_ge q owner.size with z | z
    .exact z
    .rw [yu z] at hq;cases hq
   rw[W.sz] at hj;lia
 .rintro j e ⟨i,h1,h2⟩;rw[show ({ mask:=m,place:=(live.map (·.1)).toArray,dummies:=#[],finger:=fi,led:=ld,moves:=mv,plain:=pl }:SetTable).place[i]?=live[i]?.map (·.1) from pget i] at h1;rw[get'] at h2;cases o:live[i]? with
  | none=>rw[o] at h1;cases h1
  | some x =>
   rw[o] at h1 h2;obtain⟨q,y⟩:=x;have e1:q=j:=Option.some.inj h1;subst e1;have h2:es[y]?=some e:=h2;have hr:=(W.own q y ((lmem q y).mp (List.mem_of_getElem? o))).2;have eh:((es.map (·.1)).getD y 0)=e.1:=by rw[Array.getD_eq_getD_getElem?,Array.getElem?_map,h2];rfl
   rw[<- eh];obtain⟨k,ek,ak⟩:=hr;refine⟨k,ek,fun l hl=>?_⟩;have hp:=ak l hl;have hle:=qiE m ((es.map (·.1)).getD y 0) l;generalize (stp m ((es.map (·.1)).getD y 0) l).j=p at hp hle;unfold fO at hp;rw[Array.getD_eq_getD_getElem?] at hp;cases oo:owner[p]? with
   | none =>
    rw[Array.getElem?_eq_none_iff,W.sz] at oo;lia
   | some v =>
    rw[oo] at hp;cases v with
    | none=>cases hp
    | some z =>
     obtain⟨a,ea⟩:=yk ((lmem p z).mpr oo);exact⟨a,by rw[show ({ mask:=m,place:=(live.map (·.1)).toArray,dummies:=#[],finger:=fi,led:=ld,moves:=mv,plain:=pl }:SetTable).place[a]?=live[a]?.map (·.1) from pget a,ea];rfl⟩
 .constructor
  .intro he;obtain⟨i,ei⟩:=yk he;rw[qy,get'] at ei;cases o:live[i]? with
   | none=>rw[o] at ei;cases ei
   | some x =>
    rw[o] at ei;exact List.mem_of_getElem? (by rw[qy];exact ei)
  .intro he;obtain⟨y,ey⟩:=yk he;rw[qy] at ey;have hy:y<n:=by
    rcases Nat.lt_or_ge y es.size with z | z
    .lia
    .rw [yu z] at ey;cases ey
   obtain⟨j,ej⟩:=W.ex y hy;obtain⟨i,ei⟩:=yk ((lmem j y).mpr ej);refine List.mem_of_getElem? (i:=i) ?_;rw[qy,get',ei];exact ey
 .rw [get'] at h1 h2;cases o:live[i]? with
  | none=>rw[o] at h1;cases h1
  | some x =>
   cases o':live[i']? with
   | none=>rw[o'] at h2;cases h2
   | some x' =>
    rw[o] at h1;rw[o'] at h2;have hxx:x.2=x'.2:=hyy _ _ h1 h2;have j1:=(lmem x.1 x.2).mp (List.mem_of_getElem? o);have j2:=(lmem x'.1 x'.2).mp (List.mem_of_getElem? o');rw[<- hxx] at j2;have jj:=W.inj _ _ _ j1 j2;have hi:i<live.length:=(qm.mp o).1;have hi':i'<live.length:=(qm.mp o').1;have e1:live[i]=x:=(qm.mp o).2;have e2:live[i']=x':=(qm.mp o').2;rcases Nat.lt_trichotomy i i' with z | z | z
    .have:=yg.mp lsort i i' hi hi' z;rw[e1,e2] at this;lia
    .exact z
    .have:=yg.mp lsort i' i hi' hi z;rw[e1,e2] at this;lia
end L2
namespace L2
open W
variable {Q:Bool->Shared->Prop}
theorem qh4 {vs:List Value}(h:IntsAre vs ns):ItemsAre (intKind prog w) ns vs:=by
 induction h with
 | nil=>exact .nil
 | cons n t _ ih=>exact .cons (intKind_is _ _ _ _) ih
theorem jl.key (t:jl h (.ref b) ks):IsTupleKey (intKind prog w) h ks b:=by
 obtain⟨b',o,xs,n,e,ho,hc,hd,hi,_⟩:=t;cases e
 exact⟨o,xs,n,ho,hc,hd,qh4 hi⟩
abbrev yL (prog:Program) (w:World) (ks:List Int):Int:=tupleKeyHash (intKind prog w) ks
theorem qkR (t:jl s.heap (.ref b) ks) (q:Q true s):wpAny (model prog w) A (hashByValue 8 (.ref b)) Q E s:=by
 have hT:=(t.key (prog:=prog) (w:=w)).typeIs;obtain⟨b',o,xs,n,e,ho,hc,hd,hi,_⟩:=t;cases e
 unfold hashByValue;refine qa (wpAny_specialOf hT F.slot_tuple_hash.lookup ?_);show wpAny _ _ (seqItems? (.ref b) >>= _) _ _ s;refine qa (wpAny_seqItems ho hd ?_);refine qa ?_;show wpAny _ _ (forIn xs _ _) _ _ s;rw[<- Array.forIn_toList];refine wpAny_forIn_list _ (fun rest r s'=>r.1=none/\s'=s/\∃ ns,IntsAre rest ns) _ ?_ ?_ _ _ ⟨rfl,rfl,_,hi⟩
 .rintro v rest r s' ⟨hr,rfl,ns,hi'⟩;cases hi' with
  | cons i t hi'' =>
   refine qa (qe ?_);simp only[Jn,qk,if_false];exact qe ⟨rfl,rfl,_,hi''⟩
 .rintro ⟨r1,r2⟩ s' ⟨hr,rfl,_⟩;simp only at hr;subst hr;exact qe q
theorem qgN (t:jl s.heap (.ref b) ks) (q:Q false s):wpAny (model prog w) A (ofAClassStatement 8 (.ref b)) Q E s:=by
 have hT:=(t.key (prog:=prog) (w:=w)).typeIs;obtain⟨b',o,xs,n,e,ho,hc,hd,hi,_⟩:=t;cases e
 unfold ofAClassStatement;refine qa (wpAny_typeOf hT ?_);dsimp only;rw[if_pos (show ("tuple" == "tuple")=true by decide)];refine qa (qe ?_);simp only[Jn,qk,if_false];refine qa (wpAny_seqItems ho hd ?_);dsimp only;refine qa ?_;show wpAny _ _ (forIn xs _ _) _ _ s;rw[<- Array.forIn_toList];refine wpAny_forIn_list _ (fun rest r s'=>r.1=none/\s'=s/\∃ ns,IntsAre rest ns) _ ?_ ?_ _ _ ⟨rfl,rfl,_,hi⟩
 .rintro v rest r s' ⟨hr,rfl,ns,hi'⟩;cases hi' with
  | cons i t hi'' =>
   refine qa (qe ?_);simp only[qk,if_false];exact qe ⟨rfl,rfl,_,hi''⟩
 .rintro ⟨r1,r2⟩ s' ⟨hr,rfl,_⟩;simp only at hr;subst hr;exact qe q
theorem qjU (t:jl s.heap (.ref b) ks) {ys:List Value}(hy:∀ y∈ys,∃ c ks',y = .ref c/\jl s.heap (.ref c) ks') (q:Q false s):wpAny (model prog w) A (searchCouldBeSeen (.ref b) ys) Q E s:=by
 unfold searchCouldBeSeen;refine qa ?_;refine wpAny_forIn_list _ (fun rest r s'=>r.1=none/\s'=s/\∀ y∈rest,∃ c ks',y = .ref c/\jl s.heap (.ref c) ks') _ ?_ ?_ _ _ ⟨rfl,rfl,hy⟩
 .rintro v rest r s' ⟨hr,rfl,hy'⟩;obtain⟨c,ks',rfl,tc⟩:=hy' v qi;have rest':∀ y∈rest,∃ c ks',y = .ref c/\jl s'.heap (.ref c) ks':=fun y h=>hy' y (qd _ h);dsimp only;by_cases e:(b == c)=true
  .rw [e];simp only[Bool.true_or,if_true];exact qe ⟨rfl,rfl,rest'⟩
  .have e:(b == c)=false:=by simpa using e
   rw[e];simp only[carriedByValue,Bool.false_and,Bool.or_false,qk,if_false];refine qa (wpAny_eqIsQuiet_tuple (t.key (prog:=prog) (w:=w)) ?_);simp only[Jn,qk,if_false];refine qa (wpAny_eqIsQuiet_tuple (tc.key (prog:=prog) (w:=w)) ?_);simp only[Jn,qk,if_false];refine qa (qgN t ?_);simp only[qk,if_false];refine qa (qgN tc ?_);simp only[qk,if_false];exact qe ⟨rfl,rfl,rest'⟩
 .rintro ⟨r1,r2⟩ s' ⟨hr,rfl,_⟩;simp only at hr;subst hr;exact qe q
end L2
namespace L2
open W SetTable
variable {adding:Bool}
def Jy (m n:Nat):Prop:=(m=7/\n<5)\/(m=31/\n<19)\/(m=127/\n<77)\/(m=511/\n<307)\/(m=2047/\n<1229)\/(m=8191/\n<4915)
theorem Jy.full (h:Jy m n):Full m:=by
 rcases h with⟨rfl,_⟩ | ⟨rfl,_⟩ | ⟨rfl,_⟩ | ⟨rfl,_⟩ | ⟨rfl,_⟩ | ⟨rfl,_⟩
 .exact full7
 .exact qna
 .exact qkU
 .exact qkT
 .exact qh9
 .exact qh8
theorem Jy.le (h:Jy m n):n<m/\n<4915:=by unfold Jy at h;lia
theorem Jy.odd (h:Jy m n):(m % 2 == 0)=false:=by rcases h with⟨rfl,_⟩ | ⟨rfl,_⟩ | ⟨rfl,_⟩ | ⟨rfl,_⟩ | ⟨rfl,_⟩ | ⟨rfl,_⟩ <;> decide
def qbq (prog:Program) (w:World) (h:Heap) (e:Int×Value) (ks:List Int):Prop:=jl h e.2 ks/\e.1=yL prog w ks
abbrev Jl (w:World):Bool:=w.params.followText "set-order"
structure SetD (prog:Program) (w:World) (Pv:Value->Prop) (h:Heap) (a:Addr) (o:Obj) (es:Array (Int×Value)) (ep:Nat) (t:SetTable) (m:Nat) (kss:List (List Int)):Prop where
 ho:h.get? a=some o
 ex:o.ExactSet
 hd:o.data = .set es ep t
 pl:t.plain=true
 ld:t.led=!Jl w
 mok:Jy m es.size
 si:SetI t es m es.size
 en:PySem.Paired (qbq prog w h) es.toList kss
 nd:kss.Nodup
 own:∀ e∈es.toList,Pv e.2
section
variable {o:Obj}{es:Array (Int×Value)}{t:SetTable}
theorem SetD.fits (D:SetD prog w Pv s.heap a o es ep t m kss):t.fits es.size=true:=by
 have:=D.mok.le;unfold SetTable.fits SetTable.fill;rw[D.si.tab.dm,D.si.tab.size,D.si.tab.mask];simp;lia
theorem SetD.len (D:SetD prog w Pv s.heap a o es ep t m kss):kss.length=es.size:=by
 have:=PySem.Paired.length D.en;rw[qD] at this;exact this.symm
theorem SetD.ent (D:SetD prog w Pv s.heap a o es ep t m kss) {e:Int×Value}(h:es[i]?=some e):∃ ks,kss[i]?=some ks/\qbq prog w s.heap e ks:=L2.Paired.get D.en (by rw[qy];exact h)
theorem SetD.ent' (D:SetD prog w Pv s.heap a o es ep t m kss) (h:kss[i]?=some ks):∃ e,es[i]?=some e/\qbq prog w s.heap e ks:=by
 obtain⟨e,h1,h2⟩:=L2.Paired.get' D.en h;exact⟨e,by rw[qy] at h1;exact h1,h2⟩
theorem SetD.place (D:SetD prog w Pv s.heap a o es ep t m kss) (h:t.place[i]?=some j):∃ e,es[i]?=some e:=by
 have hi:i<t.place.size:=by
  rcases Nat.lt_or_ge i t.place.size with z | z
  .exact z
  .rw [yu z] at h;cases h
 rw[D.si.tab.size] at hi;exact⟨es[i],by simp[hi]⟩
theorem Z1 (D:SetD prog w Pv s.heap a o es ep t m kss) (tb:jl s.heap (.ref b) ks) (hu:A.units<cLine) {Q:SetFound->Shared->Prop}
  (hin:∀ i:Nat,kss[i]?=some ks->Q (.there (if adding=true then none else some i)) s)
  (hout:ks∉kss->∀ j,¬ Fl t j->j<=m->Rch (Fl t) m (yL prog w ks) j->Q (.free j false) s) {K:Nat}(hK:¬ Fl t (stp m (yL prog w ks) K).j) (hK2:K<=10 * (m+12)) :
  ∀ (fu k:Nat) (stand:Option Probe),stand.getD (t.probeStart (yL prog w ks))=stp m (yL prog w ks) k->k<=K->K - k<fu →
   (∀ l,l<k->∃ i:Nat,t.place[i]?=some (stp m (yL prog w ks) l).j/\kss[i]?≠some ks)->wpAny (model prog w) A (setSearchFrom a (.ref b) (yL prog w ks) adding fu stand) Q E s
 | 0,k,stand,_,_,z,_=>absurd z (by lia)
 | fu+1,k,stand,hst,hk,hf,hl=>by
  have T:=D.si.tab;unfold setSearchFrom;refine qa (ja D.ho D.hd D.fits ?_);dsimp only;have gw:t.gaveWay=false:=by unfold SetTable.gaveWay;rw[T.mask];exact D.mok.odd
  rw[gw];simp only[qk,if_false];rw[hst];obtain⟨x,x1,x2,x3,x4⟩:=T.probe_go (hashAt:=fun i=>(es[i]?.map (·.1)).getD 0) hK (10 * turns t.mask) k hk (by rw[T.mask];unfold turns;lia)
  have before:∀ l,l<x->∃ i:Nat,t.place[i]?=some (stp m (yL prog w ks) l).j/\kss[i]?≠some ks:=fun l hlx=>by
   by_cases c:l<k
   .exact hl l c
   .obtain ⟨i,e1,e2⟩:=x3 l (by lia) hlx;refine⟨i,e1,fun z=>e2 ?_⟩;obtain⟨e,h1,_,h3⟩:=D.ent' z;simp only[h1,Option.map_some,Option.getD_some,h3]
  rcases x4 with⟨n1,n2⟩ | ⟨i,e1,e2,e3⟩
  .have pe:t.probe (fun i=>(es[i]?.map (·.1)).getD 0) (yL prog w ks) (stp m (yL prog w ks) k)=some (.empty (stp m (yL prog w ks) x).j none):=n2;have no:ks∉kss:=fun hm=>by
    obtain⟨i,ei⟩:=yk hm;obtain⟨e,h1,_,h3⟩:=D.ent' ei;have hi:i<t.place.size:=by
     rw[T.size];rcases Nat.lt_or_ge i es.size with z | z
     .exact z
     .rw [yu z] at h1;cases h1
    obtain⟨k',ek,ak⟩:=D.si.rch (t.place[i]) e ⟨i,by simp[hi],h1⟩;rw[h3] at ek ak;rcases Nat.lt_trichotomy k' x with z | z | z
    .obtain ⟨i',p1,p2⟩:=before k' z;rw[ek] at p1;have:i'=i:=qhq T.rise p1 (by simp[hi]);subst this;exact p2 ei
    .subst z;exact n1 ⟨i,by rw[ek];simp[hi]⟩
    .exact n1 (ak x z)
   have fin:=hout no _ n1 (qiE _ _ _) ⟨x,rfl,fun l hlx=>let ⟨i,p,_⟩:=before l hlx;⟨i,p⟩⟩;generalize hp:t.probe _ (yL prog w ks) (stp m (yL prog w ks) k)=r;have er:=hp.symm.trans pe;subst er;exact qe fin
  .have pe:t.probe (fun i=>(es[i]?.map (·.1)).getD 0) (yL prog w ks) (stp m (yL prog w ks) k)=some (.candidate (stp m (yL prog w ks) x).j i (stp m (yL prog w ks) (x+1))):=e3;generalize hp:t.probe _ (yL prog w ks) (stp m (yL prog w ks) k)=r;have er:=hp.symm.trans pe;subst er;dsimp only;obtain⟨⟨h',y⟩,ee⟩:=D.place e1;obtain⟨ks',ek,ty,hh⟩:=D.ent ee;obtain⟨c,oc,xs,nn,ey,hoc⟩:=id ty;have ey:y = .ref c:=ey;subst ey;have ty:jl s.heap (.ref c) ks':=ty;have hstored:∀ y∈List.map (fun x=>x.snd) (Array.filter (fun x=>x.fst == yL prog w ks) es).toList,∃ c ks',y = .ref c/\jl s.heap (.ref c) ks':=fun y hy=>by
    obtain⟨e,he,rfl⟩:=qF.mp hy;have he':e∈es.toList:=by
     rw[Array.toList_filter] at he;exact (List.mem_filter.mp he).1
    obtain⟨q,eq⟩:=yk he';rw[qy] at eq;obtain⟨ks2,_,t2,_⟩:=D.ent eq;obtain⟨c2,_,_,_,e2,_⟩:=id t2;exact⟨c2,ks2,e2,by rw[<- e2];exact t2⟩
   have sm:t.sameMemory t.moves t.mask=some true:=by unfold SetTable.sameMemory;rw[if_pos (beq_self_eq_true _)]
   have core:wpAny (model prog w) A (do
     let equal <- holding [Value.ref c] (eqBool (Value.ref c) (Value.ref b))
     let __x <- setState a
     if (adding && equal)=true then pure (SetFound.there none)
      else
       match __x.2.snd.sameMemory t.moves t.mask with
       | some sme =>
        match if sme=true then __x.2.snd.slot (stp m (yL prog w ks) x).j else Slot.empty with
        | Slot.live i' =>
         match __x.fst[i']? with
         | some (fst,y')=>do
          let __do_lift <- isSame y' (Value.ref c)
          let still <- pure (if __do_lift=true then some i' else none)
          match still with
           | none=>do
            rule "set.search.anew"
            setSearchFrom a (Value.ref b) (yL prog w ks) adding fu none
           | some i' =>
            if equal=true then pure (SetFound.there (some i'))
            else setSearchFrom a (Value.ref b) (yL prog w ks) adding fu (some (stp m (yL prog w ks) (x+1)))
         | none=>do
          let still <- pure none
          match still with
           | none=>do
            rule "set.search.anew"
            setSearchFrom a (Value.ref b) (yL prog w ks) adding fu none
           | some i' =>
            if equal=true then pure (SetFound.there (some i'))
            else setSearchFrom a (Value.ref b) (yL prog w ks) adding fu (some (stp m (yL prog w ks) (x+1)))
        | x_1=>do
         let still <- pure none
         match still with
          | none=>do
           rule "set.search.anew"
           setSearchFrom a (Value.ref b) (yL prog w ks) adding fu none
          | some i' =>
           if equal=true then pure (SetFound.there (some i'))
           else setSearchFrom a (Value.ref b) (yL prog w ks) adding fu (some (stp m (yL prog w ks) (x+1)))
       | x_1=>unsupported "set.changed-during-lookup:is-the-new-block-at-the-old-address") Q E s:=by
    refine qa (yf (wpAny_eqBool_tuple hu (ty.key (prog:=prog) (w:=w)) (tb.key (prog:=prog) (w:=w)) ?_));refine qa (ja D.ho D.hd D.fits ?_);dsimp only;have go:∀ eq:Bool,(eq=true->kss[i]?=some ks)->(eq=false->kss[i]?≠some ks)->wpAny (model prog w) A (do
      let __do_lift <- isSame (Value.ref c) (Value.ref c)
      let still <- pure (if __do_lift=true then some i else none)
      match still with
       | none=>do
        rule "set.search.anew"
        setSearchFrom a (Value.ref b) (yL prog w ks) adding fu none
       | some i' =>
        if eq=true then pure (SetFound.there (some i'))
        else setSearchFrom a (Value.ref b) (yL prog w ks) adding fu (some (stp m (yL prog w ks) (x+1)))) (fun r s'=>adding=true/\eq=true\/Q r s') E s:=fun eq q1 q2=>by
     refine qa ?_;unfold isSame;dsimp only;rw[if_pos (beq_self_eq_true _)];refine qe (qa (qe ?_));simp only[if_true];cases eq with
     | true =>
      simp only[if_true];refine qe ?_;cases adding with
      | true=>exact .inl (by simp)
      | false=>exact .inr (by simpa using hin i (q1 rfl))
     | false =>
      simp only[qk,if_false];refine qP (Z1 D tb hu hin hout hK hK2 fu (x+1) _ rfl ?_ ?_ fun l hlx=>?_) (fun r s' q=>.inr q) fun _ _ z=>z
      .have:x≠K:=fun z=>hK (z ▸ ⟨i,e1⟩);lia
      .have:x≠K:=fun z=>hK (z ▸ ⟨i,e1⟩);lia
      .by_cases z:l=x
       .subst z;exact⟨i,e1,q2 rfl⟩
       .exact before l (by lia)
    by_cases kk:ks'=ks
    .rw [qN kk];cases ha:adding with
     | true =>
      simp only[Bool.and_self,if_true];refine qe ?_;have:=hin i (by rw[ek,kk]);rw[ha] at this;simpa using this
     | false =>
      simp only[Bool.and_true,qk,if_false,sm,if_true,T.live e1,ee];refine qP (by have:=go true (fun _=>by rw[ek,kk]) (fun z=>by cases z);rw[ha] at this;simpa using this) (fun r s' q=>?_) fun _ _ z=>z;exact q
    .rw [yi kk];simp only[Bool.and_false,qk,if_false,sm,if_true,T.live e1,ee];refine qP (by have:=go false (fun z=>by cases z) (fun _ z=>kk (by rw[ek] at z;exact Option.some.inj z));simpa using this) (fun r s' q=>?_) fun _ _ z=>z;exact q
   cases hled:t.led with
   | true =>
    simp only[Jn,qk,if_false,ee];exact core
   | false =>
    simp only[Bool.not_false,if_true];refine qa (qjU tb hstored ?_);simp only[qk,if_false,ee];exact core
end
end L2
namespace L2
open W SetTable
variable {e:Int×Value}{p:Nat}
def qbt (prog:Program) (w:World) (Pv:Value->Prop) (h:Heap) (a:Addr) (kss:List (List Int)):Prop:=∃ o es ep t m,SetD prog w Pv h a o es ep t m kss
theorem qbq.kept (k:∀ b o,h.get? b=some o->o.cls = .type "tuple" -> h'.get? b=some o) (t:qbq prog w h e ks):qbq prog w h' e ks:=⟨t.1.kept k,t.2⟩
theorem qgB {o:Obj}(ho:h.get? a=some o) (hc:o.cls = .type "set") (sb:Heap.SameBut a h h') (t:qbq prog w h e ks):qbq prog w h' e ks :=
 t.kept fun b o' e hcl=>by
  have ne:b≠a:=by
   rintro rfl;rw[ho] at e;cases e
   rw[hc] at hcl;exact absurd hcl (by decide)
  rw[sb.2 b ne];exact e
section
variable {o:Obj}{es:Array (Int×Value)}{t:SetTable}
theorem qht (a:Addr) (wanted:Nat):setRelay a wanted=(do
  let (es,_,t) <- setState a
  if SetTable.sizeAbove wanted > sizeLine then unsupported "set:memory"
  let (es,t) <- (do
   let some (t,order):=t.relaid (es.map (·.1)) wanted | unsupported "internal:set-table-without-room"
   let es':=order.filterMap (es[·]?)
   if es'.size != es.size then unsupported "internal:set-table-lost-an-element"
   pure (es',t))
  storeSet a es t):=rfl
theorem SetI.put {x:Int×Value}(I:SetI t es m es.size) (hj:¬ Fl t j) (hm:j<=m) (hr:Rch (Fl t) m x.1 j):SetI (t.put j).1 (insertAt es (t.put j).2 x) m (es.size+1):=by
 obtain⟨T',e2,e3⟩:=I.tab.put hj hm;have hb:=(Ya I.tab.rise j).2.2;have hb2:below t.place j<=es.size:=by rw[<- I.tab.size];exact hb
 have up:∀ q,Fl t q->Fl (t.put j).1 q:=fun q ⟨i,e⟩=>by
  unfold Fl;rw[e3];by_cases c:i<below t.place j
  .exact ⟨i,by rw[jr hb,if_pos c];exact e⟩
  .exact ⟨i+1,by rw[jr hb,if_neg (by lia),if_neg (by lia)];exact e⟩
 refine⟨T',by rw[e2,ZP hb2],fun j' e' hA=>?_⟩;rw[e3,e2] at hA;rcases (qm8 hb hb2).mp hA with h | ⟨rfl,rfl⟩
 .exact (I.rch j' e' h).mono up
 .exact hr.mono up
theorem qay {R:α->β->Prop}:∀ {xs:List α}{ys:List β}(p:Nat) {x:α}{y:β},PySem.Paired R xs ys->R x y->PySem.Paired R (xs.take p++x::xs.drop p) (ys.take p++y::ys.drop p)
 | _,_,0,x,y,h,r=>.cons r h
 | _,_,p+1,x,y,.nil,r=>by simpa using PySem.Paired.cons r .nil
 | _,_,p+1,x,y,.cons h t,r=>.cons h (qay p t r)
theorem qdq {xs:Array α}{x:α}(hp:p<=xs.size):(insertAt xs p x).toList=xs.toList.take p++x::xs.toList.drop p:=by
 unfold insertAt;simp[JP]
theorem qfX {xs:List α}{x y:α}:y∈xs.take p++x::xs.drop p ↔ y=x\/y∈xs:=by
 have:y∈xs ↔ y∈xs.take p\/y∈xs.drop p:=by rw[<- qB,qW]
 simp only[qB,qG,this];constructor
 .rintro (h | h | h)
  .exact .inr (.inl h)
  .exact .inl h
  .exact .inr (.inr h)
 .rintro (h | h | h)
  .exact .inr (.inl h)
  .exact .inl h
  .exact .inr (.inr h)
theorem qfO {xs:List α}{x:α}(h:xs.Nodup) (hx:x∉xs):(xs.take p++x::xs.drop p).Nodup:=by
 have e:(xs.take p++x::xs.drop p).Perm (x::xs):=by
  have:=List.perm_middle (a:=x) (l₁:=xs.take p) (l₂:=xs.drop p);rwa[qW] at this
 exact e.nodup_iff.mpr (yx.mpr ⟨hx,h⟩)
end
end L2
namespace L2
open W SetTable
variable {wanted:Nat}
theorem YW {R:α->β->Prop}:∀ {l:List α},(∀ e∈l,∃ k,R e k)->∃ ks,PySem.Paired R l ks
 | [],_=>⟨[],.nil⟩
 | e::l,h=>by
  obtain⟨k,hk⟩:=h e qi;obtain⟨ks,hks⟩:=YW (fun x hx=>h x (qd _ hx));exact⟨k::ks,.cons hk hks⟩
section
variable {o:Obj}{es:Array (Int×Value)}{t:SetTable}
theorem qbq.inj {e:Int×Value}{k k':List Int}(h1:qbq prog w h e k) (h2:qbq prog w h e k'):k=k':=by
 obtain⟨b,_,_,_,e1,_⟩:=id h1.1;have t1:jl h (.ref b) k:=e1 ▸ h1.1;have t2:jl h (.ref b) k':=e1 ▸ h2.1;exact (t1.key (prog:=prog) (w:=w)).inj (t2.key (prog:=prog) (w:=w))
theorem qbW (ho:s.heap.get? a=some o) (hd:o.data = .set es ep t) (es':Array (Int×Value)) (t':SetTable):(s.heap.update a (Obj.putSet es' t')).get? a=some { o with data:=.set es' (ep+1) t' }:=by
 have:=yo (Obj.putSet es' t') ho (by rw[putSet_of es' t' hd];rfl);rw[putSet_of es' t' hd] at this;exact this
theorem qhs {m' n:Nat}{Q:Unit->Shared->Prop}(ho:s.heap.get? a=some o) (ex:o.ExactSet) (hd:o.data = .set es ep t) (pl:t.plain=true) (le:t.led=!Jl w) (hf:t.fits es.size=true) (en:PySem.Paired (qbq prog w s.heap) es.toList kss) (nd:kss.Nodup) (ow:∀ e∈es.toList,Pv e.2)
  (hw:sizeAbove wanted=m'+1) (mo:Jy m' es.size) (h:∀ h' kss',Heap.SameBut a s.heap h'->qbt prog w Pv h' a kss'->(∀ k,k∈kss' ↔ k∈kss)->Q () { s with heap:=h' }):wpAny (model prog w) A (setRelay a wanted) Q E s:=by
 rw[qht];refine qa (ja ho hd hf ?_);dsimp only;have hle:=mo.le;have m127:m'<=8191:=by unfold Jy at mo;lia
 rw[if_neg (by rw[hw,sizeLine_eq];lia)];obtain⟨t',order,e1,e2,e3,e4,e5,e6,e7⟩:=qkL (m:=m') (n:=es.size) (fi:=t.finger) (mv:=t.movedTo (sizeAbove wanted - 1)) (ld:=t.led) (pl:=t.plain) mo.full (es:=es) rfl (by lia);have er:t.relaid (es.map (·.1)) wanted=some (t',order):=by
  unfold SetTable.relaid;rw[show sizeAbove wanted - 1=m' by lia] at e1 ⊢;exact e1
 rw[er];dsimp only;have e4':((order.filterMap (es[·]?)).size != es.size)=false:=by rw[e4];simp
 rw[e4'];simp only[qk,if_false,pure_bind];generalize order.filterMap (es[·]?)=es2 at *;refine wpAny_storeSet_of ho hd ?_ (by rw[e4,sizeLine_eq];lia);have sb:Heap.SameBut a s.heap (s.heap.update a (Obj.putSet es2 t')):=Heap.SameBut.update s.heap a _;have old:∀ e∈es2.toList,∃ k,qbq prog w s.heap e k/\k∈kss:=fun e he=>by
  obtain⟨i,ei⟩:=yk ((e6 e).mp he);obtain⟨k,k1,k2⟩:=L2.Paired.get en ei;exact⟨k,k2,List.mem_of_getElem? k1⟩
 obtain⟨kss2,en2⟩:=YW (R:=qbq prog w s.heap) (l:=es2.toList) fun e he=>let ⟨k,k1,_⟩:=old e he;⟨k,k1⟩;refine h _ kss2 sb ⟨_,es2,ep+1,t',m',qbW ho hd es2 t',⟨ex.1,ex.2.1,ex.2.2⟩,rfl,by rw[e3];exact pl,by rw[e2];exact le,by rw[e4];exact mo,by rw[e4];exact e5,Paired.mapP en2 fun e ks tt=>qgB ho ex.1 sb tt,?_,fun e he=>ow e ((e6 e).mp he)⟩ fun k=>⟨fun hk=>?_,fun hk=>?_⟩
 .refine yg.mpr fun i i' hi hi' hlt z=>?_;obtain⟨x,x1,x2⟩:=L2.Paired.get' en2 (qf hi);obtain⟨x',x1',x2'⟩:=L2.Paired.get' en2 (qf hi');rw[qy] at x1 x1';have:=e7 i i' x x' x1 x1' fun y y' ey ey'=>by
   obtain⟨k,k1,k2⟩:=L2.Paired.get en (show es.toList[y]?=some x by rw[qy];exact ey);obtain⟨k',k1',k2'⟩:=L2.Paired.get en (show es.toList[y']?=some x' by rw[qy];exact ey');have q1:=k2.inj x2;have q2:=k2'.inj x2';rw[q1] at k1;rw[q2,<- z] at k1';have hy:y<kss.length:=(qm.mp k1).1;have hy':y'<kss.length:=(qm.mp k1').1;have g1:=(qm.mp k1).2;have g2:=(qm.mp k1').2;exact (List.getElem_inj nd).mp (g1.trans g2.symm)
  lia
 .obtain ⟨i,ei⟩:=yk hk;obtain⟨x,x1,x2⟩:=L2.Paired.get' en2 ei;obtain⟨k',k1,k2⟩:=old x (List.mem_of_getElem? x1);rw[x2.inj k1];exact k2
 .obtain ⟨i,ei⟩:=yk hk;obtain⟨x,x1,x2⟩:=L2.Paired.get' en ei;have hx:=(e6 x).mpr (List.mem_of_getElem? x1);obtain⟨i2,ei2⟩:=yk hx;obtain⟨k2,q1,q2⟩:=L2.Paired.get en2 ei2;rw[x2.inj q2];exact List.mem_of_getElem? q1
theorem qjz (S:qbt prog w Pv s.heap a kss) (tb:jl s.heap (.ref b) ks) (pb:Pv (.ref b)) (hu:A.units<cLine) (hn:kss.length<4914) {Q:Bool->Shared->Prop}(hin:ks∈kss->Q false s)
  (hout:ks∉kss->∀ h' kss',Heap.SameBut a s.heap h'->qbt prog w Pv h' a kss'->(∀ k,k∈kss' ↔ k=ks\/k∈kss)->Q true { s with heap:=h' }):wpAny (model prog w) A (setAddHashed a (.ref b) (yL prog w ks)) Q E s:=by
 obtain⟨o,es,ep,t,m,D⟩:=S;have T:=D.si.tab;have hl:=D.len;have hle:=D.mok.le;obtain⟨q,q1,q2⟩:=T.free (yn hle.1);obtain⟨K,K1,K2⟩:=D.mok.full.walk (yL prog w ks) q1;unfold setAddHashed;refine yf ?_;show wpAny (model prog w) A (setAddHashedIn a (.ref b) (yL prog w ks) (99999+1)) Q E s;unfold setAddHashedIn;refine qa (ja D.ho D.hd D.fits ?_);dsimp only;rw[if_neg (by simp[byScan,Value.scannable])];refine qa ?_;have m127:m<=8191:=by have:=D.mok;unfold Jy at this;lia
 refine Z1 D tb hu (adding:=true) (fun i ei=>?_) (fun no j n1 n2 n3=>?_) (K:=K) (by rw[K2];exact q2) K1 100000 0 none (by show t.probeStart _=_;rw[qc0,T.mask]) (qZ _) (by lia) fun l z=>absurd z (by lia)
 .simp only[if_true];exact qe (hin (List.mem_of_getElem? ei))
 .dsimp only;refine qa (ja D.ho D.hd D.fits ?_);dsimp only;have I1:=D.si.put (x:=(yL prog w ks,Value.ref b)) n1 n2 n3;obtain⟨T1,p2,p3⟩:=T.put n1 n2;have hb:=(Ya T.rise j).2.2;have hb2:below t.place j<=es.size:=by rw[<- T.size];exact hb
  have pl1:(t.put j).1.plain=true:=D.pl;have le1:(t.put j).1.led=!Jl w:=D.ld;rw[pl1];simp only[if_true];refine qa (qkR tb ?_);simp only[if_true];have sz1:(insertAt es (t.put j).2 (yL prog w ks,Value.ref b)).size=es.size+1:=by rw[p2,ZP hb2]
  have en1:PySem.Paired (qbq prog w s.heap) (insertAt es (t.put j).2 (yL prog w ks,Value.ref b)).toList (kss.take (below t.place j)++ks::kss.drop (below t.place j)):=by
   rw[p2,qdq hb2];exact qay _ D.en ⟨tb,rfl⟩
  have ow1:∀ e∈(insertAt es (t.put j).2 (yL prog w ks,Value.ref b)).toList,Pv e.2:=fun e he=>by
   rw[p2,qdq hb2] at he;rcases qfX.mp he with rfl | he
   .exact pb
   .exact D.own e he
  have nd1:=qfO (p:=below t.place j) D.nd no;have fits1:(t.put j).1.fits (es.size+1)=true:=by
   unfold SetTable.fits SetTable.fill;rw[T1.dm,T1.size,T1.mask];simp;lia
  generalize (t.put j).1=t1 at *;generalize insertAt es (t.put j).2 (yL prog w ks,Value.ref b)=es1 at *;generalize hk1:kss.take (below t.place j)++ks::kss.drop (below t.place j)=kss1 at *;have mem1:∀ k,k∈kss1 ↔ k=ks\/k∈kss:=fun k=>by rw[<- hk1];exact qfX
  refine qa (wpAny_storeSet_of D.ho D.hd ?_ (by rw[sz1,sizeLine_eq];lia));have sb:Heap.SameBut a s.heap (s.heap.update a (Obj.putSet es1 t1)):=Heap.SameBut.update s.heap a _;have g1:=qbW D.ho D.hd es1 t1;have en2:PySem.Paired (qbq prog w (s.heap.update a (Obj.putSet es1 t1))) es1.toList kss1:=Paired.mapP en1 fun e k tt=>qgB D.ho D.ex.1 sb tt;generalize s.heap.update a (Obj.putSet es1 t1)=h1 at *;have tf:t1.tooFull=decide ((es.size+1) * 5 ≥ m * 3):=by
   unfold SetTable.tooFull SetTable.fill;rw[T1.dm,T1.size,T1.mask];rfl
  rw[tf];simp only[Bool.not_false,Bool.true_and,decide_eq_true_eq];by_cases c:(es.size+1) * 5 ≥ m * 3
  .rw [if_pos c];have big:∃ m',sizeAbove (grown (es.size+1))=m'+1/\Jy m' (es.size+1):=by
    rcases D.mok with⟨rfl,hlt⟩ | ⟨rfl,hlt⟩ | ⟨rfl,hlt⟩ | ⟨rfl,hlt⟩ | ⟨rfl,hlt⟩ | ⟨rfl,hlt⟩
    .have:es.size=4:=by lia
     rw[this];exact⟨31,by decide,.inr (.inl ⟨rfl,by lia⟩)⟩
    .have:es.size=18:=by lia
     rw[this];exact⟨127,by decide,.inr (.inr (.inl ⟨rfl,by lia⟩))⟩
    .have:es.size=76:=by lia
     rw[this];exact⟨511,by decide +kernel,.inr (.inr (.inr (.inl ⟨rfl,by lia⟩)))⟩
    .have:es.size=306:=by lia
     rw[this];exact⟨2047,by decide +kernel,.inr (.inr (.inr (.inr (.inl ⟨rfl,by lia⟩))))⟩
    .have:es.size=1228:=by lia
     rw[this];exact⟨8191,by decide +kernel,.inr (.inr (.inr (.inr (.inr ⟨rfl,by lia⟩))))⟩
    .lia
   obtain⟨m',w1,w2⟩:=big;refine qa (qhs (s:={ s with heap:=h1 }) (n:=0) g1 ⟨D.ex.1,D.ex.2.1,D.ex.2.2⟩ rfl pl1 le1 (by rw[sz1];exact fits1) en2 nd1 ow1 w1 (by rw[sz1];exact w2) fun h' kss' sb' S' mem'=>?_);exact qe (hout no h' kss' ⟨sb'.1.trans sb.1,fun b' ne=>(sb'.2 b' ne).trans (sb.2 b' ne)⟩ S' fun k=>(mem' k).trans (mem1 k))
  .rw [if_neg c];refine qe (hout no h1 kss1 sb ⟨_,es1,ep+1,t1,m,g1,⟨D.ex.1,D.ex.2.1,D.ex.2.2⟩,rfl,pl1,le1,?_,by rw[sz1];exact I1,en2,nd1,ow1⟩ mem1);rw[sz1];rcases D.mok with⟨rfl,hlt⟩ | ⟨rfl,hlt⟩ | ⟨rfl,hlt⟩ | ⟨rfl,hlt⟩ | ⟨rfl,hlt⟩ | ⟨rfl,hlt⟩
   .exact .inl ⟨rfl,by lia⟩
   .exact .inr (.inl ⟨rfl,by lia⟩)
   .exact .inr (.inr (.inl ⟨rfl,by lia⟩))
   .exact .inr (.inr (.inr (.inl ⟨rfl,by lia⟩)))
   .exact .inr (.inr (.inr (.inr (.inl ⟨rfl,by lia⟩))))
   .exact .inr (.inr (.inr (.inr (.inr ⟨rfl,by lia⟩))))
end
end L2
namespace L2
open W SetTable
theorem JJ {R R':α->β->Prop}:∀ {xs:List α}{ys:List β},PySem.Paired R xs ys->(∀ x∈xs,∀ y,R x y->R' x y)->PySem.Paired R' xs ys
 | _,_,.nil,_=>.nil
 | _,_,.cons r t,h=>.cons (h _ qi _ r) (JJ t fun x hx=>h x (qd _ hx))
def In0 (h0:Heap) (Pv:Value->Prop):Prop:=∀ v,Pv v->∃ b o,v = .ref b/\h0.get? b=some o
theorem jl.move {o:Obj}(e:h0.get? b=some o) (k0:Yb h0 h) (k1:Yb h0 h') (t:jl h (.ref b) ks):jl h' (.ref b) ks:=by
 obtain⟨b',o',xs,n,eb,ho,r⟩:=t;cases eb
 have:=k0 _ _ e;rw[this] at ho;cases ho
 exact⟨b,o,xs,n,rfl,k1 _ _ e,r⟩
theorem qbt.move (S:qbt prog w Pv h a kss) (hPv:In0 h0 Pv) (k0:Yb h0 h) (k1:Yb h0 h') (hs:∀ o,h.get? a=some o->h'.get? a=some o):qbt prog w Pv h' a kss:=by
 obtain⟨o,es,ep,t,m,D⟩:=S;refine⟨o,es,ep,t,m,hs _ D.ho,D.ex,D.hd,D.pl,D.ld,D.mok,D.si,JJ D.en fun e he ks ek=>?_,D.nd,D.own⟩;obtain⟨hh,v⟩:=e;obtain⟨b,o0,rfl,e0⟩:=hPv v (D.own _ he);exact⟨jl.move e0 k0 k1 ek.1,ek.2⟩
section
variable {P:Nat->Value->Prop}{St:Nat->Shared->Prop}
theorem qhl {key:Nat->List Int}(W:WalksS prog w A.in1 I fp wr (fun a b=>b=a) n P St) (hSf:S∉fp) (hS0:h0.get? S=none) (hwr:∀ b∈wr,h0.get? b=none) (hPv:In0 h0 Pv)
  (hval:∀ i v,P i v->jl h0 v (key i)/\Pv v) (hn:∀ ms:List (List Int),ms.Nodup->(∀ q∈ms,∃ j,j<n/\key j=q)->ms.length<4914) (hu:A.units+8<cLine) :
  ∀ (k i:Nat) (s:Shared) (kss:List (List Int)),n - i=k->i<=n->St i s->Yb h0 s.heap->qbt prog w Pv s.heap S kss->(∀ q,q∈kss ↔ ∃ j,j<i/\key j=q)->kss.length<=i →
   (∀ s' kss',Moved (S::wr) (fun a b=>b=a) s s'->Yb h0 s'.heap->qbt prog w Pv s'.heap S kss'->(∀ q,q∈kss' ↔ ∃ j,j<n/\key j=q)->kss'.length<=n->R (.ok (.ret .none)) s') →
   codeAny (model prog w) A (.builtin "set.update.loop" ⟨[.ref S,.ref I],[]⟩) R s:=by
 have hSw:S∉wr:=fun h=>hSf (W.sub _ h);have hsub:∀ b∈wr,b∈S::wr:=fun b hb=>qd _ hb;have kp:∀ {s s':Shared},Yb h0 s.heap->Moved wr (fun a b=>b=a) s s'->Yb h0 s'.heap:=fun k0 hm b o e=>hm.heap b o (fun z=>by rw[hwr b z] at e;cases e) (k0 b o e);intro k;induction k with
 | zero =>
  intro i s kss hk hi hst k0 hS hmem hlen hR;have hin:i=n:=by lia
  subst hin;refine codeAny_builtin F.entry_set_update_loop ?_;rw[Around.under_plainId F.plain_set_update_loop _];refine qa (m:=pyNext (.ref I)) (W.done s _ _ hst fun s' hm=>?_);refine qe (hR s' kss (hm.mono hsub) (kp k0 hm) ?_ hmem hlen);exact hS.move hPv k0 (kp k0 hm) fun o e=>hm.heap S o hSw e
 | succ k ih =>
  intro i s kss hk hi hst k0 hS hmem hlen hR;have hlt:i<n:=by lia
  refine codeAny_builtin F.entry_set_update_loop ?_;rw[Around.under_plainId F.plain_set_update_loop _];refine qa (m:=pyNext (.ref I)) (W.item i s _ _ hlt hst fun v s' hP hst' hm=>?_);have k1:=kp k0 hm;have hS':=hS.move hPv k0 k1 fun o e=>hm.heap S o hSw e;obtain⟨tv,pv⟩:=hval i v hP;obtain⟨b,o0,rfl,e0⟩:=hPv v pv;have tb:jl s'.heap (.ref b) (key i):=jl.move e0 (fun _ _ z=>z) k1 tv;refine qa (m:=holding [Value.ref b] (setAdd S (.ref b))) (yf ?_);unfold setAdd;refine yf ?_;have hu1:A.in1.units<cLine:=by show A.units+_<_;lia
  refine qa (wpAny_pyHash_tuple hu1 (tb.key (prog:=prog) (w:=w)) ?_);refine qjz (s:={ s' with toks:=s'.toks+((key i).length+1) }) hS' tb pv hu1 (hn kss (let ⟨_,_,_,_,_,D⟩:=hS;D.nd) fun q hq=>let ⟨j,hj,e⟩:=(hmem q).mp hq;⟨j,yJ hj hlt,e⟩) (fun hin=>?_) fun hout h' kss' sb S2 mem2=>?_
  .refine qe ⟨plainId_quiet F.plain_set_update_loop _,ih (i+1) _ kss (by lia) hlt (W.frame _ s' s'.heap _ hst' (by lia) fun b hb o e=>e) k1 hS' (fun q=>?_) (by lia) fun s'' kss'' hm'' k2 S'' mem'' len''=>?_⟩
   .rw [hmem q];constructor
    .rintro ⟨j,hj,e⟩;exact⟨j,by lia,e⟩
    .rintro ⟨j,hj,e⟩;by_cases c:j<i
     .exact ⟨j,c,e⟩
     .have:j=i:=by lia
      subst this;rw[e] at hin;exact (hmem q).mp hin
   .exact hR s'' kss'' (Moved.trans W.gtrans ((hm.mono hsub).then_heap (h':=s'.heap) (tk:=s'.toks+((key i).length+1)) (by lia) fun b o hb e=>e) hm'') k2 S'' mem'' len''
  .have k1':Yb h0 h':=fun b o e=>by
    rw[sb.2 b (fun z=>by rw[z,hS0] at e;cases e)];exact k1 b o e
   have hl':kss'.length<=i+1:=by
    obtain⟨_,_,_,_,_,D1⟩:=hS';obtain⟨_,_,_,_,_,D2⟩:=S2;have:kss'.length<=(key i::kss).length:=List.Nodup.length_le_of_subset D2.nd fun q hq=>by
     rcases (mem2 q).mp hq with rfl | z
     .exact qi
     .exact qd _ z
    simp only[yl] at this;lia
   refine qe ⟨plainId_quiet F.plain_set_update_loop _,ih (i+1) _ kss' (by lia) hlt (W.frame _ s' h' (s'.toks+((key i).length+1)) hst' (by lia) fun b hb o e=>?_) k1' S2 (fun q=>?_) hl' fun s'' kss'' hm'' k2 S'' mem'' len''=>?_⟩
   .rw [sb.2 b (fun h:b=S=>hSf (by rw[<- h];exact hb))];exact e
   .rw [mem2 q,hmem q];constructor
    .rintro (rfl | ⟨j,hj,e⟩)
     .exact ⟨i,by lia,rfl⟩
     .exact ⟨j,by lia,e⟩
    .rintro ⟨j,hj,e⟩;by_cases c:j<i
     .exact .inr ⟨j,c,e⟩
     .have:j=i:=by lia
      subst this;exact .inl e.symm
   .refine hR s'' kss'' (Moved.trans W.gtrans ((hm.mono hsub).then_heap (h':=h') (tk:=s'.toks+((key i).length+1)) (by lia) fun b o hb e=>?_) hm'') k2 S'' mem'' len'';rw[sb.2 b (fun h:b=S=>hb (by rw[h];exact qi))];exact e
end
end L2
namespace L2
open W SetTable
abbrev Zi (w:World):Obj:={ cls:=.type "set",dict:=none,data:=.set #[] 0 (.fresh 0 0 (!Jl w)) }
theorem qe9:qjE #[]:=fun i j a b=>absurd b (by simp)
theorem qdj (e:h.get? a=some (Zi w)):qbt prog w Pv h a [] :=
 ⟨_,#[],0,_,7,e,⟨rfl,rfl,rfl⟩,rfl,rfl,rfl,.inl ⟨rfl,by decide⟩,⟨⟨rfl,rfl,rfl,qe9,fun i j z=>by simp[SetTable.fresh] at z⟩,rfl,fun j e ⟨i,z,_⟩=>by simp[SetTable.fresh] at z⟩,.nil,List.nodup_nil,fun e z=>by simp at z⟩
theorem qhk (x:Value) {Q₁:Value->Shared->Prop}(q:Q₁ (.ref s.heap.objs.size) { s with heap:=s.heap.push (Zi w) }) :
  codeAny (model prog w) A (.call (.builtin "set.__new__") ⟨[.type "set",x],[]⟩) (wants Q₁ E) s:=by
 refine codeAny_of_tree ?_;refine qa (m:=checkBuiltinCall "set.__new__" ⟨[.type "set",x],[]⟩) (wpAny_of_eq (F.newCall_set_1 x) (qe ⟨plainId_quiet F.plain_set_new _,codeAny_builtin F.entry_set_new ?_⟩));rw[Around.under_plainId F.plain_set_new _];unfold Builtin.«set.__new__» Builtin.Frozenset.newClass;have hsub:=sub_set_self;obtain⟨hp,g,d,tk,os⟩:=s;dsimp only
 wp_walk
 refine Jz (qe ?_);dsimp only;simp only[newObj];refine qa (wpAny_alloc (qe (qe q)))
theorem qdW {l:Addr}{vs:List Value}{Q:Value->Shared->Prop}(hh:A.handled=none) (hl:s.heap.IsList l vs.toArray) (hT:PySem.Paired (jl s.heap) vs kss) (hn:∀ ms:List (List Int),ms.Nodup->(∀ q∈ms,q∈kss)->ms.length<4914) (hu:A.units+64<cLine)
  (h:∀ h' tk ms,qbt prog w (·∈vs) h' s.heap.objs.size ms->(∀ q,q∈ms ↔ q∈kss)->Yb s.heap h'->Q (.ref s.heap.objs.size) { s with heap:=h',toks:=tk }):wpAny (model prog w) A (call (.type "set") [.ref l]) Q E s:=by
 obtain⟨c,tl,hmro⟩:=F.called_set.mro;have made:=F.called_set.made;have sub:=F.called_set.sub;refine wpAny_call (codeAny_of_tree ?_);show wpAny (model prog w) _ (callAny (.type "set") _) _ _ s;refine qe ⟨Code.quiet_builtin _ (by decide +kernel),codeAny_builtin F.entry_type_call ?_⟩;rw[Around.under_plain (weight_type_call_type "set" [Value.ref l] []) rfl];have t1:=F.called_set.notType;have t2:=F.called_set.canCreate;have t3:=F.typeCall_set_1 (Value.ref l)
 repeat (any_goals first | assumption | wp_step)
 refine codeAny_mono (qhk (prog:=prog) (.ref l) (E:=E) (Q₁:=fun v sa1=>v = .ref s.heap.objs.size/\sa1={ s with heap:=s.heap.push (Zi w) }) ⟨rfl,rfl⟩) fun r sa1 hr=>?_;cases r with
 | error e=>exact hr
 | ok fl =>
  cases fl with
  | next=>exact hr.elim
  | brk=>exact hr.elim
  | cont=>exact hr.elim
  | ret v =>
   obtain⟨rfl,rfl⟩:=hr;have hS:(s.heap.push (Zi w)).get? s.heap.objs.size=some (Zi w):=qA _ rfl;have hTy:Shared.TypeIs { s with heap:=s.heap.push (Zi w) } (.ref s.heap.objs.size) "set" := ⟨_,hS,rfl⟩;have i1:=F.called_set.init.lookup;have i2:=F.called_set.init.bind (.ref s.heap.objs.size)
   repeat (any_goals first | assumption | wp_step)
   refine codeAny_mono (codeAny_call_builtin (R:=wants (fun r sa2=>r = .none/\∃ h' tk ms,sa2={ s with heap:=h',toks:=tk }/\qbt prog w (·∈vs) h' s.heap.objs.size ms/\(∀ q,q∈ms ↔ q∈kss)/\Yb s.heap h') E)
    F.called_set.init.plain F.entry_set_init (check_set_init_1 hTy ?_)) fun ra2 sa2 har2=>?_
   .obtain ⟨ol,hol,hcl,nl,hdl⟩:=hl;obtain⟨ocls,odict,odata,oslots⟩:=ol;simp only at hcl hdl;subst hcl;subst hdl;have hlt:l<s.heap.objs.size:=ql hol;have hol1:(s.heap.push (Zi w)).get? l=some { cls:=.type "list",dict:=odict,data:=.seq vs.toArray nl,slots:=oslots }:=qh _ hol;have s1:=F.sub_list_set;have s2:=F.sub_list_frozenset;have s3:(Value.type "list" == Value.type "dict")=false:=by decide
    have hl1:(s.heap.push (Zi w)).IsList l vs.toArray:=⟨_,hol1,rfl,nl,rfl⟩;unfold Builtin.«set.__init__» noKeywords Builtin.Frozenset.updateFrom;generalize hPI:pyIter=PI
    wp_walk
    subst hPI;refine wpAny_pyIter_list hl1 (qa (wpAny_runValue ?_));have sz1:(s.heap.push (Zi w)).objs.size=s.heap.objs.size+1:=JD ..;have kp2:Yb s.heap ((s.heap.push (Zi w)).push { cls:=.type "list_iterator",data:=.fields #[.ref l,.int 0 0] }):=fun b o e=>qh _ (qh _ e);have no:∀ b,s.heap.objs.size<=b->s.heap.get? b=none:=fun b hb=>by
     cases z:s.heap.get? b with
     | none=>rfl
     | some o=>exact absurd (ql z) (Nat.not_lt.mpr hb)
    have hin:In0 s.heap (·∈vs):=fun v hv=>by
     obtain⟨i,ei⟩:=yk hv;obtain⟨ks,_,b,o,xs,n,e,ho,_⟩:=L2.Paired.get hT ei;exact⟨b,o,e,ho⟩
    refine qhl (A:=A.in1.in1) (key:=fun i=>kss.getD i []) (h0:=s.heap) (Pv:=(·∈vs)) (Walks.list (by simp[hh]) _ l (by rw[sz1];exact qp (Nat.lt_succ_of_lt hlt)) vs.toArray).toS (S:=s.heap.objs.size) ?_ (no _ (qo _)) (fun b hb=>?_) hin
     (fun i v hv=>?_) (fun ms nd hm=>hn ms nd fun q hq=>by
      obtain⟨j,hj,e⟩:=hm q hq;have hk:j<kss.length:=by
       rw[<- L2.Paired.len hT];simpa using hj
      rw[qX,qf hk] at e;rw[<- e];exact ya hk) (by show A.units+1+1+8<_;lia) (vs.toArray.size - 0) 0 _ [] rfl (qZ _) ⟨⟨_,qA _ rfl,rfl,rfl⟩,hl1.push _⟩ kp2 (qdj (qh _ hS)) (fun q=>by simp) (qZ _) fun s' ms hm k2 S2 mem2 _=>?_
    .rw [sz1];simp only[qG,List.not_mem_nil,or_false,not_or];exact⟨qp (y4 _),Nat.ne_of_gt hlt⟩
    .rw [qE.mp hb,sz1];exact no _ (Nat.le_succ _)
    .have hv':vs[i]?=some v:=by simpa using hv
     have hi:i<vs.length:=(qm.mp hv').1;have:=Jd hT i hi;rw[qX,hv'] at this;exact⟨this,List.mem_of_getElem? hv'⟩
    .obtain ⟨h',g',d',tk',os'⟩:=s';have e1:g'=s.gens:=hm.gens;have e2:d'=s.drawn:=hm.drawn;have e3:os'=s.os:=hm.os;subst e1;subst e2;subst e3;refine qe ?_;refine qe ⟨rfl,h',tk',ms,rfl,S2,fun q=>?_,k2⟩;rw[mem2 q,qz,L2.Paired.len hT];constructor
     .rintro ⟨j,hj,e⟩;rw[qX,qf hj] at e;exact e ▸ ya hj
     .intro hq;obtain⟨j,hj,e⟩:=List.getElem_of_mem hq;exact⟨j,hj,by rw[qX,qf hj];exact e⟩
   .cases ra2 with
    | error e=>exact har2
    | ok fal2 =>
     cases fal2 with
     | next=>exact har2.elim
     | brk=>exact har2.elim
     | cont=>exact har2.elim
     | ret r =>
      obtain⟨rfl,h',tk,ms,rfl,q1,q2,q3⟩:=har2
      repeat (any_goals first | assumption | wp_step)
      exact h _ _ _ q1 q2 q3
theorem qaA [DecidableEq α]:∀ {ms kss:List α},ms.Nodup->(∀ q∈ms,q∈kss)->ms.length<=kss.length
 | [],_,_,_=>qZ _
 | a::ms,kss,hn,h=>by
  have ha:=h a qi;have h1:=qaA (ms:=ms) (kss:=kss.erase a) (yx.mp hn).2 (fun q hq=>by
   have hne:q≠a:=fun z=>(yx.mp hn).1 (z ▸ hq);exact (List.mem_erase_of_ne hne).mpr (h q (qd _ hq)))
  rw[List.length_erase_of_mem ha] at h1;have:=List.length_pos_of_mem ha;simp only[yl];lia
end L2
namespace L2
open W SetTable
variable {es:Array (Int×Value)}{t:SetTable}{slot:Nat}
theorem Jp:Slot "set_iterator" "__next__" "set_iterator.__next__" :=
 .of (owner := "set_iterator") (n := "__next__") (by rw[typeLookup_type,builtinLookup_eq_fast];kernel_rfl) (by decide +kernel) (by decide +kernel) (by decide +kernel) (by first | exact .inl (by decide +kernel) | exact .inr (by decide +kernel)) (by rw[isSubtype_type];kernel_rfl)
theorem Zv:Slot "set_iterator" "__iter__" "set_iterator.__iter__" :=
 .of (owner := "set_iterator") (n := "__iter__") (by rw[typeLookup_type,builtinLookup_eq_fast];kernel_rfl) (by decide +kernel) (by decide +kernel) (by decide +kernel) (by first | exact .inl (by decide +kernel) | exact .inr (by decide +kernel)) (by rw[isSubtype_type];kernel_rfl)
theorem qba:entryFor table "set_iterator.__next__" = some Builtin.«set_iterator.__next__»:=entryFor_of_fast (by kernel_rfl)
theorem qbb:entryFor table "set_iterator.__iter__" = some Builtin.«dict_keyiterator.__iter__»:=entryFor_alias (id' := "dict_keyiterator.__iter__") (by kernel_rfl) rfl (by decide +kernel) (by kernel_rfl)
theorem qcd (a:Value):argsOk "set_iterator.__next__" ⟨[a],[]⟩:=by unfold argsOk;kernel_rfl
theorem qce (a:Value):argsOk "set_iterator.__iter__" ⟨[a],[]⟩:=by unfold argsOk;kernel_rfl
theorem qb0:entryFor table "set.__iter__" = some Builtin.«frozenset.__iter__»:=entryFor_alias (id' := "frozenset.__iter__") (by kernel_rfl) rfl (by decide +kernel) (by kernel_rfl)
theorem qd8 {l:List α}(h:i<l.length):(l[i]::l.eraseIdx i).Perm l:=by
 rw[List.eraseIdx_eq_take_drop_succ];have e:l=l.take i++l[i]::l.drop (i+1):=by rw[<- jY h,qW]
 exact List.perm_middle.symm.trans (List.Perm.of_eq e.symm)
theorem qfo (next:Nat->Nat):∀ (fu k:Nat) (left:List α) (out:Array α),left.length=fu->(pickOrder.go next fu k left out).toList.Perm (out.toList++left)
 | 0,k,left,out,h=>by
  cases List.length_eq_zero_iff.mp h
  simp[pickOrder.go]
 | fu+1,k,left,out,h=>by
  unfold pickOrder.go;have hlt:next k % left.length<left.length:=Nat.mod_lt _ (by lia)
  simp only[qf hlt];have ih:=qfo next fu (k+1) (left.eraseIdx (next k % left.length)) (out.push left[next k % left.length]) (by rw[List.length_eraseIdx_of_lt hlt];lia)
  refine ih.trans ?_;rw[jd,qu];exact List.Perm.append_left _ (qd8 hlt)
def qaX (w:World) (S:Addr) (ep:Nat) (es:Array (Int×Value)):Array (Int×Value):=if Jl w=true then pickOrder (w.params.setOrder S ep) es else es
theorem Z9 (w:World) (S:Addr) (ep:Nat) (es:Array (Int×Value)):(qaX w S ep es).toList.Perm es.toList:=by
 unfold qaX;split
 .have:=qfo (w.params.setOrder S ep) es.size 0 es.toList #[] (by simp);have this:(pickOrder.go (w.params.setOrder S ep) es.size 0 es.toList #[]).toList.Perm es.toList:=by simpa using this
  exact this
 .exact List.Perm.refl _
theorem Yk (w:World) (S:Addr) (ep:Nat) (es:Array (Int×Value)):(qaX w S ep es).size=es.size:=by
 have:=(Z9 w S ep es).length_eq;simpa using this
theorem qcr {R:α->β->Prop}{xs xs':List α}(p:xs.Perm xs'):∀ {ys:List β},PySem.Paired R xs ys->∃ ys',PySem.Paired R xs' ys'/\ys.Perm ys':=by
 induction p with
 | nil=>intro ys h;exact⟨ys,h,List.Perm.refl _⟩
 | cons x _ ih =>
  intro ys h;cases h with
  | cons r t =>
   obtain⟨zs,h1,h2⟩:=ih t;exact⟨_,.cons r h1,h2.cons _⟩
 | swap x y l =>
  intro ys h;cases h with
  | cons r t =>
   cases t with
   | cons r' t'=>exact⟨_,.cons r' (.cons r t'),List.Perm.swap ..⟩
 | trans _ _ ih1 ih2 =>
  intro ys h;obtain⟨y1,a1,b1⟩:=ih1 h;obtain⟨y2,a2,b2⟩:=ih2 a1;exact⟨y2,a2,b1.trans b2⟩
section
variable {o:Obj}
structure SetB (w:World) (h:Heap) (a:Addr) (o:Obj) (es:Array (Int×Value)) (ep:Nat) (t:SetTable) (m:Nat):Prop where
 ho:h.get? a=some o
 ex:o.ExactSet
 hd:o.data = .set es ep t
 fits:t.fits es.size=true
 pl:t.plain=true
 ld:t.led=!Jl w
 tab:Tab t m es.size
theorem SetD.toB (D:SetD prog w Pv s.heap a o es ep t m kss):SetB w s.heap a o es ep t m:=⟨D.ho,D.ex,D.hd,D.fits,D.pl,D.ld,D.si.tab⟩
theorem SetB.at (B:SetB w h a o es ep t m) (k:h.get? a=some o->h'.get? a=some o):SetB w h' a o es ep t m:=⟨k B.ho,B.ex,B.hd,B.fits,B.pl,B.ld,B.tab⟩
theorem qjK (D:SetB w s.heap a o es ep t m) {Q:Array (Int×Value)->Shared->Prop}(q:Q (qaX w a ep es) s):wpAny (model prog w) A (setWalk a) Q E s:=by
 unfold setWalk setsByText;refine qa (ja D.ho D.hd D.fits ?_);dsimp only;refine qa (qa (Jz (qe ?_)));show wpAny _ _ (if Jl w=true then _ else _) _ _ _;cases hb:Jl w with
 | true =>
  rw[if_pos rfl];refine qa (Jz (qe ?_));unfold qaX at q;rw[if_pos hb] at q;exact q
 | false =>
  unfold qaX at q;rw[if_neg (by rw[hb];decide)] at q;have hled:t.led=true:=by rw[D.ld,hb];rfl
  rw[if_neg (by decide)];show wpAny _ _ (if (!t.plain && decide (es.size > 1))=true then _ else _) _ _ _;rw[if_neg (by rw[D.pl];simp)];refine qa (show wpAny _ _ (if (!t.led && decide (es.size > 1))=true then _ else _) _ _ _ from ?_);rw[if_neg (by rw[hled];simp)];exact qe (qe q)
theorem qkC (D:SetB w s.heap a o es ep t m) (hb:Jl w=false->below t.place slot=i) {Q:Option (Value×Nat)->Shared->Prop}
  (q:∀ nx,(Jl w=false->i<es.size->below t.place nx=i+1)->Q (((qaX w a ep es)[i]?).map fun e=>(e.2,nx)) s):wpAny (model prog w) A (setNext a slot i ep) Q E s:=by
 unfold setNext setsByText;refine qa (ja D.ho D.hd D.fits ?_);dsimp only;refine qa (qa (Jz (qe ?_)));show wpAny _ _ (if Jl w=true then _ else _) _ _ _;cases hb':Jl w with
 | true =>
  rw[if_pos rfl,if_neg (by simp)];refine qa (qjK D (qe (q slot fun z=>?_)));rw[hb'] at z;cases z
 | false =>
  have hled:t.led=true:=by rw[D.ld,hb'];rfl
  rw[if_neg (by decide)];show wpAny _ _ (if (!t.plain && decide (es.size > 1))=true then _ else _) _ _ _;rw[if_neg (by rw[D.pl];simp)];refine qa (show wpAny _ _ (if (!t.led && !es.isEmpty)=true then _ else _) _ _ _ from ?_);rw[if_neg (by rw[hled];simp)];refine qe ?_;rw[hb hb'];have T:=D.tab;have eo:qaX w a ep es=es:=by unfold qaX;rw[if_neg (by rw[hb'];decide)]
  rw[eo] at q;refine qe ?_;by_cases hi:i<es.size
  .have hp:t.place[i]?=some (t.place.getD i 0):=getD_some (by rw[T.size];exact hi);have he:es[i]?=some es[i]:=by simp[hi]
   have nx:=q (t.place.getD i 0+1) fun _ _=>by
    obtain⟨b1,b2,b3⟩:=Ya T.rise (t.place.getD i 0+1);rw[T.size] at b2 b3;rcases Nat.lt_trichotomy (below t.place (t.place.getD i 0+1)) (i+1) with z | z | z
    .have:=b2 i (by lia) hi;lia
    .exact z
    .have c:=b1 (i+1) z;have d:=T.rise i (i+1) (by lia) (by rw[T.size];lia);lia
   rw[he] at nx;rw[hp,he];exact nx
  .have he:es[i]?=none:=by simp;lia
   have nx:=q 0 fun _ z=>absurd z hi;rw[he] at nx;rw[he];exact nx
end
def SIt (h:Heap) (I S:Addr) (slot i n ep:Nat):Prop:=∃ o,h.get? I=some o/\o.cls = .type "set_iterator" /\ o.data = .fields #[.int slot 0,.int i 0,.ref S,.int n 0,.int ep 0]
theorem SIt.typeIs (h:SIt s.heap I S slot i n ep):s.TypeIs (.ref I) "set_iterator" := let ⟨o,ho,hc,_⟩:=h;⟨o,ho,hc⟩
section
variable {o:Obj}
structure StS (w:World) (h:Heap) (I S:Addr) (o:Obj) (es:Array (Int×Value)) (ep:Nat) (t:SetTable) (m i:Nat):Prop where
 it:∃ slot,SIt h I S slot i es.size ep/\(Jl w=false->i<=es.size->below t.place slot=i)
 st:SetB w h S o es ep t m
theorem qgj (hI:I≠S) (st:StS w s.heap I S o es ep t m i) (hi:i<=es.size) {Q:Option Value->Shared->Prop}
  (hit:∀ e h',(qaX w S ep es)[i]?=some e->StS w h' I S o es ep t m (i+1)->(∀ b ob,b≠I->s.heap.get? b=some ob->h'.get? b=some ob)->Q (some e.2) { s with heap:=h' })
  (hend:i=es.size->A.handled=none/\∀ h',(∀ b ob,b≠I->s.heap.get? b=some ob->h'.get? b=some ob)->Q none { s with heap:=h' }):wpAny (model prog w) A (pyNext (.ref I)) Q E s:=by
 obtain⟨⟨slot,hs,hb⟩,B⟩:=st;obtain⟨oi,hoi,hci,hdi⟩:=id hs;unfold pyNext;refine qa (wpAny_attempt (wpAny_callSpecial?_slot (name:=Str.ofString "__next__") hs.typeIs Jp (jC Jp hs.typeIs qba ?_ (qcd _))));unfold Builtin.«set_iterator.__next__»;refine qa (m:=slotArgs "__next__" 0 ⟨[.ref I],[]⟩) (qe ?_);dsimp only;refine qa (wpAny_fieldsOf hoi hdi ?_);dsimp only;refine qa (wpAny_setEntries_of B.ho B.hd B.fits ?_);rw[if_neg (by simp)];refine qa ?_;simp only[Int.toNat_natCast];refine qkC B (fun z=>hb z hi) fun nx hnx=>?_;by_cases hlt:i<es.size
 .have hlt':i<(qaX w S ep es).size:=by rw[Yk];exact hlt
  have eq:(qaX w S ep es)[i]?=some (qaX w S ep es)[i]:=by simp[hlt']
  rw[eq];dsimp only[Option.map_some];refine qa (wpAny_setField hoi hdi (by simp) ?_);have h1:=yo (Obj.mapFields (·.setIfInBounds 0 (rawInt nx))) hoi (Obj.isFreed_of_fields (Obj.data_mapFields hdi _));have d1:=Obj.data_mapFields hdi (·.setIfInBounds 0 (rawInt (nx:Int)));refine qa (wpAny_setField h1 d1 (by simp) (qe ⟨_,rfl,qe ?_⟩));have h2:=yo (Obj.mapFields (·.setIfInBounds 1 (rawInt ((i:Int)+1)))) h1 (Obj.isFreed_of_fields (Obj.data_mapFields d1 _));have kp:∀ b ob,b≠I->s.heap.get? b=some ob->((s.heap.update I (Obj.mapFields (·.setIfInBounds 0 (rawInt nx)))).update I (Obj.mapFields (·.setIfInBounds 1 (rawInt ((i:Int)+1))))).get? b=some ob:=fun b ob hb e =>
   (qY _ _ (Ne.symm hb)).trans ((qY _ _ (Ne.symm hb)).trans e)
  refine hit _ _ eq ⟨⟨nx,⟨_,h2,?_,?_⟩,fun z _=>hnx z hlt⟩,B.at (kp S _ (Ne.symm hI))⟩ kp
  .rw [Obj.cls_mapFields,Obj.cls_mapFields];exact hci
  .rw [Obj.data_mapFields d1];simp[rawInt]
 .have he:i=es.size:=by lia
  obtain⟨hh,hq⟩:=hend he;have eq:(qaX w S ep es)[i]?=none:=by simp[Yk];lia
  rw[eq];dsimp only[Option.map_none];refine qa (wpAny_setField hoi hdi (by simp) ?_);refine qa ?_;simp only[newExc,newTuple];refine qa (yF ?_ (by size_fits));refine qa (m:=firstArgMember _ _) (wpAny_of_eq (a:=Value.none) (by first | rfl | (simp only[firstArgMember];rfl)) ?_);refine yF ?_ (by size_fits);simp only[raiseNew];refine qa (wpAny_handled ?_);rw[show A.in1.handled=none from hh];refine qa (qe (wpAny_throw ?_));refine qa (wpAny_isInstance (T := "StopIteration") (b:=true) ⟨_,qA _ rfl,rfl⟩ isSubtype_stop ?_);refine qe (hq _ fun b ob hb e=>?_);exact qh _ (qh _ ((qY _ _ (Ne.symm hb)).trans e))
theorem qev (hh:A.handled=none) (hI:I≠S):Walks prog w A I [I,S] [I] es.size (fun i v=>((qaX w S ep es)[i]?).map (·.2)=some v) (fun i h=>StS w h I S o es ep t m i) where
 sub:=fun b hb=>by simp at hb;simp[hb]
 frame:=fun i h h' st hk=>by
  obtain⟨⟨slot,⟨oi,e1,e2⟩,hb⟩,B⟩:=st;exact⟨⟨slot,⟨oi,hk I (by simp) _ e1,e2⟩,hb⟩,B.at (hk S (by simp) _)⟩
 item:=fun i s Q E hi st hQ=>qgj hI st (by lia) (fun e h' eo st' kp=>hQ e.2 h' s.toks (by rw[eo];rfl) st' fun b ob hb=>kp b ob fun z=>hb (by simp[z])) fun z=>absurd z (by lia)
 done:=fun s Q E st hQ=>qgj hI st (qo _) (fun e h' eo _ _=>by
  have:(qaX w S ep es)[es.size]?=none:=by simp[Yk]
  rw[this] at eo;cases eo) fun _=>⟨hh,fun h' kp=>hQ h' s.toks fun b ob hb=>kp b ob fun z=>hb (by simp[z])⟩
 self:=fun i s Q E st hQ=>by
  obtain⟨⟨slot,hs,hb⟩,B⟩:=st;refine wpAny_pyIter_slot hs.typeIs Zv (jC Zv hs.typeIs qbb ?_ (qce _));show wpAny _ _ (ret (.ref I)) _ _ s;exact qe ⟨_,rfl, "set_iterator",_,hs.typeIs,Jp.lookup,hQ⟩
theorem qh3 (B:SetB w s.heap S o es ep t m) {Q:Value->Shared->Prop}(q:∀ h',Yb s.heap h'->StS w h' s.heap.objs.size S o es ep t m 0->h'.objs.size=s.heap.objs.size+1->Q (.ref s.heap.objs.size) { s with heap:=h' }):wpAny (model prog w) A (pyIter (.ref S)) Q E s:=by
 have hT:s.TypeIs (.ref S) "set" := ⟨o,B.ho,B.ex.1⟩;refine wpAny_pyIter_slot hT F.slot_set_iter (jC F.slot_set_iter hT qb0 ?_ (F.args_set_iter_1 _));unfold Builtin.«frozenset.__iter__» Builtin.Frozenset.slot0;refine qa (qa (m:=slotArgs "__iter__" 0 ⟨[.ref S],[]⟩) (qe (qe ?_)));unfold Builtin.Frozenset.sizeOf setDrawn setsByText setEpoch;refine qa (qa (wpAny_setEntries_of B.ho B.hd B.fits (qe ?_)));refine qa (qa (ja B.ho B.hd B.fits ?_));dsimp only;refine qa (qa (Jz (qe (qe ?_))));rw[if_neg (by show ¬ ((!Jl w && (!t.plain && decide (es.size > 1)))=true);rw[B.pl];simp)];refine qa (qe ?_);refine qa (qa (ja B.ho B.hd B.fits (qe ?_)));refine qa (yF (qe ⟨_,rfl, "set_iterator",_,⟨_,qA _ rfl,rfl⟩,Jp.lookup,q _ (fun b ob e=>qh _ e) ⟨⟨0,⟨_,qA _ rfl,rfl,rfl⟩,fun _ _=>?_⟩,B.at (qh _)⟩ (JD ..)⟩));obtain⟨b1,b2,b3⟩:=Ya B.tab.rise 0;rcases Nat.eq_zero_or_pos (below t.place 0) with z | z
 .exact z
 .exact absurd (b1 0 z) (by lia)
theorem qcO (hh:A.handled=none) (B:SetB w s.heap S o es ep t m) (hz:es.size<4915) {Q:List Value->Shared->Prop}(hQ:∀ h' tk,Yb s.heap h'->Q ((qaX w S ep es).toList.map (·.2)) { s with heap:=h',toks:=tk }):wpAny (model prog w) A (collect (.ref S)) Q E s:=by
 have hlt:S<s.heap.objs.size:=ql B.ho;unfold collect;refine qa (wpAny_runValue (codeAny_builtin F.entry_proto_collect ?_));rw[Around.under_plainId F.plain_proto_collect _];refine qa (m:=newList []) (yF ?_);refine qe ⟨plainId_quiet F.plain_list_iadd _,codeAny_builtin F.entry_list_iadd ?_⟩;rw[Around.under_plainId F.plain_list_iadd _];have B1:SetB w (s.heap.push { cls:=.type "list",data:=.seq ([]:List Value).toArray }) S o es ep t m:=B.at (qh _);have hL:(s.heap.push { cls:=.type "list",data:=.seq ([]:List Value).toArray }).get? s.heap.objs.size=some { cls:=.type "list",data:=.seq ([]:List Value).toArray }:=qA _ rfl;have kp1:Yb s.heap (s.heap.push { cls:=.type "list",data:=.seq ([]:List Value).toArray }):=fun b ob e=>qh _ e;have sz1:(s.heap.push { cls:=.type "list",data:=.seq ([]:List Value).toArray }).objs.size=s.heap.objs.size+1:=JD ..;show wpAny (model prog w) A.in1 (Builtin.List.listExtendWith (.ref s.heap.objs.size) (.ref S) (.ref s.heap.objs.size)) _ _ { s with heap:=s.heap.push { cls:=.type "list",data:=.seq ([]:List Value).toArray } };generalize s.heap.push { cls:=.type "list",data:=.seq ([]:List Value).toArray }=h1 at *;have hT:Shared.TypeIs { s with heap:=h1 } (.ref S) "set" := ⟨o,B1.ho,B1.ex.1⟩;have ne:Builtin.List.listSameRef (.ref s.heap.objs.size) (.ref S)=false:=by simp only[Builtin.List.listSameRef];exact beq_false_of_ne (Nat.ne_of_gt hlt)
 unfold Builtin.List.listExtendWith;refine qa (wpAny_typeOf hT ?_);rw[if_neg (by rw[ne];decide)];refine qa (qh3 (s:={ s with heap:=h1 }) B1 fun h2 kp2 st2 sz2=>?_);have hT2:Shared.TypeIs { s with heap:=h2 } (.ref S) "set" := ⟨o,st2.st.ho,B1.ex.1⟩;have hL2:=kp2 _ _ hL;refine qa (yf ?_);unfold Builtin.List.listLengthHint;refine qa (wpAny_specialOf hT2 F.slot_set_len.lookup ?_);generalize hid:("set.__len__" : String)=id0
 wp_delta
 rw[show splitId id0=some ("set", "__len__") from by subst hid;decide +kernel];subst hid;refine qa (wpAny_isInstance (b:=true) hT2 sub_set_self ?_);refine qa (m:=typeOf (.ref S)) (wpAny_typeOf hT2 (qe ?_));show wpAny (model prog w) A.in1 (rule "list.extend.makes-room" >>= fun _=>Builtin.List.listTouch (.ref s.heap.objs.size) >>= fun _=>again (.builtin "list.extend.loop" ⟨[.ref s.heap.objs.size,.ref h1.objs.size,.ref s.heap.objs.size],[]⟩)) _ _ _;refine qa (j6 (qa ?_));show wpAny (model prog w) A.in1 (updateSeq s.heap.objs.size (·.push .none) >>= fun _=>updateSeq s.heap.objs.size (·.pop)) _ _ _;refine qa (wpAny_updateSeq hL2 rfl ?_);have hL3:=yo (Obj.mapSeq (·.push Value.none)) hL2 rfl;refine wpAny_updateSeq hL3 rfl ?_;have hL4:=yo (Obj.mapSeq (·.pop)) hL3 rfl;have oth:∀ b ob,b≠s.heap.objs.size->h2.get? b=some ob->((h2.update s.heap.objs.size (Obj.mapSeq (·.push Value.none))).update s.heap.objs.size (Obj.mapSeq (·.pop))).get? b=some ob :=
  fun b ob hb e=>(qY _ _ (Ne.symm hb)).trans ((qY _ _ (Ne.symm hb)).trans e)
 have hI:h1.objs.size≠S:=fun z=>by
  have:=ql B1.ho;rw[<- z] at this;exact yz _ this
 have hIL:h1.objs.size≠s.heap.objs.size:=by rw[sz1];exact Nat.ne_of_gt (y4 _)
 have W:WalksS prog w A.in1 h1.objs.size [h1.objs.size,S] [h1.objs.size] (fun a b=>b=a) es.size (fun i v=>((qaX w S ep es)[i]?).map (·.2)=some v) (fun i s=>StS w s.heap h1.objs.size S o es ep t m i):=(qev (A:=A.in1) hh hI).toS;refine qe ⟨plainId_quiet F.plain_extend_loop _,codeAny_extend_loopS W (by rw[sizeLine_eq];lia) s.heap.objs.size (fun hm=>?_) _ es.size 0 _ _ _ rfl (qZ _) ?_ hL4 (ItemsOf.nil _) fun s' acc' c' hm hS' hacc=>?_⟩
 .rcases qG.mp hm with z | z
  .exact hIL z.symm
  .exact Nat.ne_of_gt hlt (qE.mp z)
 .obtain ⟨⟨slot,⟨oi,e1,e2⟩,hb⟩,B2⟩:=st2;exact⟨⟨slot,⟨oi,oth _ _ hIL e1,e2⟩,hb⟩,B2.at (oth _ _ (qp hlt))⟩
 .refine qa (m:=load s.heap.objs.size) (wpAny_load hS' ?_);have kp:Yb s.heap s'.heap:=fun b ob e=>by
   have hb:b<s.heap.objs.size:=ql e;refine hm.heap b ob (fun z=>?_) (oth b ob (qp hb) (kp2 _ _ (kp1 _ _ e)));rcases qG.mp z with z | z
   .exact qp hb z
   .rw [qE.mp z,sz1] at hb;exact absurd hb (Nat.not_lt.mpr (Nat.le_succ _))
  have ea:acc'.toList=(qaX w S ep es).toList.map (·.2):=by
   apply List.ext_getElem?;intro i;rw[qK,qy,qy];cases z:acc'[i]? with
   | some v=>exact (hacc.2 i v z).symm
   | none =>
    have:acc'.size<=i:=by simpa using z
    rw[hacc.1,<- Yk w S ep es] at this;rw[yu this];rfl
  have fin:=hQ s'.heap s'.toks kp;rw[<- ea] at fin;obtain⟨h',g',d',tk',os'⟩:=s';have e1:g'=s.gens:=hm.gens;have e2:d'=s.drawn:=hm.drawn;have e3:os'=s.os:=hm.os;subst e1;subst e2;subst e3;exact qe fin
end
end L2
namespace L2
open W SetTable
section
variable {Pv':Value->Prop}{S1 S2:Addr}{k1 k2:List (List Int)}
end
end L2
namespace L2
variable {g:Int->Int->Int}
mutual
theorem Is.same {K:W.Frag}{H H':Hp}(s:yr H H'):∀ {v:V}{d:PyData},Is K H v d->Is K H' v d
 | _,_,.non=>.non
 | _,_,.bl b=>.bl b
 | _,_,.int i=>.int i
 | _,_,.str x=>.str x
 | _,_,.lst h hs=>.lst (yr.seq s h) (IsAll.same s hs)
 | _,_,.tup h hs=>.tup (by
   rcases h with (e | ⟨o,e⟩) | e
   .exact .inl (.inl (s _ _ e))
   .exact .inl (.inr ⟨o,s _ _ e⟩)
   .exact .inr e) (IsAll.same s hs)
 | _,_,.dc h=>.dc (s _ _ h)
theorem IsAll.same {K:W.Frag}{H H':Hp}(s:yr H H'):∀ {vs:List V}{ds:List PyData},IsAll K H vs ds->IsAll K H' vs ds
 | _,_,.nil=>.nil
 | _,_,.cons h hs=>.cons (Is.same s h) (IsAll.same s hs)
end
theorem IsAll.len : ∀ {vs:List V}{ds:List PyData},IsAll K H vs ds->vs.length=ds.length
 | _,_,.nil=>rfl
 | _,_,.cons _ hs=>by simp[IsAll.len hs]
theorem IsAll.get : ∀ {vs:List V}{ds:List PyData}{i:Nat}{v:V},IsAll K H vs ds->vs[i]?=some v->∃ d,ds[i]?=some d/\Is K H v d
 | _,_,_,_,.nil,e=>by simp at e
 | _,_,0,_,.cons h _,e=>by simp at e;subst e;exact⟨_,rfl,h⟩
 | _,_,i+1,v,.cons _ t,e=>by
  obtain⟨u,h1,h2⟩:=IsAll.get (i:=i) (v:=v) t (by simpa using e);exact⟨u,by simpa using h1,h2⟩
theorem IsAll.get' : ∀ {vs:List V}{ds:List PyData}{i:Nat}{d:PyData},IsAll K H vs ds->ds[i]?=some d->∃ v,vs[i]?=some v/\Is K H v d
 | _,_,_,_,.nil,e=>by simp at e
 | _,_,0,_,.cons h _,e=>by simp at e;subst e;exact⟨_,rfl,h⟩
 | _,_,i+1,v,.cons _ t,e=>by
  obtain⟨u,h1,h2⟩:=IsAll.get' (i:=i) (d:=v) t (by simpa using e);exact⟨u,by simpa using h1,h2⟩
theorem IsAll.snoc {d:PyData}(h:Is K H v d):∀ {vs:List V}{ds:List PyData},IsAll K H vs ds->IsAll K H (vs++[v]) (ds++[d])
 | _,_,.nil=>.cons h .nil
 | _,_,.cons a b=>.cons a (IsAll.snoc h b)
theorem IsAll.app {us:List V}{es:List PyData}(h:IsAll K H us es):∀ {vs:List V}{ds:List PyData},IsAll K H vs ds->IsAll K H (vs++us) (ds++es)
 | _,_,.nil=>h
 | _,_,.cons a b=>.cons a (IsAll.app h b)
theorem IsAll.drop : ∀ {vs:List V}{ds:List PyData}(n:Nat),IsAll K H vs ds->IsAll K H (vs.drop n) (ds.drop n)
 | _,_,0,h=>h
 | _,_,_+1,.nil=>.nil
 | _,_,n+1,.cons _ t=>IsAll.drop n t
theorem IsAll.take : ∀ {vs:List V}{ds:List PyData}(n:Nat),IsAll K H vs ds->IsAll K H (vs.take n) (ds.take n)
 | _,_,0,h=>.nil
 | _,_,_+1,.nil=>.nil
 | _,_,n+1,.cons h t=>.cons h (IsAll.take n t)
theorem IsAll.ints_of : ∀ {vs:List V}{ns:List Int},IsAll K H vs (ns.map PyData.int)->vs=ns.map V.int
 | _,[],.nil=>rfl
 | _,_::_,.cons h t=>by cases h;rw[IsAll.ints_of t];rfl
theorem IsAll.bools_of : ∀ {vs:List V}{ns:List Bool},IsAll K H vs (ns.map PyData.bool)->vs=ns.map V.bl
 | _,[],.nil=>rfl
 | _,_::_,.cons h t=>by cases h;rw[IsAll.bools_of t];rfl
structure Stb where
 R:V->Hp->Prop
 st:∀ v H H',yr H H'->R v H->R v H'
inductive En where
 | d (x:PyData)
 | m (a:Addr)
 | x (r:Stb)
 | ty (n:String)
structure MSt where
 R:Hp->HO->Prop
 st:∀ H H' u,yr H H'->R H u->R H' u
 nt:∀ H u xs,R H u->u≠.tup xs
 ml:∀ H H' a xs u,H a=some (.lst xs)->(∀ b o,H b=some o->b≠a->H' b=some o)->R H u->R H' u
inductive MO where
 | any (r:MSt)
 | pot (M:Int)
 | lst (ds:List PyData)
 | refs (as:List Addr)
 | dct (ks:List (List Int))
  | ins (C dx:Addr) (fs:List (Str×En))
abbrev Mu:=List (Addr×MO)
def mask (U:Mu) (H:Hp):Hp:=fun a=>if a∈U.map Prod.fst then none else H a
theorem j7 : mask [] H=H:=by funext a;simp[mask]
theorem yB {U:Mu}:yr (mask U H) H:=fun b o e=>by
 unfold mask at e;split at e
 .cases e
 .exact e
theorem Yl {U:Mu}{o:HO}(e:mask U H b=some o):b∉U.map Prod.fst/\H b=some o:=by
 unfold mask at e;split at e
 .cases e
 .exact ⟨by assumption,e⟩
theorem yG {U:Mu}(h:b∉U.map Prod.fst):mask U H b=H b:=by unfold mask;rw[if_neg h]
theorem qdl {U U':Mu}(h:∀ a,a∈U'.map Prod.fst->a∈U.map Prod.fst):yr (mask U H) (mask U' H):=fun b o e=>by
 obtain⟨h1,h2⟩:=Yl e;rw[yG (fun z=>h1 (h _ z))];exact h2
def IsE (K:W.Frag) (U:Mu) (H:Hp) (v:V):En->Prop
 | .d x=>Is K (mask U H) v x
 | .m a=>v = .ref a
 | .x r=>r.R v (mask U H)
 | .ty n=>v = .ty n
theorem IsE.same {U U':Mu}{e:En}(s:yr (mask U H) (mask U' H')) (h:IsE K U H v e):IsE K U' H' v e:=by
 cases e with
 | d x=>exact Is.same s h
 | m a=>exact h
 | x r=>exact r.st _ _ _ s h
 | ty n=>exact h
def qg0 (K:W.Frag) (U:Mu) (H:Hp) (x:Str×V) (y:Str×En):Prop:=x.1=y.1/\IsE K U H x.2 y.2
theorem qg0.all {U U':Mu}(s:yr (mask U H) (mask U' H')):∀ {vs:List (Str×V)}{fs:List (Str×En)},PySem.Paired (qg0 K U H) vs fs->PySem.Paired (qg0 K U' H') vs fs
 | _,_,.nil=>.nil
 | _,_,.cons h t=>.cons ⟨h.1,h.2.same s⟩ (qg0.all s t)
def qjF (K:W.Frag) (U:Mu) (H:Hp) (a:Addr):MO->Prop
 | .any r=>∃ u,H a=some u/\r.R (mask U H) u
 | .pot M=>Pot M H a
 | .lst ds=>∃ xs,H a=some (.lst xs)/\IsAll K (mask U H) xs ds
 | .refs as=>H a=some (.lst (as.map V.ref))
 | .dct ks=>H a=some (.dT (ks.map fun ns=>(ns.map Sum.inl,V.bl true)))
 | .ins C dx fs=>∃ vs,H a=some (.ins C dx vs)/\PySem.Paired (qg0 K U H) vs fs
theorem qjF.some {U:Mu}{o:MO}(h:qjF K U H a o):∃ u,H a=some u:=by
 cases o with
 | any r=>obtain⟨u,e,_⟩:=h;exact⟨_,e⟩
 | pot M=>obtain⟨p0,p1,e,_⟩:=h;exact⟨_,e⟩
 | lst ds=>obtain⟨xs,e,_⟩:=h;exact⟨_,e⟩
 | refs as=>exact⟨_,h⟩
 | dct kvs=>exact⟨_,h⟩
 | ins C dx fs=>obtain⟨vs,e,_⟩:=h;exact⟨_,e⟩
structure RelM (K:W.Frag) (U:Mu) (H:Hp):Prop where
 nd:(U.map Prod.fst).Nodup
 ob:∀ a o,(a,o)∈U->qjF K U H a o
theorem RelM.nil : RelM K [] H:=⟨by simp,fun _ _ h=>nomatch h⟩
theorem qjF.same {U U':Mu}{o:MO}(s:yr (mask U H) (mask U' H')) (e:H' a=H a) (h:qjF K U H a o):qjF K U' H' a o:=by
 cases o with
 | any r=>obtain⟨u,q,z⟩:=h;exact⟨u,e.trans q,r.st _ _ _ s z⟩
 | pot M=>obtain⟨p0,p1,q,r⟩:=h;exact⟨p0,p1,e.trans q,r⟩
 | lst ds=>obtain⟨xs,q,r⟩:=h;exact⟨xs,e.trans q,IsAll.same s r⟩
 | refs as=>exact e.trans h
 | dct kvs=>exact e.trans h
 | ins C dx fs=>obtain⟨vs,q,r⟩:=h;exact⟨vs,e.trans q,qg0.all s r⟩
theorem RelM.same {U:Mu}(h:RelM K U H) (s:yr H H'):RelM K U H'/\yr (mask U H) (mask U H'):=by
 have ss:yr (mask U H) (mask U H'):=fun b o e=>by
  obtain⟨h1,h2⟩:=Yl e;rw[yG h1];exact s _ _ h2
 refine⟨⟨h.nd,fun a o ho=>?_⟩,ss⟩;have:=h.ob a o ho;obtain⟨xs,e⟩:=this.some;exact this.same ss ((s _ _ e).trans e.symm)
theorem RelM.laid {U:Mu}{o:HO}(h:RelM K U H) (e:H p=none):RelM K U (upd H p o)/\yr (mask U H) (mask U (upd H p o))/\p∉U.map Prod.fst:=by
 obtain⟨h1,h2⟩:=h.same (yr.upd (o:=o) e);refine⟨h1,h2,fun z=>?_⟩;obtain⟨⟨a,q⟩,hq,rfl⟩:=qF.mp z;obtain⟨xs,e'⟩:=(h.ob a q hq).some;rw[e'] at e;cases e
theorem qfW {U:Mu}{o:MO}(h:(a,o)∈U):a∈U.map Prod.fst:=qF.mpr ⟨_,h,rfl⟩
theorem RelM.write {U1 U2:Mu}{o o':MO}(h:RelM K (U1++(a,o)::U2) H) (k:∀ b u,H b=some u->b≠a->H' b=some u)
  (new:yr (mask (U1++(a,o)::U2) H) (mask (U1++(a,o')::U2) H')->qjF K (U1++(a,o')::U2) H' a o') :
  RelM K (U1++(a,o')::U2) H'/\yr (mask (U1++(a,o)::U2) H) (mask (U1++(a,o')::U2) H'):=by
 have ks:(U1++(a,o')::U2).map Prod.fst=(U1++(a,o)::U2).map Prod.fst:=by simp
 have ss:yr (mask (U1++(a,o)::U2) H) (mask (U1++(a,o')::U2) H'):=fun b u e=>by
  obtain⟨h1,h2⟩:=Yl e;rw[yG (by rw[ks];exact h1)];exact k b u h2 fun z=>h1 (by rw[z];simp)
 refine⟨⟨by rw[ks];exact h.nd,fun b q hq=>?_⟩,ss⟩;have nd:=h.nd;simp only[qI,yb,List.nodup_append,yx] at nd;have hcase:(b,q)=(a,o')\/((b,q)∈U1++(a,o)::U2/\b≠a):=by
  rcases qB.mp hq with z | z
  .exact .inr ⟨qS _ z,fun e=>nd.2.2 b (qfW z) a (by simp) e⟩
  .rcases qG.mp z with z | z
   .exact .inl z
   .exact .inr ⟨qg _ (qd _ z),fun e=>nd.2.1.1 (e ▸ qfW z)⟩
 rcases hcase with z | ⟨z,hne⟩
 .cases z;exact new ss
 .have:=h.ob b q z;obtain⟨xs,e⟩:=this.some;exact this.same ss ((k b _ e hne).trans e.symm)
theorem RelM.drop {U1 U2:Mu}{o:MO}(h:RelM K (U1++(a,o)::U2) H):RelM K (U1++U2) H/\yr (mask (U1++(a,o)::U2) H) (mask (U1++U2) H)/\a∉(U1++U2).map Prod.fst:=by
 have nd:=h.nd;have ss:yr (mask (U1++(a,o)::U2) H) (mask (U1++U2) H):=qdl fun b hb=>by
  simp only[qI,yb,qB,qG] at *;rcases hb with z | z
  .exact .inl z
  .exact .inr (.inr z)
 simp only[qI,yb,List.nodup_append,yx] at nd;refine⟨⟨?_,fun b q hq=>?_⟩,ss,?_⟩
 .simp only[qI,List.nodup_append];exact⟨nd.1,nd.2.1.2,fun x hx y hy=>nd.2.2 x hx y (qd _ hy)⟩
 .have:(b,q)∈U1++(a,o)::U2:=by
   rcases qB.mp hq with z | z
   .exact qS _ z
   .exact qg _ (qd _ z)
  exact (h.ob b q this).same ss rfl
 .simp only[qI,qB,not_or];exact⟨fun z=>nd.2.2 a z a (by simp) rfl,nd.2.1.1⟩
theorem RelM.new {U:Mu}{u:HO}{o:MO}(h:RelM K U H) (e:H p=none) (new:yr (mask U H) (mask ((p,o)::U) (upd H p u))->qjF K ((p,o)::U) (upd H p u) p o) :
  RelM K ((p,o)::U) (upd H p u)/\yr (mask U H) (mask ((p,o)::U) (upd H p u)):=by
 obtain⟨h1,h2,h3⟩:=h.laid (o:=u) e;have ss:yr (mask U H) (mask ((p,o)::U) (upd H p u)):=fun b q z=>by
  obtain⟨z1,z2⟩:=Yl z;have hb:b≠p:=qM z2 e;rw[yG (by simp only[yb,qG,not_or];exact⟨hb,z1⟩),qV hb];exact z2
 refine⟨⟨by simp only[yb,yx];exact⟨h3,h.nd⟩,fun b q hq=>?_⟩,ss⟩;rcases qG.mp hq with z | z
 .cases z;exact new ss
 .have:=h.ob b q z;obtain⟨xs,e'⟩:=this.some;exact this.same ss (qV (qM e' e))
abbrev Rho:=List (Option En)
structure RelS (K:W.Frag) (O:Rho) (U:Mu) (G:St) (H:Hp):Prop where
 len:O.length=G.length
 get:∀ (i:Nat) (e:En),O[i]?=some (some e)->∃ v,G[i]?=some (some v)/\IsE K U H v e
theorem RelS.same {O:Rho}{U U':Mu}(h:RelS K O U G H) (s:yr (mask U H) (mask U' H')):RelS K O U' G H' :=
 ⟨h.len,fun i e q=>let ⟨v,e1,e2⟩:=h.get i e q;⟨v,e1,e2.same s⟩⟩
theorem RelS.set {O:Rho}{U:Mu}{e:En}(h:RelS K O U G H) (r:IsE K U H v e):RelS K (O.set i (some e)) U (G.set i (some v)) H:=by
 refine⟨by simp[h.len],fun j x q=>?_⟩;by_cases hj:i=j
 .subst hj;have hi:i<O.length:=by
   have:=(qm.mp q).1;simpa using this
  rw[List.getElem?_set_self (by rw[<- h.len];exact hi)];rw[List.getElem?_set_self hi] at q;cases q
  exact⟨v,rfl,r⟩
 .rw [yI hj] at *;exact h.get j x q
def Wk (O:Rho) (U:Mu) (O':Rho) (U':Mu):Prop:=∀ (K:W.Frag) (G:St) (H:Hp),RelS K O U G H->RelM K U H->RelS K O' U' G H/\RelM K U' H/\yr (mask U H) (mask U' H)
theorem Wk.refl {O:Rho}{U:Mu}:Wk O U O U:=fun _ _ _ h1 h2=>⟨h1,h2,yr.refl _⟩
abbrev TEd:=Rho->Mu->(En->Mu->Prop)->Prop
abbrev TTd:=Rho->Mu->(Bool->Mu->Prop)->Prop
abbrev TAd:=Rho->Mu->(List En->Mu->Prop)->Prop
structure EndsD where
 nx:Rho->Mu->Prop
 rt:En->Mu->Prop
 bk:Rho->Mu->Prop:=fun _ _=>False
 ct:Rho->Mu->Prop:=fun _ _=>False
abbrev TSd:=EndsD->Rho->Mu->Prop
def Cl (K:W.Frag) (U:Mu) (H:Hp) (Q0:En->Mu->Prop) (Q:VK):Prop:=∀ e U' v H',Q0 e U'->RelM K U' H'->yr (mask U H) (mask U' H')->IsE K U' H' v e->Q v H'
def ClT (K:W.Frag) (U:Mu) (H:Hp) (Q0:Bool->Mu->Prop) (Q:Bool->Hp->Prop):Prop:=∀ b U' H',Q0 b U'->RelM K U' H'->yr (mask U H) (mask U' H')->Q b H'
def ClA (K:W.Frag) (U:Mu) (H:Hp) (Q0:List En->Mu->Prop) (Q:List V->Hp->Prop):Prop:=∀ es U' vs H',Q0 es U'->RelM K U' H'->yr (mask U H) (mask U' H')->Paired (IsE K U' H') vs es->Q vs H'
def ClR (K:W.Frag) (U:Mu) (H:Hp) (Q0:Rho->Mu->Prop) (Q:St->Hp->Prop):Prop:=∀ O' U' G' H',Q0 O' U'->RelS K O' U' G' H'->RelM K U' H'->yr (mask U H) (mask U' H')->Q G' H'
structure ClS (K:W.Frag) (U:Mu) (H:Hp) (D0:EndsD) (D:Ends):Prop where
 nx:ClR K U H D0.nx D.nx
 rt:Cl K U H D0.rt D.rt
 bk:ClR K U H D0.bk D.bk
 ct:ClR K U H D0.ct D.ct
theorem Cl.same {U U1:Mu}{Q0:En->Mu->Prop}(h:Cl K U H Q0 Q) (s:yr (mask U H) (mask U1 H1)):Cl K U1 H1 Q0 Q:=fun e U' v H' a b c d=>h e U' v H' a b (s.trans c) d
theorem ClT.same {U U1:Mu}{Q0:Bool->Mu->Prop}{Q:Bool->Hp->Prop}(h:ClT K U H Q0 Q) (s:yr (mask U H) (mask U1 H1)):ClT K U1 H1 Q0 Q:=fun e U' H' a b c=>h e U' H' a b (s.trans c)
theorem ClR.same {U U1:Mu}{Q0:Rho->Mu->Prop}{Q:St->Hp->Prop}(h:ClR K U H Q0 Q) (s:yr (mask U H) (mask U1 H1)):ClR K U1 H1 Q0 Q:=fun e U' v H' a b c d=>h e U' v H' a b c (s.trans d)
theorem ClS.same {U U1:Mu}{D0:EndsD}{D:Ends}(h:ClS K U H D0 D) (s:yr (mask U H) (mask U1 H1)):ClS K U1 H1 D0 D:=⟨h.nx.same s,h.rt.same s,h.bk.same s,h.ct.same s⟩
def up (K:W.Frag) (t:TEd):TE:=fun G H Q=>∃ O U Q0,RelS K O U G H/\RelM K U H/\t O U Q0/\Cl K U H Q0 Q
def upT (K:W.Frag) (t:TTd):TT:=fun G H Q=>∃ O U Q0,RelS K O U G H/\RelM K U H/\t O U Q0/\ClT K U H Q0 Q
def upA (K:W.Frag) (t:TAd):TA:=fun G H Q=>∃ O U Q0,RelS K O U G H/\RelM K U H/\t O U Q0/\ClA K U H Q0 Q
def upS (K:W.Frag) (t:TSd):TS:=fun D G H=>∃ O U D0,RelS K O U G H/\RelM K U H/\t D0 O U/\ClS K U H D0 D
def DE (K:W.Frag) (X:Cx) (e:Expr) (t:TEd):Prop:=PE X e (up K t)
def DT (K:W.Frag) (X:Cx) (e:Expr) (t:TTd):Prop:=PT X e (upT K t)
def DW (K:W.Frag) (X:Cx) (e:Expr) (t:TTd):Prop:=PW X e (upT K t)
def DA (K:W.Frag) (X:Cx) (es:List Expr) (t:TAd):Prop:=PA X es (upA K t)
def DS (K:W.Frag) (X:Cx) (st:Stmt) (t:TSd):Prop:=PS X st (upS K t)
def DSs (K:W.Frag) (X:Cx) (st:List Stmt) (t:TSd):Prop:=PSs X st (upS K t)
section
theorem PE.mono {t t':TE}(h:PE X e t) (f:∀ G H Q,t' G H Q->t G H Q):PE X e t':=fun Ob s G H Q I q=>h Ob s G H Q I (f _ _ _ q)
theorem PT.mono {t t':TT}(h:PT X e t) (f:∀ G H Q,t' G H Q->t G H Q):PT X e t':=fun Ob s G H Q I q=>h Ob s G H Q I (f _ _ _ q)
theorem PW.mono {t t':TT}(h:PW X e t) (f:∀ G H Q,t' G H Q->t G H Q):PW X e t':=fun wh Ob s G H Q I q=>h wh Ob s G H Q I (f _ _ _ q)
theorem PA.mono {e:List Expr}{t':TA}(h:PA X e t) (f:∀ G H Q,t' G H Q->t G H Q):PA X e t':=fun p Ob s G H Q I q=>h p Ob s G H Q I (f _ _ _ q)
theorem PS.mono {e:Stmt}{t t':TS}(h:PS X e t) (f:∀ D G H,t' D G H->t D G H):PS X e t':=fun Ob s G H D I q=>h Ob s G H D I (f _ _ _ q)
theorem PSs.mono {e:List Stmt}{t t':TS}(h:PSs X e t) (f:∀ D G H,t' D G H->t D G H):PSs X e t':=fun Ob s G H D I q=>h Ob s G H D I (f _ _ _ q)
theorem OpR.mono {f:Value->Value->Sem Value}{r:R2}(h:OpR X f r) (g:∀ x y H Q,r' x y H Q->r x y H Q):OpR X f r':=fun Ob s G H x y v u Q I a b c=>h Ob s G H x y v u Q I a b (g _ _ _ _ c)
theorem UnR.mono {f:Value->Sem Value}{r r':V->Hp->VK->Prop}(h:UnR X f r) (g:∀ x H Q,r' x H Q->r x H Q):UnR X f r':=fun Ob s G H x v Q I a c=>h Ob s G H x v Q I a (g _ _ _ c)
theorem jq.mono {f:Value}{r r':List V->Hp->VK->Prop}(h:jq X f r) (g:∀ x H Q,r' x H Q->r x H Q):jq X f r':=fun Ob s G H x v Q I a c=>h Ob s G H x v Q I a (g _ _ _ c)
theorem IxR.mono {r:R2}(h:IxR X r) (g:∀ x y H Q,r' x y H Q->r x y H Q):IxR X r':=fun a b Ob s G H x y v u Q I p q c=>h a b Ob s G H x y v u Q I p q (g _ _ _ _ c)
def dVar (i:Nat):TEd:=fun O U Q=>match O[i]? with
 | some (some e)=>Q e U
 | _=>False
def dC (x:PyData):TEd:=fun _ U Q=>Q (.d x) U
theorem dv (i:Nat) (hN:X.N[i]?=some x:=by rfl) (hv:Vis X.env.scope x:=by first | exact Or.inl rfl | exact Or.inr (Or.inl rfl) | exact Or.inr (Or.inr rfl)) (hd:(x == ("__debug__" : Str))=false:=by decide)
  (hcd:(x == ("__classdict__" : Str))=false:=by decide):DE K X (.Name x pos) (dVar i):=by
 refine PE.mono (qde hN hv hd hcd) fun G H Q Og=>?_;obtain⟨O,U,Q0,hS,hM,h,cl⟩:=Og;unfold dVar at h;split at h
 .rename_i e he
  obtain⟨v,e1,e2⟩:=hS.get i e he;exact⟨v,e1,cl e U v H h hM (yr.refl _) e2⟩
 .exact h.elim
theorem qH {i:Int}{j pos}:DE K X (.Constant (.int i) j pos) (dC (.int i)):=PE.mono Jr fun G H Q ⟨O,U,Q0,hS,hM,h,cl⟩=>cl _ U (.int i) H h hM (yr.refl _) (.int i)
theorem qjq {b:Bool}{j pos}:DE K X (.Constant (.bool b) j pos) (dC (.bool b)):=PE.mono pe_bl fun G H Q ⟨O,U,Q0,hS,hM,h,cl⟩=>cl _ U (.bl b) H h hM (yr.refl _) (.bl b)
theorem qno {j pos}:DE K X (.Constant .none j pos) (dC .none):=PE.mono qft fun G H Q ⟨O,U,Q0,hS,hM,h,cl⟩=>cl _ U .non H h hM (yr.refl _) .non
theorem qef {j pos}:DE K X (.Constant (.str x) j pos) (dC (.str x)):=PE.mono Z6 fun G H Q ⟨O,U,Q0,hS,hM,h,cl⟩=>cl _ U (.str x) H h hM (yr.refl _) (.str x)
theorem up2 {ta tb:TEd}{R:V->V->Hp->Prop}{O:Rho}{U:Mu}{R0:En->En->Mu->Prop}(hS:RelS K O U G H) (hM:RelM K U H) (h:ta O U fun x U1=>tb O U1 fun y U2=>R0 x y U2)
  (f:∀ x y U2 v u H2,R0 x y U2->RelM K U2 H2->yr (mask U H) (mask U2 H2)->IsE K U2 H2 v x->IsE K U2 H2 u y->R v u H2):up K ta G H fun v H1=>up K tb G H1 fun u H2=>R v u H2:=by
 refine⟨O,U,_,hS,hM,h,fun x U1 v H1 q1 M1 s1 i1=>⟨O,U1,_,hS.same s1,M1,q1,fun y U2 u H2 q2 M2 s2 i2=>?_⟩⟩;exact f x y U2 v u H2 q2 M2 (s1.trans s2) (i1.same s2) i2
abbrev R2d:=En->En->Mu->(En->Mu->Prop)->Prop
abbrev R1d:=En->Mu->(En->Mu->Prop)->Prop
abbrev RAd:=List En->Mu->(En->Mu->Prop)->Prop
def upR (K:W.Frag) (r:R2d):R2:=fun x y H Q=>∃ U e e' Q0,RelM K U H/\IsE K U H x e/\IsE K U H y e'/\r e e' U Q0/\Cl K U H Q0 Q
def upU (K:W.Frag) (r:R1d):V->Hp->VK->Prop:=fun x H Q=>∃ U e Q0,RelM K U H/\IsE K U H x e/\r e U Q0/\Cl K U H Q0 Q
def upC (K:W.Frag) (r:RAd):List V->Hp->VK->Prop:=fun xs H Q=>∃ U es Q0,RelM K U H/\Paired (IsE K U H) xs es/\r es U Q0/\Cl K U H Q0 Q
variable {a b:Expr}{ta tb tc:TEd}
def dOp (r:R2d) (ta tb:TEd):TEd:=fun O U Q=>ta O U fun x U1=>tb O U1 fun y U2=>r x y U2 Q
def dUn (r:R1d) (ta:TEd):TEd:=fun O U Q=>ta O U fun x U1=>r x U1 Q
theorem qjN {r:R2d}(h:up K (dOp r ta tb) G H Q):tOp (upR K r) (up K ta) (up K tb) G H Q:=by
 obtain⟨O,U,Q0,hS,hM,h,cl⟩:=h;exact up2 hS hM h fun x y U2 v u H2 q M2 s2 i1 i2=>⟨U2,x,y,Q0,M2,i1,i2,q,cl.same s2⟩
theorem yS {op:Operator}{r:R2d}(ho:OpR X (binaryOp op) (upR K r)) (ha:DE K X a ta) (hb:DE K X b tb):DE K X (.BinOp a op b pos) (dOp r ta tb):=PE.mono (qbL ho ha hb) fun _ _ _=>qjN
theorem qbg {r:R2d}(ho:OpR X (compareOp op) (upR K r)) (ha:DE K X a ta) (hb:DE K X b tb) (hm:behindInMarks op b=false):DE K X (.Compare a [op] [b] pos) (dOp r ta tb):=PE.mono (qkd ho ha hb hm) fun _ _ _=>qjN
def qll (t:TEd):TTd:=fun O U Q=>t O U fun e U1=>match e with
 | .d (.bool k)=>Q k U1
 | _=>False
theorem qjL {t:TEd}{Q:Bool->Hp->Prop}(h:upT K (qll t) G H Q):up K t G H fun x H1=>∃ k,x = .bl k/\Q k H1:=by
 obtain⟨O,U,Q0,hS,hM,h,cl⟩:=h;refine⟨O,U,_,hS,hM,h,fun e U1 v H1 q M1 s1 i1=>?_⟩;split at q
 .cases i1
  exact⟨_,rfl,cl _ U1 H1 q M1 s1⟩
 .exact q.elim
theorem yp {r:R2d}(ho:OpR X (compareOp op) (upR K r)) (ha:DE K X a ta) (hb:DE K X b tb) (hm:behindInMarks op b=false):DT K X (.Compare a [op] [b] pos) (qll (dOp r ta tb)):=by
 refine PT.mono (qfg ho ha hb hm) fun G H Q h=>?_;obtain⟨O,U,Q0,hS,hM,h,cl⟩:=h;refine up2 hS hM h fun x y U2 v u H2 q M2 s2 i1 i2=>⟨U2,x,y,_,M2,i1,i2,q,fun e U3 w H3 q3 M3 s3 i3=>?_⟩;split at q3
 .cases i3
  exact⟨_,rfl,cl _ U3 H3 q3 M3 (s2.trans s3)⟩
 .exact q3.elim
theorem Yc {t:TEd}(h:DE K X a t) (he:∀ whole,isTrue a X.env whole=(do let v <- whole;standAt a.pos;holding [v] (truthy v)):=by intro _;rfl):DT K X a (qll t):=PT.mono (qi2 h he) fun _ _ _=>qjL
theorem qjp {op:UnaryOp}{r:R1d}(ho:UnR X (unaryOp op) (upU K r)) (ha:DE K X a ta):DE K X (.UnaryOp op a pos) (dUn r ta):=by
 refine PE.mono (pe_un ho ha) fun G H Q Og=>?_;obtain⟨O,U,Q0,hS,hM,h,cl⟩:=Og;exact⟨O,U,_,hS,hM,h,fun e U1 v H1 q M1 s1 i1=>⟨U1,e,Q0,M1,i1,q,cl.same s1⟩⟩
def rdI (C:Int->Int->Prop) (g:Int->Int->PyData):R2d:=fun x y U Q=>match x,y with
 | .d (.int i),.d (.int j)=>C i j/\Q (.d (g i j)) U
 | _,_=>False
def qhu (g:Int->Int->PyData):R2d:=fun x y U Q=>match x,y with
 | .d (.int i),.d (.int j)=>Q (.d (g i j)) U
 | _,_=>False
def rdU (g:Int->PyData):R1d:=fun x U Q=>match x with
 | .d (.int i)=>Q (.d (g i)) U
 | _=>False
theorem qhc {C:Int->Int->Prop}{x:V}(h:upR K (rdI C fun i j=>.int (g i j)) x y H Q):rI C (fun i j=>.int (g i j)) x y H Q:=by
 obtain⟨U,e,e',Q0,M,i1,i2,q,cl⟩:=h;unfold rdI at q;split at q
 .cases i1;cases i2
  exact⟨_,_,rfl,rfl,q.1,cl _ U _ H q.2 M (yr.refl _) (.int _)⟩
 .exact q.elim
theorem qiy {x:V}(h:upR K (qhu fun i j=>.int (g i j)) x y H Q):rI0 (fun i j=>.int (g i j)) x y H Q:=by
 obtain⟨U,e,e',Q0,M,i1,i2,q,cl⟩:=h;unfold qhu at q;split at q
 .cases i1;cases i2
  exact⟨_,_,rfl,rfl,cl _ U _ H q M (yr.refl _) (.int _)⟩
 .exact q.elim
theorem qey {g:Int->Int->Bool}{x:V}(h:upR K (qhu fun i j=>.bool (g i j)) x y H Q):rI0 (fun i j=>.bl (g i j)) x y H Q:=by
 obtain⟨U,e,e',Q0,M,i1,i2,q,cl⟩:=h;unfold qhu at q;split at q
 .cases i1;cases i2
  exact⟨_,_,rfl,rfl,cl _ U _ H q M (yr.refl _) (.bl _)⟩
 .exact q.elim
theorem Jv:OpR X (binaryOp .Add) (upR K (qhu fun i j=>.int (i+j))):=qfE.mono fun _ _ _ _=>qiy
theorem Jj:OpR X (binaryOp .Sub) (upR K (qhu fun i j=>.int (i - j))):=qmG.mono fun _ _ _ _=>qiy
theorem je:OpR X (binaryOp .Mult) (upR K (rdI qbr fun i j=>.int (i * j))):=qcs.mono fun _ _ _ _=>qhc
theorem qal:OpR X (binaryOp .FloorDiv) (upR K (rdI qg1 fun i j=>.int (i.fdiv j))):=qhJ.mono fun _ _ _ _=>qhc
theorem qdy:OpR X (binaryOp .Mod) (upR K (rdI (fun _ j=>0<j) fun i j=>.int (i % j))):=qdi.mono fun _ _ _ _=>qhc
theorem ZA:OpR X (binaryOp .Pow) (upR K (rdI CPow fun i j=>.int (i ^ j.toNat))):=qmH.mono fun _ _ _ _=>qhc
theorem qbe:OpR X (compareOp .Lt) (upR K (qhu fun i j=>.bool (decide (i<j)))):=op_lt.mono fun _ _ _ _=>qey
theorem qie:OpR X (compareOp .LtE) (upR K (qhu fun i j=>.bool (decide (i<=j)))):=op_le.mono fun _ _ _ _=>qey
theorem qcF:OpR X (compareOp .Gt) (upR K (qhu fun i j=>.bool (decide (j<i)))):=qmI.mono fun _ _ _ _=>qey
theorem Zz:UnR X (unaryOp .USub) (upU K (rdU fun i=>.int (-i))):=qlL.mono fun x H Q h=>by
 obtain⟨U,e,Q0,M,i1,q,cl⟩:=h;unfold rdU at q;split at q
 .cases i1
  exact⟨_,rfl,cl _ U _ H q M (yr.refl _) (.int _)⟩
 .exact q.elim
inductive LstOf (U:Mu):En->List PyData->Prop
 | d (ds:List PyData):LstOf U (.d (.list ds)) ds
 | m {a:Addr}{ds:List PyData}(h:(a,.lst ds)∈U):LstOf U (.m a) ds
theorem LstOf.get {U:Mu}{e:En}(h:LstOf U e ds) (M:RelM K U H) (i:IsE K U H v e):∃ p xs,v = .ref p/\SqL K H p xs/\IsAll K (mask U H) xs ds:=by
 cases h with
 | d ds =>
  cases i with
  | lst h hs=>exact⟨_,_,rfl,yr.seq yB h,hs⟩
 | m h =>
  obtain⟨xs,e,hs⟩:=M.ob _ _ h;exact⟨_,xs,i,SqL.of e,hs⟩
inductive DatOf (U:Mu):En->PyData->Prop
 | d (x:PyData):DatOf U (.d x) x
 | m {a:Addr}{ds:List PyData}(h:(a,.lst ds)∈U):DatOf U (.m a) (.list ds)
theorem DatOf.is {U:Mu}{e:En}{x:PyData}(h:DatOf U e x) (M:RelM K U H) (i:IsE K U H v e):Is K H v x:=by
 cases h with
 | d x=>exact Is.same yB i
 | m h =>
  obtain⟨xs,e,hs⟩:=M.ob _ _ h;have i:v=_:=i;subst i;exact .lst (SqL.of e) (IsAll.same yB hs)
def qnN (neg:Bool):R2d:=fun x y U Q=>match x,y with
 | .d (.int i),.d (.int j)=>Q (.d (.bool (if neg then !decide (i=j) else decide (i=j)))) U
 | _,_=>∃ d d',DatOf U x d/\DatOf U y d'/\SeqAt.shaped d=true/\SeqAt.shaped d'=true/\Q (.d (.bool (if neg then !PyData.eqv d d' else PyData.eqv d d'))) U
theorem qkY (i j:Int):PyData.eqv (.int i) (.int j)=decide (i=j):=by by_cases h:i=j <;> simp[PyData.eqv,h]
theorem qdd {neg:Bool}{x y:En}{U:Mu}{Q:En->Mu->Prop}(h:qnN neg x y U Q):∃ d d',DatOf U x d/\DatOf U y d'/\SeqAt.shaped d=true/\SeqAt.shaped d'=true/\Q (.d (.bool (if neg then !PyData.eqv d d' else PyData.eqv d d'))) U:=by
 unfold qnN at h;split at h
 .exact ⟨_,_,.d _,.d _,rfl,rfl,by rw[qkY];exact h⟩
 .exact h
theorem Yp (hu:X.A.units+64<cLine) (hK:X.K=K:=by rfl):OpR X (compareOp .Eq) (upR K (qnN false)):=by
 subst hK;refine (qi7 hu).mono fun x y H Q h=>?_;obtain⟨U,e,e',Q0,M,i1,i2,q,cl⟩:=h;obtain⟨d,d',h1,h2,h3,h4,q⟩:=qdd q;exact⟨d,d',h1.is M i1,h2.is M i2,h3,h4,cl _ U _ H q M (yr.refl _) (.bl _)⟩
theorem qbd (hu:X.A.units+64<cLine) (hK:X.K=K:=by rfl):OpR X (compareOp .NotEq) (upR K (qnN true)):=by
 subst hK;refine (qi6 hu).mono fun x y H Q h=>?_;obtain⟨U,e,e',Q0,M,i1,i2,q,cl⟩:=h;obtain⟨d,d',h1,h2,h3,h4,q⟩:=qdd q;exact⟨d,d',h1.is M i1,h2.is M i2,h3,h4,cl _ U _ H q M (yr.refl _) (.bl _)⟩
def dAnd (t u:TTd):TTd:=fun O U Q=>t O U fun k U1=>if k=true then u O U1 Q else Q false U1
def dOr (t u:TTd):TTd:=fun O U Q=>t O U fun k U1=>if k=true then Q true U1 else u O U1 Q
def dNot (t:TTd):TTd:=fun O U Q=>t O U fun k U1=>Q (!k) U1
variable {tA tB:TTd}{rest:List Expr}
theorem JB (ha:DT K X a tA):DW K X (.BoolOp .And [a] pos) tA:=qj0 ha
theorem qaG (ha:DT K X a tA):DW K X (.BoolOp .Or [a] pos) tA:=qmo ha
theorem Ym (ha:DT K X a tA) (hb:DW K X (.BoolOp .And (b::rest) pos) tB):DW K X (.BoolOp .And (a::b::rest) pos) (dAnd tA tB):=by
 refine PW.mono (qmp ha hb) fun G H Q Og=>?_;obtain⟨O,U,Q0,hS,hM,h,cl⟩:=Og;refine⟨O,U,_,hS,hM,h,fun k U1 H1 q M1 s1=>?_⟩;cases k with
 | true=>exact⟨O,U1,Q0,hS.same s1,M1,by simpa using q,cl.same s1⟩
 | false=>exact cl _ U1 H1 (by simpa using q) M1 s1
theorem qeb (ha:DT K X a tA) (hb:DW K X (.BoolOp .Or (b::rest) pos) tB):DW K X (.BoolOp .Or (a::b::rest) pos) (dOr tA tB):=by
 refine PW.mono (pw_or ha hb) fun G H Q Og=>?_;obtain⟨O,U,Q0,hS,hM,h,cl⟩:=Og;refine⟨O,U,_,hS,hM,h,fun k U1 H1 q M1 s1=>?_⟩;cases k with
 | false=>exact⟨O,U1,Q0,hS.same s1,M1,by simpa using q,cl.same s1⟩
 | true=>exact cl _ U1 H1 (by simpa using q) M1 s1
theorem qcg (h:DW K X a tA):DT K X a tA:=PW.pt h
theorem qak (ha:DT K X a tA):DT K X (.UnaryOp .Not a pos) (dNot tA):=PT.mono (qmr ha) fun G H Q ⟨O,U,Q0,hS,hM,h,cl⟩=>⟨O,U,_,hS,hM,h,fun k U1 H1 q M1 s1=>cl _ U1 H1 q M1 s1⟩
def dAndV (ta tb:TEd):TEd:=fun O U Q=>ta O U fun x U1=>match x with
 | .d (.bool k)=>if k=true then tb O U1 Q else Q (.d (.bool false)) U1
 | _=>False
theorem qle {op} {t:TEd}(h:DE K X a t):DE K X (.BoolOp op [a] pos) t:=qi5 h
theorem qlk (ha:DE K X a ta) (hb:DE K X (.BoolOp .And (b::rest) pos) tb):DE K X (.BoolOp .And (a::b::rest) pos) (dAndV ta tb):=by
 refine PE.mono (qfz ha hb) fun G H Q Og=>?_;obtain⟨O,U,Q0,hS,hM,h,cl⟩:=Og;refine⟨O,U,_,hS,hM,h,fun e U1 v H1 q M1 s1 i1=>?_⟩;split at q
 .rename_i k
  cases i1
  refine⟨k,rfl,?_⟩;cases k with
  | true=>exact ZO ⟨O,U1,Q0,hS.same s1,M1,by simpa using q,cl.same s1⟩
  | false=>exact YO (cl (.d (.bool false)) U1 _ H1 (by simpa using q) M1 s1 (Is.bl _))
 .exact q.elim
def dIf (t:TTd) (ta tb:TEd):TEd:=fun O U Q=>t O U fun k U1=>if k=true then ta O U1 Q else tb O U1 Q
theorem qlf (hc:DT K X c tA) (ha:DE K X a ta) (hb:DE K X b tb):DE K X (.IfExp c a b pos) (dIf tA ta tb):=by
 refine PE.mono (qdf hc ha hb) fun G H Q Og=>?_;obtain⟨O,U,Q0,hS,hM,h,cl⟩:=Og;refine⟨O,U,_,hS,hM,h,fun k U1 H1 q M1 s1=>?_⟩;cases k with
 | true=>exact ZO ⟨O,U1,Q0,hS.same s1,M1,by simpa using q,cl.same s1⟩
 | false=>exact YO ⟨O,U1,Q0,hS.same s1,M1,by simpa using q,cl.same s1⟩
variable {tr:TAd}
def dNil:TAd:=fun _ U Q=>Q [] U
def dCons (ta:TEd) (tr:TAd):TAd:=fun O U Q=>ta O U fun x U1=>tr O U1 fun xs U2=>Q (x::xs) U2
theorem qj:DA K X [] dNil:=PA.mono Js fun G H Q ⟨O,U,Q0,hS,hM,h,cl⟩=>cl _ U _ H h hM (yr.refl _) .nil
theorem qb (ha:DE K X a ta) (hr:DA K X es tr) (hs:starEach (a::es) X.env=(false,eval a X.env)::starEach es X.env:=by rfl):DA K X (a::es) (dCons ta tr):=by
 refine PA.mono (yy ha hr hs) fun G H Q Og=>?_;obtain⟨O,U,Q0,hS,hM,h,cl⟩:=Og;refine⟨O,U,_,hS,hM,h,fun e U1 v H1 q M1 s1 i1=>⟨O,U1,_,hS.same s1,M1,q,fun es' U2 vs H2 q2 M2 s2 i2=>?_⟩⟩;exact cl _ U2 _ H2 q2 M2 (s1.trans s2) (.cons (i1.same s2) i2)
def qlv:List En->Option (List PyData)
 | []=>some []
 | .d x::r=>(qlv r).map (x::·)
 | _::_=>none
theorem qbm {U:Mu}:∀ {es:List En}{ds:List PyData}{vs:List V},qlv es=some ds->Paired (IsE K U H) vs es->IsAll K (mask U H) vs ds
 | [],_,_,e,.nil=>by cases e;exact .nil
 | .d x::r,_,_,e,.cons h t=>by
  simp only[qlv] at e;cases q:qlv r with
  | none=>rw[q] at e;cases e
  | some ds'=>rw[q] at e;cases e;exact .cons h (qbm q t)
 | .m a::r,_,_,e,_=>by cases e
 | .x a::r,_,_,e,_=>by cases e
 | .ty a::r,_,_,e,_=>by cases e
def dTup (tr:TAd):TEd:=fun O U Q=>tr O U fun es U1=>match qlv es with
 | some ds=>ds.length<=4000/\Q (.d (.tuple ds)) U1
 | none=>False
def dLst (tr:TAd):TEd:=fun O U Q=>tr O U fun es U1=>match qlv es with
 | some ds=>ds.length<=4000/\Q (.d (.list ds)) U1
 | none=>False
theorem Yr {x1} (h:DA K X es tr):DE K X (.Tuple es x1 pos) (dTup tr):=by
 refine PE.mono (Z5 h) fun G H Q Og=>?_;obtain⟨O,U,Q0,hS,hM,h,cl⟩:=Og;refine⟨O,U,_,hS,hM,h,fun es' U1 vs H1 q M1 s1 i1=>?_⟩;split at q
 .rename_i ds e
  have hA:=qbm e i1;refine⟨yn (yR (by rw[hA.len];exact q.1)),fun p hp=>?_⟩;obtain⟨M2,s2,hn⟩:=M1.laid (o:=.tup vs) hp;exact cl _ U1 _ _ q.2 M2 (s1.trans s2) (.tup (SqT.of (by rw[yG hn];exact qU)) (IsAll.same s2 hA))
 .exact q.elim
theorem Y1 (h:DA K X es tr):DE K X (.List es pos) (dLst tr):=by
 refine PE.mono (qfu h) fun G H Q Og=>?_;obtain⟨O,U,Q0,hS,hM,h,cl⟩:=Og;refine⟨O,U,_,hS,hM,h,fun es' U1 vs H1 q M1 s1 i1=>?_⟩;split at q
 .rename_i ds e
  have hA:=qbm e i1;refine⟨yn (yR (by rw[hA.len];exact q.1)),fun p hp=>?_⟩;obtain⟨M2,s2,hn⟩:=M1.laid (o:=.lst vs) hp;exact cl _ U1 _ _ q.2 M2 (s1.trans s2) (.lst (SqL.of (by rw[yG hn];exact qU)) (IsAll.same s2 hA))
 .exact q.elim
def dLstM (tr:TAd):TEd:=fun O U Q=>tr O U fun es U1=>match qlv es with
 | some ds=>ds.length<=4000/\∀ p,p∉U1.map Prod.fst->Q (.m p) ((p,.lst ds)::U1)
 | none=>False
theorem qdC (h:DA K X es tr):DE K X (.List es pos) (dLstM tr):=by
 refine PE.mono (qfu h) fun G H Q Og=>?_;obtain⟨O,U,Q0,hS,hM,h,cl⟩:=Og;refine⟨O,U,_,hS,hM,h,fun es' U1 vs H1 q M1 s1 i1=>?_⟩;split at q
 .rename_i ds e
  have hA:=qbm e i1;refine⟨yn (yR (by rw[hA.len];exact q.1)),fun p hp=>?_⟩;obtain⟨_,_,hn⟩:=M1.laid (o:=.lst vs) hp;obtain⟨M2,s2⟩:=M1.new (u:=.lst vs) (o:=.lst ds) hp fun ss=>⟨vs,qU,IsAll.same ss hA⟩;exact cl _ _ _ _ (q.2 p hn) M2 (s1.trans s2) rfl
 .exact q.elim
end
end L2
variable {tA tt:L2.TTd}{te tc to:L2.TEd}{U U' U1 U2:L2.Mu}{O:L2.Rho}{tr:L2.TAd}
namespace L2
variable {p:Pos}
theorem IsAll.atI {i:Int}{z:PyData}(h:IsAll K H vs ds) (e:L2.atI ds i=some z):∃ v,L2.atI vs i=some v/\Is K H v z:=by
 unfold L2.atI at *;rw[h.len];cases q:ixN ds.length i with
 | none=>rw[q] at e;cases e
 | some j =>
  rw[q] at e;obtain⟨v,e1,e2⟩:=h.get' (i:=j) e;exact⟨v,e1,e2⟩
section
variable {a b:Expr}{ta tb:TEd}{tB:TTd}
def qmg:R2d:=fun x y U Q=>match y with
 | .d (.int i)=>∃ ds z,LstOf U x ds/\atI ds i=some z/\Q (.d z) U
 | _=>False
def qme:R2d:=fun x y U Q=>match x,y with
 | .d (.tuple ds),.d (.int i)=>∃ z,atI ds i=some z/\Q (.d z) U
 | _,_=>False
def qmf:R2d:=fun x y U Q=>match x,y with
 | .m p,.d (.int i)=>∃ as z,(p,.refs as)∈U/\atI as i=some z/\Q (.m z) U
 | _,_=>False
theorem qkZ (hK:X.K=K:=by rfl):IxR X (upR K qmg):=by
 subst hK;refine YI.mono fun x y H Q h=>?_;obtain⟨U,e,e',Q0,M,i1,i2,q,cl⟩:=h;unfold qmg at q;split at q
 .obtain ⟨ds,z,h1,h2,q⟩:=q;cases i2
  obtain⟨p,xs,rfl,h3,h4⟩:=h1.get M i1;obtain⟨v,e1,e2⟩:=h4.atI h2;exact⟨p,xs,_,v,rfl,rfl,h3,e1,cl _ U v H q M (yr.refl _) e2⟩
 .exact q.elim
theorem qne (hK:X.K=K:=by rfl):IxR X (upR K qme):=by
 subst hK;refine qjf.mono fun x y H Q h=>?_;obtain⟨U,e,e',Q0,M,i1,i2,q,cl⟩:=h;unfold qme at q;split at q
 .obtain ⟨z,h2,q⟩:=q;cases i2
  have i1':=Is.same yB (show Is X.K (mask U H) x _ from i1);cases i1 with
  | tup h3 h4 =>
   obtain⟨v,e1,e2⟩:=h4.atI h2;cases i1' with
   | tup h5 h6 =>
    refine⟨_,_,_,v,rfl,rfl,?_,e1,cl _ U v H q M (yr.refl _) e2⟩;rcases h3 with (e | ⟨o,e⟩) | e
    .exact .inl (.inl (yB _ _ e))
    .exact .inl (.inr ⟨o,yB _ _ e⟩)
    .exact .inr e
 .exact q.elim
theorem qlt (f:α->β) (xs:List α) (i:Int):atI (xs.map f) i=(atI xs i).map f:=by
 unfold atI;rw[qc];cases ixN xs.length i with
 | none=>rfl
 | some j=>simp
theorem Jf (hK:X.K=K:=by rfl):IxR X (upR K qmf):=by
 subst hK;refine YI.mono fun x y H Q h=>?_;obtain⟨U,e,e',Q0,M,i1,i2,q,cl⟩:=h;unfold qmf at q;split at q
 .obtain ⟨as,z,h1,h2,q⟩:=q;cases i2
  have i1:x=_:=i1;subst i1;have h3:=M.ob _ _ h1;exact⟨_,_,_,.ref z,rfl,rfl,SqL.of h3,by rw[qlt,h2];rfl,cl (.m z) U _ H q M (yr.refl _) rfl⟩
 .exact q.elim
theorem jg {r:R2d}(hr:IxR X (upR K r)) (ha:DE K X a ta) (hb:DE K X b tb) (hs:qgZ b:=by exact fun _ _=>rfl):DE K X (.Subscript a b pos) (dOp r ta tb):=PE.mono (qdY hr ha hb hs) fun _ _ _=>qjN
def ZT (xs:List PyData) (lo hi:Option Int):List PyData:=(xs.drop (HT.sIx xs.length 0 lo)).take (HT.sIx xs.length xs.length hi - HT.sIx xs.length 0 lo)
theorem IsAll.cut {lo hi:Option Int}(h:IsAll K H vs ds):IsAll K H (qlp vs lo hi) (ZT ds lo hi):=by
 unfold qlp ZT;rw[h.len];exact (h.drop _).take _
abbrev TOd:=Rho->Mu->(Option Int->Mu->Prop)->Prop
def upO (K:W.Frag) (t:TOd):TO:=fun G H Q=>∃ O U Q0,RelS K O U G H/\RelM K U H/\t O U Q0/\∀ o U' H',Q0 o U'->RelM K U' H'->yr (mask U H) (mask U' H')->Q o H'
def DO (K:W.Frag) (X:Cx) (e:Option Expr) (t:TOd):Prop:=PO X e (upO K t)
theorem PO.mono {e:Option Expr}{t t':TO}(h:PO X e t) (f:∀ G H Q,t' G H Q->t G H Q):PO X e t':=fun Ob s G H Q I q=>h Ob s G H Q I (f _ _ _ q)
def qlm:TOd:=fun _ U Q=>Q none U
def dPart (t:TEd):TOd:=fun O U Q=>t O U fun x U1=>match x with
 | .d (.int i)=>Q (some i) U1
 | _=>False
theorem Ji:DO K X none qlm:=PO.mono qj6 fun G H Q ⟨O,U,Q0,hS,hM,h,cl⟩=>cl none U H h hM (yr.refl _)
theorem Jh (h:DE K X a ta):DO K X (some a) (dPart ta):=PO.mono (qj5 h) fun G H Q ⟨O,U,Q0,hS,hM,h,cl⟩=>⟨O,U,_,hS,hM,h,fun e U1 v H1 q M1 s1 i1=>by
 split at q
 .cases i1;exact⟨_,rfl,cl _ U1 H1 q M1 s1⟩
 .exact q.elim⟩
def dSl (r:En->Option Int->Option Int->Mu->(En->Mu->Prop)->Prop) (te:TEd) (tl th:TOd):TEd:=fun O U Q=>te O U fun x U1=>tl O U1 fun l U2=>th O U2 fun u U3=>r x l u U3 Q
def rdSlL:En->Option Int->Option Int->Mu->(En->Mu->Prop)->Prop:=fun x l u U Q=>∃ ds,LstOf U x ds/\Q (.d (.list (ZT ds l u))) U
theorem Jk {lo hi:Option Expr}{p2:Pos}{tl th:TOd}(ha:DE K X a ta) (hl:DO K X lo tl) (hu:DO K X hi th) (hK:X.K=K:=by rfl):DE K X (.Subscript a (.Slice lo hi none p2) pos) (dSl rdSlL ta tl th):=by
 subst hK;refine PE.mono (qhE qjS ha hl hu) fun G H Q Og=>?_;obtain⟨O,U,Q0,hS,hM,h,cl⟩:=Og;refine⟨O,U,_,hS,hM,h,fun e U1 v H1 q1 M1 s1 i1=>⟨O,U1,_,hS.same s1,M1,q1,fun l U2 H2 q2 M2 s2=>⟨O,U2,_,hS.same (s1.trans s2),M2,q2,fun u U3 H3 q3 M3 s3=>?_⟩⟩⟩;obtain⟨ds,h1,q⟩:=q3;have i3:=i1.same (s2.trans s3);obtain⟨p,xs,rfl,h3,h4⟩:=h1.get M3 i3;refine⟨p,xs,rfl,h3,fun l hl=>?_⟩;obtain⟨M4,s4,hn⟩:=M3.laid (o:=.lst (qlp xs _ _)) hl;exact cl _ _ _ _ q M4 ((s1.trans s2).trans (s3.trans s4)) (.lst (SqL.of (by rw[yG hn];exact qU)) (IsAll.same s4 h4.cut))
def dCB (r:RAd) (tr:TAd):TEd:=fun O U Q=>tr O U fun es U1=>r es U1 Q
theorem qlK {r:RAd}(h:up K (dCB r tr) G H Q):tCB (upC K r) (upA K tr) G H Q:=by
 obtain⟨O,U,Q0,hS,hM,h,cl⟩:=h;exact⟨O,U,_,hS,hM,h,fun es U1 vs H1 q M1 s1 i1=>⟨U1,es,Q0,M1,i1,q,cl.same s1⟩⟩
theorem yA {id:String}{r:RAd}(hc:jq X (.builtin id) (upC K r)) (hg:Gl X x) (hm:X.mg x=none) (hv:bootBuiltins x=some (.builtin id)) (ha:DA K X (e::es) tr) (hn:x ≠ "__name__" := by decide) (hdb:(x == ("__debug__" : Str))=false:=by decide)
  (he:starEach (e::es) X.env=(false,eval e X.env)::starEach es X.env:=by rfl) (hpl:(backTo pos (starEach es X.env)).any (·.1)=false:=by rfl):DE K X (.Call (.Name x p) (e::es) [] pos) (dCB r tr):=PE.mono (YV hc hg hm hv ha hn hdb he hpl) fun _ _ _=>qlK
theorem jR {r:RAd}(hc:jq X (.type T) (upC K r)) (hg:Gl X x) (hm:X.mg x=none) (hv:bootBuiltins x=some (.type T)) (ha:DA K X (e::es) tr) (hn:x ≠ "__name__" := by decide) (hdb:(x == ("__debug__" : Str))=false:=by decide)
  (he:starEach (e::es) X.env=(false,eval e X.env)::starEach es X.env:=by rfl) (hpl:(backTo pos (starEach es X.env)).any (·.1)=false:=by rfl):DE K X (.Call (.Name x p) (e::es) [] pos) (dCB r tr):=PE.mono (qfw hc hg hm hv ha hn hdb he hpl) fun _ _ _=>qlK
theorem YG {e:En}(h:Paired (IsE K U H) vs [e]):∃ v,vs=[v]/\IsE K U H v e:=by cases h with | cons a b=>cases b;exact⟨_,rfl,a⟩
theorem qfA {e e':En}(h:Paired (IsE K U H) vs [e,e']):∃ v v',vs=[v,v']/\IsE K U H v e/\IsE K U H v' e':=by cases h with | cons a b=>cases b with | cons c d=>cases d;exact⟨_,_,rfl,a,c⟩
def qml:RAd:=fun es U Q=>match es with
 | [.d (.int i)]=>Q (.d (.int (i.natAbs:Int))) U
 | _=>False
theorem qaJ:jq X (.builtin "abs") (upC K qml):=qin.mono fun xs H Q h=>by
 obtain⟨U,es,Q0,M,hp,q,cl⟩:=h;unfold qml at q;split at q
 .rename_i i
  obtain⟨v,rfl,i1⟩:=YG hp;cases i1
  have e:(if i<0 then -i else i)=(i.natAbs:Int):=by split <;> omega
  exact⟨_,rfl,by rw[e];exact cl _ U _ H q M (yr.refl _) (.int _)⟩
 .exact q.elim
def qnO (g:Int->Int->Int):RAd:=fun es U Q=>match es with
 | [.d (.int i),.d (.int j)]=>Q (.d (.int (g i j))) U
 | _=>False
theorem qgK (hc:X.calm=true):jq X (.builtin "max") (upC K (qnO fun i j=>if i<j then j else i)):=(qgR hc).mono fun xs H Q h=>by
 obtain⟨U,es,Q0,M,hp,q,cl⟩:=h;unfold qnO at q;split at q
 .obtain ⟨v,v',rfl,i1,i2⟩:=qfA hp;cases i1;cases i2
  exact⟨_,_,rfl,cl _ U _ H q M (yr.refl _) (.int _)⟩
 .exact q.elim
theorem qnl (hc:X.calm=true):jq X (.builtin "min") (upC K (qnO fun i j=>if j<i then j else i)):=(qgP hc).mono fun xs H Q h=>by
 obtain⟨U,es,Q0,M,hp,q,cl⟩:=h;unfold qnO at q;split at q
 .obtain ⟨v,v',rfl,i1,i2⟩:=qfA hp;cases i1;cases i2
  exact⟨_,_,rfl,cl _ U _ H q M (yr.refl _) (.int _)⟩
 .exact q.elim
inductive SeqOf (U:Mu):En->List PyData->Prop
 | l {e:En}{ds:List PyData}(h:LstOf U e ds):SeqOf U e ds
 | t (ds:List PyData):SeqOf U (.d (.tuple ds)) ds
theorem SeqOf.get {e:En}(h:SeqOf U e ds) (M:RelM K U H) (i:IsE K U H v e):∃ p xs,v = .ref p/\(SqL K H p xs\/SqT K H p xs)/\IsAll K (mask U H) xs ds:=by
 cases h with
 | l h=>obtain⟨p,xs,h1,h2,h3⟩:=h.get M i;exact⟨p,xs,h1,.inl h2,h3⟩
 | t ds =>
  cases i with
  | tup h hs =>
   refine⟨_,_,rfl,.inr ?_,hs⟩;rcases h with (e | ⟨o,e⟩) | e
   .exact .inl (.inl (yB _ _ e))
   .exact .inl (.inr ⟨o,yB _ _ e⟩)
   .exact .inr e
def qmd:RAd:=fun es U Q=>match es with
 | [e]=>∃ ds,SeqOf U e ds/\Q (.d (.int (ds.length:Int))) U
 | _=>False
theorem Ye (hK:X.K=K:=by rfl):jq X (.builtin "len") (upC K qmd):=by
 subst hK;refine ZD.mono fun xs H Q h=>?_;obtain⟨U,es,Q0,M,hp,q,cl⟩:=h;unfold qmd at q;split at q
 .obtain ⟨v,rfl,i1⟩:=YG hp;obtain⟨ds,h1,q⟩:=q;obtain⟨p,ys,rfl,h2,h3⟩:=h1.get M i1;exact⟨p,ys,rfl,h2,by rw[h3.len];exact cl _ U _ H q M (yr.refl _) (.int _)⟩
 .exact q.elim
def qi0:RAd:=fun es U Q=>match es with
 | [e]=>∃ ds,SeqOf U e ds/\Q (.d (.list ds)) U
 | _=>False
theorem qcI (hK:X.K=K:=by rfl):jq X (.type "list") (upC K qi0):=by
 subst hK;refine ZC.mono fun xs H Q h=>?_;obtain⟨U,es,Q0,M,hp,q,cl⟩:=h;unfold qi0 at q;split at q
 .obtain ⟨v,rfl,i1⟩:=YG hp;obtain⟨ds,h1,q⟩:=q;obtain⟨p,ys,rfl,h2,h3⟩:=h1.get M i1;refine⟨p,ys,rfl,h2,fun l hl=>?_⟩;obtain⟨M4,s4,hn⟩:=M.laid (o:=.lst ys) hl;exact cl _ U _ _ q M4 s4 (.lst (SqL.of (by rw[yG hn];exact qU)) (IsAll.same s4 h3))
 .exact q.elim
def qfc:RAd:=fun es U Q=>match es with
 | [e]=>∃ ds,SeqOf U e ds/\∀ p,p∉U.map Prod.fst->Q (.m p) ((p,.lst ds)::U)
 | _=>False
theorem ZR (hK:X.K=K:=by rfl):jq X (.type "list") (upC K qfc):=by
 subst hK;refine ZC.mono fun xs H Q h=>?_;obtain⟨U,es,Q0,M,hp,q,cl⟩:=h;unfold qfc at q;split at q
 .obtain ⟨v,rfl,i1⟩:=YG hp;obtain⟨ds,h1,q⟩:=q;obtain⟨p,ys,rfl,h2,h3⟩:=h1.get M i1;refine⟨p,ys,rfl,h2,fun l hl=>?_⟩;obtain⟨_,_,hn⟩:=M.laid (o:=.lst ys) hl;obtain⟨M2,s2⟩:=M.new (u:=.lst ys) (o:=.lst ds) hl fun ss=>⟨ys,qU,IsAll.same ss h3⟩;exact cl _ _ _ _ (q l hn) M2 s2 rfl
 .exact q.elim
def qmk (f:List Bool->Bool):RAd:=fun es U Q=>match es with
 | [e]=>∃ bs,LstOf U e (bs.map PyData.bool)/\Q (.d (.bool (f bs))) U
 | _=>False
theorem qnm (hc:X.calm=true) (hK:X.K=K:=by rfl):jq X (.builtin "all") (upC K (qmk fun bs=>bs.all id)):=by
 subst hK;refine (qim hc).mono fun xs H Q h=>?_;obtain⟨U,es,Q0,M,hp,q,cl⟩:=h;unfold qmk at q;split at q
 .obtain ⟨v,rfl,i1⟩:=YG hp;obtain⟨bs,h1,q⟩:=q;obtain⟨p,ys,rfl,h2,h3⟩:=h1.get M i1;rw[h3.bools_of] at h2;exact⟨p,bs,rfl,h2,cl _ U _ H q M (yr.refl _) (.bl _)⟩
 .exact q.elim
def isTy (n:String):PyData->Bool
 | .none=>false
 | .bool _=>n == "bool" || n == "int"
 | .int _=>n == "int"
 | .str _=>n == "str"
 | .list _=>n == "list"
 | .tuple _=>n == "tuple"
 | .dict _=>false
abbrev SpD:=List En->Mu->(En->Mu->Prop)->Prop
def yq (K:W.Frag) (s:SpD):Sp:=fun vs H Q _=>∃ U es Q0,RelM K U H/\Paired (IsE K U H) vs es/\s es U Q0/\Cl K U H Q0 Q
theorem yt {s:SpD}(Oa:Own X.prog X.w X.K X.mg X.base CX k x ps (yq K s)) (hX:NoX CX) (hr:Room k X.A) (hg:Gl X x) (ha:DA K X (e::es) tr) (hdb:(x == ("__debug__" : Str))=false:=by decide)
  (he:starEach (e::es) X.env=(false,eval e X.env)::starEach es X.env:=by rfl) (hpl:(backTo pos (starEach es X.env)).any (·.1)=false:=by rfl):DE K X (.Call (.Name x p) (e::es) [] pos) (dCB s tr):=by
 refine PE.mono (qmA Oa hX hr hg ha hdb he hpl) fun G H Q Og=>?_;obtain⟨O,U,Q0,hS,hM,h,cl⟩:=Og;exact⟨O,U,_,hS,hM,h,fun es U1 vs H1 q M1 s1 i1=>⟨U1,es,Q0,M1,by simpa using i1,q,cl.same s1⟩⟩
inductive Thaw (a:Addr) (ds:List PyData):List En->List En->Prop
 | nil:Thaw a ds [] []
 | me {es es':List En}:Thaw a ds es es'->Thaw a ds (.m a::es) (.d (.list ds)::es')
 | ot {e:En}{es es':List En}:Thaw a ds es es'->Thaw a ds (e::es) (e::es')
end
end L2
namespace L2
variable {a b:Expr}{ta:TAd}{tb:TSd}{st:Stmt}
section
variable {ta tb:TEd}{tB:TTd}
def tys:List String:=["int", "bool", "str", "list", "tuple"]
theorem qnW {n:String}{p:Pos}(hg:Gl X x) (hm:X.mg x=none) (hv:bootBuiltins x=some (.type n)) (hn:x ≠ "__name__" := by decide) (hd:(x == ("__debug__" : Str))=false:=by decide):DE K X (.Name x p) (fun _ U Q=>Q (.ty n) U) :=
 PE.mono (qfy (v:=.ty n) hg hm hv rfl hn hd) fun G H Q ⟨O,U,Q0,hS,hM,h,cl⟩=>cl _ U (.ty n) H h hM (yr.refl _) rfl
theorem qil:jq X (.builtin "isinstance") (fun xs H Q=>∃ x n d,xs=[x,.ty n]/\Is X.K H x d/\n∈tys/\Q (.bl (isTy n d)) H):=by
 intro Ob s G H xs us Q I r h;obtain⟨x,n,d,rfl,ty,hn,q⟩:=h;obtain⟨u,u',rfl,rx,ry⟩:=qex r;cases ry
 have fin:∀ tk,EP X Ob G Q (.bool (isTy n d)) { s with toks:=tk }:=fun tk=>⟨.bl _,H,I.tok _,rfl,q⟩;have hn:n = "int" \/ n = "bool" \/ n = "str" \/ n = "list" \/ n = "tuple" := by simpa[tys] using hn
 cases ty with
 | non=>cases (show u=Value.none from rx);exact W.kia_one W.kitx_none I.kIn True.intro (by rcases hn with rfl | rfl | rfl | rfl | rfl <;> rfl) (fun z=>nomatch z) fin
 | bl y=>cases (show u=Value.bool y from rx);exact W.kia_one W.kitx_bool I.kIn True.intro (by rcases hn with rfl | rfl | rfl | rfl | rfl <;> rfl) (fun z=>nomatch z) fin
 | int i=>obtain⟨t,z⟩:=(show ∃ t,u=Value.int i t from rx);cases z;exact W.kia_one W.kitx_int I.kIn True.intro (by rcases hn with rfl | rfl | rfl | rfl | rfl <;> rfl) (fun z=>nomatch z) fin
 | str y=>obtain⟨t,z⟩:=(show ∃ t,u=Value.str y t from rx);cases z;exact W.kia_one W.kitx_str I.kIn True.intro (by rcases hn with rfl | rfl | rfl | rfl | rfl <;> rfl) (fun z=>nomatch z) fin
 | @lst a xs ds hq _ =>
  cases (show u=Value.ref a from rx)
  obtain⟨its,_,⟨o,n',h1,h2,_⟩,_⟩:=I.list hq;exact W.kia_one W.kitx_list I.kIn ⟨o,h1,h2⟩ (by rcases hn with rfl | rfl | rfl | rfl | rfl <;> rfl) (fun z=>nomatch z) fin
 | @dc a hq =>
  cases (show u=Value.ref a from rx)
  obtain⟨_,_,vs,_,o,es,ep,h1,h2,_⟩:=(show jK X.prog X.w H s.heap a (.dK []) from I.hok a _ hq);exact W.kia_one W.kitx_dict I.kIn ⟨o,h1,h2.1⟩ (by rcases hn with rfl | rfl | rfl | rfl | rfl <;> rfl) (fun z=>nomatch z) fin
 | @tup a xs ds hq _ =>
  cases (show u=Value.ref a from rx)
  obtain⟨its,_,⟨o,h1,h2,_⟩,_⟩:=I.tuple hq;exact W.kia_one W.kitx_tuple I.kIn ⟨o,h1,h2⟩ (by rcases hn with rfl | rfl | rfl | rfl | rfl <;> rfl) (fun z=>nomatch z) fin
abbrev TGd:=En->Rho->Mu->(Rho->Mu->Prop)->Prop
abbrev qjA:=List PyData->Rho->Mu->(Rho->Mu->Prop)->Prop
def upG (K:W.Frag) (t:TGd):TG:=fun v G H Q=>∃ e O U Q0,IsE K U H v e/\RelS K O U G H/\RelM K U H/\t e O U Q0/\ClR K U H Q0 Q
def upGs (K:W.Frag) (t:qjA):TGs:=fun vs G H Q=>∃ ds O U Q0,IsAll K (mask U H) vs ds/\RelS K O U G H/\RelM K U H/\t ds O U Q0/\ClR K U H Q0 Q
def DG (K:W.Frag) (X:Cx) (tg:Expr) (t:TGd):Prop:=PG X tg (upG K t)
def DGs (K:W.Frag) (X:Cx) (tg:List Expr) (t:qjA):Prop:=PGs X tg (upGs K t)
theorem PG.mono {t t':TG}(h:PG X tg t) (f:∀ v G H Q,t' v G H Q->t v G H Q):PG X tg t':=fun Ob s G H v u Q I r q=>h Ob s G H v u Q I r (f _ _ _ _ q)
theorem PGs.mono {tg:List Expr}{t t':TGs}(h:PGs X tg t) (f:∀ v G H Q,t' v G H Q->t v G H Q):PGs X tg t':=fun Ob s G H v u Q I r q=>h Ob s G H v u Q I r (f _ _ _ _ q)
def jD (i:Nat):TGd:=fun e O U Q=>Q (O.set i (some e)) U
theorem yX (hN:X.N.Nodup) (hi:X.N[i]?=some x) (hx:Loc X.env.scope x) (hf:FnL X x:=by trivial):DG K X (.Name x pos) (jD i) :=
 PG.mono (qfs hN hi hx hf) fun v G H Q ⟨e,O,U,Q0,i1,hS,hM,h,cl⟩=>cl _ U _ H h (hS.set i1) hM (yr.refl _)
theorem ji (hN:X.N.Nodup) (hi:X.N[i]?=some x:=by rfl) (hx:Loc X.env.scope x:=by trivial) (hf:FnL X x:=by trivial):DG K X (.Name x pos) (jD i):=yX hN hi hx hf
def qee:qjA:=fun ds O U Q=>match ds with
 | []=>Q O U
 | _=>False
def Yd (t:TGd) (u:qjA):qjA:=fun ds O U Q=>match ds with
 | x::r=>t (.d x) O U fun O' U'=>u r O' U' Q
 | []=>False
theorem jB:DGs K X [] qee:=PGs.mono qcq fun vs G H Q ⟨ds,O,U,Q0,i1,hS,hM,h,cl⟩=>by
 unfold qee at h;split at h
 .cases i1;exact⟨rfl,cl _ U _ H h hS hM (yr.refl _)⟩
 .exact h.elim
theorem ye {t:TGd}{u:qjA}(h1:DG K X e t) (h2:DGs K X es u)
  (hs:(assignEach (e::es) X.env).map (·.2)=assign e X.env::(assignEach es X.env).map (·.2):=by rfl):DGs K X (e::es) (Yd t u):=PGs.mono (ZI h1 h2 hs) fun vs G H Q ⟨ds,O,U,Q0,i1,hS,hM,h,cl⟩=>by
 unfold Yd at h;split at h
 .cases i1 with
  | cons i1 i2 =>
   refine⟨_,_,rfl,.d _,O,U,_,i1,hS,hM,h,fun O' U' G' H' q S' M' s'=>?_⟩;exact⟨_,O',U',Q0,IsAll.same s' i2,S',M',q,cl.same s'⟩
 .exact h.elim
def qed (n:Nat) (t:qjA):TGd:=fun e O U Q=>match e with
 | .d (.tuple ds)=>ds.length=n/\t ds O U Q
 | _=>False
theorem Jw {t:qjA}(hc:X.calm=true) (h:DGs K X es t) (hK:X.K=K:=by rfl)
  (hn:(assignEach es X.env).length=n:=by rfl) (hst:(assignEach es X.env).findIdx? (·.1)=none:=by rfl):DG K X (.Tuple es k pos) (qed n t):=by
 subst hK;refine PG.mono (qfr hc h hn hst) fun v G H Q Og=>?_;obtain⟨e,O,U,Q0,i1,hS,hM,h,cl⟩:=Og;unfold qed at h;split at h
 .obtain ⟨p,xs,rfl,hq,hA⟩:=(SeqOf.t _).get hM i1;cases i1 with
  | tup h1 h2 =>
   refine⟨_,_,rfl,?_,by rw[h2.len];exact h.1,_,O,U,Q0,h2,hS,hM,h.2,cl⟩;rcases h1 with (e | ⟨o,e⟩) | e
   .exact .inl (.inl (yB _ _ e))
   .exact .inl (.inr ⟨o,yB _ _ e⟩)
   .exact .inr e
 .exact h.elim
variable {rest:List Stmt}{t u:TSd}
def dNext:TSd:=fun D O U=>D.nx O U
def dSeq (t u:TSd):TSd:=fun D O U=>t { D with nx:=u D } O U
theorem yW:DSs K X [] dNext:=PSs.mono qcp fun D G H ⟨O,U,D0,hS,hM,h,cl⟩=>cl.nx _ U _ H h hS hM (yr.refl _)
theorem qC (h1:DS K X st t) (h2:DSs K X rest u):DSs K X (st::rest) (dSeq t u):=PSs.mono (jQ h1 h2) fun D G H ⟨O,U,D0,hS,hM,h,cl⟩ =>
 ⟨O,U,_,hS,hM,h,⟨fun O' U' G' H' q S' M' s'=>⟨O',U',D0,S',M',q,cl.same s'⟩,cl.rt,cl.bk,cl.ct⟩⟩
theorem qR (h1:DS K X st t):DSs K X [st] t:=jH h1
theorem qdx:DS K X st (fun _ _ _=>False):=PS.mono qhz fun D G H ⟨O,U,D0,hS,hM,h,cl⟩=>h
def dDrop (te:TEd):TSd:=fun D O U=>te O U fun _ U1=>D.nx O U1
theorem Yo (he:DE K X e te) (hs:swapsWith e none pos.line X.env=pure false:=by rfl):DS K X (.Expr e pos) (dDrop te):=PS.mono (qj3 he hs) fun D G H ⟨O,U,D0,hS,hM,h,cl⟩ =>
 ⟨O,U,_,hS,hM,h,fun e' U1 v H1 q M1 s1 i1=>cl.nx _ U1 _ H1 q (hS.same s1) M1 s1⟩
def dRet (te:TEd):TSd:=fun D O U=>te O U D.rt
theorem yd (he:DE K X e te):DS K X (.Return (some e) pos) (dRet te):=PS.mono (Zx he) fun D G H ⟨O,U,D0,hS,hM,h,cl⟩=>⟨O,U,_,hS,hM,h,cl.rt⟩
def FzR (U:Mu) (e:En) (U':Mu) (e':En):Prop:=∀ (K:W.Frag) (v:V) (H:Hp),RelM K U H->IsE K U H v e->RelM K U' H/\IsE K U' H v e'/\yr (mask U H) (mask U' H)
theorem FzR.list : FzR (U1++(p,.lst ds)::U2) (.m p) (U1++U2) (.d (.list ds)):=fun K v H h i=>by
 obtain⟨M',s,hn⟩:=h.drop;obtain⟨xs,e,hs⟩:=h.ob p (.lst ds) (by simp);have i:v=_:=i;subst i;exact⟨M',.lst (SqL.of (by rw[yG hn];exact e)) (IsAll.same s hs),s⟩
theorem FzR.list1 : FzR ((p,.lst ds)::U2) (.m p) U2 (.d (.list ds)):=FzR.list (U1:=[])
theorem FzR.drop {o:MO}{e:En}:FzR (U1++(p,o)::U2) e (U1++U2) e:=fun K v H h i=>by
 obtain⟨M',s,hn⟩:=h.drop;exact⟨M',i.same s,s⟩
theorem FzR.drop1 {o:MO}{e:En}:FzR ((p,o)::U2) e U2 e:=FzR.drop (U1:=[])
def dRetF (te:TEd):TSd:=fun D O U=>te O U fun e U1=>∃ U2 e2,FzR U1 e U2 e2/\D.rt e2 U2
theorem Zk (he:DE K X e te):DS K X (.Return (some e) pos) (dRetF te):=PS.mono (Zx he) fun D G H ⟨O,U,D0,hS,hM,h,cl⟩=>⟨O,U,_,hS,hM,h,fun e' U1 v H1 q M1 s1 i1=>by
 obtain⟨U2,e2,f,q⟩:=q;obtain⟨M2,i2,s2⟩:=f K v H1 M1 i1;exact cl.rt _ U2 _ H1 q M2 (s1.trans s2) i2⟩
def dIfS (c:TTd) (t u:TSd):TSd:=fun D O U=>c O U fun b U1=>if b=true then t D O U1 else u D O U1
theorem jz {a b:List Stmt}{tc:TTd}(hc:DT K X c tc) (ha:DSs K X a t) (hb:DSs K X b u):DS K X (.If c a b pos) (dIfS tc t u):=PS.mono (qfi hc ha hb) fun D G H ⟨O,U,D0,hS,hM,h,cl⟩ =>
 ⟨O,U,_,hS,hM,h,fun k U1 H1 q M1 s1=>by
  cases k with
  | true=>exact ZO ⟨O,U1,D0,hS.same s1,M1,by simpa using q,cl.same s1⟩
  | false=>exact YO ⟨O,U1,D0,hS.same s1,M1,by simpa using q,cl.same s1⟩⟩
def qnY (te:TEd) (g:TGd):TSd:=fun D O U=>te O U fun e U1=>g e O U1 D.nx
theorem qnf (hN:X.N.Nodup) (hi:X.N[i]?=some x) (hx:Loc X.env.scope x) (he:DE K X e te) (hs:swapsWith e (some (.Name x pos')) pos.line X.env=pure false:=by rfl) (hf:FnL X x:=by trivial) :
  DS K X (.Assign [.Name x pos'] e pos) (qnY te (jD i)):=PS.mono (Zw hN hi hx he hs hf) fun D G H ⟨O,U,D0,hS,hM,h,cl⟩ =>
 ⟨O,U,_,hS,hM,h,fun e' U1 v H1 q M1 s1 i1=>cl.nx _ U1 _ H1 q ((hS.same s1).set i1) M1 s1⟩
theorem yM (hN:X.N.Nodup) (he:DE K X e te) (hi:X.N[i]?=some x:=by rfl) (hx:Loc X.env.scope x:=by trivial) (hs:swapsWith e (some (.Name x pos')) pos.line X.env=pure false:=by rfl) (hf:FnL X x:=by trivial):DS K X (.Assign [.Name x pos'] e pos) (qnY te (jD i)):=qnf hN hi hx he hs hf
theorem Ju {g:TGd}(he:DE K X e te) (hg:DG K X tg g) (hs:swapsWithSole [tg] e pos.line X.env=pure false:=by rfl) (hw:swappedStores [tg] e X.env=pure none:=by rfl)
  (h1:(assignEach [tg] X.env).map (·.2)=[assign tg X.env]:=by rfl):DS K X (.Assign [tg] e pos) (qnY te g):=PS.mono (qfj he hg hs hw h1) fun D G H ⟨O,U,D0,hS,hM,h,cl⟩ =>
 ⟨O,U,_,hS,hM,h,fun e' U1 v H1 q M1 s1 i1=>⟨e',O,U1,D0.nx,i1,hS.same s1,M1,q,cl.nx.same s1⟩⟩
def dPar (i j:Nat) (ta:TAd):TSd:=fun D O U=>ta O U fun es U1=>match es with
 | [e,e']=>D.nx ((O.set i (some e)).set j (some e')) U1
 | _=>False
theorem qaH {y:Str}{ta:TAd}{px py pt:Pos}{kt k2 pt2} (hc:X.calm=true) (hN:X.N.Nodup) (hi:X.N[i]?=some x) (hj:X.N[j]?=some y) (hij:i≠j)
  (hx:X.env.scope.names.lookup x=some .local) (hy:X.env.scope.names.lookup y=some .local) (ha:DA K X [a,b] ta)
  (hw:swappedStores [.Tuple [.Name x px,.Name y py] kt pt] (.Tuple [a,b] k2 pt2) X.env=pure (some [x,y]))
  (hs:swapsWithSole [.Tuple [.Name x px,.Name y py] kt pt] (.Tuple [a,b] k2 pt2) pos.line X.env=pure false:=by rfl) :
  DS K X (.Assign [.Tuple [.Name x px,.Name y py] kt pt] (.Tuple [a,b] k2 pt2) pos) (dPar i j ta):=PS.mono (qmt hc hN hi hj hij hx hy ha hw hs) fun D G H ⟨O,U,D0,hS,hM,h,cl⟩ =>
 ⟨O,U,_,hS,hM,h,fun es U1 vs H1 q M1 s1 i1=>by
  split at q
  .obtain ⟨v,v',rfl,h1,h2⟩:=qfA i1;exact⟨_,_,rfl,cl.nx _ U1 _ H1 q (((hS.same s1).set h1).set h2) M1 s1⟩
  .exact q.elim⟩
def dApp (to:TEd) (tr:TAd):TEd:=fun O U Q=>to O U fun x U1=>match x with
 | .m p=>(∃ ds0,(p,.lst ds0)∈U1)/\tr O U1 fun es U2=>match es with
  | [.d z]=>∃ U3 U4 ds,U2=U3++(p,.lst ds)::U4/\ds.length<4000/\Q (.d .none) (U3++(p,.lst (ds++[z]))::U4)
  | _=>False
 | _=>False
theorem Y2 (ho:DE K X o to) (ha:DA K X [e] tr) (hK:X.K=K:=by rfl)
  (h:PE X o (up K to)->PA X [e] (upA K tr)->PE X (.Call (.Attribute o "append" p1) [e] [] pos) (tBM X.K "list" rAppend (up K to) (upA K tr))):DE K X (.Call (.Attribute o "append" p1) [e] [] pos) (dApp to tr):=by
 subst hK;refine PE.mono (h ho ha) fun G H Q Og=>?_;obtain⟨O,U,Q0,hS,hM,h,cl⟩:=Og;refine⟨O,U,_,hS,hM,h,fun x U1 v H1 q M1 s1 i1=>?_⟩;split at q
 .rename_i x' p
  obtain⟨⟨ds0,hd0⟩,q⟩:=q;have i1:v=_:=i1;subst i1;obtain⟨xs0,e0,_⟩:=M1.ob _ _ hd0;refine⟨.inl ⟨rfl,_,SqL.of e0⟩,O,U1,_,hS.same s1,M1,q,fun es U2 vs H2 q2 M2 s2 i2=>?_⟩;split at q2
  .rename_i es' z
   obtain⟨U3,U4,ds,rfl,hl,q2⟩:=q2;obtain⟨v,rfl,h1⟩:=YG i2;obtain⟨xs,ex,hA⟩:=M2.ob p (.lst ds) (by simp);refine⟨p,xs,v,rfl,rfl,ex,yR (by rw[hA.len];lia),?_⟩;obtain⟨M3,s3⟩:=M2.write (H':=upd H2 p (.lst (xs++[v]))) (o':=.lst (ds++[z])) (fun b u e n=>by rw[qV n];exact e) fun ss=>⟨_,qU,IsAll.snoc (Is.same ss h1) (IsAll.same ss hA)⟩;exact cl _ _ .non _ q2 M3 ((s1.trans s2).trans s3) .non
  .exact q2.elim
 .exact q.elim
structure Itd where
 n:Nat
 item:Nat->En
 ok:Mu->Prop
abbrev TId:=Rho->Mu->(Itd->Mu->Prop)->Prop
def Sim (K:W.Frag) (J0:Itd) (U1:Mu) (H1:Hp) (J:It):Prop:=∀ U' H',RelM K U' H'->yr (mask U1 H1) (mask U' H')->J0.ok U'->∀ i,
 (i<J0.n->J.go i H'/\∀ x H2,J.yld i H' x H2->RelM K U' H2/\yr (mask U' H') (mask U' H2)/\IsE K U' H2 x (J0.item i))/\(J0.n<=i->J.stop i H')
def upI (K:W.Frag) (t:TId):TI:=fun G H R=>∃ O U Q0,RelS K O U G H/\RelM K U H/\t O U Q0/\∀ J0 U1 J H1,Q0 J0 U1->RelM K U1 H1->yr (mask U H) (mask U1 H1)->Sim K J0 U1 H1 J->R J H1
def DI (K:W.Frag) (X:Cx) (tg iter:Expr) (t:TId):Prop:=PI X tg iter (upI K t)
theorem PI.mono {wi':TI}(h:PI X tg iter wi) (f:∀ G H R,wi' G H R->wi G H R):PI X tg iter wi':=fun Ob s G H R I q=>h Ob s G H R I (f _ _ _ q)
def itL (e:En) (ds:List PyData):Itd:=⟨ds.length,fun i=>.d (ds.getD i .none),fun U=>LstOf U e ds⟩
def itR (lo:Int) (n:Nat):Itd:=⟨n,fun i=>.d (.int (lo+i)),fun _=>True⟩
def diL (te:TEd):TId:=fun O U Q=>te O U fun e U1=>∃ ds,LstOf U1 e ds/\Q (itL e ds) U1
def diR1 (ta:TAd):TId:=fun O U Q=>ta O U fun es U1=>match es with
 | [.d (.int j)]=>-(2 ^ 62)<=j/\j<2 ^ 62/\Q (itR 0 j.toNat) U1
 | _=>False
theorem YZ {x:PyData}(h:ds[i]?=some x):ds.getD i .none=x:=by rw[qX,h];rfl
theorem jA {l:Expr}(hl:DE K X l te) (hK:X.K=K:=by rfl):DI K X tg l (diL te):=by
 subst hK;refine PI.mono (qfq hl) fun G H R Og=>?_;obtain⟨O,U,Q0,hS,hM,h,cl⟩:=Og;refine⟨O,U,_,hS,hM,h,fun e U1 v H1 q M1 s1 i1=>?_⟩;obtain⟨ds,hL,q⟩:=q;obtain⟨p,xs,rfl,h1,h2⟩:=hL.get M1 i1;refine⟨p,rfl,⟨xs,h1⟩,cl _ U1 _ H1 q M1 s1 fun U' H' M' s' hok i=>?_⟩;obtain⟨p',xs',e',h3,h4⟩:=LstOf.get hok M' (i1.same s');cases e'
 have hl:=h4.len;refine⟨fun hi=>⟨⟨xs',xs'[i]'(by rw[hl];exact hi),h3,by simp⟩,?_⟩,fun hi=>⟨xs',h3,by rw[hl];exact hi⟩⟩;rintro x H2 ⟨rfl,hx⟩;refine⟨M',yr.refl _,?_⟩;obtain⟨d,e1,e2⟩:=h4.get (hx xs' h3);show Is X.K (mask U' H2) x (ds.getD i .none);rw[YZ e1];exact e2
theorem SqT.same {xs:List V}(s:yr H H') (h:SqT K H p xs):SqT K H' p xs:=by
 rcases h with (e | ⟨o,e⟩) | e
 .exact .inl (.inl (s _ _ e))
 .exact .inl (.inr ⟨o,s _ _ e⟩)
 .exact .inr e
theorem qeI {lo:Int}:Sim K (itR lo n) U1 H1 (Itr lo n):=fun U' H' M' s' _ i =>
 ⟨fun hi=>⟨hi,fun x H2 ⟨e,y⟩=>by subst e y;exact⟨M',yr.refl _,.int _⟩⟩,fun hi=>hi⟩
theorem JM {ta:TAd}{p:Pos}(hg:Gl X "range") (hm:X.mg "range" = none) (ha:DA K X [a] ta) (hs:starEach [a] X.env=[(false,eval a X.env)]:=by rfl):DI K X tg (.Call (.Name "range" p) [a] [] pos) (diR1 ta) :=
 PI.mono (qfp hg hm ha hs) fun G H R ⟨O,U,Q0,hS,hM,h,cl⟩=>⟨O,U,_,hS,hM,h,fun es U1 vs H1 q M1 s1 i1=>by
  split at q
  .obtain ⟨v,rfl,h1⟩:=YG i1;cases h1
   exact⟨_,rfl,q.1,q.2.1,cl _ U1 _ H1 q.2.2 M1 s1 qeI⟩
  .exact q.elim⟩
def Wks (P:Rho->Mu->Prop):Rho->Mu->Prop:=fun O U=>∃ O' U',Wk O U O' U'/\P O' U'
theorem Wks.of {P:Rho->Mu->Prop}(h:P O U):Wks P O U:=⟨O,U,Wk.refl,h⟩
def dFor (ti:TId) (g:TGd) (tb:TSd):TSd:=fun D O U=>ti O U fun J U1=>∃ Pv:Nat->Rho->Mu->Prop,Pv 0 O U1/\(∀ i O' U',i<=J.n->Pv i O' U'->J.ok U') ∧
 (∀ i O' U',i<J.n->Pv i O' U'->g (J.item i) O' U' fun O2 U2=>tb { D with nx:=Wks (Pv (i+1)),ct:=Wks (Pv (i+1)),bk:=D.nx } O2 U2)/\∀ O' U',Pv J.n O' U'->D.nx O' U'
theorem Yn {ti:TId}{g:TGd}{tb:TSd}(hp:PassesOwn (model X.prog X.w) X.A X.env X.xe) (hc:X.calm=true) (hi:DI K X tg iter ti) (hg:DG K X tg g) (hb:DSs K X body tb)
  (hs:∀ x,foldedSetIterable iter X.env x=pure x:=by intro _;rfl):DS K X (.For tg iter body [] pos) (dFor ti g tb):=by
 refine PS.mono (qmu hp hc hi hg hb hs) fun D G H Og=>?_;obtain⟨O,U,D0,hS,hM,h,cl⟩:=Og;refine⟨O,U,_,hS,hM,h,fun J0 U1 J H1 q M1 s1 sim=>?_⟩;obtain⟨Pv,h0,hok,hstep,hend⟩:=q;refine⟨fun i m G' H'=>m=J0.n - i/\i<=J0.n/\∃ O' U',RelS K O' U' G' H'/\RelM K U' H'/\yr (mask U1 H1) (mask U' H')/\Pv i O' U',⟨_,rfl,qZ _,O,U1,hS.same s1,M1,yr.refl _,h0⟩,?_⟩;rintro i m G' H' ⟨rfl,hi,O',U',S',M',s',p⟩;have sm:=sim U' H' M' s' (hok i O' U' hi p) i;by_cases hlt:i<J0.n
 .obtain ⟨hgo,hy⟩:=sm.1 hlt;refine .inr ⟨hgo,fun G2 H2=>∃ O' U',RelS K O' U' G2 H2/\RelM K U' H2/\yr (mask U1 H1) (mask U' H2)/\Pv (i+1) O' U',fun G2 H2 z=>⟨J0.n - (i+1),by lia,rfl,hlt,z⟩,fun x H2 y=>?_⟩;obtain⟨M2,s2,i2⟩:=hy x H2 y;refine⟨_,O',U',_,i2,S'.same s2,M2,hstep i O' U' hlt p,fun O3 U3 G3 H3 q3 S3 M3 s3=>⟨O3,U3,_,S3,M3,q3,?_⟩⟩;have st:=(s'.trans s2).trans s3;have again:∀ {O4 U4 G4 H4},Wks (Pv (i+1)) O4 U4->RelS K O4 U4 G4 H4->RelM K U4 H4->yr (mask U3 H3) (mask U4 H4)->∃ O' U',RelS K O' U' G4 H4/\RelM K U' H4/\yr (mask U1 H1) (mask U' H4)/\Pv (i+1) O' U':=by
   rintro O4 U4 G4 H4 ⟨O5,U5,wk,p5⟩ S4 M4 s4;obtain⟨S5,M5,s5⟩:=wk K G4 H4 S4 M4;exact⟨O5,U5,S5,M5,(st.trans s4).trans s5,p5⟩
  exact⟨fun _ _ _ _ a b c d=>again a b c d,cl.rt.same (s1.trans st),cl.nx.same (s1.trans st),fun _ _ _ _ a b c d=>again a b c d⟩
 .have e:i=J0.n:=by lia
  subst e;exact .inl ⟨sm.2 (qo _),cl.nx _ U' _ H' (hend O' U' p) S' M' (s1.trans s')⟩
def qnr (c:TTd) (tb:TSd):TSd:=fun D O U=>∃ Pv:Nat->Rho->Mu->Prop,(∃ m,Pv m O U)/\∀ m O' U',Pv m O' U'->c O' U' fun b U1=>if b=true then
 tb { D with nx:=fun O2 U2=>∃ m',m'<m/\Wks (Pv m') O2 U2,ct:=fun O2 U2=>∃ m',m'<m/\Wks (Pv m') O2 U2,bk:=D.nx } O' U1 else D.nx O' U1
theorem qdw {tc:TTd}{tb:TSd}(hp:PassesOwn (model X.prog X.w) X.A X.env X.xe) (hc:DT K X c tc) (hb:DSs K X body tb):DS K X (.While c body [] pos) (qnr tc tb):=by
 refine PS.mono (qhx hp hc hb) fun D G H Og=>?_;obtain⟨O,U,D0,hS,hM,h,cl⟩:=Og;obtain⟨Pv,⟨m0,h0⟩,hstep⟩:=h;refine⟨fun m G' H'=>∃ O' U',RelS K O' U' G' H'/\RelM K U' H'/\yr (mask U H) (mask U' H')/\Pv m O' U',⟨m0,O,U,hS,hM,yr.refl _,h0⟩,?_⟩;rintro m G' H' ⟨O',U',S',M',s',p⟩;refine⟨O',U',_,S',M',hstep m O' U' p,fun k U1 H1 q M1 s1=>?_⟩;cases k with
 | true =>
  refine ZO ⟨fun G2 H2=>∃ m',m'<m/\∃ O' U',RelS K O' U' G2 H2/\RelM K U' H2/\yr (mask U H) (mask U' H2)/\Pv m' O' U',fun G2 H2 z=>z,O',U1,_,S'.same s1,M1,by simpa using q,?_⟩;have st:=s'.trans s1;have again:∀ {O4 U4 G4 H4},(∃ m',m'<m/\Wks (Pv m') O4 U4)->RelS K O4 U4 G4 H4->RelM K U4 H4->yr (mask U1 H1) (mask U4 H4)->∃ m',m'<m/\∃ O' U',RelS K O' U' G4 H4/\RelM K U' H4/\yr (mask U H) (mask U' H4)/\Pv m' O' U':=by
   rintro O4 U4 G4 H4 ⟨m',hm,O5,U5,wk,p5⟩ S4 M4 s4;obtain⟨S5,M5,s5⟩:=wk K G4 H4 S4 M4;exact⟨m',hm,O5,U5,S5,M5,(st.trans s4).trans s5,p5⟩
  exact⟨fun _ _ _ _ a b c d=>again a b c d,cl.rt.same st,cl.nx.same st,fun _ _ _ _ a b c d=>again a b c d⟩
 | false=>exact YO (cl.nx _ U1 _ H1 (by simpa using q) (S'.same s1) M1 (s'.trans s1))
def qnX:TTd:=fun _ U Q=>Q true U
def qjG (K:W.Frag) (X:Cx) (ifs:List Expr) (t:TTd):Prop:=Ifs X ifs (upT K t)
theorem Zm:qjG K X [] qnX:=fun Ob s G H Q I ⟨O,U,Q0,hS,hM,h,cl⟩=>qkQ Ob s G H Q I (cl true U H h hM (yr.refl _))
theorem YL {t:TTd}(h:DT K X c t):qjG K X [c] t:=qkP h
def Fin1 (Q:En->Mu->Prop) (ys:List PyData) (U:Mu):Prop:=Q (.d (.list ys)) U
def qlo (k:Nat) (ti:TId) (g:TGd) (tt:TTd) (te:TEd):TEd:=fun O U Q=>ti O U fun J U1=>J.n<=4000/\∃ Pv:Nat->List PyData->Rho->Mu->Prop,Pv 0 [] (O++List.replicate k none) U1/\(∀ i ys O' U',i<=J.n->Pv i ys O' U'->J.ok U') ∧
 (∀ i ys O' U',i<J.n->Pv i ys O' U'->g (J.item i) O' U' fun O2 U2=>tt O2 U2 fun b U3=>if b=true then te O2 U3 fun y U4=>∃ z,y = .d z/\Pv (i+1) (ys++[z]) O2 U4 else Pv (i+1) ys O2 U3) ∧
 ∀ ys O' U',Pv J.n ys O' U'->Fin1 Q ys U'
theorem qez {ti:TId}{g:TGd}(h:up K (qlo k ti g tt te) G H Q):qhh k (upI K ti) (upG K g) (upT K tt) (up K te) G H Q:=by
 obtain⟨O,U,Q0,hS,hM,h,cl⟩:=h;refine⟨O,U,_,hS,hM,h,fun J0 U1 J H1 q M1 s1 sim=>?_⟩;obtain⟨hn,Pv,h0,hok,hstep,hend⟩:=q;have S0:RelS K (O++List.replicate k none) U1 (G++List.replicate k none) H1:=by
  have S1:=hS.same s1;refine⟨by simp[S1.len],fun i e he=>?_⟩;by_cases hi:i<O.length
  .rw [qQ hi] at he;rw[qQ (by rw[<- S1.len];exact hi)];exact S1.get i e he
  .rw [q9 (by lia),yV] at he;split at he <;> cases he
 refine⟨fun i m ys G' H'=>m=J0.n - i/\i<=J0.n/\ys.length<=i/\∃ ds O' U',RelS K O' U' G' H'/\RelM K U' H'/\yr (mask U1 H1) (mask U' H')/\IsAll K (mask U' H') ys ds/\Pv i ds O' U',⟨_,rfl,qZ _,qo _,[],_,U1,S0,M1,yr.refl _,.nil,h0⟩,?_⟩;rintro i m ys G' H' ⟨rfl,hi,hy,ds,O',U',S',M',s',hA,p⟩;have sm:=sim U' H' M' s' (hok i ds O' U' hi p) i;by_cases hlt:i<J0.n
 .obtain ⟨hgo,hyl⟩:=sm.1 hlt;refine .inr ⟨hgo,yR (by lia),fun ys2 G2 H2=>ys2.length<=i+1/\∃ ds O' U',RelS K O' U' G2 H2/\RelM K U' H2/\yr (mask U1 H1) (mask U' H2)/\IsAll K (mask U' H2) ys2 ds/\Pv (i+1) ds O' U',fun ys2 G2 H2 z=>⟨J0.n - (i+1),by lia,rfl,hlt,z⟩,fun x H2 y=>?_⟩;obtain⟨M2,s2,i2⟩:=hyl x H2 y;refine⟨_,O',U',_,i2,S'.same s2,M2,hstep i ds O' U' hlt p,fun O3 U3 G3 H3 q3 S3 M3 s3=>⟨O3,U3,_,S3,M3,q3,fun b U4 H4 q4 M4 s4=>?_⟩⟩;have st:=((s'.trans s2).trans s3).trans s4;cases b with
  | true =>
   refine ZO ⟨O3,U4,_,S3.same s4,M4,(by simpa using q4),fun e U5 v H5 q5 M5 s5 i5=>?_⟩;obtain⟨z,rfl,q5⟩:=q5;exact⟨by simp;lia,_,O3,U5,(S3.same s4).same s5,M5,st.trans s5,IsAll.snoc i5 (IsAll.same (((s2.trans s3).trans s4).trans s5) hA),q5⟩
  | false=>exact YO ⟨by lia,_,O3,U4,S3.same s4,M4,st,IsAll.same ((s2.trans s3).trans s4) hA,by simpa using q4⟩
 .have e:i=J0.n:=by lia
  subst e;refine .inl ⟨sm.2 (qo _),fun D hD=>?_⟩;obtain⟨M4,s4,hn⟩:=M'.laid (o:=.lst ys) hD;exact cl _ U' _ _ (hend ds O' U' p) M4 ((s1.trans s').trans s4) (.lst (SqL.of (by rw[yG hn];exact qU)) (IsAll.same s4 hA))
theorem ZB {ti:TId}{g:TGd}
  (hc:X.calm=true) (hsc:X.env.scope=sc) (hN:X.N=N) (ok:jE sc N L scope=true)
  (hi:DI K X tg iter ti) (hg:∀ cl C sa2 Ha2 fp,DG K (qO X L scope cl C sa2 Ha2 fp) tg g) (hf:∀ cl C sa2 Ha2 fp,qjG K (qO X L scope cl C sa2 Ha2 fp) ifs tt) (he:∀ cl C sa2 Ha2 fp,DE K (qO X L scope cl C sa2 Ha2 fp) elt te)
  (hs:∀ x,foldedSetIterable iter X.env x=pure x:=by intro _;rfl) :
  DE K X (.ListComp elt [⟨tg,iter,ifs,0⟩] scope pos) (qlo L.length ti g tt te):=PE.mono (qfv hc hsc hN ok hi hg hf he hs) fun _ _ _=>qez
theorem qk2 {spos:Pos}{ti:TId}{g:TGd}
  (hNd:X.N.Nodup) (hxi:X.N[i]?=some x) (hx:Loc X.env.scope x)
  (hc:X.calm=true) (hsc:X.env.scope=sc) (hN:X.N=N) (ok:jE sc N L scope=true)
  (hi:DI K X tg iter ti) (hg:∀ cl C sa2 Ha2 fp,DG K (qO X L scope cl C sa2 Ha2 fp) tg g) (hf:∀ cl C sa2 Ha2 fp,qjG K (qO X L scope cl C sa2 Ha2 fp) ifs tt) (he:∀ cl C sa2 Ha2 fp,DE K (qO X L scope cl C sa2 Ha2 fp) elt te)
  (hsw:swapsWith (.ListComp elt [⟨tg,iter,ifs,0⟩] scope pos) (some (.Name x pos')) spos.line X.env=pure true:=by rfl)
  (hs:∀ x,foldedSetIterable iter X.env x=pure x:=by intro _;rfl)
  (hfn:FnL X x:=by trivial) :
  DS K X (.Assign [.Name x pos'] (.ListComp elt [⟨tg,iter,ifs,0⟩] scope pos) spos) (qnY (qlo L.length ti g tt te) (jD i)) :=
 PS.mono (qj2 hNd hxi hx hc hsc hN ok hi hg hf he hsw hs hfn) fun D G H ⟨O,U,D0,hS,hM,h,cl⟩=>qez (Q:=fun x H1=>qh7 i x G H1 D.nx) ⟨O,U,_,hS,hM,h,fun e' U1 v H1 q M1 s1 i1=>cl.nx _ U1 _ H1 q ((hS.same s1).set i1) M1 s1⟩
end
theorem Paired.mapSome {es:List En}(h:Paired (IsE K U H) vs es) (n m:Nat) (hn:n - vs.length=m - es.length):RelS K (es.map some++List.replicate (m - es.length) none) U (vs.map some++List.replicate (n - vs.length) none) H:=by
 have hl:vs.length=es.length:=PySem.Paired.length h;refine⟨by simp[hl] at *;lia,fun i e he=>?_⟩;by_cases hi:i<es.length
 .rw [qQ (by simpa using hi),qK] at he;rw[qQ (by simp;lia),qK];cases q:es[i]? with
  | none=>rw[q] at he;cases he
  | some e' =>
   rw[q] at he;cases he
   obtain⟨v,e1,e2⟩:=L2.Paired.get' h q;exact⟨v,by rw[e1];rfl,e2⟩
 .rw [q9 (by simp;lia),yV] at he;split at he <;> cases he
theorem Fun.okD {sp:SpD}(F:Fun K x qual st f fd) (S:FnScope N ps (qq st)) (len:∀ es U Q,sp es U Q->es.length=ps.length)
  (hbody:∀ (Oh:Value) (A:Around) (outer:List Env) (s:Shared) (H:Hp) (E:XK) (es:List En) (U:Mu) (Q:En->Mu->Prop),Room k (A.deeper (envOfC qual (qq st) s.heap.objs.size f Oh))->sp es U Q →
   ∃ t,DSs K (qao CX P w K mg base N qual (qq st) f Oh A outer s H E).nox (yY st) t/\t { nx:=fun _ U'=>Q (.d .none) U',rt:=Q } (es.map some++List.replicate (N.length - es.length) none) U):FnOk P w K mg base CX (k+1) f fd ps (yq K sp):=by
 refine F.okG S (fun vs H Q E ⟨U,es,Q0,M,hp,h,cl⟩=>(PySem.Paired.length hp).trans (len es U Q0 h)) (fun Oh A outer s H vs Q E hr ⟨U,es,Q0,M,hp,h,cl⟩=>?_);obtain⟨t,ht,hq⟩:=hbody Oh A outer s H E es U Q0 hr h;have hl:vs.length=es.length:=PySem.Paired.length hp;refine⟨upS K t,ht,_,U,_,Paired.mapSome hp N.length N.length (by rw[hl]),M,hq,⟨fun O' U' G' H' q S' M' s'=>cl _ U' .non H' q M' s' .non,cl,fun _ _ _ _ q=>q.elim,fun _ _ _ _ q=>q.elim⟩⟩
theorem Own.imp (Oa:Own P w K mg base CX k x ps sp) (h:∀ vs H Q E,sp' vs H Q E->sp vs H Q E):Own P w K mg base CX k x ps sp':=by
 obtain⟨f,fd,F,r⟩:=Oa;exact⟨f,fd,F.imp h,r⟩
end L2
variable {ti:L2.TId}{g:L2.TGd}{J:L2.Itd}
namespace L2
section
variable {a b:Expr}{ta tb:TEd}{tB:TTd}
def rdIx:R2d:=fun x y U Q=>match x,y with
 | .d (.tuple ds),.d (.int i)=>∃ z,atI ds i=some z/\Q (.d z) U
 | .d (.list ds),.d (.int i)=>∃ z,atI ds i=some z/\Q (.d z) U
 | .m p,.d (.int i)=>∃ ds z,(p,.lst ds)∈U/\atI ds i=some z/\Q (.d z) U
 | _,_=>False
theorem yc (hK:X.K=K:=by rfl):IxR X (upR K rdIx):=by
 refine (IxR.or (qkZ (K:=K) hK) (qne (K:=K) hK)).mono fun x y H Q h=>?_;obtain⟨U,e,e',Q0,M,i1,i2,q,cl⟩:=h;unfold rdIx at q;split at q
 .exact .inr ⟨U,_,_,Q0,M,i1,i2,q,cl⟩
 .obtain ⟨z,h1,q⟩:=q;exact .inl ⟨U,_,_,Q0,M,i1,i2,⟨_,z,.d _,h1,q⟩,cl⟩
 .obtain ⟨ds,z,h0,h1,q⟩:=q;exact .inl ⟨U,_,_,Q0,M,i1,i2,⟨ds,z,.m h0,h1,q⟩,cl⟩
 .exact q.elim
def qmj:R2d:=fun x y U Q=>match x,y with
 | .d (.int i),.d (.int j)=>Q (.d (.int (i+j))) U
 | _,_=>∃ ds es,LstOf U x ds/\LstOf U y es/\ds.length+es.length<=4000/\Q (.d (.list (ds++es))) U
section forms
variable {tb:TSd}{D:EndsD}{Q:En->Mu->Prop}
theorem forL {e:En}(Pv:Nat->Rho->Mu->Prop) (h0:Pv 0 O U) (hok:∀ i O' U',Pv i O' U'->LstOf U' e ds)
  (hs:∀ i x O' U',ds[i]?=some x->Pv i O' U'->g (.d x) O' U' fun O2 U2=>tb { D with nx:=Wks (Pv (i+1)),ct:=Wks (Pv (i+1)),bk:=D.nx } O2 U2) (hd:∀ O' U',Pv ds.length O' U'->D.nx O' U') :
  ∃ Pv:Nat->Rho->Mu->Prop,Pv 0 O U/\(∀ i O' U',i<=(itL e ds).n->Pv i O' U'->(itL e ds).ok U') ∧
   (∀ i O' U',i<(itL e ds).n->Pv i O' U'->g ((itL e ds).item i) O' U' fun O2 U2=>tb { D with nx:=Wks (Pv (i+1)),ct:=Wks (Pv (i+1)),bk:=D.nx } O2 U2)/\∀ O' U',Pv (itL e ds).n O' U'->D.nx O' U':=by
 refine⟨Pv,h0,fun i O' U' _ p=>hok i O' U' p,fun i O' U' hi p=>?_,hd⟩;have hi:i<ds.length:=hi;have e1:ds[i]?=some ds[i]:=qf hi;show g (.d (ds.getD i .none)) O' U' _;rw[YZ e1];exact hs i _ O' U' e1 p
theorem qlA {lo:Int}(Pv:Nat->Rho->Mu->Prop) (h0:Pv 0 O U)
  (hs:∀ i O' U',i<n->Pv i O' U'->g (.d (.int (lo+i))) O' U' fun O2 U2=>tb { D with nx:=Wks (Pv (i+1)),ct:=Wks (Pv (i+1)),bk:=D.nx } O2 U2) (hd:∀ O' U',Pv n O' U'->D.nx O' U') :
  ∃ Pv:Nat->Rho->Mu->Prop,Pv 0 O U/\(∀ i O' U',i<=(itR lo n).n->Pv i O' U'->(itR lo n).ok U') ∧
   (∀ i O' U',i<(itR lo n).n->Pv i O' U'->g ((itR lo n).item i) O' U' fun O2 U2=>tb { D with nx:=Wks (Pv (i+1)),ct:=Wks (Pv (i+1)),bk:=D.nx } O2 U2)/\∀ O' U',Pv (itR lo n).n O' U'->D.nx O' U' :=
 ⟨Pv,h0,fun i O' U' _ p=>trivial,fun i O' U' hi p=>hs i O' U' hi p,hd⟩
abbrev qek (k:Nat) (J:Itd) (g:TGd) (tt:TTd) (te:TEd) (O:Rho) (U1:Mu) (Q:En->Mu->Prop):Prop:=∃ Pv:Nat->List PyData->Rho->Mu->Prop,Pv 0 [] (O++List.replicate k none) U1/\(∀ i ys O' U',i<=J.n->Pv i ys O' U'->J.ok U') ∧
 (∀ i ys O' U',i<J.n->Pv i ys O' U'->g (J.item i) O' U' fun O2 U2=>tt O2 U2 fun b U3=>if b=true then te O2 U3 fun y U4=>∃ z,y = .d z/\Pv (i+1) (ys++[z]) O2 U4 else Pv (i+1) ys O2 U3) ∧
 ∀ ys O' U',Pv J.n ys O' U'->Fin1 Q ys U'
theorem jS {ds:List α}{x:α}(h:ds[i]?=some x):ds.take (i+1)=ds.take i++[x]:=by rw[List.take_add_one,h];rfl
structure Src (J:Itd) (ds:List PyData) (U:Mu):Prop where
 n:J.n=ds.length
 it:∀ i x,ds[i]?=some x->J.item i = .d x
 ok:J.ok U
theorem Src.l {e:En}(h:LstOf U e ds):Src (itL e ds) ds U:=⟨rfl,fun i x e=>by show En.d (ds.getD i .none)=_;rw[YZ e],h⟩
theorem qjw {as:List α}{h1 h2:α->PyData}(p:α->Bool) (f:α->PyData) (S:Src J (as.map fun a=>.tuple [h1 a,h2 a]) U)
  (ht:∀ a,a∈as->∀ R:Bool->Mu->Prop,R (p a) U->tt (O++[some (.d (h1 a)),some (.d (h2 a))]) U R)
  (hs:∀ a,a∈as->p a=true->∀ R:En->Mu->Prop,R (.d (f a)) U->te (O++[some (.d (h1 a)),some (.d (h2 a))]) U R) (hq:Q (.d (.list ((as.filter p).map f))) U):qek 2 J (qed 2 (Yd (jD O.length) (Yd (jD (O.length+1)) qee))) tt te O U Q:=by
 have hl:J.n=as.length:=by rw[S.n];simp
 refine⟨fun i ys O' U'=>U'=U/\ys=((as.take i).filter p).map f/\∃ v w,O'=O++[v,w],⟨rfl,rfl,none,none,rfl⟩,fun i ys O' U' _ ⟨h,_⟩=>by subst h;exact S.ok,?_,?_⟩
 .rintro i ys O' U' hi ⟨rfl,rfl,v,w,rfl⟩;rw[hl] at hi;rw[S.it i (.tuple [h1 as[i],h2 as[i]]) (by rw[qK,qf hi];rfl)];refine⟨rfl,?_⟩;show tt (((O++[v,w]).set O.length _).set (O.length+1) _) U' _;have e2:((O++[v,w]).set O.length (some (.d (h1 as[i])))).set (O.length+1) (some (.d (h2 as[i])))=O++[some (.d (h1 as[i])),some (.d (h2 as[i]))]:=by simp[List.set_append]
  rw[e2];refine ht as[i] (ya hi) _ ?_;cases hp:p as[i] with
  | true =>
   refine ZO (hs as[i] (ya hi) hp _ ⟨_,rfl,rfl,?_,_,_,rfl⟩);rw[jS (qf hi),List.filter_append,qI];simp[hp]
  | false =>
   refine YO ⟨rfl,?_,_,_,rfl⟩;rw[jS (qf hi),List.filter_append,qI];simp[hp]
 .rintro ys O' U' ⟨rfl,rfl,_⟩;rw[hl,jk];exact hq
end forms
end
end L2
namespace L2
variable {a b M:Int}{B:Nat}
def Num (n:Int):Prop:=-1000000000000000000000000000000<n/\n<1000000000000000000000000000000
def qbu (p:Pt):Prop:=Num p.1/\Num p.2
def dvs (a b:Int):Int:=if a<0\/(a=0/\b<0) then -(Int.gcd a b:Int) else (Int.gcd a b:Int)
theorem qgo (h:a≠0\/b≠0):0<Int.gcd a b:=Int.gcd_pos_iff.mpr h
theorem Zy (h:a≠0\/b≠0):dvs a b≠0:=by
 have:=qgo h;unfold dvs;split <;> lia
theorem qa8 : (Int.gcd a b:Int) ∣ a:=Int.gcd_dvd_left ..
theorem qa7 : (Int.gcd a b:Int) ∣ b:=Int.gcd_dvd_right ..
theorem qbX (h:a≠0\/b≠0) (ha:a.natAbs<=B) (hb:b.natAbs<=B):Int.gcd a b<=B:=by
 rcases h with h | h
 .exact qt (Nat.le_of_dvd (by lia) (Int.natAbs_dvd_natAbs.mpr (qa8 (a:=a) (b:=b)))) ha
 .exact qt (Nat.le_of_dvd (by lia) (Int.natAbs_dvd_natAbs.mpr (qa7 (a:=a) (b:=b)))) hb
theorem qcE (a b:Int):(dvs a b).natAbs=Int.gcd a b:=by
 unfold dvs;split <;> lia
theorem qb2 (a b:Int):dvs a b ∣ a:=by
 unfold dvs;split
 .exact Int.neg_dvd.mpr qa8
 .exact qa8
theorem qb1 (a b:Int):dvs a b ∣ b:=by
 unfold dvs;split
 .exact Int.neg_dvd.mpr qa7
 .exact qa7
theorem qds {d:Int}(hd:d≠0) (h:d ∣ a):(a.fdiv d).natAbs<=a.natAbs:=by
 obtain⟨c,rfl⟩:=h;rw[Int.mul_fdiv_cancel_left _ hd,Int.natAbs_mul];exact Nat.le_mul_of_pos_left _ (by lia)
theorem qdr {f r:Nat}:Nat.gcd r (f % r)=Nat.gcd f r:=by rw[Nat.gcd_comm r (f % r),<- Nat.gcd_rec,Nat.gcd_comm]
def nrm (a b:Int):Pt:=(a.fdiv (dvs a b),b.fdiv (dvs a b))
def IsN (q:Pt):Prop:=Int.gcd q.1 q.2=1/\(0<q.1\/(q.1=0/\q.2=1))
def Bd (B:Nat) (q:Pt):Prop:=q.1.natAbs<=B/\q.2.natAbs<=B
theorem qct (a b:Int) (h:a≠0\/b≠0):a=dvs a b * (nrm a b).1/\b=dvs a b * (nrm a b).2:=by
 have d0:=Zy h;obtain⟨c,hc⟩:=qb2 a b;obtain⟨e,he⟩:=qb1 a b;unfold nrm;dsimp only;constructor
 .conv=>rhs;rhs;arg 1;rw[hc]
  rw[Int.mul_fdiv_cancel_left _ d0];exact hc
 .conv=>rhs;rhs;arg 1;rw[he]
  rw[Int.mul_fdiv_cancel_left _ d0];exact he
theorem qi8 (h:a≠0\/b≠0) (ha:a.natAbs<=B) (hb:b.natAbs<=B):Bd B (nrm a b) :=
 ⟨qt (qds (Zy h) (qb2 a b)) ha,qt (qds (Zy h) (qb1 a b)) hb⟩
theorem qkB (h:a≠0\/b≠0):IsN (nrm a b):=by
 obtain⟨h1,h2⟩:=qct a b h;have d0:=Zy h;have g0:=qgo h;have hg:Int.gcd a b=(dvs a b).natAbs * Int.gcd (nrm a b).1 (nrm a b).2:=by
  have e:Int.gcd (dvs a b * (nrm a b).1) (dvs a b * (nrm a b).2)=(dvs a b).natAbs * Int.gcd (nrm a b).1 (nrm a b).2:=Int.gcd_mul_left ..;rw[<- h1,<- h2] at e;exact e
 rw[qcE] at hg;have g1:Int.gcd (nrm a b).1 (nrm a b).2=1:=by
  have:=Nat.eq_of_mul_eq_mul_left g0 (show Int.gcd a b * Int.gcd (nrm a b).1 (nrm a b).2=Int.gcd a b * 1 by lia);exact this
 refine⟨g1,?_⟩;generalize nrm a b=q at *;by_cases ha:a=0
 .right;have hq:q.1=0:=by
   have:dvs a b * q.1=0:=by rw[<- h1];exact ha
   rcases Int.mul_eq_zero.mp this with z | z
   .exact absurd z d0
   .exact z
  refine⟨hq,?_⟩;rw[hq] at g1;simp at g1;have hb:b≠0:=by rcases h with h | h;exact absurd ha h;exact h
  have:q.2=1\/q.2 = -1:=by lia
  rcases this with z | z
  .exact z
  .exfalso;unfold dvs at h2;rw[z] at h2;split at h2 <;> lia
 .left;have hp:0<dvs a b * q.1\/dvs a b * q.1<0:=by lia
  unfold dvs at h1;split at h1
  .have:a<0:=by lia
   have h1':(Int.gcd a b:Int) * q.1 = -a:=by rw[Int.neg_mul] at h1;lia
   exact Int.pos_of_mul_pos_right (by rw[h1'];lia) (by lia)
  .have:0<a:=by lia
   exact Int.pos_of_mul_pos_right (a:=(Int.gcd a b:Int)) (by rw[<- h1];exact this) (by lia)
theorem qa9 {d:Int}(hB:B<2 ^ 1000) (h0:d≠0) (hd:d.natAbs<=B):qg1 a d:=⟨h0,jL hd hB⟩
def crs (p q:Pt):Int:=p.1 * q.2 - p.2 * q.1
theorem Y3 {p:Pt}(hp:IsN p) (hq:IsN q) (h:crs p q=0):p=q:=by
 obtain⟨a,b⟩:=p;obtain⟨c,d⟩:=q;obtain⟨g1,s1⟩:=hp;obtain⟨g2,s2⟩:=hq;unfold crs at h;dsimp only at *;have e:a * d=b * c:=by lia
 have i1:a.natAbs ∣ c.natAbs:=by
  have:a.natAbs ∣ b.natAbs * c.natAbs:=⟨d.natAbs,by rw[<- Int.natAbs_mul,<- Int.natAbs_mul,e]⟩;exact Nat.Coprime.dvd_of_dvd_mul_left (show Nat.Coprime a.natAbs b.natAbs from g1) this
 have i2:c.natAbs ∣ a.natAbs:=by
  have:c.natAbs ∣ d.natAbs * a.natAbs:=⟨b.natAbs,by rw[<- Int.natAbs_mul,<- Int.natAbs_mul,Int.mul_comm d a,e,Int.mul_comm]⟩;exact Nat.Coprime.dvd_of_dvd_mul_left (show Nat.Coprime c.natAbs d.natAbs from g2) this
 have hac:a.natAbs=c.natAbs:=Nat.dvd_antisymm i1 i2;have hac':a=c:=by lia
 subst hac';by_cases ha:a=0
 .subst ha;have:b=1:=by lia
  have:d=1:=by lia
  subst_vars;rfl
 .have:d=b:=Int.eq_of_mul_eq_mul_left ha (by rw[e,Int.mul_comm]);rw[this]
theorem FzR.pot (ha:0<=a) (hb:0<=b) (hm:b<M):FzR ((p,.lst [.int a,.int b])::U) (.m p) ((p,.pot M)::U) (.m p):=fun K v H h i=>by
 have e:mask ((p,.lst [.int a,.int b])::U) H=mask ((p,.pot M)::U) H:=rfl;refine⟨⟨by simpa using h.nd,fun b' o ho=>?_⟩,i,by rw[e];exact yr.refl _⟩;rcases qG.mp ho with z | z
 .cases z
  obtain⟨xs,e1,hs⟩:=h.ob p _ qi;have:=IsAll.ints_of (ns:=[a,b]) hs;subst this;exact⟨a,b,e1,ha,hb,hm⟩
 .have:=h.ob b' o (qd _ z);exact this.same (by rw[e];exact yr.refl _) rfl
def qeF (M:Int):Sp:=fun vs H Q _=>∃ (p:Addr) (m:Int),vs=[.ref p,.int m]/\Pot M H p/\0<m/\m<=100000000/\∀ d H',0<=d->d<m->Pot M H' p->Stp p H H'->Q (.int d) H'
def qbJ (M:Int):SpD:=fun es U Q=>∃ (p:Addr) (m:Int),es=[.m p,.d (.int m)]/\(p,.pot M)∈U/\0<m/\m<=100000000/\∀ d,0<=d->d<m->Q (.d (.int d)) U
def qnL (M:Int):SpD:=fun es U Q=>∃ (p:Addr),es=[.m p]/\(p,.pot M)∈U/\∀ n,Num n->Q (.d (.int n)) U
theorem qj4 (h:RelM K U H) (hp:(p,.pot M)∈U) (hP:Pot M H' p) (s:Stp p H H'):RelM K U H'/\yr (mask U H) (mask U H'):=by
 obtain⟨U1,U2,rfl⟩:=List.append_of_mem hp;exact h.write (fun b u e n=>s b u e n) fun _=>hP
theorem qk3 {E:XK}(h:yq K (qbJ M) vs H Q E):qeF M vs H Q E:=by
 obtain⟨U,es,Q0,hM,hp,⟨p,m,rfl,hpot,m0,m1,q⟩,cl⟩:=h;obtain⟨v,v',rfl,i1,i2⟩:=qfA hp;have i1:v=_:=i1;subst i1;cases i2
 refine⟨p,m,rfl,hM.ob _ _ hpot,m0,m1,fun d H' d0 d1 hP s=>?_⟩;obtain⟨M',s'⟩:=qj4 hM hpot hP s;exact cl _ U _ H' (q d d0 d1) M' s' (.int d)
theorem zl0:0<=4000:=by decide
theorem zl1:1<=4000:=by decide
theorem zl2:2<=4000:=by decide
theorem zl3:3<=4000:=by decide
end L2
namespace L2
theorem YT (p:Pt):SeqAt.shaped (ptD p)=true:=jf [p.1,p.2]
theorem qlq (p q:Pt):crs q p = - crs p q:=by
 unfold crs;rw[Int.mul_comm q.1 p.2,Int.mul_comm q.2 p.1];lia
theorem qdF (p:Pt):crs p p=0:=by
 have:=qlq p p;lia
end L2
namespace L2
section
variable {a b:Expr}{ta tb:TEd}{tB:TTd}
def rCatS (K:W.Frag):R2:=fun x y H Q=>∃ l b xs zs,x = .ref l/\y = .ref b/\SqL K H l xs/\SqL K H b zs/\xs.length+zs.length<=sizeLine/\∀ p,H p=none->Q (.ref p) (upd H p (.lst (xs++zs)))
theorem qkh:OpR X (binaryOp .Add) (rCatS X.K):=by
 intro Ob s G H x y v u Q I rx ry h;obtain⟨l,b,xs,zs,rfl,rfl,hH,hB,hz,q⟩:=h;cases rx
 cases ry
 obtain⟨its,r,pl,_⟩:=I.list hH;obtain⟨its2,r2,pl2,_⟩:=I.list hB;obtain⟨⟨cls,dd,data,sl⟩,ho,hc,n,hd⟩:=pl.isList;obtain⟨⟨cls2,dd2,data2,sl2⟩,ho2,hc2,n2,hd2⟩:=pl2.isList;simp only at hc hd hc2 hd2;subst hc hd hc2 hd2;have h1:=r.length;have h2:=r2.length;have e:its.toArray++its2.toArray=(its++its2).toArray:=by simp
 refine concat_meets ⟨_,ho,rfl⟩ ⟨_,ho2,rfl⟩ noFill_list_add seq_list_add PySem.F.slot_list_add PySem.F.entry_list_add (PySem.F.args_list_add_2 _ _) (list_addW l b its.toArray its2.toArray n n2 dd dd2 sl sl2 (by simp;lia)) ⟨ho,ho2,?_⟩;rw[e];exact⟨.ref _,_,I.lnew (t':=s.toks) (r.append r2) (by rw[qv];lia),rfl,q _ I.fresh⟩
theorem jV (hK:X.K=K:=by rfl):OpR X (binaryOp .Add) (upR K qmj):=by
 subst hK;refine (OpR.or (qfE (X:=X)) qkh).mono fun x y H Q h=>?_;obtain⟨U,e,e',Q0,M,i1,i2,q,cl⟩:=h;unfold qmj at q;split at q
 .cases i1;cases i2
  exact .inl ⟨_,_,rfl,rfl,cl _ U _ H q M (yr.refl _) (.int _)⟩
 .obtain ⟨ds,es,h1,h2,hl,q⟩:=q;obtain⟨p,xs,rfl,a1,a2⟩:=h1.get M i1;obtain⟨p',xs',rfl,b1,b2⟩:=h2.get M i2;refine .inr ⟨p,p',xs,xs',rfl,rfl,a1,b1,yn (yR (by rw[a2.len,b2.len];exact hl)),fun l hl=>?_⟩;obtain⟨M4,s4,hn⟩:=M.laid (o:=.lst (xs++xs')) hl;exact cl _ U _ _ q M4 s4 (.lst (SqL.of (by rw[yG hn];exact qU)) (IsAll.same s4 (IsAll.app b2 a2)))
def qnu (to:TEd) (tr:TAd):TEd:=fun O U Q=>to O U fun x U1=>∃ ns:List Int,LstOf U1 x (ns.map PyData.int)/\tr O U1 fun es U2=>LstOf U2 x (ns.map PyData.int)/\match es with
 | [.d (.int k)]=>Q (.d (.int (ns.count k:Nat))) U2
 | _=>False
theorem qcJ (ho:DE K X o to) (ha:DA K X [e] tr) (hK:X.K=K:=by rfl)
  (h:PE X o (up K to)->PA X [e] (upA K tr)->PE X (.Call (.Attribute o "count" p1) [e] [] pos) (tBM X.K "list" (qi1 X.K) (up K to) (upA K tr))):DE K X (.Call (.Attribute o "count" p1) [e] [] pos) (qnu to tr):=by
 subst hK;refine PE.mono (h ho ha) fun G H Q Og=>?_;obtain⟨O,U,Q0,hS,hM,h,cl⟩:=Og;refine⟨O,U,_,hS,hM,h,fun x U1 v H1 q M1 s1 i1=>?_⟩;obtain⟨ns,h1,q⟩:=q;obtain⟨p,xs,rfl,a1,a2⟩:=h1.get M1 i1;refine⟨.inl ⟨rfl,_,a1⟩,O,U1,_,hS.same s1,M1,q,fun es U2 vs H2 q2 M2 s2 i2=>?_⟩;obtain⟨h2,q2⟩:=q2;obtain⟨p',xs',e',b1,b2⟩:=h2.get M2 (i1.same s2);cases e'
 rw[b2.ints_of] at b1;split at q2
 .obtain ⟨v,rfl,h3⟩:=YG i2;cases h3
  exact⟨p,ns,_,rfl,rfl,b1,cl _ U2 _ H2 q2 M2 (s1.trans s2) (.int _)⟩
 .exact q2.elim
end
def Zu (sp sp':Sp):Sp:=fun vs H Q E=>sp vs H Q E\/sp' vs H Q E
theorem FnOk.or (h:FnOk P w K mg base CX k f fd ps sp) (h':FnOk P w K mg base CX k f fd ps sp'):FnOk P w K mg base CX k f fd ps (Zu sp sp') :=
 ⟨fun vs H Q E q=>q.elim (h.len vs H Q E) (h'.len vs H Q E),fun A outer s H args us vs Q E hr he hb hv q=>q.elim (h.run A outer s H args us vs Q E hr he hb hv) (h'.run A outer s H args us vs Q E hr he hb hv)⟩
theorem Own.l (Oa:Own P w K mg base CX k x ps (Zu sp sp')):Own P w K mg base CX k x ps sp:=Oa.imp fun _ _ _ _ h=>.inl h
theorem Own.r (Oa:Own P w K mg base CX k x ps (Zu sp sp')):Own P w K mg base CX k x ps sp':=Oa.imp fun _ _ _ _ h=>.inr h
theorem okX {st:Stmt}(F:Fun K x qual st f fd) (S:FnScope N ps (qq st)) (len:∀ vs H Q E,sp vs H Q E->vs.length=ps.length)
  (hbody:∀ (Oh:Value) (A:Around) (outer:List Env) (s:Shared) (H:Hp) (vs:List V) (Q:VK) (E:XK),Room k (A.deeper (PyProof.Rows.envOfC qual (qq st) s.heap.objs.size f Oh))->sp vs H Q E →
   ∃ t,PSs (qao CX P w K mg base N qual (qq st) f Oh A outer s H E) (yY st) t/\t { nx:=fun _ H'=>Q .non H',rt:=Q } (JT N vs) H):FnOk P w K mg base CX (k+1) f fd ps sp:=by
 obtain⟨oc,od,kV,doc,pm,an,Oh,ct,osl,rfl,lk,hcd⟩:=F.ex;exact qkV lk hcd S len fun A outer s H vs Q E hr hsp=>hbody Oh A outer s H vs Q E hr hsp
theorem IsE.nil {d:PyData}(h:Is K H v d):IsE K [] H v (.d d):=by
 show Is K (mask [] H) v d;rw[j7];exact h
end L2
namespace L2
section
variable {tb:TSd}{D:EndsD}{Q:En->Mu->Prop}
theorem qaL {as:List α}{h:α->PyData}(p:α->Bool) (f:α->PyData) (S:Src J (as.map h) U)
  (ht:∀ a,a∈as->∀ R:Bool->Mu->Prop,R (p a) U->tt (O++[some (.d (h a))]) U R)
  (hs:∀ a,a∈as->p a=true->∀ R:En->Mu->Prop,R (.d (f a)) U->te (O++[some (.d (h a))]) U R) (hq:Q (.d (.list ((as.filter p).map f))) U):qek 1 J (jD O.length) tt te O U Q:=by
 have hl:J.n=as.length:=by rw[S.n];simp
 refine⟨fun i ys O' U'=>U'=U/\ys=((as.take i).filter p).map f/\∃ v,O'=O++[v],⟨rfl,rfl,none,rfl⟩,fun i ys O' U' _ ⟨h,_⟩=>by subst h;exact S.ok,?_,?_⟩
 .rintro i ys O' U' hi ⟨rfl,rfl,v,rfl⟩;rw[hl] at hi;rw[S.it i (h as[i]) (by rw[qK,qf hi];rfl)];unfold jD;have e2:(O++[v]).set O.length (some (.d (h as[i])))=O++[some (.d (h as[i]))]:=by simp
  rw[e2];refine ht as[i] (ya hi) _ ?_;cases hp:p as[i] with
  | true =>
   refine ZO (hs as[i] (ya hi) hp _ ⟨_,rfl,rfl,?_,_,rfl⟩);rw[jS (qf hi),List.filter_append,qI];simp[hp]
  | false =>
   refine YO ⟨rfl,?_,_,rfl⟩;rw[jS (qf hi),List.filter_append,qI];simp[hp]
 .rintro ys O' U' ⟨rfl,rfl,_⟩;rw[hl,jk];exact hq
theorem qnv {as:List α}{h:α->PyData}(f:α->PyData) (S:Src J (as.map h) U)
  (hs:∀ a,a∈as->∀ R:En->Mu->Prop,R (.d (f a)) U->te (O++[some (.d (h a))]) U R) (hq:Q (.d (.list (as.map f))) U):qek 1 J (jD O.length) qnX te O U Q :=
 qaL (fun _=>true) f S (fun a _ R h=>h) (fun a ha _=>hs a ha) (by rw[List.filter_eq_self.mpr (fun _ _=>rfl)];exact hq)
end
def cLt (c:Int) (ns:List Int):Nat:=ns.countP (fun v=>decide (v<c))
def cGt (c:Int) (ns:List Int):Nat:=ns.countP (fun v=>decide (c<v))
def qbs (c:Int) (ns:List Int):Bool:=decide (2 * cLt c ns<=ns.length) && decide (2 * cGt c ns<=ns.length)
section
variable {s:List Int}(h:s.Pairwise (· <= ·)) {j:Nat}(hj:j<s.length) {c:Int}
include h hj
end
end L2
namespace L2
mutual
theorem qdu:∀ d:PyData,PyData.canLay0 d=true->PyData.eqv d d=true
 | .none,_=>by simp[PyData.eqv]
 | .bool b,_=>by simp[PyData.eqv]
 | .int i,_=>by simp[PyData.eqv]
 | .str x,_=>by simp[PyData.eqv]
 | .list xs,h=>by
  simp only[PyData.canLay0] at h;simp only[PyData.eqv];exact YK xs h
 | .tuple xs,h=>by
  simp only[PyData.canLay0] at h;simp only[PyData.eqv];exact YK xs h
 | .dict xs,h=>by simp[PyData.canLay0] at h
theorem YK:∀ ds:List PyData,PyData.canLayAll0 ds=true->PyData.eqvAll ds ds=true
 | [],_=>by simp[PyData.eqvAll]
 | d::ds,h=>by
  simp only[PyData.canLayAll0,ym] at h;simp only[PyData.eqvAll,ym];exact⟨qdu d h.1,YK ds h.2⟩
end
theorem Y8 {d:PyData}(h:SeqAt.shaped d=true):PyData.eqv d d=true:=qdu d (SeqAt.canLay_of_shaped h)
theorem Zq {f:α->PyData}(hf:∀ a,PyData.canLay0 (f a)=true):∀ as:List α,PyData.canLayAll0 (as.map f)=true
 | []=>by simp[PyData.canLayAll0]
 | a::as=>by simp[PyData.canLayAll0,hf a,Zq hf as]
theorem qam {f:α->PyData}(hf:∀ a,PyData.depth (f a)<=n):∀ as:List α,PyData.depthAll (as.map f)<=n+1
 | []=>by simp[PyData.depthAll]
 | a::as=>by
  have:=qam hf as;have:=hf a;simp only[yb,PyData.depthAll];lia
section
variable {a b:Expr}{ta tb:TEd}{tB:TTd}
end
theorem RoomU.mark {v:Option Value}(r:RoomU k A):RoomU k (A.mark v):=⟨r.dp,r.un⟩
end L2
namespace L2
open W SetTable
variable {p:Array Nat}{Pv:V->List Int->Prop}
def Y5 (K:W.Frag) (H:Hp) (v:V) (ks:List Int):Prop:=(∃ a,v = .ref a/\SqT K H a (ks.map V.int))/\ks≠[]
theorem Y5.same (h:Y5 K H v ks) (s:yr H H'):Y5 K H' v ks:=by
 obtain⟨⟨a,e,q⟩,n⟩:=h;exact⟨⟨a,e,SqT.same s q⟩,n⟩
def Srt (ms:List (List Int)):Prop:=ms.Pairwise fun a b=>¬ b<a
def qcf (P:Program) (w:World) (a:Addr) (bs:List (Addr×List Int)) (h:Heap):Prop :=
 ∃ o es ep t m,h.get? a=some o/\o.ExactSet/\o.data = .set es ep t/\t.plain=true/\t.led=(!Jl w)/\Jy m es.size/\SetI t es m es.size/\es.toList=bs.map (fun b=>(yL P w b.2,Value.ref b.1))/\(bs.map (·.2)).Nodup
def qc4 (P:Program) (w:World) (a:Addr) (bs:List (Addr×List Int)):HO:=.ext (qcf P w a bs)
def InS (K:W.Frag) (H:Hp) (bs:List (Addr×List Int)):Prop:=∀ b∈bs,Y5 K H (.ref b.1) b.2
theorem InS.same {bs:List (Addr×List Int)}(h:InS K H bs) (s:yr H H'):InS K H' bs:=fun b hb=>(h b hb).same s
theorem qcf.stay {bs:List (Addr×List Int)}{h1 h2:Heap}(p:qcf P w a bs h1) (k:∀ o,h1.get? a=some o->h2.get? a=some o):qcf P w a bs h2:=by
 obtain⟨o,es,ep,t,m,ho,r⟩:=p;exact⟨o,es,ep,t,m,k o ho,r⟩
theorem qcf.ok {bs:List (Addr×List Int)}(p:qcf P w a bs h):jK P w H h a (qc4 P w a bs):=by
 refine⟨p,?_,fun h1 h2 p1 k=>p1.stay k⟩;obtain⟨o,_,_,_,_,ho,_⟩:=p;exact⟨o,ho⟩
theorem qcD : ∀ {l:List (Int×Value)}{ms:List (List Int)},PySem.Paired (qbq P w h) l ms->∃ bs:List (Addr×List Int),l=bs.map (fun b=>(yL P w b.2,Value.ref b.1))/\bs.map (·.2)=ms/\∀ b∈bs,jl h (.ref b.1) b.2
 | _,_,.nil=>⟨[],rfl,rfl,(fun _ z=>nomatch z)⟩
 | _,_,.cons (a:=e) (b:=ks) r t=>by
  obtain⟨bs,e1,e2,e3⟩:=qcD t;obtain⟨hh,v⟩:=e;obtain⟨r1,r2⟩:=r;obtain⟨b,_,_,_,eb,_⟩:=id r1;dsimp only at eb r1 r2;subst eb;refine⟨(b,ks)::bs,?_,?_,fun c hc=>?_⟩
  .rw [yb,<- e1,r2]
  .rw [yb,e2]
  .rcases qG.mp hc with rfl | hc
   .exact r1
   .exact e3 c hc
theorem qcQ : ∀ {bs:List (Addr×List Int)},(∀ b∈bs,jl h (.ref b.1) b.2)->PySem.Paired (qbq P w h) (bs.map (fun b=>(yL P w b.2,Value.ref b.1))) (bs.map (·.2))
 | [],_=>.nil
 | b::bs,k=>.cons ⟨k b qi,rfl⟩ (qcQ fun c hc=>k c (qd _ hc))
theorem qm7:∀ {ns:List Int}{us:List Value},yN (ns.map V.int) us->IntsAre us ns
 | [],_,.nil=>.nil
 | n::ns,_,.cons ⟨t,e⟩ r=>by
  subst e;exact .cons n t (qm7 r)
theorem Inv.tupK (I:Inv X Ob G H s) (h:Y5 X.K H (.ref a) ks):jl s.heap (.ref a) ks:=by
 obtain⟨⟨a',e,ha⟩,hn⟩:=h;cases e
 obtain⟨its,r,⟨o,ho,hc,n,hd⟩,hz⟩:=I.tuple ha;exact⟨a,o,its.toArray,n,rfl,ho,hc,hd,by simpa using qm7 r,hn⟩
theorem Inv.tupsK (I:Inv X Ob G H s):∀ {us:List V}{its:List Value}{kss:List (List Int)},PySem.Paired (Y5 X.K H) us kss->yN us its->PySem.Paired (jl s.heap) its kss
 | _,_,_,.nil,.nil=>.nil
 | _,_,_,.cons h t,.cons r q=>by
  obtain⟨⟨a,e,ha⟩,hn⟩:=id h;subst e;cases r
  exact .cons (I.tupK h) (Inv.tupsK I t q)
theorem Inv.setT (I:Inv X Ob G H s) {bs:List (Addr×List Int)}(h:H a=some (qc4 X.prog X.w a bs)) (hb:InS X.K H bs):qbt X.prog X.w (fun v=>∃ b∈bs,v=Value.ref b.1) s.heap a (bs.map (·.2)):=by
 obtain⟨⟨o,es,ep,t,m,ho,ex,hd,pl,ld,mo,si,ee,nd⟩,_⟩:=I.hok a _ h;refine⟨o,es,ep,t,m,ho,ex,hd,pl,ld,mo,si,?_,nd,fun e he=>?_⟩
 .rw [ee];exact qcQ fun b hbb=>I.tupK (hb b hbb)
 .rw [ee] at he;obtain⟨b,h1,rfl⟩:=qF.mp he;exact⟨b,h1,rfl⟩
theorem qha {us:List V}(r:yN us its) (h:PySem.Paired (Y5 X.K H) us kss) (hb:Value.ref b∈its):∃ i:Nat,us[i]?=some (V.ref b):=by
 obtain⟨i,ei⟩:=yk hb;have hi:i<us.length:=by rw[r.length];exact (qm.mp ei).1
 obtain⟨ks,_,⟨⟨a,e,_⟩,_⟩⟩:=L2.Paired.get h (qf hi);obtain⟨u,e1,e2⟩:=yN.get r (qf hi);rw[ei] at e1;cases e1
 rw[e] at e2;have:Value.ref b=Value.ref a:=e2;cases this
 exact⟨i,by rw[qf hi,e]⟩
def rSet (X:Cx):List V->Hp->VK->Prop:=fun xs H Q=>∃ (p:Addr) (us:List V) (kss:List (List Int)),xs=[.ref p]/\SqL X.K H p us/\PySem.Paired (Y5 X.K H) us kss/\(∀ ms:List (List Int),ms.Nodup->(∀ q∈ms,q∈kss)->ms.length<4900) ∧
 ∀ S bs,H S=none->InS X.K H bs->(∀ b∈bs,∃ i:Nat,us[i]?=some (V.ref b.1)/\kss[i]?=some b.2)->(∀ q,q∈bs.map (·.2) ↔ q∈kss)->(bs.map (·.2)).Nodup->bs.length<4915->Q (.ref S) (upd H S (qc4 X.prog X.w S bs))
theorem qgO (hc:X.calm=true) (hu:X.A.units+64<cLine):jq X (.type "set") (rSet X):=by
 intro Ob s G H xs us Q I r h;obtain⟨p,vs,kss,rfl,hS,hT,hl,q⟩:=h;obtain⟨u,rfl,rx⟩:=qar r;cases rx
 obtain⟨its,rv,pl,_⟩:=I.list hS;have hK:=I.tupsK hT rv;have hlen:=rv.length;refine qdW (I.ok.hd hc) pl.isList hK (fun ms nd hm=>yJ (hl ms nd hm) (by decide)) hu fun h' tk ms S2 mem kp=>?_;obtain⟨o,es,ep,t,m,D⟩:=S2;obtain⟨bs,e1,e2,e3⟩:=qcD D.en;subst e2;have fr:H s.heap.objs.size=none:=I.hok.fresh (qo _);have own:∀ b∈bs,∃ i:Nat,vs[i]?=some (V.ref b.1):=fun b hb=>by
  refine qha rv hT (D.own (yL X.prog X.w b.2,Value.ref b.1) ?_);rw[e1];exact qF.mpr ⟨b,hb,rfl⟩
 have inS2:∀ b∈bs,Y5 X.K H (.ref b.1) b.2/\∃ i:Nat,vs[i]?=some (V.ref b.1)/\kss[i]?=some b.2:=fun b hb=>by
  obtain⟨i,ei⟩:=own b hb;obtain⟨ks,ek,tn⟩:=L2.Paired.get hT ei;have k1:jl h' (.ref b.1) ks:=(I.tupK tn).kept fun c ob e _=>kp c ob e;have:=(k1.key (prog:=X.prog) (w:=X.w)).inj ((e3 b hb).key (prog:=X.prog) (w:=X.w));rw[<- this];exact⟨tn,i,ei,ek⟩
 have inS:InS X.K H bs:=fun b hb=>(inS2 b hb).1;have lt:bs.length<4915:=by
  have:=D.mok.le;have z:es.toList.length=bs.length:=by rw[e1,qc]
  rw[qD] at z;lia
 refine⟨.ref s.heap.objs.size,_,I.laid (t':=tk) kp (qo _) (o:=qc4 X.prog X.w s.heap.objs.size bs) (qcf.ok ⟨o,es,ep,t,m,D.ho,D.ex,D.hd,D.pl,D.ld,D.mok,D.si,e1,D.nd⟩),rfl,q _ bs fr inS (fun b hb=>(inS2 b hb).2) mem D.nd lt⟩
theorem qir {vs:List Value}(hT:PySem.Paired (jl h) vs kss) (hp:Arr vs.length p) :
  PySem.Paired (jl h) (qdJ vs p) (p.toList.map fun i=>kss.getD i [])/\(p.toList.map fun i=>kss.getD i []).Perm kss:=by
 have lt:∀ i∈p.toList,i<vs.length:=fun i hi=>by
  have:=(Array.Perm.mem_iff hp (a:=i)).mp (Array.mem_toList_iff.mp hi);simpa using this
 constructor
 .unfold qdJ;generalize p.toList=l at lt;induction l with
  | nil=>exact .nil
  | cons i l ih=>exact .cons (Jd hT i (lt i qi)) (ih fun j hj=>lt j (qd _ hj))
 .have p1:p.toList.Perm (List.range vs.length):=by
   have:=y7.mp hp;simpa using this
  refine (p1.map fun i=>kss.getD i []).trans ?_;rw[L2.Paired.len hT];refine List.Perm.of_eq ?_;apply List.ext_getElem?;intro i;simp only[qK,List.getElem?_range];by_cases hi:i<kss.length
  .simp [hi]
  .simp [hi]
theorem qlu (hp:Arr n p) (hs:qlE (ltK kss) p n):Srt (p.toList.map fun i=>kss.getD i []):=by
 unfold Srt;rw[jc];refine yg.mpr fun i j hi hj hij=>?_;have hj':j<n:=by
  have:=hp.size;simp at hj;lia
 have:=hs i j (yn hij) hj';unfold ltK at this;have:=of_decide_eq_false this;have e1:gD p i=p.toList[i]:=by simp at hi;simp[gD,hi]
 have e2:gD p j=p.toList[j]:=by simp at hj;simp[gD,hj]
 rw[e1,e2] at this;exact this
def qnE (H:Hp) (Pv:V->List Int->Prop) (kss:List (List Int)) (Q:VK):Prop:=∀ D vs ms,H D=none->PySem.Paired Pv vs ms->ms.Perm kss->Srt ms->Q (.ref D) (upd H D (.lst vs))
theorem qdT {x:Value}(I:Inv X Ob G H s) (q:qnE H Pv kss Q) {R:List Value->List (List Int)->Prop}
  (hR:∀ vs ms,R vs ms->(∀ v∈vs,∃ b ks,v=Value.ref b/\Y5 X.K H (.ref b) ks/\Pv (.ref b) ks)/\ms.Perm kss) (hcol:∀ E',wpAny (model X.prog X.w) X.A.in1 (collect x) (qnI s R) E' s):wpAny (model X.prog X.w) X.A (call (.builtin "sorted") [x]) (EP X Ob G Q) X.xe s:=by
 refine qeG hcol fun vs ms p h' tk D e hr hp hs hT hz kp hD he=>?_;obtain⟨r1,r2⟩:=hR vs ms hr;obtain⟨a1,a2⟩:=qir hT hp;have hV:∀ l:List Value,(∀ v∈l,∃ b ks,v=Value.ref b/\Y5 X.K H (.ref b) ks/\Pv (.ref b) ks)->∃ ws:List V,yN ws l/\∀ ks,PySem.Paired (jl h') l ks->PySem.Paired Pv ws ks:=by
  intro l;induction l with
  | nil=>exact fun _=>⟨[],.nil,fun ks z=>(by cases z;exact .nil)⟩
  | cons v l ih =>
   intro hl;obtain⟨ws,w1,w3⟩:=ih fun u hu=>hl u (qd _ hu);obtain⟨b,ks,rfl,tn,pv⟩:=hl v qi;refine⟨.ref b::ws,.cons rfl w1,fun ks' z=>?_⟩;cases z with
    | cons z1 z2 =>
     refine .cons ?_ (w3 _ z2);have k1:jl h' (.ref b) ks:=(I.tupK tn).kept fun c ob e _=>kp c ob e;have:=(k1.key (prog:=X.prog) (w:=X.w)).inj (z1.key (prog:=X.prog) (w:=X.w));rw[<- this];exact pv
 obtain⟨ws,w1,w3⟩:=hV (qdJ vs p) fun v hv=>by
  obtain⟨i,hi,rfl⟩:=qF.mp hv;have hlt:i<vs.length:=by
   have:=(Array.Perm.mem_iff hp (a:=i)).mp (Array.mem_toList_iff.mp hi);simpa using this
  rw[qX,qf hlt];exact r1 _ (ya hlt)
 have hwl:ws.length<=sizeLine:=by
  rw[w1.length,qbl hp,sizeLine_eq];lia
 obtain⟨hn,J⟩:=I.laidN (t':=tk) (o:=.lst ws) kp hD ⟨hwl,qdJ vs p,e,w1,he⟩;exact⟨.ref D,_,J,rfl,q D ws _ hn (w3 _ a1) (a2.trans r2) (qlu hp hs)⟩
def qmm (X:Cx):List V->Hp->VK->Prop:=fun xs H Q=>∃ (S:Addr) (bs:List (Addr×List Int)),xs=[.ref S]/\H S=some (qc4 X.prog X.w S bs)/\InS X.K H bs/\bs.length<4900/\qnE H (fun v ks=>∃ b∈bs,v=V.ref b.1/\ks=b.2) (bs.map (·.2)) Q
theorem qeg (hc:X.calm=true):jq X (.builtin "sorted") (qmm X):=by
 intro Ob s G H xs us Q I r h;obtain⟨S,bs,rfl,hS,hI,hl,q⟩:=h;obtain⟨u,rfl,rx⟩:=qar r;cases rx
 obtain⟨o,es,ep,t,m,D⟩:=I.setT hS hI;have hz:=D.len;rw[qc] at hz;refine qdT I q (R:=fun us ms=>(∀ v∈us,∃ b∈bs,v=Value.ref b.1)/\(bs.map (·.2)).Perm ms) ?_ fun E'=>qcO (by show X.A.handled=none;exact I.ok.hd hc) D.toB (by lia) fun h' tk kp=>?_
 .rintro us ms ⟨h1,h2⟩;refine⟨fun v hv=>?_,h2.symm⟩;obtain⟨b,hb,rfl⟩:=h1 v hv;exact⟨b.1,b.2,rfl,hI b hb,b,hb,rfl,rfl⟩
 .obtain ⟨ms,m1,m2⟩:=qcr (Z9 X.w S ep es).symm D.en;refine⟨h',tk,ms,rfl,kp,?_,?_,?_,m2⟩
  .have:∀ {l:List (Int×Value)}{ks:List (List Int)},PySem.Paired (qbq X.prog X.w s.heap) l ks->PySem.Paired (jl h') (l.map (·.2)) ks:=by
    intro l ks z;induction z with
    | nil=>exact .nil
    | cons r _ ih=>exact .cons (r.1.kept fun b o e _=>kp b o e) ih
   exact this m1
  .rw [qc,qD,Yk];lia
  .intro v hv;obtain⟨e,he,rfl⟩:=qF.mp hv;exact D.own e ((Z9 X.w S ep es).mem_iff.mp he)
def JC (ks:List Int):PyData:=.tuple (ks.map PyData.int)
theorem IsAll.tups : ∀ {us:List V}{kss:List (List Int)},IsAll K H us (kss.map JC)->(∀ k∈kss,k≠[])->PySem.Paired (Y5 K H) us kss
 | _,[],.nil,_=>.nil
 | _,k::kss,.cons h t,hn=>by
  refine .cons ?_ (IsAll.tups t fun z hz=>hn z (qd _ hz));unfold JC at h;cases h with
  | @tup a xs _ h1 h2 =>
   rw[h2.ints_of] at h1;exact⟨⟨a,rfl,h1⟩,hn _ qi⟩
theorem Y5.is (h:Y5 K H v ks):Is K H v (JC ks):=by
 obtain⟨⟨a,rfl,h1⟩,_⟩:=h;exact .tup h1 (IsAll.ints ks)
theorem Y5.up (h:Y5 K (mask U H) v ks):Y5 K H v ks:=h.same yB
def qeE (P:Program) (w:World) (K:W.Frag) (ms:List (List Int)):Stb where
 R v H:=∃ S bs,v = .ref S/\H S=some (qc4 P w S bs)/\InS K H bs/\bs.map (·.2)=ms/\ms.Nodup/\ms.length<4915
 st:=fun v H H' s ⟨S,bs,e,h1,h2,h3,h4,h5⟩=>⟨S,bs,e,s _ _ h1,h2.same s,h3,h4,h5⟩
def qfb (P:Program) (w:World) (K:W.Frag):RAd:=fun es U Q=>match es with
 | [e]=>∃ kss:List (List Int),LstOf U e (kss.map JC)/\(∀ k∈kss,k≠[])/\(∀ ms:List (List Int),ms.Nodup->(∀ q∈ms,q∈kss)->ms.length<4900)/\∀ ms,(∀ q,q∈ms ↔ q∈kss)->ms.Nodup->ms.length<4915->Q (.x (qeE P w K ms)) U
 | _=>False
theorem qlb (hc:X.calm=true) (hu:X.A.units+64<cLine) (hK:X.K=K:=by rfl) (hP:X.prog=P:=by rfl) (hw:X.w=w:=by rfl):jq X (.type "set") (upC K (qfb P w K)):=by
 subst hK hP hw;refine (qgO hc hu).mono fun xs H Q h=>?_;obtain⟨U,es,Q0,M,hp,q,cl⟩:=h;unfold qfb at q;split at q
 .obtain ⟨v,rfl,i1⟩:=YG hp;obtain⟨kss,h1,hne,h64,q⟩:=q;obtain⟨p,ys,rfl,h2,h3⟩:=h1.get M i1;have hT:=IsAll.tups h3 hne;refine⟨p,ys,kss,rfl,h2,JJ hT (fun x _ y h=>h.up),h64,fun S bs hS _ ix mem nd lt=>?_⟩;obtain⟨M4,s4,hn⟩:=M.laid (o:=qc4 X.prog X.w S bs) hS;refine cl _ U _ _ (q (bs.map (·.2)) mem nd (by rw[qc];exact lt)) M4 s4 ⟨S,bs,rfl,?_,fun b hb=>?_,rfl,nd,by rw[qc];exact lt⟩
  .rw [yG hn];exact qU
  .obtain ⟨i,e1,e2⟩:=ix b hb;obtain⟨ks,e3,tn⟩:=L2.Paired.get hT e1;rw[e2] at e3;cases e3
   exact tn.same s4
 .exact q.elim
def qma (P:Program) (w:World) (K:W.Frag):RAd:=fun es U Q=>match es with
 | [e]=>∃ kss:List (List Int),LstOf U e (kss.map JC)/\(∀ k∈kss,k≠[])/\kss.length<4900/\∀ ms,(∀ q,q∈ms ↔ q∈kss)->ms.Nodup->ms.length<4915->Q (.x (qeE P w K ms)) U
 | _=>False
theorem qjo (hc:X.calm=true) (hu:X.A.units+64<cLine) (hK:X.K=K:=by rfl) (hP:X.prog=P:=by rfl) (hw:X.w=w:=by rfl):jq X (.type "set") (upC K (qma P w K)):=by
 refine (qlb hc hu hK hP hw).mono fun xs H Q h=>?_;obtain⟨U,es,Q0,M,hp,q,cl⟩:=h;refine⟨U,es,Q0,M,hp,?_,cl⟩;unfold qma at q;unfold qfb;split at q
 .obtain ⟨kss,h1,hne,h64,q⟩:=q;exact⟨kss,h1,hne,fun ms nd hm=>jL (qaA nd hm) h64,q⟩
 .exact q
def qjY (P:Program) (w:World) (K:W.Frag):RAd:=fun es U Q=>∃ ms,es=[.x (qeE P w K ms)]/\ms.length<4900/\∀ ks,ks.Perm ms->Srt ks->Q (.d (.list (ks.map JC))) U
theorem qdg : ∀ {vs:List V}{ms:List (List Int)},PySem.Paired Pv vs ms->(∀ v k,Pv v k->Is K H v (JC k))->IsAll K H vs (ms.map JC)
 | _,_,.nil,_=>.nil
 | _,_,.cons h t,f=>.cons (f _ _ h) (qdg t f)
theorem qdA (hc:X.calm=true) (hK:X.K=K:=by rfl) (hP:X.prog=P:=by rfl) (hw:X.w=w:=by rfl):jq X (.builtin "sorted") (upC K (qjY P w K)):=by
 subst hK hP hw;refine (qeg hc).mono fun xs H Q h=>?_;obtain⟨U,es,Q0,M,hp,q,cl⟩:=h;obtain⟨ms,rfl,h64,q⟩:=q;obtain⟨v,rfl,i1⟩:=YG hp;obtain⟨S,bs,rfl,h1,h2,rfl,h4,h5⟩:=i1;rw[qc] at h64;refine⟨S,bs,rfl,yB _ _ h1,fun b hb=>(h2 b hb).up,h64,fun D vs ks hD hP hp hs=>?_⟩;obtain⟨M4,s4,hn⟩:=M.laid (o:=.lst vs) hD;refine cl _ U _ _ (q ks hp hs) M4 s4 (.lst (SqL.of (by rw[yG hn];exact qU)) (qdg hP fun v k hv=>?_));obtain⟨b,hb,rfl,rfl⟩:=hv;exact ((h2 b hb).same s4).is
end L2
namespace L2
theorem Room.u66 (r:Room k A):A.units+66<cLine:=by have:=r.un;lia
theorem qfD (hu:X.A.units+66<cLine):OpR X (compareOp .NotIn) (fun x y H Q=>∃ d ds,Is X.K H x d/\Is X.K H y (.list ds)/\SeqAt.shaped d=true/\PyData.canLayAll0 ds=true/\Q (.bl (!ds.any fun z=>z.eqv d)) H):=by
 intro Ob s G H x y v u Q I rx ry h;obtain⟨d,ds,h1,h2,h3,h4,q⟩:=h;obtain⟨as,ra⟩:=h1.reads I rx;obtain⟨bs,rb⟩:=h2.reads I ry;unfold SeqAt.shaped at h3;rw[ym] at h3;have hd:=qJ h3.2;exact SeqAt.notIn_list_reads rb ra h4 h3.1 (by lia) ⟨.bl _,H,I,rfl,q⟩
def rdIn (neg:Bool):R2d:=fun x y U Q=>∃ d ds,x = .d d/\LstOf U y ds/\SeqAt.shaped d=true/\PyData.canLayAll0 ds=true/\Q (.d (.bool (if neg then !ds.any fun z=>z.eqv d else ds.any fun z=>z.eqv d))) U
theorem LstOf.is {e:En}(h:LstOf U e ds) (M:RelM K U H) (i:IsE K U H v e):Is K H v (.list ds):=by
 obtain⟨p,xs,rfl,h1,h2⟩:=h.get M i;exact .lst h1 (IsAll.same yB h2)
theorem Y0 (hu:X.A.units+66<cLine) (hK:X.K=K:=by rfl):OpR X (compareOp .NotIn) (upR K (rdIn true)):=by
 subst hK;refine (qfD hu).mono fun x y H Q h=>?_;obtain⟨U,e,e',Q0,M,i1,i2,q,cl⟩:=h;obtain⟨d,ds,rfl,h1,h3,h4,q⟩:=q;exact⟨d,ds,Is.same yB i1,h1.is M i2,h3,h4,cl _ U _ H q M (yr.refl _) (.bl _)⟩
end L2
namespace L2
theorem Inv.turnedL {o:HO}(I:Inv X Ob G H s) (hf:∀ b∈fp,YC X Ob H b) (k:∀ b u,b∉fp->s.heap.get? b=some u->h'.get? b=some u)
  (hp:s.heap.objs.size<=a) (new:jK X.prog X.w (upd H a o) h' a o):Inv X Ob G (upd H a o) { s with heap:=h',toks:=t' }:=by
 have hn:H a=none:=I.hok.fresh hp;have ha:∀ b u,s.heap.get? b=some u->b≠a:=fun b u e z=>absurd (qT (ql e) hp) (by rw[z];exact yz _);have nfp:∀ b u,H b=some u->b∉fp:=fun b u e z=>by
  have:=(hf b z).1;rw[this] at e;cases e
 refine I.step (g':=s.gens) (d':=s.drawn) (ch:=fp) (fun b hb=>?_) (fun b u _ _ hc e _=>k b u hc e) (fun b u _ _ hc e _=>⟨u.slots,k b u hc e⟩) (fun b u _ e n=>by rw[qV (ha b u e)];exact n)
  (fun b u hc e=>⟨u,k b u hc e⟩) (fun b xs e=>by rw[qV (qM e hn)];exact e) (fun b u v e=>by rw[qV (qM e hn)];exact e) (fun b ps e=>⟨#[],by rw[qV (qM e hn),e];simp⟩) (fun m hm=>?_) (fun b u e=>?_) I.bare
 .obtain ⟨_,f1,_,f3,f4,f5⟩:=hf b hb;exact⟨f3,f1,f4,f5⟩
 .obtain ⟨u,es,ep,ho,r⟩:=hm;exact⟨u,es,ep,k _ u (fun z=>(hf _ z).2.1 rfl) ho,r⟩
 .by_cases hb:b=a
  .subst hb;rw[qU] at e;cases e;exact new
  .rw [qV hb] at e;refine (I.hok b u e).stay (fun c v hc q=>k c v ?_ q) (fun c q=>by rw[qV (qM q hn)];exact q) fun c xs q=>by rw[qV (qM q hn)];exact q
   rcases hc with z | z
   .rw [z];exact nfp b u e
   .exact nfp c _ z
theorem Inv.turnedF (I:Inv X Ob G H s) (hf:∀ b∈fp,YC X Ob H b) (k:∀ b u,b∉fp->s.heap.get? b=some u->h'.get? b=some u):Inv X Ob G H { s with heap:=h',toks:=t' }:=by
 have nfp:∀ b u,H b=some u->b∉fp:=fun b u e z=>by
  have:=(hf b z).1;rw[this] at e;cases e
 refine I.step (g':=s.gens) (d':=s.drawn) (ch:=fp) (fun b hb=>?_) (fun b u _ _ hc e _=>k b u hc e) (fun b u _ _ hc e _=>⟨u.slots,k b u hc e⟩) (fun b u _ e n=>n)
  (fun b u hc e=>⟨u,k b u hc e⟩) (fun b xs e=>e) (fun b u v e=>e) (fun b ps e=>⟨#[],by rw[e];simp⟩) (fun m hm=>?_) (fun b u e=>?_) I.bare
 .obtain ⟨_,f1,_,f3,f4,f5⟩:=hf b hb;exact⟨f3,f1,f4,f5⟩
 .obtain ⟨u,es,ep,ho,r⟩:=hm;exact⟨u,es,ep,k _ u (fun z=>(hf _ z).2.1 rfl) ho,r⟩
 .refine (I.hok b u e).stay (fun c v hc q=>k c v ?_ q) (fun _ q=>q) fun _ _ q=>q;rcases hc with z | z
  .rw [z];exact nfp b u e
  .exact nfp c _ z
def Ite (K:W.Frag) (a:Addr):It :=
 ⟨fun i H=>∃ xs x,SqL K H a xs/\xs[i]?=some x,fun i H v H'=>∃ t x,H t=none/\v = .ref t/\H'=upd H t (.tup [.int i,x])/\∀ xs,SqL K H a xs->xs[i]?=some x,fun i H=>∃ xs,SqL K H a xs/\xs.length<=i⟩
theorem qeB {x1} (a e it:Addr) (hne:e≠it):Turn P w K (.Tuple elts x1 pos) (Ite K a) [e,it] e (fun i h=>(∃ old,IsEnum h e it ((i:Nat):Int) old)/\h.IsListIter it a i) where
 mem:=by simp
 obj:=fun i h st b hb=>by
  obtain⟨⟨old,he⟩,o,ho,_,hd⟩:=st;rcases qG.mp hb with rfl | hb
  .exact ⟨_,he,fun v z=>by cases z⟩
  .have:b=it:=by simpa using hb
   subst this;exact⟨o,ho,fun v z=>by rw[hd] at z;cases z⟩
 keep:=fun i h h' st k=>by
  obtain⟨⟨old,he⟩,hi⟩:=st;exact⟨⟨old,k e (by simp) _ he⟩,hi.at fun o q=>k it (by simp) o q⟩
 item:=by
  intro X hP hw hK hc i Ob s G H E I hf st hg;subst hP hw hK;obtain⟨⟨old,he⟩,hi⟩:=st;obtain⟨xs,x,hq,hx⟩:=hg;obtain⟨its,rv,p,hz⟩:=I.list hq;obtain⟨u,hu,ru⟩:=rv.get hx;have hes:e<s.heap.objs.size:=ql he;refine wpAny_pyNext_enum_item he hi p.isList (x:=u) (by simpa using hu) hne fun h' heo hi' ht hsz hk=>⟨_,rfl,wpAny_letOwnedTupleGo_enum heo fun h2 he2 hs2=>?_⟩;have hs2:Heap.SameBut e h' h2:=hs2;have fr:H s.heap.objs.size=none:=I.hok.fresh (qo _);have keep:∀ b o,b∉[e,it]->s.heap.get? b=some o->h2.get? b=some o:=fun b o hb q=>by
   simp only[qG,List.mem_nil_iff,or_false,not_or] at hb;exact hs2.extBut b o hb.1 (hk b o hb.1 hb.2 q)
  have ht2:h2.get? s.heap.objs.size=some { cls:=.type "tuple",data:=.seq #[.int i s.toks,u] }:=(hs2.2 _ (Nat.ne_of_gt hes)).trans ht;have I2:Inv X Ob G (upd H s.heap.objs.size (.tup [.int i,x])) { s with heap:=h2,toks:=s.toks+1 }:=I.turnedL hf keep (qo _) ⟨sz2,[.int i s.toks,u],.cons ⟨_,rfl⟩ (.cons ru .nil),⟨_,ht2,rfl,_,rfl⟩⟩;refine⟨.ref s.heap.objs.size,_,I2,rfl,⟨_,x,fr,rfl,rfl,fun ys hy=>by rw[I.list_inj hy hq];exact hx⟩,⟨⟨u,?_⟩,?_⟩,fun b hb=>?_⟩
  .have:((i+1:Nat):Int)=(i:Int)+1:=by lia
   rw[this];exact he2
  .exact hi'.extBut hs2.extBut (Ne.symm hne)
  .have hb':=(hf b hb).1;have:b≠s.heap.objs.size:=by
    rcases qG.mp hb with rfl | hb
    .exact qp hes
    .have:b=it:=by simpa using hb
     subst this;obtain⟨o,ho,_⟩:=hi;exact qp (ql ho)
   rw[qV this];exact hb'
 done:=by
  intro X hP hw hK hc i Ob s G H E I hf st hg;subst hP hw hK;obtain⟨⟨old,he⟩,hi⟩:=st;obtain⟨xs,hq,hx⟩:=hg;obtain⟨its,rv,p,hz⟩:=I.list hq;have hl:=rv.length;refine wpAny_pyNext_enum_end (I.ok.hd hc) he hi p.isList (by simp;lia) fun h' eb=>⟨rfl,?_⟩;exact I.turnedF (t':=s.toks) hf fun b o hb q=>eb b o (fun z=>hb (by simp[z])) q
 self:=fun _ _ _ _ _ st h=>wpAny_pyIter_enum (Classical.choose_spec st.1) h
def iEnum (K:W.Frag) (ta:TA):TI:=fun G H R=>ta G H fun vs H1=>∃ a,vs=[.ref a]/\(∃ xs,SqL K H1 a xs)/\R (Ite K a) H1
theorem qj8 {l:Expr}{ta:TA}{x1} {p:Pos}(hg:Gl X "enumerate") (hm:X.mg "enumerate" = none) (ha:PA X [l] ta) (hs:starEach [l] X.env=[(false,eval l X.env)]:=by rfl) :
  PI X (.Tuple elts x1 tpos) (.Call (.Name "enumerate" p) [l] [] pos) (iEnum X.K ta):=by
 intro Ob s G H R I h;refine Call_ (qad I hg hm boot_enumerate (PyProof.Rows.callWith_type1 (thn (ha pos Ob s G H _ I h) fun us s1 ⟨vs,H1,I1,r1,q1⟩=>?_) hs rfl));obtain⟨a,e,⟨xs,hq⟩,q⟩:=q1;subst e;obtain⟨u,rfl,rx⟩:=qar r1;cases rx
 obtain⟨its,rv,pl,hz⟩:=I1.list hq;refine call_enumerate_list pl.isList fun h' he hi hsz hk=>?_;have I2:Inv X Ob G H1 { s1 with heap:=h' }:=I1.kept (t':=s1.toks) hk;refine wpAny_pyIter_enum he ?_;refine⟨s1.heap.objs.size+1,[s1.heap.objs.size+1,s1.heap.objs.size],_,_,H1,rfl,I2,qeB a _ _ (Nat.ne_of_gt (y4 _)),⟨⟨_,he⟩,hi⟩,fun b hb=>?_,q⟩;have hb':s1.heap.objs.size<=b:=by
  rcases qG.mp hb with z | z
  .rw [z];exact Nat.le_succ _
  .have:b=s1.heap.objs.size:=by simpa using z
   rw[this];exact qo _
 exact I1.fpOk hb' (I1.hok.fresh hb')
def itE (e:En) (ds:List PyData):Itd:=⟨ds.length,fun i=>.d (.tuple [.int (i:Int),ds.getD i .none]),fun U=>LstOf U e ds⟩
def diE (ta:TAd):TId:=fun O U Q=>ta O U fun es U1=>match es with
 | [e]=>∃ ds,LstOf U1 e ds/\Q (itE e ds) U1
 | _=>False
theorem qgH {l:Expr}{ta:TAd}{x1} {p:Pos}(hg:Gl X "enumerate") (hm:X.mg "enumerate" = none) (ha:DA K X [l] ta) (hK:X.K=K:=by rfl) (hs:starEach [l] X.env=[(false,eval l X.env)]:=by rfl) :
  DI K X (.Tuple elts x1 tpos) (.Call (.Name "enumerate" p) [l] [] pos) (diE ta):=by
 subst hK;refine PI.mono (qj8 hg hm ha hs) fun G H R Og=>?_;obtain⟨O,U,Q0,hS,hM,h,cl⟩:=Og;refine⟨O,U,_,hS,hM,h,fun es U1 vs H1 q M1 s1 i1=>?_⟩;split at q
 .rename_i e
  obtain⟨v,rfl,h1⟩:=YG i1;obtain⟨ds,hL,q⟩:=q;obtain⟨p,xs,rfl,a1,a2⟩:=hL.get M1 h1;refine⟨p,rfl,⟨xs,a1⟩,cl _ U1 _ H1 q M1 s1 fun U' H' M' s' hok i=>?_⟩;obtain⟨p',xs',e',h3,h4⟩:=LstOf.get hok M' (h1.same s');cases e'
  have hl:=h4.len;refine⟨fun hi=>⟨⟨xs',xs'[i]'(by rw[hl];exact hi),h3,by simp⟩,?_⟩,fun hi=>⟨xs',h3,by rw[hl];exact hi⟩⟩;rintro x H2 ⟨t,y,ht,rfl,rfl,hx⟩;obtain⟨M2,s2,hn⟩:=M'.laid (o:=.tup [.int i,y]) ht;obtain⟨d,e1,e2⟩:=h4.get (hx xs' h3);refine⟨M2,s2,?_⟩;show Is X.K (mask U' (upd H' t (.tup [.int i,y]))) (.ref t) (.tuple [.int i,ds.getD i .none]);rw[YZ e1];exact .tup (SqT.of (by rw[yG hn];exact qU)) (.cons (.int _) (.cons (Is.same s2 e2) .nil))
 .exact q.elim
theorem forE {e:En}{tb:TSd}{D:EndsD}(Pv:Nat->Rho->Mu->Prop) (h0:Pv 0 O U) (hok:∀ i O' U',Pv i O' U'->LstOf U' e ds)
  (hs:∀ i x O' U',ds[i]?=some x->Pv i O' U'->g (.d (.tuple [.int (i:Int),x])) O' U' fun O2 U2=>tb { D with nx:=Wks (Pv (i+1)),ct:=Wks (Pv (i+1)),bk:=D.nx } O2 U2) (hd:∀ O' U',Pv ds.length O' U'->D.nx O' U') :
  ∃ Pv:Nat->Rho->Mu->Prop,Pv 0 O U/\(∀ i O' U',i<=(itE e ds).n->Pv i O' U'->(itE e ds).ok U') ∧
   (∀ i O' U',i<(itE e ds).n->Pv i O' U'->g ((itE e ds).item i) O' U' fun O2 U2=>tb { D with nx:=Wks (Pv (i+1)),ct:=Wks (Pv (i+1)),bk:=D.nx } O2 U2)/\∀ O' U',Pv (itE e ds).n O' U'->D.nx O' U':=by
 refine⟨Pv,h0,fun i O' U' _ p=>hok i O' U' p,fun i O' U' hi p=>?_,hd⟩;have hi:i<ds.length:=hi;have e1:ds[i]?=some ds[i]:=qf hi;show g (.d (.tuple [.int (i:Int),ds.getD i .none])) O' U' _;rw[YZ e1];exact hs i _ O' U' e1 p
end L2
namespace L2
variable {it:Value}{wi2:TI}{g2:TG}{tt2:TT}
abbrev two (elt t1 i1 t2 i2:Expr) (f1 f2:List Expr) (scope:Scope) (pos:Pos):Expr:=.ListComp elt [⟨t1,i1,f1,0⟩,⟨t2,i2,f2,0⟩] scope pos
theorem Zp
  (h0:codeAny (model prog w) A (.compLoop (two elt t1 i1 t2 i2 f1 f2 scope pos) 1 it acc env) R s)
  (h:wpAny (model prog w) A (pyIter it) (fun it' s'=>codeAny (model prog w) A (.compLoop (two elt t1 i1 t2 i2 f1 f2 scope pos) 1 it' acc env) R s') (notedBy (model prog w) A env fun x s'=>R (Except.error x) s') s) :
  codeAny (model prog w) A (.compStart (two elt t1 i1 t2 i2 f1 f2 scope pos) 1 it acc env) R s:=by
 refine codeAny_of_tree ?_;refine wpAny_notedAt ?_;refine qa (Jz (wpAny_ite ?_));split
 .exact qa (qe (qe ⟨rfl,h0⟩))
 .exact qa (j6 (qa (jp (qa (qP h (fun it' s' h'=>qe ⟨rfl,h'⟩) fun _ _ z=>z)))))
theorem qkF (I:Nat->Shared->Prop)
  (turn:∀ n s,I n s->wpAny (model prog w) A (pyNext it) (fun r sa1=>match r with
   | none=>R (.ok .next) sa1
   | some v=>wpAny (model prog w) A (letOwnedTupleGo t2 it v) (fun _ s1'=>wpAny (model prog w) A (assign t2 env v) (fun _ sa2 =>
     wpAny (model prog w) A (forIn f2 true fun c r=>if r=true then do let ok <- isTrue c env (eval c env);pure (ForInStep.yield ok) else pure (ForInStep.yield r)) (fun ok sa3 =>
      if ok=true then wpAny (model prog w) A (eval elt env) (fun x sa4 =>
       wpAny (model prog w) A (call (.builtin "list.append") [acc,x]) (fun _ sa5=>∃ m,m<n/\I m sa5) (fun _ _=>False) sa4) (fun _ _=>False) sa3
      else ∃ m,m<n/\I m sa3) (fun _ _=>False) sa2) (fun _ _=>False) s1') (fun _ _=>False) sa1) (fun _ _=>False) s)
  (n:Nat) (h:I n s):codeAny (model prog w) A (.compLoop (two elt t1 i1 t2 i2 f1 f2 scope pos) 1 it acc env) R s:=by
 refine codeAny_loop rfl I (fun n s hI=>?_) n h;show wpAny _ A ((compTurn (two elt t1 i1 t2 i2 f1 f2 scope pos) 1 it acc env).onRaise (fun x=>do noteFrame x env;theTreesLotGoes x)) _ _ s;refine wpAny_noted ?_;show wpAny _ A (do
  standAt i2.pos
  let o <- pyNext it
  match o with
   | none=>pure (Fin.done Flow.next)
   | some v=>do
    letOwnedTupleGo t2 it v
    assign t2 env v
    let ok <- forIn f2 true fun c r=>if r=true then do let ok <- isTrue c env (eval c env);pure (ForInStep.yield ok) else pure (ForInStep.yield r)
    if ok=true then do
      let _ <- (do let x <- eval elt env;let _ <- call (.builtin "list.append") [acc,x];pure ())
      again (.compLoop (two elt t1 i1 t2 i2 f1 f2 scope pos) 1 it acc env)
     else again (.compLoop (two elt t1 i1 t2 i2 f1 f2 scope pos) 1 it acc env)) _ _ s
 refine qa (jp (qa (qP (turn n s hI) (fun r sa1 hd1=>?_) fun _ _ h'=>h'.elim)));cases r with
 | none=>exact qe hd1
 | some v =>
  refine qa (qP hd1 (fun _ s1' ha1'=>?_) fun _ _ h'=>h'.elim);refine qa (qP ha1' (fun _ sa2 ha2=>qa (qP ha2 (fun ok sa3 ha3=>?_) fun _ _ h'=>h'.elim)) fun _ _ h'=>h'.elim);cases ok with
  | false=>exact qe ⟨rfl,ha3⟩
  | true =>
   exact qa (qa (qP ha3 (fun x sa4 ha4=>qa (qP ha4 (fun _ sa5 ha5=>qe (qe ⟨rfl,ha5⟩)) fun _ _ h'=>h'.elim)) fun _ _ h'=>h'.elim))
theorem qhZ (hs:∀ x,foldedSetIterable i2 env x=pure x) (I:Nat->Shared->Prop)
  (turn:∀ n s,I n s->wpAny (model prog w) A (pyNext it) (fun r sa1=>match r with
   | none=>R (.ok .next) sa1
   | some v=>wpAny (model prog w) A (letOwnedTupleGo t1 it v) (fun _ s1'=>wpAny (model prog w) A (assign t1 env v) (fun _ sa2 =>
     wpAny (model prog w) A (forIn f1 true fun c r=>if r=true then do let ok <- isTrue c env (eval c env);pure (ForInStep.yield ok) else pure (ForInStep.yield r)) (fun ok sa3 =>
      if ok=true then wpAny (model prog w) A (eval i2 env) (fun x sa4 =>
       wpAny (model prog w) A (pyIter x) (fun it2 sa5=>codeAny (model prog w) A (.compStart (two elt t1 i1 t2 i2 f1 f2 scope pos) 1 it2 acc env) (fun r sa6=>r = .ok .next/\∃ m,m<n/\I m sa6) sa5) (fun _ _=>False) sa4) (fun _ _=>False) sa3
      else ∃ m,m<n/\I m sa3) (fun _ _=>False) sa2) (fun _ _=>False) s1') (fun _ _=>False) sa1) (fun _ _=>False) s)
  (n:Nat) (h:I n s):codeAny (model prog w) A (.compLoop (two elt t1 i1 t2 i2 f1 f2 scope pos) 0 it acc env) R s:=by
 refine codeAny_loop rfl I (fun n s hI=>?_) n h;show wpAny _ A ((compTurn (two elt t1 i1 t2 i2 f1 f2 scope pos) 0 it acc env).onRaise (fun x=>do noteFrame x env;theTreesLotGoes x)) _ _ s;refine wpAny_noted ?_;show wpAny _ A (do
  standAt i1.pos
  let o <- pyNext it
  match o with
   | none=>pure (Fin.done Flow.next)
   | some v=>do
    letOwnedTupleGo t1 it v
    assign t1 env v
    let ok <- forIn f1 true fun c r=>if r=true then do let ok <- isTrue c env (eval c env);pure (ForInStep.yield ok) else pure (ForInStep.yield r)
    if ok=true then do
      let x <- eval i2 env
      standAt i2.pos
      let x <- foldedSetIterable i2 env x
      let it2 <- holding [x] (pyIter x)
      let _ <- runOwn (.compStart (two elt t1 i1 t2 i2 f1 f2 scope pos) 1 it2 acc env) env
      again (.compLoop (two elt t1 i1 t2 i2 f1 f2 scope pos) 0 it acc env)
     else again (.compLoop (two elt t1 i1 t2 i2 f1 f2 scope pos) 0 it acc env)) _ _ s
 refine qa (jp (qa (qP (turn n s hI) (fun r sa1 hd1=>?_) fun _ _ h'=>h'.elim)));cases r with
 | none=>exact qe hd1
 | some v =>
  refine qa (qP hd1 (fun _ s1' ha1'=>?_) fun _ _ h'=>h'.elim);refine qa (qP ha1' (fun _ sa2 ha2=>qa (qP ha2 (fun ok sa3 ha3=>?_) fun _ _ h'=>h'.elim)) fun _ _ h'=>h'.elim);cases ok with
  | false=>exact qe ⟨rfl,ha3⟩
  | true =>
   refine qa (qP ha3 (fun x sa4 ha4=>qa (jp ?_)) fun _ _ h'=>h'.elim);rw[hs];refine qa (qe (qa (yf (qP ha4 (fun it2 sa5 ha5=>?_) fun _ _ h'=>h'.elim))));refine qa (wpAny_runOwn (h:=none) (codeAny_mono ha5 fun r sa6 ⟨e,ha6⟩=>?_));subst e;exact qe ⟨rfl,ha6⟩
def qeD (k:Nat) (g:TG) (tt:TT) (wi2:TI) (g2:TG) (tt2:TT) (te:TE) (G:St) (Q:VK) (J:It) (H1:Hp):Prop:=∃ W:Nat->Nat->List V->St->Hp->Prop,(∃ m,W 0 m [] (G++List.replicate k none) H1)/\∀ i m ys G' H,W i m ys G' H →
 (J.stop i H/\∀ D,H D=none->Q (.ref D) (upd H D (.lst ys))) ∨
 (J.go i H/\∃ N:List V->St->Hp->Prop,(∀ ys' G' H',N ys' G' H'->∃ m',m'<m/\W (i+1) m' ys' G' H') ∧
  ∀ x H',J.yld i H x H'->g x G' H' fun G2 H2=>tt G2 H2 fun b H3=>if b=true then wi2 G2 H3 fun J2 H4 =>
   ∃ W2:Nat->Nat->List V->St->Hp->Prop,(∃ m,W2 0 m ys G2 H4)/\∀ i m ys G' H,W2 i m ys G' H →
    (J2.stop i H/\N ys G' H) ∨
    (J2.go i H/\ys.length<sizeLine/\∃ N2:List V->St->Hp->Prop,(∀ ys' G' H',N2 ys' G' H'->∃ m',m'<m/\W2 (i+1) m' ys' G' H') ∧
     ∀ x H',J2.yld i H x H'->g2 x G' H' fun G2 H2=>tt2 G2 H2 fun b H3=>if b=true then te G2 H3 fun y H4=>N2 (ys++[y]) G2 H4 else N2 ys G2 H3)
   else N ys G2 H3)
def qiD (k:Nat) (wi:TI) (g:TG) (tt:TT) (wi2:TI) (g2:TG) (tt2:TT) (te:TE):TE:=fun G H Q=>wi G H (qeD k g tt wi2 g2 tt2 te G Q)
theorem qcN
  {g:TG}{tt:TT}{te:TE}{J:It}{it:Addr}
  (hc:X.calm=true) (hsc:X.env.scope=sc) (hN:X.N=N) (ok:jE sc N L scope=true) (hc1:∀ x c,cl.lookup x=some c->X.env.cells.lookup x=some c)
  (hc2:∀ y∈scope.names,y.2 = .free->∃ c,cl.lookup y.1=some c)
  (hg:∀ cl C sa2 Ha2 fp,PG (qO X L scope cl C sa2 Ha2 fp) tg g) (hi:∀ cl C sa2 Ha2 fp,Ifs (qO X L scope cl C sa2 Ha2 fp) ifs tt) (hi2:∀ cl C sa2 Ha2 fp,PI (qO X L scope cl C sa2 Ha2 fp) tg2 iter2 wi2) (hg2:∀ cl C sa2 Ha2 fp,PG (qO X L scope cl C sa2 Ha2 fp) tg2 g2) (hf2:∀ cl C sa2 Ha2 fp,Ifs (qO X L scope cl C sa2 Ha2 fp) ifs2 tt2) (he:∀ cl C sa2 Ha2 fp,PE (qO X L scope cl C sa2 Ha2 fp) elt te)
  (hs2:∀ env x,foldedSetIterable iter2 env x=pure x)
  (I:Inv X Ob G H sa2) (T:Turn X.prog X.w X.K tg J fp it tn) (st:tn 0 sa2.heap) (hf:∀ b∈fp,YC X Ob H b) (hw:qeD L.length g tt wi2 g2 tt2 te G Q J H)
  (hR:∀ D C m H' s' ys,s'.heap.Ns C m->sa2.heap.objs.size=D->sa2.heap.objs.size<C->H' C=none->D≠C->Inv X Ob G (upd H' D (.lst ys)) s'->Q (.ref D) (upd H' D (.lst ys))->RR (.ref D) C (.ok .next) s') :
  wpAny (model X.prog X.w) X.A (newList []) (fun acc sa3=>wpAny (model X.prog X.w) X.A (newFunctionEnv scope X.env.globals cl [] X.env.qual none .none (some X.env)) (fun cenv sa4 =>
   codeAny (model X.prog X.w) X.A (.compStart (two elt tg iter tg2 iter2 ifs ifs2 scope pos) 0 (.ref it) acc { cenv with scope:=relabel scope X.env }) (RR acc cenv.locals) sa4) E sa3) E sa2:=by
 refine yF (wpAny_newFunctionEnv (fun y hy=>(yZ ok hy).1) (by intro y hy;simp at hy) (fun hd1 hns1 hsb1=>?_) (jh ok));dsimp only at hns1 hsb1 ⊢;generalize hH2:sa2.heap.push { cls:=.type "list",dict:=none,data:=.seq ([]:List Value).toArray }=H2 at hns1 hsb1 ⊢;have hC:H2.objs.size=sa2.heap.objs.size+1:=by rw[<- hH2,JD]
 have hCle:sa2.heap.objs.size<=H2.objs.size:=by rw[hC];exact Nat.le_succ _
 have hDC:sa2.heap.objs.size≠H2.objs.size:=by rw[hC];exact qp (y4 _)
 have hlt:∀ b∈fp,b<sa2.heap.objs.size:=fun b hb=>by
  obtain⟨o,e,_⟩:=T.obj 0 _ st b hb;exact ql e
 have below:∀ b,b<sa2.heap.objs.size->b≠H2.objs.size:=fun b hb=>by rw[hC];exact qp (Nat.lt_succ_of_lt hb)
 have old:∀ b o,sa2.heap.get? b=some o->hd1.get? b=some o:=fun b o e=>hsb1.extBut b o (below b (ql e)) (qh _ (hH2 ▸ qh _ e));have hacc:hd1.get? sa2.heap.objs.size=some { cls:=.type "list",data:=.seq ([]:List Value).toArray 0 }:=hsb1.extBut _ _ hDC (qh _ (hH2 ▸ qA _ rfl));have Yok:=qcM (L:=L) (scope:=scope) (cl:=cl) (C:=H2.objs.size) (fp:=fp) I hsc hN ok hc1 hc2 hf hlt hCle;generalize hDn:sa2.heap.objs.size=D at *;generalize hCn:H2.objs.size=C at *;have sat1:tn 0 hd1:=T.keep _ _ _ st fun b _ o e=>old b o e
 have cellD:∀ x c,cl.lookup x=some c->c≠D:=fun x c e=>by
  obtain⟨v,q⟩:=I.cell x c (hc1 x c e);rw[<- hDn];exact qp q.lt
 have fpY:∀ {H':Hp}{its:List Value}{n:Nat},(∀ b∈fp,H' b=none)->∀ b∈fp,YC (qO X L scope cl C sa2 H fp) [(D,{ cls:=.type "list",data:=.seq its.toArray n })] H' b:=fun {H' its n} hn b hb=>by
  refine⟨hn b hb,(Yok.exf b hb).1,Yok.exfs b hb,.inl hb,(Yok.exf b hb).2,fun p hp=>?_⟩;have e:p=(D,{ cls:=.type "list",data:=.seq its.toArray n }):=by
   have:p∈[(D,({ cls:=.type "list",data:=.seq its.toArray n }:Obj))]:=hp;simpa using this
  subst e;exact Ne.symm (qp (hlt b hb))
 have nfsD:D∉(qO X L scope cl C sa2 H fp).fs:=fun z=>by
  obtain⟨_,o,ho,_⟩:=Yok.funs.mem z;exact absurd (show D<sa2.heap.objs.size from ql ho) (by rw[hDn];exact yz _)
 have pinD:∀ {G':St}{H':Hp}{s':Shared}{pl:List (Addr×Obj)}{its:List Value}{n:Nat},Inv (qO X L scope cl C sa2 H fp) pl G' H' s'->s'.heap.get? D=some { cls:=.type "list",data:=.seq its.toArray n }->H' D=none →
   Inv (qO X L scope cl C sa2 H fp) [(D,{ cls:=.type "list",data:=.seq its.toArray n })] G' H' s':=fun {G' H' s' pl its n} J e hn=>J.pins_of fun p hp=>by
  have e':p=(D,{ cls:=.type "list",data:=.seq its.toArray n }):=by simpa using hp
  subst e';exact⟨e,hn,hDC,nfsD,fun v z=>by cases z⟩
 have Ia1:Inv (qO X L scope cl C sa2 H fp) [] (G++List.replicate L.length none) H { sa2 with heap:=hd1,toks:=sa2.toks+([]:List (Str×Value)).length } :=
  Zo I hsc hN ok hc1 Yok (by rw[hDn];exact hCle) rfl I.bare old hns1
 have HD:H D=none:=I.hok.fresh (by rw[hDn];exact qo _);obtain⟨W,⟨m0,w0⟩,turn⟩:=hw;have loop:codeAny (model X.prog X.w) X.A (.compLoop (two elt tg iter tg2 iter2 ifs ifs2 scope pos) 0 (.ref it) (.ref D) (compEnvC scope cl C X.env)) (RR (.ref D) C)
   { sa2 with heap:=hd1,toks:=sa2.toks+([]:List (Str×Value)).length }:=by
  refine qhZ (hs2 _) (fun n s'=>∃ i ys its k G' H',Inv (qO X L scope cl C sa2 H fp) [(D,{ cls:=.type "list",data:=.seq its.toArray k })] G' H' s'/\yN ys its/\ys.length<=sizeLine/\tn i s'.heap/\(∀ b∈fp,H' b=none)/\W i n ys G' H')
   ?_ m0 ⟨0,[],[],0,_,H,pinD Ia1 hacc HD,.nil,qZ _,sat1,fun b hb=>(hf b hb).1,w0⟩
  rintro n s3 ⟨i,ys,its,k,G3,H3,I3,hv3,hz3,st3,fr3,w3⟩;have hp3:=I3.pin (D,{ cls:=.type "list",data:=.seq its.toArray k }) (by simp);rcases turn i n ys G3 H3 w3 with⟨stop,q⟩ | ⟨go,Nx,hNx,step⟩
  .refine thn (T.done (qO X L scope cl C sa2 H fp) rfl rfl rfl hc i _ s3 G3 H3 _ I3 (fpY fr3) st3 stop) fun r s4 ⟨hr,I4⟩=>?_;subst hr;have hp4:=I4.pin (D,{ cls:=.type "list",data:=.seq its.toArray k }) (by simp);obtain⟨m4,hn4,_⟩:=I4.loc;exact hR D C m4 H3 s4 ys hn4 rfl (by rw[hC];exact y4 _) I4.free hDC (qb5 I hf hDn I4 hp4.1 hp4.2.1 hv3 hz3) (q D hp4.2.1)
  .refine thn (T.item (qO X L scope cl C sa2 H fp) rfl rfl rfl hc i _ s3 G3 H3 _ I3 (fpY fr3) st3 go) fun r s4 ⟨u,hr,h4⟩=>?_;subst hr;refine thn h4 fun _ s5 Og=>?_;obtain⟨x,H5,I5,r5,y5,st5,fr5⟩:=Og;have I5':=I5.pinned (fpY fr5) (T.obj _ _ st5);refine thn (hg cl C sa2 H fp _ s5 G3 H5 x u _ I5' r5 (step x H5 y5)) fun _ s6 Og=>?_;obtain⟨G6,H6,I6,q6⟩:=Og;refine thn (hi cl C sa2 H fp _ s6 G6 H6 _ I6 q6) fun ok s7 Og=>?_;obtain⟨H7,I7,q7⟩:=Og;have later:∀ {G':St}{H':Hp}{s':Shared},Inv (qO X L scope cl C sa2 H fp) ([(D,{ cls:=.type "list",data:=.seq its.toArray k })]++JI fp s5.heap) G' H' s' →
     tn (i+1) s'.heap/\(∀ b∈fp,H' b=none)/\s'.heap.get? D=some { cls:=.type "list",data:=.seq its.toArray k }/\H' D=none:=fun {G' H' s'} J=>by
    refine⟨T.keep _ _ _ st5 fun b hb o e=>(J.pin (b,o) (qg _ (qg _ (yQ hb e)))).1,fun b hb=>?_,?_⟩
    .obtain ⟨o,e,d⟩:=T.obj _ _ st5 b hb;exact (J.pin (b,o) (qg _ (qg _ (yQ hb e)))).2.1
    .have z:=J.pin (D,{ cls:=.type "list",data:=.seq its.toArray k }) (qg _ (qS _ (by simp)));exact⟨z.1,z.2.1⟩
   cases ok with
   | false =>
    rw[if_neg (by simp)] at q7 ⊢;obtain⟨m',hm',w'⟩:=hNx _ _ _ q7;obtain⟨t1,t2,t3,t4⟩:=later I7;exact⟨m',hm',i+1,ys,its,k,G6,H7,pinD I7 t3 t4,hv3,hz3,t1,t2,w'⟩
   | true =>
    rw[if_pos rfl] at q7 ⊢;refine thn (hi2 cl C sa2 H fp _ s7 G6 H7 _ I7 q7) fun v2 s8 h8=>thn h8 fun itv s9 h9=>?_;obtain⟨it2,fp2,tn2,J2,H9,e9,I9,T2,st9,f9,W2,⟨m2,w9⟩,turn2⟩:=h9;subst e9;have fp2Y:∀ {H':Hp}{its':List Value}{k':Nat},(∀ b∈fp2,H' b=none)->∀ b∈fp2,YC (qO X L scope cl C sa2 H fp) ([(D,{ cls:=.type "list",data:=.seq its'.toArray k' })]++JI fp s5.heap) H' b:=fun {H' its' k'} hn b hb=>by
     obtain⟨_,z1,z2,z3,z4,z5⟩:=f9 b hb;refine⟨hn b hb,z1,z2,z3,z4,fun p hp=>?_⟩;rcases qB.mp hp with hp | hp
     .exact z5 p (qS _ hp)
     .rcases qB.mp hp with hp | hp
      .have e:p=(D,{ cls:=.type "list",data:=.seq its'.toArray k' }):=by simpa using hp
       subst e;exact z5 (D,{ cls:=.type "list",data:=.seq its.toArray k }) (qg _ (qS _ (by simp)))
      .exact z5 p (qg _ (qg _ hp))
    have nbD:∀ b∈fp,b≠D:=fun b hb=>qp (hlt b hb);have outer:∀ {G':St}{H':Hp}{s':Shared}{ys':List V}{its':List Value}{k':Nat}{pl:List (Addr×Obj)},Inv (qO X L scope cl C sa2 H fp) ([(D,{ cls:=.type "list",data:=.seq its'.toArray k' })]++JI fp s5.heap) G' H' s'->yN ys' its'->ys'.length<=sizeLine->Nx ys' G' H' →
      ∃ m',m'<n/\∃ i ys its k G' H',Inv (qO X L scope cl C sa2 H fp) [(D,{ cls:=.type "list",data:=.seq its.toArray k })] G' H' s'/\yN ys its/\ys.length<=sizeLine/\tn i s'.heap/\(∀ b∈fp,H' b=none)/\W i m' ys G' H':=fun {G' H' s' ys' its' k' pl} J hv hz nx=>by
     obtain⟨m',hm',w'⟩:=hNx _ _ _ nx;have z:=J.pin (D,{ cls:=.type "list",data:=.seq its'.toArray k' }) (qg _ (qS _ (by simp)));refine⟨m',hm',i+1,ys',its',k',G',H',pinD J z.1 z.2.1,hv,hz,?_,fun b hb=>?_,w'⟩
     .exact T.keep _ _ _ st5 fun b hb o e=>(J.pin (b,o) (qg _ (qg _ (yQ hb e)))).1
     .obtain ⟨o,e,d⟩:=T.obj _ _ st5 b hb;exact (J.pin (b,o) (qg _ (qg _ (yQ hb e)))).2.1
    have loop2:codeAny (model X.prog X.w) X.A (.compLoop (two elt tg iter tg2 iter2 ifs ifs2 scope pos) 1 (.ref it2) (.ref D) (compEnvC scope cl C X.env)) (fun r sa6=>r = .ok .next/\∃ m',m'<n/\∃ i ys its k G' H',Inv (qO X L scope cl C sa2 H fp) [(D,{ cls:=.type "list",data:=.seq its.toArray k })] G' H' sa6/\yN ys its/\ys.length<=sizeLine/\tn i sa6.heap/\(∀ b∈fp,H' b=none)/\W i m' ys G' H') s9:=by
     refine qkF (fun n2 s'=>∃ j ys2 its2 k2 G' H',Inv (qO X L scope cl C sa2 H fp) ([(D,{ cls:=.type "list",data:=.seq its2.toArray k2 })]++JI fp s5.heap) G' H' s'/\yN ys2 its2/\ys2.length<=sizeLine/\tn2 j s'.heap/\(∀ b∈fp2,H' b=none)/\W2 j n2 ys2 G' H')
      ?_ m2 ⟨0,ys,its,k,G6,H9,I9,hv3,hz3,st9,fun b hb=>(f9 b hb).1,w9⟩
     rintro n2 t3 ⟨j,ys2,its2,k2,O3,Ga3,I3',hv3',hz3',st3',fr3',w3'⟩;rcases turn2 j n2 ys2 O3 Ga3 w3' with⟨stop2,q2⟩ | ⟨go2,hlen2,N2,hN2,step2⟩
     .refine thn (T2.done (qO X L scope cl C sa2 H fp) rfl rfl rfl hc j _ t3 O3 Ga3 _ I3' (fp2Y fr3') st3' stop2) fun r s4 ⟨hr,I4⟩=>?_;subst hr;exact⟨rfl,outer (pl:=[]) I4 hv3' hz3' q2⟩
     .refine thn (T2.item (qO X L scope cl C sa2 H fp) rfl rfl rfl hc j _ t3 O3 Ga3 _ I3' (fp2Y fr3') st3' go2) fun r s4 ⟨u,hr,h4⟩=>?_;subst hr;refine thn h4 fun _ t5 Og=>?_;obtain⟨x,Ga5,J5,r5',y5',st5',fr5'⟩:=Og;have J5':=J5.pinned (fp2Y fr5') (T2.obj _ _ st5');refine thn (hg2 cl C sa2 H fp _ t5 O3 Ga5 x u _ J5' r5' (step2 x Ga5 y5')) fun _ t6 Og=>?_;obtain⟨O6,Ga6,J6,q6'⟩:=Og;refine thn (hf2 cl C sa2 H fp _ t6 O6 Ga6 _ J6 q6') fun ok t7 Og=>?_;obtain⟨Ga7,J7,q7'⟩:=Og;have later2:∀ {G':St}{H':Hp}{s':Shared},Inv (qO X L scope cl C sa2 H fp) (([(D,{ cls:=.type "list",data:=.seq its2.toArray k2 })]++JI fp s5.heap)++JI fp2 t5.heap) G' H' s' →
        tn2 (j+1) s'.heap/\(∀ b∈fp2,H' b=none)/\s'.heap.get? D=some { cls:=.type "list",data:=.seq its2.toArray k2 }/\H' D=none:=fun {G' H' s'} J=>by
       refine⟨T2.keep _ _ _ st5' fun b hb o e=>(J.pin (b,o) (qg _ (qg _ (yQ hb e)))).1,fun b hb=>?_,?_⟩
       .obtain ⟨o,e,d⟩:=T2.obj _ _ st5' b hb;exact (J.pin (b,o) (qg _ (qg _ (yQ hb e)))).2.1
       .have z:=J.pin (D,{ cls:=.type "list",data:=.seq its2.toArray k2 }) (qg _ (qS _ (qS _ (by simp))));exact⟨z.1,z.2.1⟩
      cases ok with
      | false =>
       rw[if_neg (by simp)] at q7' ⊢;obtain⟨m',hm',w'⟩:=hN2 _ _ _ q7';obtain⟨t1,t2,t3,t4⟩:=later2 J7;exact⟨m',hm',j+1,ys2,its2,k2,O6,Ga7,J7.unpinned,hv3',hz3',t1,t2,w'⟩
      | true =>
       rw[if_pos rfl] at q7' ⊢;refine thn (he cl C sa2 H fp _ t7 O6 Ga7 _ J7 q7') fun y t8 Og=>?_;obtain⟨v,Ga8,J8,r8,q8⟩:=Og;obtain⟨m',hm',w'⟩:=hN2 _ _ _ q8;obtain⟨t1,t2,t3,t4⟩:=later2 J8;refine append_at (hsz:=by rw[qz,<- hv3'.length];exact hz3') t3 fun h9 hs9 hD9=>?_;have nb2D:∀ b∈fp2,b≠D:=fun b hb z=>(f9 b hb).2.2.2.2.2 (D,{ cls:=.type "list",data:=.seq its.toArray k }) (qg _ (qS _ (by simp))) z.symm;have J9:Inv (qO X L scope cl C sa2 H fp) [] O6 Ga8 { t8 with heap:=h9 }:=(J8.pins_of (pins':=[]) (fun p hp=>by simp at hp)).turned (it:=D) (t':=t8.toks) (fun b o hb e=>hs9.extBut b o hb e) t4 hDC
        (.inr (by show sa2.heap.objs.size<=D;rw[hDn];exact qo _)) cellD (fun p hp=>by
         have:p∈([]:List (Addr×Obj)):=hp;simp at this)
       have J9':Inv (qO X L scope cl C sa2 H fp) ([(D,{ cls:=.type "list",data:=.seq (its2++[y]).toArray (k2+1) })]++JI fp s5.heap) O6 Ga8 { t8 with heap:=h9 }:=J9.pins_of fun p hp=>by
        rcases qB.mp hp with hp | hp
        .have e':p=(D,{ cls:=.type "list",data:=.seq (its2++[y]).toArray (k2+1) }):=by simpa using hp
         subst e';exact⟨(by rw[hD9];simp),t4,hDC,nfsD,fun v z=>by cases z⟩
        .have z:=J8.pin p (qg _ (qS _ (qg _ hp)));have hpD:p.1≠D:=by exact nbD p.1 (qbM hp).1
         exact⟨hs9.extBut _ _ hpD z.1,z.2⟩
       refine⟨m',hm',j+1,ys2++[v],its2++[y],k2+1,O6,Ga8,J9',hv3'.append (.cons r8 .nil),by simp;lia,T2.keep _ _ _ t1 fun b hb o e=>hs9.extBut b o (nb2D b hb) e,t2,w'⟩
    exact Zp loop2 (T2.self _ 0 _ _ _ st9 loop2)
 exact codeAny_compStart_list loop (T.self _ 0 _ _ _ sat1 loop)
theorem qhH {g:TG}{tt:TT}{te:TE}
  (hc:X.calm=true) (hsc:X.env.scope=sc) (hN:X.N=N) (ok:jE sc N L scope=true)
  (hi:PI X tg iter wi) (hg:∀ cl C sa2 Ha2 fp,PG (qO X L scope cl C sa2 Ha2 fp) tg g) (hf:∀ cl C sa2 Ha2 fp,Ifs (qO X L scope cl C sa2 Ha2 fp) ifs tt) (hi2:∀ cl C sa2 Ha2 fp,PI (qO X L scope cl C sa2 Ha2 fp) tg2 iter2 wi2) (hg2:∀ cl C sa2 Ha2 fp,PG (qO X L scope cl C sa2 Ha2 fp) tg2 g2) (hf2:∀ cl C sa2 Ha2 fp,Ifs (qO X L scope cl C sa2 Ha2 fp) ifs2 tt2) (he:∀ cl C sa2 Ha2 fp,PE (qO X L scope cl C sa2 Ha2 fp) elt te)
  (hs:∀ x,foldedSetIterable iter X.env x=pure x:=by intro _;rfl) (hs2:∀ env x,foldedSetIterable iter2 env x=pure x:=by intro _ _;rfl) :
  PE X (two elt tg iter tg2 iter2 ifs ifs2 scope pos) (qiD L.length wi g tt wi2 g2 tt2 te):=by
 intro Ob s G H Q I h;obtain⟨cl,hcl,hc1,hc2⟩:=JN (env:=X.env) (scope:=scope) fun y hy hfr=>by
  refine I.ok.has y.1 ?_;have z:=(yZ ok hy).2.2 hfr;rw[<- hsc] at z;exact z
 rw[eval_ListComp];refine wpAny_comprehension_free (use:=none) rfl hs hcl (jh ok) (fun y hy hl=>((yZ ok hy).2.1 hl).1) (thn (hi Ob s G H _ I h) fun v s1 h1=>thn h1 fun itv s2 h2=>?_);obtain⟨it,fp,tn,J,H2,e,I2,T,st2,f2,hw⟩:=h2;subst e;refine qcN (RR:=fun acc C=>compPost (model X.prog X.w) X.A X.xe none (EP X Ob G Q) acc C) hc hsc hN ok hc1 hc2 hg hf hi2 hg2 hf2 he hs2 I2 T st2 f2 hw ?_;intro D C m H' s' ys hns hD hC hHC hDC J' q;refine⟨m,hns,fun h'' hs''=>⟨.ref D,upd H' D (.lst ys),?_,rfl,q⟩⟩;have hsz:=I2.sz;refine J'.turned (it:=C) (t':=s'.toks) (fun b o hb e=>hs''.extBut b o hb e) (by rw[qV (Ne.symm hDC)];exact hHC) (Ne.symm (qp (yJ I2.lt hC))) (.inr (qt hsz (yn hC))) (fun x c e=>?_) (fun p hp=>?_)
 .obtain ⟨v,z⟩:=I2.cell x c e;exact qp (yJ z.lt hC)
 .exact qp (yJ (ql (I2.pin p hp).1) hC)
end L2
namespace L2
variable {ti2:TId}{g2:TGd}{tt2:TTd}
def qju (k:Nat) (ti:TId) (g:TGd) (tt:TTd) (ti2:TId) (g2:TGd) (tt2:TTd) (te:TEd):TEd:=fun O U Q=>ti O U fun J U1=>∃ Pv:Nat->List PyData->Rho->Mu->Prop,Pv 0 [] (O++List.replicate k none) U1/\(∀ i ys O' U',i<=J.n->Pv i ys O' U'->J.ok U') ∧
 (∀ i ys O' U',i<J.n->Pv i ys O' U'->g (J.item i) O' U' fun O2 U2=>tt O2 U2 fun b U3=>if b=true then ti2 O2 U3 fun J2 U4 =>
   ∃ Pv2:Nat->List PyData->Rho->Mu->Prop,Pv2 0 ys O2 U4/\(∀ j ys O' U',j<=J2.n->Pv2 j ys O' U'->J2.ok U'/\ys.length<4000) ∧
    (∀ j ys O' U',j<J2.n->Pv2 j ys O' U'->g2 (J2.item j) O' U' fun O2 U2=>tt2 O2 U2 fun b U3=>if b=true then te O2 U3 fun y U4=>∃ z,y = .d z/\Pv2 (j+1) (ys++[z]) O2 U4 else Pv2 (j+1) ys O2 U3) ∧
    ∀ ys O' U',Pv2 J2.n ys O' U'->Pv (i+1) ys O' U'
  else Pv (i+1) ys O2 U3) ∧
 ∀ ys O' U',Pv J.n ys O' U'->Fin1 Q ys U'
theorem qhe (h:up K (qju k ti g tt ti2 g2 tt2 te) G H Q):qiD k (upI K ti) (upG K g) (upT K tt) (upI K ti2) (upG K g2) (upT K tt2) (up K te) G H Q:=by
 obtain⟨O,U,Q0,hS,hM,h,cl⟩:=h;refine⟨O,U,_,hS,hM,h,fun J0 U1 J H1 q M1 s1 sim=>?_⟩;obtain⟨Pv,h0,hok,hstep,hend⟩:=q;have S0:RelS K (O++List.replicate k none) U1 (G++List.replicate k none) H1:=by
  have S1:=hS.same s1;refine⟨by simp[S1.len],fun i e he=>?_⟩;by_cases hi:i<O.length
  .rw [qQ hi] at he;rw[qQ (by rw[<- S1.len];exact hi)];exact S1.get i e he
  .rw [q9 (by lia),yV] at he;split at he <;> cases he
 refine⟨fun i m ys G' H'=>m=J0.n - i/\i<=J0.n/\∃ ds O' U',RelS K O' U' G' H'/\RelM K U' H'/\yr (mask U1 H1) (mask U' H')/\IsAll K (mask U' H') ys ds/\Pv i ds O' U',⟨_,rfl,qZ _,[],_,U1,S0,M1,yr.refl _,.nil,h0⟩,?_⟩;rintro i m ys G' H' ⟨rfl,hi,ds,O',U',S',M',s',hA,p⟩;have sm:=sim U' H' M' s' (hok i ds O' U' hi p) i;by_cases hlt:i<J0.n
 .obtain ⟨hgo,hyl⟩:=sm.1 hlt;refine .inr ⟨hgo,fun ys2 G2 H2=>∃ ds O' U',RelS K O' U' G2 H2/\RelM K U' H2/\yr (mask U1 H1) (mask U' H2)/\IsAll K (mask U' H2) ys2 ds/\Pv (i+1) ds O' U',fun ys2 G2 H2 z=>⟨J0.n - (i+1),by lia,rfl,hlt,z⟩,fun x H2 y=>?_⟩;obtain⟨M2,s2,i2⟩:=hyl x H2 y;refine⟨_,O',U',_,i2,S'.same s2,M2,hstep i ds O' U' hlt p,fun O3 U3 G3 H3 q3 S3 M3 s3=>⟨O3,U3,_,S3,M3,q3,fun b U4 H4 q4 M4 s4=>?_⟩⟩;have st:=((s'.trans s2).trans s3).trans s4;have hA4:=IsAll.same ((s2.trans s3).trans s4) hA;cases b with
  | true =>
   refine ZO ⟨O3,U4,_,S3.same s4,M4,(by simpa using q4),fun K0 ν1 K1 Ga1 r N1 u1 sim2=>?_⟩;obtain⟨Pv2,g0,gok,gstep,gend⟩:=r;refine⟨fun j m ys G' H'=>m=K0.n - j/\j<=K0.n/\∃ ds O' U',RelS K O' U' G' H'/\RelM K U' H'/\yr (mask ν1 Ga1) (mask U' H')/\IsAll K (mask U' H') ys ds/\Pv2 j ds O' U',⟨_,rfl,qZ _,ds,O3,ν1,(S3.same s4).same u1,N1,yr.refl _,IsAll.same u1 hA4,g0⟩,?_⟩;rintro j m zs G' H' ⟨rfl,hj,es,O',U',R',M',v',hB,p2⟩;obtain⟨ok2,len2⟩:=gok j es O' U' hj p2;have sm2:=sim2 U' H' M' v' ok2 j;have hle:=hB.len;by_cases hlt2:j<K0.n
   .obtain ⟨hgo2,hyl2⟩:=sm2.1 hlt2;refine .inr ⟨hgo2,yR (by lia),fun ys2 G2 H2=>∃ ds O' U',RelS K O' U' G2 H2/\RelM K U' H2/\yr (mask ν1 Ga1) (mask U' H2)/\IsAll K (mask U' H2) ys2 ds/\Pv2 (j+1) ds O' U',fun ys2 G2 H2 z=>⟨K0.n - (j+1),by lia,rfl,hlt2,z⟩,fun x H2 y=>?_⟩;obtain⟨M2,s2,i2⟩:=hyl2 x H2 y;refine⟨_,O',U',_,i2,R'.same s2,M2,gstep j es O' U' hlt2 p2,fun O3 U3 G3 H3 q3 S3 M3 s3=>⟨O3,U3,_,S3,M3,q3,fun b U4 H4 q4 M4 s4=>?_⟩⟩;have st2:=((v'.trans s2).trans s3).trans s4;cases b with
    | true =>
     refine ZO ⟨O3,U4,_,S3.same s4,M4,(by simpa using q4),fun e U5 v H5 q5 M5 s5 i5=>?_⟩;obtain⟨z,rfl,q5⟩:=q5;exact⟨_,O3,U5,(S3.same s4).same s5,M5,st2.trans s5,IsAll.snoc i5 (IsAll.same (((s2.trans s3).trans s4).trans s5) hB),q5⟩
    | false=>exact YO ⟨_,O3,U4,S3.same s4,M4,st2,IsAll.same ((s2.trans s3).trans s4) hB,by simpa using q4⟩
   .have e:j=K0.n:=by lia
    subst e;exact .inl ⟨sm2.2 (qo _),es,O',U',R',M',(st.trans u1).trans v',hB,gend es O' U' p2⟩
  | false=>exact YO ⟨_,O3,U4,S3.same s4,M4,st,hA4,by simpa using q4⟩
 .have e:i=J0.n:=by lia
  subst e;refine .inl ⟨sm.2 (qo _),fun D hD=>?_⟩;obtain⟨M4,s4,hn⟩:=M'.laid (o:=.lst ys) hD;exact cl _ U' _ _ (hend ds O' U' p) M4 ((s1.trans s').trans s4) (.lst (SqL.of (by rw[yG hn];exact qU)) (IsAll.same s4 hA))
theorem qli
  (hc:X.calm=true) (hsc:X.env.scope=sc) (hN:X.N=N) (ok:jE sc N L scope=true)
  (hi:DI K X tg iter ti) (hg:∀ cl C sa2 Ha2 fp,DG K (qO X L scope cl C sa2 Ha2 fp) tg g) (hf:∀ cl C sa2 Ha2 fp,qjG K (qO X L scope cl C sa2 Ha2 fp) ifs tt)
  (hi2:∀ cl C sa2 Ha2 fp,DI K (qO X L scope cl C sa2 Ha2 fp) tg2 iter2 ti2) (hg2:∀ cl C sa2 Ha2 fp,DG K (qO X L scope cl C sa2 Ha2 fp) tg2 g2) (hf2:∀ cl C sa2 Ha2 fp,qjG K (qO X L scope cl C sa2 Ha2 fp) ifs2 tt2)
  (he:∀ cl C sa2 Ha2 fp,DE K (qO X L scope cl C sa2 Ha2 fp) elt te)
  (hs:∀ x,foldedSetIterable iter X.env x=pure x:=by intro _;rfl) (hs2:∀ env x,foldedSetIterable iter2 env x=pure x:=by intro _ _;rfl) :
  DE K X (.ListComp elt [⟨tg,iter,ifs,0⟩,⟨tg2,iter2,ifs2,0⟩] scope pos) (qju L.length ti g tt ti2 g2 tt2 te):=PE.mono (qhH hc hsc hN ok hi hg hf hi2 hg2 hf2 he hs hs2) fun _ _ _=>qhe
end L2
namespace L2
def vl (n p:Pt):Int:=n.1 * p.1+n.2 * p.2
def vls (n:Pt) (ps:List Pt):List Int:=ps.map fun q=>n.1 * q.1+n.2 * q.2
theorem qew (n:Pt) (ps:List Pt):(vls n ps).length=ps.length:=by unfold vls;rw[qc]
section
variable {A:List Pt}
end
end L2
namespace L2
open W
variable {us:Value}{c:Addr}
def qgM (X:Cx) (A:Around) (N:List Str) (qual:Str) (scope:Scope) (f:Addr) (cd:Value) (cl:List (Str×Addr)) (s:Shared) (H:Hp):Cx where
 prog:=X.prog
 w:=X.w
 K:=X.K
 mg:=X.mg
 base:=X.base
 A:=A.deeper (envX qual scope s.heap.objs.size f cd cl)
 N:=N
 s₀:=s
 H₀:=H
 env:=envX qual scope s.heap.objs.size f cd cl
 outer:=X.stack
 stack:=envX qual scope s.heap.objs.size f cd cl::X.stack
 ex:=[]
 calm:=true
 fn:=fun _=>false
 pn:=[]
 xe:=fun _ _=>False
structure LamSc (x y:Str) (sc:Scope):Prop where
 kind:sc.kind = .function
 co:sc.isCoroutine=false
 gen:sc.isGenerator=false
 ne:x≠y
 par:sc.names.lookup x=some .local
 fr:sc.names.lookup y=some .free
 nc:∀ z∈sc.names,z.2≠.cell
section
variable {y:Str}
theorem qkK (I:Inv X Ob G H s) (S:LamSc x y scope) (hA:A.frames=some X.stack) (hd:A.handled=none) (hc1:∀ x c,cl.lookup x=some c->X.env.cells.lookup x=some c) (hc2:∀ z∈scope.names,z.2 = .free->∃ c,cl.lookup z.1=some c)
   {vs:V}(ru:jw v u) (hy:cl.lookup y=some c) (hcell:s.heap.IsCell c (some us)) (rs:jw vs us) {hd1:Heap}{tk:Nat}
  (hns:hd1.Ns s.heap.objs.size (fun z=>[(x,u)].reverse.lookup z)) (hk:∀ b o,s.heap.get? b=some o->hd1.get? b=some o) :
  Inv (qgM X A [x,y] qual scope f cd cl s H) [] [some v,some vs] H { s with heap:=hd1,toks:=tk }:=by
 have noA:∀ b:Addr,b∉(qgM X A [x,y] qual scope f cd cl s H).ex:=fun b z=>absurd (show b∈([]:List Addr) from z) (by simp);refine⟨⟨I.ok.mod,S.kind,rfl,rfl,qo _,fun a b c h1 h2=>I.ok.inj a b c (hc1 _ _ h1) (hc1 _ _ h2),fun z hz=>?_,fun z c h _=>(by cases h),fun _=>hd,Around.frames_deeper hA,.inr ⟨rfl,rfl⟩,fun b z=>absurd z (noA b),I.bs,qt I.ok.bsz I.sz,fun b _ _=>noA b,fun b z=>absurd z (noA b),I.stack,I.stkFree⟩,
  rfl,I.bare,Un.kept hk,⟨_,hns,fun i z w h1 h2 h3=>?_⟩,fun z c h=>?_,I.hok.fresh (qo _),fun z c h=>I.freeC z c (hc1 z c h),fun p hp=>absurd (show p∈([]:List (Addr×Obj)) from hp) (by simp),I.hok.kept hk,rfl⟩
 .have hz:scope.names.lookup z=some .cell\/scope.names.lookup z=some .free:=hz;rcases hz with hz | hz
  .exact absurd rfl (S.nc _ (PySem.mem_of_lookup hz))
  .exact hc2 _ (PySem.mem_of_lookup hz) rfl
 .match i,h1,h2 with
  | 0,h1,h2 =>
   have h1:x=z:=Option.some.inj h1;have h2:v=w:=Option.some.inj (Option.some.inj h2);subst h1 h2;exact⟨u,ru,.inl ⟨S.par,by simp⟩⟩
  | 1,h1,h2 =>
   have h1:y=z:=Option.some.inj h1;have h2:vs=w:=Option.some.inj (Option.some.inj h2);subst h1 h2;refine⟨us,rs,.inr ⟨.inr S.fr,c,hy,?_⟩⟩;obtain⟨o,ho,hd⟩:=hcell;exact⟨o,hk _ _ ho,hd⟩
  | i+2,h1,h2 =>
   have h1:([x,y]:List Str)[i+2]?=some z:=h1;simp at h1
 .obtain ⟨w,o,ho,hd⟩:=I.cell z c (hc1 z c h);exact⟨w,o,hk _ _ ho,hd⟩
theorem qh2 {body:Expr}{ctv:Value}{c':Addr}{te:TE}(I:Inv X Ob G H s) (S:LamSc x y scope) (hA:A.frames=some X.stack) (hr:Room (k+1) A)
  (hc1:∀ x c,cl.lookup x=some c->X.env.cells.lookup x=some c) (hc2:∀ z∈scope.names,z.2 = .free->∃ c,cl.lookup z.1=some c)
  (ho:s.heap.get? f=some (kla_obj "<lambda>" qual params body scope cl pm c' ctv)) (hcd:s.heap.CodeRec (.ref c') qual)
  (hb:∀ u:Value,bindArgs (kla_fn "<lambda>" qual params body scope cl pm (.ref c') ctv) ⟨[u],[]⟩=pure [(x,u)])
   {vs:V}(ru:jw v u) (hy:cl.lookup y=some c) (hcell:s.heap.IsCell c (some us)) (rs:jw vs us)
  (he:Room k (A.deeper (envX qual scope s.heap.objs.size f (.ref c') cl))->PE (qgM X A [x,y] qual scope f (.ref c') cl s H) body te) (q:te [some v,some vs] H Q) :
  wpAny (model X.prog X.w) A (call (.ref f) [u]) (EP X Ob G Q) E s:=by
 refine wpAny_call ?_;refine kla_callFunE hr.depth ho rfl S.co S.gen rfl hcd ?_;rw[hb u];refine qe (wpAny_newFunctionEnv S.nc (fun z hz=>by rw[qE.mp hz];exact S.par) (fun hd1 hns hsb=>⟨I.nolimit.fresh _ hsb,?_⟩) S.kind);have hak1:∀ b o,s.heap.get? b=some o->hd1.get? b=some o:=fun b o e=>hsb.extBut b o (qp (ql e)) (qh _ e);show codeAny _ _ (.expr body (envX qual scope s.heap.objs.size f (.ref c') cl)) _ _;have J:=qkK (qual:=qual) (f:=f) (cd:=.ref c') (tk:=s.toks+1) I S hA hr.hd hc1 hc2 ru hy hcell rs hns hak1;refine kla_codeExpr (qP (he (hr.deeper _) [] _ _ H Q J q) (fun r s' hs=>?_) fun _ _ z=>z.elim);obtain⟨w,H',J',rw',q'⟩:=hs;exact I.after ⟨w,H',J'.os,J'.bare,J'.base,J'.hok,rw',q'⟩
end
end L2
namespace L2
open W
variable {c:Addr}
def qb7 (c:Addr) (q:Str):HO:=.ext fun h=>h.CodeRec (.ref c) q
theorem qik {q:Str}(r:h.CodeRec (.ref c) q):jK P w H h c (qb7 c q):=by
 refine⟨r,?_,fun h1 h2 p1 k=>?_⟩
 .obtain ⟨c',o,vs,t,e,ho,_⟩:=r;cases e
  exact⟨o,ho⟩
 .obtain ⟨c',o,vs,t,e,ho,z⟩:=p1;cases e
  exact⟨c,o,vs,t,rfl,k o ho,z⟩
def qlw (q:Str) (pos:Pos) (H:Hp) (u:HO):Prop:=∃ ps,u = .tbl ps/\(ps=#[]\/∃ c,ps=#[rawInt pos.line,rawInt pos.col,.ref c]/\H c=some (qb7 c q))
def qau (base:Heap) (mg:Str->Option Value):Prop:=∃ bm ob,mg "__builtins__" = some (.ref bm)/\bm≠builtinsNs/\base.get? bm=some ob/\ob.cls = .type "module" /\ ob.dict=some builtinsNs/\ob.data = .plain
section
variable {y:Str}{P:Addr}{body:Expr}
theorem qh1 (I:Inv X Ob G H s) (hB:qau X.base X.mg) (hC:CodeHd X.base c P) (hcode:X.env.code = .ref c) (hq:X.env.qual ++ "<lambda>" = qual) {u:HO}(hP:H P=some u) (hT:qlw qual pos H u) (hdef:defaultsOf params X.env=([],[]))
  {clos:List (Str×Addr)}(hcl:closureFor scope X.env=pure clos) {Q:Value->Shared->Prop}
  (h:∀ f c' ctv pm H' s',Inv X Ob G H' s'->s'.heap.get? f=some (kla_obj "<lambda>" qual params body scope clos pm c' ctv)->H' f=none->s.heap.objs.size<=f->H' c'=some (qb7 c' qual)->H' P=some (.tbl #[rawInt pos.line,rawInt pos.col,.ref c'])->(H c'=none\/H'=H)->(∀ b o,H b=some o->b≠P->H' b=some o)->(∀ b o,s.heap.get? b=some o->b≠P->s'.heap.get? b=some o)->Q (.ref f) s') :
  wpAny (model X.prog X.w) X.A (eval (.Lambda params body scope pos) X.env) Q X.xe s:=by
 refine kla_eval hdef ?_;rw[hq];have C:=hC.keeps I.bk;obtain⟨ps,rfl,hps⟩:=hT;have hPo:s.heap.get? P=some (tabObj ps):=I.hok P _ hP;have hg:s.heap.Ns mainGlobals X.mg:=I.ok.mod.glob.keeps I.bk;have hbP:∀ b o,X.base.get? b=some o->b≠P:=fun b o e z=>by
  have:=(I.bs b o e).2;rw[z,hP] at this;cases this
 have hgP:mainGlobals≠P:=by
  obtain⟨o,es,ep,e,_⟩:=I.ok.mod.glob;exact hbP _ _ e
 have hBA:s.heap.BuiltinsAt X.mg P:=by
  obtain⟨bm,ob,b1,b2,b3,b4,b5,b6⟩:=hB;refine⟨bm,ob,b1,b2,fun z=>?_,hbP _ _ b3,I.bk _ _ b3,b4,b5,b6⟩;obtain⟨o,es,ep,e,hd,_⟩:=I.ok.mod.glob;rw[z,e] at b3;cases b3
  rw[b6] at hd;cases hd
 rcases hps with rfl | ⟨c0,rfl,hc0⟩
 .refine kla_makeFunction (mg:=X.mg) hcl I.ok.glob hg hcode C hPo trivial rfl hgP hBA fun c' ctv h' tk hx hge hlt hrec htb=>?_;have old:∀ b o,b≠P->s.heap.get? b=some o->(h'.push (kla_obj "<lambda>" qual params body scope clos ((X.mg "__name__").getD .none) c' ctv)).get? b=some o:=fun b o hb e=>qh _ (hx b o hb e);have hcn:H c'=none:=I.hok.fresh hge;have hcP:c'≠P:=fun z=>by rw[z,hP] at hcn;cases hcn
  have htb2:(h'.push (kla_obj "<lambda>" qual params body scope clos ((X.mg "__name__").getD .none) c' ctv)).get? P=some (tabObj #[rawInt pos.line,rawInt pos.col,.ref c']):=qh _ (by simpa using htb);have hrec2:=hrec.push (kla_obj "<lambda>" qual params body scope clos ((X.mg "__name__").getD .none) c' ctv);have hsz:s.heap.objs.size<=h'.objs.size:=qt hge (yn hlt);have hf:=qA (h:=h') (o:=kla_obj "<lambda>" qual params body scope clos ((X.mg "__name__").getD .none) c' ctv) rfl;have hfP:h'.objs.size≠P:=fun z=>by
   have:=ql hPo;rw[<- z] at this;exact absurd (qT this hsz) (yz _)
  generalize h'.push (kla_obj "<lambda>" qual params body scope clos ((X.mg "__name__").getD .none) c' ctv)=h2 at *;have nc:∀ b u,H b=some u->b≠c':=fun b u e z=>by rw[z,hcn] at e;cases e
  have nP:∀ b u,H b=some u->(∀ ps,u≠.tbl ps)->b≠P:=fun b u e hu z=>by rw[z,hP] at e;cases e;exact hu _ rfl
  have at':∀ b,b≠P->b≠c'->upd (upd H P (.tbl #[rawInt pos.line,rawInt pos.col,.ref c'])) c' (qb7 c' qual) b=H b:=fun b h1 h2=>by rw[qV h2,qV h1]
  have hH':upd (upd H P (.tbl #[rawInt pos.line,rawInt pos.col,.ref c'])) c' (qb7 c' qual) P=some (.tbl #[rawInt pos.line,rawInt pos.col,.ref c']):=by rw[qV (Ne.symm hcP),qU]
  have J:Inv X Ob G (upd (upd H P (.tbl #[rawInt pos.line,rawInt pos.col,.ref c'])) c' (qb7 c' qual)) { s with heap:=h2,toks:=tk }:=by
   refine I.un ⟨fun b o e n _ _=>old b o (fun z=>by rw[z,hP] at n;cases n) e,fun b o e n _ _=>⟨o.slots,old b o (fun z=>by rw[z,hP] at n;cases n) e⟩,fun b o e n _=>?_,fun b o e _=>?_,fun b xs e=>?_,fun b o u e=>?_,fun b ps e=>?_⟩ fun b u e=>?_
   .rw [at' b (fun z=>by rw[z,hP] at n;cases n) (fun z=>?_)]
    .exact n
    .have:=ql e;rw[z] at this;exact absurd (qT this hge) (yz _)
   .by_cases z:b=P
    .rw [z];exact⟨_,htb2⟩
    .exact ⟨o,old b o z e⟩
   .rw [at' b (nP b _ e fun _ z=>by cases z) (nc b _ e)];exact e
   .rw [at' b (nP b _ e fun _ z=>by cases z) (nc b _ e)];exact e
   .by_cases z:b=P
    .subst z;rw[hP] at e;cases e
     exact⟨#[rawInt pos.line,rawInt pos.col,.ref c'],by rw[hH'];simp⟩
    .exact ⟨#[],by rw[at' b z (nc b _ e),e];simp⟩
   .by_cases z1:b=c'
    .subst z1;rw[qU] at e;cases e
     exact qik hrec2
    .by_cases z2:b=P
     .subst z2;rw[hH'] at e;cases e
      exact htb2
     .rw [at' b z2 z1] at e;refine (I.hok b u e).stay (fun d v hd q=>old d v (fun z=>?_) q) (fun d q=>?_) fun d xs q=>?_
      .rcases hd with hd | hd
       .exact z2 (hd.symm.trans z)
       .rw [z,hP] at hd;cases hd
      .rw [at' d (nP d _ q fun _ z=>by cases z) (nc d _ q)];exact q
      .rw [at' d (nP d _ q fun _ z=>by cases z) (nc d _ q)];exact q
  refine h _ c' ctv _ _ _ J hf ?_ hsz qU hH' (.inl hcn) (fun b o e hb=>?_) (fun b o e hb=>old b o hb e)
  .rw [at' _ hfP (Nat.ne_of_gt hlt)];exact I.hok.fresh hsz
  .rw [at' b hb (nc b o e)];exact e
 .have ht:TriplesOk (#[rawInt pos.line,rawInt pos.col,Value.ref c0]).toList:=trivial;refine kla_makeFunctionHit (mg:=X.mg) (cv:=.ref c0) hcl I.ok.glob hg hcode C hPo ht (by simp[codeAmong,rawInt]) hBA fun ctv h' tk hk hsz=>?_;have J:Inv X Ob G H { s with heap:=h'.push (kla_obj "<lambda>" qual params body scope clos ((X.mg "__name__").getD .none) c0 ctv),toks:=tk }:=I.kept fun b o e=>qh _ (hk b o e);exact h _ c0 ctv _ H _ J (qA _ rfl) (I.hok.fresh hsz) hsz hc0 hP (.inr rfl) (fun _ _ e _=>e) fun b o e _=>qh _ (hk b o e)
end
end L2
namespace L2
open W
variable {D kS:Addr}{T:List V->Hp->Prop}{P:PySem.Fin->Shared->Prop}{e1:Nat}
theorem Inv.adopt {o:HO}(I:Inv X Ob G H s) (F:YC X Ob H a) (k:∀ b u,b≠a->s.heap.get? b=some u->h'.get? b=some u) (new:jK X.prog X.w (upd H a o) h' a o):Inv X Ob G (upd H a o) { s with heap:=h',toks:=t' }:=by
 have hn:H a=none:=F.1;have nch:∀ b,b∉[a]->b≠a:=fun b hc z=>hc (by simp[z]);refine I.step (g':=s.gens) (d':=s.drawn) (ch:=[a]) (fun b hb=>?_) (fun b u _ _ hc e _=>k b u (nch b hc) e) (fun b u _ _ hc e _=>⟨u.slots,k b u (nch b hc) e⟩) (fun b u hc e n=>by rw[qV (nch b hc)];exact n)
  (fun b u hc e=>⟨u,k b u (nch b hc) e⟩) (fun b xs e=>by rw[qV (qM e hn)];exact e) (fun b u v e=>by rw[qV (qM e hn)];exact e) (fun b ps e=>⟨#[],by rw[qV (qM e hn),e];simp⟩) (fun m hm=>?_) (fun b u e=>?_) I.bare
 .rw [qE.mp hb];obtain⟨_,f1,_,f3,f4,f5⟩:=F;exact⟨f3,f1,f4,f5⟩
 .obtain ⟨u,es,ep,ho,r⟩:=hm;exact⟨u,es,ep,k _ u (Ne.symm F.2.1) ho,r⟩
 .by_cases hb:b=a
  .subst hb;rw[qU] at e;cases e;exact new
  .rw [qV hb] at e;refine (I.hok b u e).stay (fun c v hc q=>k c v ?_ q) (fun c q=>by rw[qV (qM q hn)];exact q) fun c xs q=>by rw[qV (qM q hn)];exact q
   rcases hc with z | z
   .rw [z];exact hb
   .exact qM z hn
theorem Inv.pin1 (I:Inv X Ob G H s) {o:Obj}(F:YC X Ob H b) (e:s.heap.get? b=some o) (hd:∀ v,o.data≠.cell v):Inv X (Ob++[(b,o)]) G H s :=
 I.pins_of fun p hp=>(qB.mp hp).elim (fun z=>I.pin p (qg _ z)) fun z=>by rw[qE.mp z];exact⟨e,F.1,F.2.1,F.2.2.1,hd⟩
theorem Inv.turn1 (I:Inv X Ob G H s) (F:YC X Ob H a) (k:∀ b o,b≠a->s.heap.get? b=some o->h'.get? b=some o):Inv X Ob G H { s with heap:=h',toks:=t' } :=
 I.turned k F.1 F.2.1 F.2.2.2.1 F.2.2.2.2.1 F.2.2.2.2.2
theorem YC.at (F:YC X Ob H a) (h:H' a=none):YC X Ob H' a:=⟨h,F.2⟩
theorem qkM {e2:Nat}
  (F1:YC X Ob H D) (F2:YC X Ob H kS) (hne:D≠kS) (I:Inv X Ob G H s) (hD:s.heap.get? D=some (seqObj "list" #[] e1)) (hk:s.heap.get? kS=some (seqObj "list" #[] e2)) (rv:yN vs its) (hl:vs.length<4900) (t0:T [] H)
  (turn:∀ ks H1 s1 v u pl,Inv X (Ob++pl) G H1 s1->T ks H1->vs[ks.length]?=some v->jw v u->wpAny (model X.prog X.w) A (call (.ref f) [u]) (EP X (Ob++pl) G fun w H2=>T (ks++[w]) H2) (fun _ _=>False) s1)
  (fin:∀ ks H1 s1 kA e,Inv X Ob G H1 s1->s1.heap.get? D=some (seqObj "list" #[] e1)->s1.heap.get? kS=some (seqObj "list" kA e)->H1 D=none->H1 kS=none->yN ks kA.toList->ks.length=vs.length->T ks H1->wpAny (model X.prog X.w) A (ksk_end D false its.toArray e1 (.ref kS) kA) P E s1) :
  wpAny (model X.prog X.w) A (ksk_rest D (.ref f) false its.toArray e1 (.ref kS)) P E s:=by
 unfold ksk_rest;refine qa (j6 ?_);first
  | rw[List.forIn_toArray]
  | (rw[<- Array.forIn_toList];simp only[List.toList_toArray])
  | rw[<- Array.forIn_toList]
 have hlen:=rv.length;refine qa (ksk_fold (fun i s'=>∃ H1 ks kA e,Inv X Ob G H1 s'/\s'.heap.get? D=some (seqObj "list" #[] e1)/\s'.heap.get? kS=some (seqObj "list" kA e)/\H1 D=none/\H1 kS=none/\yN ks kA.toList/\ks.length=i/\T ks H1) its 0 s
  ⟨H,[],#[],e2,I,hD,hk,F1.1,F2.1,.nil,rfl,t0⟩ ?step ?done)
 case step =>
  rintro j x s' hx ⟨H1,ks,kA,e,J,j1,j2,n1,n2,r1,l1,t1⟩;simp only[Nat.zero_add] at l1 ⊢;have hj:j<its.length:=(qm.mp hx).1;obtain⟨v,hv⟩:∃ v,vs[j]?=some v:=⟨_,qf (by lia)⟩;obtain⟨u,e3,rx⟩:=yN.get rv hv;rw[hx] at e3;cases e3
  have J1:=J.pin1 (F1.at n1) j1 (fun v z=>by cases z);have F2':YC X (Ob++[(D,seqObj "list" #[] e1)]) H1 kS:=by
   refine⟨n2,F2.2.1,F2.2.2.1,F2.2.2.2.1,F2.2.2.2.2.1,fun p hp=>?_⟩;rw[<- qu] at hp;rcases qB.mp hp with hp | hp
   .exact F2.2.2.2.2.2 p hp
   .rw [qE.mp hp];exact hne
  have J2:=J1.pin1 F2' j2 (fun v z=>by cases z);rw[qu] at J2;refine qa (wpAny_attempt (qP (turn ks H1 s' v x _ J2 t1 (by rw[l1];exact hv) rx) (fun w s2 h2=>?_) fun _ _ z=>z.elim));obtain⟨y,H2,J3,ry,t2⟩:=h2
  try dsimp only
  have p1:=J3.pin (D,seqObj "list" #[] e1) (by simp);have p2:=J3.pin (kS,seqObj "list" kA e) (by simp);have J4:=J3.unpinned;have hz:kA.size=j:=by rw[<- qD,<- yN.length r1,l1]
  obtain⟨c2,hc2⟩:∃ c2,(s2.heap.update kS (Obj.mapSeq (·.push w))).get? kS=some (seqObj "list" (kA.push w) c2):=⟨_,get?_update_seq p2.1 (·.push w)⟩;refine qa (listUpdate_at p2.1 rfl ?_ (by rw[sizeLine_eq];lia) (qt (Nat.le_of_eq (Array.size_push ..)) (by rw[sizeLine_eq];lia)));refine qe ⟨rfl,H2,ks++[y],kA.push w,c2,J4.turn1 (t':=s2.toks) (F2.at p2.2.1) (fun b o hb q=>by rw[ju _ _ _ _ hb];exact q),?_,hc2,p1.2.1,p2.2.1,?_,by rw[qv,l1];rfl,t2⟩
  .show (s2.heap.update kS _).get? D=_;rw[ju _ _ _ _ hne];exact p1.1
  .rw [jd];exact r1.append (.cons ry .nil)
 case done =>
  rintro s' ⟨H1,ks,kA,e,J,j1,j2,n1,n2,r1,l1,t1⟩
  try dsimp only
  refine qa (listItems_at j2 rfl ?_);exact fin ks H1 s' kA e J j1 j2 n1 n2 r1 (by lia) t1
theorem qch : ∀ {ka its:List Value}{kss:List (List Int)}{vs:List V},PySem.Paired (jl h) ka kss->yN vs its->∃ L:List ((Value×Value)×(List Int×V)),ka.zip its=L.map (·.1)/\kss.zip vs=L.map (·.2)/\∀ t∈L,jl h t.1.1 t.2.1/\jw t.2.2 t.1.2
 | _,_,_,_,.nil,_=>⟨[],rfl,rfl,fun _ z=>nomatch z⟩
 | _,_,_,_,.cons _ _,.nil=>⟨[],rfl,rfl,fun _ z=>nomatch z⟩
 | a::ka,u::its,k::kss,v::vs,.cons r1 t1,.cons r2 t2=>by
  obtain⟨L,e1,e2,e3⟩:=qch t1 t2;refine⟨((a,u),(k,v))::L,by simp[e1],by simp[e2],fun t ht=>?_⟩;rcases qG.mp ht with rfl | ht
  .exact ⟨r1,r2⟩
  .exact e3 t ht
theorem qcZ (f:α->V) (g:α->Value):∀ (L:List α),(∀ t∈L,jw (f t) (g t))->yN (L.map f) (L.map g)
 | [],_=>.nil
 | a::L,h=>.cons (h a qi) (qcZ f g L fun t ht=>h t (qd _ ht))
theorem qdX {ka:List Value}(hT:PySem.Paired (jl h) ka kss) (rv:yN vs its) {xs:List Keyed}(hp:xs.Perm (ka.zip its)) (hs:SdK (kfF h) xs) :
  ∃ ps:List (List Int×V),ps.Perm (kss.zip vs)/\(ps.Pairwise fun a b=>¬ b.1<a.1)/\yN (ps.map (·.2)) (xs.map (·.2)):=by
 obtain⟨L,e1,e2,e3⟩:=qch hT rv;obtain⟨l,p1,p2⟩:=ZJ (fun t:(Value×Value)×(List Int×V)=>t.1) hp e1;have hr:∀ t∈l,jl h t.1.1 t.2.1/\jw t.2.2 t.1.2:=fun t ht=>e3 t (p1.mem_iff.mp ht);refine⟨l.map (·.2),by rw[e2];exact p1.map _,?_,?_⟩
 .rw [jc];unfold SdK at hs;rw[p2,jc] at hs;refine hs.imp_of_mem fun {a b} ha hb z=>?_;have:=of_decide_eq_false z;rw[qgb (hr a ha).1,qgb (hr b hb).1] at this;exact this
 .rw [p2,y6,y6];exact qcZ _ _ l fun t ht=>(hr t ht).2
theorem qnd {ks:List V}{kA:Array Value}{e:Nat}
  (F1:YC X Ob H D) (F2:YC X Ob H kS) (hne:D≠kS) (I:Inv X Ob G H s) (hD:s.heap.get? D=some (seqObj "list" #[] e1)) (hk:s.heap.get? kS=some (seqObj "list" kA e)) (rv:yN vs its) (hl:vs.length<4900) (rk:yN ks kA.toList) (hkl:ks.length=vs.length) (hT:PySem.Paired (Y5 X.K H) ks kss)
  (fin:∀ ps:List (List Int×V),ps.Perm (kss.zip vs)->(ps.Pairwise fun a b=>¬ b.1<a.1)->∀ s',Inv X Ob G (upd H D (.lst (ps.map (·.2)))) s'->P (.done (.ret .none)) s') :
  wpAny (model X.prog X.w) A (ksk_end D false its.toArray e1 (.ref kS) kA) P E s:=by
 have hK:=I.tupsK hT rk;have hlen:=rv.length;have hsz:kA.size=its.length:=by rw[<- qD,<- yN.length rk,hkl,hlen]
 have hzs:(kA.zip its.toArray).size=its.length:=by rw[Array.size_zip,hsz,qz,Nat.min_self]
 have tail:∀ st:SortSt,(arrOf st).Perm (kA.zip its.toArray)->SdK (kfF s.heap) (arrOf st).toList->failedOf st=none->wpAny (model X.prog X.w) A (ksk_tail D false e1 (.ref kS) st) P E s:=by
  intro st hp hs hfl;have hp2:(arrOf st).toList.Perm (kA.toList.zip its):=by rw[<- ksk_zip];exact y7.mp hp
  obtain⟨ps,q1,q2,q3⟩:=qdX hK rv hp2 hs;have hsz2:(arrOf st).size=its.length:=by rw[hp.size_eq,hzs]
  unfold ksk_tail
  try dsimp only
  have na1:(s.heap.update kS (Obj.mapSeq fun _=>(#[]:Array Value))).get? D=some (seqObj "list" #[] e1):=by rw[ju _ _ _ _ hne];exact hD
  obtain⟨c2,hc2⟩:∃ c2,((s.heap.update kS (Obj.mapSeq fun _=>(#[]:Array Value))).update D (Obj.mapSeq fun _=>(arrOf st).map (·.2))).get? D=some (seqObj "list" ((arrOf st).map (·.2)) c2) :=
   ⟨_,get?_update_seq na1 fun _=>(arrOf st).map (·.2)⟩
  refine qa (listUpdate_at hk rfl ?_ (by rw[hsz,sizeLine_eq];lia) (qZ _));refine qa (wpAny_letGo ?_);refine qa (seqEpoch_at na1 rfl ?_);simp only[qk,if_false];refine qa (listUpdate_at na1 rfl ?_ (qZ _) (by rw[Array.size_map,hsz2,sizeLine_eq];lia));rw[hfl];simp only[bne_self_eq_false,qk,if_false];have I1:=I.turn1 (t':=s.toks) (h':=s.heap.update kS (Obj.mapSeq fun _=>(#[]:Array Value))) F2 fun b o hb q=>by rw[ju _ _ _ _ hb];exact q
  refine qe (fin ps q1 q2 _ (I1.adopt (t':=s.toks) F1 (fun b o hb q=>by rw[ju _ _ _ _ hb];exact q) ⟨?_,((arrOf st).map (·.2)).toList,c2,?_,by rw[Array.toArray_toList];exact hc2⟩))
  .rw [qc,q1.length_eq,List.length_zip,sizeLine_eq];lia
  .rw [Array.toList_map];exact q3
 unfold ksk_end
 try dsimp only
 simp only[qk,if_false];by_cases h2:its.toArray.size<2
 .rw [if_pos h2,if_pos h2];refine qa (qe ?_);rw[StateT.run_pure];refine qa (qe ?_)
  try dsimp only
  refine tail (SortSt.mk' general' (kA.zip its.toArray) #[] 7 none) (Array.Perm.refl _) ?_ rfl;rw[qz] at h2;have:(kA.zip its.toArray).toList.length<2:=by rw[qD,hzs];exact h2
  show SdK (kfF s.heap) (kA.zip its.toArray).toList;generalize (kA.zip its.toArray).toList=zs at this;match zs,this with
  | [],_=>exact .nil
  | [a],_=>exact List.pairwise_singleton _ _
  | _::_::_,h=>exact absurd h (by simp)
 .rw [if_neg h2,if_neg h2];rw[qz] at h2;have ek:kA=kA.toList.toArray:=by simp
  have kd:=qga (prog:=X.prog) (w:=X.w) (A:=A) (E:=E) (Q:=fun k s'=>k=tuples' true/\s'=s) hK (by rw[qD,hsz];lia) ⟨rfl,rfl⟩;rw[<- ek] at kd;refine qa (qP kd (fun k s' h=>?_) fun _ _ z=>z);obtain⟨rfl,rfl⟩:=h;have hD6:∀ x∈(kA.zip its.toArray).toList,∃ ks,jl s'.heap x.1 ks:=fun x hx=>by
   rw[ksk_zip] at hx;obtain⟨L,e1,e2,e3⟩:=qch hK rv;rw[e1] at hx;obtain⟨t,ht,rfl⟩:=qF.mp hx;exact⟨_,(e3 t ht).1⟩
  have run:=ZU (prog:=X.prog) (w:=X.w) (A:=A) (E:=E) (s:=s') (st:=SortSt.mk' (tuples' true) (kA.zip its.toArray) #[] 7 none) (a0:=kA.zip its.toArray)
   (Q:=fun _ st'=>(arrOf st').Perm (kA.zip its.toArray)/\SdK (kfF s'.heap) (arrOf st').toList/\failedOf st'=none)
   (qdI (s:=s')) (qje s'.heap) rfl rfl rfl rfl hD6 (by rw[hzs];lia) (fun st' hp hf hs=>⟨hp,hs,hf⟩)
  refine qa (qP (show wpAny (model X.prog X.w) A (sortRuns'.run _) _ E _ from run) ?_ fun _ _ e=>e);rintro⟨⟨⟩,st'⟩ s'' ⟨rfl,hp,hs,hf⟩;exact tail st' hp hs hf
theorem qdU {l:Addr}(I:Inv X Ob G H s) (hL:s.heap.IsList l its.toArray) (rv:yN vs its) (hl:vs.length<4900) (t0:T [] H)
  (turn:∀ ks H1 s1 v u pl,Inv X (Ob++pl) G H1 s1->T ks H1->vs[ks.length]?=some v->jw v u->wpAny (model X.prog X.w) X.A.in1.in1 (call (.ref f) [u]) (EP X (Ob++pl) G fun w H2=>T (ks++[w]) H2) (fun _ _=>False) s1)
  (fin:∀ ks H1,ks.length=vs.length->T ks H1->∃ kss,PySem.Paired (Y5 X.K H1) ks kss/\∀ (D:Addr) (ps:List (List Int×V)),H1 D=none->ps.Perm (kss.zip vs)->(ps.Pairwise fun a b=>¬ b.1<a.1)->Q (.ref D) (upd H1 D (.lst (ps.map (·.2))))) :
  wpAny (model X.prog X.w) X.A (call (.builtin "sorted") [.ref l] [(Str.ofString "key",.ref f)]) (EP X Ob G Q) E s:=by
 have hlen:=rv.length;refine call_function_entry_kw kind_sorted plain_sorted entry_sorted (ksk_s1 _ _) ?_;unfold Builtin.«sorted»;refine qa (m:=checkCount "sorted" 1 1 _) (qe ?_);refine qa (collect_list hL ?_ (by rw[sizeLine_eq];lia));refine qa (wpAny_newList ?_ (by rw[sizeLine_eq];lia));have hsz:((s.heap.push (seqObj "list" #[] 0)).update s.heap.objs.size (Obj.mapSeq (·++its.toArray))).objs.size=s.heap.objs.size+1:=by rw[Heap.size_update,size_push']
 have hoL:(((s.heap.push (seqObj "list" #[] 0)).update s.heap.objs.size (Obj.mapSeq (·++its.toArray))).push (seqObj "list" its.toArray 0)).get? (s.heap.objs.size+1)=some (seqObj "list" its.toArray 0):=by rw[<- hsz];exact qA _ rfl
 have keep:∀ b o,s.heap.get? b=some o->(((s.heap.push (seqObj "list" #[] 0)).update s.heap.objs.size (Obj.mapSeq (·++its.toArray))).push (seqObj "list" its.toArray 0)).get? b=some o:=fun b o q=>by
  have hlt:b<s.heap.objs.size:=ql q;rw[Heap.get?_push_ne _ _ _ (by rw[hsz];exact qp (Nat.lt_succ_of_lt hlt)),ju _ _ _ _ (qp hlt),Heap.get?_push_ne _ _ _ (qp hlt)];exact q
 have hsz2:(((s.heap.push (seqObj "list" #[] 0)).update s.heap.objs.size (Obj.mapSeq (·++its.toArray))).push (seqObj "list" its.toArray 0)).objs.size=s.heap.objs.size+2:=by rw[size_push',hsz]
 show wpAny _ _ _ _ _ { s with heap:=((s.heap.push (seqObj "list" #[] 0)).update s.heap.objs.size (Obj.mapSeq (·++its.toArray))).push (seqObj "list" its.toArray 0) };rw[hsz];generalize ((s.heap.push (seqObj "list" #[] 0)).update s.heap.objs.size (Obj.mapSeq (·++its.toArray))).push (seqObj "list" its.toArray 0)=h1 at *;have I1:Inv X Ob G H { s with heap:=h1 }:=I.kept (t':=s.toks) keep;have FD:YC X Ob H (s.heap.objs.size+1):=I.fpOk (Nat.le_succ _) (I.hok.fresh (Nat.le_succ _));refine qa (yf (wpAny_call_entry_kw slot_list_sort ⟨_,hoL,rfl⟩ entry_list_sort ?body (ksk_l1 _ _)));case body =>
  show wpAny (model X.prog X.w) X.A.in1.in1 (Builtin.«list.sort» ⟨[.ref (s.heap.objs.size+1)],[(Str.ofString "key",.ref f)]⟩) _ _ _;rw[ksk_t1];obtain⟨e1,ho1⟩:∃ e1,(h1.update (s.heap.objs.size+1) (Obj.mapSeq fun _=>(#[]:Array Value))).get? (s.heap.objs.size+1)=some (seqObj "list" #[] e1):=⟨_,get?_update_seq hoL fun _=>#[]⟩;have I2:=I1.turn1 (t':=s.toks) (h':=h1.update (s.heap.objs.size+1) (Obj.mapSeq fun _=>(#[]:Array Value))) FD fun b o hb q=>by rw[ju _ _ _ _ hb];exact q
  have z2:(h1.update (s.heap.objs.size+1) (Obj.mapSeq fun _=>(#[]:Array Value))).objs.size=s.heap.objs.size+2:=by rw[Heap.size_update,hsz2]
  unfold ksk_tree;refine qa (listItems_at hoL rfl ?_);refine qa (listUpdate_at hoL rfl ?_ (by rw[qz,sizeLine_eq];lia) (qZ _));refine qa (seqEpoch_at ho1 rfl ?_);refine qa (wpAny_newTuple ?_ (by show its.length<=_;rw[sizeLine_eq];lia));refine qa (wpAny_newList ?_ (qZ _));refine yf ?_;generalize h1.update (s.heap.objs.size+1) (Obj.mapSeq fun _=>(#[]:Array Value))=h2 at *;have z3:(h2.push (seqObj "tuple" its.toArray 0)).objs.size=s.heap.objs.size+3:=by rw[size_push',z2]
  have k3:∀ b o,h2.get? b=some o->((h2.push (seqObj "tuple" its.toArray 0)).push (seqObj "list" #[] 0)).get? b=some o:=fun b o q=>qh _ (qh _ q);have hkS:((h2.push (seqObj "tuple" its.toArray 0)).push (seqObj "list" #[] 0)).get? (s.heap.objs.size+3)=some (seqObj "list" #[] 0):=by rw[<- z3];exact qA _ rfl
  have I3:Inv X Ob G H { s with heap:=(h2.push (seqObj "tuple" its.toArray 0)).push (seqObj "list" #[] 0) }:=I2.kept (t':=s.toks) k3;have FK:YC X Ob H (s.heap.objs.size+3):=I.fpOk (Nat.le_add_right _ 3) (I.hok.fresh (Nat.le_add_right _ 3));have hne:s.heap.objs.size+1≠s.heap.objs.size+3:=by lia
  show wpAny (model X.prog X.w) X.A.in1.in1 (ksk_rest (s.heap.objs.size+1) (.ref f) false its.toArray e1 (.ref (h2.push (seqObj "tuple" its.toArray 0)).objs.size)) _ _ { s with heap:=(h2.push (seqObj "tuple" its.toArray 0)).push (seqObj "list" #[] 0) };rw[z3];refine qkM (T:=T) FD FK hne I3 (k3 _ _ ho1) hkS rv hl t0 turn fun ks H1 s1 kA e J j1 j2 n1 n2 r1 l1 t1=>?_;obtain⟨kss,hT,q⟩:=fin ks H1 l1 t1;refine qnd (FD.at n1) (FK.at n2) hne J j1 j2 rv hl r1 l1 hT fun ps p1 p2 s' J'=>⟨_,rfl,?_⟩;exact qe ⟨_,rfl,.ref (s.heap.objs.size+1),_,J',rfl,q _ ps n1 p1 p2⟩
end L2
namespace L2
open W
variable {body:Expr}{P c:Addr}
def tabC (pos:Pos) (c:Addr):HO:=.tbl #[rawInt pos.line,rawInt pos.col,.ref c]
def qiA (K:W.Frag) (P:Addr) (qual:Str) (lp:Pos) (i:Nat) (tl te:TE):TE:=fun G H Q=>tl G H fun v H1=>∃ l us y u,v = .ref l/\SqL K H1 l us/\us.length<4900/\G[i]?=some (some y)/\H1 P=some u/\qlw qual lp H1 u ∧
 ∀ H2 c',(∀ b o,H1 b=some o->b≠P->H2 b=some o)->H2 P=some (tabC lp c')->H2 c'=some (qb7 c' qual)->(H1 c'=none\/H2=H1) →
  ∃ T:List V->Hp->Prop,T [] H2/\(∀ ks H3,T ks H3->H3 c'=some (qb7 c' qual))/\(∀ ks H3 v,T ks H3->us[ks.length]?=some v->te [some v,some y] H3 fun w H4=>T (ks++[w]) H4) ∧
   ∀ ks H3,ks.length=us.length->T ks H3->∃ kss,PySem.Paired (Y5 K H3) ks kss/\∀ (D:Addr) (ps:List (List Int×V)),H3 D=none->ps.Perm (kss.zip us)->(ps.Pairwise fun a b=>¬ b.1<a.1)->Q (.ref D) (upd H3 D (.lst (ps.map (·.2))))
section
variable {y:Str}{le:Expr}{lp p:Pos}{te:TE}
theorem qhD (hB:qau X.base X.mg) (hC:CodeHd X.base c P) (hcode:X.env.code = .ref c) (hq:X.env.qual ++ "<lambda>" = qual) (hdef:defaultsOf params X.env=([],[])) (S:LamSc x y scope) (hyf:∀ z∈scope.names,z.2 = .free->z.1=y)
  (hyX:X.env.scope.names.lookup y=some .cell) (hN:X.N[i]?=some y) (hg:Gl X "sorted") (hm:X.mg "sorted" = none) (hr:Room (k+1) X.A.in1.in1)
  (hb:∀ (clos:List (Str×Addr)) (pm cd ctv u:Value),bindArgs (kla_fn "<lambda>" qual params body scope clos pm cd ctv) ⟨[u],[]⟩=pure [(x,u)])
  (hl:PE X le tl) (he:∀ f c' cl s H,Room k (X.A.in1.in1.deeper (envX qual scope s.heap.objs.size f (.ref c') cl))->PE (qgM X X.A.in1.in1 [x,y] qual scope f (.ref c') cl s H) body te)
  (hs1:starEach [le] X.env=(false,eval le X.env)::starEach [] X.env:=by rfl) :
  PE X (.Call (.Name "sorted" p) [le] [⟨some "key",.Lambda params body scope lp,kp⟩] p') (qiA X.K P qual lp i tl te):=by
 intro Ob s G H Q I h;obtain⟨cl,hcl,hc1,hc2⟩:=JN (env:=X.env) (scope:=scope) fun z hz hfr=>by
  rw[hyf z hz hfr];exact I.ok.has y (.inl hyX)
 refine JQ (qad I hg hm qap (callWith_kw ?_ (by rw[hs1];rfl) (by rw[hs1];rfl)));have sp:backTo p' (starEach [le] X.env)=(false,eval le X.env)::backTo p' (starEach [] X.env):=by rw[hs1];rfl
 rw[sp];refine Calls.spliced_cons (thn (hl Ob s G H _ I h) fun u s1 ⟨v,H1,I1,r1,q1⟩=>Calls.spliced_nil ?_);obtain⟨l,us,yv,tb,rfl,hS,hz,hU,hP,hT,q⟩:=q1;cases r1
 refine kws_cons (qh1 I1 hB hC hcode hq hP hT hdef hcl fun f c' ctv pm H2 s2 I2 hf hfn hfz hc' hP' hor hk1 hk2=>kws_nil ?_);obtain⟨T,t0,tc,ts,tf⟩:=q H2 c' hk1 hP' hc' hor;have hSP:∀ us,SqL X.K H1 l us->SqL X.K H2 l us:=fun us z=>by
  have nl:∀ o,H1 l=some o->(∀ ps,o≠.tbl ps)->l≠P:=fun o e hu z=>by
   obtain⟨ps,e2,_⟩:=hT;rw[z,hP,e2] at e;cases e
   exact hu ps rfl
  rcases z with (e | ⟨o,e⟩) | e
  .exact .inl (.inl (hk1 _ _ e (nl _ e fun _ z=>by cases z)))
  .exact .inl (.inr ⟨o,hk1 _ _ e (nl _ e fun _ z=>by cases z)⟩)
  .exact .inr e
 obtain⟨its,rv,pl,_⟩:=I2.list (hSP us hS);have Ff:YC X Ob H2 f:=I1.fpOk hfz hfn;have I3:=I2.pin1 Ff hf (fun v z=>by cases z);refine qP (qdU (T:=T) (Q:=Q) (E:=X.xe) I3 pl.isList rv hz t0 (fun ks H3 s3 v u pl2 J t3 hv rvu=>?_) tf) (fun r s4 h4=>?_) fun _ _ z=>z
 .have fo:=(J.pin (f,kla_obj "<lambda>" qual params body scope cl pm c' ctv) (by simp)).1;obtain⟨m,hns,hlk⟩:=id J.loc;obtain⟨uy,ry,lk⟩:=hlk i y yv hN hU (.inr (.inl hyX));obtain⟨cy,hcy,hcell⟩:∃ cy,cl.lookup y=some cy/\s3.heap.IsCell cy (some uy):=by
   obtain⟨cy,e⟩:=hc2 (y,.free) (PySem.mem_of_lookup S.fr) rfl;refine⟨cy,e,?_⟩;rcases lk with⟨z,_⟩ | ⟨_,c2,e2,z⟩
   .have z:X.env.scope.names.lookup y=some .local:=z;rw[hyX] at z;cases z
   .rw [hc1 _ _ e] at e2;cases e2
    exact z
  have hcd:s3.heap.CodeRec (.ref c') qual:=(J.hok c' _ (tc ks H3 t3)).1;exact qh2 (A:=X.A.in1.in1) J S J.ok.frames hr hc1 hc2 fo hcd (fun u=>hb cl pm (.ref c') ctv u) rvu hcy hcell ry (fun rm=>he f c' cl s3 H3 rm) (ts ks H3 v t3 hv)
 .obtain ⟨w,H',J,rw',qw⟩:=h4;exact⟨w,H',J.unpinned,rw',qw⟩
end
def ZX (q:Str) (pos:Pos):MSt where
 R:=qlw q pos
 st:=fun H H' u s ⟨ps,e,h⟩=>⟨ps,e,h.imp id fun ⟨c,e,h⟩=>⟨c,e,s _ _ h⟩⟩
 nt:=fun H u xs ⟨ps,e,_⟩ z=>by rw[e] at z;cases z
 ml:=fun H H' a xs u ha k ⟨ps,e,h⟩=>⟨ps,e,h.imp id fun ⟨c,e,h⟩=>⟨c,e,k _ _ h fun z=>by rw[z,ha] at h;cases h⟩⟩
def qjs (P:Addr) (q:Str) (pos:Pos) (i:Nat) (tl te:TEd):TEd:=fun O U Q=>tl O U fun e U1=>∃ (zs:List (List Int)) (g:En) (key:List Int->List Int),LstOf U1 e (zs.map JC)/\zs.length<4900/\O[i]?=some (some g)/\(P,MO.any (ZX q pos))∈U1/\(∀ z,key z≠[]) ∧
 (∀ z∈zs,te [some (.d (JC z)),some g] U1 fun w U2=>U2=U1/\w = .d (JC (key z))) ∧
 ∀ ps:List (List Int),ps.Perm zs->(ps.Pairwise fun a b=>¬ key b<key a)->Q (.d (.list (ps.map JC))) U1
theorem Z8 {F:α->β->Prop}{a:α}{b:β}(h:F a b):∀ {l:List α}{m:List β},PySem.Paired F l m->PySem.Paired F (l++[a]) (m++[b])
 | _,_,.nil=>.cons h .nil
 | _,_,.cons x t=>.cons x (Z8 h t)
theorem IsAll.getA {zs:List (List Int)}(h:IsAll K H vs (zs.map JC)) (e:vs[j]?=some v):∃ z,zs[j]?=some z/\Is K H v (JC z):=by
 obtain⟨d,e1,e2⟩:=h.get e;rw[qK] at e1;cases q:zs[j]? with
 | none=>rw[q] at e1;cases e1
 | some z=>rw[q] at e1;cases e1;exact⟨z,rfl,e2⟩
theorem qcW {key:List Int->List Int}:∀ {zs:List (List Int)}{us:List V},IsAll K H us (zs.map JC)->∃ L:List (List Int×V),(zs.map key).zip us=L.map (fun t=>(key t.1,t.2))/\L.map (·.1)=zs/\∀ t∈L,Is K H t.2 (JC t.1)
 | [],_,.nil=>⟨[],rfl,rfl,fun _ z=>nomatch z⟩
 | z::zs,u::us,.cons r t=>by
  obtain⟨L,e1,e2,e3⟩:=qcW (key:=key) t;refine⟨(z,u)::L,by simp[e1],by simp[e2],fun t ht=>?_⟩;rcases qG.mp ht with rfl | ht
  .exact r
  .exact e3 t ht
theorem qbT : ∀ {L:List (List Int×V)},(∀ t∈L,Is K H t.2 (JC t.1))->IsAll K H (L.map (·.2)) ((L.map (·.1)).map JC)
 | [],_=>.nil
 | t::L,h=>.cons (h t qi) (qbT fun u hu=>h u (qd _ hu))
section
variable {q:Str}{tl:TEd}
theorem qhb (h:up K (qjs P q pos i tl te) G H Q):qiA K P q pos i (up K tl) (up K te) G H Q:=by
 obtain⟨O,U,Q0,hS,hM,h,cl⟩:=h;refine⟨O,U,_,hS,hM,h,fun e U1 v H1 h1 M1 s1 i1=>?_⟩;obtain⟨zs,g,key,hL,hz,hg,hP,hk,ht,hq⟩:=h1;obtain⟨l,us,rfl,hl,hA⟩:=hL.get M1 i1;obtain⟨y,hy,iy⟩:=(hS.same s1).get i g hg;obtain⟨u,hu,tu⟩:=M1.ob P _ hP;have ulen:us.length=zs.length:=by rw[hA.len,qc]
 refine⟨l,us,y,u,rfl,hl,by lia,hy,hu,(ZX q pos).st _ _ _ yB tu,fun H2 c' kp hP2 hc2 hor=>?_⟩;obtain⟨Ua,Ub,rfl⟩:=List.append_of_mem hP
 have hcm:c'∉(Ua++(P,MO.any (ZX q pos))::Ub).map Prod.fst:=by
  rcases hor with hn | rfl
  .intro z;obtain⟨⟨a,o⟩,ho,rfl⟩:=qF.mp z;obtain⟨x,e⟩:=(M1.ob a o ho).some;rw[hn] at e;cases e
  .rw [hP2] at hu;cases hu
   obtain⟨ps,e,hps⟩:=tu;rcases hps with rfl | ⟨c,rfl,hc⟩
   .unfold tabC at e;cases e
   .unfold tabC at e;cases e
    exact (Yl hc).1
 obtain⟨M2,s2⟩:=M1.write (o':=MO.any (ZX q pos)) kp fun ss=>⟨_,hP2,_,rfl,.inr ⟨c',rfl,by rw[yG hcm];exact hc2⟩⟩;have iy2:=iy.same s2;have hA2:=hA.same s2;refine⟨fun ks H3=>RelM K (Ua++(P,MO.any (ZX q pos))::Ub) H3/\yr (mask (Ua++(P,MO.any (ZX q pos))::Ub) H2) (mask (Ua++(P,MO.any (ZX q pos))::Ub) H3)/\PySem.Paired (Y5 K (mask (Ua++(P,MO.any (ZX q pos))::Ub) H3)) ks ((zs.take ks.length).map key),⟨M2,yr.refl _,.nil⟩,fun ks H3 ⟨_,s3,_⟩=>?_,fun ks H3 v ⟨M3,s3,p3⟩ hv=>?_,fun ks H3 hkl ⟨M3,s3,p3⟩=>?_⟩
 .exact yB _ _ (s3 _ _ (by rw[yG hcm];exact hc2))
 .obtain ⟨z,hz,iz⟩:=(hA2.same s3).getA hv;have hzm:z∈zs:=List.mem_of_getElem? hz;refine⟨[some (.d (JC z)),some g],_,_,⟨rfl,fun j e he=>?_⟩,M3,ht z hzm,fun w U4 x H4 q4 M4 s4 i4=>?_⟩
  .match j,he with
   | 0,he=>cases he;exact⟨v,rfl,iz⟩
   | 1,he=>cases he;exact⟨y,rfl,iy2.same s3⟩
   | j+2,he=>simp at he
  .obtain ⟨rfl,rfl⟩:=q4;have i4:Is K (mask (Ua++(P,MO.any (ZX q pos))::Ub) H4) x (JC (key z)):=i4;have tz:Y5 K (mask (Ua++(P,MO.any (ZX q pos))::Ub) H4) x (key z):=by
    have:=IsAll.tups (K:=K) (us:=[x]) (kss:=[key z]) (.cons i4 .nil) (fun k hk'=>by rw[qE.mp hk'];exact hk z);cases this with
    | cons a b=>exact a
   refine⟨M4,s3.trans s4,?_⟩;have e:(zs.take (ks++[x]).length).map key=(zs.take ks.length).map key++[key z]:=by
    rw[qv,List.length_singleton,List.take_add_one,hz];simp
   rw[e];exact Z8 tz (JJ p3 fun a _ b h=>h.same s4)
 .rw [JP (by lia)] at p3;refine⟨zs.map key,JJ p3 fun a _ b h=>h.up,fun D ps hD pp pw=>?_⟩;obtain⟨L,e1,e2,e3⟩:=qcW (key:=key) hA2;rw[e1] at pp;obtain⟨l2,p1,p2⟩:=ZJ (fun t:List Int×V=>(key t.1,t.2)) pp rfl;obtain⟨M4,s4,hn⟩:=M3.laid (o:=.lst (ps.map (·.2))) hD;have hw:ps.map (·.2)=l2.map (·.2):=by rw[p2,y6];rfl
  have pz:(l2.map (·.1)).Perm zs:=by rw[<- e2];exact p1.map _
  refine cl _ _ _ _ (hq (l2.map (·.1)) pz ?_) M4 (((s1.trans s2).trans s3).trans s4) (.lst (SqL.of (by rw[yG hn];exact qU)) ?_)
  .rw [p2,jc] at pw;rw[jc];exact pw
  .have:=qbT (L:=l2) fun t ht=>((e3 t (p1.mem_iff.mp ht)).same s3).same s4;rw[<- hw] at this;exact this
variable {y:Str}{le:Expr}{p:Pos}
theorem qld (hB:qau X.base X.mg) (hC:CodeHd X.base c P) (hcode:X.env.code = .ref c) (hq:X.env.qual ++ "<lambda>" = q) (hdef:defaultsOf params X.env=([],[])) (S:LamSc x y scope) (hyf:∀ z∈scope.names,z.2 = .free->z.1=y)
  (hyX:X.env.scope.names.lookup y=some .cell) (hN:X.N[i]?=some y) (hg:Gl X "sorted") (hm:X.mg "sorted" = none) (hr:Room (k+1) X.A.in1.in1)
  (hb:∀ (clos:List (Str×Addr)) (pm cd ctv u:Value),bindArgs (kla_fn "<lambda>" q params body scope clos pm cd ctv) ⟨[u],[]⟩=pure [(x,u)])
  (hl:DE K X le tl) (he:∀ f c' cl s H,Room k (X.A.in1.in1.deeper (envX q scope s.heap.objs.size f (.ref c') cl))->DE K (qgM X X.A.in1.in1 [x,y] q scope f (.ref c') cl s H) body te)
  (hK:X.K=K:=by rfl) (hs1:starEach [le] X.env=(false,eval le X.env)::starEach [] X.env:=by rfl) :
  DE K X (.Call (.Name "sorted" p) [le] [⟨some "key",.Lambda params body scope pos,kp⟩] p') (qjs P q pos i tl te):=by
 subst hK;exact PE.mono (qhD hB hC hcode hq hdef S hyf hyX hN hg hm hr hb hl he hs1) fun _ _ _=>qhb
end
end L2
namespace L2
open W
theorem qf9 {mb:Str->Option Value}{fa c:Addr}{sa1:Shared}{vs:List Value}
  (KX:K.In sa1.heap) (hns:sa1.heap.Ns mainGlobals mg) (hb:sa1.heap.Ns builtinsNs mb) (hbb:∀ x:Str,x ≠ "__name__" -> mb x=bootBuiltins x) (hlim:sa1.heap.NoLimit) (hg:sa1.gens=#[])
  (ha:sa1.heap.get? a=some { cls:=.type "list",data:=.seq vs.toArray }) (hi:IntsAre vs ns) (hl:ns.length<=sizeLine) (hr:Room k callerA)
  (hbm:qau sa1.heap mg) (hT:sa1.heap.get? tb=some (tabObj #[])) (hC:CodeHd sa1.heap c tb) (hKt:K.lookup tb=none)
  (F:∀ base:Heap,K.In base->base.Ns mainGlobals mg->qau base mg->FnOk P w K mg base CX k fa fd [x] sp) (hbind:∀ (s:Shared) (u:Value),BindsTo s fd ⟨[u],[]⟩ [(x,u)])
  (hsp:∀ H:Hp,H tb=some (.tbl #[])->SqL K H a (ns.map V.int)->sp [.ref a] H (fun v _=>v = .bl true) fun _ _ _=>False)
  (hCX:∀ H e s',CX [] H sa1 (fun _ _ _=>False) e s'->False) :
  codeAny (model P w) callerA (.call (.ref fa) ⟨[.ref a],[]⟩) (fun r s'=>r = .ok (.ret (.bool true))/\OldK sa1.heap s'.heap/\s'.os=sa1.os/\AllBare s'.gens) sa1:=by
 have rv:=qbw hi;have lenV:=hi.length;have hta:tb≠a:=fun z=>by
  rw[z,ha] at hT;cases hT
 have core:∀ Ga:Hp,Only Ga->SqL K Ga a (ns.map V.int)->HOk P w Ga sa1.heap->(∀ b,Ga b≠none->b=a)->(Ga a≠none->K.lookup a=none) →
   codeAny (model P w) callerA (.call (.ref fa) ⟨[.ref a],[]⟩) (fun r s'=>r = .ok (.ret (.bool true))/\OldK sa1.heap s'.heap/\s'.os=sa1.os/\AllBare s'.gens) sa1:=by
  intro Ga hO hS hokG hAG hKG;have hGt:Ga tb=none:=by
   cases q:Ga tb with
   | none=>rfl
   | some u=>exact absurd (hAG tb (by rw[q];simp)) hta
  have hHt:upd Ga tb (.tbl #[]) tb=some (.tbl #[]):=qU;have hHS:SqL K (upd Ga tb (.tbl #[])) a (ns.map V.int):=by
   rcases hS with (e | ⟨o,e⟩) | e
   .exact .inl (.inl (by rw[qV (Ne.symm hta)];exact e))
   .exact .inl (.inr ⟨o,by rw[qV (Ne.symm hta)];exact e⟩)
   .exact .inr e
  have hok:HOk P w (upd Ga tb (.tbl #[])) sa1.heap:=fun b u e=>by
   by_cases z:b=tb
   .subst z;rw[qU] at e;cases e
    exact hT
   .rw [qV z] at e;exact (hokG b u e).stay (fun c v hc q=>q) (fun c q=>by rw[qV (qM q hGt)];exact q) fun c xs q=>by rw[qV (qM q hGt)];exact q
  have hA:∀ b,upd Ga tb (.tbl #[]) b≠none->b=tb\/b=a:=fun b h=>by
   by_cases z:b=tb
   .exact .inl z
   .rw [qV z] at h;exact .inr (hAG b h)
  have hO2:∀ b,upd Ga tb (.tbl #[]) b=none\/b=tb\/∃ o xs,upd Ga tb (.tbl #[]) b=some (.frz o (.lst xs)):=fun b=>by
   by_cases z:b=tb
   .exact .inr (.inl z)
   .rw [qV z];rcases hO b with h | h
    .exact .inl h
    .exact .inr (.inr h)
  have hKa:upd Ga tb (.tbl #[]) a≠none->K.lookup a=none:=fun h=>hKG (by rw[qV (Ne.symm hta)] at h;exact h);generalize upd Ga tb (.tbl #[])=H at *;have base_of:∀ {b:Addr}{o:Obj},sa1.heap.get? b=some o->H b=none->(qg5 sa1.heap H).get? b=some o:=fun e n=>qh5 e n;have noA:∀ {b:Addr}{o:Obj},sa1.heap.get? b=some o->(∀ xs n,o.data≠.seq xs n)->(∀ xs,o.data≠.fields xs)->H b=none:=fun {b o} e d1 d2=>by
   cases q:H b with
   | none=>rfl
   | some u =>
    rcases hA b (by rw[q];simp) with e' | e'
    .subst e';rw[hT] at e;cases e;exact absurd rfl (d2 _)
    .subst e';rw[ha] at e;cases e;exact absurd rfl (d1 _ _)
  have nsK:∀ {b:Addr}{m:Str->Option Value},sa1.heap.Ns b m->(qg5 sa1.heap H).Ns b m:=fun {b m} ⟨o,es,ep,e,d,r⟩=>⟨o,es,ep,base_of e (noA e (fun _ _ z=>by rw[d] at z;cases z) (fun _ z=>by rw[d] at z;cases z)),d,r⟩;have hKb:K.In (qg5 sa1.heap H):=fun b o e=>base_of (KX b o e) (by
   cases q:H b with
   | none=>rfl
   | some u =>
    rcases hA b (by rw[q];simp) with e' | e'
    .subst e';rw[hKt] at e;cases e
    .subst e';rw[hKa (by rw[q];simp)] at e;cases e)
  have hB:qau (qg5 sa1.heap H) mg:=by
   obtain⟨bm,ob,b1,b2,b3,b4,b5,b6⟩:=hbm;exact⟨bm,ob,b1,b2,base_of b3 (noA b3 (fun _ _ z=>by rw[b6] at z;cases z) (fun _ z=>by rw[b6] at z;cases z)),b4,b5,b6⟩
  have hM:Mod K mg (qg5 sa1.heap H):=⟨hKb,nsK hns,⟨mb,nsK hb,hbb⟩,let ⟨mc,h1,h2⟩:=hlim;⟨mc,nsK h1,h2⟩⟩;have e0:Env0 P w K mg (qg5 sa1.heap H) callerA [] sa1 H:=⟨rfl,hM,fun b o e=>qkA e,Nat.le_of_eq (qgl _ _),trivial,fun b hb=>absurd (show b∈([]:List Addr) from hb) (by simp),hok,.of_eq hg⟩;refine codeAny_mono ((F _ hKb (nsK hns) hB).run callerA [] sa1 H ⟨[.ref a],[]⟩ [.ref a] [.ref a] _ _ hr e0 (hbind sa1 (.ref a)) (.cons rfl .nil) (hsp H hHt hHS)) fun r s' h=>?_;cases r with
  | error e=>exact (hCX H e s' h).elim
  | ok fl =>
   cases fl with
   | next=>exact False.elim h
   | brk=>exact False.elim h
   | cont=>exact False.elim h
   | ret u =>
    obtain⟨v,H',os,bare,un,hok',r',q⟩:=h;have q':v = .bl true:=q;subst q';obtain rfl:u=Value.bool true:=r';obtain⟨more,ht'⟩:=un.tbls tb #[] hHt;have hg':s'.heap.get? tb=some (tabObj more):=by
     have:=hok' tb _ ht';rw[Array.empty_append] at this;exact this
    have keep:∀ b o,b≠tb->sa1.heap.get? b=some o->s'.heap.get? b=some o:=fun b o hb e=>by
     cases q:H b with
     | none=>exact un.keep b o e q (by intro z;exact absurd (show b∈([]:List Addr) from z) (by simp)) (by simp)
     | some u =>
      rcases hO2 b with z | z | ⟨ob,xs,z⟩
      .rw [q] at z;cases z
      .exact absurd z hb
      .have z2:=un.frzs b ob _ z;obtain⟨e1,_⟩:=hok b _ z;obtain⟨e2,_⟩:=hok' b _ z2;rw[e] at e1;cases e1;exact e2
    refine⟨rfl,⟨fun b o e=>?_,fun b o e=>?_⟩,os,bare⟩
    .by_cases hb:b=tb
     .subst hb;rw[hT] at e;cases e
      exact .inr (.inl ⟨(hC.tab hT).isCodeTable,rfl,#[],more,rfl,by rw[Array.empty_append];exact hg'⟩)
     .exact .inl (keep b o hb e)
    .by_cases hb:b=tb
     .exact ⟨_,hb ▸ hg'⟩
     .exact ⟨o,keep b o hb e⟩
 cases hk:K.lookup a with
 | some o =>
  have e:=KX a o hk;rw[ha] at e;cases e
  refine core (fun _=>none) (fun _=>.inl rfl) (.inr ⟨_,vs.toArray,_,hk,rfl,rfl,rfl,by rw[qz,lenV];exact hl,by simpa using rv⟩) (fun b u z=>by have z':(none:Option HO)=some u:=z;cases z') (fun b z=>absurd rfl z) fun z=>absurd rfl z
 | none =>
  refine core (fun b=>if b=a then some (.frz { cls:=.type "list",data:=.seq vs.toArray } (.lst (ns.map V.int))) else none) (fun b=>?_) (.inl (.inr ⟨{ cls:=.type "list",data:=.seq vs.toArray },if_pos rfl⟩)) (fun b u z=>?_) (fun b z=>?_) fun _=>hk
  .by_cases hb:b=a
   .exact .inr ⟨_,_,if_pos hb⟩
   .exact .inl (if_neg hb)
  .by_cases hb:b=a
   .have z':=(if_pos hb).symm.trans z;cases z'
    subst hb;exact⟨ha,by rw[qc];exact hl,vs,_,rv,ha⟩
   .have z':=(if_neg hb).symm.trans z;cases z'
  .by_cases hb:b=a
   .exact hb
   .exact absurd (if_neg hb) z
theorem walk_ofT {l:W.OpenLaw}{q:Program}{d:DefRec}{K:Params->W.Frag}{CX:World->CXT}{sp:World->Sp}(tb c:Addr)
  (hn:l.most=some n) (hn2:n<=sizeLine) (hdf:d.params.defaults=[]) (hr:Room k callerA)
  (hY:∀ (w:World) (h:Heap),YP w h->(K w.params).In h) (hYt:∀ (w:World) (h:Heap),YP w h->h.get? tb=some (tabObj #[])) (hKt:∀ w:World,(K w.params).lookup tb=none) (hCt:∀ w:World,codeHdIn (K w.params) c tb=true)
  (F:∀ (w:World) (mg:Str->Option Value) (fa:Addr) (h:Heap),(K w.params).In h->h.Ns mainGlobals mg->mg d.name=some (.ref fa) →
   ∃ fd:FuncData,(∀ (s:Shared) (u:Value),BindsTo s fd ⟨[u],[]⟩ [(x,u)]) ∧
    ∀ base:Heap,(K w.params).In base->base.Ns mainGlobals mg->qau base mg->FnOk l.prog w (K w.params) mg base (CX w) k fa fd [x] (sp w))
  (hsp:∀ (w:World) (H:Hp) (a:Addr) (ns:List Int),ns.length<=n->H tb=some (.tbl #[])->SqL (K w.params) H a (ns.map V.int)->sp w [.ref a] H (fun v _=>v = .bl true) fun _ _ _=>False)
  (hCX:∀ (w:World) (H:Hp) (s:Shared) (e:Value) (s':Shared),CX w [] H s (fun _ _ _=>False) e s'->False) :
  W.WalkO q loose XP YP l.row.toRowW d [] (fun f vs=>PySem.call f vs):=by
 refine Att.attach_call hn hdf fun w s₀ sa1 mg mb fa o pm cd doc a vs ns Ga Y ho hd hcd hmg hobj hints hlen hg=>?_;have KX:=hY w _ Y;obtain⟨fd,hb,hF⟩:=F w mg fa _ KX Ga.T.g hmg;exact qf9 KX Ga.T.g Ga.T.b Ga.T.builtins Ga.T.nolimit hg hobj hints (qt hlen hn2) hr Ga.T.bmain (hYt w _ Y) (codeHd_of_K KX (hCt w)) (hKt w) hF hb (fun H hO hS=>hsp w H a ns hlen hO hS) fun H e s'=>hCX w H sa1 e s'
theorem Fun.okDC {st:Stmt}{cc:Addr}{sp:SpD}(F:Fun K x qual st f fd) (hcc:fd.code = .ref cc) (S:FnScope N ps (qq st)) (len:∀ es U Q,sp es U Q->es.length=ps.length)
  (hbody:∀ (A:Around) (outer:List Env) (s:Shared) (H:Hp) (E:XK) (es:List En) (U:Mu) (Q:En->Mu->Prop),Room k (A.deeper (envOfC qual (qq st) s.heap.objs.size f (.ref cc)))->sp es U Q →
   ∃ t,DSs K (qao CX P w K mg base N qual (qq st) f (.ref cc) A outer s H E).nox (yY st) t/\t { nx:=fun _ U'=>Q (.d .none) U',rt:=Q } (es.map some++List.replicate (N.length - es.length) none) U):FnOk P w K mg base CX (k+1) f fd ps (yq K sp):=by
 obtain⟨oc,od,kV,doc,pm,an,Oh,ct,osl,rfl,lk,hcd⟩:=F.ex;obtain rfl:Oh = .ref cc:=hcc;refine qkV lk hcd S (fun vs H Q E ⟨U,es,Q0,M,hp,h,cl⟩=>(PySem.Paired.length hp).trans (len es U Q0 h)) fun A outer s H vs Q E hr Og=>?_;obtain⟨U,es,Q0,M,hp,h,cl⟩:=Og;obtain⟨t,ht,hq⟩:=hbody A outer s H E es U Q0 hr h;have hl:vs.length=es.length:=PySem.Paired.length hp;refine⟨upS K t,PSs.nox ht,_,U,_,Paired.mapSome hp N.length N.length (by rw[hl]),M,hq,⟨fun O' U' G' H' q S' M' s'=>cl _ U' .non H' q M' s' .non,cl,fun _ _ _ _ q=>q.elim,fun _ _ _ _ q=>q.elim⟩⟩
end L2
namespace PySem
open PySem.Sem (wp)
structure Nx (prog:Program) (w:World) (A:Around) (fr:List Addr) (it:Addr) (st:Nat->Heap->Prop) (xs:Array Value):Prop where
 mem:it∈fr
 obj:∀ i h,st i h->∃ o,h.get? it=some o/\∀ v,o.data≠.cell v
 keep:∀ i h h',st i h->(∀ b∈fr,∀ o,h.get? b=some o->h'.get? b=some o)->st i h'
 item:∀ (i:Nat) (s:Shared) (x:Value) (Q:Value->Shared->Prop) (E:Value->Shared->Prop),st i s.heap->xs[i]?=some x →
  (∀ h',st (i+1) h'->Heap.SameBut it s.heap h'->Q x { s with heap:=h' })->wpAny (model prog w) A (Builtin.SmallTypes.nextOf (.ref it)) Q E s
 stop:∀ (i:Nat) (s:Shared) (Q:Value->Shared->Prop) (E:Value->Shared->Prop),st i s.heap->xs[i]?=none →
  (∀ h' e,Heap.ExtBut it s.heap h'->(∃ o,h'.get? e=some o/\o.cls = .type "StopIteration")->E (.ref e) { s with heap:=h' })->wpAny (model prog w) A (Builtin.SmallTypes.nextOf (.ref it)) Q E s
section
variable {z TI TO i1 i2:Addr}{f1 f2:List Addr}{s1 s2:Nat->Heap->Prop}{xs ys:Array Value}{k1 k2:Nat}{x y a b:Value}
end
end PySem
namespace L2
end L2
namespace L2
theorem qaC:∀ {ns:List Int}{its:List Value},yN (ns.map V.int) its->∃ xs:List (Int×Tok),its=xs.map (fun p=>.int p.1 p.2)/\xs.map Prod.fst=ns
 | [],_,.nil=>⟨[],rfl,rfl⟩
 | n::ns,_,.cons r t=>by
  obtain⟨u,rfl⟩:=r;obtain⟨xs,rfl,e⟩:=qaC t;exact⟨(n,u)::xs,rfl,by simp[e]⟩
end L2
namespace L2
variable {Q:Value->Shared->Prop}
abbrev kwD (d:Value):List (Str×Value):=[(Str.ofString "default",d)]
theorem qgV (a d:Value):argsOk "max" ⟨[a],kwD d⟩:=by unfold argsOk;kernel_rfl
section
variable {P:Nat->Value->Prop}{St:Nat->Heap->Prop}{d:Value}
theorem qdk:(toString "max" ++ toString ".loop" : String) = "max.loop" := by decide
theorem qfY (W:Walks prog w A.in1 I fp wr n P St) (bt:Nat->Nat->Bool) (hcmp:CmpOf prog w A.in1 .Gt P bt) (hSf:S∉fp) :
  ∀ (k j:Nat) (s:Shared) (old:List Value) (c:Nat),n - j=k->j<=n->St j s.heap->(old=[]/\j=0\/∃ vb,old=[vb,vb]/\0<j/\P (argBest bt (j - 1)) vb) →
  s.heap.get? S=some { cls:=.type "list",dict:=none,data:=.seq old.toArray c,slots:=#[] } →
  (∀ v h' tk,(n=0/\v=d\/0<n/\P (argBest bt (n - 1)) v)->(∀ b o,b∉wr->b≠S->s.heap.get? b=some o->h'.get? b=some o)->R (.ok (.ret v)) { s with heap:=h',toks:=tk }) →
  codeAny (model prog w) A (.builtin "max.loop" ⟨[.ref I,.none,.ref S],kwD d⟩) R s:=by
 have hSw:S∉wr:=fun h=>hSf (W.sub _ h);intro k;induction k with
 | zero =>
  intro j s old c hk hj hst ho hS hR;have hin:j=n:=by omega
  refine codeAny_builtin F.entry_max_loop ?_;rw[Around.under_plainId F.plain_max_loop _];show wpAny _ A.in1 (seqItems? (.ref S) >>= _) _ _ s;refine qa (wpAny_seqItems hS rfl ?_);show wpAny _ A.in1 (tryCatch (pyNext (.ref I)) _ >>= _) _ _ s;refine qa (wpAny_tryCatch (W.done s _ _ (hin ▸ hst) fun h' tk hk'=>?_));have hS':=hk' S _ hSw hS;rcases ho with⟨rfl,rfl⟩ | ⟨vb,rfl,h0,hPb⟩
  .show wpAny _ A.in1 (rule _ >>= _) _ _ _;refine qa (j6 (qe ?_));exact hR d _ tk (.inl ⟨hin.symm,rfl⟩) fun b o hbw _ e=>hk' b o hbw e
  .show wpAny _ A.in1 (updateSeq S (fun _=>#[]) >>= _) _ _ _;refine qa ?_;refine wpAny_updateSeq hS' rfl (qa (wpAny_letGo (qe ?_)));refine hR vb _ tk (.inr ⟨by omega,by rw[<- hin];exact hPb⟩) fun b o hbw hbS e=>(qY _ _ (Ne.symm hbS)).trans (hk' b o hbw e)
 | succ k ih =>
  intro j s old c hk hj hst ho hS hR;have hlt:j<n:=by omega
  refine codeAny_builtin F.entry_max_loop ?_;rw[Around.under_plainId F.plain_max_loop _];show wpAny _ A.in1 (seqItems? (.ref S) >>= _) _ _ s;refine qa (wpAny_seqItems hS rfl ?_);show wpAny _ A.in1 (tryCatch (pyNext (.ref I)) _ >>= _) _ _ s;refine qa (wpAny_tryCatch (W.item j s _ _ hlt hst fun v h' tk hP hst' hk'=>?_));have hS':=hk' S _ hSw hS;rcases ho with⟨rfl,rfl⟩ | ⟨vb,rfl,h0,hPb⟩
  .show wpAny _ A.in1 (updateSeq S (fun _=>#[v,v]) >>= _) _ _ _;refine qa ?_;refine wpAny_updateSeq hS' rfl ?_;rw[qdk];refine qe ⟨plainId_quiet F.plain_max_loop _,ih 1 _ [v,v] _ (by omega) hlt (W.frame _ _ _ hst' fun b hbf o e=>?_) (.inr ⟨v,rfl,Nat.one_pos,hP⟩) (yo _ hS' rfl) fun v' h'' tk'' hP' hk''=>?_⟩
   .exact (qY _ _ (fun h:S=b=>hSf (by rw[h];exact hbf))).trans e
   .exact hR v' h'' tk'' hP' fun b o hbw hbS e=>hk'' b o hbw hbS ((qY _ _ (Ne.symm hbS)).trans (hk' b o hbw e))
  .have ej:argBest bt j=if bt j (argBest bt (j - 1)) then j else argBest bt (j - 1):=by
    obtain⟨i,rfl⟩:∃ i,j=i+1:=⟨j - 1,by omega⟩;rfl
   show wpAny _ A.in1 (tryCatch (holding [v,v] (richCompare .Gt v vb >>= _)) _ >>= _) _ _ _;refine qa (wpAny_tryCatch (yf (qa (hcmp j (argBest bt (j - 1)) v vb _ _ _ hP hPb ?_))));refine qa (yf (wpAny_truthy_bool ?_));refine qa (wpAny_letGo (qe ?_));cases hb:bt j (argBest bt (j - 1)) with
   | true =>
    simp only[if_true];refine qa ?_;refine wpAny_updateSeq hS' rfl (qa (wpAny_letGo ?_));rw[qdk];refine qe ⟨plainId_quiet F.plain_max_loop _,ih (j+1) _ [v,v] _ (by omega) hlt (W.frame _ _ _ hst' fun b hbf o e=>?_) (.inr ⟨v,rfl,Nat.succ_pos _,by rw[Nat.add_sub_cancel,ej,hb];exact hP⟩) (yo _ hS' rfl)
     fun v' h'' tk'' hP' hk''=>?_⟩
    .exact (qY _ _ (fun h:S=b=>hSf (by rw[h];exact hbf))).trans e
    .exact hR v' h'' tk'' hP' fun b o hbw hbS e=>hk'' b o hbw hbS ((qY _ _ (Ne.symm hbS)).trans (hk' b o hbw e))
   | false =>
    simp only[qk,if_false];refine qa (wpAny_letGo ?_);rw[qdk];refine qe ⟨plainId_quiet F.plain_max_loop _,ih (j+1) _ [vb,vb] c (by omega) hlt hst' (.inr ⟨vb,rfl,Nat.succ_pos _,by rw[Nat.add_sub_cancel,ej,hb];exact hPb⟩) hS' fun v' h'' tk'' hP' hk''=>?_⟩;exact hR v' h'' tk'' hP' fun b o hbw hbS e=>hk'' b o hbw hbS (hk' b o hbw e)
end
theorem qb8 {id:String}{b:Builtin}{args:List Value}(hk:builtinKind id=none) (hp:plainId id=true)
  (hb:entryFor table id=some b) (ha:argsOk id ⟨args,kw⟩)
  (hc:wpAny (model prog w) A.in1 (b ⟨args,kw⟩) (fun fin s'=>match fin with
   | .done f=>(match (Except.ok f:Result) with | .ok (.ret v)=>Q v s' | .ok _=>False | .error e=>E e s')
   | .again c'=>c'.quiet=true/\codeAny (model prog w) A c' (fun r s'=>match r with | .ok (.ret v)=>Q v s' | .ok _=>False | .error e=>E e s') s') E s) :
  wpAny (model prog w) A (call (.builtin id) args kw) Q E s:=by
 refine wpAny_call (codeAny_call_builtin hp hb ?_);simp only[checkBuiltinCall,hk];cases hsig:Manifest.signature? id with
 | none=>exact qe hc
 | some sig =>
  have ha':Bind.checkArgs id sig ⟨args,kw⟩=pure ():=by simpa only[argsOk,hsig] using ha
  simp only[ha'];exact qe hc
theorem qfZ {l:Addr}{xs:Array (Int×Tok)}{d:Value}(hh:A.handled=none) (hl:s.heap.IsList l (intItems xs))
  (h:∀ v h' tk,(xs.size=0/\v=d\/0<xs.size/\(intItems xs)[argBest (fun i j=>decide (numAt xs i > numAt xs j)) (xs.size - 1)]?=some v)->(∀ b o,s.heap.get? b=some o->h'.get? b=some o)->Q v { s with heap:=h',toks:=tk }) :
  wpAny (model prog w) A (call (.builtin "max") [.ref l] (kwD d)) Q E s:=by
 refine qb8 F.kind_max F.plain_max F.entry_max (qgV _ _) ?_;show wpAny _ A.in1 (Builtin.Builtins.bindParams "max" ["key", "default"] 0 ⟨[],kwD d⟩ >>= _) _ _ s;refine qa (wpAny_of_eq (show Builtin.Builtins.bindParams "max" ["key", "default"] 0 ⟨[],kwD d⟩=pure [none,some d] from rfl) ?_);refine qa (qe ?_);refine qa (iter_intList hl fun sa2 e st hfp hlI=>?_);subst e;refine qa (yF ?_);rw[qdk];have W:=Walks.list (prog:=prog) (w:=w) (A:=A.in1) hh _ l hlI (intItems xs);refine qe ⟨plainId_quiet F.plain_max_loop _,qfY (d:=d) W _ (CmpOf.ints_gt (numAt xs) (fun _ _=>intItems_at)) (fun hm=>yz _ (hfp _ hm)) _ 0 _ [] 0 rfl (qZ _) (W.frame _ _ _ st fun b _ o e=>qh _ e) (.inl ⟨rfl,rfl⟩) (qA _ rfl) fun v h' tk hP hk=>?_⟩;have sz:(intItems xs).size=xs.size:=by simp[intItems]
 rw[sz] at hP;refine h v h' tk hP ?_;exact old_kept fun b o hbw e=>hk b o hbw (qp (ql e)) (qh _ e)
section
variable {le de:Expr}{p:Pos}
theorem qgQ {p:Addr}{dz:Int}{du:Value}{Q:VK}(hc:X.calm=true) (I:Inv X Ob G H s) (hq:SqL X.K H p (ns.map V.int)) (rd:jw (.int dz) du)
  (q:∀ m:Int,(ns=[]/\m=dz\/m∈ns/\∀ a∈ns,a<=m)->Q (.int m) H):wpAny (model X.prog X.w) X.A (call (.builtin "max") [.ref p] (kwD du)) (EP X Ob G Q) X.xe s:=by
 obtain⟨its,rv,pl,_⟩:=I.list hq;obtain⟨ys,rfl,e⟩:=qaC rv;have hl:s.heap.IsList p (intItems ys.toArray):=by
  have:=pl.isList;simpa[intItems] using this
 refine qfZ (I.ok.hd hc) hl fun v h' tk hv hk=>?_;rcases hv with⟨h0,rfl⟩ | ⟨h0,hv⟩
 .refine ⟨.int dz,H,I.kept hk,rd,q dz (.inl ⟨?_,rfl⟩)⟩;rw[<- e];have:ys.length=0:=by simpa using h0
  simp[List.length_eq_zero_iff.mp this]
 .obtain ⟨t,rfl⟩:=intItems_at hv;obtain⟨h1,h2⟩:=argBest_gt (numAt ys.toArray) (ys.toArray.size - 1);have na:∀ j,j<ys.length->∃ z,ns[j]?=some z/\numAt ys.toArray j=z:=fun j hj=>by refine⟨ys[j].1,by rw[<- e];simp[hj],by simp[numAt,hj]⟩
  have hn:0<ys.length:=by simpa using h0
  refine⟨.int _,H,I.kept hk,⟨_,rfl⟩,q _ (.inr ⟨?_,fun a ha=>?_⟩)⟩
  .have h0:argBest (fun i j=>decide (numAt ys.toArray i > numAt ys.toArray j)) (ys.toArray.size - 1)<ys.length:=by simp only[qz] at h1 ⊢;omega
   obtain⟨z,e1,e2⟩:=na _ h0;rw[e2];exact List.mem_of_getElem? e1
  .obtain ⟨j,hj⟩:=List.mem_iff_getElem?.mp ha;have hj2:j<ys.length:=by
    have:=(qm.mp hj).1;rwa[<- e,qc] at this
   obtain⟨z,e1,e2⟩:=na j hj2;rw[hj] at e1;cases e1
   rw[<- e2];exact h2 j (by simp only[qz];omega)
def tMaxD (K:W.Frag) (tl td:TE):TE:=fun G H Q=>tl G H fun v H1=>td G H1 fun u H2=>∃ p ns dz,v = .ref p/\u = .int dz/\SqL K H2 p (ns.map V.int)/\∀ m:Int,(ns=[]/\m=dz\/m∈ns/\∀ a∈ns,a<=m)->Q (.int m) H2
theorem qkb {td:TE}(hc:X.calm=true) (hg:Gl X "max") (hm:X.mg "max" = none) (hl:PE X le tl) (hd:PE X de td) (hs1:starEach [le] X.env=(false,eval le X.env)::starEach [] X.env:=by rfl) :
  PE X (.Call (.Name "max" p) [le] [⟨some "default",de,kp⟩] p') (tMaxD X.K tl td):=by
 intro Ob s G H Q I h;refine JQ (qad I hg hm qdH (callWith_kw ?_ (by rw[hs1];rfl) (by rw[hs1];rfl)));have sp:backTo p' (starEach [le] X.env)=(false,eval le X.env)::backTo p' (starEach [] X.env):=by rw[hs1];rfl
 rw[sp];refine Calls.spliced_cons (thn (hl Ob s G H _ I h) fun u s1 ⟨v,H1,I1,r1,q1⟩=>Calls.spliced_nil ?_);refine kws_cons (thn (hd Ob s1 G H1 _ I1 q1) fun u2 s2 ⟨v2,H2,I2,r2,q2⟩=>kws_nil ?_);obtain⟨p,ns,dz,rfl,rfl,hq,q⟩:=q2;cases r1
 exact qgQ hc I2 hq r2 q
def dMaxD (tl td:TEd):TEd:=fun O U Q=>tl O U fun e U1=>td O U1 fun f U2=>∃ (ns:List Int) (dz:Int),LstOf U2 e (ns.map PyData.int)/\f = .d (.int dz)/\∀ m:Int,(ns=[]/\m=dz\/m∈ns/\∀ a∈ns,a<=m)->Q (.d (.int m)) U2
theorem qnp {tl td:TEd}(hc:X.calm=true) (hg:Gl X "max") (hm:X.mg "max" = none) (hl:DE K X le tl) (hd:DE K X de td) (hK:X.K=K:=by rfl) (hs1:starEach [le] X.env=(false,eval le X.env)::starEach [] X.env:=by rfl) :
  DE K X (.Call (.Name "max" p) [le] [⟨some "default",de,kp⟩] p') (dMaxD tl td):=by
 subst hK;refine PE.mono (qkb hc hg hm hl hd hs1) fun G H Q Og=>?_;obtain⟨O,U,Q0,hS,hM,h,cl⟩:=Og;refine up2 (R0:=fun e f U2=>∃ (ns:List Int) (dz:Int),LstOf U2 e (ns.map PyData.int)/\f = .d (.int dz)/\∀ m:Int,(ns=[]/\m=dz\/m∈ns/\∀ a∈ns,a<=m)->Q0 (.d (.int m)) U2) hS hM h fun x y U2 v u H2 q M2 s2 i1 i2=>?_;obtain⟨ns,dz,hL,rfl,q⟩:=q;obtain⟨p,ys,rfl,h2,h3⟩:=hL.get M2 i1;rw[h3.ints_of] at h2;have i2:Is X.K (mask U2 H2) u (.int dz):=i2;cases i2
 exact⟨p,ns,dz,rfl,rfl,h2,fun m hm=>cl _ U2 _ _ (q m hm) M2 s2 (.int m)⟩
end
end L2
namespace L2
open W SetTable
variable {target:Expr}{Q:Value->Shared->Prop}{D:Addr}
theorem qb6 (elt target iter:Expr) (ifs:List Expr) (scope:Scope) (pos:Pos) (it acc:Value) (env:Env) :
  compTurn (.SetComp elt [⟨target,iter,ifs,0⟩] scope pos) 0 it acc env=(do
   standAt iter.pos
   match <- pyNext it with
   | none=>pure (.done .next)
   | some v =>
    letOwnedTupleGo target it v
    assign target env v
    let mut ok:=true
    for c in ifs do
     if ok then ok <- isTrue c env (eval c env)
    if ok then
     (do let v <- eval elt env;standAt elt.pos;let _ <- call (.builtin "set.add") [acc,v])
    again (.compLoop (.SetComp elt [⟨target,iter,ifs,0⟩] scope pos) 0 it acc env)):=by rfl
theorem Yx {it:Value}(I:Nat->Shared->Prop)
  (turn:∀ n s,I n s->wpAny (model prog w) A (pyNext it) (fun r sa1=>match r with
   | none=>R (.ok .next) sa1
   | some v=>wpAny (model prog w) A (letOwnedTupleGo target it v) (fun _ s1'=>wpAny (model prog w) A (assign target env v) (fun _ sa2 =>
     wpAny (model prog w) A (forIn ifs true fun c r=>if r=true then do let ok <- isTrue c env (eval c env);pure (ForInStep.yield ok) else pure (ForInStep.yield r)) (fun ok sa3 =>
      if ok=true then wpAny (model prog w) A (eval elt env) (fun x sa4 =>
       wpAny (model prog w) A (call (.builtin "set.add") [acc,x]) (fun _ sa5=>∃ m,m<n/\I m sa5) (fun _ _=>False) sa4) (fun _ _=>False) sa3
      else ∃ m,m<n/\I m sa3) (fun _ _=>False) sa2) (fun _ _=>False) s1') (fun _ _=>False) sa1) (fun _ _=>False) s)
  (n:Nat) (h:I n s) :
  codeAny (model prog w) A (.compLoop (.SetComp elt [⟨target,iter,ifs,0⟩] scope pos) 0 it acc env) R s:=by
 refine codeAny_loop rfl I (fun n s hI=>?_) n h;show wpAny _ A ((compTurn (.SetComp elt [⟨target,iter,ifs,0⟩] scope pos) 0 it acc env).onRaise (fun x=>do noteFrame x env;theTreesLotGoes x)) _ _ s;refine wpAny_noted ?_;rw[qb6];refine qa (jp (qa (qP (turn n s hI) (fun r sa1 hd1=>?_) fun _ _ h'=>h'.elim)));cases r with
 | none=>exact qe hd1
 | some v =>
  refine qa (qP hd1 (fun _ s1' ha1'=>?_) fun _ _ h'=>h'.elim);refine qa (qP ha1' (fun _ sa2 ha2=>qa (qP ha2 (fun ok sa3 ha3=>?_) fun _ _ h'=>h'.elim)) fun _ _ h'=>h'.elim);cases ok with
  | false=>exact qe ⟨rfl,ha3⟩
  | true =>
   exact qa (qa (qP ha3 (fun x sa4 ha4=>qa (jp (qa (qP ha4 (fun _ sa5 ha5=>qe (qe ⟨rfl,ha5⟩)) fun _ _ h'=>h'.elim)))) fun _ _ h'=>h'.elim))
theorem Ys {elt target iter ifs rest scope pos it acc env}
  (h0:codeAny (model prog w) A (.compLoop (.SetComp elt (⟨target,iter,ifs,0⟩::rest) scope pos) 0 it acc env) R s)
  (h:wpAny (model prog w) A (pyIter it) (fun it' s'=>codeAny (model prog w) A (.compLoop (.SetComp elt (⟨target,iter,ifs,0⟩::rest) scope pos) 0 it' acc env) R s')
   (notedBy (model prog w) A env fun x s'=>R (.error x) s') s) :
  codeAny (model prog w) A (.compStart (.SetComp elt (⟨target,iter,ifs,0⟩::rest) scope pos) 0 it acc env) R s:=by
 refine codeAny_of_tree ?_;show wpAny _ _ ((compStart (.SetComp elt (⟨target,iter,ifs,0⟩::rest) scope pos) 0 it acc env).onRaise (fun x=>do noteFrame x env;standAt theWindowsPlace)) _ _ s;refine wpAny_notedAt ?_;unfold compStart;show wpAny _ _ (ask >>= _) _ _ s;refine qa (Jz (wpAny_ite ?_));split
 .first
   | exact qa (qe (qe (And.intro rfl h0)))
   | exact qe (And.intro rfl h0)
 .first
   | exact qa (j6 (qa (jp (qa (qP h (fun it' s' h'=>qe (And.intro rfl h')) fun _ _ x=>x)))))
   | (refine qa (j6 ?_);show wpAny _ _ (standAt iter.pos >>= _) _ _ s;exact qa (jp (qa (qP h (fun it' s' h'=>qe (And.intro rfl h')) fun _ _ x=>x))))
theorem qit (S:qbt prog w Pv s.heap a kss) (tb:jl s.heap (.ref b) ks) (pb:Pv (.ref b)) (hu:A.units+8<cLine) (hn:kss.length<4914)
  (hin:ks∈kss->∀ tk,Q .none { s with toks:=tk })
  (hout:ks∉kss->∀ h' kss' tk,Heap.SameBut a s.heap h'->qbt prog w Pv h' a kss'->(∀ k,k∈kss' ↔ k=ks\/k∈kss)->Q .none { s with heap:=h',toks:=tk }) :
  wpAny (model prog w) A (call (.builtin "set.add") [.ref a,.ref b]) Q E s:=by
 have hT:s.TypeIs (.ref a) "set" := let ⟨o,_,_,_,_,D⟩:=S;⟨o,D.ho,D.ex.1⟩;refine jC F.slot_set_add hT F.entry_set_add ?_ (F.args_set_add_2 _ _);unfold Builtin.«set.add» Builtin.Frozenset.oneOther;simp only[List.isEmpty_nil,bind_assoc];unfold Builtin.Frozenset.addrOf setAdd;refine qa (qe ?_)
 try dsimp only
 refine qa (qe ?_)
 try dsimp only
 refine qa ?_;refine yf ?_;have hu1:A.in1.units<cLine:=by show A.units+_<_;lia
 refine qa (wpAny_pyHash_tuple hu1 (tb.key (prog:=prog) (w:=w)) ?_);refine qjz (s:={ s with toks:=s.toks+(ks.length+1) }) S tb pb hu1 hn (fun h=>?_) fun h h' kss' sb S2 mem2=>?_
 .show wpAny _ _ (ret Value.none) _ _ _;exact qe ⟨_,rfl,hin h _⟩
 .show wpAny _ _ (ret Value.none) _ _ _;exact qe ⟨_,rfl,hout h h' kss' _ sb S2 mem2⟩
theorem qfR (q:Q (.ref s.heap.objs.size) { s with heap:=s.heap.push (Zi w) }):wpAny (model prog w) A (newSet (.type "set")) Q E s:=by
 unfold newSet;refine qa ?_;unfold setsByText;refine qa (Jz (qe ?_));exact yF q (by size_fits)
def tSCJ (P:Program) (w:World) (K:W.Frag) (k:Nat) (g:TG) (tt:TT) (te:TE) (G:St) (Q:VK) (J:It) (H1:Hp):Prop:=∃ W:Nat->Nat->List (Addr×List Int)->St->Hp->Prop,(∃ m,W 0 m [] (G++List.replicate k none) H1)/\∀ i m bs G' H,W i m bs G' H->InS K H bs ∧
 ((J.stop i H/\∀ D,H D=none->Q (.ref D) (upd H D (qc4 P w D bs))) ∨
 (J.go i H/\bs.length<4900/\∃ N:List (Addr×List Int)->St->Hp->Prop,(∀ bs' G' H',N bs' G' H'->∃ m',m'<m/\W (i+1) m' bs' G' H') ∧
  ∀ x H',J.yld i H x H'->g x G' H' fun G2 H2=>tt G2 H2 fun b H3=>if b=true then te G2 H3 fun y H4=>∃ ks,Y5 K H4 y ks/\InS K H4 bs/\∀ bs',(∀ c∈bs',c∈bs\/(V.ref c.1=y/\c.2=ks))->(∀ q,q∈bs'.map (·.2) ↔ q=ks\/q∈bs.map (·.2))->(bs'.map (·.2)).Nodup->N bs' G2 H4 else N bs G2 H3))
def qlO (P:Program) (w:World) (K:W.Frag) (k:Nat) (wi:TI) (g:TG) (tt:TT) (te:TE):TE:=fun G H Q=>wi G H (tSCJ P w K k g tt te G Q)
theorem qhm {G':St}{bs:List (Addr×List Int)}{pl:List (Addr×Obj)}
  (I:Inv X Ob G H sa2) (hf:∀ b∈fp,YC X Ob H b) (hD:sa2.heap.objs.size=D)
  (J:Inv (qO X L scope cl C sa2 H fp) pl G' H' s') (hpD:qcf X.prog X.w D bs s'.heap) (hHD:H' D=none) :
  Inv X Ob G (upd H' D (qc4 X.prog X.w D bs)) s':=by
 have B:Un (frs X.stack) fp H H' sa2.heap s'.heap:=J.base;have neD:∀ b o,sa2.heap.get? b=some o->b≠D:=fun b o e=>by rw[<- hD];exact qp (ql e)
 refine I.call' (ch:=fp) J.os ⟨B.keep,B.slot,fun b o e hn hx=>?_,B.there,fun b xs e=>?_,fun b o u e=>?_,fun b ps e=>?_⟩ (fun b o e=>?_) J.bare (fun b hb=>⟨(hf b hb).2.2.2.1,(hf b hb).2.1,(hf b hb).2.2.2.2.1,(hf b hb).2.2.2.2.2⟩)
 .rw [qV (neD b o e)];exact B.free b o e hn hx
 .have:=B.tups b xs e;rw[qV (qM this hHD)];exact this
 .have:=B.frzs b o u e;rw[qV (qM this hHD)];exact this
 .obtain ⟨more,this⟩:=B.tbls b ps e;exact⟨more,by rw[qV (qM this hHD)];exact this⟩
 .by_cases hb:b=D
  .subst hb;rw[qU] at e;cases e
   exact qcf.ok hpD
  .rw [qV hb] at e;exact (J.hok b o e).stay (fun _ _ _ q=>q) (fun c q=>by rw[qV (qM q hHD)];exact q) fun c xs q=>by rw[qV (qM q hHD)];exact q
theorem qlS {Y:Cx}(I:Inv Y Ob G H s) {bs:List (Addr×List Int)}(p:qcf Y.prog Y.w D bs s.heap) (hb:InS Y.K H bs) (Pv:Value->Prop) (hp:∀ c∈bs,Pv (Value.ref c.1)):qbt Y.prog Y.w Pv s.heap D (bs.map (·.2)):=by
 obtain⟨o,es,ep,t,m,ho,ex,hd,pl,ld,mo,si,ee,nd⟩:=p;refine⟨o,es,ep,t,m,ho,ex,hd,pl,ld,mo,si,?_,nd,fun e he=>?_⟩
 .rw [ee];exact qcQ fun b hbb=>I.tupK (hb b hbb)
 .rw [ee] at he;obtain⟨b,h1,rfl⟩:=qF.mp he;exact hp b h1
theorem qeM
  {g:TG}{tt:TT}{te:TE}{Q:VK}{J:It}
  (hu:X.A.units+8<cLine) (hc:X.calm=true) (hsc:X.env.scope=sc) (hN:X.N=N) (ok:jE sc N L scope=true) (hc1:∀ x c,cl.lookup x=some c->X.env.cells.lookup x=some c)
  (hc2:∀ y∈scope.names,y.2 = .free->∃ c,cl.lookup y.1=some c)
  (hg:∀ cl C sa2 Ha2 fp,PG (qO X L scope cl C sa2 Ha2 fp) tg g) (hi:∀ cl C sa2 Ha2 fp,Ifs (qO X L scope cl C sa2 Ha2 fp) ifs tt) (he:∀ cl C sa2 Ha2 fp,PE (qO X L scope cl C sa2 Ha2 fp) elt te)
  (I:Inv X Ob G H sa2) (T:Turn X.prog X.w X.K tg J fp it tn) (st:tn 0 sa2.heap) (hf:∀ b∈fp,YC X Ob H b) (hw:tSCJ X.prog X.w X.K L.length g tt te G Q J H)
  (hR:∀ D C m H' s' bs,s'.heap.Ns C m->sa2.heap.objs.size=D->sa2.heap.objs.size<C->H' C=none->D≠C->Inv X Ob G (upd H' D (qc4 X.prog X.w D bs)) s'->Q (.ref D) (upd H' D (qc4 X.prog X.w D bs))->RR (.ref D) C (.ok .next) s') :
  wpAny (model X.prog X.w) X.A (newSet (.type "set")) (fun acc sa3=>wpAny (model X.prog X.w) X.A (newFunctionEnv scope X.env.globals cl [] X.env.qual none .none (some X.env)) (fun cenv sa4 =>
   codeAny (model X.prog X.w) X.A (.compStart (.SetComp elt [⟨tg,iter,ifs,0⟩] scope pos) 0 (.ref it) acc { cenv with scope:=relabel scope X.env }) (RR acc cenv.locals) sa4) E sa3) E sa2:=by
 refine qfR (wpAny_newFunctionEnv (fun y hy=>(yZ ok hy).1) (by intro y hy;simp at hy) (fun hd1 hns1 hsb1=>?_) (jh ok));dsimp only at hns1 hsb1 ⊢;generalize hH2:sa2.heap.push (Zi X.w)=H2 at hns1 hsb1 ⊢;have hC:H2.objs.size=sa2.heap.objs.size+1:=by rw[<- hH2,JD]
 have hCle:sa2.heap.objs.size<=H2.objs.size:=by rw[hC];exact Nat.le_succ _
 have hDC:sa2.heap.objs.size≠H2.objs.size:=by rw[hC];exact qp (y4 _)
 have hlt:∀ b∈fp,b<sa2.heap.objs.size:=fun b hb=>by
  obtain⟨o,e,_⟩:=T.obj 0 _ st b hb;exact ql e
 have below:∀ b,b<sa2.heap.objs.size->b≠H2.objs.size:=fun b hb=>by rw[hC];exact qp (Nat.lt_succ_of_lt hb)
 have old:∀ b o,sa2.heap.get? b=some o->hd1.get? b=some o:=fun b o e=>hsb1.extBut b o (below b (ql e)) (qh _ (hH2 ▸ qh _ e));have hacc:hd1.get? sa2.heap.objs.size=some (Zi X.w):=hsb1.extBut _ _ hDC (qh _ (hH2 ▸ qA _ rfl));have Yok:=qcM (L:=L) (scope:=scope) (cl:=cl) (C:=H2.objs.size) (fp:=fp) I hsc hN ok hc1 hc2 hf hlt hCle;generalize hDn:sa2.heap.objs.size=D at *;generalize hCn:H2.objs.size=C at *;have sat1:tn 0 hd1:=T.keep _ _ _ st fun b _ o e=>old b o e;have cellD:∀ x c,cl.lookup x=some c->c≠D:=fun x c e=>by
  obtain⟨v,q⟩:=I.cell x c (hc1 x c e);rw[<- hDn];exact qp q.lt
 have fpY:∀ {H':Hp}{oD:Obj},(∀ b∈fp,H' b=none)->∀ b∈fp,YC (qO X L scope cl C sa2 H fp) [(D,oD)] H' b:=fun {H' oD} hn b hb=>by
  refine⟨hn b hb,(Yok.exf b hb).1,Yok.exfs b hb,.inl hb,(Yok.exf b hb).2,fun p hp=>?_⟩;have e:p=(D,oD):=by
   have:p∈[(D,oD)]:=hp;simpa using this
  subst e;exact Ne.symm (qp (hlt b hb))
 have nfsD:D∉(qO X L scope cl C sa2 H fp).fs:=fun z=>by
  obtain⟨_,o,ho,_⟩:=Yok.funs.mem z;exact absurd (show D<sa2.heap.objs.size from ql ho) (by rw[hDn];exact yz _)
 have pinD:∀ {G':St}{H':Hp}{s':Shared}{pl:List (Addr×Obj)}{bs:List (Addr×List Int)},Inv (qO X L scope cl C sa2 H fp) pl G' H' s'->qcf X.prog X.w D bs s'.heap->H' D=none →
   ∃ oD,s'.heap.get? D=some oD/\Inv (qO X L scope cl C sa2 H fp) [(D,oD)] G' H' s':=fun {G' H' s' pl bs} J e hn=>by
  obtain⟨o,es,ep,t,m,ho,ex,hd,r⟩:=e;refine⟨o,ho,J.pins_of fun p hp=>?_⟩;have e':p=(D,o):=by simpa using hp
  subst e';exact⟨ho,hn,hDC,nfsD,fun v z=>by rw[hd] at z;cases z⟩
 have Ia1:Inv (qO X L scope cl C sa2 H fp) [] (G++List.replicate L.length none) H { sa2 with heap:=hd1,toks:=sa2.toks+([]:List (Str×Value)).length } :=
  Zo I hsc hN ok hc1 Yok (by rw[hDn];exact hCle) rfl I.bare old hns1
 have HD:H D=none:=I.hok.fresh (by rw[hDn];exact qo _);have toP:∀ {Pv:Value->Prop}{h:Heap}{kss:List (List Int)},qbt X.prog X.w Pv h D kss->∃ bs:List (Addr×List Int),qcf X.prog X.w D bs h/\bs.map (·.2)=kss/\(∀ b∈bs,jl h (.ref b.1) b.2/\Pv (.ref b.1)):=fun {Pv h kss} S=>by
  obtain⟨o,es,ep,t,m,D0⟩:=S;obtain⟨bs,e1,e2,e3⟩:=qcD D0.en;subst e2;refine⟨bs,⟨o,es,ep,t,m,D0.ho,D0.ex,D0.hd,D0.pl,D0.ld,D0.mok,D0.si,e1,D0.nd⟩,rfl,fun b hb=>⟨e3 b hb,?_⟩⟩;exact D0.own (yL X.prog X.w b.2,Value.ref b.1) (by rw[e1];exact qF.mpr ⟨b,hb,rfl⟩)
 have P1:qcf X.prog X.w D [] hd1:=by
  obtain⟨bs,p1,p2,_⟩:=toP (qdj (prog:=X.prog) (Pv:=fun _=>True) hacc);have:bs=[]:=List.map_eq_nil_iff.mp p2;rw[this] at p1;exact p1
 obtain⟨W,⟨m0,w0⟩,turn⟩:=hw;have loop:codeAny (model X.prog X.w) X.A (.compLoop (.SetComp elt [⟨tg,iter,ifs,0⟩] scope pos) 0 (.ref it) (.ref D) (compEnvC scope cl C X.env)) (RR (.ref D) C)
   { sa2 with heap:=hd1,toks:=sa2.toks+([]:List (Str×Value)).length }:=by
  obtain⟨oD1,_,J1⟩:=pinD Ia1 P1 HD;refine Yx (fun n s'=>∃ i bs oD G' H',Inv (qO X L scope cl C sa2 H fp) [(D,oD)] G' H' s'/\qcf X.prog X.w D bs s'.heap/\tn i s'.heap/\(∀ b∈fp,H' b=none)/\W i n bs G' H')
   ?_ m0 ⟨0,[],oD1,_,H,J1,P1,sat1,fun b hb=>(hf b hb).1,w0⟩
  rintro n s3 ⟨i,bs,oD,G3,H3,I3,p3,st3,fr3,w3⟩;have hp3:=I3.pin (D,oD) (by simp);obtain⟨in3,tu⟩:=turn i n bs G3 H3 w3;rcases tu with⟨stop,q⟩ | ⟨go,hlen,Nx,hNx,step⟩
  .refine thn (T.done (qO X L scope cl C sa2 H fp) rfl rfl rfl hc i _ s3 G3 H3 _ I3 (fpY fr3) st3 stop) fun r s4 ⟨hr,I4⟩=>?_;subst hr;have hp4:=I4.pin (D,oD) (by simp);obtain⟨m4,hn4,_⟩:=I4.loc;have p4:qcf X.prog X.w D bs s4.heap:=p3.stay fun o e=>by
    rw[hp3.1] at e;cases e
    exact hp4.1
   exact hR D C m4 H3 s4 bs hn4 rfl (by rw[hC];exact y4 _) I4.free hDC (qhm I hf hDn I4 p4 hp4.2.1) (q D hp4.2.1)
  .refine thn (T.item (qO X L scope cl C sa2 H fp) rfl rfl rfl hc i _ s3 G3 H3 _ I3 (fpY fr3) st3 go) fun r s4 ⟨u,hr,h4⟩=>?_;subst hr;refine thn h4 fun _ s5 Og=>?_;obtain⟨x,H5,I5,r5,y5,st5,fr5⟩:=Og;have I5':=I5.pinned (fpY fr5) (T.obj _ _ st5);refine thn (hg cl C sa2 H fp _ s5 G3 H5 x u _ I5' r5 (step x H5 y5)) fun _ s6 Og=>?_;obtain⟨G6,H6,I6,q6⟩:=Og;refine thn (hi cl C sa2 H fp _ s6 G6 H6 _ I6 q6) fun ok s7 Og=>?_;obtain⟨H7,I7,q7⟩:=Og;have later:∀ {G':St}{H':Hp}{s':Shared},Inv (qO X L scope cl C sa2 H fp) ([(D,oD)]++JI fp s5.heap) G' H' s' →
     tn (i+1) s'.heap/\(∀ b∈fp,H' b=none)/\qcf X.prog X.w D bs s'.heap/\H' D=none:=fun {G' H' s'} J=>by
    refine⟨T.keep _ _ _ st5 fun b hb o e=>(J.pin (b,o) (qg _ (qg _ (yQ hb e)))).1,fun b hb=>?_,?_⟩
    .obtain ⟨o,e,d⟩:=T.obj _ _ st5 b hb;exact (J.pin (b,o) (qg _ (qg _ (yQ hb e)))).2.1
    .have z:=J.pin (D,oD) (qg _ (qS _ (by simp)));exact⟨p3.stay fun o e=>by rw[hp3.1] at e;cases e;exact z.1,z.2.1⟩
   cases ok with
   | false =>
    rw[if_neg (by simp)] at q7 ⊢;obtain⟨m',hm',w'⟩:=hNx _ _ _ q7;obtain⟨t1,t2,t3,t4⟩:=later I7;obtain⟨oD7,_,J7⟩:=pinD I7 t3 t4;exact⟨m',hm',i+1,bs,oD7,G6,H7,J7,t3,t1,t2,w'⟩
   | true =>
    rw[if_pos rfl] at q7 ⊢;refine thn (he cl C sa2 H fp _ s7 G6 H7 _ I7 q7) fun y s8 Og=>?_;obtain⟨v,H8,I8,r8,q8⟩:=Og;obtain⟨ks,tk8,in8,nx8⟩:=q8;obtain⟨t1,t2,t3,t4⟩:=later I8;obtain⟨⟨b,rfl,_⟩,_⟩:=id tk8;have r8:y=Value.ref b:=r8;subst r8;have kb:jl s8.heap (.ref b) ks:=I8.tupK tk8;have S8:=qlS I8 t3 in8 (fun v=>(∃ c∈bs,v=Value.ref c.1)\/v=Value.ref b) (fun c hc=>.inl ⟨c,hc,rfl⟩);have nbD:∀ b∈fp,b≠D:=fun b hb=>qp (hlt b hb);refine qit (A:=(qO X L scope cl C sa2 H fp).A) S8 kb (.inr rfl) hu (by rw[qc];exact yJ hlen (by decide)) (fun hin tk=>?_) fun hout h9 kss' tk sb S9 mem9=>?_
    .-- it was there
     obtain⟨m',hm',w'⟩:=hNx _ _ _ (nx8 bs (fun c hc=>.inl hc) (fun q=>⟨.inr,fun h=>h.elim (fun e=>by rw[e];exact hin) id⟩) (by obtain⟨_,_,_,_,_,_,_,_,_,_,_,_,_,nd⟩:=t3;exact nd));have I9:Inv (qO X L scope cl C sa2 H fp) [] G6 H8 { s8 with toks:=tk }:=(I8.pins_of (pins':=[]) (fun p hp=>by simp at hp)).turned (it:=D) (h':=s8.heap) (t':=tk) (fun b o hb e=>e) t4 hDC
      (.inr (by show sa2.heap.objs.size<=D;rw[hDn];exact qo _)) cellD (fun p hp=>by
       have:p∈([]:List (Addr×Obj)):=hp;simp at this)
     obtain⟨oD9,_,J9⟩:=pinD I9 t3 t4;exact⟨m',hm',i+1,bs,oD9,G6,H8,J9,t3,t1,t2,w'⟩
    .obtain ⟨bs',p9,e9,o9⟩:=toP S9;have hbs:∀ c∈bs',c∈bs\/(V.ref c.1=V.ref b/\c.2=ks):=fun c hc=>by
      obtain⟨k1,k2⟩:=o9 c hc;have kept:∀ {v:Value}{k:List Int},jl s8.heap v k->jl h9 v k:=fun t=>t.kept fun b o e hcl=>by
       refine sb.extBut b o (fun z=>?_) e;obtain⟨o',_,_,_,_,ho',ex',_⟩:=t3;rw[z,ho'] at e;cases e
       rw[ex'.1] at hcl;exact absurd hcl (by decide)
      rcases k2 with⟨c0,hc0,e⟩ | e
      .have e:c.1=c0.1:=by injection e
       have k0:jl h9 (.ref c.1) c0.2:=by rw[e];exact kept (I8.tupK (in8 c0 hc0))
       have:=(k1.key (prog:=X.prog) (w:=X.w)).inj (k0.key (prog:=X.prog) (w:=X.w));exact .inl (by rw[show c=c0 from Prod.ext e this];exact hc0)
      .have e:c.1=b:=by injection e
       have k0:jl h9 (.ref c.1) ks:=by rw[e];exact kept kb
       have:=(k1.key (prog:=X.prog) (w:=X.w)).inj (k0.key (prog:=X.prog) (w:=X.w));exact .inr ⟨by rw[e],this⟩
     obtain⟨m',hm',w'⟩:=hNx _ _ _ (nx8 bs' hbs (fun q=>by rw[e9];exact mem9 q) (by obtain⟨_,_,_,_,_,_,_,_,_,_,_,_,_,nd⟩:=p9;exact nd));have I9:Inv (qO X L scope cl C sa2 H fp) [] G6 H8 { s8 with heap:=h9,toks:=tk }:=(I8.pins_of (pins':=[]) (fun p hp=>by simp at hp)).turned (it:=D) (t':=tk) (fun b o hb e=>sb.extBut b o hb e) t4 hDC
      (.inr (by show sa2.heap.objs.size<=D;rw[hDn];exact qo _)) cellD (fun p hp=>by
       have:p∈([]:List (Addr×Obj)):=hp;simp at this)
     obtain⟨oD9,_,J9⟩:=pinD I9 p9 t4;exact⟨m',hm',i+1,bs',oD9,G6,H8,J9,p9,T.keep _ _ _ t1 fun b hb o e=>sb.extBut b o (nbD b hb) e,t2,w'⟩
 exact Ys loop (T.self _ 0 _ _ _ sat1 loop)
end L2
namespace L2
open W SetTable
theorem qj9 {g:TG}{tt:TT}{te:TE}
  (hu:X.A.units+8<cLine) (hc:X.calm=true) (hsc:X.env.scope=sc) (hN:X.N=N) (ok:jE sc N L scope=true)
  (hi:PI X tg iter wi) (hg:∀ cl C sa2 Ha2 fp,PG (qO X L scope cl C sa2 Ha2 fp) tg g) (hf:∀ cl C sa2 Ha2 fp,Ifs (qO X L scope cl C sa2 Ha2 fp) ifs tt) (he:∀ cl C sa2 Ha2 fp,PE (qO X L scope cl C sa2 Ha2 fp) elt te)
  (hs:∀ x,foldedSetIterable iter X.env x=pure x:=by intro _;rfl) :
  PE X (.SetComp elt [⟨tg,iter,ifs,0⟩] scope pos) (qlO X.prog X.w X.K L.length wi g tt te):=by
 intro Ob s G H Q I h;obtain⟨cl,hcl,hc1,hc2⟩:=JN (env:=X.env) (scope:=scope) fun y hy hfr=>by
  refine I.ok.has y.1 ?_;have z:=(yZ ok hy).2.2 hfr;rw[<- hsc] at z;exact z
 rw[arm_eval_SetComp];refine wpAny_comprehension_free (use:=none) rfl hs hcl (jh ok) (fun y hy hl=>((yZ ok hy).2.1 hl).1) (thn (hi Ob s G H _ I h) fun v s1 h1=>thn h1 fun itv s2 h2=>?_);obtain⟨it,fp,tn,J,H2,e,I2,T,st2,f2,hw⟩:=h2;subst e;refine qeM (RR:=fun acc C=>compPost (model X.prog X.w) X.A X.xe none (EP X Ob G Q) acc C) hu hc hsc hN ok hc1 hc2 hg hf he I2 T st2 f2 hw ?_;intro D C m H' s' bs hns hD hC hHC hDC J' q;refine⟨m,hns,fun h'' hs''=>⟨.ref D,upd H' D (qc4 X.prog X.w D bs),?_,rfl,q⟩⟩;have hsz:=I2.sz;refine J'.turned (it:=C) (t':=s'.toks) (fun b o hb e=>hs''.extBut b o hb e) (by rw[qV (Ne.symm hDC)];exact hHC) (Ne.symm (qp (yJ I2.lt hC))) (.inr (qt hsz (yn hC))) (fun x c e=>?_) (fun p hp=>?_)
 .obtain ⟨v,z⟩:=I2.cell x c e;exact qp (yJ z.lt hC)
 .exact qp (yJ (ql (I2.pin p hp).1) hC)
def qns (P:Program) (w:World) (K:W.Frag) (k:Nat) (ti:TId) (g:TGd) (tt:TTd) (te:TEd):TEd:=fun O U Q=>ti O U fun J U1=>J.n<4900/\∃ Pv:Nat->List (List Int)->Rho->Mu->Prop,Pv 0 [] (O++List.replicate k none) U1/\(∀ i ys O' U',i<=J.n->Pv i ys O' U'->J.ok U') ∧
 (∀ i ys O' U',i<J.n->Pv i ys O' U'->g (J.item i) O' U' fun O2 U2=>tt O2 U2 fun b U3=>if b=true then te O2 U3 fun y U4=>∃ z,z≠[]/\y = .d (JC z)/\Pv (i+1) (ys++[z]) O2 U4 else Pv (i+1) ys O2 U3) ∧
 ∀ ys O' U',Pv J.n ys O' U'->∀ ms,(∀ q,q∈ms ↔ q∈ys)->ms.Nodup->ms.length<4915->Q (.x (qeE P w K ms)) U'
theorem qhU [DecidableEq α]:∀ {ms kss:List α},ms.Nodup->(∀ q∈ms,q∈kss)->ms.length<=kss.length:=fun h1 h2=>List.Nodup.length_le_of_subset h1 h2
theorem qjM (h:up K (qns P w K k ti g tt te) G H Q):qlO P w K k (upI K ti) (upG K g) (upT K tt) (up K te) G H Q:=by
 obtain⟨O,U,Q0,hS,hM,h,cl⟩:=h;refine⟨O,U,_,hS,hM,h,fun J0 U1 J H1 q M1 s1 sim=>?_⟩;obtain⟨hn,Pv,h0,hok,hstep,hend⟩:=q;have S0:RelS K (O++List.replicate k none) U1 (G++List.replicate k none) H1:=by
  have S1:=hS.same s1;refine⟨by simp[S1.len],fun i e he=>?_⟩;by_cases hi:i<O.length
  .rw [qQ hi] at he;rw[qQ (by rw[<- S1.len];exact hi)];exact S1.get i e he
  .rw [q9 (by omega),yV] at he;split at he <;> cases he
 refine⟨fun i m bs G' H'=>m=J0.n - i/\i<=J0.n/\∃ ys O' U',ys.length<=i/\RelS K O' U' G' H'/\RelM K U' H'/\yr (mask U1 H1) (mask U' H')/\InS K (mask U' H') bs/\(∀ q,q∈bs.map (·.2) ↔ q∈ys)/\(bs.map (·.2)).Nodup/\Pv i ys O' U',⟨_,rfl,qZ _,[],_,U1,qo _,S0,M1,yr.refl _,(fun _ z=>nomatch z),(fun q=>by simp),.nil,h0⟩,?_⟩;rintro i m bs G' H' ⟨rfl,hi,ys,O',U',hy,S',M',s',hA,hm,nd,p⟩;refine⟨fun b hb=>(hA b hb).up,?_⟩;have sm:=sim U' H' M' s' (hok i ys O' U' hi p) i;have hbl:bs.length<=i:=by
  have:=qhU nd fun q hq=>(hm q).mp hq;rw[qc] at this;omega
 by_cases hlt:i<J0.n
 .obtain ⟨hgo,hyl⟩:=sm.1 hlt;refine .inr ⟨hgo,by omega,fun bs2 G2 H2=>∃ ys O' U',ys.length<=i+1/\RelS K O' U' G2 H2/\RelM K U' H2/\yr (mask U1 H1) (mask U' H2)/\InS K (mask U' H2) bs2/\(∀ q,q∈bs2.map (·.2) ↔ q∈ys)/\(bs2.map (·.2)).Nodup/\Pv (i+1) ys O' U',fun ys2 G2 H2 z=>⟨J0.n - (i+1),by omega,rfl,hlt,z⟩,fun x H2 y=>?_⟩;obtain⟨M2,s2,i2⟩:=hyl x H2 y;refine⟨_,O',U',_,i2,S'.same s2,M2,hstep i ys O' U' hlt p,fun O3 U3 G3 H3 q3 S3 M3 s3=>⟨O3,U3,_,S3,M3,q3,fun b U4 H4 q4 M4 s4=>?_⟩⟩;have st:=((s'.trans s2).trans s3).trans s4;cases b with
  | true =>
   refine ZO ⟨O3,U4,_,S3.same s4,M4,(by simpa using q4),fun e U5 v H5 q5 M5 s5 i5=>?_⟩;obtain⟨z,zn,rfl,q5⟩:=q5;have i5:Is K (mask U5 H5) v (JC z):=i5;have tz:Y5 K (mask U5 H5) v z:=by
    have:=IsAll.tups (K:=K) (us:=[v]) (kss:=[z]) (.cons i5 .nil) (fun k hk=>by rw[qE.mp hk];exact zn);cases this with
    | cons a b=>exact a
   have hA5:=hA.same (((s2.trans s3).trans s4).trans s5);refine⟨z,tz.up,fun b hb=>(hA5 b hb).up,fun bs' c1 c2 c3=>⟨ys++[z],O3,U5,by simp;omega,(S3.same s4).same s5,M5,st.trans s5,fun c hc=>?_,fun q=>?_,c3,q5⟩⟩
   .rcases c1 c hc with h | ⟨h1,h2⟩
    .exact hA5 c h
    .rw [h1,h2];exact tz
   .rw [c2 q,hm q,qB,qE];exact Or.comm
  | false=>exact YO ⟨ys,O3,U4,by omega,S3.same s4,M4,st,hA.same ((s2.trans s3).trans s4),hm,nd,by simpa using q4⟩
 .have e:i=J0.n:=by omega
  subst e;refine .inl ⟨sm.2 (qo _),fun D hD=>?_⟩;obtain⟨M4,s4,hn'⟩:=M'.laid (o:=qc4 P w D bs) hD;refine cl _ U' _ _ (hend ys O' U' p (bs.map (·.2)) hm nd (by rw[qc];omega)) M4 ((s1.trans s').trans s4) ⟨D,bs,rfl,?_,hA.same s4,rfl,nd,by rw[qc];omega⟩;rw[yG hn'];exact qU
theorem qnn
  (hu:X.A.units+64<cLine) (hc:X.calm=true) (hsc:X.env.scope=sc) (hN:X.N=N) (ok:jE sc N L scope=true)
  (hi:DI K X tg iter ti) (hg:∀ cl C sa2 Ha2 fp,DG K (qO X L scope cl C sa2 Ha2 fp) tg g) (hf:∀ cl C sa2 Ha2 fp,qjG K (qO X L scope cl C sa2 Ha2 fp) ifs tt) (he:∀ cl C sa2 Ha2 fp,DE K (qO X L scope cl C sa2 Ha2 fp) elt te)
  (hK:X.K=K:=by rfl) (hP:X.prog=P:=by rfl) (hw:X.w=w:=by rfl) (hs:∀ x,foldedSetIterable iter X.env x=pure x:=by intro _;rfl) :
  DE K X (.SetComp elt [⟨tg,iter,ifs,0⟩] scope pos) (qns P w K L.length ti g tt te):=by
 subst hK hP hw;exact PE.mono (qj9 (by omega) hc hsc hN ok hi hg hf he hs) fun _ _ _=>qjM
end L2
namespace L2
end L2
namespace L2
variable {G:List (Option V)}
def ql9 (X:Cx) (N':List Str):Cx:={ X with N:=N' }
theorem qc3 (h:(G.set j none)[i]?=some (some v)):i≠j/\G[i]?=some (some v):=by
 by_cases e:i=j
 .subst e;rw[List.getElem?_set_self' ] at h;cases hh:G[i]? with
  | none=>rw[hh] at h;cases h
  | some a=>rw[hh] at h;cases h
 .exact ⟨e,by rwa[yI (Ne.symm e)] at h⟩
theorem Cx.Ok.ren (ok:X.Ok):(ql9 X N').Ok :=
 ⟨ok.mod,ok.kind,ok.glob,ok.blt,ok.above,ok.inj,ok.has,ok.cab,ok.hd,ok.frames,ok.stk,ok.exf,ok.bs,ok.bsz,ok.noex,ok.exfs,ok.funs,ok.frf⟩
theorem Cx.Ok.unren (ok:(ql9 X N').Ok):X.Ok :=
 ⟨ok.mod,ok.kind,ok.glob,ok.blt,ok.above,ok.inj,ok.has,ok.cab,ok.hd,ok.frames,ok.stk,ok.exf,ok.bs,ok.bsz,ok.noex,ok.exfs,ok.funs,ok.frf⟩
theorem Inv.ren {d:Str}(I:Inv X Ob G H s):Inv (ql9 X (X.N.set j d)) Ob (G.set j none) H s :=
 ⟨Cx.Ok.ren I.ok,I.os,I.bare,I.base,by
  obtain⟨m,hn,h⟩:=I.loc;refine⟨m,hn,fun i x v e1 e2 hv=>?_⟩;obtain⟨hij,e2⟩:=qc3 e2;have e1:(X.N.set j d)[i]?=some x:=e1;rw[yI (Ne.symm hij)] at e1;exact h i x v e1 e2 hv,I.cell,I.free,I.freeC,I.pin,I.hok,by
  show (G.set j none).length=(X.N.set j d).length;rw[List.length_set,List.length_set];exact I.len⟩
theorem Inv.unren {d:Str}(I:Inv (ql9 X (X.N.set j d)) Ob G H s):Inv X Ob (G.set j none) H s :=
 ⟨Cx.Ok.unren I.ok,I.os,I.bare,I.base,by
  obtain⟨m,hn,h⟩:=I.loc;refine⟨m,hn,fun i x v e1 e2 hv=>?_⟩;obtain⟨hij,e2⟩:=qc3 e2;exact h i x v (show (X.N.set j d)[i]?=some x by rw[yI (Ne.symm hij)];exact e1) e2 hv,I.cell,I.free,I.freeC,I.pin,I.hok,by
  have:=I.len;have this:G.length=(X.N.set j d).length:=this;rw[List.length_set] at this;rw[List.length_set];exact this⟩
theorem RelS.forget (j:Nat) (h:RelS K O U G H):RelS K (O.set j none) U (G.set j none) H:=by
 refine⟨by simp[h.len],fun i e q=>?_⟩;by_cases hj:i=j
 .subst hj;rw[List.getElem?_set_self'] at q;cases hh:O[i]? with
  | none=>rw[hh] at q;cases q
  | some a=>rw[hh] at q;cases q
 .rw [yI (Ne.symm hj)] at q;obtain⟨v,e1,e2⟩:=h.get i e q;exact⟨v,by rw[yI (Ne.symm hj)];exact e1,e2⟩
def qln (j:Nat) (t:TSd):TSd:=fun D O U=>t { nx:=fun O' U'=>D.nx (O'.set j none) U',rt:=D.rt,bk:=fun O' U'=>D.bk (O'.set j none) U',ct:=fun O' U'=>D.ct (O'.set j none) U' } (O.set j none) U
theorem qgC {st:Stmt}{t:TSd}(j:Nat) (d:Str) (hN:X.N.set j d=N') (h:DS K (ql9 X N') st t):DS K X st (qln j t):=by
 subst hN;intro Ob s G H D I ⟨O,U,D0,hS,hM,ht,cl⟩;let D':Ends:={ nx:=fun G' H'=>D.nx (G'.set j none) H',rt:=D.rt,bk:=fun G' H'=>D.bk (G'.set j none) H',ct:=fun G' H'=>D.ct (G'.set j none) H' }
 refine qP (h Ob s (G.set j none) H D' I.ren ⟨O.set j none,U,_,hS.forget j,hM,ht,?_⟩) (fun f s' q=>?_) (fun _ _ x=>x)
 .exact ⟨fun O' U' G' H' a b c d=>cl.nx _ U' _ H' a (b.forget j) c d,cl.rt,fun O' U' G' H' a b c d=>cl.bk _ U' _ H' a (b.forget j) c d,fun O' U' G' H' a b c d=>cl.ct _ U' _ H' a (b.forget j) c d⟩
 .cases f with
  | next=>obtain⟨G',H',J,q⟩:=q;exact⟨_,H',J.unren,q⟩
  | brk=>obtain⟨G',H',J,q⟩:=q;exact⟨_,H',J.unren,q⟩
  | cont=>obtain⟨G',H',J,q⟩:=q;exact⟨_,H',J.unren,q⟩
  | ret u=>obtain⟨v,G',H',J,r,q⟩:=q;exact⟨v,_,H',J.unren,r,q⟩
end L2
namespace L2
theorem IsAll.set {d:PyData}(h:Is K H v d):∀ {vs:List V}{ds:List PyData}(j:Nat),IsAll K H vs ds->IsAll K H (vs.set j v) (ds.set j d)
 | _,_,_,.nil=>.nil
 | _,_,0,.cons _ r=>.cons h r
 | _,_,j+1,.cons i r=>.cons i (IsAll.set h j r)
end L2
namespace L2
def dgPut (to ti:TEd):TGd:=fun e O U R=>to O U fun o U1=>ti O U1 fun i U2=>match e,o,i with
 | .d d,.m p,.d (.int k)=>∃ U3 U4 ds,U2=U3++(p,.lst ds)::U4/\0<=k/\k.toNat<ds.length/\R O (U3++(p,.lst (ds.set k.toNat d))::U4)
 | _,_,_=>False
theorem qgI {i:Expr}{ti:TEd}(ho:DE K X o to) (hi:DE K X i ti)
  (ha:∀ v,assign (.Subscript o i pos) X.env v=(do
   let ov <- holding [v] (eval o X.env)
   let iv <- holding [v,ov] (eval i X.env)
   standAt pos
   holding [v,ov,iv] (setItem ov iv v)
   release [v,ov,iv] []):=by intro _;rfl):DG K X (.Subscript o i pos) (dgPut to ti):=by
 refine PG.mono (qbK ho hi ZF ha) fun v G H Q Og=>?_;obtain⟨e,O,U,Q0,i0,hS,hM,h,cl⟩:=Og;refine⟨O,U,_,hS,hM,h,fun o U1 v1 H1 q M1 s1 i1=>⟨O,U1,_,hS.same s1,M1,q,fun i U2 v2 H2 q2 M2 s2 i2=>?_⟩⟩;split at q2
 .rename_i d p k
  have i1:v1 = .ref p:=i1;subst i1;cases i2
  obtain⟨U3,U4,ds,rfl,hk,hlt,q2⟩:=q2;obtain⟨xs,ex,hA⟩:=M2.ob p (.lst ds) (by simp);have i0':=i0.same (s1.trans s2);have hx:ixN xs.length k=some k.toNat:=by
   unfold ixN;rw[if_pos hk,if_pos (by rw[hA.len];lia)]
  refine⟨p,xs,k,k.toNat,rfl,rfl,ex,hx,?_⟩;obtain⟨M4,s4⟩:=M2.write (H':=upd H2 p (.lst (xs.set k.toNat v))) (o':=.lst (ds.set k.toNat d)) (fun b u e n=>by rw[qV n];exact e) fun ss=>⟨_,qU,IsAll.set (Is.same ss i0') _ (IsAll.same ss hA)⟩;exact cl _ _ _ _ q2 (hS.same ((s1.trans s2).trans s4)) M4 ((s1.trans s2).trans s4)
 .exact q2.elim
end L2
namespace L2
variable {xs:List V}
theorem Room.u70 (r:Room k A):A.units+70<cLine:=by have:=r.un;lia
theorem qkI (h:PyData.canLayAll0 ds=true) {d:PyData}(hd:d∈ds):d.canLay0=true:=by
 induction ds with
 | nil=>exact (nomatch hd)
 | cons a t ih =>
  simp only[PyData.canLayAll0,ym] at h;rcases qG.mp hd with rfl | hd
  .exact h.1
  .exact ih h.2 hd
def rMulL (K:W.Frag):R2:=fun x y H Q=>∃ l xs k,x = .ref l/\y = .int k/\SqL K H l xs/\0<=k/\xs≠[]/\xs.length * k.toNat<=4000/\∀ p,H p=none->Q (.ref p) (upd H p (.lst (List.replicate k.toNat xs).flatten))
theorem qbx (h:yN xs its):∀ n,yN (List.replicate n xs).flatten (List.replicate n its).flatten
 | 0=>.nil
 | n+1=>by
  rw[List.replicate_succ,List.replicate_succ,j9,j9];exact h.append (qbx h n)
theorem qbY (its:List α):∀ (n:Nat) (acc:Array α),(List.foldl (fun x1 x2=>x1++x2) acc (List.replicate n its.toArray)).toList=acc.toList++(List.replicate n its).flatten
 | 0,acc=>by simp
 | n+1,acc=>by
  rw[List.replicate_succ,List.foldl_cons,qbY its n,List.replicate_succ,j9];simp
theorem qia (xs:List α) (n:Nat):(List.replicate n xs).flatten.length=n * xs.length:=by simp
theorem qkf:OpR X (binaryOp .Mult) (rMulL X.K):=by
 intro Ob s G H x y v u Q I rx ry h;obtain⟨l,xs,k,rfl,rfl,hH,hk,hne,hz,q⟩:=h;cases rx
 obtain⟨t,rfl⟩:=ry;obtain⟨its,r,pl,_⟩:=I.list hH;obtain⟨⟨cls,dd,data,sl⟩,ho,hc,n,hd⟩:=pl.isList;simp only at hc hd;subst hc hd;have h1:=r.length;have hpos:0<its.length:=by rw[<- h1];exact List.length_pos_iff.mpr hne
 have hk2:k.toNat<=4000:=qt (Nat.le_mul_of_pos_left _ (by rw[h1];exact hpos)) hz;rw[h1] at hz;refine wpAny_binaryOp_repeat_ref (T := "list") (U := "int") (by decide +kernel) ⟨_,ho,rfl⟩ (fun s'=>typeIs_int s' k t) noFill_list_mul F.fills_int_mul F.slot_int_rmul repeat_list F.slot_int_index.lookup
  (call_meets F.slot_int_rmul (typeIs_int s k t) F.entry_int_rmul (F.args_int_rmul_2 _ _) (lm_int_rmul_list_any k t l its.toArray n dd sl) ⟨ho,rfl,⟨_,ho,rfl⟩,?_⟩)
 refine call_meets F.slot_list_mul ⟨_,ho,rfl⟩ F.entry_list_mul (F.args_list_mul_2 _ _) (lm_list_mul_any l its.toArray n dd sl k t ?_ ?_ ?_) ⟨ho,?_⟩
 .unfold Builtin.List.listFitsIndex;simp;lia
 .simp only[qz];lia
 .unfold Builtin.List.listTooLong;simp only[qz,decide_eq_true_eq];rw[sizeLine_eq];lia
 .have he:its.toArray.isEmpty=false:=by
   rw[Array.isEmpty_eq_false_iff];intro z;have:its=[]:=by simpa using z
   rw[this] at hpos;simp at hpos
  rw[he];have e:(List.foldl (fun x1 x2=>x1++x2) #[] (List.replicate (if false=true then 0 else k.toNat) its.toArray))=(List.replicate k.toNat its).flatten.toArray:=by
   have:=qbY its k.toNat #[];rw[if_neg (by decide)];apply Array.ext';rw[this];simp
  rw[e];have hl:=qia xs k.toNat;exact⟨.ref _,_,I.lnew (t':=s.toks) (qbx r k.toNat) (by rw[hl,h1,Nat.mul_comm,sizeLine_eq];lia),rfl,q _ I.fresh⟩
theorem IsAll.rep (h:IsAll K H xs ds):∀ n,IsAll K H (List.replicate n xs).flatten (List.replicate n ds).flatten
 | 0=>.nil
 | n+1=>by
  rw[List.replicate_succ,List.replicate_succ,j9,j9];exact (IsAll.rep h n).app h
end L2
namespace L2
def qmb:R2d:=fun x y U Q=>∃ ds k,LstOf U x ds/\y = .d (.int k)/\0<=k/\ds≠[]/\ds.length * k.toNat<=4000/\∀ p,p∉U.map Prod.fst->Q (.m p) ((p,.lst (List.replicate k.toNat ds).flatten)::U)
theorem qk4 (hK:X.K=K:=by rfl):OpR X (binaryOp .Mult) (upR K qmb):=by
 subst hK;refine qkf.mono fun x y H Q h=>?_;obtain⟨U,e,e',Q0,M,i1,i2,q,cl⟩:=h;obtain⟨ds,k,h1,rfl,hk,hne,hz,q⟩:=q;cases i2
 obtain⟨p,xs,rfl,h2,h3⟩:=h1.get M i1;have hle:=h3.len;refine⟨p,xs,k,rfl,rfl,h2,hk,fun z=>hne ?_,by rw[hle];exact hz,fun r hr=>?_⟩
 .rw [z] at hle;exact List.length_eq_zero_iff.mp hle.symm
 .obtain ⟨_,_,hn⟩:=M.laid (o:=.lst (List.replicate k.toNat xs).flatten) hr;obtain⟨M4,s4⟩:=M.new (u:=.lst (List.replicate k.toNat xs).flatten) (o:=.lst (List.replicate k.toNat ds).flatten) hr fun ss=>⟨_,qU,(h3.rep _).same ss⟩;exact cl _ _ _ _ (q r hn) M4 s4 rfl
end L2
namespace L2
theorem qfa : ∀ {vs:List V}{as:List Addr},Paired (IsE K U H) vs (as.map En.m)->vs=as.map V.ref
 | _,[],.nil=>rfl
 | _,a::as,.cons h t=>by
  have h:_=V.ref a:=h;rw[h,qfa t];rfl
def dLstR (tr:TAd):TEd:=fun O U Q=>tr O U fun es U1=>∃ as:List Addr,es=as.map En.m/\as.length<=4000/\∀ p,p∉U1.map Prod.fst->Q (.m p) ((p,.refs as)::U1)
theorem qb3 (h:DA K X es tr):DE K X (.List es pos) (dLstR tr):=by
 refine PE.mono (qfu h) fun G H Q Og=>?_;obtain⟨O,U,Q0,hS,hM,h,cl⟩:=Og;refine⟨O,U,_,hS,hM,h,fun es' U1 vs H1 q M1 s1 i1=>?_⟩;obtain⟨as,rfl,hl,q⟩:=q;have e:=qfa i1;subst e;refine⟨yn (yR (by rw[qc];exact hl)),fun p hp=>?_⟩;obtain⟨_,_,hn⟩:=M1.laid (o:=.lst (as.map V.ref)) hp;obtain⟨M2,s2⟩:=M1.new (u:=.lst (as.map V.ref)) (o:=.refs as) hp fun ss=>qU;exact cl _ _ _ _ (q p hn) M2 (s1.trans s2) rfl
def qly (p:Addr) (as:List Addr):Itd:=⟨as.length,fun i=>.m (as.getD i 0),fun U=>(p,.refs as)∈U⟩
def diRf (te:TEd):TId:=fun O U Q=>te O U fun e U1=>∃ p as,e = .m p/\(p,MO.refs as)∈U1/\Q (qly p as) U1
theorem qgG {l:Expr}(hl:DE K X l te) (hK:X.K=K:=by rfl):DI K X tg l (diRf te):=by
 subst hK;refine PI.mono (qfq hl) fun G H R Og=>?_;obtain⟨O,U,Q0,hS,hM,h,cl⟩:=Og;refine⟨O,U,_,hS,hM,h,fun e U1 v H1 q M1 s1 i1=>?_⟩;obtain⟨p,as,rfl,hL,q⟩:=q;have i1:v = .ref p:=i1;subst i1;have h1:H1 p=some (.lst (as.map V.ref)):=M1.ob p _ hL;refine⟨p,rfl,⟨_,SqL.of h1⟩,cl _ U1 _ H1 q M1 s1 fun U' H' M' s' hok i=>?_⟩;have h3:H' p=some (.lst (as.map V.ref)):=M'.ob p _ hok;refine⟨fun hi=>⟨⟨_,(as.map V.ref)[i]'(by rw[qc];exact hi),SqL.of h3,qf _⟩,?_⟩,fun hi=>⟨_,SqL.of h3,by rw[qc];exact hi⟩⟩;rintro x H2 ⟨rfl,hx⟩;refine⟨M',yr.refl _,?_⟩;have:=hx _ (SqL.of h3);have hi':i<as.length:=hi;rw[qK,qf hi'] at this;show x = .ref (as.getD i 0);rw[qX,qf hi'];exact (Option.some.inj this).symm
theorem forRf {as:List Addr}{tb:TSd}{D:EndsD}(Pv:Nat->Rho->Mu->Prop) (h0:Pv 0 O U) (hok:∀ i O' U',Pv i O' U'->(p,MO.refs as)∈U')
  (hs:∀ i a O' U',as[i]?=some a->Pv i O' U'->g (.m a) O' U' fun O2 U2=>tb { D with nx:=Wks (Pv (i+1)),ct:=Wks (Pv (i+1)),bk:=D.nx } O2 U2) (hd:∀ O' U',Pv as.length O' U'->D.nx O' U') :
  ∃ Pv:Nat->Rho->Mu->Prop,Pv 0 O U/\(∀ i O' U',i<=(qly p as).n->Pv i O' U'->(qly p as).ok U') ∧
   (∀ i O' U',i<(qly p as).n->Pv i O' U'->g ((qly p as).item i) O' U' fun O2 U2=>tb { D with nx:=Wks (Pv (i+1)),ct:=Wks (Pv (i+1)),bk:=D.nx } O2 U2)/\∀ O' U',Pv (qly p as).n O' U'->D.nx O' U':=by
 refine⟨Pv,h0,fun i O' U' _ q=>hok i O' U' q,fun i O' U' hi q=>?_,hd⟩;have hi:i<as.length:=hi;show g (.m (as.getD i 0)) O' U' _;rw[qX,qf hi];exact hs i _ O' U' (qf hi) q
end L2
namespace L2
open W
end L2
namespace L2
open W SetTable
section
variable {S1:Addr}{k1:List (List Int)}
theorem qkG (S:qbt prog w Pv s.heap S1 k1) (tb:jl s.heap (.ref b) ks) (hu:A.units<cLine) {Q:Option Nat->Shared->Prop}(q:∀ r:Option Nat,r.isSome=decide (ks∈k1)->Q r s):wpAny (model prog w) A (setFind S1 (.ref b) (yL prog w ks)) Q E s:=by
 obtain⟨o,es,ep,t,m,D⟩:=S;have T:=D.si.tab;have hle:=D.mok.le;obtain⟨j,q1,q2⟩:=T.free (yn hle.1);obtain⟨K,K1,K2⟩:=D.mok.full.walk (yL prog w ks) q1;have m127:m<=8191:=by have:=D.mok;unfold Jy at this;lia
 show wpAny (model prog w) A (setFindIn S1 (.ref b) (yL prog w ks) (99999+1)) Q E s;unfold setFindIn;refine qa (ja D.ho D.hd D.fits ?_);dsimp only;rw[if_neg (by simp[byScan,Value.scannable])];refine qa ?_;unfold setSearch;refine Z1 D tb hu (adding:=false) (fun i ei=>?_) (fun no j' _ _ _=>?_) (K:=K) (by rw[K2];exact q2) K1 100000 0 none (by show t.probeStart _=_;rw[qc0,T.mask]) (qZ _) (by lia) fun l z=>absurd z (by lia)
 .exact qe (q (some i) (by rw[qN (List.mem_of_getElem? ei)];rfl))
 .exact qe (q none (by rw[yi no];rfl))
theorem qcL (S:qbt prog w Pv s.heap S1 k1) (tb:jl s.heap (.ref b) ks) (hu:A.units+64<cLine) {Q:Bool->Shared->Prop}(q:Q (decide (ks∈k1)) { s with toks:=s.toks+(ks.length+1) }):wpAny (model prog w) A (contains (.ref S1) (.ref b)) Q E s:=by
 have S':=S;obtain⟨o,es,ep,t,m,D⟩:=S;have T:s.TypeIs (.ref S1) "set" := ⟨o,D.ho,D.ex.1⟩;unfold contains
 try with_reducible refine yf ?_
 refine qa (wpAny_specialOf T F.slot_set_contains.lookup ?_);show wpAny _ _ (if (some (Value.builtin "set.__contains__") == some Value.none)=true then _ else _) _ E s;rw[if_neg (by rw[beq_builtin_none];exact JS)];refine qa (wpAny_callSpecialUnlessNone?_slot (name:=Str.ofString "__contains__") T F.slot_set_contains
  (jC F.slot_set_contains T entry_set_contains ?_ (F.args_set_contains_2 _ _)))
 unfold Builtin.«frozenset.__contains__» Builtin.Frozenset.oneOther;simp only[List.isEmpty_nil,bind_assoc];unfold Builtin.Frozenset.addrOf Builtin.Frozenset.withSetAsKey setContains;refine qa (qe ?_)
 try dsimp only
 refine qa (qe ?_)
 try dsimp only
 refine qa (wpAny_tryCatch ?_);refine yf ?_;have hu1:A.in1.units<cLine:=by show A.units+_<_;lia
 refine qa (wpAny_pyHash_tuple hu1 (tb.key (prog:=prog) (w:=w)) ?_);refine qa (qkG (s:={ s with toks:=s.toks+(ks.length+1) }) S' tb hu1 fun r hr=>?_);refine qe ?_;show wpAny _ _ (ret (Value.bool r.isSome)) _ _ _;rw[hr];exact qe ⟨_,rfl,wpAny_truthy_bool q⟩
end
def rInT (X:Cx) (neg:Bool):R2:=fun x y H Q=>∃ (S:Addr) (bs:List (Addr×List Int)) (ks:List Int),y = .ref S/\H S=some (qc4 X.prog X.w S bs)/\InS X.K H bs/\Y5 X.K H x ks/\Q (.bl (if neg then !decide (ks∈bs.map (·.2)) else decide (ks∈bs.map (·.2)))) H
theorem qfC (hu:X.A.units+64<cLine):OpR X (compareOp .NotIn) (rInT X true):=by
 intro Ob s G H x y v u Q I rx ry h;obtain⟨S,bs,ks,rfl,h1,h2,h3,q⟩:=h;cases ry
 obtain⟨⟨a,rfl,_⟩,_⟩:=id h3;cases rx
 show wpAny _ _ (do return Value.bool (!(<- contains (Value.ref S) (Value.ref a)))) _ _ s;exact qa (qcL (I.setT h1 h2) (I.tupK h3) hu (qe ⟨.bl _,H,I.tok _,rfl,q⟩))
def rdInT (P:Program) (w:World) (K:W.Frag) (neg:Bool):R2d:=fun x y U Q=>∃ (ms:List (List Int)) (ks:List Int),x = .d (JC ks)/\ks≠[]/\y = .x (qeE P w K ms)/\Q (.d (.bool (if neg then !decide (ks∈ms) else decide (ks∈ms)))) U
theorem qhg (h:Is K H v (JC ks)) (hn:ks≠[]):Y5 K H v ks:=by
 unfold JC at h;cases h with
 | @tup a xs _ h1 h2 =>
  rw[h2.ints_of] at h1;exact⟨⟨a,rfl,h1⟩,hn⟩
theorem qec (hu:X.A.units+64<cLine) (hK:X.K=K:=by rfl) (hP:X.prog=P:=by rfl) (hw:X.w=w:=by rfl):OpR X (compareOp .NotIn) (upR K (rdInT P w K true)):=by
 subst hK hP hw;refine (qfC hu).mono fun x y H Q h=>?_;obtain⟨U,e,e',Q0,M,i1,i2,q,cl⟩:=h;obtain⟨ms,ks,rfl,hn,rfl,q⟩:=q;obtain⟨S,bs,rfl,h1,h2,rfl,h4,h5⟩:=i2;exact⟨S,bs,ks,rfl,yB _ _ h1,fun b hb=>(h2 b hb).up,(qhg i1 hn).up,cl _ U _ H q M (yr.refl _) (.bl _)⟩
def qmn (K:W.Frag):V->List V->Hp->VK->Prop:=fun x vs H Q=>∃ (l:Addr) (xs:List V) (ds:List PyData) (y:V) (d:PyData) (j:Nat),x = .ref l/\vs=[y]/\SqL K H l xs/\IsAll K H xs ds/\Is K H y d/\PyData.canLayAll0 ds=true/\SeqAt.shaped d=true ∧
 j<ds.length/\ds.length<=4000/\(∃ z,ds[j]?=some z/\z.eqv d=true)/\(∀ i z,i<j->ds[i]?=some z->z.eqv d=false)/\Q (.int (j:Nat)) H
theorem qbN (hu:X.A.units+70<cLine):MtR X "list.index" (qmn X.K):=by
 intro Ob s G H x xs v us Q I rx rs h;obtain⟨l,zs,ds,y,d,j,rfl,rfl,hq,hA,hy,hl,hs,hj,hj2,hit,hno,q⟩:=h;cases rx
 obtain⟨u,rfl,ry⟩:=qar rs;obtain⟨its,rv,pl,hz⟩:=I.list hq;obtain⟨⟨cls,dd,data,sl⟩,ho,hc,n,hd⟩:=pl.isList;simp only at hc hd;subst hc hd;obtain⟨bs,rb⟩:=hy.reads I ry;unfold SeqAt.shaped at hs;rw[ym] at hs;have hdep:=qJ hs.2;have hlen:its.length=ds.length:=by rw[<- rv.length,hA.len]
 have rd:∀ (i:Nat) (z:Value),its[i]?=some z->∃ dz as,ds[i]?=some dz/\SeqAt.readOf s.heap z=dz/\Reads s.heap z dz as/\dz.canLay0=true:=fun i z ei=>by
  have hi:i<zs.length:=by rw[rv.length];exact (qm.mp ei).1
  obtain⟨dz,e1,hz1⟩:=hA.get (qf hi);obtain⟨uz,e2,rz⟩:=yN.get rv (qf hi);rw[ei] at e2;cases e2
  obtain⟨as,ra⟩:=hz1.reads I rz;have lz:=qkI hl (List.mem_of_getElem? e1);exact⟨dz,as,e1,SeqAt.readOf_eq lz ra,ra,lz⟩
 refine call_meets F.slot_list_index ⟨_,ho,rfl⟩ F.entry_list_index (F.args_list_index_2 _ _) (SeqAt.list_indexAt l its.toArray n dd sl u (fun z=>(SeqAt.readOf s.heap z).eqv d) j (by simp;lia) (by lia) ?_ ?_) ⟨ho,fun z hz=>?_,?_⟩
 .have hj':j<its.length:=by lia
  obtain⟨dz,as,e1,e2,_,_⟩:=rd j its[j] (qf hj');obtain⟨z',e3,e4⟩:=hit;rw[e1] at e3;cases e3
  show (SeqAt.readOf s.heap its.toArray[j]).eqv d=true;simp only[List.getElem_toArray];rw[e2];exact e4
 .intro m hm hmj;have hm':m<its.length:=by simpa using hm
  obtain⟨dz,as,e1,e2,_,_⟩:=rd m its[m] (qf hm');show (SeqAt.readOf s.heap its.toArray[m]).eqv d=false;simp only[List.getElem_toArray];rw[e2];exact hno m dz hmj e1
 .have hz:z∈its:=by simpa using hz
  obtain⟨i,ei⟩:=yk hz;obtain⟨dz,as,e1,e2,ra,lz⟩:=rd i z ei;rw[e2];refine SeqAt.eqAt_reads dz d _ s z u as bs ra rb lz hs.1 ?_;show X.A.units+1+_<_;lia
 .exact ⟨.int _,H,I.tok _,⟨_,rfl⟩,q⟩
def dIdxD (to:TEd) (tr:TAd):TEd:=fun O U Q=>to O U fun x U1=>∃ ds,LstOf U1 x ds/\tr O U1 fun es U2=>LstOf U2 x ds/\match es with
 | [.d d]=>PyData.canLayAll0 ds=true/\SeqAt.shaped d=true/\∃ j:Nat,j<ds.length/\ds.length<=4000/\(∃ z,ds[j]?=some z/\z.eqv d=true)/\(∀ i z,i<j->ds[i]?=some z->z.eqv d=false)/\Q (.d (.int (j:Nat))) U2
 | _=>False
theorem qdD (ho:DE K X o to) (ha:DA K X [e] tr) (hK:X.K=K:=by rfl)
  (h:PE X o (up K to)->PA X [e] (upA K tr)->PE X (.Call (.Attribute o "index" p1) [e] [] pos) (tBM X.K "list" (qmn X.K) (up K to) (upA K tr))):DE K X (.Call (.Attribute o "index" p1) [e] [] pos) (dIdxD to tr):=by
 subst hK;refine PE.mono (h ho ha) fun G H Q Og=>?_;obtain⟨O,U,Q0,hS,hM,h,cl⟩:=Og;refine⟨O,U,_,hS,hM,h,fun x U1 v H1 q M1 s1 i1=>?_⟩;obtain⟨ds,h1,q⟩:=q;obtain⟨p,xs,rfl,a1,a2⟩:=h1.get M1 i1;refine⟨.inl ⟨rfl,_,a1⟩,O,U1,_,hS.same s1,M1,q,fun es U2 vs H2 q2 M2 s2 i2=>?_⟩;obtain⟨h2,q2⟩:=q2;obtain⟨p',xs',e',b1,b2⟩:=h2.get M2 (i1.same s2);cases e'
 split at q2
 .obtain ⟨v,rfl,h3⟩:=YG i2;obtain⟨c1,c2,j,c3,c4,c5,c6,q2⟩:=q2;exact⟨p,xs',ds,v,_,j,rfl,rfl,b1,IsAll.same yB b2,Is.same yB h3,c1,c2,c3,c4,c5,c6,cl _ U2 _ H2 q2 M2 (s1.trans s2) (.int _)⟩
 .exact q2.elim
end L2
namespace L2
variable {f:Str}{s:SpD}
def qg3 (f:Str) (y:En):List (Str×En)->List (Str×En)
 | []=>[(f,y)]
 | (g,x)::t=>if g=f then (g,y)::t else (g,x)::qg3 f y t
theorem qgu : ∀ {vs:List (Str×V)}{fs:List (Str×En)}{x:En},PySem.Paired (qg0 K U H) vs fs->fs.lookup f=some x->∃ v,vs.lookup f=some v/\IsE K U H v x
 | _,_,_,.nil,e=>by cases e
 | (g,v)::vs,(g',y)::fs,x,.cons ⟨h1,h2⟩ t,e=>by
  have h1:g=g':=h1;subst h1;simp only[yh] at e ⊢;split at e
  .cases e
   exact⟨v,rfl,h2⟩
  .exact qgu t e
theorem qaj : ∀ {vs:List (Str×V)}{fs:List (Str×En)},PySem.Paired (qg0 K U H) vs fs->fs.lookup f=none->vs.lookup f=none
 | _,_,.nil,_=>rfl
 | (g,v)::vs,(g',y)::fs,.cons ⟨h1,h2⟩ t,e=>by
  have h1:g=g':=h1;subst h1;simp only[yh] at e ⊢;split at e
  .cases e
  .exact qaj t e
theorem qgt {y:En}(hy:IsE K U H v y):∀ {vs:List (Str×V)}{fs:List (Str×En)},PySem.Paired (qg0 K U H) vs fs->PySem.Paired (qg0 K U H) (qaV f v vs) (qg3 f y fs)
 | _,_,.nil=>.cons ⟨rfl,hy⟩ .nil
 | (g,u)::vs,(g',z)::fs,.cons ⟨h1,h2⟩ t=>by
  have h1:g=g':=h1;subst h1;unfold qaV qg3;by_cases c:g=f
  .rw [if_pos c,if_pos c];exact .cons ⟨rfl,hy⟩ t
  .rw [if_neg c,if_neg c];exact .cons ⟨rfl,h2⟩ (qgt hy t)
section
variable {m:Str}
def dFld (C:Addr) (f:Str) (te:TEd):TEd:=fun O U Q=>te O U fun e U1=>∃ p dx fs x,e = .m p/\(p,MO.ins C dx fs)∈U1/\fs.lookup f=some x/\Q x U1
theorem Zn (c:Cls X.K C) (n:YB X.K C f) (he:DE K X e te) (hb:attributeBase e f X.env (eval e X.env)=eval e X.env):DE K X (.Attribute e f pos) (dFld C f te):=by
 refine PE.mono (qmC he hb) fun G H Q Og=>?_;obtain⟨O,U,Q0,hS,hM,h,cl⟩:=Og;refine⟨O,U,_,hS,hM,h,fun e U1 v H1 q M1 s1 i1=>?_⟩;obtain⟨p,dx,fs,x,rfl,hm,hl,q⟩:=q;have i1:v = .ref p:=i1;subst i1;obtain⟨vs,hv,pv⟩:=M1.ob p _ hm;obtain⟨u,e1,e2⟩:=qgu pv hl;exact⟨p,C,dx,vs,u,rfl,hv,c,n,e1,cl _ U1 u H1 q M1 s1 e2⟩
def dsFld (C:Addr) (f:Str) (to tv:TEd):TSd:=fun D O U=>tv O U fun y U1=>to O U1 fun e U2=>∃ p dx fs fs' Ua Ub,e = .m p/\U2=Ua++(p,MO.ins C dx fs)::Ub/\qg3 f y fs=fs'/\fs.length<1000/\D.nx O (Ua++(p,MO.ins C dx fs')::Ub)
theorem qmE (s:yr (mask U H) (mask U' H')):∀ {vs:List V}{es:List En},PySem.Paired (IsE K U H) vs es->PySem.Paired (IsE K U' H') vs es
 | _,_,.nil=>.nil
 | _,_,.cons h t=>.cons (h.same s) (qmE s t)
theorem qgD {tv:TEd}(c:Cls X.K C) (n:YB X.K C f) (ho:DE K X o to) (hv:DE K X value tv) (hs:swapsWith value (some (.Attribute o f pos')) pos.line X.env=pure false:=by rfl):DS K X (.Assign [.Attribute o f pos'] value pos) (dsFld C f to tv):=by
 refine PS.mono (qmv ho hv hs) fun D G H Og=>?_;obtain⟨O,U,D0,hS,hM,h,cl⟩:=Og;refine⟨O,U,_,hS,hM,h,fun y U1 u H1 q M1 s1 i1=>⟨O,U1,_,hS.same s1,M1,q,fun e U2 v2 H2 q2 M2 s2 i2=>?_⟩⟩;obtain⟨p,dx,fs,fs',Ua,Ub,rfl,rfl,rfl,hl,q2⟩:=q2;have i2:v2 = .ref p:=i2;subst i2;obtain⟨vs,hv,pv⟩:=M2.ob p (.ins C dx fs) (by simp);obtain⟨M4,s4⟩:=M2.write (H':=upd H2 p (.ins C dx (qaV f u vs))) (o':=.ins C dx (qg3 f y fs)) (fun b u e n=>by rw[qV n];exact e) fun ss=>⟨_,qU,qgt (i1.same (s2.trans ss)) (qg0.all ss pv)⟩;exact⟨p,C,dx,vs,rfl,hv,c,n,by rw[PySem.Paired.length pv];exact hl,cl.nx _ _ _ _ q2 (hS.same ((s1.trans s2).trans s4)) M4 ((s1.trans s2).trans s4)⟩
def OwnM (P:Program) (w:World) (K:W.Frag) (mg:Str->Option Value) (base:Heap) (CX:CXT) (k:Nat) (x:Str) (C:Addr) (ps:List Str) (sp:Sp):Prop :=
 ∃ (f:Addr) (fd:FuncData),FnOk P w K mg base CX k f fd ps sp/\mg x=some (.ref C)/\Mk K C f/\Zs K fd ps []
def y3 (P:Program) (w:World) (K:W.Frag) (mg:Str->Option Value) (base:Heap) (CX:CXT) (k:Nat) (C:Addr) (m:Str) (ps:List Str) (sp:Sp):Prop :=
 ∃ (f:Addr) (fd:FuncData),FnOk P w K mg base CX k f fd ps sp/\Cls K C/\Meth K C m f/\Zs K fd ps []
def dMake (C:Addr) (s:SpD) (tr:TAd):TEd:=fun O U Q=>tr O U fun es U1=>∀ p dx,p∉U1.map Prod.fst->s (.m p::es) ((p,MO.ins C dx [])::U1) fun e U2=>e = .d .none/\Q (.m p) U2
theorem qnq (Oa:OwnM X.prog X.w X.K X.mg X.base CX k x C ps (yq K s)) (hX:NoX CX) (hr:Room (k+1) X.A) (hg:Gl X x) (ha:DA K X (e::es) tr) (hdb:(x == ("__debug__" : Str))=false:=by decide)
  (he:starEach (e::es) X.env=(false,eval e X.env)::starEach es X.env:=by rfl) (hpl:(backTo pos (starEach es X.env)).any (·.1)=false:=by rfl):DE K X (.Call (.Name x p1) (e::es) [] pos) (dMake C s tr):=by
 obtain⟨g,fd,F,hm,M,hb⟩:=Oa;refine PE.mono (qkc M F hr hg hm hb .nil (qhI hX) ha hdb he hpl) fun G H Q Og=>?_;obtain⟨O,U,Q0,hS,hM,h,cl⟩:=Og;refine⟨O,U,_,hS,hM,h,fun es U1 vs H1 q M1 s1 i1=>?_⟩;intro y dx hy hdx hne;obtain⟨M2,s2,n2⟩:=M1.laid (o:=.own y) hdx;have hy2:upd H1 dx (.own y) y=none:=by rw[qV hne.symm];exact hy
 obtain⟨M3,s3⟩:=M2.new (u:=.ins C dx []) (o:=.ins C dx []) hy2 fun ss=>⟨[],qU,.nil⟩;obtain⟨_,_,n3⟩:=M2.laid (o:=.ins C dx []) hy2;have st:=s2.trans s3;refine⟨(y,.ins C dx [])::U1,.m y::es,_,M3,.cons rfl (by simpa using qmE st i1),q y dx n3,?_⟩;rintro e U' v H' ⟨rfl,q'⟩ M' s' i';cases i'
 exact⟨rfl,cl _ U' _ H' q' M' ((s1.trans st).trans s') rfl⟩
def qnt (C:Addr) (m:Str) (s:SpD) (to:TEd) (tr:TAd):TEd:=fun O U Q=>to O U fun e U1=>∃ p dx fs,e = .m p/\(p,MO.ins C dx fs)∈U1/\fs.lookup m=none/\tr O U1 fun es U2=>s (.m p::es) U2 Q
theorem Yz (Oa:y3 X.prog X.w X.K X.mg X.base CX k C m ps (yq K s)) (hX:NoX CX) (hr:Room k X.A) (ho:DE K X o to) (ha:DA K X (e::es) tr)
  (hst:starEach (e::es) X.env=(false,eval e X.env)::starEach es X.env:=by rfl) (hpl:(backTo pos (starEach es X.env)).any (·.1)=false:=by rfl)
  (ht:eval (.Call (.Attribute o m apos) (e::es) [] pos) X.env=(do
   let ov <- eval o X.env
   standAt apos.atName
   let (f,first) <- holding [ov] (getMethod ov m pl)
   callWith pos f first (backTo pos (starEach (e::es) X.env)) (backToKw pos (keywordEach [] X.env))):=by rfl):DE K X (.Call (.Attribute o m apos) (e::es) [] pos) (qnt C m s to tr):=by
 obtain⟨g,fd,F,c,hm,hb⟩:=Oa;refine PE.mono (Z7 ho c hm F hr hb .nil (qhI hX) ha hst hpl ht) fun G H Q Og=>?_;obtain⟨O,U,Q0,hS,hM,h,cl⟩:=Og;refine⟨O,U,_,hS,hM,h,fun e U1 v H1 q M1 s1 i1=>?_⟩;obtain⟨p,dx,fs,rfl,hmem,hl,q⟩:=q;have i1:v = .ref p:=i1;subst i1;obtain⟨vs,hv,pv⟩:=M1.ob p _ hmem;refine⟨p,dx,vs,rfl,hv,qaj pv hl,O,U1,_,hS.same s1,M1,q,fun es U2 us H2 q2 M2 s2 i2=>?_⟩;exact⟨U2,.m p::es,Q0,M2,.cons rfl (by simpa using i2),q2,cl.same (s1.trans s2)⟩
theorem qgL (Oa:y3 X.prog X.w X.K X.mg X.base CX k C m ps (yq K s)) (hX:NoX CX) (hr:Room k X.A) (ho:DE K X o to)
  (ht:eval (.Call (.Attribute o m apos) [] [] pos) X.env=(do
   let ov <- eval o X.env
   standAt apos.atName
   let (f,first) <- holding [ov] (getMethod ov m pl)
   callWith pos f first (backTo pos (starEach [] X.env)) (backToKw pos (keywordEach [] X.env))):=by rfl):DE K X (.Call (.Attribute o m apos) [] [] pos) (qnt C m s to dNil):=by
 obtain⟨g,fd,F,c,hm,hb⟩:=Oa;refine PE.mono (qhF ho c hm F hr hb .nil (qhI hX) ht) fun G H Q Og=>?_;obtain⟨O,U,Q0,hS,hM,h,cl⟩:=Og;refine⟨O,U,_,hS,hM,h,fun e U1 v H1 q M1 s1 i1=>?_⟩;obtain⟨p,dx,fs,rfl,hmem,hl,q⟩:=q;have i1:v = .ref p:=i1;subst i1;obtain⟨vs,hv,pv⟩:=M1.ob p _ hmem;refine⟨p,dx,vs,rfl,hv,qaj pv hl,?_⟩;exact⟨U1,[.m p],Q0,M1,.cons rfl .nil,q,cl.same s1⟩
end
end L2
namespace L2
open W
variable {xs:List (List Int×Addr×Value)}
abbrev kT (P:Program) (w:World):HeapKind P w (List Int):=tupleKind (intKind P w)
section
variable {P:Nat->Value->Prop}{St:Nat->Shared->Prop}
def qiu (P:Program) (w:World) (h:Heap) (d:Addr) (xs:List (List Int×Addr×Value)):Prop :=
 ∃ o es ep,h.get? d=some o/\o.ExactDict/\o.data = .dict es ep/\es.toList=xs.map (entryOfKey (kT P w))/\(xs.map (·.1)).Nodup
theorem qiu.at {P:Program}{d:Addr}(r:qiu P w h d xs) (k:∀ o,h.get? d=some o->h'.get? d=some o):qiu P w h' d xs:=by
 obtain⟨o,es,ep,ho,r⟩:=r;exact⟨o,es,ep,k _ ho,r⟩
theorem qiu.of {P:Program}{d:Addr}(r:qiu P w h d xs) (hk:∀ x∈xs,IsTupleKey (intKind P w) h x.1 x.2.1):h.DictOfH (kT P w) d xs:=by
 obtain⟨o,es,ep,h1,h2,h3,h4,h5⟩:=r;exact⟨o,es,ep,h1,h2,h3,h4,hk,h5⟩
theorem qiu.get {P:Program}{d:Addr}(r:h.DictOfH (kT P w) d xs):qiu P w h d xs:=by
 obtain⟨o,es,ep,h1,h2,h3,h4,_,h5⟩:=r;exact⟨o,es,ep,h1,h2,h3,h4,h5⟩
end
end L2
namespace L2
open W
end L2
namespace L2
theorem Inv.room0 (I:Inv X Ob G H s):sysModules<s.heap.objs.size :=
 yJ (show sysModules<mainGlobals by decide) (I.mod.glob.keeps I.bk).lt
end L2
namespace L2
open W
variable {k:List Int}{ks:List (List Int)}
abbrev qea (bs:List (Addr×List Int)):List (List Int×Addr×Value):=bs.map fun b=>(b.2,b.1,Value.bool true)
def qlB (P:Program) (w:World) (a:Addr) (bs:List (Addr×List Int)) (h:Heap):Prop:=qiu P w h a (qea bs)/\(a == sysModules)=false
def qcH (P:Program) (w:World) (a:Addr) (bs:List (Addr×List Int)):HO:=.ext (qlB P w a bs)
theorem qlB.ok {bs:List (Addr×List Int)}(p:qlB P w a bs h):jK P w H h a (qcH P w a bs):=by
 refine⟨p,?_,fun h1 h2 p1 k=>⟨p1.1.at k,p1.2⟩⟩;obtain⟨⟨o,_,_,ho,_⟩,_⟩:=p;exact⟨o,ho⟩
theorem qgz {bs:List (Addr×List Int)}:∀ x∈qea bs,x.2.2=Value.bool true:=fun x hx=>by
 obtain⟨b,_,rfl⟩:=qF.mp hx;rfl
theorem qgA (bs:List (Addr×List Int)):(qea bs).map (·.1)=bs.map (·.2):=by
 unfold qea;rw[y6];rfl
theorem qei {xs:List (List Int×Addr×Value)}:(atKey xs k).isSome=decide (k∈xs.map (·.1)):=by
 unfold atKey;rw[Option.isSome_map];induction xs with
 | nil=>rfl
 | cons x xs ih =>
  rw[List.find?_cons];by_cases h:x.1=k
  .simp [h]
  .have h2:¬ k=x.1:=fun z=>h z.symm;rw[yi h];rw[show decide (k∈List.map (fun x=>x.1) (x::xs))=decide (k∈List.map (fun x=>x.1) xs) from by simp[h2]];exact ih
theorem qaN {bs:List (Addr×List Int)}:(atKey (qea bs) k).isSome=decide (k∈bs.map (·.2)):=by rw[qei,qgA]
def qg2 (ks:List (List Int)) (ns:List Int):List (List Int):=if ns∈ks then ks else ks++[ns]
theorem qa0 {x:List Int}:x∈qg2 ks ns ↔ x∈ks\/x=ns:=by
 unfold qg2;split
 .rename_i h
  constructor
  .exact .inl
  .rintro (z | rfl)
   .exact z
   .exact h
 .simp
theorem qh0 (ks:List (List Int)) (ns:List Int):(qg2 ks ns).length<=ks.length+1:=by
 unfold qg2;split
 .lia
 .simp
theorem qd1 (h:ks.Nodup):(qg2 ks ns).Nodup:=by
 unfold qg2;split
 .exact h
 .rename_i c
  rw[List.nodup_append];refine⟨h,by simp,fun a ha b hb z=>c ?_⟩;rw[qE] at hb;rw[<- hb,<- z];exact ha
def qj1 (bs:List (Addr×List Int)) (b:Addr) (ns:List Int):List (Addr×List Int):=if ns∈bs.map (·.2) then bs else bs++[(b,ns)]
theorem qff (bs:List (Addr×List Int)) (b:Addr) (ns:List Int):(qj1 bs b ns).map (·.2)=qg2 (bs.map (·.2)) ns:=by
 unfold qj1 qg2;split
 .rfl
 .rw [qI];rfl
theorem qbA (bs:List (Addr×List Int)) (b:Addr) (ns:List Int):storedH (qea bs) ns b (Value.bool true)=qea (qj1 bs b ns):=by
 unfold qj1;have e:=qaN (bs:=bs) (k:=ns);split
 .rename_i h
  rw[qN h] at e;obtain⟨p,hp⟩:=Option.isSome_iff_exists.mp e;rw[storedH_old hp];conv=>rhs;rw[<- List.map_id (qea bs)]
  apply List.map_congr_left;intro x hx;have:=qgz x hx;obtain⟨a,c,v⟩:=x;have this:v=Value.bool true:=this;subst this;unfold putAt;split <;> rfl
 .rename_i h
  rw[yi h] at e;rw[storedH_new (Option.isNone_iff_eq_none.mp (by simpa using e))];unfold qea;rw[qI];rfl
theorem Inv.dctH (I:Inv X Ob G H s) {bs:List (Addr×List Int)}(h:H a=some (qcH X.prog X.w a bs)) (hb:InS X.K H bs):s.heap.DictOfH (kT X.prog X.w) a (qea bs)/\(a == sysModules)=false:=by
 obtain⟨⟨r,m⟩,_⟩:=I.hok a _ h;refine⟨r.of fun x hx=>?_,m⟩;obtain⟨b,h1,rfl⟩:=qF.mp hx;exact (I.tupK (hb b h1)).key
def qlR (X:Cx):TE:=fun _ H Q=>∀ p,H p=none->Q (.ref p) (upd H p (qcH X.prog X.w p []))
theorem qhG:PE X (.Dict [] [] pos) (qlR X):=fun Ob s G H Q I h =>
 wpAny_Dict_empty ⟨.ref s.heap.objs.size,_,I.laid (a:=s.heap.objs.size) (o:=qcH X.prog X.w s.heap.objs.size []) (t':=s.toks) (fun _ _ q=>qh _ q) (qo _)
  (qlB.ok ⟨⟨_,#[],0,qA _ rfl,⟨rfl,rfl,rfl⟩,rfl,rfl,List.nodup_nil⟩,beq_eq_false_iff_ne.mpr (Ne.symm (qp I.room0))⟩),rfl,h _ (I.hok.fresh (qo _))⟩
def rSetX (X:Cx):qnZ:=fun o i v H Q=>∃ a b bs ns,o = .ref a/\i = .ref b/\v = .bl true/\H a=some (qcH X.prog X.w a bs)/\InS X.K H bs/\Y5 X.K H (.ref b) ns/\bs.length<=4000/\Q (upd H a (qcH X.prog X.w a (qj1 bs b ns)))
theorem qeL (hu:X.A.units+66<cLine):PSet X (rSetX X):=by
 intro Ob s G H o i v ov iv u Q I ro ri rv h;obtain⟨a,b,bs,ns,rfl,rfl,rfl,ha,hb,ht,hl,q⟩:=h;cases ro
 cases ri
 cases rv
 obtain⟨dh,m⟩:=I.dctH ha hb;refine wpAny_setItem_heap (hsz:=yn (yR (by unfold qea;rw[qc];exact hl))) (by show X.A.units+1<_;lia) ((I.tupK ht).key) dh fun h' dh' sb=>⟨_,?_,q⟩;rw[qbA] at dh';have he:∃ q,h'.get? a=some q:=let ⟨q,_,_,hq,_⟩:=dh';⟨q,hq⟩;refine I.write (by rw[ha];exact True.intro) (.inl rfl) (fun b u hb e=>?_) he (qlB.ok ⟨qiu.get dh',m⟩);rw[sb.2 b hb];exact e
def rInX (X:Cx) (neg:Bool):V->V->Hp->VK->Prop:=fun x y H Q=>∃ a b bs ns,x = .ref b/\y = .ref a/\H a=some (qcH X.prog X.w a bs)/\InS X.K H bs/\Y5 X.K H (.ref b) ns/\Q (.bl (if neg then !decide (ns∈bs.map (·.2)) else decide (ns∈bs.map (·.2)))) H
theorem qfB (hu:X.A.units+66<cLine):OpR X (compareOp .NotIn) (rInX X true):=by
 intro Ob s G H x y v u Q I rx ry h;obtain⟨a,b,bs,ns,rfl,rfl,ha,hb,ht,q⟩:=h;cases rx
 cases ry
 obtain⟨dh,m⟩:=I.dctH ha hb;refine wpAny_notIn_heap (by show X.A.units+1<_;lia) ((I.tupK ht).key) m dh ?_;rw[qaN];exact⟨.bl _,H,I.tok _,rfl,q⟩
end L2
namespace L2
open W
theorem InS.ml {xs:List V}{bs:List (Addr×List Int)}(ha:H a=some (.lst xs)) (k:∀ b o,H b=some o->b≠a->H' b=some o) (h:InS K H bs):InS K H' bs:=fun b hb=>by
 obtain⟨⟨c,e,q⟩,n⟩:=h b hb;refine⟨⟨c,e,?_⟩,n⟩;rcases q with (e | ⟨o,e⟩) | e
 .exact .inl (.inl (k _ _ e fun z=>by rw[z,ha] at e;cases e))
 .exact .inl (.inr ⟨o,k _ _ e fun z=>by rw[z,ha] at e;cases e⟩)
 .exact .inr e
def qig (P:Program) (w:World) (K:W.Frag) (a:Addr) (ms:List (List Int)):MSt where
 R H u:=∃ bs,u=qcH P w a bs/\InS K H bs/\bs.map (·.2)=ms
 st:=fun H H' u s ⟨bs,e,h1,h2⟩=>⟨bs,e,h1.same s,h2⟩
 nt:=fun H u xs ⟨bs,e,_⟩ z=>by rw[e] at z;cases z
 ml:=fun H H' a xs u ha k ⟨bs,e,h1,h2⟩=>⟨bs,e,h1.ml ha k,h2⟩
def stDct (P:Program) (w:World) (K:W.Frag) (ms:List (List Int)):Stb where
 R v H:=∃ S bs,v = .ref S/\H S=some (qcH P w S bs)/\InS K H bs/\bs.map (·.2)=ms
 st:=fun v H H' s ⟨S,bs,e,h1,h2,h3⟩=>⟨S,bs,e,s _ _ h1,h2.same s,h3⟩
abbrev DM (P:Program) (w:World) (K:W.Frag) (a:Addr) (ms:List (List Int)):Addr×MO:=(a,.any (qig P w K a ms))
inductive DctOf (P:Program) (w:World) (K:W.Frag) (U:Mu):En->List (List Int)->Prop
 | x (ms:List (List Int)):DctOf P w K U (.x (stDct P w K ms)) ms
 | m {a:Addr}{ms:List (List Int)}(h:DM P w K a ms∈U):DctOf P w K U (.m a) ms
theorem DctOf.get {e:En}{ms:List (List Int)}(h:DctOf P w K U e ms) (M:RelM K U H) (i:IsE K U H v e) :
  ∃ a bs,v = .ref a/\H a=some (qcH P w a bs)/\InS K H bs/\bs.map (·.2)=ms:=by
 cases h with
 | x =>
  obtain⟨S,bs,e,h1,h2,h3⟩:=i;exact⟨S,bs,e,yB _ _ h1,h2.same yB,h3⟩
 | @m a _ hm =>
  have i:v = .ref a:=i;subst i;obtain⟨u,hu,bs,rfl,h1,h2⟩:=M.ob a _ hm;exact⟨a,bs,rfl,hu,h1.same yB,h2⟩
theorem qeC (h:Is K H v (JC ns)) (hn:ns≠[]):Y5 K H v ns:=by
 cases h with
 | tup q hs =>
  rw[IsAll.ints_of hs] at q;exact⟨⟨_,rfl,q⟩,hn⟩
def dNewX (P:Program) (w:World) (K:W.Frag):TEd:=fun _ U Q=>∀ p,p∉U.map Prod.fst->Q (.m p) (DM P w K p []::U)
theorem qlg (hK:X.K=K:=by rfl) (hP:X.prog=P:=by rfl) (hw:X.w=w:=by rfl):DE K X (.Dict [] [] pos) (dNewX P w K):=by
 subst hK hP hw;refine PE.mono qhG fun G H Q ⟨O,U,Q0,hS,hM,h,cl⟩ p hp=>?_;obtain⟨_,_,hn⟩:=hM.laid (o:=qcH X.prog X.w p []) hp;obtain⟨M2,s2⟩:=hM.new (u:=qcH X.prog X.w p []) (o:=.any (qig X.prog X.w X.K p [])) hp fun ss=>⟨_,qU,[],rfl,(fun _ z=>nomatch z),rfl⟩;exact cl _ _ _ _ (h p hn) M2 s2 rfl
def qnj (P:Program) (w:World) (K:W.Frag) (to ti:TEd):TGd:=fun e O U R=>to O U fun o U1=>ti O U1 fun i U2=>∃ ns p U3 U4 ks,e = .d (.bool true)/\o = .m p/\i = .d (JC ns)/\ns≠[]/\U2=U3++DM P w K p ks::U4/\ks.length<=4000/\R O (U3++DM P w K p (qg2 ks ns)::U4)
theorem qk8 (hu:X.A.units+66<cLine) {i:Expr}{ti:TEd}(ho:DE K X o to) (hi:DE K X i ti)
  (ha:∀ v,assign (.Subscript o i pos) X.env v=(do
   let ov <- holding [v] (eval o X.env)
   let iv <- holding [v,ov] (eval i X.env)
   standAt pos
   holding [v,ov,iv] (setItem ov iv v)
   release [v,ov,iv] []):=by intro _;rfl) (hK:X.K=K:=by rfl) (hP:X.prog=P:=by rfl) (hw:X.w=w:=by rfl):DG K X (.Subscript o i pos) (qnj P w K to ti):=by
 subst hK hP hw;refine PG.mono (qbK ho hi (qeL hu) ha) fun v G H Q Og=>?_;obtain⟨e,O,U,Q0,i0,hS,hM,h,cl⟩:=Og;refine⟨O,U,_,hS,hM,h,fun o U1 v1 H1 q M1 s1 i1=>⟨O,U1,_,hS.same s1,M1,q,fun i U2 v2 H2 q2 M2 s2 i2=>?_⟩⟩;obtain⟨ns,p,U3,U4,ks,rfl,rfl,rfl,hne,rfl,hl,q2⟩:=q2;have i1:v1 = .ref p:=i1;subst i1;have tn:=qeC i2 hne;have i0:Is X.K (mask U H) v (.bool true):=i0;cases i0
 obtain⟨u,hu2,bs,rfl,hb,rfl⟩:=M2.ob p (.any (qig X.prog X.w X.K p ks)) (by simp);obtain⟨⟨b,eb,tq⟩,_⟩:=id tn;subst eb;refine⟨p,b,bs,ns,rfl,rfl,rfl,hu2,hb.same yB,tn.up,by rw[qc] at hl;exact hl,?_⟩;obtain⟨M4,s4⟩:=M2.write (H':=upd H2 p (qcH X.prog X.w p (qj1 bs b ns))) (o':=.any (qig X.prog X.w X.K p (qg2 (bs.map (·.2)) ns))) (fun b u e n=>by rw[qV n];exact e) fun ss=>⟨_,qU,_,rfl,fun c hc=>by
  unfold qj1 at hc;split at hc
  .exact (hb.same ss) c hc
  .rcases qB.mp hc with z | z
   .exact (hb.same ss) c z
   .rw [qE.mp z];exact tn.same ss,qff bs b ns⟩
 exact cl _ _ _ _ q2 (hS.same ((s1.trans s2).trans s4)) M4 ((s1.trans s2).trans s4)
def rdInX (P:Program) (w:World) (K:W.Frag) (neg:Bool):R2d:=fun x y U Q=>∃ ns ks,x = .d (JC ns)/\ns≠[]/\DctOf P w K U y ks/\Q (.d (.bool (if neg then !decide (ns∈ks) else decide (ns∈ks)))) U
theorem qgE (hu:X.A.units+66<cLine) (hK:X.K=K:=by rfl) (hP:X.prog=P:=by rfl) (hw:X.w=w:=by rfl):OpR X (compareOp .NotIn) (upR K (rdInX P w K true)):=by
 subst hK hP hw;refine (qfB hu).mono fun x y H Q h=>?_;obtain⟨U,e,e',Q0,M,i1,i2,q,cl⟩:=h;obtain⟨ns,ks,rfl,hne,hd,q⟩:=q;obtain⟨a,bs,rfl,ha,hb,rfl⟩:=hd.get M i2;have tn:=qeC i1 hne;obtain⟨⟨b,eb,tq⟩,_⟩:=id tn;subst eb;exact⟨a,b,bs,ns,rfl,rfl,ha,hb,tn.up,cl _ U _ H q M (yr.refl _) (.bl _)⟩
end L2
namespace L2
section
variable {κ:Type} [DecidableEq κ]
end
section
variable {r:Value}{o:Option V}
end
end L2
namespace L2
def FinM (Q:En->Mu->Prop) (ys:List PyData) (U:Mu):Prop:=∀ p,p∉U.map Prod.fst->Q (.m p) ((p,.lst ys)::U)
def qjt (k:Nat) (ti:TId) (g:TGd) (tt:TTd) (te:TEd):TEd:=fun O U Q=>ti O U fun J U1=>J.n<=4000/\∃ Pv:Nat->List PyData->Rho->Mu->Prop,Pv 0 [] (O++List.replicate k none) U1/\(∀ i ys O' U',i<=J.n->Pv i ys O' U'->J.ok U') ∧
 (∀ i ys O' U',i<J.n->Pv i ys O' U'->g (J.item i) O' U' fun O2 U2=>tt O2 U2 fun b U3=>if b=true then te O2 U3 fun y U4=>∃ z,y = .d z/\Pv (i+1) (ys++[z]) O2 U4 else Pv (i+1) ys O2 U3) ∧
 ∀ ys O' U',Pv J.n ys O' U'->FinM Q ys U'
theorem qhd (h:up K (qjt k ti g tt te) G H Q):qhh k (upI K ti) (upG K g) (upT K tt) (up K te) G H Q:=by
 obtain⟨O,U,Q0,hS,hM,h,cl⟩:=h;refine⟨O,U,_,hS,hM,h,fun J0 U1 J H1 q M1 s1 sim=>?_⟩;obtain⟨hn,Pv,h0,hok,hstep,hend⟩:=q;have S0:RelS K (O++List.replicate k none) U1 (G++List.replicate k none) H1:=by
  have S1:=hS.same s1;refine⟨by simp[S1.len],fun i e he=>?_⟩;by_cases hi:i<O.length
  .rw [qQ hi] at he;rw[qQ (by rw[<- S1.len];exact hi)];exact S1.get i e he
  .rw [q9 (by omega),yV] at he;split at he <;> cases he
 refine⟨fun i m ys G' H'=>m=J0.n - i/\i<=J0.n/\ys.length<=i/\∃ ds O' U',RelS K O' U' G' H'/\RelM K U' H'/\yr (mask U1 H1) (mask U' H')/\IsAll K (mask U' H') ys ds/\Pv i ds O' U',⟨_,rfl,qZ _,qo _,[],_,U1,S0,M1,yr.refl _,.nil,h0⟩,?_⟩;rintro i m ys G' H' ⟨rfl,hi,hy,ds,O',U',S',M',s',hA,p⟩;have sm:=sim U' H' M' s' (hok i ds O' U' hi p) i;by_cases hlt:i<J0.n
 .obtain ⟨hgo,hyl⟩:=sm.1 hlt;refine .inr ⟨hgo,yR (by omega),fun ys2 G2 H2=>ys2.length<=i+1/\∃ ds O' U',RelS K O' U' G2 H2/\RelM K U' H2/\yr (mask U1 H1) (mask U' H2)/\IsAll K (mask U' H2) ys2 ds/\Pv (i+1) ds O' U',fun ys2 G2 H2 z=>⟨J0.n - (i+1),by omega,rfl,hlt,z⟩,fun x H2 y=>?_⟩;obtain⟨M2,s2,i2⟩:=hyl x H2 y;refine⟨_,O',U',_,i2,S'.same s2,M2,hstep i ds O' U' hlt p,fun O3 U3 G3 H3 q3 S3 M3 s3=>⟨O3,U3,_,S3,M3,q3,fun b U4 H4 q4 M4 s4=>?_⟩⟩;have st:=((s'.trans s2).trans s3).trans s4;cases b with
  | true =>
   refine ZO ⟨O3,U4,_,S3.same s4,M4,(by simpa using q4),fun e U5 v H5 q5 M5 s5 i5=>?_⟩;obtain⟨z,rfl,q5⟩:=q5;exact⟨by simp;omega,_,O3,U5,(S3.same s4).same s5,M5,st.trans s5,IsAll.snoc i5 (IsAll.same (((s2.trans s3).trans s4).trans s5) hA),q5⟩
  | false=>exact YO ⟨by omega,_,O3,U4,S3.same s4,M4,st,IsAll.same ((s2.trans s3).trans s4) hA,by simpa using q4⟩
 .have e:i=J0.n:=by omega
  subst e;refine .inl ⟨sm.2 (qo _),fun D hD=>?_⟩;have hm:D∉U'.map Prod.fst:=fun z=>by
   obtain⟨⟨a,q⟩,hq,rfl⟩:=qF.mp z;obtain⟨xs,e'⟩:=(M'.ob a q hq).some;rw[e'] at hD;cases hD
  obtain⟨M4,s4⟩:=M'.new (u:=.lst ys) (o:=.lst ds) hD fun ss=>⟨ys,qU,IsAll.same ss hA⟩;exact cl _ _ _ _ (hend ds O' U' p D hm) M4 ((s1.trans s').trans s4) rfl
end L2
namespace L2
open W
variable {es:Array DictEntry}{Q:Option Value->Shared->Prop}
structure RawD (h:Heap) (d:Addr) (es:Array DictEntry) (ep:Nat):Prop where
 ex:∃ o,h.get? d=some o/\o.ExactDict/\o.data = .dict es ep
theorem RawD.at {d:Addr}(x:RawD h d es ep) (k:∀ o,h.get? d=some o->h'.get? d=some o):RawD h' d es ep :=
 let ⟨o,h1,h2⟩:=x.ex;⟨o,k _ h1,h2⟩
section
variable {d:Addr}
theorem RawD.typeIs (x:RawD s.heap d es ep):s.TypeIs (.ref d) "dict" := let ⟨o,h1,h2,_⟩:=x.ex;⟨o,h1,h2.1⟩
theorem qgi {Q:Value->Shared->Prop}(hd:(d == sysModules)=false) (hm:RawD s.heap d es ep)
  (hQ:Q (.ref s.heap.objs.size) { s with heap:=s.heap.push { cls:=.type "dict_keyiterator",data:=.fields #[.ref d,.int 0 0,.int es.size 0,.int ep 0] } }) :
  wpAny (model prog w) A (pyIter (.ref d)) Q E s:=by
 obtain⟨o,ho,hc,hdat⟩:=hm.ex;have hT:=hm.typeIs;refine wpAny_pyIter_slot hT F.slot_dict_iter (jC F.slot_dict_iter hT F.entry_dict_iter ?_ (F.args_dict_iter_1 _));unfold Builtin.«dict.__iter__»;refine qa ?_;unfold Builtin.Dict.dictSlotNone;refine qa (wpAny_notOrdered_dict hT ?_);show wpAny _ _ (pure (Value.ref d)) _ _ s;refine qe ?_;show wpAny _ _ (Builtin.Dict.showsAll d >>= _) _ _ s;unfold Builtin.Dict.showsAll;rw[if_neg (by rw[hd];exact JS)];refine qa (qe ?_);refine qa (wpAny_dictEntries ho hdat ?_);refine qa (wpAny_dictEpoch ho hdat ?_);refine qa (yF (qe ⟨_,rfl, "dict_keyiterator",_,⟨_,qA _ rfl,rfl⟩,F.slot_dict_keyiterator_next.lookup,?_⟩));simpa[rawInt] using hQ
theorem qfQ {e:DictEntry}(hit:s.heap.IsKeyIter it d i es.size ep) (hm:RawD s.heap d es ep) (hx:es[i]?=some e)
  (hQ:∀ h',h'.IsKeyIter it d (i+1) es.size ep->Heap.SameBut it s.heap h'->Q (some e.key) { s with heap:=h' }):wpAny (model prog w) A (pyNext (.ref it)) Q E s:=by
 obtain⟨o,ho,hc,hd⟩:=id hit;obtain⟨od,hod,hcd,hdd⟩:=hm.ex;unfold pyNext;refine qa (wpAny_attempt (wpAny_callSpecial?_slot (name:=Str.ofString "__next__") hit.typeIs F.slot_dict_keyiterator_next
  (jC F.slot_dict_keyiterator_next hit.typeIs F.entry_dict_keyiterator_next ?_ (F.args_dict_keyiterator_next_1 _))))
 refine qa (qe ?_);refine qa ?_;refine qa ?_;first | refine qa (wpAny_typeNameOfWhole_keyiter hit.typeIs (qe ?_)) | refine qa (wpAny_typeNameOf_keyiter hit.typeIs (qe ?_))
 refine qa (wpAny_fieldsOf ho hd ?_);have hown:Builtin.Dict_items.ownsTuple "dict_keyiterator" = false:=by decide
 simp only[hown,qk,if_false];show wpAny _ _ (if (Value.ref d == Value.none)=true then _ else _) _ _ s;rw[if_neg (show ¬ ((Value.ref d == Value.none)=true) from JS)];refine qa (qe ?_);refine qa (wpAny_dictEntries hod hdd ?_);rw[if_neg (by simp)];refine qa (qe ?_);refine qa (wpAny_dictEpoch hod hdd ?_);rw[if_neg (by simp)];refine qe ?_;simp only[show ¬ ((i:Int)<0) from by lia,if_false,Int.toNat_natCast,hx];refine qa ?_;first | refine qa (wpAny_typeNameOfWhole_keyiter hit.typeIs (qe ?_)) | refine qa (wpAny_typeNameOf_keyiter hit.typeIs (qe ?_))
 refine qa (wpAny_isOneOf_keyiter hit.typeIs ?_);show wpAny _ _ (setField (.ref it) 1 (rawInt ((i:Int)+1)) >>= _) _ _ s;refine qa (wpAny_setField ho hd (by simp) ?_);have hit':(s.heap.update it (Obj.mapFields (·.setIfInBounds 1 (rawInt ((i:Int)+1))))).IsKeyIter it d (i+1) es.size ep :=
  ⟨_,yo _ ho (Obj.isFreed_of_fields (Obj.data_mapFields hd _)),(Obj.cls_mapFields ..).trans hc,by rw[Obj.data_mapFields hd];simp[rawInt]⟩
 refine qa (yf ?_);refine qa (wpAny_isOneOf_keyiter (s:={ s with heap:=s.heap.update it (Obj.mapFields (·.setIfInBounds 1 (rawInt ((i:Int)+1)))) }) hit'.typeIs ?_);show wpAny _ _ (pure e.key) _ _ _;exact qe (qe ⟨_,rfl,qe (hQ _ hit' (Heap.SameBut.update ..))⟩)
theorem qid (hh:A.handled=none) (hit:s.heap.IsKeyIter it d es.size es.size ep) (hm:RawD s.heap d es ep)
  (hQ:∀ h',Heap.ExtBut it s.heap h'->Q none { s with heap:=h' }):wpAny (model prog w) A (pyNext (.ref it)) Q E s:=by
 obtain⟨o,ho,hc,hd⟩:=id hit;obtain⟨od,hod,hcd,hdd⟩:=hm.ex;unfold pyNext;refine qa (wpAny_attempt (wpAny_callSpecial?_slot (name:=Str.ofString "__next__") hit.typeIs F.slot_dict_keyiterator_next
  (jC F.slot_dict_keyiterator_next hit.typeIs F.entry_dict_keyiterator_next ?_ (F.args_dict_keyiterator_next_1 _))))
 refine qa (qe ?_);refine qa ?_;refine qa ?_;first | refine qa (wpAny_typeNameOfWhole_keyiter hit.typeIs (qe ?_)) | refine qa (wpAny_typeNameOf_keyiter hit.typeIs (qe ?_))
 refine qa (wpAny_fieldsOf ho hd ?_);have hown:Builtin.Dict_items.ownsTuple "dict_keyiterator" = false:=by decide
 simp only[hown,qk,if_false];show wpAny _ _ (if (Value.ref d == Value.none)=true then _ else _) _ _ s;rw[if_neg (show ¬ ((Value.ref d == Value.none)=true) from JS)];refine qa (qe ?_);refine qa (wpAny_dictEntries hod hdd ?_);rw[if_neg (by simp)];refine qa (qe ?_);refine qa (wpAny_dictEpoch hod hdd ?_);rw[if_neg (by simp)];refine qe ?_;simp only[show ¬ ((es.size:Int)<0) from by lia,if_false,Int.toNat_natCast,yu (qo es.size)];refine qa ?_;first | refine qa (wpAny_typeNameOfWhole_keyiter hit.typeIs (qe ?_)) | refine qa (wpAny_typeNameOf_keyiter hit.typeIs (qe ?_))
 show wpAny _ _ (setField (.ref it) 0 .none >>= _) _ _ s;refine qa (wpAny_setField ho hd (by simp) ?_);show wpAny _ _ (newExc (.type "StopIteration") [] >>= _) _ _ _;refine qa ?_;simp only[newExc,newTuple];refine qa (yF ?_ (by size_fits));refine qa (m:=firstArgMember _ _) (wpAny_of_eq (a:=Value.none) (by first | rfl | (simp only[firstArgMember];rfl)) ?_);refine yF ?_ (by size_fits);simp only[raiseNew];refine qa (wpAny_handled ?_);rw[show A.in1.handled=none from hh];refine qa (qe (wpAny_throw ?_));refine qa (wpAny_isInstance (T := "StopIteration") (b:=true) ⟨_,qA _ rfl,rfl⟩ isSubtype_stop ?_);exact qe (hQ _ (((Heap.SameBut.update ..).extBut.push _).push _))
theorem qdQ (hh:A.handled=none) (hne:d≠I) :
  Walks prog w A I [I,d] [I] es.size (fun i v=>(es[i]?).map (·.key)=some v) (fun i h=>h.IsKeyIter I d i es.size ep/\RawD h d es ep) where
 sub:=fun b hb=>by simp at hb;simp[hb]
 frame:=fun _ _ _ st hk=>⟨st.1.at fun o e=>hk I (by simp) o e,st.2.at fun o e=>hk d (by simp) o e⟩
 item:=fun i s Q E hi st hQ=>by
  refine qfQ st.1 st.2 (jZ hi) fun h' hit' hs'=>?_;exact hQ _ h' s.toks (by rw[jZ hi];rfl) ⟨hit',st.2.at fun o e=>hs'.extBut d o hne e⟩ fun b o hb e=>hs'.extBut b o (fun h=>hb (by simp[h])) e
 done:=fun s Q E st hQ=>qid hh st.1 st.2 fun h' he'=>hQ h' s.toks fun b o hb e=>he' b o (fun h=>hb (by simp[h])) e
 self:=fun _ _ _ _ st hQ=>wpAny_pyIter_keyiter st.1 hQ
end
section
variable {d:Addr}
theorem qaO:isSubtype (.type "dict") (.type "dict")=pure true:=by rw[isSubtype_type];kernel_rfl
theorem qcC (hh:A.handled=none) (S:Addr) (res:Value) (ca0:Nat) (hd:(d == sysModules)=false) (D:RawD s.heap d es ep) (hne:S≠d) (hS:s.heap.get? S=some { cls:=.type "list",data:=.seq #[] ca0 }) (hn:es.size<=sizeLine)
  (hR:∀ h' tk acc' c',(∀ b o,b<s.heap.objs.size->b≠S->s.heap.get? b=some o->h'.get? b=some o)->h'.get? S=some { cls:=.type "list",dict:=none,data:=.seq acc' c',slots:=#[] }->acc'.toList=es.toList.map (·.key)->R (.ok (.ret res)) { s with heap:=h',toks:=tk }) :
  wpAny (model prog w) A.in1 (Builtin.List.listExtendWith (.ref S) (.ref d) res)
   (fun fin s'=>match fin with | .done f=>R (.ok f) s' | .again c'=>c'.quiet=true/\codeAny (model prog w) A c' R s') (fun e s'=>R (.error e) s') s:=by
 have hT:s.TypeIs (.ref d) "dict" := D.typeIs;have hSlt:S<s.heap.objs.size:=ql hS;have hdlt:d<s.heap.objs.size:=let ⟨o,h1,_⟩:=D.ex;ql h1;unfold Builtin.List.listExtendWith;refine qa (wpAny_typeOf hT ?_);have h1:Builtin.List.listSameRef (.ref S) (.ref d)=false:=by simp[Builtin.List.listSameRef,hne]
 have h2:(Value.type "dict" == Value.type "list")=false:=by decide
 have h3:(Value.type "dict" == Value.type "tuple")=false:=by decide
 simp only[h1,h2,h3,Bool.or_false,qk,if_false];refine qa (qgi hd D ?_);have kp1:∀ b o,s.heap.get? b=some o->(s.heap.push { cls:=.type "dict_keyiterator",data:=.fields #[.ref d,.int 0 0,.int es.size 0,.int ep 0] }).get? b=some o:=fun b o e=>qh _ e;have it1:(s.heap.push { cls:=.type "dict_keyiterator",data:=.fields #[.ref d,.int 0 0,.int es.size 0,.int ep 0] }).IsKeyIter s.heap.objs.size d 0 es.size ep:=⟨_,qA _ rfl,rfl,rfl⟩;generalize s.heap.push { cls:=.type "dict_keyiterator",data:=.fields #[.ref d,.int 0 0,.int es.size 0,.int ep 0] }=hh1 at kp1 it1 ⊢;have D1:RawD hh1 d es ep:=D.at fun o e=>kp1 _ _ e;have hT2:Shared.TypeIs { s with heap:=hh1 } (.ref d) "dict" := RawD.typeIs (s:={ s with heap:=hh1 }) D1;have hL2:=kp1 _ _ hS;refine qa (yf ?_);unfold Builtin.List.listLengthHint;refine qa (wpAny_specialOf hT2 F.slot_dict_len.lookup ?_);generalize hid:("dict.__len__" : String)=id0
 wp_delta
 rw[show splitId id0=some ("dict", "__len__") from by subst hid;decide +kernel];subst hid;refine qa (wpAny_isInstance (b:=true) hT2 qaO ?_);refine qa (m:=typeOf (.ref d)) (wpAny_typeOf hT2 (qe ?_));show wpAny (model prog w) A.in1 (rule "list.extend.makes-room" >>= fun _=>Builtin.List.listTouch (.ref S) >>= fun _=>again (.builtin "list.extend.loop" ⟨[.ref S,.ref s.heap.objs.size,res],[]⟩)) _ _ _;refine qa (j6 (qa ?_));show wpAny (model prog w) A.in1 (updateSeq S (·.push .none) >>= fun _=>updateSeq S (·.pop)) _ _ _;refine qa (wpAny_updateSeq hL2 rfl ?_);have hL3:=yo (Obj.mapSeq (·.push Value.none)) hL2 rfl;refine wpAny_updateSeq (hz:=by seq_fits) hL3 rfl ?_;have hL4:=yo (Obj.mapSeq (·.pop)) hL3 rfl;have oth:∀ b ob,b≠S->hh1.get? b=some ob->((hh1.update S (Obj.mapSeq (·.push Value.none))).update S (Obj.mapSeq (·.pop))).get? b=some ob :=
  fun b ob hb e=>(qY _ _ (Ne.symm hb)).trans ((qY _ _ (Ne.symm hb)).trans e)
 have hI:d≠s.heap.objs.size:=qp hdlt;have W:WalksS prog w A.in1 s.heap.objs.size [s.heap.objs.size,d] [s.heap.objs.size] (fun a b=>b=a) es.size (fun i v=>(es[i]?).map (·.key)=some v) (fun i s'=>s'.heap.IsKeyIter s.heap.objs.size d i es.size ep/\RawD s'.heap d es ep):=(qdQ (A:=A.in1) hh hI).toS;refine qe ⟨plainId_quiet F.plain_extend_loop _,codeAny_extend_loopS W hn S (fun hm=>?_) _ es.size 0 _ _ _ rfl (qZ _) ?_ hL4 (ItemsOf.nil _) fun s' acc' c' hm hS' hacc=>?_⟩
 .rcases qG.mp hm with z | z
  .exact qp hSlt z
  .exact hne (qE.mp z)
 .exact ⟨it1.at fun o e=>oth _ _ (Nat.ne_of_gt hSlt) e,D1.at fun o e=>oth _ _ (Ne.symm hne) e⟩
 .have kp:∀ b o,b<s.heap.objs.size->b≠S->s.heap.get? b=some o->s'.heap.get? b=some o:=fun b o hb hbS e=>by
   refine hm.heap b o (fun z=>?_) (oth b o hbS (kp1 _ _ e));rcases qG.mp z with z | z
   .exact hbS z
   .exact qp hb (qE.mp z)
  have ea:acc'.toList=es.toList.map (·.key):=by
   apply List.ext_getElem?;intro i;rw[qK,qy,qy];cases z:acc'[i]? with
   | some v=>exact (hacc.2 i v z).symm
   | none =>
    have:acc'.size<=i:=by simpa using z
    rw[hacc.1] at this;rw[yu this];rfl
  have fin:=hR s'.heap s'.toks acc' c' kp hS' ea;obtain⟨h',g',d',tk',os'⟩:=s';have e1:g'=s.gens:=hm.gens;have e2:d'=s.drawn:=hm.drawn;have e3:os'=s.os:=hm.os;subst e1;subst e2;subst e3;exact fin
theorem qgk (hh:A.handled=none) (S:Addr) (hd:(d == sysModules)=false) (D:RawD s.heap d es ep) (hne:S≠d) (hS:s.heap.get? S=some { cls:=.type "list",data:=.seq #[] }) (hn:es.size<=sizeLine)
  (hR:∀ h' tk acc' c',(∀ b o,b<s.heap.objs.size->b≠S->s.heap.get? b=some o->h'.get? b=some o)->h'.get? S=some { cls:=.type "list",dict:=none,data:=.seq acc' c',slots:=#[] }->acc'.toList=es.toList.map (·.key)->R (.ok (.ret .none)) { s with heap:=h',toks:=tk }) :
  wpAny (model prog w) A.in1 (Builtin.«list.__init__» ⟨[.ref S,.ref d],[]⟩)
   (fun fin s'=>match fin with | .done f=>R (.ok f) s' | .again c'=>c'.quiet=true/\codeAny (model prog w) A c' R s') (fun e s'=>R (.error e) s') s:=by
 show wpAny _ A.in1 (do let old <- Builtin.List.listItems (.ref S);Builtin.List.listUpdate (.ref S) (fun _=>#[]);letGo old.toList.reverse;Builtin.List.listExtendWith (.ref S) (.ref d) .none) _ _ s;refine qa ?_;unfold Builtin.List.listItems;refine qa (wpAny_seqItems hS rfl (qe ?_));show wpAny _ A.in1 (updateSeq S (fun _=>#[]) >>= fun _=>letGo (#[]:Array Value).toList.reverse >>= fun _=>Builtin.List.listExtendWith (.ref S) (.ref d) .none) _ _ s;refine qa (wpAny_updateSeq hS rfl ?_);have hS2:=yo (Obj.mapSeq (fun _=>(#[]:Array Value))) hS rfl;have oth:∀ b o,b≠S->s.heap.get? b=some o->(s.heap.update S (Obj.mapSeq (fun _=>(#[]:Array Value)))).get? b=some o :=
  fun b o hb e=>(qY _ _ (Ne.symm hb)).trans e
 have hsz:(s.heap.update S (Obj.mapSeq (fun _=>(#[]:Array Value)))).objs.size=s.heap.objs.size:=Heap.size_update ..;refine qa (wpAny_letGo ?_);refine qcC hh S .none _ hd (D.at fun o e=>oth _ _ (Ne.symm hne) e) hne hS2 hn fun h' tk acc' c' kp hS' ea=>?_;exact hR h' tk acc' c' (fun b o hb hbS e=>kp b o (by rw[hsz];exact hb) hbS (oth b o hbS e)) hS' ea
theorem qf6 {Q:Value->Shared->Prop}(hh:A.handled=none) (hd:(d == sysModules)=false) (D:RawD s.heap d es ep) (hn:es.size<=sizeLine)
  (hQ:∀ h' tk acc' c',(∀ b o,s.heap.get? b=some o->h'.get? b=some o)->h'.get? s.heap.objs.size=some { cls:=.type "list",dict:=none,data:=.seq acc' c',slots:=#[] }->acc'.toList=es.toList.map (·.key)->Q (.ref s.heap.objs.size) { s with heap:=h',toks:=tk }) :
  wpAny (model prog w) A (call (.type "list") [.ref d]) Q E s:=by
 have hdlt:d<s.heap.objs.size:=let ⟨o,h1,_⟩:=D.ex;ql h1;refine callType_codes (Q₁:=fun obj sa1=>obj = .ref s.heap.objs.size/\sa1={ s with heap:=s.heap.push { cls:=.type "list",data:=.seq #[] } }) F.called_list (F.typeCall_list_1 _) F.entry_list_init
  (code_list_new _ ⟨rfl,rfl⟩) fun obj sa1 hd1=>?_
 obtain⟨rfl,rfl⟩:=hd1;have hS:(s.heap.push { cls:=.type "list",data:=.seq #[] }).get? s.heap.objs.size=some { cls:=.type "list",data:=.seq #[] }:=qA _ rfl;have hsz:(s.heap.push { cls:=.type "list",data:=.seq #[] }).objs.size=s.heap.objs.size+1:=JD ..;refine⟨⟨_,hS,rfl⟩,F.args_list_init_2 _ _,qgk (A:=A.in1) hh _ hd (D.at fun o e=>qh _ e) (Nat.ne_of_gt hdlt) hS hn fun h' tk acc' c' kp hS' ea=>?_⟩;exact⟨rfl,hQ h' tk acc' c' (fun b o e=>kp b o (by show b<(s.heap.push _).objs.size;rw[hsz];exact Nat.lt_succ_of_lt (ql e)) (qp (ql e)) (qh _ e)) hS' ea⟩
end
end L2
namespace L2
open W
theorem qeh (hc:X.calm=true):jq X (.type "list") (fun xs H Q=>∃ p bs,xs=[.ref p]/\H p=some (qcH X.prog X.w p bs)/\bs.length<=4000/\∀ l,H l=none->Q (.ref l) (upd H l (.lst (bs.map fun b=>V.ref b.1)))):=by
 intro Ob s G H xs us Q I r h;obtain⟨p,bs,rfl,hp,hl,q⟩:=h;obtain⟨u,rfl,rx⟩:=qar r;cases rx
 obtain⟨⟨o,es,ep,ho,h2,h3,h4,h5⟩,hd⟩:qlB X.prog X.w p bs s.heap:=(I.hok _ _ hp).1;have hes:es.size=bs.length:=by rw[<- qD,h4,qc];unfold qea;rw[qc]
 refine qf6 (by show X.A.handled=none;exact I.ok.hd hc) hd ⟨o,ho,h2,h3⟩ (yn (yR (by lia))) fun h' tk acc' c' kp hS' ea=>?_;have ev:acc'.toList=bs.map fun b=>Value.ref b.1:=by
  rw[ea,h4,y6];unfold qea;rw[y6];rfl
 have vs:∀ l:List (Addr×List Int),yN (l.map fun b=>V.ref b.1) (l.map fun b=>Value.ref b.1):=fun l=>by
  induction l with
  | nil=>exact .nil
  | cons a t ih=>exact .cons rfl ih
 refine⟨.ref s.heap.objs.size,_,I.laid (t':=tk) kp (qo _) (show jK X.prog X.w _ h' _ (.lst (bs.map fun b=>V.ref b.1)) from ⟨?_,acc'.toList,c',?_,?_⟩),rfl,q _ (I.hok.fresh (qo _))⟩
 .rw [qc];exact yn (yR hl)
 .rw [ev];exact vs bs
 .rw [hS']
def qjZ (P:Program) (w:World) (K:W.Frag):RAd:=fun es U Q=>∃ e ms,es=[e]/\DctOf P w K U e ms/\ms.length<=4000/\Q (.d (.list (ms.map JC))) U
theorem qji : ∀ {bs:List (Addr×List Int)},InS K H bs->IsAll K H (bs.map fun b=>V.ref b.1) ((bs.map (·.2)).map JC)
 | [],_=>.nil
 | b::t,h=>by
  obtain⟨⟨a,e,q⟩,n⟩:=h b qi;cases e
  exact .cons (.tup q (IsAll.ints b.2)) (qji fun c hc=>h c (qd _ hc))
theorem qih (hc:X.calm=true) (hK:X.K=K:=by rfl) (hP:X.prog=P:=by rfl) (hw:X.w=w:=by rfl):jq X (.type "list") (upC K (qjZ P w K)):=by
 subst hK hP hw;refine (qeh hc).mono fun xs H Q h=>?_;obtain⟨U,es,Q0,M,hp,q,cl⟩:=h;obtain⟨e,ms,rfl,hd,hl,q⟩:=q;obtain⟨v,rfl,i1⟩:=YG hp;obtain⟨a,bs,rfl,h1,h2,rfl⟩:∃ a bs,v = .ref a/\H a=some (qcH X.prog X.w a bs)/\InS X.K (mask U H) bs/\bs.map (·.2)=ms:=by
  cases hd with
  | x =>
   obtain⟨S,bs,e,h1,h2,h3⟩:=i1;exact⟨S,bs,e,yB _ _ h1,h2,h3⟩
  | @m a _ hm =>
   have i:v = .ref a:=i1;subst i;obtain⟨u,hu,bs,rfl,h1,h2⟩:=M.ob a _ hm;exact⟨a,bs,rfl,hu,h1,h2⟩
 rw[qc] at hl;refine⟨a,bs,rfl,h1,hl,fun l hl=>?_⟩;obtain⟨M4,s4,hn⟩:=M.laid (o:=.lst (bs.map fun b=>V.ref b.1)) hl;exact cl _ U _ _ q M4 s4 (.lst (SqL.of (by rw[yG hn];exact qU)) (qji (h2.same s4)))
end L2
namespace L2
section
variable {E:XK}
theorem qdZ:YA (XC P w) (qao (XC P w) P w K mg base N qual scope f cd A outer s H E) E:=by
 intro Ob G H1 s1 e s' I hx;generalize hX:qao (XC P w) P w K mg base N qual scope f cd A outer s H E=X at *;have xst:X.stack=X.env::X.outer:=by rw[<- hX];rfl
 have xfr:X.env.frame=some X.env.locals:=by rw[<- hX];rfl
 have xex:X.ex=[]:=by rw[<- hX];rfl
 have xe:X.xe=fun e s'=>wpAny (model X.prog X.w) X.A (leaving X.env e) (fun _ s''=>XC X.prog X.w X.outer X.H₀ X.s₀ E e s'') (fun e' s''=>XC X.prog X.w X.outer X.H₀ X.s₀ E e' s'') s':=by rw[<- hX];rfl
 have xP:X.prog=P:=by rw[<- hX];rfl
 have xw:X.w=w:=by rw[<- hX];rfl
 obtain⟨ea,cls,a0,H',B,rfl,hos,hg,un,ok',fl,cov,hea,hE⟩:=hx;rw[xe];have fsub:∀ b∈frs X.stack,b=X.env.locals\/b∈X.fs:=fun b hb=>qG.mp (I.stkSub b hb);have hfs:∀ b∈X.fs,b∈frs X.stack:=fun b hb=>by
  rw[xst];obtain⟨e,he,hfe⟩:=yD.mp hb;exact yD.mpr ⟨e,qd _ he,hfe⟩
 have bs:Un X.fs [] X.H₀ H1 X.s₀.heap s1.heap:=by have:=I.base;rw[xex] at this;exact this
 have oldnf:∀ b o,X.s₀.heap.get? b=some o->b∉X.fs->b∉frs X.stack:=fun b o eb nb z=>by
  rcases fsub b z with z | z
  .exact absurd (qT (ql eb) I.ok.above) (by rw[z];exact yz _)
  .exact nb z
 have trk:∀ b u,H' b=some u->b∉frs X.stack:=fun b u eb z=>by
  obtain⟨_,o,ho,_⟩:=I.stack.mem z;have:=un.free b o ho (I.stkFree b z) (by simp);rw[this] at eb;cases eb
 refine wpAny_leaves_onW (by rw[<- xst];exact I.ok.frames) xfr (by rw[<- xst];exact fl) fun h'' fl2 ups=>?_;have kept:∀ b o,s'.heap.get? b=some o->b∉frs X.stack->((∃ oa0,s1.heap.get? b=some oa0)\/∃ u,H' b=some u)->h''.get? b=some o:=fun b o eb nb c=>fl2.1 b o (cov b o eb nb c);have slotK:∀ b,b∈frs X.stack->∀ o1,s1.heap.get? b=some o1->∃ sl,h''.get? b=some { cls:=o1.cls,dict:=o1.dict,data:=o1.data,slots:=sl }:=fun b hb o1 e1=>by
  obtain⟨sl,e2⟩:=un.slot b o1 e1 (I.stkFree b hb) hb (by simp);obtain⟨_,o',ho',hd'⟩:=I.stack.mem hb;rw[e1] at ho';cases ho';obtain⟨sl2,e3⟩:=ups b { cls:=o1.cls,dict:=o1.dict,data:=o1.data,slots:=sl } e2 hd';exact⟨sl2,e3⟩
 refine⟨ea,cls,a0,H',B,rfl,hos.trans I.os,hg,⟨fun b o eb n nf _=>?_,fun b o eb n nf _=>?_,fun b o eb n _=>?_,fun b o eb _=>?_,fun b xs q=>un.tups b xs (bs.tups b xs q),fun b o u q=>un.frzs b o u (bs.frzs b o u q),fun b ps q=>?_⟩,fun b u eb=>?_,fl2,fun b o eb nb c=>?_,hea,hE⟩
 .have e1:=bs.keep b o eb n nf (by simp);have nb:=oldnf b o eb nf;exact kept b o (un.keep b o e1 (bs.free b o eb n (by simp)) nb (by simp)) nb (.inl ⟨o,e1⟩)
 .obtain ⟨sl,e1⟩:=bs.slot b o eb n nf (by simp);obtain⟨sl2,e2⟩:=slotK b (hfs b nf) _ e1;exact⟨sl2,e2⟩
 .obtain ⟨o1,e1⟩:=bs.there b o eb (by simp);exact un.free b o1 e1 (bs.free b o eb n (by simp)) (by simp)
 .obtain ⟨o1,e1⟩:=bs.there b o eb (by simp);by_cases nb:b∈frs X.stack
  .obtain ⟨sl,e2⟩:=slotK b nb o1 e1;exact⟨_,e2⟩
  .obtain ⟨o2,e2⟩:=un.there b o1 e1 (by simp);exact⟨o2,kept b o2 e2 nb (.inl ⟨o1,e1⟩)⟩
 .obtain ⟨m1,e1⟩:=bs.tbls b ps q;obtain⟨m2,e2⟩:=un.tbls b _ e1;exact⟨m1++m2,by rw[e2,Array.append_assoc]⟩
 .rw [xP,xw];refine (ok' b u eb).stay (fun c v hc e1=>?_) (fun _ z=>z) fun _ _ z=>z;rcases hc with rfl | hc
  .exact kept c v e1 (trk c u eb) (.inr ⟨u,eb⟩)
  .exact kept c v e1 (trk c _ hc) (.inr ⟨_,hc⟩)
 .rcases c with⟨o0,e0⟩ | ⟨u,eu⟩
  .have nb2:=oldnf b o0 e0 nb;obtain⟨o1,e1⟩:=bs.there b o0 e0 (by simp);obtain⟨o2,e2⟩:=un.there b o1 e1 (by simp);have:=kept b o2 e2 nb2 (.inl ⟨o1,e1⟩);rw[eb] at this;cases this;exact cov b o e2 nb2 (.inl ⟨o1,e1⟩)
  .have nb2:=trk b u eu;obtain⟨o2,e2⟩:=(ok' b u eu).has;have:=kept b o2 e2 nb2 (.inr ⟨u,eu⟩);rw[eb] at this;cases this;exact cov b o e2 nb2 (.inr ⟨u,eu⟩)
end
end L2
namespace L2
open W
inductive DatR (U:Mu):En->PyData->Prop
 | d {e:En}{x:PyData}(h:DatOf U e x):DatR U e x
 | r2 {p a b:Addr}{ds es:List PyData}(h:(p,.refs [a,b])∈U) (ha:(a,.lst ds)∈U) (hb:(b,.lst es)∈U):DatR U (.m p) (.list [.list ds,.list es])
end L2
namespace L2
open W
end L2
namespace L2
theorem qm6 {e:En}(h:IsE K U H v e):IsE K [] (mask U H) v e:=by
 cases e with
 | d x=>exact (show Is K (mask [] (mask U H)) v x by rw[j7];exact h)
 | m a=>exact h
 | x r=>exact (show r.R v (mask [] (mask U H)) by rw[j7];exact h)
 | ty n=>exact h
theorem qcA {e:En}(h:IsE K [] (mask U H) v e):IsE K U H v e:=by
 cases e with
 | d x=>exact (show Is K (mask U H) v x by rw[<- j7 (H:=mask U H)];exact h)
 | m a=>exact h
 | x r=>exact (show r.R v (mask U H) by rw[<- j7 (H:=mask U H)];exact h)
 | ty n=>exact h
def stT (K:W.Frag) (es:List En):Stb:=⟨fun v H=>∃ p vs,v = .ref p/\SqT K H p vs/\Paired (IsE K [] H) vs es,fun _ _ _ s ⟨p,vs,e,h1,h2⟩=>⟨p,vs,e,h1.same s,Paired.imp' (r:=h2) fun _ _ h=>h.same (by rw[j7,j7];exact s)⟩⟩
def dTupM (K:W.Frag) (tr:TAd):TEd:=fun O U Q=>tr O U fun es U1=>es.length<=4000/\Q (.x (stT K es)) U1
theorem qdB {x1} (h:DA K X es tr):DE K X (.Tuple es x1 pos) (dTupM K tr):=by
 refine PE.mono (Z5 h) fun G H Q Og=>?_;obtain⟨O,U,Q0,hS,hM,h,cl⟩:=Og;refine⟨O,U,_,hS,hM,h,fun es' U1 vs H1 q M1 s1 i1=>?_⟩;refine⟨yn (yR (by rw[Paired.len i1];exact q.1)),fun p hp=>?_⟩;obtain⟨M2,s2,hn⟩:=M1.laid (o:=.tup vs) hp;exact cl _ U1 _ _ q.2 M2 (s1.trans s2) ⟨p,vs,rfl,SqT.of (by rw[yG hn];exact qU),Paired.imp' (r:=i1) fun _ _ h=>qm6 (h.same s2)⟩
def rdIxM (K:W.Frag):R2d:=fun x y U Q=>∃ es i e,x = .x (stT K es)/\y = .d (.int i)/\atI es i=some e/\Q e U
theorem qdh : ∀ {vs:List V}{es:List En}{i:Nat}{e:En},Paired (IsE K U H) vs es->es[i]?=some e->∃ v,vs[i]?=some v/\IsE K U H v e
 | _,_,_,_,.nil,q=>by simp at q
 | _,_,0,_,.cons h _,q=>by simp at q;subst q;exact⟨_,rfl,h⟩
 | _,_,i+1,e,.cons _ t,q=>by
  obtain⟨v,h1,h2⟩:=qdh (i:=i) (e:=e) t (by simpa using q);exact⟨v,by simpa using h1,h2⟩
theorem qbc (hK:X.K=K:=by rfl):IxR X (upR K (rdIxM K)):=by
 subst hK;refine qjf.mono fun x y H Q h=>?_;obtain⟨U,e,e',Q0,M,i1,i2,⟨es,i,e1,rfl,rfl,h3,q⟩,cl⟩:=h;cases i2
 obtain⟨p,vs,rfl,h4,h5⟩:=i1;unfold atI at h3;cases c:ixN es.length i with
 | none=>rw[c] at h3;cases h3
 | some j =>
  rw[c] at h3;obtain⟨v,e2,e3⟩:=qdh h5 h3;refine⟨_,_,_,v,rfl,rfl,h4.same yB,?_,cl _ U v H q M (yr.refl _) (qcA e3)⟩;unfold atI;rw[Paired.len h5,c];exact e2
abbrev qlx:=List En->Rho->Mu->(Rho->Mu->Prop)->Prop
def qhf (K:W.Frag) (t:qlx):TGs:=fun vs G H Q=>∃ es O U Q0,Paired (IsE K U H) vs es/\RelS K O U G H/\RelM K U H/\t es O U Q0/\ClR K U H Q0 Q
def qnh:qlx:=fun es O U Q=>es=[]/\Q O U
def qk6 (t:TGd) (u:qlx):qlx:=fun es O U Q=>∃ e r,es=e::r/\t e O U fun O' U'=>u r O' U' Q
theorem qk5:PGs X [] (qhf K qnh):=PGs.mono qcq fun vs G H Q ⟨ds,O,U,Q0,i1,hS,hM,h,cl⟩=>by
 obtain⟨rfl,h⟩:=h;cases i1
 exact⟨rfl,cl _ U _ H h hS hM (yr.refl _)⟩
theorem qdz {t:TGd}{u:qlx}(h1:DG K X e t) (h2:PGs X es (qhf K u))
  (hs:(assignEach (e::es) X.env).map (·.2)=assign e X.env::(assignEach es X.env).map (·.2):=by rfl):PGs X (e::es) (qhf K (qk6 t u)):=PGs.mono (ZI h1 h2 hs) fun vs G H Q ⟨ds,O,U,Q0,i1,hS,hM,h,cl⟩=>by
 obtain⟨e1,r,rfl,h⟩:=h;cases i1 with
 | cons i1 i2 =>
  refine⟨_,_,rfl,e1,O,U,_,i1,hS,hM,h,fun O' U' G' H' q S' M' s'=>?_⟩;exact⟨r,O',U',Q0,Paired.imp' (r:=i2) fun _ _ h=>h.same s',S',M',q,cl.same s'⟩
def qni (K:W.Frag) (n:Nat) (t:qlx):TGd:=fun e O U Q=>∃ es,e = .x (stT K es)/\es.length=n/\t es O U Q
theorem qk7 {t:qlx}(hc:X.calm=true) (h:PGs X es (qhf K t)) (hK:X.K=K:=by rfl)
  (hn:(assignEach es X.env).length=n:=by rfl) (hst:(assignEach es X.env).findIdx? (·.1)=none:=by rfl):DG K X (.Tuple es k pos) (qni K n t):=by
 subst hK;refine PG.mono (qfr hc h hn hst) fun v G H Q Og=>?_;obtain⟨e,O,U,Q0,i1,hS,hM,h,cl⟩:=Og;obtain⟨es',rfl,hl,h⟩:=h;obtain⟨p,vs,rfl,h1,h2⟩:=i1;exact⟨p,vs,rfl,h1.same yB,by rw[Paired.len h2];exact hl,es',O,U,Q0,Paired.imp' (r:=h2) fun _ _ h=>qcA h,hS,hM,h,cl⟩
def dClr (to:TEd):TEd:=fun O U Q=>to O U fun x U1=>∃ p U3 U4 ds,x = .m p/\U1=U3++(p,.lst ds)::U4/\Q (.d .none) (U3++(p,.lst [])::U4)
theorem qlj (ho:DE K X o to) (hK:X.K=K:=by rfl)
  (h:PE X o (up K to)->PE X (.Call (.Attribute o "clear" p1) [] [] pos) (tBM0 X.K "list" rClear (up K to))):DE K X (.Call (.Attribute o "clear" p1) [] [] pos) (dClr to):=by
 subst hK;refine PE.mono (h ho) fun G H Q Og=>?_;obtain⟨O,U,Q0,hS,hM,h,cl⟩:=Og;refine⟨O,U,_,hS,hM,h,fun x U1 v H1 q M1 s1 i1=>?_⟩;obtain⟨p,U3,U4,ds,rfl,rfl,q⟩:=q;have i1:v=_:=i1;subst i1;obtain⟨xs0,e0,hA⟩:=M1.ob p (.lst ds) (by simp);refine⟨.inl ⟨rfl,_,SqL.of e0⟩,p,xs0,rfl,rfl,e0,?_⟩;obtain⟨M3,s3⟩:=M1.write (H':=upd H1 p (.lst [])) (o':=.lst []) (fun b u e n=>by rw[qV n];exact e) fun ss=>⟨_,qU,.nil⟩;exact cl _ _ .non _ q M3 (s1.trans s3) .non
end L2
namespace L2
section
variable {i:Expr}{td ty tv:TE}
end
end L2
namespace L2
open W SetTable
section
variable {o:Obj}{es:Array (Int×Value)}{t:SetTable}
end
end L2
namespace L2
open W SetTable
section
variable {P:Nat->Value->Prop}{St:Nat->Shared->Prop}
end
end L2
namespace L2
end L2
namespace L2
open W
section
variable {d:Addr}{es:Array DictEntry}
end
end L2
namespace L2
open W
theorem RelM.sub (M:RelM K U H) (s:U'.Sublist U):RelM K U' H/\yr (mask U H) (mask U' H):=by
 have ss:yr (mask U H) (mask U' H):=qdl fun a ha=>(s.map Prod.fst).subset ha;exact⟨⟨(s.map Prod.fst).nodup M.nd,fun a o h=>(M.ob a o (s.subset h)).same ss rfl⟩,ss⟩
theorem Wk.sub (s:U'.Sublist U):Wk O U O U':=fun K G H a M=>by
 obtain⟨M',ss⟩:=M.sub s;exact⟨a.same ss,M',ss⟩
theorem FzR.sub {e:En}(s:U'.Sublist U):FzR U e U' e:=fun K v H M i=>by
 obtain⟨M',ss⟩:=M.sub s;exact⟨M',i.same ss,ss⟩
def Rws (U:Mu) (as:List Addr) (rs:List (List PyData)):Prop:=PySem.Paired (fun a r=>(a,MO.lst r)∈U) as rs
def lsts (rs:List (List PyData)):List PyData:=rs.map PyData.list
theorem qiX (M:RelM K U H):∀ {as:List Addr}{rs:List (List PyData)},Rws U as rs->IsAll K H (as.map V.ref) (lsts rs)
 | _,_,.nil=>.nil
 | a::as,r::rs,.cons h t=>by
  obtain⟨xs,e,hs⟩:=M.ob a (.lst r) h;exact .cons (.lst (SqL.of e) (IsAll.same yB hs)) (qiX M t)
inductive DatN (U:Mu):En->PyData->Prop
 | d {e:En}{x:PyData}(h:DatOf U e x):DatN U e x
 | r {p:Addr}{as:List Addr}{rs:List (List PyData)}(h:(p,.refs as)∈U) (ha:Rws U as rs):DatN U (.m p) (.list (lsts rs))
theorem DatN.is {e:En}{x:PyData}(h:DatN U e x) (M:RelM K U H) (i:IsE K U H v e):Is K H v x:=by
 cases h with
 | d h=>exact h.is M i
 | @r p as rs h ha =>
  have hp:H p=some (.lst (as.map V.ref)):=M.ob p _ h;have i:v=_:=i;subst i;exact .lst (SqL.of hp) (qiX M ha)
end L2
namespace L2
variable {e:En}{suite:List Stmt}{E:XK}
def Rea (K:W.Frag) (U:Mu) (e:En) (d:PyData):Prop:=∀ v H,RelM K U H->IsE K U H v e->Is K H v d
theorem Rea.dat {d:PyData}(h:DatOf U e d):Rea K U e d:=fun v H M i=>h.is M i
theorem Rea.d {d:PyData}:Rea K U (.d d) d:=Rea.dat (.d _)
theorem Rea.l (h:LstOf U e ds):Rea K U e (.list ds):=by
 cases h with
 | d ds=>exact Rea.d
 | m h=>exact Rea.dat (.m h)
theorem Rea.refs {as:List Addr}{rs:List (List PyData)}(hp:(p,MO.refs as)∈U) (ha:Rws U as rs):Rea K U (.m p) (.list (lsts rs)):=fun v H M i=>(DatN.r hp ha).is M i
theorem Rea.all (M:RelM K U H):∀ {vs:List V}{es:List En}{ds:List PyData},Paired (IsE K U H) vs es->Paired (Rea K U) es ds->IsAll K H vs ds
 | _,_,_,.nil,.nil=>.nil
 | _,_,_,.cons a b,.cons c d=>.cons (c _ H M a) (Rea.all M b d)
theorem Rea.tup {es:List En}{ds:List PyData}(h:Paired (Rea K U) es ds):Rea K U (.x (stT K es)) (.tuple ds):=fun v H M i=>by
 obtain⟨p,vs,rfl,h1,h2⟩:=i;exact .tup (h1.same yB) (Rea.all M (Paired.imp' (r:=h2) fun _ _ h=>qcA h) h)
theorem LstOf.mono (s:∀ x∈U,x∈U') (h:LstOf U e ds):LstOf U' e ds:=by
 cases h with
 | d ds=>exact .d _
 | m h=>exact .m (s _ h)
def qmi (K:W.Frag) (neg:Bool):R2d:=fun x y U Q=>∃ d d',Rea K U x d/\Rea K U y d'/\SeqAt.shaped d=true/\SeqAt.shaped d'=true/\Q (.d (.bool (if neg then !PyData.eqv d d' else PyData.eqv d d'))) U
theorem qjm (hu:X.A.units+64<cLine) (hK:X.K=K:=by rfl):OpR X (compareOp .Eq) (upR K (qmi K false)):=by
 subst hK;refine (qi7 hu).mono fun x y H Q h=>?_;obtain⟨U,e,e',Q0,M,i1,i2,q,cl⟩:=h;obtain⟨d,d',h1,h2,h3,h4,q⟩:=q;exact⟨d,d',h1 _ H M i1,h2 _ H M i2,h3,h4,cl _ U _ H q M (yr.refl _) (.bl _)⟩
theorem qng (hu:X.A.units+64<cLine) (hK:X.K=K:=by rfl):OpR X (compareOp .NotEq) (upR K (qmi K true)):=by
 subst hK;refine (qi6 hu).mono fun x y H Q h=>?_;obtain⟨U,e,e',Q0,M,i1,i2,q,cl⟩:=h;obtain⟨d,d',h1,h2,h3,h4,q⟩:=q;exact⟨d,d',h1 _ H M i1,h2 _ H M i2,h3,h4,cl _ U _ H q M (yr.refl _) (.bl _)⟩
def qmh (K:W.Frag):RAd:=fun es U Q=>∃ e n d,es=[e,.ty n]/\Rea K U e d/\n∈tys/\Q (.d (.bool (isTy n d))) U
theorem qbf (hK:X.K=K:=by rfl):jq X (.builtin "isinstance") (upC K (qmh K)):=by
 subst hK;refine qil.mono fun xs H Q h=>?_;obtain⟨U,es,Q0,M,hp,⟨e,n,d,rfl,hd,hn,q⟩,cl⟩:=h;obtain⟨v,v',rfl,i1,i2⟩:=qfA hp;have i2:v'=_:=i2;subst i2;exact⟨_,_,_,rfl,hd _ H M i1,hn,cl _ U _ H q M (yr.refl _) (.bl _)⟩
def qmc (K:W.Frag):RAd:=fun es U Q=>∃ xs,es=[.x (stT K xs)]/\Q (.d (.int (xs.length:Int))) U
theorem qlc (hK:X.K=K:=by rfl):jq X (.builtin "len") (upC K (qmc K)):=by
 subst hK;refine ZD.mono fun xs H Q h=>?_;obtain⟨U,es,Q0,M,hp,⟨ys,rfl,q⟩,cl⟩:=h;obtain⟨v,rfl,i1⟩:=YG hp;obtain⟨p,vs,rfl,h1,h2⟩:=i1;exact⟨p,vs,rfl,.inr (h1.same yB),by rw[Paired.len h2];exact cl _ U _ H q M (yr.refl _) (.int _)⟩
def dAppR (to:TEd) (tr:TAd):TEd:=fun O U Q=>to O U fun x U1=>∃ p as0,x = .m p/\(p,MO.refs as0)∈U1/\tr O U1 fun es U2=>∃ a U3 U4 as,es=[.m a]/\U2=U3++(p,MO.refs as)::U4/\as.length<4000/\Q (.d .none) (U3++(p,.refs (as++[a]))::U4)
theorem qjr {e:Expr}(ho:DE K X o to) (ha:DA K X [e] tr) (hK:X.K=K:=by rfl)
  (h:PE X o (up K to)->PA X [e] (upA K tr)->PE X (.Call (.Attribute o "append" p1) [e] [] pos) (tBM X.K "list" rAppend (up K to) (upA K tr))):DE K X (.Call (.Attribute o "append" p1) [e] [] pos) (dAppR to tr):=by
 subst hK;refine PE.mono (h ho ha) fun G H Q Og=>?_;obtain⟨O,U,Q0,hS,hM,h,cl⟩:=Og;refine⟨O,U,_,hS,hM,h,fun x U1 v H1 q M1 s1 i1=>?_⟩;obtain⟨p,as0,rfl,hd0,q⟩:=q;have i1:v=_:=i1;subst i1;have e0:H1 p=some (.lst (as0.map V.ref)):=M1.ob _ _ hd0;refine⟨.inl ⟨rfl,_,SqL.of e0⟩,O,U1,_,hS.same s1,M1,q,fun es U2 vs H2 q2 M2 s2 i2=>?_⟩;obtain⟨a,U3,U4,as,rfl,rfl,hl,q2⟩:=q2;obtain⟨v,rfl,h1⟩:=YG i2;have h1:v = .ref a:=h1;subst h1;have ex:H2 p=some (.lst (as.map V.ref)):=M2.ob p (.refs as) (by simp);refine⟨p,_,_,rfl,rfl,ex,yR (by rw[qc];lia),?_⟩;obtain⟨M3,s3⟩:=M2.write (H':=upd H2 p (.lst (as.map V.ref++[V.ref a]))) (o':=.refs (as++[a])) (fun b u e n=>by rw[qV n];exact e) fun ss=>(show upd H2 p _ p=some (.lst ((as++[a]).map V.ref)) by rw[qU,qI];rfl);exact cl _ _ .non _ q2 M3 ((s1.trans s2).trans s3) .non
def qnk (to ti:TEd):TGd:=fun e O U R=>to O U fun o U1=>ti O U1 fun i U2=>∃ a p k U3 U4 as,e = .m a/\o = .m p/\i = .d (.int k)/\U2=U3++(p,MO.refs as)::U4/\0<=k/\k.toNat<as.length/\R O (U3++(p,.refs (as.set k.toNat a))::U4)
theorem qk9 {i:Expr}{ti:TEd}(ho:DE K X o to) (hi:DE K X i ti)
  (ha:∀ v,assign (.Subscript o i pos) X.env v=(do
   let ov <- holding [v] (eval o X.env)
   let iv <- holding [v,ov] (eval i X.env)
   standAt pos
   holding [v,ov,iv] (setItem ov iv v)
   release [v,ov,iv] []):=by intro _;rfl):DG K X (.Subscript o i pos) (qnk to ti):=by
 refine PG.mono (qbK ho hi ZF ha) fun v G H Q Og=>?_;obtain⟨e,O,U,Q0,i0,hS,hM,h,cl⟩:=Og;refine⟨O,U,_,hS,hM,h,fun o U1 v1 H1 q M1 s1 i1=>⟨O,U1,_,hS.same s1,M1,q,fun i U2 v2 H2 q2 M2 s2 i2=>?_⟩⟩;obtain⟨a,p,k,U3,U4,as,rfl,rfl,rfl,rfl,hk,hlt,q2⟩:=q2;have i0:v = .ref a:=i0;subst i0;have i1:v1 = .ref p:=i1;subst i1;cases i2
 have ex:H2 p=some (.lst (as.map V.ref)):=M2.ob p (.refs as) (by simp);have hx:ixN (as.map V.ref).length k=some k.toNat:=by
  unfold ixN;rw[if_pos hk,if_pos (by rw[qc];lia)]
 refine⟨p,_,k,k.toNat,rfl,rfl,ex,hx,?_⟩;obtain⟨M4,s4⟩:=M2.write (H':=upd H2 p (.lst ((as.map V.ref).set k.toNat (V.ref a)))) (o':=.refs (as.set k.toNat a)) (fun b u e n=>by rw[qV n];exact e) fun ss=>(show upd H2 p _ p=some (.lst ((as.set k.toNat a).map V.ref)) by rw[qU,List.map_set]);exact cl _ _ _ _ q2 (hS.same ((s1.trans s2).trans s4)) M4 ((s1.trans s2).trans s4)
theorem qk1 {ba0:Stmt}{cx n:Str}{hpos:Pos}{c0:Value}{t:TSd}
  (hst:X.stack=X.env::X.outer) (hfr:X.env.frame=some X.env.locals) (hN:X.N.Nodup) (hi:X.N[i]?=some n) (hl:X.env.scope.names.lookup n=some .local)
  (hg:Gl X cx) (hm:X.mg cx=some c0) (hb:∀ (pn:List (Addr×Obj)) (xe:Value->Shared->Prop),DSs K (qcj X pn xe) body t) (hdb:(cx == ("__debug__" : Str))=false:=by decide) :
  DS K X (.Try body [.ExceptHandler (some (.Name cx np)) (some n) (ba0::suite) hpos] [] [] pos) t :=
 qi3 (tb:=fun _=>upS K t) (ts:=fun _ _ _=>False) (k:=X.N.length) hst hfr hN hi hl rfl hg hm (fun E pn xe _=>hb pn xe) (fun ea Ob s G H D I h=>h.elim) hdb
def thaw0 (K:W.Frag) (s:SpD):SpD:=fun es U Q=>∃ ds:List PyData,Paired (Rea K U) es ds/\s (ds.map En.d) [] fun e U'=>U'=[]/\∃ b,e = .d (.bool b)/\Q (.d (.bool b)) U
theorem qdp : ∀ {vs:List V}{ds:List PyData},IsAll K H vs ds->Paired (IsE K [] H) vs (ds.map En.d)
 | _,_,.nil=>.nil
 | _,_,.cons a b=>.cons (IsE.nil a) (qdp b)
theorem qdS {s:SpD}(h:yq K (thaw0 K s) vs H Q E):yq K s vs H Q E:=by
 obtain⟨U,es,Q0,M,hp,⟨ds,hr,hs⟩,cl⟩:=h;refine⟨[],ds.map En.d,_,RelM.nil,qdp (Rea.all M hp hr),hs,?_⟩;rintro e U' v H' ⟨rfl,b,rfl,q⟩ M2 s2 i2;rw[j7,j7] at s2;obtain⟨M3,s3⟩:=M.same s2;cases i2
 exact cl _ U _ H' q M3 s3 (.bl _)
theorem Own.thaw0 {s:SpD}(Oa:Own P w K mg base CX k x ps (yq K s)):Own P w K mg base CX k x ps (yq K (L2.thaw0 K s)):=Oa.imp fun _ _ _ _ h=>qdS h
section
variable {C0:Addr}{pre:List En->Mu->Prop}
def yU (K:W.Frag) (C0:Addr) (pre:List En->Mu->Prop):Sp:=fun vs H Q E=>∃ U es,RelM K U H/\Paired (IsE K U H) vs es/\pre es U/\∀ H',RelM K U H'->yr (mask U H) (mask U H')->E (.ref C0) none H'
theorem qa3 (hS:RelS K O U G H) (M:RelM K U H) (ht:tr O U fun es U'=>U'=U/\pre es U) (kE:∀ H',RelM K U H'->yr (mask U H) (mask U H')->E (.ref C0) none H'):upA K tr G H fun vs H2=>yU K C0 pre (vs++[]) H2 Q E:=by
 refine⟨O,U,_,hS,M,ht,?_⟩;rintro es U' vs H' ⟨rfl,hp⟩ M' s' i';exact⟨_,es,M',by rw[jt];exact i',hp,fun H2 M2 s2=>kE H2 M2 (s'.trans s2)⟩
theorem qjd (hv:∀ H',yr (mask U H) (mask U H')->IsE K U H' v e) (hS:RelS K O U G H) (M:RelM K U H) (ht:tr O U fun es U'=>U'=U/\pre (e::es) U) (kE:∀ H',RelM K U H'->yr (mask U H) (mask U H')->E (.ref C0) none H'):upA K tr G H fun vs H2=>yU K C0 pre (v::vs++[]) H2 Q E:=by
 refine⟨O,U,_,hS,M,ht,?_⟩;rintro es U' vs H' ⟨rfl,hp⟩ M' s' i';exact⟨_,e::es,M',by rw[jt];exact .cons (hv H' s') i',hp,fun H2 M2 s2=>kE H2 M2 (s'.trans s2)⟩
theorem Yu (e0:En) (hS:RelS K O U G H) (M:RelM K U H) (ht:te O U fun e U'=>U'=U/\e=e0) (kk:∀ v H',RelM K U H'->yr (mask U H) (mask U H')->IsE K U H' v e0->Q v H'):up K te G H Q:=by
 refine⟨O,U,_,hS,M,ht,?_⟩;rintro e U' v H' ⟨rfl,rfl⟩ M' s' i';exact kk v H' M' s' i'
theorem YQ {Q:Bool->Hp->Prop}(b0:Bool) (hS:RelS K O U G H) (M:RelM K U H) (ht:tt O U fun b U'=>U'=U/\b=b0) (kk:∀ H',RelM K U H'->yr (mask U H) (mask U H')->Q b0 H'):upT K tt G H Q:=by
 refine⟨O,U,_,hS,M,ht,?_⟩;rintro b U' H' ⟨rfl,rfl⟩ M' s';exact kk H' M' s'
theorem Ze {es:List En}(n:Nat) (h:Paired (IsE K U H) vs es):RelS K (es.map some++List.replicate n none) U (vs.map some++List.replicate n none) H:=by
 have:=Paired.mapSome (K:=K) h (vs.length+n) (es.length+n) (by lia);simpa using this
theorem y3.l {m:Str}(Oa:y3 P w K mg base CX k C m ps (Zu sp sp')):y3 P w K mg base CX k C m ps sp:=by
 obtain⟨f,fd,F,r⟩:=Oa;exact⟨f,fd,F.imp fun _ _ _ _ h=>.inl h,r⟩
theorem y3.r {C:Addr}{m:Str}{ps:List Str}{sp sp':Sp}(Oa:y3 P w K mg base CX k C m ps (Zu sp sp')):y3 P w K mg base CX k C m ps sp':=by
 obtain⟨f,fd,F,r⟩:=Oa;exact⟨f,fd,F.imp fun _ _ _ _ h=>.inr h,r⟩
end
end L2
namespace L2
theorem qlh
  (hc:X.calm=true) (hsc:X.env.scope=sc) (hN:X.N=N) (ok:jE sc N L scope=true)
  (hi:DI K X tg iter ti) (hg:∀ cl C sa2 Ha2 fp,DG K (qO X L scope cl C sa2 Ha2 fp) tg g) (hf:∀ cl C sa2 Ha2 fp,qjG K (qO X L scope cl C sa2 Ha2 fp) ifs tt) (he:∀ cl C sa2 Ha2 fp,DE K (qO X L scope cl C sa2 Ha2 fp) elt te)
  (hs:∀ x,foldedSetIterable iter X.env x=pure x:=by intro _;rfl) :
  DE K X (.ListComp elt [⟨tg,iter,ifs,0⟩] scope pos) (qjt L.length ti g tt te):=PE.mono (qfv hc hsc hN ok hi hg hf he hs) fun _ _ _=>qhd
def ToM (Q:En->Mu->Prop):En->Mu->Prop:=fun e U'=>∀ ys,e = .d (.list ys)->FinM Q ys U'
theorem compM {Q:En->Mu->Prop}(h:qek k J g tt te O U1 (ToM Q)) :
  ∃ Pv:Nat->List PyData->Rho->Mu->Prop,Pv 0 [] (O++List.replicate k none) U1/\(∀ i ys O' U',i<=J.n->Pv i ys O' U'->J.ok U') ∧
   (∀ i ys O' U',i<J.n->Pv i ys O' U'->g (J.item i) O' U' fun O2 U2=>tt O2 U2 fun b U3=>if b=true then te O2 U3 fun y U4=>∃ z,y = .d z/\Pv (i+1) (ys++[z]) O2 U4 else Pv (i+1) ys O2 U3) ∧
   ∀ ys O' U',Pv J.n ys O' U'->FinM Q ys U':=by
 obtain⟨Pv,h0,h1,h2,h3⟩:=h;exact⟨Pv,h0,h1,h2,fun ys O' U' p=>h3 ys O' U' p ys rfl⟩
end L2
local macro_rules | `(tactic| walk_at "i")=>`(tactic| first | refine JR (fun c=>?_) (fun c=>?_))
namespace K91
def top (i:Nat):Stmt:=PySem.Challenge.pw_halveline_k91_keepers_keep_all_lines.main.body.getD i (.Pass ⟨0,0,0,0⟩)
structure Txt (mg:Str->Option Value):Prop where
 len_:mg "len" = none
 range_:mg "range" = none
 max_:mg "max" = none
 min_:mg "min" = none
 abs_:mg "abs" = none
 int_:mg "int" = none
 isinstance_:mg "isinstance" = none
 tuple_:mg "tuple" = none
 bool_:mg "bool" = none
 list_:mg "list" = none
 all_:mg "all" = none
 any_:mg "any" = none
 set_:mg "set" = none
 sorted_:mg "sorted" = none
 str_:mg "str" = none
 enumerate_:mg "enumerate" = none
 zip_:mg "zip" = none
 divmod_:mg "divmod" = none
abbrev qjP:Stmt:=top 12
abbrev Jb:Stmt:=top 13
abbrev Yf:Stmt:=top 14
abbrev JA:Stmt:=top 15
abbrev qjR:Stmt:=top 17
abbrev qaP:Stmt:=top 18
abbrev qjQ:Stmt:=top 19
abbrev qaT:Stmt:=top 20
abbrev qcn:Stmt:=top 21
abbrev ZZ:Stmt:=top 23
abbrev jx:Stmt:=top 24
abbrev qcl:Stmt:=top 26
abbrev Jo:Stmt:=top 27
abbrev jO:Stmt:=top 29
abbrev Yv:Stmt:=top 31
abbrev qeK:Stmt:=top 33
abbrev Ja:Stmt:=top 34
abbrev ZY:Stmt:=top 35
abbrev YS:Stmt:=top 36
abbrev jN:Stmt:=top 37
abbrev Zd:Stmt:=top 40
abbrev YD:Stmt:=top 41
abbrev Zc:Stmt:=top 42
abbrev Z2:Stmt:=top 43
abbrev Yg:Stmt:=top 44
abbrev Jc:Stmt:=top 45
abbrev Zb:Stmt:=top 46
abbrev JU:Stmt:=top 47
abbrev Za:Stmt:=top 48
abbrev jG:Stmt:=top 49
abbrev jP:Stmt:=top 50
abbrev jT:Stmt:=top 51
abbrev Z3:Stmt:=top 52
abbrev YE:Stmt:=top 53
abbrev JF:Stmt:=top 54
abbrev Yh:Stmt:=top 55
abbrev JE:Stmt:=top 56
abbrev Jq:Stmt:=top 57
abbrev jb:Stmt:=top 58
abbrev qhj:Stmt:=top 59
abbrev j3:Stmt:=YJ (top 38) 0
abbrev Yi:Stmt:=YJ (top 38) 1
abbrev JV:Stmt:=YJ (top 38) 2
abbrev YF:Stmt:=YJ (top 38) 3
abbrev Yj:Stmt:=YJ (top 38) 4
abbrev JG:Stmt:=YJ (top 38) 5
abbrev jU:Stmt:=YJ (top 38) 6
theorem qbi:bootBuiltins "ValueError" = some (.type "ValueError"):=by decide +kernel
structure TxtC (K:W.Frag) (mg:Str->Option Value) (CL CN C1 C2 C3 C4 C5 C6 C7 C8:Addr):Prop where
 isinstance_:mg "isinstance" = none
 ValueError_:mg "ValueError" = none
 cls_LineError:mg "LineError" = some (.ref CL)
 cls_Lacking:mg "Lacking" = some (.ref CN)
 cls_Empty:mg "Empty" = some (.ref C1)
 cls_NoLine:mg "NoLine" = some (.ref C2)
 cls_NoText:mg "NoText" = some (.ref C3)
 cls_NoFlat:mg "NoFlat" = some (.ref C4)
 cls_NoShare:mg "NoShare" = some (.ref C5)
 cls_NoRows:mg "NoRows" = some (.ref C6)
 cls_NoRow:mg "NoRow" = some (.ref C7)
 cls_NoName:mg "NoName" = some (.ref C8)
 exc:W.excIn K CN bmV "ValueError.__new__" = true
 xc:ExcCls K CN
 mL:W.exmOne K (.ref CN) (.ref CL)=some true
 iV:W.kitOne K (.ref CN) (.type "ValueError")=some true
 iA:W.kitAny K (.ref CN) [.ref C1,.ref C2,.ref C3,.ref C4,.ref C5,.ref C6,.ref C7,.ref C8]=some false
 mN:W.exmOne K (.ref CN) (.ref CN)=some true
abbrev PC0:MO:=.pot 2147483579
def ql8:SpD:=fun es U Q=>∃ (ns:List Int) (k:Nat),es=[.d (.list (ns.map .int)),.d (.int k)]/\ns.length<=63/\∀ c:Int,Q (.d (.int c)) U
def qiR:SpD:=fun es U Q=>∃ (ns:List Int) (k:Nat),es=[.d (.list (ns.map .int)),.d (.int k)]/\ns.length<=63/\k<=63/\∀ p,p∉U.map Prod.fst->Q (.m p) ((p,PC0)::U)
theorem qii {lo hi:Option Int}{x:PyData}(h:(ZT (ns.map PyData.int) lo hi)[i]?=some x):∃ y,x = .int y:=by
 obtain⟨y,_,e⟩:=qF.mp (jn (jm (List.mem_of_getElem? h)));exact⟨y,e.symm⟩
theorem qe2:FnScope ["_law_script", "_law_k"] ["_law_script", "_law_k"] (qq Zd):=by trivial
theorem qkz (F:Fun K "_law_cell" "_law_cell" Zd f fd) (T:Txt mg):FnOk P w K mg base CX 1 f fd ["_law_script", "_law_k"] (yq K ql8):=by
 refine F.okD qe2 (by trivial) (fun Oh A outer s H E es U Q hr Oi=>?_);obtain⟨ns,n,e,hl,k⟩:=Oi;subst e;have nd:=qe2.nd;refine⟨_,(qR (yd (qlf (yp qbe (dv 1) (yA Ye (by rfl) T.len_ JO (qb (dv 0) qj)) (yj _)) (jg yc (dv 0) (dv 1)) qH))),?_⟩;refine⟨_,.l (.d _),?_⟩;rw[qc];refine JR (fun c=>?_) (fun c=>k 0);have hc:(n:Int)<(ns.length:Int):=qJ c;have hn2:n<ns.length:=by lia
 exact⟨.int ns[n],yP (by rw[qK,qf hn2];rfl),k ns[n]⟩
theorem qc5:FnScope ["_law_script", "_law_k", "_law_mixed", "_law_cell_here"] ["_law_script", "_law_k"] (qq YD):=by trivial
theorem qhK (F:Fun K "_law_store" "_law_store" YD f fd) (T:Txt mg) (hX:NoX CX) (OP:Own P w K mg base CX 1 "_law_cell" ["_law_script", "_law_k"] (yq K ql8)):FnOk P w K mg base CX 2 f fd ["_law_script", "_law_k"] (yq K qiR):=by
 refine F.okD qc5 (by trivial) (fun Oh A outer s H E es U Q hr Oi=>?_);obtain⟨ns,n,e,hl,hn,k⟩:=Oi;subst e;have nd:=qc5.nd;refine⟨_,(qC (yM (i:=2) nd (yS Jv qH (yS je qH (dv 1))))
   (qC (Yn PassesOwn.never rfl (jA (Jk (dv 0) Ji (Jh qH))) (ji (i:=3) nd) (qR (yM (i:=2) nd (yS qdy (yS Jv (yS je (dv 2) qH) (dv 3)) qH))))
   (qR (Zk (qdC (qb (yA (qgK rfl) (by rfl) T.max_ qdH (qb qH (qb (yS Jj (yt OP hX hr.mo rfl (qb (dv 0) (qb (dv 1) qj))) (yS ZA qH qH)) qj))) (qb (dv 2) qj))))))),?_⟩
 refine⟨⟨qg6 (by decide) (by decide),qg6 (by lia) (by lia)⟩,_,.d _,_,.d _,?_⟩;refine forL (fun i O' U'=>U'=U/\∃ (z:Int) (v:Option En),O'=[some (.d (.list (ns.map .int))),some (.d (.int n)),some (.d (.int z)),v]/\0<=z/\z<2147483579) ⟨rfl,_,_,rfl,by lia,by lia⟩ (fun _ _ _ _=>.d _) ?_ ?_
 .rintro i x O' U' hx ⟨rfl,z,v,rfl,z0,z1⟩;obtain⟨y,rfl⟩:=qii hx;have g0:0<=(z * 51239+y) % 2147483543:=Int.emod_nonneg _ (by decide);have g1:(z * 51239+y) % 2147483543<2147483543:=Int.emod_lt_of_pos _ (by decide);exact⟨⟨qg6 (by lia) (by lia),qg6 (by decide) (by decide)⟩,(show (0:Int)<2147483543 by decide),Wks.of ⟨rfl,_,_,rfl,g0,by lia⟩⟩
 .rintro O' U' ⟨rfl,z,v,rfl,z0,z1⟩;refine⟨ns,n,rfl,hl,fun c=>⟨⟨by decide,by decide,by decide⟩,zl2,fun p hp=>⟨_,_,FzR.pot ?_ z0 z1,k p hp⟩⟩⟩;dsimp only;split <;> lia
theorem qe1:FnScope ["_law_store_here", "_law_many", "_law_digit"] ["_law_store_here", "_law_many"] (qq Zc):=by trivial
theorem qkx (F:Fun K "_law_draw" "_law_draw" Zc f fd) (T:Txt mg):FnOk P w K mg base CX 1 f fd ["_law_store_here", "_law_many"] (yq K (qbJ 2147483579)):=by
 refine FnOk.imp (sp:=qeF 2147483579) ?_ fun _ _ _ _ h=>qk3 h;refine F.okG qe1 (fun vs H Q E h=>?_) (fun Oh A outer s H vs Q E hr h=>?_)
 .obtain ⟨p,m,rfl,_⟩:=h;rfl
 .obtain ⟨p,m,rfl,⟨p0,p1,e,h0,h1,h2⟩,m0,m1,k⟩:=h;have nd:=qe1.nd;refine⟨_,(jQ (qfi (qfg qmI (qdY YI (pv 0) Jr (fun _ _=>rfl)) Jr (yj _)) (jQ (qfj (YV qcP (by rfl) T.divmod_ qgS (yy (qdY YI (pv 0) Jr (fun _ _=>rfl)) (yy (pv 1) Js))) (qfr rfl (ZI (qbK (pv 0) Jr ZF) (ZI (qfs (i:=2) nd rfl (by trivial)) qcq))))
   (jH (Zx (pv 2)))) qcp)
   (jQ (qfj (qbL qdi (qbL qfE (qbL qcs (qdY YI (pv 0) Jr (fun _ _=>rfl)) Jr) Jr) Jr) (qbK (pv 0) Jr ZF))
   (jH (Zx (qbL qdi (qbL qkg (qbL qdi (qbL qcs (qdY YI (pv 0) Jr (fun _ _=>rfl)) (qdY YI (pv 0) Jr (fun _ _=>rfl))) Jr) Jr) (pv 1)))))),?_⟩
  refine⟨_,rfl,p,_,_,_,rfl,rfl,SqL.of e,rfl,_,_,rfl,rfl,_,rfl,?_⟩;refine JR (fun c=>?_) (fun c=>?_)
  .have hc:0<p0:=qJ c;refine⟨_,rfl,p,_,_,_,rfl,rfl,SqL.of e,rfl,_,rfl,_,_,rfl,⟨m0,by lia⟩,fun t ht=>?_⟩;have e':=yr.upd (o:=.tup [.int (p0 / m),.int (p0 % m)]) ht _ _ e;refine⟨t,_,rfl,SqT.of qU,rfl,_,_,rfl,_,rfl,p,_,_,_,rfl,rfl,e',rfl,_,_,rfl,rfl,?_⟩;refine⟨_,rfl,?_⟩;refine k _ _ (Int.emod_nonneg _ (by lia)) (Int.emod_lt_of_pos _ m0) ⟨p0 / m,p1,qU,Int.ediv_nonneg h0 (by lia),h1,h2⟩ ((yr.upd ht).stp.trans Stp.upd)
  .refine ⟨_,rfl,p,_,_,_,rfl,rfl,SqL.of e,rfl,_,_,rfl,rfl,⟨Big.of 2147483579 (by decide) (by lia) (by lia),Big.of 40487 (by decide) (by decide) (by decide)⟩,_,_,rfl,rfl,_,_,rfl,rfl,(show (0:Int)<2147483579 by decide),_,rfl,p,_,_,_,rfl,rfl,e,rfl,?_⟩;have g0:0<=(p1 * 40487+9973) % 2147483579:=Int.emod_nonneg _ (by decide);have g1:(p1 * 40487+9973) % 2147483579<2147483579:=Int.emod_lt_of_pos _ (by decide);have e':∀ z,(upd H p (.lst [V.int p0,V.int z])) p=some (.lst [V.int p0,V.int z]):=fun z=>qU;refine⟨_,rfl,p,_,_,_,rfl,rfl,SqL.of (e' _),rfl,_,rfl,p,_,_,_,rfl,rfl,SqL.of (e' _),rfl,_,_,rfl,rfl,⟨Big.of 2147483579 (by decide) (by lia) (by lia),Big.of 2147483579 (by decide) (by lia) (by lia)⟩,_,_,rfl,rfl,(show (0:Int)<2147483549 by decide),_,_,rfl,rfl,⟨by decide,by decide⟩,_,rfl,_,_,rfl,rfl,m0,?_⟩;exact k _ _ (Int.emod_nonneg _ (by lia)) (Int.emod_lt_of_pos _ m0) ⟨p0,_,e' _,h0,g0,g1⟩ Stp.upd
theorem e8:(10:Int) ^ (8:Int).toNat=100000000:=by decide
theorem e30:(10:Int) ^ (30:Int).toNat=1000000000000000000000000000000:=by decide
theorem qiO:FnScope ["_law_store_here", "_law_found", "_law_k"] ["_law_store_here"] (qq Z2):=by trivial
theorem qmW (F:Fun K "_law_far" "_law_far" Z2 f fd) (T:Txt mg) (hX:NoX CX) (Od:Own P w K mg base CX 1 "_law_draw" ["_law_store_here", "_law_many"] (yq K (qbJ 2147483579))):FnOk P w K mg base CX 2 f fd ["_law_store_here"] (yq K (qnL 2147483579)):=by
 refine F.okD qiO (by trivial) (fun Oh A outer s H E es U Q hr Oi=>?_);obtain⟨p,e,hp,k⟩:=Oi;subst e;have nd:=qiO.nd;refine⟨_,(qC (yM (i:=1) nd qH)
   (qC (Yn PassesOwn.never rfl (JM rfl T.range_ (qb qH qj)) (ji (i:=2) nd) (qR (yM (i:=1) nd (yS Jv (yS je (dv 1) (yS ZA qH qH)) (yt Od hX hr.mo rfl (qb (dv 0) (qb (yS ZA qH qH) qj)))))))
   (qR (yd (yS Jv (yS Jj (yS qdy (dv 1) (yS Jj (yS je qH (yS ZA qH qH)) qH)) (yS ZA qH qH)) qH))))),?_⟩
 refine⟨by decide,by decide,qlA (fun i O' U'=>U'=U/\∃ (z:Int) (v:Option En),O'=[some (.m p),some (.d (.int z)),v]/\0<=z/\z<100000000 ^ i) ⟨rfl,0,none,rfl,by decide,by decide⟩ ?_ ?_⟩
 .rintro i O' U' hi ⟨rfl,z,v,rfl,z0,z1⟩;have hb:z<10000000000000000000000000000000000000000:=by
   have:i=0\/i=1\/i=2\/i=3:=by have hi:i<4:=hi;lia
   rcases this with rfl | rfl | rfl | rfl <;> simp at z1 <;> lia
  refine⟨⟨by decide,by decide,by decide⟩,⟨qg6 (by lia) (by lia),by rw[e8];exact qg6 (by decide) (by decide)⟩,⟨by decide,by decide,by decide⟩,p,_,rfl,hp,by rw[e8];decide,by rw[e8];decide,fun d d0 d1=>Wks.of ⟨rfl,_,_,rfl,?_,?_⟩⟩
  .rw [e8] at *;lia
  .rw [e8] at *;rw[Int.pow_succ];generalize (100000000:Int) ^ i=y at z1;lia
 .rintro O' U' ⟨rfl,z,v,rfl,z0,z1⟩;refine⟨⟨by decide,by decide,by decide⟩,⟨qg6 (by decide) (by decide),by rw[e30];exact qg6 (by decide) (by decide)⟩,by rw[e30];show (0:Int)<2 * 1000000000000000000000000000000 - 1;decide,⟨by decide,by decide,by decide⟩,k _ ?_⟩;rw[e30];unfold Num;lia
end K91
namespace K91
variable {ps:List Pt}{a:Int}{p:Pt}
theorem qbE:FnScope ["_law_store_here", "_law_way"] ["_law_store_here"] (qq Yg):=by trivial
theorem qfG (F:Fun K "_law_number" "_law_number" Yg f fd) (hX:NoX CX) (Od:Own P w K mg base CX 1 "_law_draw" ["_law_store_here", "_law_many"] (yq K (qbJ 2147483579))) (OT:Own P w K mg base CX 2 "_law_far" ["_law_store_here"] (yq K (qnL 2147483579))):FnOk P w K mg base CX 3 f fd ["_law_store_here"] (yq K (qnL 2147483579)):=by
 refine F.okD qbE (by trivial) (fun Oh A outer s H E es U Q hr Oi=>?_);obtain⟨p,e,hp,k⟩:=Oi;subst e;have nd:=qbE.nd;refine⟨_,(qC (yM (i:=1) nd (yt Od hX hr.mo rfl (qb (dv 0) (qb qH qj))))
   (qC (jz (yp (Yp hr.units) (dv 1) qH (yj _)) (qR (yd (yt OT hX hr.mo rfl (qb (dv 0) qj)))) yW)
   (qC (jz (yp (Yp hr.units) (dv 1) qH (yj _)) (qR (yd (jg yc (Y1 (qb (yS Jj (yS ZA qH qH) qH) (qb (yS Jj qH (yS ZA qH qH)) qj))) (yt Od hX hr.mo rfl (qb (dv 0) (qb qH qj)))))) yW)
   (qR (yd (yS Jj (yt Od hX hr.mo rfl (qb (dv 0) (qb qH qj))) qH)))))),?_⟩
 refine⟨p,_,rfl,hp,by decide,by decide,fun d d0 d1=>JR (fun c=>?_) (fun c=>JR (fun c=>?_) (fun c=>?_))⟩
 .exact ⟨p,rfl,hp,fun n hn=>k n hn⟩
 .refine ⟨⟨by decide,by decide,by decide⟩,⟨by decide,by decide,by decide⟩,zl2,p,_,rfl,hp,by decide,by decide,fun d d0 d1=>?_⟩;have:d=0\/d=1:=by omega
  rcases this with rfl | rfl
  .refine ⟨_,rfl,k (10 ^ (30:Int).toNat - 1) ?_⟩;rw[e30];unfold Num;omega
  .refine ⟨_,rfl,k (1 - 10 ^ (30:Int).toNat) ?_⟩;rw[e30];unfold Num;omega
 .refine ⟨p,_,rfl,hp,by decide,by decide,fun d d0 d1=>k _ ?_⟩;unfold Num;omega
def qe4:SpD:=fun es U Q=>∃ (p:Addr) (ps:List Pt),es=[.m p,.d (.list (ps.map ptD))]/\(p,PC0)∈U/\ps.length<=100/\(∀ q∈ps,qbu q)/\∀ q,qbu q->Q (.d (ptD q)) U
theorem qgT {d:Int}(d0:0<=d) (d1:d<((ps.map ptD).length:Int)):∃ q∈ps,atI (ps.map ptD) d=some (ptD q):=by
 rw[qc] at d1;have hd:d.toNat<ps.length:=by omega
 refine⟨ps[d.toNat],ya hd,?_⟩;have:=yP (xs:=ps.map ptD) (j:=d.toNat) (v:=ptD ps[d.toNat]) (by rw[qK,qf hd];rfl);rwa[show ((d.toNat:Nat):Int)=d by omega] at this
theorem qjy (h1:1<=j) (h2:j<=ps.length):∃ q∈ps,atI (ps.map ptD) (-(j:Int))=some (ptD q):=by
 have hd:ps.length - j<ps.length:=by omega
 refine⟨ps[ps.length - j],ya hd,?_⟩;have e:ixN (ps.map ptD).length (-(j:Int))=some (ps.length - j):=by
  unfold ixN;rw[qc,if_neg (by omega),if_pos (by omega)];congr 1;omega
 unfold atI;rw[e];show (ps.map ptD)[ps.length - j]?=_;rw[qK,qf hd];rfl
theorem mul2 (h:Num a):qbr 2 a:=by
 obtain⟨h1,h2⟩:=h;exact⟨qg6 (by decide) (by decide),qg6 (by omega) (by omega)⟩
theorem qfS (c:(!PyData.eqv (.list (ps.map ptD)) (.list []))=true):0<ps.length:=by
 cases ps with
 | nil=>exact absurd c (by decide)
 | cons a b=>simp
theorem qc6:FnScope ["_law_store_here", "_law_some", "_law_way", "_law_x", "_law_y"] ["_law_store_here", "_law_some"] (qq Jc):=by trivial
theorem qhL (F:Fun K "_law_point" "_law_point" Jc f fd) (T:Txt mg) (hX:NoX CX) (Od:Own P w K mg base CX 1 "_law_draw" ["_law_store_here", "_law_many"] (yq K (qbJ 2147483579))) (Op:Own P w K mg base CX 3 "_law_number" ["_law_store_here"] (yq K (qnL 2147483579))):FnOk P w K mg base CX 4 f fd ["_law_store_here", "_law_some"] (yq K qe4):=by
 refine F.okD qc6 (by trivial) (fun Oh A outer s H E es U Q hr Oi=>?_);obtain⟨p,ps,e,hp,hl,hb,k⟩:=Oi;subst e;have nd:=qc6.nd;have hz:((ps.map ptD).length:Int)<=100000000:=by rw[qc];omega
 have key:∃ t,DSs K (qao CX P w K mg base ["_law_store_here", "_law_some", "_law_way", "_law_x", "_law_y"] "_law_point" (qq Jc) f Oh A outer s H E).nox ((yY Jc).drop 4) t ∧
   ∀ (v1 v2 v3:Option En),t { nx:=fun _ U'=>Q (.d .none) U',rt:=Q } [some (.m p),some (.d (.list (ps.map ptD))),v1,v2,v3] U:=by
  refine⟨_,(qR (yd (Yr (qb (yt Op hX hr.mo rfl (qb (dv 0) qj)) (qb (yt Op hX hr.mo rfl (qb (dv 0) qj)) qj))))),fun v1 v2 v3=>?_⟩;exact⟨p,rfl,hp,fun a ha=>⟨p,rfl,hp,fun b hb=>⟨zl2,k (a,b) ⟨ha,hb⟩⟩⟩⟩
 obtain⟨t,ht,hk⟩:=key;refine⟨_,(qC (yM (i:=2) nd (yt Od hX hr.mo rfl (qb (dv 0) (qb qH qj))))
   (qC (jz (qcg (Ym (yp (Yp hr.units) (dv 2) qH (yj _)) (JB (yp (qbd hr.units) (dv 1) (Y1 qj) (yj _))))) (qR (yd (jg yc (dv 1) (yt Od hX hr.mo rfl (qb (dv 0) (qb (yA Ye (by rfl) T.len_ JO (qb (dv 1) qj)) qj)))))) yW)
   (qC (jz (qcg (Ym (yp (Yp hr.units) (dv 2) qH (yj _)) (JB (yp (qbd hr.units) (dv 1) (Y1 qj) (yj _))))) (qC (Ju (jg yc (dv 1) (yt Od hX hr.mo rfl (qb (dv 0) (qb (yA Ye (by rfl) T.len_ JO (qb (dv 1) qj)) qj)))) (Jw (n:=2) rfl (ye (ji (i:=3) nd) (ye (ji (i:=4) nd) jB))))
   (qR (yd (jg yc (Y1 (qb (Yr (qb (dv 3) (qb (yt Op hX hr.mo rfl (qb (dv 0) qj)) qj))) (qb (Yr (qb (yt Op hX hr.mo rfl (qb (dv 0) qj)) (qb (dv 4) qj))) qj))) (yt Od hX hr.mo rfl (qb (dv 0) (qb qH qj))))))) yW)
   (qC (jz (qcg (Ym (yp (Yp hr.units) (dv 2) qH (yj _)) (JB (yp qcF (yA Ye (by rfl) T.len_ JO (qb (dv 1) qj)) qH (yj _))))) (qC (qaH (i:=3) (j:=4) rfl nd rfl rfl (by decide) rfl rfl (qb (yS Jj (yS je qH (jg yc (jg yc (dv 1) (qjp Zz qH)) qH)) (jg yc (jg yc (dv 1) (qjp Zz qH)) qH)) (qb (yS Jj (yS je qH (jg yc (jg yc (dv 1) (qjp Zz qH)) qH)) (jg yc (jg yc (dv 1) (qjp Zz qH)) qH)) qj)) rfl)
   (qR (jz (yp qbe (yA (qgK rfl) (by rfl) T.max_ qdH (qb (yA qaJ (by rfl) T.abs_ qaM (qb (dv 3) qj)) (qb (yA qaJ (by rfl) T.abs_ qaM (qb (dv 4) qj)) qj))) (yS ZA qH qH) (yj _)) (qR (yd (Yr (qb (dv 3) (qb (dv 4) qj))))) yW))) yW)
   ht)))),?_⟩
 refine⟨p,7,rfl,hp,by decide,by decide,fun wy w0 w1=>?_⟩;refine JR (fun c=>?_) (fun c=>?_)
 .refine ⟨zl0,_,_,.d _,.d _,Y7 ps,rfl,JR (fun c2=>?_) (fun c2=>?_)⟩
  .have hne:=qfS c2;refine⟨_,.l (.d _),p,_,rfl,hp,(by show (0:Int)<((ps.map ptD).length:Int);rw[qc];omega),hz,fun d d0 d1=>?_⟩;obtain⟨q,hq,e⟩:=qgT d0 d1;exact⟨_,e,k q (hb q hq)⟩
  .have c:wy=0:=qJ c;subst c;exact hk _ _ _
 .refine YO (JR (fun c2=>?_) (fun c2=>YO ?_))
  .have c2:wy=1:=qJ c2;refine⟨zl0,_,_,.d _,.d _,Y7 ps,rfl,JR (fun c3=>?_) (fun c3=>?_)⟩
   .have hne:=qfS c3;refine⟨_,.l (.d _),p,_,rfl,hp,(by show (0:Int)<((ps.map ptD).length:Int);rw[qc];omega),hz,fun d d0 d1=>?_⟩;obtain⟨q,hq,e⟩:=qgT d0 d1;have hq:=hb q hq;refine⟨_,e,rfl,p,rfl,hp,fun a ha=>⟨zl2,p,rfl,hp,fun b hb=>⟨zl2,zl2,p,_,rfl,hp,by decide,by decide,fun d d0 d1=>?_⟩⟩⟩;have:d=0\/d=1:=by omega
    rcases this with rfl | rfl
    .exact ⟨_,rfl,k (q.1,a) ⟨hq.1,ha⟩⟩
    .exact ⟨_,rfl,k (b,q.2) ⟨hb,hq.2⟩⟩
   .subst c2;exact hk _ _ _
  .refine JR (fun c3=>?_) (fun c3=>YO (hk _ _ _));refine⟨_,.l (.d _),JR (fun c4=>?_) (fun c4=>hk _ _ _)⟩;have c4:(1:Int)<((ps.map ptD).length:Int):=qJ c4;rw[qc] at c4;obtain⟨q1,hq1,e1⟩:=qjy (ps:=ps) (j:=1) (by omega) (by omega);obtain⟨q2,hq2,e2⟩:=qjy (ps:=ps) (j:=2) (by omega) (by omega);have b1:=hb q1 hq1;have b2:=hb q2 hq2;refine⟨_,e1,_,rfl,mul2 b1.1,_,e2,_,rfl,_,e1,_,rfl,mul2 b1.2,_,e2,_,rfl,?_⟩;refine⟨⟨by decide,by decide,by decide⟩,JR (fun c5=>?_) (fun c5=>hk _ _ _)⟩;have c5:(if ((2 * q1.1 - q2.1).natAbs:Int)<((2 * q1.2 - q2.2).natAbs:Int) then ((2 * q1.2 - q2.2).natAbs:Int) else ((2 * q1.1 - q2.1).natAbs:Int))<10 ^ (30:Int).toNat:=qJ c5;rw[e30] at c5;refine⟨zl2,k (2 * q1.1 - q2.1,2 * q1.2 - q2.2) ⟨?_,?_⟩⟩
   .unfold Num;dsimp only;split at c5 <;> omega
   .unfold Num;dsimp only;split at c5 <;> omega
def ql6:SpD:=fun es U Q=>∃ (p:Addr) (ks:List Pt),es=[.m p,.d (.list (ks.map ptD))]/\(p,PC0)∈U/\ks.length<=40/\(∀ q∈ks,qbu q)/\∀ ps:List Pt,ps.length<=5->(∀ q∈ps,qbu q)->Q (.d (.list (ps.map ptD))) U
theorem qe0:FnScope ["_law_store_here", "_law_known", "_law_heap_here", "_law_k"] ["_law_store_here", "_law_known"] (qq Zb):=by trivial
theorem qkw (F:Fun K "_law_heap" "_law_heap" Zb f fd) (T:Txt mg) (hX:NoX CX) (Od:Own P w K mg base CX 1 "_law_draw" ["_law_store_here", "_law_many"] (yq K (qbJ 2147483579))) (On:Own P w K mg base CX 4 "_law_point" ["_law_store_here", "_law_some"] (yq K qe4)):FnOk P w K mg base CX 5 f fd ["_law_store_here", "_law_known"] (yq K ql6):=by
 refine F.okD qe0 (by trivial) (fun Oh A outer s H E es U Q hr Oi=>?_);obtain⟨p,ks,e,hp,hl,hb,k⟩:=Oi;subst e;have nd:=qe0.nd;refine⟨_,(qC (yM (i:=2) nd (qdC qj))
   (qC (Yn PassesOwn.never rfl (JM rfl T.range_ (qb (yt Od hX hr.mo rfl (qb (dv 0) (qb qH qj))) qj)) (ji (i:=3) nd) (qR (Yo (Y2 (dv 2) (qb (yt On hX hr.mo rfl (qb (dv 0) (qb (yS jV (dv 1) (dv 2)) qj))) qj) (h:=fun a b=>ZE PySem.F.plainAttrs_list PySem.F.slot_list_append PySem.F.type_list_append Je a b)))))
   (qR (Zk (dv 2))))),?_⟩
 refine⟨zl0,fun l hl'=>?_⟩;have hp1:∀ o,(p,PC0)∈(l,o)::U:=fun o=>qd _ hp;refine⟨p,_,rfl,hp1 _,by decide,by decide,fun n n0 n1=>⟨by omega,by omega,?_⟩⟩;refine qlA (fun i O' U'=>∃ ps:List Pt,U'=(l,.lst (ps.map ptD))::U/\ps.length=i/\(∀ q∈ps,qbu q)/\∃ v1,O'=[some (.m p),some (.d (.list (ks.map ptD))),some (.m l),v1])
  ⟨[],rfl,rfl,fun _ h=>(nomatch h),_,rfl⟩ ?_ ?_
 .rintro i O' U' hi ⟨ps,rfl,hlen,hps,v1,rfl⟩;have hi:i<n.toNat:=hi;refine⟨⟨_,qi⟩,_,_,.d _,.m qi,?_,p,ks++ps,?_,hp1 _,?_,fun q hq=>?_,fun q hq=>⟨[],_,_,rfl,?_,?_⟩⟩
  .rw [qc,qc];omega
  .rw [qI]
  .rw [qv];omega
  .rcases qB.mp hq with z | z
   .exact hb q z
   .exact hps q z
  .rw [qc];omega
  .refine Wks.of ⟨ps++[q],by rw[qI];rfl,by simp;omega,fun z hz=>?_,_,rfl⟩;rcases qB.mp hz with h | h
   .exact hps z h
   .rw [qE.mp h];exact hq
 .rintro O' U' ⟨ps,rfl,hlen,hps,v1,rfl⟩;have hlen:ps.length=n.toNat:=hlen;exact⟨_,_,FzR.list1,k ps (by omega) hps⟩
def qnM:SpD:=fun es U Q=>∃ a b:Int,es=[.d (.int a),.d (.int b)]/\Q (.d (.int (Int.gcd a b:Nat))) U
def ql3:SpD:=fun es U Q=>∃ a b:Int,es=[.d (.int a),.d (.int b)]/\(a≠0\/b≠0)/\a.natAbs<=10000000000000000000000000000000000000000/\b.natAbs<=10000000000000000000000000000000000000000/\Q (.d (ptD (nrm a b))) U
def nOf (p q:Pt):Pt:=nrm (q.2 - p.2) (p.1 - q.1)
def thr (p q:Pt):List Int:=[(nOf p q).1,(nOf p q).2,(nOf p q).1 * p.1+(nOf p q).2 * p.2]
abbrev B40:Nat:=10000000000000000000000000000000000000000
def sThr:SpD:=fun es U Q=>∃ p q:Pt,es=[.d (ptD p),.d (ptD q)]/\Bd 1000000000000000000000000000000 p/\Bd 1000000000000000000000000000000 q/\p≠q/\Q (.d (JC (thr p q))) U
theorem qgF (h:p≠q):q.2 - p.2≠0\/p.1 - q.1≠0:=by
 by_cases z:q.2 - p.2=0
 .refine .inr fun z2=>h ?_;have e1:p.1=q.1:=by omega
  have e2:p.2=q.2:=by omega
  exact Prod.ext e1 e2
 .exact .inl z
theorem Zh {b:Int}(ha:a.natAbs<=1000000000000000000000000000000) (hb:b.natAbs<=1000000000000000000000000000000):(a - b).natAbs<=2000000000000000000000000000000:=by omega
theorem qfN (ha:a.natAbs<=1000000000000000000000000000000):a.natAbs<=1000000000000000000000000000000:=ha
theorem qi9 (hp:Bd 1000000000000000000000000000000 p) (hq:Bd 1000000000000000000000000000000 q) (h:p≠q):Bd 2000000000000000000000000000000 (nOf p q):=qi8 (qgF h) (Zh hq.2 hp.2) (Zh hp.1 hq.1)
theorem b40:B40<2 ^ 1000:=by decide +kernel
theorem YY {b:Int}(ha:a.natAbs<=B40) (hb:b.natAbs<=B40):qbr a b:=⟨jL ha b40,jL hb b40⟩
theorem qdv : PyData.eqv (ptD p) (ptD q)=decide (p=q):=by
 obtain⟨a,b⟩:=p;obtain⟨c,d⟩:=q;simp only[ptD,PyData.eqv,PyData.eqvAll,Prod.mk.injEq];by_cases h1:a=c <;> by_cases h2:b=d <;> simp[h1,h2]
theorem qlY:FnScope ["one", "other", "divisor", "rest"] ["one", "other"] (qq Jb):=by trivial
theorem ok_cd (F:Fun K "common_divisor" "common_divisor" Jb f fd) (T:Txt mg):FnOk P w K mg base CX 1 f fd ["one", "other"] (yq K qnM):=by
 refine F.okD qlY (by trivial) (fun Oh A outer s H E es U Q hr Oi=>?_);obtain⟨a,b,e,k⟩:=Oi;subst e;have nd:=qlY.nd;refine⟨_,(qC (yM (i:=2) nd (yA qaJ (by rfl) T.abs_ qaM (qb (dv 0) qj)))
   (qC (yM (i:=3) nd (yA qaJ (by rfl) T.abs_ qaM (qb (dv 1) qj)))
   (qC (qdw PassesOwn.never (yp (qbd hr.units) (dv 3) qH (yj _)) (qR (qaH (i:=2) (j:=3) rfl nd rfl rfl (by decide) rfl rfl (qb (dv 3) (qb (yS qdy (dv 2) (dv 3)) qj)) rfl)))
   (qR (yd (dv 2)))))),?_⟩
 refine⟨fun m O' U'=>U'=U/\∃ f r:Nat,O'=[some (.d (.int a)),some (.d (.int b)),some (.d (.int f)),some (.d (.int r))]/\m=r/\Nat.gcd f r=Int.gcd a b,⟨_,rfl,_,_,rfl,rfl,rfl⟩,?_⟩;rintro m O' U' ⟨rfl,f,r,rfl,rfl,g⟩;refine JR (fun c=>?_) (fun c=>?_)
 .have hm:m≠0:=by
   rintro rfl;exact absurd c (by decide)
  refine⟨(show (0:Int)<(m:Int) by omega),f % m,Nat.mod_lt _ (by omega),Wks.of ⟨rfl,m,f % m,?_,rfl,by rw[qdr];exact g⟩⟩;rw[Int.natCast_emod];rfl
 .have:m=0:=by
   by_cases z:m=0
   .exact z
   .exact absurd (show (!decide ((m:Int)=0))=true by simp;omega) c
  subst this;rw[Nat.gcd_zero_right] at g;subst g;exact k
theorem qeV:FnScope ["a", "b", "divisor"] ["a", "b"] (qq qjR):=by trivial
theorem qkq (F:Fun K "lead" "lead" qjR f fd) (hX:NoX CX) (OA:Own P w K mg base CX 1 "common_divisor" ["one", "other"] (yq K qnM)):FnOk P w K mg base CX 2 f fd ["a", "b"] (yq K ql3):=by
 refine F.okD qeV (by trivial) (fun Oh A outer s H E es U Q hr Oi=>?_);obtain⟨a,b,e,h0,ha,hb,k⟩:=Oi;subst e;have nd:=qeV.nd;have d0:=Zy h0;have dB:(dvs a b).natAbs<=B40:=by rw[qcE];exact qbX h0 ha hb
 have dC:∀ z,qg1 z (dvs a b):=fun z=>qa9 b40 d0 dB;refine⟨_,(qC (yM (i:=2) nd (yt OA hX hr.mo rfl (qb (dv 0) (qb (dv 1) qj))))
   (qC (jz (qcg (qeb (yp qbe (dv 0) qH (yj _)) (qaG (qcg (Ym (yp (Yp hr.units) (dv 0) qH (yj _)) (JB (yp qbe (dv 1) qH (yj _)))))))) (qR (yM (i:=2) nd (qjp Zz (dv 2)))) yW)
   (qR (yd (Yr (qb (yS qal (dv 0) (dv 2)) (qb (yS qal (dv 1) (dv 2)) qj))))))),?_⟩
 refine⟨a,b,rfl,?_⟩;refine JR (fun c=>?_) (fun c=>?_)
 .have c:a<0:=qJ c;refine ZO ?_;have e:-(Int.gcd a b:Int)=dvs a b:=by unfold dvs;rw[if_pos (.inl c)]
  exact⟨by rw[e];exact dC _,by rw[e];exact dC _,zl2,by rw[e];exact k⟩
 .have c:¬ a<0:=fun z=>c (qN z);refine JR (fun c2=>?_) (fun c2=>?_)
  .have c2:a=0:=qJ c2;refine JR (fun c3=>?_) (fun c3=>?_)
   .have c3:b<0:=qJ c3;have e:-(Int.gcd a b:Int)=dvs a b:=by unfold dvs;rw[if_pos (.inr ⟨c2,c3⟩)]
    exact⟨by rw[e];exact dC _,by rw[e];exact dC _,zl2,by rw[e];exact k⟩
   .have c3:¬ b<0:=fun z=>c3 (qN z);have e:(Int.gcd a b:Int)=dvs a b:=by unfold dvs;rw[if_neg (by omega)]
    exact⟨by rw[e];exact dC _,by rw[e];exact dC _,zl2,by rw[e];exact k⟩
  .have c2:¬ a=0:=fun z=>c2 (qN z);have e:(Int.gcd a b:Int)=dvs a b:=by unfold dvs;rw[if_neg (by omega)]
   refine YO ?_;exact⟨by rw[e];exact dC _,by rw[e];exact dC _,zl2,by rw[e];exact k⟩
theorem qaw:FnScope ["one", "other", "x", "y", "a", "b"] ["one", "other"] (qq qaP):=by trivial
theorem qd0 (F:Fun K "through" "through" qaP f fd) (hX:NoX CX) (Mb:Own P w K mg base CX 2 "lead" ["a", "b"] (yq K ql3)):FnOk P w K mg base CX 3 f fd ["one", "other"] (yq K sThr):=by
 refine F.okD qaw (by trivial) (fun Oh A outer s H E es U Q hr Oi=>?_);obtain⟨p,q,e,hp,hq,h0,k⟩:=Oi;subst e;have nd:=qaw.nd;refine⟨_,(qC (jz (yp (Yp hr.units) (dv 0) (dv 1) (yj _)) (qR qdx) yW)
   (qC (Ju (dv 0) (Jw (n:=2) rfl (ye (ji (i:=2) nd) (ye (ji (i:=3) nd) jB))))
   (qC (Ju (yt Mb hX hr.mo rfl (qb (yS Jj (jg yc (dv 1) qH) (dv 3)) (qb (yS Jj (dv 2) (jg yc (dv 1) qH)) qj))) (Jw (n:=2) rfl (ye (ji (i:=4) nd) (ye (ji (i:=5) nd) jB))))
   (qR (yd (Yr (qb (dv 4) (qb (dv 5) (qb (yS Jv (yS je (dv 4) (dv 2)) (yS je (dv 5) (dv 3))) qj))))))))),?_⟩
 have hb:=qi9 hp hq h0;have h1:=Zh hq.2 hp.2;have h2:=Zh hp.1 hq.1;have h3:=qfN hp.1;have h4:=qfN hp.2;refine⟨_,_,.d _,.d _,YT p,YT q,JR (fun c=>?_) (fun c=>?_)⟩
 .have c:PyData.eqv (ptD p) (ptD q)=true:=c;rw[qdv] at c;exact absurd (qJ c) h0
 refine⟨rfl,_,rfl,_,rfl,_,_,rfl,qgF h0,?_,?_,rfl,?_⟩
 .exact qt h1 (by decide)
 .exact qt h2 (by decide)
 .refine ⟨YY (qt hb.1 (by decide)) (qt h3 (by decide)),YY (qt hb.2 (by decide)) (qt h4 (by decide)),zl3,k⟩
end K91
namespace K91
variable {ps qs:List Pt}{ks:List (List Int)}
abbrev B30:Nat:=1000000000000000000000000000000
def hpD (ps:List Pt):PyData:=.list (ps.map ptD)
def Bds (ps:List Pt):Prop:=∀ q∈ps,Bd B30 q
def ql0:SpD:=fun es U Q=>∃ n:Int,es=[.d (.int n)]/\Q (.d (.int n.sign)) U
theorem qeQ:FnScope ["number"] ["number"] (qq qjP):=by trivial
theorem qkk (F:Fun K "sign" "sign" qjP f fd):FnOk P w K mg base CX 1 f fd ["number"] (yq K ql0):=by
 refine F.okD qeQ (by trivial) (fun Oh A outer s H E es U Q hr Oi=>?_);obtain⟨a,e,k⟩:=Oi;subst e;have nd:=qeQ.nd;refine⟨_,(qC (jz (yp qcF (dv 0) qH (yj _)) (qR (yd qH)) yW)
   (qC (jz (yp qbe (dv 0) qH (yj _)) (qR (yd (qjp Zz qH))) yW)
   (qR (yd qH)))),?_⟩
 refine JR (fun c=>?_) (fun c=>JR (fun c2=>?_) (fun c2=>?_))
 .have c:0<a:=qJ c;rw[Int.sign_eq_one_of_pos c] at k;exact k
 .have c2:a<0:=qJ c2;rw[Int.sign_eq_neg_one_of_neg c2] at k;exact k
 .have c:¬ 0<a:=fun z=>c (qN z);have c2:¬ a<0:=fun z=>c2 (qN z);have:a=0:=by lia
  subst this;exact k
def ql1:SpD:=fun es U Q=>∃ (a b c:Int) (q:Pt),es=[.d (JC [a,b,c]),.d (ptD q)]/\a.natAbs<=B40/\b.natAbs<=B40/\Bd B30 q/\Q (.d (.int (a * q.1+b * q.2 - c).sign)) U
theorem qeR:FnScope ["line", "point", "a", "b", "c", "x", "y"] ["line", "point"] (qq qjQ):=by trivial
theorem qkl (F:Fun K "side" "side" qjQ f fd) (hX:NoX CX) (Mc:Own P w K mg base CX 1 "sign" ["number"] (yq K ql0)):FnOk P w K mg base CX 2 f fd ["line", "point"] (yq K ql1):=by
 refine F.okD qeR (by trivial) (fun Oh A outer s H E es U Q hr Oi=>?_);obtain⟨a,b,c,q,e,ha,hb,hq,k⟩:=Oi;subst e;have nd:=qeR.nd;refine⟨_,(qC (Ju (dv 0) (Jw (n:=3) rfl (ye (ji (i:=2) nd) (ye (ji (i:=3) nd) (ye (ji (i:=4) nd) jB)))))
   (qC (Ju (dv 1) (Jw (n:=2) rfl (ye (ji (i:=5) nd) (ye (ji (i:=6) nd) jB))))
   (qR (yd (yt Mc hX hr.mo rfl (qb (yS Jj (yS Jv (yS je (dv 2) (dv 5)) (yS je (dv 3) (dv 6))) (dv 4)) qj)))))),?_⟩
 exact⟨rfl,rfl,YY ha (qt hq.1 (by decide)),YY hb (qt hq.2 (by decide)),_,rfl,k⟩
def sSC:SpD:=fun es U Q=>∃ ns:List Int,es=[.d (.list (ns.map .int))]/\Q (.d (.tuple [.int (ns.count (-1):Nat),.int (ns.count 0:Nat),.int (ns.count 1:Nat)])) U
theorem qiG:FnScope ["signs"] ["signs"] (qq Yf):=by trivial
theorem qmM (F:Fun K "sign_counts" "sign_counts" Yf f fd):FnOk P w K mg base CX 1 f fd ["signs"] (yq K sSC):=by
 refine F.okD qiG (by trivial) (fun Oh A outer s H E es U Q hr Oi=>?_);obtain⟨ns,e,k⟩:=Oi;subst e;have nd:=qiG.nd;refine⟨_,(qR (yd (Yr (qb (qcJ (dv 0) (qb (qjp Zz qH) qj) (h:=fun a b=>ZE PySem.F.plainAttrs_list PySem.F.slot_list_count PySem.F.type_list_count qaZ a b)) (qb (qcJ (dv 0) (qb qH qj) (h:=fun a b=>ZE PySem.F.plainAttrs_list PySem.F.slot_list_count PySem.F.type_list_count qaZ a b)) (qb (qcJ (dv 0) (qb qH qj) (h:=fun a b=>ZE PySem.F.plainAttrs_list PySem.F.slot_list_count PySem.F.type_list_count qaZ a b)) qj)))))),?_⟩;exact⟨ns,.d _,.d _,ns,.d _,.d _,ns,.d _,.d _,zl3,k⟩
def sEv:SpD:=fun es U Q=>∃ a b c:Nat,es=[.d (.tuple [.int a,.int b,.int c])]/\a<=4000/\c<=4000/\Q (.d (.bool (decide (2 * a<=a+b+c) && decide (2 * c<=a+b+c)))) U
theorem qlW:FnScope ["shares", "below", "on", "above", "many"] ["shares"] (qq JA):=by trivial
theorem ok_ev (F:Fun K "is_even_share" "is_even_share" JA f fd):FnOk P w K mg base CX 1 f fd ["shares"] (yq K sEv):=by
 refine F.okD qlW (by trivial) (fun Oh A outer s0 H E es U Q hr Oi=>?_);obtain⟨a,b,c,e,ha,hc,k⟩:=Oi;subst e;have nd:=qlW.nd;refine⟨_,(qC (Ju (dv 0) (Jw (n:=3) rfl (ye (ji (i:=1) nd) (ye (ji (i:=2) nd) (ye (ji (i:=3) nd) jB)))))
   (qC (yM (i:=4) nd (yS Jv (yS Jv (dv 1) (dv 2)) (dv 3)))
   (qR (yd (qlk (qbg qie (yS je qH (dv 1)) (dv 4) (yj _)) (qle (qbg qie (yS je qH (dv 3)) (dv 4) (yj _)))))))),?_⟩
 have m2:∀ z:Nat,z<=4000->qbr 2 (z:Int):=fun z hz=>YY (by decide) (qt (show ((z:Nat):Int).natAbs<=4000 by lia) (by decide));have e1:decide (2 * (a:Int)<=a+b+c)=decide (2 * a<=a+b+c):=by rw[decide_eq_decide];lia
 have e2:decide (2 * (c:Int)<=a+b+c)=decide (2 * c<=a+b+c):=by rw[decide_eq_decide];lia
 rw[<- e1,<- e2] at k;refine⟨rfl,m2 a ha,JR (fun z=>?_) (fun z=>?_)⟩
 .have z:decide (2 * (a:Int)<=a+b+c)=true:=z;rw[z,Bool.true_and] at k;exact⟨m2 c hc,k⟩
 .have z:¬ decide (2 * (a:Int)<=a+b+c)=true:=z;rw[Bool.eq_false_iff.mpr z,Bool.false_and] at k;exact k
def sgs (c:Int) (vs:List Int):List Int:=vs.map fun v=>(v - c).sign
theorem qeJ (c:Int):∀ vs:List Int,(sgs c vs).count (-1)=cLt c vs/\(sgs c vs).count 1=cGt c vs/\(sgs c vs).count (-1)+(sgs c vs).count 0+(sgs c vs).count 1=vs.length
 | []=>⟨rfl,rfl,rfl⟩
 | v::vs=>by
  obtain⟨h1,h2,h3⟩:=qeJ c vs;unfold sgs cLt cGt at *;simp only[yb,List.count_cons,List.countP_cons,yl];rcases Int.lt_trichotomy (v - c) 0 with h | h | h
  .rw [Int.sign_eq_neg_one_of_neg h];have a1:v<c:=by lia
   have a2:¬ c<v:=by lia
   simp[a1,a2];lia
  .rw [h];have a1:¬ v<c:=by lia
   have a2:¬ c<v:=by lia
   simp[a1,a2];lia
  .rw [Int.sign_eq_one_of_pos h];have a1:¬ v<c:=by lia
   have a2:c<v:=by lia
   simp[a1,a2];lia
def sCnt:SpD:=fun es U Q=>∃ (a b c:Int) (ps:List Pt),es=[.d (JC [a,b,c]),.d (hpD ps)]/\a.natAbs<=B40/\b.natAbs<=B40/\Bds ps/\ps.length<=4000/\Q (.d (.tuple [.int ((sgs c (vls (a,b) ps)).count (-1):Nat),.int ((sgs c (vls (a,b) ps)).count 0:Nat),.int ((sgs c (vls (a,b) ps)).count 1:Nat)])) U
theorem qbI:FnScope ["line", "heap"] ["line", "heap"] (qq qaT):=by trivial
theorem qfL (F:Fun K "counts" "counts" qaT f fd) (hX:NoX CX) (OJ:Own P w K mg base CX 1 "sign_counts" ["signs"] (yq K sSC)) (Md:Own P w K mg base CX 2 "side" ["line", "point"] (yq K ql1)):FnOk P w K mg base CX 3 f fd ["line", "heap"] (yq K sCnt):=by
 refine F.okD qbI (by trivial) (fun Oh A outer s H E es U Q hr Oi=>?_);obtain⟨a,b,c,ps,e,ha,hb,hp,hl,k⟩:=Oi;subst e;have nd:=qbI.nd;refine⟨_,(qR (yd (yt OJ hX hr.mo rfl (qb (ZB (L:=["point"]) (sc:=qq qaT) (N:=["line", "heap"]) rfl rfl rfl (by decide +kernel) (jA (dv 1)) (fun _ _ _ _ _=>(yX (i:=2) (show List.Nodup (["line", "heap", "point"]:List Str) from by decide +kernel) rfl (by trivial))) (fun _ _ _ _ _=>Zm) (fun _ _ _ _ _=>(yt Md hX hr.mo rfl (qb (dv 0) (qb (dv 2) qj))))) qj)))),?_⟩;refine⟨_,.d _,(show (ps.map ptD).length<=4000 by rw[qc];exact hl),qnv (as:=ps) (h:=ptD) (fun q=>.int (a * q.1+b * q.2 - c).sign) (Src.l (.d _)) (fun q hq R h=>⟨a,b,c,q,rfl,ha,hb,hp q hq,h⟩) ?_⟩;refine⟨sgs c (vls (a,b) ps),?_,k⟩;unfold sgs vls;rw[y6,y6];rfl
def qe6:SpD:=fun es U Q=>∃ (a b c:Int) (ps:List Pt),es=[.d (JC [a,b,c]),.d (hpD ps)]/\a.natAbs<=B40/\b.natAbs<=B40/\Bds ps/\ps.length<=4000/\Q (.d (.bool (qbs c (vls (a,b) ps)))) U
theorem qbH:FnScope ["line", "heap"] ["line", "heap"] (qq qcn):=by trivial
theorem qfK (F:Fun K "halves" "halves" qcn f fd) (hX:NoX CX) (OD:Own P w K mg base CX 1 "is_even_share" ["shares"] (yq K sEv)) (OY:Own P w K mg base CX 3 "counts" ["line", "heap"] (yq K sCnt)):FnOk P w K mg base CX 4 f fd ["line", "heap"] (yq K qe6):=by
 refine F.okD qbH (by trivial) (fun Oh A outer s H E es U Q hr Oi=>?_);obtain⟨a,b,c,ps,e,ha,hb,hp,hl,k⟩:=Oi;subst e;have nd:=qbH.nd;refine⟨_,(qR (yd (yt OD hX hr.mo rfl (qb (yt OY hX hr.mo rfl (qb (dv 0) (qb (dv 1) qj))) qj)))),?_⟩;obtain⟨h1,h2,h3⟩:=qeJ c (vls (a,b) ps);have hv:=qew (a,b) ps;refine⟨a,b,c,ps,rfl,ha,hb,hp,hl,_,_,_,rfl,by lia,by lia,?_⟩;rw[h3,h1,h2];exact k
def ptK (p:Pt):List Int:=[p.1,p.2]
theorem qco {p:Pt}(h:ptK p=ptK q):p=q:=by
 unfold ptK at h;have h1:=List.cons.inj h;have h2:=List.cons.inj h1.2;exact Prod.ext h1.1 h2.1
theorem qfh (ps:List Pt):ps.map ptD=(ps.map ptK).map JC:=by rw[y6];rfl
theorem qms (ps:List Pt):∀ k∈ps.map ptK,k≠[]:=fun k hk=>by
 obtain⟨x,_,rfl⟩:=qF.mp hk;exact fun z=>nomatch z
def Plc (ps qs:List Pt):Prop:=qs.Nodup/\Srt (qs.map ptK)/\∀ p,p∈qs ↔ p∈ps
theorem qhB {rs:List Pt}(h1:Plc ps qs) (h2:Plc ps rs):qs=rs:=by
 have hp:qs.Perm rs:=(List.perm_ext_iff_of_nodup h1.1 h2.1).mpr fun p=>(h1.2.2 p).trans (h2.2.2 p).symm;have s1:=h1.2.1;have s2:=h2.2.1;unfold Srt at s1 s2;rw[jc] at s1 s2;refine List.Perm.eq_of_pairwise (fun a b _ _ k1 k2=>qco ?_) s1 s2 hp;exact List.le_antisymm k1 k2
open Classical in
noncomputable def plc (ps:List Pt):List Pt:=epsilon fun qs=>Plc ps qs
theorem qmz (h:Plc ps qs):qs=plc ps/\Plc ps (plc ps):=by
 have:=Classical.epsilon_spec (p:=fun qs=>Plc ps qs) ⟨qs,h⟩;exact⟨qhB h this,this⟩
theorem qmq : (∀ k∈ks,k∈ps.map ptK)->∃ qs:List Pt,ks=qs.map ptK:=by
 induction ks with
 | nil=>exact fun _=>⟨[],rfl⟩
 | cons k ks ih =>
  intro h;obtain⟨qs,e⟩:=ih fun z hz=>h z (qd _ hz);obtain⟨a,_,ea⟩:=qF.mp (h k qi);exact⟨a::qs,by rw[e,<- ea];rfl⟩
theorem qj7 {ms:List (List Int)}(hm:∀ q,q∈ms ↔ q∈ps.map ptK) (hn:ms.Nodup) (hp:ks.Perm ms) (hs:Srt ks):∃ qs:List Pt,ks=qs.map ptK/\Plc ps qs:=by
 obtain⟨qs,rfl⟩:=qmq fun k hk=>(hm k).mp (hp.mem_iff.mp hk);have hnd:(qs.map ptK).Nodup:=hp.nodup_iff.mpr hn;refine⟨qs,rfl,(jc.mp hnd).imp fun h z=>h (by rw[z]),hs,fun p=>?_⟩;have:=(hp.mem_iff (a:=ptK p)).trans (hm _);constructor
 .intro h;obtain⟨b,hb,eb⟩:=qF.mp (this.mp (qF.mpr ⟨p,h,rfl⟩));rw[<- qco eb];exact hb
 .intro h;obtain⟨b,hb,eb⟩:=qF.mp (this.mpr (qF.mpr ⟨p,h,rfl⟩));rw[<- qco eb];exact hb
theorem JK [DecidableEq α]:∀ {ms kss:List α},ms.Nodup->(∀ q∈ms,q∈kss)->ms.length<=kss.length
 | [],_,_,_=>qZ _
 | a::ms,kss,hn,h=>by
  have ha:=h a qi;have h1:=JK (ms:=ms) (kss:=kss.erase a) (yx.mp hn).2 (fun q hq=>by
   have hne:q≠a:=fun z=>(yx.mp hn).1 (z ▸ hq);exact (List.mem_erase_of_ne hne).mpr (h q (qd _ hq)))
  rw[List.length_erase_of_mem ha] at h1;have:=List.length_pos_of_mem ha;simp only[yl];lia
def sPlc:SpD:=fun es U Q=>∃ ps:List Pt,es=[.d (hpD ps)]/\ps.length<64/\(Plc ps (plc ps)->Q (.d (hpD (plc ps))) U)
theorem qbD:FnScope ["heap"] ["heap"] (qq qcl):=by trivial
theorem qfF (F:Fun K "places" "places" qcl f fd) (T:Txt mg):FnOk P w K mg base CX 1 f fd ["heap"] (yq K sPlc):=by
 refine F.okD qbD (by trivial) (fun Oh A outer s H E es U Q hr Oi=>?_);obtain⟨ps,e,hl,k⟩:=Oi;subst e;have nd:=qbD.nd;refine⟨_,(qR (yd (yA (qdA (P:=P) (w:=w) (K:=K) rfl) (by rfl) T.sorted_ qap (qb (jR (qjo (P:=P) (w:=w) (K:=K) rfl hr.units) (by rfl) T.set_ qjx (qb (dv 0) qj)) qj)))),?_⟩;refine⟨ps.map ptK,by rw[<- qfh];exact .d _,qms ps,by rw[qc];lia,fun ms hm hn h77=>⟨ms,rfl,?_,fun ks hp hs=>?_⟩⟩
 .have:=JK hn fun q hq=>(hm q).mp hq;rw[qc] at this;lia
 .obtain ⟨qs,rfl,h⟩:=qj7 hm hn hp hs;obtain⟨rfl,h2⟩:=qmz h;rw[<- qfh];exact k h2
def prs:List Pt->List (Pt×Pt)
 | []=>[]
 | a::t=>t.map (fun b=>(a,b))++prs t
def prD (p:Pt×Pt):PyData:=.tuple [ptD p.1,ptD p.2]
theorem qfl:∀ l:List Pt,2 * (prs l).length+l.length=l.length * l.length
 | []=>rfl
 | a::t=>by
  have:=qfl t;simp only[prs,qv,qc,yl];have e:(t.length+1) * (t.length+1)=t.length * t.length+2 * t.length+1:=by rw[Nat.add_mul,Nat.mul_add];lia
  lia
theorem qi4 {l:List Pt}(h:l.length<=44):(prs l).length<4000:=by
 have:=qfl l;have:l.length * l.length<=44 * 44:=jW h h;by_cases z:l.length=44
 .lia
 .have:l.length * l.length<=43 * 43:=jW (by lia) (by lia);lia
theorem ZS (ds:List PyData) (i:Nat) (h:i<=ds.length):ZT ds (some (i:Int)) none=ds.drop i:=by
 have e:HT.sIx ds.length 0 (some (i:Int))=i:=by
  unfold HT.sIx;simp;rw[if_neg (by lia)];lia
 unfold ZT;rw[e];have e2:HT.sIx ds.length ds.length none=ds.length:=rfl;rw[e2];exact JP (by simp)
def sPp:SpD:=fun es U Q=>∃ ps:List Pt,es=[.d (hpD ps)]/\ps.length<=44/\(Plc ps (plc ps)->Q (.d (.list ((prs (plc ps)).map prD))) U)
theorem qlT:FnScope ["heap", "unlike"] ["heap"] (qq Jo):=by trivial
theorem ok_pp (F:Fun K "place_pairs" "place_pairs" Jo f fd) (T:Txt mg) (hX:NoX CX) (OZ:Own P w K mg base CX 1 "places" ["heap"] (yq K sPlc)):FnOk P w K mg base CX 2 f fd ["heap"] (yq K sPp):=by
 refine F.okD qlT (by trivial) (fun Oh A outer s H E es U Q hr Oi=>?_);obtain⟨ps,e,hl,k⟩:=Oi;subst e;have nd:=qlT.nd;refine⟨_,(qC (yM (i:=1) nd (yt OZ hX hr.mo rfl (qb (dv 0) qj)))
   (qR (yd (qli (L:=["at", "one", "other"]) (sc:=qq Jo) (N:=["heap", "unlike"]) rfl rfl rfl (by decide +kernel) (qgH rfl T.enumerate_ (qb (dv 1) qj)) (fun _ _ _ _ _=>(Jw (n:=2) rfl (ye (yX (i:=2) (show List.Nodup (["heap", "unlike", "at", "one", "other"]:List Str) from by decide +kernel) rfl (by trivial)) (ye (yX (i:=3) (show List.Nodup (["heap", "unlike", "at", "one", "other"]:List Str) from by decide +kernel) rfl (by trivial)) jB)))) (fun _ _ _ _ _=>Zm) (fun _ _ _ _ _=>(jA (Jk (dv 1) (Jh (yS Jv (dv 2) qH)) Ji))) (fun _ _ _ _ _=>(yX (i:=4) (show List.Nodup (["heap", "unlike", "at", "one", "other"]:List Str) from by decide +kernel) rfl (by trivial))) (fun _ _ _ _ _=>Zm) (fun _ _ _ _ _=>(Yr (qb (dv 3) (qb (dv 4) qj)))))))),?_⟩
 refine⟨ps,rfl,by lia,fun hP=>?_⟩;have hq:(plc ps).length<=44:=qt (JK hP.1 fun q hq=>(hP.2.2 q).mp hq) hl;have kk:=k hP;generalize plc ps=qs at *;have h1000:=qi4 hq;have nthe:∀ i,i<qs.length->∃ a,qs[i]?=some a/\(qs.map ptD).getD i .none=ptD a/\qs.drop i=a::qs.drop (i+1):=fun i hi=>by
  refine⟨qs[i],qf hi,?_,jY hi⟩;rw[qX,qK,qf hi];rfl
 refine⟨_,.d _,fun i ys O' U'=>U'=U/\(∃ don,don++prs (qs.drop i)=prs qs/\ys=don.map prD)/\∃ v2 v3 v4,O'=[some (.d (hpD ps)),some (.d (hpD qs)),v2,v3,v4],⟨rfl,⟨[],rfl,rfl⟩,_,_,_,rfl⟩,(fun i ys O' U' _ _=>.d _),?_,?_⟩
 .rintro i ys O' U' hi ⟨rfl,⟨don,hd,rfl⟩,v2,v3,v4,rfl⟩;have hi:i<(qs.map ptD).length:=hi;rw[qc] at hi;obtain⟨a,ha,ea,ed⟩:=nthe i hi;refine⟨rfl,_,.d _,_,.d _,?_⟩;have ec:ZT (qs.map ptD) (some ((i:Int)+1)) none=(qs.drop (i+1)).map ptD:=by
   have:=ZS (qs.map ptD) (i+1) (by rw[qc];lia);rw[Int.natCast_add] at this;rw[List.map_drop];exact this
  have hlen:don.length+(prs (qs.drop i)).length=(prs qs).length:=by rw[<- hd,qv]
  have e3:prs (qs.drop i)=(qs.drop (i+1)).map (fun b=>(a,b))++prs (qs.drop (i+1)):=by rw[ed];rfl
  have hsum:don.length+(qs.drop (i+1)).length<=(prs qs).length:=by rw[<- hlen,e3,qv,qc];lia
  refine⟨fun j ys O' U'=>U'=U'/\U'=_/\j<=(qs.drop (i+1)).length/\ys=(don++((qs.drop (i+1)).take j).map fun b=>(a,b)).map prD/\∃ v4,O'=[some (.d (hpD ps)),some (.d (hpD qs)),some (.d (.int (i:Int))),some (.d (ptD a)),v4],⟨rfl,rfl,qZ _,(by simp),v4,?_⟩,?_,?_,?_⟩
  .rw [<- ea];rfl
  .rintro j ys O' U' hj ⟨_,rfl,hj2,rfl,v4,rfl⟩;refine⟨.d _,?_⟩;rw[qc,qv,qc,yw];lia
  .rintro j ys O' U' hj ⟨_,rfl,hj2,rfl,v4,rfl⟩;have hj:j<(ZT (qs.map ptD) (some ((i:Int)+1)) none).length:=hj;rw[ec,qc] at hj;have eb:(itL (.d (.list (ZT (qs.map ptD) (some ((i:Int)+1)) none))) (ZT (qs.map ptD) (some ((i:Int)+1)) none)).item j = .d (ptD (qs.drop (i+1))[j]):=by
    show En.d ((ZT (qs.map ptD) (some ((i:Int)+1)) none).getD j .none)=_;rw[ec,qX,qK,qf hj];rfl
   rw[eb];refine⟨zl2,_,rfl,rfl,rfl,hj,?_,_,rfl⟩;rw[jS (qf hj)];simp only[qI,qu,yb,List.map_nil];rfl
  .rintro ys O' U' ⟨_,rfl,hj2,rfl,v4,rfl⟩;have hn:(itL (.d (.list (ZT (qs.map ptD) (some ((i:Int)+1)) none))) (ZT (qs.map ptD) (some ((i:Int)+1)) none)).n=(qs.drop (i+1)).length:=by
    show (ZT (qs.map ptD) (some ((i:Int)+1)) none).length=_;rw[ec,qc]
   refine⟨rfl,⟨_,?_,rfl⟩,_,_,_,rfl⟩;rw[hn,jk,qu,<- e3];exact hd
 .rintro ys O' U' ⟨rfl,⟨don,hd,rfl⟩,v2,v3,v4,rfl⟩;have:qs.drop (qs.map ptD).length=[]:=by rw[qc];exact List.drop_length
  have hd:don++prs (qs.drop (qs.map ptD).length)=prs qs:=hd;rw[this] at hd;have hd:don++[]=prs qs:=hd;rw[jt] at hd;rw[hd];exact kk
end K91
namespace L2
variable {p:Pt}{ps:List Pt}
abbrev Ln:=Pt×Int
def lnK (l:Ln):List Int:=[l.1.1,l.1.2,l.2]
theorem qcx {l m:Ln}(h:lnK l=lnK m):l=m:=by
 unfold lnK at h;have h1:=List.cons.inj h;have h2:=List.cons.inj h1.2;have h3:=List.cons.inj h2.2;exact Prod.ext (Prod.ext h1.1 h2.1) h3.1
def Ahd (l m:Ln):Prop:=0<crs l.1 m.1\/(crs l.1 m.1=0/\l.2<m.2)
noncomputable instance (l m:Ln):Decidable (Ahd l m):=by unfold Ahd;infer_instance
theorem qjv (p q:Pt):crs q p = - crs p q:=by unfold crs;grind
theorem qgX (l:Ln):¬ Ahd l l:=by
 rintro (h | ⟨_,h⟩)
 .rw [qdF] at h;lia
 .lia
theorem qdM {l m:Ln}(h:Ahd l m):¬ Ahd m l:=by
 have:=qjv l.1 m.1;rintro (z | ⟨z,y⟩)
 .rcases h with h | ⟨h,_⟩ <;> lia
 .rcases h with h | ⟨h,k⟩ <;> lia
theorem qcU {l m:Ln}(hl:IsN l.1) (hm:IsN m.1) (hne:l≠m) (h:¬ Ahd l m):Ahd m l:=by
 have e:=qjv l.1 m.1;unfold Ahd at *;by_cases c:crs l.1 m.1=0
 .have n:=Y3 hl hm c;refine .inr ⟨by lia,?_⟩;have:l.2≠m.2:=fun z=>hne (Prod.ext n z);have:¬ l.2<m.2:=fun z=>h (.inr ⟨c,z⟩);lia
 .have:¬ 0<crs l.1 m.1:=fun z=>h (.inl z);exact .inl (by lia)
theorem qbS {n:Pt}(h:IsN n):0<=n.1/\(n.1=0->n=(0,1)):=by
 obtain⟨_,h | ⟨h1,h2⟩⟩:=h
 .exact ⟨by lia,fun z=>by lia⟩
 .exact ⟨by lia,fun _=>Prod.ext h1 h2⟩
theorem qgW {a b c:Ln}(ha:IsN a.1) (hb:IsN b.1) (hc:IsN c.1) (h1:Ahd a b) (h2:Ahd b c):Ahd a c:=by
 obtain⟨a0,a1⟩:=qbS ha;obtain⟨b0,b1⟩:=qbS hb;obtain⟨c0,c1⟩:=qbS hc;rcases h1 with h1 | ⟨h1,k1⟩
 .rcases h2 with h2 | ⟨h2,k2⟩
  .refine .inl ?_;have ap:0<a.1.1:=by
    rcases Int.lt_or_eq_of_le a0 with z | z
    .exact z
    .rw [a1 z.symm] at h1;unfold crs at h1;simp at h1;lia
   have bp:0<b.1.1:=by
    rcases Int.lt_or_eq_of_le b0 with z | z
    .exact z
    .rw [b1 z.symm] at h2;unfold crs at h2;simp at h2;lia
   have e:crs a.1 c.1 * b.1.1=crs a.1 b.1 * c.1.1+crs b.1 c.1 * a.1.1:=by unfold crs;grind
   have p1:0<=crs a.1 b.1 * c.1.1:=Int.mul_nonneg (by lia) c0;have p2:0<crs b.1 c.1 * a.1.1:=Int.mul_pos h2 ap;have:0<crs a.1 c.1 * b.1.1:=by lia
   exact Int.pos_of_mul_pos_left this bp
  .rw [Y3 hb hc h2] at h1;exact .inl h1
 .have:=Y3 ha hb h1;rcases h2 with h2 | ⟨h2,k2⟩
  .rw [<- this] at h2;exact .inl h2
  .rw [<- this] at h2;exact .inr ⟨h2,by lia⟩
theorem Y4 {ls:List Ln}(h:ls.Pairwise Ahd):ls.Nodup:=List.Pairwise.imp (R:=Ahd) (S:=fun a b=>a≠b) (fun {a b} z (e:a=b)=>qgX a (by rw[<- e] at z;exact z)) h
theorem qbn {ls ms:List Ln}(h1:ls.Pairwise Ahd) (h2:ms.Pairwise Ahd) (h:∀ l,l∈ls ↔ l∈ms):ls=ms:=by
 have n1:=Y4 h1;have n2:=Y4 h2;exact List.Perm.eq_of_pairwise (fun a b _ _ k1 k2=>absurd k2 (qdM k1)) h1 h2 ((List.perm_ext_iff_of_nodup n1 n2).mpr h)
theorem qdL:∀ {ls:List Ln},(∀ l∈ls,IsN l.1)->ls.Nodup->∃ ms:List Ln,ms.Perm ls/\ms.Pairwise Ahd
 | [],_,_=>⟨[],.nil,.nil⟩
 | x::ls,hn,hd=>by
  obtain⟨hx,hd⟩:=yx.mp hd;obtain⟨ms,p,s⟩:=qdL (fun l hl=>hn l (qd _ hl)) hd;have nx:=hn x qi;have nm:∀ l∈ms,IsN l.1/\l≠x:=fun l hl=>⟨hn l (qd _ (p.mem_iff.mp hl)),fun z=>hx (by rw[<- z];exact p.mem_iff.mp hl)⟩;refine⟨ms.filter (fun l=>decide (Ahd l x))++x::ms.filter (fun l=>!decide (Ahd l x)),?_,?_⟩
  .exact List.perm_middle.trans ((List.filter_append_perm _ ms).trans p |>.cons x)
  .rw [q0];refine⟨s.filter _,List.pairwise_cons.mpr ⟨fun b hb=>?_,s.filter _⟩,fun a ha b hb=>?_⟩
   .obtain ⟨h1,h2⟩:=List.mem_filter.mp hb;exact qcU (nm b h1).1 nx (nm b h1).2 fun z=>by simp[z] at h2
   .obtain ⟨h1,h2⟩:=List.mem_filter.mp ha;have h2:=qJ h2;rcases qG.mp hb with rfl | hb
    .exact h2
    .obtain ⟨h3,h4⟩:=List.mem_filter.mp hb;exact qgW (nm a h1).1 nx (nm b h3).1 h2 (qcU (nm b h3).1 nx (nm b h3).2 fun z=>by simp[z] at h4)
theorem qis {ms:List Ln}(s:ms.Pairwise Ahd) {x:Ln}(h:ms[j]?=some x):(ms.countP fun l=>decide (Ahd l x))=j:=by
 obtain⟨hj,hx⟩:=qm.mp h;have e:ms=ms.take j++x::ms.drop (j+1):=by rw[<- hx,<- jY hj,qW]
 have s2:=s;rw[e,q0] at s2;obtain⟨_,s3,s4⟩:=s2;rw[e,List.countP_append,List.countP_cons];have c1:(ms.take j).countP (fun l=>decide (Ahd l x))=j:=by
  rw[List.countP_eq_length.mpr fun l hl=>qN (s4 l hl x qi),yw];lia
 have c2:(ms.drop (j+1)).countP (fun l=>decide (Ahd l x))=0:=List.countP_eq_zero.mpr fun l hl=>by
  have:=(List.pairwise_cons.mp s3).1 l hl;simp[qdM this]
 rw[c1,c2];simp[qgX]
def qg4 (g:Int) (l:Ln):List Int:=if l.1.1=0 then [1,0,l.2] else [0,(l.1.2 * g).fdiv l.1.1,l.2]
theorem qgv {a b a' b' g:Int}(ha:0<a) (ha':0<a') (h1:a * a<=g) (h2:a' * a'<=g) (hc:a * b' - b * a'<0):(b' * g).fdiv a'+1<=(b * g).fdiv a:=by
 have hg:a * a'<=g:=by
  rcases Int.le_total a a' with z | z
  .exact Int.le_trans (Int.mul_le_mul_of_nonneg_right z (by lia)) h2
  .exact Int.le_trans (Int.mul_le_mul_of_nonneg_left z (by lia)) h1
 have g0:0<=g:=Int.le_trans (Int.mul_nonneg (by lia) (by lia)) h1;generalize hq:(b' * g).fdiv a'=q;have q1:q * a'<=b' * g:=by
  have:=Int.fmod_add_mul_fdiv (b' * g) a';have m0:=Int.fmod_nonneg_of_pos (b' * g) ha';rw[hq] at this;have:a' * q=q * a':=Int.mul_comm _ _;lia
 have key:(q+1) * a * a'<=b * g * a':=by
  have e1:a * (q * a')<=a * (b' * g):=Int.mul_le_mul_of_nonneg_left q1 (by lia);have e2:(a * b'+1) * g<=b * a' * g:=Int.mul_le_mul_of_nonneg_right (by lia) g0;grind
 have k2:(q+1) * a<=b * g:=Int.le_of_mul_le_mul_right key ha';rw[Int.fdiv_eq_ediv_of_nonneg _ (by lia)];exact (Int.le_ediv_iff_mul_le ha).mpr k2
theorem qkN {g:Int}{l m:Ln}(hl:IsN l.1) (hm:IsN m.1) (gl:l.1.1 * l.1.1<=g) (gm:m.1.1 * m.1.1<=g) (hne:l≠m) (h:¬ qg4 g m<qg4 g l):Ahd l m:=by
 obtain⟨l0,l1⟩:=qbS hl;obtain⟨m0,m1⟩:=qbS hm;by_cases cl:l.1.1=0
 .by_cases cm:m.1.1=0
  .unfold qg4 at h;rw[if_pos cl,if_pos cm] at h;have e:l.1=m.1:=by rw[l1 cl,m1 cm]
   refine .inr ⟨by rw[e];exact qdF _,?_⟩;have:¬ m.2<l.2:=fun z=>h (by simp[jM,z]);have:l.2≠m.2:=fun z=>hne (Prod.ext e z);lia
  .exact absurd (by unfold qg4;rw[if_pos cl,if_neg cm];simp[jM]) h
 .by_cases cm:m.1.1=0
  .refine .inl ?_;rw[m1 cm];unfold crs;simp;lia
  .unfold qg4 at h;rw[if_neg cl,if_neg cm] at h;have lp:0<l.1.1:=by lia
   have mp:0<m.1.1:=by lia
   refine Decidable.byContradiction fun hn=>?_;have t:=qcU hl hm hne hn;apply h;rcases t with t | ⟨t,k⟩
   .have hc:l.1.1 * m.1.2 - l.1.2 * m.1.1<0:=by unfold crs at t;grind
    have:=qgv lp mp gl gm hc;rw[jM,jM];exact .inr ⟨rfl,.inl (by lia)⟩
   .have e:=Y3 hm hl t;rw[e];simp[jM,k]
def nO (p q:Pt):Pt:=nrm (q.2 - p.2) (p.1 - q.1)
theorem Zl (h:p≠q):q.2 - p.2≠0\/p.1 - q.1≠0:=by
 by_cases z:q.2 - p.2=0
 .refine .inr fun z2=>h (Prod.ext (by lia) (by lia))
 .exact .inl z
theorem qfU (h:p≠q):IsN (nO p q):=qkB (Zl h)
theorem qkD (h:p≠q):vl (nO p q) q=vl (nO p q) p:=by
 obtain⟨e1,e2⟩:=qct (q.2 - p.2) (p.1 - q.1) (Zl h);have d0:=Zy (Zl h);unfold vl nO;generalize nrm (q.2 - p.2) (p.1 - q.1)=n at *;generalize dvs (q.2 - p.2) (p.1 - q.1)=d at *;have:d * (n.1 * q.1+n.2 * q.2)=d * (n.1 * p.1+n.2 * p.2):=by grind
 exact Int.eq_of_mul_eq_mul_left d0 this
theorem qfT {n:Pt}(h:p≠q) (hn:IsN n) (e:vl n p=vl n q):n=nO p q:=by
 refine Y3 hn (qfU h) ?_;obtain⟨e1,e2⟩:=qct (q.2 - p.2) (p.1 - q.1) (Zl h);have d0:=Zy (Zl h);unfold vl at e;unfold crs nO;generalize nrm (q.2 - p.2) (p.1 - q.1)=m at *;generalize dvs (q.2 - p.2) (p.1 - q.1)=d at *;have:d * (n.1 * m.2 - n.2 * m.1)=d * 0:=by grind
 exact Int.eq_of_mul_eq_mul_left d0 this
def qcV (ps:List Pt) (l:Ln):Prop:=IsN l.1/\∃ p∈ps,∃ q∈ps,p≠q/\vl l.1 p=l.2/\vl l.1 q=l.2
theorem qa4 (hp:p∈ps) (hq:q∈ps) (h:p≠q):qcV ps (nO p q,vl (nO p q) p):=⟨qfU h,p,hp,q,hq,h,rfl,qkD h⟩
theorem ZM {l:Ln}(h:qcV ps l):∃ p∈ps,∃ q∈ps,p≠q/\l=(nO p q,vl (nO p q) p):=by
 obtain⟨hn,p,hp,q,hq,hne,e1,e2⟩:=h;have e:=qfT hne hn (e1.trans e2.symm);exact⟨p,hp,q,hq,hne,Prod.ext e (by rw[<- e];exact e1.symm)⟩
theorem qmZ (h:p≠q):(nO q p,vl (nO q p) q)=(nO p q,vl (nO p q) p):=by
 have e:nO q p=nO p q:=qfT h (qfU h.symm) (qkD h.symm);rw[e,qkD h]
end L2
variable {ms ls:List L2.Ln}
namespace L2
def Alls (A B:List Pt) (l:Ln):Prop:=qcV (A++B) l/\qbs l.2 (vls l.1 A)=true/\qbs l.2 (vls l.1 B)=true
def qg8 (A B:List Pt) (ls:List Ln):Prop:=ls.Pairwise Ahd/\∀ l,l∈ls ↔ Alls A B l
theorem ZN {ps:List Pt}{l:Ln}(hp:∀ q∈ps,Bd 1000000000000000000000000000000 q) (h:qcV ps l):Bd 2000000000000000000000000000000 l.1/\l.2.natAbs<=4000000000000000000000000000000000000000000000000000000000000:=by
 obtain⟨p,h1,q,h2,hne,rfl⟩:=ZM h;have b1:=hp p h1;have b2:=hp q h2;have nb:Bd 2000000000000000000000000000000 (nO p q):=qi8 (Zl hne) (by have:=b1.2;have:=b2.2;lia) (by have:=b1.1;have:=b2.1;lia);refine⟨nb,?_⟩;show (vl (nO p q) p).natAbs<=_;unfold vl;have m1:((nO p q).1 * p.1).natAbs<=2000000000000000000000000000000 * 1000000000000000000000000000000:=by rw[Int.natAbs_mul];exact jW nb.1 b1.1
 have m2:((nO p q).2 * p.2).natAbs<=2000000000000000000000000000000 * 1000000000000000000000000000000:=by rw[Int.natAbs_mul];exact jW nb.2 b1.2
 lia
end L2
namespace L2
section
variable {tb:TSd}{D:EndsD}{Q:En->Mu->Prop}
theorem qnw {as:List α}{h1 h2 h3:α->PyData}(f:α->PyData) (S:Src J (as.map fun a=>.tuple [h1 a,h2 a,h3 a]) U) (ht:∀ a,a∈as->∀ R:Bool->Mu->Prop,R true U->tt (O++[some (.d (h1 a)),some (.d (h2 a)),some (.d (h3 a))]) U R)
  (hs:∀ a,a∈as->∀ R:En->Mu->Prop,R (.d (f a)) U->te (O++[some (.d (h1 a)),some (.d (h2 a)),some (.d (h3 a))]) U R) (hq:Q (.d (.list (as.map f))) U) :
  qek 3 J (qed 3 (Yd (jD O.length) (Yd (jD (O.length+1)) (Yd (jD (O.length+2)) qee)))) tt te O U Q:=by
 have hl:J.n=as.length:=by rw[S.n];simp
 refine⟨fun i ys O' U'=>U'=U/\ys=(as.take i).map f/\∃ v w x,O'=O++[v,w,x],⟨rfl,rfl,none,none,none,rfl⟩,fun i ys O' U' _ ⟨h,_⟩=>by subst h;exact S.ok,?_,?_⟩
 .rintro i ys O' U' hi ⟨rfl,rfl,v,w,x,rfl⟩;rw[hl] at hi;rw[S.it i (.tuple [h1 as[i],h2 as[i],h3 as[i]]) (by rw[qK,qf hi];rfl)];refine⟨rfl,?_⟩;show tt ((((O++[v,w,x]).set O.length _).set (O.length+1) _).set (O.length+2) _) U' _;have e2:(((O++[v,w,x]).set O.length (some (.d (h1 as[i])))).set (O.length+1) (some (.d (h2 as[i])))).set (O.length+2) (some (.d (h3 as[i])))=O++[some (.d (h1 as[i])),some (.d (h2 as[i])),some (.d (h3 as[i]))]:=by simp[List.set_append]
  rw[e2];refine ht as[i] (ya hi) _ (ZO (hs as[i] (ya hi) _ ⟨_,rfl,rfl,?_,_,_,_,rfl⟩));rw[jS (qf hi),qI];rfl
 .rintro ys O' U' ⟨rfl,rfl,_⟩;rw[hl,jk];exact hq
theorem qnx {as:List α}{h1 h2 h3:α->PyData}(f:α->PyData) (S:Src J (as.map fun a=>.tuple [h1 a,h2 a,h3 a]) U)
  (hs:∀ a,a∈as->∀ R:En->Mu->Prop,R (.d (f a)) U->te (O++[some (.d (h1 a)),some (.d (h2 a)),some (.d (h3 a))]) U R) (hq:Q (.d (.list (as.map f))) U) :
  qek 3 J (qed 3 (Yd (jD O.length) (Yd (jD (O.length+1)) (Yd (jD (O.length+2)) qee)))) qnX te O U Q:=qnw f S (fun _ _ _ h=>h) hs hq
theorem setC2 {Q2:List (List Int)->Mu->Prop}{as:List α}{h1 h2:α->PyData}(f:α->List Int) (S:Src J (as.map fun a=>.tuple [h1 a,h2 a]) U) (hn:as.length<4900) (ht:∀ a,a∈as->∀ R:Bool->Mu->Prop,R true U->tt (O++[some (.d (h1 a)),some (.d (h2 a))]) U R) (hf:∀ a∈as,f a≠[])
  (hs:∀ a,a∈as->∀ R:En->Mu->Prop,R (.d (JC (f a))) U->te (O++[some (.d (h1 a)),some (.d (h2 a))]) U R)
  (hq:∀ ms:List (List Int),(∀ q,q∈ms ↔ q∈as.map f)->ms.Nodup->ms.length<4915->Q2 ms U) :
  J.n<4900/\∃ Pv:Nat->List (List Int)->Rho->Mu->Prop,Pv 0 [] (O++List.replicate 2 none) U/\(∀ i ys O' U',i<=J.n->Pv i ys O' U'->J.ok U') ∧
   (∀ i ys O' U',i<J.n->Pv i ys O' U'->qed 2 (Yd (jD O.length) (Yd (jD (O.length+1)) qee)) (J.item i) O' U' fun O2 U2=>tt O2 U2 fun b U3=>if b=true then te O2 U3 fun y U4=>∃ z,z≠[]/\y = .d (JC z)/\Pv (i+1) (ys++[z]) O2 U4 else Pv (i+1) ys O2 U3) ∧
   ∀ ys O' U',Pv J.n ys O' U'->∀ ms,(∀ q,q∈ms ↔ q∈ys)->ms.Nodup->ms.length<4915->Q2 ms U':=by
 have hl:J.n=as.length:=by rw[S.n];simp
 refine⟨by lia,fun i ys O' U'=>U'=U/\ys=(as.take i).map f/\∃ v w,O'=O++[v,w],⟨rfl,rfl,none,none,rfl⟩,fun i ys O' U' _ ⟨h,_⟩=>by subst h;exact S.ok,?_,?_⟩
 .rintro i ys O' U' hi ⟨rfl,rfl,v,w,rfl⟩;rw[hl] at hi;rw[S.it i (.tuple [h1 as[i],h2 as[i]]) (by rw[qK,qf hi];rfl)];refine⟨rfl,?_⟩;show tt (((O++[v,w]).set O.length _).set (O.length+1) _) U' _;have e2:((O++[v,w]).set O.length (some (.d (h1 as[i])))).set (O.length+1) (some (.d (h2 as[i])))=O++[some (.d (h1 as[i])),some (.d (h2 as[i]))]:=by simp[List.set_append]
  rw[e2];refine ht as[i] (ya hi) _ (ZO (hs as[i] (ya hi) _ ⟨_,hf _ (ya hi),rfl,rfl,?_,_,_,rfl⟩));rw[jS (qf hi),qI];rfl
 .rintro ys O' U' ⟨rfl,rfl,_⟩;rw[hl,jk];exact hq
end
end L2
namespace K91
def lnD (l:Ln):PyData:=JC (lnK l)
def LBd (l:Ln):Prop:=Bd 2000000000000000000000000000000 l.1/\l.2.natAbs<=4000000000000000000000000000000000000000000000000000000000000
def sKey:SpD:=fun es U Q=>∃ (l:Ln) (g:Int),es=[.d (lnD l),.d (.int g)]/\IsN l.1/\LBd l/\g.natAbs<=4000000000000000000000000000000000000000000000000000000000000/\Q (.d (JC (qg4 g l))) U
theorem b62:4000000000000000000000000000000000000000000000000000000000000<2 ^ 1000:=by decide +kernel
theorem qeT:FnScope ["line", "scale", "a", "b", "c"] ["line", "scale"] (qq ZZ):=by trivial
theorem qko (F:Fun K "line_key" "line_key" ZZ f fd):FnOk P w K mg base CX 1 f fd ["line", "scale"] (yq K sKey):=by
 refine F.okD qeT (by trivial) (fun Oh A outer s H E es U Q hr Oi=>?_);obtain⟨l,g,e,hn,hb,hg,k⟩:=Oi;subst e;have nd:=qeT.nd;refine⟨_,(qC (Ju (dv 0) (Jw (n:=3) rfl (ye (ji (i:=2) nd) (ye (ji (i:=3) nd) (ye (ji (i:=4) nd) jB)))))
   (qC (jz (yp (Yp hr.units) (dv 2) qH (yj _)) (qR (yd (Yr (qb qH (qb qH (qb (dv 4) qj)))))) yW)
   (qR (yd (Yr (qb qH (qb (yS qal (yS je (dv 3) (dv 1)) (dv 2)) (qb (dv 4) qj)))))))),?_⟩
 refine⟨rfl,JR (fun c=>?_) (fun c=>?_)⟩
 .have c:l.1.1=0:=qJ c;unfold qg4 at k;rw[if_pos c] at k;exact⟨zl3,k⟩
 .have c:¬ l.1.1=0:=fun z=>c (qN z);unfold qg4 at k;rw[if_neg c] at k;have h2:l.1.2.natAbs<=B40:=qt hb.1.2 (by decide);exact⟨⟨jL h2 b40,jL hg b62⟩,qa9 b40 c (qt hb.1.1 (by decide)),zl3,k⟩
abbrev lamP:Pos:=⟨69,29,69,63⟩
abbrev lamQ:Str := "lines_in_order.<locals>.<lambda>"
abbrev TB (tb:Addr):Addr×MO:=(tb,.any (ZX lamQ lamP))
def sLio (tb:Addr):SpD:=fun es U Q=>∃ ls:List Ln,es=[.d (.list (ls.map lnD))]/\ls.Nodup/\(∀ l∈ls,IsN l.1/\LBd l)/\ls.length<=4000/\TB tb∈U/\∀ ms:List Ln,ms.Perm ls->ms.Pairwise Ahd->Q (.d (.list (ms.map lnD))) U
def keyR (g:Int) (z:List Int):List Int:=match z with
 | [a,b,c]=>qg4 g ((a,b),c)
 | _=>[0]
theorem qkO (g:Int) (z:List Int):keyR g z≠[]:=by
 unfold keyR qg4;split
 .split <;> exact fun h=>nomatch h
 .exact fun h=>nomatch h
theorem qiJ:FnScope ["lines", "scale"] ["lines"] (qq jx):=by trivial
theorem qmP {cc:Addr}(F:Fun K "lines_in_order" "lines_in_order" jx f fd) (hcc:fd.code = .ref cc) (hB:qau base mg) (hC:W.CodeHd base cc tb) (T:Txt mg) (hX:NoX CX) (OU:Own P w K mg base CX 1 "line_key" ["line", "scale"] (yq K sKey)):FnOk P w K mg base CX 5 f fd ["lines"] (yq K (sLio tb)):=by
 refine F.okDC hcc qiJ (by trivial) (fun A outer s H E es U Q hr Oi=>?_);obtain⟨ls,e,hnd,hls,hlen,htb,k⟩:=Oi;subst e;have nd:=qiJ.nd;refine⟨_,(qC (yM (i:=1) nd (qnp rfl (by rfl) T.max_ (ZB (L:=["a", "b", "c"]) (sc:=qq jx) (N:=["lines", "scale"]) rfl rfl rfl (by decide +kernel) (jA (dv 0)) (fun _ _ _ _ _=>(Jw (n:=3) rfl (ye (yX (i:=2) (show List.Nodup (["lines", "scale", "a", "b", "c"]:List Str) from by decide +kernel) rfl (by trivial)) (ye (yX (i:=3) (show List.Nodup (["lines", "scale", "a", "b", "c"]:List Str) from by decide +kernel) rfl (by trivial)) (ye (yX (i:=4) (show List.Nodup (["lines", "scale", "a", "b", "c"]:List Str) from by decide +kernel) rfl (by trivial)) jB))))) (fun _ _ _ _ _=>Zm) (fun _ _ _ _ _=>(yS je (dv 2) (dv 2)))) qH))
   (qR (yd (qld (x := "line") (y := "scale") (i:=1) hB hC rfl rfl rfl ⟨rfl,rfl,rfl,by decide,rfl,rfl,by decide +kernel⟩ (by decide +kernel) rfl rfl (by rfl) T.sorted_ (hr.in1.in1) (fun _ _ _ _ _=>rfl) (dv 0) (fun _ _ _ _ _ hr=>(yt OU hX hr.mo rfl (qb (dv 0) (qb (dv 1) qj)))))))),?_⟩
 have hl2:(ls.map lnD).length<=4000:=by rw[qc];exact hlen
 have hm:∀ l∈ls,l.1.1 * l.1.1<=4000000000000000000000000000000000000000000000000000000000000:=fun l hl=>by
  have h:=(hls l hl).2.1.1;have:(l.1.1 * l.1.1).natAbs<=2000000000000000000000000000000 * 2000000000000000000000000000000:=by rw[Int.natAbs_mul];exact jW h h
  lia
 refine⟨_,.d _,hl2,qnx (as:=ls) (fun l=>.int (l.1.1 * l.1.1)) (Src.l (.d _)) (fun l hl R h=>?_) ?_⟩
 .have h1:l.1.1.natAbs<=B40:=qt (hls l hl).2.1.1 (by decide);exact⟨YY h1 h1,h⟩
 .refine ⟨ls.map fun l=>l.1.1 * l.1.1,0,by rw[y6];exact .d _,rfl,fun m hm'=>?_⟩;have hg:(∀ l∈ls,l.1.1 * l.1.1<=m)/\m.natAbs<=4000000000000000000000000000000000000000000000000000000000000:=by
   rcases hm' with⟨e,rfl⟩ | ⟨h1,h2⟩
   .have:ls=[]:=List.map_eq_nil_iff.mp e;subst this;exact⟨fun l hl=>(nomatch hl),by decide⟩
   .refine ⟨fun l hl=>h2 _ (qF.mpr ⟨l,hl,rfl⟩),?_⟩;obtain⟨l,hl,rfl⟩:=qF.mp h1;have:=hm l hl;have:0<=l.1.1 * l.1.1:=by
     rcases Int.le_total 0 l.1.1 with z | z
     .exact Int.mul_nonneg z z
     .exact Int.mul_nonneg_of_nonpos_of_nonpos z z
    lia
  refine⟨ls.map lnK,.d (.int m),keyR m,by rw[y6];exact .d _,by rw[qc];lia,rfl,htb,qkO m,fun z hz=>?_,fun ps pp pw=>?_⟩
  .obtain ⟨l,hl,rfl⟩:=qF.mp hz;exact⟨l,m,rfl,(hls l hl).1,(hls l hl).2,hg.2,rfl,rfl⟩
  .obtain ⟨ms,p1,rfl⟩:=ZJ lnK pp rfl;have nd2:ms.Nodup:=p1.nodup_iff.mpr hnd;rw[jc] at pw;have:=k ms p1 ((pw.and nd2).imp_of_mem fun {a b} ha hb z=>qkN (hls a (p1.mem_iff.mp ha)).1 (hls b (p1.mem_iff.mp hb)).1 (hg.1 a (p1.mem_iff.mp ha)) (hg.1 b (p1.mem_iff.mp hb)) z.2 z.1);rw[y6];exact this
def JY (p:Pt×Pt):Ln:=(nO p.1 p.2,vl (nO p.1 p.2) p.1)
theorem qm0 {ks:List (List Int)}{L:List (Pt×Pt)}:(∀ k∈ks,k∈L.map fun p=>thr p.1 p.2)->∃ ls:List Ln,ks=ls.map lnK/\∀ l∈ls,l∈L.map JY:=by
 induction ks with
 | nil=>exact fun _=>⟨[],rfl,fun _ z=>nomatch z⟩
 | cons k ks ih =>
  intro h;obtain⟨ls,e,m⟩:=ih fun z hz=>h z (qd _ hz);obtain⟨a,ha,ea⟩:=qF.mp (h k qi);refine⟨JY a::ls,by rw[e,<- ea];rfl,fun l hl=>?_⟩;rcases qG.mp hl with rfl | hl
  .exact qF.mpr ⟨a,ha,rfl⟩
  .exact m l hl
def ql5 (tb:Addr):SpD:=fun es U Q=>∃ ps:List Pt,es=[.d (hpD ps)]/\ps.length<=44/\Bds ps/\TB tb∈U/\∀ ls:List Ln,Plc ps (plc ps)->ls.Pairwise Ahd->(∀ l,l∈ls ↔ qcV ps l)->ls.length<4000->Q (.d (.list (ls.map lnD))) U
theorem qfk {l:List Pt}(hn:l.Nodup) {p:Pt×Pt}(h:p∈prs l):p.1∈l/\p.2∈l/\p.1≠p.2:=by
 induction l with
 | nil=>exact (nomatch h)
 | cons a t ih =>
  obtain⟨h1,h2⟩:=yx.mp hn;rcases qB.mp h with h | h
  .obtain ⟨b,hb,rfl⟩:=qF.mp h;exact⟨qi,qd _ hb,fun z=>h1 (by have z:a=b:=z;rw[z];exact hb)⟩
  .obtain ⟨a1,a2,a3⟩:=ih h2 h;exact⟨qd _ a1,qd _ a2,a3⟩
theorem qhA {l:List Pt}{a b:Pt}(ha:a∈l) (hb:b∈l) (h:a≠b):(a,b)∈prs l\/(b,a)∈prs l:=by
 induction l with
 | nil=>exact (nomatch ha)
 | cons c t ih =>
  rcases qG.mp ha with e | ha'
  .subst e;rcases qG.mp hb with e | hb'
   .exact absurd e.symm h
   .exact .inl (qS _ (qF.mpr ⟨b,hb',rfl⟩))
  .rcases qG.mp hb with e | hb'
   .subst e;exact .inr (qS _ (qF.mpr ⟨a,ha',rfl⟩))
   .rcases ih ha' hb' with h | h
    .exact .inl (qg _ h)
    .exact .inr (qg _ h)
theorem qgg {ps:List Pt}(hP:Plc ps (plc ps)) (l:Ln):l∈(prs (plc ps)).map JY ↔ qcV ps l:=by
 constructor
 .intro h;obtain⟨p,hp,rfl⟩:=qF.mp h;obtain⟨h1,h2,h3⟩:=qfk hP.1 hp;exact qa4 ((hP.2.2 _).mp h1) ((hP.2.2 _).mp h2) h3
 .intro h;obtain⟨p,hp,q,hq,hne,rfl⟩:=ZM h;rcases qhA ((hP.2.2 _).mpr hp) ((hP.2.2 _).mpr hq) hne with z | z
  .exact qF.mpr ⟨_,z,rfl⟩
  .exact qF.mpr ⟨_,z,qmZ hne⟩
theorem qlM (p q:Pt):thr p q≠[]:=fun h=>nomatch h
theorem qeZ:FnScope ["heap"] ["heap"] (qq jO):=by trivial
theorem qkv (F:Fun K "joining_lines" "joining_lines" jO f fd) (T:Txt mg) (hX:NoX CX) (OK:Own P w K mg base CX 2 "place_pairs" ["heap"] (yq K sPp)) (OX:Own P w K mg base CX 3 "through" ["one", "other"] (yq K sThr)) (OB:Own P w K mg base CX 5 "lines_in_order" ["lines"] (yq K (sLio tb))):FnOk P w K mg base CX 6 f fd ["heap"] (yq K (ql5 tb)):=by
 refine F.okD qeZ (by trivial) (fun Oh A outer s H E es U Q hr Oi=>?_);obtain⟨ps,e,hl,hb,htb,k⟩:=Oi;subst e;have nd:=qeZ.nd;refine⟨_,(qR (yd (yt OB hX hr.mo rfl (qb (yA (qdA (P:=P) (w:=w) (K:=K) rfl) (by rfl) T.sorted_ qap (qb (qnn (P:=P) (w:=w) (K:=K) (L:=["one", "other"]) (sc:=qq jO) (N:=["heap"]) hr.units rfl rfl rfl (by decide +kernel) (jA (yt OK hX hr.mo rfl (qb (dv 0) qj))) (fun _ _ _ _ _=>(Jw (n:=2) rfl (ye (yX (i:=1) (show List.Nodup (["heap", "one", "other"]:List Str) from by decide +kernel) rfl (by trivial)) (ye (yX (i:=2) (show List.Nodup (["heap", "one", "other"]:List Str) from by decide +kernel) rfl (by trivial)) jB)))) (fun _ _ _ _ _=>Zm) (fun _ _ _ _ _=>(yt OX hX hr.mo rfl (qb (dv 1) (qb (dv 2) qj))))) qj)) qj)))),?_⟩;refine⟨ps,rfl,hl,fun hP=>?_⟩;have hq:(plc ps).length<=44:=qt (JK hP.1 fun q hq=>(hP.2.2 q).mp hq) hl;have h1000:=qi4 hq;have hne:∀ p∈prs (plc ps),Bd B30 p.1/\Bd B30 p.2/\p.1≠p.2:=fun p hp=>by
  obtain⟨h1,h2,h3⟩:=qfk hP.1 hp;exact⟨hb _ ((hP.2.2 _).mp h1),hb _ ((hP.2.2 _).mp h2),h3⟩
 refine⟨_,.d _,?_⟩;refine setC2 (O:=[some (.d (hpD ps))]) (U:=U) (tt:=qnX) (as:=prs (plc ps)) (h1:=fun p=>ptD p.1) (h2:=fun p=>ptD p.2) (fun p=>thr p.1 p.2) (Src.l (.d _)) (by lia) (fun _ _ _ h=>h) (fun p _=>qlM _ _) (fun p hp R h=>?_) (fun ms hm hnd h49=>?_)
 .obtain ⟨b1,b2,h3⟩:=hne p hp;exact⟨p.1,p.2,rfl,b1,b2,h3,h⟩
 .have hms:ms.length<4000:=by
   have:=JK hnd fun q hq=>(hm q).mp hq;rw[qc] at this;lia
  refine⟨ms,rfl,by lia,fun ks hp hs=>?_⟩;obtain⟨ls,rfl,hin⟩:=qm0 (L:=prs (plc ps)) fun q hq=>(hm q).mp (hp.mem_iff.mp hq);have hnl:ls.Nodup:=by
   have:(ls.map lnK).Nodup:=hp.nodup_iff.mpr hnd;exact (jc.mp this).imp fun h z=>h (by rw[z])
  have hJ:∀ l,l∈ls ↔ qcV ps l:=fun l=>by
   rw[<- qgg hP l];refine⟨hin l,fun h=>?_⟩;obtain⟨p,hp',rfl⟩:=qF.mp h;have:thr p.1 p.2∈ls.map lnK:=hp.mem_iff.mpr ((hm _).mpr (qF.mpr ⟨p,hp',rfl⟩));obtain⟨l,hl',e⟩:=qF.mp this;have e2:l=JY p:=qcx e;rw[<- e2];exact hl'
  have hll:ls.length<4000:=by
   have:=hp.length_eq;rw[qc] at this;lia
  refine⟨ls,by rw[y6];rfl,hnl,fun l hl'=>?_,yn hll,htb,fun ms' p' s'=>k ms' hP s' (fun l=>(p'.mem_iff).trans (hJ l)) (by rw[p'.length_eq];exact hll)⟩;have J:=(hJ l).mp hl';exact⟨J.1,ZN hb J⟩
def sAll (tb:Addr):SpD:=fun es U Q=>∃ (A B:List Pt) (e1 e2:En),es=[e1,e2]/\LstOf U e1 (A.map ptD)/\LstOf U e2 (B.map ptD)/\A.length+B.length<=44/\Bds A/\Bds B/\TB tb∈U/\∀ ls:List Ln,qg8 A B ls->ls.length<4000->(∀ l∈ls,LBd l)->Q (.d (.list (ls.map lnD))) U
theorem qiQ:FnScope ["one", "other"] ["one", "other"] (qq Yv):=by trivial
theorem qmY (F:Fun K "all_lines" "all_lines" Yv f fd) (T:Txt mg) (hX:NoX CX) (OE:Own P w K mg base CX 6 "joining_lines" ["heap"] (yq K (ql5 tb))) (OV:Own P w K mg base CX 4 "halves" ["line", "heap"] (yq K qe6)):FnOk P w K mg base CX 7 f fd ["one", "other"] (yq K (sAll tb)):=by
 refine F.okD qiQ (by trivial) (fun Oh A' outer s H E es U Q hr Oi=>?_);obtain⟨A,B,e1,e2,e,l1,l2,hl,hA,hB,htb,k⟩:=Oi;subst e;have nd:=qiQ.nd;refine⟨_,(qR (yd (ZB (L:=["line"]) (sc:=qq Yv) (N:=["one", "other"]) rfl rfl rfl (by decide +kernel) (jA (yt OE hX hr.mo rfl (qb (yS jV (dv 0) (dv 1)) qj))) (fun _ _ _ _ _=>(yX (i:=2) (show List.Nodup (["one", "other", "line"]:List Str) from by decide +kernel) rfl (by trivial))) (fun _ _ _ _ _=>(YL (qcg (Ym (Yc (yt OV.thaw0 hX hr.mo rfl (qb (dv 2) (qb (dv 0) qj)))) (JB (Yc (yt OV.thaw0 hX hr.mo rfl (qb (dv 2) (qb (dv 1) qj))))))))) (fun _ _ _ _ _=>(dv 2))))),?_⟩;have la:(A.map ptD).length=A.length:=qc ..;have lb:(B.map ptD).length=B.length:=qc ..;have bd:Bds (A++B):=fun z hz=>by
  rcases qB.mp hz with h | h
  .exact hA z h
  .exact hB z h
 have r1:Rea K U e1 (hpD A):=Rea.l l1;have r2:Rea K U e2 (hpD B):=Rea.l l2;have c1:=l1;have c2:=l2;cases l1 <;> cases l2
 all_goals
  refine⟨_,_,c1,c2,by lia,A++B,(by show [En.d (.list (A.map ptD++B.map ptD))]=_;rw[<- qI];rfl),(by rw[qv];exact hl),bd,htb,fun ls _ hs hJ hll=>?_⟩;have hbl:∀ l∈ls,LBd l:=fun l hl'=>ZN bd ((hJ l).mp hl');have hl2:(ls.map lnD).length<=4000:=by rw[qc];lia
  refine⟨_,.d _,hl2,qaL (as:=ls) (h:=lnD) (fun l=>qbs l.2 (vls l.1 A) && qbs l.2 (vls l.1 B)) lnD (Src.l (.d _)) (fun l hl' R h=>?_) (fun l hl' _ R h=>h) ?_⟩
  .have n1:l.1.1.natAbs<=B40:=qt (hbl l hl').1.1 (by decide);have n2:l.1.2.natAbs<=B40:=qt (hbl l hl').1.2 (by decide);refine⟨[lnD l,hpD A],.cons Rea.d (.cons r1 .nil),l.1.1,l.1.2,l.2,A,rfl,n1,n2,hA,by lia,rfl,_,rfl,?_⟩;cases c:qbs l.2 (vls (l.1.1,l.1.2) A) with
   | true =>
    refine ZO ⟨[lnD l,hpD B],.cons Rea.d (.cons r2 .nil),l.1.1,l.1.2,l.2,B,rfl,n1,n2,hB,by lia,rfl,_,rfl,?_⟩;have c:qbs l.2 (vls l.1 A)=true:=c;rw[c,Bool.true_and] at h;exact h
   | false =>
    have c:qbs l.2 (vls l.1 A)=false:=c;rw[c,Bool.false_and] at h;exact YO h
  .refine k _ ⟨hs.filter _,fun l=>?_⟩ (jL (List.length_filter_le _ _) hll) fun l hl'=>hbl l (List.mem_filter.mp hl').1;rw[List.mem_filter,hJ l,ym];rfl
end K91
namespace K91
variable {A:List Pt}{p:Pt}{a b:En}
theorem JX {e:En}{es:List En}(h:Paired (IsE K U H) vs (e::es)):∃ v vs',vs=v::vs'/\IsE K U H v e/\Paired (IsE K U H) vs' es:=by
 cases h with
 | cons a b=>exact⟨_,_,rfl,a,b⟩
structure TxtK (K:W.Frag) (C:Addr):Prop where
 cl:Cls K C
 n_heaps:YB K C "heaps"
 n_kept:YB K C "kept"
theorem qic (p q:Pt):PyData.eqv (ptD p) (ptD q)=decide (p=q):=qdv
theorem YH (A:List Pt):PyData.canLayAll0 (A.map ptD)=true:=Zq (fun p=>rfl) A
theorem qdK (A:List Pt) (p:Pt):((A.map ptD).any fun z=>z.eqv (ptD p))=decide (p∈A):=by
 rw[List.any_map];by_cases h:p∈A
 .rw [qN h];exact List.any_eq_true.mpr ⟨p,h,by show PyData.eqv (ptD p) (ptD p)=true;rw[qic];exact qN rfl⟩
 .rw [yi h];refine List.any_eq_false.mpr fun q hq=>?_;show ¬ PyData.eqv (ptD q) (ptD p)=true;rw[qic];exact fun z=>h (qJ z ▸ hq)
theorem qbV (h:p∈A):A.idxOf p<A.length/\A[A.idxOf p]?=some p/\∀ i q,i<A.idxOf p->A[i]?=some q->q≠p:=by
 have hl:=List.idxOf_lt_length_of_mem h;refine⟨hl,?_,fun i q hi hq e=>?_⟩
 .rw [qf hl,List.getElem_idxOf]
 .subst e;have:A.idxOf q<=i:=by
   have h1:=(qm.mp hq);obtain⟨hi2,e2⟩:=h1;refine Nat.le_of_not_lt fun hlt=>?_;have:=List.not_of_lt_findIdx (p:=fun x=>x == q) (xs:=A) (i:=i) hi;rw[e2] at this;simp at this
  omega
theorem qjj (h:p∈A) (hl:A.length<=4000) {R:Nat->Prop}(k:R (A.idxOf p)):∃ j:Nat,j<(A.map ptD).length/\(A.map ptD).length<=4000/\(∃ z,(A.map ptD)[j]?=some z/\z.eqv (ptD p)=true)/\(∀ i z,i<j->(A.map ptD)[i]?=some z->z.eqv (ptD p)=false)/\R j:=by
 obtain⟨h1,h2,h3⟩:=qbV h;refine⟨A.idxOf p,by rw[qc];exact h1,by rw[qc];exact hl,⟨ptD p,by rw[qK,h2];rfl,by rw[qic];exact qN rfl⟩,fun i z hi hz=>?_,k⟩;rw[qK] at hz;obtain⟨q,hq,rfl⟩:=Option.map_eq_some_iff.mp hz;rw[qic];exact yi (h3 i q hi hq)
def sFP:SpD:=fun es U Q=>∃ (A:List Pt) (p:Pt),es=[.d (hpD A),.d (ptD p)]/\p∈A/\A.length<=4000/\Q (.d (.int (A.idxOf p:Nat))) U
theorem qiN:FnScope ["heap", "point"] ["heap", "point"] (qq Ja):=by trivial
theorem qmV (F:Fun K "find_place" "find_place" Ja f fd):FnOk P w K mg base CX 1 f fd ["heap", "point"] (yq K sFP):=by
 refine F.okD qiN (by trivial) (fun Oh A' outer s H E es U Q hr Oi=>?_);obtain⟨A,p,e,hp,hl,k⟩:=Oi;subst e;have nd:=qiN.nd;refine⟨_,(qC (jz (yp (Y0 hr.u66) (dv 1) (dv 0) rfl) (qR qdx) yW)
   (qR (yd (qdD (dv 0) (qb (dv 1) qj) (h:=fun a b=>ZE PySem.F.plainAttrs_list PySem.F.slot_list_index PySem.F.type_list_index (qbN hr.u70) a b))))),?_⟩
 refine⟨_,_,rfl,.d _,jf [p.1,p.2],YH A,JR (fun c=>?_) (fun c=>?_)⟩
 .have c:(!((A.map ptD).any fun z=>z.eqv (ptD p)))=true:=c;rw[qdK,qN hp] at c;cases c
 .exact ⟨_,.d _,.d _,YH A,jf [p.1,p.2],qjj hp hl k⟩
def qjX (A:List Pt) (p q:Pt):List Pt:=A.set (A.idxOf p) q
theorem qdc (h:p∈A):A.take (A.idxOf p)++[q]++A.drop (A.idxOf p+1)=qjX A p q:=by
 have:=(qbV h).1;unfold qjX;rw[List.set_eq_take_append_cons_drop,if_pos this,qu];rfl
theorem qdE (ds:List PyData) (i:Nat) (h:i<=ds.length):ZT ds none (some (i:Int))=ds.take i:=by
 unfold ZT HT.sIx;simp only[List.drop_zero,Nat.sub_zero];congr 1;simp;rw[if_neg (by omega)];omega
def qlZ:SpD:=fun es U Q=>∃ (A:List Pt) (p q:Pt),es=[.d (hpD A),.d (ptD p),.d (ptD q)]/\p∈A/\A.length<=100/\Q (.d (hpD (qjX A p q))) U
theorem qeP:FnScope ["heap", "point", "to", "at"] ["heap", "point", "to"] (qq YS):=by trivial
theorem qkj (F:Fun K "stepped" "stepped" YS f fd) (hX:NoX CX) (Of:Own P w K mg base CX 1 "find_place" ["heap", "point"] (yq K sFP)):FnOk P w K mg base CX 2 f fd ["heap", "point", "to"] (yq K qlZ):=by
 refine F.okD qeP (by trivial) (fun Oh A' outer s H E es U Q hr Oi=>?_);obtain⟨A,p,q,e,hp,hl,k⟩:=Oi;subst e;have nd:=qeP.nd;refine⟨_,(qC (yM (i:=3) nd (yt Of hX hr.mo rfl (qb (dv 0) (qb (dv 1) qj))))
   (qR (yd (yS jV (yS jV (Jk (dv 0) Ji (Jh (dv 3))) (Y1 (qb (dv 2) qj))) (Jk (dv 0) (Jh (yS jV (dv 3) qH)) Ji))))),?_⟩
 have hi:=(qbV hp).1;have c1:ZT (A.map ptD) none (some ((A.idxOf p:Nat):Int))=(A.take (A.idxOf p)).map ptD:=by rw[qdE _ _ (by rw[qc];omega),List.map_take]
 have c2:ZT (A.map ptD) (some (((A.idxOf p:Nat):Int)+1)) none=(A.drop (A.idxOf p+1)).map ptD:=by
  have:=ZS (A.map ptD) (A.idxOf p+1) (by rw[qc];omega);rw[Int.natCast_add] at this;rw[List.map_drop];exact this
 refine⟨A,p,rfl,hp,by omega,_,.d _,zl1,_,_,.d _,.d _,?_,_,.d _,_,_,.d _,.d _,?_,?_⟩
 .rw [c1,qc,yw];show _+1<=4000;omega
 .rw [c1,c2,qv,qc,qc,yw,List.length_drop];show _+1+_<=4000;omega
 .rw [c1,c2];rw[<- qdc hp] at k;unfold hpD at k;rw[qI,qI] at k;exact k
theorem qcw {l:Ln}:lnK l∈ms.map lnK ↔ l∈ms:=by
 constructor
 .intro h;obtain⟨m,hm,e⟩:=qF.mp h;rw[<- qcx e];exact hm
 .exact fun h=>qF.mpr ⟨l,h,rfl⟩
theorem qf5 (ls:List Ln):ls.map lnD=(ls.map lnK).map JC:=by rw[y6];rfl
theorem qkH (ls:List Ln):∀ k∈ls.map lnK,k≠[]:=fun k hk=>by
 obtain⟨x,_,rfl⟩:=qF.mp hk;exact fun z=>nomatch z
theorem qf4 (l:Ln):lnK l≠[]:=fun h=>nomatch h
def KI (C dx h:Addr) (ls:List Ln):MO:=.ins C dx [("heaps",.m h),("kept",.d (.list (ls.map lnD)))]
def KH (A B:List Pt):MO:=.lst [hpD A,hpD B]
theorem nHK:¬ (("heaps" : Str) = "kept"):=by decide +kernel
theorem j8 : ([(("heaps" : Str),a),("kept",b)]:List (Str×En)).lookup ("heaps" : Str)=some a:=by simp[yh]
theorem qa1 : ([(("heaps" : Str),a),("kept",b)]:List (Str×En)).lookup ("kept" : Str)=some b:=by
 have:(("kept" : Str) == "heaps")=false:=by decide +kernel
 simp[yh,this]
theorem Yw {m:Str}(h1:(m == ("heaps" : Str))=false:=by decide +kernel) (h2:(m == ("kept" : Str))=false:=by decide +kernel):([(("heaps" : Str),a),("kept",b)]:List (Str×En)).lookup m=none:=by simp[yh,h1,h2]
theorem qhw {c:En}:qg3 "kept" c [(("heaps" : Str),a),("kept",b)]=[(("heaps" : Str),a),("kept",c)]:=by
 unfold qg3;rw[if_neg nHK];unfold qg3;rw[if_pos rfl]
theorem qfe {c:En}:qg3 "kept" c [(("heaps" : Str),a)]=[(("heaps" : Str),a),("kept",c)]:=by
 unfold qg3;rw[if_neg nHK];rfl
def at2 (wh:Int) (A B:List Pt):List Pt:=if wh=0 then A else B
theorem Jx (h:wh=0\/wh=1) (A B:List Pt):atI [hpD A,hpD B] wh=some (hpD (at2 wh A B)):=by
 rcases h with rfl | rfl
 .exact yP (j:=0) rfl
 .exact yP (j:=1) rfl
def Z0 (wh:Int) (X A B:List Pt):List Pt×List Pt:=if wh=0 then (X,B) else (A,X)
theorem qeN (h:wh=0\/wh=1) (X A B:List Pt):0<=wh/\wh.toNat < [hpD A,hpD B].length/\[hpD A,hpD B].set wh.toNat (hpD X)=[hpD (Z0 wh X A B).1,hpD (Z0 wh X A B).2]:=by
 rcases h with rfl | rfl
 .exact ⟨by decide,by show 0<2;decide,rfl⟩
 .exact ⟨by decide,by show 1<2;decide,rfl⟩
theorem qhX {x a b:Addr×MO}(h:x∈U1++U2):x∈U1++a::b::U2:=by
 rcases qB.mp h with h | h
 .exact qS _ h
 .exact qg _ (qd _ (qd _ h))
theorem qhr (A:List Pt) (p q:Pt):(qjX A p q).length=A.length:=by unfold qjX;rw[List.length_set]
def qfm (es:List En) (_:Mu):Prop:=∃ (A:List Pt) (q:Pt),es=[.d (hpD A),.d (ptD q)]/\q∉A
theorem qmU (F:Fun K "find_place" "find_place" Ja f fd) (T:TxtC K mg CL CN C1 C2 C3 C4 C5 C6 C7 C8):FnOk P w K mg base (XC P w) 1 f fd ["heap", "point"] (yU K CN qfm):=by
 refine okX F (N:=["heap", "point"]) ⟨rfl,rfl,rfl,by decide +kernel,rfl,by decide +kernel,by decide +kernel⟩ (fun vs H Q E h=>?_) (fun Oh A outer s H vs Q E hr h=>?_)
 .obtain ⟨U,es,M,hp,⟨A,q,rfl,hq⟩,_⟩:=h;exact (PySem.Paired.length hp).trans rfl
 .obtain ⟨U,es,M,hp,⟨A,q,rfl,hq⟩,kE⟩:=h;refine⟨_,jQ (qfi (yp (K:=K) (Y0 hr.u66) (dv 1) (dv 0) rfl) (jH (qhy (C:=CN) T.exc PySem.F.excBase_ValueError T.cls_Lacking rfl (yy Z6 Js))) qcp) YU,?_⟩;obtain⟨v1,vs,rfl,i1,hp2⟩:=JX hp;obtain⟨v2,vs,rfl,i2,hp2⟩:=JX hp2;cases hp2
  have hS:RelS K [some (.d (hpD A)),some (.d (ptD q))] U (JT ["heap", "point"] [v1,v2]) H:=Ze (K:=K) 0 hp;refine YQ true hS M ⟨_,_,rfl,.d _,jf [q.1,q.2],YH A,rfl,?_⟩ fun H' M' s'=>ZO ⟨sz1,kE H' M' s'⟩;show (!((A.map ptD).any fun z=>z.eqv (ptD q)))=true;rw[qdK,yi hq];rfl
theorem ok_fp (F:Fun K "find_place" "find_place" Ja f fd) (T:TxtC K mg CL CN C1 C2 C3 C4 C5 C6 C7 C8):FnOk P w K mg base (XC P w) 1 f fd ["heap", "point"] (Zu (yq K sFP) (yU K CN qfm)):=(qmV F).or (qmU F T)
def qlC (A:List Pt) (q:Pt):List Pt:=A.take (A.idxOf q)++A.drop (A.idxOf q+1)
def ql2:SpD:=fun es U Q=>∃ (A:List Pt) (p:Pt),es=[.d (hpD A),.d (ptD p)]/\p∈A/\A.length<=100/\Q (.d (hpD (qlC A p))) U
theorem qeS:FnScope ["heap", "point", "at"] ["heap", "point"] (qq ZY):=by trivial
theorem qkn (F:Fun K "shrunk" "shrunk" ZY f fd) (hX:NoX CX) (Of:Own P w K mg base CX 1 "find_place" ["heap", "point"] (yq K sFP)):FnOk P w K mg base CX 2 f fd ["heap", "point"] (yq K ql2):=by
 refine F.okD qeS (by trivial) (fun Oh A' outer s H E es U Q hr Oi=>?_);obtain⟨A,p,e,hp,hl,k⟩:=Oi;subst e;have nd:=qeS.nd;refine⟨_,(qC (yM (i:=2) nd (yt Of hX hr.mo rfl (qb (dv 0) (qb (dv 1) qj))))
   (qR (yd (yS jV (Jk (dv 0) Ji (Jh (dv 2))) (Jk (dv 0) (Jh (yS Jv (dv 2) qH)) Ji))))),?_⟩
 have hi:=(qbV hp).1;have c1:ZT (A.map ptD) none (some ((A.idxOf p:Nat):Int))=(A.take (A.idxOf p)).map ptD:=by rw[qdE _ _ (by rw[qc];omega),List.map_take]
 have c2:ZT (A.map ptD) (some (((A.idxOf p:Nat):Int)+1)) none=(A.drop (A.idxOf p+1)).map ptD:=by
  have:=ZS (A.map ptD) (A.idxOf p+1) (by rw[qc];omega);rw[Int.natCast_add] at this;rw[List.map_drop];exact this
 refine⟨A,p,rfl,hp,by omega,_,.d _,_,.d _,_,_,.d _,.d _,?_,?_⟩
 .rw [c1,c2,qc,qc,yw,List.length_drop];omega
 .rw [c1,c2];unfold hpD qlC at k;rw[qI] at k;exact k
theorem qkm (F:Fun K "shrunk" "shrunk" ZY f fd) (Of:Own P w K mg base (XC P w) 1 "find_place" ["heap", "point"] (Zu (yq K sFP) (yU K CN qfm))):FnOk P w K mg base (XC P w) 2 f fd ["heap", "point"] (yU K CN qfm):=by
 refine okX F (N:=["heap", "point", "at"]) ⟨rfl,rfl,rfl,by decide +kernel,rfl,by decide +kernel,by decide +kernel⟩ (fun vs H Q E h=>?_) (fun Oh A outer s H vs Q E hr h=>?_)
 .obtain ⟨U,es,M,hp,⟨A,q,rfl,hq⟩,_⟩:=h;exact (PySem.Paired.length hp).trans rfl
 .obtain ⟨U,es,M,hp,⟨A,q,rfl,hq⟩,kE⟩:=h;have nd:List.Nodup (["heap", "point", "at"]:List Str):=by decide +kernel
  refine⟨_,jQ (Zw (i:=2) nd rfl (.inl rfl) (qaW Of.r qdZ hr.mo rfl (qb (K:=K) (dv 0) (qb (dv 1) qj)))) YU,?_⟩;obtain⟨v1,vs,rfl,i1,hp2⟩:=JX hp;obtain⟨v2,vs,rfl,i2,hp2⟩:=JX hp2;cases hp2
  have hS:RelS K [some (.d (hpD A)),some (.d (ptD q)),none] U (JT ["heap", "point", "at"] [v1,v2]) H:=Ze (K:=K) 1 hp;exact qa3 hS M ⟨rfl,A,q,rfl,hq⟩ kE
theorem qmL (F:Fun K "shrunk" "shrunk" ZY f fd) (hX:NoX (XC P w)) (Of:Own P w K mg base (XC P w) 1 "find_place" ["heap", "point"] (Zu (yq K sFP) (yU K CN qfm))):FnOk P w K mg base (XC P w) 2 f fd ["heap", "point"] (Zu (yq K ql2) (yU K CN qfm)):=(qkn F hX Of.l).or (qkm F Of)
def qmx (es:List En) (_:Mu):Prop:=∃ (A:List Pt) (q g:Pt),es=[.d (hpD A),.d (ptD q),.d (ptD g)]/\q∉A
theorem qki (F:Fun K "stepped" "stepped" YS f fd) (Of:Own P w K mg base (XC P w) 1 "find_place" ["heap", "point"] (Zu (yq K sFP) (yU K CN qfm))):FnOk P w K mg base (XC P w) 2 f fd ["heap", "point", "to"] (yU K CN qmx):=by
 refine okX F (N:=["heap", "point", "to", "at"]) ⟨rfl,rfl,rfl,by decide +kernel,rfl,by decide +kernel,by decide +kernel⟩ (fun vs H Q E h=>?_) (fun Oh A outer s H vs Q E hr h=>?_)
 .obtain ⟨U,es,M,hp,⟨A,q,g,rfl,hq⟩,_⟩:=h;exact (PySem.Paired.length hp).trans rfl
 .obtain ⟨U,es,M,hp,⟨A,q,g,rfl,hq⟩,kE⟩:=h;have nd:List.Nodup (["heap", "point", "to", "at"]:List Str):=by decide +kernel
  refine⟨_,jQ (Zw (i:=3) nd rfl (.inl rfl) (qaW Of.r qdZ hr.mo rfl (qb (K:=K) (dv 0) (qb (dv 1) qj)))) YU,?_⟩;obtain⟨v1,vs,rfl,i1,hp2⟩:=JX hp;obtain⟨v2,vs,rfl,i2,hp2⟩:=JX hp2;obtain⟨v3,vs,rfl,i3,hp2⟩:=JX hp2;cases hp2
  have hS:RelS K [some (.d (hpD A)),some (.d (ptD q)),some (.d (ptD g)),none] U (JT ["heap", "point", "to", "at"] [v1,v2,v3]) H:=Ze (K:=K) 1 hp;exact qa3 hS M ⟨rfl,A,q,rfl,hq⟩ kE
theorem qmJ (F:Fun K "stepped" "stepped" YS f fd) (hX:NoX (XC P w)) (Of:Own P w K mg base (XC P w) 1 "find_place" ["heap", "point"] (Zu (yq K sFP) (yU K CN qfm))):FnOk P w K mg base (XC P w) 2 f fd ["heap", "point", "to"] (Zu (yq K qlZ) (yU K CN qmx)):=(qkj F hX Of.l).or (qki F Of)
def sGrw:SpD:=fun es U Q=>∃ (A:List Pt) (p:Pt),es=[.d (hpD A),.d (ptD p)]/\A.length<=100/\Q (.d (hpD (A++[p]))) U
theorem qiM:FnScope ["heap", "point"] ["heap", "point"] (qq qeK):=by trivial
theorem qmT (F:Fun K "grown" "grown" qeK f fd):FnOk P w K mg base CX 1 f fd ["heap", "point"] (yq K sGrw):=by
 refine F.okD qiM (by trivial) (fun Oh A' outer s H E es U Q hr Oi=>?_);obtain⟨A,p,e,hl,k⟩:=Oi;subst e;have nd:=qiM.nd;refine⟨_,(qR (yd (yS jV (dv 0) (Y1 (qb (dv 1) qj))))),?_⟩;refine⟨zl1,_,_,.d _,.d _,?_,?_⟩
 .rw [qc];show A.length+1<=4000;omega
 .unfold hpD at k;rw[qI] at k;exact k
def sLWM:SpD:=fun es U Q=>∃ ls ms:List Ln,es=[.d (.list (ls.map lnD)),.d (.list (ms.map lnD))]/\ls.length<4000/\ms.length<4000/\∀ p,p∉U.map Prod.fst->Q (.m p) ((p,.lst ((ls.filter fun l=>!decide (l∈ms)).map lnD))::U)
theorem qlU:FnScope ["lines", "others", "known"] ["lines", "others"] (qq jN):=by trivial
theorem ok_lw (F:Fun K "lines_without" "lines_without" jN f fd) (T:Txt mg):FnOk P w K mg base CX 1 f fd ["lines", "others"] (yq K sLWM):=by
 refine F.okD qlU (by trivial) (fun Oh A' outer s H E es U Q hr Oi=>?_);obtain⟨ls,ms,e,hl,hm,k⟩:=Oi;subst e;have nd:=qlU.nd;refine⟨_,(qC (yM (i:=2) nd (jR (qjo (P:=P) (w:=w) (K:=K) rfl hr.units) (by rfl) T.set_ qjx (qb (dv 1) qj)))
   (qR (yd (qlh (L:=["line"]) (sc:=qq jN) (N:=["lines", "others", "known"]) rfl rfl rfl (by decide +kernel) (jA (dv 0)) (fun _ _ _ _ _=>(yX (i:=3) (show List.Nodup (["lines", "others", "known", "line"]:List Str) from by decide +kernel) rfl (by trivial))) (fun _ _ _ _ _=>(YL (yp (qec (P:=P) (w:=w) (K:=K) hr.units) (dv 3) (dv 2) rfl))) (fun _ _ _ _ _=>(dv 3)))))),?_⟩
 refine⟨ms.map lnK,by rw[<- qf5];exact .d _,qkH ms,by rw[qc];omega,fun us hu hn h77=>?_⟩;refine⟨_,.d _,(by show (ls.map lnD).length<=4000;rw[qc];omega),compM (qaL (as:=ls) (h:=lnD) (fun l=>!decide (l∈ms)) lnD (Src.l (.d _)) (fun l hl' R h=>⟨us,lnK l,rfl,qf4 l,rfl,?_⟩) (fun l hl' _ R h=>h) ?_)⟩
 .have e:decide (lnK l∈us)=decide (l∈ms):=by rw[decide_eq_decide,hu,qcw]
  rw[<- e] at h;exact h
 .intro ys e p hp;cases e
  exact k p hp
end K91
namespace K91
variable {A X:List Pt}{g:Pt}{R:Pt->Prop}
def qjV (C tb:Addr):SpD:=fun es U Q=>∃ (p dx:Addr) (A B:List Pt) (e1 e2:En) (U0:Mu),es=[.m p,e1,e2]/\U=(p,.ins C dx [])::U0/\LstOf U0 e1 (A.map ptD)/\LstOf U0 e2 (B.map ptD)/\A.length+B.length<=44/\Bds A/\Bds B/\TB tb∈U0 ∧
 ∀ (h:Addr) (ls:List Ln),qg8 A B ls->ls.length<4000->(∀ l∈ls,LBd l)->Q (.d .none) ((h,KH A B)::(p,KI C dx h ls)::U0)
theorem qc8:FnScope ["self", "one", "other"] ["self", "one", "other"] (qq j3):=by trivial
theorem qhO (F:Fun K "__init__" "Keeper.__init__" j3 f fd) (Oc:TxtK K C) (T:Txt mg) (hX:NoX CX) (Ov:Own P w K mg base CX 7 "all_lines" ["one", "other"] (yq K (sAll tb))):FnOk P w K mg base CX 8 f fd ["self", "one", "other"] (yq K (qjV C tb)):=by
 refine F.okD qc8 (by trivial) (fun Oh A' outer s H E es U Q hr Oi=>?_);obtain⟨p,dx,A,B,e1,e2,U0,e,e0,l1,l2,hl,hA,hB,htb,k⟩:=Oi;subst e e0;have nd:=qc8.nd;refine⟨_,(qC (qgD Oc.cl Oc.n_heaps (dv 0) (qdC (qb (jR qcI (by rfl) T.list_ Jm (qb (dv 1) qj)) (qb (jR qcI (by rfl) T.list_ Jm (qb (dv 2) qj)) qj))))
   (qR (qgD Oc.cl Oc.n_kept (dv 0) (yt Ov hX hr.mo rfl (qb (dv 1) (qb (dv 2) qj)))))),?_⟩
 have m1:∀ {o:MO},LstOf ((p,o)::U0) e1 (A.map ptD):=fun {o}=>l1.mono fun x hx=>qd _ hx;have m2:∀ {o:MO},LstOf ((p,o)::U0) e2 (B.map ptD):=fun {o}=>l2.mono fun x hx=>qd _ hx;refine⟨_,.l m1,_,.l m2,zl2,fun h hh=>?_⟩;refine⟨p,dx,[],_,[(h,.lst [.list (A.map ptD),.list (B.map ptD)])],U0,rfl,rfl,rfl,by decide,?_⟩;refine⟨A,B,e1,e2,rfl,l1.mono fun x hx=>qd _ (qd _ hx),l2.mono fun x hx=>qd _ (qd _ hx),hl,hA,hB,qd _ (qd _ htb),fun ls hL h4 hb=>?_⟩;refine⟨p,dx,[("heaps",.m h)],_,[(h,.lst [.list (A.map ptD),.list (B.map ptD)])],U0,rfl,rfl,qfe,(show 1<1000 by decide),?_⟩;exact k h ls hL h4 hb
def qiT (C:Addr):SpD:=fun es U Q=>∃ (p dx h:Addr) (A B:List Pt) (ls:List Ln) (wh:Int),es=[.m p,.d (.int wh)]/\(p,KI C dx h ls)∈U/\(h,KH A B)∈U/\(wh=0\/wh=1)/\∀ l,Q (.m l) ((l,.lst ((at2 wh A B).map ptD))::U)
theorem qc9:FnScope ["self", "which"] ["self", "which"] (qq Yi):=by trivial
theorem qhP (F:Fun K "heap" "Keeper.heap" Yi f fd) (Oc:TxtK K C) (T:Txt mg):FnOk P w K mg base CX 1 f fd ["self", "which"] (yq K (qiT C)):=by
 refine F.okD qc9 (by trivial) (fun Oh A' outer s H E es U Q hr Oi=>?_);obtain⟨p,dx,h,A,B,ls,wh,e,hp,hh,hw,k⟩:=Oi;subst e;have nd:=qc9.nd;refine⟨_,(qR (yd (jR ZR (by rfl) T.list_ Jm (qb (jg yc (Zn Oc.cl Oc.n_heaps (dv 0) rfl) (dv 1)) qj)))),?_⟩;exact⟨p,dx,_,_,rfl,hp,j8,_,_,hh,Jx hw A B,_,.l (.d _),fun l hl=>k l⟩
def qe5 (C:Addr):SpD:=fun es U Q=>∃ (p dx h:Addr) (ls:List Ln),es=[.m p]/\(p,KI C dx h ls)∈U/\∀ l,Q (.m l) ((l,.lst (ls.map lnD))::U)
theorem qbG:FnScope ["self"] ["self"] (qq JV):=by trivial
theorem qfJ (F:Fun K "lines" "Keeper.lines" JV f fd) (Oc:TxtK K C) (T:Txt mg):FnOk P w K mg base CX 1 f fd ["self"] (yq K (qe5 C)):=by
 refine F.okD qbG (by trivial) (fun Oh A' outer s H E es U Q hr Oi=>?_);obtain⟨p,dx,h,ls,e,hp,k⟩:=Oi;subst e;have nd:=qbG.nd;refine⟨_,(qR (yd (jR ZR (by rfl) T.list_ Jm (qb (Zn Oc.cl Oc.n_kept (dv 0) rfl) qj)))),?_⟩;exact⟨p,dx,_,_,rfl,hp,qa1,_,.l (.d _),fun l hl=>k l⟩
def nwA (ls ms:List Ln):List Ln:=ls.filter fun l=>!decide (l∈ms)
def qiS (K:W.Frag) (C tb:Addr):SpD:=fun es U Q=>∃ (p dx h:Addr) (A B X:List Pt) (ls:List Ln) (wh:Int) (U1 U2:Mu),es=[.m p,.d (.int wh),.d (hpD X)]/\U=U1++(h,KH A B)::(p,KI C dx h ls)::U2/\(wh=0\/wh=1)/\ls.length<4000 ∧
 (Z0 wh X A B).1.length+(Z0 wh X A B).2.length<=44/\Bds (Z0 wh X A B).1/\Bds (Z0 wh X A B).2/\TB tb∈U1++U2 ∧
 ∀ ms:List Ln,qg8 (Z0 wh X A B).1 (Z0 wh X A B).2 ms->ms.length<4000->(∀ l∈ms,LBd l)->∀ l1 l2,Q (.x (stT K [.m l1,.m l2])) ((l2,.lst ((nwA ms ls).map lnD))::(l1,.lst ((nwA ls ms).map lnD))::(U1++(h,KH (Z0 wh X A B).1 (Z0 wh X A B).2)::(p,KI C dx h ms)::U2))
theorem qeX:FnScope ["self", "which", "heap", "elder"] ["self", "which", "heap"] (qq YF):=by trivial
theorem qks (F:Fun K "put" "Keeper.put" YF f fd) (Oc:TxtK K C) (hX:NoX CX) (Ov:Own P w K mg base CX 7 "all_lines" ["one", "other"] (yq K (sAll tb))) (Ot:Own P w K mg base CX 1 "lines_without" ["lines", "others"] (yq K sLWM)):FnOk P w K mg base CX 8 f fd ["self", "which", "heap"] (yq K (qiS K C tb)):=by
 refine F.okD qeX (by trivial) (fun Oh A' outer s H E es U Q hr Oi=>?_);obtain⟨p,dx,h,A,B,X,ls,wh,U1,U2,e,e0,hw,hl,hz,hA,hB,htb,k⟩:=Oi;subst e e0;have nd:=qeX.nd;refine⟨_,(qC (yM (i:=3) nd (Zn Oc.cl Oc.n_kept (dv 0) rfl))
   (qC (Ju (dv 2) (qgI (Zn Oc.cl Oc.n_heaps (dv 0) rfl) (dv 1)))
   (qC (qgD Oc.cl Oc.n_kept (dv 0) (yt Ov hX hr.mo rfl (qb (jg yc (Zn Oc.cl Oc.n_heaps (dv 0) rfl) qH) (qb (jg yc (Zn Oc.cl Oc.n_heaps (dv 0) rfl) qH) qj))))
   (qR (yd (qdB (qb (yt Ot hX hr.mo rfl (qb (dv 3) (qb (Zn Oc.cl Oc.n_kept (dv 0) rfl) qj))) (qb (yt Ot hX hr.mo rfl (qb (Zn Oc.cl Oc.n_kept (dv 0) rfl) (qb (dv 3) qj))) qj)))))))),?_⟩
 obtain⟨w0,w1,ws⟩:=qeN hw X A B;have mp:∀ o o',(p,o)∈U1++(h,o')::(p,o)::U2:=fun o o'=>qg _ (qd _ qi);have mh:∀ o o',(h,o')∈U1++(h,o')::(p,o)::U2:=fun o o'=>qg _ qi;refine⟨p,dx,_,_,rfl,mp _ _,qa1,?_⟩;refine⟨p,dx,_,_,rfl,mp _ _,j8,U1,(p,KI C dx h ls)::U2,_,rfl,w0,w1,?_⟩;rw[ws];refine⟨p,dx,_,_,rfl,mp _ _,j8,_,_,mh _ _,yP (j:=0) rfl,p,dx,_,_,rfl,mp _ _,j8,_,_,mh _ _,yP (j:=1) rfl,_,_,_,_,rfl,.d _,.d _,hz,hA,hB,qhX htb,fun ms hL h4 hb=>?_⟩;refine⟨p,dx,_,_,U1++[(h,KH (Z0 wh X A B).1 (Z0 wh X A B).2)],U2,rfl,by rw[qu];rfl,qhw,(show 2<1000 by decide),?_⟩;rw[qu];refine⟨p,dx,_,_,rfl,mp _ _,qa1,ls,ms,rfl,hl,h4,fun l1 hl1=>?_⟩;refine⟨p,dx,_,_,rfl,qd _ (mp _ _),qa1,ms,ls,rfl,h4,hl,fun l2 hl2=>⟨zl2,?_⟩⟩;exact k ms hL h4 hb l1 l2
def aft (way:Int) (A:List Pt) (q g:Pt):List Pt:=if way=0 then A++[q] else if way=1 then qlC A q else qjX A q g
theorem qij : (qlC A q).length<=A.length:=by unfold qlC;rw[qv,yw,List.length_drop];omega
theorem qbo : (aft way A q g).length<=A.length+1:=by
 unfold aft;split
 .simp
 .split
  .have:=qij (A:=A) (q:=q);omega
  .rw [qhr];omega
theorem qnD {z:Pt}(h:z∈aft way A q g):z∈A\/z=q\/z=g:=by
 unfold aft at h;split at h
 .rcases qB.mp h with h | h
  .exact .inl h
  .exact .inr (.inl (qE.mp h))
 .split at h
  .unfold qlC at h;rcases qB.mp h with h | h
   .exact .inl (jm h)
   .exact .inl (jn h)
  .rcases List.mem_or_eq_of_mem_set h with h | h
   .exact .inl h
   .exact .inr (.inr h)
def qix (K:W.Frag) (C tb:Addr) (way:Int) (p:Addr) (wh:Int) (q g:Pt) (U:Mu) (Q:En->Mu->Prop):Prop:=∃ (dx h:Addr) (A B:List Pt) (ls:List Ln) (U1 U2:Mu),U=U1++(h,KH A B)::(p,KI C dx h ls)::U2/\(wh=0\/wh=1)/\(way=0\/q∈at2 wh A B)/\ls.length<4000 ∧
 A.length+B.length<=43/\Bds A/\Bds B/\Bd B30 q/\Bd B30 g/\TB tb∈U1++U2 ∧
 ∀ ms:List Ln,qg8 (Z0 wh (aft way (at2 wh A B) q g) A B).1 (Z0 wh (aft way (at2 wh A B) q g) A B).2 ms->ms.length<4000->(∀ l∈ms,LBd l)->∀ l1 l2,
  Q (.x (stT K [.m l1,.m l2])) ((l2,.lst ((nwA ms ls).map lnD))::(l1,.lst ((nwA ls ms).map lnD))::(U1++(h,KH (Z0 wh (aft way (at2 wh A B) q g) A B).1 (Z0 wh (aft way (at2 wh A B) q g) A B).2)::(p,KI C dx h ms)::U2))
theorem Zr : (at2 wh A B).length<=A.length+B.length:=by unfold at2;split <;> omega
theorem qcS (hA:Bds A) (hB:Bds B):Bds (at2 wh A B):=by unfold at2;split <;> assumption
theorem qaR (hw:wh=0\/wh=1) (hl:A.length+B.length<=n) (hx:X.length<=(at2 wh A B).length+1):(Z0 wh X A B).1.length+(Z0 wh X A B).2.length<=n+1:=by
 rcases hw with rfl | rfl
 .have hx:X.length<=A.length+1:=hx;show X.length+B.length<=n+1;omega
 .have hx:X.length<=B.length+1:=hx;show A.length+X.length<=n+1;omega
theorem ZG (hX:∀ z∈X,R z) (hA:∀ z∈A,R z) (hB:∀ z∈B,R z):(∀ z∈(Z0 wh X A B).1,R z)/\∀ z∈(Z0 wh X A B).2,R z:=by
 unfold Z0;split
 .exact ⟨hX,hB⟩
 .exact ⟨hA,hX⟩
theorem qbp (hA:∀ z∈A,R z) (hq:R q) (hg:R g):∀ z∈aft way A q g,R z:=fun z hz=>by
 rcases qnD hz with h | h | h
 .exact hA z h
 .rw [h];exact hq
 .rw [h];exact hg
def qhn (K:W.Frag) (C tb:Addr):SpD:=fun es U Q=>∃ (p:Addr) (wh:Int) (q:Pt),es=[.m p,.d (.int wh),.d (ptD q)]/\qix K C tb 0 p wh q q U Q
theorem qda:FnScope ["self", "which", "point"] ["self", "which", "point"] (qq Yj):=by trivial
theorem qhQ (F:Fun K "come" "Keeper.come" Yj f fd) (Oc:TxtK K C) (hX:NoX CX) (Oe:y3 P w K mg base CX 8 C "put" ["self", "which", "heap"] (yq K (qiS K C tb))) (Ma:Own P w K mg base CX 1 "grown" ["heap", "point"] (yq K sGrw)):FnOk P w K mg base CX 9 f fd ["self", "which", "point"] (yq K (qhn K C tb)):=by
 refine F.okD qda (by trivial) (fun Oh A' outer s H E es U Q hr Oi=>?_);obtain⟨p,wh,q,e,dx,h,A,B,ls,U1,U2,e0,hw,hq,hl,hz,hA,hB,bq,hg,htb,k⟩:=Oi;subst e e0;have nd:=qda.nd;refine⟨_,(qR (yd (Yz Oe hX hr.mo (dv 0) (qb (dv 1) (qb (yt Ma hX hr.mo rfl (qb (jg yc (Zn Oc.cl Oc.n_heaps (dv 0) rfl) (dv 1)) (qb (dv 2) qj))) qj))))),?_⟩;have mp:∀ o o',(p,o)∈U1++(h,o')::(p,o)::U2:=fun o o'=>qg _ (qd _ qi);have mh:∀ o o',(h,o')∈U1++(h,o')::(p,o)::U2:=fun o o'=>qg _ qi;have hz2:=Zr (wh:=wh) (A:=A) (B:=B);refine⟨p,dx,_,rfl,mp _ _,Yw,p,dx,_,_,rfl,mp _ _,j8,_,_,mh _ _,Jx hw A B,at2 wh A B,q,rfl,by omega,?_⟩;have bb:=ZG (wh:=wh) (A:=A) (B:=B) (R:=Bd B30) (X:=aft 0 (at2 wh A B) q q) (qbp (qcS hA hB) bq bq) hA hB;exact⟨p,dx,h,A,B,aft 0 (at2 wh A B) q q,ls,wh,U1,U2,rfl,rfl,hw,hl,qaR hw hz qbo,bb.1,bb.2,htb,k⟩
def sGo (K:W.Frag) (C tb:Addr):SpD:=fun es U Q=>∃ (p:Addr) (wh:Int) (q:Pt),es=[.m p,.d (.int wh),.d (ptD q)]/\qix K C tb 1 p wh q q U Q
theorem qeY:FnScope ["self", "which", "point"] ["self", "which", "point"] (qq JG):=by trivial
theorem qku (F:Fun K "go" "Keeper.go" JG f fd) (Oc:TxtK K C) (hX:NoX CX) (Oe:y3 P w K mg base CX 8 C "put" ["self", "which", "heap"] (yq K (qiS K C tb))) (OG:Own P w K mg base CX 2 "shrunk" ["heap", "point"] (Zu (yq K ql2) (yU K CN qfm))):FnOk P w K mg base CX 9 f fd ["self", "which", "point"] (yq K (sGo K C tb)):=by
 refine F.okD qeY (by trivial) (fun Oh A' outer s H E es U Q hr Oi=>?_);obtain⟨p,wh,q,e,dx,h,A,B,ls,U1,U2,e0,hw,hq,hl,hz,hA,hB,bq,hg,htb,k⟩:=Oi;subst e e0;have nd:=qeY.nd;refine⟨_,(qR (yd (Yz Oe hX hr.mo (dv 0) (qb (dv 1) (qb (yt OG.l hX hr.mo rfl (qb (jg yc (Zn Oc.cl Oc.n_heaps (dv 0) rfl) (dv 1)) (qb (dv 2) qj))) qj))))),?_⟩;have mp:∀ o o',(p,o)∈U1++(h,o')::(p,o)::U2:=fun o o'=>qg _ (qd _ qi);have mh:∀ o o',(h,o')∈U1++(h,o')::(p,o)::U2:=fun o o'=>qg _ qi;have hz2:=Zr (wh:=wh) (A:=A) (B:=B);have hq:q∈at2 wh A B:=hq.resolve_left (by decide);refine⟨p,dx,_,rfl,mp _ _,Yw,p,dx,_,_,rfl,mp _ _,j8,_,_,mh _ _,Jx hw A B,at2 wh A B,q,rfl,hq,by omega,?_⟩;have bb:=ZG (wh:=wh) (A:=A) (B:=B) (R:=Bd B30) (X:=aft 1 (at2 wh A B) q q) (qbp (qcS hA hB) bq bq) hA hB;exact⟨p,dx,h,A,B,aft 1 (at2 wh A B) q q,ls,wh,U1,U2,rfl,rfl,hw,hl,qaR hw hz qbo,bb.1,bb.2,htb,k⟩
def qe3 (K:W.Frag) (C tb:Addr):SpD:=fun es U Q=>∃ (p:Addr) (wh:Int) (q g:Pt),es=[.m p,.d (.int wh),.d (ptD q),.d (ptD g)]/\qix K C tb 2 p wh q g U Q
theorem qbF:FnScope ["self", "which", "point", "to"] ["self", "which", "point", "to"] (qq jU):=by trivial
theorem qfI (F:Fun K "step" "Keeper.step" jU f fd) (Oc:TxtK K C) (hX:NoX CX) (Oe:y3 P w K mg base CX 8 C "put" ["self", "which", "heap"] (yq K (qiS K C tb))) (Oz:Own P w K mg base CX 2 "stepped" ["heap", "point", "to"] (Zu (yq K qlZ) (yU K CN qmx))):FnOk P w K mg base CX 9 f fd ["self", "which", "point", "to"] (yq K (qe3 K C tb)):=by
 refine F.okD qbF (by trivial) (fun Oh A' outer s H E es U Q hr Oi=>?_);obtain⟨p,wh,q,g,e,dx,h,A,B,ls,U1,U2,e0,hw,hq,hl,hz,hA,hB,bq,hg,htb,k⟩:=Oi;subst e e0;have nd:=qbF.nd;refine⟨_,(qR (yd (Yz Oe hX hr.mo (dv 0) (qb (dv 1) (qb (yt Oz.l hX hr.mo rfl (qb (jg yc (Zn Oc.cl Oc.n_heaps (dv 0) rfl) (dv 1)) (qb (dv 2) (qb (dv 3) qj)))) qj))))),?_⟩;have mp:∀ o o',(p,o)∈U1++(h,o')::(p,o)::U2:=fun o o'=>qg _ (qd _ qi);have mh:∀ o o',(h,o')∈U1++(h,o')::(p,o)::U2:=fun o o'=>qg _ qi;have hz2:=Zr (wh:=wh) (A:=A) (B:=B);have hq:q∈at2 wh A B:=hq.resolve_left (by decide);refine⟨p,dx,_,rfl,mp _ _,Yw,p,dx,_,_,rfl,mp _ _,j8,_,_,mh _ _,Jx hw A B,at2 wh A B,q,g,rfl,hq,by omega,?_⟩;have bb:=ZG (wh:=wh) (A:=A) (B:=B) (R:=Bd B30) (X:=aft 2 (at2 wh A B) q g) (qbp (qcS hA hB) bq hg) hA hB;exact⟨p,dx,h,A,B,aft 2 (at2 wh A B) q g,ls,wh,U1,U2,rfl,rfl,hw,hl,qaR hw hz qbo,bb.1,bb.2,htb,k⟩
end K91
namespace K91
variable {g:Pt}{Q:En->Mu->Prop}
def qmy (C:Addr) (es:List En) (U:Mu):Prop:=∃ (p dx h:Addr) (A B:List Pt) (ls:List Ln) (wh:Int) (q:Pt),es=[.m p,.d (.int wh),.d (ptD q)]/\(p,KI C dx h ls)∈U/\(h,KH A B)∈U/\(wh=0\/wh=1)/\q∉at2 wh A B
theorem qkt (F:Fun K "go" "Keeper.go" JG f fd) (Oc:TxtK K C) (Oe:y3 P w K mg base (XC P w) 8 C "put" ["self", "which", "heap"] (yq K (qiS K C tb))) (OG:Own P w K mg base (XC P w) 2 "shrunk" ["heap", "point"] (Zu (yq K ql2) (yU K CN qfm))):FnOk P w K mg base (XC P w) 9 f fd ["self", "which", "point"] (yU K CN (qmy C)):=by
 refine okX F (N:=["self", "which", "point"]) ⟨rfl,rfl,rfl,by decide +kernel,rfl,by decide +kernel,by decide +kernel⟩ (fun vs H Q E h=>?_) (fun Oh A' outer s H vs Q E hr h=>?_)
 .obtain ⟨U,es,M,hp,⟨p,dx,h,A,B,ls,wh,q,rfl,_⟩,_⟩:=h;exact (PySem.Paired.length hp).trans rfl
 .obtain ⟨U,es,M,hp,⟨p,dx,h,A,B,ls,wh,q,rfl,hmp,hmh,hw,hq⟩,kE⟩:=h;obtain⟨g0,fd0,F0,c0,hm0,hb0⟩:=Oe;refine⟨_,jH (Zx (Z7 (E:=E) (dv (K:=K) 0) c0 hm0 F0 hr.mo hb0 .nil qdZ (yy (dv (K:=K) 1) (yy (qaW (E:=E) OG.r qdZ hr.mo rfl (qb (K:=K) (jg yc (Zn Oc.cl Oc.n_heaps (dv 0) rfl) (dv 1)) (qb (dv 2) qj))) Js)))),?_⟩;obtain⟨v1,vs,rfl,i1,hp2⟩:=JX hp;obtain⟨v2,vs,rfl,i2,hp2⟩:=JX hp2;obtain⟨v3,vs,rfl,i3,hp2⟩:=JX hp2;cases hp2
  have hS:RelS K [some (.m p),some (.d (.int wh)),some (.d (ptD q))] U (JT ["self", "which", "point"] [v1,v2,v3]) H:=Ze (K:=K) 0 hp;refine Yu (.m p) hS M ⟨rfl,rfl⟩ fun v H1 M1 s1 j1=>?_;have j1:v = .ref p:=j1;obtain⟨us,hv,pv⟩:=M1.ob p _ hmp;refine⟨p,dx,us,j1,hv,qaj pv Yw,?_⟩;refine Yu (.d (.int wh)) (hS.same s1) M1 ⟨rfl,rfl⟩ fun v H2 M2 s2 j2=>?_;exact qa3 ((hS.same s1).same s2) M2 ⟨p,dx,_,_,rfl,hmp,j8,_,_,hmh,Jx hw A B,rfl,at2 wh A B,q,rfl,hq⟩ fun H' M' s'=>kE H' M' ((s1.trans s2).trans s')
theorem qmS (F:Fun K "go" "Keeper.go" JG f fd) (Oc:TxtK K C) (hX:NoX (XC P w)) (Oe:y3 P w K mg base (XC P w) 8 C "put" ["self", "which", "heap"] (yq K (qiS K C tb))) (OG:Own P w K mg base (XC P w) 2 "shrunk" ["heap", "point"] (Zu (yq K ql2) (yU K CN qfm))):FnOk P w K mg base (XC P w) 9 f fd ["self", "which", "point"] (Zu (yq K (sGo K C tb)) (yU K CN (qmy C))):=(qku F Oc hX Oe OG).or (qkt F Oc Oe OG)
def qmw (C:Addr) (es:List En) (U:Mu):Prop:=∃ (p dx h:Addr) (A B:List Pt) (ls:List Ln) (wh:Int) (q g:Pt),es=[.m p,.d (.int wh),.d (ptD q),.d (ptD g)]/\(p,KI C dx h ls)∈U/\(h,KH A B)∈U/\(wh=0\/wh=1)/\q∉at2 wh A B
theorem qfH (F:Fun K "step" "Keeper.step" jU f fd) (Oc:TxtK K C) (Oe:y3 P w K mg base (XC P w) 8 C "put" ["self", "which", "heap"] (yq K (qiS K C tb))) (Oz:Own P w K mg base (XC P w) 2 "stepped" ["heap", "point", "to"] (Zu (yq K qlZ) (yU K CN qmx))):FnOk P w K mg base (XC P w) 9 f fd ["self", "which", "point", "to"] (yU K CN (qmw C)):=by
 refine okX F (N:=["self", "which", "point", "to"]) ⟨rfl,rfl,rfl,by decide +kernel,rfl,by decide +kernel,by decide +kernel⟩ (fun vs H Q E h=>?_) (fun Oh A' outer s H vs Q E hr h=>?_)
 .obtain ⟨U,es,M,hp,⟨p,dx,h,A,B,ls,wh,q,g,rfl,_⟩,_⟩:=h;exact (PySem.Paired.length hp).trans rfl
 .obtain ⟨U,es,M,hp,⟨p,dx,h,A,B,ls,wh,q,g,rfl,hmp,hmh,hw,hq⟩,kE⟩:=h;obtain⟨g0,fd0,F0,c0,hm0,hb0⟩:=Oe;refine⟨_,jH (Zx (Z7 (E:=E) (dv (K:=K) 0) c0 hm0 F0 hr.mo hb0 .nil qdZ (yy (dv (K:=K) 1) (yy (qaW (E:=E) Oz.r qdZ hr.mo rfl (qb (K:=K) (jg yc (Zn Oc.cl Oc.n_heaps (dv 0) rfl) (dv 1)) (qb (dv 2) (qb (dv 3) qj)))) Js)))),?_⟩;obtain⟨v1,vs,rfl,i1,hp2⟩:=JX hp;obtain⟨v2,vs,rfl,i2,hp2⟩:=JX hp2;obtain⟨v3,vs,rfl,i3,hp2⟩:=JX hp2;obtain⟨v4,vs,rfl,i4,hp2⟩:=JX hp2;cases hp2
  have hS:RelS K [some (.m p),some (.d (.int wh)),some (.d (ptD q)),some (.d (ptD g))] U (JT ["self", "which", "point", "to"] [v1,v2,v3,v4]) H:=Ze (K:=K) 0 hp;refine Yu (.m p) hS M ⟨rfl,rfl⟩ fun v H1 M1 s1 j1=>?_;have j1:v = .ref p:=j1;obtain⟨us,hv,pv⟩:=M1.ob p _ hmp;refine⟨p,dx,us,j1,hv,qaj pv Yw,?_⟩;refine Yu (.d (.int wh)) (hS.same s1) M1 ⟨rfl,rfl⟩ fun v H2 M2 s2 j2=>?_;exact qa3 ((hS.same s1).same s2) M2 ⟨p,dx,_,_,rfl,hmp,j8,_,_,hmh,Jx hw A B,rfl,at2 wh A B,q,g,rfl,hq⟩ fun H' M' s'=>kE H' M' ((s1.trans s2).trans s')
theorem qhN (F:Fun K "step" "Keeper.step" jU f fd) (Oc:TxtK K C) (hX:NoX (XC P w)) (Oe:y3 P w K mg base (XC P w) 8 C "put" ["self", "which", "heap"] (yq K (qiS K C tb))) (Oz:Own P w K mg base (XC P w) 2 "stepped" ["heap", "point", "to"] (Zu (yq K qlZ) (yU K CN qmx))):FnOk P w K mg base (XC P w) 9 f fd ["self", "which", "point", "to"] (Zu (yq K (qe3 K C tb)) (yU K CN (qmw C))):=(qfI F Oc hX Oe Oz).or (qfH F Oc Oe Oz)
def spLk (C:Addr):Sp:=fun vs H Q _=>∃ ea,vs=[.ref ea]/\H ea=some (qkX ea (.ref C))/\∀ H',yr H H'->Q (.bl true) H'
theorem qc7:FnScope ["_law_e", "_law_others"] ["_law_e"] (qq YE):=by trivial
theorem qhM (F:Fun K "_law_lacks" "_law_lacks" YE f fd) (T:TxtC K mg CL CN C1 C2 C3 C4 C5 C6 C7 C8):FnU P w K mg base (XC P w) 1 f fd ["_law_e"] (spLk CN):=by
 refine F.okU qc7 (fun vs H Q E h=>?_) (fun Oh A outer s H vs Q E hr h=>?_)
 .obtain ⟨ea,rfl,_⟩:=h;rfl
 .obtain ⟨ea,rfl,ee,k⟩:=h;have nd:=qc7.nd;refine⟨_,(jQ (Zw (i:=1) nd rfl (by trivial) (YV (qbh (K:=K) rfl) (by rfl) T.isinstance_ y9 (yy (pv 0) (yy (Z5 (yy (JW (v:=V.ref _) rfl T.cls_Empty rfl) (yy (JW (v:=V.ref _) rfl T.cls_NoLine rfl) (yy (JW (v:=V.ref _) rfl T.cls_NoText rfl) (yy (JW (v:=V.ref _) rfl T.cls_NoFlat rfl) (yy (JW (v:=V.ref _) rfl T.cls_NoShare rfl) (yy (JW (v:=V.ref _) rfl T.cls_NoRows rfl) (yy (JW (v:=V.ref _) rfl T.cls_NoRow rfl) (yy (JW (v:=V.ref _) rfl T.cls_NoName rfl) Js))))))))) Js))))
   (jH (Zx (qfz (YV (qbh (K:=K) rfl) (by rfl) T.isinstance_ y9 (yy (pv 0) (yy (JW (v:=V.ref _) rfl T.cls_Lacking rfl) Js))) (qfz (YV (qbh (K:=K) rfl) (by rfl) T.isinstance_ y9 (yy (pv 0) (yy (qfy (v:=V.ty "ValueError") rfl T.ValueError_ qbi rfl) Js))) (qi5 (qmB (pv 1)))))))),?_⟩
  refine⟨_,rfl,(by show 8<=sizeLine;decide),fun tp htp=>?_⟩;have sb:=yr.upd (o:=.tup [.ref C1,.ref C2,.ref C3,.ref C4,.ref C5,.ref C6,.ref C7,.ref C8]) htp;have eb:=sb _ _ ee;refine⟨ea,CN,_,false,rfl,eb,T.xc,.inr ⟨tp,_,_,rfl,qU,.cons rfl (.cons rfl (.cons rfl (.cons rfl (.cons rfl (.cons rfl (.cons rfl (.cons rfl .nil))))))),T.iA⟩,?_⟩;refine⟨_,rfl,ea,CN,_,true,rfl,eb,T.xc,.inl ⟨_,rfl,by simp[W.kitOne]⟩,_,rfl,ZO ?_⟩;refine⟨_,rfl,ea,CN,_,true,rfl,eb,T.xc,.inl ⟨_,rfl,T.iV⟩,_,rfl,ZO ?_⟩;exact⟨_,rfl,_,rfl,k _ sb⟩
def qiW (K:W.Frag) (C tb:Addr):SpD:=fun es U Q=>∃ (p:Addr) (way wh:Int) (q g:Pt),es=[.m p,.d (.int way),.d (.int wh),.d (ptD q),.d (ptD g)]/\(way=0\/way=1\/way=2)/\qix K C tb way p wh q g U fun e U'=>Q (.x (stT K [.d (.str "told"),e])) U'
theorem qjn (way:Int) (h:way=0\/way=1) (d:qix K C tb way p wh q g U Q):qix K C tb way p wh q q U Q:=by
 obtain⟨dx,h',A,B,ls,U1,U2,e0,hw,hq,hl,hz,hA,hB,bq,hg,htb,k⟩:=d;have e:∀ A,aft way A q q=aft way A q g:=fun A=>by
  unfold aft;rcases h with rfl | rfl
  .rfl
  .rfl
 exact⟨dx,h',A,B,ls,U1,U2,e0,hw,hq,hl,hz,hA,hB,bq,bq,htb,by rw[e];exact k⟩
theorem qan {Q':En->Mu->Prop}(h:∀ e U',Q e U'->Q' e U') (d:qix K C tb way p wh q g U Q):qix K C tb way p wh q g U Q':=by
 obtain⟨dx,h',A,B,ls,U1,U2,e0,hw,hq,hl,hz,hA,hB,bq,hg,htb,k⟩:=d;exact⟨dx,h',A,B,ls,U1,U2,e0,hw,hq,hl,hz,hA,hB,bq,hg,htb,fun ms a b c l1 l2=>h _ _ (k ms a b c l1 l2)⟩
theorem qla (d:qix K C tb way p wh q g U Q):∃ dx h ls,(p,KI C dx h ls)∈U:=by
 obtain⟨dx,h',A,B,ls,U1,U2,e0,_⟩:=d;exact⟨dx,h',ls,by rw[e0];simp⟩
theorem ZH:FnScope ["_law_keeper", "_law_way", "_law_which", "_law_point_here", "_law_goal", "_law_told", "_law_e"] ["_law_keeper", "_law_way", "_law_which", "_law_point_here", "_law_goal"] (qq JF):=by trivial
theorem qhT (F:Fun K "_law_done" "_law_done" JF f fd) (TC:TxtC K mg CL CN C1 C2 C3 C4 C5 C6 C7 C8) (hX:NoX CX) (Ol:y3 P w K mg base CX 9 C "come" ["self", "which", "point"] (yq K (qhn K C tb))) (Oo:y3 P w K mg base CX 9 C "go" ["self", "which", "point"] (Zu (yq K (sGo K C tb)) (yU K CN (qmy C)))) (Oj:y3 P w K mg base CX 9 C "step" ["self", "which", "point", "to"] (Zu (yq K (qe3 K C tb)) (yU K CN (qmw C)))):FnOk P w K mg base CX 10 f fd ["_law_keeper", "_law_way", "_law_which", "_law_point_here", "_law_goal"] (yq K (qiW K C tb)):=by
 refine F.okD ZH (by trivial) (fun Oh A' outer s H E es U Q hr Oi=>?_);obtain⟨p,way,wh,q,g,e,hw,d⟩:=Oi;subst e;have nd:=ZH.nd;refine⟨_,(qC (yM (i:=5) nd (Yr (qb qef (qb qno qj))))
   (qC (qk1 (i:=6) rfl rfl nd rfl rfl rfl TC.cls_LineError (fun _ _=>(qR (jz (yp (Yp hr.units) (dv 1) qH (yj _)) (qR (yM (i:=5) nd (qdB (qb qef (qb (Yz Ol hX hr.mo (dv 0) (qb (dv 2) (qb (dv 3) qj))) qj))))) (qR (jz (yp (Yp hr.units) (dv 1) qH (yj _)) (qR (yM (i:=5) nd (qdB (qb qef (qb (Yz Oo.l hX hr.mo (dv 0) (qb (dv 2) (qb (dv 3) qj))) qj))))) (qR (yM (i:=5) nd (qdB (qb qef (qb (Yz Oj.l hX hr.mo (dv 0) (qb (dv 2) (qb (dv 3) (qb (dv 4) qj)))) qj)))))))))))
   (qR (yd (dv 5))))),?_⟩
 obtain⟨dx,h,ls,hm⟩:=qla d;refine⟨zl2,?_⟩;rcases hw with rfl | rfl | rfl
 .exact ⟨p,dx,_,rfl,hm,Yw,p,wh,q,rfl,qjn 0 (.inl rfl) (qan (fun e U' h=>⟨zl2,h⟩) d)⟩
 .exact ⟨p,dx,_,rfl,hm,Yw,p,wh,q,rfl,qjn 1 (.inr rfl) (qan (fun e U' h=>⟨zl2,h⟩) d)⟩
 .exact ⟨p,dx,_,rfl,hm,Yw,p,wh,q,g,rfl,qan (fun e U' h=>⟨zl2,h⟩) d⟩
def qiV (K:W.Frag) (C:Addr):SpD:=fun es U Q=>∃ (p dx h:Addr) (A B:List Pt) (ls:List Ln) (way wh:Int) (q g:Pt),es=[.m p,.d (.int way),.d (.int wh),.d (ptD q),.d (ptD g)]/\(way=1\/way=2)/\(p,KI C dx h ls)∈U/\(h,KH A B)∈U/\(wh=0\/wh=1)/\q∉at2 wh A B/\Q (.x (stT K [.d (.str "lacking"),.d .none])) U
theorem qhS (F:Fun K "_law_done" "_law_done" JF f fd) (T:TxtC K mg CL CN C1 C2 C3 C4 C5 C6 C7 C8) (hX:NoX (XC P w)) (Ol:y3 P w K mg base (XC P w) 9 C "come" ["self", "which", "point"] (yq K (qhn K C tb))) (Oo:y3 P w K mg base (XC P w) 9 C "go" ["self", "which", "point"] (Zu (yq K (sGo K C tb)) (yU K CN (qmy C)))) (Oj:y3 P w K mg base (XC P w) 9 C "step" ["self", "which", "point", "to"] (Zu (yq K (qe3 K C tb)) (yU K CN (qmw C)))) (Os:qlF P w K mg base (XC P w) 1 "_law_lacks" ["_law_e"] (spLk CN)):FnOk P w K mg base (XC P w) 10 f fd ["_law_keeper", "_law_way", "_law_which", "_law_point_here", "_law_goal"] (yq K (qiV K C)):=by
 refine F.okG ZH (fun vs H Q E h=>?_) (fun Oh A' outer s H vs Q E hr h=>?_)
 .obtain ⟨U,es,Q0,M,hp,⟨p,dx,h,A,B,ls,way,wh,q,g,rfl,_⟩,_⟩:=h;exact (PySem.Paired.length hp).trans rfl
 .obtain ⟨U,es,Q0,M,hp,⟨p,dx,h,A,B,ls,way,wh,q,g,rfl,hway,hmp,hmh,hw,hq,k⟩,cl⟩:=h;obtain⟨g1,fd1,F1,c1,hm1,hb1⟩:=Oo.r;obtain⟨g2,fd2,F2,c2,hm2,hb2⟩:=Oj.r;have nd:=ZH.nd;refine⟨_,jQ (Zw (i:=5) nd rfl (.inl rfl) (Z5 (yy Z6 (yy qft Js))))
   (jQ (qi3 (i:=6) (k:=7) rfl rfl nd rfl rfl rfl rfl T.cls_LineError
    (fun E pn xe hp=>jH (qfi (yp (K:=K) (Yp hr.units) (dv 1) qH (yj _)) YU (jH (qfi (yp (K:=K) (Yp hr.units) (dv 1) qH (yj _))
     (jH (Zw (i:=5) nd rfl (.inl rfl) (Z5 (yy Z6 (yy (Z7 (E:=E) (dv (K:=K) 0) c1 hm1 F1 hr.mo hb1 .nil hp (qb (K:=K) (dv 2) (qb (dv 3) qj))) Js)))))
     (jH (Zw (i:=5) nd rfl (.inl rfl) (Z5 (yy Z6 (yy (Z7 (E:=E) (dv (K:=K) 0) c2 hm2 F2 hr.mo hb2 .nil hp (qb (K:=K) (dv 2) (qb (dv 3) (qb (dv 4) qj)))) Js)))))))))
    (fun ea=>jH (Zw (i:=5) nd rfl (.inl rfl) (Z5 (yy (qdf (qi2 (qka Os hX (RoomU.mark (hr.toU.mono (by decide))) rfl (yy (qde (i:=6) rfl (.inl rfl)) Js))) Z6 Z6) (yy qft Js))))))
    (jH (Zx (qde (i:=5) rfl (.inl rfl))))),?_⟩
  obtain⟨v1,vs,rfl,i1,hp2⟩:=JX hp;obtain⟨v2,vs,rfl,i2,hp2⟩:=JX hp2;obtain⟨v3,vs,rfl,i3,hp2⟩:=JX hp2;obtain⟨v4,vs,rfl,i4,hp2⟩:=JX hp2;obtain⟨v5,vs,rfl,i5,hp2⟩:=JX hp2;cases hp2
  have hS:RelS K [some (.m p),some (.d (.int way)),some (.d (.int wh)),some (.d (ptD q)),some (.d (ptD g)),none,none] U (JT ["_law_keeper", "_law_way", "_law_which", "_law_point_here", "_law_goal", "_law_told", "_law_e"] [v1,v2,v3,v4,v5]) H:=Ze (K:=K) 2 hp;have fin:∀ (H5:Hp),RelM K U H5->yr (mask U H) (mask U H5)->∀ ea,H5 ea=none->∀ H6,yr (upd H5 ea (qkX ea (.ref CN))) H6->∀ t1,H6 t1=none->Q (.ref t1) (upd H6 t1 (.tup [.str "lacking",.non])):=fun H5 M5 s5 ea hea H6 s6 t1 ht1=>by
   obtain⟨M6,z6,_⟩:=M5.laid (o:=qkX ea (.ref CN)) hea;obtain⟨M7,z7⟩:=M6.same s6;obtain⟨M8,z8,n8⟩:=M7.laid (o:=.tup [.str "lacking",.non]) ht1;exact cl _ U _ _ k M8 (((s5.trans z6).trans z7).trans z8) ⟨t1,_,rfl,SqT.of (by rw[yG n8];exact qU),.cons (IsE.nil (.str _)) (.cons (IsE.nil .non) .nil)⟩
  refine⟨sz2,fun t0 ht0=>?_⟩;obtain⟨M1,s1,n1⟩:=M.laid (o:=.tup [.str "other",.non]) ht0;have hS1:=(hS.same s1).set (i:=5) (v:=.ref t0) (e:=.d (.tuple [.str "other",.none])) (.tup (SqT.of (by rw[yG n1];exact qU)) (.cons (.str _) (.cons .non .nil)));rcases hway with rfl | rfl
  .refine YQ false hS1 M1 ⟨rfl,rfl⟩ fun H2 M2 s2=>YO ?_;refine YQ true (hS1.same s2) M2 ⟨rfl,rfl⟩ fun H3 M3 s3=>ZO ?_;refine Yu (.m p) ((hS1.same s2).same s3) M3 ⟨rfl,rfl⟩ fun v H4 M4 s4 j4=>?_;have j4:v = .ref p:=j4;obtain⟨us,hv,pv⟩:=M4.ob p _ hmp;refine⟨p,dx,us,j4,hv,qaj pv Yw,?_⟩;subst j4;refine qjd (e:=.m p) (fun _ _=>rfl) (((hS1.same s2).same s3).same s4) M4 ⟨rfl,p,dx,h,A,B,ls,wh,q,rfl,hmp,hmh,hw,hq⟩ fun H5 M5 s5=>⟨T.mL,fun ea hea=>?_⟩;refine⟨_,rfl,ea,rfl,qU,fun H6 s6=>⟨_,rfl,ZO ⟨sz2,fun t1 ht1=>⟨_,rfl,?_⟩⟩⟩⟩;exact fin H5 M5 ((((s1.trans s2).trans s3).trans s4).trans s5) ea hea H6 s6 t1 ht1
  .refine YQ false hS1 M1 ⟨rfl,rfl⟩ fun H2 M2 s2=>YO ?_;refine YQ false (hS1.same s2) M2 ⟨rfl,rfl⟩ fun H3 M3 s3=>YO ?_;refine Yu (.m p) ((hS1.same s2).same s3) M3 ⟨rfl,rfl⟩ fun v H4 M4 s4 j4=>?_;have j4:v = .ref p:=j4;obtain⟨us,hv,pv⟩:=M4.ob p _ hmp;refine⟨p,dx,us,j4,hv,qaj pv Yw,?_⟩;subst j4;refine qjd (e:=.m p) (fun _ _=>rfl) (((hS1.same s2).same s3).same s4) M4 ⟨rfl,p,dx,h,A,B,ls,wh,q,g,rfl,hmp,hmh,hw,hq⟩ fun H5 M5 s5=>⟨T.mL,fun ea hea=>?_⟩;refine⟨_,rfl,ea,rfl,qU,fun H6 s6=>⟨_,rfl,ZO ⟨sz2,fun t1 ht1=>⟨_,rfl,?_⟩⟩⟩⟩;exact fin H5 M5 ((((s1.trans s2).trans s3).trans s4).trans s5) ea hea H6 s6 t1 ht1
def ql7 (K:W.Frag) (C tb:Addr):SpD:=fun es U Q=>qiW K C tb es U Q\/qiV K C es U Q
theorem qky (F:Fun K "_law_done" "_law_done" JF f fd) (T:TxtC K mg CL CN C1 C2 C3 C4 C5 C6 C7 C8) (hX:NoX (XC P w)) (Ol:y3 P w K mg base (XC P w) 9 C "come" ["self", "which", "point"] (yq K (qhn K C tb))) (Oo:y3 P w K mg base (XC P w) 9 C "go" ["self", "which", "point"] (Zu (yq K (sGo K C tb)) (yU K CN (qmy C)))) (Oj:y3 P w K mg base (XC P w) 9 C "step" ["self", "which", "point", "to"] (Zu (yq K (qe3 K C tb)) (yU K CN (qmw C)))) (Os:qlF P w K mg base (XC P w) 1 "_law_lacks" ["_law_e"] (spLk CN)):FnOk P w K mg base (XC P w) 10 f fd ["_law_keeper", "_law_way", "_law_which", "_law_point_here", "_law_goal"] (yq K (ql7 K C tb)):=by
 refine FnOk.imp ((qhT F T hX Ol Oo Oj).or (qhS F T hX Ol Oo Oj Os)) fun vs H Q E h=>?_;obtain⟨U,es,Q0,M,hp,hs,cl⟩:=h;rcases hs with hs | hs
 .exact .inl ⟨U,es,Q0,M,hp,hs,cl⟩
 .exact .inr ⟨U,es,Q0,M,hp,hs,cl⟩
end K91
namespace K91
theorem qeW:FnScope ["_law_one", "_law_other"] ["_law_one", "_law_other"] (qq JU):=by trivial
theorem qkr (F:Fun K "_law_divisor" "_law_divisor" JU f fd) (T:Txt mg):FnOk P w K mg base CX 1 f fd ["_law_one", "_law_other"] (yq K qnM):=by
 refine F.okD qeW (by trivial) (fun Oh A outer s H E es U Q hr Oi=>?_);obtain⟨a,b,e,k⟩:=Oi;subst e;have nd:=qeW.nd;refine⟨_,(qC (qaH (i:=0) (j:=1) rfl nd rfl rfl (by decide) rfl rfl (qb (yA qaJ (by rfl) T.abs_ qaM (qb (dv 0) qj)) (qb (yA qaJ (by rfl) T.abs_ qaM (qb (dv 1) qj)) qj)) rfl)
   (qC (qdw PassesOwn.never (yp (qbd hr.units) (dv 1) qH (yj _)) (qR (qaH (i:=0) (j:=1) rfl nd rfl rfl (by decide) rfl rfl (qb (dv 1) (qb (yS qdy (dv 0) (dv 1)) qj)) rfl)))
   (qR (yd (dv 0))))),?_⟩
 refine⟨fun m O' U'=>U'=U/\∃ f r:Nat,O'=[some (.d (.int f)),some (.d (.int r))]/\m=r/\Nat.gcd f r=Int.gcd a b,⟨_,rfl,_,_,rfl,rfl,rfl⟩,?_⟩;rintro m O' U' ⟨rfl,f,r,rfl,rfl,g⟩;refine JR (fun c=>?_) (fun c=>?_)
 .have hm:m≠0:=by
   rintro rfl;exact absurd c (by decide)
  refine⟨(show (0:Int)<(m:Int) by lia),f % m,Nat.mod_lt _ (by lia),Wks.of ⟨rfl,m,f % m,?_,rfl,by rw[qdr];exact g⟩⟩;rw[Int.natCast_emod];rfl
 .have:m=0:=by
   by_cases z:m=0
   .exact z
   .exact absurd (show (!decide ((m:Int)=0))=true by simp;lia) c
  subst this;rw[Nat.gcd_zero_right] at g;subst g;exact k
def sLL:SpD:=fun es U Q=>∃ p q:Pt,es=[.d (ptD p),.d (ptD q)]/\Bd B30 p/\Bd B30 q/\p≠q/\Q (.d (lnD (JY (p,q)))) U
theorem qeU:FnScope ["_law_one", "_law_other", "_law_a", "_law_b", "_law_by"] ["_law_one", "_law_other"] (qq Za):=by trivial
theorem qkp (F:Fun K "_law_line" "_law_line" Za f fd) (hX:NoX CX) (OI:Own P w K mg base CX 1 "_law_divisor" ["_law_one", "_law_other"] (yq K qnM)):FnOk P w K mg base CX 3 f fd ["_law_one", "_law_other"] (yq K sLL):=by
 refine F.okD qeU (by trivial) (fun Oh A outer s H E es U Q hr Oi=>?_);obtain⟨p,q,e,hp,hq,h0,k⟩:=Oi;subst e;have nd:=qeU.nd;refine⟨_,(qC (qaH (i:=2) (j:=3) rfl nd rfl rfl (by decide) rfl rfl (qb (yS Jj (jg yc (dv 1) qH) (jg yc (dv 0) qH)) (qb (yS Jj (jg yc (dv 0) qH) (jg yc (dv 1) qH)) qj)) rfl)
   (qC (yM (i:=4) nd (yt OI hX hr.mo rfl (qb (dv 2) (qb (dv 3) qj))))
   (qC (jz (qcg (qeb (yp qbe (dv 2) qH (yj _)) (qaG (qcg (Ym (yp (Yp hr.units) (dv 2) qH (yj _)) (JB (yp qbe (dv 3) qH (yj _)))))))) (qR (yM (i:=4) nd (qjp Zz (dv 4)))) yW)
   (qC (qaH (i:=2) (j:=3) rfl nd rfl rfl (by decide) rfl rfl (qb (yS qal (dv 2) (dv 4)) (qb (yS qal (dv 3) (dv 4)) qj)) rfl)
   (qR (yd (Yr (qb (dv 2) (qb (dv 3) (qb (yS Jv (yS je (dv 2) (jg yc (dv 0) qH)) (yS je (dv 3) (jg yc (dv 0) qH))) qj)))))))))),?_⟩
 have hb:Bd 2000000000000000000000000000000 (nO p q):=qi9 hp hq h0;have h1:=Zh hq.2 hp.2;have h2:=Zh hp.1 hq.1;have hd:=qgF h0;have d0:=Zy hd;have dB:(dvs (q.2 - p.2) (p.1 - q.1)).natAbs<=B40:=by rw[qcE];exact qbX hd (qt h1 (by decide)) (qt h2 (by decide))
 have dC:∀ z,qg1 z (dvs (q.2 - p.2) (p.1 - q.1)):=fun z=>qa9 b40 d0 dB;have m1:qbr (nO p q).1 p.1:=YY (qt hb.1 (by decide)) (qt hp.1 (by decide));have m2:qbr (nO p q).2 p.2:=YY (qt hb.2 (by decide)) (qt hp.2 (by decide));refine⟨_,rfl,_,rfl,_,rfl,_,rfl,_,_,rfl,?_⟩;dsimp only[yb,List.map_nil,yl,List.length_nil,List.set_cons_zero,List.set_cons_succ];refine JR (fun c=>?_) (fun c=>?_)
 .have c:q.2 - p.2<0:=qJ c;refine ZO ?_;have e:-(Int.gcd (q.2 - p.2) (p.1 - q.1):Int)=dvs (q.2 - p.2) (p.1 - q.1):=by unfold dvs;rw[if_pos (.inl c)]
  exact⟨by rw[e];exact dC _,by rw[e];exact dC _,_,rfl,by rw[e];exact m1,_,rfl,by rw[e];exact m2,zl3,by rw[e];exact k⟩
 .have c:¬ q.2 - p.2<0:=fun z=>c (qN z);refine JR (fun c2=>?_) (fun c2=>?_)
  .have c2:q.2 - p.2=0:=qJ c2;refine JR (fun c3=>?_) (fun c3=>?_)
   .have c3:p.1 - q.1<0:=qJ c3;have e:-(Int.gcd (q.2 - p.2) (p.1 - q.1):Int)=dvs (q.2 - p.2) (p.1 - q.1):=by unfold dvs;rw[if_pos (.inr ⟨c2,c3⟩)]
    exact⟨by rw[e];exact dC _,by rw[e];exact dC _,_,rfl,by rw[e];exact m1,_,rfl,by rw[e];exact m2,zl3,by rw[e];exact k⟩
   .have c3:¬ p.1 - q.1<0:=fun z=>c3 (qN z);have e:(Int.gcd (q.2 - p.2) (p.1 - q.1):Int)=dvs (q.2 - p.2) (p.1 - q.1):=by unfold dvs;rw[if_neg (by lia)]
    rw[e];exact⟨dC _,dC _,_,rfl,m1,_,rfl,m2,zl3,k⟩
  .have c2:¬ q.2 - p.2=0:=fun z=>c2 (qN z);have e:(Int.gcd (q.2 - p.2) (p.1 - q.1):Int)=dvs (q.2 - p.2) (p.1 - q.1):=by unfold dvs;rw[if_neg (by lia)]
   refine YO ?_;rw[e];exact⟨dC _,dC _,_,rfl,m1,_,rfl,m2,zl3,k⟩
def qiU:SpD:=fun es U Q=>∃ l m:Ln,es=[.d (lnD l),.d (lnD m)]/\Bd B40 l.1/\Bd B40 m.1/\Q (.d (.bool (decide (Ahd l m)))) U
theorem qdb:FnScope ["_law_one", "_law_other", "_law_across"] ["_law_one", "_law_other"] (qq jG):=by trivial
theorem qhR (F:Fun K "_law_comes_first" "_law_comes_first" jG f fd):FnOk P w K mg base CX 1 f fd ["_law_one", "_law_other"] (yq K qiU):=by
 refine F.okD qdb (by trivial) (fun Oh A outer s H E es U Q hr Oi=>?_);obtain⟨l,m,e,hl,hm,k⟩:=Oi;subst e;have nd:=qdb.nd;refine⟨_,(qC (yM (i:=2) nd (yS Jj (yS je (jg yc (dv 0) qH) (jg yc (dv 1) qH)) (yS je (jg yc (dv 0) qH) (jg yc (dv 1) qH))))
   (qC (jz (yp (qbd hr.units) (dv 2) qH (yj _)) (qR (yd (qbg qcF (dv 2) qH (yj _)))) yW)
   (qR (yd (qbg qbe (jg yc (dv 0) qH) (jg yc (dv 1) qH) (yj _)))))),?_⟩
 refine⟨_,rfl,_,rfl,YY hl.1 hm.2,_,rfl,_,rfl,YY hl.2 hm.1,?_⟩;refine JR (fun c=>?_) (fun c=>?_)
 .have c:¬ crs l.1 m.1=0:=fun z=>by
   have c:(!decide (crs l.1 m.1=0))=true:=c;rw[z] at c;exact absurd c (by decide)
  have e:decide (Ahd l m)=decide (0<crs l.1 m.1):=by
   rw[decide_eq_decide];unfold Ahd;lia
  rw[e] at k;exact k
 .have c:crs l.1 m.1=0:=by
   by_cases z:crs l.1 m.1=0
   .exact z
   .exact absurd (show (!decide (crs l.1 m.1=0))=true by simp[z]) c
  have e:decide (Ahd l m)=decide (l.2<m.2):=by
   rw[decide_eq_decide];unfold Ahd;lia
  rw[e] at k;exact⟨_,rfl,_,rfl,k⟩
def sOrd:SpD:=fun es U Q=>∃ ls:List Ln,es=[.d (.list (ls.map lnD))]/\ls.Nodup/\(∀ l∈ls,IsN l.1/\Bd B40 l.1)/\ls.length<=4000/\∀ ms:List Ln,ms.Perm ls->ms.Pairwise Ahd->Q (.d (.list (ms.map lnD))) U
theorem qiH:FnScope ["_law_lines", "_law_found", "_law_line_here"] ["_law_lines"] (qq jP):=by trivial
theorem qmN (F:Fun K "_law_in_order" "_law_in_order" jP f fd) (T:Txt mg) (hX:NoX CX) (Ou:Own P w K mg base CX 1 "_law_comes_first" ["_law_one", "_law_other"] (yq K qiU)):FnOk P w K mg base CX 2 f fd ["_law_lines"] (yq K sOrd):=by
 refine F.okD qiH (by trivial) (fun Oh A outer s H E es U Q hr Oi=>?_);obtain⟨ls,e,hnd,hls,hlen,k⟩:=Oi;subst e;have nd:=qiH.nd;obtain⟨ms,pm,sm⟩:=qdL (fun l hl=>(hls l hl).1) hnd;have kk:=k ms pm sm;have hml:ms.length=ls.length:=pm.length_eq;have nm:ms.Nodup:=Y4 sm;refine⟨_,(qC (yM (i:=1) nd (yS qk4 (Y1 (qb qno qj)) (yA Ye (by rfl) T.len_ JO (qb (dv 0) qj))))
   (qC (Yn PassesOwn.never rfl (jA (dv 0)) (ji (i:=2) nd) (qR (Ju (dv 2) (qgI (dv 1) (yA Ye (by rfl) T.len_ JO (qb (ZB (L:=["_law_other"]) (sc:=qq jP) (N:=["_law_lines", "_law_found", "_law_line_here"]) rfl rfl rfl (by decide +kernel) (jA (dv 0)) (fun _ _ _ _ _=>(yX (i:=3) (show List.Nodup (["_law_lines", "_law_found", "_law_line_here", "_law_other"]:List Str) from by decide +kernel) rfl (by trivial))) (fun _ _ _ _ _=>(YL (Yc (yt Ou hX hr.mo rfl (qb (dv 3) (qb (dv 2) qj)))))) (fun _ _ _ _ _=>(dv 3))) qj))))))
   (qR (Zk (dv 1))))),?_⟩
 have hl2:(ls.map lnD).length=ls.length:=qc ..;refine⟨zl1,_,.l (.d _),[.none],_,.d _,rfl,?_,(by simp),?_,fun p hp=>?_⟩
 .lia
 .rw [hl2];simp;lia
 refine⟨_,.d _,?_⟩;refine forL (fun i O' U'=>(∃ fs:List PyData,U'=(p,.lst fs)::U/\fs.length=ls.length/\∀ (j:Nat) (m:Ln),ms[j]?=some m->(m∈ls.take i->fs[j]?=some (lnD m)))/\∃ v,O'=[some (.d (.list (ls.map lnD))),some (.m p),v]) ⟨⟨_,rfl,?_,?_⟩,_,rfl⟩ (fun _ _ _ _=>.d _) ?_ ?_
 .rw [hl2];simp
 .intro j m _ h;simp at h
 .rintro i x O' U' hx ⟨⟨fs,rfl,hf,hfs⟩,v,rfl⟩;rw[qK] at hx;obtain⟨l,hl,rfl⟩:=Option.map_eq_some_iff.mp hx;have hlm:=List.mem_of_getElem? hl;refine⟨_,.d _,(show (ls.map lnD).length<=4000 by lia),qaL (as:=ls) (h:=lnD) (fun o=>decide (Ahd o l)) lnD (Src.l (.d _)) (fun o ho R h=>⟨o,l,rfl,(hls o ho).2,(hls l hlm).2,h⟩) (fun o ho _ R h=>h) ?_⟩;obtain⟨j,hj⟩:=List.mem_iff_getElem?.mp (pm.mem_iff.mpr hlm);have hjl:j<ms.length:=(qm.mp hj).1;have er:((ls.filter fun o=>decide (Ahd o l)).map lnD).length=j:=by
   rw[qc,<- List.countP_eq_length_filter,<- pm.countP_eq];exact qis sm hj
  refine⟨_,.l (.d _),[],U,fs,rfl,(by lia),?_,Wks.of ⟨⟨_,rfl,?_,?_⟩,_,rfl⟩⟩
  .show Int.toNat (((ls.filter fun o=>decide (Ahd o l)).map lnD).length:Int)<_;rw[er];lia
  .rw [List.length_set];exact hf
  .intro j' m hm hin;show (fs.set (Int.toNat (((ls.filter fun o=>decide (Ahd o l)).map lnD).length:Int)) (lnD l))[j']?=_;rw[er,Int.toNat_natCast];by_cases c:j=j'
   .subst c;rw[hj] at hm;cases hm
    rw[List.getElem?_set_self (by lia)]
   .rw [yI c];refine hfs j' m hm ?_;rw[jS hl] at hin;rcases qB.mp hin with h | h
    .exact h
    .rw [qE.mp h] at hm;exfalso;obtain⟨h1,e1⟩:=qm.mp hj;obtain⟨h2,e2⟩:=qm.mp hm;exact c ((List.getElem_inj nm).mp (e1.trans e2.symm))
 .rintro O' U' ⟨⟨fs,rfl,hf,hfs⟩,v,rfl⟩;have e:fs=ms.map lnD:=by
   apply List.ext_getElem?;intro j;rw[qK];cases q:ms[j]? with
   | none =>
    have:=List.getElem?_eq_none_iff.mp q;exact List.getElem?_eq_none_iff.mpr (by lia)
   | some m =>
    refine hfs j m q ?_;rw[hl2,jk];exact pm.mem_iff.mp (List.mem_of_getElem? q)
  subst e;exact⟨_,_,FzR.list1,kk⟩
theorem mulL {l:Ln}(hb:LBd l) (hq:Bd B30 q):qbr l.1.1 q.1/\qbr l.1.2 q.2:=⟨YY (qt hb.1.1 (by decide)) (qt hq.1 (by decide)),YY (qt hb.1.2 (by decide)) (qt hq.2 (by decide))⟩
def sLH:SpD:=fun es U Q=>∃ (l:Ln) (ps:List Pt),es=[.d (lnD l),.d (hpD ps)]/\LBd l/\Bds ps/\ps.length<=50/\Q (.d (.bool (qbs l.2 (vls l.1 ps)))) U
theorem qiK:FnScope ["_law_line_here", "_law_heap_here", "_law_a", "_law_b", "_law_c", "_law_less", "_law_more"] ["_law_line_here", "_law_heap_here"] (qq jT):=by trivial
theorem qmQ (F:Fun K "_law_halves" "_law_halves" jT f fd) (T:Txt mg):FnOk P w K mg base CX 1 f fd ["_law_line_here", "_law_heap_here"] (yq K sLH):=by
 refine F.okD qiK (by trivial) (fun Oh A outer s H E es U Q hr Oi=>?_);obtain⟨l,ps,e,hb,hp,hl,k⟩:=Oi;subst e;have nd:=qiK.nd;refine⟨_,(qC (Ju (dv 0) (Jw (n:=3) rfl (ye (ji (i:=2) nd) (ye (ji (i:=3) nd) (ye (ji (i:=4) nd) jB)))))
   (qC (yM (i:=5) nd (yA Ye (by rfl) T.len_ JO (qb (ZB (L:=["_law_x", "_law_y"]) (sc:=qq jT) (N:=["_law_line_here", "_law_heap_here", "_law_a", "_law_b", "_law_c", "_law_less", "_law_more"]) rfl rfl rfl (by decide +kernel) (jA (dv 1)) (fun _ _ _ _ _=>(Jw (n:=2) rfl (ye (yX (i:=7) (show List.Nodup (["_law_line_here", "_law_heap_here", "_law_a", "_law_b", "_law_c", "_law_less", "_law_more", "_law_x", "_law_y"]:List Str) from by decide +kernel) rfl (by trivial)) (ye (yX (i:=8) (show List.Nodup (["_law_line_here", "_law_heap_here", "_law_a", "_law_b", "_law_c", "_law_less", "_law_more", "_law_x", "_law_y"]:List Str) from by decide +kernel) rfl (by trivial)) jB)))) (fun _ _ _ _ _=>(YL (yp qbe (yS Jv (yS je (dv 2) (dv 7)) (yS je (dv 3) (dv 8))) (dv 4) (yj _)))) (fun _ _ _ _ _=>qH)) qj)))
   (qC (yM (i:=6) nd (yA Ye (by rfl) T.len_ JO (qb (ZB (L:=["_law_x", "_law_y"]) (sc:=qq jT) (N:=["_law_line_here", "_law_heap_here", "_law_a", "_law_b", "_law_c", "_law_less", "_law_more"]) rfl rfl rfl (by decide +kernel) (jA (dv 1)) (fun _ _ _ _ _=>(Jw (n:=2) rfl (ye (yX (i:=7) (show List.Nodup (["_law_line_here", "_law_heap_here", "_law_a", "_law_b", "_law_c", "_law_less", "_law_more", "_law_x", "_law_y"]:List Str) from by decide +kernel) rfl (by trivial)) (ye (yX (i:=8) (show List.Nodup (["_law_line_here", "_law_heap_here", "_law_a", "_law_b", "_law_c", "_law_less", "_law_more", "_law_x", "_law_y"]:List Str) from by decide +kernel) rfl (by trivial)) jB)))) (fun _ _ _ _ _=>(YL (yp qcF (yS Jv (yS je (dv 2) (dv 7)) (yS je (dv 3) (dv 8))) (dv 4) (yj _)))) (fun _ _ _ _ _=>qH)) qj)))
   (qR (yd (qlk (qbg qie (yS je qH (dv 5)) (yA Ye (by rfl) T.len_ JO (qb (dv 1) qj)) (yj _)) (qle (qbg qie (yS je qH (dv 6)) (yA Ye (by rfl) T.len_ JO (qb (dv 1) qj)) (yj _))))))))),?_⟩
 have hl2:(ps.map ptD).length=ps.length:=qc ..;have hl3:(ps.map ptD).length<=4000:=by lia
 refine⟨rfl,_,.d _,hl3,qjw (as:=ps) (fun q=>decide (vl l.1 q<l.2)) (fun _=>.int 1) (Src.l (.d _)) (fun q hq R h=>?_) (fun q hq _ R h=>h) ?_⟩
 .have m:=mulL hb (hp q hq);exact⟨m.1,m.2,h⟩
 refine⟨_,.l (.d _),_,.d _,hl3,qjw (as:=ps) (fun q=>decide (l.2<vl l.1 q)) (fun _=>.int 1) (Src.l (.d _)) (fun q hq R h=>?_) (fun q hq _ R h=>h) ?_⟩
 .have m:=mulL hb (hp q hq);exact⟨m.1,m.2,h⟩
 have c1:((ps.filter fun q=>decide (vl l.1 q<l.2)).map fun _=>PyData.int 1).length=cLt l.2 (vls l.1 ps):=by rw[qc,<- List.countP_eq_length_filter];unfold cLt vls;rw[List.countP_map];rfl
 have c2:((ps.filter fun q=>decide (l.2<vl l.1 q)).map fun _=>PyData.int 1).length=cGt l.2 (vls l.1 ps):=by rw[qc,<- List.countP_eq_length_filter];unfold cGt vls;rw[List.countP_map];rfl
 have hv:=qew l.1 ps;have d1:cLt l.2 (vls l.1 ps)<=ps.length:=by rw[<- hv];exact List.countP_le_length
 have d2:cGt l.2 (vls l.1 ps)<=ps.length:=by rw[<- hv];exact List.countP_le_length
 unfold qbs at k;rw[hv] at k;refine⟨_,.l (.d _),?_⟩;rw[c1,c2];have e1:∀ n:Nat,decide (2 * (n:Int)<=(((ps.map ptD).length:Nat):Int))=decide (2 * n<=ps.length):=fun n=>by rw[decide_eq_decide,hl2];lia
 refine⟨YY (by decide) (qt (show ((cLt l.2 (vls l.1 ps):Nat):Int).natAbs<=50 by lia) (by decide)),_,.l (.d _),JR (fun z=>?_) (fun z=>?_)⟩
 .refine ⟨YY (by decide) (qt (show ((cGt l.2 (vls l.1 ps):Nat):Int).natAbs<=50 by lia) (by decide)),_,.l (.d _),?_⟩;have z:decide (2 * ((cLt l.2 (vls l.1 ps):Nat):Int)<=(((ps.map ptD).length:Nat):Int))=true:=z;show Q (.d (.bool (decide (2 * ((cGt l.2 (vls l.1 ps):Nat):Int)<=(((ps.map ptD).length:Nat):Int))))) U;rw[e1] at z ⊢;rw[z,Bool.true_and] at k;exact k
 .have z:¬ decide (2 * ((cLt l.2 (vls l.1 ps):Nat):Int)<=(((ps.map ptD).length:Nat):Int))=true:=z;have z:=Bool.eq_false_iff.mpr z;rw[e1] at z;rw[z,Bool.false_and] at k;exact k
def qat (A B:List Pt) (x:List Int):Prop:=∃ l,Alls A B l/\x=lnK l
def hv2 (A B:List Pt) (p q:Pt):Bool:=qbs (vl (nO p q) p) (vls (nO p q) A) && qbs (vl (nO p q) p) (vls (nO p q) B)
theorem qk0 {A:List Pt}{p:Pt}(hp:p∈A++B) (hq:q∈A++B) (hne:p≠q):qat A B (lnK (JY (p,q))) ↔ hv2 A B p q=true:=by
 unfold hv2;rw[ym];constructor
 .rintro ⟨l,hl,e⟩;obtain rfl:=qcx e;exact hl.2
 .exact fun h=>⟨_,⟨qa4 hp hq hne,h⟩,rfl⟩
theorem qja {R:Ln->Prop}:∀ {ks:List (List Int)},(∀ x∈ks,∃ l,R l/\x=lnK l)->∃ ls:List Ln,ks=ls.map lnK/\∀ l∈ls,R l
 | [],_=>⟨[],rfl,fun _ h=>nomatch h⟩
 | x::ks,h=>by
  obtain⟨ls,e,hr⟩:=qja (ks:=ks) fun y hy=>h y (qd _ hy);obtain⟨l,hl,rfl⟩:=h x qi;exact⟨l::ls,by rw[e];rfl,fun m hm=>by
   rcases qG.mp hm with rfl | hm
   .exact hl
   .exact hr m hm⟩
def sLA:SpD:=fun es U Q=>∃ A B:List Pt,es=[.d (hpD A),.d (hpD B)]/\A.length+B.length<=44/\Bds A/\Bds B/\∀ ms,qg8 A B ms->Q (.d (.list (ms.map lnD))) U
theorem qlV:FnScope ["_law_one", "_law_other", "_law_some", "_law_found", "_law_k", "_law_point_here", "_law_ahead", "_law_line_here"] ["_law_one", "_law_other"] (qq Z3):=by trivial
theorem ok_la (F:Fun K "_law_all" "_law_all" Z3 f fd) (T:Txt mg) (hX:NoX CX) (OL:Own P w K mg base CX 3 "_law_line" ["_law_one", "_law_other"] (yq K sLL)) (OC:Own P w K mg base CX 1 "_law_halves" ["_law_line_here", "_law_heap_here"] (yq K sLH)) (OF:Own P w K mg base CX 2 "_law_in_order" ["_law_lines"] (yq K sOrd)):FnOk P w K mg base CX 5 f fd ["_law_one", "_law_other"] (yq K sLA):=by
 refine F.okD qlV (by trivial) (fun Oh A' outer s H E es U Q hr Oi=>?_);obtain⟨A,B,e,hl,hA,hB,k⟩:=Oi;subst e;have nd:=qlV.nd;refine⟨_,(qC (yM (i:=2) nd (yS jV (dv 0) (dv 1)))
   (qC (yM (i:=3) nd (qlg (P:=P) (w:=w)))
   (qC (Yn PassesOwn.never rfl (qgH rfl T.enumerate_ (qb (dv 2) qj)) (Jw (n:=2) rfl (ye (ji (i:=4) nd) (ye (ji (i:=5) nd) jB))) (qR (Yn PassesOwn.never rfl (jA (Jk (dv 2) Ji (Jh (dv 4)))) (ji (i:=6) nd) (qR (jz (qcg (Ym (yp (qbd hr.units) (dv 6) (dv 5) (yj _)) (JB (yp (qgE (P:=P) (w:=w) (K:=K) hr.u66) (yt OL hX hr.mo rfl (qb (dv 6) (qb (dv 5) qj))) (dv 3) rfl)))) (qC (yM (i:=7) nd (yt OL hX hr.mo rfl (qb (dv 6) (qb (dv 5) qj))))
   (qR (jz (qcg (Ym (Yc (yt OC hX hr.mo rfl (qb (dv 7) (qb (dv 0) qj)))) (JB (Yc (yt OC hX hr.mo rfl (qb (dv 7) (qb (dv 1) qj))))))) (qR (Ju qjq ((qk8 (P:=P) (w:=w) hr.u66) (dv 3) (dv 7)))) yW))) yW)))))
   (qR (Zk (yt OF hX hr.mo rfl (qb (jR (qih (P:=P) (w:=w) (K:=K) rfl) (by rfl) T.list_ Jm (qb (dv 3) qj)) qj))))))),?_⟩
 have la:(A.map ptD).length=A.length:=qc ..;have lb:(B.map ptD).length=B.length:=qc ..;refine⟨_,_,.d _,.d _,by lia,fun d hd=>⟨_,.d _,?_⟩⟩;rw[<- qI];have bd:Bds (A++B):=fun z hz=>by
  rcases qB.mp hz with h | h
  .exact hA z h
  .exact hB z h
 have hlen:(A++B).length<=44:=by rw[qv];exact hl
 have due:=fun {p q:Pt}=>qk0 (A:=A) (B:=B) (p:=p) (q:=q);generalize eqs:A++B=qs at *;have hql:(qs.map ptD).length=qs.length:=qc ..;refine forE (fun i O' U'=>∃ ks:List (List Int),U'=DM P w K d ks::U/\ks.Nodup/\(∀ x∈ks,qat A B x)/\(∀ a b (ha:a<qs.length) (hb:b<qs.length),b<a->a<i->qs[b]≠qs[a]->qat A B (lnK (JY (qs[b],qs[a])))->lnK (JY (qs[b],qs[a]))∈ks)/\2 * ks.length<=i * i/\∃ v4 v5 v6 v7,O'=[some (.d (hpD A)),some (.d (hpD B)),some (.d (hpD qs)),some (.m d),v4,v5,v6,v7])
  ⟨[],rfl,List.nodup_nil,fun _ h=>(nomatch h),fun a b _ _ _ h=>absurd h (by lia),qo _,_,_,_,_,rfl⟩ (fun _ _ _ _=>.d _) ?_ ?_
 .rintro i x O' U' hx ⟨ks,rfl,h0,h1,h2,h3,v4,v5,v6,v7,rfl⟩;rw[qK] at hx;obtain⟨r,hr1,rfl⟩:=Option.map_eq_some_iff.mp hx;obtain⟨hi,er⟩:=qm.mp hr1;have mr:r∈qs:=List.mem_of_getElem? hr1;have ii:i * i<=43 * 43:=jW (by lia) (by lia);have sq:(i+1) * (i+1)=i * i+2 * i+1:=by grind
  have ecut:ZT (qs.map ptD) none (some (i:Int))=(qs.take i).map ptD:=by rw[qdE _ _ (by lia),List.map_take]
  refine⟨rfl,_,.d _,_,.d _,?_⟩;refine forL (fun j O' U'=>∃ ks:List (List Int),U'=DM P w K d ks::U/\j<=i/\ks.Nodup/\(∀ x∈ks,qat A B x)/\(∀ a b (ha:a<qs.length) (hb:b<qs.length),b<a->(a<i\/(a=i/\b<j))->qs[b]≠qs[a]->qat A B (lnK (JY (qs[b],qs[a])))->lnK (JY (qs[b],qs[a]))∈ks)/\2 * ks.length<=i * i+2 * j/\∃ v6 v7,O'=[some (.d (hpD A)),some (.d (hpD B)),some (.d (hpD qs)),some (.m d),some (.d (.int (i:Int))),some (.d (ptD r)),v6,v7])
   ⟨ks,rfl,qZ _,h0,h1,fun a b ha hb hab h=>h2 a b ha hb hab (by rcases h with h | ⟨_,h⟩ <;> lia),by lia,_,_,rfl⟩ (fun _ _ _ _=>.d _) ?_ ?_
  .rintro j x O' U' hx ⟨ks,rfl,hj0,g0,g1,g2,g3,v6,v7,rfl⟩;rw[ecut,qK] at hx;obtain⟨q,hq,rfl⟩:=Option.map_eq_some_iff.mp hx;have hj:j<(qs.take i).length:=(qm.mp hq).1;have hj2:j<i:=by rw[yw] at hj;lia
   have eq:qs[j]'(by lia)=q:=by
    have:=(qm.mp hq).2;rw[List.getElem_take] at this;exact this
   have mq:q∈qs:=jm (List.mem_of_getElem? hq);dsimp only[List.set_cons_zero,List.set_cons_succ];have key:∀ (ks':List (List Int)) (v7':Option En),ks'.Nodup->(∀ x∈ks,x∈ks')->(∀ x∈ks',qat A B x)->(q≠r->qat A B (lnK (JY (q,r)))->lnK (JY (q,r))∈ks')->ks'.length<=ks.length+1 →
     Wks (fun O' U'=>∃ ks:List (List Int),U'=DM P w K d ks::U/\j+1<=i/\ks.Nodup/\(∀ x∈ks,qat A B x)/\(∀ a b (ha:a<qs.length) (hb:b<qs.length),b<a->(a<i\/(a=i/\b<j+1))->qs[b]≠qs[a]->qat A B (lnK (JY (qs[b],qs[a])))->lnK (JY (qs[b],qs[a]))∈ks)/\2 * ks.length<=i * i+2 * (j+1)/\∃ v6 v7,O'=[some (.d (hpD A)),some (.d (hpD B)),some (.d (hpD qs)),some (.m d),some (.d (.int (i:Int))),some (.d (ptD r)),v6,v7])
      [some (.d (hpD A)),some (.d (hpD B)),some (.d (hpD qs)),some (.m d),some (.d (.int (i:Int))),some (.d (ptD r)),some (.d (ptD q)),v7'] (DM P w K d ks'::U):=fun ks' v7' a1 a2 a3 a4 a5=>by
    refine Wks.of ⟨ks',rfl,hj2,a1,a3,fun a b ha hb hab h hne hd=>?_,by lia,_,_,rfl⟩;by_cases hh:a=i/\b=j
    .obtain ⟨rfl,rfl⟩:=hh;rw[eq,er] at hd hne ⊢;exact a4 hne hd
    .exact a2 _ (g2 a b ha hb hab (by rcases h with h | ⟨h,h'⟩ <;> lia) hne hd)
   refine⟨_,_,.d _,.d _,YT q,YT r,JR (fun c1=>?_) (fun c1=>YO ?_)⟩
   .have hne:q≠r:=fun z=>by
     have c1:(!PyData.eqv (ptD q) (ptD r))=true:=c1;rw[qdv,qN z] at c1;exact absurd c1 (by decide)
    have hdue:=due (eqs ▸ mq) (eqs ▸ mr) hne;have lb:LBd (JY (q,r)):=ZN bd (qa4 mq mr hne);refine⟨q,r,rfl,bd q mq,bd r mr,hne,lnK (JY (q,r)),ks,rfl,qf4 _,.m qi,JR (fun c2=>?_) (fun c2=>?_)⟩
    .refine ⟨q,r,rfl,bd q mq,bd r mr,hne,JY (q,r),A,rfl,lb,hA,by lia,?_⟩;have no:∀ v7',hv2 A B q r=false->_:=fun v7' z=>key ks v7' g0 (fun x hx=>hx) g1 (fun _ hd=>absurd (hdue.mp hd) (by rw[z];decide)) (by lia);cases e1:qbs (JY (q,r)).2 (vls (JY (q,r)).1 A) with
     | false=>exact YO (YO (no _ (by unfold hv2;show (qbs (JY (q,r)).2 (vls (JY (q,r)).1 A) && _)=false;rw[e1];rfl)))
     | true =>
      refine ZO ⟨JY (q,r),B,rfl,lb,hB,by lia,?_⟩;cases e2:qbs (JY (q,r)).2 (vls (JY (q,r)).1 B) with
      | false=>exact YO (no _ (by unfold hv2;show (_ && qbs (JY (q,r)).2 (vls (JY (q,r)).1 B))=false;rw[e2,Bool.and_false]))
      | true =>
       have c:hv2 A B q r=true:=by
        unfold hv2;show (qbs (JY (q,r)).2 (vls (JY (q,r)).1 A) && qbs (JY (q,r)).2 (vls (JY (q,r)).1 B))=true;rw[e1,e2];rfl
       refine ZO ⟨lnK (JY (q,r)),d,[],U,ks,rfl,rfl,rfl,qf4 _,rfl,by lia,?_⟩;refine key _ _ (qd1 g0) (fun x hx=>qa0.mpr (.inl hx)) (fun x hx=>?_) (fun _ _=>qa0.mpr (.inr rfl)) (qh0 _ _);rcases qa0.mp hx with h | h
       .exact g1 x h
       .rw [h];exact hdue.mpr c
    .have c2:lnK (JY (q,r))∈ks:=by
      by_cases z:lnK (JY (q,r))∈ks
      .exact z
      .exact absurd (show (!decide (lnK (JY (q,r))∈ks))=true by rw[yi z];rfl) c2
     exact key ks _ g0 (fun x hx=>hx) g1 (fun _ _=>c2) (by lia)
   .have hee:q=r:=by
     by_cases z:q=r
     .exact z
     .exact absurd (show (!PyData.eqv (ptD q) (ptD r))=true by rw[qdv,yi z];rfl) c1
    exact key ks _ g0 (fun x hx=>hx) g1 (fun z _=>absurd hee z) (by lia)
  .rintro O' U' ⟨ks,rfl,hj0,g0,g1,g2,g3,v6,v7,rfl⟩;have hn:(ZT (qs.map ptD) none (some (i:Int))).length=i:=by rw[ecut,qc,yw];lia
   rw[hn] at g3;refine Wks.of ⟨ks,rfl,g0,g1,fun a b ha hb hab h=>g2 a b ha hb hab ?_,by lia,_,_,_,_,rfl⟩;rw[hn];lia
 .rintro O' U' ⟨ks,rfl,h0,h1,h2,h3,v4,v5,v6,v7,rfl⟩;have hz:ks.length<=4000:=by
   rw[hql] at h3;have:=jW hlen hlen;lia
  obtain⟨ls,rfl,hls⟩:=qja (R:=Alls A B) h1;have hnd:ls.Nodup:=List.Pairwise.of_map (R:=fun a b:Ln=>a≠b) (S:=fun a b:List Int=>a≠b) lnK (fun a b h e=>h (by rw[e])) h0;have fin:∀ {a b:Nat}(ha:a<qs.length) (hb:b<qs.length),b<a->qs[b]≠qs[a]->qat A B (lnK (JY (qs[b],qs[a])))->lnK (JY (qs[b],qs[a]))∈ls.map lnK:=fun {a b} ha hb c hn hd=>h2 a b ha hb c (by rw[hql];exact ha) hn hd;refine⟨_,_,rfl,.m qi,hz,ls,by rw[qf5],hnd,fun l hl'=>?_,by rw[qc] at hz;exact hz,fun ms pm sm=>⟨_,_,FzR.drop1,k ms ⟨sm,fun l=>?_⟩⟩⟩
  .have:=hls l hl';have b:=ZN (eqs ▸ bd) this.1;exact⟨this.1.1,qt b.1.1 (by decide),qt b.1.2 (by decide)⟩
  .rw [pm.mem_iff];refine⟨hls l,fun hl'=>?_⟩;obtain⟨p,hp,q,hq,hne,rfl⟩:=ZM hl'.1;rw[eqs] at hp hq;obtain⟨a,ha,rfl⟩:=jo.mp hp;obtain⟨b,hb,rfl⟩:=jo.mp hq;have hab:a≠b:=fun z=>hne (by subst z;rfl);rcases Nat.lt_or_ge a b with c | c
   .exact qcw.mp (fin hb ha c hne ⟨_,hl',rfl⟩)
   .have e:(nO qs[a] qs[b],vl (nO qs[a] qs[b]) qs[a])=JY (qs[b],qs[a]):=by rw[<- qmZ hne];rfl
    rw[e] at hl' ⊢;exact qcw.mp (fin ha hb (by lia) hne.symm ⟨_,hl',rfl⟩)
end K91
namespace K91
def qc1 (K:W.Frag) (tb:Addr):Sp:=fun vs H Q _=>∃ (a:Addr) (ns:List Int),vs=[.ref a]/\SqL K H a (ns.map V.int)/\H tb=some (.tbl #[])/\ns.length<=63/\∀ H',Q (.bl true) H'
def ql4 (tb:Addr):SpD:=fun es U Q=>∃ ns:List Int,es=[.d (.list (ns.map .int))]/\ns.length<=63/\U=[TB tb]/\∀ U',Q (.d (.bool true)) U'
theorem qkJ {E:XK}(h:qc1 K tb vs H Q E):yq K (ql4 tb) vs H Q E:=by
 obtain⟨a,ns,rfl,hS,ht,hl,q⟩:=h;have nt:∀ o,H a=some o->(∀ ps,o≠.tbl ps)->a∉[TB tb].map Prod.fst:=fun o e hu z=>by
  have z:a=tb:=by simpa using z
  rw[z,ht] at e;cases e
  exact hu _ rfl
 refine⟨[TB tb],[.d (.list (ns.map .int))],fun e _=>e = .d (.bool true),⟨by simp,fun b o hb=>?_⟩,.cons ?_ .nil,⟨ns,rfl,hl,rfl,fun _=>rfl⟩,?_⟩
 .cases qE.mp hb
  exact⟨_,ht,#[],rfl,.inl rfl⟩
 .refine .lst ?_ (IsAll.ints ns);rcases hS with (e | ⟨o,e⟩) | e
  .exact .inl (.inl (by rw[yG (nt _ e fun _ z=>by cases z)];exact e))
  .exact .inl (.inr ⟨o,by rw[yG (nt _ e fun _ z=>by cases z)];exact e⟩)
  .exact .inr e
 .rintro e U' v H' rfl _ _ i;cases i
  exact q H'
theorem neF {B:PyData}(h:SeqAt.shaped B=true):¬ (!PyData.eqv B B)=true:=fun z=>by rw[Y8 h] at z;exact absurd z (by decide)
theorem qjb (l m:Ln):PyData.eqv (lnD l) (lnD m)=decide (l=m):=by
 obtain⟨⟨a,b⟩,c⟩:=l;obtain⟨⟨d,e⟩,f⟩:=m;by_cases h1:a=d <;> by_cases h2:b=e <;> by_cases h3:c=f <;> simp[lnD,lnK,JC,PyData.eqv,PyData.eqvAll,h1,h2,h3]
theorem qnC (ms:List Ln) (l:Ln):((ms.map lnD).any fun z=>z.eqv (lnD l))=decide (l∈ms):=by
 rw[List.any_map];by_cases h:l∈ms
 .rw [qN h];exact List.any_eq_true.mpr ⟨l,h,by show PyData.eqv (lnD l) (lnD l)=true;rw[qjb];exact qN rfl⟩
 .rw [yi h];refine List.any_eq_false.mpr fun q hq=>?_;show ¬ PyData.eqv (lnD q) (lnD l)=true;rw[qjb];exact fun z=>h (qJ z ▸ hq)
theorem qa2 (ls:List Ln):PyData.canLayAll0 (ls.map lnD)=true:=Zq (fun p=>rfl) ls
theorem qcG (ls:List Ln):PyData.depthAll (ls.map lnD)<=3:=qam (n:=2) (fun p=>by unfold lnD lnK JC;simp[PyData.depth,PyData.depthAll]) ls
theorem qgJ (A:List Pt):PyData.depthAll (A.map ptD)<=3:=qam (n:=2) (fun p=>by unfold ptD;simp[PyData.depth,PyData.depthAll]) A
theorem qcm (ls ms:List Ln):SeqAt.shaped (.tuple [.list (ls.map lnD),.list (ms.map lnD)])=true:=by
 have d1:=qcG ls;have d2:=qcG ms;unfold SeqAt.shaped;rw[ym];refine⟨by simp[PyData.canLay0,PyData.canLayAll0,qa2],qN ?_⟩;simp only[PyData.depth,PyData.depthAll];lia
theorem Y9 (A B:List Pt) (ls:List Ln):SeqAt.shaped (.list [.list (A.map ptD),.list (B.map ptD),.list (ls.map lnD)])=true:=by
 have d1:=qgJ A;have d2:=qgJ B;have d3:=qcG ls;unfold SeqAt.shaped;rw[ym];refine⟨by simp[PyData.canLay0,PyData.canLayAll0,qa2,YH],qN ?_⟩;simp only[PyData.depth,PyData.depthAll];lia
def sBeh:SpD:=fun es U Q=>∃ (A:List Pt) (way:Int) (q g:Pt),es=[.d (hpD A),.d (.int way),.d (ptD q),.d (ptD g)]/\(way=0\/way=1\/way=2)/\(way=0\/q∈A)/\A.length<=100/\Q (.d (hpD (aft way A q g))) U
theorem qiP:FnScope ["_law_heap_here", "_law_way", "_law_point_here", "_law_goal", "_law_at"] ["_law_heap_here", "_law_way", "_law_point_here", "_law_goal"] (qq Yh):=by trivial
theorem qmX (F:Fun K "_law_behind" "_law_behind" Yh f fd):FnOk P w K mg base CX 1 f fd ["_law_heap_here", "_law_way", "_law_point_here", "_law_goal"] (yq K sBeh):=by
 refine F.okD qiP (by trivial) (fun Oh A' outer s H E es U Q hr Oi=>?_);obtain⟨A,way,q,g,e,hw,hq,hl,k⟩:=Oi;subst e;have nd:=qiP.nd;refine⟨_,(qC (jz (yp (Yp hr.units) (dv 1) qH (yj _)) (qR (yd (yS jV (dv 0) (Y1 (qb (dv 2) qj))))) yW)
   (qC (yM (i:=4) nd (qdD (dv 0) (qb (dv 2) qj) (h:=fun a b=>ZE PySem.F.plainAttrs_list PySem.F.slot_list_index PySem.F.type_list_index (qbN hr.u70) a b)))
   (qC (jz (yp (Yp hr.units) (dv 1) qH (yj _)) (qR (yd (yS jV (Jk (dv 0) Ji (Jh (dv 4))) (Jk (dv 0) (Jh (yS Jv (dv 4) qH)) Ji)))) yW)
   (qR (yd (yS jV (yS jV (Jk (dv 0) Ji (Jh (dv 4))) (Y1 (qb (dv 3) qj))) (Jk (dv 0) (Jh (yS jV (dv 4) qH)) Ji))))))),?_⟩
 rcases hw with rfl | rfl | rfl
 .refine ⟨zl1,_,_,.d _,.d _,?_,?_⟩
  .rw [qc];show A.length+1<=4000;lia
  .have k:Q (.d (.list ((A++[q]).map ptD))) U:=k;rw[qI] at k;exact k
 all_goals
  have hp:q∈A:=hq.resolve_left (by decide);have hi:=(qbV hp).1;have c1:ZT (A.map ptD) none (some ((A.idxOf q:Nat):Int))=(A.take (A.idxOf q)).map ptD:=by rw[qdE _ _ (by rw[qc];lia),List.map_take]
  have c2:ZT (A.map ptD) (some (((A.idxOf q:Nat):Int)+1)) none=(A.drop (A.idxOf q+1)).map ptD:=by
   have:=ZS (A.map ptD) (A.idxOf q+1) (by rw[qc];lia);rw[Int.natCast_add] at this;rw[List.map_drop];exact this
  refine⟨_,.d _,.d _,YH A,jf [q.1,q.2],qjj hp (by lia) ?_⟩
 .refine ⟨_,.d _,_,.d _,_,_,.d _,.d _,?_,?_⟩
  .rw [c1,c2,qc,qc,yw,List.length_drop];lia
  .rw [c1,c2];have k:Q (.d (.list ((A.take (A.idxOf q)++A.drop (A.idxOf q+1)).map ptD))) U:=k;rw[qI] at k;exact k
 .refine ⟨_,.d _,zl1,_,_,.d _,.d _,?_,_,.d _,_,_,.d _,.d _,?_,?_⟩
  .rw [c1,qc,yw];show _+1<=4000;lia
  .rw [c1,c2,qv,qc,qc,yw,List.length_drop];show _+1+_<=4000;lia
  .rw [c1,c2];have k:Q (.d (.list ((qjX A q g).map ptD))) U:=k;rw[<- qdc hp,qI,qI] at k;exact k
def sNws (K:W.Frag):SpD:=fun es U Q=>∃ (l1 l2:Addr) (ls ms:List Ln),es=[.x (stT K [.m l1,.m l2]),.d (.list (ls.map lnD)),.d (.list (ms.map lnD))]/\(l1,.lst ((nwA ls ms).map lnD))∈U/\(l2,.lst ((nwA ms ls).map lnD))∈U/\ls.length<4000/\ms.length<4000/\Q (.d (.bool true)) U
theorem qiI:FnScope ["_law_found", "_law_before", "_law_now", "_law_lost"] ["_law_found", "_law_before", "_law_now"] (qq JE):=by trivial
theorem qmO (F:Fun K "_law_news" "_law_news" JE f fd) (T:Txt mg):FnOk P w K mg base CX 1 f fd ["_law_found", "_law_before", "_law_now"] (yq K (sNws K)):=by
 refine F.okD qiI (by trivial) (fun Oh A' outer s H E es U Q hr Oi=>?_);obtain⟨l1,l2,ls,ms,e,h1,h2,hl,hm,k⟩:=Oi;subst e;have nd:=qiI.nd;refine⟨_,(qC (jz (qcg (qeb (qak (Yc (yA (qbf (K:=K)) (by rfl) T.isinstance_ y9 (qb (dv 0) (qb (qnW rfl T.tuple_ qip) qj))))) (qaG (yp (qbd hr.units) (yA (qlc (K:=K)) (by rfl) T.len_ JO (qb (dv 0) qj)) qH (yj _))))) (qR (yd qjq)) yW)
   (qC (jz (qcg (qeb (qak (Yc (yA (qbf (K:=K)) (by rfl) T.isinstance_ y9 (qb (jg (qbc (K:=K)) (dv 0) qH) (qb (qnW rfl T.list_ Jm) qj))))) (qaG (qak (Yc (yA (qbf (K:=K)) (by rfl) T.isinstance_ y9 (qb (jg (qbc (K:=K)) (dv 0) qH) (qb (qnW rfl T.list_ Jm) qj)))))))) (qR (yd qjq)) yW)
   (qC (qk2 (i:=3) nd rfl (by trivial) (L:=["_law_line_here"]) (sc:=qq JE) (N:=["_law_found", "_law_before", "_law_now", "_law_lost"]) rfl rfl rfl (by decide +kernel) (jA (dv 1)) (fun _ _ _ _ _=>(yX (i:=4) (show List.Nodup (["_law_found", "_law_before", "_law_now", "_law_lost", "_law_line_here"]:List Str) from by decide +kernel) rfl (by trivial))) (fun _ _ _ _ _=>(YL (yp (Y0 hr.u66) (dv 4) (dv 2) rfl))) (fun _ _ _ _ _=>(dv 4)))
   (qR (yd (qbg (qjm (K:=K) hr.units) (dv 0) (Yr (qb (dv 3) (qb (ZB (L:=["_law_line_here"]) (sc:=qq JE) (N:=["_law_found", "_law_before", "_law_now", "_law_lost"]) rfl rfl rfl (by decide +kernel) (jA (dv 2)) (fun _ _ _ _ _=>(yX (i:=4) (show List.Nodup (["_law_found", "_law_before", "_law_now", "_law_lost", "_law_line_here"]:List Str) from by decide +kernel) rfl (by trivial))) (fun _ _ _ _ _=>(YL (yp (Y0 hr.u66) (dv 4) (dv 1) rfl))) (fun _ _ _ _ _=>(dv 4))) qj))) (yj _))))))),?_⟩
 have sh:∀ l:Ln,SeqAt.shaped (lnD l)=true:=fun l=>jf [l.1.1,l.1.2,l.2];have tN:∀ (vs:List Ln) (l:Ln) {R:Bool->Mu->Prop}{U:Mu},R (!decide (l∈vs)) U->R (!((vs.map lnD).any fun z=>z.eqv (lnD l))) U:=fun vs l R U h=>by rw[qnC];exact h
 have g1:(ls.map lnD).length<=4000:=by rw[qc];lia
 have g2:(ms.map lnD).length<=4000:=by rw[qc];lia
 have rd:Rea K U (.x (stT K [.m l1,.m l2])) (.tuple [.list ((nwA ls ms).map lnD),.list ((nwA ms ls).map lnD)]):=Rea.tup (.cons (Rea.dat (.m h1)) (.cons (Rea.dat (.m h2)) .nil));refine⟨_,_,_,rfl,rd,by decide,YO ⟨_,rfl,?_⟩⟩;refine⟨_,_,_,rfl,rfl,rfl,_,_,_,rfl,Rea.dat (.m h1),by decide,YO ⟨_,_,_,rfl,rfl,rfl,_,_,_,rfl,Rea.dat (.m h2),by decide,?_⟩⟩;refine⟨_,.d _,g1,qaL (as:=ls) (h:=lnD) (fun l=>!decide (l∈ms)) lnD (Src.l (.d _)) (fun l _ R h=>⟨_,_,rfl,.d _,sh l,qa2 ms,tN ms l h⟩) (fun l _ _ R h=>h) ?_⟩;refine⟨_,.d _,g2,qaL (as:=ms) (h:=lnD) (fun l=>!decide (l∈ls)) lnD (Src.l (.d _)) (fun l _ R h=>⟨_,_,rfl,.d _,sh l,qa2 ls,tN ls l h⟩) (fun l _ _ R h=>h) ?_⟩;refine⟨zl2,_,_,rd,Rea.d,qcm _ _,qcm _ _,?_⟩;show Q (.d (.bool (PyData.eqv (.tuple [.list ((nwA ls ms).map lnD),.list ((nwA ms ls).map lnD)]) (.tuple [.list ((nwA ls ms).map lnD),.list ((nwA ms ls).map lnD)])))) U;rw[Y8 (qcm _ _)];exact k
def stM (r a b c:Addr) (X Y Z:List PyData) (U:Mu):Mu:=(r,.refs [a,b,c])::(c,.lst Z)::(b,.lst Y)::(a,.lst X)::U
def sStd (C:Addr):SpD:=fun es U Q=>∃ (kp dx h q:Addr) (A B:List Pt) (ls:List Ln),es=[.m kp,.m q,.d (.list (ls.map lnD))]/\(kp,KI C dx h ls)∈U/\(h,KH A B)∈U/\(q,KH A B)∈U/\A.length<=44/\B.length<=44/\ls.length<=2000/\Q (.d (.bool true)) U
theorem qiF:FnScope ["_law_keeper", "_law_heaps", "_law_lines", "_law_told", "_law_one"] ["_law_keeper", "_law_heaps", "_law_lines"] (qq Jq):=by trivial
theorem qmK (F:Fun K "_law_stands" "_law_stands" Jq f fd) (T:Txt mg) (hX:NoX CX) (Oq:y3 P w K mg base CX 1 C "heap" ["self", "which"] (yq K (qiT C))) (Oy:y3 P w K mg base CX 1 C "lines" ["self"] (yq K (qe5 C))):FnOk P w K mg base CX 2 f fd ["_law_keeper", "_law_heaps", "_law_lines"] (yq K (sStd C)):=by
 refine F.okD qiF (by trivial) (fun Oh A' outer s H E es U Q hr Oi=>?_);obtain⟨kp,dx,h,q,A,B,ls,e,mk,mh,mq,lA,lB,hl,k⟩:=Oi;subst e;have nd:=qiF.nd;refine⟨_,(qC (yM (i:=3) nd (qb3 (qb (Yz Oq hX hr.mo (dv 0) (qb qH qj)) (qb (Yz Oq hX hr.mo (dv 0) (qb qH qj)) (qb (qgL Oy hX hr.mo (dv 0)) qj)))))
   (qC (qgC 4 "_hid4" (N':=["_law_keeper", "_law_heaps", "_law_lines", "_law_told", "_hid4"]) rfl (jz (qcg (qeb (yp (qng (K:=K) hr.units) (dv 3) (Y1 (qb (jg yc (dv 1) qH) (qb (jg yc (dv 1) qH) (qb (dv 2) qj)))) (yj _)) (qaG (qak (Yc (yA (qnm rfl) (by rfl) T.all_ qnz (qb (ZB (L:=["_law_one"]) (sc:=qq Jq) (N:=["_law_keeper", "_law_heaps", "_law_lines", "_law_told", "_hid4"]) rfl rfl rfl (by decide +kernel) (qgG (dv 3)) (fun _ _ _ _ _=>(yX (i:=5) (show List.Nodup (["_law_keeper", "_law_heaps", "_law_lines", "_law_told", "_hid4", "_law_one"]:List Str) from by decide +kernel) rfl (by trivial))) (fun _ _ _ _ _=>Zm) (fun _ _ _ _ _=>(yA (qbf (K:=K)) (by rfl) T.isinstance_ y9 (qb (dv 5) (qb (qnW rfl T.list_ Jm) qj))))) qj))))))) (qR (yd qjq)) yW))
   (qC (Yn PassesOwn.never rfl (qgG (dv 3)) (ji (i:=4) nd) (qR (Yo (Y2 (dv 4) (qb (Yr (qb qH (qb qH qj))) qj) (h:=fun a b=>ZE PySem.F.plainAttrs_list PySem.F.slot_list_append PySem.F.type_list_append Je a b)))))
   (qR (Zk (qbg (qjm (K:=K) hr.units) (qb3 (qb (Yz Oq hX hr.mo (dv 0) (qb qH qj)) (qb (Yz Oq hX hr.mo (dv 0) (qb qH qj)) (qb (qgL Oy hX hr.mo (dv 0)) qj)))) (Y1 (qb (jg yc (dv 1) qH) (qb (jg yc (dv 1) qH) (qb (dv 2) qj)))) (yj _))))))),?_⟩
 have up1:∀ {x y:Addr×MO}{U:Mu},x∈U->x∈y::U:=fun h=>qd _ h;refine⟨kp,dx,_,rfl,mk,Yw,kp,dx,h,A,B,ls,0,rfl,mk,mh,.inl rfl,fun a=>?_⟩;refine⟨kp,dx,_,rfl,up1 mk,Yw,kp,dx,h,A,B,ls,1,rfl,up1 mk,up1 mh,.inr rfl,fun b=>?_⟩;refine⟨kp,dx,_,rfl,up1 (up1 mk),Yw,kp,dx,h,ls,rfl,up1 (up1 mk),fun c=>⟨[a,b,c],rfl,(show 3<=4000 by decide),fun r hr'=>?_⟩⟩;have q4:∀ {x y z w:Addr×MO}{t:Addr×MO}{U:Mu},t∈U->t∈x::y::z::w::U:=fun h=>up1 (up1 (up1 (up1 h)));refine⟨_,_,q4 mq,yP (j:=0) rfl,_,_,q4 mq,yP (j:=1) rfl,zl3,?_⟩;have rw3:Rws ((r,.refs [a,b,c])::(c,.lst (ls.map lnD))::(b,.lst (B.map ptD))::(a,.lst (A.map ptD))::U) [a,b,c] [A.map ptD,B.map ptD,ls.map lnD]:=.cons (by simp) (.cons (by simp) (.cons (by simp) .nil));refine⟨.list [.list (A.map ptD),.list (B.map ptD),.list (ls.map lnD)],_,Rea.refs (rs:=[A.map ptD,B.map ptD,ls.map lnD]) qi rw3,Rea.d,Y9 A B ls,Y9 A B ls,JR (fun z=>absurd z (neF (Y9 A B ls))) (fun _=>?_)⟩;have stm:∀ {X Y Z:List PyData},(r,MO.refs [a,b,c])∈stM r a b c X Y Z U:=fun {X Y Z}=>qi;have mi:∀ {X Y Z:List PyData}(i:Nat),i<3->∃ ds,(([a,b,c]:List Addr).getD i 0,MO.lst ds)∈stM r a b c X Y Z U:=fun {X Y Z} i hi=>by
  unfold stM;match i,hi with
  | 0,_=>exact⟨X,by simp⟩
  | 1,_=>exact⟨Y,by simp⟩
  | 2,_=>exact⟨Z,by simp⟩
 refine⟨r,[a,b,c],rfl,qi,(show 3<=4000 by decide),fun i ys O' U'=>U'=stM r a b c (A.map ptD) (B.map ptD) (ls.map lnD) U/\ys=List.replicate i (.bool true)/\∃ v,O'=[some (.m kp),some (.m q),some (.d (.list (ls.map lnD))),some (.m r),none,v],⟨rfl,rfl,_,rfl⟩,?_,?_,?_⟩
 .rintro i ys O' U' _ ⟨rfl,_⟩;exact stm
 .rintro i ys O' U' hi ⟨rfl,rfl,v,rfl⟩;obtain⟨ds,hm⟩:=mi (X:=A.map ptD) (Y:=B.map ptD) (Z:=ls.map lnD) i hi;exact⟨_,_,_,rfl,Rea.dat (.m hm),by decide,_,rfl,rfl,(by rw[List.replicate_succ'];rfl),_,rfl⟩
 rintro ys O' U' ⟨rfl,rfl,v,rfl⟩;refine⟨List.replicate 3 true,.d _,YO ?_⟩;refine⟨r,[a,b,c],rfl,stm,?_⟩;refine forRf (fun i O' U'=>∃ X Y Z,U'=stM r a b c X Y Z U/\X.length+Y.length+Z.length<=2200+i/\∃ v,O'=[some (.m kp),some (.m q),some (.d (.list (ls.map lnD))),some (.m r),v]) ⟨_,_,_,rfl,?_,_,rfl⟩ ?_ ?_ ?_
 .rw [qc,qc,qc];lia
 .rintro i O' U' ⟨X,Y,Z,rfl,_⟩;exact stm
 .rintro i x O' U' hx ⟨X,Y,Z,rfl,hz,v,rfl⟩;have h3:i<3:=(qm.mp hx).1;match i,h3,hx with
  | 0,_,hx =>
   cases hx
   exact⟨⟨X,by unfold stM;simp⟩,zl2,[(r,.refs [a,b,c]),(c,.lst Z),(b,.lst Y)],U,X,rfl,by lia,Wks.of ⟨_,Y,Z,rfl,by rw[qv];show _+1+_+_<=_;lia,_,rfl⟩⟩
  | 1,_,hx =>
   cases hx
   exact⟨⟨Y,by unfold stM;simp⟩,zl2,[(r,.refs [a,b,c]),(c,.lst Z)],(a,.lst X)::U,Y,rfl,by lia,Wks.of ⟨X,_,Z,rfl,by rw[qv];show _+(_+1)+_<=_;lia,_,rfl⟩⟩
  | 2,_,hx =>
   cases hx
   exact⟨⟨Z,by unfold stM;simp⟩,zl2,[(r,.refs [a,b,c])],(b,.lst Y)::(a,.lst X)::U,Z,rfl,by lia,Wks.of ⟨X,Y,_,rfl,by rw[qv];show _+_+(_+1)<=_;lia,_,rfl⟩⟩
 .rintro O' U' ⟨X,Y,Z,rfl,hz,v,rfl⟩;have o:∀ {x:Addr×MO},x∈U->x∈stM r a b c X Y Z U:=fun h=>q4 h;refine⟨kp,dx,_,rfl,o mk,Yw,kp,dx,h,A,B,ls,0,rfl,o mk,o mh,.inl rfl,fun a2=>?_⟩;refine⟨kp,dx,_,rfl,up1 (o mk),Yw,kp,dx,h,A,B,ls,1,rfl,up1 (o mk),up1 (o mh),.inr rfl,fun b2=>?_⟩;refine⟨kp,dx,_,rfl,up1 (up1 (o mk)),Yw,kp,dx,h,ls,rfl,up1 (up1 (o mk)),fun c2=>⟨[a2,b2,c2],rfl,(show 3<=4000 by decide),fun r2 hr2=>?_⟩⟩;refine⟨_,_,q4 (o mq),yP (j:=0) rfl,_,_,q4 (o mq),yP (j:=1) rfl,zl3,?_⟩;have rw4:Rws (stM r2 a2 b2 c2 (A.map ptD) (B.map ptD) (ls.map lnD) (stM r a b c X Y Z U)) [a2,b2,c2] [A.map ptD,B.map ptD,ls.map lnD]:=.cons (by unfold stM;simp) (.cons (by unfold stM;simp) (.cons (by unfold stM;simp) .nil));refine⟨.list [.list (A.map ptD),.list (B.map ptD),.list (ls.map lnD)],_,Rea.refs (rs:=[A.map ptD,B.map ptD,ls.map lnD]) qi rw4,Rea.d,Y9 A B ls,Y9 A B ls,U,_,FzR.sub ?_,?_⟩
  .exact .cons _ (.cons _ (.cons _ (.cons _ (.cons _ (.cons _ (.cons _ (.cons _ (.refl _))))))))
  .show Q (.d (.bool (PyData.eqv (.list [.list (A.map ptD),.list (B.map ptD),.list (ls.map lnD)]) (.list [.list (A.map ptD),.list (B.map ptD),.list (ls.map lnD)])))) U;rw[Y8 (Y9 _ _ _)];exact k
end K91
namespace K91
variable {A:List Pt}
theorem qfM (h:qbu q):Bd B30 q:=by
 obtain⟨h1,h2⟩:=h;unfold Num at h1 h2;exact⟨(show q.1.natAbs<=1000000000000000000000000000000 by lia),(show q.2.natAbs<=1000000000000000000000000000000 by lia)⟩
theorem jy {ps:List Pt}(h:∀ q∈ps,qbu q):Bds ps:=fun q hq=>qfM (h q hq)
theorem fm_len {γ:Type}(f:α->β->γ) (ys:List β):∀ xs:List α,(xs.flatMap fun p=>ys.map (f p)).length=xs.length * ys.length
 | []=>by simp
 | x::xs=>by
  rw[List.flatMap_cons,qv,qc,fm_len f ys xs,yl,Nat.add_mul];lia
theorem qcT (h:qg8 A B ls):ls.length<=(A.length+B.length) * (A.length+B.length):=by
 have:=JK (Y4 h.1) (kss:=(A++B).flatMap fun p=>(A++B).map fun q=>JY (p,q)) fun l hl=>by
  obtain⟨p,hp,q,hq,_,rfl⟩:=ZM ((h.2 l).mp hl).1;exact List.mem_flatMap.mpr ⟨p,hp,qF.mpr ⟨q,hq,rfl⟩⟩
 rw[fm_len (fun p q=>JY (p,q)),qv] at this;exact this
def sDR (C tb:Addr):SpD:=fun es U Q=>∃ (p kp dx h q:Addr) (A B:List Pt) (ls:List Ln) (U1 U2:Mu),es=[.m p,.m kp,.m q]/\U=U1++(h,KH A B)::(kp,KI C dx h ls)::(q,KH A B)::U2/\(p,PC0)∈U1++U2/\TB tb∈U1++U2/\A.length+B.length<=30/\(∀ z∈A,qbu z)/\(∀ z∈B,qbu z)/\qg8 A B ls ∧
 ∀ (A' B':List Pt) (ls':List Ln),A'.length+B'.length<=A.length+B.length+1->(∀ z∈A',qbu z)->(∀ z∈B',qbu z)->qg8 A' B' ls'->Q (.d (.bool true)) (U1++(h,KH A' B')::(kp,KI C dx h ls')::(q,KH A' B')::U2)
theorem qhW {x a b c:Addr×MO}(h:x∈U1++U2):x∈U1++a::b::c::U2:=by
 rcases qB.mp h with h | h
 .exact qS _ h
 .exact qg _ (qd _ (qd _ (qd _ h)))
theorem qc2 (x:Str) (h:PyData.strOk x=true:=by decide +kernel):SeqAt.shaped (.str x)=true:=by
 unfold SeqAt.shaped;simp[PyData.canLay0,PyData.depth,h]
theorem at2_1 (h:wh=0\/wh=1) (A B:List Pt):atI [hpD A,hpD B] (1 - wh)=some (hpD (at2 wh B A)):=by
 rcases h with rfl | rfl
 .exact yP (j:=1) rfl
 .exact yP (j:=0) rfl
theorem qcR (hA:∀ z∈A,qbu z) (hB:∀ z∈B,qbu z):∀ z∈at2 wh A B,qbu z:=by unfold at2;split <;> assumption
theorem qlX:FnScope ["_law_store_here", "_law_keeper", "_law_heaps", "_law_which", "_law_way", "_law_point_here", "_law_goal", "_law_before", "_law_word", "_law_found", "_law_now"] ["_law_store_here", "_law_keeper", "_law_heaps"] (qq jb):=by trivial
theorem ok_dr (F:Fun K "_law_deed_right" "_law_deed_right" jb f fd) (T:Txt mg) (hX:NoX CX) (Od:Own P w K mg base CX 1 "_law_draw" ["_law_store_here", "_law_many"] (yq K (qbJ 2147483579))) (On:Own P w K mg base CX 4 "_law_point" ["_law_store_here", "_law_some"] (yq K qe4)) (Ow:Own P w K mg base CX 5 "_law_all" ["_law_one", "_law_other"] (yq K sLA)) (OQ:Own P w K mg base CX 10 "_law_done" ["_law_keeper", "_law_way", "_law_which", "_law_point_here", "_law_goal"] (yq K (ql7 K C tb))) (OM:Own P w K mg base CX 1 "_law_behind" ["_law_heap_here", "_law_way", "_law_point_here", "_law_goal"] (yq K sBeh)) (OR:Own P w K mg base CX 1 "_law_news" ["_law_found", "_law_before", "_law_now"] (yq K (sNws K))) (Om:Own P w K mg base CX 2 "_law_stands" ["_law_keeper", "_law_heaps", "_law_lines"] (yq K (sStd C))):FnOk P w K mg base CX 11 f fd ["_law_store_here", "_law_keeper", "_law_heaps"] (yq K (sDR C tb)):=by
 refine F.okD qlX (by trivial) (fun Oh A' outer s H E es U Q hr Oi=>?_);obtain⟨p,kp,dx,h,q,A,B,ls,U1,U2,e,e0,mp0,mt0,hl,hA,hB,hL,k⟩:=Oi;subst e e0;have nd:=qlX.nd;have mp:(p,PC0)∈U1++(h,KH A B)::(kp,KI C dx h ls)::(q,KH A B)::U2:=qhW mp0;have mq:(q,KH A B)∈U1++(h,KH A B)::(kp,KI C dx h ls)::(q,KH A B)::U2:=by simp
 have key:∃ t,DSs K (qao CX P w K mg base ["_law_store_here", "_law_keeper", "_law_heaps", "_law_which", "_law_way", "_law_point_here", "_law_goal", "_law_before", "_law_word", "_law_found", "_law_now"] "_law_deed_right" (qq jb) f Oh A' outer s H E).nox ((yY jb).drop 4) t ∧
   ∀ (wh wy:Int) (r:Pt),(wh=0\/wh=1)->(wy=0\/wy=1\/wy=2)->qbu r->t { nx:=fun _ U'=>Q (.d .none) U',rt:=Q } [some (.m p),some (.m kp),some (.m q),some (.d (.int wh)),some (.d (.int wy)),some (.d (ptD r)),none,none,none,none,none] (U1++(h,KH A B)::(kp,KI C dx h ls)::(q,KH A B)::U2):=by
  refine⟨_,(qC (yM (i:=6) nd (yt On hX hr.mo rfl (qb (dv 0) (qb (yS jV (yS jV (jg yc (dv 2) qH) (jg yc (dv 2) qH)) (Y1 (qb (dv 5) qj))) qj))))
   (qC (yM (i:=7) nd (yt Ow hX hr.mo rfl (qb (jg yc (dv 2) qH) (qb (jg yc (dv 2) qH) qj))))
   (qC (Ju (yt OQ hX hr.mo rfl (qb (dv 1) (qb (dv 4) (qb (dv 3) (qb (dv 5) (qb (dv 6) qj)))))) (qk7 (n:=2) rfl (qdz (ji (i:=8) nd) (qdz (ji (i:=9) nd) qk5))))
   (qC (jz (qcg (Ym (yp qcF (dv 4) qH (yj _)) (JB (yp (Y0 hr.u66) (dv 5) (jg yc (dv 2) (dv 3)) rfl)))) (qR (yd (qlk (qbg (Yp hr.units) (dv 8) qef (yj _)) (qle (yt Om hX hr.mo rfl (qb (dv 1) (qb (dv 2) (qb (dv 7) qj)))))))) yW)
   (qC (Ju (yt OM hX hr.mo rfl (qb (jg yc (dv 2) (dv 3)) (qb (dv 4) (qb (dv 5) (qb (dv 6) qj))))) (qgI (dv 2) (dv 3)))
   (qC (yM (i:=10) nd (yt Ow hX hr.mo rfl (qb (jg yc (dv 2) qH) (qb (jg yc (dv 2) qH) qj))))
   (qC (jz (qcg (qeb (yp (qbd hr.units) (dv 8) qef (yj _)) (qaG (qak (Yc (yt OR hX hr.mo rfl (qb (dv 9) (qb (dv 7) (qb (dv 10) qj))))))))) (qR (yd qjq)) yW)
   (qC (Yo (Y2 (jg (qbc (K:=K)) (dv 9) qH) (qb (Yr (qb qH (qb qH qj))) qj) (h:=fun a b=>ZE PySem.F.plainAttrs_list PySem.F.slot_list_append PySem.F.type_list_append Je a b)))
   (qC (Yo (Y2 (jg (qbc (K:=K)) (dv 9) qH) (qb (Yr (qb qH (qb qH qj))) qj) (h:=fun a b=>ZE PySem.F.plainAttrs_list PySem.F.slot_list_append PySem.F.type_list_append Je a b)))
   (qR (Zk (yt Om hX hr.mo rfl (qb (dv 1) (qb (dv 2) (qb (dv 10) qj))))))))))))))),fun wh wy r hw hway hr'=>?_⟩
  have lm:∀ X:List Pt,(X.map ptD).length=X.length:=fun X=>qc ..;have ll:ls.length<=900:=qt (qcT hL) (jW hl hl);have lt2:=Zr (wh:=wh) (A:=A) (B:=B);refine⟨_,_,mq,yP (j:=0) rfl,_,_,mq,yP (j:=1) rfl,_,_,.d _,.d _,by rw[lm,lm];lia,zl1,_,_,.d _,.d _,by rw[qv,lm,lm];show _+1<=4000;lia,p,A++B++[r],by rw[qI,qI];rfl,mp,by rw[qv,qv];show _+1<=100;lia,fun z hz=>?_,fun g hg=>?_⟩
  .rcases qB.mp hz with z | z
   .rcases qB.mp z with z | z
    .exact hA _ z
    .exact hB _ z
   .rw [qE.mp z];exact hr'
  refine⟨_,_,mq,yP (j:=0) rfl,_,_,mq,yP (j:=1) rfl,A,B,rfl,by lia,jy hA,jy hB,fun ms hM=>?_⟩;have em:ms=ls:=qbn hM.1 hL.1 fun l=>(hM.2 l).trans (hL.2 l).symm;subst em;by_cases hin:wy=0\/r∈at2 wh A B
  .obtain ⟨w0,w1,ws⟩:=qeN hw (aft wy (at2 wh A B) r g) A B;have hx:=qaR hw (qo _) (qbo (way:=wy) (A:=at2 wh A B) (q:=r) (g:=g));have nx:=ZG (wh:=wh) (A:=A) (B:=B) (R:=qbu) (X:=aft wy (at2 wh A B) r g) (qbp (qcR hA hB) hr' hg) hA hB;refine .inl ⟨kp,wy,wh,r,g,rfl,hway,dx,h,A,B,ms,U1,(q,KH A B)::U2,rfl,hw,hin,by lia,by lia,jy hA,jy hB,qfM hr',qfM hg,?_,?_⟩
   .rcases qB.mp mt0 with z | z
    .exact qS _ z
    .exact qg _ (qd _ z)
   generalize (Z0 wh (aft wy (at2 wh A B) r g) A B).1=X1 at *;generalize (Z0 wh (aft wy (at2 wh A B) r g) A B).2=X2 at *;intro ns hN h4 hb l1 l2;refine⟨_,rfl,rfl,_,_,rfl,_,_,rfl,rfl,?_⟩;have mq':∀ {x y:Addr×MO},(q,KH A B)∈x::y::(U1++(h,KH X1 X2)::(kp,KI C dx h ns)::(q,KH A B)::U2):=by intros;simp
   have mq2:∀ {x y:Addr×MO},(q,MO.lst [hpD X1,hpD X2])∈x::y::(U1++(h,KH X1 X2)::(kp,KI C dx h ns)::(q,MO.lst [hpD X1,hpD X2])::U2):=by intros;simp
   have enorm:∀ {x y:Addr×MO}(o:MO),(x::y::(U1++[(h,KH X1 X2),(kp,KI C dx h ns)]))++(q,o)::U2=x::y::(U1++(h,KH X1 X2)::(kp,KI C dx h ns)::(q,o)::U2):=fun o=>by simp
   have h31:X1.length+X2.length<=31:=by lia
   have ln:ns.length<=961:=qt (qcT hN) (jW h31 h31);have f1:((nwA ms ns).map lnD).length<=961:=by rw[qc];exact qt (List.length_filter_le _ _) (by lia)
   have f2:((nwA ns ms).map lnD).length<=961:=by rw[qc];exact qt (List.length_filter_le _ _) (by lia)
   refine JR (fun c=>⟨_,_,mq',Jx hw A B,_,_,rfl,.d _,jf [r.1,r.2],YH _,JR (fun c2=>?_) (fun c2=>?_)⟩) (fun c=>YO ?_)
   .exfalso;have c2:(!(((at2 wh A B).map ptD).any fun z=>z.eqv (ptD r)))=true:=c2;have c:0<wy:=qJ c;rw[qdK,qN (hin.resolve_left (by lia))] at c2;exact absurd c2 (by decide)
   all_goals
    refine⟨_,_,mq',Jx hw A B,at2 wh A B,wy,r,g,rfl,hway,hin,by lia,_,U2,_,(enorm (KH A B)).symm,w0,w1,?_⟩;rw[ws,enorm];refine⟨_,_,mq2,yP (j:=0) rfl,_,_,mq2,yP (j:=1) rfl,X1,X2,rfl,by lia,jy nx.1,jy nx.2,fun os hO=>?_⟩;have eo:os=ns:=qbn hO.1 hN.1 fun l=>(hO.2 l).trans (hN.2 l).symm;subst eo;refine⟨_,_,.d _,.d _,qc2 _,qc2 _,JR (fun c=>absurd c (by decide +kernel)) (fun _=>⟨l1,l2,ms,os,rfl,by simp,by simp,by lia,by lia,?_⟩)⟩;refine⟨_,_,_,rfl,rfl,rfl,⟨_,qd _ qi⟩,zl2,[(l2,MO.lst ((nwA os ms).map lnD))],_,_,rfl,by lia,?_⟩;refine⟨_,_,_,rfl,rfl,rfl,⟨_,qi⟩,zl2,[],_,_,rfl,by lia,?_⟩;exact⟨kp,dx,h,q,X1,X2,os,rfl,by simp,by simp,mq2,by lia,by lia,by lia,_,_,FzR.sub (.cons _ (.cons _ (.refl _))),k X1 X2 os hx nx.1 nx.2 hN⟩
  .have hw2:wy=1\/wy=2:=by lia
   have hnin:r∉at2 wh A B:=fun z=>hin (.inr z);have mk:(kp,KI C dx h ms)∈U1++(h,KH A B)::(kp,KI C dx h ms)::(q,KH A B)::U2:=by simp
   have mh:(h,KH A B)∈U1++(h,KH A B)::(kp,KI C dx h ms)::(q,KH A B)::U2:=by simp
   refine .inr ⟨kp,dx,h,A,B,ms,wy,wh,r,g,rfl,hw2,mk,mh,hw,hnin,⟨_,rfl,rfl,_,_,rfl,_,_,rfl,rfl,?_⟩⟩;refine JR (fun c=>⟨_,_,mq,Jx hw A B,_,_,rfl,.d _,jf [r.1,r.2],YH _,JR (fun c2=>?_) (fun c2=>?_)⟩) (fun c=>absurd (qN (show (0:Int)<wy by lia)) c)
   .refine ⟨_,_,.d _,.d _,qc2 _,qc2 _,?_⟩;have e:PyData.eqv (.str "lacking") (.str "lacking")=true:=by decide +kernel
    show (if PyData.eqv (.str "lacking") (.str "lacking")=true then _ else _);rw[if_pos e];exact⟨kp,dx,h,q,A,B,ms,rfl,mk,mh,mq,by lia,by lia,by lia,k A B ms (by lia) hA hB hL⟩
   .exfalso;refine c2 ?_;show (!(((at2 wh A B).map ptD).any fun z=>z.eqv (ptD r)))=true;rw[qdK,yi hnin];rfl
 obtain⟨t,ht,hk⟩:=key;refine⟨_,(qC (yM (i:=3) nd (yt Od hX hr.mo rfl (qb (dv 0) (qb qH qj))))
   (qC (yM (i:=4) nd (yt Od hX hr.mo rfl (qb (dv 0) (qb qH qj))))
   (qC (yM (i:=5) nd (yt On hX hr.mo rfl (qb (dv 0) (qb (yS jV (yS jV (jg yc (dv 2) (dv 3)) (jg yc (dv 2) (dv 3))) (jg yc (dv 2) (yS Jj qH (dv 3)))) qj))))
   (qC (jz (qcg (Ym (yp qcF (dv 4) qH (yj _)) (Ym (yp (qbd hr.units) (jg yc (dv 2) (dv 3)) (Y1 qj) (yj _)) (JB (yp qcF (yt Od hX hr.mo rfl (qb (dv 0) (qb qH qj))) qH (yj _)))))) (qR (yM (i:=5) nd (jg yc (jg yc (dv 2) (dv 3)) (yt Od hX hr.mo rfl (qb (dv 0) (qb (yA Ye (by rfl) T.len_ JO (qb (jg yc (dv 2) (dv 3)) qj)) qj)))))) yW)
   ht)))),?_⟩
 refine⟨p,_,rfl,mp,by decide,by decide,fun wh w0 w1=>?_⟩;refine⟨p,_,rfl,mp,by decide,by decide,fun wy y0 y1=>?_⟩;have hw:wh=0\/wh=1:=by lia
 have hway:wy=0\/wy=1\/wy=2:=by lia
 have l1:=Zr (wh:=wh) (A:=A) (B:=B);have l2:=Zr (wh:=wh) (A:=B) (B:=A);have n1:=qcR (wh:=wh) hA hB;have n2:=qcR (wh:=wh) hB hA;have lm:∀ X:List Pt,(X.map ptD).length=X.length:=fun X=>qc ..;refine⟨_,_,mq,Jx hw A B,_,_,mq,Jx hw A B,_,_,.d _,.d _,by rw[lm];lia,_,_,mq,at2_1 hw A B,_,_,.d _,.d _,by rw[qv,lm,lm];lia,p,at2 wh A B++at2 wh A B++at2 wh B A,by rw[qI,qI],mp,by rw[qv,qv];lia,fun z hz=>?_,fun r hr'=>?_⟩
 .rcases qB.mp hz with z | z
  .rcases qB.mp z with z | z
   .exact n1 _ z
   .exact n1 _ z
  .exact n2 _ z
 refine JR (fun c=>?_) (fun c=>YO (hk wh wy r hw hway hr'));refine⟨_,_,mq,Jx hw A B,zl0,_,_,.d _,.d _,Y7 _,rfl,JR (fun c2=>?_) (fun c2=>YO (hk wh wy r hw hway hr'))⟩;have pos:=qfS c2;refine⟨p,_,rfl,mp,by decide,by decide,fun d d0 d1=>JR (fun c3=>?_) (fun c3=>hk wh wy r hw hway hr')⟩;refine⟨_,_,mq,Jx hw A B,_,_,mq,Jx hw A B,_,.l (.d _),p,_,rfl,mp,(by show (0:Int)<(((at2 wh A B).map ptD).length:Int);rw[lm];lia),(by show ((((at2 wh A B).map ptD).length:Nat):Int)<=100000000;rw[lm];lia),fun d d0 d1=>?_⟩;obtain⟨z,hz,ez⟩:=qgT d0 d1;exact⟨_,ez,hk wh wy z hw hway (n1 z hz)⟩
end K91
namespace K91
structure KR where
 h:Addr
 kp:Addr
 dx:Addr
 q:Addr
 A:List Pt
 B:List Pt
 ls:List Ln
def fr (C:Addr):List KR->Mu
 | []=>[]
 | r::rs=>(r.h,KH r.A r.B)::(r.kp,KI C r.dx r.h r.ls)::(r.q,KH r.A r.B)::fr C rs
def Ok (n:Nat) (r:KR):Prop:=r.A.length+r.B.length<=n/\(∀ z∈r.A,qbu z)/\(∀ z∈r.B,qbu z)/\qg8 r.A r.B r.ls
theorem Ok.mono {r:KR}(h:n<=m) (o:Ok n r):Ok m r:=⟨qt o.1 h,o.2⟩
def mu0 (p tb ks sm:Addr) (kps qs:List Addr):Mu:=[(ks,.refs kps),(sm,.refs qs),(p,PC0),TB tb]
abbrev FM (C p tb ks sm:Addr) (r1 r0:KR):Mu:=fr C [r1,r0]++mu0 p tb ks sm [r0.kp,r1.kp] [r0.q,r1.q]
abbrev FR (C p tb ks sm:Addr) (rs:List KR):Mu:=fr C rs++mu0 p tb ks sm (rs.reverse.map (·.kp)) (rs.reverse.map (·.q))
theorem qiL:FnScope ["_law_script", "_law_k", "_law_store_here", "_law_some", "_law_keepers", "_law_j", "_law_one", "_law_other", "_law_handed", "_law_deed"] ["_law_script"] (qq qhj):=by trivial
theorem qmR (F:Fun K "law" "law" qhj f fd) (T:Txt mg) (hX:NoX CX) (OO:Own P w K mg base CX 2 "_law_store" ["_law_script", "_law_k"] (yq K qiR)) (ON:Own P w K mg base CX 5 "_law_heap" ["_law_store_here", "_law_known"] (yq K ql6)) (Od:Own P w K mg base CX 1 "_law_draw" ["_law_store_here", "_law_many"] (yq K (qbJ 2147483579))) (CKeeper:OwnM P w K mg base CX 8 "Keeper" C ["self", "one", "other"] (yq K (qjV C tb))) (Ox:Own P w K mg base CX 11 "_law_deed_right" ["_law_store_here", "_law_keeper", "_law_heaps"] (yq K (sDR C tb))) (Om:Own P w K mg base CX 2 "_law_stands" ["_law_keeper", "_law_heaps", "_law_lines"] (yq K (sStd C))) (Ow:Own P w K mg base CX 5 "_law_all" ["_law_one", "_law_other"] (yq K sLA)):FnOk P w K mg base CX 12 f fd ["_law_script"] (yq K (ql4 tb)):=by
 refine F.okD qiL (by trivial) (fun Oh A0 outer s H E es U Q hr Oi=>?_);obtain⟨ns,e,hl,e0,k⟩:=Oi;subst e e0;have nd:=qiL.nd;refine⟨_,(qC (Yn PassesOwn.never rfl (JM rfl T.range_ (qb (yA (qgK rfl) (by rfl) T.max_ qdH (qb qH (qb (yA (qnl rfl) (by rfl) T.min_ qny (qb (yA Ye (by rfl) T.len_ JO (qb (dv 0) qj)) (qb qH qj))) qj))) qj)) (ji (i:=1) nd) (qC (yM (i:=2) nd (yt OO hX hr.mo rfl (qb (dv 0) (qb (dv 1) qj))))
   (qC (yM (i:=3) nd (qb3 qj))
   (qC (yM (i:=4) nd (qb3 qj))
   (qC (Yn PassesOwn.never rfl (JM rfl T.range_ (qb qH qj)) (ji (i:=5) nd) (qC (yM (i:=6) nd (yt ON hX hr.mo rfl (qb (dv 2) (qb (Y1 qj) qj))))
   (qC (yM (i:=7) nd (yt ON hX hr.mo rfl (qb (dv 2) (qb (dv 6) qj))))
   (qC (yM (i:=8) nd (qb3 (qb (jR ZR (by rfl) T.list_ Jm (qb (dv 6) qj)) (qb (jR ZR (by rfl) T.list_ Jm (qb (dv 7) qj)) qj))))
   (qC (jz (yp (Yp hr.units) (yt Od hX hr.mo rfl (qb (dv 2) (qb qH qj))) qH (yj _)) (qC (yM (i:=7) nd (jR qcI (by rfl) T.list_ Jm (qb (dv 6) qj)))
   (qR (Ju (jg Jf (dv 8) qH) (qk9 (dv 8) qH)))) yW)
   (qC (Yo (qjr (dv 3) (qb (qdC (qb (dv 6) (qb (dv 7) qj))) qj) (h:=fun a b=>ZE PySem.F.plainAttrs_list PySem.F.slot_list_append PySem.F.type_list_append Je a b)))
   (qC (Yo (qjr (dv 4) (qb (qnq CKeeper hX hr.mo rfl (qb (jg Jf (dv 8) qH) (qb (jg Jf (dv 8) qH) qj))) qj) (h:=fun a b=>ZE PySem.F.plainAttrs_list PySem.F.slot_list_append PySem.F.type_list_append Je a b)))
   (qC (Yo (Y2 (jg Jf (dv 8) qH) (qb (Yr (qb qH (qb qH qj))) qj) (h:=fun a b=>ZE PySem.F.plainAttrs_list PySem.F.slot_list_append PySem.F.type_list_append Je a b)))
   (qR (Yo (qlj (jg Jf (dv 8) qH) (h:=fun a=>qmD PySem.F.plainAttrs_list PySem.F.slot_list_clear PySem.F.type_list_clear qhV a))))))))))))
   (qC (Yn PassesOwn.never rfl (JM rfl T.range_ (qb (yt Od hX hr.mo rfl (qb (dv 2) (qb qH qj))) qj)) (ji (i:=9) nd) (qC (yM (i:=5) nd (yt Od hX hr.mo rfl (qb (dv 2) (qb qH qj))))
   (qR (jz (qak (Yc (yt Ox hX hr.mo rfl (qb (dv 2) (qb (jg Jf (dv 4) (dv 5)) (qb (jg Jf (dv 3) (dv 5)) qj)))))) (qR (yd qjq)) yW))))
   (qR (Yn PassesOwn.never rfl (JM rfl T.range_ (qb qH qj)) (ji (i:=5) nd) (qR (jz (qak (Yc (yt Om hX hr.mo rfl (qb (jg Jf (dv 4) (dv 5)) (qb (jg Jf (dv 3) (dv 5)) (qb (yt Ow hX hr.mo rfl (qb (jg yc (jg Jf (dv 3) (dv 5)) qH) (qb (jg yc (jg Jf (dv 3) (dv 5)) qH) qj))) qj)))))) (qR (yd qjq)) yW))))))))))
   (qR (yd qjq))),?_⟩
 refine⟨_,.l (.d _),?_⟩;rw[qc];obtain⟨m,em,hm⟩:∃ m:Int,(if (1:Int)<(if (4:Int)<(ns.length:Int) then 4 else (ns.length:Int)) then (if (4:Int)<(ns.length:Int) then 4 else (ns.length:Int)) else 1)=m/\(1<=m/\m<=4):=⟨_,rfl,by split <;> (try split) <;> lia⟩;refine⟨?_,?_,qlA (fun i O' U'=>U'=[TB tb]/\∃ v1 v2 v3 v4 v5 v6 v7 v8 v9,O'=[some (.d (.list (ns.map .int))),v1,v2,v3,v4,v5,v6,v7,v8,v9]) ⟨rfl,_,_,_,_,_,_,_,_,_,rfl⟩ ?_ ?_⟩
 .exact le_of_le_of_eq (show -(2 ^ 62)<=m by lia) em.symm
 .exact lt_of_eq_of_lt em (show m<2 ^ 62 by lia)
 .rintro i O' U' hi ⟨rfl,v1,v2,v3,v4,v5,v6,v7,v8,v9,rfl⟩;have hi:i<Int.toNat _:=hi;have hi2:i<m.toNat:=lt_of_lt_of_eq hi (congrArg Int.toNat em);refine⟨ns,i,by simp,hl,by lia,fun p hp=>?_⟩;refine⟨[],rfl,by decide,fun sm hsm=>⟨[],rfl,by decide,fun ks hks=>?_⟩⟩;refine⟨by decide,by decide,qlA (fun j O' U'=>∃ rs:List KR,rs.length=j/\(∀ r∈rs,Ok 10 r)/\U'=FR C p tb ks sm rs/\∃ v5 v6 v7 v8 v9,O'=[some (.d (.list (ns.map .int))),some (.d (.int (0+(i:Int)))),some (.m p),some (.m sm),some (.m ks),v5,v6,v7,v8,v9]) ⟨[],rfl,(fun _ h=>nomatch h),rfl,_,_,_,_,_,rfl⟩ ?_ ?_⟩
  .rintro j O' U' hj ⟨rs,hlen,hok,rfl,v5,v6,v7,v8,v9,rfl⟩;have hj:j<2:=hj;have mp:(p,PC0)∈FR C p tb ks sm rs:=by simp[mu0]
   have msm:(sm,MO.refs (rs.reverse.map (·.q)))∈FR C p tb ks sm rs:=by simp[mu0]
   refine⟨zl0,p,[],rfl,mp,by decide,(fun _ h=>nomatch h),fun A lA hA=>?_⟩;refine⟨p,A,rfl,mp,by lia,hA,fun B lB hB=>?_⟩;refine⟨_,.l (.d _),fun a ha=>⟨_,.l (.d _),fun b hb=>⟨[a,b],rfl,(show 2<=4000 by decide),fun hd hhd=>?_⟩⟩⟩;refine⟨p,_,rfl,qd _ (qd _ (qd _ mp)),by decide,by decide,fun d d0 d1=>JR (fun c=>?_) (fun c=>?_)⟩
   .refine ⟨_,.l (.d _),_,a,qi,rfl,a,hd,1,[],_,[a,b],rfl,rfl,rfl,rfl,by decide,(show 1<2 by decide),?_⟩;show _;refine⟨sm,_,rfl,qd _ (qd _ (qd _ msm)),zl2,fun q hq=>?_⟩;refine⟨q,(q,.lst [.list (A.map ptD),.list (A.map ptD)])::(hd,MO.refs [a,a])::(b,.lst (B.map ptD))::(a,.lst (A.map ptD))::(fr C rs++[(ks,.refs (rs.reverse.map (·.kp)))]),[(p,PC0),TB tb],rs.reverse.map (·.q),rfl,by simp[mu0],by rw[qc,List.length_reverse];lia,?_⟩;refine⟨ks,rs.reverse.map (·.kp),rfl,by simp,[a,a],a,by simp,rfl,[a,a],a,by simp,rfl,fun kp dx hkp=>?_⟩;refine⟨kp,dx,A,A,.m a,.m a,_,rfl,rfl,.m (by simp),.m (by simp),by lia,jy hA,jy hA,by simp,fun h ls hL h4 hlb=>⟨rfl,?_⟩⟩;refine⟨kp,(h,KH A A)::(kp,KI C dx h ls)::(q,KH A A)::(hd,MO.refs [a,a])::(b,.lst (B.map ptD))::(a,.lst (A.map ptD))::fr C rs,[(sm,.refs (rs.reverse.map (·.q)++[q])),(p,PC0),TB tb],rs.reverse.map (·.kp),rfl,by simp[KH,hpD],by rw[qc,List.length_reverse];lia,?_⟩;have e2:∀ o,((h,KH A A)::(kp,KI C dx h ls)::(q,KH A A)::(hd,MO.refs [a,a])::(b,MO.lst (B.map ptD))::(a,.lst (A.map ptD))::fr C rs)++(ks,o)::[(sm,.refs (rs.reverse.map (·.q)++[q])),(p,PC0),TB tb]=(h,KH A A)::(kp,KI C dx h ls)::(q,KH A A)::(hd,MO.refs [a,a])::(b,.lst (B.map ptD))::(a,.lst (A.map ptD))::(fr C rs++[(ks,o),(sm,.refs (rs.reverse.map (·.q)++[q])),(p,PC0),TB tb]):=fun o=>by simp
    rw[e2];refine⟨[a,a],a,by simp,rfl,⟨A.map ptD,by simp⟩,zl2,[(h,KH A A),(kp,KI C dx h ls),(q,KH A A),(hd,MO.refs [a,a]),(b,.lst (B.map ptD))],_,_,rfl,by rw[qc];lia,?_⟩;refine⟨[a,a],a,by simp,rfl,a,[(h,KH A A),(kp,KI C dx h ls),(q,KH A A),(hd,MO.refs [a,a]),(b,.lst (B.map ptD))],_,_,rfl,rfl,?_⟩;exact⟨_,_,Wk.sub (.cons₂ _ (.cons₂ _ (.cons₂ _ (.cons _ (.cons _ (.cons _ (.refl _))))))),⟨h,kp,dx,q,A,A,ls⟩::rs,by simp[hlen],fun r hr'=>by
     rcases qG.mp hr' with rfl | hr'
     .exact ⟨by show A.length+A.length<=10;lia,hA,hA,hL⟩
     .exact hok r hr',by simp[FR,mu0,fr],_,_,_,_,_,rfl⟩
   .show _;refine⟨sm,_,rfl,qd _ (qd _ (qd _ msm)),zl2,fun q hq=>?_⟩;refine⟨q,(q,.lst [.list (A.map ptD),.list (B.map ptD)])::(hd,MO.refs [a,b])::(b,.lst (B.map ptD))::(a,.lst (A.map ptD))::(fr C rs++[(ks,.refs (rs.reverse.map (·.kp)))]),[(p,PC0),TB tb],rs.reverse.map (·.q),rfl,by simp[mu0],by rw[qc,List.length_reverse];lia,?_⟩;refine⟨ks,rs.reverse.map (·.kp),rfl,by simp,[a,b],a,by simp,rfl,[a,b],b,by simp,rfl,fun kp dx hkp=>?_⟩;refine⟨kp,dx,A,B,.m a,.m b,_,rfl,rfl,.m (by simp),.m (by simp),by lia,jy hA,jy hB,by simp,fun h ls hL h4 hlb=>⟨rfl,?_⟩⟩;refine⟨kp,(h,KH A B)::(kp,KI C dx h ls)::(q,KH A B)::(hd,MO.refs [a,b])::(b,.lst (B.map ptD))::(a,.lst (A.map ptD))::fr C rs,[(sm,.refs (rs.reverse.map (·.q)++[q])),(p,PC0),TB tb],rs.reverse.map (·.kp),rfl,by simp[KH,hpD],by rw[qc,List.length_reverse];lia,?_⟩;have e2:∀ o,((h,KH A B)::(kp,KI C dx h ls)::(q,KH A B)::(hd,MO.refs [a,b])::(b,MO.lst (B.map ptD))::(a,.lst (A.map ptD))::fr C rs)++(ks,o)::[(sm,.refs (rs.reverse.map (·.q)++[q])),(p,PC0),TB tb]=(h,KH A B)::(kp,KI C dx h ls)::(q,KH A B)::(hd,MO.refs [a,b])::(b,.lst (B.map ptD))::(a,.lst (A.map ptD))::(fr C rs++[(ks,o),(sm,.refs (rs.reverse.map (·.q)++[q])),(p,PC0),TB tb]):=fun o=>by simp
    rw[e2];refine⟨[a,b],a,by simp,rfl,⟨A.map ptD,by simp⟩,zl2,[(h,KH A B),(kp,KI C dx h ls),(q,KH A B),(hd,MO.refs [a,b]),(b,.lst (B.map ptD))],_,_,rfl,by rw[qc];lia,?_⟩;refine⟨[a,b],b,by simp,rfl,b,[(h,KH A B),(kp,KI C dx h ls),(q,KH A B),(hd,MO.refs [a,b])],_,_,rfl,rfl,?_⟩;exact⟨_,_,Wk.sub (.cons₂ _ (.cons₂ _ (.cons₂ _ (.cons _ (.cons _ (.cons _ (.refl _))))))),⟨h,kp,dx,q,A,B,ls⟩::rs,by simp[hlen],fun r hr'=>by
     rcases qG.mp hr' with rfl | hr'
     .exact ⟨by show A.length+B.length<=10;lia,hA,hB,hL⟩
     .exact hok r hr',by simp[FR,mu0,fr],_,_,_,_,_,rfl⟩
  .rintro O' U' ⟨rs,hlen,hok,rfl,v5,v6,v7,v8,v9,rfl⟩;have hlen:rs.length=2:=hlen;obtain⟨r1,r0,rfl⟩:∃ r1 r0,rs=[r1,r0]:=by
    match rs,hlen with
    | [a,b],_=>exact⟨a,b,rfl⟩
   have ok1:=hok r1 (by simp);have ok0:=hok r0 (by simp);clear hok;refine⟨p,_,rfl,by simp[mu0],by decide,by decide,fun n n0 n1=>⟨by lia,by lia,?_⟩⟩;refine qlA (fun j O' U'=>∃ r1 r0:KR,Ok (10+j) r1/\Ok (10+j) r0/\U'=FM C p tb ks sm r1 r0/\∃ v5 v6 v7 v8 v9,O'=[some (.d (.list (ns.map .int))),some (.d (.int (0+(i:Int)))),some (.m p),some (.m sm),some (.m ks),v5,v6,v7,v8,v9])
    ⟨r1,r0,ok1,ok0,rfl,_,_,_,_,_,rfl⟩ ?_ ?_
   .clear ok1 ok0;rintro j O' U' hj ⟨r1,r0,ok1,ok0,rfl,v5,v6,v7,v8,v9,rfl⟩;have hj:j<n.toNat:=hj;refine⟨p,_,rfl,by simp[mu0],by decide,by decide,fun d d0 d1=>?_⟩;have hd:d=0\/d=1:=by lia
    have mks:(ks,MO.refs [r0.kp,r1.kp])∈FM C p tb ks sm r1 r0:=by simp[mu0]
    have msm:(sm,MO.refs [r0.q,r1.q])∈FM C p tb ks sm r1 r0:=by simp[mu0]
    rcases hd with rfl | rfl
    .refine ⟨_,r0.kp,mks,rfl,_,r0.q,msm,rfl,?_⟩;refine⟨p,r0.kp,r0.dx,r0.h,r0.q,r0.A,r0.B,r0.ls,[(r1.h,KH r1.A r1.B),(r1.kp,KI C r1.dx r1.h r1.ls),(r1.q,KH r1.A r1.B)],_,rfl,rfl,by simp[mu0],by simp[mu0],?_,ok0.2.1,ok0.2.2.1,ok0.2.2.2,fun A' B' ls' hl' hA' hB' hL'=>?_⟩
     .have:=ok0.1;lia
     .exact Wks.of ⟨r1,⟨r0.h,r0.kp,r0.dx,r0.q,A',B',ls'⟩,ok1.mono (by lia),⟨by have:=ok0.1;show A'.length+B'.length<=_;lia,hA',hB',hL'⟩,rfl,_,_,_,_,_,rfl⟩
    .refine ⟨_,r1.kp,mks,rfl,_,r1.q,msm,rfl,?_⟩;refine⟨p,r1.kp,r1.dx,r1.h,r1.q,r1.A,r1.B,r1.ls,[],_,rfl,rfl,by simp[mu0,fr],by simp[mu0,fr],?_,ok1.2.1,ok1.2.2.1,ok1.2.2.2,fun A' B' ls' hl' hA' hB' hL'=>?_⟩
     .have:=ok1.1;lia
     .exact Wks.of ⟨⟨r1.h,r1.kp,r1.dx,r1.q,A',B',ls'⟩,r0,⟨by have:=ok1.1;show A'.length+B'.length<=_;lia,hA',hB',hL'⟩,ok0.mono (by lia),rfl,_,_,_,_,_,rfl⟩
   .clear ok1 ok0;rintro O' U' ⟨r1,r0,ok1,ok0,rfl,v5,v6,v7,v8,v9,rfl⟩;have o1:Ok 16 r1:=ok1.mono (by lia);have o0:Ok 16 r0:=ok0.mono (by lia);refine⟨by decide,by decide,qlA (fun j O' U'=>U'=FM C p tb ks sm r1 r0/\∃ v5 v6 v7 v8 v9,O'=[some (.d (.list (ns.map .int))),some (.d (.int (0+(i:Int)))),some (.m p),some (.m sm),some (.m ks),v5,v6,v7,v8,v9]) ⟨rfl,_,_,_,_,_,rfl⟩ ?_ ?_⟩
    .rintro j O' U' hj ⟨rfl,v5,v6,v7,v8,v9,rfl⟩;have hj:j<2:=hj;have one:∀ r:KR,Ok 16 r->(r.h,KH r.A r.B)∈FM C p tb ks sm r1 r0->(r.kp,KI C r.dx r.h r.ls)∈FM C p tb ks sm r1 r0->(r.q,KH r.A r.B)∈FM C p tb ks sm r1 r0->r.ls.length<=2000/\∀ ms,qg8 r.A r.B ms->ms=r.ls:=fun r o _ _ _=>by refine⟨qt (qcT o.2.2.2) (qt (jW o.1 o.1) (by decide)),fun ms hM=>qbn hM.1 o.2.2.2.1 fun l=>(hM.2 l).trans (o.2.2.2.2 l).symm⟩
     have mks:(ks,MO.refs [r0.kp,r1.kp])∈FM C p tb ks sm r1 r0:=by simp[mu0]
     have msm:(sm,MO.refs [r0.q,r1.q])∈FM C p tb ks sm r1 r0:=by simp[mu0]
     match j,hj with
     | 0,_ =>
      have h1:(r0.h,KH r0.A r0.B)∈FM C p tb ks sm r1 r0:=by simp[fr]
      have h2:(r0.kp,KI C r0.dx r0.h r0.ls)∈FM C p tb ks sm r1 r0:=by simp[fr]
      have h3:(r0.q,KH r0.A r0.B)∈FM C p tb ks sm r1 r0:=by simp[fr]
      obtain⟨g1,g2⟩:=one r0 o0 h1 h2 h3;have g0:=o0.1;refine⟨_,r0.kp,mks,rfl,_,r0.q,msm,rfl,_,r0.q,msm,rfl,_,_,h3,yP (j:=0) rfl,_,r0.q,msm,rfl,_,_,h3,yP (j:=1) rfl,r0.A,r0.B,rfl,by lia,jy o0.2.1,jy o0.2.2.1,fun ms hM=>?_⟩;rw[g2 ms hM];exact⟨r0.kp,r0.dx,r0.h,r0.q,r0.A,r0.B,r0.ls,rfl,h2,h1,h3,by lia,by lia,g1,Wks.of ⟨rfl,_,_,_,_,_,rfl⟩⟩
     | 1,_ =>
      have h1:(r1.h,KH r1.A r1.B)∈FM C p tb ks sm r1 r0:=by simp[fr]
      have h2:(r1.kp,KI C r1.dx r1.h r1.ls)∈FM C p tb ks sm r1 r0:=by simp[fr]
      have h3:(r1.q,KH r1.A r1.B)∈FM C p tb ks sm r1 r0:=by simp[fr]
      obtain⟨g1,g2⟩:=one r1 o1 h1 h2 h3;have g0:=o1.1;refine⟨_,r1.kp,mks,rfl,_,r1.q,msm,rfl,_,r1.q,msm,rfl,_,_,h3,yP (j:=0) rfl,_,r1.q,msm,rfl,_,_,h3,yP (j:=1) rfl,r1.A,r1.B,rfl,by lia,jy o1.2.1,jy o1.2.2.1,fun ms hM=>?_⟩;rw[g2 ms hM];exact⟨r1.kp,r1.dx,r1.h,r1.q,r1.A,r1.B,r1.ls,rfl,h2,h1,h3,by lia,by lia,g1,Wks.of ⟨rfl,_,_,_,_,_,rfl⟩⟩
    .rintro O' U' ⟨rfl,v5,v6,v7,v8,v9,rfl⟩;exact⟨_,_,Wk.sub (by simp only[FM,fr,mu0,List.cons_append,List.nil_append];exact .cons _ (.cons _ (.cons _ (.cons _ (.cons _ (.cons _ (.cons _ (.cons _ (.cons _ (.refl _)))))))))),rfl,_,_,_,_,_,_,_,_,_,rfl⟩
 .rintro O' U' ⟨rfl,v1,v2,v3,v4,v5,v6,v7,v8,v9,rfl⟩;exact k _
end K91
namespace L2
end L2
namespace K91
variable {st:Stmt}{sl:Array (Option Value)}{dc:Value}
structure FIn (K:W.Frag) (x:Str) (st:Stmt) (f:Addr) (fd:FuncData):Prop where
 a:W.nsIn K mainGlobals x=some (some (.ref f))
 F:Fun K x x st f fd
 k:W.keepIn K (.ref f)=true
theorem fin_mk {kV:Value}(a:W.nsIn K mainGlobals x=some (some (.ref f))) (l:K.lookup f=some ⟨oc,od,.func (W.fnOf x x (jJ st) (yY st) (qq st) .none kV dc pm an cd ct),sl⟩) (c:W.codeIn K cd x=true) (k:W.keepIn K (.ref f)=true):FIn K x st f (W.fnOf x x (jJ st) (yY st) (qq st) .none kV dc pm an cd ct):=⟨a,qgp l c k,k⟩
theorem qmF {P:Program}{w:World}{K:W.Frag}{h:Heap}{mg:Str->Option Value}{base:Heap}{CX:CXT}(X:K.In h) (Ga:h.Ns mainGlobals mg) {x:Str}{st:Stmt}{f:Addr}{fd:FuncData}{k:Nat}{ps:List Str}{sp:Sp}(g:FIn K x st f fd) (o:FnOk P w K mg base CX k f fd ps sp) (b:∀ (kV doc pm:Value) (an:Option Addr) (Oh ct:Value) (us:List Value),us.length=ps.length->bindArgs (W.fnOf x x (jJ st) (yY st) (qq st) .none kV doc pm an Oh ct) ⟨us,[]⟩=pure (ps.zip us):=by intro _ _ _ _ _ _ us hl;first | (obtain⟨_,rfl⟩:=L2.lenIs1 hl rfl;rfl) | (obtain⟨_,_,rfl⟩:=L2.lenIs2 hl rfl;rfl) | (obtain⟨_,_,_,rfl⟩:=L2.lenIs3 hl rfl;rfl) | (obtain⟨_,_,_,_,rfl⟩:=L2.lenIs4 hl rfl;rfl) | (obtain⟨_,_,_,_,_,rfl⟩:=L2.lenIs5 hl rfl;rfl)):Own P w K mg base CX k x ps sp:=⟨_,_,o,W.mg_of X Ga g.a,g.k,g.F.binds b⟩
theorem qke {P:Program}{w:World}{K:W.Frag}{h:Heap}{mg:Str->Option Value}{base:Heap}{CX:CXT}(X:K.In h) (Ga:h.Ns mainGlobals mg) {x:Str}{st:Stmt}{f:Addr}{fd:FuncData}{k:Nat}{ps:List Str}{sp:Sp}(g:FIn K x st f fd) (o:FnU P w K mg base CX k f fd ps sp) (b:∀ (kV doc pm:Value) (an:Option Addr) (Oh ct:Value) (us:List Value),us.length=ps.length->bindArgs (W.fnOf x x (jJ st) (yY st) (qq st) .none kV doc pm an Oh ct) ⟨us,[]⟩=pure (ps.zip us):=by intro _ _ _ _ _ _ us hl;first | (obtain⟨_,rfl⟩:=L2.lenIs1 hl rfl;rfl) | (obtain⟨_,_,rfl⟩:=L2.lenIs2 hl rfl;rfl) | (obtain⟨_,_,_,rfl⟩:=L2.lenIs3 hl rfl;rfl) | (obtain⟨_,_,_,_,rfl⟩:=L2.lenIs4 hl rfl;rfl) | (obtain⟨_,_,_,_,_,rfl⟩:=L2.lenIs5 hl rfl;rfl)):qlF P w K mg base CX k x ps sp:=⟨_,_,o,W.mg_of X Ga g.a,g.k,g.F.binds b⟩
structure MIn (K:W.Frag) (C:Addr) (x q:Str) (st:Stmt) (f:Addr) (fd:FuncData):Prop where
 a:W.findIn K (.ref C) x=some (some (.ref f))
 i:W.isFn K (.ref f)=true
 F:Fun K x q st f fd
 k:W.keepIn K (.ref f)=true
theorem min_mk {q:Str}{kV:Value}(a:W.findIn K (.ref C) x=some (some (.ref f))) (i:W.isFn K (.ref f)=true) (l:K.lookup f=some ⟨oc,od,.func (W.fnOf x q (jJ st) (yY st) (qq st) .none kV dc pm an cd ct),sl⟩) (c:W.codeIn K cd q=true) (k:W.keepIn K (.ref f)=true):MIn K C x q st f (W.fnOf x q (jJ st) (yY st) (qq st) .none kV dc pm an cd ct):=⟨a,i,qgp l c k,k⟩
theorem qkE {P:Program}{w:World}{K:W.Frag}{mg:Str->Option Value}{base:Heap}{CX:CXT}{C:Addr}(c:Cls K C) {x q:Str}{st:Stmt}{f:Addr}{fd:FuncData}{k:Nat}{ps:List Str}{sp:Sp}(g:MIn K C x q st f fd) (o:FnOk P w K mg base CX k f fd ps sp) (b:∀ (kV doc pm:Value) (an:Option Addr) (Oh ct:Value) (us:List Value),us.length=ps.length->bindArgs (W.fnOf x q (jJ st) (yY st) (qq st) .none kV doc pm an Oh ct) ⟨us,[]⟩=pure (ps.zip us):=by intro _ _ _ _ _ _ us hl;first | (obtain⟨_,rfl⟩:=L2.lenIs1 hl rfl;rfl) | (obtain⟨_,_,rfl⟩:=L2.lenIs2 hl rfl;rfl) | (obtain⟨_,_,_,rfl⟩:=L2.lenIs3 hl rfl;rfl) | (obtain⟨_,_,_,_,rfl⟩:=L2.lenIs4 hl rfl;rfl) | (obtain⟨_,_,_,_,_,rfl⟩:=L2.lenIs5 hl rfl;rfl)):y3 P w K mg base CX k C x ps sp:=⟨_,_,o,c,⟨g.a,g.i,g.k⟩,g.F.binds b⟩
theorem all_mk {l:W.OpenLaw}{fa:Addr}(X:K.In h) (Ga:h.Ns mainGlobals mg) (hfa:mg "law" = some (.ref fa))
   (aC_Keeper:W.nsIn K mainGlobals "Keeper" = some (some (.ref C))) (pg_Keeper:W.plainGet K C Str.empty=true) (hd_Keeper:W.hasDictIn K C=true) (po_Keeper:W.plainOver K C=true) (sa_Keeper:W.findIn K (.ref C) "__setattr__" = some (some (.builtin "object.__setattr__"))) (mk_Keeper:W.makesIn K C=true) (kc_Keeper:W.keepIn K (.ref C)=true) (n_Keeper_heaps:W.findIn K (.ref C) "heaps" = some none) (n_Keeper_kept:W.findIn K (.ref C) "kept" = some none)
  {f0 f1 f2 f3 f4 f5 f6 f7 f8 f9 f10 f11 f12 f13 f14 f15 f16 f17 f18 f19 f20 f21 f22 f23 f24 f25 f26 f27 f28 f29 f30 f31 f32 f33 f34 f35 f36 f37 f38 f39 f40 f41 f42 f43 f44 f45:Addr}{d0 d1 d2 d3 d4 d5 d6 d7 d8 d9 d10 d11 d12 d13 d14 d15 d16 d17 d18 d19 d20 d21 d22 d23 d24 d25 d26 d27 d28 d29 d30 d31 d32 d33 d34 d35 d36 d37 d38 d39 d40 d41 d42 d43 d44 d45:FuncData}
  (g0:FIn K "_law_cell" Zd f0 d0)
  (g1:FIn K "_law_store" YD f1 d1)
  (g2:FIn K "_law_draw" Zc f2 d2)
  (g3:FIn K "_law_far" Z2 f3 d3)
  (g4:FIn K "_law_number" Yg f4 d4)
  (g5:FIn K "_law_point" Jc f5 d5)
  (g6:FIn K "_law_heap" Zb f6 d6)
  (g7:FIn K "common_divisor" Jb f7 d7)
  (g8:FIn K "lead" qjR f8 d8)
  (g9:FIn K "through" qaP f9 d9)
  (g10:FIn K "sign" qjP f10 d10)
  (g11:FIn K "side" qjQ f11 d11)
  (g12:FIn K "sign_counts" Yf f12 d12)
  (g13:FIn K "is_even_share" JA f13 d13)
  (g14:FIn K "counts" qaT f14 d14)
  (g15:FIn K "halves" qcn f15 d15)
  (g16:FIn K "places" qcl f16 d16)
  (g17:FIn K "place_pairs" Jo f17 d17)
  (g18:FIn K "line_key" ZZ f18 d18)
  (g19:FIn K "lines_in_order" jx f19 d19)
  (g20:FIn K "joining_lines" jO f20 d20)
  (g21:FIn K "all_lines" Yv f21 d21)
  (g22:FIn K "find_place" Ja f22 d22)
  (g23:FIn K "shrunk" ZY f23 d23)
  (g24:FIn K "stepped" YS f24 d24)
  (g25:FIn K "grown" qeK f25 d25)
  (g26:FIn K "lines_without" jN f26 d26)
  (g27:MIn K C "__init__" "Keeper.__init__" j3 f27 d27)
  (g28:MIn K C "heap" "Keeper.heap" Yi f28 d28)
  (g29:MIn K C "lines" "Keeper.lines" JV f29 d29)
  (g30:MIn K C "put" "Keeper.put" YF f30 d30)
  (g31:MIn K C "come" "Keeper.come" Yj f31 d31)
  (g32:MIn K C "go" "Keeper.go" JG f32 d32)
  (g33:MIn K C "step" "Keeper.step" jU f33 d33)
  (g34:FIn K "_law_lacks" YE f34 d34)
  (g35:FIn K "_law_done" JF f35 d35)
  (g36:FIn K "_law_divisor" JU f36 d36)
  (g37:FIn K "_law_line" Za f37 d37)
  (g38:FIn K "_law_comes_first" jG f38 d38)
  (g39:FIn K "_law_in_order" jP f39 d39)
  (g40:FIn K "_law_halves" jT f40 d40)
  (g41:FIn K "_law_all" Z3 f41 d41)
  (g42:FIn K "_law_behind" Yh f42 d42)
  (g43:FIn K "_law_news" JE f43 d43)
  (g44:FIn K "_law_stands" Jq f44 d44)
  (g45:FIn K "_law_deed_right" jb f45 d45)
  {f46:Addr}{od46 an46:Option Addr}{sl46:Array (Option Value)}{oc46 kV46 dc46 pm46 cd46 ct46:Value}
  (a46:W.nsIn K mainGlobals "law" = some (some (.ref f46))) (l46:K.lookup f46=some ⟨oc46,od46,.func (W.fnOf "law" "law" (jJ qhj) (yY qhj) (qq qhj) .none kV46 dc46 pm46 an46 cd46 ct46),sl46⟩) (c46:W.codeIn K cd46 "law" = true) (k46:W.keepIn K (.ref f46)=true)
  (z0:W.nsIn K mainGlobals "len" = some none)
  (z1:W.nsIn K mainGlobals "range" = some none)
  (z2:W.nsIn K mainGlobals "max" = some none)
  (z3:W.nsIn K mainGlobals "min" = some none)
  (z4:W.nsIn K mainGlobals "abs" = some none)
  (z5:W.nsIn K mainGlobals "int" = some none)
  (z6:W.nsIn K mainGlobals "isinstance" = some none)
  (z7:W.nsIn K mainGlobals "tuple" = some none)
  (z8:W.nsIn K mainGlobals "bool" = some none)
  (z9:W.nsIn K mainGlobals "list" = some none)
  (z10:W.nsIn K mainGlobals "all" = some none)
  (z11:W.nsIn K mainGlobals "any" = some none)
  (z12:W.nsIn K mainGlobals "set" = some none)
  (z13:W.nsIn K mainGlobals "sorted" = some none)
  (z14:W.nsIn K mainGlobals "str" = some none)
  (z15:W.nsIn K mainGlobals "enumerate" = some none)
  (z16:W.nsIn K mainGlobals "zip" = some none)
  (z17:W.nsIn K mainGlobals "divmod" = some none)
   (aL:W.nsIn K mainGlobals "LineError" = some (some (.ref CL)))
  (aN:W.nsIn K mainGlobals "Lacking" = some (some (.ref CN)))
  (b1_:W.nsIn K mainGlobals "Empty" = some (some (.ref C1)))
  (b2_:W.nsIn K mainGlobals "NoLine" = some (some (.ref C2)))
  (b3_:W.nsIn K mainGlobals "NoText" = some (some (.ref C3)))
  (b4_:W.nsIn K mainGlobals "NoFlat" = some (some (.ref C4)))
  (b5_:W.nsIn K mainGlobals "NoShare" = some (some (.ref C5)))
  (b6_:W.nsIn K mainGlobals "NoRows" = some (some (.ref C6)))
  (b7_:W.nsIn K mainGlobals "NoRow" = some (some (.ref C7)))
  (b8_:W.nsIn K mainGlobals "NoName" = some (some (.ref C8)))
  (zV:W.nsIn K mainGlobals "ValueError" = some none)
  (q1:W.excIn K CN bmV "ValueError.__new__" = true)
  (x1:W.findIn K (.ref CN) "__getattribute__" = some (some (.builtin "BaseException.__getattribute__")))
  (x2:W.findIn K (.ref CN) "__getattr__" = some none)
  (x3:W.findIn K (.ref CN) "__class__" = some (some (.builtin "object.__class__")))
  (x4:W.specialIn K (.builtin "object.__class__") "__get__" = some (some (.builtin "getset_descriptor.__get__")))
  (x5:W.takesIn K (.builtin "object.__class__")=some true)
  (x6:W.mroIn K CN (.type "object")=some true)
  (x7:W.mroIn K CN (.type "BaseException")=some true)
  (x8:(W.clsIn K CN).isSome=true)
  (m1:W.exmOne K (.ref CN) (.ref CL)=some true)
  (i1:W.kitOne K (.ref CN) (.type "ValueError")=some true)
  (i2:W.kitAny K (.ref CN) [.ref C1,.ref C2,.ref C3,.ref C4,.ref C5,.ref C6,.ref C7,.ref C8]=some false)
  (m2:W.exmOne K (.ref CN) (.ref CN)=some true)
  (hcd_:d19.code=Value.ref 207)
  (ch_:W.codeHdIn K 207 205=true)
  : ∃ fd:FuncData,(∀ (s:Shared) (v:Value),BindsTo s fd ⟨[v],[]⟩ [("_law_script",v)])/\∀ base:Heap,K.In base->base.Ns mainGlobals mg->qau base mg->FnOk l.prog w K mg base (XC l.prog w) 12 fa fd ["_law_script"] (qc1 K 205):=by
 have e:=hfa.symm.trans (W.mg_of X Ga a46);cases e
 have T:Txt mg:=⟨W.mg_none_of X Ga z0,W.mg_none_of X Ga z1,W.mg_none_of X Ga z2,W.mg_none_of X Ga z3,W.mg_none_of X Ga z4,W.mg_none_of X Ga z5,W.mg_none_of X Ga z6,W.mg_none_of X Ga z7,W.mg_none_of X Ga z8,W.mg_none_of X Ga z9,W.mg_none_of X Ga z10,W.mg_none_of X Ga z11,W.mg_none_of X Ga z12,W.mg_none_of X Ga z13,W.mg_none_of X Ga z14,W.mg_none_of X Ga z15,W.mg_none_of X Ga z16,W.mg_none_of X Ga z17⟩;have Oc:TxtK K C:=⟨⟨pg_Keeper,hd_Keeper,po_Keeper,sa_Keeper⟩,n_Keeper_heaps,n_Keeper_kept⟩;have TC:TxtC K mg CL CN C1 C2 C3 C4 C5 C6 C7 C8:=⟨T.isinstance_,W.mg_none_of X Ga zV,W.mg_of X Ga aL,W.mg_of X Ga aN,W.mg_of X Ga b1_,W.mg_of X Ga b2_,W.mg_of X Ga b3_,W.mg_of X Ga b4_,W.mg_of X Ga b5_,W.mg_of X Ga b6_,W.mg_of X Ga b7_,W.mg_of X Ga b8_,q1,⟨x1,x2,x3,x4,x5,x6,x7,x8⟩,m1,i1,i2,m2⟩;have F46:=qgp (st:=qhj) l46 c46 k46;refine⟨W.fnOf "law" "law" (jJ qhj) (yY qhj) (qq qhj) .none kV46 dc46 pm46 an46 cd46 ct46,fun s v=>.of_eq rfl,fun base Kb Gb hB=>?_⟩;have mk:=@qmF l.prog w K h mg base (XC l.prog w) X Ga;have mkU:=@qke l.prog w K h mg base (XC l.prog w) X Ga;have mkKeeper:=@qkE l.prog w K mg base (XC l.prog w) C Oc.cl;have OP:=mk g0 (qkz g0.F T);have OO:=mk g1 (qhK g1.F T YX OP);have Od:=mk g2 (qkx g2.F T);have OT:=mk g3 (qmW g3.F T YX Od);have Op:=mk g4 (qfG g4.F YX Od OT);have On:=mk g5 (qhL g5.F T YX Od Op);have ON:=mk g6 (qkw g6.F T YX Od On);have OA:=mk g7 (ok_cd g7.F T);have Mb:=mk g8 (qkq g8.F YX OA);have OX:=mk g9 (qd0 g9.F YX Mb);have Mc:=mk g10 (qkk g10.F );have Md:=mk g11 (qkl g11.F YX Mc);have OJ:=mk g12 (qmM g12.F );have OD:=mk g13 (ok_ev g13.F );have OY:=mk g14 (qfL g14.F YX OJ Md);have OV:=mk g15 (qfK g15.F YX OD OY);have OZ:=mk g16 (qfF g16.F T);have OK:=mk g17 (ok_pp g17.F T YX OZ);have OU:=mk g18 (qko g18.F );have OB:=mk g19 (qmP g19.F hcd_ hB (W.codeHd_of_K Kb ch_) T YX OU);have OE:=mk g20 (qkv g20.F T YX OK OX OB);have Ov:=mk g21 (qmY g21.F T YX OE OV);have Of:=mk g22 (ok_fp g22.F TC);have OG:=mk g23 (qmL g23.F YX Of);have Oz:=mk g24 (qmJ g24.F YX Of);have Ma:=mk g25 (qmT g25.F );have Ot:=mk g26 (ok_lw g26.F T);have CKeeper:OwnM l.prog w K mg base (XC l.prog w) 8 "Keeper" C ["self", "one", "other"] (yq K (qjV C 205)):=⟨_,_,qhO g27.F Oc T YX Ov,W.mg_of X Ga aC_Keeper,⟨mk_Keeper,g27.a,g27.i,kc_Keeper⟩,g27.F.binds (by intro _ _ _ _ _ _ us hl;first | (obtain⟨_,rfl⟩:=L2.lenIs1 hl rfl;rfl) | (obtain⟨_,_,rfl⟩:=L2.lenIs2 hl rfl;rfl) | (obtain⟨_,_,_,rfl⟩:=L2.lenIs3 hl rfl;rfl) | (obtain⟨_,_,_,_,rfl⟩:=L2.lenIs4 hl rfl;rfl) | (obtain⟨_,_,_,_,_,rfl⟩:=L2.lenIs5 hl rfl;rfl))⟩;have Oq:=mkKeeper g28 (qhP g28.F Oc T);have Oy:=mkKeeper g29 (qfJ g29.F Oc T);have Oe:=mkKeeper g30 (qks g30.F Oc YX Ov Ot);have Ol:=mkKeeper g31 (qhQ g31.F Oc YX Oe Ma);have Oo:=mkKeeper g32 (qmS g32.F Oc YX Oe OG);have Oj:=mkKeeper g33 (qhN g33.F Oc YX Oe Oz);have Os:=mkU g34 (qhM g34.F TC);have Me:=Os.own;have OQ:=mk g35 (qky g35.F TC YX Ol Oo Oj Os);have OI:=mk g36 (qkr g36.F T);have OL:=mk g37 (qkp g37.F YX OI);have Ou:=mk g38 (qhR g38.F );have OF:=mk g39 (qmN g39.F T YX Ou);have OC:=mk g40 (qmQ g40.F T);have Ow:=mk g41 (ok_la g41.F T YX OL OC OF);have OM:=mk g42 (qmX g42.F );have OR:=mk g43 (qmO g43.F T);have Om:=mk g44 (qmK g44.F T YX Oq Oy);have Ox:=mk g45 (ok_dr g45.F T YX Od On Ow OQ OM OR Om);exact (qmR F46 T YX OO ON Od CKeeper Ox Om Ow).imp (fun _ _ _ _ h=>qkJ h)
theorem walk {l:W.OpenLaw}{q:Program}{d:DefRec}{K:Params->W.Frag}(hn:l.most=some 63) (hdf:d.params.defaults=[])
  (hY:∀ (w:World) (h:Heap),YP w h->(K w.params).In h)
  (hYt:∀ (w:World) (h:Heap),YP w h->h.get? 205=some (W.tabObj #[])) (hKt:∀ w:World,(K w.params).lookup 205=none) (hCt:∀ w:World,W.codeHdIn (K w.params) 207 205=true)
  (F:∀ (w:World) (mg:Str->Option Value) (fa:Addr) (h:Heap),(K w.params).In h->h.Ns mainGlobals mg->mg d.name=some (.ref fa) →
   ∃ fd:FuncData,(∀ (s:Shared) (u:Value),BindsTo s fd ⟨[u],[]⟩ [("_law_script",u)])/\∀ base:Heap,(K w.params).In base->base.Ns mainGlobals mg->qau base mg->FnOk l.prog w (K w.params) mg base (XC l.prog w) 12 fa fd ["_law_script"] (qc1 (K w.params) 205)) :
  W.WalkO q loose XP YP l.row.toRowW d [] (fun f vs=>PySem.call f vs) :=
 L2.walk_ofT (n:=63) (k:=12) (x := "_law_script") (CX:=fun w=>(XC l.prog w)) (sp:=fun w=>qc1 (K w.params) 205) 205 207 hn (by decide) hdf ⟨rfl,by decide,by decide⟩ hY hYt hKt hCt F (fun _ _ a ns hl ht hS=>⟨a,ns,rfl,hS,ht,hl,fun _=>rfl⟩) fun _ _ _ _ _ z=>YX _ _ _ _ _ z
end K91
structure PySem.W.Fast:Prop where
 (tw5171819021496558082 tw6787282008488117919 tw6843212041364816601 tw12153708489345247703 tw11177154779968086714 tw10623891662793972874 tw9971792877016129403 tw3335943460259755877 tw6573651719269333959 tw4095529671487580226 tw15383755218976869830 tw5801205297289749135 tw2816319909736651196 tw13563888122239295289 tw1356346192341422325 tw3142262395288641682 tw14191739531965473769 tw9501565472968142780 tw5519685782453131833 tw13985079668870262278 tw10679736838719376076 tw17731864437486565325 tw3340992418249400661 tw2897256605641849107 tw16341385302098734366 tw4587557841413766922 tw3993989696253451723 tw18317777051258662289 tw6113977169525071459 tw9993701351854841111 tw1154416331530350474 tw15816170649647976530 tw15504737434593930414 tw11945905335712320138 tw2622466301087447245 tw3898537579246381436 tw7927141158847985022 tw8785978088526829387 tw13154882117532896222 tw4981446373790633372 tw4718169716556449765 tw13927742310137888726 tw14055996893584317313 tw16508577709441690980 tw12483740840181874854 tw4720143287520008383 tw11567440703072291899 tw4003280054183477823 tw10507499531338400856 tw5793712167292753535 tw2228394461582915558 tw15737588121806457309 tw16779705209029540120 tw9924535910959972311 tw3471586913743520154 tw910966832363956285 tw1852054451160320154 tw18302149143243046274 tw11925260681208862628 tw9611012890013901773 tw3828541753452980738 tw10576259012097917433 tw11537006994011303651 tw10069247058110185967 tw15739592717720858977 tw9272531554644176969 tw6309682242652212952 tw9537229775168300164 tw10843439380728782522 tw6231434519877881701 tw16124825909329686558 tw2059552380912439539 tw8352390787875303776 tw15822613691508913458 tw15040184715847911103 tw17980620639009713460 tw9671931796386853025 tw14767339749762586557 tw17833964640395156298 tw15369053707733445891 tw5237615674536301124 tw11738578723387814477 tw6483341882598519821 tw15477229950547581851 tw10738264106401918895 tw9307388292803486404 tw11468658729189893799 tw11681775162628467652 tw17316585254224903027 tw14406395058353235786 tw1299119804686127264 tw3060448606558417742 tw5890941588251471173 tw18138360067963101142 tw7981281431733508464 tw2366415617317877380 tw1872336718550881566 tw8019070032517227294 tw13494084262060644544 tw8035922887270802085 tw13772210911311372988 tw5214772948400802402 tw13515694818372938783 tw5030492213202389443 tw7852866162233821121 tw7779224711120466706 tw12110732182254689290 tw12987589989085499851 tw9564473203832375147 tw4144578360318146281 tw7436997702887132707 tw16865098455961158185 tw11522031807595126163 tw11918175401612914225 tw1331645882552950226 tw6250751342902633533 tw18304492023757318868 tw3052298090174627826 tw11074582038954477771 tw1091448045908587280 tw1049593458729549186 tw6965190503795272938 tw12559438075973256700 tw7139766718400504182 tw14005833353101438752 tw10476269787863653812 tw8435898663729903812 tw8794582070805173571 tw6540484747716774845 tw15625212635870298907 tw18326556787760132605 tw71740260843778757 tw15322803675013401487 tw9438306914850156777 tw7430791391557174770 tw11868559616477757043 tw6341594036140828322 tw9417303421852783887 tw11251903179228038535 tw1423291289906746872 tw16237969685110269705 tw11556741199375534448 tw10246215576150746531 tw4102806412065600385 tw14394694059966702612 tw8737214664397267745 tw9172225674609957596 tw18074290449234396906 tw9903697902406018816 tw8002804961335373840 tw15331039462259700303 tw15863960195578270427 tw784018625907416589 tw3663735865039179291 tw8080819626379082500 tw12868385985848204612 tw13622715675035348005 tw897712821827657514 tw9396235419055361461 tw10723751646198802100 tw15254320446309189730 tw9980344226097377840 tw12834023115976269892 tw15074279723903995817 tw5932155514096789126 tw2924074213106221227 tw4173429049517109014 tw12704894653762508842 tw9723398925873972826 tw5244713842945126650 tw17625807308779257962 tw12640639065043678063 tw7437842683374586798 tw17128632607349950964 tw4594844206779440826 tw11276437721601617812 tw455279498263891163 tw2156737008616668721 tw11366935878200092773 tw5584171584278995456 tw5080661035382226308 tw10327414848798638986 tw10482390617939829247 tw16443958315595858688 tw8659906522036257886 tw11226451539985696594 tw12023075253048628609 tw1087427868324889755 tw11927821192876481590 tw11118271831541452369 tw7031106976563811007 tw1986132759977596470 tw18317486040625353426 tw17755776768133698612 tw13579819252417599551 tw7657696316056935121 tw18329061740510033919 tw6567782059780667221 tw5045890443018615993 tw4062142635073816845 tw3914104789142164639 tw3730085770384896389 tw17465704717702784471 tw7534381746499545909 tw11491146181789796421 tw4691538706167527599 tw7358357613856109887 tw7364374861207176399 tw7889380228786903546 tw11915702586909087553 tw12296713064884189042 tw1456566153811034339 tw8887613508687304134 tw4857633661105496194 tw11965452582436404731 tw17918808041209826016 tw12272806808931658029 tw522718704921832415 tw18228340280021065626 tw3963737587521313080 tw14958950310868784976 tw9377356591747577848 tw220612551290774219 tw4865710332081207945 tw17555929438529171971 tw7275773641269298538 tw16182348812687557044 tw1936030103684925226 tw15261914985974062728 tw8528177304384735396 tw17786692412266281689 tw3921705584661744132 tw7879770939427753482 tw7181737079746802627 tw12081011731599848595 tw14206055762812295433 tw8752115234833936567 tw7738380139223714740 tw17489406569320089528 tw15125800956249184892 tw5583038697954292463 tw3937637082503197624 tw6448923213634171394 tw14929802169972007720 tw10791082954276852091 tw7863213596621687415 tw3148881468713325716 tw9462759818531792335 tw10611685697984980362 tw4085350172508934409 tw17933494976131335697 tw4600889168106202207 tw3503930646591233907 tw15617081400896749026 tw13313078440034152346 tw6865891454790979959 tw7930914229778366988 tw15929663174127624056 tw7121952417340853112 tw7349714229322789674 tw610270372113210543 tw4863518985303127490 tw13645068000323060853 tw10193001358819104004 tw17523871369527642455 tw9395699232148848804 tw5550664363800949276 tw459170114393722262 tw13414616061187686020 tw11630911670247498279 tw15892805826384042475 tw13650933799033828239 tw1999423334774458207 tw10487387396578953076 tw13700872159682788402 tw13384170922768828902 tw16670718340772652319 tw10009325098333069724 tw5214172515392606274 tw15359683923139743089 tw101933473125533931 tw17375793514377611527 tw9853573588812474333 tw1707961245497506860 tw2109960533779854026 tw10590338987969875980 tw4449532862593145689 tw8099867366608679811 tw9923799775531941941 tw9217209138111284569 tw13908615869333669193 tw4392011635919512799 tw8790238961339393893 tw5036028302508272574 tw9072177952792766623 tw18054101495267502613 tw3620815303795277570 tw15552514782127023853 tw8147502606045238458 tw12564179851740456872 tw6230795122938871505 tw6314082944985261075 tw13737751023238324409 tw2114585734818824748 tw2706199980313046257 tw17922769216058552637 tw4494436330208808400 tw6258773556791521011 tw3367824288361605273 tw4326224805807399130 tw9461902002153679099 tw6341601075602943433 tw10991481240374018835 tw7995154897151020046 tw18268977735367340588 tw15038835976962419434 tw6984773809439405554 tw6067123820102186783 tw9144523155381232717 tw13922573609820017566 tw9677532216775699461 tw16188309611030200148 tw10859989192260896086 tw2854986910061282983 tw18008816792639238292 tw14454904997507752222 tw2110871285394752796 tw6950918693536630641 tw6743159748373275586 tw15876797050432261382 tw15804685360924419219 tw7157610166272867911 tw4074530960283661682 tw16716229543388190569 tw6358307452810012733 tw16850482849310265559 tw5720845650837776034 tw2644221458228387731 tw2453696453710028333 tw16024704002638483659 tw10716662763669291676 tw1536143660370525207 tw1987473292116529289 tw12902435296162106297 tw2135640966472465359 tw11339789703901682602 tw7458252523994425111 tw18407355578620323111 tw7310074012700111939 tw10143536338619893083 tw10524997544520076908 tw14019810918006340546 tw6269624586573166626 tw16607471973517785375 tw440002628236565173 tw14439887399067566526 tw13021556727523270617 tw1303815108708827087 tw15624725872546375462 tw12319738123135803609 tw5609682162396047903 tw2689898882533969918 tw443434500171429591 tw18404393956271670526 tw8225662198543404330 tw15818951056052935201 tw6382897762265454088 tw13529574963971117314 tw17513583945625156596 tw565966461253464726 tw12819823408835498917 tw6443307400225300260 tw655901452664313961 tw1349198047098435848 tw11955946178866262759 tw5474260216037518001 tw8964416901899891629 tw15392466346734676675 tw4834279929335598368 tw9648425201662657958 tw3612462608877655005 tw2264794857053452427 tw2824964648049315916 tw7956336226753519721 tw11055614826265281391 tw3460760190498104076 tw8667791102699202202 tw10002719099327831131 tw13127290217606882749 tw10687595563716017858 tw3220146115451631203 tw12908410000759471646 tw3317725716977444549 tw13564985658461409760 tw13588072480251462892 tw7984495317055362083 tw15905868815339735939 tw894285708145774809 tw576851955921236888 tw5027898076297096 tw3874772780210771804 tw11984895124909966126 tw8165921081521647947 tw7703700885800261356 tw17828749553794826745 tw16683487302492584816 tw10972180016157493002 tw13736061277249480649 tw3691068500132874437 tw6252632716708195279 tw8690539590376074602 tw6742367830217727635 tw7369039802448174766 tw14200359319165034593 tw5392607316614775364 tw15339162426732042054 tw17757877739291298536 tw4167393454390498659 tw6869367620142815538 tw2461042166931369412 tw11477225257600848491 tw18140309908646029503 tw16083334594929868091 tw2946654798520317956 tw2303746111476055880 tw13359646493351190634 tw1098078529536845261 tw12595157534376699003 tw7952506574718180975 tw14503278328169957256 tw7204223106241902732 tw15108360761067599190 tw12101831260112382799 tw16374035010638296771 tw15589234212856047400 tw14041897844085886608 tw17230121584147623713 tw2793581833708340570 tw7021700354113722729 tw65507485559511058 tw18387799440819133464 tw11921303213949498810 tw16957457202757513098 tw5177559692630464255 tw16580000341427292938 tw5213173233729045943 tw2201111878993939755 tw5188308165601690374 tw3837530484597293982 tw270988794592808673 tw13950862272886403687:True)
open PySem PySem.W PyProof.Rows
set_option maxRecDepth 100000 in
set_option maxHeartbeats 0 in
theorem PySem.Challenge.cw_halveline_k91_keepers_keep_all_lines_holds : PySem.Challenge.rw_halveline_k91_keepers_keep_all_lines.Holds := by
 w_on;o_law;k_head;(case hw=>w_witness2)
 k_fill
 refine K91.walk (l:=PySem.Challenge.rw_halveline_k91_keepers_keep_all_lines) rfl rfl (fun w h Y=>W.km_in_of Y) (fun w h Y=>W.km_tabs_of Y 205 (by simp)) (fun w=>by kernel_rfl) (fun w=>by kernel_rfl) ?F;case F =>
  intro w mg fa h KX Ga hmg;refine' K91.all_mk KX Ga hmg ..;any_goals first | refine' K91.fin_mk .. | refine' K91.min_mk ..
  any_goals first | k_is | k_exc | kernel_rfl | rfl
