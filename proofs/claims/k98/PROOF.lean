import PyProof.Rows.All
import Wide.All
import OpenK.AllK
import Wide.FinOn
import Lean
import PyProof.EqAt
import PyProof.EqKinds
import PyProof.TupleCall
import KE.KSortTup
import PyProof.Rows.SortWalk
import PyProof.Rows.SetFrom
import PyProof.CollectIter
import PyProof.SeqI3
import PyProof.EnumFor
import PyProof.EnumMake
import PyProof.ZipIter
import KE.KLam
import KE.KNestM
import KE.KSortKey
import PyProof.Rows.CallKwBuiltin
import PyProof.WalkInts
import PyProof.DictRoadsH
import PyProof.Rows.TupTab
import PyProof.AttrMissHeap
import KE.KEqDict
import KE.KDictOf
import PyProof.DictCompW
import PyProof.Rows.SortShell
import KE.KDictLaws
import KE.KIntText
import KE.KTabLook
import PyProof.Rows.Range3
import PyProof.Rows.RuleM_int
import PySem.Challenge.RW_halveline_k98_whole_keepers_through_desk
set_option Elab.async false
set_option linter.all false
set_option maxRecDepth 100000
section
open PySem PySem.Spec PyProof.Rows
abbrev n4:List Str:=["heaps", "names", "words"]
abbrev n5:List Str:=["_law_desk", "_law_keeper", "_law_names", "_law_which", "_law_text", "_law_ends", "_law_lines", "_law_one"]
abbrev n6:List Str:=["heap", "point"]
abbrev n8:List Str:=["one", "other"]
abbrev n9:List Str:=["_law_script", "_law_k", "_law_store_here", "_law_one", "_law_heaps", "_law_names", "_law_keeper", "_law_desk", "_law_which", "_law_deed", "_law_way", "_law_some", "_law_point_here", "_law_goal", "_law_done"]
abbrev ng:List Str:=["self", "which", "point"]
abbrev nh:List Str:=["_law_store_here", "_law_many"]
abbrev ni:List Str:=["self", "which", "point", "to"]
abbrev nj:List Str:=["_law_keeper", "_law_way", "_law_which", "_law_point_here", "_law_goal"]
abbrev nk:List Str:=["heap"]
abbrev nq:List Str:=["text", "mark"]
abbrev nr:List Str:=["self", "which", "heap"]
abbrev nu:List Str:=["heap", "point", "to"]
abbrev nv:List Str:=["line", "heap"]
abbrev nw:List Str:=["_law_script", "_law_k"]
abbrev ny:List Str:=["text"]
abbrev nA:List Str:=["_law_keeper", "_law_way", "_law_which", "_law_point_here", "_law_goal", "_law_done"]
abbrev nC:List Str:=["thing"]
abbrev nD:List Str:=["heap", "unlike", "at", "one", "other"]
abbrev nE:List Str:=["self", "row"]
abbrev nF:List Str:=["lines", "scale", "a", "b", "c"]
abbrev nG:List Str:=["_law_store_here", "_law_some"]
abbrev nH:List Str:=["_law_store_here", "_law_some", "_law_way", "_law_x", "_law_y"]
abbrev nI:List Str:=["word"]
abbrev nJ:List Str:=["_law_name", "_law_heap_here"]
abbrev nK:List Str:=["_law_desk", "_law_row_here"]
abbrev nL:List Str:=["self", "row", "words", "word", "behind", "names", "deed"]
abbrev nM:List Str:=["_law_store_here"]
abbrev nN:List Str:=["_law_way", "_law_name", "_law_point_here", "_law_goal"]
abbrev nQ:List Str:=["self", "which"]
abbrev nR:List Str:=["self", "one", "other"]
abbrev nS:List Str:=["_law_desk", "_law_row_here", "_law_told_here"]
def qa:=@wpAny_bind
def qc:=@List.length_map
def qd:=@Heap.get?_push_of_some
def qe:=@List.mem_cons_of_mem
def qf:=@wpAny_pure
def qg:=@List.mem_append_right
def qh:=@List.getElem?_eq_getElem
def qj:=@List.mem_cons_self
def qk:=@Nat.le_refl
def ql:=@Bool.false_eq_true
def qm:=@List.append_assoc
def qo:=@Heap.lt_size
def qp:=@wpS_bind
def qr:=@List.length_append
def qt:=@Nat.ne_of_lt
def qu:=@List.mem_map
def qv:=@wpS_pure
def qx:=@of_decide_eq_true
def qy:=@Array.length_toList
def qz:=@Nat.le_trans
def qA:=@Array.getElem?_toList
def qB:=@List.size_toArray
def qC:=@List.getElem?_eq_some_iff
def qD:=@Heap.get?_push_size
def qF:=@List.mem_cons
def qG:=@List.mem_append
def qH:=@decide_eq_true
def qJ:=@List.mem_singleton
def qM:=@Nat.lt_of_lt_of_le
def qN:=@wpAny_mono
def qO:=@Array.toList_append
def qP:=@List.map_cons
def qU:=@List.length_cons
def qV:=@List.getElem?_append_left
def qY:=@List.getElem?_map
def qZ:=@Bool.and_eq_true
def q0:=@List.mem_append_left
def q9:=@List.take_append_drop
def yb:=@List.getElem?_append_right
def ye:=@List.map_append
def yh:=@List.getElem_mem
def yi:=@decide_eq_false
def yj:=@Nat.zero_le
def yk:=@List.lookup_cons
def ym:=@List.getD_eq_getElem?_getD
def yo:=@List.pairwise_append
def yp:=@List.pairwise_iff_getElem
def yq:=@wpAny_holding
def yt:=@Heap.get?_update_other
def yu:=@List.map_map
def yw:=@List.getElem?_of_mem
def yx:=@List.nodup_cons
def yz:=@Nat.lt_irrefl
def yB:=@List.mem_range
def yC:=@Array.getElem?_eq_none
def yD:=@List.mem_filterMap
def yE:=@wpS_forRange
def yF:=@wpAny_truthy_bool
def yJ:=@Nat.lt_of_le_of_lt
def yT:=@Nat.le_of_lt
def yU:=@List.cons_lt_cons_iff
def yZ:=@Nat.lt_succ_self
def y3:=@List.take_length
def y4:=@Array.perm_iff_toList_perm
def y8:=@List.take_of_length_le
def ja:=@wpAny_setState_of
def jb:=@List.pairwise_map
def jc:=@Array.toList_push
def jd:=@List.extract_eq_take_drop
def jg:=@Nat.lt_trans
def jh:=@Heap.get?_update_self
def js:=@List.mem_of_mem_drop
def ju:=@List.getElem?_replicate
def jy:=@wpAny_newObj_type
def jC:=@Heap.get?_update_ne
def jD:=@wpS_mono
def jI:=@List.length_take
def jJ:=@List.all_eq_true
def jK:=@wpAny_standAt
def jL:=@wpAny_Call_Name_kw
def jT:=@Array.getElem?_eq_getElem
def jY:=@List.mem_of_mem_take
def jZ:=@Array.toList_extract
def j3:=@wpS_modify
def j7:=@List.find?_cons
def j8:=@List.append_nil
def Jh:=@Bool.not_true
def Jq:=@wpAny_call_entry
def Jr:=@wpAny_askSetting
def Jy:=@wpAny_rule
end
namespace L2
end L2
open PySem PySem.Spec PyProof.Rows L2
variable {xs a0 arr out:Array Keyed}{us its:List Value}{x y name qual:Str}{u cd pm ct oc acc dc:Value}{a b it tb D f C dx ea I S CN AF AD:Addr}{o c tg iter value elt t1 i1 t2 i2 tg2 iter2:Expr}{P prog:Program}{w:World}{h h' base h0:Heap}{α β:Type}{Oa:List (Addr×Obj)}{s s' sa2:Shared}{t' i j n lo m ia ib ac bc n0 na nb ep:Nat}{ch fp wr:List Addr}{N ps loose L ws:List Str}{M:Model}{A:Around}{E xe:Value->Shared->Prop}{pos pos' p tpos apos p1 kp p':Pos}{op:CmpOp}{K:W.Frag}{st st0:SortSt}{es ifs elts f1 f2 ifs2:List Expr}{body:List Stmt}{R:Result->Shared->Prop}{pl:Sem Bool}{mA mg:Str->Option Value}{ns ks:List Int}{kw:List (Str×Value)}{env:Env}{fd:FuncData}{outer:List Env}{ds:List PyData}{sc scope:Scope}{params:Arguments}{an od:Option Addr}{T:String}{XP:(Str->Option Value)->Heap->Prop}{YP:World->Heap->Prop}{tn:Nat->Heap->Prop}{RR:Value->Addr->Result->Shared->Prop}{kss:List (List Int)}{kd:SortKind}{left:Bool}{owner:Array (Option Nat)}{hs:Nat->Int}{Pv:Value->Prop}{wh way:Int}{sl:Array (Option Value)}
noncomputable section
local macro_rules | `(tactic| trivial)=>`(tactic| first | exact Or.inl rfl | exact Or.inr rfl | exact⟨rfl,rfl,rfl,by decide +kernel,rfl,by decide +kernel,by decide +kernel⟩ | (intro _ _ _ h;repeat (first | (obtain⟨e,_⟩:=h;subst e;rfl) | obtain⟨_,h⟩:=h)) | fail)
section
local macro_rules|`(fun ⟨$a,$b⟩=>$e)=>`(fun q=>q.casesOn fun $a $b=>$e)|`(fun ⟨$a,$b,$c,*⟩=>$e)=>`(fun ⟨$a,⟨$b,$c,*⟩⟩=>$e)|`(fun $x $y $z* =>$e)=>`(fun $x=>fun $y $z* =>$e)
local macro_rules|`(command|def $n $s:optDeclSig $v:declVal)=>`(command|noncomputable def $n $s:optDeclSig $v:declVal)|`(command|abbrev $n $s:optDeclSig $v:declVal)=>`(command|noncomputable abbrev $n $s:optDeclSig $v:declVal)
set_option hygiene false
local macro_rules|`($k<<<($x,$y,$z))=>`(Own P w K mg base CX $k $x $y $z)|`($k>>>($y,$z))=>`(FnOk P w K mg base CX $k f fd $y $z)|`($k&&&($x,$y,$z))=>`(Own P w K mg base (XC P w) $k $x $y $z)|`($k|||($y,$z))=>`(FnOk P w K mg base (XC P w) $k f fd $y $z)|`($x^^^$y)=>`(Fun K $x $x $y f fd)
set_option hygiene true
local macro_rules|`(tactic|ac_rfl)=>`(tactic|first|exact .head _|(apply List.mem_cons_of_mem;ac_rfl)|(apply List.mem_append_left;ac_rfl)|(apply List.mem_append_right;ac_rfl)|fail)
set_option hygiene false
local macro_rules|`('m')=>`(model prog w)|`('M')=>`(model X.prog X.w)|`('k')=>`(by decide +kernel)|`('d')=>`(by decide)|`('l')=>`(by lia)|`('o')=>`(by omega)|`('s')=>`(by first|ac_rfl|simp)|`('t')=>`(by trivial)|`('x')=>`(XC P w)
set_option hygiene true
namespace L2
abbrev Key:=Sum Int Str
def qfb:Key->Value->Bool
  | .inl k,v=>Value.isInt k v
  | .inr x,v=>Value.isStrOf x v
def keyH (w:World):Key->Int
  | .inl k=>hashInt k
  | .inr x=>hashStr w x
theorem y6:∀ {k:Key}{v:Value},qfb k v=true->(∃ i t,k=Sum.inl i/\v=Value.int i t)\/(∃ x t,k=Sum.inr x/\v=Value.str x t)
  | .inl i,v,h=>by
    obtain⟨t,e⟩:=Value.isInt_shape (k:=i) (v:=v) h;exact .inl ⟨i,t,rfl,e⟩
  | .inr x,v,h=>by
    obtain⟨t,e⟩:=Value.isStrOf_shape (x:=x) (v:=v) h;exact .inr ⟨x,t,rfl,e⟩
theorem qg3 (i:Int) (t:Tok):qfb (.inl i) (.int i t)=true:=by simp[qfb,Value.isInt]
theorem qg2 (x:Str) (t:Tok):qfb (.inr x) (.str x t)=true:=by simp[qfb,Value.isStrOf]
theorem qoE (a b:Int):decide ((Sum.inl a:Key)=Sum.inl b)=(a == b):=by
  by_cases e:a=b
  . subst e;simp
  . have h:¬ (Sum.inl a:Key)=Sum.inl b:=fun q=>e (Sum.inl.inj q)
    rw[yi h];exact (beq_eq_false_iff_ne.mpr e).symm
theorem qoB (a b:Str):decide ((Sum.inr a:Key)=Sum.inr b)=decide (a=b):=by
  by_cases e:a=b
  . subst e;simp
  . have h:¬ (Sum.inr a:Key)=Sum.inr b:=fun q=>e (Sum.inr.inj q)
    rw[yi h,yi e]
theorem qoD (a:Int) (b:Str):decide ((Sum.inl a:Key)=Sum.inr b)=false:=yi (fun q=>nomatch q)
theorem qoC (a:Str) (b:Int):decide ((Sum.inr a:Key)=Sum.inl b)=false:=yi (fun q=>nomatch q)
def jO (prog:Program) (w:World):PySem.KeyKind prog w Key where
  is:=qfb
  hash:=keyH w
  inj:=fun v a b ha hb=>by
    rcases y6 ha with⟨i,t,rfl,rfl⟩ | ⟨x,t,rfl,rfl⟩
    . rcases y6 hb with⟨j,u,rfl,e⟩ | ⟨y,u,rfl,e⟩
      . injection e with e1 _;rw[e1]
      . exact nomatch e
    . rcases y6 hb with⟨j,u,rfl,e⟩ | ⟨y,u,rfl,e⟩
      . exact nomatch e
      . injection e with e1 _;rw[e1]
  byValue:=fun k v h=>by rcases y6 h with⟨i,t,rfl,rfl⟩ | ⟨x,t,rfl,rfl⟩ <;> rfl
  pyHash:=fun hv h=>by
    rcases y6 hv with⟨i,t,rfl,rfl⟩ | ⟨x,t,rfl,rfl⟩
    . exact wpAny_pyHash_int h
    . exact wpAny_pyHash_str h
  eqBool:=fun hu hv h=>by
    rcases y6 hu with⟨i,t,rfl,rfl⟩ | ⟨x,t,rfl,rfl⟩
    . rcases y6 hv with⟨j,u,rfl,rfl⟩ | ⟨y,u,rfl,rfl⟩
      . rw[qoE] at h;exact wpAny_eqBool_int h
      . rw[qoD] at h;exact SeqAt.EqAt.int_str i t y u _ _ _ _ h
    . rcases y6 hv with⟨j,u,rfl,rfl⟩ | ⟨y,u,rfl,rfl⟩
      . rw[qoC] at h;exact SeqAt.EqAt.str_int x t j u _ _ _ _ h
      . rw[qoB] at h;exact wpAny_eqBool_str h
  «strs»:=fun k x t v h=>by
    rcases y6 h with⟨i,u,rfl,e⟩ | ⟨y,u,rfl,e⟩
    . exact nomatch e
    . injection e with e1 _
      subst e1;cases v <;> rfl
theorem qds (prog:Program) (w:World) (i:Int) (t:Tok):(jO prog w).is (.inl i) (.int i t)=true:=qg3 i t
theorem qdr (prog:Program) (w:World) (x:Str) (t:Tok):(jO prog w).is (.inr x) (.str x t)=true:=qg2 x t
end L2
namespace L2
variable {x:Addr}
inductive V where
  | non | bl (b:Bool) | int (i:Int) | str (x:Str) | byt (b:Array UInt8) | flt (b:UInt64) | ref (a:Addr) | ty (n:String)
  deriving DecidableEq
def jr:V->Value->Prop
  | .non,u=>u=Value.none
  | .bl b,u=>u=Value.bool b
  | .int i,u=>∃ t,u=Value.int i t
  | .str x,u=>∃ t,u=Value.str x t
  | .byt b,u=>∃ t,u=Value.bytes b t
  | .flt b,u=>∃ t,u=Value.float b t
  | .ref a,u=>u=Value.ref a
  | .ty n,u=>u=Value.type n
abbrev yM:List V->List Value->Prop:=Paired jr
theorem yM.length {xs:List V}(r:yM xs us):xs.length=us.length:=Paired.length r
theorem yM.get:∀ {xs:List V}{us:List Value}{i:Nat}{x:V},yM xs us->xs[i]?=some x->∃ u,us[i]?=some u/\jr x u
  | _,_,_,_,.nil,e=>by simp at e
  | _,_,0,_,.cons r _,e=>by simp at e;subst e;exact⟨_,rfl,r⟩
  | _,_,i+1,x,.cons _ t,e=>by
    obtain⟨u,h1,h2⟩:=yM.get (i:=i) (x:=x) t (by simpa using e);exact⟨u,by simpa using h1,h2⟩
theorem yM.set {x:V}(r:jr x u):∀ {xs:List V}{us:List Value}(i:Nat),yM xs us->yM (xs.set i x) (us.set i u)
  | _,_,_,.nil=>.nil
  | _,_,0,.cons _ t=>.cons r t
  | _,_,i+1,.cons q t=>.cons q (yM.set r i t)
theorem yM.append:∀ {xs ys:List V}{us ws:List Value},yM xs us->yM ys ws->yM (xs++ys) (us++ws)
  | _,_,_,_,.nil,s=>s
  | _,_,_,_,.cons r t,s=>.cons r (yM.append t s)
theorem yM.take:∀ {xs:List V}{us:List Value}(n:Nat),yM xs us->yM (xs.take n) (us.take n)
  | _,_,0,_=>.nil
  | _,_,_+1,.nil=>.nil
  | _,_,n+1,.cons r t=>.cons r (yM.take n t)
theorem yM.drop:∀ {xs:List V}{us:List Value}(n:Nat),yM xs us->yM (xs.drop n) (us.drop n)
  | _,_,0,r=>r
  | _,_,_+1,.nil=>.nil
  | _,_,n+1,.cons _ t=>yM.drop n t
def qc4:Option V->Option Value->Prop
  | some v,some u=>jr v u
  | none,none=>True
  | _,_=>False
def KV {κ:Type}:List (κ×V)->List (κ×Value)->Prop:=Paired fun (p:κ×V) (q:κ×Value)=>p.1=q.1/\jr p.2 q.2
def kV:Key->V
  | .inl i=>.int i
  | .inr x=>.str x
inductive HO where
    | lst (xs:List V)
    | tup (xs:List V)
    | dK (kvs:List (Key×V)) | dT (kvs:List (List Key×V))
    | set (S:Int->Bool) (n:Nat)
    | ins (C dx:Addr) (fs:List (Str×V))
    | own (x:Addr)
    | xd (fs:List (Str×V))
    | met (f x:Addr)
    | rng (lo hi:Int)
    | frz (o:Obj) (u:HO)
    | tbl (ps:Array Value)
    | ext (φ:Heap->Prop)
abbrev Hp:=Addr->Option HO
def upd (H:Hp) (a:Addr) (o:HO):Hp:=fun b=>if b=a then some o else H b
theorem yg {H:Hp}{o:HO}:upd H a o a=some o:=by unfold upd;rw[if_pos rfl]
theorem qX {H:Hp}{o:HO}(h:b≠a):upd H a o b=H b:=by unfold upd;rw[if_neg h]
theorem ne_of {H:Hp}{o u:HO}(h:H a=some o) (h':H b=some u) (d:o≠u):a≠b:=by intro e;subst e;rw[h] at h';exact d (Option.some.inj h')
theorem qQ {H:Hp}{o:HO}(h:H a=some o) (h':H b=none):a≠b:=by intro e;subst e;rw[h] at h';cases h'
section
variable (P:Program) (w:World)
def jB (H:Hp) (h:Heap) (a:Addr):HO->Prop
  | .lst xs=>xs.length<=sizeLine/\∃ (its:List Value) (n:Nat),yM xs its/\h.get? a=some { cls:=.type "list",data:=.seq its.toArray n }
  | .tup xs=>xs.length<=sizeLine/\∃ its:List Value,yM xs its/\IsTup h a its.toArray
  | .dK kvs=>kvs.length<=sizeLine/\(a == sysModules)=false/\∃ vs,KV kvs vs/\h.DictOf (jO P w) a vs
  | .dT kvs=>kvs.length<=sizeLine/\(a == sysModules)=false/\∃ xs:List (List Key×Addr×Value),
      Paired (fun (p:List Key×V) (q:List Key×Addr×Value)=>p.1=q.1/\H q.2.1=some (.tup (p.1.map kV))/\jr p.2 q.2.2) kvs xs ∧
      ∃ o es ep,h.get? a=some o/\o.ExactDict/\o.data = .dict es ep/\es.toList=xs.map (entryOfKey (tupleKind (jO P w)))/\(xs.map (·.1)).Nodup
  | .set S n=>h.SetOf (intKind P w) a S n
  | .ins C dx fs=>H dx=some (.own a)/\fs.length<=1000/\dx≠a/\h.get? a=some (W.instObj C dx) ∧
      ∃ mA,h.Ns1 dx mA/\(∀ f,qc4 (fs.lookup f) (mA f))/\PySem.Within mA (fs.map (·.1))
  | .own _=>∃ o,h.get? a=some o
  | .xd fs=>∃ mA,h.Ns1 a mA/\∀ f,qc4 (fs.lookup f) (mA f)
  | .rng lo hi=>∃ t u v,h.get? a=some { cls:=.type "range",data:=.fields #[.int lo t,.int hi u,.int 1 v] }
  | .frz o u=>h.get? a=some o/\jB H h a u
  | .tbl ps=>h.get? a=some { cls:=.none,data:=.fields ps }
  | .met f x=>h.get? a=some (W.methodObj (.ref f) (.ref x))
  | .ext φ=>φ h/\(∃ o,h.get? a=some o)/\∀ h1 h2:Heap,φ h1->(∀ o,h1.get? a=some o->h2.get? a=some o)->φ h2
def HOk (H:Hp) (h:Heap):Prop:=∀ a o,H a=some o->jB P w H h a o
end
section
variable {H H':Hp}{o:HO}
theorem jB.lt (x:jB P w H h a o):a<h.objs.size:=by
  cases o with
  | lst xs=>obtain⟨_,_,_,_,e⟩:=x;exact qo e
  | tup xs=>obtain⟨_,_,_,p⟩:=x;exact p.lt
  | dK kvs=>obtain⟨_,_,_,_,o,_,_,e,_⟩:=x;exact qo e
  | dT kvs=>obtain⟨_,_,_,_,o,_,_,e,_⟩:=x;exact qo e
  | set S n=>obtain⟨o,_,_,_,e,_⟩:=x;exact qo e
  | ins C dx fs=>obtain⟨_,_,_,e,_⟩:=x;exact qo e
  | own y=>obtain⟨_,e⟩:=x;exact qo e
  | xd fs=>obtain⟨_,⟨_,_,_,e,_⟩,_⟩:=x;exact qo e
  | rng lo hi=>obtain⟨_,_,_,e⟩:=x;exact qo e
  | frz ob u=>obtain⟨e,_⟩:=x;exact qo e
  | tbl ps=>exact qo (show h.get? a=some _ from x)
  | met f y=>exact qo (show h.get? a=some _ from x)
  | ext φ=>obtain⟨_,⟨_,e⟩,_⟩:=x;exact qo e
theorem Paired.mapP {F Ga:α->β->Prop}:∀ {l₁:List α}{l₂:List β},Paired F l₁ l₂->(∀ a b,F a b->Ga a b)->Paired Ga l₁ l₂
  | _,_,.nil,_=>.nil
  | _,_,.cons r t,f=>.cons (f _ _ r) (Paired.mapP t f)
theorem jB.stay (x:jB P w H h a o) (k:∀ b u,(b=a\/H b=some (.own a))->h.get? b=some u->h'.get? b=some u)
    (ho:∀ b,H b=some (.own a)->H' b=some (.own a)) (ht:∀ b xs,H b=some (.tup xs)->H' b=some (.tup xs)):jB P w H' h' a o:=by
  induction o with
  | lst xs=>obtain⟨z,its,n,r,e⟩:=x;exact⟨z,its,n,r,k _ _ (.inl rfl) e⟩
  | tup xs=>obtain⟨z,its,r,ob,e,c⟩:=x;exact⟨z,its,r,ob,k _ _ (.inl rfl) e,c⟩
  | dK kvs=>obtain⟨z,y,vs,r,ob,es,ep,e,c⟩:=x;exact⟨z,y,vs,r,ob,es,ep,k _ _ (.inl rfl) e,c⟩
  | dT kvs =>
    obtain⟨z,y,xs,r,ob,es,ep,e,c⟩:=x;exact⟨z,y,xs,Paired.mapP r fun p q z=>⟨z.1,ht _ _ z.2.1,z.2.2⟩,ob,es,ep,k _ _ (.inl rfl) e,c⟩
  | set S n=>obtain⟨ob,es,ep,t,e,c⟩:=x;exact⟨ob,es,ep,t,k _ _ (.inl rfl) e,c⟩
  | ins C dx fs =>
    obtain⟨d,z,ne,e,mA,⟨od,es,ep,e2,c⟩,r⟩:=x;exact⟨ho _ d,z,ne,k _ _ (.inl rfl) e,mA,⟨od,es,ep,k _ _ (.inr d) e2,c⟩,r⟩
  | own y=>obtain⟨ob,e⟩:=x;exact⟨ob,k _ _ (.inl rfl) e⟩
  | xd fs=>obtain⟨mA,⟨od,es,ep,e,c⟩,r⟩:=x;exact⟨mA,⟨od,es,ep,k _ _ (.inl rfl) e,c⟩,r⟩
  | rng lo hi=>obtain⟨t,u,v,e⟩:=x;exact⟨t,u,v,k _ _ (.inl rfl) e⟩
  | frz ob u ih=>obtain⟨e,q⟩:=x;exact⟨k _ _ (.inl rfl) e,ih q⟩
  | tbl ps =>
    have e:h.get? a=some { cls:=.none,data:=.fields ps }:=x;show h'.get? a=some { cls:=.none,data:=.fields ps };exact k a _ (.inl rfl) e
  | met f y =>
    have e:h.get? a=some (W.methodObj (.ref f) (.ref y)):=x;show h'.get? a=some (W.methodObj (.ref f) (.ref y));exact k a _ (.inl rfl) e
  | ext φ=>obtain⟨p,⟨o,e⟩,st⟩:=x;exact⟨st _ _ p fun o q=>k _ _ (.inl rfl) q,⟨o,k _ _ (.inl rfl) e⟩,st⟩
theorem HOk.lt (x:HOk P w H h) (e:H a=some o):a<h.objs.size:=(x a o e).lt
theorem HOk.fresh (x:HOk P w H h) (e:h.objs.size<=a):H a=none:=by
  cases q:H a with
  | none=>rfl
  | some u=>exact absurd (qM (x.lt q) e) (yz _)
theorem HOk.kept (x:HOk P w H h) (k:∀ b u,h.get? b=some u->h'.get? b=some u):HOk P w H h':=fun a o e =>
  (x a o e).stay (fun b u _ q=>k b u q) (fun _ q=>q) fun _ _ q=>q
theorem HOk.laid (x:HOk P w H h) (k:∀ b u,h.get? b=some u->h'.get? b=some u) (hp:h.objs.size<=a) (new:jB P w (upd H a o) h' a o):HOk P w (upd H a o) h':=fun b u e=>by
  have hn:=x.fresh hp;by_cases hb:b=a
  . subst hb;rw[yg] at e;cases e;exact new
  . rw[qX hb] at e
    exact (x b u e).stay (fun c v _ q=>k c v q) (fun c q=>by rw[qX (qQ q hn)];exact q) fun c xs q=>by rw[qX (qQ q hn)];exact q
end
def Rd (H:Hp) (a:Addr) (u:HO):Prop:=H a=some u\/∃ o,H a=some (.frz o u)
theorem Rd.ok {H:Hp}{u:HO}(r:Rd H a u) (x:HOk P w H h):jB P w H h a u:=by
  rcases r with r | ⟨o,r⟩
  . exact x a u r
  . obtain⟨_,q⟩:=x a _ r
    exact q
def Mut:Option HO->Prop
  | some (.lst _)=>True
  | some (.dK _)=>True
  | some (.dT _)=>True
  | some (.set _ _)=>True
  | some (.ins _ _ _)=>True
  | some (.ext _)=>True
  | _=>False
section
variable {H:Hp}{e:Addr}{o':HO}
theorem HOk.write (ok:HOk P w H h) (mu:Mut (H x)) (he:e=x\/H e=some (.own x)) (k:∀ b u,b≠e->h.get? b=some u->h'.get? b=some u) (heo:∃ u,h'.get? e=some u)
    (new:jB P w (upd H x o') h' x o'):HOk P w (upd H x o') h':=fun b u q=>by
  have nown:∀ c y,H c=some (.own y)->c≠x:=fun c y r z=>by subst z;rw[r] at mu;exact mu
  have ntup:∀ c xs,H c=some (.tup xs)->c≠x:=fun c xs r z=>by subst z;rw[r] at mu;exact mu
  by_cases hb:b=x
  . subst hb;rw[yg] at q;cases q;exact new
  . rw[qX hb] at q
    by_cases hbe:b=e
    . have q':H b=some (.own x):=by
        rcases he with z | z
        . exact absurd (hbe.trans z) hb
        . rw[hbe];exact z
      rw[q] at q';cases q';obtain⟨v,hv⟩:=heo;exact⟨v,by rw[hbe];exact hv⟩
    . refine (ok b u q).stay (fun c v hc r=>k c v ?_ r) (fun c r=>by rw[qX (nown c b r)];exact r) fun c xs r=>by rw[qX (ntup c xs r)];exact r
      rcases hc with rfl | hc
      . exact hbe
      . rintro rfl
        rcases he with z | z
        . exact nown c b hc z
        . rw[hc] at z;cases z;exact hb rfl
end
structure Un (fs ex:List Addr) (H H':Hp) (h h':Heap):Prop where
  keep:∀ b o,h.get? b=some o->H b=none->b∉fs->b∉ex->h'.get? b=some o
  slot:∀ b o,h.get? b=some o->H b=none->b∈fs->b∉ex->∃ sl,h'.get? b=some { o with slots:=sl }
  free:∀ b o,h.get? b=some o->H b=none->b∉ex->H' b=none
  there:∀ b o,h.get? b=some o->b∉ex->∃ o',h'.get? b=some o'
  tups:∀ b xs,H b=some (.tup xs)->H' b=some (.tup xs)
  frzs:∀ b o u,H b=some (.frz o u)->H' b=some (.frz o u)
  tbls:∀ b ps,H b=some (.tbl ps)->∃ more,H' b=some (.tbl (ps++more))
section
variable {fs fs' ex ex':List Addr}{H H1 H2:Hp}{h1 h2:Heap}{e:Addr}{o:HO}
theorem Un.any (u:Un fs ex H H1 h h1) {ob:Obj}(q:h.get? b=some ob) (n:H b=none) (hx:b∉ex):∃ sl,h1.get? b=some { ob with slots:=sl }:=by
  by_cases hb:b∈fs
  . exact u.slot b ob q n hb hx
  . exact⟨ob.slots,u.keep b ob q n hb hx⟩
theorem Un.kept (k:∀ b u,h.get? b=some u->h'.get? b=some u):Un fs ex H H h h' :=
  ⟨fun b ob q _ _ _=>k b ob q,fun b ob q _ _ _=>⟨ob.slots,k b ob q⟩,fun _ _ _ n _=>n,fun b ob q _=>⟨ob,k b ob q⟩,fun _ _ q=>q,fun _ _ _ q=>q,fun _ ps q=>⟨#[],by rw[q];simp⟩⟩
theorem Un.refl:Un fs ex H H h h:=Un.kept fun _ _ q=>q
theorem Un.laid (k:∀ b u,h.get? b=some u->h'.get? b=some u) (hp:h.objs.size<=a) (hn:H a=none):Un fs ex H (upd H a o) h h' where
  keep:=fun b u q _ _ _=>k b u q
  slot:=fun b u q _ _ _=>⟨u.slots,k b u q⟩
  free:=fun b u q n _=>by rw[qX (qt (qM (qo q) hp))];exact n
  there:=fun b u q _=>⟨u,k b u q⟩
  tups:=fun b xs q=>by rw[qX (qQ q hn)];exact q
  frzs:=fun b u xs q=>by rw[qX (qQ q hn)];exact q
  tbls:=fun b ps q=>⟨#[],by rw[qX (qQ q hn),q];simp⟩
theorem Un.write (mu:Mut (H x)) (he:e=x\/H e=some (.own x)) (k:∀ b u,b≠e->h.get? b=some u->h'.get? b=some u) (heo:∃ u,h'.get? e=some u):Un fs ex H (upd H x o) h h':=by
  have hx:∀ b,H b=none->b≠x:=fun b n z=>by subst z;rw[n] at mu;exact mu
  have hb:∀ b,H b=none->b≠e:=fun b n z=>by
    subst z;rcases he with r | r
    . exact hx b n r
    . rw[n] at r;cases r
  have hm:∀ b u,H b=some u->¬ Mut (some u)->b≠x:=fun b u q nm z=>by subst z;rw[q] at mu;exact nm mu
  refine⟨fun b u q n _ _=>k b u (hb b n) q,fun b u q n _ _=>⟨u.slots,k b u (hb b n) q⟩,fun b u q n _=>by rw[qX (hx b n)];exact n,fun b u q _=>?_,
    fun b xs q=>by rw[qX (hm b _ q fun z=>z)];exact q,fun b u xs q=>by rw[qX (hm b _ q fun z=>z)];exact q,fun b ps q=>⟨#[],by rw[qX (hm b _ q fun z=>z),q];simp⟩⟩
  by_cases hbe:b=e
  . subst hbe;exact heo
  . exact⟨u,k b u hbe q⟩
end
def trk (h:Heap) (H:Hp):List Addr:=(List.range h.objs.size).filter fun a=>(H a).isSome
def qh5 (h:Heap) (H:Hp):Heap:=W.hideAll h (trk h H)
theorem qhb (h:Heap) (H:Hp):(qh5 h H).objs.size=h.objs.size:=W.hideAll_size _ _
theorem qjc {H:Hp}{o:Obj}(e:h.get? b=some o) (n:H b=none):(qh5 h H).get? b=some o :=
  W.hideAll_get _ e fun hm=>by
    have q:(H b).isSome=true:=(List.mem_filter.mp hm).2;rw[n] at q;simp at q
theorem qlP {H:Hp}{o:Obj}(e:(qh5 h H).get? b=some o):h.get? b=some o/\H b=none:=by
  have e':h.get? b=some o:=W.of_hideAll (trk h H) e;refine⟨e',?_⟩;cases q:H b with
  | none=>rfl
  | some x =>
    have hm:b∈trk h H:=List.mem_filter.mpr ⟨yB.mpr (qo e'),by simp[q]⟩;have z:(qh5 h H).get? b=none:=W.hideAll_none (trk h H) hm;rw[z] at e;cases e
end L2
variable {H H' H1 H2:L2.Hp}{v:L2.V}{ys vs:List L2.V}{kvs:List (List L2.Key×L2.V)}
namespace L2
variable {g':Array GenState}{d':Drawn}{pins':List (Addr×Obj)}{Q:Unit->Shared->Prop}
structure Mod (K:W.Frag) (mg:Str->Option Value) (base:Heap):Prop where
  kin:K.In base
  glob:base.Ns mainGlobals mg
  blt:∃ mb,base.Ns builtinsNs mb/\∀ x:Str,x ≠ "__name__" -> mb x=bootBuiltins x
  nolimit:base.NoLimit
structure Cx where
  prog:Program
  w:World
  K:W.Frag
  mg:Str->Option Value
  base:Heap
  A:Around
  N:List Str
  s₀:Shared
  H₀:Hp
  env:Env
  outer:List Env
  stack:List Env
  ex:List Addr
  fn:Str->Bool
  calm:Bool
  pn:List (Addr×Obj)
  xe:Value->Shared->Prop
def frs (l:List Env):List Addr:=l.filterMap (·.frame)
abbrev Cx.fs (X:Cx):List Addr:=frs X.outer
def Vis (sc:Scope) (x:Str):Prop:=sc.names.lookup x=some .local\/sc.names.lookup x=some .cell\/sc.names.lookup x=some .free
def Loc (sc:Scope) (x:Str):Prop:=sc.names.lookup x=some .local\/sc.names.lookup x=some .cell
def Look (env:Env) (h:Heap) (m:Str->Option Value) (x:Str) (u:Value):Prop :=
  (env.kindOf x=some .local/\m x=some u)\/((env.kindOf x=some .cell\/env.kindOf x=some .free)/\∃ c,env.cells.lookup x=some c/\h.IsCell c (some u))
structure Cx.Ok (X:Cx):Prop where
  mod:Mod X.K X.mg X.base
  kind:X.env.scope.kind = .function
  glob:X.env.globals=mainGlobals
  blt:X.env.builtins=builtinsNs
  above:X.s₀.heap.objs.size<=X.env.locals
  inj:∀ x y c,X.env.cells.lookup x=some c->X.env.cells.lookup y=some c->x=y
  has:∀ x,(X.env.kindOf x=some .cell\/X.env.kindOf x=some .free)->∃ c,X.env.cells.lookup x=some c
  cab:∀ x c,X.fn x=true->X.env.cells.lookup x=some c->X.s₀.heap.objs.size<=c
  hd:X.calm=true->X.A.handled=none
  frames:X.A.frames=some X.stack
  stk:X.stack=X.outer\/(X.stack=X.env::X.outer/\X.env.frame=some X.env.locals)
  exf:∀ b∈X.ex,b≠X.env.locals/\∀ x c,X.env.cells.lookup x=some c->c≠b
  bs:∀ b o,X.base.get? b=some o->X.s₀.heap.get? b=some o/\X.H₀ b=none
  bsz:X.base.objs.size<=X.s₀.heap.objs.size
  noex:∀ b o,X.base.get? b=some o->b∉X.ex
  exfs:∀ b∈X.ex,b∉X.fs
  funs:X.s₀.heap.FunFrames X.base X.outer
  frf:∀ b∈X.fs,X.H₀ b=none
structure Inv (X:Cx) (Oa:List (Addr×Obj)) (G:List (Option V)) (H:Hp) (s:Shared):Prop where
  ok:X.Ok
  os:s.os=X.s₀.os
  bare:AllBare s.gens
  base:Un X.fs X.ex X.H₀ H X.s₀.heap s.heap
  loc:∃ m,s.heap.Ns X.env.locals m/\∀ (i:Nat) (x:Str) (v:V),X.N[i]?=some x->G[i]?=some (some v)->Vis X.env.scope x->∃ u,jr v u/\Look X.env s.heap m x u
  cell:∀ x c,X.env.cells.lookup x=some c->∃ v,s.heap.IsCell c v
  free:H X.env.locals=none
  freeC:∀ x c,X.env.cells.lookup x=some c->H c=none
  pin:∀ p∈X.pn++Oa,s.heap.get? p.1=some p.2/\H p.1=none/\p.1≠X.env.locals/\p.1∉X.fs/\∀ v,p.2.data≠.cell v
  hok:HOk X.prog X.w H s.heap
  len:G.length=X.N.length
section
variable {X:Cx}{G:List (Option V)}
theorem Cx.Ok.nofr (ok:X.Ok) {o:Obj}(e:X.base.get? b=some o):b∉X.fs:=fun hb=>by
  have:=(ok.funs.mem hb).1;rw[e] at this;cases this
theorem Inv.bs (I:Inv X Oa G H s):∀ b o,X.base.get? b=some o->s.heap.get? b=some o/\H b=none:=fun b o e =>
  ⟨I.base.keep b o (I.ok.bs b o e).1 (I.ok.bs b o e).2 (I.ok.nofr e) (I.ok.noex b o e),I.base.free b o (I.ok.bs b o e).1 (I.ok.bs b o e).2 (I.ok.noex b o e)⟩
theorem Inv.bk (I:Inv X Oa G H s):∀ b o,X.base.get? b=some o->s.heap.get? b=some o:=fun b o e=>(I.bs b o e).1
theorem Inv.mod (I:Inv X Oa G H s):Mod X.K X.mg X.base:=I.ok.mod
theorem Inv.kIn (I:Inv X Oa G H s):X.K.In s.heap:=I.ok.mod.kin.keeps I.bk
theorem Inv.nolimit (I:Inv X Oa G H s):s.heap.NoLimit:=I.ok.mod.nolimit.keeps I.bk
theorem Inv.lt (I:Inv X Oa G H s):X.env.locals<s.heap.objs.size:=let ⟨_,hn,_⟩:=I.loc;hn.lt
theorem Inv.sz (I:Inv X Oa G H s):X.s₀.heap.objs.size<=s.heap.objs.size:=qz I.ok.above (yT I.lt)
theorem Inv.nofs (I:Inv X Oa G H s) (h:s.heap.objs.size<=a):a∉X.fs:=fun hb=>by
  obtain⟨_,o,ho,_⟩:=I.ok.funs.mem hb;exact absurd (qM (qo ho) (qz I.sz h)) (yz _)
theorem Inv.cne (I:Inv X Oa G H s):∀ x c,X.env.cells.lookup x=some c->c≠X.env.locals:=fun x c e z=>by
  obtain⟨v,o,ho,hd⟩:=I.cell x c e;obtain⟨m,⟨o',es,ep,ho',hd',_⟩,_⟩:=I.loc;rw[z,ho'] at ho;cases ho;rw[hd'] at hd;cases hd
theorem Inv.funs (I:Inv X Oa G H s):s.heap.FunFrames X.base X.outer:=by
  have all:∀ (l:List Env),(∀ b∈frs l,b∈X.fs)->X.s₀.heap.FunFrames X.base l->s.heap.FunFrames X.base l:=by
    intro l;induction l with
    | nil=>intro _ _;trivial
    | cons env r ih =>
      intro hs hl;obtain⟨hk,⟨L,o,hf,hn,ho,hd⟩,hr⟩:=hl;have hL:L∈X.fs:=hs L (by unfold frs;rw[List.filterMap_cons,hf];exact qj);obtain⟨sl,e⟩:=I.base.slot L o ho (I.ok.frf L hL) hL fun z=>I.ok.exfs L z hL;exact⟨hk,⟨L,_,hf,hn,e,hd⟩,ih (fun b hb=>hs b (by unfold frs;rw[List.filterMap_cons,hf];exact qe _ hb)) hr⟩
  exact all X.outer (fun _ hb=>hb) I.ok.funs
theorem Inv.stack (I:Inv X Oa G H s):s.heap.FunFrames X.base X.stack:=by
  rcases I.ok.stk with e | ⟨e,hf⟩
  . rw[e];exact I.funs
  . rw[e]
    obtain⟨m,hn,_⟩:=I.loc;refine .cons (by rw[I.ok.kind];decide) hf hn ?_ I.funs;exact Heap.get?_none_of_le (qz I.ok.bsz I.ok.above)
theorem Inv.stkSub (I:Inv X Oa G H s):∀ b∈frs X.stack,b∈X.env.locals::X.fs:=fun b hb=>by
  rcases I.ok.stk with e | ⟨e,hf⟩
  . rw[e] at hb;exact qe _ hb
  . rw[e] at hb
    unfold frs at hb;rw[List.filterMap_cons,hf] at hb;exact hb
theorem Inv.stkFree (I:Inv X Oa G H s):∀ b∈frs X.stack,H b=none:=fun b hb=>by
  rcases qF.mp (I.stkSub b hb) with e | hb
  . rw[e];exact I.free
  . obtain⟨_,o,ho,_⟩:=I.ok.funs.mem hb
    exact I.base.free b o ho (I.ok.frf b hb) fun z=>I.ok.exfs b z hb
theorem Inv.step (I:Inv X Oa G H s)
    (hch:∀ b∈ch,(b∈X.ex\/X.s₀.heap.objs.size<=b)/\b≠X.env.locals/\(∀ x c,X.env.cells.lookup x=some c->c≠b)/\∀ p∈X.pn++Oa,p.1≠b)
    (keep:∀ b o,b≠X.env.locals->b∉X.fs->b∉ch->s.heap.get? b=some o->H b=none->h'.get? b=some o)
    (slot:∀ b o,b≠X.env.locals->b∈X.fs->b∉ch->s.heap.get? b=some o->H b=none->∃ sl,h'.get? b=some { o with slots:=sl }) (free:∀ b o,b∉ch->s.heap.get? b=some o->H b=none->H' b=none)
    (there:∀ b o,b∉ch->s.heap.get? b=some o->∃ o',h'.get? b=some o')
    (tups:∀ b xs,H b=some (.tup xs)->H' b=some (.tup xs)) (frzs:∀ b o u,H b=some (.frz o u)->H' b=some (.frz o u)) (tbls:∀ b ps,H b=some (.tbl ps)->∃ more,H' b=some (.tbl (ps++more)))
    (ns:∀ m,s.heap.Ns X.env.locals m->h'.Ns X.env.locals m) (hok:HOk X.prog X.w H' h') (hg:AllBare g') :
    Inv X Oa G H' { s with heap:=h',gens:=g',drawn:=d',toks:=t' }:=by
  have neL:∀ b o,X.s₀.heap.get? b=some o->b≠X.env.locals:=fun b o e=>qt (qM (qo e) I.ok.above);have neC:∀ b o,X.s₀.heap.get? b=some o->b∉X.ex->b∉ch:=fun b o e hx hb=>by
    rcases (hch b hb).1 with z | z
    . exact hx z
    . exact absurd (qM (qo e) z) (yz _)
  have cellK:∀ x c,X.env.cells.lookup x=some c->∀ v,s.heap.IsCell c v->h'.IsCell c v:=fun x c e v ⟨o,ho,hd⟩=>by
    have nch:c∉ch:=fun z=>(hch c z).2.2.1 x c e rfl;by_cases hc:c∈X.fs
    . obtain⟨sl,q⟩:=slot c o (I.cne x c e) hc nch ho (I.freeC x c e)
      exact⟨_,q,hd⟩
    . exact⟨o,keep c o (I.cne x c e) hc nch ho (I.freeC x c e),hd⟩
  refine⟨I.ok,I.os,hg,⟨fun b o e n hb hx=>?_,fun b o e n hb hx=>?_,fun b o e n hx=>?_,fun b o e hx=>?_,fun b xs e=>tups b xs (I.base.tups b xs e),fun b o xs e=>frzs b o xs (I.base.frzs b o xs e),fun b ps e=>?_⟩,?_,fun x c e=>?_,?_,fun x c e=>?_,fun p hp=>?_,hok,I.len⟩
  . exact keep b o (neL b o e) hb (neC b o e hx) (I.base.keep b o e n hb hx) (I.base.free b o e n hx)
  . obtain⟨sl,e1⟩:=I.base.slot b o e n hb hx
    obtain⟨sl',e2⟩:=slot b _ (neL b o e) hb (neC b o e hx) e1 (I.base.free b o e n hx);exact⟨sl',e2⟩
  . obtain⟨o',e1⟩:=I.base.there b o e hx
    exact free b o' (neC b o e hx) e1 (I.base.free b o e n hx)
  . obtain⟨o',e1⟩:=I.base.there b o e hx
    exact there b o' (neC b o e hx) e1
  . obtain⟨m1,e1⟩:=I.base.tbls b ps e
    obtain⟨m2,e2⟩:=tbls b _ e1;exact⟨m1++m2,by rw[e2,Array.append_assoc]⟩
  . obtain⟨m,hn,hl⟩:=I.loc
    refine⟨m,ns m hn,fun i x v e1 e2 e3=>?_⟩;obtain⟨u,r,l⟩:=hl i x v e1 e2 e3;refine⟨u,r,?_⟩;rcases l with l | ⟨k,c,e,z⟩
    . exact .inl l
    . exact .inr ⟨k,c,e,cellK x c e _ z⟩
  . obtain⟨v,z⟩:=I.cell x c e
    exact⟨v,cellK x c e v z⟩
  . obtain⟨m,⟨o,_,_,ho,_⟩,_⟩:=I.loc
    exact free _ o (fun z=>(hch _ z).2.1 rfl) ho I.free
  . obtain⟨v,o,ho,hd⟩:=I.cell x c e
    exact free c o (fun z=>(hch c z).2.2.1 x c e rfl) ho (I.freeC x c e)
  . obtain⟨e,n,ne,nf,d⟩:=I.pin p hp
    have nch:p.1∉ch:=fun z=>(hch p.1 z).2.2.2 p hp rfl;exact⟨keep p.1 p.2 ne nf nch e n,free p.1 p.2 nch e n,ne,nf,d⟩
theorem Inv.un (I:Inv X Oa G H s) (u:Un X.fs [] H H' s.heap h') (hok:HOk X.prog X.w H' h'):Inv X Oa G H' { s with heap:=h',toks:=t' }:=by
  obtain⟨m,⟨o,es,ep,ho,r⟩,_⟩:=id I.loc;obtain⟨sl,hL⟩:=u.any ho I.free 's';exact I.step (g':=s.gens) (d':=s.drawn) (ch:=[]) (fun _ z=>nomatch z) (fun b o _ hb _ e n=>u.keep b o e n hb 's') (fun b o _ hb _ e n=>u.slot b o e n hb 's') (fun b o _ e n=>u.free b o e n 's') (fun b o _ e=>u.there b o e 's') u.tups u.frzs u.tbls (fun m' hm=>by
    obtain⟨o',es',ep',ho',r'⟩:=hm;rw[ho] at ho';cases ho';exact⟨_,es',ep',hL,r'⟩) hok I.bare
theorem Inv.call (I:Inv X Oa G H s) (u:Un (frs X.stack) ch H H' s.heap h') (hok:HOk X.prog X.w H' h') (hg:AllBare g')
    (hch:∀ b∈ch,(b∈X.ex\/X.s₀.heap.objs.size<=b)/\b≠X.env.locals/\(∀ x c,X.env.cells.lookup x=some c->c≠b)/\∀ p∈X.pn++Oa,p.1≠b) :
    Inv X Oa G H' { s with heap:=h',gens:=g',drawn:=d',toks:=t' }:=by
  obtain⟨m,⟨o,es,ep,ho,r⟩,_⟩:=id I.loc;obtain⟨sl,hL⟩:=u.any ho I.free fun z=>(hch _ z).2.1 rfl;exact I.step (ch:=ch) hch (fun b o hL hb hc e n=>u.keep b o e n (fun z=>(qF.mp (I.stkSub b z)).elim hL hb) hc) (fun b o _ _ hc e n=>u.any e n hc) (fun b o hc e n=>u.free b o e n hc) (fun b o hc e=>u.there b o e hc) u.tups u.frzs u.tbls (fun m' hm=>by
    obtain⟨o',es',ep',ho',r'⟩:=hm;rw[ho] at ho';cases ho';exact⟨_,es',ep',hL,r'⟩) hok hg
theorem Inv.turned (I:Inv X Oa G H s) (k:∀ b o,b≠it->s.heap.get? b=some o->h'.get? b=some o) (hn:H it=none) (hL:it≠X.env.locals)
    (h1:it∈X.ex\/X.s₀.heap.objs.size<=it) (h2:∀ x c,X.env.cells.lookup x=some c->c≠it) (h3:∀ p∈X.pn++Oa,p.1≠it):Inv X Oa G H { s with heap:=h',toks:=t' }:=by
  have nit:∀ b u,H b=some u->b≠it:=fun b u e z=>by rw[z,hn] at e;cases e
  refine I.step (g':=s.gens) (d':=s.drawn) (ch:=[it]) (fun b hb=>?_) (fun b o _ _ hc e _=>k b o (fun z=>hc (by simp[z])) e) (fun b o _ _ hc e _=>⟨o.slots,k b o (fun z=>hc (by simp[z])) e⟩) (fun _ _ _ _ n=>n)
    (fun b o hc e=>⟨o,k b o (fun z=>hc (by simp[z])) e⟩) (fun _ _ e=>e) (fun _ _ _ e=>e) (fun b ps e=>⟨#[],by rw[e];simp⟩) (fun m hm=>?_) (fun b u e=>?_) I.bare
  . have e:b=it:=by simpa using hb
    subst e;exact⟨h1,hL,h2,h3⟩
  . obtain⟨o,es,ep,ho,r⟩:=hm
    exact⟨o,es,ep,k _ o (Ne.symm hL) ho,r⟩
  . refine (I.hok b u e).stay (fun c v hc q=>k c v ?_ q) (fun _ q=>q) fun _ _ q=>q
    rcases hc with z | z
    . rw[z];exact nit b u e
    . exact nit c _ z
theorem Inv.tok (I:Inv X Oa G H s) (t:Nat):Inv X Oa G H { s with toks:=t }:=I.un (h':=s.heap) (t':=t) Un.refl I.hok
theorem Inv.kept (I:Inv X Oa G H s) (k:∀ b u,s.heap.get? b=some u->h'.get? b=some u):Inv X Oa G H { s with heap:=h',toks:=t' }:=I.un (Un.kept k) (I.hok.kept k)
theorem Inv.laid {o:HO}(I:Inv X Oa G H s) (k:∀ b u,s.heap.get? b=some u->h'.get? b=some u) (hp:s.heap.objs.size<=a) (new:jB X.prog X.w (upd H a o) h' a o) :
    Inv X Oa G (upd H a o) { s with heap:=h',toks:=t' }:=I.un (Un.laid k hp (I.hok.fresh hp)) (I.hok.laid k hp new)
theorem Inv.write {x e:Addr}{o:HO}(I:Inv X Oa G H s) (mu:Mut (H x)) (he:e=x\/H e=some (.own x)) (k:∀ b u,b≠e->s.heap.get? b=some u->h'.get? b=some u) (heo:∃ u,h'.get? e=some u)
    (new:jB X.prog X.w (upd H x o) h' x o):Inv X Oa G (upd H x o) { s with heap:=h',toks:=t' }:=I.un (Un.write mu he k heo) (I.hok.write mu he k heo new)
theorem Inv.weak {G':List (Option V)}(I:Inv X Oa G H s) (hl:G'.length=G.length) (w:∀ (i:Nat) v,G'[i]?=some (some v)->G[i]?=some (some v)):Inv X Oa G' H s :=
  ⟨I.ok,I.os,I.bare,I.base,let ⟨m,hn,hl'⟩:=I.loc;⟨m,hn,fun i x v e1 e2 e3=>hl' i x v e1 (w i v e2) e3⟩,I.cell,I.free,I.freeC,I.pin,I.hok,hl.trans I.len⟩
theorem Inv.pins_of (I:Inv X Oa G H s) (h:∀ p∈pins',s.heap.get? p.1=some p.2/\H p.1=none/\p.1≠X.env.locals/\p.1∉X.fs/\∀ v,p.2.data≠.cell v):Inv X pins' G H s :=
  ⟨I.ok,I.os,I.bare,I.base,I.loc,I.cell,I.free,I.freeC,fun p hp=>(qG.mp hp).elim (fun z=>I.pin p (q0 _ z)) (h p),I.hok,I.len⟩
theorem qem (hN:N.Nodup) (a:N[i]?=some x) (b:N[j]?=some x):i=j:=by
  obtain⟨h1,e1⟩:=qC.mp a;obtain⟨h2,e2⟩:=qC.mp b;exact (List.getElem_inj hN).mp (e1.trans e2.symm)
abbrev FnL (X:Cx) (x:Str):Prop:=X.fn x=true\/X.env.scope.names.lookup x=some .local
theorem qfO (I:Inv X Oa G H s) (hN:X.N.Nodup) (hi:X.N[i]?=some x) (hx:Loc X.env.scope x) (r:jr v u)
    (h:∀ s',Inv X Oa (G.set i (some v)) H s'->(∃ a,Heap.SameBut a s.heap s'.heap/\(a=X.env.locals\/X.env.cells.lookup x=some a))->Q () s') (hf:FnL X x:=by trivial):wpAny M A (storeName X.env x u) Q E s:=by
  obtain⟨m,hn,hl⟩:=id I.loc;have hcls:(X.env.scope.kind == .class || (X.env.scope.kind == .module && X.env.locals != X.env.globals))=false:=by rw[I.ok.kind];rfl
  have hiU:i<G.length:=by rw[I.len];exact (qC.mp hi).1
  have cne:=I.cne;have tracked:∀ {a:Addr}{h':Heap},(∃ o,s.heap.get? a=some o/\H a=none)->Heap.SameBut a s.heap h'->HOk X.prog X.w H h':=fun {a h'} ha hs b ob e=>by
    obtain⟨_,_,hfree⟩:=ha;refine (I.hok b ob e).stay (fun c w' hc q=>(hs.2 c ?_).trans q) (fun _ q=>q) fun _ _ q=>q;rintro rfl;rcases hc with rfl | hc
    . rw[hfree] at e;cases e
    . rw[hfree] at hc;cases hc
  rcases hx with hk | hk
  . refine wpAny_storeName_local hk hn (fun h' hn' hs=>?_) hcls
    obtain⟨oL,_,_,hoL,_⟩:=id hn;refine h _ ⟨I.ok,I.os,I.bare,⟨fun b o e n hb hx=>?_,fun b o e n hb hx=>?_,I.base.free,fun b o e hx=>?_,I.base.tups,I.base.frzs,I.base.tbls⟩,⟨_,hn',fun j y v' e1 e2 e3=>?_⟩,fun y c e=>?_,I.free,I.freeC,fun p hp=>?_,tracked ⟨oL,hoL,I.free⟩ hs,by simpa using I.len⟩ ⟨_,hs,.inl rfl⟩
    . exact (hs.2 b (qt (qM (qo e) I.ok.above))).trans (I.base.keep b o e n hb hx)
    . obtain⟨sl,e1⟩:=I.base.slot b o e n hb hx
      exact⟨sl,(hs.2 b (qt (qM (qo e) I.ok.above))).trans e1⟩
    . obtain⟨o',e1⟩:=I.base.there b o e hx
      exact⟨o',(hs.2 b (qt (qM (qo e) I.ok.above))).trans e1⟩
    . by_cases hj:j=i
      . subst hj
        rw[hi] at e1;cases e1;rw[List.getElem?_set_self hiU] at e2;cases e2
        exact⟨u,r,.inl ⟨hk,'s'⟩⟩
      . rw[List.getElem?_set_ne (Ne.symm hj)] at e2
        obtain⟨u',r',q⟩:=hl j y v' e1 e2 e3;refine⟨u',r',?_⟩;rcases q with⟨k,e⟩ | ⟨k,c,e,z⟩
        . refine .inl ⟨k,?_⟩
          have:y≠x:=fun e=>hj (qem hN e1 (e ▸ hi));simp[this,e]
        . exact .inr ⟨k,c,e,z.sameBut hs (cne y c e)⟩
    . obtain⟨w',z⟩:=I.cell y c e
      exact⟨w',z.sameBut hs (cne y c e)⟩
    . obtain⟨e,n,ne,nf,d⟩:=I.pin p hp
      exact⟨(hs.2 p.1 ne).trans e,n,ne,nf,d⟩
  . have hfn:X.fn x=true:=by
      rcases hf with z | z
      . exact z
      . rw[z] at hk;cases hk
    obtain⟨c,hc⟩:=I.ok.has x (.inl hk);obtain⟨w',z⟩:=I.cell x c hc;refine wpAny_storeName_cell I.ok.kind hk hc z (fun h' hc' hs=>?_);obtain⟨oc,hoc,hocd⟩:=id z;refine h { s with heap:=h' } ⟨I.ok,I.os,I.bare,⟨fun b o e n hb hx=>?_,fun b o e n hb hx=>?_,I.base.free,fun b o e hx=>?_,I.base.tups,I.base.frzs,I.base.tbls⟩,⟨m,hn.sameBut hs (Ne.symm (cne x c hc)),fun j y v' e1 e2 e3=>?_⟩,fun y c' e=>?_,I.free,I.freeC,fun p hp=>?_,tracked ⟨oc,hoc,I.freeC x c hc⟩ hs,by simpa using I.len⟩ ⟨c,hs,.inr hc⟩
    . exact (hs.2 b (qt (qM (qo e) (I.ok.cab x c hfn hc)))).trans (I.base.keep b o e n hb hx)
    . obtain⟨sl,e1⟩:=I.base.slot b o e n hb hx
      exact⟨sl,(hs.2 b (qt (qM (qo e) (I.ok.cab x c hfn hc)))).trans e1⟩
    . obtain⟨o',e1⟩:=I.base.there b o e hx
      exact⟨o',(hs.2 b (qt (qM (qo e) (I.ok.cab x c hfn hc)))).trans e1⟩
    . by_cases hj:j=i
      . subst hj
        rw[hi] at e1;cases e1;rw[List.getElem?_set_self hiU] at e2;cases e2
        exact⟨u,r,.inr ⟨.inl hk,c,hc,hc'⟩⟩
      . rw[List.getElem?_set_ne (Ne.symm hj)] at e2
        obtain⟨u',r',q⟩:=hl j y v' e1 e2 e3;refine⟨u',r',?_⟩;rcases q with q | ⟨k,c',e,z'⟩
        . exact .inl q
        . refine .inr ⟨k,c',e,z'.sameBut hs ?_⟩
          rintro rfl;exact hj (qem hN e1 (I.ok.inj _ _ _ e hc ▸ hi))
    . by_cases hcc:c'=c
      . subst hcc;exact⟨_,hc'⟩
      . obtain⟨w2,z2⟩:=I.cell y c' e
        exact⟨w2,z2.sameBut hs hcc⟩
    . obtain⟨e,n,ne,nf,d⟩:=I.pin p hp
      refine⟨(hs.2 p.1 ?_).trans e,n,ne,nf,d⟩;intro q;rw[q,hoc] at e;have q':oc=p.2:=Option.some.inj e;exact d w' (by rw[<- q'];exact hocd)
theorem ZW (I:Inv X Oa G H s) (hN:X.N.Nodup) (hi:X.N[i]?=some x) (hx:Loc X.env.scope x) (r:jr v u)
    (h:∀ s',Inv X Oa (G.set i (some v)) H s'->Q () s') (hf:FnL X x:=by trivial):wpAny M A (storeName X.env x u) Q E s :=
  qfO I hN hi hx r (fun s' I' _=>h s' I') hf
theorem Inv.call' (I:Inv X Oa G H s) (ho:s'.os=s.os) (u:Un (frs X.stack) ch H H' s.heap s'.heap) (hok:HOk X.prog X.w H' s'.heap) (hg:AllBare s'.gens)
    (hch:∀ b∈ch,(b∈X.ex\/X.s₀.heap.objs.size<=b)/\b≠X.env.locals/\(∀ x c,X.env.cells.lookup x=some c->c≠b)/\∀ p∈X.pn++Oa,p.1≠b):Inv X Oa G H' s':=by
  obtain⟨h',g',d',t',o'⟩:=s';have e:o'=s.os:=ho;subst e;exact I.call (g':=g') (t':=t') (d':=d') u hok hg hch
end
abbrev XK:=Value->Option Addr->Hp->Prop
abbrev St:=List (Option V)
abbrev VK:=V->Hp->Prop
abbrev TE:=St->Hp->VK->Prop
abbrev TT:=St->Hp->(Bool->Hp->Prop)->Prop
abbrev TA:=St->Hp->(List V->Hp->Prop)->Prop
structure Ends where
  nx:St->Hp->Prop
  rt:VK
  bk:St->Hp->Prop:=fun _ _=>False
  ct:St->Hp->Prop:=fun _ _=>False
abbrev TS:=Ends->St->Hp->Prop
def EP (X:Cx) (Oa:List (Addr×Obj)) (G:St) (Q:VK) (u:Value) (s':Shared):Prop:=∃ v H',Inv X Oa G H' s'/\jr v u/\Q v H'
def TP (X:Cx) (Oa:List (Addr×Obj)) (G:St) (Q:Bool->Hp->Prop) (b:Bool) (s':Shared):Prop:=∃ H',Inv X Oa G H' s'/\Q b H'
def AP (X:Cx) (Oa:List (Addr×Obj)) (G:St) (Q:List V->Hp->Prop) (us:List Value) (s':Shared):Prop:=∃ vs H',Inv X Oa G H' s'/\yM vs us/\Q vs H'
def SP (X:Cx) (Oa:List (Addr×Obj)) (D:Ends) (f:Flow) (s':Shared):Prop :=
  match f with
  | .next=>∃ G' H',Inv X Oa G' H' s'/\D.nx G' H'
  | .brk=>∃ G' H',Inv X Oa G' H' s'/\D.bk G' H'
  | .cont=>∃ G' H',Inv X Oa G' H' s'/\D.ct G' H'
  | .ret u=>∃ v G' H',Inv X Oa G' H' s'/\jr v u/\D.rt v H'
def PE (X:Cx) (e:Expr) (t:TE):Prop :=
  ∀ Oa s G H (Q:VK),Inv X Oa G H s->t G H Q->wpAny 'M' X.A (eval e X.env) (EP X Oa G Q) X.xe s
def PT (X:Cx) (e:Expr) (t:TT):Prop :=
  ∀ Oa s G H (Q:Bool->Hp->Prop),Inv X Oa G H s->t G H Q->wpAny 'M' X.A (isTrue e X.env (eval e X.env)) (TP X Oa G Q) X.xe s
def PW (X:Cx) (e:Expr) (t:TT):Prop :=
  ∀ (whole:Sem Value) Oa s G H (Q:Bool->Hp->Prop),Inv X Oa G H s->t G H Q->wpAny 'M' X.A (isTrue e X.env whole) (TP X Oa G Q) X.xe s
theorem PW.pt {X:Cx}{e:Expr}{t:TT}(h:PW X e t):PT X e t:=h _
def PA (X:Cx) (es:List Expr) (t:TA):Prop :=
  ∀ (pos:Pos) Oa s G H (Q:List V->Hp->Prop),Inv X Oa G H s->t G H Q->wpAny 'M' X.A (spliced (backTo pos (starEach es X.env))) (AP X Oa G Q) X.xe s
def PS (X:Cx) (st:Stmt) (t:TS):Prop :=
  ∀ Oa s G H (D:Ends),Inv X Oa G H s->t D G H->wpAny 'M' X.A (exec st X.env) (SP X Oa D) X.xe s
def PSs (X:Cx) (st:List Stmt) (t:TS):Prop :=
  ∀ Oa s G H (D:Ends),Inv X Oa G H s->t D G H->wpAny 'M' X.A (execs st X.env) (SP X Oa D) X.xe s
theorem thn {t:Sem α}{Q Q':α->Shared->Prop}(h:wpAny M A t Q E s) (hQ:∀ a s,Q a s->Q' a s):wpAny M A t Q' E s:=qN h hQ fun _ _ x=>x
end L2
variable {X:L2.Cx}{G:L2.St}{Q:L2.VK}{tl tv td ty:L2.TE}
namespace L2
variable {Q:Value->Shared->Prop}
section
def tVar (i:Nat):TE:=fun G H Q=>∃ v,G[i]?=some (some v)/\Q v H
def tC (v:V):TE:=fun _ H Q=>Q v H
theorem qcg (hN:X.N[i]?=some x) (hv:Vis X.env.scope x) (hd:(x == ("__debug__" : Str))=false:=by decide) (hcd:(x == ("__classdict__" : Str))=false:=by decide):PE X (.Name x pos) (tVar i):=by
  intro Oa s G H Q I h;obtain⟨v,e,h⟩:=h;obtain⟨m,hn,hl⟩:=I.loc;obtain⟨u,r,l⟩:=hl i x v hN e hv;have fin:EP X Oa G Q u s:=⟨v,H,I,r,h⟩;rcases l with⟨hk,hm⟩ | ⟨hk,c,hc,hcell⟩
  . exact wpAny_Name (wpAny_loadName_local I.ok.kind hk hn hm fin) hd
  . rcases hk with hk | hk
    . exact wpAny_Name (wpAny_loadName_cell I.ok.kind hk hc hcell fin) hd
    . exact wpAny_Name (wpAny_loadName_free I.ok.kind hk hc hcell fin hcd) hd
theorem Jk {i j pos}:PE X (.Constant (.int i) j pos) (tC (.int i)):=fun _ _ _ H _ I h=>wpAny_Constant_int ⟨.int i,H,I.tok _,⟨_,rfl⟩,h⟩
theorem qlv {b j pos}:PE X (.Constant (.bool b) j pos) (tC (.bl b)):=fun _ _ _ H _ I h=>Constant_bool ⟨.bl b,H,I,rfl,h⟩
theorem qod {j pos}:PE X (.Constant .none j pos) (tC .non):=fun _ _ _ H _ I h=>Constant_none ⟨.non,H,I,rfl,h⟩
theorem qeg {x j pos}:PE X (.Constant (.str x) j pos) (tC (.str x)):=fun _ _ _ H _ I h=>Calls.Constant_str ⟨.str x,H,I.tok _,⟨_,rfl⟩,h⟩
def Gl (X:Cx) (x:Str):Prop:=X.env.kindOf x=some .globalImplicit
theorem Zx (I:Inv X Oa G H s) (hg:Gl X x) (hm:X.mg x=some u) (h:Q u s)
    (hd:(x == ("__debug__" : Str))=false:=by decide):wpAny 'M' X.A (eval (.Name x pos) X.env) Q E s :=
  Calls.Name_function_global I.ok.kind hg (Calls.loadGlobal_global (by rw[I.ok.glob];exact I.mod.glob.keeps I.bk) hm h) hd
theorem qav (I:Inv X Oa G H s) (hg:Gl X x) (hm:X.mg x=none) (hv:bootBuiltins x=some u) (h:Q u s)
    (hn:x ≠ "__name__" := by decide) (hd:(x == ("__debug__" : Str))=false:=by decide):wpAny 'M' X.A (eval (.Name x pos) X.env) Q E s:=by
  obtain⟨mb,h1,h2⟩:=I.mod.blt;exact Calls.Name_function_global I.ok.kind hg (Calls.loadGlobal_builtin (by rw[I.ok.glob];exact I.mod.glob.keeps I.bk) hm (by rw[I.ok.blt];exact h1.keeps I.bk) ((h2 x hn).trans hv) h) hd
theorem qlu (hg:Gl X x) (hm:X.mg x=none) (hv:bootBuiltins x=some u) (r:jr v u) (hn:x ≠ "__name__" := by decide) (hd:(x == ("__debug__" : Str))=false:=by decide):PE X (.Name x pos) (tC v) :=
  fun _ _ _ H _ I h=>qav I hg hm hv ⟨v,H,I,r,h⟩ hn hd
variable {a b:Expr}{ta tb:TE}
def PC (X:Cx) (op:CmpOp) (a b:Expr) (t:TE):Prop :=
  ∀ Oa s G H (Q:VK),Inv X Oa G H s->t G H Q →
    wpAny 'M' X.A (eval a X.env) (fun v sa1=>wpAny 'M' X.A (eval b X.env) (fun u sa2=>wpAny 'M' X.A (compareOp op v u) (EP X Oa G Q) X.xe sa2) X.xe sa1) X.xe s
def tB (t:TE):TT:=fun G H Q=>t G H fun x H1=>∃ c,x = .bl c/\Q c H1
theorem qj6 {t:TE}(h:PC X op a b t) (h1:behindInMarks op b=false:=by first | exact nobehind _ 'd' 'd' | rfl):PT X (.Compare a [op] [b] pos) (tB t):=by
  intro Oa s G H Q I hw;refine wpAny_isTrue_Compare1 (thn (h Oa s G H _ I hw) fun v s1 h1=>thn h1 fun u s2 h2=>thn h2 fun c s3 ⟨x,H1,I1,r1,q1⟩=>?_) h1;obtain⟨d,rfl,q⟩:=q1;cases r1
  exact yF ⟨H1,I1,q⟩
theorem qnW {e:Expr}{t:TE}(h:PE X e t) (he:∀ whole,isTrue e X.env whole=(do let v <- whole;standAt e.pos;holding [v] (truthy v)):=by intro _;rfl):PT X e (tB t):=by
  intro Oa s G H Q I hw;refine isTrue_plain (thn (h Oa s G H _ I hw) fun v s1 ⟨x,H1,I1,r1,q1⟩=>?_) (he _);obtain⟨d,rfl,q⟩:=q1;cases r1
  exact yF ⟨H1,I1,q⟩
variable {tA tB':TT}{rest:List Expr}
def tAnd (t u:TT):TT:=fun G H Q=>t G H fun c H1=>if c=true then u G H1 Q else Q false H1
def tOr (t u:TT):TT:=fun G H Q=>t G H fun c H1=>if c=true then Q true H1 else u G H1 Q
def tNot (t:TT):TT:=fun G H Q=>t G H fun c H1=>Q (!c) H1
theorem qle (ha:PT X a tA):PW X (.BoolOp .And [a] pos) tA:=by
  intro wh Oa s G H Q I h;refine isTrue_and (thn (ha Oa s G H Q I h) fun c s1 e=>?_);cases c with
  | true=>exact isTrue_and_nil e
  | false=>exact e
theorem qnT (ha:PT X a tA):PW X (.BoolOp .Or [a] pos) tA:=by
  intro wh Oa s G H Q I h;refine isTrue_or (thn (ha Oa s G H Q I h) fun c s1 e=>?_);cases c with
  | false=>exact isTrue_or_nil e
  | true=>exact e
theorem qnU (ha:PT X a tA) (hb:PW X (.BoolOp .And (b::rest) pos) tB'):PW X (.BoolOp .And (a::b::rest) pos) (tAnd tA tB'):=by
  intro wh Oa s G H Q I h;refine isTrue_and (thn (ha Oa s G H _ I h) fun c s1 ⟨H1,I1,q1⟩=>?_);cases c with
  | true=>exact hb wh Oa s1 G H1 Q I1 q1
  | false=>exact⟨H1,I1,q1⟩
theorem pw_or (ha:PT X a tA) (hb:PW X (.BoolOp .Or (b::rest) pos) tB'):PW X (.BoolOp .Or (a::b::rest) pos) (tOr tA tB'):=by
  intro wh Oa s G H Q I h;refine isTrue_or (thn (ha Oa s G H _ I h) fun c s1 ⟨H1,I1,q1⟩=>?_);cases c with
  | true=>exact⟨H1,I1,q1⟩
  | false=>exact hb wh Oa s1 G H1 Q I1 q1
theorem qnX (ha:PT X a tA):PT X (.UnaryOp .Not a pos) (tNot tA):=by
  intro Oa s G H Q I h;exact isTrue_not (ha Oa s G H (fun c H1=>Q (!c) H1) I h)
def tAndV (ta tb:TE):TE:=fun G H Q=>ta G H fun x H1=>∃ c,x = .bl c/\if c=true then tb G H1 Q else Q (.bl false) H1
def tOrV (ta tb:TE):TE:=fun G H Q=>ta G H fun x H1=>∃ c,x = .bl c/\if c=true then Q (.bl true) H1 else tb G H1 Q
def tNotV (ta:TE):TE:=fun G H Q=>ta G H fun x H1=>∃ c,x = .bl c/\Q (.bl (!c)) H1
theorem qob {op} {t:TE}(h:PE X a t):PE X (.BoolOp op [a] pos) t:=fun Oa s G H Q I hw=>BoolOp_one (h Oa s G H Q I hw)
theorem qof (ha:PE X a ta) (hb:PE X (.BoolOp .And (b::rest) pos) tb):PE X (.BoolOp .And (a::b::rest) pos) (tAndV ta tb):=by
  intro Oa s G H Q I h;refine BoolOp_and (thn (ha Oa s G H _ I h) fun v s1 ⟨x,H1,I1,r1,q1⟩=>?_);obtain⟨c,rfl,q1⟩:=q1;cases r1
  refine yF ?_;cases c with
  | true=>exact hb Oa s1 G H1 Q I1 q1
  | false=>exact⟨.bl false,H1,I1,rfl,q1⟩
theorem pe_or (ha:PE X a ta) (hb:PE X (.BoolOp .Or (b::rest) pos) tb):PE X (.BoolOp .Or (a::b::rest) pos) (tOrV ta tb):=by
  intro Oa s G H Q I h;refine BoolOp_or (thn (ha Oa s G H _ I h) fun v s1 ⟨x,H1,I1,r1,q1⟩=>?_);obtain⟨c,rfl,q1⟩:=q1;cases r1
  refine yF ?_;cases c with
  | false=>exact hb Oa s1 G H1 Q I1 q1
  | true=>exact⟨.bl true,H1,I1,rfl,q1⟩
theorem qoc (ha:PE X a ta):PE X (.UnaryOp .Not a pos) (tNotV ta):=by
  intro Oa s G H Q I h;refine UnaryOp_ (thn (ha Oa s G H _ I h) fun v s1 ⟨x,H1,I1,r1,q1⟩=>?_);obtain⟨c,rfl,q1⟩:=q1;cases r1
  exact not_of (yF ⟨.bl (!c),H1,I1,rfl,q1⟩)
def tIf (t:TT) (ta tb:TE):TE:=fun G H Q=>t G H fun c H1=>if c=true then ta G H1 Q else tb G H1 Q
theorem qiJ (hc:PT X c tA) (ha:PE X a ta) (hb:PE X b tb):PE X (.IfExp c a b pos) (tIf tA ta tb):=by
  intro Oa s G H Q I h;refine wpAny_IfExp (thn (hc Oa s G H _ I h) fun d s1 ⟨H1,I1,q1⟩=>?_);cases d with
  | true=>exact ha Oa s1 G H1 Q I1 q1
  | false=>exact hb Oa s1 G H1 Q I1 q1
end
end L2
namespace L2
variable {te:TE}{tc:TT}
def SqL (K:W.Frag) (H:Hp) (a:Addr) (xs:List V):Prop :=
  Rd H a (.lst xs) ∨
    ∃ (o:Obj) (its:Array Value) (n:Nat),K.lookup a=some o/\o.cls = .type "list" /\ o.dict=none/\o.data = .seq its n/\its.size<=sizeLine/\yM xs its.toList
def SqT (K:W.Frag) (H:Hp) (a:Addr) (xs:List V):Prop :=
  Rd H a (.tup xs) ∨
    ∃ (o:Obj) (its:Array Value) (n:Nat),K.lookup a=some o/\o.cls = .type "tuple" /\ o.data = .seq its n/\its.size<=sizeLine/\yM xs its.toList
def absV:Value->Option V
  | .none=>some .non
  | .bool b=>some (.bl b)
  | .int i _=>some (.int i)
  | .str x _=>some (.str x)
  | .bytes b _=>some (.byt b)
  | .float b _=>some (.flt b)
  | .ref a=>some (.ref a)
  | .type n=>some (.ty n)
  | _=>none
theorem jr.abs {x:V}(r:jr x u):absV u=some x:=by
  cases x with
  | non=>cases r;rfl
  | bl _=>cases r;rfl
  | int _=>obtain⟨t,rfl⟩:=r;rfl
  | str _=>obtain⟨t,rfl⟩:=r;rfl
  | byt _=>obtain⟨t,rfl⟩:=r;rfl
  | flt _=>obtain⟨t,rfl⟩:=r;rfl
  | ref _=>cases r;rfl
  | ty _=>cases r;rfl
theorem jr.inj {x y:V}(r:jr x u) (q:jr y u):x=y:=Option.some.inj (r.abs.symm.trans q.abs)
theorem yM.inj:∀ {xs ys:List V}{us:List Value},yM xs us->yM ys us->xs=ys
  | _,_,_,.nil,.nil=>rfl
  | _,_,_,.cons r t,.cons r' t'=>by rw[r.inj r',yM.inj t t']
section
variable {xs:List V}
theorem SqL.of (h:H a=some (.lst xs)):SqL K H a xs:=.inl (.inl h)
theorem SqT.of (h:H a=some (.tup xs)):SqT K H a xs:=.inl (.inl h)
theorem Inv.list (I:Inv X Oa G H s) (h:SqL X.K H a xs):∃ its:List Value,yM xs its/\PlainL s.heap a its.toArray/\xs.length<=sizeLine:=by
  rcases h with h | ⟨o,its,n,hk,hc,hd,hs,hz,r⟩
  . obtain⟨z,its,n,r,e⟩:=h.ok I.hok
    exact⟨its,r,⟨_,n,e,rfl,rfl,rfl⟩,z⟩
  . refine⟨its.toList,r,⟨o,n,I.kIn a o hk,hc,hd,by simpa using hs⟩,?_⟩
    have e:=r.length;simp only[qy] at e;omega
theorem Inv.tuple (I:Inv X Oa G H s) (h:SqT X.K H a xs):∃ its:List Value,yM xs its/\IsTup s.heap a its.toArray/\xs.length<=sizeLine:=by
  rcases h with h | ⟨o,its,n,hk,hc,hs,hz,r⟩
  . obtain⟨z,its,r,p⟩:=h.ok I.hok
    exact⟨its,r,p,z⟩
  . refine⟨its.toList,r,⟨o,I.kIn a o hk,hc,n,by simpa using hs⟩,?_⟩
    have e:=r.length;simp only[qy] at e;omega
theorem Inv.list_inj (I:Inv X Oa G H s) (h:SqL X.K H a xs) (h':SqL X.K H a ys):xs=ys:=by
  obtain⟨its,r,⟨o,n,e,_,_,d⟩,_⟩:=I.list h;obtain⟨its',r',⟨o',n',e',_,_,d'⟩,_⟩:=I.list h';rw[e] at e';cases e';rw[d] at d';injection d' with d1 _
  have:its=its':=by simpa using congrArg Array.toList d1
  subst this;exact r.inj r'
theorem Inv.tuple_inj (I:Inv X Oa G H s) (h:SqT X.K H a xs) (h':SqT X.K H a ys):xs=ys:=by
  obtain⟨its,r,⟨o,e,_,n,d⟩,_⟩:=I.tuple h;obtain⟨its',r',⟨o',e',_,n',d'⟩,_⟩:=I.tuple h';rw[e] at e';cases e';rw[d] at d';injection d' with d1 _
  have:its=its':=by simpa using congrArg Array.toList d1
  subst this;exact r.inj r'
end
abbrev Cx.wish (X:Cx) (E:Value->Shared->Prop):Cx:={ X with xe:=E }
abbrev Cx.nox (X:Cx):Cx:=X.wish fun _ _=>False
theorem Cx.Ok.wish (ok:X.Ok) (E:Value->Shared->Prop):(X.wish E).Ok :=
  ⟨ok.mod,ok.kind,ok.glob,ok.blt,ok.above,ok.inj,ok.has,ok.cab,ok.hd,ok.frames,ok.stk,ok.exf,ok.bs,ok.bsz,ok.noex,ok.exfs,ok.funs,ok.frf⟩
theorem Cx.Ok.unwish (ok:(X.wish E).Ok):X.Ok :=
  ⟨ok.mod,ok.kind,ok.glob,ok.blt,ok.above,ok.inj,ok.has,ok.cab,ok.hd,ok.frames,ok.stk,ok.exf,ok.bs,ok.bsz,ok.noex,ok.exfs,ok.funs,ok.frf⟩
theorem Inv.wish (I:Inv X Oa G H s) (E:Value->Shared->Prop):Inv (X.wish E) Oa G H s:=⟨I.ok.wish E,I.os,I.bare,I.base,I.loc,I.cell,I.free,I.freeC,I.pin,I.hok,I.len⟩
theorem Inv.unwish (I:Inv (X.wish E) Oa G H s):Inv X Oa G H s:=⟨I.ok.unwish,I.os,I.bare,I.base,I.loc,I.cell,I.free,I.freeC,I.pin,I.hok,I.len⟩
theorem SP.unwish {D:Ends}{f:Flow}(h:SP (X.wish E) Oa D f s'):SP X Oa D f s':=by
  cases f with
  | next=>obtain⟨G',H',I,q⟩:=h;exact⟨G',H',I.unwish,q⟩
  | brk=>obtain⟨G',H',I,q⟩:=h;exact⟨G',H',I.unwish,q⟩
  | cont=>obtain⟨G',H',I,q⟩:=h;exact⟨G',H',I.unwish,q⟩
  | ret u=>obtain⟨v,G',H',I,r,q⟩:=h;exact⟨v,G',H',I.unwish,r,q⟩
theorem PSs.nox {st:List Stmt}{t:TS}(h:PSs X.nox st t):PSs X st t:=fun Oa s G H D I hw =>
  qN (h Oa s G H D (I.wish _) hw) (fun _ _ q=>q.unwish) fun _ _ z=>False.elim z
section
variable {st:Stmt}{rest:List Stmt}{t u:TS}{e:Expr}
def tNext:TS:=fun D G H=>D.nx G H
def tSeq (t u:TS):TS:=fun D G H=>t { D with nx:=u D } G H
theorem qdf:PSs X [] tNext:=fun _ _ G H _ I h=>wpAny_execs_nil ⟨G,H,I,h⟩
theorem yG (h1:PS X st t) (h2:PSs X rest u):PSs X (st::rest) (tSeq t u):=by
  intro Oa s G H D I h;refine wpAny_execs_cons (thn (h1 Oa s G H { D with nx:=u D } I h) fun f s1 q=>?_);cases f with
  | next =>
    obtain⟨G',H',I',q⟩:=q;exact h2 Oa s1 G' H' D I' q
  | ret v=>exact q
  | brk=>exact q
  | cont=>exact q
theorem jn (h1:PS X st t):PSs X [st] t:=by
  intro Oa s G H D I h;refine wpAny_execs_cons (thn (h1 Oa s G H D I h) fun f s1 q=>?_);cases f with
  | next=>exact wpAny_execs_nil q
  | ret v=>exact q
  | brk=>exact q
  | cont=>exact q
theorem Inv.quiet (I:Inv X Oa G H s):interactive X.env=false:=by simp[interactive,I.ok.kind]
def tDrop (te:TE):TS:=fun D G H=>te G H fun _ H1=>D.nx G H1
theorem qdh (he:PE X e te) (hs:swapsWith e none pos.line X.env=pure false:=by rfl):PS X (.Expr e pos) (tDrop te):=by
  intro Oa s G H D I h;exact wpAny_Expr_any (thn (he Oa s G H _ I h) fun v s1 ⟨x,H1,I1,r1,q1⟩=>⟨G,H1,I1,q1⟩) I.quiet hs
def tRet (te:TE):TS:=fun D G H=>te G H D.rt
theorem Y8 (he:PE X e te):PS X (.Return (some e) pos) (tRet te):=by
  intro Oa s G H D I h;exact wpAny_Return_some (thn (he Oa s G H _ I h) fun v s1 ⟨x,H1,I1,r1,q1⟩=>⟨x,G,H1,I1,r1,q1⟩)
def tIfS (c:TT) (t u:TS):TS:=fun D G H=>c G H fun b H1=>if b=true then t D G H1 else u D G H1
theorem qgf {a b:List Stmt}(hc:PT X c tc) (ha:PSs X a t) (hb:PSs X b u):PS X (.If c a b pos) (tIfS tc t u):=by
  intro Oa s G H D I h;refine wpAny_If (thn (hc Oa s G H _ I h) fun d s1 ⟨H1,I1,q1⟩=>?_);cases d with
  | true=>exact ha Oa s1 G H1 D I1 q1
  | false=>exact hb Oa s1 G H1 D I1 q1
def qjQ:TS:=fun _ _ _=>False
theorem qiB:PS X st qjQ:=fun _ _ _ _ _ _ h=>h.elim
theorem Jz {sts:List Stmt}:PSs X sts qjQ:=fun _ _ _ _ _ _ h=>h.elim
end
abbrev TG:=V->St->Hp->(St->Hp->Prop)->Prop
abbrev TGs:=List V->St->Hp->(St->Hp->Prop)->Prop
def PG (X:Cx) (target:Expr) (t:TG):Prop :=
  ∀ Oa s G H (v:V) (u:Value) (Q:St->Hp->Prop),Inv X Oa G H s->jr v u->t v G H Q →
    wpAny 'M' X.A (assign target X.env u) (fun _ s'=>∃ G' H',Inv X Oa G' H' s'/\Q G' H') X.xe s
def PGs (X:Cx) (ts:List Expr) (t:TGs):Prop :=
  ∀ Oa s G H (vs:List V) (us:List Value) (Q:St->Hp->Prop),Inv X Oa G H s->yM vs us->t vs G H Q →
    wpAny 'M' X.A (assignInOrder ((assignEach ts X.env).map (·.2)) us) (fun _ s'=>∃ G' H',Inv X Oa G' H' s'/\Q G' H') X.xe s
abbrev TSet:=V->V->V->Hp->(Hp->Prop)->Prop
def PSet (X:Cx) (t:TSet):Prop :=
  ∀ Oa s G H (o i v:V) (ov iv u:Value) (Q:Hp->Prop),Inv X Oa G H s->jr o ov->jr i iv->jr v u->t o i v H Q →
    wpAny 'M' X.A (setItem ov iv u) (fun _ s'=>∃ H',Inv X Oa G H' s'/\Q H') X.xe s
def qoK (i:Nat):TG:=fun v G H Q=>Q (G.set i (some v)) H
theorem qgo (hN:X.N.Nodup) (hi:X.N[i]?=some x) (hx:Loc X.env.scope x) (hf:FnL X x:=by trivial):PG X (.Name x pos) (qoK i):=by
  intro Oa s G H v u Q I r h;exact wpAny_assign_Name (ZW I hN hi hx r (fun s' I'=>⟨_,H,I',h⟩) hf)
def gNil:TGs:=fun vs G H Q=>vs=[]/\Q G H
def gCons (t:TG) (u:TGs):TGs:=fun vs G H Q=>∃ v r,vs=v::r/\t v G H fun G' H'=>u r G' H' Q
theorem qgm:PGs X [] gNil:=by
  intro Oa s G H vs us Q I r h;obtain⟨e,h⟩:=h;subst e;cases r
  exact assignInOrder_nil ⟨G,H,I,h⟩
theorem qbt {e:Expr}{t:TG}{u:TGs}(h1:PG X e t) (h2:PGs X es u)
    (hs:(assignEach (e::es) X.env).map (·.2)=assign e X.env::(assignEach es X.env).map (·.2):=by rfl):PGs X (e::es) (gCons t u):=by
  intro Oa s G H vs us Q I r h;obtain⟨v,vr,e1,h⟩:=h;subst e1;cases r with
  | cons r rr =>
    rw[hs];refine assignInOrder_cons (thn (h1 Oa s G H _ _ _ I r h) fun _ s1 ⟨G1,H1,I1,q1⟩=>?_);exact h2 Oa s1 G1 H1 _ _ Q I1 rr q1
def gTup (K:W.Frag) (n:Nat) (t:TGs):TG:=fun v G H Q=>∃ a xs,v = .ref a/\SqT K H a xs/\xs.length=n/\t xs G H Q
theorem qj9 {k:Nat}{t:TGs}(hc:X.calm=true) (h:PGs X es t)
    (hn:(assignEach es X.env).length=n:=by rfl) (hst:(assignEach es X.env).findIdx? (·.1)=none:=by rfl):PG X (.Tuple es k pos) (gTup X.K n t):=by
  intro Oa s G H v u Q I r hw;obtain⟨a,xs,e1,hq,hl,hw⟩:=hw;subst e1;cases r
  obtain⟨its,rv,ht,hz⟩:=I.tuple hq;refine assign_Tuple_tuple (I.ok.hd hc) ht (by simp[hn,<- hl,rv.length]) hst fun h' hx=>?_;have I1:Inv X Oa G H { s with heap:=h' }:=I.kept (t':=s.toks) fun b o e=>hx b o (qt (qo e)) e;exact h Oa _ G H xs _ Q I1 (by simpa using rv) hw
def gSub (to ti:TE) (t:TSet):TG:=fun v G H Q=>to G H fun o H1=>ti G H1 fun i H2=>t o i v H2 fun H3=>Q G H3
theorem qgn {i:Expr}{to ti:TE}{t:TSet}(ho:PE X o to) (hi:PE X i ti) (hs:PSet X t)
    (ha:∀ v,assign (.Subscript o i pos) X.env v=(do
      let ov <- holding [v] (eval o X.env)
      let iv <- holding [v,ov] (eval i X.env)
      standAt pos
      holding [v,ov,iv] (setItem ov iv v)
      release [v,ov,iv] []):=by intro _;rfl):PG X (.Subscript o i pos) (gSub to ti t):=by
  intro Oa s G H v u Q I r h;rw[ha];refine qa (yq (thn (ho Oa s G H _ I h) fun ov s1 ⟨x,H1,I1,r1,q1⟩=>?_));refine qa (yq (thn (hi Oa s1 G H1 _ I1 q1) fun iv s2 ⟨y,H2,I2,r2,q2⟩=>?_));refine qa (jK (qa (yq (thn (hs Oa s2 G H2 x y v ov iv u _ I2 r1 r2 r q2) fun _ s3 ⟨H3,I3,q3⟩=>?_))));exact wpAny_release ⟨G,H3,I3,q3⟩
def tAsg (te:TE) (g:TG):TS:=fun D G H=>te G H fun x H1=>g x G H1 D.nx
theorem qgg {e:Expr}{g:TG}(he:PE X e te) (hg:PG X tg g) (hs:swapsWithSole [tg] e pos.line X.env=pure false:=by rfl) (hw:swappedStores [tg] e X.env=pure none:=by rfl)
    (h1:(assignEach [tg] X.env).map (·.2)=[assign tg X.env]:=by rfl):PS X (.Assign [tg] e pos) (tAsg te g):=by
  intro Oa s G H D I h;refine wpAny_Assign_stores (thn (he Oa s G H _ I h) fun v s1 ⟨x,H1,I1,r1,q1⟩=>?_) hs hw;rw[h1];exact thn (hg Oa s1 G H1 x v _ I1 r1 q1) fun _ s2 q=>q
theorem ZM {e:Expr}(hN:X.N.Nodup) (hi:X.N[i]?=some x) (hx:Loc X.env.scope x) (he:PE X e te) (hs:swapsWith e (some (.Name x pos')) pos.line X.env=pure false:=by rfl) (hf:FnL X x:=by trivial) :
    PS X (.Assign [.Name x pos'] e pos) (tAsg te (qoK i)):=by
  intro Oa s G H D I h;refine wpAny_Assign_Name (thn (he Oa s G H _ I h) fun v s1 ⟨y,H1,I1,r1,q1⟩=>?_) hs;exact ZW I1 hN hi hx r1 (fun s2 I2=>⟨_,H1,I2,q1⟩) hf
def tPar (i j:Nat) (ta:TA):TS:=fun D G H=>ta G H fun vs H1=>∃ v w,vs=[v,w]/\D.nx ((G.set i (some v)).set j (some w)) H1
theorem qnZ {a b:Expr}{ta:TA}{px py pt:Pos}{kt k2 pt2} (hc:X.calm=true) (hN:X.N.Nodup) (hi:X.N[i]?=some x) (hj:X.N[j]?=some y) (hij:i≠j)
    (hx:X.env.scope.names.lookup x=some .local) (hy:X.env.scope.names.lookup y=some .local) (ha:PA X [a,b] ta)
    (hw:swappedStores [.Tuple [.Name x px,.Name y py] kt pt] (.Tuple [a,b] k2 pt2) X.env=pure (some [x,y]))
    (hs:swapsWithSole [.Tuple [.Name x px,.Name y py] kt pt] (.Tuple [a,b] k2 pt2) pos.line X.env=pure false:=by rfl) :
    PS X (.Assign [.Tuple [.Name x px,.Name y py] kt pt] (.Tuple [a,b] k2 pt2) pos) (tPar i j ta):=by
  intro Oa s G H D I h;rw[exec_Assign_arm];refine qa (jK ?_);rw[hs];refine qa (qf ?_);rw[if_neg 'd'];refine qa (Tuple_ (thn (ha _ Oa s G H _ I h) fun us s1 ⟨vs,H1,I1,r1,q1⟩=>?_));obtain⟨v,w,e1,q1⟩:=q1;subst e1;obtain⟨u1,u2,rfl,rv,rw'⟩:∃ u1 u2,us=[u1,u2]/\jr v u1/\jr w u2:=by
    cases r1 with
    | cons p q =>
      cases q with
      | cons p' q' =>
        cases q'
        exact⟨_,_,rfl,p,p'⟩
  refine jy ?_ (by show 2<=sizeLine;decide);have I2:Inv X Oa G H1 { s1 with heap:=s1.heap.push { cls:=.type "tuple",data:=.seq [u1,u2].toArray } }:=I1.kept (t':=s1.toks) fun b o e=>qd _ e;rw[hw];refine qa (qf ?_);show wpAny 'M' X.A (do rule "assign.swapped-stores";let items <- unpackItems (.ref s1.heap.objs.size) 2 none;assignInOrder [fun v=>bindName X.env y v,fun v=>bindName X.env x v] items.reverse;pure Flow.next) _ _ _;refine qa (Jy (qa (unpackItems_tuple (items:=#[u1,u2]) (I.ok.hd hc) (IsTup.new s1.heap _) fun h' hx'=>?_)));have I3:=I2.kept (h':=h') (t':=s1.toks) fun b o e=>hx' b o (qt (qo e)) e;show wpAny _ _ (assignInOrder [fun v=>bindName X.env y v,fun v=>bindName X.env x v] [u2,u1] >>= fun _=>pure Flow.next) _ _ _;refine qa (assignInOrder_cons (wpAny_bindName (ZW I3 hN hj (.inl hy) rw' (fun s2 I4=>?_) (.inr hy))));refine assignInOrder_cons (wpAny_bindName (ZW I4 hN hi (.inl hx) rv (fun s3 I5=>assignInOrder_nil (qf ?_)) (.inr hx)));rw[List.set_comm _ _ (Ne.symm hij)] at I5;exact⟨_,H1,I5,q1⟩
def qnc (c:TT) (tb:TS):TS:=fun D G H=>∃ W:Nat->St->Hp->Prop,(∃ m,W m G H)/\∀ m G H,W m G H →
  c G H fun b H1=>if b=true then ∃ N:St->Hp->Prop,(∀ G' H',N G' H'->∃ m',m'<m/\W m' G' H')/\tb { D with nx:=N,ct:=N,bk:=D.nx } G H1 else D.nx G H1
theorem qiz {tb:TS}(hp:PassesOwn 'M' X.A X.env X.xe) (hc:PT X c tc) (hb:PSs X body tb):PS X (.While c body [] pos) (qnc tc tb):=by
  intro Oa s G H D I h;obtain⟨W,⟨m0,w0⟩,turn⟩:=h;refine wpAny_While (codeAny_whileLoop (fun n s'=>∃ G' H',Inv X Oa G' H' s'/\W n G' H') ?_ m0 ⟨G,H,I,w0⟩);rintro n s1 ⟨G1,H1,I1,w1⟩;refine wpAny_passesOwn hp (thn (hc Oa s1 G1 H1 _ I1 (turn n G1 H1 w1)) fun b s2 ⟨H2,I2,q2⟩=>?_);cases b with
  | true =>
    obtain⟨N,hN,q2⟩:=q2;rw[if_pos rfl];refine wpAny_passesOwn hp (thn (hb Oa s2 G1 H2 _ I2 q2) fun f s3 q3=>?_);cases f with
    | next =>
      obtain⟨G3,H3,I3,n3⟩:=q3;obtain⟨m',hm,w3⟩:=hN G3 H3 n3;exact⟨m',hm,G3,H3,I3,w3⟩
    | cont =>
      obtain⟨G3,H3,I3,n3⟩:=q3;obtain⟨m',hm,w3⟩:=hN G3 H3 n3;exact⟨m',hm,G3,H3,I3,w3⟩
    | brk=>exact q3
    | ret v=>exact q3
  | false =>
    rw[if_neg Bool.false_ne_true];exact wpAny_execs_nil ⟨G1,H2,I2,q2⟩
structure It where
  go:Nat->Hp->Prop
  yld:Nat->Hp->V->Hp->Prop
  stop:Nat->Hp->Prop
def YM (X:Cx) (Oa:List (Addr×Obj)) (H:Hp) (b:Addr):Prop :=
  H b=none/\b≠X.env.locals/\b∉X.fs/\(b∈X.ex\/X.s₀.heap.objs.size<=b)/\(∀ x c,X.env.cells.lookup x=some c->c≠b)/\∀ p∈X.pn++Oa,p.1≠b
theorem Inv.fpOk (I:Inv X Oa G H s) (hb:s.heap.objs.size<=b) (hn:H' b=none):YM X Oa H' b:=by
  refine⟨hn,Nat.ne_of_gt (qM I.lt hb),I.nofs hb,.inr (qz I.sz hb),fun x c e z=>?_,fun p hp z=>?_⟩
  . obtain⟨v,q⟩:=I.cell x c e
    exact absurd (qM q.lt (by rw[z];exact hb)) (yz _)
  . exact absurd (qM (qo (I.pin p hp).1) (by rw[z];exact hb)) (yz _)
structure Turn (P:Program) (w:World) (K:W.Frag) (tg:Expr) (J:It) (fp:List Addr) (it:Addr) (tn:Nat->Heap->Prop):Prop where
  mem:it∈fp
  obj:∀ i h,tn i h->∀ b∈fp,∃ o,h.get? b=some o/\∀ v,o.data≠.cell v
  keep:∀ i h h',tn i h->(∀ b∈fp,∀ o,h.get? b=some o->h'.get? b=some o)->tn i h'
  item:∀ (X:Cx),X.prog=P->X.w=w->X.K=K->X.calm=true->∀ (i:Nat) Oa s G H (E:Value->Shared->Prop),Inv X Oa G H s->(∀ b∈fp,YM X Oa H b)->tn i s.heap->J.go i H →
    wpAny (model P w) X.A (pyNext (.ref it)) (fun r s1=>∃ u,r=some u ∧
      wpAny (model P w) X.A (letOwnedTupleGo tg (.ref it) u) (fun _ s2=>∃ x H',Inv X Oa G H' s2/\jr x u/\J.yld i H x H'/\tn (i+1) s2.heap/\∀ b∈fp,H' b=none) E s1) E s
  done:∀ (X:Cx),X.prog=P->X.w=w->X.K=K->X.calm=true->∀ (i:Nat) Oa s G H (E:Value->Shared->Prop),Inv X Oa G H s->(∀ b∈fp,YM X Oa H b)->tn i s.heap->J.stop i H →
    wpAny (model P w) X.A (pyNext (.ref it)) (fun r s1=>r=none/\Inv X Oa G H s1) E s
  self:∀ (A:Around) (i:Nat) (s:Shared) (Q:Value->Shared->Prop) (E:Value->Shared->Prop),tn i s.heap->Q (.ref it) s->wpAny (model P w) A (pyIter (.ref it)) Q E s
abbrev TI:=St->Hp->(It->Hp->Prop)->Prop
def PIE (X:Cx) (Oa:List (Addr×Obj)) (G:St) (tg:Expr) (R:It->Hp->Prop) (itv:Value) (s2:Shared):Prop :=
  ∃ (it:Addr) (fp:List Addr) (tn:Nat->Heap->Prop) (J:It) (H':Hp),itv = .ref it/\Inv X Oa G H' s2/\Turn X.prog X.w X.K tg J fp it tn/\tn 0 s2.heap/\(∀ b∈fp,YM X Oa H' b)/\R J H'
def PI (X:Cx) (tg iter:Expr) (wi:TI):Prop :=
  ∀ Oa s G H (R:It->Hp->Prop),Inv X Oa G H s->wi G H R →
    wpAny 'M' X.A (eval iter X.env) (fun v s1=>wpAny 'M' X.A (pyIter v) (PIE X Oa G tg R) X.xe s1) X.xe s
theorem qjd {o:Obj}{n:String}{vs:Array Value}{Q:Unit->Shared->Prop}(ho:s.heap.get? it=some o) (hc:o.cls = .type n) (hd:o.data = .fields vs)
    (hn:["enumerate", "zip", "dict_itemiterator", "dict_reverseitemiterator", "odict_iterator", "itertools.zip_longest", "itertools.pairwise"].contains n=false) (hQ:Q () s):wpAny M A (letOwnedTupleGo tg (.ref it) u) Q E s:=by
  unfold letOwnedTupleGo;cases tg <;> first
    | exact qf hQ
    | (cases u <;> first
        | exact qf hQ
        | (refine qa (wpAny_load ho ?_)
           rw[hc,hd];show wpAny M A (if (["enumerate", "zip", "dict_itemiterator", "dict_reverseitemiterator", "odict_iterator", "itertools.zip_longest", "itertools.pairwise"].contains n && vs[0]? == some (rawInt _))=true then _ else _) Q E s;rw[if_neg (by intro h;rw[hn,Bool.false_and] at h;cases h)];exact qf hQ))
def Itl (K:W.Frag) (a:Addr):It :=
  ⟨fun i H=>∃ xs x,SqL K H a xs/\xs[i]?=some x,fun i H x H'=>H'=H/\∀ xs,SqL K H a xs->xs[i]?=some x,fun i H=>∃ xs,SqL K H a xs/\xs.length<=i⟩
def Itt (K:W.Frag) (a:Addr):It :=
  ⟨fun i H=>∃ xs x,SqT K H a xs/\xs[i]?=some x,fun i H x H'=>H'=H/\∀ xs,SqT K H a xs->xs[i]?=some x,fun i H=>∃ xs,SqT K H a xs/\xs.length<=i⟩
def Itr (lo:Int) (n:Nat):It:=⟨fun i _=>i<n,fun i H x H'=>H'=H/\x = .int (lo+i),fun i _=>n<=i⟩
theorem qfI (a it:Addr):Turn P w K tg (Itl K a) [it] it (fun i h=>h.IsListIter it a i) where
  mem:=by simp
  obj:=fun i h st b hb=>by
    have e:b=it:=by simpa using hb
    subst e;obtain⟨o,e,c,d⟩:=st;exact⟨o,e,fun v z=>by rw[d] at z;cases z⟩
  keep:=fun i h h' st k=>st.at fun o e=>k it 's' o e
  item:=by
    intro X hP hw hK hc i Oa s G H E I hf st hg;subst hP hw hK;obtain⟨xs,x,hq,hx⟩:=hg;obtain⟨its,rv,p,hz⟩:=I.list hq;obtain⟨u,hu,ru⟩:=rv.get hx;obtain⟨f0,f1,f2,f3,f4,f5⟩:=hf it 's';refine wpAny_pyNext_list_item st p.isList (x:=u) (by simpa using hu) fun h' st' sb=>?_;have I1:Inv X Oa G H { s with heap:=h' }:=I.turned (t':=s.toks) (fun b o hb e=>(sb.2 b hb).trans e) f0 f1 f3 f4 f5;obtain⟨o,e,c,d⟩:=id st';exact⟨u,rfl,qjd (s:={ s with heap:=h' }) e c d 'd' ⟨x,H,I1,ru,⟨rfl,fun ys hy=>by rw[I.list_inj hy hq];exact hx⟩,st',fun b hb=>(hf b hb).1⟩⟩
  done:=by
    intro X hP hw hK hc i Oa s G H E I hf st hg;subst hP hw hK;obtain⟨xs,hq,hx⟩:=hg;obtain⟨its,rv,p,hz⟩:=I.list hq;obtain⟨f0,f1,f2,f3,f4,f5⟩:=hf it 's';have hl:=rv.length;exact wpAny_pyNext_list_end (I.ok.hd hc) st p.isList (by simp;omega) fun h' eb=>⟨rfl,I.turned (t':=s.toks) (fun b o hb e=>eb b o hb e) f0 f1 f3 f4 f5⟩
  self:=fun _ _ _ _ _ st h=>wpAny_pyIter_listiter st h
theorem qeM (a it:Addr):Turn P w K tg (Itt K a) [it] it (fun i h=>h.IsTupleIter it a i) where
  mem:=by simp
  obj:=fun i h st b hb=>by
    have e:b=it:=by simpa using hb
    subst e;obtain⟨o,e,c,d⟩:=st;exact⟨o,e,fun v z=>by rw[d] at z;cases z⟩
  keep:=fun i h h' st k=>st.at fun o e=>k it 's' o e
  item:=by
    intro X hP hw hK hc i Oa s G H E I hf st hg;subst hP hw hK;obtain⟨xs,x,hq,hx⟩:=hg;obtain⟨its,rv,p,hz⟩:=I.tuple hq;obtain⟨u,hu,ru⟩:=rv.get hx;obtain⟨f0,f1,f2,f3,f4,f5⟩:=hf it 's';refine wpAny_pyNext_tuple_item st (show s.heap.IsTuple a its.toArray from p) (x:=u) (by simpa using hu) fun h' st' sb=>?_;have I1:Inv X Oa G H { s with heap:=h' }:=I.turned (t':=s.toks) (fun b o hb e=>(sb.2 b hb).trans e) f0 f1 f3 f4 f5;obtain⟨o,e,c,d⟩:=id st';exact⟨u,rfl,qjd (s:={ s with heap:=h' }) e c d 'd' ⟨x,H,I1,ru,⟨rfl,fun ys hy=>by rw[I.tuple_inj hy hq];exact hx⟩,st',fun b hb=>(hf b hb).1⟩⟩
  done:=by
    intro X hP hw hK hc i Oa s G H E I hf st hg;subst hP hw hK;obtain⟨xs,hq,hx⟩:=hg;obtain⟨its,rv,p,hz⟩:=I.tuple hq;obtain⟨f0,f1,f2,f3,f4,f5⟩:=hf it 's';have hl:=rv.length;exact wpAny_pyNext_tuple_end (I.ok.hd hc) st (show s.heap.IsTuple a its.toArray from p) (by simp;omega) fun h' eb=>⟨rfl,I.turned (t':=s.toks) (fun b o hb e=>eb b o hb e) f0 f1 f3 f4 f5⟩
  self:=fun _ _ _ _ _ st h=>wpAny_pyIter_tupleiter st h
theorem qeN (it:Addr) (lo:Int) (n:Nat):Turn P w K tg (Itr lo n) [it] it (fun i h=>IsRangeIter h it (lo+(i:Nat) * 1) ((n:Int) - (i:Nat)) 1) where
  mem:=by simp
  obj:=fun i h st b hb=>by
    have e:b=it:=by simpa using hb
    subst e;exact⟨_,st,fun v z=>by
      have z':Data.fields _=Data.cell v:=z;cases z'⟩
  keep:=fun i h h' st k=>k it 's' _ st
  item:=by
    intro X hP hw hK hc i Oa s G H E I hf st hg;subst hP hw hK;obtain⟨f0,f1,f2,f3,f4,f5⟩:=hf it 's';have W:=Walks.range (prog:=X.prog) (w:=X.w) (I.ok.hd hc) it lo 1 n;refine W.item i s _ _ hg st fun v h' tk hv st' kk=>?_;obtain⟨t,rfl⟩:=hv;have I1:Inv X Oa G H { s with heap:=h',toks:=tk }:=I.turned (fun b o hb e=>kk b o (by simpa using hb) e) f0 f1 f3 f4 f5;refine⟨_,rfl,qjd (s:={ s with heap:=h',toks:=tk }) (n := "range_iterator") st' rfl rfl 'd' ⟨.int (lo+i),H,I1,⟨t,?_⟩,⟨rfl,rfl⟩,st',fun b hb=>(hf b hb).1⟩⟩;rw[Int.mul_one]
  done:=by
    intro X hP hw hK hc i Oa s G H E I hf st hg;subst hP hw hK;obtain⟨f0,f1,f2,f3,f4,f5⟩:=hf it 's';exact wpAny_pyNext_range_end (I.ok.hd hc) st (by have:n<=i:=hg;omega) fun h' eb=>⟨rfl,I.turned (t':=s.toks) (fun b o hb e=>eb b o hb e) f0 f1 f3 f4 f5⟩
  self:=fun _ _ _ _ _ st h=>wpAny_pyIter_rangeiter st h
end L2
variable {wi:L2.TI}
namespace L2
def iList (K:W.Frag) (tl:TE):TI:=fun G H R=>tl G H fun x H1=>∃ a,x = .ref a/\(∃ xs,SqL K H1 a xs)/\R (Itl K a) H1
def iTup (K:W.Frag) (tl:TE):TI:=fun G H R=>tl G H fun x H1=>∃ a,x = .ref a/\(∃ xs,SqT K H1 a xs)/\R (Itt K a) H1
theorem qll {l:Expr}(hl:PE X l tl):PI X tg l (iList X.K tl):=by
  intro Oa s G H R I h;refine thn (hl Oa s G H _ I h) fun v s1 Oc=>?_;obtain⟨x,H1,I1,r1,q1⟩:=Oc;obtain⟨a,e,⟨xs,hq⟩,q⟩:=q1;subst e;cases r1
  obtain⟨its,rv,p,hz⟩:=I1.list hq;refine wpAny_pyIter_list p.isList ?_;refine⟨s1.heap.objs.size,[s1.heap.objs.size],_,_,H1,rfl,I1.kept (t':=s1.toks) fun b o e=>qd _ e,qfI a _,⟨_,qD _ rfl,rfl,rfl⟩,fun b hb=>?_,q⟩;have e:b=s1.heap.objs.size:=by simpa using hb
  subst e;exact I1.fpOk (qk _) (I1.hok.fresh (qk _))
theorem qn6 {l:Expr}(hl:PE X l tl):PI X tg l (iTup X.K tl):=by
  intro Oa s G H R I h;refine thn (hl Oa s G H _ I h) fun v s1 Oc=>?_;obtain⟨x,H1,I1,r1,q1⟩:=Oc;obtain⟨a,e,⟨xs,hq⟩,q⟩:=q1;subst e;cases r1
  obtain⟨its,rv,p,hz⟩:=I1.tuple hq;refine wpAny_pyIter_tuple (show s1.heap.IsTuple a its.toArray from p) ?_;refine⟨s1.heap.objs.size,[s1.heap.objs.size],_,_,H1,rfl,I1.kept (t':=s1.toks) fun b o e=>qd _ e,qeM a _,⟨_,qD _ rfl,rfl,rfl⟩,fun b hb=>?_,q⟩;have e:b=s1.heap.objs.size:=by simpa using hb
  subst e;exact I1.fpOk (qk _) (I1.hok.fresh (qk _))
theorem qix {R:It->Hp->Prop}{lo hi:Int}{t u v:Tok}{tk:Nat}(I:Inv X Oa G H s) (h1:-(2 ^ 62)<=lo) (h2:lo<2 ^ 62) (h3:-(2 ^ 62)<=hi) (h4:hi<2 ^ 62)
    (q:R (Itr lo (hi - lo).toNat) H):wpAny 'M' X.A (pyIter (.ref s.heap.objs.size)) (PIE X Oa G tg R) E { s with heap:=s.heap.push { cls:=.type "range",data:=.fields #[.int lo t,.int hi u,.int 1 v] },toks:=tk }:=by
  refine wpAny_pyIter_range (IsRange.new ..) (small_one h1 h2 h3 h4) ?_;have I1:Inv X Oa G H { s with heap:=s.heap.push { cls:=.type "range",data:=.fields #[.int lo t,.int hi u,.int 1 v] },toks:=tk }:=I.kept fun b o e=>qd _ e;refine⟨(s.heap.push { cls:=.type "range",data:=.fields #[.int lo t,.int hi u,.int 1 v] }).objs.size,[(s.heap.push { cls:=.type "range",data:=.fields #[.int lo t,.int hi u,.int 1 v] }).objs.size],_,_,H,rfl,
    I1.kept (t':=tk) fun b o e=>qd _ e,qeN _ lo (hi - lo).toNat,?_,fun b hb=>?_,q⟩
  . have e1:lo+((0:Nat):Int) * 1=lo:=by simp
    have e2:(((hi - lo).toNat:Nat):Int) - ((0:Nat):Int)=Builtin.Range.rangeSize lo hi 1:=by rw[rangeSize_one];split <;> omega
    show IsRangeIter _ _ (lo+((0:Nat):Int) * 1) ((((hi - lo).toNat:Nat):Int) - ((0:Nat):Int)) 1;rw[e1,e2];exact qD _ rfl
  . have e:b=(s.heap.push { cls:=.type "range",data:=.fields #[.int lo t,.int hi u,.int 1 v] }).objs.size:=by simpa using hb
    subst e;exact I1.fpOk (qk _) (I1.hok.fresh (qk _))
def iRng1 (ta:TA):TI:=fun G H R=>ta G H fun vs H1=>∃ j:Int,vs=[.int j]/\-(2 ^ 62)<=j/\j<2 ^ 62/\R (Itr 0 j.toNat) H1
theorem qgl {a:Expr}{ta:TA}(hg:Gl X "range") (hm:X.mg "range" = none) (ha:PA X [a] ta) (hs:starEach [a] X.env=[(false,eval a X.env)]:=by rfl):PI X tg (.Call (.Name "range" p) [a] [] pos) (iRng1 ta):=by
  intro Oa s G H R I h;refine Call_ (qav I hg hm boot_range (PyProof.Rows.callWith_type1 (thn (ha pos Oa s G H _ I h) fun us s1 ⟨vs,H1,I1,r1,q1⟩=>?_) hs rfl));obtain⟨j,e,q1,q2,q⟩:=q1;subst e;cases r1 with
  | cons r rr =>
    cases rr
    obtain⟨t,rfl⟩:=r;exact call_range_1 (qix I1 'o' 'o' q1 q2 (by simpa using q))
def tFor (wi:TI) (g:TG) (tb:TS):TS:=fun D G H=>wi G H fun J H1=>∃ W:Nat->Nat->St->Hp->Prop,(∃ m,W 0 m G H1)/\∀ i m G H,W i m G H →
  (J.stop i H/\D.nx G H)\/(J.go i H/\∃ N:St->Hp->Prop,(∀ G' H',N G' H'->∃ m',m'<m/\W (i+1) m' G' H')/\∀ x H',J.yld i H x H'->g x G H' fun G2 H2=>tb { D with nx:=N,ct:=N,bk:=D.nx } G2 H2)
def JA (fp:List Addr) (h:Heap):List (Addr×Obj):=fp.filterMap fun b=>(h.get? b).map fun o=>(b,o)
theorem yV {o:Obj}(hb:b∈fp) (e:h.get? b=some o):(b,o)∈JA fp h:=yD.mpr ⟨b,hb,by rw[e];rfl⟩
theorem qcs {p:Addr×Obj}(hp:p∈JA fp h):p.1∈fp/\h.get? p.1=some p.2:=by
  obtain⟨b,hb,e⟩:=yD.mp hp;cases q:h.get? b with
  | none=>rw[q] at e;cases e
  | some o =>
    rw[q] at e;have e':(b,o)=p:=Option.some.inj e;subst e';exact⟨hb,q⟩
theorem Inv.pinned (I:Inv X Oa G H s) (hf:∀ b∈fp,YM X Oa H b) (ho:∀ b∈fp,∃ o,s.heap.get? b=some o/\∀ v,o.data≠.cell v):Inv X (Oa++JA fp s.heap) G H s :=
  I.pins_of fun p hp=>(qG.mp hp).elim (fun z=>I.pin p (qg _ z)) fun z=>by
    obtain⟨hb,e⟩:=qcs z;obtain⟨f0,f1,f2,_⟩:=hf p.1 hb;obtain⟨o,e',d⟩:=ho p.1 hb;rw[e] at e';cases e';exact⟨e,f0,f1,f2,d⟩
theorem Inv.unpinned {pl:List (Addr×Obj)}(I:Inv X (Oa++pl) G H s):Inv X Oa G H s:=I.pins_of fun p hp=>I.pin p (qg _ (q0 _ hp))
theorem qn0 {g:TG}{tb:TS}(hp:PassesOwn 'M' X.A X.env X.xe) (hc:X.calm=true) (hi:PI X tg iter wi) (hg:PG X tg g) (hb:PSs X body tb)
    (hs:∀ x,foldedSetIterable iter X.env x=pure x:=by intro _;rfl):PS X (.For tg iter body [] pos) (tFor wi g tb):=by
  intro Oa s G H D I h;refine wpAny_For (thn (hi Oa s G H _ I h) fun v s1 h1=>thn h1 fun itv s2 h2=>?_) hs;obtain⟨it,fp,tn,J,H2,e,I2,T,st2,f2,W,⟨m0,w0⟩,turn⟩:=h2;subst e
  have stat:∀ {H':Hp},(∀ b∈fp,H' b=none)->∀ b∈fp,YM X Oa H' b:=fun hn b hb=>⟨hn b hb,(f2 b hb).2⟩;refine codeAny_forLoop_any (fun n s'=>∃ i G' H',Inv X Oa G' H' s'/\tn i s'.heap/\(∀ b∈fp,H' b=none)/\W i n G' H') ?_ m0 ⟨0,G,H2,I2,st2,fun b hb=>(f2 b hb).1,w0⟩;rintro n s3 ⟨i,G3,H3,I3,st3,fr3,w3⟩;rcases turn i n G3 H3 w3 with⟨stop,qn⟩ | ⟨go,N,hN,step⟩
  . refine wpAny_passesOwn hp (thn (T.done X rfl rfl rfl hc i Oa s3 G3 H3 X.xe I3 (stat fr3) st3 stop) fun r s4 ⟨hr,I4⟩=>?_)
    subst hr;exact wpAny_execs_nil ⟨G3,H3,I4,qn⟩
  . refine wpAny_passesOwn hp (thn (T.item X rfl rfl rfl hc i Oa s3 G3 H3 X.xe I3 (stat fr3) st3 go) fun r s4 ⟨u,hr,h4⟩=>?_)
    subst hr;refine wpAny_passesOwn hp (thn h4 fun _ s5 ⟨x,H5,I5,r5,y5,st5,fr5⟩=>?_);have I5':=I5.pinned (stat fr5) (T.obj _ _ st5);refine wpAny_passesOwn hp (thn (hg _ s5 G3 H5 x u _ I5' r5 (step x H5 y5)) fun _ s6 ⟨G6,H6,I6,q6⟩=>?_);refine wpAny_passesOwn hp (thn (hb _ s6 G6 H6 _ I6 q6) fun f s7 q7=>?_);have again:∀ {G7:St}{H7:Hp},Inv X (Oa++JA fp s5.heap) G7 H7 s7->N G7 H7->∃ m,m<n/\∃ i G' H',Inv X Oa G' H' s7/\tn i s7.heap/\(∀ b∈fp,H' b=none)/\W i m G' H':=fun {G7 H7} I7 n7=>by
      obtain⟨m',hm,w7⟩:=hN G7 H7 n7;refine⟨m',hm,i+1,G7,H7,I7.unpinned,T.keep _ _ _ st5 fun b hb o e=>(I7.pin (b,o) (qg _ (qg _ (yV hb e)))).1,fun b hb=>?_,w7⟩;obtain⟨o,e,d⟩:=T.obj _ _ st5 b hb;exact (I7.pin (b,o) (qg _ (qg _ (yV hb e)))).2.1
    cases f with
    | next=>obtain⟨G7,H7,I7,n7⟩:=q7;exact again I7 n7
    | cont=>obtain⟨G7,H7,I7,n7⟩:=q7;exact again I7 n7
    | brk=>obtain⟨G7,H7,I7,q7⟩:=q7;exact⟨G7,H7,I7.unpinned,q7⟩
    | ret v=>obtain⟨x7,G7,H7,I7,r7,q7⟩:=q7;exact⟨x7,G7,H7,I7.unpinned,r7,q7⟩
end L2
namespace L2
variable {a b:Expr}{ta tc:TE}{f:Value->Value->Sem Value}{g:Int->Int->Int}
abbrev R2:=V->V->Hp->VK->Prop
def OpR (X:Cx) (f:Value->Value->Sem Value) (r:R2):Prop :=
  ∀ Oa s G H (x y:V) (v u:Value) (Q:VK),Inv X Oa G H s->jr x v->jr y u->r x y H Q →
    wpAny 'M' X.A (f v u) (EP X Oa G Q) X.xe s
def UnR (X:Cx) (f:Value->Sem Value) (r:V->Hp->VK->Prop):Prop :=
  ∀ Oa s G H (x:V) (v:Value) (Q:VK),Inv X Oa G H s->jr x v->r x H Q →
    wpAny 'M' X.A (f v) (EP X Oa G Q) X.xe s
def je (X:Cx) (f:Value) (r:List V->Hp->VK->Prop):Prop :=
  ∀ Oa s G H (xs:List V) (us:List Value) (Q:VK),Inv X Oa G H s->yM xs us->r xs H Q →
    wpAny 'M' X.A (call f us) (EP X Oa G Q) X.xe s
def tOp (r:R2) (ta tb:TE):TE:=fun G H Q=>ta G H fun x H1=>tb G H1 fun y H2=>r x y H2 Q
def tUn (r:V->Hp->VK->Prop) (ta:TE):TE:=fun G H Q=>ta G H fun x H1=>r x H1 Q
def rI (C:Int->Int->Prop) (g:Int->Int->V):R2:=fun x y H Q=>∃ i j,x = .int i/\y = .int j/\C i j/\Q (g i j) H
def rI0 (g:Int->Int->V):R2:=fun x y H Q=>∃ i j,x = .int i/\y = .int j/\Q (g i j) H
def rU (g:Int->V):V->Hp->VK->Prop:=fun x H Q=>∃ i,x = .int i/\Q (g i) H
section
variable {tb:TE}
theorem binT (ha:PE X a ta) (hb:PE X b tb) {R:V->V->Hp->Prop}(I:Inv X Oa G H s)
    (h:ta G H fun x H1=>tb G H1 fun y H2=>R x y H2) {Q:Value->Shared->Prop}
    (hf:∀ v u s2 x y H2,Inv X Oa G H2 s2->jr x v->jr y u->R x y H2->wpAny 'M' X.A (f v u) Q X.xe s2) :
    wpAny 'M' X.A (eval a X.env) (fun v sa1=>wpAny 'M' X.A (eval b X.env) (fun u sa2=>wpAny 'M' X.A (f v u) Q X.xe sa2) X.xe sa1) X.xe s:=by
  refine thn (ha Oa s G H _ I h) fun v s1 Oc=>?_;obtain⟨x,H1,I1,r1,q1⟩:=Oc;refine thn (hb Oa s1 G H1 _ I1 q1) fun u s2 Oc=>?_;obtain⟨y,H2,I2,r2,q2⟩:=Oc;exact hf v u s2 x y H2 I2 r1 r2 q2
theorem qch {op:Operator}{r:R2}(ho:OpR X (binaryOp op) r) (ha:PE X a ta) (hb:PE X b tb):PE X (.BinOp a op b pos) (tOp r ta tb):=by
  intro Oa s G H Q I h;exact wpAny_BinOp (binT ha hb I h fun v u s2 x y H2 I2 rx ry q=>ho Oa s2 G H2 x y v u Q I2 rx ry q)
theorem pe_un {op:UnaryOp}{r:V->Hp->VK->Prop}(ho:UnR X (unaryOp op) r) (ha:PE X a ta):PE X (.UnaryOp op a pos) (tUn r ta):=by
  intro Oa s G H Q I h;exact UnaryOp_ (thn (ha Oa s G H _ I h) fun v s1 ⟨x,H1,I1,r1,q1⟩=>ho Oa s1 G H1 x v Q I1 r1 q1)
theorem opI {C:Int->Int->Prop}
    (rule:∀ (i j:Int) (t u:Tok) (s:Shared) (Q:Value->Shared->Prop) (E:Value->Shared->Prop),C i j->Q (.int (g i j) s.toks) { s with toks:=s.toks+1 }->wpAny 'M' X.A (f (.int i t) (.int j u)) Q E s) :
    OpR X f (rI C fun i j=>.int (g i j)):=by
  intro Oa s G H x y v u Q I rx ry h;obtain⟨i,j,rfl,rfl,hc,q⟩:=h;obtain⟨t,rfl⟩:=rx;obtain⟨t',rfl⟩:=ry;exact rule i j t t' s _ _ hc ⟨.int (g i j),H,I.tok _,⟨_,rfl⟩,q⟩
theorem opI0
    (rule:∀ (i j:Int) (t u:Tok) (s:Shared) (Q:Value->Shared->Prop) (E:Value->Shared->Prop),Q (.int (g i j) s.toks) { s with toks:=s.toks+1 }->wpAny 'M' X.A (f (.int i t) (.int j u)) Q E s) :
    OpR X f (rI0 fun i j=>.int (g i j)):=by
  intro Oa s G H x y v u Q I rx ry h;obtain⟨i,j,rfl,rfl,q⟩:=h;obtain⟨t,rfl⟩:=rx;obtain⟨t',rfl⟩:=ry;exact rule i j t t' s _ _ ⟨.int (g i j),H,I.tok _,⟨_,rfl⟩,q⟩
theorem opB0 {g:Int->Int->Bool}
    (rule:∀ (i j:Int) (t u:Tok) (s:Shared) (Q:Value->Shared->Prop) (E:Value->Shared->Prop),Q (.bool (g i j)) s->wpAny 'M' X.A (f (.int i t) (.int j u)) Q E s) :
    OpR X f (rI0 fun i j=>.bl (g i j)):=by
  intro Oa s G H x y v u Q I rx ry h;obtain⟨i,j,rfl,rfl,q⟩:=h;obtain⟨t,rfl⟩:=rx;obtain⟨t',rfl⟩:=ry;exact rule i j t t' s _ _ ⟨.bl (g i j),H,I,rfl,q⟩
def CDiv (i j:Int):Prop:=0<j/\j<1073741824
def CPow (i j:Int):Prop:=0<=j/\j<=1000000/\i.natAbs<2 ^ 64
theorem qgu:OpR X (binaryOp .Add) (rI0 fun i j=>.int (i+j)):=opI0 fun _ _ _ _ _ _ _ q=>add_int q
theorem qoh:OpR X (binaryOp .Sub) (rI0 fun i j=>.int (i - j)):=opI0 fun _ _ _ _ _ _ _ q=>sub_int q
theorem qlx:OpR X (binaryOp .FloorDiv) (rI CDiv fun i j=>.int (i / j)):=opI fun i j _ _ _ _ _ hc q=>by
  have h1:(0:Int)<j:=hc.1;have h2:j<1073741824:=hc.2;exact floordiv_int 'o' (by rw[Int.fdiv_eq_ediv_of_nonneg i 'o'];exact q) (.inl (PyProof.noPylong_small 'o'))
theorem qek:OpR X (binaryOp .Mod) (rI (fun _ j=>0<j) fun i j=>.int (i % j)):=opI fun i j _ _ _ _ _ hc q=>by
  have h1:(0:Int)<j:=hc;exact mod_int' 'o' (by rw[Int.fmod_eq_emod_of_nonneg i 'o'];exact q)
theorem qoi:OpR X (binaryOp .Pow) (rI CPow fun i j=>.int (i ^ j.toNat)):=opI fun _ _ _ _ _ _ _ hc q=>pow_int_small hc.1 hc.2.1 hc.2.2 q
theorem unI {f:Value->Sem Value}{g:Int->Int}
    (rule:∀ (i:Int) (t:Tok) (s:Shared) (Q:Value->Shared->Prop) (E:Value->Shared->Prop),Q (.int (g i) s.toks) { s with toks:=s.toks+1 }->wpAny 'M' X.A (f (.int i t)) Q E s) :
    UnR X f (rU fun i=>.int (g i)):=by
  intro Oa s G H x v Q I rx h;obtain⟨i,rfl,q⟩:=h;obtain⟨t,rfl⟩:=rx;exact rule i t s _ _ ⟨.int (g i),H,I.tok _,⟨_,rfl⟩,q⟩
theorem qm9:UnR X (unaryOp .USub) (rU fun i=>.int (-i)):=unI fun _ _ _ _ _ q=>neg_int q
end
section
variable {tb:TE}
theorem qoN {k k':Bool}(I:Inv X Oa G H s) (q:Q (.bl k) H) (e:k=k'):EP X Oa G Q (.bool k') s:=by
  subst e;exact⟨.bl k,H,I,rfl,q⟩
theorem op_lt:OpR X (compareOp .Lt) (rI0 fun i j=>.bl (decide (i<j))):=opB0 fun _ _ _ _ _ _ _ q=>lt_int q
theorem op_le:OpR X (compareOp .LtE) (rI0 fun i j=>.bl (decide (i<=j))):=opB0 fun _ _ _ _ _ _ _ q=>le_int q
theorem qol:OpR X (compareOp .Gt) (rI0 fun i j=>.bl (decide (j<i))):=opB0 fun _ _ _ _ _ _ _ q=>gt_int q
theorem OpR.or {r r':R2}(h:OpR X f r) (h':OpR X f r'):OpR X f (fun x y H Q=>r x y H Q\/r' x y H Q):=by
  intro Oa s G H x y v u Q I rx ry q;rcases q with q | q
  . exact h Oa s G H x y v u Q I rx ry q
  . exact h' Oa s G H x y v u Q I rx ry q
theorem qaq (b:Expr) (h:op≠.In:=by decide) (h2:op≠.NotIn:=by decide):behindInMarks op b=false:=by
  have e1:(op == CmpOp.In)=false:=by cases op <;> first | rfl | exact absurd rfl h
  have e2:(op == CmpOp.NotIn)=false:=by cases op <;> first | rfl | exact absurd rfl h2
  cases b <;> simp[behindInMarks,e1,e2]
theorem qlt {r:R2}(ho:OpR X (compareOp op) r) (ha:PE X a ta) (hb:PE X b tb) (hm:behindInMarks op b=false):PE X (.Compare a [op] [b] pos) (tOp r ta tb):=by
  intro Oa s G H Q I h;exact wpAny_Compare1 (binT ha hb I h fun v u s2 x y H2 I2 rx ry q=>ho Oa s2 G H2 x y v u Q I2 rx ry q) hm
def tTest (t:TE):TT:=fun G H Q=>t G H fun x H'=>∃ k,x = .bl k/\Q k H'
theorem qgc {r:R2}(ho:OpR X (compareOp op) r) (ha:PE X a ta) (hb:PE X b tb) (hm:behindInMarks op b=false):PT X (.Compare a [op] [b] pos) (tTest (tOp r ta tb)):=by
  intro Oa s G H Q I h;refine wpAny_isTrue_Compare1 (thn (ha Oa s G H _ I h) fun v s1 ⟨x,H1,I1,r1,q1⟩=>thn (hb Oa s1 G H1 _ I1 q1) fun u s2 ⟨y,H2,I2,r2,q2⟩ =>
    thn (ho Oa s2 G H2 x y v u _ I2 r1 r2 q2) fun c s3 ⟨z,H3,I3,r3,k,e,q3⟩=>?_) hm
  subst e;cases r3
  exact yF ⟨H3,I3,q3⟩
def qnj (r r':R2) (ta tb tc:TE):TE:=fun G H Q=>ta G H fun x H1=>tb G H1 fun y H2=>r x y H2 fun z H3=>∃ k,z = .bl k ∧
  (if k=true then tc G H3 fun w' H4=>r' y w' H4 Q else Q (.bl false) H3)
theorem qiM {op':CmpOp}{r r':R2}(ho:OpR X (compareOp op) r) (ho':OpR X (compareOp op') r') (ha:PE X a ta) (hb:PE X b tb) (hc:PE X c tc)
    (hm:lastMarks [op,op'] [b,c]=false:=by with_unfolding_all rfl):PE X (.Compare a [op,op'] [b,c] pos) (qnj r r' ta tb tc):=by
  intro Oa s G H Q I h;refine Compare_chain (thn (ha Oa s G H _ I h) fun v s1 ⟨x,H1,I1,r1,q1⟩=>chain_link (thn (hb Oa s1 G H1 _ I1 q1) fun u s2 ⟨y,H2,I2,r2,q2⟩ =>
    thn (ho Oa s2 G H2 x y v u _ I2 r1 r2 q2) fun d s3 ⟨z,H3,I3,r3,k,e,q3⟩=>?_)) hm
  subst e;cases r3
  refine yF ?_;cases k with
  | false=>exact ite_ff ⟨.bl false,H3,I3,rfl,q3⟩
  | true=>exact ite_tt (chain_last (thn (hc Oa s3 G H3 _ I3 q3) fun w' s4 ⟨z',H4,I4,r4,q4⟩=>ho' Oa s4 G H4 y z' u w' Q I4 r2 r4 q4))
theorem qcw:(sizeLine:Nat)<2 ^ 63:=by rw[sizeLine_eq];decide
theorem qeY:OpR X (binaryOp .Add) (fun x y H Q=>∃ i j,x = .str i/\y = .str j/\i.length+j.length<=sizeLine/\Q (.str (i++j)) H):=by
  intro Oa s G H x y v u Q I rx ry h;obtain⟨i,j,rfl,rfl,hz,q⟩:=h;obtain⟨t,rfl⟩:=rx;obtain⟨t',rfl⟩:=ry;exact add_str (fun t' tk=>⟨.str (i++j),H,I.tok _,⟨_,rfl⟩,q⟩) hz
theorem Yh {x:V}(r:yM [x] us):∃ u,us=[u]/\jr x u:=by
  cases r with
  | cons r1 r2=>cases r2;exact⟨_,rfl,r1⟩
theorem qh9 {x y:V}(r:yM [x,y] us):∃ u w',us=[u,w']/\jr x u/\jr y w':=by
  cases r with
  | cons r1 r2 =>
    cases r2 with
    | cons r3 r4=>cases r4;exact⟨_,_,rfl,r1,r3⟩
theorem qjC:je X (.builtin "abs") (fun xs H Q=>∃ i,xs=[.int i]/\Q (.int (if i<0 then -i else i)) H):=by
  intro Oa s G H xs us Q I r h;obtain⟨i,rfl,q⟩:=h;obtain⟨u,rfl,t,rfl⟩:=Yh r;exact call_abs_int fun u tk=>⟨.int (if i<0 then -i else i),H,I.tok _,⟨_,rfl⟩,q⟩
theorem qhM (hc:X.calm=true):je X (.builtin "max") (fun xs H Q=>∃ i j,xs=[.int i,.int j]/\Q (.int (if j > i then j else i)) H):=by
  intro Oa s G H xs us Q I r h;obtain⟨i,j,rfl,q⟩:=h;obtain⟨u,w',rfl,⟨t,rfl⟩,⟨t',rfl⟩⟩:=qh9 r;refine max_two_ints (I.ok.hd hc) fun h' tk k=>⟨_,H,I.kept k,?_,q⟩;by_cases hj:j > i
  . rw[if_pos hj,if_pos hj];exact⟨_,rfl⟩
  . rw[if_neg hj,if_neg hj];exact⟨_,rfl⟩
theorem qhK (hc:X.calm=true):je X (.builtin "min") (fun xs H Q=>∃ i j,xs=[.int i,.int j]/\Q (.int (if j<i then j else i)) H):=by
  intro Oa s G H xs us Q I r h;obtain⟨i,j,rfl,q⟩:=h;obtain⟨u,w',rfl,⟨t,rfl⟩,⟨t',rfl⟩⟩:=qh9 r;refine min_two_ints (I.ok.hd hc) fun h' tk k=>⟨_,H,I.kept k,?_,q⟩;by_cases hj:j<i
  . rw[if_pos hj,if_pos hj];exact⟨_,rfl⟩
  . rw[if_neg hj,if_neg hj];exact⟨_,rfl⟩
theorem qhO:je X (.type "int") (fun xs H Q=>(∃ i,xs=[.int i]/\Q (.int i) H)\/∃ k,xs=[.bl k]/\Q (.int (if k then 1 else 0)) H):=by
  intro Oa s G H xs us Q I r h;rcases h with⟨i,rfl,q⟩ | ⟨k,rfl,q⟩
  . obtain⟨u,rfl,t,rfl⟩:=Yh r
    exact call_int_int ⟨.int i,H,I,⟨_,rfl⟩,q⟩
  . obtain⟨u,rfl,r1⟩:=Yh r
    cases r1
    exact call_int_bool ⟨.int (if k then 1 else 0),H,I.tok _,⟨_,rfl⟩,q⟩
theorem qcO:je X (.type "str") (fun xs H Q=>∃ i,xs=[.int i]/\i.natAbs.log2<1920/\Q (.str (toString i)) H):=by
  intro Oa s G H xs us Q I r h;obtain⟨i,rfl,hz,q⟩:=h;obtain⟨u,rfl,t,rfl⟩:=Yh r;exact PySem.P.str_of_int hz ⟨.str _,H,I.tok _,⟨_,rfl⟩,q⟩
theorem qdO:je X (.builtin "divmod") (fun xs H Q=>∃ i j,xs=[.int i,.int j]/\CDiv i j/\∀ p,H p=none->Q (.ref p) (upd H p (.tup [.int (i / j),.int (i % j)]))):=by
  intro Oa s G H xs us Q I r h;obtain⟨i,j,rfl,⟨h1,h2⟩,q⟩:=h;obtain⟨u,w',rfl,⟨t,rfl⟩,⟨t',rfl⟩⟩:=qh9 r;refine divmod_int 'o' ?_ (.inl (PyProof.noPylong_small 'o'));rw[Int.fdiv_eq_ediv_of_nonneg i 'o',Int.fmod_eq_emod_of_nonneg i 'o'];have hn:H s.heap.objs.size=none:=I.hok.fresh (qk _);refine⟨.ref s.heap.objs.size,_,?_,rfl,q _ hn⟩;refine I.laid (fun b o e=>qd _ e) (qk _) ⟨by simp only[qU,List.length_nil];rw[sizeLine_eq];decide,[.int (i / j) s.toks,.int (i % j) (s.toks+1)],.cons ⟨_,rfl⟩ (.cons ⟨_,rfl⟩ .nil),?_⟩;exact⟨_,qD s.heap rfl,rfl,0,rfl⟩
end
end L2
variable {r':L2.R2}
namespace L2
variable {x:Addr}{f:Str}{Q:Value->Shared->Prop}{b:Bool}
structure ObjM (h:Heap) (x dx C:Addr) (mA:Str->Option Value):Prop where
  obj:h.get? x=some (W.instObj C dx)
  ns:h.Ns1 dx mA
  ne:dx≠x
theorem qgU (n:h.Ns1 dx mA):∃ od,h.get? dx=some od/\∀ name,W.lookIn name od=some (mA name):=by
  obtain⟨o,es,ep,ho,hd,hk,_,hm⟩:=n;refine⟨o,ho,fun name=>?_⟩;have e:=hm name;unfold nsFind findBy at e;rw[<- Array.find?_toList] at e;unfold W.lookIn;rw[hd];dsimp only;split
  . rename_i y q
    rw[q] at e;exact congrArg some e
  . rename_i q
    rw[q] at e;have a:es.toList.any (·.refKey)=false:=by
      rw[List.any_eq_false];intro y hy;obtain⟨z,t,hkey⟩:=hk y (Array.mem_toList_iff.mp hy);simp[DictEntry.refKey,hkey]
    have a':¬ es.toList.any (·.refKey)=true:=by rw[a];exact Bool.false_ne_true
    rw[if_neg a'];exact congrArg some e
theorem ObjM.look (I:ObjM h x dx C mA):∃ od,W.InstAt h x (W.instObj C dx) C (some od)/\∀ name,W.lookIn name od=some (mA name) :=
  let ⟨od,ho,hl⟩:=qgU I.ns
  ⟨od,⟨I.obj,rfl,rfl,ho⟩,hl⟩
section
variable {f:Addr}{v:Value}
theorem qmb {expr:Bool}(X:K.In s.heap) (I:ObjM s.heap x dx C mA) (hg:W.plainGet K C name=true) (hh:W.hasDictIn K C=true)
    (ha:W.findIn K (.ref C) name=some none) (hv:mA name=some v) (hv':W.handedIn v=true) (h:Q v { s with toks:=s.toks+1 }) :
    wpAny 'm' A (getAttr (.ref x) name expr) Q E s:=by
  obtain⟨od,J,hl⟩:=I.look;exact W.get_value X J (W.plainGet_of hg).1 (W.findObj_own hh ha rfl (by rw[hl,hv])) hv' h
theorem qje {Q:Value×List Value->Shared->Prop}(X:K.In s.heap) (I:ObjM s.heap x dx C mA) (hg:W.plainGet K C name=true)
    (hf:W.findIn K (.ref C) name=some (some (.ref f))) (ht:W.isFn K (.ref f)=true) (hv:mA name=none) (h:Q (.ref f,[.ref x]) s) :
    wpAny 'm' A (getMethod (.ref x) name pl) Q E s:=by
  obtain⟨od,J,hl⟩:=I.look;exact W.method_fn X J (W.plainGet_of hg).1 (W.plainGet_of hg).2 hf (beq_iff_eq.mp ht) (by show (W.lookIn name od).map (·.isSome)=some false;rw[hl,hv];rfl) h
theorem qk5 {ns:List Str}{Q:Unit->Shared->Prop}(X:K.In s.heap) (I:ObjM s.heap x dx C mA)
    (hs:W.findIn K (.ref C) "__setattr__" = some (some (.builtin "object.__setattr__"))) (hp:W.plainOver K C=true) (ht:W.takerIn K C name=some none) (hh:W.hasDictIn K C=true)
    (hw:PySem.Within mA ns) (hsz:ns.length<=sizeLine)
    (h:∀ h',ObjM h' x dx C (fun y=>if y=name then some v else mA y)->Heap.SameBut dx s.heap h'->Q () { s with heap:=h',toks:=s.toks+2 }) :
    wpAny 'm' A (setAttr (.ref x) name v) Q E s:=by
  obtain⟨od,J,hl⟩:=I.look;refine W.set_plain X J hs (W.osa_open (s:={ s with toks:=s.toks+1 }) (r:=none) X J hp ht fun b=>?_);obtain⟨cd,hc,hd'⟩:=W.any_some hh;have hx:s.heap.get? x=some ⟨.ref C,some dx,.plain,#[]⟩:=I.obj;refine qa (qf (qa (qa (wpAny_loadPart hx (qa (W.Looks.here (s:={ s with toks:=s.toks+1 }) (W.looks_clsIn X hc) ?_))))));rw[hd'];refine qf (a:=some dx) (qa (qf (qa ?_)));refine wpAny_nsSet1 (s:={ s with toks:=s.toks+1 }) I.ns fun h' hn2 hs2=>?_;obtain⟨oD,esD,epD,hoD,hdD,hcD⟩:=hn2.count (PySem.Within.cons name v hw);refine qa (wpAny_lookBehind hoD (by rw[hdD];exact pastItsLine_dict (qz hcD (by rw[qU];omega))) ?_);exact qf (h _ ⟨(hs2.2 _ (Ne.symm I.ne)).trans I.obj,hn2,I.ne⟩ hs2)
theorem qi3 {vs:List Value}(X:K.In s.heap) (hm:W.makesIn K C=true)
    (hi:W.findIn K (.ref C) "__init__" = some (some (.ref f))) (hf:W.typeIn K (.ref f)=some (.type "function"))
    (h:codeAny 'm' (A.under (.builtin "type.__call__" ⟨.ref C::vs,kw⟩)) (.call (.ref f) ⟨.ref (s.heap.objs.size+1)::vs,kw⟩) (W.InitBack (s.heap.objs.size+1) R)
      { s with heap:=(s.heap.push W.emptyDict).push (W.instObj C s.heap.objs.size) }) :
    codeAny 'm' A (.call (.ref C) ⟨vs,kw⟩) R s:=by
  obtain⟨hh,g,d,t,os⟩:=s;exact W.make_core (W.makes_of X hm) (W.looks_findIn X hi) (fun self=>W.bind_fn X self hf) (.inl rfl) h
end
def qbs (f:Str) (v:V):List (Str×V)->List (Str×V)
  | []=>[(f,v)]
  | (g,x)::r=>if g=f then (g,v)::r else (g,x)::qbs f v r
theorem qar (f g:Str) (v:V):∀ fs:List (Str×V),(qbs f v fs).lookup g=if g=f then some v else fs.lookup g
  | []=>by
    show List.lookup g [(f,v)]=_;by_cases h:g=f
    . have hb:(g == f)=true:=beq_iff_eq.mpr h
      simp only[List.lookup,hb,if_pos h]
    . have hb:(g == f)=false:=beq_eq_false_iff_ne.mpr h
      simp only[List.lookup,hb,if_neg h]
  | (k,x)::r=>by
    have ih:=qar f g v r;rw[show qbs f v ((k,x)::r)=(if k=f then (k,v)::r else (k,x)::qbs f v r) from rfl];by_cases hk:k=f
    . rw[if_pos hk]
      by_cases h:g=k
      . have hb:(g == k)=true:=beq_iff_eq.mpr h
        simp only[List.lookup,hb,if_pos (h.trans hk)]
      . have hb:(g == k)=false:=beq_eq_false_iff_ne.mpr h
        simp only[List.lookup,hb,if_neg (fun e:g=f=>h (e.trans hk.symm))]
    . rw[if_neg hk]
      by_cases h:g=k
      . have hb:(g == k)=true:=beq_iff_eq.mpr h
        simp only[List.lookup,hb,if_neg (fun e:g=f=>hk (h.symm.trans e))]
      . have hb:(g == k)=false:=beq_eq_false_iff_ne.mpr h
        simp only[List.lookup,hb];exact ih
theorem qay (f:Str) (v:V):∀ fs:List (Str×V),f∈(qbs f v fs).map (·.1)/\∀ g,g∈fs.map (·.1)->g∈(qbs f v fs).map (·.1)
  | []=>⟨by simp[qbs],fun g h=>by simp at h⟩
  | (k,x)::r=>by
    obtain⟨i1,i2⟩:=qay f v r;rw[show qbs f v ((k,x)::r)=(if k=f then (k,v)::r else (k,x)::qbs f v r) from rfl];by_cases hk:k=f
    . rw[if_pos hk]
      subst hk;exact⟨'s',fun g h=>by simpa using h⟩
    . rw[if_neg hk]
      refine⟨?_,fun g h=>?_⟩
      . rw[qP]
        exact qe _ i1
      . rw[qP] at h ⊢
        rcases qF.mp h with e | e
        . exact qF.mpr (.inl e)
        . exact qe _ (i2 g e)
theorem qat (f:Str) (v:V):∀ fs:List (Str×V),(qbs f v fs).length<=fs.length+1
  | []=>by simp[qbs]
  | (k,x)::r=>by
    have ih:=qat f v r;rw[show qbs f v ((k,x)::r)=(if k=f then (k,v)::r else (k,x)::qbs f v r) from rfl];by_cases hk:k=f
    . rw[if_pos hk,qU,qU];omega
    . rw[if_neg hk,qU,qU];omega
theorem qc4.some_of {o:Option Value}(r:qc4 (some v) o):∃ u,o=some u/\jr v u:=by
  cases o with
  | none=>exact (show False from r).elim
  | some u=>exact⟨u,rfl,r⟩
theorem qc4.none_of {o:Option Value}(r:qc4 none o):o=none:=by
  cases o with
  | none=>rfl
  | some u=>exact (show False from r).elim
theorem qhd (r:jr v u):W.handedIn u=true:=by
  cases v with
  | non=>cases (show u=Value.none from r);rfl
  | bl b=>cases (show u=Value.bool b from r);rfl
  | int i=>obtain⟨t,e⟩:=(show ∃ t,u=Value.int i t from r);cases e;rfl
  | str x=>obtain⟨t,e⟩:=(show ∃ t,u=Value.str x t from r);cases e;rfl
  | byt b=>obtain⟨t,e⟩:=(show ∃ t,u=Value.bytes b t from r);cases e;rfl
  | flt b=>obtain⟨t,e⟩:=(show ∃ t,u=Value.float b t from r);cases e;rfl
  | ref a=>cases (show u=Value.ref a from r);rfl
  | ty n=>cases (show u=Value.type n from r);rfl
section
variable {fs fs':List (Str×V)}
theorem qdx (hok:HOk P w H h) (e:H a=some (.ins C dx fs)):∃ mA,ObjM h a dx C mA/\(∀ f,qc4 (fs.lookup f) (mA f))/\PySem.Within mA (fs.map (·.1))/\fs.length<=1000/\H dx=some (.own a):=by
  obtain⟨d,z,ne,ob,mA,n,r,q⟩:=(show jB P w H h a (.ins C dx fs) from hok a _ e);exact⟨mA,⟨ob,n,ne⟩,r,q,z,d⟩
end
structure Cls (K:W.Frag) (C:Addr):Prop where
  pg:W.plainGet K C Str.empty=true
  hd:W.hasDictIn K C=true
  po:W.plainOver K C=true
  sa:W.findIn K (.ref C) "__setattr__" = some (some (.builtin "object.__setattr__"))
theorem Cls.get (c:Cls K C) (f:Str):W.plainGet K C f=true:=c.pg
def Yz (K:W.Frag) (C:Addr) (f:Str):Prop:=W.findIn K (.ref C) f=some none
theorem Yz.taker (n:Yz K C f):W.takerIn K C f=some none:=by
  unfold W.takerIn;rw[show W.findIn K (.ref C) f=some none from n];rfl
structure Meth (K:W.Frag) (C:Addr) (m:Str) (f:Addr):Prop where
  at_:W.findIn K (.ref C) m=some (some (.ref f))
  fn:W.isFn K (.ref f)=true
  kp:W.keepIn K (.ref f)=true
section
variable {fs:List (Str×V)}
theorem qfd (I:Inv X Oa G H s) (e:H a=some (.ins C dx fs)) (c:Cls X.K C) (n:Yz X.K C f) (l:fs.lookup f=some v)
    (h:∀ u s',Inv X Oa G H s'->jr v u->Q u s'):wpAny 'M' A (getAttr (.ref a) f b) Q E s:=by
  obtain⟨mA,O,r,_,_,_⟩:=qdx I.hok e;obtain⟨u,hu,ru⟩:=qc4.some_of (v:=v) (o:=mA f) (by rw[<- l];exact r f);exact qmb I.kIn O (c.get f) c.hd n hu (qhd ru) (h u _ (I.tok _) ru)
theorem qbc {m:Str}{g:Addr}{Q:Value×List Value->Shared->Prop}(I:Inv X Oa G H s) (e:H a=some (.ins C dx fs)) (c:Cls X.K C) (k:Meth X.K C m g) (l:fs.lookup m=none)
    (h:Q (.ref g,[.ref a]) s):wpAny 'M' A (getMethod (.ref a) m pl) Q E s:=by
  obtain⟨mA,O,r,_,_,_⟩:=qdx I.hok e;have hn:mA m=none:=qc4.none_of (by rw[<- l];exact r m);exact qje I.kIn O (c.get m) k.at_ k.fn hn h
theorem qeS {y:V}{Q:Unit->Shared->Prop}(I:Inv X Oa G H s) (e:H a=some (.ins C dx fs)) (c:Cls X.K C) (n:Yz X.K C f) (hl:fs.length<1000) (ry:jr y u)
    (h:∀ s',Inv X Oa G (upd H a (.ins C dx (qbs f y fs))) s'->Q () s'):wpAny 'M' A (setAttr (.ref a) f u) Q E s:=by
  obtain⟨mA,O,r,wi,_,ho⟩:=qdx I.hok e;have hz:(fs.map (·.1)).length<=sizeLine:=by rw[qc,sizeLine_eq];omega
  refine qk5 I.kIn O c.sa c.po n.taker c.hd wi hz fun h' O' sb=>h _ ?_;have hd:∃ o,h'.get? dx=some o:=let ⟨o,_,_,e',_⟩:=O'.ns;⟨o,e'⟩;refine I.write (x:=a) (e:=dx) (by rw[e];exact True.intro) (.inr ho) (fun b q hb z=>(sb.2 b hb).trans z) hd ?_;refine⟨by rw[qX O.ne];exact ho,?_,O.ne,O'.obj,_,O'.ns,fun g=>?_,fun g hg=>?_⟩
  . have:=qat f y fs;omega
  . show qc4 ((qbs f y fs).lookup g) (if g=f then some u else mA g)
    rw[qar];by_cases q:g=f
    . rw[if_pos q,if_pos q];exact ry
    . rw[if_neg q,if_neg q];exact r g
  . by_cases q:g=f
    . rw[q];exact (qay f y fs).1
    . refine (qay f y fs).2 g (wi g fun z=>hg ?_)
      show (if g=f then some u else mA g)=none;rw[if_neg q];exact z
theorem Inv.made (I:Inv X Oa G H s):Inv X Oa G (upd (upd H s.heap.objs.size (.own (s.heap.objs.size+1))) (s.heap.objs.size+1) (.ins C s.heap.objs.size []))
    { s with heap:=(s.heap.push W.emptyDict).push (W.instObj C s.heap.objs.size) }:=by
  have e1:(s.heap.push W.emptyDict).get? s.heap.objs.size=some W.emptyDict:=qD s.heap rfl;have e2:((s.heap.push W.emptyDict).push (W.instObj C s.heap.objs.size)).get? (s.heap.objs.size+1)=some (W.instObj C s.heap.objs.size):=by
    have:=qD (s.heap.push W.emptyDict) (o:=W.instObj C s.heap.objs.size) rfl;rwa[Heap.size_push] at this
  have e3:(s.heap.push W.emptyDict).Ns s.heap.objs.size (fun _=>none):=⟨W.emptyDict,#[],_,e1,rfl,(fun e he=>absurd he 's'),fun _=>rfl⟩;have I1:=I.laid (a:=s.heap.objs.size) (o:=.own (s.heap.objs.size+1)) (h':=s.heap.push W.emptyDict) (t':=s.toks) (fun b u q=>qd _ q) (qk _) ⟨_,e1⟩;refine I1.laid (a:=s.heap.objs.size+1) (o:=.ins C s.heap.objs.size []) (t':=s.toks) (fun b u q=>qd _ q) (Nat.le_of_eq (Heap.size_push _ _)) ?_;have ne:s.heap.objs.size≠s.heap.objs.size+1:=qt (yZ _);refine⟨by rw[qX ne,yg],yj _,ne,e2,fun _=>none,(Heap.Ns1.of_empty e3).at fun o q=>qd _ q,fun _=>True.intro,fun y hy=>absurd rfl hy⟩
theorem qmI {e:Expr}(hb:attributeBase e f env (eval e env)=eval e env)
    (h:wpAny 'm' A (eval e env) (fun o sa1=>wpAny 'm' A (getAttr o f true) Q E sa1) E s):wpAny 'm' A (eval (.Attribute e f pos) env) Q E s :=
  Attribute_any_ h (by rw[arm_eval_Attribute,hb])
end
def tFld (K:W.Frag) (ta:TE) (f:Str):TE:=fun G H Q=>ta G H fun x H1=>∃ a C dx fs v,x = .ref a/\H1 a=some (.ins C dx fs)/\Cls K C/\Yz K C f/\fs.lookup f=some v/\Q v H1
def sFld (K:W.Frag) (ta tv:TE) (f:Str):TS:=fun D G H=>tv G H fun y H1=>ta G H1 fun x H2=>∃ a C dx fs,x = .ref a/\H2 a=some (.ins C dx fs)/\Cls K C/\Yz K C f/\fs.length<1000 ∧
  D.nx G (upd H2 a (.ins C dx (qbs f y fs)))
section
variable {e:Expr}{ta:TE}
theorem qoe (he:PE X e ta) (hb:attributeBase e f X.env (eval e X.env)=eval e X.env):PE X (.Attribute e f pos) (tFld X.K ta f):=by
  intro Oa s G H Q I h;refine qmI hb (thn (he Oa s G H _ I h) fun u s1 ⟨x,H1,I1,rx,a,C,dx,fs,v,ex,ea,c,n,l,q⟩=>?_);subst ex;obtain rfl:u=Value.ref a:=rx;exact qfd I1 ea c n l fun u' s2 I2 ru=>⟨v,H1,I2,ru,q⟩
theorem qn1 (ha:PE X o ta) (hv:PE X value tv) (hs:swapsWith value (some (.Attribute o f pos')) pos.line X.env=pure false):PS X (.Assign [.Attribute o f pos'] value pos) (sFld X.K ta tv f):=by
  intro Oa s G H D I h;refine plainObj_wpAny_Assign_Attribute (thn (hv Oa s G H _ I h) fun u s1 ⟨y,H1,I1,ry,q⟩=>thn (ha Oa s1 G H1 _ I1 q) fun ov s2 ⟨x,H2,I2,rx,a,C,dx,fs,ex,ea,c,n,l,q2⟩=>?_) hs;subst ex;obtain rfl:ov=Value.ref a:=rx;exact qeS I2 ea c n l ry fun s3 I3=>⟨G,_,I3,q2⟩
end
section
variable {c:Value}
end
end L2
namespace L2
variable {te ta:TE}{E:XK}{v:Value}
structure Room (k:Nat) (A:Around):Prop where
  hd:A.handled=none
  dp:A.depth+3 * k+5<recursionLimit
  un:A.units+16 * k+200<cLine
theorem Room.mono {k:Nat}(r:Room k A) (h:j<=k):Room j A:=⟨r.hd,by have:=r.dp;omega,by have:=r.un;omega⟩
theorem Room.mo (r:Room k A) (h:j<=k:=by decide):Room j A:=r.mono h
theorem Room.deeper {k:Nat}(r:Room (k+1) A) (env:Env):Room k (A.deeper env) :=
  ⟨r.hd,by have:=r.dp;show A.depth+1+3 * k+5<_;omega,by have:=r.un;show A.units+3+16 * k+200<_;omega⟩
theorem Room.in1 {k:Nat}(r:Room (k+1) A):Room k A.in1 :=
  ⟨r.hd,by have:=r.dp;show A.depth+3 * k+5<_;omega,by have:=r.un;show A.units+1+16 * k+200<_;omega⟩
theorem qe9 : (A.under (.builtin "type.__call__" ⟨.ref C::us,kw⟩)).depth=A.depth+1:=by first | rfl | simp[Around.under,Code.weight,Code.isCreation,Code.isGuard,Code.isCaller,Code.frames,Code.isFrame,guardIds]
theorem qe8 : (A.under (.builtin "type.__call__" ⟨.ref C::us,kw⟩)).units=A.units+1:=by first | rfl | simp[Around.under,Code.cUnits,Code.frames,Code.isFrame]
theorem Room.make {k:Nat}(r:Room (k+1) A) (C:Addr) (us:List Value) (kw:List (Str×Value)):Room k (A.under (.builtin "type.__call__" ⟨.ref C::us,kw⟩)) :=
  ⟨r.hd,by have:=r.dp;rw[qe9];omega,by have:=r.un;rw[qe8];omega⟩
theorem Room.depth {k:Nat}(r:Room k A):A.depth<recursionLimit:=by have:=r.dp;omega
theorem Room.units {k:Nat}(r:Room k A):A.units+64<cLine:=by have:=r.un;omega
def tNil:TA:=fun _ H Q=>Q [] H
def tCons (ta:TE) (tr:TA):TA:=fun G H Q=>ta G H fun x H1=>tr G H1 fun xs H2=>Q (x::xs) H2
section
variable {e:Expr}{t:TA}
theorem qci:PA X [] tNil:=fun _ _ _ _ H Q I h=>Calls.spliced_nil ⟨[],H,I,.nil,h⟩
theorem Yn (ha:PE X e te) (hr:PA X es t) (hs:starEach (e::es) X.env=(false,eval e X.env)::starEach es X.env:=by rfl):PA X (e::es) (tCons te t):=by
  intro pos Oa s G H Q I h;rw[hs];show wpAny _ _ (spliced ((false,eval e X.env)::backTo pos (starEach es X.env))) _ _ s;refine Calls.spliced_cons (thn (ha Oa s G H _ I h) fun u s1 ⟨x,H1,I1,r1,q1⟩=>?_);exact thn (hr pos Oa s1 G H1 _ I1 q1) fun us s2 ⟨xs,H2,I2,r2,q2⟩=>⟨x::xs,H2,I2,.cons r1 r2,q2⟩
def tTup (t:TA):TE:=fun G H Q=>t G H fun xs H1=>xs.length<=sizeLine/\∀ p,H1 p=none->Q (.ref p) (upd H1 p (.tup xs))
def tLst (t:TA):TE:=fun G H Q=>t G H fun xs H1=>xs.length<=sizeLine/\∀ p,H1 p=none->Q (.ref p) (upd H1 p (.lst xs))
theorem qn8 {x1} (h:PA X es t):PE X (.Tuple es x1 pos) (tTup t):=by
  intro Oa s G H Q I hq;refine wpAny_Tuple_spliced (thn (h pos Oa s G H _ I hq) fun us s1 ⟨xs,H1,I1,r,z,q⟩=>⟨by rw[<- r.length];exact z,?_⟩);have hf:H1 s1.heap.objs.size=none:=I1.hok.fresh (qk _);refine⟨.ref s1.heap.objs.size,upd H1 s1.heap.objs.size (.tup xs),I1.laid (t':=s1.toks) (fun b u e=>qd _ e) (qk _) ?_,rfl,q _ hf⟩;exact⟨z,us,r,⟨_,qD _ rfl,rfl,_,rfl⟩⟩
theorem qka (h:PA X es t):PE X (.List es pos) (tLst t):=by
  intro Oa s G H Q I hq;refine wpAny_List_spliced (thn (h pos Oa s G H _ I hq) fun us s1 ⟨xs,H1,I1,r,z,q⟩=>⟨by rw[<- r.length];exact z,?_⟩);have hf:H1 s1.heap.objs.size=none:=I1.hok.fresh (qk _);refine⟨.ref s1.heap.objs.size,upd H1 s1.heap.objs.size (.lst xs),I1.laid (t':=s1.toks) (fun b u e=>qd _ e) (qk _) ?_,rfl,q _ hf⟩;exact⟨z,us,0,r,qD _ rfl⟩
end
abbrev Sp:=List V->Hp->VK->XK->Prop
abbrev CXT:=List Env->Hp->Shared->XK->Value->Shared->Prop
structure Env0 (P:Program) (w:World) (K:W.Frag) (mg:Str->Option Value) (base:Heap) (A:Around) (outer:List Env) (s:Shared) (H:Hp):Prop where
  frames:A.frames=some outer
  mod:Mod K mg base
  bs:∀ b o,base.get? b=some o->s.heap.get? b=some o/\H b=none
  bsz:base.objs.size<=s.heap.objs.size
  funs:s.heap.FunFrames base outer
  frf:∀ b∈frs outer,H b=none
  hok:HOk P w H s.heap
  bare:AllBare s.gens
def CE (outer:List Env) (P:Program) (w:World) (H:Hp) (s:Shared) (Q:VK) (u:Value) (s':Shared):Prop :=
  ∃ v H',s'.os=s.os/\AllBare s'.gens/\Un (frs outer) [] H H' s.heap s'.heap/\HOk P w H' s'.heap/\jr v u/\Q v H'
def CR (CX:CXT) (outer:List Env) (P:Program) (w:World) (H:Hp) (s:Shared) (Q:VK) (E:XK) (r:Result) (s':Shared):Prop :=
  match r with
  | .ok (.ret u)=>CE outer P w H s Q u s'
  | .ok _=>False
  | .error e=>CX outer H s E e s'
structure FnOk (P:Program) (w:World) (K:W.Frag) (mg:Str->Option Value) (base:Heap) (CX:CXT) (k:Nat) (f:Addr) (fd:FuncData) (ps:List Str) (sp:Sp):Prop where
  len:∀ vs H Q E,sp vs H Q E->vs.length=ps.length
  run:∀ (A:Around) (outer:List Env) (s:Shared) (H:Hp) (args:Args) (us:List Value) (vs:List V) (Q:VK) (E:XK),Room k A->Env0 P w K mg base A outer s H->BindsTo s fd args (ps.zip us)->yM vs us->sp vs H Q E →
    codeAny (model P w) A (.call (.ref f) args) (CR CX outer P w H s Q E) s
theorem FnOk.mono {CX:CXT}{k:Nat}{sp:Sp}(F:FnOk P w K mg base CX j f fd ps sp) (h:j<=k) :
    FnOk P w K mg base CX k f fd ps sp:=⟨F.len,fun A outer s H args us vs Q E hr=>F.run A outer s H args us vs Q E (hr.mono h)⟩
theorem FnOk.imp {CX:CXT}{k:Nat}{sp sp':Sp}(F:FnOk P w K mg base CX k f fd ps sp)
    (h:∀ vs H Q E,sp' vs H Q E->sp vs H Q E):FnOk P w K mg base CX k f fd ps sp' :=
  ⟨fun vs H Q E q=>F.len vs H Q E (h _ _ _ _ q),fun A outer s H args us vs Q E hr he hb hv hs=>F.run A outer s H args us vs Q E hr he hb hv (h _ _ _ _ hs)⟩
theorem Env0.make (e:Env0 P w K mg base A outer s H) (C:Addr) (us:List Value) (kw:List (Str×Value)) :
    Env0 P w K mg base (A.under (.builtin "type.__call__" ⟨.ref C::us,kw⟩)) outer s H:=⟨by first | exact e.frames | (simpa[Around.under,Code.envs,Code.isFrame,pushEnvs] using e.frames),e.mod,e.bs,e.bsz,e.funs,e.frf,e.hok,e.bare⟩
theorem Inv.env0 (I:Inv X Oa G H s):Env0 X.prog X.w X.K X.mg X.base X.A X.stack s H :=
  ⟨I.ok.frames,I.ok.mod,I.bs,qz I.ok.bsz I.sz,I.stack,I.stkFree,I.hok,I.bare⟩
theorem Inv.after (I:Inv X Oa G H s) (h:CE X.stack X.prog X.w H s Q u s'):EP X Oa G Q u s':=by
  obtain⟨v,H',os,bare,un,hok,r,q⟩:=h;obtain⟨hh,g,d,t,os'⟩:=s';obtain rfl:os'=s.os:=os;exact⟨v,H',I.call (h':=hh) (g':=g) (d':=d) (t':=t) (ch:=[]) un hok bare (fun b z=>absurd z 's'),r,q⟩
def qig (sp:Sp) (dvs:List V) (E:XK) (t:TA):TE:=fun G H Q=>t G H fun vs H1=>sp (vs++dvs) H1 Q E
def qnf (C:Addr) (m:Str) (sp:Sp) (dvs:List V) (E:XK) (ta:TE) (t:TA):TE:=fun G H Q=>ta G H fun x H1=>∃ a dx fs,x = .ref a/\H1 a=some (.ins C dx fs)/\fs.lookup m=none ∧
  t G H1 fun vs H2=>sp (x::(vs++dvs)) H2 Q E
def qng (C:Addr) (sp:Sp) (dvs:List V) (E:XK) (t:TA):TE:=fun G H Q=>t G H fun vs H1=>∀ x dx,H1 x=none->H1 dx=none->dx≠x →
  sp (.ref x::(vs++dvs)) (upd (upd H1 dx (.own x)) x (.ins C dx [])) (fun v H2=>v = .non/\Q (.ref x) H2) E
def YW (K:W.Frag) (fd:FuncData) (ps:List Str) (ds:List Value):Prop :=
  ∀ (s:Shared) (us:List Value),K.In s.heap->(us++ds).length=ps.length->BindsTo s fd ⟨us,[]⟩ (ps.zip (us++ds))
theorem YW.all (h:∀ us:List Value,us.length=ps.length->bindArgs fd ⟨us,[]⟩=pure (ps.zip us)):YW K fd ps []:=fun s us _ hl=>by
  rw[j8] at hl ⊢;exact .of_eq (h us hl)
def Yg (CX:CXT) (X:Cx) (E:XK):Prop:=∀ (Oa:List (Addr×Obj)) (G:St) (H:Hp) (s:Shared) (e:Value) (s':Shared),Inv X Oa G H s->CX X.stack H s E e s'->X.xe e s'
section
variable {CX:CXT}{k:Nat}{sp:Sp}{dvs:List V}{ds:List Value}{m:Str}{e:Expr}{t:TA}
theorem qeb (F:FnOk X.prog X.w X.K X.mg X.base CX k f fd ps sp) (hr:Room k X.A) (hb:YW X.K fd ps ds) (hd:yM dvs ds) (hx:Yg CX X E)
    (I:Inv X Oa G H s) (r:yM vs us) (h:sp (vs++dvs) H Q E):wpAny 'M' X.A (call (.ref f) us) (EP X Oa G Q) X.xe s:=by
  have r2:yM (vs++dvs) (us++ds):=r.append hd;have hl:(us++ds).length=ps.length:=by rw[<- r2.length];exact F.len _ _ _ _ h
  refine wpAny_call (codeAny_mono (F.run X.A X.stack s H ⟨us,[]⟩ (us++ds) (vs++dvs) Q E hr I.env0 (hb s us I.kIn hl) r2 h) fun r s' hq=>?_);cases r with
  | error e=>exact hx Oa G H s e s' I hq
  | ok fl =>
    cases fl with
    | ret u=>exact I.after hq
    | next=>exact False.elim hq
    | brk=>exact False.elim hq
    | cont=>exact False.elim hq
theorem qgq (F:FnOk X.prog X.w X.K X.mg X.base CX k f fd ps sp) (hr:Room k X.A) (hg:Gl X x) (hm:X.mg x=some (.ref f)) (hk:W.keepIn X.K (.ref f)=true) (hb:YW X.K fd ps ds) (hd:yM dvs ds) (hx:Yg CX X E)
    (ha:PA X (e::es) t) (hdb:(x == ("__debug__" : Str))=false:=by decide) (he:starEach (e::es) X.env=(false,eval e X.env)::starEach es X.env:=by rfl) (hpl:(backTo pos (starEach es X.env)).any (·.1)=false:=by rfl) :
    PE X (.Call (.Name x p) (e::es) [] pos) (qig sp dvs E t):=by
  intro Oa s G H Q I h;refine jL (Zx I hg hm ?_ hdb);refine W.callWith_K (h₀:=X.base) I.ok.mod.kin hk (thn (ha pos Oa s G H _ I h) fun us s1 ⟨vs,H1,I1,r,q⟩=>⟨I1.kIn,?_⟩) he hpl;exact qeb F hr hb hd hx I1 r q
theorem Zq (he:PE X o ta) (c:Cls X.K C) (hm:Meth X.K C m f) (F:FnOk X.prog X.w X.K X.mg X.base CX k f fd ps sp) (hr:Room k X.A) (hb:YW X.K fd ps ds) (hd:yM dvs ds) (hx:Yg CX X E) (ha:PA X (e::es) t)
    (hst:starEach (e::es) X.env=(false,eval e X.env)::starEach es X.env:=by rfl) (hpl:(backTo pos (starEach es X.env)).any (·.1)=false:=by rfl)
    (ht:eval (.Call (.Attribute o m apos) (e::es) [] pos) X.env=(do
      let ov <- eval o X.env
      standAt apos.atName
      let (f,first) <- holding [ov] (getMethod ov m pl)
      callWith pos f first (backTo pos (starEach (e::es) X.env)) (backToKw pos (keywordEach [] X.env))):=by rfl) :
    PE X (.Call (.Attribute o m apos) (e::es) [] pos) (qnf C m sp dvs E ta t):=by
  intro Oa s G H Q I h;refine W.methodCall_KW (pl:=pl) (thn (he Oa s G H _ I h) fun u s1 ⟨x,H1,I1,rx,a,dx,fs,ex,ea,l,q⟩=>?_) ht;subst ex;obtain rfl:u=Value.ref a:=rx;refine qbc I1 ea c hm l ?_;refine W.callWith_K (first:=[.ref a]) (h₀:=X.base) I.ok.mod.kin hm.kp (thn (ha pos Oa s1 G H1 _ I1 q) fun us s2 ⟨vs,H2,I2,r,q2⟩=>⟨I2.kIn,?_⟩) hst hpl;exact qeb (us:=.ref a::us) (vs:=.ref a::vs) F hr hb hd hx I2 (.cons rfl r) q2
theorem qiH (he:PE X o ta) (c:Cls X.K C) (hm:Meth X.K C m f) (F:FnOk X.prog X.w X.K X.mg X.base CX k f fd ps sp) (hr:Room k X.A) (hb:YW X.K fd ps ds) (hd:yM dvs ds) (hx:Yg CX X E)
    (ht:eval (.Call (.Attribute o m apos) [] [] pos) X.env=(do
      let ov <- eval o X.env
      standAt apos.atName
      let (f,first) <- holding [ov] (getMethod ov m pl)
      callWith pos f first (backTo pos (starEach [] X.env)) (backToKw pos (keywordEach [] X.env))):=by rfl) :
    PE X (.Call (.Attribute o m apos) [] [] pos) (qnf C m sp dvs E ta tNil):=by
  intro Oa s G H Q I h;refine W.methodCall_KW (pl:=pl) (thn (he Oa s G H _ I h) fun u s1 ⟨x,H1,I1,rx,a,dx,fs,ex,ea,l,q⟩=>?_) ht;subst ex;obtain rfl:u=Value.ref a:=rx;refine qbc I1 ea c hm l ?_;exact W.callWith_K0 (first:=[.ref a]) I1.kIn hm.kp (qeb (us:=[.ref a]) (vs:=[.ref a]) F hr hb hd hx I1 (.cons rfl .nil) q)
structure Mk (K:W.Frag) (C f:Addr):Prop where
  makes:W.makesIn K C=true
  init:W.findIn K (.ref C) "__init__" = some (some (.ref f))
  fn:W.isFn K (.ref f)=true
  kp:W.keepIn K (.ref C)=true
theorem qea (M:Mk X.K C f) (F:FnOk X.prog X.w X.K X.mg X.base CX k f fd ps sp) (hr:Room (k+1) X.A) (hb:YW X.K fd ps ds) (hd:yM dvs ds)
    (hx:Yg CX X E) (I:Inv X Oa G H s) (r:yM vs us)
    (h:∀ x dx,H x=none->H dx=none->dx≠x->sp (.ref x::(vs++dvs)) (upd (upd H dx (.own x)) x (.ins C dx [])) (fun v H2=>v = .non/\Q (.ref x) H2) E) :
    wpAny 'M' X.A (call (.ref C) us) (EP X Oa G Q) X.xe s:=by
  have hq:=h (s.heap.objs.size+1) s.heap.objs.size (I.hok.fresh (Nat.le_succ _)) (I.hok.fresh (qk _)) (qt (yZ _));have I2:=Inv.made (C:=C) I;have r2:yM (V.ref (s.heap.objs.size+1)::(vs++dvs)) (Value.ref (s.heap.objs.size+1)::(us++ds)):=.cons rfl (r.append hd);have hl:(Value.ref (s.heap.objs.size+1)::us++ds).length=ps.length:=by
    have e:=r2.length;rw[F.len _ _ _ _ hq] at e;exact e.symm
  refine wpAny_call (qi3 (f:=f) I.kIn M.makes M.init (beq_iff_eq.mp M.fn) (codeAny_mono (F.run _ X.stack _ _ ⟨Value.ref (s.heap.objs.size+1)::us,[]⟩ (Value.ref (s.heap.objs.size+1)::(us++ds)) _ _ E (hr.make C us [])
    (I2.env0.make C us []) (hb _ (Value.ref (s.heap.objs.size+1)::us) I2.kIn hl) r2 hq) fun r s' hq'=>?_))
  cases r with
  | error e=>exact hx Oa G _ _ e s' I2 hq'
  | ok fl =>
    cases fl with
    | ret u =>
      obtain⟨v,H',I3,rv,ev,q3⟩:=I2.after hq';subst ev;exact⟨rv,⟨V.ref (s.heap.objs.size+1),H',I3,rfl,q3⟩⟩
    | next=>exact False.elim hq'
    | brk=>exact False.elim hq'
    | cont=>exact False.elim hq'
theorem qlp (M:Mk X.K C f) (F:FnOk X.prog X.w X.K X.mg X.base CX k f fd ps sp) (hr:Room (k+1) X.A) (hg:Gl X x) (hm:X.mg x=some (.ref C)) (hb:YW X.K fd ps ds) (hd:yM dvs ds) (hx:Yg CX X E)
    (ha:PA X (e::es) t) (hdb:(x == ("__debug__" : Str))=false:=by decide) (he:starEach (e::es) X.env=(false,eval e X.env)::starEach es X.env:=by rfl) (hpl:(backTo pos (starEach es X.env)).any (·.1)=false:=by rfl) :
    PE X (.Call (.Name x p) (e::es) [] pos) (qng C sp dvs E t):=by
  intro Oa s G H Q I h;refine jL (Zx I hg hm ?_ hdb);refine W.callWith_K (h₀:=X.base) I.ok.mod.kin M.kp (thn (ha pos Oa s G H _ I h) fun us s1 ⟨vs,H1,I1,r,q⟩=>⟨I1.kIn,?_⟩) he hpl;exact qea M F hr hb hd hx I1 r q
theorem qiI (M:Mk X.K C f) (F:FnOk X.prog X.w X.K X.mg X.base CX k f fd ps sp) (hr:Room (k+1) X.A) (hg:Gl X x) (hm:X.mg x=some (.ref C)) (hb:YW X.K fd ps ds) (hd:yM dvs ds) (hx:Yg CX X E)
    (hdb:(x == ("__debug__" : Str))=false:=by decide):PE X (.Call (.Name x p) [] [] pos) (qng C sp dvs E tNil):=by
  intro Oa s G H Q I h;refine jL (Zx I hg hm ?_ hdb);exact W.callWith_K0 I.kIn M.kp (qea (us:=[]) M F hr hb hd hx I .nil h)
end
section
variable {CX:CXT}{k:Nat}{ks:List Str}{sp:Sp}{m:Str}{kpos:Pos}{e:Expr}{kws:List Keyword}{t tk:TA}{nm:Option Str}
variable {g:List Value->List Value->List Value}{gV:List V->List V->List V}
end
structure FnScope (N P:List Str) (sc:Scope):Prop where
  kind:sc.kind = .function
  co:sc.isCoroutine=false
  gen:sc.isGenerator=false
  nd:N.Nodup
  pre:N.take P.length=P
  par:∀ x∈P,sc.names.lookup x=some .local\/sc.names.lookup x=some .cell
  nofree:∀ y∈sc.names,y.2≠.free
theorem qcU {kindOf:Str->Option NameKind}:∀ {binds:List (Str×Value)}{m:Str->Option Value},(∀ v,(x,v)∉binds)->bindL kindOf binds m x=m x
  | [],_,_=>rfl
  | (n,v)::r,m,h=>by
    unfold bindL;rw[qcU fun w hw=>h w (qe _ hw)];split
    . have:x≠n:=by rintro rfl;exact h v qj
      simp[this]
    . rfl
theorem qcW {kindOf:Str->Option NameKind}:∀ {binds:List (Str×Value)}{m:Str->Option Value},(∀ v,(x,v)∉binds)->bindC kindOf binds m x=m x
  | [],_,_=>rfl
  | (n,v)::r,m,h=>by
    unfold bindC;rw[qcW fun w hw=>h w (qe _ hw)];split
    . rfl
    . have:x≠n:=by rintro rfl;exact h v qj
      simp[this]
theorem qcV {kindOf:Str->Option NameKind}:∀ {P:List Str}{vs:List Value}{i:Nat}{m:Str->Option Value},P.Nodup->P[i]?=some x->vs[i]?=some v->kindOf x=some .local →
    bindL kindOf (P.zip vs) m x=some v
  | [],_,_,_,_,h,_,_=>by simp at h
  | _::_,[],_,_,_,_,h,_=>by simp at h
  | p::P,w::vs,0,m,nd,h1,h2,hk=>by
    simp at h1 h2;subst h1;subst h2;show bindL kindOf ((p,w)::P.zip vs) m p=_;unfold bindL;rw[qcU fun v hv=>(yx.mp nd).1 (List.of_mem_zip hv).1,if_pos hk];simp
  | p::P,w::vs,i+1,m,nd,h1,h2,hk=>by
    show bindL kindOf ((p,w)::P.zip vs) m x=_;unfold bindL;exact qcV (i:=i) (yx.mp nd).2 (by simpa using h1) (by simpa using h2) hk
theorem qcX {kindOf:Str->Option NameKind}:∀ {P:List Str}{vs:List Value}{i:Nat}{m:Str->Option Value},P.Nodup->P[i]?=some x->vs[i]?=some v->kindOf x≠some .local →
    bindC kindOf (P.zip vs) m x=some v
  | [],_,_,_,_,h,_,_=>by simp at h
  | _::_,[],_,_,_,_,h,_=>by simp at h
  | p::P,w::vs,0,m,nd,h1,h2,hk=>by
    simp at h1 h2;subst h1;subst h2;show bindC kindOf ((p,w)::P.zip vs) m p=_;unfold bindC;rw[qcW fun v hv=>(yx.mp nd).1 (List.of_mem_zip hv).1,if_neg hk];simp
  | p::P,w::vs,i+1,m,nd,h1,h2,hk=>by
    show bindC kindOf ((p,w)::P.zip vs) m x=_;unfold bindC;exact qcX (i:=i) (yx.mp nd).2 (by simpa using h1) (by simpa using h2) hk
def YO (N:List Str) (vs:List V):St:=vs.map some++List.replicate (N.length - vs.length) none
def ZT (CX:CXT) (P:Program) (w:World) (K:W.Frag) (mg:Str->Option Value) (base:Heap) (N:List Str) (qual:Str) (scope:Scope) (f:Addr) (cd:Value) (A:Around) (outer:List Env) (s:Shared) (H:Hp) (E:XK):Cx where
  prog:=P
  w:=w
  K:=K
  mg:=mg
  base:=base
  A:=A.deeper (envOfC qual scope s.heap.objs.size f cd)
  N:=N
  s₀:=s
  H₀:=H
  env:=envOfC qual scope s.heap.objs.size f cd
  outer:=outer
  stack:=envOfC qual scope s.heap.objs.size f cd::outer
  ex:=[]
  calm:=true
  fn:=fun _=>true
  pn:=[]
  xe:=fun e s'=>wpAny (model P w) (A.deeper (envOfC qual scope s.heap.objs.size f cd)) (leaving (envOfC qual scope s.heap.objs.size f cd) e) (fun _ s''=>CX outer H s E e s'') (fun e' s''=>CX outer H s E e' s'') s'
theorem qeE (h:sc.names.lookup x=some .cell):∃ c,(cellsFrom n sc.names []).lookup x=some c:=by
  have q:=W.cellsFrom_some sc.names n [] (.inl h);exact Option.isSome_iff_exists.mp q
theorem qha {CX:CXT}{s1:Shared}
    (S:FnScope N ps scope) (hd:A.handled=none) (e0:Env0 P w K mg base A outer s H) (hl:vs.length=ps.length) (r:yM vs us)
    (x:InCallC s s.heap.objs.size (bindL (envOfC qual scope s.heap.objs.size f cd).kindOf (ps.zip us) fun _=>none) (cellsFrom (s.heap.objs.size+1) scope.names []) (bindC (envOfC qual scope s.heap.objs.size f cd).kindOf (ps.zip us) fun _=>none) s1) :
    Inv (ZT CX P w K mg base N qual scope f cd A outer s H E) [] (YO N vs) H s1:=by
  have hpl:ps.length<=N.length:=by have:=congrArg List.length S.pre;rw[jI] at this;omega
  obtain⟨h1,tk,rfl,hk⟩:=x.done;have noA:∀ b:Addr,b∉(ZT CX P w K mg base N qual scope f cd A outer s H E).ex:=fun b z=>absurd (show b∈([]:List Addr) from z) 's';refine⟨⟨e0.mod,S.kind,rfl,rfl,qk _,fun y z c h1 h2=>?_,fun y hy=>?_,fun y c _ h=>?_,fun _=>hd,Around.frames_deeper e0.frames,.inr ⟨rfl,rfl⟩,fun b z=>absurd z (noA b),e0.bs,e0.bsz,fun b _ _=>noA b,fun b z=>absurd z (noA b),e0.funs,e0.frf⟩,
    rfl,e0.bare,Un.kept hk,⟨_,x.toInCall.ns,fun i y v h1 h2 h3=>?_⟩,fun y c h=>⟨_,x.cell y c h⟩,e0.hok.fresh (qk _),fun y c h=>?_,fun p hp=>absurd (show p∈([]:List (Addr×Obj)) from hp) 's',e0.hok.kept hk,?_⟩
  . exact name_of_addr x.apart (PySem.mem_of_lookup h1) (PySem.mem_of_lookup h2)
  . have hy:scope.names.lookup y=some .cell\/scope.names.lookup y=some .free:=hy
    rcases hy with hy | hy
    . exact qeE hy
    . exact absurd rfl (S.nofree _ (PySem.mem_of_lookup hy))
  . exact yT (x.above y c (PySem.mem_of_lookup h))
  . have hi:i<vs.length:=by
      unfold YO at h2;by_cases hi:i<vs.length
      . exact hi
      . rw[yb (by simpa using hi)] at h2
        rw[ju] at h2;split at h2 <;> cases h2
    have ha:vs[i]?=some v:=by
      unfold YO at h2;rw[qV (by simpa using hi),qY] at h2;cases e:vs[i]? with
      | none=>rw[e] at h2;cases h2
      | some a=>rw[e] at h2;cases h2;rfl
    obtain⟨u,hu,rv⟩:=r.get ha;have hp:ps[i]?=some y:=by rw[<- S.pre,List.getElem?_take_of_lt 'o'];exact h1
    have ndP:ps.Nodup:=by rw[<- S.pre];exact S.nd.sublist (List.take_sublist _ _)
    refine⟨u,rv,?_⟩;rcases S.par y (List.mem_of_getElem? hp) with k | k
    . exact .inl ⟨k,qcV ndP hp hu k⟩
    . obtain⟨c,e⟩:=qeE (n:=s.heap.objs.size+1) k
      refine .inr ⟨.inl k,c,e,?_⟩;have q:=x.cell y c e;rw[qcX ndP hp hu (by show scope.names.lookup y≠_;rw[k];decide)] at q;exact q
  . exact e0.hok.fresh (yT (x.above y c (PySem.mem_of_lookup h)))
  . unfold YO
    show _=N.length;rw[qr,qc,List.length_replicate];omega
theorem qme {CX:CXT}{k:Nat}{dV kV doc Oy:Value}
    {osl:Array (Option Value)}{sp:Sp}(lk:K.lookup f=some ⟨oc,od,.func (W.fnOf name qual params body scope dV kV doc pm an Oy ct),osl⟩) (hcd:W.codeIn K Oy qual=true) (S:FnScope N ps scope)
    (len:∀ vs H Q E,sp vs H Q E->vs.length=ps.length)
    (hbody:∀ (A:Around) (outer:List Env) (s:Shared) (H:Hp) (vs:List V) (Q:VK) (E:XK),Room k (A.deeper (envOfC qual scope s.heap.objs.size f Oy))->sp vs H Q E →
      ∃ t,PSs (ZT CX P w K mg base N qual scope f Oy A outer s H E) body t/\t { nx:=fun _ H'=>Q .non H',rt:=Q } (YO N vs) H) :
    FnOk P w K mg base CX (k+1) f (W.fnOf name qual params body scope dV kV doc pm an Oy ct) ps sp:=by
  refine⟨len,fun A outer s H args us vs Q E hr e0 hb r hsp=>?_⟩;have hl:=len _ _ _ _ hsp;have KX:K.In s.heap:=e0.mod.kin.keeps fun b o e=>(e0.bs b o e).1;have lim:s.heap.NoLimit:=e0.mod.nolimit.keeps fun b o e=>(e0.bs b o e).1;have hkind:∀ y∈ps.zip us,scope.names.lookup y.1=some .local\/(scope.names.lookup y.1=some .cell/\((cellsFrom (s.heap.objs.size+1) scope.names []).lookup y.1).isSome=true):=fun ⟨n,v⟩ hy=>by
    rcases S.par n (List.of_mem_zip hy).1 with q | q
    . exact .inl q
    . exact .inr ⟨q,W.cellsFrom_some _ _ _ (.inl q)⟩
  refine codeAny_call_function hr.depth (KX _ _ lk) rfl S.co S.gen rfl (W.codeRec_of KX hcd) (hb _ _ _ _ ?_);refine wpAny_newFunctionEnv_cells S.kind hkind fun env he s1 x=>?_;subst he;refine⟨lim.keeps x.toInCall.keep,codeAny_func ?_⟩;obtain⟨t,ht,hq⟩:=hbody A outer s H vs Q E (hr.deeper _) hsp;have I:Inv (ZT CX P w K mg base N qual scope f Oy A outer s H E) [] (YO N vs) H s1:=qha S hr.hd e0 hl r x;refine qN (ht [] s1 (YO N vs) H _ I hq) (fun fl s' hs=>?_) fun e s' hs=>hs;have fin:∀ {G':St}{H':Hp}{v:V}{u:Value},Inv (ZT CX P w K mg base N qual scope f Oy A outer s H E) [] G' H' s'->jr v u->Q v H'->CE outer P w H s Q u s' :=
    fun {G' H' v u} J rv q=>⟨v,H',J.os,J.bare,J.base,J.hok,rv,q⟩
  cases fl with
  | ret u =>
    obtain⟨v,G',H',J,rv,q⟩:=hs;exact fin J rv q
  | next =>
    obtain⟨G',H',J,q⟩:=hs;exact fin (v:=V.non) (u:=Value.none) J rfl q
  | brk =>
    obtain⟨_,_,_,q⟩:=hs;exact False.elim q
  | cont =>
    obtain⟨_,_,_,q⟩:=hs;exact False.elim q
end L2
variable {CX:L2.CXT}{sp sp':L2.Sp}
namespace L2
section
variable {e:Expr}{t:TA}{id:String}{r:List V->Hp->VK->Prop}
def tCB (r:List V->Hp->VK->Prop) (t:TA):TE:=fun G H Q=>t G H fun vs H1=>r vs H1 Q
theorem qei (hc:je X (.builtin id) r) (hg:Gl X x) (hm:X.mg x=none) (hv:bootBuiltins x=some (.builtin id)) (ha:PA X (e::es) t) (hn:x ≠ "__name__" := by decide) (hdb:(x == ("__debug__" : Str))=false:=by decide)
    (he:starEach (e::es) X.env=(false,eval e X.env)::starEach es X.env:=by rfl) (hpl:(backTo pos (starEach es X.env)).any (·.1)=false:=by rfl):PE X (.Call (.Name x p) (e::es) [] pos) (tCB r t):=by
  intro Oa s G H Q I h;refine jL (qav I hg hm hv ?_ hn hdb);exact PyProof.Rows.callWith_builtin1 (thn (ha pos Oa s G H _ I h) fun us s1 ⟨vs,H1,I1,r1,q1⟩=>hc Oa s1 G H1 vs us Q I1 r1 q1) he hpl
theorem qgp (hc:je X (.type T) r) (hg:Gl X x) (hm:X.mg x=none) (hv:bootBuiltins x=some (.type T)) (ha:PA X (e::es) t) (hn:x ≠ "__name__" := by decide) (hdb:(x == ("__debug__" : Str))=false:=by decide)
    (he:starEach (e::es) X.env=(false,eval e X.env)::starEach es X.env:=by rfl) (hpl:(backTo pos (starEach es X.env)).any (·.1)=false:=by rfl):PE X (.Call (.Name x p) (e::es) [] pos) (tCB r t):=by
  intro Oa s G H Q I h;refine jL (qav I hg hm hv ?_ hn hdb);exact PyProof.Rows.callWith_type1 (thn (ha pos Oa s G H _ I h) fun us s1 ⟨vs,H1,I1,r1,q1⟩=>hc Oa s1 G H1 vs us Q I1 r1 q1) he hpl
end
end L2
namespace HT
open PySem PyProof.Rows
section
open PySem.SeqAt
open PySem.AutoSeq1 (wpAny_loadPart')
open PySem.MeetsSeq PySem.MeetsSeq2 PySem.MeetsSeq3
end
def sIx (n d:Nat):Option Int->Nat
  | none=>d
  | some v=>if v<0 then (v+(n:Int)).toNat else min v.toNat n
end HT
namespace L2
abbrev TO:=St->Hp->(Option Int->Hp->Prop)->Prop
def PO (X:Cx) (e:Option Expr) (t:TO):Prop :=
  ∀ Oa s G H (Q:Option Int->Hp->Prop),Inv X Oa G H s->t G H Q →
    wpAny 'M' X.A (evalPart e X.env) (fun u s'=>∃ o H',Inv X Oa G H' s'/\IsPart u o/\Q o H') X.xe s
def qk1:TO:=fun _ H Q=>Q none H
def tPart (t:TE):TO:=fun G H Q=>t G H fun x H1=>∃ i,x = .int i/\Q (some i) H1
theorem qfc : ∀ {us:List Value},yM (ns.map V.int) us->IntsAre us ns:=by
  induction ns with
  | nil=>intro us r;rw[List.map_nil] at r;cases r;exact .nil
  | cons n ns ih =>
    intro us r;rw[qP] at r;cases r with
    | cons r1 r2 =>
      obtain⟨t,e⟩:=r1;subst e;exact .cons n t (ih r2)
section
variable {e:Expr}{te:TE}{lo hi:Option Expr}{tl th:TO}{p2:Pos}
theorem qlj:PO X none qk1:=by
  intro Oa s G H Q I h;rw[evalPart_none];exact qf ⟨none,H,I,.none,h⟩
theorem qli (h:PE X e te):PO X (some e) (tPart te):=by
  intro Oa s G H Q I hw;rw[evalPart_some];refine thn (h Oa s G H _ I hw) fun u s1 Oc=>?_;obtain⟨x,H1,I1,r1,q1⟩:=Oc;obtain⟨i,rfl,q⟩:=q1;obtain⟨t,rfl⟩:=r1;exact⟨some i,H1,I1,.int i t,q⟩
def SlR (X:Cx) (r:V->Option Int->Option Int->Hp->VK->Prop):Prop :=
  ∀ Oa s G H (x:V) (v vl vu:Value) (lo hi:Option Int) (sl:Addr) (Q:VK),Inv X Oa G H s->jr x v->s.heap.IsSliceOf sl vl vu .none->IsPart vl lo->IsPart vu hi->r x lo hi H Q →
    ∃ T id,typeLookup (.type T) "__getitem__" = pure (some (.builtin id))/\s.TypeIs v T/\wpAny 'M' X.A (getItem v (.ref sl)) (EP X Oa G Q) X.xe s
def tSl (r:V->Option Int->Option Int->Hp->VK->Prop) (te:TE) (tl th:TO):TE:=fun G H Q=>te G H fun x H1=>tl G H1 fun l H2=>th G H2 fun u H3=>r x l u H3 Q
theorem qiG {r:V->Option Int->Option Int->Hp->VK->Prop}(hr:SlR X r) (he:PE X e te) (hl:PO X lo tl) (hu:PO X hi th):PE X (.Subscript e (.Slice lo hi none p2) pos) (tSl r te tl th):=by
  intro Oa s G H Q I h;refine Subscript_ (thn (he Oa s G H _ I h) fun v s1 ⟨x,H1,I1,r1,q1⟩=>?_);refine wpAny_Slice (thn (hl Oa s1 G H1 _ I1 q1) fun vl s2 ⟨l,H2,I2,pl,q2⟩=>thn (hu Oa s2 G H2 _ I2 q2) fun vu s3 ⟨u,H3,I3,pu,q3⟩=>?_);rw[evalPart_none];refine qf ?_;have I4:Inv X Oa G H3 { s3 with heap:=s3.heap.push { cls:=.type "slice",data:=.fields #[vl,vu,.none] } }:=I3.kept (t':=s3.toks) fun b ob q=>qd _ q;obtain⟨T,id,hT,ht,hg⟩:=hr Oa { s3 with heap:=s3.heap.push { cls:=.type "slice",data:=.fields #[vl,vu,.none] } } G H3 x v vl vu l u s3.heap.objs.size Q I4 r1 (Heap.IsSliceOf.new ..) pl pu q3;show wpAny 'M' X.A (subscriptTail e (.Slice lo hi none p2) v (.ref s3.heap.objs.size)) (EP X Oa G Q) X.xe { s3 with heap:=s3.heap.push { cls:=.type "slice",data:=.fields #[vl,vu,.none] } };exact tail_any (ops:=[.ref s3.heap.objs.size,v]) ht hT hg (by with_unfolding_all rfl)
def qmC (xs:List V) (lo hi:Option Int):List V:=(xs.drop (HT.sIx xs.length 0 lo)).take (HT.sIx xs.length xs.length hi - HT.sIx xs.length 0 lo)
theorem qdJ (xs:List V) (lo hi:Option Int):(qmC xs lo hi).length<=xs.length:=by
  unfold qmC;rw[jI,List.length_drop];omega
end
end L2
namespace L2
def ixN (n:Nat) (i:Int):Option Nat:=if 0<=i then (if i<n then some i.toNat else none) else if -(n:Int)<=i then some (i+n).toNat else none
def atI (xs:List α) (i:Int):Option α:=(ixN xs.length i).bind fun j=>xs[j]?
theorem qg8 {i:Int}(h:ixN n i=some j):seqIndex? i n=some j/\j<n/\-(n:Int)<=i/\i<n:=by
  unfold ixN at h;by_cases h0:0<=i
  . rw[if_pos h0] at h
    by_cases h1:i<n
    . rw[if_pos h1] at h
      have e:i.toNat=j:=Option.some.inj h;exact⟨by rw[seqIndex_of h0 h1,e],'o','o',h1⟩
    . rw[if_neg h1] at h;cases h
  . rw[if_neg h0] at h
    by_cases h1:-(n:Int)<=i
    . rw[if_pos h1] at h
      have e:(i+n).toNat=j:=Option.some.inj h;exact⟨by rw[seqIndex_neg 'o' h1,e],'o',h1,'o'⟩
    . rw[if_neg h1] at h;cases h
theorem qhT {xs:List α}{i:Int}{v:α}(h:atI xs i=some v):∃ j,seqIndex? i xs.length=some j/\xs[j]?=some v/\j<xs.length/\-(xs.length:Int)<=i/\i<xs.length:=by
  unfold atI at h;cases e:ixN xs.length i with
  | none=>rw[e] at h;cases h
  | some j =>
    rw[e] at h;obtain⟨h1,h2,h3,h4⟩:=qg8 e;exact⟨j,h1,h,h2,h3,h4⟩
theorem yf {xs:List α}{v:α}(h:xs[j]?=some v):atI xs (j:Int)=some v:=by
  have hj:j<xs.length:=(qC.mp h).1;have e:ixN xs.length (j:Int)=some j:=by
    unfold ixN;rw[if_pos 'o',if_pos 'o'];simp
  unfold atI;rw[e];exact h
def qhY (b:Expr):Prop:=∀ o i,subscripted b false o i=operate [o,i] (getItem o i)
def IxR (X:Cx) (r:R2):Prop :=
  ∀ (value slice:Expr) Oa s G H (x y:V) (v u:Value) (Q:VK),Inv X Oa G H s->jr x v->jr y u->r x y H Q →
    subscripted slice false v u=operate [v,u] (getItem v u)->wpAny 'M' X.A (subscriptTail value slice v u) (EP X Oa G Q) X.xe s
def MtR (X:Cx) (id:String) (r:V->List V->Hp->VK->Prop):Prop :=
  ∀ Oa s G H (x:V) (xs:List V) (v:Value) (us:List Value) (Q:VK),Inv X Oa G H s->jr x v->yM xs us->r x xs H Q →
    wpAny 'M' X.A (call (.builtin id) (v::us)) (EP X Oa G Q) X.xe s
section
variable {a b:Expr}{ta tb:TE}
theorem IxR.or {r:R2}(h:IxR X r) (h':IxR X r'):IxR X (fun x y H Q=>r x y H Q\/r' x y H Q):=by
  intro value slice Oa s G H x y v u Q I rx ry q hs;rcases q with q | q
  . exact h value slice Oa s G H x y v u Q I rx ry q hs
  . exact h' value slice Oa s G H x y v u Q I rx ry q hs
theorem qeV {r:R2}(hr:IxR X r) (ha:PE X a ta) (hb:PE X b tb) (hs:qhY b):PE X (.Subscript a b pos) (tOp r ta tb):=by
  intro Oa s G H Q I h;exact Subscript_ (binT ha hb I h fun v u s2 x y H2 I2 rx ry q=>hr a b Oa s2 G H2 x y v u Q I2 rx ry q (hs _ _))
def rIxL (K:W.Frag):R2:=fun x y H Q=>∃ p xs i v,x = .ref p/\y = .int i/\SqL K H p xs/\atI xs i=some v/\Q v H
def rIxT (K:W.Frag):R2:=fun x y H Q=>∃ p xs i v,x = .ref p/\y = .int i/\SqT K H p xs/\atI xs i=some v/\Q v H
theorem Zz:IxR X (rIxL X.K):=by
  intro value slice Oa s G H x y v u Q I rx ry h hs;obtain⟨p,xs,i,z,rfl,rfl,hq,he,q⟩:=h;cases rx
  obtain⟨t,rfl⟩:=ry;obtain⟨its,r,pl,hz⟩:=I.list hq;obtain⟨j,h1,h2,h3,h4,h5⟩:=qhT he;obtain⟨w,ew,rw'⟩:=r.get h2;have hl:=r.length;have hn:=qcw;have fin:EP X Oa G Q w s:=⟨z,H,I,rw',q⟩;by_cases h0:0<=i
  . have hj:i.toNat=j:=by
      rw[seqIndex_of h0 h5] at h1;exact Option.some.inj h1
    exact item_listR pl.isList h0 'o' (by rw[hj];simpa using ew) fin hs
  . have hj:(i+(its.toArray.size:Int)).toNat=j:=by
      rw[seqIndex_neg 'o' h4] at h1;rw[qB,<- hl];exact Option.some.inj h1
    exact subscriptTail_builtinR (x:=w) pl.isList.typeIs slot_list_getitem.lookup
      (wpAny_getItem_list_neg (Q:=fun r s'=>r=w/\EP X Oa G Q r s') pl.isList 'o' (by rw[qB] <;> omega) 'o' (by rw[hj];simpa using ew) ⟨rfl,fin⟩) hs
theorem qoG:IxR X (rIxT X.K):=by
  intro value slice Oa s G H x y v u Q I rx ry h hs;obtain⟨p,xs,i,z,rfl,rfl,hq,he,q⟩:=h;cases rx
  obtain⟨t,rfl⟩:=ry;obtain⟨its,r,pl,hz⟩:=I.tuple hq;obtain⟨j,h1,h2,h3,h4,h5⟩:=qhT he;obtain⟨w,ew,rw'⟩:=r.get h2;have hl:=r.length;have hn:=qcw;have fin:EP X Oa G Q w s:=⟨z,H,I,rw',q⟩;exact subscriptTail_builtinR (x:=w) pl.typeIs slot_tuple_getitem.lookup
    (getItem_tuple (j:=j) (Q:=fun r s'=>r=w/\EP X Oa G Q r s') pl 'o' 'o' (by rw[qB,<- hl];exact h1) (by simpa using ew) ⟨rfl,fin⟩) hs
theorem qe7 (its:List Value) (n j:Nat) (u:Value):Obj.mapSeq (·.setIfInBounds j u) { cls:=.type "list",data:=.seq its.toArray n }={ cls:=.type "list",data:=.seq (its.set j u).toArray n }:=by simp[Obj.mapSeq]
theorem Inv.lst {Oa:List (Addr×Obj)}{G:St}{H:Hp}{s:Shared}{p:Addr}{xs:List V}(I:Inv X Oa G H s) (h:H p=some (.lst xs)) :
    ∃ (its:List Value) (n:Nat),yM xs its/\s.heap.get? p=some { cls:=.type "list",data:=.seq its.toArray n }/\xs.length<=sizeLine:=by
  obtain⟨z,its,n,r,e⟩:=I.hok p _ h;exact⟨its,n,r,e,z⟩
theorem Inv.lstUpd {p:Addr}{xs:List V}{its':List Value}{n':Nat}{f:Obj->Obj}(I:Inv X Oa G H s) (h:H p=some (.lst xs))
    (ho:s.heap.get? p=some { cls:=.type "list",data:=.seq its.toArray n }) (hf:f { cls:=.type "list",data:=.seq its.toArray n }={ cls:=.type "list",data:=.seq its'.toArray n' }) (r:yM ys its') (hz:ys.length<=sizeLine) (t:Nat) :
    Inv X Oa G (upd H p (.lst ys)) { s with heap:=s.heap.update p f,toks:=t }:=by
  have e:(s.heap.update p f).get? p=some { cls:=.type "list",data:=.seq its'.toArray n' }:=by rw[jh f ho (by rw[hf] <;> rfl),hf]
  refine I.write (x:=p) (e:=p) (by rw[h];trivial) (.inl rfl) (fun b u hb q=>(yt _ _ (Ne.symm hb)).trans q) ⟨_,e⟩ ?_;exact⟨hz,its',n',r,e⟩
def rSetL:V->V->V->Hp->(Hp->Prop)->Prop:=fun o i v H Q=>∃ p xs k j,o = .ref p/\i = .int k/\H p=some (.lst xs)/\ixN xs.length k=some j/\Q (upd H p (.lst (xs.set j v)))
theorem qbn:PSet X rSetL:=by
  intro Oa s G H o i v ov iv u Q I ro ri rv h;obtain⟨p,xs,k,j,rfl,rfl,hp,hj,q⟩:=h;cases ro
  obtain⟨t,rfl⟩:=ri;obtain⟨its,n,r,ho,hz⟩:=I.lst hp;obtain⟨h1,h2,h3,h4⟩:=qg8 hj;have hl:=r.length;have hn:=qcw;have I':Inv X Oa G (upd H p (.lst (xs.set j v))) { s with heap:=s.heap.update p (Obj.mapSeq (·.setIfInBounds j u)) } :=
    I.lstUpd hp ho (qe7 its n j u) (r.set rv j) (by rw[List.length_set];exact hz) s.toks
  by_cases h0:0<=k
  . have hk:k.toNat=j:=by
      rw[seqIndex_of h0 h4] at h1;exact Option.some.inj h1
    exact W.ki_setAt ho h0 'o' (by rw[qB,<- hl];exact h4) (by rw[hk];exact⟨_,I',q⟩)
  . have hk:(k+(its.toArray.size:Int)).toNat=j:=by
      rw[seqIndex_neg 'o' h3] at h1;rw[qB,<- hl];exact Option.some.inj h1
    exact W.ki_setBack ho 'o' (by rw[qB,<- hl];exact h3) 'o' (by rw[hk];exact⟨_,I',q⟩)
theorem qca (lo hi:Option Int) (n:Nat):(sliceBounds lo hi none n).1=((HT.sIx n 0 lo:Nat):Int)/\(sliceBounds lo hi none n).2.1=((HT.sIx n n hi:Nat):Int)/\(sliceBounds lo hi none n).2.2=1:=by
  refine⟨?_,?_,rfl⟩
  . cases lo with
    | none=>simp[sliceBounds,HT.sIx]
    | some i =>
      simp only[sliceBounds,HT.sIx,Option.getD_none,show (1:Int) > 0 by decide,if_true];by_cases h:i<0
      . simp only[h,if_true] <;> omega
      . simp only[h,if_false] <;> omega
  . cases hi with
    | none=>simp[sliceBounds,HT.sIx]
    | some i =>
      simp only[sliceBounds,HT.sIx,Option.getD_none,show (1:Int) > 0 by decide,if_true];by_cases h:i<0
      . simp only[h,if_true] <;> omega
      . simp only[h,if_false] <;> omega
theorem qbl (its:List Value) (lo hi:Option Int):slicePick its.toArray lo hi none=((its.drop (HT.sIx its.length 0 lo)).take (HT.sIx its.length its.length hi - HT.sIx its.length 0 lo)).toArray:=by
  obtain⟨h1,h2,h3⟩:=qca lo hi its.toArray.size;unfold slicePick;rw[h1,h2,h3];simp only[sliceRange_one,pick_run,qB] <;> rfl
def rSlL (K:W.Frag):V->Option Int->Option Int->Hp->VK->Prop:=fun x lo hi H Q=>∃ a xs,x = .ref a/\SqL K H a xs/\∀ p,H p=none->Q (.ref p) (upd H p (.lst (qmC xs lo hi)))
theorem qk3:SlR X (rSlL X.K):=by
  intro Oa s G H x v vl vu lo hi sl Q I rx hs pl pu h;obtain⟨a,xs,rfl,hx,q⟩:=h;cases rx
  obtain⟨its,r,ht,hz⟩:=I.list hx;have hlen:=r.length;refine⟨"list",_,slot_list_getitem.lookup,ht.isList.typeIs,?_⟩;refine wpAny_getItem_list_slice ht.isList hs pl pu .none 's' ?_ (by rw[qB] <;> omega);rw[qbl,<- hlen];refine⟨.ref s.heap.objs.size,_,I.laid (t':=s.toks) (o:=.lst (qmC xs lo hi)) (fun b ob q=>qd _ q) (qk _) ?_,rfl,q _ (I.hok.fresh (qk _))⟩;exact⟨qz (qdJ xs lo hi) hz,_,0,(r.drop (HT.sIx xs.length 0 lo)).take (HT.sIx xs.length xs.length hi - HT.sIx xs.length 0 lo),qD _ rfl⟩
theorem qcR:je X (.builtin "len") (fun xs H Q=>∃ p ys,xs=[.ref p]/\(SqL X.K H p ys\/SqT X.K H p ys)/\Q (.int ys.length) H):=by
  intro Oa s G H xs us Q I r h;obtain⟨p,ys,rfl,hq,q⟩:=h;obtain⟨u,rfl,rx⟩:=Yh r;cases rx
  have hn:=qcw;rcases hq with hq | hq
  . obtain⟨its,r',pl,hz⟩:=I.list hq
    have hlen:=r'.length;exact Calls.call_len_list pl.isList (by simp only[qB] <;> omega) ⟨.int ys.length,H,I.tok _,⟨s.toks+1,by rw[qB,hlen]⟩,q⟩
  . obtain⟨its,r',pl,hz⟩:=I.tuple hq
    have hlen:=r'.length;exact len_tuple pl (by simp only[qB] <;> omega) ⟨.int ys.length,H,I.tok _,⟨s.toks+1,by rw[qB,hlen]⟩,q⟩
theorem qcQ:je X (.builtin "len") (fun xs H Q=>∃ z,xs=[.str z]/\z.length<=sizeLine/\Q (.int z.length) H):=by
  intro Oa s G H xs us Q I r h;obtain⟨z,rfl,hz,q⟩:=h;obtain⟨u,rfl,t,rfl⟩:=Yh r;have hn:=qcw;exact len_str 'o' ⟨.int z.length,H,I.tok _,⟨_,rfl⟩,q⟩
theorem qcP:je X (.type "list") (fun xs H Q=>∃ p ys,xs=[.ref p]/\(SqL X.K H p ys\/SqT X.K H p ys)/\∀ l,H l=none->Q (.ref l) (upd H l (.lst ys))):=by
  intro Oa s G H xs us Q I r h;obtain⟨p,ys,rfl,hq,q⟩:=h;obtain⟨u,rfl,rx⟩:=Yh r;cases rx
  have fin:∀ (its:List Value),yM ys its->ys.length<=sizeLine->∀ (h':Heap) (c':Nat),(∀ b o',s.heap.get? b=some o'->h'.get? b=some o') →
      h'.get? s.heap.objs.size=some { cls:=.type "list",dict:=none,data:=.seq its.toArray c',slots:=#[] }->EP X Oa G Q (.ref s.heap.objs.size) { s with heap:=h' }:=fun its r' hz h' c' kp e =>
    ⟨.ref s.heap.objs.size,_,I.laid (t':=s.toks) kp (qk _) (show jB X.prog X.w _ h' _ (.lst ys) from ⟨hz,its,c',r',e⟩),rfl,q _ (I.hok.fresh (qk _))⟩
  rcases hq with hq | hq
  . obtain⟨its,r',pl,hz⟩:=I.list hq
    have hlen:=r'.length;obtain⟨o,ho,hc,n,hd⟩:=pl.isList;exact call_list_seq p (.inl rfl) ho hc hd (fun h' c' kp e=>fin its r' hz h' c' kp e) (by simp only[qB] <;> omega)
  . obtain⟨its,r',pl,hz⟩:=I.tuple hq
    have hlen:=r'.length;obtain⟨o,ho,hc,n,hd⟩:=pl;exact call_list_seq p (.inr rfl) ho hc hd (fun h' c' kp e=>fin its r' hz h' c' kp e) (by simp only[qB] <;> omega)
theorem qbQ:je X (.type "tuple") (fun xs H Q=>∃ p ys,xs=[.ref p]/\((SqL X.K H p ys/\∀ l,H l=none->Q (.ref l) (upd H l (.tup ys)))\/(SqT X.K H p ys/\Q (.ref p) H))):=by
  intro Oa s G H xs us Q I r h;obtain⟨p,ys,rfl,h⟩:=h;obtain⟨u,rfl,rx⟩:=Yh r;cases rx
  rcases h with⟨hq,q⟩ | ⟨hq,q⟩
  . obtain⟨its,r',pl,hz⟩:=I.list hq
    have hlen:=r'.length;refine call_tuple_list pl.isList (fun h' kp=>?_) (by simp only[qB] <;> omega);have I1:Inv X Oa G H { s with heap:=h' }:=I.kept (t':=s.toks) kp;have I2:Inv X Oa G (upd H h'.objs.size (.tup ys)) { s with heap:=h'.push { cls:=.type "tuple",data:=.seq its.toArray } } :=
      I1.laid (t':=s.toks) (fun b o e=>qd _ e) (qk _) (show jB X.prog X.w _ _ _ (.tup ys) from ⟨hz,its,r',IsTup.new _ _⟩)
    exact⟨.ref h'.objs.size,_,I2,rfl,q _ (I1.hok.fresh (qk _))⟩
  . obtain⟨its,r',pl,hz⟩:=I.tuple hq
    exact call_tuple_same pl ⟨.ref p,H,I,rfl,q⟩
def tyV (K:W.Frag) (T:String) (x:V) (H:Hp):Prop:=match x with
  | .str _=>T = "str"
  | .int _=>T = "int"
  | .ref p=>(T = "list" /\ ∃ xs,SqL K H p xs)\/(T = "tuple" /\ ∃ o,K.lookup p=some o/\o.cls = .type "tuple" /\ o.dict=none) ∨
      (T = "dict" /\ ((∃ kvs,H p=some (.dK kvs))\/∃ kvs,H p=some (.dT kvs)))\/(T = "set" /\ ∃ S n,H p=some (.set S n))
  | _=>False
theorem qna {x:V}{v:Value}(I:Inv X Oa G H s) (r:jr x v) (ty:tyV X.K T x H) :
    s.TypeIs v T/\∀ a,v = .ref a->∃ ob,s.heap.get? a=some ob/\ob.dict=none:=by
  cases x with
  | str z =>
    obtain⟨t,rfl⟩:=r;cases (show T = "str" from ty)
    exact⟨typeIs_str s z t,fun _ e=>nomatch e⟩
  | int i =>
    obtain⟨t,rfl⟩:=r;cases (show T = "int" from ty)
    exact⟨typeIs_int s i t,fun _ e=>nomatch e⟩
  | ref p =>
    cases r
    rcases ty with⟨rfl,xs,hq⟩ | ⟨rfl,o,hk,hc,hd⟩ | ⟨rfl,hk⟩ | ⟨rfl,S,n,hk⟩
    . obtain⟨its,_,pl,_⟩:=I.list hq
      refine⟨pl.isList.typeIs,fun a e=>?_⟩;cases e
      obtain⟨o,n,e,c,hd,_⟩:=pl;exact⟨o,e,hd⟩
    . refine⟨⟨o,I.kIn p o hk,hc⟩,fun a e=>?_⟩
      cases e
      exact⟨o,I.kIn _ o hk,hd⟩
    . have z:∃ o,s.heap.get? p=some o/\o.ExactDict:=by
        rcases hk with⟨kvs,hk⟩ | ⟨kvs,hk⟩
        . obtain⟨_,_,_,_,o,_,_,e,ex,_⟩:=I.hok p _ hk
          exact⟨o,e,ex⟩
        . obtain⟨_,_,_,_,o,_,_,e,ex,_⟩:=I.hok p _ hk
          exact⟨o,e,ex⟩
      obtain⟨o,e,ex⟩:=z;refine⟨⟨o,e,ex.1⟩,fun a e2=>?_⟩;cases e2
      exact⟨o,e,ex.2.1⟩
    . obtain⟨o,_,_,_,e,ex,_⟩:=I.hok p _ hk
      refine⟨⟨o,e,ex.1⟩,fun a e2=>?_⟩;cases e2
      exact⟨o,e,ex.2.1⟩
  | _=>exact False.elim ty
def tBM (K:W.Frag) (T:String) (r:V->List V->Hp->VK->Prop) (to:TE) (t:TA):TE:=fun G H Q=>to G H fun x H1=>tyV K T x H1/\t G H1 fun xs H2=>r x xs H2 Q
variable {e:Expr}{to:TE}{t:TA}{cpos:Pos}{id:String}{r:V->List V->Hp->VK->Prop}
theorem qam (pa:PlainAttrs T) (slot:Slot T name id) (hty:typeOf (.builtin id)=pure (.type "method_descriptor")) (hm:MtR X id r) (ho:PE X o to) (ha:PA X (e::es) t)
    (hbase:attributeBase o name X.env (eval o X.env)=eval o X.env:=by rfl)
    (hfew:((backTo cpos (starEach (e::es) X.env)).all (fun x=>!x.1) && (backToKw cpos (keywordEach [] X.env)).all (fun x=>x.1.isSome)
      && decide ((e::es).length+([]:List Keyword).length+(if ([]:List Keyword).isEmpty then 0 else 1)<30))=true:=by rfl)
    (hline:(apos.endLine == cpos.line)=true:=by rfl) (hs:starEach (e::es) X.env=(false,eval e X.env)::starEach es X.env:=by rfl) (hplain:(backTo cpos (starEach es X.env)).any (·.1)=false:=by rfl) :
    PE X (.Call (.Attribute o name apos) (e::es) [] cpos) (tBM X.K T r to t):=by
  intro Oa s G H Q I h;refine wpAny_Call_method_late hbase hfew hline rfl (thn (ho Oa s G H _ I h) fun v s1 ⟨x,H1,I1,r1,ty,q1⟩=>?_);obtain⟨h1,h2⟩:=qna I1 r1 ty;refine⟨T,id,pa,slot,hty,h1,h2,?_⟩;have hA:=ha cpos Oa s1 G H1 _ I1 q1;rw[hs] at hA ⊢;refine Calls.callWith_builtin (by show (false || (backTo cpos (starEach es X.env)).any (·.1))=false;rw[hplain] <;> rfl) (Calls.evalArgs_plain ?_);exact thn hA fun us s2 ⟨vs,H2,I2,r2,q2⟩=>hm Oa s2 G H2 x vs v us Q I2 r1 r2 q2
end
end L2
namespace L2
def MtM (X:Cx) (id:String) (r:V->List V->Hp->VK->Prop):Prop :=
  ∀ Oa s G H (x:V) (xs:List V) (v:Value) (us:List Value) (Q:VK),Inv X Oa G H s->jr x v->yM xs us->r x xs H Q →
    wpAny 'M' X.A (call (.builtin id) (v::us)) (EP X Oa G Q) X.xe s
theorem yM.one:∀ {x:V}{us:List Value},yM [x] us->∃ u,us=[u]/\jr x u
  | _,_,.cons r .nil=>⟨_,rfl,r⟩
section
variable {l:Addr}{xs zs:List V}
theorem Inv.lset {its':List Value}{f:Array Value->Array Value}(I:Inv X Oa G H s) (hH:H l=some (.lst xs))
    (e:s.heap.get? l=some { cls:=.type "list",data:=.seq its.toArray n }) (hf:f its.toArray=its'.toArray) (hv:yM ys its') (hz:ys.length<=sizeLine) :
    Inv X Oa G (upd H l (.lst ys)) { s with heap:=s.heap.update l (Obj.mapSeq f),toks:=t' }:=by
  have q:=PySem.IsL.update e f;rw[hf] at q;refine I.write (x:=l) (e:=l) (by rw[hH];exact trivial) (.inl rfl) (fun b' u hb hu=>(yt s.heap (Obj.mapSeq f) (Ne.symm hb)).trans hu) ⟨_,q⟩ ?_;exact⟨hz,its',_,hv,q⟩
theorem Inv.lnew (I:Inv X Oa G H s) (hv:yM ys its) (hz:ys.length<=sizeLine) :
    Inv X Oa G (upd H s.heap.objs.size (.lst ys)) { s with heap:=s.heap.push { cls:=.type "list",data:=.seq its.toArray },toks:=t' } :=
  I.laid (fun _ _ q=>qd _ q) (qk _) ⟨hz,its,0,hv,qD _ rfl⟩
theorem Inv.fresh (I:Inv X Oa G H s):H s.heap.objs.size=none:=I.hok.fresh (qk _)
theorem Inv.lstM (I:Inv X Oa G H s) (hH:H l=some (.lst xs)):xs.length<=sizeLine/\∃ (its:List Value) (n:Nat),yM xs its/\xs.length=its.length/\s.heap.get? l=some { cls:=.type "list",data:=.seq its.toArray n }:=by
  obtain⟨z,its,n,r,e⟩:=I.hok l _ hH;exact⟨z,its,n,r,r.length,e⟩
end
def rAppend:V->List V->Hp->VK->Prop:=fun x vs H Q=>∃ l xs y,x = .ref l/\vs=[y]/\H l=some (.lst xs)/\xs.length<sizeLine/\Q .non (upd H l (.lst (xs++[y])))
theorem qgM:MtM X "list.append" rAppend:=by
  intro Oa s G H x vs v us Q I rx rv h;obtain⟨l,xs,y,rfl,rfl,hH,hz,q⟩:=h;cases rx
  obtain⟨u,rfl,ru⟩:=rv.one;obtain⟨z,its,n,r,hl,e⟩:=I.lstM hH;refine call_meets F.slot_list_append ⟨_,e,rfl⟩ F.entry_list_append (F.args_list_append_2 _ _) (PySem.list_append l its.toArray n u (by rw[qB];omega)) ⟨e,?_⟩;refine⟨.non,_,I.lset (its':=its++[u]) hH e 's' (r.append (.cons ru .nil)) ?_,rfl,q⟩;rw[qr,List.length_singleton];omega
end L2
namespace Att
open PySem PySem.W PySem.Calls PyProof.Rows
variable {P:Params}
theorem qaA : ∀ (ns:List Int) (vs:List Value),WellAll P h vs (ns.map WData.int)->IntsAre vs ns:=by
  intro ns;induction ns with
  | nil =>
    intro vs w;rw[List.map_nil] at w;cases w
    exact .nil
  | cons n ns ih =>
    intro vs w;rw[qP] at w;cases w with
    | cons a b =>
      cases a
      exact .cons _ _ (ih _ b)
theorem qfZ {l:OpenLaw}(hn:l.most=some n) {args:List WData}{vals:List Value}
    (hpre:l.row.toRowW.claim.pre args=true) (hwl:WellAll P h vals args) :
    ∃ a vs ns,vals=[Value.ref a]/\args=[WData.list (ns.map WData.int)]/\h.get? a=some { cls:=.type "list",data:=.seq vs.toArray }/\IntsAre vs ns/\ns.length<=n:=by
  have hsh:WShape.hasAll [] args [.list .int]=true:=(pre_splitW hpre).1;have hc:l.pre.holds [] { args:=args }=true:=(pre_splitW hpre).2;obtain⟨d,r,rfl,h1,h2⟩:=hasAllW_cons hsh;obtain rfl:=hasAllW_nil h2;obtain⟨xs,rfl,h3⟩:=hasW_list h1;obtain⟨ns,rfl⟩:=items_int h3;have hlen:ns.length<=n:=by
    unfold OpenLaw.pre at hc;have h4:(WTm.not (.lt (.lit (.int (n:Int))) (.len (.arg 0)))).holds [] { args:=[.list (ns.map .int)] }=true:=by
      have h4:=(holds_andW hc).1;rw[hn] at h4;exact h4
    have h5:=condW_of h4 (w_not (w_lt w_lit (w_len_list (w_arg rfl))));rw[qc] at h5;refine Nat.le_of_not_lt fun q=>?_;have q':(n:Int)<((ns.length:Nat):Int):=by omega
    first
      | (rw[qH q'] at h5;exact absurd h5 'd')
      | (simp at h5;omega)
  cases hwl with
  | cons w1 w2 =>
    cases w2
    cases w1 with
    | list ho hall=>exact⟨_,_,ns,rfl,rfl,ho,qaA ns _ hall,hlen⟩
theorem qgj (l:OpenLaw) (args:List WData):l.row.toRowW.claim.post args (.bool true) args=true :=
  postW_of (r:=l.row.toRowW) (X:=(true == true))
    (show WShape.has [] (.bool true) .bool=true by first | rfl | decide | simp[WShape.has,WShape.arms,WShape.armsAll])
    (show (WTm.eq .res (.lit (.bool true))).value [] { args:=args,res:=some (.bool true),after:=args }=some (.bool (true == true)) from w_eq_bool (w_res rfl) w_lit) rfl
theorem attach_call {l:OpenLaw}{q:Program}{d:DefRec}
    (hn:l.most=some n) (hdf:d.params.defaults=[])
    (call:∀ (w:World) (s₀ sa1:Shared) (mg mb:Str->Option Value) (fa:Addr) (o:Obj) (pm cd doc:Value) (a:Addr) (vs:List Value) (ns:List Int),
      Ground q loose [] XP w s₀ mg mb sa1.heap->YP w sa1.heap →
      sa1.heap.get? fa=some o->o.data = .func (docDef d.name d.params d.body d.scope pm cd doc)->sa1.heap.CodeRec cd d.name->mg d.name=some (.ref fa) →
      sa1.heap.get? a=some { cls:=.type "list",data:=.seq vs.toArray }->IntsAre vs ns->ns.length<=n->sa1.gens=#[] →
      codeAny (model l.prog w) callerA (.call (.ref fa) ⟨[.ref a],[]⟩) (fun r s'=>r = .ok (.ret (.bool true))/\OldK sa1.heap s'.heap/\s'.os=sa1.os/\AllBare s'.gens) sa1) :
    WalkO q loose XP YP l.row.toRowW d [] (fun f vs=>PySem.call f vs):=by
  intro w s₀ sa1 mg mb Ga Ya fa o pm cd doc dV kV ho hd hcd hD hmg hg args vals as hpre hlay hrd hwl hlo;obtain rfl:dV = .none:=Dflts.none hD hdf;obtain rfl:kV = .none:=Dflts.noKw hD;obtain⟨a,vs,ns,rfl,rfl,hobj,hints,hlen⟩:=qfZ hn hpre hwl;refine enter_call (codeAny_mono (call w s₀ sa1 mg mb fa o pm cd doc a vs ns Ga Ya ho (fd_plain hd) hcd hmg hobj hints hlen hg) fun r s' hq=>?_);obtain⟨rfl,h2,h3,h4⟩:=hq;exact⟨.inl ⟨.bool true,.bool true,[],rfl,fun _=>rfl,.bool true,qgj l _,fun _=>⟨List.Pairwise.nil,fun _ hm=>(nomatch hm)⟩⟩,h2,h3,h4⟩
section
variable {K:Frag}
def ledger (h:Heap) (L d:Addr):List (Addr×Obj):=(List.range h.objs.size).filterMap fun a=>if a=L\/a=d then none else (h.get? a).map fun o=>(a,o)
end
end Att
namespace L2
theorem qb4:∀ {vs:List Value}{ns:List Int},IntsAre vs ns->yM (ns.map V.int) vs
  | _,_,.nil=>.nil
  | _,_,.cons n t h=>.cons ⟨t,rfl⟩ (qb4 h)
def Only (H:Hp):Prop:=∀ b,H b=none\/∃ o xs,H b=some (.frz o (.lst xs))
end L2
namespace L2
end L2
namespace L2
variable {st:Stmt}{A B:Prop}
def JP (s:Stmt) (j:Nat):Stmt:=match s with
  | .ClassDef _ _ _ body _ _ _ _ _ _ _=>body.getD j (.Pass ⟨0,0,0,0⟩)
  | _=>.Pass ⟨0,0,0,0⟩
def jQ (s:Stmt):Arguments:=match s with
  | .FunctionDef _ a _ _ _ _ _ _ _ _=>a
  | _=>{ posonlyargs:=[],args:=[],vararg:=none,kwonlyargs:=[],kw_defaults:=[],kwarg:=none,defaults:=[] }
def yP (s:Stmt):List Stmt:=match s with
  | .FunctionDef _ _ b _ _ _ _ _ _ _=>b
  | _=>[]
def qR (s:Stmt):Scope:=match s with
  | .FunctionDef _ _ _ _ _ _ sc _ _ _=>sc
  | _=>{ kind:=.function,names:=[],isGenerator:=false,isCoroutine:=false }
abbrev E0:XK:=fun _ _ _=>False
structure Fun (K:W.Frag) (x qual:Str) (st:Stmt) (f:Addr) (fd:FuncData):Prop where
  ex:∃ (oc:Value) (od:Option Addr) (kV doc pm:Value) (an:Option Addr) (Oy ct:Value) (osl:Array (Option Value)),
    fd=W.fnOf x qual (jQ st) (yP st) (qR st) .none kV doc pm an Oy ct/\K.lookup f=some ⟨oc,od,.func fd,osl⟩/\W.codeIn K Oy qual=true
  kp:W.keepIn K (.ref f)=true
theorem Fun.binds (F:Fun K x qual st f fd)
    (h:∀ (kV doc pm:Value) (an:Option Addr) (Oy ct:Value) (us:List Value),us.length=ps.length->bindArgs (W.fnOf x qual (jQ st) (yP st) (qR st) .none kV doc pm an Oy ct) ⟨us,[]⟩=pure (ps.zip us)):YW K fd ps []:=by
  obtain⟨oc,od,kV,doc,pm,an,Oy,ct,osl,rfl,lk,hcd⟩:=F.ex;exact .all (h kV doc pm an Oy ct)
theorem qhg {osl:Array (Option Value)}{kV doc Oy:Value}(l:K.lookup f=some ⟨oc,od,.func (W.fnOf x qual (jQ st) (yP st) (qR st) .none kV doc pm an Oy ct),osl⟩)
    (c:W.codeIn K Oy qual=true) (k:W.keepIn K (.ref f)=true):Fun K x qual st f (W.fnOf x qual (jQ st) (yP st) (qR st) .none kV doc pm an Oy ct):=⟨⟨oc,od,kV,doc,pm,an,Oy,ct,osl,rfl,l,c⟩,k⟩
theorem pv (i:Nat) (hN:X.N[i]?=some x:=by rfl) (hv:Vis X.env.scope x:=by first | exact Or.inl rfl | exact Or.inr (Or.inl rfl) | exact Or.inr (Or.inr rfl)) (hd:(x == ("__debug__" : Str))=false:=by decide)
    (hcd:(x == ("__classdict__" : Str))=false:=by decide):PE X (.Name x pos) (tVar i):=qcg hN hv hd hcd
theorem Zf (h:B):if false=true then A else B:=by
  rw[if_neg Bool.false_ne_true];exact h
theorem Z1 (h:A):if true=true then A else B:=by
  rw[if_pos rfl];exact h
theorem Jg {c:Prop} [Decidable c] (h1:c->A) (h2:¬ c->B):if c then A else B:=by
  by_cases h:c
  . rw[if_pos h]
    exact h1 h
  . rw[if_neg h]
    exact h2 h
def yr (H H':Hp):Prop:=∀ b o,H b=some o->H' b=some o
theorem yr.refl (H:Hp):yr H H:=fun _ _ h=>h
theorem yr.trans (a:yr H H1) (b:yr H1 H2):yr H H2:=fun c o h=>b c o (a c o h)
theorem yr.seq {xs:List V}(e:yr H H') (h:SqL K H a xs):SqL K H' a xs:=by
  rcases h with (h | ⟨o,h⟩) | h
  . exact .inl (.inl (e _ _ h))
  . exact .inl (.inr ⟨o,e _ _ h⟩)
  . exact .inr h
end L2
set_option maxHeartbeats 4000000
namespace L2
variable {names:List (Str×NameKind)}{target:Expr}
theorem jR (h:n<=4000):n<sizeLine:=yJ h 'd'
def qW (X:Cx) (L:List Str) (scope:Scope) (cl:List (Str×Addr)) (C:Addr) (sa2:Shared) (Ha2:Hp) (fp:List Addr):Cx where
 prog:=X.prog
 w:=X.w
 K:=X.K
 mg:=X.mg
 base:=X.base
 A:=X.A
 N:=X.N++L
 s₀:=sa2
 H₀:=Ha2
 env:=compEnvC scope cl C X.env
 outer:=X.stack
 stack:=X.stack
 ex:=fp
 fn:=fun _=>false
 calm:=X.calm
 pn:=[]
 xe:=fun _ _=>False
def Jd (sc:Scope) (N L:List Str) (scope:Scope):Bool :=
 decide (scope.kind = .function) && scope.names.all (fun y=>decide (y.2≠.cell) && (decide (y.2≠.local) || (decide (scope.names.lookup y.1=some .local) && decide (y.1∉N))) &&
  (decide (y.2≠.free) || decide (sc.names.lookup y.1=some .cell) || decide (sc.names.lookup y.1=some .free))) && decide ((N++L).Nodup)
theorem jA (h:Jd sc N L scope=true):scope.kind = .function:=by
 simp only[Jd,qZ,decide_eq_true_eq] at h;exact h.1.1
theorem jk (h:Jd sc N L scope=true) {y:Str×NameKind}(hy:y∈scope.names) :
  y.2≠.cell/\(y.2 = .local->scope.names.lookup y.1=some .local/\y.1∉N)/\(y.2 = .free->sc.names.lookup y.1=some .cell\/sc.names.lookup y.1=some .free):=by
 simp only[Jd,qZ,decide_eq_true_eq,jJ,Bool.or_eq_true] at h;have q:=h.1.2 y hy;obtain⟨⟨q1,q2⟩,q3⟩:=q;refine⟨q1,fun e=>?_,fun e=>?_⟩
 .rcases q2 with q2 | q2
  .exact absurd e q2
  .exact q2
 .rcases q3 with (q3 | q3) | q3
  .exact absurd e q3
  .exact .inl q3
  .exact .inr q3
theorem Yy : ∀ (names:List (Str×NameKind)) (acc:List (Str×Addr)),(∀ y∈names,y.2 = .free->∃ c,env.cells.lookup y.1=some c) →
  (∀ x c,acc.lookup x=some c->env.cells.lookup x=some c) →
  ∃ cl,(forIn names acc (fun (x:Str×NameKind) (cs:List (Str×Addr))=>match x with
   | (name,kind)=>if (kind == NameKind.free)=true then do let a <- cellOf env name;pure (ForInStep.yield ((name,a)::cs)) else pure (ForInStep.yield cs)):Sem (List (Str×Addr)))=pure cl ∧
   (∀ x c,cl.lookup x=some c->env.cells.lookup x=some c)/\(∀ y∈names,y.2 = .free->∃ c,cl.lookup y.1=some c)/\(∀ x c,acc.lookup x=some c->∃ c',cl.lookup x=some c')
 | [],acc,_,ha=>⟨acc,rfl,ha,fun _ h=>(nomatch h),fun _ c e=>⟨c,e⟩⟩
 | (n,k)::r,acc,hf,ha=>by
  by_cases hk:k = .free
  .subst hk;obtain⟨c,hc⟩:=hf (n,.free) qj rfl;have ha':∀ x c',((n,c)::acc).lookup x=some c'->env.cells.lookup x=some c':=fun x c' e=>by
    by_cases hx:x=n
    .subst hx;simp[yk] at e;rw[<- e];exact hc
    .have:(x == n)=false:=by simpa using hx
     simp[yk,this] at e;exact ha x c' e
   obtain⟨cl,e1,e2,e3,e4⟩:=Yy r ((n,c)::acc) (fun y hy=>hf y (qe _ hy)) ha';refine⟨cl,?_,e2,fun y hy hfr=>?_,fun x c' e=>?_⟩
   .rw [List.forIn_cons];show (if (NameKind.free == NameKind.free)=true then (do let a <- cellOf env n;pure (ForInStep.yield ((n,a)::acc))) else pure (ForInStep.yield acc)) >>= _=_;rw[if_pos 'd'];unfold cellOf;rw[hc];simp only[pure_bind];exact e1
   .rcases qF.mp hy with rfl | hy
    .exact e4 n c (by simp[yk])
    .exact e3 y hy hfr
   .by_cases hx:x=n
    .subst hx;exact e4 x c (by simp[yk])
    .have:(x == n)=false:=by simpa using hx
     exact e4 x c' (by simp[yk,this];exact e)
  .obtain ⟨cl,e1,e2,e3,e4⟩:=Yy r acc (fun y hy=>hf y (qe _ hy)) ha;refine⟨cl,?_,e2,fun y hy hfr=>?_,e4⟩
   .rw [List.forIn_cons];have hb:(k == NameKind.free)=false:=by simpa using hk
    show (if (k == NameKind.free)=true then (do let a <- cellOf env n;pure (ForInStep.yield ((n,a)::acc))) else pure (ForInStep.yield acc)) >>= _=_;rw[hb,if_neg 's'];simp only[pure_bind];exact e1
   .rcases qF.mp hy with rfl | hy
    .exact absurd hfr hk
    .exact e3 y hy hfr
theorem YB (hf:∀ y∈scope.names,y.2 = .free->∃ c,env.cells.lookup y.1=some c) :
  ∃ cl,closureFor scope env=pure cl/\(∀ x c,cl.lookup x=some c->env.cells.lookup x=some c)/\(∀ y∈scope.names,y.2 = .free->∃ c,cl.lookup y.1=some c):=by
 obtain⟨cl,e1,e2,e3,_⟩:=Yy scope.names [] hf (fun x c e=>by simp at e);refine⟨cl,?_,e2,e3⟩;unfold closureFor;simp only[bind_pure_comp,map_pure] at *;first
  | exact e1
  | (rw[e1];rfl)
  | (simp only[bind_pure];exact e1)
theorem qa8 {k:NameKind}(h:names.lookup x=some k):(x,k)∈names:=PySem.mem_of_lookup h
theorem Zu : ∀ {names:List (Str×NameKind)}{x:Str}{k:NameKind},
  (names.map fun (n,k)=>if (k == NameKind.free && env.scope.kind == .function && env.kindOf n == some .cell) then (n,NameKind.cell) else (n,k)).lookup x=some k →
  ∃ k',names.lookup x=some k'/\(k=k'\/(k' = .free/\k = .cell))
 | [],_,_,h=>by simp at h
 | (n,k0)::r,x,k,h=>by
  cases hx:x == n with
  | true =>
   by_cases hc:(k0 == NameKind.free && env.scope.kind == .function && env.kindOf n == some .cell)=true
   .simp only[qP,if_pos hc,yk,hx] at h;have hk:k0 = .free:=by
     simp only[qZ,beq_iff_eq] at hc;exact hc.1.1
    exact⟨k0,by simp[yk,hx],.inr ⟨hk,(Option.some.inj h).symm⟩⟩
   .simp only[qP,if_neg hc,yk,hx] at h;exact⟨k0,by simp[yk,hx],.inl (Option.some.inj h).symm⟩
  | false =>
   have h':(r.map fun (n,k)=>if (k == NameKind.free && env.scope.kind == .function && env.kindOf n == some .cell) then (n,NameKind.cell) else (n,k)).lookup x=some k:=by
    by_cases hc:(k0 == NameKind.free && env.scope.kind == .function && env.kindOf n == some .cell)=true
    .simp only[qP,if_pos hc,yk,hx] at h;exact h
    .simp only[qP,if_neg hc,yk,hx] at h;exact h
   obtain⟨k',e,q⟩:=Zu h';exact⟨k',by simp[yk,hx];exact e,q⟩
def Ifs (X:Cx) (ifs:List Expr) (tt:TT):Prop :=
 ∀ Oa s G H (Q:Bool->Hp->Prop),Inv X Oa G H s->tt G H Q →
  wpAny 'M' X.A (forIn ifs true fun c r=>if r=true then do let ok <- isTrue c X.env (eval c X.env);pure (ForInStep.yield ok) else pure (ForInStep.yield r)) (TP X Oa G Q) X.xe s
def tYes:TT:=fun _ H Q=>Q true H
theorem ql9 : Ifs X [] tYes:=fun Oa s G H Q I h=>wpAny_tests_nil ⟨H,I,h⟩
theorem ql8 {t:TT}(h:PT X c t):Ifs X [c] t:=fun Oa s G H Q I q=>wpAny_tests_one (h Oa s G H Q I q)
def qjR (k:Nat) (g:TG) (tt:TT) (te:TE) (G:St) (Q:VK) (J:It) (H1:Hp):Prop:=∃ W:Nat->Nat->List V->St->Hp->Prop,(∃ m,W 0 m [] (G++List.replicate k none) H1)/\∀ i m ys G' H,W i m ys G' H →
 (J.stop i H/\∀ D,H D=none->Q (.ref D) (upd H D (.lst ys))) ∨
 (J.go i H/\ys.length<sizeLine/\∃ N:List V->St->Hp->Prop,(∀ ys' G' H',N ys' G' H'->∃ m',m'<m/\W (i+1) m' ys' G' H') ∧
  ∀ x H',J.yld i H x H'->g x G' H' fun G2 H2=>tt G2 H2 fun b H3=>if b=true then te G2 H3 fun y H4=>N (ys++[y]) G2 H4 else N ys G2 H3)
def qni (k:Nat) (wi:TI) (g:TG) (tt:TT) (te:TE):TE:=fun G H Q=>wi G H (qjR k g tt te G Q)
theorem YF {it:Value}(I:Nat->Shared->Prop)
  (turn:∀ n s,I n s->wpAny 'm' A (pyNext it) (fun r sa1=>match r with
   | none=>R (.ok .next) sa1
   | some v=>wpAny 'm' A (letOwnedTupleGo target it v) (fun _ s1'=>wpAny 'm' A (assign target env v) (fun _ sa2 =>
     wpAny 'm' A (forIn ifs true fun c r=>if r=true then do let ok <- isTrue c env (eval c env);pure (ForInStep.yield ok) else pure (ForInStep.yield r)) (fun ok sa3 =>
      if ok=true then wpAny 'm' A (eval elt env) (fun x sa4 =>
       wpAny 'm' A (call (.builtin "list.append") [acc,x]) (fun _ sa5=>∃ m,m<n/\I m sa5) (fun _ _=>False) sa4) (fun _ _=>False) sa3
      else ∃ m,m<n/\I m sa3) (fun _ _=>False) sa2) (fun _ _=>False) s1') (fun _ _=>False) sa1) (fun _ _=>False) s)
  (n:Nat) (h:I n s) :
  codeAny 'm' A (.compLoop (.ListComp elt [⟨target,iter,ifs,0⟩] scope pos) 0 it acc env) R s:=by
 refine codeAny_loop rfl I (fun n s hI=>?_) n h;show wpAny _ A ((compTurn (.ListComp elt [⟨target,iter,ifs,0⟩] scope pos) 0 it acc env).onRaise (fun x=>do noteFrame x env;theTreesLotGoes x)) _ _ s;refine wpAny_noted ?_;rw[compTurn_list];refine qa (jK (qa (qN (turn n s hI) (fun r sa1 hd1=>?_) fun _ _ h'=>h'.elim)));cases r with
 | none=>exact qf hd1
 | some v =>
  refine qa (qN hd1 (fun _ s1' ha1'=>?_) fun _ _ h'=>h'.elim);refine qa (qN ha1' (fun _ sa2 ha2=>qa (qN ha2 (fun ok sa3 ha3=>?_) fun _ _ h'=>h'.elim)) fun _ _ h'=>h'.elim);cases ok with
  | false=>exact qf ⟨rfl,ha3⟩
  | true =>
   exact qa (qa (qN ha3 (fun x sa4 ha4=>qa (qN ha4 (fun _ sa5 ha5=>qf (qf ⟨rfl,ha5⟩)) fun _ _ h'=>h'.elim)) fun _ _ h'=>h'.elim))
theorem qdL {cl:List (Str×Addr)}
  (I:Inv X Oa G H sa2) (hsc:X.env.scope=sc) (hN:X.N=N) (ok:Jd sc N L scope=true) (hc1:∀ x c,cl.lookup x=some c->X.env.cells.lookup x=some c)
  (hc2:∀ y∈scope.names,y.2 = .free->∃ c,cl.lookup y.1=some c) (hf:∀ b∈fp,YM X Oa H b) (hlt:∀ b∈fp,b<sa2.heap.objs.size) (hC:sa2.heap.objs.size<=C) :
  (qW X L scope cl C sa2 H fp).Ok where
 mod:=I.ok.mod
 kind:=(show scope.kind = .function from jA ok)
 glob:=I.ok.glob
 blt:=I.ok.blt
 above:=hC
 inj:=fun x y c h1 h2=>I.ok.inj x y c (hc1 x c h1) (hc1 y c h2)
 has:=fun x hx=>by
  have hx':∃ k,(relabel scope X.env).names.lookup x=some k/\(k = .cell\/k = .free):=by
   rcases hx with h | h
   .exact ⟨_,h,.inl rfl⟩
   .exact ⟨_,h,.inr rfl⟩
  obtain⟨k,e,hk⟩:=hx';obtain⟨k',e',q⟩:=Zu e;have hm:=qa8 e';have nc:=(jk ok hm).1;have hfree:k' = .free:=by
   rcases q with q | q
   .rcases hk with hk | hk
    .exact absurd (q.symm.trans hk) nc
    .exact q.symm.trans hk
   .exact q.1
  exact hc2 (x,k') hm hfree
 cab:=fun x c h _=>by cases h
 hd:=I.ok.hd
 frames:=I.ok.frames
 stk:=.inl rfl
 exf:=fun b hb=>⟨qt (qM (hlt b hb) hC),fun x c e=>(hf b hb).2.2.2.2.1 x c (hc1 x c e)⟩
 bs:=I.bs
 bsz:=qz I.ok.bsz I.sz
 noex:=fun b o e hb=>by
  rcases (hf b hb).2.2.2.1 with z | z
  .exact I.ok.noex b o e z
  .exact absurd (qM (qo (I.ok.bs b o e).1) z) (yz _)
 exfs:=fun b hb z=>by
  rcases qF.mp (I.stkSub b z) with q | q
  .exact (hf b hb).2.1 q
  .exact (hf b hb).2.2.1 q
 funs:=I.stack
 frf:=I.stkFree
theorem ZB {sa4:Shared}{cl:List (Str×Addr)}{m:Str->Option Value}
  (I:Inv X Oa G H sa2) (hsc:X.env.scope=sc) (hN:X.N=N) (ok:Jd sc N L scope=true) (hc1:∀ x c,cl.lookup x=some c->X.env.cells.lookup x=some c)
  (Ya:(qW X L scope cl C sa2 H fp).Ok) (hC:sa2.heap.objs.size<=C) (hos:sa4.os=sa2.os) (hg:AllBare sa4.gens)
  (old:∀ b o,sa2.heap.get? b=some o->sa4.heap.get? b=some o) (hns:sa4.heap.Ns C m):Inv (qW X L scope cl C sa2 H fp) [] (G++List.replicate L.length none) H sa4 where
 ok:=Ya
 os:=hos
 bare:=hg
 base:=Un.kept old
 loc:=by
  refine⟨m,hns,fun i x v e1 e2 e3=>?_⟩;have hl:G.length=X.N.length:=I.len;have hi:i<G.length:=by
   by_cases h:i<G.length
   .exact h
   .rw [yb 'l',ju] at e2;split at e2 <;> cases e2
  rw[qV hi] at e2;have e1':X.N[i]?=some x:=by
   have:(X.N++L)[i]?=some x:=e1;rwa[qV 'l'] at this
  have e3':∃ k,(relabel scope X.env).names.lookup x=some k/\(k = .local\/k = .cell\/k = .free):=by
   rcases e3 with h | h | h
   .exact ⟨_,h,.inl rfl⟩
   .exact ⟨_,h,.inr (.inl rfl)⟩
   .exact ⟨_,h,.inr (.inr rfl)⟩
  obtain⟨k,ek,hk⟩:=e3';obtain⟨k',e',q⟩:=Zu ek;have hm:=qa8 e';obtain⟨nc,nl,fr⟩:=jk ok hm;have hk':k' = .free:=by
   rcases q with q | q
   .rcases hk with hk | hk | hk
    .have hl':k' = .local:=q.symm.trans hk;exact absurd (hN ▸ List.mem_of_getElem? e1') (nl hl').2
    .exact absurd (q.symm.trans hk) nc
    .exact q.symm.trans hk
   .exact q.1
  have hX:X.env.kindOf x=some .cell\/X.env.kindOf x=some .free:=by
   have:=fr hk';rw[<- hsc] at this;exact this
  obtain⟨ma0,han0,hl0⟩:=I.loc;obtain⟨u,r,look⟩:=hl0 i x v e1' e2 (.inr hX);refine⟨u,r,.inr ⟨?_,?_⟩⟩
  .show (relabel scope X.env).names.lookup x=some .cell\/(relabel scope X.env).names.lookup x=some .free;rcases hk with hk | hk | hk
   .exfalso;rcases q with q | q
    .rw [hk] at q;rw[hk'] at q;cases q
    .rw [hk] at q;exact nomatch q.2
   .exact .inl (hk ▸ ek)
   .exact .inr (hk ▸ ek)
  .rcases look with⟨z,_⟩ | ⟨_,c,ec,hcell⟩
   .exfalso;rcases hX with h | h <;> rw[h] at z <;> cases z
   .obtain ⟨c',ec'⟩:=Ya.has x (by
     rcases hk with hk | hk | hk
     .exfalso;rcases q with q | q
      .rw [hk] at q;rw[hk'] at q;cases q
      .rw [hk] at q;exact nomatch q.2
     .exact .inl (hk ▸ ek)
     .exact .inr (hk ▸ ek))
    have hcl:cl.lookup x=some c':=ec';have:c'=c:=Option.some.inj ((hc1 x c' hcl).symm.trans ec);subst this;refine⟨c',hcl,?_⟩;obtain⟨o,ho,hd⟩:=hcell;exact⟨o,old _ _ ho,hd⟩
 cell:=fun x c e=>by
  obtain⟨v,o,ho,hd⟩:=I.cell x c (hc1 x c e);exact⟨v,o,old _ _ ho,hd⟩
 free:=I.hok.fresh hC
 freeC:=fun x c e=>I.freeC x c (hc1 x c e)
 pin:=fun p hp=>absurd (show p∈([]:List (Addr×Obj)) from hp) 's'
 hok:=I.hok.kept old
 len:=by
  show _=(X.N++L).length;have hl:G.length=X.N.length:=I.len;simp[hl]
theorem qcI {G':St}{cl:List (Str×Addr)}{pl:List (Addr×Obj)}
  (I:Inv X Oa G H sa2) (hf:∀ b∈fp,YM X Oa H b) (hD:sa2.heap.objs.size=D)
  (J:Inv (qW X L scope cl C sa2 H fp) pl G' H' s') (hpD:s'.heap.get? D=some { cls:=.type "list",data:=.seq its.toArray n }) (hHD:H' D=none) (hv:yM ys its) (hz:ys.length<=sizeLine) :
  Inv X Oa G (upd H' D (.lst ys)) s':=by
 have B:Un (frs X.stack) fp H H' sa2.heap s'.heap:=J.base;have neD:∀ b o,sa2.heap.get? b=some o->b≠D:=fun b o e=>by rw[<- hD];exact qt (qo e)
 refine I.call' (ch:=fp) J.os ⟨B.keep,B.slot,fun b o e hn hx=>?_,B.there,fun b xs e=>?_,fun b o u e=>?_,fun b ps e=>?_⟩ (fun b o e=>?_) J.bare (fun b hb=>⟨(hf b hb).2.2.2.1,(hf b hb).2.1,(hf b hb).2.2.2.2.1,(hf b hb).2.2.2.2.2⟩)
 .rw [qX (neD b o e)];exact B.free b o e hn hx
 .have:=B.tups b xs e;rw[qX (qQ this hHD)];exact this
 .have:=B.frzs b o u e;rw[qX (qQ this hHD)];exact this
 .obtain ⟨more,this⟩:=B.tbls b ps e;exact⟨more,by rw[qX (qQ this hHD)];exact this⟩
 .by_cases hb:b=D
  .subst hb;rw[yg] at e;cases e
   exact⟨hz,its,n,hv,hpD⟩
  .rw [qX hb] at e;exact (J.hok b o e).stay (fun _ _ _ q=>q) (fun c q=>by rw[qX (qQ q hHD)];exact q) fun c xs q=>by rw[qX (qQ q hHD)];exact q
theorem qfk {cl:List (Str×Addr)}
  {g:TG}{tt:TT}{te:TE}{J:It}
  (hc:X.calm=true) (hsc:X.env.scope=sc) (hN:X.N=N) (ok:Jd sc N L scope=true) (hc1:∀ x c,cl.lookup x=some c->X.env.cells.lookup x=some c)
  (hc2:∀ y∈scope.names,y.2 = .free->∃ c,cl.lookup y.1=some c)
  (hg:∀ cl C sa2 Ha2 fp,PG (qW X L scope cl C sa2 Ha2 fp) tg g) (hi:∀ cl C sa2 Ha2 fp,Ifs (qW X L scope cl C sa2 Ha2 fp) ifs tt) (he:∀ cl C sa2 Ha2 fp,PE (qW X L scope cl C sa2 Ha2 fp) elt te)
  (I:Inv X Oa G H sa2) (T:Turn X.prog X.w X.K tg J fp it tn) (st:tn 0 sa2.heap) (hf:∀ b∈fp,YM X Oa H b) (hw:qjR L.length g tt te G Q J H)
  (hR:∀ D C m H' s' ys,s'.heap.Ns C m->sa2.heap.objs.size=D->sa2.heap.objs.size<C->H' C=none->D≠C->Inv X Oa G (upd H' D (.lst ys)) s'->Q (.ref D) (upd H' D (.lst ys))->RR (.ref D) C (.ok .next) s') :
  wpAny 'M' X.A (newList []) (fun acc sa3=>wpAny 'M' X.A (newFunctionEnv scope X.env.globals cl [] X.env.qual none .none (some X.env)) (fun cenv sa4 =>
   codeAny 'M' X.A (.compStart (.ListComp elt [⟨tg,iter,ifs,0⟩] scope pos) 0 (.ref it) acc { cenv with scope:=relabel scope X.env }) (RR acc cenv.locals) sa4) E sa3) E sa2:=by
 refine jy (wpAny_newFunctionEnv (fun y hy=>(jk ok hy).1) (by intro y hy;simp at hy) (fun hd1 hns1 hsb1=>?_) (jA ok));dsimp only at hns1 hsb1 ⊢;generalize hH2:sa2.heap.push { cls:=.type "list",dict:=none,data:=.seq ([]:List Value).toArray }=H2 at hns1 hsb1 ⊢;have hC:H2.objs.size=sa2.heap.objs.size+1:=by rw[<- hH2,Heap.size_push]
 have hCle:sa2.heap.objs.size<=H2.objs.size:=by rw[hC];exact Nat.le_succ _
 have hDC:sa2.heap.objs.size≠H2.objs.size:=by rw[hC];exact qt (yZ _)
 have hlt:∀ b∈fp,b<sa2.heap.objs.size:=fun b hb=>by
  obtain⟨o,e,_⟩:=T.obj 0 _ st b hb;exact qo e
 have below:∀ b,b<sa2.heap.objs.size->b≠H2.objs.size:=fun b hb=>by rw[hC];exact qt (Nat.lt_succ_of_lt hb)
 have old:∀ b o,sa2.heap.get? b=some o->hd1.get? b=some o:=fun b o e=>hsb1.extBut b o (below b (qo e)) (qd _ (hH2 ▸ qd _ e));have hacc:hd1.get? sa2.heap.objs.size=some { cls:=.type "list",data:=.seq ([]:List Value).toArray 0 }:=hsb1.extBut _ _ hDC (qd _ (hH2 ▸ qD _ rfl));have Yok:=qdL (L:=L) (scope:=scope) (cl:=cl) (C:=H2.objs.size) (fp:=fp) I hsc hN ok hc1 hc2 hf hlt hCle;generalize hDn:sa2.heap.objs.size=D at *;generalize hCn:H2.objs.size=C at *;have sat1:tn 0 hd1:=T.keep _ _ _ st fun b _ o e=>old b o e
 have cellD:∀ x c,cl.lookup x=some c->c≠D:=fun x c e=>by
  obtain⟨v,q⟩:=I.cell x c (hc1 x c e);rw[<- hDn];exact qt q.lt
 have fpY:∀ {H':Hp}{its:List Value}{n:Nat},(∀ b∈fp,H' b=none)->∀ b∈fp,YM (qW X L scope cl C sa2 H fp) [(D,{ cls:=.type "list",data:=.seq its.toArray n })] H' b:=fun {H' its n} hn b hb=>by
  refine⟨hn b hb,(Yok.exf b hb).1,Yok.exfs b hb,.inl hb,(Yok.exf b hb).2,fun p hp=>?_⟩;have e:p=(D,{ cls:=.type "list",data:=.seq its.toArray n }):=by
   have:p∈[(D,({ cls:=.type "list",data:=.seq its.toArray n }:Obj))]:=hp;simpa using this
  subst e;exact Ne.symm (qt (hlt b hb))
 have nfsD:D∉(qW X L scope cl C sa2 H fp).fs:=fun z=>by
  obtain⟨_,o,ho,_⟩:=Yok.funs.mem z;exact absurd (show D<sa2.heap.objs.size from qo ho) (by rw[hDn];exact yz _)
 have pinD:∀ {G':St}{H':Hp}{s':Shared}{pl:List (Addr×Obj)}{its:List Value}{n:Nat},Inv (qW X L scope cl C sa2 H fp) pl G' H' s'->s'.heap.get? D=some { cls:=.type "list",data:=.seq its.toArray n }->H' D=none →
   Inv (qW X L scope cl C sa2 H fp) [(D,{ cls:=.type "list",data:=.seq its.toArray n })] G' H' s':=fun {G' H' s' pl its n} J e hn=>J.pins_of fun p hp=>by
  have e':p=(D,{ cls:=.type "list",data:=.seq its.toArray n }):=by simpa using hp
  subst e';exact⟨e,hn,hDC,nfsD,fun v z=>by cases z⟩
 have Ia1:Inv (qW X L scope cl C sa2 H fp) [] (G++List.replicate L.length none) H { sa2 with heap:=hd1,toks:=sa2.toks+([]:List (Str×Value)).length } :=
  ZB I hsc hN ok hc1 Yok (by rw[hDn];exact hCle) rfl I.bare old hns1
 have HD:H D=none:=I.hok.fresh (by rw[hDn];exact qk _);obtain⟨W,⟨m0,w0⟩,turn⟩:=hw;have loop:codeAny 'M' X.A (.compLoop (.ListComp elt [⟨tg,iter,ifs,0⟩] scope pos) 0 (.ref it) (.ref D) (compEnvC scope cl C X.env)) (RR (.ref D) C)
   { sa2 with heap:=hd1,toks:=sa2.toks+([]:List (Str×Value)).length }:=by
  refine YF (fun n s'=>∃ i ys its k G' H',Inv (qW X L scope cl C sa2 H fp) [(D,{ cls:=.type "list",data:=.seq its.toArray k })] G' H' s'/\yM ys its/\ys.length<=sizeLine/\tn i s'.heap/\(∀ b∈fp,H' b=none)/\W i n ys G' H')
   ?_ m0 ⟨0,[],[],0,_,H,pinD Ia1 hacc HD,.nil,yj _,sat1,fun b hb=>(hf b hb).1,w0⟩
  rintro n s3 ⟨i,ys,its,k,G3,H3,I3,hv3,hz3,st3,fr3,w3⟩;have hp3:=I3.pin (D,{ cls:=.type "list",data:=.seq its.toArray k }) 's';rcases turn i n ys G3 H3 w3 with⟨stop,q⟩ | ⟨go,hlen,Nx,hNx,step⟩
  .refine thn (T.done (qW X L scope cl C sa2 H fp) rfl rfl rfl hc i _ s3 G3 H3 _ I3 (fpY fr3) st3 stop) fun r s4 ⟨hr,I4⟩=>?_;subst hr;have hp4:=I4.pin (D,{ cls:=.type "list",data:=.seq its.toArray k }) 's';obtain⟨m4,hn4,_⟩:=I4.loc;exact hR D C m4 H3 s4 ys hn4 rfl (by rw[hC];exact yZ _) I4.free hDC (qcI I hf hDn I4 hp4.1 hp4.2.1 hv3 hz3) (q D hp4.2.1)
  .refine thn (T.item (qW X L scope cl C sa2 H fp) rfl rfl rfl hc i _ s3 G3 H3 _ I3 (fpY fr3) st3 go) fun r s4 ⟨u,hr,h4⟩=>?_;subst hr;refine thn h4 fun _ s5 Oc=>?_;obtain⟨x,H5,I5,r5,y5,st5,fr5⟩:=Oc;have I5':=I5.pinned (fpY fr5) (T.obj _ _ st5);refine thn (hg cl C sa2 H fp _ s5 G3 H5 x u _ I5' r5 (step x H5 y5)) fun _ s6 Oc=>?_;obtain⟨G6,H6,I6,q6⟩:=Oc;refine thn (hi cl C sa2 H fp _ s6 G6 H6 _ I6 q6) fun ok s7 Oc=>?_;obtain⟨H7,I7,q7⟩:=Oc;have later:∀ {G':St}{H':Hp}{s':Shared},Inv (qW X L scope cl C sa2 H fp) ([(D,{ cls:=.type "list",data:=.seq its.toArray k })]++JA fp s5.heap) G' H' s' →
     tn (i+1) s'.heap/\(∀ b∈fp,H' b=none)/\s'.heap.get? D=some { cls:=.type "list",data:=.seq its.toArray k }/\H' D=none:=fun {G' H' s'} J=>by
    refine⟨T.keep _ _ _ st5 fun b hb o e=>(J.pin (b,o) (qg _ (qg _ (yV hb e)))).1,fun b hb=>?_,?_⟩
    .obtain ⟨o,e,d⟩:=T.obj _ _ st5 b hb;exact (J.pin (b,o) (qg _ (qg _ (yV hb e)))).2.1
    .have z:=J.pin (D,{ cls:=.type "list",data:=.seq its.toArray k }) (qg _ (q0 _ 's'));exact⟨z.1,z.2.1⟩
   cases ok with
   | false =>
    rw[if_neg 's'] at q7 ⊢;obtain⟨m',hm',w'⟩:=hNx _ _ _ q7;obtain⟨t1,t2,t3,t4⟩:=later I7;exact⟨m',hm',i+1,ys,its,k,G6,H7,pinD I7 t3 t4,hv3,hz3,t1,t2,w'⟩
   | true =>
    rw[if_pos rfl] at q7 ⊢;refine thn (he cl C sa2 H fp _ s7 G6 H7 _ I7 q7) fun y s8 Oc=>?_;obtain⟨v,H8,I8,r8,q8⟩:=Oc;obtain⟨m',hm',w'⟩:=hNx _ _ _ q8;obtain⟨t1,t2,t3,t4⟩:=later I8;refine append_at (hsz:=by rw[qB,<- hv3.length];exact hz3) t3 fun h9 hs9 hD9=>?_;have nbD:∀ b∈fp,b≠D:=fun b hb=>qt (hlt b hb);have I9:Inv (qW X L scope cl C sa2 H fp) [] G6 H8 { s8 with heap:=h9 }:=(I8.pins_of (pins':=[]) (fun p hp=>by simp at hp)).turned (it:=D) (t':=s8.toks) (fun b o hb e=>hs9.extBut b o hb e) t4 hDC
     (.inr (by show sa2.heap.objs.size<=D;rw[hDn];exact qk _)) cellD (fun p hp=>by
      have:p∈([]:List (Addr×Obj)):=hp;simp at this)
    refine⟨m',hm',i+1,ys++[v],its++[y],k+1,G6,H8,pinD I9 (by rw[hD9];simp) t4,hv3.append (.cons r8 .nil),by simp;lia,T.keep _ _ _ t1 fun b hb o e=>hs9.extBut b o (nbD b hb) e,t2,w'⟩
 exact codeAny_compStart_list loop (T.self _ 0 _ _ _ sat1 loop)
end L2
namespace L2
theorem qls {g:TG}{tt:TT}{te:TE}
  (hc:X.calm=true) (hsc:X.env.scope=sc) (hN:X.N=N) (ok:Jd sc N L scope=true)
  (hi:PI X tg iter wi) (hg:∀ cl C sa2 Ha2 fp,PG (qW X L scope cl C sa2 Ha2 fp) tg g) (hf:∀ cl C sa2 Ha2 fp,Ifs (qW X L scope cl C sa2 Ha2 fp) ifs tt) (he:∀ cl C sa2 Ha2 fp,PE (qW X L scope cl C sa2 Ha2 fp) elt te)
  (hs:∀ x,foldedSetIterable iter X.env x=pure x:=by intro _;rfl) :
  PE X (.ListComp elt [⟨tg,iter,ifs,0⟩] scope pos) (qni L.length wi g tt te):=by
 intro Oa s G H Q I h;obtain⟨cl,hcl,hc1,hc2⟩:=YB (env:=X.env) (scope:=scope) fun y hy hfr=>by
  refine I.ok.has y.1 ?_;have z:=(jk ok hy).2.2 hfr;rw[<- hsc] at z;exact z
 rw[eval_ListComp];refine wpAny_comprehension_free (use:=none) rfl hs hcl (jA ok) (fun y hy hl=>((jk ok hy).2.1 hl).1) (thn (hi Oa s G H _ I h) fun v s1 h1=>thn h1 fun itv s2 h2=>?_);obtain⟨it,fp,tn,J,H2,e,I2,T,st2,f2,hw⟩:=h2;subst e;refine qfk (RR:=fun acc C=>compPost 'M' X.A X.xe none (EP X Oa G Q) acc C) hc hsc hN ok hc1 hc2 hg hf he I2 T st2 f2 hw ?_;intro D C m H' s' ys hns hD hC hHC hDC J' q;refine⟨m,hns,fun h'' hs''=>⟨.ref D,upd H' D (.lst ys),?_,rfl,q⟩⟩;have hsz:=I2.sz;refine J'.turned (it:=C) (t':=s'.toks) (fun b o hb e=>hs''.extBut b o hb e) (by rw[qX (Ne.symm hDC)];exact hHC) (Ne.symm (qt (jg I2.lt hC))) (.inr (qz hsz (yT hC))) (fun x c e=>?_) (fun p hp=>?_)
 .obtain ⟨v,z⟩:=I2.cell x c e;exact qt (jg z.lt hC)
 .exact qt (jg (qo (I2.pin p hp).1) hC)
end L2
namespace L2
def Big (i:Int):Prop:=i.natAbs<2 ^ 1000
theorem Big.of {i:Int}(b:Int) (hb:b<2 ^ 1000) (h1:-b<=i) (h2:i<=b):Big i:=by
 unfold Big;have:(i.natAbs:Int)<=b:=by lia
 have h3:(i.natAbs:Int)<2 ^ 1000:=Int.lt_of_le_of_lt this hb
 exact_mod_cast h3
theorem Big.bits {i:Int}(h:Big i):Builtin.Int.intBits i<=2 ^ 20:=by
 unfold Builtin.Int.intBits;by_cases h0:i.natAbs=0
 .have:i=0:=by lia
  subst this;decide
 .have:=(Nat.log2_lt h0).mpr h;split <;> lia
def qh0 (i j:Int):Prop:=Big i/\Big j
theorem qdk:OpR X (binaryOp .Mult) (rI qh0 fun i j=>.int (i * j)):=opI fun _ _ _ _ _ _ _ hc q=>mul_int q (IntMulOk.of_bits hc.1.bits hc.2.bits)
def qjM (i j:Int):Prop:=j≠0/\Big j
theorem qiN:OpR X (binaryOp .FloorDiv) (rI qjM fun i j=>.int (i.fdiv j)):=opI fun i j _ _ _ _ _ hc q=>floordiv_int hc.1 q (.inl (PyProof.noPylong_of_log2 (by
 by_cases h0:j.natAbs=0
 .rw [h0];decide
 .have:=(Nat.log2_lt h0).mpr hc.2;lia)))
mutual
inductive Is (K:W.Frag) (H:Hp):V->PyData->Prop
 | non:Is K H .non .none
 | bl (b:Bool):Is K H (.bl b) (.bool b)
 | int (i:Int):Is K H (.int i) (.int i)
 | str (x:Str):Is K H (.str x) (.str x)
 | lst {a:Addr}{xs:List V}{ds:List PyData}:SqL K H a xs->IsAll K H xs ds->Is K H (.ref a) (.list ds)
 | tup {a:Addr}{xs:List V}{ds:List PyData}:SqT K H a xs->IsAll K H xs ds->Is K H (.ref a) (.tuple ds)
 | dc {a:Addr}:H a=some (.dK [])->Is K H (.ref a) (.dict [])
inductive IsAll (K:W.Frag) (H:Hp):List V->List PyData->Prop
 | nil:IsAll K H [] []
 | cons {x:V}{xs:List V}{d:PyData}{ds:List PyData}:Is K H x d->IsAll K H xs ds->IsAll K H (x::xs) (d::ds)
end
theorem IsAll.ints : ∀ ns:List Int,IsAll K H (ns.map V.int) (ns.map PyData.int)
 | []=>.nil
 | n::ns=>.cons (.int n) (IsAll.ints ns)
mutual
theorem Is.reads (I:Inv X Oa G H s):∀ {x:V}{d:PyData}{u:Value},Is X.K H x d->jr x u->∃ as,Reads s.heap u d as
 | _,_,_,.non,r=>by cases r;exact⟨_,.none⟩
 | _,_,_,.bl b,r=>by cases r;exact⟨_,.bool b⟩
 | _,_,_,.int i,r=>by obtain⟨t,rfl⟩:=r;exact⟨_,.int i t⟩
 | _,_,_,.str i,r=>by obtain⟨t,rfl⟩:=r;exact⟨_,.str i t⟩
 | _,_,_,.lst hq hs,r=>by
  cases r
  obtain⟨its,rv,pl,hz⟩:=I.list hq;obtain⟨as,ra⟩:=IsAll.reads I hs rv;obtain⟨o,ho,hc,n,hd⟩:=pl.isList;exact⟨_,.list ho hc hd (by simpa using ra)⟩
 | _,_,_,.tup hq hs,r=>by
  cases r
  obtain⟨its,rv,pl,hz⟩:=I.tuple hq;obtain⟨as,ra⟩:=IsAll.reads I hs rv;obtain⟨o,ho,hc,n,hd⟩:=pl;exact⟨_,.tuple ho hc hd (by simpa using ra)⟩
 | _,_,_,.dc (a:=a) e,r=>by
  cases r
  obtain⟨_,_,vs,kv,o,es,ep,h1,h2,h3,h4,h5,h6⟩:=(show jB X.prog X.w H s.heap a (.dK []) from I.hok a _ e);have hv:vs=[]:=by cases kv;rfl
  subst hv;have he:es.toList=[]:=by
   generalize es.toList=l at h5;cases h5
   rfl
  exact⟨_,.dict h1 h2.1 h3 (by rw[he];exact .nil) (by rw[he];exact .nil)⟩
theorem IsAll.reads (I:Inv X Oa G H s):∀ {xs:List V}{ds:List PyData}{us:List Value},IsAll X.K H xs ds->yM xs us->∃ as,ReadsAll s.heap us ds as
 | _,_,_,.nil,r=>by cases r;exact⟨_,.nil⟩
 | _,_,_,.cons h hs,r=>by
  cases r with
  | cons r1 r2 =>
   obtain⟨as,ra⟩:=Is.reads I h r1;obtain⟨bs,rb⟩:=IsAll.reads I hs r2;exact⟨_,.cons ra rb⟩
end
def rEqD (K:W.Frag):R2:=fun x y H Q=>∃ d d',Is K H x d/\Is K H y d'/\SeqAt.shaped d=true/\SeqAt.shaped d'=true/\Q (.bl (PyData.eqv d d')) H
def rNeD (K:W.Frag):R2:=fun x y H Q=>∃ d d',Is K H x d/\Is K H y d'/\SeqAt.shaped d=true/\SeqAt.shaped d'=true/\Q (.bl (!PyData.eqv d d')) H
theorem qom (hu:X.A.units+64<cLine):OpR X (compareOp .Eq) (rEqD X.K):=by
 intro Oa s G H x y v u Q I rx ry h;obtain⟨d,d',h1,h2,h3,h4,q⟩:=h;obtain⟨as,ra⟩:=h1.reads I rx;obtain⟨bs,rb⟩:=h2.reads I ry;exact eq_dataH ra rb h3 h4 hu ⟨.bl _,H,I,rfl,q⟩
theorem qoj (hu:X.A.units+64<cLine):OpR X (compareOp .NotEq) (rNeD X.K):=by
 intro Oa s G H x y v u Q I rx ry h;obtain⟨d,d',h1,h2,h3,h4,q⟩:=h;obtain⟨as,ra⟩:=h1.reads I rx;obtain⟨bs,rb⟩:=h2.reads I ry;exact ne_dataH ra rb h3 h4 hu ⟨.bl _,H,I,rfl,q⟩
theorem qpl {bs:List Bool}(r:yM (bs.map V.bl) its) {v:Value}(e:its[i]?=some v):v = .bool (bs.getD i false):=by
 have hl:=r.length;rw[qc] at hl;have hi:i<its.length:=(qC.mp e).1;have hb:(bs.map V.bl)[i]?=some (V.bl (bs.getD i false)):=by
  rw[qY];have:bs[i]?=some (bs.getD i false):=by rw[ym,qh 'l'];rfl
  rw[this];rfl
 obtain⟨u,eu,ru⟩:=r.get hb;rw[e] at eu;cases eu
 exact ru
theorem qga (bs:List Bool):(List.range bs.length).all (fun i=>bs.getD i false)=bs.all id:=by
 rw[Bool.eq_iff_iff];simp only[jJ,yB,id];constructor
 .intro h b hb;obtain⟨i,hi,rfl⟩:=List.mem_iff_getElem.mp hb;have:=h i hi;rwa[ym,qh hi] at this
 .intro h i hi;rw[ym,qh hi];exact h _ (yh hi)
theorem qjB (hc:X.calm=true):je X (.builtin "all") (fun xs H Q=>∃ (p:Addr) (bs:List Bool),xs=[.ref p]/\SqL X.K H p (bs.map V.bl)/\Q (.bl (bs.all id)) H):=by
 intro Oa s G H xs us Q I r h;obtain⟨p,bs,rfl,hq,q⟩:=h;obtain⟨u,rfl,rx⟩:=Yh r;cases rx
 obtain⟨its,rv,pl,hz⟩:=I.list hq;have hl:=rv.length;rw[qc] at hl;refine call_all_walk (wpAny_pyIter_list pl.isList ?_);have hlt:p<s.heap.objs.size:=by obtain⟨o,e,_⟩:=pl.isList;exact qo e
 refine⟨s.heap.objs.size,_,_,_,_,_,fun i=>bs.getD i false,rfl,Walks.list (A:=X.A.in1) (I.ok.hd hc) s.heap.objs.size p (qt hlt) its.toArray,⟨⟨_,qD _ rfl,rfl,rfl⟩,pl.isList.push _⟩,?_,fun h' tk k=>?_⟩
 .intro i v s Q E e hQ;have e':its[i]?=some v:=by simpa using e
  rw[qpl rv e'];exact yF hQ
 .rw [qB,<- hl,qga];refine⟨.bl _,H,I.kept (fun b o e=>k b o (fun hb=>?_) (qd _ e)),rfl,q⟩;have:b=s.heap.objs.size:=by simpa using hb
  exact absurd (this ▸ qo e) (yz _)
def qj5 (K:W.Frag):V->List V->Hp->VK->Prop:=fun x vs H Q=>∃ (l:Addr) (ns:List Int) (k:Int),x = .ref l/\vs=[.int k]/\SqL K H l (ns.map V.int)/\Q (.int (ns.count k:Nat)) H
theorem qbD:MtR X "list.count" (qj5 X.K):=by
 intro Oa s G H x xs v us Q I rx rs h;obtain⟨l,ns,k,rfl,rfl,hq,q⟩:=h;cases rx
 obtain⟨u,rfl,t,rfl⟩:=Yh rs;obtain⟨its,rv,pl,hz⟩:=I.list hq;exact count_list_ints pl.isList (qfc rv) ⟨.int _,H,I.tok _,⟨_,rfl⟩,q⟩
end L2
namespace L2
variable {p:Addr}
theorem Yf:bootBuiltins "len" = some (.builtin "len"):=by decide +kernel
theorem qcT:bootBuiltins "abs" = some (.builtin "abs"):=by decide +kernel
theorem qeF:bootBuiltins "max" = some (.builtin "max"):=by decide +kernel
theorem qpk:bootBuiltins "min" = some (.builtin "min"):=by decide +kernel
theorem qkE:bootBuiltins "all" = some (.builtin "all"):=by decide +kernel
theorem qhQ:bootBuiltins "divmod" = some (.builtin "divmod"):=by decide +kernel
theorem qaL:bootBuiltins "sorted" = some (.builtin "sorted"):=by decide +kernel
theorem jl:bootBuiltins "isinstance" = some (.builtin "isinstance"):=by decide +kernel
theorem qhP:bootBuiltins "int" = some (.type "int"):=by decide +kernel
theorem qmF:bootBuiltins "bool" = some (.type "bool"):=by decide +kernel
theorem qcS:bootBuiltins "str" = some (.type "str"):=by decide +kernel
theorem qbS:bootBuiltins "list" = some (.type "list"):=by decide +kernel
theorem qbR:bootBuiltins "tuple" = some (.type "tuple"):=by decide +kernel
theorem qkD:bootBuiltins "set" = some (.type "set"):=by decide +kernel
def NoX (CX:CXT):Prop:=∀ o H s e s',CX o H s E0 e s'->False
theorem qeW (h:NoX CX):Yg CX X E0:=fun _ _ _ _ _ _ _ q=>(h _ _ _ _ _ q).elim
def Own (P:Program) (w:World) (K:W.Frag) (mg:Str->Option Value) (base:Heap) (CX:CXT) (k:Nat) (x:Str) (ps:List Str) (sp:Sp):Prop :=
 ∃ (f:Addr) (fd:FuncData),FnOk P w K mg base CX k f fd ps sp/\mg x=some (.ref f)/\W.keepIn K (.ref f)=true/\YW K fd ps []
section
variable {k:Nat}{e:Expr}{t:TA}{p:Pos}
theorem qn9 (O:Own X.prog X.w X.K X.mg X.base CX k x ps sp) (hX:NoX CX) (hr:Room k X.A) (hg:Gl X x) (ha:PA X (e::es) t) (hdb:(x == ("__debug__" : Str))=false:=by decide)
  (he:starEach (e::es) X.env=(false,eval e X.env)::starEach es X.env:=by rfl) (hpl:(backTo pos (starEach es X.env)).any (·.1)=false:=by rfl):PE X (.Call (.Name x p) (e::es) [] pos) (qig sp [] E0 t):=by
 obtain⟨f,fd,F,hm,hk,hb⟩:=O;exact qgq F hr hg hm hk hb .nil (qeW hX) ha hdb he hpl
end
theorem Fun.okG {st:Stmt}{k:Nat}(F:Fun K x qual st f fd) (S:FnScope N ps (qR st)) (len:∀ vs H Q E,sp vs H Q E->vs.length=ps.length)
  (hbody:∀ (Oy:Value) (A:Around) (outer:List Env) (s:Shared) (H:Hp) (vs:List V) (Q:VK) (E:XK),Room k (A.deeper (envOfC qual (qR st) s.heap.objs.size f Oy))->sp vs H Q E →
   ∃ t,PSs (ZT CX P w K mg base N qual (qR st) f Oy A outer s H E).nox (yP st) t/\t { nx:=fun _ H'=>Q .non H',rt:=Q } (YO N vs) H):FnOk P w K mg base CX (k+1) f fd ps sp:=by
 obtain⟨oc,od,kV,doc,pm,an,Oy,ct,osl,rfl,lk,hcd⟩:=F.ex;refine qme lk hcd S len fun A outer s H vs Q E hr hsp=>?_;obtain⟨t,h,q⟩:=hbody Oy A outer s H vs Q E hr hsp;exact⟨t,h.nox,q⟩
def Pot (M:Int) (H:Hp) (p:Addr):Prop:=∃ p0 p1:Int,H p=some (.lst [.int p0,.int p1])/\0<=p0/\0<=p1/\p1<M
def Stp (p:Addr) (H H':Hp):Prop:=∀ b o,H b=some o->b≠p->H' b=some o
theorem Stp.trans (a:Stp p H H1) (b:Stp p H1 H2):Stp p H H2:=fun c o e n=>b c o (a c o e n) n
theorem Stp.upd {o:HO}:Stp p H (upd H p o):=fun b u e n=>by rw[qX n];exact e
theorem yr.stp (h:yr H H'):Stp p H H':=fun b o e _=>h b o e
theorem yr.upd {o:HO}(h:H p=none):yr H (upd H p o):=fun b u e=>by rw[qX (qQ e h)];exact e
abbrev Pt:=Int×Int
theorem Paired.get {R:α->β->Prop}:∀ {xs:List α}{ys:List β}{i:Nat}{x:α},Paired R xs ys->xs[i]?=some x->∃ y,ys[i]?=some y/\R x y
 | _,_,_,_,.nil,e=>by simp at e
 | _,_,0,_,.cons r _,e=>by simp at e;subst e;exact⟨_,rfl,r⟩
 | _,_,i+1,x,.cons _ t,e=>by
  obtain⟨u,h1,h2⟩:=Paired.get (i:=i) (x:=x) t (by simpa using e);exact⟨u,by simpa using h1,h2⟩
theorem Paired.get' {R:α->β->Prop}:∀ {xs:List α}{ys:List β}{i:Nat}{y:β},Paired R xs ys->ys[i]?=some y->∃ x,xs[i]?=some x/\R x y
 | _,_,_,_,.nil,e=>by simp at e
 | _,_,0,_,.cons r _,e=>by simp at e;subst e;exact⟨_,rfl,r⟩
 | _,_,i+1,x,.cons _ t,e=>by
  obtain⟨u,h1,h2⟩:=Paired.get' (i:=i) (y:=x) t (by simpa using e);exact⟨u,by simpa using h1,h2⟩
theorem Paired.len {R:α->β->Prop}{xs:List α}{ys:List β}(h:Paired R xs ys):xs.length=ys.length:=PySem.Paired.length h
def ptD (q:Pt):PyData:=.tuple [.int q.1,.int q.2]
theorem qaB:∀ ns:List Int,PyData.canLayAll0 (ns.map PyData.int)=true
 | []=>by simp[PyData.canLayAll0]
 | _::r=>by simp[PyData.canLayAll0,PyData.canLay0,qaB r]
theorem qbb:∀ ns:List Int,PyData.depthAll (ns.map PyData.int)<=1
 | []=>by simp[PyData.depthAll]
 | _::r=>by
  have:=qbb r;simp only[qP,PyData.depthAll,PyData.depth];lia
theorem qal:∀ ps:List Pt,PyData.canLayAll0 (ps.map ptD)=true
 | []=>by simp[PyData.canLayAll0]
 | _::r=>by simp[PyData.canLayAll0,PyData.canLay0,ptD,qal r]
theorem qa4:∀ ps:List Pt,PyData.depthAll (ps.map ptD)<=3
 | []=>by simp[PyData.depthAll]
 | _::r=>by
  have:=qa4 r;simp only[qP,PyData.depthAll,PyData.depth,ptD];lia
theorem jz (ns:List Int):SeqAt.shaped (.tuple (ns.map PyData.int))=true:=by
 have:=qbb ns;unfold SeqAt.shaped;rw[qZ];refine⟨by simp only[PyData.canLay0,qaB],qH ?_⟩;simp only[PyData.depth];lia
theorem qaZ (ps:List Pt):SeqAt.shaped (.list (ps.map ptD))=true:=by
 have:=qa4 ps;unfold SeqAt.shaped;rw[qZ];refine⟨by simp only[PyData.canLay0,qal],qH ?_⟩;simp only[PyData.depth];lia
theorem qh6 {n:Int}(h1:-10000000000000000000000000000000000000000<=n) (h2:n<=10000000000000000000000000000000000000000):Big n:=Big.of 10000000000000000000000000000000000000000 'd' h1 h2
theorem sz2:2<=sizeLine:=by decide
theorem sz1:1<=sizeLine:=by decide
end L2
variable {q:L2.Pt}{B:List L2.Pt}
namespace L2
variable {bmB:List Value}{newId initId:String}
section
variable {o:HO}
theorem jB.has (x:jB P w H h a o):∃ ob,h.get? a=some ob:=by
 cases o with
 | lst xs=>obtain⟨_,_,_,_,e⟩:=x;exact⟨_,e⟩
 | tup xs=>obtain⟨_,_,_,ob,e,_⟩:=x;exact⟨_,e⟩
 | dK kvs=>obtain⟨_,_,_,_,ob,_,_,e,_⟩:=x;exact⟨_,e⟩
 | dT kvs=>obtain⟨_,_,_,_,ob,_,_,e,_⟩:=x;exact⟨_,e⟩
 | set S n=>obtain⟨ob,_,_,_,e,_⟩:=x;exact⟨_,e⟩
 | ins C dx fs=>obtain⟨_,_,_,e,_⟩:=x;exact⟨_,e⟩
 | own y=>exact x
 | xd fs=>obtain⟨_,⟨_,_,_,e,_⟩,_⟩:=x;exact⟨_,e⟩
 | rng lo hi=>obtain⟨_,_,_,e⟩:=x;exact⟨_,e⟩
 | frz ob u=>obtain⟨e,_⟩:=x;exact⟨_,e⟩
 | tbl ps=>exact⟨_,(show h.get? a=some _ from x)⟩
 | met f y=>exact⟨_,(show h.get? a=some _ from x)⟩
 | ext φ=>obtain⟨_,e,_⟩:=x;exact e
end
def Cov (B:Heap) (H':Hp) (h₀ h:Heap) (fs:List Addr):Prop:=∀ b o,h.get? b=some o->b∉fs->((∃ oa0,h₀.get? b=some oa0)\/∃ u,H' b=some u)->B.get? b=some o
def XC (P:Program) (w:World):CXT:=fun outer H s E e s'=>∃ (ea:Addr) (cls a0:Value) (H':Hp) (B:Heap),e = .ref ea/\s'.os=s.os/\AllBare s'.gens/\Un (frs outer) [] H H' s.heap s'.heap/\HOk P w H' s'.heap ∧
 Heap.FlyingW B outer ea cls a0 s'.heap/\Cov B H' s.heap s'.heap (frs outer)/\H' ea=none/\E cls none H'
theorem jU : NoX 'x':=fun _ _ _ _ _ ⟨_,_,_,_,_,_,_,_,_,_,_,_,_,z⟩=>z
theorem qmf (KX:K.In h) (q:W.excIn K C bmB newId=true) :
  ∃ bm N nm qn bs hd sn sub ab col dd k0 k1 k2 k3 k5 mN,h.get? C=some (excClassObj nm qn C N bs bm hd sn sub ab col dd k0 k1 k2 k3 k5 newId)/\h.Ns N mN/\mN "__init__" = none/\OwnTail h bmB bm:=by
 unfold W.excIn at q;split at q
 .rename_i dd cd sl look
  split at q
  .rename_i C2 bm s0 s1 s2 s3 nid s5 emro esl
   simp only[qZ,beq_iff_eq,Bool.not_eq_true'] at q;obtain⟨⟨⟨⟨⟨rfl,rfl⟩,nodel⟩,tl⟩,nsok⟩,noinit⟩:=q;obtain⟨nm,bs,mro,ns,qn,hd,sn,sub,ab,col,del⟩:=cd;dsimp only at emro nodel nsok noinit;subst emro nodel;obtain rfl:sl=#[s0,s1,s2,s3,some (.builtin nid),s5]:=by
    obtain⟨l⟩:=sl;simp only at esl;rw[esl]
   exact⟨bm,ns,nm,qn,bs,hd,sn,sub,ab,col,dd,s0,s1,s2,s3,s5,_,KX _ _ look,.of_isNs (W.isNs_of_in KX nsok),W.nsMap_none_of_in KX nsok noinit,W.tail_of_in KX tl⟩
  .cases q
 .cases q
theorem qaE {fs:List Addr}:∀ {l:List Env},h.FunFrames base l->(∀ b∈frs l,b∈fs)->h.FunFrames (W.hideAll h fs) l
 | [],_,_=>trivial
 | env::r,⟨hk,⟨L,o,hf,hn,ho,hd⟩,hr⟩,hs=>by
  have hm:L∈frs (env::r):=yD.mpr ⟨env,qj,hf⟩;refine⟨hk,⟨L,o,hf,W.hideAll_none _ (hs L hm),ho,hd⟩,qaE hr fun b hb=>hs b ?_⟩;obtain⟨e,he,hfe⟩:=yD.mp hb;exact yD.mpr ⟨e,qe _ he,hfe⟩
def qne (E:XK) (cls:Value) (t:TA):TS:=fun _ G H=>t G H fun vs H2=>vs.length<=sizeLine/\E cls none H2
section
variable {E:XK}{B:String}{ea0:Expr}{rest:List Expr}{t:TA}{np cpos:Pos}
theorem qiA (q:W.excIn K C bmB newId=true) (FB:ExcBaseFacts B newId initId bmB) (hm:mg x=some (.ref C)) (hg:Gl (ZT 'x' P w K mg base N qual scope f cd A outer s H E) x)
  (ha:PA (ZT 'x' P w K mg base N qual scope f cd A outer s H E) (ea0::rest) t)
  (he:starEach (ea0::rest) (ZT 'x' P w K mg base N qual scope f cd A outer s H E).env=(false,eval ea0 (ZT 'x' P w K mg base N qual scope f cd A outer s H E).env)::starEach rest (ZT 'x' P w K mg base N qual scope f cd A outer s H E).env:=by rfl)
  (hpl:(backTo cpos (starEach rest (ZT 'x' P w K mg base N qual scope f cd A outer s H E).env)).any (·.1)=false:=by rfl) (hdb:(x == ("__debug__" : Str))=false:=by decide) :
  PS (ZT 'x' P w K mg base N qual scope f cd A outer s H E) (.Raise (some (.Call (.Name x np) (ea0::rest) [] cpos)) none pos) (qne E (.ref C) t):=by
 intro Oa s1 G H1 D I h;generalize hX:ZT 'x' P w K mg base N qual scope f cd A outer s H E=X at *;have xK:X.K=K:=by rw[<- hX];rfl
 have xmg:X.mg=mg:=by rw[<- hX];rfl
 have xst:X.stack=X.env::X.outer:=by rw[<- hX];rfl
 have xfr:X.env.frame=some X.env.locals:=by rw[<- hX];rfl
 have xex:X.ex=[]:=by rw[<- hX];rfl
 obtain⟨tl,Nn,nm,qn,bs,hdct,sn,sub,ab,col,dd,k0,k1,k2,k3,k5,mN,hC,hN,hni,T⟩:=qmf (K:=K) (xK ▸ I.ok.mod.kin) q;have hhd:X.A.handled=none:=I.ok.hd (by rw[<- hX];rfl);refine wpAny_Raise_call_subT (C:=C) (nm:=nm) (q:=qn) (N:=Nn) (bs:=bs) (bm:=tl) (hdct:=hdct) (sn:=sn) (sub:=sub) (ab:=ab) (col:=col) (dd:=dd) (k0:=k0) (k1:=k1) (k2:=k2) (k3:=k3) (k5:=k5)
  FB (mN:=mN) (T.hasType FB.hasBase) hhd (by rw[he];show (false || (backTo cpos (starEach rest X.env)).any (·.1))=false;rw[hpl];rfl) hni (Zx I hg (xmg ▸ hm) ⟨rfl,?_⟩ hdb)
 have hA:=ha cpos Oa s1 G H1 _ I h;rw[he] at hA ⊢;refine Calls.evalArgs_plain (qN hA (fun us s2 ⟨vs,H2,I2,r2,hz,hE⟩=>⟨rfl,by rw[<- r2.length];exact hz,I2.bk _ _ hC,hN.keeps I2.bk,T.keeps I2.bk,fun h' e made=>?_⟩) fun _ _ y=>y)
 have fsub:∀ b∈frs X.stack,b=X.env.locals\/b∈X.fs:=fun b hb=>qF.mp (I2.stkSub b hb);have hfs:∀ b∈X.fs,b∈frs X.stack:=fun b hb=>by
  rw[xst];obtain⟨e,he,hfe⟩:=yD.mp hb;exact yD.mpr ⟨e,qe _ he,hfe⟩
 have leave:wpAny 'M' X.A (leaving X.env (.ref e)) (fun _ s''=>XC X.prog X.w X.outer X.H₀ X.s₀ E (.ref e) s'') (fun e' s''=>XC X.prog X.w X.outer X.H₀ X.s₀ E e' s'') { s2 with heap:=h' }:=by
  refine wpAny_leaves_madeW (base:=W.hideAll s2.heap (frs X.stack)) (h:=s2.heap) (by rw[<- xst];exact I2.ok.frames) xfr (fun b o hb=>W.of_hideAll _ hb) (by rw[<- xst];exact qaE I2.stack fun b hb=>hb) made fun h'' t fl _ _ ups=>?_;have kept:∀ b o,s2.heap.get? b=some o->b∉frs X.stack->h''.get? b=some o:=fun b o eb nb=>fl.1 b o (W.hideAll_get _ eb nb);have bs:Un X.fs [] X.H₀ H2 X.s₀.heap s2.heap:=by have:=I2.base;rw[xex] at this;exact this
  have oldnf:∀ b o,X.s₀.heap.get? b=some o->b∉X.fs->b∉frs X.stack:=fun b o eb nb z=>by
   rcases fsub b z with z | z
   .exact absurd (qM (qo eb) I2.ok.above) (by rw[z];exact yz _)
   .exact nb z
  have trk:∀ b u,H2 b=some u->b∉frs X.stack:=fun b u eb z=>by
   have:=I2.stkFree b z;rw[this] at eb;cases eb
  refine⟨e,.ref C,.ref t,H2,_,rfl,I2.os,I2.bare,⟨fun b o eb n nf _=>?_,fun b o eb n nf _=>?_,bs.free,fun b o eb _=>?_,bs.tups,bs.frzs,bs.tbls⟩,fun b u eb=>?_,fl,fun b o eb nb cov=>?_,?_,hE⟩
  .exact kept b o (bs.keep b o eb n nf 's') (oldnf b o eb nf)
  .obtain ⟨sl,e1⟩:=bs.slot b o eb n nf 's';obtain⟨_,o',ho',hd'⟩:=I2.stack.mem (hfs b nf);rw[e1] at ho';cases ho';obtain⟨sl2,e2⟩:=ups b _ (made.keeps b _ e1) hd';exact⟨sl2,e2⟩
  .obtain ⟨o',e1⟩:=bs.there b o eb 's';by_cases nb:b∈frs X.stack
   .obtain ⟨_,o2,ho2,hd2⟩:=I2.stack.mem nb;rw[e1] at ho2;cases ho2;obtain⟨sl2,e2⟩:=ups b _ (made.keeps b _ e1) hd2;exact⟨_,e2⟩
   .exact ⟨o',kept b o' e1 nb⟩
  .refine (I2.hok b u eb).stay (fun c v hc e1=>kept c v e1 ?_) (fun _ z=>z) fun _ _ z=>z;rcases hc with rfl | hc
   .exact trk c u eb
   .exact trk c _ hc
  .have nfr:b∉frs X.stack:=by
    rcases cov with⟨o0,e0⟩ | ⟨u,eu⟩
    .exact oldnf b o0 e0 nb
    .exact trk b u eu
   have there:∃ o2,s2.heap.get? b=some o2:=by
    rcases cov with⟨o0,e0⟩ | ⟨u,eu⟩
    .exact bs.there b o0 e0 's'
    .exact (I2.hok b u eu).has
   obtain⟨o2,e2⟩:=there;have:=kept b o2 e2 nfr;rw[eb] at this;cases this;exact W.hideAll_get _ e2 nfr
  .cases z:H2 e with
   | none=>rfl
   | some u =>
    obtain⟨o2,e2⟩:=(I2.hok e u z).has;have:=made.new;rw[e2] at this;cases this
 rw[<- hX] at leave ⊢;exact leave
end
end L2
namespace L2
variable {pn:List (Addr×Obj)}
abbrev qc7 (X:Cx) (pn:List (Addr×Obj)) (xe:Value->Shared->Prop):Cx:={ X with pn:=pn,xe:=xe }
abbrev qfL (X:Cx) (ea:Addr):Cx:={ X with A:=X.A.mark (some (.ref ea)),calm:=false,xe:=fun _ _=>False }
theorem Cx.Ok.tryC (o:X.Ok):(qc7 X pn xe).Ok :=
 ⟨o.mod,o.kind,o.glob,o.blt,o.above,o.inj,o.has,o.cab,o.hd,o.frames,o.stk,o.exf,o.bs,o.bsz,o.noex,o.exfs,o.funs,o.frf⟩
theorem Cx.Ok.sufC (o:X.Ok):(qfL X ea).Ok :=
 ⟨o.mod,o.kind,o.glob,o.blt,o.above,o.inj,o.has,o.cab,(fun z=>nomatch z),o.frames,o.stk,o.exf,o.bs,o.bsz,o.noex,o.exfs,o.funs,o.frf⟩
theorem Inv.tryC (I:Inv X Oa G H s):Inv (qc7 X (X.pn++Oa) xe) [] G H s :=
 ⟨I.ok.tryC,I.os,I.bare,I.base,I.loc,I.cell,I.free,I.freeC,fun p hp=>I.pin p (by simpa using hp),I.hok,I.len⟩
theorem Cx.Ok.untry (o:(qc7 X pn xe).Ok):X.Ok :=
 ⟨o.mod,o.kind,o.glob,o.blt,o.above,o.inj,o.has,o.cab,o.hd,o.frames,o.stk,o.exf,o.bs,o.bsz,o.noex,o.exfs,o.funs,o.frf⟩
theorem Inv.untry {pl:List (Addr×Obj)}(I:Inv (qc7 X (X.pn++Oa) xe) pl G H s):Inv X Oa G H s :=
 ⟨I.ok.untry,I.os,I.bare,I.base,I.loc,I.cell,I.free,I.freeC,fun p hp=>I.pin p (q0 _ hp),I.hok,I.len⟩
theorem Inv.sufC (I:Inv X Oa G H s):Inv (qfL X ea) Oa G H s :=
 ⟨I.ok.sufC,I.os,I.bare,I.base,I.loc,I.cell,I.free,I.freeC,I.pin,I.hok,I.len⟩
theorem Inv.unsuf (o:X.Ok) (I:Inv (qfL X ea) Oa G H s):Inv X Oa G H s :=
 ⟨o,I.os,I.bare,I.base,I.loc,I.cell,I.free,I.freeC,I.pin,I.hok,I.len⟩
def qoO (ea:Addr) (cls:Value):HO:=.ext fun h=>∃ oe,h.get? ea=some oe/\oe.cls=cls
abbrev qjE (n:Nat):St:=List.replicate n none
theorem qey {G1:St}{s1:Shared}{B h6:Heap}{cls a0:Value}(I1:Inv X Oa G1 H1 s1) (os:s'.os=s1.os) (bare:AllBare s'.gens)
  (un:Un (frs X.stack) [] H1 H' s1.heap s'.heap) (hok:HOk X.prog X.w H' s'.heap) (cov:Cov B H' s1.heap s'.heap (frs X.stack)) (hn:H' ea=none)
  (fl:Heap.FlyingW B X.stack ea cls a0 h6) (fl0:Heap.FlyingW B X.stack ea cls a0 s'.heap) (ups:s'.heap.UpToSlots h6) :
  Inv X Oa G1 H' { s' with heap:=h6 }/\Inv X Oa G1 (upd H' ea (qoO ea cls)) { s' with heap:=h6 }:=by
 have notold:∀ o,s1.heap.get? ea≠some o:=fun o e=>by
  obtain⟨_,nB,_,oe,vs,_,_,_,he,_,hd,_⟩:=id fl0;have nf:ea∉frs X.stack:=fun z=>by
   obtain⟨_,o2,ho2,hd2⟩:=fl0.2.2.1.mem z;rw[he] at ho2;cases ho2;exact hd2 _ hd
  have:=cov ea oe he nf (.inl ⟨o,e⟩);rw[nB] at this;cases this
 have keepc:∀ b o,s'.heap.get? b=some o->b∉frs X.stack->((∃ oa0,s1.heap.get? b=some oa0)\/∃ u,H' b=some u)->h6.get? b=some o:=fun b o e nb c=>fl.1 b o (cov b o e nb c);have trk:∀ b u,H' b=some u->b∉frs X.stack:=fun b u eb z=>by
  obtain⟨_,o0,ho0,_⟩:=I1.stack.mem z;have:=un.free b o0 ho0 (I1.stkFree b z) 's';rw[this] at eb;cases eb
 have un6:∀ H2:Hp,(∀ b,b≠ea->H2 b=H' b)->Un (frs X.stack) [] H1 H2 s1.heap h6:=fun H2 hH=>by
  refine⟨fun b o e n nf hx=>keepc b o (un.keep b o e n nf hx) nf (.inl ⟨o,e⟩),fun b o e n nf hx=>?_,fun b o e n hx=>?_,fun b o e hx=>?_,fun b xs e=>?_,fun b o u e=>?_,fun b ps e=>?_⟩
  .obtain ⟨sl,e1⟩:=un.slot b o e n nf hx;obtain⟨_,o2,ho2,hd2⟩:=I1.stack.mem nf;rw[e] at ho2;cases ho2;obtain⟨sl2,e2⟩:=ups b _ e1 hd2;exact⟨sl2,e2⟩
  .have hb:b≠ea:=by rintro rfl;exact notold _ e
   rw[hH b hb];exact un.free b o e n hx
  .obtain ⟨o',e1⟩:=un.there b o e hx;by_cases nb:b∈frs X.stack
   .obtain ⟨_,o2,ho2,hd2⟩:=I1.stack.mem nb;rw[e] at ho2;cases ho2;obtain⟨sl,e3⟩:=un.slot b o e (I1.stkFree b nb) nb hx;obtain⟨sl2,e2⟩:=ups b _ e3 hd2;exact⟨_,e2⟩
   .exact ⟨o',keepc b o' e1 nb (.inl ⟨o,e⟩)⟩
  .have:=un.tups b xs e;rw[hH b (qQ this hn)];exact this
  .have:=un.frzs b o u e;rw[hH b (qQ this hn)];exact this
  .obtain ⟨more,this⟩:=un.tbls b ps e;exact⟨more,by rw[hH b (qQ this hn)];exact this⟩
 have hok6:HOk X.prog X.w H' h6:=fun b u e=>(hok b u e).stay (fun c v hc q=>by
  rcases hc with rfl | hc
  .exact keepc c v q (trk c u e) (.inr ⟨u,e⟩)
  .exact keepc c v q (trk c _ hc) (.inr ⟨_,hc⟩)) (fun _ q=>q) fun _ _ q=>q
 refine⟨I1.call' (s':={ s' with heap:=h6 }) (ch:=[]) os (un6 H' fun _ _=>rfl) hok6 bare (fun b z=>nomatch z),?_⟩;refine I1.call' (s':={ s' with heap:=h6 }) (ch:=[]) os (un6 _ fun b hb=>qX hb) (fun b u e=>?_) bare (fun b z=>nomatch z);by_cases hb:b=ea
 .subst hb;rw[yg] at e;cases e
  obtain⟨oe,vs,he,hc,hd,_⟩:=fl.first;exact⟨⟨oe,he,hc⟩,⟨oe,he⟩,fun h1 h2 ⟨o,e1,e2⟩ k=>⟨o,k o e1,e2⟩⟩
 .rw [qX hb] at e;exact (hok6 b u e).stay (fun _ _ _ q=>q) (fun c q=>by rw[qX (qQ q hn)];exact q) fun c xs q=>by rw[qX (qQ q hn)];exact q
theorem Zp {k:Nat}{e:Expr}{t:TA}{E:XK}(O:Own X.prog X.w X.K X.mg X.base CX k x ps sp) (hx:Yg CX X E) (hr:Room k X.A) (hg:Gl X x) (ha:PA X (e::es) t) (hdb:(x == ("__debug__" : Str))=false:=by decide)
  (he:starEach (e::es) X.env=(false,eval e X.env)::starEach es X.env:=by rfl) (hpl:(backTo pos (starEach es X.env)).any (·.1)=false:=by rfl):PE X (.Call (.Name x p) (e::es) [] pos) (qig sp [] E t):=by
 obtain⟨f,fd,F,hm,hk,hb⟩:=O;exact qgq F hr hg hm hk hb .nil hx ha hdb he hpl
end L2
namespace L2
open W Builtin Builtin.ObjectAttr Builtin.Getset_descriptor
variable {K:Frag}{x:Addr}
end L2
namespace L2
abbrev bmV:List Value:=[.type "ValueError",.type "Exception",.type "BaseException",.type "object"]
theorem Inv.laidN {o:HO}(I:Inv X Oa G H s) (k:∀ b u,s.heap.get? b=some u->h'.get? b=some u) (hp:s.heap.get? a=none) (new:jB X.prog X.w (upd H a o) h' a o) :
  H a=none/\Inv X Oa G (upd H a o) { s with heap:=h',toks:=t' }:=by
 have hn:H a=none:=by
  cases z:H a with
  | none=>rfl
  | some u =>
   obtain⟨ob,e⟩:=(I.hok a u z).has;rw[hp] at e;cases e
 refine⟨hn,I.un ⟨fun b u q _ _ _=>k b u q,fun b u q _ _ _=>⟨u.slots,k b u q⟩,fun b u q n _=>?_,fun b u q _=>⟨u,k b u q⟩,fun b xs q=>?_,fun b u xs q=>?_,fun b ps q=>?_⟩ fun b u e=>?_⟩
 .rw [qX (fun z=>by rw[z,hp] at q;cases q)];exact n
 .rw [qX (qQ q hn)];exact q
 .rw [qX (qQ q hn)];exact q
 .exact ⟨#[],by rw[qX (qQ q hn),q];simp⟩
 .by_cases hb:b=a
  .subst hb;rw[yg] at e;cases e;exact new
  .rw [qX hb] at e;exact (I.hok b u e).stay (fun c v _ q=>k c v q) (fun c q=>by rw[qX (qQ q hn)];exact q) fun c xs q=>by rw[qX (qQ q hn)];exact q
section
variable {e:Expr}{t:TA}
end
section
variable {k:Nat}{e:Expr}{t:TA}
end
theorem qeO {ys:List Str}:∀ {us:List Value},yM (ys.map V.str) us->StrsAre us ys:=by
 induction ys with
 | nil=>intro us r;cases r;exact .nil
 | cons y ys ih =>
  intro us r;cases r with
  | cons r1 r2 =>
   obtain⟨t,rfl⟩:=r1;exact .cons y t (ih r2)
end L2
namespace L2
open W
structure Ord (f:Nat->Nat->Bool):Prop where
 asym:∀ a b,f a b=true->f b a=false
 neg:∀ a b c,f a c=true->f a b=true\/f b c=true
abbrev gD (p:Array Nat) (i:Nat):Nat:=p.getD i 0
section
variable {f:Nat->Nat->Bool}
theorem Ord.irr (O:Ord f) (a:Nat):f a a=false:=by
 cases h:f a a with
 | false=>rfl
 | true=>rw[O.asym a a h] at h;cases h
def qmU (f:Nat->Nat->Bool) (p:Array Nat) (k:Nat):Prop:=∀ i j,i<=j->j<k->f (gD p j) (gD p i)=false
def Arr (n:Nat) (p:Array Nat):Prop:=p.Perm (List.range n).toArray
theorem Arr.size {p:Array Nat}(h:Arr n p):p.size=n:=by rw[h.size_eq];simp
section
variable {cmp:Nat->Nat->(Bool->Shared->Prop)->Shared->Prop}
end
end
end L2
namespace L2
open W
variable {v:Value}{Q:Bool->Shared->Prop}
def qgW (fin:Bool):List Int->List Int->Bool
 | x::r,y::t=>if x=y then qgW fin r t else decide (x<y)
 | _,_=>fin
theorem qgV:∀ ns ms:List Int,qgW (decide (ns.length<ms.length)) ns ms=decide (ns<ms)
 | [],[]=>by simp[qgW]
 | [],_::_=>by simp[qgW]
 | _::_,[]=>by simp[qgW]
 | x::r,y::t=>by
  have ih:=qgV r t;simp only[qgW,qU,Nat.add_lt_add_iff_right];by_cases e:x=y
  .subst e;rw[if_pos rfl,ih];simp[yU]
  .rw [if_neg e];simp[yU,e]
theorem qep {a b:List Int}(h:a<b):¬ b<a:=fun g=>List.lt_irrefl a (List.lt_trans h g)
theorem qgR (ks:Nat->List Int):Ord fun i j=>decide (ks i<ks j) where
 asym a b h:=yi (qep (qx h))
 neg a b c h:=by
  have h:=qx h;by_cases e:ks a<ks b
  .exact .inl (qH e)
  .exact .inr (qH (List.lt_of_le_of_lt (List.not_lt.mp e) h))
def jq (h:Heap) (v:Value) (ks:List Int):Prop:=∃ b o xs n,v = .ref b/\h.get? b=some o/\o.cls = .type "tuple" /\ o.data = .seq xs n/\IntsAre xs.toList ks/\ks≠[]
theorem jq.kept (k:∀ b o,h.get? b=some o->o.cls = .type "tuple" -> h'.get? b=some o) (t:jq h v ks):jq h' v ks:=by
 obtain⟨b,o,xs,n,e,ho,hc,r⟩:=t;exact⟨b,o,xs,n,e,k b o ho hc,hc,r⟩
theorem qkh {fin:Bool}:∀ {xs ys:List Value}{ns ms:List Int}(i:Nat),IntsAre xs ns->IntsAre ys ms->Q (qgW fin ns ms) s->KatLex prog w A true fin Q (xs.zip ys) i s
 | _,_,_,_,i,.nil,_,q=>kat_nil (by simpa[qgW] using q)
 | _,_,_,_,i,.cons _ _ _,.nil,q=>kat_nil (by simpa[qgW] using q)
 | _,_,_,_,i,.cons x t hx,.cons y u hy,q=>by
  refine kat_cons (wpAny_eqBool_int ?_);by_cases e:x=y
  .subst e;rw[beq_self_eq_true];exact kat_yes (qkh (i+1) hx hy (by simpa[qgW] using q))
  .have hb:(x == y)=false:=by simpa using e
   rw[hb];have q':Q (decide (x<y)) s:=by simpa[qgW,e] using q
   refine kat_no ?_;cases i with
   | zero=>exact oneLt_int q'
   | succ i=>exact kat_one _ _ (lt_int q')
theorem lt_wp {ms:List Int}(h1:jq s.heap v ns) (h2:jq s.heap u ms) (q:Q (decide (ns<ms)) s):wpAny 'm' A (keyLt' (tuples' true) v u) Q E s:=by
 obtain⟨a,o,xs,n,rfl,ho,_,hd,hi,_⟩:=h1;obtain⟨b,o',ys,n',rfl,ho',_,hd',hi',_⟩:=h2;refine kat_lt ho hd ho' hd' (qkh 0 hi hi' ?_);have e1:=IntsAre.length hi;have e2:=IntsAre.length hi';simp only[qy] at e1 e2;rw[e1,e2,qgV];exact q
theorem Z8 : ∀ {vs:List Value}{kss:List (List Int)},PySem.Paired (jq h) vs kss->∃ fs:List Value,KatTups h vs fs/\fs.length=vs.length/\∀ v∈fs,∃ i t,v = .int i t
 | _,_,.nil=>⟨[],trivial,rfl,fun _ z=>nomatch z⟩
 | _,_,.cons ⟨a,o,xs,n,e,ho,hc,hd,hi,hn⟩ r=>by
  obtain⟨fs,k,hl,hf⟩:=Z8 r;subst e;obtain⟨l⟩:=xs;cases hi with
  | nil=>exact absurd rfl hn
  | cons i t hr =>
   refine⟨.int i t::fs,KatTups.cons ho hc hd rfl k,by simp[hl],fun v hv=>?_⟩;rcases qF.mp hv with rfl | hv
   .exact ⟨i,t,rfl⟩
   .exact hf v hv
theorem qg0 {vs:List Value}{Q:SortKind->Shared->Prop}(hT:PySem.Paired (jq s.heap) vs kss) (h2:0<vs.length) (q:Q (tuples' true) s):wpAny 'm' A (keyKind' vs.toArray) Q E s:=by
 obtain⟨fs,k,hl,hf⟩:=Z8 hT;refine kat_kind (T:=.type "int") k 'l' (fun v hv=>?_) rfl q;obtain⟨i,t,rfl⟩:=hf v hv;exact Looks.now
end L2
namespace L2
open W
variable {f:Keyed->Keyed->Bool}{a b c:Keyed}{base:Nat}
structure OrdK (f:Keyed->Keyed->Bool):Prop where
 asym:∀ a b,f a b=true->f b a=false
 neg:∀ a b c,f a c=true->f a b=true\/f b c=true
theorem OrdK.irr (O:OrdK f) (a:Keyed):f a a=false:=by
 cases h:f a a with
 | false=>rfl
 | true=>rw[O.asym a a h] at h;cases h
theorem OrdK.le (O:OrdK f) (h1:f b a=false) (h2:f c b=false):f c a=false:=by
 cases h:f c a with
 | false=>rfl
 | true=>rcases O.neg _ b _ h with z | z <;> simp_all
theorem OrdK.ltl (O:OrdK f) (h1:f a b=true) (h2:f c b=false):f a c=true:=by
 rcases O.neg _ c _ h1 with z | z
 .exact z
 .rw [h2] at z;cases z
theorem OrdK.lel (O:OrdK f) (h1:f b a=false) (h2:f b c=true):f a c=true:=by
 rcases O.neg _ a _ h2 with z | z
 .rw [h1] at z;cases z
 .exact z
def SdK (f:Keyed->Keyed->Bool) (l:List Keyed):Prop:=l.Pairwise fun x y=>f y x=false
def Ask (prog:Program) (w:World) (A:Around) (E:Value->Shared->Prop) (s:Shared) (kd:SortKind) (D:Keyed->Prop) (f:Keyed->Keyed->Bool):Prop :=
 ∀ (x y:Keyed) (st:SortSt) (Q:Option Bool->SortSt->Prop),D x->D y->kindOf st=kd->Q (some (f x y)) st->wpS 'm' A E s (lt' x y) Q st
def jP:Bool->Keyed->Array Keyed->Nat->Nat->Nat->StateT SortSt Sem (Option Nat):=sortPriv% PySem.Builtin.gallop
def YT (left:Bool) (key:Keyed) (arr:Array Keyed) (base i:Nat):StateT SortSt Sem (Option Bool):=do
  let x <- elem' arr (base+i)
  if left then lt' x key else return (<- lt' key x).map (!·)
theorem qfe (left:Bool) (key:Keyed) (arr:Array Keyed) (base n hint:Nat):jP left key arr base n hint=(do
 let mut lastofs:=0
 let mut ofs:=1
 let mut lo:=0
 let mut hi:=0
 let some right <- YT left key arr base hint | return none
 if right then
  let maxofs:=n - hint
  for _ in [0:n] do
   if ofs ≥ maxofs then break
   let some more <- YT left key arr base (hint+ofs) | return none
   if !more then break
   lastofs:=ofs
   ofs:=2 * ofs+1
  lo:=hint+lastofs+1
  hi:=hint+min ofs maxofs
 else
  let maxofs:=hint+1
  for _ in [0:n] do
   if ofs ≥ maxofs then break
   let some found <- YT left key arr base (hint - ofs) | return none
   if found then break
   lastofs:=ofs
   ofs:=2 * ofs+1
  lo:=hint+1 - min ofs maxofs
  hi:=hint - lastofs
 for _ in [0:n] do
  if lo ≥ hi then break
  let m:=lo+(hi - lo) / 2
  let some more <- YT left key arr base m | return none
  if more then lo:=m+1 else hi:=m
 return some hi):=rfl
section
variable {D:Keyed->Prop}
def byd (f:Keyed->Keyed->Bool) (left:Bool) (key x:Keyed):Bool:=if left then f x key else !f key x
theorem qfw (hA:Ask prog w A E s kd D f) {key x:Keyed}{Q:Option Bool->SortSt->Prop}(hk:kindOf st=kd) (hx:arr[base+i]?=some x) (dk:D key) (dx:D x) (q:Q (some (byd f left key x)) st) :
  wpS 'm' A E s (YT left key arr base i) Q st:=by
 unfold YT;rw[elem'_eq,hx];refine qp (qv ?_);cases left with
 | true=>exact hA _ _ _ _ dx dk hk q
 | false=>exact qp (hA _ _ _ _ dk dx hk (qv q))
theorem qfv (hA:Ask prog w A E s kd D f) {key:Keyed}{hint:Nat}{Q:Option Nat->SortSt->Prop}(hk:kindOf st=kd) (xs:List Keyed)
  (hn:xs.length=n) (hx:∀ i (h:i<xs.length),arr[base+i]?=some xs[i]) (dk:D key) (dx:∀ x∈xs,D x) (hh:hint<n) (hm:∀ i j (hi:i<xs.length) (hj:j<xs.length),i<=j->byd f left key xs[j]=true->byd f left key xs[i]=true)
  (q:∀ k,k<=n->(∀ i (h:i<xs.length),i<k->byd f left key xs[i]=true)->(∀ i (h:i<xs.length),k<=i->byd f left key xs[i]=false)->Q (some k) st) :
  wpS 'm' A E s (jP left key arr base n hint) Q st:=by
 have ask:∀ (i:Nat) (h:i<xs.length) (Q:Option Bool->SortSt->Prop),Q (some (byd f left key xs[i])) st->wpS 'm' A E s (YT left key arr base i) Q st:=fun i h Q q=>qfw hA hk (hx i h) dk (dx _ (yh h)) q;generalize hp:(fun x=>byd f left key x)=p at *;have hp':∀ x,byd f left key x=p x:=fun x=>by rw[<- hp]
 simp only[hp'] at hm q ask;subst hn;rw[qfe];dsimp only;refine qp (ask hint hh _ ?_);dsimp only;cases hc:p xs[hint] with
 | true =>
  simp only[if_true];refine qp (jD (yE (I:=fun x c st'=>st'=st/\∃ l o,c=(none,l,o)/\l<o/\x+1<=o/\hint+l<xs.length/\(∀ h:hint+l<xs.length,p xs[hint+l]=true))
   (Q:=fun c st'=>st'=st/\∃ l o,c=(none,l,o)/\l<o/\hint+l<xs.length/\(∀ h:hint+l<xs.length,p xs[hint+l]=true)/\(xs.length<=hint+o\/∃ h:hint+o<xs.length,p xs[hint+o]=false)) ?step ?fin ⟨rfl,0,1,rfl,'o','o',hh,fun _=>hc⟩) ?post)
  case fin =>
   rintro c st' ⟨rfl,l,o,rfl,a1,a2,a3,a4⟩;exact⟨rfl,l,o,rfl,a1,a3,a4,.inl 'o'⟩
  case step =>
   rintro x c st' _ hx' ⟨rfl,l,o,rfl,a1,a2,a3,a4⟩;dsimp only;by_cases hge:o ≥ xs.length - hint
   .rw [if_pos hge];exact qv ⟨rfl,l,o,rfl,a1,a3,a4,.inl 'o'⟩
   .rw [if_neg hge];have ho:hint+o<xs.length:=by omega
    refine qp (ask _ ho _ ?_);dsimp only;cases hc2:p xs[hint+o] with
    | true =>
     simp only[Jh,ql,if_false];exact qv ⟨rfl,o,2 * o+1,rfl,'o','o',ho,fun _=>hc2⟩
    | false =>
     simp only[Bool.not_false,if_true];exact qv ⟨rfl,l,o,rfl,a1,a3,a4,.inr ⟨ho,hc2⟩⟩
  case post =>
   rintro c st' ⟨rfl,l,o,rfl,a1,a3,a4,a5⟩;dsimp only;have h3:∀ i (h:i<xs.length),i<(hint+l+1)->p xs[i]=true:=fun i h hi=>by exact hm i (hint+l) h a3 'o' (a4 a3)
   have h4:∀ i (h:i<xs.length),(hint+min o (xs.length - hint))<=i->p xs[i]=false:=fun i h hi=>by
    rcases a5 with a5 | ⟨a5,a6⟩
    .exact absurd h 'o'
    .cases hz:p xs[i] with
     | false=>rfl
     | true=>rw[hm (hint+o) i a5 h 'o' hz] at a6;cases a6
   refine qp (jD (yE (I:=fun x c sx=>sx=st'/\∃ l r,c=(none,l,r)/\l<=r/\r<=xs.length/\r - l<=xs.length - x/\(∀ i (h:i<xs.length),i<l->p xs[i]=true)/\(∀ i (h:i<xs.length),r<=i->p xs[i]=false))
    (Q:=fun c sx=>sx=st'/\∃ r,c=(none,r,r)/\r<=xs.length/\(∀ i (h:i<xs.length),i<r->p xs[i]=true)/\(∀ i (h:i<xs.length),r<=i->p xs[i]=false)) ?step0 ?fin0 ⟨rfl,(hint+l+1),(hint+min o (xs.length - hint)),rfl,'o','o','o',h3,h4⟩) ?post0)
   case fin0 =>
    rintro c st' ⟨rfl,l,r,rfl,a1,a2,a3,a4,a5⟩;have:l=r:=by omega
    subst this;exact⟨rfl,l,rfl,a2,a4,a5⟩
   case step0 =>
    rintro x c st' _ hx' ⟨rfl,l,r,rfl,a1,a2,a3,a4,a5⟩;dsimp only;by_cases hge:l ≥ r
    .rw [if_pos hge];have:l=r:=by omega
     subst this;exact qv ⟨rfl,l,rfl,a2,a4,a5⟩
    .rw [if_neg hge];have hmid:l+(r - l) / 2<xs.length:=by omega
     refine qp (ask _ hmid _ ?_);dsimp only;cases hc:p xs[l+(r - l) / 2] with
     | true =>
      simp only[if_true];refine qv ⟨rfl,_,_,rfl,'o','o','o',fun i h hi=>?_,a5⟩;exact hm i (l+(r - l) / 2) h hmid 'o' hc
     | false =>
      simp only[ql,if_false];refine qv ⟨rfl,_,_,rfl,'o','o','o',a4,fun i h hi=>?_⟩;cases hz:p xs[i] with
      | false=>rfl
      | true=>rw[hm (l+(r - l) / 2) i hmid h hi hz] at hc;cases hc
   case post0 =>
    rintro c st' ⟨rfl,r,rfl,a2,a4,a5⟩;exact qv (q r a2 a4 a5)
 | false =>
  simp only[ql,if_false];refine qp (jD (yE (I:=fun x c st'=>st'=st/\∃ l o,c=(none,l,o)/\l<o/\x+1<=o/\l<=hint/\(∀ h:hint - l<xs.length,p xs[hint - l]=false))
   (Q:=fun c st'=>st'=st/\∃ l o,c=(none,l,o)/\l<o/\l<=hint/\(∀ h:hint - l<xs.length,p xs[hint - l]=false)/\(hint+1<=o\/(o<=hint/\∃ h:hint - o<xs.length,p xs[hint - o]=true))) ?step ?fin ⟨rfl,0,1,rfl,'o','o','o',fun _=>hc⟩) ?post)
  case fin =>
   rintro c st' ⟨rfl,l,o,rfl,a1,a2,a3,a4⟩;exact⟨rfl,l,o,rfl,a1,a3,a4,.inl 'o'⟩
  case step =>
   rintro x c st' _ hx' ⟨rfl,l,o,rfl,a1,a2,a3,a4⟩;dsimp only;by_cases hge:o ≥ hint+1
   .rw [if_pos hge];exact qv ⟨rfl,l,o,rfl,a1,a3,a4,.inl 'o'⟩
   .rw [if_neg hge];have ho:hint - o<xs.length:=by omega
    refine qp (ask _ ho _ ?_);dsimp only;cases hc2:p xs[hint - o] with
    | true =>
     simp only[if_true];exact qv ⟨rfl,l,o,rfl,a1,a3,a4,.inr ⟨'o',ho,hc2⟩⟩
    | false =>
     simp only[ql,if_false];exact qv ⟨rfl,o,2 * o+1,rfl,'o','o','o',fun _=>hc2⟩
  case post =>
   rintro c st' ⟨rfl,l,o,rfl,a1,a3,a4,a5⟩;dsimp only;have h3:∀ i (h:i<xs.length),i<(hint+1 - min o (hint+1))->p xs[i]=true:=fun i h hi=>by
    rcases a5 with a5 | ⟨a5,a6,a7⟩
    .exact absurd hi 'o'
    .exact hm i (hint - o) h a6 'o' a7
   have h4:∀ i (h:i<xs.length),(hint - l)<=i->p xs[i]=false:=fun i h hi=>by
    have hz0:=a4 'o';cases hz:p xs[i] with
    | false=>rfl
    | true=>rw[hm (hint - l) i 'o' h hi hz] at hz0;cases hz0
   refine qp (jD (yE (I:=fun x c sx=>sx=st'/\∃ l r,c=(none,l,r)/\l<=r/\r<=xs.length/\r - l<=xs.length - x/\(∀ i (h:i<xs.length),i<l->p xs[i]=true)/\(∀ i (h:i<xs.length),r<=i->p xs[i]=false))
    (Q:=fun c sx=>sx=st'/\∃ r,c=(none,r,r)/\r<=xs.length/\(∀ i (h:i<xs.length),i<r->p xs[i]=true)/\(∀ i (h:i<xs.length),r<=i->p xs[i]=false)) ?step1 ?fin1 ⟨rfl,(hint+1 - min o (hint+1)),(hint - l),rfl,'o','o','o',h3,h4⟩) ?post1)
   case fin1 =>
    rintro c st' ⟨rfl,l,r,rfl,a1,a2,a3,a4,a5⟩;have:l=r:=by omega
    subst this;exact⟨rfl,l,rfl,a2,a4,a5⟩
   case step1 =>
    rintro x c st' _ hx' ⟨rfl,l,r,rfl,a1,a2,a3,a4,a5⟩;dsimp only;by_cases hge:l ≥ r
    .rw [if_pos hge];have:l=r:=by omega
     subst this;exact qv ⟨rfl,l,rfl,a2,a4,a5⟩
    .rw [if_neg hge];have hmid:l+(r - l) / 2<xs.length:=by omega
     refine qp (ask _ hmid _ ?_);dsimp only;cases hc:p xs[l+(r - l) / 2] with
     | true =>
      simp only[if_true];refine qv ⟨rfl,_,_,rfl,'o','o','o',fun i h hi=>?_,a5⟩;exact hm i (l+(r - l) / 2) h hmid 'o' hc
     | false =>
      simp only[ql,if_false];refine qv ⟨rfl,_,_,rfl,'o','o','o',a4,fun i h hi=>?_⟩;cases hz:p xs[i] with
      | false=>rfl
      | true=>rw[hm (l+(r - l) / 2) i hmid h hi hz] at hc;cases hc
   case post1 =>
    rintro c st' ⟨rfl,r,rfl,a2,a4,a5⟩;exact qv (q r a2 a4 a5)
end
end L2
namespace L2
open W
variable {f:Keyed->Keyed->Bool}{X B:List Keyed}{D:Keyed->Prop}{mg:Nat}
theorem qjD (O:OrdK f) {key:Keyed}{xs:List Keyed}(hs:SdK f xs) (i j:Nat) (hi:i<xs.length) (hj:j<xs.length) (hij:i<=j) (h:byd f left key xs[j]=true):byd f left key xs[i]=true:=by
 have hle:f xs[j] xs[i]=false:=by
  by_cases e:i=j
  .subst e;exact O.irr _
  .exact yp.mp hs i j hi hj 'l'
 unfold byd at *;cases left with
 | true =>
  simp only[if_true] at *;exact O.lel hle h
 | false =>
  simp only[ql,if_false,Bool.not_eq_true'] at *;exact O.le hle h
theorem mv {out A:List Keyed}(h1:SdK f (out++(X++A))) (h2:SdK f (out++B)) (c:∀ x∈X,∀ y∈B,f y x=false):SdK f ((out++X)++A)/\SdK f ((out++X)++B):=by
 unfold SdK at *;refine⟨by rw[qm];exact h1,?_⟩;rw[<- qm] at h1;obtain⟨g1,_,_⟩:=yo.mp h1;obtain⟨_,k2,k3⟩:=yo.mp h2;refine yo.mpr ⟨g1,k2,fun x hx y hy=>?_⟩;rcases qG.mp hx with h | h
 .exact k3 x h y hy
 .exact c x h y hy
theorem qpD {O' A:List Keyed}(h1:SdK f ((A++X)++O')) (h2:SdK f (B++O')) (c:∀ x∈X,∀ y∈B,f x y=false):SdK f (A++(X++O'))/\SdK f (B++(X++O')):=by
 unfold SdK at *;rw[qm] at h1;refine⟨h1,?_⟩;obtain⟨_,g1,_⟩:=yo.mp h1;obtain⟨k1,_,k3⟩:=yo.mp h2;refine yo.mpr ⟨k1,g1,fun x hx y hy=>?_⟩;rcases qG.mp hy with h | h
 .exact c y h x hx
 .exact k3 x hx y h
theorem qaV (hA:Ask prog w A E s kd D f) (O:OrdK f) {key:Keyed}{base hint:Nat}{Q:Option Nat->SortSt->Prop}(hk:kindOf st=kd) (xs:List Keyed)
  (hn:xs.length=n) (hx:∀ i,i<xs.length->arr[base+i]?=xs[i]?) (dk:D key) (dx:∀ x∈xs,D x) (hh:hint<n) (hs:SdK f xs)
  (q:∀ k,k<=n->(∀ x∈xs.take k,byd f left key x=true)->(∀ x∈xs.drop k,byd f left key x=false)->Q (some k) st) :
  wpS 'm' A E s (jP left key arr base n hint) Q st:=by
 refine qfv hA hk xs hn (fun i h=>by rw[hx i h,qh h]) dk dx hh (qjD O hs) fun k h1 h2 h3=>q k h1 (fun x hx=>?_) (fun x hx=>?_)
 .obtain ⟨i,hi,rfl⟩:=List.mem_iff_getElem.mp hx;rw[List.getElem_take];exact h2 i _ (by rw[jI] at hi;lia)
 .obtain ⟨i,hi,rfl⟩:=List.mem_iff_getElem.mp hx;rw[List.getElem_drop];exact h3 (k+i) _ 'l'
def yX (st st':SortSt):Prop:=kindOf st'=kindOf st/\arrOf st'=arrOf st/\pendingOf st'=pendingOf st/\failedOf st'=failedOf st
theorem yX.refl (st:SortSt):yX st st:=⟨rfl,rfl,rfl,rfl⟩
theorem yX.trans {a b c:SortSt}(h:yX a b) (g:yX b c):yX a c:=⟨g.1.trans h.1,g.2.1.trans h.2.1,g.2.2.1.trans h.2.2.1,g.2.2.2.trans h.2.2.2⟩
def ZZ:Array Keyed->Array Keyed->StateT SortSt Sem (Array Keyed):=sortPriv% PySem.Builtin.mergeLo
def yK:Nat->StateT SortSt Sem Unit:=sortPriv% PySem.Builtin.setMinGallop
theorem jw (g:Nat):yK g=modify fun s=>SortSt.mk' (kindOf s) (arrOf s) (pendingOf s) g (failedOf s):=rfl
abbrev GS:=Option (Array Keyed)×Array Keyed×Nat×Nat×Nat×Nat×Nat
abbrev CS:=Option (Array Keyed)×Array Keyed×Nat×Nat×Nat×Nat
def qpE (a b:Array Keyed) (out:Array Keyed) (ia ib mg ac bc:Nat):StateT SortSt Sem (ForInStep GS):=do
 let x <- elem' a ia
 if (ia+1+1 == a.size)=true then pure (.done (some (out.push x++b.extract ib b.size++a.extract (ia+1) a.size),out.push x,ia+1,ib,mg,ac,bc))
 else if (decide (ac<7) && decide (bc<7))=true then pure (.done (none,out.push x,ia+1,ib,mg,ac,bc))
 else pure (.yield (none,out.push x,ia+1,ib,mg,ac,bc))
def loG3 (a b:Array Keyed) (out:Array Keyed) (ia ib mg ac bc:Nat):StateT SortSt Sem (ForInStep GS):=do
 let x <- elem' a ia
 let k <- jP true x b ib (b.size - ib) 0
 match k with
 | some k =>
  if k > 0 then
   if (ib+k == b.size)=true then pure (.done (some (out++b.extract ib (ib+k)++a.extract ia a.size++b.extract (ib+k) b.size),out++b.extract ib (ib+k),ia,ib+k,mg,ac,k))
   else qpE a b (out++b.extract ib (ib+k)) ia (ib+k) mg ac k
  else qpE a b out ia ib mg ac k
 | _=>pure (.done (some (out++a.extract ia a.size++b.extract ib b.size),out,ia,ib,mg,ac,bc))
def qpF (a b:Array Keyed) (out:Array Keyed) (ia ib mg ac bc:Nat):StateT SortSt Sem (ForInStep GS):=do
 let x <- elem' b ib
 if (ib+1 == b.size)=true then pure (.done (some (out.push x++a.extract ia a.size++b.extract (ib+1) b.size),out.push x,ia,ib+1,mg,ac,bc))
 else loG3 a b (out.push x) ia (ib+1) mg ac bc
def qpG (a b:Array Keyed) (out:Array Keyed) (ia ib mg ac bc:Nat):StateT SortSt Sem (ForInStep GS):=do
 yK mg
 let x <- elem' b ib
 let k <- jP false x a ia (a.size - ia) 0
 match k with
 | some k =>
  if k > 0 then
   if (ia+k+1 == a.size)=true then pure (.done (some (out++a.extract ia (ia+k)++b.extract ib b.size++a.extract (ia+k) a.size),out++a.extract ia (ia+k),ia+k,ib,mg,k,bc))
   else if (ia+k == a.size)=true then pure (.done (some (out++a.extract ia (ia+k)++a.extract (ia+k) a.size++b.extract ib b.size),out++a.extract ia (ia+k),ia+k,ib,mg,k,bc))
   else qpF a b (out++a.extract ia (ia+k)) (ia+k) ib mg k bc
  else qpF a b out ia ib mg k bc
 | _=>pure (.done (some (out++a.extract ia a.size++b.extract ib b.size),out,ia,ib,mg,ac,bc))
def loGB (a b:Array Keyed) (_:Nat) (c:GS):StateT SortSt Sem (ForInStep GS) :=
 if c.2.2.2.2.1 > 1 then qpG a b c.2.1 c.2.2.1 c.2.2.2.1 (c.2.2.2.2.1 - 1) c.2.2.2.2.2.1 c.2.2.2.2.2.2 else qpG a b c.2.1 c.2.2.1 c.2.2.2.1 c.2.2.2.2.1 c.2.2.2.2.2.1 c.2.2.2.2.2.2
def loCB (a b:Array Keyed) (mg:Nat) (_:Nat) (c:CS):StateT SortSt Sem (ForInStep CS):=do
 let y <- elem' b c.2.2.2.1
 let x <- elem' a c.2.2.1
 let r <- lt' y x
 match r with
 | some bWins =>
  if bWins=true then do
   let y <- elem' b c.2.2.2.1
   if (c.2.2.2.1+1 == b.size)=true then pure (.done (some (c.2.1.push y++a.extract c.2.2.1 a.size++b.extract (c.2.2.2.1+1) b.size),c.2.1.push y,c.2.2.1,c.2.2.2.1+1,0,c.2.2.2.2.2+1))
   else if c.2.2.2.2.2+1 ≥ mg then pure (.done (none,c.2.1.push y,c.2.2.1,c.2.2.2.1+1,0,c.2.2.2.2.2+1))
   else pure (.yield (none,c.2.1.push y,c.2.2.1,c.2.2.2.1+1,0,c.2.2.2.2.2+1))
  else do
   let x <- elem' a c.2.2.1
   if (c.2.2.1+1+1 == a.size)=true then pure (.done (some (c.2.1.push x++b.extract c.2.2.2.1 b.size++a.extract (c.2.2.1+1) a.size),c.2.1.push x,c.2.2.1+1,c.2.2.2.1,c.2.2.2.2.1+1,0))
   else if c.2.2.2.2.1+1 ≥ mg then pure (.done (none,c.2.1.push x,c.2.2.1+1,c.2.2.2.1,c.2.2.2.2.1+1,0))
   else pure (.yield (none,c.2.1.push x,c.2.2.1+1,c.2.2.2.1,c.2.2.2.2.1+1,0))
 | _=>pure (.done (some (c.2.1++a.extract c.2.2.1 a.size++b.extract c.2.2.2.1 b.size),c.2.1,c.2.2.1,c.2.2.2.1,c.2.2.2.2.1,c.2.2.2.2.2))
abbrev OS:=Option (Array Keyed)×Array Keyed×Nat×Nat×Nat
def loOB (a b:Array Keyed) (_:Nat) (c:OS):StateT SortSt Sem (ForInStep OS):=do
 let c1 <- forIn [0:a.size+b.size] ((none,c.2.1,c.2.2.1,c.2.2.2.1,0,0):CS) (loCB a b c.2.2.2.2)
 match c1.1 with
 | some r=>pure (.done (some r,c1.2.1,c1.2.2.1,c1.2.2.2.1,c.2.2.2.2))
 | none=>do
  liftM (rule "list.sort.gallop")
  let c2 <- forIn [0:a.size+b.size] ((none,c1.2.1,c1.2.2.1,c1.2.2.2.1,c.2.2.2.2+1,c1.2.2.2.2.1,c1.2.2.2.2.2):GS) (loGB a b)
  match c2.1 with
  | some r=>pure (.done (some r,c2.2.1,c2.2.2.1,c2.2.2.2.1,c2.2.2.2.2.1))
  | none=>do
   yK (c2.2.2.2.2.1+1)
   pure (.yield (none,c2.2.1,c2.2.2.1,c2.2.2.2.1,c2.2.2.2.2.1+1))
theorem qct (a b:Array Keyed):ZZ a b=(do
 rule "list.sort.merge-lo"
 let total:=a.size+b.size
 let done (out:Array Keyed) (ia ib:Nat):=out++a.extract ia a.size++b.extract ib b.size
 let lastOfA (out:Array Keyed) (ia ib:Nat):=out++b.extract ib b.size++a.extract ia a.size
 let mut out:Array Keyed:=#[<- elem' b 0]
 let mut ia:=0
 let mut ib:=1
 if ib == b.size then return done out ia ib
 if ia+1 == a.size then return lastOfA out ia ib
 let mut minGallop:=gallopOf (<- get)
 for _ in [0:total] do
  let mut acount:=0
  let mut bcount:=0
  for _ in [0:total] do
   let some bWins <- lt' (<- elem' b ib) (<- elem' a ia) | return done out ia ib
   if bWins then
    out:=out.push (<- elem' b ib);ib:=ib+1;bcount:=bcount+1;acount:=0
    if ib == b.size then return done out ia ib
    if bcount ≥ minGallop then break
   else
    out:=out.push (<- elem' a ia);ia:=ia+1;acount:=acount+1;bcount:=0
    if ia+1 == a.size then return lastOfA out ia ib
    if acount ≥ minGallop then break
  rule "list.sort.gallop"
  minGallop:=minGallop+1
  for _ in [0:total] do
   if minGallop > 1 then minGallop:=minGallop - 1
   yK minGallop
   let some k <- jP false (<- elem' b ib) a ia (a.size - ia) 0 | return done out ia ib
   acount:=k
   if k > 0 then
    out:=out++a.extract ia (ia+k);ia:=ia+k
    if ia+1 == a.size then return lastOfA out ia ib
    if ia == a.size then return done out ia ib
   out:=out.push (<- elem' b ib);ib:=ib+1
   if ib == b.size then return done out ia ib
   let some k <- jP true (<- elem' a ia) b ib (b.size - ib) 0 | return done out ia ib
   bcount:=k
   if k > 0 then
    out:=out++b.extract ib (ib+k);ib:=ib+k
    if ib == b.size then return done out ia ib
   out:=out.push (<- elem' a ia);ia:=ia+1
   if ia+1 == a.size then return lastOfA out ia ib
   if acount<7 && bcount<7 then break
  minGallop:=minGallop+1
  yK minGallop
 unsupported "internal:list.sort.merge-bound"):=rfl
theorem qdt (a b:Array Keyed):ZZ a b=(do
 liftM (rule "list.sort.merge-lo")
 let y <- elem' b 0
 if (1 == b.size)=true then pure (#[y]++a.extract 0 a.size++b.extract 1 b.size)
 else if (0+1 == a.size)=true then pure (#[y]++b.extract 1 b.size++a.extract 0 a.size)
 else do
  let g <- get
  let c <- forIn [0:a.size+b.size] ((none,#[y],0,1,gallopOf g):OS) (loOB a b)
  match c.1 with
  | some r=>pure r
  | none=>liftM (unsupported "internal:list.sort.merge-bound" : Sem (Array Keyed))):=by
 rw[qct];dsimp only;congr 1;funext _u
 congr 1;funext y
 congr 1;congr 1;congr 1;funext g
 congr 1
 .congr 1;funext i c
  unfold loOB;congr 1;funext c1
  obtain⟨r1,o1,ia1,ib1,ac1,bc1⟩:=c1;cases r1 with
  | some r=>rfl
  | none =>
   dsimp only;congr 1;funext _v
   congr 1;funext c2
   obtain⟨r2,o2,ia2,ib2,m2,ac2,bc2⟩:=c2;cases r2 <;> rfl
 .funext c
  obtain⟨r,o,ia,ib,m⟩:=c;cases r <;> rfl
section
variable {a b:Array Keyed}
def YV (f:Keyed->Keyed->Bool) (a b:Array Keyed) (o:Array Keyed):Prop:=SdK f o.toList/\o.toList.Perm (a.toList++b.toList)
structure JL (f:Keyed->Keyed->Bool) (a b out:Array Keyed) (ia ib:Nat):Prop where
 s1:SdK f (out.toList++a.toList.drop ia)
 s2:SdK f (out.toList++b.toList.drop ib)
 pm:(out.toList++(a.toList.drop ia++b.toList.drop ib)).Perm (a.toList++b.toList)
structure Both (D:Keyed->Prop) (f:Keyed->Keyed->Bool) (a b:Array Keyed):Prop where
 da:∀ x∈a.toList,D x
 db:∀ x∈b.toList,D x
 na:0<a.size
 nb:0<b.size
 last:∀ x∈b.toList,f x (a[a.size - 1]'('o'))=true
 first:f (b[0]'nb) (a[0]'na)=true
 sa:SdK f a.toList
 sb:SdK f b.toList
theorem getD? (h:i<xs.size):xs[i]?=some xs[i]:=jT h
theorem Jb (h:i<xs.size):xs.toList.drop i=xs[i]::xs.toList.drop (i+1):=by rw[List.drop_eq_getElem_cons (by simpa using h)];rfl
theorem qau (O:OrdK f) (hs:SdK f xs.toList) (h:i<xs.size) {y:Keyed}(hy:y∈xs.toList.drop i):f y xs[i]=false:=by
 rw[Jb h] at hy;rcases qF.mp hy with rfl | hy
 .exact O.irr _
 .have:SdK f (xs.toList.drop i):=List.Pairwise.sublist (List.drop_sublist _ _) hs;rw[Jb h] at this;exact (List.pairwise_cons.mp this).1 _ hy
theorem JL.pushB (O:OrdK f) (hb:Both D f a b) (j:JL f a b out ia ib) (h1:ia<a.size) (h2:ib<b.size) (h:f a[ia] b[ib]=false):JL f a b (out.push b[ib]) ia (ib+1):=by
 have e:=Jb h2;have s2:=j.s2;have pm:=j.pm;rw[e] at s2 pm;obtain⟨g1,g2⟩:=mv (X:=[b[ib]]) s2 j.s1 (fun x hx y hy=>by
  rw[qJ.mp hx];exact O.le h (qau O hb.sa h1 hy))
 refine⟨by rw[jc];exact g2,by rw[jc];exact g1,?_⟩;rw[jc,qm];refine List.Perm.trans (List.Perm.append_left _ ?_) pm;exact (List.perm_middle (l₁:=a.toList.drop ia) (l₂:=b.toList.drop (ib+1)) (a:=b[ib])).symm
theorem JL.pushA (O:OrdK f) (hb:Both D f a b) (j:JL f a b out ia ib) (h1:ia<a.size) (h2:ib<b.size) (h:f b[ib] a[ia]=false):JL f a b (out.push a[ia]) (ia+1) ib:=by
 have e:=Jb h1;have s1:=j.s1;have pm:=j.pm;rw[e] at s1 pm;obtain⟨g1,g2⟩:=mv (X:=[a[ia]]) s1 j.s2 (fun x hx y hy=>by
  rw[qJ.mp hx];exact O.le h (qau O hb.sb h2 hy))
 refine⟨by rw[jc];exact g1,by rw[jc];exact g2,?_⟩;rw[jc,qm];exact pm
theorem JR (xs:Array Keyed) (i k:Nat):(xs.extract i (i+k)).toList=(xs.toList.drop i).take k:=by simp[jZ,jd]
theorem Jl (xs:Array Keyed) (i:Nat):(xs.extract i xs.size).toList=xs.toList.drop i:=by
 simp[jZ,jd];exact y8 's'
theorem qbe (xs:Array Keyed) (i k:Nat):xs.toList.drop i=(xs.toList.drop i).take k++xs.toList.drop (i+k):=by
 have:=(q9 k (xs.toList.drop i)).symm;rwa[List.drop_drop] at this
theorem JL.chunkA (O:OrdK f) (hb:Both D f a b) (j:JL f a b out ia ib) (h2:ib<b.size) {k:Nat}(h:∀ x∈(a.toList.drop ia).take k,f b[ib] x=false):JL f a b (out++a.extract ia (ia+k)) (ia+k) ib:=by
 have s1:=j.s1;have pm:=j.pm;rw[qbe a ia k] at s1 pm;obtain⟨g1,g2⟩:=mv s1 j.s2 (fun x hx y hy=>O.le (h x hx) (qau O hb.sb h2 hy));refine⟨by rw[qO,JR];exact g1,by rw[qO,JR];exact g2,?_⟩;rw[qO,JR,qm,<- qm ((a.toList.drop ia).take k)];exact pm
theorem JL.chunkB (O:OrdK f) (hb:Both D f a b) (j:JL f a b out ia ib) (h1:ia<a.size) {k:Nat}(h:∀ x∈(b.toList.drop ib).take k,f a[ia] x=false):JL f a b (out++b.extract ib (ib+k)) ia (ib+k):=by
 have s2:=j.s2;have pm:=j.pm;rw[qbe b ib k] at s2 pm;obtain⟨g1,g2⟩:=mv s2 j.s1 (fun x hx y hy=>O.le (h x hx) (qau O hb.sa h1 hy));refine⟨by rw[qO,JR];exact g2,by rw[qO,JR];exact g1,?_⟩;rw[qO,JR,qm];refine List.Perm.trans (List.Perm.append_left _ ?_) pm;rw[<- qm,<- qm];exact List.Perm.append_right _ List.perm_append_comm
theorem JL.done (j:JL f a b out ia ib) (h:a.size<=ia\/b.size<=ib):YV f a b (out++a.extract ia a.size++b.extract ib b.size):=by
 refine⟨?_,?_⟩
 .rw [qO,qO,Jl,Jl];rcases h with h | h
  .rw [List.drop_of_length_le (show a.toList.length<=ia by simpa using h),j8];exact j.s2
  .rw [List.drop_of_length_le (show b.toList.length<=ib by simpa using h),j8];exact j.s1
 .rw [qO,qO,Jl,Jl,qm];exact j.pm
theorem JL.lastA (O:OrdK f) (hb:Both D f a b) (j:JL f a b out ia ib) (h:ia+1=a.size):YV f a b (out++b.extract ib b.size++a.extract ia a.size):=by
 have e:a.toList.drop ia=[a[ia]]:=by rw[Jb (show ia<a.size by lia),List.drop_of_length_le (by simp;lia)]
 refine⟨?_,?_⟩
 .rw [qO,qO,Jl,Jl];have s1:=j.s1;rw[e] at s1 ⊢;unfold SdK at *;obtain⟨_,_,g3⟩:=yo.mp s1;refine yo.mpr ⟨j.s2,List.pairwise_singleton _ _,fun x hx y hy=>?_⟩;rcases qG.mp hx with z | z
  .exact g3 x z y hy
  .rw [qJ.mp hy];have:=hb.last x (js z);have e2:a.size - 1=ia:=by lia
   simp only[e2] at this;exact O.asym _ _ this
 .rw [qO,qO,Jl,Jl,qm];exact List.Perm.trans (List.Perm.append_left _ List.perm_append_comm) j.pm
def qjK (f:Keyed->Keyed->Bool) (a b:Array Keyed) (st:SortSt) (n0:Nat) (r:ForInStep GS) (st':SortSt):Prop:=yX st st'/\match r with
 | .done (some o,_)=>YV f a b o
 | .done (none,out,ia,ib,_)=>JL f a b out ia ib/\ia+1<a.size/\ib<b.size/\n0<=ia+ib
 | .yield (none,out,ia,ib,_)=>JL f a b out ia ib/\ia+1<a.size/\ib<b.size/\n0<=ia+ib
 | .yield (some _,_)=>False
theorem yR (h:i<xs.size) {Q:Keyed->SortSt->Prop}(q:Q xs[i] st):wpS 'm' A E s (elem' xs i) Q st:=by
 rw[elem'_eq,getD? h];exact qv q
theorem qfp (O:OrdK f) (hb:Both D f a b) (hst:yX st0 st) (j:JL f a b out ia ib) (h1:ia+1<a.size) (h2:ib<b.size) (hn:n0<=ia+ib) (h:f b[ib] (a[ia]'('o'))=false) :
  wpS 'm' A E s (qpE a b out ia ib mg ac bc) (qjK f a b st0 n0) st:=by
 unfold qpE;refine qp (yR (show ia<a.size by lia) ?_);have j2:=j.pushA O hb (show ia<a.size by lia) h2 h;by_cases e:ia+1+1=a.size
 .rw [if_pos (by simpa using e)];exact qv ⟨hst,j2.lastA O hb e⟩
 .rw [if_neg (by simpa using e)];split
  .exact qv ⟨hst,j2,'l',h2,'l'⟩
  .exact qv ⟨hst,j2,'l',h2,'l'⟩
theorem qkO (hA:Ask prog w A E s kd D f) (O:OrdK f) (hb:Both D f a b) (hk:kindOf st0=kd) (hst:yX st0 st) (j:JL f a b out ia ib) (h1:ia+1<a.size) (h2:ib<b.size) (hn:n0<=ia+ib) :
  wpS 'm' A E s (loG3 a b out ia ib mg ac bc) (qjK f a b st0 n0) st:=by
 unfold loG3;refine qp (yR (show ia<a.size by lia) ?_);refine qp (qaV hA O (hst.1.trans hk) (b.toList.drop ib) 's' (fun i hi=>?_) (hb.da _ 's') (fun x hx=>hb.db x (js hx)) 'l' (List.Pairwise.sublist (List.drop_sublist _ _) hb.sb) fun k hk1 hk2 hk3=>?_)
 .rw [List.getElem?_drop,qA]
 have hlt:∀ x∈(b.toList.drop ib).take k,f x (a[ia]'('l'))=true:=fun x hx=>hk2 x hx;have hge:∀ x∈(b.toList.drop ib).drop k,f x (a[ia]'('l'))=false:=fun x hx=>hk3 x hx;have j2:=j.chunkB O hb (show ia<a.size by lia) (k:=k) (fun x hx=>O.asym _ _ (hlt x hx));have nxt:∀ h:ib+k<b.size,f b[ib+k] (a[ia]'('l'))=false:=fun h=>hge _ (by
  rw[List.drop_drop,Jb h];exact qj)
 dsimp only;by_cases hk0:k > 0
 .rw [if_pos hk0];by_cases e:ib+k=b.size
  .rw [if_pos (by simpa using e)];exact qv ⟨hst,j2.done (.inr 'l')⟩
  .rw [if_neg (by simpa using e)];exact qfp O hb hst j2 h1 'l' 'l' (nxt 'l')
 .rw [if_neg hk0];have:k=0:=by lia
  subst this;exact qfp O hb hst j h1 h2 hn (nxt h2)
theorem qfq (hA:Ask prog w A E s kd D f) (O:OrdK f) (hb:Both D f a b) (hk:kindOf st0=kd) (hst:yX st0 st) (j:JL f a b out ia ib) (h1:ia+1<a.size) (h2:ib<b.size) (hn:n0<=ia+ib) (h:f (a[ia]'('o')) b[ib]=false) :
  wpS 'm' A E s (qpF a b out ia ib mg ac bc) (qjK f a b st0 n0) st:=by
 unfold qpF;refine qp (yR h2 ?_);have j2:=j.pushB O hb (show ia<a.size by lia) h2 h;by_cases e:ib+1=b.size
 .rw [if_pos (by simpa using e)];exact qv ⟨hst,j2.done (.inr 'l')⟩
 .rw [if_neg (by simpa using e)];exact qkO hA O hb hk hst j2 h1 'l' 'l'
theorem qfr (hA:Ask prog w A E s kd D f) (O:OrdK f) (hb:Both D f a b) (hk:kindOf st0=kd) (hst:yX st0 st) (j:JL f a b out ia ib) (h1:ia+1<a.size) (h2:ib<b.size) (hn:n0<=ia+ib) :
  wpS 'm' A E s (qpG a b out ia ib mg ac bc) (qjK f a b st0 n0) st:=by
 unfold qpG;rw[jw];refine qp (j3 ?_);have hst2:=hst.trans (show yX st (SortSt.mk' (kindOf st) (arrOf st) (pendingOf st) mg (failedOf st)) from ⟨rfl,rfl,rfl,rfl⟩);generalize SortSt.mk' (kindOf st) (arrOf st) (pendingOf st) mg (failedOf st)=st2 at hst2 ⊢;refine qp (yR h2 ?_);refine qp (qaV hA O (hst2.1.trans hk) (a.toList.drop ia) 's' (fun i hi=>?_) (hb.db _ 's') (fun x hx=>hb.da x (js hx)) 'l' (List.Pairwise.sublist (List.drop_sublist _ _) hb.sa) fun k hk1 hk2 hk3=>?_)
 .rw [List.getElem?_drop,qA]
 have hle:∀ x∈(a.toList.drop ia).take k,f b[ib] x=false:=fun x hx=>by
  have:=hk2 x hx;simpa[byd] using this
 have hgt:∀ x∈(a.toList.drop ia).drop k,f b[ib] x=true:=fun x hx=>by
  have:=hk3 x hx;simpa[byd] using this
 have j2:=j.chunkA O hb h2 (k:=k) hle;have nxt:∀ h:ia+k<a.size,f a[ia+k] b[ib]=false:=fun h=>O.asym _ _ (hgt _ (by
  rw[List.drop_drop,Jb h];exact qj))
 dsimp only;by_cases hk0:k > 0
 .rw [if_pos hk0];by_cases e:ia+k+1=a.size
  .rw [if_pos (by simpa using e)];exact qv ⟨hst2,j2.lastA O hb e⟩
  .rw [if_neg (by simpa using e)];by_cases e2:ia+k=a.size
   .rw [if_pos (by simpa using e2)];exact qv ⟨hst2,j2.done (.inl 'l')⟩
   .rw [if_neg (by simpa using e2)];exact qfq hA O hb hk hst2 j2 'l' h2 'l' (nxt 'l')
 .rw [if_neg hk0];have:k=0:=by lia
  subst this;exact qfq hA O hb hk hst2 j h1 h2 hn (nxt 'l')
def CPost (f:Keyed->Keyed->Bool) (a b:Array Keyed) (st:SortSt) (n0:Nat) (r:CS) (st':SortSt):Prop:=yX st st'/\match r with
 | (some o,_)=>YV f a b o
 | (none,out,ia,ib,_)=>JL f a b out ia ib/\ia+1<a.size/\ib<b.size/\n0<ia+ib
theorem qmX (hA:Ask prog w A E s kd D f) (O:OrdK f) (hb:Both D f a b) (hk:kindOf st=kd) (j:JL f a b out ia ib) (h1:ia+1<a.size) (h2:ib<b.size) :
  wpS 'm' A E s (forIn [0:a.size+b.size] ((none,out,ia,ib,0,0):CS) (loCB a b mg)) (CPost f a b st (ia+ib)) st:=by
 refine yE (I:=fun x c st'=>yX st st'/\∃ out' ia' ib' ac bc,c=(none,out',ia',ib',ac,bc)/\JL f a b out' ia' ib'/\ia'+1<a.size/\ib'<b.size/\ia+ib+x<=ia'+ib') ?step ?fin ⟨yX.refl _,out,ia,ib,0,0,rfl,j,h1,h2,'l'⟩;case fin =>
  rintro c st' ⟨hst,out',ia',ib',ac,bc,rfl,j',g1,g2,g3⟩;exact⟨hst,j',g1,g2,'l'⟩
 case step =>
  rintro x c st' _ hx ⟨hst,out',ia',ib',ac,bc,rfl,j',g1,g2,g3⟩;unfold loCB;dsimp only;refine qp (yR g2 (qp (yR (show ia'<a.size by lia) ?_)));refine qp (hA _ _ _ _ (hb.db _ 's') (hb.da _ 's') (hst.1.trans hk) ?_);dsimp only;cases c:f b[ib'] (a[ia']'('l')) with
  | true =>
   simp only[if_true];refine qp (yR g2 ?_);have j2:=j'.pushB O hb (show ia'<a.size by lia) g2 (O.asym _ _ c);by_cases e:ib'+1=b.size
   .rw [if_pos (by simpa using e)];exact qv ⟨hst,j2.done (.inr 'l')⟩
   .rw [if_neg (by simpa using e)];split
    .exact qv ⟨hst,j2,g1,'l','l'⟩
    .exact qv ⟨hst,_,_,_,_,_,rfl,j2,g1,'l','l'⟩
  | false =>
   simp only[ql,if_false];refine qp (yR (show ia'<a.size by lia) ?_);have j2:=j'.pushA O hb (show ia'<a.size by lia) g2 c;by_cases e:ia'+1+1=a.size
   .rw [if_pos (by simpa using e)];exact qv ⟨hst,j2.lastA O hb e⟩
   .rw [if_neg (by simpa using e)];split
    .exact qv ⟨hst,j2,'l',g2,'l'⟩
    .exact qv ⟨hst,_,_,_,_,_,rfl,j2,'l',g2,'l'⟩
def qpw (f:Keyed->Keyed->Bool) (a b:Array Keyed) (st:SortSt) (n0:Nat) (r:GS) (st':SortSt):Prop:=yX st st'/\match r with
 | (some o,_)=>YV f a b o
 | (none,out,ia,ib,_)=>JL f a b out ia ib/\ia+1<a.size/\ib<b.size/\n0<=ia+ib
theorem qmW (hA:Ask prog w A E s kd D f) (O:OrdK f) (hb:Both D f a b) (hk:kindOf st0=kd) (hst:yX st0 st) (j:JL f a b out ia ib) (h1:ia+1<a.size) (h2:ib<b.size) :
  wpS 'm' A E s (forIn [0:a.size+b.size] ((none,out,ia,ib,mg,ac,bc):GS) (loGB a b)) (qpw f a b st0 (ia+ib)) st:=by
 refine yE (I:=fun x c st'=>yX st0 st'/\∃ out' ia' ib' mg ac bc,c=(none,out',ia',ib',mg,ac,bc)/\JL f a b out' ia' ib'/\ia'+1<a.size/\ib'<b.size/\ia+ib<=ia'+ib') ?step ?fin ⟨hst,out,ia,ib,mg,ac,bc,rfl,j,h1,h2,'l'⟩;case fin =>
  rintro c st' ⟨hst,out',ia',ib',mg,ac,bc,rfl,j',g1,g2,g3⟩;exact⟨hst,j',g1,g2,g3⟩
 case step =>
  rintro x c st' _ hx ⟨hst,out',ia',ib',mg,ac,bc,rfl,j',g1,g2,g3⟩;unfold loGB;dsimp only;split
  .refine jD (qfr hA O hb hk hst j' g1 g2 g3) fun r st'' h=>?_;obtain⟨h0,h⟩:=h;match r,h with
   | .done (some o,_),h=>exact⟨h0,h⟩
   | .done (none,out,ia,ib,_),h=>exact⟨h0,h⟩
   | .yield (none,out,ia,ib,m,c,d),h=>exact⟨h0,_,_,_,_,_,_,rfl,h⟩
  .refine jD (qfr hA O hb hk hst j' g1 g2 g3) fun r st'' h=>?_;obtain⟨h0,h⟩:=h;match r,h with
   | .done (some o,_),h=>exact⟨h0,h⟩
   | .done (none,out,ia,ib,_),h=>exact⟨h0,h⟩
   | .yield (none,out,ia,ib,m,c,d),h=>exact⟨h0,_,_,_,_,_,_,rfl,h⟩
theorem qeJ (hA:Ask prog w A E s kd D f) (O:OrdK f) (hb:Both D f a b) (hk:kindOf st=kd) {Q:Array Keyed->SortSt->Prop}(q:∀ o st',yX st st'->YV f a b o->Q o st') :
  wpS 'm' A E s (ZZ a b) Q st:=by
 rw[qdt];refine qp (wpS_lift (Jy ⟨rfl,?_⟩));refine qp (yR hb.nb ?_);have na:=hb.na;have nb:=hb.nb;have j0:JL f a b #[] 0 0:=⟨by simpa using hb.sa,by simpa using hb.sb,'s'⟩;have j1:JL f a b #[b[0]'nb] 0 1:=by
  have:=j0.pushB O hb na nb (O.asym _ _ hb.first);simpa using this
 by_cases e:b.size=1
 .rw [if_pos (by simp[e])];exact qv (q _ _ (yX.refl _) (j1.done (.inr 'l')))
 .rw [if_neg (by simpa using fun z:1=b.size=>e z.symm)];by_cases e2:0+1=a.size
  .rw [if_pos (by simpa using e2)];exact qv (q _ _ (yX.refl _) (j1.lastA O hb e2))
  .rw [if_neg (by simpa using e2)];refine qp (wpS_get ?_);refine qp (jD (yE (I:=fun x c st'=>yX st st'/\∃ out ia ib mg,c=(none,out,ia,ib,mg)/\JL f a b out ia ib/\ia+1<a.size/\ib<b.size/\x+1<=ia+ib)
    (Q:=fun c st'=>yX st st'/\∃ o r,c=(some o,r)/\YV f a b o) ?step ?fin ⟨yX.refl _,_,_,_,_,rfl,j1,'l','l','l'⟩) ?post)
   case fin =>
    rintro c st' ⟨hst,out,ia,ib,mg,rfl,j,g1,g2,g3⟩;lia
   case post =>
    rintro c st' ⟨hst,o,r,rfl,h⟩;exact qv (q o st' hst h)
   case step =>
    rintro x c st' _ hx ⟨hst,out,ia,ib,mg,rfl,j,g1,g2,g3⟩;unfold loOB;dsimp only;refine qp (jD (qmX hA O hb (hst.1.trans hk) j g1 g2) ?_);rintro c1 st1 ⟨hst1,h⟩;match c1,h with
    | (some o,out,ia,ib,_),h=>exact qv ⟨hst.trans hst1,o,_,rfl,h⟩
    | (none,out1,ia1,ib1,ac,bc),⟨j1,k1,k2,k3⟩ =>
     dsimp only;refine qp (wpS_lift (Jy ⟨rfl,?_⟩));refine qp (jD (qmW hA O hb hk (hst.trans hst1) j1 k1 k2) ?_);rintro c2 st2 ⟨hst2,h⟩;match c2,h with
     | (some o,out,ia,ib,mg,_),h=>exact qv ⟨hst2,o,_,rfl,h⟩
     | (none,out2,ia2,ib2,mg2,ac,bc),⟨j2,l1,l2,l3⟩ =>
      dsimp only;rw[jw];refine qp (j3 (qv ⟨hst2.trans ⟨rfl,rfl,rfl,rfl⟩,_,_,_,_,rfl,j2,l1,l2,'l'⟩))
end
end L2
namespace L2
open W
variable {mg:Nat}
def Z0:Array Keyed->Array Keyed->StateT SortSt Sem (Array Keyed):=sortPriv% PySem.Builtin.mergeHi
abbrev GH:=Option (Array Keyed)×Nat×Nat×Array Keyed×Nat×Nat×Nat
abbrev CH:=Option (Array Keyed)×Nat×Nat×Array Keyed×Nat×Nat
abbrev OH:=Option (Array Keyed)×Nat×Nat×Array Keyed×Nat
def qaT (a b out:Array Keyed) (na nb:Nat):Array Keyed:=a.extract 0 na++b.extract 0 nb++out.reverse
def qbd (a b out:Array Keyed) (na nb:Nat):Array Keyed:=b.extract 0 nb++a.extract 0 na++out.reverse
def qpH (a b:Array Keyed) (na nb:Nat) (out:Array Keyed) (mg ac bc:Nat):StateT SortSt Sem (ForInStep GH):=do
 let x <- elem' a (na - 1)
 if (na - 1 == 0)=true then pure (.done (some (qaT a b (out.push x) (na - 1) nb),na - 1,nb,out.push x,mg,ac,bc))
 else if (decide (ac<7) && decide (bc<7))=true then pure (.done (none,na - 1,nb,out.push x,mg,ac,bc))
 else pure (.yield (none,na - 1,nb,out.push x,mg,ac,bc))
def hiG3 (a b:Array Keyed) (na nb:Nat) (out:Array Keyed) (mg ac bc:Nat):StateT SortSt Sem (ForInStep GH):=do
 let x <- elem' a (na - 1)
 let k <- jP true x b 0 nb (nb - 1)
 match k with
 | some at_ =>
  if nb - at_ > 0 then
   if (at_ == 1)=true then pure (.done (some (qbd a b (out++(b.extract at_ nb).reverse) na at_),na,at_,out++(b.extract at_ nb).reverse,mg,ac,nb - at_))
   else if (at_ == 0)=true then pure (.done (some (qaT a b (out++(b.extract at_ nb).reverse) na at_),na,at_,out++(b.extract at_ nb).reverse,mg,ac,nb - at_))
   else qpH a b na at_ (out++(b.extract at_ nb).reverse) mg ac (nb - at_)
  else qpH a b na nb out mg ac (nb - at_)
 | _=>pure (.done (some (qaT a b out na nb),na,nb,out,mg,ac,bc))
def qpI (a b:Array Keyed) (na nb:Nat) (out:Array Keyed) (mg ac bc:Nat):StateT SortSt Sem (ForInStep GH):=do
 let x <- elem' b (nb - 1)
 if (nb - 1 == 1)=true then pure (.done (some (qbd a b (out.push x) na (nb - 1)),na,nb - 1,out.push x,mg,ac,bc))
 else hiG3 a b na (nb - 1) (out.push x) mg ac bc
def qpJ (a b:Array Keyed) (na nb:Nat) (out:Array Keyed) (mg ac bc:Nat):StateT SortSt Sem (ForInStep GH):=do
 yK mg
 let x <- elem' b (nb - 1)
 let k <- jP false x a 0 na (na - 1)
 match k with
 | some at_ =>
  if na - at_ > 0 then
   if (at_ == 0)=true then pure (.done (some (qaT a b (out++(a.extract at_ na).reverse) at_ nb),at_,nb,out++(a.extract at_ na).reverse,mg,na - at_,bc))
   else qpI a b at_ nb (out++(a.extract at_ na).reverse) mg (na - at_) bc
  else qpI a b na nb out mg (na - at_) bc
 | _=>pure (.done (some (qaT a b out na nb),na,nb,out,mg,ac,bc))
def hiGB (a b:Array Keyed) (_:Nat) (c:GH):StateT SortSt Sem (ForInStep GH) :=
 if c.2.2.2.2.1 > 1 then qpJ a b c.2.1 c.2.2.1 c.2.2.2.1 (c.2.2.2.2.1 - 1) c.2.2.2.2.2.1 c.2.2.2.2.2.2 else qpJ a b c.2.1 c.2.2.1 c.2.2.2.1 c.2.2.2.2.1 c.2.2.2.2.2.1 c.2.2.2.2.2.2
def hiCB (a b:Array Keyed) (mg:Nat) (_:Nat) (c:CH):StateT SortSt Sem (ForInStep CH):=do
 let y <- elem' b (c.2.2.1 - 1)
 let x <- elem' a (c.2.1 - 1)
 let r <- lt' y x
 match r with
 | some aWins =>
  if aWins=true then do
   let x <- elem' a (c.2.1 - 1)
   if (c.2.1 - 1 == 0)=true then pure (.done (some (qaT a b (c.2.2.2.1.push x) (c.2.1 - 1) c.2.2.1),c.2.1 - 1,c.2.2.1,c.2.2.2.1.push x,c.2.2.2.2.1+1,0))
   else if c.2.2.2.2.1+1 ≥ mg then pure (.done (none,c.2.1 - 1,c.2.2.1,c.2.2.2.1.push x,c.2.2.2.2.1+1,0))
   else pure (.yield (none,c.2.1 - 1,c.2.2.1,c.2.2.2.1.push x,c.2.2.2.2.1+1,0))
  else do
   let y <- elem' b (c.2.2.1 - 1)
   if (c.2.2.1 - 1 == 1)=true then pure (.done (some (qbd a b (c.2.2.2.1.push y) c.2.1 (c.2.2.1 - 1)),c.2.1,c.2.2.1 - 1,c.2.2.2.1.push y,0,c.2.2.2.2.2+1))
   else if c.2.2.2.2.2+1 ≥ mg then pure (.done (none,c.2.1,c.2.2.1 - 1,c.2.2.2.1.push y,0,c.2.2.2.2.2+1))
   else pure (.yield (none,c.2.1,c.2.2.1 - 1,c.2.2.2.1.push y,0,c.2.2.2.2.2+1))
 | _=>pure (.done (some (qaT a b c.2.2.2.1 c.2.1 c.2.2.1),c.2.1,c.2.2.1,c.2.2.2.1,c.2.2.2.2.1,c.2.2.2.2.2))
def hiOB (a b:Array Keyed) (_:Nat) (c:OH):StateT SortSt Sem (ForInStep OH):=do
 let c1 <- forIn [0:a.size+b.size] ((none,c.2.1,c.2.2.1,c.2.2.2.1,0,0):CH) (hiCB a b c.2.2.2.2)
 match c1.1 with
 | some r=>pure (.done (some r,c1.2.1,c1.2.2.1,c1.2.2.2.1,c.2.2.2.2))
 | none=>do
  liftM (rule "list.sort.gallop")
  let c2 <- forIn [0:a.size+b.size] ((none,c1.2.1,c1.2.2.1,c1.2.2.2.1,c.2.2.2.2+1,c1.2.2.2.2.1,c1.2.2.2.2.2):GH) (hiGB a b)
  match c2.1 with
  | some r=>pure (.done (some r,c2.2.1,c2.2.2.1,c2.2.2.2.1,c2.2.2.2.2.1))
  | none=>do
   yK (c2.2.2.2.2.1+1)
   pure (.yield (none,c2.2.1,c2.2.2.1,c2.2.2.2.1,c2.2.2.2.2.1+1))
theorem qcu (a b:Array Keyed):Z0 a b=(do
 rule "list.sort.merge-hi"
 let total:=a.size+b.size
 let done (out:Array Keyed) (na nb:Nat):=a.extract 0 na++b.extract 0 nb++out.reverse
 let firstOfB (out:Array Keyed) (na nb:Nat):=b.extract 0 nb++a.extract 0 na++out.reverse
 let mut na:=a.size - 1
 let mut nb:=b.size
 let mut out:Array Keyed:=#[<- elem' a na]
 if na == 0 then return done out na nb
 if nb == 1 then return firstOfB out na nb
 let mut minGallop:=gallopOf (<- get)
 for _ in [0:total] do
  let mut acount:=0
  let mut bcount:=0
  for _ in [0:total] do
   let some aWins <- lt' (<- elem' b (nb - 1)) (<- elem' a (na - 1)) | return done out na nb
   if aWins then
    na:=na - 1;out:=out.push (<- elem' a na);acount:=acount+1;bcount:=0
    if na == 0 then return done out na nb
    if acount ≥ minGallop then break
   else
    nb:=nb - 1;out:=out.push (<- elem' b nb);bcount:=bcount+1;acount:=0
    if nb == 1 then return firstOfB out na nb
    if bcount ≥ minGallop then break
  rule "list.sort.gallop"
  minGallop:=minGallop+1
  for _ in [0:total] do
   if minGallop > 1 then minGallop:=minGallop - 1
   yK minGallop
   let some at_ <- jP false (<- elem' b (nb - 1)) a 0 na (na - 1) | return done out na nb
   let k:=na - at_
   acount:=k
   if k > 0 then
    out:=out++(a.extract at_ na).reverse;na:=at_
    if na == 0 then return done out na nb
   nb:=nb - 1;out:=out.push (<- elem' b nb)
   if nb == 1 then return firstOfB out na nb
   let some at_ <- jP true (<- elem' a (na - 1)) b 0 nb (nb - 1) | return done out na nb
   let k:=nb - at_
   bcount:=k
   if k > 0 then
    out:=out++(b.extract at_ nb).reverse;nb:=at_
    if nb == 1 then return firstOfB out na nb
    if nb == 0 then return done out na nb
   na:=na - 1;out:=out.push (<- elem' a na)
   if na == 0 then return done out na nb
   if acount<7 && bcount<7 then break
  minGallop:=minGallop+1
  yK minGallop
 unsupported "internal:list.sort.merge-bound"):=rfl
theorem qdu (a b:Array Keyed):Z0 a b=(do
 liftM (rule "list.sort.merge-hi")
 let x <- elem' a (a.size - 1)
 if (a.size - 1 == 0)=true then pure (qaT a b #[x] (a.size - 1) b.size)
 else if (b.size == 1)=true then pure (qbd a b #[x] (a.size - 1) b.size)
 else do
  let g <- get
  let c <- forIn [0:a.size+b.size] ((none,a.size - 1,b.size,#[x],gallopOf g):OH) (hiOB a b)
  match c.1 with
  | some r=>pure r
  | none=>liftM (unsupported "internal:list.sort.merge-bound" : Sem (Array Keyed))):=by
 rw[qcu];dsimp only;congr 1;funext _u
 congr 1;funext y
 congr 1;congr 1;congr 1;funext g
 congr 1
 .congr 1;funext i c
  unfold hiOB;congr 1;funext c1
  obtain⟨r1,na1,nb1,o1,ac1,bc1⟩:=c1;cases r1 with
  | some r=>rfl
  | none =>
   dsimp only;congr 1;funext _v
   congr 1;funext c2
   obtain⟨r2,na2,nb2,o2,m2,ac2,bc2⟩:=c2;cases r2 <;> rfl
 .funext c
  obtain⟨r,na,nb,o,m⟩:=c;cases r <;> rfl
section
variable {D:Keyed->Prop}{f:Keyed->Keyed->Bool}{a b:Array Keyed}
structure JH (f:Keyed->Keyed->Bool) (a b:Array Keyed) (na nb:Nat) (out:Array Keyed):Prop where
 s1:SdK f (a.toList.take na++out.toList.reverse)
 s2:SdK f (b.toList.take nb++out.toList.reverse)
 pm:(a.toList.take na++(b.toList.take nb++out.toList.reverse)).Perm (a.toList++b.toList)
theorem jM (h:i<xs.size):xs.toList.take (i+1)=xs.toList.take i++[xs[i]]:=by rw[List.take_add_one,qh (by simpa using h)];rfl
theorem qbI (O:OrdK f) (hs:SdK f xs.toList) (h:i<xs.size) {y:Keyed}(hy:y∈xs.toList.take (i+1)):f xs[i] y=false:=by
 rw[jM h] at hy;rcases qG.mp hy with hy | hy
 .have:SdK f (xs.toList.take (i+1)):=List.Pairwise.sublist (List.take_sublist _ _) hs;rw[jM h] at this;exact (yo.mp this).2.2 y hy _ (qJ.mpr rfl)
 .rw [qJ.mp hy];exact O.irr _
theorem JH.pushA (O:OrdK f) (hb:Both D f a b) (j:JH f a b na nb out) (h1:0<na) (h2:na<=a.size) (h3:0<nb) (h4:nb<=b.size) (h:f (a[na - 1]'('o')) (b[nb - 1]'('o'))=false):JH f a b (na - 1) nb (out.push (a[na - 1]'('o'))):=by
 have e:=jM (xs:=a) (i:=na - 1) 'l';rw[show na - 1+1=na by lia] at e;have s1:=j.s1;have pm:=j.pm;rw[e] at s1 pm;obtain⟨g1,g2⟩:=qpD s1 j.s2 (fun x hx y hy=>by
  rw[qJ.mp hx];have:=qbI O hb.sb (i:=nb - 1) 'l' (y:=y) (by rw[show nb - 1+1=nb by lia];exact hy);exact O.le this h)
 refine⟨by simpa using g1,by simpa using g2,?_⟩;refine List.Perm.trans ?_ pm;rw[qm];refine List.Perm.append_left _ ?_;simp only[jc,List.reverse_append,List.reverse_cons,List.reverse_nil,List.nil_append];exact List.perm_middle
theorem JH.pushB (O:OrdK f) (hb:Both D f a b) (j:JH f a b na nb out) (h1:0<na) (h2:na<=a.size) (h3:0<nb) (h4:nb<=b.size) (h:f (b[nb - 1]'('o')) (a[na - 1]'('o'))=false):JH f a b na (nb - 1) (out.push (b[nb - 1]'('o'))):=by
 have e:=jM (xs:=b) (i:=nb - 1) 'l';rw[show nb - 1+1=nb by lia] at e;have s2:=j.s2;have pm:=j.pm;rw[e] at s2 pm;obtain⟨g1,g2⟩:=qpD s2 j.s1 (fun x hx y hy=>by
  rw[qJ.mp hx];have:=qbI O hb.sa (i:=na - 1) 'l' (y:=y) (by rw[show na - 1+1=na by lia];exact hy);exact O.le this h)
 refine⟨by simpa using g2,by simpa using g1,?_⟩;refine List.Perm.trans ?_ pm;refine List.Perm.append_left _ ?_;simp
theorem qho (xs:Array Keyed) (h:i<=n) (hn:n<=xs.size):xs.toList.take n=xs.toList.take i++(xs.extract i n).toList:=by
 have e:(xs.extract i n).toList=(xs.toList.drop i).take (n - i):=by simp[jZ,jd]
 rw[e,<- List.drop_take];have:=(q9 i (xs.toList.take n)).symm;rwa[List.take_take,Nat.min_eq_left h] at this
theorem JH.chunkA (O:OrdK f) (hb:Both D f a b) (j:JH f a b na nb out) {k:Nat}(hk:k<=na) (h2:na<=a.size) (h3:0<nb) (h4:nb<=b.size) (h:∀ x∈(a.extract k na).toList,f x (b[nb - 1]'('o'))=false):JH f a b k nb (out++(a.extract k na).reverse):=by
 have s1:=j.s1;have pm:=j.pm;rw[qho a hk h2] at s1 pm;obtain⟨g1,g2⟩:=qpD s1 j.s2 (fun x hx y hy=>by
  have:=qbI O hb.sb (i:=nb - 1) 'l' (y:=y) (by rw[show nb - 1+1=nb by lia];exact hy);exact O.le this (h x hx))
 refine⟨by simpa using g1,by simpa using g2,?_⟩;refine List.Perm.trans ?_ pm;rw[qm];refine List.Perm.append_left _ ?_;simp only[qO,Array.toList_reverse,List.reverse_append,List.reverse_reverse];rw[<- qm,<- qm];exact List.Perm.append_right _ List.perm_append_comm
theorem JH.chunkB (O:OrdK f) (hb:Both D f a b) (j:JH f a b na nb out) {k:Nat}(hk:k<=nb) (h2:nb<=b.size) (h3:0<na) (h4:na<=a.size) (h:∀ x∈(b.extract k nb).toList,f x (a[na - 1]'('o'))=false):JH f a b na k (out++(b.extract k nb).reverse):=by
 have s2:=j.s2;have pm:=j.pm;rw[qho b hk h2] at s2 pm;obtain⟨g1,g2⟩:=qpD s2 j.s1 (fun x hx y hy=>by
  have:=qbI O hb.sa (i:=na - 1) 'l' (y:=y) (by rw[show na - 1+1=na by lia];exact hy);exact O.le this (h x hx))
 refine⟨by simpa using g2,by simpa using g1,?_⟩;refine List.Perm.trans ?_ pm;refine List.Perm.append_left _ ?_;simp
theorem qkn (xs:Array Keyed) (n:Nat):(xs.extract 0 n).toList=xs.toList.take n:=by simp[jZ,jd]
theorem JH.done (j:JH f a b na nb out) (h:na=0\/nb=0):YV f a b (qaT a b out na nb):=by
 unfold qaT;refine⟨?_,?_⟩
 .rw [qO,qO,qkn,qkn,Array.toList_reverse];rcases h with rfl | rfl
  .simpa using j.s2
  .simpa using j.s1
 .rw [qO,qO,qkn,qkn,Array.toList_reverse,qm];exact j.pm
theorem JH.firstB (O:OrdK f) (hb:Both D f a b) (j:JH f a b na nb out) (h:nb=1):YV f a b (qbd a b out na nb):=by
 subst h;have nb:=hb.nb;have e:b.toList.take 1=[b[0]'nb]:=by
  have:=jM (xs:=b) (i:=0) nb;simpa using this
 unfold qbd;refine⟨?_,?_⟩
 .rw [qO,qO,qkn,qkn,Array.toList_reverse];have s2:=j.s2;rw[e] at s2 ⊢;unfold SdK at *;obtain⟨_,_,g3⟩:=yo.mp s2;rw[qm];refine yo.mpr ⟨List.pairwise_singleton _ _,j.s1,fun x hx y hy=>?_⟩;rcases qG.mp hy with z | z
  .rw [qJ.mp hx];have h1:=qau O hb.sa hb.na (y:=y) (by rw[List.drop_zero];exact jY z);exact O.le (O.asym _ _ hb.first) h1
  .exact g3 x hx y z
 .rw [qO,qO,qkn,qkn,Array.toList_reverse,qm];refine List.Perm.trans ?_ j.pm;rw[<- qm,<- qm];exact List.Perm.append_right _ List.perm_append_comm
def InH (f:Keyed->Keyed->Bool) (a b:Array Keyed) (na nb:Nat) (out:Array Keyed):Prop:=JH f a b na nb out/\0<na/\na<=a.size/\1<nb/\nb<=b.size
def qjJ (f:Keyed->Keyed->Bool) (a b:Array Keyed) (st:SortSt) (n0:Nat) (r:ForInStep GH) (st':SortSt):Prop:=yX st st'/\match r with
 | .done (some o,_)=>YV f a b o
 | .done (none,na,nb,out,_)=>InH f a b na nb out/\na+nb<=n0
 | .yield (none,na,nb,out,_)=>InH f a b na nb out/\na+nb<=n0
 | .yield (some _,_)=>False
theorem qfs (O:OrdK f) (hb:Both D f a b) (hst:yX st0 st) (j:InH f a b na nb out) (hn:na+nb<=n0) (h:∀ h1 h2,f (a[na - 1]'h1) (b[nb - 1]'h2)=false) :
  wpS 'm' A E s (qpH a b na nb out mg ac bc) (qjJ f a b st0 n0) st:=by
 obtain⟨j,h1,h2,h3,h4⟩:=j;unfold qpH;refine qp (yR (show na - 1<a.size by lia) ?_);have j2:=j.pushA O hb h1 h2 'l' h4 (h 'l' 'l');by_cases e:na - 1=0
 .rw [if_pos (by simpa using e)];exact qv ⟨hst,j2.done (.inl e)⟩
 .rw [if_neg (by simpa using e)];split
  .exact qv ⟨hst,⟨j2,'l','l',h3,h4⟩,'l'⟩
  .exact qv ⟨hst,⟨j2,'l','l',h3,h4⟩,'l'⟩
theorem qhp {k:Nat}(hn:n<=xs.size) {x:Keyed}(hx:x∈(xs.extract k n).toList):x∈(xs.toList.take n).drop k:=by
 have e:(xs.extract k n).toList=(xs.toList.drop k).take (n - k):=by simp[jZ,jd]
 rw[e,<- List.drop_take] at hx;exact hx
theorem qkP (hA:Ask prog w A E s kd D f) (O:OrdK f) (hb:Both D f a b) (hk:kindOf st0=kd) (hst:yX st0 st) (j:InH f a b na nb out) (hn:na+nb<=n0) :
  wpS 'm' A E s (hiG3 a b na nb out mg ac bc) (qjJ f a b st0 n0) st:=by
 obtain⟨j,h1,h2,h3,h4⟩:=j;unfold hiG3;refine qp (yR (show na - 1<a.size by lia) ?_);refine qp (qaV hA O (hst.1.trans hk) (b.toList.take nb) (by simp;lia) (fun i hi=>?_) (hb.da _ 's') (fun x hx=>hb.db x (jY hx)) 'l' (List.Pairwise.sublist (List.take_sublist _ _) hb.sb) fun k hk1 hk2 hk3=>?_)
 .have hi:i<nb:=by simp at hi;lia
  rw[Nat.zero_add,List.getElem?_take,if_pos hi,qA]
 have hge:∀ x∈(b.extract k nb).toList,f x (a[na - 1]'('l'))=false:=fun x hx=>hk3 x (qhp h4 hx);have hlt:∀ x∈(b.toList.take nb).take k,f x (a[na - 1]'('l'))=true:=fun x hx=>hk2 x hx;have j2:=j.chunkB O hb hk1 h4 h1 h2 hge;have nxt:∀ (h0:0<k) (z1:na - 1<a.size) (z2:k - 1<b.size),f (a[na - 1]'z1) (b[k - 1]'z2)=false:=fun h0 z1 z2=>O.asym _ _ (hlt _ (by
  rw[List.take_take,Nat.min_eq_left hk1];have:=jM (xs:=b) (i:=k - 1) z2;rw[show k - 1+1=k by lia] at this;rw[this];exact qg _ (qJ.mpr rfl)))
 dsimp only;by_cases hk0:nb - k > 0
 .rw [if_pos hk0];by_cases e:k=1
  .rw [if_pos (by simpa using e)];exact qv ⟨hst,j2.firstB O hb e⟩
  .rw [if_neg (by simpa using e)];by_cases e2:k=0
   .rw [if_pos (by simpa using e2)];exact qv ⟨hst,j2.done (.inr e2)⟩
   .rw [if_neg (by simpa using e2)];exact qfs O hb hst ⟨j2,h1,h2,'l','l'⟩ 'l' (nxt 'l')
 .rw [if_neg hk0];have:k=nb:=by lia
  subst this;exact qfs O hb hst ⟨j,h1,h2,h3,h4⟩ hn (nxt 'l')
theorem qft (hA:Ask prog w A E s kd D f) (O:OrdK f) (hb:Both D f a b) (hk:kindOf st0=kd) (hst:yX st0 st) (j:InH f a b na nb out) (hn:na+nb<=n0) (h:∀ h1 h2,f (b[nb - 1]'h2) (a[na - 1]'h1)=false) :
  wpS 'm' A E s (qpI a b na nb out mg ac bc) (qjJ f a b st0 n0) st:=by
 obtain⟨j,h1,h2,h3,h4⟩:=j;unfold qpI;refine qp (yR (show nb - 1<b.size by lia) ?_);have j2:=j.pushB O hb h1 h2 'l' h4 (h 'l' 'l');by_cases e:nb - 1=1
 .rw [if_pos (by simpa using e)];exact qv ⟨hst,j2.firstB O hb e⟩
 .rw [if_neg (by simpa using e)];exact qkP hA O hb hk hst ⟨j2,h1,h2,'l','l'⟩ 'l'
theorem qfu (hA:Ask prog w A E s kd D f) (O:OrdK f) (hb:Both D f a b) (hk:kindOf st0=kd) (hst:yX st0 st) (j:InH f a b na nb out) (hn:na+nb<=n0) :
  wpS 'm' A E s (qpJ a b na nb out mg ac bc) (qjJ f a b st0 n0) st:=by
 obtain⟨j,h1,h2,h3,h4⟩:=j;unfold qpJ;rw[jw];refine qp (j3 ?_);have hst2:=hst.trans (show yX st (SortSt.mk' (kindOf st) (arrOf st) (pendingOf st) mg (failedOf st)) from ⟨rfl,rfl,rfl,rfl⟩);generalize SortSt.mk' (kindOf st) (arrOf st) (pendingOf st) mg (failedOf st)=st2 at hst2 ⊢;refine qp (yR (show nb - 1<b.size by lia) ?_);refine qp (qaV hA O (hst2.1.trans hk) (a.toList.take na) (by simp;lia) (fun i hi=>?_) (hb.db _ 's') (fun x hx=>hb.da x (jY hx)) 'l' (List.Pairwise.sublist (List.take_sublist _ _) hb.sa) fun k hk1 hk2 hk3=>?_)
 .have hi:i<na:=by simp at hi;lia
  rw[Nat.zero_add,List.getElem?_take,if_pos hi,qA]
 have hgt:∀ x∈(a.extract k na).toList,f x (b[nb - 1]'('l'))=false:=fun x hx=>by
  have:=hk3 x (qhp h2 hx);exact O.asym _ _ (by simpa[byd] using this)
 have hle:∀ x∈(a.toList.take na).take k,f (b[nb - 1]'('l')) x=false:=fun x hx=>by
  have:=hk2 x hx;simpa[byd] using this
 have j2:=j.chunkA O hb hk1 h2 'l' h4 hgt;have nxt:∀ (h0:0<k) (z1:k - 1<a.size) (z2:nb - 1<b.size),f (b[nb - 1]'z2) (a[k - 1]'z1)=false:=fun h0 z1 z2=>hle _ (by
  rw[List.take_take,Nat.min_eq_left hk1];have:=jM (xs:=a) (i:=k - 1) z1;rw[show k - 1+1=k by lia] at this;rw[this];exact qg _ (qJ.mpr rfl))
 dsimp only;by_cases hk0:na - k > 0
 .rw [if_pos hk0];by_cases e:k=0
  .rw [if_pos (by simpa using e)];exact qv ⟨hst2,j2.done (.inl e)⟩
  .rw [if_neg (by simpa using e)];exact qft hA O hb hk hst2 ⟨j2,'l','l',h3,h4⟩ 'l' (nxt 'l')
 .rw [if_neg hk0];have:k=na:=by lia
  subst this;exact qft hA O hb hk hst2 ⟨j,h1,h2,h3,h4⟩ hn (nxt 'l')
def qpy (f:Keyed->Keyed->Bool) (a b:Array Keyed) (st:SortSt) (n0:Nat) (r:CH) (st':SortSt):Prop:=yX st st'/\match r with
 | (some o,_)=>YV f a b o
 | (none,na,nb,out,_)=>InH f a b na nb out/\na+nb<n0
theorem qmZ (hA:Ask prog w A E s kd D f) (O:OrdK f) (hb:Both D f a b) (hk:kindOf st=kd) (j:InH f a b na nb out) :
  wpS 'm' A E s (forIn [0:a.size+b.size] ((none,na,nb,out,0,0):CH) (hiCB a b mg)) (qpy f a b st (na+nb)) st:=by
 have nz:=hb.na;refine yE (I:=fun x c st'=>yX st st'/\∃ na' nb' out' ac bc,c=(none,na',nb',out',ac,bc)/\InH f a b na' nb' out'/\na'+nb'+x<=na+nb) ?step ?fin ⟨yX.refl _,na,nb,out,0,0,rfl,j,'l'⟩;case fin =>
  rintro c st' ⟨hst,na',nb',out',ac,bc,rfl,j',g3⟩;exact⟨hst,j','l'⟩
 case step =>
  rintro x c st' _ hx ⟨hst,na',nb',out',ac,bc,rfl,⟨j',h1,h2,h3,h4⟩,g3⟩;unfold hiCB;dsimp only;refine qp (yR (show nb' - 1<b.size by lia) (qp (yR (show na' - 1<a.size by lia) ?_)));refine qp (hA _ _ _ _ (hb.db _ 's') (hb.da _ 's') (hst.1.trans hk) ?_);dsimp only;cases c:f (b[nb' - 1]'('l')) (a[na' - 1]'('l')) with
  | true =>
   simp only[if_true];refine qp (yR (show na' - 1<a.size by lia) ?_);have j2:=j'.pushA O hb h1 h2 'l' h4 (O.asym _ _ c);by_cases e:na' - 1=0
   .rw [if_pos (by simpa using e)];exact qv ⟨hst,j2.done (.inl e)⟩
   .rw [if_neg (by simpa using e)];split
    .exact qv ⟨hst,⟨j2,'l','l',h3,h4⟩,'l'⟩
    .exact qv ⟨hst,_,_,_,_,_,rfl,⟨j2,'l','l',h3,h4⟩,'l'⟩
  | false =>
   simp only[ql,if_false];refine qp (yR (show nb' - 1<b.size by lia) ?_);have j2:=j'.pushB O hb h1 h2 'l' h4 c;by_cases e:nb' - 1=1
   .rw [if_pos (by simpa using e)];exact qv ⟨hst,j2.firstB O hb e⟩
   .rw [if_neg (by simpa using e)];split
    .exact qv ⟨hst,⟨j2,h1,h2,'l','l'⟩,'l'⟩
    .exact qv ⟨hst,_,_,_,_,_,rfl,⟨j2,h1,h2,'l','l'⟩,'l'⟩
def qpu (f:Keyed->Keyed->Bool) (a b:Array Keyed) (st:SortSt) (n0:Nat) (r:GH) (st':SortSt):Prop:=yX st st'/\match r with
 | (some o,_)=>YV f a b o
 | (none,na,nb,out,_)=>InH f a b na nb out/\na+nb<=n0
theorem qmY (hA:Ask prog w A E s kd D f) (O:OrdK f) (hb:Both D f a b) (hk:kindOf st0=kd) (hst:yX st0 st) (j:InH f a b na nb out) :
  wpS 'm' A E s (forIn [0:a.size+b.size] ((none,na,nb,out,mg,ac,bc):GH) (hiGB a b)) (qpu f a b st0 (na+nb)) st:=by
 refine yE (I:=fun x c st'=>yX st0 st'/\∃ na' nb' out' mg ac bc,c=(none,na',nb',out',mg,ac,bc)/\InH f a b na' nb' out'/\na'+nb'<=na+nb) ?step ?fin ⟨hst,na,nb,out,mg,ac,bc,rfl,j,'l'⟩;case fin =>
  rintro c st' ⟨hst,na',nb',out',mg,ac,bc,rfl,j',g3⟩;exact⟨hst,j',g3⟩
 case step =>
  rintro x c st' _ hx ⟨hst,na',nb',out',mg,ac,bc,rfl,j',g3⟩;unfold hiGB;dsimp only;split
  .refine jD (qfu hA O hb hk hst j' g3) fun r st'' h=>?_;obtain⟨h0,h⟩:=h;match r,h with
   | .done (some o,_),h=>exact⟨h0,h⟩
   | .done (none,na,nb,out,_),h=>exact⟨h0,h⟩
   | .yield (none,na,nb,out,m,c,d),h=>exact⟨h0,_,_,_,_,_,_,rfl,h⟩
  .refine jD (qfu hA O hb hk hst j' g3) fun r st'' h=>?_;obtain⟨h0,h⟩:=h;match r,h with
   | .done (some o,_),h=>exact⟨h0,h⟩
   | .done (none,na,nb,out,_),h=>exact⟨h0,h⟩
   | .yield (none,na,nb,out,m,c,d),h=>exact⟨h0,_,_,_,_,_,_,rfl,h⟩
theorem qeK (hA:Ask prog w A E s kd D f) (O:OrdK f) (hb:Both D f a b) (hk:kindOf st=kd) {Q:Array Keyed->SortSt->Prop}(q:∀ o st',yX st st'->YV f a b o->Q o st') :
  wpS 'm' A E s (Z0 a b) Q st:=by
 have na:=hb.na;have nb:=hb.nb;rw[qdu];refine qp (wpS_lift (Jy ⟨rfl,?_⟩));refine qp (yR (show a.size - 1<a.size by lia) ?_);have j0:JH f a b a.size b.size #[]:=⟨by rw[<- qy,y3];simpa using hb.sa,by rw[<- qy,y3];simpa using hb.sb,by rw[<- qy,y3,<- qy,y3];simp⟩;have j1:JH f a b (a.size - 1) b.size #[a[a.size - 1]]:=by
  have:=j0.pushA O hb na (qk _) nb (qk _) (O.asym _ _ (hb.last _ 's'));simpa using this
 by_cases e:a.size - 1=0
 .rw [if_pos (by simpa using e)];exact qv (q _ _ (yX.refl _) (j1.done (.inl e)))
 .rw [if_neg (by simpa using e)];by_cases e2:b.size=1
  .rw [if_pos (by simpa using e2)];exact qv (q _ _ (yX.refl _) (j1.firstB O hb e2))
  .rw [if_neg (by simpa using e2)];refine qp (wpS_get ?_);refine qp (jD (yE (I:=fun x c st'=>yX st st'/\∃ na nb out mg,c=(none,na,nb,out,mg)/\InH f a b na nb out/\na+nb+x<=a.size+b.size)
    (Q:=fun c st'=>yX st st'/\∃ o r,c=(some o,r)/\YV f a b o) ?step ?fin ⟨yX.refl _,_,_,_,_,rfl,⟨j1,'l','l','l',qk _⟩,'l'⟩) ?post)
   case fin =>
    rintro c st' ⟨hst,na,nb,out,mg,rfl,⟨j,g1,g2,g3,g4⟩,g5⟩;lia
   case post =>
    rintro c st' ⟨hst,o,r,rfl,h⟩;exact qv (q o st' hst h)
   case step =>
    rintro x c st' _ hx ⟨hst,na,nb,out,mg,rfl,j,g3⟩;unfold hiOB;dsimp only;refine qp (jD (qmZ hA O hb (hst.1.trans hk) j) ?_);rintro c1 st1 ⟨hst1,h⟩;match c1,h with
    | (some o,na,nb,out,_),h=>exact qv ⟨hst.trans hst1,o,_,rfl,h⟩
    | (none,na1,nb1,out1,ac,bc),⟨j1,k3⟩ =>
     dsimp only;refine qp (wpS_lift (Jy ⟨rfl,?_⟩));refine qp (jD (qmY hA O hb hk (hst.trans hst1) j1) ?_);rintro c2 st2 ⟨hst2,h⟩;match c2,h with
     | (some o,na,nb,out,mg,_),h=>exact qv ⟨hst2,o,_,rfl,h⟩
     | (none,na2,nb2,out2,mg2,ac,bc),⟨j2,l3⟩ =>
      dsimp only;rw[jw];refine qp (j3 (qv ⟨hst2.trans ⟨rfl,rfl,rfl,rfl⟩,_,_,_,_,rfl,j2,'l'⟩))
end
end L2
namespace L2
open W
variable {a b c:Keyed}{f:Keyed->Keyed->Bool}{p:Array Keyed}{Q:Option Nat->SortSt->Prop}
abbrev kD (xs:Array Keyed) (i:Nat):Keyed:=xs.getD i (.none,.none)
theorem qg4 {ys:Array Keyed}(h:xs[i]?=ys[j]?):kD xs i=kD ys j:=by simp only[kD,Array.getD_eq_getD_getElem?,h]
theorem qg7 (h:i<xs.size):xs[i]?=some (kD xs i):=by rw[jT h];simp[kD,Array.getD,h]
structure SV (lo:Nat) (st0 st:SortSt):Prop where
 kind:kindOf st=kindOf st0
 pend:pendingOf st=pendingOf st0
 fail:failedOf st=failedOf st0
 perm:(arrOf st).Perm (arrOf st0)
 pre:∀ k,k<lo->(arrOf st)[k]?=(arrOf st0)[k]?
theorem SV.refl (lo:Nat) (st:SortSt):SV lo st st:=⟨rfl,rfl,rfl,Array.Perm.refl _,fun _ _=>rfl⟩
theorem SV.size (h:SV lo st0 st):(arrOf st).size=(arrOf st0).size:=h.perm.size_eq
theorem SV.trans {a b c:SortSt}(h:SV lo a b) (g:SV lo b c):SV lo a c:=⟨g.kind.trans h.kind,g.pend.trans h.pend,g.fail.trans h.fail,g.perm.trans h.perm,fun k hk=>(g.pre k hk).trans (h.pre k hk)⟩
def mir (xs:Array Keyed) (i j:Nat):Array Keyed:=mirror xs i j ((j - i) / 2)
theorem qg5 (hj:j<=xs.size) (k:Nat):kD (mir xs i j) k=if i<=k/\k<j then kD xs (i+j - 1 - k) else kD xs k:=by
 have e:=getElem?_mirror_all (i:=i) hj k;unfold mir;by_cases h1:i<=k/\k<j
 .rw [if_pos h1] at e ⊢;exact qg4 e
 .rw [if_neg h1] at e ⊢;exact qg4 e
theorem SV.mir (h:SV lo st0 st) (hi:lo<=i) (hj:j<=(arrOf st).size):SV lo st0 (setArr st (L2.mir (arrOf st) i j)):=by
 refine⟨h.kind,h.pend,h.fail,(mirror_perm _ _ _ _).trans h.perm,fun k hk=>?_⟩;show (L2.mir (arrOf st) i j)[k]?=_;unfold L2.mir;rw[getElem?_mirror_all hj,if_neg 'l'];exact h.pre k hk
def UpL (f:Keyed->Keyed->Bool) (lo:Nat) (p:Array Keyed) (k:Nat):Prop:=∀ i j,i<=j->j<k->f (kD p (lo+j)) (kD p (lo+i))=false
def DnL (f:Keyed->Keyed->Bool) (lo:Nat) (p:Array Keyed) (k:Nat):Prop:=∀ i j,i<=j->j<k->f (kD p (lo+i)) (kD p (lo+j))=false
def qaN (f:Keyed->Keyed->Bool) (a b:Keyed):Prop:=f a b=false/\f b a=false
theorem qaN.refl (O:OrdK f) (a:Keyed):qaN f a a:=⟨O.irr a,O.irr a⟩
theorem qaN.symm (h:qaN f a b):qaN f b a:=⟨h.2,h.1⟩
theorem qaN.trans (O:OrdK f) (h:qaN f a b) (g:qaN f b c):qaN f a c:=⟨O.le g.1 h.1,O.le h.2 g.2⟩
theorem qoQ (O:OrdK f) (h:qaN f a b):f a c=f b c:=by
 cases h1:f b c with
 | true=>exact O.lel h.2 h1
 | false =>
  cases h2:f a c with
  | false=>rfl
  | true =>
   have:=O.lel h.1 h2;rw[h1] at this;cases this
theorem qoP (O:OrdK f) (h:qaN f a b):f c a=f c b:=by
 cases h1:f c b with
 | true=>exact O.ltl h1 h.1
 | false =>
  cases h2:f c a with
  | false=>rfl
  | true =>
   have:=O.ltl h2 h.2;rw[h1] at this;cases this
theorem UpL.one (O:OrdK f) (lo:Nat) (p:Array Keyed):UpL f lo p 1:=fun i j h1 h2=>by
 have:i=j:=by lia
 subst this;exact O.irr _
theorem UpL.succ (O:OrdK f) {k:Nat}(h0:1<=k) (h:UpL f lo p k) (g:f (kD p (lo+k)) (kD p (lo+k - 1))=false):UpL f lo p (k+1):=fun i j hij hj=>by
 by_cases e:j=k
 .subst e;by_cases e2:i=j
  .subst e2;exact O.irr _
  .have:=h i (j - 1) 'l' 'l';rw[show lo+(j - 1)=lo+j - 1 by lia] at this;exact O.le this g
 .exact h i j hij 'l'
theorem DnL.succ (O:OrdK f) {k:Nat}(h0:1<=k) (h:DnL f lo p k) (g:f (kD p (lo+k - 1)) (kD p (lo+k))=false):DnL f lo p (k+1):=fun i j hij hj=>by
 by_cases e:j=k
 .subst e;by_cases e2:i=j
  .subst e2;exact O.irr _
  .have:=h i (j - 1) 'l' 'l';rw[show lo+(j - 1)=lo+j - 1 by lia] at this;exact O.le g this
 .exact h i j hij 'l'
theorem DnL.eqv (O:OrdK f) {q:Array Keyed}{k:Nat}(h:DnL f lo p k) (e:∀ i,qaN f (kD q i) (kD p i)):DnL f lo q k:=fun i j h1 h2=>by rw[qoQ O (e _),qoP O (e _)];exact h i j h1 h2
theorem qbr (O:OrdK f) (hj:j<=p.size) (h:∀ a b,i<=a->a<j->i<=b->b<j->qaN f (kD p a) (kD p b)) (k:Nat):qaN f (kD (mir p i j) k) (kD p k):=by
 rw[qg5 hj];split
 .exact h _ _ 'l' 'l' 'l' 'l'
 .exact qaN.refl O _
theorem UpL.ofRev {k:Nat}(hk:lo+k<=p.size) (h:DnL f lo p k):UpL f lo (mir p lo (lo+k)) k:=fun i j h1 h2=>by
 rw[qg5 hk,qg5 hk,if_pos 'l',if_pos 'l'];have:=h (k - 1 - j) (k - 1 - i) 'l' 'l';rw[show lo+(lo+k) - 1 - (lo+j)=lo+(k - 1 - j) by lia,show lo+(lo+k) - 1 - (lo+i)=lo+(k - 1 - i) by lia];exact this
def qpm (lo a nrem:Nat):StateT SortSt Sem (Option (Option Nat)×Nat) :=
 forIn [a:nrem] ((none,a):Option (Option Nat)×Nat) fun _ c=>do
  let x <- ltAt' (lo+c.2) (lo+c.2 - 1)
  match x with
  | some smaller=>if smaller=true then pure (ForInStep.done (none,c.2)) else pure (ForInStep.yield (none,c.2+1))
  | _=>pure (ForInStep.done (some none,c.2))
def qb5 (lo n nrem:Nat):StateT SortSt Sem (Option Nat):=do
 reverseSlice' lo (lo+n)
 let c <- qpm lo n nrem
 match c.1 with
 | some r=>pure r
 | none=>pure (some c.2)
def qjq (lo n nrem:Nat):StateT SortSt Sem (Option (Option Nat)×Nat×Nat) :=
 forIn [n:nrem] ((none,n,0):Option (Option Nat)×Nat×Nat) fun _ c=>do
  let x <- ltAt' (lo+c.2.1) (lo+c.2.1 - 1)
  match x with
  | some smaller =>
   if smaller=true then
    if c.2.2 > 0 then do
     reverseSlice' (lo+c.2.1 - (c.2.2+1)) (lo+c.2.1)
     pure (ForInStep.yield (none,c.2.1+1,0))
    else pure (ForInStep.yield (none,c.2.1+1,0))
   else do
    let y <- ltAt' (lo+c.2.1 - 1) (lo+c.2.1)
    match y with
    | some larger =>
     if larger=true then pure (ForInStep.done (none,c.2.1,c.2.2))
     else pure (ForInStep.yield (none,c.2.1+1,c.2.2+1))
    | _=>pure (ForInStep.done (some none,c.2.1,c.2.2))
  | _=>pure (ForInStep.done (some none,c.2.1,c.2.2))
def Yu (lo n nrem:Nat):StateT SortSt Sem (Option Nat):=do
 liftM (rule "list.sort.descending-run")
 let c <- qjq lo (n+1) nrem
 match c.1 with
 | some r=>pure r
 | none =>
  if c.2.2 > 0 then do
   reverseSlice' (lo+c.2.1 - (c.2.2+1)) (lo+c.2.1)
   qb5 lo c.2.1 nrem
  else qb5 lo c.2.1 nrem
theorem qcH (lo nrem:Nat):countRun' lo nrem=(do
  let c <- qpm lo 1 nrem
  match c.1 with
  | some r=>pure r
  | none =>
   if (c.2 == nrem)=true then pure (some c.2)
   else if c.2 > 1 then do
    let x <- ltAt' lo (lo+c.2 - 1)
    match x with
    | some rose=>if rose=true then pure (some c.2) else do
      reverseSlice' lo (lo+c.2)
      Yu lo c.2 nrem
    | _=>pure none
   else Yu lo c.2 nrem):=by
 rw[countRun'_eq];unfold Yu qb5 qjq qpm;dsimp only;congr 1;funext c
 obtain⟨r,n⟩:=c;cases r with
 | some r=>rfl
 | none =>
  dsimp only;split
  .rfl
  .split
   .congr 1;funext x
    cases x with
    | none=>rfl
    | some rose =>
     dsimp only;split
     .rfl
     .congr 1;funext _r
      congr 1;funext _u
      congr 1;funext s2
      obtain⟨r2,n2,q2⟩:=s2;cases r2 with
      | some r2=>rfl
      | none =>
       dsimp only;split
       .congr 1;funext _v
        congr 1;funext _w
        congr 1;funext s3
        obtain⟨r3,n3⟩:=s3;cases r3 <;> rfl
       .congr 1;funext _w
        congr 1;funext s3
        obtain⟨r3,n3⟩:=s3;cases r3 <;> rfl
   .congr 1;funext _u
    congr 1;funext s2
    obtain⟨r2,n2,q2⟩:=s2;cases r2 with
    | some r2=>rfl
    | none =>
     dsimp only;split
     .congr 1;funext _v
      congr 1;funext _w
      congr 1;funext s3
      obtain⟨r3,n3⟩:=s3;cases r3 <;> rfl
     .congr 1;funext _w
      congr 1;funext s3
      obtain⟨r3,n3⟩:=s3;cases r3 <;> rfl
section
variable {D:Keyed->Prop}{nrem:Nat}
def qfo (D:Keyed->Prop) (st:SortSt):Prop:=∀ x∈(arrOf st).toList,D x
theorem qfo.of {st':SortSt}(h:qfo D st) (p:(arrOf st').Perm (arrOf st)):qfo D st':=fun x hx=>h x ((y4.mp p).mem_iff.mp hx)
theorem Z7 (hA:Ask prog w A E s kd D f) (hk:kindOf st=kd) (hD:qfo D st) (hi:i<(arrOf st).size) (hj:j<(arrOf st).size) {Q:Option Bool->SortSt->Prop}(q:Q (some (f (kD (arrOf st) i) (kD (arrOf st) j))) st):wpS 'm' A E s (ltAt' i j) Q st:=by
 rw[ltAt'_eq];refine qp (wpS_get ?_);show wpS _ _ _ _ (do let x <- elem' (arrOf st) i;let y <- elem' (arrOf st) j;lt' x y) Q st;rw[elem'_eq,elem'_eq,qg7 hi,qg7 hj];refine qp (qv (qp (qv ?_)));have mem:∀ i,i<(arrOf st).size->kD (arrOf st) i∈(arrOf st).toList:=fun i h=>by
  have e:kD (arrOf st) i=(arrOf st)[i]:=by simp[kD,Array.getD,h]
  rw[e];simp
 exact hA _ _ _ _ (hD _ (mem i hi)) (hD _ (mem j hj)) hk q
theorem qfx (hA:Ask prog w A E s kd D f) (O:OrdK f) (hk:kindOf st=kd) (hD:qfo D st) (hn:lo+nrem<=(arrOf st).size) {a:Nat}(ha:1<=a) (han:a<=nrem) (hs:UpL f lo (arrOf st) a) {Q:Option (Option Nat)×Nat->SortSt->Prop}
  (q:∀ n,a<=n->n<=nrem->UpL f lo (arrOf st) n->(n<nrem->f (kD (arrOf st) (lo+n)) (kD (arrOf st) (lo+n - 1))=true)->Q (none,n) st):wpS 'm' A E s (qpm lo a nrem) Q st:=by
 unfold qpm;refine yE (I:=fun x c st'=>st'=st/\c=(none,x)/\UpL f lo (arrOf st) x) ?step ?fin ⟨rfl,rfl,hs⟩;case fin =>
  rintro c st' ⟨rfl,rfl,hs'⟩;rw[show max a nrem=nrem by lia] at hs' ⊢;exact q nrem han (qk _) hs' fun z=>absurd z 'l'
 case step =>
  rintro x c st' hax hxn ⟨rfl,rfl,hs'⟩;dsimp only;refine qp (Z7 hA hk hD 'l' 'l' ?_);dsimp only;cases c:f (kD (arrOf st') (lo+x)) (kD (arrOf st') (lo+x - 1)) with
  | true =>
   simp only[if_true];exact qv (q x hax 'l' hs' fun _=>c)
  | false =>
   simp only[ql,if_false];exact qv ⟨rfl,rfl,hs'.succ O 'l' c⟩
theorem qdW {Q:Unit->SortSt->Prop}(h:Q () (setArr st (mir (arrOf st) i j))):wpS 'm' A E s (reverseSlice' i j) Q st:=by rw[reverseSlice'_eq];exact j3 h
def RunP (f:Keyed->Keyed->Bool) (lo nrem:Nat) (st0:SortSt) (Q:Option Nat->SortSt->Prop):Prop:=∀ n st',SV lo st0 st'->1<=n->n<=nrem->UpL f lo (arrOf st') n->Q (some n) st'
theorem qb2 (hA:Ask prog w A E s kd D f) (O:OrdK f) (hk:kindOf st0=kd) (hD:qfo D st0) (hn:lo+nrem<=(arrOf st0).size) (hv:SV lo st0 st) (h1:1<=n) (h2:n<=nrem) (h3:DnL f lo (arrOf st) n) (q:RunP f lo nrem st0 Q) :
  wpS 'm' A E s (qb5 lo n nrem) Q st:=by
 unfold qb5;have hz:=hv.size;refine qp (qdW ?_);have hv2:=hv.mir (i:=lo) (j:=lo+n) (qk _) 'l';have up:UpL f lo (arrOf (setArr st (mir (arrOf st) lo (lo+n)))) n:=UpL.ofRev 'l' h3;generalize setArr st (mir (arrOf st) lo (lo+n))=st2 at hv2 up ⊢;have hz2:=hv2.size;refine qp (qfx hA O (hv2.kind.trans hk) (hD.of hv2.perm) 'l' h1 h2 up fun m a1 a2 a3 _=>?_);exact qv (q m st2 hv2 'l' a2 a3)
theorem qh7 (hA:Ask prog w A E s kd D f) (O:OrdK f) (hk:kindOf st0=kd) (hD:qfo D st0) (hn:lo+nrem<=(arrOf st0).size) (hv:SV lo st0 st) (h1:1<=n) (h2:n<=nrem) (h3:DnL f lo (arrOf st) n) {Q:Option (Option Nat)×Nat×Nat->SortSt->Prop}
  (q:∀ m k st',SV lo st0 st'->k+1<=m->m<=nrem->DnL f lo (arrOf st') m->(∀ a b,lo+m - (k+1)<=a->a<lo+m->lo+m - (k+1)<=b->b<lo+m->qaN f (kD (arrOf st') a) (kD (arrOf st') b))->Q (none,m,k) st') :
  wpS 'm' A E s (qjq lo n nrem) Q st:=by
 unfold qjq;have one:∀ (p:Array Keyed) (m a b:Nat),1<=m->lo+m - (0+1)<=a->a<lo+m->lo+m - (0+1)<=b->b<lo+m->qaN f (kD p a) (kD p b):=fun p m a b _ _ _ _ _=>by
  have:a=b:=by lia
  subst this;exact qaN.refl O _
 refine yE (I:=fun x c st'=>SV lo st0 st'/\∃ k,c=(none,x,k)/\k+1<=x/\DnL f lo (arrOf st') x/\(∀ a b,lo+x - (k+1)<=a->a<lo+x->lo+x - (k+1)<=b->b<lo+x->qaN f (kD (arrOf st') a) (kD (arrOf st') b))) ?step ?fin ⟨hv,0,rfl,'l',h3,fun a b=>one _ n a b h1⟩;case fin =>
  rintro c st' ⟨hv',k,rfl,g1,g2,g3⟩;rw[show max n nrem=nrem by lia] at g1 g2 g3 ⊢;exact q nrem k st' hv' g1 (qk _) g2 g3
 case step =>
  rintro x c st' hnx hx ⟨hv',k,rfl,g1,g2,g3⟩;dsimp only;have hz:=hv'.size;refine qp (Z7 hA (hv'.kind.trans hk) (hD.of hv'.perm) 'l' 'l' ?_);dsimp only;cases c:f (kD (arrOf st') (lo+x)) (kD (arrOf st') (lo+x - 1)) with
  | true =>
   simp only[if_true];have dn:=g2.succ O 'l' (O.asym _ _ c);by_cases hq:k > 0
   .rw [if_pos hq];refine qp (qdW ?_);have ev:=qbr O (p:=arrOf st') (i:=lo+x - (k+1)) (j:=lo+x) 'l' g3;exact qv ⟨hv'.mir 'l' 'l',0,rfl,'l',dn.eqv O ev,fun a b=>one _ _ a b 'l'⟩
   .rw [if_neg hq];exact qv ⟨hv',0,rfl,'l',dn,fun a b=>one _ _ a b 'l'⟩
  | false =>
   simp only[ql,if_false];refine qp (Z7 hA (hv'.kind.trans hk) (hD.of hv'.perm) 'l' 'l' ?_);dsimp only;cases d:f (kD (arrOf st') (lo+x - 1)) (kD (arrOf st') (lo+x)) with
   | true =>
    simp only[if_true];exact qv (q x k st' hv' g1 'l' g2 g3)
   | false =>
    simp only[ql,if_false];refine qv ⟨hv',k+1,rfl,'l',g2.succ O 'l' d,fun a b a1 a2 b1 b2=>?_⟩;have last:qaN f (kD (arrOf st') (lo+x)) (kD (arrOf st') (lo+x - 1)):=⟨c,d⟩;have key:∀ y,lo+(x+1) - (k+1+1)<=y->y<lo+(x+1)->qaN f (kD (arrOf st') y) (kD (arrOf st') (lo+x - 1)):=fun y y1 y2=>by
     by_cases e:y=lo+x
     .subst e;exact last
     .exact g3 _ _ 'l' 'l' 'l' 'l'
    exact (key a a1 a2).trans O (key b b1 b2).symm
theorem ZD (hA:Ask prog w A E s kd D f) (O:OrdK f) (hk:kindOf st0=kd) (hD:qfo D st0) (hn:lo+nrem<=(arrOf st0).size) (hv:SV lo st0 st) (h1:1<=n) (h2:n+1<=nrem) (h3:DnL f lo (arrOf st) (n+1)) (q:RunP f lo nrem st0 Q) :
  wpS 'm' A E s (Yu lo n nrem) Q st:=by
 unfold Yu;refine qp (wpS_lift (Jy ⟨rfl,?_⟩));refine qp (qh7 hA O hk hD hn hv 'l' h2 h3 fun m k st' hv' g1 g2 g3 g4=>?_);dsimp only;have hz:=hv'.size;by_cases hq:k > 0
 .rw [if_pos hq];refine qp (qdW ?_);have ev:=qbr O (p:=arrOf st') (i:=lo+m - (k+1)) (j:=lo+m) 'l' g4;exact qb2 hA O hk hD hn (hv'.mir 'l' 'l') 'l' g2 (g3.eqv O ev) q
 .rw [if_neg hq];exact qb2 hA O hk hD hn hv' 'l' g2 g3 q
theorem qc6 (hA:Ask prog w A E s kd D f) (O:OrdK f) (hk:kindOf st0=kd) (hD:qfo D st0) (hn:lo+nrem<=(arrOf st0).size) (h1:1<=nrem) (q:RunP f lo nrem st0 Q) :
  wpS 'm' A E s (countRun' lo nrem) Q st0:=by
 rw[qcH];refine qp (qfx hA O hk hD hn (qk _) h1 (UpL.one O lo _) fun m a1 a2 a3 a4=>?_);dsimp only;by_cases e:m=nrem
 .rw [if_pos (by simpa using e)];exact qv (q m st0 (SV.refl _ _) a1 a2 a3)
 .rw [if_neg (by simpa using e)];have hlt:=a4 'l';by_cases e2:m > 1
  .rw [if_pos e2];refine qp (Z7 hA hk hD 'l' 'l' ?_);dsimp only;cases c:f (kD (arrOf st0) lo) (kD (arrOf st0) (lo+m - 1)) with
   | true =>
    simp only[if_true];exact qv (q m st0 (SV.refl _ _) a1 a2 a3)
   | false =>
    simp only[ql,if_false];refine qp (qdW ?_);have al:∀ a b,lo<=a->a<lo+m->lo<=b->b<lo+m->qaN f (kD (arrOf st0) a) (kD (arrOf st0) b):=fun a b ha1 ha hb1 hb=>by
     have key:∀ x,lo<=x->x<lo+m->qaN f (kD (arrOf st0) x) (kD (arrOf st0) lo):=fun x hx1 hx=>by
      have k1:=a3 0 (x - lo) 'l' 'l';have k2:=a3 (x - lo) (m - 1) 'l' 'l';rw[show lo+(x - lo)=x by lia] at k1 k2;rw[show lo+(m - 1)=lo+m - 1 by lia] at k2;exact⟨k1,O.le k2 c⟩
     exact (key a ha1 ha).trans O (key b hb1 hb).symm
    have ev:=qbr O (p:=arrOf st0) (i:=lo) (j:=lo+m) 'l' al;have dn:DnL f lo (arrOf st0) m:=fun i j hi hj=>(al (lo+i) (lo+j) 'l' 'l' 'l' 'l').1;exact ZD hA O hk hD hn ((SV.refl lo st0).mir (qk _) 'l') a1 'l' ((dn.succ O a1 (O.asym _ _ hlt)).eqv O ev) q
  .rw [if_neg e2];have m1:m=1:=by lia
   subst m1;have dn:DnL f lo (arrOf st0) 1:=fun i j hi hj=>by
    have:i=j:=by lia
    subst this;exact O.irr _
   exact ZD hA O hk hD hn (SV.refl lo st0) (qk _) 'l' (dn.succ O (qk _) (O.asym _ _ hlt)) q
theorem qcx {src d:Nat}(hs:src<xs.size) (hd:d<=src) (k:Nat):kD (bubble xs src d) k=if k=src - d then kD xs src else if src - d<k/\k<=src then kD xs (k - 1) else kD xs k:=by
 have e:=getElem?_bubble hs d hd k;by_cases h1:k=src - d
 .rw [if_pos h1] at e ⊢;exact qg4 e
 .rw [if_neg h1] at e ⊢;by_cases h2:src - d<k/\k<=src
  .rw [if_pos h2] at e ⊢;exact qg4 e
  .rw [if_neg h2] at e ⊢;exact qg4 e
theorem qeL (hA:Ask prog w A E s kd D f) (O:OrdK f) (hk:kindOf st0=kd) (hD:qfo D st0) {ok:Nat}(hn:lo+n<=(arrOf st0).size) (hok:ok<=n) (hs:UpL f lo (arrOf st0) ok) {Q:Bool->SortSt->Prop}(q:∀ st',SV lo st0 st'->UpL f lo (arrOf st') n->Q true st') :
  wpS 'm' A E s (binarySort' lo n ok) Q st0:=by
 rw[binarySort'_eq];refine qp (jD (yE (I:=fun k c st'=>c=(none,())/\SV lo st0 st'/\UpL f lo (arrOf st') (min k n))
  (Q:=fun c st'=>c=(none,())/\SV lo st0 st'/\UpL f lo (arrOf st') n) ?step ?fin ?init) ?post)
 case post =>
  rintro c st' ⟨rfl,hB',hs'⟩;exact qv (q st' hB' hs')
 case init =>
  refine⟨rfl,SV.refl _ _,fun i j hij hj=>?_⟩;by_cases h1:ok=0
  .have:i=j:=by lia
   subst this;exact O.irr _
  .exact hs i j hij 'l'
 case fin =>
  rintro c st' ⟨hc,hB',hs'⟩;refine⟨hc,hB',?_⟩;rwa[show min (max (max ok 1) n) n=n by lia] at hs'
 case step =>
  rintro k c st' hak hkn ⟨rfl,hB',hs'⟩;rw[show min k n=k by lia] at hs';have hz:=hB'.size;refine qp (jD (yE (I:=fun x c st''=>st''=st'/\∃ l r,c=(none,l,r)/\l<=r/\r<=k/\r - l<=k - x ∧
    (∀ i,i<l->f (kD (arrOf st') (lo+k)) (kD (arrOf st') (lo+i))=false)/\(∀ i,r<=i->i<k->f (kD (arrOf st') (lo+k)) (kD (arrOf st') (lo+i))=true))
   (Q:=fun c st''=>st''=st'/\∃ l r,c=(none,l,r)/\l<=k ∧
    (∀ i,i<l->f (kD (arrOf st') (lo+k)) (kD (arrOf st') (lo+i))=false)/\(∀ i,l<=i->i<k->f (kD (arrOf st') (lo+k)) (kD (arrOf st') (lo+i))=true)) ?istep ?ifin ?iinit) ?ipost)
  case iinit=>exact⟨rfl,0,k,rfl,'l','l','l',fun i hi=>by lia,fun i h1 h2=>by lia⟩
  case ifin =>
   rintro c st'' ⟨rfl,l,r,rfl,hlr,hrk,hm,hlo,hhi⟩;have:l=r:=by lia
   subst this;exact⟨rfl,l,l,rfl,hrk,hlo,hhi⟩
  case istep =>
   rintro x c st'' _ hxk ⟨rfl,l,r,rfl,hlr,hrk,hm,hlo,hhi⟩;dsimp only;by_cases hge:l ≥ r
   .rw [if_pos hge];have:l=r:=by lia
    subst this;exact qv ⟨rfl,l,l,rfl,hrk,hlo,hhi⟩
   .rw [if_neg hge];refine qp (Z7 hA (hB'.kind.trans hk) (hD.of hB'.perm) 'l' 'l' ?_);dsimp only;cases c:f (kD (arrOf st'') (lo+k)) (kD (arrOf st'') (lo+(l+r) / 2)) with
    | true =>
     simp only[if_true];refine qv ⟨rfl,l,(l+r) / 2,rfl,'l','l','l',hlo,fun i h1 h2=>?_⟩;exact O.ltl c (hs' _ _ h1 h2)
    | false =>
     simp only[ql,if_false];refine qv ⟨rfl,(l+r) / 2+1,r,rfl,'l','l','l',fun i h1=>?_,hhi⟩;exact O.le (hs' i ((l+r) / 2) 'l' 'l') c
  case ipost =>
   rintro c st'' ⟨rfl,l,r,rfl,hlk,hlo,hhi⟩;show wpS _ _ _ _ (do moveDown' (lo+k) (lo+l);pure (ForInStep.yield (none,()))) _ _;rw[moveDown'_eq];have hks:lo+k<(arrOf st'').size:=by lia
   have ed:lo+k - (lo+l)=k - l:=by lia
   refine qp (j3 (qv ⟨rfl,⟨hB'.kind,hB'.pend,hB'.fail,(bubble_perm _ _ _).trans hB'.perm,fun j hj=>?_⟩,?_⟩))
   .show (bubble (arrOf st'') (lo+k) (lo+k - (lo+l)))[j]?=_;rw[getElem?_bubble hks _ 'l',if_neg 'l',if_neg 'l'];exact hB'.pre j hj
   rw[show min (k+1) n=k+1 by lia];intro i j hij hj;show f (kD (bubble (arrOf st'') (lo+k) (lo+k - (lo+l))) (lo+j)) (kD (bubble (arrOf st'') (lo+k) (lo+k - (lo+l))) (lo+i))=false;rw[qcx hks 'l',qcx hks 'l',ed,show lo+k - (k - l)=lo+l by lia];by_cases j1:j=l
   .rw [if_pos 'l'];by_cases i1:i=l
    .rw [if_pos 'l'];exact O.irr _
    .rw [if_neg 'l',if_neg 'l'];exact hlo i 'l'
   .rw [if_neg 'l'];by_cases j2:l<j/\j<=k
    .rw [if_pos 'l'];by_cases i1:i=l
     .rw [if_pos 'l'];have:=hhi (j - 1) 'l' 'l';rw[show lo+j - 1=lo+(j - 1) by lia];exact O.asym _ _ this
     .rw [if_neg 'l'];by_cases i2:l<i/\i<=k
      .rw [if_pos 'l',show lo+j - 1=lo+(j - 1) by lia,show lo+i - 1=lo+(i - 1) by lia];exact hs' _ _ 'l' 'l'
      .rw [if_neg 'l',show lo+j - 1=lo+(j - 1) by lia];exact hs' _ _ 'l' 'l'
    .rw [if_neg 'l',if_neg 'l',if_neg 'l'];exact hs' _ _ 'l' 'l'
end
end L2
namespace L2
open W
variable {f:Keyed->Keyed->Bool}{segs:List (List Keyed)}
def yI (f:Keyed->Keyed->Bool):Nat->List (List Keyed)->List (Nat×Nat×Nat)->Prop
 | _,[],[]=>True
 | off,sg::sgs,p::ps=>p.1=off/\p.2.1=sg.length/\SdK f sg/\sg≠[]/\yI f (off+sg.length) sgs ps
 | _,_,_=>False
theorem yI.len:∀ {off:Nat}{segs:List (List Keyed)}{ps:List (Nat×Nat×Nat)},yI f off segs ps->segs.length=ps.length
 | _,[],[],_=>rfl
 | _,_::_,_::_,h=>by simp[yI.len h.2.2.2.2]
theorem yI.snoc:∀ {off:Nat}{segs:List (List Keyed)}{ps:List (Nat×Nat×Nat)}{sg:List Keyed}{pw:Nat},yI f off segs ps->SdK f sg->sg≠[]->yI f off (segs++[sg]) (ps++[(off+segs.flatten.length,sg.length,pw)])
 | _,[],[],_,_,_,h1,h2=>⟨'s',rfl,h1,h2,trivial⟩
 | off,a::segs,p::ps,sg,pw,h,h1,h2=>by
  obtain⟨g1,g2,g3,g4,g5⟩:=h;have:=yI.snoc (pw:=pw) g5 h1 h2;refine⟨g1,g2,g3,g4,?_⟩;simp only[List.flatten_cons,qr];rw[Nat.add_assoc] at this;exact this
theorem yI.split:∀ {p1:List (Nat×Nat×Nat)}{off:Nat}{segs:List (List Keyed)}{A B:Nat×Nat×Nat}{p2:List (Nat×Nat×Nat)},yI f off segs (p1++A::B::p2) →
  ∃ s1 X Ya s2,segs=s1++X::Ya::s2/\A.1=off+s1.flatten.length/\A.2.1=X.length/\B.1=off+s1.flatten.length+X.length/\B.2.1=Ya.length/\SdK f X/\SdK f Ya/\X≠[]/\Ya≠[] ∧
   ∀ Z pw,SdK f Z->Z.length=X.length+Ya.length->yI f off (s1++Z::s2) (p1++(A.1,X.length+Ya.length,pw)::p2)
 | [],off,a::b::segs,A,B,p2,h=>by
  obtain⟨g1,g2,g3,g4,h1,h2,h3,h4,h5⟩:=h;refine⟨[],a,b,segs,rfl,by simpa using g1,g2,by simpa using h1,h2,g3,h3,g4,h4,fun Z pw z1 z2=>⟨g1,z2.symm,z1,fun e=>?_,?_⟩⟩
  .subst e;simp at z2;have:=List.length_pos_iff.mpr g4;lia
  .rw [z2,<- Nat.add_assoc];exact h5
 | p::p1,off,a::segs,A,B,p2,h=>by
  obtain⟨g1,g2,g3,g4,g5⟩:=h;obtain⟨s1,X,Ya,s2,e,k1,k2,k3,k4,k5,k6,k7,k8,k9⟩:=yI.split g5;refine⟨a::s1,X,Ya,s2,by rw[e];rfl,by rw[k1];simp;lia,k2,by rw[k3];simp;lia,k4,k5,k6,k7,k8,fun Z pw z1 z2=>⟨g1,g2,g3,g4,k9 Z pw z1 z2⟩⟩
theorem yI.repow {g:Nat×Nat×Nat->Nat×Nat×Nat}(hg:∀ p,(g p).1=p.1/\(g p).2.1=p.2.1):∀ {off:Nat}{segs:List (List Keyed)}{ps:List (Nat×Nat×Nat)}{i:Nat},yI f off segs ps->yI f off segs (ps.modify i g)
 | _,[],[],i,h=>by rw[List.modify_nil];exact h
 | _,a::segs,p::ps,0,h=>by
  obtain⟨g1,g2,g3,g4,g5⟩:=h;simp only[List.modify_zero_cons];exact⟨(hg p).1.trans g1,(hg p).2.trans g2,g3,g4,g5⟩
 | _,a::segs,p::ps,i+1,h=>by
  obtain⟨g1,g2,g3,g4,g5⟩:=h;simp only[List.modify_succ_cons];exact⟨g1,g2,g3,g4,yI.repow hg g5⟩
theorem yI.flat_pos:∀ {off:Nat}{segs:List (List Keyed)}{ps:List (Nat×Nat×Nat)},yI f off segs ps->ps.length<=segs.flatten.length
 | _,[],[],_=>qk _
 | _,a::segs,p::ps,h=>by
  have:=yI.flat_pos h.2.2.2.2;have:=List.length_pos_iff.mpr h.2.2.2.1;rw[List.flatten_cons,qr,qU];lia
def wrt (base:Nat) (a:Array Keyed) (l:List (Keyed×Nat)):Array Keyed:=l.foldl (fun a (p:Keyed×Nat)=>a.setIfInBounds (base+p.2) p.1) a
theorem qdV:∀ {M:List Keyed}{n base:Nat}{arr:Array Keyed}{A B C:List Keyed},arr.toList=A++(B++C)->A.length=base+n->M.length=B.length->(wrt base arr (M.zipIdx n)).toList=A++(M++C)
 | [],n,base,arr,A,B,C,h,_,hm=>by
  have:B=[]:=List.eq_nil_of_length_eq_zero hm.symm;subst this;simpa[wrt] using h
 | m::M,n,base,arr,A,[],C,h,_,hm=>by simp at hm
 | m::M,n,base,arr,A,b::B,C,h,ha,hm=>by
  have e:(arr.setIfInBounds (base+n) m).toList=(A++[m])++(B++C):=by
   rw[Array.toList_setIfInBounds,h,<- ha];simp
  have:=qdV (M:=M) (n:=n+1) (base:=base) (arr:=arr.setIfInBounds (base+n) m) e (by simp;lia) (by simpa using hm);rw[List.zipIdx_cons];show (wrt base (arr.setIfInBounds (base+n) m) (M.zipIdx (n+1))).toList=_;rw[this];simp
theorem qcv (i:Nat):mergeAt' i=(do
 let s <- get
 let (some (sa,na,power),some (sb,nb,_)):=((pendingOf s)[i]?,(pendingOf s)[i+1]?) | unsupported "internal:list.sort.pending"
 set (SortSt.mk' (PyProof.Rows.kindOf s) (arrOf s) (((pendingOf s).setIfInBounds i (sa,na+nb,power)).eraseIdxIfInBounds (i+1)) (gallopOf s) (failedOf s))
 let some k <- jP false (<- elem' (arrOf s) sb) (arrOf s) sa na 0 | return false
 let (sa,na):=(sa+k,na - k)
 if na == 0 then return true
 let some nb <- jP true (<- elem' (arrOf s) (sa+na - 1)) (arrOf s) sb nb (nb - 1) | return false
 if nb == 0 then return true
 let x:=(arrOf s).extract sa sb
 let y:=(arrOf s).extract sb (sb+nb)
 let merged <- if na<=nb then ZZ x y else Z0 x y
 modify fun s=>SortSt.mk' (PyProof.Rows.kindOf s) (merged.toList.zipIdx.foldl (fun a (p,j)=>a.setIfInBounds (sa+j) p) (arrOf s)) (pendingOf s) (gallopOf s) (failedOf s)
 return (failedOf (<- get)).isNone):=rfl
section
variable {D:Keyed->Prop}
theorem qkQ {st':SortSt}{Q:PUnit->SortSt->Prop}(h:Q ⟨⟩ st'):wpS 'm' A E s (set st':StateT SortSt Sem PUnit) Q st:=by unfold wpS;rw[StateT.run_set];exact qf ⟨rfl,h⟩
theorem qfg {p1 p2:List (Nat×Nat×Nat)}{a b v:Nat×Nat×Nat}{ps:Array (Nat×Nat×Nat)}(h:ps.toList=p1++a::b::p2):((ps.setIfInBounds p1.length v).eraseIdxIfInBounds (p1.length+1)).toList=p1++v::p2:=by
 have hz:ps.size=p1.length+2+p2.length:=by rw[<- qy,h];simp;lia
 unfold Array.eraseIdxIfInBounds;rw[dif_pos (by simp;lia),Array.toList_eraseIdx,Array.toList_setIfInBounds,h];simp;rw[List.eraseIdx_append_of_length_le 'l'];simp
theorem qbp {X Ya:List Keyed}(h1:SdK f X) (h2:SdK f Ya) (c:∀ x∈X,∀ y∈Ya,f y x=false):SdK f (X++Ya):=yo.mpr ⟨h1,h2,c⟩
theorem Zg (hA:Ask prog w A E s kd D f) (O:OrdK f) (hk:PyProof.Rows.kindOf st=kd) (hD:qfo D st) (hf:failedOf st=none) {rest:List Keyed}(ha:(arrOf st).toList=segs.flatten++rest) (hp:yI f 0 segs (pendingOf st).toList) (hi:i+1<(pendingOf st).size) {Q:Bool->SortSt->Prop}
  (q:∀ st' segs',PyProof.Rows.kindOf st'=kd->failedOf st'=none->(arrOf st').Perm (arrOf st)->(arrOf st').toList=segs'.flatten++rest->segs'.flatten.length=segs.flatten.length->yI f 0 segs' (pendingOf st').toList->(pendingOf st').size+1=(pendingOf st).size->Q true st') :
  wpS 'm' A E s (mergeAt' i) Q st:=by
 have hlen:(pendingOf st).toList.length=(pendingOf st).size:=qy;obtain⟨p1,a0,b0,p2,hpl,hp1⟩:∃ p1 a0 b0 p2,(pendingOf st).toList=p1++a0::b0::p2/\p1.length=i:=by
  refine⟨(pendingOf st).toList.take i,(pendingOf st)[i],(pendingOf st)[i+1],(pendingOf st).toList.drop (i+2),?_,by simp;lia⟩;have e1:=List.drop_eq_getElem_cons (l:=(pendingOf st).toList) (i:=i) 'l';have e2:=List.drop_eq_getElem_cons (l:=(pendingOf st).toList) (i:=i+1) 'l';have:=(q9 i (pendingOf st).toList).symm;rw[e1,e2] at this;exact this
 rw[hpl] at hp;obtain⟨s1,X,Ya,s2,rfl,k1,k2,k3,k4,k5,k6,k7,k8,k9⟩:=hp.split;have g1:(pendingOf st)[i]?=some a0:=by rw[<- qA,hpl,<- hp1];simp
 have g2:(pendingOf st)[i+1]?=some b0:=by
  rw[<- qA,hpl,<- hp1];rw[yb 'l'];simp
 obtain⟨sa,na,pw⟩:=a0;obtain⟨sb,nb,pw2⟩:=b0;simp only[Nat.zero_add] at k1 k2 k3 k4;subst k2 k4;rw[qcv];refine qp (wpS_get ?_);rw[g1,g2];dsimp only;refine qp (qkQ ?_);have hnp:(((pendingOf st).setIfInBounds i (sa,X.length+Ya.length,pw)).eraseIdxIfInBounds (i+1)).toList=p1++(sa,X.length+Ya.length,pw)::p2:=by rw[<- hp1];exact qfg hpl
 have hsz:(((pendingOf st).setIfInBounds i (sa,X.length+Ya.length,pw)).eraseIdxIfInBounds (i+1)).size+1=(pendingOf st).size:=by rw[<- qy,hnp,<- hlen,hpl];simp;lia
 generalize ((pendingOf st).setIfInBounds i (sa,X.length+Ya.length,pw)).eraseIdxIfInBounds (i+1)=np at hnp hsz ⊢;have harr:(arrOf st).toList=s1.flatten++(X++(Ya++(s2.flatten++rest))):=by rw[ha];simp
 have hsz2:(arrOf st).size=s1.flatten.length+(X.length+(Ya.length+(s2.flatten.length+rest.length))):=by rw[<- qy,harr];simp
 have hX:0<X.length:=List.length_pos_iff.mpr k7;have hY:0<Ya.length:=List.length_pos_iff.mpr k8;have getX:∀ j,j<X.length->(arrOf st)[sa+j]?=X[j]?:=fun j hj=>by
  rw[<- qA,harr,k1,yb 'l',qV 'l'];congr 1;lia
 have getY:∀ j,j<Ya.length->(arrOf st)[sb+j]?=Ya[j]?:=fun j hj=>by
  rw[<- qA,harr,k3,yb 'l',yb 'l',qV 'l'];congr 1;lia
 have dX:∀ x∈X,D x:=fun x hx=>hD x (by rw[harr];simp[hx]);have dY:∀ x∈Ya,D x:=fun x hx=>hD x (by rw[harr];simp[hx])
 have fin:∀ (st':SortSt) (Z:List Keyed),PyProof.Rows.kindOf st'=kd->failedOf st'=none->pendingOf st'=np->(arrOf st').toList=s1.flatten++(Z++(s2.flatten++rest))->SdK f Z->Z.Perm (X++Ya)->Q true st':=fun st' Z z1 z2 z3 z4 z5 z6=>by
  have zl:=z6.length_eq;rw[qr] at zl;refine q st' (s1++Z::s2) z1 z2 ?_ (by rw[z4];simp) (by simp[zl];lia) ?_ (by rw[z3];exact hsz)
  .rw [y4,z4,harr];refine List.Perm.append_left _ ?_;rw[<- qm X Ya];exact List.Perm.append_right _ z6
  .rw [z3,hnp];have:=k9 Z pw z5 zl;simpa using this
 have fin0:SdK f (X++Ya)->Q true (SortSt.mk' (PyProof.Rows.kindOf st) (arrOf st) np (gallopOf st) (failedOf st)):=fun h=>fin _ (X++Ya) hk hf rfl (by rw[harr];simp) h (List.Perm.refl _);have y0:(arrOf st)[sb]?=some Ya[0]:=by
  have:=getY 0 hY;rwa[Nat.add_zero,qh hY] at this
 rw[elem'_eq,y0];refine qp (qv ?_);refine qp (qaV hA O hk X rfl getX (dY _ (yh hY)) dX hX k5 fun k hk1 hk2 hk3=>?_);have leX:∀ x∈X.take k,f Ya[0] x=false:=fun x hx=>by simpa[byd] using hk2 x hx
 have gtX:∀ x∈X.drop k,f Ya[0] x=true:=fun x hx=>by simpa[byd] using hk3 x hx
 have Y0le:∀ y∈Ya,f y Ya[0]=false:=fun y hy=>by
  obtain⟨j,hj,rfl⟩:=List.mem_iff_getElem.mp hy;by_cases e:j=0
  .subst e;exact O.irr _
  .exact yp.mp k6 0 j hY hj 'l'
 dsimp only;by_cases e:X.length - k=0
 .rw [if_pos (by simpa using e)];refine qv (fin0 (qbp k5 k6 fun x hx y hy=>?_));have:X.take k=X:=y8 'l';exact O.le (leX x (by rw[this];exact hx)) (Y0le y hy)
 .rw [if_neg (by simpa using e)];have hl:X.length - 1<X.length:=by lia
  have xl:(arrOf st)[sa+k+(X.length - k) - 1]?=some X[X.length - 1]:=by rw[show sa+k+(X.length - k) - 1=sa+(X.length - 1) by lia,getX _ hl,qh hl]
  rw[elem'_eq,xl];refine qp (qv ?_);refine qp (qaV hA O hk Ya rfl getY (dX _ (yh hl)) dY 'l' k6 fun m hm1 hm2 hm3=>?_);have ltY:∀ x∈Ya.take m,f x X[X.length - 1]=true:=fun x hx=>hm2 x hx;have geY:∀ x∈Ya.drop m,f x X[X.length - 1]=false:=fun x hx=>hm3 x hx;have Xle:∀ x∈X,f X[X.length - 1] x=false:=fun x hx=>by
   obtain⟨j,hj,rfl⟩:=List.mem_iff_getElem.mp hx;by_cases e:j=X.length - 1
   .subst e;exact O.irr _
   .exact yp.mp k5 j (X.length - 1) hj hl 'l'
  dsimp only;by_cases e2:m=0
  .rw [if_pos (by simpa using e2)];subst e2;refine qv (fin0 (qbp k5 k6 fun x hx y hy=>O.le (Xle x hx) (geY y (by simpa using hy))))
  .rw [if_neg (by simpa using e2)];have ex:((arrOf st).extract (sa+k) sb).toList=X.drop k:=by
    have e:((arrOf st).extract (sa+k) sb).toList=((arrOf st).toList.drop (sa+k)).take (sb - (sa+k)):=by simp[jZ,jd]
    rw[e,harr,k1,k3,List.drop_append,List.drop_of_length_le 'l',List.nil_append,show s1.flatten.length+k - s1.flatten.length=k by lia,List.drop_append_of_le_length 'l',List.take_append_of_le_length (by simp;lia)];exact y8 (by simp;lia)
   have ey:((arrOf st).extract sb (sb+m)).toList=Ya.take m:=by rw[JR,harr,k3,List.drop_append,List.drop_of_length_le 'l',List.nil_append,show s1.flatten.length+X.length - s1.flatten.length=X.length by lia,List.drop_left,List.take_append_of_le_length hm1]
   generalize (arrOf st).extract (sa+k) sb=ax at ex ⊢;generalize (arrOf st).extract sb (sb+m)=ay at ey ⊢;have hax:ax.size=X.length - k:=by rw[<- qy,ex];simp
   have hay:ay.size=m:=by rw[<- qy,ey];simp;lia
   have getax:∀ j (h:j<ax.size),ax[j]=X[k+j]'('l'):=fun j h=>by
    have:ax.toList[j]'(by simpa using h)=(X.drop k)[j]'(by simp;lia):=by simp only[ex]
    rw[List.getElem_drop] at this;exact this
   have getay:∀ j (h:j<ay.size),ay[j]=Ya[j]'('l'):=fun j h=>by
    have:ay.toList[j]'(by simpa using h)=(Ya.take m)[j]'(by simp;lia):=by simp only[ey]
    rw[List.getElem_take] at this;exact this
   have hB:Both D f ax ay:=by
    refine⟨fun x hx=>dX x (js (by rw[<- ex];exact hx)),fun x hx=>dY x (jY (by rw[<- ey];exact hx)),'l','l',fun x hx=>?_,?_,?_,?_⟩
    .rw [getax];have:=ltY x (by rw[<- ey];exact hx);simp only[hax,show k+(X.length - k - 1)=X.length - 1 by lia];exact this
    .rw [getax,getay];exact gtX _ (List.mem_iff_getElem.mpr ⟨0,by simp;lia,by rw[List.getElem_drop]⟩)
    .rw [ex];exact List.Pairwise.sublist (List.drop_sublist _ _) k5
    .rw [ey];exact List.Pairwise.sublist (List.take_sublist _ _) k6
   have key:∀ (o:Array Keyed) (st':SortSt),yX (SortSt.mk' (PyProof.Rows.kindOf st) (arrOf st) np (gallopOf st) (failedOf st)) st'->YV f ax ay o->Q true (SortSt.mk' (PyProof.Rows.kindOf st') (wrt (sa+k) (arrOf st') o.toList.zipIdx) (pendingOf st') (gallopOf st') (failedOf st')):=fun o st' hs ⟨h1,h2⟩=>by
    rw[ex,ey] at h2;have ol:=h2.length_eq;refine fin _ (X.take k++(o.toList++Ya.drop m)) (hs.1.trans hk) (hs.2.2.2.trans hf) hs.2.2.1 ?_ ?_ ?_
    .show (wrt (sa+k) (arrOf st') o.toList.zipIdx).toList=_;have ea:(arrOf st').toList=(s1.flatten++X.take k)++((X.drop k++Ya.take m)++(Ya.drop m++(s2.flatten++rest))):=by
      have:arrOf st'=arrOf st:=hs.2.1;rw[this,harr];have e1:=q9 k X;have e2:=q9 m Ya;rw[<- qm (X.drop k++Ya.take m),qm (X.drop k),e2];rw[qm s1.flatten,<- qm (X.take k),<- qm (X.take k),e1];simp
     rw[qdV (n:=0) ea (by rw[qr,jI];lia) ol];simp
    .refine qbp (List.Pairwise.sublist (List.take_sublist _ _) k5) (qbp h1 (List.Pairwise.sublist (List.drop_sublist _ _) k6) fun x hx y hy=>?_) fun x hx y hy=>?_
     .have hx:=h2.mem_iff.mp hx;rcases qG.mp hx with z | z
      .exact O.le (Xle x (js z)) (geY y hy)
      .have hY2:=q9 m Ya;have:SdK f (Ya.take m++Ya.drop m):=by rw[hY2];exact k6
       exact (yo.mp this).2.2 x z y hy
     .rcases qG.mp hy with z | z
      .have z:=h2.mem_iff.mp z;rcases qG.mp z with z | z
       .have hX2:=q9 k X;have:SdK f (X.take k++X.drop k):=by rw[hX2];exact k5
        exact (yo.mp this).2.2 x hx y z
       .exact O.le (leX x hx) (Y0le y (jY z))
      .exact O.le (leX x hx) (Y0le y (js z))
    .refine List.Perm.trans (List.Perm.append_left _ (List.Perm.append_right _ h2)) ?_;rw[qm,q9 m Ya,<- qm,q9 k X]
   by_cases e3:X.length - k<=m
   .rw [if_pos e3];refine qp (qeJ (st:=SortSt.mk' (PyProof.Rows.kindOf st) (arrOf st) np (gallopOf st) (failedOf st)) hA O hB hk fun o st' hs h=>?_);refine qp (j3 (qp (wpS_get (qv ?_))));have e0:(failedOf st').isNone=true:=by
     have:failedOf st'=none:=hs.2.2.2.trans hf;rw[this];rfl
    show Q (failedOf st').isNone _;rw[e0];exact key o st' hs h
   .rw [if_neg e3];refine qp (qeK (st:=SortSt.mk' (PyProof.Rows.kindOf st) (arrOf st) np (gallopOf st) (failedOf st)) hA O hB hk fun o st' hs h=>?_);refine qp (j3 (qp (wpS_get (qv ?_))));have e0:(failedOf st').isNone=true:=by
     have:failedOf st'=none:=hs.2.2.2.trans hf;rw[this];rfl
    show Q (failedOf st').isNone _;rw[e0];exact key o st' hs h
structure RI (f:Keyed->Keyed->Bool) (kd:SortKind) (a0:Array Keyed) (lo:Nat) (st:SortSt):Prop where
 kind:PyProof.Rows.kindOf st=kd
 fail:failedOf st=none
 perm:(arrOf st).Perm a0
 segs:∃ segs rest,(arrOf st).toList=segs.flatten++rest/\segs.flatten.length=lo/\yI f 0 segs (pendingOf st).toList
theorem RI.size (h:RI f kd a0 lo st):(arrOf st).size=a0.size:=h.perm.size_eq
theorem qg6 {l:List Keyed}{pre:List Keyed}{post:List Keyed}(h:xs.toList=pre++(l++post)) (hi:i<l.length):kD xs (pre.length+i)=l[i]:=by
 have hz:pre.length+i<xs.size:=by rw[<- qy,h];simp;lia
 have:=qg7 hz;rw[<- qA,h,yb 'l',qV 'l',Nat.add_sub_cancel_left,qh hi] at this;exact (Option.some.inj this).symm
theorem RI.run (h:RI f kd a0 lo st0) (hv:SV lo st0 st) (h1:1<=n) (h2:lo+n<=a0.size) (hu:UpL f lo (arrOf st) n):∃ segs run rest,(arrOf st).toList=segs.flatten++(run++rest)/\segs.flatten.length=lo/\yI f 0 segs (pendingOf st).toList/\SdK f run/\run.length=n:=by
 obtain⟨segs,rest,g1,g2,g3⟩:=h.segs;have hz:(arrOf st).size=a0.size:=hv.size.trans h.size;have hz0:=h.size;have e1:(arrOf st).toList.take lo=segs.flatten:=by
  have:(arrOf st).toList.take lo=(arrOf st0).toList.take lo:=by
   apply List.ext_getElem?;intro i;rw[List.getElem?_take,List.getElem?_take];split
   .rename_i hi
    rw[qA,qA];exact hv.pre i hi
   .rfl
  rw[this,g1,<- g2,List.take_left]
 have hl:(arrOf st).toList.length=a0.size:=by rw[qy];exact hz
 refine⟨segs,((arrOf st).toList.drop lo).take n,((arrOf st).toList.drop lo).drop n,?_,g2,by rw[hv.pend];exact g3,?_,by simp;lia⟩
 .rw [q9 n,<- e1,q9]
 .refine yp.mpr fun i j hi hj hij=>?_;have hi':i<n:=by simp at hi;lia
  have hj':j<n:=by simp at hj;lia
  have:=hu i j 'l' hj';have ed:(arrOf st).toList=segs.flatten++(((arrOf st).toList.drop lo).take n++((arrOf st).toList.drop lo).drop n):=by rw[q9 n,<- e1,q9]
  subst g2;rw[qg6 ed hi,qg6 ed hj] at this;exact this
theorem RI.push (hk:PyProof.Rows.kindOf st=kd) (hf:failedOf st=none) (hp:(arrOf st).Perm a0) {run rest:List Keyed}(g1:(arrOf st).toList=segs.flatten++(run++rest)) (g2:segs.flatten.length=lo) (g3:yI f 0 segs (pendingOf st).toList) (g4:SdK f run) (g5:run.length=n) (h1:1<=n) :
  RI f kd a0 (lo+n) (setPending st ((pendingOf st).push (lo,n,0))):=by
 refine⟨hk,hf,hp,segs++[run],rest,by rw[show arrOf (setPending st ((pendingOf st).push (lo,n,0)))=arrOf st from rfl,g1];simp,by simp only[List.flatten_append,qr,List.flatten_cons,List.flatten_nil,j8,g2,g5],?_⟩;have:=g3.snoc (pw:=0) g4 (fun e=>by subst e;simp at g5;lia);rw[show (pendingOf (setPending st ((pendingOf st).push (lo,n,0)))).toList=(pendingOf st).toList++[(lo,n,0)] from jc ..];rw[Nat.zero_add,g2,g5] at this;exact this
theorem Z6 (hA:Ask prog w A E s kd D f) (O:OrdK f) (hk:PyProof.Rows.kindOf st=kd) (hf:failedOf st=none) (ha:arrOf st=a0) (hp0:pendingOf st=#[]) (hD:∀ x∈a0.toList,D x) (h2:2<=a0.size) {Q:Unit->SortSt->Prop}
  (q:∀ st',(arrOf st').Perm a0->failedOf st'=none->SdK f (arrOf st').toList->Q () st'):wpS 'm' A E s sortRuns' Q st:=by
 have hAll:∀ st',(arrOf st').Perm a0->qfo D st':=fun st' h x hx=>hD x ((y4.mp h).mem_iff.mp hx);rw[sortRuns'_eq];refine qp (wpS_get ?_);dsimp only;rw[ha];generalize minRun' a0.size a0.size 0=minrun;refine qp (jD (yE
  (I:=fun x c st'=>∃ lo,c=(none,lo)/\x<=lo/\lo<=a0.size/\RI f kd a0 lo st')
  (Q:=fun c st'=>c=(none,a0.size)/\RI f kd a0 a0.size st') ?step ?fin ⟨0,rfl,qk _,yj _,hk,hf,ha ▸ Array.Perm.refl _,[],a0.toList,by rw[ha];rfl,rfl,by rw[hp0];trivial⟩) ?post)
 case fin =>
  rintro c st' ⟨lo,rfl,g1,g2,g3⟩;have:lo=a0.size:=by lia
  subst this;exact⟨rfl,g3⟩
 case step =>
  rintro x c st' _ hx ⟨lo,rfl,g1,g2,g3⟩;dsimp only;by_cases hge:lo ≥ a0.size
  .rw [if_pos hge];have:lo=a0.size:=by lia
   subst this;exact qv ⟨rfl,g3⟩
  .rw [if_neg hge];have hz:=g3.size;refine qp (qc6 hA O g3.kind (hAll _ g3.perm) 'l' 'l' fun n st1 hv h1 hn hu=>?_);dsimp only
   have next:∀ (n:Nat) (st1:SortSt),SV lo st' st1->1<=n->lo+n<=a0.size->UpL f lo (arrOf st1) n->∃ segs run rest,PyProof.Rows.kindOf st1=kd/\failedOf st1=none/\(arrOf st1).Perm a0/\(arrOf st1).toList=segs.flatten++(run++rest)/\segs.flatten.length=lo/\yI f 0 segs (pendingOf st1).toList/\SdK f run/\run.length=n:=fun n st1 hv h1 hn hu=>by
    obtain⟨segs,run,rest,e⟩:=g3.run hv h1 hn hu;exact⟨segs,run,rest,hv.kind.trans g3.kind,hv.fail.trans g3.fail,hv.perm.trans g3.perm,e⟩
   by_cases hlt:n<minrun
   .rw [if_pos hlt];refine qp (wpS_lift (Jy ⟨rfl,?_⟩));have hz1:=hv.size;refine qp (qeL (n:=min (a0.size - lo) minrun) (ok:=n) hA O (hv.kind.trans g3.kind) (hAll _ (hv.perm.trans g3.perm)) 'l' 'l' hu fun st2 hv2 hu2=>?_);simp only[Jh,ql,if_false];obtain⟨segs,run,rest,b1,b2,b3,b4,b5,b6,b7,b8⟩:=next (min (a0.size - lo) minrun) st2 (hv.trans hv2) 'l' 'l' hu2
    have hnn:1<=min (a0.size - lo) minrun/\min (a0.size - lo) minrun<=a0.size - lo:=by lia
    generalize min (a0.size - lo) minrun=n at *;have hn1:1<=n:=by lia
    refine qp (wpS_get ?_);cases hb:(pendingOf st2).back? with
    | none =>
     dsimp only;exact qp (j3 (qv ⟨lo+n,rfl,'l','l',RI.push b1 b2 b3 b4 b5 b6 b7 b8 hn1⟩))
    | some p =>
     obtain⟨s1,n1,pw1⟩:=p;dsimp only;generalize power' a0.size (2 * s1+n1) (2 * s1+n1+n1+n) a0.size=pw;refine qp (jD (yE (I:=fun _ c sx=>c=(none,())/\∃ segs,PyProof.Rows.kindOf sx=kd/\failedOf sx=none/\(arrOf sx).Perm a0/\(arrOf sx).toList=segs.flatten++(run++rest)/\segs.flatten.length=lo/\yI f 0 segs (pendingOf sx).toList)
      (Q:=fun c sx=>c=(none,())/\∃ segs,PyProof.Rows.kindOf sx=kd/\failedOf sx=none/\(arrOf sx).Perm a0/\(arrOf sx).toList=segs.flatten++(run++rest)/\segs.flatten.length=lo/\yI f 0 segs (pendingOf sx).toList) ?mstep1 ?mfin1 ⟨rfl,segs,b1,b2,b3,b4,b5,b6⟩) ?mpost1)
     case mfin1=>exact fun c sx h=>h
     case mstep1 =>
      rintro y c sx _ _ ⟨rfl,segs,d1,d2,d3,d4,d5,d6⟩;refine qp (wpS_get ?_);by_cases hs:(pendingOf sx).size > 1
      .rw [if_pos hs];have e:(pendingOf sx)[(pendingOf sx).size - 2]?=some ((pendingOf sx)[(pendingOf sx).size - 2]):=jT 'l';rw[e];generalize (pendingOf sx)[(pendingOf sx).size - 2]=t;obtain⟨t1,t2,t3⟩:=t;dsimp only;split
       .exact qv ⟨rfl,segs,d1,d2,d3,d4,d5,d6⟩
       .refine qp (Zg hA O d1 (hAll _ d3) d2 d4 d6 'l' fun st4 segs' z1 z2 z3 z4 z5 z6 z7=>?_);simp only[Jh,ql,if_false];exact qv ⟨rfl,segs',z1,z2,z3.trans d3,z4,z5.trans d5,z6⟩
      .rw [if_neg hs];exact qv ⟨rfl,segs,d1,d2,d3,d4,d5,d6⟩
     case mpost1 =>
      rintro c sx ⟨rfl,segs,d1,d2,d3,d4,d5,d6⟩;dsimp only;refine qp (j3 (qp (j3 (qv ⟨lo+n,rfl,'l','l',?_⟩))));have d7:yI f 0 segs ((pendingOf sx).modify ((pendingOf sx).size - 1) fun x=>(x.1,x.2.1,pw)).toList:=by rw[Array.toList_modify];exact yI.repow (g:=fun x=>(x.1,x.2.1,pw)) (fun p=>⟨rfl,rfl⟩) d6
      exact RI.push (st:=setPending sx ((pendingOf sx).modify ((pendingOf sx).size - 1) fun x=>(x.1,x.2.1,pw))) d1 d2 d3 d4 d5 d7 b7 b8 hn1
   .rw [if_neg hlt];obtain⟨segs,run,rest,b1,b2,b3,b4,b5,b6,b7,b8⟩:=next n st1 hv h1 'l' hu
    have hn1:1<=n:=by lia
    refine qp (wpS_get ?_);cases hb:(pendingOf st1).back? with
    | none =>
     dsimp only;exact qp (j3 (qv ⟨lo+n,rfl,'l','l',RI.push b1 b2 b3 b4 b5 b6 b7 b8 hn1⟩))
    | some p =>
     obtain⟨s1,n1,pw1⟩:=p;dsimp only;generalize power' a0.size (2 * s1+n1) (2 * s1+n1+n1+n) a0.size=pw;refine qp (jD (yE (I:=fun _ c sx=>c=(none,())/\∃ segs,PyProof.Rows.kindOf sx=kd/\failedOf sx=none/\(arrOf sx).Perm a0/\(arrOf sx).toList=segs.flatten++(run++rest)/\segs.flatten.length=lo/\yI f 0 segs (pendingOf sx).toList)
      (Q:=fun c sx=>c=(none,())/\∃ segs,PyProof.Rows.kindOf sx=kd/\failedOf sx=none/\(arrOf sx).Perm a0/\(arrOf sx).toList=segs.flatten++(run++rest)/\segs.flatten.length=lo/\yI f 0 segs (pendingOf sx).toList) ?mstep2 ?mfin2 ⟨rfl,segs,b1,b2,b3,b4,b5,b6⟩) ?mpost1)
     case mfin2=>exact fun c sx h=>h
     case mstep2 =>
      rintro y c sx _ _ ⟨rfl,segs,d1,d2,d3,d4,d5,d6⟩;refine qp (wpS_get ?_);by_cases hs:(pendingOf sx).size > 1
      .rw [if_pos hs];have e:(pendingOf sx)[(pendingOf sx).size - 2]?=some ((pendingOf sx)[(pendingOf sx).size - 2]):=jT 'l';rw[e];generalize (pendingOf sx)[(pendingOf sx).size - 2]=t;obtain⟨t1,t2,t3⟩:=t;dsimp only;split
       .exact qv ⟨rfl,segs,d1,d2,d3,d4,d5,d6⟩
       .refine qp (Zg hA O d1 (hAll _ d3) d2 d4 d6 'l' fun st4 segs' z1 z2 z3 z4 z5 z6 z7=>?_);simp only[Jh,ql,if_false];exact qv ⟨rfl,segs',z1,z2,z3.trans d3,z4,z5.trans d5,z6⟩
      .rw [if_neg hs];exact qv ⟨rfl,segs,d1,d2,d3,d4,d5,d6⟩
     case mpost1 =>
      rintro c sx ⟨rfl,segs,d1,d2,d3,d4,d5,d6⟩;dsimp only;refine qp (j3 (qp (j3 (qv ⟨lo+n,rfl,'l','l',?_⟩))));have d7:yI f 0 segs ((pendingOf sx).modify ((pendingOf sx).size - 1) fun x=>(x.1,x.2.1,pw)).toList:=by rw[Array.toList_modify];exact yI.repow (g:=fun x=>(x.1,x.2.1,pw)) (fun p=>⟨rfl,rfl⟩) d6
      exact RI.push (st:=setPending sx ((pendingOf sx).modify ((pendingOf sx).size - 1) fun x=>(x.1,x.2.1,pw))) d1 d2 d3 d4 d5 d7 b7 b8 hn1
 case post =>
  rintro c st' ⟨rfl,g3⟩;dsimp only;refine qp (jD (yE (I:=fun x c sx=>c=(none,())/\RI f kd a0 a0.size sx/\(pendingOf sx).size+x<=a0.size+1)
   (Q:=fun c sx=>c=(none,())/\RI f kd a0 a0.size sx/\(pendingOf sx).size<=1) ?lstep ?lfin ⟨rfl,g3,?linit⟩) ?lpost)
  case linit =>
   obtain⟨segs,rest,e1,e2,e3⟩:=g3.segs;have:=e3.flat_pos;rw[qy] at this;lia
  case lfin =>
   rintro c sx ⟨rfl,h,h'⟩;exact⟨rfl,h,'l'⟩
  case lstep =>
   rintro x c sx _ _ ⟨rfl,h,h'⟩;refine qp (wpS_get ?_);by_cases hs:(pendingOf sx).size<=1
   .rw [if_pos hs];exact qv ⟨rfl,h,hs⟩
   .rw [if_neg hs];obtain⟨segs,rest,e1,e2,e3⟩:=h.segs;have go:∀ i,i+1<(pendingOf sx).size->wpS 'm' A E s (mergeAt' i) (fun r st4=>r=true/\RI f kd a0 a0.size st4/\(pendingOf st4).size+1=(pendingOf sx).size) sx:=fun i hi =>
     Zg hA O h.kind (hAll _ h.perm) h.fail e1 e3 hi fun st4 segs' z1 z2 z3 z4 z5 z6 z7=>⟨rfl,⟨z1,z2,z3.trans h.perm,segs',rest,z4,z5.trans e2,z6⟩,z7⟩
    refine qp (jD (go _ ?_) fun r st4 hr=>?_)
    .have two:∀ (c:Prop) [Decidable c] (a b z:Nat),a+1<z->b+1<z->(if c then a else b)+1<z:=fun c a b z h1 h2=>by split <;> assumption
     exact two _ _ _ _ 'l' 'l'
    .obtain ⟨rfl,h4,h5⟩:=hr;simp only[Jh,ql,if_false];exact qv ⟨rfl,h4,'l'⟩
  case lpost =>
   rintro c sx ⟨rfl,h,h'⟩;dsimp only;obtain⟨segs,rest,e1,e2,e3⟩:=h.segs;refine qv (q sx h.perm h.fail ?_);have hl:=e3.len;rw[qy] at hl;have hz:=h.size;match segs,hl,e1,e2,e3 with
   | [],_,_,e2,_=>simp at e2;lia
   | [Z],_,e1,e2,e3 =>
    have e1l:=congrArg List.length e1;rw[qr,qy,e2,hz] at e1l;have:rest=[]:=List.eq_nil_of_length_eq_zero 'l';rw[e1,this,j8];match (pendingOf sx).toList,e3 with
    | [p],e3=>simpa using e3.2.2.1
   | _::_::_,hl,_,_,_=>simp at hl;lia
end
end L2
namespace L2
open W
variable {vs:List Value}
def qeI (vs:List Value) (p:Array Nat):List Value:=p.toList.map fun i=>vs.getD i Value.none
def ltK (kss:List (List Int)):Nat->Nat->Bool:=fun i j=>decide (kss.getD i []<kss.getD j [])
theorem j9 : ∀ {vs:List Value}{kss:List (List Int)},PySem.Paired (jq h) vs kss->∀ i,i<vs.length->jq h (vs.getD i Value.none) (kss.getD i [])
 | _,_,.nil,i,z=>by simp at z
 | _,_,.cons r t,0,_=>r
 | _,_,.cons r t,i+1,z=>j9 t i (by simpa using z)
theorem qbW {p:Array Nat}(hp:Arr vs.length p):(qeI vs p).length=vs.length:=by
 unfold qeI;rw[qc,qy,hp.size]
theorem qaC:∀ {vs:List Value}{a b:List Int},IntsAre vs a->IntsAre vs b->a=b
 | _,_,_,.nil,.nil=>rfl
 | _,_,_,.cons _ _ h,.cons _ _ g=>by rw[qaC h g]
open Classical in
noncomputable def kf (h:Heap) (v:Value):List Int:=epsilon fun ks=>jq h v ks
theorem qg1 {v:Value}(t:jq h v ks):kf h v=ks:=by
 have t2:=Classical.epsilon_spec (p:=fun ks=>jq h v ks) ⟨ks,t⟩;obtain⟨a,o,xs,n,rfl,ho,_,hd,hi,_⟩:=t;obtain⟨a',o',xs',n',e,ho',_,hd',hi',_⟩:=t2;cases e
 rw[ho] at ho';cases ho'
 rw[hd] at hd';cases hd'
 exact qaC hi' hi
noncomputable def kfF (h:Heap):Keyed->Keyed->Bool:=fun x y=>decide (kf h x.1<kf h y.1)
theorem qki (h:Heap):OrdK (kfF h) where
 asym a b h:=yi (qep (qx h))
 neg a b c h1:=by
  have h1:=qx h1;by_cases e:kf h a.1<kf h b.1
  .exact .inl (qH e)
  .exact .inr (qH (List.lt_of_le_of_lt (List.not_lt.mp e) h1))
theorem qeG:Ask prog w A E s (tuples' true) (fun x=>∃ ks,jq s.heap x.1 ks) (kfF s.heap):=by
 intro x y st Q ⟨k1,t1⟩ ⟨k2,t2⟩ hk q;rw[lt'_eq];refine qp (wpS_get ?_);rw[hk];refine qp (wpS_lift (wpAny_attempt (lt_wp t1 t2 ⟨rfl,?_⟩)));unfold kfF at q;rw[qg1 t1,qg1 t2] at q;exact qv q
theorem ZY (g:β->α) {xs ys:List α}(h:xs.Perm ys):∀ {l:List β},ys=l.map g->∃ l':List β,l'.Perm l/\xs=l'.map g:=by
 induction h with
 | nil =>
  intro l e;exact⟨l,List.Perm.refl _,e⟩
 | cons x p ih =>
  intro l e;cases l with
  | nil=>cases e
  | cons b l =>
   rw[qP] at e;obtain⟨e1,e2⟩:=List.cons.inj e;obtain⟨l',p',e'⟩:=ih e2;exact⟨b::l',p'.cons b,by rw[qP,e',e1]⟩
 | swap x y l0 =>
  intro l e;match l,e with
  | b::c::l,e =>
   simp only[qP,List.cons.injEq] at e;obtain⟨e1,e2,e3⟩:=e;exact⟨c::b::l,List.Perm.swap _ _ _,by simp[e1,e2,e3]⟩
 | trans p1 p2 ih1 ih2 =>
  intro l e;obtain⟨l',q1,e1⟩:=ih2 e;obtain⟨l'',q2,e2⟩:=ih1 e1;exact⟨l'',q2.trans q1,e2⟩
theorem qiE (hT:PySem.Paired (jq h) vs kss) (hp:xs.Perm (pairsOf vs)) (hs:SdK (kfF h) xs.toList):∃ p,Arr vs.length p/\qmU (ltK kss) p vs.length/\xs=p.map (kas_item (pairsOf vs)):=by
 have y:=kas_range (pairsOf vs);rw[pairsOf_size] at y;have hp:=y4.mp hp;rw[<- y,Array.toList_map] at hp;obtain⟨l,p1,e⟩:=ZY _ hp rfl;have p1:l.Perm (List.range vs.length):=by simpa using p1
 have hl:l.length=vs.length:=by rw[p1.length_eq,List.length_range]
 refine⟨l.toArray,y4.mpr (by simpa using p1),fun i j hij hj=>?_,Array.toList_inj.mp (by rw[e,Array.toList_map])⟩;have gi:∀ i (hi:i<l.length),gD l.toArray i=l[i]:=fun i hi=>by simp[gD,Array.getD,hi]
 rw[gi i 'l',gi j 'l'];have lt:∀ i (hi:i<l.length),l[i]<vs.length:=fun i hi=>yB.mp (p1.mem_iff.mp (yh hi));have key:∀ i (hi:i<l.length),kf h ((kas_item (pairsOf vs) l[i]).1)=kss.getD l[i] []:=fun i hi=>by
  rw[kas_item_eq];exact qg1 (j9 hT _ (lt i hi))
 by_cases c:i=j
 .subst c;exact (qgR fun i=>kss.getD i []).irr _
 .rw [e] at hs;have:=yp.mp hs i j (by simp;lia) (by simp;lia) 'l';simp only[List.getElem_map] at this;unfold kfF at this;rw[key i 'l',key j 'l'] at this;exact this
theorem qfU {P:PySem.Fin->Shared->Prop}(ho:s.heap.get? a=some (seqObj "list" vs.toArray n)) (hT:PySem.Paired (jq s.heap) vs kss) (h64:vs.length<4915)
  (h:∀ p,Arr vs.length p->qmU (ltK kss) p vs.length->P (.done (.ret .none)) { s with heap:=sortedHeap s.heap a vs (qeI vs p).toArray }) :
  wpAny 'm' A (Builtin.«list.sort» ⟨[.ref a],[]⟩) P E s:=by
 rw[list_sort_plain];have hlt:a<s.heap.objs.size:=qo ho;have hn64:vs.length<=sizeLine:=by rw[sizeLine_eq];lia
 refine qa (listItems_at ho rfl (qa (listUpdate_at ho rfl ?_ (by rw[qB];exact hn64) (yj _))));obtain⟨ep,hc⟩:∃ ep,(s.heap.update a (Obj.mapSeq fun _=>(#[]:Array Value))).get? a=some (seqObj "list" #[] ep):=⟨_,get?_update_seq ho fun _=>#[]⟩;refine qa (seqEpoch_at hc rfl (qa (wpAny_newTuple (qa (wpAny_newList (yq ?_) (yj _))) (by show vs.length<=_;exact hn64))));generalize hh:((s.heap.update a (Obj.mapSeq fun _=>(#[]:Array Value))).push (seqObj "tuple" vs.toArray 0)).push (seqObj "list" #[] 0)=h6;have at6:h6.get? a=some (seqObj "list" #[] ep):=by
  rw[<- hh];exact qd _ (qd _ hc)
 have old6:∀ b o,s.heap.get? b=some o->b≠a->h6.get? b=some o:=fun b o e ne=>by
  rw[<- hh];refine qd _ (qd _ ?_);rw[jC _ _ _ _ ne];exact e
 have hT6:PySem.Paired (jq h6) vs kss:=Paired.mapP hT fun v ks t=>t.kept fun b o e hcl=>old6 b o e fun z=>by
  subst z;rw[ho] at e;cases e
  exact absurd (show Value.type "list" = Value.type "tuple" from hcl) 'd'
 have fin6:∀ p,Arr vs.length p->qmU (ltK kss) p vs.length->P (.done (.ret .none)) { s with heap:=h6.update a (Obj.mapSeq fun _=>(qeI vs p).toArray) }:=fun p hp hs=>by
  have:=h p hp hs;unfold sortedHeap at this;rw[hh] at this;exact this
 show wpAny 'm' A _ P E { s with heap:=h6 };dsimp only;have sz:vs.toArray.size=vs.length:=qB ..;have zipE:vs.toArray.zip vs.toArray=pairsOf vs:=rfl;have snd:∀ p,((p.map (kas_item (pairsOf vs))).map (·.2))=(qeI vs p).toArray:=fun p=>by
  apply Array.toList_inj.mp;simp only[Array.toList_map,yu,qeI];exact List.map_congr_left fun i _=>by simp[kas_item_eq]
 by_cases c2:vs.toArray.size<2
 .rw [if_pos c2,if_pos c2];refine qa (qf ?_);rw[StateT.run_pure];refine qa (qf ?_);dsimp only;have e0:((vs.toArray.zip vs.toArray).map (·.2))=(qeI vs (List.range vs.length).toArray).toArray:=by
   have z:=snd (List.range vs.length).toArray;have y:=kas_range (pairsOf vs);rw[pairsOf_size] at y;rw[<- z,y,zipE]
  refine qa (seqEpoch_at at6 rfl (qa (listUpdate_at at6 rfl ?_ (yj _) ?_)))
  .simp only[bne_self_eq_false,ql,if_false];refine qf ?_;have f0:=fin6 (List.range vs.length).toArray (Array.Perm.refl _) fun i j hij hj=>by
    have:i=j:=by rw[sz] at c2;lia
    subst this;exact (qgR fun i=>kss.getD i []).irr _
   rw[<- e0] at f0;exact f0
  .show ((vs.toArray.zip vs.toArray).map (·.2)).size<=_;rw[e0,qB,qbW (Array.Perm.refl _)];lia
 .rw [if_neg c2,if_neg c2];refine qa (qg0 (s:={ s with heap:=h6 }) hT6 (by rw[sz] at c2;lia) ?_);have hD6:∀ x∈(pairsOf vs).toList,∃ ks,jq h6 x.1 ks:=fun x hx=>by
   have y:=kas_range (pairsOf vs);rw[pairsOf_size] at y;rw[<- y,Array.toList_map] at hx;obtain⟨i,hi,rfl⟩:=qu.mp hx;rw[kas_item_eq];exact⟨_,j9 hT6 i (by simpa using hi)⟩
  have run:=Z6 (prog:=prog) (w:=w) (A:=A) (E:=E) (s:={ s with heap:=h6 }) (st:=SortSt.mk' (tuples' true) (pairsOf vs) #[] 7 none) (a0:=pairsOf vs)
   (Q:=fun _ st'=>∃ p,Arr vs.length p/\qmU (ltK kss) p vs.length/\arrOf st'=p.map (kas_item (pairsOf vs))/\failedOf st'=none)
   (qeG (s:={ s with heap:=h6 })) (qki h6) rfl rfl rfl rfl hD6 (by rw[pairsOf_size];rw[sz] at c2;lia) (fun st' hp hf hs=>by
    obtain⟨p,p1,p2,p3⟩:=qiE hT6 hp hs;exact⟨p,p1,p2,p3,hf⟩)
  refine qa (qN (show wpAny 'm' A (sortRuns'.run _) _ E _ from run) ?_ fun _ _ e=>e);rintro⟨⟨⟩,st'⟩ s' ⟨rfl,p,hp,hs,e1,e2⟩;dsimp only;refine qa (seqEpoch_at at6 rfl (qa (listUpdate_at at6 rfl ?_ (yj _) ?_)))
  .rw [e2];simp only[bne_self_eq_false,ql,if_false];refine qf ?_;rw[e1,snd p];exact fin6 p hp hs
  .show ((arrOf st').map (·.2)).size<=_;rw[e1,snd p,qB,qbW hp];lia
end L2
namespace L2
open W
abbrev JW (h h':Heap):Prop:=∀ b o,h.get? b=some o->h'.get? b=some o
def qpv (s:Shared) (R:List Value->List (List Int)->Prop) (vs:List Value) (s1:Shared):Prop :=
 ∃ h1 tk kss,s1={ s with heap:=h1,toks:=tk }/\JW s.heap h1/\PySem.Paired (jq h1) vs kss/\vs.length<4915/\R vs kss
theorem qfT {x:Value}{R:List Value->List (List Int)->Prop}{Q:Value->Shared->Prop}(hcol:∀ E',wpAny 'm' A.in1 (collect x) (qpv s R) E' s)
  (h:∀ vs kss p h' tk D e,R vs kss->Arr vs.length p->qmU (ltK kss) p vs.length->PySem.Paired (jq h') vs kss->vs.length<4915->JW s.heap h'->s.heap.get? D=none->h'.get? D=some (seqObj "list" (qeI vs p).toArray e)->Q (.ref D) { s with heap:=h',toks:=tk }) :
  wpAny 'm' A (call (.builtin "sorted") [x]) Q E s:=by
 refine Calls.call_function_entry kind_sorted plain_sorted entry_sorted (args_sorted1 _) ?_;unfold Builtin.«sorted»;refine qa (m:=checkCount "sorted" 1 1 _) (qf (qa ?_));refine qN (hcol _) (fun vs s1 ⟨h1,tk,kss,e1,kp,hT,h64,hR⟩=>?_) fun _ _ z=>z;subst e1;have hn64:vs.length<=sizeLine:=by rw[sizeLine_eq];lia
 refine qa (wpAny_newList ?_ hn64);have hD:(h1.push (seqObj "list" vs.toArray 0)).get? h1.objs.size=some (seqObj "list" vs.toArray 0):=qD _ rfl;have hT2:PySem.Paired (jq (h1.push (seqObj "list" vs.toArray 0))) vs kss:=Paired.mapP hT fun v ks t=>t.kept fun b o e _=>qd _ e;refine qa (yq (Jq slot_list_sort ⟨_,hD,rfl⟩ entry_list_sort (qfU (s:={ s with heap:=h1.push (seqObj "list" vs.toArray 0),toks:=tk }) hD hT2 h64 fun p hp hs=>⟨_,rfl,?_⟩) (args_list_sort _)));obtain⟨e,he⟩:=sortedHeap_at (vs:=vs) (out:=(qeI vs p).toArray) hD;have kp2:JW h1 (sortedHeap (h1.push (seqObj "list" vs.toArray 0)) h1.objs.size vs (qeI vs p).toArray):=fun b o q1=>by
  have hlt:b<h1.objs.size:=qo q1;rw[sortedHeap_old (qt hlt) (by rw[size_push'];exact Nat.lt_succ_of_lt hlt)];exact qd _ q1
 refine qf ⟨_,rfl,h vs kss p _ tk h1.objs.size e hR hp hs (Paired.mapP hT fun v ks t=>t.kept fun b o e _=>kp2 b o e) h64 (fun b o q=>kp2 b o (kp b o q)) ?_ he⟩
 .cases z:s.heap.get? h1.objs.size with
  | none=>rfl
  | some o =>
   have:=qo (kp _ _ z);exact absurd this (yz _)
end L2
namespace L2
open PySem PySem.SetTable
variable {q:Nat}
def adv (m:Nat) (p:Probe):Probe :=
 if p.more > 0 then { p with j:=p.j+1,more:=p.more - 1 } else
 { p with j:=(leap m p.i p.perturb).1,more:=runEnd m (leap m p.i p.perturb).1 - (leap m p.i p.perturb).1,i:=(leap m p.i p.perturb).1,perturb:=(leap m p.i p.perturb).2 }
theorem qfm (t:SetTable) (p:Probe):t.advance p=adv t.mask p:=rfl
def at0 (m i e:Nat):Probe:={ j:=i,more:=runEnd m i - i,i:=i,perturb:=e,dummy:=none }
def stp (m:Nat) (h:Int):Nat->Probe
 | 0=>at0 m (bits h % (m+1)) (bits h)
 | k+1=>adv m (stp m h k)
theorem qd2 (t:SetTable) (h:Int):t.probeStart h=stp t.mask h 0:=rfl
theorem qb6 (m:Nat) (h:Int):∀ k,(stp m h k).dummy=none
 | 0=>rfl
 | k+1=>by
  have:=qb6 m h k;simp only[stp,adv];split <;> simpa using this
def lp (m:Nat) (h:Int):Nat->Nat×Nat
 | 0=>(bits h % (m+1),bits h)
 | L+1=>leap m (lp m h L).1 (lp m h L).2
theorem qf6 {h:Int}{k e:Nat}(h0:stp m h k=at0 m i e):∀ r,r<=runEnd m i - i->stp m h (k+r)={ j:=i+r,more:=runEnd m i - i - r,i:=i,perturb:=e,dummy:=none }
 | 0,_=>h0
 | r+1,hr=>by
  have ih:=qf6 h0 r 'l';show adv m (stp m h (k+r))=_;rw[ih];unfold adv;rw[if_pos (show runEnd m i - i - r > 0 by lia)];simp only[Probe.mk.injEq,true_and,and_true];lia
theorem qjX {h:Int}{k e:Nat}(h0:stp m h k=at0 m i e):stp m h (k+(runEnd m i - i)+1)=at0 m (leap m i e).1 (leap m i e).2:=by
 have ih:=qf6 h0 (runEnd m i - i) (qk _);show adv m (stp m h (k+(runEnd m i - i)))=_;rw[ih];unfold adv;rw[if_neg (show ¬ runEnd m i - i - (runEnd m i - i) > 0 by lia)];rfl
theorem qlb (m i:Nat):runEnd m i - i<=9:=by unfold runEnd;split <;> lia
theorem qjY (m:Nat) (h:Int):∀ L,∃ k,k<=10 * L/\stp m h k=at0 m (lp m h L).1 (lp m h L).2
 | 0=>⟨0,qk _,rfl⟩
 | L+1=>by
  obtain⟨k,hk,e⟩:=qjY m h L;have:=qlb m (lp m h L).1;exact⟨_,'l',qjX e⟩
def lcg (M i:Nat):Nat:=(i * 5+1) % M
def itn (M:Nat):Nat->Nat->Nat
 | 0,i=>i
 | n+1,i=>lcg M (itn M n i)
theorem qbH (M:Nat) (i:Nat):∀ a b,itn M (b+a) i=itn M b (itn M a i)
 | a,0=>by rw[Nat.zero_add];rfl
 | a,b+1=>by
  rw[show b+1+a=(b+a)+1 by lia];show lcg M (itn M (b+a) i)=lcg M (itn M b (itn M a i));rw[qbH M i a b]
structure Full (m:Nat):Prop where
 all:∀ q,q<=m->∃ b,b<=m/\itn (m+1) b 0=q
 back:itn (m+1) (m+1) 0=0
theorem Full.go (F:Full m) (hi:i<=m) (hq:q<=m):∃ b,b<=m/\itn (m+1) b i=q:=by
 obtain⟨x,hx,rfl⟩:=F.all i hi;obtain⟨y,hy,rfl⟩:=F.all q hq;by_cases c:x<=y
 .exact ⟨y - x,'l',by rw[<- qbH,show y - x+x=y by lia]⟩
 .refine ⟨y+(m+1) - x,'l',?_⟩;rw[<- qbH,show y+(m+1) - x+x=y+(m+1) by lia,qbH,F.back]
theorem qgS (m:Nat) (h:Int):∀ L,(lp m h L).2=bits h / 32 ^ L
 | 0=>by simp[lp]
 | L+1=>by
  show (lp m h L).2 / 32=_;rw[qgS m h L,Nat.div_div_eq_div_mul,Nat.pow_succ]
theorem qmG (h:Int):bits h<18446744073709551616:=by
 unfold bits;have:=Int.emod_lt_of_pos h (show (0:Int)<2 ^ 64 by decide);have:=Int.emod_nonneg h (show (2 ^ 64:Int)≠0 by decide);lia
theorem lp_le (m:Nat) (h:Int):∀ L,(lp m h L).1<=m
 | 0=>by
  have:=Nat.mod_lt (bits h) (show 0<m+1 by lia);show bits h % (m+1)<=m;lia
 | L+1=>by
  show ((lp m h L).1 * 5+1+(lp m h L).2 / 32) % (m+1)<=m;have:=Nat.mod_lt ((lp m h L).1 * 5+1+(lp m h L).2 / 32) (show 0<m+1 by lia);lia
theorem qgT (m:Nat) (h:Int):∀ b,(lp m h (12+b)).1=itn (m+1) b (lp m h 12).1
 | 0=>rfl
 | b+1=>by
  have ih:=qgT m h b;show ((lp m h (12+b)).1 * 5+1+(lp m h (12+b)).2 / 32) % (m+1)=lcg (m+1) (itn (m+1) b (lp m h 12).1);rw[<- ih];have hb:=qmG h;have z:(lp m h (12+b)).2 / 32=0:=by
   rw[qgS,Nat.div_div_eq_div_mul];apply Nat.div_eq_of_lt;have:(32:Nat) ^ (12+b)=32 ^ 12 * 32 ^ b:=Nat.pow_add ..;rw[this];have p1:1<=32 ^ b:=Nat.one_le_pow _ _ 'd';have:(32:Nat) ^ 12 * 1<=32 ^ 12 * 32 ^ b:=Nat.mul_le_mul_left _ p1;have e12:(32:Nat) ^ 12=1152921504606846976:=by decide
   lia
  rw[z];rfl
theorem Full.lp (F:Full m) (h:Int) (hq:q<=m):∃ L,L<=m+12/\(lp m h L).1=q:=by
 obtain⟨b,hb,e⟩:=F.go (lp_le m h 12) hq;exact⟨12+b,'l',by rw[qgT,e]⟩
theorem Full.walk (F:Full m) (h:Int) (hq:q<=m):∃ k,k<=10 * (m+12)/\(stp m h k).j=q:=by
 obtain⟨L,hL,e⟩:=F.lp h hq;obtain⟨k,hk,e2⟩:=qjY m h L;exact⟨k,'l',by rw[e2];exact e⟩
theorem qjT (m:Nat) (h:Int) (k:Nat):(stp m h k).j<=m:=by
 have key:∀ k,(stp m h k).i<=m/\(stp m h k).j+(stp m h k).more<=m:=by
  intro k;induction k with
  | zero =>
   have:=Nat.mod_lt (bits h) (show 0<m+1 by lia);refine⟨by show bits h % (m+1)<=m;lia,?_⟩;show bits h % (m+1)+(runEnd m (bits h % (m+1)) - bits h % (m+1))<=m;unfold runEnd;split <;> lia
  | succ k ih =>
   obtain⟨h1,h2⟩:=ih;show (adv m (stp m h k)).i<=m/\(adv m (stp m h k)).j+(adv m (stp m h k)).more<=m;unfold adv;split
   .exact ⟨h1,by simp only;lia⟩
   .have:=Nat.mod_lt ((stp m h k).i * 5+1+(stp m h k).perturb / 32) (show 0<m+1 by lia);have e:(leap m (stp m h k).i (stp m h k).perturb).1=((stp m h k).i * 5+1+(stp m h k).perturb / 32) % (m+1):=rfl;simp only[e];refine⟨'l',?_⟩;unfold runEnd;split <;> lia
 have:=(key k).2;lia
def chk (m:Nat):Bool:=(List.range (m+1)).all (fun q=>(List.range (m+1)).any fun b=>itn (m+1) b 0 == q) && itn (m+1) (m+1) 0 == 0
theorem qhh (h:chk m=true):Full m:=by
 unfold chk at h;rw[qZ] at h;obtain⟨h1,h2⟩:=h;refine⟨fun q hq=>?_,by simpa using h2⟩;have:=jJ.mp h1 q (yB.mpr 'l');obtain⟨b,hb,e⟩:=List.any_eq_true.mp this;exact⟨b,by have:=yB.mp hb;lia,by simpa using e⟩
theorem full7:Full 7:=qhh 'k'
theorem qoL:Full 31:=qhh 'k'
end L2
namespace L2
open PySem PySem.SetTable
variable {xs:Array Nat}{hashAt:Nat->Int}{p:Nat}
def S5:Nat->Nat
 | 0=>0
 | n+1=>5 * S5 n+1
theorem qkL (a b:Nat):S5 (a+b)=5 ^ b * S5 a+S5 b:=by
 induction b with
 | zero=>simp[S5]
 | succ b ih =>
  rw[<- Nat.add_assoc];show 5 * S5 (a+b)+1=5 ^ (b+1) * S5 a+(5 * S5 b+1);rw[ih,Nat.pow_succ];grind
theorem p5 (e:Nat):∃ q,5 ^ e+1=2 * (2 * q+1):=by
 induction e with
 | zero=>exact⟨0,rfl⟩
 | succ e ih =>
  obtain⟨q,hq⟩:=ih;refine⟨5 * q+1,?_⟩;rw[Nat.pow_succ];lia
theorem qhX (e:Nat):S5 (2 * e)=(5 ^ e+1) * S5 e:=by
 rw[show 2 * e=e+e by lia,qkL];grind
theorem qpq (e:Nat):S5 (2 * e+1) % 2=1:=by
 show (5 * S5 (2 * e)+1) % 2=1;obtain⟨q,hq⟩:=p5 e;rw[qhX,hq,Nat.mul_assoc];lia
theorem qkK:∀ (k d:Nat),2 ^ k ∣ S5 d->2 ^ k ∣ d
 | 0,d,_=>by simp
 | k+1,d,h=>by
  have hev:d % 2=0:=by
   apply Nat.eq_zero_of_not_pos;intro z;have hd:d=2 * (d / 2)+1:=by lia
   have h2:2 ∣ S5 d:=Nat.dvd_trans ⟨2 ^ k,by rw[Nat.pow_succ];lia⟩ h;rw[hd] at h2;have:=qpq (d / 2);lia
  obtain⟨e,rfl⟩:∃ e,d=2 * e:=⟨d / 2,'l'⟩;obtain⟨q,hq⟩:=p5 e;rw[qhX,hq,Nat.pow_succ,Nat.mul_comm (2 ^ k),Nat.mul_assoc] at h;have h3:=Nat.dvd_of_mul_dvd_mul_left 'd' h;have co:Nat.Coprime (2 ^ k) (2 * q+1):=Nat.Coprime.pow_left _ (by
   unfold Nat.Coprime;rw[Nat.gcd_rec];simp[Nat.add_mod])
  have h4:=qkK k e (co.dvd_of_dvd_mul_left h3);rw[Nat.pow_succ,Nat.mul_comm];exact Nat.mul_dvd_mul_left 2 h4
theorem qkJ:∀ k,2 ^ k ∣ S5 (2 ^ k)
 | 0=>by simp
 | k+1=>by
  obtain⟨q,hq⟩:=p5 (2 ^ k);rw[Nat.pow_succ,Nat.mul_comm (2 ^ k) 2,qhX,hq,Nat.mul_assoc];exact Nat.mul_dvd_mul_left 2 (Nat.dvd_trans (qkJ k) (Nat.dvd_mul_left _ _))
theorem qkk (M:Nat):∀ b,itn M b 0 % M=S5 b % M
 | 0=>rfl
 | b+1=>by
  show (itn M b 0 * 5+1) % M % M=(5 * S5 b+1) % M;rw[Nat.mod_mod,Nat.add_mod,Nat.mul_mod,qkk M b,<- Nat.mul_mod,<- Nat.add_mod,Nat.mul_comm]
theorem qkj {M:Nat}(hM:0<M):∀ b,itn M b 0<M
 | 0=>hM
 | b+1=>Nat.mod_lt _ hM
theorem qpr {k a b:Nat}(hab:a<=b) (hb:b<2 ^ k) (h:S5 a % 2 ^ k=S5 b % 2 ^ k):a=b:=by
 obtain⟨d,rfl⟩:∃ d,b=d+a:=⟨b - a,'l'⟩;rw[qkL] at h;have h1:2 ^ k ∣ 5 ^ a * S5 d:=by
  have:=Nat.sub_mod_eq_zero_of_mod_eq h.symm;rw[Nat.add_sub_cancel] at this;exact Nat.dvd_of_mod_eq_zero this
 have co:Nat.Coprime (2 ^ k) (5 ^ a):=Nat.Coprime.pow _ _ 'd';have h2:=qkK k d (co.dvd_of_dvd_mul_left h1);have:d=0:=Nat.eq_zero_of_dvd_of_lt h2 'l';lia
theorem qgF:∀ {n:Nat}{l:List Nat},l.Nodup->(∀ x∈l,x<n)->l.length=n->∀ q,q<n->q∈l:=fun {n l} h1 h2 h3 q hq=>by
 have hp:l.Perm (List.range n):=by
  have sub:∀ (l r:List Nat),l.Nodup->(∀ x∈l,x∈r)->∃ r',(l++r').Perm r:=by
   intro l;induction l with
   | nil=>exact fun r _ _=>⟨r,List.Perm.refl _⟩
   | cons a l ih =>
    intro r hn hs;have ha:=hs a qj;obtain⟨r',hr'⟩:=ih (r.erase a) (yx.mp hn).2 (fun x hx=>by
     have:x≠a:=fun z=>(yx.mp hn).1 (z ▸ hx);exact (List.mem_erase_of_ne this).mpr (hs x (qe _ hx)))
    exact⟨r',(hr'.cons a).trans (List.perm_cons_erase ha).symm⟩
  obtain⟨r',hr'⟩:=sub l (List.range n) h1 fun x hx=>yB.mpr (h2 x hx);have:=hr'.length_eq;rw[qr,List.length_range] at this;have:r'=[]:=List.eq_nil_of_length_eq_zero 'l';rw[this,j8] at hr';exact hr'
 exact hp.mem_iff.mpr (yB.mpr hq)
theorem Z3 (k m:Nat) (hm:m+1=2 ^ k):Full m:=by
 have hM:0<2 ^ k:=by lia
 have red:∀ b,itn (2 ^ k) b 0=S5 b % 2 ^ k:=fun b=>by
  have:=qkk (2 ^ k) b;rwa[Nat.mod_eq_of_lt (qkj hM b)] at this
 refine⟨fun q hq=>?_,?_⟩
 .have hnd:((List.range (2 ^ k)).map fun b=>itn (2 ^ k) b 0).Nodup:=by
   refine jb.mpr (yp.mpr fun i j hi hj hij z=>?_);rw[List.length_range] at hi hj;rw[List.getElem_range,List.getElem_range,red,red] at z;have:=qpr (yT hij) hj z;lia
  have:=qgF hnd (fun x hx=>by
   obtain⟨b,_,rfl⟩:=qu.mp hx;exact qkj hM b) 's' q 'l'
  obtain⟨b,hb,e⟩:=qu.mp this;have:=yB.mp hb;exact⟨b,'l',by rw[hm];exact e⟩
 .rw [hm,red];exact Nat.mod_eq_zero_of_dvd (qkJ k)
theorem qmd:Full 127:=Z3 7 127 'd'
theorem qmc:Full 511:=Z3 9 511 'd'
theorem qjh:Full 2047:=Z3 11 2047 'd'
theorem qjg:Full 8191:=Z3 13 8191 'd'
def qkM (xs:Array Nat):Prop:=∀ i j,i<j->j<xs.size->xs.getD i 0<xs.getD j 0
theorem getD_some {d:Nat}(h:i<xs.size):xs[i]?=some (xs.getD i d):=by simp[Array.getD,h]
theorem qbU (hr:qkM xs):∀ (fu lo hi:Nat),lo<=hi->hi<=xs.size->hi - lo<=fu->(∀ i,i<lo->xs.getD i 0<j)->(∀ i,hi<=i->i<xs.size->j<=xs.getD i 0) →
  (∀ i,i<below.go xs j fu lo hi->xs.getD i 0<j)/\(∀ i,below.go xs j fu lo hi<=i->i<xs.size->j<=xs.getD i 0)/\below.go xs j fu lo hi<=xs.size
 | 0,lo,hi,h1,h2,h3,h4,h5=>by
  have:lo=hi:=by lia
  subst this;exact⟨h4,h5,h2⟩
 | fu+1,lo,hi,h1,h2,h3,h4,h5=>by
  unfold below.go;by_cases c:lo<hi
  .rw [if_pos c];dsimp only;have hm:(lo+hi) / 2<xs.size:=by lia
   have e:xs.getD ((lo+hi) / 2) j=xs.getD ((lo+hi) / 2) 0:=by simp[Array.getD,hm]
   rw[e];by_cases d:xs.getD ((lo+hi) / 2) 0<j
   .rw [if_pos d];refine qbU hr fu _ hi 'l' h2 'l' (fun i hi'=>?_) h5;by_cases q:i=(lo+hi) / 2
    .subst q;exact d
    .exact jg (hr i ((lo+hi) / 2) 'l' hm) d
   .rw [if_neg d];refine qbU hr fu lo _ 'l' 'l' 'l' h4 fun i hi' hlt=>?_;by_cases q:i=(lo+hi) / 2
    .subst q;lia
    .have:=hr ((lo+hi) / 2) i 'l' hlt;lia
  .rw [if_neg c];have:lo=hi:=by lia
   subst this;exact⟨h4,h5,h2⟩
theorem JV (hr:qkM xs) (j:Nat):(∀ i,i<below xs j->xs.getD i 0<j)/\(∀ i,below xs j<=i->i<xs.size->j<=xs.getD i 0)/\below xs j<=xs.size :=
 qbU hr xs.size 0 xs.size (yj _) (qk _) 'l' (fun i z=>absurd z 'l') fun i a b=>absurd b 'l'
theorem qbV (hr:qkM xs) (h:xs[i]?=some j):below xs j=i:=by
 obtain⟨h1,h2,h3⟩:=JV hr j;have hi:i<xs.size:=by
  rcases Nat.lt_or_ge i xs.size with z | z
  .exact z
  .rw [yC z] at h;cases h
 have e:xs.getD i 0=j:=by
  have:=getD_some (d:=0) hi;rw[h] at this;exact (Option.some.inj this).symm
 rcases Nat.lt_trichotomy (below xs j) i with z | z | z
 .have a:=h2 (below xs j) (qk _) 'l';have b:=hr (below xs j) i z hi;lia
 .exact z
 .have:=h1 i z;lia
theorem qir (hr:qkM xs) {i':Nat}(h:xs[i]?=some j) (h':xs[i']?=some j):i=i':=(qbV hr h).symm.trans (qbV hr h')
structure Tab (t:SetTable) (m n:Nat):Prop where
 mask:t.mask=m
 dm:t.dummies=#[]
 size:t.place.size=n
 rise:qkM t.place
 le:∀ i j:Nat,t.place[i]?=some j->j<=m
def Fl (t:SetTable) (j:Nat):Prop:=∃ i:Nat,t.place[i]?=some j
theorem qhc (j:Nat):has #[] j=false:=by simp[has]
section
variable {t:SetTable}
theorem Tab.live (T:Tab t m n) (h:t.place[i]?=some j):t.slot j = .live i:=by
 unfold slot;have e:=qbV T.rise h;simp only[e,h,beq_self_eq_true,if_true]
theorem Tab.empty (T:Tab t m n) (h:¬ Fl t j):t.slot j = .empty:=by
 unfold slot;have e:(t.place[below t.place j]? == some j)=false:=by
  rw[Bool.eq_false_iff];intro z;exact h ⟨_,by simpa using z⟩
 simp only[e,T.dm,qhc,ql,if_false]
theorem Tab.free (T:Tab t m n) (hn:n<=m):∃ q,q<=m/\¬ Fl t q:=by
 refine Classical.byContradiction fun hc=>?_;have all:∀ q,q<=m->Fl t q:=fun q hq=>Classical.byContradiction fun z=>hc ⟨q,hq,z⟩;have sub:List.range (m+1) ⊆ t.place.toList:=fun q hq=>by
  obtain⟨i,e⟩:=all q (by have:=yB.mp hq;lia);exact List.mem_of_getElem? (by rw[qA];exact e)
 have:=List.Nodup.length_le_of_subset List.nodup_range sub;rw[List.length_range,qy,T.size] at this;lia
theorem Tab.probe_go (T:Tab t m n) {h:Int}{K:Nat}(hK:¬ Fl t (stp m h K).j):∀ (fu k:Nat),k<=K->K - k<fu →
  ∃ x,k<=x/\x<=K/\(∀ l,k<=l->l<x->∃ i:Nat,t.place[i]?=some (stp m h l).j/\hashAt i≠h) ∧
   ((¬ Fl t (stp m h x).j/\probe.go t hashAt h fu (stp m h k)=some (.empty (stp m h x).j none)) ∨
    ∃ i:Nat,t.place[i]?=some (stp m h x).j/\hashAt i=h/\probe.go t hashAt h fu (stp m h k)=some (.candidate (stp m h x).j i (stp m h (x+1))))
 | 0,k,_,z=>absurd z 'l'
 | fu+1,k,hk,hf=>by
  unfold probe.go;by_cases c:Fl t (stp m h k).j
  .obtain ⟨i,e⟩:=id c;rw[T.live e];dsimp only;have adv1:t.advance (stp m h k)=stp m h (k+1):=by rw[qfm,T.mask];rfl
   by_cases d:hashAt i=h
   .refine ⟨k,qk _,hk,fun l a b=>absurd b 'l',.inr ⟨i,e,d,?_⟩⟩;rw[if_pos (by rw[d];exact beq_self_eq_true _),adv1]
   .rw [if_neg (by simpa using d),adv1];have hne:k≠K:=fun z=>hK (z ▸ c);obtain⟨x,x1,x2,x3,x4⟩:=T.probe_go hK fu (k+1) 'l' 'l';refine⟨x,'l',x2,fun l a b=>?_,x4⟩;by_cases q:l=k
    .subst q;exact⟨i,e,d⟩
    .exact x3 l 'l' b
  .rw [T.empty c];dsimp only;exact⟨k,qk _,hk,fun l a b=>absurd b 'l',.inl ⟨c,by rw[qb6]⟩⟩
end
theorem jv {xs:Array α}{x:α}(hp:p<=xs.size) (i:Nat):(insertAt xs p x)[i]?=if i<p then xs[i]? else if i=p then some x else xs[i - 1]?:=by
 unfold insertAt;have s1:((xs.extract 0 p).push x).size=p+1:=by simp[Array.size_push,Array.size_extract];lia
 have s0:(xs.extract 0 p).size=p:=by simp[Array.size_extract];lia
 rw[Array.getElem?_append,s1];by_cases c:i<p
 .rw [if_pos 'l',if_pos c,Array.getElem?_push,s0,if_neg 'l',Array.getElem?_extract,if_pos 'l',Nat.zero_add]
 .rw [if_neg c];by_cases d:i=p
  .subst d;rw[if_pos 'l',if_pos rfl,Array.getElem?_push,s0,if_pos rfl]
  .rw [if_neg d,if_neg 'l',Array.getElem?_extract];by_cases e:i - 1<xs.size
   .rw [if_pos 'l'];congr 1;lia
   .rw [if_neg 'l',yC 'l']
theorem Z2 {xs:Array α}{x:α}(hp:p<=xs.size):(insertAt xs p x).size=xs.size+1:=by
 unfold insertAt;simp[Array.size_extract];lia
def AtS (place:Array Nat) (es:Array α) (j:Nat) (e:α):Prop:=∃ i:Nat,place[i]?=some j/\es[i]?=some e
theorem qoI {place:Array Nat}{es:Array α}{j':Nat}{e e':α}(hp:p<=place.size) (hq:p<=es.size):AtS (insertAt place p j) (insertAt es p e) j' e' ↔ AtS place es j' e'\/(j'=j/\e'=e):=by
 constructor
 .rintro ⟨i,h1,h2⟩;rw[jv hp] at h1;rw[jv hq] at h2;by_cases c:i<p
  .rw [if_pos c] at h1 h2;exact .inl ⟨i,h1,h2⟩
  .rw [if_neg c] at h1 h2;by_cases d:i=p
   .rw [if_pos d] at h1 h2;exact .inr ⟨(Option.some.inj h1).symm,(Option.some.inj h2).symm⟩
   .rw [if_neg d] at h1 h2;exact .inl ⟨i - 1,h1,h2⟩
 .rintro (⟨i,h1,h2⟩ | ⟨rfl,rfl⟩)
  .by_cases c:i<p
   .exact ⟨i,by rw[jv hp,if_pos c];exact h1,by rw[jv hq,if_pos c];exact h2⟩
   .exact ⟨i+1,by rw[jv hp,if_neg 'l',if_neg 'l'];exact h1,by rw[jv hq,if_neg 'l',if_neg 'l'];exact h2⟩
  .exact ⟨p,by rw[jv hp,if_neg 'l',if_pos rfl],by rw[jv hq,if_neg 'l',if_pos rfl]⟩
theorem qiq (hr:qkM xs) (hj:¬ ∃ i:Nat,xs[i]?=some j):qkM (insertAt xs (below xs j) j):=by
 obtain⟨h1,h2,h3⟩:=JV hr j;have val:∀ i,i<xs.size+1->(insertAt xs (below xs j) j).getD i 0=if i<below xs j then xs.getD i 0 else if i=below xs j then j else xs.getD (i - 1) 0:=fun i hi=>by
  have e:=jv (x:=j) h3 i;simp only[Array.getD_eq_getD_getElem?,e];split
  .rfl
  .split <;> rfl
 have gt:∀ i,below xs j<=i->i<xs.size->j<xs.getD i 0:=fun i a b=>by
  have:=h2 i a b;have ne:xs.getD i 0≠j:=fun z=>hj ⟨i,by rw[getD_some (d:=0) b,z]⟩;lia
 intro a b hab hb;rw[Z2 h3] at hb;rw[val a 'l',val b hb];by_cases b1:b<below xs j
 .rw [if_pos b1,if_pos 'l'];exact hr a b hab 'l'
 .rw [if_neg b1];by_cases b2:b=below xs j
  .rw [if_pos b2,if_pos 'l'];exact h1 a 'l'
  .rw [if_neg b2];by_cases a1:a<below xs j
   .rw [if_pos a1];exact hr a (b - 1) 'l' 'l'
   .rw [if_neg a1];by_cases a2:a=below xs j
    .rw [if_pos a2];exact gt (b - 1) 'l' 'l'
    .rw [if_neg a2];exact hr (a - 1) (b - 1) 'l' 'l'
theorem Tab.put {t:SetTable}(T:Tab t m n) (hj:¬ Fl t j) (hm:j<=m):Tab (t.put j).1 m (n+1)/\(t.put j).2=below t.place j/\(t.put j).1.place=insertAt t.place (below t.place j) j:=by
 obtain⟨h1,h2,h3⟩:=JV T.rise j;refine⟨⟨T.mask,?_,?_,qiq T.rise hj,fun i j' e=>?_⟩,rfl,rfl⟩
 .show (if has t.dummies j=true then _ else t.dummies)=#[];rw[T.dm,qhc,if_neg 's']
 .show (insertAt t.place (below t.place j) j).size=n+1;rw[Z2 h3,T.size]
 .have e:(insertAt t.place (below t.place j) j)[i]?=some j':=e;rw[jv h3] at e;split at e
  .exact T.le _ _ e
  .split at e
   .rw [<- Option.some.inj e];exact hm
   .exact T.le _ _ e
end L2
namespace L2
open PySem PySem.SetTable
def Rch (fl:Nat->Prop) (m:Nat) (h:Int) (j:Nat):Prop:=∃ k,(stp m h k).j=j/\∀ l,l<k->fl (stp m h l).j
theorem Rch.mono {fl fl':Nat->Prop}{h:Int}(f:∀ q,fl q->fl' q) (r:Rch fl m h j):Rch fl' m h j:=by
 obtain⟨k,e,a⟩:=r;exact⟨k,e,fun l hl=>f _ (a l hl)⟩
structure SetI {α:Type}(t:SetTable) (es:Array (Int×α)) (m n:Nat):Prop where
 tab:Tab t m n
 sz:es.size=n
 rch:∀ (j:Nat) (e:Int×α),AtS t.place es j e->Rch (Fl t) m e.1 j
def fO (owner:Array (Option Nat)) (j:Nat):Prop:=(owner.getD j (some 0)).isSome=true
theorem qhi {h:Int}:∀ (fu L k0:Nat),stp m h k0=at0 m (lp m h L).1 (lp m h L).2->(∀ l,l<k0->fO owner (stp m h l).j)->(∃ L',L<=L'/\L'<L+fu/\¬ fO owner (lp m h L').1) →
  ∃ j,layClean.free m owner fu (lp m h L).1 (lp m h L).2=some j/\¬ fO owner j/\Rch (fO owner) m h j
 | 0,L,k0,_,_,⟨L',a,b,_⟩=>absurd b 'l'
 | fu+1,L,k0,hk,hf,⟨L',a,b,c⟩=>by
  unfold layClean.free;have ri:=qf6 hk;cases hfind:(List.range (runEnd m (lp m h L).1+1 - (lp m h L).1)).find? fun k=>(owner.getD ((lp m h L).1+k) (some 0)).isNone with
  | some kk =>
   obtain⟨p1,p2,p3⟩:=List.find?_range_eq_some.mp hfind;have hkk:=yB.mp p2;refine⟨(lp m h L).1+kk,rfl,fun z=>?_,k0+kk,by rw[ri kk 'l'],fun l hl=>?_⟩
   .unfold fO at z;rw[Option.isNone_iff_eq_none.mp p1] at z;cases z
   .by_cases d:l<k0
    .exact hf l d
    .obtain ⟨r,rfl⟩:∃ r,l=k0+r:=⟨l - k0,'l'⟩;rw[ri r 'l'];have:=p3 r 'l';unfold fO;rw[Bool.not_eq_true',Option.isNone_eq_false_iff] at this;exact this
  | none =>
   have pn:=List.find?_eq_none.mp hfind;have fil:∀ r,r<=runEnd m (lp m h L).1 - (lp m h L).1->fO owner ((lp m h L).1+r):=fun r hr=>by
    have hge:(lp m h L).1<=runEnd m (lp m h L).1:=by unfold runEnd;split <;> lia
    have:=pn r (yB.mpr 'l');unfold fO;rw[Bool.not_eq_true,Option.isNone_eq_false_iff] at this;exact this
   have hne:L'≠L:=by
    rintro rfl;exact c (by simpa using fil 0 (yj _))
   refine qhi fu (L+1) (k0+(runEnd m (lp m h L).1 - (lp m h L).1)+1) (qjX hk) (fun l hl=>?_) ⟨L','l','l',c⟩;by_cases d:l<k0
   .exact hf l d
   .obtain ⟨r,rfl⟩:∃ r,l=k0+r:=⟨l - k0,'l'⟩;rw[ri r 'l'];exact fil r 'l'
structure OW (m:Nat) (hs:Nat->Int) (owner:Array (Option Nat)) (k:Nat):Prop where
 sz:owner.size=m+1
 own:∀ j i:Nat,owner[j]?=some (some i)->i<k/\Rch (fO owner) m (hs i) j
 ex:∀ i,i<k->∃ j:Nat,owner[j]?=some (some i)
 inj:∀ j j' i:Nat,owner[j]?=some (some i)->owner[j']?=some (some i)->j=j'
def qmR (m:Nat) (owner:Array (Option Nat)):List Nat:=(List.range (m+1)).filterMap fun j=>owner.getD j none
theorem Zr : owner.getD j none=some i ↔ owner[j]?=some (some i):=by
 rw[Array.getD_eq_getD_getElem?];cases owner[j]? with
 | none=>simp
 | some o=>simp
theorem OW.nodup {k:Nat}(W:OW m hs owner k):(qmR m owner).Nodup:=by
 refine List.Pairwise.filterMap _ (fun a a' hne b e b' e' z=>?_) List.nodup_range;subst z;exact hne (W.inj _ _ _ (Zr.mp e) (Zr.mp e'))
theorem OW.len {k:Nat}(W:OW m hs owner k):(qmR m owner).length=k:=by
 apply Nat.le_antisymm
 .have sub:qmR m owner ⊆ List.range k:=fun i hi=>by
   obtain⟨j,_,e⟩:=yD.mp hi;exact yB.mpr (W.own j i (Zr.mp e)).1
  have:=List.Nodup.length_le_of_subset W.nodup sub;rwa[List.length_range] at this
 .have sub:List.range k ⊆ qmR m owner:=fun i hi=>by
   obtain⟨j,e⟩:=W.ex i (yB.mp hi);have hj:j<owner.size:=by
    rcases Nat.lt_or_ge j owner.size with z | z
    .exact z
    .rw [yC z] at e;cases e
   exact yD.mpr ⟨j,yB.mpr (by rw[W.sz] at hj;exact hj),Zr.mpr e⟩
  have:=List.Nodup.length_le_of_subset List.nodup_range sub;rwa[List.length_range] at this
theorem OW.free {k:Nat}(W:OW m hs owner k) (hk:k<=m):∃ q,q<=m/\¬ fO owner q:=by
 refine Classical.byContradiction fun hc=>?_;have all:∀ q,q<=m->fO owner q:=fun q hq=>Classical.byContradiction fun z=>hc ⟨q,hq,z⟩;have h1:=W.len;unfold qmR at h1;rw[List.length_filterMap_eq_countP] at h1;have h2:List.countP (fun j=>(owner.getD j none).isSome) (List.range (m+1))=(List.range (m+1)).length:=List.countP_eq_length.mpr fun j hj=>by
  have hj:=yB.mp hj;have a:=all j 'l';have hlt:j<owner.size:=by rw[W.sz];exact hj
  unfold fO at a;simpa[Array.getD,hlt] using a
 rw[h2,List.length_range] at h1;lia
theorem OW.step {k:Nat}(W:OW m hs owner k) (hj:¬ fO owner j) (hr:Rch (fO owner) m (hs k) j):OW m hs (owner.setIfInBounds j (some k)) (k+1):=by
 have hlt:j<owner.size:=by
  rcases Nat.lt_or_ge j owner.size with z | z
  .exact z
  .refine absurd ?_ hj;unfold fO;simp[Array.getD,Nat.not_lt.mpr z]
 have nn:owner[j]?=some none:=by
  cases e:owner[j]? with
  | none=>rw[Array.getElem?_eq_none_iff] at e;lia
  | some o =>
   cases o with
   | none=>rfl
   | some i =>
    refine absurd ?_ hj;unfold fO;rw[Array.getD_eq_getD_getElem?,e];rfl
 have get:∀ q:Nat,(owner.setIfInBounds j (some k))[q]?=if q=j then some (some k) else owner[q]?:=fun q=>by
  rw[Array.getElem?_setIfInBounds];by_cases c:q=j
  .subst c;simp[hlt]
  .rw [if_neg c,if_neg (fun z=>c z.symm)]
 have up:∀ q,fO owner q->fO (owner.setIfInBounds j (some k)) q:=fun q hq=>by
  unfold fO at hq ⊢;rw[Array.getD_eq_getD_getElem?] at hq ⊢;rw[get];split
  .rfl
  .exact hq
 refine⟨by rw[Array.size_setIfInBounds];exact W.sz,fun q i e=>?_,fun i hi=>?_,fun q q' i e e'=>?_⟩
 .rw [get] at e;by_cases c:q=j
  .rw [if_pos c] at e;have:k=i:=Option.some.inj (Option.some.inj e);subst this;subst c;exact⟨'l',hr.mono up⟩
  .rw [if_neg c] at e;obtain⟨a,b⟩:=W.own q i e;exact⟨'l',b.mono up⟩
 .by_cases c:i=k
  .subst c;exact⟨j,by rw[get,if_pos rfl]⟩
  .obtain ⟨q,e⟩:=W.ex i 'l';refine⟨q,?_⟩;rw[get,if_neg (fun z=>by rw[z,nn] at e;cases e)];exact e
 .rw [get] at e e';by_cases c:q=j
  .rw [if_pos c] at e;have hik:k=i:=Option.some.inj (Option.some.inj e);by_cases c':q'=j
   .rw [c,c']
   .rw [if_neg c'] at e';have:=(W.own q' i e').1;lia
  .rw [if_neg c] at e;by_cases c':q'=j
   .rw [if_pos c'] at e';have hik:k=i:=Option.some.inj (Option.some.inj e');have:=(W.own q i e).1;lia
   .rw [if_neg c'] at e';exact W.inj q q' i e e'
theorem OW.init (m:Nat) (hs:Nat->Int):OW m hs (Array.replicate (m+1) none) 0:=by
 have z:∀ j i:Nat,(Array.replicate (m+1) (none:Option Nat))[j]?=some (some i)->False:=fun j i e=>by
  rw[Array.getElem?_replicate] at e;split at e <;> simp at e
 exact⟨'s',fun j i e=>(z j i e).elim,fun i hi=>absurd hi 'l',fun j j' i e=>(z j i e).elim⟩
def qdv (m:Nat) (acc:Option (Array (Option Nat)×Nat)) (h:Int):Option (Array (Option Nat)×Nat):=do
 let (owner,k) <- acc
 let j <- layClean.free m owner (turns m) (bits h % (m+1)) (bits h)
 pure (owner.setIfInBounds j (some k),k+1)
theorem qdw (m:Nat) (hashes:Array Int):layClean m hashes=(hashes.foldl (qdv m) (some (Array.replicate (m+1) none,0))).map (·.1):=rfl
theorem qhj (F:Full m):∀ (l:List Int) (owner:Array (Option Nat)) (k:Nat),OW m hs owner k->(∀ i (h:Int),l[i]?=some h->hs (k+i)=h)->k+l.length<=m+1 →
  ∃ owner',l.foldl (qdv m) (some (owner,k))=some (owner',k+l.length)/\OW m hs owner' (k+l.length)
 | [],owner,k,W,_,_=>⟨owner,rfl,W⟩
 | h::l,owner,k,W,hl,hk=>by
  simp only[qU] at hk ⊢;obtain⟨q,hq,hq2⟩:=W.free 'l';obtain⟨L',a,b⟩:=F.lp h hq;obtain⟨j,e,j1,j2⟩:=qhi (m:=m) (owner:=owner) (h:=h) (turns m) 0 0 rfl (fun l z=>absurd z 'l') ⟨L','l',by unfold turns;lia,by rw[b];exact hq2⟩;have hk0:hs k=h:=hl 0 h rfl;have W':=W.step j1 (by rw[hk0];exact j2);obtain⟨o',e',W''⟩:=qhj F l _ (k+1) W' (fun i h' e=>by rw[show k+1+i=k+(i+1) by lia];exact hl (i+1) h' (by simpa using e)) 'l';refine⟨o',?_,by rw[show k+(l.length+1)=k+1+l.length by lia];exact W''⟩;rw[List.foldl_cons];have e0:qdv m (some (owner,k)) h=some (owner.setIfInBounds j (some k),k+1):=by
   show (layClean.free m owner (turns m) (bits h % (m+1)) (bits h) >>= fun j=>pure (owner.setIfInBounds j (some k),k+1))=_;have e:layClean.free m owner (turns m) (bits h % (m+1)) (bits h)=some j:=e;rw[e];rfl
  rw[e0,e',show k+(l.length+1)=k+1+l.length by lia]
theorem qkm {f:α->Option β}:∀ {l:List α},(∀ x∈l,(f x).isSome=true)->∀ i:Nat,(l.filterMap f)[i]?=l[i]?.bind f
 | [],_,i=>by simp
 | x::l,h,i=>by
  obtain⟨y,e⟩:=Option.isSome_iff_exists.mp (h x qj);rw[List.filterMap_cons_some e];cases i with
  | zero=>simp[e]
  | succ i=>simpa using qkm (fun z hz=>h z (qe _ hz)) i
theorem qoM {f:α->Option β}{l:List α}(h:∀ x∈l,(f x).isSome=true):(l.filterMap f).length=l.length:=by rw[List.length_filterMap_eq_countP,List.countP_eq_length.mpr h]
theorem ql3 {fi mv:Nat}(F:Full m) {ld pl:Bool}{es:Array (Int×α)}(hn:es.size=n) (hm:n<=m+1) :
  ∃ (t:SetTable) (order:Array Nat),laid m fi mv ld pl (es.map (·.1))=some (t,order)/\t.led=ld/\t.plain=pl/\(order.filterMap (es[·]?)).size=es.size/\SetI t (order.filterMap (es[·]?)) m n ∧
   (∀ e,e∈(order.filterMap (es[·]?)).toList ↔ e∈es.toList) ∧
   ∀ (i i':Nat) (e e':Int×α),(order.filterMap (es[·]?))[i]?=some e->(order.filterMap (es[·]?))[i']?=some e'->(∀ y y':Nat,es[y]?=some e->es[y']?=some e'->y=y')->i=i':=by
 obtain⟨owner,eo,W⟩:=qhj F (hs:=fun i=>((es.map (·.1)).getD i 0)) (es.map (·.1)).toList (Array.replicate (m+1) none) 0 (OW.init m _) (fun i h e=>by rw[Nat.zero_add,Array.getD_eq_getD_getElem?,<- qA,e];rfl) (by simp;lia);have hlen:(es.map (·.1)).toList.length=n:=by simp[hn]
 rw[Nat.zero_add,hlen] at eo W;have live:∃ live:List (Nat×Nat),live=(List.range (m+1)).filterMap fun j=>(owner.getD j none).map (j,·):=⟨_,rfl⟩;obtain⟨live,el⟩:=live;have lmem:∀ j i,(j,i)∈live ↔ owner[j]?=some (some i):=fun j i=>by
  rw[el,yD];constructor
  .rintro ⟨q,_,e⟩;cases o:owner.getD q none with
   | none=>rw[o] at e;cases e
   | some x =>
    rw[o] at e;cases e
    exact Zr.mp o
  .intro e;have hj:j<owner.size:=by
    rcases Nat.lt_or_ge j owner.size with z | z
    .exact z
    .rw [yC z] at e;cases e
   exact⟨j,yB.mpr (by rw[W.sz] at hj;exact hj),by rw[Zr.mpr e];rfl⟩
 have llen:live.length=n:=by
  have:=W.len;unfold qmR at this;rw[List.length_filterMap_eq_countP] at this;rw[el,List.length_filterMap_eq_countP,<- this];congr 1;funext j
  cases owner.getD j none <;> rfl
 have lsort:live.Pairwise fun a b=>a.1<b.1:=by
  rw[el];refine List.Pairwise.filterMap _ (fun a a' hlt b e b' e'=>?_) List.pairwise_lt_range;cases o:owner.getD a none with
  | none=>rw[o] at e;cases e
  | some x =>
   cases o':owner.getD a' none with
   | none=>rw[o'] at e';cases e'
   | some x' =>
    rw[o] at e;rw[o'] at e';cases e;cases e'
    exact hlt
 have some1:∀ x∈live.map (·.2),(es[x]?).isSome=true:=fun x hx=>by
  obtain⟨⟨j,i⟩,hji,rfl⟩:=qu.mp hx;have:=(W.own j i ((lmem j i).mp hji)).1;simp[hn,this]
 have es':((live.map (·.2)).toArray.filterMap (es[·]?))=((live.map (·.2)).filterMap (es[·]?)).toArray:=by simp
 have get':∀ i:Nat,((live.map (·.2)).toArray.filterMap (es[·]?))[i]?=live[i]?.bind fun x=>es[x.2]?:=fun i=>by
  rw[es',List.getElem?_toArray,qkm some1,qY];cases live[i]? <;> rfl
 have size':((live.map (·.2)).toArray.filterMap (es[·]?)).size=n:=by rw[es',qB,qoM some1,qc,llen]
 have pget:∀ i:Nat,(live.map (·.1)).toArray[i]?=live[i]?.map (·.1):=fun i=>by rw[List.getElem?_toArray,qY]
 refine⟨{ mask:=m,place:=(live.map (·.1)).toArray,dummies:=#[],finger:=fi,led:=ld,moves:=mv,plain:=pl },(live.map (·.2)).toArray,?_,rfl,rfl,by rw[size',hn],⟨⟨rfl,rfl,by simp[llen],?_,?_⟩,size',?_⟩,fun e=>?_,fun i i' e e' h1 h2 hyy=>?_⟩
 .unfold laid;rw[qdw,<- Array.foldl_toList,eo,el];rfl
 .intro a b hab hb;have hb':b<live.length:=by simpa using hb
  have ha':a<live.length:=by lia
  have:=yp.mp lsort a b ha' hb' hab;simpa[Array.getD,ha',hb'] using this
 .intro i j e;rw[show ({ mask:=m,place:=(live.map (·.1)).toArray,dummies:=#[],finger:=fi,led:=ld,moves:=mv,plain:=pl }:SetTable).place[i]?=live[i]?.map (·.1) from pget i] at e;cases o:live[i]? with
  | none=>rw[o] at e;cases e
  | some x =>
   rw[o] at e;obtain⟨q,y⟩:=x;have hq:=(lmem q y).mp (List.mem_of_getElem? o);have:q=j:=Option.some.inj e;subst this;have hj:q<owner.size:=by
    rcases Nat.lt_or_ge q owner.size with z | z
    .exact z
    .rw [yC z] at hq;cases hq
   rw[W.sz] at hj;lia
 .rintro j e ⟨i,h1,h2⟩;rw[show ({ mask:=m,place:=(live.map (·.1)).toArray,dummies:=#[],finger:=fi,led:=ld,moves:=mv,plain:=pl }:SetTable).place[i]?=live[i]?.map (·.1) from pget i] at h1;rw[get'] at h2;cases o:live[i]? with
  | none=>rw[o] at h1;cases h1
  | some x =>
   rw[o] at h1 h2;obtain⟨q,y⟩:=x;have e1:q=j:=Option.some.inj h1;subst e1;have h2:es[y]?=some e:=h2;have hr:=(W.own q y ((lmem q y).mp (List.mem_of_getElem? o))).2;have eh:((es.map (·.1)).getD y 0)=e.1:=by rw[Array.getD_eq_getD_getElem?,Array.getElem?_map,h2];rfl
   rw[<- eh];obtain⟨k,ek,ak⟩:=hr;refine⟨k,ek,fun l hl=>?_⟩;have hp:=ak l hl;have hle:=qjT m ((es.map (·.1)).getD y 0) l;generalize (stp m ((es.map (·.1)).getD y 0) l).j=p at hp hle;unfold fO at hp;rw[Array.getD_eq_getD_getElem?] at hp;cases oo:owner[p]? with
   | none =>
    rw[Array.getElem?_eq_none_iff,W.sz] at oo;lia
   | some v =>
    rw[oo] at hp;cases v with
    | none=>cases hp
    | some z =>
     obtain⟨a,ea⟩:=yw ((lmem p z).mpr oo);exact⟨a,by rw[show ({ mask:=m,place:=(live.map (·.1)).toArray,dummies:=#[],finger:=fi,led:=ld,moves:=mv,plain:=pl }:SetTable).place[a]?=live[a]?.map (·.1) from pget a,ea];rfl⟩
 .constructor
  .intro he;obtain⟨i,ei⟩:=yw he;rw[qA,get'] at ei;cases o:live[i]? with
   | none=>rw[o] at ei;cases ei
   | some x =>
    rw[o] at ei;exact List.mem_of_getElem? (by rw[qA];exact ei)
  .intro he;obtain⟨y,ey⟩:=yw he;rw[qA] at ey;have hy:y<n:=by
    rcases Nat.lt_or_ge y es.size with z | z
    .lia
    .rw [yC z] at ey;cases ey
   obtain⟨j,ej⟩:=W.ex y hy;obtain⟨i,ei⟩:=yw ((lmem j y).mpr ej);refine List.mem_of_getElem? (i:=i) ?_;rw[qA,get',ei];exact ey
 .rw [get'] at h1 h2;cases o:live[i]? with
  | none=>rw[o] at h1;cases h1
  | some x =>
   cases o':live[i']? with
   | none=>rw[o'] at h2;cases h2
   | some x' =>
    rw[o] at h1;rw[o'] at h2;have hxx:x.2=x'.2:=hyy _ _ h1 h2;have j1:=(lmem x.1 x.2).mp (List.mem_of_getElem? o);have j2:=(lmem x'.1 x'.2).mp (List.mem_of_getElem? o');rw[<- hxx] at j2;have jj:=W.inj _ _ _ j1 j2;have hi:i<live.length:=(qC.mp o).1;have hi':i'<live.length:=(qC.mp o').1;have e1:live[i]=x:=(qC.mp o).2;have e2:live[i']=x':=(qC.mp o').2;rcases Nat.lt_trichotomy i i' with z | z | z
    .have:=yp.mp lsort i i' hi hi' z;rw[e1,e2] at this;lia
    .exact z
    .have:=yp.mp lsort i' i hi' hi z;rw[e1,e2] at this;lia
end L2
namespace L2
open W
variable {Q:Bool->Shared->Prop}
theorem qjb {vs:List Value}(h:IntsAre vs ns):ItemsAre (intKind prog w) ns vs:=by
 induction h with
 | nil=>exact .nil
 | cons n t _ ih=>exact .cons (intKind_is _ _ _ _) ih
theorem jq.key (t:jq h (.ref b) ks):IsTupleKey (intKind prog w) h ks b:=by
 obtain⟨b',o,xs,n,e,ho,hc,hd,hi,_⟩:=t;cases e
 exact⟨o,xs,n,ho,hc,hd,qjb hi⟩
abbrev yL (prog:Program) (w:World) (ks:List Int):Int:=tupleKeyHash (intKind prog w) ks
theorem qma (t:jq s.heap (.ref b) ks) (q:Q true s):wpAny 'm' A (hashByValue 8 (.ref b)) Q E s:=by
 have hT:=(t.key (prog:=prog) (w:=w)).typeIs;obtain⟨b',o,xs,n,e,ho,hc,hd,hi,_⟩:=t;cases e
 unfold hashByValue;refine qa (wpAny_specialOf hT F.slot_tuple_hash.lookup ?_);show wpAny _ _ (seqItems? (.ref b) >>= _) _ _ s;refine qa (wpAny_seqItems ho hd ?_);refine qa ?_;show wpAny _ _ (forIn xs _ _) _ _ s;rw[<- Array.forIn_toList];refine wpAny_forIn_list _ (fun rest r s'=>r.1=none/\s'=s/\∃ ns,IntsAre rest ns) _ ?_ ?_ _ _ ⟨rfl,rfl,_,hi⟩
 .rintro v rest r s' ⟨hr,rfl,ns,hi'⟩;cases hi' with
  | cons i t hi'' =>
   refine qa (qf ?_);simp only[Jh,ql,if_false];exact qf ⟨rfl,rfl,_,hi''⟩
 .rintro ⟨r1,r2⟩ s' ⟨hr,rfl,_⟩;simp only at hr;subst hr;exact qf q
theorem qhI (t:jq s.heap (.ref b) ks) (q:Q false s):wpAny 'm' A (ofAClassStatement 8 (.ref b)) Q E s:=by
 have hT:=(t.key (prog:=prog) (w:=w)).typeIs;obtain⟨b',o,xs,n,e,ho,hc,hd,hi,_⟩:=t;cases e
 unfold ofAClassStatement;refine qa (wpAny_typeOf hT ?_);dsimp only;rw[if_pos (show ("tuple" == "tuple")=true by decide)];refine qa (qf ?_);simp only[Jh,ql,if_false];refine qa (wpAny_seqItems ho hd ?_);dsimp only;refine qa ?_;show wpAny _ _ (forIn xs _ _) _ _ s;rw[<- Array.forIn_toList];refine wpAny_forIn_list _ (fun rest r s'=>r.1=none/\s'=s/\∃ ns,IntsAre rest ns) _ ?_ ?_ _ _ ⟨rfl,rfl,_,hi⟩
 .rintro v rest r s' ⟨hr,rfl,ns,hi'⟩;cases hi' with
  | cons i t hi'' =>
   refine qa (qf ?_);simp only[ql,if_false];exact qf ⟨rfl,rfl,_,hi''⟩
 .rintro ⟨r1,r2⟩ s' ⟨hr,rfl,_⟩;simp only at hr;subst hr;exact qf q
theorem qk7 (t:jq s.heap (.ref b) ks) {ys:List Value}(hy:∀ y∈ys,∃ c ks',y = .ref c/\jq s.heap (.ref c) ks') (q:Q false s):wpAny 'm' A (searchCouldBeSeen (.ref b) ys) Q E s:=by
 unfold searchCouldBeSeen;refine qa ?_;refine wpAny_forIn_list _ (fun rest r s'=>r.1=none/\s'=s/\∀ y∈rest,∃ c ks',y = .ref c/\jq s.heap (.ref c) ks') _ ?_ ?_ _ _ ⟨rfl,rfl,hy⟩
 .rintro v rest r s' ⟨hr,rfl,hy'⟩;obtain⟨c,ks',rfl,tc⟩:=hy' v qj;have rest':∀ y∈rest,∃ c ks',y = .ref c/\jq s'.heap (.ref c) ks':=fun y h=>hy' y (qe _ h);dsimp only;by_cases e:(b == c)=true
  .rw [e];simp only[Bool.true_or,if_true];exact qf ⟨rfl,rfl,rest'⟩
  .have e:(b == c)=false:=by simpa using e
   rw[e];simp only[carriedByValue,Bool.false_and,Bool.or_false,ql,if_false];refine qa (wpAny_eqIsQuiet_tuple (t.key (prog:=prog) (w:=w)) ?_);simp only[Jh,ql,if_false];refine qa (wpAny_eqIsQuiet_tuple (tc.key (prog:=prog) (w:=w)) ?_);simp only[Jh,ql,if_false];refine qa (qhI t ?_);simp only[ql,if_false];refine qa (qhI tc ?_);simp only[ql,if_false];exact qf ⟨rfl,rfl,rest'⟩
 .rintro ⟨r1,r2⟩ s' ⟨hr,rfl,_⟩;simp only at hr;subst hr;exact qf q
end L2
namespace L2
open W SetTable
variable {adding:Bool}
def Jp (m n:Nat):Prop:=(m=7/\n<5)\/(m=31/\n<19)\/(m=127/\n<77)\/(m=511/\n<307)\/(m=2047/\n<1229)\/(m=8191/\n<4915)
theorem Jp.full (h:Jp m n):Full m:=by
 rcases h with⟨rfl,_⟩ | ⟨rfl,_⟩ | ⟨rfl,_⟩ | ⟨rfl,_⟩ | ⟨rfl,_⟩ | ⟨rfl,_⟩
 .exact full7
 .exact qoL
 .exact qmd
 .exact qmc
 .exact qjh
 .exact qjg
theorem Jp.le (h:Jp m n):n<m/\n<4915:=by unfold Jp at h;lia
theorem Jp.odd (h:Jp m n):(m % 2 == 0)=false:=by rcases h with⟨rfl,_⟩ | ⟨rfl,_⟩ | ⟨rfl,_⟩ | ⟨rfl,_⟩ | ⟨rfl,_⟩ | ⟨rfl,_⟩ <;> decide
def qb0 (prog:Program) (w:World) (h:Heap) (e:Int×Value) (ks:List Int):Prop:=jq h e.2 ks/\e.1=yL prog w ks
abbrev Je (w:World):Bool:=w.params.followText "set-order"
structure SetD (prog:Program) (w:World) (Pv:Value->Prop) (h:Heap) (a:Addr) (o:Obj) (es:Array (Int×Value)) (ep:Nat) (t:SetTable) (m:Nat) (kss:List (List Int)):Prop where
 ho:h.get? a=some o
 ex:o.ExactSet
 hd:o.data = .set es ep t
 pl:t.plain=true
 ld:t.led=!Je w
 mok:Jp m es.size
 si:SetI t es m es.size
 en:PySem.Paired (qb0 prog w h) es.toList kss
 nd:kss.Nodup
 own:∀ e∈es.toList,Pv e.2
section
variable {o:Obj}{es:Array (Int×Value)}{t:SetTable}
theorem SetD.fits (D:SetD prog w Pv s.heap a o es ep t m kss):t.fits es.size=true:=by
 have:=D.mok.le;unfold SetTable.fits SetTable.fill;rw[D.si.tab.dm,D.si.tab.size,D.si.tab.mask];simp;lia
theorem SetD.len (D:SetD prog w Pv s.heap a o es ep t m kss):kss.length=es.size:=by
 have:=PySem.Paired.length D.en;rw[qy] at this;exact this.symm
theorem SetD.ent (D:SetD prog w Pv s.heap a o es ep t m kss) {e:Int×Value}(h:es[i]?=some e):∃ ks,kss[i]?=some ks/\qb0 prog w s.heap e ks:=L2.Paired.get D.en (by rw[qA];exact h)
theorem SetD.ent' (D:SetD prog w Pv s.heap a o es ep t m kss) (h:kss[i]?=some ks):∃ e,es[i]?=some e/\qb0 prog w s.heap e ks:=by
 obtain⟨e,h1,h2⟩:=L2.Paired.get' D.en h;exact⟨e,by rw[qA] at h1;exact h1,h2⟩
theorem SetD.place (D:SetD prog w Pv s.heap a o es ep t m kss) (h:t.place[i]?=some j):∃ e,es[i]?=some e:=by
 have hi:i<t.place.size:=by
  rcases Nat.lt_or_ge i t.place.size with z | z
  .exact z
  .rw [yC z] at h;cases h
 rw[D.si.tab.size] at hi;exact⟨es[i],by simp[hi]⟩
theorem qaf (D:SetD prog w Pv s.heap a o es ep t m kss) (tb:jq s.heap (.ref b) ks) (hu:A.units<cLine) {Q:SetFound->Shared->Prop}
  (hin:∀ i:Nat,kss[i]?=some ks->Q (.there (if adding=true then none else some i)) s)
  (hout:ks∉kss->∀ j,¬ Fl t j->j<=m->Rch (Fl t) m (yL prog w ks) j->Q (.free j false) s) {K:Nat}(hK:¬ Fl t (stp m (yL prog w ks) K).j) (hK2:K<=10 * (m+12)) :
  ∀ (fu k:Nat) (stand:Option Probe),stand.getD (t.probeStart (yL prog w ks))=stp m (yL prog w ks) k->k<=K->K - k<fu →
   (∀ l,l<k->∃ i:Nat,t.place[i]?=some (stp m (yL prog w ks) l).j/\kss[i]?≠some ks)->wpAny 'm' A (setSearchFrom a (.ref b) (yL prog w ks) adding fu stand) Q E s
 | 0,k,stand,_,_,z,_=>absurd z 'l'
 | fu+1,k,stand,hst,hk,hf,hl=>by
  have T:=D.si.tab;unfold setSearchFrom;refine qa (ja D.ho D.hd D.fits ?_);dsimp only;have gw:t.gaveWay=false:=by unfold SetTable.gaveWay;rw[T.mask];exact D.mok.odd
  rw[gw];simp only[ql,if_false];rw[hst];obtain⟨x,x1,x2,x3,x4⟩:=T.probe_go (hashAt:=fun i=>(es[i]?.map (·.1)).getD 0) hK (10 * turns t.mask) k hk (by rw[T.mask];unfold turns;lia)
  have before:∀ l,l<x->∃ i:Nat,t.place[i]?=some (stp m (yL prog w ks) l).j/\kss[i]?≠some ks:=fun l hlx=>by
   by_cases c:l<k
   .exact hl l c
   .obtain ⟨i,e1,e2⟩:=x3 l 'l' hlx;refine⟨i,e1,fun z=>e2 ?_⟩;obtain⟨e,h1,_,h3⟩:=D.ent' z;simp only[h1,Option.map_some,Option.getD_some,h3]
  rcases x4 with⟨n1,n2⟩ | ⟨i,e1,e2,e3⟩
  .have pe:t.probe (fun i=>(es[i]?.map (·.1)).getD 0) (yL prog w ks) (stp m (yL prog w ks) k)=some (.empty (stp m (yL prog w ks) x).j none):=n2;have no:ks∉kss:=fun hm=>by
    obtain⟨i,ei⟩:=yw hm;obtain⟨e,h1,_,h3⟩:=D.ent' ei;have hi:i<t.place.size:=by
     rw[T.size];rcases Nat.lt_or_ge i es.size with z | z
     .exact z
     .rw [yC z] at h1;cases h1
    obtain⟨k',ek,ak⟩:=D.si.rch (t.place[i]) e ⟨i,by simp[hi],h1⟩;rw[h3] at ek ak;rcases Nat.lt_trichotomy k' x with z | z | z
    .obtain ⟨i',p1,p2⟩:=before k' z;rw[ek] at p1;have:i'=i:=qir T.rise p1 (by simp[hi]);subst this;exact p2 ei
    .subst z;exact n1 ⟨i,by rw[ek];simp[hi]⟩
    .exact n1 (ak x z)
   have fin:=hout no _ n1 (qjT _ _ _) ⟨x,rfl,fun l hlx=>let ⟨i,p,_⟩:=before l hlx;⟨i,p⟩⟩;generalize hp:t.probe _ (yL prog w ks) (stp m (yL prog w ks) k)=r;have er:=hp.symm.trans pe;subst er;exact qf fin
  .have pe:t.probe (fun i=>(es[i]?.map (·.1)).getD 0) (yL prog w ks) (stp m (yL prog w ks) k)=some (.candidate (stp m (yL prog w ks) x).j i (stp m (yL prog w ks) (x+1))):=e3;generalize hp:t.probe _ (yL prog w ks) (stp m (yL prog w ks) k)=r;have er:=hp.symm.trans pe;subst er;dsimp only;obtain⟨⟨h',y⟩,ee⟩:=D.place e1;obtain⟨ks',ek,ty,hh⟩:=D.ent ee;obtain⟨c,oc,xs,nn,ey,hoc⟩:=id ty;have ey:y = .ref c:=ey;subst ey;have ty:jq s.heap (.ref c) ks':=ty;have hstored:∀ y∈List.map (fun x=>x.snd) (Array.filter (fun x=>x.fst == yL prog w ks) es).toList,∃ c ks',y = .ref c/\jq s.heap (.ref c) ks':=fun y hy=>by
    obtain⟨e,he,rfl⟩:=qu.mp hy;have he':e∈es.toList:=by
     rw[Array.toList_filter] at he;exact (List.mem_filter.mp he).1
    obtain⟨q,eq⟩:=yw he';rw[qA] at eq;obtain⟨ks2,_,t2,_⟩:=D.ent eq;obtain⟨c2,_,_,_,e2,_⟩:=id t2;exact⟨c2,ks2,e2,by rw[<- e2];exact t2⟩
   have sm:t.sameMemory t.moves t.mask=some true:=by unfold SetTable.sameMemory;rw[if_pos (beq_self_eq_true _)]
   have core:wpAny 'm' A (do
     let equal <- holding [Value.ref c] (eqBool (Value.ref c) (Value.ref b))
     let __x <- setState a
     if (adding && equal)=true then pure (SetFound.there none)
      else
       match __x.2.snd.sameMemory t.moves t.mask with
       | some sme =>
        match if sme=true then __x.2.snd.slot (stp m (yL prog w ks) x).j else Slot.empty with
        | Slot.live i' =>
         match __x.fst[i']? with
         | some (fst,y')=>do
          let __do_lift <- isSame y' (Value.ref c)
          let still <- pure (if __do_lift=true then some i' else none)
          match still with
           | none=>do
            rule "set.search.anew"
            setSearchFrom a (Value.ref b) (yL prog w ks) adding fu none
           | some i' =>
            if equal=true then pure (SetFound.there (some i'))
            else setSearchFrom a (Value.ref b) (yL prog w ks) adding fu (some (stp m (yL prog w ks) (x+1)))
         | none=>do
          let still <- pure none
          match still with
           | none=>do
            rule "set.search.anew"
            setSearchFrom a (Value.ref b) (yL prog w ks) adding fu none
           | some i' =>
            if equal=true then pure (SetFound.there (some i'))
            else setSearchFrom a (Value.ref b) (yL prog w ks) adding fu (some (stp m (yL prog w ks) (x+1)))
        | x_1=>do
         let still <- pure none
         match still with
          | none=>do
           rule "set.search.anew"
           setSearchFrom a (Value.ref b) (yL prog w ks) adding fu none
          | some i' =>
           if equal=true then pure (SetFound.there (some i'))
           else setSearchFrom a (Value.ref b) (yL prog w ks) adding fu (some (stp m (yL prog w ks) (x+1)))
       | x_1=>unsupported "set.changed-during-lookup:is-the-new-block-at-the-old-address") Q E s:=by
    refine qa (yq (wpAny_eqBool_tuple hu (ty.key (prog:=prog) (w:=w)) (tb.key (prog:=prog) (w:=w)) ?_));refine qa (ja D.ho D.hd D.fits ?_);dsimp only;have go:∀ eq:Bool,(eq=true->kss[i]?=some ks)->(eq=false->kss[i]?≠some ks)->wpAny 'm' A (do
      let __do_lift <- isSame (Value.ref c) (Value.ref c)
      let still <- pure (if __do_lift=true then some i else none)
      match still with
       | none=>do
        rule "set.search.anew"
        setSearchFrom a (Value.ref b) (yL prog w ks) adding fu none
       | some i' =>
        if eq=true then pure (SetFound.there (some i'))
        else setSearchFrom a (Value.ref b) (yL prog w ks) adding fu (some (stp m (yL prog w ks) (x+1)))) (fun r s'=>adding=true/\eq=true\/Q r s') E s:=fun eq q1 q2=>by
     refine qa ?_;unfold isSame;dsimp only;rw[if_pos (beq_self_eq_true _)];refine qf (qa (qf ?_));simp only[if_true];cases eq with
     | true =>
      simp only[if_true];refine qf ?_;cases adding with
      | true=>exact .inl 's'
      | false=>exact .inr (by simpa using hin i (q1 rfl))
     | false =>
      simp only[ql,if_false];refine qN (qaf D tb hu hin hout hK hK2 fu (x+1) _ rfl ?_ ?_ fun l hlx=>?_) (fun r s' q=>.inr q) fun _ _ z=>z
      .have:x≠K:=fun z=>hK (z ▸ ⟨i,e1⟩);lia
      .have:x≠K:=fun z=>hK (z ▸ ⟨i,e1⟩);lia
      .by_cases z:l=x
       .subst z;exact⟨i,e1,q2 rfl⟩
       .exact before l 'l'
    by_cases kk:ks'=ks
    .rw [qH kk];cases ha:adding with
     | true =>
      simp only[Bool.and_self,if_true];refine qf ?_;have:=hin i (by rw[ek,kk]);rw[ha] at this;simpa using this
     | false =>
      simp only[Bool.and_true,ql,if_false,sm,if_true,T.live e1,ee];refine qN (by have:=go true (fun _=>by rw[ek,kk]) (fun z=>by cases z);rw[ha] at this;simpa using this) (fun r s' q=>?_) fun _ _ z=>z;exact q
    .rw [yi kk];simp only[Bool.and_false,ql,if_false,sm,if_true,T.live e1,ee];refine qN (by have:=go false (fun z=>by cases z) (fun _ z=>kk (by rw[ek] at z;exact Option.some.inj z));simpa using this) (fun r s' q=>?_) fun _ _ z=>z;exact q
   cases hled:t.led with
   | true =>
    simp only[Jh,ql,if_false,ee];exact core
   | false =>
    simp only[Bool.not_false,if_true];refine qa (qk7 tb hstored ?_);simp only[ql,if_false,ee];exact core
end
end L2
namespace L2
open W SetTable
variable {p:Nat}
def qb1 (prog:Program) (w:World) (Pv:Value->Prop) (h:Heap) (a:Addr) (kss:List (List Int)):Prop:=∃ o es ep t m,SetD prog w Pv h a o es ep t m kss
theorem qb0.kept {e:Int×Value}(k:∀ b o,h.get? b=some o->o.cls = .type "tuple" -> h'.get? b=some o) (t:qb0 prog w h e ks):qb0 prog w h' e ks:=⟨t.1.kept k,t.2⟩
theorem qhq {o:Obj}(ho:h.get? a=some o) (hc:o.cls = .type "set") (sb:Heap.SameBut a h h') {e:Int×Value}(t:qb0 prog w h e ks):qb0 prog w h' e ks :=
 t.kept fun b o' e hcl=>by
  have ne:b≠a:=by
   rintro rfl;rw[ho] at e;cases e
   rw[hc] at hcl;exact absurd hcl 'd'
  rw[sb.2 b ne];exact e
section
variable {o:Obj}{es:Array (Int×Value)}{t:SetTable}
theorem qiv (a:Addr) (wanted:Nat):setRelay a wanted=(do
  let (es,_,t) <- setState a
  if SetTable.sizeAbove wanted > sizeLine then unsupported "set:memory"
  let (es,t) <- (do
   let some (t,order):=t.relaid (es.map (·.1)) wanted | unsupported "internal:set-table-without-room"
   let es':=order.filterMap (es[·]?)
   if es'.size != es.size then unsupported "internal:set-table-lost-an-element"
   pure (es',t))
  storeSet a es t):=rfl
theorem SetI.put {x:Int×Value}(I:SetI t es m es.size) (hj:¬ Fl t j) (hm:j<=m) (hr:Rch (Fl t) m x.1 j):SetI (t.put j).1 (insertAt es (t.put j).2 x) m (es.size+1):=by
 obtain⟨T',e2,e3⟩:=I.tab.put hj hm;have hb:=(JV I.tab.rise j).2.2;have hb2:below t.place j<=es.size:=by rw[<- I.tab.size];exact hb
 have up:∀ q,Fl t q->Fl (t.put j).1 q:=fun q ⟨i,e⟩=>by
  unfold Fl;rw[e3];by_cases c:i<below t.place j
  .exact ⟨i,by rw[jv hb,if_pos c];exact e⟩
  .exact ⟨i+1,by rw[jv hb,if_neg 'l',if_neg 'l'];exact e⟩
 refine⟨T',by rw[e2,Z2 hb2],fun j' e' hA=>?_⟩;rw[e3,e2] at hA;rcases (qoI hb hb2).mp hA with h | ⟨rfl,rfl⟩
 .exact (I.rch j' e' h).mono up
 .exact hr.mono up
theorem qa6 {R:α->β->Prop}:∀ {xs:List α}{ys:List β}(p:Nat) {x:α}{y:β},PySem.Paired R xs ys->R x y->PySem.Paired R (xs.take p++x::xs.drop p) (ys.take p++y::ys.drop p)
 | _,_,0,x,y,h,r=>.cons r h
 | _,_,p+1,x,y,.nil,r=>by simpa using PySem.Paired.cons r .nil
 | _,_,p+1,x,y,.cons h t,r=>.cons h (qa6 p t r)
theorem qet {xs:Array α}{x:α}(hp:p<=xs.size):(insertAt xs p x).toList=xs.toList.take p++x::xs.toList.drop p:=by
 unfold insertAt;simp[y8]
theorem qgO {xs:List α}{x y:α}:y∈xs.take p++x::xs.drop p ↔ y=x\/y∈xs:=by
 have:y∈xs ↔ y∈xs.take p\/y∈xs.drop p:=by rw[<- qG,q9]
 simp only[qG,qF,this];constructor
 .rintro (h | h | h)
  .exact .inr (.inl h)
  .exact .inl h
  .exact .inr (.inr h)
 .rintro (h | h | h)
  .exact .inr (.inl h)
  .exact .inl h
  .exact .inr (.inr h)
theorem qgE {xs:List α}{x:α}(h:xs.Nodup) (hx:x∉xs):(xs.take p++x::xs.drop p).Nodup:=by
 have e:(xs.take p++x::xs.drop p).Perm (x::xs):=by
  have:=List.perm_middle (a:=x) (l₁:=xs.take p) (l₂:=xs.drop p);rwa[q9] at this
 exact e.nodup_iff.mpr (yx.mpr ⟨hx,h⟩)
end
end L2
namespace L2
open W SetTable
variable {wanted:Nat}
theorem Y9 {R:α->β->Prop}:∀ {l:List α},(∀ e∈l,∃ k,R e k)->∃ ks,PySem.Paired R l ks
 | [],_=>⟨[],.nil⟩
 | e::l,h=>by
  obtain⟨k,hk⟩:=h e qj;obtain⟨ks,hks⟩:=Y9 (fun x hx=>h x (qe _ hx));exact⟨k::ks,.cons hk hks⟩
section
variable {o:Obj}{es:Array (Int×Value)}{t:SetTable}
theorem qb0.inj {e:Int×Value}{k k':List Int}(h1:qb0 prog w h e k) (h2:qb0 prog w h e k'):k=k':=by
 obtain⟨b,_,_,_,e1,_⟩:=id h1.1;have t1:jq h (.ref b) k:=e1 ▸ h1.1;have t2:jq h (.ref b) k':=e1 ▸ h2.1;exact (t1.key (prog:=prog) (w:=w)).inj (t2.key (prog:=prog) (w:=w))
theorem qcA (ho:s.heap.get? a=some o) (hd:o.data = .set es ep t) (es':Array (Int×Value)) (t':SetTable):(s.heap.update a (Obj.putSet es' t')).get? a=some { o with data:=.set es' (ep+1) t' }:=by
 have:=jh (Obj.putSet es' t') ho (by rw[putSet_of es' t' hd];rfl);rw[putSet_of es' t' hd] at this;exact this
theorem qiu {m' n:Nat}{Q:Unit->Shared->Prop}(ho:s.heap.get? a=some o) (ex:o.ExactSet) (hd:o.data = .set es ep t) (pl:t.plain=true) (le:t.led=!Je w) (hf:t.fits es.size=true) (en:PySem.Paired (qb0 prog w s.heap) es.toList kss) (nd:kss.Nodup) (ow:∀ e∈es.toList,Pv e.2)
  (hw:sizeAbove wanted=m'+1) (mo:Jp m' es.size) (h:∀ h' kss',Heap.SameBut a s.heap h'->qb1 prog w Pv h' a kss'->(∀ k,k∈kss' ↔ k∈kss)->Q () { s with heap:=h' }):wpAny 'm' A (setRelay a wanted) Q E s:=by
 rw[qiv];refine qa (ja ho hd hf ?_);dsimp only;have hle:=mo.le;have m127:m'<=8191:=by unfold Jp at mo;lia
 rw[if_neg (by rw[hw,sizeLine_eq];lia)];obtain⟨t',order,e1,e2,e3,e4,e5,e6,e7⟩:=ql3 (m:=m') (n:=es.size) (fi:=t.finger) (mv:=t.movedTo (sizeAbove wanted - 1)) (ld:=t.led) (pl:=t.plain) mo.full (es:=es) rfl 'l';have er:t.relaid (es.map (·.1)) wanted=some (t',order):=by
  unfold SetTable.relaid;rw[show sizeAbove wanted - 1=m' by lia] at e1 ⊢;exact e1
 rw[er];dsimp only;have e4':((order.filterMap (es[·]?)).size != es.size)=false:=by rw[e4];simp
 rw[e4'];simp only[ql,if_false,pure_bind];generalize order.filterMap (es[·]?)=es2 at *;refine wpAny_storeSet_of ho hd ?_ (by rw[e4,sizeLine_eq];lia);have sb:Heap.SameBut a s.heap (s.heap.update a (Obj.putSet es2 t')):=Heap.SameBut.update s.heap a _;have old:∀ e∈es2.toList,∃ k,qb0 prog w s.heap e k/\k∈kss:=fun e he=>by
  obtain⟨i,ei⟩:=yw ((e6 e).mp he);obtain⟨k,k1,k2⟩:=L2.Paired.get en ei;exact⟨k,k2,List.mem_of_getElem? k1⟩
 obtain⟨kss2,en2⟩:=Y9 (R:=qb0 prog w s.heap) (l:=es2.toList) fun e he=>let ⟨k,k1,_⟩:=old e he;⟨k,k1⟩;refine h _ kss2 sb ⟨_,es2,ep+1,t',m',qcA ho hd es2 t',⟨ex.1,ex.2.1,ex.2.2⟩,rfl,by rw[e3];exact pl,by rw[e2];exact le,by rw[e4];exact mo,by rw[e4];exact e5,Paired.mapP en2 fun e ks tt=>qhq ho ex.1 sb tt,?_,fun e he=>ow e ((e6 e).mp he)⟩ fun k=>⟨fun hk=>?_,fun hk=>?_⟩
 .refine yp.mpr fun i i' hi hi' hlt z=>?_;obtain⟨x,x1,x2⟩:=L2.Paired.get' en2 (qh hi);obtain⟨x',x1',x2'⟩:=L2.Paired.get' en2 (qh hi');rw[qA] at x1 x1';have:=e7 i i' x x' x1 x1' fun y y' ey ey'=>by
   obtain⟨k,k1,k2⟩:=L2.Paired.get en (show es.toList[y]?=some x by rw[qA];exact ey);obtain⟨k',k1',k2'⟩:=L2.Paired.get en (show es.toList[y']?=some x' by rw[qA];exact ey');have q1:=k2.inj x2;have q2:=k2'.inj x2';rw[q1] at k1;rw[q2,<- z] at k1';have hy:y<kss.length:=(qC.mp k1).1;have hy':y'<kss.length:=(qC.mp k1').1;have g1:=(qC.mp k1).2;have g2:=(qC.mp k1').2;exact (List.getElem_inj nd).mp (g1.trans g2.symm)
  lia
 .obtain ⟨i,ei⟩:=yw hk;obtain⟨x,x1,x2⟩:=L2.Paired.get' en2 ei;obtain⟨k',k1,k2⟩:=old x (List.mem_of_getElem? x1);rw[x2.inj k1];exact k2
 .obtain ⟨i,ei⟩:=yw hk;obtain⟨x,x1,x2⟩:=L2.Paired.get' en ei;have hx:=(e6 x).mpr (List.mem_of_getElem? x1);obtain⟨i2,ei2⟩:=yw hx;obtain⟨k2,q1,q2⟩:=L2.Paired.get en2 ei2;rw[x2.inj q2];exact List.mem_of_getElem? q1
theorem qkH (S:qb1 prog w Pv s.heap a kss) (tb:jq s.heap (.ref b) ks) (pb:Pv (.ref b)) (hu:A.units<cLine) (hn:kss.length<4914) {Q:Bool->Shared->Prop}(hin:ks∈kss->Q false s)
  (hout:ks∉kss->∀ h' kss',Heap.SameBut a s.heap h'->qb1 prog w Pv h' a kss'->(∀ k,k∈kss' ↔ k=ks\/k∈kss)->Q true { s with heap:=h' }):wpAny 'm' A (setAddHashed a (.ref b) (yL prog w ks)) Q E s:=by
 obtain⟨o,es,ep,t,m,D⟩:=S;have T:=D.si.tab;have hl:=D.len;have hle:=D.mok.le;obtain⟨q,q1,q2⟩:=T.free (yT hle.1);obtain⟨K,K1,K2⟩:=D.mok.full.walk (yL prog w ks) q1;unfold setAddHashed;refine yq ?_;show wpAny 'm' A (setAddHashedIn a (.ref b) (yL prog w ks) (99999+1)) Q E s;unfold setAddHashedIn;refine qa (ja D.ho D.hd D.fits ?_);dsimp only;rw[if_neg (by simp[byScan,Value.scannable])];refine qa ?_;have m127:m<=8191:=by have:=D.mok;unfold Jp at this;lia
 refine qaf D tb hu (adding:=true) (fun i ei=>?_) (fun no j n1 n2 n3=>?_) (K:=K) (by rw[K2];exact q2) K1 100000 0 none (by show t.probeStart _=_;rw[qd2,T.mask]) (yj _) 'l' fun l z=>absurd z 'l'
 .simp only[if_true];exact qf (hin (List.mem_of_getElem? ei))
 .dsimp only;refine qa (ja D.ho D.hd D.fits ?_);dsimp only;have I1:=D.si.put (x:=(yL prog w ks,Value.ref b)) n1 n2 n3;obtain⟨T1,p2,p3⟩:=T.put n1 n2;have hb:=(JV T.rise j).2.2;have hb2:below t.place j<=es.size:=by rw[<- T.size];exact hb
  have pl1:(t.put j).1.plain=true:=D.pl;have le1:(t.put j).1.led=!Je w:=D.ld;rw[pl1];simp only[if_true];refine qa (qma tb ?_);simp only[if_true];have sz1:(insertAt es (t.put j).2 (yL prog w ks,Value.ref b)).size=es.size+1:=by rw[p2,Z2 hb2]
  have en1:PySem.Paired (qb0 prog w s.heap) (insertAt es (t.put j).2 (yL prog w ks,Value.ref b)).toList (kss.take (below t.place j)++ks::kss.drop (below t.place j)):=by
   rw[p2,qet hb2];exact qa6 _ D.en ⟨tb,rfl⟩
  have ow1:∀ e∈(insertAt es (t.put j).2 (yL prog w ks,Value.ref b)).toList,Pv e.2:=fun e he=>by
   rw[p2,qet hb2] at he;rcases qgO.mp he with rfl | he
   .exact pb
   .exact D.own e he
  have nd1:=qgE (p:=below t.place j) D.nd no;have fits1:(t.put j).1.fits (es.size+1)=true:=by
   unfold SetTable.fits SetTable.fill;rw[T1.dm,T1.size,T1.mask];simp;lia
  generalize (t.put j).1=t1 at *;generalize insertAt es (t.put j).2 (yL prog w ks,Value.ref b)=es1 at *;generalize hk1:kss.take (below t.place j)++ks::kss.drop (below t.place j)=kss1 at *;have mem1:∀ k,k∈kss1 ↔ k=ks\/k∈kss:=fun k=>by rw[<- hk1];exact qgO
  refine qa (wpAny_storeSet_of D.ho D.hd ?_ (by rw[sz1,sizeLine_eq];lia));have sb:Heap.SameBut a s.heap (s.heap.update a (Obj.putSet es1 t1)):=Heap.SameBut.update s.heap a _;have g1:=qcA D.ho D.hd es1 t1;have en2:PySem.Paired (qb0 prog w (s.heap.update a (Obj.putSet es1 t1))) es1.toList kss1:=Paired.mapP en1 fun e k tt=>qhq D.ho D.ex.1 sb tt;generalize s.heap.update a (Obj.putSet es1 t1)=h1 at *;have tf:t1.tooFull=decide ((es.size+1) * 5 ≥ m * 3):=by
   unfold SetTable.tooFull SetTable.fill;rw[T1.dm,T1.size,T1.mask];rfl
  rw[tf];simp only[Bool.not_false,Bool.true_and,decide_eq_true_eq];by_cases c:(es.size+1) * 5 ≥ m * 3
  .rw [if_pos c];have big:∃ m',sizeAbove (grown (es.size+1))=m'+1/\Jp m' (es.size+1):=by
    rcases D.mok with⟨rfl,hlt⟩ | ⟨rfl,hlt⟩ | ⟨rfl,hlt⟩ | ⟨rfl,hlt⟩ | ⟨rfl,hlt⟩ | ⟨rfl,hlt⟩
    .have:es.size=4:=by lia
     rw[this];exact⟨31,'d',.inr (.inl ⟨rfl,'l'⟩)⟩
    .have:es.size=18:=by lia
     rw[this];exact⟨127,'d',.inr (.inr (.inl ⟨rfl,'l'⟩))⟩
    .have:es.size=76:=by lia
     rw[this];exact⟨511,'k',.inr (.inr (.inr (.inl ⟨rfl,'l'⟩)))⟩
    .have:es.size=306:=by lia
     rw[this];exact⟨2047,'k',.inr (.inr (.inr (.inr (.inl ⟨rfl,'l'⟩))))⟩
    .have:es.size=1228:=by lia
     rw[this];exact⟨8191,'k',.inr (.inr (.inr (.inr (.inr ⟨rfl,'l'⟩))))⟩
    .lia
   obtain⟨m',w1,w2⟩:=big;refine qa (qiu (s:={ s with heap:=h1 }) (n:=0) g1 ⟨D.ex.1,D.ex.2.1,D.ex.2.2⟩ rfl pl1 le1 (by rw[sz1];exact fits1) en2 nd1 ow1 w1 (by rw[sz1];exact w2) fun h' kss' sb' S' mem'=>?_);exact qf (hout no h' kss' ⟨sb'.1.trans sb.1,fun b' ne=>(sb'.2 b' ne).trans (sb.2 b' ne)⟩ S' fun k=>(mem' k).trans (mem1 k))
  .rw [if_neg c];refine qf (hout no h1 kss1 sb ⟨_,es1,ep+1,t1,m,g1,⟨D.ex.1,D.ex.2.1,D.ex.2.2⟩,rfl,pl1,le1,?_,by rw[sz1];exact I1,en2,nd1,ow1⟩ mem1);rw[sz1];rcases D.mok with⟨rfl,hlt⟩ | ⟨rfl,hlt⟩ | ⟨rfl,hlt⟩ | ⟨rfl,hlt⟩ | ⟨rfl,hlt⟩ | ⟨rfl,hlt⟩
   .exact .inl ⟨rfl,'l'⟩
   .exact .inr (.inl ⟨rfl,'l'⟩)
   .exact .inr (.inr (.inl ⟨rfl,'l'⟩))
   .exact .inr (.inr (.inr (.inl ⟨rfl,'l'⟩)))
   .exact .inr (.inr (.inr (.inr (.inl ⟨rfl,'l'⟩))))
   .exact .inr (.inr (.inr (.inr (.inr ⟨rfl,'l'⟩))))
end
end L2
namespace L2
open W SetTable
theorem JB {R R':α->β->Prop}:∀ {xs:List α}{ys:List β},PySem.Paired R xs ys->(∀ x∈xs,∀ y,R x y->R' x y)->PySem.Paired R' xs ys
 | _,_,.nil,_=>.nil
 | _,_,.cons r t,h=>.cons (h _ qj _ r) (JB t fun x hx=>h x (qe _ hx))
def In0 (h0:Heap) (Pv:Value->Prop):Prop:=∀ v,Pv v->∃ b o,v = .ref b/\h0.get? b=some o
theorem jq.move {o:Obj}(e:h0.get? b=some o) (k0:JW h0 h) (k1:JW h0 h') (t:jq h (.ref b) ks):jq h' (.ref b) ks:=by
 obtain⟨b',o',xs,n,eb,ho,r⟩:=t;cases eb
 have:=k0 _ _ e;rw[this] at ho;cases ho
 exact⟨b,o,xs,n,rfl,k1 _ _ e,r⟩
theorem qb1.move (S:qb1 prog w Pv h a kss) (hPv:In0 h0 Pv) (k0:JW h0 h) (k1:JW h0 h') (hs:∀ o,h.get? a=some o->h'.get? a=some o):qb1 prog w Pv h' a kss:=by
 obtain⟨o,es,ep,t,m,D⟩:=S;refine⟨o,es,ep,t,m,hs _ D.ho,D.ex,D.hd,D.pl,D.ld,D.mok,D.si,JB D.en fun e he ks ek=>?_,D.nd,D.own⟩;obtain⟨hh,v⟩:=e;obtain⟨b,o0,rfl,e0⟩:=hPv v (D.own _ he);exact⟨jq.move e0 k0 k1 ek.1,ek.2⟩
section
variable {P:Nat->Value->Prop}{St:Nat->Shared->Prop}
theorem qim {key:Nat->List Int}(W:WalksS prog w A.in1 I fp wr (fun a b=>b=a) n P St) (hSf:S∉fp) (hS0:h0.get? S=none) (hwr:∀ b∈wr,h0.get? b=none) (hPv:In0 h0 Pv)
  (hval:∀ i v,P i v->jq h0 v (key i)/\Pv v) (hn:∀ ms:List (List Int),ms.Nodup->(∀ q∈ms,∃ j,j<n/\key j=q)->ms.length<4914) (hu:A.units+8<cLine) :
  ∀ (k i:Nat) (s:Shared) (kss:List (List Int)),n - i=k->i<=n->St i s->JW h0 s.heap->qb1 prog w Pv s.heap S kss->(∀ q,q∈kss ↔ ∃ j,j<i/\key j=q)->kss.length<=i →
   (∀ s' kss',Moved (S::wr) (fun a b=>b=a) s s'->JW h0 s'.heap->qb1 prog w Pv s'.heap S kss'->(∀ q,q∈kss' ↔ ∃ j,j<n/\key j=q)->kss'.length<=n->R (.ok (.ret .none)) s') →
   codeAny 'm' A (.builtin "set.update.loop" ⟨[.ref S,.ref I],[]⟩) R s:=by
 have hSw:S∉wr:=fun h=>hSf (W.sub _ h);have hsub:∀ b∈wr,b∈S::wr:=fun b hb=>qe _ hb;have kp:∀ {s s':Shared},JW h0 s.heap->Moved wr (fun a b=>b=a) s s'->JW h0 s'.heap:=fun k0 hm b o e=>hm.heap b o (fun z=>by rw[hwr b z] at e;cases e) (k0 b o e);intro k;induction k with
 | zero =>
  intro i s kss hk hi hst k0 hS hmem hlen hR;have hin:i=n:=by lia
  subst hin;refine codeAny_builtin F.entry_set_update_loop ?_;rw[Around.under_plainId F.plain_set_update_loop _];refine qa (m:=pyNext (.ref I)) (W.done s _ _ hst fun s' hm=>?_);refine qf (hR s' kss (hm.mono hsub) (kp k0 hm) ?_ hmem hlen);exact hS.move hPv k0 (kp k0 hm) fun o e=>hm.heap S o hSw e
 | succ k ih =>
  intro i s kss hk hi hst k0 hS hmem hlen hR;have hlt:i<n:=by lia
  refine codeAny_builtin F.entry_set_update_loop ?_;rw[Around.under_plainId F.plain_set_update_loop _];refine qa (m:=pyNext (.ref I)) (W.item i s _ _ hlt hst fun v s' hP hst' hm=>?_);have k1:=kp k0 hm;have hS':=hS.move hPv k0 k1 fun o e=>hm.heap S o hSw e;obtain⟨tv,pv⟩:=hval i v hP;obtain⟨b,o0,rfl,e0⟩:=hPv v pv;have tb:jq s'.heap (.ref b) (key i):=jq.move e0 (fun _ _ z=>z) k1 tv;refine qa (m:=holding [Value.ref b] (setAdd S (.ref b))) (yq ?_);unfold setAdd;refine yq ?_;have hu1:A.in1.units<cLine:=by show A.units+_<_;lia
  refine qa (wpAny_pyHash_tuple hu1 (tb.key (prog:=prog) (w:=w)) ?_);refine qkH (s:={ s' with toks:=s'.toks+((key i).length+1) }) hS' tb pv hu1 (hn kss (let ⟨_,_,_,_,_,D⟩:=hS;D.nd) fun q hq=>let ⟨j,hj,e⟩:=(hmem q).mp hq;⟨j,jg hj hlt,e⟩) (fun hin=>?_) fun hout h' kss' sb S2 mem2=>?_
  .refine qf ⟨plainId_quiet F.plain_set_update_loop _,ih (i+1) _ kss 'l' hlt (W.frame _ s' s'.heap _ hst' 'l' fun b hb o e=>e) k1 hS' (fun q=>?_) 'l' fun s'' kss'' hm'' k2 S'' mem'' len''=>?_⟩
   .rw [hmem q];constructor
    .rintro ⟨j,hj,e⟩;exact⟨j,'l',e⟩
    .rintro ⟨j,hj,e⟩;by_cases c:j<i
     .exact ⟨j,c,e⟩
     .have:j=i:=by lia
      subst this;rw[e] at hin;exact (hmem q).mp hin
   .exact hR s'' kss'' (Moved.trans W.gtrans ((hm.mono hsub).then_heap (h':=s'.heap) (tk:=s'.toks+((key i).length+1)) 'l' fun b o hb e=>e) hm'') k2 S'' mem'' len''
  .have k1':JW h0 h':=fun b o e=>by
    rw[sb.2 b (fun z=>by rw[z,hS0] at e;cases e)];exact k1 b o e
   have hl':kss'.length<=i+1:=by
    obtain⟨_,_,_,_,_,D1⟩:=hS';obtain⟨_,_,_,_,_,D2⟩:=S2;have:kss'.length<=(key i::kss).length:=List.Nodup.length_le_of_subset D2.nd fun q hq=>by
     rcases (mem2 q).mp hq with rfl | z
     .exact qj
     .exact qe _ z
    simp only[qU] at this;lia
   refine qf ⟨plainId_quiet F.plain_set_update_loop _,ih (i+1) _ kss' 'l' hlt (W.frame _ s' h' (s'.toks+((key i).length+1)) hst' 'l' fun b hb o e=>?_) k1' S2 (fun q=>?_) hl' fun s'' kss'' hm'' k2 S'' mem'' len''=>?_⟩
   .rw [sb.2 b (fun h:b=S=>hSf (by rw[<- h];exact hb))];exact e
   .rw [mem2 q,hmem q];constructor
    .rintro (rfl | ⟨j,hj,e⟩)
     .exact ⟨i,'l',rfl⟩
     .exact ⟨j,'l',e⟩
    .rintro ⟨j,hj,e⟩;by_cases c:j<i
     .exact .inr ⟨j,c,e⟩
     .have:j=i:=by lia
      subst this;exact .inl e.symm
   .refine hR s'' kss'' (Moved.trans W.gtrans ((hm.mono hsub).then_heap (h':=h') (tk:=s'.toks+((key i).length+1)) 'l' fun b o hb e=>?_) hm'') k2 S'' mem'' len'';rw[sb.2 b (fun h:b=S=>hb (by rw[h];exact qj))];exact e
end
end L2
namespace L2
open W SetTable
abbrev Zv (w:World):Obj:={ cls:=.type "set",dict:=none,data:=.set #[] 0 (.fresh 0 0 (!Je w)) }
theorem qf7:qkM #[]:=fun i j a b=>absurd b 's'
theorem qel (e:h.get? a=some (Zv w)):qb1 prog w Pv h a [] :=
 ⟨_,#[],0,_,7,e,⟨rfl,rfl,rfl⟩,rfl,rfl,rfl,.inl ⟨rfl,'d'⟩,⟨⟨rfl,rfl,rfl,qf7,fun i j z=>by simp[SetTable.fresh] at z⟩,rfl,fun j e ⟨i,z,_⟩=>by simp[SetTable.fresh] at z⟩,.nil,List.nodup_nil,fun e z=>by simp at z⟩
theorem qil (x:Value) {Q₁:Value->Shared->Prop}(q:Q₁ (.ref s.heap.objs.size) { s with heap:=s.heap.push (Zv w) }) :
  codeAny 'm' A (.call (.builtin "set.__new__") ⟨[.type "set",x],[]⟩) (wants Q₁ E) s:=by
 refine codeAny_of_tree ?_;refine qa (m:=checkBuiltinCall "set.__new__" ⟨[.type "set",x],[]⟩) (wpAny_of_eq (F.newCall_set_1 x) (qf ⟨plainId_quiet F.plain_set_new _,codeAny_builtin F.entry_set_new ?_⟩));rw[Around.under_plainId F.plain_set_new _];unfold Builtin.«set.__new__» Builtin.Frozenset.newClass;have hsub:=sub_set_self;obtain⟨hp,g,d,tk,os⟩:=s;dsimp only
 wp_walk
 refine Jr (qf ?_);dsimp only;simp only[newObj];refine qa (wpAny_alloc (qf (qf q)))
theorem qeT {l:Addr}{vs:List Value}{Q:Value->Shared->Prop}(hh:A.handled=none) (hl:s.heap.IsList l vs.toArray) (hT:PySem.Paired (jq s.heap) vs kss) (hn:∀ ms:List (List Int),ms.Nodup->(∀ q∈ms,q∈kss)->ms.length<4914) (hu:A.units+64<cLine)
  (h:∀ h' tk ms,qb1 prog w (·∈vs) h' s.heap.objs.size ms->(∀ q,q∈ms ↔ q∈kss)->JW s.heap h'->Q (.ref s.heap.objs.size) { s with heap:=h',toks:=tk }):wpAny 'm' A (call (.type "set") [.ref l]) Q E s:=by
 obtain⟨c,tl,hmro⟩:=F.called_set.mro;have made:=F.called_set.made;have sub:=F.called_set.sub;refine wpAny_call (codeAny_of_tree ?_);show wpAny 'm' _ (callAny (.type "set") _) _ _ s;refine qf ⟨Code.quiet_builtin _ 'k',codeAny_builtin F.entry_type_call ?_⟩;rw[Around.under_plain (weight_type_call_type "set" [Value.ref l] []) rfl];have t1:=F.called_set.notType;have t2:=F.called_set.canCreate;have t3:=F.typeCall_set_1 (Value.ref l)
 repeat (any_goals first | assumption | wp_step)
 refine codeAny_mono (qil (prog:=prog) (.ref l) (E:=E) (Q₁:=fun v sa1=>v = .ref s.heap.objs.size/\sa1={ s with heap:=s.heap.push (Zv w) }) ⟨rfl,rfl⟩) fun r sa1 hr=>?_;cases r with
 | error e=>exact hr
 | ok fl =>
  cases fl with
  | next=>exact hr.elim
  | brk=>exact hr.elim
  | cont=>exact hr.elim
  | ret v =>
   obtain⟨rfl,rfl⟩:=hr;have hS:(s.heap.push (Zv w)).get? s.heap.objs.size=some (Zv w):=qD _ rfl;have hTy:Shared.TypeIs { s with heap:=s.heap.push (Zv w) } (.ref s.heap.objs.size) "set" := ⟨_,hS,rfl⟩;have i1:=F.called_set.init.lookup;have i2:=F.called_set.init.bind (.ref s.heap.objs.size)
   repeat (any_goals first | assumption | wp_step)
   refine codeAny_mono (codeAny_call_builtin (R:=wants (fun r sa2=>r = .none/\∃ h' tk ms,sa2={ s with heap:=h',toks:=tk }/\qb1 prog w (·∈vs) h' s.heap.objs.size ms/\(∀ q,q∈ms ↔ q∈kss)/\JW s.heap h') E)
    F.called_set.init.plain F.entry_set_init (check_set_init_1 hTy ?_)) fun ra2 sa2 hr2=>?_
   .obtain ⟨ol,hol,hcl,nl,hdl⟩:=hl;obtain⟨ocls,odict,odata,oslots⟩:=ol;simp only at hcl hdl;subst hcl;subst hdl;have hlt:l<s.heap.objs.size:=qo hol;have hol1:(s.heap.push (Zv w)).get? l=some { cls:=.type "list",dict:=odict,data:=.seq vs.toArray nl,slots:=oslots }:=qd _ hol;have s1:=F.sub_list_set;have s2:=F.sub_list_frozenset;have s3:(Value.type "list" == Value.type "dict")=false:=by decide
    have hl1:(s.heap.push (Zv w)).IsList l vs.toArray:=⟨_,hol1,rfl,nl,rfl⟩;unfold Builtin.«set.__init__» noKeywords Builtin.Frozenset.updateFrom;generalize hPI:pyIter=PI
    wp_walk
    subst hPI;refine wpAny_pyIter_list hl1 (qa (wpAny_runValue ?_));have sz1:(s.heap.push (Zv w)).objs.size=s.heap.objs.size+1:=Heap.size_push ..;have kp2:JW s.heap ((s.heap.push (Zv w)).push { cls:=.type "list_iterator",data:=.fields #[.ref l,.int 0 0] }):=fun b o e=>qd _ (qd _ e);have no:∀ b,s.heap.objs.size<=b->s.heap.get? b=none:=fun b hb=>by
     cases z:s.heap.get? b with
     | none=>rfl
     | some o=>exact absurd (qo z) (Nat.not_lt.mpr hb)
    have hin:In0 s.heap (·∈vs):=fun v hv=>by
     obtain⟨i,ei⟩:=yw hv;obtain⟨ks,_,b,o,xs,n,e,ho,_⟩:=L2.Paired.get hT ei;exact⟨b,o,e,ho⟩
    refine qim (A:=A.in1.in1) (key:=fun i=>kss.getD i []) (h0:=s.heap) (Pv:=(·∈vs)) (Walks.list (by simp[hh]) _ l (by rw[sz1];exact qt (Nat.lt_succ_of_lt hlt)) vs.toArray).toS (S:=s.heap.objs.size) ?_ (no _ (qk _)) (fun b hb=>?_) hin
     (fun i v hv=>?_) (fun ms nd hm=>hn ms nd fun q hq=>by
      obtain⟨j,hj,e⟩:=hm q hq;have hk:j<kss.length:=by
       rw[<- L2.Paired.len hT];simpa using hj
      rw[ym,qh hk] at e;rw[<- e];exact yh hk) (by show A.units+1+1+8<_;lia) (vs.toArray.size - 0) 0 _ [] rfl (yj _) ⟨⟨_,qD _ rfl,rfl,rfl⟩,hl1.push _⟩ kp2 (qel (qd _ hS)) (fun q=>by simp) (yj _) fun s' ms hm k2 S2 mem2 _=>?_
    .rw [sz1];simp only[qF,List.not_mem_nil,or_false,not_or];exact⟨qt (yZ _),Nat.ne_of_gt hlt⟩
    .rw [qJ.mp hb,sz1];exact no _ (Nat.le_succ _)
    .have hv':vs[i]?=some v:=by simpa using hv
     have hi:i<vs.length:=(qC.mp hv').1;have:=j9 hT i hi;rw[ym,hv'] at this;exact⟨this,List.mem_of_getElem? hv'⟩
    .obtain ⟨h',g',d',tk',os'⟩:=s';have e1:g'=s.gens:=hm.gens;have e2:d'=s.drawn:=hm.drawn;have e3:os'=s.os:=hm.os;subst e1;subst e2;subst e3;refine qf ?_;refine qf ⟨rfl,h',tk',ms,rfl,S2,fun q=>?_,k2⟩;rw[mem2 q,qB,L2.Paired.len hT];constructor
     .rintro ⟨j,hj,e⟩;rw[ym,qh hj] at e;exact e ▸ yh hj
     .intro hq;obtain⟨j,hj,e⟩:=List.getElem_of_mem hq;exact⟨j,hj,by rw[ym,qh hj];exact e⟩
   .cases ra2 with
    | error e=>exact hr2
    | ok fal2 =>
     cases fal2 with
     | next=>exact hr2.elim
     | brk=>exact hr2.elim
     | cont=>exact hr2.elim
     | ret r =>
      obtain⟨rfl,h',tk,ms,rfl,q1,q2,q3⟩:=hr2
      repeat (any_goals first | assumption | wp_step)
      exact h _ _ _ q1 q2 q3
theorem qa7 [DecidableEq α]:∀ {ms kss:List α},ms.Nodup->(∀ q∈ms,q∈kss)->ms.length<=kss.length
 | [],_,_,_=>yj _
 | a::ms,kss,hn,h=>by
  have ha:=h a qj;have h1:=qa7 (ms:=ms) (kss:=kss.erase a) (yx.mp hn).2 (fun q hq=>by
   have hne:q≠a:=fun z=>(yx.mp hn).1 (z ▸ hq);exact (List.mem_erase_of_ne hne).mpr (h q (qe _ hq)))
  rw[List.length_erase_of_mem ha] at h1;have:=List.length_pos_of_mem ha;simp only[qU];lia
end L2
namespace L2
open W SetTable
variable {es:Array (Int×Value)}{slot:Nat}
theorem Ji:Slot "set_iterator" "__next__" "set_iterator.__next__" :=
 .of (owner := "set_iterator") (n := "__next__") (by rw[typeLookup_type,builtinLookup_eq_fast];kernel_rfl) 'k' 'k' 'k' (by first | exact .inl 'k' | exact .inr 'k') (by rw[isSubtype_type];kernel_rfl)
theorem ZG:Slot "set_iterator" "__iter__" "set_iterator.__iter__" :=
 .of (owner := "set_iterator") (n := "__iter__") (by rw[typeLookup_type,builtinLookup_eq_fast];kernel_rfl) 'k' 'k' 'k' (by first | exact .inl 'k' | exact .inr 'k') (by rw[isSubtype_type];kernel_rfl)
theorem qbL:entryFor table "set_iterator.__next__" = some Builtin.«set_iterator.__next__»:=entryFor_of_fast (by kernel_rfl)
theorem qbM:entryFor table "set_iterator.__iter__" = some Builtin.«dict_keyiterator.__iter__»:=entryFor_alias (id' := "dict_keyiterator.__iter__") (by kernel_rfl) rfl 'k' (by kernel_rfl)
theorem qcY (a:Value):argsOk "set_iterator.__next__" ⟨[a],[]⟩:=by unfold argsOk;kernel_rfl
theorem qcZ (a:Value):argsOk "set_iterator.__iter__" ⟨[a],[]⟩:=by unfold argsOk;kernel_rfl
theorem qcB:entryFor table "set.__iter__" = some Builtin.«frozenset.__iter__»:=entryFor_alias (id' := "frozenset.__iter__") (by kernel_rfl) rfl 'k' (by kernel_rfl)
theorem qff {l:List α}(h:i<l.length):(l[i]::l.eraseIdx i).Perm l:=by
 rw[List.eraseIdx_eq_take_drop_succ];have e:l=l.take i++l[i]::l.drop (i+1):=by rw[<- List.drop_eq_getElem_cons h,q9]
 exact List.perm_middle.symm.trans (List.Perm.of_eq e.symm)
theorem qgk (next:Nat->Nat):∀ (fu k:Nat) (left:List α) (out:Array α),left.length=fu->(pickOrder.go next fu k left out).toList.Perm (out.toList++left)
 | 0,k,left,out,h=>by
  cases List.length_eq_zero_iff.mp h
  simp[pickOrder.go]
 | fu+1,k,left,out,h=>by
  unfold pickOrder.go;have hlt:next k % left.length<left.length:=Nat.mod_lt _ 'l'
  simp only[qh hlt];have ih:=qgk next fu (k+1) (left.eraseIdx (next k % left.length)) (out.push left[next k % left.length]) (by rw[List.length_eraseIdx_of_lt hlt];lia)
  refine ih.trans ?_;rw[jc,qm];exact List.Perm.append_left _ (qff hlt)
def qbv (w:World) (S:Addr) (ep:Nat) (es:Array (Int×Value)):Array (Int×Value):=if Je w=true then pickOrder (w.params.setOrder S ep) es else es
theorem qao (w:World) (S:Addr) (ep:Nat) (es:Array (Int×Value)):(qbv w S ep es).toList.Perm es.toList:=by
 unfold qbv;split
 .have:=qgk (w.params.setOrder S ep) es.size 0 es.toList #[] 's';have this:(pickOrder.go (w.params.setOrder S ep) es.size 0 es.toList #[]).toList.Perm es.toList:=by simpa using this
  exact this
 .exact List.Perm.refl _
theorem Yo (w:World) (S:Addr) (ep:Nat) (es:Array (Int×Value)):(qbv w S ep es).size=es.size:=by
 have:=(qao w S ep es).length_eq;simpa using this
theorem qdj {R:α->β->Prop}{xs xs':List α}(p:xs.Perm xs'):∀ {ys:List β},PySem.Paired R xs ys->∃ ys',PySem.Paired R xs' ys'/\ys.Perm ys':=by
 induction p with
 | nil=>intro ys h;exact⟨ys,h,List.Perm.refl _⟩
 | cons x _ ih =>
  intro ys h;cases h with
  | cons r t =>
   obtain⟨zs,h1,h2⟩:=ih t;exact⟨_,.cons r h1,h2.cons _⟩
 | swap x y l =>
  intro ys h;cases h with
  | cons r t =>
   cases t with
   | cons r' t'=>exact⟨_,.cons r' (.cons r t'),List.Perm.swap ..⟩
 | trans _ _ ih1 ih2 =>
  intro ys h;obtain⟨y1,a1,b1⟩:=ih1 h;obtain⟨y2,a2,b2⟩:=ih2 a1;exact⟨y2,a2,b1.trans b2⟩
section
variable {o:Obj}{t:SetTable}
structure SetB (w:World) (h:Heap) (a:Addr) (o:Obj) (es:Array (Int×Value)) (ep:Nat) (t:SetTable) (m:Nat):Prop where
 ho:h.get? a=some o
 ex:o.ExactSet
 hd:o.data = .set es ep t
 fits:t.fits es.size=true
 pl:t.plain=true
 ld:t.led=!Je w
 tab:Tab t m es.size
theorem SetD.toB (D:SetD prog w Pv s.heap a o es ep t m kss):SetB w s.heap a o es ep t m:=⟨D.ho,D.ex,D.hd,D.fits,D.pl,D.ld,D.si.tab⟩
theorem SetB.at (B:SetB w h a o es ep t m) (k:h.get? a=some o->h'.get? a=some o):SetB w h' a o es ep t m:=⟨k B.ho,B.ex,B.hd,B.fits,B.pl,B.ld,B.tab⟩
theorem qkR (D:SetB w s.heap a o es ep t m) {Q:Array (Int×Value)->Shared->Prop}(q:Q (qbv w a ep es) s):wpAny 'm' A (setWalk a) Q E s:=by
 unfold setWalk setsByText;refine qa (ja D.ho D.hd D.fits ?_);dsimp only;refine qa (qa (Jr (qf ?_)));show wpAny _ _ (if Je w=true then _ else _) _ _ _;cases hb:Je w with
 | true =>
  rw[if_pos rfl];refine qa (Jr (qf ?_));unfold qbv at q;rw[if_pos hb] at q;exact q
 | false =>
  unfold qbv at q;rw[if_neg (by rw[hb];decide)] at q;have hled:t.led=true:=by rw[D.ld,hb];rfl
  rw[if_neg 'd'];show wpAny _ _ (if (!t.plain && decide (es.size > 1))=true then _ else _) _ _ _;rw[if_neg (by rw[D.pl];simp)];refine qa (show wpAny _ _ (if (!t.led && decide (es.size > 1))=true then _ else _) _ _ _ from ?_);rw[if_neg (by rw[hled];simp)];exact qf (qf q)
theorem qlR (D:SetB w s.heap a o es ep t m) (hb:Je w=false->below t.place slot=i) {Q:Option (Value×Nat)->Shared->Prop}
  (q:∀ nx,(Je w=false->i<es.size->below t.place nx=i+1)->Q (((qbv w a ep es)[i]?).map fun e=>(e.2,nx)) s):wpAny 'm' A (setNext a slot i ep) Q E s:=by
 unfold setNext setsByText;refine qa (ja D.ho D.hd D.fits ?_);dsimp only;refine qa (qa (Jr (qf ?_)));show wpAny _ _ (if Je w=true then _ else _) _ _ _;cases hb':Je w with
 | true =>
  rw[if_pos rfl,if_neg 's'];refine qa (qkR D (qf (q slot fun z=>?_)));rw[hb'] at z;cases z
 | false =>
  have hled:t.led=true:=by rw[D.ld,hb'];rfl
  rw[if_neg 'd'];show wpAny _ _ (if (!t.plain && decide (es.size > 1))=true then _ else _) _ _ _;rw[if_neg (by rw[D.pl];simp)];refine qa (show wpAny _ _ (if (!t.led && !es.isEmpty)=true then _ else _) _ _ _ from ?_);rw[if_neg (by rw[hled];simp)];refine qf ?_;rw[hb hb'];have T:=D.tab;have eo:qbv w a ep es=es:=by unfold qbv;rw[if_neg (by rw[hb'];decide)]
  rw[eo] at q;refine qf ?_;by_cases hi:i<es.size
  .have hp:t.place[i]?=some (t.place.getD i 0):=getD_some (by rw[T.size];exact hi);have he:es[i]?=some es[i]:=by simp[hi]
   have nx:=q (t.place.getD i 0+1) fun _ _=>by
    obtain⟨b1,b2,b3⟩:=JV T.rise (t.place.getD i 0+1);rw[T.size] at b2 b3;rcases Nat.lt_trichotomy (below t.place (t.place.getD i 0+1)) (i+1) with z | z | z
    .have:=b2 i 'l' hi;lia
    .exact z
    .have c:=b1 (i+1) z;have d:=T.rise i (i+1) 'l' (by rw[T.size];lia);lia
   rw[he] at nx;rw[hp,he];exact nx
  .have he:es[i]?=none:=by simp;lia
   have nx:=q 0 fun _ z=>absurd z hi;rw[he] at nx;rw[he];exact nx
end
def SIt (h:Heap) (I S:Addr) (slot i n ep:Nat):Prop:=∃ o,h.get? I=some o/\o.cls = .type "set_iterator" /\ o.data = .fields #[.int slot 0,.int i 0,.ref S,.int n 0,.int ep 0]
theorem SIt.typeIs (h:SIt s.heap I S slot i n ep):s.TypeIs (.ref I) "set_iterator" := let ⟨o,ho,hc,_⟩:=h;⟨o,ho,hc⟩
section
variable {o:Obj}{t:SetTable}
structure StS (w:World) (h:Heap) (I S:Addr) (o:Obj) (es:Array (Int×Value)) (ep:Nat) (t:SetTable) (m i:Nat):Prop where
 it:∃ slot,SIt h I S slot i es.size ep/\(Je w=false->i<=es.size->below t.place slot=i)
 st:SetB w h S o es ep t m
theorem qg9 (hI:I≠S) (st:StS w s.heap I S o es ep t m i) (hi:i<=es.size) {Q:Option Value->Shared->Prop}
  (hit:∀ e h',(qbv w S ep es)[i]?=some e->StS w h' I S o es ep t m (i+1)->(∀ b ob,b≠I->s.heap.get? b=some ob->h'.get? b=some ob)->Q (some e.2) { s with heap:=h' })
  (hend:i=es.size->A.handled=none/\∀ h',(∀ b ob,b≠I->s.heap.get? b=some ob->h'.get? b=some ob)->Q none { s with heap:=h' }):wpAny 'm' A (pyNext (.ref I)) Q E s:=by
 obtain⟨⟨slot,hs,hb⟩,B⟩:=st;obtain⟨oi,hoi,hci,hdi⟩:=id hs;unfold pyNext;refine qa (wpAny_attempt (wpAny_callSpecial?_slot (name:=Str.ofString "__next__") hs.typeIs Ji (Jq Ji hs.typeIs qbL ?_ (qcY _))));unfold Builtin.«set_iterator.__next__»;refine qa (m:=slotArgs "__next__" 0 ⟨[.ref I],[]⟩) (qf ?_);dsimp only;refine qa (wpAny_fieldsOf hoi hdi ?_);dsimp only;refine qa (wpAny_setEntries_of B.ho B.hd B.fits ?_);rw[if_neg 's'];refine qa ?_;simp only[Int.toNat_natCast];refine qlR B (fun z=>hb z hi) fun nx hnx=>?_;by_cases hlt:i<es.size
 .have hlt':i<(qbv w S ep es).size:=by rw[Yo];exact hlt
  have eq:(qbv w S ep es)[i]?=some (qbv w S ep es)[i]:=by simp[hlt']
  rw[eq];dsimp only[Option.map_some];refine qa (wpAny_setField hoi hdi 's' ?_);have h1:=jh (Obj.mapFields (·.setIfInBounds 0 (rawInt nx))) hoi (Obj.isFreed_of_fields (Obj.data_mapFields hdi _));have d1:=Obj.data_mapFields hdi (·.setIfInBounds 0 (rawInt (nx:Int)));refine qa (wpAny_setField h1 d1 's' (qf ⟨_,rfl,qf ?_⟩));have h2:=jh (Obj.mapFields (·.setIfInBounds 1 (rawInt ((i:Int)+1)))) h1 (Obj.isFreed_of_fields (Obj.data_mapFields d1 _));have kp:∀ b ob,b≠I->s.heap.get? b=some ob->((s.heap.update I (Obj.mapFields (·.setIfInBounds 0 (rawInt nx)))).update I (Obj.mapFields (·.setIfInBounds 1 (rawInt ((i:Int)+1))))).get? b=some ob:=fun b ob hb e =>
   (yt _ _ (Ne.symm hb)).trans ((yt _ _ (Ne.symm hb)).trans e)
  refine hit _ _ eq ⟨⟨nx,⟨_,h2,?_,?_⟩,fun z _=>hnx z hlt⟩,B.at (kp S _ (Ne.symm hI))⟩ kp
  .rw [Obj.cls_mapFields,Obj.cls_mapFields];exact hci
  .rw [Obj.data_mapFields d1];simp[rawInt]
 .have he:i=es.size:=by lia
  obtain⟨hh,hq⟩:=hend he;have eq:(qbv w S ep es)[i]?=none:=by simp[Yo];lia
  rw[eq];dsimp only[Option.map_none];refine qa (wpAny_setField hoi hdi 's' ?_);refine qa ?_;simp only[newExc,newTuple];refine qa (jy ?_ (by size_fits));refine qa (m:=firstArgMember _ _) (wpAny_of_eq (a:=Value.none) (by first | rfl | (simp only[firstArgMember];rfl)) ?_);refine jy ?_ (by size_fits);simp only[raiseNew];refine qa (wpAny_handled ?_);rw[show A.in1.handled=none from hh];refine qa (qf (wpAny_throw ?_));refine qa (wpAny_isInstance (T := "StopIteration") (b:=true) ⟨_,qD _ rfl,rfl⟩ isSubtype_stop ?_);refine qf (hq _ fun b ob hb e=>?_);exact qd _ (qd _ ((yt _ _ (Ne.symm hb)).trans e))
theorem qfz (hh:A.handled=none) (hI:I≠S):Walks prog w A I [I,S] [I] es.size (fun i v=>((qbv w S ep es)[i]?).map (·.2)=some v) (fun i h=>StS w h I S o es ep t m i) where
 sub:=fun b hb=>by simp at hb;simp[hb]
 frame:=fun i h h' st hk=>by
  obtain⟨⟨slot,⟨oi,e1,e2⟩,hb⟩,B⟩:=st;exact⟨⟨slot,⟨oi,hk I 's' _ e1,e2⟩,hb⟩,B.at (hk S 's' _)⟩
 item:=fun i s Q E hi st hQ=>qg9 hI st 'l' (fun e h' eo st' kp=>hQ e.2 h' s.toks (by rw[eo];rfl) st' fun b ob hb=>kp b ob fun z=>hb (by simp[z])) fun z=>absurd z 'l'
 done:=fun s Q E st hQ=>qg9 hI st (qk _) (fun e h' eo _ _=>by
  have:(qbv w S ep es)[es.size]?=none:=by simp[Yo]
  rw[this] at eo;cases eo) fun _=>⟨hh,fun h' kp=>hQ h' s.toks fun b ob hb=>kp b ob fun z=>hb (by simp[z])⟩
 self:=fun i s Q E st hQ=>by
  obtain⟨⟨slot,hs,hb⟩,B⟩:=st;refine wpAny_pyIter_slot hs.typeIs ZG (Jq ZG hs.typeIs qbM ?_ (qcZ _));show wpAny _ _ (ret (.ref I)) _ _ s;exact qf ⟨_,rfl, "set_iterator",_,hs.typeIs,Ji.lookup,hQ⟩
theorem qja (B:SetB w s.heap S o es ep t m) {Q:Value->Shared->Prop}(q:∀ h',JW s.heap h'->StS w h' s.heap.objs.size S o es ep t m 0->h'.objs.size=s.heap.objs.size+1->Q (.ref s.heap.objs.size) { s with heap:=h' }):wpAny 'm' A (pyIter (.ref S)) Q E s:=by
 have hT:s.TypeIs (.ref S) "set" := ⟨o,B.ho,B.ex.1⟩;refine wpAny_pyIter_slot hT F.slot_set_iter (Jq F.slot_set_iter hT qcB ?_ (F.args_set_iter_1 _));unfold Builtin.«frozenset.__iter__» Builtin.Frozenset.slot0;refine qa (qa (m:=slotArgs "__iter__" 0 ⟨[.ref S],[]⟩) (qf (qf ?_)));unfold Builtin.Frozenset.sizeOf setDrawn setsByText setEpoch;refine qa (qa (wpAny_setEntries_of B.ho B.hd B.fits (qf ?_)));refine qa (qa (ja B.ho B.hd B.fits ?_));dsimp only;refine qa (qa (Jr (qf (qf ?_))));rw[if_neg (by show ¬ ((!Je w && (!t.plain && decide (es.size > 1)))=true);rw[B.pl];simp)];refine qa (qf ?_);refine qa (qa (ja B.ho B.hd B.fits (qf ?_)));refine qa (jy (qf ⟨_,rfl, "set_iterator",_,⟨_,qD _ rfl,rfl⟩,Ji.lookup,q _ (fun b ob e=>qd _ e) ⟨⟨0,⟨_,qD _ rfl,rfl,rfl⟩,fun _ _=>?_⟩,B.at (qd _)⟩ (Heap.size_push ..)⟩));obtain⟨b1,b2,b3⟩:=JV B.tab.rise 0;rcases Nat.eq_zero_or_pos (below t.place 0) with z | z
 .exact z
 .exact absurd (b1 0 z) 'l'
theorem qdN (hh:A.handled=none) (B:SetB w s.heap S o es ep t m) (hz:es.size<4915) {Q:List Value->Shared->Prop}(hQ:∀ h' tk,JW s.heap h'->Q ((qbv w S ep es).toList.map (·.2)) { s with heap:=h',toks:=tk }):wpAny 'm' A (collect (.ref S)) Q E s:=by
 have hlt:S<s.heap.objs.size:=qo B.ho;unfold collect;refine qa (wpAny_runValue (codeAny_builtin F.entry_proto_collect ?_));rw[Around.under_plainId F.plain_proto_collect _];refine qa (m:=newList []) (jy ?_);refine qf ⟨plainId_quiet F.plain_list_iadd _,codeAny_builtin F.entry_list_iadd ?_⟩;rw[Around.under_plainId F.plain_list_iadd _];have B1:SetB w (s.heap.push { cls:=.type "list",data:=.seq ([]:List Value).toArray }) S o es ep t m:=B.at (qd _);have hL:(s.heap.push { cls:=.type "list",data:=.seq ([]:List Value).toArray }).get? s.heap.objs.size=some { cls:=.type "list",data:=.seq ([]:List Value).toArray }:=qD _ rfl;have kp1:JW s.heap (s.heap.push { cls:=.type "list",data:=.seq ([]:List Value).toArray }):=fun b ob e=>qd _ e;have sz1:(s.heap.push { cls:=.type "list",data:=.seq ([]:List Value).toArray }).objs.size=s.heap.objs.size+1:=Heap.size_push ..;show wpAny 'm' A.in1 (Builtin.List.listExtendWith (.ref s.heap.objs.size) (.ref S) (.ref s.heap.objs.size)) _ _ { s with heap:=s.heap.push { cls:=.type "list",data:=.seq ([]:List Value).toArray } };generalize s.heap.push { cls:=.type "list",data:=.seq ([]:List Value).toArray }=h1 at *;have hT:Shared.TypeIs { s with heap:=h1 } (.ref S) "set" := ⟨o,B1.ho,B1.ex.1⟩;have ne:Builtin.List.listSameRef (.ref s.heap.objs.size) (.ref S)=false:=by simp only[Builtin.List.listSameRef];exact beq_false_of_ne (Nat.ne_of_gt hlt)
 unfold Builtin.List.listExtendWith;refine qa (wpAny_typeOf hT ?_);rw[if_neg (by rw[ne];decide)];refine qa (qja (s:={ s with heap:=h1 }) B1 fun h2 kp2 st2 sz2=>?_);have hT2:Shared.TypeIs { s with heap:=h2 } (.ref S) "set" := ⟨o,st2.st.ho,B1.ex.1⟩;have hL2:=kp2 _ _ hL;refine qa (yq ?_);unfold Builtin.List.listLengthHint;refine qa (wpAny_specialOf hT2 F.slot_set_len.lookup ?_);generalize hid:("set.__len__" : String)=id0
 wp_delta
 rw[show splitId id0=some ("set", "__len__") from by subst hid;decide +kernel];subst hid;refine qa (wpAny_isInstance (b:=true) hT2 sub_set_self ?_);refine qa (m:=typeOf (.ref S)) (wpAny_typeOf hT2 (qf ?_));show wpAny 'm' A.in1 (rule "list.extend.makes-room" >>= fun _=>Builtin.List.listTouch (.ref s.heap.objs.size) >>= fun _=>again (.builtin "list.extend.loop" ⟨[.ref s.heap.objs.size,.ref h1.objs.size,.ref s.heap.objs.size],[]⟩)) _ _ _;refine qa (Jy (qa ?_));show wpAny 'm' A.in1 (updateSeq s.heap.objs.size (·.push .none) >>= fun _=>updateSeq s.heap.objs.size (·.pop)) _ _ _;refine qa (wpAny_updateSeq hL2 rfl ?_);have hL3:=jh (Obj.mapSeq (·.push Value.none)) hL2 rfl;refine wpAny_updateSeq hL3 rfl ?_;have hL4:=jh (Obj.mapSeq (·.pop)) hL3 rfl;have oth:∀ b ob,b≠s.heap.objs.size->h2.get? b=some ob->((h2.update s.heap.objs.size (Obj.mapSeq (·.push Value.none))).update s.heap.objs.size (Obj.mapSeq (·.pop))).get? b=some ob :=
  fun b ob hb e=>(yt _ _ (Ne.symm hb)).trans ((yt _ _ (Ne.symm hb)).trans e)
 have hI:h1.objs.size≠S:=fun z=>by
  have:=qo B1.ho;rw[<- z] at this;exact yz _ this
 have hIL:h1.objs.size≠s.heap.objs.size:=by rw[sz1];exact Nat.ne_of_gt (yZ _)
 have W:WalksS prog w A.in1 h1.objs.size [h1.objs.size,S] [h1.objs.size] (fun a b=>b=a) es.size (fun i v=>((qbv w S ep es)[i]?).map (·.2)=some v) (fun i s=>StS w s.heap h1.objs.size S o es ep t m i):=(qfz (A:=A.in1) hh hI).toS;refine qf ⟨plainId_quiet F.plain_extend_loop _,codeAny_extend_loopS W (by rw[sizeLine_eq];lia) s.heap.objs.size (fun hm=>?_) _ es.size 0 _ _ _ rfl (yj _) ?_ hL4 (ItemsOf.nil _) fun s' acc' c' hm hS' hacc=>?_⟩
 .rcases qF.mp hm with z | z
  .exact hIL z.symm
  .exact Nat.ne_of_gt hlt (qJ.mp z)
 .obtain ⟨⟨slot,⟨oi,e1,e2⟩,hb⟩,B2⟩:=st2;exact⟨⟨slot,⟨oi,oth _ _ hIL e1,e2⟩,hb⟩,B2.at (oth _ _ (qt hlt))⟩
 .refine qa (m:=load s.heap.objs.size) (wpAny_load hS' ?_);have kp:JW s.heap s'.heap:=fun b ob e=>by
   have hb:b<s.heap.objs.size:=qo e;refine hm.heap b ob (fun z=>?_) (oth b ob (qt hb) (kp2 _ _ (kp1 _ _ e)));rcases qF.mp z with z | z
   .exact qt hb z
   .rw [qJ.mp z,sz1] at hb;exact absurd hb (Nat.not_lt.mpr (Nat.le_succ _))
  have ea:acc'.toList=(qbv w S ep es).toList.map (·.2):=by
   apply List.ext_getElem?;intro i;rw[qY,qA,qA];cases z:acc'[i]? with
   | some v=>exact (hacc.2 i v z).symm
   | none =>
    have:acc'.size<=i:=by simpa using z
    rw[hacc.1,<- Yo w S ep es] at this;rw[yC this];rfl
  have fin:=hQ s'.heap s'.toks kp;rw[<- ea] at fin;obtain⟨h',g',d',tk',os'⟩:=s';have e1:g'=s.gens:=hm.gens;have e2:d'=s.drawn:=hm.drawn;have e3:os'=s.os:=hm.os;subst e1;subst e2;subst e3;exact qf fin
end
end L2
namespace L2
open W SetTable
section
variable {Pv':Value->Prop}{S1 S2:Addr}{k1 k2:List (List Int)}
end
end L2
namespace L2
variable {p:Addr}{g:Int->Int->Int}{y:V}
mutual
theorem Is.same {K:W.Frag}{H H':Hp}(s:yr H H'):∀ {v:V}{d:PyData},Is K H v d->Is K H' v d
 | _,_,.non=>.non
 | _,_,.bl b=>.bl b
 | _,_,.int i=>.int i
 | _,_,.str x=>.str x
 | _,_,.lst h hs=>.lst (yr.seq s h) (IsAll.same s hs)
 | _,_,.tup h hs=>.tup (by
   rcases h with (e | ⟨o,e⟩) | e
   .exact .inl (.inl (s _ _ e))
   .exact .inl (.inr ⟨o,s _ _ e⟩)
   .exact .inr e) (IsAll.same s hs)
 | _,_,.dc h=>.dc (s _ _ h)
theorem IsAll.same {K:W.Frag}{H H':Hp}(s:yr H H'):∀ {vs:List V}{ds:List PyData},IsAll K H vs ds->IsAll K H' vs ds
 | _,_,.nil=>.nil
 | _,_,.cons h hs=>.cons (Is.same s h) (IsAll.same s hs)
end
theorem IsAll.len : ∀ {vs:List V}{ds:List PyData},IsAll K H vs ds->vs.length=ds.length
 | _,_,.nil=>rfl
 | _,_,.cons _ hs=>by simp[IsAll.len hs]
theorem IsAll.get : ∀ {vs:List V}{ds:List PyData}{i:Nat}{v:V},IsAll K H vs ds->vs[i]?=some v->∃ d,ds[i]?=some d/\Is K H v d
 | _,_,_,_,.nil,e=>by simp at e
 | _,_,0,_,.cons h _,e=>by simp at e;subst e;exact⟨_,rfl,h⟩
 | _,_,i+1,v,.cons _ t,e=>by
  obtain⟨u,h1,h2⟩:=IsAll.get (i:=i) (v:=v) t (by simpa using e);exact⟨u,by simpa using h1,h2⟩
theorem IsAll.get' : ∀ {vs:List V}{ds:List PyData}{i:Nat}{d:PyData},IsAll K H vs ds->ds[i]?=some d->∃ v,vs[i]?=some v/\Is K H v d
 | _,_,_,_,.nil,e=>by simp at e
 | _,_,0,_,.cons h _,e=>by simp at e;subst e;exact⟨_,rfl,h⟩
 | _,_,i+1,v,.cons _ t,e=>by
  obtain⟨u,h1,h2⟩:=IsAll.get' (i:=i) (d:=v) t (by simpa using e);exact⟨u,by simpa using h1,h2⟩
theorem IsAll.snoc {d:PyData}(h:Is K H v d):∀ {vs:List V}{ds:List PyData},IsAll K H vs ds->IsAll K H (vs++[v]) (ds++[d])
 | _,_,.nil=>.cons h .nil
 | _,_,.cons a b=>.cons a (IsAll.snoc h b)
theorem IsAll.app {us:List V}{es:List PyData}(h:IsAll K H us es):∀ {vs:List V}{ds:List PyData},IsAll K H vs ds->IsAll K H (vs++us) (ds++es)
 | _,_,.nil=>h
 | _,_,.cons a b=>.cons a (IsAll.app h b)
theorem IsAll.drop : ∀ {vs:List V}{ds:List PyData}(n:Nat),IsAll K H vs ds->IsAll K H (vs.drop n) (ds.drop n)
 | _,_,0,h=>h
 | _,_,_+1,.nil=>.nil
 | _,_,n+1,.cons _ t=>IsAll.drop n t
theorem IsAll.take : ∀ {vs:List V}{ds:List PyData}(n:Nat),IsAll K H vs ds->IsAll K H (vs.take n) (ds.take n)
 | _,_,0,h=>.nil
 | _,_,_+1,.nil=>.nil
 | _,_,n+1,.cons h t=>.cons h (IsAll.take n t)
theorem IsAll.ints_of : ∀ {vs:List V}{ns:List Int},IsAll K H vs (ns.map PyData.int)->vs=ns.map V.int
 | _,[],.nil=>rfl
 | _,_::_,.cons h t=>by cases h;rw[IsAll.ints_of t];rfl
theorem IsAll.bools_of : ∀ {vs:List V}{ns:List Bool},IsAll K H vs (ns.map PyData.bool)->vs=ns.map V.bl
 | _,[],.nil=>rfl
 | _,_::_,.cons h t=>by cases h;rw[IsAll.bools_of t];rfl
structure Stb where
 R:V->Hp->Prop
 st:∀ v H H',yr H H'->R v H->R v H'
inductive En where
 | d (x:PyData)
 | m (a:Addr)
 | x (r:Stb)
 | ty (n:String)
structure MSt where
 R:Hp->HO->Prop
 st:∀ H H' u,yr H H'->R H u->R H' u
 nt:∀ H u xs,R H u->u≠.tup xs
 ml:∀ H H' a xs u,H a=some (.lst xs)->(∀ b o,H b=some o->b≠a->H' b=some o)->R H u->R H' u
inductive MO where
 | any (r:MSt)
 | pot (M:Int)
 | lst (ds:List PyData)
 | refs (as:List Addr)
 | dct (ks:List (List Int))
  | nmd (xs:List (Str×PyData))
  | ins (C dx:Addr) (fs:List (Str×En))
abbrev Mu:=List (Addr×MO)
def mask (U:Mu) (H:Hp):Hp:=fun a=>if a∈U.map Prod.fst then none else H a
theorem yO {U:Mu}:yr (mask U H) H:=fun b o e=>by
 unfold mask at e;split at e
 .cases e
 .exact e
theorem Yq {U:Mu}{o:HO}(e:mask U H b=some o):b∉U.map Prod.fst/\H b=some o:=by
 unfold mask at e;split at e
 .cases e
 .exact ⟨by assumption,e⟩
theorem yN {U:Mu}(h:b∉U.map Prod.fst):mask U H b=H b:=by unfold mask;rw[if_neg h]
theorem qeo {U U':Mu}(h:∀ a,a∈U'.map Prod.fst->a∈U.map Prod.fst):yr (mask U H) (mask U' H):=fun b o e=>by
 obtain⟨h1,h2⟩:=Yq e;rw[yN (fun z=>h1 (h _ z))];exact h2
def IsE (K:W.Frag) (U:Mu) (H:Hp) (v:V):En->Prop
 | .d x=>Is K (mask U H) v x
 | .m a=>v = .ref a
 | .x r=>r.R v (mask U H)
 | .ty n=>v = .ty n
theorem IsE.same {U U':Mu}{e:En}(s:yr (mask U H) (mask U' H')) (h:IsE K U H v e):IsE K U' H' v e:=by
 cases e with
 | d x=>exact Is.same s h
 | m a=>exact h
 | x r=>exact r.st _ _ _ s h
 | ty n=>exact h
def qhZ (K:W.Frag) (U:Mu) (H:Hp) (x:Str×V) (y:Str×En):Prop:=x.1=y.1/\IsE K U H x.2 y.2
theorem qhZ.all {U U':Mu}(s:yr (mask U H) (mask U' H')):∀ {vs:List (Str×V)}{fs:List (Str×En)},PySem.Paired (qhZ K U H) vs fs->PySem.Paired (qhZ K U' H') vs fs
 | _,_,.nil=>.nil
 | _,_,.cons h t=>.cons ⟨h.1,h.2.same s⟩ (qhZ.all s t)
def NmR (K:W.Frag) (H:Hp) (x:Key×V) (y:Str×PyData):Prop:=x.1=Sum.inr y.1/\Is K H x.2 y.2
def qkN (K:W.Frag) (U:Mu) (H:Hp) (a:Addr):MO->Prop
 | .any r=>∃ u,H a=some u/\r.R (mask U H) u
 | .pot M=>Pot M H a
 | .lst ds=>∃ xs,H a=some (.lst xs)/\IsAll K (mask U H) xs ds
 | .refs as=>H a=some (.lst (as.map V.ref))
 | .dct ks=>H a=some (.dT (ks.map fun ns=>(ns.map Sum.inl,V.bl true)))
 | .nmd xs=>∃ kvs:List (Key×V),H a=some (.dK kvs)/\PySem.Paired (NmR K (mask U H)) kvs xs
 | .ins C dx fs=>∃ vs,H a=some (.ins C dx vs)/\PySem.Paired (qhZ K U H) vs fs
theorem qkN.some {U:Mu}{o:MO}(h:qkN K U H a o):∃ u,H a=some u:=by
 cases o with
 | any r=>obtain⟨u,e,_⟩:=h;exact⟨_,e⟩
 | pot M=>obtain⟨p0,p1,e,_⟩:=h;exact⟨_,e⟩
 | lst ds=>obtain⟨xs,e,_⟩:=h;exact⟨_,e⟩
 | refs as=>exact⟨_,h⟩
 | dct kvs=>exact⟨_,h⟩
 | nmd xs=>obtain⟨vs,e,_⟩:=h;exact⟨_,e⟩
 | ins C dx fs=>obtain⟨vs,e,_⟩:=h;exact⟨_,e⟩
structure RelM (K:W.Frag) (U:Mu) (H:Hp):Prop where
 nd:(U.map Prod.fst).Nodup
 ob:∀ a o,(a,o)∈U->qkN K U H a o
theorem qkN.same {U U':Mu}{o:MO}(s:yr (mask U H) (mask U' H')) (e:H' a=H a) (h:qkN K U H a o):qkN K U' H' a o:=by
 cases o with
 | any r=>obtain⟨u,q,z⟩:=h;exact⟨u,e.trans q,r.st _ _ _ s z⟩
 | pot M=>obtain⟨p0,p1,q,r⟩:=h;exact⟨p0,p1,e.trans q,r⟩
 | lst ds=>obtain⟨xs,q,r⟩:=h;exact⟨xs,e.trans q,IsAll.same s r⟩
 | refs as=>exact e.trans h
 | dct kvs=>exact e.trans h
 | nmd xs=>obtain⟨vs,q,r⟩:=h;exact⟨vs,e.trans q,Paired.mapP r fun _ _ z=>⟨z.1,Is.same s z.2⟩⟩
 | ins C dx fs=>obtain⟨vs,q,r⟩:=h;exact⟨vs,e.trans q,qhZ.all s r⟩
theorem RelM.same {U:Mu}(h:RelM K U H) (s:yr H H'):RelM K U H'/\yr (mask U H) (mask U H'):=by
 have ss:yr (mask U H) (mask U H'):=fun b o e=>by
  obtain⟨h1,h2⟩:=Yq e;rw[yN h1];exact s _ _ h2
 refine⟨⟨h.nd,fun a o ho=>?_⟩,ss⟩;have:=h.ob a o ho;obtain⟨xs,e⟩:=this.some;exact this.same ss ((s _ _ e).trans e.symm)
theorem RelM.laid {U:Mu}{o:HO}(h:RelM K U H) (e:H p=none):RelM K U (upd H p o)/\yr (mask U H) (mask U (upd H p o))/\p∉U.map Prod.fst:=by
 obtain⟨h1,h2⟩:=h.same (yr.upd (o:=o) e);refine⟨h1,h2,fun z=>?_⟩;obtain⟨⟨a,q⟩,hq,rfl⟩:=qu.mp z;obtain⟨xs,e'⟩:=(h.ob a q hq).some;rw[e'] at e;cases e
theorem qgN {U:Mu}{o:MO}(h:(a,o)∈U):a∈U.map Prod.fst:=qu.mpr ⟨_,h,rfl⟩
theorem RelM.write {U1 U2:Mu}{o o':MO}(h:RelM K (U1++(a,o)::U2) H) (k:∀ b u,H b=some u->b≠a->H' b=some u)
  (new:yr (mask (U1++(a,o)::U2) H) (mask (U1++(a,o')::U2) H')->qkN K (U1++(a,o')::U2) H' a o') :
  RelM K (U1++(a,o')::U2) H'/\yr (mask (U1++(a,o)::U2) H) (mask (U1++(a,o')::U2) H'):=by
 have ks:(U1++(a,o')::U2).map Prod.fst=(U1++(a,o)::U2).map Prod.fst:=by simp
 have ss:yr (mask (U1++(a,o)::U2) H) (mask (U1++(a,o')::U2) H'):=fun b u e=>by
  obtain⟨h1,h2⟩:=Yq e;rw[yN (by rw[ks];exact h1)];exact k b u h2 fun z=>h1 (by rw[z];simp)
 refine⟨⟨by rw[ks];exact h.nd,fun b q hq=>?_⟩,ss⟩;have nd:=h.nd;simp only[ye,qP,List.nodup_append,yx] at nd;have hcase:(b,q)=(a,o')\/((b,q)∈U1++(a,o)::U2/\b≠a):=by
  rcases qG.mp hq with z | z
  .exact .inr ⟨q0 _ z,fun e=>nd.2.2 b (qgN z) a 's' e⟩
  .rcases qF.mp z with z | z
   .exact .inl z
   .exact .inr ⟨qg _ (qe _ z),fun e=>nd.2.1.1 (e ▸ qgN z)⟩
 rcases hcase with z | ⟨z,hne⟩
 .cases z;exact new ss
 .have:=h.ob b q z;obtain⟨xs,e⟩:=this.some;exact this.same ss ((k b _ e hne).trans e.symm)
theorem RelM.drop {U1 U2:Mu}{o:MO}(h:RelM K (U1++(a,o)::U2) H):RelM K (U1++U2) H/\yr (mask (U1++(a,o)::U2) H) (mask (U1++U2) H)/\a∉(U1++U2).map Prod.fst:=by
 have nd:=h.nd;have ss:yr (mask (U1++(a,o)::U2) H) (mask (U1++U2) H):=qeo fun b hb=>by
  simp only[ye,qP,qG,qF] at *;rcases hb with z | z
  .exact .inl z
  .exact .inr (.inr z)
 simp only[ye,qP,List.nodup_append,yx] at nd;refine⟨⟨?_,fun b q hq=>?_⟩,ss,?_⟩
 .simp only[ye,List.nodup_append];exact⟨nd.1,nd.2.1.2,fun x hx y hy=>nd.2.2 x hx y (qe _ hy)⟩
 .have:(b,q)∈U1++(a,o)::U2:=by
   rcases qG.mp hq with z | z
   .exact q0 _ z
   .exact qg _ (qe _ z)
  exact (h.ob b q this).same ss rfl
 .simp only[ye,qG,not_or];exact⟨fun z=>nd.2.2 a z a 's' rfl,nd.2.1.1⟩
theorem RelM.new {U:Mu}{u:HO}{o:MO}(h:RelM K U H) (e:H p=none) (new:yr (mask U H) (mask ((p,o)::U) (upd H p u))->qkN K ((p,o)::U) (upd H p u) p o) :
  RelM K ((p,o)::U) (upd H p u)/\yr (mask U H) (mask ((p,o)::U) (upd H p u)):=by
 obtain⟨h1,h2,h3⟩:=h.laid (o:=u) e;have ss:yr (mask U H) (mask ((p,o)::U) (upd H p u)):=fun b q z=>by
  obtain⟨z1,z2⟩:=Yq z;have hb:b≠p:=qQ z2 e;rw[yN (by simp only[qP,qF,not_or];exact⟨hb,z1⟩),qX hb];exact z2
 refine⟨⟨by simp only[qP,yx];exact⟨h3,h.nd⟩,fun b q hq=>?_⟩,ss⟩;rcases qF.mp hq with z | z
 .cases z;exact new ss
 .have:=h.ob b q z;obtain⟨xs,e'⟩:=this.some;exact this.same ss (qX (qQ e' e))
abbrev Rho:=List (Option En)
structure RelS (K:W.Frag) (Y:Rho) (U:Mu) (G:St) (H:Hp):Prop where
 len:Y.length=G.length
 get:∀ (i:Nat) (e:En),Y[i]?=some (some e)->∃ v,G[i]?=some (some v)/\IsE K U H v e
theorem RelS.same {Y:Rho}{U U':Mu}(h:RelS K Y U G H) (s:yr (mask U H) (mask U' H')):RelS K Y U' G H' :=
 ⟨h.len,fun i e q=>let ⟨v,e1,e2⟩:=h.get i e q;⟨v,e1,e2.same s⟩⟩
theorem RelS.set {Y:Rho}{U:Mu}{e:En}(h:RelS K Y U G H) (r:IsE K U H v e):RelS K (Y.set i (some e)) U (G.set i (some v)) H:=by
 refine⟨by simp[h.len],fun j x q=>?_⟩;by_cases hj:i=j
 .subst hj;have hi:i<Y.length:=by
   have:=(qC.mp q).1;simpa using this
  rw[List.getElem?_set_self (by rw[<- h.len];exact hi)];rw[List.getElem?_set_self hi] at q;cases q
  exact⟨v,rfl,r⟩
 .rw [List.getElem?_set_ne hj] at *;exact h.get j x q
def Wk (Y:Rho) (U:Mu) (Y':Rho) (U':Mu):Prop:=∀ (K:W.Frag) (G:St) (H:Hp),RelS K Y U G H->RelM K U H->RelS K Y' U' G H/\RelM K U' H/\yr (mask U H) (mask U' H)
theorem Wk.refl {Y:Rho}{U:Mu}:Wk Y U Y U:=fun _ _ _ h1 h2=>⟨h1,h2,yr.refl _⟩
abbrev TEd:=Rho->Mu->(En->Mu->Prop)->Prop
abbrev TTd:=Rho->Mu->(Bool->Mu->Prop)->Prop
abbrev TAd:=Rho->Mu->(List En->Mu->Prop)->Prop
structure EndsD where
 nx:Rho->Mu->Prop
 rt:En->Mu->Prop
 bk:Rho->Mu->Prop:=fun _ _=>False
 ct:Rho->Mu->Prop:=fun _ _=>False
abbrev TSd:=EndsD->Rho->Mu->Prop
def Cl (K:W.Frag) (U:Mu) (H:Hp) (Q0:En->Mu->Prop) (Q:VK):Prop:=∀ e U' v H',Q0 e U'->RelM K U' H'->yr (mask U H) (mask U' H')->IsE K U' H' v e->Q v H'
def ClT (K:W.Frag) (U:Mu) (H:Hp) (Q0:Bool->Mu->Prop) (Q:Bool->Hp->Prop):Prop:=∀ b U' H',Q0 b U'->RelM K U' H'->yr (mask U H) (mask U' H')->Q b H'
def ClA (K:W.Frag) (U:Mu) (H:Hp) (Q0:List En->Mu->Prop) (Q:List V->Hp->Prop):Prop:=∀ es U' vs H',Q0 es U'->RelM K U' H'->yr (mask U H) (mask U' H')->Paired (IsE K U' H') vs es->Q vs H'
def ClR (K:W.Frag) (U:Mu) (H:Hp) (Q0:Rho->Mu->Prop) (Q:St->Hp->Prop):Prop:=∀ Y' U' G' H',Q0 Y' U'->RelS K Y' U' G' H'->RelM K U' H'->yr (mask U H) (mask U' H')->Q G' H'
structure ClS (K:W.Frag) (U:Mu) (H:Hp) (D0:EndsD) (D:Ends):Prop where
 nx:ClR K U H D0.nx D.nx
 rt:Cl K U H D0.rt D.rt
 bk:ClR K U H D0.bk D.bk
 ct:ClR K U H D0.ct D.ct
theorem Cl.same {U U1:Mu}{Q0:En->Mu->Prop}(h:Cl K U H Q0 Q) (s:yr (mask U H) (mask U1 H1)):Cl K U1 H1 Q0 Q:=fun e U' v H' a b c d=>h e U' v H' a b (s.trans c) d
theorem ClT.same {U U1:Mu}{Q0:Bool->Mu->Prop}{Q:Bool->Hp->Prop}(h:ClT K U H Q0 Q) (s:yr (mask U H) (mask U1 H1)):ClT K U1 H1 Q0 Q:=fun e U' H' a b c=>h e U' H' a b (s.trans c)
theorem ClR.same {U U1:Mu}{Q0:Rho->Mu->Prop}{Q:St->Hp->Prop}(h:ClR K U H Q0 Q) (s:yr (mask U H) (mask U1 H1)):ClR K U1 H1 Q0 Q:=fun e U' v H' a b c d=>h e U' v H' a b c (s.trans d)
theorem ClS.same {U U1:Mu}{D0:EndsD}{D:Ends}(h:ClS K U H D0 D) (s:yr (mask U H) (mask U1 H1)):ClS K U1 H1 D0 D:=⟨h.nx.same s,h.rt.same s,h.bk.same s,h.ct.same s⟩
def up (K:W.Frag) (t:TEd):TE:=fun G H Q=>∃ Y U Q0,RelS K Y U G H/\RelM K U H/\t Y U Q0/\Cl K U H Q0 Q
def upT (K:W.Frag) (t:TTd):TT:=fun G H Q=>∃ Y U Q0,RelS K Y U G H/\RelM K U H/\t Y U Q0/\ClT K U H Q0 Q
def upA (K:W.Frag) (t:TAd):TA:=fun G H Q=>∃ Y U Q0,RelS K Y U G H/\RelM K U H/\t Y U Q0/\ClA K U H Q0 Q
def upS (K:W.Frag) (t:TSd):TS:=fun D G H=>∃ Y U D0,RelS K Y U G H/\RelM K U H/\t D0 Y U/\ClS K U H D0 D
def DE (K:W.Frag) (X:Cx) (e:Expr) (t:TEd):Prop:=PE X e (up K t)
def DT (K:W.Frag) (X:Cx) (e:Expr) (t:TTd):Prop:=PT X e (upT K t)
def DW (K:W.Frag) (X:Cx) (e:Expr) (t:TTd):Prop:=PW X e (upT K t)
def DA (K:W.Frag) (X:Cx) (es:List Expr) (t:TAd):Prop:=PA X es (upA K t)
def DS (K:W.Frag) (X:Cx) (st:Stmt) (t:TSd):Prop:=PS X st (upS K t)
def DSs (K:W.Frag) (X:Cx) (st:List Stmt) (t:TSd):Prop:=PSs X st (upS K t)
section
theorem PE.mono {e:Expr}{t t':TE}(h:PE X e t) (f:∀ G H Q,t' G H Q->t G H Q):PE X e t':=fun Oa s G H Q I q=>h Oa s G H Q I (f _ _ _ q)
theorem PT.mono {e:Expr}{t t':TT}(h:PT X e t) (f:∀ G H Q,t' G H Q->t G H Q):PT X e t':=fun Oa s G H Q I q=>h Oa s G H Q I (f _ _ _ q)
theorem PW.mono {e:Expr}{t t':TT}(h:PW X e t) (f:∀ G H Q,t' G H Q->t G H Q):PW X e t':=fun wh Oa s G H Q I q=>h wh Oa s G H Q I (f _ _ _ q)
theorem PA.mono {e:List Expr}{t t':TA}(h:PA X e t) (f:∀ G H Q,t' G H Q->t G H Q):PA X e t':=fun p Oa s G H Q I q=>h p Oa s G H Q I (f _ _ _ q)
theorem PS.mono {e:Stmt}{t t':TS}(h:PS X e t) (f:∀ D G H,t' D G H->t D G H):PS X e t':=fun Oa s G H D I q=>h Oa s G H D I (f _ _ _ q)
theorem PSs.mono {e:List Stmt}{t t':TS}(h:PSs X e t) (f:∀ D G H,t' D G H->t D G H):PSs X e t':=fun Oa s G H D I q=>h Oa s G H D I (f _ _ _ q)
theorem OpR.mono {f:Value->Value->Sem Value}{r:R2}(h:OpR X f r) (g:∀ x y H Q,r' x y H Q->r x y H Q):OpR X f r':=fun Oa s G H x y v u Q I a b c=>h Oa s G H x y v u Q I a b (g _ _ _ _ c)
theorem UnR.mono {f:Value->Sem Value}{r r':V->Hp->VK->Prop}(h:UnR X f r) (g:∀ x H Q,r' x H Q->r x H Q):UnR X f r':=fun Oa s G H x v Q I a c=>h Oa s G H x v Q I a (g _ _ _ c)
theorem je.mono {f:Value}{r r':List V->Hp->VK->Prop}(h:je X f r) (g:∀ x H Q,r' x H Q->r x H Q):je X f r':=fun Oa s G H x v Q I a c=>h Oa s G H x v Q I a (g _ _ _ c)
theorem IxR.mono {r:R2}(h:IxR X r) (g:∀ x y H Q,r' x y H Q->r x y H Q):IxR X r':=fun a b Oa s G H x y v u Q I p q c=>h a b Oa s G H x y v u Q I p q (g _ _ _ _ c)
def dVar (i:Nat):TEd:=fun Y U Q=>match Y[i]? with
 | some (some e)=>Q e U
 | _=>False
def dC (x:PyData):TEd:=fun _ U Q=>Q (.d x) U
theorem dv (i:Nat) (hN:X.N[i]?=some x:=by rfl) (hv:Vis X.env.scope x:=by first | exact Or.inl rfl | exact Or.inr (Or.inl rfl) | exact Or.inr (Or.inr rfl)) (hd:(x == ("__debug__" : Str))=false:=by decide)
  (hcd:(x == ("__classdict__" : Str))=false:=by decide):DE K X (.Name x pos) (dVar i):=by
 refine PE.mono (qcg hN hv hd hcd) fun G H Q Oc=>?_;obtain⟨Y,U,Q0,hS,hM,h,cl⟩:=Oc;unfold dVar at h;split at h
 .rename_i e he
  obtain⟨v,e1,e2⟩:=hS.get i e he;exact⟨v,e1,cl e U v H h hM (yr.refl _) e2⟩
 .exact h.elim
theorem qL {i:Int}{j pos}:DE K X (.Constant (.int i) j pos) (dC (.int i)):=PE.mono Jk fun G H Q ⟨Y,U,Q0,hS,hM,h,cl⟩=>cl _ U (.int i) H h hM (yr.refl _) (.int i)
theorem qfi {b:Bool}{j pos}:DE K X (.Constant (.bool b) j pos) (dC (.bool b)):=PE.mono qlv fun G H Q ⟨Y,U,Q0,hS,hM,h,cl⟩=>cl _ U (.bl b) H h hM (yr.refl _) (.bl b)
theorem qmt {j pos}:DE K X (.Constant .none j pos) (dC .none):=PE.mono qod fun G H Q ⟨Y,U,Q0,hS,hM,h,cl⟩=>cl _ U .non H h hM (yr.refl _) .non
theorem yH {j pos}:DE K X (.Constant (.str x) j pos) (dC (.str x)):=PE.mono qeg fun G H Q ⟨Y,U,Q0,hS,hM,h,cl⟩=>cl _ U (.str x) H h hM (yr.refl _) (.str x)
theorem up2 {ta tb:TEd}{R:V->V->Hp->Prop}{Y:Rho}{U:Mu}{R0:En->En->Mu->Prop}(hS:RelS K Y U G H) (hM:RelM K U H) (h:ta Y U fun x U1=>tb Y U1 fun y U2=>R0 x y U2)
  (f:∀ x y U2 v u H2,R0 x y U2->RelM K U2 H2->yr (mask U H) (mask U2 H2)->IsE K U2 H2 v x->IsE K U2 H2 u y->R v u H2):up K ta G H fun v H1=>up K tb G H1 fun u H2=>R v u H2:=by
 refine⟨Y,U,_,hS,hM,h,fun x U1 v H1 q1 M1 s1 i1=>⟨Y,U1,_,hS.same s1,M1,q1,fun y U2 u H2 q2 M2 s2 i2=>?_⟩⟩;exact f x y U2 v u H2 q2 M2 (s1.trans s2) (i1.same s2) i2
abbrev R2d:=En->En->Mu->(En->Mu->Prop)->Prop
abbrev R1d:=En->Mu->(En->Mu->Prop)->Prop
abbrev RAd:=List En->Mu->(En->Mu->Prop)->Prop
def upR (K:W.Frag) (r:R2d):R2:=fun x y H Q=>∃ U e e' Q0,RelM K U H/\IsE K U H x e/\IsE K U H y e'/\r e e' U Q0/\Cl K U H Q0 Q
def upU (K:W.Frag) (r:R1d):V->Hp->VK->Prop:=fun x H Q=>∃ U e Q0,RelM K U H/\IsE K U H x e/\r e U Q0/\Cl K U H Q0 Q
def upC (K:W.Frag) (r:RAd):List V->Hp->VK->Prop:=fun xs H Q=>∃ U es Q0,RelM K U H/\Paired (IsE K U H) xs es/\r es U Q0/\Cl K U H Q0 Q
variable {a b:Expr}{ta tb tc:TEd}
def dOp (r:R2d) (ta tb:TEd):TEd:=fun Y U Q=>ta Y U fun x U1=>tb Y U1 fun y U2=>r x y U2 Q
def dUn (r:R1d) (ta:TEd):TEd:=fun Y U Q=>ta Y U fun x U1=>r x U1 Q
theorem qkY {r:R2d}(h:up K (dOp r ta tb) G H Q):tOp (upR K r) (up K ta) (up K tb) G H Q:=by
 obtain⟨Y,U,Q0,hS,hM,h,cl⟩:=h;exact up2 hS hM h fun x y U2 v u H2 q M2 s2 i1 i2=>⟨U2,x,y,Q0,M2,i1,i2,q,cl.same s2⟩
theorem y9 {op:Operator}{r:R2d}(ho:OpR X (binaryOp op) (upR K r)) (ha:DE K X a ta) (hb:DE K X b tb):DE K X (.BinOp a op b pos) (dOp r ta tb):=PE.mono (qch ho ha hb) fun _ _ _=>qkY
theorem d_cmp {r:R2d}(ho:OpR X (compareOp op) (upR K r)) (ha:DE K X a ta) (hb:DE K X b tb) (hm:behindInMarks op b=false):DE K X (.Compare a [op] [b] pos) (dOp r ta tb):=PE.mono (qlt ho ha hb hm) fun _ _ _=>qkY
def qju (t:TEd):TTd:=fun Y U Q=>t Y U fun e U1=>match e with
 | .d (.bool k)=>Q k U1
 | _=>False
theorem qkW {t:TEd}{Q:Bool->Hp->Prop}(h:upT K (qju t) G H Q):up K t G H fun x H1=>∃ k,x = .bl k/\Q k H1:=by
 obtain⟨Y,U,Q0,hS,hM,h,cl⟩:=h;refine⟨Y,U,_,hS,hM,h,fun e U1 v H1 q M1 s1 i1=>?_⟩;split at q
 .cases i1
  exact⟨_,rfl,cl _ U1 H1 q M1 s1⟩
 .exact q.elim
theorem qoT {r:R2d}(ho:OpR X (compareOp op) (upR K r)) (ha:DE K X a ta) (hb:DE K X b tb) (hm:behindInMarks op b=false):DT K X (.Compare a [op] [b] pos) (qju (dOp r ta tb)):=by
 refine PT.mono (qgc ho ha hb hm) fun G H Q h=>?_;obtain⟨Y,U,Q0,hS,hM,h,cl⟩:=h;refine up2 hS hM h fun x y U2 v u H2 q M2 s2 i1 i2=>⟨U2,x,y,_,M2,i1,i2,q,fun e U3 w H3 q3 M3 s3 i3=>?_⟩;split at q3
 .cases i3
  exact⟨_,rfl,cl _ U3 H3 q3 M3 (s2.trans s3)⟩
 .exact q3.elim
theorem jX {t:TEd}(h:DE K X a t) (he:∀ whole,isTrue a X.env whole=(do let v <- whole;standAt a.pos;holding [v] (truthy v)):=by intro _;rfl):DT K X a (qju t):=PT.mono (qnW h he) fun _ _ _=>qkW
theorem qmq {op:UnaryOp}{r:R1d}(ho:UnR X (unaryOp op) (upU K r)) (ha:DE K X a ta):DE K X (.UnaryOp op a pos) (dUn r ta):=by
 refine PE.mono (pe_un ho ha) fun G H Q Oc=>?_;obtain⟨Y,U,Q0,hS,hM,h,cl⟩:=Oc;exact⟨Y,U,_,hS,hM,h,fun e U1 v H1 q M1 s1 i1=>⟨U1,e,Q0,M1,i1,q,cl.same s1⟩⟩
def rdI (C:Int->Int->Prop) (g:Int->Int->PyData):R2d:=fun x y U Q=>match x,y with
 | .d (.int i),.d (.int j)=>C i j/\Q (.d (g i j)) U
 | _,_=>False
def qiw (g:Int->Int->PyData):R2d:=fun x y U Q=>match x,y with
 | .d (.int i),.d (.int j)=>Q (.d (g i j)) U
 | _,_=>False
def rdU (g:Int->PyData):R1d:=fun x U Q=>match x with
 | .d (.int i)=>Q (.d (g i)) U
 | _=>False
theorem qib {C:Int->Int->Prop}{x:V}(h:upR K (rdI C fun i j=>.int (g i j)) x y H Q):rI C (fun i j=>.int (g i j)) x y H Q:=by
 obtain⟨U,e,e',Q0,M,i1,i2,q,cl⟩:=h;unfold rdI at q;split at q
 .cases i1;cases i2
  exact⟨_,_,rfl,rfl,q.1,cl _ U _ H q.2 M (yr.refl _) (.int _)⟩
 .exact q.elim
theorem qjO {x:V}(h:upR K (qiw fun i j=>.int (g i j)) x y H Q):rI0 (fun i j=>.int (g i j)) x y H Q:=by
 obtain⟨U,e,e',Q0,M,i1,i2,q,cl⟩:=h;unfold qiw at q;split at q
 .cases i1;cases i2
  exact⟨_,_,rfl,rfl,cl _ U _ H q M (yr.refl _) (.int _)⟩
 .exact q.elim
theorem qfG {g:Int->Int->Bool}{x:V}(h:upR K (qiw fun i j=>.bool (g i j)) x y H Q):rI0 (fun i j=>.bl (g i j)) x y H Q:=by
 obtain⟨U,e,e',Q0,M,i1,i2,q,cl⟩:=h;unfold qiw at q;split at q
 .cases i1;cases i2
  exact⟨_,_,rfl,rfl,cl _ U _ H q M (yr.refl _) (.bl _)⟩
 .exact q.elim
theorem Yc:OpR X (binaryOp .Add) (upR K (qiw fun i j=>.int (i+j))):=qgu.mono fun _ _ _ _=>qjO
theorem JC:OpR X (binaryOp .Sub) (upR K (qiw fun i j=>.int (i - j))):=qoh.mono fun _ _ _ _=>qjO
theorem Jm:OpR X (binaryOp .Mult) (upR K (rdI qh0 fun i j=>.int (i * j))):=qdk.mono fun _ _ _ _=>qib
theorem qdB:OpR X (binaryOp .FloorDiv) (upR K (rdI qjM fun i j=>.int (i.fdiv j))):=qiN.mono fun _ _ _ _=>qib
theorem qht:OpR X (binaryOp .Mod) (upR K (rdI (fun _ j=>0<j) fun i j=>.int (i % j))):=qek.mono fun _ _ _ _=>qib
theorem Ze:OpR X (binaryOp .Pow) (upR K (rdI CPow fun i j=>.int (i ^ j.toNat))):=qoi.mono fun _ _ _ _=>qib
theorem qdA:OpR X (compareOp .Lt) (upR K (qiw fun i j=>.bool (decide (i<j)))):=op_lt.mono fun _ _ _ _=>qfG
theorem qjl:OpR X (compareOp .LtE) (upR K (qiw fun i j=>.bool (decide (i<=j)))):=op_le.mono fun _ _ _ _=>qfG
theorem qjn:OpR X (compareOp .Gt) (upR K (qiw fun i j=>.bool (decide (j<i)))):=qol.mono fun _ _ _ _=>qfG
theorem qaH:UnR X (unaryOp .USub) (upU K (rdU fun i=>.int (-i))):=qm9.mono fun x H Q h=>by
 obtain⟨U,e,Q0,M,i1,q,cl⟩:=h;unfold rdU at q;split at q
 .cases i1
  exact⟨_,rfl,cl _ U _ H q M (yr.refl _) (.int _)⟩
 .exact q.elim
inductive LstOf (U:Mu):En->List PyData->Prop
 | d (ds:List PyData):LstOf U (.d (.list ds)) ds
 | m {a:Addr}{ds:List PyData}(h:(a,.lst ds)∈U):LstOf U (.m a) ds
theorem LstOf.get {U:Mu}{e:En}(h:LstOf U e ds) (M:RelM K U H) (i:IsE K U H v e):∃ p xs,v = .ref p/\SqL K H p xs/\IsAll K (mask U H) xs ds:=by
 cases h with
 | d ds =>
  cases i with
  | lst h hs=>exact⟨_,_,rfl,yr.seq yO h,hs⟩
 | m h =>
  obtain⟨xs,e,hs⟩:=M.ob _ _ h;exact⟨_,xs,i,SqL.of e,hs⟩
inductive DatOf (U:Mu):En->PyData->Prop
 | d (x:PyData):DatOf U (.d x) x
 | m {a:Addr}{ds:List PyData}(h:(a,.lst ds)∈U):DatOf U (.m a) (.list ds)
theorem DatOf.is {U:Mu}{e:En}{x:PyData}(h:DatOf U e x) (M:RelM K U H) (i:IsE K U H v e):Is K H v x:=by
 cases h with
 | d x=>exact Is.same yO i
 | m h =>
  obtain⟨xs,e,hs⟩:=M.ob _ _ h;have i:v=_:=i;subst i;exact .lst (SqL.of e) (IsAll.same yO hs)
def qpB (neg:Bool):R2d:=fun x y U Q=>match x,y with
 | .d (.int i),.d (.int j)=>Q (.d (.bool (if neg then !decide (i=j) else decide (i=j)))) U
 | _,_=>∃ d d',DatOf U x d/\DatOf U y d'/\SeqAt.shaped d=true/\SeqAt.shaped d'=true/\Q (.d (.bool (if neg then !PyData.eqv d d' else PyData.eqv d d'))) U
theorem qmg (i j:Int):PyData.eqv (.int i) (.int j)=decide (i=j):=by by_cases h:i=j <;> simp[PyData.eqv,h]
theorem qec {neg:Bool}{x y:En}{U:Mu}{Q:En->Mu->Prop}(h:qpB neg x y U Q):∃ d d',DatOf U x d/\DatOf U y d'/\SeqAt.shaped d=true/\SeqAt.shaped d'=true/\Q (.d (.bool (if neg then !PyData.eqv d d' else PyData.eqv d d'))) U:=by
 unfold qpB at h;split at h
 .exact ⟨_,_,.d _,.d _,rfl,rfl,by rw[qmg];exact h⟩
 .exact h
theorem Jc (hu:X.A.units+64<cLine) (hK:X.K=K:=by rfl):OpR X (compareOp .Eq) (upR K (qpB false)):=by
 subst hK;refine (qom hu).mono fun x y H Q h=>?_;obtain⟨U,e,e',Q0,M,i1,i2,q,cl⟩:=h;obtain⟨d,d',h1,h2,h3,h4,q⟩:=qec q;exact⟨d,d',h1.is M i1,h2.is M i2,h3,h4,cl _ U _ H q M (yr.refl _) (.bl _)⟩
theorem JD (hu:X.A.units+64<cLine) (hK:X.K=K:=by rfl):OpR X (compareOp .NotEq) (upR K (qpB true)):=by
 subst hK;refine (qoj hu).mono fun x y H Q h=>?_;obtain⟨U,e,e',Q0,M,i1,i2,q,cl⟩:=h;obtain⟨d,d',h1,h2,h3,h4,q⟩:=qec q;exact⟨d,d',h1.is M i1,h2.is M i2,h3,h4,cl _ U _ H q M (yr.refl _) (.bl _)⟩
def dAnd (t u:TTd):TTd:=fun Y U Q=>t Y U fun k U1=>if k=true then u Y U1 Q else Q false U1
def dOr (t u:TTd):TTd:=fun Y U Q=>t Y U fun k U1=>if k=true then Q true U1 else u Y U1 Q
def dNot (t:TTd):TTd:=fun Y U Q=>t Y U fun k U1=>Q (!k) U1
variable {tA tB:TTd}{rest:List Expr}
theorem JT (ha:DT K X a tA):DW K X (.BoolOp .And [a] pos) tA:=qle ha
theorem ZP (ha:DT K X a tA):DW K X (.BoolOp .Or [a] pos) tA:=qnT ha
theorem Zd (ha:DT K X a tA) (hb:DW K X (.BoolOp .And (b::rest) pos) tB):DW K X (.BoolOp .And (a::b::rest) pos) (dAnd tA tB):=by
 refine PW.mono (qnU ha hb) fun G H Q Oc=>?_;obtain⟨Y,U,Q0,hS,hM,h,cl⟩:=Oc;refine⟨Y,U,_,hS,hM,h,fun k U1 H1 q M1 s1=>?_⟩;cases k with
 | true=>exact⟨Y,U1,Q0,hS.same s1,M1,by simpa using q,cl.same s1⟩
 | false=>exact cl _ U1 H1 (by simpa using q) M1 s1
theorem qaS (ha:DT K X a tA) (hb:DW K X (.BoolOp .Or (b::rest) pos) tB):DW K X (.BoolOp .Or (a::b::rest) pos) (dOr tA tB):=by
 refine PW.mono (pw_or ha hb) fun G H Q Oc=>?_;obtain⟨Y,U,Q0,hS,hM,h,cl⟩:=Oc;refine⟨Y,U,_,hS,hM,h,fun k U1 H1 q M1 s1=>?_⟩;cases k with
 | false=>exact⟨Y,U1,Q0,hS.same s1,M1,by simpa using q,cl.same s1⟩
 | true=>exact cl _ U1 H1 (by simpa using q) M1 s1
theorem qcE (h:DW K X a tA):DT K X a tA:=PW.pt h
theorem Yb (ha:DT K X a tA):DT K X (.UnaryOp .Not a pos) (dNot tA):=PT.mono (qnX ha) fun G H Q ⟨Y,U,Q0,hS,hM,h,cl⟩=>⟨Y,U,_,hS,hM,h,fun k U1 H1 q M1 s1=>cl _ U1 H1 q M1 s1⟩
def dAndV (ta tb:TEd):TEd:=fun Y U Q=>ta Y U fun x U1=>match x with
 | .d (.bool k)=>if k=true then tb Y U1 Q else Q (.d (.bool false)) U1
 | _=>False
def dOrV (ta tb:TEd):TEd:=fun Y U Q=>ta Y U fun x U1=>match x with
 | .d (.bool k)=>if k=true then Q (.d (.bool true)) U1 else tb Y U1 Q
 | _=>False
def dNotV (ta:TEd):TEd:=fun Y U Q=>ta Y U fun x U1=>match x with
 | .d (.bool k)=>Q (.d (.bool (!k))) U1
 | _=>False
theorem qaJ {op} {t:TEd}(h:DE K X a t):DE K X (.BoolOp op [a] pos) t:=qob h
theorem qfj (ha:DE K X a ta) (hb:DE K X (.BoolOp .And (b::rest) pos) tb):DE K X (.BoolOp .And (a::b::rest) pos) (dAndV ta tb):=by
 refine PE.mono (qof ha hb) fun G H Q Oc=>?_;obtain⟨Y,U,Q0,hS,hM,h,cl⟩:=Oc;refine⟨Y,U,_,hS,hM,h,fun e U1 v H1 q M1 s1 i1=>?_⟩;split at q
 .rename_i k
  cases i1
  refine⟨k,rfl,?_⟩;cases k with
  | true=>exact Z1 ⟨Y,U1,Q0,hS.same s1,M1,by simpa using q,cl.same s1⟩
  | false=>exact Zf (cl (.d (.bool false)) U1 _ H1 (by simpa using q) M1 s1 (Is.bl _))
 .exact q.elim
theorem d_or (ha:DE K X a ta) (hb:DE K X (.BoolOp .Or (b::rest) pos) tb):DE K X (.BoolOp .Or (a::b::rest) pos) (dOrV ta tb):=by
 refine PE.mono (pe_or ha hb) fun G H Q Oc=>?_;obtain⟨Y,U,Q0,hS,hM,h,cl⟩:=Oc;refine⟨Y,U,_,hS,hM,h,fun e U1 v H1 q M1 s1 i1=>?_⟩;split at q
 .rename_i k
  cases i1
  refine⟨k,rfl,?_⟩;cases k with
  | false=>exact Zf ⟨Y,U1,Q0,hS.same s1,M1,by simpa using q,cl.same s1⟩
  | true=>exact Z1 (cl (.d (.bool true)) U1 _ H1 (by simpa using q) M1 s1 (Is.bl _))
 .exact q.elim
theorem d_not (ha:DE K X a ta):DE K X (.UnaryOp .Not a pos) (dNotV ta):=by
 refine PE.mono (qoc ha) fun G H Q Oc=>?_;obtain⟨Y,U,Q0,hS,hM,h,cl⟩:=Oc;refine⟨Y,U,_,hS,hM,h,fun e U1 v H1 q M1 s1 i1=>?_⟩;split at q
 .cases i1
  exact⟨_,rfl,cl _ U1 _ H1 q M1 s1 (.bl _)⟩
 .exact q.elim
def dIf (t:TTd) (ta tb:TEd):TEd:=fun Y U Q=>t Y U fun k U1=>if k=true then ta Y U1 Q else tb Y U1 Q
theorem qhB (hc:DT K X c tA) (ha:DE K X a ta) (hb:DE K X b tb):DE K X (.IfExp c a b pos) (dIf tA ta tb):=by
 refine PE.mono (qiJ hc ha hb) fun G H Q Oc=>?_;obtain⟨Y,U,Q0,hS,hM,h,cl⟩:=Oc;refine⟨Y,U,_,hS,hM,h,fun k U1 H1 q M1 s1=>?_⟩;cases k with
 | true=>exact Z1 ⟨Y,U1,Q0,hS.same s1,M1,by simpa using q,cl.same s1⟩
 | false=>exact Zf ⟨Y,U1,Q0,hS.same s1,M1,by simpa using q,cl.same s1⟩
variable {tr:TAd}
def dNil:TAd:=fun _ U Q=>Q [] U
def dCons (ta:TEd) (tr:TAd):TAd:=fun Y U Q=>ta Y U fun x U1=>tr Y U1 fun xs U2=>Q (x::xs) U2
theorem qi:DA K X [] dNil:=PA.mono qci fun G H Q ⟨Y,U,Q0,hS,hM,h,cl⟩=>cl _ U _ H h hM (yr.refl _) .nil
theorem qb (ha:DE K X a ta) (hr:DA K X es tr) (hs:starEach (a::es) X.env=(false,eval a X.env)::starEach es X.env:=by rfl):DA K X (a::es) (dCons ta tr):=by
 refine PA.mono (Yn ha hr hs) fun G H Q Oc=>?_;obtain⟨Y,U,Q0,hS,hM,h,cl⟩:=Oc;refine⟨Y,U,_,hS,hM,h,fun e U1 v H1 q M1 s1 i1=>⟨Y,U1,_,hS.same s1,M1,q,fun es' U2 vs H2 q2 M2 s2 i2=>?_⟩⟩;exact cl _ U2 _ H2 q2 M2 (s1.trans s2) (.cons (i1.same s2) i2)
def qmK:List En->Option (List PyData)
 | []=>some []
 | .d x::r=>(qmK r).map (x::·)
 | _::_=>none
theorem qbX {U:Mu}:∀ {es:List En}{ds:List PyData}{vs:List V},qmK es=some ds->Paired (IsE K U H) vs es->IsAll K (mask U H) vs ds
 | [],_,_,e,.nil=>by cases e;exact .nil
 | .d x::r,_,_,e,.cons h t=>by
  simp only[qmK] at e;cases q:qmK r with
  | none=>rw[q] at e;cases e
  | some ds'=>rw[q] at e;cases e;exact .cons h (qbX q t)
 | .m a::r,_,_,e,_=>by cases e
 | .x a::r,_,_,e,_=>by cases e
 | .ty a::r,_,_,e,_=>by cases e
def dTup (tr:TAd):TEd:=fun Y U Q=>tr Y U fun es U1=>match qmK es with
 | some ds=>ds.length<=4000/\Q (.d (.tuple ds)) U1
 | none=>False
def dLst (tr:TAd):TEd:=fun Y U Q=>tr Y U fun es U1=>match qmK es with
 | some ds=>ds.length<=4000/\Q (.d (.list ds)) U1
 | none=>False
theorem ZS {x1} (h:DA K X es tr):DE K X (.Tuple es x1 pos) (dTup tr):=by
 refine PE.mono (qn8 h) fun G H Q Oc=>?_;obtain⟨Y,U,Q0,hS,hM,h,cl⟩:=Oc;refine⟨Y,U,_,hS,hM,h,fun es' U1 vs H1 q M1 s1 i1=>?_⟩;split at q
 .rename_i ds e
  have hA:=qbX e i1;refine⟨yT (jR (by rw[hA.len];exact q.1)),fun p hp=>?_⟩;obtain⟨M2,s2,hn⟩:=M1.laid (o:=.tup vs) hp;exact cl _ U1 _ _ q.2 M2 (s1.trans s2) (.tup (SqT.of (by rw[yN hn];exact yg)) (IsAll.same s2 hA))
 .exact q.elim
theorem Jx (h:DA K X es tr):DE K X (.List es pos) (dLst tr):=by
 refine PE.mono (qka h) fun G H Q Oc=>?_;obtain⟨Y,U,Q0,hS,hM,h,cl⟩:=Oc;refine⟨Y,U,_,hS,hM,h,fun es' U1 vs H1 q M1 s1 i1=>?_⟩;split at q
 .rename_i ds e
  have hA:=qbX e i1;refine⟨yT (jR (by rw[hA.len];exact q.1)),fun p hp=>?_⟩;obtain⟨M2,s2,hn⟩:=M1.laid (o:=.lst vs) hp;exact cl _ U1 _ _ q.2 M2 (s1.trans s2) (.lst (SqL.of (by rw[yN hn];exact yg)) (IsAll.same s2 hA))
 .exact q.elim
def dLstM (tr:TAd):TEd:=fun Y U Q=>tr Y U fun es U1=>match qmK es with
 | some ds=>ds.length<=4000/\∀ p,p∉U1.map Prod.fst->Q (.m p) ((p,.lst ds)::U1)
 | none=>False
theorem qhz (h:DA K X es tr):DE K X (.List es pos) (dLstM tr):=by
 refine PE.mono (qka h) fun G H Q Oc=>?_;obtain⟨Y,U,Q0,hS,hM,h,cl⟩:=Oc;refine⟨Y,U,_,hS,hM,h,fun es' U1 vs H1 q M1 s1 i1=>?_⟩;split at q
 .rename_i ds e
  have hA:=qbX e i1;refine⟨yT (jR (by rw[hA.len];exact q.1)),fun p hp=>?_⟩;obtain⟨_,_,hn⟩:=M1.laid (o:=.lst vs) hp;obtain⟨M2,s2⟩:=M1.new (u:=.lst vs) (o:=.lst ds) hp fun ss=>⟨vs,yg,IsAll.same ss hA⟩;exact cl _ _ _ _ (q.2 p hn) M2 (s1.trans s2) rfl
 .exact q.elim
end
end L2
variable {ta te tc to:L2.TEd}{tt:L2.TTd}{U U' U1 U2:L2.Mu}{Y:L2.Rho}{tr:L2.TAd}
namespace L2
theorem IsAll.atI {i:Int}{z:PyData}(h:IsAll K H vs ds) (e:L2.atI ds i=some z):∃ v,L2.atI vs i=some v/\Is K H v z:=by
 unfold L2.atI at *;rw[h.len];cases q:ixN ds.length i with
 | none=>rw[q] at e;cases e
 | some j =>
  rw[q] at e;obtain⟨v,e1,e2⟩:=h.get' (i:=j) e;exact⟨v,e1,e2⟩
section
variable {a b:Expr}{tb:TEd}{tA tB:TTd}
def qnL:R2d:=fun x y U Q=>match y with
 | .d (.int i)=>∃ ds z,LstOf U x ds/\atI ds i=some z/\Q (.d z) U
 | _=>False
def qnK:R2d:=fun x y U Q=>match x,y with
 | .d (.tuple ds),.d (.int i)=>∃ z,atI ds i=some z/\Q (.d z) U
 | _,_=>False
theorem qmh (hK:X.K=K:=by rfl):IxR X (upR K qnL):=by
 subst hK;refine Zz.mono fun x y H Q h=>?_;obtain⟨U,e,e',Q0,M,i1,i2,q,cl⟩:=h;unfold qnL at q;split at q
 .obtain ⟨ds,z,h1,h2,q⟩:=q;cases i2
  obtain⟨p,xs,rfl,h3,h4⟩:=h1.get M i1;obtain⟨v,e1,e2⟩:=h4.atI h2;exact⟨p,xs,_,v,rfl,rfl,h3,e1,cl _ U v H q M (yr.refl _) e2⟩
 .exact q.elim
theorem qoS (hK:X.K=K:=by rfl):IxR X (upR K qnK):=by
 subst hK;refine qoG.mono fun x y H Q h=>?_;obtain⟨U,e,e',Q0,M,i1,i2,q,cl⟩:=h;unfold qnK at q;split at q
 .obtain ⟨z,h2,q⟩:=q;cases i2
  have i1':=Is.same yO (show Is X.K (mask U H) x _ from i1);cases i1 with
  | tup h3 h4 =>
   obtain⟨v,e1,e2⟩:=h4.atI h2;cases i1' with
   | tup h5 h6 =>
    refine⟨_,_,_,v,rfl,rfl,?_,e1,cl _ U v H q M (yr.refl _) e2⟩;rcases h3 with (e | ⟨o,e⟩) | e
    .exact .inl (.inl (yO _ _ e))
    .exact .inl (.inr ⟨o,yO _ _ e⟩)
    .exact .inr e
 .exact q.elim
theorem jf {r:R2d}(hr:IxR X (upR K r)) (ha:DE K X a ta) (hb:DE K X b tb) (hs:qhY b:=by exact fun _ _=>rfl):DE K X (.Subscript a b pos) (dOp r ta tb):=PE.mono (qeV hr ha hb hs) fun _ _ _=>qkY
def Z5 (xs:List PyData) (lo hi:Option Int):List PyData:=(xs.drop (HT.sIx xs.length 0 lo)).take (HT.sIx xs.length xs.length hi - HT.sIx xs.length 0 lo)
theorem IsAll.cut {lo hi:Option Int}(h:IsAll K H vs ds):IsAll K H (qmC vs lo hi) (Z5 ds lo hi):=by
 unfold qmC Z5;rw[h.len];exact (h.drop _).take _
abbrev TOd:=Rho->Mu->(Option Int->Mu->Prop)->Prop
def upO (K:W.Frag) (t:TOd):TO:=fun G H Q=>∃ Y U Q0,RelS K Y U G H/\RelM K U H/\t Y U Q0/\∀ o U' H',Q0 o U'->RelM K U' H'->yr (mask U H) (mask U' H')->Q o H'
def DO (K:W.Frag) (X:Cx) (e:Option Expr) (t:TOd):Prop:=PO X e (upO K t)
theorem PO.mono {e:Option Expr}{t t':TO}(h:PO X e t) (f:∀ G H Q,t' G H Q->t G H Q):PO X e t':=fun Oa s G H Q I q=>h Oa s G H Q I (f _ _ _ q)
def qmz:TOd:=fun _ U Q=>Q none U
def dPart (t:TEd):TOd:=fun Y U Q=>t Y U fun x U1=>match x with
 | .d (.int i)=>Q (some i) U1
 | _=>False
theorem Ys:DO K X none qmz:=PO.mono qlj fun G H Q ⟨Y,U,Q0,hS,hM,h,cl⟩=>cl none U H h hM (yr.refl _)
theorem jW (h:DE K X a ta):DO K X (some a) (dPart ta):=PO.mono (qli h) fun G H Q ⟨Y,U,Q0,hS,hM,h,cl⟩=>⟨Y,U,_,hS,hM,h,fun e U1 v H1 q M1 s1 i1=>by
 split at q
 .cases i1;exact⟨_,rfl,cl _ U1 H1 q M1 s1⟩
 .exact q.elim⟩
def dSl (r:En->Option Int->Option Int->Mu->(En->Mu->Prop)->Prop) (te:TEd) (tl th:TOd):TEd:=fun Y U Q=>te Y U fun x U1=>tl Y U1 fun l U2=>th Y U2 fun u U3=>r x l u U3 Q
def rdSlL:En->Option Int->Option Int->Mu->(En->Mu->Prop)->Prop:=fun x l u U Q=>∃ ds,LstOf U x ds/\Q (.d (.list (Z5 ds l u))) U
theorem Jw {lo hi:Option Expr}{p2:Pos}{tl th:TOd}(ha:DE K X a ta) (hl:DO K X lo tl) (hu:DO K X hi th) (hK:X.K=K:=by rfl):DE K X (.Subscript a (.Slice lo hi none p2) pos) (dSl rdSlL ta tl th):=by
 subst hK;refine PE.mono (qiG qk3 ha hl hu) fun G H Q Oc=>?_;obtain⟨Y,U,Q0,hS,hM,h,cl⟩:=Oc;refine⟨Y,U,_,hS,hM,h,fun e U1 v H1 q1 M1 s1 i1=>⟨Y,U1,_,hS.same s1,M1,q1,fun l U2 H2 q2 M2 s2=>⟨Y,U2,_,hS.same (s1.trans s2),M2,q2,fun u U3 H3 q3 M3 s3=>?_⟩⟩⟩;obtain⟨ds,h1,q⟩:=q3;have i3:=i1.same (s2.trans s3);obtain⟨p,xs,rfl,h3,h4⟩:=h1.get M3 i3;refine⟨p,xs,rfl,h3,fun l hl=>?_⟩;obtain⟨M4,s4,hn⟩:=M3.laid (o:=.lst (qmC xs _ _)) hl;exact cl _ _ _ _ q M4 ((s1.trans s2).trans (s3.trans s4)) (.lst (SqL.of (by rw[yN hn];exact yg)) (IsAll.same s4 h4.cut))
def dCB (r:RAd) (tr:TAd):TEd:=fun Y U Q=>tr Y U fun es U1=>r es U1 Q
theorem qm8 {r:RAd}(h:up K (dCB r tr) G H Q):tCB (upC K r) (upA K tr) G H Q:=by
 obtain⟨Y,U,Q0,hS,hM,h,cl⟩:=h;exact⟨Y,U,_,hS,hM,h,fun es U1 vs H1 q M1 s1 i1=>⟨U1,es,Q0,M1,i1,q,cl.same s1⟩⟩
theorem yy {id:String}{r:RAd}{e:Expr}(hc:je X (.builtin id) (upC K r)) (hg:Gl X x) (hm:X.mg x=none) (hv:bootBuiltins x=some (.builtin id)) (ha:DA K X (e::es) tr) (hn:x ≠ "__name__" := by decide) (hdb:(x == ("__debug__" : Str))=false:=by decide)
  (he:starEach (e::es) X.env=(false,eval e X.env)::starEach es X.env:=by rfl) (hpl:(backTo pos (starEach es X.env)).any (·.1)=false:=by rfl):DE K X (.Call (.Name x p) (e::es) [] pos) (dCB r tr):=PE.mono (qei hc hg hm hv ha hn hdb he hpl) fun _ _ _=>qm8
theorem jx {r:RAd}{e:Expr}(hc:je X (.type T) (upC K r)) (hg:Gl X x) (hm:X.mg x=none) (hv:bootBuiltins x=some (.type T)) (ha:DA K X (e::es) tr) (hn:x ≠ "__name__" := by decide) (hdb:(x == ("__debug__" : Str))=false:=by decide)
  (he:starEach (e::es) X.env=(false,eval e X.env)::starEach es X.env:=by rfl) (hpl:(backTo pos (starEach es X.env)).any (·.1)=false:=by rfl):DE K X (.Call (.Name x p) (e::es) [] pos) (dCB r tr):=PE.mono (qgp hc hg hm hv ha hn hdb he hpl) fun _ _ _=>qm8
theorem JN {e:En}(h:Paired (IsE K U H) vs [e]):∃ v,vs=[v]/\IsE K U H v e:=by cases h with | cons a b=>cases b;exact⟨_,rfl,a⟩
theorem qeX {e e':En}(h:Paired (IsE K U H) vs [e,e']):∃ v v',vs=[v,v']/\IsE K U H v e/\IsE K U H v' e':=by cases h with | cons a b=>cases b with | cons c d=>cases d;exact⟨_,_,rfl,a,c⟩
def qnQ:RAd:=fun es U Q=>match es with
 | [.d (.int i)]=>Q (.d (.int (i.natAbs:Int))) U
 | _=>False
theorem qcF:je X (.builtin "abs") (upC K qnQ):=qjC.mono fun xs H Q h=>by
 obtain⟨U,es,Q0,M,hp,q,cl⟩:=h;unfold qnQ at q;split at q
 .rename_i i
  obtain⟨v,rfl,i1⟩:=JN hp;cases i1
  have e:(if i<0 then -i else i)=(i.natAbs:Int):=by split <;> omega
  exact⟨_,rfl,by rw[e];exact cl _ U _ H q M (yr.refl _) (.int _)⟩
 .exact q.elim
def qpC (g:Int->Int->Int):RAd:=fun es U Q=>match es with
 | [.d (.int i),.d (.int j)]=>Q (.d (.int (g i j))) U
 | _=>False
theorem qhw (hc:X.calm=true):je X (.builtin "max") (upC K (qpC fun i j=>if i<j then j else i)):=(qhM hc).mono fun xs H Q h=>by
 obtain⟨U,es,Q0,M,hp,q,cl⟩:=h;unfold qpC at q;split at q
 .obtain ⟨v,v',rfl,i1,i2⟩:=qeX hp;cases i1;cases i2
  exact⟨_,_,rfl,cl _ U _ H q M (yr.refl _) (.int _)⟩
 .exact q.elim
theorem qoY (hc:X.calm=true):je X (.builtin "min") (upC K (qpC fun i j=>if j<i then j else i)):=(qhK hc).mono fun xs H Q h=>by
 obtain⟨U,es,Q0,M,hp,q,cl⟩:=h;unfold qpC at q;split at q
 .obtain ⟨v,v',rfl,i1,i2⟩:=qeX hp;cases i1;cases i2
  exact⟨_,_,rfl,cl _ U _ H q M (yr.refl _) (.int _)⟩
 .exact q.elim
def qnN:RAd:=fun es U Q=>match es with
 | [.d (.int i)]=>Q (.d (.int i)) U
 | [.d (.bool k)]=>Q (.d (.int (if k=true then 1 else 0))) U
 | _=>False
theorem qoZ:je X (.type "int") (upC K qnN):=qhO.mono fun xs H Q h=>by
 obtain⟨U,es,Q0,M,hp,q,cl⟩:=h;unfold qnN at q;split at q
 .obtain ⟨v,rfl,i1⟩:=JN hp;cases i1
  exact .inl ⟨_,rfl,cl _ U _ H q M (yr.refl _) (.int _)⟩
 .obtain ⟨v,rfl,i1⟩:=JN hp;cases i1
  exact .inr ⟨_,rfl,cl _ U _ H q M (yr.refl _) (.int _)⟩
 .exact q.elim
inductive SeqOf (U:Mu):En->List PyData->Prop
 | l {e:En}{ds:List PyData}(h:LstOf U e ds):SeqOf U e ds
 | t (ds:List PyData):SeqOf U (.d (.tuple ds)) ds
theorem SeqOf.get {e:En}(h:SeqOf U e ds) (M:RelM K U H) (i:IsE K U H v e):∃ p xs,v = .ref p/\(SqL K H p xs\/SqT K H p xs)/\IsAll K (mask U H) xs ds:=by
 cases h with
 | l h=>obtain⟨p,xs,h1,h2,h3⟩:=h.get M i;exact⟨p,xs,h1,.inl h2,h3⟩
 | t ds =>
  cases i with
  | tup h hs =>
   refine⟨_,_,rfl,.inr ?_,hs⟩;rcases h with (e | ⟨o,e⟩) | e
   .exact .inl (.inl (yO _ _ e))
   .exact .inl (.inr ⟨o,yO _ _ e⟩)
   .exact .inr e
def qnI:RAd:=fun es U Q=>match es with
 | [e]=>∃ ds,SeqOf U e ds/\Q (.d (.int (ds.length:Int))) U
 | _=>False
theorem Yv (hK:X.K=K:=by rfl):je X (.builtin "len") (upC K qnI):=by
 subst hK;refine qcR.mono fun xs H Q h=>?_;obtain⟨U,es,Q0,M,hp,q,cl⟩:=h;unfold qnI at q;split at q
 .obtain ⟨v,rfl,i1⟩:=JN hp;obtain⟨ds,h1,q⟩:=q;obtain⟨p,ys,rfl,h2,h3⟩:=h1.get M i1;exact⟨p,ys,rfl,h2,by rw[h3.len];exact cl _ U _ H q M (yr.refl _) (.int _)⟩
 .exact q.elim
def qj0:RAd:=fun es U Q=>match es with
 | [e]=>∃ ds,SeqOf U e ds/\Q (.d (.list ds)) U
 | _=>False
theorem qbO (hK:X.K=K:=by rfl):je X (.type "list") (upC K qj0):=by
 subst hK;refine qcP.mono fun xs H Q h=>?_;obtain⟨U,es,Q0,M,hp,q,cl⟩:=h;unfold qj0 at q;split at q
 .obtain ⟨v,rfl,i1⟩:=JN hp;obtain⟨ds,h1,q⟩:=q;obtain⟨p,ys,rfl,h2,h3⟩:=h1.get M i1;refine⟨p,ys,rfl,h2,fun l hl=>?_⟩;obtain⟨M4,s4,hn⟩:=M.laid (o:=.lst ys) hl;exact cl _ U _ _ q M4 s4 (.lst (SqL.of (by rw[yN hn];exact yg)) (IsAll.same s4 h3))
 .exact q.elim
def qf8:RAd:=fun es U Q=>match es with
 | [e]=>∃ ds,LstOf U e ds/\Q (.d (.tuple ds)) U
 | _=>False
theorem qjr (hK:X.K=K:=by rfl):je X (.type "tuple") (upC K qf8):=by
 subst hK;refine qbQ.mono fun xs H Q h=>?_;obtain⟨U,es,Q0,M,hp,q,cl⟩:=h;unfold qf8 at q;split at q
 .obtain ⟨v,rfl,i1⟩:=JN hp;obtain⟨ds,h1,q⟩:=q;obtain⟨p,ys,rfl,h2,h3⟩:=h1.get M i1;refine⟨p,ys,rfl,.inl ⟨h2,fun l hl=>?_⟩⟩;obtain⟨M4,s4,hn⟩:=M.laid (o:=.tup ys) hl;exact cl _ U _ _ q M4 s4 (.tup (SqT.of (by rw[yN hn];exact yg)) (IsAll.same s4 h3))
 .exact q.elim
def qnP (f:List Bool->Bool):RAd:=fun es U Q=>match es with
 | [e]=>∃ bs,LstOf U e (bs.map PyData.bool)/\Q (.d (.bool (f bs))) U
 | _=>False
theorem qkv (hc:X.calm=true) (hK:X.K=K:=by rfl):je X (.builtin "all") (upC K (qnP fun bs=>bs.all id)):=by
 subst hK;refine (qjB hc).mono fun xs H Q h=>?_;obtain⟨U,es,Q0,M,hp,q,cl⟩:=h;unfold qnP at q;split at q
 .obtain ⟨v,rfl,i1⟩:=JN hp;obtain⟨bs,h1,q⟩:=q;obtain⟨p,ys,rfl,h2,h3⟩:=h1.get M i1;rw[h3.bools_of] at h2;exact⟨p,bs,rfl,h2,cl _ U _ H q M (yr.refl _) (.bl _)⟩
 .exact q.elim
def isTy (n:String):PyData->Bool
 | .none=>false
 | .bool _=>n == "bool" || n == "int"
 | .int _=>n == "int"
 | .str _=>n == "str"
 | .list _=>n == "list"
 | .tuple _=>n == "tuple"
 | .dict _=>false
abbrev SpD:=List En->Mu->(En->Mu->Prop)->Prop
def yd (K:W.Frag) (s:SpD):Sp:=fun vs H Q _=>∃ U es Q0,RelM K U H/\Paired (IsE K U H) vs es/\s es U Q0/\Cl K U H Q0 Q
theorem d_own {k:Nat}{s:SpD}{e:Expr}(O:Own X.prog X.w X.K X.mg X.base CX k x ps (yd K s)) (hX:NoX CX) (hr:Room k X.A) (hg:Gl X x) (ha:DA K X (e::es) tr) (hdb:(x == ("__debug__" : Str))=false:=by decide)
  (he:starEach (e::es) X.env=(false,eval e X.env)::starEach es X.env:=by rfl) (hpl:(backTo pos (starEach es X.env)).any (·.1)=false:=by rfl):DE K X (.Call (.Name x p) (e::es) [] pos) (dCB s tr):=by
 refine PE.mono (qn9 O hX hr hg ha hdb he hpl) fun G H Q Oc=>?_;obtain⟨Y,U,Q0,hS,hM,h,cl⟩:=Oc;exact⟨Y,U,_,hS,hM,h,fun es U1 vs H1 q M1 s1 i1=>⟨U1,es,Q0,M1,by simpa using i1,q,cl.same s1⟩⟩
end
end L2
namespace L2
variable {a b:Expr}{tb:TSd}{p:Addr}{st:Stmt}{xs:List V}
section
variable {tb:TEd}{tA tB:TTd}
def tys:List String:=["int", "bool", "str", "list", "tuple"]
theorem qmT {n:String}{p:Pos}(hg:Gl X x) (hm:X.mg x=none) (hv:bootBuiltins x=some (.type n)) (hn:x ≠ "__name__" := by decide) (hd:(x == ("__debug__" : Str))=false:=by decide):DE K X (.Name x p) (fun _ U Q=>Q (.ty n) U) :=
 PE.mono (qlu (v:=.ty n) hg hm hv rfl hn hd) fun G H Q ⟨Y,U,Q0,hS,hM,h,cl⟩=>cl _ U (.ty n) H h hM (yr.refl _) rfl
theorem qjA:je X (.builtin "isinstance") (fun xs H Q=>∃ x n d,xs=[x,.ty n]/\Is X.K H x d/\n∈tys/\Q (.bl (isTy n d)) H):=by
 intro Oa s G H xs us Q I r h;obtain⟨x,n,d,rfl,ty,hn,q⟩:=h;obtain⟨u,u',rfl,rx,ry⟩:=qh9 r;cases ry
 have fin:∀ tk,EP X Oa G Q (.bool (isTy n d)) { s with toks:=tk }:=fun tk=>⟨.bl _,H,I.tok _,rfl,q⟩;have hn:n = "int" \/ n = "bool" \/ n = "str" \/ n = "list" \/ n = "tuple" := by simpa[tys] using hn
 cases ty with
 | non=>cases (show u=Value.none from rx);exact W.kia_one W.kitx_none I.kIn True.intro (by rcases hn with rfl | rfl | rfl | rfl | rfl <;> rfl) (fun z=>nomatch z) fin
 | bl y=>cases (show u=Value.bool y from rx);exact W.kia_one W.kitx_bool I.kIn True.intro (by rcases hn with rfl | rfl | rfl | rfl | rfl <;> rfl) (fun z=>nomatch z) fin
 | int i=>obtain⟨t,z⟩:=(show ∃ t,u=Value.int i t from rx);cases z;exact W.kia_one W.kitx_int I.kIn True.intro (by rcases hn with rfl | rfl | rfl | rfl | rfl <;> rfl) (fun z=>nomatch z) fin
 | str y=>obtain⟨t,z⟩:=(show ∃ t,u=Value.str y t from rx);cases z;exact W.kia_one W.kitx_str I.kIn True.intro (by rcases hn with rfl | rfl | rfl | rfl | rfl <;> rfl) (fun z=>nomatch z) fin
 | @lst a xs ds hq _ =>
  cases (show u=Value.ref a from rx)
  obtain⟨its,_,⟨o,n',h1,h2,_⟩,_⟩:=I.list hq;exact W.kia_one W.kitx_list I.kIn ⟨o,h1,h2⟩ (by rcases hn with rfl | rfl | rfl | rfl | rfl <;> rfl) (fun z=>nomatch z) fin
 | @dc a hq =>
  cases (show u=Value.ref a from rx)
  obtain⟨_,_,vs,_,o,es,ep,h1,h2,_⟩:=(show jB X.prog X.w H s.heap a (.dK []) from I.hok a _ hq);exact W.kia_one W.kitx_dict I.kIn ⟨o,h1,h2.1⟩ (by rcases hn with rfl | rfl | rfl | rfl | rfl <;> rfl) (fun z=>nomatch z) fin
 | @tup a xs ds hq _ =>
  cases (show u=Value.ref a from rx)
  obtain⟨its,_,⟨o,h1,h2,_⟩,_⟩:=I.tuple hq;exact W.kia_one W.kitx_tuple I.kIn ⟨o,h1,h2⟩ (by rcases hn with rfl | rfl | rfl | rfl | rfl <;> rfl) (fun z=>nomatch z) fin
def qnM:RAd:=fun es U Q=>match es with
 | [.d x,.ty n]=>n∈tys/\Q (.d (.bool (isTy n x))) U
 | [.m a,.ty n]=>n∈tys/\∃ ds,(a,.lst ds)∈U/\Q (.d (.bool (n == "list"))) U
 | _=>False
theorem qbh (hK:X.K=K:=by rfl):je X (.builtin "isinstance") (upC K qnM):=by
 subst hK;refine qjA.mono fun xs H Q h=>?_;obtain⟨U,es,Q0,M,hp,q,cl⟩:=h;unfold qnM at q;split at q
 .obtain ⟨v,v',rfl,i1,i2⟩:=qeX hp;have i2:v'=_:=i2;subst i2;exact⟨_,_,_,rfl,Is.same yO i1,q.1,cl _ U _ H q.2 M (yr.refl _) (.bl _)⟩
 .obtain ⟨v,v',rfl,i1,i2⟩:=qeX hp;have i2:v'=_:=i2;subst i2;obtain⟨hn,ds,hm,q⟩:=q;have hi:=(DatOf.m hm).is M i1;exact⟨_,_,_,rfl,hi,hn,cl _ U _ H q M (yr.refl _) (.bl _)⟩
 .exact q.elim
abbrev TGd:=En->Rho->Mu->(Rho->Mu->Prop)->Prop
abbrev qkI:=List PyData->Rho->Mu->(Rho->Mu->Prop)->Prop
def upG (K:W.Frag) (t:TGd):TG:=fun v G H Q=>∃ e Y U Q0,IsE K U H v e/\RelS K Y U G H/\RelM K U H/\t e Y U Q0/\ClR K U H Q0 Q
def upGs (K:W.Frag) (t:qkI):TGs:=fun vs G H Q=>∃ ds Y U Q0,IsAll K (mask U H) vs ds/\RelS K Y U G H/\RelM K U H/\t ds Y U Q0/\ClR K U H Q0 Q
def DG (K:W.Frag) (X:Cx) (tg:Expr) (t:TGd):Prop:=PG X tg (upG K t)
def DGs (K:W.Frag) (X:Cx) (tg:List Expr) (t:qkI):Prop:=PGs X tg (upGs K t)
theorem PG.mono {t t':TG}(h:PG X tg t) (f:∀ v G H Q,t' v G H Q->t v G H Q):PG X tg t':=fun Oa s G H v u Q I r q=>h Oa s G H v u Q I r (f _ _ _ _ q)
theorem PGs.mono {tg:List Expr}{t t':TGs}(h:PGs X tg t) (f:∀ v G H Q,t' v G H Q->t v G H Q):PGs X tg t':=fun Oa s G H v u Q I r q=>h Oa s G H v u Q I r (f _ _ _ _ q)
def jm (i:Nat):TGd:=fun e Y U Q=>Q (Y.set i (some e)) U
theorem yS (hN:X.N.Nodup) (hi:X.N[i]?=some x) (hx:Loc X.env.scope x) (hf:FnL X x:=by trivial):DG K X (.Name x pos) (jm i) :=
 PG.mono (qgo hN hi hx hf) fun v G H Q ⟨e,Y,U,Q0,i1,hS,hM,h,cl⟩=>cl _ U _ H h (hS.set i1) hM (yr.refl _)
theorem jp (hN:X.N.Nodup) (hi:X.N[i]?=some x:=by rfl) (hx:Loc X.env.scope x:=by trivial) (hf:FnL X x:=by trivial):DG K X (.Name x pos) (jm i):=yS hN hi hx hf
def qdF:qkI:=fun ds Y U Q=>match ds with
 | []=>Q Y U
 | _=>False
def Jo (t:TGd) (u:qkI):qkI:=fun ds Y U Q=>match ds with
 | x::r=>t (.d x) Y U fun Y' U'=>u r Y' U' Q
 | []=>False
theorem jG:DGs K X [] qdF:=PGs.mono qgm fun vs G H Q ⟨ds,Y,U,Q0,i1,hS,hM,h,cl⟩=>by
 unfold qdF at h;split at h
 .cases i1;exact⟨rfl,cl _ U _ H h hS hM (yr.refl _)⟩
 .exact h.elim
theorem yn {e:Expr}{t:TGd}{u:qkI}(h1:DG K X e t) (h2:DGs K X es u)
  (hs:(assignEach (e::es) X.env).map (·.2)=assign e X.env::(assignEach es X.env).map (·.2):=by rfl):DGs K X (e::es) (Jo t u):=PGs.mono (qbt h1 h2 hs) fun vs G H Q ⟨ds,Y,U,Q0,i1,hS,hM,h,cl⟩=>by
 unfold Jo at h;split at h
 .cases i1 with
  | cons i1 i2 =>
   refine⟨_,_,rfl,.d _,Y,U,_,i1,hS,hM,h,fun Y' U' G' H' q S' M' s'=>?_⟩;exact⟨_,Y',U',Q0,IsAll.same s' i2,S',M',q,cl.same s'⟩
 .exact h.elim
def qdE (n:Nat) (t:qkI):TGd:=fun e Y U Q=>match e with
 | .d (.tuple ds)=>ds.length=n/\t ds Y U Q
 | _=>False
theorem Jn {k:Nat}{t:qkI}(hc:X.calm=true) (h:DGs K X es t) (hK:X.K=K:=by rfl)
  (hn:(assignEach es X.env).length=n:=by rfl) (hst:(assignEach es X.env).findIdx? (·.1)=none:=by rfl):DG K X (.Tuple es k pos) (qdE n t):=by
 subst hK;refine PG.mono (qj9 hc h hn hst) fun v G H Q Oc=>?_;obtain⟨e,Y,U,Q0,i1,hS,hM,h,cl⟩:=Oc;unfold qdE at h;split at h
 .obtain ⟨p,xs,rfl,hq,hA⟩:=(SeqOf.t _).get hM i1;cases i1 with
  | tup h1 h2 =>
   refine⟨_,_,rfl,?_,by rw[h2.len];exact h.1,_,Y,U,Q0,h2,hS,hM,h.2,cl⟩;rcases h1 with (e | ⟨o,e⟩) | e
   .exact .inl (.inl (yO _ _ e))
   .exact .inl (.inr ⟨o,yO _ _ e⟩)
   .exact .inr e
 .exact h.elim
variable {rest:List Stmt}{t u:TSd}{e:Expr}
def dNext:TSd:=fun D Y U=>D.nx Y U
def dSeq (t u:TSd):TSd:=fun D Y U=>t { D with nx:=u D } Y U
theorem yA:DSs K X [] dNext:=PSs.mono qdf fun D G H ⟨Y,U,D0,hS,hM,h,cl⟩=>cl.nx _ U _ H h hS hM (yr.refl _)
theorem qq (h1:DS K X st t) (h2:DSs K X rest u):DSs K X (st::rest) (dSeq t u):=PSs.mono (yG h1 h2) fun D G H ⟨Y,U,D0,hS,hM,h,cl⟩ =>
 ⟨Y,U,_,hS,hM,h,⟨fun Y' U' G' H' q S' M' s'=>⟨Y',U',D0,S',M',q,cl.same s'⟩,cl.rt,cl.bk,cl.ct⟩⟩
theorem qE (h1:DS K X st t):DSs K X [st] t:=jn h1
theorem jF:DS K X st (fun _ _ _=>False):=PS.mono qiB fun D G H ⟨Y,U,D0,hS,hM,h,cl⟩=>h
def dDrop (te:TEd):TSd:=fun D Y U=>te Y U fun _ U1=>D.nx Y U1
theorem JU (he:DE K X e te) (hs:swapsWith e none pos.line X.env=pure false:=by rfl):DS K X (.Expr e pos) (dDrop te):=PS.mono (qdh he hs) fun D G H ⟨Y,U,D0,hS,hM,h,cl⟩ =>
 ⟨Y,U,_,hS,hM,h,fun e' U1 v H1 q M1 s1 i1=>cl.nx _ U1 _ H1 q (hS.same s1) M1 s1⟩
def dRet (te:TEd):TSd:=fun D Y U=>te Y U D.rt
theorem qS (he:DE K X e te):DS K X (.Return (some e) pos) (dRet te):=PS.mono (Y8 he) fun D G H ⟨Y,U,D0,hS,hM,h,cl⟩=>⟨Y,U,_,hS,hM,h,cl.rt⟩
def FzR (U:Mu) (e:En) (U':Mu) (e':En):Prop:=∀ (K:W.Frag) (v:V) (H:Hp),RelM K U H->IsE K U H v e->RelM K U' H/\IsE K U' H v e'/\yr (mask U H) (mask U' H)
theorem FzR.list : FzR (U1++(p,.lst ds)::U2) (.m p) (U1++U2) (.d (.list ds)):=fun K v H h i=>by
 obtain⟨M',s,hn⟩:=h.drop;obtain⟨xs,e,hs⟩:=h.ob p (.lst ds) 's';have i:v=_:=i;subst i;exact⟨M',.lst (SqL.of (by rw[yN hn];exact e)) (IsAll.same s hs),s⟩
theorem FzR.list1 : FzR ((p,.lst ds)::U2) (.m p) U2 (.d (.list ds)):=FzR.list (U1:=[])
def dRetF (te:TEd):TSd:=fun D Y U=>te Y U fun e U1=>∃ U2 e2,FzR U1 e U2 e2/\D.rt e2 U2
theorem qhs (he:DE K X e te):DS K X (.Return (some e) pos) (dRetF te):=PS.mono (Y8 he) fun D G H ⟨Y,U,D0,hS,hM,h,cl⟩=>⟨Y,U,_,hS,hM,h,fun e' U1 v H1 q M1 s1 i1=>by
 obtain⟨U2,e2,f,q⟩:=q;obtain⟨M2,i2,s2⟩:=f K v H1 M1 i1;exact cl.rt _ U2 _ H1 q M2 (s1.trans s2) i2⟩
def dIfS (c:TTd) (t u:TSd):TSd:=fun D Y U=>c Y U fun b U1=>if b=true then t D Y U1 else u D Y U1
theorem yY {a b:List Stmt}{tc:TTd}(hc:DT K X c tc) (ha:DSs K X a t) (hb:DSs K X b u):DS K X (.If c a b pos) (dIfS tc t u):=PS.mono (qgf hc ha hb) fun D G H ⟨Y,U,D0,hS,hM,h,cl⟩ =>
 ⟨Y,U,_,hS,hM,h,fun k U1 H1 q M1 s1=>by
  cases k with
  | true=>exact Z1 ⟨Y,U1,D0,hS.same s1,M1,by simpa using q,cl.same s1⟩
  | false=>exact Zf ⟨Y,U1,D0,hS.same s1,M1,by simpa using q,cl.same s1⟩⟩
def qpL (te:TEd) (g:TGd):TSd:=fun D Y U=>te Y U fun e U1=>g e Y U1 D.nx
theorem qkp (hN:X.N.Nodup) (hi:X.N[i]?=some x) (hx:Loc X.env.scope x) (he:DE K X e te) (hs:swapsWith e (some (.Name x pos')) pos.line X.env=pure false:=by rfl) (hf:FnL X x:=by trivial) :
  DS K X (.Assign [.Name x pos'] e pos) (qpL te (jm i)):=PS.mono (ZM hN hi hx he hs hf) fun D G H ⟨Y,U,D0,hS,hM,h,cl⟩ =>
 ⟨Y,U,_,hS,hM,h,fun e' U1 v H1 q M1 s1 i1=>cl.nx _ U1 _ H1 q ((hS.same s1).set i1) M1 s1⟩
theorem ds_st (hN:X.N.Nodup) (he:DE K X e te) (hi:X.N[i]?=some x:=by rfl) (hx:Loc X.env.scope x:=by trivial) (hs:swapsWith e (some (.Name x pos')) pos.line X.env=pure false:=by rfl) (hf:FnL X x:=by trivial):DS K X (.Assign [.Name x pos'] e pos) (qpL te (jm i)):=qkp hN hi hx he hs hf
theorem YK {g:TGd}(he:DE K X e te) (hg:DG K X tg g) (hs:swapsWithSole [tg] e pos.line X.env=pure false:=by rfl) (hw:swappedStores [tg] e X.env=pure none:=by rfl)
  (h1:(assignEach [tg] X.env).map (·.2)=[assign tg X.env]:=by rfl):DS K X (.Assign [tg] e pos) (qpL te g):=PS.mono (qgg he hg hs hw h1) fun D G H ⟨Y,U,D0,hS,hM,h,cl⟩ =>
 ⟨Y,U,_,hS,hM,h,fun e' U1 v H1 q M1 s1 i1=>⟨e',Y,U1,D0.nx,i1,hS.same s1,M1,q,cl.nx.same s1⟩⟩
def dPar (i j:Nat) (ta:TAd):TSd:=fun D Y U=>ta Y U fun es U1=>match es with
 | [e,e']=>D.nx ((Y.set i (some e)).set j (some e')) U1
 | _=>False
theorem qkq {ta:TAd}{px py pt:Pos}{kt k2 pt2} (hc:X.calm=true) (hN:X.N.Nodup) (hi:X.N[i]?=some x) (hj:X.N[j]?=some y) (hij:i≠j)
  (hx:X.env.scope.names.lookup x=some .local) (hy:X.env.scope.names.lookup y=some .local) (ha:DA K X [a,b] ta)
  (hw:swappedStores [.Tuple [.Name x px,.Name y py] kt pt] (.Tuple [a,b] k2 pt2) X.env=pure (some [x,y]))
  (hs:swapsWithSole [.Tuple [.Name x px,.Name y py] kt pt] (.Tuple [a,b] k2 pt2) pos.line X.env=pure false:=by rfl) :
  DS K X (.Assign [.Tuple [.Name x px,.Name y py] kt pt] (.Tuple [a,b] k2 pt2) pos) (dPar i j ta):=PS.mono (qnZ hc hN hi hj hij hx hy ha hw hs) fun D G H ⟨Y,U,D0,hS,hM,h,cl⟩ =>
 ⟨Y,U,_,hS,hM,h,fun es U1 vs H1 q M1 s1 i1=>by
  split at q
  .obtain ⟨v,v',rfl,h1,h2⟩:=qeX i1;exact⟨_,_,rfl,cl.nx _ U1 _ H1 q (((hS.same s1).set h1).set h2) M1 s1⟩
  .exact q.elim⟩
def dApp (to:TEd) (tr:TAd):TEd:=fun Y U Q=>to Y U fun x U1=>match x with
 | .m p=>(∃ ds0,(p,.lst ds0)∈U1)/\tr Y U1 fun es U2=>match es with
  | [.d z]=>∃ U3 U4 ds,U2=U3++(p,.lst ds)::U4/\ds.length<4000/\Q (.d .none) (U3++(p,.lst (ds++[z]))::U4)
  | _=>False
 | _=>False
theorem qjt {e:Expr}(ho:DE K X o to) (ha:DA K X [e] tr) (hK:X.K=K:=by rfl)
  (h:PE X o (up K to)->PA X [e] (upA K tr)->PE X (.Call (.Attribute o "append" p1) [e] [] pos) (tBM X.K "list" rAppend (up K to) (upA K tr))):DE K X (.Call (.Attribute o "append" p1) [e] [] pos) (dApp to tr):=by
 subst hK;refine PE.mono (h ho ha) fun G H Q Oc=>?_;obtain⟨Y,U,Q0,hS,hM,h,cl⟩:=Oc;refine⟨Y,U,_,hS,hM,h,fun x U1 v H1 q M1 s1 i1=>?_⟩;split at q
 .rename_i x' p
  obtain⟨⟨ds0,hd0⟩,q⟩:=q;have i1:v=_:=i1;subst i1;obtain⟨xs0,e0,_⟩:=M1.ob _ _ hd0;refine⟨.inl ⟨rfl,_,SqL.of e0⟩,Y,U1,_,hS.same s1,M1,q,fun es U2 vs H2 q2 M2 s2 i2=>?_⟩;split at q2
  .rename_i es' z
   obtain⟨U3,U4,ds,rfl,hl,q2⟩:=q2;obtain⟨v,rfl,h1⟩:=JN i2;obtain⟨xs,ex,hA⟩:=M2.ob p (.lst ds) 's';refine⟨p,xs,v,rfl,rfl,ex,jR (by rw[hA.len];lia),?_⟩;obtain⟨M3,s3⟩:=M2.write (H':=upd H2 p (.lst (xs++[v]))) (o':=.lst (ds++[z])) (fun b u e n=>by rw[qX n];exact e) fun ss=>⟨_,yg,IsAll.snoc (Is.same ss h1) (IsAll.same ss hA)⟩;exact cl _ _ .non _ q2 M3 ((s1.trans s2).trans s3) .non
  .exact q2.elim
 .exact q.elim
structure Itd where
 n:Nat
 item:Nat->En
 ok:Mu->Prop
abbrev TId:=Rho->Mu->(Itd->Mu->Prop)->Prop
def Sim (K:W.Frag) (J0:Itd) (U1:Mu) (H1:Hp) (J:It):Prop:=∀ U' H',RelM K U' H'->yr (mask U1 H1) (mask U' H')->J0.ok U'->∀ i,
 (i<J0.n->J.go i H'/\∀ x H2,J.yld i H' x H2->RelM K U' H2/\yr (mask U' H') (mask U' H2)/\IsE K U' H2 x (J0.item i))/\(J0.n<=i->J.stop i H')
def upI (K:W.Frag) (t:TId):TI:=fun G H R=>∃ Y U Q0,RelS K Y U G H/\RelM K U H/\t Y U Q0/\∀ J0 U1 J H1,Q0 J0 U1->RelM K U1 H1->yr (mask U H) (mask U1 H1)->Sim K J0 U1 H1 J->R J H1
def DI (K:W.Frag) (X:Cx) (tg iter:Expr) (t:TId):Prop:=PI X tg iter (upI K t)
theorem PI.mono {wi':TI}(h:PI X tg iter wi) (f:∀ G H R,wi' G H R->wi G H R):PI X tg iter wi':=fun Oa s G H R I q=>h Oa s G H R I (f _ _ _ q)
def itL (e:En) (ds:List PyData):Itd:=⟨ds.length,fun i=>.d (ds.getD i .none),fun U=>LstOf U e ds⟩
def itT (ds:List PyData):Itd:=⟨ds.length,fun i=>.d (ds.getD i .none),fun _=>True⟩
def itR (lo:Int) (n:Nat):Itd:=⟨n,fun i=>.d (.int (lo+i)),fun _=>True⟩
def diL (te:TEd):TId:=fun Y U Q=>te Y U fun e U1=>∃ ds,LstOf U1 e ds/\Q (itL e ds) U1
def diT (te:TEd):TId:=fun Y U Q=>te Y U fun e U1=>match e with
 | .d (.tuple ds)=>Q (itT ds) U1
 | _=>False
def diR1 (ta:TAd):TId:=fun Y U Q=>ta Y U fun es U1=>match es with
 | [.d (.int j)]=>-(2 ^ 62)<=j/\j<2 ^ 62/\Q (itR 0 j.toNat) U1
 | _=>False
theorem JQ {x:PyData}(h:ds[i]?=some x):ds.getD i .none=x:=by rw[ym,h];rfl
theorem ji {l:Expr}(hl:DE K X l te) (hK:X.K=K:=by rfl):DI K X tg l (diL te):=by
 subst hK;refine PI.mono (qll hl) fun G H R Oc=>?_;obtain⟨Y,U,Q0,hS,hM,h,cl⟩:=Oc;refine⟨Y,U,_,hS,hM,h,fun e U1 v H1 q M1 s1 i1=>?_⟩;obtain⟨ds,hL,q⟩:=q;obtain⟨p,xs,rfl,h1,h2⟩:=hL.get M1 i1;refine⟨p,rfl,⟨xs,h1⟩,cl _ U1 _ H1 q M1 s1 fun U' H' M' s' hok i=>?_⟩;obtain⟨p',xs',e',h3,h4⟩:=LstOf.get hok M' (i1.same s');cases e'
 have hl:=h4.len;refine⟨fun hi=>⟨⟨xs',xs'[i]'(by rw[hl];exact hi),h3,'s'⟩,?_⟩,fun hi=>⟨xs',h3,by rw[hl];exact hi⟩⟩;rintro x H2 ⟨rfl,hx⟩;refine⟨M',yr.refl _,?_⟩;obtain⟨d,e1,e2⟩:=h4.get (hx xs' h3);show Is X.K (mask U' H2) x (ds.getD i .none);rw[JQ e1];exact e2
theorem SqT.up (h:SqT K (mask U H) p xs):SqT K H p xs:=by
 rcases h with (e | ⟨o,e⟩) | e
 .exact .inl (.inl (yO _ _ e))
 .exact .inl (.inr ⟨o,yO _ _ e⟩)
 .exact .inr e
theorem SqT.same (s:yr H H') (h:SqT K H p xs):SqT K H' p xs:=by
 rcases h with (e | ⟨o,e⟩) | e
 .exact .inl (.inl (s _ _ e))
 .exact .inl (.inr ⟨o,s _ _ e⟩)
 .exact .inr e
theorem qoV {l:Expr}(hl:DE K X l te) (hK:X.K=K:=by rfl):DI K X tg l (diT te):=by
 subst hK;refine PI.mono (qn6 hl) fun G H R Oc=>?_;obtain⟨Y,U,Q0,hS,hM,h,cl⟩:=Oc;refine⟨Y,U,_,hS,hM,h,fun e U1 v H1 q M1 s1 i1=>?_⟩;split at q
 .rename_i ds
  cases i1 with
  | @tup p xs _ h1 h2 =>
   refine⟨p,rfl,⟨xs,h1.up⟩,cl _ U1 _ H1 q M1 s1 fun U' H' M' s' hok i=>?_⟩;have h3:=(SqT.same s' h1).up;have h4:=IsAll.same s' h2;have hl:=h4.len;refine⟨fun hi=>⟨⟨xs,xs[i]'(by rw[hl];exact hi),h3,'s'⟩,?_⟩,fun hi=>⟨xs,h3,by rw[hl];exact hi⟩⟩;rintro x H2 ⟨rfl,hx⟩;refine⟨M',yr.refl _,?_⟩;obtain⟨d,e1,e2⟩:=h4.get (hx xs h3);show Is X.K (mask U' H2) x (ds.getD i .none);rw[JQ e1];exact e2
 .exact q.elim
theorem qfV {lo:Int}:Sim K (itR lo n) U1 H1 (Itr lo n):=fun U' H' M' s' _ i =>
 ⟨fun hi=>⟨hi,fun x H2 ⟨e,y⟩=>by subst e y;exact⟨M',yr.refl _,.int _⟩⟩,fun hi=>hi⟩
theorem JE {ta:TAd}{p:Pos}(hg:Gl X "range") (hm:X.mg "range" = none) (ha:DA K X [a] ta) (hs:starEach [a] X.env=[(false,eval a X.env)]:=by rfl):DI K X tg (.Call (.Name "range" p) [a] [] pos) (diR1 ta) :=
 PI.mono (qgl hg hm ha hs) fun G H R ⟨Y,U,Q0,hS,hM,h,cl⟩=>⟨Y,U,_,hS,hM,h,fun es U1 vs H1 q M1 s1 i1=>by
  split at q
  .obtain ⟨v,rfl,h1⟩:=JN i1;cases h1
   exact⟨_,rfl,q.1,q.2.1,cl _ U1 _ H1 q.2.2 M1 s1 qfV⟩
  .exact q.elim⟩
def Wks (P:Rho->Mu->Prop):Rho->Mu->Prop:=fun Y U=>∃ Y' U',Wk Y U Y' U'/\P Y' U'
theorem Wks.of {P:Rho->Mu->Prop}(h:P Y U):Wks P Y U:=⟨Y,U,Wk.refl,h⟩
def dFor (ti:TId) (g:TGd) (tb:TSd):TSd:=fun D Y U=>ti Y U fun J U1=>∃ Pv:Nat->Rho->Mu->Prop,Pv 0 Y U1/\(∀ i Y' U',i<=J.n->Pv i Y' U'->J.ok U') ∧
 (∀ i Y' U',i<J.n->Pv i Y' U'->g (J.item i) Y' U' fun Y2 U2=>tb { D with nx:=Wks (Pv (i+1)),ct:=Wks (Pv (i+1)),bk:=D.nx } Y2 U2)/\∀ Y' U',Pv J.n Y' U'->D.nx Y' U'
theorem YJ {ti:TId}{g:TGd}{tb:TSd}(hp:PassesOwn 'M' X.A X.env X.xe) (hc:X.calm=true) (hi:DI K X tg iter ti) (hg:DG K X tg g) (hb:DSs K X body tb)
  (hs:∀ x,foldedSetIterable iter X.env x=pure x:=by intro _;rfl):DS K X (.For tg iter body [] pos) (dFor ti g tb):=by
 refine PS.mono (qn0 hp hc hi hg hb hs) fun D G H Oc=>?_;obtain⟨Y,U,D0,hS,hM,h,cl⟩:=Oc;refine⟨Y,U,_,hS,hM,h,fun J0 U1 J H1 q M1 s1 sim=>?_⟩;obtain⟨Pv,h0,hok,hstep,hend⟩:=q;refine⟨fun i m G' H'=>m=J0.n - i/\i<=J0.n/\∃ Y' U',RelS K Y' U' G' H'/\RelM K U' H'/\yr (mask U1 H1) (mask U' H')/\Pv i Y' U',⟨_,rfl,yj _,Y,U1,hS.same s1,M1,yr.refl _,h0⟩,?_⟩;rintro i m G' H' ⟨rfl,hi,Y',U',S',M',s',p⟩;have sm:=sim U' H' M' s' (hok i Y' U' hi p) i;by_cases hlt:i<J0.n
 .obtain ⟨hgo,hy⟩:=sm.1 hlt;refine .inr ⟨hgo,fun G2 H2=>∃ Y' U',RelS K Y' U' G2 H2/\RelM K U' H2/\yr (mask U1 H1) (mask U' H2)/\Pv (i+1) Y' U',fun G2 H2 z=>⟨J0.n - (i+1),'l',rfl,hlt,z⟩,fun x H2 y=>?_⟩;obtain⟨M2,s2,i2⟩:=hy x H2 y;refine⟨_,Y',U',_,i2,S'.same s2,M2,hstep i Y' U' hlt p,fun Y3 U3 G3 H3 q3 S3 M3 s3=>⟨Y3,U3,_,S3,M3,q3,?_⟩⟩;have st:=(s'.trans s2).trans s3;have again:∀ {Y4 U4 G4 H4},Wks (Pv (i+1)) Y4 U4->RelS K Y4 U4 G4 H4->RelM K U4 H4->yr (mask U3 H3) (mask U4 H4)->∃ Y' U',RelS K Y' U' G4 H4/\RelM K U' H4/\yr (mask U1 H1) (mask U' H4)/\Pv (i+1) Y' U':=by
   rintro Y4 U4 G4 H4 ⟨Y5,U5,wk,p5⟩ S4 M4 s4;obtain⟨S5,M5,s5⟩:=wk K G4 H4 S4 M4;exact⟨Y5,U5,S5,M5,(st.trans s4).trans s5,p5⟩
  exact⟨fun _ _ _ _ a b c d=>again a b c d,cl.rt.same (s1.trans st),cl.nx.same (s1.trans st),fun _ _ _ _ a b c d=>again a b c d⟩
 .have e:i=J0.n:=by lia
  subst e;exact .inl ⟨sm.2 (qk _),cl.nx _ U' _ H' (hend Y' U' p) S' M' (s1.trans s')⟩
def qo5 (c:TTd) (tb:TSd):TSd:=fun D Y U=>∃ Pv:Nat->Rho->Mu->Prop,(∃ m,Pv m Y U)/\∀ m Y' U',Pv m Y' U'->c Y' U' fun b U1=>if b=true then
 tb { D with nx:=fun Y2 U2=>∃ m',m'<m/\Wks (Pv m') Y2 U2,ct:=fun Y2 U2=>∃ m',m'<m/\Wks (Pv m') Y2 U2,bk:=D.nx } Y' U1 else D.nx Y' U1
theorem qjk {tc:TTd}{tb:TSd}(hp:PassesOwn 'M' X.A X.env X.xe) (hc:DT K X c tc) (hb:DSs K X body tb):DS K X (.While c body [] pos) (qo5 tc tb):=by
 refine PS.mono (qiz hp hc hb) fun D G H Oc=>?_;obtain⟨Y,U,D0,hS,hM,h,cl⟩:=Oc;obtain⟨Pv,⟨m0,h0⟩,hstep⟩:=h;refine⟨fun m G' H'=>∃ Y' U',RelS K Y' U' G' H'/\RelM K U' H'/\yr (mask U H) (mask U' H')/\Pv m Y' U',⟨m0,Y,U,hS,hM,yr.refl _,h0⟩,?_⟩;rintro m G' H' ⟨Y',U',S',M',s',p⟩;refine⟨Y',U',_,S',M',hstep m Y' U' p,fun k U1 H1 q M1 s1=>?_⟩;cases k with
 | true =>
  refine Z1 ⟨fun G2 H2=>∃ m',m'<m/\∃ Y' U',RelS K Y' U' G2 H2/\RelM K U' H2/\yr (mask U H) (mask U' H2)/\Pv m' Y' U',fun G2 H2 z=>z,Y',U1,_,S'.same s1,M1,by simpa using q,?_⟩;have st:=s'.trans s1;have again:∀ {Y4 U4 G4 H4},(∃ m',m'<m/\Wks (Pv m') Y4 U4)->RelS K Y4 U4 G4 H4->RelM K U4 H4->yr (mask U1 H1) (mask U4 H4)->∃ m',m'<m/\∃ Y' U',RelS K Y' U' G4 H4/\RelM K U' H4/\yr (mask U H) (mask U' H4)/\Pv m' Y' U':=by
   rintro Y4 U4 G4 H4 ⟨m',hm,Y5,U5,wk,p5⟩ S4 M4 s4;obtain⟨S5,M5,s5⟩:=wk K G4 H4 S4 M4;exact⟨m',hm,Y5,U5,S5,M5,(st.trans s4).trans s5,p5⟩
  exact⟨fun _ _ _ _ a b c d=>again a b c d,cl.rt.same st,cl.nx.same st,fun _ _ _ _ a b c d=>again a b c d⟩
 | false=>exact Zf (cl.nx _ U1 _ H1 (by simpa using q) (S'.same s1) M1 (s'.trans s1))
def qmy:TTd:=fun _ U Q=>Q true U
def qmV (K:W.Frag) (X:Cx) (ifs:List Expr) (t:TTd):Prop:=Ifs X ifs (upT K t)
theorem jH:qmV K X [] qmy:=fun Oa s G H Q I ⟨Y,U,Q0,hS,hM,h,cl⟩=>ql9 Oa s G H Q I (cl true U H h hM (yr.refl _))
theorem qhv {t:TTd}(h:DT K X c t):qmV K X [c] t:=ql8 h
def Fin1 (Q:En->Mu->Prop) (ys:List PyData) (U:Mu):Prop:=Q (.d (.list ys)) U
def qpa (k:Nat) (ti:TId) (g:TGd) (tt:TTd) (te:TEd):TEd:=fun Y U Q=>ti Y U fun J U1=>J.n<=4000/\∃ Pv:Nat->List PyData->Rho->Mu->Prop,Pv 0 [] (Y++List.replicate k none) U1/\(∀ i ys Y' U',i<=J.n->Pv i ys Y' U'->J.ok U') ∧
 (∀ i ys Y' U',i<J.n->Pv i ys Y' U'->g (J.item i) Y' U' fun Y2 U2=>tt Y2 U2 fun b U3=>if b=true then te Y2 U3 fun y U4=>∃ z,y = .d z/\Pv (i+1) (ys++[z]) Y2 U4 else Pv (i+1) ys Y2 U3) ∧
 ∀ ys Y' U',Pv J.n ys Y' U'->Fin1 Q ys U'
theorem qkZ {k:Nat}{ti:TId}{g:TGd}(h:up K (qpa k ti g tt te) G H Q):qni k (upI K ti) (upG K g) (upT K tt) (up K te) G H Q:=by
 obtain⟨Y,U,Q0,hS,hM,h,cl⟩:=h;refine⟨Y,U,_,hS,hM,h,fun J0 U1 J H1 q M1 s1 sim=>?_⟩;obtain⟨hn,Pv,h0,hok,hstep,hend⟩:=q;have S0:RelS K (Y++List.replicate k none) U1 (G++List.replicate k none) H1:=by
  have S1:=hS.same s1;refine⟨by simp[S1.len],fun i e he=>?_⟩;by_cases hi:i<Y.length
  .rw [qV hi] at he;rw[qV (by rw[<- S1.len];exact hi)];exact S1.get i e he
  .rw [yb 'l',ju] at he;split at he <;> cases he
 refine⟨fun i m ys G' H'=>m=J0.n - i/\i<=J0.n/\ys.length<=i/\∃ ds Y' U',RelS K Y' U' G' H'/\RelM K U' H'/\yr (mask U1 H1) (mask U' H')/\IsAll K (mask U' H') ys ds/\Pv i ds Y' U',⟨_,rfl,yj _,qk _,[],_,U1,S0,M1,yr.refl _,.nil,h0⟩,?_⟩;rintro i m ys G' H' ⟨rfl,hi,hy,ds,Y',U',S',M',s',hA,p⟩;have sm:=sim U' H' M' s' (hok i ds Y' U' hi p) i;by_cases hlt:i<J0.n
 .obtain ⟨hgo,hyl⟩:=sm.1 hlt;refine .inr ⟨hgo,jR 'l',fun ys2 G2 H2=>ys2.length<=i+1/\∃ ds Y' U',RelS K Y' U' G2 H2/\RelM K U' H2/\yr (mask U1 H1) (mask U' H2)/\IsAll K (mask U' H2) ys2 ds/\Pv (i+1) ds Y' U',fun ys2 G2 H2 z=>⟨J0.n - (i+1),'l',rfl,hlt,z⟩,fun x H2 y=>?_⟩;obtain⟨M2,s2,i2⟩:=hyl x H2 y;refine⟨_,Y',U',_,i2,S'.same s2,M2,hstep i ds Y' U' hlt p,fun Y3 U3 G3 H3 q3 S3 M3 s3=>⟨Y3,U3,_,S3,M3,q3,fun b U4 H4 q4 M4 s4=>?_⟩⟩;have st:=((s'.trans s2).trans s3).trans s4;cases b with
  | true =>
   refine Z1 ⟨Y3,U4,_,S3.same s4,M4,(by simpa using q4),fun e U5 v H5 q5 M5 s5 i5=>?_⟩;obtain⟨z,rfl,q5⟩:=q5;exact⟨by simp;lia,_,Y3,U5,(S3.same s4).same s5,M5,st.trans s5,IsAll.snoc i5 (IsAll.same (((s2.trans s3).trans s4).trans s5) hA),q5⟩
  | false=>exact Zf ⟨'l',_,Y3,U4,S3.same s4,M4,st,IsAll.same ((s2.trans s3).trans s4) hA,by simpa using q4⟩
 .have e:i=J0.n:=by lia
  subst e;refine .inl ⟨sm.2 (qk _),fun D hD=>?_⟩;obtain⟨M4,s4,hn⟩:=M'.laid (o:=.lst ys) hD;exact cl _ U' _ _ (hend ds Y' U' p) M4 ((s1.trans s').trans s4) (.lst (SqL.of (by rw[yN hn];exact yg)) (IsAll.same s4 hA))
theorem JF {ti:TId}{g:TGd}
  (hc:X.calm=true) (hsc:X.env.scope=sc) (hN:X.N=N) (ok:Jd sc N L scope=true)
  (hi:DI K X tg iter ti) (hg:∀ cl C sa2 Ha2 fp,DG K (qW X L scope cl C sa2 Ha2 fp) tg g) (hf:∀ cl C sa2 Ha2 fp,qmV K (qW X L scope cl C sa2 Ha2 fp) ifs tt) (he:∀ cl C sa2 Ha2 fp,DE K (qW X L scope cl C sa2 Ha2 fp) elt te)
  (hs:∀ x,foldedSetIterable iter X.env x=pure x:=by intro _;rfl) :
  DE K X (.ListComp elt [⟨tg,iter,ifs,0⟩] scope pos) (qpa L.length ti g tt te):=PE.mono (qls hc hsc hN ok hi hg hf he hs) fun _ _ _=>qkZ
end
theorem Paired.mapSome {es:List En}(h:Paired (IsE K U H) vs es) (n m:Nat) (hn:n - vs.length=m - es.length):RelS K (es.map some++List.replicate (m - es.length) none) U (vs.map some++List.replicate (n - vs.length) none) H:=by
 have hl:vs.length=es.length:=PySem.Paired.length h;refine⟨by simp[hl] at *;lia,fun i e he=>?_⟩;by_cases hi:i<es.length
 .rw [qV (by simpa using hi),qY] at he;rw[qV (by simp;lia),qY];cases q:es[i]? with
  | none=>rw[q] at he;cases he
  | some e' =>
   rw[q] at he;cases he
   obtain⟨v,e1,e2⟩:=L2.Paired.get' h q;exact⟨v,by rw[e1];rfl,e2⟩
 .rw [yb (by simp;lia),ju] at he;split at he <;> cases he
theorem Fun.okD {k:Nat}{sp:SpD}(F:Fun K x qual st f fd) (S:FnScope N ps (qR st)) (len:∀ es U Q,sp es U Q->es.length=ps.length)
  (hbody:∀ (Oy:Value) (A:Around) (outer:List Env) (s:Shared) (H:Hp) (E:XK) (es:List En) (U:Mu) (Q:En->Mu->Prop),Room k (A.deeper (envOfC qual (qR st) s.heap.objs.size f Oy))->sp es U Q →
   ∃ t,DSs K (ZT CX P w K mg base N qual (qR st) f Oy A outer s H E).nox (yP st) t/\t { nx:=fun _ U'=>Q (.d .none) U',rt:=Q } (es.map some++List.replicate (N.length - es.length) none) U):FnOk P w K mg base CX (k+1) f fd ps (yd K sp):=by
 refine F.okG S (fun vs H Q E ⟨U,es,Q0,M,hp,h,cl⟩=>(PySem.Paired.length hp).trans (len es U Q0 h)) (fun Oy A outer s H vs Q E hr ⟨U,es,Q0,M,hp,h,cl⟩=>?_);obtain⟨t,ht,hq⟩:=hbody Oy A outer s H E es U Q0 hr h;have hl:vs.length=es.length:=PySem.Paired.length hp;refine⟨upS K t,ht,_,U,_,Paired.mapSome hp N.length N.length (by rw[hl]),M,hq,⟨fun Y' U' G' H' q S' M' s'=>cl _ U' .non H' q M' s' .non,cl,fun _ _ _ _ q=>q.elim,fun _ _ _ _ q=>q.elim⟩⟩
theorem Own.imp {k:Nat}(O:k<<<(x,ps,sp)) (h:∀ vs H Q E,sp' vs H Q E->sp vs H Q E):k<<<(x,ps,sp'):=by
 obtain⟨f,fd,F,r⟩:=O;exact⟨f,fd,F.imp h,r⟩
end L2
variable {ti:L2.TId}{g:L2.TGd}{J:L2.Itd}
namespace L2
section
variable {a b:Expr}{tb:TEd}{tA tB:TTd}
def qpA (neg:Bool):R2d:=fun x y U Q=>match x,y with
 | .d (.bool i),.d (.bool j)=>Q (.d (.bool (if neg then i != j else i == j))) U
 | .d .none,.d .none=>Q (.d (.bool (!neg))) U
 | .d (.bool _),.d .none=>Q (.d (.bool neg)) U
 | .d (.int _),.d .none=>Q (.d (.bool neg)) U
 | .d (.tuple _),.d .none=>Q (.d (.bool neg)) U
 | .d (.list _),.d .none=>Q (.d (.bool neg)) U
 | _,_=>False
theorem do_is:OpR X (compareOp .Is) (upR K (qpA false)):=by
 intro Oa s G H x y v u Q I rx ry h;obtain⟨U,e,e',Q0,M,i1,i2,q,cl⟩:=h;unfold qpA at q;split at q
 .cases i1;cases i2;cases rx;cases ry
  exact is_bool ⟨.bl _,H,I,rfl,cl _ U _ H q M (yr.refl _) (.bl _)⟩
 .cases i1;cases i2;cases rx;cases ry
  exact is_none_gen ⟨.bl _,H,I,rfl,cl _ U _ H q M (yr.refl _) (.bl _)⟩
 .cases i1;cases i2;cases rx;cases ry
  exact is_none_gen ⟨.bl _,H,I,rfl,cl _ U _ H q M (yr.refl _) (.bl _)⟩
 .cases i1;cases i2;obtain⟨t,rfl⟩:=rx;cases ry
  exact is_none_gen ⟨.bl _,H,I,rfl,cl _ U _ H q M (yr.refl _) (.bl _)⟩
 .cases i1;cases i2;cases rx;cases ry
  exact is_none_gen ⟨.bl _,H,I,rfl,cl _ U _ H q M (yr.refl _) (.bl _)⟩
 .cases i1;cases i2;cases rx;cases ry
  exact is_none_gen ⟨.bl _,H,I,rfl,cl _ U _ H q M (yr.refl _) (.bl _)⟩
 .exact q.elim
theorem qjm:OpR X (compareOp .IsNot) (upR K (qpA true)):=by
 intro Oa s G H x y v u Q I rx ry h;obtain⟨U,e,e',Q0,M,i1,i2,q,cl⟩:=h;unfold qpA at q;split at q
 .cases i1;cases i2;cases rx;cases ry
  exact isnot_bool ⟨.bl _,H,I,rfl,cl _ U _ H q M (yr.refl _) (.bl _)⟩
 .cases i1;cases i2;cases rx;cases ry
  exact isnot_none_gen ⟨.bl false,H,I,rfl,cl (.d (.bool false)) U _ H q M (yr.refl _) (Is.bl _)⟩
 .cases i1;cases i2;cases rx;cases ry
  exact isnot_none_gen ⟨.bl _,H,I,rfl,cl _ U _ H q M (yr.refl _) (.bl _)⟩
 .cases i1;cases i2;obtain⟨t,rfl⟩:=rx;cases ry
  exact isnot_none_gen ⟨.bl _,H,I,rfl,cl _ U _ H q M (yr.refl _) (.bl _)⟩
 .cases i1;cases i2;cases rx;cases ry
  exact isnot_none_gen ⟨.bl _,H,I,rfl,cl _ U _ H q M (yr.refl _) (.bl _)⟩
 .cases i1;cases i2;cases rx;cases ry
  exact isnot_none_gen ⟨.bl _,H,I,rfl,cl _ U _ H q M (yr.refl _) (.bl _)⟩
 .exact q.elim
def rdIx:R2d:=fun x y U Q=>match x,y with
 | .d (.tuple ds),.d (.int i)=>∃ z,atI ds i=some z/\Q (.d z) U
 | .d (.list ds),.d (.int i)=>∃ z,atI ds i=some z/\Q (.d z) U
 | .m p,.d (.int i)=>∃ ds z,(p,.lst ds)∈U/\atI ds i=some z/\Q (.d z) U
 | _,_=>False
theorem ya (hK:X.K=K:=by rfl):IxR X (upR K rdIx):=by
 refine (IxR.or (qmh (K:=K) hK) (qoS (K:=K) hK)).mono fun x y H Q h=>?_;obtain⟨U,e,e',Q0,M,i1,i2,q,cl⟩:=h;unfold rdIx at q;split at q
 .exact .inr ⟨U,_,_,Q0,M,i1,i2,q,cl⟩
 .obtain ⟨z,h1,q⟩:=q;exact .inl ⟨U,_,_,Q0,M,i1,i2,⟨_,z,.d _,h1,q⟩,cl⟩
 .obtain ⟨ds,z,h0,h1,q⟩:=q;exact .inl ⟨U,_,_,Q0,M,i1,i2,⟨ds,z,.m h0,h1,q⟩,cl⟩
 .exact q.elim
def qnO:R2d:=fun x y U Q=>match x,y with
 | .d (.int i),.d (.int j)=>Q (.d (.int (i+j))) U
 | _,_=>∃ ds es,LstOf U x ds/\LstOf U y es/\ds.length+es.length<=4000/\Q (.d (.list (ds++es))) U
section forms
variable {tb:TSd}{D:EndsD}{Q:En->Mu->Prop}
theorem qpK {e:En}(Pv:Nat->Rho->Mu->Prop) (h0:Pv 0 Y U) (hok:∀ i Y' U',Pv i Y' U'->LstOf U' e ds)
  (hs:∀ i x Y' U',ds[i]?=some x->Pv i Y' U'->g (.d x) Y' U' fun Y2 U2=>tb { D with nx:=Wks (Pv (i+1)),ct:=Wks (Pv (i+1)),bk:=D.nx } Y2 U2) (hd:∀ Y' U',Pv ds.length Y' U'->D.nx Y' U') :
  ∃ Pv:Nat->Rho->Mu->Prop,Pv 0 Y U/\(∀ i Y' U',i<=(itL e ds).n->Pv i Y' U'->(itL e ds).ok U') ∧
   (∀ i Y' U',i<(itL e ds).n->Pv i Y' U'->g ((itL e ds).item i) Y' U' fun Y2 U2=>tb { D with nx:=Wks (Pv (i+1)),ct:=Wks (Pv (i+1)),bk:=D.nx } Y2 U2)/\∀ Y' U',Pv (itL e ds).n Y' U'->D.nx Y' U':=by
 refine⟨Pv,h0,fun i Y' U' _ p=>hok i Y' U' p,fun i Y' U' hi p=>?_,hd⟩;have hi:i<ds.length:=hi;have e1:ds[i]?=some ds[i]:=qh hi;show g (.d (ds.getD i .none)) Y' U' _;rw[JQ e1];exact hs i _ Y' U' e1 p
theorem qmS {lo:Int}(Pv:Nat->Rho->Mu->Prop) (h0:Pv 0 Y U)
  (hs:∀ i Y' U',i<n->Pv i Y' U'->g (.d (.int (lo+i))) Y' U' fun Y2 U2=>tb { D with nx:=Wks (Pv (i+1)),ct:=Wks (Pv (i+1)),bk:=D.nx } Y2 U2) (hd:∀ Y' U',Pv n Y' U'->D.nx Y' U') :
  ∃ Pv:Nat->Rho->Mu->Prop,Pv 0 Y U/\(∀ i Y' U',i<=(itR lo n).n->Pv i Y' U'->(itR lo n).ok U') ∧
   (∀ i Y' U',i<(itR lo n).n->Pv i Y' U'->g ((itR lo n).item i) Y' U' fun Y2 U2=>tb { D with nx:=Wks (Pv (i+1)),ct:=Wks (Pv (i+1)),bk:=D.nx } Y2 U2)/\∀ Y' U',Pv (itR lo n).n Y' U'->D.nx Y' U' :=
 ⟨Pv,h0,fun i Y' U' _ p=>trivial,fun i Y' U' hi p=>hs i Y' U' hi p,hd⟩
abbrev qdT (k:Nat) (J:Itd) (g:TGd) (tt:TTd) (te:TEd) (Y:Rho) (U1:Mu) (Q:En->Mu->Prop):Prop:=∃ Pv:Nat->List PyData->Rho->Mu->Prop,Pv 0 [] (Y++List.replicate k none) U1/\(∀ i ys Y' U',i<=J.n->Pv i ys Y' U'->J.ok U') ∧
 (∀ i ys Y' U',i<J.n->Pv i ys Y' U'->g (J.item i) Y' U' fun Y2 U2=>tt Y2 U2 fun b U3=>if b=true then te Y2 U3 fun y U4=>∃ z,y = .d z/\Pv (i+1) (ys++[z]) Y2 U4 else Pv (i+1) ys Y2 U3) ∧
 ∀ ys Y' U',Pv J.n ys Y' U'->Fin1 Q ys U'
theorem jt {ds:List α}{x:α}(h:ds[i]?=some x):ds.take (i+1)=ds.take i++[x]:=by rw[List.take_add_one,h];rfl
theorem takeN (f:α->β) {ds:List α}(hi:i<ds.length):(ds.take (i+1)).map f=(ds.take i).map f++[f ds[i]]:=by rw[jt (qh hi),ye];rfl
structure Src (J:Itd) (ds:List PyData) (U:Mu):Prop where
 n:J.n=ds.length
 it:∀ i x,ds[i]?=some x->J.item i = .d x
 ok:J.ok U
theorem Src.l {e:En}(h:LstOf U e ds):Src (itL e ds) ds U:=⟨rfl,fun i x e=>by show En.d (ds.getD i .none)=_;rw[JQ e],h⟩
theorem Src.d : Src (itL (.d (.list ds)) ds) ds U:=Src.l (.d ds)
theorem Src.t : Src (itT ds) ds U:=⟨rfl,fun i x e=>by show En.d (ds.getD i .none)=_;rw[JQ e],trivial⟩
theorem qpd (f:PyData->PyData) (S:Src J ds U)
  (hs:∀ x,x∈ds->∀ R:En->Mu->Prop,R (.d (f x)) U->te (Y++[some (.d x)]) U R) (hq:Q (.d (.list (ds.map f))) U):qdT 1 J (jm Y.length) qmy te Y U Q:=by
 refine⟨fun i ys Y' U'=>U'=U/\ys=(ds.take i).map f/\∃ v,Y'=Y++[v],⟨rfl,rfl,none,rfl⟩,fun i ys Y' U' _ ⟨h,_⟩=>by subst h;exact S.ok,?_,?_⟩
 .rintro i ys Y' U' hi ⟨rfl,rfl,v,rfl⟩;rw[S.n] at hi;rw[S.it i _ (qh hi)];unfold jm qmy;have e2:(Y++[v]).set Y.length (some (.d ds[i]))=Y++[some (.d ds[i])]:=by simp
  rw[e2];exact Z1 (hs ds[i] (yh hi) _ ⟨_,rfl,rfl,(takeN f hi).symm,_,rfl⟩)
 .rintro ys Y' U' ⟨rfl,rfl,_⟩;rw[S.n,y3];exact hq
theorem qph {as:List α}{h1 h2:α->PyData}(p:α->Bool) (f:α->PyData) (S:Src J (as.map fun a=>.tuple [h1 a,h2 a]) U)
  (ht:∀ a,a∈as->∀ R:Bool->Mu->Prop,R (p a) U->tt (Y++[some (.d (h1 a)),some (.d (h2 a))]) U R)
  (hs:∀ a,a∈as->p a=true->∀ R:En->Mu->Prop,R (.d (f a)) U->te (Y++[some (.d (h1 a)),some (.d (h2 a))]) U R) (hq:Q (.d (.list ((as.filter p).map f))) U):qdT 2 J (qdE 2 (Jo (jm Y.length) (Jo (jm (Y.length+1)) qdF))) tt te Y U Q:=by
 have hl:J.n=as.length:=by rw[S.n];simp
 refine⟨fun i ys Y' U'=>U'=U/\ys=((as.take i).filter p).map f/\∃ v w,Y'=Y++[v,w],⟨rfl,rfl,none,none,rfl⟩,fun i ys Y' U' _ ⟨h,_⟩=>by subst h;exact S.ok,?_,?_⟩
 .rintro i ys Y' U' hi ⟨rfl,rfl,v,w,rfl⟩;rw[hl] at hi;rw[S.it i (.tuple [h1 as[i],h2 as[i]]) (by rw[qY,qh hi];rfl)];refine⟨rfl,?_⟩;show tt (((Y++[v,w]).set Y.length _).set (Y.length+1) _) U' _;have e2:((Y++[v,w]).set Y.length (some (.d (h1 as[i])))).set (Y.length+1) (some (.d (h2 as[i])))=Y++[some (.d (h1 as[i])),some (.d (h2 as[i]))]:=by simp[List.set_append]
  rw[e2];refine ht as[i] (yh hi) _ ?_;cases hp:p as[i] with
  | true =>
   refine Z1 (hs as[i] (yh hi) hp _ ⟨_,rfl,rfl,?_,_,_,rfl⟩);rw[jt (qh hi),List.filter_append,ye];simp[hp]
  | false =>
   refine Zf ⟨rfl,?_,_,_,rfl⟩;rw[jt (qh hi),List.filter_append,ye];simp[hp]
 .rintro ys Y' U' ⟨rfl,rfl,_⟩;rw[hl,y3];exact hq
theorem qpg {as:List α}{h1 h2:α->PyData}(f:α->PyData) (S:Src J (as.map fun a=>.tuple [h1 a,h2 a]) U)
  (hs:∀ a,a∈as->∀ R:En->Mu->Prop,R (.d (f a)) U->te (Y++[some (.d (h1 a)),some (.d (h2 a))]) U R) (hq:Q (.d (.list (as.map f))) U):qdT 2 J (qdE 2 (Jo (jm Y.length) (Jo (jm (Y.length+1)) qdF))) qmy te Y U Q :=
 qph (fun _=>true) f S (fun a _ R h=>h) (fun a ha _=>hs a ha) (by rw[List.filter_eq_self.mpr (fun _ _=>rfl)];exact hq)
end forms
end
end L2
namespace L2
variable {a b M:Int}{B:Nat}{p:Addr}
def Num (n:Int):Prop:=-1000000000000000000000000000000<n/\n<1000000000000000000000000000000
def Jf (p:Pt):Prop:=Num p.1/\Num p.2
def dvs (a b:Int):Int:=if a<0\/(a=0/\b<0) then -(Int.gcd a b:Int) else (Int.gcd a b:Int)
theorem qhe (h:a≠0\/b≠0):0<Int.gcd a b:=Int.gcd_pos_iff.mpr h
theorem qaG (h:a≠0\/b≠0):dvs a b≠0:=by
 have:=qhe h;unfold dvs;split <;> lia
theorem qbK : (Int.gcd a b:Int) ∣ a:=Int.gcd_dvd_left ..
theorem qbJ : (Int.gcd a b:Int) ∣ b:=Int.gcd_dvd_right ..
theorem qhf (h:a≠0\/b≠0) (ha:a.natAbs<=B) (hb:b.natAbs<=B):Int.gcd a b<=B:=by
 rcases h with h | h
 .exact qz (Nat.le_of_dvd 'l' (Int.natAbs_dvd_natAbs.mpr (qbK (a:=a) (b:=b)))) ha
 .exact qz (Nat.le_of_dvd 'l' (Int.natAbs_dvd_natAbs.mpr (qbJ (a:=a) (b:=b)))) hb
theorem qhr (a b:Int):(dvs a b).natAbs=Int.gcd a b:=by
 unfold dvs;split <;> lia
theorem qcD (a b:Int):dvs a b ∣ a:=by
 unfold dvs;split
 .exact Int.neg_dvd.mpr qbK
 .exact qbK
theorem qcC (a b:Int):dvs a b ∣ b:=by
 unfold dvs;split
 .exact Int.neg_dvd.mpr qbJ
 .exact qbJ
theorem qex {d:Int}(hd:d≠0) (h:d ∣ a):(a.fdiv d).natAbs<=a.natAbs:=by
 obtain⟨c,rfl⟩:=h;rw[Int.mul_fdiv_cancel_left _ hd,Int.natAbs_mul];exact Nat.le_mul_of_pos_left _ 'l'
theorem qjf {f r:Nat}:Nat.gcd r (f % r)=Nat.gcd f r:=by rw[Nat.gcd_comm r (f % r),<- Nat.gcd_rec,Nat.gcd_comm]
def nrm (a b:Int):Pt:=(a.fdiv (dvs a b),b.fdiv (dvs a b))
def IsN (q:Pt):Prop:=Int.gcd q.1 q.2=1/\(0<q.1\/(q.1=0/\q.2=1))
def Bd (B:Nat) (q:Pt):Prop:=q.1.natAbs<=B/\q.2.natAbs<=B
theorem qdq (a b:Int) (h:a≠0\/b≠0):a=dvs a b * (nrm a b).1/\b=dvs a b * (nrm a b).2:=by
 have d0:=qaG h;obtain⟨c,hc⟩:=qcD a b;obtain⟨e,he⟩:=qcC a b;unfold nrm;dsimp only;constructor
 .conv=>rhs;rhs;arg 1;rw[hc]
  rw[Int.mul_fdiv_cancel_left _ d0];exact hc
 .conv=>rhs;rhs;arg 1;rw[he]
  rw[Int.mul_fdiv_cancel_left _ d0];exact he
theorem qkc (h:a≠0\/b≠0) (ha:a.natAbs<=B) (hb:b.natAbs<=B):Bd B (nrm a b) :=
 ⟨qz (qex (qaG h) (qcD a b)) ha,qz (qex (qaG h) (qcC a b)) hb⟩
theorem qlQ (h:a≠0\/b≠0):IsN (nrm a b):=by
 obtain⟨h1,h2⟩:=qdq a b h;have d0:=qaG h;have g0:=qhe h;have hg:Int.gcd a b=(dvs a b).natAbs * Int.gcd (nrm a b).1 (nrm a b).2:=by
  have e:Int.gcd (dvs a b * (nrm a b).1) (dvs a b * (nrm a b).2)=(dvs a b).natAbs * Int.gcd (nrm a b).1 (nrm a b).2:=Int.gcd_mul_left ..;rw[<- h1,<- h2] at e;exact e
 rw[qhr] at hg;have g1:Int.gcd (nrm a b).1 (nrm a b).2=1:=by
  have:=Nat.eq_of_mul_eq_mul_left g0 (show Int.gcd a b * Int.gcd (nrm a b).1 (nrm a b).2=Int.gcd a b * 1 by lia);exact this
 refine⟨g1,?_⟩;generalize nrm a b=q at *;by_cases ha:a=0
 .right;have hq:q.1=0:=by
   have:dvs a b * q.1=0:=by rw[<- h1];exact ha
   rcases Int.mul_eq_zero.mp this with z | z
   .exact absurd z d0
   .exact z
  refine⟨hq,?_⟩;rw[hq] at g1;simp at g1;have hb:b≠0:=by rcases h with h | h;exact absurd ha h;exact h
  have:q.2=1\/q.2 = -1:=by lia
  rcases this with z | z
  .exact z
  .exfalso;unfold dvs at h2;rw[z] at h2;split at h2 <;> lia
 .left;have hp:0<dvs a b * q.1\/dvs a b * q.1<0:=by lia
  unfold dvs at h1;split at h1
  .have:a<0:=by lia
   have h1':(Int.gcd a b:Int) * q.1 = -a:=by rw[Int.neg_mul] at h1;lia
   exact Int.pos_of_mul_pos_right (by rw[h1'];lia) 'l'
  .have:0<a:=by lia
   exact Int.pos_of_mul_pos_right (a:=(Int.gcd a b:Int)) (by rw[<- h1];exact this) 'l'
theorem qew {d:Int}(hB:B<2 ^ 1000) (h0:d≠0) (hd:d.natAbs<=B):qjM a d:=⟨h0,yJ hd hB⟩
def crs (p q:Pt):Int:=p.1 * q.2 - p.2 * q.1
theorem qbP {p:Pt}(hp:IsN p) (hq:IsN q) (h:crs p q=0):p=q:=by
 obtain⟨a,b⟩:=p;obtain⟨c,d⟩:=q;obtain⟨g1,s1⟩:=hp;obtain⟨g2,s2⟩:=hq;unfold crs at h;dsimp only at *;have e:a * d=b * c:=by lia
 have i1:a.natAbs ∣ c.natAbs:=by
  have:a.natAbs ∣ b.natAbs * c.natAbs:=⟨d.natAbs,by rw[<- Int.natAbs_mul,<- Int.natAbs_mul,e]⟩;exact Nat.Coprime.dvd_of_dvd_mul_left (show Nat.Coprime a.natAbs b.natAbs from g1) this
 have i2:c.natAbs ∣ a.natAbs:=by
  have:c.natAbs ∣ d.natAbs * a.natAbs:=⟨b.natAbs,by rw[<- Int.natAbs_mul,<- Int.natAbs_mul,Int.mul_comm d a,e,Int.mul_comm]⟩;exact Nat.Coprime.dvd_of_dvd_mul_left (show Nat.Coprime c.natAbs d.natAbs from g2) this
 have hac:a.natAbs=c.natAbs:=Nat.dvd_antisymm i1 i2;have hac':a=c:=by lia
 subst hac';by_cases ha:a=0
 .subst ha;have:b=1:=by lia
  have:d=1:=by lia
  subst_vars;rfl
 .have:d=b:=Int.eq_of_mul_eq_mul_left ha (by rw[e,Int.mul_comm]);rw[this]
theorem FzR.pot (ha:0<=a) (hb:0<=b) (hm:b<M):FzR ((p,.lst [.int a,.int b])::U) (.m p) ((p,.pot M)::U) (.m p):=fun K v H h i=>by
 have e:mask ((p,.lst [.int a,.int b])::U) H=mask ((p,.pot M)::U) H:=rfl;refine⟨⟨by simpa using h.nd,fun b' o ho=>?_⟩,i,by rw[e];exact yr.refl _⟩;rcases qF.mp ho with z | z
 .cases z
  obtain⟨xs,e1,hs⟩:=h.ob p _ qj;have:=IsAll.ints_of (ns:=[a,b]) hs;subst this;exact⟨a,b,e1,ha,hb,hm⟩
 .have:=h.ob b' o (qe _ z);exact this.same (by rw[e];exact yr.refl _) rfl
def qfS (M:Int):Sp:=fun vs H Q _=>∃ (p:Addr) (m:Int),vs=[.ref p,.int m]/\Pot M H p/\0<m/\m<=100000000/\∀ d H',0<=d->d<m->Pot M H' p->Stp p H H'->Q (.int d) H'
def qdc (M:Int):SpD:=fun es U Q=>∃ (p:Addr) (m:Int),es=[.m p,.d (.int m)]/\(p,.pot M)∈U/\0<m/\m<=100000000/\∀ d,0<=d->d<m->Q (.d (.int d)) U
def qpz (M:Int):SpD:=fun es U Q=>∃ (p:Addr),es=[.m p]/\(p,.pot M)∈U/\∀ n,Num n->Q (.d (.int n)) U
theorem qlh (h:RelM K U H) (hp:(p,.pot M)∈U) (hP:Pot M H' p) (s:Stp p H H'):RelM K U H'/\yr (mask U H) (mask U H'):=by
 obtain⟨U1,U2,rfl⟩:=List.append_of_mem hp;exact h.write (fun b u e n=>s b u e n) fun _=>hP
theorem qmk {E:XK}(h:yd K (qdc M) vs H Q E):qfS M vs H Q E:=by
 obtain⟨U,es,Q0,hM,hp,⟨p,m,rfl,hpot,m0,m1,q⟩,cl⟩:=h;obtain⟨v,v',rfl,i1,i2⟩:=qeX hp;have i1:v=_:=i1;subst i1;cases i2
 refine⟨p,m,rfl,hM.ob _ _ hpot,m0,m1,fun d H' d0 d1 hP s=>?_⟩;obtain⟨M',s'⟩:=qlh hM hpot hP s;exact cl _ U _ H' (q d d0 d1) M' s' (.int d)
theorem zl0:0<=4000:=by decide
theorem zl1:1<=4000:=by decide
theorem zl2:2<=4000:=by decide
theorem zl3:3<=4000:=by decide
end L2
namespace L2
theorem qcd (p:Pt):SeqAt.shaped (ptD p)=true:=jz [p.1,p.2]
theorem qmE (p q:Pt):crs q p = - crs p q:=by
 unfold crs;rw[Int.mul_comm q.1 p.2,Int.mul_comm q.2 p.1];lia
theorem qeD (p:Pt):crs p p=0:=by
 have:=qmE p p;lia
end L2
namespace L2
section
variable {a b:Expr}{tb:TEd}{tA tB:TTd}
def rCatS (K:W.Frag):R2:=fun x y H Q=>∃ l b xs zs,x = .ref l/\y = .ref b/\SqL K H l xs/\SqL K H b zs/\xs.length+zs.length<=sizeLine/\∀ p,H p=none->Q (.ref p) (upd H p (.lst (xs++zs)))
theorem qly:OpR X (binaryOp .Add) (rCatS X.K):=by
 intro Oa s G H x y v u Q I rx ry h;obtain⟨l,b,xs,zs,rfl,rfl,hH,hB,hz,q⟩:=h;cases rx
 cases ry
 obtain⟨its,r,pl,_⟩:=I.list hH;obtain⟨its2,r2,pl2,_⟩:=I.list hB;obtain⟨⟨cls,dd,data,sl⟩,ho,hc,n,hd⟩:=pl.isList;obtain⟨⟨cls2,dd2,data2,sl2⟩,ho2,hc2,n2,hd2⟩:=pl2.isList;simp only at hc hd hc2 hd2;subst hc hd hc2 hd2;have h1:=r.length;have h2:=r2.length;have e:its.toArray++its2.toArray=(its++its2).toArray:=by simp
 refine concat_meets ⟨_,ho,rfl⟩ ⟨_,ho2,rfl⟩ noFill_list_add seq_list_add PySem.F.slot_list_add PySem.F.entry_list_add (PySem.F.args_list_add_2 _ _) (list_addW l b its.toArray its2.toArray n n2 dd dd2 sl sl2 (by simp;lia)) ⟨ho,ho2,?_⟩;rw[e];exact⟨.ref _,_,I.lnew (t':=s.toks) (r.append r2) (by rw[qr];lia),rfl,q _ I.fresh⟩
theorem ZQ (hK:X.K=K:=by rfl):OpR X (binaryOp .Add) (upR K qnO):=by
 subst hK;refine (OpR.or (qgu (X:=X)) qly).mono fun x y H Q h=>?_;obtain⟨U,e,e',Q0,M,i1,i2,q,cl⟩:=h;unfold qnO at q;split at q
 .cases i1;cases i2
  exact .inl ⟨_,_,rfl,rfl,cl _ U _ H q M (yr.refl _) (.int _)⟩
 .obtain ⟨ds,es,h1,h2,hl,q⟩:=q;obtain⟨p,xs,rfl,a1,a2⟩:=h1.get M i1;obtain⟨p',xs',rfl,b1,b2⟩:=h2.get M i2;refine .inr ⟨p,p',xs,xs',rfl,rfl,a1,b1,yT (jR (by rw[a2.len,b2.len];exact hl)),fun l hl=>?_⟩;obtain⟨M4,s4,hn⟩:=M.laid (o:=.lst (xs++xs')) hl;exact cl _ U _ _ q M4 s4 (.lst (SqL.of (by rw[yN hn];exact yg)) (IsAll.same s4 (IsAll.app b2 a2)))
def qpb (r r':R2d) (ta tb tc:TEd):TEd:=fun Y U Q=>ta Y U fun x U1=>tb Y U1 fun y U2=>r x y U2 fun z U3=>match z with
 | .d (.bool k)=>if k=true then tc Y U3 fun u U4=>r' y u U4 Q else Q (.d (.bool false)) U3
 | _=>False
theorem qhE {op':CmpOp}{r r':R2d}(ho:OpR X (compareOp op) (upR K r)) (ho':OpR X (compareOp op') (upR K r')) (ha:DE K X a ta) (hb:DE K X b tb) (hc:DE K X c tc)
  (h1:behindInMarks op b=false) (h2:behindInMarks op' c=false) (hm:lastMarks [op,op'] [b,c]=false:=by with_unfolding_all rfl):DE K X (.Compare a [op,op'] [b,c] pos) (qpb r r' ta tb tc):=by
 refine PE.mono (qiM ho ho' ha hb hc hm) fun G H Q Oc=>?_;obtain⟨Y,U,Q0,hS,hM,h,cl⟩:=Oc;refine up2 hS hM h fun x y U2 v u H2 q M2 s2 i1 i2=>⟨U2,x,y,_,M2,i1,i2,q,fun e U3 w H3 q3 M3 s3 i3=>?_⟩;split at q3
 .rename_i k
  cases i3
  refine⟨k,rfl,?_⟩;cases k with
  | true=>exact Z1 ⟨Y,U3,_,(hS.same s2).same s3,M3,by simpa using q3,fun e4 U4 w4 H4 q4 M4 s4 i4=>⟨U4,y,e4,Q0,M4,i2.same (s3.trans s4),i4,q4,cl.same ((s2.trans s3).trans s4)⟩⟩
  | false=>exact Zf (cl (.d (.bool false)) U3 _ H3 (by simpa using q3) M3 (s2.trans s3) (Is.bl _))
 .exact q3.elim
def qo9 (to:TEd) (tr:TAd):TEd:=fun Y U Q=>to Y U fun x U1=>∃ ns:List Int,LstOf U1 x (ns.map PyData.int)/\tr Y U1 fun es U2=>LstOf U2 x (ns.map PyData.int)/\match es with
 | [.d (.int k)]=>Q (.d (.int (ns.count k:Nat))) U2
 | _=>False
theorem qdI {e:Expr}(ho:DE K X o to) (ha:DA K X [e] tr) (hK:X.K=K:=by rfl)
  (h:PE X o (up K to)->PA X [e] (upA K tr)->PE X (.Call (.Attribute o "count" p1) [e] [] pos) (tBM X.K "list" (qj5 X.K) (up K to) (upA K tr))):DE K X (.Call (.Attribute o "count" p1) [e] [] pos) (qo9 to tr):=by
 subst hK;refine PE.mono (h ho ha) fun G H Q Oc=>?_;obtain⟨Y,U,Q0,hS,hM,h,cl⟩:=Oc;refine⟨Y,U,_,hS,hM,h,fun x U1 v H1 q M1 s1 i1=>?_⟩;obtain⟨ns,h1,q⟩:=q;obtain⟨p,xs,rfl,a1,a2⟩:=h1.get M1 i1;refine⟨.inl ⟨rfl,_,a1⟩,Y,U1,_,hS.same s1,M1,q,fun es U2 vs H2 q2 M2 s2 i2=>?_⟩;obtain⟨h2,q2⟩:=q2;obtain⟨p',xs',e',b1,b2⟩:=h2.get M2 (i1.same s2);cases e'
 rw[b2.ints_of] at b1;split at q2
 .obtain ⟨v,rfl,h3⟩:=JN i2;cases h3
  exact⟨p,ns,_,rfl,rfl,b1,cl _ U2 _ H2 q2 M2 (s1.trans s2) (.int _)⟩
 .exact q2.elim
end
section
variable {k:Nat}
def Zi (sp sp':Sp):Sp:=fun vs H Q E=>sp vs H Q E\/sp' vs H Q E
theorem FnOk.or (h:FnOk P w K mg base CX k f fd ps sp) (h':FnOk P w K mg base CX k f fd ps sp'):FnOk P w K mg base CX k f fd ps (Zi sp sp') :=
 ⟨fun vs H Q E q=>q.elim (h.len vs H Q E) (h'.len vs H Q E),fun A outer s H args us vs Q E hr he hb hv q=>q.elim (h.run A outer s H args us vs Q E hr he hb hv) (h'.run A outer s H args us vs Q E hr he hb hv)⟩
theorem Own.l (O:k<<<(x,ps,Zi sp sp')):k<<<(x,ps,sp):=O.imp fun _ _ _ _ h=>.inl h
theorem Own.r (O:k<<<(x,ps,Zi sp sp')):k<<<(x,ps,sp'):=O.imp fun _ _ _ _ h=>.inr h
theorem okX {st:Stmt}(F:Fun K x qual st f fd) (S:FnScope N ps (qR st)) (len:∀ vs H Q E,sp vs H Q E->vs.length=ps.length)
  (hbody:∀ (Oy:Value) (A:Around) (outer:List Env) (s:Shared) (H:Hp) (vs:List V) (Q:VK) (E:XK),Room k (A.deeper (PyProof.Rows.envOfC qual (qR st) s.heap.objs.size f Oy))->sp vs H Q E →
   ∃ t,PSs (ZT CX P w K mg base N qual (qR st) f Oy A outer s H E) (yP st) t/\t { nx:=fun _ H'=>Q .non H',rt:=Q } (YO N vs) H):FnOk P w K mg base CX (k+1) f fd ps sp:=by
 obtain⟨oc,od,kV,doc,pm,an,Oy,ct,osl,rfl,lk,hcd⟩:=F.ex;exact qme lk hcd S len fun A outer s H vs Q E hr hsp=>hbody Oy A outer s H vs Q E hr hsp
end
end L2
namespace L2
section
variable {tb:TSd}{D:EndsD}{Q:En->Mu->Prop}
theorem qhH {as:List α}{h:α->PyData}(p:α->Bool) (f:α->PyData) (S:Src J (as.map h) U)
  (ht:∀ a,a∈as->∀ R:Bool->Mu->Prop,R (p a) U->tt (Y++[some (.d (h a))]) U R)
  (hs:∀ a,a∈as->p a=true->∀ R:En->Mu->Prop,R (.d (f a)) U->te (Y++[some (.d (h a))]) U R) (hq:Q (.d (.list ((as.filter p).map f))) U):qdT 1 J (jm Y.length) tt te Y U Q:=by
 have hl:J.n=as.length:=by rw[S.n];simp
 refine⟨fun i ys Y' U'=>U'=U/\ys=((as.take i).filter p).map f/\∃ v,Y'=Y++[v],⟨rfl,rfl,none,rfl⟩,fun i ys Y' U' _ ⟨h,_⟩=>by subst h;exact S.ok,?_,?_⟩
 .rintro i ys Y' U' hi ⟨rfl,rfl,v,rfl⟩;rw[hl] at hi;rw[S.it i (h as[i]) (by rw[qY,qh hi];rfl)];unfold jm;have e2:(Y++[v]).set Y.length (some (.d (h as[i])))=Y++[some (.d (h as[i]))]:=by simp
  rw[e2];refine ht as[i] (yh hi) _ ?_;cases hp:p as[i] with
  | true =>
   refine Z1 (hs as[i] (yh hi) hp _ ⟨_,rfl,rfl,?_,_,rfl⟩);rw[jt (qh hi),List.filter_append,ye];simp[hp]
  | false =>
   refine Zf ⟨rfl,?_,_,rfl⟩;rw[jt (qh hi),List.filter_append,ye];simp[hp]
 .rintro ys Y' U' ⟨rfl,rfl,_⟩;rw[hl,y3];exact hq
theorem qaK {as:List α}{h:α->PyData}(f:α->PyData) (S:Src J (as.map h) U)
  (hs:∀ a,a∈as->∀ R:En->Mu->Prop,R (.d (f a)) U->te (Y++[some (.d (h a))]) U R) (hq:Q (.d (.list (as.map f))) U):qdT 1 J (jm Y.length) qmy te Y U Q :=
 qhH (fun _=>true) f S (fun a _ R h=>h) (fun a ha _=>hs a ha) (by rw[List.filter_eq_self.mpr (fun _ _=>rfl)];exact hq)
end
def cLt (c:Int) (ns:List Int):Nat:=ns.countP (fun v=>decide (v<c))
def cGt (c:Int) (ns:List Int):Nat:=ns.countP (fun v=>decide (c<v))
def qh4 (c:Int) (ns:List Int):Bool:=decide (2 * cLt c ns<=ns.length) && decide (2 * cGt c ns<=ns.length)
section
variable {s:List Int}(h:s.Pairwise (· <= ·)) {j:Nat}(hj:j<s.length) {c:Int}
include h hj
end
end L2
namespace L2
mutual
theorem qez:∀ d:PyData,PyData.canLay0 d=true->PyData.eqv d d=true
 | .none,_=>by simp[PyData.eqv]
 | .bool b,_=>by simp[PyData.eqv]
 | .int i,_=>by simp[PyData.eqv]
 | .str x,_=>by simp[PyData.eqv]
 | .list xs,h=>by
  simp only[PyData.canLay0] at h;simp only[PyData.eqv];exact YS xs h
 | .tuple xs,h=>by
  simp only[PyData.canLay0] at h;simp only[PyData.eqv];exact YS xs h
 | .dict xs,h=>by simp[PyData.canLay0] at h
theorem YS:∀ ds:List PyData,PyData.canLayAll0 ds=true->PyData.eqvAll ds ds=true
 | [],_=>by simp[PyData.eqvAll]
 | d::ds,h=>by
  simp only[PyData.canLayAll0,qZ] at h;simp only[PyData.eqvAll,qZ];exact⟨qez d h.1,YS ds h.2⟩
end
theorem qeR {d:PyData}(h:SeqAt.shaped d=true):PyData.eqv d d=true:=qez d (SeqAt.canLay_of_shaped h)
theorem YC {f:α->PyData}(hf:∀ a,PyData.canLay0 (f a)=true):∀ as:List α,PyData.canLayAll0 (as.map f)=true
 | []=>by simp[PyData.canLayAll0]
 | a::as=>by simp[PyData.canLayAll0,hf a,YC hf as]
theorem qaI {f:α->PyData}(hf:∀ a,PyData.depth (f a)<=n):∀ as:List α,PyData.depthAll (as.map f)<=n+1
 | []=>by simp[PyData.depthAll]
 | a::as=>by
  have:=qaI hf as;have:=hf a;simp only[qP,PyData.depthAll];lia
section
variable {a b:Expr}{tb:TEd}{tA tB:TTd}
end
end L2
namespace L2
open W SetTable
variable {p:Array Nat}{Pv:V->List Int->Prop}
def ZR (K:W.Frag) (H:Hp) (v:V) (ks:List Int):Prop:=(∃ a,v = .ref a/\SqT K H a (ks.map V.int))/\ks≠[]
theorem ZR.same (h:ZR K H v ks) (s:yr H H'):ZR K H' v ks:=by
 obtain⟨⟨a,e,q⟩,n⟩:=h;exact⟨⟨a,e,SqT.same s q⟩,n⟩
def Srt (ms:List (List Int)):Prop:=ms.Pairwise fun a b=>¬ b<a
def qc3 (P:Program) (w:World) (a:Addr) (bs:List (Addr×List Int)) (h:Heap):Prop :=
 ∃ o es ep t m,h.get? a=some o/\o.ExactSet/\o.data = .set es ep t/\t.plain=true/\t.led=(!Je w)/\Jp m es.size/\SetI t es m es.size/\es.toList=bs.map (fun b=>(yL P w b.2,Value.ref b.1))/\(bs.map (·.2)).Nodup
def qd7 (P:Program) (w:World) (a:Addr) (bs:List (Addr×List Int)):HO:=.ext (qc3 P w a bs)
def InS (K:W.Frag) (H:Hp) (bs:List (Addr×List Int)):Prop:=∀ b∈bs,ZR K H (.ref b.1) b.2
theorem InS.same {bs:List (Addr×List Int)}(h:InS K H bs) (s:yr H H'):InS K H' bs:=fun b hb=>(h b hb).same s
theorem qc3.stay {bs:List (Addr×List Int)}{h1 h2:Heap}(p:qc3 P w a bs h1) (k:∀ o,h1.get? a=some o->h2.get? a=some o):qc3 P w a bs h2:=by
 obtain⟨o,es,ep,t,m,ho,r⟩:=p;exact⟨o,es,ep,t,m,k o ho,r⟩
theorem qc3.ok {bs:List (Addr×List Int)}(p:qc3 P w a bs h):jB P w H h a (qd7 P w a bs):=by
 refine⟨p,?_,fun h1 h2 p1 k=>p1.stay k⟩;obtain⟨o,_,_,_,_,ho,_⟩:=p;exact⟨o,ho⟩
theorem qdy : ∀ {l:List (Int×Value)}{ms:List (List Int)},PySem.Paired (qb0 P w h) l ms->∃ bs:List (Addr×List Int),l=bs.map (fun b=>(yL P w b.2,Value.ref b.1))/\bs.map (·.2)=ms/\∀ b∈bs,jq h (.ref b.1) b.2
 | _,_,.nil=>⟨[],rfl,rfl,(fun _ z=>nomatch z)⟩
 | _,_,.cons (a:=e) (b:=ks) r t=>by
  obtain⟨bs,e1,e2,e3⟩:=qdy t;obtain⟨hh,v⟩:=e;obtain⟨r1,r2⟩:=r;obtain⟨b,_,_,_,eb,_⟩:=id r1;dsimp only at eb r1 r2;subst eb;refine⟨(b,ks)::bs,?_,?_,fun c hc=>?_⟩
  .rw [qP,<- e1,r2]
  .rw [qP,e2]
  .rcases qF.mp hc with rfl | hc
   .exact r1
   .exact e3 c hc
theorem qdP : ∀ {bs:List (Addr×List Int)},(∀ b∈bs,jq h (.ref b.1) b.2)->PySem.Paired (qb0 P w h) (bs.map (fun b=>(yL P w b.2,Value.ref b.1))) (bs.map (·.2))
 | [],_=>.nil
 | b::bs,k=>.cons ⟨k b qj,rfl⟩ (qdP fun c hc=>k c (qe _ hc))
theorem qoH:∀ {ns:List Int}{us:List Value},yM (ns.map V.int) us->IntsAre us ns
 | [],_,.nil=>.nil
 | n::ns,_,.cons ⟨t,e⟩ r=>by
  subst e;exact .cons n t (qoH r)
theorem Inv.tupK (I:Inv X Oa G H s) (h:ZR X.K H (.ref a) ks):jq s.heap (.ref a) ks:=by
 obtain⟨⟨a',e,ha⟩,hn⟩:=h;cases e
 obtain⟨its,r,⟨o,ho,hc,n,hd⟩,hz⟩:=I.tuple ha;exact⟨a,o,its.toArray,n,rfl,ho,hc,hd,by simpa using qoH r,hn⟩
theorem Inv.tupsK (I:Inv X Oa G H s):∀ {us:List V}{its:List Value}{kss:List (List Int)},PySem.Paired (ZR X.K H) us kss->yM us its->PySem.Paired (jq s.heap) its kss
 | _,_,_,.nil,.nil=>.nil
 | _,_,_,.cons h t,.cons r q=>by
  obtain⟨⟨a,e,ha⟩,hn⟩:=id h;subst e;cases r
  exact .cons (I.tupK h) (Inv.tupsK I t q)
theorem Inv.setT (I:Inv X Oa G H s) {bs:List (Addr×List Int)}(h:H a=some (qd7 X.prog X.w a bs)) (hb:InS X.K H bs):qb1 X.prog X.w (fun v=>∃ b∈bs,v=Value.ref b.1) s.heap a (bs.map (·.2)):=by
 obtain⟨⟨o,es,ep,t,m,ho,ex,hd,pl,ld,mo,si,ee,nd⟩,_⟩:=I.hok a _ h;refine⟨o,es,ep,t,m,ho,ex,hd,pl,ld,mo,si,?_,nd,fun e he=>?_⟩
 .rw [ee];exact qdP fun b hbb=>I.tupK (hb b hbb)
 .rw [ee] at he;obtain⟨b,h1,rfl⟩:=qu.mp he;exact⟨b,h1,rfl⟩
theorem qh8 {us:List V}(r:yM us its) (h:PySem.Paired (ZR X.K H) us kss) (hb:Value.ref b∈its):∃ i:Nat,us[i]?=some (V.ref b):=by
 obtain⟨i,ei⟩:=yw hb;have hi:i<us.length:=by rw[r.length];exact (qC.mp ei).1
 obtain⟨ks,_,⟨⟨a,e,_⟩,_⟩⟩:=L2.Paired.get h (qh hi);obtain⟨u,e1,e2⟩:=yM.get r (qh hi);rw[ei] at e1;cases e1
 rw[e] at e2;have:Value.ref b=Value.ref a:=e2;cases this
 exact⟨i,by rw[qh hi,e]⟩
def rSet (X:Cx):List V->Hp->VK->Prop:=fun xs H Q=>∃ (p:Addr) (us:List V) (kss:List (List Int)),xs=[.ref p]/\SqL X.K H p us/\PySem.Paired (ZR X.K H) us kss/\(∀ ms:List (List Int),ms.Nodup->(∀ q∈ms,q∈kss)->ms.length<4900) ∧
 ∀ S bs,H S=none->InS X.K H bs->(∀ b∈bs,∃ i:Nat,us[i]?=some (V.ref b.1)/\kss[i]?=some b.2)->(∀ q,q∈bs.map (·.2) ↔ q∈kss)->(bs.map (·.2)).Nodup->bs.length<4915->Q (.ref S) (upd H S (qd7 X.prog X.w S bs))
theorem qhJ (hc:X.calm=true) (hu:X.A.units+64<cLine):je X (.type "set") (rSet X):=by
 intro Oa s G H xs us Q I r h;obtain⟨p,vs,kss,rfl,hS,hT,hl,q⟩:=h;obtain⟨u,rfl,rx⟩:=Yh r;cases rx
 obtain⟨its,rv,pl,_⟩:=I.list hS;have hK:=I.tupsK hT rv;have hlen:=rv.length;refine qeT (I.ok.hd hc) pl.isList hK (fun ms nd hm=>jg (hl ms nd hm) 'd') hu fun h' tk ms S2 mem kp=>?_;obtain⟨o,es,ep,t,m,D⟩:=S2;obtain⟨bs,e1,e2,e3⟩:=qdy D.en;subst e2;have fr:H s.heap.objs.size=none:=I.hok.fresh (qk _);have own:∀ b∈bs,∃ i:Nat,vs[i]?=some (V.ref b.1):=fun b hb=>by
  refine qh8 rv hT (D.own (yL X.prog X.w b.2,Value.ref b.1) ?_);rw[e1];exact qu.mpr ⟨b,hb,rfl⟩
 have inS2:∀ b∈bs,ZR X.K H (.ref b.1) b.2/\∃ i:Nat,vs[i]?=some (V.ref b.1)/\kss[i]?=some b.2:=fun b hb=>by
  obtain⟨i,ei⟩:=own b hb;obtain⟨ks,ek,tn⟩:=L2.Paired.get hT ei;have k1:jq h' (.ref b.1) ks:=(I.tupK tn).kept fun c ob e _=>kp c ob e;have:=(k1.key (prog:=X.prog) (w:=X.w)).inj ((e3 b hb).key (prog:=X.prog) (w:=X.w));rw[<- this];exact⟨tn,i,ei,ek⟩
 have inS:InS X.K H bs:=fun b hb=>(inS2 b hb).1;have lt:bs.length<4915:=by
  have:=D.mok.le;have z:es.toList.length=bs.length:=by rw[e1,qc]
  rw[qy] at z;lia
 refine⟨.ref s.heap.objs.size,_,I.laid (t':=tk) kp (qk _) (o:=qd7 X.prog X.w s.heap.objs.size bs) (qc3.ok ⟨o,es,ep,t,m,D.ho,D.ex,D.hd,D.pl,D.ld,D.mok,D.si,e1,D.nd⟩),rfl,q _ bs fr inS (fun b hb=>(inS2 b hb).2) mem D.nd lt⟩
theorem qjF {vs:List Value}(hT:PySem.Paired (jq h) vs kss) (hp:Arr vs.length p) :
  PySem.Paired (jq h) (qeI vs p) (p.toList.map fun i=>kss.getD i [])/\(p.toList.map fun i=>kss.getD i []).Perm kss:=by
 have lt:∀ i∈p.toList,i<vs.length:=fun i hi=>by
  have:=(Array.Perm.mem_iff hp (a:=i)).mp (Array.mem_toList_iff.mp hi);simpa using this
 constructor
 .unfold qeI;generalize p.toList=l at lt;induction l with
  | nil=>exact .nil
  | cons i l ih=>exact .cons (j9 hT i (lt i qj)) (ih fun j hj=>lt j (qe _ hj))
 .have p1:p.toList.Perm (List.range vs.length):=by
   have:=y4.mp hp;simpa using this
  refine (p1.map fun i=>kss.getD i []).trans ?_;rw[L2.Paired.len hT];refine List.Perm.of_eq ?_;apply List.ext_getElem?;intro i;simp only[qY,List.getElem?_range];by_cases hi:i<kss.length
  .simp [hi]
  .simp [hi]
theorem qmJ (hp:Arr n p) (hs:qmU (ltK kss) p n):Srt (p.toList.map fun i=>kss.getD i []):=by
 unfold Srt;rw[jb];refine yp.mpr fun i j hi hj hij=>?_;have hj':j<n:=by
  have:=hp.size;simp at hj;lia
 have:=hs i j (yT hij) hj';unfold ltK at this;have:=of_decide_eq_false this;have e1:gD p i=p.toList[i]:=by simp at hi;simp[gD,hi]
 have e2:gD p j=p.toList[j]:=by simp at hj;simp[gD,hj]
 rw[e1,e2] at this;exact this
def qpp (H:Hp) (Pv:V->List Int->Prop) (kss:List (List Int)) (Q:VK):Prop:=∀ D vs ms,H D=none->PySem.Paired Pv vs ms->ms.Perm kss->Srt ms->Q (.ref D) (upd H D (.lst vs))
theorem qeP {x:Value}(I:Inv X Oa G H s) (q:qpp H Pv kss Q) {R:List Value->List (List Int)->Prop}
  (hR:∀ vs ms,R vs ms->(∀ v∈vs,∃ b ks,v=Value.ref b/\ZR X.K H (.ref b) ks/\Pv (.ref b) ks)/\ms.Perm kss) (hcol:∀ E',wpAny 'M' X.A.in1 (collect x) (qpv s R) E' s):wpAny 'M' X.A (call (.builtin "sorted") [x]) (EP X Oa G Q) X.xe s:=by
 refine qfT hcol fun vs ms p h' tk D e hr hp hs hT hz kp hD he=>?_;obtain⟨r1,r2⟩:=hR vs ms hr;obtain⟨a1,a2⟩:=qjF hT hp;have hV:∀ l:List Value,(∀ v∈l,∃ b ks,v=Value.ref b/\ZR X.K H (.ref b) ks/\Pv (.ref b) ks)->∃ ws:List V,yM ws l/\∀ ks,PySem.Paired (jq h') l ks->PySem.Paired Pv ws ks:=by
  intro l;induction l with
  | nil=>exact fun _=>⟨[],.nil,fun ks z=>(by cases z;exact .nil)⟩
  | cons v l ih =>
   intro hl;obtain⟨ws,w1,w3⟩:=ih fun u hu=>hl u (qe _ hu);obtain⟨b,ks,rfl,tn,pv⟩:=hl v qj;refine⟨.ref b::ws,.cons rfl w1,fun ks' z=>?_⟩;cases z with
    | cons z1 z2 =>
     refine .cons ?_ (w3 _ z2);have k1:jq h' (.ref b) ks:=(I.tupK tn).kept fun c ob e _=>kp c ob e;have:=(k1.key (prog:=X.prog) (w:=X.w)).inj (z1.key (prog:=X.prog) (w:=X.w));rw[<- this];exact pv
 obtain⟨ws,w1,w3⟩:=hV (qeI vs p) fun v hv=>by
  obtain⟨i,hi,rfl⟩:=qu.mp hv;have hlt:i<vs.length:=by
   have:=(Array.Perm.mem_iff hp (a:=i)).mp (Array.mem_toList_iff.mp hi);simpa using this
  rw[ym,qh hlt];exact r1 _ (yh hlt)
 have hwl:ws.length<=sizeLine:=by
  rw[w1.length,qbW hp,sizeLine_eq];lia
 obtain⟨hn,J⟩:=I.laidN (t':=tk) (o:=.lst ws) kp hD ⟨hwl,qeI vs p,e,w1,he⟩;exact⟨.ref D,_,J,rfl,q D ws _ hn (w3 _ a1) (a2.trans r2) (qmJ hp hs)⟩
def qnR (X:Cx):List V->Hp->VK->Prop:=fun xs H Q=>∃ (S:Addr) (bs:List (Addr×List Int)),xs=[.ref S]/\H S=some (qd7 X.prog X.w S bs)/\InS X.K H bs/\bs.length<4900/\qpp H (fun v ks=>∃ b∈bs,v=V.ref b.1/\ks=b.2) (bs.map (·.2)) Q
theorem qfl (hc:X.calm=true):je X (.builtin "sorted") (qnR X):=by
 intro Oa s G H xs us Q I r h;obtain⟨S,bs,rfl,hS,hI,hl,q⟩:=h;obtain⟨u,rfl,rx⟩:=Yh r;cases rx
 obtain⟨o,es,ep,t,m,D⟩:=I.setT hS hI;have hz:=D.len;rw[qc] at hz;refine qeP I q (R:=fun us ms=>(∀ v∈us,∃ b∈bs,v=Value.ref b.1)/\(bs.map (·.2)).Perm ms) ?_ fun E'=>qdN (by show X.A.handled=none;exact I.ok.hd hc) D.toB 'l' fun h' tk kp=>?_
 .rintro us ms ⟨h1,h2⟩;refine⟨fun v hv=>?_,h2.symm⟩;obtain⟨b,hb,rfl⟩:=h1 v hv;exact⟨b.1,b.2,rfl,hI b hb,b,hb,rfl,rfl⟩
 .obtain ⟨ms,m1,m2⟩:=qdj (qao X.w S ep es).symm D.en;refine⟨h',tk,ms,rfl,kp,?_,?_,?_,m2⟩
  .have:∀ {l:List (Int×Value)}{ks:List (List Int)},PySem.Paired (qb0 X.prog X.w s.heap) l ks->PySem.Paired (jq h') (l.map (·.2)) ks:=by
    intro l ks z;induction z with
    | nil=>exact .nil
    | cons r _ ih=>exact .cons (r.1.kept fun b o e _=>kp b o e) ih
   exact this m1
  .rw [qc,qy,Yo];lia
  .intro v hv;obtain⟨e,he,rfl⟩:=qu.mp hv;exact D.own e ((qao X.w S ep es).mem_iff.mp he)
def JX (ks:List Int):PyData:=.tuple (ks.map PyData.int)
theorem IsAll.tups : ∀ {us:List V}{kss:List (List Int)},IsAll K H us (kss.map JX)->(∀ k∈kss,k≠[])->PySem.Paired (ZR K H) us kss
 | _,[],.nil,_=>.nil
 | _,k::kss,.cons h t,hn=>by
  refine .cons ?_ (IsAll.tups t fun z hz=>hn z (qe _ hz));unfold JX at h;cases h with
  | @tup a xs _ h1 h2 =>
   rw[h2.ints_of] at h1;exact⟨⟨a,rfl,h1⟩,hn _ qj⟩
theorem ZR.is (h:ZR K H v ks):Is K H v (JX ks):=by
 obtain⟨⟨a,rfl,h1⟩,_⟩:=h;exact .tup h1 (IsAll.ints ks)
theorem ZR.up (h:ZR K (mask U H) v ks):ZR K H v ks:=h.same yO
def qfP (P:Program) (w:World) (K:W.Frag) (ms:List (List Int)):Stb where
 R v H:=∃ S bs,v = .ref S/\H S=some (qd7 P w S bs)/\InS K H bs/\bs.map (·.2)=ms/\ms.Nodup/\ms.length<4915
 st:=fun v H H' s ⟨S,bs,e,h1,h2,h3,h4,h5⟩=>⟨S,bs,e,s _ _ h1,h2.same s,h3,h4,h5⟩
def qf9 (P:Program) (w:World) (K:W.Frag):RAd:=fun es U Q=>match es with
 | [e]=>∃ kss:List (List Int),LstOf U e (kss.map JX)/\(∀ k∈kss,k≠[])/\(∀ ms:List (List Int),ms.Nodup->(∀ q∈ms,q∈kss)->ms.length<4900)/\∀ ms,(∀ q,q∈ms ↔ q∈kss)->ms.Nodup->ms.length<4915->Q (.x (qfP P w K ms)) U
 | _=>False
theorem qmn (hc:X.calm=true) (hu:X.A.units+64<cLine) (hK:X.K=K:=by rfl) (hP:X.prog=P:=by rfl) (hw:X.w=w:=by rfl):je X (.type "set") (upC K (qf9 P w K)):=by
 subst hK hP hw;refine (qhJ hc hu).mono fun xs H Q h=>?_;obtain⟨U,es,Q0,M,hp,q,cl⟩:=h;unfold qf9 at q;split at q
 .obtain ⟨v,rfl,i1⟩:=JN hp;obtain⟨kss,h1,hne,h64,q⟩:=q;obtain⟨p,ys,rfl,h2,h3⟩:=h1.get M i1;have hT:=IsAll.tups h3 hne;refine⟨p,ys,kss,rfl,h2,JB hT (fun x _ y h=>h.up),h64,fun S bs hS _ ix mem nd lt=>?_⟩;obtain⟨M4,s4,hn⟩:=M.laid (o:=qd7 X.prog X.w S bs) hS;refine cl _ U _ _ (q (bs.map (·.2)) mem nd (by rw[qc];exact lt)) M4 s4 ⟨S,bs,rfl,?_,fun b hb=>?_,rfl,nd,by rw[qc];exact lt⟩
  .rw [yN hn];exact yg
  .obtain ⟨i,e1,e2⟩:=ix b hb;obtain⟨ks,e3,tn⟩:=L2.Paired.get hT e1;rw[e2] at e3;cases e3
   exact tn.same s4
 .exact q.elim
def qnH (P:Program) (w:World) (K:W.Frag):RAd:=fun es U Q=>match es with
 | [e]=>∃ kss:List (List Int),LstOf U e (kss.map JX)/\(∀ k∈kss,k≠[])/\kss.length<4900/\∀ ms,(∀ q,q∈ms ↔ q∈kss)->ms.Nodup->ms.length<4915->Q (.x (qfP P w K ms)) U
 | _=>False
theorem qku (hc:X.calm=true) (hu:X.A.units+64<cLine) (hK:X.K=K:=by rfl) (hP:X.prog=P:=by rfl) (hw:X.w=w:=by rfl):je X (.type "set") (upC K (qnH P w K)):=by
 refine (qmn hc hu hK hP hw).mono fun xs H Q h=>?_;obtain⟨U,es,Q0,M,hp,q,cl⟩:=h;refine⟨U,es,Q0,M,hp,?_,cl⟩;unfold qnH at q;unfold qf9;split at q
 .obtain ⟨kss,h1,hne,h64,q⟩:=q;exact⟨kss,h1,hne,fun ms nd hm=>yJ (qa7 nd hm) h64,q⟩
 .exact q
def qld (P:Program) (w:World) (K:W.Frag):RAd:=fun es U Q=>∃ ms,es=[.x (qfP P w K ms)]/\ms.length<4900/\∀ ks,ks.Perm ms->Srt ks->Q (.d (.list (ks.map JX))) U
theorem qej : ∀ {vs:List V}{ms:List (List Int)},PySem.Paired Pv vs ms->(∀ v k,Pv v k->Is K H v (JX k))->IsAll K H vs (ms.map JX)
 | _,_,.nil,_=>.nil
 | _,_,.cons h t,f=>.cons (f _ _ h) (qej t f)
theorem qeC (hc:X.calm=true) (hK:X.K=K:=by rfl) (hP:X.prog=P:=by rfl) (hw:X.w=w:=by rfl):je X (.builtin "sorted") (upC K (qld P w K)):=by
 subst hK hP hw;refine (qfl hc).mono fun xs H Q h=>?_;obtain⟨U,es,Q0,M,hp,q,cl⟩:=h;obtain⟨ms,rfl,h64,q⟩:=q;obtain⟨v,rfl,i1⟩:=JN hp;obtain⟨S,bs,rfl,h1,h2,rfl,h4,h5⟩:=i1;rw[qc] at h64;refine⟨S,bs,rfl,yO _ _ h1,fun b hb=>(h2 b hb).up,h64,fun D vs ks hD hP hp hs=>?_⟩;obtain⟨M4,s4,hn⟩:=M.laid (o:=.lst vs) hD;refine cl _ U _ _ (q ks hp hs) M4 s4 (.lst (SqL.of (by rw[yN hn];exact yg)) (qej hP fun v k hv=>?_));obtain⟨b,hb,rfl,rfl⟩:=hv;exact ((h2 b hb).same s4).is
end L2
namespace L2
theorem Room.u66 {k:Nat}(r:Room k A):A.units+66<cLine:=by have:=r.un;lia
theorem qok (hu:X.A.units+66<cLine):OpR X (compareOp .In) (fun x y H Q=>∃ d ds,Is X.K H x d/\Is X.K H y (.list ds)/\SeqAt.shaped d=true/\PyData.canLayAll0 ds=true/\Q (.bl (ds.any fun z=>z.eqv d)) H):=by
 intro Oa s G H x y v u Q I rx ry h;obtain⟨d,ds,h1,h2,h3,h4,q⟩:=h;obtain⟨as,ra⟩:=h1.reads I rx;obtain⟨bs,rb⟩:=h2.reads I ry;unfold SeqAt.shaped at h3;rw[qZ] at h3;have hd:=qx h3.2;exact SeqAt.in_list_reads rb ra h4 h3.1 'l' ⟨.bl _,H,I,rfl,q⟩
theorem qgt (hu:X.A.units+66<cLine):OpR X (compareOp .NotIn) (fun x y H Q=>∃ d ds,Is X.K H x d/\Is X.K H y (.list ds)/\SeqAt.shaped d=true/\PyData.canLayAll0 ds=true/\Q (.bl (!ds.any fun z=>z.eqv d)) H):=by
 intro Oa s G H x y v u Q I rx ry h;obtain⟨d,ds,h1,h2,h3,h4,q⟩:=h;obtain⟨as,ra⟩:=h1.reads I rx;obtain⟨bs,rb⟩:=h2.reads I ry;unfold SeqAt.shaped at h3;rw[qZ] at h3;have hd:=qx h3.2;exact SeqAt.notIn_list_reads rb ra h4 h3.1 'l' ⟨.bl _,H,I,rfl,q⟩
def rdIn (neg:Bool):R2d:=fun x y U Q=>∃ d ds,x = .d d/\LstOf U y ds/\SeqAt.shaped d=true/\PyData.canLayAll0 ds=true/\Q (.d (.bool (if neg then !ds.any fun z=>z.eqv d else ds.any fun z=>z.eqv d))) U
theorem LstOf.is {e:En}(h:LstOf U e ds) (M:RelM K U H) (i:IsE K U H v e):Is K H v (.list ds):=by
 obtain⟨p,xs,rfl,h1,h2⟩:=h.get M i;exact .lst h1 (IsAll.same yO h2)
theorem qml (hu:X.A.units+66<cLine) (hK:X.K=K:=by rfl):OpR X (compareOp .In) (upR K (rdIn false)):=by
 subst hK;refine (qok hu).mono fun x y H Q h=>?_;obtain⟨U,e,e',Q0,M,i1,i2,q,cl⟩:=h;obtain⟨d,ds,rfl,h1,h3,h4,q⟩:=q;exact⟨d,ds,Is.same yO i1,h1.is M i2,h3,h4,cl _ U _ H q M (yr.refl _) (.bl _)⟩
theorem qeB (hu:X.A.units+66<cLine) (hK:X.K=K:=by rfl):OpR X (compareOp .NotIn) (upR K (rdIn true)):=by
 subst hK;refine (qgt hu).mono fun x y H Q h=>?_;obtain⟨U,e,e',Q0,M,i1,i2,q,cl⟩:=h;obtain⟨d,ds,rfl,h1,h3,h4,q⟩:=q;exact⟨d,ds,Is.same yO i1,h1.is M i2,h3,h4,cl _ U _ H q M (yr.refl _) (.bl _)⟩
end L2
namespace L2
theorem Inv.turnedL {o:HO}(I:Inv X Oa G H s) (hf:∀ b∈fp,YM X Oa H b) (k:∀ b u,b∉fp->s.heap.get? b=some u->h'.get? b=some u)
  (hp:s.heap.objs.size<=a) (new:jB X.prog X.w (upd H a o) h' a o):Inv X Oa G (upd H a o) { s with heap:=h',toks:=t' }:=by
 have hn:H a=none:=I.hok.fresh hp;have ha:∀ b u,s.heap.get? b=some u->b≠a:=fun b u e z=>absurd (qM (qo e) hp) (by rw[z];exact yz _);have nfp:∀ b u,H b=some u->b∉fp:=fun b u e z=>by
  have:=(hf b z).1;rw[this] at e;cases e
 refine I.step (g':=s.gens) (d':=s.drawn) (ch:=fp) (fun b hb=>?_) (fun b u _ _ hc e _=>k b u hc e) (fun b u _ _ hc e _=>⟨u.slots,k b u hc e⟩) (fun b u _ e n=>by rw[qX (ha b u e)];exact n)
  (fun b u hc e=>⟨u,k b u hc e⟩) (fun b xs e=>by rw[qX (qQ e hn)];exact e) (fun b u v e=>by rw[qX (qQ e hn)];exact e) (fun b ps e=>⟨#[],by rw[qX (qQ e hn),e];simp⟩) (fun m hm=>?_) (fun b u e=>?_) I.bare
 .obtain ⟨_,f1,_,f3,f4,f5⟩:=hf b hb;exact⟨f3,f1,f4,f5⟩
 .obtain ⟨u,es,ep,ho,r⟩:=hm;exact⟨u,es,ep,k _ u (fun z=>(hf _ z).2.1 rfl) ho,r⟩
 .by_cases hb:b=a
  .subst hb;rw[yg] at e;cases e;exact new
  .rw [qX hb] at e;refine (I.hok b u e).stay (fun c v hc q=>k c v ?_ q) (fun c q=>by rw[qX (qQ q hn)];exact q) fun c xs q=>by rw[qX (qQ q hn)];exact q
   rcases hc with z | z
   .rw [z];exact nfp b u e
   .exact nfp c _ z
theorem Inv.turnedF (I:Inv X Oa G H s) (hf:∀ b∈fp,YM X Oa H b) (k:∀ b u,b∉fp->s.heap.get? b=some u->h'.get? b=some u):Inv X Oa G H { s with heap:=h',toks:=t' }:=by
 have nfp:∀ b u,H b=some u->b∉fp:=fun b u e z=>by
  have:=(hf b z).1;rw[this] at e;cases e
 refine I.step (g':=s.gens) (d':=s.drawn) (ch:=fp) (fun b hb=>?_) (fun b u _ _ hc e _=>k b u hc e) (fun b u _ _ hc e _=>⟨u.slots,k b u hc e⟩) (fun b u _ e n=>n)
  (fun b u hc e=>⟨u,k b u hc e⟩) (fun b xs e=>e) (fun b u v e=>e) (fun b ps e=>⟨#[],by rw[e];simp⟩) (fun m hm=>?_) (fun b u e=>?_) I.bare
 .obtain ⟨_,f1,_,f3,f4,f5⟩:=hf b hb;exact⟨f3,f1,f4,f5⟩
 .obtain ⟨u,es,ep,ho,r⟩:=hm;exact⟨u,es,ep,k _ u (fun z=>(hf _ z).2.1 rfl) ho,r⟩
 .refine (I.hok b u e).stay (fun c v hc q=>k c v ?_ q) (fun _ q=>q) fun _ _ q=>q;rcases hc with z | z
  .rw [z];exact nfp b u e
  .exact nfp c _ z
def Ite (K:W.Frag) (a:Addr):It :=
 ⟨fun i H=>∃ xs x,SqL K H a xs/\xs[i]?=some x,fun i H v H'=>∃ t x,H t=none/\v = .ref t/\H'=upd H t (.tup [.int i,x])/\∀ xs,SqL K H a xs->xs[i]?=some x,fun i H=>∃ xs,SqL K H a xs/\xs.length<=i⟩
theorem qfJ {x1} (a e it:Addr) (hne:e≠it):Turn P w K (.Tuple elts x1 pos) (Ite K a) [e,it] e (fun i h=>(∃ old,IsEnum h e it ((i:Nat):Int) old)/\h.IsListIter it a i) where
 mem:=by simp
 obj:=fun i h st b hb=>by
  obtain⟨⟨old,he⟩,o,ho,_,hd⟩:=st;rcases qF.mp hb with rfl | hb
  .exact ⟨_,he,fun v z=>by cases z⟩
  .have:b=it:=by simpa using hb
   subst this;exact⟨o,ho,fun v z=>by rw[hd] at z;cases z⟩
 keep:=fun i h h' st k=>by
  obtain⟨⟨old,he⟩,hi⟩:=st;exact⟨⟨old,k e 's' _ he⟩,hi.at fun o q=>k it 's' o q⟩
 item:=by
  intro X hP hw hK hc i Oa s G H E I hf st hg;subst hP hw hK;obtain⟨⟨old,he⟩,hi⟩:=st;obtain⟨xs,x,hq,hx⟩:=hg;obtain⟨its,rv,p,hz⟩:=I.list hq;obtain⟨u,hu,ru⟩:=rv.get hx;have hes:e<s.heap.objs.size:=qo he;refine wpAny_pyNext_enum_item he hi p.isList (x:=u) (by simpa using hu) hne fun h' heo hi' ht hsz hk=>⟨_,rfl,wpAny_letOwnedTupleGo_enum heo fun h2 he2 hs2=>?_⟩;have hs2:Heap.SameBut e h' h2:=hs2;have fr:H s.heap.objs.size=none:=I.hok.fresh (qk _);have keep:∀ b o,b∉[e,it]->s.heap.get? b=some o->h2.get? b=some o:=fun b o hb q=>by
   simp only[qF,List.mem_nil_iff,or_false,not_or] at hb;exact hs2.extBut b o hb.1 (hk b o hb.1 hb.2 q)
  have ht2:h2.get? s.heap.objs.size=some { cls:=.type "tuple",data:=.seq #[.int i s.toks,u] }:=(hs2.2 _ (Nat.ne_of_gt hes)).trans ht;have I2:Inv X Oa G (upd H s.heap.objs.size (.tup [.int i,x])) { s with heap:=h2,toks:=s.toks+1 }:=I.turnedL hf keep (qk _) ⟨sz2,[.int i s.toks,u],.cons ⟨_,rfl⟩ (.cons ru .nil),⟨_,ht2,rfl,_,rfl⟩⟩;refine⟨.ref s.heap.objs.size,_,I2,rfl,⟨_,x,fr,rfl,rfl,fun ys hy=>by rw[I.list_inj hy hq];exact hx⟩,⟨⟨u,?_⟩,?_⟩,fun b hb=>?_⟩
  .have:((i+1:Nat):Int)=(i:Int)+1:=by lia
   rw[this];exact he2
  .exact hi'.extBut hs2.extBut (Ne.symm hne)
  .have hb':=(hf b hb).1;have:b≠s.heap.objs.size:=by
    rcases qF.mp hb with rfl | hb
    .exact qt hes
    .have:b=it:=by simpa using hb
     subst this;obtain⟨o,ho,_⟩:=hi;exact qt (qo ho)
   rw[qX this];exact hb'
 done:=by
  intro X hP hw hK hc i Oa s G H E I hf st hg;subst hP hw hK;obtain⟨⟨old,he⟩,hi⟩:=st;obtain⟨xs,hq,hx⟩:=hg;obtain⟨its,rv,p,hz⟩:=I.list hq;have hl:=rv.length;refine wpAny_pyNext_enum_end (I.ok.hd hc) he hi p.isList (by simp;lia) fun h' eb=>⟨rfl,?_⟩;exact I.turnedF (t':=s.toks) hf fun b o hb q=>eb b o (fun z=>hb (by simp[z])) q
 self:=fun _ _ _ _ _ st h=>wpAny_pyIter_enum (Classical.choose_spec st.1) h
def iEnum (K:W.Frag) (ta:TA):TI:=fun G H R=>ta G H fun vs H1=>∃ a,vs=[.ref a]/\(∃ xs,SqL K H1 a xs)/\R (Ite K a) H1
theorem qlm {l:Expr}{ta:TA}{x1} (hg:Gl X "enumerate") (hm:X.mg "enumerate" = none) (ha:PA X [l] ta) (hs:starEach [l] X.env=[(false,eval l X.env)]:=by rfl) :
  PI X (.Tuple elts x1 tpos) (.Call (.Name "enumerate" p) [l] [] pos) (iEnum X.K ta):=by
 intro Oa s G H R I h;refine Call_ (qav I hg hm boot_enumerate (PyProof.Rows.callWith_type1 (thn (ha pos Oa s G H _ I h) fun us s1 ⟨vs,H1,I1,r1,q1⟩=>?_) hs rfl));obtain⟨a,e,⟨xs,hq⟩,q⟩:=q1;subst e;obtain⟨u,rfl,rx⟩:=Yh r1;cases rx
 obtain⟨its,rv,pl,hz⟩:=I1.list hq;refine call_enumerate_list pl.isList fun h' he hi hsz hk=>?_;have I2:Inv X Oa G H1 { s1 with heap:=h' }:=I1.kept (t':=s1.toks) hk;refine wpAny_pyIter_enum he ?_;refine⟨s1.heap.objs.size+1,[s1.heap.objs.size+1,s1.heap.objs.size],_,_,H1,rfl,I2,qfJ a _ _ (Nat.ne_of_gt (yZ _)),⟨⟨_,he⟩,hi⟩,fun b hb=>?_,q⟩;have hb':s1.heap.objs.size<=b:=by
  rcases qF.mp hb with z | z
  .rw [z];exact Nat.le_succ _
  .have:b=s1.heap.objs.size:=by simpa using z
   rw[this];exact qk _
 exact I1.fpOk hb' (I1.hok.fresh hb')
def itE (e:En) (ds:List PyData):Itd:=⟨ds.length,fun i=>.d (.tuple [.int (i:Int),ds.getD i .none]),fun U=>LstOf U e ds⟩
def diE (ta:TAd):TId:=fun Y U Q=>ta Y U fun es U1=>match es with
 | [e]=>∃ ds,LstOf U1 e ds/\Q (itE e ds) U1
 | _=>False
theorem qmm {l:Expr}{ta:TAd}{x1} (hg:Gl X "enumerate") (hm:X.mg "enumerate" = none) (ha:DA K X [l] ta) (hK:X.K=K:=by rfl) (hs:starEach [l] X.env=[(false,eval l X.env)]:=by rfl) :
  DI K X (.Tuple elts x1 tpos) (.Call (.Name "enumerate" p) [l] [] pos) (diE ta):=by
 subst hK;refine PI.mono (qlm hg hm ha hs) fun G H R Oc=>?_;obtain⟨Y,U,Q0,hS,hM,h,cl⟩:=Oc;refine⟨Y,U,_,hS,hM,h,fun es U1 vs H1 q M1 s1 i1=>?_⟩;split at q
 .rename_i e
  obtain⟨v,rfl,h1⟩:=JN i1;obtain⟨ds,hL,q⟩:=q;obtain⟨p,xs,rfl,a1,a2⟩:=hL.get M1 h1;refine⟨p,rfl,⟨xs,a1⟩,cl _ U1 _ H1 q M1 s1 fun U' H' M' s' hok i=>?_⟩;obtain⟨p',xs',e',h3,h4⟩:=LstOf.get hok M' (h1.same s');cases e'
  have hl:=h4.len;refine⟨fun hi=>⟨⟨xs',xs'[i]'(by rw[hl];exact hi),h3,'s'⟩,?_⟩,fun hi=>⟨xs',h3,by rw[hl];exact hi⟩⟩;rintro x H2 ⟨t,y,ht,rfl,rfl,hx⟩;obtain⟨M2,s2,hn⟩:=M'.laid (o:=.tup [.int i,y]) ht;obtain⟨d,e1,e2⟩:=h4.get (hx xs' h3);refine⟨M2,s2,?_⟩;show Is X.K (mask U' (upd H' t (.tup [.int i,y]))) (.ref t) (.tuple [.int i,ds.getD i .none]);rw[JQ e1];exact .tup (SqT.of (by rw[yN hn];exact yg)) (.cons (.int _) (.cons (Is.same s2 e2) .nil))
 .exact q.elim
end L2
namespace L2
variable {it:Value}{wi2:TI}{g2:TG}{tt2:TT}
abbrev two (elt t1 i1 t2 i2:Expr) (f1 f2:List Expr) (scope:Scope) (pos:Pos):Expr:=.ListComp elt [⟨t1,i1,f1,0⟩,⟨t2,i2,f2,0⟩] scope pos
theorem ZC
  (h0:codeAny 'm' A (.compLoop (two elt t1 i1 t2 i2 f1 f2 scope pos) 1 it acc env) R s)
  (h:wpAny 'm' A (pyIter it) (fun it' s'=>codeAny 'm' A (.compLoop (two elt t1 i1 t2 i2 f1 f2 scope pos) 1 it' acc env) R s') (notedBy 'm' A env fun x s'=>R (Except.error x) s') s) :
  codeAny 'm' A (.compStart (two elt t1 i1 t2 i2 f1 f2 scope pos) 1 it acc env) R s:=by
 refine codeAny_of_tree ?_;refine wpAny_notedAt ?_;refine qa (Jr (wpAny_ite ?_));split
 .exact qa (qf (qf ⟨rfl,h0⟩))
 .exact qa (Jy (qa (jK (qa (qN h (fun it' s' h'=>qf ⟨rfl,h'⟩) fun _ _ z=>z)))))
theorem qlT (I:Nat->Shared->Prop)
  (turn:∀ n s,I n s->wpAny 'm' A (pyNext it) (fun r sa1=>match r with
   | none=>R (.ok .next) sa1
   | some v=>wpAny 'm' A (letOwnedTupleGo t2 it v) (fun _ s1'=>wpAny 'm' A (assign t2 env v) (fun _ sa2 =>
     wpAny 'm' A (forIn f2 true fun c r=>if r=true then do let ok <- isTrue c env (eval c env);pure (ForInStep.yield ok) else pure (ForInStep.yield r)) (fun ok sa3 =>
      if ok=true then wpAny 'm' A (eval elt env) (fun x sa4 =>
       wpAny 'm' A (call (.builtin "list.append") [acc,x]) (fun _ sa5=>∃ m,m<n/\I m sa5) (fun _ _=>False) sa4) (fun _ _=>False) sa3
      else ∃ m,m<n/\I m sa3) (fun _ _=>False) sa2) (fun _ _=>False) s1') (fun _ _=>False) sa1) (fun _ _=>False) s)
  (n:Nat) (h:I n s):codeAny 'm' A (.compLoop (two elt t1 i1 t2 i2 f1 f2 scope pos) 1 it acc env) R s:=by
 refine codeAny_loop rfl I (fun n s hI=>?_) n h;show wpAny _ A ((compTurn (two elt t1 i1 t2 i2 f1 f2 scope pos) 1 it acc env).onRaise (fun x=>do noteFrame x env;theTreesLotGoes x)) _ _ s;refine wpAny_noted ?_;show wpAny _ A (do
  standAt i2.pos
  let o <- pyNext it
  match o with
   | none=>pure (Fin.done Flow.next)
   | some v=>do
    letOwnedTupleGo t2 it v
    assign t2 env v
    let ok <- forIn f2 true fun c r=>if r=true then do let ok <- isTrue c env (eval c env);pure (ForInStep.yield ok) else pure (ForInStep.yield r)
    if ok=true then do
      let _ <- (do let x <- eval elt env;let _ <- call (.builtin "list.append") [acc,x];pure ())
      again (.compLoop (two elt t1 i1 t2 i2 f1 f2 scope pos) 1 it acc env)
     else again (.compLoop (two elt t1 i1 t2 i2 f1 f2 scope pos) 1 it acc env)) _ _ s
 refine qa (jK (qa (qN (turn n s hI) (fun r sa1 hd1=>?_) fun _ _ h'=>h'.elim)));cases r with
 | none=>exact qf hd1
 | some v =>
  refine qa (qN hd1 (fun _ s1' ha1'=>?_) fun _ _ h'=>h'.elim);refine qa (qN ha1' (fun _ sa2 ha2=>qa (qN ha2 (fun ok sa3 ha3=>?_) fun _ _ h'=>h'.elim)) fun _ _ h'=>h'.elim);cases ok with
  | false=>exact qf ⟨rfl,ha3⟩
  | true =>
   exact qa (qa (qN ha3 (fun x sa4 ha4=>qa (qN ha4 (fun _ sa5 ha5=>qf (qf ⟨rfl,ha5⟩)) fun _ _ h'=>h'.elim)) fun _ _ h'=>h'.elim))
theorem qi4 (hs:∀ x,foldedSetIterable i2 env x=pure x) (I:Nat->Shared->Prop)
  (turn:∀ n s,I n s->wpAny 'm' A (pyNext it) (fun r sa1=>match r with
   | none=>R (.ok .next) sa1
   | some v=>wpAny 'm' A (letOwnedTupleGo t1 it v) (fun _ s1'=>wpAny 'm' A (assign t1 env v) (fun _ sa2 =>
     wpAny 'm' A (forIn f1 true fun c r=>if r=true then do let ok <- isTrue c env (eval c env);pure (ForInStep.yield ok) else pure (ForInStep.yield r)) (fun ok sa3 =>
      if ok=true then wpAny 'm' A (eval i2 env) (fun x sa4 =>
       wpAny 'm' A (pyIter x) (fun it2 sa5=>codeAny 'm' A (.compStart (two elt t1 i1 t2 i2 f1 f2 scope pos) 1 it2 acc env) (fun r sa6=>r = .ok .next/\∃ m,m<n/\I m sa6) sa5) (fun _ _=>False) sa4) (fun _ _=>False) sa3
      else ∃ m,m<n/\I m sa3) (fun _ _=>False) sa2) (fun _ _=>False) s1') (fun _ _=>False) sa1) (fun _ _=>False) s)
  (n:Nat) (h:I n s):codeAny 'm' A (.compLoop (two elt t1 i1 t2 i2 f1 f2 scope pos) 0 it acc env) R s:=by
 refine codeAny_loop rfl I (fun n s hI=>?_) n h;show wpAny _ A ((compTurn (two elt t1 i1 t2 i2 f1 f2 scope pos) 0 it acc env).onRaise (fun x=>do noteFrame x env;theTreesLotGoes x)) _ _ s;refine wpAny_noted ?_;show wpAny _ A (do
  standAt i1.pos
  let o <- pyNext it
  match o with
   | none=>pure (Fin.done Flow.next)
   | some v=>do
    letOwnedTupleGo t1 it v
    assign t1 env v
    let ok <- forIn f1 true fun c r=>if r=true then do let ok <- isTrue c env (eval c env);pure (ForInStep.yield ok) else pure (ForInStep.yield r)
    if ok=true then do
      let x <- eval i2 env
      standAt i2.pos
      let x <- foldedSetIterable i2 env x
      let it2 <- holding [x] (pyIter x)
      let _ <- runOwn (.compStart (two elt t1 i1 t2 i2 f1 f2 scope pos) 1 it2 acc env) env
      again (.compLoop (two elt t1 i1 t2 i2 f1 f2 scope pos) 0 it acc env)
     else again (.compLoop (two elt t1 i1 t2 i2 f1 f2 scope pos) 0 it acc env)) _ _ s
 refine qa (jK (qa (qN (turn n s hI) (fun r sa1 hd1=>?_) fun _ _ h'=>h'.elim)));cases r with
 | none=>exact qf hd1
 | some v =>
  refine qa (qN hd1 (fun _ s1' ha1'=>?_) fun _ _ h'=>h'.elim);refine qa (qN ha1' (fun _ sa2 ha2=>qa (qN ha2 (fun ok sa3 ha3=>?_) fun _ _ h'=>h'.elim)) fun _ _ h'=>h'.elim);cases ok with
  | false=>exact qf ⟨rfl,ha3⟩
  | true =>
   refine qa (qN ha3 (fun x sa4 ha4=>qa (jK ?_)) fun _ _ h'=>h'.elim);rw[hs];refine qa (qf (qa (yq (qN ha4 (fun it2 sa5 ha5=>?_) fun _ _ h'=>h'.elim))));refine qa (wpAny_runOwn (h:=none) (codeAny_mono ha5 fun r sa6 ⟨e,ha6⟩=>?_));subst e;exact qf ⟨rfl,ha6⟩
def qfK (k:Nat) (g:TG) (tt:TT) (wi2:TI) (g2:TG) (tt2:TT) (te:TE) (G:St) (Q:VK) (J:It) (H1:Hp):Prop:=∃ W:Nat->Nat->List V->St->Hp->Prop,(∃ m,W 0 m [] (G++List.replicate k none) H1)/\∀ i m ys G' H,W i m ys G' H →
 (J.stop i H/\∀ D,H D=none->Q (.ref D) (upd H D (.lst ys))) ∨
 (J.go i H/\∃ N:List V->St->Hp->Prop,(∀ ys' G' H',N ys' G' H'->∃ m',m'<m/\W (i+1) m' ys' G' H') ∧
  ∀ x H',J.yld i H x H'->g x G' H' fun G2 H2=>tt G2 H2 fun b H3=>if b=true then wi2 G2 H3 fun J2 H4 =>
   ∃ W2:Nat->Nat->List V->St->Hp->Prop,(∃ m,W2 0 m ys G2 H4)/\∀ i m ys G' H,W2 i m ys G' H →
    (J2.stop i H/\N ys G' H) ∨
    (J2.go i H/\ys.length<sizeLine/\∃ N2:List V->St->Hp->Prop,(∀ ys' G' H',N2 ys' G' H'->∃ m',m'<m/\W2 (i+1) m' ys' G' H') ∧
     ∀ x H',J2.yld i H x H'->g2 x G' H' fun G2 H2=>tt2 G2 H2 fun b H3=>if b=true then te G2 H3 fun y H4=>N2 (ys++[y]) G2 H4 else N2 ys G2 H3)
   else N ys G2 H3)
def qjS (k:Nat) (wi:TI) (g:TG) (tt:TT) (wi2:TI) (g2:TG) (tt2:TT) (te:TE):TE:=fun G H Q=>wi G H (qfK k g tt wi2 g2 tt2 te G Q)
theorem qdM {cl:List (Str×Addr)}
  {g:TG}{tt:TT}{te:TE}{J:It}{it:Addr}
  (hc:X.calm=true) (hsc:X.env.scope=sc) (hN:X.N=N) (ok:Jd sc N L scope=true) (hc1:∀ x c,cl.lookup x=some c->X.env.cells.lookup x=some c)
  (hc2:∀ y∈scope.names,y.2 = .free->∃ c,cl.lookup y.1=some c)
  (hg:∀ cl C sa2 Ha2 fp,PG (qW X L scope cl C sa2 Ha2 fp) tg g) (hi:∀ cl C sa2 Ha2 fp,Ifs (qW X L scope cl C sa2 Ha2 fp) ifs tt) (hi2:∀ cl C sa2 Ha2 fp,PI (qW X L scope cl C sa2 Ha2 fp) tg2 iter2 wi2) (hg2:∀ cl C sa2 Ha2 fp,PG (qW X L scope cl C sa2 Ha2 fp) tg2 g2) (hf2:∀ cl C sa2 Ha2 fp,Ifs (qW X L scope cl C sa2 Ha2 fp) ifs2 tt2) (he:∀ cl C sa2 Ha2 fp,PE (qW X L scope cl C sa2 Ha2 fp) elt te)
  (hs2:∀ env x,foldedSetIterable iter2 env x=pure x)
  (I:Inv X Oa G H sa2) (T:Turn X.prog X.w X.K tg J fp it tn) (st:tn 0 sa2.heap) (hf:∀ b∈fp,YM X Oa H b) (hw:qfK L.length g tt wi2 g2 tt2 te G Q J H)
  (hR:∀ D C m H' s' ys,s'.heap.Ns C m->sa2.heap.objs.size=D->sa2.heap.objs.size<C->H' C=none->D≠C->Inv X Oa G (upd H' D (.lst ys)) s'->Q (.ref D) (upd H' D (.lst ys))->RR (.ref D) C (.ok .next) s') :
  wpAny 'M' X.A (newList []) (fun acc sa3=>wpAny 'M' X.A (newFunctionEnv scope X.env.globals cl [] X.env.qual none .none (some X.env)) (fun cenv sa4 =>
   codeAny 'M' X.A (.compStart (two elt tg iter tg2 iter2 ifs ifs2 scope pos) 0 (.ref it) acc { cenv with scope:=relabel scope X.env }) (RR acc cenv.locals) sa4) E sa3) E sa2:=by
 refine jy (wpAny_newFunctionEnv (fun y hy=>(jk ok hy).1) (by intro y hy;simp at hy) (fun hd1 hns1 hsb1=>?_) (jA ok));dsimp only at hns1 hsb1 ⊢;generalize hH2:sa2.heap.push { cls:=.type "list",dict:=none,data:=.seq ([]:List Value).toArray }=H2 at hns1 hsb1 ⊢;have hC:H2.objs.size=sa2.heap.objs.size+1:=by rw[<- hH2,Heap.size_push]
 have hCle:sa2.heap.objs.size<=H2.objs.size:=by rw[hC];exact Nat.le_succ _
 have hDC:sa2.heap.objs.size≠H2.objs.size:=by rw[hC];exact qt (yZ _)
 have hlt:∀ b∈fp,b<sa2.heap.objs.size:=fun b hb=>by
  obtain⟨o,e,_⟩:=T.obj 0 _ st b hb;exact qo e
 have below:∀ b,b<sa2.heap.objs.size->b≠H2.objs.size:=fun b hb=>by rw[hC];exact qt (Nat.lt_succ_of_lt hb)
 have old:∀ b o,sa2.heap.get? b=some o->hd1.get? b=some o:=fun b o e=>hsb1.extBut b o (below b (qo e)) (qd _ (hH2 ▸ qd _ e));have hacc:hd1.get? sa2.heap.objs.size=some { cls:=.type "list",data:=.seq ([]:List Value).toArray 0 }:=hsb1.extBut _ _ hDC (qd _ (hH2 ▸ qD _ rfl));have Yok:=qdL (L:=L) (scope:=scope) (cl:=cl) (C:=H2.objs.size) (fp:=fp) I hsc hN ok hc1 hc2 hf hlt hCle;generalize hDn:sa2.heap.objs.size=D at *;generalize hCn:H2.objs.size=C at *;have sat1:tn 0 hd1:=T.keep _ _ _ st fun b _ o e=>old b o e
 have cellD:∀ x c,cl.lookup x=some c->c≠D:=fun x c e=>by
  obtain⟨v,q⟩:=I.cell x c (hc1 x c e);rw[<- hDn];exact qt q.lt
 have fpY:∀ {H':Hp}{its:List Value}{n:Nat},(∀ b∈fp,H' b=none)->∀ b∈fp,YM (qW X L scope cl C sa2 H fp) [(D,{ cls:=.type "list",data:=.seq its.toArray n })] H' b:=fun {H' its n} hn b hb=>by
  refine⟨hn b hb,(Yok.exf b hb).1,Yok.exfs b hb,.inl hb,(Yok.exf b hb).2,fun p hp=>?_⟩;have e:p=(D,{ cls:=.type "list",data:=.seq its.toArray n }):=by
   have:p∈[(D,({ cls:=.type "list",data:=.seq its.toArray n }:Obj))]:=hp;simpa using this
  subst e;exact Ne.symm (qt (hlt b hb))
 have nfsD:D∉(qW X L scope cl C sa2 H fp).fs:=fun z=>by
  obtain⟨_,o,ho,_⟩:=Yok.funs.mem z;exact absurd (show D<sa2.heap.objs.size from qo ho) (by rw[hDn];exact yz _)
 have pinD:∀ {G':St}{H':Hp}{s':Shared}{pl:List (Addr×Obj)}{its:List Value}{n:Nat},Inv (qW X L scope cl C sa2 H fp) pl G' H' s'->s'.heap.get? D=some { cls:=.type "list",data:=.seq its.toArray n }->H' D=none →
   Inv (qW X L scope cl C sa2 H fp) [(D,{ cls:=.type "list",data:=.seq its.toArray n })] G' H' s':=fun {G' H' s' pl its n} J e hn=>J.pins_of fun p hp=>by
  have e':p=(D,{ cls:=.type "list",data:=.seq its.toArray n }):=by simpa using hp
  subst e';exact⟨e,hn,hDC,nfsD,fun v z=>by cases z⟩
 have Ia1:Inv (qW X L scope cl C sa2 H fp) [] (G++List.replicate L.length none) H { sa2 with heap:=hd1,toks:=sa2.toks+([]:List (Str×Value)).length } :=
  ZB I hsc hN ok hc1 Yok (by rw[hDn];exact hCle) rfl I.bare old hns1
 have HD:H D=none:=I.hok.fresh (by rw[hDn];exact qk _);obtain⟨W,⟨m0,w0⟩,turn⟩:=hw;have loop:codeAny 'M' X.A (.compLoop (two elt tg iter tg2 iter2 ifs ifs2 scope pos) 0 (.ref it) (.ref D) (compEnvC scope cl C X.env)) (RR (.ref D) C)
   { sa2 with heap:=hd1,toks:=sa2.toks+([]:List (Str×Value)).length }:=by
  refine qi4 (hs2 _) (fun n s'=>∃ i ys its k G' H',Inv (qW X L scope cl C sa2 H fp) [(D,{ cls:=.type "list",data:=.seq its.toArray k })] G' H' s'/\yM ys its/\ys.length<=sizeLine/\tn i s'.heap/\(∀ b∈fp,H' b=none)/\W i n ys G' H')
   ?_ m0 ⟨0,[],[],0,_,H,pinD Ia1 hacc HD,.nil,yj _,sat1,fun b hb=>(hf b hb).1,w0⟩
  rintro n s3 ⟨i,ys,its,k,G3,H3,I3,hv3,hz3,st3,fr3,w3⟩;have hp3:=I3.pin (D,{ cls:=.type "list",data:=.seq its.toArray k }) 's';rcases turn i n ys G3 H3 w3 with⟨stop,q⟩ | ⟨go,Nx,hNx,step⟩
  .refine thn (T.done (qW X L scope cl C sa2 H fp) rfl rfl rfl hc i _ s3 G3 H3 _ I3 (fpY fr3) st3 stop) fun r s4 ⟨hr,I4⟩=>?_;subst hr;have hp4:=I4.pin (D,{ cls:=.type "list",data:=.seq its.toArray k }) 's';obtain⟨m4,hn4,_⟩:=I4.loc;exact hR D C m4 H3 s4 ys hn4 rfl (by rw[hC];exact yZ _) I4.free hDC (qcI I hf hDn I4 hp4.1 hp4.2.1 hv3 hz3) (q D hp4.2.1)
  .refine thn (T.item (qW X L scope cl C sa2 H fp) rfl rfl rfl hc i _ s3 G3 H3 _ I3 (fpY fr3) st3 go) fun r s4 ⟨u,hr,h4⟩=>?_;subst hr;refine thn h4 fun _ s5 Oc=>?_;obtain⟨x,H5,I5,r5,y5,st5,fr5⟩:=Oc;have I5':=I5.pinned (fpY fr5) (T.obj _ _ st5);refine thn (hg cl C sa2 H fp _ s5 G3 H5 x u _ I5' r5 (step x H5 y5)) fun _ s6 Oc=>?_;obtain⟨G6,H6,I6,q6⟩:=Oc;refine thn (hi cl C sa2 H fp _ s6 G6 H6 _ I6 q6) fun ok s7 Oc=>?_;obtain⟨H7,I7,q7⟩:=Oc;have later:∀ {G':St}{H':Hp}{s':Shared},Inv (qW X L scope cl C sa2 H fp) ([(D,{ cls:=.type "list",data:=.seq its.toArray k })]++JA fp s5.heap) G' H' s' →
     tn (i+1) s'.heap/\(∀ b∈fp,H' b=none)/\s'.heap.get? D=some { cls:=.type "list",data:=.seq its.toArray k }/\H' D=none:=fun {G' H' s'} J=>by
    refine⟨T.keep _ _ _ st5 fun b hb o e=>(J.pin (b,o) (qg _ (qg _ (yV hb e)))).1,fun b hb=>?_,?_⟩
    .obtain ⟨o,e,d⟩:=T.obj _ _ st5 b hb;exact (J.pin (b,o) (qg _ (qg _ (yV hb e)))).2.1
    .have z:=J.pin (D,{ cls:=.type "list",data:=.seq its.toArray k }) (qg _ (q0 _ 's'));exact⟨z.1,z.2.1⟩
   cases ok with
   | false =>
    rw[if_neg 's'] at q7 ⊢;obtain⟨m',hm',w'⟩:=hNx _ _ _ q7;obtain⟨t1,t2,t3,t4⟩:=later I7;exact⟨m',hm',i+1,ys,its,k,G6,H7,pinD I7 t3 t4,hv3,hz3,t1,t2,w'⟩
   | true =>
    rw[if_pos rfl] at q7 ⊢;refine thn (hi2 cl C sa2 H fp _ s7 G6 H7 _ I7 q7) fun v2 s8 h8=>thn h8 fun itv s9 h9=>?_;obtain⟨it2,fp2,tn2,J2,H9,e9,I9,T2,st9,f9,W2,⟨m2,w9⟩,turn2⟩:=h9;subst e9;have fp2Y:∀ {H':Hp}{its':List Value}{k':Nat},(∀ b∈fp2,H' b=none)->∀ b∈fp2,YM (qW X L scope cl C sa2 H fp) ([(D,{ cls:=.type "list",data:=.seq its'.toArray k' })]++JA fp s5.heap) H' b:=fun {H' its' k'} hn b hb=>by
     obtain⟨_,z1,z2,z3,z4,z5⟩:=f9 b hb;refine⟨hn b hb,z1,z2,z3,z4,fun p hp=>?_⟩;rcases qG.mp hp with hp | hp
     .exact z5 p (q0 _ hp)
     .rcases qG.mp hp with hp | hp
      .have e:p=(D,{ cls:=.type "list",data:=.seq its'.toArray k' }):=by simpa using hp
       subst e;exact z5 (D,{ cls:=.type "list",data:=.seq its.toArray k }) (qg _ (q0 _ 's'))
      .exact z5 p (qg _ (qg _ hp))
    have nbD:∀ b∈fp,b≠D:=fun b hb=>qt (hlt b hb);have outer:∀ {G':St}{H':Hp}{s':Shared}{ys':List V}{its':List Value}{k':Nat}{pl:List (Addr×Obj)},Inv (qW X L scope cl C sa2 H fp) ([(D,{ cls:=.type "list",data:=.seq its'.toArray k' })]++JA fp s5.heap) G' H' s'->yM ys' its'->ys'.length<=sizeLine->Nx ys' G' H' →
      ∃ m',m'<n/\∃ i ys its k G' H',Inv (qW X L scope cl C sa2 H fp) [(D,{ cls:=.type "list",data:=.seq its.toArray k })] G' H' s'/\yM ys its/\ys.length<=sizeLine/\tn i s'.heap/\(∀ b∈fp,H' b=none)/\W i m' ys G' H':=fun {G' H' s' ys' its' k' pl} J hv hz nx=>by
     obtain⟨m',hm',w'⟩:=hNx _ _ _ nx;have z:=J.pin (D,{ cls:=.type "list",data:=.seq its'.toArray k' }) (qg _ (q0 _ 's'));refine⟨m',hm',i+1,ys',its',k',G',H',pinD J z.1 z.2.1,hv,hz,?_,fun b hb=>?_,w'⟩
     .exact T.keep _ _ _ st5 fun b hb o e=>(J.pin (b,o) (qg _ (qg _ (yV hb e)))).1
     .obtain ⟨o,e,d⟩:=T.obj _ _ st5 b hb;exact (J.pin (b,o) (qg _ (qg _ (yV hb e)))).2.1
    have loop2:codeAny 'M' X.A (.compLoop (two elt tg iter tg2 iter2 ifs ifs2 scope pos) 1 (.ref it2) (.ref D) (compEnvC scope cl C X.env)) (fun r sa6=>r = .ok .next/\∃ m',m'<n/\∃ i ys its k G' H',Inv (qW X L scope cl C sa2 H fp) [(D,{ cls:=.type "list",data:=.seq its.toArray k })] G' H' sa6/\yM ys its/\ys.length<=sizeLine/\tn i sa6.heap/\(∀ b∈fp,H' b=none)/\W i m' ys G' H') s9:=by
     refine qlT (fun n2 s'=>∃ j ys2 its2 k2 G' H',Inv (qW X L scope cl C sa2 H fp) ([(D,{ cls:=.type "list",data:=.seq its2.toArray k2 })]++JA fp s5.heap) G' H' s'/\yM ys2 its2/\ys2.length<=sizeLine/\tn2 j s'.heap/\(∀ b∈fp2,H' b=none)/\W2 j n2 ys2 G' H')
      ?_ m2 ⟨0,ys,its,k,G6,H9,I9,hv3,hz3,st9,fun b hb=>(f9 b hb).1,w9⟩
     rintro n2 t3 ⟨j,ys2,its2,k2,Y3,Ga3,I3',hv3',hz3',st3',fr3',w3'⟩;rcases turn2 j n2 ys2 Y3 Ga3 w3' with⟨stop2,q2⟩ | ⟨go2,hlen2,N2,hN2,step2⟩
     .refine thn (T2.done (qW X L scope cl C sa2 H fp) rfl rfl rfl hc j _ t3 Y3 Ga3 _ I3' (fp2Y fr3') st3' stop2) fun r s4 ⟨hr,I4⟩=>?_;subst hr;exact⟨rfl,outer (pl:=[]) I4 hv3' hz3' q2⟩
     .refine thn (T2.item (qW X L scope cl C sa2 H fp) rfl rfl rfl hc j _ t3 Y3 Ga3 _ I3' (fp2Y fr3') st3' go2) fun r s4 ⟨u,hr,h4⟩=>?_;subst hr;refine thn h4 fun _ t5 Oc=>?_;obtain⟨x,Ga5,J5,r5',y5',st5',fr5'⟩:=Oc;have J5':=J5.pinned (fp2Y fr5') (T2.obj _ _ st5');refine thn (hg2 cl C sa2 H fp _ t5 Y3 Ga5 x u _ J5' r5' (step2 x Ga5 y5')) fun _ t6 Oc=>?_;obtain⟨Y6,Ga6,J6,q6'⟩:=Oc;refine thn (hf2 cl C sa2 H fp _ t6 Y6 Ga6 _ J6 q6') fun ok t7 Oc=>?_;obtain⟨Ga7,J7,q7'⟩:=Oc;have later2:∀ {G':St}{H':Hp}{s':Shared},Inv (qW X L scope cl C sa2 H fp) (([(D,{ cls:=.type "list",data:=.seq its2.toArray k2 })]++JA fp s5.heap)++JA fp2 t5.heap) G' H' s' →
        tn2 (j+1) s'.heap/\(∀ b∈fp2,H' b=none)/\s'.heap.get? D=some { cls:=.type "list",data:=.seq its2.toArray k2 }/\H' D=none:=fun {G' H' s'} J=>by
       refine⟨T2.keep _ _ _ st5' fun b hb o e=>(J.pin (b,o) (qg _ (qg _ (yV hb e)))).1,fun b hb=>?_,?_⟩
       .obtain ⟨o,e,d⟩:=T2.obj _ _ st5' b hb;exact (J.pin (b,o) (qg _ (qg _ (yV hb e)))).2.1
       .have z:=J.pin (D,{ cls:=.type "list",data:=.seq its2.toArray k2 }) (qg _ (q0 _ (q0 _ 's')));exact⟨z.1,z.2.1⟩
      cases ok with
      | false =>
       rw[if_neg 's'] at q7' ⊢;obtain⟨m',hm',w'⟩:=hN2 _ _ _ q7';obtain⟨t1,t2,t3,t4⟩:=later2 J7;exact⟨m',hm',j+1,ys2,its2,k2,Y6,Ga7,J7.unpinned,hv3',hz3',t1,t2,w'⟩
      | true =>
       rw[if_pos rfl] at q7' ⊢;refine thn (he cl C sa2 H fp _ t7 Y6 Ga7 _ J7 q7') fun y t8 Oc=>?_;obtain⟨v,Ga8,J8,r8,q8⟩:=Oc;obtain⟨m',hm',w'⟩:=hN2 _ _ _ q8;obtain⟨t1,t2,t3,t4⟩:=later2 J8;refine append_at (hsz:=by rw[qB,<- hv3'.length];exact hz3') t3 fun h9 hs9 hD9=>?_;have nb2D:∀ b∈fp2,b≠D:=fun b hb z=>(f9 b hb).2.2.2.2.2 (D,{ cls:=.type "list",data:=.seq its.toArray k }) (qg _ (q0 _ 's')) z.symm;have J9:Inv (qW X L scope cl C sa2 H fp) [] Y6 Ga8 { t8 with heap:=h9 }:=(J8.pins_of (pins':=[]) (fun p hp=>by simp at hp)).turned (it:=D) (t':=t8.toks) (fun b o hb e=>hs9.extBut b o hb e) t4 hDC
        (.inr (by show sa2.heap.objs.size<=D;rw[hDn];exact qk _)) cellD (fun p hp=>by
         have:p∈([]:List (Addr×Obj)):=hp;simp at this)
       have J9':Inv (qW X L scope cl C sa2 H fp) ([(D,{ cls:=.type "list",data:=.seq (its2++[y]).toArray (k2+1) })]++JA fp s5.heap) Y6 Ga8 { t8 with heap:=h9 }:=J9.pins_of fun p hp=>by
        rcases qG.mp hp with hp | hp
        .have e':p=(D,{ cls:=.type "list",data:=.seq (its2++[y]).toArray (k2+1) }):=by simpa using hp
         subst e';exact⟨(by rw[hD9];simp),t4,hDC,nfsD,fun v z=>by cases z⟩
        .have z:=J8.pin p (qg _ (q0 _ (qg _ hp)));have hpD:p.1≠D:=by exact nbD p.1 (qcs hp).1
         exact⟨hs9.extBut _ _ hpD z.1,z.2⟩
       refine⟨m',hm',j+1,ys2++[v],its2++[y],k2+1,Y6,Ga8,J9',hv3'.append (.cons r8 .nil),by simp;lia,T2.keep _ _ _ t1 fun b hb o e=>hs9.extBut b o (nb2D b hb) e,t2,w'⟩
    exact ZC loop2 (T2.self _ 0 _ _ _ st9 loop2)
 exact codeAny_compStart_list loop (T.self _ 0 _ _ _ sat1 loop)
theorem qiL {g:TG}{tt:TT}{te:TE}
  (hc:X.calm=true) (hsc:X.env.scope=sc) (hN:X.N=N) (ok:Jd sc N L scope=true)
  (hi:PI X tg iter wi) (hg:∀ cl C sa2 Ha2 fp,PG (qW X L scope cl C sa2 Ha2 fp) tg g) (hf:∀ cl C sa2 Ha2 fp,Ifs (qW X L scope cl C sa2 Ha2 fp) ifs tt) (hi2:∀ cl C sa2 Ha2 fp,PI (qW X L scope cl C sa2 Ha2 fp) tg2 iter2 wi2) (hg2:∀ cl C sa2 Ha2 fp,PG (qW X L scope cl C sa2 Ha2 fp) tg2 g2) (hf2:∀ cl C sa2 Ha2 fp,Ifs (qW X L scope cl C sa2 Ha2 fp) ifs2 tt2) (he:∀ cl C sa2 Ha2 fp,PE (qW X L scope cl C sa2 Ha2 fp) elt te)
  (hs:∀ x,foldedSetIterable iter X.env x=pure x:=by intro _;rfl) (hs2:∀ env x,foldedSetIterable iter2 env x=pure x:=by intro _ _;rfl) :
  PE X (two elt tg iter tg2 iter2 ifs ifs2 scope pos) (qjS L.length wi g tt wi2 g2 tt2 te):=by
 intro Oa s G H Q I h;obtain⟨cl,hcl,hc1,hc2⟩:=YB (env:=X.env) (scope:=scope) fun y hy hfr=>by
  refine I.ok.has y.1 ?_;have z:=(jk ok hy).2.2 hfr;rw[<- hsc] at z;exact z
 rw[eval_ListComp];refine wpAny_comprehension_free (use:=none) rfl hs hcl (jA ok) (fun y hy hl=>((jk ok hy).2.1 hl).1) (thn (hi Oa s G H _ I h) fun v s1 h1=>thn h1 fun itv s2 h2=>?_);obtain⟨it,fp,tn,J,H2,e,I2,T,st2,f2,hw⟩:=h2;subst e;refine qdM (RR:=fun acc C=>compPost 'M' X.A X.xe none (EP X Oa G Q) acc C) hc hsc hN ok hc1 hc2 hg hf hi2 hg2 hf2 he hs2 I2 T st2 f2 hw ?_;intro D C m H' s' ys hns hD hC hHC hDC J' q;refine⟨m,hns,fun h'' hs''=>⟨.ref D,upd H' D (.lst ys),?_,rfl,q⟩⟩;have hsz:=I2.sz;refine J'.turned (it:=C) (t':=s'.toks) (fun b o hb e=>hs''.extBut b o hb e) (by rw[qX (Ne.symm hDC)];exact hHC) (Ne.symm (qt (jg I2.lt hC))) (.inr (qz hsz (yT hC))) (fun x c e=>?_) (fun p hp=>?_)
 .obtain ⟨v,z⟩:=I2.cell x c e;exact qt (jg z.lt hC)
 .exact qt (jg (qo (I2.pin p hp).1) hC)
end L2
namespace L2
variable {ti2:TId}{g2:TGd}{tt2:TTd}
def qkz (k:Nat) (ti:TId) (g:TGd) (tt:TTd) (ti2:TId) (g2:TGd) (tt2:TTd) (te:TEd):TEd:=fun Y U Q=>ti Y U fun J U1=>∃ Pv:Nat->List PyData->Rho->Mu->Prop,Pv 0 [] (Y++List.replicate k none) U1/\(∀ i ys Y' U',i<=J.n->Pv i ys Y' U'->J.ok U') ∧
 (∀ i ys Y' U',i<J.n->Pv i ys Y' U'->g (J.item i) Y' U' fun Y2 U2=>tt Y2 U2 fun b U3=>if b=true then ti2 Y2 U3 fun J2 U4 =>
   ∃ Pv2:Nat->List PyData->Rho->Mu->Prop,Pv2 0 ys Y2 U4/\(∀ j ys Y' U',j<=J2.n->Pv2 j ys Y' U'->J2.ok U'/\ys.length<4000) ∧
    (∀ j ys Y' U',j<J2.n->Pv2 j ys Y' U'->g2 (J2.item j) Y' U' fun Y2 U2=>tt2 Y2 U2 fun b U3=>if b=true then te Y2 U3 fun y U4=>∃ z,y = .d z/\Pv2 (j+1) (ys++[z]) Y2 U4 else Pv2 (j+1) ys Y2 U3) ∧
    ∀ ys Y' U',Pv2 J2.n ys Y' U'->Pv (i+1) ys Y' U'
  else Pv (i+1) ys Y2 U3) ∧
 ∀ ys Y' U',Pv J.n ys Y' U'->Fin1 Q ys U'
theorem qic {k:Nat}(h:up K (qkz k ti g tt ti2 g2 tt2 te) G H Q):qjS k (upI K ti) (upG K g) (upT K tt) (upI K ti2) (upG K g2) (upT K tt2) (up K te) G H Q:=by
 obtain⟨Y,U,Q0,hS,hM,h,cl⟩:=h;refine⟨Y,U,_,hS,hM,h,fun J0 U1 J H1 q M1 s1 sim=>?_⟩;obtain⟨Pv,h0,hok,hstep,hend⟩:=q;have S0:RelS K (Y++List.replicate k none) U1 (G++List.replicate k none) H1:=by
  have S1:=hS.same s1;refine⟨by simp[S1.len],fun i e he=>?_⟩;by_cases hi:i<Y.length
  .rw [qV hi] at he;rw[qV (by rw[<- S1.len];exact hi)];exact S1.get i e he
  .rw [yb 'l',ju] at he;split at he <;> cases he
 refine⟨fun i m ys G' H'=>m=J0.n - i/\i<=J0.n/\∃ ds Y' U',RelS K Y' U' G' H'/\RelM K U' H'/\yr (mask U1 H1) (mask U' H')/\IsAll K (mask U' H') ys ds/\Pv i ds Y' U',⟨_,rfl,yj _,[],_,U1,S0,M1,yr.refl _,.nil,h0⟩,?_⟩;rintro i m ys G' H' ⟨rfl,hi,ds,Y',U',S',M',s',hA,p⟩;have sm:=sim U' H' M' s' (hok i ds Y' U' hi p) i;by_cases hlt:i<J0.n
 .obtain ⟨hgo,hyl⟩:=sm.1 hlt;refine .inr ⟨hgo,fun ys2 G2 H2=>∃ ds Y' U',RelS K Y' U' G2 H2/\RelM K U' H2/\yr (mask U1 H1) (mask U' H2)/\IsAll K (mask U' H2) ys2 ds/\Pv (i+1) ds Y' U',fun ys2 G2 H2 z=>⟨J0.n - (i+1),'l',rfl,hlt,z⟩,fun x H2 y=>?_⟩;obtain⟨M2,s2,i2⟩:=hyl x H2 y;refine⟨_,Y',U',_,i2,S'.same s2,M2,hstep i ds Y' U' hlt p,fun Y3 U3 G3 H3 q3 S3 M3 s3=>⟨Y3,U3,_,S3,M3,q3,fun b U4 H4 q4 M4 s4=>?_⟩⟩;have st:=((s'.trans s2).trans s3).trans s4;have hA4:=IsAll.same ((s2.trans s3).trans s4) hA;cases b with
  | true =>
   refine Z1 ⟨Y3,U4,_,S3.same s4,M4,(by simpa using q4),fun K0 ν1 K1 Ga1 r N1 u1 sim2=>?_⟩;obtain⟨Pv2,g0,gok,gstep,gend⟩:=r;refine⟨fun j m ys G' H'=>m=K0.n - j/\j<=K0.n/\∃ ds Y' U',RelS K Y' U' G' H'/\RelM K U' H'/\yr (mask ν1 Ga1) (mask U' H')/\IsAll K (mask U' H') ys ds/\Pv2 j ds Y' U',⟨_,rfl,yj _,ds,Y3,ν1,(S3.same s4).same u1,N1,yr.refl _,IsAll.same u1 hA4,g0⟩,?_⟩;rintro j m zs G' H' ⟨rfl,hj,es,Y',U',R',M',v',hB,p2⟩;obtain⟨ok2,len2⟩:=gok j es Y' U' hj p2;have sm2:=sim2 U' H' M' v' ok2 j;have hle:=hB.len;by_cases hlt2:j<K0.n
   .obtain ⟨hgo2,hyl2⟩:=sm2.1 hlt2;refine .inr ⟨hgo2,jR 'l',fun ys2 G2 H2=>∃ ds Y' U',RelS K Y' U' G2 H2/\RelM K U' H2/\yr (mask ν1 Ga1) (mask U' H2)/\IsAll K (mask U' H2) ys2 ds/\Pv2 (j+1) ds Y' U',fun ys2 G2 H2 z=>⟨K0.n - (j+1),'l',rfl,hlt2,z⟩,fun x H2 y=>?_⟩;obtain⟨M2,s2,i2⟩:=hyl2 x H2 y;refine⟨_,Y',U',_,i2,R'.same s2,M2,gstep j es Y' U' hlt2 p2,fun Y3 U3 G3 H3 q3 S3 M3 s3=>⟨Y3,U3,_,S3,M3,q3,fun b U4 H4 q4 M4 s4=>?_⟩⟩;have st2:=((v'.trans s2).trans s3).trans s4;cases b with
    | true =>
     refine Z1 ⟨Y3,U4,_,S3.same s4,M4,(by simpa using q4),fun e U5 v H5 q5 M5 s5 i5=>?_⟩;obtain⟨z,rfl,q5⟩:=q5;exact⟨_,Y3,U5,(S3.same s4).same s5,M5,st2.trans s5,IsAll.snoc i5 (IsAll.same (((s2.trans s3).trans s4).trans s5) hB),q5⟩
    | false=>exact Zf ⟨_,Y3,U4,S3.same s4,M4,st2,IsAll.same ((s2.trans s3).trans s4) hB,by simpa using q4⟩
   .have e:j=K0.n:=by lia
    subst e;exact .inl ⟨sm2.2 (qk _),es,Y',U',R',M',(st.trans u1).trans v',hB,gend es Y' U' p2⟩
  | false=>exact Zf ⟨_,Y3,U4,S3.same s4,M4,st,hA4,by simpa using q4⟩
 .have e:i=J0.n:=by lia
  subst e;refine .inl ⟨sm.2 (qk _),fun D hD=>?_⟩;obtain⟨M4,s4,hn⟩:=M'.laid (o:=.lst ys) hD;exact cl _ U' _ _ (hend ds Y' U' p) M4 ((s1.trans s').trans s4) (.lst (SqL.of (by rw[yN hn];exact yg)) (IsAll.same s4 hA))
theorem qmw
  (hc:X.calm=true) (hsc:X.env.scope=sc) (hN:X.N=N) (ok:Jd sc N L scope=true)
  (hi:DI K X tg iter ti) (hg:∀ cl C sa2 Ha2 fp,DG K (qW X L scope cl C sa2 Ha2 fp) tg g) (hf:∀ cl C sa2 Ha2 fp,qmV K (qW X L scope cl C sa2 Ha2 fp) ifs tt)
  (hi2:∀ cl C sa2 Ha2 fp,DI K (qW X L scope cl C sa2 Ha2 fp) tg2 iter2 ti2) (hg2:∀ cl C sa2 Ha2 fp,DG K (qW X L scope cl C sa2 Ha2 fp) tg2 g2) (hf2:∀ cl C sa2 Ha2 fp,qmV K (qW X L scope cl C sa2 Ha2 fp) ifs2 tt2)
  (he:∀ cl C sa2 Ha2 fp,DE K (qW X L scope cl C sa2 Ha2 fp) elt te)
  (hs:∀ x,foldedSetIterable iter X.env x=pure x:=by intro _;rfl) (hs2:∀ env x,foldedSetIterable iter2 env x=pure x:=by intro _ _;rfl) :
  DE K X (.ListComp elt [⟨tg,iter,ifs,0⟩,⟨tg2,iter2,ifs2,0⟩] scope pos) (qkz L.length ti g tt ti2 g2 tt2 te):=PE.mono (qiL hc hsc hN ok hi hg hf hi2 hg2 hf2 he hs hs2) fun _ _ _=>qic
end L2
namespace L2
def vl (n p:Pt):Int:=n.1 * p.1+n.2 * p.2
def vls (n:Pt) (ps:List Pt):List Int:=ps.map fun q=>n.1 * q.1+n.2 * q.2
theorem qkV (n:Pt) (ps:List Pt):(vls n ps).length=ps.length:=by unfold vls;rw[qc]
section
variable {A:List Pt}
end
end L2
namespace L2
open W
variable {us:Value}{c:Addr}
def qhF (X:Cx) (A:Around) (N:List Str) (qual:Str) (scope:Scope) (f:Addr) (cd:Value) (cl:List (Str×Addr)) (s:Shared) (H:Hp):Cx where
 prog:=X.prog
 w:=X.w
 K:=X.K
 mg:=X.mg
 base:=X.base
 A:=A.deeper (envX qual scope s.heap.objs.size f cd cl)
 N:=N
 s₀:=s
 H₀:=H
 env:=envX qual scope s.heap.objs.size f cd cl
 outer:=X.stack
 stack:=envX qual scope s.heap.objs.size f cd cl::X.stack
 ex:=[]
 calm:=true
 fn:=fun _=>false
 pn:=[]
 xe:=fun _ _=>False
structure LamSc (x y:Str) (sc:Scope):Prop where
 kind:sc.kind = .function
 co:sc.isCoroutine=false
 gen:sc.isGenerator=false
 ne:x≠y
 par:sc.names.lookup x=some .local
 fr:sc.names.lookup y=some .free
 nc:∀ z∈sc.names,z.2≠.cell
section
variable {cl:List (Str×Addr)}
theorem ql2 (I:Inv X Oa G H s) (S:LamSc x y scope) (hA:A.frames=some X.stack) (hd:A.handled=none) (hc1:∀ x c,cl.lookup x=some c->X.env.cells.lookup x=some c) (hc2:∀ z∈scope.names,z.2 = .free->∃ c,cl.lookup z.1=some c)
   {vs:V}(ru:jr v u) (hy:cl.lookup y=some c) (hcell:s.heap.IsCell c (some us)) (rs:jr vs us) {hd1:Heap}{tk:Nat}
  (hns:hd1.Ns s.heap.objs.size (fun z=>[(x,u)].reverse.lookup z)) (hk:∀ b o,s.heap.get? b=some o->hd1.get? b=some o) :
  Inv (qhF X A [x,y] qual scope f cd cl s H) [] [some v,some vs] H { s with heap:=hd1,toks:=tk }:=by
 have noA:∀ b:Addr,b∉(qhF X A [x,y] qual scope f cd cl s H).ex:=fun b z=>absurd (show b∈([]:List Addr) from z) 's';refine⟨⟨I.ok.mod,S.kind,rfl,rfl,qk _,fun a b c h1 h2=>I.ok.inj a b c (hc1 _ _ h1) (hc1 _ _ h2),fun z hz=>?_,fun z c h _=>(by cases h),fun _=>hd,Around.frames_deeper hA,.inr ⟨rfl,rfl⟩,fun b z=>absurd z (noA b),I.bs,qz I.ok.bsz I.sz,fun b _ _=>noA b,fun b z=>absurd z (noA b),I.stack,I.stkFree⟩,
  rfl,I.bare,Un.kept hk,⟨_,hns,fun i z w h1 h2 h3=>?_⟩,fun z c h=>?_,I.hok.fresh (qk _),fun z c h=>I.freeC z c (hc1 z c h),fun p hp=>absurd (show p∈([]:List (Addr×Obj)) from hp) 's',I.hok.kept hk,rfl⟩
 .have hz:scope.names.lookup z=some .cell\/scope.names.lookup z=some .free:=hz;rcases hz with hz | hz
  .exact absurd rfl (S.nc _ (PySem.mem_of_lookup hz))
  .exact hc2 _ (PySem.mem_of_lookup hz) rfl
 .match i,h1,h2 with
  | 0,h1,h2 =>
   have h1:x=z:=Option.some.inj h1;have h2:v=w:=Option.some.inj (Option.some.inj h2);subst h1 h2;exact⟨u,ru,.inl ⟨S.par,'s'⟩⟩
  | 1,h1,h2 =>
   have h1:y=z:=Option.some.inj h1;have h2:vs=w:=Option.some.inj (Option.some.inj h2);subst h1 h2;refine⟨us,rs,.inr ⟨.inr S.fr,c,hy,?_⟩⟩;obtain⟨o,ho,hd⟩:=hcell;exact⟨o,hk _ _ ho,hd⟩
  | i+2,h1,h2 =>
   have h1:([x,y]:List Str)[i+2]?=some z:=h1;simp at h1
 .obtain ⟨w,o,ho,hd⟩:=I.cell z c (hc1 z c h);exact⟨w,o,hk _ _ ho,hd⟩
theorem qi6 {body:Expr}{ctv:Value}{c':Addr}{te:TE}{k:Nat}(I:Inv X Oa G H s) (S:LamSc x y scope) (hA:A.frames=some X.stack) (hr:Room (k+1) A)
  (hc1:∀ x c,cl.lookup x=some c->X.env.cells.lookup x=some c) (hc2:∀ z∈scope.names,z.2 = .free->∃ c,cl.lookup z.1=some c)
  (ho:s.heap.get? f=some (kla_obj "<lambda>" qual params body scope cl pm c' ctv)) (hcd:s.heap.CodeRec (.ref c') qual)
  (hb:∀ u:Value,bindArgs (kla_fn "<lambda>" qual params body scope cl pm (.ref c') ctv) ⟨[u],[]⟩=pure [(x,u)])
   {vs:V}(ru:jr v u) (hy:cl.lookup y=some c) (hcell:s.heap.IsCell c (some us)) (rs:jr vs us)
  (he:Room k (A.deeper (envX qual scope s.heap.objs.size f (.ref c') cl))->PE (qhF X A [x,y] qual scope f (.ref c') cl s H) body te) (q:te [some v,some vs] H Q) :
  wpAny 'M' A (call (.ref f) [u]) (EP X Oa G Q) E s:=by
 refine wpAny_call ?_;refine kla_callFunE hr.depth ho rfl S.co S.gen rfl hcd ?_;rw[hb u];refine qf (wpAny_newFunctionEnv S.nc (fun z hz=>by rw[qJ.mp hz];exact S.par) (fun hd1 hns hsb=>⟨I.nolimit.fresh _ hsb,?_⟩) S.kind);have hak1:∀ b o,s.heap.get? b=some o->hd1.get? b=some o:=fun b o e=>hsb.extBut b o (qt (qo e)) (qd _ e);show codeAny _ _ (.expr body (envX qual scope s.heap.objs.size f (.ref c') cl)) _ _;have J:=ql2 (qual:=qual) (f:=f) (cd:=.ref c') (tk:=s.toks+1) I S hA hr.hd hc1 hc2 ru hy hcell rs hns hak1;refine kla_codeExpr (qN (he (hr.deeper _) [] _ _ H Q J q) (fun r s' hs=>?_) fun _ _ z=>z.elim);obtain⟨w,H',J',rw',q'⟩:=hs;exact I.after ⟨w,H',J'.os,J'.bare,J'.base,J'.hok,rw',q'⟩
end
end L2
namespace L2
open W
variable {c:Addr}
def qcK (c:Addr) (q:Str):HO:=.ext fun h=>h.CodeRec (.ref c) q
theorem qjy {q:Str}(r:h.CodeRec (.ref c) q):jB P w H h c (qcK c q):=by
 refine⟨r,?_,fun h1 h2 p1 k=>?_⟩
 .obtain ⟨c',o,vs,t,e,ho,_⟩:=r;cases e
  exact⟨o,ho⟩
 .obtain ⟨c',o,vs,t,e,ho,z⟩:=p1;cases e
  exact⟨c,o,vs,t,rfl,k o ho,z⟩
def qmN (q:Str) (pos:Pos) (H:Hp) (u:HO):Prop:=∃ ps,u = .tbl ps/\(ps=#[]\/∃ c,ps=#[rawInt pos.line,rawInt pos.col,.ref c]/\H c=some (qcK c q))
def qaU (base:Heap) (mg:Str->Option Value):Prop:=∃ bm ob,mg "__builtins__" = some (.ref bm)/\bm≠builtinsNs/\base.get? bm=some ob/\ob.cls = .type "module" /\ ob.dict=some builtinsNs/\ob.data = .plain
section
variable {P:Addr}{body:Expr}
theorem qi5 (I:Inv X Oa G H s) (hB:qaU X.base X.mg) (hC:CodeHd X.base c P) (hcode:X.env.code = .ref c) (hq:X.env.qual ++ "<lambda>" = qual) {u:HO}(hP:H P=some u) (hT:qmN qual pos H u) (hdef:defaultsOf params X.env=([],[]))
  {clos:List (Str×Addr)}(hcl:closureFor scope X.env=pure clos) {Q:Value->Shared->Prop}
  (h:∀ f c' ctv pm H' s',Inv X Oa G H' s'->s'.heap.get? f=some (kla_obj "<lambda>" qual params body scope clos pm c' ctv)->H' f=none->s.heap.objs.size<=f->H' c'=some (qcK c' qual)->H' P=some (.tbl #[rawInt pos.line,rawInt pos.col,.ref c'])->(H c'=none\/H'=H)->(∀ b o,H b=some o->b≠P->H' b=some o)->(∀ b o,s.heap.get? b=some o->b≠P->s'.heap.get? b=some o)->Q (.ref f) s') :
  wpAny 'M' X.A (eval (.Lambda params body scope pos) X.env) Q X.xe s:=by
 refine kla_eval hdef ?_;rw[hq];have C:=hC.keeps I.bk;obtain⟨ps,rfl,hps⟩:=hT;have hPo:s.heap.get? P=some (tabObj ps):=I.hok P _ hP;have hg:s.heap.Ns mainGlobals X.mg:=I.ok.mod.glob.keeps I.bk;have hbP:∀ b o,X.base.get? b=some o->b≠P:=fun b o e z=>by
  have:=(I.bs b o e).2;rw[z,hP] at this;cases this
 have hgP:mainGlobals≠P:=by
  obtain⟨o,es,ep,e,_⟩:=I.ok.mod.glob;exact hbP _ _ e
 have hBA:s.heap.BuiltinsAt X.mg P:=by
  obtain⟨bm,ob,b1,b2,b3,b4,b5,b6⟩:=hB;refine⟨bm,ob,b1,b2,fun z=>?_,hbP _ _ b3,I.bk _ _ b3,b4,b5,b6⟩;obtain⟨o,es,ep,e,hd,_⟩:=I.ok.mod.glob;rw[z,e] at b3;cases b3
  rw[b6] at hd;cases hd
 rcases hps with rfl | ⟨c0,rfl,hc0⟩
 .refine kla_makeFunction (mg:=X.mg) hcl I.ok.glob hg hcode C hPo trivial rfl hgP hBA fun c' ctv h' tk hx hge hlt hrec htb=>?_;have old:∀ b o,b≠P->s.heap.get? b=some o->(h'.push (kla_obj "<lambda>" qual params body scope clos ((X.mg "__name__").getD .none) c' ctv)).get? b=some o:=fun b o hb e=>qd _ (hx b o hb e);have hcn:H c'=none:=I.hok.fresh hge;have hcP:c'≠P:=fun z=>by rw[z,hP] at hcn;cases hcn
  have htb2:(h'.push (kla_obj "<lambda>" qual params body scope clos ((X.mg "__name__").getD .none) c' ctv)).get? P=some (tabObj #[rawInt pos.line,rawInt pos.col,.ref c']):=qd _ (by simpa using htb);have hrec2:=hrec.push (kla_obj "<lambda>" qual params body scope clos ((X.mg "__name__").getD .none) c' ctv);have hsz:s.heap.objs.size<=h'.objs.size:=qz hge (yT hlt);have hf:=qD (h:=h') (o:=kla_obj "<lambda>" qual params body scope clos ((X.mg "__name__").getD .none) c' ctv) rfl;have hfP:h'.objs.size≠P:=fun z=>by
   have:=qo hPo;rw[<- z] at this;exact absurd (qM this hsz) (yz _)
  generalize h'.push (kla_obj "<lambda>" qual params body scope clos ((X.mg "__name__").getD .none) c' ctv)=h2 at *;have nc:∀ b u,H b=some u->b≠c':=fun b u e z=>by rw[z,hcn] at e;cases e
  have nP:∀ b u,H b=some u->(∀ ps,u≠.tbl ps)->b≠P:=fun b u e hu z=>by rw[z,hP] at e;cases e;exact hu _ rfl
  have at':∀ b,b≠P->b≠c'->upd (upd H P (.tbl #[rawInt pos.line,rawInt pos.col,.ref c'])) c' (qcK c' qual) b=H b:=fun b h1 h2=>by rw[qX h2,qX h1]
  have hH':upd (upd H P (.tbl #[rawInt pos.line,rawInt pos.col,.ref c'])) c' (qcK c' qual) P=some (.tbl #[rawInt pos.line,rawInt pos.col,.ref c']):=by rw[qX (Ne.symm hcP),yg]
  have J:Inv X Oa G (upd (upd H P (.tbl #[rawInt pos.line,rawInt pos.col,.ref c'])) c' (qcK c' qual)) { s with heap:=h2,toks:=tk }:=by
   refine I.un ⟨fun b o e n _ _=>old b o (fun z=>by rw[z,hP] at n;cases n) e,fun b o e n _ _=>⟨o.slots,old b o (fun z=>by rw[z,hP] at n;cases n) e⟩,fun b o e n _=>?_,fun b o e _=>?_,fun b xs e=>?_,fun b o u e=>?_,fun b ps e=>?_⟩ fun b u e=>?_
   .rw [at' b (fun z=>by rw[z,hP] at n;cases n) (fun z=>?_)]
    .exact n
    .have:=qo e;rw[z] at this;exact absurd (qM this hge) (yz _)
   .by_cases z:b=P
    .rw [z];exact⟨_,htb2⟩
    .exact ⟨o,old b o z e⟩
   .rw [at' b (nP b _ e fun _ z=>by cases z) (nc b _ e)];exact e
   .rw [at' b (nP b _ e fun _ z=>by cases z) (nc b _ e)];exact e
   .by_cases z:b=P
    .subst z;rw[hP] at e;cases e
     exact⟨#[rawInt pos.line,rawInt pos.col,.ref c'],by rw[hH'];simp⟩
    .exact ⟨#[],by rw[at' b z (nc b _ e),e];simp⟩
   .by_cases z1:b=c'
    .subst z1;rw[yg] at e;cases e
     exact qjy hrec2
    .by_cases z2:b=P
     .subst z2;rw[hH'] at e;cases e
      exact htb2
     .rw [at' b z2 z1] at e;refine (I.hok b u e).stay (fun d v hd q=>old d v (fun z=>?_) q) (fun d q=>?_) fun d xs q=>?_
      .rcases hd with hd | hd
       .exact z2 (hd.symm.trans z)
       .rw [z,hP] at hd;cases hd
      .rw [at' d (nP d _ q fun _ z=>by cases z) (nc d _ q)];exact q
      .rw [at' d (nP d _ q fun _ z=>by cases z) (nc d _ q)];exact q
  refine h _ c' ctv _ _ _ J hf ?_ hsz yg hH' (.inl hcn) (fun b o e hb=>?_) (fun b o e hb=>old b o hb e)
  .rw [at' _ hfP (Nat.ne_of_gt hlt)];exact I.hok.fresh hsz
  .rw [at' b hb (nc b o e)];exact e
 .have ht:TriplesOk (#[rawInt pos.line,rawInt pos.col,Value.ref c0]).toList:=trivial;refine kla_makeFunctionHit (mg:=X.mg) (cv:=.ref c0) hcl I.ok.glob hg hcode C hPo ht (by simp[codeAmong,rawInt]) hBA fun ctv h' tk hk hsz=>?_;have J:Inv X Oa G H { s with heap:=h'.push (kla_obj "<lambda>" qual params body scope clos ((X.mg "__name__").getD .none) c0 ctv),toks:=tk }:=I.kept fun b o e=>qd _ (hk b o e);exact h _ c0 ctv _ H _ J (qD _ rfl) (I.hok.fresh hsz) hsz hc0 hP (.inr rfl) (fun _ _ e _=>e) fun b o e _=>qd _ (hk b o e)
end
end L2
namespace L2
open W
variable {kS:Addr}{T:List V->Hp->Prop}{P:PySem.Fin->Shared->Prop}{e1:Nat}
theorem Inv.adopt {o:HO}(I:Inv X Oa G H s) (F:YM X Oa H a) (k:∀ b u,b≠a->s.heap.get? b=some u->h'.get? b=some u) (new:jB X.prog X.w (upd H a o) h' a o):Inv X Oa G (upd H a o) { s with heap:=h',toks:=t' }:=by
 have hn:H a=none:=F.1;have nch:∀ b,b∉[a]->b≠a:=fun b hc z=>hc (by simp[z]);refine I.step (g':=s.gens) (d':=s.drawn) (ch:=[a]) (fun b hb=>?_) (fun b u _ _ hc e _=>k b u (nch b hc) e) (fun b u _ _ hc e _=>⟨u.slots,k b u (nch b hc) e⟩) (fun b u hc e n=>by rw[qX (nch b hc)];exact n)
  (fun b u hc e=>⟨u,k b u (nch b hc) e⟩) (fun b xs e=>by rw[qX (qQ e hn)];exact e) (fun b u v e=>by rw[qX (qQ e hn)];exact e) (fun b ps e=>⟨#[],by rw[qX (qQ e hn),e];simp⟩) (fun m hm=>?_) (fun b u e=>?_) I.bare
 .rw [qJ.mp hb];obtain⟨_,f1,_,f3,f4,f5⟩:=F;exact⟨f3,f1,f4,f5⟩
 .obtain ⟨u,es,ep,ho,r⟩:=hm;exact⟨u,es,ep,k _ u (Ne.symm F.2.1) ho,r⟩
 .by_cases hb:b=a
  .subst hb;rw[yg] at e;cases e;exact new
  .rw [qX hb] at e;refine (I.hok b u e).stay (fun c v hc q=>k c v ?_ q) (fun c q=>by rw[qX (qQ q hn)];exact q) fun c xs q=>by rw[qX (qQ q hn)];exact q
   rcases hc with z | z
   .rw [z];exact hb
   .exact qQ z hn
theorem Inv.pin1 (I:Inv X Oa G H s) {o:Obj}(F:YM X Oa H b) (e:s.heap.get? b=some o) (hd:∀ v,o.data≠.cell v):Inv X (Oa++[(b,o)]) G H s :=
 I.pins_of fun p hp=>(qG.mp hp).elim (fun z=>I.pin p (qg _ z)) fun z=>by rw[qJ.mp z];exact⟨e,F.1,F.2.1,F.2.2.1,hd⟩
theorem Inv.turn1 (I:Inv X Oa G H s) (F:YM X Oa H a) (k:∀ b o,b≠a->s.heap.get? b=some o->h'.get? b=some o):Inv X Oa G H { s with heap:=h',toks:=t' } :=
 I.turned k F.1 F.2.1 F.2.2.2.1 F.2.2.2.2.1 F.2.2.2.2.2
theorem YM.at (F:YM X Oa H a) (h:H' a=none):YM X Oa H' a:=⟨h,F.2⟩
theorem ql5 {e2:Nat}
  (F1:YM X Oa H D) (F2:YM X Oa H kS) (hne:D≠kS) (I:Inv X Oa G H s) (hD:s.heap.get? D=some (seqObj "list" #[] e1)) (hk:s.heap.get? kS=some (seqObj "list" #[] e2)) (rv:yM vs its) (hl:vs.length<4900) (t0:T [] H)
  (turn:∀ ks H1 s1 v u pl,Inv X (Oa++pl) G H1 s1->T ks H1->vs[ks.length]?=some v->jr v u->wpAny 'M' A (call (.ref f) [u]) (EP X (Oa++pl) G fun w H2=>T (ks++[w]) H2) (fun _ _=>False) s1)
  (fin:∀ ks H1 s1 kA e,Inv X Oa G H1 s1->s1.heap.get? D=some (seqObj "list" #[] e1)->s1.heap.get? kS=some (seqObj "list" kA e)->H1 D=none->H1 kS=none->yM ks kA.toList->ks.length=vs.length->T ks H1->wpAny 'M' A (ksk_end D false its.toArray e1 (.ref kS) kA) P E s1) :
  wpAny 'M' A (ksk_rest D (.ref f) false its.toArray e1 (.ref kS)) P E s:=by
 unfold ksk_rest;refine qa (Jy ?_);first
  | rw[List.forIn_toArray]
  | (rw[<- Array.forIn_toList];simp only[List.toList_toArray])
  | rw[<- Array.forIn_toList]
 have hlen:=rv.length;refine qa (ksk_fold (fun i s'=>∃ H1 ks kA e,Inv X Oa G H1 s'/\s'.heap.get? D=some (seqObj "list" #[] e1)/\s'.heap.get? kS=some (seqObj "list" kA e)/\H1 D=none/\H1 kS=none/\yM ks kA.toList/\ks.length=i/\T ks H1) its 0 s
  ⟨H,[],#[],e2,I,hD,hk,F1.1,F2.1,.nil,rfl,t0⟩ ?step ?done)
 case step =>
  rintro j x s' hx ⟨H1,ks,kA,e,J,j1,j2,n1,n2,r1,l1,t1⟩;simp only[Nat.zero_add] at l1 ⊢;have hj:j<its.length:=(qC.mp hx).1;obtain⟨v,hv⟩:∃ v,vs[j]?=some v:=⟨_,qh 'l'⟩;obtain⟨u,e3,rx⟩:=yM.get rv hv;rw[hx] at e3;cases e3
  have J1:=J.pin1 (F1.at n1) j1 (fun v z=>by cases z);have F2':YM X (Oa++[(D,seqObj "list" #[] e1)]) H1 kS:=by
   refine⟨n2,F2.2.1,F2.2.2.1,F2.2.2.2.1,F2.2.2.2.2.1,fun p hp=>?_⟩;rw[<- qm] at hp;rcases qG.mp hp with hp | hp
   .exact F2.2.2.2.2.2 p hp
   .rw [qJ.mp hp];exact hne
  have J2:=J1.pin1 F2' j2 (fun v z=>by cases z);rw[qm] at J2;refine qa (wpAny_attempt (qN (turn ks H1 s' v x _ J2 t1 (by rw[l1];exact hv) rx) (fun w s2 h2=>?_) fun _ _ z=>z.elim));obtain⟨y,H2,J3,ry,t2⟩:=h2
  try dsimp only
  have p1:=J3.pin (D,seqObj "list" #[] e1) 's';have p2:=J3.pin (kS,seqObj "list" kA e) 's';have J4:=J3.unpinned;have hz:kA.size=j:=by rw[<- qy,<- yM.length r1,l1]
  obtain⟨c2,hc2⟩:∃ c2,(s2.heap.update kS (Obj.mapSeq (·.push w))).get? kS=some (seqObj "list" (kA.push w) c2):=⟨_,get?_update_seq p2.1 (·.push w)⟩;refine qa (listUpdate_at p2.1 rfl ?_ (by rw[sizeLine_eq];lia) (qz (Nat.le_of_eq (Array.size_push ..)) (by rw[sizeLine_eq];lia)));refine qf ⟨rfl,H2,ks++[y],kA.push w,c2,J4.turn1 (t':=s2.toks) (F2.at p2.2.1) (fun b o hb q=>by rw[jC _ _ _ _ hb];exact q),?_,hc2,p1.2.1,p2.2.1,?_,by rw[qr,l1];rfl,t2⟩
  .show (s2.heap.update kS _).get? D=_;rw[jC _ _ _ _ hne];exact p1.1
  .rw [jc];exact r1.append (.cons ry .nil)
 case done =>
  rintro s' ⟨H1,ks,kA,e,J,j1,j2,n1,n2,r1,l1,t1⟩
  try dsimp only
  refine qa (listItems_at j2 rfl ?_);exact fin ks H1 s' kA e J j1 j2 n1 n2 r1 'l' t1
theorem qc5 : ∀ {ka its:List Value}{kss:List (List Int)}{vs:List V},PySem.Paired (jq h) ka kss->yM vs its->∃ L:List ((Value×Value)×(List Int×V)),ka.zip its=L.map (·.1)/\kss.zip vs=L.map (·.2)/\∀ t∈L,jq h t.1.1 t.2.1/\jr t.2.2 t.1.2
 | _,_,_,_,.nil,_=>⟨[],rfl,rfl,fun _ z=>nomatch z⟩
 | _,_,_,_,.cons _ _,.nil=>⟨[],rfl,rfl,fun _ z=>nomatch z⟩
 | a::ka,u::its,k::kss,v::vs,.cons r1 t1,.cons r2 t2=>by
  obtain⟨L,e1,e2,e3⟩:=qc5 t1 t2;refine⟨((a,u),(k,v))::L,by simp[e1],by simp[e2],fun t ht=>?_⟩;rcases qF.mp ht with rfl | ht
  .exact ⟨r1,r2⟩
  .exact e3 t ht
theorem qdX (f:α->V) (g:α->Value):∀ (L:List α),(∀ t∈L,jr (f t) (g t))->yM (L.map f) (L.map g)
 | [],_=>.nil
 | a::L,h=>.cons (h a qj) (qdX f g L fun t ht=>h t (qe _ ht))
theorem qeU {ka:List Value}(hT:PySem.Paired (jq h) ka kss) (rv:yM vs its) {xs:List Keyed}(hp:xs.Perm (ka.zip its)) (hs:SdK (kfF h) xs) :
  ∃ ps:List (List Int×V),ps.Perm (kss.zip vs)/\(ps.Pairwise fun a b=>¬ b.1<a.1)/\yM (ps.map (·.2)) (xs.map (·.2)):=by
 obtain⟨L,e1,e2,e3⟩:=qc5 hT rv;obtain⟨l,p1,p2⟩:=ZY (fun t:(Value×Value)×(List Int×V)=>t.1) hp e1;have hr:∀ t∈l,jq h t.1.1 t.2.1/\jr t.2.2 t.1.2:=fun t ht=>e3 t (p1.mem_iff.mp ht);refine⟨l.map (·.2),by rw[e2];exact p1.map _,?_,?_⟩
 .rw [jb];unfold SdK at hs;rw[p2,jb] at hs;refine hs.imp_of_mem fun {a b} ha hb z=>?_;have:=of_decide_eq_false z;rw[qg1 (hr a ha).1,qg1 (hr b hb).1] at this;exact this
 .rw [p2,yu,yu];exact qdX _ _ l fun t ht=>(hr t ht).2
theorem qoR {ks:List V}{kA:Array Value}{e:Nat}
  (F1:YM X Oa H D) (F2:YM X Oa H kS) (hne:D≠kS) (I:Inv X Oa G H s) (hD:s.heap.get? D=some (seqObj "list" #[] e1)) (hk:s.heap.get? kS=some (seqObj "list" kA e)) (rv:yM vs its) (hl:vs.length<4900) (rk:yM ks kA.toList) (hkl:ks.length=vs.length) (hT:PySem.Paired (ZR X.K H) ks kss)
  (fin:∀ ps:List (List Int×V),ps.Perm (kss.zip vs)->(ps.Pairwise fun a b=>¬ b.1<a.1)->∀ s',Inv X Oa G (upd H D (.lst (ps.map (·.2)))) s'->P (.done (.ret .none)) s') :
  wpAny 'M' A (ksk_end D false its.toArray e1 (.ref kS) kA) P E s:=by
 have hK:=I.tupsK hT rk;have hlen:=rv.length;have hsz:kA.size=its.length:=by rw[<- qy,<- yM.length rk,hkl,hlen]
 have hzs:(kA.zip its.toArray).size=its.length:=by rw[Array.size_zip,hsz,qB,Nat.min_self]
 have tail:∀ st:SortSt,(arrOf st).Perm (kA.zip its.toArray)->SdK (kfF s.heap) (arrOf st).toList->failedOf st=none->wpAny 'M' A (ksk_tail D false e1 (.ref kS) st) P E s:=by
  intro st hp hs hfl;have hp2:(arrOf st).toList.Perm (kA.toList.zip its):=by rw[<- ksk_zip];exact y4.mp hp
  obtain⟨ps,q1,q2,q3⟩:=qeU hK rv hp2 hs;have hsz2:(arrOf st).size=its.length:=by rw[hp.size_eq,hzs]
  unfold ksk_tail
  try dsimp only
  have na1:(s.heap.update kS (Obj.mapSeq fun _=>(#[]:Array Value))).get? D=some (seqObj "list" #[] e1):=by rw[jC _ _ _ _ hne];exact hD
  obtain⟨c2,hc2⟩:∃ c2,((s.heap.update kS (Obj.mapSeq fun _=>(#[]:Array Value))).update D (Obj.mapSeq fun _=>(arrOf st).map (·.2))).get? D=some (seqObj "list" ((arrOf st).map (·.2)) c2) :=
   ⟨_,get?_update_seq na1 fun _=>(arrOf st).map (·.2)⟩
  refine qa (listUpdate_at hk rfl ?_ (by rw[hsz,sizeLine_eq];lia) (yj _));refine qa (wpAny_letGo ?_);refine qa (seqEpoch_at na1 rfl ?_);simp only[ql,if_false];refine qa (listUpdate_at na1 rfl ?_ (yj _) (by rw[Array.size_map,hsz2,sizeLine_eq];lia));rw[hfl];simp only[bne_self_eq_false,ql,if_false];have I1:=I.turn1 (t':=s.toks) (h':=s.heap.update kS (Obj.mapSeq fun _=>(#[]:Array Value))) F2 fun b o hb q=>by rw[jC _ _ _ _ hb];exact q
  refine qf (fin ps q1 q2 _ (I1.adopt (t':=s.toks) F1 (fun b o hb q=>by rw[jC _ _ _ _ hb];exact q) ⟨?_,((arrOf st).map (·.2)).toList,c2,?_,by rw[Array.toArray_toList];exact hc2⟩))
  .rw [qc,q1.length_eq,List.length_zip,sizeLine_eq];lia
  .rw [Array.toList_map];exact q3
 unfold ksk_end
 try dsimp only
 simp only[ql,if_false];by_cases h2:its.toArray.size<2
 .rw [if_pos h2,if_pos h2];refine qa (qf ?_);rw[StateT.run_pure];refine qa (qf ?_)
  try dsimp only
  refine tail (SortSt.mk' general' (kA.zip its.toArray) #[] 7 none) (Array.Perm.refl _) ?_ rfl;rw[qB] at h2;have:(kA.zip its.toArray).toList.length<2:=by rw[qy,hzs];exact h2
  show SdK (kfF s.heap) (kA.zip its.toArray).toList;generalize (kA.zip its.toArray).toList=zs at this;match zs,this with
  | [],_=>exact .nil
  | [a],_=>exact List.pairwise_singleton _ _
  | _::_::_,h=>exact absurd h 's'
 .rw [if_neg h2,if_neg h2];rw[qB] at h2;have ek:kA=kA.toList.toArray:=by simp
  have kd:=qg0 (prog:=X.prog) (w:=X.w) (A:=A) (E:=E) (Q:=fun k s'=>k=tuples' true/\s'=s) hK (by rw[qy,hsz];lia) ⟨rfl,rfl⟩;rw[<- ek] at kd;refine qa (qN kd (fun k s' h=>?_) fun _ _ z=>z);obtain⟨rfl,rfl⟩:=h;have hD6:∀ x∈(kA.zip its.toArray).toList,∃ ks,jq s'.heap x.1 ks:=fun x hx=>by
   rw[ksk_zip] at hx;obtain⟨L,e1,e2,e3⟩:=qc5 hK rv;rw[e1] at hx;obtain⟨t,ht,rfl⟩:=qu.mp hx;exact⟨_,(e3 t ht).1⟩
  have run:=Z6 (prog:=X.prog) (w:=X.w) (A:=A) (E:=E) (s:=s') (st:=SortSt.mk' (tuples' true) (kA.zip its.toArray) #[] 7 none) (a0:=kA.zip its.toArray)
   (Q:=fun _ st'=>(arrOf st').Perm (kA.zip its.toArray)/\SdK (kfF s'.heap) (arrOf st').toList/\failedOf st'=none)
   (qeG (s:=s')) (qki s'.heap) rfl rfl rfl rfl hD6 (by rw[hzs];lia) (fun st' hp hf hs=>⟨hp,hs,hf⟩)
  refine qa (qN (show wpAny 'M' A (sortRuns'.run _) _ E _ from run) ?_ fun _ _ e=>e);rintro⟨⟨⟩,st'⟩ s'' ⟨rfl,hp,hs,hf⟩;exact tail st' hp hs hf
theorem qeQ {l:Addr}(I:Inv X Oa G H s) (hL:s.heap.IsList l its.toArray) (rv:yM vs its) (hl:vs.length<4900) (t0:T [] H)
  (turn:∀ ks H1 s1 v u pl,Inv X (Oa++pl) G H1 s1->T ks H1->vs[ks.length]?=some v->jr v u->wpAny 'M' X.A.in1.in1 (call (.ref f) [u]) (EP X (Oa++pl) G fun w H2=>T (ks++[w]) H2) (fun _ _=>False) s1)
  (fin:∀ ks H1,ks.length=vs.length->T ks H1->∃ kss,PySem.Paired (ZR X.K H1) ks kss/\∀ (D:Addr) (ps:List (List Int×V)),H1 D=none->ps.Perm (kss.zip vs)->(ps.Pairwise fun a b=>¬ b.1<a.1)->Q (.ref D) (upd H1 D (.lst (ps.map (·.2))))) :
  wpAny 'M' X.A (call (.builtin "sorted") [.ref l] [(Str.ofString "key",.ref f)]) (EP X Oa G Q) E s:=by
 have hlen:=rv.length;refine call_function_entry_kw kind_sorted plain_sorted entry_sorted (ksk_s1 _ _) ?_;unfold Builtin.«sorted»;refine qa (m:=checkCount "sorted" 1 1 _) (qf ?_);refine qa (collect_list hL ?_ (by rw[sizeLine_eq];lia));refine qa (wpAny_newList ?_ (by rw[sizeLine_eq];lia));have hsz:((s.heap.push (seqObj "list" #[] 0)).update s.heap.objs.size (Obj.mapSeq (·++its.toArray))).objs.size=s.heap.objs.size+1:=by rw[Heap.size_update,size_push']
 have hoL:(((s.heap.push (seqObj "list" #[] 0)).update s.heap.objs.size (Obj.mapSeq (·++its.toArray))).push (seqObj "list" its.toArray 0)).get? (s.heap.objs.size+1)=some (seqObj "list" its.toArray 0):=by rw[<- hsz];exact qD _ rfl
 have keep:∀ b o,s.heap.get? b=some o->(((s.heap.push (seqObj "list" #[] 0)).update s.heap.objs.size (Obj.mapSeq (·++its.toArray))).push (seqObj "list" its.toArray 0)).get? b=some o:=fun b o q=>by
  have hlt:b<s.heap.objs.size:=qo q;rw[Heap.get?_push_ne _ _ _ (by rw[hsz];exact qt (Nat.lt_succ_of_lt hlt)),jC _ _ _ _ (qt hlt),Heap.get?_push_ne _ _ _ (qt hlt)];exact q
 have hsz2:(((s.heap.push (seqObj "list" #[] 0)).update s.heap.objs.size (Obj.mapSeq (·++its.toArray))).push (seqObj "list" its.toArray 0)).objs.size=s.heap.objs.size+2:=by rw[size_push',hsz]
 show wpAny _ _ _ _ _ { s with heap:=((s.heap.push (seqObj "list" #[] 0)).update s.heap.objs.size (Obj.mapSeq (·++its.toArray))).push (seqObj "list" its.toArray 0) };rw[hsz];generalize ((s.heap.push (seqObj "list" #[] 0)).update s.heap.objs.size (Obj.mapSeq (·++its.toArray))).push (seqObj "list" its.toArray 0)=h1 at *;have I1:Inv X Oa G H { s with heap:=h1 }:=I.kept (t':=s.toks) keep;have FD:YM X Oa H (s.heap.objs.size+1):=I.fpOk (Nat.le_succ _) (I.hok.fresh (Nat.le_succ _));refine qa (yq (wpAny_call_entry_kw slot_list_sort ⟨_,hoL,rfl⟩ entry_list_sort ?body (ksk_l1 _ _)));case body =>
  show wpAny 'M' X.A.in1.in1 (Builtin.«list.sort» ⟨[.ref (s.heap.objs.size+1)],[(Str.ofString "key",.ref f)]⟩) _ _ _;rw[ksk_t1];obtain⟨e1,ho1⟩:∃ e1,(h1.update (s.heap.objs.size+1) (Obj.mapSeq fun _=>(#[]:Array Value))).get? (s.heap.objs.size+1)=some (seqObj "list" #[] e1):=⟨_,get?_update_seq hoL fun _=>#[]⟩;have I2:=I1.turn1 (t':=s.toks) (h':=h1.update (s.heap.objs.size+1) (Obj.mapSeq fun _=>(#[]:Array Value))) FD fun b o hb q=>by rw[jC _ _ _ _ hb];exact q
  have z2:(h1.update (s.heap.objs.size+1) (Obj.mapSeq fun _=>(#[]:Array Value))).objs.size=s.heap.objs.size+2:=by rw[Heap.size_update,hsz2]
  unfold ksk_tree;refine qa (listItems_at hoL rfl ?_);refine qa (listUpdate_at hoL rfl ?_ (by rw[qB,sizeLine_eq];lia) (yj _));refine qa (seqEpoch_at ho1 rfl ?_);refine qa (wpAny_newTuple ?_ (by show its.length<=_;rw[sizeLine_eq];lia));refine qa (wpAny_newList ?_ (yj _));refine yq ?_;generalize h1.update (s.heap.objs.size+1) (Obj.mapSeq fun _=>(#[]:Array Value))=h2 at *;have z3:(h2.push (seqObj "tuple" its.toArray 0)).objs.size=s.heap.objs.size+3:=by rw[size_push',z2]
  have k3:∀ b o,h2.get? b=some o->((h2.push (seqObj "tuple" its.toArray 0)).push (seqObj "list" #[] 0)).get? b=some o:=fun b o q=>qd _ (qd _ q);have hkS:((h2.push (seqObj "tuple" its.toArray 0)).push (seqObj "list" #[] 0)).get? (s.heap.objs.size+3)=some (seqObj "list" #[] 0):=by rw[<- z3];exact qD _ rfl
  have I3:Inv X Oa G H { s with heap:=(h2.push (seqObj "tuple" its.toArray 0)).push (seqObj "list" #[] 0) }:=I2.kept (t':=s.toks) k3;have FK:YM X Oa H (s.heap.objs.size+3):=I.fpOk (Nat.le_add_right _ 3) (I.hok.fresh (Nat.le_add_right _ 3));have hne:s.heap.objs.size+1≠s.heap.objs.size+3:=by lia
  show wpAny 'M' X.A.in1.in1 (ksk_rest (s.heap.objs.size+1) (.ref f) false its.toArray e1 (.ref (h2.push (seqObj "tuple" its.toArray 0)).objs.size)) _ _ { s with heap:=(h2.push (seqObj "tuple" its.toArray 0)).push (seqObj "list" #[] 0) };rw[z3];refine ql5 (T:=T) FD FK hne I3 (k3 _ _ ho1) hkS rv hl t0 turn fun ks H1 s1 kA e J j1 j2 n1 n2 r1 l1 t1=>?_;obtain⟨kss,hT,q⟩:=fin ks H1 l1 t1;refine qoR (FD.at n1) (FK.at n2) hne J j1 j2 rv hl r1 l1 hT fun ps p1 p2 s' J'=>⟨_,rfl,?_⟩;exact qf ⟨_,rfl,.ref (s.heap.objs.size+1),_,J',rfl,q _ ps n1 p1 p2⟩
end L2
namespace L2
open W
variable {body:Expr}{P c:Addr}
def tabC (pos:Pos) (c:Addr):HO:=.tbl #[rawInt pos.line,rawInt pos.col,.ref c]
def qjP (K:W.Frag) (P:Addr) (qual:Str) (lp:Pos) (i:Nat) (tl te:TE):TE:=fun G H Q=>tl G H fun v H1=>∃ l us y u,v = .ref l/\SqL K H1 l us/\us.length<4900/\G[i]?=some (some y)/\H1 P=some u/\qmN qual lp H1 u ∧
 ∀ H2 c',(∀ b o,H1 b=some o->b≠P->H2 b=some o)->H2 P=some (tabC lp c')->H2 c'=some (qcK c' qual)->(H1 c'=none\/H2=H1) →
  ∃ T:List V->Hp->Prop,T [] H2/\(∀ ks H3,T ks H3->H3 c'=some (qcK c' qual))/\(∀ ks H3 v,T ks H3->us[ks.length]?=some v->te [some v,some y] H3 fun w H4=>T (ks++[w]) H4) ∧
   ∀ ks H3,ks.length=us.length->T ks H3->∃ kss,PySem.Paired (ZR K H3) ks kss/\∀ (D:Addr) (ps:List (List Int×V)),H3 D=none->ps.Perm (kss.zip us)->(ps.Pairwise fun a b=>¬ b.1<a.1)->Q (.ref D) (upd H3 D (.lst (ps.map (·.2))))
section
variable {le:Expr}{lp:Pos}{te:TE}{k:Nat}
theorem qiF (hB:qaU X.base X.mg) (hC:CodeHd X.base c P) (hcode:X.env.code = .ref c) (hq:X.env.qual ++ "<lambda>" = qual) (hdef:defaultsOf params X.env=([],[])) (S:LamSc x y scope) (hyf:∀ z∈scope.names,z.2 = .free->z.1=y)
  (hyX:X.env.scope.names.lookup y=some .cell) (hN:X.N[i]?=some y) (hg:Gl X "sorted") (hm:X.mg "sorted" = none) (hr:Room (k+1) X.A.in1.in1)
  (hb:∀ (clos:List (Str×Addr)) (pm cd ctv u:Value),bindArgs (kla_fn "<lambda>" qual params body scope clos pm cd ctv) ⟨[u],[]⟩=pure [(x,u)])
  (hl:PE X le tl) (he:∀ f c' cl s H,Room k (X.A.in1.in1.deeper (envX qual scope s.heap.objs.size f (.ref c') cl))->PE (qhF X X.A.in1.in1 [x,y] qual scope f (.ref c') cl s H) body te)
  (hs1:starEach [le] X.env=(false,eval le X.env)::starEach [] X.env:=by rfl) :
  PE X (.Call (.Name "sorted" p) [le] [⟨some "key",.Lambda params body scope lp,kp⟩] p') (qjP X.K P qual lp i tl te):=by
 intro Oa s G H Q I h;obtain⟨cl,hcl,hc1,hc2⟩:=YB (env:=X.env) (scope:=scope) fun z hz hfr=>by
  rw[hyf z hz hfr];exact I.ok.has y (.inl hyX)
 refine jL (qav I hg hm qaL (callWith_kw ?_ (by rw[hs1];rfl) (by rw[hs1];rfl)));have sp:backTo p' (starEach [le] X.env)=(false,eval le X.env)::backTo p' (starEach [] X.env):=by rw[hs1];rfl
 rw[sp];refine Calls.spliced_cons (thn (hl Oa s G H _ I h) fun u s1 ⟨v,H1,I1,r1,q1⟩=>Calls.spliced_nil ?_);obtain⟨l,us,yv,tb,rfl,hS,hz,hU,hP,hT,q⟩:=q1;cases r1
 refine kws_cons (qi5 I1 hB hC hcode hq hP hT hdef hcl fun f c' ctv pm H2 s2 I2 hf hfn hfz hc' hP' hor hk1 hk2=>kws_nil ?_);obtain⟨T,t0,tc,ts,tf⟩:=q H2 c' hk1 hP' hc' hor;have hSP:∀ us,SqL X.K H1 l us->SqL X.K H2 l us:=fun us z=>by
  have nl:∀ o,H1 l=some o->(∀ ps,o≠.tbl ps)->l≠P:=fun o e hu z=>by
   obtain⟨ps,e2,_⟩:=hT;rw[z,hP,e2] at e;cases e
   exact hu ps rfl
  rcases z with (e | ⟨o,e⟩) | e
  .exact .inl (.inl (hk1 _ _ e (nl _ e fun _ z=>by cases z)))
  .exact .inl (.inr ⟨o,hk1 _ _ e (nl _ e fun _ z=>by cases z)⟩)
  .exact .inr e
 obtain⟨its,rv,pl,_⟩:=I2.list (hSP us hS);have Ff:YM X Oa H2 f:=I1.fpOk hfz hfn;have I3:=I2.pin1 Ff hf (fun v z=>by cases z);refine qN (qeQ (T:=T) (Q:=Q) (E:=X.xe) I3 pl.isList rv hz t0 (fun ks H3 s3 v u pl2 J t3 hv rvu=>?_) tf) (fun r s4 h4=>?_) fun _ _ z=>z
 .have fo:=(J.pin (f,kla_obj "<lambda>" qual params body scope cl pm c' ctv) 's').1;obtain⟨m,hns,hlk⟩:=id J.loc;obtain⟨uy,ry,lk⟩:=hlk i y yv hN hU (.inr (.inl hyX));obtain⟨cy,hcy,hcell⟩:∃ cy,cl.lookup y=some cy/\s3.heap.IsCell cy (some uy):=by
   obtain⟨cy,e⟩:=hc2 (y,.free) (PySem.mem_of_lookup S.fr) rfl;refine⟨cy,e,?_⟩;rcases lk with⟨z,_⟩ | ⟨_,c2,e2,z⟩
   .have z:X.env.scope.names.lookup y=some .local:=z;rw[hyX] at z;cases z
   .rw [hc1 _ _ e] at e2;cases e2
    exact z
  have hcd:s3.heap.CodeRec (.ref c') qual:=(J.hok c' _ (tc ks H3 t3)).1;exact qi6 (A:=X.A.in1.in1) J S J.ok.frames hr hc1 hc2 fo hcd (fun u=>hb cl pm (.ref c') ctv u) rvu hcy hcell ry (fun rm=>he f c' cl s3 H3 rm) (ts ks H3 v t3 hv)
 .obtain ⟨w,H',J,rw',qw⟩:=h4;exact⟨w,H',J.unpinned,rw',qw⟩
end
def Z9 (q:Str) (pos:Pos):MSt where
 R:=qmN q pos
 st:=fun H H' u s ⟨ps,e,h⟩=>⟨ps,e,h.imp id fun ⟨c,e,h⟩=>⟨c,e,s _ _ h⟩⟩
 nt:=fun H u xs ⟨ps,e,_⟩ z=>by rw[e] at z;cases z
 ml:=fun H H' a xs u ha k ⟨ps,e,h⟩=>⟨ps,e,h.imp id fun ⟨c,e,h⟩=>⟨c,e,k _ _ h fun z=>by rw[z,ha] at h;cases h⟩⟩
def qky (P:Addr) (q:Str) (pos:Pos) (i:Nat) (tl te:TEd):TEd:=fun Y U Q=>tl Y U fun e U1=>∃ (zs:List (List Int)) (g:En) (key:List Int->List Int),LstOf U1 e (zs.map JX)/\zs.length<4900/\Y[i]?=some (some g)/\(P,MO.any (Z9 q pos))∈U1/\(∀ z,key z≠[]) ∧
 (∀ z∈zs,te [some (.d (JX z)),some g] U1 fun w U2=>U2=U1/\w = .d (JX (key z))) ∧
 ∀ ps:List (List Int),ps.Perm zs->(ps.Pairwise fun a b=>¬ key b<key a)->Q (.d (.list (ps.map JX))) U1
theorem qan {F:α->β->Prop}{a:α}{b:β}(h:F a b):∀ {l:List α}{m:List β},PySem.Paired F l m->PySem.Paired F (l++[a]) (m++[b])
 | _,_,.nil=>.cons h .nil
 | _,_,.cons x t=>.cons x (qan h t)
theorem IsAll.getA {zs:List (List Int)}(h:IsAll K H vs (zs.map JX)) (e:vs[j]?=some v):∃ z,zs[j]?=some z/\Is K H v (JX z):=by
 obtain⟨d,e1,e2⟩:=h.get e;rw[qY] at e1;cases q:zs[j]? with
 | none=>rw[q] at e1;cases e1
 | some z=>rw[q] at e1;cases e1;exact⟨z,rfl,e2⟩
theorem qdU {key:List Int->List Int}:∀ {zs:List (List Int)}{us:List V},IsAll K H us (zs.map JX)->∃ L:List (List Int×V),(zs.map key).zip us=L.map (fun t=>(key t.1,t.2))/\L.map (·.1)=zs/\∀ t∈L,Is K H t.2 (JX t.1)
 | [],_,.nil=>⟨[],rfl,rfl,fun _ z=>nomatch z⟩
 | z::zs,u::us,.cons r t=>by
  obtain⟨L,e1,e2,e3⟩:=qdU (key:=key) t;refine⟨(z,u)::L,by simp[e1],by simp[e2],fun t ht=>?_⟩;rcases qF.mp ht with rfl | ht
  .exact r
  .exact e3 t ht
theorem qcz : ∀ {L:List (List Int×V)},(∀ t∈L,Is K H t.2 (JX t.1))->IsAll K H (L.map (·.2)) ((L.map (·.1)).map JX)
 | [],_=>.nil
 | t::L,h=>.cons (h t qj) (qcz fun u hu=>h u (qe _ hu))
section
variable {q:Str}{tl:TEd}
theorem qia (h:up K (qky P q pos i tl te) G H Q):qjP K P q pos i (up K tl) (up K te) G H Q:=by
 obtain⟨Y,U,Q0,hS,hM,h,cl⟩:=h;refine⟨Y,U,_,hS,hM,h,fun e U1 v H1 h1 M1 s1 i1=>?_⟩;obtain⟨zs,g,key,hL,hz,hg,hP,hk,ht,hq⟩:=h1;obtain⟨l,us,rfl,hl,hA⟩:=hL.get M1 i1;obtain⟨y,hy,iy⟩:=(hS.same s1).get i g hg;obtain⟨u,hu,tu⟩:=M1.ob P _ hP;have ulen:us.length=zs.length:=by rw[hA.len,qc]
 refine⟨l,us,y,u,rfl,hl,'l',hy,hu,(Z9 q pos).st _ _ _ yO tu,fun H2 c' kp hP2 hc2 hor=>?_⟩;obtain⟨Ua,Ub,rfl⟩:=List.append_of_mem hP
 have hcm:c'∉(Ua++(P,MO.any (Z9 q pos))::Ub).map Prod.fst:=by
  rcases hor with hn | rfl
  .intro z;obtain⟨⟨a,o⟩,ho,rfl⟩:=qu.mp z;obtain⟨x,e⟩:=(M1.ob a o ho).some;rw[hn] at e;cases e
  .rw [hP2] at hu;cases hu
   obtain⟨ps,e,hps⟩:=tu;rcases hps with rfl | ⟨c,rfl,hc⟩
   .unfold tabC at e;cases e
   .unfold tabC at e;cases e
    exact (Yq hc).1
 obtain⟨M2,s2⟩:=M1.write (o':=MO.any (Z9 q pos)) kp fun ss=>⟨_,hP2,_,rfl,.inr ⟨c',rfl,by rw[yN hcm];exact hc2⟩⟩;have iy2:=iy.same s2;have hA2:=hA.same s2;refine⟨fun ks H3=>RelM K (Ua++(P,MO.any (Z9 q pos))::Ub) H3/\yr (mask (Ua++(P,MO.any (Z9 q pos))::Ub) H2) (mask (Ua++(P,MO.any (Z9 q pos))::Ub) H3)/\PySem.Paired (ZR K (mask (Ua++(P,MO.any (Z9 q pos))::Ub) H3)) ks ((zs.take ks.length).map key),⟨M2,yr.refl _,.nil⟩,fun ks H3 ⟨_,s3,_⟩=>?_,fun ks H3 v ⟨M3,s3,p3⟩ hv=>?_,fun ks H3 hkl ⟨M3,s3,p3⟩=>?_⟩
 .exact yO _ _ (s3 _ _ (by rw[yN hcm];exact hc2))
 .obtain ⟨z,hz,iz⟩:=(hA2.same s3).getA hv;have hzm:z∈zs:=List.mem_of_getElem? hz;refine⟨[some (.d (JX z)),some g],_,_,⟨rfl,fun j e he=>?_⟩,M3,ht z hzm,fun w U4 x H4 q4 M4 s4 i4=>?_⟩
  .match j,he with
   | 0,he=>cases he;exact⟨v,rfl,iz⟩
   | 1,he=>cases he;exact⟨y,rfl,iy2.same s3⟩
   | j+2,he=>simp at he
  .obtain ⟨rfl,rfl⟩:=q4;have i4:Is K (mask (Ua++(P,MO.any (Z9 q pos))::Ub) H4) x (JX (key z)):=i4;have tz:ZR K (mask (Ua++(P,MO.any (Z9 q pos))::Ub) H4) x (key z):=by
    have:=IsAll.tups (K:=K) (us:=[x]) (kss:=[key z]) (.cons i4 .nil) (fun k hk'=>by rw[qJ.mp hk'];exact hk z);cases this with
    | cons a b=>exact a
   refine⟨M4,s3.trans s4,?_⟩;have e:(zs.take (ks++[x]).length).map key=(zs.take ks.length).map key++[key z]:=by
    rw[qr,List.length_singleton,List.take_add_one,hz];simp
   rw[e];exact qan tz (JB p3 fun a _ b h=>h.same s4)
 .rw [y8 'l'] at p3;refine⟨zs.map key,JB p3 fun a _ b h=>h.up,fun D ps hD pp pw=>?_⟩;obtain⟨L,e1,e2,e3⟩:=qdU (key:=key) hA2;rw[e1] at pp;obtain⟨l2,p1,p2⟩:=ZY (fun t:List Int×V=>(key t.1,t.2)) pp rfl;obtain⟨M4,s4,hn⟩:=M3.laid (o:=.lst (ps.map (·.2))) hD;have hw:ps.map (·.2)=l2.map (·.2):=by rw[p2,yu];rfl
  have pz:(l2.map (·.1)).Perm zs:=by rw[<- e2];exact p1.map _
  refine cl _ _ _ _ (hq (l2.map (·.1)) pz ?_) M4 (((s1.trans s2).trans s3).trans s4) (.lst (SqL.of (by rw[yN hn];exact yg)) ?_)
  .rw [p2,jb] at pw;rw[jb];exact pw
  .have:=qcz (L:=l2) fun t ht=>((e3 t (p1.mem_iff.mp ht)).same s3).same s4;rw[<- hw] at this;exact this
variable {le:Expr}{k:Nat}
theorem qmr (hB:qaU X.base X.mg) (hC:CodeHd X.base c P) (hcode:X.env.code = .ref c) (hq:X.env.qual ++ "<lambda>" = q) (hdef:defaultsOf params X.env=([],[])) (S:LamSc x y scope) (hyf:∀ z∈scope.names,z.2 = .free->z.1=y)
  (hyX:X.env.scope.names.lookup y=some .cell) (hN:X.N[i]?=some y) (hg:Gl X "sorted") (hm:X.mg "sorted" = none) (hr:Room (k+1) X.A.in1.in1)
  (hb:∀ (clos:List (Str×Addr)) (pm cd ctv u:Value),bindArgs (kla_fn "<lambda>" q params body scope clos pm cd ctv) ⟨[u],[]⟩=pure [(x,u)])
  (hl:DE K X le tl) (he:∀ f c' cl s H,Room k (X.A.in1.in1.deeper (envX q scope s.heap.objs.size f (.ref c') cl))->DE K (qhF X X.A.in1.in1 [x,y] q scope f (.ref c') cl s H) body te)
  (hK:X.K=K:=by rfl) (hs1:starEach [le] X.env=(false,eval le X.env)::starEach [] X.env:=by rfl) :
  DE K X (.Call (.Name "sorted" p) [le] [⟨some "key",.Lambda params body scope pos,kp⟩] p') (qky P q pos i tl te):=by
 subst hK;exact PE.mono (qiF hB hC hcode hq hdef S hyf hyX hN hg hm hr hb hl he hs1) fun _ _ _=>qia
end
end L2
namespace L2
open W
theorem qgX {mb:Str->Option Value}{k:Nat}{fa c:Addr}{sa1:Shared}{vs:List Value}
  (KX:K.In sa1.heap) (hns:sa1.heap.Ns mainGlobals mg) (hb:sa1.heap.Ns builtinsNs mb) (hbb:∀ x:Str,x ≠ "__name__" -> mb x=bootBuiltins x) (hlim:sa1.heap.NoLimit) (hg:sa1.gens=#[])
  (ha:sa1.heap.get? a=some { cls:=.type "list",data:=.seq vs.toArray }) (hi:IntsAre vs ns) (hl:ns.length<=sizeLine) (hr:Room k callerA)
  (hbm:qaU sa1.heap mg) (hT:sa1.heap.get? tb=some (tabObj #[])) (hC:CodeHd sa1.heap c tb) (hKt:K.lookup tb=none)
  (F:∀ base:Heap,K.In base->base.Ns mainGlobals mg->qaU base mg->FnOk P w K mg base CX k fa fd [x] sp) (hbind:∀ (s:Shared) (u:Value),BindsTo s fd ⟨[u],[]⟩ [(x,u)])
  (hsp:∀ H:Hp,H tb=some (.tbl #[])->SqL K H a (ns.map V.int)->sp [.ref a] H (fun v _=>v = .bl true) fun _ _ _=>False)
  (hCX:∀ H e s',CX [] H sa1 (fun _ _ _=>False) e s'->False) :
  codeAny (model P w) callerA (.call (.ref fa) ⟨[.ref a],[]⟩) (fun r s'=>r = .ok (.ret (.bool true))/\OldK sa1.heap s'.heap/\s'.os=sa1.os/\AllBare s'.gens) sa1:=by
 have rv:=qb4 hi;have lenV:=hi.length;have hta:tb≠a:=fun z=>by
  rw[z,ha] at hT;cases hT
 have core:∀ Ga:Hp,Only Ga->SqL K Ga a (ns.map V.int)->HOk P w Ga sa1.heap->(∀ b,Ga b≠none->b=a)->(Ga a≠none->K.lookup a=none) →
   codeAny (model P w) callerA (.call (.ref fa) ⟨[.ref a],[]⟩) (fun r s'=>r = .ok (.ret (.bool true))/\OldK sa1.heap s'.heap/\s'.os=sa1.os/\AllBare s'.gens) sa1:=by
  intro Ga hO hS hokG hAG hKG;have hGt:Ga tb=none:=by
   cases q:Ga tb with
   | none=>rfl
   | some u=>exact absurd (hAG tb (by rw[q];simp)) hta
  have hHt:upd Ga tb (.tbl #[]) tb=some (.tbl #[]):=yg;have hHS:SqL K (upd Ga tb (.tbl #[])) a (ns.map V.int):=by
   rcases hS with (e | ⟨o,e⟩) | e
   .exact .inl (.inl (by rw[qX (Ne.symm hta)];exact e))
   .exact .inl (.inr ⟨o,by rw[qX (Ne.symm hta)];exact e⟩)
   .exact .inr e
  have hok:HOk P w (upd Ga tb (.tbl #[])) sa1.heap:=fun b u e=>by
   by_cases z:b=tb
   .subst z;rw[yg] at e;cases e
    exact hT
   .rw [qX z] at e;exact (hokG b u e).stay (fun c v hc q=>q) (fun c q=>by rw[qX (qQ q hGt)];exact q) fun c xs q=>by rw[qX (qQ q hGt)];exact q
  have hA:∀ b,upd Ga tb (.tbl #[]) b≠none->b=tb\/b=a:=fun b h=>by
   by_cases z:b=tb
   .exact .inl z
   .rw [qX z] at h;exact .inr (hAG b h)
  have hO2:∀ b,upd Ga tb (.tbl #[]) b=none\/b=tb\/∃ o xs,upd Ga tb (.tbl #[]) b=some (.frz o (.lst xs)):=fun b=>by
   by_cases z:b=tb
   .exact .inr (.inl z)
   .rw [qX z];rcases hO b with h | h
    .exact .inl h
    .exact .inr (.inr h)
  have hKa:upd Ga tb (.tbl #[]) a≠none->K.lookup a=none:=fun h=>hKG (by rw[qX (Ne.symm hta)] at h;exact h);generalize upd Ga tb (.tbl #[])=H at *;have base_of:∀ {b:Addr}{o:Obj},sa1.heap.get? b=some o->H b=none->(qh5 sa1.heap H).get? b=some o:=fun e n=>qjc e n;have noA:∀ {b:Addr}{o:Obj},sa1.heap.get? b=some o->(∀ xs n,o.data≠.seq xs n)->(∀ xs,o.data≠.fields xs)->H b=none:=fun {b o} e d1 d2=>by
   cases q:H b with
   | none=>rfl
   | some u =>
    rcases hA b (by rw[q];simp) with e' | e'
    .subst e';rw[hT] at e;cases e;exact absurd rfl (d2 _)
    .subst e';rw[ha] at e;cases e;exact absurd rfl (d1 _ _)
  have nsK:∀ {b:Addr}{m:Str->Option Value},sa1.heap.Ns b m->(qh5 sa1.heap H).Ns b m:=fun {b m} ⟨o,es,ep,e,d,r⟩=>⟨o,es,ep,base_of e (noA e (fun _ _ z=>by rw[d] at z;cases z) (fun _ z=>by rw[d] at z;cases z)),d,r⟩;have hKb:K.In (qh5 sa1.heap H):=fun b o e=>base_of (KX b o e) (by
   cases q:H b with
   | none=>rfl
   | some u =>
    rcases hA b (by rw[q];simp) with e' | e'
    .subst e';rw[hKt] at e;cases e
    .subst e';rw[hKa (by rw[q];simp)] at e;cases e)
  have hB:qaU (qh5 sa1.heap H) mg:=by
   obtain⟨bm,ob,b1,b2,b3,b4,b5,b6⟩:=hbm;exact⟨bm,ob,b1,b2,base_of b3 (noA b3 (fun _ _ z=>by rw[b6] at z;cases z) (fun _ z=>by rw[b6] at z;cases z)),b4,b5,b6⟩
  have hM:Mod K mg (qh5 sa1.heap H):=⟨hKb,nsK hns,⟨mb,nsK hb,hbb⟩,let ⟨mc,h1,h2⟩:=hlim;⟨mc,nsK h1,h2⟩⟩;have e0:Env0 P w K mg (qh5 sa1.heap H) callerA [] sa1 H:=⟨rfl,hM,fun b o e=>qlP e,Nat.le_of_eq (qhb _ _),trivial,fun b hb=>absurd (show b∈([]:List Addr) from hb) 's',hok,.of_eq hg⟩;refine codeAny_mono ((F _ hKb (nsK hns) hB).run callerA [] sa1 H ⟨[.ref a],[]⟩ [.ref a] [.ref a] _ _ hr e0 (hbind sa1 (.ref a)) (.cons rfl .nil) (hsp H hHt hHS)) fun r s' h=>?_;cases r with
  | error e=>exact (hCX H e s' h).elim
  | ok fl =>
   cases fl with
   | next=>exact False.elim h
   | brk=>exact False.elim h
   | cont=>exact False.elim h
   | ret u =>
    obtain⟨v,H',os,bare,un,hok',r',q⟩:=h;have q':v = .bl true:=q;subst q';obtain rfl:u=Value.bool true:=r';obtain⟨more,ht'⟩:=un.tbls tb #[] hHt;have hg':s'.heap.get? tb=some (tabObj more):=by
     have:=hok' tb _ ht';rw[Array.empty_append] at this;exact this
    have keep:∀ b o,b≠tb->sa1.heap.get? b=some o->s'.heap.get? b=some o:=fun b o hb e=>by
     cases q:H b with
     | none=>exact un.keep b o e q (by intro z;exact absurd (show b∈([]:List Addr) from z) 's') 's'
     | some u =>
      rcases hO2 b with z | z | ⟨ob,xs,z⟩
      .rw [q] at z;cases z
      .exact absurd z hb
      .have z2:=un.frzs b ob _ z;obtain⟨e1,_⟩:=hok b _ z;obtain⟨e2,_⟩:=hok' b _ z2;rw[e] at e1;cases e1;exact e2
    refine⟨rfl,⟨fun b o e=>?_,fun b o e=>?_⟩,os,bare⟩
    .by_cases hb:b=tb
     .subst hb;rw[hT] at e;cases e
      exact .inr (.inl ⟨(hC.tab hT).isCodeTable,rfl,#[],more,rfl,by rw[Array.empty_append];exact hg'⟩)
     .exact .inl (keep b o hb e)
    .by_cases hb:b=tb
     .exact ⟨_,hb ▸ hg'⟩
     .exact ⟨o,keep b o hb e⟩
 cases hk:K.lookup a with
 | some o =>
  have e:=KX a o hk;rw[ha] at e;cases e
  refine core (fun _=>none) (fun _=>.inl rfl) (.inr ⟨_,vs.toArray,_,hk,rfl,rfl,rfl,by rw[qB,lenV];exact hl,by simpa using rv⟩) (fun b u z=>by have z':(none:Option HO)=some u:=z;cases z') (fun b z=>absurd rfl z) fun z=>absurd rfl z
 | none =>
  refine core (fun b=>if b=a then some (.frz { cls:=.type "list",data:=.seq vs.toArray } (.lst (ns.map V.int))) else none) (fun b=>?_) (.inl (.inr ⟨{ cls:=.type "list",data:=.seq vs.toArray },if_pos rfl⟩)) (fun b u z=>?_) (fun b z=>?_) fun _=>hk
  .by_cases hb:b=a
   .exact .inr ⟨_,_,if_pos hb⟩
   .exact .inl (if_neg hb)
  .by_cases hb:b=a
   .have z':=(if_pos hb).symm.trans z;cases z'
    subst hb;exact⟨ha,by rw[qc];exact hl,vs,_,rv,ha⟩
   .have z':=(if_neg hb).symm.trans z;cases z'
  .by_cases hb:b=a
   .exact hb
   .exact absurd (if_neg hb) z
theorem walk_ofT {l:W.OpenLaw}{k:Nat}{q:Program}{d:DefRec}{K:Params->W.Frag}{CX:World->CXT}{sp:World->Sp}(tb c:Addr)
  (hn:l.most=some n) (hn2:n<=sizeLine) (hdf:d.params.defaults=[]) (hr:Room k callerA)
  (hY:∀ (w:World) (h:Heap),YP w h->(K w.params).In h) (hYt:∀ (w:World) (h:Heap),YP w h->h.get? tb=some (tabObj #[])) (hKt:∀ w:World,(K w.params).lookup tb=none) (hCt:∀ w:World,codeHdIn (K w.params) c tb=true)
  (F:∀ (w:World) (mg:Str->Option Value) (fa:Addr) (h:Heap),(K w.params).In h->h.Ns mainGlobals mg->mg d.name=some (.ref fa) →
   ∃ fd:FuncData,(∀ (s:Shared) (u:Value),BindsTo s fd ⟨[u],[]⟩ [(x,u)]) ∧
    ∀ base:Heap,(K w.params).In base->base.Ns mainGlobals mg->qaU base mg->FnOk l.prog w (K w.params) mg base (CX w) k fa fd [x] (sp w))
  (hsp:∀ (w:World) (H:Hp) (a:Addr) (ns:List Int),ns.length<=n->H tb=some (.tbl #[])->SqL (K w.params) H a (ns.map V.int)->sp w [.ref a] H (fun v _=>v = .bl true) fun _ _ _=>False)
  (hCX:∀ (w:World) (H:Hp) (s:Shared) (e:Value) (s':Shared),CX w [] H s (fun _ _ _=>False) e s'->False) :
  W.WalkO q loose XP YP l.row.toRowW d [] (fun f vs=>PySem.call f vs):=by
 refine Att.attach_call hn hdf fun w s₀ sa1 mg mb fa o pm cd doc a vs ns Ga Ya ho hd hcd hmg hobj hints hlen hg=>?_;have KX:=hY w _ Ya;obtain⟨fd,hb,hF⟩:=F w mg fa _ KX Ga.T.g hmg;exact qgX KX Ga.T.g Ga.T.b Ga.T.builtins Ga.T.nolimit hg hobj hints (qz hlen hn2) hr Ga.T.bmain (hYt w _ Ya) (codeHd_of_K KX (hCt w)) (hKt w) hF hb (fun H hO hS=>hsp w H a ns hlen hO hS) fun H e s'=>hCX w H sa1 e s'
theorem Fun.okDC {st:Stmt}{cc:Addr}{k:Nat}{sp:SpD}(F:Fun K x qual st f fd) (hcc:fd.code = .ref cc) (S:FnScope N ps (qR st)) (len:∀ es U Q,sp es U Q->es.length=ps.length)
  (hbody:∀ (A:Around) (outer:List Env) (s:Shared) (H:Hp) (E:XK) (es:List En) (U:Mu) (Q:En->Mu->Prop),Room k (A.deeper (envOfC qual (qR st) s.heap.objs.size f (.ref cc)))->sp es U Q →
   ∃ t,DSs K (ZT CX P w K mg base N qual (qR st) f (.ref cc) A outer s H E).nox (yP st) t/\t { nx:=fun _ U'=>Q (.d .none) U',rt:=Q } (es.map some++List.replicate (N.length - es.length) none) U):FnOk P w K mg base CX (k+1) f fd ps (yd K sp):=by
 obtain⟨oc,od,kV,doc,pm,an,Oy,ct,osl,rfl,lk,hcd⟩:=F.ex;obtain rfl:Oy = .ref cc:=hcc;refine qme lk hcd S (fun vs H Q E ⟨U,es,Q0,M,hp,h,cl⟩=>(PySem.Paired.length hp).trans (len es U Q0 h)) fun A outer s H vs Q E hr Oc=>?_;obtain⟨U,es,Q0,M,hp,h,cl⟩:=Oc;obtain⟨t,ht,hq⟩:=hbody A outer s H E es U Q0 hr h;have hl:vs.length=es.length:=PySem.Paired.length hp;refine⟨upS K t,PSs.nox ht,_,U,_,Paired.mapSome hp N.length N.length (by rw[hl]),M,hq,⟨fun Y' U' G' H' q S' M' s'=>cl _ U' .non H' q M' s' .non,cl,fun _ _ _ _ q=>q.elim,fun _ _ _ _ q=>q.elim⟩⟩
end L2
namespace PySem
open PySem.Sem (wp)
structure Nx (prog:Program) (w:World) (A:Around) (fr:List Addr) (it:Addr) (st:Nat->Heap->Prop) (xs:Array Value):Prop where
 mem:it∈fr
 obj:∀ i h,st i h->∃ o,h.get? it=some o/\∀ v,o.data≠.cell v
 keep:∀ i h h',st i h->(∀ b∈fr,∀ o,h.get? b=some o->h'.get? b=some o)->st i h'
 item:∀ (i:Nat) (s:Shared) (x:Value) (Q:Value->Shared->Prop) (E:Value->Shared->Prop),st i s.heap->xs[i]?=some x →
  (∀ h',st (i+1) h'->Heap.SameBut it s.heap h'->Q x { s with heap:=h' })->wpAny 'm' A (Builtin.SmallTypes.nextOf (.ref it)) Q E s
 stop:∀ (i:Nat) (s:Shared) (Q:Value->Shared->Prop) (E:Value->Shared->Prop),st i s.heap->xs[i]?=none →
  (∀ h' e,Heap.ExtBut it s.heap h'->(∃ o,h'.get? e=some o/\o.cls = .type "StopIteration")->E (.ref e) { s with heap:=h' })->wpAny 'm' A (Builtin.SmallTypes.nextOf (.ref it)) Q E s
section
variable {z TI TO i1 i2:Addr}{f1 f2:List Addr}{s1 s2:Nat->Heap->Prop}{xs ys:Array Value}{k1 k2:Nat}{x y a b:Value}
end
end PySem
namespace L2
end L2
namespace L2
theorem qba:∀ {ns:List Int}{its:List Value},yM (ns.map V.int) its->∃ xs:List (Int×Tok),its=xs.map (fun p=>.int p.1 p.2)/\xs.map Prod.fst=ns
 | [],_,.nil=>⟨[],rfl,rfl⟩
 | n::ns,_,.cons r t=>by
  obtain⟨u,rfl⟩:=r;obtain⟨xs,rfl,e⟩:=qba t;exact⟨(n,u)::xs,rfl,by simp[e]⟩
end L2
namespace L2
variable {Q:Value->Shared->Prop}
abbrev kwD (d:Value):List (Str×Value):=[(Str.ofString "default",d)]
theorem qhU (a d:Value):argsOk "max" ⟨[a],kwD d⟩:=by unfold argsOk;kernel_rfl
section
variable {P:Nat->Value->Prop}{St:Nat->Heap->Prop}{d:Value}
theorem qen:(toString "max" ++ toString ".loop" : String) = "max.loop" := by decide
theorem qgP (W:Walks prog w A.in1 I fp wr n P St) (bt:Nat->Nat->Bool) (hcmp:CmpOf prog w A.in1 .Gt P bt) (hSf:S∉fp) :
  ∀ (k j:Nat) (s:Shared) (old:List Value) (c:Nat),n - j=k->j<=n->St j s.heap->(old=[]/\j=0\/∃ vb,old=[vb,vb]/\0<j/\P (argBest bt (j - 1)) vb) →
  s.heap.get? S=some { cls:=.type "list",dict:=none,data:=.seq old.toArray c,slots:=#[] } →
  (∀ v h' tk,(n=0/\v=d\/0<n/\P (argBest bt (n - 1)) v)->(∀ b o,b∉wr->b≠S->s.heap.get? b=some o->h'.get? b=some o)->R (.ok (.ret v)) { s with heap:=h',toks:=tk }) →
  codeAny 'm' A (.builtin "max.loop" ⟨[.ref I,.none,.ref S],kwD d⟩) R s:=by
 have hSw:S∉wr:=fun h=>hSf (W.sub _ h);intro k;induction k with
 | zero =>
  intro j s old c hk hj hst ho hS hR;have hin:j=n:=by omega
  refine codeAny_builtin F.entry_max_loop ?_;rw[Around.under_plainId F.plain_max_loop _];show wpAny _ A.in1 (seqItems? (.ref S) >>= _) _ _ s;refine qa (wpAny_seqItems hS rfl ?_);show wpAny _ A.in1 (tryCatch (pyNext (.ref I)) _ >>= _) _ _ s;refine qa (wpAny_tryCatch (W.done s _ _ (hin ▸ hst) fun h' tk hk'=>?_));have hS':=hk' S _ hSw hS;rcases ho with⟨rfl,rfl⟩ | ⟨vb,rfl,h0,hPb⟩
  .show wpAny _ A.in1 (rule _ >>= _) _ _ _;refine qa (Jy (qf ?_));exact hR d _ tk (.inl ⟨hin.symm,rfl⟩) fun b o hbw _ e=>hk' b o hbw e
  .show wpAny _ A.in1 (updateSeq S (fun _=>#[]) >>= _) _ _ _;refine qa ?_;refine wpAny_updateSeq hS' rfl (qa (wpAny_letGo (qf ?_)));refine hR vb _ tk (.inr ⟨'o',by rw[<- hin];exact hPb⟩) fun b o hbw hbS e=>(yt _ _ (Ne.symm hbS)).trans (hk' b o hbw e)
 | succ k ih =>
  intro j s old c hk hj hst ho hS hR;have hlt:j<n:=by omega
  refine codeAny_builtin F.entry_max_loop ?_;rw[Around.under_plainId F.plain_max_loop _];show wpAny _ A.in1 (seqItems? (.ref S) >>= _) _ _ s;refine qa (wpAny_seqItems hS rfl ?_);show wpAny _ A.in1 (tryCatch (pyNext (.ref I)) _ >>= _) _ _ s;refine qa (wpAny_tryCatch (W.item j s _ _ hlt hst fun v h' tk hP hst' hk'=>?_));have hS':=hk' S _ hSw hS;rcases ho with⟨rfl,rfl⟩ | ⟨vb,rfl,h0,hPb⟩
  .show wpAny _ A.in1 (updateSeq S (fun _=>#[v,v]) >>= _) _ _ _;refine qa ?_;refine wpAny_updateSeq hS' rfl ?_;rw[qen];refine qf ⟨plainId_quiet F.plain_max_loop _,ih 1 _ [v,v] _ 'o' hlt (W.frame _ _ _ hst' fun b hbf o e=>?_) (.inr ⟨v,rfl,Nat.one_pos,hP⟩) (jh _ hS' rfl) fun v' h'' tk'' hP' hk''=>?_⟩
   .exact (yt _ _ (fun h:S=b=>hSf (by rw[h];exact hbf))).trans e
   .exact hR v' h'' tk'' hP' fun b o hbw hbS e=>hk'' b o hbw hbS ((yt _ _ (Ne.symm hbS)).trans (hk' b o hbw e))
  .have ej:argBest bt j=if bt j (argBest bt (j - 1)) then j else argBest bt (j - 1):=by
    obtain⟨i,rfl⟩:∃ i,j=i+1:=⟨j - 1,'o'⟩;rfl
   show wpAny _ A.in1 (tryCatch (holding [v,v] (richCompare .Gt v vb >>= _)) _ >>= _) _ _ _;refine qa (wpAny_tryCatch (yq (qa (hcmp j (argBest bt (j - 1)) v vb _ _ _ hP hPb ?_))));refine qa (yq (yF ?_));refine qa (wpAny_letGo (qf ?_));cases hb:bt j (argBest bt (j - 1)) with
   | true =>
    simp only[if_true];refine qa ?_;refine wpAny_updateSeq hS' rfl (qa (wpAny_letGo ?_));rw[qen];refine qf ⟨plainId_quiet F.plain_max_loop _,ih (j+1) _ [v,v] _ 'o' hlt (W.frame _ _ _ hst' fun b hbf o e=>?_) (.inr ⟨v,rfl,Nat.succ_pos _,by rw[Nat.add_sub_cancel,ej,hb];exact hP⟩) (jh _ hS' rfl)
     fun v' h'' tk'' hP' hk''=>?_⟩
    .exact (yt _ _ (fun h:S=b=>hSf (by rw[h];exact hbf))).trans e
    .exact hR v' h'' tk'' hP' fun b o hbw hbS e=>hk'' b o hbw hbS ((yt _ _ (Ne.symm hbS)).trans (hk' b o hbw e))
   | false =>
    simp only[ql,if_false];refine qa (wpAny_letGo ?_);rw[qen];refine qf ⟨plainId_quiet F.plain_max_loop _,ih (j+1) _ [vb,vb] c 'o' hlt hst' (.inr ⟨vb,rfl,Nat.succ_pos _,by rw[Nat.add_sub_cancel,ej,hb];exact hPb⟩) hS' fun v' h'' tk'' hP' hk''=>?_⟩;exact hR v' h'' tk'' hP' fun b o hbw hbS e=>hk'' b o hbw hbS (hk' b o hbw e)
end
theorem qcN {id:String}{b:Builtin}{args:List Value}(hk:builtinKind id=none) (hp:plainId id=true)
  (hb:entryFor table id=some b) (ha:argsOk id ⟨args,kw⟩)
  (hc:wpAny 'm' A.in1 (b ⟨args,kw⟩) (fun fin s'=>match fin with
   | .done f=>(match (Except.ok f:Result) with | .ok (.ret v)=>Q v s' | .ok _=>False | .error e=>E e s')
   | .again c'=>c'.quiet=true/\codeAny 'm' A c' (fun r s'=>match r with | .ok (.ret v)=>Q v s' | .ok _=>False | .error e=>E e s') s') E s) :
  wpAny 'm' A (call (.builtin id) args kw) Q E s:=by
 refine wpAny_call (codeAny_call_builtin hp hb ?_);simp only[checkBuiltinCall,hk];cases hsig:Manifest.signature? id with
 | none=>exact qf hc
 | some sig =>
  have ha':Bind.checkArgs id sig ⟨args,kw⟩=pure ():=by simpa only[argsOk,hsig] using ha
  simp only[ha'];exact qf hc
theorem qgQ {l:Addr}{xs:Array (Int×Tok)}{d:Value}(hh:A.handled=none) (hl:s.heap.IsList l (intItems xs))
  (h:∀ v h' tk,(xs.size=0/\v=d\/0<xs.size/\(intItems xs)[argBest (fun i j=>decide (numAt xs i > numAt xs j)) (xs.size - 1)]?=some v)->(∀ b o,s.heap.get? b=some o->h'.get? b=some o)->Q v { s with heap:=h',toks:=tk }) :
  wpAny 'm' A (call (.builtin "max") [.ref l] (kwD d)) Q E s:=by
 refine qcN F.kind_max F.plain_max F.entry_max (qhU _ _) ?_;show wpAny _ A.in1 (Builtin.Builtins.bindParams "max" ["key", "default"] 0 ⟨[],kwD d⟩ >>= _) _ _ s;refine qa (wpAny_of_eq (show Builtin.Builtins.bindParams "max" ["key", "default"] 0 ⟨[],kwD d⟩=pure [none,some d] from rfl) ?_);refine qa (qf ?_);refine qa (iter_intList hl fun sa2 e st hfp hlI=>?_);subst e;refine qa (jy ?_);rw[qen];have W:=Walks.list (prog:=prog) (w:=w) (A:=A.in1) hh _ l hlI (intItems xs);refine qf ⟨plainId_quiet F.plain_max_loop _,qgP (d:=d) W _ (CmpOf.ints_gt (numAt xs) (fun _ _=>intItems_at)) (fun hm=>yz _ (hfp _ hm)) _ 0 _ [] 0 rfl (yj _) (W.frame _ _ _ st fun b _ o e=>qd _ e) (.inl ⟨rfl,rfl⟩) (qD _ rfl) fun v h' tk hP hk=>?_⟩;have sz:(intItems xs).size=xs.size:=by simp[intItems]
 rw[sz] at hP;refine h v h' tk hP ?_;exact old_kept fun b o hbw e=>hk b o hbw (qt (qo e)) (qd _ e)
section
variable {le de:Expr}
theorem qhL {p:Addr}{dz:Int}{du:Value}{Q:VK}(hc:X.calm=true) (I:Inv X Oa G H s) (hq:SqL X.K H p (ns.map V.int)) (rd:jr (.int dz) du)
  (q:∀ m:Int,(ns=[]/\m=dz\/m∈ns/\∀ a∈ns,a<=m)->Q (.int m) H):wpAny 'M' X.A (call (.builtin "max") [.ref p] (kwD du)) (EP X Oa G Q) X.xe s:=by
 obtain⟨its,rv,pl,_⟩:=I.list hq;obtain⟨ys,rfl,e⟩:=qba rv;have hl:s.heap.IsList p (intItems ys.toArray):=by
  have:=pl.isList;simpa[intItems] using this
 refine qgQ (I.ok.hd hc) hl fun v h' tk hv hk=>?_;rcases hv with⟨h0,rfl⟩ | ⟨h0,hv⟩
 .refine ⟨.int dz,H,I.kept hk,rd,q dz (.inl ⟨?_,rfl⟩)⟩;rw[<- e];have:ys.length=0:=by simpa using h0
  simp[List.length_eq_zero_iff.mp this]
 .obtain ⟨t,rfl⟩:=intItems_at hv;obtain⟨h1,h2⟩:=argBest_gt (numAt ys.toArray) (ys.toArray.size - 1);have na:∀ j,j<ys.length->∃ z,ns[j]?=some z/\numAt ys.toArray j=z:=fun j hj=>by refine⟨ys[j].1,by rw[<- e];simp[hj],by simp[numAt,hj]⟩
  have hn:0<ys.length:=by simpa using h0
  refine⟨.int _,H,I.kept hk,⟨_,rfl⟩,q _ (.inr ⟨?_,fun a ha=>?_⟩)⟩
  .have h0:argBest (fun i j=>decide (numAt ys.toArray i > numAt ys.toArray j)) (ys.toArray.size - 1)<ys.length:=by simp only[qB] at h1 ⊢;omega
   obtain⟨z,e1,e2⟩:=na _ h0;rw[e2];exact List.mem_of_getElem? e1
  .obtain ⟨j,hj⟩:=List.mem_iff_getElem?.mp ha;have hj2:j<ys.length:=by
    have:=(qC.mp hj).1;rwa[<- e,qc] at this
   obtain⟨z,e1,e2⟩:=na j hj2;rw[hj] at e1;cases e1
   rw[<- e2];exact h2 j (by simp only[qB];omega)
def tMaxD (K:W.Frag) (tl td:TE):TE:=fun G H Q=>tl G H fun v H1=>td G H1 fun u H2=>∃ p ns dz,v = .ref p/\u = .int dz/\SqL K H2 p (ns.map V.int)/\∀ m:Int,(ns=[]/\m=dz\/m∈ns/\∀ a∈ns,a<=m)->Q (.int m) H2
theorem qlo (hc:X.calm=true) (hg:Gl X "max") (hm:X.mg "max" = none) (hl:PE X le tl) (hd:PE X de td) (hs1:starEach [le] X.env=(false,eval le X.env)::starEach [] X.env:=by rfl) :
  PE X (.Call (.Name "max" p) [le] [⟨some "default",de,kp⟩] p') (tMaxD X.K tl td):=by
 intro Oa s G H Q I h;refine jL (qav I hg hm qeF (callWith_kw ?_ (by rw[hs1];rfl) (by rw[hs1];rfl)));have sp:backTo p' (starEach [le] X.env)=(false,eval le X.env)::backTo p' (starEach [] X.env):=by rw[hs1];rfl
 rw[sp];refine Calls.spliced_cons (thn (hl Oa s G H _ I h) fun u s1 ⟨v,H1,I1,r1,q1⟩=>Calls.spliced_nil ?_);refine kws_cons (thn (hd Oa s1 G H1 _ I1 q1) fun u2 s2 ⟨v2,H2,I2,r2,q2⟩=>kws_nil ?_);obtain⟨p,ns,dz,rfl,rfl,hq,q⟩:=q2;cases r1
 exact qhL hc I2 hq r2 q
def dMaxD (tl td:TEd):TEd:=fun Y U Q=>tl Y U fun e U1=>td Y U1 fun f U2=>∃ (ns:List Int) (dz:Int),LstOf U2 e (ns.map PyData.int)/\f = .d (.int dz)/\∀ m:Int,(ns=[]/\m=dz\/m∈ns/\∀ a∈ns,a<=m)->Q (.d (.int m)) U2
theorem qo4 {tl td:TEd}(hc:X.calm=true) (hg:Gl X "max") (hm:X.mg "max" = none) (hl:DE K X le tl) (hd:DE K X de td) (hK:X.K=K:=by rfl) (hs1:starEach [le] X.env=(false,eval le X.env)::starEach [] X.env:=by rfl) :
  DE K X (.Call (.Name "max" p) [le] [⟨some "default",de,kp⟩] p') (dMaxD tl td):=by
 subst hK;refine PE.mono (qlo hc hg hm hl hd hs1) fun G H Q Oc=>?_;obtain⟨Y,U,Q0,hS,hM,h,cl⟩:=Oc;refine up2 (R0:=fun e f U2=>∃ (ns:List Int) (dz:Int),LstOf U2 e (ns.map PyData.int)/\f = .d (.int dz)/\∀ m:Int,(ns=[]/\m=dz\/m∈ns/\∀ a∈ns,a<=m)->Q0 (.d (.int m)) U2) hS hM h fun x y U2 v u H2 q M2 s2 i1 i2=>?_;obtain⟨ns,dz,hL,rfl,q⟩:=q;obtain⟨p,ys,rfl,h2,h3⟩:=hL.get M2 i1;rw[h3.ints_of] at h2;have i2:Is X.K (mask U2 H2) u (.int dz):=i2;cases i2
 exact⟨p,ns,dz,rfl,rfl,h2,fun m hm=>cl _ U2 _ _ (q m hm) M2 s2 (.int m)⟩
end
end L2
namespace L2
open W SetTable
variable {target:Expr}{Q:Value->Shared->Prop}
theorem qcJ (elt target iter:Expr) (ifs:List Expr) (scope:Scope) (pos:Pos) (it acc:Value) (env:Env) :
  compTurn (.SetComp elt [⟨target,iter,ifs,0⟩] scope pos) 0 it acc env=(do
   standAt iter.pos
   match <- pyNext it with
   | none=>pure (.done .next)
   | some v =>
    letOwnedTupleGo target it v
    assign target env v
    let mut ok:=true
    for c in ifs do
     if ok then ok <- isTrue c env (eval c env)
    if ok then
     (do let v <- eval elt env;standAt elt.pos;let _ <- call (.builtin "set.add") [acc,v])
    again (.compLoop (.SetComp elt [⟨target,iter,ifs,0⟩] scope pos) 0 it acc env)):=by rfl
theorem YE {it:Value}(I:Nat->Shared->Prop)
  (turn:∀ n s,I n s->wpAny 'm' A (pyNext it) (fun r sa1=>match r with
   | none=>R (.ok .next) sa1
   | some v=>wpAny 'm' A (letOwnedTupleGo target it v) (fun _ s1'=>wpAny 'm' A (assign target env v) (fun _ sa2 =>
     wpAny 'm' A (forIn ifs true fun c r=>if r=true then do let ok <- isTrue c env (eval c env);pure (ForInStep.yield ok) else pure (ForInStep.yield r)) (fun ok sa3 =>
      if ok=true then wpAny 'm' A (eval elt env) (fun x sa4 =>
       wpAny 'm' A (call (.builtin "set.add") [acc,x]) (fun _ sa5=>∃ m,m<n/\I m sa5) (fun _ _=>False) sa4) (fun _ _=>False) sa3
      else ∃ m,m<n/\I m sa3) (fun _ _=>False) sa2) (fun _ _=>False) s1') (fun _ _=>False) sa1) (fun _ _=>False) s)
  (n:Nat) (h:I n s) :
  codeAny 'm' A (.compLoop (.SetComp elt [⟨target,iter,ifs,0⟩] scope pos) 0 it acc env) R s:=by
 refine codeAny_loop rfl I (fun n s hI=>?_) n h;show wpAny _ A ((compTurn (.SetComp elt [⟨target,iter,ifs,0⟩] scope pos) 0 it acc env).onRaise (fun x=>do noteFrame x env;theTreesLotGoes x)) _ _ s;refine wpAny_noted ?_;rw[qcJ];refine qa (jK (qa (qN (turn n s hI) (fun r sa1 hd1=>?_) fun _ _ h'=>h'.elim)));cases r with
 | none=>exact qf hd1
 | some v =>
  refine qa (qN hd1 (fun _ s1' ha1'=>?_) fun _ _ h'=>h'.elim);refine qa (qN ha1' (fun _ sa2 ha2=>qa (qN ha2 (fun ok sa3 ha3=>?_) fun _ _ h'=>h'.elim)) fun _ _ h'=>h'.elim);cases ok with
  | false=>exact qf ⟨rfl,ha3⟩
  | true =>
   exact qa (qa (qN ha3 (fun x sa4 ha4=>qa (jK (qa (qN ha4 (fun _ sa5 ha5=>qf (qf ⟨rfl,ha5⟩)) fun _ _ h'=>h'.elim)))) fun _ _ h'=>h'.elim))
theorem Yx {elt target iter ifs rest scope pos it acc env}
  (h0:codeAny 'm' A (.compLoop (.SetComp elt (⟨target,iter,ifs,0⟩::rest) scope pos) 0 it acc env) R s)
  (h:wpAny 'm' A (pyIter it) (fun it' s'=>codeAny 'm' A (.compLoop (.SetComp elt (⟨target,iter,ifs,0⟩::rest) scope pos) 0 it' acc env) R s')
   (notedBy 'm' A env fun x s'=>R (.error x) s') s) :
  codeAny 'm' A (.compStart (.SetComp elt (⟨target,iter,ifs,0⟩::rest) scope pos) 0 it acc env) R s:=by
 refine codeAny_of_tree ?_;show wpAny _ _ ((compStart (.SetComp elt (⟨target,iter,ifs,0⟩::rest) scope pos) 0 it acc env).onRaise (fun x=>do noteFrame x env;standAt theWindowsPlace)) _ _ s;refine wpAny_notedAt ?_;unfold compStart;show wpAny _ _ (ask >>= _) _ _ s;refine qa (Jr (wpAny_ite ?_));split
 .first
   | exact qa (qf (qf (And.intro rfl h0)))
   | exact qf (And.intro rfl h0)
 .first
   | exact qa (Jy (qa (jK (qa (qN h (fun it' s' h'=>qf (And.intro rfl h')) fun _ _ x=>x)))))
   | (refine qa (Jy ?_);show wpAny _ _ (standAt iter.pos >>= _) _ _ s;exact qa (jK (qa (qN h (fun it' s' h'=>qf (And.intro rfl h')) fun _ _ x=>x))))
theorem qjI (S:qb1 prog w Pv s.heap a kss) (tb:jq s.heap (.ref b) ks) (pb:Pv (.ref b)) (hu:A.units+8<cLine) (hn:kss.length<4914)
  (hin:ks∈kss->∀ tk,Q .none { s with toks:=tk })
  (hout:ks∉kss->∀ h' kss' tk,Heap.SameBut a s.heap h'->qb1 prog w Pv h' a kss'->(∀ k,k∈kss' ↔ k=ks\/k∈kss)->Q .none { s with heap:=h',toks:=tk }) :
  wpAny 'm' A (call (.builtin "set.add") [.ref a,.ref b]) Q E s:=by
 have hT:s.TypeIs (.ref a) "set" := let ⟨o,_,_,_,_,D⟩:=S;⟨o,D.ho,D.ex.1⟩;refine Jq F.slot_set_add hT F.entry_set_add ?_ (F.args_set_add_2 _ _);unfold Builtin.«set.add» Builtin.Frozenset.oneOther;simp only[List.isEmpty_nil,bind_assoc];unfold Builtin.Frozenset.addrOf setAdd;refine qa (qf ?_)
 try dsimp only
 refine qa (qf ?_)
 try dsimp only
 refine qa ?_;refine yq ?_;have hu1:A.in1.units<cLine:=by show A.units+_<_;lia
 refine qa (wpAny_pyHash_tuple hu1 (tb.key (prog:=prog) (w:=w)) ?_);refine qkH (s:={ s with toks:=s.toks+(ks.length+1) }) S tb pb hu1 hn (fun h=>?_) fun h h' kss' sb S2 mem2=>?_
 .show wpAny _ _ (ret Value.none) _ _ _;exact qf ⟨_,rfl,hin h _⟩
 .show wpAny _ _ (ret Value.none) _ _ _;exact qf ⟨_,rfl,hout h h' kss' _ sb S2 mem2⟩
theorem qgH (q:Q (.ref s.heap.objs.size) { s with heap:=s.heap.push (Zv w) }):wpAny 'm' A (newSet (.type "set")) Q E s:=by
 unfold newSet;refine qa ?_;unfold setsByText;refine qa (Jr (qf ?_));exact jy q (by size_fits)
def tSCJ (P:Program) (w:World) (K:W.Frag) (k:Nat) (g:TG) (tt:TT) (te:TE) (G:St) (Q:VK) (J:It) (H1:Hp):Prop:=∃ W:Nat->Nat->List (Addr×List Int)->St->Hp->Prop,(∃ m,W 0 m [] (G++List.replicate k none) H1)/\∀ i m bs G' H,W i m bs G' H->InS K H bs ∧
 ((J.stop i H/\∀ D,H D=none->Q (.ref D) (upd H D (qd7 P w D bs))) ∨
 (J.go i H/\bs.length<4900/\∃ N:List (Addr×List Int)->St->Hp->Prop,(∀ bs' G' H',N bs' G' H'->∃ m',m'<m/\W (i+1) m' bs' G' H') ∧
  ∀ x H',J.yld i H x H'->g x G' H' fun G2 H2=>tt G2 H2 fun b H3=>if b=true then te G2 H3 fun y H4=>∃ ks,ZR K H4 y ks/\InS K H4 bs/\∀ bs',(∀ c∈bs',c∈bs\/(V.ref c.1=y/\c.2=ks))->(∀ q,q∈bs'.map (·.2) ↔ q=ks\/q∈bs.map (·.2))->(bs'.map (·.2)).Nodup->N bs' G2 H4 else N bs G2 H3))
def qnd (P:Program) (w:World) (K:W.Frag) (k:Nat) (wi:TI) (g:TG) (tt:TT) (te:TE):TE:=fun G H Q=>wi G H (tSCJ P w K k g tt te G Q)
theorem qin {G':St}{cl:List (Str×Addr)}{bs:List (Addr×List Int)}{pl:List (Addr×Obj)}
  (I:Inv X Oa G H sa2) (hf:∀ b∈fp,YM X Oa H b) (hD:sa2.heap.objs.size=D)
  (J:Inv (qW X L scope cl C sa2 H fp) pl G' H' s') (hpD:qc3 X.prog X.w D bs s'.heap) (hHD:H' D=none) :
  Inv X Oa G (upd H' D (qd7 X.prog X.w D bs)) s':=by
 have B:Un (frs X.stack) fp H H' sa2.heap s'.heap:=J.base;have neD:∀ b o,sa2.heap.get? b=some o->b≠D:=fun b o e=>by rw[<- hD];exact qt (qo e)
 refine I.call' (ch:=fp) J.os ⟨B.keep,B.slot,fun b o e hn hx=>?_,B.there,fun b xs e=>?_,fun b o u e=>?_,fun b ps e=>?_⟩ (fun b o e=>?_) J.bare (fun b hb=>⟨(hf b hb).2.2.2.1,(hf b hb).2.1,(hf b hb).2.2.2.2.1,(hf b hb).2.2.2.2.2⟩)
 .rw [qX (neD b o e)];exact B.free b o e hn hx
 .have:=B.tups b xs e;rw[qX (qQ this hHD)];exact this
 .have:=B.frzs b o u e;rw[qX (qQ this hHD)];exact this
 .obtain ⟨more,this⟩:=B.tbls b ps e;exact⟨more,by rw[qX (qQ this hHD)];exact this⟩
 .by_cases hb:b=D
  .subst hb;rw[yg] at e;cases e
   exact qc3.ok hpD
  .rw [qX hb] at e;exact (J.hok b o e).stay (fun _ _ _ q=>q) (fun c q=>by rw[qX (qQ q hHD)];exact q) fun c xs q=>by rw[qX (qQ q hHD)];exact q
theorem qno {Ya:Cx}(I:Inv Ya Oa G H s) {bs:List (Addr×List Int)}(p:qc3 Ya.prog Ya.w D bs s.heap) (hb:InS Ya.K H bs) (Pv:Value->Prop) (hp:∀ c∈bs,Pv (Value.ref c.1)):qb1 Ya.prog Ya.w Pv s.heap D (bs.map (·.2)):=by
 obtain⟨o,es,ep,t,m,ho,ex,hd,pl,ld,mo,si,ee,nd⟩:=p;refine⟨o,es,ep,t,m,ho,ex,hd,pl,ld,mo,si,?_,nd,fun e he=>?_⟩
 .rw [ee];exact qdP fun b hbb=>I.tupK (hb b hbb)
 .rw [ee] at he;obtain⟨b,h1,rfl⟩:=qu.mp he;exact hp b h1
theorem qfY {cl:List (Str×Addr)}
  {g:TG}{tt:TT}{te:TE}{Q:VK}{J:It}
  (hu:X.A.units+8<cLine) (hc:X.calm=true) (hsc:X.env.scope=sc) (hN:X.N=N) (ok:Jd sc N L scope=true) (hc1:∀ x c,cl.lookup x=some c->X.env.cells.lookup x=some c)
  (hc2:∀ y∈scope.names,y.2 = .free->∃ c,cl.lookup y.1=some c)
  (hg:∀ cl C sa2 Ha2 fp,PG (qW X L scope cl C sa2 Ha2 fp) tg g) (hi:∀ cl C sa2 Ha2 fp,Ifs (qW X L scope cl C sa2 Ha2 fp) ifs tt) (he:∀ cl C sa2 Ha2 fp,PE (qW X L scope cl C sa2 Ha2 fp) elt te)
  (I:Inv X Oa G H sa2) (T:Turn X.prog X.w X.K tg J fp it tn) (st:tn 0 sa2.heap) (hf:∀ b∈fp,YM X Oa H b) (hw:tSCJ X.prog X.w X.K L.length g tt te G Q J H)
  (hR:∀ D C m H' s' bs,s'.heap.Ns C m->sa2.heap.objs.size=D->sa2.heap.objs.size<C->H' C=none->D≠C->Inv X Oa G (upd H' D (qd7 X.prog X.w D bs)) s'->Q (.ref D) (upd H' D (qd7 X.prog X.w D bs))->RR (.ref D) C (.ok .next) s') :
  wpAny 'M' X.A (newSet (.type "set")) (fun acc sa3=>wpAny 'M' X.A (newFunctionEnv scope X.env.globals cl [] X.env.qual none .none (some X.env)) (fun cenv sa4 =>
   codeAny 'M' X.A (.compStart (.SetComp elt [⟨tg,iter,ifs,0⟩] scope pos) 0 (.ref it) acc { cenv with scope:=relabel scope X.env }) (RR acc cenv.locals) sa4) E sa3) E sa2:=by
 refine qgH (wpAny_newFunctionEnv (fun y hy=>(jk ok hy).1) (by intro y hy;simp at hy) (fun hd1 hns1 hsb1=>?_) (jA ok));dsimp only at hns1 hsb1 ⊢;generalize hH2:sa2.heap.push (Zv X.w)=H2 at hns1 hsb1 ⊢;have hC:H2.objs.size=sa2.heap.objs.size+1:=by rw[<- hH2,Heap.size_push]
 have hCle:sa2.heap.objs.size<=H2.objs.size:=by rw[hC];exact Nat.le_succ _
 have hDC:sa2.heap.objs.size≠H2.objs.size:=by rw[hC];exact qt (yZ _)
 have hlt:∀ b∈fp,b<sa2.heap.objs.size:=fun b hb=>by
  obtain⟨o,e,_⟩:=T.obj 0 _ st b hb;exact qo e
 have below:∀ b,b<sa2.heap.objs.size->b≠H2.objs.size:=fun b hb=>by rw[hC];exact qt (Nat.lt_succ_of_lt hb)
 have old:∀ b o,sa2.heap.get? b=some o->hd1.get? b=some o:=fun b o e=>hsb1.extBut b o (below b (qo e)) (qd _ (hH2 ▸ qd _ e));have hacc:hd1.get? sa2.heap.objs.size=some (Zv X.w):=hsb1.extBut _ _ hDC (qd _ (hH2 ▸ qD _ rfl));have Yok:=qdL (L:=L) (scope:=scope) (cl:=cl) (C:=H2.objs.size) (fp:=fp) I hsc hN ok hc1 hc2 hf hlt hCle;generalize hDn:sa2.heap.objs.size=D at *;generalize hCn:H2.objs.size=C at *;have sat1:tn 0 hd1:=T.keep _ _ _ st fun b _ o e=>old b o e;have cellD:∀ x c,cl.lookup x=some c->c≠D:=fun x c e=>by
  obtain⟨v,q⟩:=I.cell x c (hc1 x c e);rw[<- hDn];exact qt q.lt
 have fpY:∀ {H':Hp}{oD:Obj},(∀ b∈fp,H' b=none)->∀ b∈fp,YM (qW X L scope cl C sa2 H fp) [(D,oD)] H' b:=fun {H' oD} hn b hb=>by
  refine⟨hn b hb,(Yok.exf b hb).1,Yok.exfs b hb,.inl hb,(Yok.exf b hb).2,fun p hp=>?_⟩;have e:p=(D,oD):=by
   have:p∈[(D,oD)]:=hp;simpa using this
  subst e;exact Ne.symm (qt (hlt b hb))
 have nfsD:D∉(qW X L scope cl C sa2 H fp).fs:=fun z=>by
  obtain⟨_,o,ho,_⟩:=Yok.funs.mem z;exact absurd (show D<sa2.heap.objs.size from qo ho) (by rw[hDn];exact yz _)
 have pinD:∀ {G':St}{H':Hp}{s':Shared}{pl:List (Addr×Obj)}{bs:List (Addr×List Int)},Inv (qW X L scope cl C sa2 H fp) pl G' H' s'->qc3 X.prog X.w D bs s'.heap->H' D=none →
   ∃ oD,s'.heap.get? D=some oD/\Inv (qW X L scope cl C sa2 H fp) [(D,oD)] G' H' s':=fun {G' H' s' pl bs} J e hn=>by
  obtain⟨o,es,ep,t,m,ho,ex,hd,r⟩:=e;refine⟨o,ho,J.pins_of fun p hp=>?_⟩;have e':p=(D,o):=by simpa using hp
  subst e';exact⟨ho,hn,hDC,nfsD,fun v z=>by rw[hd] at z;cases z⟩
 have Ia1:Inv (qW X L scope cl C sa2 H fp) [] (G++List.replicate L.length none) H { sa2 with heap:=hd1,toks:=sa2.toks+([]:List (Str×Value)).length } :=
  ZB I hsc hN ok hc1 Yok (by rw[hDn];exact hCle) rfl I.bare old hns1
 have HD:H D=none:=I.hok.fresh (by rw[hDn];exact qk _);have toP:∀ {Pv:Value->Prop}{h:Heap}{kss:List (List Int)},qb1 X.prog X.w Pv h D kss->∃ bs:List (Addr×List Int),qc3 X.prog X.w D bs h/\bs.map (·.2)=kss/\(∀ b∈bs,jq h (.ref b.1) b.2/\Pv (.ref b.1)):=fun {Pv h kss} S=>by
  obtain⟨o,es,ep,t,m,D0⟩:=S;obtain⟨bs,e1,e2,e3⟩:=qdy D0.en;subst e2;refine⟨bs,⟨o,es,ep,t,m,D0.ho,D0.ex,D0.hd,D0.pl,D0.ld,D0.mok,D0.si,e1,D0.nd⟩,rfl,fun b hb=>⟨e3 b hb,?_⟩⟩;exact D0.own (yL X.prog X.w b.2,Value.ref b.1) (by rw[e1];exact qu.mpr ⟨b,hb,rfl⟩)
 have P1:qc3 X.prog X.w D [] hd1:=by
  obtain⟨bs,p1,p2,_⟩:=toP (qel (prog:=X.prog) (Pv:=fun _=>True) hacc);have:bs=[]:=List.map_eq_nil_iff.mp p2;rw[this] at p1;exact p1
 obtain⟨W,⟨m0,w0⟩,turn⟩:=hw;have loop:codeAny 'M' X.A (.compLoop (.SetComp elt [⟨tg,iter,ifs,0⟩] scope pos) 0 (.ref it) (.ref D) (compEnvC scope cl C X.env)) (RR (.ref D) C)
   { sa2 with heap:=hd1,toks:=sa2.toks+([]:List (Str×Value)).length }:=by
  obtain⟨oD1,_,J1⟩:=pinD Ia1 P1 HD;refine YE (fun n s'=>∃ i bs oD G' H',Inv (qW X L scope cl C sa2 H fp) [(D,oD)] G' H' s'/\qc3 X.prog X.w D bs s'.heap/\tn i s'.heap/\(∀ b∈fp,H' b=none)/\W i n bs G' H')
   ?_ m0 ⟨0,[],oD1,_,H,J1,P1,sat1,fun b hb=>(hf b hb).1,w0⟩
  rintro n s3 ⟨i,bs,oD,G3,H3,I3,p3,st3,fr3,w3⟩;have hp3:=I3.pin (D,oD) 's';obtain⟨in3,tu⟩:=turn i n bs G3 H3 w3;rcases tu with⟨stop,q⟩ | ⟨go,hlen,Nx,hNx,step⟩
  .refine thn (T.done (qW X L scope cl C sa2 H fp) rfl rfl rfl hc i _ s3 G3 H3 _ I3 (fpY fr3) st3 stop) fun r s4 ⟨hr,I4⟩=>?_;subst hr;have hp4:=I4.pin (D,oD) 's';obtain⟨m4,hn4,_⟩:=I4.loc;have p4:qc3 X.prog X.w D bs s4.heap:=p3.stay fun o e=>by
    rw[hp3.1] at e;cases e
    exact hp4.1
   exact hR D C m4 H3 s4 bs hn4 rfl (by rw[hC];exact yZ _) I4.free hDC (qin I hf hDn I4 p4 hp4.2.1) (q D hp4.2.1)
  .refine thn (T.item (qW X L scope cl C sa2 H fp) rfl rfl rfl hc i _ s3 G3 H3 _ I3 (fpY fr3) st3 go) fun r s4 ⟨u,hr,h4⟩=>?_;subst hr;refine thn h4 fun _ s5 Oc=>?_;obtain⟨x,H5,I5,r5,y5,st5,fr5⟩:=Oc;have I5':=I5.pinned (fpY fr5) (T.obj _ _ st5);refine thn (hg cl C sa2 H fp _ s5 G3 H5 x u _ I5' r5 (step x H5 y5)) fun _ s6 Oc=>?_;obtain⟨G6,H6,I6,q6⟩:=Oc;refine thn (hi cl C sa2 H fp _ s6 G6 H6 _ I6 q6) fun ok s7 Oc=>?_;obtain⟨H7,I7,q7⟩:=Oc;have later:∀ {G':St}{H':Hp}{s':Shared},Inv (qW X L scope cl C sa2 H fp) ([(D,oD)]++JA fp s5.heap) G' H' s' →
     tn (i+1) s'.heap/\(∀ b∈fp,H' b=none)/\qc3 X.prog X.w D bs s'.heap/\H' D=none:=fun {G' H' s'} J=>by
    refine⟨T.keep _ _ _ st5 fun b hb o e=>(J.pin (b,o) (qg _ (qg _ (yV hb e)))).1,fun b hb=>?_,?_⟩
    .obtain ⟨o,e,d⟩:=T.obj _ _ st5 b hb;exact (J.pin (b,o) (qg _ (qg _ (yV hb e)))).2.1
    .have z:=J.pin (D,oD) (qg _ (q0 _ 's'));exact⟨p3.stay fun o e=>by rw[hp3.1] at e;cases e;exact z.1,z.2.1⟩
   cases ok with
   | false =>
    rw[if_neg 's'] at q7 ⊢;obtain⟨m',hm',w'⟩:=hNx _ _ _ q7;obtain⟨t1,t2,t3,t4⟩:=later I7;obtain⟨oD7,_,J7⟩:=pinD I7 t3 t4;exact⟨m',hm',i+1,bs,oD7,G6,H7,J7,t3,t1,t2,w'⟩
   | true =>
    rw[if_pos rfl] at q7 ⊢;refine thn (he cl C sa2 H fp _ s7 G6 H7 _ I7 q7) fun y s8 Oc=>?_;obtain⟨v,H8,I8,r8,q8⟩:=Oc;obtain⟨ks,tk8,in8,nx8⟩:=q8;obtain⟨t1,t2,t3,t4⟩:=later I8;obtain⟨⟨b,rfl,_⟩,_⟩:=id tk8;have r8:y=Value.ref b:=r8;subst r8;have kb:jq s8.heap (.ref b) ks:=I8.tupK tk8;have S8:=qno I8 t3 in8 (fun v=>(∃ c∈bs,v=Value.ref c.1)\/v=Value.ref b) (fun c hc=>.inl ⟨c,hc,rfl⟩);have nbD:∀ b∈fp,b≠D:=fun b hb=>qt (hlt b hb);refine qjI (A:=(qW X L scope cl C sa2 H fp).A) S8 kb (.inr rfl) hu (by rw[qc];exact jg hlen 'd') (fun hin tk=>?_) fun hout h9 kss' tk sb S9 mem9=>?_
    .-- it was there
     obtain⟨m',hm',w'⟩:=hNx _ _ _ (nx8 bs (fun c hc=>.inl hc) (fun q=>⟨.inr,fun h=>h.elim (fun e=>by rw[e];exact hin) id⟩) (by obtain⟨_,_,_,_,_,_,_,_,_,_,_,_,_,nd⟩:=t3;exact nd));have I9:Inv (qW X L scope cl C sa2 H fp) [] G6 H8 { s8 with toks:=tk }:=(I8.pins_of (pins':=[]) (fun p hp=>by simp at hp)).turned (it:=D) (h':=s8.heap) (t':=tk) (fun b o hb e=>e) t4 hDC
      (.inr (by show sa2.heap.objs.size<=D;rw[hDn];exact qk _)) cellD (fun p hp=>by
       have:p∈([]:List (Addr×Obj)):=hp;simp at this)
     obtain⟨oD9,_,J9⟩:=pinD I9 t3 t4;exact⟨m',hm',i+1,bs,oD9,G6,H8,J9,t3,t1,t2,w'⟩
    .obtain ⟨bs',p9,e9,o9⟩:=toP S9;have hbs:∀ c∈bs',c∈bs\/(V.ref c.1=V.ref b/\c.2=ks):=fun c hc=>by
      obtain⟨k1,k2⟩:=o9 c hc;have kept:∀ {v:Value}{k:List Int},jq s8.heap v k->jq h9 v k:=fun t=>t.kept fun b o e hcl=>by
       refine sb.extBut b o (fun z=>?_) e;obtain⟨o',_,_,_,_,ho',ex',_⟩:=t3;rw[z,ho'] at e;cases e
       rw[ex'.1] at hcl;exact absurd hcl 'd'
      rcases k2 with⟨c0,hc0,e⟩ | e
      .have e:c.1=c0.1:=by injection e
       have k0:jq h9 (.ref c.1) c0.2:=by rw[e];exact kept (I8.tupK (in8 c0 hc0))
       have:=(k1.key (prog:=X.prog) (w:=X.w)).inj (k0.key (prog:=X.prog) (w:=X.w));exact .inl (by rw[show c=c0 from Prod.ext e this];exact hc0)
      .have e:c.1=b:=by injection e
       have k0:jq h9 (.ref c.1) ks:=by rw[e];exact kept kb
       have:=(k1.key (prog:=X.prog) (w:=X.w)).inj (k0.key (prog:=X.prog) (w:=X.w));exact .inr ⟨by rw[e],this⟩
     obtain⟨m',hm',w'⟩:=hNx _ _ _ (nx8 bs' hbs (fun q=>by rw[e9];exact mem9 q) (by obtain⟨_,_,_,_,_,_,_,_,_,_,_,_,_,nd⟩:=p9;exact nd));have I9:Inv (qW X L scope cl C sa2 H fp) [] G6 H8 { s8 with heap:=h9,toks:=tk }:=(I8.pins_of (pins':=[]) (fun p hp=>by simp at hp)).turned (it:=D) (t':=tk) (fun b o hb e=>sb.extBut b o hb e) t4 hDC
      (.inr (by show sa2.heap.objs.size<=D;rw[hDn];exact qk _)) cellD (fun p hp=>by
       have:p∈([]:List (Addr×Obj)):=hp;simp at this)
     obtain⟨oD9,_,J9⟩:=pinD I9 p9 t4;exact⟨m',hm',i+1,bs',oD9,G6,H8,J9,p9,T.keep _ _ _ t1 fun b hb o e=>sb.extBut b o (nbD b hb) e,t2,w'⟩
 exact Yx loop (T.self _ 0 _ _ _ sat1 loop)
end L2
namespace L2
open W SetTable
theorem qln {g:TG}{tt:TT}{te:TE}
  (hu:X.A.units+8<cLine) (hc:X.calm=true) (hsc:X.env.scope=sc) (hN:X.N=N) (ok:Jd sc N L scope=true)
  (hi:PI X tg iter wi) (hg:∀ cl C sa2 Ha2 fp,PG (qW X L scope cl C sa2 Ha2 fp) tg g) (hf:∀ cl C sa2 Ha2 fp,Ifs (qW X L scope cl C sa2 Ha2 fp) ifs tt) (he:∀ cl C sa2 Ha2 fp,PE (qW X L scope cl C sa2 Ha2 fp) elt te)
  (hs:∀ x,foldedSetIterable iter X.env x=pure x:=by intro _;rfl) :
  PE X (.SetComp elt [⟨tg,iter,ifs,0⟩] scope pos) (qnd X.prog X.w X.K L.length wi g tt te):=by
 intro Oa s G H Q I h;obtain⟨cl,hcl,hc1,hc2⟩:=YB (env:=X.env) (scope:=scope) fun y hy hfr=>by
  refine I.ok.has y.1 ?_;have z:=(jk ok hy).2.2 hfr;rw[<- hsc] at z;exact z
 rw[arm_eval_SetComp];refine wpAny_comprehension_free (use:=none) rfl hs hcl (jA ok) (fun y hy hl=>((jk ok hy).2.1 hl).1) (thn (hi Oa s G H _ I h) fun v s1 h1=>thn h1 fun itv s2 h2=>?_);obtain⟨it,fp,tn,J,H2,e,I2,T,st2,f2,hw⟩:=h2;subst e;refine qfY (RR:=fun acc C=>compPost 'M' X.A X.xe none (EP X Oa G Q) acc C) hu hc hsc hN ok hc1 hc2 hg hf he I2 T st2 f2 hw ?_;intro D C m H' s' bs hns hD hC hHC hDC J' q;refine⟨m,hns,fun h'' hs''=>⟨.ref D,upd H' D (qd7 X.prog X.w D bs),?_,rfl,q⟩⟩;have hsz:=I2.sz;refine J'.turned (it:=C) (t':=s'.toks) (fun b o hb e=>hs''.extBut b o hb e) (by rw[qX (Ne.symm hDC)];exact hHC) (Ne.symm (qt (jg I2.lt hC))) (.inr (qz hsz (yT hC))) (fun x c e=>?_) (fun p hp=>?_)
 .obtain ⟨v,z⟩:=I2.cell x c e;exact qt (jg z.lt hC)
 .exact qt (jg (qo (I2.pin p hp).1) hC)
def qo7 (P:Program) (w:World) (K:W.Frag) (k:Nat) (ti:TId) (g:TGd) (tt:TTd) (te:TEd):TEd:=fun Y U Q=>ti Y U fun J U1=>J.n<4900/\∃ Pv:Nat->List (List Int)->Rho->Mu->Prop,Pv 0 [] (Y++List.replicate k none) U1/\(∀ i ys Y' U',i<=J.n->Pv i ys Y' U'->J.ok U') ∧
 (∀ i ys Y' U',i<J.n->Pv i ys Y' U'->g (J.item i) Y' U' fun Y2 U2=>tt Y2 U2 fun b U3=>if b=true then te Y2 U3 fun y U4=>∃ z,z≠[]/\y = .d (JX z)/\Pv (i+1) (ys++[z]) Y2 U4 else Pv (i+1) ys Y2 U3) ∧
 ∀ ys Y' U',Pv J.n ys Y' U'->∀ ms,(∀ q,q∈ms ↔ q∈ys)->ms.Nodup->ms.length<4915->Q (.x (qfP P w K ms)) U'
theorem qi1 [DecidableEq α]:∀ {ms kss:List α},ms.Nodup->(∀ q∈ms,q∈kss)->ms.length<=kss.length:=fun h1 h2=>List.Nodup.length_le_of_subset h1 h2
theorem qkX {k:Nat}(h:up K (qo7 P w K k ti g tt te) G H Q):qnd P w K k (upI K ti) (upG K g) (upT K tt) (up K te) G H Q:=by
 obtain⟨Y,U,Q0,hS,hM,h,cl⟩:=h;refine⟨Y,U,_,hS,hM,h,fun J0 U1 J H1 q M1 s1 sim=>?_⟩;obtain⟨hn,Pv,h0,hok,hstep,hend⟩:=q;have S0:RelS K (Y++List.replicate k none) U1 (G++List.replicate k none) H1:=by
  have S1:=hS.same s1;refine⟨by simp[S1.len],fun i e he=>?_⟩;by_cases hi:i<Y.length
  .rw [qV hi] at he;rw[qV (by rw[<- S1.len];exact hi)];exact S1.get i e he
  .rw [yb 'o',ju] at he;split at he <;> cases he
 refine⟨fun i m bs G' H'=>m=J0.n - i/\i<=J0.n/\∃ ys Y' U',ys.length<=i/\RelS K Y' U' G' H'/\RelM K U' H'/\yr (mask U1 H1) (mask U' H')/\InS K (mask U' H') bs/\(∀ q,q∈bs.map (·.2) ↔ q∈ys)/\(bs.map (·.2)).Nodup/\Pv i ys Y' U',⟨_,rfl,yj _,[],_,U1,qk _,S0,M1,yr.refl _,(fun _ z=>nomatch z),(fun q=>by simp),.nil,h0⟩,?_⟩;rintro i m bs G' H' ⟨rfl,hi,ys,Y',U',hy,S',M',s',hA,hm,nd,p⟩;refine⟨fun b hb=>(hA b hb).up,?_⟩;have sm:=sim U' H' M' s' (hok i ys Y' U' hi p) i;have hbl:bs.length<=i:=by
  have:=qi1 nd fun q hq=>(hm q).mp hq;rw[qc] at this;omega
 by_cases hlt:i<J0.n
 .obtain ⟨hgo,hyl⟩:=sm.1 hlt;refine .inr ⟨hgo,'o',fun bs2 G2 H2=>∃ ys Y' U',ys.length<=i+1/\RelS K Y' U' G2 H2/\RelM K U' H2/\yr (mask U1 H1) (mask U' H2)/\InS K (mask U' H2) bs2/\(∀ q,q∈bs2.map (·.2) ↔ q∈ys)/\(bs2.map (·.2)).Nodup/\Pv (i+1) ys Y' U',fun ys2 G2 H2 z=>⟨J0.n - (i+1),'o',rfl,hlt,z⟩,fun x H2 y=>?_⟩;obtain⟨M2,s2,i2⟩:=hyl x H2 y;refine⟨_,Y',U',_,i2,S'.same s2,M2,hstep i ys Y' U' hlt p,fun Y3 U3 G3 H3 q3 S3 M3 s3=>⟨Y3,U3,_,S3,M3,q3,fun b U4 H4 q4 M4 s4=>?_⟩⟩;have st:=((s'.trans s2).trans s3).trans s4;cases b with
  | true =>
   refine Z1 ⟨Y3,U4,_,S3.same s4,M4,(by simpa using q4),fun e U5 v H5 q5 M5 s5 i5=>?_⟩;obtain⟨z,zn,rfl,q5⟩:=q5;have i5:Is K (mask U5 H5) v (JX z):=i5;have tz:ZR K (mask U5 H5) v z:=by
    have:=IsAll.tups (K:=K) (us:=[v]) (kss:=[z]) (.cons i5 .nil) (fun k hk=>by rw[qJ.mp hk];exact zn);cases this with
    | cons a b=>exact a
   have hA5:=hA.same (((s2.trans s3).trans s4).trans s5);refine⟨z,tz.up,fun b hb=>(hA5 b hb).up,fun bs' c1 c2 c3=>⟨ys++[z],Y3,U5,by simp;omega,(S3.same s4).same s5,M5,st.trans s5,fun c hc=>?_,fun q=>?_,c3,q5⟩⟩
   .rcases c1 c hc with h | ⟨h1,h2⟩
    .exact hA5 c h
    .rw [h1,h2];exact tz
   .rw [c2 q,hm q,qG,qJ];exact Or.comm
  | false=>exact Zf ⟨ys,Y3,U4,'o',S3.same s4,M4,st,hA.same ((s2.trans s3).trans s4),hm,nd,by simpa using q4⟩
 .have e:i=J0.n:=by omega
  subst e;refine .inl ⟨sm.2 (qk _),fun D hD=>?_⟩;obtain⟨M4,s4,hn'⟩:=M'.laid (o:=qd7 P w D bs) hD;refine cl _ U' _ _ (hend ys Y' U' p (bs.map (·.2)) hm nd (by rw[qc];omega)) M4 ((s1.trans s').trans s4) ⟨D,bs,rfl,?_,hA.same s4,rfl,nd,by rw[qc];omega⟩;rw[yN hn'];exact yg
theorem qo0
  (hu:X.A.units+64<cLine) (hc:X.calm=true) (hsc:X.env.scope=sc) (hN:X.N=N) (ok:Jd sc N L scope=true)
  (hi:DI K X tg iter ti) (hg:∀ cl C sa2 Ha2 fp,DG K (qW X L scope cl C sa2 Ha2 fp) tg g) (hf:∀ cl C sa2 Ha2 fp,qmV K (qW X L scope cl C sa2 Ha2 fp) ifs tt) (he:∀ cl C sa2 Ha2 fp,DE K (qW X L scope cl C sa2 Ha2 fp) elt te)
  (hK:X.K=K:=by rfl) (hP:X.prog=P:=by rfl) (hw:X.w=w:=by rfl) (hs:∀ x,foldedSetIterable iter X.env x=pure x:=by intro _;rfl) :
  DE K X (.SetComp elt [⟨tg,iter,ifs,0⟩] scope pos) (qo7 P w K L.length ti g tt te):=by
 subst hK hP hw;exact PE.mono (qln 'o' hc hsc hN ok hi hg hf he hs) fun _ _ _=>qkX
end L2
namespace L2
end L2
namespace L2
section
variable {G:List (Option V)}
end
end L2
namespace L2
theorem IsAll.set {d:PyData}(h:Is K H v d):∀ {vs:List V}{ds:List PyData}(j:Nat),IsAll K H vs ds->IsAll K H (vs.set j v) (ds.set j d)
 | _,_,_,.nil=>.nil
 | _,_,0,.cons _ r=>.cons h r
 | _,_,j+1,.cons i r=>.cons i (IsAll.set h j r)
end L2
namespace L2
def dgPut (to ti:TEd):TGd:=fun e Y U R=>to Y U fun o U1=>ti Y U1 fun i U2=>match e,o,i with
 | .d d,.m p,.d (.int k)=>∃ U3 U4 ds,U2=U3++(p,.lst ds)::U4/\0<=k/\k.toNat<ds.length/\R Y (U3++(p,.lst (ds.set k.toNat d))::U4)
 | _,_,_=>False
theorem qoX {i:Expr}{ti:TEd}(ho:DE K X o to) (hi:DE K X i ti)
  (ha:∀ v,assign (.Subscript o i pos) X.env v=(do
   let ov <- holding [v] (eval o X.env)
   let iv <- holding [v,ov] (eval i X.env)
   standAt pos
   holding [v,ov,iv] (setItem ov iv v)
   release [v,ov,iv] []):=by intro _;rfl):DG K X (.Subscript o i pos) (dgPut to ti):=by
 refine PG.mono (qgn ho hi qbn ha) fun v G H Q Oc=>?_;obtain⟨e,Y,U,Q0,i0,hS,hM,h,cl⟩:=Oc;refine⟨Y,U,_,hS,hM,h,fun o U1 v1 H1 q M1 s1 i1=>⟨Y,U1,_,hS.same s1,M1,q,fun i U2 v2 H2 q2 M2 s2 i2=>?_⟩⟩;split at q2
 .rename_i d p k
  have i1:v1 = .ref p:=i1;subst i1;cases i2
  obtain⟨U3,U4,ds,rfl,hk,hlt,q2⟩:=q2;obtain⟨xs,ex,hA⟩:=M2.ob p (.lst ds) 's';have i0':=i0.same (s1.trans s2);have hx:ixN xs.length k=some k.toNat:=by
   unfold ixN;rw[if_pos hk,if_pos (by rw[hA.len];lia)]
  refine⟨p,xs,k,k.toNat,rfl,rfl,ex,hx,?_⟩;obtain⟨M4,s4⟩:=M2.write (H':=upd H2 p (.lst (xs.set k.toNat v))) (o':=.lst (ds.set k.toNat d)) (fun b u e n=>by rw[qX n];exact e) fun ss=>⟨_,yg,IsAll.set (Is.same ss i0') _ (IsAll.same ss hA)⟩;exact cl _ _ _ _ q2 (hS.same ((s1.trans s2).trans s4)) M4 ((s1.trans s2).trans s4)
 .exact q2.elim
end L2
namespace L2
theorem Room.u70 {k:Nat}(r:Room k A):A.units+70<cLine:=by have:=r.un;lia
theorem qlZ (h:PyData.canLayAll0 ds=true) {d:PyData}(hd:d∈ds):d.canLay0=true:=by
 induction ds with
 | nil=>exact (nomatch hd)
 | cons a t ih =>
  simp only[PyData.canLayAll0,qZ] at h;rcases qF.mp hd with rfl | hd
  .exact h.1
  .exact ih h.2 hd
end L2
namespace L2
end L2
namespace L2
end L2
namespace L2
open W
end L2
namespace L2
open W SetTable
section
variable {S1:Addr}{k1:List (List Int)}
theorem qlU (S:qb1 prog w Pv s.heap S1 k1) (tb:jq s.heap (.ref b) ks) (hu:A.units<cLine) {Q:Option Nat->Shared->Prop}(q:∀ r:Option Nat,r.isSome=decide (ks∈k1)->Q r s):wpAny 'm' A (setFind S1 (.ref b) (yL prog w ks)) Q E s:=by
 obtain⟨o,es,ep,t,m,D⟩:=S;have T:=D.si.tab;have hle:=D.mok.le;obtain⟨j,q1,q2⟩:=T.free (yT hle.1);obtain⟨K,K1,K2⟩:=D.mok.full.walk (yL prog w ks) q1;have m127:m<=8191:=by have:=D.mok;unfold Jp at this;lia
 show wpAny 'm' A (setFindIn S1 (.ref b) (yL prog w ks) (99999+1)) Q E s;unfold setFindIn;refine qa (ja D.ho D.hd D.fits ?_);dsimp only;rw[if_neg (by simp[byScan,Value.scannable])];refine qa ?_;unfold setSearch;refine qaf D tb hu (adding:=false) (fun i ei=>?_) (fun no j' _ _ _=>?_) (K:=K) (by rw[K2];exact q2) K1 100000 0 none (by show t.probeStart _=_;rw[qd2,T.mask]) (yj _) 'l' fun l z=>absurd z 'l'
 .exact qf (q (some i) (by rw[qH (List.mem_of_getElem? ei)];rfl))
 .exact qf (q none (by rw[yi no];rfl))
theorem qdK (S:qb1 prog w Pv s.heap S1 k1) (tb:jq s.heap (.ref b) ks) (hu:A.units+64<cLine) {Q:Bool->Shared->Prop}(q:Q (decide (ks∈k1)) { s with toks:=s.toks+(ks.length+1) }):wpAny 'm' A (contains (.ref S1) (.ref b)) Q E s:=by
 have S':=S;obtain⟨o,es,ep,t,m,D⟩:=S;have T:s.TypeIs (.ref S1) "set" := ⟨o,D.ho,D.ex.1⟩;unfold contains
 try with_reducible refine yq ?_
 refine qa (wpAny_specialOf T F.slot_set_contains.lookup ?_);show wpAny _ _ (if (some (Value.builtin "set.__contains__") == some Value.none)=true then _ else _) _ E s;rw[if_neg (by rw[beq_builtin_none];exact Bool.false_ne_true)];refine qa (wpAny_callSpecialUnlessNone?_slot (name:=Str.ofString "__contains__") T F.slot_set_contains
  (Jq F.slot_set_contains T entry_set_contains ?_ (F.args_set_contains_2 _ _)))
 unfold Builtin.«frozenset.__contains__» Builtin.Frozenset.oneOther;simp only[List.isEmpty_nil,bind_assoc];unfold Builtin.Frozenset.addrOf Builtin.Frozenset.withSetAsKey setContains;refine qa (qf ?_)
 try dsimp only
 refine qa (qf ?_)
 try dsimp only
 refine qa (wpAny_tryCatch ?_);refine yq ?_;have hu1:A.in1.units<cLine:=by show A.units+_<_;lia
 refine qa (wpAny_pyHash_tuple hu1 (tb.key (prog:=prog) (w:=w)) ?_);refine qa (qlU (s:={ s with toks:=s.toks+(ks.length+1) }) S' tb hu1 fun r hr=>?_);refine qf ?_;show wpAny _ _ (ret (Value.bool r.isSome)) _ _ _;rw[hr];exact qf ⟨_,rfl,yF q⟩
end
def rInT (X:Cx) (neg:Bool):R2:=fun x y H Q=>∃ (S:Addr) (bs:List (Addr×List Int)) (ks:List Int),y = .ref S/\H S=some (qd7 X.prog X.w S bs)/\InS X.K H bs/\ZR X.K H x ks/\Q (.bl (if neg then !decide (ks∈bs.map (·.2)) else decide (ks∈bs.map (·.2)))) H
theorem qgs (hu:X.A.units+64<cLine):OpR X (compareOp .NotIn) (rInT X true):=by
 intro Oa s G H x y v u Q I rx ry h;obtain⟨S,bs,ks,rfl,h1,h2,h3,q⟩:=h;cases ry
 obtain⟨⟨a,rfl,_⟩,_⟩:=id h3;cases rx
 show wpAny _ _ (do return Value.bool (!(<- contains (Value.ref S) (Value.ref a)))) _ _ s;exact qa (qdK (I.setT h1 h2) (I.tupK h3) hu (qf ⟨.bl _,H,I.tok _,rfl,q⟩))
def rdInT (P:Program) (w:World) (K:W.Frag) (neg:Bool):R2d:=fun x y U Q=>∃ (ms:List (List Int)) (ks:List Int),x = .d (JX ks)/\ks≠[]/\y = .x (qfP P w K ms)/\Q (.d (.bool (if neg then !decide (ks∈ms) else decide (ks∈ms)))) U
theorem qie (h:Is K H v (JX ks)) (hn:ks≠[]):ZR K H v ks:=by
 unfold JX at h;cases h with
 | @tup a xs _ h1 h2 =>
  rw[h2.ints_of] at h1;exact⟨⟨a,rfl,h1⟩,hn⟩
theorem qfh (hu:X.A.units+64<cLine) (hK:X.K=K:=by rfl) (hP:X.prog=P:=by rfl) (hw:X.w=w:=by rfl):OpR X (compareOp .NotIn) (upR K (rdInT P w K true)):=by
 subst hK hP hw;refine (qgs hu).mono fun x y H Q h=>?_;obtain⟨U,e,e',Q0,M,i1,i2,q,cl⟩:=h;obtain⟨ms,ks,rfl,hn,rfl,q⟩:=q;obtain⟨S,bs,rfl,h1,h2,rfl,h4,h5⟩:=i2;exact⟨S,bs,ks,rfl,yO _ _ h1,fun b hb=>(h2 b hb).up,(qie i1 hn).up,cl _ U _ H q M (yr.refl _) (.bl _)⟩
def qnS (K:W.Frag):V->List V->Hp->VK->Prop:=fun x vs H Q=>∃ (l:Addr) (xs:List V) (ds:List PyData) (y:V) (d:PyData) (j:Nat),x = .ref l/\vs=[y]/\SqL K H l xs/\IsAll K H xs ds/\Is K H y d/\PyData.canLayAll0 ds=true/\SeqAt.shaped d=true ∧
 j<ds.length/\ds.length<=4000/\(∃ z,ds[j]?=some z/\z.eqv d=true)/\(∀ i z,i<j->ds[i]?=some z->z.eqv d=false)/\Q (.int (j:Nat)) H
theorem qgL (hu:X.A.units+70<cLine):MtR X "list.index" (qnS X.K):=by
 intro Oa s G H x xs v us Q I rx rs h;obtain⟨l,zs,ds,y,d,j,rfl,rfl,hq,hA,hy,hl,hs,hj,hj2,hit,hno,q⟩:=h;cases rx
 obtain⟨u,rfl,ry⟩:=Yh rs;obtain⟨its,rv,pl,hz⟩:=I.list hq;obtain⟨⟨cls,dd,data,sl⟩,ho,hc,n,hd⟩:=pl.isList;simp only at hc hd;subst hc hd;obtain⟨bs,rb⟩:=hy.reads I ry;unfold SeqAt.shaped at hs;rw[qZ] at hs;have hdep:=qx hs.2;have hlen:its.length=ds.length:=by rw[<- rv.length,hA.len]
 have rd:∀ (i:Nat) (z:Value),its[i]?=some z->∃ dz as,ds[i]?=some dz/\SeqAt.readOf s.heap z=dz/\Reads s.heap z dz as/\dz.canLay0=true:=fun i z ei=>by
  have hi:i<zs.length:=by rw[rv.length];exact (qC.mp ei).1
  obtain⟨dz,e1,hz1⟩:=hA.get (qh hi);obtain⟨uz,e2,rz⟩:=yM.get rv (qh hi);rw[ei] at e2;cases e2
  obtain⟨as,ra⟩:=hz1.reads I rz;have lz:=qlZ hl (List.mem_of_getElem? e1);exact⟨dz,as,e1,SeqAt.readOf_eq lz ra,ra,lz⟩
 refine call_meets F.slot_list_index ⟨_,ho,rfl⟩ F.entry_list_index (F.args_list_index_2 _ _) (SeqAt.list_indexAt l its.toArray n dd sl u (fun z=>(SeqAt.readOf s.heap z).eqv d) j (by simp;lia) 'l' ?_ ?_) ⟨ho,fun z hz=>?_,?_⟩
 .have hj':j<its.length:=by lia
  obtain⟨dz,as,e1,e2,_,_⟩:=rd j its[j] (qh hj');obtain⟨z',e3,e4⟩:=hit;rw[e1] at e3;cases e3
  show (SeqAt.readOf s.heap its.toArray[j]).eqv d=true;simp only[List.getElem_toArray];rw[e2];exact e4
 .intro m hm hmj;have hm':m<its.length:=by simpa using hm
  obtain⟨dz,as,e1,e2,_,_⟩:=rd m its[m] (qh hm');show (SeqAt.readOf s.heap its.toArray[m]).eqv d=false;simp only[List.getElem_toArray];rw[e2];exact hno m dz hmj e1
 .have hz:z∈its:=by simpa using hz
  obtain⟨i,ei⟩:=yw hz;obtain⟨dz,as,e1,e2,ra,lz⟩:=rd i z ei;rw[e2];refine SeqAt.eqAt_reads dz d _ s z u as bs ra rb lz hs.1 ?_;show X.A.units+1+_<_;lia
 .exact ⟨.int _,H,I.tok _,⟨_,rfl⟩,q⟩
def dIdxD (to:TEd) (tr:TAd):TEd:=fun Y U Q=>to Y U fun x U1=>∃ ds,LstOf U1 x ds/\tr Y U1 fun es U2=>LstOf U2 x ds/\match es with
 | [.d d]=>PyData.canLayAll0 ds=true/\SeqAt.shaped d=true/\∃ j:Nat,j<ds.length/\ds.length<=4000/\(∃ z,ds[j]?=some z/\z.eqv d=true)/\(∀ i z,i<j->ds[i]?=some z->z.eqv d=false)/\Q (.d (.int (j:Nat))) U2
 | _=>False
theorem qjs {e:Expr}(ho:DE K X o to) (ha:DA K X [e] tr) (hK:X.K=K:=by rfl)
  (h:PE X o (up K to)->PA X [e] (upA K tr)->PE X (.Call (.Attribute o "index" p1) [e] [] pos) (tBM X.K "list" (qnS X.K) (up K to) (upA K tr))):DE K X (.Call (.Attribute o "index" p1) [e] [] pos) (dIdxD to tr):=by
 subst hK;refine PE.mono (h ho ha) fun G H Q Oc=>?_;obtain⟨Y,U,Q0,hS,hM,h,cl⟩:=Oc;refine⟨Y,U,_,hS,hM,h,fun x U1 v H1 q M1 s1 i1=>?_⟩;obtain⟨ds,h1,q⟩:=q;obtain⟨p,xs,rfl,a1,a2⟩:=h1.get M1 i1;refine⟨.inl ⟨rfl,_,a1⟩,Y,U1,_,hS.same s1,M1,q,fun es U2 vs H2 q2 M2 s2 i2=>?_⟩;obtain⟨h2,q2⟩:=q2;obtain⟨p',xs',e',b1,b2⟩:=h2.get M2 (i1.same s2);cases e'
 split at q2
 .obtain ⟨v,rfl,h3⟩:=JN i2;obtain⟨c1,c2,j,c3,c4,c5,c6,q2⟩:=q2;exact⟨p,xs',ds,v,_,j,rfl,rfl,b1,IsAll.same yO b2,Is.same yO h3,c1,c2,c3,c4,c5,c6,cl _ U2 _ H2 q2 M2 (s1.trans s2) (.int _)⟩
 .exact q2.elim
end L2
namespace L2
variable {f:Str}{s:SpD}
def qh2 (f:Str) (y:En):List (Str×En)->List (Str×En)
 | []=>[(f,y)]
 | (g,x)::t=>if g=f then (g,y)::t else (g,x)::qh2 f y t
theorem qhl : ∀ {vs:List (Str×V)}{fs:List (Str×En)}{x:En},PySem.Paired (qhZ K U H) vs fs->fs.lookup f=some x->∃ v,vs.lookup f=some v/\IsE K U H v x
 | _,_,_,.nil,e=>by cases e
 | (g,v)::vs,(g',y)::fs,x,.cons ⟨h1,h2⟩ t,e=>by
  have h1:g=g':=h1;subst h1;simp only[yk] at e ⊢;split at e
  .cases e
   exact⟨v,rfl,h2⟩
  .exact qhl t e
theorem ZO : ∀ {vs:List (Str×V)}{fs:List (Str×En)},PySem.Paired (qhZ K U H) vs fs->fs.lookup f=none->vs.lookup f=none
 | _,_,.nil,_=>rfl
 | (g,v)::vs,(g',y)::fs,.cons ⟨h1,h2⟩ t,e=>by
  have h1:g=g':=h1;subst h1;simp only[yk] at e ⊢;split at e
  .cases e
  .exact ZO t e
theorem qhk {y:En}(hy:IsE K U H v y):∀ {vs:List (Str×V)}{fs:List (Str×En)},PySem.Paired (qhZ K U H) vs fs->PySem.Paired (qhZ K U H) (qbs f v vs) (qh2 f y fs)
 | _,_,.nil=>.cons ⟨rfl,hy⟩ .nil
 | (g,u)::vs,(g',z)::fs,.cons ⟨h1,h2⟩ t=>by
  have h1:g=g':=h1;subst h1;unfold qbs qh2;by_cases c:g=f
  .rw [if_pos c,if_pos c];exact .cons ⟨rfl,hy⟩ t
  .rw [if_neg c,if_neg c];exact .cons ⟨rfl,h2⟩ (qhk hy t)
section
variable {m:Str}
def dFld (C:Addr) (f:Str) (te:TEd):TEd:=fun Y U Q=>te Y U fun e U1=>∃ p dx fs x,e = .m p/\(p,MO.ins C dx fs)∈U1/\fs.lookup f=some x/\Q x U1
theorem Yw {e:Expr}(c:Cls X.K C) (n:Yz X.K C f) (he:DE K X e te) (hb:attributeBase e f X.env (eval e X.env)=eval e X.env):DE K X (.Attribute e f pos) (dFld C f te):=by
 refine PE.mono (qoe he hb) fun G H Q Oc=>?_;obtain⟨Y,U,Q0,hS,hM,h,cl⟩:=Oc;refine⟨Y,U,_,hS,hM,h,fun e U1 v H1 q M1 s1 i1=>?_⟩;obtain⟨p,dx,fs,x,rfl,hm,hl,q⟩:=q;have i1:v = .ref p:=i1;subst i1;obtain⟨vs,hv,pv⟩:=M1.ob p _ hm;obtain⟨u,e1,e2⟩:=qhl pv hl;exact⟨p,C,dx,vs,u,rfl,hv,c,n,e1,cl _ U1 u H1 q M1 s1 e2⟩
def dsFld (C:Addr) (f:Str) (to tv:TEd):TSd:=fun D Y U=>tv Y U fun y U1=>to Y U1 fun e U2=>∃ p dx fs fs' Ua Ub,e = .m p/\U2=Ua++(p,MO.ins C dx fs)::Ub/\qh2 f y fs=fs'/\fs.length<1000/\D.nx Y (Ua++(p,MO.ins C dx fs')::Ub)
theorem qog (s:yr (mask U H) (mask U' H')):∀ {vs:List V}{es:List En},PySem.Paired (IsE K U H) vs es->PySem.Paired (IsE K U' H') vs es
 | _,_,.nil=>.nil
 | _,_,.cons h t=>.cons (h.same s) (qog s t)
theorem qeA {tv:TEd}(c:Cls X.K C) (n:Yz X.K C f) (ho:DE K X o to) (hv:DE K X value tv) (hs:swapsWith value (some (.Attribute o f pos')) pos.line X.env=pure false:=by rfl):DS K X (.Assign [.Attribute o f pos'] value pos) (dsFld C f to tv):=by
 refine PS.mono (qn1 ho hv hs) fun D G H Oc=>?_;obtain⟨Y,U,D0,hS,hM,h,cl⟩:=Oc;refine⟨Y,U,_,hS,hM,h,fun y U1 u H1 q M1 s1 i1=>⟨Y,U1,_,hS.same s1,M1,q,fun e U2 v2 H2 q2 M2 s2 i2=>?_⟩⟩;obtain⟨p,dx,fs,fs',Ua,Ub,rfl,rfl,rfl,hl,q2⟩:=q2;have i2:v2 = .ref p:=i2;subst i2;obtain⟨vs,hv,pv⟩:=M2.ob p (.ins C dx fs) 's';obtain⟨M4,s4⟩:=M2.write (H':=upd H2 p (.ins C dx (qbs f u vs))) (o':=.ins C dx (qh2 f y fs)) (fun b u e n=>by rw[qX n];exact e) fun ss=>⟨_,yg,qhk (i1.same (s2.trans ss)) (qhZ.all ss pv)⟩;exact⟨p,C,dx,vs,rfl,hv,c,n,by rw[PySem.Paired.length pv];exact hl,cl.nx _ _ _ _ q2 (hS.same ((s1.trans s2).trans s4)) M4 ((s1.trans s2).trans s4)⟩
def qps (P:Program) (w:World) (K:W.Frag) (mg:Str->Option Value) (base:Heap) (CX:CXT) (k:Nat) (x:Str) (C:Addr) (ps:List Str) (sp:Sp):Prop :=
 ∃ (f:Addr) (fd:FuncData),FnOk P w K mg base CX k f fd ps sp/\mg x=some (.ref C)/\Mk K C f/\YW K fd ps []
def yQ (P:Program) (w:World) (K:W.Frag) (mg:Str->Option Value) (base:Heap) (CX:CXT) (k:Nat) (C:Addr) (m:Str) (ps:List Str) (sp:Sp):Prop :=
 ∃ (f:Addr) (fd:FuncData),FnOk P w K mg base CX k f fd ps sp/\Cls K C/\Meth K C m f/\YW K fd ps []
def qo8 (C:Addr) (s:SpD) (tr:TAd):TEd:=fun Y U Q=>tr Y U fun es U1=>∀ p dx,p∉U1.map Prod.fst->s (.m p::es) ((p,MO.ins C dx [])::U1) fun e U2=>e = .d .none/\Q (.m p) U2
theorem qkw {k:Nat}{e:Expr}(O:qps X.prog X.w X.K X.mg X.base CX k x C ps (yd K s)) (hX:NoX CX) (hr:Room (k+1) X.A) (hg:Gl X x) (ha:DA K X (e::es) tr) (hdb:(x == ("__debug__" : Str))=false:=by decide)
  (he:starEach (e::es) X.env=(false,eval e X.env)::starEach es X.env:=by rfl) (hpl:(backTo pos (starEach es X.env)).any (·.1)=false:=by rfl):DE K X (.Call (.Name x p1) (e::es) [] pos) (qo8 C s tr):=by
 obtain⟨g,fd,F,hm,M,hb⟩:=O;refine PE.mono (qlp M F hr hg hm hb .nil (qeW hX) ha hdb he hpl) fun G H Q Oc=>?_;obtain⟨Y,U,Q0,hS,hM,h,cl⟩:=Oc;refine⟨Y,U,_,hS,hM,h,fun es U1 vs H1 q M1 s1 i1=>?_⟩;intro y dx hy hdx hne;obtain⟨M2,s2,n2⟩:=M1.laid (o:=.own y) hdx;have hy2:upd H1 dx (.own y) y=none:=by rw[qX hne.symm];exact hy
 obtain⟨M3,s3⟩:=M2.new (u:=.ins C dx []) (o:=.ins C dx []) hy2 fun ss=>⟨[],yg,.nil⟩;obtain⟨_,_,n3⟩:=M2.laid (o:=.ins C dx []) hy2;have st:=s2.trans s3;refine⟨(y,.ins C dx [])::U1,.m y::es,_,M3,.cons rfl (by simpa using qog st i1),q y dx n3,?_⟩;rintro e U' v H' ⟨rfl,q'⟩ M' s' i';cases i'
 exact⟨rfl,cl _ U' _ H' q' M' ((s1.trans st).trans s') rfl⟩
def qmA (C:Addr) (m:Str) (s:SpD) (to:TEd) (tr:TAd):TEd:=fun Y U Q=>to Y U fun e U1=>∃ p dx fs,e = .m p/\(p,MO.ins C dx fs)∈U1/\fs.lookup m=none/\tr Y U1 fun es U2=>s (.m p::es) U2 Q
theorem qo3 {k:Nat}{e:Expr}(O:yQ X.prog X.w X.K X.mg X.base CX k C m ps (yd K s)) (hX:NoX CX) (hr:Room k X.A) (ho:DE K X o to) (ha:DA K X (e::es) tr)
  (hst:starEach (e::es) X.env=(false,eval e X.env)::starEach es X.env:=by rfl) (hpl:(backTo pos (starEach es X.env)).any (·.1)=false:=by rfl)
  (ht:eval (.Call (.Attribute o m apos) (e::es) [] pos) X.env=(do
   let ov <- eval o X.env
   standAt apos.atName
   let (f,first) <- holding [ov] (getMethod ov m pl)
   callWith pos f first (backTo pos (starEach (e::es) X.env)) (backToKw pos (keywordEach [] X.env))):=by rfl):DE K X (.Call (.Attribute o m apos) (e::es) [] pos) (qmA C m s to tr):=by
 obtain⟨g,fd,F,c,hm,hb⟩:=O;refine PE.mono (Zq ho c hm F hr hb .nil (qeW hX) ha hst hpl ht) fun G H Q Oc=>?_;obtain⟨Y,U,Q0,hS,hM,h,cl⟩:=Oc;refine⟨Y,U,_,hS,hM,h,fun e U1 v H1 q M1 s1 i1=>?_⟩;obtain⟨p,dx,fs,rfl,hmem,hl,q⟩:=q;have i1:v = .ref p:=i1;subst i1;obtain⟨vs,hv,pv⟩:=M1.ob p _ hmem;refine⟨p,dx,vs,rfl,hv,ZO pv hl,Y,U1,_,hS.same s1,M1,q,fun es U2 us H2 q2 M2 s2 i2=>?_⟩;exact⟨U2,.m p::es,Q0,M2,.cons rfl (by simpa using i2),q2,cl.same (s1.trans s2)⟩
theorem qmu {k:Nat}(O:yQ X.prog X.w X.K X.mg X.base CX k C m ps (yd K s)) (hX:NoX CX) (hr:Room k X.A) (ho:DE K X o to)
  (ht:eval (.Call (.Attribute o m apos) [] [] pos) X.env=(do
   let ov <- eval o X.env
   standAt apos.atName
   let (f,first) <- holding [ov] (getMethod ov m pl)
   callWith pos f first (backTo pos (starEach [] X.env)) (backToKw pos (keywordEach [] X.env))):=by rfl):DE K X (.Call (.Attribute o m apos) [] [] pos) (qmA C m s to dNil):=by
 obtain⟨g,fd,F,c,hm,hb⟩:=O;refine PE.mono (qiH ho c hm F hr hb .nil (qeW hX) ht) fun G H Q Oc=>?_;obtain⟨Y,U,Q0,hS,hM,h,cl⟩:=Oc;refine⟨Y,U,_,hS,hM,h,fun e U1 v H1 q M1 s1 i1=>?_⟩;obtain⟨p,dx,fs,rfl,hmem,hl,q⟩:=q;have i1:v = .ref p:=i1;subst i1;obtain⟨vs,hv,pv⟩:=M1.ob p _ hmem;refine⟨p,dx,vs,rfl,hv,ZO pv hl,?_⟩;exact⟨U1,[.m p],Q0,M1,.cons rfl .nil,q,cl.same s1⟩
end
end L2
namespace L2
open W
section
variable {P:Nat->Value->Prop}{St:Nat->Shared->Prop}
end
end L2
namespace L2
open W
end L2
namespace L2
end L2
namespace L2
open W
end L2
namespace L2
open W
end L2
namespace L2
variable {o:Option V}{y:V}{xs:List (List Key×Addr×Value)}{Q:Value->Shared->Prop}
section
variable {κ:Type} [DecidableEq κ]
def qdZ (kvs:List (κ×V)) (k:κ):Option V:=(kvs.find? fun kv=>decide (kv.1=k)).map (·.2)
def qee (kvs:List (κ×V)) (k:κ) (v:V):List (κ×V) :=
 if (kvs.any fun kv=>decide (kv.1=k))=true then kvs.map (fun kv=>if kv.1=k then (kv.1,v) else kv) else kvs++[(k,v)]
theorem ZU {p:κ×V}{r:List (κ×V)}{k:κ}(e:p.1=k):qdZ (p::r) k=some p.2:=by simp[qdZ,j7,e]
theorem ZV {p:κ×V}{r:List (κ×V)}{k:κ}(e:¬ p.1=k):qdZ (p::r) k=qdZ r k:=by simp[qdZ,j7,e]
theorem qdY (k:κ):∀ kvs:List (κ×V),(kvs.any fun kv=>decide (kv.1=k))=(qdZ kvs k).isSome
 | []=>rfl
 | p::r=>by
  rw[List.any_cons];by_cases e:p.1=k
  .simp only[ZU e,qH e,Bool.true_or,Option.isSome_some]
  .rw [ZV e,yi e,Bool.false_or];exact qdY k r
theorem qas (kvs:List (κ×V)) (k:κ) (v:V):(qee kvs k v).length<=kvs.length+1:=by
 unfold qee;split
 .rw [qc];omega
 .rw [qr,qU,List.length_nil];omega
theorem qc4.isSome_eq {u:Option Value}(r:qc4 o u):o.isSome=u.isSome:=by
 cases o with
 | none=>cases u with
  | none=>rfl
  | some _=>exact (show False from r).elim
 | some _=>cases u with
  | none=>exact (show False from r).elim
  | some _=>rfl
theorem KV.val {kvs:List (κ×V)}{vs:List (κ×Value)}(r:KV kvs vs) (k:κ):qc4 (qdZ kvs k) (valueAt vs k):=by
 unfold KV at r;induction r with
 | nil=>exact True.intro
 | @cons p q ps qs h t ih =>
  obtain⟨h1,h2⟩:=h;by_cases e:p.1=k
  .have e':q.1=k:=h1.symm.trans e;have b:valueAt (q::qs) k=some q.2:=by simp[valueAt,j7,e']
   rw[ZU e,b];exact h2
  .have e':¬ q.1=k:=fun z=>e (h1.trans z);have b:valueAt (q::qs) k=valueAt qs k:=by simp[valueAt,j7,e']
   rw[ZV e,b];exact ih
theorem KV.any {kvs:List (κ×V)}{vs:List (κ×Value)}(r:KV kvs vs) (k:κ):(kvs.any fun kv=>decide (kv.1=k))=vs.any fun kv=>decide (kv.1=k):=by
 unfold KV at r;induction r with
 | nil=>rfl
 | cons h t ih=>rw[List.any_cons,List.any_cons,ih,h.1]
theorem KV.repl {kvs:List (κ×V)}{vs:List (κ×Value)}(r:KV kvs vs) (k:κ) (ry:jr y u) :
  KV (kvs.map fun kv=>if kv.1=k then (kv.1,y) else kv) (vs.map fun kv=>if kv.1=k then (kv.1,u) else kv):=by
 unfold KV at r ⊢;induction r with
 | nil=>exact .nil
 | @cons p q ps qs h t ih =>
  rw[qP,qP];refine .cons ?_ ih;obtain⟨h1,h2⟩:=h;by_cases e:p.1=k
  .rw [if_pos e,if_pos (h1.symm.trans e)];exact⟨h1,ry⟩
  .rw [if_neg e,if_neg (fun z=>e (h1.trans z))];exact⟨h1,h2⟩
theorem KV.put {kvs:List (κ×V)}{vs:List (κ×Value)}(r:KV kvs vs) (k:κ) (ry:jr y u):KV (qee kvs k y) (stored vs k u):=by
 unfold qee stored;rw[r.any k];by_cases e:(vs.any fun kv=>decide (kv.1=k))=true
 .rw [if_pos e,if_pos e];exact r.repl k ry
 .rw [if_neg e,if_neg e];exact Paired.snoc r ⟨rfl,ry⟩
theorem KV.length {kvs:List (κ×V)}{vs:List (κ×Value)}(r:KV kvs vs):kvs.length=vs.length:=Paired.length r
end
theorem qi8 {k:Key}(r:jr (kV k) u):(jO P w).is k u=true:=by
 cases k with
 | inl i=>obtain⟨t,e⟩:=(show ∃ t,u=Value.int i t from r);subst e;exact qds P w i t
 | inr x=>obtain⟨t,e⟩:=(show ∃ t,u=Value.str x t from r);subst e;exact qdr P w x t
theorem qcy : ∀ {ks:List Key}{us:List Value},yM (ks.map kV) us->ItemsAre (jO P w) ks us
 | [],_,r=>by rw[List.map_nil] at r;cases r;exact .nil
 | k::ks,_,r=>by
  rw[qP] at r;cases r with
  | cons h t=>exact .cons (qi8 h) (qcy t)
abbrev KT (H:Hp):List (List Key×V)->List (List Key×Addr×Value)->Prop:=Paired fun p q=>p.1=q.1/\H q.2.1=some (.tup (p.1.map kV))/\jr p.2 q.2.2
theorem KT.val (r:KT H kvs xs) (k:List Key):qc4 (qdZ kvs k) ((atKey xs k).map (·.2)):=by
 induction r with
 | nil=>exact True.intro
 | @cons p q ps qs h t ih =>
  obtain⟨h1,_,h2⟩:=h;by_cases e:p.1=k
  .have e':q.1=k:=h1.symm.trans e;have b:atKey (q::qs) k=some q.2:=by simp[atKey,j7,e']
   rw[ZU e,b];exact h2
  .have e':¬ q.1=k:=fun z=>e (h1.trans z);have b:atKey (q::qs) k=atKey qs k:=by simp[atKey,j7,e']
   rw[ZV e,b];exact ih
theorem KT.repl (r:KT H kvs xs) (k:List Key) (ry:jr y u) :
  KT H (kvs.map fun kv=>if kv.1=k then (kv.1,y) else kv) (xs.map (putAt k u)):=by
 induction r with
 | nil=>exact .nil
 | @cons p q ps qs h t ih =>
  rw[qP,qP];refine .cons ?_ ih;obtain⟨h1,h2,h3⟩:=h;unfold putAt;by_cases e:p.1=k
  .rw [if_pos e,if_pos (h1.symm.trans e)];exact⟨h1,h2,ry⟩
  .rw [if_neg e,if_neg (fun z=>e (h1.trans z))];exact⟨h1,h2,h3⟩
theorem KT.put (r:KT H kvs xs) (k:List Key) (hb:H b=some (.tup (k.map kV))) (ry:jr y u) :
  KT H (qee kvs k y) (storedH xs k b u):=by
 have e:(kvs.any fun kv=>decide (kv.1=k))=(atKey xs k).isSome:=by rw[qdY,(r.val k).isSome_eq,Option.isSome_map]
 unfold qee storedH;rw[e];by_cases q:(atKey xs k).isSome=true
 .rw [if_pos q,if_pos q];exact r.repl k ry
 .rw [if_neg q,if_neg q];exact Paired.snoc r ⟨rfl,hb,ry⟩
theorem KT.keeps (r:KT H kvs xs) (ht:∀ b ys,H b=some (.tup ys)->H' b=some (.tup ys)):KT H' kvs xs :=
 Paired.mapP r fun _ _ z=>⟨z.1,ht _ _ z.2.1,z.2.2⟩
theorem qnG {u:HO}(ok:HOk P w H h) (e:Rd H a u):jB P w H h a u:=e.ok ok
theorem qjo {kvs:List (Key×V)}(ok:HOk P w H h) (e:Rd H a (.dK kvs)):kvs.length<=sizeLine/\(a == sysModules)=false/\∃ vs,KV kvs vs/\h.DictOf (jO P w) a vs :=
 show jB P w H h a (.dK kvs) from qnG ok e
theorem dk_of {kvs:List (Key×V)}(ok:HOk P w H h) (e:H a=some (.dK kvs)):kvs.length<=sizeLine/\(a == sysModules)=false/\∃ vs,KV kvs vs/\h.DictOf (jO P w) a vs:=qjo ok (.inl e)
theorem qer {ks:List Key}(ok:HOk P w H h) (e:H a=some (.tup (ks.map kV))):(tupleKind (jO P w)).is h ks a:=by
 obtain⟨_,its,r,o,h1,h2,n,h3⟩:=(show jB P w H h a (.tup (ks.map kV)) from ok a _ e);exact⟨o,its.toArray,n,h1,h2,h3,by simpa using qcy r⟩
theorem qjj (ok:HOk P w H h) (e:Rd H a (.dT kvs)):kvs.length<=sizeLine/\(a == sysModules)=false ∧
  ∃ xs,KT H kvs xs/\h.DictOfH (tupleKind (jO P w)) a xs:=by
 obtain⟨z,y,xs,r,o,es,ep,h1,h2,h3,h4,h5⟩:=(show jB P w H h a (.dT kvs) from qnG ok e);refine⟨z,y,xs,r,o,es,ep,h1,h2,h3,h4,fun x hx=>?_,h5⟩;have all:∀ {l:List (List Key×V)}{m:List (List Key×Addr×Value)},KT H l m->∀ x∈m,(tupleKind (jO P w)).is h x.1 x.2.1:=by
  intro l m q;induction q with
  | nil=>intro x hx;exact nomatch hx
  | @cons p q ps qs hq t ih =>
   intro x hx;rcases qF.mp hx with e | hx
   .subst e;exact qer ok (by rw[<- hq.1];exact hq.2.1)
   .exact ih x hx
 exact all r x hx
theorem dt_of (ok:HOk P w H h) (e:H a=some (.dT kvs)):kvs.length<=sizeLine/\(a == sysModules)=false ∧
  ∃ xs,KT H kvs xs/\h.DictOfH (tupleKind (jO P w)) a xs:=qjj ok (.inl e)
def qjL (H:Hp) (a:Addr) (y:V) (r:Option V):Prop :=
 (∃ kvs k,Rd H a (.dK kvs)/\y=kV k/\r=qdZ kvs k)\/∃ kvs k b,Rd H a (.dT kvs)/\y = .ref b/\H b=some (.tup (k.map kV))/\r=qdZ kvs k
def qpx (H:Hp) (a:Addr) (y v:V) (H':Hp):Prop :=
 (∃ kvs k,H a=some (.dK kvs)/\y=kV k/\kvs.length<sizeLine/\H'=upd H a (.dK (qee kvs k v))) ∨
 ∃ kvs k b,H a=some (.dT kvs)/\y = .ref b/\H b=some (.tup (k.map kV))/\kvs.length<sizeLine/\H'=upd H a (.dT (qee kvs k v))
theorem qjL.k {kvs:List (Key×V)}{k:Key}(e:H a=some (.dK kvs)):qjL H a (kV k) (qdZ kvs k):=.inl ⟨kvs,k,.inl e,rfl,rfl⟩
theorem qpx.k {kvs:List (Key×V)}{k:Key}(e:H a=some (.dK kvs)) (hl:kvs.length<sizeLine):qpx H a (kV k) v (upd H a (.dK (qee kvs k v))):=.inl ⟨kvs,k,e,rfl,hl,rfl⟩
section
variable {r:Value}
theorem Inv.big (I:Inv X Oa G H s):sysModules<s.heap.objs.size:=by
 have h:mainGlobals<s.heap.objs.size:=(I.mod.glob.keeps I.bk).lt;exact jg 'd' h
theorem qhC (hu:A.units+1<cLine) (I:Inv X Oa G H s) (g:qjL H a y (some v)) (ry:jr y u) (h:∀ w' s',Inv X Oa G H s'->jr v w'->Q w' s') :
  wpAny 'M' A (getItem (.ref a) u) Q E s:=by
 rcases g with⟨kvs,k,e,ey,l⟩ | ⟨kvs,k,b,e,ey,eb,l⟩
 .subst ey;obtain⟨z,hd,vs,rel,dd⟩:=qjo I.hok e;obtain⟨w',hw,rw'⟩:=qc4.some_of (v:=v) (o:=valueAt vs k) (by rw[l];exact rel.val k);exact wpAny_getItem_of (qi8 ry) dd.mapOf hw (h w' _ (I.tok _) rw')
 .subst ey;cases (show u=Value.ref b from ry)
  obtain⟨z,hd,xs,rel,dd⟩:=qjj I.hok e;obtain⟨w',hw,rw'⟩:=qc4.some_of (v:=v) (o:=(atKey xs k).map (·.2)) (by rw[l];exact rel.val k);obtain⟨p,hp,hp2⟩:=Option.map_eq_some_iff.mp hw;refine wpAny_getItem_heap (tupleKind_room_in1 hu) (qer I.hok eb) dd hp ?_;rw[hp2];exact h w' _ (I.tok _) rw'
theorem qms (hu:A.units+1<cLine) (I:Inv X Oa G H s) (g:qjL H a y o) (ry:jr y u) (h:∀ s',Inv X Oa G H s'->Q (.bool (!o.isSome)) s') :
  wpAny 'M' A (compareOp .NotIn u (.ref a)) Q E s:=by
 rcases g with⟨kvs,k,e,ey,l⟩ | ⟨kvs,k,b,e,ey,eb,l⟩
 .subst ey;obtain⟨z,hd,vs,rel,dd⟩:=qjo I.hok e;refine wpAny_notIn_of (qi8 ry) hd dd.mapOf ?_;rw[<- (rel.val k).isSome_eq,<- l];exact h _ (I.tok _)
 .subst ey;cases (show u=Value.ref b from ry)
  obtain⟨z,hd,xs,rel,dd⟩:=qjj I.hok e;refine wpAny_notIn_heap (tupleKind_room_in1 hu) (qer I.hok eb) hd dd ?_;have q:=(rel.val k).isSome_eq;rw[Option.isSome_map] at q;rw[<- q,<- l];exact h _ (I.tok _)
theorem qhx {ob:HO}(I:Inv X Oa G H s) (mu:Mut (H a)) (hs:Heap.SameBut a s.heap h') (he:∃ q,h'.get? a=some q) (new:jB X.prog X.w (upd H a ob) h' a ob) :
  Inv X Oa G (upd H a ob) { s with heap:=h',toks:=t' } :=
 I.write (x:=a) (e:=a) mu (.inl rfl) (fun b q hb z=>(hs.2 b hb).trans z) he new
theorem qoU {kvs:List (Key×V)}{vs:List (Key×Value)}(z:kvs.length<=sizeLine) (hd:(a == sysModules)=false) (rel:KV kvs vs) (dd:h'.DictOf (jO P w) a vs) :
  jB P w H' h' a (.dK kvs):=⟨z,hd,vs,rel,dd⟩
theorem qhy {Q:Unit->Shared->Prop}(hu:A.units+1<cLine) (I:Inv X Oa G H s) (g:qpx H a y v H') (ry:jr y u) (rv:jr v r) (h:∀ s',Inv X Oa G H' s'->Q () s') :
  wpAny 'M' A (setItem (.ref a) u r) Q E s:=by
 rcases g with⟨kvs,k,e,ey,l,eH⟩ | ⟨kvs,k,b,e,ey,eb,l,eH⟩
 .subst ey eH;obtain⟨z,hd,vs,rel,dd⟩:=dk_of I.hok e;have hz:vs.length<=sizeLine:=by rw[<- rel.length];exact z
  have hl:(qee kvs k v).length<=sizeLine:=by have:=qas kvs k v;omega
  refine wpAny_setItem_pairs (hsz:=hz) (qi8 ry) dd fun h' dd' hs=>h _ ?_;have he:∃ q,h'.get? a=some q:=let ⟨q,_,_,hq,_⟩:=dd';⟨q,hq⟩;exact qhx I (by rw[e];exact True.intro) hs he (qoU hl hd (rel.put k rv) dd')
 .subst ey eH;cases (show u=Value.ref b from ry)
  obtain⟨z,hd,xs,rel,dd⟩:=dt_of I.hok e;have hz:xs.length<=sizeLine:=by rw[<- Paired.length rel];exact z
  have hl:(qee kvs k v).length<=sizeLine:=by have:=qas kvs k v;omega
  refine wpAny_setItem_heap (hsz:=hz) (tupleKind_room_in1 hu) (qer I.hok eb) dd fun h' dd' hs=>h _ ?_;obtain⟨q,es,ep,hq,h2,h3,h4,_,h5⟩:=dd';refine qhx I (by rw[e];exact True.intro) hs ⟨q,hq⟩ ⟨hl,hd,_,(rel.put k eb rv).keeps fun c ys ec=>?_,q,es,ep,hq,h2,h3,h4,h5⟩;rw[qX (ne_of ec e (fun z=>nomatch z))];exact ec
end
end L2
namespace L2
end L2
namespace L2
open W
variable {es:Array DictEntry}
section
variable {d:Addr}
end
section
variable {d:Addr}
end
end L2
namespace L2
open W
end L2
namespace L2
section
variable {E:XK}
theorem qbu:Yg 'x' (ZT 'x' P w K mg base N qual scope f cd A outer s H E) E:=by
 intro Oa G H1 s1 e s' I hx;generalize hX:ZT 'x' P w K mg base N qual scope f cd A outer s H E=X at *;have xst:X.stack=X.env::X.outer:=by rw[<- hX];rfl
 have xfr:X.env.frame=some X.env.locals:=by rw[<- hX];rfl
 have xex:X.ex=[]:=by rw[<- hX];rfl
 have xe:X.xe=fun e s'=>wpAny 'M' X.A (leaving X.env e) (fun _ s''=>XC X.prog X.w X.outer X.H₀ X.s₀ E e s'') (fun e' s''=>XC X.prog X.w X.outer X.H₀ X.s₀ E e' s'') s':=by rw[<- hX];rfl
 have xP:X.prog=P:=by rw[<- hX];rfl
 have xw:X.w=w:=by rw[<- hX];rfl
 obtain⟨ea,cls,a0,H',B,rfl,hos,hg,un,ok',fl,cov,hea,hE⟩:=hx;rw[xe];have fsub:∀ b∈frs X.stack,b=X.env.locals\/b∈X.fs:=fun b hb=>qF.mp (I.stkSub b hb);have hfs:∀ b∈X.fs,b∈frs X.stack:=fun b hb=>by
  rw[xst];obtain⟨e,he,hfe⟩:=yD.mp hb;exact yD.mpr ⟨e,qe _ he,hfe⟩
 have bs:Un X.fs [] X.H₀ H1 X.s₀.heap s1.heap:=by have:=I.base;rw[xex] at this;exact this
 have oldnf:∀ b o,X.s₀.heap.get? b=some o->b∉X.fs->b∉frs X.stack:=fun b o eb nb z=>by
  rcases fsub b z with z | z
  .exact absurd (qM (qo eb) I.ok.above) (by rw[z];exact yz _)
  .exact nb z
 have trk:∀ b u,H' b=some u->b∉frs X.stack:=fun b u eb z=>by
  obtain⟨_,o,ho,_⟩:=I.stack.mem z;have:=un.free b o ho (I.stkFree b z) 's';rw[this] at eb;cases eb
 refine wpAny_leaves_onW (by rw[<- xst];exact I.ok.frames) xfr (by rw[<- xst];exact fl) fun h'' fl2 ups=>?_;have kept:∀ b o,s'.heap.get? b=some o->b∉frs X.stack->((∃ oa0,s1.heap.get? b=some oa0)\/∃ u,H' b=some u)->h''.get? b=some o:=fun b o eb nb c=>fl2.1 b o (cov b o eb nb c);have slotK:∀ b,b∈frs X.stack->∀ o1,s1.heap.get? b=some o1->∃ sl,h''.get? b=some { cls:=o1.cls,dict:=o1.dict,data:=o1.data,slots:=sl }:=fun b hb o1 e1=>by
  obtain⟨sl,e2⟩:=un.slot b o1 e1 (I.stkFree b hb) hb 's';obtain⟨_,o',ho',hd'⟩:=I.stack.mem hb;rw[e1] at ho';cases ho';obtain⟨sl2,e3⟩:=ups b { cls:=o1.cls,dict:=o1.dict,data:=o1.data,slots:=sl } e2 hd';exact⟨sl2,e3⟩
 refine⟨ea,cls,a0,H',B,rfl,hos.trans I.os,hg,⟨fun b o eb n nf _=>?_,fun b o eb n nf _=>?_,fun b o eb n _=>?_,fun b o eb _=>?_,fun b xs q=>un.tups b xs (bs.tups b xs q),fun b o u q=>un.frzs b o u (bs.frzs b o u q),fun b ps q=>?_⟩,fun b u eb=>?_,fl2,fun b o eb nb c=>?_,hea,hE⟩
 .have e1:=bs.keep b o eb n nf 's';have nb:=oldnf b o eb nf;exact kept b o (un.keep b o e1 (bs.free b o eb n 's') nb 's') nb (.inl ⟨o,e1⟩)
 .obtain ⟨sl,e1⟩:=bs.slot b o eb n nf 's';obtain⟨sl2,e2⟩:=slotK b (hfs b nf) _ e1;exact⟨sl2,e2⟩
 .obtain ⟨o1,e1⟩:=bs.there b o eb 's';exact un.free b o1 e1 (bs.free b o eb n 's') 's'
 .obtain ⟨o1,e1⟩:=bs.there b o eb 's';by_cases nb:b∈frs X.stack
  .obtain ⟨sl,e2⟩:=slotK b nb o1 e1;exact⟨_,e2⟩
  .obtain ⟨o2,e2⟩:=un.there b o1 e1 's';exact⟨o2,kept b o2 e2 nb (.inl ⟨o1,e1⟩)⟩
 .obtain ⟨m1,e1⟩:=bs.tbls b ps q;obtain⟨m2,e2⟩:=un.tbls b _ e1;exact⟨m1++m2,by rw[e2,Array.append_assoc]⟩
 .rw [xP,xw];refine (ok' b u eb).stay (fun c v hc e1=>?_) (fun _ z=>z) fun _ _ z=>z;rcases hc with rfl | hc
  .exact kept c v e1 (trk c u eb) (.inr ⟨u,eb⟩)
  .exact kept c v e1 (trk c _ hc) (.inr ⟨_,hc⟩)
 .rcases c with⟨o0,e0⟩ | ⟨u,eu⟩
  .have nb2:=oldnf b o0 e0 nb;obtain⟨o1,e1⟩:=bs.there b o0 e0 's';obtain⟨o2,e2⟩:=un.there b o1 e1 's';have:=kept b o2 e2 nb2 (.inl ⟨o1,e1⟩);rw[eb] at this;cases this;exact cov b o e2 nb2 (.inl ⟨o1,e1⟩)
  .have nb2:=trk b u eu;obtain⟨o2,e2⟩:=(ok' b u eu).has;have:=kept b o2 e2 nb2 (.inr ⟨u,eu⟩);rw[eb] at this;cases this;exact cov b o e2 nb2 (.inr ⟨u,eu⟩)
end
end L2
namespace L2
open W
end L2
namespace L2
open W
end L2
namespace L2
end L2
namespace L2
variable {slice:Expr}
def qpt (i:Expr):Prop:=∀ ov iv,subscripted i false ov iv=operate [ov,iv] (getItem ov iv)
theorem qfM {id:String}{Q:Value->Shared->Prop}
  (hl:typeLookup (.type T) "__getitem__" = pure (some (.builtin id))) (hs:qpt slice)
  (h:wpAny 'm' A (eval value env) (fun o sa1=>wpAny 'm' A (eval slice env) (fun i sa2=>sa2.TypeIs o T/\wpAny 'm' A (getItem o i) Q E sa2) E sa1) E s) :
  wpAny 'm' A (eval (.Subscript value slice pos) env) Q E s:=by
 refine Subscript_ (qN h (fun o sa1 hd1=>qN hd1 (fun i sa2 ha2=>?_) fun _ _ x=>x) fun _ _ x=>x);obtain⟨hT,ha2⟩:=ha2;unfold subscriptTail;refine qa ?_;rw[getitemInPython_of_ne hT.not_modules];refine qa (wpAny_specialOf hT hl ?_);have fin:wpAny 'm' A (subscripted slice false o i) (fun r sa3=>wpAny 'm' A (letTemporaryGo value o r >>= fun _=>pure r) Q E sa3) E sa2:=by
  rw[hs o i];exact wpAny_operating (qN ha2 (fun r sa3 ha3=>qa (wpAny_letTemporaryGo (qf ha3))) fun _ _ x=>x)
 first
  | exact qf (qa fin)
  | exact qa (qf (qa fin))
  | exact qa fin
theorem qdD {y:V}{o:Option V}(I:Inv X Oa G H s) (g:qjL H a y o):s.TypeIs (.ref a) "dict" := by
 rcases g with⟨kvs,k,e,_,_⟩ | ⟨kvs,k,b,e,_,_,_⟩
 .obtain ⟨_,_,vs,_,dd⟩:=qjo I.hok e;exact dd.typeIs
 .obtain ⟨_,_,xs,_,dd⟩:=qjj I.hok e;exact dd.typeIs
def tDGet (td ty:TE):TE:=fun G H Q=>td G H fun x H1=>ty G H1 fun y H2=>∃ a v,x = .ref a/\qjL H2 a y (some v)/\Q v H2
theorem qjp (h:Heap) (hb:sysModules<h.objs.size):jB P w H (h.push { cls:=.type "dict",data:=.dict #[] }) h.objs.size (.dK []) :=
 ⟨yj _,beq_eq_false_iff_ne.mpr (Ne.symm (qt hb)),[],.nil,Heap.DictOf.new h⟩
def qnh:TE:=fun _ H Q=>∀ p,H p=none->Q (.ref p) (upd H p (.dK []))
section
variable {i e:Expr}
theorem qlr (hu:X.A.units+1<cLine) (ho:PE X o td) (hi:PE X i ty) (hs:qpt i):PE X (.Subscript o i pos) (tDGet td ty):=by
 intro Oa s G H Q I h;refine qfM PySem.F.slot_dict_getitem.lookup hs (thn (ho Oa s G H _ I h) fun u s1 ⟨x,H1,I1,rx,q1⟩=>thn (hi Oa s1 G H1 _ I1 q1) fun iv s2 ⟨y,H2,I2,ry,a,v,ex,g,q2⟩=>?_);subst ex;obtain rfl:u=Value.ref a:=rx;exact⟨qdD I2 g,qhC hu I2 g ry fun w' s3 I3 rw'=>⟨v,H2,I3,rw',q2⟩⟩
theorem qiK:PE X (.Dict [] [] pos) qnh:=fun Oa s G H Q I h =>
 wpAny_Dict_empty ⟨.ref s.heap.objs.size,_,I.laid (a:=s.heap.objs.size) (o:=.dK []) (t':=s.toks) (fun _ _ q=>qd _ q) (qk _) (qjp s.heap I.big),rfl,h _ (I.hok.fresh (qk _))⟩
end
end L2
namespace L2
open W SetTable
section
variable {o:Obj}{es:Array (Int×Value)}{t:SetTable}
end
end L2
namespace L2
open W SetTable
section
variable {P:Nat->Value->Prop}{St:Nat->Shared->Prop}
end
end L2
namespace L2
end L2
namespace L2
open W
section
variable {d:Addr}{es:Array DictEntry}
end
end L2
namespace L2
open W
theorem RelM.sub (M:RelM K U H) (s:U'.Sublist U):RelM K U' H/\yr (mask U H) (mask U' H):=by
 have ss:yr (mask U H) (mask U' H):=qeo fun a ha=>(s.map Prod.fst).subset ha;exact⟨⟨(s.map Prod.fst).nodup M.nd,fun a o h=>(M.ob a o (s.subset h)).same ss rfl⟩,ss⟩
theorem Wk.sub (s:U'.Sublist U):Wk Y U Y U':=fun K G H a M=>by
 obtain⟨M',ss⟩:=M.sub s;exact⟨a.same ss,M',ss⟩
end L2
namespace L2
section
variable {k:Nat}{C0:Addr}{pre:List En->Mu->Prop}
def yW (K:W.Frag) (C0:Addr) (pre:List En->Mu->Prop):Sp:=fun vs H Q E=>∃ U es,RelM K U H/\Paired (IsE K U H) vs es/\pre es U/\∀ H',RelM K U H'->yr (mask U H) (mask U H')->E (.ref C0) none H'
theorem YR {E:XK}(hS:RelS K Y U G H) (M:RelM K U H) (ht:tr Y U fun es U'=>U'=U/\pre es U) (kE:∀ H',RelM K U H'->yr (mask U H) (mask U H')->E (.ref C0) none H'):upA K tr G H fun vs H2=>yW K C0 pre (vs++[]) H2 Q E:=by
 refine⟨Y,U,_,hS,M,ht,?_⟩;rintro es U' vs H' ⟨rfl,hp⟩ M' s' i';exact⟨_,es,M',by rw[j8];exact i',hp,fun H2 M2 s2=>kE H2 M2 (s'.trans s2)⟩
theorem qgY {E:XK}{e:En}(hv:∀ H',yr (mask U H) (mask U H')->IsE K U H' v e) (hS:RelS K Y U G H) (M:RelM K U H) (ht:tr Y U fun es U'=>U'=U/\pre (e::es) U) (kE:∀ H',RelM K U H'->yr (mask U H) (mask U H')->E (.ref C0) none H'):upA K tr G H fun vs H2=>yW K C0 pre (v::vs++[]) H2 Q E:=by
 refine⟨Y,U,_,hS,M,ht,?_⟩;rintro es U' vs H' ⟨rfl,hp⟩ M' s' i';exact⟨_,e::es,M',by rw[j8];exact .cons (hv H' s') i',hp,fun H2 M2 s2=>kE H2 M2 (s'.trans s2)⟩
theorem JJ (e0:En) (hS:RelS K Y U G H) (M:RelM K U H) (ht:te Y U fun e U'=>U'=U/\e=e0) (kk:∀ v H',RelM K U H'->yr (mask U H) (mask U H')->IsE K U H' v e0->Q v H'):up K te G H Q:=by
 refine⟨Y,U,_,hS,M,ht,?_⟩;rintro e U' v H' ⟨rfl,rfl⟩ M' s' i';exact kk v H' M' s' i'
theorem YX {Q:Bool->Hp->Prop}(b0:Bool) (hS:RelS K Y U G H) (M:RelM K U H) (ht:tt Y U fun b U'=>U'=U/\b=b0) (kk:∀ H',RelM K U H'->yr (mask U H) (mask U H')->Q b0 H'):upT K tt G H Q:=by
 refine⟨Y,U,_,hS,M,ht,?_⟩;rintro b U' H' ⟨rfl,rfl⟩ M' s';exact kk H' M' s'
theorem qlc {es:List En}(n:Nat) (h:Paired (IsE K U H) vs es):RelS K (es.map some++List.replicate n none) U (vs.map some++List.replicate n none) H:=by
 have:=Paired.mapSome (K:=K) h (vs.length+n) (es.length+n) 'l';simpa using this
theorem yQ.l {m:Str}(O:yQ P w K mg base CX k C m ps (Zi sp sp')):yQ P w K mg base CX k C m ps sp:=by
 obtain⟨f,fd,F,r⟩:=O;exact⟨f,fd,F.imp fun _ _ _ _ h=>.inl h,r⟩
theorem yQ.r {m:Str}(O:yQ P w K mg base CX k C m ps (Zi sp sp')):yQ P w K mg base CX k C m ps sp':=by
 obtain⟨f,fd,F,r⟩:=O;exact⟨f,fd,F.imp fun _ _ _ _ h=>.inr h,r⟩
end
end L2
namespace L2
end L2
namespace L2
variable {ts:List TEd}
section
def qj3:R2d:=fun x y U Q=>match x,y with
 | .d (.str i),.d (.str j)=>(i++j).length<=800000/\Q (.d (.str (i++j))) U
 | _,_=>False
theorem qI (i j:Str):(i++j).length=i.length+j.length:=strLen_append i j
theorem jo:OpR X (binaryOp .Add) (upR K qj3):=qeY.mono fun x y H Q h=>by
 obtain⟨U,e,e',Q0,M,i1,i2,q,cl⟩:=h;unfold qj3 at q;split at q
 .cases i1;cases i2
  refine⟨_,_,rfl,rfl,?_,cl _ U _ H q.2 M (yr.refl _) (.str _)⟩;rw[<- qI,sizeLine_eq];lia
 .exact q.elim
def dFmt (t:TEd):TEd:=fun Y U Q=>t Y U fun x U1=>match x with
 | .d (.int i)=>i.natAbs.log2<1920/\Q (.d (.str (toString i))) U1
 | _=>False
theorem qhD {e:Expr}{t:TEd}(h:DE K X e t):DE K X (.FormattedValue e (-1) none pos) (dFmt t):=by
 intro Oa s G H Q I ⟨Y,U,Q0,hS,hM,q,cl⟩;refine FormattedValue_plain (qN (h Oa s G H _ I ⟨Y,U,_,hS,hM,q,fun x U1 v H1 q1 M1 s1 i1=>(⟨x,U1,q1,M1,s1,i1⟩:∃ x U1,(match x with | .d (.int i)=>i.natAbs.log2<1920/\Q0 (.d (.str (toString i))) U1 | _=>False)/\RelM K U1 H1/\yr (mask U H) (mask U1 H1)/\IsE K U1 H1 v x)⟩) (fun u s1 ⟨v,H1,I1,r1,x,U1,q1,M1,ss,i1⟩=>?_) fun _ _ z=>z);split at q1
 .cases i1
  obtain⟨t,rfl⟩:=r1;exact formatField_int_small q1.1 ⟨.str _,H1,I1.tok _,⟨_,rfl⟩,cl _ U1 _ H1 q1.2 M1 ss (.str _)⟩
 .exact q1.elim
def qjv:List TEd->Str->TEd
 | [],out=>fun _ U Q=>out.length<=4000/\Q (.d (.str out)) U
 | t::ts,out=>fun Y U Q=>t Y U fun x U1=>match x with
  | .d (.str y)=>(out++y).length<=4000/\qjv ts (out++y) Y U1 Q
  | _=>False
def DJ (K:W.Frag) (X:Cx) (es:List Expr) (ts:List TEd):Prop:=∀ (out:Str) Oa s G H (Q:VK),Inv X Oa G H s->up K (qjv ts out) G H Q →
 wpAny 'M' X.A (joinParts out (evalEach es X.env)) (EP X Oa G Q) X.xe s
theorem qks:DJ K X [] []:=fun out Oa s G H Q I ⟨Y,U,Q0,hS,hM,q,cl⟩ =>
 joinParts_nil ⟨.str _,H,I.tok _,⟨_,rfl⟩,cl _ U _ H q.2 hM (yr.refl _) (.str _)⟩ (by rw[sizeLine_eq];have:=q.1;lia)
theorem Yt {e:Expr}{t:TEd}(h:DE K X e t) (hs:DJ K X es ts):DJ K X (e::es) (t::ts):=by
 intro out Oa s G H Q I ⟨Y,U,Q0,hS,hM,q,cl⟩;show wpAny _ _ (joinParts out (eval e X.env::evalEach es X.env)) _ _ s;refine joinParts_cons (qN (h Oa s G H _ I ⟨Y,U,_,hS,hM,q,fun x U1 v H1 q1 M1 s1 i1=>(⟨x,U1,q1,M1,s1,i1⟩:∃ x U1,(match x with | .d (.str y)=>(out++y).length<=4000/\qjv ts (out++y) Y U1 Q0 | _=>False)/\RelM K U1 H1/\yr (mask U H) (mask U1 H1)/\IsE K U1 H1 v x)⟩) (fun u s1 ⟨v,H1,I1,r1,x,U1,q1,M1,ss,i1⟩=>?_) fun _ _ z=>z);split at q1
 .rename_i y
  cases i1
  obtain⟨tk,rfl⟩:=r1;exact⟨by rw[sizeLine_eq];have:=q1.1;lia,hs _ Oa s1 G H1 Q I1 ⟨Y,U1,Q0,hS.same ss,M1,q1.2,cl.same ss⟩⟩
 .exact q1.elim
theorem qkx {v1 v2:Expr}{rest:List Expr}(h:DJ K X (v1::v2::rest) ts):DE K X (.JoinedStr (v1::v2::rest) pos) (qjv ts Str.empty):=fun Oa s G H Q I q=>JoinedStr_many (h _ Oa s G H Q I q)
theorem qhN:je X (.type "int") (fun xs H Q=>∃ x n,xs=[.str x]/\intText? x=some n/\x.length<=640/\Q (.int n) H):=by
 intro Oa s G H xs us Q I r h;obtain⟨x,n,rfl,hn,hl,q⟩:=h;obtain⟨u,rfl,t,rfl⟩:=Yh r;exact W.KIN.call_text hn hl ⟨.int n,H,I.tok _,⟨_,rfl⟩,q⟩
def qj2:RAd:=fun es U Q=>match es with
 | [.d (.str x)]=>∃ n,intText? x=some n/\x.length<=640/\Q (.d (.int n)) U
 | _=>False
theorem qmp:je X (.type "int") (upC K qj2):=qhN.mono fun xs H Q h=>by
 obtain⟨U,es,Q0,M,i1,q,cl⟩:=h;unfold qj2 at q;split at q
 .obtain ⟨n,h1,h2,q⟩:=q;obtain⟨v,rfl,i⟩:=JN i1;cases i
  exact⟨_,n,rfl,h1,h2,cl _ U _ H q M (yr.refl _) (.int _)⟩
 .exact q.elim
def qjZ:RAd:=fun es U Q=>match es with
 | [.d (.int i)]=>i.natAbs.log2<1920/\Q (.d (.str (toString i))) U
 | _=>False
theorem qdG:je X (.type "str") (upC K qjZ):=qcO.mono fun xs H Q h=>by
 obtain⟨U,es,Q0,M,i1,q,cl⟩:=h;unfold qjZ at q;split at q
 .obtain ⟨v,rfl,i⟩:=JN i1;cases i
  exact⟨_,rfl,q.1,cl _ U _ H q.2 M (yr.refl _) (.str _)⟩
 .exact q.elim
def rSplit:V->List V->Hp->VK->Prop:=fun x vs H Q=>∃ z m:Str,x = .str z/\vs=[.str m]/\(m.length == 0)=false/\z.length<=800000/\(Txt.split z m).length<=800000/\∀ p,H p=none->Q (.ref p) (upd H p (.lst ((Txt.split z m).map V.str)))
theorem qb3:∀ {l:List (Str×Tok)},yM ((l.map (·.1)).map V.str) (strValues l)
 | []=>.nil
 | (x,t)::l=>.cons ⟨t,rfl⟩ qb3
theorem qbB:MtR X "str.split" rSplit:=by
 intro Oa s G H x xs v us Q I rx rs h;obtain⟨z,m,rfl,rfl,hy,hz,hn,q⟩:=h;obtain⟨t,rfl⟩:=rx;obtain⟨u,rfl,t',rfl⟩:=Yh rs;have fin:∀ (l:List (Str×Tok)) (tk:Nat),l.map (·.1)=Txt.split z m->EP X Oa G Q (.ref s.heap.objs.size) { s with heap:=s.heap.push { cls:=.type "list",data:=.seq (strValues l).toArray },toks:=tk }:=fun l tk hl=>by
  have hv:yM ((Txt.split z m).map V.str) (strValues l):=hl ▸ qb3;have hk:((Txt.split z m).map V.str).length<=sizeLine:=by rw[qc,sizeLine_eq];lia
  refine⟨.ref s.heap.objs.size,_,I.laid (t':=tk) (o:=.lst ((Txt.split z m).map V.str)) (fun b ob e=>qd _ e) (qk _) ?_,rfl,q _ (I.hok.fresh (qk _))⟩;exact⟨hk,strValues l,_,hv,qD _ rfl⟩
 have hx:z.length<=sizeLine:=by rw[sizeLine_eq];lia
 cases h1:(decide (z.length<m.length) || decide (Builtin.Str.strKind z<Builtin.Str.strKind m))
 .cases hf:(Builtin.Str.occurrences z m 0 z.length (z.length+1)).isEmpty
  .have es:Txt.split z m=Builtin.Str.partsBetween z (Builtin.Str.occurrences z m 0 z.length (z.length+1)) m.length:=(if_neg (ne_true_of_eq_false h1)).trans (if_neg (ne_true_of_eq_false hf));refine call_meets F.slot_str_split (typeIs_str _ _ _) F.entry_str_split (F.args_str_split_2 _ _) (meets_str_split_sep z m t t' h1 hy hf hx (by rw[<- es,sizeLine_eq];lia)) ?_;show EP X Oa G Q (.ref s.heap.objs.size) { s with toks:=_,heap:=s.heap.push { cls:=.type "list",data:=.seq (strsFrom s.toks (Builtin.Str.partsBetween z (Builtin.Str.occurrences z m 0 z.length (z.length+1)) m.length)).toArray } };rw[strsFrom_eq];exact fin (numbered s.toks _) _ ((numbered_texts _ _).trans es.symm)
  .exact call_meets F.slot_str_split (typeIs_str _ _ _) F.entry_str_split (F.args_str_split_2 _ _) (meets_str_split_not_found z m t t' h1 hy hf) (fin [(z,t)] _ ((if_neg (ne_true_of_eq_false h1)).trans (if_pos hf)).symm)
 .exact call_meets F.slot_str_split (typeIs_str _ _ _) F.entry_str_split (F.args_str_split_2 _ _) (meets_str_split_cannot_occur z m t t' h1) (fin [(z,t)] _ (if_pos h1).symm)
def qo6 (to:TEd) (tr:TAd):TEd:=fun Y U Q=>to Y U fun x U1=>match x with
 | .d (.str z)=>tr Y U1 fun es U2=>match es with
  | [.d (.str m)]=>(m.length == 0)=false/\z.length<=800000/\(Txt.split z m).length<=4000/\Q (.d (.list ((Txt.split z m).map .str))) U2
  | _=>False
 | _=>False
theorem qa9 : ∀ (l:List Str),IsAll K H (l.map V.str) (l.map PyData.str)
 | []=>.nil
 | x::l=>.cons (.str x) (qa9 l)
theorem qfN : ∀ {vs:List V}{ys:List Str},IsAll K H vs (ys.map PyData.str)->vs=ys.map V.str
 | _,[],.nil=>rfl
 | _,_::_,.cons h t=>by cases h;rw[qfN t];rfl
variable {e:Expr}
theorem qdH (ho:DE K X o to) (ha:DA K X [e] tr) (hK:X.K=K:=by rfl)
  (h:PE X o (up K to)->PA X [e] (upA K tr)->PE X (.Call (.Attribute o "split" p1) [e] [] pos) (tBM X.K "str" rSplit (up K to) (upA K tr))):DE K X (.Call (.Attribute o "split" p1) [e] [] pos) (qo6 to tr):=by
 subst hK;refine PE.mono (h ho ha) fun G H Q Oc=>?_;obtain⟨Y,U,Q0,hS,hM,h,cl⟩:=Oc;refine⟨Y,U,_,hS,hM,h,fun x U1 v H1 q M1 s1 i1=>?_⟩;split at q
 .rename_i z
  cases i1
  refine⟨rfl,Y,U1,_,hS.same s1,M1,q,fun es U2 vs H2 q2 M2 s2 i2=>?_⟩;split at q2
  .rename_i m
   obtain⟨v,rfl,h1⟩:=JN i2;cases h1
   refine⟨z,m,rfl,rfl,q2.1,q2.2.1,by have:=q2.2.2.1;lia,fun p hp=>?_⟩;obtain⟨M3,s3,hn⟩:=M2.laid (o:=.lst ((Txt.split z m).map V.str)) hp;exact cl _ U2 _ _ q2.2.2.2 M3 ((s1.trans s2).trans s3) (.lst (SqL.of (by rw[yN hn];exact yg)) (qa9 _))
  .exact q2.elim
 .exact q.elim
def qj4 (K:W.Frag):V->List V->Hp->VK->Prop:=fun x vs H Q=>∃ (z:Str) (l:Addr) (ys:List Str),x = .str z/\vs=[.ref l]/\SqL K H l (ys.map V.str)/\(ys.map (·.length)).sum+ys.length * z.length<=16777216/\Q (.str (Txt.join z ys)) H
theorem qbC:MtR X "str.join" (qj4 X.K):=by
 intro Oa s G H x xs v us Q I rx rs h;obtain⟨z,l,ys,rfl,rfl,hq,hz,q⟩:=h;obtain⟨t,rfl⟩:=rx;obtain⟨u,rfl,ru⟩:=Yh rs;cases ru
 obtain⟨its,rv,pl,_⟩:=I.list hq;exact join_list pl.isList (by simpa using qeO rv) hz fun t' k=>⟨.str _,H,I.tok _,⟨_,rfl⟩,q⟩
def dJn (to:TEd) (tr:TAd):TEd:=fun Y U Q=>to Y U fun x U1=>match x with
 | .d (.str z)=>tr Y U1 fun es U2=>match es with
  | [e]=>∃ ys:List Str,LstOf U2 e (ys.map .str)/\(ys.map (·.length)).sum+ys.length * z.length<=800000/\Q (.d (.str (Str.join z ys))) U2
  | _=>False
 | _=>False
theorem qhA (ho:DE K X o to) (ha:DA K X [e] tr) (hK:X.K=K:=by rfl)
  (h:PE X o (up K to)->PA X [e] (upA K tr)->PE X (.Call (.Attribute o "join" p1) [e] [] pos) (tBM X.K "str" (qj4 X.K) (up K to) (upA K tr))):DE K X (.Call (.Attribute o "join" p1) [e] [] pos) (dJn to tr):=by
 subst hK;refine PE.mono (h ho ha) fun G H Q Oc=>?_;obtain⟨Y,U,Q0,hS,hM,h,cl⟩:=Oc;refine⟨Y,U,_,hS,hM,h,fun x U1 v H1 q M1 s1 i1=>?_⟩;split at q
 .rename_i z
  cases i1
  refine⟨rfl,Y,U1,_,hS.same s1,M1,q,fun es U2 vs H2 q2 M2 s2 i2=>?_⟩;split at q2
  .obtain ⟨ys,hl,hz,q2⟩:=q2;obtain⟨v,rfl,h1⟩:=JN i2;obtain⟨p,xs,rfl,hq,hA⟩:=hl.get M2 h1;have:=qfN hA;subst this;refine⟨z,p,ys,rfl,rfl,hq,'l',?_⟩;have e:Txt.join z ys=Str.join z ys:=StrLaws.glued_eq_join z ys;rw[e];exact cl _ U2 _ _ q2 M2 (s1.trans s2) (.str _)
  .exact q2.elim
 .exact q.elim
end
end L2
namespace L2
open StrLaws Builtin.Str
variable {c:Nat}
abbrev cl (x:Str):List Nat:=x.cps.toList
theorem YL (x:Str):(cl x).length=x.length:=qy
theorem Ye (x y:Str):cl (x++y)=cl x++cl y:=W.KT.app_list x y
theorem qcM (h:cl x=cl y):x=y:=ext_toList h
theorem qcL (x:Str) (i j:Nat):cl (strSub x i j)=((cl x).drop i).take (j - i):=by
 show (x.cps.extract i j).toList=_;rw[jZ,jd]
theorem qkG {k:Nat}:At x y x.length k ↔ k+y.length<=x.length/\((cl x).drop k).take y.length=cl y:=by
 unfold At subAt;rw[beq_iff_eq];refine and_congr_right fun _=>⟨fun h=>?_,fun h=>?_⟩
 .have:=qcL x k (k+y.length);rw[show strSub x k (k+y.length)=y from congrArg Str.mk h,Nat.add_sub_cancel_left] at this;exact this.symm
 .have:=qcL x k (k+y.length);rw[Nat.add_sub_cancel_left,h] at this;exact congrArg Str.cps (qcM this)
theorem qhS {k:Nat}(hy:(cl y)[0]?=some c) (h:At x y x.length k):(cl x)[k]?=some c:=by
 have h2:=(qkG.mp h).2;have:(((cl x).drop k).take y.length)[0]?=some c:=by rw[h2];exact hy
 rw[List.getElem?_take] at this;split at this
 .rw [List.getElem?_drop] at this;simpa using this
 .cases this
theorem qa5 (hy:(cl y)[0]?=some c):∀ (ws:List Str) (pre:List Nat),ws≠[]->(∀ w∈ws,c∉cl w)->cl x=pre++cl (Str.join y ws) →
  ∀ cuts f,ChainG x y x.length pre.length cuts f->(∀ k,f<=k->¬ At x y x.length k)->partsFrom x y.length pre.length cuts=ws
 | [],_,h,_,_,_,_,_,_=>absurd rfl h
 | [w],pre,_,hw,hx,cuts,f,hc,hf=>by
  have hx:cl x=pre++cl w:=hx;have no:∀ k,pre.length<=k->¬ At x y x.length k:=fun k hk ha=>by
   have:=qhS hy ha;rw[hx,yb hk] at this;exact hw w 's' (List.mem_of_getElem? this)
  cases cuts with
  | cons c0 r=>exact absurd hc.2.1 (no c0 hc.1)
  | nil =>
   show [strSub x pre.length x.length]=[w];refine congrArg (fun z=>[z]) (qcM ?_);rw[qcL,hx,List.drop_left];exact y8 (by have:=YL x;rw[hx,qr] at this;lia)
 | w::w2::r,pre,_,hw,hx,cuts,f,hc,hf=>by
  have hj:cl (Str.join y (w::w2::r))=cl w++(cl y++cl (Str.join y (w2::r))):=by
   show cl (w++y++Str.join y (w2::r))=_;rw[Ye,Ye,qm]
  rw[hj] at hx;have hl:=YL x;have hly:=YL y;have yes:At x y x.length (pre.length+(cl w).length):=qkG.mpr ⟨by
   rw[hx] at hl;simp only[qr] at hl;lia,by
   rw[hx,<- qm,show pre.length+(cl w).length=(pre++cl w).length from by simp,List.drop_left,<- hly,List.take_left]⟩
  have no:∀ k,pre.length<=k->k<pre.length+(cl w).length->¬ At x y x.length k:=fun k hk hk2 ha=>by
   have:=qhS hy ha;rw[hx,yb hk,qV 'l'] at this;exact hw w 's' (List.mem_of_getElem? this)
  cases cuts with
  | nil =>
   have e:f=pre.length:=hc;exact absurd yes (hf _ 'l')
  | cons c0 cs =>
   obtain⟨h1,h2,h3,h4⟩:=hc;have e:c0=pre.length+(cl w).length:=by
    by_cases hlt:c0<pre.length+(cl w).length
    .exact absurd h2 (no c0 h1 hlt)
    .by_cases hgt:pre.length+(cl w).length<c0
     .exact absurd yes (h3 _ 'l' hgt)
     .lia
   subst e;have ih:=qa5 hy (w2::r) (pre++cl w++cl y) 's' (fun z hz=>hw z (qe _ hz)) (by rw[hx];simp) cs f (by
    have:(pre++cl w++cl y).length=pre.length+(cl w).length+y.length:=by simp only[qr];lia
    rw[this];exact h4) hf
   show strSub x pre.length (pre.length+(cl w).length)::partsFrom x y.length (pre.length+(cl w).length+y.length) cs=_;have e2:(pre++cl w++cl y).length=pre.length+(cl w).length+y.length:=by simp only[qr];lia
   rw[<- e2,ih];refine congrArg (fun z=>z::w2::r) (qcM ?_);rw[qcL,hx,List.drop_left,Nat.add_sub_cancel_left,List.take_left]
theorem YA (hy:(cl y)[0]?=some c) (hk:strKind y=1) (hne:ws≠[]) (hw:∀ w∈ws,c∉cl w):Txt.split (Str.join y ws) y=ws:=by
 have hy1:1<=y.length:=by
  rw[<- YL];have:=(qC.mp hy).1;lia
 obtain⟨f,hG,hn⟩:=occ_tight (Str.join y ws) y hy1;have hp:=qa5 hy ws [] hne hw rfl _ f hG hn;unfold Txt.split;split
 .rename_i h
  rw[Bool.or_eq_true,decide_eq_true_eq,decide_eq_true_eq] at h;rcases h with h | h
  .match ws,hne with
   | [w],_=>rfl
   | w::w2::r,_ =>
    exfalso;have:(Str.join y (w::w2::r)).length=w.length+y.length+(Str.join y (w2::r)).length:=by
     show (w++y++Str.join y (w2::r)).length=_;rw[qI,qI]
    lia
  .rw [hk] at h;exact absurd h (by unfold Builtin.Str.strKind;split <;> (try split) <;> lia)
 .split
  .rename_i h1 h2
   rw[List.isEmpty_iff.mp h2] at hp;refine Eq.trans ?_ hp;show [_]=[strSub _ 0 _];rw[show strSub (Str.join y ws) 0 (Str.join y ws).length=Str.join y ws from qcM (by rw[qcL,List.drop_zero];exact y8 (by rw[YL];lia))]
  .rw [partsBetween_eq];exact hp
abbrev sN (n:Int):Str:=Str.ofString (toString n)
theorem Yl (m:Nat):cl (sN (m:Nat))=(Nat.toDigits 10 m).map Char.toNat:=W.KIN.signs_num m
theorem qf3 (m:Nat):cl (sN (-((m+1:Nat):Int)))=45::(Nat.toDigits 10 (m+1)).map Char.toNat:=by
 show cl (Str.ofString (toString (Int.negSucc m)))=_;rw[show toString (Int.negSucc m) = "-" ++ Nat.repr (m+1) from rfl];show (Str.ofString _).cps.toList=_;rw[signs_ofString,String.toList_append,ye,Nat.toList_repr];rfl
theorem qbf (m:Nat):∀ c∈(Nat.toDigits 10 m).map Char.toNat,48<=c/\c<=57:=fun c hc=>by
 obtain⟨ch,hch,rfl⟩:=qu.mp hc;exact digit_range (Nat.isDigit_of_mem_toDigits 'd' 'd' hch)
theorem Jj (n:Int):∀ c∈cl (sN n),c=45\/(48<=c/\c<=57):=by
 intro c hc;obtain⟨m,rfl | rfl⟩:=Int.eq_nat_or_neg n
 .rw [Yl] at hc;exact .inr (qbf m c hc)
 .cases m with
  | zero=>rw[show (-((0:Nat):Int))=((0:Nat):Int) from rfl,Yl] at hc;exact .inr (qbf 0 c hc)
  | succ m =>
   rw[qf3] at hc;rcases qF.mp hc with rfl | hc
   .exact .inl rfl
   .exact .inr (qbf _ c hc)
theorem qdC {k:Nat}(hk:0<k) (h:m<10 ^ k):((Nat.toDigits 10 m).map Char.toNat).length<=k:=by
 have:=toString_length_le (v:=(m:Int)) 'l' hk (by exact_mod_cast h);rw[<- YL,Yl] at this;exact this
theorem qnv {n:Int}{k:Nat}(hk:0<k) (h:n.natAbs<10 ^ k):(sN n).length<=k+1:=by
 rw[<- YL];obtain⟨m,rfl | rfl⟩:=Int.eq_nat_or_neg n
 .rw [Yl];have:=qdC hk (m:=m) (by simpa using h);lia
 .cases m with
  | zero=>rw[show (-((0:Nat):Int))=((0:Nat):Int) from rfl,Yl];have:=qdC hk (m:=0) (by simpa using h);lia
  | succ m=>rw[qf3];have:=qdC hk (m:=m+1) (by rw[Int.natAbs_neg] at h;exact h);simp only[qU];lia
theorem qhu (m:Nat):(Nat.toDigits 10 m).map Char.toNat≠[]:=fun e=>by
 have h:=toDigits_len_ge 10 m;rw[List.map_eq_nil_iff.mp e] at h;exact absurd h 'd'
theorem qip {n:Int}(hl:(sN n).length<=640):intText? (sN n)=some n:=by
 obtain⟨m,rfl | rfl⟩:=Int.eq_nat_or_neg n
 .have:=PySem.intText_digits (x:=sN (m:Nat)) (by rw[show (sN (m:Nat)).cps.toList=_ from Yl m];exact qbf m) (by rw[show (sN (m:Nat)).cps.toList=_ from Yl m];exact qhu m) 'l';rw[show (sN (m:Nat)).cps.toList=_ from Yl m,W.KIN.val_back] at this;exact this
 .cases m with
  | zero =>
   have:=PySem.intText_digits (x:=sN (0:Nat)) (by rw[show (sN (0:Nat)).cps.toList=_ from Yl 0];exact qbf 0) (by rw[show (sN (0:Nat)).cps.toList=_ from Yl 0];exact qhu 0) (by exact qz hl 'd');rw[show (sN (0:Nat)).cps.toList=_ from Yl 0,W.KIN.val_back] at this;exact this
  | succ m =>
   have:=PySem.intText_neg (x:=sN (-((m+1:Nat):Int))) (qf3 m) (qbf _) (qhu _) 'l';rw[W.KIN.val_back] at this;exact this
end L2
namespace L2
variable {suite:List Stmt}
def tTryU (K:W.Frag) (c0:Value) (n:Nat) (tb:XK->TS) (ts:TS):TS:=fun D G H=>tb (fun cls _ H'=>W.exmOne K cls c0=some true/\∀ ea,H' ea=none->ts D (qjE n) (upd H' ea (qoO ea cls))) D G H
theorem qge {ba0:Stmt}{cx:Str}{np hpos:Pos}{c0:Value}{k:Nat}{tb:XK->TS}{ts:TS}
  (hst:X.stack=X.env::X.outer) (hfr:X.env.frame=some X.env.locals) (hk:X.N.length=k) (hg:Gl X cx) (hm:X.mg cx=some c0)
  (hb:∀ (E:XK) (pn:List (Addr×Obj)) (xe:Value->Shared->Prop),Yg (XC X.prog X.w) (qc7 X pn xe) E->PSs (qc7 X pn xe) body (tb E))
  (hs:∀ ea,PSs (qfL X ea) (ba0::suite) ts) (hdb:(cx == ("__debug__" : Str))=false:=by decide) :
  PS X (.Try body [.ExceptHandler (some (.Name cx np)) none (ba0::suite) hpos] [] [] pos) (tTryU X.K c0 k tb ts):=by
 intro Oa s G H D I h;refine wpAny_Try_except (qN (hb _ (X.pn++Oa) (fun e s'=>∃ G1 H1 s1,Inv X Oa G1 H1 s1/\XC X.prog X.w X.stack H1 s1 _ e s') (fun pl G1 H1 s1 e s' J q=>⟨G1,H1,s1,J.untry,q⟩) [] s G H D I.tryC h) (fun f s1 q=>?_) (fun e s' q=>?_))
 .cases f with
  | next=>obtain⟨G1,H1,J,q⟩:=q;exact wpAny_execs_nil ⟨G1,H1,J.untry,q⟩
  | brk=>obtain⟨G1,H1,J,q⟩:=q;exact⟨G1,H1,J.untry,q⟩
  | cont=>obtain⟨G1,H1,J,q⟩:=q;exact⟨G1,H1,J.untry,q⟩
  | ret u=>obtain⟨v,G1,H1,J,r,q⟩:=q;exact⟨v,G1,H1,J.untry,r,q⟩
 .obtain ⟨G1,H1,s1,I1,ea,cls,a0,H',B,rfl,os,bare,un,hok,fl,cov,hn,hex,hE⟩:=q;have fl':=fl;rw[hst] at fl';refine wpAny_looks_onW (by rw[<- hst];exact I1.ok.frames) hfr fl' fun h4 held sm4=>wpAny_landsW held fun h5 fl5 sm5=>?_;have fl5':Heap.FlyingW B X.stack ea cls a0 h5:=by rw[hst];exact fl5
  have J5:=(qey I1 os bare un hok cov hn fl5' fl (sm4.trans sm5)).1;obtain⟨oe,heo,hcls⟩:=fl5.there;have LT:W.Looks 'M' h5 (typeOf (.ref ea)) cls:=hcls ▸ (W.Looks.ld heo).andThen .now;refine wpAny_handleBy_cons (codeAny_handlers_test (Zx (X:=qfL X ea) J5.sufC hg hm ?_ hdb)) (by intro z;cases z);refine (W.exm_one (K:=X.K) J5.kIn LT hex).here ?_;refine codeAny_handlers_suite ?_;refine lands_againW fl5 fun h6 fl6 sm6=>?_;have fl6':Heap.FlyingW B X.stack ea cls a0 h6:=by rw[hst];exact fl6
  have J6:=(qey I1 os bare un hok cov hn fl6' fl ((sm4.trans sm5).trans sm6)).2;have J6b:=J6.weak (G':=qjE k) (by rw[J6.len,hk];simp[qjE]) (fun j v e=>by
   simp only[qjE,ju] at e;split at e <;> cases e)
  refine qN (hs ea Oa _ _ _ _ J6b.sufC (hE ea hn)) (fun f s8 q=>?_) (fun _ _ z=>z.elim);cases f with
  | next=>obtain⟨G8,H8,J8,q⟩:=q;exact⟨_,_,J8.unsuf I1.ok,q⟩
  | brk=>obtain⟨G8,H8,J8,q⟩:=q;exact⟨_,_,J8.unsuf I1.ok,q⟩
  | cont=>obtain⟨G8,H8,J8,q⟩:=q;exact⟨_,_,J8.unsuf I1.ok,q⟩
  | ret u=>obtain⟨v,G8,H8,J8,r,q⟩:=q;exact⟨v,_,_,J8.unsuf I1.ok,r,q⟩
theorem qdg {h0:ExceptHandler}{hs:List ExceptHandler}{t:TS}(hb:∀ pn,PSs (qc7 X pn fun _ _=>False) body t):PS X (.Try body (h0::hs) [] [] pos) t:=by
 intro Oa s G H D I h;refine wpAny_Try_except (qN (hb (X.pn++Oa) [] s G H D I.tryC h) (fun f s1 q=>?_) (fun e s' q=>q.elim));cases f with
 | next=>obtain⟨G1,H1,J,q⟩:=q;exact wpAny_execs_nil ⟨G1,H1,J.untry,q⟩
 | brk=>obtain⟨G1,H1,J,q⟩:=q;exact⟨G1,H1,J.untry,q⟩
 | cont=>obtain⟨G1,H1,J,q⟩:=q;exact⟨G1,H1,J.untry,q⟩
 | ret u=>obtain⟨v,G1,H1,J,r,q⟩:=q;exact⟨v,G1,H1,J.untry,r,q⟩
end L2
namespace L2
def qk2 (ty td:TE):TE:=fun G H Q=>ty G H fun y H1=>td G H1 fun x H2=>∃ a o,x = .ref a/\qjL H2 a y o/\Q (.bl (!o.isSome)) H2
def sDPut (td ty tv:TE):TS:=fun D G H=>tv G H fun v H1=>td G H1 fun x H2=>ty G H2 fun y H3=>∃ a H4,x = .ref a/\qpx H3 a y v H4/\D.nx G H4
section
variable {i e:Expr}
theorem qgr (hu:X.A.units+1<cLine) (hi:PE X i ty) (ho:PE X o td):PC X .NotIn i o (qk2 ty td):=by
 intro Oa s G H Q I h;refine thn (hi Oa s G H _ I h) fun iv s1 Oc=>?_;obtain⟨y,H1,I1,ry,q1⟩:=Oc;refine thn (ho Oa s1 G H1 _ I1 q1) fun u s2 ⟨x,H2,I2,rx,a,ov,ex,g,q2⟩=>?_;subst ex;obtain rfl:u=Value.ref a:=rx;exact qms hu I2 g ry fun s3 I3=>⟨.bl (!ov.isSome),H2,I3,rfl,q2⟩
theorem qdi (hu:X.A.units+1<cLine) (ho:PE X o td) (hi:PE X i ty) (hv:PE X value tv) (hs:swapsWith value (some (.Subscript o i pos')) pos.line X.env=pure false) :
  PS X (.Assign [.Subscript o i pos'] value pos) (sDPut td ty tv):=by
 intro Oa s G H D I h;refine wpAny_Assign_Subscript (thn (hv Oa s G H _ I h) fun r s1 ⟨v,H1,I1,rv,q1⟩=>thn (ho Oa s1 G H1 _ I1 q1) fun u s2 ⟨x,H2,I2,rx,q2⟩=>thn (hi Oa s2 G H2 _ I2 q2) fun iv s3 ⟨y,H3,I3,ry,a,H4,ex,g,q3⟩=>?_) hs;subst ex;obtain rfl:u=Value.ref a:=rx;exact qhy hu I3 g ry rv fun s4 I4=>⟨G,H4,I4,q3⟩
end
end L2
namespace L2
abbrev Nm:=List (Str×PyData)
def j6 (xs:Nm) (k:Str):Option PyData:=(xs.find? fun p=>decide (p.1=k)).map (·.2)
def qdd (xs:Nm) (k:Str) (d:PyData):Nm:=if (xs.any fun p=>decide (p.1=k))=true then xs.map (fun p=>if p.1=k then (p.1,d) else p) else xs++[(k,d)]
theorem qaD {x:Key×V}{y:Str×PyData}{k:Str}(h:NmR K H x y):x.1=Sum.inr k ↔ y.1=k:=by rw[h.1];exact⟨fun e=>Sum.inr.inj e,fun e=>congrArg Sum.inr e⟩
theorem NmR.get:∀ {kvs:List (Key×V)}{xs:Nm},PySem.Paired (NmR K H) kvs xs->∀ k:Str,(∃ v d,qdZ kvs (Sum.inr k)=some v/\j6 xs k=some d/\Is K H v d)\/(qdZ kvs (Sum.inr k)=none/\j6 xs k=none)
 | _,_,.nil,k=>.inr ⟨rfl,rfl⟩
 | x::kvs,y::xs,.cons h t,k=>by
  by_cases e:x.1=Sum.inr k
  .exact .inl ⟨x.2,y.2,ZU e,by simp[j6,j7,(qaD h).mp e],h.2⟩
  .have e2:¬ y.1=k:=fun z=>e ((qaD h).mpr z);rw[ZV e,show j6 (y::xs) k=j6 xs k from by simp[j6,j7,e2]];exact NmR.get t k
theorem NmR.any:∀ {kvs:List (Key×V)}{xs:Nm},PySem.Paired (NmR K H) kvs xs->∀ k:Str,(kvs.any fun kv=>decide (kv.1=(Sum.inr k:Key)))=(xs.any fun p=>decide (p.1=k))
 | _,_,.nil,k=>rfl
 | _,_,.cons h t,k=>by
  rw[List.any_cons,List.any_cons,NmR.any t k];congr 1;exact decide_eq_decide.mpr (qaD h)
theorem NmR.put {kvs:List (Key×V)}{xs:Nm}{k:Str}{d:PyData}(hp:PySem.Paired (NmR K H) kvs xs) (hv:Is K H v d):PySem.Paired (NmR K H) (qee kvs (Sum.inr k) v) (qdd xs k d):=by
 unfold qee qdd;rw[NmR.any hp k];have m:∀ {kvs:List (Key×V)}{xs:Nm},PySem.Paired (NmR K H) kvs xs->PySem.Paired (NmR K H) (kvs.map fun kv=>if kv.1=Sum.inr k then (kv.1,v) else kv) (xs.map fun p=>if p.1=k then (p.1,d) else p):=by
  intro kvs xs h;induction h with
  | nil=>exact .nil
  | @cons x y _ _ h t ih =>
   refine .cons ?_ ih;dsimp only;by_cases e:y.1=k
   .rw [if_pos ((qaD h).mpr e),if_pos e];exact⟨h.1,hv⟩
   .rw [if_neg (fun z=>e ((qaD h).mp z)),if_neg e];exact h
 have a:∀ {kvs:List (Key×V)}{xs:Nm},PySem.Paired (NmR K H) kvs xs->PySem.Paired (NmR K H) (kvs++[(Sum.inr k,v)]) (xs++[(k,d)]):=by
  intro kvs xs h;induction h with
  | nil=>exact .cons ⟨rfl,hv⟩ .nil
  | cons h t ih=>exact .cons h ih
 split
 .exact m hp
 .exact a hp
section
variable {i:Expr}{td ty tv:TEd}
def dNewN:TEd:=fun _ U Q=>∀ p,p∉U.map Prod.fst->Q (.m p) ((p,.nmd [])::U)
theorem qo2:DE K X (.Dict [] [] pos) dNewN:=PE.mono qiK fun G H Q ⟨Y,U,Q0,hS,hM,h,cl⟩ p hp=>by
 obtain⟨_,_,hn⟩:=hM.laid (o:=.dK []) hp;obtain⟨M2,s2⟩:=hM.new (u:=.dK []) (o:=.nmd []) hp fun ss=>⟨[],yg,.nil⟩;exact cl _ _ _ _ (h p hn) M2 s2 rfl
def dGetN (td ty:TEd):TEd:=fun Y U Q=>td Y U fun x U1=>ty Y U1 fun y U2=>match x,y with
 | .m p,.d (.str k)=>∃ xs d,(p,.nmd xs)∈U2/\j6 xs k=some d/\Q (.d d) U2
 | _,_=>False
theorem Yd (hu:X.A.units+1<cLine) (ho:DE K X o td) (hi:DE K X i ty) (hs:qpt i):DE K X (.Subscript o i pos) (dGetN td ty):=by
 refine PE.mono (qlr hu ho hi hs) fun G H Q Oc=>?_;obtain⟨Y,U,Q0,hS,hM,h,cl⟩:=Oc;refine up2 hS hM h fun x y U2 v u H2 q M2 s2 i1 i2=>?_;split at q
 .rename_i p k
  obtain⟨xs,d,hm,hg,q⟩:=q;have i1:v=_:=i1;subst i1;cases i2
  obtain⟨kvs,hk,hp⟩:=M2.ob p _ hm;rcases NmR.get hp k with⟨v,d',h1,h2,h3⟩ | ⟨_,h2⟩
  .rw [hg] at h2;cases h2;exact⟨p,v,rfl,by rw[<- h1];exact qjL.k (k:=Sum.inr k) hk,cl _ U2 v H2 q M2 s2 h3⟩
  .rw [hg] at h2;cases h2
 .exact q.elim
def dNotN (ty td:TEd):TTd:=fun Y U Q=>ty Y U fun y U1=>td Y U1 fun x U2=>match x,y with
 | .m p,.d (.str k)=>∃ xs,(p,.nmd xs)∈U2/\Q (!(j6 xs k).isSome) U2
 | _,_=>False
theorem qmi (hu:X.A.units+1<cLine) (hi:DE K X i ty) (ho:DE K X o td) (h1:behindInMarks .NotIn o=false:=by rfl):DT K X (.Compare i [.NotIn] [o] pos) (dNotN ty td):=by
 refine PT.mono (qj6 (qgr hu hi ho) h1) fun G H Q Oc=>?_;obtain⟨Y,U,Q0,hS,hM,h,cl⟩:=Oc;refine up2 hS hM h fun y x U2 u v H2 q M2 s2 i2 i1=>?_;split at q
 .rename_i p k
  obtain⟨xs,hm,q⟩:=q;have i1:v=_:=i1;subst i1;cases i2
  obtain⟨kvs,hk,hp⟩:=M2.ob p _ hm;refine⟨p,_,rfl,qjL.k (k:=Sum.inr k) hk,_,rfl,?_⟩;have e:(qdZ kvs (Sum.inr k)).isSome=(j6 xs k).isSome:=by rcases NmR.get hp k with⟨v,d',h1,h2,h3⟩ | ⟨h1,h2⟩ <;> rw[h1,h2] <;> rfl
  rw[e];exact cl _ U2 H2 q M2 s2
 .exact q.elim
def dPutN (td ty tv:TEd):TSd:=fun D Y U=>tv Y U fun z U1=>td Y U1 fun x U2=>ty Y U2 fun y U3=>match z,x,y with
 | .d d,.m p,.d (.str k)=>∃ ν1 ν2 xs,U3=ν1++(p,.nmd xs)::ν2/\xs.length<=4000/\D.nx Y (ν1++(p,.nmd (qdd xs k d))::ν2)
 | _,_,_=>False
theorem qbN (hu:X.A.units+1<cLine) (ho:DE K X o td) (hi:DE K X i ty) (hv:DE K X value tv) (hs:swapsWith value (some (.Subscript o i pos')) pos.line X.env=pure false:=by rfl):DS K X (.Assign [.Subscript o i pos'] value pos) (dPutN td ty tv):=by
 refine PS.mono (qdi hu ho hi hv hs) fun D G H Oc=>?_;obtain⟨Y,U,D0,hS,hM,h,cl⟩:=Oc;refine⟨Y,U,_,hS,hM,h,fun z U1 vz H1 q M1 s1 iz=>⟨Y,U1,_,hS.same s1,M1,q,fun x U2 vx H2 q2 M2 s2 ix=>⟨Y,U2,_,(hS.same s1).same s2,M2,q2,fun y U3 vy H3 q3 M3 s3 iy=>?_⟩⟩⟩;split at q3
 .rename_i d p k
  obtain⟨ν1,ν2,xs,rfl,hl,q3⟩:=q3;have ix:vx=_:=ix;subst ix;cases iy
  obtain⟨kvs,hk,hp⟩:=M3.ob p (.nmd xs) 's';have iz':=iz.same (s2.trans s3);refine⟨p,_,rfl,qpx.k (k:=Sum.inr k) hk (jR (by rw[hp.length];exact hl)),?_⟩;obtain⟨M4,s4⟩:=M3.write (H':=upd H3 p (.dK (qee kvs (Sum.inr k) vz))) (o':=.nmd (qdd xs k d)) (fun b u e n=>by rw[qX n];exact e) fun ss=>⟨_,yg,NmR.put (Paired.mapP hp fun _ _ z=>⟨z.1,Is.same ss z.2⟩) (Is.same ss iz')⟩;exact cl.nx _ _ _ _ q3 ((hS.same ((s1.trans s2).trans s3)).same s4) M4 (((s1.trans s2).trans s3).trans s4)
 .exact q3.elim
end
end L2
namespace L2
variable {Q:Value->Shared->Prop}
def qoF (K:W.Frag) (a:Addr):Option (Array DictEntry):=match K.lookup a with
 | some o=>if (o.cls == .type "dict" && o.dict.isNone && o.slots.isEmpty && !(a == sysModules))=true then (match o.data with
  | .dict es _=>if (es.all fun e=>isExactStrKey e.key)=true then some es else none
  | _=>none) else none
 | none=>none
def qaO (K:W.Frag) (a:Addr) (x:Str):Option (Option Value):=(qoF K a).map fun es=>findBy (fun k v=>v.isStr k) es x
theorem qeq {r:Option Value}(KX:K.In h) (e:qaO K a x=some r) :
  (a == sysModules)=false/\∃ o es ep,h.get? a=some o/\o.ExactDict/\o.data = .dict es ep/\(es.all fun e=>isExactStrKey e.key)=true/\findBy (fun k v=>v.isStr k) es x=r:=by
 unfold qaO at e;obtain⟨es,e1,rfl⟩:=Option.map_eq_some_iff.mp e;unfold qoF at e1;split at e1
 .rename_i o ho
  split at e1
  .rename_i hc
   simp only[qZ,beq_iff_eq] at hc;obtain⟨⟨⟨c1,c2⟩,c3⟩,c4⟩:=hc;split at e1
   .rename_i es0 ep hd
    split at e1
    .rename_i ha
     cases e1
     exact⟨by simpa using c4,o,_,ep,KX _ _ ho,⟨c1,by simpa using c2,by simpa using c3⟩,hd,ha,rfl⟩
    .cases e1
   .cases e1
  .cases e1
 .cases e1
section
variable {tk:Tok}
theorem qgZ {o:Obj}{es:Array DictEntry}{Q:Option Value->Shared->Prop}(ho:s.heap.get? a=some o) (hd:o.data = .dict es ep) (ha:(es.all fun e=>isExactStrKey e.key)=true)
  (q:Q (findBy (fun k v=>v.isStr k) es x) { s with toks:=s.toks+1 }):wpAny 'm' A (dictGet a (.str x tk)) Q E s:=by
 unfold dictGet
 try with_reducible refine yq ?_
 refine qa (wpAny_pyHash_str (qa (KTD.kt_dictFind_strs (s:={ s with toks:=s.toks+1 }) ho hd ha ?_)));rw[findBy_of_findIdx?] at q;cases z:es.findIdx? fun e=>e.key.isStr x with
 | none=>rw[z] at q;exact qf q
 | some j=>rw[z] at q;exact qa (wpAny_dictEntries (s:={ s with toks:=s.toks+1 }) ho hd (qf q))
theorem qfa {v:Value}(KX:K.In s.heap) (e:qaO K a x=some (some v)) (q:Q v { s with toks:=s.toks+1 }):s.TypeIs (.ref a) "dict" /\ wpAny 'm' A (getItem (.ref a) (.str x tk)) Q E s:=by
 obtain⟨n,o,es,ep,ho,hc,hd,ha,hf⟩:=qeq KX e;have T:s.TypeIs (.ref a) "dict" := ⟨o,ho,hc.1⟩;refine⟨T,?_⟩;unfold getItem
 try with_reducible refine yq ?_
 refine qa (wpAny_sequenceKey T 'd' (qa (wpAny_callSpecial?_slot (name:=Str.ofString "__getitem__") T slot_dict_getitem (Jq slot_dict_getitem T entry_dict_getitem ?_ (args_dict_getitem _ _)))));refine qa (m:=dictGet a (.str x tk)) (qgZ ho hd ha ?_);rw[hf];exact qf ⟨v,rfl,qf q⟩
theorem qi7 {r:Option Value}(KX:K.In s.heap) (e:qaO K a x=some r) (q:Q (.bool (!r.isSome)) { s with toks:=s.toks+1 }):wpAny 'm' A (compareOp .NotIn (.str x tk) (.ref a)) Q E s:=by
 obtain⟨n,o,es,ep,ho,hc,hd,ha,hf⟩:=qeq KX e;have T:s.TypeIs (.ref a) "dict" := ⟨o,ho,hc.1⟩;refine qa (m:=contains (.ref a) (.str x tk)) ?_;unfold contains
 try with_reducible refine yq ?_
 refine qa (wpAny_specialOf T slot_dict_contains.lookup ?_);rw[if_neg (by rw[beq_builtin_none];exact Bool.false_ne_true)];refine qa (wpAny_callSpecialUnlessNone?_slot (name:=Str.ofString "__contains__") T slot_dict_contains (Jq slot_dict_contains T entry_dict_contains ?_ (args_dict_contains _ _)));refine qa (m:=dictGet a (.str x tk)) (qgZ ho hd ha ?_);rw[hf];cases r with
 | some v=>exact qf ⟨_,rfl,yF (qf q)⟩
 | none=>exact qa (m:=Builtin.Dict.pendingKey? a (.str x tk)) (wpAny_pendingKey_other n (qf ⟨_,rfl,yF (qf q)⟩))
end
def qc8 (a:Addr):Stb:=⟨fun v _=>v = .ref a,fun _ _ _ _ h=>h⟩
section
variable {i:Expr}{td ty:TEd}
def dGlob (a:Addr):TEd:=fun _ U Q=>Q (.x (qc8 a)) U
theorem qbi (hg:Gl X x) (hm:X.mg x=some (.ref a)) (hd:(x == ("__debug__" : Str))=false:=by decide):DE K X (.Name x pos) (dGlob a):=fun Oa s G H Q I ⟨Y,U,Q0,hS,hM,q,cl⟩ =>
 Zx I hg hm ⟨.ref a,H,I,rfl,cl _ U _ H q hM (yr.refl _) rfl⟩ hd
def tKget (K:W.Frag) (td ty:TE):TE:=fun G H Q=>td G H fun x H1=>ty G H1 fun y H2=>∃ a k t,x = .ref a/\y = .str k/\qaO K a k=some (some (.ref t))/\Q (.ref t) H2
theorem qlq {td ty:TE}(ho:PE X o td) (hi:PE X i ty) (hs:qpt i):PE X (.Subscript o i pos) (tKget X.K td ty):=by
 intro Oa s G H Q I h;refine qfM PySem.F.slot_dict_getitem.lookup hs (thn (ho Oa s G H _ I h) fun u s1 ⟨x,H1,I1,rx,q1⟩=>thn (hi Oa s1 G H1 _ I1 q1) fun iv s2 ⟨y,H2,I2,ry,a,k,t,ex,ey,hk,q2⟩=>?_);subst ex ey;obtain rfl:u=Value.ref a:=rx;obtain⟨tk,rfl⟩:=ry;exact qfa I2.kIn hk ⟨.ref t,H2,I2.tok _,rfl,q2⟩
def rdKg (K:W.Frag):R2d:=fun x y U Q=>match x,y with
 | .x r,.d (.str k)=>∃ a t,r=qc8 a/\qaO K a k=some (some (.ref t))/\(Q (.x (qc8 t)) U\/∃ d,(∀ H,Is K H (.ref t) d)/\Q (.d d) U)
 | _,_=>False
theorem qcG (ho:DE K X o td) (hi:DE K X i ty) (hs:qpt i) (hK:X.K=K:=by rfl):DE K X (.Subscript o i pos) (dOp (rdKg K) td ty):=by
 subst hK;refine PE.mono (qlq ho hi hs) fun G H Q Oc=>?_;obtain⟨Y,U,Q0,hS,hM,h,cl⟩:=Oc;refine up2 hS hM h fun x y U2 v u H2 q M2 s2 i1 i2=>?_;unfold rdKg at q;split at q
 .obtain ⟨a,t,rfl,hk,q⟩:=q;have i1:v = .ref a:=i1;subst i1;cases i2
  refine⟨a,_,t,rfl,rfl,hk,?_⟩;rcases q with q | ⟨d,hd,q⟩
  .exact cl (.x (qc8 t)) U2 _ H2 q M2 s2 rfl
  .exact cl (.d d) U2 _ H2 q M2 s2 (hd _)
 .exact q.elim
def dKnot (K:W.Frag) (ty td:TEd):TTd:=fun Y U Q=>ty Y U fun y U1=>td Y U1 fun x U2=>match x,y with
 | .x r,.d (.str k)=>∃ a v,r=qc8 a/\qaO K a k=some v/\Q (!v.isSome) U2
 | _,_=>False
theorem qlw {td ty:TE}(hi:PE X i ty) (ho:PE X o td):PC X .NotIn i o (fun G H Q=>ty G H fun y H1=>td G H1 fun x H2=>∃ a k v,x = .ref a/\y = .str k/\qaO X.K a k=some v/\Q (.bl (!v.isSome)) H2):=by
 intro Oa s G H Q I h;refine thn (hi Oa s G H _ I h) fun iv s1 Oc=>?_;obtain⟨y,H1,I1,ry,q1⟩:=Oc;refine thn (ho Oa s1 G H1 _ I1 q1) fun u s2 ⟨x,H2,I2,rx,a,k,v,ex,ey,hk,q2⟩=>?_;subst ex ey;obtain rfl:u=Value.ref a:=rx;obtain⟨tk,rfl⟩:=ry;exact qi7 I2.kIn hk ⟨.bl (!v.isSome),H2,I2.tok _,rfl,q2⟩
theorem qmj (hi:DE K X i ty) (ho:DE K X o td) (h1:behindInMarks .NotIn o=false:=by rfl) (hK:X.K=K:=by rfl):DT K X (.Compare i [.NotIn] [o] pos) (dKnot K ty td):=by
 subst hK;refine PT.mono (qj6 (qlw hi ho) h1) fun G H Q Oc=>?_;obtain⟨Y,U,Q0,hS,hM,h,cl⟩:=Oc;refine up2 hS hM h fun y x U2 u v H2 q M2 s2 i2 i1=>?_;split at q
 .obtain ⟨a,w',rfl,hk,q⟩:=q;have i1:v = .ref a:=i1;subst i1;cases i2
  exact⟨a,_,w',rfl,rfl,hk,_,rfl,cl _ U2 H2 q M2 s2⟩
 .exact q.elim
variable {e:Expr}{E:XK}{k:Nat}
def qnk (n:Nat) (Tb:Addr->Sp->Prop) (E:XK) (t:TA):TE:=fun G H Q=>∃ f sp,G[n]?=some (some (.ref f))/\Tb f sp/\qig sp [] E t G H Q
theorem qeh {t:TA}{Tb:Addr->Sp->Prop}(hN:X.N[n]?=some x) (hv:Vis X.env.scope x) (L:∀ f sp,Tb f sp->∃ fd,FnOk X.prog X.w X.K X.mg X.base CX k f fd ps sp/\W.keepIn X.K (.ref f)=true/\YW X.K fd ps []) (hr:Room k X.A) (hx:Yg CX X E)
  (ha:PA X (e::es) t) (hd:(x == ("__debug__" : Str))=false:=by decide) (hcd:(x == ("__classdict__" : Str))=false:=by decide) (he:starEach (e::es) X.env=(false,eval e X.env)::starEach es X.env:=by rfl) (hpl:(backTo pos (starEach es X.env)).any (·.1)=false:=by rfl) :
  PE X (.Call (.Name x p) (e::es) [] pos) (qnk n Tb E t):=by
 intro Oa s G H Q I h;obtain⟨f,sp,hf,ht,h⟩:=h;obtain⟨fd,F,hk,hb⟩:=L f sp ht;refine jL (qN (qcg (X:=X) hN hv hd hcd Oa s G H (fun v H'=>v = .ref f/\H'=H) I ⟨_,hf,rfl,rfl⟩) (fun u s1 ⟨v,H1,I1,r1,ev,eH⟩=>?_) fun _ _ z=>z);subst ev eH;obtain rfl:u=Value.ref f:=r1;exact W.callWith_K (h₀:=X.base) I1.ok.mod.kin hk (thn (ha pos Oa s1 G H1 _ I1 h) fun us s2 ⟨vs,H2,I2,r,q⟩=>⟨I2.kIn,qeb F hr hb .nil hx I2 r q⟩) he hpl
end
end L2
namespace L2
end L2
namespace L2
section
variable {a b:Expr}{tb:TEd}
end
end L2
namespace L2
def Its (x:Str):It:=⟨fun i _=>i<x.length,fun i H v H'=>H'=H/\∃ c,x.cps[i]?=some c/\v = .str ⟨#[c]⟩,fun i _=>x.length<=i⟩
theorem qid (x:Str) (t:Tok) (it:Addr):Turn P w K tg (Its x) [it] it (fun i h=>h.IsStrIter it "str_ascii_iterator" x t i) where
 mem:=by simp
 obj:=fun i h st b hb=>by
  obtain rfl:b=it:=by simpa using hb
  obtain⟨o,e,c,d⟩:=st;exact⟨o,e,fun v z=>by rw[d] at z;cases z⟩
 keep:=fun i h h' st k=>by
  obtain⟨o,e,c,d⟩:=st;exact⟨o,k it 's' o e,c,d⟩
 item:=by
  intro X hP hw hK hc i Oa s G H E I hf st hg;subst hP hw hK;have hg:i<x.cps.size:=hg;obtain⟨f0,f1,f2,f3,f4,f5⟩:=hf it 's';refine wpAny_pyNext_ascii_item st (jT hg) fun h' st' sb=>?_;have I1:Inv X Oa G H { s with heap:=h',toks:=s.toks+1 }:=I.turned (t':=s.toks+1) (fun b o hb e=>(sb.2 b hb).trans e) f0 f1 f3 f4 f5;obtain⟨o,e,c,d⟩:=id st';exact⟨_,rfl,qjd (s:={ s with heap:=h',toks:=s.toks+1 }) e c d 'd' ⟨.str ⟨#[x.cps[i]]⟩,H,I1,⟨_,rfl⟩,⟨rfl,_,jT hg,rfl⟩,st',fun b hb=>(hf b hb).1⟩⟩
 done:=by
  intro X hP hw hK hc i Oa s G H E I hf st hg;subst hP hw hK;have hg:x.cps.size<=i:=hg;obtain⟨f0,f1,f2,f3,f4,f5⟩:=hf it 's';exact wpAny_pyNext_ascii_end (I.ok.hd hc) st (yC hg) fun h' eb=>⟨rfl,I.turned (t':=s.toks) (fun b o hb e=>eb b o hb e) f0 f1 f3 f4 f5⟩
 self:=fun _ _ _ _ _ st h=>wpAny_pyIter_striter_ascii st h
section
theorem qn7 {l:Expr}(hl:PE X l tl):PI X tg l (fun G H R=>tl G H fun x H1=>∃ z:Str,x = .str z/\z.cps.all (·<128)=true/\R (Its z) H1):=by
 intro Oa s G H R I h;refine thn (hl Oa s G H _ I h) fun v s1 Oc=>?_;obtain⟨x,H1,I1,r1,q1⟩:=Oc;obtain⟨z,e,ha,q⟩:=q1;subst e;obtain⟨t,rfl⟩:=r1;refine wpAny_pyIter_ascii ha ?_;refine⟨s1.heap.objs.size,[s1.heap.objs.size],_,_,H1,rfl,I1.kept (t':=s1.toks) fun b o e=>qd _ e,qid z t _,⟨_,qD _ rfl,rfl,rfl⟩,fun b hb=>?_,q⟩;obtain rfl:b=s1.heap.objs.size:=by simpa using hb
 exact I1.fpOk (qk _) (I1.hok.fresh (qk _))
def sgs (z:Str):List PyData:=z.cps.toList.map fun c=>.str ⟨#[c]⟩
def diS (te:TEd):TId:=fun Y U Q=>te Y U fun e U1=>match e with
 | .d (.str z)=>z.cps.all (·<128)=true/\Q (itT (sgs z)) U1
 | _=>False
theorem qoW {l:Expr}(hl:DE K X l te):DI K X tg l (diS te):=by
 refine PI.mono (qn7 hl) fun G H R Oc=>?_;obtain⟨Y,U,Q0,hS,hM,h,cl⟩:=Oc;refine⟨Y,U,_,hS,hM,h,fun e U1 v H1 q M1 s1 i1=>?_⟩;split at q
 .rename_i z
  cases i1
  have hlen:(sgs z).length=z.length:=by rw[sgs,qc];exact qy
  refine⟨z,rfl,q.1,cl _ U1 _ H1 q.2 M1 s1 fun U' H' M' s' hok i=>⟨fun hi=>⟨by show i<z.length;rw[<- hlen];exact hi,?_⟩,fun hi=>by show z.length<=i;rw[<- hlen];exact hi⟩⟩;rintro x H2 ⟨rfl,c,hc,rfl⟩;refine⟨M',yr.refl _,?_⟩;show Is K (mask U' H2) (.str ⟨#[c]⟩) ((sgs z).getD i .none);rw[JQ (x:=.str ⟨#[c]⟩) (by rw[sgs,qY,qA,hc];rfl)];exact .str _
 .exact q.elim
def qj1:RAd:=fun es U Q=>match es with
 | [.d (.str z)]=>z.length<=800000/\Q (.d (.int z.length)) U
 | _=>False
theorem qmo:je X (.builtin "len") (upC K qj1):=qcQ.mono fun xs H Q h=>by
 obtain⟨U,es,Q0,M,i1,q,cl⟩:=h;unfold qj1 at q;split at q
 .obtain ⟨v,rfl,i⟩:=JN i1;cases i
  exact⟨_,rfl,by rw[sizeLine_eq];have:=q.1;lia,cl _ U _ H q.2 M (yr.refl _) (.int _)⟩
 .exact q.elim
def qnJ:R2d:=fun x y U Q=>match x,y with
 | .d (.str i),.d (.str j)=>Q (.d (.bool (!(decide (j.cps.toList<i.cps.toList))))) U
 | _,_=>False
theorem qkr:OpR X (compareOp .LtE) (upR K qnJ):=by
 intro Oa s G H x y v u Q I rx ry h;obtain⟨U,e,e',Q0,M,i1,i2,q,cl⟩:=h;unfold qnJ at q;split at q
 .cases i1;cases i2
  obtain⟨t,rfl⟩:=rx;obtain⟨t',rfl⟩:=ry;exact P.le_str (qoN I (cl _ U (.bl _) H q M (yr.refl _) (.bl _)) rfl)
 .exact q.elim
variable {a b:Expr}{tb:TEd}
def dOrS (ta tb:TEd):TEd:=fun Y U Q=>ta Y U fun x U1=>match x with
 | .d (.str z)=>z.length<=800000/\(if z.length=0 then tb Y U1 Q else Q (.d (.str z)) U1)
 | _=>False
variable {rest:List Expr}
theorem qoa {ta tb:TE}(ha:PE X a ta) (hb:PE X (.BoolOp .Or (b::rest) pos) tb):PE X (.BoolOp .Or (a::b::rest) pos) (fun G H Q=>ta G H fun x H1=>∃ z:Str,x = .str z/\z.length<=sizeLine/\(if z.length=0 then tb G H1 Q else Q (.str z) H1)):=by
 intro Oa s G H Q I h;refine BoolOp_or (thn (ha Oa s G H _ I h) fun v s1 ⟨x,H1,I1,r1,q1⟩=>?_);obtain⟨z,rfl,hz,q1⟩:=q1;obtain⟨t,rfl⟩:=r1;rw[sizeLine_eq] at hz;refine PySem.P.truthy_str 'l' ?_;by_cases e:z.length=0
 .rw [if_pos e] at q1;simp only[e];exact hb Oa _ G H1 Q (I1.tok _) q1
 .rw [if_neg e] at q1;have:((z.length:Int) != 0)=true:=by simp only[bne_iff_ne,ne_eq];lia
  rw[this];exact⟨.str z,H1,I1.tok _,⟨_,rfl⟩,q1⟩
theorem qo1 (ha:DE K X a ta) (hb:DE K X (.BoolOp .Or (b::rest) pos) tb):DE K X (.BoolOp .Or (a::b::rest) pos) (dOrS ta tb):=by
 refine PE.mono (qoa ha hb) fun G H Q Oc=>?_;obtain⟨Y,U,Q0,hS,hM,h,cl⟩:=Oc;refine⟨Y,U,_,hS,hM,h,fun e U1 v H1 q M1 s1 i1=>?_⟩;split at q
 .rename_i z
  cases i1
  refine⟨z,rfl,by rw[sizeLine_eq];have:=q.1;lia,?_⟩;have q:=q.2;split at q
  .rename_i e;rw[if_pos e];exact⟨Y,U1,Q0,hS.same s1,M1,q,cl.same s1⟩
  .rename_i e;rw[if_neg e];exact cl _ U1 _ H1 q M1 s1 (.str _)
 .exact q.elim
end
end L2
namespace L2
variable {p:Pt}{ps:List Pt}
abbrev Ln:=Pt×Int
def lnK (l:Ln):List Int:=[l.1.1,l.1.2,l.2]
theorem qlY {l m:Ln}(h:lnK l=lnK m):l=m:=by
 unfold lnK at h;have h1:=List.cons.inj h;have h2:=List.cons.inj h1.2;have h3:=List.cons.inj h2.2;exact Prod.ext (Prod.ext h1.1 h2.1) h3.1
def Ahd (l m:Ln):Prop:=0<crs l.1 m.1\/(crs l.1 m.1=0/\l.2<m.2)
noncomputable instance (l m:Ln):Decidable (Ahd l m):=by unfold Ahd;infer_instance
theorem qkC (p q:Pt):crs q p = - crs p q:=by unfold crs;grind
theorem qmM (l:Ln):¬ Ahd l l:=by
 rintro (h | ⟨_,h⟩)
 .rw [qeD] at h;lia
 .lia
theorem qjH {l m:Ln}(h:Ahd l m):¬ Ahd m l:=by
 have:=qkC l.1 m.1;rintro (z | ⟨z,y⟩)
 .rcases h with h | ⟨h,_⟩ <;> lia
 .rcases h with h | ⟨h,k⟩ <;> lia
theorem qmL {l m:Ln}(hl:IsN l.1) (hm:IsN m.1) (hne:l≠m) (h:¬ Ahd l m):Ahd m l:=by
 have e:=qkC l.1 m.1;unfold Ahd at *;by_cases c:crs l.1 m.1=0
 .have n:=qbP hl hm c;refine .inr ⟨'l',?_⟩;have:l.2≠m.2:=fun z=>hne (Prod.ext n z);have:¬ l.2<m.2:=fun z=>h (.inr ⟨c,z⟩);lia
 .have:¬ 0<crs l.1 m.1:=fun z=>h (.inl z);exact .inl 'l'
theorem qkl {n:Pt}(h:IsN n):0<=n.1/\(n.1=0->n=(0,1)):=by
 obtain⟨_,h | ⟨h1,h2⟩⟩:=h
 .exact ⟨'l',fun z=>by lia⟩
 .exact ⟨'l',fun _=>Prod.ext h1 h2⟩
theorem qc2 {ls:List Ln}(h:ls.Pairwise Ahd):ls.Nodup:=List.Pairwise.imp (R:=Ahd) (S:=fun a b=>a≠b) (fun {a b} z (e:a=b)=>qmM a (by rw[<- e] at z;exact z)) h
theorem qjG {ls ms:List Ln}(h1:ls.Pairwise Ahd) (h2:ms.Pairwise Ahd) (h:∀ l,l∈ls ↔ l∈ms):ls=ms:=by
 have n1:=qc2 h1;have n2:=qc2 h2;exact List.Perm.eq_of_pairwise (fun a b _ _ k1 k2=>absurd k2 (qjH k1)) h1 h2 ((List.perm_ext_iff_of_nodup n1 n2).mpr h)
def qh3 (g:Int) (l:Ln):List Int:=if l.1.1=0 then [1,0,l.2] else [0,(l.1.2 * g).fdiv l.1.1,l.2]
theorem qhn {a b a' b' g:Int}(ha:0<a) (ha':0<a') (h1:a * a<=g) (h2:a' * a'<=g) (hc:a * b' - b * a'<0):(b' * g).fdiv a'+1<=(b * g).fdiv a:=by
 have hg:a * a'<=g:=by
  rcases Int.le_total a a' with z | z
  .exact Int.le_trans (Int.mul_le_mul_of_nonneg_right z 'l') h2
  .exact Int.le_trans (Int.mul_le_mul_of_nonneg_left z 'l') h1
 have g0:0<=g:=Int.le_trans (Int.mul_nonneg 'l' 'l') h1;generalize hq:(b' * g).fdiv a'=q;have q1:q * a'<=b' * g:=by
  have:=Int.fmod_add_mul_fdiv (b' * g) a';have m0:=Int.fmod_nonneg_of_pos (b' * g) ha';rw[hq] at this;have:a' * q=q * a':=Int.mul_comm _ _;lia
 have key:(q+1) * a * a'<=b * g * a':=by
  have e1:a * (q * a')<=a * (b' * g):=Int.mul_le_mul_of_nonneg_left q1 'l';have e2:(a * b'+1) * g<=b * a' * g:=Int.mul_le_mul_of_nonneg_right 'l' g0;grind
 have k2:(q+1) * a<=b * g:=Int.le_of_mul_le_mul_right key ha';rw[Int.fdiv_eq_ediv_of_nonneg _ 'l'];exact (Int.le_ediv_iff_mul_le ha).mpr k2
theorem ql6 {g:Int}{l m:Ln}(hl:IsN l.1) (hm:IsN m.1) (gl:l.1.1 * l.1.1<=g) (gm:m.1.1 * m.1.1<=g) (hne:l≠m) (h:¬ qh3 g m<qh3 g l):Ahd l m:=by
 obtain⟨l0,l1⟩:=qkl hl;obtain⟨m0,m1⟩:=qkl hm;by_cases cl:l.1.1=0
 .by_cases cm:m.1.1=0
  .unfold qh3 at h;rw[if_pos cl,if_pos cm] at h;have e:l.1=m.1:=by rw[l1 cl,m1 cm]
   refine .inr ⟨by rw[e];exact qeD _,?_⟩;have:¬ m.2<l.2:=fun z=>h (by simp[yU,z]);have:l.2≠m.2:=fun z=>hne (Prod.ext e z);lia
  .exact absurd (by unfold qh3;rw[if_pos cl,if_neg cm];simp[yU]) h
 .by_cases cm:m.1.1=0
  .refine .inl ?_;rw[m1 cm];unfold crs;simp;lia
  .unfold qh3 at h;rw[if_neg cl,if_neg cm] at h;have lp:0<l.1.1:=by lia
   have mp:0<m.1.1:=by lia
   refine Decidable.byContradiction fun hn=>?_;have t:=qmL hl hm hne hn;apply h;rcases t with t | ⟨t,k⟩
   .have hc:l.1.1 * m.1.2 - l.1.2 * m.1.1<0:=by unfold crs at t;grind
    have:=qhn lp mp gl gm hc;rw[yU,yU];exact .inr ⟨rfl,.inl 'l'⟩
   .have e:=qbP hm hl t;rw[e];simp[yU,k]
def nO (p q:Pt):Pt:=nrm (q.2 - p.2) (p.1 - q.1)
theorem ZA (h:p≠q):q.2 - p.2≠0\/p.1 - q.1≠0:=by
 by_cases z:q.2 - p.2=0
 .refine .inr fun z2=>h (Prod.ext 'l' 'l')
 .exact .inl z
theorem qgK (h:p≠q):IsN (nO p q):=qlQ (ZA h)
theorem qlS (h:p≠q):vl (nO p q) q=vl (nO p q) p:=by
 obtain⟨e1,e2⟩:=qdq (q.2 - p.2) (p.1 - q.1) (ZA h);have d0:=qaG (ZA h);unfold vl nO;generalize nrm (q.2 - p.2) (p.1 - q.1)=n at *;generalize dvs (q.2 - p.2) (p.1 - q.1)=d at *;have:d * (n.1 * q.1+n.2 * q.2)=d * (n.1 * p.1+n.2 * p.2):=by grind
 exact Int.eq_of_mul_eq_mul_left d0 this
theorem qgJ {n:Pt}(h:p≠q) (hn:IsN n) (e:vl n p=vl n q):n=nO p q:=by
 refine qbP hn (qgK h) ?_;obtain⟨e1,e2⟩:=qdq (q.2 - p.2) (p.1 - q.1) (ZA h);have d0:=qaG (ZA h);unfold vl at e;unfold crs nO;generalize nrm (q.2 - p.2) (p.1 - q.1)=m at *;generalize dvs (q.2 - p.2) (p.1 - q.1)=d at *;have:d * (n.1 * m.2 - n.2 * m.1)=d * 0:=by grind
 exact Int.eq_of_mul_eq_mul_left d0 this
def qdS (ps:List Pt) (l:Ln):Prop:=IsN l.1/\∃ p∈ps,∃ q∈ps,p≠q/\vl l.1 p=l.2/\vl l.1 q=l.2
theorem qi9 (hp:p∈ps) (hq:q∈ps) (h:p≠q):qdS ps (nO p q,vl (nO p q) p):=⟨qgK h,p,hp,q,hq,h,rfl,qlS h⟩
theorem qes {l:Ln}(h:qdS ps l):∃ p∈ps,∃ q∈ps,p≠q/\l=(nO p q,vl (nO p q) p):=by
 obtain⟨hn,p,hp,q,hq,hne,e1,e2⟩:=h;have e:=qgJ hne hn (e1.trans e2.symm);exact⟨p,hp,q,hq,hne,Prod.ext e (by rw[<- e];exact e1.symm)⟩
theorem nO_sw (h:p≠q):(nO q p,vl (nO q p) q)=(nO p q,vl (nO p q) p):=by
 have e:nO q p=nO p q:=qgJ h (qgK h.symm) (qlS h.symm);rw[e,qlS h]
end L2
variable {ms ls:List L2.Ln}
namespace L2
abbrev cm:Str := ","
abbrev bk:Str := " "
abbrev sm2:Str := "; "
def wP (p:Pt):Str:=((Str.empty++sN p.1)++cm)++sN p.2
def wL (l:Ln):Str:=((((Str.empty++sN l.1.1)++bk)++sN l.1.2)++bk)++sN l.2
def wH (ps:List Pt):Str:=Str.join bk (ps.map wP)
def wA (ls:List Ln):Str:=Str.join sm2 (ls.map wL)
theorem qfA (p:Pt):wP p=Str.join cm [sN p.1,sN p.2]:=by
 show ((Str.empty++sN p.1)++cm)++sN p.2=sN p.1++cm++sN p.2;rw[W.KT.empty_app]
theorem qc0 (x y z:Str):(x++y)++z=x++(y++z):=qcM (by rw[Ye,Ye,Ye,Ye,qm])
theorem qfD (l:Ln):wL l=Str.join bk [sN l.1.1,sN l.1.2,sN l.2]:=by
 show ((((Str.empty++sN l.1.1)++bk)++sN l.1.2)++bk)++sN l.2=sN l.1.1++bk++(sN l.1.2++bk++sN l.2);rw[W.KT.empty_app];simp only[qc0]
theorem qpj:cl cm=[44]:=by decide +kernel
theorem qjz:cl bk=[32]:=by decide +kernel
theorem qpi:cl sm2=[59,32]:=by decide +kernel
def Sg (x:Str):Prop:=∀ c∈cl x,c=45\/(48<=c/\c<=57)\/c=44
def Sl (x:Str):Prop:=∀ c∈cl x,c=45\/(48<=c/\c<=57)\/c=32
theorem qkS (p:Pt):cl (wP p)=cl (sN p.1)++(44::cl (sN p.2)):=by
 rw[qfA];show cl (sN p.1++cm++sN p.2)=_;rw[Ye,Ye,qpj];simp
theorem qm1 (p:Pt):Sg (wP p):=fun c hc=>by
 rw[qkS] at hc;rcases qG.mp hc with h | h
 .rcases Jj _ c h with z | z
  .exact .inl z
  .exact .inr (.inl z)
 .rcases qF.mp h with z | h
  .exact .inr (.inr z)
  .rcases Jj _ c h with z | z
   .exact .inl z
   .exact .inr (.inl z)
theorem qkU (l:Ln):cl (wL l)=cl (sN l.1.1)++(32::(cl (sN l.1.2)++(32::cl (sN l.2)))):=by
 rw[qfD];show cl (sN l.1.1++bk++(sN l.1.2++bk++sN l.2))=_;simp only[Ye,qjz];simp
theorem qkT (l:Ln):Sl (wL l):=fun c hc=>by
 rw[qkU] at hc;simp only[qG,qF] at hc;rcases hc with h | h | h | h | h
 .rcases Jj _ c h with z | z
  .exact .inl z
  .exact .inr (.inl z)
 .exact .inr (.inr h)
 .rcases Jj _ c h with z | z
  .exact .inl z
  .exact .inr (.inl z)
 .exact .inr (.inr h)
 .rcases Jj _ c h with z | z
  .exact .inl z
  .exact .inr (.inl z)
theorem qih (p:Pt):Txt.split (wP p) cm=[sN p.1,sN p.2]:=by
 rw[qfA];refine YA (c:=44) (by rw[qpj];rfl) 'k' 's' fun x hx hc=>?_;have:∃ n,x=sN n:=by
  simp only[qF,List.mem_nil_iff,or_false] at hx;rcases hx with rfl | rfl
  .exact ⟨_,rfl⟩
  .exact ⟨_,rfl⟩
 obtain⟨n,rfl⟩:=this;rcases Jj _ _ hc with z | z <;> lia
theorem qii (l:Ln):Txt.split (wL l) bk=[sN l.1.1,sN l.1.2,sN l.2]:=by
 rw[qfD];refine YA (c:=32) (by rw[qjz];rfl) 'k' 's' fun x hx hc=>?_;have:∃ n,x=sN n:=by
  simp only[qF,List.mem_nil_iff,or_false] at hx;rcases hx with rfl | rfl | rfl <;> exact⟨_,rfl⟩
 obtain⟨n,rfl⟩:=this;rcases Jj _ _ hc with z | z <;> lia
def Nb (x:Str):Prop:=32∉cl x
theorem qm3 (p:Pt):Nb (wP p):=fun h=>by rcases qm1 p _ h with z | z | z <;> lia
theorem qbk (hne:ws≠[]) (h:∀ x∈ws,Nb x):Txt.split (Str.join bk ws) bk=ws:=YA (c:=32) (by rw[qjz];rfl) 'k' hne h
theorem qij {ps:List Pt}(hne:ps≠[]):Txt.split (wH ps) bk=ps.map wP:=qbk (by simpa using hne) fun x hx=>by
 obtain⟨p,_,rfl⟩:=qu.mp hx;exact qm3 p
theorem qfQ:Txt.split (wH []) bk=[Str.empty]:=qbk (ws:=[Str.empty]) 's' fun x hx=>by rw[qJ.mp hx];exact fun h=>nomatch h
theorem qik (hne:ls≠[]):Txt.split (wA ls) sm2=ls.map wL:=by
 refine YA (c:=59) (by rw[qpi];rfl) 'k' (by simpa using hne) fun x hx hc=>?_;obtain⟨l,_,rfl⟩:=qu.mp hx;rcases qkT l _ hc with z | z | z <;> lia
def Asc (x:Str):Prop:=∀ c∈cl x,c<128
theorem Asc.ok (h:Asc x):SeqAt.shaped (.str x)=true:=by
 have:PyData.strOk x=true:=by
  unfold PyData.strOk;rw[Array.all_eq_true_iff_forall_mem];intro c hc;have:=h c (by simpa using hc);simp only[decide_eq_true_eq];lia
 unfold SeqAt.shaped;simp[PyData.canLay0,PyData.depth,this]
theorem Asc.app (h:Asc x) (h':Asc y):Asc (x++y):=fun c hc=>by
 rw[Ye] at hc;rcases qG.mp hc with z | z
 .exact h c z
 .exact h' c z
theorem Asc.sN (n:Int):Asc (L2.sN n):=fun c hc=>by rcases Jj n c hc with z | z <;> lia
theorem Asc.e:Asc Str.empty:=fun c hc=>nomatch hc
theorem Asc.join (hy:Asc y):∀ {ws:List Str},(∀ x∈ws,Asc x)->Asc (Str.join y ws)
 | [],_=>Asc.e
 | [x],h=>h x 's'
 | x::z::r,h=>((h x 's').app hy).app (Asc.join hy fun q hq=>h q (qe _ hq))
theorem Asc.bk:Asc L2.bk:=fun c hc=>by rw[qjz] at hc;simp at hc;lia
theorem Asc.sm:Asc L2.sm2:=fun c hc=>by rw[qpi] at hc;simp at hc;lia
theorem Asc.wP (p:Pt):Asc (L2.wP p):=fun c hc=>by rcases qm1 p c hc with z | z | z <;> lia
theorem Asc.wL (l:Ln):Asc (L2.wL l):=fun c hc=>by rcases qkT l c hc with z | z | z <;> lia
theorem Asc.wH (ps:List Pt):Asc (L2.wH ps):=Asc.join Asc.bk fun x hx=>by obtain⟨p,_,rfl⟩:=qu.mp hx;exact Asc.wP p
theorem Asc.wA (ls:List Ln):Asc (L2.wA ls):=Asc.join Asc.sm fun x hx=>by obtain⟨p,_,rfl⟩:=qu.mp hx;exact Asc.wL p
theorem JS (x y:Str):PyData.eqv (.str x) (.str y)=decide (x=y):=by by_cases h:x=y <;> simp[PyData.eqv,h]
theorem jS {n:Int}(h:n.natAbs<10 ^ 62):n.natAbs.log2<1920:=by
 by_cases h0:n.natAbs=0
 .rw [h0];decide
 .exact (Nat.log2_lt h0).mpr (qM h 'k')
theorem qai {n:Int}(h:n.natAbs<10 ^ 62):(sN n).length<=63:=qnv 'd' h
theorem qaW {p:Pt}(h1:p.1.natAbs<10 ^ 62) (h2:p.2.natAbs<10 ^ 62):(wP p).length<=127:=by
 have a:=qai h1;have b:=qai h2;rw[<- YL] at *;rw[qkS];simp only[qr,qU];lia
theorem qfC {l:Ln}(h1:l.1.1.natAbs<10 ^ 62) (h2:l.1.2.natAbs<10 ^ 62) (h3:l.2.natAbs<10 ^ 62):(wL l).length<=191:=by
 have a:=qai h1;have b:=qai h2;have c:=qai h3;rw[<- YL] at *;rw[qkU];simp only[qr,qU];lia
theorem Zb {y:Str}{B:Nat}:∀ {ws:List Str},(∀ x∈ws,x.length<=B)->(Str.join y ws).length<=ws.length * (B+y.length)
 | [],_=>yj _
 | [x],h=>by have:=h x 's';simp only[List.length_singleton,Str.join];lia
 | x::z::r,h=>by
  have h1:=h x 's';have h2:=Zb (y:=y) (ws:=z::r) fun q hq=>h q (qe _ hq);show (x++y++Str.join y (z::r)).length<=_;rw[qI,qI];simp only[qU] at h2 ⊢;rw[Nat.add_mul,Nat.one_mul,Nat.add_mul,Nat.one_mul] at *;lia
theorem Asc.lay (h:Asc x):PyData.canLay0 (.str x)=true:=(Bool.and_eq_true_iff.mp h.ok).1
theorem qbF:∀ {ws:List Str},(∀ x∈ws,Asc x)->PyData.canLayAll0 (ws.map PyData.str)=true
 | [],_=>by simp[PyData.canLayAll0]
 | x::r,h=>by
  simp only[qP,PyData.canLayAll0,qZ];exact⟨(h x 's').lay,qbF fun z hz=>h z (qe _ hz)⟩
theorem qbg:∀ ws:List Str,PyData.depthAll (ws.map PyData.str)<=1
 | []=>by simp[PyData.depthAll]
 | x::r=>by
  have:=qbg r;simp only[qP,PyData.depthAll,PyData.depth];lia
theorem qk4 (h:∀ x∈ws,Asc x):SeqAt.shaped (.list (ws.map PyData.str))=true:=by
 unfold SeqAt.shaped;rw[qZ];refine⟨by simp only[PyData.canLay0];exact qbF h,qH ?_⟩;have:=qbg ws;simp only[PyData.depth];lia
theorem qm2 (p:Pt):wP p≠Str.empty:=fun e=>by
 have:=qkS p;rw[e] at this;have:([]:List Nat)=_:=this;simp at this
end L2
namespace L2
variable {sp:SpD}
section
variable {st:Stmt}{k:Nat}{C0:Addr}{pre:List En->Mu->Prop}
theorem Fun.okE (F:Fun K x qual st f fd)
  (hbody:∀ {Oy:Value}{A:Around}{outer:List Env}{s:Shared}{H:Hp}{E:XK}{es:List En}(U:Mu) (Q:En->Mu->Prop) (nd:N.Nodup),Room k (A.deeper (envOfC qual (qR st) s.heap.objs.size f Oy))->sp es U Q →
   ∃ t,DSs K (ZT CX P w K mg base N qual (qR st) f Oy A outer s H E).nox (yP st) t/\t { nx:=fun _ U'=>Q (.d .none) U',rt:=Q } (es.map some++List.replicate (N.length - es.length) none) U)
  (S:FnScope N ps (qR st):=by exact⟨rfl,rfl,rfl,'k',rfl,'k','k'⟩)
  (len:∀ es U Q,sp es U Q->es.length=ps.length:=by intro es U Q h;repeat first | (obtain⟨e,_⟩:=h;subst e;rfl) | obtain⟨_,h⟩:=h):FnOk P w K mg base CX (k+1) f fd ps (yd K sp) :=
 F.okD S len fun Oy A outer s H E es U Q hr h=>hbody U Q S.nd hr h
theorem qd1 {es:List En}(hp:Paired (IsE K U H) vs es):RelS K (es.map some++List.replicate (N.length - es.length) none) U (YO N vs) H:=by
 have e:vs.length=es.length:=PySem.Paired.length hp;have:YO N vs=vs.map some++List.replicate (N.length - es.length) none:=by rw[<- e];rfl
 rw[this];exact qlc (K:=K) _ hp
theorem Fun.okL (F:Fun K x qual st f fd)
  (hbody:∀ (nd:N.Nodup) (Oy:Value) (A:Around) (outer:List Env) (s:Shared) (H:Hp) (E:XK) (es:List En) (U:Mu) (vs:List V) (Q:VK),Room k (A.deeper (envOfC qual (qR st) s.heap.objs.size f Oy))->RelM K U H->RelS K (es.map some++List.replicate (N.length - es.length) none) U (YO N vs) H->(∀ H',RelM K U H'->yr (mask U H) (mask U H')->E (.ref C0) none H')->pre es U →
   ∃ t,PSs (ZT CX P w K mg base N qual (qR st) f Oy A outer s H E) (yP st) t/\t { nx:=fun _ H'=>Q .non H',rt:=Q } (YO N vs) H)
  (S:FnScope N ps (qR st):=by exact⟨rfl,rfl,rfl,'k',rfl,'k','k'⟩)
  (len:∀ es U,pre es U->es.length=ps.length:=by intro es U h;repeat first | (obtain⟨e,_⟩:=h;subst e;rfl) | obtain⟨_,h⟩:=h):FnOk P w K mg base CX (k+1) f fd ps (yW K C0 pre) :=
 okX F S (fun vs H Q E ⟨U,es,M,hp,h,_⟩=>(PySem.Paired.length hp).trans (len es U h)) fun Oy A outer s H vs Q E hr ⟨U,es,M,hp,h,kE⟩=>hbody S.nd Oy A outer s H E es U vs Q hr M (qd1 hp) kE h
theorem Fun.okV (F:Fun K x qual st f fd)
  (hbody:∀ (nd:N.Nodup) (Oy:Value) (A:Around) (outer:List Env) (s:Shared) (H:Hp) (E:XK) (es:List En) (U:Mu) (vs:List V) (Q0:En->Mu->Prop) (Q:VK),Room k (A.deeper (envOfC qual (qR st) s.heap.objs.size f Oy))->RelM K U H->RelS K (es.map some++List.replicate (N.length - es.length) none) U (YO N vs) H->Cl K U H Q0 Q->sp es U Q0 →
   ∃ t,PSs (ZT CX P w K mg base N qual (qR st) f Oy A outer s H E).nox (yP st) t/\t { nx:=fun _ H'=>Q .non H',rt:=Q } (YO N vs) H)
  (S:FnScope N ps (qR st):=by exact⟨rfl,rfl,rfl,'k',rfl,'k','k'⟩)
  (len:∀ es U Q,sp es U Q->es.length=ps.length:=by intro es U Q h;repeat first | (obtain⟨e,_⟩:=h;subst e;rfl) | obtain⟨_,h⟩:=h):FnOk P w K mg base CX (k+1) f fd ps (yd K sp) :=
 F.okG S (fun vs H Q E ⟨U,es,Q0,M,hp,h,_⟩=>(PySem.Paired.length hp).trans (len es U Q0 h)) fun Oy A outer s H vs Q E hr ⟨U,es,Q0,M,hp,h,cl⟩=>hbody S.nd Oy A outer s H E es U vs Q0 Q hr M (qd1 hp) cl h
end
section
variable {k:Nat}{m:Str}{s:SpD}{e a b:Expr}{tb:TEd}
theorem qT (i:Nat) (he:DE K X e te) (hi:X.N[i]?=some x:=by rfl) (hN:X.N.Nodup:=by assumption) (hx:Loc X.env.scope x:=by first | exact Or.inl rfl | exact Or.inr rfl) (hs:swapsWith e (some (.Name x pos')) pos.line X.env=pure false:=by rfl) (hf:FnL X x:=by trivial) :
  DS K X (.Assign [.Name x pos'] e pos) (qpL te (jm i)):=qkp hN hi hx he hs hf
theorem qK (O:Own X.prog X.w X.K X.mg X.base CX k x ps (yd K s)) (ha:DA K X (e::es) tr) (hX:NoX CX:=by assumption) (hr:Room k X.A:=by first | assumption | exact Room.mono (by assumption) 'd') (hg:Gl X x:=by rfl) (hdb:(x == ("__debug__" : Str))=false:=by decide)
  (he:starEach (e::es) X.env=(false,eval e X.env)::starEach es X.env:=by rfl) (hpl:(backTo pos (starEach es X.env)).any (·.1)=false:=by rfl):DE K X (.Call (.Name x p) (e::es) [] pos) (dCB s tr):=d_own O hX hr hg ha hdb he hpl
theorem y7 (O:yQ X.prog X.w X.K X.mg X.base CX k C m ps (yd K s)) (ho:DE K X o to) (ha:DA K X (e::es) tr) (hX:NoX CX:=by assumption) (hr:Room k X.A:=by first | assumption | exact Room.mono (by assumption) 'd')
  (hst:starEach (e::es) X.env=(false,eval e X.env)::starEach es X.env:=by rfl) (hpl:(backTo pos (starEach es X.env)).any (·.1)=false:=by rfl)
  (ht:eval (.Call (.Attribute o m apos) (e::es) [] pos) X.env=(do
   let ov <- eval o X.env
   standAt apos.atName
   let (f,first) <- holding [ov] (getMethod ov m pl)
   callWith pos f first (backTo pos (starEach (e::es) X.env)) (backToKw pos (keywordEach [] X.env))):=by rfl):DE K X (.Call (.Attribute o m apos) (e::es) [] pos) (qmA C m s to tr):=qo3 O hX hr ho ha hst hpl ht
theorem JG {r:R2d}(ho:OpR X (compareOp op) (upR K r)) (ha:DE K X a ta) (hb:DE K X b tb) (hm:behindInMarks op b=false:=by exact qaq _):DE K X (.Compare a [op] [b] pos) (dOp r ta tb):=d_cmp ho ha hb hm
theorem yc {r:R2d}(ho:OpR X (compareOp op) (upR K r)) (ha:DE K X a ta) (hb:DE K X b tb) (hm:behindInMarks op b=false:=by exact qaq _):DT K X (.Compare a [op] [b] pos) (qju (dOp r ta tb)):=qoT ho ha hb hm
end
end L2
local macro_rules | `(tactic| walk_at "i")=>`(tactic| first | refine Jg (fun c=>?_) (fun c=>?_))
namespace K98
def top (i:Nat):Stmt:=PySem.Challenge.pw_halveline_k98_whole_keepers_through_desk.main.body.getD i (.Pass ⟨0,0,0,0⟩)
structure Txt (mg:Str->Option Value):Prop where
 len_:mg "len" = none
 range_:mg "range" = none
 max_:mg "max" = none
 min_:mg "min" = none
 abs_:mg "abs" = none
 int_:mg "int" = none
 isinstance_:mg "isinstance" = none
 tuple_:mg "tuple" = none
 bool_:mg "bool" = none
 list_:mg "list" = none
 all_:mg "all" = none
 any_:mg "any" = none
 set_:mg "set" = none
 sorted_:mg "sorted" = none
 str_:mg "str" = none
 enumerate_:mg "enumerate" = none
 zip_:mg "zip" = none
 divmod_:mg "divmod" = none
abbrev qcb:Stmt:=top 8
abbrev Zj:Stmt:=top 9
abbrev JY:Stmt:=top 10
abbrev qnl:Stmt:=top 11
abbrev Yj:Stmt:=top 12
abbrev ZE:Stmt:=top 13
abbrev Ju:Stmt:=top 14
abbrev qd5:Stmt:=top 16
abbrev qnn:Stmt:=top 17
abbrev qd4:Stmt:=top 18
abbrev qd0:Stmt:=top 19
abbrev qnm:Stmt:=top 20
abbrev qda:Stmt:=top 21
abbrev qfW:Stmt:=top 22
abbrev qb9:Stmt:=top 24
abbrev jE:Stmt:=top 25
abbrev qcc:Stmt:=top 27
abbrev qfR:Stmt:=top 28
abbrev Yi:Stmt:=top 29
abbrev Jt:Stmt:=top 31
abbrev Zk:Stmt:=top 33
abbrev qjU:Stmt:=top 35
abbrev YQ:Stmt:=top 36
abbrev qc9:Stmt:=top 37
abbrev qbj:Stmt:=top 38
abbrev Js:Stmt:=top 39
abbrev qd6:Stmt:=top 42
abbrev YN:Stmt:=top 44
abbrev qaa:Stmt:=top 45
abbrev qac:Stmt:=top 46
abbrev ZF:Stmt:=top 47
abbrev JK:Stmt:=top 48
abbrev qad:Stmt:=top 49
abbrev Zh:Stmt:=top 50
abbrev qaY:Stmt:=top 51
abbrev qaX:Stmt:=top 54
abbrev qbm:Stmt:=top 55
abbrev ZH:Stmt:=top 56
abbrev Yk:Stmt:=top 57
abbrev qae:Stmt:=top 58
abbrev qd9:Stmt:=top 59
abbrev qag:Stmt:=top 60
abbrev qab:Stmt:=top 61
abbrev qb7:Stmt:=top 62
abbrev qb8:Stmt:=top 63
abbrev qbq:Stmt:=top 64
abbrev qa0:Stmt:=top 65
abbrev qa3:Stmt:=top 70
abbrev qah:Stmt:=top 71
abbrev Zn:Stmt:=top 72
abbrev qcf:Stmt:=top 73
abbrev ZI:Stmt:=top 74
abbrev JM:Stmt:=top 75
abbrev qa2:Stmt:=top 76
abbrev Zm:Stmt:=top 77
abbrev Zl:Stmt:=top 78
abbrev qce:Stmt:=top 79
abbrev qa1:Stmt:=top 80
abbrev jN:Stmt:=top 81
abbrev qh1:Stmt:=top 82
abbrev JZ:Stmt:=JP (top 40) 0
abbrev ZJ:Stmt:=JP (top 40) 1
abbrev Y7:Stmt:=JP (top 40) 2
abbrev qaj:Stmt:=JP (top 40) 3
abbrev ZK:Stmt:=JP (top 40) 4
abbrev Zo:Stmt:=JP (top 40) 5
abbrev Ym:Stmt:=JP (top 40) 6
abbrev YI:Stmt:=JP (top 68) 0
abbrev qak:Stmt:=JP (top 68) 1
structure TxtC (K:W.Frag) (mg:Str->Option Value) (CN:Addr):Prop where
 cls_Lacking:mg "Lacking" = some (.ref CN)
 exc:W.excIn K CN bmV "ValueError.__new__" = true
 mN:W.exmOne K (.ref CN) (.ref CN)=some true
abbrev PC0:MO:=.pot 2147483579
def qnE:SpD:=fun es U Q=>∃ (ns:List Int) (k:Nat),es=[.d (.list (ns.map .int)),.d (.int k)]/\ns.length<=63/\∀ c:Int,Q (.d (.int c)) U
def qjW:SpD:=fun es U Q=>∃ (ns:List Int) (k:Nat),es=[.d (.list (ns.map .int)),.d (.int k)]/\ns.length<=63/\k<=63/\∀ p,p∉U.map Prod.fst->Q (.m p) ((p,PC0)::U)
theorem qjw {lo hi:Option Int}{x:PyData}(h:(Z5 (ns.map PyData.int) lo hi)[i]?=some x):∃ y,x = .int y:=by
 obtain⟨y,_,e⟩:=qu.mp (js (jY (List.mem_of_getElem? h)));exact⟨y,e.symm⟩
theorem qlO (F:"_law_cell"^^^qa3) (T:Txt mg):1>>>(nw,yd K qnE):=by
 refine F.okE (N:=nw) fun U Q nd hr Oc=>?_;obtain⟨ns,n,e,hl,k⟩:=Oc;subst e;refine⟨_,(qE (qS (qhB (yc qdA (dv 1) (yy Yv (by rfl) T.len_ Yf (qb (dv 0) qi))) (jf ya (dv 0) (dv 1)) qL))),?_⟩;refine⟨_,.l (.d _),?_⟩;rw[qc];refine Jg (fun c=>?_) (fun c=>k 0);have hc:(n:Int)<(ns.length:Int):=qx c;have hn2:n<ns.length:=by lia
 exact⟨.int ns[n],yf (by rw[qY,qh hn2];rfl),k ns[n]⟩
theorem qiO (F:"_law_store"^^^qah) (T:Txt mg) (hX:NoX CX) (OV:1<<<("_law_cell",nw,yd K qnE)):2>>>(nw,yd K qjW):=by
 refine F.okE (N:=["_law_script", "_law_k", "_law_mixed", "_law_cell_here"]) fun U Q nd hr Oc=>?_;obtain⟨ns,n,e,hl,hn,k⟩:=Oc;subst e;refine⟨_,(qq (qT 2 (y9 Yc qL (y9 Jm qL (dv 1))))
   (qq (YJ PassesOwn.never rfl (ji (Jw (dv 0) Ys (jW qL))) (jp (i:=3) nd) (qE (qT 2 (y9 qht (y9 Yc (y9 Jm (dv 2) qL) (dv 3)) qL))))
   (qE (qhs (qhz (qb (yy (qhw rfl) (by rfl) T.max_ qeF (qb qL (qb (y9 JC (qK OV (qb (dv 0) (qb (dv 1) qi))) (y9 Ze qL qL)) qi))) (qb (dv 2) qi))))))),?_⟩
 refine⟨⟨qh6 'd' 'd',qh6 'l' 'l'⟩,_,.d _,_,.d _,?_⟩;refine qpK (fun i Y' U'=>U'=U/\∃ (z:Int) (v:Option En),Y'=[some (.d (.list (ns.map .int))),some (.d (.int n)),some (.d (.int z)),v]/\0<=z/\z<2147483579) ⟨rfl,_,_,rfl,'l','l'⟩ (fun _ _ _ _=>.d _) ?_ ?_
 .rintro i x Y' U' hx ⟨rfl,z,v,rfl,z0,z1⟩;obtain⟨y,rfl⟩:=qjw hx;have g0:0<=(z * 51239+y) % 2147483543:=Int.emod_nonneg _ 'd';have g1:(z * 51239+y) % 2147483543<2147483543:=Int.emod_lt_of_pos _ 'd';exact⟨⟨qh6 'l' 'l',qh6 'd' 'd'⟩,(show (0:Int)<2147483543 by decide),Wks.of ⟨rfl,_,_,rfl,g0,'l'⟩⟩
 .rintro Y' U' ⟨rfl,z,v,rfl,z0,z1⟩;refine⟨ns,n,rfl,hl,fun c=>⟨⟨'d','d','d'⟩,zl2,fun p hp=>⟨_,_,FzR.pot ?_ z0 z1,k p hp⟩⟩⟩;dsimp only;split <;> lia
theorem qf0:FnScope ["_law_store_here", "_law_many", "_law_digit"] nh (qR Zn):=by trivial
theorem qlN (F:"_law_draw"^^^Zn) (T:Txt mg):1>>>(nh,yd K (qdc 2147483579)):=by
 refine FnOk.imp (sp:=qfS 2147483579) ?_ fun _ _ _ _ h=>qmk h;refine F.okG qf0 (fun vs H Q E h=>?_) (fun Oy A outer s H vs Q E hr h=>?_)
 .obtain ⟨p,m,rfl,_⟩:=h;rfl
 .obtain ⟨p,m,rfl,⟨p0,p1,e,h0,h1,h2⟩,m0,m1,k⟩:=h;have nd:=qf0.nd;refine⟨_,(yG (qgf (qgc qol (qeV Zz (pv 0) Jk (fun _ _=>rfl)) Jk (qaq _)) (yG (qgg (qei qdO (by rfl) T.divmod_ qhQ (Yn (qeV Zz (pv 0) Jk (fun _ _=>rfl)) (Yn (pv 1) qci))) (qj9 rfl (qbt (qgn (pv 0) Jk qbn) (qbt (qgo (i:=2) nd rfl 't') qgm))))
   (jn (Y8 (pv 2)))) qdf)
   (yG (qgg (qch qek (qch qgu (qch qdk (qeV Zz (pv 0) Jk (fun _ _=>rfl)) Jk) Jk) Jk) (qgn (pv 0) Jk qbn))
   (jn (Y8 (qch qek (qch qlx (qch qek (qch qdk (qeV Zz (pv 0) Jk (fun _ _=>rfl)) (qeV Zz (pv 0) Jk (fun _ _=>rfl))) Jk) Jk) (pv 1)))))),?_⟩
  refine⟨_,rfl,p,_,_,_,rfl,rfl,SqL.of e,rfl,_,_,rfl,rfl,_,rfl,?_⟩;refine Jg (fun c=>?_) (fun c=>?_)
  .have hc:0<p0:=qx c;refine⟨_,rfl,p,_,_,_,rfl,rfl,SqL.of e,rfl,_,rfl,_,_,rfl,⟨m0,'l'⟩,fun t ht=>?_⟩;have e':=yr.upd (o:=.tup [.int (p0 / m),.int (p0 % m)]) ht _ _ e;refine⟨t,_,rfl,SqT.of yg,rfl,_,_,rfl,_,rfl,p,_,_,_,rfl,rfl,e',rfl,_,_,rfl,rfl,?_⟩;refine⟨_,rfl,?_⟩;refine k _ _ (Int.emod_nonneg _ 'l') (Int.emod_lt_of_pos _ m0) ⟨p0 / m,p1,yg,Int.ediv_nonneg h0 'l',h1,h2⟩ ((yr.upd ht).stp.trans Stp.upd)
  .refine ⟨_,rfl,p,_,_,_,rfl,rfl,SqL.of e,rfl,_,_,rfl,rfl,⟨Big.of 2147483579 'd' 'l' 'l',Big.of 40487 'd' 'd' 'd'⟩,_,_,rfl,rfl,_,_,rfl,rfl,(show (0:Int)<2147483579 by decide),_,rfl,p,_,_,_,rfl,rfl,e,rfl,?_⟩;have g0:0<=(p1 * 40487+9973) % 2147483579:=Int.emod_nonneg _ 'd';have g1:(p1 * 40487+9973) % 2147483579<2147483579:=Int.emod_lt_of_pos _ 'd';have e':∀ z,(upd H p (.lst [V.int p0,V.int z])) p=some (.lst [V.int p0,V.int z]):=fun z=>yg;refine⟨_,rfl,p,_,_,_,rfl,rfl,SqL.of (e' _),rfl,_,rfl,p,_,_,_,rfl,rfl,SqL.of (e' _),rfl,_,_,rfl,rfl,⟨Big.of 2147483579 'd' 'l' 'l',Big.of 2147483579 'd' 'l' 'l'⟩,_,_,rfl,rfl,(show (0:Int)<2147483549 by decide),_,_,rfl,rfl,⟨'d','d'⟩,_,rfl,_,_,rfl,rfl,m0,?_⟩;exact k _ _ (Int.emod_nonneg _ 'l') (Int.emod_lt_of_pos _ m0) ⟨p0,_,e' _,h0,g0,g1⟩ Stp.upd
theorem e8:(10:Int) ^ (8:Int).toNat=100000000:=by decide
theorem e30:(10:Int) ^ (30:Int).toNat=1000000000000000000000000000000:=by decide
theorem qov (F:"_law_far"^^^qcf) (T:Txt mg) (hX:NoX CX) (Od:1<<<("_law_draw",nh,yd K (qdc 2147483579))):2>>>(nM,yd K (qpz 2147483579)):=by
 refine F.okE (N:=["_law_store_here", "_law_found", "_law_k"]) fun U Q nd hr Oc=>?_;obtain⟨p,e,hp,k⟩:=Oc;subst e;refine⟨_,(qq (qT 1 qL)
   (qq (YJ PassesOwn.never rfl (JE rfl T.range_ (qb qL qi)) (jp (i:=2) nd) (qE (qT 1 (y9 Yc (y9 Jm (dv 1) (y9 Ze qL qL)) (qK Od (qb (dv 0) (qb (y9 Ze qL qL) qi)))))))
   (qE (qS (y9 Yc (y9 JC (y9 qht (dv 1) (y9 JC (y9 Jm qL (y9 Ze qL qL)) qL)) (y9 Ze qL qL)) qL))))),?_⟩
 refine⟨'d','d',qmS (fun i Y' U'=>U'=U/\∃ (z:Int) (v:Option En),Y'=[some (.m p),some (.d (.int z)),v]/\0<=z/\z<100000000 ^ i) ⟨rfl,0,none,rfl,'d','d'⟩ ?_ ?_⟩
 .rintro i Y' U' hi ⟨rfl,z,v,rfl,z0,z1⟩;have hb:z<10000000000000000000000000000000000000000:=by
   have:i=0\/i=1\/i=2\/i=3:=by have hi:i<4:=hi;lia
   rcases this with rfl | rfl | rfl | rfl <;> simp at z1 <;> lia
  refine⟨⟨'d','d','d'⟩,⟨qh6 'l' 'l',by rw[e8];exact qh6 'd' 'd'⟩,⟨'d','d','d'⟩,p,_,rfl,hp,by rw[e8];decide,by rw[e8];decide,fun d d0 d1=>Wks.of ⟨rfl,_,_,rfl,?_,?_⟩⟩
  .rw [e8] at *;lia
  .rw [e8] at *;rw[Int.pow_succ];generalize (100000000:Int) ^ i=y at z1;lia
 .rintro Y' U' ⟨rfl,z,v,rfl,z0,z1⟩;refine⟨⟨'d','d','d'⟩,⟨qh6 'd' 'd',by rw[e30];exact qh6 'd' 'd'⟩,by rw[e30];show (0:Int)<2 * 1000000000000000000000000000000 - 1;decide,⟨'d','d','d'⟩,k _ ?_⟩;rw[e30];unfold Num;lia
end K98
namespace K98
variable {ps:List Pt}{a:Int}{p:Pt}
theorem qgw (F:"_law_number"^^^ZI) (hX:NoX CX) (Od:1<<<("_law_draw",nh,yd K (qdc 2147483579))) (Ma:2<<<("_law_far",nM,yd K (qpz 2147483579))):3>>>(nM,yd K (qpz 2147483579)):=by
 refine F.okE (N:=["_law_store_here", "_law_way"]) fun U Q nd hr Oc=>?_;obtain⟨p,e,hp,k⟩:=Oc;subst e;refine⟨_,(qq (qT 1 (qK Od (qb (dv 0) (qb qL qi))))
   (qq (yY (yc (Jc hr.units) (dv 1) qL) (qE (qS (qK Ma (qb (dv 0) qi)))) yA)
   (qq (yY (yc (Jc hr.units) (dv 1) qL) (qE (qS (jf ya (Jx (qb (y9 JC (y9 Ze qL qL) qL) (qb (y9 JC qL (y9 Ze qL qL)) qi))) (qK Od (qb (dv 0) (qb qL qi)))))) yA)
   (qE (qS (y9 JC (qK Od (qb (dv 0) (qb qL qi))) qL)))))),?_⟩
 refine⟨p,_,rfl,hp,'d','d',fun d d0 d1=>Jg (fun c=>?_) (fun c=>Jg (fun c=>?_) (fun c=>?_))⟩
 .exact ⟨p,rfl,hp,fun n hn=>k n hn⟩
 .refine ⟨⟨'d','d','d'⟩,⟨'d','d','d'⟩,zl2,p,_,rfl,hp,'d','d',fun d d0 d1=>?_⟩;have:d=0\/d=1:=by omega
  rcases this with rfl | rfl
  .refine ⟨_,rfl,k (10 ^ (30:Int).toNat - 1) ?_⟩;rw[e30];unfold Num;omega
  .refine ⟨_,rfl,k (1 - 10 ^ (30:Int).toNat) ?_⟩;rw[e30];unfold Num;omega
 .refine ⟨p,_,rfl,hp,'d','d',fun d d0 d1=>k _ ?_⟩;unfold Num;omega
def qf2:SpD:=fun es U Q=>∃ (p:Addr) (ps:List Pt),es=[.m p,.d (.list (ps.map ptD))]/\(p,PC0)∈U/\ps.length<=100/\(∀ q∈ps,Jf q)/\∀ q,Jf q->Q (.d (ptD q)) U
theorem qhR {d:Int}(d0:0<=d) (d1:d<((ps.map ptD).length:Int)):∃ q∈ps,atI (ps.map ptD) d=some (ptD q):=by
 rw[qc] at d1;have hd:d.toNat<ps.length:=by omega
 refine⟨ps[d.toNat],yh hd,?_⟩;have:=yf (xs:=ps.map ptD) (j:=d.toNat) (v:=ptD ps[d.toNat]) (by rw[qY,qh hd];rfl);rwa[show ((d.toNat:Nat):Int)=d by omega] at this
theorem qkF (h1:1<=j) (h2:j<=ps.length):∃ q∈ps,atI (ps.map ptD) (-(j:Int))=some (ptD q):=by
 have hd:ps.length - j<ps.length:=by omega
 refine⟨ps[ps.length - j],yh hd,?_⟩;have e:ixN (ps.map ptD).length (-(j:Int))=some (ps.length - j):=by
  unfold ixN;rw[qc,if_neg 'o',if_pos 'o'];congr 1;omega
 unfold atI;rw[e];show (ps.map ptD)[ps.length - j]?=_;rw[qY,qh hd];rfl
theorem mul2 (h:Num a):qh0 2 a:=by
 obtain⟨h1,h2⟩:=h;exact⟨qh6 'd' 'd',qh6 'o' 'o'⟩
theorem qkd (c:(!PyData.eqv (.list (ps.map ptD)) (.list []))=true):0<ps.length:=by
 cases ps with
 | nil=>exact absurd c 'd'
 | cons a b=>simp
theorem qiR (F:"_law_point"^^^JM) (T:Txt mg) (hX:NoX CX) (Od:1<<<("_law_draw",nh,yd K (qdc 2147483579))) (Ot:3<<<("_law_number",nM,yd K (qpz 2147483579))):4>>>(nG,yd K qf2):=by
 refine F.okE (N:=nH) ?_;intro Oy A outer s H E es U Q nd hr hZ;obtain⟨p,ps,e,hp,hl,hb,k⟩:=hZ;subst e;have hz:((ps.map ptD).length:Int)<=100000000:=by rw[qc];omega
 have key:∃ t,DSs K (ZT CX P w K mg base nH "_law_point" (qR JM) f Oy A outer s H E).nox ((yP JM).drop 4) t ∧
   ∀ (v1 v2 v3:Option En),t { nx:=fun _ U'=>Q (.d .none) U',rt:=Q } [some (.m p),some (.d (.list (ps.map ptD))),v1,v2,v3] U:=by
  refine⟨_,(qE (qS (ZS (qb (qK Ot (qb (dv 0) qi)) (qb (qK Ot (qb (dv 0) qi)) qi))))),fun v1 v2 v3=>?_⟩;exact⟨p,rfl,hp,fun a ha=>⟨p,rfl,hp,fun b hb=>⟨zl2,k (a,b) ⟨ha,hb⟩⟩⟩⟩
 obtain⟨t,ht,hk⟩:=key;refine⟨_,(qq (qT 2 (qK Od (qb (dv 0) (qb qL qi))))
   (qq (yY (qcE (Zd (yc (Jc hr.units) (dv 2) qL) (JT (yc (JD hr.units) (dv 1) (Jx qi))))) (qE (qS (jf ya (dv 1) (qK Od (qb (dv 0) (qb (yy Yv (by rfl) T.len_ Yf (qb (dv 1) qi)) qi)))))) yA)
   (qq (yY (qcE (Zd (yc (Jc hr.units) (dv 2) qL) (JT (yc (JD hr.units) (dv 1) (Jx qi))))) (qq (YK (jf ya (dv 1) (qK Od (qb (dv 0) (qb (yy Yv (by rfl) T.len_ Yf (qb (dv 1) qi)) qi)))) (Jn (n:=2) rfl (yn (jp (i:=3) nd) (yn (jp (i:=4) nd) jG))))
   (qE (qS (jf ya (Jx (qb (ZS (qb (dv 3) (qb (qK Ot (qb (dv 0) qi)) qi))) (qb (ZS (qb (qK Ot (qb (dv 0) qi)) (qb (dv 4) qi))) qi))) (qK Od (qb (dv 0) (qb qL qi))))))) yA)
   (qq (yY (qcE (Zd (yc (Jc hr.units) (dv 2) qL) (JT (yc qjn (yy Yv (by rfl) T.len_ Yf (qb (dv 1) qi)) qL)))) (qq (qkq (i:=3) (j:=4) rfl nd rfl rfl 'd' rfl rfl (qb (y9 JC (y9 Jm qL (jf ya (jf ya (dv 1) (qmq qaH qL)) qL)) (jf ya (jf ya (dv 1) (qmq qaH qL)) qL)) (qb (y9 JC (y9 Jm qL (jf ya (jf ya (dv 1) (qmq qaH qL)) qL)) (jf ya (jf ya (dv 1) (qmq qaH qL)) qL)) qi)) rfl)
   (qE (yY (yc qdA (yy (qhw rfl) (by rfl) T.max_ qeF (qb (yy qcF (by rfl) T.abs_ qcT (qb (dv 3) qi)) (qb (yy qcF (by rfl) T.abs_ qcT (qb (dv 4) qi)) qi))) (y9 Ze qL qL)) (qE (qS (ZS (qb (dv 3) (qb (dv 4) qi))))) yA))) yA)
   ht)))),?_⟩
 refine⟨p,7,rfl,hp,'d','d',fun wy w0 w1=>?_⟩;refine Jg (fun c=>?_) (fun c=>?_)
 .refine ⟨zl0,_,_,.d _,.d _,qaZ ps,rfl,Jg (fun c2=>?_) (fun c2=>?_)⟩
  .have hne:=qkd c2;refine⟨_,.l (.d _),p,_,rfl,hp,(by show (0:Int)<((ps.map ptD).length:Int);rw[qc];omega),hz,fun d d0 d1=>?_⟩;obtain⟨q,hq,e⟩:=qhR d0 d1;exact⟨_,e,k q (hb q hq)⟩
  .have c:wy=0:=qx c;subst c;exact hk _ _ _
 .refine Zf (Jg (fun c2=>?_) (fun c2=>Zf ?_))
  .have c2:wy=1:=qx c2;refine⟨zl0,_,_,.d _,.d _,qaZ ps,rfl,Jg (fun c3=>?_) (fun c3=>?_)⟩
   .have hne:=qkd c3;refine⟨_,.l (.d _),p,_,rfl,hp,(by show (0:Int)<((ps.map ptD).length:Int);rw[qc];omega),hz,fun d d0 d1=>?_⟩;obtain⟨q,hq,e⟩:=qhR d0 d1;have hq:=hb q hq;refine⟨_,e,rfl,p,rfl,hp,fun a ha=>⟨zl2,p,rfl,hp,fun b hb=>⟨zl2,zl2,p,_,rfl,hp,'d','d',fun d d0 d1=>?_⟩⟩⟩;have:d=0\/d=1:=by omega
    rcases this with rfl | rfl
    .exact ⟨_,rfl,k (q.1,a) ⟨hq.1,ha⟩⟩
    .exact ⟨_,rfl,k (b,q.2) ⟨hb,hq.2⟩⟩
   .subst c2;exact hk _ _ _
  .refine Jg (fun c3=>?_) (fun c3=>Zf (hk _ _ _));refine⟨_,.l (.d _),Jg (fun c4=>?_) (fun c4=>hk _ _ _)⟩;have c4:(1:Int)<((ps.map ptD).length:Int):=qx c4;rw[qc] at c4;obtain⟨q1,hq1,e1⟩:=qkF (ps:=ps) (j:=1) 'o' 'o';obtain⟨q2,hq2,e2⟩:=qkF (ps:=ps) (j:=2) 'o' 'o';have b1:=hb q1 hq1;have b2:=hb q2 hq2;refine⟨_,e1,_,rfl,mul2 b1.1,_,e2,_,rfl,_,e1,_,rfl,mul2 b1.2,_,e2,_,rfl,?_⟩;refine⟨⟨'d','d','d'⟩,Jg (fun c5=>?_) (fun c5=>hk _ _ _)⟩;have c5:(if ((2 * q1.1 - q2.1).natAbs:Int)<((2 * q1.2 - q2.2).natAbs:Int) then ((2 * q1.2 - q2.2).natAbs:Int) else ((2 * q1.1 - q2.1).natAbs:Int))<10 ^ (30:Int).toNat:=qx c5;rw[e30] at c5;refine⟨zl2,k (2 * q1.1 - q2.1,2 * q1.2 - q2.2) ⟨?_,?_⟩⟩
   .unfold Num;dsimp only;split at c5 <;> omega
   .unfold Num;dsimp only;split at c5 <;> omega
def qnC:SpD:=fun es U Q=>∃ (p:Addr) (ks:List Pt),es=[.m p,.d (.list (ks.map ptD))]/\(p,PC0)∈U/\ks.length<=40/\(∀ q∈ks,Jf q)/\∀ ps:List Pt,ps.length<=6->(∀ q∈ps,Jf q)->Q (.d (.list (ps.map ptD))) U
theorem qlM (F:"_law_heap"^^^qa2) (T:Txt mg) (hX:NoX CX) (Od:1<<<("_law_draw",nh,yd K (qdc 2147483579))) (Os:4<<<("_law_point",nG,yd K qf2)):5>>>(["_law_store_here", "_law_known"],yd K qnC):=by
 refine F.okE (N:=["_law_store_here", "_law_known", "_law_heap_here", "_law_k"]) fun U Q nd hr Oc=>?_;obtain⟨p,ks,e,hp,hl,hb,k⟩:=Oc;subst e;refine⟨_,(qq (qT 2 (qhz qi))
   (qq (YJ PassesOwn.never rfl (JE rfl T.range_ (qb (qK Od (qb (dv 0) (qb qL qi))) qi)) (jp (i:=3) nd) (qE (JU (qjt (dv 2) (qb (qK Os (qb (dv 0) (qb (y9 ZQ (dv 1) (dv 2)) qi))) qi) (h:=fun a b=>qam PySem.F.plainAttrs_list PySem.F.slot_list_append PySem.F.type_list_append qgM a b)))))
   (qE (qhs (dv 2))))),?_⟩
 refine⟨zl0,fun l hl'=>?_⟩;have hp1:∀ o,(p,PC0)∈(l,o)::U:=fun o=>qe _ hp;refine⟨p,_,rfl,hp1 _,'d','d',fun n n0 n1=>⟨'o','o',?_⟩⟩;refine qmS (fun i Y' U'=>∃ ps:List Pt,U'=(l,.lst (ps.map ptD))::U/\ps.length=i/\(∀ q∈ps,Jf q)/\∃ v1,Y'=[some (.m p),some (.d (.list (ks.map ptD))),some (.m l),v1])
  ⟨[],rfl,rfl,fun _ h=>(nomatch h),_,rfl⟩ ?_ ?_
 .rintro i Y' U' hi ⟨ps,rfl,hlen,hps,v1,rfl⟩;have hi:i<n.toNat:=hi;refine⟨⟨_,qj⟩,_,_,.d _,.m qj,?_,p,ks++ps,?_,hp1 _,?_,fun q hq=>?_,fun q hq=>⟨[],_,_,rfl,?_,?_⟩⟩
  .rw [qc,qc];omega
  .rw [ye]
  .rw [qr];omega
  .rcases qG.mp hq with z | z
   .exact hb q z
   .exact hps q z
  .rw [qc];omega
  .refine Wks.of ⟨ps++[q],by rw[ye];rfl,by simp;omega,fun z hz=>?_,_,rfl⟩;rcases qG.mp hz with h | h
   .exact hps z h
   .rw [qJ.mp h];exact hq
 .rintro Y' U' ⟨ps,rfl,hlen,hps,v1,rfl⟩;have hlen:ps.length=n.toNat:=hlen;exact⟨_,_,FzR.list1,k ps 'o' hps⟩
def sGcd:SpD:=fun es U Q=>∃ a b:Int,es=[.d (.int a),.d (.int b)]/\Q (.d (.int (Int.gcd a b:Nat))) U
def qnw:SpD:=fun es U Q=>∃ a b:Int,es=[.d (.int a),.d (.int b)]/\(a≠0\/b≠0)/\a.natAbs<=10000000000000000000000000000000000000000/\b.natAbs<=10000000000000000000000000000000000000000/\Q (.d (ptD (nrm a b))) U
def nOf (p q:Pt):Pt:=nrm (q.2 - p.2) (p.1 - q.1)
def thr (p q:Pt):List Int:=[(nOf p q).1,(nOf p q).2,(nOf p q).1 * p.1+(nOf p q).2 * p.2]
abbrev B40:Nat:=10000000000000000000000000000000000000000
def sThr:SpD:=fun es U Q=>∃ p q:Pt,es=[.d (ptD p),.d (ptD q)]/\Bd 1000000000000000000000000000000 p/\Bd 1000000000000000000000000000000 q/\p≠q/\Q (.d (JX (thr p q))) U
theorem qkt (h:p≠q):q.2 - p.2≠0\/p.1 - q.1≠0:=by
 by_cases z:q.2 - p.2=0
 .refine .inr fun z2=>h ?_;have e1:p.1=q.1:=by omega
  have e2:p.2=q.2:=by omega
  exact Prod.ext e1 e2
 .exact .inl z
theorem qbA {b:Int}(ha:a.natAbs<=1000000000000000000000000000000) (hb:b.natAbs<=1000000000000000000000000000000):(a - b).natAbs<=2000000000000000000000000000000:=by omega
theorem qgD (ha:a.natAbs<=1000000000000000000000000000000):a.natAbs<=1000000000000000000000000000000:=ha
theorem qke (hp:Bd 1000000000000000000000000000000 p) (hq:Bd 1000000000000000000000000000000 q) (h:p≠q):Bd 2000000000000000000000000000000 (nOf p q):=qkc (qkt h) (qbA hq.2 hp.2) (qbA hp.1 hq.1)
theorem b40:B40<2 ^ 1000:=by decide +kernel
theorem qe6 {b:Int}(ha:a.natAbs<=B40) (hb:b.natAbs<=B40):qh0 a b:=⟨yJ ha b40,yJ hb b40⟩
theorem qko : PyData.eqv (ptD p) (ptD q)=decide (p=q):=by
 obtain⟨a,b⟩:=p;obtain⟨c,d⟩:=q;simp only[ptD,PyData.eqv,PyData.eqvAll,Prod.mk.injEq];by_cases h1:a=c <;> by_cases h2:b=d <;> simp[h1,h2]
theorem ok_cd (F:"common_divisor"^^^Yj) (T:Txt mg):1>>>(n8,yd K sGcd):=by
 refine F.okE (N:=["one", "other", "divisor", "rest"]) fun U Q nd hr Oc=>?_;obtain⟨a,b,e,k⟩:=Oc;subst e;refine⟨_,(qq (qT 2 (yy qcF (by rfl) T.abs_ qcT (qb (dv 0) qi)))
   (qq (qT 3 (yy qcF (by rfl) T.abs_ qcT (qb (dv 1) qi)))
   (qq (qjk PassesOwn.never (yc (JD hr.units) (dv 3) qL) (qE (qkq (i:=2) (j:=3) rfl nd rfl rfl 'd' rfl rfl (qb (dv 3) (qb (y9 qht (dv 2) (dv 3)) qi)) rfl)))
   (qE (qS (dv 2)))))),?_⟩
 refine⟨fun m Y' U'=>U'=U/\∃ f r:Nat,Y'=[some (.d (.int a)),some (.d (.int b)),some (.d (.int f)),some (.d (.int r))]/\m=r/\Nat.gcd f r=Int.gcd a b,⟨_,rfl,_,_,rfl,rfl,rfl⟩,?_⟩;rintro m Y' U' ⟨rfl,f,r,rfl,rfl,g⟩;refine Jg (fun c=>?_) (fun c=>?_)
 .have hm:m≠0:=by
   rintro rfl;exact absurd c 'd'
  refine⟨(show (0:Int)<(m:Int) by omega),f % m,Nat.mod_lt _ 'o',Wks.of ⟨rfl,m,f % m,?_,rfl,by rw[qjf];exact g⟩⟩;rw[Int.natCast_emod];rfl
 .have:m=0:=by
   by_cases z:m=0
   .exact z
   .exact absurd (show (!decide ((m:Int)=0))=true by simp;omega) c
  subst this;rw[Nat.gcd_zero_right] at g;subst g;exact k
theorem qlH (F:"lead"^^^qnn) (hX:NoX CX) (Om:1<<<("common_divisor",n8,yd K sGcd)):2>>>(["a", "b"],yd K qnw):=by
 refine F.okE (N:=["a", "b", "divisor"]) fun U Q nd hr Oc=>?_;obtain⟨a,b,e,h0,ha,hb,k⟩:=Oc;subst e;have d0:=qaG h0;have dB:(dvs a b).natAbs<=B40:=by rw[qhr];exact qhf h0 ha hb
 have dC:∀ z,qjM z (dvs a b):=fun z=>qew b40 d0 dB;refine⟨_,(qq (qT 2 (qK Om (qb (dv 0) (qb (dv 1) qi))))
   (qq (yY (qcE (qaS (yc qdA (dv 0) qL) (ZP (qcE (Zd (yc (Jc hr.units) (dv 0) qL) (JT (yc qdA (dv 1) qL))))))) (qE (qT 2 (qmq qaH (dv 2)))) yA)
   (qE (qS (ZS (qb (y9 qdB (dv 0) (dv 2)) (qb (y9 qdB (dv 1) (dv 2)) qi))))))),?_⟩
 refine⟨a,b,rfl,?_⟩;refine Jg (fun c=>?_) (fun c=>?_)
 .have c:a<0:=qx c;refine Z1 ?_;have e:-(Int.gcd a b:Int)=dvs a b:=by unfold dvs;rw[if_pos (.inl c)]
  exact⟨by rw[e];exact dC _,by rw[e];exact dC _,zl2,by rw[e];exact k⟩
 .have c:¬ a<0:=fun z=>c (qH z);refine Jg (fun c2=>?_) (fun c2=>?_)
  .have c2:a=0:=qx c2;refine Jg (fun c3=>?_) (fun c3=>?_)
   .have c3:b<0:=qx c3;have e:-(Int.gcd a b:Int)=dvs a b:=by unfold dvs;rw[if_pos (.inr ⟨c2,c3⟩)]
    exact⟨by rw[e];exact dC _,by rw[e];exact dC _,zl2,by rw[e];exact k⟩
   .have c3:¬ b<0:=fun z=>c3 (qH z);have e:(Int.gcd a b:Int)=dvs a b:=by unfold dvs;rw[if_neg 'o']
    exact⟨by rw[e];exact dC _,by rw[e];exact dC _,zl2,by rw[e];exact k⟩
  .have c2:¬ a=0:=fun z=>c2 (qH z);have e:(Int.gcd a b:Int)=dvs a b:=by unfold dvs;rw[if_neg 'o']
   refine Zf ?_;exact⟨by rw[e];exact dC _,by rw[e];exact dC _,zl2,by rw[e];exact k⟩
theorem qeZ (F:"through"^^^qd0) (hX:NoX CX) (Mt:2<<<("lead",["a", "b"],yd K qnw)):3>>>(n8,yd K sThr):=by
 refine F.okE (N:=["one", "other", "x", "y", "a", "b"]) fun U Q nd hr Oc=>?_;obtain⟨p,q,e,hp,hq,h0,k⟩:=Oc;subst e;refine⟨_,(qq (yY (yc (Jc hr.units) (dv 0) (dv 1)) (qE jF) yA)
   (qq (YK (dv 0) (Jn (n:=2) rfl (yn (jp (i:=2) nd) (yn (jp (i:=3) nd) jG))))
   (qq (YK (qK Mt (qb (y9 JC (jf ya (dv 1) qL) (dv 3)) (qb (y9 JC (dv 2) (jf ya (dv 1) qL)) qi))) (Jn (n:=2) rfl (yn (jp (i:=4) nd) (yn (jp (i:=5) nd) jG))))
   (qE (qS (ZS (qb (dv 4) (qb (dv 5) (qb (y9 Yc (y9 Jm (dv 4) (dv 2)) (y9 Jm (dv 5) (dv 3))) qi))))))))),?_⟩
 have hb:=qke hp hq h0;have h1:=qbA hq.2 hp.2;have h2:=qbA hp.1 hq.1;have h3:=qgD hp.1;have h4:=qgD hp.2;refine⟨_,_,.d _,.d _,qcd p,qcd q,Jg (fun c=>?_) (fun c=>?_)⟩
 .have c:PyData.eqv (ptD p) (ptD q)=true:=c;rw[qko] at c;exact absurd (qx c) h0
 refine⟨rfl,_,rfl,_,rfl,_,_,rfl,qkt h0,?_,?_,rfl,?_⟩
 .exact qz h1 'd'
 .exact qz h2 'd'
 .refine ⟨qe6 (qz hb.1 'd') (qz h3 'd'),qe6 (qz hb.2 'd') (qz h4 'd'),zl3,k⟩
end K98
namespace K98
variable {ps qs:List Pt}{ks:List (List Int)}
abbrev B30:Nat:=1000000000000000000000000000000
def hpD (ps:List Pt):PyData:=.list (ps.map ptD)
def Bds (ps:List Pt):Prop:=∀ q∈ps,Bd B30 q
def qns:SpD:=fun es U Q=>∃ n:Int,es=[.d (.int n)]/\Q (.d (.int n.sign)) U
theorem qlC (F:"sign"^^^qnl):1>>>(["number"],yd K qns):=by
 refine F.okE (N:=["number"]) fun U Q nd hr Oc=>?_;obtain⟨a,e,k⟩:=Oc;subst e;refine⟨_,(qq (yY (yc qjn (dv 0) qL) (qE (qS qL)) yA)
   (qq (yY (yc qdA (dv 0) qL) (qE (qS (qmq qaH qL))) yA)
   (qE (qS qL)))),?_⟩
 refine Jg (fun c=>?_) (fun c=>Jg (fun c2=>?_) (fun c2=>?_))
 .have c:0<a:=qx c;rw[Int.sign_eq_one_of_pos c] at k;exact k
 .have c2:a<0:=qx c2;rw[Int.sign_eq_neg_one_of_neg c2] at k;exact k
 .have c:¬ 0<a:=fun z=>c (qH z);have c2:¬ a<0:=fun z=>c2 (qH z);have:a=0:=by lia
  subst this;exact k
def qnt:SpD:=fun es U Q=>∃ (a b c:Int) (q:Pt),es=[.d (JX [a,b,c]),.d (ptD q)]/\a.natAbs<=B40/\b.natAbs<=B40/\Bd B30 q/\Q (.d (.int (a * q.1+b * q.2 - c).sign)) U
theorem qlD (F:"side"^^^qnm) (hX:NoX CX) (Mv:1<<<("sign",["number"],yd K qns)):2>>>(["line", "point"],yd K qnt):=by
 refine F.okE (N:=["line", "point", "a", "b", "c", "x", "y"]) fun U Q nd hr Oc=>?_;obtain⟨a,b,c,q,e,ha,hb,hq,k⟩:=Oc;subst e;refine⟨_,(qq (YK (dv 0) (Jn (n:=3) rfl (yn (jp (i:=2) nd) (yn (jp (i:=3) nd) (yn (jp (i:=4) nd) jG)))))
   (qq (YK (dv 1) (Jn (n:=2) rfl (yn (jp (i:=5) nd) (yn (jp (i:=6) nd) jG))))
   (qE (qS (qK Mv (qb (y9 JC (y9 Yc (y9 Jm (dv 2) (dv 5)) (y9 Jm (dv 3) (dv 6))) (dv 4)) qi)))))),?_⟩
 exact⟨rfl,rfl,qe6 ha (qz hq.1 'd'),qe6 hb (qz hq.2 'd'),_,rfl,k⟩
def sSC:SpD:=fun es U Q=>∃ ns:List Int,es=[.d (.list (ns.map .int))]/\Q (.d (.tuple [.int (ns.count (-1):Nat),.int (ns.count 0:Nat),.int (ns.count 1:Nat)])) U
theorem qon (F:"sign_counts"^^^ZE):1>>>(["signs"],yd K sSC):=by
 refine F.okE (N:=["signs"]) fun U Q nd hr Oc=>?_;obtain⟨ns,e,k⟩:=Oc;subst e;refine⟨_,(qE (qS (ZS (qb (qdI (dv 0) (qb (qmq qaH qL) qi) (h:=fun a b=>qam PySem.F.plainAttrs_list PySem.F.slot_list_count PySem.F.type_list_count qbD a b)) (qb (qdI (dv 0) (qb qL qi) (h:=fun a b=>qam PySem.F.plainAttrs_list PySem.F.slot_list_count PySem.F.type_list_count qbD a b)) (qb (qdI (dv 0) (qb qL qi) (h:=fun a b=>qam PySem.F.plainAttrs_list PySem.F.slot_list_count PySem.F.type_list_count qbD a b)) qi)))))),?_⟩;exact⟨ns,.d _,.d _,ns,.d _,.d _,ns,.d _,.d _,zl3,k⟩
def sEv:SpD:=fun es U Q=>∃ a b c:Nat,es=[.d (.tuple [.int a,.int b,.int c])]/\a<=4000/\c<=4000/\Q (.d (.bool (decide (2 * a<=a+b+c) && decide (2 * c<=a+b+c)))) U
theorem qnp:FnScope ["shares", "below", "on", "above", "many"] ["shares"] (qR Ju):=by trivial
theorem ok_ev (F:"is_even_share"^^^Ju):1>>>(["shares"],yd K sEv):=by
 refine F.okD qnp 't' (fun Oy A outer s0 H E es U Q hr Mz=>?_);obtain⟨a,b,c,e,ha,hc,k⟩:=Mz;subst e;have nd:=qnp.nd;refine⟨_,(qq (YK (dv 0) (Jn (n:=3) rfl (yn (jp (i:=1) nd) (yn (jp (i:=2) nd) (yn (jp (i:=3) nd) jG)))))
   (qq (qT 4 (y9 Yc (y9 Yc (dv 1) (dv 2)) (dv 3)))
   (qE (qS (qfj (JG qjl (y9 Jm qL (dv 1)) (dv 4)) (qaJ (JG qjl (y9 Jm qL (dv 3)) (dv 4)))))))),?_⟩
 have m2:∀ z:Nat,z<=4000->qh0 2 (z:Int):=fun z hz=>qe6 'd' (qz (show ((z:Nat):Int).natAbs<=4000 by lia) 'd');have e1:decide (2 * (a:Int)<=a+b+c)=decide (2 * a<=a+b+c):=by rw[decide_eq_decide];lia
 have e2:decide (2 * (c:Int)<=a+b+c)=decide (2 * c<=a+b+c):=by rw[decide_eq_decide];lia
 rw[<- e1,<- e2] at k;refine⟨rfl,m2 a ha,Jg (fun z=>?_) (fun z=>?_)⟩
 .have z:decide (2 * (a:Int)<=a+b+c)=true:=z;rw[z,Bool.true_and] at k;exact⟨m2 c hc,k⟩
 .have z:¬ decide (2 * (a:Int)<=a+b+c)=true:=z;rw[Bool.eq_false_iff.mpr z,Bool.false_and] at k;exact k
def sgs (c:Int) (vs:List Int):List Int:=vs.map fun v=>(v - c).sign
theorem qfX (c:Int):∀ vs:List Int,(sgs c vs).count (-1)=cLt c vs/\(sgs c vs).count 1=cGt c vs/\(sgs c vs).count (-1)+(sgs c vs).count 0+(sgs c vs).count 1=vs.length
 | []=>⟨rfl,rfl,rfl⟩
 | v::vs=>by
  obtain⟨h1,h2,h3⟩:=qfX c vs;unfold sgs cLt cGt at *;simp only[qP,List.count_cons,List.countP_cons,qU];rcases Int.lt_trichotomy (v - c) 0 with h | h | h
  .rw [Int.sign_eq_neg_one_of_neg h];have a1:v<c:=by lia
   have a2:¬ c<v:=by lia
   simp[a1,a2];lia
  .rw [h];have a1:¬ v<c:=by lia
   have a2:¬ c<v:=by lia
   simp[a1,a2];lia
  .rw [Int.sign_eq_one_of_pos h];have a1:¬ v<c:=by lia
   have a2:c<v:=by lia
   simp[a1,a2];lia
def sCnt:SpD:=fun es U Q=>∃ (a b c:Int) (ps:List Pt),es=[.d (JX [a,b,c]),.d (hpD ps)]/\a.natAbs<=B40/\b.natAbs<=B40/\Bds ps/\ps.length<=4000/\Q (.d (.tuple [.int ((sgs c (vls (a,b) ps)).count (-1):Nat),.int ((sgs c (vls (a,b) ps)).count 0:Nat),.int ((sgs c (vls (a,b) ps)).count 1:Nat)])) U
theorem qgB (F:"counts"^^^qda) (hX:NoX CX) (ON:1<<<("sign_counts",["signs"],yd K sSC)) (Mw:2<<<("side",["line", "point"],yd K qnt)):3>>>(nv,yd K sCnt):=by
 refine F.okE (N:=nv) fun U Q nd hr Oc=>?_;obtain⟨a,b,c,ps,e,ha,hb,hp,hl,k⟩:=Oc;subst e;refine⟨_,(qE (qS (qK ON (qb (JF (L:=["point"]) (sc:=qR qda) (N:=nv) rfl rfl rfl 'k' (ji (dv 1)) (fun _ _ _ _ _=>(yS (i:=2) (show List.Nodup (["line", "heap", "point"]:List Str) from by decide +kernel) rfl 't')) (fun _ _ _ _ _=>jH) (fun _ _ _ _ _=>(qK Mw (qb (dv 0) (qb (dv 2) qi))))) qi)))),?_⟩;refine⟨_,.d _,(show (ps.map ptD).length<=4000 by rw[qc];exact hl),qaK (as:=ps) (h:=ptD) (fun q=>.int (a * q.1+b * q.2 - c).sign) (Src.l (.d _)) (fun q hq R h=>⟨a,b,c,q,rfl,ha,hb,hp q hq,h⟩) ?_⟩;refine⟨sgs c (vls (a,b) ps),?_,k⟩;unfold sgs vls;rw[yu,yu];rfl
def qdb:SpD:=fun es U Q=>∃ (a b c:Int) (ps:List Pt),es=[.d (JX [a,b,c]),.d (hpD ps)]/\a.natAbs<=B40/\b.natAbs<=B40/\Bds ps/\ps.length<=4000/\Q (.d (.bool (qh4 c (vls (a,b) ps)))) U
theorem qgA (F:"halves"^^^qfW) (hX:NoX CX) (OI:1<<<("is_even_share",["shares"],yd K sEv)) (Ml:3<<<("counts",nv,yd K sCnt)):4>>>(nv,yd K qdb):=by
 refine F.okE (N:=nv) fun U Q nd hr Oc=>?_;obtain⟨a,b,c,ps,e,ha,hb,hp,hl,k⟩:=Oc;subst e;refine⟨_,(qE (qS (qK OI (qb (qK Ml (qb (dv 0) (qb (dv 1) qi))) qi)))),?_⟩;obtain⟨h1,h2,h3⟩:=qfX c (vls (a,b) ps);have hv:=qkV (a,b) ps;refine⟨a,b,c,ps,rfl,ha,hb,hp,hl,_,_,_,rfl,'l','l',?_⟩;rw[h3,h1,h2];exact k
def ptK (p:Pt):List Int:=[p.1,p.2]
theorem qde {p:Pt}(h:ptK p=ptK q):p=q:=by
 unfold ptK at h;have h1:=List.cons.inj h;have h2:=List.cons.inj h1.2;exact Prod.ext h1.1 h2.1
theorem qgd (ps:List Pt):ps.map ptD=(ps.map ptK).map JX:=by rw[yu];rfl
theorem qnY (ps:List Pt):∀ k∈ps.map ptK,k≠[]:=fun k hk=>by
 obtain⟨x,_,rfl⟩:=qu.mp hk;exact fun z=>nomatch z
def Plc (ps qs:List Pt):Prop:=qs.Nodup/\Srt (qs.map ptK)/\∀ p,p∈qs ↔ p∈ps
theorem qiD {rs:List Pt}(h1:Plc ps qs) (h2:Plc ps rs):qs=rs:=by
 have hp:qs.Perm rs:=(List.perm_ext_iff_of_nodup h1.1 h2.1).mpr fun p=>(h1.2.2 p).trans (h2.2.2 p).symm;have s1:=h1.2.1;have s2:=h2.2.1;unfold Srt at s1 s2;rw[jb] at s1 s2;refine List.Perm.eq_of_pairwise (fun a b _ _ k1 k2=>qde ?_) s1 s2 hp;exact List.le_antisymm k1 k2
open Classical in
noncomputable def plc (ps:List Pt):List Pt:=epsilon fun qs=>Plc ps qs
theorem qn4 (h:Plc ps qs):qs=plc ps/\Plc ps (plc ps):=by
 have:=Classical.epsilon_spec (p:=fun qs=>Plc ps qs) ⟨qs,h⟩;exact⟨qiD h this,this⟩
theorem qnV : (∀ k∈ks,k∈ps.map ptK)->∃ qs:List Pt,ks=qs.map ptK:=by
 induction ks with
 | nil=>exact fun _=>⟨[],rfl⟩
 | cons k ks ih =>
  intro h;obtain⟨qs,e⟩:=ih fun z hz=>h z (qe _ hz);obtain⟨a,_,ea⟩:=qu.mp (h k qj);exact⟨a::qs,by rw[e,<- ea];rfl⟩
theorem qlk {ms:List (List Int)}(hm:∀ q,q∈ms ↔ q∈ps.map ptK) (hn:ms.Nodup) (hp:ks.Perm ms) (hs:Srt ks):∃ qs:List Pt,ks=qs.map ptK/\Plc ps qs:=by
 obtain⟨qs,rfl⟩:=qnV fun k hk=>(hm k).mp (hp.mem_iff.mp hk);have hnd:(qs.map ptK).Nodup:=hp.nodup_iff.mpr hn;refine⟨qs,rfl,(jb.mp hnd).imp fun h z=>h (by rw[z]),hs,fun p=>?_⟩;have:=(hp.mem_iff (a:=ptK p)).trans (hm _);constructor
 .intro h;obtain⟨b,hb,eb⟩:=qu.mp (this.mp (qu.mpr ⟨p,h,rfl⟩));rw[<- qde eb];exact hb
 .intro h;obtain⟨b,hb,eb⟩:=qu.mp (this.mpr (qu.mpr ⟨p,h,rfl⟩));rw[<- qde eb];exact hb
theorem Yp [DecidableEq α]:∀ {ms kss:List α},ms.Nodup->(∀ q∈ms,q∈kss)->ms.length<=kss.length
 | [],_,_,_=>yj _
 | a::ms,kss,hn,h=>by
  have ha:=h a qj;have h1:=Yp (ms:=ms) (kss:=kss.erase a) (yx.mp hn).2 (fun q hq=>by
   have hne:q≠a:=fun z=>(yx.mp hn).1 (z ▸ hq);exact (List.mem_erase_of_ne hne).mpr (h q (qe _ hq)))
  rw[List.length_erase_of_mem ha] at h1;have:=List.length_pos_of_mem ha;simp only[qU];lia
def sPlc:SpD:=fun es U Q=>∃ ps:List Pt,es=[.d (hpD ps)]/\ps.length<64/\(Plc ps (plc ps)->Q (.d (hpD (plc ps))) U)
theorem qgv (F:"places"^^^qfR) (T:Txt mg):1>>>(nk,yd K sPlc):=by
 refine F.okE (N:=nk) fun U Q nd hr Oc=>?_;obtain⟨ps,e,hl,k⟩:=Oc;subst e;refine⟨_,(qE (qS (yy (qeC (P:=P) (w:=w) (K:=K) rfl) (by rfl) T.sorted_ qaL (qb (jx (qku (P:=P) (w:=w) (K:=K) rfl hr.units) (by rfl) T.set_ qkD (qb (dv 0) qi)) qi)))),?_⟩;refine⟨ps.map ptK,by rw[<- qgd];exact .d _,qnY ps,by rw[qc];lia,fun ms hm hn h77=>⟨ms,rfl,?_,fun ks hp hs=>?_⟩⟩
 .have:=Yp hn fun q hq=>(hm q).mp hq;rw[qc] at this;lia
 .obtain ⟨qs,rfl,h⟩:=qlk hm hn hp hs;obtain⟨rfl,h2⟩:=qn4 h;rw[<- qgd];exact k h2
def prs:List Pt->List (Pt×Pt)
 | []=>[]
 | a::t=>t.map (fun b=>(a,b))++prs t
def prD (p:Pt×Pt):PyData:=.tuple [ptD p.1,ptD p.2]
theorem qgi:∀ l:List Pt,2 * (prs l).length+l.length=l.length * l.length
 | []=>rfl
 | a::t=>by
  have:=qgi t;simp only[prs,qr,qc,qU];have e:(t.length+1) * (t.length+1)=t.length * t.length+2 * t.length+1:=by rw[Nat.add_mul,Nat.mul_add];lia
  lia
theorem qj7 {l:List Pt}(h:l.length<=44):(prs l).length<4000:=by
 have:=qgi l;have:l.length * l.length<=44 * 44:=Nat.mul_le_mul h h;by_cases z:l.length=44
 .lia
 .have:l.length * l.length<=43 * 43:=Nat.mul_le_mul 'l' 'l';lia
theorem Z4 (ds:List PyData) (i:Nat) (h:i<=ds.length):Z5 ds (some (i:Int)) none=ds.drop i:=by
 have e:HT.sIx ds.length 0 (some (i:Int))=i:=by
  unfold HT.sIx;simp;rw[if_neg 'l'];lia
 unfold Z5;rw[e];have e2:HT.sIx ds.length ds.length none=ds.length:=rfl;rw[e2];exact y8 's'
def sPp:SpD:=fun es U Q=>∃ ps:List Pt,es=[.d (hpD ps)]/\ps.length<=44/\(Plc ps (plc ps)->Q (.d (.list ((prs (plc ps)).map prD))) U)
theorem ok_pp (F:"place_pairs"^^^Yi) (T:Txt mg) (hX:NoX CX) (Mm:1<<<("places",nk,yd K sPlc)):2>>>(nk,yd K sPp):=by
 refine F.okE (N:=["heap", "unlike"]) fun U Q nd hr Oc=>?_;obtain⟨ps,e,hl,k⟩:=Oc;subst e;refine⟨_,(qq (qT 1 (qK Mm (qb (dv 0) qi)))
   (qE (qS (qmw (L:=["at", "one", "other"]) (sc:=qR Yi) (N:=["heap", "unlike"]) rfl rfl rfl 'k' (qmm rfl T.enumerate_ (qb (dv 1) qi)) (fun _ _ _ _ _=>(Jn (n:=2) rfl (yn (yS (i:=2) (show List.Nodup (nD:List Str) from by decide +kernel) rfl 't') (yn (yS (i:=3) (show List.Nodup (nD:List Str) from by decide +kernel) rfl 't') jG)))) (fun _ _ _ _ _=>jH) (fun _ _ _ _ _=>(ji (Jw (dv 1) (jW (y9 Yc (dv 2) qL)) Ys))) (fun _ _ _ _ _=>(yS (i:=4) (show List.Nodup (nD:List Str) from by decide +kernel) rfl 't')) (fun _ _ _ _ _=>jH) (fun _ _ _ _ _=>(ZS (qb (dv 3) (qb (dv 4) qi)))))))),?_⟩
 refine⟨ps,rfl,'l',fun hP=>?_⟩;have hq:(plc ps).length<=44:=qz (Yp hP.1 fun q hq=>(hP.2.2 q).mp hq) hl;have kk:=k hP;generalize plc ps=qs at *;have h1000:=qj7 hq;have nthe:∀ i,i<qs.length->∃ a,qs[i]?=some a/\(qs.map ptD).getD i .none=ptD a/\qs.drop i=a::qs.drop (i+1):=fun i hi=>by
  refine⟨qs[i],qh hi,?_,List.drop_eq_getElem_cons hi⟩;rw[ym,qY,qh hi];rfl
 refine⟨_,.d _,fun i ys Y' U'=>U'=U/\(∃ don,don++prs (qs.drop i)=prs qs/\ys=don.map prD)/\∃ v2 v3 v4,Y'=[some (.d (hpD ps)),some (.d (hpD qs)),v2,v3,v4],⟨rfl,⟨[],rfl,rfl⟩,_,_,_,rfl⟩,(fun i ys Y' U' _ _=>.d _),?_,?_⟩
 .rintro i ys Y' U' hi ⟨rfl,⟨don,hd,rfl⟩,v2,v3,v4,rfl⟩;have hi:i<(qs.map ptD).length:=hi;rw[qc] at hi;obtain⟨a,ha,ea,ed⟩:=nthe i hi;refine⟨rfl,_,.d _,_,.d _,?_⟩;have ec:Z5 (qs.map ptD) (some ((i:Int)+1)) none=(qs.drop (i+1)).map ptD:=by
   have:=Z4 (qs.map ptD) (i+1) (by rw[qc];lia);rw[Int.natCast_add] at this;rw[List.map_drop];exact this
  have hlen:don.length+(prs (qs.drop i)).length=(prs qs).length:=by rw[<- hd,qr]
  have e3:prs (qs.drop i)=(qs.drop (i+1)).map (fun b=>(a,b))++prs (qs.drop (i+1)):=by rw[ed];rfl
  have hsum:don.length+(qs.drop (i+1)).length<=(prs qs).length:=by rw[<- hlen,e3,qr,qc];lia
  refine⟨fun j ys Y' U'=>U'=U'/\U'=_/\j<=(qs.drop (i+1)).length/\ys=(don++((qs.drop (i+1)).take j).map fun b=>(a,b)).map prD/\∃ v4,Y'=[some (.d (hpD ps)),some (.d (hpD qs)),some (.d (.int (i:Int))),some (.d (ptD a)),v4],⟨rfl,rfl,yj _,'s',v4,?_⟩,?_,?_,?_⟩
  .rw [<- ea];rfl
  .rintro j ys Y' U' hj ⟨_,rfl,hj2,rfl,v4,rfl⟩;refine⟨.d _,?_⟩;rw[qc,qr,qc,jI];lia
  .rintro j ys Y' U' hj ⟨_,rfl,hj2,rfl,v4,rfl⟩;have hj:j<(Z5 (qs.map ptD) (some ((i:Int)+1)) none).length:=hj;rw[ec,qc] at hj;have eb:(itL (.d (.list (Z5 (qs.map ptD) (some ((i:Int)+1)) none))) (Z5 (qs.map ptD) (some ((i:Int)+1)) none)).item j = .d (ptD (qs.drop (i+1))[j]):=by
    show En.d ((Z5 (qs.map ptD) (some ((i:Int)+1)) none).getD j .none)=_;rw[ec,ym,qY,qh hj];rfl
   rw[eb];refine⟨zl2,_,rfl,rfl,rfl,hj,?_,_,rfl⟩;rw[jt (qh hj)];simp only[ye,qm,qP,List.map_nil];rfl
  .rintro ys Y' U' ⟨_,rfl,hj2,rfl,v4,rfl⟩;have hn:(itL (.d (.list (Z5 (qs.map ptD) (some ((i:Int)+1)) none))) (Z5 (qs.map ptD) (some ((i:Int)+1)) none)).n=(qs.drop (i+1)).length:=by
    show (Z5 (qs.map ptD) (some ((i:Int)+1)) none).length=_;rw[ec,qc]
   refine⟨rfl,⟨_,?_,rfl⟩,_,_,_,rfl⟩;rw[hn,y3,qm,<- e3];exact hd
 .rintro ys Y' U' ⟨rfl,⟨don,hd,rfl⟩,v2,v3,v4,rfl⟩;have:qs.drop (qs.map ptD).length=[]:=by rw[qc];exact List.drop_length
  have hd:don++prs (qs.drop (qs.map ptD).length)=prs qs:=hd;rw[this] at hd;have hd:don++[]=prs qs:=hd;rw[j8] at hd;rw[hd];exact kk
end K98
namespace L2
def Alls (A B:List Pt) (l:Ln):Prop:=qdS (A++B) l/\qh4 l.2 (vls l.1 A)=true/\qh4 l.2 (vls l.1 B)=true
def qfn (A B:List Pt) (ls:List Ln):Prop:=ls.Pairwise Ahd/\∀ l,l∈ls ↔ Alls A B l
theorem qbG {ps:List Pt}{l:Ln}(hp:∀ q∈ps,Bd 1000000000000000000000000000000 q) (h:qdS ps l):Bd 2000000000000000000000000000000 l.1/\l.2.natAbs<=4000000000000000000000000000000000000000000000000000000000000:=by
 obtain⟨p,h1,q,h2,hne,rfl⟩:=qes h;have b1:=hp p h1;have b2:=hp q h2;have nb:Bd 2000000000000000000000000000000 (nO p q):=qkc (ZA hne) (by have:=b1.2;have:=b2.2;lia) (by have:=b1.1;have:=b2.1;lia);refine⟨nb,?_⟩;show (vl (nO p q) p).natAbs<=_;unfold vl;have m1:((nO p q).1 * p.1).natAbs<=2000000000000000000000000000000 * 1000000000000000000000000000000:=by rw[Int.natAbs_mul];exact Nat.mul_le_mul nb.1 b1.1
 have m2:((nO p q).2 * p.2).natAbs<=2000000000000000000000000000000 * 1000000000000000000000000000000:=by rw[Int.natAbs_mul];exact Nat.mul_le_mul nb.2 b1.2
 lia
end L2
namespace L2
section
variable {tb:TSd}{D:EndsD}{Q:En->Mu->Prop}
theorem qpe {as:List α}{h1 h2 h3:α->PyData}(f:α->PyData) (S:Src J (as.map fun a=>.tuple [h1 a,h2 a,h3 a]) U) (ht:∀ a,a∈as->∀ R:Bool->Mu->Prop,R true U->tt (Y++[some (.d (h1 a)),some (.d (h2 a)),some (.d (h3 a))]) U R)
  (hs:∀ a,a∈as->∀ R:En->Mu->Prop,R (.d (f a)) U->te (Y++[some (.d (h1 a)),some (.d (h2 a)),some (.d (h3 a))]) U R) (hq:Q (.d (.list (as.map f))) U) :
  qdT 3 J (qdE 3 (Jo (jm Y.length) (Jo (jm (Y.length+1)) (Jo (jm (Y.length+2)) qdF)))) tt te Y U Q:=by
 have hl:J.n=as.length:=by rw[S.n];simp
 refine⟨fun i ys Y' U'=>U'=U/\ys=(as.take i).map f/\∃ v w x,Y'=Y++[v,w,x],⟨rfl,rfl,none,none,none,rfl⟩,fun i ys Y' U' _ ⟨h,_⟩=>by subst h;exact S.ok,?_,?_⟩
 .rintro i ys Y' U' hi ⟨rfl,rfl,v,w,x,rfl⟩;rw[hl] at hi;rw[S.it i (.tuple [h1 as[i],h2 as[i],h3 as[i]]) (by rw[qY,qh hi];rfl)];refine⟨rfl,?_⟩;show tt ((((Y++[v,w,x]).set Y.length _).set (Y.length+1) _).set (Y.length+2) _) U' _;have e2:(((Y++[v,w,x]).set Y.length (some (.d (h1 as[i])))).set (Y.length+1) (some (.d (h2 as[i])))).set (Y.length+2) (some (.d (h3 as[i])))=Y++[some (.d (h1 as[i])),some (.d (h2 as[i])),some (.d (h3 as[i]))]:=by simp[List.set_append]
  rw[e2];refine ht as[i] (yh hi) _ (Z1 (hs as[i] (yh hi) _ ⟨_,rfl,rfl,?_,_,_,_,rfl⟩));rw[jt (qh hi),ye];rfl
 .rintro ys Y' U' ⟨rfl,rfl,_⟩;rw[hl,y3];exact hq
theorem qpf {as:List α}{h1 h2 h3:α->PyData}(f:α->PyData) (S:Src J (as.map fun a=>.tuple [h1 a,h2 a,h3 a]) U)
  (hs:∀ a,a∈as->∀ R:En->Mu->Prop,R (.d (f a)) U->te (Y++[some (.d (h1 a)),some (.d (h2 a)),some (.d (h3 a))]) U R) (hq:Q (.d (.list (as.map f))) U) :
  qdT 3 J (qdE 3 (Jo (jm Y.length) (Jo (jm (Y.length+1)) (Jo (jm (Y.length+2)) qdF)))) qmy te Y U Q:=qpe f S (fun _ _ _ h=>h) hs hq
theorem setC2 {Q2:List (List Int)->Mu->Prop}{as:List α}{h1 h2:α->PyData}(f:α->List Int) (S:Src J (as.map fun a=>.tuple [h1 a,h2 a]) U) (hn:as.length<4900) (ht:∀ a,a∈as->∀ R:Bool->Mu->Prop,R true U->tt (Y++[some (.d (h1 a)),some (.d (h2 a))]) U R) (hf:∀ a∈as,f a≠[])
  (hs:∀ a,a∈as->∀ R:En->Mu->Prop,R (.d (JX (f a))) U->te (Y++[some (.d (h1 a)),some (.d (h2 a))]) U R)
  (hq:∀ ms:List (List Int),(∀ q,q∈ms ↔ q∈as.map f)->ms.Nodup->ms.length<4915->Q2 ms U) :
  J.n<4900/\∃ Pv:Nat->List (List Int)->Rho->Mu->Prop,Pv 0 [] (Y++List.replicate 2 none) U/\(∀ i ys Y' U',i<=J.n->Pv i ys Y' U'->J.ok U') ∧
   (∀ i ys Y' U',i<J.n->Pv i ys Y' U'->qdE 2 (Jo (jm Y.length) (Jo (jm (Y.length+1)) qdF)) (J.item i) Y' U' fun Y2 U2=>tt Y2 U2 fun b U3=>if b=true then te Y2 U3 fun y U4=>∃ z,z≠[]/\y = .d (JX z)/\Pv (i+1) (ys++[z]) Y2 U4 else Pv (i+1) ys Y2 U3) ∧
   ∀ ys Y' U',Pv J.n ys Y' U'->∀ ms,(∀ q,q∈ms ↔ q∈ys)->ms.Nodup->ms.length<4915->Q2 ms U':=by
 have hl:J.n=as.length:=by rw[S.n];simp
 refine⟨'l',fun i ys Y' U'=>U'=U/\ys=(as.take i).map f/\∃ v w,Y'=Y++[v,w],⟨rfl,rfl,none,none,rfl⟩,fun i ys Y' U' _ ⟨h,_⟩=>by subst h;exact S.ok,?_,?_⟩
 .rintro i ys Y' U' hi ⟨rfl,rfl,v,w,rfl⟩;rw[hl] at hi;rw[S.it i (.tuple [h1 as[i],h2 as[i]]) (by rw[qY,qh hi];rfl)];refine⟨rfl,?_⟩;show tt (((Y++[v,w]).set Y.length _).set (Y.length+1) _) U' _;have e2:((Y++[v,w]).set Y.length (some (.d (h1 as[i])))).set (Y.length+1) (some (.d (h2 as[i])))=Y++[some (.d (h1 as[i])),some (.d (h2 as[i]))]:=by simp[List.set_append]
  rw[e2];refine ht as[i] (yh hi) _ (Z1 (hs as[i] (yh hi) _ ⟨_,hf _ (yh hi),rfl,rfl,?_,_,_,rfl⟩));rw[jt (qh hi),ye];rfl
 .rintro ys Y' U' ⟨rfl,rfl,_⟩;rw[hl,y3];exact hq
end
end L2
namespace K98
def lnD (l:Ln):PyData:=JX (lnK l)
def LBd (l:Ln):Prop:=Bd 2000000000000000000000000000000 l.1/\l.2.natAbs<=4000000000000000000000000000000000000000000000000000000000000
def sKey:SpD:=fun es U Q=>∃ (l:Ln) (g:Int),es=[.d (lnD l),.d (.int g)]/\IsN l.1/\LBd l/\g.natAbs<=4000000000000000000000000000000000000000000000000000000000000/\Q (.d (JX (qh3 g l))) U
theorem b62:4000000000000000000000000000000000000000000000000000000000000<2 ^ 1000:=by decide +kernel
theorem qlG (F:"line_key"^^^qb9):1>>>(["line", "scale"],yd K sKey):=by
 refine F.okE (N:=["line", "scale", "a", "b", "c"]) fun U Q nd hr Oc=>?_;obtain⟨l,g,e,hn,hb,hg,k⟩:=Oc;subst e;refine⟨_,(qq (YK (dv 0) (Jn (n:=3) rfl (yn (jp (i:=2) nd) (yn (jp (i:=3) nd) (yn (jp (i:=4) nd) jG)))))
   (qq (yY (yc (Jc hr.units) (dv 2) qL) (qE (qS (ZS (qb qL (qb qL (qb (dv 4) qi)))))) yA)
   (qE (qS (ZS (qb qL (qb (y9 qdB (y9 Jm (dv 3) (dv 1)) (dv 2)) (qb (dv 4) qi)))))))),?_⟩
 refine⟨rfl,Jg (fun c=>?_) (fun c=>?_)⟩
 .have c:l.1.1=0:=qx c;unfold qh3 at k;rw[if_pos c] at k;exact⟨zl3,k⟩
 .have c:¬ l.1.1=0:=fun z=>c (qH z);unfold qh3 at k;rw[if_neg c] at k;have h2:l.1.2.natAbs<=B40:=qz hb.1.2 'd';exact⟨⟨yJ h2 b40,yJ hg b62⟩,qew b40 c (qz hb.1.1 'd'),zl3,k⟩
abbrev lamP:Pos:=⟨73,29,73,63⟩
abbrev lamQ:Str := "lines_in_order.<locals>.<lambda>"
abbrev TB (tb:Addr):Addr×MO:=(tb,.any (Z9 lamQ lamP))
def sLio (tb:Addr):SpD:=fun es U Q=>∃ ls:List Ln,es=[.d (.list (ls.map lnD))]/\ls.Nodup/\(∀ l∈ls,IsN l.1/\LBd l)/\ls.length<=4000/\TB tb∈U/\∀ ms:List Ln,ms.Perm ls->ms.Pairwise Ahd->Q (.d (.list (ms.map lnD))) U
def keyR (g:Int) (z:List Int):List Int:=match z with
 | [a,b,c]=>qh3 g ((a,b),c)
 | _=>[0]
theorem ql7 (g:Int) (z:List Int):keyR g z≠[]:=by
 unfold keyR qh3;split
 .split <;> exact fun h=>nomatch h
 .exact fun h=>nomatch h
theorem qjV:FnScope ["lines", "scale"] ["lines"] (qR jE):=by trivial
theorem qop {cc:Addr}(F:"lines_in_order"^^^jE) (hcc:fd.code = .ref cc) (hB:qaU base mg) (hC:W.CodeHd base cc tb) (T:Txt mg) (hX:NoX CX) (Mb:1<<<("line_key",["line", "scale"],yd K sKey)):5>>>(["lines"],yd K (sLio tb)):=by
 refine F.okDC hcc qjV 't' (fun A outer s H E es U Q hr Mz=>?_);obtain⟨ls,e,hnd,hls,hlen,htb,k⟩:=Mz;subst e;have nd:=qjV.nd;refine⟨_,(qq (qT 1 (qo4 rfl (by rfl) T.max_ (JF (L:=["a", "b", "c"]) (sc:=qR jE) (N:=["lines", "scale"]) rfl rfl rfl 'k' (ji (dv 0)) (fun _ _ _ _ _=>(Jn (n:=3) rfl (yn (yS (i:=2) (show List.Nodup (nF:List Str) from by decide +kernel) rfl 't') (yn (yS (i:=3) (show List.Nodup (nF:List Str) from by decide +kernel) rfl 't') (yn (yS (i:=4) (show List.Nodup (nF:List Str) from by decide +kernel) rfl 't') jG))))) (fun _ _ _ _ _=>jH) (fun _ _ _ _ _=>(y9 Jm (dv 2) (dv 2)))) qL))
   (qE (qS (qmr (x := "line") (y := "scale") (i:=1) hB hC rfl rfl rfl ⟨rfl,rfl,rfl,'d',rfl,rfl,'k'⟩ 'k' rfl rfl (by rfl) T.sorted_ (hr.in1.in1) (fun _ _ _ _ _=>rfl) (dv 0) (fun _ _ _ _ _ hr=>(qK Mb (qb (dv 0) (qb (dv 1) qi)))))))),?_⟩
 have hl2:(ls.map lnD).length<=4000:=by rw[qc];exact hlen
 have hm:∀ l∈ls,l.1.1 * l.1.1<=4000000000000000000000000000000000000000000000000000000000000:=fun l hl=>by
  have h:=(hls l hl).2.1.1;have:(l.1.1 * l.1.1).natAbs<=2000000000000000000000000000000 * 2000000000000000000000000000000:=by rw[Int.natAbs_mul];exact Nat.mul_le_mul h h
  lia
 refine⟨_,.d _,hl2,qpf (as:=ls) (fun l=>.int (l.1.1 * l.1.1)) (Src.l (.d _)) (fun l hl R h=>?_) ?_⟩
 .have h1:l.1.1.natAbs<=B40:=qz (hls l hl).2.1.1 'd';exact⟨qe6 h1 h1,h⟩
 .refine ⟨ls.map fun l=>l.1.1 * l.1.1,0,by rw[yu];exact .d _,rfl,fun m hm'=>?_⟩;have hg:(∀ l∈ls,l.1.1 * l.1.1<=m)/\m.natAbs<=4000000000000000000000000000000000000000000000000000000000000:=by
   rcases hm' with⟨e,rfl⟩ | ⟨h1,h2⟩
   .have:ls=[]:=List.map_eq_nil_iff.mp e;subst this;exact⟨fun l hl=>(nomatch hl),'d'⟩
   .refine ⟨fun l hl=>h2 _ (qu.mpr ⟨l,hl,rfl⟩),?_⟩;obtain⟨l,hl,rfl⟩:=qu.mp h1;have:=hm l hl;have:0<=l.1.1 * l.1.1:=by
     rcases Int.le_total 0 l.1.1 with z | z
     .exact Int.mul_nonneg z z
     .exact Int.mul_nonneg_of_nonpos_of_nonpos z z
    lia
  refine⟨ls.map lnK,.d (.int m),keyR m,by rw[yu];exact .d _,by rw[qc];lia,rfl,htb,ql7 m,fun z hz=>?_,fun ps pp pw=>?_⟩
  .obtain ⟨l,hl,rfl⟩:=qu.mp hz;exact⟨l,m,rfl,(hls l hl).1,(hls l hl).2,hg.2,rfl,rfl⟩
  .obtain ⟨ms,p1,rfl⟩:=ZY lnK pp rfl;have nd2:ms.Nodup:=p1.nodup_iff.mpr hnd;rw[jb] at pw;have:=k ms p1 ((pw.and nd2).imp_of_mem fun {a b} ha hb z=>ql6 (hls a (p1.mem_iff.mp ha)).1 (hls b (p1.mem_iff.mp hb)).1 (hg.1 a (p1.mem_iff.mp ha)) (hg.1 b (p1.mem_iff.mp hb)) z.2 z.1);rw[yu];exact this
def qlV (p:Pt×Pt):Ln:=(nO p.1 p.2,vl (nO p.1 p.2) p.1)
theorem qoz {ks:List (List Int)}{L:List (Pt×Pt)}:(∀ k∈ks,k∈L.map fun p=>thr p.1 p.2)->∃ ls:List Ln,ks=ls.map lnK/\∀ l∈ls,l∈L.map qlV:=by
 induction ks with
 | nil=>exact fun _=>⟨[],rfl,fun _ z=>nomatch z⟩
 | cons k ks ih =>
  intro h;obtain⟨ls,e,m⟩:=ih fun z hz=>h z (qe _ hz);obtain⟨a,ha,ea⟩:=qu.mp (h k qj);refine⟨qlV a::ls,by rw[e,<- ea];rfl,fun l hl=>?_⟩;rcases qF.mp hl with rfl | hl
  .exact qu.mpr ⟨a,ha,rfl⟩
  .exact m l hl
def qny (tb:Addr):SpD:=fun es U Q=>∃ ps:List Pt,es=[.d (hpD ps)]/\ps.length<=44/\Bds ps/\TB tb∈U/\∀ ls:List Ln,Plc ps (plc ps)->ls.Pairwise Ahd->(∀ l,l∈ls ↔ qdS ps l)->ls.length<4000->Q (.d (.list (ls.map lnD))) U
theorem qgh {l:List Pt}(hn:l.Nodup) {p:Pt×Pt}(h:p∈prs l):p.1∈l/\p.2∈l/\p.1≠p.2:=by
 induction l with
 | nil=>exact (nomatch h)
 | cons a t ih =>
  obtain⟨h1,h2⟩:=yx.mp hn;rcases qG.mp h with h | h
  .obtain ⟨b,hb,rfl⟩:=qu.mp h;exact⟨qj,qe _ hb,fun z=>h1 (by have z:a=b:=z;rw[z];exact hb)⟩
  .obtain ⟨a1,a2,a3⟩:=ih h2 h;exact⟨qe _ a1,qe _ a2,a3⟩
theorem qiC {l:List Pt}{a b:Pt}(ha:a∈l) (hb:b∈l) (h:a≠b):(a,b)∈prs l\/(b,a)∈prs l:=by
 induction l with
 | nil=>exact (nomatch ha)
 | cons c t ih =>
  rcases qF.mp ha with e | ha'
  .subst e;rcases qF.mp hb with e | hb'
   .exact absurd e.symm h
   .exact .inl (q0 _ (qu.mpr ⟨b,hb',rfl⟩))
  .rcases qF.mp hb with e | hb'
   .subst e;exact .inr (q0 _ (qu.mpr ⟨a,ha',rfl⟩))
   .rcases ih ha' hb' with h | h
    .exact .inl (qg _ h)
    .exact .inr (qg _ h)
theorem qaz {ps:List Pt}(hP:Plc ps (plc ps)) (l:Ln):l∈(prs (plc ps)).map qlV ↔ qdS ps l:=by
 constructor
 .intro h;obtain⟨p,hp,rfl⟩:=qu.mp h;obtain⟨h1,h2,h3⟩:=qgh hP.1 hp;exact qi9 ((hP.2.2 _).mp h1) ((hP.2.2 _).mp h2) h3
 .intro h;obtain⟨p,hp,q,hq,hne,rfl⟩:=qes h;rcases qiC ((hP.2.2 _).mpr hp) ((hP.2.2 _).mpr hq) hne with z | z
  .exact qu.mpr ⟨_,z,rfl⟩
  .exact qu.mpr ⟨_,z,nO_sw hne⟩
theorem qnb (p q:Pt):thr p q≠[]:=fun h=>nomatch h
theorem qlL (F:"joining_lines"^^^Jt) (T:Txt mg) (hX:NoX CX) (Ou:2<<<("place_pairs",nk,yd K sPp)) (OM:3<<<("through",n8,yd K sThr)) (OG:5<<<("lines_in_order",["lines"],yd K (sLio tb))):6>>>(nk,yd K (qny tb)):=by
 refine F.okE (N:=nk) fun U Q nd hr Oc=>?_;obtain⟨ps,e,hl,hb,htb,k⟩:=Oc;subst e;refine⟨_,(qE (qS (qK OG (qb (yy (qeC (P:=P) (w:=w) (K:=K) rfl) (by rfl) T.sorted_ qaL (qb (qo0 (P:=P) (w:=w) (K:=K) (L:=n8) (sc:=qR Jt) (N:=nk) hr.units rfl rfl rfl 'k' (ji (qK Ou (qb (dv 0) qi))) (fun _ _ _ _ _=>(Jn (n:=2) rfl (yn (yS (i:=1) (show List.Nodup (["heap", "one", "other"]:List Str) from by decide +kernel) rfl 't') (yn (yS (i:=2) (show List.Nodup (["heap", "one", "other"]:List Str) from by decide +kernel) rfl 't') jG)))) (fun _ _ _ _ _=>jH) (fun _ _ _ _ _=>(qK OM (qb (dv 1) (qb (dv 2) qi))))) qi)) qi)))),?_⟩;refine⟨ps,rfl,hl,fun hP=>?_⟩;have hq:(plc ps).length<=44:=qz (Yp hP.1 fun q hq=>(hP.2.2 q).mp hq) hl;have h1000:=qj7 hq;have hne:∀ p∈prs (plc ps),Bd B30 p.1/\Bd B30 p.2/\p.1≠p.2:=fun p hp=>by
  obtain⟨h1,h2,h3⟩:=qgh hP.1 hp;exact⟨hb _ ((hP.2.2 _).mp h1),hb _ ((hP.2.2 _).mp h2),h3⟩
 refine⟨_,.d _,?_⟩;refine setC2 (Y:=[some (.d (hpD ps))]) (U:=U) (tt:=qmy) (as:=prs (plc ps)) (h1:=fun p=>ptD p.1) (h2:=fun p=>ptD p.2) (fun p=>thr p.1 p.2) (Src.l (.d _)) 'l' (fun _ _ _ h=>h) (fun p _=>qnb _ _) (fun p hp R h=>?_) (fun ms hm hnd h49=>?_)
 .obtain ⟨b1,b2,h3⟩:=hne p hp;exact⟨p.1,p.2,rfl,b1,b2,h3,h⟩
 .have hms:ms.length<4000:=by
   have:=Yp hnd fun q hq=>(hm q).mp hq;rw[qc] at this;lia
  refine⟨ms,rfl,'l',fun ks hp hs=>?_⟩;obtain⟨ls,rfl,hin⟩:=qoz (L:=prs (plc ps)) fun q hq=>(hm q).mp (hp.mem_iff.mp hq);have hnl:ls.Nodup:=by
   have:(ls.map lnK).Nodup:=hp.nodup_iff.mpr hnd;exact (jb.mp this).imp fun h z=>h (by rw[z])
  have hJ:∀ l,l∈ls ↔ qdS ps l:=fun l=>by
   rw[<- qaz hP l];refine⟨hin l,fun h=>?_⟩;obtain⟨p,hp',rfl⟩:=qu.mp h;have:thr p.1 p.2∈ls.map lnK:=hp.mem_iff.mpr ((hm _).mpr (qu.mpr ⟨p,hp',rfl⟩));obtain⟨l,hl',e⟩:=qu.mp this;have e2:l=qlV p:=qlY e;rw[<- e2];exact hl'
  have hll:ls.length<4000:=by
   have:=hp.length_eq;rw[qc] at this;lia
  refine⟨ls,by rw[yu];rfl,hnl,fun l hl'=>?_,yT hll,htb,fun ms' p' s'=>k ms' hP s' (fun l=>(p'.mem_iff).trans (hJ l)) (by rw[p'.length_eq];exact hll)⟩;have J:=(hJ l).mp hl';exact⟨J.1,qbG hb J⟩
def qnF (tb:Addr):SpD:=fun es U Q=>∃ A B:List Pt,es=[.d (hpD A),.d (hpD B)]/\A.length+B.length<=44/\Bds A/\Bds B/\TB tb∈U/\∀ ls:List Ln,qfn A B ls->ls.length<4000->(∀ l∈ls,LBd l)->Q (.d (.list (ls.map lnD))) U
theorem qow (F:"all_lines"^^^Zk) (T:Txt mg) (hX:NoX CX) (OJ:6<<<("joining_lines",nk,yd K (qny tb))) (OK:4<<<("halves",nv,yd K qdb)):7>>>(n8,yd K (qnF tb)):=by
 refine F.okE (N:=n8) fun U Q nd hr Oc=>?_;obtain⟨A,B,e,hl,hA,hB,htb,k⟩:=Oc;subst e;refine⟨_,(qE (qS (JF (L:=["line"]) (sc:=qR Zk) (N:=n8) rfl rfl rfl 'k' (ji (qK OJ (qb (y9 ZQ (dv 0) (dv 1)) qi))) (fun _ _ _ _ _=>(yS (i:=2) (show List.Nodup (["one", "other", "line"]:List Str) from by decide +kernel) rfl 't')) (fun _ _ _ _ _=>(qhv (qcE (Zd (jX (qK OK (qb (dv 2) (qb (dv 0) qi)))) (JT (jX (qK OK (qb (dv 2) (qb (dv 1) qi))))))))) (fun _ _ _ _ _=>(dv 2))))),?_⟩;have la:(A.map ptD).length=A.length:=qc ..;have lb:(B.map ptD).length=B.length:=qc ..;have bd:Bds (A++B):=fun z hz=>by
  rcases qG.mp hz with h | h
  .exact hA z h
  .exact hB z h
 refine⟨_,_,.d _,.d _,'l',A++B,(by show [En.d (.list (A.map ptD++B.map ptD))]=_;rw[<- ye];rfl),(by rw[qr];exact hl),bd,htb,fun ls _ hs hJ hll=>?_⟩;have hbl:∀ l∈ls,LBd l:=fun l hl'=>qbG bd ((hJ l).mp hl');have hl2:(ls.map lnD).length<=4000:=by rw[qc];lia
 refine⟨_,.d _,hl2,qhH (as:=ls) (h:=lnD) (fun l=>qh4 l.2 (vls l.1 A) && qh4 l.2 (vls l.1 B)) lnD (Src.l (.d _)) (fun l hl' R h=>?_) (fun l hl' _ R h=>h) ?_⟩
 .have n1:l.1.1.natAbs<=B40:=qz (hbl l hl').1.1 'd';have n2:l.1.2.natAbs<=B40:=qz (hbl l hl').1.2 'd';refine⟨l.1.1,l.1.2,l.2,A,rfl,n1,n2,hA,'l',?_⟩;cases c:qh4 l.2 (vls (l.1.1,l.1.2) A) with
  | true =>
   refine Z1 ⟨l.1.1,l.1.2,l.2,B,rfl,n1,n2,hB,'l',?_⟩;have c:qh4 l.2 (vls l.1 A)=true:=c;rw[c,Bool.true_and] at h;exact h
  | false =>
   have c:qh4 l.2 (vls l.1 A)=false:=c;rw[c,Bool.false_and] at h;exact Zf h
 .refine k _ ⟨hs.filter _,fun l=>?_⟩ (yJ (List.length_filter_le _ _) hll) fun l hl'=>hbl l (List.mem_filter.mp hl').1;rw[List.mem_filter,hJ l,qZ];rfl
end K98
namespace K98
variable {A:List Pt}{p:Pt}{a b:En}
structure TxtK (K:W.Frag) (C:Addr):Prop where
 cl:Cls K C
 n_heaps:Yz K C "heaps"
 n_kept:Yz K C "kept"
theorem qji (p q:Pt):PyData.eqv (ptD p) (ptD q)=decide (p=q):=qko
theorem Zy (A:List Pt):PyData.canLayAll0 (A.map ptD)=true:=YC (fun p=>rfl) A
theorem qc1 (A:List Pt) (p:Pt):((A.map ptD).any fun z=>z.eqv (ptD p))=decide (p∈A):=by
 rw[List.any_map];by_cases h:p∈A
 .rw [qH h];exact List.any_eq_true.mpr ⟨p,h,by show PyData.eqv (ptD p) (ptD p)=true;rw[qji];exact qH rfl⟩
 .rw [yi h];refine List.any_eq_false.mpr fun q hq=>?_;show ¬ PyData.eqv (ptD q) (ptD p)=true;rw[qji];exact fun z=>h (qx z ▸ hq)
theorem qeu (h:p∈A):A.idxOf p<A.length/\A[A.idxOf p]?=some p/\∀ i q,i<A.idxOf p->A[i]?=some q->q≠p:=by
 have hl:=List.idxOf_lt_length_of_mem h;refine⟨hl,?_,fun i q hi hq e=>?_⟩
 .rw [qh hl,List.getElem_idxOf]
 .subst e;have:A.idxOf q<=i:=by
   have h1:=(qC.mp hq);obtain⟨hi2,e2⟩:=h1;refine Nat.le_of_not_lt fun hlt=>?_;have:=List.not_of_lt_findIdx (p:=fun x=>x == q) (xs:=A) (i:=i) hi;rw[e2] at this;simp at this
  omega
theorem qoJ (h:p∈A) (hl:A.length<=4000) {R:Nat->Prop}(k:R (A.idxOf p)):∃ j:Nat,j<(A.map ptD).length/\(A.map ptD).length<=4000/\(∃ z,(A.map ptD)[j]?=some z/\z.eqv (ptD p)=true)/\(∀ i z,i<j->(A.map ptD)[i]?=some z->z.eqv (ptD p)=false)/\R j:=by
 obtain⟨h1,h2,h3⟩:=qeu h;refine⟨A.idxOf p,by rw[qc];exact h1,by rw[qc];exact hl,⟨ptD p,by rw[qY,h2];rfl,by rw[qji];exact qH rfl⟩,fun i z hi hz=>?_,k⟩;rw[qY] at hz;obtain⟨q,hq,rfl⟩:=Option.map_eq_some_iff.mp hz;rw[qji];exact yi (h3 i q hi hq)
def sFP:SpD:=fun es U Q=>∃ (A:List Pt) (p:Pt),es=[.d (hpD A),.d (ptD p)]/\p∈A/\A.length<=4000/\Q (.d (.int (A.idxOf p:Nat))) U
theorem qot (F:"find_place"^^^YQ):1>>>(n6,yd K sFP):=by
 refine F.okE (N:=n6) fun U Q nd hr Oc=>?_;obtain⟨A,p,e,hp,hl,k⟩:=Oc;subst e;refine⟨_,(qq (yY (yc (qeB hr.u66) (dv 1) (dv 0) rfl) (qE jF) yA)
   (qE (qS (qjs (dv 0) (qb (dv 1) qi) (h:=fun a b=>qam PySem.F.plainAttrs_list PySem.F.slot_list_index PySem.F.type_list_index (qgL hr.u70) a b))))),?_⟩
 refine⟨_,_,rfl,.d _,jz [p.1,p.2],Zy A,Jg (fun c=>?_) (fun c=>?_)⟩
 .have c:(!((A.map ptD).any fun z=>z.eqv (ptD p)))=true:=c;rw[qc1,qH hp] at c;cases c
 .exact ⟨_,.d _,.d _,Zy A,jz [p.1,p.2],qoJ hp hl k⟩
def repl (A:List Pt) (p q:Pt):List Pt:=A.set (A.idxOf p) q
theorem qit (h:p∈A):A.take (A.idxOf p)++[q]++A.drop (A.idxOf p+1)=repl A p q:=by
 have:=(qeu h).1;unfold repl;rw[List.set_eq_take_append_cons_drop,if_pos this,qm];rfl
theorem qkA (ds:List PyData) (i:Nat) (h:i<=ds.length):Z5 ds none (some (i:Int))=ds.take i:=by
 unfold Z5 HT.sIx;simp only[List.drop_zero,Nat.sub_zero];congr 1;simp;rw[if_neg 'o'];omega
def qnr:SpD:=fun es U Q=>∃ (A:List Pt) (p q:Pt),es=[.d (hpD A),.d (ptD p),.d (ptD q)]/\p∈A/\A.length<=100/\Q (.d (hpD (repl A p q))) U
theorem qlB (F:"stepped"^^^qbj) (hX:NoX CX) (Oi:1<<<("find_place",n6,yd K sFP)):2>>>(nu,yd K qnr):=by
 refine F.okE (N:=["heap", "point", "to", "at"]) fun U Q nd hr Oc=>?_;obtain⟨A,p,q,e,hp,hl,k⟩:=Oc;subst e;refine⟨_,(qq (qT 3 (qK Oi (qb (dv 0) (qb (dv 1) qi))))
   (qE (qS (y9 ZQ (y9 ZQ (Jw (dv 0) Ys (jW (dv 3))) (Jx (qb (dv 2) qi))) (Jw (dv 0) (jW (y9 ZQ (dv 3) qL)) Ys))))),?_⟩
 have hi:=(qeu hp).1;have c1:Z5 (A.map ptD) none (some ((A.idxOf p:Nat):Int))=(A.take (A.idxOf p)).map ptD:=by rw[qkA _ _ (by rw[qc];omega),List.map_take]
 have c2:Z5 (A.map ptD) (some (((A.idxOf p:Nat):Int)+1)) none=(A.drop (A.idxOf p+1)).map ptD:=by
  have:=Z4 (A.map ptD) (A.idxOf p+1) (by rw[qc];omega);rw[Int.natCast_add] at this;rw[List.map_drop];exact this
 refine⟨A,p,rfl,hp,'o',_,.d _,zl1,_,_,.d _,.d _,?_,_,.d _,_,_,.d _,.d _,?_,?_⟩
 .rw [c1,qc,jI];show _+1<=4000;omega
 .rw [c1,c2,qr,qc,qc,jI,List.length_drop];show _+1+_<=4000;omega
 .rw [c1,c2];rw[<- qit hp] at k;unfold hpD at k;rw[ye,ye] at k;exact k
theorem qlX (ls:List Ln):ls.map lnD=(ls.map lnK).map JX:=by rw[yu];rfl
theorem qlW (ls:List Ln):∀ k∈ls.map lnK,k≠[]:=fun k hk=>by
 obtain⟨x,_,rfl⟩:=qu.mp hk;exact fun z=>nomatch z
theorem qoA (l:Ln):lnK l≠[]:=fun h=>nomatch h
def KI (C dx h:Addr) (ls:List Ln):MO:=.ins C dx [("heaps",.m h),("kept",.d (.list (ls.map lnD)))]
def KH (A B:List Pt):MO:=.lst [hpD A,hpD B]
theorem nHK:¬ (("heaps" : Str) = "kept"):=by decide +kernel
theorem j5 : ([(("heaps" : Str),a),("kept",b)]:List (Str×En)).lookup ("heaps" : Str)=some a:=by simp[yk]
theorem qbE : ([(("heaps" : Str),a),("kept",b)]:List (Str×En)).lookup ("kept" : Str)=some b:=by
 have:(("kept" : Str) == "heaps")=false:=by decide +kernel
 simp[yk,this]
theorem Yr {m:Str}(h1:(m == ("heaps" : Str))=false:=by decide +kernel) (h2:(m == ("kept" : Str))=false:=by decide +kernel):([(("heaps" : Str),a),("kept",b)]:List (Str×En)).lookup m=none:=by simp[yk,h1,h2]
theorem qiy {c:En}:qh2 "kept" c [(("heaps" : Str),a),("kept",b)]=[(("heaps" : Str),a),("kept",c)]:=by
 unfold qh2;rw[if_neg nHK];unfold qh2;rw[if_pos rfl]
theorem qgb {c:En}:qh2 "kept" c [(("heaps" : Str),a)]=[(("heaps" : Str),a),("kept",c)]:=by
 unfold qh2;rw[if_neg nHK];rfl
def at2 (wh:Int) (A B:List Pt):List Pt:=if wh=0 then A else B
theorem qaM (h:wh=0\/wh=1) (A B:List Pt):atI [hpD A,hpD B] wh=some (hpD (at2 wh A B)):=by
 rcases h with rfl | rfl
 .exact yf (j:=0) rfl
 .exact yf (j:=1) rfl
def Y1 (wh:Int) (X A B:List Pt):List Pt×List Pt:=if wh=0 then (X,B) else (A,X)
theorem qk6 (h:wh=0\/wh=1) (X A B:List Pt):0<=wh/\wh.toNat < [hpD A,hpD B].length/\[hpD A,hpD B].set wh.toNat (hpD X)=[hpD (Y1 wh X A B).1,hpD (Y1 wh X A B).2]:=by
 rcases h with rfl | rfl
 .exact ⟨'d',by show 0<2;decide,rfl⟩
 .exact ⟨'d',by show 1<2;decide,rfl⟩
theorem qi2 {x a b:Addr×MO}(h:x∈U1++U2):x∈U1++a::b::U2:=by
 rcases qG.mp h with h | h
 .exact q0 _ h
 .exact qg _ (qe _ (qe _ h))
theorem qis (A:List Pt) (p q:Pt):(repl A p q).length=A.length:=by unfold repl;rw[List.length_set]
def qj8 (es:List En) (_:Mu):Prop:=∃ (A:List Pt) (q:Pt),es=[.d (hpD A),.d (ptD q)]/\q∉A
theorem qos (F:"find_place"^^^YQ) (T:TxtC K mg CN):1|||(n6,yW K CN qj8):=by
 refine F.okL (N:=n6) fun nd Oy A outer s H E es U vs Q hr M hS kE Oc=>?_;obtain⟨A,q,e,hq⟩:=Oc;subst e;refine⟨_,yG (qgf (yc (K:=K) (qeB hr.u66) (dv 1) (dv 0) rfl) (jn (qiA (C:=CN) T.exc PySem.F.excBase_ValueError T.cls_Lacking rfl (Yn qeg qci))) qdf) Jz,?_⟩;refine YX true hS M ⟨_,_,rfl,.d _,jz [q.1,q.2],Zy A,rfl,?_⟩ fun H' M' s'=>Z1 ⟨sz1,kE H' M' s'⟩;show (!((A.map ptD).any fun z=>z.eqv (ptD q)))=true;rw[qc1,yi hq];rfl
def qmD (A:List Pt) (q:Pt):List Pt:=A.take (A.idxOf q)++A.drop (A.idxOf q+1)
def qnu:SpD:=fun es U Q=>∃ (A:List Pt) (p:Pt),es=[.d (hpD A),.d (ptD p)]/\p∈A/\A.length<=100/\Q (.d (hpD (qmD A p))) U
theorem qlF (F:"shrunk"^^^qc9) (hX:NoX CX) (Oi:1<<<("find_place",n6,yd K sFP)):2>>>(n6,yd K qnu):=by
 refine F.okE (N:=["heap", "point", "at"]) fun U Q nd hr Oc=>?_;obtain⟨A,p,e,hp,hl,k⟩:=Oc;subst e;refine⟨_,(qq (qT 2 (qK Oi (qb (dv 0) (qb (dv 1) qi))))
   (qE (qS (y9 ZQ (Jw (dv 0) Ys (jW (dv 2))) (Jw (dv 0) (jW (y9 Yc (dv 2) qL)) Ys))))),?_⟩
 have hi:=(qeu hp).1;have c1:Z5 (A.map ptD) none (some ((A.idxOf p:Nat):Int))=(A.take (A.idxOf p)).map ptD:=by rw[qkA _ _ (by rw[qc];omega),List.map_take]
 have c2:Z5 (A.map ptD) (some (((A.idxOf p:Nat):Int)+1)) none=(A.drop (A.idxOf p+1)).map ptD:=by
  have:=Z4 (A.map ptD) (A.idxOf p+1) (by rw[qc];omega);rw[Int.natCast_add] at this;rw[List.map_drop];exact this
 refine⟨A,p,rfl,hp,'o',_,.d _,_,.d _,_,_,.d _,.d _,?_,?_⟩
 .rw [c1,c2,qc,qc,jI,List.length_drop];omega
 .rw [c1,c2];unfold hpD qmD at k;rw[ye] at k;exact k
theorem qlE (F:"shrunk"^^^qc9) (Oi:1&&&("find_place",n6,Zi (yd K sFP) (yW K CN qj8))):2|||(n6,yW K CN qj8):=by
 refine F.okL (N:=["heap", "point", "at"]) fun nd Oy A outer s H E es U vs Q hr M hS kE Oc=>?_;obtain⟨A,q,e,hq⟩:=Oc;subst e;refine⟨_,yG (ZM (i:=2) nd rfl (.inl rfl) (Zp Oi.r qbu hr.mo rfl (qb (K:=K) (dv 0) (qb (dv 1) qi)))) Jz,?_⟩;exact YR hS M ⟨rfl,A,q,rfl,hq⟩ kE
def qn3 (es:List En) (_:Mu):Prop:=∃ (A:List Pt) (q g:Pt),es=[.d (hpD A),.d (ptD q),.d (ptD g)]/\q∉A
theorem qlA (F:"stepped"^^^qbj) (Oi:1&&&("find_place",n6,Zi (yd K sFP) (yW K CN qj8))):2|||(nu,yW K CN qn3):=by
 refine F.okL (N:=["heap", "point", "to", "at"]) fun nd Oy A outer s H E es U vs Q hr M hS kE Oc=>?_;obtain⟨A,q,g,e,hq⟩:=Oc;subst e;refine⟨_,yG (ZM (i:=3) nd rfl (.inl rfl) (Zp Oi.r qbu hr.mo rfl (qb (K:=K) (dv 0) (qb (dv 1) qi)))) Jz,?_⟩;exact YR hS M ⟨rfl,A,q,rfl,hq⟩ kE
def sGrw:SpD:=fun es U Q=>∃ (A:List Pt) (p:Pt),es=[.d (hpD A),.d (ptD p)]/\A.length<=100/\Q (.d (hpD (A++[p]))) U
theorem qor (F:"grown"^^^qjU):1>>>(n6,yd K sGrw):=by
 refine F.okE (N:=n6) fun U Q nd hr Oc=>?_;obtain⟨A,p,e,hl,k⟩:=Oc;subst e;refine⟨_,(qE (qS (y9 ZQ (dv 0) (Jx (qb (dv 1) qi))))),?_⟩;refine⟨zl1,_,_,.d _,.d _,?_,?_⟩
 .rw [qc];show A.length+1<=4000;omega
 .unfold hpD at k;rw[ye] at k;exact k
def sLW:SpD:=fun es U Q=>∃ ls ms:List Ln,es=[.d (.list (ls.map lnD)),.d (.list (ms.map lnD))]/\ls.length<4000/\ms.length<4000/\∀ d,Q (.d d) U
theorem ok_lw (F:"lines_without"^^^Js) (T:Txt mg):1>>>(["lines", "others"],yd K sLW):=by
 refine F.okE (N:=["lines", "others", "known"]) fun U Q nd hr Oc=>?_;obtain⟨ls,ms,e,hl,hm,k⟩:=Oc;subst e;refine⟨_,(qq (qT 2 (jx (qku (P:=P) (w:=w) (K:=K) rfl hr.units) (by rfl) T.set_ qkD (qb (dv 1) qi)))
   (qE (qS (JF (L:=["line"]) (sc:=qR Js) (N:=["lines", "others", "known"]) rfl rfl rfl 'k' (ji (dv 0)) (fun _ _ _ _ _=>(yS (i:=3) (show List.Nodup (["lines", "others", "known", "line"]:List Str) from by decide +kernel) rfl 't')) (fun _ _ _ _ _=>(qhv (yc (qfh (P:=P) (w:=w) (K:=K) hr.units) (dv 3) (dv 2) rfl))) (fun _ _ _ _ _=>(dv 3)))))),?_⟩
 refine⟨ms.map lnK,by rw[<- qlX];exact .d _,qlW ms,by rw[qc];omega,fun us hu hn h77=>?_⟩;exact⟨_,.d _,(by show (ls.map lnD).length<=4000;rw[qc];omega),qhH (as:=ls) (h:=lnD) (fun l=>!decide (lnK l∈us)) lnD (Src.l (.d _)) (fun l hl' R h=>⟨us,lnK l,rfl,qoA l,rfl,h⟩) (fun l hl' _ R h=>h) (k _)⟩
end K98
namespace K98
variable {A X:List Pt}{g:Pt}{R:Pt->Prop}
def qnB (C tb:Addr):SpD:=fun es U Q=>∃ (p dx:Addr) (A B:List Pt) (U0:Mu),es=[.m p,.d (hpD A),.d (hpD B)]/\U=(p,.ins C dx [])::U0/\A.length+B.length<=44/\Bds A/\Bds B/\TB tb∈U0 ∧
 ∀ (h:Addr) (ls:List Ln),qfn A B ls->ls.length<4000->(∀ l∈ls,LBd l)->Q (.d .none) ((h,KH A B)::(p,KI C dx h ls)::U0)
theorem qiS (F:Fun K "__init__" "Keeper.__init__" JZ f fd) (Ob:TxtK K C) (T:Txt mg) (hX:NoX CX) (Ol:7<<<("all_lines",n8,yd K (qnF tb))):8>>>(nR,yd K (qnB C tb)):=by
 refine F.okE (N:=nR) fun U Q nd hr Oc=>?_;obtain⟨p,dx,A,B,U0,e,e0,hl,hA,hB,htb,k⟩:=Oc;subst e e0;refine⟨_,(qq (qeA Ob.cl Ob.n_heaps (dv 0) (qhz (qb (jx qbO (by rfl) T.list_ qbS (qb (dv 1) qi)) (qb (jx qbO (by rfl) T.list_ qbS (qb (dv 2) qi)) qi))))
   (qE (qeA Ob.cl Ob.n_kept (dv 0) (qK Ol (qb (dv 1) (qb (dv 2) qi)))))),?_⟩
 refine⟨_,.l (.d _),_,.l (.d _),zl2,fun h hh=>?_⟩;refine⟨p,dx,[],_,[(h,.lst [.list (A.map ptD),.list (B.map ptD)])],U0,rfl,rfl,rfl,'d',?_⟩;refine⟨A,B,rfl,hl,hA,hB,qe _ (qe _ htb),fun ls hL h4 hb=>?_⟩;refine⟨p,dx,[("heaps",.m h)],_,[(h,.lst [.list (A.map ptD),.list (B.map ptD)])],U0,rfl,rfl,qgb,(show 1<1000 by decide),?_⟩;exact k h ls hL h4 hb
def qf5 (C:Addr):SpD:=fun es U Q=>∃ (p dx h:Addr) (A B:List Pt) (ls:List Ln) (wh:Int),es=[.m p,.d (.int wh)]/\(p,KI C dx h ls)∈U/\(h,KH A B)∈U/\(wh=0\/wh=1)/\Q (.d (hpD (at2 wh A B))) U
theorem qiT (F:Fun K "heap" "Keeper.heap" ZJ f fd) (Ob:TxtK K C) (T:Txt mg):1>>>(nQ,yd K (qf5 C)):=by
 refine F.okE (N:=nQ) fun U Q nd hr Oc=>?_;obtain⟨p,dx,h,A,B,ls,wh,e,hp,hh,hw,k⟩:=Oc;subst e;refine⟨_,(qE (qS (jx qbO (by rfl) T.list_ qbS (qb (jf ya (Yw Ob.cl Ob.n_heaps (dv 0) rfl) (dv 1)) qi)))),?_⟩;exact⟨p,dx,_,_,rfl,hp,j5,_,_,hh,qaM hw A B,_,.l (.d _),k⟩
def qf4 (C:Addr):SpD:=fun es U Q=>∃ (p dx h:Addr) (ls:List Ln),es=[.m p]/\(p,KI C dx h ls)∈U/\Q (.d (.list (ls.map lnD))) U
theorem qgz (F:Fun K "lines" "Keeper.lines" Y7 f fd) (Ob:TxtK K C) (T:Txt mg):1>>>(["self"],yd K (qf4 C)):=by
 refine F.okE (N:=["self"]) fun U Q nd hr Oc=>?_;obtain⟨p,dx,h,ls,e,hp,k⟩:=Oc;subst e;refine⟨_,(qE (qS (jx qbO (by rfl) T.list_ qbS (qb (Yw Ob.cl Ob.n_kept (dv 0) rfl) qi)))),?_⟩;exact⟨p,dx,_,_,rfl,hp,qbE,_,.l (.d _),k⟩
def qmP (C tb:Addr):SpD:=fun es U Q=>∃ (p dx h:Addr) (A B X:List Pt) (ls:List Ln) (wh:Int) (U1 U2:Mu),es=[.m p,.d (.int wh),.d (hpD X)]/\U=U1++(h,KH A B)::(p,KI C dx h ls)::U2/\(wh=0\/wh=1)/\ls.length<4000 ∧
 (Y1 wh X A B).1.length+(Y1 wh X A B).2.length<=44/\Bds (Y1 wh X A B).1/\Bds (Y1 wh X A B).2/\TB tb∈U1++U2 ∧
 ∀ ms:List Ln,qfn (Y1 wh X A B).1 (Y1 wh X A B).2 ms->ms.length<4000->(∀ l∈ms,LBd l)->∀ d,Q (.d d) (U1++(h,KH (Y1 wh X A B).1 (Y1 wh X A B).2)::(p,KI C dx h ms)::U2)
theorem qlI (F:Fun K "put" "Keeper.put" qaj f fd) (Ob:TxtK K C) (hX:NoX CX) (Ol:7<<<("all_lines",n8,yd K (qnF tb))) (OB:1<<<("lines_without",["lines", "others"],yd K sLW)):8>>>(nr,yd K (qmP C tb)):=by
 refine F.okE (N:=["self", "which", "heap", "elder"]) fun U Q nd hr Oc=>?_;obtain⟨p,dx,h,A,B,X,ls,wh,U1,U2,e,e0,hw,hl,hz,hA,hB,htb,k⟩:=Oc;subst e e0;refine⟨_,(qq (qT 3 (Yw Ob.cl Ob.n_kept (dv 0) rfl))
   (qq (YK (dv 2) (qoX (Yw Ob.cl Ob.n_heaps (dv 0) rfl) (dv 1)))
   (qq (qeA Ob.cl Ob.n_kept (dv 0) (qK Ol (qb (jf ya (Yw Ob.cl Ob.n_heaps (dv 0) rfl) qL) (qb (jf ya (Yw Ob.cl Ob.n_heaps (dv 0) rfl) qL) qi))))
   (qE (qS (ZS (qb (qK OB (qb (dv 3) (qb (Yw Ob.cl Ob.n_kept (dv 0) rfl) qi))) (qb (qK OB (qb (Yw Ob.cl Ob.n_kept (dv 0) rfl) (qb (dv 3) qi))) qi)))))))),?_⟩
 obtain⟨w0,w1,ws⟩:=qk6 hw X A B;have mp:∀ o o',(p,o)∈U1++(h,o')::(p,o)::U2:=fun o o'=>qg _ (qe _ qj);have mh:∀ o o',(h,o')∈U1++(h,o')::(p,o)::U2:=fun o o'=>qg _ qj;refine⟨p,dx,_,_,rfl,mp _ _,qbE,?_⟩;refine⟨p,dx,_,_,rfl,mp _ _,j5,U1,(p,KI C dx h ls)::U2,_,rfl,w0,w1,?_⟩;rw[ws];refine⟨p,dx,_,_,rfl,mp _ _,j5,_,_,mh _ _,yf (j:=0) rfl,p,dx,_,_,rfl,mp _ _,j5,_,_,mh _ _,yf (j:=1) rfl,_,_,rfl,hz,hA,hB,qi2 htb,fun ms hL h4 hb=>?_⟩;refine⟨p,dx,_,_,U1++[(h,KH (Y1 wh X A B).1 (Y1 wh X A B).2)],U2,rfl,by rw[qm];rfl,qiy,(show 2<1000 by decide),?_⟩;rw[qm];refine⟨p,dx,_,_,rfl,mp _ _,qbE,ls,ms,rfl,hl,h4,fun d1=>⟨p,dx,_,_,rfl,mp _ _,qbE,ms,ls,rfl,h4,hl,fun d2=>⟨zl2,k ms hL h4 hb _⟩⟩⟩
def aft (way:Int) (A:List Pt) (q g:Pt):List Pt:=if way=0 then A++[q] else if way=1 then qmD A q else repl A q g
theorem qjx : (qmD A q).length<=A.length:=by unfold qmD;rw[qr,jI,List.length_drop];omega
theorem qbY : (aft way A q g).length<=A.length+1:=by
 unfold aft;split
 .simp
 .split
  .have:=qjx (A:=A) (q:=q);omega
  .rw [qis];omega
theorem qpo {z:Pt}(h:z∈aft way A q g):z∈A\/z=q\/z=g:=by
 unfold aft at h;split at h
 .rcases qG.mp h with h | h
  .exact .inl h
  .exact .inr (.inl (qJ.mp h))
 .split at h
  .unfold qmD at h;rcases qG.mp h with h | h
   .exact .inl (jY h)
   .exact .inl (js h)
  .rcases List.mem_or_eq_of_mem_set h with h | h
   .exact .inl h
   .exact .inr (.inr h)
def Deed (C tb:Addr) (way:Int) (p:Addr) (wh:Int) (q g:Pt) (U:Mu) (Q:En->Mu->Prop):Prop:=∃ (dx h:Addr) (A B:List Pt) (ls:List Ln) (U1 U2:Mu),U=U1++(h,KH A B)::(p,KI C dx h ls)::U2/\(wh=0\/wh=1)/\(way=0\/q∈at2 wh A B)/\ls.length<4000 ∧
 A.length+B.length<=43/\Bds A/\Bds B/\Bd B30 q/\Bd B30 g/\TB tb∈U1++U2 ∧
 ∀ ms:List Ln,qfn (Y1 wh (aft way (at2 wh A B) q g) A B).1 (Y1 wh (aft way (at2 wh A B) q g) A B).2 ms->ms.length<4000->(∀ l∈ms,LBd l)->∀ d,
  Q (.d d) (U1++(h,KH (Y1 wh (aft way (at2 wh A B) q g) A B).1 (Y1 wh (aft way (at2 wh A B) q g) A B).2)::(p,KI C dx h ms)::U2)
theorem YU : (at2 wh A B).length<=A.length+B.length:=by unfold at2;split <;> omega
theorem qdR (hA:Bds A) (hB:Bds B):Bds (at2 wh A B):=by unfold at2;split <;> assumption
theorem qbo (hw:wh=0\/wh=1) (hl:A.length+B.length<=n) (hx:X.length<=(at2 wh A B).length+1):(Y1 wh X A B).1.length+(Y1 wh X A B).2.length<=n+1:=by
 rcases hw with rfl | rfl
 .have hx:X.length<=A.length+1:=hx;show X.length+B.length<=n+1;omega
 .have hx:X.length<=B.length+1:=hx;show A.length+X.length<=n+1;omega
theorem ZX (hX:∀ z∈X,R z) (hA:∀ z∈A,R z) (hB:∀ z∈B,R z):(∀ z∈(Y1 wh X A B).1,R z)/\∀ z∈(Y1 wh X A B).2,R z:=by
 unfold Y1;split
 .exact ⟨hX,hB⟩
 .exact ⟨hA,hX⟩
theorem qbZ (hA:∀ z∈A,R z) (hq:R q) (hg:R g):∀ z∈aft way A q g,R z:=fun z hz=>by
 rcases qpo hz with h | h | h
 .exact hA z h
 .rw [h];exact hq
 .rw [h];exact hg
def qnD (C tb:Addr):SpD:=fun es U Q=>∃ (p:Addr) (wh:Int) (q:Pt),es=[.m p,.d (.int wh),.d (ptD q)]/\Deed C tb 0 p wh q q U Q
theorem qiW (F:Fun K "come" "Keeper.come" ZK f fd) (Ob:TxtK K C) (hX:NoX CX) (Of:yQ P w K mg base CX 8 C "put" nr (yd K (qmP C tb))) (Mc:1<<<("grown",n6,yd K sGrw)):9>>>(ng,yd K (qnD C tb)):=by
 refine F.okE (N:=ng) fun U Q nd hr Oc=>?_;obtain⟨p,wh,q,e,dx,h,A,B,ls,U1,U2,e0,hw,hq,hl,hz,hA,hB,bq,hg,htb,k⟩:=Oc;subst e e0;refine⟨_,(qE (qS (y7 Of (dv 0) (qb (dv 1) (qb (qK Mc (qb (jf ya (Yw Ob.cl Ob.n_heaps (dv 0) rfl) (dv 1)) (qb (dv 2) qi))) qi))))),?_⟩;have mp:∀ o o',(p,o)∈U1++(h,o')::(p,o)::U2:=fun o o'=>qg _ (qe _ qj);have mh:∀ o o',(h,o')∈U1++(h,o')::(p,o)::U2:=fun o o'=>qg _ qj;have hz2:=YU (wh:=wh) (A:=A) (B:=B);refine⟨p,dx,_,rfl,mp _ _,Yr,p,dx,_,_,rfl,mp _ _,j5,_,_,mh _ _,qaM hw A B,at2 wh A B,q,rfl,'o',?_⟩;have bb:=ZX (wh:=wh) (A:=A) (B:=B) (R:=Bd B30) (X:=aft 0 (at2 wh A B) q q) (qbZ (qdR hA hB) bq bq) hA hB;exact⟨p,dx,h,A,B,aft 0 (at2 wh A B) q q,ls,wh,U1,U2,rfl,rfl,hw,hl,qbo hw hz qbY,bb.1,bb.2,htb,k⟩
def sGo (C tb:Addr):SpD:=fun es U Q=>∃ (p:Addr) (wh:Int) (q:Pt),es=[.m p,.d (.int wh),.d (ptD q)]/\Deed C tb 1 p wh q q U Q
theorem qlK (F:Fun K "go" "Keeper.go" Zo f fd) (Ob:TxtK K C) (hX:NoX CX) (Of:yQ P w K mg base CX 8 C "put" nr (yd K (qmP C tb))) (Oz:2<<<("shrunk",n6,Zi (yd K qnu) (yW K CN qj8))):9>>>(ng,yd K (sGo C tb)):=by
 refine F.okE (N:=ng) fun U Q nd hr Oc=>?_;obtain⟨p,wh,q,e,dx,h,A,B,ls,U1,U2,e0,hw,hq,hl,hz,hA,hB,bq,hg,htb,k⟩:=Oc;subst e e0;refine⟨_,(qE (qS (y7 Of (dv 0) (qb (dv 1) (qb (qK Oz.l (qb (jf ya (Yw Ob.cl Ob.n_heaps (dv 0) rfl) (dv 1)) (qb (dv 2) qi))) qi))))),?_⟩;have mp:∀ o o',(p,o)∈U1++(h,o')::(p,o)::U2:=fun o o'=>qg _ (qe _ qj);have mh:∀ o o',(h,o')∈U1++(h,o')::(p,o)::U2:=fun o o'=>qg _ qj;have hz2:=YU (wh:=wh) (A:=A) (B:=B);have hq:q∈at2 wh A B:=hq.resolve_left 'd';refine⟨p,dx,_,rfl,mp _ _,Yr,p,dx,_,_,rfl,mp _ _,j5,_,_,mh _ _,qaM hw A B,at2 wh A B,q,rfl,hq,'o',?_⟩;have bb:=ZX (wh:=wh) (A:=A) (B:=B) (R:=Bd B30) (X:=aft 1 (at2 wh A B) q q) (qbZ (qdR hA hB) bq bq) hA hB;exact⟨p,dx,h,A,B,aft 1 (at2 wh A B) q q,ls,wh,U1,U2,rfl,rfl,hw,hl,qbo hw hz qbY,bb.1,bb.2,htb,k⟩
def qk8 (C tb:Addr):SpD:=fun es U Q=>∃ (p:Addr) (wh:Int) (q g:Pt),es=[.m p,.d (.int wh),.d (ptD q),.d (ptD g)]/\Deed C tb 2 p wh q g U Q
theorem qgy (F:Fun K "step" "Keeper.step" Ym f fd) (Ob:TxtK K C) (hX:NoX CX) (Of:yQ P w K mg base CX 8 C "put" nr (yd K (qmP C tb))) (Op:2<<<("stepped",nu,Zi (yd K qnr) (yW K CN qn3))):9>>>(ni,yd K (qk8 C tb)):=by
 refine F.okE (N:=ni) fun U Q nd hr Oc=>?_;obtain⟨p,wh,q,g,e,dx,h,A,B,ls,U1,U2,e0,hw,hq,hl,hz,hA,hB,bq,hg,htb,k⟩:=Oc;subst e e0;refine⟨_,(qE (qS (y7 Of (dv 0) (qb (dv 1) (qb (qK Op.l (qb (jf ya (Yw Ob.cl Ob.n_heaps (dv 0) rfl) (dv 1)) (qb (dv 2) (qb (dv 3) qi)))) qi))))),?_⟩;have mp:∀ o o',(p,o)∈U1++(h,o')::(p,o)::U2:=fun o o'=>qg _ (qe _ qj);have mh:∀ o o',(h,o')∈U1++(h,o')::(p,o)::U2:=fun o o'=>qg _ qj;have hz2:=YU (wh:=wh) (A:=A) (B:=B);have hq:q∈at2 wh A B:=hq.resolve_left 'd';refine⟨p,dx,_,rfl,mp _ _,Yr,p,dx,_,_,rfl,mp _ _,j5,_,_,mh _ _,qaM hw A B,at2 wh A B,q,g,rfl,hq,'o',?_⟩;have bb:=ZX (wh:=wh) (A:=A) (B:=B) (R:=Bd B30) (X:=aft 2 (at2 wh A B) q g) (qbZ (qdR hA hB) bq hg) hA hB;exact⟨p,dx,h,A,B,aft 2 (at2 wh A B) q g,ls,wh,U1,U2,rfl,rfl,hw,hl,qbo hw hz qbY,bb.1,bb.2,htb,k⟩
end K98
namespace K98
def preG (C:Addr) (es:List En) (U:Mu):Prop:=∃ (p dx h:Addr) (A B:List Pt) (ls:List Ln) (wh:Int) (q:Pt),es=[.m p,.d (.int wh),.d (ptD q)]/\(p,KI C dx h ls)∈U/\(h,KH A B)∈U/\(wh=0\/wh=1)/\q∉at2 wh A B
theorem qlJ (F:Fun K "go" "Keeper.go" Zo f fd) (Ob:TxtK K C) (Of:yQ P w K mg base 'x' 8 C "put" nr (yd K (qmP C tb))) (Oz:2&&&("shrunk",n6,Zi (yd K qnu) (yW K CN qj8))):9|||(ng,yW K CN (preG C)):=by
 refine F.okL (N:=ng) fun nd Oy A' outer s H E es U vs Q hr M hS kE Oc=>?_;obtain⟨p,dx,h,A,B,ls,wh,q,e,hmp,hmh,hw,hq⟩:=Oc;subst e;obtain⟨g0,fd0,F0,c0,hm0,hb0⟩:=Of;refine⟨_,jn (Y8 (Zq (E:=E) (dv (K:=K) 0) c0 hm0 F0 hr.mo hb0 .nil qbu (Yn (dv (K:=K) 1) (Yn (Zp (E:=E) Oz.r qbu hr.mo rfl (qb (K:=K) (jf ya (Yw Ob.cl Ob.n_heaps (dv 0) rfl) (dv 1)) (qb (dv 2) qi))) qci)))),?_⟩;refine JJ (.m p) hS M ⟨rfl,rfl⟩ fun v H1 M1 s1 j1=>?_;have j1:v = .ref p:=j1;obtain⟨us,hv,pv⟩:=M1.ob p _ hmp;refine⟨p,dx,us,j1,hv,ZO pv Yr,?_⟩;refine JJ (.d (.int wh)) (hS.same s1) M1 ⟨rfl,rfl⟩ fun v H2 M2 s2 j2=>?_;exact YR ((hS.same s1).same s2) M2 ⟨p,dx,_,_,rfl,hmp,j5,_,_,hmh,qaM hw A B,rfl,at2 wh A B,q,rfl,hq⟩ fun H' M' s'=>kE H' M' ((s1.trans s2).trans s')
def preT (C:Addr) (es:List En) (U:Mu):Prop:=∃ (p dx h:Addr) (A B:List Pt) (ls:List Ln) (wh:Int) (q g:Pt),es=[.m p,.d (.int wh),.d (ptD q),.d (ptD g)]/\(p,KI C dx h ls)∈U/\(h,KH A B)∈U/\(wh=0\/wh=1)/\q∉at2 wh A B
theorem qgx (F:Fun K "step" "Keeper.step" Ym f fd) (Ob:TxtK K C) (Of:yQ P w K mg base 'x' 8 C "put" nr (yd K (qmP C tb))) (Op:2&&&("stepped",nu,Zi (yd K qnr) (yW K CN qn3))):9|||(ni,yW K CN (preT C)):=by
 refine F.okL (N:=ni) fun nd Oy A' outer s H E es U vs Q hr M hS kE Oc=>?_;obtain⟨p,dx,h,A,B,ls,wh,q,g,e,hmp,hmh,hw,hq⟩:=Oc;subst e;obtain⟨g0,fd0,F0,c0,hm0,hb0⟩:=Of;refine⟨_,jn (Y8 (Zq (E:=E) (dv (K:=K) 0) c0 hm0 F0 hr.mo hb0 .nil qbu (Yn (dv (K:=K) 1) (Yn (Zp (E:=E) Op.r qbu hr.mo rfl (qb (K:=K) (jf ya (Yw Ob.cl Ob.n_heaps (dv 0) rfl) (dv 1)) (qb (dv 2) (qb (dv 3) qi)))) qci)))),?_⟩;refine JJ (.m p) hS M ⟨rfl,rfl⟩ fun v H1 M1 s1 j1=>?_;have j1:v = .ref p:=j1;obtain⟨us,hv,pv⟩:=M1.ob p _ hmp;refine⟨p,dx,us,j1,hv,ZO pv Yr,?_⟩;refine JJ (.d (.int wh)) (hS.same s1) M1 ⟨rfl,rfl⟩ fun v H2 M2 s2 j2=>?_;exact YR ((hS.same s1).same s2) M2 ⟨p,dx,_,_,rfl,hmp,j5,_,_,hmh,qaM hw A B,rfl,at2 wh A B,q,g,rfl,hq⟩ fun H' M' s'=>kE H' M' ((s1.trans s2).trans s')
end K98
namespace K98
def sIsW:SpD:=fun es U Q=>∃ n:Int,es=[.d (.int n)]/\Q (.d (.bool true)) U
theorem qdn (F:"is_whole"^^^qcb) (T:Txt mg):1>>>(nC,yd K sIsW):=by
 refine F.okE (N:=nC) fun U Q nd hr Oc=>?_;obtain⟨n,e,k⟩:=Oc;subst e;refine⟨_,(qE (qS (qfj (yy qbh (by rfl) T.isinstance_ jl (qb (dv 0) (qb (qmT rfl T.int_ qhP) qi))) (qaJ (d_not (yy qbh (by rfl) T.isinstance_ jl (qb (dv 0) (qb (qmT rfl T.bool_ qmF) qi)))))))),?_⟩;exact⟨'d','d',k⟩
def qla:SpD:=fun es U Q=>∃ ns:List Int,es=[.d (.tuple (ns.map .int))]/\ns.length<=4000/\Q (.d (.bool true)) U
theorem qcr (F:"are_whole"^^^Zj) (T:Txt mg) (hX:NoX CX) (Md:1<<<("is_whole",nC,yd K sIsW)):2>>>(["things"],yd K qla):=by
 refine F.okE (N:=["things"]) fun U Q nd hr Oc=>?_;obtain⟨ns,e,hl,k⟩:=Oc;subst e;refine⟨_,(qE (qS (yy (qkv rfl) (by rfl) T.all_ qkE (qb (JF (L:=nC) (sc:=qR Zj) (N:=["things"]) rfl rfl rfl 'k' (qoV (dv 0)) (fun _ _ _ _ _=>(yS (i:=1) (show List.Nodup (["things", "thing"]:List Str) from by decide +kernel) rfl 't')) (fun _ _ _ _ _=>jH) (fun _ _ _ _ _=>(qK Md (qb (dv 1) qi)))) qi)))),?_⟩;refine⟨(show (ns.map PyData.int).length<=4000 by rw[qc];exact hl),qpd (fun _=>.bool true) Src.t (fun x hx R h=>?_) ?_⟩
 .obtain ⟨n,_,rfl⟩:=qu.mp hx;exact⟨n,rfl,h⟩
 .refine ⟨ns.map fun _=>true,by rw[yu,yu];exact .d _,?_⟩;have e:(ns.map fun _=>true).all id=true:=by simp
  show Q (.d (.bool ((ns.map fun _=>true).all id))) U;rw[e];exact k
def sFew:SpD:=fun es U Q=>∃ n:Int,es=[.d (.int n)]/\n.natAbs<1000000000000000000000000000000/\Q (.d (.bool true)) U
theorem e30':(10:Int) ^ (30:Int).toNat=1000000000000000000000000000000:=by decide +kernel
theorem qou (F:"has_few_figures"^^^JY) (T:Txt mg):1>>>(["number"],yd K sFew):=by
 refine F.okE (N:=["number"]) fun U Q nd hr Oc=>?_;obtain⟨n,e,hn,k⟩:=Oc;subst e;refine⟨_,(qE (qS (JG qdA (yy qcF (by rfl) T.abs_ qcT (qb (dv 0) qi)) (y9 Ze qL qL)))),?_⟩;refine⟨⟨'d','d','d'⟩,?_⟩;change Q (.d (.bool (decide ((n.natAbs:Int)<(10:Int) ^ (30:Int).toNat)))) U;rw[e30',qH 'l'];exact k
def qnz:SpD:=fun es U Q=>∃ q:Pt,es=[.d (ptD q)]/\q.1.natAbs<1000000000000000000000000000000/\q.2.natAbs<1000000000000000000000000000000/\Q (.d (.bool true)) U
theorem qdo (F:"is_point"^^^qcc) (T:Txt mg) (hX:NoX CX) (OC:2<<<("are_whole",["things"],yd K qla)) (Ov:1<<<("has_few_figures",["number"],yd K sFew)):3>>>(nC,yd K qnz):=by
 refine F.okE (N:=nC) fun U Q nd hr Oc=>?_;obtain⟨q,e,h1,h2,k⟩:=Oc;subst e;refine⟨_,(qq (yY (qcE (qaS (Yb (jX (yy qbh (by rfl) T.isinstance_ jl (qb (dv 0) (qb (qmT rfl T.tuple_ qbR) qi))))) (qaS (yc (JD hr.units) (yy Yv (by rfl) T.len_ Yf (qb (dv 0) qi)) qL) (ZP (Yb (jX (qK OC (qb (dv 0) qi)))))))) (qE (qS qfi)) yA)
   (qE (qS (qfj (qK Ov (qb (jf ya (dv 0) qL) qi)) (qaJ (qK Ov (qb (jf ya (dv 0) qL) qi))))))),?_⟩
 refine⟨'d',_,.t _,[q.1,q.2],rfl,zl2,?_⟩;exact⟨_,rfl,_,rfl,h1,_,rfl,_,rfl,h2,k⟩
def LdL (l:Ln):Prop:=Int.gcd l.1.1 l.1.2=1/\(0<l.1.1\/(l.1.1=0/\l.1.2=1))
def sIsL:SpD:=fun es U Q=>∃ l:Ln,es=[.d (.int l.1.1),.d (.int l.1.2)]/\LdL l/\Q (.d (.bool true)) U
theorem qe2 (F:"is_lead"^^^qd5) (hX:NoX CX) (Om:1<<<("common_divisor",n8,yd K sGcd)):2>>>(["a", "b"],yd K sIsL):=by
 refine F.okE (N:=["a", "b"]) fun U Q nd hr Oc=>?_;obtain⟨l,e,h1,k⟩:=Oc;subst e;refine⟨_,(qE (qS (qfj (JG (Jc hr.units) (qK Om (qb (dv 0) (qb (dv 1) qi))) qL) (qaJ (d_or (JG qjn (dv 0) qL) (qaJ (qfj (JG (Jc hr.units) (dv 0) qL) (qaJ (JG (Jc hr.units) (dv 1) qL))))))))),?_⟩;refine⟨_,_,rfl,?_⟩;obtain⟨hg,hd⟩:=h1;show (if decide (((Int.gcd l.1.1 l.1.2:Nat):Int)=1)=true then _ else _);rw[hg];refine Z1 ?_;rcases hd with h | ⟨h,h'⟩
 .show (if decide (0<l.1.1)=true then _ else _);rw[qH h];exact Z1 k
 .show (if decide (0<l.1.1)=true then _ else _);rw[h,h'];exact k
def qnA:SpD:=fun es U Q=>∃ l:Ln,es=[.d (lnD l)]/\LdL l/\Q (.d (.bool true)) U
theorem qe1 (F:"is_line"^^^qd4) (T:Txt mg) (hX:NoX CX) (OC:2<<<("are_whole",["things"],yd K qla)) (Mg:2<<<("is_lead",["a", "b"],yd K sIsL)):3>>>(nC,yd K qnA):=by
 refine F.okE (N:=nC) fun U Q nd hr Oc=>?_;obtain⟨l,e,h1,k⟩:=Oc;subst e;refine⟨_,(qq (yY (qcE (qaS (Yb (jX (yy qbh (by rfl) T.isinstance_ jl (qb (dv 0) (qb (qmT rfl T.tuple_ qbR) qi))))) (qaS (yc (JD hr.units) (yy Yv (by rfl) T.len_ Yf (qb (dv 0) qi)) qL) (ZP (Yb (jX (qK OC (qb (dv 0) qi)))))))) (qE (qS qfi)) yA)
   (qE (qS (qK Mg (qb (jf ya (dv 0) qL) (qb (jf ya (dv 0) qL) qi)))))),?_⟩
 refine⟨'d',_,.t _,[l.1.1,l.1.2,l.2],rfl,zl3,?_⟩;exact⟨_,rfl,_,rfl,l,rfl,h1,k⟩
end K98
namespace K98
variable {ps:List Pt}
theorem YD {n:Int}(h:Num n):n.natAbs<10 ^ 62:=by
 have:n.natAbs<1000000000000000000000000000000:=by obtain⟨a,b⟩:=h;lia
 exact qM this 'k'
theorem qox {n:Int}(h:Num n):n.natAbs<1000000000000000000000000000000:=by obtain⟨a,b⟩:=h;lia
def L62 (l:Ln):Prop:=l.1.1.natAbs<10 ^ 62/\l.1.2.natAbs<10 ^ 62/\l.2.natAbs<10 ^ 62
def sWH:SpD:=fun es U Q=>∃ (e:En) (ps:List Pt),es=[e]/\LstOf U e (ps.map ptD)/\ps.length<=40/\(∀ q∈ps,Jf q)/\Q (.d (.str (wH ps))) U
theorem qm5 (hl:ps.length<=40) (hb:∀ q∈ps,Jf q):((ps.map wP).map (·.length)).sum+(ps.map wP).length * bk.length<=800000:=by
 have:∀ {qs:List Pt},(∀ q∈qs,Jf q)->((qs.map wP).map (·.length)).sum<=qs.length * 127:=by
  intro qs h;induction qs with
  | nil=>simp
  | cons q r ih =>
   have h1:=qaW (YD (h q 's').1) (YD (h q 's').2);have h2:=ih fun z hz=>h z (qe _ hz);simp only[qP,List.sum_cons,qU];lia
 have h1:=this hb;have h2:bk.length=1:=by decide +kernel
 rw[qc,h2];lia
theorem qbx (F:"write_heap"^^^YN):1>>>(nk,yd K sWH):=by
 refine F.okE (N:=nk) fun U Q nd hr Oc=>?_;obtain⟨e,ps,z,hl,hn,hb,k⟩:=Oc;subst z;refine⟨_,(qE (qS (qhA yH (qb (JF (L:=["x", "y"]) (sc:=qR YN) (N:=nk) rfl rfl rfl 'k' (ji (dv 0)) (fun _ _ _ _ _=>(Jn (n:=2) rfl (yn (yS (i:=1) (show List.Nodup (["heap", "x", "y"]:List Str) from by decide +kernel) rfl 't') (yn (yS (i:=2) (show List.Nodup (["heap", "x", "y"]:List Str) from by decide +kernel) rfl 't') jG)))) (fun _ _ _ _ _=>jH) (fun _ _ _ _ _=>(qkx (Yt (qhD (dv 1)) (Yt yH (Yt (qhD (dv 2)) qks)))))) qi) (h:=fun a b=>qam PySem.F.plainAttrs_str PySem.F.slot_str_join PySem.F.type_str_join qbC a b)))),?_⟩;refine⟨_,hl,(show (ps.map ptD).length<=4000 by rw[qc];lia),qpg (as:=ps) (h1:=fun q=>.int q.1) (h2:=fun q=>.int q.2) (fun q=>.str (wP q)) (Src.l hl) (fun q hq R h=>?_) ?_⟩
 .have h1:=YD (hb q hq).1;have h2:=YD (hb q hq).2;have a:(Str.ofString (toString q.1)).length<=63:=qai h1;have b:(Str.ofString (toString q.2)).length<=63:=qai h2;have e1:(Str.ofString ",").length=1:=by decide +kernel
  have e0:Str.empty.length=0:=rfl;refine⟨jS h1,?_,?_,jS h2,?_,?_,h⟩
  .rw [qI];lia
  .rw [qI,qI];lia
  .rw [qI,qI,qI];lia
  .rw [qI,qI,qI];lia
 .exact ⟨ps.map wP,by rw[yu];exact .d _,qm5 hn hb,k⟩
def sWL:SpD:=fun es U Q=>∃ l:Ln,es=[.d (lnD l)]/\L62 l/\Q (.d (.str (wL l))) U
theorem qbw (F:"write_line"^^^qaa):1>>>(["line"],yd K sWL):=by
 refine F.okE (N:=["line", "a", "b", "c"]) fun U Q nd hr ⟨l,z,⟨h1,h2,h3⟩,k⟩=>?_;subst z;refine⟨_,(qq (YK (dv 0) (Jn (n:=3) rfl (yn (jp (i:=1) nd) (yn (jp (i:=2) nd) (yn (jp (i:=3) nd) jG)))))
   (qE (qS (qkx (Yt (qhD (dv 1)) (Yt yH (Yt (qhD (dv 2)) (Yt yH (Yt (qhD (dv 3)) qks))))))))),?_⟩
 have a:(Str.ofString (toString l.1.1)).length<=63:=qai h1;have b:(Str.ofString (toString l.1.2)).length<=63:=qai h2;have c:(Str.ofString (toString l.2)).length<=63:=qai h3;have e1:(Str.ofString " ").length=1:=by decide +kernel
 have e0:Str.empty.length=0:=rfl;refine⟨rfl,jS h1,?_,?_,jS h2,?_,?_,jS h3,?_,?_,k⟩ <;> (simp only[qI];lia)
def sSpl:SpD:=fun es U Q=>∃ x m:Str,es=[.d (.str x),.d (.str m)]/\(m.length == 0)=false/\x.length<=800000/\(Txt.split x m).length<=4000/\Q (.d (.list ((Txt.split x m).map .str))) U
theorem qby (F:"split_text"^^^qac) (T:Txt mg):1>>>(nq,yd K sSpl):=by
 refine F.okE (N:=nq) fun U Q nd hr Oc=>?_;obtain⟨x,m,z,h1,h2,h3,k⟩:=Oc;subst z;refine⟨_,(qq (yY (Yb (jX (yy qbh (by rfl) T.isinstance_ jl (qb (dv 0) (qb (qmT rfl T.str_ qcS) qi))))) (qE jF) yA)
   (qE (qS (qdH (dv 0) (qb (dv 1) qi) (h:=fun a b=>qam PySem.F.plainAttrs_str PySem.F.slot_str_split PySem.F.type_str_split qbB a b))))),?_⟩
 exact⟨'d',h1,h2,h3,k⟩
def sRN:SpD:=fun es U Q=>∃ n:Int,es=[.d (.str (sN n))]/\n.natAbs<10 ^ 62/\Q (.d (.int n)) U
theorem qaQ (F:"read_number"^^^ZF) (T:Txt mg):1>>>(nI,yd K sRN):=by
 refine F.okE (N:=["word", "number", "written"]) fun U Q nd hr Oc=>?_;obtain⟨n,z,h1,k⟩:=Oc;subst z;refine⟨_,(qq (qdg (fun _=>(qq (qT 1 (jx qmp (by rfl) T.int_ qhP (qb (dv 0) qi)))
   (qE (qT 2 (jx qdG (by rfl) T.str_ qcS (qb (dv 1) qi)))))))
   (qq (yY (yc (JD hr.units) (dv 2) (dv 0)) (qE jF) yA)
   (qE (qS (dv 1))))),?_⟩
 have a:=qai h1;refine⟨n,qip 'l','l',jS h1,?_⟩;refine⟨_,_,.d _,.d _,(Asc.sN n).ok,(Asc.sN n).ok,?_⟩;rw[JS,qH rfl];exact k
def sRNs:SpD:=fun es U Q=>∃ (x m:Str) (ns:List Int),es=[.d (.str x),.d (.str m)]/\(m.length == 0)=false/\x.length<=800000/\Txt.split x m=ns.map sN/\ns.length<=3/\(∀ n∈ns,n.natAbs<10 ^ 62)/\Q (.d (.tuple (ns.map .int))) U
theorem qap (F:"read_numbers"^^^JK) (T:Txt mg) (hX:NoX CX) (OA:1<<<("split_text",nq,yd K sSpl)) (OO:1<<<("read_number",nI,yd K sRN)):2>>>(nq,yd K sRNs):=by
 refine F.okE (N:=nq) fun U Q nd hr Oc=>?_;obtain⟨x,m,ns,z,h1,h2,h3,h4,h5,k⟩:=Oc;subst z;refine⟨_,(qE (qS (jx qjr (by rfl) T.tuple_ qbR (qb (JF (L:=nI) (sc:=qR JK) (N:=nq) rfl rfl rfl 'k' (ji (qK OA (qb (dv 0) (qb (dv 1) qi)))) (fun _ _ _ _ _=>(yS (i:=2) (show List.Nodup (["text", "mark", "word"]:List Str) from by decide +kernel) rfl 't')) (fun _ _ _ _ _=>jH) (fun _ _ _ _ _=>(qK OO (qb (dv 2) qi)))) qi)))),?_⟩;refine⟨x,m,rfl,h1,h2,by rw[h3,qc];lia,?_⟩;rw[h3,yu];refine⟨_,.d _,(show (ns.map _).length<=4000 by rw[qc];lia),qaK (as:=ns) (fun n=>.int n) Src.d (fun n hn R h=>⟨n,rfl,h5 n hn,h⟩) ?_⟩;exact⟨_,.d _,k⟩
def sRP:SpD:=fun es U Q=>∃ q:Pt,es=[.d (.str (wP q))]/\Jf q/\Q (.d (ptD q)) U
theorem qbz (F:"read_point"^^^qad) (T:Txt mg) (hX:NoX CX) (Oq:2<<<("read_numbers",nq,yd K sRNs)) (Me:3<<<("is_point",nC,yd K qnz)):4>>>(ny,yd K sRP):=by
 refine F.okE (N:=["text", "point"]) fun U Q nd hr Oc=>?_;obtain⟨q,z,h1,k⟩:=Oc;subst z;refine⟨_,(qq (qT 1 (qK Oq (qb (dv 0) (qb yH qi))))
   (qq (yY (Yb (jX (qK Me (qb (dv 1) qi)))) (qE jF) yA)
   (qE (qS (dv 1))))),?_⟩
 have hl:=qaW (YD h1.1) (YD h1.2);refine⟨wP q,cm,[q.1,q.2],rfl,'k','l',qih q,(show 2<=3 by decide),?_,?_⟩
 .intro n hn;simp only[qF,List.mem_nil_iff,or_false] at hn;rcases hn with rfl | rfl
  .exact YD h1.1
  .exact YD h1.2
 .exact ⟨q,rfl,qox h1.1,qox h1.2,k⟩
def sRL:SpD:=fun es U Q=>∃ l:Ln,es=[.d (.str (wL l))]/\L62 l/\LdL l/\Q (.d (lnD l)) U
theorem qcm (F:"read_line"^^^qaY) (T:Txt mg) (hX:NoX CX) (Oq:2<<<("read_numbers",nq,yd K sRNs)) (Mh:3<<<("is_line",nC,yd K qnA)):4>>>(ny,yd K sRL):=by
 refine F.okE (N:=["text", "line"]) fun U Q nd hr Oc=>?_;obtain⟨l,z,h1,h2,k⟩:=Oc;subst z;refine⟨_,(qq (qT 1 (qK Oq (qb (dv 0) (qb yH qi))))
   (qq (yY (Yb (jX (qK Mh (qb (dv 1) qi)))) (qE jF) yA)
   (qE (qS (dv 1))))),?_⟩
 have hl:=qfC h1.1 h1.2.1 h1.2.2;refine⟨wL l,bk,[l.1.1,l.1.2,l.2],rfl,'k','l',qii l,(show 3<=3 by decide),?_,?_⟩
 .intro n hn;simp only[qF,List.mem_nil_iff,or_false] at hn;rcases hn with rfl | rfl | rfl
  .exact h1.1
  .exact h1.2.1
  .exact h1.2.2
 .exact ⟨l,rfl,h2,k⟩
theorem qm6 (hl:ps.length<=40) (hb:∀ q∈ps,Jf q):(wH ps).length<=800000:=by
 have:=Zb (y:=bk) (B:=127) (ws:=ps.map wP) fun x hx=>by obtain⟨q,hq,rfl⟩:=qu.mp hx;exact qaW (YD (hb q hq).1) (YD (hb q hq).2)
 have h2:bk.length=1:=by decide +kernel
 rw[qc,h2] at this;have:(wH ps).length<=ps.length * 128:=this;lia
def sRH:SpD:=fun es U Q=>∃ ps:List Pt,es=[.d (.str (wH ps))]/\ps.length<=40/\(∀ q∈ps,Jf q)/\Q (.d (hpD ps)) U
theorem qcn (F:"read_heap"^^^Zh) (T:Txt mg) (hX:NoX CX) (OA:1<<<("split_text",nq,yd K sSpl)) (Oe:4<<<("read_point",ny,yd K sRP)):5>>>(ny,yd K sRH):=by
 refine F.okE (N:=["text", "words"]) fun U Q nd hr Oc=>?_;obtain⟨ps,z,h1,h2,k⟩:=Oc;subst z;refine⟨_,(qq (qT 1 (qK OA (qb (dv 0) (qb yH qi))))
   (qq (yY (yc (Jc hr.units) (dv 1) (Jx (qb yH qi))) (qE (qS (Jx qi))) yA)
   (qE (qS (JF (L:=nI) (sc:=qR Zh) (N:=["text", "words"]) rfl rfl rfl 'k' (ji (dv 1)) (fun _ _ _ _ _=>(yS (i:=2) (show List.Nodup (["text", "words", "word"]:List Str) from by decide +kernel) rfl 't')) (fun _ _ _ _ _=>jH) (fun _ _ _ _ _=>(qK Oe (qb (dv 2) qi)))))))),?_⟩
 refine⟨wH ps,bk,rfl,'k',qm6 h1 h2,?_⟩;cases ps with
 | nil =>
  rw[qfQ];refine⟨'d',zl1,_,_,.d _,.d _,'k','k',?_⟩;exact⟨zl0,k⟩
 | cons q r =>
  rw[qij 's',yu];refine⟨by rw[qc];lia,zl1,_,_,.d _,.d _,?_,'k',?_⟩
  .have:=qk4 (ws:=(q::r).map wP) fun x hx=>by obtain⟨p,_,rfl⟩:=qu.mp hx;exact Asc.wP p
   rw[yu] at this;exact this
  .have e:PyData.eqv (.list ((q::r).map (PyData.str ∘ wP))) (.list [.str ""])=false:=by
    have h0:PyData.eqv (.str (wP q)) (.str "")=false:=by
     rw[JS,yi];exact fun z=>qm2 q (z.trans 'k')
    simp[PyData.eqv,PyData.eqvAll] at h0 ⊢;exact fun z=>absurd z h0
   rw[e];refine Zf ⟨_,.d _,(show ((q::r).map (PyData.str ∘ wP)).length<=4000 by rw[qc];lia),qaK (as:=q::r) (fun p=>ptD p) Src.d (fun p hp R h=>⟨p,rfl,h2 p hp,h⟩) k⟩
end K98
namespace L2
def qhm:Value->Option PyData
 | .none=>some .none
 | .int i _=>some (.int i)
 | _=>none
def ktup (K:W.Frag) (t:Addr):Option (List PyData):=match K.lookup t with
 | some o=>if (o.cls == .type "tuple")=true then (match o.data with
  | .seq its _=>if its.size<=100 then its.toList.mapM qhm else none
  | _=>none) else none
 | none=>none
theorem qev {K:W.Frag}{H:Hp}:∀ {vs:List Value}{ds:List PyData},vs.mapM qhm=some ds->∃ xs,yM xs vs/\IsAll K H xs ds
 | [],ds,h=>by cases h;exact⟨[],.nil,.nil⟩
 | v::vs,ds,h=>by
  rw[List.mapM_cons] at h;cases e:qhm v with
  | none=>rw[e] at h;cases h
  | some d =>
   rw[e] at h;cases e2:vs.mapM qhm with
   | none=>simp[e2] at h
   | some ds' =>
    simp[e2] at h;subst h;obtain⟨xs,r,i⟩:=qev (K:=K) (H:=H) e2;cases v <;> simp only[qhm] at e <;> first
     | (cases e;exact⟨.non::xs,.cons rfl r,.cons .non i⟩)
     | (cases e;exact⟨.int _::xs,.cons ⟨_,rfl⟩ r,.cons (.int _) i⟩)
     | cases e
theorem ql4 {t:Addr}(h:ktup K t=some ds) (H:Hp):Is K H (.ref t) (.tuple ds):=by
 unfold ktup at h;split at h
 .rename_i o ho
  split at h
  .rename_i hc
   split at h
   .rename_i its n hd
    split at h
    .rename_i hs
     obtain⟨xs,r,i⟩:=qev (K:=K) (H:=H) h;exact .tup (.inr ⟨o,its,n,ho,by simpa using hc,hd,by rw[sizeLine_eq];lia,r⟩) i
    .cases h
   .cases h
  .cases h
 .cases h
def Jv (K:W.Frag) (a:Addr) (x:Str):Option (List PyData):=match qaO K a x with
 | some (some (.ref t))=>ktup K t
 | _=>none
theorem qax (h:Jv K a x=some ds):∃ t,qaO K a x=some (some (.ref t))/\∀ H,Is K H (.ref t) (.tuple ds):=by
 unfold Jv at h;split at h
 .rename_i t e
  exact⟨t,e,fun H=>ql4 h H⟩
 .cases h
end L2
namespace K98
theorem _root_.L2.Room.u1 {k:Nat}(r:Room k A):A.units+1<cLine:=by have:=r.units;lia
structure TxtG (mg:Str->Option Value) (AF AD:Addr):Prop where
 FORMS:mg "FORMS" = some (.ref AF)
 DEEDS:mg "DEEDS" = some (.ref AD)
def Wd (x:Str):Prop:=Nb x/\Asc x/\x≠Str.empty/\x.length<=130
def sRW (K:W.Frag) (AF:Addr):SpD:=fun es U Q=>∃ (w0:Str) (tl:List Str) (n:Int) (m:PyData),es=[.d (.str (Str.join bk (w0::tl)))]/\(∀ x∈w0::tl,Wd x)/\tl.length<=60/\Jv K AF w0=some [.int n,m]/\n<=tl.length/\(m = .none\/m = .int (tl.length - n))/\Q (.d (.list ((w0::tl).map .str))) U
theorem qhV:∀ {ws:List Str},(∀ x∈ws,Wd x)->((ws.map PyData.str).any fun z=>z.eqv (.str ""))=false
 | [],_=>rfl
 | x::r,h=>by
  rw[qP,List.any_cons,qhV fun z hz=>h z (qe _ hz),JS,yi fun z=>(h x 's').2.2.1 (z.trans 'k')];rfl
theorem qcl (F:"row_words"^^^qaX) (T:Txt mg) (TG:TxtG mg AF AD):1>>>(["row"],yd K (sRW K AF)):=by
 refine F.okE (N:=["row", "words", "names", "more", "rest"]) fun U Q nd hr Oc=>?_;obtain⟨w0,tl,n,m,z,hw,hl,hf,hn,hm,k⟩:=Oc;subst z;refine⟨_,(qq (yY (Yb (jX (yy qbh (by rfl) T.isinstance_ jl (qb (dv 0) (qb (qmT rfl T.str_ qcS) qi))))) (qE jF) yA)
   (qq (qT 1 (qdH (dv 0) (qb yH qi) (h:=fun a b=>qam PySem.F.plainAttrs_str PySem.F.slot_str_split PySem.F.type_str_split qbB a b)))
   (qq (yY (qcE (qaS (yc (qml hr.u66) yH (dv 1) rfl) (ZP (qmj (jf ya (dv 1) qL) (qbi (by rfl) TG.FORMS))))) (qE jF) yA)
   (qq (YK (qcG (qbi (by rfl) TG.FORMS) (jf ya (dv 1) qL) (fun _ _=>rfl)) (Jn (n:=2) rfl (yn (jp (i:=2) nd) (yn (jp (i:=3) nd) jG))))
   (qq (qT 4 (y9 JC (y9 JC (yy Yv (by rfl) T.len_ Yf (qb (dv 1) qi)) qL) (dv 2)))
   (qq (yY (qcE (qaS (yc qdA (dv 4) qL) (ZP (qcE (Zd (yc qjm (dv 3) qmt) (JT (yc (JD hr.units) (dv 4) (dv 3)))))))) (qE jF) yA)
   (qE (qS (dv 1))))))))),?_⟩
 have hs:=qbk (ws:=w0::tl) 's' fun x hx=>(hw x hx).1;have hj:=Zb (y:=bk) (B:=130) (ws:=w0::tl) fun x hx=>(hw x hx).2.2.2;have h1:bk.length=1:=by decide +kernel
 rw[h1,qU] at hj;obtain⟨t,ht,hi⟩:=qax hf;refine⟨'d','k','l',by rw[hs,qU];lia,?_⟩;rw[hs];refine⟨_,_,rfl,.d _,'k',qbF fun x hx=>(hw x hx).2.1,?_⟩;rw[qhV hw];refine Zf ⟨.str w0,yf (j:=0) rfl,AF,_,rfl,ht,?_⟩;refine⟨.str w0,yf (j:=0) rfl,AF,t,rfl,ht,.inr ⟨_,hi,rfl,_,.l (.d _),?_⟩⟩;have e:(((w0::tl).map PyData.str).length:Int) - 1 - n=tl.length - n:=by rw[qc,qU];lia
 have c0:¬ ((tl.length:Int) - n<0):=by lia
 rcases hm with rfl | rfl
 .show (if decide ((((w0::tl).map PyData.str).length:Int) - 1 - n<0)=true then _ else _);rw[e,yi c0];exact Zf k
 .show (if decide ((((w0::tl).map PyData.str).length:Int) - 1 - n<0)=true then _ else _);rw[e,yi c0];refine Zf ?_;show (if (!decide ((((w0::tl).map PyData.str).length:Int) - 1 - n=tl.length - n))=true then _ else _);rw[e,qH rfl];exact Zf k
def Nam (x:Str):Prop:=1<=x.length/\x.length<=8/\∀ c∈cl x,97<=c/\c<=122
def sNam:SpD:=fun es U Q=>∃ x:Str,es=[.d (.str x)]/\Nam x/\Q (.d (.bool true)) U
theorem qe0 (F:"is_name"^^^qbm) (T:Txt mg):1>>>(nI,yd K sNam):=by
 refine F.okE (N:=nI) fun U Q nd hr ⟨x,z,⟨h1,h2,h3⟩,k⟩=>?_;subst z;refine⟨_,(qE (qS (qfj (qhE qjl qjl qL (yy qmo (by rfl) T.len_ Yf (qb (dv 0) qi)) qL (qaq _) (qaq _)) (qaJ (yy (qkv rfl) (by rfl) T.all_ qkE (qb (JF (L:=["letter"]) (sc:=qR qbm) (N:=nI) rfl rfl rfl 'k' (qoW (dv 0)) (fun _ _ _ _ _=>(yS (i:=1) (show List.Nodup (["word", "letter"]:List Str) from by decide +kernel) rfl 't')) (fun _ _ _ _ _=>jH) (fun _ _ _ _ _=>(qhE qkr qkr yH (dv 1) yH (qaq _) (qaq _)))) qi)))))),?_⟩;refine⟨'l',?_⟩;show (if decide ((1:Int)<=x.length)=true then _ else _);rw[qH 'l'];refine Z1 ?_;show (if decide ((x.length:Int)<=8)=true then _ else _);rw[qH 'l'];refine Z1 ⟨?_,?_,qpd (fun _=>.bool true) Src.t (fun z hz R h=>?_) ?_⟩
 .rw [Array.all_eq_true_iff_forall_mem];intro c hc;have:=h3 c (by simpa using hc);simp only[decide_eq_true_eq];lia
 .show (L2.sgs x).length<=4000;rw[L2.sgs,qc];have:x.cps.toList.length=x.length:=qy;lia
 .obtain ⟨c,hc,rfl⟩:=qu.mp hz;have hc:=h3 c hc;have ea:(!decide ((⟨#[c]⟩:Str).cps.toList<(Str.ofString "a").cps.toList))=true:=by
   rw[show (Str.ofString "a").cps.toList=[97] from by decide +kernel,Bool.not_eq_true',decide_eq_false_iff_not];exact fun h=>by rcases yU.mp h with h | ⟨_,h⟩ <;> first | lia | cases h
  have ez:(!decide ((Str.ofString "z").cps.toList<(⟨#[c]⟩:Str).cps.toList))=true:=by
   rw[show (Str.ofString "z").cps.toList=[122] from by decide +kernel,Bool.not_eq_true',decide_eq_false_iff_not];exact fun h=>by rcases yU.mp h with h | ⟨_,h⟩ <;> first | lia | cases h
  show (if (!decide ((⟨#[c]⟩:Str).cps.toList<(Str.ofString "a").cps.toList))=true then _ else _);rw[ea];refine Z1 ?_;show R (.d (.bool (!decide ((Str.ofString "z").cps.toList<(⟨#[c]⟩:Str).cps.toList)))) U;rw[ez];exact h
 .refine ⟨(L2.sgs x).map fun _=>true,by rw[yu];exact .d _,?_⟩;have e:((L2.sgs x).map fun _=>true).all id=true:=by simp
  show Q (.d (.bool (((L2.sgs x).map fun _=>true).all id))) U;rw[e];exact k
def sCN:SpD:=fun es U Q=>∃ ns:List Str,es=[.d (.list (ns.map .str))]/\(∀ x∈ns,Nam x)/\Q (.d .none) U
theorem qaR (F:"check_names"^^^ZH) (hX:NoX CX) (Mi:1<<<("is_name",nI,yd K sNam)):2>>>(["names"],yd K sCN):=by
 refine F.okE (N:=["names", "name"]) fun U Q nd hr Oc=>?_;obtain⟨ns,z,h1,k⟩:=Oc;subst z;refine⟨_,(qE (YJ PassesOwn.never rfl (ji (dv 0)) (jp (i:=1) nd) (qE (yY (Yb (jX (qK Mi (qb (dv 1) qi)))) (qE jF) yA)))),?_⟩;refine⟨_,.d _,qpK (fun i Y' U'=>U'=U/\∃ v1,Y'=[some (.d (.list (ns.map .str))),v1]) ⟨rfl,_,rfl⟩ (fun i Y' U' _=>.d _) ?_ ?_⟩
 .rintro i x Y' U' hx ⟨rfl,v1,rfl⟩;obtain⟨y,hy,rfl⟩:=qu.mp (List.mem_of_getElem? hx);exact⟨y,rfl,h1 y hy,Wks.of ⟨rfl,_,rfl⟩⟩
 .rintro Y' U' ⟨rfl,v1,rfl⟩;exact k
def sCS:SpD:=fun es U Q=>∃ (p:Addr) (xs:Nm) (ns:List Str),es=[.m p,.d (.list (ns.map .str))]/\(p,.nmd xs)∈U/\(∀ x∈ns,(j6 xs x).isSome=true)/\Q (.d .none) U
theorem Zt (F:"check_standing"^^^Yk):1>>>(["heaps", "names"],yd K sCS):=by
 refine F.okE (N:=["heaps", "names", "name"]) fun U Q nd hr Oc=>?_;obtain⟨p,xs,ns,z,hp,h1,k⟩:=Oc;subst z;refine⟨_,(qE (YJ PassesOwn.never rfl (ji (dv 1)) (jp (i:=2) nd) (qE (yY (qmi hr.u1 (dv 2) (dv 0)) (qE jF) yA)))),?_⟩;refine⟨_,.d _,qpK (fun i Y' U'=>U'=U/\∃ v1,Y'=[some (.m p),some (.d (.list (ns.map .str))),v1]) ⟨rfl,_,rfl⟩ (fun i Y' U' _=>.d _) ?_ ?_⟩
 .rintro i x Y' U' hx ⟨rfl,v1,rfl⟩;obtain⟨y,hy,rfl⟩:=qu.mp (List.mem_of_getElem? hx);refine⟨xs,hp,?_⟩;rw[h1 y hy];exact Wks.of ⟨rfl,_,rfl⟩
 .rintro Y' U' ⟨rfl,v1,rfl⟩;exact k
end K98
namespace K98
theorem qn2 {l:List Pt}(hn:l.Nodup) {p:Pt×Pt}(h:p∈prs l):p.1∈l/\p.2∈l/\p.1≠p.2:=by
 induction l with
 | nil=>exact (nomatch h)
 | cons a t ih =>
  obtain⟨h1,h2⟩:=yx.mp hn;rcases qG.mp h with h | h
  .obtain ⟨b,hb,rfl⟩:=qu.mp h;exact⟨qj,qe _ hb,fun z=>h1 (by have z:a=b:=z;rw[z];exact hb)⟩
  .obtain ⟨a1,a2,a3⟩:=ih h2 h;exact⟨qe _ a1,qe _ a2,a3⟩
def cOf (p q:Pt):Int:=(nOf p q).1 * p.1+(nOf p q).2 * p.2
def hv2 (A B:List Pt) (p:Pt×Pt):Bool:=qh4 (cOf p.1 p.2) (vls (nOf p.1 p.2) A) && qh4 (cOf p.1 p.2) (vls (nOf p.1 p.2) B)
def hvD (o:Option (Pt×Pt)):PyData:=match o with
 | some p=>.tuple [JX (thr p.1 p.2),ptD p.1,ptD p.2]
 | none=>.none
def sHv:SpD:=fun es U Q=>∃ A B:List Pt,es=[.d (hpD A),.d (hpD B)]/\A.length+B.length<=44/\Bds A/\Bds B/\(Plc (A++B) (plc (A++B))->Q (.d (hvD ((prs (plc (A++B))).find? (hv2 A B)))) U)
theorem qe3 (F:"halving"^^^qd6) (T:Txt mg) (hX:NoX CX) (Ou:2<<<("place_pairs",nk,yd K sPp)) (OM:3<<<("through",n8,yd K sThr)) (OK:4<<<("halves",nv,yd K qdb)):5>>>(n8,yd K sHv):=by
 refine F.okE (N:=["one", "other", "first", "second", "line"]) fun U Q nd hr Oc=>?_;obtain⟨A,B,e,hl,hA,hB,k⟩:=Oc;subst e;refine⟨_,(qq (YJ PassesOwn.never rfl (ji (qK Ou (qb (y9 ZQ (dv 0) (dv 1)) qi))) (Jn (n:=2) rfl (yn (jp (i:=2) nd) (yn (jp (i:=3) nd) jG))) (qq (qT 4 (qK OM (qb (dv 2) (qb (dv 3) qi))))
   (qE (yY (qcE (Zd (jX (qK OK (qb (dv 4) (qb (dv 0) qi)))) (JT (jX (qK OK (qb (dv 4) (qb (dv 1) qi))))))) (qE (qS (ZS (qb (dv 4) (qb (dv 2) (qb (dv 3) qi)))))) yA))))
   (qE (qS qmt))),?_⟩
 have la:(A.map ptD).length=A.length:=qc ..;have lb:(B.map ptD).length=B.length:=qc ..;refine⟨_,_,.d _,.d _,'l',A++B,(by show [En.d (.list (A.map ptD++B.map ptD))]=_;rw[<- ye];rfl),(by rw[qr];exact hl),fun hP=>?_⟩;have kk:=k hP;have hne:∀ p∈prs (plc (A++B)),Bd B30 p.1/\Bd B30 p.2/\p.1≠p.2:=fun p hp=>by
  obtain⟨h1,h2,h3⟩:=qn2 hP.1 hp;have hb:∀ z∈A++B,Bd B30 z:=fun z hz=>by
   rcases qG.mp hz with h | h
   .exact hA z h
   .exact hB z h
  exact⟨hb _ ((hP.2.2 _).mp h1),hb _ ((hP.2.2 _).mp h2),h3⟩
 generalize prs (plc (A++B))=L at *;refine⟨_,.d _,?_⟩;refine qpK (fun i Y' U'=>U'=U/\(L.take i).find? (hv2 A B)=none/\∃ v2 v3 v4,Y'=[some (.d (hpD A)),some (.d (hpD B)),v2,v3,v4]) ⟨rfl,rfl,_,_,_,rfl⟩ (fun _ _ _ _=>.d _) ?_ ?_
 .rintro i x Y' U' hx ⟨rfl,hno,v2,v3,v4,rfl⟩;rw[qY] at hx;obtain⟨p,hp,rfl⟩:=Option.map_eq_some_iff.mp hx;obtain⟨b1,b2,h3⟩:=hne p (List.mem_of_getElem? hp);have hb:=qke b1 b2 h3;have n1:(nOf p.1 p.2).1.natAbs<=B40:=qz hb.1 'd';have n2:(nOf p.1 p.2).2.natAbs<=B40:=qz hb.2 'd';have next:hv2 A B p=false->(L.take (i+1)).find? (hv2 A B)=none:=fun h=>by rw[jt hp,List.find?_append,hno,List.find?_cons_of_neg (by rw[h];decide)];rfl
  refine⟨rfl,p.1,p.2,rfl,b1,b2,h3,?_⟩;refine⟨_,_,_,A,rfl,n1,n2,hA,'l',Jg (fun c1=>?_) (fun c1=>?_)⟩
  .refine ⟨_,_,_,B,rfl,n1,n2,hB,'l',Jg (fun c2=>?_) (fun c2=>?_)⟩
   .have hy:hv2 A B p=true:=by
     unfold hv2;rw[qZ];exact⟨c1,c2⟩
    have hf:L.find? (hv2 A B)=some p:=by
     have e:L=L.take i++p::L.drop (i+1):=by
      have:=q9 (i+1) L;rw[jt hp,qm] at this;exact this.symm
     rw[e,List.find?_append,hno,List.find?_cons_of_pos hy];rfl
    rw[hf] at kk;exact⟨zl3,kk⟩
   .refine Wks.of ⟨rfl,next ?_,_,_,_,rfl⟩;unfold hv2;rw[Bool.and_eq_false_iff];exact .inr (Bool.eq_false_iff.mpr c2)
  .refine Wks.of ⟨rfl,next ?_,_,_,_,rfl⟩;unfold hv2;rw[Bool.and_eq_false_iff];exact .inl (Bool.eq_false_iff.mpr c1)
 .rintro Y' U' ⟨rfl,hno,v2,v3,v4,rfl⟩;rw[qc,y3] at hno;rw[hno] at kk;exact kk
end K98
namespace K98
abbrev dS (x:Str):PyData:=.str x
def sHR:SpD:=fun es U Q=>∃ (p:Addr) (ν1 ν2:Mu) (xs:Nm) (n:Str) (ps:List Pt),es=[.m p,.d (.list [dS n]),.d (.list (ps.map fun q=>dS (wP q)))]/\U=ν1++(p,.nmd xs)::ν2/\xs.length<=100/\ps.length<=40/\(∀ q∈ps,Jf q)/\Q (.d (dS "ok")) (ν1++(p,.nmd (qdd xs n (hpD ps)))::ν2)
theorem qdp (F:"heap_row"^^^qae) (hX:NoX CX) (Oe:4<<<("read_point",ny,yd K sRP)):5>>>(n4,yd K sHR):=by
 refine F.okE (N:=n4) fun U Q nd hr Oc=>?_;obtain⟨p,ν1,ν2,xs,n,ps,z,e0,hx,hl,hb,k⟩:=Oc;subst z e0;refine⟨_,(qq (qbN hr.u1 (dv 0) (jf ya (dv 1) qL) (JF (L:=nI) (sc:=qR qae) (N:=n4) rfl rfl rfl 'k' (ji (dv 2)) (fun _ _ _ _ _=>(yS (i:=3) (show List.Nodup (["heaps", "names", "words", "word"]:List Str) from by decide +kernel) rfl 't')) (fun _ _ _ _ _=>jH) (fun _ _ _ _ _=>(qK Oe (qb (dv 3) qi)))))
   (qE (qS yH))),?_⟩
 refine⟨_,.d _,(show (ps.map _).length<=4000 by rw[qc];lia),qaK (as:=ps) (fun q=>ptD q) Src.d (fun q hq R h=>⟨q,rfl,hb q hq,h⟩) ?_⟩;exact⟨_,yf (j:=0) rfl,ν1,ν2,xs,rfl,'l',k⟩
def sAR:SpD:=fun es U Q=>∃ (p:Addr) (ν1 ν2:Mu) (xs:Nm) (n:Str) (A:List Pt) (q:Pt),es=[.m p,.d (.list [dS n]),.d (.list [dS (wP q)])]/\U=ν1++(p,.nmd xs)::ν2/\xs.length<=100/\j6 xs n=some (hpD A)/\A.length<=100/\Jf q/\Q (.d (dS "ok")) (ν1++(p,.nmd (qdd xs n (hpD (A++[q]))))::ν2)
theorem qe5 (F:"add_row"^^^qd9) (hX:NoX CX) (Oe:4<<<("read_point",ny,yd K sRP)) (Mc:1<<<("grown",n6,yd K sGrw)):5>>>(n4,yd K sAR):=by
 refine F.okE (N:=n4) fun U Q nd hr Oc=>?_;obtain⟨p,ν1,ν2,xs,n,A,q,z,e0,hx,hg,hl,hb,k⟩:=Oc;subst z e0;refine⟨_,(qq (qbN hr.u1 (dv 0) (jf ya (dv 1) qL) (qK Mc (qb (Yd hr.u1 (dv 0) (jf ya (dv 1) qL) (fun _ _=>rfl)) (qb (qK Oe (qb (jf ya (dv 2) qL) qi)) qi))))
   (qE (qS yH))),?_⟩
 refine⟨_,yf (j:=0) rfl,xs,_,'s',hg,_,yf (j:=0) rfl,q,rfl,hb,A,q,rfl,hl,?_⟩;exact⟨_,yf (j:=0) rfl,ν1,ν2,xs,rfl,'l',k⟩
def sDR:SpD:=fun es U Q=>∃ (p:Addr) (ν1 ν2:Mu) (xs:Nm) (n:Str) (A:List Pt) (q:Pt),es=[.m p,.d (.list [dS n]),.d (.list [dS (wP q)])]/\U=ν1++(p,.nmd xs)::ν2/\xs.length<=100/\j6 xs n=some (hpD A)/\A.length<=100/\Jf q/\q∈A/\Q (.d (dS "ok")) (ν1++(p,.nmd (qdd xs n (hpD (qmD A q))))::ν2)
theorem qcp (F:"drop_row"^^^qag) (hX:NoX CX) (Oe:4<<<("read_point",ny,yd K sRP)) (Oz:2<<<("shrunk",n6,Zi (yd K qnu) (yW K CN qj8))):5>>>(n4,yd K sDR):=by
 refine F.okE (N:=n4) fun U Q nd hr Oc=>?_;obtain⟨p,ν1,ν2,xs,n,A,q,z,e0,hx,hg,hl,hb,hq,k⟩:=Oc;subst z e0;refine⟨_,(qq (qbN hr.u1 (dv 0) (jf ya (dv 1) qL) (qK Oz.l (qb (Yd hr.u1 (dv 0) (jf ya (dv 1) qL) (fun _ _=>rfl)) (qb (qK Oe (qb (jf ya (dv 2) qL) qi)) qi))))
   (qE (qS yH))),?_⟩
 refine⟨_,yf (j:=0) rfl,xs,_,'s',hg,_,yf (j:=0) rfl,q,rfl,hb,A,q,rfl,hq,hl,?_⟩;exact⟨_,yf (j:=0) rfl,ν1,ν2,xs,rfl,'l',k⟩
def sTR:SpD:=fun es U Q=>∃ (p:Addr) (ν1 ν2:Mu) (xs:Nm) (n:Str) (A:List Pt) (q g:Pt),es=[.m p,.d (.list [dS n]),.d (.list [dS (wP q),dS (wP g)])]/\U=ν1++(p,.nmd xs)::ν2/\xs.length<=100/\j6 xs n=some (hpD A)/\A.length<=100/\Jf q/\Jf g/\q∈A/\Q (.d (dS "ok")) (ν1++(p,.nmd (qdd xs n (hpD (repl A q g))))::ν2)
theorem qck (F:"step_row"^^^qab) (hX:NoX CX) (Oe:4<<<("read_point",ny,yd K sRP)) (Op:2<<<("stepped",nu,Zi (yd K qnr) (yW K CN qn3))):5>>>(n4,yd K sTR):=by
 refine F.okE (N:=n4) fun U Q nd hr Oc=>?_;obtain⟨p,ν1,ν2,xs,n,A,q,g,z,e0,hx,hg,hl,hb,hb2,hq,k⟩:=Oc;subst z e0;refine⟨_,(qq (qbN hr.u1 (dv 0) (jf ya (dv 1) qL) (qK Op.l (qb (Yd hr.u1 (dv 0) (jf ya (dv 1) qL) (fun _ _=>rfl)) (qb (qK Oe (qb (jf ya (dv 2) qL) qi)) (qb (qK Oe (qb (jf ya (dv 2) qL) qi)) qi)))))
   (qE (qS yH))),?_⟩
 refine⟨_,yf (j:=0) rfl,xs,_,'s',hg,_,yf (j:=0) rfl,q,rfl,hb,_,yf (j:=1) rfl,g,rfl,hb2,A,q,g,rfl,hq,hl,?_⟩;exact⟨_,yf (j:=0) rfl,ν1,ν2,xs,rfl,'l',k⟩
def qk9:SpD:=fun es U Q=>∃ (p:Addr) (xs:Nm) (n:Str) (A:List Pt) (e:En),es=[.m p,.d (.list [dS n]),e]/\(p,.nmd xs)∈U/\j6 xs n=some (hpD A)/\A.length<=40/\(∀ q∈A,Jf q)/\Q (.d (dS (wH A))) U
theorem qdl (F:"show_row"^^^qb7) (hX:NoX CX) (Og:1<<<("write_heap",nk,yd K sWH)):2>>>(n4,yd K qk9):=by
 refine F.okE (N:=n4) fun U Q nd hr Oc=>?_;obtain⟨p,xs,n,A,e,z,hp,hg,hl,hb,k⟩:=Oc;subst z;refine⟨_,(qE (qS (qK Og (qb (Yd hr.u1 (dv 0) (jf ya (dv 1) qL) (fun _ _=>rfl)) qi)))),?_⟩;exact⟨_,yf (j:=0) rfl,xs,_,hp,hg,_,A,rfl,.d _,hl,hb,k⟩
end K98
namespace K98
def TL (A B:List Pt) (t:Str):Prop:=(t = "none" /\ ∀ l,¬ Alls A B l)\/∃ l,Alls A B l/\t=wL l
def sLR:SpD:=fun es U Q=>∃ (p:Addr) (xs:Nm) (n m:Str) (A B:List Pt) (e:En),es=[.m p,.d (.list [dS n,dS m]),e]/\(p,.nmd xs)∈U/\j6 xs n=some (hpD A)/\j6 xs m=some (hpD B)/\A.length+B.length<=40/\Bds A/\Bds B/\∀ t,TL A B t->Q (.d (dS t)) U
theorem qaw {l:Ln}(h:LBd l):L62 l:=⟨yJ h.1.1 'k',yJ h.1.2 'k',yJ h.2 'k'⟩
theorem qmH {A:List Pt}(hA:Bds A) (hB:Bds B):Bds (A++B):=fun z hz=>by
 rcases qG.mp hz with h | h
 .exact hA z h
 .exact hB z h
theorem qdm (F:"line_row"^^^qb8) (T:Txt mg) (hX:NoX CX) (Mj:5<<<("halving",n8,yd K sHv)) (Oo:1<<<("write_line",["line"],yd K sWL)):6>>>(n4,yd K sLR):=by
 refine F.okE (N:=["heaps", "names", "words", "told"]) fun U Q nd hr Oc=>?_;obtain⟨p,xs,n,m,A,B,e,z,hp,g1,g2,hl,hA,hB,k⟩:=Oc;subst z;refine⟨_,(qq (qT 3 (qK Mj (qb (Yd hr.u1 (dv 0) (jf ya (dv 1) qL) (fun _ _=>rfl)) (qb (Yd hr.u1 (dv 0) (jf ya (dv 1) qL) (fun _ _=>rfl)) qi))))
   (qE (qS (qhB (yc do_is (dv 3) qmt) yH (qK Oo (qb (jf ya (dv 3) qL) qi)))))),?_⟩
 refine⟨_,yf (j:=0) rfl,xs,_,hp,g1,_,yf (j:=1) rfl,xs,_,hp,g2,A,B,rfl,'l',hA,hB,fun hP=>?_⟩;cases hf:(prs (plc (A++B))).find? (hv2 A B) with
 | none =>
  refine k _ (.inl ⟨rfl,fun l hl'=>?_⟩);obtain⟨q,hq,rfl⟩:=qu.mp ((qaz hP l).mpr hl'.1);have:=List.find?_eq_none.mp hf q hq;exact this (Bool.and_eq_true_iff.mpr hl'.2)
 | some q =>
  have h1:=List.mem_of_find?_eq_some hf;have h2:hv2 A B q=true:=List.find?_some hf;have hJ:=(qaz hP (qlV q)).mp (qu.mpr ⟨q,h1,rfl⟩);refine⟨_,rfl,qlV q,rfl,qaw (qbG (qmH hA hB) hJ),k _ (.inr ⟨qlV q,⟨hJ,Bool.and_eq_true_iff.mp h2⟩,rfl⟩)⟩
def tA (ls:List Ln):Str:=if ls=[] then "none" else wA ls
def sAlR (tb:Addr):SpD:=fun es U Q=>∃ (p:Addr) (xs:Nm) (n m:Str) (A B:List Pt) (e:En),es=[.m p,.d (.list [dS n,dS m]),e]/\(p,.nmd xs)∈U/\j6 xs n=some (hpD A)/\j6 xs m=some (hpD B)/\A.length+B.length<=40/\Bds A/\Bds B/\TB tb∈U/\∀ ls,qfn A B ls->ls.length<4000->(∀ l∈ls,LBd l)->Q (.d (dS (tA ls))) U
theorem qjN (hl:ls.length<4000) (hb:∀ l∈ls,LBd l):((ls.map wL).map (·.length)).sum+(ls.map wL).length * sm2.length<=800000:=by
 have:∀ {qs:List Ln},(∀ q∈qs,LBd q)->((qs.map wL).map (·.length)).sum<=qs.length * 191:=by
  intro qs h;induction qs with
  | nil=>simp
  | cons q r ih =>
   have h1:=qfC (qaw (h q 's')).1 (qaw (h q 's')).2.1 (qaw (h q 's')).2.2;have h2:=ih fun z hz=>h z (qe _ hz);simp only[qP,List.sum_cons,qU];lia
 have h1:=this hb;have h2:sm2.length=2:=by decide +kernel
 rw[qc,h2];lia
theorem qfF (hl:ls.length<4000) (hb:∀ l∈ls,LBd l):(wA ls).length<=800000:=by
 have:=Zb (y:=sm2) (B:=191) (ws:=ls.map wL) fun x hx=>by obtain⟨q,hq,rfl⟩:=qu.mp hx;exact qfC (qaw (hb q hq)).1 (qaw (hb q hq)).2.1 (qaw (hb q hq)).2.2
 have h2:sm2.length=2:=by decide +kernel
 rw[qc,h2] at this;have:(wA ls).length<=ls.length * 193:=this;lia
theorem qm4 (l:Ln):cl (wL l)≠[]:=fun e=>by
 have:=qkU l;rw[e] at this;simp at this
theorem qm7 {l:Ln}:(wA (l::ls)).length≠0:=fun e=>by
 have h:(cl (wA (l::ls))).length=0:=by rw[YL];exact e
 have h:cl (wA (l::ls))=[]:=List.length_eq_zero_iff.mp h;cases ls with
 | nil=>exact qm4 l h
 | cons m r =>
  have h:cl (wL l++sm2++Str.join sm2 ((m::r).map wL))=[]:=h;rw[Ye,Ye] at h;exact qm4 l (List.append_eq_nil_iff.mp (List.append_eq_nil_iff.mp h).1).1
theorem qe4 (F:"all_row"^^^qbq) (hX:NoX CX) (Ol:7<<<("all_lines",n8,yd K (qnF tb))) (Oo:1<<<("write_line",["line"],yd K sWL)):8>>>(n4,yd K (sAlR tb)):=by
 refine F.okE (N:=["heaps", "names", "words", "lines"]) fun U Q nd hr Oc=>?_;obtain⟨p,xs,n,m,A,B,e,z,hp,g1,g2,hl,hA,hB,htb,k⟩:=Oc;subst z;refine⟨_,(qq (qT 3 (qK Ol (qb (Yd hr.u1 (dv 0) (jf ya (dv 1) qL) (fun _ _=>rfl)) (qb (Yd hr.u1 (dv 0) (jf ya (dv 1) qL) (fun _ _=>rfl)) qi))))
   (qE (qS (qo1 (qhA yH (qb (JF (L:=["line"]) (sc:=qR qbq) (N:=["heaps", "names", "words", "lines"]) rfl rfl rfl 'k' (ji (dv 3)) (fun _ _ _ _ _=>(yS (i:=4) (show List.Nodup (["heaps", "names", "words", "lines", "line"]:List Str) from by decide +kernel) rfl 't')) (fun _ _ _ _ _=>jH) (fun _ _ _ _ _=>(qK Oo (qb (dv 4) qi)))) qi) (h:=fun a b=>qam PySem.F.plainAttrs_str PySem.F.slot_str_join PySem.F.type_str_join qbC a b)) (qaJ yH))))),?_⟩
 refine⟨_,yf (j:=0) rfl,xs,_,hp,g1,_,yf (j:=1) rfl,xs,_,hp,g2,A,B,rfl,'l',hA,hB,htb,fun ls hL h4 hb=>?_⟩;refine⟨_,.d _,(show (ls.map lnD).length<=4000 by rw[qc];lia),qaK (as:=ls) (fun l=>.str (wL l)) Src.d (fun l hl' R h=>⟨l,rfl,qaw (hb l hl'),h⟩) ?_⟩;refine⟨ls.map wL,by rw[yu];exact .d _,qjN h4 hb,qfF h4 hb,?_⟩;have kk:=k ls hL h4 hb;cases ls with
 | nil=>exact kk
 | cons l r =>
  have e:¬ (Str.join sm2 ((l::r).map wL)).length=0:=qm7;show (if (Str.join sm2 ((l::r).map wL)).length=0 then _ else _);rw[if_neg e];exact kk
def sCnR (tb:Addr):SpD:=fun es U Q=>∃ (p:Addr) (xs:Nm) (n m:Str) (A B:List Pt) (e:En),es=[.m p,.d (.list [dS n,dS m]),e]/\(p,.nmd xs)∈U/\j6 xs n=some (hpD A)/\j6 xs m=some (hpD B)/\A.length+B.length<=40/\Bds A/\Bds B/\TB tb∈U/\∀ ls,qfn A B ls->ls.length<4000->Q (.d (dS (sN ls.length))) U
theorem qcq (F:"count_row"^^^qa0) (T:Txt mg) (hX:NoX CX) (Ol:7<<<("all_lines",n8,yd K (qnF tb))):8>>>(n4,yd K (sCnR tb)):=by
 refine F.okE (N:=n4) fun U Q nd hr Oc=>?_;obtain⟨p,xs,n,m,A,B,e,z,hp,g1,g2,hl,hA,hB,htb,k⟩:=Oc;subst z;refine⟨_,(qE (qS (jx qdG (by rfl) T.str_ qcS (qb (yy Yv (by rfl) T.len_ Yf (qb (qK Ol (qb (Yd hr.u1 (dv 0) (jf ya (dv 1) qL) (fun _ _=>rfl)) (qb (Yd hr.u1 (dv 0) (jf ya (dv 1) qL) (fun _ _=>rfl)) qi))) qi)) qi)))),?_⟩;refine⟨_,yf (j:=0) rfl,xs,_,hp,g1,_,yf (j:=1) rfl,xs,_,hp,g2,A,B,rfl,'l',hA,hB,htb,fun ls hL h4 hb=>?_⟩;refine⟨_,.l (.d _),?_⟩;have e:((ls.map lnD).length:Int)=ls.length:=by rw[qc]
 have kk:=k ls hL h4;show (((ls.map lnD).length:Int)).natAbs.log2<1920/\Q (.d (.str (sN ((ls.map lnD).length:Int)))) U;rw[e];exact⟨jS (qM (show ((ls.length:Int)).natAbs<4000 by lia) 'k'),kk⟩
end K98
namespace L2
section
variable {k:Nat}
theorem qmv {s:SpD}(O:qps X.prog X.w X.K X.mg X.base CX k x C ps (yd K s)) (hX:NoX CX) (hr:Room (k+1) X.A) (hg:Gl X x) (hdb:(x == ("__debug__" : Str))=false:=by decide):DE K X (.Call (.Name x p1) [] [] pos) (qo8 C s dNil):=by
 obtain⟨g,fd,F,hm,M,hb⟩:=O;refine PE.mono (qiI M F hr hg hm hb .nil (qeW hX) hdb) fun G H Q Oc=>?_;obtain⟨Y,U,Q0,hS,hM,q,cl⟩:=Oc;intro y dx hy hdx hne;obtain⟨M2,s2,n2⟩:=hM.laid (o:=.own y) hdx;have hy2:upd H dx (.own y) y=none:=by rw[qX hne.symm];exact hy
 obtain⟨M3,s3⟩:=M2.new (u:=.ins C dx []) (o:=.ins C dx []) hy2 fun ss=>⟨[],yg,.nil⟩;obtain⟨_,_,n3⟩:=M2.laid (o:=.ins C dx []) hy2;have st:=s2.trans s3;refine⟨(y,.ins C dx [])::U,[.m y],_,M3,.cons rfl .nil,q y dx n3,?_⟩;rintro e U' v H' ⟨rfl,q'⟩ M' s' i';cases i'
 exact⟨rfl,cl _ U' _ H' q' M' (st.trans s') rfl⟩
def DOk (P:Program) (w:World) (K:W.Frag) (mg:Str->Option Value) (base:Heap) (CX:CXT) (k:Nat) (ps:List Str) (f:Addr) (sp:Sp):Prop:=∃ fd,FnOk P w K mg base CX k f fd ps sp/\W.keepIn K (.ref f)=true/\YW K fd ps []
theorem Own.row (O:j<<<(x,ps,sp)) (hm:mg x=some (.ref f)) (hj:j<=k):DOk P w K mg base CX k ps f sp:=by
 obtain⟨g,fd,F,hg,hk,hb⟩:=O;rw[hm] at hg;cases hg
 exact⟨fd,F.mono hj,hk,hb⟩
theorem DOk.l (O:DOk P w K mg base CX k ps f (Zi sp sp')):DOk P w K mg base CX k ps f sp:=by
 obtain⟨fd,F,r⟩:=O;exact⟨fd,F.imp fun _ _ _ _ h=>.inl h,r⟩
theorem DOk.r (O:DOk P w K mg base CX k ps f (Zi sp sp')):DOk P w K mg base CX k ps f sp':=by
 obtain⟨fd,F,r⟩:=O;exact⟨fd,F.imp fun _ _ _ _ h=>.inr h,r⟩
def qpc (K:W.Frag) (n:Nat) (Tb:Addr->Sp->Prop) (tr:TAd):TEd:=fun Y U Q=>∃ f s,Y[n]?=some (some (.x (qc8 f)))/\Tb f (yd K s)/\tr Y U fun es U1=>s es U1 Q
theorem qmx {e:Expr}(hN:X.N[n]?=some x) (hv:Vis X.env.scope x) (hX:NoX CX) (hr:Room k X.A) (ha:DA K X (e::es) tr) (hd:(x == ("__debug__" : Str))=false:=by decide) (hcd:(x == ("__classdict__" : Str))=false:=by decide)
  (he:starEach (e::es) X.env=(false,eval e X.env)::starEach es X.env:=by rfl) (hpl:(backTo pos (starEach es X.env)).any (·.1)=false:=by rfl):DE K X (.Call (.Name x p) (e::es) [] pos) (qpc K n (DOk X.prog X.w X.K X.mg X.base CX k ps) tr):=by
 refine PE.mono (qeh (Tb:=DOk X.prog X.w X.K X.mg X.base CX k ps) hN hv (fun f sp h=>h) hr (qeW hX) ha hd hcd he hpl) fun G H Q ⟨Y,U,Q0,hS,hM,⟨f,s,hf,ht,h⟩,cl⟩=>?_;obtain⟨v,e1,e2⟩:=hS.get n _ hf;have e2:v = .ref f:=e2;subst e2;exact⟨f,yd K s,e1,ht,Y,U,_,hS,hM,h,fun es U1 vs H1 q M1 s1 i1=>⟨U1,es,Q0,M1,by simpa using i1,q,cl.same s1⟩⟩
end
end L2
namespace L2
theorem JI {t:TSd}{Y0:Rho}{D:Ends}(hS:RelS K Y U G H) (M:RelM K U H) (ht:t { nx:=fun Y' U'=>Y'=Y0/\U'=U,rt:=fun _ _=>False } Y U) (kk:∀ G' H',RelS K Y0 U G' H'->RelM K U H'->yr (mask U H) (mask U H')->D.nx G' H'):upS K t D G H:=by
 refine⟨Y,U,_,hS,M,ht,?_,fun _ _ _ _ h=>h.elim,fun _ _ _ _ h=>h.elim,fun _ _ _ _ h=>h.elim⟩;rintro Y' U' G' H' ⟨rfl,rfl⟩ S' M' s';exact kk G' H' S' M' s'
theorem qmB (ds:List PyData) (i j:Nat) (h:i<=j) (h':j<=ds.length):Z5 ds (some (i:Int)) (some (j:Int))=(ds.drop i).take (j - i):=by
 have e1:HT.sIx ds.length 0 (some (i:Int))=i:=by unfold HT.sIx;simp;rw[if_neg 'l'];lia
 have e2:HT.sIx ds.length ds.length (some (j:Int))=j:=by unfold HT.sIx;simp;rw[if_neg 'l'];lia
 unfold Z5;rw[e1,e2]
end L2
namespace K98
def qlg (es:List En) (U:Mu):Prop:=∃ (p:Addr) (xs:Nm) (n:Str) (A:List Pt) (q:Pt),es=[.m p,.d (.list [dS n]),.d (.list [dS (wP q)])]/\(p,.nmd xs)∈U/\j6 xs n=some (hpD A)/\Jf q/\q∉A
theorem qco (F:"drop_row"^^^qag) (hX:NoX 'x') (Oe:4&&&("read_point",ny,yd K sRP)) (Oz:2&&&("shrunk",n6,Zi (yd K qnu) (yW K CN qj8))):5|||(n4,yW K CN qlg):=by
 refine F.okL (N:=n4) fun nd Oy A' outer s H E es U vs Q hr M hS kE Oc=>?_;obtain⟨p,xs,n,A,q,e,hm,hg,hb,hq⟩:=Oc;subst e;refine⟨_,yG (qdi hr.u1 (dv (K:=K) 0) (jf (K:=K) ya (dv 1) qL) (Zp (E:=E) Oz.r qbu hr.mo rfl (qb (K:=K) (Yd hr.u1 (dv 0) (jf ya (dv 1) qL) (fun _ _=>rfl)) (qb (qK Oe (qb (jf ya (dv 2) qL) qi)) qi))) rfl) Jz,?_⟩;exact YR hS M ⟨_,yf (j:=0) rfl,xs,_,hm,hg,_,yf (j:=0) rfl,q,rfl,hb,rfl,A,q,rfl,hq⟩ kE
def qlf (es:List En) (U:Mu):Prop:=∃ (p:Addr) (xs:Nm) (n:Str) (A:List Pt) (q g:Pt),es=[.m p,.d (.list [dS n]),.d (.list [dS (wP q),dS (wP g)])]/\(p,.nmd xs)∈U/\j6 xs n=some (hpD A)/\Jf q/\Jf g/\q∉A
theorem qcj (F:"step_row"^^^qab) (hX:NoX 'x') (Oe:4&&&("read_point",ny,yd K sRP)) (Op:2&&&("stepped",nu,Zi (yd K qnr) (yW K CN qn3))):5|||(n4,yW K CN qlf):=by
 refine F.okL (N:=n4) fun nd Oy A' outer s H E es U vs Q hr M hS kE Oc=>?_;obtain⟨p,xs,n,A,q,g,e,hm,hg,hb,hb2,hq⟩:=Oc;subst e;refine⟨_,yG (qdi hr.u1 (dv (K:=K) 0) (jf (K:=K) ya (dv 1) qL) (Zp (E:=E) Op.r qbu hr.mo rfl (qb (K:=K) (Yd hr.u1 (dv 0) (jf ya (dv 1) qL) (fun _ _=>rfl)) (qb (qK Oe (qb (jf ya (dv 2) qL) qi)) (qb (qK Oe (qb (jf ya (dv 2) qL) qi)) qi)))) rfl) Jz,?_⟩;exact YR hS M ⟨_,yf (j:=0) rfl,xs,_,hm,hg,_,yf (j:=0) rfl,q,rfl,hb,_,yf (j:=1) rfl,g,rfl,hb2,rfl,A,q,g,rfl,hq⟩ kE
structure TxtDesk (K:W.Frag) (D:Addr):Prop where
 cl:Cls K D
 n_named:Yz K D "named"
def DI (D dx d:Addr):MO:=.ins D dx [("named",.m d)]
def sDkI (D:Addr):SpD:=fun es U Q=>∃ (p dx:Addr) (U0:Mu),es=[.m p]/\U=(p,.ins D dx [])::U0/\∀ d,Q (.d .none) ((d,.nmd [])::(p,DI D dx d)::U0)
theorem qiZ (F:Fun K "__init__" "Desk.__init__" YI f fd) (TDesk:TxtDesk K D):1>>>(["self"],yd K (sDkI D)):=by
 refine F.okE (N:=["self"]) fun U Q nd hr Oc=>?_;obtain⟨p,dx,U0,e,e0,k⟩:=Oc;subst e e0;refine⟨_,(qE (qeA TDesk.cl TDesk.n_named (dv 0) qo2)),?_⟩;exact fun d hd=>⟨p,dx,[],_,[(d,.nmd [])],U0,rfl,rfl,rfl,'d',k d⟩
abbrev RP:List Str:=n4
structure SayP (K:W.Frag) (AF AD D:Addr) (row:Str) (p:Addr) (U:Mu) (f d:Addr) (ns ws:List Str):Prop where
 ok:∃ (dx:Addr) (xs:Nm) (w0:Str) (m:PyData),row=Str.join bk (w0::(ns++ws))/\(p,DI D dx d)∈U/\(d,.nmd xs)∈U/\(∀ x∈w0::(ns++ws),Wd x)/\(ns++ws).length<=60/\Jv K AF w0=some [.int ns.length,m]/\(m = .none\/m = .int ws.length)/\(∀ x∈ns,Nam x)/\(w0 = "heap" \/ ∀ x∈ns,(j6 xs x).isSome=true)/\qaO K AD w0=some (some (.ref f))
def qmO (P:Program) (w:World) (K:W.Frag) (mg:Str->Option Value) (base:Heap) (CX:CXT) (AF AD D:Addr):SpD:=fun es U Q=>∃ (p f d:Addr) (row:Str) (ns ws:List Str) (sd:SpD),es=[.m p,.d (dS row)]/\SayP K AF AD D row p U f d ns ws/\DOk P w K mg base CX 8 RP f (yd K sd)/\sd [.m d,.d (.list (ns.map .str)),.d (.list (ws.map .str))] U Q
theorem Za {a:En}:([(("named" : Str),a)]:List (Str×En)).lookup ("named" : Str)=some a:=by simp[yk]
theorem ZN {a:En}:([(("named" : Str),a)]:List (Str×En)).lookup ("say" : Str)=none:=by
 have:(("say" : Str) == "named")=false:=by decide +kernel
 simp[yk,this]
theorem qkB (w0:Str) (ns ws:List Str):Z5 ((w0::(ns++ws)).map PyData.str) (some 1) (some (1+(ns.length:Int)))=ns.map .str:=by
 have:=qmB ((w0::(ns++ws)).map PyData.str) 1 (1+ns.length) 'l' (by simp;lia);rw[Int.natCast_add] at this;rw[show ((1:Nat):Int)=1 from rfl] at this;rw[this,<- List.map_drop,<- List.map_take];congr 1;simp
theorem qhG (w0:Str) (ns ws:List Str):Z5 ((w0::(ns++ws)).map PyData.str) (some (1+(ns.length:Int))) none=ws.map .str:=by
 have:=Z4 ((w0::(ns++ws)).map PyData.str) (1+ns.length) (by simp;lia);rw[Int.natCast_add] at this;rw[show ((1:Nat):Int)=1 from rfl] at this;rw[this,<- List.map_drop];congr 1;rw[Nat.add_comm,List.drop_succ_cons];simp
theorem qiY (F:Fun K "say" "Desk.say" qak f fd) (T:Txt mg) (TG:TxtG mg AF AD) (TDesk:TxtDesk K D) (hX:NoX CX) (OD:1<<<("row_words",["row"],yd K (sRW K AF))) (Ow:2<<<("check_names",["names"],yd K sCN)) (On:1<<<("check_standing",["heaps", "names"],yd K sCS)):9>>>(nE,yd K (qmO P w K mg base CX AF AD D)):=by
 refine F.okE (N:=nL) fun U Q nd hr hZ=>?_;obtain⟨p,f,d,row,ns,ws,sd,e,⟨dx,xs,w0,m,e0,hp,hd,hw,hl,hf,hm,hn,hs,hv⟩,hD,k⟩:=hZ;subst e e0;have hr8:Room 8 _:=hr.mono 'd';refine⟨_,(qq (qT 2 (qK OD (qb (dv 1) qi)))
   (qq (qT 3 (jf ya (dv 2) qL))
   (qq (qT 4 (y9 Yc qL (jf ya (qcG (qbi (by rfl) TG.FORMS) (dv 3) (fun _ _=>rfl)) qL)))
   (qq (qT 5 (Jw (dv 2) (jW qL) (jW (dv 4))))
   (qq (JU (qK Ow (qb (dv 5) qi)))
   (qq (yY (yc (JD hr.units) (dv 3) yH) (qE (JU (qK On (qb (Yw TDesk.cl TDesk.n_named (dv 0) rfl) (qb (dv 5) qi))))) yA)
   (qq (qT 6 (qcG (qbi (by rfl) TG.DEEDS) (dv 3) (fun _ _=>rfl)))
   (qE (qS (qmx (ps:=RP) (n:=6) (k:=8) rfl (Or.inl rfl) hX hr8 (qb (Yw TDesk.cl TDesk.n_named (dv 0) rfl) (qb (dv 5) (qb (Jw (dv 2) (jW (dv 4)) Ys) qi))))))))))))),?_⟩
 obtain⟨t,ht,hi⟩:=qax hf;refine⟨w0,ns++ws,ns.length,m,rfl,hw,hl,hf,by rw[qr];lia,?_,?_⟩
 .rcases hm with rfl | rfl
  .exact .inl rfl
  .exact .inr (by rw[qr];congr 1;lia)
 refine⟨_,yf (j:=0) rfl,?_⟩;refine⟨AF,t,rfl,ht,.inr ⟨_,hi,_,rfl,?_⟩⟩;refine⟨_,.d _,?_⟩;rw[qkB];refine⟨ns,rfl,hn,?_⟩;refine⟨_,_,.d _,.d _,(hw w0 's').2.1.ok,'k',Jg (fun c=>?_) (fun c=>?_)⟩
 .have c:(!PyData.eqv (.str w0) (.str "heap"))=true:=c;rw[JS] at c;have c:∀ x∈ns,(j6 xs x).isSome=true:=hs.resolve_left fun z=>by rw[qH z] at c;cases c
  exact⟨p,dx,_,_,rfl,hp,Za,d,xs,ns,rfl,hd,c,AD,f,rfl,hv,.inl ⟨f,sd,rfl,hD,p,dx,_,_,rfl,hp,Za,_,.d _,by rw[qhG];exact k⟩⟩
 .exact ⟨AD,f,rfl,hv,.inl ⟨f,sd,rfl,hD,p,dx,_,_,rfl,hp,Za,_,.d _,by rw[qhG];exact k⟩⟩
end K98
namespace K98
def qef (P:Program) (w:World) (K:W.Frag) (mg:Str->Option Value) (base:Heap) (CN AF AD D:Addr) (es:List En) (U:Mu):Prop:=∃ (p f d:Addr) (row:Str) (ns ws:List Str) (pre:List En->Mu->Prop),es=[.m p,.d (dS row)]/\SayP K AF AD D row p U f d ns ws/\DOk P w K mg base 'x' 8 RP f (yW K CN pre)/\pre [.m d,.d (.list (ns.map .str)),.d (.list (ws.map .str))] U
theorem qiX (F:Fun K "say" "Desk.say" qak f fd) (T:Txt mg) (TG:TxtG mg AF AD) (TDesk:TxtDesk K D) (hX:NoX 'x') (OD:1&&&("row_words",["row"],yd K (sRW K AF))) (Ow:2&&&("check_names",["names"],yd K sCN)) (On:1&&&("check_standing",["heaps", "names"],yd K sCS)):9|||(nE,yW K CN (qef P w K mg base CN AF AD D)):=by
 refine F.okL (N:=nL) fun nd Oy A' outer s H E es U vs Q hr M hS kE hZ=>?_;obtain⟨p,f,d,row,ns,ws,pre,e,⟨dx,xs,w0,m,e0,hp,hd,hw,hl,hf,hm,hn,hs,hv⟩,hD,k⟩:=hZ;subst e;subst e0;have hr8:Room 8 _:=hr.mono 'd';refine⟨_,(yG (qT 2 (qK OD (qb (dv 1) qi)))
   (yG (qT 3 (jf ya (dv 2) qL))
   (yG (qT 4 (y9 Yc qL (jf ya (qcG (qbi (by rfl) TG.FORMS) (dv 3) (fun _ _=>rfl)) qL)))
   (yG (qT 5 (Jw (dv 2) (jW qL) (jW (dv 4))))
   (yG (JU (qK Ow (qb (dv 5) qi)))
   (yG (yY (yc (JD hr.units) (dv 3) yH) (qE (JU (qK On (qb (Yw TDesk.cl TDesk.n_named (dv 0) rfl) (qb (dv 5) qi))))) yA)
   (yG (qT 6 (qcG (qbi (by rfl) TG.DEEDS) (dv 3) (fun _ _=>rfl)))
   (jn (Y8 (qeh (Tb:=DOk P w K mg base 'x' 8 RP) (n:=6) (E:=E) rfl (Or.inl rfl) (fun _ _ h=>h) hr8 qbu (qb (K:=K) (Yw TDesk.cl TDesk.n_named (dv 0) rfl) (qb (dv 5) (qb (Jw (dv 2) (jW (dv 4)) Ys) qi))))))))))))),?_⟩
 obtain⟨t,ht,hi⟩:=qax hf;refine JI hS M ⟨w0,ns++ws,ns.length,m,rfl,hw,hl,hf,by rw[qr];lia,?_,rfl,rfl⟩ fun G1 H1 S1 M1 s1=>?_
 .rcases hm with rfl | rfl
  .exact .inl rfl
  .exact .inr (by rw[qr];congr 1;lia)
 refine JI S1 M1 ⟨_,yf (j:=0) rfl,rfl,rfl⟩ fun G2 H2 S2 M2 s2=>?_;refine JI S2 M2 ⟨AF,t,rfl,ht,.inr ⟨_,hi,_,rfl,rfl,rfl⟩⟩ fun G3 H3 S3 M3 s3=>?_;refine JI S3 M3 ⟨_,.d _,by rw[qkB];exact⟨rfl,rfl⟩⟩ fun G4 H4 S4 M4 s4=>?_;refine JI S4 M4 ⟨ns,rfl,hn,rfl,rfl⟩ fun G5 H5 S5 M5 s5=>?_;refine JI S5 M5 ⟨_,_,.d _,.d _,(hw w0 's').2.1.ok,'k',Jg (fun c=>?_) (fun c=>⟨rfl,rfl⟩)⟩ fun G6 H6 S6 M6 s6=>?_
 .have c:(!PyData.eqv (.str w0) (.str "heap"))=true:=c;rw[JS] at c;have c:∀ x∈ns,(j6 xs x).isSome=true:=hs.resolve_left fun z=>by rw[qH z] at c;cases c
  exact⟨p,dx,_,_,rfl,hp,Za,d,xs,ns,rfl,hd,c,rfl,rfl⟩
 refine JI S6 M6 ⟨AD,f,rfl,hv,.inl ⟨rfl,rfl⟩⟩ fun G7 H7 S7 M7 s7=>?_;obtain⟨v,e1,e2⟩:=S7.get 6 (.x (qc8 f)) rfl;have e2:v = .ref f:=e2;subst e2;exact⟨f,_,e1,hD,YR S7 M7 ⟨p,dx,_,_,rfl,hp,Za,_,.d _,by rw[qhG];exact⟨rfl,k⟩⟩ fun H' M' s'=>kE H' M' (((((((s1.trans s2).trans s3).trans s4).trans s5).trans s6).trans s7).trans s')⟩
end K98
namespace K98
def sKp (C tb:Addr):SpD:=fun es U Q=>∃ (p dx h:Addr) (A B:List Pt) (ls:List Ln) (way wh:Int) (q g:Pt) (U1 U2:Mu),es=[.m p,.d (.int way),.d (.int wh),.d (ptD q),.d (ptD g)]/\(way=0\/way=1\/way=2)/\U=U1++(h,KH A B)::(p,KI C dx h ls)::U2/\(wh=0\/wh=1)/\(way=0\/q∈at2 wh A B)/\ls.length<4000/\A.length+B.length<=43/\Bds A/\Bds B/\Bd B30 q/\Bd B30 g/\TB tb∈U1++U2 ∧
 ∀ ms:List Ln,qfn (Y1 wh (aft way (at2 wh A B) q g) A B).1 (Y1 wh (aft way (at2 wh A B) q g) A B).2 ms->ms.length<4000->(∀ l∈ms,LBd l)->Q (.d (.bool true)) (U1++(h,KH (Y1 wh (aft way (at2 wh A B) q g) A B).1 (Y1 wh (aft way (at2 wh A B) q g) A B).2)::(p,KI C dx h ms)::U2)
theorem qiV (F:"_law_kept"^^^Zm) (TC:TxtC K mg CN) (hX:NoX CX) (OP:yQ P w K mg base CX 9 C "come" ng (yd K (qnD C tb))) (OE:yQ P w K mg base CX 9 C "go" ng (Zi (yd K (sGo C tb)) (yW K CN (preG C)))) (Ox:yQ P w K mg base CX 9 C "step" ni (Zi (yd K (qk8 C tb)) (yW K CN (preT C)))):10>>>(nj,yd K (sKp C tb)):=by
 refine F.okE (N:=nA) fun U Q nd hr Oc=>?_;obtain⟨p,dx,h,A,B,ls,way,wh,q,g,U1,U2,e,hway,e0,hw,hq,hl,hz,hA,hB,bq,bg,htb,k⟩:=Oc;subst e e0;refine⟨_,(qq (qT 5 qfi)
   (qq (qdg (fun _=>(qE (yY (yc (Jc hr.units) (dv 1) qL) (qE (JU (y7 OP (dv 0) (qb (dv 2) (qb (dv 3) qi))))) (qE (yY (yc (Jc hr.units) (dv 1) qL) (qE (JU (y7 OE.l (dv 0) (qb (dv 2) (qb (dv 3) qi))))) (qE (JU (y7 Ox.l (dv 0) (qb (dv 2) (qb (dv 3) (qb (dv 4) qi))))))))))))
   (qE (qS (dv 5))))),?_⟩
 have mp:∀ o o',(p,o)∈U1++(h,o')::(p,o)::U2:=fun o o'=>qg _ (qe _ qj);rcases hway with rfl | rfl | rfl
 .exact ⟨p,dx,_,rfl,mp _ _,Yr,p,wh,q,rfl,dx,h,A,B,ls,U1,U2,rfl,hw,hq,hl,hz,hA,hB,bq,bq,htb,fun ms a b c _=>k ms a b c⟩
 .exact ⟨p,dx,_,rfl,mp _ _,Yr,p,wh,q,rfl,dx,h,A,B,ls,U1,U2,rfl,hw,hq,hl,hz,hA,hB,bq,bq,htb,fun ms a b c _=>k ms a b c⟩
 .exact ⟨p,dx,_,rfl,mp _ _,Yr,p,wh,q,g,rfl,dx,h,A,B,ls,U1,U2,rfl,hw,hq,hl,hz,hA,hB,bq,bg,htb,fun ms a b c _=>k ms a b c⟩
def sKpX (C:Addr):SpD:=fun es U Q=>∃ (p dx h:Addr) (A B:List Pt) (ls:List Ln) (way wh:Int) (q g:Pt),es=[.m p,.d (.int way),.d (.int wh),.d (ptD q),.d (ptD g)]/\(way=1\/way=2)/\(p,KI C dx h ls)∈U/\(h,KH A B)∈U/\(wh=0\/wh=1)/\q∉at2 wh A B/\Q (.d (.bool false)) U
theorem qiU (F:"_law_kept"^^^Zm) (T:TxtC K mg CN) (hX:NoX 'x') (OE:yQ P w K mg base 'x' 9 C "go" ng (Zi (yd K (sGo C tb)) (yW K CN (preG C)))) (Ox:yQ P w K mg base 'x' 9 C "step" ni (Zi (yd K (qk8 C tb)) (yW K CN (preT C)))):10|||(nj,yd K (sKpX C)):=by
 refine F.okV (N:=nA) fun nd Oy A' outer s H E es U vs Q0 Q hr M hS cl Oc=>?_;obtain⟨p,dx,h,A,B,ls,way,wh,q,g,e,hway,hmp,hmh,hw,hq,k⟩:=Oc;subst e;obtain⟨g1,fd1,F1,c1,hm1,hb1⟩:=OE.r;obtain⟨g2,fd2,F2,c2,hm2,hb2⟩:=Ox.r;refine⟨_,yG (ZM (i:=5) nd rfl (.inl rfl) qlv)
  (yG (qge (k:=6) rfl rfl rfl rfl T.cls_Lacking
   (fun E pn xe hp=>jn (qgf (yc (K:=K) (Jc hr.units) (dv 1) qL) Jz (jn (qgf (yc (K:=K) (Jc hr.units) (dv 1) qL)
    (jn (qdh (Zq (E:=E) (dv (K:=K) 0) c1 hm1 F1 hr.mo hb1 .nil hp (qb (K:=K) (dv 2) (qb (dv 3) qi)))))
    (jn (qdh (Zq (E:=E) (dv (K:=K) 0) c2 hm2 F2 hr.mo hb2 .nil hp (qb (K:=K) (dv 2) (qb (dv 3) (qb (dv 4) qi))))))))))
   (fun ea=>jn (ZM (i:=5) nd rfl (.inl rfl) qlv)))
   (jn (Y8 (qcg (i:=5) rfl (.inl rfl))))),?_⟩
 have hS1:=hS.set (i:=5) (v:=.bl true) (e:=(.d (.bool true))) (.bl _);have fin:∀ (H5:Hp),RelM K U H5->yr (mask U H) (mask U H5)->∀ ea,H5 ea=none->Q (.bl false) (upd H5 ea (qoO ea (.ref CN))):=fun H5 M5 s5 ea hea=>by
  obtain⟨M6,z6,_⟩:=M5.laid (o:=qoO ea (.ref CN)) hea;exact cl _ U _ _ k M6 (s5.trans z6) (.bl _)
 rcases hway with rfl | rfl
 .refine YX false hS1 M ⟨rfl,rfl⟩ fun H2 M2 s2=>Zf ?_;refine YX true (hS1.same s2) M2 ⟨rfl,rfl⟩ fun H3 M3 s3=>Z1 ?_;refine JJ (.m p) ((hS1.same s2).same s3) M3 ⟨rfl,rfl⟩ fun v H4 M4 s4 j4=>?_;have j4:v = .ref p:=j4;obtain⟨us,hv,pv⟩:=M4.ob p _ hmp;refine⟨p,dx,us,j4,hv,ZO pv Yr,?_⟩;subst j4;exact qgY (e:=.m p) (fun _ _=>rfl) (((hS1.same s2).same s3).same s4) M4 ⟨rfl,p,dx,h,A,B,ls,wh,q,rfl,hmp,hmh,hw,hq⟩ fun H5 M5 s5=>⟨T.mN,fun ea hea=>⟨_,rfl,fin H5 M5 (((s2.trans s3).trans s4).trans s5) ea hea⟩⟩
 .refine YX false hS1 M ⟨rfl,rfl⟩ fun H2 M2 s2=>Zf ?_;refine YX false (hS1.same s2) M2 ⟨rfl,rfl⟩ fun H3 M3 s3=>Zf ?_;refine JJ (.m p) ((hS1.same s2).same s3) M3 ⟨rfl,rfl⟩ fun v H4 M4 s4 j4=>?_;have j4:v = .ref p:=j4;obtain⟨us,hv,pv⟩:=M4.ob p _ hmp;refine⟨p,dx,us,j4,hv,ZO pv Yr,?_⟩;subst j4;exact qgY (e:=.m p) (fun _ _=>rfl) (((hS1.same s2).same s3).same s4) M4 ⟨rfl,p,dx,h,A,B,ls,wh,q,g,rfl,hmp,hmh,hw,hq⟩ fun H5 M5 s5=>⟨T.mN,fun ea hea=>⟨_,rfl,fin H5 M5 (((s2.trans s3).trans s4).trans s5) ea hea⟩⟩
abbrev qpM (P:Program) (w:World) (K:W.Frag) (mg:Str->Option Value) (base:Heap) (CN AF AD D:Addr):Sp:=Zi (yd K (qmO P w K mg base 'x' AF AD D)) (yW K CN (qef P w K mg base CN AF AD D))
theorem qiQ (F:"_law_said"^^^Zl) (hX:NoX 'x') (Oh:yQ P w K mg base 'x' 9 D "say" nE (qpM P w K mg base CN AF AD D)):10|||(nK,yd K (qmO P w K mg base 'x' AF AD D)):=by
 refine F.okE (N:=nS) fun U Q nd hr Oc=>?_;obtain⟨p,f,d,row,ns,ws,sd,e,hS,hD,k⟩:=Oc;subst e;refine⟨_,(qq (qT 2 yH)
   (qq (qdg (fun _=>(qE (qT 2 (y7 Oh.l (dv 0) (qb (dv 1) qi))))))
   (qE (qS (dv 2))))),?_⟩
 obtain⟨dx,xs,w0,m,e0,hp,r⟩:=id hS.ok;exact⟨p,dx,_,rfl,hp,ZN,p,f,d,row,ns,ws,sd,rfl,hS,hD,k⟩
def sSdX (P:Program) (w:World) (K:W.Frag) (mg:Str->Option Value) (base:Heap) (CN AF AD D:Addr):SpD:=fun es U Q=>qef P w K mg base CN AF AD D es U/\Q (.d (dS "lacking")) U
theorem qiP (F:"_law_said"^^^Zl) (T:TxtC K mg CN) (hX:NoX 'x') (Oh:yQ P w K mg base 'x' 9 D "say" nE (qpM P w K mg base CN AF AD D)):10|||(nK,yd K (sSdX P w K mg base CN AF AD D)):=by
 refine F.okV (N:=nS) (len:=fun es U Q h=>by obtain⟨⟨_,_,_,_,_,_,_,e,_⟩,_⟩:=h;subst e;rfl) fun nd Oy A' outer s H E es U vs Q0 Q hr M hS cl hZ=>?_;obtain⟨⟨p,f,d,row,ns,ws,pre,e,hY,r⟩,k⟩:=hZ;subst e;obtain⟨g1,fd1,F1,c1,hm1,hb1⟩:=Oh.r;obtain⟨dx,xs,w0,m,e0,hmp,_⟩:=id hY.ok;refine⟨_,yG (ZM (i:=2) nd rfl (.inl rfl) qeg)
  (yG (qge (k:=3) rfl rfl rfl rfl T.cls_Lacking
   (fun E pn xe hp=>jn (ZM (i:=2) nd rfl (.inl rfl) (Zq (E:=E) (dv (K:=K) 0) c1 hm1 F1 hr.mo hb1 .nil hp (qb (K:=K) (dv 1) qi))))
   (fun ea=>jn (ZM (i:=2) nd rfl (.inl rfl) qeg)))
   (jn (Y8 (qcg (i:=2) rfl (.inl rfl))))),?_⟩
 have hS1:=hS.set (i:=2) (v:=.str "lacking") (e:=.d (dS "lacking")) (.str _);refine JJ (.m p) hS1 M ⟨rfl,rfl⟩ fun v H4 M4 s4 j4=>?_;have j4:v = .ref p:=j4;obtain⟨us,hv,pv⟩:=M4.ob p _ hmp;refine⟨p,dx,us,j4,hv,ZO pv ZN,?_⟩;subst j4;refine qgY (e:=.m p) (fun _ _=>rfl) (hS1.same s4) M4 ⟨rfl,p,f,d,row,ns,ws,pre,rfl,hY,r⟩ fun H5 M5 s5=>⟨T.mN,fun ea hea=>⟨_,rfl,?_⟩⟩;obtain⟨M6,z6,_⟩:=M5.laid (o:=qoO ea (.ref CN)) hea;exact cl _ U _ _ k M6 ((s4.trans s5).trans z6) (.str _)
end K98
namespace K98
variable {n:Str}
def qd3 (K:W.Frag) (tb:Addr):Sp:=fun vs H Q _=>∃ (a:Addr) (ns:List Int),vs=[.ref a]/\SqL K H a (ns.map V.int)/\H tb=some (.tbl #[])/\ns.length<=63/\∀ H',Q (.bl true) H'
def qnx (tb:Addr):SpD:=fun es U Q=>∃ ns:List Int,es=[.d (.list (ns.map .int))]/\ns.length<=63/\U=[TB tb]/\∀ U',Q (.d (.bool true)) U'
theorem ql1 {E:XK}(h:qd3 K tb vs H Q E):yd K (qnx tb) vs H Q E:=by
 obtain⟨a,ns,rfl,hS,ht,hl,q⟩:=h;have nt:∀ o,H a=some o->(∀ ps,o≠.tbl ps)->a∉[TB tb].map Prod.fst:=fun o e hu z=>by
  have z:a=tb:=by simpa using z
  rw[z,ht] at e;cases e
  exact hu _ rfl
 refine⟨[TB tb],[.d (.list (ns.map .int))],fun e _=>e = .d (.bool true),⟨'s',fun b o hb=>?_⟩,.cons ?_ .nil,⟨ns,rfl,hl,rfl,fun _=>rfl⟩,?_⟩
 .cases qJ.mp hb
  exact⟨_,ht,#[],rfl,.inl rfl⟩
 .refine .lst ?_ (IsAll.ints ns);rcases hS with (e | ⟨o,e⟩) | e
  .exact .inl (.inl (by rw[yN (nt _ e fun _ z=>by cases z)];exact e))
  .exact .inl (.inr ⟨o,by rw[yN (nt _ e fun _ z=>by cases z)];exact e⟩)
  .exact .inr e
 .rintro e U' v H' rfl _ _ i;cases i
  exact q H'
theorem YZ (ls:List Ln):SeqAt.shaped (.list (ls.map lnD))=true:=by
 have d2:PyData.depthAll (ls.map lnD)<=3:=qaI (n:=2) (fun p=>by unfold lnD lnK JX;simp[PyData.depth,PyData.depthAll]) ls;have h1:PyData.canLayAll0 (ls.map lnD)=true:=YC (fun p=>rfl) ls;unfold SeqAt.shaped;rw[qZ];refine⟨by simp only[PyData.canLay0,h1],qH ?_⟩;simp only[PyData.depth];lia
theorem neF {B:PyData}(h:SeqAt.shaped B=true):¬ (!PyData.eqv B B)=true:=fun z=>by rw[qeR h] at z;exact absurd z 'd'
theorem YY (A:List Pt):SeqAt.shaped (.list (A.map ptD))=true:=by
 have d2:PyData.depthAll (A.map ptD)<=3:=qaI (n:=2) (fun p=>by unfold ptD;simp[PyData.depth,PyData.depthAll]) A;unfold SeqAt.shaped;rw[qZ];refine⟨by simp only[PyData.canLay0,Zy A],qH ?_⟩;simp only[PyData.depth];lia
theorem qaF (f:α->PyData) (A:List α):PyData.eqv (.list (A.map f)) (.list [])=decide (A=[]):=by
 cases A with
 | nil=>rfl
 | cons a r=>simp[PyData.eqv,PyData.eqvAll]
def wo (way:Int):Str:=if way=0 then "add" else if way=1 then "drop" else "step"
def gl (way:Int) (g:Pt):List Str:=if way=2 then [wP g] else []
def qmQ (way:Int) (n:Str) (q g:Pt):Str:=Str.join bk (wo way::([n]++(wP q::gl way g)))
theorem row3 {t:Str}(h:x=y++bk):((x++n)++bk)++t=Str.join bk [y,n,t]:=by
 subst h;show _=y++bk++(n++bk++t);simp only[qc0]
theorem row4 {t u:Str}(h:x=y++bk):((((x++n)++bk)++t)++bk)++u=Str.join bk [y,n,t,u]:=by
 subst h;show _=y++bk++(n++bk++(t++bk++u));simp only[qc0]
theorem qfE (h:Jf q):(wH [q]).length<=127:=qaW (YD h.1) (YD h.2)
def sRow:SpD:=fun es U Q=>∃ (way:Int) (n:Str) (q g:Pt),es=[.d (.int way),.d (dS n),.d (ptD q),.d (ptD g)]/\(way=0\/way=1\/way=2)/\Nam n/\Jf q/\Jf g/\Q (.d (dS (qmQ way n q g))) U
theorem qoo (F:"_law_row"^^^qce) (hX:NoX CX) (Og:1<<<("write_heap",nk,yd K sWH)):2>>>(nN,yd K sRow):=by
 refine F.okE (N:=["_law_way", "_law_name", "_law_point_here", "_law_goal", "_law_row_here"]) fun U Q nd hr Oc=>?_;obtain⟨way,n,q,g,e,hw,hn,hq,hg,k⟩:=Oc;subst e;refine⟨_,(qq (qT 4 (y9 jo (y9 jo (y9 jo (jf ya (Jx (qb yH (qb yH (qb yH qi)))) (dv 0)) (dv 1)) yH) (qK Og (qb (Jx (qb (dv 2) qi)) qi))))
   (qq (yY (yc (Jc hr.units) (dv 0) qL) (qE (qT 4 (y9 jo (y9 jo (dv 4) yH) (qK Og (qb (Jx (qb (dv 3) qi)) qi))))) yA)
   (qE (qS (dv 4))))),?_⟩
 have h1:=hn.2.1;have h2:=qfE hq;have h3:=qfE hg;have b1:(Str.ofString " ").length=1:=by decide +kernel
 have n1:∀ {q:Pt},Jf q->∀ z∈[q],Jf z:=fun h z hz=>by rw[qJ.mp hz];exact h
 have l0:(Str.ofString "add ").length=4:=by decide +kernel
 have l1:(Str.ofString "drop ").length=5:=by decide +kernel
 have l2:(Str.ofString "step ").length=5:=by decide +kernel
 refine⟨zl3,?_⟩;rcases hw with rfl | rfl | rfl
 .refine ⟨_,yf (j:=0) rfl,?_,?_,zl1,_,[q],rfl,.d _,(show 1<=40 by decide),n1 hq,?_,?_⟩
  .rw [qI];lia
  .rw [qI,qI];lia
  .rw [qI,qI,qI];lia
  .have e:((Str.ofString "add " ++ n)++bk)++wH [q]=qmQ 0 n q g:=row3 'k';show Q (.d (dS (((Str.ofString "add " ++ n)++bk)++wH [q]))) U;rw[e];exact k
 .refine ⟨_,yf (j:=1) rfl,?_,?_,zl1,_,[q],rfl,.d _,(show 1<=40 by decide),n1 hq,?_,?_⟩
  .rw [qI];lia
  .rw [qI,qI];lia
  .rw [qI,qI,qI];lia
  .have e:((Str.ofString "drop " ++ n)++bk)++wH [q]=qmQ 1 n q g:=row3 'k';show Q (.d (dS (((Str.ofString "drop " ++ n)++bk)++wH [q]))) U;rw[e];exact k
 .refine ⟨_,yf (j:=2) rfl,?_,?_,zl1,_,[q],rfl,.d _,(show 1<=40 by decide),n1 hq,?_,?_,zl1,_,[g],rfl,.d _,(show 1<=40 by decide),n1 hg,?_,?_⟩
  .rw [qI];lia
  .rw [qI,qI];lia
  .rw [qI,qI,qI];lia
  .rw [qI,qI,qI,qI];lia
  .rw [qI,qI,qI,qI,qI];lia
  .have e:((((Str.ofString "step " ++ n)++bk)++wH [q])++bk)++wH [g]=qmQ 2 n q g:=row4 'k';show Q (.d (dS (((((Str.ofString "step " ++ n)++bk)++wH [q])++bk)++wH [g]))) U;rw[e];exact k
def qif (n:Str) (A:List Pt):Str:=Str.join bk ("heap" :: ([n]++A.map wP))
theorem qk0 {A:List Pt}(h:A≠[]):((Str.ofString "heap " ++ n)++bk)++wH A=qif n A:=by
 have e:Str.ofString "heap " = Str.ofString "heap" ++ bk:=by decide +kernel
 rw[e];cases A with
 | nil=>exact absurd rfl h
 | cons a r =>
  show _=Str.ofString "heap" ++ bk++(n++bk++wH (a::r));simp only[qc0]
def qnq:SpD:=fun es U Q=>∃ (n:Str) (A:List Pt),es=[.d (dS n),.d (hpD A)]/\Nam n/\A.length<=40/\(∀ q∈A,Jf q)/\Q (.d (dS (qif n A))) U
theorem qlz (F:"_law_told"^^^qa1) (hX:NoX CX) (Og:1<<<("write_heap",nk,yd K sWH)):2>>>(nJ,yd K qnq):=by
 refine F.okE (N:=nJ) fun U Q nd hr Oc=>?_;obtain⟨n,A,z,hn,hA,hb,k⟩:=Oc;subst z;refine⟨_,(qq (yY (yc (Jc hr.units) (dv 1) (Jx qi)) (qE (qS (y9 jo yH (dv 0)))) yA)
   (qE (qS (y9 jo (y9 jo (y9 jo yH (dv 0)) yH) (qK Og (qb (dv 1) qi)))))),?_⟩
 have h1:=hn.2.1;have b1:bk.length=1:=by decide +kernel
 have b2:(Str.ofString " ").length=1:=b1;have l0:(Str.ofString "heap ").length=5:=by decide +kernel
 have h2:(wH A).length<=40 * 128:=by
  have:=Zb (y:=bk) (B:=127) (ws:=A.map wP) fun x hx=>by obtain⟨q,hq,rfl⟩:=qu.mp hx;exact qaW (YD (hb q hq).1) (YD (hb q hq).2)
  rw[qc,b1] at this;have:(wH A).length<=A.length * 128:=this;lia
 refine⟨zl0,_,_,.d _,.d _,YY A,'d',Jg (fun c=>?_) (fun c=>?_)⟩
 .have c:PyData.eqv (.list (A.map ptD)) (.list [])=true:=c;rw[qaF] at c;have c:=qx c;subst c;refine⟨by rw[qI];lia,?_⟩;have e:Str.ofString "heap " ++ n=qif n []:=by
   rw[show Str.ofString "heap " = Str.ofString "heap" ++ bk from by decide +kernel];rfl
  show Q (.d (dS (Str.ofString "heap " ++ n))) U;rw[e];exact k
 .have c:¬ PyData.eqv (.list (A.map ptD)) (.list [])=true:=c;rw[qaF] at c;have c:A≠[]:=fun z=>c (qH z);refine⟨by rw[qI];lia,by rw[qI,qI];lia,_,A,rfl,.d _,hA,hb,by rw[qI,qI,qI];lia,?_⟩;show Q (.d (dS (((Str.ofString "heap " ++ n)++bk)++wH A))) U;rw[qk0 c];exact k
theorem YG (h:(decide (32∉cl x) && (cl x).all (fun c=>decide (c<128)) && decide (x≠Str.empty) && decide (x.length<=130))=true):Wd x:=by
 simp only[qZ] at h;obtain⟨⟨⟨a,b⟩,c⟩,d⟩:=h;have a:32∉cl x:=qx a;exact⟨a,fun z hz=>qx (jJ.mp b z hz),qx c,qx d⟩
theorem qm0 (h:Nam x):Wd x:=by
 refine⟨fun z=>?_,fun c hc=>?_,fun z=>?_,by have:=h.2.1;lia⟩
 .have:=h.2.2 _ z;lia
 .have:=h.2.2 _ hc;lia
 .have:=h.1;rw[z] at this;exact absurd this 'd'
theorem wd_P (h:Jf q):Wd (wP q):=⟨qm3 q,Asc.wP q,qm2 q,qz (qaW (YD h.1) (YD h.2)) 'd'⟩
end K98
namespace K98
variable {R:Str->Prop}
theorem qgC (h:Jf q):Bd B30 q:=by
 obtain⟨h1,h2⟩:=h;unfold Num at h1 h2;exact⟨(show q.1.natAbs<=1000000000000000000000000000000 by lia),(show q.2.natAbs<=1000000000000000000000000000000 by lia)⟩
theorem jV {ps:List Pt}(h:∀ q∈ps,Jf q):Bds ps:=fun q hq=>qgC (h q hq)
structure Dks (P:Program) (w:World) (K:W.Frag) (mg:Str->Option Value) (base:Heap) (CN AF AD tb:Addr):Prop where
 heap:∃ f,qaO K AD "heap" = some (some (.ref f))/\DOk P w K mg base 'x' 8 RP f (yd K sHR)
 add:∃ f,qaO K AD "add" = some (some (.ref f))/\DOk P w K mg base 'x' 8 RP f (yd K sAR)
 drop:∃ f,qaO K AD "drop" = some (some (.ref f))/\DOk P w K mg base 'x' 8 RP f (Zi (yd K sDR) (yW K CN qlg))
 step:∃ f,qaO K AD "step" = some (some (.ref f))/\DOk P w K mg base 'x' 8 RP f (Zi (yd K sTR) (yW K CN qlf))
 show_:∃ f,qaO K AD "show" = some (some (.ref f))/\DOk P w K mg base 'x' 8 RP f (yd K qk9)
 line:∃ f,qaO K AD "line" = some (some (.ref f))/\DOk P w K mg base 'x' 8 RP f (yd K sLR)
 all:∃ f,qaO K AD "all" = some (some (.ref f))/\DOk P w K mg base 'x' 8 RP f (yd K (sAlR tb))
 count:∃ f,qaO K AD "count" = some (some (.ref f))/\DOk P w K mg base 'x' 8 RP f (yd K (sCnR tb))
 fh:Jv K AF "heap" = some [.int 1,.none]
 fa:Jv K AF "add" = some [.int 1,.int 1]
 fd:Jv K AF "drop" = some [.int 1,.int 1]
 fs:Jv K AF "step" = some [.int 1,.int 2]
 fw:Jv K AF "show" = some [.int 1,.int 0]
 fl:Jv K AF "line" = some [.int 2,.int 0]
 fA:Jv K AF "all" = some [.int 2,.int 0]
 fc:Jv K AF "count" = some [.int 2,.int 0]
theorem YH {row:Str}{p:Addr}{d:Addr}{ns:List Str}{xs:Nm}{w0:Str}{m:PyData}(hf:Jv K AF w0=some [.int ns.length,m]) (hv:qaO K AD w0=some (some (.ref f))) (hp:(p,DI D dx d)∈U) (hd:(d,.nmd xs)∈U) (e:row=Str.join bk (w0::(ns++ws))) (h0:Wd w0) (hn:∀ x∈ns,Nam x) (hw:∀ x∈ws,Wd x) (hl:(ns++ws).length<=60) (hm:m = .none\/m = .int ws.length) (hs:w0 = "heap" \/ ∀ x∈ns,(j6 xs x).isSome=true):SayP K AF AD D row p U f d ns ws:=by
 refine⟨dx,xs,w0,m,e,hp,hd,fun x hx=>?_,hl,hf,hm,hn,hs,hv⟩;rcases qF.mp hx with rfl | hx
 .exact h0
 .rcases qG.mp hx with hx | hx
  .exact qm0 (hn x hx)
  .exact hw x hx
theorem qfH {n m:Str}(h1:R n) (h2:R m):∀ x∈[n,m],R x:=fun x hx=>by
 simp only[qF,List.mem_nil_iff,or_false] at hx;rcases hx with rfl | rfl
 .exact h1
 .exact h2
theorem qaP {n:Str}(h1:R n):∀ x∈[n],R x:=fun x hx=>by rw[qJ.mp hx];exact h1
theorem qdz (x n m:Str):x++(((bk++n)++bk)++m)=Str.join bk [x,n,m]:=by
 show _=x++bk++(n++bk++m);simp only[qc0]
theorem qkf {A:List Pt}(h:qfn A B ms) (h':qfn A B ls):ms=ls:=qjG h.1 h'.1 fun l=>(h.2 l).trans (h'.2 l).symm
theorem or_A {Q:En->Mu->Prop}(h:Q (.d (dS (tA ls))) U):if (Str.join sm2 (ls.map wL)).length=0 then dC (.str "none") Y U Q else Q (.d (.str (Str.join sm2 (ls.map wL)))) U:=by
 cases ls with
 | nil=>exact h
 | cons l r =>
  have e:¬ (Str.join sm2 ((l::r).map wL)).length=0:=qm7;rw[if_neg e];exact h
theorem qfB (l:Ln):wL l ≠ "none" := fun e=>by
 have h:(110:Nat)∈cl (wL l):=by rw[e];decide +kernel
 rcases qkT l _ h with z | z | z <;> lia
theorem meet0 {Ga T:Prop}(r:Ga) (f:Ga->T):T:=f r
theorem qbT {a b:Bool}(h:a=b):¬ (!PyData.eqv (.bool a) (.bool b))=true:=by
 subst h;exact neF rfl
theorem qkg (l m:Ln):PyData.eqv (lnD l) (lnD m)=decide (l=m):=by
 obtain⟨⟨a,b⟩,c⟩:=l;obtain⟨⟨d,e⟩,f⟩:=m;by_cases h1:a=d <;> by_cases h2:b=e <;> by_cases h3:c=f <;> simp[lnD,lnK,JX,PyData.eqv,PyData.eqvAll,h1,h2,h3]
theorem qpn (ms:List Ln) (l:Ln):((ms.map lnD).any fun z=>z.eqv (lnD l))=decide (l∈ms):=by
 rw[List.any_map];by_cases h:l∈ms
 .rw [qH h];exact List.any_eq_true.mpr ⟨l,h,by show PyData.eqv (lnD l) (lnD l)=true;rw[qkg];exact qH rfl⟩
 .rw [yi h];refine List.any_eq_false.mpr fun q hq=>?_;show ¬ PyData.eqv (lnD q) (lnD l)=true;rw[qkg];exact fun z=>h (qx z ▸ hq)
theorem ql0 (ls:List Ln):PyData.canLayAll0 (ls.map lnD)=true:=YC (fun p=>rfl) ls
theorem qeH (ls:List Ln):Asc (tA ls):=by
 unfold tA;split
 .exact fun c hc=>qx (jJ.mp (show ((cl (Str.ofString "none")).all fun c=>decide (c<128))=true by decide +kernel) c hc)
 .exact Asc.wA ls
def sAlk (C D tb:Addr):SpD:=fun es U Q=>∃ (dk dy d kp dx h:Addr) (xs:Nm) (n m:Str) (A B:List Pt) (ls:List Ln),es=[.m dk,.m kp,.d (.list [dS n,dS m])]/\(kp,KI C dx h ls)∈U/\(h,KH A B)∈U/\(dk,DI D dy d)∈U/\(d,.nmd xs)∈U/\j6 xs n=some (hpD A)/\j6 xs m=some (hpD B)/\Nam n/\Nam m/\A.length+B.length<=40/\(∀ q∈A,Jf q)/\(∀ q∈B,Jf q)/\qfn A B ls/\ls.length<4000/\(∀ l∈ls,LBd l)/\TB tb∈U/\Q (.d (.bool true)) U
theorem qi0 (F:"_law_alike"^^^jN) (T:Txt mg) (hX:NoX 'x') (TR:Dks P w K mg base CN AF AD tb) (Oh:yQ P w K mg base 'x' 9 D "say" nE (qpM P w K mg base CN AF AD D)) (Oj:yQ P w K mg base 'x' 1 C "heap" nQ (yd K (qf5 C))) (OL:yQ P w K mg base 'x' 1 C "lines" ["self"] (yd K (qf4 C))) (Og:1&&&("write_heap",nk,yd K sWH)) (OX:5&&&("read_heap",ny,yd K sRH)) (Oo:1&&&("write_line",["line"],yd K sWL)) (OQ:4&&&("read_line",ny,yd K sRL)):10|||(["_law_desk", "_law_keeper", "_law_names"],yd K (sAlk C D tb)):=by
 refine F.okE (N:=n5) ?_;intro Oy A' outer s H E es U Q nd hr hZ;obtain⟨dk,dy,d,kp,dx,h,xs,n,m,A,B,ls,e,mk,mh,mdk,md,g1,g2,hn,hm,hl,hA,hB,hL,h4,hb,htb,k⟩:=hZ;subst e;have key:∃ t,DSs K (ZT 'x' P w K mg base n5 "_law_alike" (qR jN) f Oy A' outer s H E).nox ((yP jN).drop 6) t ∧
   ∀ (U:Mu) (v3 v7:Option En) (ms:List Ln),TB tb∈U->(dk,DI D dy d)∈U->(d,.nmd xs)∈U->qfn A B ms->ms.length<4000->(∀ l∈ms,LBd l)->Q (.d (.bool true)) U →
    t { nx:=fun _ U'=>Q (.d .none) U',rt:=Q } [some (.m dk),some (.m kp),some (.d (.list [dS n,dS m])),v3,some (.d (dS (tA ms))),some (.d (.str (Str.ofString " " ++ n++Str.ofString " " ++ m))),some (.d (.list (ms.map lnD))),v7] U:=by
  refine⟨_,(qq (qT 7 (y7 Oh.l (dv 0) (qb (y9 jo yH (dv 5)) qi)))
   (qq (yY (qcE (qaS (yc (JD hr.units) (y7 Oh.l (dv 0) (qb (y9 jo yH (dv 5)) qi)) (jx qdG (by rfl) T.str_ qcS (qb (yy Yv (by rfl) T.len_ Yf (qb (dv 6) qi)) qi))) (ZP (yc (JD hr.units) (JG (Jc hr.units) (dv 7) yH) (JG (Jc hr.units) (dv 6) (Jx qi)))))) (qE (qS qfi)) yA)
   (qE (qS (d_or (JG (Jc hr.units) (dv 7) yH) (qaJ (JG (qml hr.u66) (qK OQ (qb (dv 7) qi)) (dv 6) rfl))))))),fun U v3 v7 ms htb mdk md hL h4 hb k=>?_⟩
  have nm:∀ x∈[n,m],(j6 xs x).isSome=true:=qfH (by rw[g1];rfl) (by rw[g2];rfl);have m1:∀ x∈([]:List Str),Wd x:=fun _ h=>nomatch h
  have l1:=hn.2.1;have l2:=hm.2.1;have l0:(Str.ofString " ").length=1:=by decide +kernel
  have l4:(Str.ofString "line").length=4:=by decide +kernel
  have l5:(Str.ofString "count").length=5:=by decide +kernel
  obtain⟨fl,kl,Dl⟩:=TR.line;refine⟨dk,dy,_,rfl,mdk,ZN,by rw[qI,qI,qI,qI];lia,dk,fl,d,_,[n,m],[],sLR,rfl,YH TR.fl kl mdk md (qdz _ _ _) (YG 'k') (qfH hn hm) m1 (show 2<=60 by decide) (.inr rfl) (.inr nm),Dl,d,xs,n,m,A,B,_,rfl,md,g1,g2,hl,jV hA,jV hB,fun t ht=>?_⟩;obtain⟨fc,kc,Dc⟩:=TR.count;refine⟨dk,dy,_,rfl,mdk,ZN,by rw[qI,qI,qI,qI];lia,dk,fc,d,_,[n,m],[],sCnR tb,rfl,YH TR.fc kc mdk md (qdz _ _ _) (YG 'k') (qfH hn hm) m1 (show 2<=60 by decide) (.inr rfl) (.inr nm),Dc,d,xs,n,m,A,B,_,rfl,md,g1,g2,hl,jV hA,jV hB,htb,fun ms2 hM2 _=>?_⟩;rw[qkf hM2 hL];have el:((ms.map lnD).length:Int)=ms.length:=by rw[qc]
  refine⟨_,.l (.d _),by rw[el];exact jS (qM (show ((ms.length:Int)).natAbs<4000 by lia) 'k'),?_⟩;rw[el];refine⟨_,_,.d _,.d _,(Asc.sN _).ok,(Asc.sN _).ok,Jg (fun c=>absurd c (neF (Asc.sN _).ok)) (fun _=>?_)⟩;have eb:t = "none" ↔ ms=[]:=by
   rcases ht with⟨rfl,hno⟩ | ⟨l',hl',rfl⟩
   .exact ⟨fun _=>List.eq_nil_iff_forall_not_mem.mpr fun z hz=>hno z ((hL.2 z).mp hz),fun _=>rfl⟩
   .exact ⟨fun z=>absurd z (qfB l'),fun z=>by have:=(hL.2 l').mpr hl';rw[z] at this;cases this⟩
  have at':Asc t:=by
   rcases ht with⟨rfl,_⟩ | ⟨l',_,rfl⟩
   .exact qeH []
   .exact Asc.wL l'
  refine⟨_,_,.d _,.d _,at'.ok,'k',zl0,_,_,.d _,.d _,YZ ms,'d',_,_,.d _,.d _,rfl,rfl,Jg (fun c=>absurd c (qbT (by rw[JS,qaF];exact decide_eq_decide.mpr eb))) (fun _=>?_)⟩;refine⟨_,_,.d _,.d _,at'.ok,'k',?_⟩;rcases ht with⟨rfl,hno⟩ | ⟨l',hl',rfl⟩
  .exact k
  .have hi:=(hL.2 l').mpr hl';rw[JS,yi (qfB l')];refine Zf ⟨l',rfl,qaw (hb l' hi),hl'.1.1,_,_,rfl,.d _,jz [l'.1.1,l'.1.2,l'.2],ql0 ms,?_⟩;show Q (.d (.bool ((ms.map lnD).any fun z=>z.eqv (lnD l')))) U;rw[qpn,qH hi];exact k
 obtain⟨t6,ht,k6⟩:=key;refine⟨_,(qq (YJ PassesOwn.never rfl (JE rfl T.range_ (qb qL qi)) (jp (i:=3) nd) (qq (qT 4 (y7 Oh.l (dv 0) (qb (y9 jo yH (jf ya (dv 2) (dv 3))) qi)))
   (qE (yY (qcE (qaS (yc (JD hr.units) (dv 4) (qK Og (qb (y7 Oj (dv 1) (qb (dv 3) qi)) qi))) (ZP (yc (JD hr.units) (qK OX (qb (dv 4) qi)) (y7 Oj (dv 1) (qb (dv 3) qi)))))) (qE (qS qfi)) yA))))
   (qq (qT 5 (y9 jo (y9 jo (y9 jo yH (jf ya (dv 2) qL)) yH) (jf ya (dv 2) qL)))
   (qq (qT 6 (qmu OL hX hr.mo (dv 1)))
   (qq (qT 4 (y7 Oh.l (dv 0) (qb (y9 jo yH (dv 5)) qi)))
   (qq (yY (yc (JD hr.units) (dv 4) (qo1 (qhA yH (qb (JF (L:=["_law_line"]) (sc:=qR jN) (N:=n5) rfl rfl rfl 'k' (ji (dv 6)) (fun _ _ _ _ _=>(yS (i:=8) (show List.Nodup (["_law_desk", "_law_keeper", "_law_names", "_law_which", "_law_text", "_law_ends", "_law_lines", "_law_one", "_law_line"]:List Str) from by decide +kernel) rfl 't')) (fun _ _ _ _ _=>jH) (fun _ _ _ _ _=>(qK Oo (qb (dv 8) qi)))) qi) (h:=fun a b=>qam PySem.F.plainAttrs_str PySem.F.slot_str_join PySem.F.type_str_join qbC a b)) (qaJ yH))) (qE (qS qfi)) yA)
   (qq (yY (qcE (Zd (yc (JD hr.units) (dv 6) (Jx qi)) (JT (yc (JD hr.units) (JF (L:=["_law_word"]) (sc:=qR jN) (N:=n5) rfl rfl rfl 'k' (ji (qdH (dv 4) (qb yH qi) (h:=fun a b=>qam PySem.F.plainAttrs_str PySem.F.slot_str_split PySem.F.type_str_split qbB a b))) (fun _ _ _ _ _=>(yS (i:=8) (show List.Nodup (["_law_desk", "_law_keeper", "_law_names", "_law_which", "_law_text", "_law_ends", "_law_lines", "_law_one", "_law_word"]:List Str) from by decide +kernel) rfl 't')) (fun _ _ _ _ _=>jH) (fun _ _ _ _ _=>(qK OQ (qb (dv 8) qi)))) (dv 6))))) (qE (qS qfi)) yA)
   ht)))))),?_⟩
 have nm:∀ x∈[n,m],(j6 xs x).isSome=true:=qfH (by rw[g1];rfl) (by rw[g2];rfl);refine⟨'d','d',qmS (fun i Y' U'=>U'=U/\∃ v3 v4 v5 v6 v7,Y'=[some (.m dk),some (.m kp),some (.d (.list [dS n,dS m])),v3,v4,v5,v6,v7]) ⟨rfl,_,_,_,_,_,rfl⟩ ?_ ?_⟩
 .rintro i Y' U' hi ⟨rfl,v3,v4,v5,v6,v7,rfl⟩;have hi:i<2:=hi;have hw:(0+(i:Int))=0\/(0+(i:Int))=1:=by lia
  generalize (0+(i:Int))=wh at *;obtain⟨nn,hnn,gg,hN⟩:∃ nn,atI [dS n,dS m] wh=some (dS nn)/\j6 xs nn=some (hpD (at2 wh A B))/\Nam nn:=by
   rcases hw with rfl | rfl
   .exact ⟨n,yf (j:=0) rfl,g1,hn⟩
   .exact ⟨m,yf (j:=1) rfl,g2,hm⟩
  have hXl:(at2 wh A B).length<=40:=qz YU hl;have hXn:∀ q∈at2 wh A B,Jf q:=by unfold at2;split <;> assumption
  obtain⟨fw,kw,Dw⟩:=TR.show_;have ln:=hN.2.1;have l0:(Str.ofString "show ").length=5:=by decide +kernel
  refine⟨dk,dy,_,rfl,mdk,ZN,_,hnn,by rw[qI];lia,dk,fw,d,_,[nn],[],qk9,rfl,YH TR.fw kw mdk md (by rw[show Str.ofString "show " = Str.ofString "show" ++ bk from by decide +kernel];rfl) (YG 'k') (qaP hN) (fun _ h=>nomatch h) (show 1<=60 by decide) (.inr rfl) (.inr (qaP (by rw[gg];rfl))),Dw,d,xs,nn,at2 wh A B,_,rfl,md,gg,hXl,hXn,?_⟩;refine⟨kp,dx,_,rfl,mk,Yr,kp,dx,h,A,B,ls,wh,rfl,mk,mh,hw,_,at2 wh A B,rfl,.d _,hXl,hXn,?_⟩;refine⟨_,_,.d _,.d _,(Asc.wH _).ok,(Asc.wH _).ok,Jg (fun c=>absurd c (neF (Asc.wH _).ok)) (fun _=>?_)⟩;refine⟨at2 wh A B,rfl,hXl,hXn,kp,dx,_,rfl,mk,Yr,kp,dx,h,A,B,ls,wh,rfl,mk,mh,hw,?_⟩;refine⟨_,_,.d _,.d _,YY _,YY _,Jg (fun c=>absurd c (neF (YY _))) (fun _=>?_)⟩;exact Wks.of ⟨rfl,_,_,_,_,_,rfl⟩
 .rintro Y' U ⟨rfl,v3,v4,v5,v6,v7,rfl⟩;have l1:=hn.2.1;have l2:=hm.2.1;have l0:(Str.ofString " ").length=1:=by decide +kernel
  have l3:(Str.ofString "all").length=3:=by decide +kernel
  have l4:(Str.ofString "line").length=4:=by decide +kernel
  have l5:(Str.ofString "count").length=5:=by decide +kernel
  refine⟨_,yf (j:=0) rfl,by rw[qI];lia,by rw[qI,qI];lia,_,yf (j:=1) rfl,by rw[qI,qI,qI];lia,?_⟩;refine⟨kp,dx,_,rfl,mk,Yr,kp,dx,h,ls,rfl,mk,?_⟩;obtain⟨fA,kA,DA⟩:=TR.all;refine⟨dk,dy,_,rfl,mdk,ZN,by rw[qI,qI,qI,qI];lia,dk,fA,d,_,[n,m],[],sAlR tb,rfl,YH TR.fA kA mdk md (qdz _ _ _) (YG 'k') (qfH hn hm) (fun _ h=>nomatch h) (show 2<=60 by decide) (.inr rfl) (.inr nm),DA,d,xs,n,m,A,B,_,rfl,md,g1,g2,hl,jV hA,jV hB,htb,fun ms hM _ _=>?_⟩;obtain rfl:=qkf hM hL;have h40:(ms.map lnD).length<=4000:=by rw[qc];lia
  refine⟨_,.d _,h40,qaK (as:=ms) (fun l=>.str (wL l)) Src.d (fun l hl' R h=>⟨l,rfl,qaw (hb l hl'),h⟩) ?_⟩;refine⟨ms.map wL,by rw[yu];exact .d _,qjN h4 hb,qfF h4 hb,or_A ?_⟩;refine⟨_,_,.d _,.d _,(qeH _).ok,(qeH _).ok,Jg (fun c=>absurd c (neF (qeH _).ok)) (fun _=>?_)⟩;have m1:∀ x∈([]:List Str),Wd x:=fun _ h=>nomatch h
  have rest:=k6 U v3 v7 ms htb mdk md hL h4 hb k;refine⟨zl0,_,_,.d _,.d _,YZ ms,'d',Jg (fun c=>?a) (fun c=>Zf rest)⟩;case a =>
   have c:(!PyData.eqv (.list (ms.map lnD)) (.list []))=true:=c;rw[qaF] at c;have hls:ms≠[]:=fun z=>by rw[qH z] at c;cases c
   have et:tA ms=wA ms:=if_neg hls;have hs:=qik hls;rw[<- et] at hs;refine⟨'k',by rw[et];exact qfF h4 hb,(show (Txt.split (tA ms) sm2).length<=4000 by rw[hs,qc];lia),?_⟩;rw[hs,yu];exact⟨_,.d _,(show (ms.map _).length<=4000 by rw[qc];lia),qaK (as:=ms) lnD Src.d (fun l hl' R h=>⟨l,rfl,qaw (hb l hl'),((hL.2 l).mp hl').1.1,h⟩) ⟨_,_,.d _,.d _,YZ ms,YZ ms,Jg (fun c=>absurd c (neF (YZ ms))) (fun _=>rest)⟩⟩
end K98
namespace K98
variable {A X:List Pt}{n m:Str}{xs:Nm}{Q:En->Mu->Prop}
theorem Ja (p:Str×PyData) (xs:Nm) (k:Str):j6 (p::xs) k=if p.1=k then some p.2 else j6 xs k:=by by_cases h:p.1=k <;> simp[j6,j7,h]
theorem Zc (xs:Nm) (k:Str) (d:PyData) (k':Str):j6 (qdd xs k d) k'=if k=k' then some d else j6 xs k':=by
 have h1:∀ ys:Nm,(ys.any fun p=>decide (p.1=k))=true->j6 (ys.map fun p=>if p.1=k then (p.1,d) else p) k'=if k=k' then some d else j6 ys k':=by
  intro ys;induction ys with
  | nil=>exact fun h=>nomatch h
  | cons p r ih =>
   intro h;rw[qP,Ja,Ja];by_cases c:p.1=k
   .rw [if_pos c];by_cases e:k=k'
    .rw [if_pos (c.trans e),if_pos e]
    .have n1:¬ p.1=k':=fun z=>e (c.symm.trans z);rw[if_neg n1,if_neg e,if_neg n1];clear ih h;induction r with
     | nil=>rfl
     | cons q r ih =>
      rw[qP,Ja,Ja,ih];by_cases c2:q.1=k
      .have n2:¬ q.1=k':=fun z=>e (c2.symm.trans z);rw[if_pos c2,if_neg n2,if_neg n2]
      .rw [if_neg c2]
   .rw [if_neg c];have h:(r.any fun p=>decide (p.1=k))=true:=by
     rw[List.any_cons,yi c,Bool.false_or] at h;exact h
    rw[ih h];by_cases e:k=k'
    .have n1:¬ p.1=k':=fun z=>c (z.trans e.symm);rw[if_neg n1,if_pos e,if_pos e]
    .rw [if_neg e,if_neg e]
 have h2:∀ ys:Nm,(ys.any fun p=>decide (p.1=k))=false->j6 (ys++[(k,d)]) k'=if k=k' then some d else j6 ys k':=by
  intro ys;induction ys with
  | nil =>
   intro _;rw[List.nil_append,Ja]
  | cons p r ih =>
   intro h;rw[List.any_cons,Bool.or_eq_false_iff] at h;have c:¬ p.1=k:=of_decide_eq_false h.1;rw[List.cons_append,Ja,Ja,ih h.2];by_cases e:k=k'
   .have n1:¬ p.1=k':=fun z=>c (z.trans e.symm);rw[if_neg n1,if_pos e,if_pos e]
   .rw [if_neg e,if_neg e]
 unfold qdd;split
 .rename_i h;exact h1 xs h
 .rename_i h;exact h2 xs (Bool.eq_false_iff.mpr h)
theorem qed (xs:Nm) (k:Str) (d:PyData):(qdd xs k d).length<=xs.length+1:=by
 unfold qdd;split
 .rw [qc];lia
 .rw [qr];exact qk _
structure Std (N:Nat) (n m:Str) (A B:List Pt) (ls:List Ln) (xs:Nm):Prop where
 l:A.length+B.length<=N
 a:∀ z∈A,Jf z
 b:∀ z∈B,Jf z
 al:qfn A B ls
 l4:ls.length<4000
 bd:∀ l∈ls,LBd l
 x:xs.length<=N
 g1:j6 xs n=some (hpD A)
 g2:j6 xs m=some (hpD B)
def FM (C D p tb kp dx h dk dy d:Addr) (A B:List Pt) (ls:List Ln) (xs:Nm):Mu:=[(d,.nmd xs),(dk,DI D dy d),(h,KH A B),(kp,KI C dx h ls),(p,PC0),TB tb]
theorem Own.orD {k:Nat}{s1 s2:SpD}(O:k<<<(x,ps,Zi (yd K s1) (yd K s2))):k<<<(x,ps,yd K fun es U Q=>s1 es U Q\/s2 es U Q):=O.imp fun vs H Q E ⟨U,es,Q0,M,hp,h,cl⟩=>h.elim (fun h=>.inl ⟨U,es,Q0,M,hp,h,cl⟩) (fun h=>.inr ⟨U,es,Q0,M,hp,h,cl⟩)
theorem qdQ (hA:∀ z∈A,Jf z) (hB:∀ z∈B,Jf z):∀ z∈at2 wh A B,Jf z:=by unfold at2;split <;> assumption
def nm2 (wh:Int) (n m:Str):Str:=if wh=0 then n else m
theorem qgG (h:wh=0\/wh=1) (n m:Str):atI [dS n,dS m] wh=some (dS (nm2 wh n m)):=by
 rcases h with rfl | rfl
 .exact yf (j:=0) rfl
 .exact yf (j:=1) rfl
theorem Zw {R:Str->Prop}(h1:R n) (h2:R m):R (nm2 wh n m):=by unfold nm2;split <;> assumption
theorem Std.at {N:Nat}(S:Std N n m A B ls xs):j6 xs (nm2 wh n m)=some (hpD (at2 wh A B)):=by
 unfold nm2 at2;split
 .exact S.g1
 .exact S.g2
theorem Std.put {N:Nat}(S:Std N n m A B ls xs) (hne:n≠m) (hw:wh=0\/wh=1) (hX:∀ z∈X,Jf z) (hl:X.length<=(at2 wh A B).length+1) (hL:qfn (Y1 wh X A B).1 (Y1 wh X A B).2 ms) (h4:ms.length<4000) (hb:∀ l∈ms,LBd l):Std (N+1) n m (Y1 wh X A B).1 (Y1 wh X A B).2 ms (qdd xs (nm2 wh n m) (hpD X)):=by
 have hs:=ZX (wh:=wh) hX S.a S.b;refine⟨qbo hw S.l hl,hs.1,hs.2,hL,h4,hb,qz (qed _ _ _) (Nat.add_le_add_right S.x 1),?_,?_⟩
 .rw [Zc];rcases hw with rfl | rfl
  .exact if_pos rfl
  .exact (if_neg fun z=>hne z.symm).trans S.g1
 .rw [Zc];rcases hw with rfl | rfl
  .exact (if_neg hne).trans S.g2
  .exact if_pos rfl
section
variable {p kp h dk dy d:Addr}{g:Pt}
theorem qfy (hq:Jf q) (hg:Jf g):∀ x∈wP q::gl way g,Wd x:=fun x hx=>by
 rcases qF.mp hx with rfl | hx
 .exact wd_P hq
 .unfold gl at hx;split at hx
  .rw [qJ.mp hx];exact wd_P hg
  .exact nomatch hx
theorem qio (TR:Dks P w K mg base CN AF AD tb) (hway:way=0\/way=1\/way=2) (hin:way=0\/q∈X) (hn:Nam n) (hq:Jf q) (hg:Jf g) (hgt:j6 xs n=some (hpD X)) (hl:X.length<=40) (hx:xs.length<=100)
  (k:Q (.d (dS "ok")) (FM C D p tb kp dx h dk dy d A B ls (qdd xs n (hpD (aft way X q g))))):qmO P w K mg base 'x' AF AD D [.m dk,.d (dS (qmQ way n q g))] (FM C D p tb kp dx h dk dy d A B ls xs) Q:=by
 have m1:(dk,DI D dy d)∈FM C D p tb kp dx h dk dy d A B ls xs:=.tail _ (.head _);have m2:(d,MO.nmd xs)∈FM C D p tb kp dx h dk dy d A B ls xs:=.head _;have sm:∀ x∈[n],(j6 xs x).isSome=true:=qaP (by rw[hgt];rfl);rcases hway with rfl | rfl | rfl
 .obtain ⟨f,kf,Df⟩:=TR.add;exact⟨dk,f,d,_,[n],[wP q],sAR,rfl,YH TR.fa kf m1 m2 rfl (YG 'k') (qaP hn) (qfy (way:=0) hq hg) (show 2<=60 by decide) (.inr rfl) (.inr sm),Df,d,[],_,xs,n,X,q,rfl,rfl,hx,hgt,'l',hq,k⟩
 .obtain ⟨f,kf,Df⟩:=TR.drop;exact⟨dk,f,d,_,[n],[wP q],sDR,rfl,YH TR.fd kf m1 m2 rfl (YG 'k') (qaP hn) (qfy (way:=1) hq hg) (show 2<=60 by decide) (.inr rfl) (.inr sm),Df.l,d,[],_,xs,n,X,q,rfl,rfl,hx,hgt,'l',hq,hin.resolve_left 'd',k⟩
 .obtain ⟨f,kf,Df⟩:=TR.step;exact⟨dk,f,d,_,[n],[wP q,wP g],sTR,rfl,YH TR.fs kf m1 m2 rfl (YG 'k') (qaP hn) (qfy (way:=2) hq hg) (show 3<=60 by decide) (.inr rfl) (.inr sm),Df.l,d,[],_,xs,n,X,q,g,rfl,rfl,hx,hgt,'l',hq,hg,hin.resolve_left 'd',k⟩
theorem qf1 (TR:Dks P w K mg base CN AF AD tb) (hway:way=1\/way=2) (hin:q∉X) (hn:Nam n) (hq:Jf q) (hg:Jf g) (hgt:j6 xs n=some (hpD X)):qef P w K mg base CN AF AD D [.m dk,.d (dS (qmQ way n q g))] (FM C D p tb kp dx h dk dy d A B ls xs):=by
 have m1:(dk,DI D dy d)∈FM C D p tb kp dx h dk dy d A B ls xs:=.tail _ (.head _);have m2:(d,MO.nmd xs)∈FM C D p tb kp dx h dk dy d A B ls xs:=.head _;have sm:∀ x∈[n],(j6 xs x).isSome=true:=qaP (by rw[hgt];rfl);rcases hway with rfl | rfl
 .obtain ⟨f,kf,Df⟩:=TR.drop;exact⟨dk,f,d,_,[n],[wP q],qlg,rfl,YH TR.fd kf m1 m2 rfl (YG 'k') (qaP hn) (qfy (way:=1) hq hg) (show 2<=60 by decide) (.inr rfl) (.inr sm),Df.r,d,xs,n,X,q,rfl,m2,hgt,hq,hin⟩
 .obtain ⟨f,kf,Df⟩:=TR.step;exact⟨dk,f,d,_,[n],[wP q,wP g],qlf,rfl,YH TR.fs kf m1 m2 rfl (YG 'k') (qaP hn) (qfy (way:=2) hq hg) (show 3<=60 by decide) (.inr rfl) (.inr sm),Df.r,d,xs,n,X,q,g,rfl,m2,hgt,hq,hg,hin⟩
theorem qd8 (TR:Dks P w K mg base CN AF AD tb) (hn:Nam n) (hX:∀ z∈X,Jf z) (hl:X.length<=40) (hx:xs.length<=100)
  (k:Q (.d (dS "ok")) (FM C D p tb kp dx h dk dy d A B ls (qdd xs n (hpD X)))):qmO P w K mg base 'x' AF AD D [.m dk,.d (dS (qif n X))] (FM C D p tb kp dx h dk dy d A B ls xs) Q:=by
 have m1:(dk,DI D dy d)∈FM C D p tb kp dx h dk dy d A B ls xs:=.tail _ (.head _);have m2:(d,MO.nmd xs)∈FM C D p tb kp dx h dk dy d A B ls xs:=.head _;obtain⟨f,kf,Df⟩:=TR.heap;exact⟨dk,f,d,_,[n],X.map wP,sHR,rfl,YH TR.fh kf m1 m2 rfl (YG 'k') (qaP hn) (fun x hx=>by obtain⟨z,hz,rfl⟩:=qu.mp hx;exact wd_P (hX z hz)) (by rw[qr,qc];show 1+_<=60;lia) (.inl rfl) (.inl rfl),Df,d,[],_,xs,n,X,(by rw[yu];rfl),rfl,hx,hl,hX,k⟩
end
end K98
namespace K98
theorem qn5 {a b c:Str}{d:Int}(d0:0<=d) (d1:d<3):∃ x∈[a,b,c],atI [dS a,dS b,dS c] d=some (dS x):=by
 obtain rfl | rfl | rfl:d=0\/d=1\/d=2:=by lia
 .exact ⟨a,'s',yf (j:=0) rfl⟩
 .exact ⟨b,'s',yf (j:=1) rfl⟩
 .exact ⟨c,'s',yf (j:=2) rfl⟩
theorem qgI (h:(ws.all fun x=>decide (1<=x.length) && decide (x.length<=8) && (cl x).all fun c=>decide (97<=c) && decide (c<=122))=true):∀ x∈ws,Nam x:=fun x hx=>by
 have:=jJ.mp h x hx;simp only[qZ] at this;obtain⟨⟨a,b⟩,c⟩:=this;refine⟨qx a,qx b,fun z hz=>?_⟩;have:=jJ.mp c z hz;rw[qZ] at this;exact⟨qx this.1,qx this.2⟩
theorem qoy {vs:List Str}(h:(ws.all fun x=>vs.all fun y=>decide (x≠y))=true) {n m:Str}(hn:n∈ws) (hm:m∈vs):n≠m:=qx (jJ.mp (jJ.mp h n hn) m hm)
theorem Std.mono {N M:Nat}{n m:Str}{A:List Pt}{xs:Nm}(h:N<=M) (S:Std N n m A B ls xs):Std M n m A B ls xs:=⟨qz S.l h,S.a,S.b,S.al,S.l4,S.bd,qz S.x h,S.g1,S.g2⟩
theorem meet {Ga:Pt->Prop}{T:Prop}(r:∀ q,Jf q->Ga q) (f:(∀ q,Jf q->Ga q)->T):T:=f r
def forB (l:List Stmt) (i:Nat):List Stmt:=match l.getD i (.Pass ⟨0,0,0,0⟩) with
 | .For _ _ b _ _=>b
 | _=>[]
abbrev rS (ns:List Int) (i:Nat) (p:Addr) (A B:List Pt) (n m:Str) (kp dk:Addr) (v1 v8 v9 v10 v11 v12 v13 v14:Option En):Rho:=[some (.d (.list (ns.map .int))),some (.d (.int (0+(i:Int)))),some (.m p),v1,some (.d (.list [hpD A,hpD B])),some (.d (.list [dS n,dS m])),some (.m kp),some (.m dk),v8,v9,v10,v11,v12,v13,v14]
theorem qoq (F:"law"^^^qh1) (T:Txt mg) (hX:NoX 'x') (TR:Dks P w K mg base CN AF AD tb) (OU:2&&&("_law_store",nw,yd K qjW)) (OR:5&&&("_law_heap",["_law_store_here", "_law_known"],yd K qnC)) (Od:1&&&("_law_draw",nh,yd K (qdc 2147483579))) (Os:4&&&("_law_point",nG,yd K qf2)) (CKeeper:qps P w K mg base 'x' 8 "Keeper" C nR (yd K (qnB C tb))) (CDesk:qps P w K mg base 'x' 1 "Desk" D ["self"] (yd K (sDkI D))) (Oh:yQ P w K mg base 'x' 9 D "say" nE (qpM P w K mg base CN AF AD D)) (Oj:yQ P w K mg base 'x' 1 C "heap" nQ (yd K (qf5 C))) (OT:2&&&("_law_told",nJ,yd K qnq)) (Mf:2&&&("_law_row",nN,yd K sRow)) (OF:10&&&("_law_alike",["_law_desk", "_law_keeper", "_law_names"],yd K (sAlk C D tb))) (OY:10&&&("_law_kept",nj,Zi (yd K (sKp C tb)) (yd K (sKpX C)))) (OZ:10&&&("_law_said",nK,Zi (yd K (qmO P w K mg base 'x' AF AD D)) (yd K (sSdX P w K mg base CN AF AD D)))):12>>>(["_law_script"],yd K (qnx tb)):=by
 refine F.okE (N:=n9) ?_;intro Oy A0 outer s H E es U Q nd hr hZ;obtain⟨ns,e,hl,e0,k⟩:=hZ;subst e e0;have key:∃ t,DSs K (ZT CX P w K mg base n9 "law" (qR qh1) f Oy A0 outer s H E).nox (forB (forB (yP qh1) 0) 8) t ∧
   ∀ (De:EndsD) (ns:List Int) (i:Nat) (p kp dx h dk dy d:Addr) (A B:List Pt) (n m:Str) (A' B':List Pt) (ls':List Ln) (xs':Nm) (N:Nat) (v1 v8 v9 v10 v11 v12 v13 v14:Option En),Nam n->Nam m->n≠m->Std N n m A' B' ls' xs'->N<=17 →
    (∀ (A2 B2:List Pt) (ls2:List Ln) (xs2:Nm) (v8 v10 v11 v12 v13 v14:Option En),Std (N+1) n m A2 B2 ls2 xs2->De.nx (rS ns i p A B n m kp dk v1 v8 v9 v10 v11 v12 v13 v14) (FM C D p tb kp dx h dk dy d A2 B2 ls2 xs2)) →
    t De (rS ns i p A B n m kp dk v1 v8 v9 v10 v11 v12 v13 v14) (FM C D p tb kp dx h dk dy d A' B' ls' xs'):=by
  refine⟨_,(qq (qT 8 (qK Od (qb (dv 2) (qb qL qi))))
   (qq (qT 10 (qK Od (qb (dv 2) (qb qL qi))))
   (qq (qT 11 (y7 Oj (dv 6) (qb (dv 8) qi)))
   (qq (qT 12 (qK Os (qb (dv 2) (qb (dv 11) qi))))
   (qq (yY (qcE (Zd (yc (JD hr.units) (dv 11) (Jx qi)) (JT (yc qjn (qK Od (qb (dv 2) (qb qL qi))) qL)))) (qE (qT 12 (jf ya (dv 11) (qK Od (qb (dv 2) (qb (yy Yv (by rfl) T.len_ Yf (qb (dv 11) qi)) qi)))))) yA)
   (qq (qT 13 (qK Os (qb (dv 2) (qb (dv 11) qi))))
   (qq (qT 14 (qK (Own.orD OY) (qb (dv 6) (qb (dv 10) (qb (dv 8) (qb (dv 12) (qb (dv 13) qi)))))))
   (qq (yY (yc (JD hr.units) (qK (Own.orD OZ) (qb (dv 7) (qb (qK Mf (qb (dv 10) (qb (jf ya (dv 5) (dv 8)) (qb (dv 12) (qb (dv 13) qi))))) qi))) (jf ya (Jx (qb yH (qb yH qi))) (jx qoZ (by rfl) T.int_ qhP (qb (dv 14) qi)))) (qE (qS qfi)) yA)
   (qE (yY (qcE (qaS (yc (JD hr.units) (dv 14) (d_or (JG (Jc hr.units) (dv 10) qL) (qaJ (JG (qml hr.u66) (dv 12) (dv 11) rfl)))) (ZP (Yb (jX (qK OF (qb (dv 7) (qb (dv 6) (qb (dv 5) qi))))))))) (qE (qS qfi)) yA)))))))))),fun De ns i p kp dx h dk dy d A B n m A' B' ls' xs' N v1 v8 v9 v10 v11 v12 v13 v14 hn hm hne S hN hD=>?_⟩
  have mkp:∀ {A B ls xs},(kp,KI C dx h ls)∈FM C D p tb kp dx h dk dy d A B ls xs:=.tail _ (.tail _ (.tail _ (.head _)));have mh:∀ {A B ls xs},(h,KH A B)∈FM C D p tb kp dx h dk dy d A B ls xs:=.tail _ (.tail _ (.head _));have mdk:∀ {A B ls xs},(dk,DI D dy d)∈FM C D p tb kp dx h dk dy d A B ls xs:=.tail _ (.head _);have md:∀ {A B ls xs},(d,MO.nmd xs)∈FM C D p tb kp dx h dk dy d A B ls xs:=.head _;have mp:∀ {A B ls xs},(p,PC0)∈FM C D p tb kp dx h dk dy d A B ls xs:=.tail _ (.tail _ (.tail _ (.tail _ (.head _))));have mtb:∀ {A B ls xs},TB tb∈FM C D p tb kp dx h dk dy d A B ls xs:=.tail _ (.tail _ (.tail _ (.tail _ (.tail _ (.head _)))));refine⟨p,_,rfl,mp,'d','d',fun wh wh0 wh1=>⟨p,_,rfl,mp,'d','d',fun way way0 way1=>?_⟩⟩;have hw:wh=0\/wh=1:=by lia
  have hway:way=0\/way=1\/way=2:=by lia
  have hXn:=qdQ (wh:=wh) S.a S.b;have hXl:=YU (wh:=wh) (A:=A') (B:=B');have Sl:=S.l;have Sx:=S.x;refine⟨kp,dx,_,rfl,mkp,Yr,kp,dx,h,A',B',ls',wh,rfl,mkp,mh,hw,p,at2 wh A' B',rfl,mp,'l',hXn,?_⟩;refine meet ?r (fun rest q hq=>⟨zl0,_,_,.d _,.d _,YY _,'d',Jg (fun z=>⟨p,_,rfl,mp,'d','d',fun e e0 e1=>Jg (fun _=>⟨_,.l (.d _),p,_,rfl,mp,?b1,?b2,fun e e0 e1=>by
   obtain⟨q',hq',ee⟩:=qhR e0 e1;exact⟨_,ee,rest q' (hXn q' hq')⟩⟩) (fun _=>rest q hq)⟩) (fun z=>Zf (rest q hq))⟩)
  case b1 =>
   have z:(!PyData.eqv (.list ((at2 wh A' B').map ptD)) (.list []))=true:=z;rw[qaF] at z;rw[qc];cases ex:at2 wh A' B' with
   | nil=>rw[ex] at z;cases z
   | cons a r=>show (0:Int)<((r.length+1:Nat):Int);lia
  case b2=>rw[qc];lia
  case r =>
   intro q hq;refine⟨p,at2 wh A' B',rfl,mp,'l',hXn,fun g hg=>?_⟩;have ep:((at2 wh A' B').map ptD).any (fun z=>z.eqv (ptD q))=decide (q∈at2 wh A' B'):=qc1 _ _;by_cases hin:way=0\/q∈at2 wh A' B'
   .refine .inl ⟨kp,dx,h,A',B',ls',way,wh,q,g,[(d,.nmd xs'),(dk,DI D dy d)],[(p,PC0),TB tb],rfl,hway,rfl,hw,hin,S.l4,'l',jV S.a,jV S.b,qgC hq,qgC hg,'s',fun ms hL h4 hb=>?_⟩;have S':=S.put hne hw (qbZ hXn hq hg) qbY hL h4 hb;refine⟨_,qgG hw n m,way,nm2 wh n m,q,g,rfl,hway,Zw hn hm,hq,hg,.inl (qio TR hway hin (Zw hn hm) hq hg S.at 'l' 'l' ?_)⟩;refine⟨zl2,_,yf (j:=1) rfl,_,_,.d _,.d _,'k','k',Jg (fun c=>absurd c (neF (B:=.str "ok") 'k')) (fun _=>meet0 ?r2 (fun rest=>Jg (fun z=>⟨_,_,.d _,.d _,rfl,rfl,Jg (fun c=>absurd c (qbT (a:=true) (b:=true) rfl)) (fun _=>rest)⟩) (fun z=>⟨_,_,rfl,.d _,jz [q.1,q.2],Zy _,_,_,.d _,.d _,rfl,rfl,Jg (fun c=>absurd c (qbT (a:=true) ((qc1 _ _).trans (qH (hin.resolve_left fun z'=>z (qH z')))).symm)) (fun _=>rest)⟩)))⟩;exact⟨dk,dy,d,kp,dx,h,_,n,m,_,_,_,rfl,mkp,mh,mdk,md,S'.g1,S'.g2,hn,hm,qz S'.l 'l',S'.a,S'.b,S'.al,S'.l4,S'.bd,mtb,hD _ _ _ _ _ _ _ _ _ _ S'⟩
   .have hway2:way=1\/way=2:=by lia
    have hnin:q∉at2 wh A' B':=fun z=>hin (.inr z);refine .inr ⟨kp,dx,h,A',B',ls',way,wh,q,g,rfl,hway2,mkp,mh,hw,hnin,?_⟩;refine⟨_,qgG hw n m,way,nm2 wh n m,q,g,rfl,hway,Zw hn hm,hq,hg,.inr ⟨qf1 TR hway2 hnin (Zw hn hm) hq hg S.at,?_⟩⟩;refine⟨zl2,_,yf (j:=0) rfl,_,_,.d _,.d _,'k','k',Jg (fun c=>absurd c (neF (B:=.str "lacking") 'k')) (fun _=>Jg (fun z=>absurd (qx z) fun z=>hin (.inl z)) (fun z=>⟨_,_,rfl,.d _,jz [q.1,q.2],Zy _,?_⟩))⟩;refine⟨_,_,.d _,.d _,rfl,rfl,Jg (fun c=>absurd c (qbT ((qc1 _ _).trans (yi hnin)).symm)) (fun _=>?_)⟩;exact⟨dk,dy,d,kp,dx,h,_,n,m,_,_,_,rfl,mkp,mh,mdk,md,S.g1,S.g2,hn,hm,qz S.l 'l',S.a,S.b,S.al,S.l4,S.bd,mtb,hD _ _ _ _ _ _ _ _ _ _ (S.mono (Nat.le_succ _))⟩
 obtain⟨t9,h9,k9⟩:=key;refine⟨_,(qq (YJ PassesOwn.never rfl (JE rfl T.range_ (qb (yy (qhw rfl) (by rfl) T.max_ qeF (qb qL (qb (yy (qoY rfl) (by rfl) T.min_ qpk (qb (yy Yv (by rfl) T.len_ Yf (qb (dv 0) qi)) (qb qL qi))) qi))) qi)) (jp (i:=1) nd) (qq (qT 2 (qK OU (qb (dv 0) (qb (dv 1) qi))))
   (qq (qT 3 (qK OR (qb (dv 2) (qb (Jx qi) qi))))
   (qq (qT 4 (Jx (qb (dv 3) (qb (qK OR (qb (dv 2) (qb (dv 3) qi))) qi))))
   (qq (qT 5 (Jx (qb (jf ya (Jx (qb yH (qb yH (qb yH qi)))) (qK Od (qb (dv 2) (qb qL qi)))) (qb (jf ya (Jx (qb yH (qb yH (qb yH qi)))) (qK Od (qb (dv 2) (qb qL qi)))) qi))))
   (qq (qT 6 (qkw CKeeper hX hr.mo rfl (qb (jf ya (dv 4) qL) (qb (jf ya (dv 4) qL) qi))))
   (qq (qT 7 (qmv CDesk hX hr.mo rfl))
   (qq (YJ PassesOwn.never rfl (JE rfl T.range_ (qb qL qi)) (jp (i:=8) nd) (qE (yY (yc (JD hr.units) (y7 Oh.l (dv 7) (qb (qK OT (qb (jf ya (dv 5) (dv 8)) (qb (jf ya (dv 4) (dv 8)) qi))) qi)) yH) (qE (qS qfi)) yA)))
   (qq (yY (Yb (jX (qK OF (qb (dv 7) (qb (dv 6) (qb (dv 5) qi)))))) (qE (qS qfi)) yA)
   (qq (YJ PassesOwn.never rfl (JE rfl T.range_ (qb (qK Od (qb (dv 2) (qb qL qi))) qi)) (jp (i:=9) nd) h9)
   (qE (yY (yc (Jc hr.units) (qK Od (qb (dv 2) (qb qL qi))) qL) (qq (JU (y7 Oh.l (dv 7) (qb (qK OT (qb (jf ya (dv 5) qL) (qb (y7 Oj (dv 6) (qb qL qi)) qi))) qi)))
   (qq (qT 6 (qkw CKeeper hX hr.mo rfl (qb (y7 Oj (dv 6) (qb qL qi)) (qb (y7 Oj (dv 6) (qb qL qi)) qi))))
   (qE (yY (Yb (jX (qK OF (qb (dv 7) (qb (dv 6) (qb (dv 5) qi)))))) (qE (qS qfi)) yA)))) yA))))))))))))
   (qE (qS qfi))),?_⟩
 refine⟨_,.l (.d _),?_⟩;rw[qc];obtain⟨m,em,hm⟩:∃ m:Int,(if (1:Int)<(if (4:Int)<(ns.length:Int) then 4 else (ns.length:Int)) then (if (4:Int)<(ns.length:Int) then 4 else (ns.length:Int)) else 1)=m/\(1<=m/\m<=4):=⟨_,rfl,by split <;> (try split) <;> lia⟩;refine⟨?_,?_,qmS (fun i Y' U'=>U'=[TB tb]/\∃ v1 v2 v3 v4 v5 v6 v7 v8 v9 w0 w1 w2 w3 w4,Y'=[some (.d (.list (ns.map .int))),v1,v2,v3,v4,v5,v6,v7,v8,v9,w0,w1,w2,w3,w4]) ⟨rfl,_,_,_,_,_,_,_,_,_,_,_,_,_,_,rfl⟩ ?_ ?_⟩
 .exact le_of_le_of_eq (show -(2 ^ 62)<=m by lia) em.symm
 .exact lt_of_eq_of_lt em (show m<2 ^ 62 by lia)
 .rintro i Y' U' hi ⟨rfl,v1,v2,v3,v4,v5,v6,v7,v8,v9,w0,w1,w2,w3,w4,rfl⟩;have hi:i<Int.toNat _:=hi;have hi2:i<m.toNat:=lt_of_lt_of_eq hi (congrArg Int.toNat em);refine⟨ns,i,'s',hl,'l',fun p hp=>?_⟩;clear em hm hi hi2;refine⟨zl0,p,[],rfl,qj,'d',(fun _ h=>nomatch h),fun A lA hA=>?_⟩;refine⟨p,A,rfl,qj,'l',hA,fun B lB hB=>⟨zl2,?_⟩⟩;refine⟨zl3,p,_,rfl,qj,'d','d',fun d1 d10 d11=>?_⟩;obtain⟨n,hn0,en⟩:=qn5 (a := "a") (b := "ab") (c := "zzzzzzzz") d10 d11;refine⟨_,en,zl3,p,_,rfl,qj,'d','d',fun d2 d20 d21=>?_⟩;obtain⟨m,hm0,em⟩:=qn5 (a := "b") (b := "ba") (c := "zzzzzzz") d20 d21;have hn:=qgI 'k' n hn0;have hm:=qgI 'k' m hm0;have hne:n≠m:=qoy 'k' hn0 hm0;refine⟨_,em,zl2,?_⟩;refine⟨_,yf (j:=0) rfl,_,yf (j:=1) rfl,fun kp dx hkp=>⟨kp,dx,A,B,_,rfl,rfl,'l',jV hA,jV hB,'s',fun h ls hL h4 hb=>⟨rfl,fun dk dy hdk=>⟨dk,dy,_,rfl,rfl,fun d=>⟨rfl,?_⟩⟩⟩⟩⟩;clear hn0 hm0 en em d10 d11 d20 d21 hkp hdk hp;have mkp:∀ {A B ls xs},(kp,KI C dx h ls)∈FM C D p tb kp dx h dk dy d A B ls xs:=.tail _ (.tail _ (.tail _ (.head _)));have mh:∀ {A B ls xs},(h,KH A B)∈FM C D p tb kp dx h dk dy d A B ls xs:=.tail _ (.tail _ (.head _));have mdk:∀ {A B ls xs},(dk,DI D dy d)∈FM C D p tb kp dx h dk dy d A B ls xs:=.tail _ (.head _);have md:∀ {A B ls xs},(d,MO.nmd xs)∈FM C D p tb kp dx h dk dy d A B ls xs:=.head _;have mp:∀ {A B ls xs},(p,PC0)∈FM C D p tb kp dx h dk dy d A B ls xs:=.tail _ (.tail _ (.tail _ (.tail _ (.head _))));have mtb:∀ {A B ls xs},TB tb∈FM C D p tb kp dx h dk dy d A B ls xs:=.tail _ (.tail _ (.tail _ (.tail _ (.tail _ (.head _)))));refine⟨'d','d',qmS (fun j Y' U'=>∃ xs:Nm,xs.length<=j/\(0<j->j6 xs n=some (hpD A))/\(1<j->j6 xs m=some (hpD B))/\U'=FM C D p tb kp dx h dk dy d A B ls xs/\∃ v1 v8 v9 v10 v11 v12 v13 v14,Y'=rS ns i p A B n m kp dk v1 v8 v9 v10 v11 v12 v13 v14) ⟨[],qk _,fun z=>absurd z 'd',fun z=>absurd z 'd',rfl,_,_,_,_,_,_,_,_,rfl⟩ ?_ ?_⟩
  .rintro j Y' U' hj ⟨xs,hx,hg1,hg2,rfl,v1,v8,v9,v10,v11,v12,v13,v14,rfl⟩;have hj:j<2:=hj;have hw:(0+(j:Int))=0\/(0+(j:Int))=1:=by lia
   refine⟨dk,dy,_,rfl,mdk,ZN,_,qgG hw n m,_,qaM hw A B,nm2 (0+(j:Int)) n m,at2 (0+(j:Int)) A B,rfl,Zw hn hm,qz YU 'l',qdQ hA hB,qd8 TR (Zw hn hm) (qdQ hA hB) (qz YU 'l') 'l' ?_⟩;refine⟨_,_,.d _,.d _,'k','k',Jg (fun c=>absurd c (neF (B:=.str "ok") 'k')) (fun _=>Wks.of ⟨_,qz (qed _ _ _) 'l',fun _=>?_,fun z=>?_,rfl,_,_,_,_,_,_,_,_,rfl⟩)⟩;all_goals
    rw[Zc];obtain rfl | rfl:j=0\/j=1:=by lia
   .exact if_pos rfl
   .exact (if_neg hne.symm).trans (hg1 'd')
   .exact absurd z 'd'
   .exact if_pos rfl
  .rintro Y' U' ⟨xs,hx,hg1,hg2,rfl,v1,v8,v9,v10,v11,v12,v13,v14,rfl⟩;have S0:Std 12 n m A B ls xs:=⟨'l',hA,hB,hL,h4,hb,qz hx 'd',hg1 'd',hg2 'd'⟩;clear hg1 hg2 hx hA hB hL h4 hb lA lB;refine⟨dk,dy,d,kp,dx,h,_,n,m,_,_,_,rfl,mkp,mh,mdk,md,S0.g1,S0.g2,hn,hm,qz S0.l 'd',S0.a,S0.b,S0.al,S0.l4,S0.bd,mtb,?_⟩;show _;refine⟨p,_,rfl,mp,'d','d',fun c c0 c1=>⟨'l','l',?_⟩⟩;refine qmS (fun j Y' U'=>∃ A' B' ls' xs',Std (12+j) n m A' B' ls' xs'/\U'=FM C D p tb kp dx h dk dy d A' B' ls' xs'/\∃ v1 v8 v9 v10 v11 v12 v13 v14,Y'=rS ns i p A B n m kp dk v1 v8 v9 v10 v11 v12 v13 v14) ⟨A,B,ls,xs,S0,rfl,_,_,_,_,_,_,_,_,rfl⟩ ?_ ?_
   .clear S0;rintro j Y' U' hj ⟨A',B',ls',xs',S,rfl,v1,v8,v9,v10,v11,v12,v13,v14,rfl⟩;have hj:j<c.toNat:=hj;exact k9 _ ns i p kp dx h dk dy d A B n m A' B' ls' xs' (12+j) _ _ _ _ _ _ _ _ hn hm hne S 'l' fun A2 B2 ls2 xs2 _ _ _ _ _ _ S2=>Wks.of ⟨A2,B2,ls2,xs2,S2,rfl,_,_,_,_,_,_,_,_,rfl⟩
   .clear S0;rintro Y' U' ⟨A',B',ls',xs',S,rfl,v1,v8,v9,v10,v11,v12,v13,v14,rfl⟩;have Sl:=S.l;have Sx:=S.x;have hc:Int.toNat c<=6:=by lia
    have Sl:A'.length+B'.length<=12+c.toNat:=Sl;have Sx:xs'.length<=12+c.toNat:=Sx;refine⟨p,_,rfl,mp,'d','d',fun e e0 e1=>Jg (fun z=>?_) (fun z=>⟨_,_,Wk.sub (List.singleton_sublist.mpr mtb),rfl,_,_,_,_,_,_,_,_,_,_,_,_,_,_,rfl⟩)⟩;refine⟨dk,dy,_,rfl,mdk,ZN,_,yf (j:=1) rfl,kp,dx,_,rfl,mkp,Yr,kp,dx,h,A',B',ls',1,rfl,mkp,mh,.inr rfl,m,B',rfl,hm,'l',S.b,qd8 TR hm S.b 'l' 'l' ?_⟩;refine⟨kp,dx,_,rfl,mkp,Yr,kp,dx,h,A',B',ls',0,rfl,mkp,mh,.inl rfl,kp,dx,_,rfl,mkp,Yr,kp,dx,h,A',B',ls',1,rfl,mkp,mh,.inr rfl,fun kp2 dx2 hk=>⟨kp2,dx2,A',B',_,rfl,rfl,'l',jV S.a,jV S.b,mtb,fun h2 ls2 hL2 h42 hb2=>⟨rfl,?_⟩⟩⟩;have up:∀ {x y z:Addr×MO}{U:Mu},x∈U->x∈y::z::U:=fun h=>qe _ (qe _ h);refine⟨dk,dy,d,kp2,dx2,h2,_,n,m,A',B',ls2,rfl,qe _ qj,qj,up mdk,up md,?_,?_,hn,hm,'l',S.a,S.b,hL2,h42,hb2,up mtb,_,_,Wk.sub (List.singleton_sublist.mpr (up mtb)),rfl,_,_,_,_,_,_,_,_,_,_,_,_,_,_,rfl⟩
    .rw [Zc,if_neg hne.symm];exact S.g1
    .rw [Zc,if_pos rfl]
 .rintro Y' U' ⟨rfl,v1,v2,v3,v4,v5,v6,v7,v8,v9,w0,w1,w2,w3,w4,rfl⟩;exact k _
end K98
namespace K98
variable {st:Stmt}
def Al:List Str->(List Value->Prop)->Prop
 | [],p=>p []
 | _::r,p=>∀ a,Al r fun us=>p (a::us)
theorem qhW:∀ {ps:List Str}{p:List Value->Prop},Al ps p->∀ us:List Value,us.length=ps.length->p us
 | [],p,h,us,hl=>by
  cases us with
  | nil=>exact h
  | cons a t=>cases hl
 | _::r,p,h,us,hl=>by
  cases us with
  | nil=>cases hl
  | cons a t=>exact qhW (h a) t (Nat.succ.inj hl)
structure N0 (K:W.Frag) (x:Str):Prop where
 e:W.nsIn K mainGlobals x=some none
structure N1 (K:W.Frag) (x:Str) (a:Addr):Prop where
 e:W.nsIn K mainGlobals x=some (some (.ref a))
structure FIn (K:W.Frag) (x:Str) (st:Stmt) (f:Addr) (fd:FuncData):Prop where
 a:W.nsIn K mainGlobals x=some (some (.ref f))
 F:Fun K x x st f fd
 k:W.keepIn K (.ref f)=true
theorem fin_mk {kV:Value}(a:W.nsIn K mainGlobals x=some (some (.ref f))) (l:K.lookup f=some ⟨oc,od,.func (W.fnOf x x (jQ st) (yP st) (qR st) .none kV dc pm an cd ct),sl⟩) (c:W.codeIn K cd x=true) (k:W.keepIn K (.ref f)=true):FIn K x st f (W.fnOf x x (jQ st) (yP st) (qR st) .none kV dc pm an cd ct):=⟨a,qhg l c k,k⟩
def FX (K:W.Frag) (x:Str) (st:Stmt):Prop:=∃ f fd,FIn K x st f fd
structure MIn (K:W.Frag) (C:Addr) (x q:Str) (st:Stmt) (f:Addr) (fd:FuncData):Prop where
 m:Meth K C x f
 F:Fun K x q st f fd
theorem min_mk {q:Str}{kV:Value}(a:W.findIn K (.ref C) x=some (some (.ref f))) (i:W.isFn K (.ref f)=true) (l:K.lookup f=some ⟨oc,od,.func (W.fnOf x q (jQ st) (yP st) (qR st) .none kV dc pm an cd ct),sl⟩) (c:W.codeIn K cd q=true) (k:W.keepIn K (.ref f)=true):MIn K C x q st f (W.fnOf x q (jQ st) (yP st) (qR st) .none kV dc pm an cd ct):=⟨⟨a,i,k⟩,qhg l c k⟩
def MX (K:W.Frag) (C:Addr) (x q:Str) (st:Stmt):Prop:=∃ f fd,MIn K C x q st f fd
structure RX (K:W.Frag) (AD:Addr) (x y:Str) (f:Addr):Prop where
 n:N1 K y f
 v:qaO K AD x=some (some (.ref f))
structure KX (K:W.Frag) (x:Str) (C:Addr):Prop where
 n:N1 K x C
 c:Cls K C
 m:W.makesIn K C=true
 k:W.keepIn K (.ref C)=true
structure Zs (P:Program) (w:World) (K:W.Frag) (mg:Str->Option Value) (base:Heap):Prop where
 o:∀ {x:Str}{a:Addr},N1 K x a->mg x=some (.ref a)
section
variable {k:Nat}{q:Str}
theorem qkb (Z:Zs P w K mg base) (g:FIn K x st f fd) (F:FnOk P w K mg base 'x' k f fd ps sp)
  (h:∀ (kV doc pm:Value) (an:Option Addr) (cd ct:Value),Al ps fun us=>bindArgs (W.fnOf x x (jQ st) (yP st) (qR st) .none kV doc pm an cd ct) ⟨us,[]⟩=pure (ps.zip us):=by intro _ _ _ _ _ _;(repeat intro _);rfl):k&&&(x,ps,sp):=⟨f,fd,F,Z.o ⟨g.a⟩,g.k,g.F.binds fun _ _ _ _ _ _ us hl=>qhW (h ..) us hl⟩
theorem yl (Z:Zs P w K mg base) (g:FX K x st) (F:∀ {f fd},Fun K x x st f fd->FnOk P w K mg base 'x' k f fd ps sp)
  (h:∀ (kV doc pm:Value) (an:Option Addr) (cd ct:Value),Al ps fun us=>bindArgs (W.fnOf x x (jQ st) (yP st) (qR st) .none kV doc pm an cd ct) ⟨us,[]⟩=pure (ps.zip us):=by intro _ _ _ _ _ _;(repeat intro _);rfl):k&&&(x,ps,sp):=by
 obtain⟨f,fd,g⟩:=g;exact qkb Z g (F g.F) h
theorem JO (Z:Zs P w K mg base) (c:Cls K C) (g:MX K C x q st) (F:∀ {f fd},Fun K x q st f fd->FnOk P w K mg base 'x' k f fd ps sp)
  (h:∀ (kV doc pm:Value) (an:Option Addr) (cd ct:Value),Al ps fun us=>bindArgs (W.fnOf x q (jQ st) (yP st) (qR st) .none kV doc pm an cd ct) ⟨us,[]⟩=pure (ps.zip us):=by intro _ _ _ _ _ _;(repeat intro _);rfl):yQ P w K mg base 'x' k C x ps sp:=by
 obtain⟨f,fd,g⟩:=g;exact⟨f,fd,F g.F,c,g.m,g.F.binds fun _ _ _ _ _ _ us hl=>qhW (h ..) us hl⟩
theorem yQ.mk_ (Z:Zs P w K mg base) (c:KX K y C) (M:yQ P w K mg base 'x' k C "__init__" ps sp):qps P w K mg base 'x' k y C ps sp:=by
 obtain⟨f,fd,F,_,m,b⟩:=M;exact⟨f,fd,F,Z.o c.n,⟨c.m,m.at_,m.fn,c.k⟩,b⟩
theorem ZL (Z:Zs P w K mg base) (r:RX K AD x y f) (O:k&&&(y,ps,sp)) (hk:k<=8:=by decide):∃ f,qaO K AD x=some (some (.ref f))/\DOk P w K mg base 'x' 8 ps f sp:=⟨f,r.v,O.row (Z.o r.n) hk⟩
end
theorem all_mk {l:W.OpenLaw}{fa:Addr}(X:K.In h) (Ga:h.Ns mainGlobals mg) (hfa:mg "law" = some (.ref fa))
   (cC:KX K "Keeper" C) (cD:KX K "Desk" D) (nC0:W.findIn K (.ref C) "heaps" = some none) (nC1:W.findIn K (.ref C) "kept" = some none) (nD0:W.findIn K (.ref D) "named" = some none)
  (aN:N1 K "Lacking" CN) (q1:W.excIn K CN bmV "ValueError.__new__" = true) (m2:W.exmOne K (.ref CN) (.ref CN)=some true) (aF:N1 K "FORMS" AF) (aD:N1 K "DEEDS" AD)
  {e0 e1 e2 e3 e4 e5 e6 e7:Addr}(r0:RX K AD "heap" "heap_row" e0) (r1:RX K AD "add" "add_row" e1) (r2:RX K AD "drop" "drop_row" e2) (r3:RX K AD "step" "step_row" e3) (r4:RX K AD "show" "show_row" e4) (r5:RX K AD "line" "line_row" e5) (r6:RX K AD "all" "all_row" e6) (r7:RX K AD "count" "count_row" e7)
  (w0:Jv K AF "heap" = some [.int 1,.none]) (w1:Jv K AF "add" = some [.int 1,.int 1]) (w2:Jv K AF "drop" = some [.int 1,.int 1]) (w3:Jv K AF "step" = some [.int 1,.int 2]) (w4:Jv K AF "show" = some [.int 1,.int 0]) (w5:Jv K AF "line" = some [.int 2,.int 0]) (w6:Jv K AF "all" = some [.int 2,.int 0]) (w7:Jv K AF "count" = some [.int 2,.int 0])
  (g0:FX K "_law_cell" qa3)
  (g1:FX K "_law_store" qah)
  (g2:FX K "_law_draw" Zn)
  (g3:FX K "_law_far" qcf)
  (g4:FX K "_law_number" ZI)
  (g5:FX K "_law_point" JM)
  (g6:FX K "_law_heap" qa2)
  (g7:FX K "common_divisor" Yj)
  (g8:FX K "lead" qnn)
  (g9:FX K "through" qd0)
  (g10:FX K "sign" qnl)
  (g11:FX K "side" qnm)
  (g12:FX K "sign_counts" ZE)
  (g13:FX K "is_even_share" Ju)
  (g14:FX K "counts" qda)
  (g15:FX K "halves" qfW)
  (g16:FX K "places" qfR)
  (g17:FX K "place_pairs" Yi)
  (g18:FX K "line_key" qb9)
  {tf:Addr}{td:FuncData}(g19:FIn K "lines_in_order" jE tf td)
  (g20:FX K "joining_lines" Jt)
  (g21:FX K "all_lines" Zk)
  (g22:FX K "find_place" YQ)
  (g23:FX K "shrunk" qc9)
  (g24:FX K "stepped" qbj)
  (g25:FX K "grown" qjU)
  (g26:FX K "lines_without" Js)
  (g27:MX K C "__init__" "Keeper.__init__" JZ)
  (g28:MX K C "heap" "Keeper.heap" ZJ)
  (g29:MX K C "lines" "Keeper.lines" Y7)
  (g30:MX K C "put" "Keeper.put" qaj)
  (g31:MX K C "come" "Keeper.come" ZK)
  (g32:MX K C "go" "Keeper.go" Zo)
  (g33:MX K C "step" "Keeper.step" Ym)
  (g34:FX K "is_whole" qcb)
  (g35:FX K "are_whole" Zj)
  (g36:FX K "has_few_figures" JY)
  (g37:FX K "is_point" qcc)
  (g38:FX K "is_lead" qd5)
  (g39:FX K "is_line" qd4)
  (g40:FX K "write_heap" YN)
  (g41:FX K "write_line" qaa)
  (g42:FX K "split_text" qac)
  (g43:FX K "read_number" ZF)
  (g44:FX K "read_numbers" JK)
  (g45:FX K "read_point" qad)
  (g46:FX K "read_line" qaY)
  (g47:FX K "read_heap" Zh)
  (g48:FX K "row_words" qaX)
  (g49:FX K "is_name" qbm)
  (g50:FX K "check_names" ZH)
  (g51:FX K "check_standing" Yk)
  (g52:FX K "halving" qd6)
  (g53:FX K "heap_row" qae)
  (g54:FX K "add_row" qd9)
  (g55:FX K "show_row" qb7)
  (g56:FX K "line_row" qb8)
  (g57:FX K "all_row" qbq)
  (g58:FX K "count_row" qa0)
  (g59:FX K "drop_row" qag)
  (g60:FX K "step_row" qab)
  (g61:MX K D "__init__" "Desk.__init__" YI)
  (g62:MX K D "say" "Desk.say" qak)
  (g63:FX K "_law_kept" Zm)
  (g64:FX K "_law_said" Zl)
  (g65:FX K "_law_row" qce)
  (g66:FX K "_law_told" qa1)
  (g67:FX K "_law_alike" jN)
    {kV:Value}(a:W.nsIn K mainGlobals "law" = some (some (.ref f))) (lk:K.lookup f=some ⟨oc,od,.func (W.fnOf "law" "law" (jQ qh1) (yP qh1) (qR qh1) .none kV dc pm an cd ct),sl⟩) (c:W.codeIn K cd "law" = true) (k:W.keepIn K (.ref f)=true)
  (z0:N0 K "len") (z1:N0 K "range") (z2:N0 K "max") (z3:N0 K "min") (z4:N0 K "abs") (z5:N0 K "int") (z6:N0 K "isinstance") (z7:N0 K "tuple") (z8:N0 K "bool") (z9:N0 K "list") (z10:N0 K "all") (z11:N0 K "any") (z12:N0 K "set") (z13:N0 K "sorted") (z14:N0 K "str") (z15:N0 K "enumerate") (z16:N0 K "zip") (z17:N0 K "divmod")
  (hcd_:td.code=Value.ref 192) (ch_:W.codeHdIn K 192 190=true)
  : ∃ fd:FuncData,(∀ (s:Shared) (v:Value),BindsTo s fd ⟨[v],[]⟩ [("_law_script",v)])/\∀ base:Heap,K.In base->base.Ns mainGlobals mg->qaU base mg->FnOk l.prog w K mg base (XC l.prog w) 12 fa fd ["_law_script"] (qd3 K 190):=by
 have e:=hfa.symm.trans (W.mg_of X Ga a);cases e
 have zz:∀ {x:Str},N0 K x->mg x=none:=fun z=>W.mg_none_of X Ga z.e;have T:Txt mg:=by constructor <;> exact zz (by assumption)
 refine⟨W.fnOf "law" "law" (jQ qh1) (yP qh1) (qR qh1) .none kV dc pm an cd ct,fun s v=>.of_eq rfl,fun base Kb Gb hB=>?_⟩;have Z:Zs l.prog w K mg base:=⟨fun n=>W.mg_of X Ga n.e⟩;have Ob:TxtK K C:=⟨cC.c,nC0,nC1⟩;have TDesk:TxtDesk K D:=⟨cD.c,nD0⟩;have TC:TxtC K mg CN:=⟨Z.o aN,q1,m2⟩;have TG:TxtG mg AF AD:=⟨Z.o aF,Z.o aD⟩;have OV:=yl Z g0 (qlO · T);have OU:=yl Z g1 (qiO · T jU OV);have Od:=yl Z g2 (qlN · T);have Ma:=yl Z g3 (qov · T jU Od);have Ot:=yl Z g4 (qgw · jU Od Ma);have Os:=yl Z g5 (qiR · T jU Od Ot);have OR:=yl Z g6 (qlM · T jU Od Os);have Om:=yl Z g7 (ok_cd · T);have Mt:=yl Z g8 (qlH · jU Om);have OM:=yl Z g9 (qeZ · jU Mt);have Mv:=yl Z g10 qlC;have Mw:=yl Z g11 (qlD · jU Mv);have ON:=yl Z g12 qon;have OI:=yl Z g13 ok_ev;have Ml:=yl Z g14 (qgB · jU ON Mw);have OK:=yl Z g15 (qgA · jU OI Ml);have Mm:=yl Z g16 (qgv · T);have Ou:=yl Z g17 (ok_pp · T jU Mm);have Mb:=yl Z g18 qlG;have OG:=qkb Z g19 (qop g19.F hcd_ hB (W.codeHd_of_K Kb ch_) T jU Mb);have OJ:=yl Z g20 (qlL · T jU Ou OM OG);have Ol:=yl Z g21 (qow · T jU OJ OK);have Oi:=yl Z g22 (fun F=>(qot F).or (qos F TC));have Oz:=yl Z g23 (fun F=>(qlF F jU Oi.l).or (qlE F Oi));have Op:=yl Z g24 (fun F=>(qlB F jU Oi.l).or (qlA F Oi));have Mc:=yl Z g25 qor;have OB:=yl Z g26 (ok_lw · T);have CKeeper:=yQ.mk_ Z cC (JO Z Ob.cl g27 (qiS · Ob T jU Ol));have Oj:=JO Z Ob.cl g28 (qiT · Ob T);have OL:=JO Z Ob.cl g29 (qgz · Ob T);have Of:=JO Z Ob.cl g30 (qlI · Ob jU Ol OB);have OP:=JO Z Ob.cl g31 (qiW · Ob jU Of Mc);have OE:=JO Z Ob.cl g32 (fun F=>(qlK F Ob jU Of Oz).or (qlJ F Ob Of Oz));have Ox:=JO Z Ob.cl g33 (fun F=>(qgy F Ob jU Of Op).or (qgx F Ob Of Op));have Md:=yl Z g34 (qdn · T);have OC:=yl Z g35 (qcr · T jU Md);have Ov:=yl Z g36 (qou · T);have Me:=yl Z g37 (qdo · T jU OC Ov);have Mg:=yl Z g38 (qe2 · jU Om);have Mh:=yl Z g39 (qe1 · T jU OC Mg);have Og:=yl Z g40 qbx;have Oo:=yl Z g41 qbw;have OA:=yl Z g42 (qby · T);have OO:=yl Z g43 (qaQ · T);have Oq:=yl Z g44 (qap · T jU OA OO);have Oe:=yl Z g45 (qbz · T jU Oq Me);have OQ:=yl Z g46 (qcm · T jU Oq Mh);have OX:=yl Z g47 (qcn · T jU OA Oe);have OD:=yl Z g48 (qcl · T TG);have Mi:=yl Z g49 (qe0 · T);have Ow:=yl Z g50 (qaR · jU Mi);have On:=yl Z g51 Zt;have Mj:=yl Z g52 (qe3 · T jU Ou OM OK);have Mo:=yl Z g53 (qdp · jU Oe);have Mx:=yl Z g54 (qe5 · jU Oe Mc);have Mp:=yl Z g55 (qdl · jU Og);have Mq:=yl Z g56 (qdm · T jU Mj Oo);have My:=yl Z g57 (qe4 · jU Ol Oo);have Mn:=yl Z g58 (qcq · T jU Ol);have Mr:=yl Z g59 (fun F=>(qcp F jU Oe Oz).or (qco F jU Oe Oz));have Ms:=yl Z g60 (fun F=>(qck F jU Oe Op).or (qcj F jU Oe Op));have CDesk:=yQ.mk_ Z cD (JO Z TDesk.cl g61 (qiZ · TDesk));have Oh:=JO Z TDesk.cl g62 (fun F=>(qiY F T TG TDesk jU OD Ow On).or (qiX (CN:=CN) F T TG TDesk jU OD Ow On));have OY:=yl Z g63 (fun F=>(qiV F TC jU OP OE Ox).or (qiU F TC jU OE Ox));have OZ:=yl Z g64 (fun F=>(qiQ F jU Oh).or (qiP F TC jU Oh));have Mf:=yl Z g65 (qoo · jU Og);have OT:=yl Z g66 (qlz · jU Og);have TR:Dks l.prog w K mg base CN AF AD 190:=⟨ZL Z r0 Mo,ZL Z r1 Mx,ZL Z r2 Mr,ZL Z r3 Ms,ZL Z r4 Mp,ZL Z r5 Mq,ZL Z r6 My,ZL Z r7 Mn,w0,w1,w2,w3,w4,w5,w6,w7⟩;have OF:=yl Z g67 (qi0 · T jU TR Oh Oj OL Og OX Oo OQ);exact (qoq (qhg (st:=qh1) lk c k) T jU TR OU OR Od Os CKeeper CDesk Oh Oj OT Mf OF OY OZ).imp fun _ _ _ _ h=>ql1 h
theorem walk {l:W.OpenLaw}{q:Program}{d:DefRec}{K:Params->W.Frag}(hn:l.most=some 63) (hdf:d.params.defaults=[])
  (hY:∀ (w:World) (h:Heap),YP w h->(K w.params).In h)
  (hYt:∀ (w:World) (h:Heap),YP w h->h.get? 190=some (W.tabObj #[])) (hKt:∀ w:World,(K w.params).lookup 190=none) (hCt:∀ w:World,W.codeHdIn (K w.params) 192 190=true)
  (F:∀ (w:World) (mg:Str->Option Value) (fa:Addr) (h:Heap),(K w.params).In h->h.Ns mainGlobals mg->mg d.name=some (.ref fa) →
   ∃ fd:FuncData,(∀ (s:Shared) (u:Value),BindsTo s fd ⟨[u],[]⟩ [("_law_script",u)])/\∀ base:Heap,(K w.params).In base->base.Ns mainGlobals mg->qaU base mg->FnOk l.prog w (K w.params) mg base (XC l.prog w) 12 fa fd ["_law_script"] (qd3 (K w.params) 190)) :
  W.WalkO q loose XP YP l.row.toRowW d [] (fun f vs=>PySem.call f vs) :=
 L2.walk_ofT (n:=63) (k:=12) (x := "_law_script") (CX:=fun w=>(XC l.prog w)) (sp:=fun w=>qd3 (K w.params) 190) 190 192 hn 'd' hdf ⟨rfl,'d','d'⟩ hY hYt hKt hCt F (fun _ _ a ns hl ht hS=>⟨a,ns,rfl,hS,ht,hl,fun _=>rfl⟩) fun _ _ _ _ _ z=>jU _ _ _ _ _ z
end K98
end
structure PySem.W.Fast:Prop where
 (tw10948800072149456314 tw7231089770304092720 tw18314239561086085924 tw12735499331968743595 tw9771518932111871697 tw9982913465598310845 tw1965949804990363861 tw465115147026083228 tw8168984840087719951 tw13418562082903103683 tw7369395282925406956 tw12464609201398048475 tw8294496570607312135 tw11956619778554679887 tw16987653995551373795 tw449846644210686195 tw4859755790818459284 tw9129451198520406624 tw8076898019741414998 tw6031529914621617481 tw5640476400111374317 tw736304790200324083 tw15395341659616013758 tw15369002593959235705 tw7026260704459842854 tw10320277901010714126 tw6045693462677810538 tw10689140169488378481 tw3423717909349370347 tw13881227394865213791 tw8862617544311899045 tw10190937752667152735 tw9709589568866343100 tw11323790033867490937 tw3314205921888541786 tw12644106712539329032 tw1694217177248216516 tw18374970821725820671 tw15426742680681573866 tw14481657638508914210 tw12478721282792176010 tw4204669670914162185 tw3820710679078653907 tw18279815266750795805 tw17439232017605419402 tw2223253986345250508 tw9787876455479218661 tw17717637254755222046 tw17152124519618896297 tw5331605947295006820 tw16691190289749510194 tw11745426362748304537 tw14887251649767804984 tw9495125395386348633 tw8282742148370364761 tw1692797925632077194 tw3591024984347007400 tw594870204675338855 tw664088819548670455 tw18069976475928228749 tw4776005618297626 tw12936814043551895206 tw8807988169659146796 tw22390490560165714 tw3883037544758020935 tw6316291494399390685 tw17308807906691913563 tw5915719801129928261 tw13984343630909945869 tw3998133725223580377 tw13236387080832951301 tw7354165781800954468 tw1574628458627237563 tw9335479207372074533 tw3525253200739203565 tw17182512850275402238 tw14369332132536737518 tw8243776347055227573 tw10013154633378617678 tw9232578704237267781 tw11070569218927613390 tw7135045411141213486 tw1575113886546037726 tw13799319444541063363 tw11266942321608520075 tw8007534436595588227 tw1187210404455524436 tw8586512210755236019 tw17607256345663625106 tw2516703997638417195 tw2725931788079881223 tw9929660198401113100 tw9791101248003810380 tw1634668293383356869 tw10987806888312637474 tw14833385991610733691 tw11848786213947357584 tw2992104748647444447 tw15114086537181338910 tw1849015873139683264 tw13020481815406609515 tw18095097342128869308 tw5187884017527323559 tw13423620912661695539 tw326383215692106013 tw12310197919099855824 tw3049710830146923068 tw2027206773921704234 tw5373518628644912834 tw2413299285627806359 tw11024294008197177973 tw9179169470119696977 tw16961646567132610377 tw3030561590579894595 tw8699689648698373052 tw9817469902729739556 tw13680992266191537814 tw10583893300577401795 tw7906160956763175709 tw1522724923255494771 tw1478274802880340441 tw13443435928534095505 tw4169112476817256817 tw182938255856882334 tw15157949999040098061 tw16266338632794159149 tw7274088235577198721 tw17369169398451976372 tw15038697545565436218 tw5542053917905078786 tw10686325386009662189 tw10417489192743857674 tw17028270074903867634 tw9982065903002030565 tw16026796227004212424 tw16858204218218692810 tw10281848427613992472 tw110017835699128011 tw122128077928163382 tw3584636995290160817 tw2573554098706065094 tw3491263578366656096 tw14708902797920831394 tw8821646361113163768 tw2483323275158689306 tw9969790543218885849 tw13007398532259620835 tw12327682626331988796 tw16627716081230390245 tw11064827495164537543 tw8605214844944663696 tw13846012660048306971 tw9456442266376691164 tw17977931316776457408 tw10992815958480064720 tw17237656385347335307 tw14124443071244271328 tw3143360812672185124 tw17158112919494644772 tw3443106205123203876 tw7096120578322172278 tw15610895035457079787 tw14398142894970581883 tw7996204290668780469 tw14226168289719887598 tw3950047125148729545 tw6273816393407385789 tw14828597453069753391 tw5082707383030056571 tw13780594347173058623 tw11267642135610845209 tw13379903755036390873 tw17452458762176060277 tw9877788960734974365 tw9734940343366168244 tw15003649156770375790 tw7025523264598805058 tw17109710023880456641 tw14893307949213790452 tw10651040874163051056 tw13066986274066767533 tw13088415345944877569 tw14060430059999968256 tw1418304645796955140 tw5393708586720927512 tw7134054731806319252 tw452442004627540166 tw1308026584025583854 tw196337844170707440 tw4937209913551464585 tw5111776453403620805 tw13917432697134532467 tw11092529967473101120 tw2945492162359434860 tw6674625408984329644 tw14424916609244693939 tw10697012014275443712 tw12884491077554033725 tw15570472466424185134 tw8084869956134994611 tw238715774713548174 tw10968349209049847105 tw704379636065741845 tw16163328947442347313 tw9521123182129038840 tw1390003583118402144 tw14649376151837203061 tw2422722460954551404 tw1427874871741391305 tw9887039872845969667 tw15946302969695082725 tw1051355671195376421 tw6709962335712172225 tw10161334162269886553 tw12352752296125205456 tw16091422870640816193 tw4240187374184416144 tw12428302976229200803 tw4236580149861107993 tw2861777639197283078 tw13732623834969250857 tw12856181600443121745 tw8457974697261461680 tw11952343576281274319 tw18401849472924051893 tw11416383586840909463 tw8920851830093616512 tw11569060526140387459 tw3255624284735683967 tw2622436931537639476 tw1221935193224692020 tw11222302893187814900 tw16743664903313029711 tw7725159802921102272 tw2948108514691083389 tw4046849299470073242 tw11194969696793029650 tw9664503520263059145 tw2552682247785388622 tw6480913997993072077 tw6783162789177462789 tw15020187685550421078 tw4463197424043724869 tw1601992543893814172 tw12012517316605588990 tw12101793437734623760 tw8298879377327957189 tw6488718052271000256 tw10632418947106374745 tw10047979116095585086 tw13636307129526301799 tw13167710109293463581 tw9073386856065080258 tw16825136320956623336 tw15948179460446234858 tw6640114541796063202 tw5585753052945973154 tw9343724852992735815 tw4667763676144703681 tw5330541798368481906 tw15392371176528306531 tw11633289750630467412 tw10225915316104744619 tw5901104918878242896 tw16460494677448360286 tw226680296966897414 tw6181904244460760058 tw557852201788863889 tw1172822552384759122 tw13393277396916013299 tw4597126119739892504 tw13293032765822832793 tw8638511892966259371 tw11965504713358453603 tw5072007571759264018 tw4024882582871471758 tw11088217613963458071 tw9710354540314250696 tw17015778155610706399 tw1023384269721698371 tw14584054368441602112 tw5860788995185453990 tw2789190233645297174 tw11528549621579416247 tw10193084206658860527 tw2023525368957488362 tw17244318696670155682 tw5826977041222498722 tw5481110242615430198 tw1776541284931910814 tw13073222527431203103 tw15860762753117339577 tw12917784972172262385 tw50709400878510622 tw6558629695842233817 tw12085318794642965677 tw16214974425913492007 tw7832779638346288248 tw4609015807946070762 tw4559480193340692907 tw3955265474805945895 tw9723934730832685601 tw13705184688824011773 tw6150580028233874487 tw2189004659292407052 tw5109969463936681462 tw16474894891765293124 tw5213949869842279904 tw1081089949898278695 tw2264918219329750542 tw10640954947730094527 tw14000112374145948157 tw14189323210833366177 tw15928920456745808764 tw5462255604165981918 tw14697581488361344569 tw17806098885051102956 tw12449652732569393076 tw17015491982991563794 tw6178998002764415774 tw7779277907323651681 tw17273848793305324757 tw10140618148489199931 tw7956922065848246451 tw5566105249424219695 tw780346310336956901 tw17003346459575997192 tw9192678395467908680 tw5925887915670642475 tw846637824650126257 tw55691784075778525 tw470763139225883931 tw4434397493766204979 tw11252201405739266688 tw12475868272731659704 tw125953011466730428 tw1987940210586461372 tw7452831671864154636 tw3779801136078172220 tw15483967361506249371 tw5218741085804979077 tw4673803741354260822 tw735903817121343426 tw17776882979117102173 tw13271592349977863832 tw8135322654887183561 tw1346449526659627180 tw11334391538775556377 tw13418026731999863942 tw11253171285731558077 tw754763741702002573 tw13060283188934867105 tw3777526565819074160 tw11163788840036551636 tw11934630289875552848 tw2789261200693743808 tw8111464818561993136 tw4618712218598130395 tw9675606382583631599 tw18299806724962916400 tw13277744457935248378 tw11328655994612141741 tw5506264240440837304 tw14009788123396224682 tw9442507331207966367 tw11433917535856843671 tw12928991481464990951 tw16701727269933253087 tw17399206977669497854 tw9520050181883245715 tw3375926158366406711 tw1500654714583351990 tw6974731803082219140 tw5516170204393077026 tw8561650345116622309 tw6377677319159486884 tw8624716137184356559 tw15476253855413497558 tw13142876970981487861 tw11364509764645057022 tw821991981397448714 tw17326456499542921117 tw14424241111704033956 tw2129184010603808146 tw16305561145448660656 tw12714933942606202277 tw7453415364430151498 tw9554282928977264227 tw12754214039502999096 tw9391372856579589076 tw10738871500225435815 tw9151901663806475728 tw11223729623795143270 tw3947235922157233778 tw17974199489316914662 tw1196505667320776261 tw3629559515782180833 tw2831860896973276801 tw13243010732710693853 tw14154788071472688676 tw1663372445163820963 tw4055447582319475245 tw1510474939057826859 tw13699379815214914382 tw18403558825977505212 tw3490135288422793762 tw5493237913494756687 tw6296961301814953732 tw6266501000649675374 tw8882635204118018237 tw13484234411809261310 tw15077987987872632596 tw2993838545151746620 tw2324216651705491374 tw6576495996615961648 tw11149265375546710372 tw10083887502815737914 tw8886306838946209042 tw6986495225750766597 tw1380985220373391887 tw802122470468322472 tw426308950497846672 tw14389123526348558186 tw6095918907296208169 tw9749896019837511219 tw3477570382537687238 tw15109184719452017555 tw13299689165520018564 tw7239416548339044876 tw5614159370286423894 tw13195173541057979923 tw2890841866258959131 tw2817093472939516781 tw18047958791990522429 tw17690126616335280185 tw11014693018775908998 tw1131123458016438605 tw13033984685279222960 tw886847742986235593 tw14312553752338351665 tw16915117215949954033 tw12239803304653682189 tw4412141288903472793 tw5859746789884054644 tw15642968239252959499 tw14087889980964469699 tw5806447842019876027 tw15014488253011240367 tw10142421445472778768 tw5065978433993621192 tw14278253777264708708 tw12739402507548099257 tw11982863774299272685 tw343873952887288855 tw12773899731815862307 tw834779253696283759 tw6546433292365904579 tw14974680092446752110 tw9605158027506498014 tw18438706598974231224 tw12398374428661204662 tw6567399724255006479 tw3665645087902745122 tw15863901839645969415 tw15049718266951358376 tw12033673971792153524 tw6511052819253855424 tw3749828347594706706 tw9021626879726150093 tw13197574705677663408 tw6919718204455577738 tw16546350552485239768 tw8982208703724549984 tw13776834984086354442 tw7270265608406137024 tw16113271535823854795 tw2884601910989764806 tw16449940712493827391 tw5742261697988529580 tw17343559318959198626 tw734272983821934250 tw14688218911993323088 tw403531618662865574 tw99842488003946190 tw15345246824878043500 tw11793309977808329849 tw8387888381695895398 tw15982237149297183141 tw7472472576306033971 tw4187538627955657648 tw3393768319539272909 tw11978715339886327333 tw3551213663516531925 tw12928575365562901954 tw15274836890988019660 tw7614214002885658046 tw15855978872514766005 tw471826231096325991 tw12368418247244459238 tw3122378342909745292 tw12084387863309393510 tw11252794916017772422 tw15185707004637650336 tw1809232920229091636 tw10093574909171059315 tw5215581991100156155 tw1028174826473222725 tw15233821395346407551 tw11714584928437490843 tw2536308254209691420 tw11918014334007929682 tw14334138768532809656 tw17483556871899694391 tw1489297805761816852 tw13819119464325614875 tw9178150169155609331 tw3732484577791900288 tw14131695703352823225 tw9408161091569373597 tw3468447534402372443 tw3433667201126937016 tw2311297207907077872 tw7967886473970558560 tw15283969470811147470 tw15249063078430697820 tw13935362109960202248 tw9507094349621407898 tw3110075663077797432 tw277009302478008878 tw12512830670985222930 tw1793056874441815815 tw11810435782048843221 tw3771281024969541073 tw5156113004927439674 tw12459194105601457686 tw3617115889611512156 tw16970632165878956940 tw2740098653811597894 tw3060957895148800056 tw8209069954686770995 tw2539405016630143539 tw9249073853911516355 tw14642094243274039443 tw3403073355213270090 tw8097988199000902535 tw6439053602300971621 tw1413536643580771562 tw10829182638716541325 tw10691869636912468558 tw457377112265014792 tw4480276997401330033 tw4135230082252607290 tw10799740109162890912 tw6897913643537094387:True)
open PySem PySem.W PyProof.Rows
set_option maxRecDepth 100000 in
set_option maxHeartbeats 0 in
theorem PySem.Challenge.cw_halveline_k98_whole_keepers_through_desk_holds : PySem.Challenge.rw_halveline_k98_whole_keepers_through_desk.Holds := by
 w_on;o_law;k_head;(case hw=>w_witness2)
 k_fill
 refine K98.walk (l:=PySem.Challenge.rw_halveline_k98_whole_keepers_through_desk) rfl rfl (fun w h Ya=>W.km_in_of Ya) (fun w h Ya=>W.km_tabs_of Ya 190 (by simp)) (fun w=>by kernel_rfl) (fun w=>by kernel_rfl) ?F;case F =>
  intro w mg fa h KX Ga hmg;refine' K98.all_mk KX Ga hmg ..;all_goals first | refine' ⟨_,_,K98.fin_mk ?_ ?_ ?_ ?_⟩ | refine' ⟨_,_,K98.min_mk ?_ ?_ ?_ ?_ ?_⟩ | refine' K98.fin_mk ?_ ?_ ?_ ?_ | refine' K98.RX.mk ⟨?_⟩ ?_ | refine' K98.KX.mk ⟨?_⟩ ⟨?_,?_,?_,?_⟩ ?_ ?_ | refine' K98.N1.mk ?_ | refine' K98.N0.mk ?_ | skip
  all_goals try k_is
  all_goals first | kernel_rfl | k_exc | rfl
