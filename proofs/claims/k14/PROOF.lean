import PyProof.Rows.All
import Wide.All
import OpenK.AllK
import Wide.FinOn
import PyProof.EqAt
import PyProof.EqKinds
import PyProof.TupleCall
import KE.KSortTup
import PyProof.Rows.SortWalk
import PyProof.Rows.SetFrom
import PyProof.CollectIter
import PyProof.SeqI3
import KE.KIntText
import KE.IntTextLaws
import PyProof.Rows.CatFin
import PyProof.Rows.StrClip
import PySem.Challenge.RW_halveline_k14_texts_there_and_back
set_option Elab.async false
set_option linter.all false
set_option maxRecDepth 100000
noncomputable section
namespace L2
open PySem PySem.Spec PyProof.Rows
def Cal (Γ:PySem.Ctx):Prop:=(Γ.code :: Γ.below.map (·.1)).any Code.isCaller = true
def CalB (Γ:PySem.Ctx):Prop:=(Γ.below.map (·.1)).any Code.isCaller = true
theorem CalB.cal {Γ:PySem.Ctx} (h:CalB Γ):Cal Γ:=by
  unfold Cal; rw [List.any_cons,show (Γ.below.map (·.1)).any Code.isCaller = true from h,Bool.or_true]
theorem Cal.enter {Γ:PySem.Ctx} {c:Code} {h:Option Value} {p:Pos} (k:Cal Γ):CalB (Γ.enter c h p):=k
def wpC {α:Type} (M:Model) (A:Around) (t:Sem α) (Q:α → Shared → Prop) (E:Value → Shared → Prop) (s:Shared):Prop :=
  ∀ Γ p,Γ.In A → Cal Γ → Sem.wp M Γ t (fun a _ s'=>Q a s') (fun e _ s'=>E e s') p s
def codeC (M:Model) (A:Around) (c:Code) (R:Result → Shared → Prop) (s:Shared):Prop :=
  ∀ Γ p,Γ.code = c → Γ.Below A → CalB Γ → wpCode M Γ R p s
section
variable {α β:Type} {M:Model} {A:Around} {E E':Value → Shared → Prop} {s:Shared} {c:Code} {R R':Result → Shared → Prop}
theorem _root_.PySem.wpAny.cc {t:Sem α} {Q:α → Shared → Prop} (h:wpAny M A t Q E s):wpC M A t Q E s:=fun Γ p i _=>h Γ p i
theorem _root_.PySem.codeAny.cc (h:codeAny M A c R s):codeC M A c R s:=fun Γ p e i _=>h Γ p e i
theorem wpC_mono {t:Sem α} {Q Q':α → Shared → Prop} (h:wpC M A t Q E s) (hQ:∀ a s,Q a s → Q' a s) (hE:∀ e s,E e s → E' e s):wpC M A t Q' E' s :=
  fun Γ p i k=>Sem.wp_mono M Γ t (fun a _ s=>hQ a s) (fun e _ s=>hE e s) p s (h Γ p i k)
theorem wpC_pure {a:α} {Q:α → Shared → Prop} (h:Q a s):wpC M A (pure a) Q E s:=fun _ _ _ _=>h
theorem wpC_bind {m:Sem α} {f:α → Sem β} {Q:β → Shared → Prop} (h:wpC M A m (fun a s'=>wpC M A (f a) Q E s') E s):wpC M A (m >>= f) Q E s :=
  fun Γ p i k=>by
    rw [Sem.wp_bind']
    exact Sem.wp_mono M Γ m (fun a p' s' x=>x Γ p' i k) (fun _ _ _ x=>x) p s (h Γ p i k)
theorem wpC_first {m:Sem α} {f:α → Sem β} {Q:β → Shared → Prop} (h:wpAny M A m (fun a s'=>wpC M A (f a) Q E s') E s):wpC M A (m >>= f) Q E s:=wpC_bind h.cc
theorem wpC_onRaise {m:Sem α} {k:Value → Sem Unit} {Q:α → Shared → Prop} (h:wpC M A m Q (fun e s'=>wpC M A (k e) (fun _ s''=>E e s'') E s') s):wpC M A (m.onRaise k) Q E s :=
  fun Γ p i z=>by
    rw [Sem.wp_onRaise]
    exact Sem.wp_mono M Γ m (fun _ _ _ x=>x) (fun e p' s' x=>x Γ p' i z) p s (h Γ p i z)
theorem wpC_attempt {m:Sem α} {Q:Except Value α → Shared → Prop} (h:wpC M A m (fun a=>Q (.ok a)) (fun e=>Q (.error e)) s):wpC M A m.attempt Q E s :=
  fun Γ p i k=>by rw [Sem.wp_attempt]; exact h Γ p i k
theorem wpC_holding {vs:List Value} {m:Sem α} {Q:α → Shared → Prop} (h:wpC M A m Q E s):wpC M A (holding vs m) Q E s :=
  fun Γ p i k=>by rw [Sem.wp_holding]; exact h Γ p i k
theorem wpC_operate {vs:List Value} {m:Sem Value} {Q:Value → Shared → Prop} (h:wpC M A m Q E s):wpC M A (operate vs m) Q E s :=
  fun Γ p i k=>by rw [Sem.wp_operate]; exact h Γ p i k
theorem wpC_at {pos:Pos} {f:Unit → Sem β} {Q:β → Shared → Prop} (h:wpC M A (f ()) Q E s):wpC M A (standAt pos >>= f) Q E s:=wpC_first (wpAny_standAt h)
theorem wpC_standAt {pos:Pos} {Q:Unit → Shared → Prop} (h:Q () s):wpC M A (standAt pos) Q E s:=(wpAny_standAt h).cc
theorem wpC_rule {tag:String} {Q:Unit → Shared → Prop} (h:Q () s):wpC M A (rule tag) Q E s:=(wpAny_rule h).cc
theorem wpC_of_eq {t:Sem α} {a:α} {Q:α → Shared → Prop} (e:t = pure a) (h:Q a s):wpC M A t Q E s:=by rw [e]; exact wpC_pure h
theorem wpC_ite_true {c:Prop} [Decidable c] {a b:Sem α} {Q:α → Shared → Prop} (hc:c) (h:wpC M A a Q E s):wpC M A (if c then a else b) Q E s:=by rw [if_pos hc]; exact h
theorem wpC_ite_false {c:Prop} [Decidable c] {a b:Sem α} {Q:α → Shared → Prop} (hc:¬ c) (h:wpC M A b Q E s):wpC M A (if c then a else b) Q E s:=by rw [if_neg hc]; exact h
theorem wpC_then {m:Sem α} {f:α → Sem β} {Q:β → Shared → Prop} {P:α → Shared → Prop} (h:wpC M A m P E s) (k:∀ a s',P a s' → wpC M A (f a) Q E s'):wpC M A (m >>= f) Q E s :=
  wpC_bind (wpC_mono h k fun _ _ x=>x)
theorem codeC_mono (h:codeC M A c R s) (hR:∀ r s,R r s → R' r s):codeC M A c R' s:=fun Γ p e i k=>wpCode_mono hR (h Γ p e i k)
theorem wpC_run {h:Option Value} {Q:Flow → Shared → Prop} (hc:codeC M (A.mark h) c (fun r s'=>match r with | .ok f=>Q f s' | .error e=>E e s') s) (hnb:h ≠ some byPass:=by intro x; cases x):wpC M A (run c h) Q E s :=
  fun Γ p i k=>by rw [Sem.wp_run]; exact hc _ p rfl (i.enter c h p hnb) k.enter
theorem wpC_runValue {Q:Value → Shared → Prop} (hc:codeC M A c (fun r s'=>match r with | .ok (.ret v)=>Q v s' | .ok _=>False | .error e=>E e s') s):wpC M A (runValue c) Q E s :=
  fun Γ p i k=>by rw [Sem.wp_runValue]; exact hc _ p rfl (i.enter c none p (by intro x; cases x)) k.enter
theorem wpC_call {f:Value} {pos:List Value} {kw:List (Str × Value)} {Q:Value → Shared → Prop} (hc:codeC M A (.call f ⟨pos,kw⟩) (fun r s'=>match r with | .ok (.ret v)=>Q v s' | .ok _=>False | .error e=>E e s') s):wpC M A (call f pos kw) Q E s:=wpC_runValue hc
theorem codeC_of_tree (h:wpC M (A.under c) (M.den c) (fun fin s'=>match fin with | .done f=>R (.ok f) s' | .again c'=>c'.quiet = true ∧ codeC M A c' R s') (fun e s'=>R (.error e) s') s):codeC M A c R s:=fun Γ p e i k=>by
  rw [wpCode_iff_wp,e]
  refine Sem.wp_mono M Γ _ (fun fin p' s' x=>?_) (fun _ _ _ x=>x) p s (h Γ p (e ▸ i.in) k.cal)
  cases fin with
  | done f=>exact x
  | again c'=>exact ⟨x.1,x.2 (Γ.goto c') p' rfl (i.goto c') k⟩
theorem codeC_turns (hq:c.quiet = true) (I:Nat → Shared → Prop)
    (turn:∀ n s,I n s → wpC M (A.under c) (M.den c) (fun fin s'=>match fin with | .done f=>R (.ok f) s' | .again c'=>(c' = c ∧ ∃ m,m < n ∧ I m s') ∨ (c'.quiet = true ∧ codeC M A c' R s')) (fun e s'=>R (.error e) s') s)
    (n:Nat) (h:I n s):codeC M A c R s:=by
  induction n using Nat.strongRecOn generalizing s with
  | ind n ih =>
    refine codeC_of_tree (wpC_mono (turn n s h) (fun fin s' hf=>?_) fun _ _ x=>x)
    cases fin with
    | done f=>exact hf
    | again c' =>
      rcases hf with ⟨rfl,m,hm,hI⟩ | z
      · exact ⟨hq,ih m hm hI⟩
      · exact z
theorem codeC_loop (hq:c.quiet = true) (I:Nat → Shared → Prop)
    (turn:∀ n s,I n s → wpC M (A.under c) (M.den c) (fun fin s'=>match fin with | .done f=>R (.ok f) s' | .again c'=>c' = c ∧ ∃ m,m < n ∧ I m s') (fun e s'=>R (.error e) s') s)
    (n:Nat) (h:I n s):codeC M A c R s :=
  codeC_turns hq I (fun n s hI=>wpC_mono (turn n s hI) (fun fin s' hf=>by cases fin with | done f=>exact hf | again c'=>exact .inl hf) fun _ _ x=>x) n h
variable {env:Env}
theorem wpC_noted {m:Sem α} {Q:α → Shared → Prop} (h:wpC M A m Q (notedBy M A env E) s):wpC M A (m.onRaise fun x=>do noteFrame x env; theTreesLotGoes x) Q E s :=
  wpC_onRaise (wpC_mono h (fun _ _ q=>q) fun e s' hx=>PySem.wpAny.cc (wpAny_bind (wpAny_mono hx (fun _ _ z=>wpAny_theTreesLotGoes z) fun _ _ z=>z)))
theorem wpC_notedAt {m:Sem α} {pos:Pos} {Q:α → Shared → Prop} (h:wpC M A m Q (notedBy M A env E) s):wpC M A (m.onRaise fun x=>do noteFrame x env; standAt pos) Q E s :=
  wpC_onRaise (wpC_mono h (fun _ _ q=>q) fun e s' hx=>PySem.wpAny.cc (wpAny_bind (wpAny_mono hx (fun _ _ z=>wpAny_standAt z) fun _ _ z=>z)))
theorem wpC_passesOwn {t:Sem α} {Q:α → Shared → Prop} (hE:PassesOwn M A env E) (h:wpC M A t Q E s):wpC M A t Q (notedBy M A env (cameBackBy M A env E)) s:=wpC_mono h (fun _ _ x=>x) hE
theorem wpC_runOwn {h:Option Value} {Q:Flow → Shared → Prop} (hc:codeC M (A.mark h) c (fun r s'=>match r with | .ok f=>Q f s' | .error e=>cameBackBy M A env E e s') s) (hnb:h ≠ some byPass:=by intro x; cases x):wpC M A (runOwn c env h) Q E s:=by
  unfold runOwn
  exact wpC_onRaise (wpC_run (codeC_mono hc fun r s' x=>by cases r with | ok f=>exact x | error e=>exact PySem.wpAny.cc x) hnb)
end
end L2
namespace L2
open PySem PySem.Spec PyProof.Rows
section
variable {α:Type} {M:Model} {A:Around} {E:Value → Shared → Prop} {s:Shared} {env:Env} {pos pos' apos:Pos} {e e₁ e₂ l r test value slice body orelse func:Expr} {es rest args:List Expr} {op:CmpOp} {bop:Operator}
  {x:Str} {v a:Value} {Q:Value → Shared → Prop} {QB:Bool → Shared → Prop} {QU:Unit → Shared → Prop} {QF:Flow → Shared → Prop} {QL:List Value → Shared → Prop} {whole:Sem Value}
theorem wpC_bindName (h:wpC M A (storeName env x v) QU E s):wpC M A (bindName env x v) QU E s:=fun Γ p i k=>by rw [Sem.wp_bindName]; exact h Γ p i k
theorem wpC_assign_Name (h:wpC M A (storeName env x v) QU E s):wpC M A (assign (.Name x pos) env v) QU E s:=by rw [PySem.assign_Name]; exact wpC_at (wpC_bindName h)
theorem wpC_execs_cons {st:Stmt} {more:List Stmt} (h:wpC M A (exec st env) (fun f s'=>match f with | .next=>wpC M A (execs more env) QF E s' | f=>QF f s') E s):wpC M A (execs (st :: more) env) QF E s:=by
  rw [execs_cons]
  refine wpC_then h fun f s' x=>?_
  cases f <;> first | exact x | exact wpC_pure x
theorem wpC_Assign_Name (h:wpC M A (eval value env) (fun v s₁=>wpC M A (storeName env x v) (fun _=>QF .next) E s₁) E s) (hs:swapsWith value (some (.Name x pos')) pos.line env = pure false:=by rfl) :
    wpC M A (exec (.Assign [.Name x pos'] value pos) env) QF E s:=by
  rw [exec_Assign_Name env x pos' value pos hs]
  exact wpC_at (wpC_then h fun v s₁ x₁=>wpC_at (wpC_then (wpC_bindName x₁) fun _ _ z=>wpC_pure z))
theorem wpC_Assign_stores {targets:List Expr} (h:wpC M A (eval value env) (fun v s₁=>wpC M A (assignAll v ((assignEach targets env).map (·.2))) (fun _=>QF .next) E s₁) E s)
    (hs:swapsWithSole targets value pos.line env = pure false) (hw:swappedStores targets value env = pure none):wpC M A (exec (.Assign targets value pos) env) QF E s:=by
  rw [exec_Assign_arm,hs]
  refine wpC_at (wpC_bind (wpC_pure ?_))
  rw [if_neg Bool.false_ne_true]
  refine wpC_then h fun v s₁ z=>?_
  rw [hw]
  exact wpC_bind (wpC_pure (show wpC M A (assignAll v ((assignEach targets env).map (·.2)) >>= fun _=>pure Flow.next) QF E s₁ from wpC_then z fun _ _ y=>wpC_pure y))
theorem assignInOrder_cons {t:Value → Sem Unit} {ts:List (Value → Sem Unit)} {y:Value} {ys:List Value} (h:wpC M A (t y) (fun _ s₁=>wpC M A (assignInOrder ts ys) QU E s₁) E s):wpC M A (assignInOrder (t :: ts) (y :: ys)) QU E s :=
  show wpC M A (holding ys (t y) >>= fun _=>assignInOrder ts ys) QU E s from wpC_bind (wpC_holding h)
theorem wpC_If {b₁ b₂:List Stmt} (h:wpC M A (isTrue test env (eval test env)) (fun b s₂=>if b then wpC M A (execs b₁ env) QF E s₂ else wpC M A (execs b₂ env) QF E s₂) E s):wpC M A (exec (.If test b₁ b₂ pos) env) QF E s:=by
  rw [exec_If]
  exact wpC_at (wpC_then h fun b s₂ x=>by cases b <;> exact x)
theorem wpC_IfExp (h:wpC M A (isTrue test env (eval test env)) (fun b s₁=>if b then wpC M A (eval body env) Q E s₁ else wpC M A (eval orelse env) Q E s₁) E s):wpC M A (eval (.IfExp test body orelse pos) env) Q E s:=by
  rw [arm_eval_IfExp]
  exact wpC_then h fun b s₂ x=>by cases b <;> exact x
theorem wpC_Return_some (h:wpC M A (eval e env) (fun v=>QF (.ret v)) E s):wpC M A (exec (.Return (some e) pos) env) QF E s:=by
  rw [exec_Return_some]
  exact wpC_at (wpC_then h fun _ _ z=>wpC_pure z)
theorem wpC_Expr_any {prog:Program} {w:World} (h:wpC (model prog w) A (eval e env) (fun _=>QF .next) E s) (hi:interactive env = false:=by rfl) (hs:swapsWith e none pos.line env = pure false:=by rfl):wpC (model prog w) A (exec (.Expr e pos) env) QF E s:=by
  rw [exec_Expr env e pos hi hs]
  exact wpC_at (wpC_then h fun v s' z=>(wpAny_dropValue z).cc)
theorem wpC_BinOp (h:wpC M A (eval l env) (fun a s₁=>wpC M A (eval r env) (fun b s₂=>wpC M A (binaryOp bop a b) Q E s₂) E s₁) E s):wpC M A (eval (.BinOp l bop r pos) env) Q E s:=by
  rw [eval_BinOp]
  exact wpC_then h fun a s₁ x₁=>wpC_then (wpC_holding x₁) fun b s₂ x₂=>wpC_at (wpC_operate x₂)
theorem wpC_Compare1 (h:wpC M A (eval l env) (fun a s₁=>wpC M A (eval r env) (fun b s₂=>wpC M A (compareOp op a b) Q E s₂) E s₁) E s) (hm:behindInMarks op r = false:=by with_unfolding_all rfl):wpC M A (eval (.Compare l [op] [r] pos) env) Q E s:=by
  rw [eval_Compare1,markedBehindIn_of_false hm]
  exact wpC_then h fun a s₁ x₁=>wpC_then (wpC_holding x₁) fun b s₂ x₂=>wpC_at (wpC_operate x₂)
theorem wpC_isTrue_Compare1 (h:wpC M A (eval l env) (fun a s₁=>wpC M A (eval r env) (fun b s₂=>wpC M A (compareOp op a b) (fun c s₃=>wpC M A (truthy c) QB E s₃) E s₂) E s₁) E s) (hm:behindInMarks op r = false:=by with_unfolding_all rfl) :
    wpC M A (isTrue (.Compare l [op] [r] pos) env whole) QB E s:=by
  rw [isTrue_Compare1,markedBehindIn_of_false hm]
  exact wpC_then h fun a s₁ x₁=>wpC_then (wpC_holding x₁) fun b s₂ x₂=>wpC_at (wpC_then (wpC_operate x₂) fun c s₃ x₃=>wpC_holding x₃)
variable {op₁ op₂:CmpOp} {ops:List CmpOp} {r₁ r₂:Expr} {rs:List Expr} {t₁ t₂:Sem Value} {ts:List (Sem Value)}
theorem isTrue_plain (h:wpC M A whole (fun v s₁=>wpC M A (truthy v) QB E s₁) E s) (he:isTrue e env whole = (do let v ← whole; standAt e.pos; holding [v] (truthy v)):=by rfl):wpC M A (isTrue e env whole) QB E s:=by
  rw [he]
  exact wpC_then h fun v s₁ z=>wpC_at (wpC_holding z)
theorem isTrue_not (h:wpC M A (isTrue e env (eval e env)) (fun c s'=>QB (!c) s') E s):wpC M A (isTrue (.UnaryOp .Not e pos) env whole) QB E s :=
  show wpC M A (isTrue e env (eval e env) >>= fun c=>pure (!c)) QB E s from wpC_then h fun _ _ z=>wpC_pure z
theorem isTrue_and (h:wpC M A (isTrue e env (eval e env)) (fun c s'=>if c then wpC M A (isTrue (.BoolOp .And rest pos) env whole) QB E s' else QB false s') E s):wpC M A (isTrue (.BoolOp .And (e :: rest) pos) env whole) QB E s:=by
  show wpC M A (isTrue e env (eval e env) >>= fun c=>match BoolOp.And,c with | .And,false=>pure false | .Or,true=>pure true | _,_=>allTrue .And rest env) QB E s
  refine wpC_then h fun c s' z=>?_
  cases c
  · exact wpC_pure z
  · exact z
theorem isTrue_or (h:wpC M A (isTrue e env (eval e env)) (fun c s'=>if c then QB true s' else wpC M A (isTrue (.BoolOp .Or rest pos) env whole) QB E s') E s):wpC M A (isTrue (.BoolOp .Or (e :: rest) pos) env whole) QB E s:=by
  show wpC M A (isTrue e env (eval e env) >>= fun c=>match BoolOp.Or,c with | .And,false=>pure false | .Or,true=>pure true | _,_=>allTrue .Or rest env) QB E s
  refine wpC_then h fun c s' z=>?_
  cases c
  · exact z
  · exact wpC_pure z
theorem BoolOp_one {o:BoolOp} (h:wpC M A (eval e env) Q E s):wpC M A (eval (.BoolOp o [e] pos) env) Q E s:=h
theorem BoolOp_and (h:wpC M A (eval e₁ env) (fun v s₁=>wpC M A (truthy v) (fun c s₂=>if c then wpC M A (eval (.BoolOp .And (e₂ :: rest) pos) env) Q E s₂ else Q v s₂) E s₁) E s):wpC M A (eval (.BoolOp .And (e₁ :: e₂ :: rest) pos) env) Q E s:=by
  show wpC M A (eval e₁ env >>= fun v=>standAt pos >>= fun _=>holding [v] (truthy v) >>= fun c=>match BoolOp.And,c with | .And,false | .Or,true=>pure v | _,_=>boolOp pos .And (eval e₂ env :: evalEach rest env)) Q E s
  refine wpC_then h fun v s₁ z=>wpC_at (wpC_then (wpC_holding z) fun c s₂ y=>?_)
  cases c
  · exact wpC_pure y
  · exact y
theorem BoolOp_or (h:wpC M A (eval e₁ env) (fun v s₁=>wpC M A (truthy v) (fun c s₂=>if c then Q v s₂ else wpC M A (eval (.BoolOp .Or (e₂ :: rest) pos) env) Q E s₂) E s₁) E s):wpC M A (eval (.BoolOp .Or (e₁ :: e₂ :: rest) pos) env) Q E s:=by
  show wpC M A (eval e₁ env >>= fun v=>standAt pos >>= fun _=>holding [v] (truthy v) >>= fun c=>match BoolOp.Or,c with | .And,false | .Or,true=>pure v | _,_=>boolOp pos .Or (eval e₂ env :: evalEach rest env)) Q E s
  refine wpC_then h fun v s₁ z=>wpC_at (wpC_then (wpC_holding z) fun c s₂ y=>?_)
  cases c
  · exact y
  · exact wpC_pure y
theorem UnaryOp_ {uop:UnaryOp} (h:wpC M A (eval e env) (fun v s₁=>wpC M A (unaryOp uop v) Q E s₁) E s):wpC M A (eval (.UnaryOp uop e pos) env) Q E s:=by
  rw [eval_UnaryOp]
  exact wpC_then h fun v s₁ z=>wpC_at (wpC_holding z)
theorem not_of (h:wpC M A (truthy v) (fun c s'=>Q (.bool (!c)) s') E s):wpC M A (unaryOp .Not v) Q E s:=by
  unfold unaryOp
  exact wpC_holding (wpC_bind (m:=truthy v) (wpC_mono h (fun _ _ z=>wpC_pure z) fun _ _ z=>z))
theorem wpC_While {b₁ b₂:List Stmt} (h:codeC M A (.whileLoop test b₁ b₂ env) (fun r s'=>match r with | .ok f=>QF f s' | .error e=>cameBackBy M A env E e s') s):wpC M A (exec (.While test b₁ b₂ pos) env) QF E s:=by
  rw [exec_While]; exact wpC_at (wpC_runOwn h)
theorem wpC_For {b₁ b₂:List Stmt} (h:wpC M A (eval e env) (fun x s₁=>wpC M A (pyIter x) (fun it s₂=>codeC M A (.forLoop test it b₁ b₂ env) (fun r s'=>match r with | .ok f=>QF f s' | .error e=>cameBackBy M A env E e s') s₂) E s₁) E s)
    (hs:∀ x,foldedSetIterable e env x = pure x:=by intro _; rfl):wpC M A (exec (.For test e b₁ b₂ pos) env) QF E s:=by
  rw [exec_For]
  refine wpC_at (wpC_then h fun x s₁ y=>?_)
  rw [hs x]
  exact wpC_bind (wpC_pure (wpC_at (wpC_bind (wpC_holding (wpC_mono y (fun it s₂ z=>wpC_runOwn z) fun _ _ z=>z)))))
theorem Subscript_ (h:wpC M A (eval value env) (fun o s₁=>wpC M A (eval slice env) (fun i s₂=>wpC M A (subscriptTail value slice o i) Q E s₂) E s₁) E s):wpC M A (eval (.Subscript value slice pos) env) Q E s:=by
  rw [eval_Subscript]
  exact wpC_then h fun o s₁ y=>wpC_then (wpC_holding y) fun i s₂ z=>wpC_at z
theorem spliced_consC {t:Sem Value} {more:List (Bool × Sem Value)} (h:wpC M A t (fun v s₁=>wpC M A (spliced more) (fun vs s₂=>QL (v :: vs) s₂) E s₁) E s):wpC M A (spliced ((false,t) :: more)) QL E s:=by
  rw [spliced]
  refine wpC_then h fun v s₁ y=>?_
  rw [if_neg Bool.false_ne_true]
  exact wpC_bind (wpC_pure (wpC_then (wpC_holding y) fun vs s₂ z=>wpC_pure z))
theorem evalArgs_plainC {f:Value} {t:Sem Value} {more:List (Bool × Sem Value)} {QA:Args → Shared → Prop} (h:wpC M A (spliced ((false,t) :: more)) (fun vs s'=>QA ⟨vs,[]⟩ s') E s):wpC M A (evalArgs f true ((false,t) :: more) []) QA E s:=by
  unfold evalArgs
  refine wpC_then (show wpC M A (spliced ((false,t) :: more)) _ E s from h) fun vs s' z=>wpC_holding (wpC_bind (wpC_pure (wpC_bind (wpC_pure (wpC_pure z)))))
theorem wpC_Call_Name_kw {id:Str} {p:Pos} {keywords:List Keyword} (h:wpC M A (eval (.Name id p) env) (fun f s₁=>wpC M A (callWith pos f [] (backTo pos (starEach args env)) (backToKw pos (keywordEach keywords env))) Q E s₁) E s) :
    wpC M A (eval (.Call (.Name id p) args keywords pos) env) Q E s:=by rw [arm_eval_Call_Name']; exact wpC_bind h
theorem Call_ (h:wpC M A (eval func env) (fun f s₁=>wpC M A (callWith pos f [] (backTo pos (starEach args env)) []) Q E s₁) E s)
    (he:eval (.Call func args [] pos) env = (do callWith pos (← eval func env) [] (backTo pos (starEach args env)) (backToKw pos (keywordEach [] env))):=by rfl):wpC M A (eval (.Call func args [] pos) env) Q E s:=by rw [he]; exact wpC_bind h
theorem heldC {t:Sem Value} (h:wpC M A t Q E s):wpC M A (t >>= fun r=>holding [r] point >>= fun _=>pure r) Q E s :=
  wpC_then h fun r s' z=>wpC_first (wpAny_holding (wpAny_point (wpC_pure z)))
theorem wpC_keep {vs:List Value} {m:Sem α} {P:α → Shared → Prop} (h:wpC M A m P E s):wpC M A (m.keep vs) P E s:=fun Γ p i k=>by
  have z:=h Γ p i k
  rw [← Sem.wp_holding (vs:=[])] at z
  first | simpa [Sem.wp_keep] using h Γ p i k | exact (Sem.wp_keep ..).mpr (h Γ p i k)
theorem callWithC {f:Value} {first:List Value} {P:Heap → Prop} {as:List (Bool × Sem Value)} {kws:List (Option Str × Sem Value)} (hplain:(as.any (·.1) || kws.any (·.1.isNone)) = false)
    (hk:∀ h,P h → ∃ k,(k = Keeper.frame ∨ k = Keeper.machine ∨ k = Keeper.boundFrame) ∧ PySem.W.Looks M h (keeperOf f) k)
    (h:wpC M A (evalArgs f true as kws) (fun a s₁=>P s₁.heap ∧ wpC M A (call f (first ++ a.pos) a.kw) Q E s₁) E s):wpC M A (callWith pos f first as kws) Q E s:=by
  unfold callWith
  refine wpC_then (wpC_holding h) fun a s₁ z=>wpC_at ?_
  obtain ⟨k,hk',L⟩:=hk _ z.1
  simp only [hplain]
  refine wpC_first (PySem.W.Looks.here L ?_)
  have marked (mk:Value):wpC M A (callMarked mk f (first ++ a.pos) a.kw) Q E s₁:=by unfold callMarked; exact wpC_keep z.2
  rcases hk' with rfl | rfl | rfl <;> dsimp only <;> first | exact heldC z.2 | (split <;> first | exact heldC z.2 | exact heldC (marked _))
end
end L2
namespace L2
open PySem PySem.Spec PyProof.Rows
section
variable {M:Model} {A:Around} {E:Value → Shared → Prop} {s:Shared} {env:Env} {pos:Pos} {e:Expr} {x:Str} {Q:Value → Shared → Prop} {QF:Flow → Shared → Prop}
theorem wpC_Name (h:wpC M A (loadName env x) Q E s) (hd:(x == ("__debug__" : Str)) = false:=by decide):wpC M A (eval (.Name x pos) env) Q E s:=by rw [eval_Name env x pos hd]; exact wpC_at h
end
end L2
namespace L2
open PySem PySem.Spec PyProof.Rows
section
variable {M:Model} {A:Around} {E:Value → Shared → Prop} {s:Shared} {K:PySem.W.Frag} {env:Env} {pos:Pos} {f:Value} {first:List Value} {Q:Value → Shared → Prop} {e:Expr} {rest:List Expr} {kws:List Keyword} {h₀:Heap}
theorem callWith_K (_X:K.In h₀) (hk:PySem.W.keepIn K f = true) (h:wpC M A (spliced (backTo pos (starEach (e :: rest) env))) (fun vs s₁=>K.In s₁.heap ∧ wpC M A (call f (first ++ vs)) Q E s₁) E s)
    (he:starEach (e :: rest) env = (false,eval e env) :: starEach rest env:=by rfl) (hp:(backTo pos (starEach rest env)).any (·.1) = false:=by rfl) :
    wpC M A (callWith pos f first (backTo pos (starEach (e :: rest) env)) []) Q E s:=by
  rw [he] at h ⊢
  exact callWithC (P:=K.In) (by show ((false || (backTo pos (starEach rest env)).any (·.1)) || false) = false; rw [hp]; rfl) (PySem.W.keeps_K hk) (evalArgs_plainC h)
variable {id T:String} {as:List (Bool × Sem Value)}
theorem callWithB {f:Value} (hf:keeperOf f = pure Keeper.machine) (hp:as.any (·.1) = false) (h:wpC M A (evalArgs f true as []) (fun a s₁=>wpC M A (call f (first ++ a.pos) a.kw) Q E s₁) E s):wpC M A (callWith pos f first as []) Q E s:=by
  unfold callWith
  refine wpC_then (wpC_holding h) fun a s₁ z=>wpC_at ?_
  simp only [hp,List.any_nil,Bool.or_false]
  rw [hf]
  exact wpC_bind (wpC_pure (heldC z))
theorem callWith_builtin (hp:as.any (·.1) = false) (h:wpC M A (evalArgs (.builtin id) true as []) (fun a s₁=>wpC M A (call (.builtin id) (first ++ a.pos) a.kw) Q E s₁) E s):wpC M A (callWith pos (.builtin id) first as []) Q E s:=callWithB rfl hp h
theorem callWith_type1 (h:wpC M A (spliced (backTo pos (starEach (e :: rest) env))) (fun vs s₁=>wpC M A (call (.type T) vs) Q E s₁) E s)
    (he:starEach (e :: rest) env = (false,eval e env) :: starEach rest env:=by rfl) (hp:(backTo pos (starEach rest env)).any (·.1) = false:=by rfl):wpC M A (callWith pos (.type T) [] (backTo pos (starEach (e :: rest) env)) []) Q E s:=by
  rw [he] at h ⊢
  exact callWithB rfl (by show (false || (backTo pos (starEach rest env)).any (·.1)) = false; rw [hp]; rfl) (evalArgs_plainC h)
theorem Tuple_ {k:Nat} {es:List Expr} (h:wpC M A (spliced (backTo pos (starEach es env))) (fun vs s₁=>wpC M A (newTuple vs) Q E s₁) E s):wpC M A (eval (.Tuple es k pos) env) Q E s :=
  show wpC M A (standAt pos >>= fun _=>spliced (backTo pos (starEach es env)) >>= fun vs=>newTuple vs) Q E s from wpC_at (wpC_bind h)
theorem wpC_Slice {lo up st:Option Expr} (h:wpC M A (evalPart lo env) (fun l s₁=>wpC M A (evalPart up env) (fun u s₂=>wpC M A (evalPart st env) (fun t s₃=>Q (.ref s₃.heap.objs.size) { s₃ with heap:=s₃.heap.push { cls:=.type "slice",data:=.fields #[l,u,t] } }) E s₂) E s₁) E s) :
    wpC M A (eval (.Slice lo up st pos) env) Q E s:=by
  rw [arm_eval_Slice]
  exact wpC_then h fun l s₁ y=>wpC_then (wpC_holding y) fun u s₂ z=>wpC_then (wpC_holding z) fun t s₃ q=>(wpAny_newObj_type q).cc
theorem JoinedStr_many {v₁ v₂:Expr} (h:wpC M A (joinParts Str.empty (eval v₁ env :: eval v₂ env :: evalEach rest env)) Q E s):wpC M A (eval (.JoinedStr (v₁ :: v₂ :: rest) pos) env) Q E s:=h
theorem joinParts_cons {out:Str} {t:Sem Value} {more:List (Sem Value)} (h:wpC M A t (fun v s₁=>match v with | .str y _=>(out ++ y).length ≤ sizeLine ∧ wpC M A (joinParts (out ++ y) more) Q E s₁ | _=>False) E s):wpC M A (joinParts out (t :: more)) Q E s:=by
  rw [joinParts]
  refine wpC_then h fun v s₁ z=>?_
  cases v with
  | str y u =>
    have n:¬ (out.length + y.length > sizeLine):=by rw [← strLen_append]; exact Nat.not_lt.mpr z.1
    refine wpC_bind (wpC_pure ?_)
    show wpC M A (if out.length + y.length > sizeLine then _ else _) Q E s₁
    rw [if_neg n]
    first | exact z.2 | exact wpC_bind (wpC_pure z.2)
  | _=>exact z.elim
theorem FormattedValue_plain {value:Expr} (h:wpC M A (eval value env) (fun v s₁=>wpC M A (formatField v Str.empty) Q E s₁) E s):wpC M A (eval (.FormattedValue value (-1) none pos) env) Q E s:=by
  show wpC M A (eval value env >>= fun v=>standAt pos >>= fun _=>holding [v] (converted (-1) v) >>= fun u=>formatted pos u none) Q E s
  refine wpC_then h fun v s₁ z=>wpC_at ?_
  show wpC M A (holding [v] (pure v) >>= fun u=>formatField u Str.empty) Q E s₁
  exact wpC_bind (wpC_holding (wpC_pure z))
end
section
variable {prog:Program} {w:World} {A:Around} {E:Value → Shared → Prop} {R:Result → Shared → Prop} {s:Shared} {env:Env} {pos apos:Pos} {es args:List Expr} {Q:Value → Shared → Prop} {QU:Unit → Shared → Prop} {QF:Flow → Shared → Prop} {test tg:Expr} {b₁ b₂:List Stmt} {it:Value}
theorem wpC_List_spliced (h:wpC (model prog w) A (spliced (backTo pos (starEach es env))) (fun vs s₁=>vs.length ≤ sizeLine ∧ Q (.ref s₁.heap.objs.size) { s₁ with heap:=s₁.heap.push { cls:=.type "list",data:=.seq vs.toArray } }) E s):wpC (model prog w) A (eval (.List es pos) env) Q E s:=by
  rw [arm_eval_List]
  exact wpC_at (wpC_then h fun vs s₁ z=>(wpAny_newList z.2 z.1).cc)
theorem wpC_Tuple_spliced {k:Nat} (h:wpC (model prog w) A (spliced (backTo pos (starEach es env))) (fun vs s₁=>vs.length ≤ sizeLine ∧ Q (.ref s₁.heap.objs.size) { s₁ with heap:=s₁.heap.push { cls:=.type "tuple",data:=.seq vs.toArray } }) E s):wpC (model prog w) A (eval (.Tuple es k pos) env) Q E s:=by
  rw [arm_eval_Tuple]
  exact wpC_at (wpC_then h fun vs s₁ z=>(wpAny_newTuple z.2 z.1).cc)
theorem codeC_whileLoop (I:Nat → Shared → Prop)
    (turn:∀ n s,I n s → wpC (model prog w) A (isTrue test env (eval test env)) (fun b s₂ =>
        if b then wpC (model prog w) A (execs b₁ env) (fun f s₃=>match f with | .next | .cont=>∃ m,m < n ∧ I m s₃ | .brk=>R (.ok .next) s₃ | .ret v=>R (.ok (.ret v)) s₃) (notedBy (model prog w) A env fun e s'=>R (.error e) s') s₂
        else wpC (model prog w) A (execs b₂ env) (fun f s₃=>R (.ok f) s₃) (notedBy (model prog w) A env fun e s'=>R (.error e) s') s₂) (notedBy (model prog w) A env fun e s'=>R (.error e) s') s)
    (n:Nat) (h:I n s):codeC (model prog w) A (.whileLoop test b₁ b₂ env) R s:=by
  refine codeC_loop rfl I (fun n s hI=>?_) n h
  show wpC _ A ((whileTurn test b₁ b₂ env).onRaise (fun x=>do noteFrame x env; theTreesLotGoes x)) _ _ s
  refine wpC_noted ?_
  unfold whileTurn
  refine wpC_then (turn n s hI) fun b s₂ z=>?_
  cases b with
  | false=>exact wpC_then (show wpC _ A (execs b₂ env) _ _ s₂ from z) fun f s₃ y=>wpC_pure y
  | true =>
    refine wpC_then (show wpC _ A (execs b₁ env) _ _ s₂ from z) fun f s₃ y=>?_
    cases f with
    | next=>exact wpC_pure ⟨rfl,y⟩
    | cont=>exact wpC_pure ⟨rfl,y⟩
    | brk=>exact wpC_pure y
    | ret v=>exact wpC_pure y
theorem codeC_block (h:wpC (model prog w) A (execs b₁ env) (fun f s'=>R (.ok f) s') (notedBy (model prog w) A env fun e s'=>R (.error e) s') s):codeC (model prog w) A (.block b₁ env) R s:=by
  refine codeC_of_tree ?_
  show wpC _ _ ((execs b₁ env).onRaise (fun x=>do noteFrame x env; theTreesLotGoes x) >>= fun f=>pure (Fin.done f)) _ _ s
  exact wpC_then (wpC_noted h) fun f s' z=>wpC_pure z
theorem codeC_forLoop_any (I:Nat → Shared → Prop)
    (turn:∀ n s,I n s → wpC (model prog w) A (pyNext it) (fun r s₁=>match r with
      | none=>wpC (model prog w) A (execs b₂ env) (fun f s₃=>R (.ok f) s₃) (notedBy (model prog w) A env fun e s'=>R (.error e) s') s₁
      | some v=>wpC (model prog w) A (letOwnedTupleGo tg it v) (fun _ s₁'=>wpC (model prog w) A (assign tg env v) (fun _ s₂=>wpC (model prog w) A (execs b₁ env) (fun f s₃=>match f with
            | .next | .cont=>∃ m,m < n ∧ I m s₃ | .brk=>R (.ok .next) s₃ | .ret v=>R (.ok (.ret v)) s₃)
          (notedBy (model prog w) A env fun e s'=>R (.error e) s') s₂) (notedBy (model prog w) A env fun e s'=>R (.error e) s') s₁') (notedBy (model prog w) A env fun e s'=>R (.error e) s') s₁) (notedBy (model prog w) A env fun e s'=>R (.error e) s') s)
    (n:Nat) (h:I n s):codeC (model prog w) A (.forLoop tg it b₁ b₂ env) R s:=by
  refine codeC_turns rfl I (fun n s hI=>?_) n h
  show wpC _ A ((forTurn tg it b₁ b₂ env).onRaise (fun x=>do noteFrame x env; theTreesLotGoes x)) _ _ s
  refine wpC_noted ?_
  unfold forTurn
  refine wpC_at (wpC_bind (wpC_onRaise (wpC_mono (turn n s hI) (fun r s₁ z=>?_) fun _ _ z=>wpC_standAt z)))
  cases r with
  | none=>exact wpC_pure (.inr ⟨rfl,codeC_block z⟩)
  | some v =>
    refine wpC_then z fun _ s₁' y=>wpC_then y fun _ s₂ q=>wpC_then q fun f s₃ u=>?_
    cases f with
    | next=>exact wpC_pure (.inl ⟨rfl,u⟩)
    | cont=>exact wpC_pure (.inl ⟨rfl,u⟩)
    | brk=>exact wpC_pure u
    | ret v=>exact wpC_pure u
theorem codeC_func (h:wpC (model prog w) (A.deeper env) (execs b₁ env) (fun f s'=>R (.ok (.ret (match f with | .ret v=>v | _=>.none))) s')
      (fun e s'=>wpC (model prog w) (A.deeper env) (leaving env e) (fun _ s''=>R (.error e) s'') (fun e' s''=>R (.error e') s'') s') s):codeC (model prog w) A (.func b₁ env) R s:=by
  refine codeC_of_tree ?_
  show wpC _ (A.deeper env) (point >>= fun _=>(execs b₁ env).onRaise (leaving env) >>= fun f=>match f with | .ret v=>ret v | _=>ret .none) _ _ s
  refine wpC_first (wpAny_point (wpC_bind (wpC_onRaise (wpC_mono h (fun f s' z=>?_) fun _ _ z=>z))))
  cases f <;> exact wpC_pure z
theorem codeC_call_function {a:Addr} {o:Obj} {fd:FuncData} {as:Args} (hroom:A.depth < recursionLimit) (ho:s.heap.get? a = some o) (hd:o.data = .func fd) (hco:fd.scope.isCoroutine = false) (hgen:fd.scope.isGenerator = false) (hb:fd.body = .stmts b₁) (hcd:s.heap.CodeRec fd.code fd.qualname)
    (h:wpAny (model prog w) A.in1 (bindArgs fd as) (fun binds s₁=>wpAny (model prog w) A.in1 (newFunctionEnv fd.scope fd.globals fd.closure binds (fd.qualname ++ ".<locals>.") (some a) fd.code none fd.builtins)
        (fun env s₂=>s₂.heap.NoLimit ∧ codeC (model prog w) A (.func b₁ env) R s₂) (fun e s'=>R (.error e) s') s₁) (fun e s'=>R (.error e) s') s):codeC (model prog w) A (.call (.ref a) as) R s:=by
  refine codeC_of_tree (PySem.wpAny.cc ?_)
  show wpAny _ A.in1 (callAny (.ref a) as) _ _ s
  unfold callAny
  refine wpAny_bind (wpAny_load ho ?_)
  obtain ⟨c,oc,vs,tq,hc,hoc,hdc,hq⟩:=hcd
  simp only [hd,callFunction,hco,hgen,hb,hc]
  rw [hc] at h
  refine wpAny_bind (m:=field (.ref c) 1) (wpAny_field hoc hdc hq (wpAny_bind (wpAny_pure (wpAny_bind (wpAny_mono h (fun binds s₁ y=>wpAny_bind (wpAny_mono y (fun env s₂ z=>?_) fun _ _ q=>q)) fun _ _ q=>q)))))
  exact wpAny_bind (wpAny_enterFrame z.1 hroom (wpAny_pure ⟨rfl,z.2⟩))
end
end L2
namespace L2
open PySem PySem.Spec PyProof.Rows
theorem callWith_builtinN {M:Model} {A:Around} {E:Value → Shared → Prop} {s:Shared} {env:Env} {pos:Pos} {Q:Value → Shared → Prop} {e:Expr} {rest:List Expr} {id:String} (h:wpC M A (spliced (backTo pos (starEach (e :: rest) env))) (fun vs s₁=>wpC M A (call (.builtin id) vs) Q E s₁) E s)
    (he:starEach (e :: rest) env = (false,eval e env) :: starEach rest env:=by rfl) (hp:(backTo pos (starEach rest env)).any (·.1) = false:=by rfl):wpC M A (callWith pos (.builtin id) [] (backTo pos (starEach (e :: rest) env)) []) Q E s:=by
  rw [he] at h ⊢
  exact callWithB rfl (by show (false || (backTo pos (starEach rest env)).any (·.1)) = false; rw [hp]; rfl) (evalArgs_plainC h)
end L2
namespace L2
open PySem PySem.Spec PyProof.Rows
theorem Calls.spliced_cons {M:Model} {A:Around} {E:Value → Shared → Prop} {s:Shared} {QL:List Value → Shared → Prop} {t:Sem Value} {more:List (Bool × Sem Value)} (h:wpC M A t (fun v s₁=>wpC M A (spliced more) (fun vs s₂=>QL (v :: vs) s₂) E s₁) E s):wpC M A (spliced ((false,t) :: more)) QL E s:=spliced_consC h
theorem Calls.evalArgs_plain {M:Model} {A:Around} {E:Value → Shared → Prop} {s:Shared} {f:Value} {t:Sem Value} {more:List (Bool × Sem Value)} {QA:Args → Shared → Prop} (h:wpC M A (spliced ((false,t) :: more)) (fun vs s'=>QA ⟨vs,[]⟩ s') E s):wpC M A (evalArgs f true ((false,t) :: more) []) QA E s:=evalArgs_plainC h
theorem Calls.callWith_builtin {M:Model} {A:Around} {E:Value → Shared → Prop} {s:Shared} {pos:Pos} {id:String} {first:List Value} {as:List (Bool × Sem Value)} {Q:Value → Shared → Prop} (hp:as.any (·.1) = false) (h:wpC M A (evalArgs (.builtin id) true as []) (fun a s₁=>wpC M A (call (.builtin id) (first ++ a.pos) a.kw) Q E s₁) E s):wpC M A (callWith pos (.builtin id) first as []) Q E s:=L2.callWith_builtin hp h
section
variable {prog:Program} {w:World} {A:Around} {E:Value → Shared → Prop} {R:Result → Shared → Prop} {s:Shared} {env:Env} {pos apos:Pos} {es args:List Expr} {Q:Value → Shared → Prop} {QU:Unit → Shared → Prop} {QF:Flow → Shared → Prop} {o:Expr} {name:Str}
def MethodOn (prog:Program) (w:World) (A:Around) (name:Str) (pos:Pos) (ov:Value) (trees:List (Bool × Sem Value)) (Q:Value → Shared → Prop) (E:Value → Shared → Prop) (s:Shared):Prop :=
  ∃ T id,PlainAttrs T ∧ Slot T name id ∧ typeOf (.builtin id) = pure (.type "method_descriptor") ∧ s.TypeIs ov T ∧ (∀ a,ov = .ref a → ∃ ob,s.heap.get? a = some ob ∧ ob.dict = none) ∧ wpC (model prog w) A (callWith pos (.builtin id) [ov] trees []) Q E s
theorem wpC_Call_method_late {trees:List (Bool × Sem Value)} (hbase:attributeBase o name env (eval o env) = eval o env)
    (hfew:((backTo pos (starEach args env)).all (fun x=>!x.1) && (backToKw pos (keywordEach [] env)).all (fun x=>x.1.isSome) && decide (args.length + ([]:List Keyword).length + (if ([]:List Keyword).isEmpty then 0 else 1) < 30)) = true)
    (hline:(apos.endLine == pos.line) = true) (ht:backTo pos (starEach args env) = trees) (h:wpC (model prog w) A (eval o env) (fun ov s₁=>MethodOn prog w A name pos ov trees Q E s₁) E s):wpC (model prog w) A (eval (.Call (.Attribute o name apos) args [] pos) env) Q E s:=by
  subst ht
  rw [arm_eval_Call,hbase]
  refine wpC_then h fun ov s₁ z=>?_
  obtain ⟨T,id,pa,slot,hty,hT,hd,hc⟩:=z
  have hform:methodCallForm (args.length + ([]:List Keyword).length) (backTo pos (starEach args env)) (backToKw pos (keywordEach [] env)) = true:=hfew
  have hpos:methodCallPos true o env apos pos = pure pos:=by unfold methodCallPos; simp [hline]
  refine wpC_at ?_
  unfold methodCall
  rw [hform]
  refine wpC_first (wpAny_holding (getMethod_builtin hT pa slot hty hd ?_))
  exact wpC_bind (wpC_of_eq hpos hc)
variable {value slice i:Expr}
theorem tail_any {o i:Value} {ops:List Value} {T id:String} (hT:s.TypeIs o T) (hl:typeLookup (.type T) "__getitem__" = pure (some (.builtin id))) (hg:wpC (model prog w) A (getItem o i) Q E s) (hs:subscripted slice false o i = operate ops (getItem o i)) :
    wpC (model prog w) A (subscriptTail value slice o i) Q E s:=by
  unfold subscriptTail
  refine wpC_bind ?_
  rw [getitemInPython_of_ne hT.not_modules]
  refine wpC_first (wpAny_specialOf hT hl ?_)
  have fin:wpC (model prog w) A (subscripted slice false o i) (fun r s₃=>wpC (model prog w) A (letTemporaryGo value o r >>= fun _=>pure r) Q E s₃) E s:=by
    rw [hs]
    exact wpC_operate (wpC_mono hg (fun r s₃ h₃=>wpC_first (wpAny_letTemporaryGo (wpC_pure h₃))) fun _ _ x=>x)
  first | exact wpC_pure (wpC_bind fin) | exact wpC_bind (wpC_pure (wpC_bind fin)) | exact wpC_bind fin
theorem subscriptTail_builtinR {o i x:Value} {T id:String} (hT:s.TypeIs o T) (hl:typeLookup (.type T) "__getitem__" = pure (some (.builtin id))) (hg:wpC (model prog w) A (getItem o i) (fun r s'=>r = x ∧ Q r s') E s) (hs:subscripted slice false o i = operate [o,i] (getItem o i):=by with_unfolding_all rfl) :
    wpC (model prog w) A (subscriptTail value slice o i) Q E s:=tail_any hT hl (wpC_mono hg (fun _ _ z=>z.2) fun _ _ z=>z) hs
theorem assign_Tuple_tuple {k:Nat} {t:Addr} {items:Array Value} (hh:A.handled = none) (ht:IsTup s.heap t items) (hn:(assignEach es env).length = items.size) (hst:(assignEach es env).findIdx? (·.1) = none)
    (h:∀ h',Heap.ExtBut s.heap.objs.size s.heap h' → wpC (model prog w) A (assignInOrder ((assignEach es env).map (·.2)) items.toList) QU E { s with heap:=h' }):wpC (model prog w) A (assign (.Tuple es k pos) env (.ref t)) QU E s:=by
  rw [assign_Tuple]
  refine wpC_at ?_
  unfold unpack
  rw [hn,hst]
  exact wpC_first (wpAny_holding (unpackItems_tuple hh ht h))
variable {e:Value} {t:Expr} {b₀:Stmt} {body orelse:List Stmt} {h₀:ExceptHandler} {hs rest:List ExceptHandler} {nm:Option Str} {n:Str}
theorem wpC_Try_except (h:wpC (model prog w) A (execs body env) (fun f s₁=>match f with | .next=>wpC (model prog w) A (execs orelse env) QF E s₁ | f=>QF f s₁)
      (fun e s₁=>wpC (model prog w) A (noteFrame e env) (fun _ s₂=>wpC (model prog w) A (setFlight e none) (fun _ s₃=>wpC (model prog w) A (handleBy e env (h₀ :: hs)) QF E s₃) E s₂) E s₁) s) :
    wpC (model prog w) A (exec (.Try body (h₀ :: hs) orelse [] pos) env) QF E s:=by
  rw [arm_exec_Try]
  refine wpC_at ?_
  unfold tryStmt
  simp only [List.isEmpty_nil,if_true,List.isEmpty_cons,Bool.false_and,Bool.false_eq_true,if_false]
  refine wpC_bind (wpC_attempt (wpC_mono h (fun f s₁ z=>?_) fun e s₁ z=>?_))
  · cases f <;> first | exact z | exact wpC_pure z
  · exact wpC_then z fun _ _ y=>wpC_bind y
theorem wpC_handleBy_cons (h:codeC (model prog w) (A.mark (some e)) (.handlers e [.ExceptHandler (some t) none [] pos] env) (fun r s₁=>match r with
      | .ok .brk=>codeC (model prog w) (A.mark (some e)) (.handlers e [.ExceptHandler none nm body pos] env) (fun r s₂=>match r with
          | .ok f=>(match nm with | none=>QF f s₂ | some n=>wpC (model prog w) A (do bindName env n .none; unbindBehindTheSuite env n pos) (fun _ s₃=>QF f s₃) E s₂)
          | .error x=>cameBackBy (model prog w) A env E x s₂) s₁
      | .ok _=>wpC (model prog w) A (handleBy e env rest) QF E s₁
      | .error x=>cameBackBy (model prog w) A env E x s₁) s) (hnb:e ≠ byPass):wpC (model prog w) A (handleBy e env (.ExceptHandler (some t) nm body pos :: rest)) QF E s:=by
  have hnb':(some e:Option Value) ≠ some byPass:=fun x=>hnb (Option.some.inj x)
  rw [handleBy]
  refine wpC_bind (wpC_holding (wpC_runOwn (codeC_mono h fun r s₁ z=>?_) hnb'))
  cases r with
  | error x=>exact z
  | ok f =>
    have no:(f ≠ .brk) → wpC (model prog w) A (handleBy e env rest) QF E s₁:=fun ne=>by cases f <;> first | exact z | exact absurd rfl ne
    cases f with
    | brk =>
      refine wpC_bind (wpC_pure ?_)
      refine wpC_ite_false (by decide) (wpC_bind (wpC_holding (wpC_runOwn (codeC_mono z fun r s₂ y=>?_) hnb')))
      cases r with
      | error x=>exact y
      | ok f =>
        cases nm with
        | none=>exact wpC_pure y
        | some n=>exact wpC_then (wpC_holding y) fun _ _ q=>wpC_pure q
    | _ =>
      refine wpC_bind (wpC_pure ?_)
      exact wpC_ite_true (by decide) (no (by intro q; cases q))
theorem codeC_handlers_test (h:wpC (model prog w) A (eval t env) (fun c s₁=>wpC (model prog w) A (excMatches e c) (fun b s₂=>R (.ok (if b then .brk else .next)) s₂) (notedBy (model prog w) A env fun x s₂=>R (.error x) s₂) s₁) (notedBy (model prog w) A env fun x s₁=>R (.error x) s₁) s) :
    codeC (model prog w) A (.handlers e [.ExceptHandler (some t) none [] pos] env) R s:=by
  refine codeC_of_tree ?_
  show wpC _ A ((handleWith e env [.ExceptHandler (some t) none [] pos]).onRaise (fun x=>do noteFrame x env; theTreesLotGoes x) >>= fun f=>pure (Fin.done f)) _ _ s
  refine wpC_bind (wpC_noted ?_)
  unfold handleWith
  exact wpC_at (wpC_then h fun c s₁ z=>wpC_at (wpC_then z fun b s₂ y=>wpC_pure (wpC_pure y)))
theorem codeC_handlers_suite (h:wpC (model prog w) A (setFlight e none) (fun _ s₁=>wpC (model prog w) A (execs (b₀ :: body) env) (fun f s₂=>R (.ok f) s₂) (notedBy (model prog w) A env fun x s₂=>R (.error x) s₂) s₁) (notedBy (model prog w) A env fun x s₁=>R (.error x) s₁) s) :
    codeC (model prog w) A (.handlers e [.ExceptHandler none none (b₀ :: body) pos] env) R s:=by
  refine codeC_of_tree ?_
  show wpC _ A ((handleWith e env [.ExceptHandler none none (b₀ :: body) pos]).onRaise (fun x=>do noteFrame x env; theTreesLotGoes x) >>= fun f=>pure (Fin.done f)) _ _ s
  refine wpC_bind (wpC_noted ?_)
  unfold handleWith
  exact wpC_at (wpC_bind (wpC_mono h (fun _ s₁ z=>wpC_mono z (fun f s₂ y=>wpC_pure y) fun _ _ x=>x) fun _ _ x=>x))
theorem codeC_handlers_suite_as (h:wpC (model prog w) A (setFlight e none) (fun _ s₁=>wpC (model prog w) A (storeName env n e) (fun _ s₂=>wpC (model prog w) A (execs (b₀ :: body) env) (fun f s₃=>R (.ok f) s₃)
          (fun x s₃=>wpC (model prog w) A (noteFrame x env) (fun _ s₃'=>wpC (model prog w) A (do bindName env n .none; unbindBehindTheSuite env n pos)
              (fun _ s₄=>wpC (model prog w) A (passOn "try.except-as" x env:Sem Flow) (fun _ _=>False) (notedBy (model prog w) A env fun x s'=>R (.error x) s') s₄)
              (fun y s₄=>wpC (model prog w) A (setFlight x none) (fun _ s₅=>(notedBy (model prog w) A env fun x s'=>R (.error x) s') y s₅) (notedBy (model prog w) A env fun x s'=>R (.error x) s') s₄) s₃') (notedBy (model prog w) A env fun x s'=>R (.error x) s') s₃) s₂)
        (notedBy (model prog w) A env fun x s'=>R (.error x) s') s₁) (notedBy (model prog w) A env fun x s'=>R (.error x) s') s):codeC (model prog w) A (.handlers e [.ExceptHandler none (some n) (b₀ :: body) pos] env) R s:=by
  refine codeC_of_tree ?_
  show wpC _ A ((handleWith e env [.ExceptHandler none (some n) (b₀ :: body) pos]).onRaise (fun x=>do noteFrame x env; theTreesLotGoes x) >>= fun f=>pure (Fin.done f)) _ _ s
  refine wpC_bind (wpC_noted ?_)
  unfold handleWith
  refine wpC_at (wpC_then h fun _ s₁ z=>wpC_then (wpC_bindName z) fun _ s₂ y=>wpC_bind (wpC_attempt (wpC_mono y (fun f s₃ q=>wpC_pure (wpC_pure q)) fun x s₃ q=>?_)))
  refine wpC_then q fun _ s₃' u=>wpC_bind (wpC_holding (wpC_onRaise (wpC_mono u (fun _ s₄ k=>?_) fun _ _ k=>k)))
  exact wpC_mono k (fun _ _ f=>f.elim) fun _ _ x=>x
variable {elt tg iter:Expr} {ifs:List Expr} {scope:Scope} {it acc:Value} {more:List Comprehension}
theorem codeC_compStart_list (h0:codeC (model prog w) A (.compLoop (.ListComp elt (⟨tg,iter,ifs,0⟩ :: more) scope pos) 0 it acc env) R s)
    (h:wpC (model prog w) A (pyIter it) (fun it' s'=>codeC (model prog w) A (.compLoop (.ListComp elt (⟨tg,iter,ifs,0⟩ :: more) scope pos) 0 it' acc env) R s') (notedBy (model prog w) A env fun x s'=>R (.error x) s') s) :
    codeC (model prog w) A (.compStart (.ListComp elt (⟨tg,iter,ifs,0⟩ :: more) scope pos) 0 it acc env) R s:=by
  refine codeC_of_tree ?_
  show wpC _ _ ((compStart (.ListComp elt (⟨tg,iter,ifs,0⟩ :: more) scope pos) 0 it acc env).onRaise (fun x=>do noteFrame x env; standAt theWindowsPlace)) _ _ s
  refine wpC_notedAt ?_
  unfold compStart
  show wpC _ _ (ask >>= _) _ _ s
  refine wpC_first (wpAny_askSetting ?_)
  split
  · first
      | exact wpC_bind (wpC_pure (wpC_pure ⟨rfl,h0⟩))
      | exact wpC_pure ⟨rfl,h0⟩
  · first
      | exact wpC_bind (wpC_rule (wpC_at (wpC_then h fun it' s' z=>wpC_pure ⟨rfl,z⟩)))
      | (refine wpC_bind (wpC_rule ?_); show wpC _ _ (standAt iter.pos >>= _) _ _ s; exact wpC_at (wpC_then h fun it' s' z=>wpC_pure ⟨rfl,z⟩))
end
section
variable {M:Model} {A:Around} {E:Value → Shared → Prop} {s:Shared} {env:Env} {pos:Pos} {Q:Value → Shared → Prop}
def compPost (M:Model) (A:Around) (E:Value → Shared → Prop) (use:Option (Value → Sem Unit)) (Q:Value → Shared → Prop) (acc:Value) (C:Addr) (r:Result) (s':Shared):Prop :=
  match r,use with
  | .ok _,none=>∃ m,s'.heap.Ns C m ∧ ∀ h',Heap.SameBut C s'.heap h' → Q acc { s' with heap:=h' }
  | .ok _,some u=>wpC M A (u acc) (fun _ s''=>∃ m,s''.heap.Ns C m ∧ ∀ h',Heap.SameBut C s''.heap h' → Q .none { s'' with heap:=h' }) E s'
  | .error x,_=>∃ m,s'.heap.Ns C m ∧ ∀ h',Heap.SameBut C s'.heap h' → ∀ cenv:Env,cenv.locals = C → wpAny M A (passOn "comprehension.variables-let-go" x cenv:Sem Value) (fun _ _=>False) E { s' with heap:=h' }
theorem wpC_comprehension_free {e:Expr} {scope:Scope} {newAcc first:Sem Value} {g:Comprehension} {gs:List Comprehension} {cl:List (Str × Addr)} {use:Option (Value → Sem Unit)} (hcl:clausesOf e = g :: gs) (hs:∀ x,foldedSetIterable g.iter env x = pure x) (hclos:closureFor scope env = pure cl)
    (hkind:scope.kind = .function) (hnames:∀ x ∈ scope.names,x.2 = .local → scope.names.lookup x.1 = some .local)
    (h:wpC M A first (fun x s₁=>wpC M A (pyIter x) (fun it s₂=>wpC M A newAcc (fun acc s₃=>wpC M A (newFunctionEnv scope env.globals cl [] env.qual none .none (some env)) (fun cenv s₄ =>
        codeC M A (.compStart e 0 it acc { cenv with scope:=relabel scope env }) (compPost M A E use Q acc cenv.locals) s₄) E s₃) E s₂) E s₁) E s) :
    wpC M A (comprehension e scope env pos newAcc false first use) Q E s:=by
  unfold comprehension
  rw [hclos,hcl]
  refine wpC_then h fun x s₁ z=>wpC_at (wpC_bind (wpC_of_eq (hs x) (wpC_then (wpC_holding z) fun it s₂ y=>?_)))
  have stand:∀ {c:Prop} [Decidable c] {p:Pos} {k:PUnit → Sem Value},wpC M A (k ()) Q E s₂ → wpC M A (if c then (standAt p >>= k) else k ()) Q E s₂:=fun {c} _ {p} {k} q=>by
    split
    · exact wpC_at q
    · exact q
  refine stand (wpC_then y fun acc s₃ ya=>wpC_bind (wpC_pure (wpC_then ya fun cenv s₄ k=>?_)))
  dsimp only
  have hv:∀ x ∈ (scope.names.filter fun x=>(x.2 == .local || x.2 == .cell) && x.1 != (".0" : Str)).reverse,x.2 = .local → Env.kindOf { cenv with scope:=relabel scope env } x.1 = some .local:=fun x hx hl =>
    lookup_relabel_local (hnames x (List.mem_filter.mp (List.mem_reverse.mp hx)).1 hl)
  have hv':∀ x ∈ (scope.names.filter fun x=>(x.2 == .local || x.2 == .cell) && x.1 != (".0" : Str)).reverse.drop 1 ++ (scope.names.filter fun x=>(x.2 == .local || x.2 == .cell) && x.1 != (".0" : Str)).reverse.take 1,
      x.2 = .local → Env.kindOf { cenv with scope:=relabel scope env } x.1 = some .local:=fun x hx hl=>by
    rcases List.mem_append.mp hx with h1 | h1
    · exact hv x (List.mem_of_mem_drop h1) hl
    · exact hv x (List.mem_of_mem_take h1) hl
  refine wpC_holding (wpC_bind (wpC_attempt (wpC_holding (wpC_run (codeC_mono k fun r s' hr=>?_)))))
  cases r with
  | ok f =>
    cases use with
    | none =>
      obtain ⟨m,hn,hr⟩:=hr
      exact wpC_first (wpAny_holding (wpAny_comp_letGo (cenv:={ cenv with scope:=relabel scope env }) hkind _ s' m hv hn fun h' m' _ hs'=>wpC_pure (hr h' hs')))
    | some u =>
      refine wpC_bind (wpC_rule (wpC_then (wpC_holding (show wpC M A (u acc) _ E s' from hr)) fun _ s'' hr'=>?_))
      obtain ⟨m,hn,hr'⟩:=hr'
      exact wpC_first (wpAny_comp_letGo (cenv:={ cenv with scope:=relabel scope env }) hkind _ s'' m hv' hn fun h' m' _ hs'=>wpC_pure (hr' h' hs'))
  | error x =>
    have hr':∃ m,s'.heap.Ns cenv.locals m ∧ ∀ h',Heap.SameBut cenv.locals s'.heap h' → ∀ cenv':Env,cenv'.locals = cenv.locals → wpAny M A (passOn "comprehension.variables-let-go" x cenv':Sem Value) (fun _ _=>False) E { s' with heap:=h' }:=by cases use <;> exact hr
    obtain ⟨m,hn,hr⟩:=hr'
    exact wpC_first (wpAny_holding (wpAny_comp_letGo (cenv:={ cenv with scope:=relabel scope env }) hkind _ s' m hv hn fun h' m' _ hs'=>PySem.wpAny.cc (wpAny_mono (hr h' hs' _ rfl) (fun _ _ f=>f.elim) fun _ _ y=>y)))
end
end L2
namespace L2
open PySem PySem.Spec PyProof.Rows
section
variable {prog:Program} {w:World} {A:Around} {E:Value → Shared → Prop} {s:Shared} {env:Env} {nm q:Str} {C N:Addr} {bs bm bmB:List Value} {hdct:Bool} {sn:List Str} {sub:List Value} {ab:Bool} {col:Option Bool} {dd:Option Addr} {k0 k1 k2 k3 k5:Option Value} {B newId initId:String}
theorem raise_split {x:Sem Value}:raiseStmt env (some x) none = x >>= fun v=>raiseStmt env (some (pure v)) none:=rfl
theorem wpC_Raise_call_subT (F:ExcBaseFacts B newId initId bmB) {mN:Str → Option Value} {x:Str} {np cpos pos:Pos} {args:List Expr} {QF:Flow → Shared → Prop} (hbase:bm.contains (.type "BaseException") = true) (hh:A.handled = none) (hp:(backTo cpos (starEach args env)).any (·.1) = false) (hni:mN "__init__" = none)
    (h:wpC (model prog w) A (eval (.Name x np) env) (fun f s₁=>f = .ref C ∧ wpC (model prog w) A (evalArgs (.ref C) true (backTo cpos (starEach args env)) []) (fun a s₂=>a.kw = [] ∧ a.pos.length ≤ sizeLine ∧
        s₂.heap.get? C = some (excClassObj nm q C N bs bm hdct sn sub ab col dd k0 k1 k2 k3 k5 newId) ∧ s₂.heap.Ns N mN ∧ OwnTail s₂.heap bmB bm ∧ ∀ h' e,Heap.MadeExcOf s₂.heap h' e (.ref C) a.pos → E (.ref e) { s₂ with heap:=h' }) E s₁) E s) :
    wpC (model prog w) A (exec (.Raise (some (.Call (.Name x np) args [] cpos)) none pos) env) QF E s:=by
  rw [arm_exec_Raise]
  refine wpC_at ?_
  simp only [evalOpt,Option.map]
  rw [raise_split]
  have made:wpC (model prog w) A (eval (.Call (.Name x np) args [] cpos) env) (fun v s₃=>∃ e t,v = .ref e ∧ s₃.heap.get? C = some (excClassObj nm q C N bs bm hdct sn sub ab col dd k0 k1 k2 k3 k5 newId) ∧ s₃.heap.get? e = some { cls:=.ref C,data:=.fields #[.ref t,.none,.none,.none,.bool false,.none] } ∧ E (.ref e) s₃) E s:=by
    refine wpC_Call_Name_kw (wpC_mono h (fun f s₁ z=>?_) fun _ _ y=>y)
    obtain ⟨rfl,z⟩:=z
    unfold callWith
    refine wpC_then (wpC_holding z) fun a s₂ y=>wpC_at ?_
    obtain ⟨apos,akw⟩:=a
    obtain ⟨hkw,hlen,hC,hn,T,hE⟩:=y
    obtain rfl:akw = []:=hkw
    obtain ⟨hp',g,d,tk,os⟩:=s₂
    simp only [hp]
    refine wpC_first (wpAny_keeperOf_exc hC (wpC_first (wpAny_call_exc_subT (hrest:=hlen) F T hC hn hni fun h' e hm=>wpC_first (wpAny_holding (wpAny_point (wpC_pure ?_))))))
    obtain ⟨t,ht,_,_⟩:=hm.there
    exact ⟨e,t,rfl,hm.keeps _ _ hC,ht,hE h' e hm⟩
  have fin:∀ v s₃,(∃ e t,v = .ref e ∧ s₃.heap.get? C = some (excClassObj nm q C N bs bm hdct sn sub ab col dd k0 k1 k2 k3 k5 newId) ∧ s₃.heap.get? e = some { cls:=.ref C,data:=.fields #[.ref t,.none,.none,.none,.bool false,.none] } ∧ E (.ref e) s₃) → wpC (model prog w) A (raiseStmt env (some (pure v)) none) QF E s₃ :=
    fun v s₃ z=>(wpAny_raiseStmt_made_sub (C:=C) (nm:=nm) (q:=q) (N:=N) (bs:=bs) (bm:=bm) (hdct:=hdct) (sn:=sn) (sub:=sub) (ab:=ab) (col:=col) (dd:=dd) (k0:=k0) (k1:=k1) (k2:=k2) (k3:=k3) (k5:=k5) (newId:=newId) hbase hh (wpAny_pure z)).cc
  first
    | exact wpC_then made fin
    | exact wpC_then (wpC_then made fun v s₃ z=>wpC_at (wpC_pure z)) fin
end
end L2
namespace L2
open PySem PySem.Spec PyProof.Rows
def item_listR {prog w A E s value slice l items k u x Q} (hl) (h0) (hfit) (hx) (h) (hs:_:=by first | rfl | decide | size_fits | assumption):=(@_root_.PyProof.Rows.item_listR prog w A E s value slice l items k u x Q hl h0 hfit hx h hs).cc
def wpC_execs_nil {M A E s env Q} (h):=(@_root_.PySem.wpAny_execs_nil M A E s env Q h).cc
def wpC_pyIter_listiter {prog w A E s it l i Q} (hit) (h):=(@_root_.PySem.wpAny_pyIter_listiter prog w A E s it l i Q hit h).cc
def wpC_pyNext_tuple_item {prog w A E s it t i items x Q} (hit) (ht) (hx) (hQ):=(@_root_.PySem.wpAny_pyNext_tuple_item prog w A E s it t i items x Q hit ht hx hQ).cc
def call_meets {prog w A E s T name id B self rest S Q} (slot) (hT) (entry) (args) (g) (h):=(@_root_.PySem.call_meets prog w A E s T name id B self rest S Q slot hT entry args g h).cc
def len_tuple {prog w A E s t items Q} (ht) (hfit) (h):=(@_root_.PyProof.Rows.len_tuple prog w A E s t items Q ht hfit h).cc
def call_range_1 {prog w A E s n t Q} (h):=(@_root_.PySem.call_range_1 prog w A E s n t Q h).cc
def call_abs_int {prog w A E s a t Q} (h):=(@_root_.PyProof.Rows.call_abs_int prog w A E s a t Q h).cc
def wpC_newFunctionEnv {M A E s scope globals closure binds qual func code around builtins Q} (hc) (hl) (hQ) (hk:_:=by first | rfl | decide | size_fits | assumption):=(@_root_.PySem.wpAny_newFunctionEnv M A E s scope globals closure binds qual func code around builtins Q hc hl hQ hk).cc
def wpC_pyIter_list {prog w A E s l items Q} (hl) (hQ):=(@_root_.PySem.wpAny_pyIter_list prog w A E s l items Q hl hQ).cc
def add_int {prog w A E s a b t u Q} (h):=(@_root_.PyProof.Rows.add_int prog w A E s a b t u Q h).cc
def wpC_loadName_free {M A E s env name c v Q} (hk) (hl) (hc) (hv) (h) (hn:_:=by first | rfl | decide | size_fits | assumption):=(@_root_.PySem.wpAny_loadName_free M A E s env name c v Q hk hl hc hv h hn).cc
def wpC_leaves_onW {M A E s base env outer L e cls a0 Q} (hfr) (hf) (hfl) (hQ):=(@_root_.PySem.wpAny_leaves_onW M A E s base env outer L e cls a0 Q hfr hf hfl hQ).cc
def wpC_pyNext_ascii_item {prog w A E s it x t i c Q} (hit) (hx) (hQ):=(@_root_.PySem.wpAny_pyNext_ascii_item prog w A E s it x t i c Q hit hx hQ).cc
def ne_dataH {prog w A E s a b da db as bs Q} (ra) (rb) (ha) (hb) (hu) (h):=(@_root_.PyProof.Rows.ne_dataH prog w A E s a b da db as bs Q ra rb ha hb hu h).cc
def wpC_pyNext_ascii_end {prog w A E s it x t i Q} (hh) (hit) (hx) (hQ):=(@_root_.PySem.wpAny_pyNext_ascii_end prog w A E s it x t i Q hh hit hx hQ).cc
def min_two_ints {prog w A E s a b t u Q} (hh) (h):=(@_root_.PySem.min_two_ints prog w A E s a b t u Q hh h).cc
def PySem_W_KIN_call_text {prog w A E s Q x t n} (hn) (hl) (h):=(@_root_.PySem.W.KIN.call_text prog w A E s Q x t n hn hl h).cc
def Calls.Constant_str {M A E s env x k pos Q} (h):=(@_root_.PySem.Calls.Constant_str M A E s env x k pos Q h).cc
def add_str {prog w A E s x y t u Q} (h) (hsz:_:=by first | rfl | decide | size_fits | assumption):=(@_root_.PyProof.Rows.add_str prog w A E s x y t u Q h hsz).cc
def floordiv_int {prog w A E s a b t u Q} (hb) (h) (hp:_:=by first | rfl | decide | size_fits | assumption):=(@_root_.PyProof.Rows.floordiv_int prog w A E s a b t u Q hb h hp).cc
def wpC_pyNext_list_end {prog w A E s it l i items Q} (hh) (hit) (hl) (hx) (hQ):=(@_root_.PySem.wpAny_pyNext_list_end prog w A E s it l i items Q hh hit hl hx hQ).cc
def PySem_W_kia_one {K x t H prog w A E s Q b c} (Z) (X) (p) (e) (hx) (h):=(@_root_.PySem.W.kia_one K x t H prog w A E s Q b c Z X p e hx h).cc
def Calls.call_len_list {prog w A E s l items Q} (hl) (hfit) (h):=(@_root_.PySem.Calls.call_len_list prog w A E s l items Q hl hfit h).cc
def PySem_W_ki_setBack {prog w A E s n l items k t v Q} (ho) (h0) (h1) (hfit) (hQ):=(@_root_.PySem.W.ki_setBack prog w A E s n l items k t v Q ho h0 h1 hfit hQ).cc
def in_str {prog w A E s x y t u Q} (h):=(@_root_.PyProof.Rows.in_str prog w A E s x y t u Q h).cc
def wpC_load {M A E s a o Q} (ho) (h):=(@_root_.PySem.wpAny_load M A E s a o Q ho h).cc
def call_tuple_list {prog w A E s l items Q} (hl) (h) (hsz:_:=by first | rfl | decide | size_fits | assumption):=(@_root_.PySem.call_tuple_list prog w A E s l items Q hl h hsz).cc
def wpC_pyIter_range {prog w A E s r a b c t u v Q} (hr) (hsmall) (hQ):=(@_root_.PySem.wpAny_pyIter_range prog w A E s r a b c t u v Q hr hsmall hQ).cc
def join_list {prog w A E s x t Q D items ys} (hl) (hi) (hok) (h):=(@_root_.PyProof.Rows.join_list prog w A E s x t Q D items ys hl hi hok h).cc
def wpC_getItem_list_neg {prog w A E s l items k t x Q} (hl) (h0) (h1) (hfit) (hx) (h):=(@_root_.PySem.wpAny_getItem_list_neg prog w A E s l items k t x Q hl h0 h1 hfit hx h).cc
def wpC_loadName_cell {M A E s env name c v Q} (hk) (hl) (hc) (hv) (h):=(@_root_.PySem.wpAny_loadName_cell M A E s env name c v Q hk hl hc hv h).cc
def isTrue_and_nil {M A E s env pos whole Q} (h):=(@_root_.PyProof.Rows.isTrue_and_nil M A E s env pos whole Q h).cc
def PySem_W_ki_setAt {prog w A E s n l items k t v Q} (ho) (h0) (hfit) (hn) (hQ):=(@_root_.PySem.W.ki_setAt prog w A E s n l items k t v Q ho h0 hfit hn hQ).cc
def wpC_pyNext_range_end {prog w A E s it x left step Q} (hh) (hit) (hleft) (hQ):=(@_root_.PySem.wpAny_pyNext_range_end prog w A E s it x left step Q hh hit hleft hQ).cc
def wpC_getItem_list_slice {prog w A E s l sl items vl vu vs lo hi st Q} (hl) (hs) (pl) (pu) (ps) (h0) (h) (hsz:_:=by first | rfl | decide | size_fits | assumption):=(@_root_.PySem.wpAny_getItem_list_slice prog w A E s l sl items vl vu vs lo hi st Q hl hs pl pu ps h0 h hsz).cc
def sub_int {prog w A E s a b t u Q} (h):=(@_root_.PyProof.Rows.sub_int prog w A E s a b t u Q h).cc
def PySem_P_str_of_int {prog w A E s a t Q} (ha) (h):=(@_root_.PySem.P.str_of_int prog w A E s a t Q ha h).cc
def assignInOrder_nil {M A E s xs Q} (h):=(@_root_.PyProof.Rows.assignInOrder_nil M A E s xs Q h).cc
def eq_dataH {prog w A E s a b da db as bs Q} (ra) (rb) (ha) (hb) (hu) (h):=(@_root_.PyProof.Rows.eq_dataH prog w A E s a b da db as bs Q ra rb ha hb hu h).cc
def len_str {prog w A E s x t Q} (hfit) (h):=(@_root_.PyProof.Rows.len_str prog w A E s x t Q hfit h).cc
def wpC_newObj_type {M A E s T data dict Q} (h) (hd:_:=by first | rfl | decide | size_fits | assumption):=(@_root_.PySem.wpAny_newObj_type M A E s T data dict Q h hd).cc
def wpC_storeName_cell {M A E s env name c v₀ v Q} (hk) (hl) (hc) (hv) (h):=(@_root_.PySem.wpAny_storeName_cell M A E s env name c v₀ v Q hk hl hc hv h).cc
def wpC_Constant_int {M A E s env i k pos Q} (h):=(@_root_.PySem.wpAny_Constant_int M A E s env i k pos Q h).cc
def Calls.spliced_nil {M A E s Q} (h):=(@_root_.PySem.Calls.spliced_nil M A E s Q h).cc
def getItem_tuple {prog w A E s t items k u j x Q} (ht) (hlo) (hhi) (hj) (hx) (h):=(@_root_.PyProof.Rows.getItem_tuple prog w A E s t items k u j x Q ht hlo hhi hj hx h).cc
def wpC_pyIter_tuple {prog w A E s t items Q} (ht) (hQ):=(@_root_.PySem.wpAny_pyIter_tuple prog w A E s t items Q ht hQ).cc
def wpC_leaves_madeW {M A E s base h env outer L e cls args Q} (hfr) (hf) (hkb) (hl) (hx) (hQ):=(@_root_.PySem.wpAny_leaves_madeW M A E s base h env outer L e cls args Q hfr hf hkb hl hx hQ).cc
def append_at {prog w A E s D its n x Q} (ho) (h) (hsz:_:=by first | rfl | decide | size_fits | assumption):=(@_root_.PyProof.Rows.append_at prog w A E s D its n x Q ho h hsz).cc
def wpC_storeName_local {M A E s env name m v Q} (hl) (hn) (h) (hp:_:=by first | rfl | decide | size_fits | assumption):=(@_root_.PySem.wpAny_storeName_local M A E s env name m v Q hl hn h hp).cc
def joinParts_nil {M A E s out Q} (h) (hsz:_:=by first | rfl | decide | size_fits | assumption):=(@_root_.PyProof.Rows.joinParts_nil M A E s out Q h hsz).cc
def getItem_str {prog w A E s x t u i c Q} (hr) (hc) (h):=(@_root_.PyProof.Rows.getItem_str prog w A E s x t u i c Q hr hc h).cc
def wpC_pyIter_rangeiter {prog w A E s it x left step Q} (hit) (h):=(@_root_.PySem.wpAny_pyIter_rangeiter prog w A E s it x left step Q hit h).cc
def call_list_seq {prog w A E s Q} (it) {T o items n} (hT) (ho) (hc) (hd) (hQ) (hsz:_:=by first | rfl | decide | size_fits | assumption):=(@_root_.PySem.call_list_seq prog w A E s Q it T o items n hT ho hc hd hQ hsz).cc
def lands_againW {M A E s base l e cls a0 Q} (hh) (hQ):=(@_root_.PyProof.Rows.lands_againW M A E s base l e cls a0 Q hh hQ).cc
def call_tuple_same {prog w A E s t items Q} (ht) (h):=(@_root_.PySem.call_tuple_same prog w A E s t items Q ht h).cc
def Constant_bool {M A E s env c k pos Q} (h):=(@_root_.PyProof.Rows.Constant_bool M A E s env c k pos Q h).cc
def gt_int {prog w A E s a b t u Q} (h):=(@_root_.PyProof.Rows.gt_int prog w A E s a b t u Q h).cc
def ge_int {prog w A E s a b t u Q} (h):=(@_root_.PyProof.Rows.ge_int prog w A E s a b t u Q h).cc
def mod_int' {prog w A E s a b t u Q} (hb) (h):=(@_root_.PyProof.Rows.mod_int' prog w A E s a b t u Q hb h).cc
def mul_int {prog w A E s a b t u Q} (h) (hm:_:=by first | rfl | decide | size_fits | assumption):=(@_root_.PyProof.Rows.mul_int prog w A E s a b t u Q h hm).cc
def isTrue_or_nil {M A E s env pos whole Q} (h):=(@_root_.PyProof.Rows.isTrue_or_nil M A E s env pos whole Q h).cc
def wpC_nameGoes_keeps {M A E s env n pos m Q} (hl) (hn) (hp) (h):=(@_root_.PySem.wpAny_nameGoes_keeps M A E s env n pos m Q hl hn hp h).cc
def wpC_tests_nil {prog w A E s env Q} (h):=(@_root_.PySem.wpAny_tests_nil prog w A E s env Q h).cc
def wpC_looks_onW {M A E s base env outer L e cls a0 Q} (hfr) (hf) (hfl) (hQ):=(@_root_.PySem.wpAny_looks_onW M A E s base env outer L e cls a0 Q hfr hf hfl hQ).cc
def neg_int {prog w A E s a t Q} (h):=(@_root_.PyProof.Rows.neg_int prog w A E s a t Q h).cc
def wpC_landsW {M A E s base l e L cls a0 Q} (hh) (hQ):=(@_root_.PySem.wpAny_landsW M A E s base l e L cls a0 Q hh hQ).cc
def max_two_ints {prog w A E s a b t u Q} (hh) (h):=(@_root_.PySem.max_two_ints prog w A E s a b t u Q hh h).cc
def wpC_pyIter_striter_ascii {prog w A E s it x t i Q} (hit) (h):=(@_root_.PySem.wpAny_pyIter_striter_ascii prog w A E s it x t i Q hit h).cc
def wpC_pyIter_ascii {prog w A E s x t Q} (ha) (hQ):=(@_root_.PySem.wpAny_pyIter_ascii prog w A E s x t Q ha hQ).cc
def formatField_int_small {prog w A E s a t Q} (hd) (h):=(@_root_.PyProof.Rows.formatField_int_small prog w A E s a t Q hd h).cc
def wpC_pyNext_list_item {prog w A E s it l i items x Q} (hit) (hl) (hx) (hQ):=(@_root_.PySem.wpAny_pyNext_list_item prog w A E s it l i items x Q hit hl hx hQ).cc
def wpC_truthy_bool {M A E s b Q} (h):=(@_root_.PySem.wpAny_truthy_bool M A E s b Q h).cc
def lt_int {prog w A E s a b t u Q} (h):=(@_root_.PyProof.Rows.lt_int prog w A E s a b t u Q h).cc
def unpackItems_tuple {prog w A E s t items Q} (hh) (ht) (hQ):=(@_root_.PyProof.Rows.unpackItems_tuple prog w A E s t items Q hh ht hQ).cc
def concat_meets {prog w A E s T id B a b S Q} (ha) (hb) (hfill) (hseq) (slot) (entry) (args) (g) (h):=(@_root_.PySem.concat_meets prog w A E s T id B a b S Q ha hb hfill hseq slot entry args g h).cc
def wpC_pyIter_tupleiter {prog w A E s it t i Q} (hit) (h):=(@_root_.PySem.wpAny_pyIter_tupleiter prog w A E s it t i Q hit h).cc
def pow_int_small {prog w A E s a n t u Q} (hn) (hn2) (ha) (h):=(@_root_.PyProof.Rows.pow_int_small prog w A E s a n t u Q hn hn2 ha h).cc
def wpC_release {M A E s vs keep Q} (h):=(@_root_.PySem.wpAny_release M A E s vs keep Q h).cc
def Constant_none {M A E s env k pos Q} (h):=(@_root_.PyProof.Rows.Constant_none M A E s env k pos Q h).cc
def wpC_pyNext_tuple_end {prog w A E s it t i items Q} (hh) (hit) (ht) (hx) (hQ):=(@_root_.PySem.wpAny_pyNext_tuple_end prog w A E s it t i items Q hh hit ht hx hQ).cc
def wpC_loadName_local {M A E s env name m v Q} (hk) (hl) (hn) (hv) (h):=(@_root_.PySem.wpAny_loadName_local M A E s env name m v Q hk hl hn hv h).cc
end L2
namespace L2
open PySem PySem.Spec PyProof.Rows
abbrev Key:=Sum Int Str
def keyIs:Key → Value → Bool
  | .inl k,v=>Value.isInt k v
  | .inr x,v=>Value.isStrOf x v
def keyH (w:World):Key → Int
  | .inl k=>hashInt k
  | .inr x=>hashStr w x
theorem keyIs_shape:∀ {k:Key} {v:Value},keyIs k v = true → (∃ i t,k = Sum.inl i ∧ v = Value.int i t) ∨ (∃ x t,k = Sum.inr x ∧ v = Value.str x t)
  | .inl i,v,h=>by
    obtain ⟨t,e⟩:=Value.isInt_shape (k:=i) (v:=v) h
    exact .inl ⟨i,t,rfl,e⟩
  | .inr x,v,h=>by
    obtain ⟨t,e⟩:=Value.isStrOf_shape (x:=x) (v:=v) h
    exact .inr ⟨x,t,rfl,e⟩
theorem key_ll (a b:Int):decide ((Sum.inl a:Key) = Sum.inl b) = (a == b):=by
  by_cases e:a = b
  · subst e; simp
  · have h:¬ (Sum.inl a:Key) = Sum.inl b:=fun q=>e (Sum.inl.inj q)
    rw [decide_eq_false h]
    exact (beq_eq_false_iff_ne.mpr e).symm
theorem key_rr (a b:Str):decide ((Sum.inr a:Key) = Sum.inr b) = decide (a = b):=by
  by_cases e:a = b
  · subst e; simp
  · have h:¬ (Sum.inr a:Key) = Sum.inr b:=fun q=>e (Sum.inr.inj q)
    rw [decide_eq_false h,decide_eq_false e]
theorem key_lr (a:Int) (b:Str):decide ((Sum.inl a:Key) = Sum.inr b) = false:=decide_eq_false (fun q=>nomatch q)
theorem key_rl (a:Str) (b:Int):decide ((Sum.inr a:Key) = Sum.inl b) = false:=decide_eq_false (fun q=>nomatch q)
def mixKind (prog:Program) (w:World):PySem.KeyKind prog w Key where
  is:=keyIs
  hash:=keyH w
  inj:=fun v a b ha hb=>by
    rcases keyIs_shape ha with ⟨i,t,rfl,rfl⟩ | ⟨x,t,rfl,rfl⟩
    · rcases keyIs_shape hb with ⟨j,u,rfl,e⟩ | ⟨y,u,rfl,e⟩
      · injection e with e1 _; rw [e1]
      · exact nomatch e
    · rcases keyIs_shape hb with ⟨j,u,rfl,e⟩ | ⟨y,u,rfl,e⟩
      · exact nomatch e
      · injection e with e1 _; rw [e1]
  byValue:=fun k v h=>by
    rcases keyIs_shape h with ⟨i,t,rfl,rfl⟩ | ⟨x,t,rfl,rfl⟩ <;> rfl
  pyHash:=fun hv h=>by
    rcases keyIs_shape hv with ⟨i,t,rfl,rfl⟩ | ⟨x,t,rfl,rfl⟩
    · exact wpAny_pyHash_int h
    · exact wpAny_pyHash_str h
  eqBool:=fun hu hv h=>by
    rcases keyIs_shape hu with ⟨i,t,rfl,rfl⟩ | ⟨x,t,rfl,rfl⟩
    · rcases keyIs_shape hv with ⟨j,u,rfl,rfl⟩ | ⟨y,u,rfl,rfl⟩
      · rw [key_ll] at h; exact wpAny_eqBool_int h
      · rw [key_lr] at h; exact SeqAt.EqAt.int_str i t y u _ _ _ _ h
    · rcases keyIs_shape hv with ⟨j,u,rfl,rfl⟩ | ⟨y,u,rfl,rfl⟩
      · rw [key_rl] at h; exact SeqAt.EqAt.str_int x t j u _ _ _ _ h
      · rw [key_rr] at h; exact wpAny_eqBool_str h
  «strs»:=fun k x t v h=>by
    rcases keyIs_shape h with ⟨i,u,rfl,e⟩ | ⟨y,u,rfl,e⟩
    · exact nomatch e
    · injection e with e1 _
      subst e1
      cases v <;> rfl
end L2
namespace L2
open PySem PySem.Spec PyProof.Rows
inductive V where
  | non | bl (b:Bool) | int (i:Int) | str (x:Str) | byt (b:Array UInt8) | flt (b:UInt64) | ref (a:Addr) | ty (n:String)
  deriving DecidableEq
def RelV:V → Value → Prop
  | .non,u=>u = Value.none
  | .bl b,u=>u = Value.bool b
  | .int i,u=>∃ t,u = Value.int i t
  | .str x,u=>∃ t,u = Value.str x t
  | .byt b,u=>∃ t,u = Value.bytes b t
  | .flt b,u=>∃ t,u = Value.float b t
  | .ref a,u=>u = Value.ref a
  | .ty n,u=>u = Value.type n
abbrev Vals:List V → List Value → Prop:=Paired RelV
theorem Vals.length {xs:List V} {us:List Value} (r:Vals xs us):xs.length = us.length:=Paired.length r
theorem Vals.get:∀ {xs:List V} {us:List Value} {i:Nat} {x:V},Vals xs us → xs[i]? = some x → ∃ u,us[i]? = some u ∧ RelV x u
  | _,_,_,_,.nil,e=>by simp at e
  | _,_,0,_,.cons r _,e=>by simp at e; subst e; exact ⟨_,rfl,r⟩
  | _,_,i + 1,x,.cons _ t,e=>by
    obtain ⟨u,h1,h2⟩:=Vals.get (i:=i) (x:=x) t (by simpa using e)
    exact ⟨u,by simpa using h1,h2⟩
theorem Vals.set {x:V} {u:Value} (r:RelV x u):∀ {xs:List V} {us:List Value} (i:Nat),Vals xs us → Vals (xs.set i x) (us.set i u)
  | _,_,_,.nil=>.nil
  | _,_,0,.cons _ t=>.cons r t
  | _,_,i + 1,.cons q t=>.cons q (Vals.set r i t)
theorem Vals.append:∀ {xs ys:List V} {us ws:List Value},Vals xs us → Vals ys ws → Vals (xs ++ ys) (us ++ ws)
  | _,_,_,_,.nil,s=>s
  | _,_,_,_,.cons r t,s=>.cons r (Vals.append t s)
theorem Vals.take:∀ {xs:List V} {us:List Value} (n:Nat),Vals xs us → Vals (xs.take n) (us.take n)
  | _,_,0,_=>.nil
  | _,_,_ + 1,.nil=>.nil
  | _,_,n + 1,.cons r t=>.cons r (Vals.take n t)
theorem Vals.drop:∀ {xs:List V} {us:List Value} (n:Nat),Vals xs us → Vals (xs.drop n) (us.drop n)
  | _,_,0,r=>r
  | _,_,_ + 1,.nil=>.nil
  | _,_,n + 1,.cons _ t=>Vals.drop n t
def RelO:Option V → Option Value → Prop
  | some v,some u=>RelV v u
  | none,none=>True
  | _,_=>False
def KV {κ:Type}:List (κ × V) → List (κ × Value) → Prop:=Paired fun (p:κ × V) (q:κ × Value)=>p.1 = q.1 ∧ RelV p.2 q.2
def kV:Key → V
  | .inl i=>.int i
  | .inr x=>.str x
inductive HO where
    | lst (xs:List V)
    | tup (xs:List V)
    | dK (kvs:List (Key × V)) | dT (kvs:List (List Key × V))
    | set (S:Int → Bool) (n:Nat)
    | ins (C dx:Addr) (fs:List (Str × V))
    | own (x:Addr)
    | xd (fs:List (Str × V))
    | met (f x:Addr)
    | rng (lo hi:Int)
    | frz (o:Obj) (u:HO)
    | tbl (ps:Array Value)
    | ext (φ:Heap → Prop)
abbrev Hp:=Addr → Option HO
def upd (H:Hp) (a:Addr) (o:HO):Hp:=fun b=>if b = a then some o else H b
theorem upd_same {H:Hp} {a:Addr} {o:HO}:upd H a o a = some o:=by unfold upd; rw [if_pos rfl]
theorem upd_ne {H:Hp} {a b:Addr} {o:HO} (h:b ≠ a):upd H a o b = H b:=by unfold upd; rw [if_neg h]
theorem ne_of_none {H:Hp} {a b:Addr} {o:HO} (h:H a = some o) (h':H b = none):a ≠ b:=by
  intro e; subst e; rw [h] at h'; cases h'
section
variable (P:Program) (w:World)
def ObjOk (H:Hp) (h:Heap) (a:Addr):HO → Prop
  | .lst xs=>xs.length ≤ sizeLine ∧ ∃ (its:List Value) (n:Nat),Vals xs its ∧ h.get? a = some { cls:=.type "list",data:=.seq its.toArray n }
  | .tup xs=>xs.length ≤ sizeLine ∧ ∃ its:List Value,Vals xs its ∧ IsTup h a its.toArray
  | .dK kvs=>kvs.length ≤ sizeLine ∧ (a == sysModules) = false ∧ ∃ vs,KV kvs vs ∧ h.DictOf (mixKind P w) a vs
  | .dT kvs=>kvs.length ≤ sizeLine ∧ (a == sysModules) = false ∧ ∃ xs:List (List Key × Addr × Value),
      Paired (fun (p:List Key × V) (q:List Key × Addr × Value)=>p.1 = q.1 ∧ H q.2.1 = some (.tup (p.1.map kV)) ∧ RelV p.2 q.2.2) kvs xs ∧
      ∃ o es ep,h.get? a = some o ∧ o.ExactDict ∧ o.data = .dict es ep ∧ es.toList = xs.map (entryOfKey (tupleKind (mixKind P w))) ∧ (xs.map (·.1)).Nodup
  | .set S n=>h.SetOf (intKind P w) a S n
  | .ins C dx fs=>H dx = some (.own a) ∧ fs.length ≤ 1000 ∧ dx ≠ a ∧ h.get? a = some (PySem.W.instObj C dx) ∧
      ∃ mA,h.Ns1 dx mA ∧ (∀ f,RelO (fs.lookup f) (mA f)) ∧ PySem.Within mA (fs.map (·.1))
  | .own _=>∃ o,h.get? a = some o
  | .xd fs=>∃ mA,h.Ns1 a mA ∧ ∀ f,RelO (fs.lookup f) (mA f)
  | .rng lo hi=>∃ t u v,h.get? a = some { cls:=.type "range",data:=.fields #[.int lo t,.int hi u,.int 1 v] }
  | .frz o u=>h.get? a = some o ∧ ObjOk H h a u
  | .tbl ps=>h.get? a = some { cls:=.none,data:=.fields ps }
  | .met f x=>h.get? a = some (PySem.W.methodObj (.ref f) (.ref x))
  | .ext φ=>φ h ∧ (∃ o,h.get? a = some o) ∧ ∀ h1 h2:Heap,φ h1 → (∀ o,h1.get? a = some o → h2.get? a = some o) → φ h2
def HOk (H:Hp) (h:Heap):Prop:=∀ a o,H a = some o → ObjOk P w H h a o
end
section
variable {P:Program} {w:World} {H H':Hp} {h h':Heap} {a:Addr} {o:HO}
theorem ObjOk.lt (x:ObjOk P w H h a o):a < h.objs.size:=by
  cases o with
  | lst xs=>obtain ⟨_,_,_,_,e⟩:=x; exact Heap.lt_size e
  | tup xs=>obtain ⟨_,_,_,p⟩:=x; exact p.lt
  | dK kvs=>obtain ⟨_,_,_,_,o,_,_,e,_⟩:=x; exact Heap.lt_size e
  | dT kvs=>obtain ⟨_,_,_,_,o,_,_,e,_⟩:=x; exact Heap.lt_size e
  | set S n=>obtain ⟨o,_,_,_,e,_⟩:=x; exact Heap.lt_size e
  | ins C dx fs=>obtain ⟨_,_,_,e,_⟩:=x; exact Heap.lt_size e
  | own y=>obtain ⟨_,e⟩:=x; exact Heap.lt_size e
  | xd fs=>obtain ⟨_,⟨_,_,_,e,_⟩,_⟩:=x; exact Heap.lt_size e
  | rng lo hi=>obtain ⟨_,_,_,e⟩:=x; exact Heap.lt_size e
  | frz ob u=>obtain ⟨e,_⟩:=x; exact Heap.lt_size e
  | tbl ps=>exact Heap.lt_size (show h.get? a = some _ from x)
  | met f y=>exact Heap.lt_size (show h.get? a = some _ from x)
  | ext φ=>obtain ⟨_,⟨_,e⟩,_⟩:=x; exact Heap.lt_size e
theorem Paired.mapP {α β:Type} {F G:α → β → Prop}:∀ {l₁:List α} {l₂:List β},Paired F l₁ l₂ → (∀ a b,F a b → G a b) → Paired G l₁ l₂
  | _,_,.nil,_=>.nil
  | _,_,.cons r t,f=>.cons (f _ _ r) (Paired.mapP t f)
theorem ObjOk.stay (x:ObjOk P w H h a o) (k:∀ b u,(b = a ∨ H b = some (.own a)) → h.get? b = some u → h'.get? b = some u)
    (ho:∀ b,H b = some (.own a) → H' b = some (.own a)) (ht:∀ b xs,H b = some (.tup xs) → H' b = some (.tup xs)):ObjOk P w H' h' a o:=by
  induction o with
  | lst xs=>obtain ⟨z,its,n,r,e⟩:=x; exact ⟨z,its,n,r,k _ _ (.inl rfl) e⟩
  | tup xs=>obtain ⟨z,its,r,ob,e,c⟩:=x; exact ⟨z,its,r,ob,k _ _ (.inl rfl) e,c⟩
  | dK kvs=>obtain ⟨z,y,vs,r,ob,es,ep,e,c⟩:=x; exact ⟨z,y,vs,r,ob,es,ep,k _ _ (.inl rfl) e,c⟩
  | dT kvs =>
    obtain ⟨z,y,xs,r,ob,es,ep,e,c⟩:=x
    exact ⟨z,y,xs,Paired.mapP r fun p q z=>⟨z.1,ht _ _ z.2.1,z.2.2⟩,ob,es,ep,k _ _ (.inl rfl) e,c⟩
  | set S n=>obtain ⟨ob,es,ep,t,e,c⟩:=x; exact ⟨ob,es,ep,t,k _ _ (.inl rfl) e,c⟩
  | ins C dx fs =>
    obtain ⟨d,z,ne,e,mA,⟨od,es,ep,e2,c⟩,r⟩:=x
    exact ⟨ho _ d,z,ne,k _ _ (.inl rfl) e,mA,⟨od,es,ep,k _ _ (.inr d) e2,c⟩,r⟩
  | own y=>obtain ⟨ob,e⟩:=x; exact ⟨ob,k _ _ (.inl rfl) e⟩
  | xd fs=>obtain ⟨mA,⟨od,es,ep,e,c⟩,r⟩:=x; exact ⟨mA,⟨od,es,ep,k _ _ (.inl rfl) e,c⟩,r⟩
  | rng lo hi=>obtain ⟨t,u,v,e⟩:=x; exact ⟨t,u,v,k _ _ (.inl rfl) e⟩
  | frz ob u ih=>obtain ⟨e,q⟩:=x; exact ⟨k _ _ (.inl rfl) e,ih q⟩
  | tbl ps =>
    have e:h.get? a = some { cls:=.none,data:=.fields ps }:=x
    show h'.get? a = some { cls:=.none,data:=.fields ps }
    exact k a _ (.inl rfl) e
  | met f y =>
    have e:h.get? a = some (PySem.W.methodObj (.ref f) (.ref y)):=x
    show h'.get? a = some (PySem.W.methodObj (.ref f) (.ref y))
    exact k a _ (.inl rfl) e
  | ext φ=>obtain ⟨p,⟨o,e⟩,st⟩:=x; exact ⟨st _ _ p fun o q=>k _ _ (.inl rfl) q,⟨o,k _ _ (.inl rfl) e⟩,st⟩
theorem HOk.lt (x:HOk P w H h) (e:H a = some o):a < h.objs.size:=(x a o e).lt
theorem HOk.fresh (x:HOk P w H h) (e:h.objs.size ≤ a):H a = none:=by
  cases q:H a with
  | none=>rfl
  | some u=>exact absurd (Nat.lt_of_lt_of_le (x.lt q) e) (Nat.lt_irrefl _)
theorem HOk.kept (x:HOk P w H h) (k:∀ b u,h.get? b = some u → h'.get? b = some u):HOk P w H h':=fun a o e =>
  (x a o e).stay (fun b u _ q=>k b u q) (fun _ q=>q) fun _ _ q=>q
theorem HOk.laid (x:HOk P w H h) (k:∀ b u,h.get? b = some u → h'.get? b = some u) (hp:h.objs.size ≤ a) (new:ObjOk P w (upd H a o) h' a o):HOk P w (upd H a o) h':=fun b u e=>by
  have hn:=x.fresh hp
  by_cases hb:b = a
  · subst hb; rw [upd_same] at e; cases e; exact new
  · rw [upd_ne hb] at e
    exact (x b u e).stay (fun c v _ q=>k c v q) (fun c q=>by rw [upd_ne (ne_of_none q hn)]; exact q) fun c xs q=>by rw [upd_ne (ne_of_none q hn)]; exact q
end
def Rd (H:Hp) (a:Addr) (u:HO):Prop:=H a = some u ∨ ∃ o,H a = some (.frz o u)
theorem Rd.ok {P:Program} {w:World} {H:Hp} {h:Heap} {a:Addr} {u:HO} (r:Rd H a u) (x:HOk P w H h):ObjOk P w H h a u:=by
  rcases r with r | ⟨o,r⟩
  · exact x a u r
  · obtain ⟨_,q⟩:=x a _ r
    exact q
def Mut:Option HO → Prop
  | some (.lst _)=>True
  | some (.dK _)=>True
  | some (.dT _)=>True
  | some (.set _ _)=>True
  | some (.ins _ _ _)=>True
  | some (.ext _)=>True
  | _=>False
section
variable {P:Program} {w:World} {H:Hp} {h h':Heap} {x e:Addr} {o':HO}
theorem HOk.write (ok:HOk P w H h) (mu:Mut (H x)) (he:e = x ∨ H e = some (.own x)) (k:∀ b u,b ≠ e → h.get? b = some u → h'.get? b = some u) (heo:∃ u,h'.get? e = some u)
    (new:ObjOk P w (upd H x o') h' x o'):HOk P w (upd H x o') h':=fun b u q=>by
  have nown:∀ c y,H c = some (.own y) → c ≠ x:=fun c y r z=>by subst z; rw [r] at mu; exact mu
  have ntup:∀ c xs,H c = some (.tup xs) → c ≠ x:=fun c xs r z=>by subst z; rw [r] at mu; exact mu
  by_cases hb:b = x
  · subst hb; rw [upd_same] at q; cases q; exact new
  · rw [upd_ne hb] at q
    by_cases hbe:b = e
    · have q':H b = some (.own x):=by
        rcases he with z | z
        · exact absurd (hbe.trans z) hb
        · rw [hbe]; exact z
      rw [q] at q'; cases q'
      obtain ⟨v,hv⟩:=heo
      exact ⟨v,by rw [hbe]; exact hv⟩
    · refine (ok b u q).stay (fun c v hc r=>k c v ?_ r) (fun c r=>by rw [upd_ne (nown c b r)]; exact r) fun c xs r=>by rw [upd_ne (ntup c xs r)]; exact r
      rcases hc with rfl | hc
      · exact hbe
      · rintro rfl
        rcases he with z | z
        · exact nown c b hc z
        · rw [hc] at z; cases z; exact hb rfl
end
structure Un (fs ex:List Addr) (H H':Hp) (h h':Heap):Prop where
  keep:∀ b o,h.get? b = some o → H b = none → b ∉ fs → b ∉ ex → h'.get? b = some o
  slot:∀ b o,h.get? b = some o → H b = none → b ∈ fs → b ∉ ex → ∃ sl,h'.get? b = some { o with slots:=sl }
  free:∀ b o,h.get? b = some o → H b = none → b ∉ ex → H' b = none
  there:∀ b o,h.get? b = some o → b ∉ ex → ∃ o',h'.get? b = some o'
  tups:∀ b xs,H b = some (.tup xs) → H' b = some (.tup xs)
  frzs:∀ b o u,H b = some (.frz o u) → H' b = some (.frz o u)
  tbls:∀ b ps,H b = some (.tbl ps) → ∃ more,H' b = some (.tbl (ps ++ more))
section
variable {fs fs' ex ex':List Addr} {H H1 H2:Hp} {h h1 h2 h':Heap} {a x e:Addr} {o:HO}
theorem Un.any (u:Un fs ex H H1 h h1) {b:Addr} {ob:Obj} (q:h.get? b = some ob) (n:H b = none) (hx:b ∉ ex):∃ sl,h1.get? b = some { ob with slots:=sl }:=by
  by_cases hb:b ∈ fs
  · exact u.slot b ob q n hb hx
  · exact ⟨ob.slots,u.keep b ob q n hb hx⟩
theorem Un.kept (k:∀ b u,h.get? b = some u → h'.get? b = some u):Un fs ex H H h h' :=
  ⟨fun b ob q _ _ _=>k b ob q,fun b ob q _ _ _=>⟨ob.slots,k b ob q⟩,fun _ _ _ n _=>n,fun b ob q _=>⟨ob,k b ob q⟩,fun _ _ q=>q,fun _ _ _ q=>q,fun _ ps q=>⟨#[],by rw [q]; simp⟩⟩
theorem Un.refl:Un fs ex H H h h:=Un.kept fun _ _ q=>q
theorem Un.laid (k:∀ b u,h.get? b = some u → h'.get? b = some u) (hp:h.objs.size ≤ a) (hn:H a = none):Un fs ex H (upd H a o) h h' where
  keep:=fun b u q _ _ _=>k b u q
  slot:=fun b u q _ _ _=>⟨u.slots,k b u q⟩
  free:=fun b u q n _=>by rw [upd_ne (Nat.ne_of_lt (Nat.lt_of_lt_of_le (Heap.lt_size q) hp))]; exact n
  there:=fun b u q _=>⟨u,k b u q⟩
  tups:=fun b xs q=>by rw [upd_ne (ne_of_none q hn)]; exact q
  frzs:=fun b u xs q=>by rw [upd_ne (ne_of_none q hn)]; exact q
  tbls:=fun b ps q=>⟨#[],by rw [upd_ne (ne_of_none q hn),q]; simp⟩
theorem Un.write (mu:Mut (H x)) (he:e = x ∨ H e = some (.own x)) (k:∀ b u,b ≠ e → h.get? b = some u → h'.get? b = some u) (heo:∃ u,h'.get? e = some u):Un fs ex H (upd H x o) h h':=by
  have hx:∀ b,H b = none → b ≠ x:=fun b n z=>by subst z; rw [n] at mu; exact mu
  have hb:∀ b,H b = none → b ≠ e:=fun b n z=>by
    subst z
    rcases he with r | r
    · exact hx b n r
    · rw [n] at r; cases r
  have hm:∀ b u,H b = some u → ¬ Mut (some u) → b ≠ x:=fun b u q nm z=>by subst z; rw [q] at mu; exact nm mu
  refine ⟨fun b u q n _ _=>k b u (hb b n) q,fun b u q n _ _=>⟨u.slots,k b u (hb b n) q⟩,fun b u q n _=>by rw [upd_ne (hx b n)]; exact n,fun b u q _=>?_,
    fun b xs q=>by rw [upd_ne (hm b _ q fun z=>z)]; exact q,fun b u xs q=>by rw [upd_ne (hm b _ q fun z=>z)]; exact q,fun b ps q=>⟨#[],by rw [upd_ne (hm b _ q fun z=>z),q]; simp⟩⟩
  by_cases hbe:b = e
  · subst hbe; exact heo
  · exact ⟨u,k b u hbe q⟩
end
def trk (h:Heap) (H:Hp):List Addr:=(List.range h.objs.size).filter fun a=>(H a).isSome
def hidT (h:Heap) (H:Hp):Heap:=PySem.W.hideAll h (trk h H)
theorem hidT_size (h:Heap) (H:Hp):(hidT h H).objs.size = h.objs.size:=PySem.W.hideAll_size _ _
theorem hidT_get {h:Heap} {H:Hp} {b:Addr} {o:Obj} (e:h.get? b = some o) (n:H b = none):(hidT h H).get? b = some o :=
  PySem.W.hideAll_get _ e fun hm=>by
    have q:(H b).isSome = true:=(List.mem_filter.mp hm).2
    rw [n] at q; simp at q
theorem of_hidT {h:Heap} {H:Hp} {b:Addr} {o:Obj} (e:(hidT h H).get? b = some o):h.get? b = some o ∧ H b = none:=by
  have e':h.get? b = some o:=PySem.W.of_hideAll (trk h H) e
  refine ⟨e',?_⟩
  cases q:H b with
  | none=>rfl
  | some x =>
    have hm:b ∈ trk h H:=List.mem_filter.mpr ⟨List.mem_range.mpr (Heap.lt_size e'),by simp [q]⟩
    have z:(hidT h H).get? b = none:=PySem.W.hideAll_none (trk h H) hm
    rw [z] at e; cases e
end L2
namespace L2
open PySem PySem.Spec PyProof.Rows
structure Mod (K:PySem.W.Frag) (mg:Str → Option Value) (base:Heap):Prop where
  kin:K.In base
  glob:base.Ns mainGlobals mg
  blt:∃ mb,base.Ns builtinsNs mb ∧ ∀ x:Str,x ≠ "__name__" → mb x = bootBuiltins x
  nolimit:base.NoLimit
structure Cx where
  prog:Program
  w:World
  K:PySem.W.Frag
  mg:Str → Option Value
  base:Heap
  A:Around
  N:List Str
  s₀:Shared
  H₀:Hp
  env:Env
  outer:List Env
  stack:List Env
  ex:List Addr
  fn:Str → Bool
  calm:Bool
  pn:List (Addr × Obj)
  xe:Value → Shared → Prop
def frs (l:List Env):List Addr:=l.filterMap (·.frame)
abbrev Cx.fs (X:Cx):List Addr:=frs X.outer
def Vis (sc:Scope) (x:Str):Prop:=sc.names.lookup x = some .local ∨ sc.names.lookup x = some .cell ∨ sc.names.lookup x = some .free
def Loc (sc:Scope) (x:Str):Prop:=sc.names.lookup x = some .local ∨ sc.names.lookup x = some .cell
def Look (env:Env) (h:Heap) (m:Str → Option Value) (x:Str) (u:Value):Prop :=
  (env.kindOf x = some .local ∧ m x = some u) ∨ ((env.kindOf x = some .cell ∨ env.kindOf x = some .free) ∧ ∃ c,env.cells.lookup x = some c ∧ h.IsCell c (some u))
structure Cx.Ok (X:Cx):Prop where
  mod:Mod X.K X.mg X.base
  kind:X.env.scope.kind = .function
  glob:X.env.globals = mainGlobals
  blt:X.env.builtins = builtinsNs
  above:X.s₀.heap.objs.size ≤ X.env.locals
  inj:∀ x y c,X.env.cells.lookup x = some c → X.env.cells.lookup y = some c → x = y
  has:∀ x,(X.env.kindOf x = some .cell ∨ X.env.kindOf x = some .free) → ∃ c,X.env.cells.lookup x = some c
  cab:∀ x c,X.fn x = true → X.env.cells.lookup x = some c → X.s₀.heap.objs.size ≤ c
  hd:X.calm = true → X.A.handled = none
  frames:X.A.frames = some X.stack
  stk:X.stack = X.outer ∨ (X.stack = X.env :: X.outer ∧ X.env.frame = some X.env.locals)
  exf:∀ b ∈ X.ex,b ≠ X.env.locals ∧ ∀ x c,X.env.cells.lookup x = some c → c ≠ b
  bs:∀ b o,X.base.get? b = some o → X.s₀.heap.get? b = some o ∧ X.H₀ b = none
  bsz:X.base.objs.size ≤ X.s₀.heap.objs.size
  noex:∀ b o,X.base.get? b = some o → b ∉ X.ex
  exfs:∀ b ∈ X.ex,b ∉ X.fs
  funs:X.s₀.heap.FunFrames X.base X.outer
  frf:∀ b ∈ X.fs,X.H₀ b = none
structure Inv (X:Cx) (pins:List (Addr × Obj)) (σ:List (Option V)) (H:Hp) (s:Shared):Prop where
  ok:X.Ok
  os:s.os = X.s₀.os
  bare:AllBare s.gens
  base:Un X.fs X.ex X.H₀ H X.s₀.heap s.heap
  loc:∃ m,s.heap.Ns X.env.locals m ∧ ∀ (i:Nat) (x:Str) (v:V),X.N[i]? = some x → σ[i]? = some (some v) → Vis X.env.scope x → ∃ u,RelV v u ∧ Look X.env s.heap m x u
  cell:∀ x c,X.env.cells.lookup x = some c → ∃ v,s.heap.IsCell c v
  free:H X.env.locals = none
  freeC:∀ x c,X.env.cells.lookup x = some c → H c = none
  pin:∀ p ∈ X.pn ++ pins,s.heap.get? p.1 = some p.2 ∧ H p.1 = none ∧ p.1 ≠ X.env.locals ∧ p.1 ∉ X.fs ∧ ∀ v,p.2.data ≠ .cell v
  hok:HOk X.prog X.w H s.heap
  len:σ.length = X.N.length
section
variable {X:Cx} {pins:List (Addr × Obj)} {σ:List (Option V)} {H H':Hp} {s:Shared} {h':Heap}
theorem Cx.Ok.nofr (ok:X.Ok) {b:Addr} {o:Obj} (e:X.base.get? b = some o):b ∉ X.fs:=fun hb=>by
  have:=(ok.funs.mem hb).1
  rw [e] at this; cases this
theorem Inv.bs (I:Inv X pins σ H s):∀ b o,X.base.get? b = some o → s.heap.get? b = some o ∧ H b = none:=fun b o e =>
  ⟨I.base.keep b o (I.ok.bs b o e).1 (I.ok.bs b o e).2 (I.ok.nofr e) (I.ok.noex b o e),I.base.free b o (I.ok.bs b o e).1 (I.ok.bs b o e).2 (I.ok.noex b o e)⟩
theorem Inv.bk (I:Inv X pins σ H s):∀ b o,X.base.get? b = some o → s.heap.get? b = some o:=fun b o e=>(I.bs b o e).1
theorem Inv.mod (I:Inv X pins σ H s):Mod X.K X.mg X.base:=I.ok.mod
theorem Inv.kIn (I:Inv X pins σ H s):X.K.In s.heap:=I.ok.mod.kin.keeps I.bk
theorem Inv.lt (I:Inv X pins σ H s):X.env.locals < s.heap.objs.size:=let ⟨_,hn,_⟩:=I.loc; hn.lt
theorem Inv.sz (I:Inv X pins σ H s):X.s₀.heap.objs.size ≤ s.heap.objs.size:=Nat.le_trans I.ok.above (Nat.le_of_lt I.lt)
theorem Inv.nofs (I:Inv X pins σ H s) {a:Addr} (h:s.heap.objs.size ≤ a):a ∉ X.fs:=fun hb=>by
  obtain ⟨_,o,ho,_⟩:=I.ok.funs.mem hb
  exact absurd (Nat.lt_of_lt_of_le (Heap.lt_size ho) (Nat.le_trans I.sz h)) (Nat.lt_irrefl _)
theorem Inv.cne (I:Inv X pins σ H s):∀ x c,X.env.cells.lookup x = some c → c ≠ X.env.locals:=fun x c e z=>by
  obtain ⟨v,o,ho,hd⟩:=I.cell x c e
  obtain ⟨m,⟨o',es,ep,ho',hd',_⟩,_⟩:=I.loc
  rw [z,ho'] at ho; cases ho; rw [hd'] at hd; cases hd
theorem Inv.funs (I:Inv X pins σ H s):s.heap.FunFrames X.base X.outer:=by
  have all:∀ (l:List Env),(∀ b ∈ frs l,b ∈ X.fs) → X.s₀.heap.FunFrames X.base l → s.heap.FunFrames X.base l:=by
    intro l
    induction l with
    | nil=>intro _ _; trivial
    | cons env r ih =>
      intro hs hl
      obtain ⟨hk,⟨L,o,hf,hn,ho,hd⟩,hr⟩:=hl
      have hL:L ∈ X.fs:=hs L (by unfold frs; rw [List.filterMap_cons,hf]; exact List.mem_cons_self)
      obtain ⟨sl,e⟩:=I.base.slot L o ho (I.ok.frf L hL) hL fun z=>I.ok.exfs L z hL
      exact ⟨hk,⟨L,_,hf,hn,e,hd⟩,ih (fun b hb=>hs b (by unfold frs; rw [List.filterMap_cons,hf]; exact List.mem_cons_of_mem _ hb)) hr⟩
  exact all X.outer (fun _ hb=>hb) I.ok.funs
theorem Inv.stack (I:Inv X pins σ H s):s.heap.FunFrames X.base X.stack:=by
  rcases I.ok.stk with e | ⟨e,hf⟩
  · rw [e]; exact I.funs
  · rw [e]
    obtain ⟨m,hn,_⟩:=I.loc
    refine .cons (by rw [I.ok.kind]; decide) hf hn ?_ I.funs
    exact Heap.get?_none_of_le (Nat.le_trans I.ok.bsz I.ok.above)
theorem Inv.stkSub (I:Inv X pins σ H s):∀ b ∈ frs X.stack,b ∈ X.env.locals :: X.fs:=fun b hb=>by
  rcases I.ok.stk with e | ⟨e,hf⟩
  · rw [e] at hb; exact List.mem_cons_of_mem _ hb
  · rw [e] at hb
    unfold frs at hb
    rw [List.filterMap_cons,hf] at hb
    exact hb
theorem Inv.stkFree (I:Inv X pins σ H s):∀ b ∈ frs X.stack,H b = none:=fun b hb=>by
  rcases List.mem_cons.mp (I.stkSub b hb) with e | hb
  · rw [e]; exact I.free
  · obtain ⟨_,o,ho,_⟩:=I.ok.funs.mem hb
    exact I.base.free b o ho (I.ok.frf b hb) fun z=>I.ok.exfs b z hb
theorem Inv.step {g':Array GenState} {t':Nat} {d':Drawn} {ch:List Addr} (I:Inv X pins σ H s)
    (hch:∀ b ∈ ch,(b ∈ X.ex ∨ X.s₀.heap.objs.size ≤ b) ∧ b ≠ X.env.locals ∧ (∀ x c,X.env.cells.lookup x = some c → c ≠ b) ∧ ∀ p ∈ X.pn ++ pins,p.1 ≠ b)
    (keep:∀ b o,b ≠ X.env.locals → b ∉ X.fs → b ∉ ch → s.heap.get? b = some o → H b = none → h'.get? b = some o)
    (slot:∀ b o,b ≠ X.env.locals → b ∈ X.fs → b ∉ ch → s.heap.get? b = some o → H b = none → ∃ sl,h'.get? b = some { o with slots:=sl }) (free:∀ b o,b ∉ ch → s.heap.get? b = some o → H b = none → H' b = none)
    (there:∀ b o,b ∉ ch → s.heap.get? b = some o → ∃ o',h'.get? b = some o')
    (tups:∀ b xs,H b = some (.tup xs) → H' b = some (.tup xs)) (frzs:∀ b o u,H b = some (.frz o u) → H' b = some (.frz o u)) (tbls:∀ b ps,H b = some (.tbl ps) → ∃ more,H' b = some (.tbl (ps ++ more)))
    (ns:∀ m,s.heap.Ns X.env.locals m → h'.Ns X.env.locals m) (hok:HOk X.prog X.w H' h') (hg:AllBare g') :
    Inv X pins σ H' { s with heap:=h',gens:=g',drawn:=d',toks:=t' }:=by
  have neL:∀ b o,X.s₀.heap.get? b = some o → b ≠ X.env.locals:=fun b o e=>Nat.ne_of_lt (Nat.lt_of_lt_of_le (Heap.lt_size e) I.ok.above)
  have neC:∀ b o,X.s₀.heap.get? b = some o → b ∉ X.ex → b ∉ ch:=fun b o e hx hb=>by
    rcases (hch b hb).1 with z | z
    · exact hx z
    · exact absurd (Nat.lt_of_lt_of_le (Heap.lt_size e) z) (Nat.lt_irrefl _)
  have cellK:∀ x c,X.env.cells.lookup x = some c → ∀ v,s.heap.IsCell c v → h'.IsCell c v:=fun x c e v ⟨o,ho,hd⟩=>by
    have nch:c ∉ ch:=fun z=>(hch c z).2.2.1 x c e rfl
    by_cases hc:c ∈ X.fs
    · obtain ⟨sl,q⟩:=slot c o (I.cne x c e) hc nch ho (I.freeC x c e)
      exact ⟨_,q,hd⟩
    · exact ⟨o,keep c o (I.cne x c e) hc nch ho (I.freeC x c e),hd⟩
  refine ⟨I.ok,I.os,hg,⟨fun b o e n hb hx=>?_,fun b o e n hb hx=>?_,fun b o e n hx=>?_,fun b o e hx=>?_,fun b xs e=>tups b xs (I.base.tups b xs e),fun b o xs e=>frzs b o xs (I.base.frzs b o xs e),fun b ps e=>?_⟩,?_,fun x c e=>?_,?_,fun x c e=>?_,fun p hp=>?_,hok,I.len⟩
  · exact keep b o (neL b o e) hb (neC b o e hx) (I.base.keep b o e n hb hx) (I.base.free b o e n hx)
  · obtain ⟨sl,e1⟩:=I.base.slot b o e n hb hx
    obtain ⟨sl',e2⟩:=slot b _ (neL b o e) hb (neC b o e hx) e1 (I.base.free b o e n hx)
    exact ⟨sl',e2⟩
  · obtain ⟨o',e1⟩:=I.base.there b o e hx
    exact free b o' (neC b o e hx) e1 (I.base.free b o e n hx)
  · obtain ⟨o',e1⟩:=I.base.there b o e hx
    exact there b o' (neC b o e hx) e1
  · obtain ⟨m1,e1⟩:=I.base.tbls b ps e
    obtain ⟨m2,e2⟩:=tbls b _ e1
    exact ⟨m1 ++ m2,by rw [e2,Array.append_assoc]⟩
  · obtain ⟨m,hn,hl⟩:=I.loc
    refine ⟨m,ns m hn,fun i x v e1 e2 e3=>?_⟩
    obtain ⟨u,r,l⟩:=hl i x v e1 e2 e3
    refine ⟨u,r,?_⟩
    rcases l with l | ⟨k,c,e,z⟩
    · exact .inl l
    · exact .inr ⟨k,c,e,cellK x c e _ z⟩
  · obtain ⟨v,z⟩:=I.cell x c e
    exact ⟨v,cellK x c e v z⟩
  · obtain ⟨m,⟨o,_,_,ho,_⟩,_⟩:=I.loc
    exact free _ o (fun z=>(hch _ z).2.1 rfl) ho I.free
  · obtain ⟨v,o,ho,hd⟩:=I.cell x c e
    exact free c o (fun z=>(hch c z).2.2.1 x c e rfl) ho (I.freeC x c e)
  · obtain ⟨e,n,ne,nf,d⟩:=I.pin p hp
    have nch:p.1 ∉ ch:=fun z=>(hch p.1 z).2.2.2 p hp rfl
    exact ⟨keep p.1 p.2 ne nf nch e n,free p.1 p.2 nch e n,ne,nf,d⟩
theorem Inv.un {t':Nat} (I:Inv X pins σ H s) (u:Un X.fs [] H H' s.heap h') (hok:HOk X.prog X.w H' h'):Inv X pins σ H' { s with heap:=h',toks:=t' }:=by
  obtain ⟨m,⟨o,es,ep,ho,r⟩,_⟩:=id I.loc
  obtain ⟨sl,hL⟩:=u.any ho I.free (by simp)
  exact I.step (g':=s.gens) (d':=s.drawn) (ch:=[]) (fun _ z=>nomatch z) (fun b o _ hb _ e n=>u.keep b o e n hb (by simp)) (fun b o _ hb _ e n=>u.slot b o e n hb (by simp)) (fun b o _ e n=>u.free b o e n (by simp)) (fun b o _ e=>u.there b o e (by simp)) u.tups u.frzs u.tbls (fun m' hm=>by
    obtain ⟨o',es',ep',ho',r'⟩:=hm
    rw [ho] at ho'; cases ho'
    exact ⟨_,es',ep',hL,r'⟩) hok I.bare
theorem Inv.call {g':Array GenState} {t':Nat} {d':Drawn} {ch:List Addr} (I:Inv X pins σ H s) (u:Un (frs X.stack) ch H H' s.heap h') (hok:HOk X.prog X.w H' h') (hg:AllBare g')
    (hch:∀ b ∈ ch,(b ∈ X.ex ∨ X.s₀.heap.objs.size ≤ b) ∧ b ≠ X.env.locals ∧ (∀ x c,X.env.cells.lookup x = some c → c ≠ b) ∧ ∀ p ∈ X.pn ++ pins,p.1 ≠ b) :
    Inv X pins σ H' { s with heap:=h',gens:=g',drawn:=d',toks:=t' }:=by
  obtain ⟨m,⟨o,es,ep,ho,r⟩,_⟩:=id I.loc
  obtain ⟨sl,hL⟩:=u.any ho I.free fun z=>(hch _ z).2.1 rfl
  exact I.step (ch:=ch) hch (fun b o hL hb hc e n=>u.keep b o e n (fun z=>(List.mem_cons.mp (I.stkSub b z)).elim hL hb) hc) (fun b o _ _ hc e n=>u.any e n hc) (fun b o hc e n=>u.free b o e n hc) (fun b o hc e=>u.there b o e hc) u.tups u.frzs u.tbls (fun m' hm=>by
    obtain ⟨o',es',ep',ho',r'⟩:=hm
    rw [ho] at ho'; cases ho'
    exact ⟨_,es',ep',hL,r'⟩) hok hg
theorem Inv.turned {t':Nat} {it:Addr} (I:Inv X pins σ H s) (k:∀ b o,b ≠ it → s.heap.get? b = some o → h'.get? b = some o) (hn:H it = none) (hL:it ≠ X.env.locals)
    (h1:it ∈ X.ex ∨ X.s₀.heap.objs.size ≤ it) (h2:∀ x c,X.env.cells.lookup x = some c → c ≠ it) (h3:∀ p ∈ X.pn ++ pins,p.1 ≠ it):Inv X pins σ H { s with heap:=h',toks:=t' }:=by
  have nit:∀ b u,H b = some u → b ≠ it:=fun b u e z=>by rw [z,hn] at e; cases e
  refine I.step (g':=s.gens) (d':=s.drawn) (ch:=[it]) (fun b hb=>?_) (fun b o _ _ hc e _=>k b o (fun z=>hc (by simp [z])) e) (fun b o _ _ hc e _=>⟨o.slots,k b o (fun z=>hc (by simp [z])) e⟩) (fun _ _ _ _ n=>n)
    (fun b o hc e=>⟨o,k b o (fun z=>hc (by simp [z])) e⟩) (fun _ _ e=>e) (fun _ _ _ e=>e) (fun b ps e=>⟨#[],by rw [e]; simp⟩) (fun m hm=>?_) (fun b u e=>?_) I.bare
  · have e:b = it:=by simpa using hb
    subst e
    exact ⟨h1,hL,h2,h3⟩
  · obtain ⟨o,es,ep,ho,r⟩:=hm
    exact ⟨o,es,ep,k _ o (Ne.symm hL) ho,r⟩
  · refine (I.hok b u e).stay (fun c v hc q=>k c v ?_ q) (fun _ q=>q) fun _ _ q=>q
    rcases hc with z | z
    · rw [z]; exact nit b u e
    · exact nit c _ z
theorem Inv.tok (I:Inv X pins σ H s) (t:Nat):Inv X pins σ H { s with toks:=t }:=I.un (h':=s.heap) (t':=t) Un.refl I.hok
theorem Inv.kept {t':Nat} (I:Inv X pins σ H s) (k:∀ b u,s.heap.get? b = some u → h'.get? b = some u):Inv X pins σ H { s with heap:=h',toks:=t' }:=I.un (Un.kept k) (I.hok.kept k)
theorem Inv.laid {a:Addr} {o:HO} {t':Nat} (I:Inv X pins σ H s) (k:∀ b u,s.heap.get? b = some u → h'.get? b = some u) (hp:s.heap.objs.size ≤ a) (new:ObjOk X.prog X.w (upd H a o) h' a o) :
    Inv X pins σ (upd H a o) { s with heap:=h',toks:=t' }:=I.un (Un.laid k hp (I.hok.fresh hp)) (I.hok.laid k hp new)
theorem Inv.write {x e:Addr} {o:HO} {t':Nat} (I:Inv X pins σ H s) (mu:Mut (H x)) (he:e = x ∨ H e = some (.own x)) (k:∀ b u,b ≠ e → s.heap.get? b = some u → h'.get? b = some u) (heo:∃ u,h'.get? e = some u)
    (new:ObjOk X.prog X.w (upd H x o) h' x o):Inv X pins σ (upd H x o) { s with heap:=h',toks:=t' }:=I.un (Un.write mu he k heo) (I.hok.write mu he k heo new)
theorem Inv.weak {σ':List (Option V)} (I:Inv X pins σ H s) (hl:σ'.length = σ.length) (w:∀ (i:Nat) v,σ'[i]? = some (some v) → σ[i]? = some (some v)):Inv X pins σ' H s :=
  ⟨I.ok,I.os,I.bare,I.base,let ⟨m,hn,hl'⟩:=I.loc; ⟨m,hn,fun i x v e1 e2 e3=>hl' i x v e1 (w i v e2) e3⟩,I.cell,I.free,I.freeC,I.pin,I.hok,hl.trans I.len⟩
theorem Inv.pins_of {pins':List (Addr × Obj)} (I:Inv X pins σ H s) (h:∀ p ∈ pins',s.heap.get? p.1 = some p.2 ∧ H p.1 = none ∧ p.1 ≠ X.env.locals ∧ p.1 ∉ X.fs ∧ ∀ v,p.2.data ≠ .cell v):Inv X pins' σ H s :=
  ⟨I.ok,I.os,I.bare,I.base,I.loc,I.cell,I.free,I.freeC,fun p hp=>(List.mem_append.mp hp).elim (fun z=>I.pin p (List.mem_append_left _ z)) (h p),I.hok,I.len⟩
theorem nodup_ix {N:List Str} (hN:N.Nodup) {i j:Nat} {x:Str} (a:N[i]? = some x) (b:N[j]? = some x):i = j:=by
  obtain ⟨h1,e1⟩:=List.getElem?_eq_some_iff.mp a
  obtain ⟨h2,e2⟩:=List.getElem?_eq_some_iff.mp b
  exact (List.getElem_inj hN).mp (e1.trans e2.symm)
theorem store_ok2 {M:Model} {A:Around} {E:Value → Shared → Prop} {i:Nat} {x:Str} {v:V} {u:Value} {Q:Unit → Shared → Prop} (I:Inv X pins σ H s) (hN:X.N.Nodup) (hi:X.N[i]? = some x) (hx:Loc X.env.scope x) (r:RelV v u)
    (h:∀ s',Inv X pins (σ.set i (some v)) H s' → (∃ a,Heap.SameBut a s.heap s'.heap ∧ (a = X.env.locals ∨ X.env.cells.lookup x = some a)) → Q () s') (hf:X.fn x = true ∨ X.env.scope.names.lookup x = some .local:=by first | exact .inl rfl | exact .inr rfl | assumption):wpC M A (storeName X.env x u) Q E s:=by
  obtain ⟨m,hn,hl⟩:=id I.loc
  have hcls:(X.env.scope.kind == .class || (X.env.scope.kind == .module && X.env.locals != X.env.globals)) = false:=by rw [I.ok.kind]; rfl
  have hiσ:i < σ.length:=by rw [I.len]; exact (List.getElem?_eq_some_iff.mp hi).1
  have cne:=I.cne
  have tracked:∀ {a:Addr} {h':Heap},(∃ o,s.heap.get? a = some o ∧ H a = none) → Heap.SameBut a s.heap h' → HOk X.prog X.w H h':=fun {a h'} ha hs b ob e=>by
    obtain ⟨_,_,hfree⟩:=ha
    refine (I.hok b ob e).stay (fun c w' hc q=>(hs.2 c ?_).trans q) (fun _ q=>q) fun _ _ q=>q
    rintro rfl
    rcases hc with rfl | hc
    · rw [hfree] at e; cases e
    · rw [hfree] at hc; cases hc
  rcases hx with hk | hk
  · refine wpC_storeName_local hk hn (fun h' hn' hs=>?_) hcls
    obtain ⟨oL,_,_,hoL,_⟩:=id hn
    refine h _ ⟨I.ok,I.os,I.bare,⟨fun b o e n hb hx=>?_,fun b o e n hb hx=>?_,I.base.free,fun b o e hx=>?_,I.base.tups,I.base.frzs,I.base.tbls⟩,⟨_,hn',fun j y v' e1 e2 e3=>?_⟩,fun y c e=>?_,I.free,I.freeC,fun p hp=>?_,tracked ⟨oL,hoL,I.free⟩ hs,by simpa using I.len⟩ ⟨_,hs,.inl rfl⟩
    · exact (hs.2 b (Nat.ne_of_lt (Nat.lt_of_lt_of_le (Heap.lt_size e) I.ok.above))).trans (I.base.keep b o e n hb hx)
    · obtain ⟨sl,e1⟩:=I.base.slot b o e n hb hx
      exact ⟨sl,(hs.2 b (Nat.ne_of_lt (Nat.lt_of_lt_of_le (Heap.lt_size e) I.ok.above))).trans e1⟩
    · obtain ⟨o',e1⟩:=I.base.there b o e hx
      exact ⟨o',(hs.2 b (Nat.ne_of_lt (Nat.lt_of_lt_of_le (Heap.lt_size e) I.ok.above))).trans e1⟩
    · by_cases hj:j = i
      · subst hj
        rw [hi] at e1; cases e1
        rw [List.getElem?_set_self hiσ] at e2
        cases e2
        exact ⟨u,r,.inl ⟨hk,by simp⟩⟩
      · rw [List.getElem?_set_ne (Ne.symm hj)] at e2
        obtain ⟨u',r',q⟩:=hl j y v' e1 e2 e3
        refine ⟨u',r',?_⟩
        rcases q with ⟨k,e⟩ | ⟨k,c,e,z⟩
        · refine .inl ⟨k,?_⟩
          have:y ≠ x:=fun e=>hj (nodup_ix hN e1 (e ▸ hi))
          simp [this,e]
        · exact .inr ⟨k,c,e,z.sameBut hs (cne y c e)⟩
    · obtain ⟨w',z⟩:=I.cell y c e
      exact ⟨w',z.sameBut hs (cne y c e)⟩
    · obtain ⟨e,n,ne,nf,d⟩:=I.pin p hp
      exact ⟨(hs.2 p.1 ne).trans e,n,ne,nf,d⟩
  · have hfn:X.fn x = true:=by
      rcases hf with z | z
      · exact z
      · rw [z] at hk; cases hk
    obtain ⟨c,hc⟩:=I.ok.has x (.inl hk)
    obtain ⟨w',z⟩:=I.cell x c hc
    refine wpC_storeName_cell I.ok.kind hk hc z (fun h' hc' hs=>?_)
    obtain ⟨oc,hoc,hocd⟩:=id z
    refine h { s with heap:=h' } ⟨I.ok,I.os,I.bare,⟨fun b o e n hb hx=>?_,fun b o e n hb hx=>?_,I.base.free,fun b o e hx=>?_,I.base.tups,I.base.frzs,I.base.tbls⟩,⟨m,hn.sameBut hs (Ne.symm (cne x c hc)),fun j y v' e1 e2 e3=>?_⟩,fun y c' e=>?_,I.free,I.freeC,fun p hp=>?_,tracked ⟨oc,hoc,I.freeC x c hc⟩ hs,by simpa using I.len⟩ ⟨c,hs,.inr hc⟩
    · exact (hs.2 b (Nat.ne_of_lt (Nat.lt_of_lt_of_le (Heap.lt_size e) (I.ok.cab x c hfn hc)))).trans (I.base.keep b o e n hb hx)
    · obtain ⟨sl,e1⟩:=I.base.slot b o e n hb hx
      exact ⟨sl,(hs.2 b (Nat.ne_of_lt (Nat.lt_of_lt_of_le (Heap.lt_size e) (I.ok.cab x c hfn hc)))).trans e1⟩
    · obtain ⟨o',e1⟩:=I.base.there b o e hx
      exact ⟨o',(hs.2 b (Nat.ne_of_lt (Nat.lt_of_lt_of_le (Heap.lt_size e) (I.ok.cab x c hfn hc)))).trans e1⟩
    · by_cases hj:j = i
      · subst hj
        rw [hi] at e1; cases e1
        rw [List.getElem?_set_self hiσ] at e2
        cases e2
        exact ⟨u,r,.inr ⟨.inl hk,c,hc,hc'⟩⟩
      · rw [List.getElem?_set_ne (Ne.symm hj)] at e2
        obtain ⟨u',r',q⟩:=hl j y v' e1 e2 e3
        refine ⟨u',r',?_⟩
        rcases q with q | ⟨k,c',e,z'⟩
        · exact .inl q
        · refine .inr ⟨k,c',e,z'.sameBut hs ?_⟩
          rintro rfl
          exact hj (nodup_ix hN e1 (I.ok.inj _ _ _ e hc ▸ hi))
    · by_cases hcc:c' = c
      · subst hcc; exact ⟨_,hc'⟩
      · obtain ⟨w2,z2⟩:=I.cell y c' e
        exact ⟨w2,z2.sameBut hs hcc⟩
    · obtain ⟨e,n,ne,nf,d⟩:=I.pin p hp
      refine ⟨(hs.2 p.1 ?_).trans e,n,ne,nf,d⟩
      intro q
      rw [q,hoc] at e
      have q':oc = p.2:=Option.some.inj e
      exact d w' (by rw [← q']; exact hocd)
theorem store_ok {M:Model} {A:Around} {E:Value → Shared → Prop} {i:Nat} {x:Str} {v:V} {u:Value} {Q:Unit → Shared → Prop} (I:Inv X pins σ H s) (hN:X.N.Nodup) (hi:X.N[i]? = some x) (hx:Loc X.env.scope x) (r:RelV v u)
    (h:∀ s',Inv X pins (σ.set i (some v)) H s' → Q () s') (hf:X.fn x = true ∨ X.env.scope.names.lookup x = some .local:=by first | exact .inl rfl | exact .inr rfl | assumption):wpC M A (storeName X.env x u) Q E s :=
  store_ok2 I hN hi hx r (fun s' I' _=>h s' I') hf
theorem Inv.call' {s':Shared} {ch:List Addr} (I:Inv X pins σ H s) (ho:s'.os = s.os) (u:Un (frs X.stack) ch H H' s.heap s'.heap) (hok:HOk X.prog X.w H' s'.heap) (hg:AllBare s'.gens)
    (hch:∀ b ∈ ch,(b ∈ X.ex ∨ X.s₀.heap.objs.size ≤ b) ∧ b ≠ X.env.locals ∧ (∀ x c,X.env.cells.lookup x = some c → c ≠ b) ∧ ∀ p ∈ X.pn ++ pins,p.1 ≠ b):Inv X pins σ H' s':=by
  obtain ⟨h',g',d',t',o'⟩:=s'
  have e:o' = s.os:=ho
  subst e
  exact I.call (g':=g') (t':=t') (d':=d') u hok hg hch
end
abbrev XK:=Value → Option Addr → Hp → Prop
abbrev St:=List (Option V)
abbrev VK:=V → Hp → Prop
abbrev TE:=St → Hp → VK → Prop
abbrev TT:=St → Hp → (Bool → Hp → Prop) → Prop
abbrev TA:=St → Hp → (List V → Hp → Prop) → Prop
structure Ends where
  nx:St → Hp → Prop
  rt:VK
  bk:St → Hp → Prop:=fun _ _=>False
  ct:St → Hp → Prop:=fun _ _=>False
abbrev TS:=Ends → St → Hp → Prop
def EP (X:Cx) (pins:List (Addr × Obj)) (σ:St) (Q:VK) (u:Value) (s':Shared):Prop:=∃ v H',Inv X pins σ H' s' ∧ RelV v u ∧ Q v H'
def TP (X:Cx) (pins:List (Addr × Obj)) (σ:St) (Q:Bool → Hp → Prop) (b:Bool) (s':Shared):Prop:=∃ H',Inv X pins σ H' s' ∧ Q b H'
def AP (X:Cx) (pins:List (Addr × Obj)) (σ:St) (Q:List V → Hp → Prop) (us:List Value) (s':Shared):Prop:=∃ vs H',Inv X pins σ H' s' ∧ Vals vs us ∧ Q vs H'
def SP (X:Cx) (pins:List (Addr × Obj)) (D:Ends) (f:Flow) (s':Shared):Prop :=
  match f with
  | .next=>∃ σ' H',Inv X pins σ' H' s' ∧ D.nx σ' H'
  | .brk=>∃ σ' H',Inv X pins σ' H' s' ∧ D.bk σ' H'
  | .cont=>∃ σ' H',Inv X pins σ' H' s' ∧ D.ct σ' H'
  | .ret u=>∃ v σ' H',Inv X pins σ' H' s' ∧ RelV v u ∧ D.rt v H'
def PE (X:Cx) (e:Expr) (t:TE):Prop :=
  ∀ (pins:List (Addr × Obj)) (s:Shared) (σ:St) (H:Hp) (Q:VK),Inv X pins σ H s → t σ H Q → wpC (model X.prog X.w) X.A (eval e X.env) (EP X pins σ Q) X.xe s
def PT (X:Cx) (e:Expr) (t:TT):Prop :=
  ∀ (pins:List (Addr × Obj)) (s:Shared) (σ:St) (H:Hp) (Q:Bool → Hp → Prop),Inv X pins σ H s → t σ H Q → wpC (model X.prog X.w) X.A (isTrue e X.env (eval e X.env)) (TP X pins σ Q) X.xe s
def PW (X:Cx) (e:Expr) (t:TT):Prop :=
  ∀ (whole:Sem Value) (pins:List (Addr × Obj)) (s:Shared) (σ:St) (H:Hp) (Q:Bool → Hp → Prop),Inv X pins σ H s → t σ H Q → wpC (model X.prog X.w) X.A (isTrue e X.env whole) (TP X pins σ Q) X.xe s
theorem PW.pt {X:Cx} {e:Expr} {t:TT} (h:PW X e t):PT X e t:=h _
def PA (X:Cx) (es:List Expr) (t:TA):Prop :=
  ∀ (pos:Pos) (pins:List (Addr × Obj)) (s:Shared) (σ:St) (H:Hp) (Q:List V → Hp → Prop),Inv X pins σ H s → t σ H Q → wpC (model X.prog X.w) X.A (spliced (backTo pos (starEach es X.env))) (AP X pins σ Q) X.xe s
def PS (X:Cx) (st:Stmt) (t:TS):Prop :=
  ∀ (pins:List (Addr × Obj)) (s:Shared) (σ:St) (H:Hp) (D:Ends),Inv X pins σ H s → t D σ H → wpC (model X.prog X.w) X.A (exec st X.env) (SP X pins D) X.xe s
def PSs (X:Cx) (st:List Stmt) (t:TS):Prop :=
  ∀ (pins:List (Addr × Obj)) (s:Shared) (σ:St) (H:Hp) (D:Ends),Inv X pins σ H s → t D σ H → wpC (model X.prog X.w) X.A (execs st X.env) (SP X pins D) X.xe s
theorem thn {α:Type} {t:Sem α} {Q Q':α → Shared → Prop} {M:Model} {A:Around} {E:Value → Shared → Prop} {s:Shared} (h:wpC M A t Q E s) (hQ:∀ a s,Q a s → Q' a s):wpC M A t Q' E s:=wpC_mono h hQ fun _ _ x=>x
end L2
namespace L2
open PySem PySem.Spec PyProof.Rows
section
variable {X:Cx}
def tVar (i:Nat):TE:=fun σ H Q=>∃ v,σ[i]? = some (some v) ∧ Q v H
def tC (v:V):TE:=fun _ H Q=>Q v H
theorem pe_var {i:Nat} {x:Str} {pos:Pos} (hN:X.N[i]? = some x) (hv:Vis X.env.scope x) (hd:(x == ("__debug__" : Str)) = false:=by decide) (hcd:(x == ("__classdict__" : Str)) = false:=by decide):PE X (.Name x pos) (tVar i):=by
  intro pins s σ H Q I h
  obtain ⟨v,e,h⟩:=h
  obtain ⟨m,hn,hl⟩:=I.loc
  obtain ⟨u,r,l⟩:=hl i x v hN e hv
  have fin:EP X pins σ Q u s:=⟨v,H,I,r,h⟩
  rcases l with ⟨hk,hm⟩ | ⟨hk,c,hc,hcell⟩
  · exact wpC_Name (wpC_loadName_local I.ok.kind hk hn hm fin) hd
  · rcases hk with hk | hk
    · exact wpC_Name (wpC_loadName_cell I.ok.kind hk hc hcell fin) hd
    · exact wpC_Name (wpC_loadName_free I.ok.kind hk hc hcell fin hcd) hd
theorem pe_int {i j pos}:PE X (.Constant (.int i) j pos) (tC (.int i)):=fun _ _ _ H _ I h=>wpC_Constant_int ⟨.int i,H,I.tok _,⟨_,rfl⟩,h⟩
theorem pe_bl {b j pos}:PE X (.Constant (.bool b) j pos) (tC (.bl b)):=fun _ _ _ H _ I h=>Constant_bool ⟨.bl b,H,I,rfl,h⟩
theorem pe_non {j pos}:PE X (.Constant .none j pos) (tC .non):=fun _ _ _ H _ I h=>Constant_none ⟨.non,H,I,rfl,h⟩
theorem pe_str {x j pos}:PE X (.Constant (.str x) j pos) (tC (.str x)):=fun _ _ _ H _ I h=>Calls.Constant_str ⟨.str x,H,I.tok _,⟨_,rfl⟩,h⟩
def Gl (X:Cx) (x:Str):Prop:=X.env.kindOf x = some .globalImplicit
theorem ld_glob {E:Value → Shared → Prop} {pins:List (Addr × Obj)} {s:Shared} {σ:St} {H:Hp} {x:Str} {u:Value} {pos:Pos} {Q:Value → Shared → Prop} (I:Inv X pins σ H s) (hg:Gl X x) (hm:X.mg x = some u) (h:Q u s)
    (hd:(x == ("__debug__" : Str)) = false:=by decide):wpC (model X.prog X.w) X.A (eval (.Name x pos) X.env) Q E s :=
  (_root_.PySem.Calls.Name_function_global I.ok.kind hg (_root_.PySem.Calls.loadGlobal_global (by rw [I.ok.glob]; exact I.mod.glob.keeps I.bk) hm h) hd).cc
theorem ld_blt {E:Value → Shared → Prop} {pins:List (Addr × Obj)} {s:Shared} {σ:St} {H:Hp} {x:Str} {u:Value} {pos:Pos} {Q:Value → Shared → Prop} (I:Inv X pins σ H s) (hg:Gl X x) (hm:X.mg x = none) (hv:bootBuiltins x = some u) (h:Q u s)
    (hn:x ≠ "__name__" := by decide) (hd:(x == ("__debug__" : Str)) = false:=by decide):wpC (model X.prog X.w) X.A (eval (.Name x pos) X.env) Q E s:=by
  obtain ⟨mb,h1,h2⟩:=I.mod.blt
  exact PySem.wpAny.cc <| _root_.PySem.Calls.Name_function_global I.ok.kind hg (_root_.PySem.Calls.loadGlobal_builtin (by rw [I.ok.glob]; exact I.mod.glob.keeps I.bk) hm (by rw [I.ok.blt]; exact h1.keeps I.bk) ((h2 x hn).trans hv) h) hd
theorem pe_glob {x:Str} {v:V} {u:Value} {pos:Pos} (hg:Gl X x) (hm:X.mg x = some u) (r:RelV v u) (hd:(x == ("__debug__" : Str)) = false:=by decide):PE X (.Name x pos) (tC v) :=
  fun _ _ _ H _ I h=>ld_glob I hg hm ⟨v,H,I,r,h⟩ hd
theorem pe_bltn {x:Str} {v:V} {u:Value} {pos:Pos} (hg:Gl X x) (hm:X.mg x = none) (hv:bootBuiltins x = some u) (r:RelV v u) (hn:x ≠ "__name__" := by decide) (hd:(x == ("__debug__" : Str)) = false:=by decide):PE X (.Name x pos) (tC v) :=
  fun _ _ _ H _ I h=>ld_blt I hg hm hv ⟨v,H,I,r,h⟩ hn hd
variable {a b:Expr} {ta tb:TE} {pos:Pos}
def tB (t:TE):TT:=fun σ H Q=>t σ H fun x H1=>∃ c,x = .bl c ∧ Q c H1
theorem pt_val {e:Expr} {t:TE} (h:PE X e t) (he:∀ whole,isTrue e X.env whole = (do let v ← whole; standAt e.pos; holding [v] (truthy v)):=by intro _; rfl):PT X e (tB t):=by
  intro pins s σ H Q I hw
  refine isTrue_plain (thn (h pins s σ H _ I hw) fun v s1 ⟨x,H1,I1,r1,q1⟩=>?_) (he _)
  obtain ⟨d,rfl,q⟩:=q1
  cases r1
  exact wpC_truthy_bool ⟨H1,I1,q⟩
variable {tA tB':TT} {rest:List Expr}
def tAnd (t u:TT):TT:=fun σ H Q=>t σ H fun c H1=>if c = true then u σ H1 Q else Q false H1
def tOr (t u:TT):TT:=fun σ H Q=>t σ H fun c H1=>if c = true then Q true H1 else u σ H1 Q
def tNot (t:TT):TT:=fun σ H Q=>t σ H fun c H1=>Q (!c) H1
theorem pw_and1 (ha:PT X a tA):PW X (.BoolOp .And [a] pos) tA:=by
  intro wh pins s σ H Q I h
  refine isTrue_and (thn (ha pins s σ H Q I h) fun c s1 e=>?_)
  cases c with
  | true=>exact isTrue_and_nil e
  | false=>exact e
theorem pw_or1 (ha:PT X a tA):PW X (.BoolOp .Or [a] pos) tA:=by
  intro wh pins s σ H Q I h
  refine isTrue_or (thn (ha pins s σ H Q I h) fun c s1 e=>?_)
  cases c with
  | false=>exact isTrue_or_nil e
  | true=>exact e
theorem pw_and (ha:PT X a tA) (hb:PW X (.BoolOp .And (b :: rest) pos) tB'):PW X (.BoolOp .And (a :: b :: rest) pos) (tAnd tA tB'):=by
  intro wh pins s σ H Q I h
  refine isTrue_and (thn (ha pins s σ H _ I h) fun c s1 ⟨H1,I1,q1⟩=>?_)
  cases c with
  | true=>exact hb wh pins s1 σ H1 Q I1 q1
  | false=>exact ⟨H1,I1,q1⟩
theorem pw_or (ha:PT X a tA) (hb:PW X (.BoolOp .Or (b :: rest) pos) tB'):PW X (.BoolOp .Or (a :: b :: rest) pos) (tOr tA tB'):=by
  intro wh pins s σ H Q I h
  refine isTrue_or (thn (ha pins s σ H _ I h) fun c s1 ⟨H1,I1,q1⟩=>?_)
  cases c with
  | true=>exact ⟨H1,I1,q1⟩
  | false=>exact hb wh pins s1 σ H1 Q I1 q1
theorem pt_not (ha:PT X a tA):PT X (.UnaryOp .Not a pos) (tNot tA):=by
  intro pins s σ H Q I h
  exact isTrue_not (ha pins s σ H (fun c H1=>Q (!c) H1) I h)
def tAndV (ta tb:TE):TE:=fun σ H Q=>ta σ H fun x H1=>∃ c,x = .bl c ∧ if c = true then tb σ H1 Q else Q (.bl false) H1
def tOrV (ta tb:TE):TE:=fun σ H Q=>ta σ H fun x H1=>∃ c,x = .bl c ∧ if c = true then Q (.bl true) H1 else tb σ H1 Q
def tNotV (ta:TE):TE:=fun σ H Q=>ta σ H fun x H1=>∃ c,x = .bl c ∧ Q (.bl (!c)) H1
theorem pe_one {op} {t:TE} (h:PE X a t):PE X (.BoolOp op [a] pos) t:=fun pins s σ H Q I hw=>BoolOp_one (h pins s σ H Q I hw)
theorem pe_and (ha:PE X a ta) (hb:PE X (.BoolOp .And (b :: rest) pos) tb):PE X (.BoolOp .And (a :: b :: rest) pos) (tAndV ta tb):=by
  intro pins s σ H Q I h
  refine BoolOp_and (thn (ha pins s σ H _ I h) fun v s1 ⟨x,H1,I1,r1,q1⟩=>?_)
  obtain ⟨c,rfl,q1⟩:=q1
  cases r1
  refine wpC_truthy_bool ?_
  cases c with
  | true=>exact hb pins s1 σ H1 Q I1 q1
  | false=>exact ⟨.bl false,H1,I1,rfl,q1⟩
theorem pe_or (ha:PE X a ta) (hb:PE X (.BoolOp .Or (b :: rest) pos) tb):PE X (.BoolOp .Or (a :: b :: rest) pos) (tOrV ta tb):=by
  intro pins s σ H Q I h
  refine BoolOp_or (thn (ha pins s σ H _ I h) fun v s1 ⟨x,H1,I1,r1,q1⟩=>?_)
  obtain ⟨c,rfl,q1⟩:=q1
  cases r1
  refine wpC_truthy_bool ?_
  cases c with
  | false=>exact hb pins s1 σ H1 Q I1 q1
  | true=>exact ⟨.bl true,H1,I1,rfl,q1⟩
theorem pe_not (ha:PE X a ta):PE X (.UnaryOp .Not a pos) (tNotV ta):=by
  intro pins s σ H Q I h
  refine UnaryOp_ (thn (ha pins s σ H _ I h) fun v s1 ⟨x,H1,I1,r1,q1⟩=>?_)
  obtain ⟨c,rfl,q1⟩:=q1
  cases r1
  exact not_of (wpC_truthy_bool ⟨.bl (!c),H1,I1,rfl,q1⟩)
def tIf (t:TT) (ta tb:TE):TE:=fun σ H Q=>t σ H fun c H1=>if c = true then ta σ H1 Q else tb σ H1 Q
theorem pe_ifExp {c:Expr} (hc:PT X c tA) (ha:PE X a ta) (hb:PE X b tb):PE X (.IfExp c a b pos) (tIf tA ta tb):=by
  intro pins s σ H Q I h
  refine wpC_IfExp (thn (hc pins s σ H _ I h) fun d s1 ⟨H1,I1,q1⟩=>?_)
  cases d with
  | true=>exact ha pins s1 σ H1 Q I1 q1
  | false=>exact hb pins s1 σ H1 Q I1 q1
end
end L2
namespace L2
open PySem PySem.Spec PyProof.Rows
def SqL (K:PySem.W.Frag) (H:Hp) (a:Addr) (xs:List V):Prop :=
  Rd H a (.lst xs) ∨
    ∃ (o:Obj) (its:Array Value) (n:Nat),K.lookup a = some o ∧ o.cls = .type "list" ∧ o.dict = none ∧ o.data = .seq its n ∧ its.size ≤ sizeLine ∧ Vals xs its.toList
def SqT (K:PySem.W.Frag) (H:Hp) (a:Addr) (xs:List V):Prop :=
  Rd H a (.tup xs) ∨
    ∃ (o:Obj) (its:Array Value) (n:Nat),K.lookup a = some o ∧ o.cls = .type "tuple" ∧ o.data = .seq its n ∧ its.size ≤ sizeLine ∧ Vals xs its.toList
def absV:Value → Option V
  | .none=>some .non
  | .bool b=>some (.bl b)
  | .int i _=>some (.int i)
  | .str x _=>some (.str x)
  | .bytes b _=>some (.byt b)
  | .float b _=>some (.flt b)
  | .ref a=>some (.ref a)
  | .type n=>some (.ty n)
  | _=>none
theorem RelV.abs {x:V} {u:Value} (r:RelV x u):absV u = some x:=by
  cases x with
  | non=>cases r; rfl
  | bl _=>cases r; rfl
  | int _=>obtain ⟨t,rfl⟩:=r; rfl
  | str _=>obtain ⟨t,rfl⟩:=r; rfl
  | byt _=>obtain ⟨t,rfl⟩:=r; rfl
  | flt _=>obtain ⟨t,rfl⟩:=r; rfl
  | ref _=>cases r; rfl
  | ty _=>cases r; rfl
theorem RelV.inj {x y:V} {u:Value} (r:RelV x u) (q:RelV y u):x = y:=Option.some.inj (r.abs.symm.trans q.abs)
theorem Vals.inj:∀ {xs ys:List V} {us:List Value},Vals xs us → Vals ys us → xs = ys
  | _,_,_,.nil,.nil=>rfl
  | _,_,_,.cons r t,.cons r' t'=>by rw [r.inj r',Vals.inj t t']
section
variable {X:Cx} {pins:List (Addr × Obj)} {σ:St} {H:Hp} {s:Shared} {a:Addr} {xs ys:List V}
theorem SqL.of {K:PySem.W.Frag} (h:H a = some (.lst xs)):SqL K H a xs:=.inl (.inl h)
theorem SqT.of {K:PySem.W.Frag} (h:H a = some (.tup xs)):SqT K H a xs:=.inl (.inl h)
theorem Inv.list (I:Inv X pins σ H s) (h:SqL X.K H a xs):∃ its:List Value,Vals xs its ∧ PlainL s.heap a its.toArray ∧ xs.length ≤ sizeLine:=by
  rcases h with h | ⟨o,its,n,hk,hc,hd,hs,hz,r⟩
  · obtain ⟨z,its,n,r,e⟩:=h.ok I.hok
    exact ⟨its,r,⟨_,n,e,rfl,rfl,rfl⟩,z⟩
  · refine ⟨its.toList,r,⟨o,n,I.kIn a o hk,hc,hd,by simpa using hs⟩,?_⟩
    have e:=r.length
    simp only [Array.length_toList] at e
    omega
theorem Inv.tuple (I:Inv X pins σ H s) (h:SqT X.K H a xs):∃ its:List Value,Vals xs its ∧ IsTup s.heap a its.toArray ∧ xs.length ≤ sizeLine:=by
  rcases h with h | ⟨o,its,n,hk,hc,hs,hz,r⟩
  · obtain ⟨z,its,r,p⟩:=h.ok I.hok
    exact ⟨its,r,p,z⟩
  · refine ⟨its.toList,r,⟨o,I.kIn a o hk,hc,n,by simpa using hs⟩,?_⟩
    have e:=r.length
    simp only [Array.length_toList] at e
    omega
theorem Inv.list_inj (I:Inv X pins σ H s) (h:SqL X.K H a xs) (h':SqL X.K H a ys):xs = ys:=by
  obtain ⟨its,r,⟨o,n,e,_,_,d⟩,_⟩:=I.list h
  obtain ⟨its',r',⟨o',n',e',_,_,d'⟩,_⟩:=I.list h'
  rw [e] at e'; cases e'
  rw [d] at d'
  injection d' with d1 _
  have:its = its':=by simpa using congrArg Array.toList d1
  subst this
  exact r.inj r'
theorem Inv.tuple_inj (I:Inv X pins σ H s) (h:SqT X.K H a xs) (h':SqT X.K H a ys):xs = ys:=by
  obtain ⟨its,r,⟨o,e,_,n,d⟩,_⟩:=I.tuple h
  obtain ⟨its',r',⟨o',e',_,n',d'⟩,_⟩:=I.tuple h'
  rw [e] at e'; cases e'
  rw [d] at d'
  injection d' with d1 _
  have:its = its':=by simpa using congrArg Array.toList d1
  subst this
  exact r.inj r'
end
abbrev Cx.wish (X:Cx) (E:Value → Shared → Prop):Cx:={ X with xe:=E }
abbrev Cx.nox (X:Cx):Cx:=X.wish fun _ _=>False
theorem Cx.Ok.wish {X:Cx} (ok:X.Ok) (E:Value → Shared → Prop):(X.wish E).Ok :=
  ⟨ok.mod,ok.kind,ok.glob,ok.blt,ok.above,ok.inj,ok.has,ok.cab,ok.hd,ok.frames,ok.stk,ok.exf,ok.bs,ok.bsz,ok.noex,ok.exfs,ok.funs,ok.frf⟩
theorem Cx.Ok.unwish {X:Cx} {E:Value → Shared → Prop} (ok:(X.wish E).Ok):X.Ok :=
  ⟨ok.mod,ok.kind,ok.glob,ok.blt,ok.above,ok.inj,ok.has,ok.cab,ok.hd,ok.frames,ok.stk,ok.exf,ok.bs,ok.bsz,ok.noex,ok.exfs,ok.funs,ok.frf⟩
section
variable {X:Cx} {pins:List (Addr × Obj)} {σ:St} {H:Hp} {s:Shared} {E:Value → Shared → Prop}
theorem Inv.wish (I:Inv X pins σ H s) (E:Value → Shared → Prop):Inv (X.wish E) pins σ H s:=⟨I.ok.wish E,I.os,I.bare,I.base,I.loc,I.cell,I.free,I.freeC,I.pin,I.hok,I.len⟩
theorem Inv.unwish (I:Inv (X.wish E) pins σ H s):Inv X pins σ H s:=⟨I.ok.unwish,I.os,I.bare,I.base,I.loc,I.cell,I.free,I.freeC,I.pin,I.hok,I.len⟩
theorem SP.unwish {D:Ends} {f:Flow} {s':Shared} (h:SP (X.wish E) pins D f s'):SP X pins D f s':=by
  cases f with
  | next=>obtain ⟨σ',H',I,q⟩:=h; exact ⟨σ',H',I.unwish,q⟩
  | brk=>obtain ⟨σ',H',I,q⟩:=h; exact ⟨σ',H',I.unwish,q⟩
  | cont=>obtain ⟨σ',H',I,q⟩:=h; exact ⟨σ',H',I.unwish,q⟩
  | ret u=>obtain ⟨v,σ',H',I,r,q⟩:=h; exact ⟨v,σ',H',I.unwish,r,q⟩
theorem PE.nox {e:Expr} {t:TE} (h:PE X.nox e t):PE X e t:=fun pins s σ H Q I hw =>
  wpC_mono (h pins s σ H Q (I.wish _) hw) (fun _ _ ⟨v,H',I',r,q⟩=>⟨v,H',I'.unwish,r,q⟩) fun _ _ z=>False.elim z
theorem PSs.nox {st:List Stmt} {t:TS} (h:PSs X.nox st t):PSs X st t:=fun pins s σ H D I hw =>
  wpC_mono (h pins s σ H D (I.wish _) hw) (fun _ _ q=>q.unwish) fun _ _ z=>False.elim z
end
section
variable {X:Cx} {st:Stmt} {rest:List Stmt} {t u:TS} {e:Expr} {te:TE} {pos:Pos}
def tNext:TS:=fun D σ H=>D.nx σ H
def tSeq (t u:TS):TS:=fun D σ H=>t { D with nx:=u D } σ H
theorem pss_nil:PSs X [] tNext:=fun _ _ σ H _ I h=>wpC_execs_nil ⟨σ,H,I,h⟩
theorem pss_cons (h1:PS X st t) (h2:PSs X rest u):PSs X (st :: rest) (tSeq t u):=by
  intro pins s σ H D I h
  refine wpC_execs_cons (thn (h1 pins s σ H { D with nx:=u D } I h) fun f s1 q=>?_)
  cases f with
  | next =>
    obtain ⟨σ',H',I',q⟩:=q
    exact h2 pins s1 σ' H' D I' q
  | ret v=>exact q
  | brk=>exact q
  | cont=>exact q
theorem pss_one (h1:PS X st t):PSs X [st] t:=by
  intro pins s σ H D I h
  refine wpC_execs_cons (thn (h1 pins s σ H D I h) fun f s1 q=>?_)
  cases f with
  | next=>exact wpC_execs_nil q
  | ret v=>exact q
  | brk=>exact q
  | cont=>exact q
theorem Inv.quiet {pins:List (Addr × Obj)} {σ:St} {H:Hp} {s:Shared} (I:Inv X pins σ H s):interactive X.env = false:=by simp [interactive,I.ok.kind]
def tDrop (te:TE):TS:=fun D σ H=>te σ H fun _ H1=>D.nx σ H1
theorem ps_expr (he:PE X e te) (hs:swapsWith e none pos.line X.env = pure false:=by rfl):PS X (.Expr e pos) (tDrop te):=by
  intro pins s σ H D I h
  exact wpC_Expr_any (thn (he pins s σ H _ I h) fun v s1 ⟨x,H1,I1,r1,q1⟩=>⟨σ,H1,I1,q1⟩) I.quiet hs
def tRet (te:TE):TS:=fun D σ H=>te σ H D.rt
theorem ps_ret (he:PE X e te):PS X (.Return (some e) pos) (tRet te):=by
  intro pins s σ H D I h
  exact wpC_Return_some (thn (he pins s σ H _ I h) fun v s1 ⟨x,H1,I1,r1,q1⟩=>⟨x,σ,H1,I1,r1,q1⟩)
def tIfS (c:TT) (t u:TS):TS:=fun D σ H=>c σ H fun b H1=>if b = true then t D σ H1 else u D σ H1
theorem ps_if {c:Expr} {a b:List Stmt} {tc:TT} (hc:PT X c tc) (ha:PSs X a t) (hb:PSs X b u):PS X (.If c a b pos) (tIfS tc t u):=by
  intro pins s σ H D I h
  refine wpC_If (thn (hc pins s σ H _ I h) fun d s1 ⟨H1,I1,q1⟩=>?_)
  cases d with
  | true=>exact ha pins s1 σ H1 D I1 q1
  | false=>exact hb pins s1 σ H1 D I1 q1
def tNever:TS:=fun _ _ _=>False
theorem ps_never:PS X st tNever:=fun _ _ _ _ _ _ h=>h.elim
theorem pss_never {sts:List Stmt}:PSs X sts tNever:=fun _ _ _ _ _ _ h=>h.elim
end
abbrev TG:=V → St → Hp → (St → Hp → Prop) → Prop
abbrev TGs:=List V → St → Hp → (St → Hp → Prop) → Prop
def PG (X:Cx) (target:Expr) (t:TG):Prop :=
  ∀ (pins:List (Addr × Obj)) (s:Shared) (σ:St) (H:Hp) (v:V) (u:Value) (Q:St → Hp → Prop),Inv X pins σ H s → RelV v u → t v σ H Q →
    wpC (model X.prog X.w) X.A (assign target X.env u) (fun _ s'=>∃ σ' H',Inv X pins σ' H' s' ∧ Q σ' H') X.xe s
def PGs (X:Cx) (ts:List Expr) (t:TGs):Prop :=
  ∀ (pins:List (Addr × Obj)) (s:Shared) (σ:St) (H:Hp) (vs:List V) (us:List Value) (Q:St → Hp → Prop),Inv X pins σ H s → Vals vs us → t vs σ H Q →
    wpC (model X.prog X.w) X.A (assignInOrder ((assignEach ts X.env).map (·.2)) us) (fun _ s'=>∃ σ' H',Inv X pins σ' H' s' ∧ Q σ' H') X.xe s
abbrev TSet:=V → V → V → Hp → (Hp → Prop) → Prop
def PSet (X:Cx) (t:TSet):Prop :=
  ∀ (pins:List (Addr × Obj)) (s:Shared) (σ:St) (H:Hp) (o i v:V) (ov iv u:Value) (Q:Hp → Prop),Inv X pins σ H s → RelV o ov → RelV i iv → RelV v u → t o i v H Q →
    wpC (model X.prog X.w) X.A (setItem ov iv u) (fun _ s'=>∃ H',Inv X pins σ H' s' ∧ Q H') X.xe s
section
variable {X:Cx} {pos:Pos}
def gName (i:Nat):TG:=fun v σ H Q=>Q (σ.set i (some v)) H
theorem pg_name {i:Nat} {x:Str} (hN:X.N.Nodup) (hi:X.N[i]? = some x) (hx:Loc X.env.scope x) (hf:X.fn x = true ∨ X.env.scope.names.lookup x = some .local:=by first | exact .inl rfl | exact .inr rfl | assumption):PG X (.Name x pos) (gName i):=by
  intro pins s σ H v u Q I r h
  exact wpC_assign_Name (store_ok I hN hi hx r (fun s' I'=>⟨_,H,I',h⟩) hf)
def gNil:TGs:=fun vs σ H Q=>vs = [] ∧ Q σ H
def gCons (t:TG) (u:TGs):TGs:=fun vs σ H Q=>∃ v r,vs = v :: r ∧ t v σ H fun σ' H'=>u r σ' H' Q
theorem pgs_nil:PGs X [] gNil:=by
  intro pins s σ H vs us Q I r h
  obtain ⟨e,h⟩:=h
  subst e
  cases r
  exact assignInOrder_nil ⟨σ,H,I,h⟩
theorem pgs_cons {e:Expr} {es:List Expr} {t:TG} {u:TGs} (h1:PG X e t) (h2:PGs X es u)
    (hs:(assignEach (e :: es) X.env).map (·.2) = assign e X.env :: (assignEach es X.env).map (·.2):=by rfl):PGs X (e :: es) (gCons t u):=by
  intro pins s σ H vs us Q I r h
  obtain ⟨v,vr,e1,h⟩:=h
  subst e1
  cases r with
  | cons r rr =>
    rw [hs]
    refine assignInOrder_cons (thn (h1 pins s σ H _ _ _ I r h) fun _ s1 ⟨σ1,H1,I1,q1⟩=>?_)
    exact h2 pins s1 σ1 H1 _ _ Q I1 rr q1
def gTup (K:PySem.W.Frag) (n:Nat) (t:TGs):TG:=fun v σ H Q=>∃ a xs,v = .ref a ∧ SqT K H a xs ∧ xs.length = n ∧ t xs σ H Q
theorem pg_tup {es:List Expr} {k:Nat} {t:TGs} {n:Nat} (hc:X.calm = true) (h:PGs X es t)
    (hn:(assignEach es X.env).length = n:=by rfl) (hst:(assignEach es X.env).findIdx? (·.1) = none:=by rfl):PG X (.Tuple es k pos) (gTup X.K n t):=by
  intro pins s σ H v u Q I r hw
  obtain ⟨a,xs,e1,hq,hl,hw⟩:=hw
  subst e1
  cases r
  obtain ⟨its,rv,ht,hz⟩:=I.tuple hq
  refine assign_Tuple_tuple (I.ok.hd hc) ht (by simp [hn,← hl,rv.length]) hst fun h' hx=>?_
  have I1:Inv X pins σ H { s with heap:=h' }:=I.kept (t':=s.toks) fun b o e=>hx b o (Nat.ne_of_lt (Heap.lt_size e)) e
  exact h pins _ σ H xs _ Q I1 (by simpa using rv) hw
def gSub (to ti:TE) (t:TSet):TG:=fun v σ H Q=>to σ H fun o H1=>ti σ H1 fun i H2=>t o i v H2 fun H3=>Q σ H3
theorem pg_sub {o i:Expr} {to ti:TE} {t:TSet} (ho:PE X o to) (hi:PE X i ti) (hs:PSet X t)
    (ha:∀ v,assign (.Subscript o i pos) X.env v = (do
      let ov ← holding [v] (eval o X.env)
      let iv ← holding [v,ov] (eval i X.env)
      standAt pos
      holding [v,ov,iv] (setItem ov iv v)
      release [v,ov,iv] []):=by intro _; rfl):PG X (.Subscript o i pos) (gSub to ti t):=by
  intro pins s σ H v u Q I r h
  rw [ha]
  refine wpC_bind (wpC_holding (thn (ho pins s σ H _ I h) fun ov s1 ⟨x,H1,I1,r1,q1⟩=>?_))
  refine wpC_bind (wpC_holding (thn (hi pins s1 σ H1 _ I1 q1) fun iv s2 ⟨y,H2,I2,r2,q2⟩=>?_))
  refine wpC_bind (wpC_standAt (wpC_bind (wpC_holding (thn (hs pins s2 σ H2 x y v ov iv u _ I2 r1 r2 r q2) fun _ s3 ⟨H3,I3,q3⟩=>?_))))
  exact wpC_release ⟨σ,H3,I3,q3⟩
def tAsg (te:TE) (g:TG):TS:=fun D σ H=>te σ H fun x H1=>g x σ H1 D.nx
theorem ps_asg {tg e:Expr} {te:TE} {g:TG} (he:PE X e te) (hg:PG X tg g) (hs:swapsWithSole [tg] e pos.line X.env = pure false:=by rfl) (hw:swappedStores [tg] e X.env = pure none:=by rfl)
    (h1:(assignEach [tg] X.env).map (·.2) = [assign tg X.env]:=by rfl):PS X (.Assign [tg] e pos) (tAsg te g):=by
  intro pins s σ H D I h
  refine wpC_Assign_stores (thn (he pins s σ H _ I h) fun v s1 ⟨x,H1,I1,r1,q1⟩=>?_) hs hw
  rw [h1]
  exact thn (hg pins s1 σ H1 x v _ I1 r1 q1) fun _ s2 q=>q
theorem ps_set {i:Nat} {x:Str} {e:Expr} {te:TE} {pos':Pos} (hN:X.N.Nodup) (hi:X.N[i]? = some x) (hx:Loc X.env.scope x) (he:PE X e te) (hs:swapsWith e (some (.Name x pos')) pos.line X.env = pure false:=by rfl) (hf:X.fn x = true ∨ X.env.scope.names.lookup x = some .local:=by first | exact .inl rfl | exact .inr rfl | assumption) :
    PS X (.Assign [.Name x pos'] e pos) (tAsg te (gName i)):=by
  intro pins s σ H D I h
  refine wpC_Assign_Name (thn (he pins s σ H _ I h) fun v s1 ⟨y,H1,I1,r1,q1⟩=>?_) hs
  exact store_ok I1 hN hi hx r1 (fun s2 I2=>⟨_,H1,I2,q1⟩) hf
def tPar (i j:Nat) (ta:TA):TS:=fun D σ H=>ta σ H fun vs H1=>∃ v w,vs = [v,w] ∧ D.nx ((σ.set i (some v)).set j (some w)) H1
theorem ps_par {i j:Nat} {x y:Str} {a b:Expr} {ta:TA} {px py pt:Pos} {kt k2 pt2} (hc:X.calm = true) (hN:X.N.Nodup) (hi:X.N[i]? = some x) (hj:X.N[j]? = some y) (hij:i ≠ j)
    (hx:X.env.scope.names.lookup x = some .local) (hy:X.env.scope.names.lookup y = some .local) (ha:PA X [a,b] ta)
    (hw:swappedStores [.Tuple [.Name x px,.Name y py] kt pt] (.Tuple [a,b] k2 pt2) X.env = pure (some [x,y]))
    (hs:swapsWithSole [.Tuple [.Name x px,.Name y py] kt pt] (.Tuple [a,b] k2 pt2) pos.line X.env = pure false:=by rfl) :
    PS X (.Assign [.Tuple [.Name x px,.Name y py] kt pt] (.Tuple [a,b] k2 pt2) pos) (tPar i j ta):=by
  intro pins s σ H D I h
  rw [exec_Assign_arm]
  refine wpC_bind (wpC_standAt ?_)
  rw [hs]
  refine wpC_bind (wpC_pure ?_)
  rw [if_neg (by decide)]
  refine wpC_bind (Tuple_ (thn (ha _ pins s σ H _ I h) fun us s1 ⟨vs,H1,I1,r1,q1⟩=>?_))
  obtain ⟨v,w,e1,q1⟩:=q1
  subst e1
  obtain ⟨u1,u2,rfl,rv,rw'⟩:∃ u1 u2,us = [u1,u2] ∧ RelV v u1 ∧ RelV w u2:=by
    cases r1 with
    | cons p q =>
      cases q with
      | cons p' q' =>
        cases q'
        exact ⟨_,_,rfl,p,p'⟩
  refine wpC_newObj_type ?_ (by show 2 ≤ sizeLine; decide)
  have I2:Inv X pins σ H1 { s1 with heap:=s1.heap.push { cls:=.type "tuple",data:=.seq [u1,u2].toArray } }:=I1.kept (t':=s1.toks) fun b o e=>Heap.get?_push_of_some _ e
  rw [hw]
  refine wpC_bind (wpC_pure ?_)
  show wpC (model X.prog X.w) X.A (do rule "assign.swapped-stores"; let items ← unpackItems (.ref s1.heap.objs.size) 2 none; assignInOrder [fun v=>bindName X.env y v,fun v=>bindName X.env x v] items.reverse; pure Flow.next) _ _ _
  refine wpC_bind (wpC_rule (wpC_bind (unpackItems_tuple (items:=#[u1,u2]) (I.ok.hd hc) (IsTup.new s1.heap _) fun h' hx'=>?_)))
  have I3:=I2.kept (h':=h') (t':=s1.toks) fun b o e=>hx' b o (Nat.ne_of_lt (Heap.lt_size e)) e
  show wpC _ _ (assignInOrder [fun v=>bindName X.env y v,fun v=>bindName X.env x v] [u2,u1] >>= fun _=>pure Flow.next) _ _ _
  refine wpC_bind (assignInOrder_cons (wpC_bindName (store_ok I3 hN hj (.inl hy) rw' (fun s2 I4=>?_) (.inr hy))))
  refine assignInOrder_cons (wpC_bindName (store_ok I4 hN hi (.inl hx) rv (fun s3 I5=>assignInOrder_nil (wpC_pure ?_)) (.inr hx)))
  rw [List.set_comm _ _ (Ne.symm hij)] at I5
  exact ⟨_,H1,I5,q1⟩
end
section
variable {X:Cx} {pos:Pos}
def tWhile (c:TT) (tb:TS):TS:=fun D σ H=>∃ W:Nat → St → Hp → Prop,(∃ m,W m σ H) ∧ ∀ m σ H,W m σ H →
  c σ H fun b H1=>if b = true then ∃ N:St → Hp → Prop,(∀ σ' H',N σ' H' → ∃ m',m' < m ∧ W m' σ' H') ∧ tb { D with nx:=N,ct:=N,bk:=D.nx } σ H1 else D.nx σ H1
theorem ps_while {c:Expr} {body:List Stmt} {tc:TT} {tb:TS} (hp:PassesOwn (model X.prog X.w) X.A X.env X.xe) (hc:PT X c tc) (hb:PSs X body tb):PS X (.While c body [] pos) (tWhile tc tb):=by
  intro pins s σ H D I h
  obtain ⟨W,⟨m0,w0⟩,turn⟩:=h
  refine wpC_While (codeC_whileLoop (fun n s'=>∃ σ' H',Inv X pins σ' H' s' ∧ W n σ' H') ?_ m0 ⟨σ,H,I,w0⟩)
  rintro n s1 ⟨σ1,H1,I1,w1⟩
  refine wpC_passesOwn hp (thn (hc pins s1 σ1 H1 _ I1 (turn n σ1 H1 w1)) fun b s2 ⟨H2,I2,q2⟩=>?_)
  cases b with
  | true =>
    obtain ⟨N,hN,q2⟩:=q2
    rw [if_pos rfl]
    refine wpC_passesOwn hp (thn (hb pins s2 σ1 H2 _ I2 q2) fun f s3 q3=>?_)
    cases f with
    | next =>
      obtain ⟨σ3,H3,I3,n3⟩:=q3
      obtain ⟨m',hm,w3⟩:=hN σ3 H3 n3
      exact ⟨m',hm,σ3,H3,I3,w3⟩
    | cont =>
      obtain ⟨σ3,H3,I3,n3⟩:=q3
      obtain ⟨m',hm,w3⟩:=hN σ3 H3 n3
      exact ⟨m',hm,σ3,H3,I3,w3⟩
    | brk=>exact q3
    | ret v=>exact q3
  | false =>
    rw [if_neg Bool.false_ne_true]
    exact wpC_execs_nil ⟨σ1,H2,I2,q2⟩
end
structure It where
  go:Nat → Hp → Prop
  yld:Nat → Hp → V → Hp → Prop
  stop:Nat → Hp → Prop
def FpOk (X:Cx) (pins:List (Addr × Obj)) (H:Hp) (b:Addr):Prop :=
  H b = none ∧ b ≠ X.env.locals ∧ b ∉ X.fs ∧ (b ∈ X.ex ∨ X.s₀.heap.objs.size ≤ b) ∧ (∀ x c,X.env.cells.lookup x = some c → c ≠ b) ∧ ∀ p ∈ X.pn ++ pins,p.1 ≠ b
theorem Inv.fpOk {X:Cx} {pins:List (Addr × Obj)} {σ:St} {H H':Hp} {s:Shared} {b:Addr} (I:Inv X pins σ H s) (hb:s.heap.objs.size ≤ b) (hn:H' b = none):FpOk X pins H' b:=by
  refine ⟨hn,Nat.ne_of_gt (Nat.lt_of_lt_of_le I.lt hb),I.nofs hb,.inr (Nat.le_trans I.sz hb),fun x c e z=>?_,fun p hp z=>?_⟩
  · obtain ⟨v,q⟩:=I.cell x c e
    exact absurd (Nat.lt_of_lt_of_le q.lt (by rw [z]; exact hb)) (Nat.lt_irrefl _)
  · exact absurd (Nat.lt_of_lt_of_le (Heap.lt_size (I.pin p hp).1) (by rw [z]; exact hb)) (Nat.lt_irrefl _)
structure Turn (P:Program) (w:World) (K:PySem.W.Frag) (tg:Expr) (J:It) (fp:List Addr) (it:Addr) (tn:Nat → Heap → Prop):Prop where
  mem:it ∈ fp
  obj:∀ i h,tn i h → ∀ b ∈ fp,∃ o,h.get? b = some o ∧ ∀ v,o.data ≠ .cell v
  keep:∀ i h h',tn i h → (∀ b ∈ fp,∀ o,h.get? b = some o → h'.get? b = some o) → tn i h'
  item:∀ (X:Cx),X.prog = P → X.w = w → X.K = K → X.calm = true → ∀ (i:Nat) (pins:List (Addr × Obj)) (s:Shared) (σ:St) (H:Hp) (E:Value → Shared → Prop),Inv X pins σ H s → (∀ b ∈ fp,FpOk X pins H b) → tn i s.heap → J.go i H →
    wpC (model P w) X.A (pyNext (.ref it)) (fun r s1=>∃ u,r = some u ∧
      wpC (model P w) X.A (letOwnedTupleGo tg (.ref it) u) (fun _ s2=>∃ x H',Inv X pins σ H' s2 ∧ RelV x u ∧ J.yld i H x H' ∧ tn (i + 1) s2.heap ∧ ∀ b ∈ fp,H' b = none) E s1) E s
  done:∀ (X:Cx),X.prog = P → X.w = w → X.K = K → X.calm = true → ∀ (i:Nat) (pins:List (Addr × Obj)) (s:Shared) (σ:St) (H:Hp) (E:Value → Shared → Prop),Inv X pins σ H s → (∀ b ∈ fp,FpOk X pins H b) → tn i s.heap → J.stop i H →
    wpC (model P w) X.A (pyNext (.ref it)) (fun r s1=>r = none ∧ Inv X pins σ H s1) E s
  self:∀ (A:Around) (i:Nat) (s:Shared) (Q:Value → Shared → Prop) (E:Value → Shared → Prop),tn i s.heap → Q (.ref it) s → wpC (model P w) A (pyIter (.ref it)) Q E s
abbrev TI:=St → Hp → (It → Hp → Prop) → Prop
def PIE (X:Cx) (pins:List (Addr × Obj)) (σ:St) (tg:Expr) (R:It → Hp → Prop) (itv:Value) (s2:Shared):Prop :=
  ∃ (it:Addr) (fp:List Addr) (tn:Nat → Heap → Prop) (J:It) (H':Hp),itv = .ref it ∧ Inv X pins σ H' s2 ∧ Turn X.prog X.w X.K tg J fp it tn ∧ tn 0 s2.heap ∧ (∀ b ∈ fp,FpOk X pins H' b) ∧ R J H'
def PI (X:Cx) (tg iter:Expr) (wi:TI):Prop :=
  ∀ (pins:List (Addr × Obj)) (s:Shared) (σ:St) (H:Hp) (R:It → Hp → Prop),Inv X pins σ H s → wi σ H R →
    wpC (model X.prog X.w) X.A (eval iter X.env) (fun v s1=>wpC (model X.prog X.w) X.A (pyIter v) (PIE X pins σ tg R) X.xe s1) X.xe s
theorem go_of {M:Model} {A:Around} {E:Value → Shared → Prop} {s:Shared} {tg:Expr} {it:Addr} {u:Value} {o:Obj} {n:String} {vs:Array Value} {Q:Unit → Shared → Prop} (ho:s.heap.get? it = some o) (hc:o.cls = .type n) (hd:o.data = .fields vs)
    (hn:["enumerate", "zip", "dict_itemiterator", "dict_reverseitemiterator", "odict_iterator", "itertools.zip_longest", "itertools.pairwise"].contains n = false) (hQ:Q () s):wpC M A (letOwnedTupleGo tg (.ref it) u) Q E s:=by
  unfold letOwnedTupleGo
  cases tg <;> first
    | exact wpC_pure hQ
    | (cases u <;> first
        | exact wpC_pure hQ
        | (refine wpC_bind (wpC_load ho ?_)
           rw [hc,hd]
           show wpC M A (if (["enumerate", "zip", "dict_itemiterator", "dict_reverseitemiterator", "odict_iterator", "itertools.zip_longest", "itertools.pairwise"].contains n && vs[0]? == some (rawInt _)) = true then _ else _) Q E s
           rw [if_neg (by intro h; rw [hn,Bool.false_and] at h; cases h)]
           exact wpC_pure hQ))
def Itl (K:PySem.W.Frag) (a:Addr):It :=
  ⟨fun i H=>∃ xs x,SqL K H a xs ∧ xs[i]? = some x,fun i H x H'=>H' = H ∧ ∀ xs,SqL K H a xs → xs[i]? = some x,fun i H=>∃ xs,SqL K H a xs ∧ xs.length ≤ i⟩
def Itt (K:PySem.W.Frag) (a:Addr):It :=
  ⟨fun i H=>∃ xs x,SqT K H a xs ∧ xs[i]? = some x,fun i H x H'=>H' = H ∧ ∀ xs,SqT K H a xs → xs[i]? = some x,fun i H=>∃ xs,SqT K H a xs ∧ xs.length ≤ i⟩
def Itr (lo:Int) (n:Nat):It:=⟨fun i _=>i < n,fun i H x H'=>H' = H ∧ x = .int (lo + i),fun i _=>n ≤ i⟩
theorem turn_list {P:Program} {w:World} {K:PySem.W.Frag} {tg:Expr} (a it:Addr):Turn P w K tg (Itl K a) [it] it (fun i h=>h.IsListIter it a i) where
  mem:=by simp
  obj:=fun i h st b hb=>by
    have e:b = it:=by simpa using hb
    subst e
    obtain ⟨o,e,c,d⟩:=st
    exact ⟨o,e,fun v z=>by rw [d] at z; cases z⟩
  keep:=fun i h h' st k=>st.at fun o e=>k it (by simp) o e
  item:=by
    intro X hP hw hK hc i pins s σ H E I hf st hg
    subst hP hw hK
    obtain ⟨xs,x,hq,hx⟩:=hg
    obtain ⟨its,rv,p,hz⟩:=I.list hq
    obtain ⟨u,hu,ru⟩:=rv.get hx
    obtain ⟨f0,f1,f2,f3,f4,f5⟩:=hf it (by simp)
    refine wpC_pyNext_list_item st p.isList (x:=u) (by simpa using hu) fun h' st' sb=>?_
    have I1:Inv X pins σ H { s with heap:=h' }:=I.turned (t':=s.toks) (fun b o hb e=>(sb.2 b hb).trans e) f0 f1 f3 f4 f5
    obtain ⟨o,e,c,d⟩:=id st'
    exact ⟨u,rfl,go_of (s:={ s with heap:=h' }) e c d (by decide) ⟨x,H,I1,ru,⟨rfl,fun ys hy=>by rw [I.list_inj hy hq]; exact hx⟩,st',fun b hb=>(hf b hb).1⟩⟩
  done:=by
    intro X hP hw hK hc i pins s σ H E I hf st hg
    subst hP hw hK
    obtain ⟨xs,hq,hx⟩:=hg
    obtain ⟨its,rv,p,hz⟩:=I.list hq
    obtain ⟨f0,f1,f2,f3,f4,f5⟩:=hf it (by simp)
    have hl:=rv.length
    exact wpC_pyNext_list_end (I.ok.hd hc) st p.isList (by simp; omega) fun h' eb=>⟨rfl,I.turned (t':=s.toks) (fun b o hb e=>eb b o hb e) f0 f1 f3 f4 f5⟩
  self:=fun _ _ _ _ _ st h=>wpC_pyIter_listiter st h
theorem turn_tuple {P:Program} {w:World} {K:PySem.W.Frag} {tg:Expr} (a it:Addr):Turn P w K tg (Itt K a) [it] it (fun i h=>h.IsTupleIter it a i) where
  mem:=by simp
  obj:=fun i h st b hb=>by
    have e:b = it:=by simpa using hb
    subst e
    obtain ⟨o,e,c,d⟩:=st
    exact ⟨o,e,fun v z=>by rw [d] at z; cases z⟩
  keep:=fun i h h' st k=>st.at fun o e=>k it (by simp) o e
  item:=by
    intro X hP hw hK hc i pins s σ H E I hf st hg
    subst hP hw hK
    obtain ⟨xs,x,hq,hx⟩:=hg
    obtain ⟨its,rv,p,hz⟩:=I.tuple hq
    obtain ⟨u,hu,ru⟩:=rv.get hx
    obtain ⟨f0,f1,f2,f3,f4,f5⟩:=hf it (by simp)
    refine wpC_pyNext_tuple_item st (show s.heap.IsTuple a its.toArray from p) (x:=u) (by simpa using hu) fun h' st' sb=>?_
    have I1:Inv X pins σ H { s with heap:=h' }:=I.turned (t':=s.toks) (fun b o hb e=>(sb.2 b hb).trans e) f0 f1 f3 f4 f5
    obtain ⟨o,e,c,d⟩:=id st'
    exact ⟨u,rfl,go_of (s:={ s with heap:=h' }) e c d (by decide) ⟨x,H,I1,ru,⟨rfl,fun ys hy=>by rw [I.tuple_inj hy hq]; exact hx⟩,st',fun b hb=>(hf b hb).1⟩⟩
  done:=by
    intro X hP hw hK hc i pins s σ H E I hf st hg
    subst hP hw hK
    obtain ⟨xs,hq,hx⟩:=hg
    obtain ⟨its,rv,p,hz⟩:=I.tuple hq
    obtain ⟨f0,f1,f2,f3,f4,f5⟩:=hf it (by simp)
    have hl:=rv.length
    exact wpC_pyNext_tuple_end (I.ok.hd hc) st (show s.heap.IsTuple a its.toArray from p) (by simp; omega) fun h' eb=>⟨rfl,I.turned (t':=s.toks) (fun b o hb e=>eb b o hb e) f0 f1 f3 f4 f5⟩
  self:=fun _ _ _ _ _ st h=>wpC_pyIter_tupleiter st h
theorem turn_range {P:Program} {w:World} {K:PySem.W.Frag} {tg:Expr} (it:Addr) (lo:Int) (n:Nat):Turn P w K tg (Itr lo n) [it] it (fun i h=>IsRangeIter h it (lo + (i:Nat) * 1) ((n:Int) - (i:Nat)) 1) where
  mem:=by simp
  obj:=fun i h st b hb=>by
    have e:b = it:=by simpa using hb
    subst e
    exact ⟨_,st,fun v z=>by
      have z':Data.fields _ = Data.cell v:=z
      cases z'⟩
  keep:=fun i h h' st k=>k it (by simp) _ st
  item:=by
    intro X hP hw hK hc i pins s σ H E I hf st hg
    subst hP hw hK
    obtain ⟨f0,f1,f2,f3,f4,f5⟩:=hf it (by simp)
    have W:=Walks.range (prog:=X.prog) (w:=X.w) (I.ok.hd hc) it lo 1 n
    refine PySem.wpAny.cc <| W.item i s _ _ hg st fun v h' tk hv st' kk=>?_
    obtain ⟨t,rfl⟩:=hv
    have I1:Inv X pins σ H { s with heap:=h',toks:=tk }:=I.turned (fun b o hb e=>kk b o (by simpa using hb) e) f0 f1 f3 f4 f5
    refine ⟨_,rfl,go_of (s:={ s with heap:=h',toks:=tk }) (n := "range_iterator") st' rfl rfl (by decide) ⟨.int (lo + i),H,I1,⟨t,?_⟩,⟨rfl,rfl⟩,st',fun b hb=>(hf b hb).1⟩⟩
    rw [Int.mul_one]
  done:=by
    intro X hP hw hK hc i pins s σ H E I hf st hg
    subst hP hw hK
    obtain ⟨f0,f1,f2,f3,f4,f5⟩:=hf it (by simp)
    exact wpC_pyNext_range_end (I.ok.hd hc) st (by have:n ≤ i:=hg; omega) fun h' eb=>⟨rfl,I.turned (t':=s.toks) (fun b o hb e=>eb b o hb e) f0 f1 f3 f4 f5⟩
  self:=fun _ _ _ _ _ st h=>wpC_pyIter_rangeiter st h
end L2
namespace L2
open PySem PySem.Spec PyProof.Rows
section
variable {X:Cx} {tg:Expr}
def iList (K:PySem.W.Frag) (tl:TE):TI:=fun σ H R=>tl σ H fun x H1=>∃ a,x = .ref a ∧ (∃ xs,SqL K H1 a xs) ∧ R (Itl K a) H1
def iTup (K:PySem.W.Frag) (tl:TE):TI:=fun σ H R=>tl σ H fun x H1=>∃ a,x = .ref a ∧ (∃ xs,SqT K H1 a xs) ∧ R (Itt K a) H1
theorem pi_list {l:Expr} {tl:TE} (hl:PE X l tl):PI X tg l (iList X.K tl):=by
  intro pins s σ H R I h
  refine thn (hl pins s σ H _ I h) fun v s1 hq9=>?_
  obtain ⟨x,H1,I1,r1,q1⟩:=hq9
  obtain ⟨a,e,⟨xs,hq⟩,q⟩:=q1
  subst e
  cases r1
  obtain ⟨its,rv,p,hz⟩:=I1.list hq
  refine wpC_pyIter_list p.isList ?_
  refine ⟨s1.heap.objs.size,[s1.heap.objs.size],_,_,H1,rfl,I1.kept (t':=s1.toks) fun b o e=>Heap.get?_push_of_some _ e,turn_list a _,⟨_,Heap.get?_push_size _ rfl,rfl,rfl⟩,fun b hb=>?_,q⟩
  have e:b = s1.heap.objs.size:=by simpa using hb
  subst e
  exact I1.fpOk (Nat.le_refl _) (I1.hok.fresh (Nat.le_refl _))
theorem pi_tup {l:Expr} {tl:TE} (hl:PE X l tl):PI X tg l (iTup X.K tl):=by
  intro pins s σ H R I h
  refine thn (hl pins s σ H _ I h) fun v s1 hq9=>?_
  obtain ⟨x,H1,I1,r1,q1⟩:=hq9
  obtain ⟨a,e,⟨xs,hq⟩,q⟩:=q1
  subst e
  cases r1
  obtain ⟨its,rv,p,hz⟩:=I1.tuple hq
  refine wpC_pyIter_tuple (show s1.heap.IsTuple a its.toArray from p) ?_
  refine ⟨s1.heap.objs.size,[s1.heap.objs.size],_,_,H1,rfl,I1.kept (t':=s1.toks) fun b o e=>Heap.get?_push_of_some _ e,turn_tuple a _,⟨_,Heap.get?_push_size _ rfl,rfl,rfl⟩,fun b hb=>?_,q⟩
  have e:b = s1.heap.objs.size:=by simpa using hb
  subst e
  exact I1.fpOk (Nat.le_refl _) (I1.hok.fresh (Nat.le_refl _))
theorem range_it {pins:List (Addr × Obj)} {σ:St} {H:Hp} {s:Shared} {R:It → Hp → Prop} {E:Value → Shared → Prop} {lo hi:Int} {t u v:Tok} {tk:Nat} (I:Inv X pins σ H s) (h1:-(2 ^ 62) ≤ lo) (h2:lo < 2 ^ 62) (h3:-(2 ^ 62) ≤ hi) (h4:hi < 2 ^ 62)
    (q:R (Itr lo (hi - lo).toNat) H):wpC (model X.prog X.w) X.A (pyIter (.ref s.heap.objs.size)) (PIE X pins σ tg R) E { s with heap:=s.heap.push { cls:=.type "range",data:=.fields #[.int lo t,.int hi u,.int 1 v] },toks:=tk }:=by
  refine wpC_pyIter_range (IsRange.new ..) (small_one h1 h2 h3 h4) ?_
  have I1:Inv X pins σ H { s with heap:=s.heap.push { cls:=.type "range",data:=.fields #[.int lo t,.int hi u,.int 1 v] },toks:=tk }:=I.kept fun b o e=>Heap.get?_push_of_some _ e
  refine ⟨(s.heap.push { cls:=.type "range",data:=.fields #[.int lo t,.int hi u,.int 1 v] }).objs.size,[(s.heap.push { cls:=.type "range",data:=.fields #[.int lo t,.int hi u,.int 1 v] }).objs.size],_,_,H,rfl,
    I1.kept (t':=tk) fun b o e=>Heap.get?_push_of_some _ e,turn_range _ lo (hi - lo).toNat,?_,fun b hb=>?_,q⟩
  · have e1:lo + ((0:Nat):Int) * 1 = lo:=by simp
    have e2:(((hi - lo).toNat:Nat):Int) - ((0:Nat):Int) = Builtin.Range.rangeSize lo hi 1:=by rw [rangeSize_one]; split <;> omega
    show IsRangeIter _ _ (lo + ((0:Nat):Int) * 1) ((((hi - lo).toNat:Nat):Int) - ((0:Nat):Int)) 1
    rw [e1,e2]
    exact Heap.get?_push_size _ rfl
  · have e:b = (s.heap.push { cls:=.type "range",data:=.fields #[.int lo t,.int hi u,.int 1 v] }).objs.size:=by simpa using hb
    subst e
    exact I1.fpOk (Nat.le_refl _) (I1.hok.fresh (Nat.le_refl _))
def iRng1 (ta:TA):TI:=fun σ H R=>ta σ H fun vs H1=>∃ j:Int,vs = [.int j] ∧ -(2 ^ 62) ≤ j ∧ j < 2 ^ 62 ∧ R (Itr 0 j.toNat) H1
theorem pi_range1 {a:Expr} {ta:TA} {p pos:Pos} (hg:Gl X "range") (hm:X.mg "range" = none) (ha:PA X [a] ta) (hs:starEach [a] X.env = [(false,eval a X.env)]:=by rfl):PI X tg (.Call (.Name "range" p) [a] [] pos) (iRng1 ta):=by
  intro pins s σ H R I h
  refine Call_ (ld_blt I hg hm boot_range (callWith_type1 (thn (ha pos pins s σ H _ I h) fun us s1 ⟨vs,H1,I1,r1,q1⟩=>?_) hs rfl))
  obtain ⟨j,e,q1,q2,q⟩:=q1
  subst e
  cases r1 with
  | cons r rr =>
    cases rr
    obtain ⟨t,rfl⟩:=r
    exact call_range_1 (range_it I1 (by omega) (by omega) q1 q2 (by simpa using q))
def tFor (wi:TI) (g:TG) (tb:TS):TS:=fun D σ H=>wi σ H fun J H1=>∃ W:Nat → Nat → St → Hp → Prop,(∃ m,W 0 m σ H1) ∧ ∀ i m σ H,W i m σ H →
  (J.stop i H ∧ D.nx σ H) ∨ (J.go i H ∧ ∃ N:St → Hp → Prop,(∀ σ' H',N σ' H' → ∃ m',m' < m ∧ W (i + 1) m' σ' H') ∧ ∀ x H',J.yld i H x H' → g x σ H' fun σ2 H2=>tb { D with nx:=N,ct:=N,bk:=D.nx } σ2 H2)
def pinsAt (fp:List Addr) (h:Heap):List (Addr × Obj):=fp.filterMap fun b=>(h.get? b).map fun o=>(b,o)
theorem mem_pinsAt {fp:List Addr} {h:Heap} {b:Addr} {o:Obj} (hb:b ∈ fp) (e:h.get? b = some o):(b,o) ∈ pinsAt fp h:=List.mem_filterMap.mpr ⟨b,hb,by rw [e]; rfl⟩
theorem of_pinsAt {fp:List Addr} {h:Heap} {p:Addr × Obj} (hp:p ∈ pinsAt fp h):p.1 ∈ fp ∧ h.get? p.1 = some p.2:=by
  obtain ⟨b,hb,e⟩:=List.mem_filterMap.mp hp
  cases q:h.get? b with
  | none=>rw [q] at e; cases e
  | some o =>
    rw [q] at e
    have e':(b,o) = p:=Option.some.inj e
    subst e'
    exact ⟨hb,q⟩
theorem Inv.pinned {pins:List (Addr × Obj)} {σ:St} {H:Hp} {s:Shared} {fp:List Addr} (I:Inv X pins σ H s) (hf:∀ b ∈ fp,FpOk X pins H b) (ho:∀ b ∈ fp,∃ o,s.heap.get? b = some o ∧ ∀ v,o.data ≠ .cell v):Inv X (pins ++ pinsAt fp s.heap) σ H s :=
  I.pins_of fun p hp=>(List.mem_append.mp hp).elim (fun z=>I.pin p (List.mem_append_right _ z)) fun z=>by
    obtain ⟨hb,e⟩:=of_pinsAt z
    obtain ⟨f0,f1,f2,_⟩:=hf p.1 hb
    obtain ⟨o,e',d⟩:=ho p.1 hb
    rw [e] at e'; cases e'
    exact ⟨e,f0,f1,f2,d⟩
theorem Inv.unpinned {pins pl:List (Addr × Obj)} {σ:St} {H:Hp} {s:Shared} (I:Inv X (pins ++ pl) σ H s):Inv X pins σ H s:=I.pins_of fun p hp=>I.pin p (List.mem_append_right _ (List.mem_append_left _ hp))
theorem ps_for {iter:Expr} {body:List Stmt} {wi:TI} {g:TG} {tb:TS} {pos:Pos} (hp:PassesOwn (model X.prog X.w) X.A X.env X.xe) (hc:X.calm = true) (hi:PI X tg iter wi) (hg:PG X tg g) (hb:PSs X body tb)
    (hs:∀ x,foldedSetIterable iter X.env x = pure x:=by intro _; rfl):PS X (.For tg iter body [] pos) (tFor wi g tb):=by
  intro pins s σ H D I h
  refine wpC_For (thn (hi pins s σ H _ I h) fun v s1 h1=>thn h1 fun itv s2 h2=>?_) hs
  obtain ⟨it,fp,tn,J,H2,e,I2,T,st2,f2,W,⟨m0,w0⟩,turn⟩:=h2
  subst e
  -- what stays true of the iterator's objects through the loop
  have stat:∀ {H':Hp},(∀ b ∈ fp,H' b = none) → ∀ b ∈ fp,FpOk X pins H' b:=fun hn b hb=>⟨hn b hb,(f2 b hb).2⟩
  refine codeC_forLoop_any (fun n s'=>∃ i σ' H',Inv X pins σ' H' s' ∧ tn i s'.heap ∧ (∀ b ∈ fp,H' b = none) ∧ W i n σ' H') ?_ m0 ⟨0,σ,H2,I2,st2,fun b hb=>(f2 b hb).1,w0⟩
  rintro n s3 ⟨i,σ3,H3,I3,st3,fr3,w3⟩
  rcases turn i n σ3 H3 w3 with ⟨stop,qn⟩ | ⟨go,N,hN,step⟩
  · refine wpC_passesOwn hp (thn (T.done X rfl rfl rfl hc i pins s3 σ3 H3 X.xe I3 (stat fr3) st3 stop) fun r s4 ⟨hr,I4⟩=>?_)
    subst hr
    exact wpC_execs_nil ⟨σ3,H3,I4,qn⟩
  · refine wpC_passesOwn hp (thn (T.item X rfl rfl rfl hc i pins s3 σ3 H3 X.xe I3 (stat fr3) st3 go) fun r s4 ⟨u,hr,h4⟩=>?_)
    subst hr
    refine wpC_passesOwn hp (thn h4 fun _ s5 ⟨x,H5,I5,r5,y5,st5,fr5⟩=>?_)
    have I5':=I5.pinned (stat fr5) (T.obj _ _ st5)
    refine wpC_passesOwn hp (thn (hg _ s5 σ3 H5 x u _ I5' r5 (step x H5 y5)) fun _ s6 ⟨σ6,H6,I6,q6⟩=>?_)
    refine wpC_passesOwn hp (thn (hb _ s6 σ6 H6 _ I6 q6) fun f s7 q7=>?_)
    have again:∀ {σ7:St} {H7:Hp},Inv X (pins ++ pinsAt fp s5.heap) σ7 H7 s7 → N σ7 H7 → ∃ m,m < n ∧ ∃ i σ' H',Inv X pins σ' H' s7 ∧ tn i s7.heap ∧ (∀ b ∈ fp,H' b = none) ∧ W i m σ' H':=fun {σ7 H7} I7 n7=>by
      obtain ⟨m',hm,w7⟩:=hN σ7 H7 n7
      refine ⟨m',hm,i + 1,σ7,H7,I7.unpinned,T.keep _ _ _ st5 fun b hb o e=>(I7.pin (b,o) (List.mem_append_right _ (List.mem_append_right _ (mem_pinsAt hb e)))).1,fun b hb=>?_,w7⟩
      obtain ⟨o,e,d⟩:=T.obj _ _ st5 b hb
      exact (I7.pin (b,o) (List.mem_append_right _ (List.mem_append_right _ (mem_pinsAt hb e)))).2.1
    cases f with
    | next=>obtain ⟨σ7,H7,I7,n7⟩:=q7; exact again I7 n7
    | cont=>obtain ⟨σ7,H7,I7,n7⟩:=q7; exact again I7 n7
    | brk=>obtain ⟨σ7,H7,I7,q7⟩:=q7; exact ⟨σ7,H7,I7.unpinned,q7⟩
    | ret v=>obtain ⟨x7,σ7,H7,I7,r7,q7⟩:=q7; exact ⟨x7,σ7,H7,I7.unpinned,r7,q7⟩
end
end L2
namespace L2
open PySem PySem.Spec PyProof.Rows
abbrev R2:=V → V → Hp → VK → Prop
def OpR (X:Cx) (f:Value → Value → Sem Value) (r:R2):Prop :=
  ∀ (pins:List (Addr × Obj)) (s:Shared) (σ:St) (H:Hp) (x y:V) (v u:Value) (Q:VK),Inv X pins σ H s → RelV x v → RelV y u → r x y H Q →
    wpC (model X.prog X.w) X.A (f v u) (EP X pins σ Q) X.xe s
def UnR (X:Cx) (f:Value → Sem Value) (r:V → Hp → VK → Prop):Prop :=
  ∀ (pins:List (Addr × Obj)) (s:Shared) (σ:St) (H:Hp) (x:V) (v:Value) (Q:VK),Inv X pins σ H s → RelV x v → r x H Q →
    wpC (model X.prog X.w) X.A (f v) (EP X pins σ Q) X.xe s
def CallR (X:Cx) (f:Value) (r:List V → Hp → VK → Prop):Prop :=
  ∀ (pins:List (Addr × Obj)) (s:Shared) (σ:St) (H:Hp) (xs:List V) (us:List Value) (Q:VK),Inv X pins σ H s → Vals xs us → r xs H Q →
    wpC (model X.prog X.w) X.A (call f us) (EP X pins σ Q) X.xe s
def tOp (r:R2) (ta tb:TE):TE:=fun σ H Q=>ta σ H fun x H1=>tb σ H1 fun y H2=>r x y H2 Q
def tUn (r:V → Hp → VK → Prop) (ta:TE):TE:=fun σ H Q=>ta σ H fun x H1=>r x H1 Q
def rI (C:Int → Int → Prop) (g:Int → Int → V):R2:=fun x y H Q=>∃ i j,x = .int i ∧ y = .int j ∧ C i j ∧ Q (g i j) H
def rI0 (g:Int → Int → V):R2:=fun x y H Q=>∃ i j,x = .int i ∧ y = .int j ∧ Q (g i j) H
def rU (g:Int → V):V → Hp → VK → Prop:=fun x H Q=>∃ i,x = .int i ∧ Q (g i) H
section
variable {X:Cx} {a b c:Expr} {ta tb tc:TE} {pos:Pos}
theorem binT (ha:PE X a ta) (hb:PE X b tb) {pins:List (Addr × Obj)} {s:Shared} {σ:St} {H:Hp} {R:V → V → Hp → Prop} (I:Inv X pins σ H s)
    (h:ta σ H fun x H1=>tb σ H1 fun y H2=>R x y H2) {Q:Value → Shared → Prop} {f:Value → Value → Sem Value}
    (hf:∀ v u s2 x y H2,Inv X pins σ H2 s2 → RelV x v → RelV y u → R x y H2 → wpC (model X.prog X.w) X.A (f v u) Q X.xe s2) :
    wpC (model X.prog X.w) X.A (eval a X.env) (fun v s₁=>wpC (model X.prog X.w) X.A (eval b X.env) (fun u s₂=>wpC (model X.prog X.w) X.A (f v u) Q X.xe s₂) X.xe s₁) X.xe s:=by
  refine thn (ha pins s σ H _ I h) fun v s1 hq9=>?_
  obtain ⟨x,H1,I1,r1,q1⟩:=hq9
  refine thn (hb pins s1 σ H1 _ I1 q1) fun u s2 hq9=>?_
  obtain ⟨y,H2,I2,r2,q2⟩:=hq9
  exact hf v u s2 x y H2 I2 r1 r2 q2
theorem pe_op {op:Operator} {r:R2} (ho:OpR X (binaryOp op) r) (ha:PE X a ta) (hb:PE X b tb):PE X (.BinOp a op b pos) (tOp r ta tb):=by
  intro pins s σ H Q I h
  exact wpC_BinOp (binT ha hb I h fun v u s2 x y H2 I2 rx ry q=>ho pins s2 σ H2 x y v u Q I2 rx ry q)
theorem pe_un {op:UnaryOp} {r:V → Hp → VK → Prop} (ho:UnR X (unaryOp op) r) (ha:PE X a ta):PE X (.UnaryOp op a pos) (tUn r ta):=by
  intro pins s σ H Q I h
  exact UnaryOp_ (thn (ha pins s σ H _ I h) fun v s1 ⟨x,H1,I1,r1,q1⟩=>ho pins s1 σ H1 x v Q I1 r1 q1)
theorem opI {f:Value → Value → Sem Value} {C:Int → Int → Prop} {g:Int → Int → Int}
    (rule:∀ (i j:Int) (t u:Tok) (s:Shared) (Q:Value → Shared → Prop) (E:Value → Shared → Prop),C i j → Q (.int (g i j) s.toks) { s with toks:=s.toks + 1 } → wpC (model X.prog X.w) X.A (f (.int i t) (.int j u)) Q E s) :
    OpR X f (rI C fun i j=>.int (g i j)):=by
  intro pins s σ H x y v u Q I rx ry h
  obtain ⟨i,j,rfl,rfl,hc,q⟩:=h
  obtain ⟨t,rfl⟩:=rx
  obtain ⟨t',rfl⟩:=ry
  exact rule i j t t' s _ _ hc ⟨.int (g i j),H,I.tok _,⟨_,rfl⟩,q⟩
theorem opI0 {f:Value → Value → Sem Value} {g:Int → Int → Int}
    (rule:∀ (i j:Int) (t u:Tok) (s:Shared) (Q:Value → Shared → Prop) (E:Value → Shared → Prop),Q (.int (g i j) s.toks) { s with toks:=s.toks + 1 } → wpC (model X.prog X.w) X.A (f (.int i t) (.int j u)) Q E s) :
    OpR X f (rI0 fun i j=>.int (g i j)):=by
  intro pins s σ H x y v u Q I rx ry h
  obtain ⟨i,j,rfl,rfl,q⟩:=h
  obtain ⟨t,rfl⟩:=rx
  obtain ⟨t',rfl⟩:=ry
  exact rule i j t t' s _ _ ⟨.int (g i j),H,I.tok _,⟨_,rfl⟩,q⟩
theorem opB0 {f:Value → Value → Sem Value} {g:Int → Int → Bool}
    (rule:∀ (i j:Int) (t u:Tok) (s:Shared) (Q:Value → Shared → Prop) (E:Value → Shared → Prop),Q (.bool (g i j)) s → wpC (model X.prog X.w) X.A (f (.int i t) (.int j u)) Q E s) :
    OpR X f (rI0 fun i j=>.bl (g i j)):=by
  intro pins s σ H x y v u Q I rx ry h
  obtain ⟨i,j,rfl,rfl,q⟩:=h
  obtain ⟨t,rfl⟩:=rx
  obtain ⟨t',rfl⟩:=ry
  exact rule i j t t' s _ _ ⟨.bl (g i j),H,I,rfl,q⟩
def CDiv (i j:Int):Prop:=0 < j ∧ j < 1073741824
def CPow (i j:Int):Prop:=0 ≤ j ∧ j ≤ 1000000 ∧ i.natAbs < 2 ^ 64
theorem op_add:OpR X (binaryOp .Add) (rI0 fun i j=>.int (i + j)):=opI0 fun _ _ _ _ _ _ _ q=>add_int q
theorem op_sub:OpR X (binaryOp .Sub) (rI0 fun i j=>.int (i - j)):=opI0 fun _ _ _ _ _ _ _ q=>sub_int q
theorem op_fdiv:OpR X (binaryOp .FloorDiv) (rI CDiv fun i j=>.int (i / j)):=opI fun i j _ _ _ _ _ hc q=>by
  have h1:(0:Int) < j:=hc.1
  have h2:j < 1073741824:=hc.2
  exact floordiv_int (by omega) (by rw [Int.fdiv_eq_ediv_of_nonneg i (by omega)]; exact q) (.inl (PyProof.noPylong_small (by omega)))
theorem op_mod:OpR X (binaryOp .Mod) (rI (fun _ j=>0 < j) fun i j=>.int (i % j)):=opI fun i j _ _ _ _ _ hc q=>by
  have h1:(0:Int) < j:=hc
  exact mod_int' (by omega) (by rw [Int.fmod_eq_emod_of_nonneg i (by omega)]; exact q)
theorem op_pow:OpR X (binaryOp .Pow) (rI CPow fun i j=>.int (i ^ j.toNat)):=opI fun _ _ _ _ _ _ _ hc q=>pow_int_small hc.1 hc.2.1 hc.2.2 q
theorem unI {f:Value → Sem Value} {g:Int → Int}
    (rule:∀ (i:Int) (t:Tok) (s:Shared) (Q:Value → Shared → Prop) (E:Value → Shared → Prop),Q (.int (g i) s.toks) { s with toks:=s.toks + 1 } → wpC (model X.prog X.w) X.A (f (.int i t)) Q E s) :
    UnR X f (rU fun i=>.int (g i)):=by
  intro pins s σ H x v Q I rx h
  obtain ⟨i,rfl,q⟩:=h
  obtain ⟨t,rfl⟩:=rx
  exact rule i t s _ _ ⟨.int (g i),H,I.tok _,⟨_,rfl⟩,q⟩
theorem un_neg:UnR X (unaryOp .USub) (rU fun i=>.int (-i)):=unI fun _ _ _ _ _ q=>neg_int q
end
section
variable {X:Cx} {a b c:Expr} {ta tb tc:TE} {pos:Pos}
theorem fin_bl {pins:List (Addr × Obj)} {σ:St} {H:Hp} {s:Shared} {Q:VK} {k k':Bool} (I:Inv X pins σ H s) (q:Q (.bl k) H) (e:k = k'):EP X pins σ Q (.bool k') s:=by
  subst e
  exact ⟨.bl k,H,I,rfl,q⟩
theorem op_lt:OpR X (compareOp .Lt) (rI0 fun i j=>.bl (decide (i < j))):=opB0 fun _ _ _ _ _ _ _ q=>lt_int q
theorem op_gt:OpR X (compareOp .Gt) (rI0 fun i j=>.bl (decide (j < i))):=opB0 fun _ _ _ _ _ _ _ q=>gt_int q
theorem op_ge:OpR X (compareOp .GtE) (rI0 fun i j=>.bl (decide (j ≤ i))):=opB0 fun _ _ _ _ _ _ _ q=>ge_int q
theorem op_in_str:OpR X (compareOp .In) (fun x y H Q=>∃ i j,x = .str i ∧ y = .str j ∧ Q (.bl (!(Builtin.Str.occurrences j i 0 j.length 1).isEmpty)) H):=by
  intro pins s σ H x y v u Q I rx ry h
  obtain ⟨i,j,rfl,rfl,q⟩:=h
  obtain ⟨t,rfl⟩:=rx
  obtain ⟨t',rfl⟩:=ry
  exact in_str (fin_bl I q rfl)
theorem OpR.or {f:Value → Value → Sem Value} {r r':R2} (h:OpR X f r) (h':OpR X f r'):OpR X f (fun x y H Q=>r x y H Q ∨ r' x y H Q):=by
  intro pins s σ H x y v u Q I rx ry q
  rcases q with q | q
  · exact h pins s σ H x y v u Q I rx ry q
  · exact h' pins s σ H x y v u Q I rx ry q
theorem nomark (b:Expr) {op:CmpOp} (h:op ≠ .In:=by decide) (h2:op ≠ .NotIn:=by decide):behindInMarks op b = false:=by
  have e1:(op == CmpOp.In) = false:=by cases op <;> first | rfl | exact absurd rfl h
  have e2:(op == CmpOp.NotIn) = false:=by cases op <;> first | rfl | exact absurd rfl h2
  cases b <;> simp [behindInMarks,e1,e2]
theorem pe_cmpR {op:CmpOp} {r:R2} (ho:OpR X (compareOp op) r) (ha:PE X a ta) (hb:PE X b tb) (hm:behindInMarks op b = false):PE X (.Compare a [op] [b] pos) (tOp r ta tb):=by
  intro pins s σ H Q I h
  exact wpC_Compare1 (binT ha hb I h fun v u s2 x y H2 I2 rx ry q=>ho pins s2 σ H2 x y v u Q I2 rx ry q) hm
def tTest (t:TE):TT:=fun σ H Q=>t σ H fun x H'=>∃ k,x = .bl k ∧ Q k H'
theorem pt_cmpR {op:CmpOp} {r:R2} (ho:OpR X (compareOp op) r) (ha:PE X a ta) (hb:PE X b tb) (hm:behindInMarks op b = false):PT X (.Compare a [op] [b] pos) (tTest (tOp r ta tb)):=by
  intro pins s σ H Q I h
  refine wpC_isTrue_Compare1 (thn (ha pins s σ H _ I h) fun v s1 ⟨x,H1,I1,r1,q1⟩=>thn (hb pins s1 σ H1 _ I1 q1) fun u s2 ⟨y,H2,I2,r2,q2⟩ =>
    thn (ho pins s2 σ H2 x y v u _ I2 r1 r2 q2) fun c s3 ⟨z,H3,I3,r3,k,e,q3⟩=>?_) hm
  subst e
  cases r3
  exact wpC_truthy_bool ⟨H3,I3,q3⟩
theorem line63:(sizeLine:Nat) < 2 ^ 63:=by rw [sizeLine_eq]; decide
theorem op_add_str:OpR X (binaryOp .Add) (fun x y H Q=>∃ i j,x = .str i ∧ y = .str j ∧ i.length + j.length ≤ sizeLine ∧ Q (.str (i ++ j)) H):=by
  intro pins s σ H x y v u Q I rx ry h
  obtain ⟨i,j,rfl,rfl,hz,q⟩:=h
  obtain ⟨t,rfl⟩:=rx
  obtain ⟨t',rfl⟩:=ry
  exact add_str (fun t' tk=>⟨.str (i ++ j),H,I.tok _,⟨_,rfl⟩,q⟩) hz
theorem vals1 {x:V} {us:List Value} (r:Vals [x] us):∃ u,us = [u] ∧ RelV x u:=by
  cases r with
  | cons r1 r2=>cases r2; exact ⟨_,rfl,r1⟩
theorem vals2 {x y:V} {us:List Value} (r:Vals [x,y] us):∃ u w',us = [u,w'] ∧ RelV x u ∧ RelV y w':=by
  cases r with
  | cons r1 r2 =>
    cases r2 with
    | cons r3 r4=>cases r4; exact ⟨_,_,rfl,r1,r3⟩
theorem call_abs:CallR X (.builtin "abs") (fun xs H Q=>∃ i,xs = [.int i] ∧ Q (.int (if i < 0 then -i else i)) H):=by
  intro pins s σ H xs us Q I r h
  obtain ⟨i,rfl,q⟩:=h
  obtain ⟨u,rfl,t,rfl⟩:=vals1 r
  exact call_abs_int fun u tk=>⟨.int (if i < 0 then -i else i),H,I.tok _,⟨_,rfl⟩,q⟩
theorem call_max2 (hc:X.calm = true):CallR X (.builtin "max") (fun xs H Q=>∃ i j,xs = [.int i,.int j] ∧ Q (.int (if j > i then j else i)) H):=by
  intro pins s σ H xs us Q I r h
  obtain ⟨i,j,rfl,q⟩:=h
  obtain ⟨u,w',rfl,⟨t,rfl⟩,⟨t',rfl⟩⟩:=vals2 r
  refine max_two_ints (I.ok.hd hc) fun h' tk k=>⟨_,H,I.kept k,?_,q⟩
  by_cases hj:j > i
  · rw [if_pos hj,if_pos hj]; exact ⟨_,rfl⟩
  · rw [if_neg hj,if_neg hj]; exact ⟨_,rfl⟩
theorem call_min2 (hc:X.calm = true):CallR X (.builtin "min") (fun xs H Q=>∃ i j,xs = [.int i,.int j] ∧ Q (.int (if j < i then j else i)) H):=by
  intro pins s σ H xs us Q I r h
  obtain ⟨i,j,rfl,q⟩:=h
  obtain ⟨u,w',rfl,⟨t,rfl⟩,⟨t',rfl⟩⟩:=vals2 r
  refine min_two_ints (I.ok.hd hc) fun h' tk k=>⟨_,H,I.kept k,?_,q⟩
  by_cases hj:j < i
  · rw [if_pos hj,if_pos hj]; exact ⟨_,rfl⟩
  · rw [if_neg hj,if_neg hj]; exact ⟨_,rfl⟩
theorem call_str_int:CallR X (.type "str") (fun xs H Q=>∃ i,xs = [.int i] ∧ i.natAbs.log2 < 1920 ∧ Q (.str (toString i)) H):=by
  intro pins s σ H xs us Q I r h
  obtain ⟨i,rfl,hz,q⟩:=h
  obtain ⟨u,rfl,t,rfl⟩:=vals1 r
  exact PySem_P_str_of_int hz ⟨.str _,H,I.tok _,⟨_,rfl⟩,q⟩
end
end L2
namespace L2
open PySem PySem.Spec PyProof.Rows
section
variable {prog:Program} {w:World} {A:Around} {E:Value → Shared → Prop} {s:Shared} {K:PySem.W.Frag} {x dx C f:Addr} {mA:Str → Option Value} {name:Str} {v:Value}
end
section
variable {P:Program} {w:World} {H H':Hp} {h h':Heap} {a C dx:Addr} {fs fs':List (Str × V)}
end
structure Cls (K:PySem.W.Frag) (C:Addr):Prop where
  pg:PySem.W.plainGet K C Str.empty = true
  hd:PySem.W.hasDictIn K C = true
  po:PySem.W.plainOver K C = true
  sa:PySem.W.findIn K (.ref C) "__setattr__" = some (some (.builtin "object.__setattr__"))
section
variable {X:Cx} {pins:List (Addr × Obj)} {σ:St} {H:Hp} {s:Shared} {a C dx:Addr} {fs:List (Str × V)} {f:Str} {v:V} {A:Around} {E:Value → Shared → Prop}
end
section
variable {X:Cx} {o e value:Expr} {f:Str} {pos pos' tpos:Pos} {ta tv:TE}
end
section
variable {X:Cx} {pins:List (Addr × Obj)} {σ:St} {H:Hp} {s:Shared} {A:Around} {E:Value → Shared → Prop} {Q:Value → Shared → Prop} {c:Value} {b:Bool}
inductive TyOf (K:PySem.W.Frag) (H:Hp):V → Value → Prop where
  | non:TyOf K H .non (.type "NoneType")
  | bl (x:Bool):TyOf K H (.bl x) (.type "bool")
  | int (i:Int):TyOf K H (.int i) (.type "int")
  | str (x:Str):TyOf K H (.str x) (.type "str")
  | flt (x:UInt64):TyOf K H (.flt x) (.type "float")
  | lst {a:Addr} {xs:List V} (e:H a = some (.lst xs)):TyOf K H (.ref a) (.type "list")
  | frz {a:Addr} {o:Obj} {xs:List V} (e:H a = some (.frz o (.lst xs))):TyOf K H (.ref a) (.type "list")
  | tup {a:Addr} {xs:List V} (e:H a = some (.tup xs)):TyOf K H (.ref a) (.type "tuple")
  | dK {a:Addr} {kvs:List (Key × V)} (e:H a = some (.dK kvs)):TyOf K H (.ref a) (.type "dict")
  | dT {a:Addr} {kvs:List (List Key × V)} (e:H a = some (.dT kvs)):TyOf K H (.ref a) (.type "dict")
  | ins {a C dx:Addr} {fs:List (Str × V)} (e:H a = some (.ins C dx fs)) (cl:Cls K C) (ha:PySem.W.findIn K (.ref C) "__class__" = some (some (.builtin "object.__class__")))
      (hn:PySem.W.specialIn K (.builtin "object.__class__") "__get__" = some (some (.builtin "getset_descriptor.__get__"))) (htk:PySem.W.takesIn K (.builtin "object.__class__") = some true)
      (hm:PySem.W.mroIn K C (.type "object") = some true):TyOf K H (.ref a) (.ref C)
end
end L2
namespace L2
open PySem PySem.Spec PyProof.Rows
structure Room (k:Nat) (A:Around):Prop where
  hd:A.handled = none
  dp:A.depth + 3 * k + 5 < recursionLimit
  un:A.units + 16 * k + 200 < cLine
theorem Room.mono {j k:Nat} {A:Around} (r:Room k A) (h:j ≤ k):Room j A:=⟨r.hd,by have:=r.dp; omega,by have:=r.un; omega⟩
theorem Room.deeper {k:Nat} {A:Around} (r:Room (k + 1) A) (env:Env):Room k (A.deeper env) :=
  ⟨r.hd,by have:=r.dp; show A.depth + 1 + 3 * k + 5 < _; omega,by have:=r.un; show A.units + 3 + 16 * k + 200 < _; omega⟩
theorem Room.depth {k:Nat} {A:Around} (r:Room k A):A.depth < recursionLimit:=by have:=r.dp; omega
theorem Room.units {k:Nat} {A:Around} (r:Room k A):A.units + 64 < cLine:=by have:=r.un; omega
def tNil:TA:=fun _ H Q=>Q [] H
def tCons (ta:TE) (tr:TA):TA:=fun σ H Q=>ta σ H fun x H1=>tr σ H1 fun xs H2=>Q (x :: xs) H2
section
variable {X:Cx} {e:Expr} {es:List Expr} {te:TE} {t:TA} {pos:Pos}
theorem pa_nil:PA X [] tNil:=fun _ _ _ _ H Q I h=>Calls.spliced_nil ⟨[],H,I,.nil,h⟩
theorem pa_cons (ha:PE X e te) (hr:PA X es t) (hs:starEach (e :: es) X.env = (false,eval e X.env) :: starEach es X.env:=by rfl):PA X (e :: es) (tCons te t):=by
  intro pos pins s σ H Q I h
  rw [hs]
  show wpC _ _ (spliced ((false,eval e X.env) :: backTo pos (starEach es X.env))) _ _ s
  refine Calls.spliced_cons (thn (ha pins s σ H _ I h) fun u s1 ⟨x,H1,I1,r1,q1⟩=>?_)
  exact thn (hr pos pins s1 σ H1 _ I1 q1) fun us s2 ⟨xs,H2,I2,r2,q2⟩=>⟨x :: xs,H2,I2,.cons r1 r2,q2⟩
def tTup (t:TA):TE:=fun σ H Q=>t σ H fun xs H1=>xs.length ≤ sizeLine ∧ ∀ p,H1 p = none → Q (.ref p) (upd H1 p (.tup xs))
def tLst (t:TA):TE:=fun σ H Q=>t σ H fun xs H1=>xs.length ≤ sizeLine ∧ ∀ p,H1 p = none → Q (.ref p) (upd H1 p (.lst xs))
theorem pe_tup {x1} (h:PA X es t):PE X (.Tuple es x1 pos) (tTup t):=by
  intro pins s σ H Q I hq
  refine wpC_Tuple_spliced (thn (h pos pins s σ H _ I hq) fun us s1 ⟨xs,H1,I1,r,z,q⟩=>⟨by rw [← r.length]; exact z,?_⟩)
  have hf:H1 s1.heap.objs.size = none:=I1.hok.fresh (Nat.le_refl _)
  refine ⟨.ref s1.heap.objs.size,upd H1 s1.heap.objs.size (.tup xs),I1.laid (t':=s1.toks) (fun b u e=>Heap.get?_push_of_some _ e) (Nat.le_refl _) ?_,rfl,q _ hf⟩
  exact ⟨z,us,r,⟨_,Heap.get?_push_size _ rfl,rfl,_,rfl⟩⟩
theorem pe_lst (h:PA X es t):PE X (.List es pos) (tLst t):=by
  intro pins s σ H Q I hq
  refine wpC_List_spliced (thn (h pos pins s σ H _ I hq) fun us s1 ⟨xs,H1,I1,r,z,q⟩=>⟨by rw [← r.length]; exact z,?_⟩)
  have hf:H1 s1.heap.objs.size = none:=I1.hok.fresh (Nat.le_refl _)
  refine ⟨.ref s1.heap.objs.size,upd H1 s1.heap.objs.size (.lst xs),I1.laid (t':=s1.toks) (fun b u e=>Heap.get?_push_of_some _ e) (Nat.le_refl _) ?_,rfl,q _ hf⟩
  exact ⟨z,us,0,r,Heap.get?_push_size _ rfl⟩
end
abbrev Sp:=List V → Hp → VK → XK → Prop
abbrev CXT:=List Env → Hp → Shared → XK → Value → Shared → Prop
structure Env0 (P:Program) (w:World) (K:PySem.W.Frag) (mg:Str → Option Value) (base:Heap) (A:Around) (outer:List Env) (s:Shared) (H:Hp):Prop where
  frames:A.frames = some outer
  mod:Mod K mg base
  bs:∀ b o,base.get? b = some o → s.heap.get? b = some o ∧ H b = none
  bsz:base.objs.size ≤ s.heap.objs.size
  funs:s.heap.FunFrames base outer
  frf:∀ b ∈ frs outer,H b = none
  hok:HOk P w H s.heap
  bare:AllBare s.gens
def CE (outer:List Env) (P:Program) (w:World) (H:Hp) (s:Shared) (Q:VK) (u:Value) (s':Shared):Prop :=
  ∃ v H',s'.os = s.os ∧ AllBare s'.gens ∧ Un (frs outer) [] H H' s.heap s'.heap ∧ HOk P w H' s'.heap ∧ RelV v u ∧ Q v H'
def CR (CX:CXT) (outer:List Env) (P:Program) (w:World) (H:Hp) (s:Shared) (Q:VK) (E:XK) (r:Result) (s':Shared):Prop :=
  match r with
  | .ok (.ret u)=>CE outer P w H s Q u s'
  | .ok _=>False
  | .error e=>CX outer H s E e s'
structure FnOk (P:Program) (w:World) (K:PySem.W.Frag) (mg:Str → Option Value) (base:Heap) (CX:CXT) (k:Nat) (f:Addr) (fd:FuncData) (ps:List Str) (sp:Sp):Prop where
  len:∀ vs H Q E,sp vs H Q E → vs.length = ps.length
  run:∀ (A:Around) (outer:List Env) (s:Shared) (H:Hp) (args:Args) (us:List Value) (vs:List V) (Q:VK) (E:XK),Room k A → Env0 P w K mg base A outer s H → BindsTo s fd args (ps.zip us) → Vals vs us → sp vs H Q E →
    codeC (model P w) A (.call (.ref f) args) (CR CX outer P w H s Q E) s
theorem FnOk.imp {P:Program} {w:World} {K:PySem.W.Frag} {mg:Str → Option Value} {base:Heap} {CX:CXT} {k:Nat} {f:Addr} {fd:FuncData} {ps:List Str} {sp sp':Sp} (F:FnOk P w K mg base CX k f fd ps sp)
    (h:∀ vs H Q E,sp' vs H Q E → sp vs H Q E):FnOk P w K mg base CX k f fd ps sp' :=
  ⟨fun vs H Q E q=>F.len vs H Q E (h _ _ _ _ q),fun A outer s H args us vs Q E hr he hb hv hs=>F.run A outer s H args us vs Q E hr he hb hv (h _ _ _ _ hs)⟩
section
variable {X:Cx} {pins:List (Addr × Obj)} {σ:St} {H:Hp} {s s':Shared}
theorem Inv.env0 (I:Inv X pins σ H s):Env0 X.prog X.w X.K X.mg X.base X.A X.stack s H :=
  ⟨I.ok.frames,I.ok.mod,I.bs,Nat.le_trans I.ok.bsz I.sz,I.stack,I.stkFree,I.hok,I.bare⟩
theorem Inv.after {Q:VK} {u:Value} (I:Inv X pins σ H s) (h:CE X.stack X.prog X.w H s Q u s'):EP X pins σ Q u s':=by
  obtain ⟨v,H',os,bare,un,hok,r,q⟩:=h
  obtain ⟨hh,g,d,t,os'⟩:=s'
  obtain rfl:os' = s.os:=os
  exact ⟨v,H',I.call (h':=hh) (g':=g) (d':=d) (t':=t) (ch:=[]) un hok bare (fun b z=>absurd z (by simp)),r,q⟩
end
def tCall (sp:Sp) (dvs:List V) (E:XK) (t:TA):TE:=fun σ H Q=>t σ H fun vs H1=>sp (vs ++ dvs) H1 Q E
def Binds (K:PySem.W.Frag) (fd:FuncData) (ps:List Str) (ds:List Value):Prop :=
  ∀ (s:Shared) (us:List Value),K.In s.heap → (us ++ ds).length = ps.length → BindsTo s fd ⟨us,[]⟩ (ps.zip (us ++ ds))
theorem Binds.all {K:PySem.W.Frag} {fd:FuncData} {ps:List Str} (h:∀ us:List Value,us.length = ps.length → bindArgs fd ⟨us,[]⟩ = pure (ps.zip us)):Binds K fd ps []:=fun s us _ hl=>by
  rw [List.append_nil] at hl ⊢
  exact .of_eq (h us hl)
def Passes (CX:CXT) (X:Cx) (E:XK):Prop:=∀ (pins:List (Addr × Obj)) (σ:St) (H:Hp) (s:Shared) (e:Value) (s':Shared),Inv X pins σ H s → CX X.stack H s E e s' → X.xe e s'
section
variable {X:Cx} {CX:CXT} {k:Nat} {f C:Addr} {fd:FuncData} {ps:List Str} {sp:Sp} {dvs:List V} {ds:List Value} {E:XK} {x m:Str} {p pos apos:Pos} {e o:Expr} {es:List Expr} {ta:TE} {t:TA}
theorem run_fn {pins:List (Addr × Obj)} {σ:St} {H:Hp} {s:Shared} {Q:VK} {us:List Value} {vs:List V} (F:FnOk X.prog X.w X.K X.mg X.base CX k f fd ps sp) (hr:Room k X.A) (hb:Binds X.K fd ps ds) (hd:Vals dvs ds) (hx:Passes CX X E)
    (I:Inv X pins σ H s) (r:Vals vs us) (h:sp (vs ++ dvs) H Q E):wpC (model X.prog X.w) X.A (call (.ref f) us) (EP X pins σ Q) X.xe s:=by
  have r2:Vals (vs ++ dvs) (us ++ ds):=r.append hd
  have hl:(us ++ ds).length = ps.length:=by rw [← r2.length]; exact F.len _ _ _ _ h
  refine wpC_call (codeC_mono (F.run X.A X.stack s H ⟨us,[]⟩ (us ++ ds) (vs ++ dvs) Q E hr I.env0 (hb s us I.kIn hl) r2 h) fun r s' hq=>?_)
  cases r with
  | error e=>exact hx pins σ H s e s' I hq
  | ok fl =>
    cases fl with
    | ret u=>exact I.after hq
    | next=>exact False.elim hq
    | brk=>exact False.elim hq
    | cont=>exact False.elim hq
theorem pe_call (F:FnOk X.prog X.w X.K X.mg X.base CX k f fd ps sp) (hr:Room k X.A) (hg:Gl X x) (hm:X.mg x = some (.ref f)) (hk:PySem.W.keepIn X.K (.ref f) = true) (hb:Binds X.K fd ps ds) (hd:Vals dvs ds) (hx:Passes CX X E)
    (ha:PA X (e :: es) t) (hdb:(x == ("__debug__" : Str)) = false:=by decide) (he:starEach (e :: es) X.env = (false,eval e X.env) :: starEach es X.env:=by rfl) (hpl:(backTo pos (starEach es X.env)).any (·.1) = false:=by rfl) :
    PE X (.Call (.Name x p) (e :: es) [] pos) (tCall sp dvs E t):=by
  intro pins s σ H Q I h
  refine wpC_Call_Name_kw (ld_glob I hg hm ?_ hdb)
  refine callWith_K (h₀:=X.base) I.ok.mod.kin hk (thn (ha pos pins s σ H _ I h) fun us s1 ⟨vs,H1,I1,r,q⟩=>⟨I1.kIn,?_⟩) he hpl
  exact run_fn F hr hb hd hx I1 r q
end
section
variable {X:Cx} {CX:CXT} {k:Nat} {f C:Addr} {fd:FuncData} {ps ks:List Str} {sp:Sp} {E:XK} {x m:Str} {p pos apos kpos:Pos} {e o:Expr} {es:List Expr} {kws:List Keyword} {te ta:TE} {t tk:TA} {nm:Option Str}
variable {g:List Value → List Value → List Value} {gV:List V → List V → List V}
end
structure FnScope (N P:List Str) (sc:Scope):Prop where
  kind:sc.kind = .function
  co:sc.isCoroutine = false
  gen:sc.isGenerator = false
  nd:N.Nodup
  pre:N.take P.length = P
  par:∀ x ∈ P,sc.names.lookup x = some .local ∨ sc.names.lookup x = some .cell
  nofree:∀ y ∈ sc.names,y.2 ≠ .free
theorem bindL_out {kindOf:Str → Option NameKind} {x:Str}:∀ {binds:List (Str × Value)} {m:Str → Option Value},(∀ v,(x,v) ∉ binds) → bindL kindOf binds m x = m x
  | [],_,_=>rfl
  | (n,v) :: r,m,h=>by
    unfold bindL
    rw [bindL_out fun w hw=>h w (List.mem_cons_of_mem _ hw)]
    split
    · have:x ≠ n:=by rintro rfl; exact h v List.mem_cons_self
      simp [this]
    · rfl
theorem bindC_out {kindOf:Str → Option NameKind} {x:Str}:∀ {binds:List (Str × Value)} {m:Str → Option Value},(∀ v,(x,v) ∉ binds) → bindC kindOf binds m x = m x
  | [],_,_=>rfl
  | (n,v) :: r,m,h=>by
    unfold bindC
    rw [bindC_out fun w hw=>h w (List.mem_cons_of_mem _ hw)]
    split
    · rfl
    · have:x ≠ n:=by rintro rfl; exact h v List.mem_cons_self
      simp [this]
theorem bindL_get {kindOf:Str → Option NameKind} {x:Str} {v:Value}:∀ {P:List Str} {vs:List Value} {i:Nat} {m:Str → Option Value},P.Nodup → P[i]? = some x → vs[i]? = some v → kindOf x = some .local →
    bindL kindOf (P.zip vs) m x = some v
  | [],_,_,_,_,h,_,_=>by simp at h
  | _ :: _,[],_,_,_,_,h,_=>by simp at h
  | p :: P,w :: vs,0,m,nd,h1,h2,hk=>by
    simp at h1 h2; subst h1; subst h2
    show bindL kindOf ((p,w) :: P.zip vs) m p = _
    unfold bindL
    rw [bindL_out fun v hv=>(List.nodup_cons.mp nd).1 (List.of_mem_zip hv).1,if_pos hk]
    simp
  | p :: P,w :: vs,i + 1,m,nd,h1,h2,hk=>by
    show bindL kindOf ((p,w) :: P.zip vs) m x = _
    unfold bindL
    exact bindL_get (i:=i) (List.nodup_cons.mp nd).2 (by simpa using h1) (by simpa using h2) hk
theorem bindC_get {kindOf:Str → Option NameKind} {x:Str} {v:Value}:∀ {P:List Str} {vs:List Value} {i:Nat} {m:Str → Option Value},P.Nodup → P[i]? = some x → vs[i]? = some v → kindOf x ≠ some .local →
    bindC kindOf (P.zip vs) m x = some v
  | [],_,_,_,_,h,_,_=>by simp at h
  | _ :: _,[],_,_,_,_,h,_=>by simp at h
  | p :: P,w :: vs,0,m,nd,h1,h2,hk=>by
    simp at h1 h2; subst h1; subst h2
    show bindC kindOf ((p,w) :: P.zip vs) m p = _
    unfold bindC
    rw [bindC_out fun v hv=>(List.nodup_cons.mp nd).1 (List.of_mem_zip hv).1,if_neg hk]
    simp
  | p :: P,w :: vs,i + 1,m,nd,h1,h2,hk=>by
    show bindC kindOf ((p,w) :: P.zip vs) m x = _
    unfold bindC
    exact bindC_get (i:=i) (List.nodup_cons.mp nd).2 (by simpa using h1) (by simpa using h2) hk
def start (N:List Str) (vs:List V):St:=vs.map some ++ List.replicate (N.length - vs.length) none
def cxOf (CX:CXT) (P:Program) (w:World) (K:PySem.W.Frag) (mg:Str → Option Value) (base:Heap) (N:List Str) (qual:Str) (scope:Scope) (f:Addr) (cd:Value) (A:Around) (outer:List Env) (s:Shared) (H:Hp) (E:XK):Cx where
  prog:=P
  w:=w
  K:=K
  mg:=mg
  base:=base
  A:=A.deeper (envOfC qual scope s.heap.objs.size f cd)
  N:=N
  s₀:=s
  H₀:=H
  env:=envOfC qual scope s.heap.objs.size f cd
  outer:=outer
  stack:=envOfC qual scope s.heap.objs.size f cd :: outer
  ex:=[]
  calm:=true
  fn:=fun _=>true
  pn:=[]
  xe:=fun e s'=>wpC (model P w) (A.deeper (envOfC qual scope s.heap.objs.size f cd)) (leaving (envOfC qual scope s.heap.objs.size f cd) e) (fun _ s''=>CX outer H s E e s'') (fun e' s''=>CX outer H s E e' s'') s'
theorem cell_has {sc:Scope} {n:Nat} {x:Str} (h:sc.names.lookup x = some .cell):∃ c,(cellsFrom n sc.names []).lookup x = some c:=by
  have q:=PySem.W.cellsFrom_some sc.names n [] (.inl h)
  exact Option.isSome_iff_exists.mp q
theorem inv_start {CX:CXT} {P:Program} {w:World} {K:PySem.W.Frag} {mg:Str → Option Value} {base:Heap} {N ps:List Str} {qual:Str} {scope:Scope} {f:Addr} {cd:Value} {A:Around} {outer:List Env} {s s1:Shared} {H:Hp} {E:XK} {us:List Value} {vs:List V}
    (S:FnScope N ps scope) (hd:A.handled = none) (e0:Env0 P w K mg base A outer s H) (hl:vs.length = ps.length) (r:Vals vs us)
    (x:InCallC s s.heap.objs.size (bindL (envOfC qual scope s.heap.objs.size f cd).kindOf (ps.zip us) fun _=>none) (cellsFrom (s.heap.objs.size + 1) scope.names []) (bindC (envOfC qual scope s.heap.objs.size f cd).kindOf (ps.zip us) fun _=>none) s1) :
    Inv (cxOf CX P w K mg base N qual scope f cd A outer s H E) [] (start N vs) H s1:=by
  have hpl:ps.length ≤ N.length:=by have:=congrArg List.length S.pre; rw [List.length_take] at this; omega
  obtain ⟨h1,tk,rfl,hk⟩:=x.done
  have noA:∀ b:Addr,b ∉ (cxOf CX P w K mg base N qual scope f cd A outer s H E).ex:=fun b z=>absurd (show b ∈ ([]:List Addr) from z) (by simp)
  refine ⟨⟨e0.mod,S.kind,rfl,rfl,Nat.le_refl _,fun y z c h1 h2=>?_,fun y hy=>?_,fun y c _ h=>?_,fun _=>hd,Around.frames_deeper e0.frames,.inr ⟨rfl,rfl⟩,fun b z=>absurd z (noA b),e0.bs,e0.bsz,fun b _ _=>noA b,fun b z=>absurd z (noA b),e0.funs,e0.frf⟩,
    rfl,e0.bare,Un.kept hk,⟨_,x.toInCall.ns,fun i y v h1 h2 h3=>?_⟩,fun y c h=>⟨_,x.cell y c h⟩,e0.hok.fresh (Nat.le_refl _),fun y c h=>?_,fun p hp=>absurd (show p ∈ ([]:List (Addr × Obj)) from hp) (by simp),e0.hok.kept hk,?_⟩
  · exact name_of_addr x.apart (PySem.mem_of_lookup h1) (PySem.mem_of_lookup h2)
  · have hy:scope.names.lookup y = some .cell ∨ scope.names.lookup y = some .free:=hy
    rcases hy with hy | hy
    · exact cell_has hy
    · exact absurd rfl (S.nofree _ (PySem.mem_of_lookup hy))
  · exact Nat.le_of_lt (x.above y c (PySem.mem_of_lookup h))
  · have hi:i < vs.length:=by
      unfold start at h2
      by_cases hi:i < vs.length
      · exact hi
      · rw [List.getElem?_append_right (by simpa using hi)] at h2
        rw [List.getElem?_replicate] at h2
        split at h2 <;> cases h2
    have ha:vs[i]? = some v:=by
      unfold start at h2
      rw [List.getElem?_append_left (by simpa using hi),List.getElem?_map] at h2
      cases e:vs[i]? with
      | none=>rw [e] at h2; cases h2
      | some a=>rw [e] at h2; cases h2; rfl
    obtain ⟨u,hu,rv⟩:=r.get ha
    have hp:ps[i]? = some y:=by
      rw [← S.pre,List.getElem?_take_of_lt (by omega)]; exact h1
    have ndP:ps.Nodup:=by rw [← S.pre]; exact S.nd.sublist (List.take_sublist _ _)
    refine ⟨u,rv,?_⟩
    rcases S.par y (List.mem_of_getElem? hp) with k | k
    · exact .inl ⟨k,bindL_get ndP hp hu k⟩
    · obtain ⟨c,e⟩:=cell_has (n:=s.heap.objs.size + 1) k
      refine .inr ⟨.inl k,c,e,?_⟩
      have q:=x.cell y c e
      rw [bindC_get ndP hp hu (by show scope.names.lookup y ≠ _; rw [k]; decide)] at q
      exact q
  · exact e0.hok.fresh (Nat.le_of_lt (x.above y c (PySem.mem_of_lookup h)))
  · unfold start
    show _ = N.length
    rw [List.length_append,List.length_map,List.length_replicate]
    omega
theorem fn_of {CX:CXT} {P:Program} {w:World} {K:PySem.W.Frag} {mg:Str → Option Value} {base:Heap} {k:Nat} {f:Addr} {name qual:Str} {params:Arguments} {body:List Stmt} {scope:Scope} {dV kV doc pm cdv ct oc:Value} {an od:Option Addr}
    {osl:Array (Option Value)} {N ps:List Str} {sp:Sp} (lk:K.lookup f = some ⟨oc,od,.func (PySem.W.fnOf name qual params body scope dV kV doc pm an cdv ct),osl⟩) (hcd:PySem.W.codeIn K cdv qual = true) (S:FnScope N ps scope)
    (len:∀ vs H Q E,sp vs H Q E → vs.length = ps.length)
    (hbody:∀ (A:Around) (outer:List Env) (s:Shared) (H:Hp) (vs:List V) (Q:VK) (E:XK),Room k (A.deeper (envOfC qual scope s.heap.objs.size f cdv)) → sp vs H Q E →
      ∃ t,PSs (cxOf CX P w K mg base N qual scope f cdv A outer s H E) body t ∧ t { nx:=fun _ H'=>Q .non H',rt:=Q } (start N vs) H) :
    FnOk P w K mg base CX (k + 1) f (PySem.W.fnOf name qual params body scope dV kV doc pm an cdv ct) ps sp:=by
  refine ⟨len,fun A outer s H args us vs Q E hr e0 hb r hsp=>?_⟩
  have hl:=len _ _ _ _ hsp
  have KX:K.In s.heap:=e0.mod.kin.keeps fun b o e=>(e0.bs b o e).1
  have lim:s.heap.NoLimit:=e0.mod.nolimit.keeps fun b o e=>(e0.bs b o e).1
  have hkind:∀ y ∈ ps.zip us,scope.names.lookup y.1 = some .local ∨ (scope.names.lookup y.1 = some .cell ∧ ((cellsFrom (s.heap.objs.size + 1) scope.names []).lookup y.1).isSome = true):=fun ⟨n,v⟩ hy=>by
    rcases S.par n (List.of_mem_zip hy).1 with q | q
    · exact .inl q
    · exact .inr ⟨q,PySem.W.cellsFrom_some _ _ _ (.inl q)⟩
  refine codeC_call_function hr.depth (KX _ _ lk) rfl S.co S.gen rfl (PySem.W.codeRec_of KX hcd) (hb _ _ _ _ ?_)
  refine wpAny_newFunctionEnv_cells S.kind hkind fun env he s1 x=>?_
  subst he
  refine ⟨lim.keeps x.toInCall.keep,codeC_func ?_⟩
  obtain ⟨t,ht,hq⟩:=hbody A outer s H vs Q E (hr.deeper _) hsp
  have I:Inv (cxOf CX P w K mg base N qual scope f cdv A outer s H E) [] (start N vs) H s1:=inv_start S hr.hd e0 hl r x
  refine wpC_mono (ht [] s1 (start N vs) H _ I hq) (fun fl s' hs=>?_) fun e s' hs=>hs
  have fin:∀ {σ':St} {H':Hp} {v:V} {u:Value},Inv (cxOf CX P w K mg base N qual scope f cdv A outer s H E) [] σ' H' s' → RelV v u → Q v H' → CE outer P w H s Q u s' :=
    fun {σ' H' v u} J rv q=>⟨v,H',J.os,J.bare,J.base,J.hok,rv,q⟩
  cases fl with
  | ret u =>
    obtain ⟨v,σ',H',J,rv,q⟩:=hs
    exact fin J rv q
  | next =>
    obtain ⟨σ',H',J,q⟩:=hs
    exact fin (v:=V.non) (u:=Value.none) J rfl q
  | brk =>
    obtain ⟨_,_,_,q⟩:=hs
    exact False.elim q
  | cont =>
    obtain ⟨_,_,_,q⟩:=hs
    exact False.elim q
end L2
namespace L2
open PySem PySem.Spec PyProof.Rows
section
variable {X:Cx} {x:Str} {p pos:Pos} {e:Expr} {es:List Expr} {t:TA} {id T:String} {r:List V → Hp → VK → Prop}
def tCB (r:List V → Hp → VK → Prop) (t:TA):TE:=fun σ H Q=>t σ H fun vs H1=>r vs H1 Q
theorem pe_callB (hc:CallR X (.builtin id) r) (hg:Gl X x) (hm:X.mg x = none) (hv:bootBuiltins x = some (.builtin id)) (ha:PA X (e :: es) t) (hn:x ≠ "__name__" := by decide) (hdb:(x == ("__debug__" : Str)) = false:=by decide)
    (he:starEach (e :: es) X.env = (false,eval e X.env) :: starEach es X.env:=by rfl) (hpl:(backTo pos (starEach es X.env)).any (·.1) = false:=by rfl):PE X (.Call (.Name x p) (e :: es) [] pos) (tCB r t):=by
  intro pins s σ H Q I h
  refine wpC_Call_Name_kw (ld_blt I hg hm hv ?_ hn hdb)
  exact callWith_builtinN (thn (ha pos pins s σ H _ I h) fun us s1 ⟨vs,H1,I1,r1,q1⟩=>hc pins s1 σ H1 vs us Q I1 r1 q1) he hpl
theorem pe_callTy (hc:CallR X (.type T) r) (hg:Gl X x) (hm:X.mg x = none) (hv:bootBuiltins x = some (.type T)) (ha:PA X (e :: es) t) (hn:x ≠ "__name__" := by decide) (hdb:(x == ("__debug__" : Str)) = false:=by decide)
    (he:starEach (e :: es) X.env = (false,eval e X.env) :: starEach es X.env:=by rfl) (hpl:(backTo pos (starEach es X.env)).any (·.1) = false:=by rfl):PE X (.Call (.Name x p) (e :: es) [] pos) (tCB r t):=by
  intro pins s σ H Q I h
  refine wpC_Call_Name_kw (ld_blt I hg hm hv ?_ hn hdb)
  exact callWith_type1 (thn (ha pos pins s σ H _ I h) fun us s1 ⟨vs,H1,I1,r1,q1⟩=>hc pins s1 σ H1 vs us Q I1 r1 q1) he hpl
end
end L2
namespace HT
open PySem PyProof.Rows
section
open PySem.SeqAt
open PySem.AutoSeq1 (wpAny_loadPart')
open PySem.MeetsSeq PySem.MeetsSeq2 PySem.MeetsSeq3
end
section
variable {prog:Program} {w:World} {A:Around} {E:Value → Shared → Prop} {s:Shared}
def sIx (n d:Nat):Option Int → Nat
  | none=>d
  | some v=>if v < 0 then (v + (n:Int)).toNat else min v.toNat n
end
end HT
namespace L2
open PySem PySem.Spec PyProof.Rows
abbrev TO:=St → Hp → (Option Int → Hp → Prop) → Prop
def PO (X:Cx) (e:Option Expr) (t:TO):Prop :=
  ∀ (pins:List (Addr × Obj)) (s:Shared) (σ:St) (H:Hp) (Q:Option Int → Hp → Prop),Inv X pins σ H s → t σ H Q →
    wpC (model X.prog X.w) X.A (evalPart e X.env) (fun u s'=>∃ o H',Inv X pins σ H' s' ∧ IsPart u o ∧ Q o H') X.xe s
def tNoPart:TO:=fun _ H Q=>Q none H
def tPart (t:TE):TO:=fun σ H Q=>t σ H fun x H1=>∃ i,x = .int i ∧ Q (some i) H1
section
variable {X:Cx} {e:Expr} {te:TE} {lo hi:Option Expr} {tl th:TO} {pos p2:Pos}
theorem po_none:PO X none tNoPart:=by
  intro pins s σ H Q I h
  rw [evalPart_none]
  exact wpC_pure ⟨none,H,I,.none,h⟩
theorem po_some (h:PE X e te):PO X (some e) (tPart te):=by
  intro pins s σ H Q I hw
  rw [evalPart_some]
  refine thn (h pins s σ H _ I hw) fun u s1 hq9=>?_
  obtain ⟨x,H1,I1,r1,q1⟩:=hq9
  obtain ⟨i,rfl,q⟩:=q1
  obtain ⟨t,rfl⟩:=r1
  exact ⟨some i,H1,I1,.int i t,q⟩
def SlR (X:Cx) (r:V → Option Int → Option Int → Hp → VK → Prop):Prop :=
  ∀ (pins:List (Addr × Obj)) (s:Shared) (σ:St) (H:Hp) (x:V) (v vl vu:Value) (lo hi:Option Int) (sl:Addr) (Q:VK),Inv X pins σ H s → RelV x v → s.heap.IsSliceOf sl vl vu .none → IsPart vl lo → IsPart vu hi → r x lo hi H Q →
    ∃ T id,typeLookup (.type T) "__getitem__" = pure (some (.builtin id)) ∧ s.TypeIs v T ∧ wpC (model X.prog X.w) X.A (getItem v (.ref sl)) (EP X pins σ Q) X.xe s
def tSl (r:V → Option Int → Option Int → Hp → VK → Prop) (te:TE) (tl th:TO):TE:=fun σ H Q=>te σ H fun x H1=>tl σ H1 fun l H2=>th σ H2 fun u H3=>r x l u H3 Q
theorem pe_slice {r:V → Option Int → Option Int → Hp → VK → Prop} (hr:SlR X r) (he:PE X e te) (hl:PO X lo tl) (hu:PO X hi th):PE X (.Subscript e (.Slice lo hi none p2) pos) (tSl r te tl th):=by
  intro pins s σ H Q I h
  refine Subscript_ (thn (he pins s σ H _ I h) fun v s1 ⟨x,H1,I1,r1,q1⟩=>?_)
  refine wpC_Slice (thn (hl pins s1 σ H1 _ I1 q1) fun vl s2 ⟨l,H2,I2,pl,q2⟩=>thn (hu pins s2 σ H2 _ I2 q2) fun vu s3 ⟨u,H3,I3,pu,q3⟩=>?_)
  rw [evalPart_none]
  refine wpC_pure ?_
  have I4:Inv X pins σ H3 { s3 with heap:=s3.heap.push { cls:=.type "slice",data:=.fields #[vl,vu,.none] } }:=I3.kept (t':=s3.toks) fun b ob q=>Heap.get?_push_of_some _ q
  obtain ⟨T,id,hT,ht,hg⟩:=hr pins { s3 with heap:=s3.heap.push { cls:=.type "slice",data:=.fields #[vl,vu,.none] } } σ H3 x v vl vu l u s3.heap.objs.size Q I4 r1 (Heap.IsSliceOf.new ..) pl pu q3
  show wpC (model X.prog X.w) X.A (subscriptTail e (.Slice lo hi none p2) v (.ref s3.heap.objs.size)) (EP X pins σ Q) X.xe { s3 with heap:=s3.heap.push { cls:=.type "slice",data:=.fields #[vl,vu,.none] } }
  exact tail_any (ops:=[.ref s3.heap.objs.size,v]) ht hT hg (by with_unfolding_all rfl)
def cutV (xs:List V) (lo hi:Option Int):List V:=(xs.drop (HT.sIx xs.length 0 lo)).take (HT.sIx xs.length xs.length hi - HT.sIx xs.length 0 lo)
theorem cutV_length (xs:List V) (lo hi:Option Int):(cutV xs lo hi).length ≤ xs.length:=by
  unfold cutV
  rw [List.length_take,List.length_drop]
  omega
end
end L2
namespace L2
open PySem PySem.Spec PyProof.Rows
def ixN (n:Nat) (i:Int):Option Nat:=if 0 ≤ i then (if i < n then some i.toNat else none) else if -(n:Int) ≤ i then some (i + n).toNat else none
def atI {α:Type} (xs:List α) (i:Int):Option α:=(ixN xs.length i).bind fun j=>xs[j]?
theorem ixN_seq {n:Nat} {i:Int} {j:Nat} (h:ixN n i = some j):seqIndex? i n = some j ∧ j < n ∧ -(n:Int) ≤ i ∧ i < n:=by
  unfold ixN at h
  by_cases h0:0 ≤ i
  · rw [if_pos h0] at h
    by_cases h1:i < n
    · rw [if_pos h1] at h
      have e:i.toNat = j:=Option.some.inj h
      exact ⟨by rw [seqIndex_of h0 h1,e],by omega,by omega,h1⟩
    · rw [if_neg h1] at h; cases h
  · rw [if_neg h0] at h
    by_cases h1:-(n:Int) ≤ i
    · rw [if_pos h1] at h
      have e:(i + n).toNat = j:=Option.some.inj h
      exact ⟨by rw [seqIndex_neg (by omega) h1,e],by omega,h1,by omega⟩
    · rw [if_neg h1] at h; cases h
theorem atI_get {α:Type} {xs:List α} {i:Int} {v:α} (h:atI xs i = some v):∃ j,seqIndex? i xs.length = some j ∧ xs[j]? = some v ∧ j < xs.length ∧ -(xs.length:Int) ≤ i ∧ i < xs.length:=by
  unfold atI at h
  cases e:ixN xs.length i with
  | none=>rw [e] at h; cases h
  | some j =>
    rw [e] at h
    obtain ⟨h1,h2,h3,h4⟩:=ixN_seq e
    exact ⟨j,h1,h,h2,h3,h4⟩
theorem atI_nat {α:Type} {xs:List α} {j:Nat} {v:α} (h:xs[j]? = some v):atI xs (j:Int) = some v:=by
  have hj:j < xs.length:=(List.getElem?_eq_some_iff.mp h).1
  have e:ixN xs.length (j:Int) = some j:=by
    unfold ixN
    rw [if_pos (by omega),if_pos (by omega)]; simp
  unfold atI; rw [e]; exact h
def PlainIx (b:Expr):Prop:=∀ o i,subscripted b false o i = operate [o,i] (getItem o i)
def IxR (X:Cx) (r:R2):Prop :=
  ∀ (value slice:Expr) (pins:List (Addr × Obj)) (s:Shared) (σ:St) (H:Hp) (x y:V) (v u:Value) (Q:VK),Inv X pins σ H s → RelV x v → RelV y u → r x y H Q →
    subscripted slice false v u = operate [v,u] (getItem v u) → wpC (model X.prog X.w) X.A (subscriptTail value slice v u) (EP X pins σ Q) X.xe s
def MtR (X:Cx) (id:String) (r:V → List V → Hp → VK → Prop):Prop :=
  ∀ (pins:List (Addr × Obj)) (s:Shared) (σ:St) (H:Hp) (x:V) (xs:List V) (v:Value) (us:List Value) (Q:VK),Inv X pins σ H s → RelV x v → Vals xs us → r x xs H Q →
    wpC (model X.prog X.w) X.A (call (.builtin id) (v :: us)) (EP X pins σ Q) X.xe s
section
variable {X:Cx} {a b:Expr} {ta tb:TE} {pos:Pos}
theorem IxR.or {r r':R2} (h:IxR X r) (h':IxR X r'):IxR X (fun x y H Q=>r x y H Q ∨ r' x y H Q):=by
  intro value slice pins s σ H x y v u Q I rx ry q hs
  rcases q with q | q
  · exact h value slice pins s σ H x y v u Q I rx ry q hs
  · exact h' value slice pins s σ H x y v u Q I rx ry q hs
theorem pe_ix {r:R2} (hr:IxR X r) (ha:PE X a ta) (hb:PE X b tb) (hs:PlainIx b):PE X (.Subscript a b pos) (tOp r ta tb):=by
  intro pins s σ H Q I h
  exact Subscript_ (binT ha hb I h fun v u s2 x y H2 I2 rx ry q=>hr a b pins s2 σ H2 x y v u Q I2 rx ry q (hs _ _))
def rIxL (K:PySem.W.Frag):R2:=fun x y H Q=>∃ p xs i v,x = .ref p ∧ y = .int i ∧ SqL K H p xs ∧ atI xs i = some v ∧ Q v H
def rIxT (K:PySem.W.Frag):R2:=fun x y H Q=>∃ p xs i v,x = .ref p ∧ y = .int i ∧ SqT K H p xs ∧ atI xs i = some v ∧ Q v H
def rIxS:R2:=fun x y H Q=>∃ z i c,x = .str z ∧ y = .int i ∧ z.length ≤ sizeLine ∧ atI z.cps.toList i = some c ∧ Q (.str ⟨#[c]⟩) H
theorem ix_list:IxR X (rIxL X.K):=by
  intro value slice pins s σ H x y v u Q I rx ry h hs
  obtain ⟨p,xs,i,z,rfl,rfl,hq,he,q⟩:=h
  cases rx
  obtain ⟨t,rfl⟩:=ry
  obtain ⟨its,r,pl,hz⟩:=I.list hq
  obtain ⟨j,h1,h2,h3,h4,h5⟩:=atI_get he
  obtain ⟨w,ew,rw'⟩:=r.get h2
  have hl:=r.length
  have hn:=line63
  have fin:EP X pins σ Q w s:=⟨z,H,I,rw',q⟩
  by_cases h0:0 ≤ i
  · have hj:i.toNat = j:=by
      rw [seqIndex_of h0 h5] at h1
      exact Option.some.inj h1
    exact item_listR pl.isList h0 (by omega) (by rw [hj]; simpa using ew) fin hs
  · have hj:(i + (its.toArray.size:Int)).toNat = j:=by
      rw [seqIndex_neg (by omega) h4] at h1
      rw [List.size_toArray,← hl]
      exact Option.some.inj h1
    exact subscriptTail_builtinR (x:=w) pl.isList.typeIs slot_list_getitem.lookup
      (wpC_getItem_list_neg (Q:=fun r s'=>r = w ∧ EP X pins σ Q r s') pl.isList (by omega) (by rw [List.size_toArray] <;> omega) (by omega) (by rw [hj]; simpa using ew) ⟨rfl,fin⟩) hs
theorem ix_tup:IxR X (rIxT X.K):=by
  intro value slice pins s σ H x y v u Q I rx ry h hs
  obtain ⟨p,xs,i,z,rfl,rfl,hq,he,q⟩:=h
  cases rx
  obtain ⟨t,rfl⟩:=ry
  obtain ⟨its,r,pl,hz⟩:=I.tuple hq
  obtain ⟨j,h1,h2,h3,h4,h5⟩:=atI_get he
  obtain ⟨w,ew,rw'⟩:=r.get h2
  have hl:=r.length
  have hn:=line63
  have fin:EP X pins σ Q w s:=⟨z,H,I,rw',q⟩
  exact subscriptTail_builtinR (x:=w) pl.typeIs slot_tuple_getitem.lookup
    (getItem_tuple (j:=j) (Q:=fun r s'=>r = w ∧ EP X pins σ Q r s') pl (by omega) (by omega) (by rw [List.size_toArray,← hl]; exact h1) (by simpa using ew) ⟨rfl,fin⟩) hs
theorem ix_str:IxR X rIxS:=by
  intro value slice pins s σ H x y v u Q I rx ry h hs
  obtain ⟨z,i,c,rfl,rfl,hz,he,q⟩:=h
  obtain ⟨t,rfl⟩:=rx
  obtain ⟨t',rfl⟩:=ry
  obtain ⟨j,h1,h2,h3,h4,h5⟩:=atI_get he
  have hl:z.cps.toList.length = z.length:=by simp [Str.length]
  rw [hl] at h1 h4 h5
  have hn:=line63
  exact tail_any (typeIs_str s z t) slot_str_getitem.lookup (getItem_str (c:=c) (by
    have e1:decide (i < -(2 ^ 63:Int)) = false:=decide_eq_false (by omega)
    have e2:decide (i ≥ 2 ^ 63) = false:=decide_eq_false (by omega)
    rw [e1,e2,Bool.or_false]) (by rw [h1]; simpa using h2) ⟨.str ⟨#[c]⟩,H,I.tok _,⟨_,rfl⟩,q⟩) hs
theorem mapSeq_set (its:List Value) (n j:Nat) (u:Value):Obj.mapSeq (·.setIfInBounds j u) { cls:=.type "list",data:=.seq its.toArray n } = { cls:=.type "list",data:=.seq (its.set j u).toArray n }:=by
  simp [Obj.mapSeq]
theorem Inv.lst {pins:List (Addr × Obj)} {σ:St} {H:Hp} {s:Shared} {p:Addr} {xs:List V} (I:Inv X pins σ H s) (h:H p = some (.lst xs)) :
    ∃ (its:List Value) (n:Nat),Vals xs its ∧ s.heap.get? p = some { cls:=.type "list",data:=.seq its.toArray n } ∧ xs.length ≤ sizeLine:=by
  obtain ⟨z,its,n,r,e⟩:=I.hok p _ h
  exact ⟨its,n,r,e,z⟩
theorem Inv.lstUpd {pins:List (Addr × Obj)} {σ:St} {H:Hp} {s:Shared} {p:Addr} {xs ys:List V} {its its':List Value} {n n':Nat} {f:Obj → Obj} (I:Inv X pins σ H s) (h:H p = some (.lst xs))
    (ho:s.heap.get? p = some { cls:=.type "list",data:=.seq its.toArray n }) (hf:f { cls:=.type "list",data:=.seq its.toArray n } = { cls:=.type "list",data:=.seq its'.toArray n' }) (r:Vals ys its') (hz:ys.length ≤ sizeLine) (t:Nat) :
    Inv X pins σ (upd H p (.lst ys)) { s with heap:=s.heap.update p f,toks:=t }:=by
  have e:(s.heap.update p f).get? p = some { cls:=.type "list",data:=.seq its'.toArray n' }:=by
    rw [Heap.get?_update_self f ho (by rw [hf] <;> rfl),hf]
  refine I.write (x:=p) (e:=p) (by rw [h]; trivial) (.inl rfl) (fun b u hb q=>(Heap.get?_update_other _ _ (Ne.symm hb)).trans q) ⟨_,e⟩ ?_
  exact ⟨hz,its',n',r,e⟩
def rSetL:V → V → V → Hp → (Hp → Prop) → Prop:=fun o i v H Q=>∃ p xs k j,o = .ref p ∧ i = .int k ∧ H p = some (.lst xs) ∧ ixN xs.length k = some j ∧ Q (upd H p (.lst (xs.set j v)))
theorem set_list:PSet X rSetL:=by
  intro pins s σ H o i v ov iv u Q I ro ri rv h
  obtain ⟨p,xs,k,j,rfl,rfl,hp,hj,q⟩:=h
  cases ro
  obtain ⟨t,rfl⟩:=ri
  obtain ⟨its,n,r,ho,hz⟩:=I.lst hp
  obtain ⟨h1,h2,h3,h4⟩:=ixN_seq hj
  have hl:=r.length
  have hn:=line63
  have I':Inv X pins σ (upd H p (.lst (xs.set j v))) { s with heap:=s.heap.update p (Obj.mapSeq (·.setIfInBounds j u)) } :=
    I.lstUpd hp ho (mapSeq_set its n j u) (r.set rv j) (by rw [List.length_set]; exact hz) s.toks
  by_cases h0:0 ≤ k
  · have hk:k.toNat = j:=by
      rw [seqIndex_of h0 h4] at h1
      exact Option.some.inj h1
    exact PySem_W_ki_setAt ho h0 (by omega) (by rw [List.size_toArray,← hl]; exact h4) (by rw [hk]; exact ⟨_,I',q⟩)
  · have hk:(k + (its.toArray.size:Int)).toNat = j:=by
      rw [seqIndex_neg (by omega) h3] at h1
      rw [List.size_toArray,← hl]
      exact Option.some.inj h1
    exact PySem_W_ki_setBack ho (by omega) (by rw [List.size_toArray,← hl]; exact h3) (by omega) (by rw [hk]; exact ⟨_,I',q⟩)
theorem slice_bounds (lo hi:Option Int) (n:Nat):(sliceBounds lo hi none n).1 = ((HT.sIx n 0 lo:Nat):Int) ∧ (sliceBounds lo hi none n).2.1 = ((HT.sIx n n hi:Nat):Int) ∧ (sliceBounds lo hi none n).2.2 = 1:=by
  refine ⟨?_,?_,rfl⟩
  · cases lo with
    | none=>simp [sliceBounds,HT.sIx]
    | some i =>
      simp only [sliceBounds,HT.sIx,Option.getD_none,show (1:Int) > 0 by decide,if_true]
      by_cases h:i < 0
      · simp only [h,if_true] <;> omega
      · simp only [h,if_false] <;> omega
  · cases hi with
    | none=>simp [sliceBounds,HT.sIx]
    | some i =>
      simp only [sliceBounds,HT.sIx,Option.getD_none,show (1:Int) > 0 by decide,if_true]
      by_cases h:i < 0
      · simp only [h,if_true] <;> omega
      · simp only [h,if_false] <;> omega
theorem slicePick_cut (its:List Value) (lo hi:Option Int):slicePick its.toArray lo hi none = ((its.drop (HT.sIx its.length 0 lo)).take (HT.sIx its.length its.length hi - HT.sIx its.length 0 lo)).toArray:=by
  obtain ⟨h1,h2,h3⟩:=slice_bounds lo hi its.toArray.size
  unfold slicePick
  rw [h1,h2,h3]
  simp only [sliceRange_one,pick_run,List.size_toArray] <;> rfl
def rSlL (K:PySem.W.Frag):V → Option Int → Option Int → Hp → VK → Prop:=fun x lo hi H Q=>∃ a xs,x = .ref a ∧ SqL K H a xs ∧ ∀ p,H p = none → Q (.ref p) (upd H p (.lst (cutV xs lo hi)))
theorem sl_list:SlR X (rSlL X.K):=by
  intro pins s σ H x v vl vu lo hi sl Q I rx hs pl pu h
  obtain ⟨a,xs,rfl,hx,q⟩:=h
  cases rx
  obtain ⟨its,r,ht,hz⟩:=I.list hx
  have hlen:=r.length
  refine ⟨"list",_,slot_list_getitem.lookup,ht.isList.typeIs,?_⟩
  refine wpC_getItem_list_slice ht.isList hs pl pu .none (by simp) ?_ (by rw [List.size_toArray] <;> omega)
  rw [slicePick_cut,← hlen]
  refine ⟨.ref s.heap.objs.size,_,I.laid (t':=s.toks) (o:=.lst (cutV xs lo hi)) (fun b ob q=>Heap.get?_push_of_some _ q) (Nat.le_refl _) ?_,rfl,q _ (I.hok.fresh (Nat.le_refl _))⟩
  exact ⟨Nat.le_trans (cutV_length xs lo hi) hz,_,0,(r.drop (HT.sIx xs.length 0 lo)).take (HT.sIx xs.length xs.length hi - HT.sIx xs.length 0 lo),Heap.get?_push_size _ rfl⟩
theorem call_len_seq:CallR X (.builtin "len") (fun xs H Q=>∃ p ys,xs = [.ref p] ∧ (SqL X.K H p ys ∨ SqT X.K H p ys) ∧ Q (.int ys.length) H):=by
  intro pins s σ H xs us Q I r h
  obtain ⟨p,ys,rfl,hq,q⟩:=h
  obtain ⟨u,rfl,rx⟩:=vals1 r
  cases rx
  have hn:=line63
  rcases hq with hq | hq
  · obtain ⟨its,r',pl,hz⟩:=I.list hq
    have hlen:=r'.length
    exact Calls.call_len_list pl.isList (by simp only [List.size_toArray] <;> omega) ⟨.int ys.length,H,I.tok _,⟨s.toks + 1,by rw [List.size_toArray,hlen]⟩,q⟩
  · obtain ⟨its,r',pl,hz⟩:=I.tuple hq
    have hlen:=r'.length
    exact len_tuple pl (by simp only [List.size_toArray] <;> omega) ⟨.int ys.length,H,I.tok _,⟨s.toks + 1,by rw [List.size_toArray,hlen]⟩,q⟩
theorem call_len_str:CallR X (.builtin "len") (fun xs H Q=>∃ z,xs = [.str z] ∧ z.length ≤ sizeLine ∧ Q (.int z.length) H):=by
  intro pins s σ H xs us Q I r h
  obtain ⟨z,rfl,hz,q⟩:=h
  obtain ⟨u,rfl,t,rfl⟩:=vals1 r
  have hn:=line63
  exact len_str (by omega) ⟨.int z.length,H,I.tok _,⟨_,rfl⟩,q⟩
theorem call_list_of:CallR X (.type "list") (fun xs H Q=>∃ p ys,xs = [.ref p] ∧ (SqL X.K H p ys ∨ SqT X.K H p ys) ∧ ∀ l,H l = none → Q (.ref l) (upd H l (.lst ys))):=by
  intro pins s σ H xs us Q I r h
  obtain ⟨p,ys,rfl,hq,q⟩:=h
  obtain ⟨u,rfl,rx⟩:=vals1 r
  cases rx
  have fin:∀ (its:List Value),Vals ys its → ys.length ≤ sizeLine → ∀ (h':Heap) (c':Nat),(∀ b o',s.heap.get? b = some o' → h'.get? b = some o') →
      h'.get? s.heap.objs.size = some { cls:=.type "list",dict:=none,data:=.seq its.toArray c',slots:=#[] } → EP X pins σ Q (.ref s.heap.objs.size) { s with heap:=h' }:=fun its r' hz h' c' kp e =>
    ⟨.ref s.heap.objs.size,_,I.laid (t':=s.toks) kp (Nat.le_refl _) (show ObjOk X.prog X.w _ h' _ (.lst ys) from ⟨hz,its,c',r',e⟩),rfl,q _ (I.hok.fresh (Nat.le_refl _))⟩
  rcases hq with hq | hq
  · obtain ⟨its,r',pl,hz⟩:=I.list hq
    have hlen:=r'.length
    obtain ⟨o,ho,hc,n,hd⟩:=pl.isList
    exact call_list_seq p (.inl rfl) ho hc hd (fun h' c' kp e=>fin its r' hz h' c' kp e) (by simp only [List.size_toArray] <;> omega)
  · obtain ⟨its,r',pl,hz⟩:=I.tuple hq
    have hlen:=r'.length
    obtain ⟨o,ho,hc,n,hd⟩:=pl
    exact call_list_seq p (.inr rfl) ho hc hd (fun h' c' kp e=>fin its r' hz h' c' kp e) (by simp only [List.size_toArray] <;> omega)
theorem call_tuple_of:CallR X (.type "tuple") (fun xs H Q=>∃ p ys,xs = [.ref p] ∧ ((SqL X.K H p ys ∧ ∀ l,H l = none → Q (.ref l) (upd H l (.tup ys))) ∨ (SqT X.K H p ys ∧ Q (.ref p) H))):=by
  intro pins s σ H xs us Q I r h
  obtain ⟨p,ys,rfl,h⟩:=h
  obtain ⟨u,rfl,rx⟩:=vals1 r
  cases rx
  rcases h with ⟨hq,q⟩ | ⟨hq,q⟩
  · obtain ⟨its,r',pl,hz⟩:=I.list hq
    have hlen:=r'.length
    refine call_tuple_list pl.isList (fun h' kp=>?_) (by simp only [List.size_toArray] <;> omega)
    have I1:Inv X pins σ H { s with heap:=h' }:=I.kept (t':=s.toks) kp
    have I2:Inv X pins σ (upd H h'.objs.size (.tup ys)) { s with heap:=h'.push { cls:=.type "tuple",data:=.seq its.toArray } } :=
      I1.laid (t':=s.toks) (fun b o e=>Heap.get?_push_of_some _ e) (Nat.le_refl _) (show ObjOk X.prog X.w _ _ _ (.tup ys) from ⟨hz,its,r',IsTup.new _ _⟩)
    exact ⟨.ref h'.objs.size,_,I2,rfl,q _ (I1.hok.fresh (Nat.le_refl _))⟩
  · obtain ⟨its,r',pl,hz⟩:=I.tuple hq
    exact call_tuple_same pl ⟨.ref p,H,I,rfl,q⟩
def tyV (K:PySem.W.Frag) (T:String) (x:V) (H:Hp):Prop:=match x with
  | .str _=>T = "str"
  | .int _=>T = "int"
  | .ref p=>(T = "list" ∧ ∃ xs,SqL K H p xs) ∨ (T = "tuple" ∧ ∃ o,K.lookup p = some o ∧ o.cls = .type "tuple" ∧ o.dict = none) ∨
      (T = "dict" ∧ ((∃ kvs,H p = some (.dK kvs)) ∨ ∃ kvs,H p = some (.dT kvs))) ∨ (T = "set" ∧ ∃ S n,H p = some (.set S n))
  | _=>False
theorem tyV_is {pins:List (Addr × Obj)} {σ:St} {H:Hp} {s:Shared} {T:String} {x:V} {v:Value} (I:Inv X pins σ H s) (r:RelV x v) (ty:tyV X.K T x H) :
    s.TypeIs v T ∧ ∀ a,v = .ref a → ∃ ob,s.heap.get? a = some ob ∧ ob.dict = none:=by
  cases x with
  | str z =>
    obtain ⟨t,rfl⟩:=r
    cases (show T = "str" from ty)
    exact ⟨typeIs_str s z t,fun _ e=>nomatch e⟩
  | int i =>
    obtain ⟨t,rfl⟩:=r
    cases (show T = "int" from ty)
    exact ⟨typeIs_int s i t,fun _ e=>nomatch e⟩
  | ref p =>
    cases r
    rcases ty with ⟨rfl,xs,hq⟩ | ⟨rfl,o,hk,hc,hd⟩ | ⟨rfl,hk⟩ | ⟨rfl,S,n,hk⟩
    · obtain ⟨its,_,pl,_⟩:=I.list hq
      refine ⟨pl.isList.typeIs,fun a e=>?_⟩
      cases e
      obtain ⟨o,n,e,c,hd,_⟩:=pl
      exact ⟨o,e,hd⟩
    · refine ⟨⟨o,I.kIn p o hk,hc⟩,fun a e=>?_⟩
      cases e
      exact ⟨o,I.kIn _ o hk,hd⟩
    · have z:∃ o,s.heap.get? p = some o ∧ o.ExactDict:=by
        rcases hk with ⟨kvs,hk⟩ | ⟨kvs,hk⟩
        · obtain ⟨_,_,_,_,o,_,_,e,ex,_⟩:=I.hok p _ hk
          exact ⟨o,e,ex⟩
        · obtain ⟨_,_,_,_,o,_,_,e,ex,_⟩:=I.hok p _ hk
          exact ⟨o,e,ex⟩
      obtain ⟨o,e,ex⟩:=z
      refine ⟨⟨o,e,ex.1⟩,fun a e2=>?_⟩
      cases e2
      exact ⟨o,e,ex.2.1⟩
    · obtain ⟨o,_,_,_,e,ex,_⟩:=I.hok p _ hk
      refine ⟨⟨o,e,ex.1⟩,fun a e2=>?_⟩
      cases e2
      exact ⟨o,e,ex.2.1⟩
  | _=>exact False.elim ty
def tBM (K:PySem.W.Frag) (T:String) (r:V → List V → Hp → VK → Prop) (to:TE) (t:TA):TE:=fun σ H Q=>to σ H fun x H1=>tyV K T x H1 ∧ t σ H1 fun xs H2=>r x xs H2 Q
variable {o e:Expr} {es:List Expr} {to:TE} {t:TA} {name:Str} {apos cpos:Pos} {T id:String} {r:V → List V → Hp → VK → Prop}
theorem pe_bm (pa:PlainAttrs T) (slot:Slot T name id) (hty:typeOf (.builtin id) = pure (.type "method_descriptor")) (hm:MtR X id r) (ho:PE X o to) (ha:PA X (e :: es) t)
    (hbase:attributeBase o name X.env (eval o X.env) = eval o X.env:=by rfl)
    (hfew:((backTo cpos (starEach (e :: es) X.env)).all (fun x=>!x.1) && (backToKw cpos (keywordEach [] X.env)).all (fun x=>x.1.isSome)
      && decide ((e :: es).length + ([]:List Keyword).length + (if ([]:List Keyword).isEmpty then 0 else 1) < 30)) = true:=by rfl)
    (hline:(apos.endLine == cpos.line) = true:=by rfl) (hs:starEach (e :: es) X.env = (false,eval e X.env) :: starEach es X.env:=by rfl) (hplain:(backTo cpos (starEach es X.env)).any (·.1) = false:=by rfl) :
    PE X (.Call (.Attribute o name apos) (e :: es) [] cpos) (tBM X.K T r to t):=by
  intro pins s σ H Q I h
  refine wpC_Call_method_late hbase hfew hline rfl (thn (ho pins s σ H _ I h) fun v s1 ⟨x,H1,I1,r1,ty,q1⟩=>?_)
  obtain ⟨h1,h2⟩:=tyV_is I1 r1 ty
  refine ⟨T,id,pa,slot,hty,h1,h2,?_⟩
  have hA:=ha cpos pins s1 σ H1 _ I1 q1
  rw [hs] at hA ⊢
  refine Calls.callWith_builtin (by show (false || (backTo cpos (starEach es X.env)).any (·.1)) = false; rw [hplain] <;> rfl) (Calls.evalArgs_plain ?_)
  exact thn hA fun us s2 ⟨vs,H2,I2,r2,q2⟩=>hm pins s2 σ H2 x vs v us Q I2 r1 r2 q2
end
end L2
namespace L2
open PySem PySem.Spec PyProof.Rows
def MtM (X:Cx) (id:String) (r:V → List V → Hp → VK → Prop):Prop :=
  ∀ (pins:List (Addr × Obj)) (s:Shared) (σ:St) (H:Hp) (x:V) (xs:List V) (v:Value) (us:List Value) (Q:VK),Inv X pins σ H s → RelV x v → Vals xs us → r x xs H Q →
    wpC (model X.prog X.w) X.A (call (.builtin id) (v :: us)) (EP X pins σ Q) X.xe s
theorem Vals.one:∀ {x:V} {us:List Value},Vals [x] us → ∃ u,us = [u] ∧ RelV x u
  | _,_,.cons r .nil=>⟨_,rfl,r⟩
section
variable {X:Cx} {pins:List (Addr × Obj)} {σ:St} {H:Hp} {s:Shared} {l b:Addr} {xs ys zs:List V}
theorem Inv.lset {its its':List Value} {n:Nat} {f:Array Value → Array Value} {t':Nat} (I:Inv X pins σ H s) (hH:H l = some (.lst xs))
    (e:s.heap.get? l = some { cls:=.type "list",data:=.seq its.toArray n }) (hf:f its.toArray = its'.toArray) (hv:Vals ys its') (hz:ys.length ≤ sizeLine) :
    Inv X pins σ (upd H l (.lst ys)) { s with heap:=s.heap.update l (Obj.mapSeq f),toks:=t' }:=by
  have q:=PySem.IsL.update e f
  rw [hf] at q
  refine I.write (x:=l) (e:=l) (by rw [hH]; exact trivial) (.inl rfl) (fun b' u hb hu=>(Heap.get?_update_other s.heap (Obj.mapSeq f) (Ne.symm hb)).trans hu) ⟨_,q⟩ ?_
  exact ⟨hz,its',_,hv,q⟩
theorem Inv.lnew {its:List Value} {t':Nat} (I:Inv X pins σ H s) (hv:Vals ys its) (hz:ys.length ≤ sizeLine) :
    Inv X pins σ (upd H s.heap.objs.size (.lst ys)) { s with heap:=s.heap.push { cls:=.type "list",data:=.seq its.toArray },toks:=t' } :=
  I.laid (fun _ _ q=>Heap.get?_push_of_some _ q) (Nat.le_refl _) ⟨hz,its,0,hv,Heap.get?_push_size _ rfl⟩
theorem Inv.fresh (I:Inv X pins σ H s):H s.heap.objs.size = none:=I.hok.fresh (Nat.le_refl _)
theorem Inv.lstM (I:Inv X pins σ H s) (hH:H l = some (.lst xs)):xs.length ≤ sizeLine ∧ ∃ (its:List Value) (n:Nat),Vals xs its ∧ xs.length = its.length ∧ s.heap.get? l = some { cls:=.type "list",data:=.seq its.toArray n }:=by
  obtain ⟨z,its,n,r,e⟩:=I.hok l _ hH
  exact ⟨z,its,n,r,r.length,e⟩
end
section
variable {X:Cx}
def rAppend:V → List V → Hp → VK → Prop:=fun x vs H Q=>∃ l xs y,x = .ref l ∧ vs = [y] ∧ H l = some (.lst xs) ∧ xs.length < sizeLine ∧ Q .non (upd H l (.lst (xs ++ [y])))
theorem mt_append:MtM X "list.append" rAppend:=by
  intro pins s σ H x vs v us Q I rx rv h
  obtain ⟨l,xs,y,rfl,rfl,hH,hz,q⟩:=h
  cases rx
  obtain ⟨u,rfl,ru⟩:=rv.one
  obtain ⟨z,its,n,r,hl,e⟩:=I.lstM hH
  refine call_meets F.slot_list_append ⟨_,e,rfl⟩ F.entry_list_append (F.args_list_append_2 _ _) (PySem.list_append l its.toArray n u (by rw [List.size_toArray]; omega)) ⟨e,?_⟩
  refine ⟨.non,_,I.lset (its':=its ++ [u]) hH e (by simp) (r.append (.cons ru .nil)) ?_,rfl,q⟩
  rw [List.length_append,List.length_singleton]
  omega
end
section
variable {prog:Program} {w:World} {A:Around} {E:Value → Shared → Prop} {s:Shared}
set_option maxRecDepth 100000 in
end
section
variable {X:Cx}
end
end L2
namespace Att
open PySem PySem.W PySem.Calls PyProof.Rows
theorem ints_of_wellAll {P:Params} {h:Heap}:∀ (ns:List Int) (vs:List Value),WellAll P h vs (ns.map WData.int) → IntsAre vs ns:=by
  intro ns
  induction ns with
  | nil =>
    intro vs w
    rw [List.map_nil] at w
    cases w
    exact .nil
  | cons n ns ih =>
    intro vs w
    rw [List.map_cons] at w
    cases w with
    | cons a b =>
      cases a
      exact .cons _ _ (ih _ b)
theorem script_of {l:OpenLaw} {n:Nat} (hn:l.most = some n) {P:Params} {h:Heap} {args:List WData} {vals:List Value}
    (hpre:l.row.toRowW.claim.pre args = true) (hwl:WellAll P h vals args) :
    ∃ a vs ns,vals = [Value.ref a] ∧ args = [WData.list (ns.map WData.int)] ∧ h.get? a = some { cls:=.type "list",data:=.seq vs.toArray } ∧ IntsAre vs ns ∧ ns.length ≤ n:=by
  have hsh:WShape.hasAll [] args [.list .int] = true:=(pre_splitW hpre).1
  have hc:l.pre.holds [] { args:=args } = true:=(pre_splitW hpre).2
  obtain ⟨d,r,rfl,h1,h2⟩:=hasAllW_cons hsh
  obtain rfl:=hasAllW_nil h2
  obtain ⟨xs,rfl,h3⟩:=hasW_list h1
  obtain ⟨ns,rfl⟩:=items_int h3
  have hlen:ns.length ≤ n:=by
    unfold OpenLaw.pre at hc
    have h4:(WTm.not (.lt (.lit (.int (n:Int))) (.len (.arg 0)))).holds [] { args:=[.list (ns.map .int)] } = true:=by
      have h4:=(holds_andW hc).1
      rw [hn] at h4
      exact h4
    have h5:=condW_of h4 (w_not (w_lt w_lit (w_len_list (w_arg rfl))))
    rw [List.length_map] at h5
    refine Nat.le_of_not_lt fun q=>?_
    have q':(n:Int) < ((ns.length:Nat):Int):=by omega
    first
      | (rw [decide_eq_true q'] at h5; exact absurd h5 (by decide))
      | (simp at h5; omega)
  cases hwl with
  | cons w1 w2 =>
    cases w2
    cases w1 with
    | list ho hall=>exact ⟨_,_,ns,rfl,rfl,ho,ints_of_wellAll ns _ hall,hlen⟩
theorem post_true (l:OpenLaw) (args:List WData):l.row.toRowW.claim.post args (.bool true) args = true :=
  postW_of (r:=l.row.toRowW) (X:=(true == true))
    (show WShape.has [] (.bool true) .bool = true by first | rfl | decide | simp [WShape.has,WShape.arms,WShape.armsAll])
    (show (WTm.eq .res (.lit (.bool true))).value [] { args:=args,res:=some (.bool true),after:=args } = some (.bool (true == true)) from w_eq_bool (w_res rfl) w_lit) rfl
section
variable {prog:Program} {w:World} {A:Around} {E:Value → Shared → Prop} {s:Shared} {K:Frag}
def ledger (h:Heap) (L d:Addr):List (Addr × Obj):=(List.range h.objs.size).filterMap fun a=>if a = L ∨ a = d then none else (h.get? a).map fun o=>(a,o)
end
end Att
namespace L2
open PySem PySem.Spec PyProof.Rows
theorem vals_ints:∀ {vs:List Value} {ns:List Int},IntsAre vs ns → Vals (ns.map V.int) vs
  | _,_,.nil=>.nil
  | _,_,.cons n t h=>.cons ⟨t,rfl⟩ (vals_ints h)
def Only (H:Hp):Prop:=∀ b,H b = none ∨ ∃ o xs,H b = some (.frz o (.lst xs))
theorem law_call {P:Program} {w:World} {K:PySem.W.Frag} {mg mb:Str → Option Value} {CX:CXT} {k:Nat} {fa a:Addr} {fd:FuncData} {x:Str} {sp:Sp} {s₁:Shared} {vs:List Value} {ns:List Int}
    (KX:K.In s₁.heap) (hns:s₁.heap.Ns mainGlobals mg) (hb:s₁.heap.Ns builtinsNs mb) (hbb:∀ x:Str,x ≠ "__name__" → mb x = bootBuiltins x) (hlim:s₁.heap.NoLimit) (hg:s₁.gens = #[])
    (ha:s₁.heap.get? a = some { cls:=.type "list",data:=.seq vs.toArray }) (hi:IntsAre vs ns) (hl:ns.length ≤ sizeLine) (hr:Room k callerA)
    (F:∀ base:Heap,K.In base → base.Ns mainGlobals mg → FnOk P w K mg base CX k fa fd [x] sp) (hbind:∀ (s:Shared) (u:Value),BindsTo s fd ⟨[u],[]⟩ [(x,u)])
    (hsp:∀ H:Hp,Only H → SqL K H a (ns.map V.int) → sp [.ref a] H (fun v _=>v = .bl true) fun _ _ _=>False)
    (hCX:∀ H e s',CX [] H s₁ (fun _ _ _=>False) e s' → False) :
    codeC (model P w) callerA (.call (.ref fa) ⟨[.ref a],[]⟩) (fun r s'=>r = .ok (.ret (.bool true)) ∧ OldK s₁.heap s'.heap ∧ s'.os = s₁.os ∧ AllBare s'.gens) s₁:=by
  have rv:=vals_ints hi
  have lenV:=hi.length
  -- from an abstract heap in which nothing but the script may be tracked
  have core:∀ H:Hp,Only H → SqL K H a (ns.map V.int) → HOk P w H s₁.heap → (∀ b,H b ≠ none → b = a) → (H a ≠ none → K.lookup a = none) →
      codeC (model P w) callerA (.call (.ref fa) ⟨[.ref a],[]⟩) (fun r s'=>r = .ok (.ret (.bool true)) ∧ OldK s₁.heap s'.heap ∧ s'.os = s₁.os ∧ AllBare s'.gens) s₁:=by
    intro H hO hS hok hA hK
    have base_of:∀ {b:Addr} {o:Obj},s₁.heap.get? b = some o → H b = none → (hidT s₁.heap H).get? b = some o:=fun e n=>hidT_get e n
    have noA:∀ {b:Addr} {o:Obj} {es:Array DictEntry} {ep:Nat},s₁.heap.get? b = some o → o.data = .dict es ep → H b = none:=fun {b o es ep} e d=>by
      cases q:H b with
      | none=>rfl
      | some u =>
        have e':b = a:=hA b (by rw [q]; simp)
        subst e'
        rw [ha] at e; cases e
        have d':Data.seq vs.toArray _ = Data.dict es ep:=d
        cases d'
    have nsK:∀ {b:Addr} {m:Str → Option Value},s₁.heap.Ns b m → (hidT s₁.heap H).Ns b m:=fun {b m} ⟨o,es,ep,e,d,r⟩=>⟨o,es,ep,base_of e (noA e d),d,r⟩
    have hKb:K.In (hidT s₁.heap H):=fun b o e=>base_of (KX b o e) (by
      cases q:H b with
      | none=>rfl
      | some u =>
        have e':b = a:=hA b (by rw [q]; simp)
        subst e'
        rw [hK (by rw [q]; simp)] at e; cases e)
    have hM:Mod K mg (hidT s₁.heap H):=⟨hKb,nsK hns,⟨mb,nsK hb,hbb⟩,let ⟨mc,h1,h2⟩:=hlim; ⟨mc,nsK h1,h2⟩⟩
    have e0:Env0 P w K mg (hidT s₁.heap H) callerA [] s₁ H:=⟨rfl,hM,fun b o e=>of_hidT e,Nat.le_of_eq (hidT_size _ _),trivial,fun b hb=>absurd (show b ∈ ([]:List Addr) from hb) (by simp),hok,.of_eq hg⟩
    refine codeC_mono ((F _ hKb (nsK hns)).run callerA [] s₁ H ⟨[.ref a],[]⟩ [.ref a] [.ref a] _ _ hr e0 (hbind s₁ (.ref a)) (.cons rfl .nil) (hsp H hO hS)) fun r s' h=>?_
    cases r with
    | error e=>exact (hCX H e s' h).elim
    | ok fl =>
      cases fl with
      | next=>exact False.elim h
      | brk=>exact False.elim h
      | cont=>exact False.elim h
      | ret u =>
        obtain ⟨v,H',os,bare,un,hok',r',q⟩:=h
        have q':v = .bl true:=q
        subst q'
        obtain rfl:u = Value.bool true:=r'
        refine ⟨rfl,OldK.of_keep fun b o e=>?_,os,bare⟩
        cases q:H b with
        | none=>exact un.keep b o e q (by intro z; exact absurd (show b ∈ ([]:List Addr) from z) (by simp)) (by simp)
        | some u =>
          rcases hO b with z | ⟨ob,xs,z⟩
          · rw [q] at z; cases z
          · have z2:=un.frzs b ob _ z
            obtain ⟨e1,_⟩:=hok b _ z
            obtain ⟨e2,_⟩:=hok' b _ z2
            rw [e] at e1; cases e1
            exact e2
  cases hk:K.lookup a with
  | some o =>
    -- the script is one of the module's own objects
    have e:=KX a o hk
    rw [ha] at e
    cases e
    refine core (fun _=>none) (fun _=>.inl rfl) (.inr ⟨_,vs.toArray,_,hk,rfl,rfl,rfl,by rw [List.size_toArray,lenV]; exact hl,by simpa using rv⟩) (fun b u z=>by have z':(none:Option HO) = some u:=z; cases z') (fun b z=>absurd rfl z) fun z=>absurd rfl z
  | none =>
    refine core (fun b=>if b = a then some (.frz { cls:=.type "list",data:=.seq vs.toArray } (.lst (ns.map V.int))) else none) (fun b=>?_) (.inl (.inr ⟨{ cls:=.type "list",data:=.seq vs.toArray },if_pos rfl⟩)) (fun b u z=>?_) (fun b z=>?_) fun _=>hk
    · by_cases hb:b = a
      · exact .inr ⟨_,_,if_pos hb⟩
      · exact .inl (if_neg hb)
    · by_cases hb:b = a
      · have z':=(if_pos hb).symm.trans z
        cases z'
        subst hb
        exact ⟨ha,by rw [List.length_map]; exact hl,vs,_,rv,ha⟩
      · have z':=(if_neg hb).symm.trans z
        cases z'
    · by_cases hb:b = a
      · exact hb
      · exact absurd (if_neg hb) z
end L2
namespace L2
open PySem PySem.Spec PyProof.Rows
end L2
namespace L2
open PySem PySem.Spec PyProof.Rows
def defArgs (s:Stmt):Arguments:=match s with
  | .FunctionDef _ a _ _ _ _ _ _ _ _=>a
  | _=>{ posonlyargs:=[],args:=[],vararg:=none,kwonlyargs:=[],kw_defaults:=[],kwarg:=none,defaults:=[] }
def defBody (s:Stmt):List Stmt:=match s with
  | .FunctionDef _ _ b _ _ _ _ _ _ _=>b
  | _=>[]
def defScope (s:Stmt):Scope:=match s with
  | .FunctionDef _ _ _ _ _ _ sc _ _ _=>sc
  | _=>{ kind:=.function,names:=[],isGenerator:=false,isCoroutine:=false }
abbrev E0:XK:=fun _ _ _=>False
structure Fun (K:PySem.W.Frag) (x qual:Str) (st:Stmt) (f:Addr) (fd:FuncData):Prop where
  ex:∃ (oc:Value) (od:Option Addr) (kV doc pm:Value) (an:Option Addr) (cdv ct:Value) (osl:Array (Option Value)),
    fd = PySem.W.fnOf x qual (defArgs st) (defBody st) (defScope st) .none kV doc pm an cdv ct ∧ K.lookup f = some ⟨oc,od,.func fd,osl⟩ ∧ PySem.W.codeIn K cdv qual = true
  kp:PySem.W.keepIn K (.ref f) = true
section
variable {P:Program} {w:World} {K:PySem.W.Frag} {mg:Str → Option Value} {base:Heap}
theorem Fun.binds {x qual:Str} {st:Stmt} {f:Addr} {fd:FuncData} {ps:List Str} (F:Fun K x qual st f fd)
    (h:∀ (kV doc pm:Value) (an:Option Addr) (cdv ct:Value) (us:List Value),us.length = ps.length → bindArgs (PySem.W.fnOf x qual (defArgs st) (defBody st) (defScope st) .none kV doc pm an cdv ct) ⟨us,[]⟩ = pure (ps.zip us)):Binds K fd ps []:=by
  obtain ⟨oc,od,kV,doc,pm,an,cdv,ct,osl,rfl,lk,hcd⟩:=F.ex
  exact .all (h kV doc pm an cdv ct)
theorem fun_mk {x qual:Str} {st:Stmt} {f:Addr} {oc:Value} {od an:Option Addr} {osl:Array (Option Value)} {kV doc pm cdv ct:Value} (l:K.lookup f = some ⟨oc,od,.func (PySem.W.fnOf x qual (defArgs st) (defBody st) (defScope st) .none kV doc pm an cdv ct),osl⟩)
    (c:PySem.W.codeIn K cdv qual = true) (k:PySem.W.keepIn K (.ref f) = true):Fun K x qual st f (PySem.W.fnOf x qual (defArgs st) (defBody st) (defScope st) .none kV doc pm an cdv ct):=⟨⟨oc,od,kV,doc,pm,an,cdv,ct,osl,rfl,l,c⟩,k⟩
end
section
variable {X:Cx}
theorem pv (i:Nat) {x:Str} {pos:Pos} (hN:X.N[i]? = some x:=by rfl) (hv:Vis X.env.scope x:=by first | exact Or.inl rfl | exact Or.inr (Or.inl rfl) | exact Or.inr (Or.inr rfl)) (hd:(x == ("__debug__" : Str)) = false:=by decide)
    (hcd:(x == ("__classdict__" : Str)) = false:=by decide):PE X (.Name x pos) (tVar i):=pe_var hN hv hd hcd
end
theorem iteF {A B:Prop} (h:B):if false = true then A else B:=by
  rw [if_neg Bool.false_ne_true]
  exact h
theorem iteT {A B:Prop} (h:A):if true = true then A else B:=by
  rw [if_pos rfl]
  exact h
theorem ite2 {c A B:Prop} [Decidable c] (h1:c → A) (h2:¬ c → B):if c then A else B:=by
  by_cases h:c
  · rw [if_pos h]
    exact h1 h
  · rw [if_neg h]
    exact h2 h
def Same (H H':Hp):Prop:=∀ b o,H b = some o → H' b = some o
theorem Same.refl (H:Hp):Same H H:=fun _ _ h=>h
theorem Same.trans {H H1 H2:Hp} (a:Same H H1) (b:Same H1 H2):Same H H2:=fun c o h=>b c o (a c o h)
theorem Same.seq {K:PySem.W.Frag} {H H':Hp} {a:Addr} {xs:List V} (e:Same H H') (h:SqL K H a xs):SqL K H' a xs:=by
  rcases h with (h | ⟨o,h⟩) | h
  · exact .inl (.inl (e _ _ h))
  · exact .inl (.inr ⟨o,e _ _ h⟩)
  · exact .inr h
end L2
set_option maxHeartbeats 4000000
namespace L2
open PySem PySem.Spec PyProof.Rows
theorem small4000 {n:Nat} (h:n ≤ 4000):n < sizeLine:=Nat.lt_of_le_of_lt h (by decide)
def compCx (X:Cx) (L:List Str) (scope:Scope) (cl:List (Str × Addr)) (C:Addr) (s₂:Shared) (H₂:Hp) (fp:List Addr):Cx where
  prog:=X.prog
  w:=X.w
  K:=X.K
  mg:=X.mg
  base:=X.base
  A:=X.A
  N:=X.N ++ L
  s₀:=s₂
  H₀:=H₂
  env:=compEnvC scope cl C X.env
  outer:=X.stack
  stack:=X.stack
  ex:=fp
  fn:=fun _=>false
  calm:=X.calm
  pn:=[]
  xe:=fun _ _=>False
def compOk (sc:Scope) (N L:List Str) (scope:Scope):Bool :=
  decide (scope.kind = .function) && scope.names.all (fun y=>decide (y.2 ≠ .cell) && (decide (y.2 ≠ .local) || (decide (scope.names.lookup y.1 = some .local) && decide (y.1 ∉ N))) &&
    (decide (y.2 ≠ .free) || decide (sc.names.lookup y.1 = some .cell) || decide (sc.names.lookup y.1 = some .free))) && decide ((N ++ L).Nodup)
theorem compOk_kind {sc:Scope} {N L:List Str} {scope:Scope} (h:compOk sc N L scope = true):scope.kind = .function:=by
  simp only [compOk,Bool.and_eq_true,decide_eq_true_eq] at h
  exact h.1.1
theorem compOk_at {sc:Scope} {N L:List Str} {scope:Scope} (h:compOk sc N L scope = true) {y:Str × NameKind} (hy:y ∈ scope.names) :
    y.2 ≠ .cell ∧ (y.2 = .local → scope.names.lookup y.1 = some .local ∧ y.1 ∉ N) ∧ (y.2 = .free → sc.names.lookup y.1 = some .cell ∨ sc.names.lookup y.1 = some .free):=by
  simp only [compOk,Bool.and_eq_true,decide_eq_true_eq,List.all_eq_true,Bool.or_eq_true] at h
  have q:=h.1.2 y hy
  obtain ⟨⟨q1,q2⟩,q3⟩:=q
  refine ⟨q1,fun e=>?_,fun e=>?_⟩
  · rcases q2 with q2 | q2
    · exact absurd e q2
    · exact q2
  · rcases q3 with (q3 | q3) | q3
    · exact absurd e q3
    · exact .inl q3
    · exact .inr q3
theorem closure_fold {env:Env}:∀ (names:List (Str × NameKind)) (acc:List (Str × Addr)),(∀ y ∈ names,y.2 = .free → ∃ c,env.cells.lookup y.1 = some c) →
    (∀ x c,acc.lookup x = some c → env.cells.lookup x = some c) →
    ∃ cl,(forIn names acc (fun (x:Str × NameKind) (cs:List (Str × Addr))=>match x with
      | (name,kind)=>if (kind == NameKind.free) = true then do let a ← cellOf env name; pure (ForInStep.yield ((name,a) :: cs)) else pure (ForInStep.yield cs)):Sem (List (Str × Addr))) = pure cl ∧
      (∀ x c,cl.lookup x = some c → env.cells.lookup x = some c) ∧ (∀ y ∈ names,y.2 = .free → ∃ c,cl.lookup y.1 = some c) ∧ (∀ x c,acc.lookup x = some c → ∃ c',cl.lookup x = some c')
  | [],acc,_,ha=>⟨acc,rfl,ha,fun _ h=>(nomatch h),fun _ c e=>⟨c,e⟩⟩
  | (n,k) :: r,acc,hf,ha=>by
    by_cases hk:k = .free
    · subst hk
      obtain ⟨c,hc⟩:=hf (n,.free) List.mem_cons_self rfl
      have ha':∀ x c',((n,c) :: acc).lookup x = some c' → env.cells.lookup x = some c':=fun x c' e=>by
        by_cases hx:x = n
        · subst hx
          simp [List.lookup_cons] at e
          rw [← e]; exact hc
        · have:(x == n) = false:=by simpa using hx
          simp [List.lookup_cons,this] at e
          exact ha x c' e
      obtain ⟨cl,e1,e2,e3,e4⟩:=closure_fold r ((n,c) :: acc) (fun y hy=>hf y (List.mem_cons_of_mem _ hy)) ha'
      refine ⟨cl,?_,e2,fun y hy hfr=>?_,fun x c' e=>?_⟩
      · rw [List.forIn_cons]
        show (if (NameKind.free == NameKind.free) = true then (do let a ← cellOf env n; pure (ForInStep.yield ((n,a) :: acc))) else pure (ForInStep.yield acc)) >>= _ = _
        rw [if_pos (by decide)]
        unfold cellOf
        rw [hc]
        simp only [pure_bind]
        exact e1
      · rcases List.mem_cons.mp hy with rfl | hy
        · exact e4 n c (by simp [List.lookup_cons])
        · exact e3 y hy hfr
      · by_cases hx:x = n
        · subst hx
          exact e4 x c (by simp [List.lookup_cons])
        · have:(x == n) = false:=by simpa using hx
          exact e4 x c' (by simp [List.lookup_cons,this]; exact e)
    · obtain ⟨cl,e1,e2,e3,e4⟩:=closure_fold r acc (fun y hy=>hf y (List.mem_cons_of_mem _ hy)) ha
      refine ⟨cl,?_,e2,fun y hy hfr=>?_,e4⟩
      · rw [List.forIn_cons]
        have hb:(k == NameKind.free) = false:=by simpa using hk
        show (if (k == NameKind.free) = true then (do let a ← cellOf env n; pure (ForInStep.yield ((n,a) :: acc))) else pure (ForInStep.yield acc)) >>= _ = _
        rw [hb,if_neg (by simp)]
        simp only [pure_bind]
        exact e1
      · rcases List.mem_cons.mp hy with rfl | hy
        · exact absurd hfr hk
        · exact e3 y hy hfr
theorem closure_of {env:Env} {scope:Scope} (hf:∀ y ∈ scope.names,y.2 = .free → ∃ c,env.cells.lookup y.1 = some c) :
    ∃ cl,closureFor scope env = pure cl ∧ (∀ x c,cl.lookup x = some c → env.cells.lookup x = some c) ∧ (∀ y ∈ scope.names,y.2 = .free → ∃ c,cl.lookup y.1 = some c):=by
  obtain ⟨cl,e1,e2,e3,_⟩:=closure_fold scope.names [] hf (fun x c e=>by simp at e)
  refine ⟨cl,?_,e2,e3⟩
  unfold closureFor
  simp only [bind_pure_comp,map_pure] at *
  first
    | exact e1
    | (rw [e1]; rfl)
    | (simp only [bind_pure]; exact e1)
theorem lookup_mem {names:List (Str × NameKind)} {x:Str} {k:NameKind} (h:names.lookup x = some k):(x,k) ∈ names:=PySem.mem_of_lookup h
theorem of_relabel {env:Env}:∀ {names:List (Str × NameKind)} {x:Str} {k:NameKind},
    (names.map fun (n,k)=>if (k == NameKind.free && env.scope.kind == .function && env.kindOf n == some .cell) then (n,NameKind.cell) else (n,k)).lookup x = some k →
    ∃ k',names.lookup x = some k' ∧ (k = k' ∨ (k' = .free ∧ k = .cell))
  | [],_,_,h=>by simp at h
  | (n,k0) :: r,x,k,h=>by
    cases hx:x == n with
    | true =>
      by_cases hc:(k0 == NameKind.free && env.scope.kind == .function && env.kindOf n == some .cell) = true
      · simp only [List.map_cons,if_pos hc,List.lookup_cons,hx] at h
        have hk:k0 = .free:=by
          simp only [Bool.and_eq_true,beq_iff_eq] at hc
          exact hc.1.1
        exact ⟨k0,by simp [List.lookup_cons,hx],.inr ⟨hk,(Option.some.inj h).symm⟩⟩
      · simp only [List.map_cons,if_neg hc,List.lookup_cons,hx] at h
        exact ⟨k0,by simp [List.lookup_cons,hx],.inl (Option.some.inj h).symm⟩
    | false =>
      have h':(r.map fun (n,k)=>if (k == NameKind.free && env.scope.kind == .function && env.kindOf n == some .cell) then (n,NameKind.cell) else (n,k)).lookup x = some k:=by
        by_cases hc:(k0 == NameKind.free && env.scope.kind == .function && env.kindOf n == some .cell) = true
        · simp only [List.map_cons,if_pos hc,List.lookup_cons,hx] at h; exact h
        · simp only [List.map_cons,if_neg hc,List.lookup_cons,hx] at h; exact h
      obtain ⟨k',e,q⟩:=of_relabel h'
      exact ⟨k',by simp [List.lookup_cons,hx]; exact e,q⟩
def Ifs (X:Cx) (ifs:List Expr) (tt:TT):Prop :=
  ∀ (pins:List (Addr × Obj)) (s:Shared) (σ:St) (H:Hp) (Q:Bool → Hp → Prop),Inv X pins σ H s → tt σ H Q →
    wpC (model X.prog X.w) X.A (forIn ifs true fun c r=>if r = true then do let ok ← isTrue c X.env (eval c X.env); pure (ForInStep.yield ok) else pure (ForInStep.yield r)) (TP X pins σ Q) X.xe s
def tYes:TT:=fun _ H Q=>Q true H
theorem ifs_nil {X:Cx}:Ifs X [] tYes:=fun pins s σ H Q I h=>wpC_tests_nil ⟨H,I,h⟩
def tCompJ (k:Nat) (g:TG) (tt:TT) (te:TE) (σ:St) (Q:VK) (J:It) (H1:Hp):Prop:=∃ W:Nat → Nat → List V → St → Hp → Prop,(∃ m,W 0 m [] (σ ++ List.replicate k none) H1) ∧ ∀ i m ys σ' H,W i m ys σ' H →
  (J.stop i H ∧ ∀ D,H D = none → Q (.ref D) (upd H D (.lst ys))) ∨
  (J.go i H ∧ ys.length < sizeLine ∧ ∃ N:List V → St → Hp → Prop,(∀ ys' σ' H',N ys' σ' H' → ∃ m',m' < m ∧ W (i + 1) m' ys' σ' H') ∧
    ∀ x H',J.yld i H x H' → g x σ' H' fun σ2 H2=>tt σ2 H2 fun b H3=>if b = true then te σ2 H3 fun y H4=>N (ys ++ [y]) σ2 H4 else N ys σ2 H3)
def tComp (k:Nat) (wi:TI) (g:TG) (tt:TT) (te:TE):TE:=fun σ H Q=>wi σ H (tCompJ k g tt te σ Q)
section
variable {prog:Program} {w:World} {A:Around} {R:Result → Shared → Prop} {s:Shared}
theorem codeC_compLoop_own {elt target iter:Expr} {ifs:List Expr} {scope:Scope} {pos:Pos} {it acc:Value} {env:Env} (I:Nat → Shared → Prop)
    (turn:∀ n s,I n s → wpC (model prog w) A (pyNext it) (fun r s₁=>match r with
      | none=>R (.ok .next) s₁
      | some v=>wpC (model prog w) A (letOwnedTupleGo target it v) (fun _ s₁'=>wpC (model prog w) A (assign target env v) (fun _ s₂ =>
          wpC (model prog w) A (forIn ifs true fun c r=>if r = true then do let ok ← isTrue c env (eval c env); pure (ForInStep.yield ok) else pure (ForInStep.yield r)) (fun ok s₃ =>
            if ok = true then wpC (model prog w) A (eval elt env) (fun x s₄ =>
              wpC (model prog w) A (call (.builtin "list.append") [acc,x]) (fun _ s₅=>∃ m,m < n ∧ I m s₅) (fun _ _=>False) s₄) (notedBy (model prog w) A env fun e s'=>R (.error e) s') s₃
            else ∃ m,m < n ∧ I m s₃) (fun _ _=>False) s₂) (fun _ _=>False) s₁') (fun _ _=>False) s₁) (fun _ _=>False) s)
    (n:Nat) (h:I n s) :
    codeC (model prog w) A (.compLoop (.ListComp elt [⟨target,iter,ifs,0⟩] scope pos) 0 it acc env) R s:=by
  refine codeC_loop rfl I (fun n s hI=>?_) n h
  show wpC _ A ((compTurn (.ListComp elt [⟨target,iter,ifs,0⟩] scope pos) 0 it acc env).onRaise (fun x=>do noteFrame x env; theTreesLotGoes x)) _ _ s
  refine wpC_noted ?_
  rw [compTurn_list]
  refine wpC_bind (wpC_standAt (wpC_bind (wpC_mono (turn n s hI) (fun r s₁ h₁=>?_) fun _ _ h'=>h'.elim)))
  cases r with
  | none=>exact wpC_pure h₁
  | some v =>
    refine wpC_bind (wpC_mono h₁ (fun _ s₁' h₁'=>?_) fun _ _ h'=>h'.elim)
    refine wpC_bind (wpC_mono h₁' (fun _ s₂ h₂=>wpC_bind (wpC_mono h₂ (fun ok s₃ h₃=>?_) fun _ _ h'=>h'.elim)) fun _ _ h'=>h'.elim)
    cases ok with
    | false=>exact wpC_pure ⟨rfl,h₃⟩
    | true =>
      exact wpC_bind (wpC_bind (wpC_mono h₃ (fun x s₄ h₄=>wpC_bind (wpC_mono h₄ (fun _ s₅ h₅=>wpC_pure (wpC_pure ⟨rfl,h₅⟩)) fun _ _ h'=>h'.elim)) fun _ _ h'=>h'))
end
section
variable {X:Cx}
theorem comp_ok {pins:List (Addr × Obj)} {σ:St} {H:Hp} {s₂:Shared} {L:List Str} {scope:Scope} {cl:List (Str × Addr)} {C:Addr} {fp:List Addr} {sc:Scope} {N:List Str}
    (I:Inv X pins σ H s₂) (hsc:X.env.scope = sc) (hN:X.N = N) (ok:compOk sc N L scope = true) (hc1:∀ x c,cl.lookup x = some c → X.env.cells.lookup x = some c)
    (hc2:∀ y ∈ scope.names,y.2 = .free → ∃ c,cl.lookup y.1 = some c) (hf:∀ b ∈ fp,FpOk X pins H b) (hlt:∀ b ∈ fp,b < s₂.heap.objs.size) (hC:s₂.heap.objs.size ≤ C) :
    (compCx X L scope cl C s₂ H fp).Ok where
  mod:=I.ok.mod
  kind:=(show scope.kind = .function from compOk_kind ok)
  glob:=I.ok.glob
  blt:=I.ok.blt
  above:=hC
  inj:=fun x y c h1 h2=>I.ok.inj x y c (hc1 x c h1) (hc1 y c h2)
  has:=fun x hx=>by
    have hx':∃ k,(relabel scope X.env).names.lookup x = some k ∧ (k = .cell ∨ k = .free):=by
      rcases hx with h | h
      · exact ⟨_,h,.inl rfl⟩
      · exact ⟨_,h,.inr rfl⟩
    obtain ⟨k,e,hk⟩:=hx'
    obtain ⟨k',e',q⟩:=of_relabel e
    have hm:=lookup_mem e'
    have nc:=(compOk_at ok hm).1
    have hfree:k' = .free:=by
      rcases q with q | q
      · rcases hk with hk | hk
        · exact absurd (q.symm.trans hk) nc
        · exact q.symm.trans hk
      · exact q.1
    exact hc2 (x,k') hm hfree
  cab:=fun x c h _=>by cases h
  hd:=I.ok.hd
  frames:=I.ok.frames
  stk:=.inl rfl
  exf:=fun b hb=>⟨Nat.ne_of_lt (Nat.lt_of_lt_of_le (hlt b hb) hC),fun x c e=>(hf b hb).2.2.2.2.1 x c (hc1 x c e)⟩
  bs:=I.bs
  bsz:=Nat.le_trans I.ok.bsz I.sz
  noex:=fun b o e hb=>by
    rcases (hf b hb).2.2.2.1 with z | z
    · exact I.ok.noex b o e z
    · exact absurd (Nat.lt_of_lt_of_le (Heap.lt_size (I.ok.bs b o e).1) z) (Nat.lt_irrefl _)
  exfs:=fun b hb z=>by
    rcases List.mem_cons.mp (I.stkSub b z) with q | q
    · exact (hf b hb).2.1 q
    · exact (hf b hb).2.2.1 q
  funs:=I.stack
  frf:=I.stkFree
theorem comp_start {pins:List (Addr × Obj)} {σ:St} {H:Hp} {s₂ s₄:Shared} {L:List Str} {scope:Scope} {cl:List (Str × Addr)} {C:Addr} {fp:List Addr} {sc:Scope} {N:List Str} {m:Str → Option Value}
    (I:Inv X pins σ H s₂) (hsc:X.env.scope = sc) (hN:X.N = N) (ok:compOk sc N L scope = true) (hc1:∀ x c,cl.lookup x = some c → X.env.cells.lookup x = some c)
    (Y:(compCx X L scope cl C s₂ H fp).Ok) (hC:s₂.heap.objs.size ≤ C) (hos:s₄.os = s₂.os) (hg:AllBare s₄.gens)
    (old:∀ b o,s₂.heap.get? b = some o → s₄.heap.get? b = some o) (hns:s₄.heap.Ns C m):Inv (compCx X L scope cl C s₂ H fp) [] (σ ++ List.replicate L.length none) H s₄ where
  ok:=Y
  os:=hos
  bare:=hg
  base:=Un.kept old
  loc:=by
    refine ⟨m,hns,fun i x v e1 e2 e3=>?_⟩
    have hl:σ.length = X.N.length:=I.len
    have hi:i < σ.length:=by
      by_cases h:i < σ.length
      · exact h
      · rw [List.getElem?_append_right (by lia),List.getElem?_replicate] at e2
        split at e2 <;> cases e2
    rw [List.getElem?_append_left hi] at e2
    have e1':X.N[i]? = some x:=by
      have:(X.N ++ L)[i]? = some x:=e1
      rwa [List.getElem?_append_left (by lia)] at this
    have e3':∃ k,(relabel scope X.env).names.lookup x = some k ∧ (k = .local ∨ k = .cell ∨ k = .free):=by
      rcases e3 with h | h | h
      · exact ⟨_,h,.inl rfl⟩
      · exact ⟨_,h,.inr (.inl rfl)⟩
      · exact ⟨_,h,.inr (.inr rfl)⟩
    obtain ⟨k,ek,hk⟩:=e3'
    obtain ⟨k',e',q⟩:=of_relabel ek
    have hm:=lookup_mem e'
    obtain ⟨nc,nl,fr⟩:=compOk_at ok hm
    have hk':k' = .free:=by
      rcases q with q | q
      · rcases hk with hk | hk | hk
        · have hl':k' = .local:=q.symm.trans hk
          exact absurd (hN ▸ List.mem_of_getElem? e1') (nl hl').2
        · exact absurd (q.symm.trans hk) nc
        · exact q.symm.trans hk
      · exact q.1
    have hX:X.env.kindOf x = some .cell ∨ X.env.kindOf x = some .free:=by
      have:=fr hk'
      rw [← hsc] at this
      exact this
    obtain ⟨m₀,hn₀,hl₀⟩:=I.loc
    obtain ⟨u,r,look⟩:=hl₀ i x v e1' e2 (.inr hX)
    refine ⟨u,r,.inr ⟨?_,?_⟩⟩
    · show (relabel scope X.env).names.lookup x = some .cell ∨ (relabel scope X.env).names.lookup x = some .free
      rcases hk with hk | hk | hk
      · exfalso
        rcases q with q | q
        · rw [hk] at q; rw [hk'] at q; cases q
        · rw [hk] at q; exact nomatch q.2
      · exact .inl (hk ▸ ek)
      · exact .inr (hk ▸ ek)
    · rcases look with ⟨z,_⟩ | ⟨_,c,ec,hcell⟩
      · exfalso
        rcases hX with h | h <;> rw [h] at z <;> cases z
      · obtain ⟨c',ec'⟩:=Y.has x (by
          rcases hk with hk | hk | hk
          · exfalso
            rcases q with q | q
            · rw [hk] at q; rw [hk'] at q; cases q
            · rw [hk] at q; exact nomatch q.2
          · exact .inl (hk ▸ ek)
          · exact .inr (hk ▸ ek))
        have hcl:cl.lookup x = some c':=ec'
        have:c' = c:=Option.some.inj ((hc1 x c' hcl).symm.trans ec)
        subst this
        refine ⟨c',hcl,?_⟩
        obtain ⟨o,ho,hd⟩:=hcell
        exact ⟨o,old _ _ ho,hd⟩
  cell:=fun x c e=>by
    obtain ⟨v,o,ho,hd⟩:=I.cell x c (hc1 x c e)
    exact ⟨v,o,old _ _ ho,hd⟩
  free:=I.hok.fresh hC
  freeC:=fun x c e=>I.freeC x c (hc1 x c e)
  pin:=fun p hp=>absurd (show p ∈ ([]:List (Addr × Obj)) from hp) (by simp)
  hok:=I.hok.kept old
  len:=by
    show _ = (X.N ++ L).length
    have hl:σ.length = X.N.length:=I.len
    simp [hl]
theorem comp_back {pins:List (Addr × Obj)} {σ σ':St} {H H':Hp} {s₂ s':Shared} {L:List Str} {scope:Scope} {cl:List (Str × Addr)} {fp:List Addr} {its:List Value} {ys:List V} {D C:Addr} {n:Nat} {pl:List (Addr × Obj)}
    (I:Inv X pins σ H s₂) (hf:∀ b ∈ fp,FpOk X pins H b) (hD:s₂.heap.objs.size = D)
    (J:Inv (compCx X L scope cl C s₂ H fp) pl σ' H' s') (hpD:s'.heap.get? D = some { cls:=.type "list",data:=.seq its.toArray n }) (hHD:H' D = none) (hv:Vals ys its) (hz:ys.length ≤ sizeLine) :
    Inv X pins σ (upd H' D (.lst ys)) s':=by
  have B:Un (frs X.stack) fp H H' s₂.heap s'.heap:=J.base
  have neD:∀ b o,s₂.heap.get? b = some o → b ≠ D:=fun b o e=>by rw [← hD]; exact Nat.ne_of_lt (Heap.lt_size e)
  refine I.call' (ch:=fp) J.os ⟨B.keep,B.slot,fun b o e hn hx=>?_,B.there,fun b xs e=>?_,fun b o u e=>?_,fun b ps e=>?_⟩ (fun b o e=>?_) J.bare (fun b hb=>⟨(hf b hb).2.2.2.1,(hf b hb).2.1,(hf b hb).2.2.2.2.1,(hf b hb).2.2.2.2.2⟩)
  · rw [upd_ne (neD b o e)]; exact B.free b o e hn hx
  · have:=B.tups b xs e
    rw [upd_ne (ne_of_none this hHD)]; exact this
  · have:=B.frzs b o u e
    rw [upd_ne (ne_of_none this hHD)]; exact this
  · obtain ⟨more,this⟩:=B.tbls b ps e
    exact ⟨more,by rw [upd_ne (ne_of_none this hHD)]; exact this⟩
  · by_cases hb:b = D
    · subst hb
      rw [upd_same] at e
      cases e
      exact ⟨hz,its,n,hv,hpD⟩
    · rw [upd_ne hb] at e
      exact (J.hok b o e).stay (fun _ _ _ q=>q) (fun c q=>by rw [upd_ne (ne_of_none q hHD)]; exact q) fun c xs q=>by rw [upd_ne (ne_of_none q hHD)]; exact q
theorem comp_blockF {pins:List (Addr × Obj)} {σ:St} {H:Hp} {s₂:Shared} {L:List Str} {scope:Scope} {cl:List (Str × Addr)} {fp:List Addr} {sc:Scope} {N:List Str} {tg elt iter:Expr} {ifs:List Expr} {pos:Pos}
    {g:TG} {tt:TT} {te:TE} {Q:VK} {J:It} {it:Addr} {tn:Nat → Heap → Prop} {RR:Value → Addr → Result → Shared → Prop} {E:Value → Shared → Prop}
    (hc:X.calm = true) (hsc:X.env.scope = sc) (hN:X.N = N) (ok:compOk sc N L scope = true) (hc1:∀ x c,cl.lookup x = some c → X.env.cells.lookup x = some c)
    (hc2:∀ y ∈ scope.names,y.2 = .free → ∃ c,cl.lookup y.1 = some c)
    (hg:∀ cl C s₂ H₂ fp,PG (compCx X L scope cl C s₂ H₂ fp) tg g) (hi:∀ cl C s₂ H₂ fp,Ifs (compCx X L scope cl C s₂ H₂ fp) ifs tt) (he:∀ C,C = s₂.heap.objs.size + 1 → PE ((compCx X L scope cl C s₂ H fp).wish (notedBy (model X.prog X.w) X.A (compEnvC scope cl C X.env) fun e s'=>RR (.ref s₂.heap.objs.size) C (.error e) s')) elt te)
    (I:Inv X pins σ H s₂) (T:Turn X.prog X.w X.K tg J fp it tn) (st:tn 0 s₂.heap) (hf:∀ b ∈ fp,FpOk X pins H b) (hw:tCompJ L.length g tt te σ Q J H)
    (hR:∀ D C m H' s' ys,s'.heap.Ns C m → s₂.heap.objs.size = D → s₂.heap.objs.size < C → H' C = none → D ≠ C → Inv X pins σ (upd H' D (.lst ys)) s' → Q (.ref D) (upd H' D (.lst ys)) → RR (.ref D) C (.ok .next) s') :
    wpC (model X.prog X.w) X.A (newList []) (fun acc s₃=>wpC (model X.prog X.w) X.A (newFunctionEnv scope X.env.globals cl [] X.env.qual none .none (some X.env)) (fun cenv s₄ =>
      cenv.frame = X.env.frame ∧ codeC (model X.prog X.w) X.A (.compStart (.ListComp elt [⟨tg,iter,ifs,0⟩] scope pos) 0 (.ref it) acc { cenv with scope:=relabel scope X.env }) (RR acc cenv.locals) s₄) E s₃) E s₂:=by
  refine wpC_newObj_type (wpC_newFunctionEnv (fun y hy=>(compOk_at ok hy).1) (by intro y hy; simp at hy) (fun h₁ hns₁ hsb₁=>?_) (compOk_kind ok))
  dsimp only at hns₁ hsb₁ ⊢
  generalize hH2:s₂.heap.push { cls:=.type "list",dict:=none,data:=.seq ([]:List Value).toArray } = H2 at hns₁ hsb₁ ⊢
  have hC:H2.objs.size = s₂.heap.objs.size + 1:=by rw [← hH2,Heap.size_push]
  have hCle:s₂.heap.objs.size ≤ H2.objs.size:=by rw [hC]; exact Nat.le_succ _
  have hDC:s₂.heap.objs.size ≠ H2.objs.size:=by rw [hC]; exact Nat.ne_of_lt (Nat.lt_succ_self _)
  have hlt:∀ b ∈ fp,b < s₂.heap.objs.size:=fun b hb=>by
    obtain ⟨o,e,_⟩:=T.obj 0 _ st b hb
    exact Heap.lt_size e
  have below:∀ b,b < s₂.heap.objs.size → b ≠ H2.objs.size:=fun b hb=>by rw [hC]; exact Nat.ne_of_lt (Nat.lt_succ_of_lt hb)
  have old:∀ b o,s₂.heap.get? b = some o → h₁.get? b = some o:=fun b o e=>hsb₁.extBut b o (below b (Heap.lt_size e)) (Heap.get?_push_of_some _ (hH2 ▸ Heap.get?_push_of_some _ e))
  have hacc:h₁.get? s₂.heap.objs.size = some { cls:=.type "list",data:=.seq ([]:List Value).toArray 0 }:=hsb₁.extBut _ _ hDC (Heap.get?_push_of_some _ (hH2 ▸ Heap.get?_push_size _ rfl))
  have Yok:=comp_ok (L:=L) (scope:=scope) (cl:=cl) (C:=H2.objs.size) (fp:=fp) I hsc hN ok hc1 hc2 hf hlt hCle
  generalize hDn:s₂.heap.objs.size = D at *
  generalize hCn:H2.objs.size = C at *
  have st₁:tn 0 h₁:=T.keep _ _ _ st fun b _ o e=>old b o e
  -- the block's own iterators
  have cellD:∀ x c,cl.lookup x = some c → c ≠ D:=fun x c e=>by
    obtain ⟨v,q⟩:=I.cell x c (hc1 x c e)
    rw [← hDn]
    exact Nat.ne_of_lt q.lt
  have fpY:∀ {H':Hp} {its:List Value} {n:Nat},(∀ b ∈ fp,H' b = none) → ∀ b ∈ fp,FpOk (compCx X L scope cl C s₂ H fp) [(D,{ cls:=.type "list",data:=.seq its.toArray n })] H' b:=fun {H' its n} hn b hb=>by
    refine ⟨hn b hb,(Yok.exf b hb).1,Yok.exfs b hb,.inl hb,(Yok.exf b hb).2,fun p hp=>?_⟩
    have e:p = (D,{ cls:=.type "list",data:=.seq its.toArray n }):=by
      have:p ∈ [(D,({ cls:=.type "list",data:=.seq its.toArray n }:Obj))]:=hp
      simpa using this
    subst e
    exact Ne.symm (Nat.ne_of_lt (hlt b hb))
  have nfsD:D ∉ (compCx X L scope cl C s₂ H fp).fs:=fun z=>by
    obtain ⟨_,o,ho,_⟩:=Yok.funs.mem z
    exact absurd (show D < s₂.heap.objs.size from Heap.lt_size ho) (by rw [hDn]; exact Nat.lt_irrefl _)
  have pinD:∀ {σ':St} {H':Hp} {s':Shared} {pl:List (Addr × Obj)} {its:List Value} {n:Nat},Inv (compCx X L scope cl C s₂ H fp) pl σ' H' s' → s'.heap.get? D = some { cls:=.type "list",data:=.seq its.toArray n } → H' D = none →
      Inv (compCx X L scope cl C s₂ H fp) [(D,{ cls:=.type "list",data:=.seq its.toArray n })] σ' H' s':=fun {σ' H' s' pl its n} J e hn=>J.pins_of fun p hp=>by
    have e':p = (D,{ cls:=.type "list",data:=.seq its.toArray n }):=by simpa using hp
    subst e'
    exact ⟨e,hn,hDC,nfsD,fun v z=>by cases z⟩
  have I₁:Inv (compCx X L scope cl C s₂ H fp) [] (σ ++ List.replicate L.length none) H { s₂ with heap:=h₁,toks:=s₂.toks + ([]:List (Str × Value)).length } :=
    comp_start I hsc hN ok hc1 Yok (by rw [hDn]; exact hCle) rfl I.bare old hns₁
  have HD:H D = none:=I.hok.fresh (by rw [hDn]; exact Nat.le_refl _)
  obtain ⟨W,⟨m0,w0⟩,turn⟩:=hw
  have loop:codeC (model X.prog X.w) X.A (.compLoop (.ListComp elt [⟨tg,iter,ifs,0⟩] scope pos) 0 (.ref it) (.ref D) (compEnvC scope cl C X.env)) (RR (.ref D) C)
      { s₂ with heap:=h₁,toks:=s₂.toks + ([]:List (Str × Value)).length }:=by
    refine codeC_compLoop_own (fun n s'=>∃ i ys its k σ' H',Inv (compCx X L scope cl C s₂ H fp) [(D,{ cls:=.type "list",data:=.seq its.toArray k })] σ' H' s' ∧ Vals ys its ∧ ys.length ≤ sizeLine ∧ tn i s'.heap ∧ (∀ b ∈ fp,H' b = none) ∧ W i n ys σ' H')
      ?_ m0 ⟨0,[],[],0,_,H,pinD I₁ hacc HD,.nil,Nat.zero_le _,st₁,fun b hb=>(hf b hb).1,w0⟩
    rintro n s3 ⟨i,ys,its,k,σ3,H3,I3,hv3,hz3,st3,fr3,w3⟩
    have hp3:=I3.pin (D,{ cls:=.type "list",data:=.seq its.toArray k }) (by simp)
    rcases turn i n ys σ3 H3 w3 with ⟨stop,q⟩ | ⟨go,hlen,Nx,hNx,step⟩
    · refine thn (T.done (compCx X L scope cl C s₂ H fp) rfl rfl rfl hc i _ s3 σ3 H3 _ I3 (fpY fr3) st3 stop) fun r s4 ⟨hr,I4⟩=>?_
      subst hr
      have hp4:=I4.pin (D,{ cls:=.type "list",data:=.seq its.toArray k }) (by simp)
      obtain ⟨m4,hn4,_⟩:=I4.loc
      exact hR D C m4 H3 s4 ys hn4 rfl (by rw [hC]; exact Nat.lt_succ_self _) I4.free hDC (comp_back I hf hDn I4 hp4.1 hp4.2.1 hv3 hz3) (q D hp4.2.1)
    · refine thn (T.item (compCx X L scope cl C s₂ H fp) rfl rfl rfl hc i _ s3 σ3 H3 _ I3 (fpY fr3) st3 go) fun r s4 ⟨u,hr,h4⟩=>?_
      subst hr
      refine thn h4 fun _ s5 hq9=>?_
      obtain ⟨x,H5,I5,r5,y5,st5,fr5⟩:=hq9
      have I5':=I5.pinned (fpY fr5) (T.obj _ _ st5)
      refine thn (hg cl C s₂ H fp _ s5 σ3 H5 x u _ I5' r5 (step x H5 y5)) fun _ s6 hq9=>?_
      obtain ⟨σ6,H6,I6,q6⟩:=hq9
      refine thn (hi cl C s₂ H fp _ s6 σ6 H6 _ I6 q6) fun ok s7 hq9=>?_
      obtain ⟨H7,I7,q7⟩:=hq9
      have later:∀ {σ':St} {H':Hp} {s':Shared},Inv (compCx X L scope cl C s₂ H fp) ([(D,{ cls:=.type "list",data:=.seq its.toArray k })] ++ pinsAt fp s5.heap) σ' H' s' →
          tn (i + 1) s'.heap ∧ (∀ b ∈ fp,H' b = none) ∧ s'.heap.get? D = some { cls:=.type "list",data:=.seq its.toArray k } ∧ H' D = none:=fun {σ' H' s'} J=>by
        refine ⟨T.keep _ _ _ st5 fun b hb o e=>(J.pin (b,o) (List.mem_append_right _ (List.mem_append_right _ (mem_pinsAt hb e)))).1,fun b hb=>?_,?_⟩
        · obtain ⟨o,e,d⟩:=T.obj _ _ st5 b hb
          exact (J.pin (b,o) (List.mem_append_right _ (List.mem_append_right _ (mem_pinsAt hb e)))).2.1
        · have z:=J.pin (D,{ cls:=.type "list",data:=.seq its.toArray k }) (List.mem_append_right _ (List.mem_append_left _ (by simp)))
          exact ⟨z.1,z.2.1⟩
      cases ok with
      | false =>
        rw [if_neg (by simp)] at q7 ⊢
        obtain ⟨m',hm',w'⟩:=hNx _ _ _ q7
        obtain ⟨t1,t2,t3,t4⟩:=later I7
        exact ⟨m',hm',i + 1,ys,its,k,σ6,H7,pinD I7 t3 t4,hv3,hz3,t1,t2,w'⟩
      | true =>
        rw [if_pos rfl] at q7 ⊢
        refine thn (he C hC _ s7 σ6 H7 _ (I7.wish _) q7) fun y s8 hq9=>?_
        obtain ⟨v,H8,I8w,r8,q8⟩:=hq9
        have I8:=I8w.unwish
        obtain ⟨m',hm',w'⟩:=hNx _ _ _ q8
        obtain ⟨t1,t2,t3,t4⟩:=later I8
        refine append_at (hsz:=by rw [List.size_toArray,← hv3.length]; exact hz3) t3 fun h9 hs9 hD9=>?_
        have nbD:∀ b ∈ fp,b ≠ D:=fun b hb=>Nat.ne_of_lt (hlt b hb)
        have I9:Inv (compCx X L scope cl C s₂ H fp) [] σ6 H8 { s8 with heap:=h9 }:=(I8.pins_of (pins':=[]) (fun p hp=>by simp at hp)).turned (it:=D) (t':=s8.toks) (fun b o hb e=>hs9.extBut b o hb e) t4 hDC
          (.inr (by show s₂.heap.objs.size ≤ D; rw [hDn]; exact Nat.le_refl _)) cellD (fun p hp=>by
            have:p ∈ ([]:List (Addr × Obj)):=hp
            simp at this)
        refine ⟨m',hm',i + 1,ys ++ [v],its ++ [y],k + 1,σ6,H8,pinD I9 (by rw [hD9]; simp) t4,hv3.append (.cons r8 .nil),by simp; lia,T.keep _ _ _ t1 fun b hb o e=>hs9.extBut b o (nbD b hb) e,t2,w'⟩
  exact ⟨rfl,codeC_compStart_list loop (T.self _ 0 _ _ _ st₁ loop)⟩
theorem comp_block {pins:List (Addr × Obj)} {σ:St} {H:Hp} {s₂:Shared} {L:List Str} {scope:Scope} {cl:List (Str × Addr)} {fp:List Addr} {sc:Scope} {N:List Str} {tg elt iter:Expr} {ifs:List Expr} {pos:Pos}
    {g:TG} {tt:TT} {te:TE} {Q:VK} {J:It} {it:Addr} {tn:Nat → Heap → Prop} {RR:Value → Addr → Result → Shared → Prop} {E:Value → Shared → Prop}
    (hc:X.calm = true) (hsc:X.env.scope = sc) (hN:X.N = N) (ok:compOk sc N L scope = true) (hc1:∀ x c,cl.lookup x = some c → X.env.cells.lookup x = some c)
    (hc2:∀ y ∈ scope.names,y.2 = .free → ∃ c,cl.lookup y.1 = some c)
    (hg:∀ cl C s₂ H₂ fp,PG (compCx X L scope cl C s₂ H₂ fp) tg g) (hi:∀ cl C s₂ H₂ fp,Ifs (compCx X L scope cl C s₂ H₂ fp) ifs tt) (he:∀ C,C = s₂.heap.objs.size + 1 → PE ((compCx X L scope cl C s₂ H fp).wish (notedBy (model X.prog X.w) X.A (compEnvC scope cl C X.env) fun e s'=>RR (.ref s₂.heap.objs.size) C (.error e) s')) elt te)
    (I:Inv X pins σ H s₂) (T:Turn X.prog X.w X.K tg J fp it tn) (st:tn 0 s₂.heap) (hf:∀ b ∈ fp,FpOk X pins H b) (hw:tCompJ L.length g tt te σ Q J H)
    (hR:∀ D C m H' s' ys,s'.heap.Ns C m → s₂.heap.objs.size = D → s₂.heap.objs.size < C → H' C = none → D ≠ C → Inv X pins σ (upd H' D (.lst ys)) s' → Q (.ref D) (upd H' D (.lst ys)) → RR (.ref D) C (.ok .next) s') :
    wpC (model X.prog X.w) X.A (newList []) (fun acc s₃=>wpC (model X.prog X.w) X.A (newFunctionEnv scope X.env.globals cl [] X.env.qual none .none (some X.env)) (fun cenv s₄ =>
      codeC (model X.prog X.w) X.A (.compStart (.ListComp elt [⟨tg,iter,ifs,0⟩] scope pos) 0 (.ref it) acc { cenv with scope:=relabel scope X.env }) (RR acc cenv.locals) s₄) E s₃) E s₂ :=
  wpC_mono (comp_blockF hc hsc hN ok hc1 hc2 hg hi he I T st hf hw hR) (fun _ _ h=>wpC_mono h (fun _ _ z=>z.2) fun _ _ e=>e) fun _ _ e=>e
end
end L2
namespace L2
open PySem PySem.Spec PyProof.Rows
section
variable {X:Cx}
theorem pe_comp {L:List Str} {scope sc:Scope} {N:List Str} {tg elt iter:Expr} {ifs:List Expr} {pos:Pos} {wi:TI} {g:TG} {tt:TT} {te:TE}
    (hc:X.calm = true) (hsc:X.env.scope = sc) (hN:X.N = N) (ok:compOk sc N L scope = true)
    (hi:PI X tg iter wi) (hg:∀ cl C s₂ H₂ fp,PG (compCx X L scope cl C s₂ H₂ fp) tg g) (hf:∀ cl C s₂ H₂ fp,Ifs (compCx X L scope cl C s₂ H₂ fp) ifs tt) (he:∀ cl C s₂ H₂ fp,PE (compCx X L scope cl C s₂ H₂ fp) elt te)
    (hs:∀ x,foldedSetIterable iter X.env x = pure x:=by intro _; rfl) :
    PE X (.ListComp elt [⟨tg,iter,ifs,0⟩] scope pos) (tComp L.length wi g tt te):=by
  intro pins s σ H Q I h
  obtain ⟨cl,hcl,hc1,hc2⟩:=closure_of (env:=X.env) (scope:=scope) fun y hy hfr=>by
    refine I.ok.has y.1 ?_
    have z:=(compOk_at ok hy).2.2 hfr
    rw [← hsc] at z
    exact z
  rw [eval_ListComp]
  refine wpC_comprehension_free (use:=none) rfl hs hcl (compOk_kind ok) (fun y hy hl=>((compOk_at ok hy).2.1 hl).1) (thn (hi pins s σ H _ I h) fun v s1 h1=>thn h1 fun itv s2 h2=>?_)
  obtain ⟨it,fp,tn,J,H2,e,I2,T,st2,f2,hw⟩:=h2
  subst e
  refine comp_block (RR:=fun acc C=>compPost (model X.prog X.w) X.A X.xe none (EP X pins σ Q) acc C) hc hsc hN ok hc1 hc2 hg hf (fun C _=>PE.nox (he cl C _ _ _)) I2 T st2 f2 hw ?_
  intro D C m H' s' ys hns hD hC hHC hDC J' q
  refine ⟨m,hns,fun h'' hs''=>⟨.ref D,upd H' D (.lst ys),?_,rfl,q⟩⟩
  have hsz:=I2.sz
  refine J'.turned (it:=C) (t':=s'.toks) (fun b o hb e=>hs''.extBut b o hb e) (by rw [upd_ne (Ne.symm hDC)]; exact hHC) (Ne.symm (Nat.ne_of_lt (Nat.lt_trans I2.lt hC))) (.inr (Nat.le_trans hsz (Nat.le_of_lt hC))) (fun x c e=>?_) (fun p hp=>?_)
  · obtain ⟨v,z⟩:=I2.cell x c e
    exact Nat.ne_of_lt (Nat.lt_trans z.lt hC)
  · exact Nat.ne_of_lt (Nat.lt_trans (Heap.lt_size (I2.pin p hp).1) hC)
theorem ps_setc {i:Nat} {x:Str} {pos' spos:Pos} {L:List Str} {scope sc:Scope} {N:List Str} {tg elt iter:Expr} {ifs:List Expr} {pos:Pos} {wi:TI} {g:TG} {tt:TT} {te:TE}
    (hNd:X.N.Nodup) (hxi:X.N[i]? = some x) (hx:Loc X.env.scope x)
    (hc:X.calm = true) (hsc:X.env.scope = sc) (hN:X.N = N) (ok:compOk sc N L scope = true)
    (hi:PI X tg iter wi) (hg:∀ cl C s₂ H₂ fp,PG (compCx X L scope cl C s₂ H₂ fp) tg g) (hf:∀ cl C s₂ H₂ fp,Ifs (compCx X L scope cl C s₂ H₂ fp) ifs tt) (he:∀ cl C s₂ H₂ fp,PE (compCx X L scope cl C s₂ H₂ fp) elt te)
    (hsw:swapsWith (.ListComp elt [⟨tg,iter,ifs,0⟩] scope pos) (some (.Name x pos')) spos.line X.env = pure true:=by rfl)
    (hs:∀ x,foldedSetIterable iter X.env x = pure x:=by intro _; rfl)
    (hfn:X.fn x = true ∨ X.env.scope.names.lookup x = some .local:=by first | exact .inl rfl | exact .inr rfl | assumption) :
    PS X (.Assign [.Name x pos'] (.ListComp elt [⟨tg,iter,ifs,0⟩] scope pos) spos) (tAsg (tComp L.length wi g tt te) (gName i)):=by
  intro pins s σ H D I h
  obtain ⟨cl,hcl,hc1,hc2⟩:=closure_of (env:=X.env) (scope:=scope) fun y hy hfr=>by
    refine I.ok.has y.1 ?_
    have z:=(compOk_at ok hy).2.2 hfr
    rw [← hsc] at z
    exact z
  rw [exec_Assign_Name_used _ _ _ _ hsw]
  refine wpC_bind (wpC_standAt (wpC_bind ?_))
  show wpC _ X.A (do let _ ← comprehension (.ListComp elt [⟨tg,iter,ifs,0⟩] scope pos) scope X.env _ (newList []) false (eval iter X.env) (some (assign (.Name x pos') X.env))) _ _ s
  refine wpC_bind (wpC_mono (wpC_comprehension_free (use:=some (assign (.Name x pos') X.env)) (Q:=fun _ s'=>SP X pins D .next s') rfl hs hcl (compOk_kind ok) (fun y hy hl=>((compOk_at ok hy).2.1 hl).1)
    (thn (hi pins s σ H _ I h) fun v s1 h1=>thn h1 fun itv s2 h2=>?_)) (fun _ s' hq=>wpC_pure (wpC_pure hq)) fun _ _ e=>e)
  obtain ⟨it,fp,tn,J,H2,e,I2,T,st2,f2,hw⟩:=h2
  subst e
  refine comp_block (RR:=fun acc C=>compPost (model X.prog X.w) X.A X.xe (some (assign (.Name x pos') X.env)) (fun _ s'=>SP X pins D .next s') acc C) hc hsc hN ok hc1 hc2 hg hf (fun C _=>PE.nox (he cl C _ _ _)) I2 T st2 f2 hw ?_
  intro D' C m H' s' ys hns hD hC hHC hDC J' q
  have hsz:=I2.sz
  have neL:C ≠ X.env.locals:=Ne.symm (Nat.ne_of_lt (Nat.lt_trans I2.lt hC))
  have neC:∀ x c,X.env.cells.lookup x = some c → c ≠ C:=fun x c e=>by
    obtain ⟨v,z⟩:=I2.cell x c e
    exact Nat.ne_of_lt (Nat.lt_trans z.lt hC)
  show wpC _ X.A (assign (.Name x pos') X.env (.ref D')) _ _ s'
  refine wpC_assign_Name (store_ok2 J' hNd hxi hx (v:=.ref D') rfl (fun s'' J'' ⟨a,hsb,ha⟩=>?_) hfn)
  have haC:C ≠ a:=by
    rcases ha with ha | ha
    · rw [ha]; exact neL
    · exact Ne.symm (neC x a ha)
  refine ⟨m,hns.sameBut hsb haC,fun h'' hs''=>⟨_,upd H' D' (.lst ys),?_,q⟩⟩
  refine J''.turned (it:=C) (t':=s''.toks) (fun b o hb e=>hs''.extBut b o hb e) (by rw [upd_ne (Ne.symm hDC)]; exact hHC) neL (.inr (Nat.le_trans hsz (Nat.le_of_lt hC))) neC (fun p hp=>?_)
  exact Nat.ne_of_lt (Nat.lt_trans (Heap.lt_size (I2.pin p hp).1) hC)
end
end L2
namespace L2
open PySem PySem.Spec PyProof.Rows
section
variable {X:Cx}
def Big (i:Int):Prop:=i.natAbs < 2 ^ 1000
theorem Big.of {i:Int} (b:Int) (hb:b < 2 ^ 1000) (h1:-b ≤ i) (h2:i ≤ b):Big i:=by
  unfold Big
  have:(i.natAbs:Int) ≤ b:=by lia
  have h3:(i.natAbs:Int) < 2 ^ 1000:=Int.lt_of_le_of_lt this hb
  exact_mod_cast h3
theorem Big.bits {i:Int} (h:Big i):Builtin.Int.intBits i ≤ 2 ^ 20:=by
  unfold Builtin.Int.intBits
  by_cases h0:i.natAbs = 0
  · have:i = 0:=by lia
    subst this
    decide
  · have:=(Nat.log2_lt h0).mpr h
    split <;> lia
def CMulB (i j:Int):Prop:=Big i ∧ Big j
theorem op_mulB:OpR X (binaryOp .Mult) (rI CMulB fun i j=>.int (i * j)):=opI fun _ _ _ _ _ _ _ hc q=>mul_int q (IntMulOk.of_bits hc.1.bits hc.2.bits)
def CDivB (i j:Int):Prop:=j ≠ 0 ∧ Big j
theorem op_fdivB:OpR X (binaryOp .FloorDiv) (rI CDivB fun i j=>.int (i.fdiv j)):=opI fun i j _ _ _ _ _ hc q=>floordiv_int hc.1 q (.inl (PyProof.noPylong_of_log2 (by
  by_cases h0:j.natAbs = 0
  · rw [h0]; decide
  · have:=(Nat.log2_lt h0).mpr hc.2
    lia)))
end
mutual
inductive Is (K:PySem.W.Frag) (H:Hp):V → PyData → Prop
  | non:Is K H .non .none
  | bl (b:Bool):Is K H (.bl b) (.bool b)
  | int (i:Int):Is K H (.int i) (.int i)
  | str (x:Str):Is K H (.str x) (.str x)
  | lst {a:Addr} {xs:List V} {ds:List PyData}:SqL K H a xs → IsAll K H xs ds → Is K H (.ref a) (.list ds)
  | tup {a:Addr} {xs:List V} {ds:List PyData}:SqT K H a xs → IsAll K H xs ds → Is K H (.ref a) (.tuple ds)
  | dc {a:Addr}:H a = some (.dK []) → Is K H (.ref a) (.dict [])
inductive IsAll (K:PySem.W.Frag) (H:Hp):List V → List PyData → Prop
  | nil:IsAll K H [] []
  | cons {x:V} {xs:List V} {d:PyData} {ds:List PyData}:Is K H x d → IsAll K H xs ds → IsAll K H (x :: xs) (d :: ds)
end
theorem IsAll.ints {K:PySem.W.Frag} {H:Hp}:∀ ns:List Int,IsAll K H (ns.map V.int) (ns.map PyData.int)
  | []=>.nil
  | n :: ns=>.cons (.int n) (IsAll.ints ns)
section
variable {X:Cx} {pins:List (Addr × Obj)} {σ:St} {H:Hp} {s:Shared}
mutual
theorem Is.reads (I:Inv X pins σ H s):∀ {x:V} {d:PyData} {u:Value},Is X.K H x d → RelV x u → ∃ as,Reads s.heap u d as
  | _,_,_,.non,r=>by cases r; exact ⟨_,.none⟩
  | _,_,_,.bl b,r=>by cases r; exact ⟨_,.bool b⟩
  | _,_,_,.int i,r=>by obtain ⟨t,rfl⟩:=r; exact ⟨_,.int i t⟩
  | _,_,_,.str i,r=>by obtain ⟨t,rfl⟩:=r; exact ⟨_,.str i t⟩
  | _,_,_,.lst hq hs,r=>by
    cases r
    obtain ⟨its,rv,pl,hz⟩:=I.list hq
    obtain ⟨as,ra⟩:=IsAll.reads I hs rv
    obtain ⟨o,ho,hc,n,hd⟩:=pl.isList
    exact ⟨_,.list ho hc hd (by simpa using ra)⟩
  | _,_,_,.tup hq hs,r=>by
    cases r
    obtain ⟨its,rv,pl,hz⟩:=I.tuple hq
    obtain ⟨as,ra⟩:=IsAll.reads I hs rv
    obtain ⟨o,ho,hc,n,hd⟩:=pl
    exact ⟨_,.tuple ho hc hd (by simpa using ra)⟩
  | _,_,_,.dc (a:=a) e,r=>by
    cases r
    obtain ⟨_,_,vs,kv,o,es,ep,h1,h2,h3,h4,h5,h6⟩:=(show ObjOk X.prog X.w H s.heap a (.dK []) from I.hok a _ e)
    have hv:vs = []:=by cases kv; rfl
    subst hv
    have he:es.toList = []:=by
      generalize es.toList = l at h5
      cases h5
      rfl
    exact ⟨_,.dict h1 h2.1 h3 (by rw [he]; exact .nil) (by rw [he]; exact .nil)⟩
theorem IsAll.reads (I:Inv X pins σ H s):∀ {xs:List V} {ds:List PyData} {us:List Value},IsAll X.K H xs ds → Vals xs us → ∃ as,ReadsAll s.heap us ds as
  | _,_,_,.nil,r=>by cases r; exact ⟨_,.nil⟩
  | _,_,_,.cons h hs,r=>by
    cases r with
    | cons r1 r2 =>
      obtain ⟨as,ra⟩:=Is.reads I h r1
      obtain ⟨bs,rb⟩:=IsAll.reads I hs r2
      exact ⟨_,.cons ra rb⟩
end
end
section
variable {X:Cx}
def rEqD (K:PySem.W.Frag):R2:=fun x y H Q=>∃ d d',Is K H x d ∧ Is K H y d' ∧ SeqAt.shaped d = true ∧ SeqAt.shaped d' = true ∧ Q (.bl (PyData.eqv d d')) H
def rNeD (K:PySem.W.Frag):R2:=fun x y H Q=>∃ d d',Is K H x d ∧ Is K H y d' ∧ SeqAt.shaped d = true ∧ SeqAt.shaped d' = true ∧ Q (.bl (!PyData.eqv d d')) H
theorem op_eqD (hu:X.A.units + 64 < cLine):OpR X (compareOp .Eq) (rEqD X.K):=by
  intro pins s σ H x y v u Q I rx ry h
  obtain ⟨d,d',h1,h2,h3,h4,q⟩:=h
  obtain ⟨as,ra⟩:=h1.reads I rx
  obtain ⟨bs,rb⟩:=h2.reads I ry
  exact eq_dataH ra rb h3 h4 hu ⟨.bl _,H,I,rfl,q⟩
theorem op_neD (hu:X.A.units + 64 < cLine):OpR X (compareOp .NotEq) (rNeD X.K):=by
  intro pins s σ H x y v u Q I rx ry h
  obtain ⟨d,d',h1,h2,h3,h4,q⟩:=h
  obtain ⟨as,ra⟩:=h1.reads I rx
  obtain ⟨bs,rb⟩:=h2.reads I ry
  exact ne_dataH ra rb h3 h4 hu ⟨.bl _,H,I,rfl,q⟩
theorem bls_at {bs:List Bool} {its:List Value} (r:Vals (bs.map V.bl) its) {i:Nat} {v:Value} (e:its[i]? = some v):v = .bool (bs.getD i false):=by
  have hl:=r.length
  rw [List.length_map] at hl
  have hi:i < its.length:=(List.getElem?_eq_some_iff.mp e).1
  have hb:(bs.map V.bl)[i]? = some (V.bl (bs.getD i false)):=by
    rw [List.getElem?_map]
    have:bs[i]? = some (bs.getD i false):=by
      rw [List.getD_eq_getElem?_getD,List.getElem?_eq_getElem (by lia)]; rfl
    rw [this]; rfl
  obtain ⟨u,eu,ru⟩:=r.get hb
  rw [e] at eu
  cases eu
  exact ru
theorem range_all (bs:List Bool):(List.range bs.length).all (fun i=>bs.getD i false) = bs.all id:=by
  rw [Bool.eq_iff_iff]
  simp only [List.all_eq_true,List.mem_range,id]
  constructor
  · intro h b hb
    obtain ⟨i,hi,rfl⟩:=List.mem_iff_getElem.mp hb
    have:=h i hi
    rwa [List.getD_eq_getElem?_getD,List.getElem?_eq_getElem hi] at this
  · intro h i hi
    rw [List.getD_eq_getElem?_getD,List.getElem?_eq_getElem hi]
    exact h _ (List.getElem_mem hi)
theorem call_all (hc:X.calm = true):CallR X (.builtin "all") (fun xs H Q=>∃ (p:Addr) (bs:List Bool),xs = [.ref p] ∧ SqL X.K H p (bs.map V.bl) ∧ Q (.bl (bs.all id)) H):=by
  intro pins s σ H xs us Q I r h
  obtain ⟨p,bs,rfl,hq,q⟩:=h
  obtain ⟨u,rfl,rx⟩:=vals1 r
  cases rx
  obtain ⟨its,rv,pl,hz⟩:=I.list hq
  have hl:=rv.length
  rw [List.length_map] at hl
  refine PySem.wpAny.cc (call_all_walk (wpAny_pyIter_list pl.isList ?_))
  have hlt:p < s.heap.objs.size:=by obtain ⟨o,e,_⟩:=pl.isList; exact Heap.lt_size e
  refine ⟨s.heap.objs.size,_,_,_,_,_,fun i=>bs.getD i false,rfl,Walks.list (A:=X.A.in1) (I.ok.hd hc) s.heap.objs.size p (Nat.ne_of_lt hlt) its.toArray,⟨⟨_,Heap.get?_push_size _ rfl,rfl,rfl⟩,pl.isList.push _⟩,?_,fun h' tk k=>?_⟩
  · intro i v s Q E e hQ
    have e':its[i]? = some v:=by simpa using e
    rw [bls_at rv e']
    exact wpAny_truthy_bool hQ
  · rw [List.size_toArray,← hl,range_all]
    refine ⟨.bl _,H,I.kept (fun b o e=>k b o (fun hb=>?_) (Heap.get?_push_of_some _ e)),rfl,q⟩
    have:b = s.heap.objs.size:=by simpa using hb
    exact absurd (this ▸ Heap.lt_size e) (Nat.lt_irrefl _)
end
end L2
namespace L2
open PySem PySem.Spec PyProof.Rows
theorem bt_len:bootBuiltins "len" = some (.builtin "len"):=by decide +kernel
theorem bt_abs:bootBuiltins "abs" = some (.builtin "abs"):=by decide +kernel
theorem bt_max:bootBuiltins "max" = some (.builtin "max"):=by decide +kernel
theorem bt_min:bootBuiltins "min" = some (.builtin "min"):=by decide +kernel
theorem bt_all:bootBuiltins "all" = some (.builtin "all"):=by decide +kernel
theorem bt_isinstance:bootBuiltins "isinstance" = some (.builtin "isinstance"):=by decide +kernel
theorem bt_int:bootBuiltins "int" = some (.type "int"):=by decide +kernel
theorem bt_bool:bootBuiltins "bool" = some (.type "bool"):=by decide +kernel
theorem bt_str:bootBuiltins "str" = some (.type "str"):=by decide +kernel
theorem bt_list:bootBuiltins "list" = some (.type "list"):=by decide +kernel
theorem bt_tuple:bootBuiltins "tuple" = some (.type "tuple"):=by decide +kernel
theorem bt_set:bootBuiltins "set" = some (.type "set"):=by decide +kernel
def NoX (CX:CXT):Prop:=∀ o H s e s',CX o H s E0 e s' → False
theorem passN {CX:CXT} {X:Cx} (h:NoX CX):Passes CX X E0:=fun _ _ _ _ _ _ _ q=>(h _ _ _ _ _ q).elim
def Own (P:Program) (w:World) (K:PySem.W.Frag) (mg:Str → Option Value) (base:Heap) (CX:CXT) (k:Nat) (x:Str) (ps:List Str) (sp:Sp):Prop :=
  ∃ (f:Addr) (fd:FuncData),FnOk P w K mg base CX k f fd ps sp ∧ mg x = some (.ref f) ∧ PySem.W.keepIn K (.ref f) = true ∧ Binds K fd ps []
section
variable {X:Cx} {CX:CXT} {k:Nat} {x:Str} {ps:List Str} {sp:Sp} {e:Expr} {es:List Expr} {t:TA} {p pos:Pos}
theorem pe_own (O:Own X.prog X.w X.K X.mg X.base CX k x ps sp) (hX:NoX CX) (hr:Room k X.A) (hg:Gl X x) (ha:PA X (e :: es) t) (hdb:(x == ("__debug__" : Str)) = false:=by decide)
    (he:starEach (e :: es) X.env = (false,eval e X.env) :: starEach es X.env:=by rfl) (hpl:(backTo pos (starEach es X.env)).any (·.1) = false:=by rfl):PE X (.Call (.Name x p) (e :: es) [] pos) (tCall sp [] E0 t):=by
  obtain ⟨f,fd,F,hm,hk,hb⟩:=O
  exact pe_call F hr hg hm hk hb .nil (passN hX) ha hdb he hpl
end
section
variable {P:Program} {w:World} {K:PySem.W.Frag} {mg:Str → Option Value} {base:Heap} {CX:CXT}
theorem Fun.okG {x qual:Str} {st:Stmt} {f:Addr} {fd:FuncData} {N ps:List Str} {k:Nat} {sp:Sp} (F:Fun K x qual st f fd) (S:FnScope N ps (defScope st)) (len:∀ vs H Q E,sp vs H Q E → vs.length = ps.length)
    (hbody:∀ (cdv:Value) (A:Around) (outer:List Env) (s:Shared) (H:Hp) (vs:List V) (Q:VK) (E:XK),Room k (A.deeper (envOfC qual (defScope st) s.heap.objs.size f cdv)) → sp vs H Q E →
      ∃ t,PSs (cxOf CX P w K mg base N qual (defScope st) f cdv A outer s H E).nox (defBody st) t ∧ t { nx:=fun _ H'=>Q .non H',rt:=Q } (start N vs) H):FnOk P w K mg base CX (k + 1) f fd ps sp:=by
  obtain ⟨oc,od,kV,doc,pm,an,cdv,ct,osl,rfl,lk,hcd⟩:=F.ex
  refine fn_of lk hcd S len fun A outer s H vs Q E hr hsp=>?_
  obtain ⟨t,h,q⟩:=hbody cdv A outer s H vs Q E hr hsp
  exact ⟨t,h.nox,q⟩
end
def Pot (M:Int) (H:Hp) (p:Addr):Prop:=∃ p0 p1:Int,H p = some (.lst [.int p0,.int p1]) ∧ 0 ≤ p0 ∧ 0 ≤ p1 ∧ p1 < M
def Stp (p:Addr) (H H':Hp):Prop:=∀ b o,H b = some o → b ≠ p → H' b = some o
theorem Stp.upd {p:Addr} {H:Hp} {o:HO}:Stp p H (upd H p o):=fun b u e n=>by rw [upd_ne n]; exact e
theorem Same.upd {p:Addr} {H:Hp} {o:HO} (h:H p = none):Same H (upd H p o):=fun b u e=>by rw [upd_ne (ne_of_none e h)]; exact e
abbrev Pt:=Int × Int
theorem Paired.get {α β:Type} {R:α → β → Prop}:∀ {xs:List α} {ys:List β} {i:Nat} {x:α},Paired R xs ys → xs[i]? = some x → ∃ y,ys[i]? = some y ∧ R x y
  | _,_,_,_,.nil,e=>by simp at e
  | _,_,0,_,.cons r _,e=>by simp at e; subst e; exact ⟨_,rfl,r⟩
  | _,_,i + 1,x,.cons _ t,e=>by
    obtain ⟨u,h1,h2⟩:=Paired.get (i:=i) (x:=x) t (by simpa using e)
    exact ⟨u,by simpa using h1,h2⟩
theorem Paired.get' {α β:Type} {R:α → β → Prop}:∀ {xs:List α} {ys:List β} {i:Nat} {y:β},Paired R xs ys → ys[i]? = some y → ∃ x,xs[i]? = some x ∧ R x y
  | _,_,_,_,.nil,e=>by simp at e
  | _,_,0,_,.cons r _,e=>by simp at e; subst e; exact ⟨_,rfl,r⟩
  | _,_,i + 1,x,.cons _ t,e=>by
    obtain ⟨u,h1,h2⟩:=Paired.get' (i:=i) (y:=x) t (by simpa using e)
    exact ⟨u,by simpa using h1,h2⟩
theorem Paired.len {α β:Type} {R:α → β → Prop} {xs:List α} {ys:List β} (h:Paired R xs ys):xs.length = ys.length:=PySem.Paired.length h
def ptD (q:Pt):PyData:=.tuple [.int q.1,.int q.2]
theorem ints_canLay:∀ ns:List Int,PyData.canLayAll0 (ns.map PyData.int) = true
  | []=>by simp [PyData.canLayAll0]
  | _ :: r=>by simp [PyData.canLayAll0,PyData.canLay0,ints_canLay r]
theorem ints_depth:∀ ns:List Int,PyData.depthAll (ns.map PyData.int) ≤ 1
  | []=>by simp [PyData.depthAll]
  | _ :: r=>by
    have:=ints_depth r
    simp only [List.map_cons,PyData.depthAll,PyData.depth]
    lia
theorem shaped_ints (ns:List Int):SeqAt.shaped (.tuple (ns.map PyData.int)) = true:=by
  have:=ints_depth ns
  unfold SeqAt.shaped
  rw [Bool.and_eq_true]
  refine ⟨by simp only [PyData.canLay0,ints_canLay],decide_eq_true ?_⟩
  simp only [PyData.depth]
  lia
theorem bigN {n:Int} (h1:-10000000000000000000000000000000000000000 ≤ n) (h2:n ≤ 10000000000000000000000000000000000000000):Big n:=Big.of 10000000000000000000000000000000000000000 (by decide) h1 h2
theorem sz1:1 ≤ sizeLine:=by decide
section
variable {X:Cx} {K:PySem.W.Frag}
end
end L2
namespace L2
open PySem PySem.Spec PyProof.Rows
section
variable {P:Program} {w:World} {H:Hp} {h:Heap} {a:Addr} {o:HO}
theorem ObjOk.has (x:ObjOk P w H h a o):∃ ob,h.get? a = some ob:=by
  cases o with
  | lst xs=>obtain ⟨_,_,_,_,e⟩:=x; exact ⟨_,e⟩
  | tup xs=>obtain ⟨_,_,_,ob,e,_⟩:=x; exact ⟨_,e⟩
  | dK kvs=>obtain ⟨_,_,_,_,ob,_,_,e,_⟩:=x; exact ⟨_,e⟩
  | dT kvs=>obtain ⟨_,_,_,_,ob,_,_,e,_⟩:=x; exact ⟨_,e⟩
  | set S n=>obtain ⟨ob,_,_,_,e,_⟩:=x; exact ⟨_,e⟩
  | ins C dx fs=>obtain ⟨_,_,_,e,_⟩:=x; exact ⟨_,e⟩
  | own y=>exact x
  | xd fs=>obtain ⟨_,⟨_,_,_,e,_⟩,_⟩:=x; exact ⟨_,e⟩
  | rng lo hi=>obtain ⟨_,_,_,e⟩:=x; exact ⟨_,e⟩
  | frz ob u=>obtain ⟨e,_⟩:=x; exact ⟨_,e⟩
  | tbl ps=>exact ⟨_,(show h.get? a = some _ from x)⟩
  | met f y=>exact ⟨_,(show h.get? a = some _ from x)⟩
  | ext φ=>obtain ⟨_,e,_⟩:=x; exact e
end
def Cov (B:Heap) (H':Hp) (h₀ h:Heap) (fs:List Addr):Prop:=∀ b o,h.get? b = some o → b ∉ fs → ((∃ o₀,h₀.get? b = some o₀) ∨ ∃ u,H' b = some u) → B.get? b = some o
def XC (P:Program) (w:World):CXT:=fun outer H s E e s'=>∃ (ea:Addr) (cls a0:Value) (H':Hp) (B:Heap),e = .ref ea ∧ s'.os = s.os ∧ AllBare s'.gens ∧ Un (frs outer) [] H H' s.heap s'.heap ∧ HOk P w H' s'.heap ∧
  Heap.FlyingW B outer ea cls a0 s'.heap ∧ Cov B H' s.heap s'.heap (frs outer) ∧ H' ea = none ∧ E cls none H'
theorem noXC {P:Program} {w:World}:NoX (XC P w):=fun _ _ _ _ _ ⟨_,_,_,_,_,_,_,_,_,_,_,_,_,z⟩=>z
theorem exc_obj {K:PySem.W.Frag} {h:Heap} {C:Addr} {bmB:List Value} {newId:String} (KX:K.In h) (q:PySem.W.excIn K C bmB newId = true) :
    ∃ bm N nm qn bs hd sn sub ab col dd k0 k1 k2 k3 k5 mN,h.get? C = some (excClassObj nm qn C N bs bm hd sn sub ab col dd k0 k1 k2 k3 k5 newId) ∧ h.Ns N mN ∧ mN "__init__" = none ∧ OwnTail h bmB bm:=by
  unfold PySem.W.excIn at q
  split at q
  · rename_i dd cd sl look
    split at q
    · rename_i C2 bm s0 s1 s2 s3 nid s5 emro esl
      simp only [Bool.and_eq_true,beq_iff_eq,Bool.not_eq_true'] at q
      obtain ⟨⟨⟨⟨⟨rfl,rfl⟩,nodel⟩,tl⟩,nsok⟩,noinit⟩:=q
      obtain ⟨nm,bs,mro,ns,qn,hd,sn,sub,ab,col,del⟩:=cd
      dsimp only at emro nodel nsok noinit
      subst emro nodel
      obtain rfl:sl = #[s0,s1,s2,s3,some (.builtin nid),s5]:=by
        obtain ⟨l⟩:=sl
        simp only at esl
        rw [esl]
      exact ⟨bm,ns,nm,qn,bs,hd,sn,sub,ab,col,dd,s0,s1,s2,s3,s5,_,KX _ _ look,.of_isNs (PySem.W.isNs_of_in KX nsok),PySem.W.nsMap_none_of_in KX nsok noinit,PySem.W.tail_of_in KX tl⟩
    · cases q
  · cases q
theorem frames_hide {h base:Heap} {fs:List Addr}:∀ {l:List Env},h.FunFrames base l → (∀ b ∈ frs l,b ∈ fs) → h.FunFrames (PySem.W.hideAll h fs) l
  | [],_,_=>trivial
  | env :: r,⟨hk,⟨L,o,hf,hn,ho,hd⟩,hr⟩,hs=>by
    have hm:L ∈ frs (env :: r):=List.mem_filterMap.mpr ⟨env,List.mem_cons_self,hf⟩
    refine ⟨hk,⟨L,o,hf,PySem.W.hideAll_none _ (hs L hm),ho,hd⟩,frames_hide hr fun b hb=>hs b ?_⟩
    obtain ⟨e,he,hfe⟩:=List.mem_filterMap.mp hb
    exact List.mem_filterMap.mpr ⟨e,List.mem_cons_of_mem _ he,hfe⟩
def tRaise (E:XK) (cls:Value) (t:TA):TS:=fun _ σ H=>t σ H fun vs H2=>vs.length ≤ sizeLine ∧ E cls none H2
section
variable {P:Program} {w:World} {K:PySem.W.Frag} {mg:Str → Option Value} {base:Heap} {N:List Str} {qual:Str} {scope:Scope} {f C:Addr} {cd:Value} {A:Around} {outer:List Env} {s:Shared} {H:Hp} {E:XK}
  {x:Str} {B newId initId:String} {bmB:List Value} {e₀:Expr} {rest:List Expr} {t:TA} {np cpos pos:Pos}
theorem ps_raise (q:PySem.W.excIn K C bmB newId = true) (FB:ExcBaseFacts B newId initId bmB) (hm:mg x = some (.ref C)) (hg:Gl (cxOf (XC P w) P w K mg base N qual scope f cd A outer s H E) x)
    (ha:PA (cxOf (XC P w) P w K mg base N qual scope f cd A outer s H E) (e₀ :: rest) t)
    (he:starEach (e₀ :: rest) (cxOf (XC P w) P w K mg base N qual scope f cd A outer s H E).env = (false,eval e₀ (cxOf (XC P w) P w K mg base N qual scope f cd A outer s H E).env) :: starEach rest (cxOf (XC P w) P w K mg base N qual scope f cd A outer s H E).env:=by rfl)
    (hpl:(backTo cpos (starEach rest (cxOf (XC P w) P w K mg base N qual scope f cd A outer s H E).env)).any (·.1) = false:=by rfl) (hdb:(x == ("__debug__" : Str)) = false:=by decide) :
    PS (cxOf (XC P w) P w K mg base N qual scope f cd A outer s H E) (.Raise (some (.Call (.Name x np) (e₀ :: rest) [] cpos)) none pos) (tRaise E (.ref C) t):=by
  intro pins s1 σ H1 D I h
  generalize hX:cxOf (XC P w) P w K mg base N qual scope f cd A outer s H E = X at *
  have xK:X.K = K:=by rw [← hX]; rfl
  have xmg:X.mg = mg:=by rw [← hX]; rfl
  have xst:X.stack = X.env :: X.outer:=by rw [← hX]; rfl
  have xfr:X.env.frame = some X.env.locals:=by rw [← hX]; rfl
  have xex:X.ex = []:=by rw [← hX]; rfl
  obtain ⟨tl,Nn,nm,qn,bs,hdct,sn,sub,ab,col,dd,k0,k1,k2,k3,k5,mN,hC,hN,hni,T⟩:=exc_obj (K:=K) (xK ▸ I.ok.mod.kin) q
  have hhd:X.A.handled = none:=I.ok.hd (by rw [← hX]; rfl)
  refine wpC_Raise_call_subT (C:=C) (nm:=nm) (q:=qn) (N:=Nn) (bs:=bs) (bm:=tl) (hdct:=hdct) (sn:=sn) (sub:=sub) (ab:=ab) (col:=col) (dd:=dd) (k0:=k0) (k1:=k1) (k2:=k2) (k3:=k3) (k5:=k5)
    FB (mN:=mN) (T.hasType FB.hasBase) hhd (by rw [he]; show (false || (backTo cpos (starEach rest X.env)).any (·.1)) = false; rw [hpl]; rfl) hni (ld_glob I hg (xmg ▸ hm) ⟨rfl,?_⟩ hdb)
  have hA:=ha cpos pins s1 σ H1 _ I h
  rw [he] at hA ⊢
  refine Calls.evalArgs_plain (wpC_mono hA (fun us s2 ⟨vs,H2,I2,r2,hz,hE⟩=>⟨rfl,by rw [← r2.length]; exact hz,I2.bk _ _ hC,hN.keeps I2.bk,T.keeps I2.bk,fun h' e made=>?_⟩) fun _ _ y=>y)
  -- the frame is left
  have fsub:∀ b ∈ frs X.stack,b = X.env.locals ∨ b ∈ X.fs:=fun b hb=>List.mem_cons.mp (I2.stkSub b hb)
  have hfs:∀ b ∈ X.fs,b ∈ frs X.stack:=fun b hb=>by
    rw [xst]
    obtain ⟨e,he,hfe⟩:=List.mem_filterMap.mp hb
    exact List.mem_filterMap.mpr ⟨e,List.mem_cons_of_mem _ he,hfe⟩
  have leave:wpC (model X.prog X.w) X.A (leaving X.env (.ref e)) (fun _ s''=>XC X.prog X.w X.outer X.H₀ X.s₀ E (.ref e) s'') (fun e' s''=>XC X.prog X.w X.outer X.H₀ X.s₀ E e' s'') { s2 with heap:=h' }:=by
    refine wpC_leaves_madeW (base:=PySem.W.hideAll s2.heap (frs X.stack)) (h:=s2.heap) (by rw [← xst]; exact I2.ok.frames) xfr (fun b o hb=>PySem.W.of_hideAll _ hb) (by rw [← xst]; exact frames_hide I2.stack fun b hb=>hb) made fun h'' t fl _ _ ups=>?_
    have kept:∀ b o,s2.heap.get? b = some o → b ∉ frs X.stack → h''.get? b = some o:=fun b o eb nb=>fl.1 b o (PySem.W.hideAll_get _ eb nb)
    have bs:Un X.fs [] X.H₀ H2 X.s₀.heap s2.heap:=by have:=I2.base; rw [xex] at this; exact this
    have oldnf:∀ b o,X.s₀.heap.get? b = some o → b ∉ X.fs → b ∉ frs X.stack:=fun b o eb nb z=>by
      rcases fsub b z with z | z
      · exact absurd (Nat.lt_of_lt_of_le (Heap.lt_size eb) I2.ok.above) (by rw [z]; exact Nat.lt_irrefl _)
      · exact nb z
    have trk:∀ b u,H2 b = some u → b ∉ frs X.stack:=fun b u eb z=>by
      have:=I2.stkFree b z
      rw [this] at eb; cases eb
    refine ⟨e,.ref C,.ref t,H2,_,rfl,I2.os,I2.bare,⟨fun b o eb n nf _=>?_,fun b o eb n nf _=>?_,bs.free,fun b o eb _=>?_,bs.tups,bs.frzs,bs.tbls⟩,fun b u eb=>?_,fl,fun b o eb nb cov=>?_,?_,hE⟩
    · exact kept b o (bs.keep b o eb n nf (by simp)) (oldnf b o eb nf)
    · obtain ⟨sl,e1⟩:=bs.slot b o eb n nf (by simp)
      obtain ⟨_,o',ho',hd'⟩:=I2.stack.mem (hfs b nf)
      rw [e1] at ho'; cases ho'
      obtain ⟨sl2,e2⟩:=ups b _ (made.keeps b _ e1) hd'
      exact ⟨sl2,e2⟩
    · obtain ⟨o',e1⟩:=bs.there b o eb (by simp)
      by_cases nb:b ∈ frs X.stack
      · obtain ⟨_,o2,ho2,hd2⟩:=I2.stack.mem nb
        rw [e1] at ho2; cases ho2
        obtain ⟨sl2,e2⟩:=ups b _ (made.keeps b _ e1) hd2
        exact ⟨_,e2⟩
      · exact ⟨o',kept b o' e1 nb⟩
    · refine (I2.hok b u eb).stay (fun c v hc e1=>kept c v e1 ?_) (fun _ z=>z) fun _ _ z=>z
      rcases hc with rfl | hc
      · exact trk c u eb
      · exact trk c _ hc
    · have nfr:b ∉ frs X.stack:=by
        rcases cov with ⟨o0,e0⟩ | ⟨u,eu⟩
        · exact oldnf b o0 e0 nb
        · exact trk b u eu
      have there:∃ o2,s2.heap.get? b = some o2:=by
        rcases cov with ⟨o0,e0⟩ | ⟨u,eu⟩
        · exact bs.there b o0 e0 (by simp)
        · exact (I2.hok b u eu).has
      obtain ⟨o2,e2⟩:=there
      have:=kept b o2 e2 nfr
      rw [eb] at this; cases this
      exact PySem.W.hideAll_get _ e2 nfr
    · cases z:H2 e with
      | none=>rfl
      | some u =>
        obtain ⟨o2,e2⟩:=(I2.hok e u z).has
        have:=made.new
        rw [e2] at this; cases this
  rw [← hX] at leave ⊢
  exact leave
end
end L2
namespace L2
open PySem PySem.Spec PyProof.Rows
abbrev tryCx (X:Cx) (pn:List (Addr × Obj)) (xe:Value → Shared → Prop):Cx:={ X with pn:=pn,xe:=xe }
abbrev sufCx (X:Cx) (ea:Addr):Cx:={ X with A:=X.A.mark (some (.ref ea)),calm:=false,xe:=fun _ _=>False }
theorem Cx.Ok.tryC {X:Cx} {pn:List (Addr × Obj)} {xe:Value → Shared → Prop} (o:X.Ok):(tryCx X pn xe).Ok :=
  ⟨o.mod,o.kind,o.glob,o.blt,o.above,o.inj,o.has,o.cab,o.hd,o.frames,o.stk,o.exf,o.bs,o.bsz,o.noex,o.exfs,o.funs,o.frf⟩
theorem Cx.Ok.sufC {X:Cx} {ea:Addr} (o:X.Ok):(sufCx X ea).Ok :=
  ⟨o.mod,o.kind,o.glob,o.blt,o.above,o.inj,o.has,o.cab,(fun z=>nomatch z),o.frames,o.stk,o.exf,o.bs,o.bsz,o.noex,o.exfs,o.funs,o.frf⟩
section
variable {X:Cx} {pins:List (Addr × Obj)} {σ:St} {H H':Hp} {s:Shared}
theorem Inv.tryC {xe:Value → Shared → Prop} (I:Inv X pins σ H s):Inv (tryCx X (X.pn ++ pins) xe) [] σ H s :=
  ⟨I.ok.tryC,I.os,I.bare,I.base,I.loc,I.cell,I.free,I.freeC,fun p hp=>I.pin p (by simpa using hp),I.hok,I.len⟩
theorem Cx.Ok.untry {pn:List (Addr × Obj)} {xe:Value → Shared → Prop} (o:(tryCx X pn xe).Ok):X.Ok :=
  ⟨o.mod,o.kind,o.glob,o.blt,o.above,o.inj,o.has,o.cab,o.hd,o.frames,o.stk,o.exf,o.bs,o.bsz,o.noex,o.exfs,o.funs,o.frf⟩
theorem Inv.untry {pl:List (Addr × Obj)} {xe:Value → Shared → Prop} (I:Inv (tryCx X (X.pn ++ pins) xe) pl σ H s):Inv X pins σ H s :=
  ⟨I.ok.untry,I.os,I.bare,I.base,I.loc,I.cell,I.free,I.freeC,fun p hp=>I.pin p (List.mem_append_left _ hp),I.hok,I.len⟩
theorem Inv.sufC {ea:Addr} (I:Inv X pins σ H s):Inv (sufCx X ea) pins σ H s :=
  ⟨I.ok.sufC,I.os,I.bare,I.base,I.loc,I.cell,I.free,I.freeC,I.pin,I.hok,I.len⟩
theorem Inv.unsuf {ea:Addr} (o:X.Ok) (I:Inv (sufCx X ea) pins σ H s):Inv X pins σ H s :=
  ⟨o,I.os,I.bare,I.base,I.loc,I.cell,I.free,I.freeC,I.pin,I.hok,I.len⟩
theorem Inv.goes {i:Nat} {n:Str} {h':Heap} {m:Str → Option Value} {v:Option Value} (I:Inv X pins σ H s) (hN:X.N.Nodup) (hi:X.N[i]? = some n) (hn:s.heap.Ns X.env.locals m)
    (hl:∀ (j:Nat) (x:Str) (v:V),X.N[j]? = some x → σ[j]? = some (some v) → Vis X.env.scope x → ∃ u,RelV v u ∧ Look X.env s.heap m x u)
    (hn':h'.Ns X.env.locals (fun x=>if x = n then v else m x)) (hs:Heap.SameBut X.env.locals s.heap h') (tk:Nat):Inv X pins (σ.set i none) H { s with heap:=h',toks:=tk }:=by
  have keepb:∀ b o,b ≠ X.env.locals → s.heap.get? b = some o → h'.get? b = some o:=fun b o hb e=>(hs.2 b hb).trans e
  have neL:∀ b o,X.s₀.heap.get? b = some o → b ≠ X.env.locals:=fun b o e=>Nat.ne_of_lt (Nat.lt_of_lt_of_le (Heap.lt_size e) I.ok.above)
  refine ⟨I.ok,I.os,I.bare,⟨fun b o e n hb hx=>keepb b o (neL b o e) (I.base.keep b o e n hb hx),fun b o e n hb hx=>?_,I.base.free,fun b o e hx=>?_,I.base.tups,I.base.frzs,I.base.tbls⟩,⟨_,hn',fun j y u e1 e2 e3=>?_⟩,fun y c e=>?_,I.free,I.freeC,fun p hp=>?_,fun b u e=>?_,by simpa using I.len⟩
  · obtain ⟨sl,e1⟩:=I.base.slot b o e n hb hx
    exact ⟨sl,keepb b _ (neL b o e) e1⟩
  · obtain ⟨o',e1⟩:=I.base.there b o e hx
    exact ⟨o',keepb b _ (neL b o e) e1⟩
  · have hji:j ≠ i:=by
      rintro rfl
      rw [List.getElem?_set] at e2
      simp only [if_true] at e2
      split at e2 <;> cases e2
    rw [List.getElem?_set_ne (Ne.symm hji)] at e2
    obtain ⟨u',r,q⟩:=hl j y u e1 e2 e3
    refine ⟨u',r,?_⟩
    rcases q with ⟨k,e⟩ | ⟨k,c,e,z⟩
    · refine .inl ⟨k,?_⟩
      have hy:y ≠ n:=fun z=>hji (nodup_ix hN e1 (z ▸ hi))
      simp [hy,e]
    · exact .inr ⟨k,c,e,z.sameBut hs (I.cne y c e)⟩
  · obtain ⟨v',z⟩:=I.cell y c e
    exact ⟨v',z.sameBut hs (I.cne y c e)⟩
  · obtain ⟨e,n,ne,nf,d⟩:=I.pin p hp
    exact ⟨keepb _ _ ne e,n,ne,nf,d⟩
  · refine (I.hok b u e).stay (fun c v hc q=>keepb c v ?_ q) (fun _ q=>q) fun _ _ q=>q
    rintro rfl
    rcases hc with z | z
    · rw [← z,I.free] at e; cases e
    · rw [I.free] at z; cases z
end
def excO (ea:Addr) (cls:Value):HO:=.ext fun h=>∃ oe,h.get? ea = some oe ∧ oe.cls = cls
abbrev blank (n:Nat):St:=List.replicate n none
def tTry (K:PySem.W.Frag) (c0:Value) (n i:Nat) (tb:XK → TS) (ts:TS):TS:=fun D σ H=>tb (fun cls _ H'=>PySem.W.exmOne K cls c0 = some true ∧
  ∀ ea,H' ea = none → ts { nx:=fun σ' H2=>D.nx (σ'.set i none) H2,rt:=D.rt,bk:=fun σ' H2=>D.bk (σ'.set i none) H2,ct:=fun σ' H2=>D.ct (σ'.set i none) H2 } ((blank n).set i (some (.ref ea))) (upd H' ea (excO ea cls))) D σ H
section
variable {X:Cx}
theorem exc_back {pins:List (Addr × Obj)} {σ1:St} {H1 H':Hp} {s1 s':Shared} {B h6:Heap} {ea:Addr} {cls a0:Value} (I1:Inv X pins σ1 H1 s1) (os:s'.os = s1.os) (bare:AllBare s'.gens)
    (un:Un (frs X.stack) [] H1 H' s1.heap s'.heap) (hok:HOk X.prog X.w H' s'.heap) (cov:Cov B H' s1.heap s'.heap (frs X.stack)) (hn:H' ea = none)
    (fl:Heap.FlyingW B X.stack ea cls a0 h6) (fl0:Heap.FlyingW B X.stack ea cls a0 s'.heap) (ups:s'.heap.UpToSlots h6) :
    Inv X pins σ1 H' { s' with heap:=h6 } ∧ Inv X pins σ1 (upd H' ea (excO ea cls)) { s' with heap:=h6 }:=by
  have notold:∀ o,s1.heap.get? ea ≠ some o:=fun o e=>by
    obtain ⟨_,nB,_,oe,vs,_,_,_,he,_,hd,_⟩:=id fl0
    have nf:ea ∉ frs X.stack:=fun z=>by
      obtain ⟨_,o2,ho2,hd2⟩:=fl0.2.2.1.mem z
      rw [he] at ho2; cases ho2
      exact hd2 _ hd
    have:=cov ea oe he nf (.inl ⟨o,e⟩)
    rw [nB] at this; cases this
  have keepc:∀ b o,s'.heap.get? b = some o → b ∉ frs X.stack → ((∃ o₀,s1.heap.get? b = some o₀) ∨ ∃ u,H' b = some u) → h6.get? b = some o:=fun b o e nb c=>fl.1 b o (cov b o e nb c)
  have trk:∀ b u,H' b = some u → b ∉ frs X.stack:=fun b u eb z=>by
    obtain ⟨_,o0,ho0,_⟩:=I1.stack.mem z
    have:=un.free b o0 ho0 (I1.stkFree b z) (by simp)
    rw [this] at eb; cases eb
  have un6:∀ H2:Hp,(∀ b,b ≠ ea → H2 b = H' b) → Un (frs X.stack) [] H1 H2 s1.heap h6:=fun H2 hH=>by
    refine ⟨fun b o e n nf hx=>keepc b o (un.keep b o e n nf hx) nf (.inl ⟨o,e⟩),fun b o e n nf hx=>?_,fun b o e n hx=>?_,fun b o e hx=>?_,fun b xs e=>?_,fun b o u e=>?_,fun b ps e=>?_⟩
    · obtain ⟨sl,e1⟩:=un.slot b o e n nf hx
      obtain ⟨_,o2,ho2,hd2⟩:=I1.stack.mem nf
      rw [e] at ho2; cases ho2
      obtain ⟨sl2,e2⟩:=ups b _ e1 hd2
      exact ⟨sl2,e2⟩
    · have hb:b ≠ ea:=by rintro rfl; exact notold _ e
      rw [hH b hb]; exact un.free b o e n hx
    · obtain ⟨o',e1⟩:=un.there b o e hx
      by_cases nb:b ∈ frs X.stack
      · obtain ⟨_,o2,ho2,hd2⟩:=I1.stack.mem nb
        rw [e] at ho2; cases ho2
        obtain ⟨sl,e3⟩:=un.slot b o e (I1.stkFree b nb) nb hx
        obtain ⟨sl2,e2⟩:=ups b _ e3 hd2
        exact ⟨_,e2⟩
      · exact ⟨o',keepc b o' e1 nb (.inl ⟨o,e⟩)⟩
    · have:=un.tups b xs e
      rw [hH b (ne_of_none this hn)]; exact this
    · have:=un.frzs b o u e
      rw [hH b (ne_of_none this hn)]; exact this
    · obtain ⟨more,this⟩:=un.tbls b ps e
      exact ⟨more,by rw [hH b (ne_of_none this hn)]; exact this⟩
  have hok6:HOk X.prog X.w H' h6:=fun b u e=>(hok b u e).stay (fun c v hc q=>by
    rcases hc with rfl | hc
    · exact keepc c v q (trk c u e) (.inr ⟨u,e⟩)
    · exact keepc c v q (trk c _ hc) (.inr ⟨_,hc⟩)) (fun _ q=>q) fun _ _ q=>q
  refine ⟨I1.call' (s':={ s' with heap:=h6 }) (ch:=[]) os (un6 H' fun _ _=>rfl) hok6 bare (fun b z=>nomatch z),?_⟩
  refine I1.call' (s':={ s' with heap:=h6 }) (ch:=[]) os (un6 _ fun b hb=>upd_ne hb) (fun b u e=>?_) bare (fun b z=>nomatch z)
  by_cases hb:b = ea
  · subst hb
    rw [upd_same] at e
    cases e
    obtain ⟨oe,vs,he,hc,hd,_⟩:=fl.first
    exact ⟨⟨oe,he,hc⟩,⟨oe,he⟩,fun h1 h2 ⟨o,e1,e2⟩ k=>⟨o,k o e1,e2⟩⟩
  · rw [upd_ne hb] at e
    exact (hok6 b u e).stay (fun _ _ _ q=>q) (fun c q=>by rw [upd_ne (ne_of_none q hn)]; exact q) fun c xs q=>by rw [upd_ne (ne_of_none q hn)]; exact q
theorem ps_try {body:List Stmt} {b₀:Stmt} {suite:List Stmt} {cx n:Str} {np hpos pos:Pos} {c0:Value} {i k:Nat} {tb:XK → TS} {ts:TS}
    (hst:X.stack = X.env :: X.outer) (hfr:X.env.frame = some X.env.locals) (hN:X.N.Nodup) (hi:X.N[i]? = some n) (hl:X.env.scope.names.lookup n = some .local) (hk:X.N.length = k)
    (hg:Gl X cx) (hm:X.mg cx = some c0)
    (hb:∀ (E:XK) (pn:List (Addr × Obj)) (xe:Value → Shared → Prop),Passes (XC X.prog X.w) (tryCx X pn xe) E → PSs (tryCx X pn xe) body (tb E))
    (hs:∀ ea,PSs (sufCx X ea) (b₀ :: suite) ts) (hdb:(cx == ("__debug__" : Str)) = false:=by decide) :
    PS X (.Try body [.ExceptHandler (some (.Name cx np)) (some n) (b₀ :: suite) hpos] [] [] pos) (tTry X.K c0 k i tb ts):=by
  intro pins s σ H D I h
  refine wpC_Try_except (wpC_mono (hb _ (X.pn ++ pins) (fun e s'=>∃ σ1 H1 s1,Inv X pins σ1 H1 s1 ∧ XC X.prog X.w X.stack H1 s1 _ e s') (fun pl σ1 H1 s1 e s' J q=>⟨σ1,H1,s1,J.untry,q⟩) [] s σ H D I.tryC h) (fun f s1 q=>?_) (fun e s' q=>?_))
  · cases f with
    | next=>obtain ⟨σ1,H1,J,q⟩:=q; exact wpC_execs_nil ⟨σ1,H1,J.untry,q⟩
    | brk=>obtain ⟨σ1,H1,J,q⟩:=q; exact ⟨σ1,H1,J.untry,q⟩
    | cont=>obtain ⟨σ1,H1,J,q⟩:=q; exact ⟨σ1,H1,J.untry,q⟩
    | ret u=>obtain ⟨v,σ1,H1,J,r,q⟩:=q; exact ⟨v,σ1,H1,J.untry,r,q⟩
  · obtain ⟨σ1,H1,s1,I1,ea,cls,a0,H',B,rfl,os,bare,un,hok,fl,cov,hn,hex,hE⟩:=q
    have fl':=fl
    rw [hst] at fl'
    refine wpC_looks_onW (by rw [← hst]; exact I1.ok.frames) hfr fl' fun h4 held sm4=>wpC_landsW held fun h5 fl5 sm5=>?_
    have fl5':Heap.FlyingW B X.stack ea cls a0 h5:=by rw [hst]; exact fl5
    have J5:=(exc_back I1 os bare un hok cov hn fl5' fl (sm4.trans sm5)).1
    obtain ⟨oe,heo,hcls⟩:=fl5.there
    have LT:PySem.W.Looks (model X.prog X.w) h5 (typeOf (.ref ea)) cls:=hcls ▸ (PySem.W.Looks.ld heo).andThen .now
    refine wpC_handleBy_cons (codeC_handlers_test (ld_glob (X:=sufCx X ea) J5.sufC hg hm ?_ hdb)) (by intro z; cases z)
    refine PySem.wpAny.cc ((PySem.W.exm_one (K:=X.K) J5.kIn LT hex).here ?_)
    refine codeC_handlers_suite_as ?_
    refine lands_againW fl5 fun h6 fl6 sm6=>?_
    have fl6':Heap.FlyingW B X.stack ea cls a0 h6:=by rw [hst]; exact fl6
    have J6:=(exc_back I1 os bare un hok cov hn fl6' fl ((sm4.trans sm5).trans sm6)).2
    have J6b:=J6.weak (σ':=blank k) (by rw [J6.len,hk]; simp [blank]) (fun j v e=>by
      simp only [blank,List.getElem?_replicate] at e
      split at e <;> cases e)
    refine store_ok (X:=sufCx X ea) J6b.sufC hN hi (.inl hl) (v:=.ref ea) rfl (fun s7 J7=>?_) (.inr hl)
    refine wpC_mono (hs ea pins s7 _ _ _ J7 (hE ea hn)) (fun f s8 q=>?_) (fun _ _ z=>z.elim)
    have fin:∀ {σ8:St} {H8:Hp},Inv (sufCx X ea) pins σ8 H8 s8 → (∀ s9,Inv X pins (σ8.set i none) H8 s9 → SP X pins D f s9) →
        wpC (model X.prog X.w) X.A (do bindName X.env n .none; unbindBehindTheSuite X.env n hpos) (fun _ s9=>SP X pins D f s9) X.xe s8:=fun {σ8 H8} J8 kk=>by
      have J8':=J8.unsuf I1.ok
      obtain ⟨m,hns,hloc⟩:=id J8'.loc
      refine wpC_nameGoes_keeps hl hns (by rw [I1.ok.kind]; rfl) fun h9 v hn9 hs9=>kk _ ?_
      exact J8'.goes hN hi hns hloc hn9 hs9 _
    cases f with
    | next=>obtain ⟨σ8,H8,J8,q⟩:=q; exact fin J8 fun s9 J9=>⟨_,_,J9,q⟩
    | brk=>obtain ⟨σ8,H8,J8,q⟩:=q; exact fin J8 fun s9 J9=>⟨_,_,J9,q⟩
    | cont=>obtain ⟨σ8,H8,J8,q⟩:=q; exact fin J8 fun s9 J9=>⟨_,_,J9,q⟩
    | ret u=>obtain ⟨v,σ8,H8,J8,r,q⟩:=q; exact fin J8 fun s9 J9=>⟨v,_,_,J9,r,q⟩
theorem pe_ownX {CX:CXT} {k:Nat} {x:Str} {ps:List Str} {sp:Sp} {e:Expr} {es:List Expr} {t:TA} {p pos:Pos} {E:XK} (O:Own X.prog X.w X.K X.mg X.base CX k x ps sp) (hx:Passes CX X E) (hr:Room k X.A) (hg:Gl X x) (ha:PA X (e :: es) t) (hdb:(x == ("__debug__" : Str)) = false:=by decide)
    (he:starEach (e :: es) X.env = (false,eval e X.env) :: starEach es X.env:=by rfl) (hpl:(backTo pos (starEach es X.env)).any (·.1) = false:=by rfl):PE X (.Call (.Name x p) (e :: es) [] pos) (tCall sp [] E t):=by
  obtain ⟨f,fd,F,hm,hk,hb⟩:=O
  exact pe_call F hr hg hm hk hb .nil hx ha hdb he hpl
end
end L2
namespace L2
open PySem PySem.Spec PyProof.Rows PySem.W Builtin Builtin.ObjectAttr Builtin.Getset_descriptor
section
variable {prog:Program} {w:World} {A:Around} {E:Value → Shared → Prop} {K:Frag} {x C:Addr}
structure ExcCls (K:Frag) (C:Addr):Prop where
  ga:findIn K (.ref C) "__getattribute__" = some (some (.builtin "BaseException.__getattribute__"))
  gb:findIn K (.ref C) "__getattr__" = some none
  cl:findIn K (.ref C) "__class__" = some (some (.builtin "object.__class__"))
  gt:specialIn K (.builtin "object.__class__") "__get__" = some (some (.builtin "getset_descriptor.__get__"))
  tk:takesIn K (.builtin "object.__class__") = some true
  ob:mroIn K C (.type "object") = some true
  be:mroIn K C (.type "BaseException") = some true
  ct:(clsIn K C).isSome = true
theorem exc_find {h:Heap} {M:Model} (KX:K.In h) (T:ExcCls K C):Looks M h (find (.ref x) (.ref C) "__class__") (.bind (.builtin "getset_descriptor.__get__") (.builtin "object.__class__")):=by
  have f1:=looks_findIn (M:=M) KX T.cl
  have f2:Looks M h (getOf (some (.builtin "object.__class__"))) (some (.builtin "getset_descriptor.__get__")):=looks_specialIn KX T.gt
  have f3:=looks_takesIn (M:=M) KX T.tk
  exact f1.andThen (f2.andThen ((show Looks M h (dataDescriptor? (some (.builtin "object.__class__")) (some (.builtin "getset_descriptor.__get__"))) (some (.builtin "getset_descriptor.__get__",.builtin "object.__class__")) from f3.andThen .now).andThen (Looks.tag .now)))
theorem exc_classget {s:Shared} {R:Result → Shared → Prop} {tp:Value} (KX:K.In s.heap) (T:ExcCls K C) (LT:Looks (model prog w) s.heap (typeOf (.ref x)) (.ref C)) (q:R (.ok (.ret (.ref C))) s) :
    codeAny (model prog w) A (.call (.builtin "getset_descriptor.__get__") ⟨[.builtin "object.__class__",.ref x,tp],[]⟩) R s:=by
  obtain ⟨hh,gg,dr,tt,oo⟩:=s
  have L1:=looks_mroIn (M:=model prog w) KX T.ob
  refine codeAny_call_builtin KF.slot_gs.plain KF.entry_gs (KF.slot_gs.check _ _ _ _ _ _ _ _ KF.type_class (KF.args_gs _ _ _) ?_)
  unfold Builtin.«getset_descriptor.__get__» descrGet; rw [dga_obj]
  refine wpAny_bind (wpAny_pure ?_); unfold descrGetter descrCheckInstance descrNameAndClass isInstance
  simp only [KF.owner_class]; repeat lk
  refine ⟨Code.quiet_builtin _ (by decide +kernel),codeAny_builtin KF.entry_class ?_⟩; unfold Builtin.«object.__class__» shownTypeOf
  repeat lk
  exact q
theorem exc_class {s:Shared} {Q:Option Value → Shared → Prop} (KX:K.In s.heap) (T:ExcCls K C) (LT:Looks (model prog w) s.heap (typeOf (.ref x)) (.ref C)) (q:Q (some (.ref C)) { s with toks:=s.toks + 1 }) :
    wpAny (model prog w) A (getAttr? (.ref x) "__class__") Q E s:=by
  obtain ⟨hh,gg,dr,tt,oo⟩:=s
  have L1:=looks_findIn (M:=model prog w) KX T.ga
  have L2:=looks_findIn (M:=model prog w) KX T.gb
  have L3:=exc_find (M:=model prog w) (x:=x) KX T
  have L4:=looks_mroIn (M:=model prog w) KX T.be
  have hk:builtinKind "BaseException.__getattribute__" = some .slot:=by decide +kernel
  have hsp:splitId "BaseException.__getattribute__" = some ("BaseException", "__getattribute__"):=by decide +kernel
  unfold getAttr? getAttrBy? getAttrBy
  refine wpAny_bind (wpAny_mkText (wpAny_bind (wpAny_attempt (wpAny_holding (wpAny_bind (LT.at (wpAny_bind (L1.at ?_))))))))
  show wpAny _ _ (getAttrByItsOwn (.ref x) _ (.ref C) (.builtin "BaseException.__getattribute__") false false) _ _ _
  unfold getAttrByItsOwn hookBefore
  rw [if_pos (show onTheHeap (Value.ref C) = true from rfl)]
  refine wpAny_bind (L2.at ?_)
  refine wpAny_bind (wpAny_attempt (wpAny_holding ?_))
  unfold callGetattribute
  rw [if_neg (by simp)]
  unfold boundAndCalled
  refine wpAny_bind (wpAny_of_eq (F.excAttr_ValueError.ga.bind (.ref x)) ?_)
  refine wpAny_call (codeAny_call_builtin F.excAttr_ValueError.ga.plain F.entry_bexc_ga ?_)
  have ha:=F.args_bexc_ga (.ref x) (.str "__class__" tt)
  show wpAny _ _ (checkBuiltinCall "BaseException.__getattribute__" ⟨[.ref x,.str "__class__" tt],[]⟩) _ _ _
  simp only [checkBuiltinCall,hk,hsp]
  refine wpAny_bind ?_
  unfold isInstance
  refine wpAny_bind (LT.at (L4.at ?_))
  repeat (any_goals (first | assumption | with_reducible refine Looks.at (by assumption) ?_ | wp_step))
  refine exc_classget (s:=⟨hh,gg,dr,tt + 1,oo⟩) KX T LT ?_
  refine wpAny_pure ?_
  repeat (any_goals (first | assumption | wp_step))
end
section
variable {K:Frag} {x C:Addr}
theorem kitx_exc (T:ExcCls K C):KitX K (.ref x) (.ref C) (fun h=>∃ oe,h.get? x = some oe ∧ oe.cls = .ref C) where
  ty:=fun M h _ ⟨oe,e,c⟩=>c ▸ (Looks.ld e).andThen .now
  it:=fun M h KX _=>by
    obtain ⟨cd,e⟩:=Option.isSome_iff_exists.mp T.ct
    unfold clsIn at e
    split at e
    · rename_i look
      intro A' Q' E' s' k q
      unfold isType loadHead; exact wpAny_bind (wpAny_loadPart (k _ _ (KX _ _ look)) (wpAny_pure q))
    · cases e
  ne:=fun h tp dd its n sl KX htp=>by
    obtain ⟨cd,e⟩:=Option.isSome_iff_exists.mp T.ct
    refine Bool.eq_false_iff.mpr fun z=>?_
    have ee:C = tp:=Value.ref.inj (beq_iff_eq.mp z)
    subst ee
    unfold clsIn at e
    split at e
    · rename_i look
      have z2:=(KX _ _ look).symm.trans htp
      cases z2
    · cases e
  ca:=fun KX ⟨oe,e,c⟩ q=>exc_class KX T (c ▸ (Looks.ld e).andThen .now) q
end
def clsV:V → Value → Prop
  | .ref D,u=>u = .ref D
  | .ty n,u=>u = .type n
  | _,_=>False
theorem clsV.rel {v:V} {u u':Value} (h:clsV v u) (r:RelV v u'):u' = u:=by
  cases v <;> first | exact h.elim | (cases h; cases r; rfl)
def rIsx (K:Frag):List V → Hp → VK → Prop:=fun xs H Q=>∃ (ea C:Addr) (c:V) (b:Bool),xs = [.ref ea,c] ∧ H ea = some (excO ea (.ref C)) ∧ ExcCls K C ∧
  ((∃ u,clsV c u ∧ kitOne K (.ref C) u = some b) ∨ ∃ (tp:Addr) (vs:List V) (us:List Value),c = .ref tp ∧ H tp = some (.tup vs) ∧ Paired clsV vs us ∧ kitAny K (.ref C) us = some b) ∧ Q (.bl b) H
theorem paired_cls:∀ {vs:List V} {us us':List Value},Paired clsV vs us → Vals vs us' → us' = us
  | _,_,_,.nil,.nil=>rfl
  | _,_,_,.cons a b,.cons c d=>by rw [clsV.rel a c,paired_cls b d]
theorem call_isx {X:Cx} {K:Frag} (hK:X.K = K):CallR X (.builtin "isinstance") (rIsx K):=by
  subst hK
  intro pins s σ H xs us Q I r h
  obtain ⟨ea,C,c,b,rfl,he,T,hc,q⟩:=h
  obtain ⟨u,u',rfl,rx,ry⟩:=vals2 r
  cases rx
  have ph:∃ oe,s.heap.get? ea = some oe ∧ oe.cls = .ref C:=(show ObjOk X.prog X.w H s.heap ea (excO ea (.ref C)) from I.hok ea _ he).1
  rcases hc with ⟨v,hv,e⟩ | ⟨tp,vs,ws,rfl,htp,hp,e⟩
  · rw [hv.rel ry]
    exact PySem.wpAny.cc <| kia_one (kitx_exc T) I.kIn ph e (fun z=>nomatch z) fun tk=>⟨.bl b,H,I.tok _,rfl,q⟩
  · cases ry
    obtain ⟨_,its,rv,o,ho,hcls,n,hd⟩:=(show ObjOk X.prog X.w H s.heap tp (.tup vs) from I.hok tp _ htp)
    have ei:=paired_cls hp rv
    subst ei
    obtain ⟨oc,od,dt,sl⟩:=o
    dsimp only at hcls hd
    subst hcls hd
    exact PySem.wpAny.cc <| kia_tup (kitx_exc T) I.kIn ph ho e (fun z=>nomatch z) fun tk=>⟨.bl b,H,I.tok _,rfl,q⟩
end L2
namespace L2
open PySem PySem.Spec PyProof.Rows
abbrev bmV:List Value:=[.type "ValueError",.type "Exception",.type "BaseException",.type "object"]
section
variable {X:Cx} {pins:List (Addr × Obj)} {σ:St} {H:Hp} {s:Shared}
end
section
variable {X:Cx} {K:PySem.W.Frag} {C:Addr} {x:Str} {e:Expr} {es:List Expr} {t:TA} {p pos:Pos}
end
section
variable {P:Program} {w:World} {K:PySem.W.Frag} {mg:Str → Option Value} {base:Heap} {CX:CXT}
end
section
variable {X:Cx} {CX:CXT} {k:Nat} {x:Str} {ps:List Str} {sp:Sp} {e:Expr} {es:List Expr} {t:TA} {p pos:Pos}
end
theorem strsAre_of {ys:List Str}:∀ {us:List Value},Vals (ys.map V.str) us → StrsAre us ys:=by
  induction ys with
  | nil=>intro us r; cases r; exact .nil
  | cons y ys ih =>
    intro us r
    cases r with
    | cons r1 r2 =>
      obtain ⟨t,rfl⟩:=r1
      exact .cons y t (ih r2)
end L2
namespace L2
open PySem PySem.Spec PyProof.Rows PySem.W
section
variable {f:Nat → Nat → Bool}
section
variable {n:Nat} {cmp:Nat → Nat → (Bool → Shared → Prop) → Shared → Prop} {s:Shared}
end
end
end L2
namespace L2
open PySem PySem.Spec PyProof.Rows PySem.W
def TupK (h:Heap) (v:Value) (ks:List Int):Prop:=∃ b o xs n,v = .ref b ∧ h.get? b = some o ∧ o.cls = .type "tuple" ∧ o.data = .seq xs n ∧ IntsAre xs.toList ks ∧ ks ≠ []
theorem TupK.kept {h h':Heap} {v:Value} {ks:List Int} (k:∀ b o,h.get? b = some o → o.cls = .type "tuple" → h'.get? b = some o) (t:TupK h v ks):TupK h' v ks:=by
  obtain ⟨b,o,xs,n,e,ho,hc,r⟩:=t
  exact ⟨b,o,xs,n,e,k b o ho hc,hc,r⟩
section
variable {prog:Program} {w:World} {A:Around} {E:Value → Shared → Prop} {s:Shared}
end
end L2
namespace L2
open PySem PySem.Spec PyProof.Rows PySem.W
section
variable {f:Keyed → Keyed → Bool}
end
section
variable {prog:Program} {w:World} {A:Around} {E:Value → Shared → Prop} {s:Shared} {kd:SortKind} {D:Keyed → Prop} {f:Keyed → Keyed → Bool}
end
end L2
namespace L2
open PySem PySem.Spec PyProof.Rows PySem.W
section
variable {f:Keyed → Keyed → Bool}
end
section
variable {prog:Program} {w:World} {A:Around} {E:Value → Shared → Prop} {s:Shared} {kd:SortKind} {D:Keyed → Prop} {f:Keyed → Keyed → Bool}
end
section
variable {prog:Program} {w:World} {A:Around} {E:Value → Shared → Prop} {s:Shared} {kd:SortKind} {D:Keyed → Prop} {f:Keyed → Keyed → Bool} {a b:Array Keyed}
end
end L2
namespace L2
open PySem PySem.Spec PyProof.Rows PySem.W
section
variable {prog:Program} {w:World} {A:Around} {E:Value → Shared → Prop} {s:Shared} {kd:SortKind} {D:Keyed → Prop} {f:Keyed → Keyed → Bool} {a b:Array Keyed}
end
end L2
namespace L2
open PySem PySem.Spec PyProof.Rows PySem.W
section
variable {f:Keyed → Keyed → Bool}
end
section
variable {prog:Program} {w:World} {A:Around} {E:Value → Shared → Prop} {s:Shared} {kd:SortKind} {D:Keyed → Prop} {f:Keyed → Keyed → Bool} {st0:SortSt} {lo nrem:Nat}
end
end L2
namespace L2
open PySem PySem.Spec PyProof.Rows PySem.W
section
variable {f:Keyed → Keyed → Bool}
end
section
variable {prog:Program} {w:World} {A:Around} {E:Value → Shared → Prop} {s:Shared} {kd:SortKind} {D:Keyed → Prop} {f:Keyed → Keyed → Bool} {st:SortSt}
end
end L2
namespace L2
open PySem PySem.Spec PyProof.Rows PySem.W
theorem paired_getD {h:Heap}:∀ {vs:List Value} {kss:List (List Int)},PySem.Paired (TupK h) vs kss → ∀ i,i < vs.length → TupK h (vs.getD i Value.none) (kss.getD i [])
  | _,_,.nil,i,z=>by simp at z
  | _,_,.cons r t,0,_=>r
  | _,_,.cons r t,i + 1,z=>paired_getD t i (by simpa using z)
section
variable {prog:Program} {w:World} {A:Around} {E:Value → Shared → Prop} {s:Shared}
open Classical in
end
end L2
namespace L2
open PySem PySem.Spec PyProof.Rows PySem.W
abbrev Keeps (h h':Heap):Prop:=∀ b o,h.get? b = some o → h'.get? b = some o
section
variable {prog:Program} {w:World} {A:Around} {E:Value → Shared → Prop} {s:Shared}
end
end L2
namespace L2
open PySem PySem.SetTable
def adv (m:Nat) (p:Probe):Probe :=
  if p.more > 0 then { p with j:=p.j + 1,more:=p.more - 1 } else
  { p with j:=(leap m p.i p.perturb).1,more:=runEnd m (leap m p.i p.perturb).1 - (leap m p.i p.perturb).1,i:=(leap m p.i p.perturb).1,perturb:=(leap m p.i p.perturb).2 }
theorem advance_eq (t:SetTable) (p:Probe):t.advance p = adv t.mask p:=rfl
def at0 (m i e:Nat):Probe:={ j:=i,more:=runEnd m i - i,i:=i,perturb:=e,dummy:=none }
def stp (m:Nat) (h:Int):Nat → Probe
  | 0=>at0 m (bits h % (m + 1)) (bits h)
  | k + 1=>adv m (stp m h k)
theorem start_eq (t:SetTable) (h:Int):t.probeStart h = stp t.mask h 0:=rfl
theorem stp_dummy (m:Nat) (h:Int):∀ k,(stp m h k).dummy = none
  | 0=>rfl
  | k + 1=>by
    have:=stp_dummy m h k
    simp only [stp,adv]
    split <;> simpa using this
def lp (m:Nat) (h:Int):Nat → Nat × Nat
  | 0=>(bits h % (m + 1),bits h)
  | L + 1=>leap m (lp m h L).1 (lp m h L).2
theorem run_in {m:Nat} {h:Int} {k i e:Nat} (h0:stp m h k = at0 m i e):∀ r,r ≤ runEnd m i - i → stp m h (k + r) = { j:=i + r,more:=runEnd m i - i - r,i:=i,perturb:=e,dummy:=none }
  | 0,_=>h0
  | r + 1,hr=>by
    have ih:=run_in h0 r (by lia)
    show adv m (stp m h (k + r)) = _
    rw [ih]
    unfold adv
    rw [if_pos (show runEnd m i - i - r > 0 by lia)]
    simp only [Probe.mk.injEq,true_and,and_true]
    lia
theorem run_on {m:Nat} {h:Int} {k i e:Nat} (h0:stp m h k = at0 m i e):stp m h (k + (runEnd m i - i) + 1) = at0 m (leap m i e).1 (leap m i e).2:=by
  have ih:=run_in h0 (runEnd m i - i) (Nat.le_refl _)
  show adv m (stp m h (k + (runEnd m i - i))) = _
  rw [ih]
  unfold adv
  rw [if_neg (show ¬ runEnd m i - i - (runEnd m i - i) > 0 by lia)]
  rfl
theorem run_len (m i:Nat):runEnd m i - i ≤ 9:=by unfold runEnd; split <;> lia
theorem run_at (m:Nat) (h:Int):∀ L,∃ k,k ≤ 10 * L ∧ stp m h k = at0 m (lp m h L).1 (lp m h L).2
  | 0=>⟨0,Nat.le_refl _,rfl⟩
  | L + 1=>by
    obtain ⟨k,hk,e⟩:=run_at m h L
    have:=run_len m (lp m h L).1
    exact ⟨_,by lia,run_on e⟩
def lcg (M i:Nat):Nat:=(i * 5 + 1) % M
def itn (M:Nat):Nat → Nat → Nat
  | 0,i=>i
  | n + 1,i=>lcg M (itn M n i)
theorem itn_add (M:Nat) (i:Nat):∀ a b,itn M (b + a) i = itn M b (itn M a i)
  | a,0=>by rw [Nat.zero_add]; rfl
  | a,b + 1=>by
    rw [show b + 1 + a = (b + a) + 1 by lia]
    show lcg M (itn M (b + a) i) = lcg M (itn M b (itn M a i))
    rw [itn_add M i a b]
structure Full (m:Nat):Prop where
  all:∀ q,q ≤ m → ∃ b,b ≤ m ∧ itn (m + 1) b 0 = q
  back:itn (m + 1) (m + 1) 0 = 0
theorem Full.go {m:Nat} (F:Full m) {i q:Nat} (hi:i ≤ m) (hq:q ≤ m):∃ b,b ≤ m ∧ itn (m + 1) b i = q:=by
  obtain ⟨x,hx,rfl⟩:=F.all i hi
  obtain ⟨y,hy,rfl⟩:=F.all q hq
  by_cases c:x ≤ y
  · exact ⟨y - x,by lia,by rw [← itn_add,show y - x + x = y by lia]⟩
  · refine ⟨y + (m + 1) - x,by lia,?_⟩
    rw [← itn_add,show y + (m + 1) - x + x = y + (m + 1) by lia,itn_add,F.back]
theorem lp_pert (m:Nat) (h:Int):∀ L,(lp m h L).2 = bits h / 32 ^ L
  | 0=>by simp [lp]
  | L + 1=>by
    show (lp m h L).2 / 32 = _
    rw [lp_pert m h L,Nat.div_div_eq_div_mul,Nat.pow_succ]
theorem bits_lt (h:Int):bits h < 18446744073709551616:=by
  unfold bits
  have:=Int.emod_lt_of_pos h (show (0:Int) < 2 ^ 64 by decide)
  have:=Int.emod_nonneg h (show (2 ^ 64:Int) ≠ 0 by decide)
  lia
theorem lp_le (m:Nat) (h:Int):∀ L,(lp m h L).1 ≤ m
  | 0=>by
    have:=Nat.mod_lt (bits h) (show 0 < m + 1 by lia)
    show bits h % (m + 1) ≤ m
    lia
  | L + 1=>by
    show ((lp m h L).1 * 5 + 1 + (lp m h L).2 / 32) % (m + 1) ≤ m
    have:=Nat.mod_lt ((lp m h L).1 * 5 + 1 + (lp m h L).2 / 32) (show 0 < m + 1 by lia)
    lia
theorem lp_late (m:Nat) (h:Int):∀ b,(lp m h (12 + b)).1 = itn (m + 1) b (lp m h 12).1
  | 0=>rfl
  | b + 1=>by
    have ih:=lp_late m h b
    show ((lp m h (12 + b)).1 * 5 + 1 + (lp m h (12 + b)).2 / 32) % (m + 1) = lcg (m + 1) (itn (m + 1) b (lp m h 12).1)
    rw [← ih]
    have hb:=bits_lt h
    have z:(lp m h (12 + b)).2 / 32 = 0:=by
      rw [lp_pert,Nat.div_div_eq_div_mul]
      apply Nat.div_eq_of_lt
      have:(32:Nat) ^ (12 + b) = 32 ^ 12 * 32 ^ b:=Nat.pow_add ..
      rw [this]
      have p1:1 ≤ 32 ^ b:=Nat.one_le_pow _ _ (by decide)
      have:(32:Nat) ^ 12 * 1 ≤ 32 ^ 12 * 32 ^ b:=Nat.mul_le_mul_left _ p1
      have e12:(32:Nat) ^ 12 = 1152921504606846976:=by decide
      lia
    rw [z]
    rfl
theorem Full.lp {m:Nat} (F:Full m) (h:Int) {q:Nat} (hq:q ≤ m):∃ L,L ≤ m + 12 ∧ (lp m h L).1 = q:=by
  obtain ⟨b,hb,e⟩:=F.go (lp_le m h 12) hq
  exact ⟨12 + b,by lia,by rw [lp_late,e]⟩
theorem Full.walk {m:Nat} (F:Full m) (h:Int) {q:Nat} (hq:q ≤ m):∃ k,k ≤ 10 * (m + 12) ∧ (stp m h k).j = q:=by
  obtain ⟨L,hL,e⟩:=F.lp h hq
  obtain ⟨k,hk,e2⟩:=run_at m h L
  exact ⟨k,by lia,by rw [e2]; exact e⟩
theorem stp_le (m:Nat) (h:Int) (k:Nat):(stp m h k).j ≤ m:=by
  have key:∀ k,(stp m h k).i ≤ m ∧ (stp m h k).j + (stp m h k).more ≤ m:=by
    intro k
    induction k with
    | zero =>
      have:=Nat.mod_lt (bits h) (show 0 < m + 1 by lia)
      refine ⟨by show bits h % (m + 1) ≤ m; lia,?_⟩
      show bits h % (m + 1) + (runEnd m (bits h % (m + 1)) - bits h % (m + 1)) ≤ m
      unfold runEnd
      split <;> lia
    | succ k ih =>
      obtain ⟨h1,h2⟩:=ih
      show (adv m (stp m h k)).i ≤ m ∧ (adv m (stp m h k)).j + (adv m (stp m h k)).more ≤ m
      unfold adv
      split
      · exact ⟨h1,by simp only; lia⟩
      · have:=Nat.mod_lt ((stp m h k).i * 5 + 1 + (stp m h k).perturb / 32) (show 0 < m + 1 by lia)
        have e:(leap m (stp m h k).i (stp m h k).perturb).1 = ((stp m h k).i * 5 + 1 + (stp m h k).perturb / 32) % (m + 1):=rfl
        simp only [e]
        refine ⟨by lia,?_⟩
        unfold runEnd
        split <;> lia
  have:=(key k).2
  lia
def chk (m:Nat):Bool:=(List.range (m + 1)).all (fun q=>(List.range (m + 1)).any fun b=>itn (m + 1) b 0 == q) && itn (m + 1) (m + 1) 0 == 0
theorem full_of {m:Nat} (h:chk m = true):Full m:=by
  unfold chk at h
  rw [Bool.and_eq_true] at h
  obtain ⟨h1,h2⟩:=h
  refine ⟨fun q hq=>?_,by simpa using h2⟩
  have:=List.all_eq_true.mp h1 q (List.mem_range.mpr (by lia))
  obtain ⟨b,hb,e⟩:=List.any_eq_true.mp this
  exact ⟨b,by have:=List.mem_range.mp hb; lia,by simpa using e⟩
theorem full7:Full 7:=full_of (by decide +kernel)
theorem full31:Full 31:=full_of (by decide +kernel)
end L2
namespace L2
open PySem PySem.SetTable
def S5:Nat → Nat
  | 0=>0
  | n + 1=>5 * S5 n + 1
theorem S5_add (a b:Nat):S5 (a + b) = 5 ^ b * S5 a + S5 b:=by
  induction b with
  | zero=>simp [S5]
  | succ b ih =>
    rw [← Nat.add_assoc]
    show 5 * S5 (a + b) + 1 = 5 ^ (b + 1) * S5 a + (5 * S5 b + 1)
    rw [ih,Nat.pow_succ]
    grind
theorem p5 (e:Nat):∃ q,5 ^ e + 1 = 2 * (2 * q + 1):=by
  induction e with
  | zero=>exact ⟨0,rfl⟩
  | succ e ih =>
    obtain ⟨q,hq⟩:=ih
    refine ⟨5 * q + 1,?_⟩
    rw [Nat.pow_succ]
    lia
theorem S5_two (e:Nat):S5 (2 * e) = (5 ^ e + 1) * S5 e:=by
  rw [show 2 * e = e + e by lia,S5_add]
  grind
theorem S5_odd (e:Nat):S5 (2 * e + 1) % 2 = 1:=by
  show (5 * S5 (2 * e) + 1) % 2 = 1
  obtain ⟨q,hq⟩:=p5 e
  rw [S5_two,hq,Nat.mul_assoc]
  lia
theorem S5_dvd:∀ (k d:Nat),2 ^ k ∣ S5 d → 2 ^ k ∣ d
  | 0,d,_=>by simp
  | k + 1,d,h=>by
    have hev:d % 2 = 0:=by
      apply Nat.eq_zero_of_not_pos
      intro z
      have hd:d = 2 * (d / 2) + 1:=by lia
      have h2:2 ∣ S5 d:=Nat.dvd_trans ⟨2 ^ k,by rw [Nat.pow_succ]; lia⟩ h
      rw [hd] at h2
      have:=S5_odd (d / 2)
      lia
    obtain ⟨e,rfl⟩:∃ e,d = 2 * e:=⟨d / 2,by lia⟩
    obtain ⟨q,hq⟩:=p5 e
    rw [S5_two,hq,Nat.pow_succ,Nat.mul_comm (2 ^ k),Nat.mul_assoc] at h
    have h3:=Nat.dvd_of_mul_dvd_mul_left (by decide) h
    have co:Nat.Coprime (2 ^ k) (2 * q + 1):=Nat.Coprime.pow_left _ (by
      unfold Nat.Coprime
      rw [Nat.gcd_rec]
      simp [Nat.add_mod])
    have h4:=S5_dvd k e (co.dvd_of_dvd_mul_left h3)
    rw [Nat.pow_succ,Nat.mul_comm]
    exact Nat.mul_dvd_mul_left 2 h4
theorem S5_pow:∀ k,2 ^ k ∣ S5 (2 ^ k)
  | 0=>by simp
  | k + 1=>by
    obtain ⟨q,hq⟩:=p5 (2 ^ k)
    rw [Nat.pow_succ,Nat.mul_comm (2 ^ k) 2,S5_two,hq,Nat.mul_assoc]
    exact Nat.mul_dvd_mul_left 2 (Nat.dvd_trans (S5_pow k) (Nat.dvd_mul_left _ _))
theorem itn_S5 (M:Nat):∀ b,itn M b 0 % M = S5 b % M
  | 0=>rfl
  | b + 1=>by
    show (itn M b 0 * 5 + 1) % M % M = (5 * S5 b + 1) % M
    rw [Nat.mod_mod,Nat.add_mod,Nat.mul_mod,itn_S5 M b,← Nat.mul_mod,← Nat.add_mod,Nat.mul_comm]
theorem itn_lt {M:Nat} (hM:0 < M):∀ b,itn M b 0 < M
  | 0=>hM
  | b + 1=>Nat.mod_lt _ hM
theorem S5_inj {k a b:Nat} (hab:a ≤ b) (hb:b < 2 ^ k) (h:S5 a % 2 ^ k = S5 b % 2 ^ k):a = b:=by
  obtain ⟨d,rfl⟩:∃ d,b = d + a:=⟨b - a,by lia⟩
  rw [S5_add] at h
  have h1:2 ^ k ∣ 5 ^ a * S5 d:=by
    have:=Nat.sub_mod_eq_zero_of_mod_eq h.symm
    rw [Nat.add_sub_cancel] at this
    exact Nat.dvd_of_mod_eq_zero this
  have co:Nat.Coprime (2 ^ k) (5 ^ a):=Nat.Coprime.pow _ _ (by decide)
  have h2:=S5_dvd k d (co.dvd_of_dvd_mul_left h1)
  have:d = 0:=Nat.eq_zero_of_dvd_of_lt h2 (by lia)
  lia
theorem nodup_all:∀ {n:Nat} {l:List Nat},l.Nodup → (∀ x ∈ l,x < n) → l.length = n → ∀ q,q < n → q ∈ l:=fun {n l} h1 h2 h3 q hq=>by
  have hp:l.Perm (List.range n):=by
    have sub:∀ (l r:List Nat),l.Nodup → (∀ x ∈ l,x ∈ r) → ∃ r',(l ++ r').Perm r:=by
      intro l
      induction l with
      | nil=>exact fun r _ _=>⟨r,List.Perm.refl _⟩
      | cons a l ih =>
        intro r hn hs
        have ha:=hs a List.mem_cons_self
        obtain ⟨r',hr'⟩:=ih (r.erase a) (List.nodup_cons.mp hn).2 (fun x hx=>by
          have:x ≠ a:=fun z=>(List.nodup_cons.mp hn).1 (z ▸ hx)
          exact (List.mem_erase_of_ne this).mpr (hs x (List.mem_cons_of_mem _ hx)))
        exact ⟨r',(hr'.cons a).trans (List.perm_cons_erase ha).symm⟩
    obtain ⟨r',hr'⟩:=sub l (List.range n) h1 fun x hx=>List.mem_range.mpr (h2 x hx)
    have:=hr'.length_eq
    rw [List.length_append,List.length_range] at this
    have:r' = []:=List.eq_nil_of_length_eq_zero (by lia)
    rw [this,List.append_nil] at hr'
    exact hr'
  exact hp.mem_iff.mpr (List.mem_range.mpr hq)
theorem full_pow (k m:Nat) (hm:m + 1 = 2 ^ k):Full m:=by
  have hM:0 < 2 ^ k:=by lia
  have red:∀ b,itn (2 ^ k) b 0 = S5 b % 2 ^ k:=fun b=>by
    have:=itn_S5 (2 ^ k) b
    rwa [Nat.mod_eq_of_lt (itn_lt hM b)] at this
  refine ⟨fun q hq=>?_,?_⟩
  · have hnd:((List.range (2 ^ k)).map fun b=>itn (2 ^ k) b 0).Nodup:=by
      refine List.pairwise_map.mpr (List.pairwise_iff_getElem.mpr fun i j hi hj hij z=>?_)
      rw [List.length_range] at hi hj
      rw [List.getElem_range,List.getElem_range,red,red] at z
      have:=S5_inj (Nat.le_of_lt hij) hj z
      lia
    have:=nodup_all hnd (fun x hx=>by
      obtain ⟨b,_,rfl⟩:=List.mem_map.mp hx
      exact itn_lt hM b) (by simp) q (by lia)
    obtain ⟨b,hb,e⟩:=List.mem_map.mp this
    have:=List.mem_range.mp hb
    exact ⟨b,by lia,by rw [hm]; exact e⟩
  · rw [hm,red]
    exact Nat.mod_eq_zero_of_dvd (S5_pow k)
theorem full127:Full 127:=full_pow 7 127 (by decide)
theorem full511:Full 511:=full_pow 9 511 (by decide)
theorem full2047:Full 2047:=full_pow 11 2047 (by decide)
theorem full8191:Full 8191:=full_pow 13 8191 (by decide)
def Rise (xs:Array Nat):Prop:=∀ i j,i < j → j < xs.size → xs.getD i 0 < xs.getD j 0
theorem getD_some {xs:Array Nat} {i d:Nat} (h:i < xs.size):xs[i]? = some (xs.getD i d):=by
  simp [Array.getD,h]
theorem below_go {xs:Array Nat} {j:Nat} (hr:Rise xs):∀ (fu lo hi:Nat),lo ≤ hi → hi ≤ xs.size → hi - lo ≤ fu → (∀ i,i < lo → xs.getD i 0 < j) → (∀ i,hi ≤ i → i < xs.size → j ≤ xs.getD i 0) →
    (∀ i,i < below.go xs j fu lo hi → xs.getD i 0 < j) ∧ (∀ i,below.go xs j fu lo hi ≤ i → i < xs.size → j ≤ xs.getD i 0) ∧ below.go xs j fu lo hi ≤ xs.size
  | 0,lo,hi,h1,h2,h3,h4,h5=>by
    have:lo = hi:=by lia
    subst this
    exact ⟨h4,h5,h2⟩
  | fu + 1,lo,hi,h1,h2,h3,h4,h5=>by
    unfold below.go
    by_cases c:lo < hi
    · rw [if_pos c]
      dsimp only
      have hm:(lo + hi) / 2 < xs.size:=by lia
      have e:xs.getD ((lo + hi) / 2) j = xs.getD ((lo + hi) / 2) 0:=by simp [Array.getD,hm]
      rw [e]
      by_cases d:xs.getD ((lo + hi) / 2) 0 < j
      · rw [if_pos d]
        refine below_go hr fu _ hi (by lia) h2 (by lia) (fun i hi'=>?_) h5
        by_cases q:i = (lo + hi) / 2
        · subst q; exact d
        · exact Nat.lt_trans (hr i ((lo + hi) / 2) (by lia) hm) d
      · rw [if_neg d]
        refine below_go hr fu lo _ (by lia) (by lia) (by lia) h4 fun i hi' hlt=>?_
        by_cases q:i = (lo + hi) / 2
        · subst q; lia
        · have:=hr ((lo + hi) / 2) i (by lia) hlt
          lia
    · rw [if_neg c]
      have:lo = hi:=by lia
      subst this
      exact ⟨h4,h5,h2⟩
theorem below_ok {xs:Array Nat} (hr:Rise xs) (j:Nat):(∀ i,i < below xs j → xs.getD i 0 < j) ∧ (∀ i,below xs j ≤ i → i < xs.size → j ≤ xs.getD i 0) ∧ below xs j ≤ xs.size :=
  below_go hr xs.size 0 xs.size (Nat.zero_le _) (Nat.le_refl _) (by lia) (fun i z=>absurd z (by lia)) fun i a b=>absurd b (by lia)
theorem below_at {xs:Array Nat} (hr:Rise xs) {i j:Nat} (h:xs[i]? = some j):below xs j = i:=by
  obtain ⟨h1,h2,h3⟩:=below_ok hr j
  have hi:i < xs.size:=by
    rcases Nat.lt_or_ge i xs.size with z | z
    · exact z
    · rw [Array.getElem?_eq_none z] at h; cases h
  have e:xs.getD i 0 = j:=by
    have:=getD_some (d:=0) hi
    rw [h] at this
    exact (Option.some.inj this).symm
  rcases Nat.lt_trichotomy (below xs j) i with z | z | z
  · have a:=h2 (below xs j) (Nat.le_refl _) (by lia)
    have b:=hr (below xs j) i z hi
    lia
  · exact z
  · have:=h1 i z
    lia
theorem rise_inj {xs:Array Nat} (hr:Rise xs) {i i' j:Nat} (h:xs[i]? = some j) (h':xs[i']? = some j):i = i':=(below_at hr h).symm.trans (below_at hr h')
structure Tab (t:SetTable) (m n:Nat):Prop where
  mask:t.mask = m
  dm:t.dummies = #[]
  size:t.place.size = n
  rise:Rise t.place
  le:∀ i j:Nat,t.place[i]? = some j → j ≤ m
def Fl (t:SetTable) (j:Nat):Prop:=∃ i:Nat,t.place[i]? = some j
theorem has_nil (j:Nat):has #[] j = false:=by simp [has]
section
variable {t:SetTable} {m n:Nat}
theorem Tab.live (T:Tab t m n) {i j:Nat} (h:t.place[i]? = some j):t.slot j = .live i:=by
  unfold slot
  have e:=below_at T.rise h
  simp only [e,h,beq_self_eq_true,if_true]
theorem Tab.empty (T:Tab t m n) {j:Nat} (h:¬ Fl t j):t.slot j = .empty:=by
  unfold slot
  have e:(t.place[below t.place j]? == some j) = false:=by
    rw [Bool.eq_false_iff]
    intro z
    exact h ⟨_,by simpa using z⟩
  simp only [e,T.dm,has_nil,Bool.false_eq_true,if_false]
theorem Tab.free (T:Tab t m n) (hn:n ≤ m):∃ q,q ≤ m ∧ ¬ Fl t q:=by
  refine Classical.byContradiction fun hc=>?_
  have all:∀ q,q ≤ m → Fl t q:=fun q hq=>Classical.byContradiction fun z=>hc ⟨q,hq,z⟩
  have sub:List.range (m + 1) ⊆ t.place.toList:=fun q hq=>by
    obtain ⟨i,e⟩:=all q (by have:=List.mem_range.mp hq; lia)
    exact List.mem_of_getElem? (by rw [Array.getElem?_toList]; exact e)
  have:=List.Nodup.length_le_of_subset List.nodup_range sub
  rw [List.length_range,Array.length_toList,T.size] at this
  lia
theorem Tab.probe_go (T:Tab t m n) {hashAt:Nat → Int} {h:Int} {K:Nat} (hK:¬ Fl t (stp m h K).j):∀ (fu k:Nat),k ≤ K → K - k < fu →
    ∃ x,k ≤ x ∧ x ≤ K ∧ (∀ l,k ≤ l → l < x → ∃ i:Nat,t.place[i]? = some (stp m h l).j ∧ hashAt i ≠ h) ∧
      ((¬ Fl t (stp m h x).j ∧ probe.go t hashAt h fu (stp m h k) = some (.empty (stp m h x).j none)) ∨
        ∃ i:Nat,t.place[i]? = some (stp m h x).j ∧ hashAt i = h ∧ probe.go t hashAt h fu (stp m h k) = some (.candidate (stp m h x).j i (stp m h (x + 1))))
  | 0,k,_,z=>absurd z (by lia)
  | fu + 1,k,hk,hf=>by
    unfold probe.go
    by_cases c:Fl t (stp m h k).j
    · obtain ⟨i,e⟩:=id c
      rw [T.live e]
      dsimp only
      have adv1:t.advance (stp m h k) = stp m h (k + 1):=by rw [advance_eq,T.mask]; rfl
      by_cases d:hashAt i = h
      · refine ⟨k,Nat.le_refl _,hk,fun l a b=>absurd b (by lia),.inr ⟨i,e,d,?_⟩⟩
        rw [if_pos (by rw [d]; exact beq_self_eq_true _),adv1]
      · rw [if_neg (by simpa using d),adv1]
        have hne:k ≠ K:=fun z=>hK (z ▸ c)
        obtain ⟨x,x1,x2,x3,x4⟩:=T.probe_go hK fu (k + 1) (by lia) (by lia)
        refine ⟨x,by lia,x2,fun l a b=>?_,x4⟩
        by_cases q:l = k
        · subst q; exact ⟨i,e,d⟩
        · exact x3 l (by lia) b
    · rw [T.empty c]
      dsimp only
      exact ⟨k,Nat.le_refl _,hk,fun l a b=>absurd b (by lia),.inl ⟨c,by rw [stp_dummy]⟩⟩
end
theorem tins_get {α:Type} {xs:Array α} {p:Nat} {x:α} (hp:p ≤ xs.size) (i:Nat):(insertAt xs p x)[i]? = if i < p then xs[i]? else if i = p then some x else xs[i - 1]?:=by
  unfold insertAt
  have s1:((xs.extract 0 p).push x).size = p + 1:=by simp [Array.size_push,Array.size_extract]; lia
  have s0:(xs.extract 0 p).size = p:=by simp [Array.size_extract]; lia
  rw [Array.getElem?_append,s1]
  by_cases c:i < p
  · rw [if_pos (by lia),if_pos c,Array.getElem?_push,s0,if_neg (by lia),Array.getElem?_extract,if_pos (by lia),Nat.zero_add]
  · rw [if_neg c]
    by_cases d:i = p
    · subst d
      rw [if_pos (by lia),if_pos rfl,Array.getElem?_push,s0,if_pos rfl]
    · rw [if_neg d,if_neg (by lia),Array.getElem?_extract]
      by_cases e:i - 1 < xs.size
      · rw [if_pos (by lia)]
        congr 1
        lia
      · rw [if_neg (by lia),Array.getElem?_eq_none (by lia)]
theorem ins_size {α:Type} {xs:Array α} {p:Nat} {x:α} (hp:p ≤ xs.size):(insertAt xs p x).size = xs.size + 1:=by
  unfold insertAt
  simp [Array.size_extract]
  lia
def AtS {α:Type} (place:Array Nat) (es:Array α) (j:Nat) (e:α):Prop:=∃ i:Nat,place[i]? = some j ∧ es[i]? = some e
theorem ins_at {α:Type} {place:Array Nat} {es:Array α} {p j j':Nat} {e e':α} (hp:p ≤ place.size) (hq:p ≤ es.size):AtS (insertAt place p j) (insertAt es p e) j' e' ↔ AtS place es j' e' ∨ (j' = j ∧ e' = e):=by
  constructor
  · rintro ⟨i,h1,h2⟩
    rw [tins_get hp] at h1
    rw [tins_get hq] at h2
    by_cases c:i < p
    · rw [if_pos c] at h1 h2
      exact .inl ⟨i,h1,h2⟩
    · rw [if_neg c] at h1 h2
      by_cases d:i = p
      · rw [if_pos d] at h1 h2
        exact .inr ⟨(Option.some.inj h1).symm,(Option.some.inj h2).symm⟩
      · rw [if_neg d] at h1 h2
        exact .inl ⟨i - 1,h1,h2⟩
  · rintro (⟨i,h1,h2⟩ | ⟨rfl,rfl⟩)
    · by_cases c:i < p
      · exact ⟨i,by rw [tins_get hp,if_pos c]; exact h1,by rw [tins_get hq,if_pos c]; exact h2⟩
      · exact ⟨i + 1,by rw [tins_get hp,if_neg (by lia),if_neg (by lia)]; exact h1,by rw [tins_get hq,if_neg (by lia),if_neg (by lia)]; exact h2⟩
    · exact ⟨p,by rw [tins_get hp,if_neg (by lia),if_pos rfl],by rw [tins_get hq,if_neg (by lia),if_pos rfl]⟩
theorem rise_ins {xs:Array Nat} (hr:Rise xs) {j:Nat} (hj:¬ ∃ i:Nat,xs[i]? = some j):Rise (insertAt xs (below xs j) j):=by
  obtain ⟨h1,h2,h3⟩:=below_ok hr j
  have val:∀ i,i < xs.size + 1 → (insertAt xs (below xs j) j).getD i 0 = if i < below xs j then xs.getD i 0 else if i = below xs j then j else xs.getD (i - 1) 0:=fun i hi=>by
    have e:=tins_get (x:=j) h3 i
    simp only [Array.getD_eq_getD_getElem?,e]
    split
    · rfl
    · split <;> rfl
  have gt:∀ i,below xs j ≤ i → i < xs.size → j < xs.getD i 0:=fun i a b=>by
    have:=h2 i a b
    have ne:xs.getD i 0 ≠ j:=fun z=>hj ⟨i,by rw [getD_some (d:=0) b,z]⟩
    lia
  intro a b hab hb
  rw [ins_size h3] at hb
  rw [val a (by lia),val b hb]
  by_cases b1:b < below xs j
  · rw [if_pos b1,if_pos (by lia)]
    exact hr a b hab (by lia)
  · rw [if_neg b1]
    by_cases b2:b = below xs j
    · rw [if_pos b2,if_pos (by lia)]
      exact h1 a (by lia)
    · rw [if_neg b2]
      by_cases a1:a < below xs j
      · rw [if_pos a1]
        exact hr a (b - 1) (by lia) (by lia)
      · rw [if_neg a1]
        by_cases a2:a = below xs j
        · rw [if_pos a2]
          exact gt (b - 1) (by lia) (by lia)
        · rw [if_neg a2]
          exact hr (a - 1) (b - 1) (by lia) (by lia)
theorem Tab.put {t:SetTable} {m n:Nat} (T:Tab t m n) {j:Nat} (hj:¬ Fl t j) (hm:j ≤ m):Tab (t.put j).1 m (n + 1) ∧ (t.put j).2 = below t.place j ∧ (t.put j).1.place = insertAt t.place (below t.place j) j:=by
  obtain ⟨h1,h2,h3⟩:=below_ok T.rise j
  refine ⟨⟨T.mask,?_,?_,rise_ins T.rise hj,fun i j' e=>?_⟩,rfl,rfl⟩
  · show (if has t.dummies j = true then _ else t.dummies) = #[]
    rw [T.dm,has_nil,if_neg (by simp)]
  · show (insertAt t.place (below t.place j) j).size = n + 1
    rw [ins_size h3,T.size]
  · have e:(insertAt t.place (below t.place j) j)[i]? = some j':=e
    rw [tins_get h3] at e
    split at e
    · exact T.le _ _ e
    · split at e
      · rw [← Option.some.inj e]; exact hm
      · exact T.le _ _ e
end L2
namespace L2
open PySem PySem.SetTable
def Rch (fl:Nat → Prop) (m:Nat) (h:Int) (j:Nat):Prop:=∃ k,(stp m h k).j = j ∧ ∀ l,l < k → fl (stp m h l).j
theorem Rch.mono {fl fl':Nat → Prop} {m:Nat} {h:Int} {j:Nat} (f:∀ q,fl q → fl' q) (r:Rch fl m h j):Rch fl' m h j:=by
  obtain ⟨k,e,a⟩:=r
  exact ⟨k,e,fun l hl=>f _ (a l hl)⟩
structure SetI {α:Type} (t:SetTable) (es:Array (Int × α)) (m n:Nat):Prop where
  tab:Tab t m n
  sz:es.size = n
  rch:∀ (j:Nat) (e:Int × α),AtS t.place es j e → Rch (Fl t) m e.1 j
def fO (owner:Array (Option Nat)) (j:Nat):Prop:=(owner.getD j (some 0)).isSome = true
theorem free_ok {m:Nat} {owner:Array (Option Nat)} {h:Int}:∀ (fu L k0:Nat),stp m h k0 = at0 m (lp m h L).1 (lp m h L).2 → (∀ l,l < k0 → fO owner (stp m h l).j) → (∃ L',L ≤ L' ∧ L' < L + fu ∧ ¬ fO owner (lp m h L').1) →
    ∃ j,layClean.free m owner fu (lp m h L).1 (lp m h L).2 = some j ∧ ¬ fO owner j ∧ Rch (fO owner) m h j
  | 0,L,k0,_,_,⟨L',a,b,_⟩=>absurd b (by lia)
  | fu + 1,L,k0,hk,hf,⟨L',a,b,c⟩=>by
    unfold layClean.free
    have ri:=run_in hk
    cases hfind:(List.range (runEnd m (lp m h L).1 + 1 - (lp m h L).1)).find? fun k=>(owner.getD ((lp m h L).1 + k) (some 0)).isNone with
    | some kk =>
      obtain ⟨p1,p2,p3⟩:=List.find?_range_eq_some.mp hfind
      have hkk:=List.mem_range.mp p2
      refine ⟨(lp m h L).1 + kk,rfl,fun z=>?_,k0 + kk,by rw [ri kk (by lia)],fun l hl=>?_⟩
      · unfold fO at z
        rw [Option.isNone_iff_eq_none.mp p1] at z
        cases z
      · by_cases d:l < k0
        · exact hf l d
        · obtain ⟨r,rfl⟩:∃ r,l = k0 + r:=⟨l - k0,by lia⟩
          rw [ri r (by lia)]
          have:=p3 r (by lia)
          unfold fO
          rw [Bool.not_eq_true',Option.isNone_eq_false_iff] at this
          exact this
    | none =>
      have pn:=List.find?_eq_none.mp hfind
      have fil:∀ r,r ≤ runEnd m (lp m h L).1 - (lp m h L).1 → fO owner ((lp m h L).1 + r):=fun r hr=>by
        have hge:(lp m h L).1 ≤ runEnd m (lp m h L).1:=by unfold runEnd; split <;> lia
        have:=pn r (List.mem_range.mpr (by lia))
        unfold fO
        rw [Bool.not_eq_true,Option.isNone_eq_false_iff] at this
        exact this
      have hne:L' ≠ L:=by
        rintro rfl
        exact c (by simpa using fil 0 (Nat.zero_le _))
      refine free_ok fu (L + 1) (k0 + (runEnd m (lp m h L).1 - (lp m h L).1) + 1) (run_on hk) (fun l hl=>?_) ⟨L',by lia,by lia,c⟩
      by_cases d:l < k0
      · exact hf l d
      · obtain ⟨r,rfl⟩:∃ r,l = k0 + r:=⟨l - k0,by lia⟩
        rw [ri r (by lia)]
        exact fil r (by lia)
structure OW (m:Nat) (hs:Nat → Int) (owner:Array (Option Nat)) (k:Nat):Prop where
  sz:owner.size = m + 1
  own:∀ j i:Nat,owner[j]? = some (some i) → i < k ∧ Rch (fO owner) m (hs i) j
  ex:∀ i,i < k → ∃ j:Nat,owner[j]? = some (some i)
  inj:∀ j j' i:Nat,owner[j]? = some (some i) → owner[j']? = some (some i) → j = j'
def idxs (m:Nat) (owner:Array (Option Nat)):List Nat:=(List.range (m + 1)).filterMap fun j=>owner.getD j none
theorem own_get {owner:Array (Option Nat)} {j i:Nat}:owner.getD j none = some i ↔ owner[j]? = some (some i):=by
  rw [Array.getD_eq_getD_getElem?]
  cases owner[j]? with
  | none=>simp
  | some o=>simp
theorem OW.nodup {m k:Nat} {hs:Nat → Int} {owner:Array (Option Nat)} (W:OW m hs owner k):(idxs m owner).Nodup:=by
  refine List.Pairwise.filterMap _ (fun a a' hne b e b' e' z=>?_) List.nodup_range
  subst z
  exact hne (W.inj _ _ _ (own_get.mp e) (own_get.mp e'))
theorem OW.len {m k:Nat} {hs:Nat → Int} {owner:Array (Option Nat)} (W:OW m hs owner k):(idxs m owner).length = k:=by
  apply Nat.le_antisymm
  · have sub:idxs m owner ⊆ List.range k:=fun i hi=>by
      obtain ⟨j,_,e⟩:=List.mem_filterMap.mp hi
      exact List.mem_range.mpr (W.own j i (own_get.mp e)).1
    have:=List.Nodup.length_le_of_subset W.nodup sub
    rwa [List.length_range] at this
  · have sub:List.range k ⊆ idxs m owner:=fun i hi=>by
      obtain ⟨j,e⟩:=W.ex i (List.mem_range.mp hi)
      have hj:j < owner.size:=by
        rcases Nat.lt_or_ge j owner.size with z | z
        · exact z
        · rw [Array.getElem?_eq_none z] at e; cases e
      exact List.mem_filterMap.mpr ⟨j,List.mem_range.mpr (by rw [W.sz] at hj; exact hj),own_get.mpr e⟩
    have:=List.Nodup.length_le_of_subset List.nodup_range sub
    rwa [List.length_range] at this
theorem OW.free {m k:Nat} {hs:Nat → Int} {owner:Array (Option Nat)} (W:OW m hs owner k) (hk:k ≤ m):∃ q,q ≤ m ∧ ¬ fO owner q:=by
  refine Classical.byContradiction fun hc=>?_
  have all:∀ q,q ≤ m → fO owner q:=fun q hq=>Classical.byContradiction fun z=>hc ⟨q,hq,z⟩
  have h1:=W.len
  unfold idxs at h1
  rw [List.length_filterMap_eq_countP] at h1
  have h2:List.countP (fun j=>(owner.getD j none).isSome) (List.range (m + 1)) = (List.range (m + 1)).length:=List.countP_eq_length.mpr fun j hj=>by
    have hj:=List.mem_range.mp hj
    have a:=all j (by lia)
    have hlt:j < owner.size:=by rw [W.sz]; exact hj
    unfold fO at a
    simpa [Array.getD,hlt] using a
  rw [h2,List.length_range] at h1
  lia
theorem OW.step {m k:Nat} {hs:Nat → Int} {owner:Array (Option Nat)} (W:OW m hs owner k) {j:Nat} (hj:¬ fO owner j) (hr:Rch (fO owner) m (hs k) j):OW m hs (owner.setIfInBounds j (some k)) (k + 1):=by
  have hlt:j < owner.size:=by
    rcases Nat.lt_or_ge j owner.size with z | z
    · exact z
    · refine absurd ?_ hj
      unfold fO
      simp [Array.getD,Nat.not_lt.mpr z]
  have nn:owner[j]? = some none:=by
    cases e:owner[j]? with
    | none=>rw [Array.getElem?_eq_none_iff] at e; lia
    | some o =>
      cases o with
      | none=>rfl
      | some i =>
        refine absurd ?_ hj
        unfold fO
        rw [Array.getD_eq_getD_getElem?,e]
        rfl
  have get:∀ q:Nat,(owner.setIfInBounds j (some k))[q]? = if q = j then some (some k) else owner[q]?:=fun q=>by
    rw [Array.getElem?_setIfInBounds]
    by_cases c:q = j
    · subst c; simp [hlt]
    · rw [if_neg c,if_neg (fun z=>c z.symm)]
  have up:∀ q,fO owner q → fO (owner.setIfInBounds j (some k)) q:=fun q hq=>by
    unfold fO at hq ⊢
    rw [Array.getD_eq_getD_getElem?] at hq ⊢
    rw [get]
    split
    · rfl
    · exact hq
  refine ⟨by rw [Array.size_setIfInBounds]; exact W.sz,fun q i e=>?_,fun i hi=>?_,fun q q' i e e'=>?_⟩
  · rw [get] at e
    by_cases c:q = j
    · rw [if_pos c] at e
      have:k = i:=Option.some.inj (Option.some.inj e)
      subst this
      subst c
      exact ⟨by lia,hr.mono up⟩
    · rw [if_neg c] at e
      obtain ⟨a,b⟩:=W.own q i e
      exact ⟨by lia,b.mono up⟩
  · by_cases c:i = k
    · subst c
      exact ⟨j,by rw [get,if_pos rfl]⟩
    · obtain ⟨q,e⟩:=W.ex i (by lia)
      refine ⟨q,?_⟩
      rw [get,if_neg (fun z=>by rw [z,nn] at e; cases e)]
      exact e
  · rw [get] at e e'
    by_cases c:q = j
    · rw [if_pos c] at e
      have hik:k = i:=Option.some.inj (Option.some.inj e)
      by_cases c':q' = j
      · rw [c,c']
      · rw [if_neg c'] at e'
        have:=(W.own q' i e').1
        lia
    · rw [if_neg c] at e
      by_cases c':q' = j
      · rw [if_pos c'] at e'
        have hik:k = i:=Option.some.inj (Option.some.inj e')
        have:=(W.own q i e).1
        lia
      · rw [if_neg c'] at e'
        exact W.inj q q' i e e'
theorem OW.init (m:Nat) (hs:Nat → Int):OW m hs (Array.replicate (m + 1) none) 0:=by
  have z:∀ j i:Nat,(Array.replicate (m + 1) (none:Option Nat))[j]? = some (some i) → False:=fun j i e=>by
    rw [Array.getElem?_replicate] at e
    split at e <;> simp at e
  exact ⟨by simp,fun j i e=>(z j i e).elim,fun i hi=>absurd hi (by lia),fun j j' i e=>(z j i e).elim⟩
def layStep (m:Nat) (acc:Option (Array (Option Nat) × Nat)) (h:Int):Option (Array (Option Nat) × Nat):=do
  let (owner,k) ← acc
  let j ← layClean.free m owner (turns m) (bits h % (m + 1)) (bits h)
  pure (owner.setIfInBounds j (some k),k + 1)
theorem layClean_eq (m:Nat) (hashes:Array Int):layClean m hashes = (hashes.foldl (layStep m) (some (Array.replicate (m + 1) none,0))).map (·.1):=rfl
theorem fold_ok {m:Nat} (F:Full m) {hs:Nat → Int}:∀ (l:List Int) (owner:Array (Option Nat)) (k:Nat),OW m hs owner k → (∀ i (h:Int),l[i]? = some h → hs (k + i) = h) → k + l.length ≤ m + 1 →
    ∃ owner',l.foldl (layStep m) (some (owner,k)) = some (owner',k + l.length) ∧ OW m hs owner' (k + l.length)
  | [],owner,k,W,_,_=>⟨owner,rfl,W⟩
  | h :: l,owner,k,W,hl,hk=>by
    simp only [List.length_cons] at hk ⊢
    obtain ⟨q,hq,hq2⟩:=W.free (by lia)
    obtain ⟨L',a,b⟩:=F.lp h hq
    obtain ⟨j,e,j1,j2⟩:=free_ok (m:=m) (owner:=owner) (h:=h) (turns m) 0 0 rfl (fun l z=>absurd z (by lia)) ⟨L',by lia,by unfold turns; lia,by rw [b]; exact hq2⟩
    have hk0:hs k = h:=hl 0 h rfl
    have W':=W.step j1 (by rw [hk0]; exact j2)
    obtain ⟨o',e',W''⟩:=fold_ok F l _ (k + 1) W' (fun i h' e=>by rw [show k + 1 + i = k + (i + 1) by lia]; exact hl (i + 1) h' (by simpa using e)) (by lia)
    refine ⟨o',?_,by rw [show k + (l.length + 1) = k + 1 + l.length by lia]; exact W''⟩
    rw [List.foldl_cons]
    have e0:layStep m (some (owner,k)) h = some (owner.setIfInBounds j (some k),k + 1):=by
      show (layClean.free m owner (turns m) (bits h % (m + 1)) (bits h) >>= fun j=>pure (owner.setIfInBounds j (some k),k + 1)) = _
      have e:layClean.free m owner (turns m) (bits h % (m + 1)) (bits h) = some j:=e
      rw [e]
      rfl
    rw [e0,e',show k + (l.length + 1) = k + 1 + l.length by lia]
theorem fm_get {α β:Type} {f:α → Option β}:∀ {l:List α},(∀ x ∈ l,(f x).isSome = true) → ∀ i:Nat,(l.filterMap f)[i]? = l[i]?.bind f
  | [],_,i=>by simp
  | x :: l,h,i=>by
    obtain ⟨y,e⟩:=Option.isSome_iff_exists.mp (h x List.mem_cons_self)
    rw [List.filterMap_cons_some e]
    cases i with
    | zero=>simp [e]
    | succ i=>simpa using fm_get (fun z hz=>h z (List.mem_cons_of_mem _ hz)) i
theorem fm_len {α β:Type} {f:α → Option β} {l:List α} (h:∀ x ∈ l,(f x).isSome = true):(l.filterMap f).length = l.length:=by
  rw [List.length_filterMap_eq_countP,List.countP_eq_length.mpr h]
theorem laid_ok {α:Type} {m n fi mv:Nat} (F:Full m) {ld pl:Bool} {es:Array (Int × α)} (hn:es.size = n) (hm:n ≤ m + 1) :
    ∃ (t:SetTable) (order:Array Nat),laid m fi mv ld pl (es.map (·.1)) = some (t,order) ∧ t.led = ld ∧ t.plain = pl ∧ (order.filterMap (es[·]?)).size = es.size ∧ SetI t (order.filterMap (es[·]?)) m n ∧
      (∀ e,e ∈ (order.filterMap (es[·]?)).toList ↔ e ∈ es.toList) ∧
      ∀ (i i':Nat) (e e':Int × α),(order.filterMap (es[·]?))[i]? = some e → (order.filterMap (es[·]?))[i']? = some e' → (∀ y y':Nat,es[y]? = some e → es[y']? = some e' → y = y') → i = i':=by
  obtain ⟨owner,eo,W⟩:=fold_ok F (hs:=fun i=>((es.map (·.1)).getD i 0)) (es.map (·.1)).toList (Array.replicate (m + 1) none) 0 (OW.init m _) (fun i h e=>by
    rw [Nat.zero_add,Array.getD_eq_getD_getElem?,← Array.getElem?_toList,e]; rfl) (by simp; lia)
  have hlen:(es.map (·.1)).toList.length = n:=by simp [hn]
  rw [Nat.zero_add,hlen] at eo W
  have live:∃ live:List (Nat × Nat),live = (List.range (m + 1)).filterMap fun j=>(owner.getD j none).map (j,·):=⟨_,rfl⟩
  obtain ⟨live,el⟩:=live
  have lmem:∀ j i,(j,i) ∈ live ↔ owner[j]? = some (some i):=fun j i=>by
    rw [el,List.mem_filterMap]
    constructor
    · rintro ⟨q,_,e⟩
      cases o:owner.getD q none with
      | none=>rw [o] at e; cases e
      | some x =>
        rw [o] at e
        cases e
        exact own_get.mp o
    · intro e
      have hj:j < owner.size:=by
        rcases Nat.lt_or_ge j owner.size with z | z
        · exact z
        · rw [Array.getElem?_eq_none z] at e; cases e
      exact ⟨j,List.mem_range.mpr (by rw [W.sz] at hj; exact hj),by rw [own_get.mpr e]; rfl⟩
  have llen:live.length = n:=by
    have:=W.len
    unfold idxs at this
    rw [List.length_filterMap_eq_countP] at this
    rw [el,List.length_filterMap_eq_countP,← this]
    congr 1
    funext j
    cases owner.getD j none <;> rfl
  have lsort:live.Pairwise fun a b=>a.1 < b.1:=by
    rw [el]
    refine List.Pairwise.filterMap _ (fun a a' hlt b e b' e'=>?_) List.pairwise_lt_range
    cases o:owner.getD a none with
    | none=>rw [o] at e; cases e
    | some x =>
      cases o':owner.getD a' none with
      | none=>rw [o'] at e'; cases e'
      | some x' =>
        rw [o] at e; rw [o'] at e'
        cases e; cases e'
        exact hlt
  have some1:∀ x ∈ live.map (·.2),(es[x]?).isSome = true:=fun x hx=>by
    obtain ⟨⟨j,i⟩,hji,rfl⟩:=List.mem_map.mp hx
    have:=(W.own j i ((lmem j i).mp hji)).1
    simp [hn,this]
  have es':((live.map (·.2)).toArray.filterMap (es[·]?)) = ((live.map (·.2)).filterMap (es[·]?)).toArray:=by simp
  have get':∀ i:Nat,((live.map (·.2)).toArray.filterMap (es[·]?))[i]? = live[i]?.bind fun x=>es[x.2]?:=fun i=>by
    rw [es',List.getElem?_toArray,fm_get some1,List.getElem?_map]
    cases live[i]? <;> rfl
  have size':((live.map (·.2)).toArray.filterMap (es[·]?)).size = n:=by
    rw [es',List.size_toArray,fm_len some1,List.length_map,llen]
  have pget:∀ i:Nat,(live.map (·.1)).toArray[i]? = live[i]?.map (·.1):=fun i=>by rw [List.getElem?_toArray,List.getElem?_map]
  refine ⟨{ mask:=m,place:=(live.map (·.1)).toArray,dummies:=#[],finger:=fi,led:=ld,moves:=mv,plain:=pl },(live.map (·.2)).toArray,?_,rfl,rfl,by rw [size',hn],⟨⟨rfl,rfl,by simp [llen],?_,?_⟩,size',?_⟩,fun e=>?_,fun i i' e e' h1 h2 hyy=>?_⟩
  · unfold laid
    rw [layClean_eq,← Array.foldl_toList,eo,el]
    rfl
  · intro a b hab hb
    have hb':b < live.length:=by simpa using hb
    have ha':a < live.length:=by lia
    have:=List.pairwise_iff_getElem.mp lsort a b ha' hb' hab
    simpa [Array.getD,ha',hb'] using this
  · intro i j e
    rw [show ({ mask:=m,place:=(live.map (·.1)).toArray,dummies:=#[],finger:=fi,led:=ld,moves:=mv,plain:=pl }:SetTable).place[i]? = live[i]?.map (·.1) from pget i] at e
    cases o:live[i]? with
    | none=>rw [o] at e; cases e
    | some x =>
      rw [o] at e
      obtain ⟨q,y⟩:=x
      have hq:=(lmem q y).mp (List.mem_of_getElem? o)
      have:q = j:=Option.some.inj e
      subst this
      have hj:q < owner.size:=by
        rcases Nat.lt_or_ge q owner.size with z | z
        · exact z
        · rw [Array.getElem?_eq_none z] at hq; cases hq
      rw [W.sz] at hj
      lia
  · rintro j e ⟨i,h1,h2⟩
    rw [show ({ mask:=m,place:=(live.map (·.1)).toArray,dummies:=#[],finger:=fi,led:=ld,moves:=mv,plain:=pl }:SetTable).place[i]? = live[i]?.map (·.1) from pget i] at h1
    rw [get'] at h2
    cases o:live[i]? with
    | none=>rw [o] at h1; cases h1
    | some x =>
      rw [o] at h1 h2
      obtain ⟨q,y⟩:=x
      have e1:q = j:=Option.some.inj h1
      subst e1
      have h2:es[y]? = some e:=h2
      have hr:=(W.own q y ((lmem q y).mp (List.mem_of_getElem? o))).2
      have eh:((es.map (·.1)).getD y 0) = e.1:=by
        rw [Array.getD_eq_getD_getElem?,Array.getElem?_map,h2]; rfl
      rw [← eh]
      obtain ⟨k,ek,ak⟩:=hr
      refine ⟨k,ek,fun l hl=>?_⟩
      have hp:=ak l hl
      have hle:=stp_le m ((es.map (·.1)).getD y 0) l
      generalize (stp m ((es.map (·.1)).getD y 0) l).j = p at hp hle
      unfold fO at hp
      rw [Array.getD_eq_getD_getElem?] at hp
      cases oo:owner[p]? with
      | none =>
        rw [Array.getElem?_eq_none_iff,W.sz] at oo
        lia
      | some v =>
        rw [oo] at hp
        cases v with
        | none=>cases hp
        | some z =>
          obtain ⟨a,ea⟩:=List.getElem?_of_mem ((lmem p z).mpr oo)
          exact ⟨a,by rw [show ({ mask:=m,place:=(live.map (·.1)).toArray,dummies:=#[],finger:=fi,led:=ld,moves:=mv,plain:=pl }:SetTable).place[a]? = live[a]?.map (·.1) from pget a,ea]; rfl⟩
  · constructor
    · intro he
      obtain ⟨i,ei⟩:=List.getElem?_of_mem he
      rw [Array.getElem?_toList,get'] at ei
      cases o:live[i]? with
      | none=>rw [o] at ei; cases ei
      | some x =>
        rw [o] at ei
        exact List.mem_of_getElem? (by rw [Array.getElem?_toList]; exact ei)
    · intro he
      obtain ⟨y,ey⟩:=List.getElem?_of_mem he
      rw [Array.getElem?_toList] at ey
      have hy:y < n:=by
        rcases Nat.lt_or_ge y es.size with z | z
        · lia
        · rw [Array.getElem?_eq_none z] at ey; cases ey
      obtain ⟨j,ej⟩:=W.ex y hy
      obtain ⟨i,ei⟩:=List.getElem?_of_mem ((lmem j y).mpr ej)
      refine List.mem_of_getElem? (i:=i) ?_
      rw [Array.getElem?_toList,get',ei]
      exact ey
  · rw [get'] at h1 h2
    cases o:live[i]? with
    | none=>rw [o] at h1; cases h1
    | some x =>
      cases o':live[i']? with
      | none=>rw [o'] at h2; cases h2
      | some x' =>
        rw [o] at h1; rw [o'] at h2
        have hxx:x.2 = x'.2:=hyy _ _ h1 h2
        have j1:=(lmem x.1 x.2).mp (List.mem_of_getElem? o)
        have j2:=(lmem x'.1 x'.2).mp (List.mem_of_getElem? o')
        rw [← hxx] at j2
        have jj:=W.inj _ _ _ j1 j2
        have hi:i < live.length:=(List.getElem?_eq_some_iff.mp o).1
        have hi':i' < live.length:=(List.getElem?_eq_some_iff.mp o').1
        have e1:live[i] = x:=(List.getElem?_eq_some_iff.mp o).2
        have e2:live[i'] = x':=(List.getElem?_eq_some_iff.mp o').2
        rcases Nat.lt_trichotomy i i' with z | z | z
        · have:=List.pairwise_iff_getElem.mp lsort i i' hi hi' z
          rw [e1,e2] at this
          lia
        · exact z
        · have:=List.pairwise_iff_getElem.mp lsort i' i hi' hi z
          rw [e1,e2] at this
          lia
end L2
namespace L2
open PySem PySem.Spec PyProof.Rows PySem.W
section
variable {prog:Program} {w:World} {A:Around} {E:Value → Shared → Prop} {s:Shared}
theorem items_of {vs:List Value} {ns:List Int} (h:IntsAre vs ns):ItemsAre (intKind prog w) ns vs:=by
  induction h with
  | nil=>exact .nil
  | cons n t _ ih=>exact .cons (intKind_is _ _ _ _) ih
theorem TupK.key {h:Heap} {b:Addr} {ks:List Int} (t:TupK h (.ref b) ks):IsTupleKey (intKind prog w) h ks b:=by
  obtain ⟨b',o,xs,n,e,ho,hc,hd,hi,_⟩:=t
  cases e
  exact ⟨o,xs,n,ho,hc,hd,items_of hi⟩
abbrev hashT (prog:Program) (w:World) (ks:List Int):Int:=tupleKeyHash (intKind prog w) ks
theorem hbv_tup {b:Addr} {ks:List Int} {Q:Bool → Shared → Prop} (t:TupK s.heap (.ref b) ks) (q:Q true s):wpAny (model prog w) A (hashByValue 8 (.ref b)) Q E s:=by
  have hT:=(t.key (prog:=prog) (w:=w)).typeIs
  obtain ⟨b',o,xs,n,e,ho,hc,hd,hi,_⟩:=t
  cases e
  unfold hashByValue
  refine wpAny_bind (wpAny_specialOf hT F.slot_tuple_hash.lookup ?_)
  show wpAny _ _ (seqItems? (.ref b) >>= _) _ _ s
  refine wpAny_bind (wpAny_seqItems ho hd ?_)
  refine wpAny_bind ?_
  show wpAny _ _ (forIn xs _ _) _ _ s
  rw [← Array.forIn_toList]
  refine wpAny_forIn_list _ (fun rest r s'=>r.1 = none ∧ s' = s ∧ ∃ ns,IntsAre rest ns) _ ?_ ?_ _ _ ⟨rfl,rfl,_,hi⟩
  · rintro v rest r s' ⟨hr,rfl,ns,hi'⟩
    cases hi' with
    | cons i t hi'' =>
      refine wpAny_bind (wpAny_pure ?_)
      simp only [Bool.not_true,Bool.false_eq_true,if_false]
      exact wpAny_pure ⟨rfl,rfl,_,hi''⟩
  · rintro ⟨r1,r2⟩ s' ⟨hr,rfl,_⟩
    simp only at hr
    subst hr
    exact wpAny_pure q
theorem cls_tup {b:Addr} {ks:List Int} {Q:Bool → Shared → Prop} (t:TupK s.heap (.ref b) ks) (q:Q false s):wpAny (model prog w) A (ofAClassStatement 8 (.ref b)) Q E s:=by
  have hT:=(t.key (prog:=prog) (w:=w)).typeIs
  obtain ⟨b',o,xs,n,e,ho,hc,hd,hi,_⟩:=t
  cases e
  unfold ofAClassStatement
  refine wpAny_bind (wpAny_typeOf hT ?_)
  dsimp only
  rw [if_pos (show ("tuple" == "tuple") = true by decide)]
  refine wpAny_bind (wpAny_pure ?_)
  simp only [Bool.not_true,Bool.false_eq_true,if_false]
  refine wpAny_bind (wpAny_seqItems ho hd ?_)
  dsimp only
  refine wpAny_bind ?_
  show wpAny _ _ (forIn xs _ _) _ _ s
  rw [← Array.forIn_toList]
  refine wpAny_forIn_list _ (fun rest r s'=>r.1 = none ∧ s' = s ∧ ∃ ns,IntsAre rest ns) _ ?_ ?_ _ _ ⟨rfl,rfl,_,hi⟩
  · rintro v rest r s' ⟨hr,rfl,ns,hi'⟩
    cases hi' with
    | cons i t hi'' =>
      refine wpAny_bind (wpAny_pure ?_)
      simp only [Bool.false_eq_true,if_false]
      exact wpAny_pure ⟨rfl,rfl,_,hi''⟩
  · rintro ⟨r1,r2⟩ s' ⟨hr,rfl,_⟩
    simp only at hr
    subst hr
    exact wpAny_pure q
theorem seen_no {b:Addr} {ks:List Int} (t:TupK s.heap (.ref b) ks) {ys:List Value} {Q:Bool → Shared → Prop} (hy:∀ y ∈ ys,∃ c ks',y = .ref c ∧ TupK s.heap (.ref c) ks') (q:Q false s):wpAny (model prog w) A (searchCouldBeSeen (.ref b) ys) Q E s:=by
  unfold searchCouldBeSeen
  refine wpAny_bind ?_
  refine wpAny_forIn_list _ (fun rest r s'=>r.1 = none ∧ s' = s ∧ ∀ y ∈ rest,∃ c ks',y = .ref c ∧ TupK s.heap (.ref c) ks') _ ?_ ?_ _ _ ⟨rfl,rfl,hy⟩
  · rintro v rest r s' ⟨hr,rfl,hy'⟩
    obtain ⟨c,ks',rfl,tc⟩:=hy' v List.mem_cons_self
    have rest':∀ y ∈ rest,∃ c ks',y = .ref c ∧ TupK s'.heap (.ref c) ks':=fun y h=>hy' y (List.mem_cons_of_mem _ h)
    dsimp only
    by_cases e:(b == c) = true
    · rw [e]
      simp only [Bool.true_or,if_true]
      exact wpAny_pure ⟨rfl,rfl,rest'⟩
    · have e:(b == c) = false:=by simpa using e
      rw [e]
      simp only [carriedByValue,Bool.false_and,Bool.or_false,Bool.false_eq_true,if_false]
      refine wpAny_bind (wpAny_eqIsQuiet_tuple (t.key (prog:=prog) (w:=w)) ?_)
      simp only [Bool.not_true,Bool.false_eq_true,if_false]
      refine wpAny_bind (wpAny_eqIsQuiet_tuple (tc.key (prog:=prog) (w:=w)) ?_)
      simp only [Bool.not_true,Bool.false_eq_true,if_false]
      refine wpAny_bind (cls_tup t ?_)
      simp only [Bool.false_eq_true,if_false]
      refine wpAny_bind (cls_tup tc ?_)
      simp only [Bool.false_eq_true,if_false]
      exact wpAny_pure ⟨rfl,rfl,rest'⟩
  · rintro ⟨r1,r2⟩ s' ⟨hr,rfl,_⟩
    simp only at hr
    subst hr
    exact wpAny_pure q
end
end L2
namespace L2
open PySem PySem.Spec PyProof.Rows PySem.W PySem.SetTable
def MaskOk (m n:Nat):Prop:=(m = 7 ∧ n < 5) ∨ (m = 31 ∧ n < 19) ∨ (m = 127 ∧ n < 77) ∨ (m = 511 ∧ n < 307) ∨ (m = 2047 ∧ n < 1229) ∨ (m = 8191 ∧ n < 4915)
theorem MaskOk.full {m n:Nat} (h:MaskOk m n):Full m:=by
  rcases h with ⟨rfl,_⟩ | ⟨rfl,_⟩ | ⟨rfl,_⟩ | ⟨rfl,_⟩ | ⟨rfl,_⟩ | ⟨rfl,_⟩
  · exact full7
  · exact full31
  · exact full127
  · exact full511
  · exact full2047
  · exact full8191
theorem MaskOk.le {m n:Nat} (h:MaskOk m n):n < m ∧ n < 4915:=by unfold MaskOk at h; lia
theorem MaskOk.odd {m n:Nat} (h:MaskOk m n):(m % 2 == 0) = false:=by
  rcases h with ⟨rfl,_⟩ | ⟨rfl,_⟩ | ⟨rfl,_⟩ | ⟨rfl,_⟩ | ⟨rfl,_⟩ | ⟨rfl,_⟩ <;> decide
def EntK (prog:Program) (w:World) (h:Heap) (e:Int × Value) (ks:List Int):Prop:=TupK h e.2 ks ∧ e.1 = hashT prog w ks
abbrev byText (w:World):Bool:=w.params.followText "set-order"
structure SetD (prog:Program) (w:World) (Pv:Value → Prop) (h:Heap) (a:Addr) (o:Obj) (es:Array (Int × Value)) (ep:Nat) (t:SetTable) (m:Nat) (kss:List (List Int)):Prop where
  ho:h.get? a = some o
  ex:o.ExactSet
  hd:o.data = .set es ep t
  pl:t.plain = true
  ld:t.led = !byText w
  mok:MaskOk m es.size
  si:SetI t es m es.size
  en:PySem.Paired (EntK prog w h) es.toList kss
  nd:kss.Nodup
  own:∀ e ∈ es.toList,Pv e.2
section
variable {prog:Program} {w:World} {Pv:Value → Prop} {A:Around} {E:Value → Shared → Prop} {s:Shared} {a:Addr} {o:Obj} {es:Array (Int × Value)} {ep:Nat} {t:SetTable} {m:Nat} {kss:List (List Int)}
theorem SetD.fits (D:SetD prog w Pv s.heap a o es ep t m kss):t.fits es.size = true:=by
  have:=D.mok.le
  unfold SetTable.fits SetTable.fill
  rw [D.si.tab.dm,D.si.tab.size,D.si.tab.mask]
  simp
  lia
theorem SetD.len (D:SetD prog w Pv s.heap a o es ep t m kss):kss.length = es.size:=by
  have:=PySem.Paired.length D.en
  rw [Array.length_toList] at this
  exact this.symm
theorem SetD.ent (D:SetD prog w Pv s.heap a o es ep t m kss) {i:Nat} {e:Int × Value} (h:es[i]? = some e):∃ ks,kss[i]? = some ks ∧ EntK prog w s.heap e ks:=L2.Paired.get D.en (by rw [Array.getElem?_toList]; exact h)
theorem SetD.ent' (D:SetD prog w Pv s.heap a o es ep t m kss) {i:Nat} {ks:List Int} (h:kss[i]? = some ks):∃ e,es[i]? = some e ∧ EntK prog w s.heap e ks:=by
  obtain ⟨e,h1,h2⟩:=L2.Paired.get' D.en h
  exact ⟨e,by rw [Array.getElem?_toList] at h1; exact h1,h2⟩
theorem SetD.place (D:SetD prog w Pv s.heap a o es ep t m kss) {i j:Nat} (h:t.place[i]? = some j):∃ e,es[i]? = some e:=by
  have hi:i < t.place.size:=by
    rcases Nat.lt_or_ge i t.place.size with z | z
    · exact z
    · rw [Array.getElem?_eq_none z] at h; cases h
  rw [D.si.tab.size] at hi
  exact ⟨es[i],by simp [hi]⟩
theorem search_wp (D:SetD prog w Pv s.heap a o es ep t m kss) {b:Addr} {ks:List Int} (tb:TupK s.heap (.ref b) ks) (hu:A.units < cLine) {adding:Bool} {Q:SetFound → Shared → Prop}
    (hin:∀ i:Nat,kss[i]? = some ks → Q (.there (if adding = true then none else some i)) s)
    (hout:ks ∉ kss → ∀ j,¬ Fl t j → j ≤ m → Rch (Fl t) m (hashT prog w ks) j → Q (.free j false) s) {K:Nat} (hK:¬ Fl t (stp m (hashT prog w ks) K).j) (hK2:K ≤ 10 * (m + 12)) :
    ∀ (fu k:Nat) (stand:Option Probe),stand.getD (t.probeStart (hashT prog w ks)) = stp m (hashT prog w ks) k → k ≤ K → K - k < fu →
      (∀ l,l < k → ∃ i:Nat,t.place[i]? = some (stp m (hashT prog w ks) l).j ∧ kss[i]? ≠ some ks) → wpAny (model prog w) A (setSearchFrom a (.ref b) (hashT prog w ks) adding fu stand) Q E s
  | 0,k,stand,_,_,z,_=>absurd z (by lia)
  | fu + 1,k,stand,hst,hk,hf,hl=>by
    have T:=D.si.tab
    unfold setSearchFrom
    refine wpAny_bind (wpAny_setState_of D.ho D.hd D.fits ?_)
    dsimp only
    have gw:t.gaveWay = false:=by unfold SetTable.gaveWay; rw [T.mask]; exact D.mok.odd
    rw [gw]
    simp only [Bool.false_eq_true,if_false]
    rw [hst]
    obtain ⟨x,x1,x2,x3,x4⟩:=T.probe_go (hashAt:=fun i=>(es[i]?.map (·.1)).getD 0) hK (10 * turns t.mask) k hk (by rw [T.mask]; unfold turns; lia)
    -- up to x none is it
    have before:∀ l,l < x → ∃ i:Nat,t.place[i]? = some (stp m (hashT prog w ks) l).j ∧ kss[i]? ≠ some ks:=fun l hlx=>by
      by_cases c:l < k
      · exact hl l c
      · obtain ⟨i,e1,e2⟩:=x3 l (by lia) hlx
        refine ⟨i,e1,fun z=>e2 ?_⟩
        obtain ⟨e,h1,_,h3⟩:=D.ent' z
        simp only [h1,Option.map_some,Option.getD_some,h3]
    rcases x4 with ⟨n1,n2⟩ | ⟨i,e1,e2,e3⟩
    · have pe:t.probe (fun i=>(es[i]?.map (·.1)).getD 0) (hashT prog w ks) (stp m (hashT prog w ks) k) = some (.empty (stp m (hashT prog w ks) x).j none):=n2
      have no:ks ∉ kss:=fun hm=>by
        obtain ⟨i,ei⟩:=List.getElem?_of_mem hm
        obtain ⟨e,h1,_,h3⟩:=D.ent' ei
        have hi:i < t.place.size:=by
          rw [T.size]
          rcases Nat.lt_or_ge i es.size with z | z
          · exact z
          · rw [Array.getElem?_eq_none z] at h1; cases h1
        obtain ⟨k',ek,ak⟩:=D.si.rch (t.place[i]) e ⟨i,by simp [hi],h1⟩
        rw [h3] at ek ak
        rcases Nat.lt_trichotomy k' x with z | z | z
        · obtain ⟨i',p1,p2⟩:=before k' z
          rw [ek] at p1
          have:i' = i:=rise_inj T.rise p1 (by simp [hi])
          subst this
          exact p2 ei
        · subst z
          exact n1 ⟨i,by rw [ek]; simp [hi]⟩
        · exact n1 (ak x z)
      have fin:=hout no _ n1 (stp_le _ _ _) ⟨x,rfl,fun l hlx=>let ⟨i,p,_⟩:=before l hlx; ⟨i,p⟩⟩
      generalize hp:t.probe _ (hashT prog w ks) (stp m (hashT prog w ks) k) = r
      have er:=hp.symm.trans pe
      subst er
      exact wpAny_pure fin
    · have pe:t.probe (fun i=>(es[i]?.map (·.1)).getD 0) (hashT prog w ks) (stp m (hashT prog w ks) k) = some (.candidate (stp m (hashT prog w ks) x).j i (stp m (hashT prog w ks) (x + 1))):=e3
      generalize hp:t.probe _ (hashT prog w ks) (stp m (hashT prog w ks) k) = r
      have er:=hp.symm.trans pe
      subst er
      dsimp only
      obtain ⟨⟨h',y⟩,ee⟩:=D.place e1
      obtain ⟨ks',ek,ty,hh⟩:=D.ent ee
      obtain ⟨c,oc,xs,nn,ey,hoc⟩:=id ty
      have ey:y = .ref c:=ey
      subst ey
      have ty:TupK s.heap (.ref c) ks':=ty
      have hstored:∀ y ∈ List.map (fun x=>x.snd) (Array.filter (fun x=>x.fst == hashT prog w ks) es).toList,∃ c ks',y = .ref c ∧ TupK s.heap (.ref c) ks':=fun y hy=>by
        obtain ⟨e,he,rfl⟩:=List.mem_map.mp hy
        have he':e ∈ es.toList:=by
          rw [Array.toList_filter] at he
          exact (List.mem_filter.mp he).1
        obtain ⟨q,eq⟩:=List.getElem?_of_mem he'
        rw [Array.getElem?_toList] at eq
        obtain ⟨ks2,_,t2,_⟩:=D.ent eq
        obtain ⟨c2,_,_,_,e2,_⟩:=id t2
        exact ⟨c2,ks2,e2,by rw [← e2]; exact t2⟩
      have sm:t.sameMemory t.moves t.mask = some true:=by unfold SetTable.sameMemory; rw [if_pos (beq_self_eq_true _)]
      -- once it stands that nobody sees it
      have core:wpAny (model prog w) A (do
          let equal ← holding [Value.ref c] (eqBool (Value.ref c) (Value.ref b))
          let __x ← setState a
          if (adding && equal) = true then pure (SetFound.there none)
            else
              match __x.2.snd.sameMemory t.moves t.mask with
              | some sme =>
                match if sme = true then __x.2.snd.slot (stp m (hashT prog w ks) x).j else Slot.empty with
                | Slot.live i' =>
                  match __x.fst[i']? with
                  | some (fst,y')=>do
                    let __do_lift ← isSame y' (Value.ref c)
                    let still ← pure (if __do_lift = true then some i' else none)
                    match still with
                      | none=>do
                        rule "set.search.anew"
                        setSearchFrom a (Value.ref b) (hashT prog w ks) adding fu none
                      | some i' =>
                        if equal = true then pure (SetFound.there (some i'))
                        else setSearchFrom a (Value.ref b) (hashT prog w ks) adding fu (some (stp m (hashT prog w ks) (x + 1)))
                  | none=>do
                    let still ← pure none
                    match still with
                      | none=>do
                        rule "set.search.anew"
                        setSearchFrom a (Value.ref b) (hashT prog w ks) adding fu none
                      | some i' =>
                        if equal = true then pure (SetFound.there (some i'))
                        else setSearchFrom a (Value.ref b) (hashT prog w ks) adding fu (some (stp m (hashT prog w ks) (x + 1)))
                | x_1=>do
                  let still ← pure none
                  match still with
                    | none=>do
                      rule "set.search.anew"
                      setSearchFrom a (Value.ref b) (hashT prog w ks) adding fu none
                    | some i' =>
                      if equal = true then pure (SetFound.there (some i'))
                      else setSearchFrom a (Value.ref b) (hashT prog w ks) adding fu (some (stp m (hashT prog w ks) (x + 1)))
              | x_1=>unsupported "set.changed-during-lookup:is-the-new-block-at-the-old-address") Q E s:=by
        refine wpAny_bind (wpAny_holding (wpAny_eqBool_tuple hu (ty.key (prog:=prog) (w:=w)) (tb.key (prog:=prog) (w:=w)) ?_))
        refine wpAny_bind (wpAny_setState_of D.ho D.hd D.fits ?_)
        dsimp only
        have go:∀ eq:Bool,(eq = true → kss[i]? = some ks) → (eq = false → kss[i]? ≠ some ks) → wpAny (model prog w) A (do
            let __do_lift ← isSame (Value.ref c) (Value.ref c)
            let still ← pure (if __do_lift = true then some i else none)
            match still with
              | none=>do
                rule "set.search.anew"
                setSearchFrom a (Value.ref b) (hashT prog w ks) adding fu none
              | some i' =>
                if eq = true then pure (SetFound.there (some i'))
                else setSearchFrom a (Value.ref b) (hashT prog w ks) adding fu (some (stp m (hashT prog w ks) (x + 1)))) (fun r s'=>adding = true ∧ eq = true ∨ Q r s') E s:=fun eq q1 q2=>by
          refine wpAny_bind ?_
          unfold isSame
          dsimp only
          rw [if_pos (beq_self_eq_true _)]
          refine wpAny_pure (wpAny_bind (wpAny_pure ?_))
          simp only [if_true]
          cases eq with
          | true =>
            simp only [if_true]
            refine wpAny_pure ?_
            cases adding with
            | true=>exact .inl (by simp)
            | false=>exact .inr (by simpa using hin i (q1 rfl))
          | false =>
            simp only [Bool.false_eq_true,if_false]
            refine wpAny_mono (search_wp D tb hu hin hout hK hK2 fu (x + 1) _ rfl ?_ ?_ fun l hlx=>?_) (fun r s' q=>.inr q) fun _ _ z=>z
            · have:x ≠ K:=fun z=>hK (z ▸ ⟨i,e1⟩)
              lia
            · have:x ≠ K:=fun z=>hK (z ▸ ⟨i,e1⟩)
              lia
            · by_cases z:l = x
              · subst z; exact ⟨i,e1,q2 rfl⟩
              · exact before l (by lia)
        by_cases kk:ks' = ks
        · rw [decide_eq_true kk]
          cases ha:adding with
          | true =>
            simp only [Bool.and_self,if_true]
            refine wpAny_pure ?_
            have:=hin i (by rw [ek,kk])
            rw [ha] at this
            simpa using this
          | false =>
            simp only [Bool.and_true,Bool.false_eq_true,if_false,sm,if_true,T.live e1,ee]
            refine wpAny_mono (by have:=go true (fun _=>by rw [ek,kk]) (fun z=>by cases z); rw [ha] at this; simpa using this) (fun r s' q=>?_) fun _ _ z=>z
            exact q
        · rw [decide_eq_false kk]
          simp only [Bool.and_false,Bool.false_eq_true,if_false,sm,if_true,T.live e1,ee]
          refine wpAny_mono (by have:=go false (fun z=>by cases z) (fun _ z=>kk (by rw [ek] at z; exact Option.some.inj z)); simpa using this) (fun r s' q=>?_) fun _ _ z=>z
          exact q
      cases hled:t.led with
      | true =>
        simp only [Bool.not_true,Bool.false_eq_true,if_false,ee]
        exact core
      | false =>
        simp only [Bool.not_false,if_true]
        refine wpAny_bind (seen_no tb hstored ?_)
        simp only [Bool.false_eq_true,if_false,ee]
        exact core
end
end L2
namespace L2
open PySem PySem.Spec PyProof.Rows PySem.W PySem.SetTable
def SetT (prog:Program) (w:World) (Pv:Value → Prop) (h:Heap) (a:Addr) (kss:List (List Int)):Prop:=∃ o es ep t m,SetD prog w Pv h a o es ep t m kss
theorem EntK.kept {prog:Program} {w:World} {h h':Heap} {e:Int × Value} {ks:List Int} (k:∀ b o,h.get? b = some o → o.cls = .type "tuple" → h'.get? b = some o) (t:EntK prog w h e ks):EntK prog w h' e ks:=⟨t.1.kept k,t.2⟩
theorem ent_but {prog:Program} {w:World} {h h':Heap} {a:Addr} {o:Obj} (ho:h.get? a = some o) (hc:o.cls = .type "set") (sb:Heap.SameBut a h h') {e:Int × Value} {ks:List Int} (t:EntK prog w h e ks):EntK prog w h' e ks :=
  t.kept fun b o' e hcl=>by
    have ne:b ≠ a:=by
      rintro rfl
      rw [ho] at e
      cases e
      rw [hc] at hcl
      exact absurd hcl (by decide)
    rw [sb.2 b ne]; exact e
section
variable {prog:Program} {w:World} {A:Around} {E:Value → Shared → Prop} {s:Shared} {a:Addr} {o:Obj} {es:Array (Int × Value)} {ep:Nat} {t:SetTable} {m:Nat} {kss:List (List Int)}
theorem relay_eq (a:Addr) (wanted:Nat):setRelay a wanted = (do
    let (es,_,t) ← setState a
    if SetTable.sizeAbove wanted > sizeLine then unsupported "set:memory"
    let (es,t) ← (do
      let some (t,order):=t.relaid (es.map (·.1)) wanted | unsupported "internal:set-table-without-room"
      let es':=order.filterMap (es[·]?)
      if es'.size != es.size then unsupported "internal:set-table-lost-an-element"
      pure (es',t))
    storeSet a es t):=rfl
theorem SetI.put {j:Nat} {x:Int × Value} (I:SetI t es m es.size) (hj:¬ Fl t j) (hm:j ≤ m) (hr:Rch (Fl t) m x.1 j):SetI (t.put j).1 (insertAt es (t.put j).2 x) m (es.size + 1):=by
  obtain ⟨T',e2,e3⟩:=I.tab.put hj hm
  have hb:=(below_ok I.tab.rise j).2.2
  have hb2:below t.place j ≤ es.size:=by rw [← I.tab.size]; exact hb
  have up:∀ q,Fl t q → Fl (t.put j).1 q:=fun q ⟨i,e⟩=>by
    unfold Fl
    rw [e3]
    by_cases c:i < below t.place j
    · exact ⟨i,by rw [tins_get hb,if_pos c]; exact e⟩
    · exact ⟨i + 1,by rw [tins_get hb,if_neg (by lia),if_neg (by lia)]; exact e⟩
  refine ⟨T',by rw [e2,ins_size hb2],fun j' e' hA=>?_⟩
  rw [e3,e2] at hA
  rcases (ins_at hb hb2).mp hA with h | ⟨rfl,rfl⟩
  · exact (I.rch j' e' h).mono up
  · exact hr.mono up
theorem paired_ins {α β:Type} {R:α → β → Prop}:∀ {xs:List α} {ys:List β} (p:Nat) {x:α} {y:β},PySem.Paired R xs ys → R x y → PySem.Paired R (xs.take p ++ x :: xs.drop p) (ys.take p ++ y :: ys.drop p)
  | _,_,0,x,y,h,r=>.cons r h
  | _,_,p + 1,x,y,.nil,r=>by simpa using PySem.Paired.cons r .nil
  | _,_,p + 1,x,y,.cons h t,r=>.cons h (paired_ins p t r)
theorem ins_list {α:Type} {xs:Array α} {p:Nat} {x:α} (hp:p ≤ xs.size):(insertAt xs p x).toList = xs.toList.take p ++ x :: xs.toList.drop p:=by
  unfold insertAt
  simp [List.take_of_length_le]
theorem mem_ins {α:Type} {xs:List α} {p:Nat} {x y:α}:y ∈ xs.take p ++ x :: xs.drop p ↔ y = x ∨ y ∈ xs:=by
  have:y ∈ xs ↔ y ∈ xs.take p ∨ y ∈ xs.drop p:=by rw [← List.mem_append,List.take_append_drop]
  simp only [List.mem_append,List.mem_cons,this]
  constructor
  · rintro (h | h | h)
    · exact .inr (.inl h)
    · exact .inl h
    · exact .inr (.inr h)
  · rintro (h | h | h)
    · exact .inr (.inl h)
    · exact .inl h
    · exact .inr (.inr h)
theorem nodup_ins {α:Type} {xs:List α} {p:Nat} {x:α} (h:xs.Nodup) (hx:x ∉ xs):(xs.take p ++ x :: xs.drop p).Nodup:=by
  have e:(xs.take p ++ x :: xs.drop p).Perm (x :: xs):=by
    have:=List.perm_middle (a:=x) (l₁:=xs.take p) (l₂:=xs.drop p)
    rwa [List.take_append_drop] at this
  exact e.nodup_iff.mpr (List.nodup_cons.mpr ⟨hx,h⟩)
end
end L2
namespace L2
open PySem PySem.Spec PyProof.Rows PySem.W PySem.SetTable
theorem paired_choice {α β:Type} {R:α → β → Prop}:∀ {l:List α},(∀ e ∈ l,∃ k,R e k) → ∃ ks,PySem.Paired R l ks
  | [],_=>⟨[],.nil⟩
  | e :: l,h=>by
    obtain ⟨k,hk⟩:=h e List.mem_cons_self
    obtain ⟨ks,hks⟩:=paired_choice (fun x hx=>h x (List.mem_cons_of_mem _ hx))
    exact ⟨k :: ks,.cons hk hks⟩
section
variable {prog:Program} {w:World} {Pv:Value → Prop} {A:Around} {E:Value → Shared → Prop} {s:Shared} {a:Addr} {o:Obj} {es:Array (Int × Value)} {ep:Nat} {t:SetTable} {m:Nat} {kss:List (List Int)}
theorem EntK.inj {h:Heap} {e:Int × Value} {k k':List Int} (h1:EntK prog w h e k) (h2:EntK prog w h e k'):k = k':=by
  obtain ⟨b,_,_,_,e1,_⟩:=id h1.1
  have t1:TupK h (.ref b) k:=e1 ▸ h1.1
  have t2:TupK h (.ref b) k':=e1 ▸ h2.1
  exact (t1.key (prog:=prog) (w:=w)).inj (t2.key (prog:=prog) (w:=w))
theorem get_store (ho:s.heap.get? a = some o) (hd:o.data = .set es ep t) (es':Array (Int × Value)) (t':SetTable):(s.heap.update a (Obj.putSet es' t')).get? a = some { o with data:=.set es' (ep + 1) t' }:=by
  have:=Heap.get?_update_self (Obj.putSet es' t') ho (by rw [putSet_of es' t' hd]; rfl)
  rw [putSet_of es' t' hd] at this
  exact this
theorem relay_wp {m' n:Nat} {wanted:Nat} {Q:Unit → Shared → Prop} (ho:s.heap.get? a = some o) (ex:o.ExactSet) (hd:o.data = .set es ep t) (pl:t.plain = true) (le:t.led = !byText w) (hf:t.fits es.size = true) (en:PySem.Paired (EntK prog w s.heap) es.toList kss) (nd:kss.Nodup) (ow:∀ e ∈ es.toList,Pv e.2)
    (hw:sizeAbove wanted = m' + 1) (mo:MaskOk m' es.size) (h:∀ h' kss',Heap.SameBut a s.heap h' → SetT prog w Pv h' a kss' → (∀ k,k ∈ kss' ↔ k ∈ kss) → Q () { s with heap:=h' }):wpAny (model prog w) A (setRelay a wanted) Q E s:=by
  rw [relay_eq]
  refine wpAny_bind (wpAny_setState_of ho hd hf ?_)
  dsimp only
  have hle:=mo.le
  have m127:m' ≤ 8191:=by unfold MaskOk at mo; lia
  rw [if_neg (by rw [hw,sizeLine_eq]; lia)]
  obtain ⟨t',order,e1,e2,e3,e4,e5,e6,e7⟩:=laid_ok (m:=m') (n:=es.size) (fi:=t.finger) (mv:=t.movedTo (sizeAbove wanted - 1)) (ld:=t.led) (pl:=t.plain) mo.full (es:=es) rfl (by lia)
  have er:t.relaid (es.map (·.1)) wanted = some (t',order):=by
    unfold SetTable.relaid
    rw [show sizeAbove wanted - 1 = m' by lia] at e1 ⊢
    exact e1
  rw [er]
  dsimp only
  have e4':((order.filterMap (es[·]?)).size != es.size) = false:=by rw [e4]; simp
  rw [e4']
  simp only [Bool.false_eq_true,if_false,pure_bind]
  generalize order.filterMap (es[·]?) = es2 at *
  refine wpAny_storeSet_of ho hd ?_ (by rw [e4,sizeLine_eq]; lia)
  have sb:Heap.SameBut a s.heap (s.heap.update a (Obj.putSet es2 t')):=Heap.SameBut.update s.heap a _
  have old:∀ e ∈ es2.toList,∃ k,EntK prog w s.heap e k ∧ k ∈ kss:=fun e he=>by
    obtain ⟨i,ei⟩:=List.getElem?_of_mem ((e6 e).mp he)
    obtain ⟨k,k1,k2⟩:=L2.Paired.get en ei
    exact ⟨k,k2,List.mem_of_getElem? k1⟩
  obtain ⟨kss2,en2⟩:=paired_choice (R:=EntK prog w s.heap) (l:=es2.toList) fun e he=>let ⟨k,k1,_⟩:=old e he; ⟨k,k1⟩
  refine h _ kss2 sb ⟨_,es2,ep + 1,t',m',get_store ho hd es2 t',⟨ex.1,ex.2.1,ex.2.2⟩,rfl,by rw [e3]; exact pl,by rw [e2]; exact le,by rw [e4]; exact mo,by rw [e4]; exact e5,Paired.mapP en2 fun e ks tt=>ent_but ho ex.1 sb tt,?_,fun e he=>ow e ((e6 e).mp he)⟩ fun k=>⟨fun hk=>?_,fun hk=>?_⟩
  · refine List.pairwise_iff_getElem.mpr fun i i' hi hi' hlt z=>?_
    obtain ⟨x,x1,x2⟩:=L2.Paired.get' en2 (List.getElem?_eq_getElem hi)
    obtain ⟨x',x1',x2'⟩:=L2.Paired.get' en2 (List.getElem?_eq_getElem hi')
    rw [Array.getElem?_toList] at x1 x1'
    have:=e7 i i' x x' x1 x1' fun y y' ey ey'=>by
      obtain ⟨k,k1,k2⟩:=L2.Paired.get en (show es.toList[y]? = some x by rw [Array.getElem?_toList]; exact ey)
      obtain ⟨k',k1',k2'⟩:=L2.Paired.get en (show es.toList[y']? = some x' by rw [Array.getElem?_toList]; exact ey')
      have q1:=k2.inj x2
      have q2:=k2'.inj x2'
      rw [q1] at k1
      rw [q2,← z] at k1'
      have hy:y < kss.length:=(List.getElem?_eq_some_iff.mp k1).1
      have hy':y' < kss.length:=(List.getElem?_eq_some_iff.mp k1').1
      have g1:=(List.getElem?_eq_some_iff.mp k1).2
      have g2:=(List.getElem?_eq_some_iff.mp k1').2
      exact (List.getElem_inj nd).mp (g1.trans g2.symm)
    lia
  · obtain ⟨i,ei⟩:=List.getElem?_of_mem hk
    obtain ⟨x,x1,x2⟩:=L2.Paired.get' en2 ei
    obtain ⟨k',k1,k2⟩:=old x (List.mem_of_getElem? x1)
    rw [x2.inj k1]; exact k2
  · obtain ⟨i,ei⟩:=List.getElem?_of_mem hk
    obtain ⟨x,x1,x2⟩:=L2.Paired.get' en ei
    have hx:=(e6 x).mpr (List.mem_of_getElem? x1)
    obtain ⟨i2,ei2⟩:=List.getElem?_of_mem hx
    obtain ⟨k2,q1,q2⟩:=L2.Paired.get en2 ei2
    rw [x2.inj q2]
    exact List.mem_of_getElem? q1
theorem add_wp (S:SetT prog w Pv s.heap a kss) {b:Addr} {ks:List Int} (tb:TupK s.heap (.ref b) ks) (pb:Pv (.ref b)) (hu:A.units < cLine) (hn:kss.length < 4914) {Q:Bool → Shared → Prop} (hin:ks ∈ kss → Q false s)
    (hout:ks ∉ kss → ∀ h' kss',Heap.SameBut a s.heap h' → SetT prog w Pv h' a kss' → (∀ k,k ∈ kss' ↔ k = ks ∨ k ∈ kss) → Q true { s with heap:=h' }):wpAny (model prog w) A (setAddHashed a (.ref b) (hashT prog w ks)) Q E s:=by
  obtain ⟨o,es,ep,t,m,D⟩:=S
  have T:=D.si.tab
  have hl:=D.len
  have hle:=D.mok.le
  obtain ⟨q,q1,q2⟩:=T.free (Nat.le_of_lt hle.1)
  obtain ⟨K,K1,K2⟩:=D.mok.full.walk (hashT prog w ks) q1
  unfold setAddHashed
  refine wpAny_holding ?_
  show wpAny (model prog w) A (setAddHashedIn a (.ref b) (hashT prog w ks) (99999 + 1)) Q E s
  unfold setAddHashedIn
  refine wpAny_bind (wpAny_setState_of D.ho D.hd D.fits ?_)
  dsimp only
  rw [if_neg (by simp [byScan,Value.scannable])]
  refine wpAny_bind ?_
  have m127:m ≤ 8191:=by have:=D.mok; unfold MaskOk at this; lia
  refine search_wp D tb hu (adding:=true) (fun i ei=>?_) (fun no j n1 n2 n3=>?_) (K:=K) (by rw [K2]; exact q2) K1 100000 0 none (by show t.probeStart _ = _; rw [start_eq,T.mask]) (Nat.zero_le _) (by lia) fun l z=>absurd z (by lia)
  · simp only [if_true]
    exact wpAny_pure (hin (List.mem_of_getElem? ei))
  · dsimp only
    refine wpAny_bind (wpAny_setState_of D.ho D.hd D.fits ?_)
    dsimp only
    have I1:=D.si.put (x:=(hashT prog w ks,Value.ref b)) n1 n2 n3
    obtain ⟨T1,p2,p3⟩:=T.put n1 n2
    have hb:=(below_ok T.rise j).2.2
    have hb2:below t.place j ≤ es.size:=by rw [← T.size]; exact hb
    have pl1:(t.put j).1.plain = true:=D.pl
    have le1:(t.put j).1.led = !byText w:=D.ld
    rw [pl1]
    simp only [if_true]
    refine wpAny_bind (hbv_tup tb ?_)
    simp only [if_true]
    have sz1:(insertAt es (t.put j).2 (hashT prog w ks,Value.ref b)).size = es.size + 1:=by rw [p2,ins_size hb2]
    have en1:PySem.Paired (EntK prog w s.heap) (insertAt es (t.put j).2 (hashT prog w ks,Value.ref b)).toList (kss.take (below t.place j) ++ ks :: kss.drop (below t.place j)):=by
      rw [p2,ins_list hb2]
      exact paired_ins _ D.en ⟨tb,rfl⟩
    have ow1:∀ e ∈ (insertAt es (t.put j).2 (hashT prog w ks,Value.ref b)).toList,Pv e.2:=fun e he=>by
      rw [p2,ins_list hb2] at he
      rcases mem_ins.mp he with rfl | he
      · exact pb
      · exact D.own e he
    have nd1:=nodup_ins (p:=below t.place j) D.nd no
    have fits1:(t.put j).1.fits (es.size + 1) = true:=by
      unfold SetTable.fits SetTable.fill
      rw [T1.dm,T1.size,T1.mask]
      simp
      lia
    generalize (t.put j).1 = t1 at *
    generalize insertAt es (t.put j).2 (hashT prog w ks,Value.ref b) = es1 at *
    generalize hk1:kss.take (below t.place j) ++ ks :: kss.drop (below t.place j) = kss1 at *
    have mem1:∀ k,k ∈ kss1 ↔ k = ks ∨ k ∈ kss:=fun k=>by rw [← hk1]; exact mem_ins
    refine wpAny_bind (wpAny_storeSet_of D.ho D.hd ?_ (by rw [sz1,sizeLine_eq]; lia))
    have sb:Heap.SameBut a s.heap (s.heap.update a (Obj.putSet es1 t1)):=Heap.SameBut.update s.heap a _
    have g1:=get_store D.ho D.hd es1 t1
    have en2:PySem.Paired (EntK prog w (s.heap.update a (Obj.putSet es1 t1))) es1.toList kss1:=Paired.mapP en1 fun e k tt=>ent_but D.ho D.ex.1 sb tt
    generalize s.heap.update a (Obj.putSet es1 t1) = h1 at *
    have tf:t1.tooFull = decide ((es.size + 1) * 5 ≥ m * 3):=by
      unfold SetTable.tooFull SetTable.fill
      rw [T1.dm,T1.size,T1.mask]
      rfl
    rw [tf]
    simp only [Bool.not_false,Bool.true_and,decide_eq_true_eq]
    by_cases c:(es.size + 1) * 5 ≥ m * 3
    · rw [if_pos c]
      have big:∃ m',sizeAbove (grown (es.size + 1)) = m' + 1 ∧ MaskOk m' (es.size + 1):=by
        rcases D.mok with ⟨rfl,hlt⟩ | ⟨rfl,hlt⟩ | ⟨rfl,hlt⟩ | ⟨rfl,hlt⟩ | ⟨rfl,hlt⟩ | ⟨rfl,hlt⟩
        · have:es.size = 4:=by lia
          rw [this]
          exact ⟨31,by decide,.inr (.inl ⟨rfl,by lia⟩)⟩
        · have:es.size = 18:=by lia
          rw [this]
          exact ⟨127,by decide,.inr (.inr (.inl ⟨rfl,by lia⟩))⟩
        · have:es.size = 76:=by lia
          rw [this]
          exact ⟨511,by decide +kernel,.inr (.inr (.inr (.inl ⟨rfl,by lia⟩)))⟩
        · have:es.size = 306:=by lia
          rw [this]
          exact ⟨2047,by decide +kernel,.inr (.inr (.inr (.inr (.inl ⟨rfl,by lia⟩))))⟩
        · have:es.size = 1228:=by lia
          rw [this]
          exact ⟨8191,by decide +kernel,.inr (.inr (.inr (.inr (.inr ⟨rfl,by lia⟩))))⟩
        · lia
      obtain ⟨m',w1,w2⟩:=big
      refine wpAny_bind (relay_wp (s:={ s with heap:=h1 }) (n:=0) g1 ⟨D.ex.1,D.ex.2.1,D.ex.2.2⟩ rfl pl1 le1 (by rw [sz1]; exact fits1) en2 nd1 ow1 w1 (by rw [sz1]; exact w2) fun h' kss' sb' S' mem'=>?_)
      exact wpAny_pure (hout no h' kss' ⟨sb'.1.trans sb.1,fun b' ne=>(sb'.2 b' ne).trans (sb.2 b' ne)⟩ S' fun k=>(mem' k).trans (mem1 k))
    · rw [if_neg c]
      refine wpAny_pure (hout no h1 kss1 sb ⟨_,es1,ep + 1,t1,m,g1,⟨D.ex.1,D.ex.2.1,D.ex.2.2⟩,rfl,pl1,le1,?_,by rw [sz1]; exact I1,en2,nd1,ow1⟩ mem1)
      rw [sz1]
      rcases D.mok with ⟨rfl,hlt⟩ | ⟨rfl,hlt⟩ | ⟨rfl,hlt⟩ | ⟨rfl,hlt⟩ | ⟨rfl,hlt⟩ | ⟨rfl,hlt⟩
      · exact .inl ⟨rfl,by lia⟩
      · exact .inr (.inl ⟨rfl,by lia⟩)
      · exact .inr (.inr (.inl ⟨rfl,by lia⟩))
      · exact .inr (.inr (.inr (.inl ⟨rfl,by lia⟩)))
      · exact .inr (.inr (.inr (.inr (.inl ⟨rfl,by lia⟩))))
      · exact .inr (.inr (.inr (.inr (.inr ⟨rfl,by lia⟩))))
end
end L2
namespace L2
open PySem PySem.Spec PyProof.Rows PySem.W PySem.SetTable
theorem paired_mem {α β:Type} {R R':α → β → Prop}:∀ {xs:List α} {ys:List β},PySem.Paired R xs ys → (∀ x ∈ xs,∀ y,R x y → R' x y) → PySem.Paired R' xs ys
  | _,_,.nil,_=>.nil
  | _,_,.cons r t,h=>.cons (h _ List.mem_cons_self _ r) (paired_mem t fun x hx=>h x (List.mem_cons_of_mem _ hx))
def In0 (h0:Heap) (Pv:Value → Prop):Prop:=∀ v,Pv v → ∃ b o,v = .ref b ∧ h0.get? b = some o
theorem TupK.move {h0 h h':Heap} {b:Addr} {o:Obj} {ks:List Int} (e:h0.get? b = some o) (k0:Keeps h0 h) (k1:Keeps h0 h') (t:TupK h (.ref b) ks):TupK h' (.ref b) ks:=by
  obtain ⟨b',o',xs,n,eb,ho,r⟩:=t
  cases eb
  have:=k0 _ _ e
  rw [this] at ho
  cases ho
  exact ⟨b,o,xs,n,rfl,k1 _ _ e,r⟩
theorem SetT.move {prog:Program} {w:World} {Pv:Value → Prop} {h0 h h':Heap} {a:Addr} {kss:List (List Int)} (S:SetT prog w Pv h a kss) (hPv:In0 h0 Pv) (k0:Keeps h0 h) (k1:Keeps h0 h') (hs:∀ o,h.get? a = some o → h'.get? a = some o):SetT prog w Pv h' a kss:=by
  obtain ⟨o,es,ep,t,m,D⟩:=S
  refine ⟨o,es,ep,t,m,hs _ D.ho,D.ex,D.hd,D.pl,D.ld,D.mok,D.si,paired_mem D.en fun e he ks ek=>?_,D.nd,D.own⟩
  obtain ⟨hh,v⟩:=e
  obtain ⟨b,o0,rfl,e0⟩:=hPv v (D.own _ he)
  exact ⟨TupK.move e0 k0 k1 ek.1,ek.2⟩
section
variable {prog:Program} {w:World} {Pv:Value → Prop} {A:Around} {R:Result → Shared → Prop} {I:Addr} {fp wr:List Addr} {n:Nat} {P:Nat → Value → Prop} {St:Nat → Shared → Prop}
theorem set_loop {h0:Heap} {key:Nat → List Int} (W:WalksS prog w A.in1 I fp wr (fun a b=>b = a) n P St) {S:Addr} (hSf:S ∉ fp) (hS0:h0.get? S = none) (hwr:∀ b ∈ wr,h0.get? b = none) (hPv:In0 h0 Pv)
    (hval:∀ i v,P i v → TupK h0 v (key i) ∧ Pv v) (hn:∀ ms:List (List Int),ms.Nodup → (∀ q ∈ ms,∃ j,j < n ∧ key j = q) → ms.length < 4914) (hu:A.units + 8 < cLine) :
    ∀ (k i:Nat) (s:Shared) (kss:List (List Int)),n - i = k → i ≤ n → St i s → Keeps h0 s.heap → SetT prog w Pv s.heap S kss → (∀ q,q ∈ kss ↔ ∃ j,j < i ∧ key j = q) → kss.length ≤ i →
      (∀ s' kss',Moved (S :: wr) (fun a b=>b = a) s s' → Keeps h0 s'.heap → SetT prog w Pv s'.heap S kss' → (∀ q,q ∈ kss' ↔ ∃ j,j < n ∧ key j = q) → kss'.length ≤ n → R (.ok (.ret .none)) s') →
      codeAny (model prog w) A (.builtin "set.update.loop" ⟨[.ref S,.ref I],[]⟩) R s:=by
  have hSw:S ∉ wr:=fun h=>hSf (W.sub _ h)
  have hsub:∀ b ∈ wr,b ∈ S :: wr:=fun b hb=>List.mem_cons_of_mem _ hb
  have kp:∀ {s s':Shared},Keeps h0 s.heap → Moved wr (fun a b=>b = a) s s' → Keeps h0 s'.heap:=fun k0 hm b o e=>hm.heap b o (fun z=>by rw [hwr b z] at e; cases e) (k0 b o e)
  intro k
  induction k with
  | zero =>
    intro i s kss hk hi hst k0 hS hmem hlen hR
    have hin:i = n:=by lia
    subst hin
    refine codeAny_builtin F.entry_set_update_loop ?_
    rw [Around.under_plainId F.plain_set_update_loop _]
    refine wpAny_bind (m:=pyNext (.ref I)) (W.done s _ _ hst fun s' hm=>?_)
    refine wpAny_pure (hR s' kss (hm.mono hsub) (kp k0 hm) ?_ hmem hlen)
    exact hS.move hPv k0 (kp k0 hm) fun o e=>hm.heap S o hSw e
  | succ k ih =>
    intro i s kss hk hi hst k0 hS hmem hlen hR
    have hlt:i < n:=by lia
    refine codeAny_builtin F.entry_set_update_loop ?_
    rw [Around.under_plainId F.plain_set_update_loop _]
    refine wpAny_bind (m:=pyNext (.ref I)) (W.item i s _ _ hlt hst fun v s' hP hst' hm=>?_)
    have k1:=kp k0 hm
    have hS':=hS.move hPv k0 k1 fun o e=>hm.heap S o hSw e
    obtain ⟨tv,pv⟩:=hval i v hP
    obtain ⟨b,o0,rfl,e0⟩:=hPv v pv
    have tb:TupK s'.heap (.ref b) (key i):=TupK.move e0 (fun _ _ z=>z) k1 tv
    refine wpAny_bind (m:=holding [Value.ref b] (setAdd S (.ref b))) (wpAny_holding ?_)
    unfold setAdd
    refine wpAny_holding ?_
    have hu1:A.in1.units < cLine:=by show A.units + _ < _; lia
    refine wpAny_bind (wpAny_pyHash_tuple hu1 (tb.key (prog:=prog) (w:=w)) ?_)
    refine add_wp (s:={ s' with toks:=s'.toks + ((key i).length + 1) }) hS' tb pv hu1 (hn kss (let ⟨_,_,_,_,_,D⟩:=hS; D.nd) fun q hq=>let ⟨j,hj,e⟩:=(hmem q).mp hq; ⟨j,Nat.lt_trans hj hlt,e⟩) (fun hin=>?_) fun hout h' kss' sb S2 mem2=>?_
    · refine wpAny_pure ⟨plainId_quiet F.plain_set_update_loop _,ih (i + 1) _ kss (by lia) hlt (W.frame _ s' s'.heap _ hst' (by lia) fun b hb o e=>e) k1 hS' (fun q=>?_) (by lia) fun s'' kss'' hm'' k2 S'' mem'' len''=>?_⟩
      · rw [hmem q]
        constructor
        · rintro ⟨j,hj,e⟩; exact ⟨j,by lia,e⟩
        · rintro ⟨j,hj,e⟩
          by_cases c:j < i
          · exact ⟨j,c,e⟩
          · have:j = i:=by lia
            subst this
            rw [e] at hin
            exact (hmem q).mp hin
      · exact hR s'' kss'' (Moved.trans W.gtrans ((hm.mono hsub).then_heap (h':=s'.heap) (tk:=s'.toks + ((key i).length + 1)) (by lia) fun b o hb e=>e) hm'') k2 S'' mem'' len''
    · have k1':Keeps h0 h':=fun b o e=>by
        rw [sb.2 b (fun z=>by rw [z,hS0] at e; cases e)]
        exact k1 b o e
      have hl':kss'.length ≤ i + 1:=by
        obtain ⟨_,_,_,_,_,D1⟩:=hS'
        obtain ⟨_,_,_,_,_,D2⟩:=S2
        have:kss'.length ≤ (key i :: kss).length:=List.Nodup.length_le_of_subset D2.nd fun q hq=>by
          rcases (mem2 q).mp hq with rfl | z
          · exact List.mem_cons_self
          · exact List.mem_cons_of_mem _ z
        simp only [List.length_cons] at this
        lia
      refine wpAny_pure ⟨plainId_quiet F.plain_set_update_loop _,ih (i + 1) _ kss' (by lia) hlt (W.frame _ s' h' (s'.toks + ((key i).length + 1)) hst' (by lia) fun b hb o e=>?_) k1' S2 (fun q=>?_) hl' fun s'' kss'' hm'' k2 S'' mem'' len''=>?_⟩
      · rw [sb.2 b (fun h:b = S=>hSf (by rw [← h]; exact hb))]; exact e
      · rw [mem2 q,hmem q]
        constructor
        · rintro (rfl | ⟨j,hj,e⟩)
          · exact ⟨i,by lia,rfl⟩
          · exact ⟨j,by lia,e⟩
        · rintro ⟨j,hj,e⟩
          by_cases c:j < i
          · exact .inr ⟨j,c,e⟩
          · have:j = i:=by lia
            subst this
            exact .inl e.symm
      · refine hR s'' kss'' (Moved.trans W.gtrans ((hm.mono hsub).then_heap (h':=h') (tk:=s'.toks + ((key i).length + 1)) (by lia) fun b o hb e=>?_) hm'') k2 S'' mem'' len''
        rw [sb.2 b (fun h:b = S=>hb (by rw [h]; exact List.mem_cons_self))]; exact e
end
end L2
namespace L2
open PySem PySem.Spec PyProof.Rows PySem.W PySem.SetTable
abbrev noneS (w:World):Obj:={ cls:=.type "set",dict:=none,data:=.set #[] 0 (.fresh 0 0 (!byText w)) }
theorem rise_none:Rise #[]:=fun i j a b=>absurd b (by simp)
theorem noneS_ok {prog:Program} {w:World} {Pv:Value → Prop} {h:Heap} {a:Addr} (e:h.get? a = some (noneS w)):SetT prog w Pv h a [] :=
  ⟨_,#[],0,_,7,e,⟨rfl,rfl,rfl⟩,rfl,rfl,rfl,.inl ⟨rfl,by decide⟩,⟨⟨rfl,rfl,rfl,rise_none,fun i j z=>by simp [SetTable.fresh] at z⟩,rfl,fun j e ⟨i,z,_⟩=>by simp [SetTable.fresh] at z⟩,.nil,List.nodup_nil,fun e z=>by simp at z⟩
section
variable {prog:Program} {w:World} {A:Around} {E:Value → Shared → Prop} {s:Shared}
theorem set_new1 (x:Value) {Q₁:Value → Shared → Prop} (q:Q₁ (.ref s.heap.objs.size) { s with heap:=s.heap.push (noneS w) }) :
    codeAny (model prog w) A (.call (.builtin "set.__new__") ⟨[.type "set",x],[]⟩) (wants Q₁ E) s:=by
  refine codeAny_of_tree ?_
  refine wpAny_bind (m:=checkBuiltinCall "set.__new__" ⟨[.type "set",x],[]⟩) (wpAny_of_eq (F.newCall_set_1 x) (wpAny_pure ⟨plainId_quiet F.plain_set_new _,codeAny_builtin F.entry_set_new ?_⟩))
  rw [Around.under_plainId F.plain_set_new _]
  unfold Builtin.«set.__new__» Builtin.Frozenset.newClass
  have hsub:=sub_set_self
  obtain ⟨hp,g,d,tk,os⟩:=s
  dsimp only
  wp_walk
  refine wpAny_askSetting (wpAny_pure ?_)
  dsimp only
  simp only [newObj]
  refine wpAny_bind (wpAny_alloc (wpAny_pure (wpAny_pure q)))
theorem setT_listB {l:Addr} {vs:List Value} {kss:List (List Int)} {Q:Value → Shared → Prop} (hh:A.handled = none) (hl:s.heap.IsList l vs.toArray) (hT:PySem.Paired (TupK s.heap) vs kss) (hn:∀ ms:List (List Int),ms.Nodup → (∀ q ∈ ms,q ∈ kss) → ms.length < 4914) (hu:A.units + 64 < cLine)
    (h:∀ h' tk ms,SetT prog w (· ∈ vs) h' s.heap.objs.size ms → (∀ q,q ∈ ms ↔ q ∈ kss) → Keeps s.heap h' → Q (.ref s.heap.objs.size) { s with heap:=h',toks:=tk }):wpAny (model prog w) A (call (.type "set") [.ref l]) Q E s:=by
  obtain ⟨c,tl,hmro⟩:=F.called_set.mro
  have made:=F.called_set.made
  have sub:=F.called_set.sub
  refine wpAny_call (codeAny_of_tree ?_)
  show wpAny (model prog w) _ (callAny (.type "set") _) _ _ s
  refine wpAny_pure ⟨Code.quiet_builtin _ (by decide +kernel),codeAny_builtin F.entry_type_call ?_⟩
  rw [Around.under_plain (weight_type_call_type "set" [Value.ref l] []) rfl]
  have t1:=F.called_set.notType
  have t2:=F.called_set.canCreate
  have t3:=F.typeCall_set_1 (Value.ref l)
  repeat (any_goals first | assumption | wp_step)
  refine codeAny_mono (set_new1 (prog:=prog) (.ref l) (E:=E) (Q₁:=fun v s₁=>v = .ref s.heap.objs.size ∧ s₁ = { s with heap:=s.heap.push (noneS w) }) ⟨rfl,rfl⟩) fun r s₁ hr=>?_
  cases r with
  | error e=>exact hr
  | ok fl =>
    cases fl with
    | next=>exact hr.elim
    | brk=>exact hr.elim
    | cont=>exact hr.elim
    | ret v =>
      obtain ⟨rfl,rfl⟩:=hr
      have hS:(s.heap.push (noneS w)).get? s.heap.objs.size = some (noneS w):=Heap.get?_push_size _ rfl
      have hTy:Shared.TypeIs { s with heap:=s.heap.push (noneS w) } (.ref s.heap.objs.size) "set" := ⟨_,hS,rfl⟩
      have i1:=F.called_set.init.lookup
      have i2:=F.called_set.init.bind (.ref s.heap.objs.size)
      repeat (any_goals first | assumption | wp_step)
      refine codeAny_mono (codeAny_call_builtin (R:=wants (fun r s₂=>r = .none ∧ ∃ h' tk ms,s₂ = { s with heap:=h',toks:=tk } ∧ SetT prog w (· ∈ vs) h' s.heap.objs.size ms ∧ (∀ q,q ∈ ms ↔ q ∈ kss) ∧ Keeps s.heap h') E)
        F.called_set.init.plain F.entry_set_init (check_set_init_1 hTy ?_)) fun r₂ s₂ hr₂=>?_
      · obtain ⟨ol,hol,hcl,nl,hdl⟩:=hl
        obtain ⟨ocls,odict,odata,oslots⟩:=ol
        simp only at hcl hdl
        subst hcl; subst hdl
        have hlt:l < s.heap.objs.size:=Heap.lt_size hol
        have hol1:(s.heap.push (noneS w)).get? l = some { cls:=.type "list",dict:=odict,data:=.seq vs.toArray nl,slots:=oslots }:=Heap.get?_push_of_some _ hol
        have s1:=F.sub_list_set
        have s2:=F.sub_list_frozenset
        have s3:(Value.type "list" == Value.type "dict") = false:=by decide
        have hl1:(s.heap.push (noneS w)).IsList l vs.toArray:=⟨_,hol1,rfl,nl,rfl⟩
        unfold Builtin.«set.__init__» noKeywords Builtin.Frozenset.updateFrom
        generalize hPI:pyIter = PI
        wp_walk
        subst hPI
        refine wpAny_pyIter_list hl1 (wpAny_bind (wpAny_runValue ?_))
        have sz1:(s.heap.push (noneS w)).objs.size = s.heap.objs.size + 1:=Heap.size_push ..
        have kp2:Keeps s.heap ((s.heap.push (noneS w)).push { cls:=.type "list_iterator",data:=.fields #[.ref l,.int 0 0] }):=fun b o e=>Heap.get?_push_of_some _ (Heap.get?_push_of_some _ e)
        have no:∀ b,s.heap.objs.size ≤ b → s.heap.get? b = none:=fun b hb=>by
          cases z:s.heap.get? b with
          | none=>rfl
          | some o=>exact absurd (Heap.lt_size z) (Nat.not_lt.mpr hb)
        have hin:In0 s.heap (· ∈ vs):=fun v hv=>by
          obtain ⟨i,ei⟩:=List.getElem?_of_mem hv
          obtain ⟨ks,_,b,o,xs,n,e,ho,_⟩:=L2.Paired.get hT ei
          exact ⟨b,o,e,ho⟩
        refine set_loop (A:=A.in1.in1) (key:=fun i=>kss.getD i []) (h0:=s.heap) (Pv:=(· ∈ vs)) (Walks.list (by simp [hh]) _ l (by rw [sz1]; exact Nat.ne_of_lt (Nat.lt_succ_of_lt hlt)) vs.toArray).toS (S:=s.heap.objs.size) ?_ (no _ (Nat.le_refl _)) (fun b hb=>?_) hin
          (fun i v hv=>?_) (fun ms nd hm=>hn ms nd fun q hq=>by
            obtain ⟨j,hj,e⟩:=hm q hq
            have hk:j < kss.length:=by
              rw [← L2.Paired.len hT]
              simpa using hj
            rw [List.getD_eq_getElem?_getD,List.getElem?_eq_getElem hk] at e
            rw [← e]
            exact List.getElem_mem hk) (by show A.units + 1 + 1 + 8 < _; lia) (vs.toArray.size - 0) 0 _ [] rfl (Nat.zero_le _) ⟨⟨_,Heap.get?_push_size _ rfl,rfl,rfl⟩,hl1.push _⟩ kp2 (noneS_ok (Heap.get?_push_of_some _ hS)) (fun q=>by simp) (Nat.zero_le _) fun s' ms hm k2 S2 mem2 _=>?_
        · rw [sz1]; simp only [List.mem_cons,List.not_mem_nil,or_false,not_or]; exact ⟨Nat.ne_of_lt (Nat.lt_succ_self _),Nat.ne_of_gt hlt⟩
        · rw [List.mem_singleton.mp hb,sz1]; exact no _ (Nat.le_succ _)
        · have hv':vs[i]? = some v:=by simpa using hv
          have hi:i < vs.length:=(List.getElem?_eq_some_iff.mp hv').1
          have:=paired_getD hT i hi
          rw [List.getD_eq_getElem?_getD,hv'] at this
          exact ⟨this,List.mem_of_getElem? hv'⟩
        · obtain ⟨h',g',d',tk',os'⟩:=s'
          have e1:g' = s.gens:=hm.gens
          have e2:d' = s.drawn:=hm.drawn
          have e3:os' = s.os:=hm.os
          subst e1; subst e2; subst e3
          refine wpAny_pure ?_
          refine wpAny_pure ⟨rfl,h',tk',ms,rfl,S2,fun q=>?_,k2⟩
          rw [mem2 q,List.size_toArray,L2.Paired.len hT]
          constructor
          · rintro ⟨j,hj,e⟩
            rw [List.getD_eq_getElem?_getD,List.getElem?_eq_getElem hj] at e
            exact e ▸ List.getElem_mem hj
          · intro hq
            obtain ⟨j,hj,e⟩:=List.getElem_of_mem hq
            exact ⟨j,hj,by rw [List.getD_eq_getElem?_getD,List.getElem?_eq_getElem hj]; exact e⟩
      · cases r₂ with
        | error e=>exact hr₂
        | ok fl₂ =>
          cases fl₂ with
          | next=>exact hr₂.elim
          | brk=>exact hr₂.elim
          | cont=>exact hr₂.elim
          | ret r =>
            obtain ⟨rfl,h',tk,ms,rfl,q1,q2,q3⟩:=hr₂
            repeat (any_goals first | assumption | wp_step)
            exact h _ _ _ q1 q2 q3
theorem nodup_lenB {α:Type} [DecidableEq α]:∀ {ms kss:List α},ms.Nodup → (∀ q ∈ ms,q ∈ kss) → ms.length ≤ kss.length
  | [],_,_,_=>Nat.zero_le _
  | a :: ms,kss,hn,h=>by
    have ha:=h a List.mem_cons_self
    have h1:=nodup_lenB (ms:=ms) (kss:=kss.erase a) (List.nodup_cons.mp hn).2 (fun q hq=>by
      have hne:q ≠ a:=fun z=>(List.nodup_cons.mp hn).1 (z ▸ hq)
      exact (List.mem_erase_of_ne hne).mpr (h q (List.mem_cons_of_mem _ hq)))
    rw [List.length_erase_of_mem ha] at h1
    have:=List.length_pos_of_mem ha
    simp only [List.length_cons]
    lia
end
end L2
namespace L2
open PySem PySem.Spec PyProof.Rows PySem.W PySem.SetTable
section
variable {prog:Program} {w:World} {Pv:Value → Prop} {A:Around} {E:Value → Shared → Prop} {s:Shared} {a:Addr} {o:Obj} {es:Array (Int × Value)} {ep:Nat} {t:SetTable} {m:Nat} {kss:List (List Int)}
end
section
variable {prog:Program} {w:World} {Pv:Value → Prop} {A:Around} {E:Value → Shared → Prop} {s:Shared} {S I:Addr} {o:Obj} {es:Array (Int × Value)} {ep:Nat} {t:SetTable} {m:Nat} {kss:List (List Int)}
end
end L2
namespace L2
open PySem PySem.Spec PyProof.Rows PySem.W PySem.SetTable
section
variable {prog:Program} {w:World} {Pv Pv':Value → Prop} {A:Around} {E:Value → Shared → Prop} {s:Shared} {S1 S2:Addr} {k1 k2:List (List Int)}
end
end L2
namespace L2
open PySem PySem.Spec PyProof.Rows
mutual
theorem Is.same {K:PySem.W.Frag} {H H':Hp} (s:Same H H'):∀ {v:V} {d:PyData},Is K H v d → Is K H' v d
  | _,_,.non=>.non
  | _,_,.bl b=>.bl b
  | _,_,.int i=>.int i
  | _,_,.str x=>.str x
  | _,_,.lst h hs=>.lst (Same.seq s h) (IsAll.same s hs)
  | _,_,.tup h hs=>.tup (by
      rcases h with (e | ⟨o,e⟩) | e
      · exact .inl (.inl (s _ _ e))
      · exact .inl (.inr ⟨o,s _ _ e⟩)
      · exact .inr e) (IsAll.same s hs)
  | _,_,.dc h=>.dc (s _ _ h)
theorem IsAll.same {K:PySem.W.Frag} {H H':Hp} (s:Same H H'):∀ {vs:List V} {ds:List PyData},IsAll K H vs ds → IsAll K H' vs ds
  | _,_,.nil=>.nil
  | _,_,.cons h hs=>.cons (Is.same s h) (IsAll.same s hs)
end
theorem IsAll.len {K:PySem.W.Frag} {H:Hp}:∀ {vs:List V} {ds:List PyData},IsAll K H vs ds → vs.length = ds.length
  | _,_,.nil=>rfl
  | _,_,.cons _ hs=>by simp [IsAll.len hs]
theorem IsAll.get {K:PySem.W.Frag} {H:Hp}:∀ {vs:List V} {ds:List PyData} {i:Nat} {v:V},IsAll K H vs ds → vs[i]? = some v → ∃ d,ds[i]? = some d ∧ Is K H v d
  | _,_,_,_,.nil,e=>by simp at e
  | _,_,0,_,.cons h _,e=>by simp at e; subst e; exact ⟨_,rfl,h⟩
  | _,_,i + 1,v,.cons _ t,e=>by
    obtain ⟨u,h1,h2⟩:=IsAll.get (i:=i) (v:=v) t (by simpa using e)
    exact ⟨u,by simpa using h1,h2⟩
theorem IsAll.get' {K:PySem.W.Frag} {H:Hp}:∀ {vs:List V} {ds:List PyData} {i:Nat} {d:PyData},IsAll K H vs ds → ds[i]? = some d → ∃ v,vs[i]? = some v ∧ Is K H v d
  | _,_,_,_,.nil,e=>by simp at e
  | _,_,0,_,.cons h _,e=>by simp at e; subst e; exact ⟨_,rfl,h⟩
  | _,_,i + 1,v,.cons _ t,e=>by
    obtain ⟨u,h1,h2⟩:=IsAll.get' (i:=i) (d:=v) t (by simpa using e)
    exact ⟨u,by simpa using h1,h2⟩
theorem IsAll.snoc {K:PySem.W.Frag} {H:Hp} {v:V} {d:PyData} (h:Is K H v d):∀ {vs:List V} {ds:List PyData},IsAll K H vs ds → IsAll K H (vs ++ [v]) (ds ++ [d])
  | _,_,.nil=>.cons h .nil
  | _,_,.cons a b=>.cons a (IsAll.snoc h b)
theorem IsAll.app {K:PySem.W.Frag} {H:Hp} {us:List V} {es:List PyData} (h:IsAll K H us es):∀ {vs:List V} {ds:List PyData},IsAll K H vs ds → IsAll K H (vs ++ us) (ds ++ es)
  | _,_,.nil=>h
  | _,_,.cons a b=>.cons a (IsAll.app h b)
theorem IsAll.drop {K:PySem.W.Frag} {H:Hp}:∀ {vs:List V} {ds:List PyData} (n:Nat),IsAll K H vs ds → IsAll K H (vs.drop n) (ds.drop n)
  | _,_,0,h=>h
  | _,_,_ + 1,.nil=>.nil
  | _,_,n + 1,.cons _ t=>IsAll.drop n t
theorem IsAll.take {K:PySem.W.Frag} {H:Hp}:∀ {vs:List V} {ds:List PyData} (n:Nat),IsAll K H vs ds → IsAll K H (vs.take n) (ds.take n)
  | _,_,0,h=>.nil
  | _,_,_ + 1,.nil=>.nil
  | _,_,n + 1,.cons h t=>.cons h (IsAll.take n t)
theorem IsAll.ints_of {K:PySem.W.Frag} {H:Hp}:∀ {vs:List V} {ns:List Int},IsAll K H vs (ns.map PyData.int) → vs = ns.map V.int
  | _,[],.nil=>rfl
  | _,_ :: _,.cons h t=>by cases h; rw [IsAll.ints_of t]; rfl
theorem IsAll.bools_of {K:PySem.W.Frag} {H:Hp}:∀ {vs:List V} {ns:List Bool},IsAll K H vs (ns.map PyData.bool) → vs = ns.map V.bl
  | _,[],.nil=>rfl
  | _,_ :: _,.cons h t=>by cases h; rw [IsAll.bools_of t]; rfl
structure Stb where
  R:V → Hp → Prop
  st:∀ v H H',Same H H' → R v H → R v H'
inductive En where
  | d (x:PyData)
  | m (a:Addr)
  | x (r:Stb)
  | ty (n:String)
structure MSt where
  R:Hp → HO → Prop
  st:∀ H H' u,Same H H' → R H u → R H' u
  nt:∀ H u xs,R H u → u ≠ .tup xs
  ml:∀ H H' a xs u,H a = some (.lst xs) → (∀ b o,H b = some o → b ≠ a → H' b = some o) → R H u → R H' u
inductive MO where
  | any (r:MSt)
  | pot (M:Int)
  | lst (ds:List PyData)
  | refs (as:List Addr)
  | dct (ks:List (List Int))
    | nmd (xs:List (Str × PyData))
    | ins (C dx:Addr) (fs:List (Str × En))
abbrev Mu:=List (Addr × MO)
def mask (μ:Mu) (H:Hp):Hp:=fun a=>if a ∈ μ.map Prod.fst then none else H a
theorem mask_nil {H:Hp}:mask [] H = H:=by funext a; simp [mask]
theorem mask_le {μ:Mu} {H:Hp}:Same (mask μ H) H:=fun b o e=>by
  unfold mask at e
  split at e
  · cases e
  · exact e
theorem mask_some {μ:Mu} {H:Hp} {b:Addr} {o:HO} (e:mask μ H b = some o):b ∉ μ.map Prod.fst ∧ H b = some o:=by
  unfold mask at e
  split at e
  · cases e
  · exact ⟨by assumption,e⟩
theorem mask_of {μ:Mu} {H:Hp} {b:Addr} (h:b ∉ μ.map Prod.fst):mask μ H b = H b:=by unfold mask; rw [if_neg h]
theorem mask_sub {μ μ':Mu} {H:Hp} (h:∀ a,a ∈ μ'.map Prod.fst → a ∈ μ.map Prod.fst):Same (mask μ H) (mask μ' H):=fun b o e=>by
  obtain ⟨h1,h2⟩:=mask_some e
  rw [mask_of (fun z=>h1 (h _ z))]; exact h2
def IsE (K:PySem.W.Frag) (μ:Mu) (H:Hp) (v:V):En → Prop
  | .d x=>Is K (mask μ H) v x
  | .m a=>v = .ref a
  | .x r=>r.R v (mask μ H)
  | .ty n=>v = .ty n
theorem IsE.same {K:PySem.W.Frag} {μ μ':Mu} {H H':Hp} {v:V} {e:En} (s:Same (mask μ H) (mask μ' H')) (h:IsE K μ H v e):IsE K μ' H' v e:=by
  cases e with
  | d x=>exact Is.same s h
  | m a=>exact h
  | x r=>exact r.st _ _ _ s h
  | ty n=>exact h
def FldR (K:PySem.W.Frag) (μ:Mu) (H:Hp) (x:Str × V) (y:Str × En):Prop:=x.1 = y.1 ∧ IsE K μ H x.2 y.2
theorem FldR.all {K:PySem.W.Frag} {μ μ':Mu} {H H':Hp} (s:Same (mask μ H) (mask μ' H')):∀ {vs:List (Str × V)} {fs:List (Str × En)},PySem.Paired (FldR K μ H) vs fs → PySem.Paired (FldR K μ' H') vs fs
  | _,_,.nil=>.nil
  | _,_,.cons h t=>.cons ⟨h.1,h.2.same s⟩ (FldR.all s t)
def NmR (K:PySem.W.Frag) (H:Hp) (x:Key × V) (y:Str × PyData):Prop:=x.1 = Sum.inr y.1 ∧ Is K H x.2 y.2
def ObjR (K:PySem.W.Frag) (μ:Mu) (H:Hp) (a:Addr):MO → Prop
  | .any r=>∃ u,H a = some u ∧ r.R (mask μ H) u
  | .pot M=>Pot M H a
  | .lst ds=>∃ xs,H a = some (.lst xs) ∧ IsAll K (mask μ H) xs ds
  | .refs as=>H a = some (.lst (as.map V.ref))
  | .dct ks=>H a = some (.dT (ks.map fun ns=>(ns.map Sum.inl,V.bl true)))
  | .nmd xs=>∃ kvs:List (Key × V),H a = some (.dK kvs) ∧ PySem.Paired (NmR K (mask μ H)) kvs xs
  | .ins C dx fs=>∃ vs,H a = some (.ins C dx vs) ∧ PySem.Paired (FldR K μ H) vs fs
theorem ObjR.some {K:PySem.W.Frag} {μ:Mu} {H:Hp} {a:Addr} {o:MO} (h:ObjR K μ H a o):∃ u,H a = some u:=by
  cases o with
  | any r=>obtain ⟨u,e,_⟩:=h; exact ⟨_,e⟩
  | pot M=>obtain ⟨p0,p1,e,_⟩:=h; exact ⟨_,e⟩
  | lst ds=>obtain ⟨xs,e,_⟩:=h; exact ⟨_,e⟩
  | refs as=>exact ⟨_,h⟩
  | dct kvs=>exact ⟨_,h⟩
  | nmd xs=>obtain ⟨vs,e,_⟩:=h; exact ⟨_,e⟩
  | ins C dx fs=>obtain ⟨vs,e,_⟩:=h; exact ⟨_,e⟩
structure RelM (K:PySem.W.Frag) (μ:Mu) (H:Hp):Prop where
  nd:(μ.map Prod.fst).Nodup
  ob:∀ a o,(a,o) ∈ μ → ObjR K μ H a o
theorem RelM.nil {K:PySem.W.Frag} {H:Hp}:RelM K [] H:=⟨by simp,fun _ _ h=>nomatch h⟩
theorem ObjR.same {K:PySem.W.Frag} {μ μ':Mu} {H H':Hp} {a:Addr} {o:MO} (s:Same (mask μ H) (mask μ' H')) (e:H' a = H a) (h:ObjR K μ H a o):ObjR K μ' H' a o:=by
  cases o with
  | any r=>obtain ⟨u,q,z⟩:=h; exact ⟨u,e.trans q,r.st _ _ _ s z⟩
  | pot M=>obtain ⟨p0,p1,q,r⟩:=h; exact ⟨p0,p1,e.trans q,r⟩
  | lst ds=>obtain ⟨xs,q,r⟩:=h; exact ⟨xs,e.trans q,IsAll.same s r⟩
  | refs as=>exact e.trans h
  | dct kvs=>exact e.trans h
  | nmd xs=>obtain ⟨vs,q,r⟩:=h; exact ⟨vs,e.trans q,Paired.mapP r fun _ _ z=>⟨z.1,Is.same s z.2⟩⟩
  | ins C dx fs=>obtain ⟨vs,q,r⟩:=h; exact ⟨vs,e.trans q,FldR.all s r⟩
theorem RelM.same {K:PySem.W.Frag} {μ:Mu} {H H':Hp} (h:RelM K μ H) (s:Same H H'):RelM K μ H' ∧ Same (mask μ H) (mask μ H'):=by
  have ss:Same (mask μ H) (mask μ H'):=fun b o e=>by
    obtain ⟨h1,h2⟩:=mask_some e
    rw [mask_of h1]; exact s _ _ h2
  refine ⟨⟨h.nd,fun a o ho=>?_⟩,ss⟩
  have:=h.ob a o ho
  obtain ⟨xs,e⟩:=this.some
  exact this.same ss ((s _ _ e).trans e.symm)
theorem RelM.laid {K:PySem.W.Frag} {μ:Mu} {H:Hp} {p:Addr} {o:HO} (h:RelM K μ H) (e:H p = none):RelM K μ (upd H p o) ∧ Same (mask μ H) (mask μ (upd H p o)) ∧ p ∉ μ.map Prod.fst:=by
  obtain ⟨h1,h2⟩:=h.same (Same.upd (o:=o) e)
  refine ⟨h1,h2,fun z=>?_⟩
  obtain ⟨⟨a,q⟩,hq,rfl⟩:=List.mem_map.mp z
  obtain ⟨xs,e'⟩:=(h.ob a q hq).some
  rw [e'] at e; cases e
theorem mem_key {μ:Mu} {a:Addr} {o:MO} (h:(a,o) ∈ μ):a ∈ μ.map Prod.fst:=List.mem_map.mpr ⟨_,h,rfl⟩
theorem RelM.write {K:PySem.W.Frag} {μ1 μ2:Mu} {H H':Hp} {a:Addr} {o o':MO} (h:RelM K (μ1 ++ (a,o) :: μ2) H) (k:∀ b u,H b = some u → b ≠ a → H' b = some u)
    (new:Same (mask (μ1 ++ (a,o) :: μ2) H) (mask (μ1 ++ (a,o') :: μ2) H') → ObjR K (μ1 ++ (a,o') :: μ2) H' a o') :
    RelM K (μ1 ++ (a,o') :: μ2) H' ∧ Same (mask (μ1 ++ (a,o) :: μ2) H) (mask (μ1 ++ (a,o') :: μ2) H'):=by
  have ks:(μ1 ++ (a,o') :: μ2).map Prod.fst = (μ1 ++ (a,o) :: μ2).map Prod.fst:=by simp
  have ss:Same (mask (μ1 ++ (a,o) :: μ2) H) (mask (μ1 ++ (a,o') :: μ2) H'):=fun b u e=>by
    obtain ⟨h1,h2⟩:=mask_some e
    rw [mask_of (by rw [ks]; exact h1)]
    exact k b u h2 fun z=>h1 (by rw [z]; simp)
  refine ⟨⟨by rw [ks]; exact h.nd,fun b q hq=>?_⟩,ss⟩
  have nd:=h.nd
  simp only [List.map_append,List.map_cons,List.nodup_append,List.nodup_cons] at nd
  have hcase:(b,q) = (a,o') ∨ ((b,q) ∈ μ1 ++ (a,o) :: μ2 ∧ b ≠ a):=by
    rcases List.mem_append.mp hq with z | z
    · exact .inr ⟨List.mem_append_left _ z,fun e=>nd.2.2 b (mem_key z) a (by simp) e⟩
    · rcases List.mem_cons.mp z with z | z
      · exact .inl z
      · exact .inr ⟨List.mem_append_right _ (List.mem_cons_of_mem _ z),fun e=>nd.2.1.1 (e ▸ mem_key z)⟩
  rcases hcase with z | ⟨z,hne⟩
  · cases z; exact new ss
  · have:=h.ob b q z
    obtain ⟨xs,e⟩:=this.some
    exact this.same ss ((k b _ e hne).trans e.symm)
theorem RelM.drop {K:PySem.W.Frag} {μ1 μ2:Mu} {H:Hp} {a:Addr} {o:MO} (h:RelM K (μ1 ++ (a,o) :: μ2) H):RelM K (μ1 ++ μ2) H ∧ Same (mask (μ1 ++ (a,o) :: μ2) H) (mask (μ1 ++ μ2) H) ∧ a ∉ (μ1 ++ μ2).map Prod.fst:=by
  have nd:=h.nd
  have ss:Same (mask (μ1 ++ (a,o) :: μ2) H) (mask (μ1 ++ μ2) H):=mask_sub fun b hb=>by
    simp only [List.map_append,List.map_cons,List.mem_append,List.mem_cons] at *
    rcases hb with z | z
    · exact .inl z
    · exact .inr (.inr z)
  simp only [List.map_append,List.map_cons,List.nodup_append,List.nodup_cons] at nd
  refine ⟨⟨?_,fun b q hq=>?_⟩,ss,?_⟩
  · simp only [List.map_append,List.nodup_append]
    exact ⟨nd.1,nd.2.1.2,fun x hx y hy=>nd.2.2 x hx y (List.mem_cons_of_mem _ hy)⟩
  · have:(b,q) ∈ μ1 ++ (a,o) :: μ2:=by
      rcases List.mem_append.mp hq with z | z
      · exact List.mem_append_left _ z
      · exact List.mem_append_right _ (List.mem_cons_of_mem _ z)
    exact (h.ob b q this).same ss rfl
  · simp only [List.map_append,List.mem_append,not_or]
    exact ⟨fun z=>nd.2.2 a z a (by simp) rfl,nd.2.1.1⟩
theorem RelM.new {K:PySem.W.Frag} {μ:Mu} {H:Hp} {p:Addr} {u:HO} {o:MO} (h:RelM K μ H) (e:H p = none) (new:Same (mask μ H) (mask ((p,o) :: μ) (upd H p u)) → ObjR K ((p,o) :: μ) (upd H p u) p o) :
    RelM K ((p,o) :: μ) (upd H p u) ∧ Same (mask μ H) (mask ((p,o) :: μ) (upd H p u)):=by
  obtain ⟨h1,h2,h3⟩:=h.laid (o:=u) e
  have ss:Same (mask μ H) (mask ((p,o) :: μ) (upd H p u)):=fun b q z=>by
    obtain ⟨z1,z2⟩:=mask_some z
    have hb:b ≠ p:=ne_of_none z2 e
    rw [mask_of (by simp only [List.map_cons,List.mem_cons,not_or]; exact ⟨hb,z1⟩),upd_ne hb]; exact z2
  refine ⟨⟨by simp only [List.map_cons,List.nodup_cons]; exact ⟨h3,h.nd⟩,fun b q hq=>?_⟩,ss⟩
  rcases List.mem_cons.mp hq with z | z
  · cases z; exact new ss
  · have:=h.ob b q z
    obtain ⟨xs,e'⟩:=this.some
    exact this.same ss (upd_ne (ne_of_none e' e))
abbrev Rho:=List (Option En)
structure RelS (K:PySem.W.Frag) (ρ:Rho) (μ:Mu) (σ:St) (H:Hp):Prop where
  len:ρ.length = σ.length
  get:∀ (i:Nat) (e:En),ρ[i]? = some (some e) → ∃ v,σ[i]? = some (some v) ∧ IsE K μ H v e
theorem RelS.same {K:PySem.W.Frag} {ρ:Rho} {μ μ':Mu} {σ:St} {H H':Hp} (h:RelS K ρ μ σ H) (s:Same (mask μ H) (mask μ' H')):RelS K ρ μ' σ H' :=
  ⟨h.len,fun i e q=>let ⟨v,e1,e2⟩:=h.get i e q; ⟨v,e1,e2.same s⟩⟩
theorem RelS.set {K:PySem.W.Frag} {ρ:Rho} {μ:Mu} {σ:St} {H:Hp} {i:Nat} {v:V} {e:En} (h:RelS K ρ μ σ H) (r:IsE K μ H v e):RelS K (ρ.set i (some e)) μ (σ.set i (some v)) H:=by
  refine ⟨by simp [h.len],fun j x q=>?_⟩
  by_cases hj:i = j
  · subst hj
    have hi:i < ρ.length:=by
      have:=(List.getElem?_eq_some_iff.mp q).1
      simpa using this
    rw [List.getElem?_set_self (by rw [← h.len]; exact hi)]
    rw [List.getElem?_set_self hi] at q
    cases q
    exact ⟨v,rfl,r⟩
  · rw [List.getElem?_set_ne hj] at *
    exact h.get j x q
def Wk (ρ:Rho) (μ:Mu) (ρ':Rho) (μ':Mu):Prop:=∀ (K:PySem.W.Frag) (σ:St) (H:Hp),RelS K ρ μ σ H → RelM K μ H → RelS K ρ' μ' σ H ∧ RelM K μ' H ∧ Same (mask μ H) (mask μ' H)
theorem Wk.refl {ρ:Rho} {μ:Mu}:Wk ρ μ ρ μ:=fun _ _ _ h1 h2=>⟨h1,h2,Same.refl _⟩
abbrev TEd:=Rho → Mu → (En → Mu → Prop) → Prop
abbrev TTd:=Rho → Mu → (Bool → Mu → Prop) → Prop
abbrev TAd:=Rho → Mu → (List En → Mu → Prop) → Prop
structure EndsD where
  nx:Rho → Mu → Prop
  rt:En → Mu → Prop
  bk:Rho → Mu → Prop:=fun _ _=>False
  ct:Rho → Mu → Prop:=fun _ _=>False
abbrev TSd:=EndsD → Rho → Mu → Prop
def Cl (K:PySem.W.Frag) (μ:Mu) (H:Hp) (Q0:En → Mu → Prop) (Q:VK):Prop:=∀ e μ' v H',Q0 e μ' → RelM K μ' H' → Same (mask μ H) (mask μ' H') → IsE K μ' H' v e → Q v H'
def ClT (K:PySem.W.Frag) (μ:Mu) (H:Hp) (Q0:Bool → Mu → Prop) (Q:Bool → Hp → Prop):Prop:=∀ b μ' H',Q0 b μ' → RelM K μ' H' → Same (mask μ H) (mask μ' H') → Q b H'
def ClA (K:PySem.W.Frag) (μ:Mu) (H:Hp) (Q0:List En → Mu → Prop) (Q:List V → Hp → Prop):Prop:=∀ es μ' vs H',Q0 es μ' → RelM K μ' H' → Same (mask μ H) (mask μ' H') → Paired (IsE K μ' H') vs es → Q vs H'
def ClR (K:PySem.W.Frag) (μ:Mu) (H:Hp) (Q0:Rho → Mu → Prop) (Q:St → Hp → Prop):Prop:=∀ ρ' μ' σ' H',Q0 ρ' μ' → RelS K ρ' μ' σ' H' → RelM K μ' H' → Same (mask μ H) (mask μ' H') → Q σ' H'
structure ClS (K:PySem.W.Frag) (μ:Mu) (H:Hp) (D0:EndsD) (D:Ends):Prop where
  nx:ClR K μ H D0.nx D.nx
  rt:Cl K μ H D0.rt D.rt
  bk:ClR K μ H D0.bk D.bk
  ct:ClR K μ H D0.ct D.ct
theorem Cl.same {K:PySem.W.Frag} {μ μ1:Mu} {H H1:Hp} {Q0:En → Mu → Prop} {Q:VK} (h:Cl K μ H Q0 Q) (s:Same (mask μ H) (mask μ1 H1)):Cl K μ1 H1 Q0 Q:=fun e μ' v H' a b c d=>h e μ' v H' a b (s.trans c) d
theorem ClT.same {K:PySem.W.Frag} {μ μ1:Mu} {H H1:Hp} {Q0:Bool → Mu → Prop} {Q:Bool → Hp → Prop} (h:ClT K μ H Q0 Q) (s:Same (mask μ H) (mask μ1 H1)):ClT K μ1 H1 Q0 Q:=fun e μ' H' a b c=>h e μ' H' a b (s.trans c)
theorem ClR.same {K:PySem.W.Frag} {μ μ1:Mu} {H H1:Hp} {Q0:Rho → Mu → Prop} {Q:St → Hp → Prop} (h:ClR K μ H Q0 Q) (s:Same (mask μ H) (mask μ1 H1)):ClR K μ1 H1 Q0 Q:=fun e μ' v H' a b c d=>h e μ' v H' a b c (s.trans d)
theorem ClS.same {K:PySem.W.Frag} {μ μ1:Mu} {H H1:Hp} {D0:EndsD} {D:Ends} (h:ClS K μ H D0 D) (s:Same (mask μ H) (mask μ1 H1)):ClS K μ1 H1 D0 D:=⟨h.nx.same s,h.rt.same s,h.bk.same s,h.ct.same s⟩
def up (K:PySem.W.Frag) (t:TEd):TE:=fun σ H Q=>∃ ρ μ Q0,RelS K ρ μ σ H ∧ RelM K μ H ∧ t ρ μ Q0 ∧ Cl K μ H Q0 Q
def upT (K:PySem.W.Frag) (t:TTd):TT:=fun σ H Q=>∃ ρ μ Q0,RelS K ρ μ σ H ∧ RelM K μ H ∧ t ρ μ Q0 ∧ ClT K μ H Q0 Q
def upA (K:PySem.W.Frag) (t:TAd):TA:=fun σ H Q=>∃ ρ μ Q0,RelS K ρ μ σ H ∧ RelM K μ H ∧ t ρ μ Q0 ∧ ClA K μ H Q0 Q
def upS (K:PySem.W.Frag) (t:TSd):TS:=fun D σ H=>∃ ρ μ D0,RelS K ρ μ σ H ∧ RelM K μ H ∧ t D0 ρ μ ∧ ClS K μ H D0 D
def DE (K:PySem.W.Frag) (X:Cx) (e:Expr) (t:TEd):Prop:=PE X e (up K t)
def DT (K:PySem.W.Frag) (X:Cx) (e:Expr) (t:TTd):Prop:=PT X e (upT K t)
def DW (K:PySem.W.Frag) (X:Cx) (e:Expr) (t:TTd):Prop:=PW X e (upT K t)
def DA (K:PySem.W.Frag) (X:Cx) (es:List Expr) (t:TAd):Prop:=PA X es (upA K t)
def DS (K:PySem.W.Frag) (X:Cx) (st:Stmt) (t:TSd):Prop:=PS X st (upS K t)
def DSs (K:PySem.W.Frag) (X:Cx) (st:List Stmt) (t:TSd):Prop:=PSs X st (upS K t)
section
variable {X:Cx} {K:PySem.W.Frag}
theorem PE.mono {e:Expr} {t t':TE} (h:PE X e t) (f:∀ σ H Q,t' σ H Q → t σ H Q):PE X e t':=fun pins s σ H Q I q=>h pins s σ H Q I (f _ _ _ q)
theorem PT.mono {e:Expr} {t t':TT} (h:PT X e t) (f:∀ σ H Q,t' σ H Q → t σ H Q):PT X e t':=fun pins s σ H Q I q=>h pins s σ H Q I (f _ _ _ q)
theorem PW.mono {e:Expr} {t t':TT} (h:PW X e t) (f:∀ σ H Q,t' σ H Q → t σ H Q):PW X e t':=fun wh pins s σ H Q I q=>h wh pins s σ H Q I (f _ _ _ q)
theorem PA.mono {e:List Expr} {t t':TA} (h:PA X e t) (f:∀ σ H Q,t' σ H Q → t σ H Q):PA X e t':=fun p pins s σ H Q I q=>h p pins s σ H Q I (f _ _ _ q)
theorem PS.mono {e:Stmt} {t t':TS} (h:PS X e t) (f:∀ D σ H,t' D σ H → t D σ H):PS X e t':=fun pins s σ H D I q=>h pins s σ H D I (f _ _ _ q)
theorem PSs.mono {e:List Stmt} {t t':TS} (h:PSs X e t) (f:∀ D σ H,t' D σ H → t D σ H):PSs X e t':=fun pins s σ H D I q=>h pins s σ H D I (f _ _ _ q)
theorem OpR.mono {f:Value → Value → Sem Value} {r r':R2} (h:OpR X f r) (g:∀ x y H Q,r' x y H Q → r x y H Q):OpR X f r':=fun pins s σ H x y v u Q I a b c=>h pins s σ H x y v u Q I a b (g _ _ _ _ c)
theorem UnR.mono {f:Value → Sem Value} {r r':V → Hp → VK → Prop} (h:UnR X f r) (g:∀ x H Q,r' x H Q → r x H Q):UnR X f r':=fun pins s σ H x v Q I a c=>h pins s σ H x v Q I a (g _ _ _ c)
theorem CallR.mono {f:Value} {r r':List V → Hp → VK → Prop} (h:CallR X f r) (g:∀ x H Q,r' x H Q → r x H Q):CallR X f r':=fun pins s σ H x v Q I a c=>h pins s σ H x v Q I a (g _ _ _ c)
theorem IxR.mono {r r':R2} (h:IxR X r) (g:∀ x y H Q,r' x y H Q → r x y H Q):IxR X r':=fun a b pins s σ H x y v u Q I p q c=>h a b pins s σ H x y v u Q I p q (g _ _ _ _ c)
def dVar (i:Nat):TEd:=fun ρ μ Q=>match ρ[i]? with
  | some (some e)=>Q e μ
  | _=>False
def dC (x:PyData):TEd:=fun _ μ Q=>Q (.d x) μ
theorem dv (i:Nat) {x:Str} {pos:Pos} (hN:X.N[i]? = some x:=by rfl) (hv:Vis X.env.scope x:=by first | exact Or.inl rfl | exact Or.inr (Or.inl rfl) | exact Or.inr (Or.inr rfl)) (hd:(x == ("__debug__" : Str)) = false:=by decide)
    (hcd:(x == ("__classdict__" : Str)) = false:=by decide):DE K X (.Name x pos) (dVar i):=by
  refine PE.mono (pe_var hN hv hd hcd) fun σ H Q hq9=>?_
  obtain ⟨ρ,μ,Q0,hS,hM,h,cl⟩:=hq9
  unfold dVar at h
  split at h
  · rename_i e he
    obtain ⟨v,e1,e2⟩:=hS.get i e he
    exact ⟨v,e1,cl e μ v H h hM (Same.refl _) e2⟩
  · exact h.elim
theorem d_int {i:Int} {j pos}:DE K X (.Constant (.int i) j pos) (dC (.int i)):=PE.mono pe_int fun σ H Q ⟨ρ,μ,Q0,hS,hM,h,cl⟩=>cl _ μ (.int i) H h hM (Same.refl _) (.int i)
theorem d_bl {b:Bool} {j pos}:DE K X (.Constant (.bool b) j pos) (dC (.bool b)):=PE.mono pe_bl fun σ H Q ⟨ρ,μ,Q0,hS,hM,h,cl⟩=>cl _ μ (.bl b) H h hM (Same.refl _) (.bl b)
theorem d_non {j pos}:DE K X (.Constant .none j pos) (dC .none):=PE.mono pe_non fun σ H Q ⟨ρ,μ,Q0,hS,hM,h,cl⟩=>cl _ μ .non H h hM (Same.refl _) .non
theorem d_str {x:Str} {j pos}:DE K X (.Constant (.str x) j pos) (dC (.str x)):=PE.mono pe_str fun σ H Q ⟨ρ,μ,Q0,hS,hM,h,cl⟩=>cl _ μ (.str x) H h hM (Same.refl _) (.str x)
theorem up2 {σ:St} {H:Hp} {ta tb:TEd} {R:V → V → Hp → Prop} {ρ:Rho} {μ:Mu} {R0:En → En → Mu → Prop} (hS:RelS K ρ μ σ H) (hM:RelM K μ H) (h:ta ρ μ fun x μ1=>tb ρ μ1 fun y μ2=>R0 x y μ2)
    (f:∀ x y μ2 v u H2,R0 x y μ2 → RelM K μ2 H2 → Same (mask μ H) (mask μ2 H2) → IsE K μ2 H2 v x → IsE K μ2 H2 u y → R v u H2):up K ta σ H fun v H1=>up K tb σ H1 fun u H2=>R v u H2:=by
  refine ⟨ρ,μ,_,hS,hM,h,fun x μ1 v H1 q1 M1 s1 i1=>⟨ρ,μ1,_,hS.same s1,M1,q1,fun y μ2 u H2 q2 M2 s2 i2=>?_⟩⟩
  exact f x y μ2 v u H2 q2 M2 (s1.trans s2) (i1.same s2) i2
abbrev R2d:=En → En → Mu → (En → Mu → Prop) → Prop
abbrev R1d:=En → Mu → (En → Mu → Prop) → Prop
abbrev RAd:=List En → Mu → (En → Mu → Prop) → Prop
def upR (K:PySem.W.Frag) (r:R2d):R2:=fun x y H Q=>∃ μ e e' Q0,RelM K μ H ∧ IsE K μ H x e ∧ IsE K μ H y e' ∧ r e e' μ Q0 ∧ Cl K μ H Q0 Q
def upU (K:PySem.W.Frag) (r:R1d):V → Hp → VK → Prop:=fun x H Q=>∃ μ e Q0,RelM K μ H ∧ IsE K μ H x e ∧ r e μ Q0 ∧ Cl K μ H Q0 Q
def upC (K:PySem.W.Frag) (r:RAd):List V → Hp → VK → Prop:=fun xs H Q=>∃ μ es Q0,RelM K μ H ∧ Paired (IsE K μ H) xs es ∧ r es μ Q0 ∧ Cl K μ H Q0 Q
variable {a b c:Expr} {ta tb tc:TEd} {pos:Pos}
def dOp (r:R2d) (ta tb:TEd):TEd:=fun ρ μ Q=>ta ρ μ fun x μ1=>tb ρ μ1 fun y μ2=>r x y μ2 Q
def dUn (r:R1d) (ta:TEd):TEd:=fun ρ μ Q=>ta ρ μ fun x μ1=>r x μ1 Q
theorem up_op {r:R2d} {σ:St} {H:Hp} {Q:VK} (h:up K (dOp r ta tb) σ H Q):tOp (upR K r) (up K ta) (up K tb) σ H Q:=by
  obtain ⟨ρ,μ,Q0,hS,hM,h,cl⟩:=h
  exact up2 hS hM h fun x y μ2 v u H2 q M2 s2 i1 i2=>⟨μ2,x,y,Q0,M2,i1,i2,q,cl.same s2⟩
theorem d_op {op:Operator} {r:R2d} (ho:OpR X (binaryOp op) (upR K r)) (ha:DE K X a ta) (hb:DE K X b tb):DE K X (.BinOp a op b pos) (dOp r ta tb):=PE.mono (pe_op ho ha hb) fun _ _ _=>up_op
theorem d_cmp {op:CmpOp} {r:R2d} (ho:OpR X (compareOp op) (upR K r)) (ha:DE K X a ta) (hb:DE K X b tb) (hm:behindInMarks op b = false):DE K X (.Compare a [op] [b] pos) (dOp r ta tb):=PE.mono (pe_cmpR ho ha hb hm) fun _ _ _=>up_op
def dTest (t:TEd):TTd:=fun ρ μ Q=>t ρ μ fun e μ1=>match e with
  | .d (.bool k)=>Q k μ1
  | _=>False
theorem up_test {t:TEd} {σ:St} {H:Hp} {Q:Bool → Hp → Prop} (h:upT K (dTest t) σ H Q):up K t σ H fun x H1=>∃ k,x = .bl k ∧ Q k H1:=by
  obtain ⟨ρ,μ,Q0,hS,hM,h,cl⟩:=h
  refine ⟨ρ,μ,_,hS,hM,h,fun e μ1 v H1 q M1 s1 i1=>?_⟩
  split at q
  · cases i1
    exact ⟨_,rfl,cl _ μ1 H1 q M1 s1⟩
  · exact q.elim
theorem dt_cmp {op:CmpOp} {r:R2d} (ho:OpR X (compareOp op) (upR K r)) (ha:DE K X a ta) (hb:DE K X b tb) (hm:behindInMarks op b = false):DT K X (.Compare a [op] [b] pos) (dTest (dOp r ta tb)):=by
  refine PT.mono (pt_cmpR ho ha hb hm) fun σ H Q h=>?_
  obtain ⟨ρ,μ,Q0,hS,hM,h,cl⟩:=h
  refine up2 hS hM h fun x y μ2 v u H2 q M2 s2 i1 i2=>⟨μ2,x,y,_,M2,i1,i2,q,fun e μ3 w H3 q3 M3 s3 i3=>?_⟩
  split at q3
  · cases i3
    exact ⟨_,rfl,cl _ μ3 H3 q3 M3 (s2.trans s3)⟩
  · exact q3.elim
theorem dt_val {t:TEd} (h:DE K X a t) (he:∀ whole,isTrue a X.env whole = (do let v ← whole; standAt a.pos; holding [v] (truthy v)):=by intro _; rfl):DT K X a (dTest t):=PT.mono (pt_val h he) fun _ _ _=>up_test
theorem d_un {op:UnaryOp} {r:R1d} (ho:UnR X (unaryOp op) (upU K r)) (ha:DE K X a ta):DE K X (.UnaryOp op a pos) (dUn r ta):=by
  refine PE.mono (pe_un ho ha) fun σ H Q hq9=>?_
  obtain ⟨ρ,μ,Q0,hS,hM,h,cl⟩:=hq9
  exact ⟨ρ,μ,_,hS,hM,h,fun e μ1 v H1 q M1 s1 i1=>⟨μ1,e,Q0,M1,i1,q,cl.same s1⟩⟩
def rdI (C:Int → Int → Prop) (g:Int → Int → PyData):R2d:=fun x y μ Q=>match x,y with
  | .d (.int i),.d (.int j)=>C i j ∧ Q (.d (g i j)) μ
  | _,_=>False
def rdI0 (g:Int → Int → PyData):R2d:=fun x y μ Q=>match x,y with
  | .d (.int i),.d (.int j)=>Q (.d (g i j)) μ
  | _,_=>False
def rdU (g:Int → PyData):R1d:=fun x μ Q=>match x with
  | .d (.int i)=>Q (.d (g i)) μ
  | _=>False
theorem up_rI {C:Int → Int → Prop} {g:Int → Int → Int} {x y:V} {H:Hp} {Q:VK} (h:upR K (rdI C fun i j=>.int (g i j)) x y H Q):rI C (fun i j=>.int (g i j)) x y H Q:=by
  obtain ⟨μ,e,e',Q0,M,i1,i2,q,cl⟩:=h
  unfold rdI at q
  split at q
  · cases i1; cases i2
    exact ⟨_,_,rfl,rfl,q.1,cl _ μ _ H q.2 M (Same.refl _) (.int _)⟩
  · exact q.elim
theorem up_rI0 {g:Int → Int → Int} {x y:V} {H:Hp} {Q:VK} (h:upR K (rdI0 fun i j=>.int (g i j)) x y H Q):rI0 (fun i j=>.int (g i j)) x y H Q:=by
  obtain ⟨μ,e,e',Q0,M,i1,i2,q,cl⟩:=h
  unfold rdI0 at q
  split at q
  · cases i1; cases i2
    exact ⟨_,_,rfl,rfl,cl _ μ _ H q M (Same.refl _) (.int _)⟩
  · exact q.elim
theorem up_rB0 {g:Int → Int → Bool} {x y:V} {H:Hp} {Q:VK} (h:upR K (rdI0 fun i j=>.bool (g i j)) x y H Q):rI0 (fun i j=>.bl (g i j)) x y H Q:=by
  obtain ⟨μ,e,e',Q0,M,i1,i2,q,cl⟩:=h
  unfold rdI0 at q
  split at q
  · cases i1; cases i2
    exact ⟨_,_,rfl,rfl,cl _ μ _ H q M (Same.refl _) (.bl _)⟩
  · exact q.elim
theorem do_add:OpR X (binaryOp .Add) (upR K (rdI0 fun i j=>.int (i + j))):=op_add.mono fun _ _ _ _=>up_rI0
theorem do_sub:OpR X (binaryOp .Sub) (upR K (rdI0 fun i j=>.int (i - j))):=op_sub.mono fun _ _ _ _=>up_rI0
theorem do_mul:OpR X (binaryOp .Mult) (upR K (rdI CMulB fun i j=>.int (i * j))):=op_mulB.mono fun _ _ _ _=>up_rI
theorem do_fdiv:OpR X (binaryOp .FloorDiv) (upR K (rdI CDivB fun i j=>.int (i.fdiv j))):=op_fdivB.mono fun _ _ _ _=>up_rI
theorem do_mod:OpR X (binaryOp .Mod) (upR K (rdI (fun _ j=>0 < j) fun i j=>.int (i % j))):=op_mod.mono fun _ _ _ _=>up_rI
theorem do_pow:OpR X (binaryOp .Pow) (upR K (rdI CPow fun i j=>.int (i ^ j.toNat))):=op_pow.mono fun _ _ _ _=>up_rI
theorem do_lt:OpR X (compareOp .Lt) (upR K (rdI0 fun i j=>.bool (decide (i < j)))):=op_lt.mono fun _ _ _ _=>up_rB0
theorem do_gt:OpR X (compareOp .Gt) (upR K (rdI0 fun i j=>.bool (decide (j < i)))):=op_gt.mono fun _ _ _ _=>up_rB0
theorem do_ge:OpR X (compareOp .GtE) (upR K (rdI0 fun i j=>.bool (decide (j ≤ i)))):=op_ge.mono fun _ _ _ _=>up_rB0
theorem du_neg:UnR X (unaryOp .USub) (upU K (rdU fun i=>.int (-i))):=un_neg.mono fun x H Q h=>by
  obtain ⟨μ,e,Q0,M,i1,q,cl⟩:=h
  unfold rdU at q
  split at q
  · cases i1
    exact ⟨_,rfl,cl _ μ _ H q M (Same.refl _) (.int _)⟩
  · exact q.elim
inductive LstOf (μ:Mu):En → List PyData → Prop
  | d (ds:List PyData):LstOf μ (.d (.list ds)) ds
  | m {a:Addr} {ds:List PyData} (h:(a,.lst ds) ∈ μ):LstOf μ (.m a) ds
theorem LstOf.get {μ:Mu} {e:En} {ds:List PyData} {H:Hp} {v:V} (h:LstOf μ e ds) (M:RelM K μ H) (i:IsE K μ H v e):∃ p xs,v = .ref p ∧ SqL K H p xs ∧ IsAll K (mask μ H) xs ds:=by
  cases h with
  | d ds =>
    cases i with
    | lst h hs=>exact ⟨_,_,rfl,Same.seq mask_le h,hs⟩
  | m h =>
    obtain ⟨xs,e,hs⟩:=M.ob _ _ h
    exact ⟨_,xs,i,SqL.of e,hs⟩
inductive DatOf (μ:Mu):En → PyData → Prop
  | d (x:PyData):DatOf μ (.d x) x
  | m {a:Addr} {ds:List PyData} (h:(a,.lst ds) ∈ μ):DatOf μ (.m a) (.list ds)
theorem DatOf.is {μ:Mu} {e:En} {x:PyData} {H:Hp} {v:V} (h:DatOf μ e x) (M:RelM K μ H) (i:IsE K μ H v e):Is K H v x:=by
  cases h with
  | d x=>exact Is.same mask_le i
  | m h =>
    obtain ⟨xs,e,hs⟩:=M.ob _ _ h
    have i:v = _:=i
    subst i
    exact .lst (SqL.of e) (IsAll.same mask_le hs)
def rdEq (neg:Bool):R2d:=fun x y μ Q=>match x,y with
  | .d (.int i),.d (.int j)=>Q (.d (.bool (if neg then !decide (i = j) else decide (i = j)))) μ
  | _,_=>∃ d d',DatOf μ x d ∧ DatOf μ y d' ∧ SeqAt.shaped d = true ∧ SeqAt.shaped d' = true ∧ Q (.d (.bool (if neg then !PyData.eqv d d' else PyData.eqv d d'))) μ
theorem eqv_int (i j:Int):PyData.eqv (.int i) (.int j) = decide (i = j):=by
  by_cases h:i = j <;> simp [PyData.eqv,h]
theorem rdEq_dat {neg:Bool} {x y:En} {μ:Mu} {Q:En → Mu → Prop} (h:rdEq neg x y μ Q):∃ d d',DatOf μ x d ∧ DatOf μ y d' ∧ SeqAt.shaped d = true ∧ SeqAt.shaped d' = true ∧ Q (.d (.bool (if neg then !PyData.eqv d d' else PyData.eqv d d'))) μ:=by
  unfold rdEq at h
  split at h
  · exact ⟨_,_,.d _,.d _,rfl,rfl,by rw [eqv_int]; exact h⟩
  · exact h
theorem do_eq (hu:X.A.units + 64 < cLine) (hK:X.K = K:=by rfl):OpR X (compareOp .Eq) (upR K (rdEq false)):=by
  subst hK
  refine (op_eqD hu).mono fun x y H Q h=>?_
  obtain ⟨μ,e,e',Q0,M,i1,i2,q,cl⟩:=h
  obtain ⟨d,d',h1,h2,h3,h4,q⟩:=rdEq_dat q
  exact ⟨d,d',h1.is M i1,h2.is M i2,h3,h4,cl _ μ _ H q M (Same.refl _) (.bl _)⟩
theorem do_ne (hu:X.A.units + 64 < cLine) (hK:X.K = K:=by rfl):OpR X (compareOp .NotEq) (upR K (rdEq true)):=by
  subst hK
  refine (op_neD hu).mono fun x y H Q h=>?_
  obtain ⟨μ,e,e',Q0,M,i1,i2,q,cl⟩:=h
  obtain ⟨d,d',h1,h2,h3,h4,q⟩:=rdEq_dat q
  exact ⟨d,d',h1.is M i1,h2.is M i2,h3,h4,cl _ μ _ H q M (Same.refl _) (.bl _)⟩
def dAnd (t u:TTd):TTd:=fun ρ μ Q=>t ρ μ fun k μ1=>if k = true then u ρ μ1 Q else Q false μ1
def dOr (t u:TTd):TTd:=fun ρ μ Q=>t ρ μ fun k μ1=>if k = true then Q true μ1 else u ρ μ1 Q
def dNot (t:TTd):TTd:=fun ρ μ Q=>t ρ μ fun k μ1=>Q (!k) μ1
variable {tA tB:TTd} {rest:List Expr}
theorem dw_and1 (ha:DT K X a tA):DW K X (.BoolOp .And [a] pos) tA:=pw_and1 ha
theorem dw_or1 (ha:DT K X a tA):DW K X (.BoolOp .Or [a] pos) tA:=pw_or1 ha
theorem dw_and (ha:DT K X a tA) (hb:DW K X (.BoolOp .And (b :: rest) pos) tB):DW K X (.BoolOp .And (a :: b :: rest) pos) (dAnd tA tB):=by
  refine PW.mono (pw_and ha hb) fun σ H Q hq9=>?_
  obtain ⟨ρ,μ,Q0,hS,hM,h,cl⟩:=hq9
  refine ⟨ρ,μ,_,hS,hM,h,fun k μ1 H1 q M1 s1=>?_⟩
  cases k with
  | true=>exact ⟨ρ,μ1,Q0,hS.same s1,M1,by simpa using q,cl.same s1⟩
  | false=>exact cl _ μ1 H1 (by simpa using q) M1 s1
theorem dw_or (ha:DT K X a tA) (hb:DW K X (.BoolOp .Or (b :: rest) pos) tB):DW K X (.BoolOp .Or (a :: b :: rest) pos) (dOr tA tB):=by
  refine PW.mono (pw_or ha hb) fun σ H Q hq9=>?_
  obtain ⟨ρ,μ,Q0,hS,hM,h,cl⟩:=hq9
  refine ⟨ρ,μ,_,hS,hM,h,fun k μ1 H1 q M1 s1=>?_⟩
  cases k with
  | false=>exact ⟨ρ,μ1,Q0,hS.same s1,M1,by simpa using q,cl.same s1⟩
  | true=>exact cl _ μ1 H1 (by simpa using q) M1 s1
theorem dt_w (h:DW K X a tA):DT K X a tA:=PW.pt h
theorem dt_not (ha:DT K X a tA):DT K X (.UnaryOp .Not a pos) (dNot tA):=PT.mono (pt_not ha) fun σ H Q ⟨ρ,μ,Q0,hS,hM,h,cl⟩=>⟨ρ,μ,_,hS,hM,h,fun k μ1 H1 q M1 s1=>cl _ μ1 H1 q M1 s1⟩
def dAndV (ta tb:TEd):TEd:=fun ρ μ Q=>ta ρ μ fun x μ1=>match x with
  | .d (.bool k)=>if k = true then tb ρ μ1 Q else Q (.d (.bool false)) μ1
  | _=>False
def dOrV (ta tb:TEd):TEd:=fun ρ μ Q=>ta ρ μ fun x μ1=>match x with
  | .d (.bool k)=>if k = true then Q (.d (.bool true)) μ1 else tb ρ μ1 Q
  | _=>False
def dNotV (ta:TEd):TEd:=fun ρ μ Q=>ta ρ μ fun x μ1=>match x with
  | .d (.bool k)=>Q (.d (.bool (!k))) μ1
  | _=>False
theorem d_one {op} {t:TEd} (h:DE K X a t):DE K X (.BoolOp op [a] pos) t:=pe_one h
theorem d_and (ha:DE K X a ta) (hb:DE K X (.BoolOp .And (b :: rest) pos) tb):DE K X (.BoolOp .And (a :: b :: rest) pos) (dAndV ta tb):=by
  refine PE.mono (pe_and ha hb) fun σ H Q hq9=>?_
  obtain ⟨ρ,μ,Q0,hS,hM,h,cl⟩:=hq9
  refine ⟨ρ,μ,_,hS,hM,h,fun e μ1 v H1 q M1 s1 i1=>?_⟩
  split at q
  · rename_i k
    cases i1
    refine ⟨k,rfl,?_⟩
    cases k with
    | true=>exact iteT ⟨ρ,μ1,Q0,hS.same s1,M1,by simpa using q,cl.same s1⟩
    | false=>exact iteF (cl (.d (.bool false)) μ1 _ H1 (by simpa using q) M1 s1 (Is.bl _))
  · exact q.elim
theorem d_or (ha:DE K X a ta) (hb:DE K X (.BoolOp .Or (b :: rest) pos) tb):DE K X (.BoolOp .Or (a :: b :: rest) pos) (dOrV ta tb):=by
  refine PE.mono (pe_or ha hb) fun σ H Q hq9=>?_
  obtain ⟨ρ,μ,Q0,hS,hM,h,cl⟩:=hq9
  refine ⟨ρ,μ,_,hS,hM,h,fun e μ1 v H1 q M1 s1 i1=>?_⟩
  split at q
  · rename_i k
    cases i1
    refine ⟨k,rfl,?_⟩
    cases k with
    | false=>exact iteF ⟨ρ,μ1,Q0,hS.same s1,M1,by simpa using q,cl.same s1⟩
    | true=>exact iteT (cl (.d (.bool true)) μ1 _ H1 (by simpa using q) M1 s1 (Is.bl _))
  · exact q.elim
theorem d_not (ha:DE K X a ta):DE K X (.UnaryOp .Not a pos) (dNotV ta):=by
  refine PE.mono (pe_not ha) fun σ H Q hq9=>?_
  obtain ⟨ρ,μ,Q0,hS,hM,h,cl⟩:=hq9
  refine ⟨ρ,μ,_,hS,hM,h,fun e μ1 v H1 q M1 s1 i1=>?_⟩
  split at q
  · cases i1
    exact ⟨_,rfl,cl _ μ1 _ H1 q M1 s1 (.bl _)⟩
  · exact q.elim
def dIf (t:TTd) (ta tb:TEd):TEd:=fun ρ μ Q=>t ρ μ fun k μ1=>if k = true then ta ρ μ1 Q else tb ρ μ1 Q
theorem d_ifExp (hc:DT K X c tA) (ha:DE K X a ta) (hb:DE K X b tb):DE K X (.IfExp c a b pos) (dIf tA ta tb):=by
  refine PE.mono (pe_ifExp hc ha hb) fun σ H Q hq9=>?_
  obtain ⟨ρ,μ,Q0,hS,hM,h,cl⟩:=hq9
  refine ⟨ρ,μ,_,hS,hM,h,fun k μ1 H1 q M1 s1=>?_⟩
  cases k with
  | true=>exact iteT ⟨ρ,μ1,Q0,hS.same s1,M1,by simpa using q,cl.same s1⟩
  | false=>exact iteF ⟨ρ,μ1,Q0,hS.same s1,M1,by simpa using q,cl.same s1⟩
variable {es:List Expr} {tr:TAd}
def dNil:TAd:=fun _ μ Q=>Q [] μ
def dCons (ta:TEd) (tr:TAd):TAd:=fun ρ μ Q=>ta ρ μ fun x μ1=>tr ρ μ1 fun xs μ2=>Q (x :: xs) μ2
theorem da_nil:DA K X [] dNil:=PA.mono pa_nil fun σ H Q ⟨ρ,μ,Q0,hS,hM,h,cl⟩=>cl _ μ _ H h hM (Same.refl _) .nil
theorem da_cons (ha:DE K X a ta) (hr:DA K X es tr) (hs:starEach (a :: es) X.env = (false,eval a X.env) :: starEach es X.env:=by rfl):DA K X (a :: es) (dCons ta tr):=by
  refine PA.mono (pa_cons ha hr hs) fun σ H Q hq9=>?_
  obtain ⟨ρ,μ,Q0,hS,hM,h,cl⟩:=hq9
  refine ⟨ρ,μ,_,hS,hM,h,fun e μ1 v H1 q M1 s1 i1=>⟨ρ,μ1,_,hS.same s1,M1,q,fun es' μ2 vs H2 q2 M2 s2 i2=>?_⟩⟩
  exact cl _ μ2 _ H2 q2 M2 (s1.trans s2) (.cons (i1.same s2) i2)
def allD:List En → Option (List PyData)
  | []=>some []
  | .d x :: r=>(allD r).map (x :: ·)
  | _ :: _=>none
theorem allD_is {μ:Mu} {H:Hp}:∀ {es:List En} {ds:List PyData} {vs:List V},allD es = some ds → Paired (IsE K μ H) vs es → IsAll K (mask μ H) vs ds
  | [],_,_,e,.nil=>by cases e; exact .nil
  | .d x :: r,_,_,e,.cons h t=>by
    simp only [allD] at e
    cases q:allD r with
    | none=>rw [q] at e; cases e
    | some ds'=>rw [q] at e; cases e; exact .cons h (allD_is q t)
  | .m a :: r,_,_,e,_=>by cases e
  | .x a :: r,_,_,e,_=>by cases e
  | .ty a :: r,_,_,e,_=>by cases e
def dTup (tr:TAd):TEd:=fun ρ μ Q=>tr ρ μ fun es μ1=>match allD es with
  | some ds=>ds.length ≤ 4000 ∧ Q (.d (.tuple ds)) μ1
  | none=>False
def dLst (tr:TAd):TEd:=fun ρ μ Q=>tr ρ μ fun es μ1=>match allD es with
  | some ds=>ds.length ≤ 4000 ∧ Q (.d (.list ds)) μ1
  | none=>False
theorem d_tup {x1} (h:DA K X es tr):DE K X (.Tuple es x1 pos) (dTup tr):=by
  refine PE.mono (pe_tup h) fun σ H Q hq9=>?_
  obtain ⟨ρ,μ,Q0,hS,hM,h,cl⟩:=hq9
  refine ⟨ρ,μ,_,hS,hM,h,fun es' μ1 vs H1 q M1 s1 i1=>?_⟩
  split at q
  · rename_i ds e
    have hA:=allD_is e i1
    refine ⟨Nat.le_of_lt (small4000 (by rw [hA.len]; exact q.1)),fun p hp=>?_⟩
    obtain ⟨M2,s2,hn⟩:=M1.laid (o:=.tup vs) hp
    exact cl _ μ1 _ _ q.2 M2 (s1.trans s2) (.tup (SqT.of (by rw [mask_of hn]; exact upd_same)) (IsAll.same s2 hA))
  · exact q.elim
theorem d_lst (h:DA K X es tr):DE K X (.List es pos) (dLst tr):=by
  refine PE.mono (pe_lst h) fun σ H Q hq9=>?_
  obtain ⟨ρ,μ,Q0,hS,hM,h,cl⟩:=hq9
  refine ⟨ρ,μ,_,hS,hM,h,fun es' μ1 vs H1 q M1 s1 i1=>?_⟩
  split at q
  · rename_i ds e
    have hA:=allD_is e i1
    refine ⟨Nat.le_of_lt (small4000 (by rw [hA.len]; exact q.1)),fun p hp=>?_⟩
    obtain ⟨M2,s2,hn⟩:=M1.laid (o:=.lst vs) hp
    exact cl _ μ1 _ _ q.2 M2 (s1.trans s2) (.lst (SqL.of (by rw [mask_of hn]; exact upd_same)) (IsAll.same s2 hA))
  · exact q.elim
def dLstM (tr:TAd):TEd:=fun ρ μ Q=>tr ρ μ fun es μ1=>match allD es with
  | some ds=>ds.length ≤ 4000 ∧ ∀ p,p ∉ μ1.map Prod.fst → Q (.m p) ((p,.lst ds) :: μ1)
  | none=>False
theorem d_lstM (h:DA K X es tr):DE K X (.List es pos) (dLstM tr):=by
  refine PE.mono (pe_lst h) fun σ H Q hq9=>?_
  obtain ⟨ρ,μ,Q0,hS,hM,h,cl⟩:=hq9
  refine ⟨ρ,μ,_,hS,hM,h,fun es' μ1 vs H1 q M1 s1 i1=>?_⟩
  split at q
  · rename_i ds e
    have hA:=allD_is e i1
    refine ⟨Nat.le_of_lt (small4000 (by rw [hA.len]; exact q.1)),fun p hp=>?_⟩
    obtain ⟨_,_,hn⟩:=M1.laid (o:=.lst vs) hp
    obtain ⟨M2,s2⟩:=M1.new (u:=.lst vs) (o:=.lst ds) hp fun ss=>⟨vs,upd_same,IsAll.same ss hA⟩
    exact cl _ _ _ _ (q.2 p hn) M2 (s1.trans s2) rfl
  · exact q.elim
end
end L2
namespace L2
open PySem PySem.Spec PyProof.Rows
theorem IsAll.atI {K:PySem.W.Frag} {H:Hp} {vs:List V} {ds:List PyData} {i:Int} {z:PyData} (h:IsAll K H vs ds) (e:L2.atI ds i = some z):∃ v,L2.atI vs i = some v ∧ Is K H v z:=by
  unfold L2.atI at *
  rw [h.len]
  cases q:ixN ds.length i with
  | none=>rw [q] at e; cases e
  | some j =>
    rw [q] at e
    obtain ⟨v,e1,e2⟩:=h.get' (i:=j) e
    exact ⟨v,e1,e2⟩
section
variable {X:Cx} {K:PySem.W.Frag} {a b c:Expr} {ta tb tc:TEd} {tA tB:TTd} {pos:Pos} {es:List Expr} {tr:TAd}
def rdIxL:R2d:=fun x y μ Q=>match y with
  | .d (.int i)=>∃ ds z,LstOf μ x ds ∧ atI ds i = some z ∧ Q (.d z) μ
  | _=>False
def rdIxT:R2d:=fun x y μ Q=>match x,y with
  | .d (.tuple ds),.d (.int i)=>∃ z,atI ds i = some z ∧ Q (.d z) μ
  | _,_=>False
theorem dx_list (hK:X.K = K:=by rfl):IxR X (upR K rdIxL):=by
  subst hK
  refine ix_list.mono fun x y H Q h=>?_
  obtain ⟨μ,e,e',Q0,M,i1,i2,q,cl⟩:=h
  unfold rdIxL at q
  split at q
  · obtain ⟨ds,z,h1,h2,q⟩:=q
    cases i2
    obtain ⟨p,xs,rfl,h3,h4⟩:=h1.get M i1
    obtain ⟨v,e1,e2⟩:=h4.atI h2
    exact ⟨p,xs,_,v,rfl,rfl,h3,e1,cl _ μ v H q M (Same.refl _) e2⟩
  · exact q.elim
theorem dx_tup (hK:X.K = K:=by rfl):IxR X (upR K rdIxT):=by
  subst hK
  refine ix_tup.mono fun x y H Q h=>?_
  obtain ⟨μ,e,e',Q0,M,i1,i2,q,cl⟩:=h
  unfold rdIxT at q
  split at q
  · obtain ⟨z,h2,q⟩:=q
    cases i2
    have i1':=Is.same mask_le (show Is X.K (mask μ H) x _ from i1)
    cases i1 with
    | tup h3 h4 =>
      obtain ⟨v,e1,e2⟩:=h4.atI h2
      cases i1' with
      | tup h5 h6 =>
        refine ⟨_,_,_,v,rfl,rfl,?_,e1,cl _ μ v H q M (Same.refl _) e2⟩
        rcases h3 with (e | ⟨o,e⟩) | e
        · exact .inl (.inl (mask_le _ _ e))
        · exact .inl (.inr ⟨o,mask_le _ _ e⟩)
        · exact .inr e
  · exact q.elim
theorem d_ix {r:R2d} (hr:IxR X (upR K r)) (ha:DE K X a ta) (hb:DE K X b tb) (hs:PlainIx b):DE K X (.Subscript a b pos) (dOp r ta tb):=PE.mono (pe_ix hr ha hb hs) fun _ _ _=>up_op
def cutD (xs:List PyData) (lo hi:Option Int):List PyData:=(xs.drop (HT.sIx xs.length 0 lo)).take (HT.sIx xs.length xs.length hi - HT.sIx xs.length 0 lo)
theorem IsAll.cut {H:Hp} {vs:List V} {ds:List PyData} {lo hi:Option Int} (h:IsAll K H vs ds):IsAll K H (cutV vs lo hi) (cutD ds lo hi):=by
  unfold cutV cutD
  rw [h.len]
  exact (h.drop _).take _
abbrev TOd:=Rho → Mu → (Option Int → Mu → Prop) → Prop
def upO (K:PySem.W.Frag) (t:TOd):TO:=fun σ H Q=>∃ ρ μ Q0,RelS K ρ μ σ H ∧ RelM K μ H ∧ t ρ μ Q0 ∧ ∀ o μ' H',Q0 o μ' → RelM K μ' H' → Same (mask μ H) (mask μ' H') → Q o H'
def DO (K:PySem.W.Frag) (X:Cx) (e:Option Expr) (t:TOd):Prop:=PO X e (upO K t)
theorem PO.mono {e:Option Expr} {t t':TO} (h:PO X e t) (f:∀ σ H Q,t' σ H Q → t σ H Q):PO X e t':=fun pins s σ H Q I q=>h pins s σ H Q I (f _ _ _ q)
def dNoPart:TOd:=fun _ μ Q=>Q none μ
def dPart (t:TEd):TOd:=fun ρ μ Q=>t ρ μ fun x μ1=>match x with
  | .d (.int i)=>Q (some i) μ1
  | _=>False
theorem dp_none:DO K X none dNoPart:=PO.mono po_none fun σ H Q ⟨ρ,μ,Q0,hS,hM,h,cl⟩=>cl none μ H h hM (Same.refl _)
theorem dp_some (h:DE K X a ta):DO K X (some a) (dPart ta):=PO.mono (po_some h) fun σ H Q ⟨ρ,μ,Q0,hS,hM,h,cl⟩=>⟨ρ,μ,_,hS,hM,h,fun e μ1 v H1 q M1 s1 i1=>by
  split at q
  · cases i1; exact ⟨_,rfl,cl _ μ1 H1 q M1 s1⟩
  · exact q.elim⟩
def dSl (r:En → Option Int → Option Int → Mu → (En → Mu → Prop) → Prop) (te:TEd) (tl th:TOd):TEd:=fun ρ μ Q=>te ρ μ fun x μ1=>tl ρ μ1 fun l μ2=>th ρ μ2 fun u μ3=>r x l u μ3 Q
def rdSlL:En → Option Int → Option Int → Mu → (En → Mu → Prop) → Prop:=fun x l u μ Q=>∃ ds,LstOf μ x ds ∧ Q (.d (.list (cutD ds l u))) μ
theorem d_slice {lo hi:Option Expr} {p2:Pos} {tl th:TOd} (ha:DE K X a ta) (hl:DO K X lo tl) (hu:DO K X hi th) (hK:X.K = K:=by rfl):DE K X (.Subscript a (.Slice lo hi none p2) pos) (dSl rdSlL ta tl th):=by
  subst hK
  refine PE.mono (pe_slice sl_list ha hl hu) fun σ H Q hq9=>?_
  obtain ⟨ρ,μ,Q0,hS,hM,h,cl⟩:=hq9
  refine ⟨ρ,μ,_,hS,hM,h,fun e μ1 v H1 q1 M1 s1 i1=>⟨ρ,μ1,_,hS.same s1,M1,q1,fun l μ2 H2 q2 M2 s2=>⟨ρ,μ2,_,hS.same (s1.trans s2),M2,q2,fun u μ3 H3 q3 M3 s3=>?_⟩⟩⟩
  obtain ⟨ds,h1,q⟩:=q3
  have i3:=i1.same (s2.trans s3)
  obtain ⟨p,xs,rfl,h3,h4⟩:=h1.get M3 i3
  refine ⟨p,xs,rfl,h3,fun l hl=>?_⟩
  obtain ⟨M4,s4,hn⟩:=M3.laid (o:=.lst (cutV xs _ _)) hl
  exact cl _ _ _ _ q M4 ((s1.trans s2).trans (s3.trans s4)) (.lst (SqL.of (by rw [mask_of hn]; exact upd_same)) (IsAll.same s4 h4.cut))
def dCB (r:RAd) (tr:TAd):TEd:=fun ρ μ Q=>tr ρ μ fun es μ1=>r es μ1 Q
theorem up_cb {r:RAd} {σ:St} {H:Hp} {Q:VK} (h:up K (dCB r tr) σ H Q):tCB (upC K r) (upA K tr) σ H Q:=by
  obtain ⟨ρ,μ,Q0,hS,hM,h,cl⟩:=h
  exact ⟨ρ,μ,_,hS,hM,h,fun es μ1 vs H1 q M1 s1 i1=>⟨μ1,es,Q0,M1,i1,q,cl.same s1⟩⟩
theorem d_callB {id:String} {x:Str} {r:RAd} {e:Expr} {p:Pos} (hc:CallR X (.builtin id) (upC K r)) (hg:Gl X x) (hm:X.mg x = none) (hv:bootBuiltins x = some (.builtin id)) (ha:DA K X (e :: es) tr) (hn:x ≠ "__name__" := by decide) (hdb:(x == ("__debug__" : Str)) = false:=by decide)
    (he:starEach (e :: es) X.env = (false,eval e X.env) :: starEach es X.env:=by rfl) (hpl:(backTo pos (starEach es X.env)).any (·.1) = false:=by rfl):DE K X (.Call (.Name x p) (e :: es) [] pos) (dCB r tr):=PE.mono (pe_callB hc hg hm hv ha hn hdb he hpl) fun _ _ _=>up_cb
theorem d_callTy {T:String} {x:Str} {r:RAd} {e:Expr} {p:Pos} (hc:CallR X (.type T) (upC K r)) (hg:Gl X x) (hm:X.mg x = none) (hv:bootBuiltins x = some (.type T)) (ha:DA K X (e :: es) tr) (hn:x ≠ "__name__" := by decide) (hdb:(x == ("__debug__" : Str)) = false:=by decide)
    (he:starEach (e :: es) X.env = (false,eval e X.env) :: starEach es X.env:=by rfl) (hpl:(backTo pos (starEach es X.env)).any (·.1) = false:=by rfl):DE K X (.Call (.Name x p) (e :: es) [] pos) (dCB r tr):=PE.mono (pe_callTy hc hg hm hv ha hn hdb he hpl) fun _ _ _=>up_cb
theorem pair1 {μ:Mu} {H:Hp} {vs:List V} {e:En} (h:Paired (IsE K μ H) vs [e]):∃ v,vs = [v] ∧ IsE K μ H v e:=by
  cases h with | cons a b=>cases b; exact ⟨_,rfl,a⟩
theorem pair2 {μ:Mu} {H:Hp} {vs:List V} {e e':En} (h:Paired (IsE K μ H) vs [e,e']):∃ v v',vs = [v,v'] ∧ IsE K μ H v e ∧ IsE K μ H v' e':=by
  cases h with | cons a b=>cases b with | cons c d=>cases d; exact ⟨_,_,rfl,a,c⟩
def rdAbs:RAd:=fun es μ Q=>match es with
  | [.d (.int i)]=>Q (.d (.int (i.natAbs:Int))) μ
  | _=>False
theorem dc_abs:CallR X (.builtin "abs") (upC K rdAbs):=call_abs.mono fun xs H Q h=>by
  obtain ⟨μ,es,Q0,M,hp,q,cl⟩:=h
  unfold rdAbs at q
  split at q
  · rename_i i
    obtain ⟨v,rfl,i1⟩:=pair1 hp
    cases i1
    have e:(if i < 0 then -i else i) = (i.natAbs:Int):=by split <;> omega
    exact ⟨_,rfl,by rw [e]; exact cl _ μ _ H q M (Same.refl _) (.int _)⟩
  · exact q.elim
def rd2I (g:Int → Int → Int):RAd:=fun es μ Q=>match es with
  | [.d (.int i),.d (.int j)]=>Q (.d (.int (g i j))) μ
  | _=>False
theorem dc_max (hc:X.calm = true):CallR X (.builtin "max") (upC K (rd2I fun i j=>if i < j then j else i)):=(call_max2 hc).mono fun xs H Q h=>by
  obtain ⟨μ,es,Q0,M,hp,q,cl⟩:=h
  unfold rd2I at q
  split at q
  · obtain ⟨v,v',rfl,i1,i2⟩:=pair2 hp
    cases i1; cases i2
    exact ⟨_,_,rfl,cl _ μ _ H q M (Same.refl _) (.int _)⟩
  · exact q.elim
theorem dc_min (hc:X.calm = true):CallR X (.builtin "min") (upC K (rd2I fun i j=>if j < i then j else i)):=(call_min2 hc).mono fun xs H Q h=>by
  obtain ⟨μ,es,Q0,M,hp,q,cl⟩:=h
  unfold rd2I at q
  split at q
  · obtain ⟨v,v',rfl,i1,i2⟩:=pair2 hp
    cases i1; cases i2
    exact ⟨_,_,rfl,cl _ μ _ H q M (Same.refl _) (.int _)⟩
  · exact q.elim
inductive SeqOf (μ:Mu):En → List PyData → Prop
  | l {e:En} {ds:List PyData} (h:LstOf μ e ds):SeqOf μ e ds
  | t (ds:List PyData):SeqOf μ (.d (.tuple ds)) ds
theorem SeqOf.get {μ:Mu} {e:En} {ds:List PyData} {H:Hp} {v:V} (h:SeqOf μ e ds) (M:RelM K μ H) (i:IsE K μ H v e):∃ p xs,v = .ref p ∧ (SqL K H p xs ∨ SqT K H p xs) ∧ IsAll K (mask μ H) xs ds:=by
  cases h with
  | l h=>obtain ⟨p,xs,h1,h2,h3⟩:=h.get M i; exact ⟨p,xs,h1,.inl h2,h3⟩
  | t ds =>
    cases i with
    | tup h hs =>
      refine ⟨_,_,rfl,.inr ?_,hs⟩
      rcases h with (e | ⟨o,e⟩) | e
      · exact .inl (.inl (mask_le _ _ e))
      · exact .inl (.inr ⟨o,mask_le _ _ e⟩)
      · exact .inr e
def rdLen:RAd:=fun es μ Q=>match es with
  | [e]=>∃ ds,SeqOf μ e ds ∧ Q (.d (.int (ds.length:Int))) μ
  | _=>False
theorem dc_len (hK:X.K = K:=by rfl):CallR X (.builtin "len") (upC K rdLen):=by
  subst hK
  refine call_len_seq.mono fun xs H Q h=>?_
  obtain ⟨μ,es,Q0,M,hp,q,cl⟩:=h
  unfold rdLen at q
  split at q
  · obtain ⟨v,rfl,i1⟩:=pair1 hp
    obtain ⟨ds,h1,q⟩:=q
    obtain ⟨p,ys,rfl,h2,h3⟩:=h1.get M i1
    exact ⟨p,ys,rfl,h2,by rw [h3.len]; exact cl _ μ _ H q M (Same.refl _) (.int _)⟩
  · exact q.elim
def rdList:RAd:=fun es μ Q=>match es with
  | [e]=>∃ ds,SeqOf μ e ds ∧ Q (.d (.list ds)) μ
  | _=>False
theorem dc_list (hK:X.K = K:=by rfl):CallR X (.type "list") (upC K rdList):=by
  subst hK
  refine call_list_of.mono fun xs H Q h=>?_
  obtain ⟨μ,es,Q0,M,hp,q,cl⟩:=h
  unfold rdList at q
  split at q
  · obtain ⟨v,rfl,i1⟩:=pair1 hp
    obtain ⟨ds,h1,q⟩:=q
    obtain ⟨p,ys,rfl,h2,h3⟩:=h1.get M i1
    refine ⟨p,ys,rfl,h2,fun l hl=>?_⟩
    obtain ⟨M4,s4,hn⟩:=M.laid (o:=.lst ys) hl
    exact cl _ μ _ _ q M4 s4 (.lst (SqL.of (by rw [mask_of hn]; exact upd_same)) (IsAll.same s4 h3))
  · exact q.elim
def rdTuple:RAd:=fun es μ Q=>match es with
  | [e]=>∃ ds,LstOf μ e ds ∧ Q (.d (.tuple ds)) μ
  | _=>False
theorem dc_tuple (hK:X.K = K:=by rfl):CallR X (.type "tuple") (upC K rdTuple):=by
  subst hK
  refine call_tuple_of.mono fun xs H Q h=>?_
  obtain ⟨μ,es,Q0,M,hp,q,cl⟩:=h
  unfold rdTuple at q
  split at q
  · obtain ⟨v,rfl,i1⟩:=pair1 hp
    obtain ⟨ds,h1,q⟩:=q
    obtain ⟨p,ys,rfl,h2,h3⟩:=h1.get M i1
    refine ⟨p,ys,rfl,.inl ⟨h2,fun l hl=>?_⟩⟩
    obtain ⟨M4,s4,hn⟩:=M.laid (o:=.tup ys) hl
    exact cl _ μ _ _ q M4 s4 (.tup (SqT.of (by rw [mask_of hn]; exact upd_same)) (IsAll.same s4 h3))
  · exact q.elim
def rdAll (f:List Bool → Bool):RAd:=fun es μ Q=>match es with
  | [e]=>∃ bs,LstOf μ e (bs.map PyData.bool) ∧ Q (.d (.bool (f bs))) μ
  | _=>False
theorem dc_all (hc:X.calm = true) (hK:X.K = K:=by rfl):CallR X (.builtin "all") (upC K (rdAll fun bs=>bs.all id)):=by
  subst hK
  refine (call_all hc).mono fun xs H Q h=>?_
  obtain ⟨μ,es,Q0,M,hp,q,cl⟩:=h
  unfold rdAll at q
  split at q
  · obtain ⟨v,rfl,i1⟩:=pair1 hp
    obtain ⟨bs,h1,q⟩:=q
    obtain ⟨p,ys,rfl,h2,h3⟩:=h1.get M i1
    rw [h3.bools_of] at h2
    exact ⟨p,bs,rfl,h2,cl _ μ _ H q M (Same.refl _) (.bl _)⟩
  · exact q.elim
def isTy (n:String):PyData → Bool
  | .none=>false
  | .bool _=>n == "bool" || n == "int"
  | .int _=>n == "int"
  | .str _=>n == "str"
  | .list _=>n == "list"
  | .tuple _=>n == "tuple"
  | .dict _=>false
abbrev SpD:=List En → Mu → (En → Mu → Prop) → Prop
def spUp (K:PySem.W.Frag) (s:SpD):Sp:=fun vs H Q _=>∃ μ es Q0,RelM K μ H ∧ Paired (IsE K μ H) vs es ∧ s es μ Q0 ∧ Cl K μ H Q0 Q
theorem d_own {CX:CXT} {k:Nat} {x:Str} {ps:List Str} {s:SpD} {e:Expr} {p:Pos} (O:Own X.prog X.w X.K X.mg X.base CX k x ps (spUp K s)) (hX:NoX CX) (hr:Room k X.A) (hg:Gl X x) (ha:DA K X (e :: es) tr) (hdb:(x == ("__debug__" : Str)) = false:=by decide)
    (he:starEach (e :: es) X.env = (false,eval e X.env) :: starEach es X.env:=by rfl) (hpl:(backTo pos (starEach es X.env)).any (·.1) = false:=by rfl):DE K X (.Call (.Name x p) (e :: es) [] pos) (dCB s tr):=by
  refine PE.mono (pe_own O hX hr hg ha hdb he hpl) fun σ H Q hq9=>?_
  obtain ⟨ρ,μ,Q0,hS,hM,h,cl⟩:=hq9
  exact ⟨ρ,μ,_,hS,hM,h,fun es μ1 vs H1 q M1 s1 i1=>⟨μ1,es,Q0,M1,by simpa using i1,q,cl.same s1⟩⟩
inductive Thaw (a:Addr) (ds:List PyData):List En → List En → Prop
  | nil:Thaw a ds [] []
  | me {es es':List En}:Thaw a ds es es' → Thaw a ds (.m a :: es) (.d (.list ds) :: es')
  | ot {e:En} {es es':List En}:Thaw a ds es es' → Thaw a ds (e :: es) (e :: es')
end
end L2
namespace L2
open PySem PySem.Spec PyProof.Rows
section
variable {X:Cx} {K:PySem.W.Frag} {a b c:Expr} {ta tb tc:TEd} {tA tB:TTd} {pos:Pos} {es:List Expr} {tr:TAd}
def tys:List String:=["int", "bool", "str", "list", "tuple"]
theorem d_ty {x:Str} {n:String} {p:Pos} (hg:Gl X x) (hm:X.mg x = none) (hv:bootBuiltins x = some (.type n)) (hn:x ≠ "__name__" := by decide) (hd:(x == ("__debug__" : Str)) = false:=by decide):DE K X (.Name x p) (fun _ μ Q=>Q (.ty n) μ) :=
  PE.mono (pe_bltn (v:=.ty n) hg hm hv rfl hn hd) fun σ H Q ⟨ρ,μ,Q0,hS,hM,h,cl⟩=>cl _ μ (.ty n) H h hM (Same.refl _) rfl
theorem call_isD:CallR X (.builtin "isinstance") (fun xs H Q=>∃ x n d,xs = [x,.ty n] ∧ Is X.K H x d ∧ n ∈ tys ∧ Q (.bl (isTy n d)) H):=by
  intro pins s σ H xs us Q I r h
  obtain ⟨x,n,d,rfl,ty,hn,q⟩:=h
  obtain ⟨u,u',rfl,rx,ry⟩:=vals2 r
  cases ry
  have fin:∀ tk,EP X pins σ Q (.bool (isTy n d)) { s with toks:=tk }:=fun tk=>⟨.bl _,H,I.tok _,rfl,q⟩
  have hn:n = "int" ∨ n = "bool" ∨ n = "str" ∨ n = "list" ∨ n = "tuple" := by simpa [tys] using hn
  cases ty with
  | non=>cases (show u = Value.none from rx); exact PySem_W_kia_one PySem.W.kitx_none I.kIn True.intro (by rcases hn with rfl | rfl | rfl | rfl | rfl <;> rfl) (fun z=>nomatch z) fin
  | bl y=>cases (show u = Value.bool y from rx); exact PySem_W_kia_one PySem.W.kitx_bool I.kIn True.intro (by rcases hn with rfl | rfl | rfl | rfl | rfl <;> rfl) (fun z=>nomatch z) fin
  | int i=>obtain ⟨t,z⟩:=(show ∃ t,u = Value.int i t from rx); cases z; exact PySem_W_kia_one PySem.W.kitx_int I.kIn True.intro (by rcases hn with rfl | rfl | rfl | rfl | rfl <;> rfl) (fun z=>nomatch z) fin
  | str y=>obtain ⟨t,z⟩:=(show ∃ t,u = Value.str y t from rx); cases z; exact PySem_W_kia_one PySem.W.kitx_str I.kIn True.intro (by rcases hn with rfl | rfl | rfl | rfl | rfl <;> rfl) (fun z=>nomatch z) fin
  | @lst a xs ds hq _ =>
    cases (show u = Value.ref a from rx)
    obtain ⟨its,_,⟨o,n',h1,h2,_⟩,_⟩:=I.list hq
    exact PySem_W_kia_one PySem.W.kitx_list I.kIn ⟨o,h1,h2⟩ (by rcases hn with rfl | rfl | rfl | rfl | rfl <;> rfl) (fun z=>nomatch z) fin
  | @dc a hq =>
    cases (show u = Value.ref a from rx)
    obtain ⟨_,_,vs,_,o,es,ep,h1,h2,_⟩:=(show ObjOk X.prog X.w H s.heap a (.dK []) from I.hok a _ hq)
    exact PySem_W_kia_one PySem.W.kitx_dict I.kIn ⟨o,h1,h2.1⟩ (by rcases hn with rfl | rfl | rfl | rfl | rfl <;> rfl) (fun z=>nomatch z) fin
  | @tup a xs ds hq _ =>
    cases (show u = Value.ref a from rx)
    obtain ⟨its,_,⟨o,h1,h2,_⟩,_⟩:=I.tuple hq
    exact PySem_W_kia_one PySem.W.kitx_tuple I.kIn ⟨o,h1,h2⟩ (by rcases hn with rfl | rfl | rfl | rfl | rfl <;> rfl) (fun z=>nomatch z) fin
def rdIsi:RAd:=fun es μ Q=>match es with
  | [.d x,.ty n]=>n ∈ tys ∧ Q (.d (.bool (isTy n x))) μ
  | [.m a,.ty n]=>n ∈ tys ∧ ∃ ds,(a,.lst ds) ∈ μ ∧ Q (.d (.bool (n == "list"))) μ
  | _=>False
theorem dc_isi (hK:X.K = K:=by rfl):CallR X (.builtin "isinstance") (upC K rdIsi):=by
  subst hK
  refine call_isD.mono fun xs H Q h=>?_
  obtain ⟨μ,es,Q0,M,hp,q,cl⟩:=h
  unfold rdIsi at q
  split at q
  · obtain ⟨v,v',rfl,i1,i2⟩:=pair2 hp
    have i2:v' = _:=i2
    subst i2
    exact ⟨_,_,_,rfl,Is.same mask_le i1,q.1,cl _ μ _ H q.2 M (Same.refl _) (.bl _)⟩
  · obtain ⟨v,v',rfl,i1,i2⟩:=pair2 hp
    have i2:v' = _:=i2
    subst i2
    obtain ⟨hn,ds,hm,q⟩:=q
    have hi:=(DatOf.m hm).is M i1
    exact ⟨_,_,_,rfl,hi,hn,cl _ μ _ H q M (Same.refl _) (.bl _)⟩
  · exact q.elim
abbrev TGd:=En → Rho → Mu → (Rho → Mu → Prop) → Prop
abbrev TGsd:=List PyData → Rho → Mu → (Rho → Mu → Prop) → Prop
def upG (K:PySem.W.Frag) (t:TGd):TG:=fun v σ H Q=>∃ e ρ μ Q0,IsE K μ H v e ∧ RelS K ρ μ σ H ∧ RelM K μ H ∧ t e ρ μ Q0 ∧ ClR K μ H Q0 Q
def upGs (K:PySem.W.Frag) (t:TGsd):TGs:=fun vs σ H Q=>∃ ds ρ μ Q0,IsAll K (mask μ H) vs ds ∧ RelS K ρ μ σ H ∧ RelM K μ H ∧ t ds ρ μ Q0 ∧ ClR K μ H Q0 Q
def DG (K:PySem.W.Frag) (X:Cx) (tg:Expr) (t:TGd):Prop:=PG X tg (upG K t)
def DGs (K:PySem.W.Frag) (X:Cx) (tg:List Expr) (t:TGsd):Prop:=PGs X tg (upGs K t)
theorem PG.mono {tg:Expr} {t t':TG} (h:PG X tg t) (f:∀ v σ H Q,t' v σ H Q → t v σ H Q):PG X tg t':=fun pins s σ H v u Q I r q=>h pins s σ H v u Q I r (f _ _ _ _ q)
theorem PGs.mono {tg:List Expr} {t t':TGs} (h:PGs X tg t) (f:∀ v σ H Q,t' v σ H Q → t v σ H Q):PGs X tg t':=fun pins s σ H v u Q I r q=>h pins s σ H v u Q I r (f _ _ _ _ q)
def dgName (i:Nat):TGd:=fun e ρ μ Q=>Q (ρ.set i (some e)) μ
theorem dg_name {i:Nat} {x:Str} (hN:X.N.Nodup) (hi:X.N[i]? = some x) (hx:Loc X.env.scope x) (hf:X.fn x = true ∨ X.env.scope.names.lookup x = some .local:=by first | exact .inl rfl | exact .inr rfl | assumption):DG K X (.Name x pos) (dgName i) :=
  PG.mono (pg_name hN hi hx hf) fun v σ H Q ⟨e,ρ,μ,Q0,i1,hS,hM,h,cl⟩=>cl _ μ _ H h (hS.set i1) hM (Same.refl _)
def dgNil:TGsd:=fun ds ρ μ Q=>match ds with
  | []=>Q ρ μ
  | _=>False
def dgCons (t:TGd) (u:TGsd):TGsd:=fun ds ρ μ Q=>match ds with
  | x :: r=>t (.d x) ρ μ fun ρ' μ'=>u r ρ' μ' Q
  | []=>False
theorem dgs_nil:DGs K X [] dgNil:=PGs.mono pgs_nil fun vs σ H Q ⟨ds,ρ,μ,Q0,i1,hS,hM,h,cl⟩=>by
  unfold dgNil at h
  split at h
  · cases i1; exact ⟨rfl,cl _ μ _ H h hS hM (Same.refl _)⟩
  · exact h.elim
theorem dgs_cons {e:Expr} {es:List Expr} {t:TGd} {u:TGsd} (h1:DG K X e t) (h2:DGs K X es u)
    (hs:(assignEach (e :: es) X.env).map (·.2) = assign e X.env :: (assignEach es X.env).map (·.2):=by rfl):DGs K X (e :: es) (dgCons t u):=PGs.mono (pgs_cons h1 h2 hs) fun vs σ H Q ⟨ds,ρ,μ,Q0,i1,hS,hM,h,cl⟩=>by
  unfold dgCons at h
  split at h
  · cases i1 with
    | cons i1 i2 =>
      refine ⟨_,_,rfl,.d _,ρ,μ,_,i1,hS,hM,h,fun ρ' μ' σ' H' q S' M' s'=>?_⟩
      exact ⟨_,ρ',μ',Q0,IsAll.same s' i2,S',M',q,cl.same s'⟩
  · exact h.elim
def dgTup (n:Nat) (t:TGsd):TGd:=fun e ρ μ Q=>match e with
  | .d (.tuple ds)=>ds.length = n ∧ t ds ρ μ Q
  | _=>False
theorem dg_tup {es:List Expr} {k:Nat} {t:TGsd} {n:Nat} (hc:X.calm = true) (h:DGs K X es t) (hK:X.K = K:=by rfl)
    (hn:(assignEach es X.env).length = n:=by rfl) (hst:(assignEach es X.env).findIdx? (·.1) = none:=by rfl):DG K X (.Tuple es k pos) (dgTup n t):=by
  subst hK
  refine PG.mono (pg_tup hc h hn hst) fun v σ H Q hq9=>?_
  obtain ⟨e,ρ,μ,Q0,i1,hS,hM,h,cl⟩:=hq9
  unfold dgTup at h
  split at h
  · obtain ⟨p,xs,rfl,hq,hA⟩:=(SeqOf.t _).get hM i1
    cases i1 with
    | tup h1 h2 =>
      refine ⟨_,_,rfl,?_,by rw [h2.len]; exact h.1,_,ρ,μ,Q0,h2,hS,hM,h.2,cl⟩
      rcases h1 with (e | ⟨o,e⟩) | e
      · exact .inl (.inl (mask_le _ _ e))
      · exact .inl (.inr ⟨o,mask_le _ _ e⟩)
      · exact .inr e
  · exact h.elim
variable {st:Stmt} {rest:List Stmt} {t u:TSd} {e:Expr} {te:TEd}
def dNext:TSd:=fun D ρ μ=>D.nx ρ μ
def dSeq (t u:TSd):TSd:=fun D ρ μ=>t { D with nx:=u D } ρ μ
theorem ds_nil:DSs K X [] dNext:=PSs.mono pss_nil fun D σ H ⟨ρ,μ,D0,hS,hM,h,cl⟩=>cl.nx _ μ _ H h hS hM (Same.refl _)
theorem ds_cons (h1:DS K X st t) (h2:DSs K X rest u):DSs K X (st :: rest) (dSeq t u):=PSs.mono (pss_cons h1 h2) fun D σ H ⟨ρ,μ,D0,hS,hM,h,cl⟩ =>
  ⟨ρ,μ,_,hS,hM,h,⟨fun ρ' μ' σ' H' q S' M' s'=>⟨ρ',μ',D0,S',M',q,cl.same s'⟩,cl.rt,cl.bk,cl.ct⟩⟩
theorem ds_one (h1:DS K X st t):DSs K X [st] t:=pss_one h1
theorem ds_never:DS K X st (fun _ _ _=>False):=PS.mono ps_never fun D σ H ⟨ρ,μ,D0,hS,hM,h,cl⟩=>h
def dDrop (te:TEd):TSd:=fun D ρ μ=>te ρ μ fun _ μ1=>D.nx ρ μ1
theorem ds_expr (he:DE K X e te) (hs:swapsWith e none pos.line X.env = pure false:=by rfl):DS K X (.Expr e pos) (dDrop te):=PS.mono (ps_expr he hs) fun D σ H ⟨ρ,μ,D0,hS,hM,h,cl⟩ =>
  ⟨ρ,μ,_,hS,hM,h,fun e' μ1 v H1 q M1 s1 i1=>cl.nx _ μ1 _ H1 q (hS.same s1) M1 s1⟩
def dRet (te:TEd):TSd:=fun D ρ μ=>te ρ μ D.rt
theorem ds_ret (he:DE K X e te):DS K X (.Return (some e) pos) (dRet te):=PS.mono (ps_ret he) fun D σ H ⟨ρ,μ,D0,hS,hM,h,cl⟩=>⟨ρ,μ,_,hS,hM,h,cl.rt⟩
def FzR (μ:Mu) (e:En) (μ':Mu) (e':En):Prop:=∀ (K:PySem.W.Frag) (v:V) (H:Hp),RelM K μ H → IsE K μ H v e → RelM K μ' H ∧ IsE K μ' H v e' ∧ Same (mask μ H) (mask μ' H)
theorem FzR.trans {μ μ1 μ2:Mu} {e e1 e2:En} (h:FzR μ e μ1 e1) (h':FzR μ1 e1 μ2 e2):FzR μ e μ2 e2:=fun K v H a b=>by
  obtain ⟨a1,b1,s1⟩:=h K v H a b
  obtain ⟨a2,b2,s2⟩:=h' K v H a1 b1
  exact ⟨a2,b2,s1.trans s2⟩
theorem FzR.list {μ1 μ2:Mu} {p:Addr} {ds:List PyData}:FzR (μ1 ++ (p,.lst ds) :: μ2) (.m p) (μ1 ++ μ2) (.d (.list ds)):=fun K v H h i=>by
  obtain ⟨M',s,hn⟩:=h.drop
  obtain ⟨xs,e,hs⟩:=h.ob p (.lst ds) (by simp)
  have i:v = _:=i
  subst i
  exact ⟨M',.lst (SqL.of (by rw [mask_of hn]; exact e)) (IsAll.same s hs),s⟩
theorem FzR.list1 {μ2:Mu} {p:Addr} {ds:List PyData}:FzR ((p,.lst ds) :: μ2) (.m p) μ2 (.d (.list ds)):=FzR.list (μ1:=[])
theorem FzR.drop {μ1 μ2:Mu} {p:Addr} {o:MO} {e:En}:FzR (μ1 ++ (p,o) :: μ2) e (μ1 ++ μ2) e:=fun K v H h i=>by
  obtain ⟨M',s,hn⟩:=h.drop
  exact ⟨M',i.same s,s⟩
theorem FzR.drop1 {μ2:Mu} {p:Addr} {o:MO} {e:En}:FzR ((p,o) :: μ2) e μ2 e:=FzR.drop (μ1:=[])
def dRetF (te:TEd):TSd:=fun D ρ μ=>te ρ μ fun e μ1=>∃ μ2 e2,FzR μ1 e μ2 e2 ∧ D.rt e2 μ2
theorem ds_retF (he:DE K X e te):DS K X (.Return (some e) pos) (dRetF te):=PS.mono (ps_ret he) fun D σ H ⟨ρ,μ,D0,hS,hM,h,cl⟩=>⟨ρ,μ,_,hS,hM,h,fun e' μ1 v H1 q M1 s1 i1=>by
  obtain ⟨μ2,e2,f,q⟩:=q
  obtain ⟨M2,i2,s2⟩:=f K v H1 M1 i1
  exact cl.rt _ μ2 _ H1 q M2 (s1.trans s2) i2⟩
def dIfS (c:TTd) (t u:TSd):TSd:=fun D ρ μ=>c ρ μ fun b μ1=>if b = true then t D ρ μ1 else u D ρ μ1
theorem ds_if {c:Expr} {a b:List Stmt} {tc:TTd} (hc:DT K X c tc) (ha:DSs K X a t) (hb:DSs K X b u):DS K X (.If c a b pos) (dIfS tc t u):=PS.mono (ps_if hc ha hb) fun D σ H ⟨ρ,μ,D0,hS,hM,h,cl⟩ =>
  ⟨ρ,μ,_,hS,hM,h,fun k μ1 H1 q M1 s1=>by
    cases k with
    | true=>exact iteT ⟨ρ,μ1,D0,hS.same s1,M1,by simpa using q,cl.same s1⟩
    | false=>exact iteF ⟨ρ,μ1,D0,hS.same s1,M1,by simpa using q,cl.same s1⟩⟩
def dAsg (te:TEd) (g:TGd):TSd:=fun D ρ μ=>te ρ μ fun e μ1=>g e ρ μ1 D.nx
theorem ds_set {i:Nat} {x:Str} {pos':Pos} (hN:X.N.Nodup) (hi:X.N[i]? = some x) (hx:Loc X.env.scope x) (he:DE K X e te) (hs:swapsWith e (some (.Name x pos')) pos.line X.env = pure false:=by rfl) (hf:X.fn x = true ∨ X.env.scope.names.lookup x = some .local:=by first | exact .inl rfl | exact .inr rfl | assumption) :
    DS K X (.Assign [.Name x pos'] e pos) (dAsg te (dgName i)):=PS.mono (ps_set hN hi hx he hs hf) fun D σ H ⟨ρ,μ,D0,hS,hM,h,cl⟩ =>
  ⟨ρ,μ,_,hS,hM,h,fun e' μ1 v H1 q M1 s1 i1=>cl.nx _ μ1 _ H1 q ((hS.same s1).set i1) M1 s1⟩
theorem ds_asg {tg:Expr} {g:TGd} (he:DE K X e te) (hg:DG K X tg g) (hs:swapsWithSole [tg] e pos.line X.env = pure false:=by rfl) (hw:swappedStores [tg] e X.env = pure none:=by rfl)
    (h1:(assignEach [tg] X.env).map (·.2) = [assign tg X.env]:=by rfl):DS K X (.Assign [tg] e pos) (dAsg te g):=PS.mono (ps_asg he hg hs hw h1) fun D σ H ⟨ρ,μ,D0,hS,hM,h,cl⟩ =>
  ⟨ρ,μ,_,hS,hM,h,fun e' μ1 v H1 q M1 s1 i1=>⟨e',ρ,μ1,D0.nx,i1,hS.same s1,M1,q,cl.nx.same s1⟩⟩
def dPar (i j:Nat) (ta:TAd):TSd:=fun D ρ μ=>ta ρ μ fun es μ1=>match es with
  | [e,e']=>D.nx ((ρ.set i (some e)).set j (some e')) μ1
  | _=>False
theorem ds_par {i j:Nat} {x y:Str} {a b:Expr} {ta:TAd} {px py pt:Pos} {kt k2 pt2} (hc:X.calm = true) (hN:X.N.Nodup) (hi:X.N[i]? = some x) (hj:X.N[j]? = some y) (hij:i ≠ j)
    (hx:X.env.scope.names.lookup x = some .local) (hy:X.env.scope.names.lookup y = some .local) (ha:DA K X [a,b] ta)
    (hw:swappedStores [.Tuple [.Name x px,.Name y py] kt pt] (.Tuple [a,b] k2 pt2) X.env = pure (some [x,y]))
    (hs:swapsWithSole [.Tuple [.Name x px,.Name y py] kt pt] (.Tuple [a,b] k2 pt2) pos.line X.env = pure false:=by rfl) :
    DS K X (.Assign [.Tuple [.Name x px,.Name y py] kt pt] (.Tuple [a,b] k2 pt2) pos) (dPar i j ta):=PS.mono (ps_par hc hN hi hj hij hx hy ha hw hs) fun D σ H ⟨ρ,μ,D0,hS,hM,h,cl⟩ =>
  ⟨ρ,μ,_,hS,hM,h,fun es μ1 vs H1 q M1 s1 i1=>by
    split at q
    · obtain ⟨v,v',rfl,h1,h2⟩:=pair2 i1
      exact ⟨_,_,rfl,cl.nx _ μ1 _ H1 q (((hS.same s1).set h1).set h2) M1 s1⟩
    · exact q.elim⟩
def dApp (to:TEd) (tr:TAd):TEd:=fun ρ μ Q=>to ρ μ fun x μ1=>match x with
  | .m p=>(∃ ds0,(p,.lst ds0) ∈ μ1) ∧ tr ρ μ1 fun es μ2=>match es with
    | [.d z]=>∃ μ3 μ4 ds,μ2 = μ3 ++ (p,.lst ds) :: μ4 ∧ ds.length < 4000 ∧ Q (.d .none) (μ3 ++ (p,.lst (ds ++ [z])) :: μ4)
    | _=>False
  | _=>False
theorem d_append {o e:Expr} {to:TEd} {p1:Pos} (ho:DE K X o to) (ha:DA K X [e] tr) (hK:X.K = K:=by rfl)
    (h:PE X (.Call (.Attribute o "append" p1) [e] [] pos) (tBM X.K "list" rAppend (up K to) (upA K tr))):DE K X (.Call (.Attribute o "append" p1) [e] [] pos) (dApp to tr):=by
  subst hK
  refine PE.mono h fun σ H Q hq9=>?_
  obtain ⟨ρ,μ,Q0,hS,hM,h,cl⟩:=hq9
  refine ⟨ρ,μ,_,hS,hM,h,fun x μ1 v H1 q M1 s1 i1=>?_⟩
  split at q
  · rename_i x' p
    obtain ⟨⟨ds0,hd0⟩,q⟩:=q
    have i1:v = _:=i1
    subst i1
    obtain ⟨xs0,e0,_⟩:=M1.ob _ _ hd0
    refine ⟨.inl ⟨rfl,_,SqL.of e0⟩,ρ,μ1,_,hS.same s1,M1,q,fun es μ2 vs H2 q2 M2 s2 i2=>?_⟩
    split at q2
    · rename_i es' z
      obtain ⟨μ3,μ4,ds,rfl,hl,q2⟩:=q2
      obtain ⟨v,rfl,h1⟩:=pair1 i2
      obtain ⟨xs,ex,hA⟩:=M2.ob p (.lst ds) (by simp)
      refine ⟨p,xs,v,rfl,rfl,ex,small4000 (by rw [hA.len]; lia),?_⟩
      obtain ⟨M3,s3⟩:=M2.write (H':=upd H2 p (.lst (xs ++ [v]))) (o':=.lst (ds ++ [z])) (fun b u e n=>by rw [upd_ne n]; exact e) fun ss=>⟨_,upd_same,IsAll.snoc (Is.same ss h1) (IsAll.same ss hA)⟩
      exact cl _ _ .non _ q2 M3 ((s1.trans s2).trans s3) .non
    · exact q2.elim
  · exact q.elim
structure Itd where
  n:Nat
  item:Nat → En
  ok:Mu → Prop
abbrev TId:=Rho → Mu → (Itd → Mu → Prop) → Prop
def Sim (K:PySem.W.Frag) (J0:Itd) (μ1:Mu) (H1:Hp) (J:It):Prop:=∀ μ' H',RelM K μ' H' → Same (mask μ1 H1) (mask μ' H') → J0.ok μ' → ∀ i,
  (i < J0.n → J.go i H' ∧ ∀ x H2,J.yld i H' x H2 → RelM K μ' H2 ∧ Same (mask μ' H') (mask μ' H2) ∧ IsE K μ' H2 x (J0.item i)) ∧ (J0.n ≤ i → J.stop i H')
def upI (K:PySem.W.Frag) (t:TId):TI:=fun σ H R=>∃ ρ μ Q0,RelS K ρ μ σ H ∧ RelM K μ H ∧ t ρ μ Q0 ∧ ∀ J0 μ1 J H1,Q0 J0 μ1 → RelM K μ1 H1 → Same (mask μ H) (mask μ1 H1) → Sim K J0 μ1 H1 J → R J H1
def DI (K:PySem.W.Frag) (X:Cx) (tg iter:Expr) (t:TId):Prop:=PI X tg iter (upI K t)
variable {tg iter:Expr}
theorem PI.mono {wi wi':TI} (h:PI X tg iter wi) (f:∀ σ H R,wi' σ H R → wi σ H R):PI X tg iter wi':=fun pins s σ H R I q=>h pins s σ H R I (f _ _ _ q)
def itL (e:En) (ds:List PyData):Itd:=⟨ds.length,fun i=>.d (ds.getD i .none),fun μ=>LstOf μ e ds⟩
def itT (ds:List PyData):Itd:=⟨ds.length,fun i=>.d (ds.getD i .none),fun _=>True⟩
def itR (lo:Int) (n:Nat):Itd:=⟨n,fun i=>.d (.int (lo + i)),fun _=>True⟩
def diL (te:TEd):TId:=fun ρ μ Q=>te ρ μ fun e μ1=>∃ ds,LstOf μ1 e ds ∧ Q (itL e ds) μ1
def diT (te:TEd):TId:=fun ρ μ Q=>te ρ μ fun e μ1=>match e with
  | .d (.tuple ds)=>Q (itT ds) μ1
  | _=>False
def diR1 (ta:TAd):TId:=fun ρ μ Q=>ta ρ μ fun es μ1=>match es with
  | [.d (.int j)]=>-(2 ^ 62) ≤ j ∧ j < 2 ^ 62 ∧ Q (itR 0 j.toNat) μ1
  | _=>False
theorem getD_get {ds:List PyData} {i:Nat} {x:PyData} (h:ds[i]? = some x):ds.getD i .none = x:=by rw [List.getD_eq_getElem?_getD,h]; rfl
theorem di_list {l:Expr} (hl:DE K X l te) (hK:X.K = K:=by rfl):DI K X tg l (diL te):=by
  subst hK
  refine PI.mono (pi_list hl) fun σ H R hq9=>?_
  obtain ⟨ρ,μ,Q0,hS,hM,h,cl⟩:=hq9
  refine ⟨ρ,μ,_,hS,hM,h,fun e μ1 v H1 q M1 s1 i1=>?_⟩
  obtain ⟨ds,hL,q⟩:=q
  obtain ⟨p,xs,rfl,h1,h2⟩:=hL.get M1 i1
  refine ⟨p,rfl,⟨xs,h1⟩,cl _ μ1 _ H1 q M1 s1 fun μ' H' M' s' hok i=>?_⟩
  obtain ⟨p',xs',e',h3,h4⟩:=LstOf.get hok M' (i1.same s')
  cases e'
  have hl:=h4.len
  refine ⟨fun hi=>⟨⟨xs',xs'[i]'(by rw [hl]; exact hi),h3,by simp⟩,?_⟩,fun hi=>⟨xs',h3,by rw [hl]; exact hi⟩⟩
  rintro x H2 ⟨rfl,hx⟩
  refine ⟨M',Same.refl _,?_⟩
  obtain ⟨d,e1,e2⟩:=h4.get (hx xs' h3)
  show Is X.K (mask μ' H2) x (ds.getD i .none)
  rw [getD_get e1]
  exact e2
theorem SqT.up {μ:Mu} {H:Hp} {p:Addr} {xs:List V} (h:SqT K (mask μ H) p xs):SqT K H p xs:=by
  rcases h with (e | ⟨o,e⟩) | e
  · exact .inl (.inl (mask_le _ _ e))
  · exact .inl (.inr ⟨o,mask_le _ _ e⟩)
  · exact .inr e
theorem SqT.same {H H':Hp} {p:Addr} {xs:List V} (s:Same H H') (h:SqT K H p xs):SqT K H' p xs:=by
  rcases h with (e | ⟨o,e⟩) | e
  · exact .inl (.inl (s _ _ e))
  · exact .inl (.inr ⟨o,s _ _ e⟩)
  · exact .inr e
theorem di_tup {l:Expr} (hl:DE K X l te) (hK:X.K = K:=by rfl):DI K X tg l (diT te):=by
  subst hK
  refine PI.mono (pi_tup hl) fun σ H R hq9=>?_
  obtain ⟨ρ,μ,Q0,hS,hM,h,cl⟩:=hq9
  refine ⟨ρ,μ,_,hS,hM,h,fun e μ1 v H1 q M1 s1 i1=>?_⟩
  split at q
  · rename_i ds
    cases i1 with
    | @tup p xs _ h1 h2 =>
      refine ⟨p,rfl,⟨xs,h1.up⟩,cl _ μ1 _ H1 q M1 s1 fun μ' H' M' s' hok i=>?_⟩
      have h3:=(SqT.same s' h1).up
      have h4:=IsAll.same s' h2
      have hl:=h4.len
      refine ⟨fun hi=>⟨⟨xs,xs[i]'(by rw [hl]; exact hi),h3,by simp⟩,?_⟩,fun hi=>⟨xs,h3,by rw [hl]; exact hi⟩⟩
      rintro x H2 ⟨rfl,hx⟩
      refine ⟨M',Same.refl _,?_⟩
      obtain ⟨d,e1,e2⟩:=h4.get (hx xs h3)
      show Is X.K (mask μ' H2) x (ds.getD i .none)
      rw [getD_get e1]
      exact e2
  · exact q.elim
theorem sim_range {lo:Int} {n:Nat} {μ1:Mu} {H1:Hp}:Sim K (itR lo n) μ1 H1 (Itr lo n):=fun μ' H' M' s' _ i =>
  ⟨fun hi=>⟨hi,fun x H2 ⟨e,y⟩=>by subst e y; exact ⟨M',Same.refl _,.int _⟩⟩,fun hi=>hi⟩
theorem di_range1 {a:Expr} {ta:TAd} {p:Pos} (hg:Gl X "range") (hm:X.mg "range" = none) (ha:DA K X [a] ta) (hs:starEach [a] X.env = [(false,eval a X.env)]:=by rfl):DI K X tg (.Call (.Name "range" p) [a] [] pos) (diR1 ta) :=
  PI.mono (pi_range1 hg hm ha hs) fun σ H R ⟨ρ,μ,Q0,hS,hM,h,cl⟩=>⟨ρ,μ,_,hS,hM,h,fun es μ1 vs H1 q M1 s1 i1=>by
    split at q
    · obtain ⟨v,rfl,h1⟩:=pair1 i1
      cases h1
      exact ⟨_,rfl,q.1,q.2.1,cl _ μ1 _ H1 q.2.2 M1 s1 sim_range⟩
    · exact q.elim⟩
def Wks (P:Rho → Mu → Prop):Rho → Mu → Prop:=fun ρ μ=>∃ ρ' μ',Wk ρ μ ρ' μ' ∧ P ρ' μ'
theorem Wks.of {P:Rho → Mu → Prop} {ρ:Rho} {μ:Mu} (h:P ρ μ):Wks P ρ μ:=⟨ρ,μ,Wk.refl,h⟩
def dFor (ti:TId) (g:TGd) (tb:TSd):TSd:=fun D ρ μ=>ti ρ μ fun J μ1=>∃ Pv:Nat → Rho → Mu → Prop,Pv 0 ρ μ1 ∧ (∀ i ρ' μ',i ≤ J.n → Pv i ρ' μ' → J.ok μ') ∧
  (∀ i ρ' μ',i < J.n → Pv i ρ' μ' → g (J.item i) ρ' μ' fun ρ2 μ2=>tb { D with nx:=Wks (Pv (i + 1)),ct:=Wks (Pv (i + 1)),bk:=D.nx } ρ2 μ2) ∧ ∀ ρ' μ',Pv J.n ρ' μ' → D.nx ρ' μ'
theorem ds_for {body:List Stmt} {ti:TId} {g:TGd} {tb:TSd} (hp:PassesOwn (model X.prog X.w) X.A X.env X.xe) (hc:X.calm = true) (hi:DI K X tg iter ti) (hg:DG K X tg g) (hb:DSs K X body tb)
    (hs:∀ x,foldedSetIterable iter X.env x = pure x:=by intro _; rfl):DS K X (.For tg iter body [] pos) (dFor ti g tb):=by
  refine PS.mono (ps_for hp hc hi hg hb hs) fun D σ H hq9=>?_
  obtain ⟨ρ,μ,D0,hS,hM,h,cl⟩:=hq9
  refine ⟨ρ,μ,_,hS,hM,h,fun J0 μ1 J H1 q M1 s1 sim=>?_⟩
  obtain ⟨Pv,h0,hok,hstep,hend⟩:=q
  refine ⟨fun i m σ' H'=>m = J0.n - i ∧ i ≤ J0.n ∧ ∃ ρ' μ',RelS K ρ' μ' σ' H' ∧ RelM K μ' H' ∧ Same (mask μ1 H1) (mask μ' H') ∧ Pv i ρ' μ',⟨_,rfl,Nat.zero_le _,ρ,μ1,hS.same s1,M1,Same.refl _,h0⟩,?_⟩
  rintro i m σ' H' ⟨rfl,hi,ρ',μ',S',M',s',p⟩
  have sm:=sim μ' H' M' s' (hok i ρ' μ' hi p) i
  by_cases hlt:i < J0.n
  · obtain ⟨hgo,hy⟩:=sm.1 hlt
    refine .inr ⟨hgo,fun σ2 H2=>∃ ρ' μ',RelS K ρ' μ' σ2 H2 ∧ RelM K μ' H2 ∧ Same (mask μ1 H1) (mask μ' H2) ∧ Pv (i + 1) ρ' μ',fun σ2 H2 z=>⟨J0.n - (i + 1),by lia,rfl,hlt,z⟩,fun x H2 y=>?_⟩
    obtain ⟨M2,s2,i2⟩:=hy x H2 y
    refine ⟨_,ρ',μ',_,i2,S'.same s2,M2,hstep i ρ' μ' hlt p,fun ρ3 μ3 σ3 H3 q3 S3 M3 s3=>⟨ρ3,μ3,_,S3,M3,q3,?_⟩⟩
    have st:=(s'.trans s2).trans s3
    have again:∀ {ρ4 μ4 σ4 H4},Wks (Pv (i + 1)) ρ4 μ4 → RelS K ρ4 μ4 σ4 H4 → RelM K μ4 H4 → Same (mask μ3 H3) (mask μ4 H4) → ∃ ρ' μ',RelS K ρ' μ' σ4 H4 ∧ RelM K μ' H4 ∧ Same (mask μ1 H1) (mask μ' H4) ∧ Pv (i + 1) ρ' μ':=by
      rintro ρ4 μ4 σ4 H4 ⟨ρ5,μ5,wk,p5⟩ S4 M4 s4
      obtain ⟨S5,M5,s5⟩:=wk K σ4 H4 S4 M4
      exact ⟨ρ5,μ5,S5,M5,(st.trans s4).trans s5,p5⟩
    exact ⟨fun _ _ _ _ a b c d=>again a b c d,cl.rt.same (s1.trans st),cl.nx.same (s1.trans st),fun _ _ _ _ a b c d=>again a b c d⟩
  · have e:i = J0.n:=by lia
    subst e
    exact .inl ⟨sm.2 (Nat.le_refl _),cl.nx _ μ' _ H' (hend ρ' μ' p) S' M' (s1.trans s')⟩
def dWhile (c:TTd) (tb:TSd):TSd:=fun D ρ μ=>∃ Pv:Nat → Rho → Mu → Prop,(∃ m,Pv m ρ μ) ∧ ∀ m ρ' μ',Pv m ρ' μ' → c ρ' μ' fun b μ1=>if b = true then
  tb { D with nx:=fun ρ2 μ2=>∃ m',m' < m ∧ Wks (Pv m') ρ2 μ2,ct:=fun ρ2 μ2=>∃ m',m' < m ∧ Wks (Pv m') ρ2 μ2,bk:=D.nx } ρ' μ1 else D.nx ρ' μ1
theorem ds_while {c:Expr} {body:List Stmt} {tc:TTd} {tb:TSd} (hp:PassesOwn (model X.prog X.w) X.A X.env X.xe) (hc:DT K X c tc) (hb:DSs K X body tb):DS K X (.While c body [] pos) (dWhile tc tb):=by
  refine PS.mono (ps_while hp hc hb) fun D σ H hq9=>?_
  obtain ⟨ρ,μ,D0,hS,hM,h,cl⟩:=hq9
  obtain ⟨Pv,⟨m0,h0⟩,hstep⟩:=h
  refine ⟨fun m σ' H'=>∃ ρ' μ',RelS K ρ' μ' σ' H' ∧ RelM K μ' H' ∧ Same (mask μ H) (mask μ' H') ∧ Pv m ρ' μ',⟨m0,ρ,μ,hS,hM,Same.refl _,h0⟩,?_⟩
  rintro m σ' H' ⟨ρ',μ',S',M',s',p⟩
  refine ⟨ρ',μ',_,S',M',hstep m ρ' μ' p,fun k μ1 H1 q M1 s1=>?_⟩
  cases k with
  | true =>
    refine iteT ⟨fun σ2 H2=>∃ m',m' < m ∧ ∃ ρ' μ',RelS K ρ' μ' σ2 H2 ∧ RelM K μ' H2 ∧ Same (mask μ H) (mask μ' H2) ∧ Pv m' ρ' μ',fun σ2 H2 z=>z,ρ',μ1,_,S'.same s1,M1,by simpa using q,?_⟩
    have st:=s'.trans s1
    have again:∀ {ρ4 μ4 σ4 H4},(∃ m',m' < m ∧ Wks (Pv m') ρ4 μ4) → RelS K ρ4 μ4 σ4 H4 → RelM K μ4 H4 → Same (mask μ1 H1) (mask μ4 H4) → ∃ m',m' < m ∧ ∃ ρ' μ',RelS K ρ' μ' σ4 H4 ∧ RelM K μ' H4 ∧ Same (mask μ H) (mask μ' H4) ∧ Pv m' ρ' μ':=by
      rintro ρ4 μ4 σ4 H4 ⟨m',hm,ρ5,μ5,wk,p5⟩ S4 M4 s4
      obtain ⟨S5,M5,s5⟩:=wk K σ4 H4 S4 M4
      exact ⟨m',hm,ρ5,μ5,S5,M5,(st.trans s4).trans s5,p5⟩
    exact ⟨fun _ _ _ _ a b c d=>again a b c d,cl.rt.same st,cl.nx.same st,fun _ _ _ _ a b c d=>again a b c d⟩
  | false=>exact iteF (cl.nx _ μ1 _ H1 (by simpa using q) (S'.same s1) M1 (s'.trans s1))
def dYes:TTd:=fun _ μ Q=>Q true μ
def DIfs (K:PySem.W.Frag) (X:Cx) (ifs:List Expr) (t:TTd):Prop:=Ifs X ifs (upT K t)
theorem dfs_nil:DIfs K X [] dYes:=fun pins s σ H Q I ⟨ρ,μ,Q0,hS,hM,h,cl⟩=>ifs_nil pins s σ H Q I (cl true μ H h hM (Same.refl _))
def Fin1 (Q:En → Mu → Prop) (ys:List PyData) (μ:Mu):Prop:=Q (.d (.list ys)) μ
def dComp (k:Nat) (ti:TId) (g:TGd) (tt:TTd) (te:TEd):TEd:=fun ρ μ Q=>ti ρ μ fun J μ1=>J.n ≤ 4000 ∧ ∃ Pv:Nat → List PyData → Rho → Mu → Prop,Pv 0 [] (ρ ++ List.replicate k none) μ1 ∧ (∀ i ys ρ' μ',i ≤ J.n → Pv i ys ρ' μ' → J.ok μ') ∧
  (∀ i ys ρ' μ',i < J.n → Pv i ys ρ' μ' → g (J.item i) ρ' μ' fun ρ2 μ2=>tt ρ2 μ2 fun b μ3=>if b = true then te ρ2 μ3 fun y μ4=>∃ z,y = .d z ∧ Pv (i + 1) (ys ++ [z]) ρ2 μ4 else Pv (i + 1) ys ρ2 μ3) ∧
  ∀ ys ρ' μ',Pv J.n ys ρ' μ' → Fin1 Q ys μ'
theorem up_comp {k:Nat} {ti:TId} {g:TGd} {tt:TTd} {te:TEd} {σ:St} {H:Hp} {Q:VK} (h:up K (dComp k ti g tt te) σ H Q):tComp k (upI K ti) (upG K g) (upT K tt) (up K te) σ H Q:=by
  obtain ⟨ρ,μ,Q0,hS,hM,h,cl⟩:=h
  refine ⟨ρ,μ,_,hS,hM,h,fun J0 μ1 J H1 q M1 s1 sim=>?_⟩
  obtain ⟨hn,Pv,h0,hok,hstep,hend⟩:=q
  have S0:RelS K (ρ ++ List.replicate k none) μ1 (σ ++ List.replicate k none) H1:=by
    have S1:=hS.same s1
    refine ⟨by simp [S1.len],fun i e he=>?_⟩
    by_cases hi:i < ρ.length
    · rw [List.getElem?_append_left hi] at he
      rw [List.getElem?_append_left (by rw [← S1.len]; exact hi)]
      exact S1.get i e he
    · rw [List.getElem?_append_right (by lia),List.getElem?_replicate] at he
      split at he <;> cases he
  refine ⟨fun i m ys σ' H'=>m = J0.n - i ∧ i ≤ J0.n ∧ ys.length ≤ i ∧ ∃ ds ρ' μ',RelS K ρ' μ' σ' H' ∧ RelM K μ' H' ∧ Same (mask μ1 H1) (mask μ' H') ∧ IsAll K (mask μ' H') ys ds ∧ Pv i ds ρ' μ',⟨_,rfl,Nat.zero_le _,Nat.le_refl _,[],_,μ1,S0,M1,Same.refl _,.nil,h0⟩,?_⟩
  rintro i m ys σ' H' ⟨rfl,hi,hy,ds,ρ',μ',S',M',s',hA,p⟩
  have sm:=sim μ' H' M' s' (hok i ds ρ' μ' hi p) i
  by_cases hlt:i < J0.n
  · obtain ⟨hgo,hyl⟩:=sm.1 hlt
    refine .inr ⟨hgo,small4000 (by lia),fun ys2 σ2 H2=>ys2.length ≤ i + 1 ∧ ∃ ds ρ' μ',RelS K ρ' μ' σ2 H2 ∧ RelM K μ' H2 ∧ Same (mask μ1 H1) (mask μ' H2) ∧ IsAll K (mask μ' H2) ys2 ds ∧ Pv (i + 1) ds ρ' μ',fun ys2 σ2 H2 z=>⟨J0.n - (i + 1),by lia,rfl,hlt,z⟩,fun x H2 y=>?_⟩
    obtain ⟨M2,s2,i2⟩:=hyl x H2 y
    refine ⟨_,ρ',μ',_,i2,S'.same s2,M2,hstep i ds ρ' μ' hlt p,fun ρ3 μ3 σ3 H3 q3 S3 M3 s3=>⟨ρ3,μ3,_,S3,M3,q3,fun b μ4 H4 q4 M4 s4=>?_⟩⟩
    have st:=((s'.trans s2).trans s3).trans s4
    cases b with
    | true =>
      refine iteT ⟨ρ3,μ4,_,S3.same s4,M4,(by simpa using q4),fun e μ5 v H5 q5 M5 s5 i5=>?_⟩
      obtain ⟨z,rfl,q5⟩:=q5
      exact ⟨by simp; lia,_,ρ3,μ5,(S3.same s4).same s5,M5,st.trans s5,IsAll.snoc i5 (IsAll.same (((s2.trans s3).trans s4).trans s5) hA),q5⟩
    | false=>exact iteF ⟨by lia,_,ρ3,μ4,S3.same s4,M4,st,IsAll.same ((s2.trans s3).trans s4) hA,by simpa using q4⟩
  · have e:i = J0.n:=by lia
    subst e
    refine .inl ⟨sm.2 (Nat.le_refl _),fun D hD=>?_⟩
    obtain ⟨M4,s4,hn⟩:=M'.laid (o:=.lst ys) hD
    exact cl _ μ' _ _ (hend ds ρ' μ' p) M4 ((s1.trans s').trans s4) (.lst (SqL.of (by rw [mask_of hn]; exact upd_same)) (IsAll.same s4 hA))
theorem d_comp {L:List Str} {scope sc:Scope} {N:List Str} {elt:Expr} {ifs:List Expr} {ti:TId} {g:TGd} {tt:TTd} {te:TEd}
    (hc:X.calm = true) (hsc:X.env.scope = sc) (hN:X.N = N) (ok:compOk sc N L scope = true)
    (hi:DI K X tg iter ti) (hg:∀ cl C s₂ H₂ fp,DG K (compCx X L scope cl C s₂ H₂ fp) tg g) (hf:∀ cl C s₂ H₂ fp,DIfs K (compCx X L scope cl C s₂ H₂ fp) ifs tt) (he:∀ cl C s₂ H₂ fp,DE K (compCx X L scope cl C s₂ H₂ fp) elt te)
    (hs:∀ x,foldedSetIterable iter X.env x = pure x:=by intro _; rfl) :
    DE K X (.ListComp elt [⟨tg,iter,ifs,0⟩] scope pos) (dComp L.length ti g tt te):=PE.mono (pe_comp hc hsc hN ok hi hg hf he hs) fun _ _ _=>up_comp
theorem ds_setc {i:Nat} {x:Str} {pos' spos:Pos} {L:List Str} {scope sc:Scope} {N:List Str} {elt:Expr} {ifs:List Expr} {ti:TId} {g:TGd} {tt:TTd} {te:TEd}
    (hNd:X.N.Nodup) (hxi:X.N[i]? = some x) (hx:Loc X.env.scope x)
    (hc:X.calm = true) (hsc:X.env.scope = sc) (hN:X.N = N) (ok:compOk sc N L scope = true)
    (hi:DI K X tg iter ti) (hg:∀ cl C s₂ H₂ fp,DG K (compCx X L scope cl C s₂ H₂ fp) tg g) (hf:∀ cl C s₂ H₂ fp,DIfs K (compCx X L scope cl C s₂ H₂ fp) ifs tt) (he:∀ cl C s₂ H₂ fp,DE K (compCx X L scope cl C s₂ H₂ fp) elt te)
    (hsw:swapsWith (.ListComp elt [⟨tg,iter,ifs,0⟩] scope pos) (some (.Name x pos')) spos.line X.env = pure true:=by rfl)
    (hs:∀ x,foldedSetIterable iter X.env x = pure x:=by intro _; rfl)
    (hfn:X.fn x = true ∨ X.env.scope.names.lookup x = some .local:=by first | exact .inl rfl | exact .inr rfl | assumption) :
    DS K X (.Assign [.Name x pos'] (.ListComp elt [⟨tg,iter,ifs,0⟩] scope pos) spos) (dAsg (dComp L.length ti g tt te) (dgName i)) :=
  PS.mono (ps_setc hNd hxi hx hc hsc hN ok hi hg hf he hsw hs hfn) fun D σ H ⟨ρ,μ,D0,hS,hM,h,cl⟩=>up_comp (Q:=fun x H1=>gName i x σ H1 D.nx) ⟨ρ,μ,_,hS,hM,h,fun e' μ1 v H1 q M1 s1 i1=>cl.nx _ μ1 _ H1 q ((hS.same s1).set i1) M1 s1⟩
end
section
variable {P:Program} {w:World} {K:PySem.W.Frag} {mg:Str → Option Value} {base:Heap} {CX:CXT}
theorem Paired.mapSome {K:PySem.W.Frag} {μ:Mu} {H:Hp} {vs:List V} {es:List En} (h:Paired (IsE K μ H) vs es) (n m:Nat) (hn:n - vs.length = m - es.length):RelS K (es.map some ++ List.replicate (m - es.length) none) μ (vs.map some ++ List.replicate (n - vs.length) none) H:=by
  have hl:vs.length = es.length:=PySem.Paired.length h
  refine ⟨by simp [hl] at *; lia,fun i e he=>?_⟩
  by_cases hi:i < es.length
  · rw [List.getElem?_append_left (by simpa using hi),List.getElem?_map] at he
    rw [List.getElem?_append_left (by simp; lia),List.getElem?_map]
    cases q:es[i]? with
    | none=>rw [q] at he; cases he
    | some e' =>
      rw [q] at he
      cases he
      obtain ⟨v,e1,e2⟩:=L2.Paired.get' h q
      exact ⟨v,by rw [e1]; rfl,e2⟩
  · rw [List.getElem?_append_right (by simp; lia),List.getElem?_replicate] at he
    split at he <;> cases he
theorem Fun.okD {x qual:Str} {st:Stmt} {f:Addr} {fd:FuncData} {N ps:List Str} {k:Nat} {sp:SpD} (F:Fun K x qual st f fd) (S:FnScope N ps (defScope st)) (len:∀ es μ Q,sp es μ Q → es.length = ps.length)
    (hbody:∀ (cdv:Value) (A:Around) (outer:List Env) (s:Shared) (H:Hp) (E:XK) (es:List En) (μ:Mu) (Q:En → Mu → Prop),Room k (A.deeper (envOfC qual (defScope st) s.heap.objs.size f cdv)) → sp es μ Q →
      ∃ t,DSs K (cxOf CX P w K mg base N qual (defScope st) f cdv A outer s H E).nox (defBody st) t ∧ t { nx:=fun _ μ'=>Q (.d .none) μ',rt:=Q } (es.map some ++ List.replicate (N.length - es.length) none) μ):FnOk P w K mg base CX (k + 1) f fd ps (spUp K sp):=by
  refine F.okG S (fun vs H Q E ⟨μ,es,Q0,M,hp,h,cl⟩=>(PySem.Paired.length hp).trans (len es μ Q0 h)) (fun cdv A outer s H vs Q E hr ⟨μ,es,Q0,M,hp,h,cl⟩=>?_)
  obtain ⟨t,ht,hq⟩:=hbody cdv A outer s H E es μ Q0 hr h
  have hl:vs.length = es.length:=PySem.Paired.length hp
  refine ⟨upS K t,ht,_,μ,_,Paired.mapSome hp N.length N.length (by rw [hl]),M,hq,⟨fun ρ' μ' σ' H' q S' M' s'=>cl _ μ' .non H' q M' s' .non,cl,fun _ _ _ _ q=>q.elim,fun _ _ _ _ q=>q.elim⟩⟩
theorem Own.imp {k:Nat} {x:Str} {ps:List Str} {sp sp':Sp} (O:Own P w K mg base CX k x ps sp) (h:∀ vs H Q E,sp' vs H Q E → sp vs H Q E):Own P w K mg base CX k x ps sp':=by
  obtain ⟨f,fd,F,r⟩:=O
  exact ⟨f,fd,F.imp h,r⟩
end
end L2
namespace L2
open PySem PySem.Spec PyProof.Rows
section
variable {X:Cx} {K:PySem.W.Frag} {a b c:Expr} {ta tb tc:TEd} {tA tB:TTd} {pos:Pos} {es:List Expr} {tr:TAd}
def rdIx:R2d:=fun x y μ Q=>match x,y with
  | .d (.tuple ds),.d (.int i)=>∃ z,atI ds i = some z ∧ Q (.d z) μ
  | .d (.list ds),.d (.int i)=>∃ z,atI ds i = some z ∧ Q (.d z) μ
  | .m p,.d (.int i)=>∃ ds z,(p,.lst ds) ∈ μ ∧ atI ds i = some z ∧ Q (.d z) μ
  | _,_=>False
theorem dx_seq (hK:X.K = K:=by rfl):IxR X (upR K rdIx):=by
  refine (IxR.or (dx_list (K:=K) hK) (dx_tup (K:=K) hK)).mono fun x y H Q h=>?_
  obtain ⟨μ,e,e',Q0,M,i1,i2,q,cl⟩:=h
  unfold rdIx at q
  split at q
  · exact .inr ⟨μ,_,_,Q0,M,i1,i2,q,cl⟩
  · obtain ⟨z,h1,q⟩:=q
    exact .inl ⟨μ,_,_,Q0,M,i1,i2,⟨_,z,.d _,h1,q⟩,cl⟩
  · obtain ⟨ds,z,h0,h1,q⟩:=q
    exact .inl ⟨μ,_,_,Q0,M,i1,i2,⟨ds,z,.m h0,h1,q⟩,cl⟩
  · exact q.elim
def rdCat:R2d:=fun x y μ Q=>match x,y with
  | .d (.int i),.d (.int j)=>Q (.d (.int (i + j))) μ
  | _,_=>∃ ds es,LstOf μ x ds ∧ LstOf μ y es ∧ ds.length + es.length ≤ 4000 ∧ Q (.d (.list (ds ++ es))) μ
section forms
variable {g:TGd} {tb:TSd} {D:EndsD} {ρ:Rho} {μ:Mu} {te:TEd} {tt:TTd} {Q:En → Mu → Prop}
theorem forL {e:En} {ds:List PyData} (Pv:Nat → Rho → Mu → Prop) (h0:Pv 0 ρ μ) (hok:∀ i ρ' μ',Pv i ρ' μ' → LstOf μ' e ds)
    (hs:∀ i x ρ' μ',ds[i]? = some x → Pv i ρ' μ' → g (.d x) ρ' μ' fun ρ2 μ2=>tb { D with nx:=Wks (Pv (i + 1)),ct:=Wks (Pv (i + 1)),bk:=D.nx } ρ2 μ2) (hd:∀ ρ' μ',Pv ds.length ρ' μ' → D.nx ρ' μ') :
    ∃ Pv:Nat → Rho → Mu → Prop,Pv 0 ρ μ ∧ (∀ i ρ' μ',i ≤ (itL e ds).n → Pv i ρ' μ' → (itL e ds).ok μ') ∧
      (∀ i ρ' μ',i < (itL e ds).n → Pv i ρ' μ' → g ((itL e ds).item i) ρ' μ' fun ρ2 μ2=>tb { D with nx:=Wks (Pv (i + 1)),ct:=Wks (Pv (i + 1)),bk:=D.nx } ρ2 μ2) ∧ ∀ ρ' μ',Pv (itL e ds).n ρ' μ' → D.nx ρ' μ':=by
  refine ⟨Pv,h0,fun i ρ' μ' _ p=>hok i ρ' μ' p,fun i ρ' μ' hi p=>?_,hd⟩
  have hi:i < ds.length:=hi
  have e1:ds[i]? = some ds[i]:=List.getElem?_eq_getElem hi
  show g (.d (ds.getD i .none)) ρ' μ' _
  rw [getD_get e1]
  exact hs i _ ρ' μ' e1 p
theorem forT {ds:List PyData} (Pv:Nat → Rho → Mu → Prop) (h0:Pv 0 ρ μ)
    (hs:∀ i x ρ' μ',ds[i]? = some x → Pv i ρ' μ' → g (.d x) ρ' μ' fun ρ2 μ2=>tb { D with nx:=Wks (Pv (i + 1)),ct:=Wks (Pv (i + 1)),bk:=D.nx } ρ2 μ2) (hd:∀ ρ' μ',Pv ds.length ρ' μ' → D.nx ρ' μ') :
    ∃ Pv:Nat → Rho → Mu → Prop,Pv 0 ρ μ ∧ (∀ i ρ' μ',i ≤ (itT ds).n → Pv i ρ' μ' → (itT ds).ok μ') ∧
      (∀ i ρ' μ',i < (itT ds).n → Pv i ρ' μ' → g ((itT ds).item i) ρ' μ' fun ρ2 μ2=>tb { D with nx:=Wks (Pv (i + 1)),ct:=Wks (Pv (i + 1)),bk:=D.nx } ρ2 μ2) ∧ ∀ ρ' μ',Pv (itT ds).n ρ' μ' → D.nx ρ' μ':=by
  refine ⟨Pv,h0,fun i ρ' μ' _ p=>trivial,fun i ρ' μ' hi p=>?_,hd⟩
  have hi:i < ds.length:=hi
  have e1:ds[i]? = some ds[i]:=List.getElem?_eq_getElem hi
  show g (.d (ds.getD i .none)) ρ' μ' _
  rw [getD_get e1]
  exact hs i _ ρ' μ' e1 p
theorem forR {lo:Int} {n:Nat} (Pv:Nat → Rho → Mu → Prop) (h0:Pv 0 ρ μ)
    (hs:∀ i ρ' μ',i < n → Pv i ρ' μ' → g (.d (.int (lo + i))) ρ' μ' fun ρ2 μ2=>tb { D with nx:=Wks (Pv (i + 1)),ct:=Wks (Pv (i + 1)),bk:=D.nx } ρ2 μ2) (hd:∀ ρ' μ',Pv n ρ' μ' → D.nx ρ' μ') :
    ∃ Pv:Nat → Rho → Mu → Prop,Pv 0 ρ μ ∧ (∀ i ρ' μ',i ≤ (itR lo n).n → Pv i ρ' μ' → (itR lo n).ok μ') ∧
      (∀ i ρ' μ',i < (itR lo n).n → Pv i ρ' μ' → g ((itR lo n).item i) ρ' μ' fun ρ2 μ2=>tb { D with nx:=Wks (Pv (i + 1)),ct:=Wks (Pv (i + 1)),bk:=D.nx } ρ2 μ2) ∧ ∀ ρ' μ',Pv (itR lo n).n ρ' μ' → D.nx ρ' μ' :=
  ⟨Pv,h0,fun i ρ' μ' _ p=>trivial,fun i ρ' μ' hi p=>hs i ρ' μ' hi p,hd⟩
abbrev CompG (k:Nat) (J:Itd) (g:TGd) (tt:TTd) (te:TEd) (ρ:Rho) (μ1:Mu) (Q:En → Mu → Prop):Prop:=∃ Pv:Nat → List PyData → Rho → Mu → Prop,Pv 0 [] (ρ ++ List.replicate k none) μ1 ∧ (∀ i ys ρ' μ',i ≤ J.n → Pv i ys ρ' μ' → J.ok μ') ∧
  (∀ i ys ρ' μ',i < J.n → Pv i ys ρ' μ' → g (J.item i) ρ' μ' fun ρ2 μ2=>tt ρ2 μ2 fun b μ3=>if b = true then te ρ2 μ3 fun y μ4=>∃ z,y = .d z ∧ Pv (i + 1) (ys ++ [z]) ρ2 μ4 else Pv (i + 1) ys ρ2 μ3) ∧
  ∀ ys ρ' μ',Pv J.n ys ρ' μ' → Fin1 Q ys μ'
theorem take_snoc {α:Type} {ds:List α} {i:Nat} {x:α} (h:ds[i]? = some x):ds.take (i + 1) = ds.take i ++ [x]:=by rw [List.take_add_one,h]; rfl
theorem takeN {α β:Type} (f:α → β) {ds:List α} {i:Nat} (hi:i < ds.length):(ds.take (i + 1)).map f = (ds.take i).map f ++ [f ds[i]]:=by
  rw [take_snoc (List.getElem?_eq_getElem hi),List.map_append]; rfl
structure Src (J:Itd) (ds:List PyData) (μ:Mu):Prop where
  n:J.n = ds.length
  it:∀ i x,ds[i]? = some x → J.item i = .d x
  ok:J.ok μ
theorem Src.l {e:En} {ds:List PyData} {μ:Mu} (h:LstOf μ e ds):Src (itL e ds) ds μ:=⟨rfl,fun i x e=>by show En.d (ds.getD i .none) = _; rw [getD_get e],h⟩
theorem Src.d {ds:List PyData} {μ:Mu}:Src (itL (.d (.list ds)) ds) ds μ:=Src.l (.d ds)
theorem Src.t {ds:List PyData} {μ:Mu}:Src (itT ds) ds μ:=⟨rfl,fun i x e=>by show En.d (ds.getD i .none) = _; rw [getD_get e],trivial⟩
def rng (lo:Int) (n:Nat):List PyData:=(List.range n).map fun (i:Nat)=>PyData.int (lo + (i:Int))
theorem Src.r {lo:Int} {n:Nat} {μ:Mu}:Src (itR lo n) (rng lo n) μ:=by
  refine ⟨by simp [rng,itR],fun i x e=>?_,trivial⟩
  unfold rng at e
  rw [List.getElem?_map] at e
  by_cases hi:i < n
  · rw [List.getElem?_range hi] at e
    cases e
    rfl
  · rw [List.getElem?_eq_none (by simpa using hi)] at e
    exact nomatch e
theorem compL {J:Itd} {ds:List PyData} (f:PyData → PyData) (S:Src J ds μ)
    (hs:∀ x,x ∈ ds → ∀ R:En → Mu → Prop,R (.d (f x)) μ → te (ρ ++ [some (.d x)]) μ R) (hq:Q (.d (.list (ds.map f))) μ):CompG 1 J (dgName ρ.length) dYes te ρ μ Q:=by
  refine ⟨fun i ys ρ' μ'=>μ' = μ ∧ ys = (ds.take i).map f ∧ ∃ v,ρ' = ρ ++ [v],⟨rfl,rfl,none,rfl⟩,fun i ys ρ' μ' _ ⟨h,_⟩=>by subst h; exact S.ok,?_,?_⟩
  · rintro i ys ρ' μ' hi ⟨rfl,rfl,v,rfl⟩
    rw [S.n] at hi
    rw [S.it i _ (List.getElem?_eq_getElem hi)]
    unfold dgName dYes
    have e2:(ρ ++ [v]).set ρ.length (some (.d ds[i])) = ρ ++ [some (.d ds[i])]:=by simp
    rw [e2]
    exact iteT (hs ds[i] (List.getElem_mem hi) _ ⟨_,rfl,rfl,(takeN f hi).symm,_,rfl⟩)
  · rintro ys ρ' μ' ⟨rfl,rfl,_⟩
    rw [S.n,List.take_length]
    exact hq
theorem compN {J:Itd} {ds:List PyData} (P:PyData → PyData → Prop) (S:Src J ds μ)
    (hs:∀ x,x ∈ ds → ∀ R:En → Mu → Prop,(∀ y,P x y → R (.d y) μ) → te (ρ ++ [some (.d x)]) μ R) (hq:∀ ys,Paired P ds ys → Q (.d (.list ys)) μ):CompG 1 J (dgName ρ.length) dYes te ρ μ Q:=by
  refine ⟨fun i ys ρ' μ'=>μ' = μ ∧ Paired P (ds.take i) ys ∧ ∃ v,ρ' = ρ ++ [v],⟨rfl,.nil,none,rfl⟩,fun i ys ρ' μ' _ ⟨h,_⟩=>by subst h; exact S.ok,?_,?_⟩
  · rintro i ys ρ' μ' hi ⟨rfl,hp,v,rfl⟩
    rw [S.n] at hi
    rw [S.it i _ (List.getElem?_eq_getElem hi)]
    unfold dgName dYes
    have e2:(ρ ++ [v]).set ρ.length (some (.d ds[i])) = ρ ++ [some (.d ds[i])]:=by simp
    rw [e2]
    exact iteT (hs ds[i] (List.getElem_mem hi) _ fun y hy=>⟨_,rfl,rfl,by rw [take_snoc (List.getElem?_eq_getElem hi)]; exact PySem.Paired.snoc hp hy,_,rfl⟩)
  · rintro ys ρ' μ' ⟨rfl,hp,_⟩
    rw [S.n,List.take_length] at hp
    exact hq ys hp
theorem comp2F {J:Itd} {α:Type} {as:List α} {h1 h2:α → PyData} (p:α → Bool) (f:α → PyData) (S:Src J (as.map fun a=>.tuple [h1 a,h2 a]) μ)
    (ht:∀ a,a ∈ as → ∀ R:Bool → Mu → Prop,R (p a) μ → tt (ρ ++ [some (.d (h1 a)),some (.d (h2 a))]) μ R)
    (hs:∀ a,a ∈ as → p a = true → ∀ R:En → Mu → Prop,R (.d (f a)) μ → te (ρ ++ [some (.d (h1 a)),some (.d (h2 a))]) μ R) (hq:Q (.d (.list ((as.filter p).map f))) μ):CompG 2 J (dgTup 2 (dgCons (dgName ρ.length) (dgCons (dgName (ρ.length + 1)) dgNil))) tt te ρ μ Q:=by
  have hl:J.n = as.length:=by rw [S.n]; simp
  refine ⟨fun i ys ρ' μ'=>μ' = μ ∧ ys = ((as.take i).filter p).map f ∧ ∃ v w,ρ' = ρ ++ [v,w],⟨rfl,rfl,none,none,rfl⟩,fun i ys ρ' μ' _ ⟨h,_⟩=>by subst h; exact S.ok,?_,?_⟩
  · rintro i ys ρ' μ' hi ⟨rfl,rfl,v,w,rfl⟩
    rw [hl] at hi
    rw [S.it i (.tuple [h1 as[i],h2 as[i]]) (by rw [List.getElem?_map,List.getElem?_eq_getElem hi]; rfl)]
    refine ⟨rfl,?_⟩
    show tt (((ρ ++ [v,w]).set ρ.length _).set (ρ.length + 1) _) μ' _
    have e2:((ρ ++ [v,w]).set ρ.length (some (.d (h1 as[i])))).set (ρ.length + 1) (some (.d (h2 as[i]))) = ρ ++ [some (.d (h1 as[i])),some (.d (h2 as[i]))]:=by simp [List.set_append]
    rw [e2]
    refine ht as[i] (List.getElem_mem hi) _ ?_
    cases hp:p as[i] with
    | true =>
      refine iteT (hs as[i] (List.getElem_mem hi) hp _ ⟨_,rfl,rfl,?_,_,_,rfl⟩)
      rw [take_snoc (List.getElem?_eq_getElem hi),List.filter_append,List.map_append]
      simp [hp]
    | false =>
      refine iteF ⟨rfl,?_,_,_,rfl⟩
      rw [take_snoc (List.getElem?_eq_getElem hi),List.filter_append,List.map_append]
      simp [hp]
  · rintro ys ρ' μ' ⟨rfl,rfl,_⟩
    rw [hl,List.take_length]
    exact hq
theorem comp2L {J:Itd} {α:Type} {as:List α} {h1 h2:α → PyData} (f:α → PyData) (S:Src J (as.map fun a=>.tuple [h1 a,h2 a]) μ)
    (hs:∀ a,a ∈ as → ∀ R:En → Mu → Prop,R (.d (f a)) μ → te (ρ ++ [some (.d (h1 a)),some (.d (h2 a))]) μ R) (hq:Q (.d (.list (as.map f))) μ):CompG 2 J (dgTup 2 (dgCons (dgName ρ.length) (dgCons (dgName (ρ.length + 1)) dgNil))) dYes te ρ μ Q :=
  comp2F (fun _=>true) f S (fun a _ R h=>h) (fun a ha _=>hs a ha) (by rw [List.filter_eq_self.mpr (fun _ _=>rfl)]; exact hq)
end forms
end
end L2
namespace L2
open PySem PySem.Spec PyProof.Rows
def Num (n:Int):Prop:=-1000000000000000000000000000000 < n ∧ n < 1000000000000000000000000000000
def NumP (p:Pt):Prop:=Num p.1 ∧ Num p.2
def dvs (a b:Int):Int:=if a < 0 ∨ (a = 0 ∧ b < 0) then -(Int.gcd a b:Int) else (Int.gcd a b:Int)
theorem gcd_pos {a b:Int} (h:a ≠ 0 ∨ b ≠ 0):0 < Int.gcd a b:=Int.gcd_pos_iff.mpr h
theorem dvs_ne {a b:Int} (h:a ≠ 0 ∨ b ≠ 0):dvs a b ≠ 0:=by
  have:=gcd_pos h
  unfold dvs
  split <;> lia
theorem gcd_le_l {a b:Int}:(Int.gcd a b:Int) ∣ a:=Int.gcd_dvd_left ..
theorem gcd_le_r {a b:Int}:(Int.gcd a b:Int) ∣ b:=Int.gcd_dvd_right ..
theorem gcd_bound {a b:Int} {B:Nat} (h:a ≠ 0 ∨ b ≠ 0) (ha:a.natAbs ≤ B) (hb:b.natAbs ≤ B):Int.gcd a b ≤ B:=by
  rcases h with h | h
  · exact Nat.le_trans (Nat.le_of_dvd (by lia) (Int.natAbs_dvd_natAbs.mpr (gcd_le_l (a:=a) (b:=b)))) ha
  · exact Nat.le_trans (Nat.le_of_dvd (by lia) (Int.natAbs_dvd_natAbs.mpr (gcd_le_r (a:=a) (b:=b)))) hb
theorem dvs_abs (a b:Int):(dvs a b).natAbs = Int.gcd a b:=by
  unfold dvs
  split <;> lia
theorem dvs_dvd_l (a b:Int):dvs a b ∣ a:=by
  unfold dvs
  split
  · exact Int.neg_dvd.mpr gcd_le_l
  · exact gcd_le_l
theorem dvs_dvd_r (a b:Int):dvs a b ∣ b:=by
  unfold dvs
  split
  · exact Int.neg_dvd.mpr gcd_le_r
  · exact gcd_le_r
theorem fdiv_abs {a d:Int} (hd:d ≠ 0) (h:d ∣ a):(a.fdiv d).natAbs ≤ a.natAbs:=by
  obtain ⟨c,rfl⟩:=h
  rw [Int.mul_fdiv_cancel_left _ hd,Int.natAbs_mul]
  exact Nat.le_mul_of_pos_left _ (by lia)
theorem gcd_step {f r:Nat}:Nat.gcd r (f % r) = Nat.gcd f r:=by
  rw [Nat.gcd_comm r (f % r),← Nat.gcd_rec,Nat.gcd_comm]
def nrm (a b:Int):Pt:=(a.fdiv (dvs a b),b.fdiv (dvs a b))
def Bd (B:Nat) (q:Pt):Prop:=q.1.natAbs ≤ B ∧ q.2.natAbs ≤ B
theorem nrm_bd {a b:Int} {B:Nat} (h:a ≠ 0 ∨ b ≠ 0) (ha:a.natAbs ≤ B) (hb:b.natAbs ≤ B):Bd B (nrm a b) :=
  ⟨Nat.le_trans (fdiv_abs (dvs_ne h) (dvs_dvd_l a b)) ha,Nat.le_trans (fdiv_abs (dvs_ne h) (dvs_dvd_r a b)) hb⟩
theorem fdiv_big {a d:Int} {B:Nat} (hB:B < 2 ^ 1000) (h0:d ≠ 0) (hd:d.natAbs ≤ B):CDivB a d:=⟨h0,Nat.lt_of_le_of_lt hd hB⟩
theorem FzR.pot {M a b:Int} {μ:Mu} {p:Addr} (ha:0 ≤ a) (hb:0 ≤ b) (hm:b < M):FzR ((p,.lst [.int a,.int b]) :: μ) (.m p) ((p,.pot M) :: μ) (.m p):=fun K v H h i=>by
  have e:mask ((p,.lst [.int a,.int b]) :: μ) H = mask ((p,.pot M) :: μ) H:=rfl
  refine ⟨⟨by simpa using h.nd,fun b' o ho=>?_⟩,i,by rw [e]; exact Same.refl _⟩
  rcases List.mem_cons.mp ho with z | z
  · cases z
    obtain ⟨xs,e1,hs⟩:=h.ob p _ List.mem_cons_self
    have:=IsAll.ints_of (ns:=[a,b]) hs
    subst this
    exact ⟨a,b,e1,ha,hb,hm⟩
  · have:=h.ob b' o (List.mem_cons_of_mem _ z)
    exact this.same (by rw [e]; exact Same.refl _) rfl
def spTakeM (M:Int):Sp:=fun vs H Q _=>∃ (p:Addr) (m:Int),vs = [.ref p,.int m] ∧ Pot M H p ∧ 0 < m ∧ m ≤ 100000000 ∧ ∀ d H',0 ≤ d → d < m → Pot M H' p → Stp p H H' → Q (.int d) H'
def sDraw (M:Int):SpD:=fun es μ Q=>∃ (p:Addr) (m:Int),es = [.m p,.d (.int m)] ∧ (p,.pot M) ∈ μ ∧ 0 < m ∧ m ≤ 100000000 ∧ ∀ d,0 ≤ d → d < m → Q (.d (.int d)) μ
def sNum (M:Int):SpD:=fun es μ Q=>∃ (p:Addr),es = [.m p] ∧ (p,.pot M) ∈ μ ∧ ∀ n,Num n → Q (.d (.int n)) μ
theorem pot_stp {K:PySem.W.Frag} {μ:Mu} {H H':Hp} {p:Addr} {M:Int} (h:RelM K μ H) (hp:(p,.pot M) ∈ μ) (hP:Pot M H' p) (s:Stp p H H'):RelM K μ H' ∧ Same (mask μ H) (mask μ H'):=by
  obtain ⟨μ1,μ2,rfl⟩:=List.append_of_mem hp
  exact h.write (fun b u e n=>s b u e n) fun _=>hP
theorem draw_up {K:PySem.W.Frag} {M:Int} {vs:List V} {H:Hp} {Q:VK} {E:XK} (h:spUp K (sDraw M) vs H Q E):spTakeM M vs H Q E:=by
  obtain ⟨μ,es,Q0,hM,hp,⟨p,m,rfl,hpot,m0,m1,q⟩,cl⟩:=h
  obtain ⟨v,v',rfl,i1,i2⟩:=pair2 hp
  have i1:v = _:=i1
  subst i1
  cases i2
  refine ⟨p,m,rfl,hM.ob _ _ hpot,m0,m1,fun d H' d0 d1 hP s=>?_⟩
  obtain ⟨M',s'⟩:=pot_stp hM hpot hP s
  exact cl _ μ _ H' (q d d0 d1) M' s' (.int d)
theorem zl0:0 ≤ 4000:=by decide
theorem zl1:1 ≤ 4000:=by decide
theorem zl2:2 ≤ 4000:=by decide
theorem zl3:3 ≤ 4000:=by decide
end L2
namespace L2
open PySem PySem.Spec PyProof.Rows
def spLaw (K:PySem.W.Frag):Sp:=fun vs H Q _=>∃ (a:Addr) (ns:List Int),vs = [.ref a] ∧ SqL K H a (ns.map V.int) ∧ ns.length ≤ 63 ∧ ∀ H',Q (.bl true) H'
def sLaw:SpD:=fun es μ Q=>∃ ns:List Int,es = [.d (.list (ns.map .int))] ∧ ns.length ≤ 63 ∧ μ = [] ∧ ∀ μ',Q (.d (.bool true)) μ'
theorem law_up {K:PySem.W.Frag} {vs:List V} {H:Hp} {Q:VK} {E:XK} (h:spLaw K vs H Q E):spUp K sLaw vs H Q E:=by
  obtain ⟨a,ns,rfl,hS,hl,q⟩:=h
  refine ⟨[],[.d (.list (ns.map .int))],fun e _=>e = .d (.bool true),RelM.nil,.cons ?_ .nil,⟨ns,rfl,hl,rfl,fun _=>rfl⟩,?_⟩
  · show Is K (mask [] H) (.ref a) _
    rw [mask_nil]
    exact .lst hS (IsAll.ints ns)
  · rintro e μ' v H' rfl _ _ i
    cases i
    exact q H'
theorem shaped_pt (p:Pt):SeqAt.shaped (ptD p) = true:=shaped_ints [p.1,p.2]
end L2
namespace L2
open PySem PySem.Spec PyProof.Rows
section
variable {X:Cx} {K:PySem.W.Frag} {a b c:Expr} {ta tb tc:TEd} {tA tB:TTd} {pos:Pos} {es:List Expr} {tr:TAd}
def rCatS (K:PySem.W.Frag):R2:=fun x y H Q=>∃ l b xs zs,x = .ref l ∧ y = .ref b ∧ SqL K H l xs ∧ SqL K H b zs ∧ xs.length + zs.length ≤ sizeLine ∧ ∀ p,H p = none → Q (.ref p) (upd H p (.lst (xs ++ zs)))
theorem op_catS:OpR X (binaryOp .Add) (rCatS X.K):=by
  intro pins s σ H x y v u Q I rx ry h
  obtain ⟨l,b,xs,zs,rfl,rfl,hH,hB,hz,q⟩:=h
  cases rx
  cases ry
  obtain ⟨its,r,pl,_⟩:=I.list hH
  obtain ⟨its2,r2,pl2,_⟩:=I.list hB
  obtain ⟨⟨cls,dd,data,sl⟩,ho,hc,n,hd⟩:=pl.isList
  obtain ⟨⟨cls2,dd2,data2,sl2⟩,ho2,hc2,n2,hd2⟩:=pl2.isList
  simp only at hc hd hc2 hd2
  subst hc hd hc2 hd2
  have h1:=r.length
  have h2:=r2.length
  have e:its.toArray ++ its2.toArray = (its ++ its2).toArray:=by simp
  refine concat_meets ⟨_,ho,rfl⟩ ⟨_,ho2,rfl⟩ noFill_list_add seq_list_add PySem.F.slot_list_add PySem.F.entry_list_add (PySem.F.args_list_add_2 _ _) (list_addW l b its.toArray its2.toArray n n2 dd dd2 sl sl2 (by simp; lia)) ⟨ho,ho2,?_⟩
  rw [e]
  exact ⟨.ref _,_,I.lnew (t':=s.toks) (r.append r2) (by rw [List.length_append]; lia),rfl,q _ I.fresh⟩
theorem do_cat (hK:X.K = K:=by rfl):OpR X (binaryOp .Add) (upR K rdCat):=by
  subst hK
  refine (OpR.or (op_add (X:=X)) op_catS).mono fun x y H Q h=>?_
  obtain ⟨μ,e,e',Q0,M,i1,i2,q,cl⟩:=h
  unfold rdCat at q
  split at q
  · cases i1; cases i2
    exact .inl ⟨_,_,rfl,rfl,cl _ μ _ H q M (Same.refl _) (.int _)⟩
  · obtain ⟨ds,es,h1,h2,hl,q⟩:=q
    obtain ⟨p,xs,rfl,a1,a2⟩:=h1.get M i1
    obtain ⟨p',xs',rfl,b1,b2⟩:=h2.get M i2
    refine .inr ⟨p,p',xs,xs',rfl,rfl,a1,b1,Nat.le_of_lt (small4000 (by rw [a2.len,b2.len]; exact hl)),fun l hl=>?_⟩
    obtain ⟨M4,s4,hn⟩:=M.laid (o:=.lst (xs ++ xs')) hl
    exact cl _ μ _ _ q M4 s4 (.lst (SqL.of (by rw [mask_of hn]; exact upd_same)) (IsAll.same s4 (IsAll.app b2 a2)))
end
section
variable {P:Program} {w:World} {K:PySem.W.Frag} {mg:Str → Option Value} {base:Heap} {CX:CXT} {k:Nat} {x:Str} {ps:List Str} {sp sp':Sp} {f:Addr} {fd:FuncData}
def spOr (sp sp':Sp):Sp:=fun vs H Q E=>sp vs H Q E ∨ sp' vs H Q E
theorem FnOk.or (h:FnOk P w K mg base CX k f fd ps sp) (h':FnOk P w K mg base CX k f fd ps sp'):FnOk P w K mg base CX k f fd ps (spOr sp sp') :=
  ⟨fun vs H Q E q=>q.elim (h.len vs H Q E) (h'.len vs H Q E),fun A outer s H args us vs Q E hr he hb hv q=>q.elim (h.run A outer s H args us vs Q E hr he hb hv) (h'.run A outer s H args us vs Q E hr he hb hv)⟩
theorem Own.l (O:Own P w K mg base CX k x ps (spOr sp sp')):Own P w K mg base CX k x ps sp:=O.imp fun _ _ _ _ h=>.inl h
theorem Own.r (O:Own P w K mg base CX k x ps (spOr sp sp')):Own P w K mg base CX k x ps sp':=O.imp fun _ _ _ _ h=>.inr h
theorem okX {qual:Str} {st:Stmt} {N:List Str} (F:Fun K x qual st f fd) (S:FnScope N ps (defScope st)) (len:∀ vs H Q E,sp vs H Q E → vs.length = ps.length)
    (hbody:∀ (cdv:Value) (A:Around) (outer:List Env) (s:Shared) (H:Hp) (vs:List V) (Q:VK) (E:XK),Room k (A.deeper (PyProof.Rows.envOfC qual (defScope st) s.heap.objs.size f cdv)) → sp vs H Q E →
      ∃ t,PSs (cxOf CX P w K mg base N qual (defScope st) f cdv A outer s H E) (defBody st) t ∧ t { nx:=fun _ H'=>Q .non H',rt:=Q } (start N vs) H):FnOk P w K mg base CX (k + 1) f fd ps sp:=by
  obtain ⟨oc,od,kV,doc,pm,an,cdv,ct,osl,rfl,lk,hcd⟩:=F.ex
  exact fn_of lk hcd S len fun A outer s H vs Q E hr hsp=>hbody cdv A outer s H vs Q E hr hsp
end
end L2
namespace L2
open PySem PySem.Spec PyProof.Rows
section
variable {g:TGd} {tb:TSd} {D:EndsD} {ρ:Rho} {μ:Mu} {te:TEd} {tt:TTd} {Q:En → Mu → Prop}
theorem compAF {J:Itd} {α:Type} {as:List α} {h:α → PyData} (p:α → Bool) (f:α → PyData) (S:Src J (as.map h) μ)
    (ht:∀ a,a ∈ as → ∀ R:Bool → Mu → Prop,R (p a) μ → tt (ρ ++ [some (.d (h a))]) μ R)
    (hs:∀ a,a ∈ as → p a = true → ∀ R:En → Mu → Prop,R (.d (f a)) μ → te (ρ ++ [some (.d (h a))]) μ R) (hq:Q (.d (.list ((as.filter p).map f))) μ):CompG 1 J (dgName ρ.length) tt te ρ μ Q:=by
  have hl:J.n = as.length:=by rw [S.n]; simp
  refine ⟨fun i ys ρ' μ'=>μ' = μ ∧ ys = ((as.take i).filter p).map f ∧ ∃ v,ρ' = ρ ++ [v],⟨rfl,rfl,none,rfl⟩,fun i ys ρ' μ' _ ⟨h,_⟩=>by subst h; exact S.ok,?_,?_⟩
  · rintro i ys ρ' μ' hi ⟨rfl,rfl,v,rfl⟩
    rw [hl] at hi
    rw [S.it i (h as[i]) (by rw [List.getElem?_map,List.getElem?_eq_getElem hi]; rfl)]
    unfold dgName
    have e2:(ρ ++ [v]).set ρ.length (some (.d (h as[i]))) = ρ ++ [some (.d (h as[i]))]:=by simp
    rw [e2]
    refine ht as[i] (List.getElem_mem hi) _ ?_
    cases hp:p as[i] with
    | true =>
      refine iteT (hs as[i] (List.getElem_mem hi) hp _ ⟨_,rfl,rfl,?_,_,rfl⟩)
      rw [take_snoc (List.getElem?_eq_getElem hi),List.filter_append,List.map_append]
      simp [hp]
    | false =>
      refine iteF ⟨rfl,?_,_,rfl⟩
      rw [take_snoc (List.getElem?_eq_getElem hi),List.filter_append,List.map_append]
      simp [hp]
  · rintro ys ρ' μ' ⟨rfl,rfl,_⟩
    rw [hl,List.take_length]
    exact hq
theorem compAL {J:Itd} {α:Type} {as:List α} {h:α → PyData} (f:α → PyData) (S:Src J (as.map h) μ)
    (hs:∀ a,a ∈ as → ∀ R:En → Mu → Prop,R (.d (f a)) μ → te (ρ ++ [some (.d (h a))]) μ R) (hq:Q (.d (.list (as.map f))) μ):CompG 1 J (dgName ρ.length) dYes te ρ μ Q :=
  compAF (fun _=>true) f S (fun a _ R h=>h) (fun a ha _=>hs a ha) (by rw [List.filter_eq_self.mpr (fun _ _=>rfl)]; exact hq)
end
section
variable {s:List Int} (h:s.Pairwise (· ≤ ·)) {j:Nat} (hj:j < s.length) {c:Int}
include h hj
end
end L2
namespace L2
open PySem PySem.Spec PyProof.Rows
mutual
theorem eqv_refl:∀ d:PyData,PyData.canLay0 d = true → PyData.eqv d d = true
  | .none,_=>by simp [PyData.eqv]
  | .bool b,_=>by simp [PyData.eqv]
  | .int i,_=>by simp [PyData.eqv]
  | .str x,_=>by simp [PyData.eqv]
  | .list xs,h=>by
    simp only [PyData.canLay0] at h
    simp only [PyData.eqv]
    exact eqvAll_refl xs h
  | .tuple xs,h=>by
    simp only [PyData.canLay0] at h
    simp only [PyData.eqv]
    exact eqvAll_refl xs h
  | .dict xs,h=>by simp [PyData.canLay0] at h
theorem eqvAll_refl:∀ ds:List PyData,PyData.canLayAll0 ds = true → PyData.eqvAll ds ds = true
  | [],_=>by simp [PyData.eqvAll]
  | d :: ds,h=>by
    simp only [PyData.canLayAll0,Bool.and_eq_true] at h
    simp only [PyData.eqvAll,Bool.and_eq_true]
    exact ⟨eqv_refl d h.1,eqvAll_refl ds h.2⟩
end
theorem shaped_eqv {d:PyData} (h:SeqAt.shaped d = true):PyData.eqv d d = true:=eqv_refl d (SeqAt.canLay_of_shaped h)
theorem canLay_all {α:Type} {f:α → PyData} (hf:∀ a,PyData.canLay0 (f a) = true):∀ as:List α,PyData.canLayAll0 (as.map f) = true
  | []=>by simp [PyData.canLayAll0]
  | a :: as=>by simp [PyData.canLayAll0,hf a,canLay_all hf as]
theorem depth_all {α:Type} {f:α → PyData} {n:Nat} (hf:∀ a,PyData.depth (f a) ≤ n):∀ as:List α,PyData.depthAll (as.map f) ≤ n + 1
  | []=>by simp [PyData.depthAll]
  | a :: as=>by
    have:=depth_all hf as
    have:=hf a
    simp only [List.map_cons,PyData.depthAll]
    lia
section
variable {X:Cx} {K:PySem.W.Frag} {a b c:Expr} {ta tb tc:TEd} {tA tB:TTd} {pos:Pos} {es:List Expr} {tr:TAd}
theorem frz_up {s s':SpD} {vs:List V} {H:Hp} {Q:VK} {E:XK} (f:∀ es μ Q,s' es μ Q → s es μ fun e μ'=>∃ μ2 e2,FzR μ' e μ2 e2 ∧ Q e2 μ2) (h:spUp K s' vs H Q E):spUp K s vs H Q E:=by
  obtain ⟨μ,es,Q0,M,hp,hs,cl⟩:=h
  refine ⟨μ,es,_,M,hp,f es μ Q0 hs,fun e μ' v H' q M' s' i'=>?_⟩
  obtain ⟨μ2,e2,fz,q⟩:=q
  obtain ⟨M2,i2,s2⟩:=fz K v H' M' i'
  exact cl e2 μ2 v H' q M2 (s'.trans s2) i2
end
end L2
namespace L2
open PySem PySem.Spec PyProof.Rows PySem.W PySem.SetTable
def TupN (K:PySem.W.Frag) (H:Hp) (v:V) (ks:List Int):Prop:=(∃ a,v = .ref a ∧ SqT K H a (ks.map V.int)) ∧ ks ≠ []
theorem TupN.same {K:PySem.W.Frag} {H H':Hp} {v:V} {ks:List Int} (h:TupN K H v ks) (s:Same H H'):TupN K H' v ks:=by
  obtain ⟨⟨a,e,q⟩,n⟩:=h
  exact ⟨⟨a,e,SqT.same s q⟩,n⟩
def setP (P:Program) (w:World) (a:Addr) (bs:List (Addr × List Int)) (h:Heap):Prop :=
  ∃ o es ep t m,h.get? a = some o ∧ o.ExactSet ∧ o.data = .set es ep t ∧ t.plain = true ∧ t.led = (!byText w) ∧ MaskOk m es.size ∧ SetI t es m es.size ∧ es.toList = bs.map (fun b=>(hashT P w b.2,Value.ref b.1)) ∧ (bs.map (·.2)).Nodup
def setO (P:Program) (w:World) (a:Addr) (bs:List (Addr × List Int)):HO:=.ext (setP P w a bs)
def InS (K:PySem.W.Frag) (H:Hp) (bs:List (Addr × List Int)):Prop:=∀ b ∈ bs,TupN K H (.ref b.1) b.2
theorem InS.same {K:PySem.W.Frag} {H H':Hp} {bs:List (Addr × List Int)} (h:InS K H bs) (s:Same H H'):InS K H' bs:=fun b hb=>(h b hb).same s
theorem setP.stay {P:Program} {w:World} {a:Addr} {bs:List (Addr × List Int)} {h1 h2:Heap} (p:setP P w a bs h1) (k:∀ o,h1.get? a = some o → h2.get? a = some o):setP P w a bs h2:=by
  obtain ⟨o,es,ep,t,m,ho,r⟩:=p
  exact ⟨o,es,ep,t,m,k o ho,r⟩
theorem setP.ok {P:Program} {w:World} {H:Hp} {a:Addr} {bs:List (Addr × List Int)} {h:Heap} (p:setP P w a bs h):ObjOk P w H h a (setO P w a bs):=by
  refine ⟨p,?_,fun h1 h2 p1 k=>p1.stay k⟩
  obtain ⟨o,_,_,_,_,ho,_⟩:=p
  exact ⟨o,ho⟩
theorem ents_bs {P:Program} {w:World} {h:Heap}:∀ {l:List (Int × Value)} {ms:List (List Int)},PySem.Paired (EntK P w h) l ms → ∃ bs:List (Addr × List Int),l = bs.map (fun b=>(hashT P w b.2,Value.ref b.1)) ∧ bs.map (·.2) = ms ∧ ∀ b ∈ bs,TupK h (.ref b.1) b.2
  | _,_,.nil=>⟨[],rfl,rfl,(fun _ z=>nomatch z)⟩
  | _,_,.cons (a:=e) (b:=ks) r t=>by
    obtain ⟨bs,e1,e2,e3⟩:=ents_bs t
    obtain ⟨hh,v⟩:=e
    obtain ⟨r1,r2⟩:=r
    obtain ⟨b,_,_,_,eb,_⟩:=id r1
    dsimp only at eb r1 r2
    subst eb
    refine ⟨(b,ks) :: bs,?_,?_,fun c hc=>?_⟩
    · rw [List.map_cons,← e1,r2]
    · rw [List.map_cons,e2]
    · rcases List.mem_cons.mp hc with rfl | hc
      · exact r1
      · exact e3 c hc
section
variable {X:Cx} {pins:List (Addr × Obj)} {σ:St} {H:Hp} {s:Shared}
theorem intsT:∀ {ns:List Int} {us:List Value},Vals (ns.map V.int) us → IntsAre us ns
  | [],_,.nil=>.nil
  | n :: ns,_,.cons ⟨t,e⟩ r=>by
    subst e
    exact .cons n t (intsT r)
theorem Inv.tupK (I:Inv X pins σ H s) {a:Addr} {ks:List Int} (h:TupN X.K H (.ref a) ks):TupK s.heap (.ref a) ks:=by
  obtain ⟨⟨a',e,ha⟩,hn⟩:=h
  cases e
  obtain ⟨its,r,⟨o,ho,hc,n,hd⟩,hz⟩:=I.tuple ha
  exact ⟨a,o,its.toArray,n,rfl,ho,hc,hd,by simpa using intsT r,hn⟩
theorem Inv.tupsK (I:Inv X pins σ H s):∀ {us:List V} {its:List Value} {kss:List (List Int)},PySem.Paired (TupN X.K H) us kss → Vals us its → PySem.Paired (TupK s.heap) its kss
  | _,_,_,.nil,.nil=>.nil
  | _,_,_,.cons h t,.cons r q=>by
    obtain ⟨⟨a,e,ha⟩,hn⟩:=id h
    subst e
    cases r
    exact .cons (I.tupK h) (Inv.tupsK I t q)
theorem vals_ref {us:List V} {its:List Value} (r:Vals us its) {kss:List (List Int)} (h:PySem.Paired (TupN X.K H) us kss) {b:Addr} (hb:Value.ref b ∈ its):∃ i:Nat,us[i]? = some (V.ref b):=by
  obtain ⟨i,ei⟩:=List.getElem?_of_mem hb
  have hi:i < us.length:=by rw [r.length]; exact (List.getElem?_eq_some_iff.mp ei).1
  obtain ⟨ks,_,⟨⟨a,e,_⟩,_⟩⟩:=L2.Paired.get h (List.getElem?_eq_getElem hi)
  obtain ⟨u,e1,e2⟩:=Vals.get r (List.getElem?_eq_getElem hi)
  rw [ei] at e1
  cases e1
  rw [e] at e2
  have:Value.ref b = Value.ref a:=e2
  cases this
  exact ⟨i,by rw [List.getElem?_eq_getElem hi,e]⟩
def rSet (X:Cx):List V → Hp → VK → Prop:=fun xs H Q=>∃ (p:Addr) (us:List V) (kss:List (List Int)),xs = [.ref p] ∧ SqL X.K H p us ∧ PySem.Paired (TupN X.K H) us kss ∧ (∀ ms:List (List Int),ms.Nodup → (∀ q ∈ ms,q ∈ kss) → ms.length < 4900) ∧
  ∀ S bs,H S = none → InS X.K H bs → (∀ b ∈ bs,∃ i:Nat,us[i]? = some (V.ref b.1) ∧ kss[i]? = some b.2) → (∀ q,q ∈ bs.map (·.2) ↔ q ∈ kss) → (bs.map (·.2)).Nodup → bs.length < 4915 → Q (.ref S) (upd H S (setO X.prog X.w S bs))
theorem call_setT (hc:X.calm = true) (hu:X.A.units + 64 < cLine):CallR X (.type "set") (rSet X):=by
  intro pins s σ H xs us Q I r h
  obtain ⟨p,vs,kss,rfl,hS,hT,hl,q⟩:=h
  obtain ⟨u,rfl,rx⟩:=vals1 r
  cases rx
  obtain ⟨its,rv,pl,_⟩:=I.list hS
  have hK:=I.tupsK hT rv
  have hlen:=rv.length
  refine PySem.wpAny.cc ?_
  refine setT_listB (I.ok.hd hc) pl.isList hK (fun ms nd hm=>Nat.lt_trans (hl ms nd hm) (by decide)) hu fun h' tk ms S2 mem kp=>?_
  obtain ⟨o,es,ep,t,m,D⟩:=S2
  obtain ⟨bs,e1,e2,e3⟩:=ents_bs D.en
  subst e2
  have fr:H s.heap.objs.size = none:=I.hok.fresh (Nat.le_refl _)
  have own:∀ b ∈ bs,∃ i:Nat,vs[i]? = some (V.ref b.1):=fun b hb=>by
    refine vals_ref rv hT (D.own (hashT X.prog X.w b.2,Value.ref b.1) ?_)
    rw [e1]
    exact List.mem_map.mpr ⟨b,hb,rfl⟩
  have inS2:∀ b ∈ bs,TupN X.K H (.ref b.1) b.2 ∧ ∃ i:Nat,vs[i]? = some (V.ref b.1) ∧ kss[i]? = some b.2:=fun b hb=>by
    obtain ⟨i,ei⟩:=own b hb
    obtain ⟨ks,ek,tn⟩:=L2.Paired.get hT ei
    have k1:TupK h' (.ref b.1) ks:=(I.tupK tn).kept fun c ob e _=>kp c ob e
    have:=(k1.key (prog:=X.prog) (w:=X.w)).inj ((e3 b hb).key (prog:=X.prog) (w:=X.w))
    rw [← this]
    exact ⟨tn,i,ei,ek⟩
  have inS:InS X.K H bs:=fun b hb=>(inS2 b hb).1
  have lt:bs.length < 4915:=by
    have:=D.mok.le
    have z:es.toList.length = bs.length:=by rw [e1,List.length_map]
    rw [Array.length_toList] at z
    lia
  refine ⟨.ref s.heap.objs.size,_,I.laid (t':=tk) kp (Nat.le_refl _) (o:=setO X.prog X.w s.heap.objs.size bs) (setP.ok ⟨o,es,ep,t,m,D.ho,D.ex,D.hd,D.pl,D.ld,D.mok,D.si,e1,D.nd⟩),rfl,q _ bs fr inS (fun b hb=>(inS2 b hb).2) mem D.nd lt⟩
def rLenT (X:Cx):List V → Hp → VK → Prop:=fun xs H Q=>∃ (S:Addr) (bs:List (Addr × List Int)),xs = [.ref S] ∧ H S = some (setO X.prog X.w S bs) ∧ Q (.int bs.length) H
theorem call_lenT:CallR X (.builtin "len") (rLenT X):=by
  intro pins s σ H xs us Q I r h
  obtain ⟨S,bs,rfl,hS,q⟩:=h
  obtain ⟨u,rfl,rx⟩:=vals1 r
  cases rx
  obtain ⟨⟨o,es,ep,t,m,ho,ex,hd,pl,ld,mo,si,ee,nd⟩,_⟩:=I.hok S _ hS
  have z:es.toList.length = bs.length:=by rw [ee,List.length_map]
  rw [Array.length_toList] at z
  have hle:=mo.le
  have hf:t.fits es.size = true:=by
    unfold SetTable.fits SetTable.fill
    rw [si.tab.dm,si.tab.size,si.tab.mask]
    simp
    lia
  refine PySem.wpAny.cc ?_
  refine call_len_set ho ex hd hf (by lia) ⟨.int bs.length,H,I.tok _,⟨s.toks + 1,by rw [z]⟩,q⟩
def tupD (ks:List Int):PyData:=.tuple (ks.map PyData.int)
variable {K:PySem.W.Frag}
theorem IsAll.tups {H:Hp}:∀ {us:List V} {kss:List (List Int)},IsAll K H us (kss.map tupD) → (∀ k ∈ kss,k ≠ []) → PySem.Paired (TupN K H) us kss
  | _,[],.nil,_=>.nil
  | _,k :: kss,.cons h t,hn=>by
    refine .cons ?_ (IsAll.tups t fun z hz=>hn z (List.mem_cons_of_mem _ hz))
    unfold tupD at h
    cases h with
    | @tup a xs _ h1 h2 =>
      rw [h2.ints_of] at h1
      exact ⟨⟨a,rfl,h1⟩,hn _ List.mem_cons_self⟩
theorem TupN.up {μ:Mu} {H:Hp} {v:V} {ks:List Int} (h:TupN K (mask μ H) v ks):TupN K H v ks:=h.same mask_le
def stSet (P:Program) (w:World) (K:PySem.W.Frag) (ms:List (List Int)):Stb where
  R v H:=∃ S bs,v = .ref S ∧ H S = some (setO P w S bs) ∧ InS K H bs ∧ bs.map (·.2) = ms ∧ ms.Nodup ∧ ms.length < 4915
  st:=fun v H H' s ⟨S,bs,e,h1,h2,h3,h4,h5⟩=>⟨S,bs,e,s _ _ h1,h2.same s,h3,h4,h5⟩
def rdSetB (P:Program) (w:World) (K:PySem.W.Frag):RAd:=fun es μ Q=>match es with
  | [e]=>∃ kss:List (List Int),LstOf μ e (kss.map tupD) ∧ (∀ k ∈ kss,k ≠ []) ∧ (∀ ms:List (List Int),ms.Nodup → (∀ q ∈ ms,q ∈ kss) → ms.length < 4900) ∧ ∀ ms,(∀ q,q ∈ ms ↔ q ∈ kss) → ms.Nodup → ms.length < 4915 → Q (.x (stSet P w K ms)) μ
  | _=>False
theorem dc_setB {P:Program} {w:World} (hc:X.calm = true) (hu:X.A.units + 64 < cLine) (hK:X.K = K:=by rfl) (hP:X.prog = P:=by rfl) (hw:X.w = w:=by rfl):CallR X (.type "set") (upC K (rdSetB P w K)):=by
  subst hK hP hw
  refine (call_setT hc hu).mono fun xs H Q h=>?_
  obtain ⟨μ,es,Q0,M,hp,q,cl⟩:=h
  unfold rdSetB at q
  split at q
  · obtain ⟨v,rfl,i1⟩:=pair1 hp
    obtain ⟨kss,h1,hne,h64,q⟩:=q
    obtain ⟨p,ys,rfl,h2,h3⟩:=h1.get M i1
    have hT:=IsAll.tups h3 hne
    refine ⟨p,ys,kss,rfl,h2,paired_mem hT (fun x _ y h=>h.up),h64,fun S bs hS _ ix mem nd lt=>?_⟩
    obtain ⟨M4,s4,hn⟩:=M.laid (o:=setO X.prog X.w S bs) hS
    refine cl _ μ _ _ (q (bs.map (·.2)) mem nd (by rw [List.length_map]; exact lt)) M4 s4 ⟨S,bs,rfl,?_,fun b hb=>?_,rfl,nd,by rw [List.length_map]; exact lt⟩
    · rw [mask_of hn]; exact upd_same
    · obtain ⟨i,e1,e2⟩:=ix b hb
      obtain ⟨ks,e3,tn⟩:=L2.Paired.get hT e1
      rw [e2] at e3
      cases e3
      exact tn.same s4
  · exact q.elim
def rdSet (P:Program) (w:World) (K:PySem.W.Frag):RAd:=fun es μ Q=>match es with
  | [e]=>∃ kss:List (List Int),LstOf μ e (kss.map tupD) ∧ (∀ k ∈ kss,k ≠ []) ∧ kss.length < 4900 ∧ ∀ ms,(∀ q,q ∈ ms ↔ q ∈ kss) → ms.Nodup → ms.length < 4915 → Q (.x (stSet P w K ms)) μ
  | _=>False
theorem dc_set {P:Program} {w:World} (hc:X.calm = true) (hu:X.A.units + 64 < cLine) (hK:X.K = K:=by rfl) (hP:X.prog = P:=by rfl) (hw:X.w = w:=by rfl):CallR X (.type "set") (upC K (rdSet P w K)):=by
  refine (dc_setB hc hu hK hP hw).mono fun xs H Q h=>?_
  obtain ⟨μ,es,Q0,M,hp,q,cl⟩:=h
  refine ⟨μ,es,Q0,M,hp,?_,cl⟩
  unfold rdSet at q
  unfold rdSetB
  split at q
  · obtain ⟨kss,h1,hne,h64,q⟩:=q
    exact ⟨kss,h1,hne,fun ms nd hm=>Nat.lt_of_le_of_lt (nodup_lenB nd hm) h64,q⟩
  · exact q
def rdLenT (P:Program) (w:World) (K:PySem.W.Frag):RAd:=fun es μ Q=>∃ ms,es = [.x (stSet P w K ms)] ∧ Q (.d (.int ms.length)) μ
theorem dc_lenT {P:Program} {w:World} (hK:X.K = K:=by rfl) (hP:X.prog = P:=by rfl) (hw:X.w = w:=by rfl):CallR X (.builtin "len") (upC K (rdLenT P w K)):=by
  subst hK hP hw
  refine call_lenT.mono fun xs H Q h=>?_
  obtain ⟨μ,es,Q0,M,hp,q,cl⟩:=h
  obtain ⟨ms,rfl,q⟩:=q
  obtain ⟨v,rfl,i1⟩:=pair1 hp
  obtain ⟨S,bs,rfl,h1,h2,rfl,h4,h5⟩:=i1
  rw [List.length_map] at q
  exact ⟨S,bs,rfl,mask_le _ _ h1,cl _ μ _ _ q M (Same.refl _) (.int _)⟩
end
end L2
namespace L2
open PySem PySem.Spec PyProof.Rows
theorem Room.u66 {k:Nat} {A:Around} (r:Room k A):A.units + 66 < cLine:=by have:=r.un; lia
section
variable {X:Cx} {K:PySem.W.Frag}
theorem op_inD (hu:X.A.units + 66 < cLine):OpR X (compareOp .In) (fun x y H Q=>∃ d ds,Is X.K H x d ∧ Is X.K H y (.list ds) ∧ SeqAt.shaped d = true ∧ PyData.canLayAll0 ds = true ∧ Q (.bl (ds.any fun z=>z.eqv d)) H):=by
  intro pins s σ H x y v u Q I rx ry h
  obtain ⟨d,ds,h1,h2,h3,h4,q⟩:=h
  obtain ⟨as,ra⟩:=h1.reads I rx
  obtain ⟨bs,rb⟩:=h2.reads I ry
  unfold SeqAt.shaped at h3
  rw [Bool.and_eq_true] at h3
  have hd:=of_decide_eq_true h3.2
  refine PySem.wpAny.cc ?_
  exact _root_.PySem.SeqAt.in_list_reads rb ra h4 h3.1 (by lia) ⟨.bl _,H,I,rfl,q⟩
def rdIn (neg:Bool):R2d:=fun x y μ Q=>∃ d ds,x = .d d ∧ LstOf μ y ds ∧ SeqAt.shaped d = true ∧ PyData.canLayAll0 ds = true ∧ Q (.d (.bool (if neg then !ds.any fun z=>z.eqv d else ds.any fun z=>z.eqv d))) μ
theorem LstOf.is {μ:Mu} {e:En} {ds:List PyData} {H:Hp} {v:V} (h:LstOf μ e ds) (M:RelM K μ H) (i:IsE K μ H v e):Is K H v (.list ds):=by
  obtain ⟨p,xs,rfl,h1,h2⟩:=h.get M i
  exact .lst h1 (IsAll.same mask_le h2)
theorem do_in (hu:X.A.units + 66 < cLine) (hK:X.K = K:=by rfl):OpR X (compareOp .In) (upR K (rdIn false)):=by
  subst hK
  refine (op_inD hu).mono fun x y H Q h=>?_
  obtain ⟨μ,e,e',Q0,M,i1,i2,q,cl⟩:=h
  obtain ⟨d,ds,rfl,h1,h3,h4,q⟩:=q
  exact ⟨d,ds,Is.same mask_le i1,h1.is M i2,h3,h4,cl _ μ _ H q M (Same.refl _) (.bl _)⟩
end
end L2
namespace L2
open PySem PySem.Spec PyProof.Rows
section
variable {X:Cx} {K:PySem.W.Frag}
def rdAddS:R2d:=fun x y μ Q=>match x,y with
  | .d (.str i),.d (.str j)=>(i ++ j).length ≤ 800000 ∧ Q (.d (.str (i ++ j))) μ
  | _,_=>False
theorem len_appS (i j:Str):(i ++ j).length = i.length + j.length:=strLen_append i j
theorem do_addS:OpR X (binaryOp .Add) (upR K rdAddS):=op_add_str.mono fun x y H Q h=>by
  obtain ⟨μ,e,e',Q0,M,i1,i2,q,cl⟩:=h
  unfold rdAddS at q
  split at q
  · cases i1; cases i2
    refine ⟨_,_,rfl,rfl,?_,cl _ μ _ H q.2 M (Same.refl _) (.str _)⟩
    rw [← len_appS,sizeLine_eq]; omega
  · exact q.elim
def dFmt (t:TEd):TEd:=fun ρ μ Q=>t ρ μ fun x μ1=>match x with
  | .d (.int i)=>i.natAbs.log2 < 1920 ∧ Q (.d (.str (toString i))) μ1
  | _=>False
theorem d_fmt {e:Expr} {t:TEd} {pos:Pos} (h:DE K X e t):DE K X (.FormattedValue e (-1) none pos) (dFmt t):=by
  intro pins s σ H Q I ⟨ρ,μ,Q0,hS,hM,q,cl⟩
  refine FormattedValue_plain (wpC_mono (h pins s σ H _ I ⟨ρ,μ,_,hS,hM,q,fun x μ1 v H1 q1 M1 s1 i1=>(⟨x,μ1,q1,M1,s1,i1⟩:∃ x μ1,(match x with | .d (.int i)=>i.natAbs.log2 < 1920 ∧ Q0 (.d (.str (toString i))) μ1 | _=>False) ∧ RelM K μ1 H1 ∧ Same (mask μ H) (mask μ1 H1) ∧ IsE K μ1 H1 v x)⟩) (fun u s1 ⟨v,H1,I1,r1,x,μ1,q1,M1,ss,i1⟩=>?_) fun _ _ z=>z)
  split at q1
  · cases i1
    obtain ⟨t,rfl⟩:=r1
    exact formatField_int_small q1.1 ⟨.str _,H1,I1.tok _,⟨_,rfl⟩,cl _ μ1 _ H1 q1.2 M1 ss (.str _)⟩
  · exact q1.elim
def dJoin:List TEd → Str → TEd
  | [],out=>fun _ μ Q=>out.length ≤ 4000 ∧ Q (.d (.str out)) μ
  | t :: ts,out=>fun ρ μ Q=>t ρ μ fun x μ1=>match x with
    | .d (.str y)=>(out ++ y).length ≤ 4000 ∧ dJoin ts (out ++ y) ρ μ1 Q
    | _=>False
def DJ (K:PySem.W.Frag) (X:Cx) (es:List Expr) (ts:List TEd):Prop:=∀ (out:Str) (pins:List (Addr × Obj)) (s:Shared) (σ:St) (H:Hp) (Q:VK),Inv X pins σ H s → up K (dJoin ts out) σ H Q →
  wpC (model X.prog X.w) X.A (joinParts out (evalEach es X.env)) (EP X pins σ Q) X.xe s
theorem dj_nil:DJ K X [] []:=fun out pins s σ H Q I ⟨ρ,μ,Q0,hS,hM,q,cl⟩ =>
  joinParts_nil ⟨.str _,H,I.tok _,⟨_,rfl⟩,cl _ μ _ H q.2 hM (Same.refl _) (.str _)⟩ (by rw [sizeLine_eq]; have:=q.1; omega)
theorem dj_cons {e:Expr} {es:List Expr} {t:TEd} {ts:List TEd} (h:DE K X e t) (hs:DJ K X es ts):DJ K X (e :: es) (t :: ts):=by
  intro out pins s σ H Q I ⟨ρ,μ,Q0,hS,hM,q,cl⟩
  show wpC _ _ (joinParts out (eval e X.env :: evalEach es X.env)) _ _ s
  refine joinParts_cons (wpC_mono (h pins s σ H _ I ⟨ρ,μ,_,hS,hM,q,fun x μ1 v H1 q1 M1 s1 i1=>(⟨x,μ1,q1,M1,s1,i1⟩:∃ x μ1,(match x with | .d (.str y)=>(out ++ y).length ≤ 4000 ∧ dJoin ts (out ++ y) ρ μ1 Q0 | _=>False) ∧ RelM K μ1 H1 ∧ Same (mask μ H) (mask μ1 H1) ∧ IsE K μ1 H1 v x)⟩) (fun u s1 ⟨v,H1,I1,r1,x,μ1,q1,M1,ss,i1⟩=>?_) fun _ _ z=>z)
  split at q1
  · rename_i y
    cases i1
    obtain ⟨tk,rfl⟩:=r1
    exact ⟨by rw [sizeLine_eq]; have:=q1.1; omega,hs _ pins s1 σ H1 Q I1 ⟨ρ,μ1,Q0,hS.same ss,M1,q1.2,cl.same ss⟩⟩
  · exact q1.elim
theorem d_fstr {v1 v2:Expr} {rest:List Expr} {ts:List TEd} {pos:Pos} (h:DJ K X (v1 :: v2 :: rest) ts):DE K X (.JoinedStr (v1 :: v2 :: rest) pos) (dJoin ts Str.empty):=fun pins s σ H Q I q=>JoinedStr_many (h _ pins s σ H Q I q)
theorem call_intS:CallR X (.type "int") (fun xs H Q=>∃ x n,xs = [.str x] ∧ intText? x = some n ∧ x.length ≤ 640 ∧ Q (.int n) H):=by
  intro pins s σ H xs us Q I r h
  obtain ⟨x,n,rfl,hn,hl,q⟩:=h
  obtain ⟨u,rfl,t,rfl⟩:=vals1 r
  exact PySem_W_KIN_call_text hn hl ⟨.int n,H,I.tok _,⟨_,rfl⟩,q⟩
def rdIntS:RAd:=fun es μ Q=>match es with
  | [.d (.str x)]=>∃ n,intText? x = some n ∧ x.length ≤ 640 ∧ Q (.d (.int n)) μ
  | _=>False
theorem dc_intS:CallR X (.type "int") (upC K rdIntS):=call_intS.mono fun xs H Q h=>by
  obtain ⟨μ,es,Q0,M,i1,q,cl⟩:=h
  unfold rdIntS at q
  split at q
  · obtain ⟨n,h1,h2,q⟩:=q
    obtain ⟨v,rfl,i⟩:=pair1 i1
    cases i
    exact ⟨_,n,rfl,h1,h2,cl _ μ _ H q M (Same.refl _) (.int _)⟩
  · exact q.elim
def rdStrI:RAd:=fun es μ Q=>match es with
  | [.d (.int i)]=>i.natAbs.log2 < 1920 ∧ Q (.d (.str (toString i))) μ
  | _=>False
theorem dc_strI:CallR X (.type "str") (upC K rdStrI):=call_str_int.mono fun xs H Q h=>by
  obtain ⟨μ,es,Q0,M,i1,q,cl⟩:=h
  unfold rdStrI at q
  split at q
  · obtain ⟨v,rfl,i⟩:=pair1 i1
    cases i
    exact ⟨_,rfl,q.1,cl _ μ _ H q.2 M (Same.refl _) (.str _)⟩
  · exact q.elim
def rSplit:V → List V → Hp → VK → Prop:=fun x vs H Q=>∃ z m:Str,x = .str z ∧ vs = [.str m] ∧ (m.length == 0) = false ∧ z.length ≤ 800000 ∧ (Txt.split z m).length ≤ 800000 ∧ ∀ p,H p = none → Q (.ref p) (upd H p (.lst ((Txt.split z m).map V.str)))
theorem vals_strs:∀ {l:List (Str × Tok)},Vals ((l.map (·.1)).map V.str) (strValues l)
  | []=>.nil
  | (x,t) :: l=>.cons ⟨t,rfl⟩ vals_strs
theorem mt_split:MtR X "str.split" rSplit:=by
  intro pins s σ H x xs v us Q I rx rs h
  obtain ⟨z,m,rfl,rfl,hy,hz,hn,q⟩:=h
  obtain ⟨t,rfl⟩:=rx
  obtain ⟨u,rfl,t',rfl⟩:=vals1 rs
  have fin:∀ (l:List (Str × Tok)) (tk:Nat),l.map (·.1) = Txt.split z m → EP X pins σ Q (.ref s.heap.objs.size) { s with heap:=s.heap.push { cls:=.type "list",data:=.seq (strValues l).toArray },toks:=tk }:=fun l tk hl=>by
    have hv:Vals ((Txt.split z m).map V.str) (strValues l):=hl ▸ vals_strs
    have hk:((Txt.split z m).map V.str).length ≤ sizeLine:=by rw [List.length_map,sizeLine_eq]; omega
    refine ⟨.ref s.heap.objs.size,_,I.laid (t':=tk) (o:=.lst ((Txt.split z m).map V.str)) (fun b ob e=>Heap.get?_push_of_some _ e) (Nat.le_refl _) ?_,rfl,q _ (I.hok.fresh (Nat.le_refl _))⟩
    exact ⟨hk,strValues l,_,hv,Heap.get?_push_size _ rfl⟩
  have hx:z.length ≤ sizeLine:=by rw [sizeLine_eq]; omega
  cases h1:(decide (z.length < m.length) || decide (Builtin.Str.strKind z < Builtin.Str.strKind m))
  · cases hf:(Builtin.Str.occurrences z m 0 z.length (z.length + 1)).isEmpty
    · have es:Txt.split z m = Builtin.Str.partsBetween z (Builtin.Str.occurrences z m 0 z.length (z.length + 1)) m.length:=(if_neg (ne_true_of_eq_false h1)).trans (if_neg (ne_true_of_eq_false hf))
      refine call_meets F.slot_str_split (typeIs_str _ _ _) F.entry_str_split (F.args_str_split_2 _ _) (meets_str_split_sep z m t t' h1 hy hf hx (by rw [← es,sizeLine_eq]; omega)) ?_
      show EP X pins σ Q (.ref s.heap.objs.size) { s with toks:=_,heap:=s.heap.push { cls:=.type "list",data:=.seq (strsFrom s.toks (Builtin.Str.partsBetween z (Builtin.Str.occurrences z m 0 z.length (z.length + 1)) m.length)).toArray } }
      rw [strsFrom_eq]
      exact fin (numbered s.toks _) _ ((numbered_texts _ _).trans es.symm)
    · exact call_meets F.slot_str_split (typeIs_str _ _ _) F.entry_str_split (F.args_str_split_2 _ _) (meets_str_split_not_found z m t t' h1 hy hf) (fin [(z,t)] _ ((if_neg (ne_true_of_eq_false h1)).trans (if_pos hf)).symm)
  · exact call_meets F.slot_str_split (typeIs_str _ _ _) F.entry_str_split (F.args_str_split_2 _ _) (meets_str_split_cannot_occur z m t t' h1) (fin [(z,t)] _ (if_pos h1).symm)
def dSplit (to:TEd) (tr:TAd):TEd:=fun ρ μ Q=>to ρ μ fun x μ1=>match x with
  | .d (.str z)=>tr ρ μ1 fun es μ2=>match es with
    | [.d (.str m)]=>(m.length == 0) = false ∧ z.length ≤ 800000 ∧ (Txt.split z m).length ≤ 4000 ∧ Q (.d (.list ((Txt.split z m).map .str))) μ2
    | _=>False
  | _=>False
theorem isAll_strs {H:Hp}:∀ (l:List Str),IsAll K H (l.map V.str) (l.map PyData.str)
  | []=>.nil
  | x :: l=>.cons (.str x) (isAll_strs l)
theorem strs_of {H:Hp}:∀ {vs:List V} {ys:List Str},IsAll K H vs (ys.map PyData.str) → vs = ys.map V.str
  | _,[],.nil=>rfl
  | _,_ :: _,.cons h t=>by cases h; rw [strs_of t]; rfl
variable {o e:Expr} {to:TEd} {tr:TAd} {p1 pos:Pos}
theorem d_split (ho:DE K X o to) (ha:DA K X [e] tr) (hK:X.K = K:=by rfl)
    (h:PE X (.Call (.Attribute o "split" p1) [e] [] pos) (tBM X.K "str" rSplit (up K to) (upA K tr))):DE K X (.Call (.Attribute o "split" p1) [e] [] pos) (dSplit to tr):=by
  subst hK
  refine PE.mono h fun σ H Q hq9=>?_
  obtain ⟨ρ,μ,Q0,hS,hM,h,cl⟩:=hq9
  refine ⟨ρ,μ,_,hS,hM,h,fun x μ1 v H1 q M1 s1 i1=>?_⟩
  split at q
  · rename_i z
    cases i1
    refine ⟨rfl,ρ,μ1,_,hS.same s1,M1,q,fun es μ2 vs H2 q2 M2 s2 i2=>?_⟩
    split at q2
    · rename_i m
      obtain ⟨v,rfl,h1⟩:=pair1 i2
      cases h1
      refine ⟨z,m,rfl,rfl,q2.1,q2.2.1,by have:=q2.2.2.1; omega,fun p hp=>?_⟩
      obtain ⟨M3,s3,hn⟩:=M2.laid (o:=.lst ((Txt.split z m).map V.str)) hp
      exact cl _ μ2 _ _ q2.2.2.2 M3 ((s1.trans s2).trans s3) (.lst (SqL.of (by rw [mask_of hn]; exact upd_same)) (isAll_strs _))
    · exact q2.elim
  · exact q.elim
def rJoinX (K:PySem.W.Frag):V → List V → Hp → VK → Prop:=fun x vs H Q=>∃ (z:Str) (l:Addr) (ys:List Str),x = .str z ∧ vs = [.ref l] ∧ SqL K H l (ys.map V.str) ∧ (ys.map (·.length)).sum + ys.length * z.length ≤ 16777216 ∧ Q (.str (Txt.join z ys)) H
theorem mt_joinX:MtR X "str.join" (rJoinX X.K):=by
  intro pins s σ H x xs v us Q I rx rs h
  obtain ⟨z,l,ys,rfl,rfl,hq,hz,q⟩:=h
  obtain ⟨t,rfl⟩:=rx
  obtain ⟨u,rfl,ru⟩:=vals1 rs
  cases ru
  obtain ⟨its,rv,pl,_⟩:=I.list hq
  exact join_list pl.isList (by simpa using strsAre_of rv) hz fun t' k=>⟨.str _,H,I.tok _,⟨_,rfl⟩,q⟩
def dJn (to:TEd) (tr:TAd):TEd:=fun ρ μ Q=>to ρ μ fun x μ1=>match x with
  | .d (.str z)=>tr ρ μ1 fun es μ2=>match es with
    | [e]=>∃ ys:List Str,LstOf μ2 e (ys.map .str) ∧ (ys.map (·.length)).sum + ys.length * z.length ≤ 800000 ∧ Q (.d (.str (Str.join z ys))) μ2
    | _=>False
  | _=>False
theorem d_join (ho:DE K X o to) (ha:DA K X [e] tr) (hK:X.K = K:=by rfl)
    (h:PE X (.Call (.Attribute o "join" p1) [e] [] pos) (tBM X.K "str" (rJoinX X.K) (up K to) (upA K tr))):DE K X (.Call (.Attribute o "join" p1) [e] [] pos) (dJn to tr):=by
  subst hK
  refine PE.mono h fun σ H Q hq9=>?_
  obtain ⟨ρ,μ,Q0,hS,hM,h,cl⟩:=hq9
  refine ⟨ρ,μ,_,hS,hM,h,fun x μ1 v H1 q M1 s1 i1=>?_⟩
  split at q
  · rename_i z
    cases i1
    refine ⟨rfl,ρ,μ1,_,hS.same s1,M1,q,fun es μ2 vs H2 q2 M2 s2 i2=>?_⟩
    split at q2
    · obtain ⟨ys,hl,hz,q2⟩:=q2
      obtain ⟨v,rfl,h1⟩:=pair1 i2
      obtain ⟨p,xs,rfl,hq,hA⟩:=hl.get M2 h1
      have:=strs_of hA
      subst this
      refine ⟨z,p,ys,rfl,rfl,hq,by omega,?_⟩
      have e:Txt.join z ys = Str.join z ys:=StrLaws.glued_eq_join z ys
      rw [e]
      exact cl _ μ2 _ _ q2 M2 (s1.trans s2) (.str _)
    · exact q2.elim
  · exact q.elim
end
end L2
namespace L2
open PySem PySem.Spec PyProof.Rows PySem.StrLaws PySem.Builtin.Str
abbrev cl (x:Str):List Nat:=x.cps.toList
theorem cl_len (x:Str):(cl x).length = x.length:=Array.length_toList
theorem cl_app (x y:Str):cl (x ++ y) = cl x ++ cl y:=PySem.W.KT.app_list x y
theorem cl_ext {x y:Str} (h:cl x = cl y):x = y:=ext_toList h
theorem cl_sub (x:Str) (i j:Nat):cl (strSub x i j) = ((cl x).drop i).take (j - i):=by
  show (x.cps.extract i j).toList = _
  rw [Array.toList_extract,List.extract_eq_take_drop]
theorem at_iff {x y:Str} {k:Nat}:At x y x.length k ↔ k + y.length ≤ x.length ∧ ((cl x).drop k).take y.length = cl y:=by
  unfold At subAt
  rw [beq_iff_eq]
  refine and_congr_right fun _=>⟨fun h=>?_,fun h=>?_⟩
  · have:=cl_sub x k (k + y.length)
    rw [show strSub x k (k + y.length) = y from congrArg Str.mk h,Nat.add_sub_cancel_left] at this
    exact this.symm
  · have:=cl_sub x k (k + y.length)
    rw [Nat.add_sub_cancel_left,h] at this
    exact congrArg Str.cps (cl_ext this)
theorem at_head {x y:Str} {k c:Nat} (hy:(cl y)[0]? = some c) (h:At x y x.length k):(cl x)[k]? = some c:=by
  have h2:=(at_iff.mp h).2
  have:(((cl x).drop k).take y.length)[0]? = some c:=by rw [h2]; exact hy
  rw [List.getElem?_take] at this
  split at this
  · rw [List.getElem?_drop] at this; simpa using this
  · cases this
theorem parts_join {x y:Str} {c:Nat} (hy:(cl y)[0]? = some c):∀ (ws:List Str) (pre:List Nat),ws ≠ [] → (∀ w ∈ ws,c ∉ cl w) → cl x = pre ++ cl (Str.join y ws) →
    ∀ cuts f,ChainG x y x.length pre.length cuts f → (∀ k,f ≤ k → ¬ At x y x.length k) → partsFrom x y.length pre.length cuts = ws
  | [],_,h,_,_,_,_,_,_=>absurd rfl h
  | [w],pre,_,hw,hx,cuts,f,hc,hf=>by
    have hx:cl x = pre ++ cl w:=hx
    have no:∀ k,pre.length ≤ k → ¬ At x y x.length k:=fun k hk ha=>by
      have:=at_head hy ha
      rw [hx,List.getElem?_append_right hk] at this
      exact hw w (by simp) (List.mem_of_getElem? this)
    cases cuts with
    | cons c0 r=>exact absurd hc.2.1 (no c0 hc.1)
    | nil =>
      show [strSub x pre.length x.length] = [w]
      refine congrArg (fun z=>[z]) (cl_ext ?_)
      rw [cl_sub,hx,List.drop_left]
      exact List.take_of_length_le (by have:=cl_len x; rw [hx,List.length_append] at this; omega)
  | w :: w2 :: r,pre,_,hw,hx,cuts,f,hc,hf=>by
    have hj:cl (Str.join y (w :: w2 :: r)) = cl w ++ (cl y ++ cl (Str.join y (w2 :: r))):=by
      show cl (w ++ y ++ Str.join y (w2 :: r)) = _
      rw [cl_app,cl_app,List.append_assoc]
    rw [hj] at hx
    have hl:=cl_len x
    have hly:=cl_len y
    have yes:At x y x.length (pre.length + (cl w).length):=at_iff.mpr ⟨by
      rw [hx] at hl; simp only [List.length_append] at hl; omega,by
      rw [hx,← List.append_assoc,show pre.length + (cl w).length = (pre ++ cl w).length from by simp,List.drop_left,← hly,List.take_left]⟩
    have no:∀ k,pre.length ≤ k → k < pre.length + (cl w).length → ¬ At x y x.length k:=fun k hk hk2 ha=>by
      have:=at_head hy ha
      rw [hx,List.getElem?_append_right hk,List.getElem?_append_left (by omega)] at this
      exact hw w (by simp) (List.mem_of_getElem? this)
    cases cuts with
    | nil =>
      have e:f = pre.length:=hc
      exact absurd yes (hf _ (by omega))
    | cons c0 cs =>
      obtain ⟨h1,h2,h3,h4⟩:=hc
      have e:c0 = pre.length + (cl w).length:=by
        by_cases hlt:c0 < pre.length + (cl w).length
        · exact absurd h2 (no c0 h1 hlt)
        · by_cases hgt:pre.length + (cl w).length < c0
          · exact absurd yes (h3 _ (by omega) hgt)
          · omega
      subst e
      have ih:=parts_join hy (w2 :: r) (pre ++ cl w ++ cl y) (by simp) (fun z hz=>hw z (List.mem_cons_of_mem _ hz)) (by rw [hx]; simp) cs f (by
        have:(pre ++ cl w ++ cl y).length = pre.length + (cl w).length + y.length:=by simp only [List.length_append]; omega
        rw [this]; exact h4) hf
      show strSub x pre.length (pre.length + (cl w).length) :: partsFrom x y.length (pre.length + (cl w).length + y.length) cs = _
      have e2:(pre ++ cl w ++ cl y).length = pre.length + (cl w).length + y.length:=by simp only [List.length_append]; omega
      rw [← e2,ih]
      refine congrArg (fun z=>z :: w2 :: r) (cl_ext ?_)
      rw [cl_sub,hx,List.drop_left,Nat.add_sub_cancel_left,List.take_left]
theorem split_join {y:Str} {c:Nat} {ws:List Str} (hy:(cl y)[0]? = some c) (hk:strKind y = 1) (hne:ws ≠ []) (hw:∀ w ∈ ws,c ∉ cl w):Txt.split (Str.join y ws) y = ws:=by
  have hy1:1 ≤ y.length:=by
    rw [← cl_len]
    have:=(List.getElem?_eq_some_iff.mp hy).1
    omega
  obtain ⟨f,hG,hn⟩:=occ_tight (Str.join y ws) y hy1
  have hp:=parts_join hy ws [] hne hw rfl _ f hG hn
  unfold Txt.split
  split
  · rename_i h
    rw [Bool.or_eq_true,decide_eq_true_eq,decide_eq_true_eq] at h
    rcases h with h | h
    · match ws,hne with
      | [w],_=>rfl
      | w :: w2 :: r,_ =>
        exfalso
        have:(Str.join y (w :: w2 :: r)).length = w.length + y.length + (Str.join y (w2 :: r)).length:=by
          show (w ++ y ++ Str.join y (w2 :: r)).length = _
          rw [len_appS,len_appS]
        omega
    · rw [hk] at h
      exact absurd h (by unfold Builtin.Str.strKind; split <;> (try split) <;> omega)
  · split
    · rename_i h1 h2
      rw [List.isEmpty_iff.mp h2] at hp
      refine Eq.trans ?_ hp
      show [_] = [strSub _ 0 _]
      rw [show strSub (Str.join y ws) 0 (Str.join y ws).length = Str.join y ws from cl_ext (by rw [cl_sub,List.drop_zero]; exact List.take_of_length_le (by rw [cl_len]; omega))]
    · rw [partsBetween_eq]; exact hp
abbrev sN (n:Int):Str:=Str.ofString (toString n)
theorem sN_nat (m:Nat):cl (sN (m:Nat)) = (Nat.toDigits 10 m).map Char.toNat:=PySem.W.KIN.signs_num m
theorem sN_neg (m:Nat):cl (sN (-((m + 1:Nat):Int))) = 45 :: (Nat.toDigits 10 (m + 1)).map Char.toNat:=by
  show cl (Str.ofString (toString (Int.negSucc m))) = _
  rw [show toString (Int.negSucc m) = "-" ++ Nat.repr (m + 1) from rfl]
  show (Str.ofString _).cps.toList = _
  rw [signs_ofString,String.toList_append,List.map_append,Nat.toList_repr]
  rfl
theorem dig_ok (m:Nat):∀ c ∈ (Nat.toDigits 10 m).map Char.toNat,48 ≤ c ∧ c ≤ 57:=fun c hc=>by
  obtain ⟨ch,hch,rfl⟩:=List.mem_map.mp hc
  exact digit_range (Nat.isDigit_of_mem_toDigits (by decide) (by decide) hch)
theorem sN_signs (n:Int):∀ c ∈ cl (sN n),c = 45 ∨ (48 ≤ c ∧ c ≤ 57):=by
  intro c hc
  obtain ⟨m,rfl | rfl⟩:=Int.eq_nat_or_neg n
  · rw [sN_nat] at hc; exact .inr (dig_ok m c hc)
  · cases m with
    | zero=>rw [show (-((0:Nat):Int)) = ((0:Nat):Int) from rfl,sN_nat] at hc; exact .inr (dig_ok 0 c hc)
    | succ m =>
      rw [sN_neg] at hc
      rcases List.mem_cons.mp hc with rfl | hc
      · exact .inl rfl
      · exact .inr (dig_ok _ c hc)
theorem dig_len {m k:Nat} (hk:0 < k) (h:m < 10 ^ k):((Nat.toDigits 10 m).map Char.toNat).length ≤ k:=by
  have:=toString_length_le (v:=(m:Int)) (by omega) hk (by exact_mod_cast h)
  rw [← cl_len,sN_nat] at this
  exact this
theorem sN_len {n:Int} {k:Nat} (hk:0 < k) (h:n.natAbs < 10 ^ k):(sN n).length ≤ k + 1:=by
  rw [← cl_len]
  obtain ⟨m,rfl | rfl⟩:=Int.eq_nat_or_neg n
  · rw [sN_nat]; have:=dig_len hk (m:=m) (by simpa using h); omega
  · cases m with
    | zero=>rw [show (-((0:Nat):Int)) = ((0:Nat):Int) from rfl,sN_nat]; have:=dig_len hk (m:=0) (by simpa using h); omega
    | succ m=>rw [sN_neg]; have:=dig_len hk (m:=m + 1) (by rw [Int.natAbs_neg] at h; exact h); simp only [List.length_cons]; omega
theorem dig_ne (m:Nat):(Nat.toDigits 10 m).map Char.toNat ≠ []:=fun e=>by
  have h:=toDigits_len_ge 10 m
  rw [List.map_eq_nil_iff.mp e] at h
  exact absurd h (by decide)
theorem sN_reads {n:Int} (hl:(sN n).length ≤ 640):intText? (sN n) = some n:=by
  obtain ⟨m,rfl | rfl⟩:=Int.eq_nat_or_neg n
  · have:=PySem.intText_digits (x:=sN (m:Nat)) (by rw [show (sN (m:Nat)).cps.toList = _ from sN_nat m]; exact dig_ok m) (by rw [show (sN (m:Nat)).cps.toList = _ from sN_nat m]; exact dig_ne m) (by omega)
    rw [show (sN (m:Nat)).cps.toList = _ from sN_nat m,PySem.W.KIN.val_back] at this
    exact this
  · cases m with
    | zero =>
      have:=PySem.intText_digits (x:=sN (0:Nat)) (by rw [show (sN (0:Nat)).cps.toList = _ from sN_nat 0]; exact dig_ok 0) (by rw [show (sN (0:Nat)).cps.toList = _ from sN_nat 0]; exact dig_ne 0) (by exact Nat.le_trans hl (by decide))
      rw [show (sN (0:Nat)).cps.toList = _ from sN_nat 0,PySem.W.KIN.val_back] at this
      exact this
    | succ m =>
      have:=PySem.intText_neg (x:=sN (-((m + 1:Nat):Int))) (sN_neg m) (dig_ok _) (dig_ne _) (by omega)
      rw [PySem.W.KIN.val_back] at this
      exact this
end L2
namespace L2
open PySem PySem.Spec PyProof.Rows
section
variable {P:Program} {w:World} {K:PySem.W.Frag} {mg:Str → Option Value} {base:Heap} {N:List Str} {qual:Str} {scope:Scope} {f:Addr} {cd:Value} {A:Around} {outer:List Env} {s:Shared} {H:Hp} {E:XK}
theorem passX:Passes (XC P w) (cxOf (XC P w) P w K mg base N qual scope f cd A outer s H E) E:=by
  intro pins σ H1 s1 e s' I hx
  generalize hX:cxOf (XC P w) P w K mg base N qual scope f cd A outer s H E = X at *
  have xst:X.stack = X.env :: X.outer:=by rw [← hX]; rfl
  have xfr:X.env.frame = some X.env.locals:=by rw [← hX]; rfl
  have xex:X.ex = []:=by rw [← hX]; rfl
  have xe:X.xe = fun e s'=>wpC (model X.prog X.w) X.A (leaving X.env e) (fun _ s''=>XC X.prog X.w X.outer X.H₀ X.s₀ E e s'') (fun e' s''=>XC X.prog X.w X.outer X.H₀ X.s₀ E e' s'') s':=by rw [← hX]; rfl
  have xP:X.prog = P:=by rw [← hX]; rfl
  have xw:X.w = w:=by rw [← hX]; rfl
  obtain ⟨ea,cls,a0,H',B,rfl,hos,hg,un,ok',fl,cov,hea,hE⟩:=hx
  rw [xe]
  have fsub:∀ b ∈ frs X.stack,b = X.env.locals ∨ b ∈ X.fs:=fun b hb=>List.mem_cons.mp (I.stkSub b hb)
  have hfs:∀ b ∈ X.fs,b ∈ frs X.stack:=fun b hb=>by
    rw [xst]
    obtain ⟨e,he,hfe⟩:=List.mem_filterMap.mp hb
    exact List.mem_filterMap.mpr ⟨e,List.mem_cons_of_mem _ he,hfe⟩
  have bs:Un X.fs [] X.H₀ H1 X.s₀.heap s1.heap:=by have:=I.base; rw [xex] at this; exact this
  have oldnf:∀ b o,X.s₀.heap.get? b = some o → b ∉ X.fs → b ∉ frs X.stack:=fun b o eb nb z=>by
    rcases fsub b z with z | z
    · exact absurd (Nat.lt_of_lt_of_le (Heap.lt_size eb) I.ok.above) (by rw [z]; exact Nat.lt_irrefl _)
    · exact nb z
  have trk:∀ b u,H' b = some u → b ∉ frs X.stack:=fun b u eb z=>by
    obtain ⟨_,o,ho,_⟩:=I.stack.mem z
    have:=un.free b o ho (I.stkFree b z) (by simp)
    rw [this] at eb; cases eb
  refine wpC_leaves_onW (by rw [← xst]; exact I.ok.frames) xfr (by rw [← xst]; exact fl) fun h'' fl2 ups=>?_
  have kept:∀ b o,s'.heap.get? b = some o → b ∉ frs X.stack → ((∃ o₀,s1.heap.get? b = some o₀) ∨ ∃ u,H' b = some u) → h''.get? b = some o:=fun b o eb nb c=>fl2.1 b o (cov b o eb nb c)
  have slotK:∀ b,b ∈ frs X.stack → ∀ o1,s1.heap.get? b = some o1 → ∃ sl,h''.get? b = some { cls:=o1.cls,dict:=o1.dict,data:=o1.data,slots:=sl }:=fun b hb o1 e1=>by
    obtain ⟨sl,e2⟩:=un.slot b o1 e1 (I.stkFree b hb) hb (by simp)
    obtain ⟨_,o',ho',hd'⟩:=I.stack.mem hb
    rw [e1] at ho'; cases ho'
    obtain ⟨sl2,e3⟩:=ups b { cls:=o1.cls,dict:=o1.dict,data:=o1.data,slots:=sl } e2 hd'
    exact ⟨sl2,e3⟩
  refine ⟨ea,cls,a0,H',B,rfl,hos.trans I.os,hg,⟨fun b o eb n nf _=>?_,fun b o eb n nf _=>?_,fun b o eb n _=>?_,fun b o eb _=>?_,fun b xs q=>un.tups b xs (bs.tups b xs q),fun b o u q=>un.frzs b o u (bs.frzs b o u q),fun b ps q=>?_⟩,fun b u eb=>?_,fl2,fun b o eb nb c=>?_,hea,hE⟩
  · have e1:=bs.keep b o eb n nf (by simp)
    have nb:=oldnf b o eb nf
    exact kept b o (un.keep b o e1 (bs.free b o eb n (by simp)) nb (by simp)) nb (.inl ⟨o,e1⟩)
  · obtain ⟨sl,e1⟩:=bs.slot b o eb n nf (by simp)
    obtain ⟨sl2,e2⟩:=slotK b (hfs b nf) _ e1
    exact ⟨sl2,e2⟩
  · obtain ⟨o1,e1⟩:=bs.there b o eb (by simp)
    exact un.free b o1 e1 (bs.free b o eb n (by simp)) (by simp)
  · obtain ⟨o1,e1⟩:=bs.there b o eb (by simp)
    by_cases nb:b ∈ frs X.stack
    · obtain ⟨sl,e2⟩:=slotK b nb o1 e1
      exact ⟨_,e2⟩
    · obtain ⟨o2,e2⟩:=un.there b o1 e1 (by simp)
      exact ⟨o2,kept b o2 e2 nb (.inl ⟨o1,e1⟩)⟩
  · obtain ⟨m1,e1⟩:=bs.tbls b ps q
    obtain ⟨m2,e2⟩:=un.tbls b _ e1
    exact ⟨m1 ++ m2,by rw [e2,Array.append_assoc]⟩
  · rw [xP,xw]
    refine (ok' b u eb).stay (fun c v hc e1=>?_) (fun _ z=>z) fun _ _ z=>z
    rcases hc with rfl | hc
    · exact kept c v e1 (trk c u eb) (.inr ⟨u,eb⟩)
    · exact kept c v e1 (trk c _ hc) (.inr ⟨_,hc⟩)
  · rcases c with ⟨o0,e0⟩ | ⟨u,eu⟩
    · have nb2:=oldnf b o0 e0 nb
      obtain ⟨o1,e1⟩:=bs.there b o0 e0 (by simp)
      obtain ⟨o2,e2⟩:=un.there b o1 e1 (by simp)
      have:=kept b o2 e2 nb2 (.inl ⟨o1,e1⟩)
      rw [eb] at this; cases this
      exact cov b o e2 nb2 (.inl ⟨o1,e1⟩)
    · have nb2:=trk b u eu
      obtain ⟨o2,e2⟩:=(ok' b u eu).has
      have:=kept b o2 e2 nb2 (.inr ⟨u,eu⟩)
      rw [eb] at this; cases this
      exact cov b o e2 nb2 (.inr ⟨u,eu⟩)
end
end L2
namespace L2
open PySem PySem.Spec PyProof.Rows
section
variable {X:Cx}
theorem ps_tryN {body:List Stmt} {h0:ExceptHandler} {hs:List ExceptHandler} {pos:Pos} {t:TS} (hb:∀ pn,PSs (tryCx X pn fun _ _=>False) body t):PS X (.Try body (h0 :: hs) [] [] pos) t:=by
  intro pins s σ H D I h
  refine wpC_Try_except (wpC_mono (hb (X.pn ++ pins) [] s σ H D I.tryC h) (fun f s1 q=>?_) (fun e s' q=>q.elim))
  cases f with
  | next=>obtain ⟨σ1,H1,J,q⟩:=q; exact wpC_execs_nil ⟨σ1,H1,J.untry,q⟩
  | brk=>obtain ⟨σ1,H1,J,q⟩:=q; exact ⟨σ1,H1,J.untry,q⟩
  | cont=>obtain ⟨σ1,H1,J,q⟩:=q; exact ⟨σ1,H1,J.untry,q⟩
  | ret u=>obtain ⟨v,σ1,H1,J,r,q⟩:=q; exact ⟨v,σ1,H1,J.untry,r,q⟩
end
end L2
namespace L2
open PySem PySem.Spec PyProof.Rows
def Its (x:Str):It:=⟨fun i _=>i < x.length,fun i H v H'=>H' = H ∧ ∃ c,x.cps[i]? = some c ∧ v = .str ⟨#[c]⟩,fun i _=>x.length ≤ i⟩
theorem turn_str {P:Program} {w:World} {K:PySem.W.Frag} {tg:Expr} (x:Str) (t:Tok) (it:Addr):Turn P w K tg (Its x) [it] it (fun i h=>h.IsStrIter it "str_ascii_iterator" x t i) where
  mem:=by simp
  obj:=fun i h st b hb=>by
    obtain rfl:b = it:=by simpa using hb
    obtain ⟨o,e,c,d⟩:=st
    exact ⟨o,e,fun v z=>by rw [d] at z; cases z⟩
  keep:=fun i h h' st k=>by
    obtain ⟨o,e,c,d⟩:=st
    exact ⟨o,k it (by simp) o e,c,d⟩
  item:=by
    intro X hP hw hK hc i pins s σ H E I hf st hg
    subst hP hw hK
    have hg:i < x.cps.size:=hg
    obtain ⟨f0,f1,f2,f3,f4,f5⟩:=hf it (by simp)
    refine wpC_pyNext_ascii_item st (Array.getElem?_eq_getElem hg) fun h' st' sb=>?_
    have I1:Inv X pins σ H { s with heap:=h',toks:=s.toks + 1 }:=I.turned (t':=s.toks + 1) (fun b o hb e=>(sb.2 b hb).trans e) f0 f1 f3 f4 f5
    obtain ⟨o,e,c,d⟩:=id st'
    exact ⟨_,rfl,go_of (s:={ s with heap:=h',toks:=s.toks + 1 }) e c d (by decide) ⟨.str ⟨#[x.cps[i]]⟩,H,I1,⟨_,rfl⟩,⟨rfl,_,Array.getElem?_eq_getElem hg,rfl⟩,st',fun b hb=>(hf b hb).1⟩⟩
  done:=by
    intro X hP hw hK hc i pins s σ H E I hf st hg
    subst hP hw hK
    have hg:x.cps.size ≤ i:=hg
    obtain ⟨f0,f1,f2,f3,f4,f5⟩:=hf it (by simp)
    exact wpC_pyNext_ascii_end (I.ok.hd hc) st (Array.getElem?_eq_none hg) fun h' eb=>⟨rfl,I.turned (t':=s.toks) (fun b o hb e=>eb b o hb e) f0 f1 f3 f4 f5⟩
  self:=fun _ _ _ _ _ st h=>wpC_pyIter_striter_ascii st h
section
variable {X:Cx} {K:PySem.W.Frag} {tg:Expr}
theorem pi_str {l:Expr} {tl:TE} (hl:PE X l tl):PI X tg l (fun σ H R=>tl σ H fun x H1=>∃ z:Str,x = .str z ∧ z.cps.all (· < 128) = true ∧ R (Its z) H1):=by
  intro pins s σ H R I h
  refine thn (hl pins s σ H _ I h) fun v s1 hq9=>?_
  obtain ⟨x,H1,I1,r1,q1⟩:=hq9
  obtain ⟨z,e,ha,q⟩:=q1
  subst e
  obtain ⟨t,rfl⟩:=r1
  refine wpC_pyIter_ascii ha ?_
  refine ⟨s1.heap.objs.size,[s1.heap.objs.size],_,_,H1,rfl,I1.kept (t':=s1.toks) fun b o e=>Heap.get?_push_of_some _ e,turn_str z t _,⟨_,Heap.get?_push_size _ rfl,rfl,rfl⟩,fun b hb=>?_,q⟩
  obtain rfl:b = s1.heap.objs.size:=by simpa using hb
  exact I1.fpOk (Nat.le_refl _) (I1.hok.fresh (Nat.le_refl _))
def sgs (z:Str):List PyData:=z.cps.toList.map fun c=>.str ⟨#[c]⟩
def diS (te:TEd):TId:=fun ρ μ Q=>te ρ μ fun e μ1=>match e with
  | .d (.str z)=>z.cps.all (· < 128) = true ∧ Q (itT (sgs z)) μ1
  | _=>False
theorem di_str {l:Expr} {te:TEd} (hl:DE K X l te):DI K X tg l (diS te):=by
  refine PI.mono (pi_str hl) fun σ H R hq9=>?_
  obtain ⟨ρ,μ,Q0,hS,hM,h,cl⟩:=hq9
  refine ⟨ρ,μ,_,hS,hM,h,fun e μ1 v H1 q M1 s1 i1=>?_⟩
  split at q
  · rename_i z
    cases i1
    have hlen:(sgs z).length = z.length:=by rw [sgs,List.length_map]; exact Array.length_toList
    refine ⟨z,rfl,q.1,cl _ μ1 _ H1 q.2 M1 s1 fun μ' H' M' s' hok i=>⟨fun hi=>⟨by show i < z.length; rw [← hlen]; exact hi,?_⟩,fun hi=>by show z.length ≤ i; rw [← hlen]; exact hi⟩⟩
    rintro x H2 ⟨rfl,c,hc,rfl⟩
    refine ⟨M',Same.refl _,?_⟩
    show Is K (mask μ' H2) (.str ⟨#[c]⟩) ((sgs z).getD i .none)
    rw [getD_get (x:=.str ⟨#[c]⟩) (by rw [sgs,List.getElem?_map,Array.getElem?_toList,hc]; rfl)]
    exact .str _
  · exact q.elim
def rdLenS:RAd:=fun es μ Q=>match es with
  | [.d (.str z)]=>z.length ≤ 800000 ∧ Q (.d (.int z.length)) μ
  | _=>False
theorem dc_lenS:CallR X (.builtin "len") (upC K rdLenS):=call_len_str.mono fun xs H Q h=>by
  obtain ⟨μ,es,Q0,M,i1,q,cl⟩:=h
  unfold rdLenS at q
  split at q
  · obtain ⟨v,rfl,i⟩:=pair1 i1
    cases i
    exact ⟨_,rfl,by rw [sizeLine_eq]; have:=q.1; omega,cl _ μ _ H q.2 M (Same.refl _) (.int _)⟩
  · exact q.elim
variable {a b c:Expr} {ta tb tc:TEd} {pos:Pos}
variable {rest:List Expr}
end
end L2
namespace L2
section
variable {A B:List Pt}
end
end L2
namespace L2
abbrev Ln:=Pt × Int
def lnK (l:Ln):List Int:=[l.1.1,l.1.2,l.2]
end L2
namespace L2
open PySem PySem.Spec PyProof.Rows
abbrev cm:Str := ","
abbrev bk:Str := " "
def wP (p:Pt):Str:=((Str.empty ++ sN p.1) ++ cm) ++ sN p.2
def wL (l:Ln):Str:=((((Str.empty ++ sN l.1.1) ++ bk) ++ sN l.1.2) ++ bk) ++ sN l.2
def wH (ps:List Pt):Str:=Str.join bk (ps.map wP)
theorem wP_join (p:Pt):wP p = Str.join cm [sN p.1,sN p.2]:=by
  show ((Str.empty ++ sN p.1) ++ cm) ++ sN p.2 = sN p.1 ++ cm ++ sN p.2
  rw [PySem.W.KT.empty_app]
theorem app_as (x y z:Str):(x ++ y) ++ z = x ++ (y ++ z):=cl_ext (by rw [cl_app,cl_app,cl_app,cl_app,List.append_assoc])
theorem wL_join (l:Ln):wL l = Str.join bk [sN l.1.1,sN l.1.2,sN l.2]:=by
  show ((((Str.empty ++ sN l.1.1) ++ bk) ++ sN l.1.2) ++ bk) ++ sN l.2 = sN l.1.1 ++ bk ++ (sN l.1.2 ++ bk ++ sN l.2)
  rw [PySem.W.KT.empty_app]
  simp only [app_as]
theorem cl_cm:cl cm = [44]:=by decide +kernel
theorem cl_bk:cl bk = [32]:=by decide +kernel
def Sg (x:Str):Prop:=∀ c ∈ cl x,c = 45 ∨ (48 ≤ c ∧ c ≤ 57) ∨ c = 44
def Sl (x:Str):Prop:=∀ c ∈ cl x,c = 45 ∨ (48 ≤ c ∧ c ≤ 57) ∨ c = 32
theorem wP_cl (p:Pt):cl (wP p) = cl (sN p.1) ++ (44 :: cl (sN p.2)):=by
  rw [wP_join]
  show cl (sN p.1 ++ cm ++ sN p.2) = _
  rw [cl_app,cl_app,cl_cm]; simp
theorem wP_sg (p:Pt):Sg (wP p):=fun c hc=>by
  rw [wP_cl] at hc
  rcases List.mem_append.mp hc with h | h
  · rcases sN_signs _ c h with z | z
    · exact .inl z
    · exact .inr (.inl z)
  · rcases List.mem_cons.mp h with z | h
    · exact .inr (.inr z)
    · rcases sN_signs _ c h with z | z
      · exact .inl z
      · exact .inr (.inl z)
theorem wL_cl (l:Ln):cl (wL l) = cl (sN l.1.1) ++ (32 :: (cl (sN l.1.2) ++ (32 :: cl (sN l.2)))):=by
  rw [wL_join]
  show cl (sN l.1.1 ++ bk ++ (sN l.1.2 ++ bk ++ sN l.2)) = _
  simp only [cl_app,cl_bk]; simp
theorem wL_sl (l:Ln):Sl (wL l):=fun c hc=>by
  rw [wL_cl] at hc
  simp only [List.mem_append,List.mem_cons] at hc
  rcases hc with h | h | h | h | h
  · rcases sN_signs _ c h with z | z
    · exact .inl z
    · exact .inr (.inl z)
  · exact .inr (.inr h)
  · rcases sN_signs _ c h with z | z
    · exact .inl z
    · exact .inr (.inl z)
  · exact .inr (.inr h)
  · rcases sN_signs _ c h with z | z
    · exact .inl z
    · exact .inr (.inl z)
theorem split_wP (p:Pt):Txt.split (wP p) cm = [sN p.1,sN p.2]:=by
  rw [wP_join]
  refine split_join (c:=44) (by rw [cl_cm]; rfl) (by decide +kernel) (by simp) fun x hx hc=>?_
  have:∃ n,x = sN n:=by
    simp only [List.mem_cons,List.mem_nil_iff,or_false] at hx
    rcases hx with rfl | rfl
    · exact ⟨_,rfl⟩
    · exact ⟨_,rfl⟩
  obtain ⟨n,rfl⟩:=this
  rcases sN_signs _ _ hc with z | z <;> omega
def Nb (x:Str):Prop:=32 ∉ cl x
theorem wP_nb (p:Pt):Nb (wP p):=fun h=>by rcases wP_sg p _ h with z | z | z <;> omega
theorem split_ws {ws:List Str} (hne:ws ≠ []) (h:∀ x ∈ ws,Nb x):Txt.split (Str.join bk ws) bk = ws:=split_join (c:=32) (by rw [cl_bk]; rfl) (by decide +kernel) hne h
theorem split_wH {ps:List Pt} (hne:ps ≠ []):Txt.split (wH ps) bk = ps.map wP:=split_ws (by simpa using hne) fun x hx=>by
  obtain ⟨p,_,rfl⟩:=List.mem_map.mp hx
  exact wP_nb p
theorem split_wH0:Txt.split (wH []) bk = [Str.empty]:=split_ws (ws:=[Str.empty]) (by simp) fun x hx=>by rw [List.mem_singleton.mp hx]; exact fun h=>nomatch h
def Asc (x:Str):Prop:=∀ c ∈ cl x,c < 128
theorem Asc.ok {x:Str} (h:Asc x):SeqAt.shaped (.str x) = true:=by
  have:PyData.strOk x = true:=by
    unfold PyData.strOk
    rw [Array.all_eq_true_iff_forall_mem]
    intro c hc
    have:=h c (by simpa using hc)
    simp only [decide_eq_true_eq]; omega
  unfold SeqAt.shaped
  simp [PyData.canLay0,PyData.depth,this]
theorem Asc.app {x y:Str} (h:Asc x) (h':Asc y):Asc (x ++ y):=fun c hc=>by
  rw [cl_app] at hc
  rcases List.mem_append.mp hc with z | z
  · exact h c z
  · exact h' c z
theorem Asc.sN (n:Int):Asc (L2.sN n):=fun c hc=>by rcases sN_signs n c hc with z | z <;> omega
theorem Asc.e:Asc Str.empty:=fun c hc=>nomatch hc
theorem Asc.join {y:Str} (hy:Asc y):∀ {ws:List Str},(∀ x ∈ ws,Asc x) → Asc (Str.join y ws)
  | [],_=>Asc.e
  | [x],h=>h x (by simp)
  | x :: z :: r,h=>((h x (by simp)).app hy).app (Asc.join hy fun q hq=>h q (List.mem_cons_of_mem _ hq))
theorem Asc.bk:Asc L2.bk:=fun c hc=>by rw [cl_bk] at hc; simp at hc; omega
theorem Asc.wP (p:Pt):Asc (L2.wP p):=fun c hc=>by rcases wP_sg p c hc with z | z | z <;> omega
theorem Asc.wL (l:Ln):Asc (L2.wL l):=fun c hc=>by rcases wL_sl l c hc with z | z | z <;> omega
theorem Asc.wH (ps:List Pt):Asc (L2.wH ps):=Asc.join Asc.bk fun x hx=>by obtain ⟨p,_,rfl⟩:=List.mem_map.mp hx; exact Asc.wP p
theorem eqv_strs (x y:Str):PyData.eqv (.str x) (.str y) = decide (x = y):=by
  by_cases h:x = y <;> simp [PyData.eqv,h]
theorem log_small {n:Int} (h:n.natAbs < 10 ^ 62):n.natAbs.log2 < 1920:=by
  by_cases h0:n.natAbs = 0
  · rw [h0]; decide
  · exact (Nat.log2_lt h0).mpr (Nat.lt_of_lt_of_le h (by decide +kernel))
theorem sN_63 {n:Int} (h:n.natAbs < 10 ^ 62):(sN n).length ≤ 63:=sN_len (by decide) h
theorem wP_len {p:Pt} (h1:p.1.natAbs < 10 ^ 62) (h2:p.2.natAbs < 10 ^ 62):(wP p).length ≤ 127:=by
  have a:=sN_63 h1; have b:=sN_63 h2
  rw [← cl_len] at *
  rw [wP_cl]
  simp only [List.length_append,List.length_cons]; omega
theorem join_len {y:Str} {B:Nat}:∀ {ws:List Str},(∀ x ∈ ws,x.length ≤ B) → (Str.join y ws).length ≤ ws.length * (B + y.length)
  | [],_=>Nat.zero_le _
  | [x],h=>by have:=h x (by simp); simp only [List.length_singleton,Str.join]; omega
  | x :: z :: r,h=>by
    have h1:=h x (by simp)
    have h2:=join_len (y:=y) (ws:=z :: r) fun q hq=>h q (List.mem_cons_of_mem _ hq)
    show (x ++ y ++ Str.join y (z :: r)).length ≤ _
    rw [len_appS,len_appS]
    simp only [List.length_cons] at h2 ⊢
    rw [Nat.add_mul,Nat.one_mul,Nat.add_mul,Nat.one_mul] at *
    omega
theorem Asc.lay {x:Str} (h:Asc x):PyData.canLay0 (.str x) = true:=(Bool.and_eq_true_iff.mp h.ok).1
theorem lay_strs:∀ {ws:List Str},(∀ x ∈ ws,Asc x) → PyData.canLayAll0 (ws.map PyData.str) = true
  | [],_=>by simp [PyData.canLayAll0]
  | x :: r,h=>by
    simp only [List.map_cons,PyData.canLayAll0,Bool.and_eq_true]
    exact ⟨(h x (by simp)).lay,lay_strs fun z hz=>h z (List.mem_cons_of_mem _ hz)⟩
theorem depth_strs:∀ ws:List Str,PyData.depthAll (ws.map PyData.str) ≤ 1
  | []=>by simp [PyData.depthAll]
  | x :: r=>by
    have:=depth_strs r
    simp only [List.map_cons,PyData.depthAll,PyData.depth]
    omega
theorem sh_strs {ws:List Str} (h:∀ x ∈ ws,Asc x):SeqAt.shaped (.list (ws.map PyData.str)) = true:=by
  unfold SeqAt.shaped
  rw [Bool.and_eq_true]
  refine ⟨by simp only [PyData.canLay0]; exact lay_strs h,decide_eq_true ?_⟩
  have:=depth_strs ws
  simp only [PyData.depth]
  omega
theorem wP_ne (p:Pt):wP p ≠ Str.empty:=fun e=>by
  have:=wP_cl p
  rw [e] at this
  have:([]:List Nat) = _:=this
  simp at this
end L2
namespace L2
open PySem PySem.Spec PyProof.Rows PySem.NumText
section
variable {α:Type} {M:Model} {A:Around} {E:Value → Shared → Prop} {s:Shared} {prog:Program} {w:World}
theorem wpC_mark {own:List String} {e:Value} {Q:Unit → Shared → Prop} (h:Q () s):wpC M A (markTheRefusal own e) Q E s:=fun Γ p i k=>by
  have no:pythonCodeMadeTheCall own (((Γ.code,p) :: Γ.below).map (·.1)) = false:=by
    have z:(((Γ.code,p) :: Γ.below).map (·.1)).any Code.isCaller = true:=k
    unfold pythonCodeMadeTheCall
    show (!((((Γ.code,p) :: Γ.below).map (·.1)).any Code.isCaller) && _ && _) = false
    rw [z]; rfl
  unfold markTheRefusal
  show Sem.wp M Γ (if pythonCodeMadeTheCall own (((Γ.code,p) :: Γ.below).map (·.1)) = true then _ else _) _ _ p s
  rw [no]
  exact h
theorem wpC_throw {e:Value} {Q:α → Shared → Prop} (h:E e s):wpC M A (throw e:Sem α) Q E s:=fun _ _ _ _=>h
theorem codeC_builtin {id:String} {args:Args} {b:Builtin} {R:Result → Shared → Prop} (hb:entryFor table id = some b)
    (h:wpC (model prog w) (A.under (.builtin id args)) (b args) (fun fin s'=>match fin with | .done f=>R (.ok f) s' | .again c'=>c'.quiet = true ∧ codeC (model prog w) A c' R s') (fun e s'=>R (.error e) s') s):codeC (model prog w) A (.builtin id args) R s:=by
  refine codeC_of_tree ?_
  show wpC _ _ (match entryFor table id with | some b=>b args | none=>unsupported ((withoutEnding? id "#data").getD id)) _ _ s
  rw [hb]; exact h
theorem codeC_call_builtin {id:String} {args:Args} {b:Builtin} {R:Result → Shared → Prop} (hq:plainId id = true) (hb:entryFor table id = some b) (hc:checkBuiltinCall id args = pure ())
    (h:wpC (model prog w) A.in1 (b args) (fun fin s'=>match fin with | .done f=>R (.ok f) s' | .again c'=>c'.quiet = true ∧ codeC (model prog w) A c' R s') (fun e s'=>R (.error e) s') s):codeC (model prog w) A (.call (.builtin id) args) R s:=by
  refine codeC_of_tree ?_
  show wpC _ A.in1 (checkBuiltinCall id args >>= fun _=>again (.builtin id args)) _ _ s
  rw [hc]
  exact wpC_bind (wpC_pure (wpC_pure ⟨plainId_quiet hq args,codeC_builtin hb (by rw [Around.under_plainId hq args]; exact h)⟩))
theorem wpC_refuse {x:Str} {t:Tok} {text:List Nat} {Q:Value → Shared → Prop} (hh:A.handled = none) (hs:(text.takeWhile (· != 0)).length ≤ 640)
    (hr:(int_private% "readNumeral") 0 10 (text.takeWhile (· != 0)) = int_private% "Numeral.invalid" ∨ ∃ i,(int_private% "readNumeral") 0 10 (text.takeWhile (· != 0)) = (int_private% "Numeral.value") i ∧ ¬ ((text.takeWhile (· != 0)).length == text.length) = true)
    (hz:(reprText x).length ≤ sizeLine)
    (h:∀ h' tk e m,Heap.MadeExcOf s.heap h' e (.type "ValueError") [m] → E (.ref e) { s with heap:=h',toks:=tk }):wpC (model prog w) A ((int_private% "intFromText") (.str x t) text 10) Q E s:=by
  have fin:wpC (model prog w) A (do
      rule "int.__new__.invalid-literal"
      let shown ← pyRepr (.str x t)
      let m ← mkStr (Str.ofString (toString "invalid literal for int() with base " ++ toString 10 ++ toString ": ") ++ { cps:=shown.cps.extract 0 200 })
      let refusal ← newExc (.type "ValueError") [m]
      markTheRefusal ["int.__new__"] refusal
      raiseNew refusal) Q E s:=by
    refine wpC_bind (wpC_rule (wpC_first (wpAny_pyRepr_str ?_ hz)))
    refine wpC_first (wpAny_mkStr ?_ ?_)
    · unfold newExc newTuple
      refine wpC_first (wpAny_bind (wpAny_newObj_type (wpAny_bind (m:=firstArgMember _ _) (wpAny_of_eq (a:=Value.none) rfl (wpAny_newObj_type ?_)))))
      refine wpC_bind (wpC_mark ?_)
      unfold raiseNew
      refine wpC_first (wpAny_handled ?_)
      rw [hh]
      first
        | refine wpC_throw ?_
        | refine wpC_bind (wpC_pure (wpC_throw ?_))
      exact h _ _ _ _ ⟨fun b o hb=>Heap.get?_push_of_some _ (Heap.get?_push_of_some _ hb),Heap.get?_none_of_le (by simp),_,Heap.get?_push_size _ rfl,Heap.get?_none_of_le (Nat.le_refl _),Heap.get?_push_of_some _ (Heap.get?_push_size _ rfl)⟩
    · rw [strLen_append,sizeLine_eq]
      have:(⟨(reprText x).cps.extract 0 200⟩:Str).length ≤ 200:=by show ((reprText x).cps.extract 0 200).size ≤ 200; rw [Array.size_extract]; omega
      have e2:(Str.ofString (toString "invalid literal for int() with base " ++ toString 10 ++ toString ": ")).length ≤ 100:=by decide +kernel
      omega
  refine wpC_ite_true hs (wpC_bind (wpC_pure ?_))
  dsimp only
  rcases hr with hr | ⟨i,hr,hne⟩
  · rw [hr]
    exact wpC_bind (wpC_of_eq (a:=none) rfl (wpC_ite_false (by simp) fin))
  · rw [hr]
    exact wpC_ite_false hne fin
theorem call_refused {x:Str} {t:Tok} {Q:Value → Shared → Prop} (hh:A.handled = none) (hn:intText? x = none) (hl:x.length ≤ 640) (hz:(reprText x).length ≤ sizeLine)
    (h:∀ h' tk e m,Heap.MadeExcOf s.heap h' e (.type "ValueError") [m] → E (.ref e) { s with heap:=h',toks:=tk }):wpC (model prog w) A (call (.type "int") [.str x t]) Q E s:=by
  have hs:(numSeenOf x).length ≤ 640:=Nat.le_trans (seen_length x) hl
  have hr:=read0 x hs
  rw [hn] at hr
  have hr:(int_private% "readNumeral") 0 10 (numSeenOf x) = int_private% "Numeral.invalid" ∨ ∃ i,(int_private% "readNumeral") 0 10 (numSeenOf x) = (int_private% "Numeral.value") i ∧ ¬ ((numSeenOf x).length == (numTextOf x).length) = true:=by
    rcases hr with ⟨n,z,_⟩ | ⟨_,z⟩
    · cases z
    · exact z
  refine wpC_call (codeC_of_tree ?_)
  show wpC _ _ (callAny (.type "int") _) _ _ _
  refine wpC_pure ⟨Code.quiet_builtin _ (by decide +kernel),codeC_builtin F.entry_type_call ?_⟩
  rw [Around.under_plain (weight_type_call_type "int" _ []) (units_type_call_type "int" _ [])]
  unfold Builtin.«type.__call__»
  dsimp only
  rw [if_neg (by decide),if_neg (by rw [F.called_int.canCreate]; exact Bool.false_ne_true)]
  refine wpC_bind (wpC_of_eq (F.typeCall_int_1 _) (wpC_bind (wpC_of_eq F.mro_int ?_)))
  rw [if_neg (by decide)]
  refine wpC_bind (wpC_of_eq F.called_int.made ?_)
  dsimp only
  refine wpC_bind (wpC_pure (wpC_bind (wpC_holding (wpC_call (codeC_call_builtin F.called_int.plain F.entry_int_new (F.newCall_int_1 _) ?_)))))
  have f3:=PySem.W.KIN.str_int
  have f4:=PySem.W.KIN.str_idx
  have f5:=PySem.W.KIN.str_trunc
  have f6:typeOf (.str x t) = pure (.type "str"):=rfl
  unfold Builtin.«int.__new__»
  refine wpC_bind (wpC_of_eq (a:=true) rfl ?_)
  refine wpC_ite_false (by decide) ?_
  refine wpC_bind (wpC_of_eq F.conv_sub_int ?_)
  refine wpC_ite_false (by decide) ?_
  refine wpC_bind (wpC_of_eq F.madeHere_int ?_)
  refine wpC_ite_false (by simp) ?_
  refine wpC_ite_false (by show ¬ (1 + 0 > 2); decide) ?_
  refine wpC_bind (wpC_of_eq (a:=PUnit.unit) rfl ?_)
  refine wpC_bind (m:=(int_private% "intFromObject") (.str x t)) ?_
  have sp:∀ {n:Str} {Q:Option Value → Shared → Prop} {E:Value → Shared → Prop},typeLookup (.type "str") n = pure none → Q none s → wpAny (model prog w) A.in1.in1 (callSpecial? (.str x t) n) Q E s:=fun f q=>by
    obtain ⟨hp,g,d,tk,os⟩:=s
    repeat (any_goals (first | assumption | wp_step))
  have so:∀ {n:Str} {Q:Option Value → Shared → Prop} {E:Value → Shared → Prop},typeLookup (.type "str") n = pure none → Q none s → wpAny (model prog w) A.in1.in1 (specialOf (.str x t) n) Q E s:=fun f q=>by
    obtain ⟨hp,g,d,tk,os⟩:=s
    repeat (any_goals (first | assumption | wp_step))
  refine wpC_bind (m:=callSpecial? (.str x t) "__int__") (PySem.wpAny.cc (sp f3 ?_))
  refine wpC_bind (m:=specialOf (.str x t) "__index__") (PySem.wpAny.cc (so f4 ?_))
  refine wpC_ite_false (by decide) ?_
  refine wpC_bind (m:=specialOf (.str x t) "__trunc__") (PySem.wpAny.cc (so f5 ?_))
  refine wpC_bind (m:=(int_private% "numeralText?") (.str x t)) (wpC_of_eq (a:=some (numTextOf x)) rfl ?_)
  exact wpC_refuse (A:=A.in1.in1) hh hs hr hz h
end
end L2
namespace L2
open PySem PySem.Spec PyProof.Rows
section
variable {prog:Program} {w:World} {M:Model} {A:Around} {E:Value → Shared → Prop} {env:Env}
variable {nm q:Str} {C N:Addr} {bs bm bmB:List Value} {hdct:Bool} {sn:List Str} {sub:List Value} {ab:Bool} {col:Option Bool} {dd:Option Addr} {k0 k1 k2 k3 k5:Option Value} {B newId initId:String}
theorem raise_none {s:Shared} {e e0 t:Addr} {o0:Obj} {vs0:Array Value} {j:Nat} {p pos:Pos} {Q:Flow → Shared → Prop} (hbase:bm.contains (.type "BaseException") = true) (hh:A.handled = some (.ref e0)) (hne:e ≠ e0)
    (hC:s.heap.get? C = some (excClassObj nm q C N bs bm hdct sn sub ab col dd k0 k1 k2 k3 k5 newId)) (he:s.heap.get? e = some { cls:=.ref C,data:=.fields #[.ref t,.none,.none,.none,.bool false,.none] })
    (h0:s.heap.get? e0 = some o0) (hd0:o0.data = .fields vs0) (h2:vs0[2]? = some .none)
    (h:∀ h',(∀ b,b ≠ e → h'.get? b = s.heap.get? b) → h'.get? e = some { cls:=.ref C,data:=.fields #[.ref t,.none,.ref e0,.none,.bool true,.none] } → E (.ref e) { s with heap:=h' }) :
    wpAny (model prog w) A (raiseStmt env (some (pure (.ref e))) (some (do let v ← eval (.Constant .none j p) env; standAt pos; pure v))) Q E s:=by
  have hcB:(Value.ref C :: bm).contains (.type "BaseException") = true:=by rw [List.contains_cons,hbase,Bool.or_true]
  unfold raiseStmt
  obtain ⟨hp,g,d,tk,os⟩:=s
  repeat (first | with_reducible refine wpAny_loadPart_at he ?_ | with_reducible refine wpAny_loadPart_at hC ?_ | (with_reducible refine wpAny_isSubtype_exc hC ?_; rw [hcB]) | wp_step)
  have hCe:e ≠ C:=fun z=>by
    rw [z] at he
    have:=he.symm.trans hC
    injection this with this
    injection this with _ _ this
    cases this
  have hC2:((hp.update e (Obj.mapFields fun x=>x.setIfInBounds 3 Value.none)).update e (Obj.mapFields fun x=>x.setIfInBounds 4 (Value.bool true))).get? C = some (excClassObj nm q C N bs bm hdct sn sub ab col dd k0 k1 k2 k3 k5 newId):=by
    rw [Heap.get?_update_other _ _ hCe,Heap.get?_update_other _ _ hCe]; exact hC
  refine wpAny_loadPart_at hC2 ?_
  repeat (first | with_reducible refine wpAny_loadPart_at hC2 ?_ | wp_step)
  have h02:((hp.update e (Obj.mapFields fun x=>x.setIfInBounds 3 Value.none)).update e (Obj.mapFields fun x=>x.setIfInBounds 4 (Value.bool true))).get? e0 = some o0:=by
    rw [Heap.get?_update_other _ _ hne,Heap.get?_update_other _ _ hne]; exact h0
  unfold raiseNew
  refine wpAny_bind (wpAny_handled ?_)
  rw [hh]
  dsimp only
  rw [if_pos (show (Value.ref e0 != Value.ref e) = true by simp [Ne.symm hne])]
  refine wpAny_bind (wpAny_holding (wpAny_runValue (codeAny_builtin (b:=Builtin.«proto.unchain») (entryFor_of_tree (by kernel_rfl)) ?_)))
  unfold Builtin.«proto.unchain»
  dsimp only
  refine wpAny_bind (wpAny_field h02 hd0 h2 ?_)
  refine wpAny_ite_true (by decide) ?_
  refine wpAny_pure ?_
  have e1:=Heap.get?_update_self (Obj.mapFields fun x=>x.setIfInBounds 3 Value.none) he rfl
  have e2:=Heap.get?_update_self (Obj.mapFields fun x=>x.setIfInBounds 4 (Value.bool true)) e1 rfl
  unfold updateField
  refine wpAny_bind (wpAny_bind (wpAny_load e2 ?_))
  refine wpAny_ite_true (by simp) (wpAny_update e2 (wpAny_throw (h _ (fun b hb=>?_) ?_)))
  · rw [Heap.get?_update_other _ _ (Ne.symm hb),Heap.get?_update_other _ _ (Ne.symm hb),Heap.get?_update_other _ _ (Ne.symm hb)]
  · exact Heap.get?_update_self (Obj.mapFields fun x=>x.setIfInBounds 2 (Value.ref e0)) e2 rfl
end
structure Kp (fs:List Addr) (h0 h:Heap):Prop where
  kp:∀ b o,h0.get? b = some o → b ∉ fs → h.get? b = some o
  sl:∀ b o,h0.get? b = some o → ∃ sl,h.get? b = some { o with slots:=sl }
theorem Kp.of_keeps {fs:List Addr} {h0 h h':Heap} (k:Kp fs h0 h) (z:∀ b o,h.get? b = some o → h'.get? b = some o):Kp fs h0 h' :=
  ⟨fun b o e n=>z b o (k.kp b o e n),fun b o e=>let ⟨sl,q⟩:=k.sl b o e; ⟨sl,z b _ q⟩⟩
theorem Kp.refl (fs:List Addr) (h:Heap):Kp fs h h:=⟨fun _ _ e _=>e,fun _ o e=>⟨o.slots,e⟩⟩
theorem Kp.frames {fs:List Addr} {h0 h base:Heap} {l:List Env} (k:Kp fs h0 h) (f:h0.FunFrames base l):h.FunFrames base l:=f.of_keeps fun b o e _=>let ⟨_,q⟩:=k.sl b o e; ⟨_,q,rfl⟩
structure Tr (fs:List Addr) (h0 h:Heap) (e:Addr) (cls a0 c2 fl:Value):Prop extends Kp fs h0 h where
  nw:h0.get? e = none
  ex:∃ oe vs T oT ts,h.get? e = some oe ∧ oe.cls = cls ∧ oe.data = .fields vs ∧ vs[0]? = some a0 ∧ vs[1]? = some (.ref T) ∧ vs[2]? = some c2 ∧ h0.get? T = none ∧ T ≠ e ∧ h.get? T = some oT ∧ oT.data = .fields ts ∧ ts[3]? = some fl
structure Tn (fs:List Addr) (h0 h:Heap) (e:Addr) (cls a0 c2:Value):Prop extends Kp fs h0 h where
  nw:h0.get? e = none
  ex:∃ oe vs,h.get? e = some oe ∧ oe.cls = cls ∧ oe.data = .fields vs ∧ vs[0]? = some a0 ∧ vs[1]? = some .none ∧ vs[2]? = some c2
section
variable {M:Model} {A:Around} {E:Value → Shared → Prop} {s:Shared} {fs:List Addr} {h0 base:Heap} {e L:Addr} {cls a0 c2 fl:Value} {env:Env} {outer:List Env} {Q:Unit → Shared → Prop}
theorem tr_flight {fr:Option Addr} (t:Tr fs h0 s.heap e cls a0 c2 fl) (h:∀ h',Tr fs h0 h' e cls a0 c2 (fr.elim .none fun f=>rawInt f) → Q () { s with heap:=h' }):wpAny M A (setFlight (.ref e) fr) Q E s:=by
  obtain ⟨k,nw,oe,vs,T,oT,ts,he,hc,hd,v0,v1,v2,nT,hTe,hT,hdT,t3⟩:=t
  have h3:3 < ts.size:=(Array.getElem?_eq_some_iff.mp t3).1
  unfold setFlight
  refine wpAny_bind (wpAny_field he hd v1 ?_)
  rw [if_pos (show (Value.ref T != Value.none) = true by simp)]
  refine wpAny_setField hT hdT h3 (h _ ?_)
  have ot:∀ b,b ≠ T → (s.heap.update T (Obj.mapFields (·.setIfInBounds 3 (fr.elim Value.none fun f=>rawInt f)))).get? b = s.heap.get? b:=fun b hb=>Heap.get?_update_other _ _ (Ne.symm hb)
  have old:∀ b o,h0.get? b = some o → b ≠ T:=fun b o z y=>by rw [y,nT] at z; cases z
  refine ⟨⟨fun b o z n=>(ot b (old b o z)).trans (k.kp b o z n),fun b o z=>?_⟩,nw,oe,vs,T,_,_,(ot e (Ne.symm hTe)).trans he,hc,hd,v0,v1,v2,nT,hTe,Heap.get?_update_self _ hT (Obj.isFreed_of_fields (Obj.data_mapFields hdT _)),Obj.data_mapFields hdT _,by simp [h3]⟩
  obtain ⟨sl,q⟩:=k.sl b o z
  exact ⟨sl,(ot b (old b o z)).trans q⟩
theorem tr_again (hf:env.frame = some L) (t:Tr fs h0 s.heap e cls a0 c2 (rawInt L)) (h:Q () s):wpAny M A (noteFrame (.ref e) env) Q E s:=by
  obtain ⟨k,nw,oe,vs,T,oT,ts,he,hc,hd,v0,v1,v2,nT,hTe,hT,hdT,t3⟩:=t
  unfold noteFrame
  simp only [hf]
  refine wpAny_bind (wpAny_field he hd v1 ?_)
  rw [if_pos (show (Value.ref T != Value.none) = true by simp)]
  refine wpAny_bind (wpAny_field hT hdT t3 ?_)
  rw [if_pos (show (rawInt L == rawInt L) = true by simp)]
  exact wpAny_pure h
theorem tn_note (hfr:A.frames = some (env :: outer)) (hl:h0.FunFrames base (env :: outer)) (hf:env.frame = some L) (hs:(env :: outer).filterMap (·.frame) = fs) (t:Tn fs h0 s.heap e cls a0 c2)
    (h:∀ h',Tr fs h0 h' e cls a0 c2 (rawInt L) → Q () { s with heap:=h' }):wpAny M A (noteFrame (.ref e) env) Q E s:=by
  obtain ⟨k,nw,oe,vs,he,hc,hd,v0,v1,v2⟩:=t
  have hl':s.heap.FunFrames base (env :: outer):=k.frames hl
  have hne:e ∉ fs:=fun z=>by
    obtain ⟨_,o,ho,hn⟩:=hl'.mem (hs ▸ z)
    rw [he] at ho; cases ho
    exact hn vs hd
  have hv:1 < vs.size:=(Array.getElem?_eq_some_iff.mp v1).1
  unfold noteFrame
  simp only [hf]
  refine wpAny_bind (wpAny_field he hd v1 ?_)
  rw [if_neg (by decide)]
  refine wpAny_bind (wpAny_frameOf_fun hfr hl' hf fun h1 so=>wpAny_bind (wpAny_entryPlaceOf fun pl hpl=>?_))
  rw [hs] at so
  have he1:h1.get? e = some oe:=(so.2.1 e hne).trans he
  unfold EntryCells.newEntry newFields
  refine wpAny_bind (wpAny_newObj_type ?_ (hpl.sizeOk5 _ _ _ _ _))
  have hTe:h1.objs.size ≠ e:=Nat.ne_of_gt (Heap.lt_size he1)
  refine wpAny_setField (Heap.get?_push_of_some _ he1) hd hv (h _ ?_)
  have ol:∀ (ob:Obj) b o,h1.get? b = some o → b ≠ e → ((h1.push ob).update e (Obj.mapFields (·.setIfInBounds 1 (Value.ref h1.objs.size)))).get? b = some o:=fun ob b o z n=>(Heap.get?_update_other _ _ (Ne.symm n)).trans (Heap.get?_push_of_some _ z)
  have on:∀ b o,h0.get? b = some o → b ≠ e:=fun b o z y=>by rw [y,nw] at z; cases z
  have nT:h0.get? h1.objs.size = none:=by
    cases z:h0.get? h1.objs.size with
    | none=>rfl
    | some o =>
      obtain ⟨sl,q⟩:=k.sl _ o z
      obtain ⟨sl',q'⟩:=so.2.2 _ _ q
      exact absurd (Heap.lt_size q') (Nat.lt_irrefl _)
  refine ⟨⟨fun b o z n=>ol _ b o ((so.2.1 b n).trans (k.kp b o z n)) (on b o z),fun b o z=>?_⟩,nw,_,_,h1.objs.size,_,_,Heap.get?_update_self _ (Heap.get?_push_of_some _ he1) (Obj.isFreed_of_fields (Obj.data_mapFields hd _)),(Obj.cls_mapFields _ _).trans hc,Obj.data_mapFields hd _,by rw [Array.getElem?_setIfInBounds_ne (by decide)]; exact v0,by simp [hv],by rw [Array.getElem?_setIfInBounds_ne (by decide)]; exact v2,nT,hTe,
    (Heap.get?_update_other _ _ (Ne.symm hTe)).trans (Heap.get?_push_size h1 rfl),rfl,by first | (simp; done) | (rcases hpl with rfl | ⟨_,_,_,_,_,_,_,rfl⟩ <;> simp)⟩
  obtain ⟨sl,q⟩:=k.sl b o z
  obtain ⟨sl',q'⟩:=so.2.2 _ _ q
  exact ⟨sl',ol _ b _ q' (on b o z)⟩
end
section
variable {X:Cx} {pins:List (Addr × Obj)} {σ:St} {H:Hp} {s:Shared} {h:Heap} {E:XK} {e:Addr} {cls a0 c2:Value}
theorem trk_of (I:Inv X pins σ H s):∀ b u,H b = some u → b ∉ frs X.stack:=fun b u eb z=>by
  have:=I.stkFree b z
  rw [this] at eb; cases eb
theorem kp_hok (I:Inv X pins σ H s) (k:Kp (frs X.stack) s.heap h):HOk X.prog X.w H h:=fun b u e=>(I.hok b u e).stay (fun c v hc q=>by
    rcases hc with rfl | hc
    · exact k.kp c v q (trk_of I c u e)
    · exact k.kp c v q (trk_of I c _ hc)) (fun _ q=>q) fun _ _ q=>q
theorem Inv.kpt (I:Inv X pins σ H s) (k:Kp (frs X.stack) s.heap h) (tk:Nat):Inv X pins σ H { s with heap:=h,toks:=tk } :=
  I.call' (s':={ s with heap:=h,toks:=tk }) (ch:=[]) rfl ⟨fun b o e n nf _=>k.kp b o e nf,fun b o e n nf _=>k.sl b o e,fun b o e n _=>n,fun b o e _=>let ⟨sl,q⟩:=k.sl b o e; ⟨_,q⟩,fun _ _ e=>e,fun _ _ _ e=>e,fun b ps e=>⟨#[],by rw [e]; simp⟩⟩ (kp_hok I k) I.bare (fun b z=>nomatch z)
theorem xc_of (I:Inv X pins σ H s) (xst:X.stack = X.env :: X.outer) (xex:X.ex = []) (t:Tr (frs X.stack) s.heap h e cls a0 c2 .none) (hE:E cls none H) (tk:Nat):XC X.prog X.w X.outer X.H₀ X.s₀ E (.ref e) { s with heap:=h,toks:=tk }:=by
  obtain ⟨k,nw,oe,vs,T,oT,ts,he,hc,hd,v0,v1,v2,nT,hTe,hT,hdT,t3⟩:=t
  have fsub:∀ b ∈ frs X.stack,b = X.env.locals ∨ b ∈ X.fs:=fun b hb=>List.mem_cons.mp (I.stkSub b hb)
  have hfs:∀ b ∈ X.fs,b ∈ frs X.stack:=fun b hb=>by
    rw [xst]
    obtain ⟨e,he,hfe⟩:=List.mem_filterMap.mp hb
    exact List.mem_filterMap.mpr ⟨e,List.mem_cons_of_mem _ he,hfe⟩
  have bs:Un X.fs [] X.H₀ H X.s₀.heap s.heap:=by have:=I.base; rw [xex] at this; exact this
  have oldnf:∀ b o,X.s₀.heap.get? b = some o → b ∉ X.fs → b ∉ frs X.stack:=fun b o eb nb z=>by
    rcases fsub b z with z | z
    · exact absurd (Nat.lt_of_lt_of_le (Heap.lt_size eb) I.ok.above) (by rw [z]; exact Nat.lt_irrefl _)
    · exact nb z
  have ofB:∀ b o,(PySem.W.hideAll s.heap (frs X.stack)).get? b = some o → s.heap.get? b = some o ∧ b ∉ frs X.stack:=fun b o z=>⟨PySem.W.of_hideAll _ z,fun y=>by rw [PySem.W.hideAll_none _ y] at z; cases z⟩
  have noB:∀ b,s.heap.get? b = none → (PySem.W.hideAll s.heap (frs X.stack)).get? b = none:=fun b z=>by
    cases q:(PySem.W.hideAll s.heap (frs X.stack)).get? b with
    | none=>rfl
    | some o=>rw [(ofB b o q).1] at z; cases z
  have fr:h.FunFrames (PySem.W.hideAll s.heap (frs X.stack)) X.stack:=k.frames (frames_hide I.stack fun b hb=>hb)
  rw [xst] at fr
  refine ⟨e,cls,a0,H,PySem.W.hideAll s.heap (frs X.stack),rfl,I.os,I.bare,⟨fun b o eb n nf _=>?_,fun b o eb n nf _=>?_,bs.free,fun b o eb _=>?_,bs.tups,bs.frzs,bs.tbls⟩,kp_hok I k,⟨fun b o z=>k.kp b o (ofB b o z).1 (ofB b o z).2,noB e nw,xst ▸ fr.2.2,oe,vs,T,oT,ts,he,⟨hc,v0⟩,hd,v1,noB T nT,hTe,hT,hdT,t3⟩,fun b o eb nb cov=>?_,?_,hE⟩
  · exact k.kp b o (bs.keep b o eb n nf (by simp)) (oldnf b o eb nf)
  · obtain ⟨sl,e1⟩:=bs.slot b o eb n nf (by simp)
    obtain ⟨sl2,e2⟩:=k.sl b _ e1
    exact ⟨sl2,e2⟩
  · obtain ⟨o',e1⟩:=bs.there b o eb (by simp)
    obtain ⟨sl2,e2⟩:=k.sl b _ e1
    exact ⟨_,e2⟩
  · have nfr:b ∉ frs X.stack:=by
      rcases cov with ⟨o0,e0⟩ | ⟨u,eu⟩
      · exact oldnf b o0 e0 nb
      · exact trk_of I b u eu
    have there:∃ o2,s.heap.get? b = some o2:=by
      rcases cov with ⟨o0,e0⟩ | ⟨u,eu⟩
      · exact bs.there b o0 e0 (by simp)
      · exact (I.hok b u eu).has
    obtain ⟨o2,e2⟩:=there
    have:=k.kp b o2 e2 nfr
    rw [show h.get? b = some o from eb] at this; cases this
    exact PySem.W.hideAll_get _ e2 nfr
  · cases z:H e with
    | none=>rfl
    | some u =>
      obtain ⟨o2,e2⟩:=(I.hok e u z).has
      rw [e2] at nw; cases nw
end
end L2
namespace L2
open PySem PySem.Spec PyProof.Rows
theorem ld_var {X:Cx} {E:Value → Shared → Prop} {Q:Value → Shared → Prop} {pins:List (Addr × Obj)} {s:Shared} {σ:St} {H:Hp} {i:Nat} {x:Str} {v:V} {pos:Pos} (I:Inv X pins σ H s) (hN:X.N[i]? = some x) (hv:Vis X.env.scope x) (e:σ[i]? = some (some v)) (h:∀ u,RelV v u → Q u s)
    (hd:(x == ("__debug__" : Str)) = false:=by decide) (hcd:(x == ("__classdict__" : Str)) = false:=by decide):wpC (model X.prog X.w) X.A (eval (.Name x pos) X.env) Q E s:=by
  obtain ⟨m,hn,hl⟩:=I.loc
  obtain ⟨u,r,l⟩:=hl i x v hN e hv
  have fin:=h u r
  rcases l with ⟨hk,hm⟩ | ⟨hk,c,hc,hcell⟩
  · exact wpC_Name (wpC_loadName_local I.ok.kind hk hn hm fin) hd
  · rcases hk with hk | hk
    · exact wpC_Name (wpC_loadName_cell I.ok.kind hk hc hcell fin) hd
    · exact wpC_Name (wpC_loadName_free I.ok.kind hk hc hcell fin hcd) hd
theorem raise_split2 {env:Env} {x c:Sem Value}:raiseStmt env (some x) (some c) = x >>= fun v=>raiseStmt env (some (pure v)) (some c):=rfl
def tTryF (i:Nat) (C:Addr) (E:XK):TS:=fun _ σ H=>∃ v:Str,σ[i]? = some (some (.str v)) ∧ intText? v = none ∧ v.length ≤ 640 ∧ (reprText v).length ≤ sizeLine ∧ E (.ref C) none H
section
variable {P:Program} {w:World} {K:PySem.W.Frag} {mg:Str → Option Value} {base:Heap} {N:List Str} {qual:Str} {scope:Scope} {f C:Addr} {cd:Value} {A:Around} {outer:List Env} {s:Shared} {H:Hp} {E:XK}
  {i j j':Nat} {a wd nt msg:Str} {B newId initId:String} {bmB:List Value} {rest:List Stmt} {pa p1 p2 p3 p4 p5 p6 np np2 cpos rpos hpos pos:Pos}
theorem ps_tryF (q:PySem.W.excIn K C bmB newId = true) (FB:ExcBaseFacts B newId initId bmB) (hmN:mg nt = some (.ref C)) (hgN:Gl (cxOf (XC P w) P w K mg base N qual scope f cd A outer s H E) nt)
    (hgI:Gl (cxOf (XC P w) P w K mg base N qual scope f cd A outer s H E) "int") (hmI:mg "int" = none) (hgV:Gl (cxOf (XC P w) P w K mg base N qual scope f cd A outer s H E) "ValueError") (hmV:mg "ValueError" = none)
    (hex:PySem.W.exmOne K (.type "ValueError") (.type "ValueError") = some true) (hi:N[i]? = some wd) (hv:Vis (cxOf (XC P w) P w K mg base N qual scope f cd A outer s H E).env.scope wd) (hd1:(wd == ("__debug__" : Str)) = false:=by decide) (hd2:(wd == ("__classdict__" : Str)) = false:=by decide) (hd3:(nt == ("__debug__" : Str)) = false:=by decide)
    (hsw:swapsWith (.Call (.Name "int" p1) [.Name wd p2] [] p3) (some (.Name a pa)) p4.line (cxOf (XC P w) P w K mg base N qual scope f cd A outer s H E).env = pure false:=by rfl) :
    PS (cxOf (XC P w) P w K mg base N qual scope f cd A outer s H E) (.Try (.Assign [.Name a pa] (.Call (.Name "int" p1) [.Name wd p2] [] p3) p4 :: rest)
      [.ExceptHandler (some (.Name "ValueError" np)) none [.Raise (some (.Call (.Name nt np2) [.Constant (.str msg) j p5] [] cpos)) (some (.Constant .none j' p6)) rpos] hpos] [] [] pos) (tTryF i C E):=by
  intro pins s1 σ H1 D I h
  obtain ⟨v,e1,hn,hl,hz,hE⟩:=h
  generalize hX:cxOf (XC P w) P w K mg base N qual scope f cd A outer s H E = X at *
  have xK:X.K = K:=by rw [← hX]; rfl
  have xmg:X.mg = mg:=by rw [← hX]; rfl
  have xN:X.N = N:=by rw [← hX]; rfl
  have xst:X.stack = X.env :: X.outer:=by rw [← hX]; rfl
  have xfr:X.env.frame = some X.env.locals:=by rw [← hX]; rfl
  have xex:X.ex = []:=by rw [← hX]; rfl
  have xe:X.xe = fun e s'=>wpC (model X.prog X.w) X.A (leaving X.env e) (fun _ s''=>XC X.prog X.w X.outer X.H₀ X.s₀ E e s'') (fun e' s''=>XC X.prog X.w X.outer X.H₀ X.s₀ E e' s'') s':=by rw [← hX]; rfl
  have hhd:X.A.handled = none:=I.ok.hd (by rw [← hX]; rfl)
  have hfr:X.A.frames = some (X.env :: X.outer):=by rw [← xst]; exact I.ok.frames
  have hfs:(X.env :: X.outer).filterMap (·.frame) = frs X.stack:=by rw [xst]; rfl
  have hlF:s1.heap.FunFrames (PySem.W.hideAll s1.heap (frs X.stack)) (X.env :: X.outer):=by rw [← xst]; exact frames_hide I.stack fun b hb=>hb
  obtain ⟨tl,Nn,nm,qn,bs,hdct,sn,sub,ab,col,dd,k0,k1,k2,k3,k5,mN,hC,hN,hni,T⟩:=exc_obj (K:=K) (xK ▸ I.ok.mod.kin) q
  refine wpC_Try_except (wpC_execs_cons (wpC_Assign_Name ?_ hsw))
  refine wpC_Call_Name_kw (ld_blt I hgI (xmg ▸ hmI) (u:=.type "int") rfl ?_)
  refine callWith_type1 (spliced_consC (ld_var I (xN ▸ hi) hv e1 (fun u r=>(Calls.spliced_nil ?_)) hd1 hd2))
  obtain ⟨t,rfl⟩:=r
  refine call_refused hhd hn hl hz fun h' tk ea m made=>?_
  -- it lands
  obtain ⟨tt,m1,m2,m3⟩:=made.there
  have tn:Tn (frs X.stack) s1.heap h' ea (.type "ValueError") (.ref tt) .none:=⟨(Kp.refl _ _).of_keeps made.keeps,made.new,_,_,m1,rfl,rfl,rfl,rfl,rfl⟩
  refine PySem.wpAny.cc (tn_note (s:={ s1 with heap:=h',toks:=tk }) hfr hlF xfr hfs tn fun h2 t2=>?_)
  refine PySem.wpAny.cc (tr_flight (s:={ s1 with heap:=h2,toks:=tk }) (fr:=none) t2 fun h3 t3=>?_)
  have J3:=I.kpt t3.toKp tk
  obtain ⟨oe,vs,T1,oT,ts,e3,c3,d3,v0,v1,v2,r3⟩:=id t3.ex
  have LT:PySem.W.Looks (model X.prog X.w) h3 (typeOf (.ref ea)) (.type "ValueError"):=c3 ▸ (PySem.W.Looks.ld e3).andThen .now
  refine wpC_handleBy_cons (codeC_handlers_test (ld_blt (X:=sufCx X ea) J3.sufC hgV (xmg ▸ hmV) (u:=.type "ValueError") rfl ?_)) (by intro z; cases z)
  refine PySem.wpAny.cc ((PySem.W.exm_one (K:=X.K) J3.kIn LT (xK ▸ hex)).here ?_)
  refine codeC_handlers_suite (PySem.wpAny.cc (tr_flight (s:={ s1 with heap:=h3,toks:=tk }) (fr:=none) t3 fun h4 t4=>?_))
  have J4:=I.kpt t4.toKp tk
  obtain ⟨oe4,vs4,T4,oT4,ts4,e4,c4,d4,v04,v14,v24,r4⟩:=id t4.ex
  refine wpC_execs_cons ?_
  rw [arm_exec_Raise]
  refine wpC_at ?_
  simp only [evalOpt,Option.map]
  rw [raise_split2]
  have hC4:=J4.bk _ _ hC
  refine wpC_bind (wpC_then (P:=fun u s₃=>∃ h6 e2 tk2 ms,u = .ref e2 ∧ s₃ = { s1 with heap:=h6,toks:=tk2 } ∧ Heap.MadeExcOf h4 h6 e2 (.ref C) [ms]) ?_ fun u s₃ z=>wpC_at (wpC_pure ?_))
  · refine wpC_Call_Name_kw (ld_glob (X:=sufCx X ea) J4.sufC hgN (xmg ▸ hmN) ?_ hd3)
    unfold callWith
    refine wpC_then (P:=fun (a:Args) s'=>a = ⟨[.str msg tk],[]⟩ ∧ s' = { s1 with heap:=h4,toks:=tk + 1 }) (wpC_holding (evalArgs_plainC (spliced_consC (Calls.Constant_str (k:=j) (pos:=p5) (Calls.spliced_nil ⟨rfl,rfl⟩))))) fun a s₂ y=>wpC_at ?_
    obtain ⟨rfl,rfl⟩:=y
    refine wpC_first (wpAny_keeperOf_exc hC4 (wpC_first (wpAny_call_exc_subT (rest:=[.str msg tk]) FB (T.keeps J4.bk) hC4 (hN.keeps J4.bk) hni (fun h' e hm=>wpC_first (wpAny_holding (wpAny_point (wpC_pure ?_)))) (by rw [sizeLine_eq]; show (1:Nat) ≤ 16777216; decide))))
    exact ⟨h',e,tk + 1,_,rfl,rfl,hm⟩
  obtain ⟨h6,e2,tk2,ms,rfl,rfl,hm⟩:=z
  obtain ⟨t5,n1,n2,n3⟩:=hm.there
  have hne:e2 ≠ ea:=fun z=>by
    have:=hm.new
    rw [z,e4] at this; cases this
  refine PySem.wpAny.cc (raise_none (s:={ s1 with heap:=h6,toks:=tk2 }) (C:=C) (T.hasType FB.hasBase) rfl hne (hm.keeps _ _ hC4) n1 (hm.keeps _ _ e4) d4 v24 fun h7 ot e7=>?_)
  have keep47:∀ b o,h4.get? b = some o → h7.get? b = some o:=fun b o z=>(ot b fun y=>by have:=hm.new; rw [← y,z] at this; cases this).trans (hm.keeps b o z)
  have tn2:Tn (frs X.stack) s1.heap h7 e2 (.ref C) (.ref t5) (.ref ea):=⟨t4.toKp.of_keeps keep47,(by
    cases z:s1.heap.get? e2 with
    | none=>rfl
    | some o =>
      obtain ⟨sl,y⟩:=t4.sl e2 o z
      have:=hm.new
      rw [y] at this; cases this),_,_,e7,rfl,rfl,rfl,rfl,rfl⟩
  refine tn_note (A:=X.A.mark (some (.ref ea))) (s:={ s1 with heap:=h7,toks:=tk2 }) hfr hlF xfr hfs tn2 fun h8 t8=>?_
  obtain ⟨oe8,vs8,T8,oT8,ts8,e8,c8,d8,v08,v18,v28,r8⟩:=id t8.ex
  refine wpAny_bind (wpAny_field e8 d8 v18 (wpAny_ite_false (by simp) ?_))
  rw [xfr]
  refine tr_flight (s:={ s1 with heap:=h8,toks:=tk2 }) (fr:=some X.env.locals) t8 fun h9 t9=>?_
  rw [xe]
  refine PySem.wpAny.cc ?_
  unfold leaving
  refine wpAny_bind (tr_again (s:={ s1 with heap:=h9,toks:=tk2 }) xfr t9 (tr_flight (s:={ s1 with heap:=h9,toks:=tk2 }) (fr:=none) t9 fun h10 t10=>?_))
  exact xc_of I xst xex t10 hE tk2
end
end L2
namespace L2
open PySem PySem.Spec PyProof.Rows
theorem note_same {e:Value} {env env':Env} (h:env.frame = env'.frame):PySem.noteFrame e env = PySem.noteFrame e env':=by
  unfold PySem.noteFrame PySem.frameOf
  rw [h]
section
variable {M:Model} {A:Around} {E:Value → Shared → Prop} {s:Shared} {env:Env}
def compPostX (M:Model) (A:Around) (fr:Option Addr) (E:Value → Shared → Prop) (Q:Value → Shared → Prop) (acc:Value) (C:Addr) (r:Result) (s':Shared):Prop :=
  match r with
  | .ok _=>∃ m,s'.heap.Ns C m ∧ ∀ h',Heap.SameBut C s'.heap h' → Q acc { s' with heap:=h' }
  | .error x=>∃ m,s'.heap.Ns C m ∧ ∀ h',Heap.SameBut C s'.heap h' → ∀ cenv:Env,cenv.frame = fr → wpC M A (passOn "comprehension.variables-let-go" x cenv:Sem Value) (fun _ _=>False) E { s' with heap:=h' }
theorem wpC_comprehension_X {Q:Value → Shared → Prop} {pos:Pos} {e:Expr} {scope:Scope} {newAcc first:Sem Value} {g:Comprehension} {gs:List Comprehension} {cl:List (Str × Addr)} (hcl:clausesOf e = g :: gs) (hs:∀ x,foldedSetIterable g.iter env x = pure x) (hclos:closureFor scope env = pure cl)
    (hkind:scope.kind = .function) (hnames:∀ x ∈ scope.names,x.2 = .local → scope.names.lookup x.1 = some .local)
    (h:wpC M A first (fun x s₁=>wpC M A (pyIter x) (fun it s₂=>wpC M A newAcc (fun acc s₃=>wpC M A (newFunctionEnv scope env.globals cl [] env.qual none .none (some env)) (fun cenv s₄=>cenv.frame = env.frame ∧
        codeC M A (.compStart e 0 it acc { cenv with scope:=relabel scope env }) (compPostX M A env.frame E Q acc cenv.locals) s₄) E s₃) E s₂) E s₁) E s) :
    wpC M A (comprehension e scope env pos newAcc false first none) Q E s:=by
  unfold comprehension
  rw [hclos,hcl]
  refine wpC_then h fun x s₁ z=>wpC_at (wpC_bind (wpC_of_eq (hs x) (wpC_then (wpC_holding z) fun it s₂ y=>?_)))
  have stand:∀ {c:Prop} [Decidable c] {p:Pos} {k:PUnit → Sem Value},wpC M A (k ()) Q E s₂ → wpC M A (if c then (standAt p >>= k) else k ()) Q E s₂:=fun {c} _ {p} {k} q=>by
    split
    · exact wpC_at q
    · exact q
  refine stand (wpC_then y fun acc s₃ ya=>wpC_bind (wpC_pure (wpC_then ya fun cenv s₄ k=>?_)))
  dsimp only
  obtain ⟨kf,k⟩:=k
  have hv:∀ x ∈ (scope.names.filter fun x=>(x.2 == .local || x.2 == .cell) && x.1 != (".0" : Str)).reverse,x.2 = .local → Env.kindOf { cenv with scope:=relabel scope env } x.1 = some .local:=fun x hx hl =>
    lookup_relabel_local (hnames x (List.mem_filter.mp (List.mem_reverse.mp hx)).1 hl)
  refine wpC_holding (wpC_bind (wpC_attempt (wpC_holding (wpC_run (codeC_mono k fun r s' hr=>?_)))))
  cases r with
  | ok f =>
    obtain ⟨m,hn,hr⟩:=hr
    exact wpC_first (wpAny_holding (wpAny_comp_letGo (cenv:={ cenv with scope:=relabel scope env }) hkind _ s' m hv hn fun h' m' _ hs'=>wpC_pure (hr h' hs')))
  | error x =>
    obtain ⟨m,hn,hr⟩:=hr
    exact wpC_first (wpAny_holding (wpAny_comp_letGo (cenv:={ cenv with scope:=relabel scope env }) hkind _ s' m hv hn fun h' m' _ hs'=>wpC_mono (hr h' hs' _ kf) (fun _ _ f=>f.elim) fun _ _ y=>y))
theorem wpC_pass_heldW {α:Type} {what:String} {base:Heap} {l:List Env} {e L:Addr} {cls a0:Value} {Q:α → Shared → Prop} (hf:env.frame = some L) (hh:Heap.HeldW base l e cls a0 L s.heap)
    (hE:∀ h',Heap.HeldW base l e cls a0 L h' → s.heap.UpToSlots h' → E (.ref e) { s with heap:=h' }):wpC M A (passOn what (.ref e) env:Sem α) Q E s:=by
  refine PySem.wpAny.cc ?_
  obtain ⟨f1,f2,f3,f4⟩:=hh
  obtain ⟨oe,vs,T,oT,ts,he,hcls,hd,h1,hnT,hTe,hT,hdT,h3⟩:=f4
  have hsz3:3 < ts.size:=(Array.getElem?_eq_some_iff.mp h3).1
  unfold PySem.passOn
  refine wpAny_bind (wpAny_field he hd h1 ?_)
  rw [if_neg (show ¬ ((Value.ref T == Value.none) = true) from by simp)]
  rw [hf]
  refine wpAny_bind ?_
  unfold setFlight
  refine wpAny_bind (wpAny_field he hd h1 ?_)
  rw [if_pos (show (Value.ref T != Value.none) = true from by simp)]
  have other:∀ b,b ≠ T → (s.heap.update T (Obj.mapFields (·.setIfInBounds 3 ((some L:Option Addr).elim Value.none fun f=>rawInt f)))).get? b = s.heap.get? b :=
    fun b hb=>Heap.get?_update_other _ _ (Ne.symm hb)
  have noRecord:∀ b o,s.heap.get? b = some o → (∀ vs,o.data ≠ .fields vs) → b ≠ T:=fun b o hb hnf q=>by
    rw [q,hT] at hb; injection hb with hb; subst hb; exact hnf ts hdT
  refine wpAny_setField hT hdT hsz3 (wpAny_throw (hE _ ⟨fun b o hbo=>(other b fun q=>by rw [q,hnT] at hbo; cases hbo).trans (f1 b o hbo),f2,
    f3.of_keeps fun b o hb hnf=>⟨o,(other b (noRecord b o hb hnf)).trans hb,rfl⟩,?_⟩ fun b o hb hnf=>⟨o.slots,(other b (noRecord b o hb hnf)).trans hb⟩))
  exact ⟨oe,vs,T,_,_,(other e (Ne.symm hTe)).trans he,hcls,hd,h1,hnT,hTe,Heap.get?_update_self _ hT (Obj.isFreed_of_fields (Obj.data_mapFields hdT _)),Obj.data_mapFields hdT _,by simp [hsz3]⟩
end
section
variable {P:Program} {w:World} {K:PySem.W.Frag} {mg:Str → Option Value} {base:Heap} {N:List Str} {qual:Str} {scope:Scope} {f:Addr} {cd:Value} {A:Around} {outer:List Env} {s:Shared} {H:Hp} {E:XK}
theorem passG {X:Cx} (hX:X = cxOf (XC P w) P w K mg base N qual scope f cd A outer s H E) {pins:List (Addr × Obj)} {σ:St} {H1 H':Hp} {s1 s':Shared} {ea C L:Addr} {cls a0:Value} {B h3:Heap}
    (I:Inv X pins σ H1 s1) (hL:X.env.frame = some L) (hos:s'.os = s1.os) (hg:AllBare s'.gens) (un:Un (frs X.stack) [] H1 H' s1.heap s'.heap) (ok':HOk P w H' s'.heap)
    (held:Heap.HeldW (PySem.W.hideAll B [C]) X.stack ea cls a0 L h3) (cov:Cov B H' s1.heap s'.heap (frs X.stack)) (hea:H' ea = none) (hE:E cls none H')
    (up3:∀ b o,s'.heap.get? b = some o → b ≠ C → (∀ vs,o.data ≠ .fields vs) → ∃ sl,h3.get? b = some { o with slots:=sl }) (hC0:X.s₀.heap.objs.size ≤ C) (hHC:H' C = none) (hCf:C ∉ frs X.stack) :
    X.xe (.ref ea) { s' with heap:=h3 }:=by
  have xst:X.stack = X.env :: X.outer:=by rw [hX]; rfl
  have xex:X.ex = []:=by rw [hX]; rfl
  have xe:X.xe = fun e s'=>wpC (model X.prog X.w) X.A (leaving X.env e) (fun _ s''=>XC X.prog X.w X.outer X.H₀ X.s₀ E e s'') (fun e' s''=>XC X.prog X.w X.outer X.H₀ X.s₀ E e' s'') s':=by rw [hX]; rfl
  have xP:X.prog = P:=by rw [hX]; rfl
  have xw:X.w = w:=by rw [hX]; rfl
  clear hX
  rw [xe]
  have fsub:∀ b ∈ frs X.stack,b = X.env.locals ∨ b ∈ X.fs:=fun b hb=>List.mem_cons.mp (I.stkSub b hb)
  have hfs:∀ b ∈ X.fs,b ∈ frs X.stack:=fun b hb=>by
    rw [xst]
    obtain ⟨e,he,hfe⟩:=List.mem_filterMap.mp hb
    exact List.mem_filterMap.mpr ⟨e,List.mem_cons_of_mem _ he,hfe⟩
  have bs:Un X.fs [] X.H₀ H1 X.s₀.heap s1.heap:=by have:=I.base; rw [xex] at this; exact this
  have oldnf:∀ b o,X.s₀.heap.get? b = some o → b ∉ X.fs → b ∉ frs X.stack:=fun b o eb nb z=>by
    rcases fsub b z with z | z
    · exact absurd (Nat.lt_of_lt_of_le (Heap.lt_size eb) I.ok.above) (by rw [z]; exact Nat.lt_irrefl _)
    · exact nb z
  have oldC:∀ b o,X.s₀.heap.get? b = some o → b ≠ C:=fun b o eb=>Nat.ne_of_lt (Nat.lt_of_lt_of_le (Heap.lt_size eb) hC0)
  have trkC:∀ b u,H' b = some u → b ≠ C:=fun b u eb z=>by rw [z,hHC] at eb; cases eb
  have trk:∀ b u,H' b = some u → b ∉ frs X.stack:=fun b u eb z=>by
    obtain ⟨_,o,ho,_⟩:=I.stack.mem z
    have:=un.free b o ho (I.stkFree b z) (by simp)
    rw [this] at eb; cases eb
  refine PySem.wpAny.cc ?_
  unfold PySem.leaving
  refine wpAny_bind (wpAny_noteFrame_againW hL held.2.2.2 ?_)
  refine wpAny_landsW held fun h'' fl0 ups0=>?_
  have fl2:Heap.FlyingW (PySem.W.hideAll B [C]) X.outer ea cls a0 h'':=by
    obtain ⟨k1,k2,k3,k4⟩:=fl0
    rw [xst] at k3
    exact ⟨k1,k2,k3.2.2,k4⟩
  have ups:∀ b o,s'.heap.get? b = some o → b ≠ C → (∀ vs,o.data ≠ .fields vs) → ∃ sl,h''.get? b = some { o with slots:=sl }:=fun b o eb nb nf=>by
    obtain ⟨sl,e3⟩:=up3 b o eb nb nf
    obtain ⟨sl2,e4⟩:=ups0 b _ e3 nf
    exact ⟨sl2,e4⟩
  have kept:∀ b o,s'.heap.get? b = some o → b ∉ frs X.stack → b ≠ C → ((∃ o₀,s1.heap.get? b = some o₀) ∨ ∃ u,H' b = some u) → h''.get? b = some o:=fun b o eb nb nC c=>fl2.1 b o (PySem.W.hideAll_get _ (cov b o eb nb c) (by simpa using nC))
  have slotK:∀ b,b ∈ frs X.stack → ∀ o1,s1.heap.get? b = some o1 → ∃ sl,h''.get? b = some { cls:=o1.cls,dict:=o1.dict,data:=o1.data,slots:=sl }:=fun b hb o1 e1=>by
    obtain ⟨sl,e2⟩:=un.slot b o1 e1 (I.stkFree b hb) hb (by simp)
    obtain ⟨_,o',ho',hd'⟩:=I.stack.mem hb
    rw [e1] at ho'; cases ho'
    obtain ⟨sl2,e3⟩:=ups b { cls:=o1.cls,dict:=o1.dict,data:=o1.data,slots:=sl } e2 (fun z=>hCf (z ▸ hb)) hd'
    exact ⟨sl2,e3⟩
  refine ⟨ea,cls,a0,H',PySem.W.hideAll B [C],rfl,hos.trans I.os,hg,⟨fun b o eb n nf _=>?_,fun b o eb n nf _=>?_,fun b o eb n _=>?_,fun b o eb _=>?_,fun b xs q=>un.tups b xs (bs.tups b xs q),fun b o u q=>un.frzs b o u (bs.frzs b o u q),fun b ps q=>?_⟩,fun b u eb=>?_,fl2,fun b o eb nb c=>?_,hea,hE⟩
  · have e1:=bs.keep b o eb n nf (by simp)
    have nb:=oldnf b o eb nf
    exact kept b o (un.keep b o e1 (bs.free b o eb n (by simp)) nb (by simp)) nb (oldC b o eb) (.inl ⟨o,e1⟩)
  · obtain ⟨sl,e1⟩:=bs.slot b o eb n nf (by simp)
    obtain ⟨sl2,e2⟩:=slotK b (hfs b nf) _ e1
    exact ⟨sl2,e2⟩
  · obtain ⟨o1,e1⟩:=bs.there b o eb (by simp)
    exact un.free b o1 e1 (bs.free b o eb n (by simp)) (by simp)
  · obtain ⟨o1,e1⟩:=bs.there b o eb (by simp)
    by_cases nb:b ∈ frs X.stack
    · obtain ⟨sl,e2⟩:=slotK b nb o1 e1
      exact ⟨_,e2⟩
    · obtain ⟨o2,e2⟩:=un.there b o1 e1 (by simp)
      exact ⟨o2,kept b o2 e2 nb (oldC b o eb) (.inl ⟨o1,e1⟩)⟩
  · obtain ⟨m1,e1⟩:=bs.tbls b ps q
    obtain ⟨m2,e2⟩:=un.tbls b _ e1
    exact ⟨m1 ++ m2,by rw [e2,Array.append_assoc]⟩
  · rw [xP,xw]
    refine (ok' b u eb).stay (fun c v hc e1=>?_) (fun _ z=>z) fun _ _ z=>z
    rcases hc with rfl | hc
    · exact kept c v e1 (trk c u eb) (trkC c u eb) (.inr ⟨u,eb⟩)
    · exact kept c v e1 (trk c _ hc) (trkC c _ hc) (.inr ⟨_,hc⟩)
  · rcases c with ⟨o0,e0⟩ | ⟨u,eu⟩
    · have nb2:=oldnf b o0 e0 nb
      obtain ⟨o1,e1⟩:=bs.there b o0 e0 (by simp)
      obtain ⟨o2,e2⟩:=un.there b o1 e1 (by simp)
      have:=kept b o2 e2 nb2 (oldC b o0 e0) (.inl ⟨o1,e1⟩)
      rw [eb] at this; cases this
      exact PySem.W.hideAll_get _ (cov b o e2 nb2 (.inl ⟨o1,e1⟩)) (by simpa using oldC b o0 e0)
    · have nb2:=trk b u eu
      obtain ⟨o2,e2⟩:=(ok' b u eu).has
      have:=kept b o2 e2 nb2 (trkC b u eu) (.inr ⟨u,eu⟩)
      rw [eb] at this; cases this
      exact PySem.W.hideAll_get _ (cov b o e2 nb2 (.inr ⟨u,eu⟩)) (by simpa using trkC b u eu)
theorem frames_hideC {h h' B:Heap} {C:Addr} (k:∀ b,b ≠ C → h'.get? b = h.get? b):∀ {l:List Env},h.FunFrames B l → (∀ b ∈ frs l,b ≠ C) → h'.FunFrames (PySem.W.hideAll B [C]) l
  | [],_,_=>trivial
  | e :: l,⟨hk,⟨L,o,hf,hn,ho,hd⟩,hr⟩,hs=>by
    have hm:L ∈ frs (e :: l):=List.mem_filterMap.mpr ⟨e,List.mem_cons_self,hf⟩
    refine ⟨hk,⟨L,o,hf,?_,(k L (hs L hm)).trans ho,hd⟩,frames_hideC k hr fun b hb=>hs b ?_⟩
    · cases q:(PySem.W.hideAll B [C]).get? L with
      | none=>rfl
      | some o=>rw [PySem.W.of_hideAll _ q] at hn; cases hn
    · obtain ⟨x,hx,hfx⟩:=List.mem_filterMap.mp hb
      exact List.mem_filterMap.mpr ⟨x,List.mem_cons_of_mem _ hx,hfx⟩
theorem pe_compX {X:Cx} (hX:X = cxOf (XC P w) P w K mg base N qual scope f cd A outer s H E) {L N':List Str} {scp sc:Scope} {tg elt iter:Expr} {ifs:List Expr} {pos:Pos} {wi:TI} {g:TG} {tt:TT} {te:TE}
    (hc:X.calm = true) (hsc:X.env.scope = sc) (hN:X.N = N') (ok:compOk sc N' L scp = true)
    (hi:PI X tg iter wi) (hg:∀ cl C s₂ H₂ fp,PG (compCx X L scp cl C s₂ H₂ fp) tg g) (hf:∀ cl C s₂ H₂ fp,Ifs (compCx X L scp cl C s₂ H₂ fp) ifs tt)
    (he:∀ cl C s₂ H₂ fp xe,Passes (XC P w) ((compCx X L scp cl C s₂ H₂ fp).wish xe) E → PE ((compCx X L scp cl C s₂ H₂ fp).wish xe) elt te)
    (hs:∀ x,foldedSetIterable iter X.env x = pure x:=by intro _; rfl) :
    PE X (.ListComp elt [⟨tg,iter,ifs,0⟩] scp pos) (tComp L.length wi g tt te):=by
  intro pins s0 σ H0 Q I h
  obtain ⟨cl,hcl,hc1,hc2⟩:=closure_of (env:=X.env) (scope:=scp) fun y hy hfr=>by
    refine I.ok.has y.1 ?_
    have z:=(compOk_at ok hy).2.2 hfr
    rw [← hsc] at z
    exact z
  have xst:X.stack = X.env :: X.outer:=by rw [hX]; rfl
  have xP:X.prog = P:=by rw [hX]; rfl
  have xw:X.w = w:=by rw [hX]; rfl
  have xfr:X.env.frame = some X.env.locals:=by rw [hX]; rfl
  rw [eval_ListComp]
  refine wpC_comprehension_X rfl hs hcl (compOk_kind ok) (fun y hy hl=>((compOk_at ok hy).2.1 hl).1) (thn (hi pins s0 σ H0 _ I h) fun v s1 h1=>thn h1 fun itv s2 h2=>?_)
  obtain ⟨it,fp,tn,J,H2,e,I2,T,st2,f2,hw⟩:=h2
  subst e
  have old2:∀ b ∈ frs X.stack,b < s2.heap.objs.size:=fun b hb=>by
    obtain ⟨_,o,ho,_⟩:=I2.stack.mem hb
    exact Heap.lt_size ho
  refine comp_blockF (RR:=fun acc C=>compPostX (model X.prog X.w) X.A X.env.frame X.xe (EP X pins σ Q) acc C) hc hsc hN ok hc1 hc2 hg hf (fun C hC=>he cl C _ _ _ _ ?_) I2 T st2 f2 hw ?_
  · intro pins' σ' H1 s1 e s' J0 hx
    have J1:=J0.unwish
    have hx:XC P w X.stack H1 s1 E e s':=hx
    obtain ⟨ea,cls,a0,H',B,rfl,hos,hg,un,ok',fl,cov,hea,hE⟩:=hx
    have I1:Inv X pins σ H1 s1:=I2.call' (ch:=fp) J1.os J1.base J1.hok J1.bare (fun b hb=>⟨(f2 b hb).2.2.2.1,(f2 b hb).2.1,(f2 b hb).2.2.2.2.1,(f2 b hb).2.2.2.2.2⟩)
    have neC:∀ b ∈ frs X.stack,b ≠ C:=fun b hb=>by rw [hC]; exact Nat.ne_of_lt (Nat.lt_succ_of_lt (old2 b hb))
    have hCf:C ∉ frs X.stack:=fun z=>neC C z rfl
    obtain ⟨m,⟨oC,es,ep,hoC,hdC,rC⟩,_⟩:=J1.loc
    have hoC:s1.heap.get? C = some oC:=hoC
    have H1C:H1 C = none:=J1.free
    have sC:=un.keep C oC hoC H1C hCf (by simp)
    have HC:=un.free C oC hoC H1C (by simp)
    show wpAny _ _ (PySem.noteFrame (.ref ea) (compEnvC scp cl C X.env)) _ _ s'
    rw [show PySem.noteFrame (.ref ea) (compEnvC scp cl C X.env) = PySem.noteFrame (.ref ea) X.env from note_same rfl]
    refine wpAny_looks_onW (by rw [← xst]; exact I1.ok.frames) xfr (by rw [← xst]; exact fl) fun h1 held1 ups1=>?_
    have n1:h1.Ns C m:=ups1.ns ⟨oC,es,ep,sC,hdC,rC⟩
    refine ⟨m,n1,fun h2 sb cenv hfr=>?_⟩
    obtain ⟨oC1,_,_,hoC1,hdC1,_⟩:=n1
    have noC:∀ b o vs,h1.get? b = some o → o.data = .fields vs → b ≠ C:=fun b o vs eb ed z=>by
      rw [z,hoC1] at eb; cases eb
      rw [hdC1] at ed; cases ed
    have hidN:∀ b,B.get? b = none → (PySem.W.hideAll B [C]).get? b = none:=fun b hn=>by
      cases q:(PySem.W.hideAll B [C]).get? b with
      | none=>rfl
      | some o=>rw [PySem.W.of_hideAll _ q] at hn; cases hn
    have held2:Heap.HeldW (PySem.W.hideAll B [C]) X.stack ea cls a0 X.env.locals h2:=by
      rw [← xst] at held1
      obtain ⟨k1,k2,k3,oe,vs,T,oT,ts,q1,q2,q3,q4,q5,q6,q7,q8,q9⟩:=held1
      refine ⟨fun b o z=>?_,hidN _ k2,frames_hideC sb.2 k3 neC,oe,vs,T,oT,ts,(sb.2 _ (noC _ _ _ q1 q3)).trans q1,q2,q3,q4,hidN _ q5,q6,(sb.2 _ (noC _ _ _ q7 q8)).trans q7,q8,q9⟩
      have nb:b ≠ C:=fun y=>by rw [y,PySem.W.hideAll_none _ (by simp)] at z; cases z
      exact (sb.2 b nb).trans (k1 b o (PySem.W.of_hideAll _ z))
    refine wpC_pass_heldW (hfr.trans xfr) held2 fun h3 held3 ups3=>?_
    refine passG hX (B:=B) (C:=C) (s':=s') I1 xfr hos hg un ok' held3 cov hea hE (fun b o eb nb nf=>?_) (Nat.le_trans I2.sz (by rw [hC]; exact Nat.le_succ _)) HC hCf
    obtain ⟨sl1,e1⟩:=ups1 b o eb nf
    obtain ⟨sl3,e3⟩:=ups3 b _ ((sb.2 b nb).trans e1) nf
    exact ⟨sl3,e3⟩
  · intro D C m H' s' ys hns hD hC hHC hDC J' q
    refine ⟨m,hns,fun h'' hs''=>⟨.ref D,upd H' D (.lst ys),?_,rfl,q⟩⟩
    have hsz:=I2.sz
    refine J'.turned (it:=C) (t':=s'.toks) (fun b o hb e=>hs''.extBut b o hb e) (by rw [upd_ne (Ne.symm hDC)]; exact hHC) (Ne.symm (Nat.ne_of_lt (Nat.lt_trans I2.lt hC))) (.inr (Nat.le_trans hsz (Nat.le_of_lt hC))) (fun x c e=>?_) (fun p hp=>?_)
    · obtain ⟨v,z⟩:=I2.cell x c e
      exact Nat.ne_of_lt (Nat.lt_trans z.lt hC)
    · exact Nat.ne_of_lt (Nat.lt_trans (Heap.lt_size (I2.pin p hp).1) hC)
end
end L2
namespace L2
open PySem PySem.Spec PyProof.Rows PySem.W
abbrev callerG:PySem.Ctx:=⟨.builtin "claim.caller" {},none,none,[],none⟩
theorem cal_caller:Cal callerG:=by show ([Code.builtin "claim.caller" {}].any Code.isCaller) = true; decide +kernel
theorem ends_C {prog:Program} {w:World} {t:Sem PySem.Fin} {s:Shared} {R:Result → Shared → Prop} (hz:s.asleep)
    (h:wpC (model prog w) callerA t (fun fin s'=>∃ f,fin = .done f ∧ (R (.ok f) s' ∧ leftWithCleanup s'.gens = false)) (fun e s'=>R (.error e) s' ∧ leftWithCleanup s'.gens = false) s) :
    ∃ n r s' s'',runN (denote table) prog w n s ⟨t,.builtin "claim.caller" {},default,[]⟩ = .halted (outcomeOf r) s' ∧ schedN (denote table) prog w n (.single s ⟨t,.builtin "claim.caller" {},default,[]⟩) = .halted (outcomeOf r) s' ∧ s'.forget = s''.forget ∧ R r s'':=by
  have z:Sem.wp (model prog w) callerG t (Sem.finPost (model prog w) callerG fun r s'=>R r s' ∧ leftWithCleanup s'.gens = false) (fun e _ s'=>R (.error e) s' ∧ leftWithCleanup s'.gens = false) default s :=
    Sem.wp_mono _ _ t (fun fin p s' y=>by obtain ⟨f,rfl,y⟩:=y; exact y) (fun _ _ _ y=>y) default s (h callerG default caller_in cal_caller)
  obtain ⟨n,r,s₁,s₂,hs,hn,hfo,hR⟩:=wp_halts_full (M:=model prog w) (R:=R) hz z
  exact ⟨n,r,s₂,s₁,hn,hs,hfo,hR⟩
theorem callFrom_C {c:ClaimW} {tree:List Value → Sem PySem.Fin} {w:World} {s:Shared} {free:Addr → Prop} {gens:Prop} {kept:Heap → Prop} (hz:s.asleep) (hg:s.gens = #[])
    (spec:∀ args,c.pre args = true → WData.layableAll args = true → ∀ ord:List DictEntry → List DictEntry,(∀ l,(ord l).Perm l) → ∃ vs s₁,layAllW c.records (classAt s.heap) w.params ord args s = some (vs,s₁) ∧
      wpC (model c.prog w) callerA (tree vs) (fun fin s'=>∃ f,fin = .done f ∧ (c.Ends s args vs s₁ (.ok f) s' ∧ s'.os = s.os ∧ AllBare s'.gens ∧ kept s'.heap)) (fun e s'=>c.Ends s args vs s₁ (.error e) s' ∧ s'.os = s.os ∧ AllBare s'.gens ∧ kept s'.heap) s₁) :
    c.CallFrom (fun vs=>⟨tree vs,.builtin "claim.caller" {},default,[]⟩) w free gens kept s:=fun args hpre hlay ord hord=>by
  obtain ⟨vs,s₁,hlaid,hcode⟩:=spec args hpre hlay ord hord
  have hal:=layAllW_rest _ _ _ hlaid
  obtain ⟨k,r,s',s'',hrun,hsched,hfo,hcase,hos,hkp⟩:=ends_C (prog:=c.prog) (w:=w) (t:=tree vs) (s:=s₁) (R:=fun r s'=>c.Ends s args vs s₁ r s' ∧ s'.os = s.os ∧ kept s'.heap) (Shared.asleep_of_life hal.2.2.2 hz)
    (wpC_mono hcode (fun fin s' ⟨f,e,h1,h2,h3,h4⟩=>⟨f,e,⟨h1,h2,h4⟩,leftWithCleanup_false_of_bare h3⟩) fun e s' ⟨h1,h2,h3,h4⟩=>⟨⟨h1,h2,h4⟩,leftWithCleanup_false_of_bare h3⟩)
  obtain ⟨eh,_,_,eo,_⟩:=Shared.forget_eq hfo
  have hcase:=hcase.congr eh
  have hkp':kept s'.heap:=by first | exact eh ▸ hkp | (rw [eh]; exact hkp)
  rw [← eo] at hos
  have hlife:s'.heap.life = s.heap.life:=(runN_life _ _ _ hrun).trans hal.2.2.2
  refine ⟨vs,s₁,hlaid,k,_,s',hsched,?_,(fun _ i x hx=>by rw [hg] at hx; simp at hx),hkp',by rw [hlife],Shared.rest_eq hos⟩
  rcases hcase with ⟨v,rfl,d1,d2,d3,d4,d5⟩ | ⟨e,ob,cls,rfl,d1,d2,d3,d4,d5⟩
  · exact .inl ⟨v,rfl,d1,d2,d3,fun b o y _=>d4 b o y,d5⟩
  · exact .inr ⟨e,ob,cls,rfl,d1,d2,d3,d4,fun b o y _=>d5 b o y⟩
def WalkC (q:Program) (loose:List Str) (XP:(Str → Option Value) → Heap → Prop) (YP:World → Heap → Prop) (r:RowW) (d:DefRec) (kwd:List (Str × Expr)):Prop :=
  ∀ w s₀ s₁ mg mb,Ground q loose r.records XP w s₀ mg mb s₁.heap → YP w s₁.heap →
  ∀ (a:Addr) (o:Obj) (pm cd doc dV kV:Value),s₁.heap.get? a = some o → o.data = .func { Calls.docDef d.name d.params d.body d.scope pm cd doc with defaults:=dV,kwdefaults:=kV } →
  s₁.heap.CodeRec cd d.name → Dflts mg s₁.heap d.params kwd dV kV → mg d.name = some (.ref a) → s₁.gens = #[] →
  ∀ args vals as,r.claim.pre args = true → WData.layableAll args = true → ReadsAllW r.records (classAt s₀.heap) s₁.heap vals args as → WellAll w.params s₁.heap vals args → (∀ a ∈ as,(a == sysModules) = false) →
  wpC (model r.prog w) callerA (PySem.call (.ref a) vals) (fun v s'=>GoodWG r.claim (classAt s₀.heap) (ExcName.means s₀.heap) args s₁ (.ok (.ret v)) s') (fun e s'=>GoodWG r.claim (classAt s₀.heap) (ExcName.means s₀.heap) args s₁ (.error e) s') s₁
theorem holdsC {r:OpenRow} {q:Program} {loose:List Str} {Xt:Shared → Bool} {XP:(Str → Option Value) → Heap → Prop} {α:Type} {Yf:Shared → α} {Ya:World → α} {YP:World → Heap → Prop} {d:DefRec} {kwd:List (Str × Expr)} {N:Nat}
    (left:LeftO r.prog q loose Xt Yf Ya N) (hY:∀ w s,Yf s = Ya w → YP w s.heap) (hYk:∀ w h h',YP w h → (∀ b o,h.get? b = some o → h'.get? b = some o) → YP w h') (hX:∀ s,Xt s = true → XP (s.heap.nsMap mainGlobals) s.heap)
    (hXk:∀ mg h h',XP mg h → (∀ b o,h.get? b = some o → h'.get? b = some o) → XP mg h') (hdef:defOf q r.name = some (d,kwd)) (hp:r.prog.theDef r.name = some (d.params,d.body,d.scope))
    (hk:kwWritten? d.params.kwonlyargs d.params.kw_defaults = some kwd) (hRf:∀ s,Xt s = true → RecFacts r.records s.heap) (hwr:(!r.writes || r.records.isEmpty) = true) (k1:r.wellSaid = true)
    (ok:(chainsOk q && opensWell r.prog && (frees r.toRowW && r.within.isEmpty)) = true) (hb:r.prog.bare) (hw:r.toRowW.promised) (walk:WalkC q loose XP YP r.toRowW d kwd):r.Holds:=by
  obtain ⟨ok,k5⟩:=Bool.and_eq_true_iff.mp ok
  obtain ⟨hch,o1⟩:=Bool.and_eq_true_iff.mp ok
  obtain ⟨k5,k6⟩:=Bool.and_eq_true_iff.mp k5
  obtain ⟨hsame,hu,ha,hap,hm⟩:=frees_parts k5
  refine ⟨k1,hw,⟨hb,o1,by show r.makers.map _ = []; rw [hm]; rfl⟩,hw.witness,fun w=>⟨(left.behind hX hch w).1,fun s' hs'=>?_⟩⟩
  obtain ⟨s₀,hf,hg0,s,hT,hz,hgens,hg,G00,y⟩:=(left.behind (XP:=fun mg h=>XP mg h ∧ RecFacts r.records h) (fun s hs=>⟨hX s hs,hRf s hs⟩) hch w).2 s' hs'
  have G0:Ground q loose [] XP w s (s.heap.nsMap mainGlobals) (s.heap.nsMap builtinsNs) s.heap:=⟨G00.T,G00.B,G00.D,G00.TE,G00.TD,G00.W,G00.X.1,G00.cls,G00.has,G00.apart,G00.once,G00.K⟩
  have RF:=G00.X.2
  have hT':=hT
  refine ⟨s₀,hf,hg0,s,hT,fun n hn=>?_,RF.1,RF.2.1,?_⟩
  · obtain rfl:n = r.name:=by split at hn <;> simp_all
    exact pinned_of_view hg G0 hdef hp hk
  have hgens:s.gens = #[]:=Array.eq_empty_of_size_eq_zero (beq_iff_eq.mp hgens)
  have G:Ground q loose r.records XP w s _ _ s.heap:=RF.ground G0
  refine callFrom_C (c:=r.toRowW.claim) (tree:=fun vs=>do match ← nsGet mainNs r.name with | some f=>do ret (← PySem.call f vs) | none=>unsupported "claim.caller:no-such-global") hz hgens fun args hpre hlay ord hord=>?_
  obtain ⟨⟨vs,s₁⟩,hlaid⟩:=Option.isSome_iff_exists.mp (layAllW_isSome (P:=w.params) (ord:=ord) G.has args r.args s (pre_splitW hpre).1)
  have keeps:=layAllW_keeps _ _ _ hlaid
  have hal:=layAllW_rest _ _ _ hlaid
  obtain ⟨as,hrd,hin,hold⟩:=reads_layAllW hord _ _ _ hlaid hlay s₁.heap (fun _ _ e=>e)
  have L:Laid r.records w s s₁ args vs as:=⟨⟨ord,hord,hlaid⟩,hrd,hin,hold,keeps,hal.1.trans hgens,hal.2.2.1⟩
  have G₁:=G.keeps hXk keeps
  obtain ⟨a,o,pm,cd,doc,dV,kV,g1,g2,g3,g4,g5⟩:=G₁.fn hdef
  have go:=walk w s s₁ _ _ G₁ (hYk _ _ _ (hY w s y) keeps) a o pm cd doc dV kV g2 g3 g4 g5 (defOf_name hdef ▸ g1) L.gens args vs as hpre hlay L.reads L.well (L.low G.low)
  have hi:=ident_freeW hu ha hap
  have hwi:r.toRowW.claim.within = []:=List.isEmpty_iff.mp k6
  refine ⟨vs,s₁,hlaid,wpC_first (wpAny_nsGet G₁.T.g ?_)⟩
  rw [g1]
  have fin:∀ res s',GoodWG r.toRowW.claim (classAt s.heap) (ExcName.means s.heap) args s₁ res s' → r.toRowW.claim.Ends s args vs s₁ res s' ∧ s'.os = s.os ∧ AllBare s'.gens ∧ (r.writes = true → namesKept r.prog r.keeps s.heap s'.heap ∧ ∀ x ∈ r.records,∀ a,classAt s.heap x.1 = some a → recordClass s'.heap a x.1 (x.2.map (·.1)) = true):=fun res s' g =>
    have z:=g.laid (c:=r.toRowW.claim) hsame hwi hi L
    ⟨z.1,z.2.1,z.2.2,fun q=>⟨namesKept_of hT' hg r.keeps keeps g.2.1.old,noTable hwr q⟩⟩
  exact wpC_bind (wpC_mono go (fun v s' g=>wpC_pure ⟨_,rfl,fin _ _ g⟩) fun e s' g=>fin _ _ g)
theorem attachC {l:OpenLaw} {n:Nat} {q:Program} {loose:List Str} {XP:(Str → Option Value) → Heap → Prop} {YP:World → Heap → Prop} {d:DefRec} (hn:l.most = some n) (hdf:d.params.defaults = [])
    (go:∀ (w:World) (s₀ s₁:Shared) (mg mb:Str → Option Value) (fa:Addr) (a:Addr) (vs:List Value) (ns:List Int),Ground q loose [] XP w s₀ mg mb s₁.heap → YP w s₁.heap → mg d.name = some (.ref fa) → s₁.heap.get? a = some { cls:=.type "list",data:=.seq vs.toArray } → IntsAre vs ns → ns.length ≤ n → s₁.gens = #[] →
      codeC (model l.prog w) callerA (.call (.ref fa) ⟨[.ref a],[]⟩) (fun r s'=>r = .ok (.ret (.bool true)) ∧ OldK s₁.heap s'.heap ∧ s'.os = s₁.os ∧ AllBare s'.gens) s₁):WalkC q loose XP YP l.row.toRowW d []:=by
  intro w s₀ s₁ mg mb G Y fa o pm cd doc dV kV ho hd hcd hD hmg hg args vals as hpre hlay hrd hwl hlo
  obtain ⟨a,vs,ns,rfl,rfl,hobj,hints,hlen⟩:=Att.script_of hn hpre hwl
  refine wpC_call (codeC_mono (go w s₀ s₁ mg mb fa a vs ns G Y hmg hobj hints hlen hg) fun r s' hq=>?_)
  obtain ⟨rfl,h2,h3,h4⟩:=hq
  exact ⟨.inl ⟨.bool true,.bool true,[],rfl,fun _=>rfl,.bool true,Att.post_true l _,fun _=>⟨List.Pairwise.nil,fun _ hm=>(nomatch hm)⟩⟩,h2,h3,h4⟩
theorem walk_of {l:OpenLaw} {n k:Nat} {q:Program} {loose:List Str} {XP:(Str → Option Value) → Heap → Prop} {YP:World → Heap → Prop} {d:DefRec} {K:Params → Frag} {CX:World → CXT} {sp:World → Sp} {x:Str} (hn:l.most = some n) (hn2:n ≤ sizeLine) (hdf:d.params.defaults = []) (hr:Room k callerA)
    (hY:∀ (w:World) (h:Heap),YP w h → (K w.params).In h)
    (F:∀ (w:World) (mg:Str → Option Value) (fa:Addr) (h:Heap),(K w.params).In h → h.Ns mainGlobals mg → mg d.name = some (.ref fa) → ∃ fd:FuncData,(∀ (s:Shared) (u:Value),BindsTo s fd ⟨[u],[]⟩ [(x,u)]) ∧ ∀ base:Heap,(K w.params).In base → base.Ns mainGlobals mg → FnOk l.prog w (K w.params) mg base (CX w) k fa fd [x] (sp w))
    (hsp:∀ (w:World) (H:Hp) (a:Addr) (ns:List Int),ns.length ≤ n → Only H → SqL (K w.params) H a (ns.map V.int) → sp w [.ref a] H (fun v _=>v = .bl true) fun _ _ _=>False)
    (hCX:∀ (w:World) (H:Hp) (s:Shared) (e:Value) (s':Shared),CX w [] H s (fun _ _ _=>False) e s' → False):WalkC q loose XP YP l.row.toRowW d []:=by
  refine attachC hn hdf fun w s₀ s₁ mg mb fa a vs ns G Y hmg hobj hints hlen hg=>?_
  have KX:=hY w _ Y
  obtain ⟨fd,hb,hF⟩:=F w mg fa _ KX G.T.g hmg
  exact law_call KX G.T.g G.T.b G.T.builtins G.T.nolimit hg hobj hints (Nat.le_trans hlen hn2) hr hF hb (fun H hO hS=>hsp w H a ns hlen hO hS) fun H e s'=>hCX w H s₁ e s'
end L2
namespace L2
open PySem PySem.Spec PyProof.Rows PySem.NumText
def figs (l:List Nat):List Nat:=match l with | 45 :: r=>r | l=>l
def isDig (c:Nat):Bool:=decide (48 ≤ c ∧ c ≤ 57)
def wdOk (l:List Nat):Bool:=!(figs l).isEmpty && (figs l).all isDig && !((figs l).head? == some 48 && (decide (1 < (figs l).length) || l != figs l))
def wdVal (l:List Nat):Int:=if l = figs l then (digitsVal (figs l):Nat) else -((digitsVal (figs l):Nat):Int)
theorem dv_snoc (a:List Nat) (c:Nat):digitsVal (a ++ [c]) = digitsVal a * 10 + (c - 48):=by unfold digitsVal; rw [List.foldl_append]; rfl
theorem snocRec {P:List Nat → Prop} (h0:P []) (h1:∀ r c,P r → P (r ++ [c])) (l:List Nat):P l:=by
  have z:∀ l:List Nat,P l.reverse:=fun l=>by
    induction l with
    | nil=>exact h0
    | cons c r ih=>rw [List.reverse_cons]; exact h1 _ _ ih
  have:=z l.reverse
  rwa [List.reverse_reverse] at this
theorem dig_pos (a:List Nat):(∀ c ∈ a,48 ≤ c ∧ c ≤ 57) → a ≠ [] → a.head? ≠ some 48 → 0 < digitsVal a:=by
  refine snocRec (P:=fun a=>(∀ c ∈ a,48 ≤ c ∧ c ≤ 57) → a ≠ [] → a.head? ≠ some 48 → 0 < digitsVal a) (fun _ h0=>absurd rfl h0) (fun r c ih h h0 hz=>?_) a
  rw [dv_snoc]
  have hc:=h c (by simp)
  cases r with
  | nil =>
    have:c ≠ 48:=fun e=>hz (by simp [e])
    have e:digitsVal [] = 0:=rfl
    omega
  | cons x r =>
    have:=ih (fun d hd=>h d (List.mem_append_left _ hd)) (by simp) (by simpa using hz)
    omega
theorem digs_back (a:List Nat):(∀ c ∈ a,48 ≤ c ∧ c ≤ 57) → a ≠ [] → (a.head? = some 48 → a.length = 1) → (Nat.toDigits 10 (digitsVal a)).map Char.toNat = a:=by
  refine snocRec (P:=fun a=>(∀ c ∈ a,48 ≤ c ∧ c ≤ 57) → a ≠ [] → (a.head? = some 48 → a.length = 1) → (Nat.toDigits 10 (digitsVal a)).map Char.toNat = a) (fun _ h0=>absurd rfl h0) (fun r c ih h h0 hz=>?_) a
  rw [dv_snoc]
  have hc:=h c (by simp)
  have one:∀ d,d < 10 → (Nat.toDigits 10 d).map Char.toNat = [d + 48]:=by decide
  cases r with
  | nil =>
    have e:digitsVal [] = 0:=rfl
    rw [e,Nat.zero_mul,Nat.zero_add,one _ (by omega)]
    simp only [List.nil_append,List.cons.injEq,and_true]; omega
  | cons x r =>
    have hx:x ≠ 48:=fun e=>by
      have:=hz (by simp [e])
      simp at this
    have ih:=ih (fun d hd=>h d (List.mem_append_left _ hd)) (by simp) (fun e=>by simp at e; exact absurd e hx)
    have pos:=dig_pos (x :: r) (fun d hd=>h d (List.mem_append_left _ hd)) (by simp) (by simpa using hx)
    have t:Nat.toDigits 10 (digitsVal (x :: r)) ++ Nat.toDigits 10 (c - 48) = Nat.toDigits 10 (10 * digitsVal (x :: r) + (c - 48)):=Nat.toDigits_append_toDigits (by decide) pos (by omega)
    rw [Nat.mul_comm,← t,List.map_append,ih,one _ (by omega)]
    congr 1
    simp only [List.cons.injEq,and_true]; omega
theorem wd_back {l:List Nat} (h:wdOk l = true):cl (sN (wdVal l)) = l:=by
  unfold wdOk at h
  simp only [Bool.and_eq_true,Bool.not_eq_true',List.all_eq_true] at h
  obtain ⟨⟨h1,h2⟩,h3⟩:=h
  have hd:∀ c ∈ figs l,48 ≤ c ∧ c ≤ 57:=fun c hc=>of_decide_eq_true (h2 c hc)
  have h0:figs l ≠ []:=fun e=>by rw [e] at h1; cases h1
  unfold wdVal
  by_cases e:l = figs l
  · rw [if_pos e,sN_nat,digs_back _ hd h0 (fun z=>?_)]
    · exact e.symm
    · rw [z,← e] at h3
      simp at h3
      have:0 < l.length:=by rw [e]; exact List.length_pos_iff.mpr h0
      rw [← e]; omega
  · have hz:(figs l).head? ≠ some 48:=fun z=>by rw [z] at h3; simp [e] at h3
    have e2:l = 45 :: figs l:=by
      unfold figs at e ⊢
      split at e
      · rfl
      · exact absurd rfl e
    rw [if_neg e]
    have pos:=dig_pos _ hd h0 hz
    obtain ⟨m,hm⟩:∃ m,digitsVal (figs l) = m + 1:=⟨digitsVal (figs l) - 1,by omega⟩
    rw [hm,sN_neg,← hm,digs_back _ hd h0 (fun z=>absurd z hz)]
    exact e2.symm
theorem dig_val (m:Nat):digitsVal ((Nat.toDigits 10 m).map Char.toNat) = m:=PySem.W.KIN.val_back m
theorem dig_head {m:Nat} (h:((Nat.toDigits 10 m).map Char.toNat).head? = some 48):m = 0:=by
  induction m using Nat.strongRecOn with
  | ind m ih =>
    by_cases hm:m < 10
    · have:∀ m,m < 10 → ((Nat.toDigits 10 m).map Char.toNat).head? = some 48 → m = 0:=by decide
      exact this m hm h
    · have t:Nat.toDigits 10 (m / 10) ++ Nat.toDigits 10 (m % 10) = Nat.toDigits 10 (10 * (m / 10) + m % 10):=Nat.toDigits_append_toDigits (by decide) (by omega) (Nat.mod_lt _ (by decide))
      rw [Nat.div_add_mod] at t
      rw [← t,List.map_append] at h
      have:=ih (m / 10) (by omega) (by
        cases q:(Nat.toDigits 10 (m / 10)).map Char.toNat with
        | nil=>exact absurd q (dig_ne _)
        | cons y ys=>rw [q] at h; simpa using h)
      omega
theorem figs_dig (m:Nat):figs ((Nat.toDigits 10 m).map Char.toNat) = (Nat.toDigits 10 m).map Char.toNat:=by
  unfold figs
  split
  · rename_i r e
    have:=dig_ok m 45 (by rw [e]; simp)
    omega
  · rfl
theorem wd_num (n:Int):wdOk (cl (sN n)) = true ∧ wdVal (cl (sN n)) = n:=by
  have hall:∀ m,((Nat.toDigits 10 m).map Char.toNat).all isDig = true:=fun m=>by
    rw [List.all_eq_true]; intro c hc; exact decide_eq_true (dig_ok m c hc)
  have hne:∀ m,((Nat.toDigits 10 m).map Char.toNat).isEmpty = false:=fun m=>by
    rw [List.isEmpty_eq_false_iff]; exact dig_ne m
  rcases Int.lt_or_le n 0 with hn | hn
  · obtain ⟨m,rfl⟩:∃ m:Nat,n = -((m + 1:Nat):Int):=⟨(-n).toNat - 1,by omega⟩
    rw [sN_neg]
    have e:figs (45 :: (Nat.toDigits 10 (m + 1)).map Char.toNat) = (Nat.toDigits 10 (m + 1)).map Char.toNat:=rfl
    have ne:(45 :: (Nat.toDigits 10 (m + 1)).map Char.toNat) ≠ (Nat.toDigits 10 (m + 1)).map Char.toNat:=fun z=>by simpa using congrArg List.length z
    constructor
    · unfold wdOk
      rw [e,hall,hne]
      rw [show (((Nat.toDigits 10 (m + 1)).map Char.toNat).head? == some 48) = false from beq_eq_false_iff_ne.mpr fun z=>by have:=dig_head z; omega]
      rfl
    · unfold wdVal
      rw [e,if_neg ne,dig_val]
  · obtain ⟨m,rfl⟩:∃ m:Nat,n = (m:Nat):=⟨n.toNat,by omega⟩
    rw [sN_nat]
    constructor
    · unfold wdOk
      rw [figs_dig,hall,hne]
      by_cases z:((Nat.toDigits 10 m).map Char.toNat).head? = some 48
      · have:=dig_head z
        subst this
        decide
      · rw [show (((Nat.toDigits 10 m).map Char.toNat).head? == some 48) = false from beq_eq_false_iff_ne.mpr z]
        rfl
    · unfold wdVal
      rw [figs_dig,if_pos rfl,dig_val]
def rdN (w:Str):Option Int:=if wdOk (cl w) = true then some (wdVal (cl w)) else none
theorem rdN_some {w:Str} {n:Int}:rdN w = some n ↔ w = sN n:=by
  unfold rdN
  constructor
  · intro h
    split at h
    · rename_i k
      cases h
      exact cl_ext (wd_back k).symm
    · cases h
  · rintro rfl
    rw [if_pos (wd_num n).1,(wd_num n).2]
theorem rdN_of {w:Str} {m:Int} (hl:w.length ≤ 640) (h:intText? w = some m):rdN w = if sN m = w then some m else none:=by
  by_cases e:sN m = w
  · rw [if_pos e]; exact rdN_some.mpr e.symm
  · rw [if_neg e]
    cases z:rdN w with
    | none=>rfl
    | some n =>
      have:=rdN_some.mp z
      subst this
      rw [sN_reads hl] at h
      cases h
      exact absurd rfl e
theorem fold_lt:∀ (l:List Nat) (a:Nat),(∀ d ∈ l,d < 10) → l.foldl (fun acc d=>acc * 10 + d) a < (a + 1) * 10 ^ l.length
  | [],a,_=>by simp
  | d :: l,a,h=>by
    have:=fold_lt l (a * 10 + d) fun x hx=>h x (List.mem_cons_of_mem _ hx)
    have hd:=h d (by simp)
    rw [List.foldl_cons,List.length_cons,Nat.pow_succ]
    refine Nat.lt_of_lt_of_le this ?_
    calc (a * 10 + d + 1) * 10 ^ l.length ≤ ((a + 1) * 10) * 10 ^ l.length:=Nat.mul_le_mul_right _ (by omega)
      _ = (a + 1) * (10 ^ l.length * 10):=by rw [Nat.mul_assoc,Nat.mul_comm 10]
theorem step_lt {p q:Array Nat × Bool} {c:Nat} (hp:∀ d ∈ p.1.toList,d < 10) (h:step 10 p c = some q):∀ d ∈ q.1.toList,d < 10:=by
  unfold NumText.step at h
  split at h
  · split at h
    · cases h; exact hp
    · cases h
  · split at h
    · rename_i d0 _
      split at h
      · rename_i hlt
        cases h
        intro d hd
        have hd:d ∈ (p.1.push d0).toList:=hd
        simp only [Array.toList_push,List.mem_append,List.mem_singleton] at hd
        rcases hd with hd | rfl
        · exact hp d hd
        · exact hlt
      · cases h
    · cases h
theorem fold_digs:∀ (cs:List Nat) {p q:Array Nat × Bool},(∀ d ∈ p.1.toList,d < 10) → cs.foldlM (step 10) p = some q → ∀ d ∈ q.1.toList,d < 10
  | [],p,q,hp,h=>by cases h; exact hp
  | c :: cs,p,q,hp,h=>by
    rw [List.foldlM_cons] at h
    cases e:step 10 p c with
    | none=>rw [e] at h; cases h
    | some r=>rw [e] at h; exact fold_digs cs (step_lt hp e) h
theorem read_lt {x:Str} {m:Int} (h:intText? x = some m):m.natAbs < 10 ^ x.length:=by
  unfold intText? at h
  split at h
  · split at h
    · rename_i ds hd
      split at h
      · cases h
        have hs:=digits_size hd
        have hc:=core_length (numSeenOf x)
        have hx:=seen_length x
        have lt:∀ d ∈ ds.toList,d < 10:=by
          unfold digits? at hd
          cases e:(core (numSeenOf x)).foldlM (step 10) ((#[]:Array Nat),false) with
          | none=>rw [e] at hd; cases hd
          | some r =>
            rw [e] at hd
            simp only [Option.bind_some] at hd
            split at hd
            · cases hd; exact fold_digs _ (by simp) e
            · cases hd
        have f:=fold_lt ds.toList 0 lt
        rw [Nat.zero_add,Nat.one_mul,Array.length_toList] at f
        have e:(worth (sign ((numSeenOf x).dropWhile NumText.blank)).1 ds).natAbs = ds.toList.foldl (fun acc d=>acc * 10 + d) 0:=by
          unfold worth
          rw [← Array.foldl_toList]
          split <;> simp
        rw [e]
        exact Nat.lt_of_lt_of_le f (Nat.pow_le_pow_right (by decide) (by omega))
      · cases h
    · cases h
  · cases h
theorem read_log {x:Str} {m:Int} (hl:x.length ≤ 577) (h:intText? x = some m):m.natAbs.log2 < 1920:=by
  have:=read_lt h
  have h2:m.natAbs < 2 ^ 1920:=Nat.lt_of_lt_of_le this (Nat.le_trans (Nat.pow_le_pow_right (by decide) hl) (by decide +kernel))
  by_cases z:m.natAbs = 0
  · rw [z]; decide
  · exact (Nat.log2_lt z).mpr h2
end L2
local macro_rules | `(tactic| walk_at "i")=>`(tactic| first | refine ite2 (fun c=>?_) (fun c=>?_))
namespace K14
open PySem L2
def top (i:Nat):Stmt:=PySem.Challenge.pw_halveline_k14_texts_there_and_back.main.body.getD i (.Pass ⟨0,0,0,0⟩)
structure Txt (mg:Str → Option Value):Prop where
  len_:mg "len" = none
  range_:mg "range" = none
  max_:mg "max" = none
  min_:mg "min" = none
  abs_:mg "abs" = none
  int_:mg "int" = none
  isinstance_:mg "isinstance" = none
  tuple_:mg "tuple" = none
  bool_:mg "bool" = none
  list_:mg "list" = none
  all_:mg "all" = none
  any_:mg "any" = none
  set_:mg "set" = none
  sorted_:mg "sorted" = none
  str_:mg "str" = none
  enumerate_:mg "enumerate" = none
  zip_:mg "zip" = none
  divmod_:mg "divmod" = none
abbrev sis_whole:Stmt:=top 5
abbrev sare_whole:Stmt:=top 6
abbrev shas_few_figures:Stmt:=top 7
abbrev scommon_divisor:Stmt:=top 8
abbrev sis_lead:Stmt:=top 10
abbrev slead:Stmt:=top 11
abbrev sis_line:Stmt:=top 12
abbrev sthrough:Stmt:=top 13
abbrev sis_point:Stmt:=top 15
abbrev swrite_heap:Stmt:=top 17
abbrev swrite_line:Stmt:=top 18
abbrev ssplit_text:Stmt:=top 19
abbrev sread_number:Stmt:=top 20
abbrev sread_numbers:Stmt:=top 21
abbrev sread_point:Stmt:=top 22
abbrev sread_heap:Stmt:=top 23
abbrev sread_line:Stmt:=top 24
abbrev s_law_pot:Stmt:=top 26
abbrev s_law_take:Stmt:=top 27
abbrev s_law_wide:Stmt:=top 28
abbrev s_law_number:Stmt:=top 29
abbrev s_law_heap:Stmt:=top 30
abbrev s_law_word:Stmt:=top 31
abbrev s_law_divisor:Stmt:=top 32
abbrev s_law_point_of:Stmt:=top 33
abbrev s_law_heap_of:Stmt:=top 34
abbrev s_law_line_of:Stmt:=top 35
abbrev s_law_sign_spoilt:Stmt:=top 36
abbrev s_law_spoilt:Stmt:=top 37
abbrev s_law_read:Stmt:=top 38
abbrev s_law_texts_right:Stmt:=top 39
abbrev s_law_right:Stmt:=top 40
abbrev slaw:Stmt:=top 41
section
variable {P:Program} {w:World} {K:PySem.W.Frag} {mg:Str → Option Value} {base:Heap} {CX:CXT}
abbrev PA0:MO:=.pot 2147483629
def sPot:SpD:=fun es μ Q=>∃ (ns:List Int) (k:Nat),es = [.d (.list (ns.map .int)),.d (.int k)] ∧ ns.length ≤ 63 ∧ k ≤ 63 ∧ ∀ p,p ∉ μ.map Prod.fst → Q (.m p) ((p,PA0) :: μ)
theorem cutD_int {ns:List Int} {lo hi:Option Int} {i:Nat} {x:PyData} (h:(cutD (ns.map PyData.int) lo hi)[i]? = some x):∃ y,x = .int y:=by
  obtain ⟨y,_,e⟩:=List.mem_map.mp (List.mem_of_mem_drop (List.mem_of_mem_take (List.mem_of_getElem? h)))
  exact ⟨y,e.symm⟩
theorem sc_pot:FnScope ["_law_script", "_law_k", "_law_cell", "_law_mixed", "_law_one"] ["_law_script", "_law_k"] (defScope s_law_pot):=⟨rfl,rfl,rfl,by decide +kernel,rfl,by decide +kernel,by decide +kernel⟩
theorem ok_pot {f:Addr} {fd:FuncData} (F:Fun K "_law_pot" "_law_pot" s_law_pot f fd) (T:Txt mg):FnOk P w K mg base CX 1 f fd ["_law_script", "_law_k"] (spUp K sPot):=by
  refine F.okD sc_pot (fun es μ Q hq0=>by obtain ⟨ns,k,e,_⟩:=hq0; subst e; rfl) (fun cdv A outer s H E es μ Q hr hq0=>?_)
  obtain ⟨ns,n,e,hl,hn,k⟩:=hq0
  subst e
  have nd:=sc_pot.nd
  have key:∃ t,DSs K (cxOf CX P w K mg base ["_law_script", "_law_k", "_law_cell", "_law_mixed", "_law_one"] "_law_pot" (defScope s_law_pot) f cdv A outer s H E).nox ((defBody s_law_pot).drop 1) t ∧
      ∀ cell:Int,t { nx:=fun _ μ'=>Q (.d .none) μ',rt:=Q } [some (.d (.list (ns.map .int))),some (.d (.int n)),some (.d (.int cell)),none,none] μ:=by
    refine ⟨_,(ds_cons (ds_set (i:=3) nd rfl (by first | exact Or.inl rfl | exact Or.inr rfl) (d_op do_add d_int (d_op do_mul d_int (dv 1))))
      (ds_cons (ds_for PassesOwn.never rfl (di_list (d_slice (dv 0) dp_none (dp_some d_int))) (dg_name (i:=4) nd rfl (by first | exact Or.inl rfl | exact Or.inr rfl)) (ds_one (ds_set (i:=3) nd rfl (by first | exact Or.inl rfl | exact Or.inr rfl) (d_op do_mod (d_op do_add (d_op do_mul (dv 3) d_int) (dv 4)) d_int))))
      (ds_one (ds_retF (d_lstM (da_cons (d_callB (dc_max rfl) (by rfl) T.max_ bt_max (da_cons d_int (da_cons (d_op do_sub (dv 2) (d_op do_pow d_int d_int)) da_nil))) (da_cons (dv 3) da_nil))))))),fun cell=>?_⟩
    refine ⟨⟨bigN (by decide) (by decide),bigN (by omega) (by omega)⟩,_,.d _,_,.d _,?_⟩
    refine forL (fun i ρ' μ'=>μ' = μ ∧ ∃ (z:Int) (v:Option En),ρ' = [some (.d (.list (ns.map .int))),some (.d (.int n)),some (.d (.int cell)),some (.d (.int z)),v] ∧ 0 ≤ z ∧ z < 2147483629) ⟨rfl,_,_,rfl,by omega,by omega⟩ (fun _ _ _ _=>.d _) ?_ ?_
    · rintro i x ρ' μ' hx ⟨rfl,z,v,rfl,z0,z1⟩
      obtain ⟨y,rfl⟩:=cutD_int hx
      exact ⟨⟨bigN (by omega) (by omega),bigN (by decide) (by decide)⟩,(show (0:Int) < 2147483629 by decide),Wks.of ⟨rfl,_,_,rfl,Int.emod_nonneg _ (by decide),Int.emod_lt_of_pos _ (by decide)⟩⟩
    · rintro ρ' μ' ⟨rfl,z,v,rfl,z0,z1⟩
      refine ⟨⟨by decide,by decide,by decide⟩,zl2,fun p hp=>⟨_,_,FzR.pot ?_ z0 z1,k p hp⟩⟩
      dsimp only
      split <;> omega
  obtain ⟨t,ht,hk⟩:=key
  refine ⟨_,(ds_cons (ds_set (i:=2) nd rfl (by first | exact Or.inl rfl | exact Or.inr rfl) (d_ifExp (dt_cmp do_lt (dv 1) (d_callB dc_len (by rfl) T.len_ bt_len (da_cons (dv 0) da_nil)) (nomark _)) (d_ix dx_seq (dv 0) (dv 1) (fun _ _=>rfl)) d_int))
      ht),?_⟩
  refine ⟨_,.l (.d _),?_⟩
  rw [List.length_map]
  refine ite2 (fun c=>?_) (fun c=>?_)
  · have hc:(n:Int) < (ns.length:Int):=of_decide_eq_true c
    have hn2:n < ns.length:=by omega
    exact ⟨.int ns[n],atI_nat (by rw [List.getElem?_map,List.getElem?_eq_getElem hn2]; rfl),hk ns[n]⟩
  · exact hk 0
theorem sc_take:FnScope ["_law_pot_here", "_law_many", "_law_digit"] ["_law_pot_here", "_law_many"] (defScope s_law_take):=⟨rfl,rfl,rfl,by decide +kernel,rfl,by decide +kernel,by decide +kernel⟩
theorem ok_take {f:Addr} {fd:FuncData} (F:Fun K "_law_take" "_law_take" s_law_take f fd):FnOk P w K mg base CX 1 f fd ["_law_pot_here", "_law_many"] (spUp K (sDraw 2147483629)):=by
  refine FnOk.imp (sp:=spTakeM 2147483629) ?_ fun _ _ _ _ h=>draw_up h
  refine F.okG sc_take (fun vs H Q E h=>?_) (fun cdv A outer s H vs Q E hr h=>?_)
  · obtain ⟨p,m,rfl,_⟩:=h
    rfl
  · obtain ⟨p,m,rfl,⟨p0,p1,e,h0,h1,h2⟩,m0,m1,k⟩:=h
    have nd:=sc_take.nd
    refine ⟨_,(pss_cons (ps_if (pt_cmpR op_gt (pe_ix ix_list (pv 0) pe_int (fun _ _=>rfl)) pe_int (nomark _)) (pss_cons (ps_set (i:=2) nd rfl (by first | exact Or.inl rfl | exact Or.inr rfl) (pe_op op_mod (pe_ix ix_list (pv 0) pe_int (fun _ _=>rfl)) (pv 1)))
      (pss_cons (ps_asg (pe_op op_fdiv (pe_ix ix_list (pv 0) pe_int (fun _ _=>rfl)) (pv 1)) (pg_sub (pv 0) pe_int set_list))
      (pss_one (ps_ret (pv 2))))) pss_nil)
      (pss_cons (ps_asg (pe_op op_mod (pe_op op_add (pe_op op_mulB (pe_ix ix_list (pv 0) pe_int (fun _ _=>rfl)) pe_int) pe_int) pe_int) (pg_sub (pv 0) pe_int set_list))
      (pss_one (ps_ret (pe_op op_mod (pe_op op_fdiv (pe_op op_mod (pe_op op_mulB (pe_ix ix_list (pv 0) pe_int (fun _ _=>rfl)) (pe_ix ix_list (pv 0) pe_int (fun _ _=>rfl))) pe_int) pe_int) (pv 1)))))),?_⟩
    refine ⟨_,rfl,p,_,_,_,rfl,rfl,SqL.of e,rfl,_,_,rfl,rfl,_,rfl,?_⟩
    refine ite2 (fun c=>?_) (fun c=>?_)
    · have hc:0 < p0:=of_decide_eq_true c
      refine ⟨_,rfl,p,_,_,_,rfl,rfl,SqL.of e,rfl,_,rfl,_,_,rfl,rfl,m0,?_⟩
      refine ⟨_,rfl,p,_,_,_,rfl,rfl,SqL.of e,rfl,_,rfl,_,_,rfl,rfl,⟨m0,by omega⟩,_,rfl,p,_,_,_,rfl,rfl,e,rfl,?_⟩
      refine ⟨_,rfl,?_⟩
      refine k _ _ (Int.emod_nonneg _ (by omega)) (Int.emod_lt_of_pos _ m0) ⟨p0 / m,p1,upd_same,Int.ediv_nonneg h0 (by omega),h1,h2⟩ Stp.upd
    · refine ⟨_,rfl,p,_,_,_,rfl,rfl,SqL.of e,rfl,_,_,rfl,rfl,⟨Big.of 2147483629 (by decide) (by omega) (by omega),Big.of 39373 (by decide) (by decide) (by decide)⟩,_,_,rfl,rfl,_,_,rfl,rfl,(show (0:Int) < 2147483629 by decide),_,rfl,p,_,_,_,rfl,rfl,e,rfl,?_⟩
      have g0:0 ≤ (p1 * 39373 + 2311) % 2147483629:=Int.emod_nonneg _ (by decide)
      have g1:(p1 * 39373 + 2311) % 2147483629 < 2147483629:=Int.emod_lt_of_pos _ (by decide)
      have e':∀ z,(upd H p (.lst [V.int p0,V.int z])) p = some (.lst [V.int p0,V.int z]):=fun z=>upd_same
      refine ⟨_,rfl,p,_,_,_,rfl,rfl,SqL.of (e' _),rfl,_,rfl,p,_,_,_,rfl,rfl,SqL.of (e' _),rfl,_,_,rfl,rfl,⟨Big.of 2147483629 (by decide) (by omega) (by omega),Big.of 2147483629 (by decide) (by omega) (by omega)⟩,_,_,rfl,rfl,(show (0:Int) < 2147483587 by decide),_,_,rfl,rfl,⟨by decide,by decide⟩,_,rfl,_,_,rfl,rfl,m0,?_⟩
      exact k _ _ (Int.emod_nonneg _ (by omega)) (Int.emod_lt_of_pos _ m0) ⟨p0,_,e' _,h0,g0,g1⟩ Stp.upd
theorem e8:(10:Int) ^ (8:Int).toNat = 100000000:=by decide
theorem e30:(10:Int) ^ (30:Int).toNat = 1000000000000000000000000000000:=by decide
theorem sc_wide:FnScope ["_law_pot_here", "_law_found", "_law_k"] ["_law_pot_here"] (defScope s_law_wide):=⟨rfl,rfl,rfl,by decide +kernel,rfl,by decide +kernel,by decide +kernel⟩
theorem ok_wide {f:Addr} {fd:FuncData} (F:Fun K "_law_wide" "_law_wide" s_law_wide f fd) (T:Txt mg) (hX:NoX CX) (O_law_take:Own P w K mg base CX 1 "_law_take" ["_law_pot_here", "_law_many"] (spUp K (sDraw 2147483629))):FnOk P w K mg base CX 2 f fd ["_law_pot_here"] (spUp K (sNum 2147483629)):=by
  refine F.okD sc_wide (fun es μ Q hq0=>by obtain ⟨p,e,_⟩:=hq0; subst e; rfl) (fun cdv A outer s H E es μ Q hr hq0=>?_)
  obtain ⟨p,e,hp,k⟩:=hq0
  subst e
  have nd:=sc_wide.nd
  refine ⟨_,(ds_cons (ds_set (i:=1) nd rfl (by first | exact Or.inl rfl | exact Or.inr rfl) d_int)
      (ds_cons (ds_for PassesOwn.never rfl (di_range1 rfl T.range_ (da_cons d_int da_nil)) (dg_name (i:=2) nd rfl (by first | exact Or.inl rfl | exact Or.inr rfl)) (ds_one (ds_set (i:=1) nd rfl (by first | exact Or.inl rfl | exact Or.inr rfl) (d_op do_add (d_op do_mul (dv 1) (d_op do_pow d_int d_int)) (d_own O_law_take hX (hr.mono (by decide)) rfl (da_cons (dv 0) (da_cons (d_op do_pow d_int d_int) da_nil)))))))
      (ds_one (ds_ret (d_op do_add (d_op do_sub (d_op do_mod (dv 1) (d_op do_sub (d_op do_mul d_int (d_op do_pow d_int d_int)) d_int)) (d_op do_pow d_int d_int)) d_int))))),?_⟩
  refine ⟨by decide,by decide,forR (fun i ρ' μ'=>μ' = μ ∧ ∃ (z:Int) (v:Option En),ρ' = [some (.m p),some (.d (.int z)),v] ∧ 0 ≤ z ∧ z < 100000000 ^ i) ⟨rfl,0,none,rfl,by decide,by decide⟩ ?_ ?_⟩
  · rintro i ρ' μ' hi ⟨rfl,z,v,rfl,z0,z1⟩
    have hb:z < 10000000000000000000000000000000000000000:=by
      have:i = 0 ∨ i = 1 ∨ i = 2 ∨ i = 3:=by have hi:i < 4:=hi; omega
      rcases this with rfl | rfl | rfl | rfl <;> simp at z1 <;> omega
    refine ⟨⟨by decide,by decide,by decide⟩,⟨bigN (by omega) (by omega),by rw [e8]; exact bigN (by decide) (by decide)⟩,⟨by decide,by decide,by decide⟩,p,_,rfl,hp,by rw [e8]; decide,by rw [e8]; decide,fun d d0 d1=>Wks.of ⟨rfl,_,_,rfl,?_,?_⟩⟩
    · rw [e8] at *; omega
    · rw [e8] at *
      rw [Int.pow_succ]
      generalize (100000000:Int) ^ i = y at z1
      omega
  · rintro ρ' μ' ⟨rfl,z,v,rfl,z0,z1⟩
    refine ⟨⟨by decide,by decide,by decide⟩,⟨bigN (by decide) (by decide),by rw [e30]; exact bigN (by decide) (by decide)⟩,by rw [e30]; show (0:Int) < 2 * 1000000000000000000000000000000 - 1; decide,⟨by decide,by decide,by decide⟩,k _ ?_⟩
    rw [e30]
    unfold Num
    omega
theorem sc_number:FnScope ["_law_pot_here"] ["_law_pot_here"] (defScope s_law_number):=⟨rfl,rfl,rfl,by decide +kernel,rfl,by decide +kernel,by decide +kernel⟩
theorem ok_number {f:Addr} {fd:FuncData} (F:Fun K "_law_number" "_law_number" s_law_number f fd) (hX:NoX CX) (O_law_take:Own P w K mg base CX 1 "_law_take" ["_law_pot_here", "_law_many"] (spUp K (sDraw 2147483629))) (O_law_wide:Own P w K mg base CX 2 "_law_wide" ["_law_pot_here"] (spUp K (sNum 2147483629))):FnOk P w K mg base CX 3 f fd ["_law_pot_here"] (spUp K (sNum 2147483629)):=by
  refine F.okD sc_number (fun es μ Q hq0=>by obtain ⟨p,e,_⟩:=hq0; subst e; rfl) (fun cdv A outer s H E es μ Q hr hq0=>?_)
  obtain ⟨p,e,hp,k⟩:=hq0
  subst e
  have nd:=sc_number.nd
  refine ⟨_,(ds_cons (ds_if (dt_cmp (do_eq hr.units) (d_own O_law_take hX (hr.mono (by decide)) rfl (da_cons (dv 0) (da_cons d_int da_nil))) d_int (nomark _)) (ds_one (ds_ret (d_own O_law_wide hX (hr.mono (by decide)) rfl (da_cons (dv 0) da_nil)))) ds_nil)
      (ds_one (ds_ret (d_op do_sub (d_own O_law_take hX (hr.mono (by decide)) rfl (da_cons (dv 0) (da_cons d_int da_nil))) d_int)))),?_⟩
  refine ⟨p,_,rfl,hp,by decide,by decide,fun d d0 d1=>ite2 (fun c=>?_) (fun c=>?_)⟩
  · exact ⟨p,rfl,hp,fun n hn=>k n hn⟩
  · refine ⟨p,_,rfl,hp,by decide,by decide,fun d d0 d1=>k _ ?_⟩
    unfold Num
    omega
end
end K14
namespace L2
open PySem PySem.Spec PyProof.Rows
section
variable {X:Cx} {K:PySem.W.Frag}
theorem op_mulL:OpR X (binaryOp .Mult) (rI (fun i _=>Builtin.Int.intBits i ≤ 64) fun i j=>.int (i * j)):=opI fun _ _ _ _ _ _ _ hc q=>mul_int q (IntMulOk.of_left hc)
theorem do_mulL:OpR X (binaryOp .Mult) (upR K (rdI (fun i _=>Builtin.Int.intBits i ≤ 64) fun i j=>.int (i * j))):=op_mulL.mono fun _ _ _ _=>up_rI
def rSlS:V → Option Int → Option Int → Hp → VK → Prop:=fun x lo hi H Q=>∃ z:Str,x = .str z ∧ z.length ≤ sizeLine ∧ Q (.str (Txt.slice z lo hi)) H
theorem sl_str:SlR X rSlS:=by
  intro pins s σ H x v vl vu lo hi sl Q I rx hs pl pu h
  obtain ⟨z,rfl,hz,q⟩:=h
  obtain ⟨t,rfl⟩:=rx
  refine ⟨"str",_,F.slot_str_getitem.lookup,typeIs_str _ _ _,PySem.wpAny.cc ?_⟩
  have fin:∀ t' k,EP X pins σ Q (.str (Txt.slice z lo hi) t') { s with toks:=k }:=fun t' k=>⟨.str _,H,I.tok _,⟨_,rfl⟩,q⟩
  cases pl with
  | none =>
    cases pu with
    | none=>exact wpAny_getItem_str_slice (l:=none) (u:=none) (st:=none) hs rfl (post_val_or_str ⟨Nat.le_trans (Txt.slice_le z _ _) hz,fin⟩)
    | int j uj=>exact wpAny_getItem_str_slice (l:=none) (u:=some (j,uj)) (st:=none) hs rfl (post_val_or_str ⟨Nat.le_trans (Txt.slice_le z _ _) hz,fin⟩)
  | int i ui =>
    cases pu with
    | none=>exact wpAny_getItem_str_slice (l:=some (i,ui)) (u:=none) (st:=none) hs rfl (post_val_or_str ⟨Nat.le_trans (Txt.slice_le z _ _) hz,fin⟩)
    | int j uj=>exact wpAny_getItem_str_slice (l:=some (i,ui)) (u:=some (j,uj)) (st:=none) hs rfl (post_val_or_str ⟨Nat.le_trans (Txt.slice_le z _ _) hz,fin⟩)
variable {a:Expr} {ta:TEd} {pos:Pos}
def rdSlS:En → Option Int → Option Int → Mu → (En → Mu → Prop) → Prop:=fun x l u μ Q=>match x with
  | .d (.str z)=>z.length ≤ 800000 ∧ Q (.d (.str (Txt.slice z l u))) μ
  | _=>False
theorem d_sliceS {lo hi:Option Expr} {p2:Pos} {tl th:TOd} (ha:DE K X a ta) (hl:DO K X lo tl) (hu:DO K X hi th):DE K X (.Subscript a (.Slice lo hi none p2) pos) (dSl rdSlS ta tl th):=by
  refine PE.mono (pe_slice sl_str ha hl hu) fun σ H Q hq9=>?_
  obtain ⟨ρ,μ,Q0,hS,hM,h,cl⟩:=hq9
  refine ⟨ρ,μ,_,hS,hM,h,fun e μ1 v H1 q1 M1 s1 i1=>⟨ρ,μ1,_,hS.same s1,M1,q1,fun l μ2 H2 q2 M2 s2=>⟨ρ,μ2,_,hS.same (s1.trans s2),M2,q2,fun u μ3 H3 q3 M3 s3=>?_⟩⟩⟩
  unfold rdSlS at q3
  split at q3
  · cases i1
    exact ⟨_,rfl,by rw [sizeLine_eq]; have:=q3.1; omega,cl _ _ _ _ q3.2 M3 ((s1.trans s2).trans s3) (.str _)⟩
  · exact q3.elim
def rdIxS:R2d:=fun x y μ Q=>match x,y with
  | .d (.str z),.d (.int i)=>z.length ≤ 800000 ∧ ∃ c,atI (cl z) i = some c ∧ Q (.d (.str ⟨#[c]⟩)) μ
  | _,_=>False
theorem dx_str:IxR X (upR K rdIxS):=by
  refine ix_str.mono fun x y H Q h=>?_
  obtain ⟨μ,e,e',Q0,M,i1,i2,q,cl⟩:=h
  unfold rdIxS at q
  split at q
  · cases i1; cases i2
    obtain ⟨h1,c,h2,q⟩:=q
    exact ⟨_,_,c,rfl,rfl,by rw [sizeLine_eq]; omega,h2,cl _ μ _ H q M (Same.refl _) (.str _)⟩
  · exact q.elim
def rdInS:R2d:=fun x y μ Q=>match x,y with
  | .d (.str i),.d (.str j)=>Q (.d (.bool (!(Builtin.Str.occurrences j i 0 j.length 1).isEmpty))) μ
  | _,_=>False
theorem do_inS:OpR X (compareOp .In) (upR K rdInS):=op_in_str.mono fun x y H Q h=>by
  obtain ⟨μ,e,e',Q0,M,i1,i2,q,cl⟩:=h
  unfold rdInS at q
  split at q
  · cases i1; cases i2
    exact ⟨_,_,rfl,rfl,cl _ μ _ H q M (Same.refl _) (.bl _)⟩
  · exact q.elim
def rIdx:V → List V → Hp → VK → Prop:=fun x vs H Q=>∃ (z m:Str) (i:Nat) (rest:List Nat),x = .str z ∧ vs = [.str m] ∧ Builtin.Str.occurrences z m 0 z.length 1 = i :: rest ∧ Q (.int i) H
theorem mt_idx:MtR X "str.index" rIdx:=by
  intro pins s σ H x xs v us Q I rx rs h
  obtain ⟨z,m,i,rest,rfl,rfl,ho,q⟩:=h
  obtain ⟨t,rfl⟩:=rx
  obtain ⟨u,rfl,t',rfl⟩:=vals1 rs
  exact call_meets F.slot_str_index (typeIs_str _ _ _) F.entry_str_index (F.args_str_index_2 _ _) (gives_str_index z m t t' i rest ho).meets (show (Made.int i).post (fun v s'=>EP X pins σ Q v s') s from ⟨.int i,H,I.tok _,⟨_,rfl⟩,q⟩)
def dIdx (to:TEd) (tr:TAd):TEd:=fun ρ μ Q=>to ρ μ fun x μ1=>match x with
  | .d (.str z)=>tr ρ μ1 fun es μ2=>match es with
    | [.d (.str m)]=>∃ (i:Nat) (rest:List Nat),Builtin.Str.occurrences z m 0 z.length 1 = i :: rest ∧ Q (.d (.int i)) μ2
    | _=>False
  | _=>False
variable {o e:Expr} {to:TEd} {tr:TAd} {p1:Pos}
theorem d_idx (ho:DE K X o to) (ha:DA K X [e] tr) (hK:X.K = K:=by rfl)
    (h:PE X (.Call (.Attribute o "index" p1) [e] [] pos) (tBM X.K "str" rIdx (up K to) (upA K tr))):DE K X (.Call (.Attribute o "index" p1) [e] [] pos) (dIdx to tr):=by
  subst hK
  refine PE.mono h fun σ H Q hq9=>?_
  obtain ⟨ρ,μ,Q0,hS,hM,h,cl⟩:=hq9
  refine ⟨ρ,μ,_,hS,hM,h,fun x μ1 v H1 q M1 s1 i1=>?_⟩
  split at q
  · rename_i z
    cases i1
    refine ⟨rfl,ρ,μ1,_,hS.same s1,M1,q,fun es μ2 vs H2 q2 M2 s2 i2=>?_⟩
    split at q2
    · rename_i m
      obtain ⟨v,rfl,h1⟩:=pair1 i2
      cases h1
      obtain ⟨i,rest,h1,h2⟩:=q2
      exact ⟨z,m,i,rest,rfl,rfl,h1,cl _ μ2 _ _ h2 M2 (s1.trans s2) (.int _)⟩
    · exact q2.elim
  · exact q.elim
end
theorem cl_slice_to (x:Str) (k:Nat):cl (Txt.slice x none (some (k:Int))) = (cl x).take k:=by
  by_cases h:k ≤ x.length
  · have:=beq_iff_eq.mp (slice_closes_toL (x:=x) (j:=(k:Int)) (by omega) (by omega))
    rw [this]
    show ((x.cps.toList.drop (0:Int).toNat).take ((k:Int) - 0).toNat).toArray.toList = _
    rw [List.toList_toArray]
    show (x.cps.toList.drop 0).take ((k:Int) - 0).toNat = _
    rw [List.drop_zero,show ((k:Int) - 0).toNat = k by omega]
  · rw [PyProof.Rows.slice_to_beyond (by omega)]
    have:=beq_iff_eq.mp (slice_closes_toL (x:=x) (j:=(x.length:Int)) (by omega) (by omega))
    rw [this]
    show ((x.cps.toList.drop (0:Int).toNat).take ((x.length:Int) - 0).toNat).toArray.toList = _
    rw [List.toList_toArray]
    show (x.cps.toList.drop 0).take ((x.length:Int) - 0).toNat = _
    rw [List.drop_zero,show ((x.length:Int) - 0).toNat = x.length by omega,List.take_of_length_le (by rw [← cl_len x]; exact Nat.le_refl _),List.take_of_length_le (by rw [cl_len x]; omega)]
theorem cl_slice_from (x:Str) (k:Nat):cl (Txt.slice x (some (k:Int)) none) = (cl x).drop k:=by
  by_cases h:k ≤ x.length
  · rw [slice_from_eq (b:=(x.length:Int)) (by omega) (by omega) rfl]
    show ((x.cps.toList.drop (k:Int).toNat).take ((x.length:Int) - (k:Int)).toNat).toArray.toList = _
    rw [List.toList_toArray,show (k:Int).toNat = k by omega,show ((x.length:Int) - (k:Int)).toNat = x.length - k by omega]
    exact List.take_of_length_le (by rw [List.length_drop]; have:=cl_len x; unfold cl at this; omega)
  · rw [slice_beyond (by omega),List.drop_of_length_le (by rw [cl_len]; omega)]
    rfl
abbrev ten:Str := "0123456789"
theorem ten_in:∀ c:Fin 128,(!(Builtin.Str.occurrences ten ⟨#[c.val]⟩ 0 ten.length 1).isEmpty) = isDig c.val:=by decide +kernel
theorem ten_ix:∀ c:Fin 10,Builtin.Str.occurrences ten ⟨#[c.val + 48]⟩ 0 ten.length 1 = [c.val]:=by decide +kernel
end L2
namespace K14
open PySem L2
section
variable {P:Program} {w:World} {K:PySem.W.Frag} {mg:Str → Option Value} {base:Heap} {CX:CXT}
def hpD (ps:List Pt):PyData:=.list (ps.map ptD)
def sHeap:SpD:=fun es μ Q=>∃ p:Addr,es = [.m p] ∧ (p,PA0) ∈ μ ∧ ∀ ps:List Pt,ps.length ≤ 8 → (∀ q ∈ ps,NumP q) → Q (.d (hpD ps)) μ
theorem pts_of {n:List PyData}:∀ {ys:List PyData},Paired (fun _ y=>∃ q:Pt,y = ptD q ∧ NumP q) n ys → ∃ ps:List Pt,ys = ps.map ptD ∧ ps.length = n.length ∧ ∀ q ∈ ps,NumP q:=by
  induction n with
  | nil=>intro ys h; cases h; exact ⟨[],rfl,rfl,by simp⟩
  | cons a r ih =>
    intro ys h
    cases h with
    | cons h t =>
      obtain ⟨q,rfl,hq⟩:=h
      obtain ⟨ps,rfl,hl,hp⟩:=ih t
      exact ⟨q :: ps,rfl,by simp [hl],fun z hz=>by
        rcases List.mem_cons.mp hz with rfl | hz
        · exact hq
        · exact hp z hz⟩
theorem sc_heap:FnScope ["_law_pot_here"] ["_law_pot_here"] (defScope s_law_heap):=⟨rfl,rfl,rfl,by decide +kernel,rfl,by decide +kernel,by decide +kernel⟩
theorem ok_heap {f:Addr} {fd:FuncData} (F:Fun K "_law_heap" "_law_heap" s_law_heap f fd) (T:Txt mg) (hX:NoX CX) (O_law_take:Own P w K mg base CX 1 "_law_take" ["_law_pot_here", "_law_many"] (spUp K (sDraw 2147483629))) (O_law_number:Own P w K mg base CX 3 "_law_number" ["_law_pot_here"] (spUp K (sNum 2147483629))):FnOk P w K mg base CX 4 f fd ["_law_pot_here"] (spUp K sHeap):=by
  refine F.okD sc_heap (fun es μ Q hq0=>by obtain ⟨p,e,_⟩:=hq0; subst e; rfl) (fun cdv A outer s H E es μ Q hr hq0=>?_)
  obtain ⟨p,e,hp,k⟩:=hq0
  subst e
  have nd:=sc_heap.nd
  refine ⟨_,(ds_one (ds_ret (d_comp (L:=["_law_k"]) (sc:=defScope s_law_heap) (N:=["_law_pot_here"]) rfl rfl rfl (by decide +kernel) (di_range1 rfl T.range_ (da_cons (d_own O_law_take hX (hr.mono (by decide)) rfl (da_cons (dv 0) (da_cons d_int da_nil))) da_nil)) (fun _ _ _ _ _=>(dg_name (i:=1) (show List.Nodup (["_law_pot_here", "_law_k"]:List Str) from by decide +kernel) rfl (by first | exact Or.inl rfl | exact Or.inr rfl))) (fun _ _ _ _ _=>dfs_nil) (fun _ _ _ _ _=>(d_tup (da_cons (d_own O_law_number hX (hr.mono (by decide)) rfl (da_cons (dv 0) da_nil)) (da_cons (d_own O_law_number hX (hr.mono (by decide)) rfl (da_cons (dv 0) da_nil)) da_nil))))))),?_⟩
  refine ⟨p,_,rfl,hp,by decide,by decide,fun d d0 d1=>?_⟩
  refine ⟨by omega,by omega,(show d.toNat ≤ 4000 by omega),compN (fun _ y=>∃ q:Pt,y = ptD q ∧ NumP q) Src.r (fun x hx R h=>?_) fun ys hy=>?_⟩
  · exact ⟨p,rfl,hp,fun n hn=>⟨p,rfl,hp,fun m hm=>⟨zl2,h _ ⟨(n,m),rfl,hn,hm⟩⟩⟩⟩
  · obtain ⟨ps,rfl,hl,hb⟩:=pts_of hy
    refine k ps ?_ hb
    rw [hl]; unfold rng; rw [List.length_map,List.length_range]
    omega
def nOf (p q:Pt):Pt:=nrm (q.2 - p.2) (p.1 - q.1)
def thr (p q:Pt):List Int:=[(nOf p q).1,(nOf p q).2,(nOf p q).1 * p.1 + (nOf p q).2 * p.2]
abbrev B40:Nat:=10000000000000000000000000000000000000000
def sGcd:SpD:=fun es μ Q=>∃ a b:Int,es = [.d (.int a),.d (.int b)] ∧ Q (.d (.int (Int.gcd a b:Nat))) μ
def sLead:SpD:=fun es μ Q=>∃ a b:Int,es = [.d (.int a),.d (.int b)] ∧ (a ≠ 0 ∨ b ≠ 0) ∧ a.natAbs ≤ B40 ∧ b.natAbs ≤ B40 ∧ Q (.d (ptD (nrm a b))) μ
def sThr:SpD:=fun es μ Q=>∃ p q:Pt,es = [.d (ptD p),.d (ptD q)] ∧ NumP p ∧ NumP q ∧ p ≠ q ∧ Q (.d (tupD (thr p q))) μ
theorem dif_ne {p q:Pt} (h:p ≠ q):q.2 - p.2 ≠ 0 ∨ p.1 - q.1 ≠ 0:=by
  by_cases z:q.2 - p.2 = 0
  · refine .inr fun z2=>h ?_
    have e1:p.1 = q.1:=by omega
    have e2:p.2 = q.2:=by omega
    exact Prod.ext e1 e2
  · exact .inl z
theorem num_sub {a b:Int} (ha:Num a) (hb:Num b):(a - b).natAbs ≤ 2000000000000000000000000000000:=by
  unfold Num at ha hb
  omega
theorem num_abs {a:Int} (ha:Num a):a.natAbs ≤ 1000000000000000000000000000000:=by
  unfold Num at ha
  omega
theorem nOf_bd {p q:Pt} (hp:NumP p) (hq:NumP q) (h:p ≠ q):Bd 2000000000000000000000000000000 (nOf p q):=nrm_bd (dif_ne h) (num_sub hq.2 hp.2) (num_sub hp.1 hq.1)
theorem b40:B40 < 2 ^ 1000:=by decide +kernel
theorem mul40 {a b:Int} (ha:a.natAbs ≤ B40) (hb:b.natAbs ≤ B40):CMulB a b:=⟨Nat.lt_of_le_of_lt ha b40,Nat.lt_of_le_of_lt hb b40⟩
theorem eqv_pt {p q:Pt}:PyData.eqv (ptD p) (ptD q) = decide (p = q):=by
  obtain ⟨a,b⟩:=p
  obtain ⟨c,d⟩:=q
  simp only [ptD,PyData.eqv,PyData.eqvAll,Prod.mk.injEq]
  by_cases h1:a = c <;> by_cases h2:b = d <;> simp [h1,h2]
theorem sc_cd:FnScope ["one", "other", "divisor", "rest"] ["one", "other"] (defScope scommon_divisor):=⟨rfl,rfl,rfl,by decide +kernel,rfl,by decide +kernel,by decide +kernel⟩
theorem ok_cd {f:Addr} {fd:FuncData} (F:Fun K "common_divisor" "common_divisor" scommon_divisor f fd) (T:Txt mg):FnOk P w K mg base CX 1 f fd ["one", "other"] (spUp K sGcd):=by
  refine F.okD sc_cd (fun es μ Q hq0=>by obtain ⟨a,b,e,_⟩:=hq0; subst e; rfl) (fun cdv A outer s H E es μ Q hr hq0=>?_)
  obtain ⟨a,b,e,k⟩:=hq0
  subst e
  have nd:=sc_cd.nd
  refine ⟨_,(ds_cons (ds_set (i:=2) nd rfl (by first | exact Or.inl rfl | exact Or.inr rfl) (d_callB dc_abs (by rfl) T.abs_ bt_abs (da_cons (dv 0) da_nil)))
      (ds_cons (ds_set (i:=3) nd rfl (by first | exact Or.inl rfl | exact Or.inr rfl) (d_callB dc_abs (by rfl) T.abs_ bt_abs (da_cons (dv 1) da_nil)))
      (ds_cons (ds_while PassesOwn.never (dt_cmp (do_ne hr.units) (dv 3) d_int (nomark _)) (ds_one (ds_par (i:=2) (j:=3) rfl nd rfl rfl (by decide) rfl rfl (da_cons (dv 3) (da_cons (d_op do_mod (dv 2) (dv 3)) da_nil)) rfl)))
      (ds_one (ds_ret (dv 2)))))),?_⟩
  refine ⟨fun m ρ' μ'=>μ' = μ ∧ ∃ f r:Nat,ρ' = [some (.d (.int a)),some (.d (.int b)),some (.d (.int f)),some (.d (.int r))] ∧ m = r ∧ Nat.gcd f r = Int.gcd a b,⟨_,rfl,_,_,rfl,rfl,rfl⟩,?_⟩
  rintro m ρ' μ' ⟨rfl,f,r,rfl,rfl,g⟩
  refine ite2 (fun c=>?_) (fun c=>?_)
  · have hm:m ≠ 0:=by
      rintro rfl
      exact absurd c (by decide)
    refine ⟨(show (0:Int) < (m:Int) by omega),f % m,Nat.mod_lt _ (by omega),Wks.of ⟨rfl,m,f % m,?_,rfl,by rw [gcd_step]; exact g⟩⟩
    rw [Int.natCast_emod]; rfl
  · have:m = 0:=by
      by_cases z:m = 0
      · exact z
      · exact absurd (show (!decide ((m:Int) = 0)) = true by simp; omega) c
    subst this
    rw [Nat.gcd_zero_right] at g
    subst g
    exact k
theorem sc_lead:FnScope ["a", "b", "divisor"] ["a", "b"] (defScope slead):=⟨rfl,rfl,rfl,by decide +kernel,rfl,by decide +kernel,by decide +kernel⟩
theorem ok_lead {f:Addr} {fd:FuncData} (F:Fun K "lead" "lead" slead f fd) (hX:NoX CX) (Ocommon_divisor:Own P w K mg base CX 1 "common_divisor" ["one", "other"] (spUp K sGcd)):FnOk P w K mg base CX 2 f fd ["a", "b"] (spUp K sLead):=by
  refine F.okD sc_lead (fun es μ Q hq0=>by obtain ⟨a,b,e,_⟩:=hq0; subst e; rfl) (fun cdv A outer s H E es μ Q hr hq0=>?_)
  obtain ⟨a,b,e,h0,ha,hb,k⟩:=hq0
  subst e
  have nd:=sc_lead.nd
  have d0:=dvs_ne h0
  have dB:(dvs a b).natAbs ≤ B40:=by rw [dvs_abs]; exact gcd_bound h0 ha hb
  have dC:∀ z,CDivB z (dvs a b):=fun z=>fdiv_big b40 d0 dB
  refine ⟨_,(ds_cons (ds_set (i:=2) nd rfl (by first | exact Or.inl rfl | exact Or.inr rfl) (d_own Ocommon_divisor hX (hr.mono (by decide)) rfl (da_cons (dv 0) (da_cons (dv 1) da_nil))))
      (ds_cons (ds_if (dt_w (dw_or (dt_cmp do_lt (dv 0) d_int (nomark _)) (dw_or1 (dt_w (dw_and (dt_cmp (do_eq hr.units) (dv 0) d_int (nomark _)) (dw_and1 (dt_cmp do_lt (dv 1) d_int (nomark _)))))))) (ds_one (ds_set (i:=2) nd rfl (by first | exact Or.inl rfl | exact Or.inr rfl) (d_un du_neg (dv 2)))) ds_nil)
      (ds_one (ds_ret (d_tup (da_cons (d_op do_fdiv (dv 0) (dv 2)) (da_cons (d_op do_fdiv (dv 1) (dv 2)) da_nil))))))),?_⟩
  refine ⟨a,b,rfl,?_⟩
  refine ite2 (fun c=>?_) (fun c=>?_)
  · have c:a < 0:=of_decide_eq_true c
    refine iteT ?_
    have e:-(Int.gcd a b:Int) = dvs a b:=by unfold dvs; rw [if_pos (.inl c)]
    exact ⟨by rw [e]; exact dC _,by rw [e]; exact dC _,zl2,by rw [e]; exact k⟩
  · have c:¬ a < 0:=fun z=>c (decide_eq_true z)
    refine ite2 (fun c2=>?_) (fun c2=>?_)
    · have c2:a = 0:=of_decide_eq_true c2
      refine ite2 (fun c3=>?_) (fun c3=>?_)
      · have c3:b < 0:=of_decide_eq_true c3
        have e:-(Int.gcd a b:Int) = dvs a b:=by unfold dvs; rw [if_pos (.inr ⟨c2,c3⟩)]
        exact ⟨by rw [e]; exact dC _,by rw [e]; exact dC _,zl2,by rw [e]; exact k⟩
      · have c3:¬ b < 0:=fun z=>c3 (decide_eq_true z)
        have e:(Int.gcd a b:Int) = dvs a b:=by unfold dvs; rw [if_neg (by omega)]
        exact ⟨by rw [e]; exact dC _,by rw [e]; exact dC _,zl2,by rw [e]; exact k⟩
    · have c2:¬ a = 0:=fun z=>c2 (decide_eq_true z)
      have e:(Int.gcd a b:Int) = dvs a b:=by unfold dvs; rw [if_neg (by omega)]
      refine iteF ?_
      exact ⟨by rw [e]; exact dC _,by rw [e]; exact dC _,zl2,by rw [e]; exact k⟩
theorem sc_through:FnScope ["one", "other", "x", "y", "a", "b"] ["one", "other"] (defScope sthrough):=⟨rfl,rfl,rfl,by decide +kernel,rfl,by decide +kernel,by decide +kernel⟩
theorem ok_through {f:Addr} {fd:FuncData} (F:Fun K "through" "through" sthrough f fd) (hX:NoX CX) (Olead:Own P w K mg base CX 2 "lead" ["a", "b"] (spUp K sLead)):FnOk P w K mg base CX 3 f fd ["one", "other"] (spUp K sThr):=by
  refine F.okD sc_through (fun es μ Q hq0=>by obtain ⟨p,q,e,_⟩:=hq0; subst e; rfl) (fun cdv A outer s H E es μ Q hr hq0=>?_)
  obtain ⟨p,q,e,hp,hq,h0,k⟩:=hq0
  subst e
  have nd:=sc_through.nd
  refine ⟨_,(ds_cons (ds_if (dt_cmp (do_eq hr.units) (dv 0) (dv 1) (nomark _)) (ds_one ds_never) ds_nil)
      (ds_cons (ds_asg (dv 0) (dg_tup (n:=2) rfl (dgs_cons (dg_name (i:=2) nd rfl (by first | exact Or.inl rfl | exact Or.inr rfl)) (dgs_cons (dg_name (i:=3) nd rfl (by first | exact Or.inl rfl | exact Or.inr rfl)) dgs_nil))))
      (ds_cons (ds_asg (d_own Olead hX (hr.mono (by decide)) rfl (da_cons (d_op do_sub (d_ix dx_seq (dv 1) d_int (fun _ _=>rfl)) (dv 3)) (da_cons (d_op do_sub (dv 2) (d_ix dx_seq (dv 1) d_int (fun _ _=>rfl))) da_nil))) (dg_tup (n:=2) rfl (dgs_cons (dg_name (i:=4) nd rfl (by first | exact Or.inl rfl | exact Or.inr rfl)) (dgs_cons (dg_name (i:=5) nd rfl (by first | exact Or.inl rfl | exact Or.inr rfl)) dgs_nil))))
      (ds_one (ds_ret (d_tup (da_cons (dv 4) (da_cons (dv 5) (da_cons (d_op do_add (d_op do_mul (dv 4) (dv 2)) (d_op do_mul (dv 5) (dv 3))) da_nil))))))))),?_⟩
  have hb:=nOf_bd hp hq h0
  have h1:=num_sub hq.2 hp.2
  have h2:=num_sub hp.1 hq.1
  have h3:=num_abs hp.1
  have h4:=num_abs hp.2
  refine ⟨_,_,.d _,.d _,shaped_pt p,shaped_pt q,ite2 (fun c=>?_) (fun c=>?_)⟩
  · have c:PyData.eqv (ptD p) (ptD q) = true:=c
    rw [eqv_pt] at c
    exact absurd (of_decide_eq_true c) h0
  refine ⟨rfl,_,rfl,_,rfl,_,_,rfl,dif_ne h0,?_,?_,rfl,?_⟩
  · exact Nat.le_trans h1 (by decide)
  · exact Nat.le_trans h2 (by decide)
  · refine ⟨mul40 (Nat.le_trans hb.1 (by decide)) (Nat.le_trans h3 (by decide)),mul40 (Nat.le_trans hb.2 (by decide)) (Nat.le_trans h4 (by decide)),zl3,k⟩
theorem sc_dv:FnScope ["_law_one", "_law_other", "_law_found", "_law_rest"] ["_law_one", "_law_other"] (defScope s_law_divisor):=⟨rfl,rfl,rfl,by decide +kernel,rfl,by decide +kernel,by decide +kernel⟩
theorem ok_dv {f:Addr} {fd:FuncData} (F:Fun K "_law_divisor" "_law_divisor" s_law_divisor f fd) (T:Txt mg):FnOk P w K mg base CX 1 f fd ["_law_one", "_law_other"] (spUp K sGcd):=by
  refine F.okD sc_dv (fun es μ Q hq0=>by obtain ⟨a,b,e,_⟩:=hq0; subst e; rfl) (fun cdv A outer s H E es μ Q hr hq0=>?_)
  obtain ⟨a,b,e,k⟩:=hq0
  subst e
  have nd:=sc_dv.nd
  refine ⟨_,(ds_cons (ds_set (i:=2) nd rfl (by first | exact Or.inl rfl | exact Or.inr rfl) (d_callB (dc_max rfl) (by rfl) T.max_ bt_max (da_cons (d_callB dc_abs (by rfl) T.abs_ bt_abs (da_cons (dv 0) da_nil)) (da_cons (d_callB dc_abs (by rfl) T.abs_ bt_abs (da_cons (dv 1) da_nil)) da_nil))))
      (ds_cons (ds_set (i:=3) nd rfl (by first | exact Or.inl rfl | exact Or.inr rfl) (d_callB (dc_min rfl) (by rfl) T.min_ bt_min (da_cons (d_callB dc_abs (by rfl) T.abs_ bt_abs (da_cons (dv 0) da_nil)) (da_cons (d_callB dc_abs (by rfl) T.abs_ bt_abs (da_cons (dv 1) da_nil)) da_nil))))
      (ds_cons (ds_while PassesOwn.never (dt_cmp (do_ne hr.units) (dv 3) d_int (nomark _)) (ds_one (ds_par (i:=2) (j:=3) rfl nd rfl rfl (by decide) rfl rfl (da_cons (dv 3) (da_cons (d_op do_mod (dv 2) (dv 3)) da_nil)) rfl)))
      (ds_one (ds_ret (dv 2)))))),?_⟩
  obtain ⟨f0,r0,e1,e2,g0⟩:∃ f r:Nat,(if ((a.natAbs:Nat):Int) < ((b.natAbs:Nat):Int) then ((b.natAbs:Nat):Int) else ((a.natAbs:Nat):Int)) = (f:Int) ∧ (if ((b.natAbs:Nat):Int) < ((a.natAbs:Nat):Int) then ((b.natAbs:Nat):Int) else ((a.natAbs:Nat):Int)) = (r:Int) ∧ Nat.gcd f r = Int.gcd a b:=by
    by_cases c:((a.natAbs:Nat):Int) < ((b.natAbs:Nat):Int)
    · exact ⟨b.natAbs,a.natAbs,by rw [if_pos c],by rw [if_neg (by omega)],Nat.gcd_comm _ _⟩
    · by_cases c2:((b.natAbs:Nat):Int) < ((a.natAbs:Nat):Int)
      · exact ⟨a.natAbs,b.natAbs,by rw [if_neg c],by rw [if_pos c2],rfl⟩
      · exact ⟨a.natAbs,b.natAbs,by rw [if_neg c],by rw [if_neg c2]; omega,rfl⟩
  refine ⟨fun m ρ' μ'=>μ' = μ ∧ ∃ f r:Nat,ρ' = [some (.d (.int a)),some (.d (.int b)),some (.d (.int f)),some (.d (.int r))] ∧ m = r ∧ Nat.gcd f r = Int.gcd a b,⟨r0,rfl,f0,r0,by rw [← e1,← e2]; rfl,rfl,g0⟩,?_⟩
  rintro m ρ' μ' ⟨rfl,f,r,rfl,rfl,g⟩
  refine ite2 (fun c=>?_) (fun c=>?_)
  · have hm:m ≠ 0:=by
      rintro rfl
      exact absurd c (by decide)
    refine ⟨(show (0:Int) < (m:Int) by omega),f % m,Nat.mod_lt _ (by omega),Wks.of ⟨rfl,m,f % m,?_,rfl,by rw [gcd_step]; exact g⟩⟩
    rw [Int.natCast_emod]; rfl
  · have:m = 0:=by
      by_cases z:m = 0
      · exact z
      · exact absurd (show (!decide ((m:Int) = 0)) = true by simp; omega) c
    subst this
    rw [Nat.gcd_zero_right] at g
    subst g
    exact k
end
end K14
namespace K14
open PySem L2
section
variable {P:Program} {w:World} {K:PySem.W.Frag} {mg:Str → Option Value} {base:Heap} {CX:CXT}
def few (n:Int):Bool:=decide (n.natAbs < 1000000000000000000000000000000)
def isPt:List Int → Bool
  | [a,b]=>few a && few b
  | _=>false
def isLd (a b:Int):Bool:=decide (Int.gcd a b = 1) && (decide (0 < a) || (decide (a = 0) && decide (b = 1)))
def isLn:List Int → Bool
  | [a,b,_]=>isLd a b
  | _=>false
def tpI (ns:List Int):PyData:=.tuple (ns.map .int)
def sIsW:SpD:=fun es μ Q=>∃ n:Int,es = [.d (.int n)] ∧ Q (.d (.bool true)) μ
theorem sc_is_whole:FnScope ["thing"] ["thing"] (defScope sis_whole):=⟨rfl,rfl,rfl,by decide +kernel,rfl,by decide +kernel,by decide +kernel⟩
theorem ok_is_whole {f:Addr} {fd:FuncData} (F:Fun K "is_whole" "is_whole" sis_whole f fd) (T:Txt mg):FnOk P w K mg base CX 1 f fd ["thing"] (spUp K sIsW):=by
  refine F.okD sc_is_whole (fun es μ Q hq0=>by obtain ⟨n,e,_⟩:=hq0; subst e; rfl) (fun cdv A outer s H E es μ Q hr hq0=>?_)
  obtain ⟨n,e,k⟩:=hq0
  subst e
  have nd:=sc_is_whole.nd
  refine ⟨_,(ds_one (ds_ret (d_and (d_callB dc_isi (by rfl) T.isinstance_ bt_isinstance (da_cons (dv 0) (da_cons (d_ty rfl T.int_ bt_int) da_nil))) (d_one (d_not (d_callB dc_isi (by rfl) T.isinstance_ bt_isinstance (da_cons (dv 0) (da_cons (d_ty rfl T.bool_ bt_bool) da_nil)))))))),?_⟩
  exact ⟨by decide,by decide,k⟩
def sAreW:SpD:=fun es μ Q=>∃ ns:List Int,es = [.d (tpI ns)] ∧ ns.length ≤ 4000 ∧ Q (.d (.bool true)) μ
theorem sc_are_whole:FnScope ["things"] ["things"] (defScope sare_whole):=⟨rfl,rfl,rfl,by decide +kernel,rfl,by decide +kernel,by decide +kernel⟩
theorem ok_are_whole {f:Addr} {fd:FuncData} (F:Fun K "are_whole" "are_whole" sare_whole f fd) (T:Txt mg) (hX:NoX CX) (Ois_whole:Own P w K mg base CX 1 "is_whole" ["thing"] (spUp K sIsW)):FnOk P w K mg base CX 2 f fd ["things"] (spUp K sAreW):=by
  refine F.okD sc_are_whole (fun es μ Q hq0=>by obtain ⟨n,e,_⟩:=hq0; subst e; rfl) (fun cdv A outer s H E es μ Q hr hq0=>?_)
  obtain ⟨ns,e,hl,k⟩:=hq0
  subst e
  have nd:=sc_are_whole.nd
  refine ⟨_,(ds_one (ds_ret (d_callB (dc_all rfl) (by rfl) T.all_ bt_all (da_cons (d_comp (L:=["thing"]) (sc:=defScope sare_whole) (N:=["things"]) rfl rfl rfl (by decide +kernel) (di_tup (dv 0)) (fun _ _ _ _ _=>(dg_name (i:=1) (show List.Nodup (["things", "thing"]:List Str) from by decide +kernel) rfl (by first | exact Or.inl rfl | exact Or.inr rfl))) (fun _ _ _ _ _=>dfs_nil) (fun _ _ _ _ _=>(d_own Ois_whole hX (hr.mono (by decide)) rfl (da_cons (dv 1) da_nil)))) da_nil)))),?_⟩
  refine ⟨(show (ns.map PyData.int).length ≤ 4000 by rw [List.length_map]; exact hl),compL (fun _=>.bool true) Src.t (fun x hx R h=>?_) ?_⟩
  · obtain ⟨n,_,rfl⟩:=List.mem_map.mp hx
    exact ⟨n,rfl,h⟩
  · refine ⟨ns.map fun _=>true,by rw [List.map_map,List.map_map]; exact .d _,?_⟩
    have e:(ns.map fun _=>true).all id = true:=by simp
    show Q (.d (.bool ((ns.map fun _=>true).all id))) μ
    rw [e]
    exact k
def sFew:SpD:=fun es μ Q=>∃ n:Int,es = [.d (.int n)] ∧ Q (.d (.bool (few n))) μ
theorem e30':(10:Int) ^ (30:Int).toNat = 1000000000000000000000000000000:=by decide +kernel
theorem sc_few:FnScope ["number"] ["number"] (defScope shas_few_figures):=⟨rfl,rfl,rfl,by decide +kernel,rfl,by decide +kernel,by decide +kernel⟩
theorem ok_few {f:Addr} {fd:FuncData} (F:Fun K "has_few_figures" "has_few_figures" shas_few_figures f fd) (T:Txt mg):FnOk P w K mg base CX 1 f fd ["number"] (spUp K sFew):=by
  refine F.okD sc_few (fun es μ Q hq0=>by obtain ⟨n,e,_⟩:=hq0; subst e; rfl) (fun cdv A outer s H E es μ Q hr hq0=>?_)
  obtain ⟨n,e,k⟩:=hq0
  subst e
  have nd:=sc_few.nd
  refine ⟨_,(ds_one (ds_ret (d_cmp do_lt (d_callB dc_abs (by rfl) T.abs_ bt_abs (da_cons (dv 0) da_nil)) (d_op do_pow d_int d_int) (nomark _)))),?_⟩
  refine ⟨⟨by decide,by decide,by decide⟩,?_⟩
  change Q (.d (.bool (decide ((n.natAbs:Int) < (10:Int) ^ (30:Int).toNat)))) μ
  have e:decide ((n.natAbs:Int) < (10:Int) ^ (30:Int).toNat) = few n:=by
    rw [e30']; unfold few
    by_cases h:n.natAbs < 1000000000000000000000000000000
    · rw [decide_eq_true h,decide_eq_true (by omega)]
    · rw [decide_eq_false h,decide_eq_false (by omega)]
  rw [e]
  exact k
def sIsPt:SpD:=fun es μ Q=>∃ ns:List Int,es = [.d (tpI ns)] ∧ ns.length ≤ 4000 ∧ Q (.d (.bool (isPt ns))) μ
theorem sc_is_point:FnScope ["thing"] ["thing"] (defScope sis_point):=⟨rfl,rfl,rfl,by decide +kernel,rfl,by decide +kernel,by decide +kernel⟩
theorem ok_is_point {f:Addr} {fd:FuncData} (F:Fun K "is_point" "is_point" sis_point f fd) (T:Txt mg) (hX:NoX CX) (Oare_whole:Own P w K mg base CX 2 "are_whole" ["things"] (spUp K sAreW)) (Ohas_few_figures:Own P w K mg base CX 1 "has_few_figures" ["number"] (spUp K sFew)):FnOk P w K mg base CX 3 f fd ["thing"] (spUp K sIsPt):=by
  refine F.okD sc_is_point (fun es μ Q hq0=>by obtain ⟨x,e,_⟩:=hq0; subst e; rfl) (fun cdv A outer s H E es μ Q hr hq0=>?_)
  obtain ⟨ns,e,hl,k⟩:=hq0
  subst e
  have nd:=sc_is_point.nd
  refine ⟨_,(ds_cons (ds_if (dt_w (dw_or (dt_not (dt_val (d_callB dc_isi (by rfl) T.isinstance_ bt_isinstance (da_cons (dv 0) (da_cons (d_ty rfl T.tuple_ bt_tuple) da_nil))))) (dw_or (dt_cmp (do_ne hr.units) (d_callB dc_len (by rfl) T.len_ bt_len (da_cons (dv 0) da_nil)) d_int (nomark _)) (dw_or1 (dt_not (dt_val (d_own Oare_whole hX (hr.mono (by decide)) rfl (da_cons (dv 0) da_nil)))))))) (ds_one (ds_ret d_bl)) ds_nil)
      (ds_one (ds_ret (d_and (d_own Ohas_few_figures hX (hr.mono (by decide)) rfl (da_cons (d_ix dx_seq (dv 0) d_int (fun _ _=>rfl)) da_nil)) (d_one (d_own Ohas_few_figures hX (hr.mono (by decide)) rfl (da_cons (d_ix dx_seq (dv 0) d_int (fun _ _=>rfl)) da_nil))))))),?_⟩
  refine ⟨by decide,_,.t _,?_⟩
  match ns,hl,k with
  | [],hl,k=>exact k
  | [a],hl,k=>exact k
  | a :: b :: c :: r,hl,k =>
    exact k
  | [a,b],hl,k =>
    refine ⟨[a,b],rfl,zl2,⟨_,rfl,a,rfl,?_⟩⟩
    show (if few a = true then _ else _)
    have e:isPt [a,b] = (few a && few b):=rfl
    rw [e] at k
    refine ite2 (fun h=>?_) (fun h=>?_)
    · rw [h] at k
      exact ⟨_,rfl,b,rfl,k⟩
    · rw [eq_false_of_ne_true h] at k
      exact k
def sIsL:SpD:=fun es μ Q=>∃ a b:Int,es = [.d (.int a),.d (.int b)] ∧ Q (.d (.bool (isLd a b))) μ
theorem sc_is_lead:FnScope ["a", "b"] ["a", "b"] (defScope sis_lead):=⟨rfl,rfl,rfl,by decide +kernel,rfl,by decide +kernel,by decide +kernel⟩
theorem ok_is_lead {f:Addr} {fd:FuncData} (F:Fun K "is_lead" "is_lead" sis_lead f fd) (hX:NoX CX) (Ocommon_divisor:Own P w K mg base CX 1 "common_divisor" ["one", "other"] (spUp K sGcd)):FnOk P w K mg base CX 2 f fd ["a", "b"] (spUp K sIsL):=by
  refine F.okD sc_is_lead (fun es μ Q hq0=>by obtain ⟨x,y,e,_⟩:=hq0; subst e; rfl) (fun cdv A outer s H E es μ Q hr hq0=>?_)
  obtain ⟨a,b,e,k⟩:=hq0
  subst e
  have nd:=sc_is_lead.nd
  refine ⟨_,(ds_one (ds_ret (d_and (d_cmp (do_eq hr.units) (d_own Ocommon_divisor hX (hr.mono (by decide)) rfl (da_cons (dv 0) (da_cons (dv 1) da_nil))) d_int (nomark _)) (d_one (d_or (d_cmp do_gt (dv 0) d_int (nomark _)) (d_one (d_and (d_cmp (do_eq hr.units) (dv 0) d_int (nomark _)) (d_one (d_cmp (do_eq hr.units) (dv 1) d_int (nomark _)))))))))),?_⟩
  refine ⟨_,_,rfl,?_⟩
  have ei:decide (((Int.gcd a b:Nat):Int) = 1) = decide (Int.gcd a b = 1):=by
    by_cases h:Int.gcd a b = 1
    · rw [decide_eq_true h,decide_eq_true (by omega)]
    · rw [decide_eq_false h,decide_eq_false (by omega)]
  show (if decide (((Int.gcd a b:Nat):Int) = 1) = true then _ else _)
  rw [ei]
  unfold isLd at k
  refine ite2 (fun h=>?_) (fun h=>?_)
  · rw [h,Bool.true_and] at k
    show (if decide (0 < a) = true then _ else _)
    refine ite2 (fun h=>?_) (fun h=>?_)
    · rw [h,Bool.true_or] at k
      exact h ▸ k
    · rw [eq_false_of_ne_true h,Bool.false_or] at k
      show (if decide (a = 0) = true then _ else _)
      refine ite2 (fun h=>?_) (fun h=>?_)
      · rw [h,Bool.true_and] at k
        exact k
      · rw [eq_false_of_ne_true h] at k
        exact k
  · rw [eq_false_of_ne_true h] at k
    exact k
def sIsLn:SpD:=fun es μ Q=>∃ ns:List Int,es = [.d (tpI ns)] ∧ ns.length ≤ 4000 ∧ Q (.d (.bool (isLn ns))) μ
theorem sc_is_line:FnScope ["thing"] ["thing"] (defScope sis_line):=⟨rfl,rfl,rfl,by decide +kernel,rfl,by decide +kernel,by decide +kernel⟩
theorem ok_is_line {f:Addr} {fd:FuncData} (F:Fun K "is_line" "is_line" sis_line f fd) (T:Txt mg) (hX:NoX CX) (Oare_whole:Own P w K mg base CX 2 "are_whole" ["things"] (spUp K sAreW)) (Ois_lead:Own P w K mg base CX 2 "is_lead" ["a", "b"] (spUp K sIsL)):FnOk P w K mg base CX 3 f fd ["thing"] (spUp K sIsLn):=by
  refine F.okD sc_is_line (fun es μ Q hq0=>by obtain ⟨x,e,_⟩:=hq0; subst e; rfl) (fun cdv A outer s H E es μ Q hr hq0=>?_)
  obtain ⟨ns,e,hl,k⟩:=hq0
  subst e
  have nd:=sc_is_line.nd
  refine ⟨_,(ds_cons (ds_if (dt_w (dw_or (dt_not (dt_val (d_callB dc_isi (by rfl) T.isinstance_ bt_isinstance (da_cons (dv 0) (da_cons (d_ty rfl T.tuple_ bt_tuple) da_nil))))) (dw_or (dt_cmp (do_ne hr.units) (d_callB dc_len (by rfl) T.len_ bt_len (da_cons (dv 0) da_nil)) d_int (nomark _)) (dw_or1 (dt_not (dt_val (d_own Oare_whole hX (hr.mono (by decide)) rfl (da_cons (dv 0) da_nil)))))))) (ds_one (ds_ret d_bl)) ds_nil)
      (ds_one (ds_ret (d_own Ois_lead hX (hr.mono (by decide)) rfl (da_cons (d_ix dx_seq (dv 0) d_int (fun _ _=>rfl)) (da_cons (d_ix dx_seq (dv 0) d_int (fun _ _=>rfl)) da_nil)))))),?_⟩
  refine ⟨by decide,_,.t _,?_⟩
  match ns,hl,k with
  | [],hl,k=>exact k
  | [a],hl,k=>exact k
  | [a,b],hl,k=>exact k
  | a :: b :: c :: d :: r,hl,k =>
    exact k
  | [a,b,c],hl,k =>
    exact ⟨[a,b,c],rfl,zl3,⟨_,rfl,_,rfl,a,b,rfl,k⟩⟩
end
end K14
namespace L2
open PySem PySem.Spec PyProof.Rows
section
variable {P:Program} {w:World} {K:PySem.W.Frag} {mg:Str → Option Value} {base:Heap} {CX:CXT} {k:Nat} {C0:Addr} {pre:List En → Mu → Prop}
def spLack (K:PySem.W.Frag) (C0:Addr) (pre:List En → Mu → Prop):Sp:=fun vs H Q E=>∃ μ es,RelM K μ H ∧ Paired (IsE K μ H) vs es ∧ pre es μ ∧ ∀ H',RelM K μ H' → Same (mask μ H) (mask μ H') → E (.ref C0) none H'
theorem lack_at {tr:TAd} {ρ:Rho} {μ:Mu} {σ:St} {H:Hp} {Q:VK} {E:XK} (hS:RelS K ρ μ σ H) (M:RelM K μ H) (ht:tr ρ μ fun es μ'=>μ' = μ ∧ pre es μ) (kE:∀ H',RelM K μ H' → Same (mask μ H) (mask μ H') → E (.ref C0) none H'):upA K tr σ H fun vs H2=>spLack K C0 pre (vs ++ []) H2 Q E:=by
  refine ⟨ρ,μ,_,hS,M,ht,?_⟩
  rintro es μ' vs H' ⟨rfl,hp⟩ M' s' i'
  exact ⟨_,es,M',by rw [List.append_nil]; exact i',hp,fun H2 M2 s2=>kE H2 M2 (s'.trans s2)⟩
theorem upT_then {tt:TTd} {ρ:Rho} {μ:Mu} {σ:St} {H:Hp} {Q:Bool → Hp → Prop} (b0:Bool) (hS:RelS K ρ μ σ H) (M:RelM K μ H) (ht:tt ρ μ fun b μ'=>μ' = μ ∧ b = b0) (kk:∀ H',RelM K μ H' → Same (mask μ H) (mask μ H') → Q b0 H'):upT K tt σ H Q:=by
  refine ⟨ρ,μ,_,hS,M,ht,?_⟩
  rintro b μ' H' ⟨rfl,rfl⟩ M' s'
  exact kk H' M' s'
theorem relS_of {μ:Mu} {vs:List V} {es:List En} {H:Hp} (n:Nat) (h:Paired (IsE K μ H) vs es):RelS K (es.map some ++ List.replicate n none) μ (vs.map some ++ List.replicate n none) H:=by
  have:=Paired.mapSome (K:=K) h (vs.length + n) (es.length + n) (by lia)
  simpa using this
end
section
variable {P:Program} {w:World} {K:PySem.W.Frag} {mg:Str → Option Value} {base:Heap} {CX:CXT} {x qual:Str} {st:Stmt} {f:Addr} {fd:FuncData} {N ps:List Str} {k:Nat} {C0:Addr} {pre:List En → Mu → Prop}
theorem start_is {vs:List V} {es:List En} {μ:Mu} {H:Hp} (hp:Paired (IsE K μ H) vs es):RelS K (es.map some ++ List.replicate (N.length - es.length) none) μ (start N vs) H:=by
  have e:vs.length = es.length:=PySem.Paired.length hp
  have:start N vs = vs.map some ++ List.replicate (N.length - es.length) none:=by rw [← e]; rfl
  rw [this]
  exact relS_of (K:=K) _ hp
theorem Fun.okL (F:Fun K x qual st f fd)
    (hbody:∀ (nd:N.Nodup) (cdv:Value) (A:Around) (outer:List Env) (s:Shared) (H:Hp) (E:XK) (es:List En) (μ:Mu) (vs:List V) (Q:VK),Room k (A.deeper (envOfC qual (defScope st) s.heap.objs.size f cdv)) → RelM K μ H → RelS K (es.map some ++ List.replicate (N.length - es.length) none) μ (start N vs) H → (∀ H',RelM K μ H' → Same (mask μ H) (mask μ H') → E (.ref C0) none H') → pre es μ →
      ∃ t,PSs (cxOf CX P w K mg base N qual (defScope st) f cdv A outer s H E) (defBody st) t ∧ t { nx:=fun _ H'=>Q .non H',rt:=Q } (start N vs) H)
    (S:FnScope N ps (defScope st):=by exact ⟨rfl,rfl,rfl,by decide +kernel,rfl,by decide +kernel,by decide +kernel⟩)
    (len:∀ es μ,pre es μ → es.length = ps.length:=by intro es μ h; repeat first | (obtain ⟨e,_⟩:=h; subst e; rfl) | obtain ⟨_,h⟩:=h):FnOk P w K mg base CX (k + 1) f fd ps (spLack K C0 pre) :=
  okX F S (fun vs H Q E ⟨μ,es,M,hp,h,_⟩=>(PySem.Paired.length hp).trans (len es μ h)) fun cdv A outer s H vs Q E hr ⟨μ,es,M,hp,h,kE⟩=>hbody S.nd cdv A outer s H E es μ vs Q hr M (start_is hp) kE h
theorem Fun.okV {sp:SpD} (F:Fun K x qual st f fd)
    (hbody:∀ (nd:N.Nodup) (cdv:Value) (A:Around) (outer:List Env) (s:Shared) (H:Hp) (E:XK) (es:List En) (μ:Mu) (vs:List V) (Q0:En → Mu → Prop) (Q:VK),Room k (A.deeper (envOfC qual (defScope st) s.heap.objs.size f cdv)) → RelM K μ H → RelS K (es.map some ++ List.replicate (N.length - es.length) none) μ (start N vs) H → Cl K μ H Q0 Q → sp es μ Q0 →
      ∃ t,PSs (cxOf CX P w K mg base N qual (defScope st) f cdv A outer s H E).nox (defBody st) t ∧ t { nx:=fun _ H'=>Q .non H',rt:=Q } (start N vs) H)
    (S:FnScope N ps (defScope st):=by exact ⟨rfl,rfl,rfl,by decide +kernel,rfl,by decide +kernel,by decide +kernel⟩)
    (len:∀ es μ Q,sp es μ Q → es.length = ps.length:=by intro es μ Q h; repeat first | (obtain ⟨e,_⟩:=h; subst e; rfl) | obtain ⟨_,h⟩:=h):FnOk P w K mg base CX (k + 1) f fd ps (spUp K sp) :=
  F.okG S (fun vs H Q E ⟨μ,es,Q0,M,hp,h,_⟩=>(PySem.Paired.length hp).trans (len es μ Q0 h)) fun cdv A outer s H vs Q E hr ⟨μ,es,Q0,M,hp,h,cl⟩=>hbody S.nd cdv A outer s H E es μ vs Q0 Q hr M (start_is hp) cl h
end
section
variable {K:PySem.W.Frag}
theorem upS_then {t:TSd} {ρ ρ0:Rho} {μ:Mu} {σ:St} {H:Hp} {D:Ends} (hS:RelS K ρ μ σ H) (M:RelM K μ H) (ht:t { nx:=fun ρ' μ'=>ρ' = ρ0 ∧ μ' = μ,rt:=fun _ _=>False } ρ μ) (kk:∀ σ' H',RelS K ρ0 μ σ' H' → RelM K μ H' → Same (mask μ H) (mask μ H') → D.nx σ' H'):upS K t D σ H:=by
  refine ⟨ρ,μ,_,hS,M,ht,?_,fun _ _ _ _ h=>h.elim,fun _ _ _ _ h=>h.elim,fun _ _ _ _ h=>h.elim⟩
  rintro ρ' μ' σ' H' ⟨rfl,rfl⟩ S' M' s'
  exact kk σ' H' S' M' s'
end
end L2
namespace K14
open PySem L2
structure TxtC (K:PySem.W.Frag) (mg:Str → Option Value) (CN:Addr):Prop where
  cls_NoText:mg "NoText" = some (.ref CN)
  exc:PySem.W.excIn K CN bmV "ValueError.__new__" = true
  mN:PySem.W.exmOne K (.ref CN) (.ref CN) = some true
  ValueError_:mg "ValueError" = none
  mV:PySem.W.exmOne K (.type "ValueError") (.type "ValueError") = some true
section
variable {P:Program} {w:World} {K:PySem.W.Frag} {mg:Str → Option Value} {base:Heap} {CX:CXT}
variable {CN:Addr}
def lnK (l:Ln):List Int:=[l.1.1,l.1.2,l.2]
def lnD (l:Ln):PyData:=tupD (lnK l)
theorem num62 {n:Int} (h:Num n):n.natAbs < 10 ^ 62:=by
  have:n.natAbs < 1000000000000000000000000000000:=by obtain ⟨a,b⟩:=h; omega
  exact Nat.lt_of_lt_of_le this (by decide +kernel)
theorem num30 {n:Int} (h:Num n):n.natAbs < 1000000000000000000000000000000:=by obtain ⟨a,b⟩:=h; omega
def L62 (l:Ln):Prop:=l.1.1.natAbs < 10 ^ 62 ∧ l.1.2.natAbs < 10 ^ 62 ∧ l.2.natAbs < 10 ^ 62
def sWH:SpD:=fun es μ Q=>∃ (e:En) (ps:List Pt),es = [e] ∧ LstOf μ e (ps.map ptD) ∧ ps.length ≤ 40 ∧ (∀ q ∈ ps,NumP q) ∧ Q (.d (.str (wH ps))) μ
theorem wH_sum {ps:List Pt} (hl:ps.length ≤ 40) (hb:∀ q ∈ ps,NumP q):((ps.map wP).map (·.length)).sum + (ps.map wP).length * bk.length ≤ 800000:=by
  have:∀ {qs:List Pt},(∀ q ∈ qs,NumP q) → ((qs.map wP).map (·.length)).sum ≤ qs.length * 127:=by
    intro qs h
    induction qs with
    | nil=>simp
    | cons q r ih =>
      have h1:=wP_len (num62 (h q (by simp)).1) (num62 (h q (by simp)).2)
      have h2:=ih fun z hz=>h z (List.mem_cons_of_mem _ hz)
      simp only [List.map_cons,List.sum_cons,List.length_cons]; omega
  have h1:=this hb
  have h2:bk.length = 1:=by decide +kernel
  rw [List.length_map,h2]; omega
theorem sc_write_heap:FnScope ["heap"] ["heap"] (defScope swrite_heap):=⟨rfl,rfl,rfl,by decide +kernel,rfl,by decide +kernel,by decide +kernel⟩
theorem ok_write_heap {f:Addr} {fd:FuncData} (F:Fun K "write_heap" "write_heap" swrite_heap f fd)  : FnOk P w K mg base CX 1 f fd ["heap"] (spUp K sWH):=by
  refine F.okD sc_write_heap (fun es μ Q hq0=>by obtain ⟨e,ps,z,_⟩:=hq0; subst z; rfl) (fun cdv A outer s H E es μ Q hr hq0=>?_)
  obtain ⟨e,ps,z,hl,hn,hb,k⟩:=hq0
  subst z
  have nd:=sc_write_heap.nd
  refine ⟨_,(ds_one (ds_ret (d_join d_str (da_cons (d_comp (L:=["x", "y"]) (sc:=defScope swrite_heap) (N:=["heap"]) rfl rfl rfl (by decide +kernel) (di_list (dv 0)) (fun _ _ _ _ _=>(dg_tup (n:=2) rfl (dgs_cons (dg_name (i:=1) (show List.Nodup (["heap", "x", "y"]:List Str) from by decide +kernel) rfl (by first | exact Or.inl rfl | exact Or.inr rfl)) (dgs_cons (dg_name (i:=2) (show List.Nodup (["heap", "x", "y"]:List Str) from by decide +kernel) rfl (by first | exact Or.inl rfl | exact Or.inr rfl)) dgs_nil)))) (fun _ _ _ _ _=>dfs_nil) (fun _ _ _ _ _=>(d_fstr (dj_cons (d_fmt (dv 1)) (dj_cons d_str (dj_cons (d_fmt (dv 2)) dj_nil)))))) da_nil) (h:=pe_bm PySem.F.plainAttrs_str PySem.F.slot_str_join PySem.F.type_str_join mt_joinX d_str (da_cons (d_comp (L:=["x", "y"]) (sc:=defScope swrite_heap) (N:=["heap"]) rfl rfl rfl (by decide +kernel) (di_list (dv 0)) (fun _ _ _ _ _=>(dg_tup (n:=2) rfl (dgs_cons (dg_name (i:=1) (show List.Nodup (["heap", "x", "y"]:List Str) from by decide +kernel) rfl (by first | exact Or.inl rfl | exact Or.inr rfl)) (dgs_cons (dg_name (i:=2) (show List.Nodup (["heap", "x", "y"]:List Str) from by decide +kernel) rfl (by first | exact Or.inl rfl | exact Or.inr rfl)) dgs_nil)))) (fun _ _ _ _ _=>dfs_nil) (fun _ _ _ _ _=>(d_fstr (dj_cons (d_fmt (dv 1)) (dj_cons d_str (dj_cons (d_fmt (dv 2)) dj_nil)))))) da_nil))))),?_⟩
  refine ⟨_,hl,(show (ps.map ptD).length ≤ 4000 by rw [List.length_map]; omega),comp2L (as:=ps) (h1:=fun q=>.int q.1) (h2:=fun q=>.int q.2) (fun q=>.str (wP q)) (Src.l hl) (fun q hq R h=>?_) ?_⟩
  · have h1:=num62 (hb q hq).1
    have h2:=num62 (hb q hq).2
    have a:(Str.ofString (toString q.1)).length ≤ 63:=sN_63 h1
    have b:(Str.ofString (toString q.2)).length ≤ 63:=sN_63 h2
    have e1:(Str.ofString ",").length = 1:=by decide +kernel
    have e0:Str.empty.length = 0:=rfl
    refine ⟨log_small h1,?_,?_,log_small h2,?_,?_,h⟩
    · rw [len_appS]; omega
    · rw [len_appS,len_appS]; omega
    · rw [len_appS,len_appS,len_appS]; omega
    · rw [len_appS,len_appS,len_appS]; omega
  · exact ⟨ps.map wP,by rw [List.map_map]; exact .d _,wH_sum hn hb,k⟩
def sWL:SpD:=fun es μ Q=>∃ l:Ln,es = [.d (lnD l)] ∧ L62 l ∧ Q (.d (.str (wL l))) μ
theorem sc_write_line:FnScope ["line", "a", "b", "c"] ["line"] (defScope swrite_line):=⟨rfl,rfl,rfl,by decide +kernel,rfl,by decide +kernel,by decide +kernel⟩
theorem ok_write_line {f:Addr} {fd:FuncData} (F:Fun K "write_line" "write_line" swrite_line f fd)  : FnOk P w K mg base CX 1 f fd ["line"] (spUp K sWL):=by
  refine F.okD sc_write_line (fun es μ Q hq0=>by obtain ⟨l,z,_⟩:=hq0; subst z; rfl) (fun cdv A outer s H E es μ Q hr hq0=>?_)
  obtain ⟨l,z,⟨h1,h2,h3⟩,k⟩:=hq0
  subst z
  have nd:=sc_write_line.nd
  refine ⟨_,(ds_cons (ds_asg (dv 0) (dg_tup (n:=3) rfl (dgs_cons (dg_name (i:=1) nd rfl (by first | exact Or.inl rfl | exact Or.inr rfl)) (dgs_cons (dg_name (i:=2) nd rfl (by first | exact Or.inl rfl | exact Or.inr rfl)) (dgs_cons (dg_name (i:=3) nd rfl (by first | exact Or.inl rfl | exact Or.inr rfl)) dgs_nil)))))
      (ds_one (ds_ret (d_fstr (dj_cons (d_fmt (dv 1)) (dj_cons d_str (dj_cons (d_fmt (dv 2)) (dj_cons d_str (dj_cons (d_fmt (dv 3)) dj_nil))))))))),?_⟩
  have a:(Str.ofString (toString l.1.1)).length ≤ 63:=sN_63 h1
  have b:(Str.ofString (toString l.1.2)).length ≤ 63:=sN_63 h2
  have c:(Str.ofString (toString l.2)).length ≤ 63:=sN_63 h3
  have e1:(Str.ofString " ").length = 1:=by decide +kernel
  have e0:Str.empty.length = 0:=rfl
  refine ⟨rfl,log_small h1,?_,?_,log_small h2,?_,?_,log_small h3,?_,?_,k⟩ <;> (simp only [len_appS]; omega)
def sSpl:SpD:=fun es μ Q=>∃ x m:Str,es = [.d (.str x),.d (.str m)] ∧ (m.length == 0) = false ∧ x.length ≤ 800000 ∧ (Txt.split x m).length ≤ 4000 ∧ Q (.d (.list ((Txt.split x m).map .str))) μ
theorem sc_split_text:FnScope ["text", "mark"] ["text", "mark"] (defScope ssplit_text):=⟨rfl,rfl,rfl,by decide +kernel,rfl,by decide +kernel,by decide +kernel⟩
theorem ok_split_text {f:Addr} {fd:FuncData} (F:Fun K "split_text" "split_text" ssplit_text f fd) (T:Txt mg):FnOk P w K mg base CX 1 f fd ["text", "mark"] (spUp K sSpl):=by
  refine F.okD sc_split_text (fun es μ Q hq0=>by obtain ⟨x,m,z,_⟩:=hq0; subst z; rfl) (fun cdv A outer s H E es μ Q hr hq0=>?_)
  obtain ⟨x,m,z,h1,h2,h3,k⟩:=hq0
  subst z
  have nd:=sc_split_text.nd
  refine ⟨_,(ds_cons (ds_if (dt_not (dt_val (d_callB dc_isi (by rfl) T.isinstance_ bt_isinstance (da_cons (dv 0) (da_cons (d_ty rfl T.str_ bt_str) da_nil))))) (ds_one ds_never) ds_nil)
      (ds_one (ds_ret (d_split (dv 0) (da_cons (dv 1) da_nil) (h:=pe_bm PySem.F.plainAttrs_str PySem.F.slot_str_split PySem.F.type_str_split mt_split (dv 0) (da_cons (dv 1) da_nil)))))),?_⟩
  exact ⟨by decide,h1,h2,h3,k⟩
def sRN:SpD:=fun es μ Q=>∃ n:Int,es = [.d (.str (sN n))] ∧ (sN n).length ≤ 577 ∧ Q (.d (.int n)) μ
theorem sc_read_number:FnScope ["word", "number", "written"] ["word"] (defScope sread_number):=⟨rfl,rfl,rfl,by decide +kernel,rfl,by decide +kernel,by decide +kernel⟩
theorem ok_read_number {f:Addr} {fd:FuncData} (F:Fun K "read_number" "read_number" sread_number f fd) (T:Txt mg):FnOk P w K mg base CX 1 f fd ["word"] (spUp K sRN):=by
  refine F.okD sc_read_number (fun es μ Q hq0=>by obtain ⟨n,z,_⟩:=hq0; subst z; rfl) (fun cdv A outer s H E es μ Q hr hq0=>?_)
  obtain ⟨n,z,h1,k⟩:=hq0
  subst z
  have nd:=sc_read_number.nd
  refine ⟨_,(ds_cons (ps_tryN (fun _=>(ds_cons (ds_set (i:=1) nd rfl (by first | exact Or.inl rfl | exact Or.inr rfl) (d_callTy dc_intS (by rfl) T.int_ bt_int (da_cons (dv 0) da_nil)))
      (ds_one (ds_set (i:=2) nd rfl (by first | exact Or.inl rfl | exact Or.inr rfl) (d_callTy dc_strI (by rfl) T.str_ bt_str (da_cons (dv 1) da_nil)))))))
      (ds_cons (ds_if (dt_cmp (do_ne hr.units) (dv 2) (dv 0) (nomark _)) (ds_one ds_never) ds_nil)
      (ds_one (ds_ret (dv 1))))),?_⟩
  have hi:intText? (sN n) = some n:=sN_reads (by omega)
  refine ⟨n,hi,by omega,read_log h1 hi,?_⟩
  refine ⟨_,_,.d _,.d _,(Asc.sN n).ok,(Asc.sN n).ok,?_⟩
  rw [eqv_strs,decide_eq_true rfl]
  exact k
theorem repr_le {x:Str} (h:Asc x) (hl:x.length ≤ 800000):(PySem.reprText x).length ≤ sizeLine:=by
  have:=StrLaws.reprText_len x fun c hc=>Nat.lt_of_lt_of_le (h c hc) (by decide)
  rw [sizeLine_eq]; omega
theorem relS_at {ρ:Rho} {μ:Mu} {σ:St} {H:Hp} {i:Nat} {x:Str} (h:RelS K ρ μ σ H) (e:ρ[i]? = some (some (.d (.str x)))):σ[i]? = some (some (.str x)):=by
  obtain ⟨v,h1,h2⟩:=h.2 i _ e
  cases h2
  exact h1
def preRN (es:List En) (μ:Mu):Prop:=∃ x:Str,es = [.d (.str x)] ∧ x.length ≤ 577 ∧ Asc x ∧ rdN x = none
theorem ok_read_numberX {f:Addr} {fd:FuncData} (F:Fun K "read_number" "read_number" sread_number f fd) (T:Txt mg) (TC:TxtC K mg CN):FnOk P w K mg base (XC P w) 1 f fd ["word"] (spLack K CN preRN):=by
  refine F.okL (N:=["word", "number", "written"]) fun nd cdv A' outer s H E es μ vs Q hr M hS kE hq9=>?_
  obtain ⟨x,e,hl,ha,hn⟩:=hq9
  subst e
  cases hi:intText? x with
  | none =>
    refine ⟨_,pss_cons (ps_tryF (i:=0) TC.exc PySem.F.excBase_ValueError TC.cls_NoText rfl rfl T.int_ rfl TC.ValueError_ TC.mV rfl (.inl rfl)) pss_never,?_⟩
    exact ⟨x,relS_at hS rfl,hi,by omega,repr_le ha (by omega),kE H M (Same.refl _)⟩
  | some m =>
    have hne:sN m ≠ x:=fun z=>by
      have:=rdN_of (by omega) hi
      rw [if_pos z,hn] at this
      cases this
    refine ⟨_,pss_cons (ps_tryN (fun _=>(ds_cons (K:=K) (ds_set (i:=1) nd rfl (by first | exact Or.inl rfl | exact Or.inr rfl) (d_callTy dc_intS (by rfl) T.int_ bt_int (da_cons (dv 0) da_nil))) (ds_one (ds_set (i:=2) nd rfl (by first | exact Or.inl rfl | exact Or.inr rfl) (d_callTy dc_strI (by rfl) T.str_ bt_str (da_cons (dv 1) da_nil)))))))
      (pss_cons (ps_if (dt_cmp (K:=K) (do_ne hr.units) (dv 2) (dv 0) (nomark _)) (pss_one (ps_raise (C:=CN) TC.exc PySem.F.excBase_ValueError TC.cls_NoText rfl (pa_cons pe_str pa_nil))) pss_nil) pss_never),?_⟩
    refine upS_then (ρ0:=[some (.d (.str x)),some (.d (.int m)),some (.d (.str (sN m)))]) hS M ⟨m,hi,by omega,read_log hl hi,rfl,rfl⟩ fun σ' H' S' M' s'=>?_
    refine upT_then true S' M' ⟨_,_,.d _,.d _,(Asc.sN m).ok,ha.ok,?_⟩ fun H2 M2 s2=>iteT ⟨sz1,kE H2 M2 (s'.trans s2)⟩
    rw [eqv_strs,decide_eq_false hne]
    exact ⟨rfl,rfl⟩
end
end K14
namespace L2
open PySem PySem.Spec PyProof.Rows
section
variable {K:PySem.W.Frag}
theorem comp_lack {ti:TId} {n:Nat} {te:TE} {ρ:Rho} {μ:Mu} {σ:St} {H:Hp} {Q:VK} {ds:List PyData} {i0:Nat} (hS:RelS K ρ μ σ H) (M:RelM K μ H) (hn:ρ.length = n)
    (hi:ti ρ μ fun J μ1=>μ1 = μ ∧ J.n ≤ 4000 ∧ Src J ds μ) (hi0:i0 < ds.length)
    (hs:∀ i x,ds[i]? = some x → i ≤ i0 → ∀ (σ2:St) (H2:Hp) (R:VK),RelS K (ρ ++ [some (.d x)]) μ σ2 H2 → RelM K μ H2 → Same (mask μ H) (mask μ H2) → (i < i0 → ∀ v H3,RelM K μ H3 → Same (mask μ H2) (mask μ H3) → R v H3) → te σ2 H2 R) :
    tComp 1 (upI K ti) (upG K (dgName n)) (upT K dYes) te σ H Q:=by
  refine ⟨ρ,μ,_,hS,M,hi,fun J0 μ1 J H1 q M1 s1 sim=>?_⟩
  obtain ⟨rfl,hn4,src⟩:=q
  have S0:RelS K (ρ ++ [none]) μ1 (σ ++ List.replicate 1 none) H1:=by
    have S1:=hS.same s1
    refine ⟨by simp [S1.len],fun i e he=>?_⟩
    by_cases hi:i < ρ.length
    · rw [List.getElem?_append_left hi] at he
      rw [List.getElem?_append_left (by rw [← S1.len]; exact hi)]
      exact S1.get i e he
    · rw [List.getElem?_append_right (by lia)] at he
      match i - ρ.length,he with
      | 0,he=>cases he
      | k + 1,he=>cases he
  refine ⟨fun i m ys σ' H'=>m = J0.n - i ∧ i ≤ i0 ∧ ys.length ≤ i ∧ ∃ o,RelS K (ρ ++ [o]) μ1 σ' H' ∧ RelM K μ1 H' ∧ Same (mask μ1 H1) (mask μ1 H'),⟨_,rfl,Nat.zero_le _,Nat.le_refl _,none,S0,M1,Same.refl _⟩,?_⟩
  rintro i m ys σ' H' ⟨rfl,hii,hy,o,S',M',s'⟩
  have sm:=sim μ1 H' M' s' src.ok i
  have hlt:i < J0.n:=by rw [src.n]; lia
  obtain ⟨hgo,hyl⟩:=sm.1 hlt
  have hlt':i < ds.length:=by lia
  have ei:ds[i]? = some ds[i]:=List.getElem?_eq_getElem hlt'
  refine .inr ⟨hgo,small4000 (by lia),fun ys2 σ2 H2=>i < i0 ∧ ys2.length ≤ i + 1 ∧ ∃ o,RelS K (ρ ++ [o]) μ1 σ2 H2 ∧ RelM K μ1 H2 ∧ Same (mask μ1 H1) (mask μ1 H2),fun ys2 σ2 H2 z=>⟨J0.n - (i + 1),by lia,rfl,z.1,z.2⟩,fun x H2 y=>?_⟩
  obtain ⟨M2,s2,i2⟩:=hyl x H2 y
  refine ⟨J0.item i,ρ ++ [o],μ1,fun ρ3 μ3=>ρ3 = ρ ++ [some (.d ds[i])] ∧ μ3 = μ1,i2,S'.same s2,M2,⟨?_,rfl⟩,?_⟩
  · rw [src.it i _ ei,← hn]
    simp
  rintro ρ3 μ3 σ3 H3 ⟨rfl,rfl⟩ S3 M3 s3
  refine ⟨_,μ3,fun b μ4=>b = true ∧ μ4 = μ3,S3,M3,⟨rfl,rfl⟩,?_⟩
  rintro b μ4 H4 ⟨rfl,rfl⟩ M4 s4
  refine iteT (hs i _ ei hii σ3 H4 _ (S3.same s4) M4 (((s1.trans s').trans s2).trans (s3.trans s4)) fun hl v H5 M5 s5=>?_)
  exact ⟨hl,by simp; lia,_,(S3.same s4).same s5,M5,((s'.trans s2).trans (s3.trans s4)).trans s5⟩
theorem call_or {s1:SpD} {C:Addr} {pre:List En → Mu → Prop} {E:XK} {n:Nat} {ρ:Rho} {μ:Mu} {σ:St} {H:Hp} {R:VK} {x:PyData} (good:Prop) (hS:RelS K ρ μ σ H) (M:RelM K μ H) (hx:ρ[n]? = some (some (.d x)))
    (hg:good → ∃ z,∀ Q:En → Mu → Prop,Q (.d z) μ → s1 [.d x] μ Q) (hb:¬ good → pre [.d x] μ) (kR:good → ∀ v H3,RelM K μ H3 → Same (mask μ H) (mask μ H3) → R v H3) (kE:¬ good → ∀ H3,RelM K μ H3 → Same (mask μ H) (mask μ H3) → E (.ref C) none H3) :
    tCall (spOr (spUp K s1) (spLack K C pre)) [] E (upA K (dCons (dVar n) dNil)) σ H R:=by
  refine ⟨ρ,μ,fun es μ'=>es = [.d x] ∧ μ' = μ,hS,M,by unfold dCons dVar; rw [hx]; exact ⟨rfl,rfl⟩,?_⟩
  rintro es μ' vs H' ⟨rfl,rfl⟩ M' s' i'
  rw [List.append_nil]
  by_cases g:good
  · obtain ⟨z,hz⟩:=hg g
    refine .inl ⟨μ',_,fun e μ2=>e = .d z ∧ μ2 = μ',M',i',hz _ ⟨rfl,rfl⟩,?_⟩
    rintro e μ2 v H3 ⟨rfl,rfl⟩ M3 s3 i3
    exact kR g v H3 M3 (s'.trans s3)
  · exact .inr ⟨μ',_,M',i',hb g,fun H3 M3 s3=>kE g H3 M3 (s'.trans s3)⟩
theorem call_nev {X:Cx} {T:String}:CallR X (.type T) (fun _ _ _=>False):=fun _ _ _ _ _ _ _ _ _ h=>h.elim
end
end L2
namespace L2
open PySem PySem.Spec PyProof.Rows
theorem join1 (y a:Str):Str.join y [a] = a:=rfl
theorem join2 (y a b:Str) (r:List Str):Str.join y (a :: b :: r) = a ++ y ++ Str.join y (b :: r):=rfl
theorem join_cl {y:Str} {c:Nat} (hy:cl y = [c]) (a b:Str) (r:List Str):cl (Str.join y (a :: b :: r)) = cl a ++ c :: cl (Str.join y (b :: r)):=by
  rw [join2,cl_app,cl_app,hy]; simp
theorem words_of {y:Str} {c:Nat} (hy:cl y = [c]):∀ l:List Nat,∃ ws:List Str,ws ≠ [] ∧ (∀ w ∈ ws,c ∉ cl w) ∧ cl (Str.join y ws) = l
  | []=>by
    refine ⟨[Str.empty],List.cons_ne_nil _ _,?_,rfl⟩
    intro w hw h
    have:w = Str.empty:=by simpa using hw
    subst this
    cases h
  | d :: l=>by
    obtain ⟨ws,h0,h1,h2⟩:=words_of hy l
    match ws,h0 with
    | a :: r,_ =>
      by_cases hd:d = c
      · refine ⟨Str.empty :: a :: r,by simp,fun w hw=>?_,?_⟩
        · rcases List.mem_cons.mp hw with rfl | hw
          · exact fun h=>nomatch h
          · exact h1 w hw
        · rw [join_cl hy,h2,hd]; rfl
      · refine ⟨(⟨#[d]⟩ ++ a) :: r,by simp,fun w hw=>?_,?_⟩
        · rcases List.mem_cons.mp hw with rfl | hw
          · rw [cl_app]
            intro h
            rcases List.mem_append.mp h with h | h
            · have:c = d:=by simpa [cl] using h
              exact hd this.symm
            · exact h1 a (by simp) h
          · exact h1 w (List.mem_cons_of_mem _ hw)
        · match r with
          | []=>rw [join1,cl_app]; rw [join1] at h2; rw [h2]; rfl
          | b :: r=>rw [join_cl hy] at h2 ⊢; rw [cl_app,← h2]; rfl
theorem words_in {y:Str} {c:Nat} (hy:cl y = [c]):∀ {ws:List Str} {w:Str},w ∈ ws → ∃ u v,cl (Str.join y ws) = u ++ cl w ++ v
  | [a],w,h=>by
    have:w = a:=by simpa using h
    subst this
    exact ⟨[],[],by rw [join1]; simp⟩
  | a :: b :: r,w,h=>by
    rw [join_cl hy]
    rcases List.mem_cons.mp h with rfl | h
    · exact ⟨[],_,by rw [List.nil_append]⟩
    · obtain ⟨u,v,e⟩:=words_in hy h
      exact ⟨cl a ++ c :: u,v,by rw [e]; simp⟩
theorem words_n {y:Str} {c:Nat} (hy:cl y = [c]):∀ {ws:List Str},ws.length ≤ (cl (Str.join y ws)).length + 1
  | []=>by simp
  | [a]=>by simp
  | a :: b :: r=>by
    have:=words_n hy (ws:=b :: r)
    rw [join_cl hy]
    simp only [List.length_cons,List.length_append] at this ⊢
    omega
structure Words (y:Str) (c:Nat) (x:Str) (ws:List Str):Prop where
  split:Txt.split x y = ws
  join:x = Str.join y ws
  ne:ws ≠ []
  no:∀ w ∈ ws,c ∉ cl w
  inx:∀ w ∈ ws,∃ u v,cl x = u ++ cl w ++ v
  n:ws.length ≤ x.length + 1
theorem words {y:Str} {c:Nat} (hy:cl y = [c]) (hl:Builtin.Str.strKind y = 1) (x:Str):∃ ws,Words y c x ws:=by
  obtain ⟨ws,h0,h1,h2⟩:=words_of hy (cl x)
  have e:x = Str.join y ws:=(cl_ext h2).symm
  refine ⟨ws,?_,e,h0,h1,fun w hw=>?_,?_⟩
  · rw [e]; exact split_join (by rw [hy]; rfl) hl h0 h1
  · rw [e]; exact words_in hy hw
  · have:=words_n hy (ws:=ws)
    rw [← e,cl_len] at this
    exact this
theorem words_bk (x:Str):∃ ws,Words bk 32 x ws:=words cl_bk (by decide +kernel) x
theorem words_cm (x:Str):∃ ws,Words cm 44 x ws:=words cl_cm (by decide +kernel) x
theorem Words.asc {y:Str} {c:Nat} {x:Str} {ws:List Str} (W:Words y c x ws) (h:Asc x):∀ w ∈ ws,Asc w:=fun w hw d hd=>by
  obtain ⟨u,v,e⟩:=W.inx w hw
  exact h d (by rw [e]; simp [hd])
theorem Words.len {y:Str} {c:Nat} {x:Str} {ws:List Str} (W:Words y c x ws):∀ w ∈ ws,w.length ≤ x.length:=fun w hw=>by
  obtain ⟨u,v,e⟩:=W.inx w hw
  rw [← cl_len,← cl_len,e]
  simp only [List.length_append]; omega
end L2
namespace K14
open PySem L2
section
variable {P:Program} {w:World} {K:PySem.W.Frag} {mg:Str → Option Value} {base:Heap} {CX:CXT}
variable {CN:Addr}
def rdAll {α:Type} (f:Str → Option α):List Str → Option (List α)
  | []=>some []
  | x :: r=>match f x,rdAll f r with
    | some a,some as=>some (a :: as)
    | _,_=>none
theorem rdAll_no {α:Type} {f:Str → Option α}:∀ {ws:List Str},rdAll f ws = none → ∃ i0,i0 < ws.length ∧ (∀ x,ws[i0]? = some x → f x = none) ∧ ∀ i x,i < i0 → ws[i]? = some x → ∃ a,f x = some a
  | x :: r,h=>by
    cases hx:f x with
    | none=>exact ⟨0,by simp,fun y hy=>by simp at hy; rw [← hy]; exact hx,fun i y hi=>by omega⟩
    | some a =>
      cases hr:rdAll f r with
      | some as=>unfold rdAll at h; rw [hx,hr] at h; cases h
      | none =>
        obtain ⟨i0,h1,h2,h3⟩:=rdAll_no hr
        refine ⟨i0 + 1,by simp; omega,fun y hy=>h2 y (by simpa using hy),fun i y hi hy=>?_⟩
        cases i with
        | zero=>simp at hy; rw [← hy]; exact ⟨a,hx⟩
        | succ i=>exact h3 i y (by omega) (by simpa using hy)
theorem rdAll_nums:∀ {ws:List Str} {ns:List Int},rdAll rdN ws = some ns → ws = ns.map sN
  | [],ns,h=>by cases h; rfl
  | x :: r,ns,h=>by
    unfold rdAll at h
    cases hx:rdN x with
    | none=>rw [hx] at h; cases h
    | some a =>
      cases hr:rdAll rdN r with
      | none=>rw [hx,hr] at h; cases h
      | some as =>
        rw [hx,hr] at h
        cases h
        rw [List.map_cons,← rdN_some.mp hx,← rdAll_nums hr]
structure Pcs (m:Str) (x:Str):Prop where
  asc:Asc x
  len:x.length ≤ 3000
  sh:∀ p ∈ Txt.split x m,p.length ≤ 577
  n:(Txt.split x m).length ≤ 4000
  as:∀ p ∈ Txt.split x m,Asc p
def sRNs:SpD:=fun es μ Q=>∃ (x m:Str) (ns:List Int),es = [.d (.str x),.d (.str m)] ∧ (m.length == 0) = false ∧ Pcs m x ∧ rdAll rdN (Txt.split x m) = some ns ∧ Q (.d (tpI ns)) μ
theorem sc_read_numbers:FnScope ["text", "mark"] ["text", "mark"] (defScope sread_numbers):=⟨rfl,rfl,rfl,by decide +kernel,rfl,by decide +kernel,by decide +kernel⟩
theorem ok_read_numbers {f:Addr} {fd:FuncData} (F:Fun K "read_numbers" "read_numbers" sread_numbers f fd) (T:Txt mg) (hX:NoX CX) (Osplit_text:Own P w K mg base CX 1 "split_text" ["text", "mark"] (spUp K sSpl)) (Oread_number:Own P w K mg base CX 1 "read_number" ["word"] (spUp K sRN)):FnOk P w K mg base CX 2 f fd ["text", "mark"] (spUp K sRNs):=by
  refine F.okD sc_read_numbers (fun es μ Q hq0=>by obtain ⟨x,m,ns,z,_⟩:=hq0; subst z; rfl) (fun cdv A outer s H E es μ Q hr hq0=>?_)
  obtain ⟨x,m,ns,z,h1,h2,h3,k⟩:=hq0
  subst z
  have nd:=sc_read_numbers.nd
  have h3:=rdAll_nums h3
  have h4:=h2.sh
  have h5:=h2.n
  have h6:=h2.len
  refine ⟨_,(ds_one (ds_ret (d_callTy dc_tuple (by rfl) T.tuple_ bt_tuple (da_cons (d_comp (L:=["word"]) (sc:=defScope sread_numbers) (N:=["text", "mark"]) rfl rfl rfl (by decide +kernel) (di_list (d_own Osplit_text hX (hr.mono (by decide)) rfl (da_cons (dv 0) (da_cons (dv 1) da_nil)))) (fun _ _ _ _ _=>(dg_name (i:=2) (show List.Nodup (["text", "mark", "word"]:List Str) from by decide +kernel) rfl (by first | exact Or.inl rfl | exact Or.inr rfl))) (fun _ _ _ _ _=>dfs_nil) (fun _ _ _ _ _=>(d_own Oread_number hX (hr.mono (by decide)) rfl (da_cons (dv 2) da_nil)))) da_nil)))),?_⟩
  refine ⟨x,m,rfl,h1,by omega,h5,?_⟩
  rw [h3] at h4 h5 ⊢
  rw [List.map_map]
  rw [List.length_map] at h5
  refine ⟨_,.d _,(show (ns.map _).length ≤ 4000 by rw [List.length_map]; omega),compAL (as:=ns) (fun n=>.int n) Src.d (fun n hn R h=>⟨n,rfl,h4 _ (List.mem_map.mpr ⟨n,hn,rfl⟩),h⟩) ?_⟩
  exact ⟨_,.d _,k⟩
def preRNs (es:List En) (μ:Mu):Prop:=∃ x m:Str,es = [.d (.str x),.d (.str m)] ∧ (m.length == 0) = false ∧ Pcs m x ∧ rdAll rdN (Txt.split x m) = none
theorem ok_read_numbersX {f:Addr} {fd:FuncData} (F:Fun K "read_numbers" "read_numbers" sread_numbers f fd) (T:Txt mg) (Osplit_text:Own P w K mg base (XC P w) 1 "split_text" ["text", "mark"] (spUp K sSpl)) (Oread_number:Own P w K mg base (XC P w) 1 "read_number" ["word"] (spOr (spUp K sRN) (spLack K CN preRN))):FnOk P w K mg base (XC P w) 2 f fd ["text", "mark"] (spLack K CN preRNs):=by
  refine F.okL (N:=["text", "mark"]) fun nd cdv A' outer s H E es μ vs Q hr M hS kE hq9=>?_
  obtain ⟨x,m,e,h1,h2,h3⟩:=hq9
  subst e
  obtain ⟨i0,hi0,hbad,hgood⟩:=rdAll_no h3
  refine ⟨_,pss_one (ps_ret (pe_callTy call_nev rfl T.tuple_ bt_tuple (pa_cons (pe_compX rfl (L:=["word"]) (sc:=defScope sread_numbers) (N':=["text", "mark"]) rfl rfl rfl (by decide +kernel)
    (di_list (K:=K) (d_own Osplit_text noXC (hr.mono (by decide)) rfl (da_cons (dv 0) (da_cons (dv 1) da_nil))))
    (fun _ _ _ _ _=>(dg_name (K:=K) (i:=2) (show List.Nodup (["text", "mark", "word"]:List Str) from by decide +kernel) rfl (by first | exact Or.inl rfl | exact Or.inr rfl))) (fun _ _ _ _ _=>dfs_nil (K:=K))
    (fun _ _ _ _ _ _ hp=>pe_ownX (E:=E) Oread_number hp (hr.mono (by decide)) rfl (da_cons (K:=K) (dv 2) da_nil))) pa_nil))),?_⟩
  have h6:=h2.len
  refine comp_lack (ds:=(Txt.split x m).map .str) (i0:=i0) hS M rfl ⟨x,m,rfl,h1,by omega,h2.n,_,.d _,rfl,(show ((Txt.split x m).map PyData.str).length ≤ 4000 by rw [List.length_map]; exact h2.n),Src.d⟩ (by rw [List.length_map]; exact hi0) fun i y ey hi σ2 H2 R S2 M2 s2 kR=>?_
  rw [List.getElem?_map] at ey
  cases ew:(Txt.split x m)[i]? with
  | none=>rw [ew] at ey; cases ey
  | some wd =>
    rw [ew] at ey
    cases ey
    have hm:=List.mem_of_getElem? ew
    refine call_or (i < i0) S2 M2 rfl (fun g=>?_) (fun g=>?_) (fun g=>kR g) fun g H3 M3 s3=>kE H3 M3 (s2.trans s3)
    · obtain ⟨n,hn⟩:=hgood i wd g ew
      have e:=rdN_some.mp hn
      exact ⟨.int n,fun Q q=>⟨n,by rw [e],by rw [← e]; exact h2.sh _ hm,q⟩⟩
    · have:i = i0:=by omega
      subst this
      exact ⟨wd,rfl,h2.sh _ hm,h2.as _ hm,hbad wd ew⟩
end
end K14
namespace K14
open PySem L2
section
variable {P:Program} {w:World} {K:PySem.W.Frag} {mg:Str → Option Value} {base:Heap} {CX:CXT}
variable {CN:Addr}
def rdBy (m:Str) (t:List Int → Bool) (x:Str):Option (List Int):=match rdAll rdN (Txt.split x m) with
  | some ns=>if t ns = true then some ns else none
  | none=>none
theorem rdBy_some {m:Str} {t:List Int → Bool} {x:Str} {ns:List Int} (h:rdBy m t x = some ns):rdAll rdN (Txt.split x m) = some ns ∧ t ns = true:=by
  unfold rdBy at h
  split at h
  · rename_i ms e
    split at h
    · rename_i c; cases h; exact ⟨e,c⟩
    · cases h
  · cases h
theorem rdBy_none {m:Str} {t:List Int → Bool} {x:Str} (h:rdBy m t x = none):rdAll rdN (Txt.split x m) = none ∨ ∃ ns,rdAll rdN (Txt.split x m) = some ns ∧ t ns = false:=by
  unfold rdBy at h
  split at h
  · rename_i ms e
    split at h
    · cases h
    · rename_i c; exact .inr ⟨ms,e,eq_false_of_ne_true c⟩
  · rename_i e; exact .inl e
theorem rdAll_len {α:Type} {f:Str → Option α}:∀ {ws:List Str} {as:List α},rdAll f ws = some as → as.length = ws.length
  | [],as,h=>by cases h; rfl
  | x :: r,as,h=>by
    unfold rdAll at h
    cases hx:f x with
    | none=>rw [hx] at h; cases h
    | some a =>
      cases hr:rdAll f r with
      | none=>rw [hx,hr] at h; cases h
      | some bs=>rw [hx,hr] at h; cases h; simp [rdAll_len hr]
def sRP:SpD:=fun es μ Q=>∃ (x:Str) (ns:List Int),es = [.d (.str x)] ∧ Pcs cm x ∧ rdBy cm isPt x = some ns ∧ Q (.d (tpI ns)) μ
theorem sc_read_point:FnScope ["text", "point"] ["text"] (defScope sread_point):=⟨rfl,rfl,rfl,by decide +kernel,rfl,by decide +kernel,by decide +kernel⟩
theorem ok_read_point {f:Addr} {fd:FuncData} (F:Fun K "read_point" "read_point" sread_point f fd) (T:Txt mg) (hX:NoX CX) (Oread_numbers:Own P w K mg base CX 2 "read_numbers" ["text", "mark"] (spUp K sRNs)) (Ois_point:Own P w K mg base CX 3 "is_point" ["thing"] (spUp K sIsPt)):FnOk P w K mg base CX 4 f fd ["text"] (spUp K sRP):=by
  refine F.okD sc_read_point (fun es μ Q hq0=>by obtain ⟨q,z,y,_⟩:=hq0; subst y; rfl) (fun cdv A outer s H E es μ Q hr hq0=>?_)
  obtain ⟨x,ns,z,h1,h2,k⟩:=hq0
  subst z
  have nd:=sc_read_point.nd
  refine ⟨_,(ds_cons (ds_set (i:=1) nd rfl (by first | exact Or.inl rfl | exact Or.inr rfl) (d_own Oread_numbers hX (hr.mono (by decide)) rfl (da_cons (dv 0) (da_cons d_str da_nil))))
      (ds_cons (ds_if (dt_not (dt_val (d_own Ois_point hX (hr.mono (by decide)) rfl (da_cons (dv 1) da_nil)))) (ds_one ds_never) ds_nil)
      (ds_one (ds_ret (dv 1))))),?_⟩
  obtain ⟨h3,h4⟩:=rdBy_some h2
  have h5:=rdAll_len h3
  have h6:=h1.n
  refine ⟨x,cm,ns,rfl,by decide +kernel,h1,h3,?_⟩
  refine ⟨ns,rfl,by omega,?_⟩
  rw [h4]
  exact k
def sRL:SpD:=fun es μ Q=>∃ (x:Str) (ns:List Int),es = [.d (.str x)] ∧ Pcs bk x ∧ rdBy bk isLn x = some ns ∧ Q (.d (tpI ns)) μ
theorem sc_read_line:FnScope ["text", "line"] ["text"] (defScope sread_line):=⟨rfl,rfl,rfl,by decide +kernel,rfl,by decide +kernel,by decide +kernel⟩
theorem ok_read_line {f:Addr} {fd:FuncData} (F:Fun K "read_line" "read_line" sread_line f fd) (T:Txt mg) (hX:NoX CX) (Oread_numbers:Own P w K mg base CX 2 "read_numbers" ["text", "mark"] (spUp K sRNs)) (Ois_line:Own P w K mg base CX 3 "is_line" ["thing"] (spUp K sIsLn)):FnOk P w K mg base CX 4 f fd ["text"] (spUp K sRL):=by
  refine F.okD sc_read_line (fun es μ Q hq0=>by obtain ⟨q,z,y,_⟩:=hq0; subst y; rfl) (fun cdv A outer s H E es μ Q hr hq0=>?_)
  obtain ⟨x,ns,z,h1,h2,k⟩:=hq0
  subst z
  have nd:=sc_read_line.nd
  refine ⟨_,(ds_cons (ds_set (i:=1) nd rfl (by first | exact Or.inl rfl | exact Or.inr rfl) (d_own Oread_numbers hX (hr.mono (by decide)) rfl (da_cons (dv 0) (da_cons d_str da_nil))))
      (ds_cons (ds_if (dt_not (dt_val (d_own Ois_line hX (hr.mono (by decide)) rfl (da_cons (dv 1) da_nil)))) (ds_one ds_never) ds_nil)
      (ds_one (ds_ret (dv 1))))),?_⟩
  obtain ⟨h3,h4⟩:=rdBy_some h2
  have h5:=rdAll_len h3
  have h6:=h1.n
  refine ⟨x,bk,ns,rfl,by decide +kernel,h1,h3,?_⟩
  refine ⟨ns,rfl,by omega,?_⟩
  rw [h4]
  exact k
end
end K14
namespace K14
open PySem L2
section
variable {P:Program} {w:World} {K:PySem.W.Frag} {mg:Str → Option Value} {base:Heap} {CX:CXT}
variable {CN:Addr}
def preRP (es:List En) (μ:Mu):Prop:=∃ x:Str,es = [.d (.str x)] ∧ Pcs cm x ∧ rdBy cm isPt x = none
theorem ok_read_pointX {f:Addr} {fd:FuncData} (F:Fun K "read_point" "read_point" sread_point f fd) (TC:TxtC K mg CN) (Oread_numbers:Own P w K mg base (XC P w) 2 "read_numbers" ["text", "mark"] (spOr (spUp K sRNs) (spLack K CN preRNs))) (Ois_point:Own P w K mg base (XC P w) 3 "is_point" ["thing"] (spUp K sIsPt)):FnOk P w K mg base (XC P w) 4 f fd ["text"] (spLack K CN preRP):=by
  refine F.okL (N:=["text", "point"]) fun nd cdv A' outer s H E es μ vs Q hr M hS kE hq9=>?_
  obtain ⟨x,e,h1,h2⟩:=hq9
  subst e
  rcases rdBy_none h2 with h3 | ⟨ns,h3,h4⟩
  · refine ⟨_,pss_cons (ps_set (i:=1) nd rfl (by first | exact Or.inl rfl | exact Or.inr rfl) (pe_ownX (E:=E) Oread_numbers.r passX (hr.mono (by decide)) rfl (da_cons (K:=K) (dv 0) (da_cons d_str da_nil)))) pss_never,?_⟩
    exact lack_at hS M ⟨rfl,x,cm,rfl,by decide +kernel,h1,h3⟩ kE
  · have h5:=rdAll_len h3
    have h6:=h1.n
    refine ⟨_,pss_cons (ds_set (K:=K) (i:=1) nd rfl (by first | exact Or.inl rfl | exact Or.inr rfl) (d_own Oread_numbers.l noXC (hr.mono (by decide)) rfl (da_cons (dv 0) (da_cons d_str da_nil))))
      (pss_cons (ps_if (dt_not (K:=K) (dt_val (d_own Ois_point noXC (hr.mono (by decide)) rfl (da_cons (dv 1) da_nil)))) (pss_one (ps_raise (C:=CN) TC.exc PySem.F.excBase_ValueError TC.cls_NoText rfl (pa_cons pe_str pa_nil))) pss_nil) pss_never),?_⟩
    refine upS_then (ρ0:=[some (.d (.str x)),some (.d (tpI ns))]) hS M ⟨x,cm,ns,rfl,by decide +kernel,h1,h3,rfl,rfl⟩ fun σ' H' S' M' s'=>?_
    refine upT_then true S' M' ⟨ns,rfl,by omega,?_⟩ fun H2 M2 s2=>iteT ⟨sz1,kE H2 M2 (s'.trans s2)⟩
    rw [h4]
    exact ⟨rfl,rfl⟩
def preRL (es:List En) (μ:Mu):Prop:=∃ x:Str,es = [.d (.str x)] ∧ Pcs bk x ∧ rdBy bk isLn x = none
theorem ok_read_lineX {f:Addr} {fd:FuncData} (F:Fun K "read_line" "read_line" sread_line f fd) (TC:TxtC K mg CN) (Oread_numbers:Own P w K mg base (XC P w) 2 "read_numbers" ["text", "mark"] (spOr (spUp K sRNs) (spLack K CN preRNs))) (Ois_line:Own P w K mg base (XC P w) 3 "is_line" ["thing"] (spUp K sIsLn)):FnOk P w K mg base (XC P w) 4 f fd ["text"] (spLack K CN preRL):=by
  refine F.okL (N:=["text", "line"]) fun nd cdv A' outer s H E es μ vs Q hr M hS kE hq9=>?_
  obtain ⟨x,e,h1,h2⟩:=hq9
  subst e
  rcases rdBy_none h2 with h3 | ⟨ns,h3,h4⟩
  · refine ⟨_,pss_cons (ps_set (i:=1) nd rfl (by first | exact Or.inl rfl | exact Or.inr rfl) (pe_ownX (E:=E) Oread_numbers.r passX (hr.mono (by decide)) rfl (da_cons (K:=K) (dv 0) (da_cons d_str da_nil)))) pss_never,?_⟩
    exact lack_at hS M ⟨rfl,x,bk,rfl,by decide +kernel,h1,h3⟩ kE
  · have h5:=rdAll_len h3
    have h6:=h1.n
    refine ⟨_,pss_cons (ds_set (K:=K) (i:=1) nd rfl (by first | exact Or.inl rfl | exact Or.inr rfl) (d_own Oread_numbers.l noXC (hr.mono (by decide)) rfl (da_cons (dv 0) (da_cons d_str da_nil))))
      (pss_cons (ps_if (dt_not (K:=K) (dt_val (d_own Ois_line noXC (hr.mono (by decide)) rfl (da_cons (dv 1) da_nil)))) (pss_one (ps_raise (C:=CN) TC.exc PySem.F.excBase_ValueError TC.cls_NoText rfl (pa_cons pe_str pa_nil))) pss_nil) pss_never),?_⟩
    refine upS_then (ρ0:=[some (.d (.str x)),some (.d (tpI ns))]) hS M ⟨x,bk,ns,rfl,by decide +kernel,h1,h3,rfl,rfl⟩ fun σ' H' S' M' s'=>?_
    refine upT_then true S' M' ⟨ns,rfl,by omega,?_⟩ fun H2 M2 s2=>iteT ⟨sz1,kE H2 M2 (s'.trans s2)⟩
    rw [h4]
    exact ⟨rfl,rfl⟩
end
end K14
namespace L2
open PySem PySem.Spec PyProof.Rows
section
variable {X:Cx} {K:PySem.W.Frag} {tg iter:Expr} {pos:Pos}
def FinM (Q:En → Mu → Prop) (ys:List PyData) (μ:Mu):Prop:=∀ p,p ∉ μ.map Prod.fst → Q (.m p) ((p,.lst ys) :: μ)
def dCompM (k:Nat) (ti:TId) (g:TGd) (tt:TTd) (te:TEd):TEd:=fun ρ μ Q=>ti ρ μ fun J μ1=>J.n ≤ 4000 ∧ ∃ Pv:Nat → List PyData → Rho → Mu → Prop,Pv 0 [] (ρ ++ List.replicate k none) μ1 ∧ (∀ i ys ρ' μ',i ≤ J.n → Pv i ys ρ' μ' → J.ok μ') ∧
  (∀ i ys ρ' μ',i < J.n → Pv i ys ρ' μ' → g (J.item i) ρ' μ' fun ρ2 μ2=>tt ρ2 μ2 fun b μ3=>if b = true then te ρ2 μ3 fun y μ4=>∃ z,y = .d z ∧ Pv (i + 1) (ys ++ [z]) ρ2 μ4 else Pv (i + 1) ys ρ2 μ3) ∧
  ∀ ys ρ' μ',Pv J.n ys ρ' μ' → FinM Q ys μ'
theorem up_compM {k:Nat} {ti:TId} {g:TGd} {tt:TTd} {te:TEd} {σ:St} {H:Hp} {Q:VK} (h:up K (dCompM k ti g tt te) σ H Q):tComp k (upI K ti) (upG K g) (upT K tt) (up K te) σ H Q:=by
  obtain ⟨ρ,μ,Q0,hS,hM,h,cl⟩:=h
  refine ⟨ρ,μ,_,hS,hM,h,fun J0 μ1 J H1 q M1 s1 sim=>?_⟩
  obtain ⟨hn,Pv,h0,hok,hstep,hend⟩:=q
  have S0:RelS K (ρ ++ List.replicate k none) μ1 (σ ++ List.replicate k none) H1:=by
    have S1:=hS.same s1
    refine ⟨by simp [S1.len],fun i e he=>?_⟩
    by_cases hi:i < ρ.length
    · rw [List.getElem?_append_left hi] at he
      rw [List.getElem?_append_left (by rw [← S1.len]; exact hi)]
      exact S1.get i e he
    · rw [List.getElem?_append_right (by omega),List.getElem?_replicate] at he
      split at he <;> cases he
  refine ⟨fun i m ys σ' H'=>m = J0.n - i ∧ i ≤ J0.n ∧ ys.length ≤ i ∧ ∃ ds ρ' μ',RelS K ρ' μ' σ' H' ∧ RelM K μ' H' ∧ Same (mask μ1 H1) (mask μ' H') ∧ IsAll K (mask μ' H') ys ds ∧ Pv i ds ρ' μ',⟨_,rfl,Nat.zero_le _,Nat.le_refl _,[],_,μ1,S0,M1,Same.refl _,.nil,h0⟩,?_⟩
  rintro i m ys σ' H' ⟨rfl,hi,hy,ds,ρ',μ',S',M',s',hA,p⟩
  have sm:=sim μ' H' M' s' (hok i ds ρ' μ' hi p) i
  by_cases hlt:i < J0.n
  · obtain ⟨hgo,hyl⟩:=sm.1 hlt
    refine .inr ⟨hgo,small4000 (by omega),fun ys2 σ2 H2=>ys2.length ≤ i + 1 ∧ ∃ ds ρ' μ',RelS K ρ' μ' σ2 H2 ∧ RelM K μ' H2 ∧ Same (mask μ1 H1) (mask μ' H2) ∧ IsAll K (mask μ' H2) ys2 ds ∧ Pv (i + 1) ds ρ' μ',fun ys2 σ2 H2 z=>⟨J0.n - (i + 1),by omega,rfl,hlt,z⟩,fun x H2 y=>?_⟩
    obtain ⟨M2,s2,i2⟩:=hyl x H2 y
    refine ⟨_,ρ',μ',_,i2,S'.same s2,M2,hstep i ds ρ' μ' hlt p,fun ρ3 μ3 σ3 H3 q3 S3 M3 s3=>⟨ρ3,μ3,_,S3,M3,q3,fun b μ4 H4 q4 M4 s4=>?_⟩⟩
    have st:=((s'.trans s2).trans s3).trans s4
    cases b with
    | true =>
      refine iteT ⟨ρ3,μ4,_,S3.same s4,M4,(by simpa using q4),fun e μ5 v H5 q5 M5 s5 i5=>?_⟩
      obtain ⟨z,rfl,q5⟩:=q5
      exact ⟨by simp; omega,_,ρ3,μ5,(S3.same s4).same s5,M5,st.trans s5,IsAll.snoc i5 (IsAll.same (((s2.trans s3).trans s4).trans s5) hA),q5⟩
    | false=>exact iteF ⟨by omega,_,ρ3,μ4,S3.same s4,M4,st,IsAll.same ((s2.trans s3).trans s4) hA,by simpa using q4⟩
  · have e:i = J0.n:=by omega
    subst e
    refine .inl ⟨sm.2 (Nat.le_refl _),fun D hD=>?_⟩
    have hm:D ∉ μ'.map Prod.fst:=fun z=>by
      obtain ⟨⟨a,q⟩,hq,rfl⟩:=List.mem_map.mp z
      obtain ⟨xs,e'⟩:=(M'.ob a q hq).some
      rw [e'] at hD; cases hD
    obtain ⟨M4,s4⟩:=M'.new (u:=.lst ys) (o:=.lst ds) hD fun ss=>⟨ys,upd_same,IsAll.same ss hA⟩
    exact cl _ _ _ _ (hend ds ρ' μ' p D hm) M4 ((s1.trans s').trans s4) rfl
end
end L2
namespace L2
open PySem PySem.Spec PyProof.Rows
section
variable {X:Cx} {K:PySem.W.Frag} {tg iter:Expr} {pos:Pos}
theorem d_compM {L:List Str} {scope sc:Scope} {N:List Str} {elt:Expr} {ifs:List Expr} {ti:TId} {g:TGd} {tt:TTd} {te:TEd}
    (hc:X.calm = true) (hsc:X.env.scope = sc) (hN:X.N = N) (ok:compOk sc N L scope = true)
    (hi:DI K X tg iter ti) (hg:∀ cl C s₂ H₂ fp,DG K (compCx X L scope cl C s₂ H₂ fp) tg g) (hf:∀ cl C s₂ H₂ fp,DIfs K (compCx X L scope cl C s₂ H₂ fp) ifs tt) (he:∀ cl C s₂ H₂ fp,DE K (compCx X L scope cl C s₂ H₂ fp) elt te)
    (hs:∀ x,foldedSetIterable iter X.env x = pure x:=by intro _; rfl) :
    DE K X (.ListComp elt [⟨tg,iter,ifs,0⟩] scope pos) (dCompM L.length ti g tt te):=PE.mono (pe_comp hc hsc hN ok hi hg hf he hs) fun _ _ _=>up_compM
end
def ToM (Q:En → Mu → Prop):En → Mu → Prop:=fun e μ'=>∀ ys,e = .d (.list ys) → FinM Q ys μ'
theorem compM {k:Nat} {J:Itd} {g:TGd} {tt:TTd} {te:TEd} {ρ:Rho} {μ1:Mu} {Q:En → Mu → Prop} (h:CompG k J g tt te ρ μ1 (ToM Q)) :
    ∃ Pv:Nat → List PyData → Rho → Mu → Prop,Pv 0 [] (ρ ++ List.replicate k none) μ1 ∧ (∀ i ys ρ' μ',i ≤ J.n → Pv i ys ρ' μ' → J.ok μ') ∧
      (∀ i ys ρ' μ',i < J.n → Pv i ys ρ' μ' → g (J.item i) ρ' μ' fun ρ2 μ2=>tt ρ2 μ2 fun b μ3=>if b = true then te ρ2 μ3 fun y μ4=>∃ z,y = .d z ∧ Pv (i + 1) (ys ++ [z]) ρ2 μ4 else Pv (i + 1) ys ρ2 μ3) ∧
      ∀ ys ρ' μ',Pv J.n ys ρ' μ' → FinM Q ys μ':=by
  obtain ⟨Pv,h0,h1,h2,h3⟩:=h
  exact ⟨Pv,h0,h1,h2,fun ys ρ' μ' p=>h3 ys ρ' μ' p ys rfl⟩
end L2
namespace L2
open PySem PySem.Spec PyProof.Rows
section
variable {X:Cx} {K:PySem.W.Frag}
def rdCatM:R2d:=fun x y μ Q=>∃ ds es,LstOf μ x ds ∧ LstOf μ y es ∧ ds.length + es.length ≤ 4000 ∧ ∀ p,p ∉ μ.map Prod.fst → Q (.m p) ((p,.lst (ds ++ es)) :: μ)
theorem do_catM (hK:X.K = K:=by rfl):OpR X (binaryOp .Add) (upR K rdCatM):=by
  subst hK
  refine op_catS.mono fun x y H Q h=>?_
  obtain ⟨μ,e,e',Q0,M,i1,i2,q,cl⟩:=h
  obtain ⟨ds,es,h1,h2,hl,q⟩:=q
  obtain ⟨p,xs,rfl,a1,a2⟩:=h1.get M i1
  obtain ⟨p',xs',rfl,b1,b2⟩:=h2.get M i2
  refine ⟨p,p',xs,xs',rfl,rfl,a1,b1,Nat.le_of_lt (small4000 (by rw [a2.len,b2.len]; exact hl)),fun l hl=>?_⟩
  obtain ⟨_,_,hn⟩:=M.laid (o:=.lst (xs ++ xs')) hl
  obtain ⟨M4,s4⟩:=M.new (u:=.lst (xs ++ xs')) (o:=.lst (ds ++ es)) hl fun ss=>⟨_,upd_same,IsAll.same ss (IsAll.app b2 a2)⟩
  exact cl _ _ _ _ (q l hn) M4 s4 rfl
end
end L2
namespace K14
open PySem L2
section
variable {P:Program} {w:World} {K:PySem.W.Frag} {mg:Str → Option Value} {base:Heap} {CX:CXT}
variable {CN:Addr}
abbrev nil1:List Str:=[""]
def rdHp (x:Str):Option (List (List Int)):=if Txt.split x bk = nil1 then some [] else rdAll (rdBy cm isPt) (Txt.split x bk)
structure HpOk (x:Str):Prop where
  p:Pcs bk x
  q:∀ y ∈ Txt.split x bk,Pcs cm y
theorem eqv_words (ws:List Str):PyData.eqv (.list (ws.map PyData.str)) (.list [.str ""]) = decide (ws = nil1):=by
  match ws with
  | []=>rfl
  | [a] =>
    have h0:PyData.eqv (.str a) (.str "") = decide (a = ""):=eqv_strs _ _
    simp only [List.map_cons,List.map_nil,PyData.eqv,PyData.eqvAll] at h0 ⊢
    rw [h0]
    by_cases h:a = ""
    · subst h; rfl
    · rw [decide_eq_false h,decide_eq_false (by simpa [nil1] using h)]; rfl
  | a :: b :: r =>
    rw [decide_eq_false (by simp [nil1])]
    simp [PyData.eqv,PyData.eqvAll]
theorem rdAll_each {α:Type} {f:Str → Option α}:∀ {ws:List Str} {as:List α},rdAll f ws = some as → ∀ x ∈ ws,∃ a,f x = some a
  | [],as,h,x,hx=>by cases hx
  | y :: r,as,h,x,hx=>by
    unfold rdAll at h
    cases hy:f y with
    | none=>rw [hy] at h; cases h
    | some a =>
      cases hr:rdAll f r with
      | none=>rw [hy,hr] at h; cases h
      | some bs =>
        rcases List.mem_cons.mp hx with rfl | hx
        · exact ⟨a,hy⟩
        · exact rdAll_each hr x hx
theorem rdAll_map {α β:Type} {f:Str → Option α} (g:α → β) (d:α):∀ {ws:List Str} {as:List α},rdAll f ws = some as → ws.map (fun x=>g ((f x).getD d)) = as.map g
  | [],as,h=>by cases h; rfl
  | y :: r,as,h=>by
    unfold rdAll at h
    cases hy:f y with
    | none=>rw [hy] at h; cases h
    | some a =>
      cases hr:rdAll f r with
      | none=>rw [hy,hr] at h; cases h
      | some bs =>
        rw [hy,hr] at h
        cases h
        rw [List.map_cons,List.map_cons,hy,rdAll_map g d hr]; rfl
def hpI (nss:List (List Int)):PyData:=.list (nss.map tpI)
def sRH:SpD:=fun es μ Q=>∃ (x:Str) (nss:List (List Int)),es = [.d (.str x)] ∧ HpOk x ∧ rdHp x = some nss ∧ Q (.d (hpI nss)) μ
def sRHM:SpD:=fun es μ Q=>∃ (x:Str) (nss:List (List Int)),es = [.d (.str x)] ∧ HpOk x ∧ rdHp x = some nss ∧ ∀ p,p ∉ μ.map Prod.fst → Q (.m p) ((p,.lst (nss.map tpI)) :: μ)
theorem rh_frz {vs:List V} {H:Hp} {Q:VK} {E:XK} (h:spUp K sRH vs H Q E):spUp K sRHM vs H Q E :=
  frz_up (fun es μ Q ⟨x,nss,e,h1,h2,k⟩=>⟨x,nss,e,h1,h2,fun p hp=>⟨_,_,FzR.list1,k⟩⟩) h
theorem sc_read_heap:FnScope ["text", "words"] ["text"] (defScope sread_heap):=⟨rfl,rfl,rfl,by decide +kernel,rfl,by decide +kernel,by decide +kernel⟩
theorem ok_read_heap {f:Addr} {fd:FuncData} (F:Fun K "read_heap" "read_heap" sread_heap f fd) (T:Txt mg) (hX:NoX CX) (Osplit_text:Own P w K mg base CX 1 "split_text" ["text", "mark"] (spUp K sSpl)) (Oread_point:Own P w K mg base CX 4 "read_point" ["text"] (spUp K sRP)):FnOk P w K mg base CX 5 f fd ["text"] (spUp K sRHM):=by
  refine F.okD sc_read_heap (fun es μ Q hq0=>by obtain ⟨q,z,y,_⟩:=hq0; subst y; rfl) (fun cdv A outer s H E es μ Q hr hq0=>?_)
  obtain ⟨x,nss,z,h1,h2,k⟩:=hq0
  subst z
  have nd:=sc_read_heap.nd
  refine ⟨_,(ds_cons (ds_set (i:=1) nd rfl (by first | exact Or.inl rfl | exact Or.inr rfl) (d_own Osplit_text hX (hr.mono (by decide)) rfl (da_cons (dv 0) (da_cons d_str da_nil))))
      (ds_cons (ds_if (dt_cmp (do_eq hr.units) (dv 1) (d_lst (da_cons d_str da_nil)) (nomark _)) (ds_one (ds_ret (d_lstM da_nil))) ds_nil)
      (ds_one (ds_ret (d_compM (L:=["word"]) (sc:=defScope sread_heap) (N:=["text", "words"]) rfl rfl rfl (by decide +kernel) (di_list (dv 1)) (fun _ _ _ _ _=>(dg_name (i:=2) (show List.Nodup (["text", "words", "word"]:List Str) from by decide +kernel) rfl (by first | exact Or.inl rfl | exact Or.inr rfl))) (fun _ _ _ _ _=>dfs_nil) (fun _ _ _ _ _=>(d_own Oread_point hX (hr.mono (by decide)) rfl (da_cons (dv 2) da_nil)))))))),?_⟩
  have hl:=h1.p.len
  refine ⟨x,bk,rfl,by decide +kernel,by omega,h1.p.n,zl1,_,_,.d _,.d _,sh_strs h1.p.as,by decide +kernel,?_⟩
  rw [eqv_words]
  unfold rdHp at h2
  refine ite2 (fun c=>?_) (fun c=>?_)
  · rw [if_pos (of_decide_eq_true c)] at h2
    cases h2
    exact ⟨zl0,fun p hp=>k p hp⟩
  · rw [if_neg (fun z=>c (decide_eq_true z))] at h2
    have e:=rdAll_map tpI [] h2
    refine ⟨_,.d _,(show ((Txt.split x bk).map PyData.str).length ≤ 4000 by rw [List.length_map]; exact h1.p.n),compM (compAL (as:=Txt.split x bk) (fun y=>tpI ((rdBy cm isPt y).getD [])) Src.d (fun y hy R h=>?_) ?_)⟩
    · obtain ⟨a,ha⟩:=rdAll_each h2 y hy
      rw [ha] at h
      exact ⟨y,a,rfl,h1.q y hy,ha,h⟩
    · intro ys ey p hp
      rw [e] at ey
      cases ey
      exact k p hp
end
end K14
namespace K14
open PySem L2
section
variable {P:Program} {w:World} {K:PySem.W.Frag} {mg:Str → Option Value} {base:Heap} {CX:CXT}
variable {CN:Addr}
def preRH (es:List En) (μ:Mu):Prop:=∃ x:Str,es = [.d (.str x)] ∧ HpOk x ∧ rdHp x = none
theorem ok_read_heapX {f:Addr} {fd:FuncData} (F:Fun K "read_heap" "read_heap" sread_heap f fd) (T:Txt mg) (Osplit_text:Own P w K mg base (XC P w) 1 "split_text" ["text", "mark"] (spUp K sSpl)) (Oread_point:Own P w K mg base (XC P w) 4 "read_point" ["text"] (spOr (spUp K sRP) (spLack K CN preRP))):FnOk P w K mg base (XC P w) 5 f fd ["text"] (spLack K CN preRH):=by
  refine F.okL (N:=["text", "words"]) fun nd cdv A' outer s H E es μ vs Q hr M hS kE hq9=>?_
  obtain ⟨x,e,h1,h2⟩:=hq9
  subst e
  have hl:=h1.p.len
  have hne:¬ Txt.split x bk = nil1:=fun z=>by unfold rdHp at h2; rw [if_pos z] at h2; cases h2
  unfold rdHp at h2
  rw [if_neg hne] at h2
  obtain ⟨i0,hi0,hbad,hgood⟩:=rdAll_no h2
  refine ⟨_,pss_cons (ds_set (K:=K) (i:=1) nd rfl (by first | exact Or.inl rfl | exact Or.inr rfl) (d_own Osplit_text noXC (hr.mono (by decide)) rfl (da_cons (dv 0) (da_cons d_str da_nil))))
    (pss_cons (ps_if (dt_cmp (K:=K) (do_eq hr.units) (dv 1) (d_lst (da_cons d_str da_nil)) (nomark _)) pss_never pss_nil)
    (pss_one (ps_ret (pe_compX rfl (L:=["word"]) (sc:=defScope sread_heap) (N':=["text", "words"]) rfl rfl rfl (by decide +kernel)
      (di_list (K:=K) (dv 1)) (fun _ _ _ _ _=>(dg_name (K:=K) (i:=2) (show List.Nodup (["text", "words", "word"]:List Str) from by decide +kernel) rfl (by first | exact Or.inl rfl | exact Or.inr rfl))) (fun _ _ _ _ _=>dfs_nil (K:=K))
      (fun _ _ _ _ _ _ hp=>pe_ownX (E:=E) Oread_point hp (hr.mono (by decide)) rfl (da_cons (K:=K) (dv 2) da_nil)))))),?_⟩
  refine upS_then (ρ0:=[some (.d (.str x)),some (.d (.list ((Txt.split x bk).map .str)))]) hS M ⟨x,bk,rfl,by decide +kernel,by omega,h1.p.n,rfl,rfl⟩ fun σ' H' S' M' s'=>?_
  refine upT_then false S' M' ⟨zl1,_,_,.d _,.d _,sh_strs h1.p.as,by decide +kernel,?_⟩ fun H2 M2 s2=>iteF ?_
  · rw [eqv_words,decide_eq_false hne]
    exact ⟨rfl,rfl⟩
  refine comp_lack (ds:=(Txt.split x bk).map .str) (i0:=i0) (S'.same s2) M2 rfl ⟨_,.d _,rfl,(show ((Txt.split x bk).map PyData.str).length ≤ 4000 by rw [List.length_map]; exact h1.p.n),Src.d⟩ (by rw [List.length_map]; exact hi0) fun i y ey hi σ2 H3 R S3 M3 s3 kR=>?_
  rw [List.getElem?_map] at ey
  cases ew:(Txt.split x bk)[i]? with
  | none=>rw [ew] at ey; cases ey
  | some wd =>
    rw [ew] at ey
    cases ey
    have hm:=List.mem_of_getElem? ew
    refine call_or (i < i0) S3 M3 rfl (fun g=>?_) (fun g=>?_) (fun g=>kR g) fun g H4 M4 s4=>kE H4 M4 (((s'.trans s2).trans s3).trans s4)
    · obtain ⟨ns,hn⟩:=hgood i wd g ew
      exact ⟨tpI ns,fun Q q=>⟨wd,ns,rfl,h1.q wd hm,hn,q⟩⟩
    · have:i = i0:=by omega
      subst this
      exact ⟨wd,rfl,h1.q wd hm,hbad wd ew⟩
end
end K14
namespace L2
open PySem PySem.Spec PyProof.Rows
def renN (X:Cx) (N':List Str):Cx:={ X with N:=N' }
theorem set_none {σ:List (Option V)} {i j:Nat} {v:V} (h:(σ.set j none)[i]? = some (some v)):i ≠ j ∧ σ[i]? = some (some v):=by
  by_cases e:i = j
  · subst e
    rw [List.getElem?_set_self' ] at h
    cases hh:σ[i]? with
    | none=>rw [hh] at h; cases h
    | some a=>rw [hh] at h; cases h
  · exact ⟨e,by rwa [List.getElem?_set_ne (Ne.symm e)] at h⟩
theorem Cx.Ok.ren {X:Cx} {N':List Str} (ok:X.Ok):(renN X N').Ok :=
  ⟨ok.mod,ok.kind,ok.glob,ok.blt,ok.above,ok.inj,ok.has,ok.cab,ok.hd,ok.frames,ok.stk,ok.exf,ok.bs,ok.bsz,ok.noex,ok.exfs,ok.funs,ok.frf⟩
theorem Cx.Ok.unren {X:Cx} {N':List Str} (ok:(renN X N').Ok):X.Ok :=
  ⟨ok.mod,ok.kind,ok.glob,ok.blt,ok.above,ok.inj,ok.has,ok.cab,ok.hd,ok.frames,ok.stk,ok.exf,ok.bs,ok.bsz,ok.noex,ok.exfs,ok.funs,ok.frf⟩
section
variable {X:Cx} {K:PySem.W.Frag} {pins:List (Addr × Obj)} {σ:List (Option V)} {H:Hp} {s:Shared}
theorem Inv.ren {j:Nat} {d:Str} (I:Inv X pins σ H s):Inv (renN X (X.N.set j d)) pins (σ.set j none) H s :=
  ⟨Cx.Ok.ren I.ok,I.os,I.bare,I.base,by
    obtain ⟨m,hn,h⟩:=I.loc
    refine ⟨m,hn,fun i x v e1 e2 hv=>?_⟩
    obtain ⟨hij,e2⟩:=set_none e2
    have e1:(X.N.set j d)[i]? = some x:=e1
    rw [List.getElem?_set_ne (Ne.symm hij)] at e1
    exact h i x v e1 e2 hv,I.cell,I.free,I.freeC,I.pin,I.hok,by
    show (σ.set j none).length = (X.N.set j d).length
    rw [List.length_set,List.length_set]; exact I.len⟩
theorem Inv.unren {j:Nat} {d:Str} (I:Inv (renN X (X.N.set j d)) pins σ H s):Inv X pins (σ.set j none) H s :=
  ⟨Cx.Ok.unren I.ok,I.os,I.bare,I.base,by
    obtain ⟨m,hn,h⟩:=I.loc
    refine ⟨m,hn,fun i x v e1 e2 hv=>?_⟩
    obtain ⟨hij,e2⟩:=set_none e2
    exact h i x v (show (X.N.set j d)[i]? = some x by rw [List.getElem?_set_ne (Ne.symm hij)]; exact e1) e2 hv,I.cell,I.free,I.freeC,I.pin,I.hok,by
    have:=I.len
    have this:σ.length = (X.N.set j d).length:=this
    rw [List.length_set] at this
    rw [List.length_set]; exact this⟩
theorem RelS.forget {ρ:Rho} {μ:Mu} (j:Nat) (h:RelS K ρ μ σ H):RelS K (ρ.set j none) μ (σ.set j none) H:=by
  refine ⟨by simp [h.len],fun i e q=>?_⟩
  by_cases hj:i = j
  · subst hj
    rw [List.getElem?_set_self'] at q
    cases hh:ρ[i]? with
    | none=>rw [hh] at q; cases q
    | some a=>rw [hh] at q; cases q
  · rw [List.getElem?_set_ne (Ne.symm hj)] at q
    obtain ⟨v,e1,e2⟩:=h.get i e q
    exact ⟨v,by rw [List.getElem?_set_ne (Ne.symm hj)]; exact e1,e2⟩
def dForget (j:Nat) (t:TSd):TSd:=fun D ρ μ=>t { nx:=fun ρ' μ'=>D.nx (ρ'.set j none) μ',rt:=D.rt,bk:=fun ρ' μ'=>D.bk (ρ'.set j none) μ',ct:=fun ρ' μ'=>D.ct (ρ'.set j none) μ' } (ρ.set j none) μ
theorem ds_forget {st:Stmt} {t:TSd} (j:Nat) (d:Str) {N':List Str} (hN:X.N.set j d = N') (h:DS K (renN X N') st t):DS K X st (dForget j t):=by
  subst hN
  intro pins s σ H D I ⟨ρ,μ,D0,hS,hM,ht,cl⟩
  let D':Ends:={ nx:=fun σ' H'=>D.nx (σ'.set j none) H',rt:=D.rt,bk:=fun σ' H'=>D.bk (σ'.set j none) H',ct:=fun σ' H'=>D.ct (σ'.set j none) H' }
  refine wpC_mono (h pins s (σ.set j none) H D' I.ren ⟨ρ.set j none,μ,_,hS.forget j,hM,ht,?_⟩) (fun f s' q=>?_) (fun _ _ x=>x)
  · exact ⟨fun ρ' μ' σ' H' a b c d=>cl.nx _ μ' _ H' a (b.forget j) c d,cl.rt,fun ρ' μ' σ' H' a b c d=>cl.bk _ μ' _ H' a (b.forget j) c d,fun ρ' μ' σ' H' a b c d=>cl.ct _ μ' _ H' a (b.forget j) c d⟩
  · cases f with
    | next=>obtain ⟨σ',H',J,q⟩:=q; exact ⟨_,H',J.unren,q⟩
    | brk=>obtain ⟨σ',H',J,q⟩:=q; exact ⟨_,H',J.unren,q⟩
    | cont=>obtain ⟨σ',H',J,q⟩:=q; exact ⟨_,H',J.unren,q⟩
    | ret u=>obtain ⟨v,σ',H',J,r,q⟩:=q; exact ⟨v,_,H',J.unren,r,q⟩
end
end L2
namespace K14
open PySem L2
section
variable {P:Program} {w:World} {K:PySem.W.Frag} {mg:Str → Option Value} {base:Heap} {CX:CXT}
variable {CN:Addr}
def opI:Option Int → PyData
  | none=>.none
  | some n=>.int n
def sLW:SpD:=fun es μ Q=>∃ x:Str,es = [.d (.str x)] ∧ Asc x ∧ x.length ≤ 3000 ∧ Q (.d (opI (rdN x))) μ
theorem figs_dash {l:List Nat} (h:l.take 1 = [45]):figs l = l.drop 1:=by
  match l,h with
  | a :: r,h =>
    have:a = 45:=by simpa using h
    subst this
    rfl
theorem figs_no {l:List Nat} (h:¬ l.take 1 = [45]):figs l = l:=by
  unfold figs
  split
  · exact absurd rfl h
  · rfl
theorem figs_sub {l:List Nat} {c:Nat} (h:c ∈ figs l):c ∈ l:=by
  by_cases d:l.take 1 = [45]
  · rw [figs_dash d] at h; exact List.mem_of_mem_drop h
  · rwa [figs_no d] at h
theorem figs_len (l:List Nat):(figs l).length ≤ l.length:=by
  by_cases d:l.take 1 = [45]
  · rw [figs_dash d,List.length_drop]; omega
  · rw [figs_no d]; exact Nat.le_refl _
theorem cl_dash:cl ("-" : Str) = [45]:=by decide +kernel
theorem asc128 {y:Str} (h:Asc y):y.cps.all (· < 128) = true:=by
  rw [← Array.all_toList]
  exact List.all_eq_true.mpr fun c hc=>decide_eq_true (h c hc)
theorem sc_lword:FnScope ["_law_word_here", "_law_figures", "_law_found", "_law_figure"] ["_law_word_here"] (defScope s_law_word):=⟨rfl,rfl,rfl,by decide +kernel,rfl,by decide +kernel,by decide +kernel⟩
theorem ok_lword {f:Addr} {fd:FuncData} (F:Fun K "_law_word" "_law_word" s_law_word f fd) (T:Txt mg):FnOk P w K mg base CX 1 f fd ["_law_word_here"] (spUp K sLW):=by
  refine F.okD sc_lword (fun es μ Q hq0=>by obtain ⟨q,z,_⟩:=hq0; subst z; rfl) (fun cdv A outer s H E es μ Q hr hq0=>?_)
  obtain ⟨x,z,h1,h2,k⟩:=hq0
  subst z
  have nd:=sc_lword.nd
  have key2:∃ t,DSs K (cxOf CX P w K mg base ["_law_word_here", "_law_figures", "_law_found", "_law_figure"] "_law_word" (defScope s_law_word) f cdv A outer s H E).nox ((defBody s_law_word).drop 4) t ∧
      ∀ y:Str,cl y = figs (cl x) → Asc y → (∀ c ∈ cl y,48 ≤ c ∧ c ≤ 57) → rdN x = some (wdVal (cl x)) → t { nx:=fun _ μ'=>Q (.d .none) μ',rt:=Q } [some (.d (.str x)),some (.d (.str y)),none,none] μ:=by
    refine ⟨_,(ds_cons (ds_set (i:=2) nd rfl (by first | exact Or.inl rfl | exact Or.inr rfl) d_int)
      (ds_cons (ds_for PassesOwn.never rfl (di_str (dv 1)) (dg_name (i:=3) nd rfl (by first | exact Or.inl rfl | exact Or.inr rfl)) (ds_one (ds_set (i:=2) nd rfl (by first | exact Or.inl rfl | exact Or.inr rfl) (d_op do_add (d_op do_mulL d_int (dv 2)) (d_idx d_str (da_cons (dv 3) da_nil) (h:=pe_bm PySem.F.plainAttrs_str PySem.F.slot_str_index PySem.F.type_str_index mt_idx d_str (da_cons (dv 3) da_nil)))))))
      (ds_one (ds_ret (d_ifExp (dt_cmp (do_ne hr.units) (dv 0) (dv 1) (nomark _)) (d_un du_neg (dv 2)) (dv 2)))))),fun y hy ay hd hw=>?_⟩
    rw [hw] at k
    refine ⟨asc128 ay,forT (fun i ρ' μ'=>μ' = μ ∧ ∃ v,ρ' = [some (.d (.str x)),some (.d (.str y)),some (.d (.int (PySem.NumText.digitsVal ((cl y).take i):Nat))),v]) ⟨rfl,none,rfl⟩ ?_ ?_⟩
    · rintro i z ρ' μ' hz ⟨rfl,v,rfl⟩
      unfold sgs at hz
      rw [List.getElem?_map] at hz
      cases hc:y.cps.toList[i]? with
      | none=>rw [hc] at hz; cases hz
      | some c =>
        rw [hc] at hz
        cases hz
        have hc:(cl y)[i]? = some c:=hc
        obtain ⟨c0,c1⟩:=hd c (List.mem_of_getElem? hc)
        have z:=ten_ix ⟨c - 48,by omega⟩
        have e:c - 48 + 48 = c:=by omega
        refine ⟨(show Builtin.Int.intBits 10 ≤ 64 by decide),c - 48,[],by simp only [e] at z; exact z,Wks.of ⟨rfl,some (.d (.str ⟨#[c]⟩)),?_⟩⟩
        rw [take_snoc hc,dv_snoc]
        have:(10:Int) * ((PySem.NumText.digitsVal ((cl y).take i):Nat):Int) + ((c - 48:Nat):Int) = ((PySem.NumText.digitsVal ((cl y).take i) * 10 + (c - 48):Nat):Int):=by omega
        rw [← this]
        rfl
    · rintro ρ' μ' ⟨rfl,v,rfl⟩
      have el:(sgs y).length = (cl y).length:=by unfold sgs; rw [List.length_map]
      rw [el,List.take_length]
      refine ⟨_,_,.d _,.d _,h1.ok,ay.ok,?_⟩
      rw [eqv_strs]
      unfold wdVal at k
      refine ite2 (fun c=>?_) (fun c=>?_)
      · have c:x ≠ y:=fun z=>by rw [decide_eq_true z] at c; cases c
        rw [if_neg (fun z=>c (cl_ext (z.trans hy.symm))),← hy] at k
        exact k
      · have c:x = y:=by
          by_cases z:x = y
          · exact z
          · rw [decide_eq_false z] at c; exact absurd rfl c
        rw [if_pos (by rw [← hy,c]),← hy] at k
        exact k
  obtain ⟨t2,ht,hk2⟩:=key2
  have key:∃ t,DSs K (cxOf CX P w K mg base ["_law_word_here", "_law_figures", "_law_found", "_law_figure"] "_law_word" (defScope s_law_word) f cdv A outer s H E).nox ((defBody s_law_word).drop 2) t ∧
      ∀ y:Str,cl y = figs (cl x) → t { nx:=fun _ μ'=>Q (.d .none) μ',rt:=Q } [some (.d (.str x)),some (.d (.str y)),none,none] μ:=by
    refine ⟨_,(ds_cons (ds_forget 3 "_hid3" (N':=["_law_word_here", "_law_figures", "_law_found", "_hid3"]) rfl (ds_if (dt_w (dw_or (dt_cmp (do_eq hr.units) (dv 1) d_str (nomark _)) (dw_or1 (dt_not (dt_val (d_callB (dc_all rfl) (by rfl) T.all_ bt_all (da_cons (d_comp (L:=["_law_figure"]) (sc:=defScope s_law_word) (N:=["_law_word_here", "_law_figures", "_law_found", "_hid3"]) rfl rfl rfl (by decide +kernel) (di_str (dv 1)) (fun _ _ _ _ _=>(dg_name (i:=4) (show List.Nodup (["_law_word_here", "_law_figures", "_law_found", "_hid3", "_law_figure"]:List Str) from by decide +kernel) rfl (by first | exact Or.inl rfl | exact Or.inr rfl))) (fun _ _ _ _ _=>dfs_nil) (fun _ _ _ _ _=>(d_cmp do_inS (dv 4) d_str rfl))) da_nil))))))) (ds_one (ds_ret d_non)) ds_nil))
      (ds_cons (ds_if (dt_w (dw_and (dt_cmp (do_eq hr.units) (d_ix dx_str (dv 1) d_int (fun _ _=>rfl)) d_str (nomark _)) (dw_and1 (dt_w (dw_or (dt_cmp do_gt (d_callB dc_lenS (by rfl) T.len_ bt_len (da_cons (dv 1) da_nil)) d_int (nomark _)) (dw_or1 (dt_cmp (do_ne hr.units) (dv 0) (dv 1) (nomark _)))))))) (ds_one (ds_ret d_non)) ds_nil)
      ht)),fun y hy=>?_⟩
    have ay:Asc y:=fun c hc=>by rw [hy] at hc; exact h1 c (figs_sub hc)
    have ly:y.length ≤ 3000:=by have:=figs_len (cl x); rw [← hy,cl_len,cl_len] at this; omega
    refine ⟨_,_,.d _,.d _,ay.ok,by decide +kernel,?_⟩
    rw [eqv_strs]
    refine ite2 (fun c=>?_) (fun c=>?_)
    · have c:y = "" := of_decide_eq_true c
      have e:rdN x = none:=by unfold rdN wdOk; rw [← hy,c]; rfl
      rw [e] at k
      exact k
    · have ny:cl y ≠ []:=fun z=>c (decide_eq_true (cl_ext (z.trans rfl)))
      refine ⟨asc128 ay,(show (sgs y).length ≤ 4000 by unfold sgs; rw [List.length_map]; have:=cl_len y; unfold cl at this; omega),compAL (as:=cl y) (h:=fun c=>.str ⟨#[c]⟩) (fun c=>.bool (isDig c)) Src.t (fun c hc R h=>?_) ?_⟩
      · have z:=ten_in ⟨c,ay c hc⟩
        exact (show R (.d (.bool (!(Builtin.Str.occurrences ten ⟨#[c]⟩ 0 ten.length 1).isEmpty))) μ from z ▸ h)
      · refine ⟨(cl y).map isDig,by rw [List.map_map]; exact .d _,?_⟩
        refine ite2 (fun c2=>?_) (fun c2=>?_)
        · have z:(cl y).all isDig = false:=by simpa using c2
          have e:rdN x = none:=by unfold rdN wdOk; rw [← hy,z]; simp
          rw [e] at k
          exact k
        · have z:(cl y).all isDig = true:=by simpa using c2
          have hd:∀ c ∈ cl y,48 ≤ c ∧ c ≤ 57:=fun c hc=>of_decide_eq_true (List.all_eq_true.mp z c hc)
          obtain ⟨a,r,er⟩:∃ a r,cl y = a :: r:=by
            match h:cl y,ny with
            | a :: r,_=>exact ⟨a,r,rfl⟩
          have as:Asc (⟨#[a]⟩:Str):=fun c hc=>by
            have:c = a:=by simpa [cl] using hc
            subst this
            exact ay c (by rw [er]; simp)
          have c48:cl ("0" : Str) = [48]:=by decide +kernel
          have ly1:y.length = r.length + 1:=by rw [← cl_len,er]; rfl
          refine ⟨by omega,a,atI_nat (j:=0) (by rw [er]; rfl),_,_,.d _,.d _,as.ok,by decide +kernel,?_⟩
          rw [eqv_strs]
          have ok:(a = 48 → r = [] ∧ cl x = cl y) → rdN x = some (wdVal (cl x)):=fun hh=>by
            have e:wdOk (cl x) = true:=by
              unfold wdOk
              rw [← hy,z,er]
              by_cases ha:a = 48
              · obtain ⟨h3,h4⟩:=hh ha
                rw [h4,er,h3]; simp
              · simp [ha]
            unfold rdN
            rw [if_pos e]
          have bad:a = 48 → (r ≠ [] ∨ cl x ≠ cl y) → rdN x = none:=fun ha hh=>by
            have e:wdOk (cl x) = false:=by
              unfold wdOk
              rw [← hy,z,er,ha]
              rcases hh with h | h
              · have:r.length ≠ 0:=fun q=>h (List.length_eq_zero_iff.mp q)
                have:1 < r.length + 1:=by omega
                simp [this]
              · rw [er,ha] at h
                simp [h]
            unfold rdN
            rw [e]; rfl
          refine ite2 (fun c3=>?_) (fun c3=>?_)
          · have ha:a = 48:=by
              have:=congrArg cl (of_decide_eq_true c3)
              rw [c48] at this
              simpa [cl] using this
            refine ⟨by omega,?_⟩
            refine ite2 (fun c4=>?_) (fun c4=>?_)
            · have c4:(1:Int) < (y.length:Int):=of_decide_eq_true c4
              rw [bad ha (.inl fun q=>by rw [q] at ly1; simp at ly1; omega)] at k
              exact k
            · have c4:¬ (1:Int) < (y.length:Int):=fun q=>c4 (decide_eq_true q)
              have hr0:r = []:=List.length_eq_zero_iff.mp (by omega)
              refine ⟨_,_,.d _,.d _,h1.ok,ay.ok,?_⟩
              rw [eqv_strs]
              refine ite2 (fun c5=>?_) (fun c5=>?_)
              · have c5:x ≠ y:=fun q=>by rw [decide_eq_true q] at c5; cases c5
                rw [bad ha (.inr fun q=>c5 (cl_ext q))] at k
                exact k
              · have c5:x = y:=by
                  by_cases q:x = y
                  · exact q
                  · rw [decide_eq_false q] at c5; exact absurd rfl c5
                exact hk2 y hy ay hd (ok fun _=>⟨hr0,by rw [c5]⟩)
          · have ha:a ≠ 48:=fun q=>c3 (decide_eq_true (by subst q; exact cl_ext (c48 ▸ rfl)))
            exact hk2 y hy ay hd (ok fun q=>absurd q ha)
  clear ht
  obtain ⟨t,ht,hk⟩:=key
  refine ⟨_,(ds_cons (ds_set (i:=1) nd rfl (by first | exact Or.inl rfl | exact Or.inr rfl) (dv 0))
      (ds_cons (ds_if (dt_cmp (do_eq hr.units) (d_sliceS (dv 0) dp_none (dp_some d_int)) d_str (nomark _)) (ds_one (ds_set (i:=1) nd rfl (by first | exact Or.inl rfl | exact Or.inr rfl) (d_sliceS (dv 0) (dp_some d_int) dp_none))) ds_nil)
      ht)),?_⟩
  have a1:Asc (Txt.slice x none (some ((1:Nat):Int))):=fun c hc=>by
    rw [cl_slice_to] at hc
    exact h1 c (List.mem_of_mem_take hc)
  refine ⟨by omega,_,_,.d _,.d _,a1.ok,by decide +kernel,?_⟩
  rw [eqv_strs]
  refine ite2 (fun c=>?_) (fun c=>?_)
  · have c:=congrArg cl (of_decide_eq_true c)
    rw [show (some (1:Int)) = some ((1:Nat):Int) from rfl,cl_slice_to,cl_dash] at c
    exact ⟨by omega,hk _ (by rw [show (some (1:Int)) = some ((1:Nat):Int) from rfl,cl_slice_from,figs_dash c])⟩
  · refine hk _ (figs_no fun z=>c (decide_eq_true (cl_ext ?_))).symm
    rw [show (some (1:Int)) = some ((1:Nat):Int) from rfl,cl_slice_to,cl_dash,z]
end
end K14
namespace K14
open PySem L2
section
variable {P:Program} {w:World} {K:PySem.W.Frag} {mg:Str → Option Value} {base:Heap} {CX:CXT}
variable {CN:Addr}
def opT:Option (List Int) → PyData
  | none=>.none
  | some ns=>tpI ns
theorem isPt_len {ns:List Int} (h:ns.length ≠ 2):isPt ns = false:=by
  match ns,h with
  | [],_=>rfl
  | [a],_=>rfl
  | [a,b],h=>exact absurd rfl h
  | a :: b :: c :: r,_=>rfl
theorem rdPt_len {x:Str} (h:(Txt.split x cm).length ≠ 2):rdBy cm isPt x = none:=by
  unfold rdBy
  cases e:rdAll rdN (Txt.split x cm) with
  | none=>rfl
  | some ns =>
    have:isPt ns = false:=isPt_len (by rw [rdAll_len e]; exact h)
    simp [this]
def sLP:SpD:=fun es μ Q=>∃ x:Str,es = [.d (.str x)] ∧ Pcs cm x ∧ Q (.d (opT (rdBy cm isPt x))) μ
theorem sc_lpt:FnScope ["_law_text", "_law_found"] ["_law_text"] (defScope s_law_point_of):=⟨rfl,rfl,rfl,by decide +kernel,rfl,by decide +kernel,by decide +kernel⟩
theorem ok_lpt {f:Addr} {fd:FuncData} (F:Fun K "_law_point_of" "_law_point_of" s_law_point_of f fd) (T:Txt mg) (hX:NoX CX) (O_law_word:Own P w K mg base CX 1 "_law_word" ["_law_word_here"] (spUp K sLW)):FnOk P w K mg base CX 2 f fd ["_law_text"] (spUp K sLP):=by
  refine F.okD sc_lpt (fun es μ Q hq0=>by obtain ⟨q,z,_⟩:=hq0; subst z; rfl) (fun cdv A outer s H E es μ Q hr hq0=>?_)
  obtain ⟨x,z,h1,k⟩:=hq0
  subst z
  have nd:=sc_lpt.nd
  refine ⟨_,(ds_cons (ds_setc (i:=1) nd rfl (by first | exact Or.inl rfl | exact Or.inr rfl) (L:=["_law_word_here"]) (sc:=defScope s_law_point_of) (N:=["_law_text", "_law_found"]) rfl rfl rfl (by decide +kernel) (di_list (d_split (dv 0) (da_cons d_str da_nil) (h:=pe_bm PySem.F.plainAttrs_str PySem.F.slot_str_split PySem.F.type_str_split mt_split (dv 0) (da_cons d_str da_nil)))) (fun _ _ _ _ _=>(dg_name (i:=2) (show List.Nodup (["_law_text", "_law_found", "_law_word_here"]:List Str) from by decide +kernel) rfl (by first | exact Or.inl rfl | exact Or.inr rfl))) (fun _ _ _ _ _=>dfs_nil) (fun _ _ _ _ _=>(d_own O_law_word hX (hr.mono (by decide)) rfl (da_cons (dv 2) da_nil))))
      (ds_cons (ds_if (dt_w (dw_or (dt_cmp (do_ne hr.units) (d_callB dc_len (by rfl) T.len_ bt_len (da_cons (dv 1) da_nil)) d_int (nomark _)) (dw_or (dt_cmp (do_in hr.u66) d_non (dv 1) rfl) (dw_or1 (dt_cmp do_ge (d_callB (dc_max rfl) (by rfl) T.max_ bt_max (da_cons (d_callB dc_abs (by rfl) T.abs_ bt_abs (da_cons (d_ix dx_seq (dv 1) d_int (fun _ _=>rfl)) da_nil)) (da_cons (d_callB dc_abs (by rfl) T.abs_ bt_abs (da_cons (d_ix dx_seq (dv 1) d_int (fun _ _=>rfl)) da_nil)) da_nil))) (d_op do_pow d_int d_int) (nomark _)))))) (ds_one (ds_ret d_non)) ds_nil)
      (ds_one (ds_ret (d_callTy dc_tuple (by rfl) T.tuple_ bt_tuple (da_cons (dv 1) da_nil)))))),?_⟩
  have hl:=h1.len
  refine ⟨by decide +kernel,by omega,h1.n,_,.d _,(show ((Txt.split x cm).map PyData.str).length ≤ 4000 by rw [List.length_map]; exact h1.n),compAL (as:=Txt.split x cm) (fun y=>opI (rdN y)) Src.d (fun y hy R h=>⟨y,rfl,h1.as y hy,by have:=h1.sh y hy; omega,h⟩) ?_⟩
  have hn:=rdPt_len (x:=x)
  have hb:rdBy cm isPt x = match rdAll rdN (Txt.split x cm) with | some ns=>if isPt ns = true then some ns else none | none=>none:=rfl
  generalize Txt.split x cm = ws at hn hb
  match ws,hn,hb with
  | [],hn,hb=>rw [hn (by simp)] at k; exact ⟨_,.l (.d _),k⟩
  | [a],hn,hb=>rw [hn (by simp)] at k; exact ⟨_,.l (.d _),k⟩
  | a :: b :: c :: r,hn,hb=>rw [hn (by simp)] at k; exact ⟨_,.l (.d _),k⟩
  | [a,b],hn,hb =>
    rw [show List.map (fun y=>opI (rdN y)) [a,b] = [opI (rdN a),opI (rdN b)] from rfl]
    cases ha:rdN a with
    | none =>
      have hb:rdBy cm isPt x = none:=by rw [hb]; simp [rdAll,ha]
      rw [hb] at k
      exact ⟨_,.l (.d _),.none,[opI none,opI (rdN b)],rfl,.d _,by decide +kernel,by cases rdN b <;> rfl,k⟩
    | some n =>
      cases hb':rdN b with
      | none =>
        have hb:rdBy cm isPt x = none:=by rw [hb]; simp [rdAll,ha,hb']
        rw [hb] at k
        exact ⟨_,.l (.d _),.none,[opI (some n),opI none],rfl,.d _,by decide +kernel,rfl,k⟩
      | some m =>
        have hb:rdBy cm isPt x = if isPt [n,m] = true then some [n,m] else none:=by rw [hb]; simp [rdAll,ha,hb']
        refine ⟨_,.l (.d _),.none,[opI (some n),opI (some m)],rfl,.d _,by decide +kernel,rfl,?_⟩
        refine ⟨_,atI_nat (j:=0) rfl,_,atI_nat (j:=1) rfl,⟨by decide,by decide,by decide⟩,?_⟩
        have e2:isPt [n,m] = (few n && few m):=rfl
        have e3:(10:Int) ^ (30:Int).toNat = 1000000000000000000000000000000:=e30'
        show (if decide ((10:Int) ^ (30:Int).toNat ≤ (if ((n.natAbs:Nat):Int) < ((m.natAbs:Nat):Int) then ((m.natAbs:Nat):Int) else ((n.natAbs:Nat):Int))) = true then _ else _)
        rw [e3]
        refine ite2 (fun c=>?_) (fun c=>?_)
        · have c:=of_decide_eq_true c
          have f:(few n && few m) = false:=by
            unfold few
            by_cases h:((n.natAbs:Nat):Int) < ((m.natAbs:Nat):Int)
            · rw [if_pos h] at c
              rw [decide_eq_false (p:=m.natAbs < _) (by omega),Bool.and_false]
            · rw [if_neg h] at c
              rw [decide_eq_false (p:=n.natAbs < _) (by omega),Bool.false_and]
          rw [hb,e2,f] at k
          exact k
        · have c:=Int.not_le.mp fun z=>c (decide_eq_true z)
          have f:(few n && few m) = true:=by
            unfold few
            by_cases h:((n.natAbs:Nat):Int) < ((m.natAbs:Nat):Int)
            · rw [if_pos h] at c
              rw [decide_eq_true (p:=n.natAbs < _) (by omega),decide_eq_true (p:=m.natAbs < _) (by omega)]; rfl
            · rw [if_neg h] at c
              rw [decide_eq_true (p:=n.natAbs < _) (by omega),decide_eq_true (p:=m.natAbs < _) (by omega)]; rfl
          rw [hb,e2,f] at k
          exact ⟨_,.d _,k⟩
end
end K14
namespace K14
open PySem L2
section
variable {P:Program} {w:World} {K:PySem.W.Frag} {mg:Str → Option Value} {base:Heap} {CX:CXT}
variable {CN:Addr}
theorem isLn_len {ns:List Int} (h:ns.length ≠ 3):isLn ns = false:=by
  match ns,h with
  | [],_=>rfl
  | [a],_=>rfl
  | [a,b],_=>rfl
  | [a,b,c],h=>exact absurd rfl h
  | a :: b :: c :: d :: r,_=>rfl
theorem rdLn_len {x:Str} (h:(Txt.split x bk).length ≠ 3):rdBy bk isLn x = none:=by
  unfold rdBy
  cases e:rdAll rdN (Txt.split x bk) with
  | none=>rfl
  | some ns =>
    have:isLn ns = false:=isLn_len (by rw [rdAll_len e]; exact h)
    simp [this]
def sLL:SpD:=fun es μ Q=>∃ x:Str,es = [.d (.str x)] ∧ Pcs bk x ∧ Q (.d (opT (rdBy bk isLn x))) μ
theorem sc_lln:FnScope ["_law_text", "_law_found"] ["_law_text"] (defScope s_law_line_of):=⟨rfl,rfl,rfl,by decide +kernel,rfl,by decide +kernel,by decide +kernel⟩
theorem ok_lln {f:Addr} {fd:FuncData} (F:Fun K "_law_line_of" "_law_line_of" s_law_line_of f fd) (T:Txt mg) (hX:NoX CX) (O_law_word:Own P w K mg base CX 1 "_law_word" ["_law_word_here"] (spUp K sLW)) (O_law_divisor:Own P w K mg base CX 1 "_law_divisor" ["_law_one", "_law_other"] (spUp K sGcd)):FnOk P w K mg base CX 2 f fd ["_law_text"] (spUp K sLL):=by
  refine F.okD sc_lln (fun es μ Q hq0=>by obtain ⟨q,z,_⟩:=hq0; subst z; rfl) (fun cdv A outer s H E es μ Q hr hq0=>?_)
  obtain ⟨x,z,h1,k⟩:=hq0
  subst z
  have nd:=sc_lln.nd
  refine ⟨_,(ds_cons (ds_setc (i:=1) nd rfl (by first | exact Or.inl rfl | exact Or.inr rfl) (L:=["_law_word_here"]) (sc:=defScope s_law_line_of) (N:=["_law_text", "_law_found"]) rfl rfl rfl (by decide +kernel) (di_list (d_split (dv 0) (da_cons d_str da_nil) (h:=pe_bm PySem.F.plainAttrs_str PySem.F.slot_str_split PySem.F.type_str_split mt_split (dv 0) (da_cons d_str da_nil)))) (fun _ _ _ _ _=>(dg_name (i:=2) (show List.Nodup (["_law_text", "_law_found", "_law_word_here"]:List Str) from by decide +kernel) rfl (by first | exact Or.inl rfl | exact Or.inr rfl))) (fun _ _ _ _ _=>dfs_nil) (fun _ _ _ _ _=>(d_own O_law_word hX (hr.mono (by decide)) rfl (da_cons (dv 2) da_nil))))
      (ds_cons (ds_if (dt_w (dw_or (dt_cmp (do_ne hr.units) (d_callB dc_len (by rfl) T.len_ bt_len (da_cons (dv 1) da_nil)) d_int (nomark _)) (dw_or (dt_cmp (do_in hr.u66) d_non (dv 1) rfl) (dw_or1 (dt_cmp (do_ne hr.units) (d_own O_law_divisor hX (hr.mono (by decide)) rfl (da_cons (d_ix dx_seq (dv 1) d_int (fun _ _=>rfl)) (da_cons (d_ix dx_seq (dv 1) d_int (fun _ _=>rfl)) da_nil))) d_int (nomark _)))))) (ds_one (ds_ret d_non)) ds_nil)
      (ds_cons (ds_if (dt_w (dw_or (dt_cmp do_lt (d_ix dx_seq (dv 1) d_int (fun _ _=>rfl)) d_int (nomark _)) (dw_or1 (dt_w (dw_and (dt_cmp (do_eq hr.units) (d_ix dx_seq (dv 1) d_int (fun _ _=>rfl)) d_int (nomark _)) (dw_and1 (dt_cmp (do_ne hr.units) (d_ix dx_seq (dv 1) d_int (fun _ _=>rfl)) d_int (nomark _)))))))) (ds_one (ds_ret d_non)) ds_nil)
      (ds_one (ds_ret (d_callTy dc_tuple (by rfl) T.tuple_ bt_tuple (da_cons (dv 1) da_nil))))))),?_⟩
  have hl:=h1.len
  refine ⟨by decide +kernel,by omega,h1.n,_,.d _,(show ((Txt.split x bk).map PyData.str).length ≤ 4000 by rw [List.length_map]; exact h1.n),compAL (as:=Txt.split x bk) (fun y=>opI (rdN y)) Src.d (fun y hy R h=>⟨y,rfl,h1.as y hy,by have:=h1.sh y hy; omega,h⟩) ?_⟩
  have hn:=rdLn_len (x:=x)
  have hb:rdBy bk isLn x = match rdAll rdN (Txt.split x bk) with | some ns=>if isLn ns = true then some ns else none | none=>none:=rfl
  generalize Txt.split x bk = ws at hn hb
  match ws,hn,hb with
  | [],hn,hb=>rw [hn (by simp)] at k; exact ⟨_,.l (.d _),k⟩
  | [a],hn,hb=>rw [hn (by simp)] at k; exact ⟨_,.l (.d _),k⟩
  | [a,b],hn,hb=>rw [hn (by simp)] at k; exact ⟨_,.l (.d _),k⟩
  | a :: b :: c :: d :: r,hn,hb=>rw [hn (by simp)] at k; exact ⟨_,.l (.d _),k⟩
  | [a,b,c],hn,hb =>
    rw [show List.map (fun y=>opI (rdN y)) [a,b,c] = [opI (rdN a),opI (rdN b),opI (rdN c)] from rfl]
    cases ha:rdN a with
    | none =>
      have hb:rdBy bk isLn x = none:=by rw [hb]; simp [rdAll,ha]
      rw [hb] at k
      exact ⟨_,.l (.d _),.none,[opI none,opI (rdN b),opI (rdN c)],rfl,.d _,by decide +kernel,by cases rdN b <;> cases rdN c <;> rfl,k⟩
    | some n =>
      cases hb':rdN b with
      | none =>
        have hb:rdBy bk isLn x = none:=by rw [hb]; simp [rdAll,ha,hb']
        rw [hb] at k
        exact ⟨_,.l (.d _),.none,[opI (some n),opI none,opI (rdN c)],rfl,.d _,by decide +kernel,by cases rdN c <;> rfl,k⟩
      | some m =>
        cases hc':rdN c with
        | none =>
          have hb:rdBy bk isLn x = none:=by rw [hb]; simp [rdAll,ha,hb',hc']
          rw [hb] at k
          exact ⟨_,.l (.d _),.none,[opI (some n),opI (some m),opI none],rfl,.d _,by decide +kernel,rfl,k⟩
        | some l =>
          have hb:rdBy bk isLn x = if isLd n m = true then some [n,m,l] else none:=by rw [hb]; simp only [rdAll,ha,hb',hc']; rfl
          refine ⟨_,.l (.d _),.none,[opI (some n),opI (some m),opI (some l)],rfl,.d _,by decide +kernel,rfl,?_⟩
          refine ⟨_,atI_nat (j:=0) rfl,_,atI_nat (j:=1) rfl,n,m,rfl,?_⟩
          show (if (!decide (((Int.gcd n m:Nat):Int) = 1)) = true then _ else _)
          unfold isLd at hb
          refine ite2 (fun c=>?_) (fun c=>?_)
          · have g:Int.gcd n m ≠ 1:=fun z=>by rw [decide_eq_true (by omega)] at c; cases c
            rw [hb,decide_eq_false g,Bool.false_and] at k
            exact k
          · have g:Int.gcd n m = 1:=by
              by_cases z:Int.gcd n m = 1
              · exact z
              · rw [decide_eq_false (by omega)] at c; exact absurd rfl c
            rw [hb,decide_eq_true g,Bool.true_and] at k
            refine ⟨_,atI_nat (j:=0) rfl,?_⟩
            show (if decide (n < 0) = true then _ else _)
            refine ite2 (fun c=>?_) (fun c=>?_)
            · have c:=of_decide_eq_true c
              rw [decide_eq_false (p:=0 < n) (by omega),decide_eq_false (p:=n = 0) (by omega)] at k
              exact k
            · have c:=Int.not_lt.mp fun z=>c (decide_eq_true z)
              refine ⟨_,atI_nat (j:=0) rfl,?_⟩
              show (if decide (n = 0) = true then _ else _)
              refine ite2 (fun c1=>?_) (fun c1=>?_)
              · have c1:=of_decide_eq_true c1
                refine ⟨_,atI_nat (j:=1) rfl,?_⟩
                show (if (!decide (m = 1)) = true then _ else _)
                rw [decide_eq_false (p:=0 < n) (by omega),decide_eq_true c1] at k
                refine ite2 (fun c2=>?_) (fun c2=>?_)
                · have:m ≠ 1:=fun z=>by rw [decide_eq_true z] at c2; cases c2
                  rw [decide_eq_false this] at k
                  exact k
                · have:m = 1:=by
                    by_cases z:m = 1
                    · exact z
                    · rw [decide_eq_false z] at c2; exact absurd rfl c2
                  rw [decide_eq_true this] at k
                  exact ⟨_,.d _,k⟩
              · have c1:n ≠ 0:=fun z=>c1 (decide_eq_true z)
                rw [decide_eq_true (p:=0 < n) (by omega)] at k
                exact iteF ⟨_,.d _,k⟩
end
end K14
namespace L2
open PySem PySem.Spec PyProof.Rows
def RB (m B:Nat) (l:List Nat):Prop:=∀ i n,m ∉ (l.drop i).take n → ((l.drop i).take n).length ≤ B
theorem RB.mono {m B B':Nat} {l:List Nat} (h:RB m B l) (hb:B ≤ B'):RB m B' l:=fun i n hn=>Nat.le_trans (h i n hn) hb
theorem RB.len {m B:Nat} {l:List Nat} (h:l.length ≤ B):RB m B l:=fun i n _=>by
  rw [List.length_take,List.length_drop]; omega
theorem RB.drop {m B:Nat} {l:List Nat} (h:RB m B l) (k:Nat):RB m B (l.drop k):=fun i n hn=>by
  rw [List.drop_drop] at hn ⊢
  exact h _ _ hn
theorem RB.take {m B:Nat} {l:List Nat} (h:RB m B l) (k:Nat):RB m B (l.take k):=fun i n hn=>by
  rw [List.drop_take,List.take_take] at hn ⊢
  exact h _ _ hn
theorem RB.sub {m B:Nat} {l u v w:List Nat} (h:RB m B l) (e:l = u ++ v ++ w):RB m B v:=by
  have:=(h.drop u.length).take v.length
  rw [e,List.append_assoc,List.drop_left,List.take_left] at this
  exact this
theorem RB.word {m B:Nat} {l u v w:List Nat} (h:RB m B l) (e:l = u ++ v ++ w) (hm:m ∉ v):v.length ≤ B:=by
  have:=h.sub e 0 v.length
  rw [List.drop_zero,List.take_length] at this
  exact this hm
theorem cut_app (a b:List Nat) (i n:Nat):((a ++ b).drop i).take n = (a.drop i).take n ++ (b.drop (i - a.length)).take (n - (a.drop i).length):=by
  rw [List.drop_append,List.take_append]
theorem RB.app {m B C:Nat} {a b:List Nat} (h:RB m B a) (g:RB m C b):RB m (B + C) (a ++ b):=fun i n hn=>by
  rw [cut_app] at hn ⊢
  rw [List.mem_append,not_or] at hn
  rw [List.length_append]
  have:=h i n hn.1
  have:=g _ _ hn.2
  omega
theorem RB.cut {m B:Nat} {a b:List Nat} (h:RB m B a) (g:RB m B b):RB m B (a ++ m :: b):=fun i n hn=>by
  rw [cut_app] at hn ⊢
  rw [List.mem_append,not_or] at hn
  rw [List.length_append]
  by_cases hi:i ≤ a.length
  · rw [show i - a.length = 0 by omega,List.drop_zero] at hn ⊢
    have h1:=h i n hn.1
    cases hk:n - (a.drop i).length with
    | zero=>simpa using h1
    | succ k=>rw [hk] at hn; simp at hn
  · have e:a.drop i = []:=List.drop_of_length_le (by omega)
    obtain ⟨k,hk⟩:∃ k,i - a.length = k + 1:=⟨i - a.length - 1,by omega⟩
    rw [e,hk,List.drop_succ_cons] at hn ⊢
    have:=g _ _ hn.2
    simpa using this
structure Spt (W:Nat) (x:Str):Prop where
  asc:Asc x
  bk:RB 32 W (cl x)
  len:x.length ≤ 449 + W
  cm:RB 44 W (cl x) ∨ x.length ≤ 65 + W
theorem Spt.mono {W W':Nat} {x:Str} (h:Spt W x) (hw:W ≤ W'):Spt W' x:=⟨h.asc,h.bk.mono hw,by have:=h.len; omega,by
  rcases h.cm with z | z
  · exact .inl (z.mono hw)
  · exact .inr (by omega)⟩
theorem Spt.of2 {W:Nat} {x z:Str} {a v b:List Nat} (h:Spt W x) (e:cl z = a ++ v ++ b) (ha:∃ u w,cl x = u ++ a ++ w) (hb:∃ u w,cl x = u ++ b ++ w) (hv:v.length ≤ 1) (hva:∀ c ∈ v,c < 128) (hl:z.length ≤ x.length + W + 1):Spt (W + W + 1) z:=by
  obtain ⟨u1,w1,e1⟩:=ha
  obtain ⟨u2,w2,e2⟩:=hb
  refine ⟨fun c hc=>?_,?_,by have:=h.len; omega,?_⟩
  · rw [e] at hc
    rcases List.mem_append.mp hc with hc | hc
    · rcases List.mem_append.mp hc with hc | hc
      · exact h.asc c (by rw [e1]; simp [hc])
      · exact hva c hc
    · exact h.asc c (by rw [e2]; simp [hc])
  · rw [e]
    exact (((h.bk.sub e1).app (RB.len hv)).app (h.bk.sub e2)).mono (by omega)
  · rcases h.cm with g | g
    · left
      rw [e]
      exact (((g.sub e1).app (RB.len hv)).app (g.sub e2)).mono (by omega)
    · right; omega
theorem Spt.sign {W:Nat} {x z:Str} {v:List Nat} {i j:Nat} (h:Spt W x) (e:cl z = (cl x).take i ++ v ++ (cl x).drop j) (hij:i ≤ j) (hv:v.length ≤ 1) (hva:∀ c ∈ v,c < 128):Spt (W + W + 1) z:=by
  refine h.of2 e ⟨[],(cl x).drop i,by simp⟩ ⟨(cl x).take j,[],by simp⟩ hv hva ?_
  have l1:=cl_len z
  have l2:=cl_len x
  rw [e,List.length_append,List.length_append,List.length_take,List.length_drop] at l1
  omega
def tl (ws:List Str):Nat:=(ws.map fun w=>w.length + 1).sum
theorem tl_app (a b:List Str):tl (a ++ b) = tl a + tl b:=by unfold tl; rw [List.map_append,List.sum_append]
theorem tl_ge:∀ {ws:List Str},ws ≠ [] → 1 ≤ tl ws
  | a :: r,_=>by unfold tl; simp only [List.map_cons,List.sum_cons]; omega
theorem join_tl:∀ ws:List Str,(Str.join bk ws).length = tl ws - 1
  | []=>rfl
  | [a]=>by rw [join1]; unfold tl; simp
  | a :: b :: r=>by
    have h:=join_tl (b :: r)
    have g:=tl_ge (ws:=b :: r) (by simp)
    rw [← cl_len,join_cl cl_bk,List.length_append,List.length_cons,cl_len,cl_len,h]
    have:tl (a :: b :: r) = a.length + 1 + tl (b :: r):=by unfold tl; simp only [List.map_cons,List.sum_cons]
    omega
theorem join_app:∀ {as bs:List Str},as ≠ [] → bs ≠ [] → cl (Str.join bk (as ++ bs)) = cl (Str.join bk as) ++ 32 :: cl (Str.join bk bs)
  | [a],b :: r,_,_=>by rw [List.singleton_append,join_cl cl_bk,join1]
  | a :: c :: q,bs,_,hb=>by
    have:=join_app (as:=c :: q) (by simp) hb
    rw [List.cons_append,List.cons_append,join_cl cl_bk,← List.cons_append,this,join_cl cl_bk]
    simp
theorem join_l (as bs:List Str):∃ u w,cl (Str.join bk (as ++ bs)) = u ++ cl (Str.join bk as) ++ w:=by
  by_cases ha:as = []
  · subst ha; exact ⟨[],_,by rw [show cl (Str.join bk []) = [] from rfl]; simp; rfl⟩
  · by_cases hb:bs = []
    · subst hb; exact ⟨[],[],by simp⟩
    · exact ⟨[],_,by rw [join_app ha hb]; simp; rfl⟩
theorem join_r (as bs:List Str):∃ u w,cl (Str.join bk (as ++ bs)) = u ++ cl (Str.join bk bs) ++ w:=by
  by_cases ha:as = []
  · subst ha; exact ⟨[],[],by simp⟩
  · by_cases hb:bs = []
    · subst hb; exact ⟨_,[],by rw [show cl (Str.join bk []) = [] from rfl]; simp; rfl⟩
    · exact ⟨cl (Str.join bk as) ++ [32],[],by rw [join_app ha hb]; simp⟩
theorem Spt.words {W:Nat} {x:Str} (h:Spt W x) {as bs:List Str} (ha:∃ u w,cl x = u ++ cl (Str.join L2.bk as) ++ w) (hb:∃ u w,cl x = u ++ cl (Str.join L2.bk bs) ++ w) (hl:tl as + tl bs ≤ x.length + W + 2):Spt (W + W + 1) (Str.join L2.bk (as ++ bs)):=by
  have hz:(Str.join L2.bk (as ++ bs)).length ≤ x.length + W + 1:=by rw [join_tl,tl_app]; omega
  by_cases a0:as = []
  · subst a0; exact h.of2 (a:=[]) (v:=[]) rfl ⟨[],cl x,by simp⟩ hb (by simp) (by simp) hz
  · by_cases b0:bs = []
    · subst b0; exact h.of2 (v:=[]) (b:=[]) (by rw [List.append_nil]; simp) ha ⟨[],cl x,by simp⟩ (by simp) (by simp) hz
    · exact h.of2 (v:=[32]) (by rw [join_app a0 b0]; simp) ha hb (by simp) (by simp) hz
section
variable {W:Nat} {x:Str} {ws:List Str}
theorem Spt.wlen (h:Spt W x) (hw:Words L2.bk 32 x ws):∀ w ∈ ws,w.length ≤ W:=fun w hm=>by
  obtain ⟨u,v,e⟩:=hw.inx w hm
  rw [← cl_len]
  exact h.bk.word e (hw.no w hm)
theorem Words.tl (hw:Words L2.bk 32 x ws):tl ws = x.length + 1:=by
  have:=join_tl ws
  rw [← hw.join] at this
  have:=tl_ge hw.ne
  omega
theorem Spt.split (h:Spt W x) (hw:Words L2.bk 32 x ws) (i j:Nat):(∃ u w,cl x = u ++ cl (Str.join L2.bk (ws.take i)) ++ w) ∧ ∃ u w,cl x = u ++ cl (Str.join L2.bk (ws.drop j)) ++ w:=by
  have e:=hw.join
  refine ⟨?_,?_⟩
  · have:=join_l (ws.take i) (ws.drop i)
    rw [List.take_append_drop] at this
    rw [e]; exact this
  · have:=join_r (ws.take j) (ws.drop j)
    rw [List.take_append_drop] at this
    rw [e]; exact this
theorem tl_td (ws:List Str) (i:Nat):tl (ws.take i) + tl (ws.drop i) = tl ws:=by rw [← tl_app,List.take_append_drop]
theorem tl_drop_le (ws:List Str) (i:Nat):tl (ws.drop (i + 1)) ≤ tl (ws.drop i):=by
  have:=tl_td (ws.drop i) 1
  rw [List.drop_drop] at this
  omega
theorem Spt.turn (h:Spt W x) (hw:Words L2.bk 32 x ws) (i:Nat):Spt (W + W + 1) (Str.join L2.bk (ws.drop i ++ ws.take i)):=by
  refine h.words (h.split hw i i).2 (h.split hw i i).1 ?_
  have:=tl_td ws i
  have:=hw.tl
  omega
theorem Spt.twice (h:Spt W x) (hw:Words L2.bk 32 x ws) (i:Nat):Spt (W + W + 1) (Str.join L2.bk (ws.take (i + 1) ++ ws.drop i)):=by
  refine h.words (h.split hw (i + 1) i).1 (h.split hw (i + 1) i).2 ?_
  have h1:=tl_td ws i
  have h2:=hw.tl
  have h3:L2.tl (ws.take (i + 1)) ≤ L2.tl (ws.take i) + (W + 1):=by
    by_cases hi:i < ws.length
    · rw [List.take_succ_eq_append_getElem hi,tl_app]
      have:=h.wlen hw _ (List.getElem_mem hi)
      have:L2.tl [ws[i]] = ws[i].length + 1:=by unfold L2.tl; simp
      omega
    · rw [List.take_of_length_le (by omega),List.take_of_length_le (by omega)]
      omega
  omega
theorem Spt.less (h:Spt W x) (hw:Words L2.bk 32 x ws) (i:Nat):Spt (W + W + 1) (Str.join L2.bk (ws.take i ++ ws.drop (i + 1))):=by
  refine h.words (h.split hw i (i + 1)).1 (h.split hw i (i + 1)).2 ?_
  have:=tl_td ws i
  have:=tl_drop_le ws i
  have:=hw.tl
  omega
theorem Spt.first (h:Spt W x) (hw:Words L2.bk 32 x ws) {y:Str} (hy:y ∈ ws):Spt W y:=by
  obtain ⟨u,v,e⟩:=hw.inx y hy
  have hl:=hw.len y hy
  refine ⟨hw.asc h.asc y hy,h.bk.sub e,by have:=h.len; omega,?_⟩
  rcases h.cm with z | z
  · exact .inl (z.sub e)
  · exact .inr (by omega)
end
theorem sN_31 {n:Int} (h:n.natAbs < 10 ^ 30):(sN n).length ≤ 31:=sN_len (by decide) h
theorem wP_63 {p:Pt} (h1:p.1.natAbs < 10 ^ 30) (h2:p.2.natAbs < 10 ^ 30):(wP p).length ≤ 63:=by
  have a:=sN_31 h1; have b:=sN_31 h2
  rw [← cl_len] at *
  rw [wP_cl]
  simp only [List.length_append,List.length_cons]; omega
theorem wH_bk:∀ {ps:List Pt},(∀ p ∈ ps,p.1.natAbs < 10 ^ 30 ∧ p.2.natAbs < 10 ^ 30) → RB 32 63 (cl (wH ps))
  | [],_=>RB.len (by decide)
  | [p],h=>by
    have hp:=h p (by simp)
    refine RB.len ?_
    show (cl (wP p)).length ≤ 63
    rw [cl_len]; exact wP_63 hp.1 hp.2
  | p :: q :: r,h=>by
    have hp:=h p (by simp)
    have e:cl (wH (p :: q :: r)) = cl (wP p) ++ 32 :: cl (wH (q :: r)):=join_cl cl_bk _ _ _
    rw [e]
    exact RB.cut (RB.len (by rw [cl_len]; exact wP_63 hp.1 hp.2)) (wH_bk fun z hz=>h z (List.mem_cons_of_mem _ hz))
theorem wH_cm:∀ {ps:List Pt} {pre:List Nat},pre.length ≤ 32 → (∀ p ∈ ps,p.1.natAbs < 10 ^ 30 ∧ p.2.natAbs < 10 ^ 30) → RB 44 63 (pre ++ cl (wH ps))
  | [],pre,hl,_=>RB.len (by rw [show cl (wH []) = [] from rfl,List.append_nil]; omega)
  | [p],pre,hl,h=>by
    have hp:=h p (by simp)
    have a:=sN_31 hp.1
    have b:=sN_31 hp.2
    rw [← cl_len] at a b
    rw [show cl (wH [p]) = cl (wP p) from rfl,wP_cl,← List.append_assoc]
    exact RB.cut (RB.len (by rw [List.length_append]; omega)) (RB.len (by omega))
  | p :: q :: r,pre,hl,h=>by
    have hp:=h p (by simp)
    have a:=sN_31 hp.1
    have b:=sN_31 hp.2
    rw [← cl_len] at a b
    have e:cl (wH (p :: q :: r)) = cl (wP p) ++ 32 :: cl (wH (q :: r)):=join_cl cl_bk _ _ _
    have g:=wH_cm (ps:=q :: r) (pre:=cl (sN p.2) ++ [32]) (by rw [List.length_append]; simp; omega) fun z hz=>h z (List.mem_cons_of_mem _ hz)
    rw [e,wP_cl]
    have e2:pre ++ (cl (sN p.1) ++ 44 :: cl (sN p.2) ++ 32 :: cl (wH (q :: r))) = (pre ++ cl (sN p.1)) ++ 44 :: ((cl (sN p.2) ++ [32]) ++ cl (wH (q :: r))):=by simp
    rw [e2]
    exact RB.cut (RB.len (by rw [List.length_append]; omega)) g
theorem spt_heap {ps:List Pt} (hn:ps.length ≤ 8) (h:∀ p ∈ ps,p.1.natAbs < 10 ^ 30 ∧ p.2.natAbs < 10 ^ 30):Spt 63 (wH ps):=by
  refine ⟨Asc.wH ps,wH_bk h,?_,.inl ?_⟩
  · have:=join_len (y:=bk) (B:=63) (ws:=ps.map wP) (fun x hx=>by
      obtain ⟨p,hp,rfl⟩:=List.mem_map.mp hx
      exact wP_63 (h p hp).1 (h p hp).2)
    rw [List.length_map,show bk.length = 1 by decide +kernel] at this
    have:(wH ps).length ≤ ps.length * 64:=this
    omega
  · have:=wH_cm (pre:=[]) (by simp) h
    rwa [List.nil_append] at this
theorem spt_line {l:Ln} (h1:l.1.1.natAbs < 10 ^ 31) (h2:l.1.2.natAbs < 10 ^ 31) (h3:l.2.natAbs < 10 ^ 61):Spt 63 (wL l):=by
  have a:=sN_len (by decide) h1
  have b:=sN_len (by decide) h2
  have c:=sN_len (by decide) h3
  rw [← cl_len] at a b c
  have e:=wL_cl l
  refine ⟨Asc.wL l,?_,?_,.inr ?_⟩
  · rw [e]
    exact RB.cut (RB.len (by omega)) (RB.cut (RB.len (by omega)) (RB.len (by omega)))
  · rw [← cl_len,e]; simp only [List.length_append,List.length_cons]; omega
  · rw [← cl_len,e]; simp only [List.length_append,List.length_cons]; omega
end L2
namespace K14
open PySem L2
section
variable {P:Program} {w:World} {K:PySem.W.Frag} {mg:Str → Option Value} {base:Heap} {CX:CXT}
variable {CN:Addr}
def opH:Option (List (List Int)) → PyData
  | none=>.none
  | some nss=>hpI nss
theorem len_nil {x:Str} (h:x.length = 0):x = "" := cl_ext (by rw [← cl_len] at h; rw [List.length_eq_zero_iff.mp h]; rfl)
theorem split_nil {x:Str}:Txt.split x bk = nil1 ↔ x = "" := by
  obtain ⟨ws,W⟩:=words_bk x
  rw [W.split]
  constructor
  · intro h
    have e:=W.join
    rw [h] at e
    rw [e]; rfl
  · intro h
    have t:=W.tl
    have hx:x.length = 0:=by rw [h]; rfl
    rw [hx] at t
    have hn:=W.ne
    match ws,hn,t with
    | [a],_,t =>
      have:a.length = 0:=by unfold tl at t; simp at t; exact t
      rw [len_nil this]
    | a :: b :: r,_,t =>
      have g:=tl_ge (ws:=b :: r) (by simp)
      have:tl (a :: b :: r) = a.length + 1 + tl (b :: r):=by unfold tl; simp only [List.map_cons,List.sum_cons]
      omega
theorem canLay_opT:∀ o,PyData.canLay0 (opT o) = true
  | none=>rfl
  | some ns=>by show PyData.canLay0 (.tuple (ns.map .int)) = true; simp [PyData.canLay0,ints_canLay]
theorem any_none {f:Str → Option (List Int)}:∀ ws:List Str,((ws.map fun y=>opT (f y)).any fun z=>z.eqv .none) = (rdAll f ws).isNone
  | []=>rfl
  | y :: r=>by
    rw [List.map_cons,List.any_cons,any_none r,rdAll]
    cases f y with
    | none=>rfl
    | some a=>cases rdAll f r <;> rfl
theorem map_some {f:Str → Option (List Int)}:∀ {ws:List Str} {nss:List (List Int)},rdAll f ws = some nss → (ws.map fun y=>opT (f y)) = nss.map tpI
  | [],_,h=>by cases h; rfl
  | y :: r,nss,h=>by
    unfold rdAll at h
    cases hy:f y with
    | none=>rw [hy] at h; cases h
    | some a =>
      cases hr:rdAll f r with
      | none=>rw [hy,hr] at h; cases h
      | some bs =>
        rw [hy,hr] at h
        cases h
        rw [List.map_cons,List.map_cons,map_some hr,hy]; rfl
def sLH:SpD:=fun es μ Q=>∃ x:Str,es = [.d (.str x)] ∧ HpOk x ∧ Q (.d (opH (rdHp x))) μ
theorem sc_lhp:FnScope ["_law_text", "_law_found"] ["_law_text"] (defScope s_law_heap_of):=⟨rfl,rfl,rfl,by decide +kernel,rfl,by decide +kernel,by decide +kernel⟩
theorem ok_lhp {f:Addr} {fd:FuncData} (F:Fun K "_law_heap_of" "_law_heap_of" s_law_heap_of f fd) (T:Txt mg) (hX:NoX CX) (O_law_point_of:Own P w K mg base CX 2 "_law_point_of" ["_law_text"] (spUp K sLP)):FnOk P w K mg base CX 3 f fd ["_law_text"] (spUp K sLH):=by
  refine F.okD sc_lhp (fun es μ Q hq0=>by obtain ⟨q,z,_⟩:=hq0; subst z; rfl) (fun cdv A outer s H E es μ Q hr hq0=>?_)
  obtain ⟨x,z,h1,k⟩:=hq0
  subst z
  have nd:=sc_lhp.nd
  refine ⟨_,(ds_cons (ds_if (dt_cmp (do_eq hr.units) (dv 0) d_str (nomark _)) (ds_one (ds_ret (d_lst da_nil))) ds_nil)
      (ds_cons (ds_setc (i:=1) nd rfl (by first | exact Or.inl rfl | exact Or.inr rfl) (L:=["_law_word_here"]) (sc:=defScope s_law_heap_of) (N:=["_law_text", "_law_found"]) rfl rfl rfl (by decide +kernel) (di_list (d_split (dv 0) (da_cons d_str da_nil) (h:=pe_bm PySem.F.plainAttrs_str PySem.F.slot_str_split PySem.F.type_str_split mt_split (dv 0) (da_cons d_str da_nil)))) (fun _ _ _ _ _=>(dg_name (i:=2) (show List.Nodup (["_law_text", "_law_found", "_law_word_here"]:List Str) from by decide +kernel) rfl (by first | exact Or.inl rfl | exact Or.inr rfl))) (fun _ _ _ _ _=>dfs_nil) (fun _ _ _ _ _=>(d_own O_law_point_of hX (hr.mono (by decide)) rfl (da_cons (dv 2) da_nil))))
      (ds_one (ds_ret (d_ifExp (dt_cmp (do_in hr.u66) d_non (dv 1) rfl) d_non (dv 1)))))),?_⟩
  have hl:=h1.p.len
  refine ⟨_,_,.d _,.d _,h1.p.asc.ok,by decide +kernel,?_⟩
  rw [eqv_strs]
  unfold rdHp at k
  refine ite2 (fun c=>?_) (fun c=>?_)
  · rw [if_pos (split_nil.mpr (of_decide_eq_true c))] at k
    exact ⟨zl0,k⟩
  · rw [if_neg (fun z=>c (decide_eq_true (split_nil.mp z)))] at k
    refine ⟨by decide +kernel,by omega,h1.p.n,_,.d _,(show ((Txt.split x bk).map PyData.str).length ≤ 4000 by rw [List.length_map]; exact h1.p.n),compAL (as:=Txt.split x bk) (fun y=>opT (rdBy cm isPt y)) Src.d (fun y hy R h=>⟨y,rfl,h1.q y hy,h⟩) ?_⟩
    refine ⟨.none,_,rfl,.d _,by decide +kernel,canLay_all (f:=fun y=>opT (rdBy cm isPt y)) (fun y=>canLay_opT _) _,?_⟩
    rw [any_none]
    cases e:rdAll (rdBy cm isPt) (Txt.split x bk) with
    | none=>rw [e] at k; exact k
    | some nss =>
      rw [e] at k
      rw [map_some e]
      exact k
theorem spt_bk {W:Nat} {x:Str} (h:Spt W x) (hw:W ≤ 511):Pcs bk x:=by
  obtain ⟨ws,V⟩:=words_bk x
  have hl:=h.len
  have n:=V.n
  refine ⟨h.asc,by omega,fun p hp=>?_,?_,fun p hp=>?_⟩
  · rw [V.split] at hp
    have:=h.wlen V p hp
    omega
  · rw [V.split]; omega
  · rw [V.split] at hp
    exact V.asc h.asc p hp
theorem spt_cm {W:Nat} {x:Str} (h:Spt W x) (hw:W ≤ 511):Pcs cm x:=by
  obtain ⟨ws,V⟩:=words_cm x
  have hl:=h.len
  have n:=V.n
  refine ⟨h.asc,by omega,fun p hp=>?_,?_,fun p hp=>?_⟩
  · rw [V.split] at hp
    rcases h.cm with z | z
    · obtain ⟨u,v,e⟩:=V.inx p hp
      have:=z.word e (V.no p hp)
      rw [cl_len] at this
      omega
    · have:=V.len p hp
      omega
  · rw [V.split]; omega
  · rw [V.split] at hp
    exact V.asc h.asc p hp
theorem spt_hp {W:Nat} {x:Str} (h:Spt W x) (hw:W ≤ 511):HpOk x:=by
  refine ⟨spt_bk h hw,fun y hy=>?_⟩
  obtain ⟨ws,V⟩:=words_bk x
  rw [V.split] at hy
  exact spt_cm (h.first V hy) hw
end
end K14
namespace K14
open PySem L2
structure TxtL (K:PySem.W.Frag) (mg:Str → Option Value) (CN CL:Addr):Prop where
  cls_LineError:mg "LineError" = some (.ref CL)
  mL:PySem.W.exmOne K (.ref CN) (.ref CL) = some true
  xc:ExcCls K CN
section
variable {X:Cx} {K:PySem.W.Frag} {pos:Pos}
theorem ds_tryN {body:List Stmt} {b₀:Stmt} {suite:List Stmt} {cx n:Str} {np hpos:Pos} {c0:Value} {i:Nat} {t:TSd}
    (hst:X.stack = X.env :: X.outer) (hfr:X.env.frame = some X.env.locals) (hN:X.N.Nodup) (hi:X.N[i]? = some n) (hl:X.env.scope.names.lookup n = some .local)
    (hg:Gl X cx) (hm:X.mg cx = some c0) (hb:∀ (pn:List (Addr × Obj)) (xe:Value → Shared → Prop),DSs K (tryCx X pn xe) body t) (hdb:(cx == ("__debug__" : Str)) = false:=by decide) :
    DS K X (.Try body [.ExceptHandler (some (.Name cx np)) (some n) (b₀ :: suite) hpos] [] [] pos) t :=
  ps_try (tb:=fun _=>upS K t) (ts:=fun _ _ _=>False) (k:=X.N.length) hst hfr hN hi hl rfl hg hm (fun E pn xe _=>hb pn xe) (fun ea pins s σ H D I h=>h.elim) hdb
end
section
variable {P:Program} {w:World} {K:PySem.W.Frag} {mg:Str → Option Value} {base:Heap} {CX:CXT}
variable {CN CL:Addr}
def due (x:Str):Nat → PyData
  | 0=>opH (rdHp x)
  | 1=>opT (rdBy cm isPt x)
  | _=>opT (rdBy bk isLn x)
theorem opT_some {o:Option (List Int)} (h:opT o ≠ .none):∃ ns,o = some ns:=by
  cases o with
  | none=>exact absurd rfl h
  | some ns=>exact ⟨ns,rfl⟩
theorem opT_none {o:Option (List Int)} (h:opT o = .none):o = none:=by
  cases o with
  | none=>rfl
  | some ns=>cases h
theorem opH_some {o:Option (List (List Int))} (h:opH o ≠ .none):∃ ns,o = some ns:=by
  cases o with
  | none=>exact absurd rfl h
  | some ns=>exact ⟨ns,rfl⟩
theorem opH_none {o:Option (List (List Int))} (h:opH o = .none):o = none:=by
  cases o with
  | none=>rfl
  | some ns=>cases h
def sRd:SpD:=fun es μ Q=>∃ (i:Nat) (x:Str),es = [.d (.int i),.d (.str x)] ∧ i < 3 ∧ HpOk x ∧ Pcs cm x ∧ due x i ≠ .none ∧ Q (.d (due x i)) μ
theorem sc_lrd:FnScope ["_law_way", "_law_text", "_law_told", "e"] ["_law_way", "_law_text"] (defScope s_law_read):=⟨rfl,rfl,rfl,by decide +kernel,rfl,by decide +kernel,by decide +kernel⟩
theorem ok_lrd {f:Addr} {fd:FuncData} (F:Fun K "_law_read" "_law_read" s_law_read f fd) (T:Txt mg) (TC:TxtL K mg CN CL) (hX:NoX CX) (Oread_heap:Own P w K mg base CX 5 "read_heap" ["text"] (spUp K sRH)) (Oread_point:Own P w K mg base CX 4 "read_point" ["text"] (spUp K sRP)) (Oread_line:Own P w K mg base CX 4 "read_line" ["text"] (spUp K sRL)):FnOk P w K mg base CX 6 f fd ["_law_way", "_law_text"] (spUp K sRd):=by
  refine F.okD sc_lrd (fun es μ Q hq0=>by obtain ⟨q,y,z,_⟩:=hq0; subst z; rfl) (fun cdv A outer s H E es μ Q hr hq0=>?_)
  obtain ⟨i,x,z,hi,h1,h2,h3,k⟩:=hq0
  subst z
  have nd:=sc_lrd.nd
  refine ⟨_,(ds_cons (ds_set (i:=2) nd rfl (by first | exact Or.inl rfl | exact Or.inr rfl) d_non)
      (ds_cons (ds_tryN (i:=3) rfl rfl nd rfl rfl rfl TC.cls_LineError (fun _ _=>(ds_one (ds_if (dt_cmp (do_eq hr.units) (dv 0) d_int (nomark _)) (ds_one (ds_set (i:=2) nd rfl (by first | exact Or.inl rfl | exact Or.inr rfl) (d_own Oread_heap hX (hr.mono (by decide)) rfl (da_cons (dv 1) da_nil)))) (ds_one (ds_if (dt_cmp (do_eq hr.units) (dv 0) d_int (nomark _)) (ds_one (ds_set (i:=2) nd rfl (by first | exact Or.inl rfl | exact Or.inr rfl) (d_own Oread_point hX (hr.mono (by decide)) rfl (da_cons (dv 1) da_nil)))) (ds_one (ds_set (i:=2) nd rfl (by first | exact Or.inl rfl | exact Or.inr rfl) (d_own Oread_line hX (hr.mono (by decide)) rfl (da_cons (dv 1) da_nil))))))))))
      (ds_one (ds_ret (dv 2))))),?_⟩
  have hi3:i = 0 ∨ i = 1 ∨ i = 2:=by omega
  rcases hi3 with rfl | rfl | rfl
  · obtain ⟨ns,hn⟩:=opH_some h3
    have k:Q (.d (opH (rdHp x))) μ:=k
    rw [hn] at k
    exact ⟨x,ns,rfl,h1,hn,k⟩
  · obtain ⟨ns,hn⟩:=opT_some h3
    have k:Q (.d (opT (rdBy cm isPt x))) μ:=k
    rw [hn] at k
    exact ⟨x,ns,rfl,h2,hn,k⟩
  · obtain ⟨ns,hn⟩:=opT_some h3
    have k:Q (.d (opT (rdBy bk isLn x))) μ:=k
    rw [hn] at k
    exact ⟨x,ns,rfl,h1.p,hn,k⟩
def sRdX:SpD:=fun es μ Q=>∃ (i:Nat) (x:Str),es = [.d (.int i),.d (.str x)] ∧ i < 3 ∧ HpOk x ∧ Pcs cm x ∧ due x i = .none ∧ Q (.d .none) μ
theorem ok_lrdX {f:Addr} {fd:FuncData} (F:Fun K "_law_read" "_law_read" s_law_read f fd) (T:Txt mg) (TC:TxtC K mg CN) (TL:TxtL K mg CN CL)
    (Oread_heap:Own P w K mg base (XC P w) 5 "read_heap" ["text"] (spOr (spUp K sRH) (spLack K CN preRH))) (Oread_point:Own P w K mg base (XC P w) 4 "read_point" ["text"] (spOr (spUp K sRP) (spLack K CN preRP))) (Oread_line:Own P w K mg base (XC P w) 4 "read_line" ["text"] (spOr (spUp K sRL) (spLack K CN preRL))):FnOk P w K mg base (XC P w) 6 f fd ["_law_way", "_law_text"] (spUp K sRdX):=by
  refine F.okV (N:=["_law_way", "_law_text", "_law_told", "e"]) fun nd cdv A' outer s H E es μ vs Q0 Q hr M hS cl hq9=>?_
  obtain ⟨i,x,e,hi,h1,h2,h3,k⟩:=hq9
  subst e
  refine ⟨_,pss_cons (ps_set (i:=2) nd rfl (.inl rfl) pe_non)
   (pss_cons (ps_try (i:=3) (k:=4) rfl rfl nd rfl rfl rfl rfl TL.cls_LineError
      (fun E pn xe hp=>pss_one (ps_if (dt_cmp (K:=K) (do_eq hr.units) (dv 0) d_int (nomark _))
        (pss_one (ps_set (i:=2) nd rfl (.inl rfl) (pe_ownX (E:=E) Oread_heap.r hp (hr.mono (by decide)) rfl (da_cons (K:=K) (dv 1) da_nil))))
        (pss_one (ps_if (dt_cmp (K:=K) (do_eq hr.units) (dv 0) d_int (nomark _))
          (pss_one (ps_set (i:=2) nd rfl (.inl rfl) (pe_ownX (E:=E) Oread_point.r hp (hr.mono (by decide)) rfl (da_cons (K:=K) (dv 1) da_nil))))
          (pss_one (ps_set (i:=2) nd rfl (.inl rfl) (pe_ownX (E:=E) Oread_line.r hp (hr.mono (by decide)) rfl (da_cons (K:=K) (dv 1) da_nil))))))))
      (fun ea=>pss_one (ps_set (i:=2) nd rfl (.inl rfl) (pe_ifExp (pt_val (pe_callB (call_isx (K:=K) rfl) (by rfl) T.isinstance_ bt_isinstance (pa_cons (pv 3) (pa_cons (pe_glob (v:=V.ref _) rfl TC.cls_NoText rfl) pa_nil)))) pe_non pe_str))))
     (pss_one (ps_ret (pe_var (i:=2) rfl (.inl rfl))))),?_⟩
  have hS1:=hS.set (i:=2) (v:=.non) (e:=(.d .none)) .non
  have fin:∀ (H5:Hp),RelM K μ H5 → Same (mask μ H) (mask μ H5) → ∀ ea,H5 ea = none → Q .non (upd H5 ea (excO ea (.ref CN))):=fun H5 M5 s5 ea hea=>by
    obtain ⟨M6,z6,_⟩:=M5.laid (o:=excO ea (.ref CN)) hea
    exact cl _ μ _ _ k M6 (s5.trans z6) .non
  have hi3:i = 0 ∨ i = 1 ∨ i = 2:=by omega
  rcases hi3 with rfl | rfl | rfl
  · refine upT_then true hS1 M ⟨rfl,rfl⟩ fun H2 M2 s2=>iteT ?_
    refine lack_at (hS1.same s2) M2 ⟨rfl,x,rfl,h1,opH_none h3⟩ fun H5 M5 s5=>⟨TL.mL,fun ea hea=>?_⟩
    exact ⟨_,rfl,ea,CN,_,true,rfl,upd_same,TL.xc,.inl ⟨_,rfl,by simp [PySem.W.kitOne]⟩,_,rfl,iteT ⟨_,rfl,fin H5 M5 (s2.trans s5) ea hea⟩⟩
  · refine upT_then false hS1 M ⟨rfl,rfl⟩ fun H2 M2 s2=>iteF ?_
    refine upT_then true (hS1.same s2) M2 ⟨rfl,rfl⟩ fun H3 M3 s3=>iteT ?_
    refine lack_at ((hS1.same s2).same s3) M3 ⟨rfl,x,rfl,h2,opT_none h3⟩ fun H5 M5 s5=>⟨TL.mL,fun ea hea=>?_⟩
    exact ⟨_,rfl,ea,CN,_,true,rfl,upd_same,TL.xc,.inl ⟨_,rfl,by simp [PySem.W.kitOne]⟩,_,rfl,iteT ⟨_,rfl,fin H5 M5 ((s2.trans s3).trans s5) ea hea⟩⟩
  · refine upT_then false hS1 M ⟨rfl,rfl⟩ fun H2 M2 s2=>iteF ?_
    refine upT_then false (hS1.same s2) M2 ⟨rfl,rfl⟩ fun H3 M3 s3=>iteF ?_
    refine lack_at ((hS1.same s2).same s3) M3 ⟨rfl,x,rfl,h1.p,opT_none h3⟩ fun H5 M5 s5=>⟨TL.mL,fun ea hea=>?_⟩
    exact ⟨_,rfl,ea,CN,_,true,rfl,upd_same,TL.xc,.inl ⟨_,rfl,by simp [PySem.W.kitOne]⟩,_,rfl,iteT ⟨_,rfl,fin H5 M5 ((s2.trans s3).trans s5) ea hea⟩⟩
end
end K14
namespace K14
open PySem L2
section
variable {P:Program} {w:World} {K:PySem.W.Frag} {mg:Str → Option Value} {base:Heap} {CX:CXT}
variable {CN CL:Addr}
abbrev sgn20:Str := "0123456789-, +_.a;\t\n"
theorem sgn_at:∀ i:Fin 20,∃ c:Fin 128,(cl sgn20)[i.val]? = some c.val:=by decide +kernel
def sSS:SpD:=fun es μ Q=>∃ (p:Addr) (x:Str) (W:Nat),es = [.m p,.d (.str x)] ∧ (p,PA0) ∈ μ ∧ Spt W x ∧ W ≤ 255 ∧ ∀ z,Spt (W + W + 1) z → Q (.d (.str z)) μ
theorem cl_one (c:Nat):cl (⟨#[c]⟩:Str) = [c]:=rfl
theorem cl_emp:cl ("" : Str) = []:=rfl
theorem sc_sgs:FnScope ["_law_pot_here", "_law_text", "_law_at", "_law_put_in", "_law_way"] ["_law_pot_here", "_law_text"] (defScope s_law_sign_spoilt):=⟨rfl,rfl,rfl,by decide +kernel,rfl,by decide +kernel,by decide +kernel⟩
theorem ok_sgs {f:Addr} {fd:FuncData} (F:Fun K "_law_sign_spoilt" "_law_sign_spoilt" s_law_sign_spoilt f fd) (T:Txt mg) (hX:NoX CX) (O_law_take:Own P w K mg base CX 1 "_law_take" ["_law_pot_here", "_law_many"] (spUp K (sDraw 2147483629))):FnOk P w K mg base CX 2 f fd ["_law_pot_here", "_law_text"] (spUp K sSS):=by
  refine F.okD sc_sgs (fun es μ Q hq0=>by obtain ⟨p,x,W,z,_⟩:=hq0; subst z; rfl) (fun cdv A outer s H E es μ Q hr hq0=>?_)
  obtain ⟨p,x,W,z,hp,h1,hw,k⟩:=hq0
  subst z
  have nd:=sc_sgs.nd
  refine ⟨_,(ds_cons (ds_set (i:=2) nd rfl (by first | exact Or.inl rfl | exact Or.inr rfl) (d_own O_law_take hX (hr.mono (by decide)) rfl (da_cons (dv 0) (da_cons (d_op do_add (d_callB dc_lenS (by rfl) T.len_ bt_len (da_cons (dv 1) da_nil)) d_int) da_nil))))
      (ds_cons (ds_set (i:=3) nd rfl (by first | exact Or.inl rfl | exact Or.inr rfl) (d_ix dx_str d_str (d_own O_law_take hX (hr.mono (by decide)) rfl (da_cons (dv 0) (da_cons d_int da_nil))) (fun _ _=>rfl)))
      (ds_cons (ds_set (i:=4) nd rfl (by first | exact Or.inl rfl | exact Or.inr rfl) (d_own O_law_take hX (hr.mono (by decide)) rfl (da_cons (dv 0) (da_cons d_int da_nil))))
      (ds_cons (ds_if (dt_cmp (do_eq hr.units) (dv 4) d_int (nomark _)) (ds_one (ds_ret (d_op do_addS (d_op do_addS (d_sliceS (dv 1) dp_none (dp_some (dv 2))) (dv 3)) (d_sliceS (dv 1) (dp_some (dv 2)) dp_none)))) ds_nil)
      (ds_one (ds_ret (d_op do_addS (d_op do_addS (d_sliceS (dv 1) dp_none (dp_some (dv 2))) (d_ix dx_seq (d_lst (da_cons (dv 3) (da_cons d_str da_nil))) (d_op do_sub (dv 4) d_int) (fun _ _=>rfl))) (d_sliceS (dv 1) (dp_some (d_op do_add (dv 2) d_int)) dp_none)))))))),?_⟩
  have hl:=h1.len
  refine ⟨by omega,p,_,rfl,hp,by omega,by omega,fun d d0 d1=>?_⟩
  obtain ⟨n,rfl⟩:∃ n:Nat,d = n:=⟨d.toNat,by omega⟩
  refine ⟨p,_,rfl,hp,by decide,by decide,fun e e0 e1=>?_⟩
  obtain ⟨m,rfl⟩:∃ m:Nat,e = m:=⟨e.toNat,by omega⟩
  obtain ⟨c,hc⟩:=sgn_at ⟨m,by omega⟩
  refine ⟨by decide +kernel,c.val,atI_nat hc,p,_,rfl,hp,by decide,by decide,fun q q0 q1=>?_⟩
  have a:=PySem.Txt.slice_le x none (some (n:Int))
  have b:=PySem.Txt.slice_le x (some (n:Int)) none
  have b':=PySem.Txt.slice_le x (some ((n:Int) + 1)) none
  have one:(⟨#[c.val]⟩:Str).length = 1:=rfl
  have nil:("" : Str).length = 0:=rfl
  refine ite2 (fun c0=>?_) (fun c0=>?_)
  · refine ⟨by omega,by rw [len_appS]; omega,by omega,by rw [len_appS,len_appS]; omega,k _ (h1.sign (i:=n) (j:=n) (v:=[c.val]) ?_ (Nat.le_refl _) (by simp) (by have:=c.2; simp))⟩
    rw [cl_app,cl_app,cl_slice_to,cl_slice_from,cl_one]
  · have:q = 1 ∨ q = 2:=by
      have:q ≠ 0:=fun z=>c0 (decide_eq_true z)
      omega
    rcases this with rfl | rfl
    · refine ⟨by omega,zl2,_,rfl,by rw [len_appS]; omega,by omega,by rw [len_appS,len_appS]; omega,k _ (h1.sign (i:=n) (j:=n + 1) (v:=[c.val]) ?_ (by omega) (by simp) (by have:=c.2; simp))⟩
      rw [cl_app,cl_app,cl_slice_to,show ((n:Int) + 1) = ((n + 1:Nat):Int) from rfl,cl_slice_from,cl_one]
    · refine ⟨by omega,zl2,_,rfl,by rw [len_appS]; omega,by omega,by rw [len_appS,len_appS]; omega,k _ (h1.sign (i:=n) (j:=n + 1) (v:=[]) ?_ (by omega) (by simp) (by simp))⟩
      rw [cl_app,cl_app,cl_slice_to,show ((n:Int) + 1) = ((n + 1:Nat):Int) from rfl,cl_slice_from,cl_emp]
end
end K14
namespace K14
open PySem L2
section
variable {P:Program} {w:World} {K:PySem.W.Frag} {mg:Str → Option Value} {base:Heap} {CX:CXT}
variable {CN CL:Addr}
theorem cut_fr (ds:List PyData) (i:Nat) (h:i ≤ ds.length):cutD ds (some (i:Int)) none = ds.drop i:=by
  have e1:HT.sIx ds.length 0 (some (i:Int)) = i:=by unfold HT.sIx; simp; rw [if_neg (by omega)]; omega
  unfold cutD
  rw [e1]
  exact List.take_of_length_le (by rw [List.length_drop]; exact Nat.le_refl _)
theorem cut_to (ds:List PyData) (i:Nat) (h:i ≤ ds.length):cutD ds none (some (i:Int)) = ds.take i:=by
  have e1:HT.sIx ds.length ds.length (some (i:Int)) = i:=by unfold HT.sIx; simp; rw [if_neg (by omega)]; omega
  unfold cutD
  rw [e1]
  rfl
def Wn:Nat → Nat
  | 0=>63
  | n + 1=>Wn n + Wn n + 1
theorem Wn_le {n:Nat} (h:n ≤ 3):Wn n ≤ 511:=(show ∀ i:Fin 4,Wn i.val ≤ 511 by decide) ⟨n,by omega⟩
theorem Wn_lt {n:Nat} (h:n < 3):Wn n ≤ 255:=(show ∀ i:Fin 3,Wn i.val ≤ 255 by decide) ⟨n,h⟩
theorem cutD_le (ds:List PyData) (lo hi:Option Int):(cutD ds lo hi).length ≤ ds.length:=by
  unfold cutD
  rw [List.length_take,List.length_drop]; omega
def sSp:SpD:=fun es μ Q=>∃ (p:Addr) (x:Str),es = [.m p,.d (.str x)] ∧ (p,PA0) ∈ μ ∧ Spt 63 x ∧ ∀ z,Spt 511 z → Q (.d (.str z)) μ
theorem tl_sum:∀ ws:List Str,(ws.map (·.length)).sum + ws.length * bk.length = tl ws
  | []=>rfl
  | a :: r=>by
    have h:=tl_sum r
    have h2:bk.length = 1:=by decide +kernel
    rw [h2] at h ⊢
    unfold tl at h ⊢
    simp only [List.map_cons,List.sum_cons,List.length_cons]; omega
theorem sc_spoilt:FnScope ["_law_pot_here", "_law_text", "_law_k", "_law_words", "_law_at", "_law_way", "_law_put"] ["_law_pot_here", "_law_text"] (defScope s_law_spoilt):=⟨rfl,rfl,rfl,by decide +kernel,rfl,by decide +kernel,by decide +kernel⟩
theorem ok_spoilt {f:Addr} {fd:FuncData} (F:Fun K "_law_spoilt" "_law_spoilt" s_law_spoilt f fd) (T:Txt mg) (hX:NoX CX) (O_law_take:Own P w K mg base CX 1 "_law_take" ["_law_pot_here", "_law_many"] (spUp K (sDraw 2147483629))) (O_law_sign_spoilt:Own P w K mg base CX 2 "_law_sign_spoilt" ["_law_pot_here", "_law_text"] (spUp K sSS)):FnOk P w K mg base CX 3 f fd ["_law_pot_here", "_law_text"] (spUp K sSp):=by
  refine F.okD sc_spoilt (fun es μ Q hq0=>by obtain ⟨p,x,z,_⟩:=hq0; subst z; rfl) (fun cdv A outer s H E es μ Q hr hq0=>?_)
  obtain ⟨p,x,z,hp,h1,k⟩:=hq0
  subst z
  have nd:=sc_spoilt.nd
  refine ⟨_,(ds_cons (ds_for PassesOwn.never rfl (di_range1 rfl T.range_ (da_cons (d_op do_cat d_int (d_own O_law_take hX (hr.mono (by decide)) rfl (da_cons (dv 0) (da_cons d_int da_nil)))) da_nil)) (dg_name (i:=2) nd rfl (by first | exact Or.inl rfl | exact Or.inr rfl)) (ds_cons (ds_set (i:=3) nd rfl (by first | exact Or.inl rfl | exact Or.inr rfl) (d_split (dv 1) (da_cons d_str da_nil) (h:=pe_bm PySem.F.plainAttrs_str PySem.F.slot_str_split PySem.F.type_str_split mt_split (dv 1) (da_cons d_str da_nil))))
      (ds_cons (ds_set (i:=4) nd rfl (by first | exact Or.inl rfl | exact Or.inr rfl) (d_own O_law_take hX (hr.mono (by decide)) rfl (da_cons (dv 0) (da_cons (d_callB dc_len (by rfl) T.len_ bt_len (da_cons (dv 3) da_nil)) da_nil))))
      (ds_cons (ds_set (i:=5) nd rfl (by first | exact Or.inl rfl | exact Or.inr rfl) (d_own O_law_take hX (hr.mono (by decide)) rfl (da_cons (dv 0) (da_cons d_int da_nil))))
      (ds_one (ds_if (dt_cmp do_lt (dv 5) d_int (nomark _)) (ds_one (ds_set (i:=1) nd rfl (by first | exact Or.inl rfl | exact Or.inr rfl) (d_own O_law_sign_spoilt hX (hr.mono (by decide)) rfl (da_cons (dv 0) (da_cons (dv 1) da_nil))))) (ds_cons (ds_set (i:=6) nd rfl (by first | exact Or.inl rfl | exact Or.inr rfl) (d_lst (da_cons (d_op do_cat (d_slice (dv 3) (dp_some (dv 4)) dp_none) (d_slice (dv 3) dp_none (dp_some (dv 4)))) (da_cons (d_op do_cat (d_slice (dv 3) dp_none (dp_some (d_op do_cat (dv 4) d_int))) (d_slice (dv 3) (dp_some (dv 4)) dp_none)) (da_cons (d_op do_cat (d_slice (dv 3) dp_none (dp_some (dv 4))) (d_slice (dv 3) (dp_some (d_op do_cat (dv 4) d_int)) dp_none)) da_nil)))))
      (ds_one (ds_set (i:=1) nd rfl (by first | exact Or.inl rfl | exact Or.inr rfl) (d_join d_str (da_cons (d_ix dx_seq (dv 6) (d_op do_sub (dv 5) d_int) (fun _ _=>rfl)) da_nil) (h:=pe_bm PySem.F.plainAttrs_str PySem.F.slot_str_join PySem.F.type_str_join mt_joinX d_str (da_cons (d_ix dx_seq (dv 6) (d_op do_sub (dv 5) d_int) (fun _ _=>rfl)) da_nil))))))))))))
      (ds_one (ds_ret (dv 1)))),?_⟩
  refine ⟨p,_,rfl,hp,by decide,by decide,fun d d0 d1=>?_⟩
  refine ⟨by omega,by omega,forR (fun i ρ' μ'=>μ' = μ ∧ ∃ (y:Str) (a b c e f:Option En),ρ' = [some (.m p),some (.d (.str y)),a,b,c,e,f] ∧ Spt (Wn i) y) ⟨rfl,x,none,none,none,none,none,rfl,h1⟩ ?_ ?_⟩
  · rintro i ρ' μ' hi ⟨rfl,y,a,b,c,e,f,rfl,hy⟩
    have hi3:i < 3:=by omega
    have hw:=Wn_lt hi3
    have hl:=hy.len
    obtain ⟨ws,V⟩:=words_bk y
    have hn:=V.n
    have hne:=List.length_pos_iff.mpr V.ne
    refine ⟨by decide +kernel,by omega,by rw [V.split]; omega,_,.l (.d _),p,_,rfl,hp,?_⟩
    rw [V.split,List.length_map]
    refine ⟨by omega,by omega,fun at' a0 a1=>⟨p,_,rfl,hp,by decide,by decide,fun way w0 w1=>?_⟩⟩
    obtain ⟨n,rfl⟩:∃ n:Nat,at' = n:=⟨at'.toNat,by omega⟩
    refine ite2 (fun c3=>?_) (fun c3=>?_)
    · exact ⟨p,y,_,rfl,hp,hy,hw,fun z hz=>Wks.of ⟨rfl,z,_,_,_,_,_,rfl,hz⟩⟩
    · have c3:¬ way < 3:=fun z=>c3 (decide_eq_true z)
      have e1:cutD (ws.map PyData.str) (some (n:Int)) none = (ws.drop n).map .str:=by rw [cut_fr _ _ (by rw [List.length_map]; omega),List.map_drop]
      have e2:cutD (ws.map PyData.str) none (some (n:Int)) = (ws.take n).map .str:=by rw [cut_to _ _ (by rw [List.length_map]; omega),List.map_take]
      have e3:cutD (ws.map PyData.str) none (some ((n:Int) + 1)) = (ws.take (n + 1)).map .str:=by rw [show ((n:Int) + 1) = ((n + 1:Nat):Int) from rfl,cut_to _ _ (by rw [List.length_map]; omega),List.map_take]
      have e4:cutD (ws.map PyData.str) (some ((n:Int) + 1)) none = (ws.drop (n + 1)).map .str:=by rw [show ((n:Int) + 1) = ((n + 1:Nat):Int) from rfl,cut_fr _ _ (by rw [List.length_map]; omega),List.map_drop]
      have hm:(ws.map PyData.str).length ≤ 1000:=by rw [List.length_map]; omega
      have c1:∀ l u l' u',(cutD (ws.map PyData.str) l u).length + (cutD (ws.map PyData.str) l' u').length ≤ 4000:=fun l u l' u'=>by
        have:=cutD_le (ws.map PyData.str) l u
        have:=cutD_le (ws.map PyData.str) l' u'
        omega
      have hk:way = 3 ∨ way = 4 ∨ way = 5:=by omega
      refine ⟨_,.d _,_,.d _,_,_,.d _,.d _,c1 _ _ _ _,_,.d _,_,.d _,_,_,.d _,.d _,c1 _ _ _ _,_,.d _,_,.d _,_,_,.d _,.d _,c1 _ _ _ _,zl3,?_⟩
      rcases hk with rfl | rfl | rfl
      · refine ⟨_,rfl,ws.drop n ++ ws.take n,by rw [e1,e2,← List.map_append]; exact .d _,?_,Wks.of ⟨rfl,_,_,_,_,_,_,rfl,hy.turn V n⟩⟩
        have:=tl_td ws n
        have:=V.tl
        rw [tl_sum,tl_app]; omega
      · refine ⟨_,rfl,ws.take (n + 1) ++ ws.drop n,by rw [e3,e1,← List.map_append]; exact .d _,?_,Wks.of ⟨rfl,_,_,_,_,_,_,rfl,hy.twice V n⟩⟩
        have:=tl_td ws n
        have:=tl_td ws (n + 1)
        have:=V.tl
        rw [tl_sum,tl_app]; omega
      · refine ⟨_,rfl,ws.take n ++ ws.drop (n + 1),by rw [e2,e4,← List.map_append]; exact .d _,?_,Wks.of ⟨rfl,_,_,_,_,_,_,rfl,hy.less V n⟩⟩
        have:=tl_td ws n
        have:=tl_td ws (n + 1)
        have:=V.tl
        rw [tl_sum,tl_app]; omega
  · rintro ρ' μ' ⟨rfl,y,a,b,c,e,f,rfl,hy⟩
    exact k _ (hy.mono (Wn_le (by omega)))
end
end K14
namespace K14
open PySem L2
section
variable {P:Program} {w:World} {K:PySem.W.Frag} {mg:Str → Option Value} {base:Heap} {CX:CXT}
variable {CN CL:Addr}
def sRA:SpD:=fun es μ Q=>∃ (i:Nat) (x:Str),es = [.d (.int i),.d (.str x)] ∧ i < 3 ∧ HpOk x ∧ Pcs cm x ∧ Q (.d (due x i)) μ
theorem rd_all {vs:List V} {H:Hp} {Q:VK} {E:XK} (h:spUp K sRA vs H Q E):spOr (spUp K sRd) (spUp K sRdX) vs H Q E:=by
  obtain ⟨μ,es,Q0,M,hp,⟨i,x,e,hi,h1,h2,k⟩,cl⟩:=h
  by_cases z:due x i = .none
  · rw [z] at k
    exact .inr ⟨μ,es,Q0,M,hp,⟨i,x,e,hi,h1,h2,z,k⟩,cl⟩
  · exact .inl ⟨μ,es,Q0,M,hp,⟨i,x,e,hi,h1,h2,z,k⟩,cl⟩
theorem sh_opT (o:Option (List Int)):SeqAt.shaped (opT o) = true:=by
  cases o with
  | none=>decide +kernel
  | some ns=>exact shaped_ints ns
theorem sh_opH (o:Option (List (List Int))):SeqAt.shaped (opH o) = true:=by
  cases o with
  | none=>decide +kernel
  | some nss =>
    have d2:PyData.depthAll (nss.map tpI) ≤ 3:=depth_all (n:=2) (fun p=>by
      have:=ints_depth p
      unfold tpI; simp only [PyData.depth]; omega) nss
    show SeqAt.shaped (.list (nss.map tpI)) = true
    unfold SeqAt.shaped
    rw [Bool.and_eq_true]
    refine ⟨?_,decide_eq_true ?_⟩
    · have:=canLay_all (f:=tpI) (fun p=>by unfold tpI; simp only [PyData.canLay0,ints_canLay]) nss
      simp only [PyData.canLay0,this]
    · simp only [PyData.depth]; omega
theorem sh_due (x:Str) (i:Nat):SeqAt.shaped (due x i) = true:=by
  match i with
  | 0=>exact sh_opH _
  | 1=>exact sh_opT _
  | n + 2=>exact sh_opT _
theorem neF {d:PyData} (h:SeqAt.shaped d = true):¬ (!PyData.eqv d d) = true:=by rw [shaped_eqv h]; decide
theorem ne_self {d:PyData} {μ:Mu} {Q:En → Mu → Prop} (h:SeqAt.shaped d = true) (q:Q (.d (.bool false)) μ):rdEq true (.d d) (.d d) μ Q:=by
  unfold rdEq
  split
  · rename_i i j e1 e2
    cases e1
    cases e2
    simpa using q
  · exact ⟨_,_,.d _,.d _,h,h,by rw [shaped_eqv h]; exact q⟩
def sTR:SpD:=fun es μ Q=>∃ x:Str,es = [.d (.str x)] ∧ HpOk x ∧ Pcs cm x ∧ Q (.d (.bool true)) μ
theorem sc_txr:FnScope ["_law_text", "_law_dues", "_law_way", "_law_told"] ["_law_text"] (defScope s_law_texts_right):=⟨rfl,rfl,rfl,by decide +kernel,rfl,by decide +kernel,by decide +kernel⟩
theorem ok_txr {f:Addr} {fd:FuncData} (F:Fun K "_law_texts_right" "_law_texts_right" s_law_texts_right f fd) (T:Txt mg) (hX:NoX CX) (O_law_heap_of:Own P w K mg base CX 3 "_law_heap_of" ["_law_text"] (spUp K sLH)) (O_law_point_of:Own P w K mg base CX 2 "_law_point_of" ["_law_text"] (spUp K sLP)) (O_law_line_of:Own P w K mg base CX 2 "_law_line_of" ["_law_text"] (spUp K sLL)) (O_law_read:Own P w K mg base CX 6 "_law_read" ["_law_way", "_law_text"] (spUp K sRA)):FnOk P w K mg base CX 7 f fd ["_law_text"] (spUp K sTR):=by
  refine F.okD sc_txr (fun es μ Q hq0=>by obtain ⟨x,z,_⟩:=hq0; subst z; rfl) (fun cdv A outer s H E es μ Q hr hq0=>?_)
  obtain ⟨x,z,h1,h2,k⟩:=hq0
  subst z
  have nd:=sc_txr.nd
  refine ⟨_,(ds_cons (ds_set (i:=1) nd rfl (by first | exact Or.inl rfl | exact Or.inr rfl) (d_lst (da_cons (d_own O_law_heap_of hX (hr.mono (by decide)) rfl (da_cons (dv 0) da_nil)) (da_cons (d_own O_law_point_of hX (hr.mono (by decide)) rfl (da_cons (dv 0) da_nil)) (da_cons (d_own O_law_line_of hX (hr.mono (by decide)) rfl (da_cons (dv 0) da_nil)) da_nil)))))
      (ds_cons (ds_for PassesOwn.never rfl (di_range1 rfl T.range_ (da_cons d_int da_nil)) (dg_name (i:=2) nd rfl (by first | exact Or.inl rfl | exact Or.inr rfl)) (ds_cons (ds_set (i:=3) nd rfl (by first | exact Or.inl rfl | exact Or.inr rfl) (d_own O_law_read hX (hr.mono (by decide)) rfl (da_cons (dv 2) (da_cons (dv 0) da_nil))))
      (ds_one (ds_if (dt_w (dw_or (dt_cmp (do_ne hr.units) (d_callB dc_isi (by rfl) T.isinstance_ bt_isinstance (da_cons (dv 3) (da_cons (d_ty rfl T.list_ bt_list) da_nil))) (d_callB dc_isi (by rfl) T.isinstance_ bt_isinstance (da_cons (d_ix dx_seq (dv 1) (dv 2) (fun _ _=>rfl)) (da_cons (d_ty rfl T.list_ bt_list) da_nil))) (nomark _)) (dw_or1 (dt_cmp (do_ne hr.units) (dv 3) (d_ix dx_seq (dv 1) (dv 2) (fun _ _=>rfl)) (nomark _))))) (ds_one (ds_ret d_bl)) ds_nil))))
      (ds_one (ds_ret d_bl)))),?_⟩
  refine ⟨x,rfl,h1,x,rfl,h2,x,rfl,h1.p,zl3,?_⟩
  refine ⟨by decide,by decide,forR (fun i ρ' μ'=>μ' = μ ∧ ∃ a b:Option En,ρ' = [some (.d (.str x)),some (.d (.list [due x 0,due x 1,due x 2])),a,b]) ⟨rfl,none,none,rfl⟩ ?_ ?_⟩
  · rintro i ρ' μ' hi ⟨rfl,a,b,rfl⟩
    have hi3:i = 0 ∨ i = 1 ∨ i = 2:=by have hi:i < 3:=hi; omega
    rcases hi3 with rfl | rfl | rfl
    · refine ⟨0,x,rfl,by decide,h1,h2,?_⟩
      refine ⟨by decide,_,rfl,by decide,_,_,.d _,.d _,by rfl,by rfl,ite2 (fun c=>absurd c (neF (by rfl))) (fun _=>?_)⟩
      exact ⟨_,rfl,ne_self (sh_due _ _) (iteF (Wks.of ⟨rfl,_,_,rfl⟩))⟩
    · refine ⟨1,x,rfl,by decide,h1,h2,?_⟩
      refine ⟨by decide,_,rfl,by decide,_,_,.d _,.d _,by rfl,by rfl,ite2 (fun c=>absurd c (neF (by rfl))) (fun _=>?_)⟩
      exact ⟨_,rfl,ne_self (sh_due _ _) (iteF (Wks.of ⟨rfl,_,_,rfl⟩))⟩
    · refine ⟨2,x,rfl,by decide,h1,h2,?_⟩
      refine ⟨by decide,_,rfl,by decide,_,_,.d _,.d _,by rfl,by rfl,ite2 (fun c=>absurd c (neF (by rfl))) (fun _=>?_)⟩
      exact ⟨_,rfl,ne_self (sh_due _ _) (iteF (Wks.of ⟨rfl,_,_,rfl⟩))⟩
  · rintro ρ' μ' ⟨rfl,a,b,rfl⟩
    exact k
end
end K14
namespace K14
open PySem L2
section
variable {P:Program} {w:World} {K:PySem.W.Frag} {mg:Str → Option Value} {base:Heap} {CX:CXT}
variable {CN CL:Addr}
def ptK (q:Pt):List Int:=[q.1,q.2]
theorem num_10 {n:Int} (h:Num n):n.natAbs < 10 ^ 30:=Nat.lt_of_lt_of_le (num30 h) (by decide +kernel)
theorem few_num {n:Int} (h:Num n):few n = true:=decide_eq_true (num30 h)
theorem rd_wP {q:Pt} (h:NumP q):rdBy cm isPt (wP q) = some (ptK q):=by
  unfold rdBy
  rw [split_wP]
  have e:rdAll rdN [sN q.1,sN q.2] = some [q.1,q.2]:=by
    simp only [rdAll,rdN_some.mpr rfl]
  rw [e]
  have e2:isPt [q.1,q.2] = true:=by
    show (few q.1 && few q.2) = true
    rw [few_num h.1,few_num h.2]; rfl
  simp only [e2,if_true]; rfl
theorem rd_wPs:∀ {ps:List Pt},(∀ q ∈ ps,NumP q) → rdAll (rdBy cm isPt) (ps.map wP) = some (ps.map ptK)
  | [],_=>rfl
  | q :: r,h=>by
    rw [List.map_cons,rdAll,rd_wP (h q (by simp)),rd_wPs fun z hz=>h z (List.mem_cons_of_mem _ hz)]
    rfl
theorem rd_wH {ps:List Pt} (h:∀ q ∈ ps,NumP q):rdHp (wH ps) = some (ps.map ptK):=by
  unfold rdHp
  by_cases e:ps = []
  · subst e
    rw [if_pos (show Txt.split (wH []) bk = nil1 from split_wH0)]; rfl
  · rw [split_wH e,rd_wPs h,if_neg]
    intro z
    match ps,e,z with
    | a :: r,_,z =>
      rw [List.map_cons] at z
      exact wP_ne a (List.cons.inj z).1
theorem spt_wH {ps:List Pt} (hn:ps.length ≤ 8) (h:∀ q ∈ ps,NumP q):Spt 63 (wH ps):=spt_heap hn fun q hq=>⟨num_10 (h q hq).1,num_10 (h q hq).2⟩
theorem cut_k (ds:List PyData) (i:Nat):cutD ds none (some (i:Int)) = ds.take i:=by
  by_cases h:i ≤ ds.length
  · exact cut_to ds i h
  · have e1:HT.sIx ds.length ds.length (some (i:Int)) = ds.length:=by unfold HT.sIx; simp; rw [if_neg (by omega)]; omega
    unfold cutD
    rw [e1,List.take_of_length_le (l:=ds) (by omega)]
    show ds.take ds.length = ds
    exact List.take_length
theorem two_of {ps:List Pt} {ms:List (List Int)} (h:∀ q,q ∈ ms ↔ q ∈ (ps.take 2).map ptK) (hn:ms.Nodup) (hl:ms.length = 2):∃ a b r,ps = a :: b :: r ∧ a ≠ b:=by
  match ms,hl with
  | [x,y],_ =>
    have hx:=(h x).mp (by simp)
    have hy:=(h y).mp (by simp)
    have hxy:x ≠ y:=by
      intro z
      rw [z] at hn
      simp at hn
    match ps,hx,hy with
    | [a],hx,hy =>
      simp at hx hy
      exact absurd (hx.trans hy.symm) hxy
    | a :: b :: r,hx,hy =>
      refine ⟨a,b,r,rfl,fun z=>?_⟩
      subst z
      simp at hx hy
      exact hxy (hx.trans hy.symm)
theorem atI_end {α:Type} (xs:List α) (z:α):atI (xs ++ [z]) (-1) = some z:=by
  unfold atI ixN
  rw [if_neg (by decide),if_pos (by simp; omega)]
  show (xs ++ [z])[((-1:Int) + ((xs ++ [z]).length:Nat)).toNat]? = some z
  rw [show ((-1:Int) + ((xs ++ [z]).length:Nat)).toNat = xs.length by simp; omega]
  simp
theorem wP_eq (q:Pt):(sN q.1 ++ cm) ++ sN q.2 = wP q:=by
  unfold wP
  rw [PySem.W.KT.empty_app]
def lnT (p q:Pt):Ln:=(nOf p q,(nOf p q).1 * p.1 + (nOf p q).2 * p.2)
theorem spt_thr {p q:Pt} (hp:NumP p) (hq:NumP q) (h:p ≠ q):L62 (lnT p q) ∧ Spt 63 (wL (lnT p q)):=by
  have hb:=nOf_bd hp hq h
  have a1:=num_abs hp.1
  have a2:=num_abs hp.2
  have b1:(nOf p q).1.natAbs ≤ 2000000000000000000000000000000:=hb.1
  have b2:(nOf p q).2.natAbs ≤ 2000000000000000000000000000000:=hb.2
  have m1:((nOf p q).1 * p.1).natAbs ≤ 2000000000000000000000000000000 * 1000000000000000000000000000000:=by rw [Int.natAbs_mul]; exact Nat.mul_le_mul b1 a1
  have m2:((nOf p q).2 * p.2).natAbs ≤ 2000000000000000000000000000000 * 1000000000000000000000000000000:=by rw [Int.natAbs_mul]; exact Nat.mul_le_mul b2 a2
  have m3:(lnT p q).2.natAbs ≤ 4000000000000000000000000000000 * 1000000000000000000000000000000:=by
    show ((nOf p q).1 * p.1 + (nOf p q).2 * p.2).natAbs ≤ _
    omega
  have c1:(lnT p q).1.1.natAbs < 10 ^ 31:=Nat.lt_of_le_of_lt b1 (by decide +kernel)
  have c2:(lnT p q).1.2.natAbs < 10 ^ 31:=Nat.lt_of_le_of_lt b2 (by decide +kernel)
  have c3:(lnT p q).2.natAbs < 10 ^ 61:=Nat.lt_of_le_of_lt m3 (by decide +kernel)
  exact ⟨⟨Nat.lt_of_lt_of_le c1 (by decide +kernel),Nat.lt_of_lt_of_le c2 (by decide +kernel),Nat.lt_of_lt_of_le c3 (by decide +kernel)⟩,spt_line c1 c2 c3⟩
theorem thr_len (p q:Pt):((thr p q).map PyData.int).length ≤ 4000:=by
  rw [List.length_map]
  show 3 ≤ 4000
  decide
theorem wL_thr (p q:Pt):Str.join bk ((thr p q).map sN) = wL (lnT p q):=by
  rw [wL_join]
  rfl
theorem thr_sum {p q:Pt} (h:L62 (lnT p q)):(((thr p q).map sN).map (·.length)).sum + ((thr p q).map sN).length * bk.length ≤ 800000:=by
  obtain ⟨l1,l2,l3⟩:=h
  have s1:=sN_63 l1
  have s2:=sN_63 l2
  have s3:=sN_63 l3
  rw [tl_sum]
  show tl [sN (lnT p q).1.1,sN (lnT p q).1.2,sN (lnT p q).2] ≤ 800000
  unfold tl
  simp only [List.map_cons,List.map_nil,List.sum_cons,List.sum_nil]
  omega
theorem thr_nl {p q:Pt} (h:L62 (lnT p q)):∀ n ∈ thr p q,n.natAbs < 10 ^ 62:=fun n hn=>by
  obtain ⟨l1,l2,l3⟩:=h
  simp only [thr,List.mem_cons,List.mem_nil_iff,or_false] at hn
  rcases hn with rfl | rfl | rfl
  · exact l1
  · exact l2
  · exact l3
def sLR (P:Program) (w:World) (K:PySem.W.Frag):SpD:=fun es μ Q=>∃ p:Addr,es = [.m p] ∧ (p,PA0) ∈ μ ∧ Q (.d (.bool true)) μ
theorem sc_right:FnScope ["_law_pot_here", "_law_heap_here", "_law_text", "_law_found", "_law_texts", "_law_line", "_law_one"] ["_law_pot_here"] (defScope s_law_right):=⟨rfl,rfl,rfl,by decide +kernel,rfl,by decide +kernel,by decide +kernel⟩
theorem ok_right {f:Addr} {fd:FuncData} (F:Fun K "_law_right" "_law_right" s_law_right f fd) (T:Txt mg) (hX:NoX CX) (O_law_heap:Own P w K mg base CX 4 "_law_heap" ["_law_pot_here"] (spUp K sHeap)) (Owrite_heap:Own P w K mg base CX 1 "write_heap" ["heap"] (spUp K sWH)) (O_law_texts_right:Own P w K mg base CX 7 "_law_texts_right" ["_law_text"] (spUp K sTR)) (Oread_heap:Own P w K mg base CX 5 "read_heap" ["text"] (spUp K sRHM)) (Othrough:Own P w K mg base CX 3 "through" ["one", "other"] (spUp K sThr)) (Owrite_line:Own P w K mg base CX 1 "write_line" ["line"] (spUp K sWL)) (O_law_spoilt:Own P w K mg base CX 3 "_law_spoilt" ["_law_pot_here", "_law_text"] (spUp K sSp)):FnOk P w K mg base CX 8 f fd ["_law_pot_here"] (spUp K (sLR P w K)):=by
  refine F.okD sc_right (fun es μ Q hq0=>by obtain ⟨p,z,_⟩:=hq0; subst z; rfl) (fun cdv A outer s H E es μ Q hr hq0=>?_)
  obtain ⟨p,z,hp,k⟩:=hq0
  subst z
  have nd:=sc_right.nd
  have key:∃ t,DSs K (cxOf CX P w K mg base ["_law_pot_here", "_law_heap_here", "_law_text", "_law_found", "_law_texts", "_law_line", "_law_one"] "_law_right" (defScope s_law_right) f cdv A outer s H E).nox ((defBody s_law_right).drop 7) t ∧
      ∀ (ps:List Pt) (x:Str) (f2 t2:Addr) (ds:List PyData) (xs:List Str) (v:Option En),xs.length ≤ 4000 → (∀ y ∈ xs,Spt 63 y) → t { nx:=fun _ μ'=>Q (.d .none) μ',rt:=Q } [some (.m p),some (.d (hpD ps)),some (.d (.str x)),some (.m f2),some (.m t2),v,none] ((t2,.lst (xs.map .str)) :: (f2,.lst ds) :: μ):=by
    refine ⟨_,(ds_cons (ds_for PassesOwn.never rfl (di_list (dv 4)) (dg_name (i:=6) nd rfl (by first | exact Or.inl rfl | exact Or.inr rfl)) (ds_one (ds_if (dt_w (dw_or (dt_not (dt_val (d_own O_law_texts_right hX (hr.mono (by decide)) rfl (da_cons (dv 6) da_nil)))) (dw_or1 (dt_not (dt_val (d_own O_law_texts_right hX (hr.mono (by decide)) rfl (da_cons (d_own O_law_spoilt hX (hr.mono (by decide)) rfl (da_cons (dv 0) (da_cons (dv 6) da_nil))) da_nil))))))) (ds_one (ds_retF d_bl)) ds_nil)))
      (ds_one (ds_retF d_bl))),fun ps x f2 t2 ds xs v hl hx=>?_⟩
    refine ⟨_,.m List.mem_cons_self,forL (fun i ρ' μ'=>μ' = (t2,.lst (xs.map .str)) :: (f2,.lst ds) :: μ ∧ ∃ v u,ρ' = [some (.m p),some (.d (hpD ps)),some (.d (.str x)),some (.m f2),some (.m t2),v,u]) ⟨rfl,_,_,rfl⟩ (fun _ _ _ h=>by obtain ⟨rfl,_⟩:=h; exact .m List.mem_cons_self) ?_ ?_⟩
    · rintro i y ρ' μ' hy ⟨rfl,v,u,rfl⟩
      rw [List.getElem?_map] at hy
      obtain ⟨z,hz,rfl⟩:=Option.map_eq_some_iff.mp hy
      have h1:=hx z (List.mem_of_getElem? hz)
      have mp:(p,PA0) ∈ (t2,MO.lst (xs.map .str)) :: (f2,MO.lst ds) :: μ:=List.mem_cons_of_mem _ (List.mem_cons_of_mem _ hp)
      refine ⟨z,rfl,spt_hp h1 (by decide),spt_cm h1 (by decide),?_⟩
      refine iteF ⟨p,z,rfl,mp,h1,fun y hy=>⟨y,rfl,spt_hp hy (by decide),spt_cm hy (by decide),iteF (Wks.of ⟨rfl,_,_,rfl⟩)⟩⟩
    · rintro ρ' μ' ⟨rfl,v,u,rfl⟩
      exact ⟨_,_,FzR.trans FzR.drop1 FzR.drop1,k⟩
  obtain ⟨t,ht,hk⟩:=key
  refine ⟨_,(ds_cons (ds_set (i:=1) nd rfl (by first | exact Or.inl rfl | exact Or.inr rfl) (d_own O_law_heap hX (hr.mono (by decide)) rfl (da_cons (dv 0) da_nil)))
      (ds_cons (ds_set (i:=2) nd rfl (by first | exact Or.inl rfl | exact Or.inr rfl) (d_own Owrite_heap hX (hr.mono (by decide)) rfl (da_cons (d_callTy dc_list (by rfl) T.list_ bt_list (da_cons (dv 1) da_nil)) da_nil)))
      (ds_cons (ds_if (dt_w (dw_or (dt_cmp (do_ne hr.units) (dv 2) (d_join d_str (da_cons (d_comp (L:=["_law_x", "_law_y"]) (sc:=defScope s_law_right) (N:=["_law_pot_here", "_law_heap_here", "_law_text", "_law_found", "_law_texts", "_law_line", "_law_one"]) rfl rfl rfl (by decide +kernel) (di_list (dv 1)) (fun _ _ _ _ _=>(dg_tup (n:=2) rfl (dgs_cons (dg_name (i:=7) (show List.Nodup (["_law_pot_here", "_law_heap_here", "_law_text", "_law_found", "_law_texts", "_law_line", "_law_one", "_law_x", "_law_y"]:List Str) from by decide +kernel) rfl (by first | exact Or.inl rfl | exact Or.inr rfl)) (dgs_cons (dg_name (i:=8) (show List.Nodup (["_law_pot_here", "_law_heap_here", "_law_text", "_law_found", "_law_texts", "_law_line", "_law_one", "_law_x", "_law_y"]:List Str) from by decide +kernel) rfl (by first | exact Or.inl rfl | exact Or.inr rfl)) dgs_nil)))) (fun _ _ _ _ _=>dfs_nil) (fun _ _ _ _ _=>(d_op do_addS (d_op do_addS (d_callTy dc_strI (by rfl) T.str_ bt_str (da_cons (dv 7) da_nil)) d_str) (d_callTy dc_strI (by rfl) T.str_ bt_str (da_cons (dv 8) da_nil))))) da_nil) (h:=pe_bm PySem.F.plainAttrs_str PySem.F.slot_str_join PySem.F.type_str_join mt_joinX d_str (da_cons (d_comp (L:=["_law_x", "_law_y"]) (sc:=defScope s_law_right) (N:=["_law_pot_here", "_law_heap_here", "_law_text", "_law_found", "_law_texts", "_law_line", "_law_one"]) rfl rfl rfl (by decide +kernel) (di_list (dv 1)) (fun _ _ _ _ _=>(dg_tup (n:=2) rfl (dgs_cons (dg_name (i:=7) (show List.Nodup (["_law_pot_here", "_law_heap_here", "_law_text", "_law_found", "_law_texts", "_law_line", "_law_one", "_law_x", "_law_y"]:List Str) from by decide +kernel) rfl (by first | exact Or.inl rfl | exact Or.inr rfl)) (dgs_cons (dg_name (i:=8) (show List.Nodup (["_law_pot_here", "_law_heap_here", "_law_text", "_law_found", "_law_texts", "_law_line", "_law_one", "_law_x", "_law_y"]:List Str) from by decide +kernel) rfl (by first | exact Or.inl rfl | exact Or.inr rfl)) dgs_nil)))) (fun _ _ _ _ _=>dfs_nil) (fun _ _ _ _ _=>(d_op do_addS (d_op do_addS (d_callTy dc_strI (by rfl) T.str_ bt_str (da_cons (dv 7) da_nil)) d_str) (d_callTy dc_strI (by rfl) T.str_ bt_str (da_cons (dv 8) da_nil))))) da_nil))) (nomark _)) (dw_or1 (dt_not (dt_val (d_own O_law_texts_right hX (hr.mono (by decide)) rfl (da_cons (dv 2) da_nil))))))) (ds_one (ds_retF d_bl)) ds_nil)
      (ds_cons (ds_set (i:=3) nd rfl (by first | exact Or.inl rfl | exact Or.inr rfl) (d_own Oread_heap hX (hr.mono (by decide)) rfl (da_cons (dv 2) da_nil)))
      (ds_cons (ds_expr (d_append (dv 3) (da_cons (d_tup (da_cons d_int (da_cons d_int da_nil))) da_nil) (h:=pe_bm PySem.F.plainAttrs_list PySem.F.slot_list_append PySem.F.type_list_append mt_append (dv 3) (da_cons (d_tup (da_cons d_int (da_cons d_int da_nil))) da_nil))))
      (ds_cons (ds_set (i:=4) nd rfl (by first | exact Or.inl rfl | exact Or.inr rfl) (d_op do_catM (d_lst (da_cons (dv 2) da_nil)) (d_slice (d_split (dv 2) (da_cons d_str da_nil) (h:=pe_bm PySem.F.plainAttrs_str PySem.F.slot_str_split PySem.F.type_str_split mt_split (dv 2) (da_cons d_str da_nil))) dp_none (dp_some d_int))))
      (ds_cons (ds_if (dt_cmp (do_eq hr.units) (d_callB (dc_lenT (P:=P) (w:=w) (K:=K)) (by rfl) T.len_ bt_len (da_cons (d_callTy (dc_set (P:=P) (w:=w) (K:=K) rfl hr.units) (by rfl) T.set_ bt_set (da_cons (d_slice (dv 1) dp_none (dp_some d_int)) da_nil)) da_nil)) d_int (nomark _)) (ds_cons (ds_set (i:=5) nd rfl (by first | exact Or.inl rfl | exact Or.inr rfl) (d_own Othrough hX (hr.mono (by decide)) rfl (da_cons (d_ix dx_seq (dv 1) d_int (fun _ _=>rfl)) (da_cons (d_ix dx_seq (dv 1) d_int (fun _ _=>rfl)) da_nil))))
      (ds_cons (ds_expr (d_append (dv 4) (da_cons (d_own Owrite_line hX (hr.mono (by decide)) rfl (da_cons (dv 5) da_nil)) da_nil) (h:=pe_bm PySem.F.plainAttrs_list PySem.F.slot_list_append PySem.F.type_list_append mt_append (dv 4) (da_cons (d_own Owrite_line hX (hr.mono (by decide)) rfl (da_cons (dv 5) da_nil)) da_nil))))
      (ds_one (ds_if (dt_cmp (do_ne hr.units) (d_ix dx_seq (dv 4) (d_un du_neg d_int) (fun _ _=>rfl)) (d_join d_str (da_cons (d_comp (L:=["_law_number_here"]) (sc:=defScope s_law_right) (N:=["_law_pot_here", "_law_heap_here", "_law_text", "_law_found", "_law_texts", "_law_line", "_law_one"]) rfl rfl rfl (by decide +kernel) (di_tup (dv 5)) (fun _ _ _ _ _=>(dg_name (i:=7) (show List.Nodup (["_law_pot_here", "_law_heap_here", "_law_text", "_law_found", "_law_texts", "_law_line", "_law_one", "_law_number_here"]:List Str) from by decide +kernel) rfl (by first | exact Or.inl rfl | exact Or.inr rfl))) (fun _ _ _ _ _=>dfs_nil) (fun _ _ _ _ _=>(d_callTy dc_strI (by rfl) T.str_ bt_str (da_cons (dv 7) da_nil)))) da_nil) (h:=pe_bm PySem.F.plainAttrs_str PySem.F.slot_str_join PySem.F.type_str_join mt_joinX d_str (da_cons (d_comp (L:=["_law_number_here"]) (sc:=defScope s_law_right) (N:=["_law_pot_here", "_law_heap_here", "_law_text", "_law_found", "_law_texts", "_law_line", "_law_one"]) rfl rfl rfl (by decide +kernel) (di_tup (dv 5)) (fun _ _ _ _ _=>(dg_name (i:=7) (show List.Nodup (["_law_pot_here", "_law_heap_here", "_law_text", "_law_found", "_law_texts", "_law_line", "_law_one", "_law_number_here"]:List Str) from by decide +kernel) rfl (by first | exact Or.inl rfl | exact Or.inr rfl))) (fun _ _ _ _ _=>dfs_nil) (fun _ _ _ _ _=>(d_callTy dc_strI (by rfl) T.str_ bt_str (da_cons (dv 7) da_nil)))) da_nil))) (nomark _)) (ds_one (ds_retF d_bl)) ds_nil)))) ds_nil)
      ht))))))),?_⟩
  refine ⟨p,rfl,hp,fun ps hn hb=>?_⟩
  have hs:=spt_wH hn hb
  have hl:=hs.len
  have x1:=hs.asc.ok
  obtain ⟨ws,V⟩:=words_bk (wH ps)
  have hwn:=V.n
  have n62:∀ q ∈ ps,q.1.natAbs < 10 ^ 62 ∧ q.2.natAbs < 10 ^ 62:=fun q hq=>⟨num62 (hb q hq).1,num62 (hb q hq).2⟩
  refine ⟨_,.l (.d _),_,ps,rfl,.d _,by omega,hb,?_⟩
  refine ⟨_,.d _,(show (ps.map ptD).length ≤ 4000 by rw [List.length_map]; omega),comp2L (as:=ps) (h1:=fun q=>.int q.1) (h2:=fun q=>.int q.2) (fun q=>.str (wP q)) (Src.l (.d _)) (fun q hq R h=>?_) ?_⟩
  · obtain ⟨a1,a2⟩:=n62 q hq
    have b1:(Str.ofString (toString q.1)).length ≤ 63:=sN_63 a1
    have b2:(Str.ofString (toString q.2)).length ≤ 63:=sN_63 a2
    have b3:(Str.ofString ",").length = 1:=by decide +kernel
    refine ⟨log_small a1,by rw [len_appS]; omega,log_small a2,by rw [len_appS,len_appS]; omega,?_⟩
    rw [← wP_eq q] at h
    exact h
  refine ⟨ps.map wP,by rw [List.map_map]; exact .d _,wH_sum (by omega) hb,?_⟩
  refine ⟨_,_,.d _,.d _,x1,x1,ite2 (fun c=>absurd c (neF x1)) (fun _=>?_)⟩
  refine ⟨_,rfl,spt_hp hs (by decide),spt_cm hs (by decide),iteF ?_⟩
  refine ⟨_,_,rfl,spt_hp hs (by decide),rd_wH hb,fun f2 hf2=>?_⟩
  refine ⟨⟨_,List.mem_cons_self⟩,zl2,[],μ,_,rfl,by rw [List.length_map,List.length_map]; omega,?_⟩
  refine ⟨zl1,by decide +kernel,by omega,by rw [V.split]; omega,_,.d _,_,_,.d _,.d _,?_,fun t2 ht2=>?_⟩
  · have:=cutD_le ((Txt.split (wH ps) bk).map PyData.str) none (some 1)
    rw [V.split,List.length_map] at this
    rw [V.split]
    show [PyData.str (wH ps)].length + _ ≤ 4000
    simp only [List.length_singleton]
    omega
  have e:[PyData.str (wH ps)] ++ cutD ((Txt.split (wH ps) bk).map PyData.str) none (some 1) = (wH ps :: ws.take 1).map .str:=by
    rw [V.split,show (some (1:Int)) = some ((1:Nat):Int) from rfl,cut_k,← List.map_take]; rfl
  rw [e]
  have tl1:(wH ps :: ws.take 1).length ≤ 2:=by rw [List.length_cons,List.length_take]; omega
  have spx:∀ y ∈ wH ps :: ws.take 1,Spt 63 y:=fun y hy=>by
    rcases List.mem_cons.mp hy with rfl | hy
    · exact hs
    · exact hs.first V (List.mem_of_mem_take hy)
  have es:cutD (ps.map ptD) none (some 2) = ((ps.take 2).map ptK).map tupD:=by
    rw [show (some (2:Int)) = some ((2:Nat):Int) from rfl,cut_k,← List.map_take,List.map_map]; rfl
  refine ⟨_,.d _,(ps.take 2).map ptK,by rw [es]; exact .d _,fun z hz=>?_,?_,fun ms hm hnn hml=>⟨ms,rfl,?_⟩⟩
  · obtain ⟨q,_,rfl⟩:=List.mem_map.mp hz
    simp [ptK]
  · rw [List.length_map,List.length_take]; omega
  refine ite2 (fun c=>?_) (fun c=>?_)
  · have c:=of_decide_eq_true c
    obtain ⟨a,b,r,rfl,hab⟩:=two_of hm hnn (by omega)
    have ha:=hb a (by simp)
    have hb':=hb b (by simp)
    obtain ⟨hL,hS⟩:=spt_thr ha hb' hab
    refine ⟨_,atI_nat (j:=0) rfl,_,atI_nat (j:=1) rfl,a,b,rfl,ha,hb',hab,?_⟩
    refine ⟨⟨_,List.mem_cons_self⟩,lnT a b,rfl,hL,[],_,_,rfl,by rw [List.length_map]; omega,?_⟩
    refine ⟨_,_,List.mem_cons_self,atI_end _ _,?_⟩
    refine ⟨thr_len a b,compAL (as:=thr a b) (h:=PyData.int) (fun n=>.str (sN n)) Src.t (fun n hn R h=>⟨log_small (thr_nl hL n hn),h⟩) ?_⟩
    refine ⟨(thr a b).map sN,by rw [List.map_map]; exact .d _,thr_sum hL,?_⟩
    rw [wL_thr]
    refine ⟨_,_,.d _,.d _,(Asc.wL _).ok,(Asc.wL _).ok,ite2 (fun c=>absurd c (neF (Asc.wL _).ok)) (fun _=>?_)⟩
    have fin:=hk (a :: b :: r) (wH (a :: b :: r)) f2 t2 (((a :: b :: r).map ptK).map tpI ++ [.tuple [.int 0,.int 0]]) ((wH (a :: b :: r) :: ws.take 1) ++ [wL (lnT a b)]) (some (.d (lnD (lnT a b)))) (by simp only [List.length_append,List.length_singleton]; omega) (fun y hy=>by
      rcases List.mem_append.mp hy with hy | hy
      · exact spx y hy
      · rw [List.mem_singleton.mp hy]; exact hS)
    rw [List.map_append] at fin
    exact fin
  · exact hk ps (wH ps) f2 t2 _ _ none (by omega) spx
end
end K14
namespace K14
open PySem L2
section
variable {P:Program} {w:World} {K:PySem.W.Frag} {mg:Str → Option Value} {base:Heap} {CX:CXT}
variable {CN CL:Addr}
theorem sc_law:FnScope ["_law_script"] ["_law_script"] (defScope slaw):=⟨rfl,rfl,rfl,by decide +kernel,rfl,by decide +kernel,by decide +kernel⟩
theorem ok_law {f:Addr} {fd:FuncData} (F:Fun K "law" "law" slaw f fd) (T:Txt mg) (hX:NoX CX) (O_law_pot:Own P w K mg base CX 1 "_law_pot" ["_law_script", "_law_k"] (spUp K sPot)) (O_law_right:Own P w K mg base CX 8 "_law_right" ["_law_pot_here"] (spUp K (sLR P w K))):FnOk P w K mg base CX 9 f fd ["_law_script"] (spUp K sLaw):=by
  refine F.okD sc_law (fun es μ Q hq0=>by obtain ⟨ns,e,_⟩:=hq0; subst e; rfl) (fun cdv A outer s H E es μ Q hr hq0=>?_)
  obtain ⟨ns,e,hl,e0,k⟩:=hq0
  subst e e0
  have nd:=sc_law.nd
  refine ⟨_,(ds_one (ds_ret (d_callB (dc_all rfl) (by rfl) T.all_ bt_all (da_cons (d_comp (L:=["_law_k"]) (sc:=defScope slaw) (N:=["_law_script"]) rfl rfl rfl (by decide +kernel) (di_range1 rfl T.range_ (da_cons (d_callB (dc_max rfl) (by rfl) T.max_ bt_max (da_cons d_int (da_cons (d_callB (dc_min rfl) (by rfl) T.min_ bt_min (da_cons (d_callB dc_len (by rfl) T.len_ bt_len (da_cons (dv 0) da_nil)) (da_cons d_int da_nil))) da_nil))) da_nil)) (fun _ _ _ _ _=>(dg_name (i:=1) (show List.Nodup (["_law_script", "_law_k"]:List Str) from by decide +kernel) rfl (by first | exact Or.inl rfl | exact Or.inr rfl))) (fun _ _ _ _ _=>dfs_nil) (fun _ _ _ _ _=>(d_own O_law_right hX (hr.mono (by decide)) rfl (da_cons (d_own O_law_pot hX (hr.mono (by decide)) rfl (da_cons (dv 0) (da_cons (dv 1) da_nil))) da_nil)))) da_nil)))),?_⟩
  refine ⟨_,.l (.d _),?_⟩
  rw [List.length_map]
  obtain ⟨m,em,hm⟩:∃ m:Int,(if (1:Int) < (if (5:Int) < (ns.length:Int) then 5 else (ns.length:Int)) then (if (5:Int) < (ns.length:Int) then 5 else (ns.length:Int)) else 1) = m ∧ (1 ≤ m ∧ m ≤ 5):=⟨_,rfl,by split <;> (try split) <;> omega⟩
  refine ⟨?_,?_,?_,fun i ys ρ' μ'=>ys = (List.replicate i true).map PyData.bool ∧ ∃ v,ρ' = [some (.d (.list (ns.map .int))),v],⟨rfl,_,rfl⟩,fun _ _ _ _ _ _=>trivial,?_,?_⟩
  · exact le_of_le_of_eq (show -(2 ^ 62) ≤ m by omega) em.symm
  · exact lt_of_eq_of_lt em (show m < 2 ^ 62 by omega)
  · exact le_of_eq_of_le (congrArg Int.toNat em) (show m.toNat ≤ 4000 by omega)
  · rintro i ys ρ' μ' hi ⟨rfl,v,rfl⟩
    have hi:i < Int.toNat _:=hi
    have hi2:i < m.toNat:=lt_of_lt_of_eq hi (congrArg Int.toNat em)
    refine ⟨ns,i,(by show [_,En.d (PyData.int (0 + (i:Int)))] = _; simp),hl,by omega,fun p hp=>⟨p,rfl,List.mem_cons_self,_,rfl,?_,_,rfl⟩⟩
    rw [List.replicate_succ',List.map_append]
    rfl
  · rintro ys ρ' μ' ⟨rfl,v,rfl⟩
    refine ⟨_,.d _,?_⟩
    have e:∀ n,(List.replicate n true).all id = true:=fun n=>by simp
    change Q (.d (.bool ((List.replicate _ true).all id))) _
    rw [e]
    exact k _
end
end K14
namespace K14
open PySem L2
def Al:List Str → (List Value → Prop) → Prop
  | [],p=>p []
  | _ :: r,p=>∀ a,Al r fun us=>p (a :: us)
theorem al_all:∀ {ps:List Str} {p:List Value → Prop},Al ps p → ∀ us:List Value,us.length = ps.length → p us
  | [],p,h,us,hl=>by
    cases us with
    | nil=>exact h
    | cons a t=>cases hl
  | _ :: r,p,h,us,hl=>by
    cases us with
    | nil=>cases hl
    | cons a t=>exact al_all (h a) t (Nat.succ.inj hl)
structure N0 (K:PySem.W.Frag) (x:Str):Prop where
  e:PySem.W.nsIn K mainGlobals x = some none
structure N1 (K:PySem.W.Frag) (x:Str) (a:Addr):Prop where
  e:PySem.W.nsIn K mainGlobals x = some (some (.ref a))
structure FIn (K:PySem.W.Frag) (x:Str) (st:Stmt) (f:Addr) (fd:FuncData):Prop where
  a:PySem.W.nsIn K mainGlobals x = some (some (.ref f))
  F:Fun K x x st f fd
  k:PySem.W.keepIn K (.ref f) = true
theorem fin_mk {K:PySem.W.Frag} {x:Str} {st:Stmt} {f:Addr} {oc:Value} {od an:Option Addr} {sl:Array (Option Value)} {kV dc pm cd ct:Value} (a:PySem.W.nsIn K mainGlobals x = some (some (.ref f))) (l:K.lookup f = some ⟨oc,od,.func (PySem.W.fnOf x x (defArgs st) (defBody st) (defScope st) .none kV dc pm an cd ct),sl⟩) (c:PySem.W.codeIn K cd x = true) (k:PySem.W.keepIn K (.ref f) = true):FIn K x st f (PySem.W.fnOf x x (defArgs st) (defBody st) (defScope st) .none kV dc pm an cd ct):=⟨a,fun_mk l c k,k⟩
def FX (K:PySem.W.Frag) (x:Str) (st:Stmt):Prop:=∃ f fd,FIn K x st f fd
structure Zs (P:Program) (w:World) (K:PySem.W.Frag) (mg:Str → Option Value) (base:Heap):Prop where
  o:∀ {x:Str} {a:Addr},N1 K x a → mg x = some (.ref a)
section
variable {P:Program} {w:World} {K:PySem.W.Frag} {mg:Str → Option Value} {base:Heap} {k:Nat} {x y q:Str} {st:Stmt} {ps:List Str} {sp:Sp}
theorem own_fi {f:Addr} {fd:FuncData} (Z:Zs P w K mg base) (g:FIn K x st f fd) (F:FnOk P w K mg base (XC P w) k f fd ps sp)
    (h:∀ (kV doc pm:Value) (an:Option Addr) (cd ct:Value),Al ps fun us=>bindArgs (PySem.W.fnOf x x (defArgs st) (defBody st) (defScope st) .none kV doc pm an cd ct) ⟨us,[]⟩ = pure (ps.zip us):=by intro _ _ _ _ _ _; (repeat intro _); rfl):Own P w K mg base (XC P w) k x ps sp:=⟨f,fd,F,Z.o ⟨g.a⟩,g.k,g.F.binds fun _ _ _ _ _ _ us hl=>al_all (h ..) us hl⟩
theorem own_of (Z:Zs P w K mg base) (g:FX K x st) (F:∀ {f fd},Fun K x x st f fd → FnOk P w K mg base (XC P w) k f fd ps sp)
    (h:∀ (kV doc pm:Value) (an:Option Addr) (cd ct:Value),Al ps fun us=>bindArgs (PySem.W.fnOf x x (defArgs st) (defBody st) (defScope st) .none kV doc pm an cd ct) ⟨us,[]⟩ = pure (ps.zip us):=by intro _ _ _ _ _ _; (repeat intro _); rfl):Own P w K mg base (XC P w) k x ps sp:=by
  obtain ⟨f,fd,g⟩:=g
  exact own_fi Z g (F g.F) h
theorem own_rh {sp2:Sp} (O:Own P w K mg base (XC P w) k x ps (spOr (spUp K sRHM) sp2)):Own P w K mg base (XC P w) k x ps (spOr (spUp K sRH) sp2):=O.imp fun _ _ _ _ h=>h.imp rh_frz id
end
theorem all_mk {l:PySem.W.OpenLaw} {w:World} {K:PySem.W.Frag} {h:Heap} {mg:Str → Option Value} {fa:Addr} (X:K.In h) (G:h.Ns mainGlobals mg) (hfa:mg "law" = some (.ref fa))
    {CN CL:Addr} (aN:N1 K "NoText" CN) (aL:N1 K "LineError" CL) (zV:N0 K "ValueError") (q1:PySem.W.excIn K CN bmV "ValueError.__new__" = true) (m1:PySem.W.exmOne K (.ref CN) (.ref CL) = some true) (m2:PySem.W.exmOne K (.ref CN) (.ref CN) = some true) (m3:PySem.W.exmOne K (.type "ValueError") (.type "ValueError") = some true) (xc:ExcCls K CN)
    (g0:FX K "_law_take" s_law_take)
    (g1:FX K "_law_pot" s_law_pot)
    (g2:FX K "_law_wide" s_law_wide)
    (g3:FX K "_law_number" s_law_number)
    (g4:FX K "_law_heap" s_law_heap)
    (g5:FX K "common_divisor" scommon_divisor)
    (g6:FX K "lead" slead)
    (g7:FX K "through" sthrough)
    (g8:FX K "_law_divisor" s_law_divisor)
    (g9:FX K "is_whole" sis_whole)
    (g10:FX K "are_whole" sare_whole)
    (g11:FX K "has_few_figures" shas_few_figures)
    (g12:FX K "is_point" sis_point)
    (g13:FX K "is_lead" sis_lead)
    (g14:FX K "is_line" sis_line)
    (g15:FX K "write_heap" swrite_heap)
    (g16:FX K "write_line" swrite_line)
    (g17:FX K "split_text" ssplit_text)
    (g18:FX K "read_number" sread_number)
    (g19:FX K "read_numbers" sread_numbers)
    (g20:FX K "read_point" sread_point)
    (g21:FX K "read_line" sread_line)
    (g22:FX K "read_heap" sread_heap)
    (g23:FX K "_law_word" s_law_word)
    (g24:FX K "_law_point_of" s_law_point_of)
    (g25:FX K "_law_line_of" s_law_line_of)
    (g26:FX K "_law_heap_of" s_law_heap_of)
    (g27:FX K "_law_read" s_law_read)
    (g28:FX K "_law_sign_spoilt" s_law_sign_spoilt)
    (g29:FX K "_law_spoilt" s_law_spoilt)
    (g30:FX K "_law_texts_right" s_law_texts_right)
    (g31:FX K "_law_right" s_law_right)
    {f:Addr} {od an:Option Addr} {sl:Array (Option Value)} {oc kV dc pm cd ct:Value} (a:PySem.W.nsIn K mainGlobals "law" = some (some (.ref f))) (lk:K.lookup f = some ⟨oc,od,.func (PySem.W.fnOf "law" "law" (defArgs slaw) (defBody slaw) (defScope slaw) .none kV dc pm an cd ct),sl⟩) (c:PySem.W.codeIn K cd "law" = true) (k:PySem.W.keepIn K (.ref f) = true)
    (z0:N0 K "len") (z1:N0 K "range") (z2:N0 K "max") (z3:N0 K "min") (z4:N0 K "abs") (z5:N0 K "int") (z6:N0 K "isinstance") (z7:N0 K "tuple") (z8:N0 K "bool") (z9:N0 K "list") (z10:N0 K "all") (z11:N0 K "any") (z12:N0 K "set") (z13:N0 K "sorted") (z14:N0 K "str") (z15:N0 K "enumerate") (z16:N0 K "zip") (z17:N0 K "divmod")
    : ∃ fd:FuncData,(∀ (s:Shared) (v:Value),BindsTo s fd ⟨[v],[]⟩ [("_law_script",v)]) ∧ ∀ base:Heap,K.In base → base.Ns mainGlobals mg → FnOk l.prog w K mg base (XC l.prog w) 9 fa fd ["_law_script"] (spLaw K):=by
  have e:=hfa.symm.trans (PySem.W.mg_of X G a)
  cases e
  have zz:∀ {x:Str},N0 K x → mg x = none:=fun z=>PySem.W.mg_none_of X G z.e
  have T:Txt mg:=by constructor <;> exact zz (by assumption)
  refine ⟨PySem.W.fnOf "law" "law" (defArgs slaw) (defBody slaw) (defScope slaw) .none kV dc pm an cd ct,fun s v=>.of_eq rfl,fun base Kb Gb=>?_⟩
  have Z:Zs l.prog w K mg base:=⟨fun n=>PySem.W.mg_of X G n.e⟩
  have TC:TxtC K mg CN:=⟨Z.o aN,q1,m2,zz zV,m3⟩
  have TL:TxtL K mg CN CL:=⟨Z.o aL,m1,xc⟩
  have O_law_take:=own_of Z g0 (fun F=>ok_take F)
  have O_law_pot:=own_of Z g1 (fun F=>ok_pot F T)
  have O_law_wide:=own_of Z g2 (fun F=>ok_wide F T noXC O_law_take)
  have O_law_number:=own_of Z g3 (fun F=>ok_number F noXC O_law_take O_law_wide)
  have O_law_heap:=own_of Z g4 (fun F=>ok_heap F T noXC O_law_take O_law_number)
  have Ocommon_divisor:=own_of Z g5 (fun F=>ok_cd F T)
  have Olead:=own_of Z g6 (fun F=>ok_lead F noXC Ocommon_divisor)
  have Othrough:=own_of Z g7 (fun F=>ok_through F noXC Olead)
  have O_law_divisor:=own_of Z g8 (fun F=>ok_dv F T)
  have Ois_whole:=own_of Z g9 (fun F=>ok_is_whole F T)
  have Oare_whole:=own_of Z g10 (fun F=>ok_are_whole F T noXC Ois_whole)
  have Ohas_few_figures:=own_of Z g11 (fun F=>ok_few F T)
  have Ois_point:=own_of Z g12 (fun F=>ok_is_point F T noXC Oare_whole Ohas_few_figures)
  have Ois_lead:=own_of Z g13 (fun F=>ok_is_lead F noXC Ocommon_divisor)
  have Ois_line:=own_of Z g14 (fun F=>ok_is_line F T noXC Oare_whole Ois_lead)
  have Owrite_heap:=own_of Z g15 (fun F=>ok_write_heap F)
  have Owrite_line:=own_of Z g16 (fun F=>ok_write_line F)
  have Osplit_text:=own_of Z g17 (fun F=>ok_split_text F T)
  have Oread_number:=own_of Z g18 (fun F=>(ok_read_number F T).or (ok_read_numberX F T TC))
  have Oread_numbers:=own_of Z g19 (fun F=>(ok_read_numbers F T noXC Osplit_text Oread_number.l).or (ok_read_numbersX F T Osplit_text Oread_number))
  have Oread_point:=own_of Z g20 (fun F=>(ok_read_point F T noXC Oread_numbers.l Ois_point).or (ok_read_pointX F TC Oread_numbers Ois_point))
  have Oread_line:=own_of Z g21 (fun F=>(ok_read_line F T noXC Oread_numbers.l Ois_line).or (ok_read_lineX F TC Oread_numbers Ois_line))
  have Oread_heap:=own_of Z g22 (fun F=>(ok_read_heap F T noXC Osplit_text Oread_point.l).or (ok_read_heapX F T Osplit_text Oread_point))
  have O_law_word:=own_of Z g23 (fun F=>ok_lword F T)
  have O_law_point_of:=own_of Z g24 (fun F=>ok_lpt F T noXC O_law_word)
  have O_law_line_of:=own_of Z g25 (fun F=>ok_lln F T noXC O_law_word O_law_divisor)
  have O_law_heap_of:=own_of Z g26 (fun F=>ok_lhp F T noXC O_law_point_of)
  have O_law_read:=own_of Z g27 (fun F=>((ok_lrd F T TL noXC (own_rh Oread_heap).l Oread_point.l Oread_line.l).or (ok_lrdX F T TC TL (own_rh Oread_heap) Oread_point Oread_line)).imp fun _ _ _ _ h=>rd_all h)
  have O_law_sign_spoilt:=own_of Z g28 (fun F=>ok_sgs F T noXC O_law_take)
  have O_law_spoilt:=own_of Z g29 (fun F=>ok_spoilt F T noXC O_law_take O_law_sign_spoilt)
  have O_law_texts_right:=own_of Z g30 (fun F=>ok_txr F T noXC O_law_heap_of O_law_point_of O_law_line_of O_law_read)
  have O_law_right:=own_of Z g31 (fun F=>ok_right F T noXC O_law_heap Owrite_heap O_law_texts_right Oread_heap.l Othrough Owrite_line O_law_spoilt)
  exact (ok_law (fun_mk (st:=slaw) lk c k) T noXC O_law_pot O_law_right).imp fun _ _ _ _ h=>law_up h
theorem walk {l:PySem.W.OpenLaw} {q:Program} {loose:List Str} {XP:(Str → Option Value) → Heap → Prop} {YP:World → Heap → Prop} {d:DefRec} {K:Params → PySem.W.Frag} (hn:l.most = some 63) (hdf:d.params.defaults = [])
    (hY:∀ (w:World) (h:Heap),YP w h → (K w.params).In h)
    (F:∀ (w:World) (mg:Str → Option Value) (fa:Addr) (h:Heap),(K w.params).In h → h.Ns mainGlobals mg → mg d.name = some (.ref fa) →
      ∃ fd:FuncData,(∀ (s:Shared) (u:Value),BindsTo s fd ⟨[u],[]⟩ [("_law_script",u)]) ∧ ∀ base:Heap,(K w.params).In base → base.Ns mainGlobals mg → FnOk l.prog w (K w.params) mg base (XC l.prog w) 9 fa fd ["_law_script"] (spLaw (K w.params))) :
    L2.WalkC q loose XP YP l.row.toRowW d [] :=
  L2.walk_of (n:=63) (k:=9) (x := "_law_script") (CX:=fun w=>(XC l.prog w)) (sp:=fun w=>spLaw (K w.params)) hn (by decide) hdf ⟨rfl,by decide,by decide⟩ hY F (fun _ _ a ns hl _ hS=>⟨a,ns,rfl,hS,hl,fun _=>rfl⟩) fun _ _ _ _ _ z=>noXC _ _ _ _ _ z
theorem PySem.W.holds_open:type_of% @L2.holdsC:=@L2.holdsC
end K14
inductive PySem.W.Fast
|tw15690696496488888039|tw12370118503812417333|tw17176748663188268610|tw15176100911008139249|tw5174841051962743126|tw1588238513904439096|tw11981286680604207027|tw6684157115877765080|tw5716423942359073528|tw16595083158776512641|tw8500174924987660518|tw10731586377796427057|tw2775445751026245464|tw2089479141288087381|tw16722920495340756628|tw15523162447743448298|tw16721340065658135398|tw16129053783186912019|tw1948294849001409779|tw10647997801220738395|tw14259467232516997885|tw9940911588670244935|tw2763775523000348595|tw15869711124275727186|tw7966265665307183245|tw3346767893645910084|tw4521848406493784742|tw11392656690432949747|tw12335873660789993772|tw2747343496375711145|tw17538073681046494954|tw9226759261536247052|tw5416385375419136335|tw15816845857484982543|tw2932171897950558117|tw17211118670877167333|tw3237310420819628463|tw5790998513161942737|tw244718005881036509|tw15680087436150708165|tw12846896724685289247|tw7090878201377714918|tw110319669324883232|tw2770688250264458755|tw9107752533429682662|tw6360394969112919410|tw17910642175109945859|tw7258384745025885338|tw8505726129364585043|tw2256125824785951551|tw7387939509261038607|tw6603045017133649674|tw4470314734665744247|tw4397645910915988099|tw10020522261000802348|tw5316524241177204620|tw12992646789190865543|tw1694807953851545941|tw16957551903054994738|tw79938633076466985|tw8160551940810389082|tw5218301989032545290|tw2801727385823220298|tw3467765730232384983|tw5245798902952407819|tw12528041095874298640|tw8777749809826637624|tw11647259509539881252|tw152121295823598668|tw7640376825939738321|tw3181259135606727758|tw15706021085324764544|tw13070916890126238313|tw3201964165910325265|tw2524182250667795212|tw610180180596055497|tw5480411973885408036|tw10124932248739978758|tw1748796320154201090|tw12187363869572947706|tw16271549339037557321|tw8014560818612655336|tw10022851723218014747|tw15411247393511241620|tw2695688242223599722|tw5095848702830000059|tw17225303529421699071|tw8311272098250662649|tw7696799602847292680|tw17790499854600202259|tw9465167792422348300|tw9909382952261422115|tw16083319440663062158|tw14314947209234716322|tw8508988427149691382|tw8302968446582237523|tw9218681712067310268|tw17750489125726946695|tw3466083041009035015|tw17740816792064914519|tw3568204498491765414|tw13794239514738252741|tw14691837066916577329|tw8145118171344222829|tw12603539526146197136|tw17818122965172838527|tw6935355531783524025|tw4051341796299558706|tw18436052545598842281|tw17127485320339947992|tw13361371438685248276|tw12020456576422545789|tw17447661870009965335|tw11097910088998582587|tw16837290217870217655|tw1271848109365518065|tw11919830668553468436|tw2772820530126058393|tw573861524259126960|tw3202855137737141560|tw12263154397485446982|tw10609950406699373101|tw4346391737885659920|tw14782294737728722607|tw12012185742216105989|tw17494987162504917112|tw5206624089359786641|tw53914757260110428|tw11587878402764824547|tw3755822739211494551|tw2493041528935400543|tw5333381580917969188|tw5574381047251462179|tw7184797509607741356|tw15019045795459245573|tw1753887058140434730|tw17452437496953695984|tw2189521626612941911|tw3851475542040363760|tw8379600695589849882|tw18202394768158280928|tw6345079290061210370|tw12264771482627727363|tw18393938642272821213|tw10872423790829669310|tw12015423196003098436|tw18396003449285148256|tw6902033659024560847|tw16321695076518821015|tw10656855937284596626|tw12300553175851912378|tw8154836914819755861|tw15412890509857970343|tw1875922217736890876|tw3163210553877885480|tw7480523351527396102|tw1061787423567197451|tw15112202106771306074|tw15361626284189941991|tw9238750815565704477|tw11212913584796363634|tw7539433425269838213|tw1210313014248786767|tw15402450028858675326|tw5048416194193684201|tw2183392846880285121|tw10157884955429469218|tw16076954845715526247|tw18355828782740812571|tw17750308792667408845|tw16256693118780515039|tw166616855549874441|tw16397234241333175707|tw9943037143314058268|tw4973318644658532085|tw9967395464287319745|tw10916529980670703729|tw12716621862368919948|tw13154830266233075506|tw17404474446098131113|tw7514239764708472566|tw9415063857285817658|tw2830307897730281205|tw5760992087499718225|tw14212785233484628232|tw1900564387136912182|tw9027229697283426107|tw5216578826355315883|tw11091930333869349984|tw9676087238788680388|tw6214505904294668899|tw5359623778393453894|tw13340805856063716914|tw1886517516286577484|tw2636020991303077171|tw16435350944482161316|tw1676230405818440809|tw9774475030157239302|tw6938459586265857424|tw16495968046483596972|tw1047675215908752245|tw8863641204061188003|tw533344246414363086|tw10972261146515234104|tw6209043062654804074|tw8311258123876042392|tw13769341763703454903|tw13520963786897838760|tw9943905816290912284|tw11917972334692438239|tw16336446172681331930|tw13550904550176319613|tw10642642173808925065|tw11968148575946262957|tw1815849622231218003|tw10279993742357924556|tw4107694558274971959|tw9272365798530850556|tw14568895239330692444|tw2083501964556469325|tw14614756513572080022|tw2203520064765890022|tw5532708025281933399|tw5224509060459463391|tw17795193871398386816|tw8683874806975244504|tw6740387124960476249|tw14700962782930127152|tw1560873477953404113|tw15142452232443727629|tw15507507386818210302|tw1514964789685824509|tw3405747505135333899|tw6248404967544608197|tw14802378368372340010|tw14308196207858160487|tw6185514772325949174|tw7934982534289134544|tw8783127641537732176|tw12187774019563615886|tw12731875490459261504
namespace K14
open PySem PySem.W PyProof.Rows
set_option maxRecDepth 100000 in
set_option maxHeartbeats 0 in
theorem thm:PySem.Challenge.rw_halveline_k14_texts_there_and_back.Holds:=by
  have _:=@K14.PySem.W.holds_open
  w_on; o_law; k_head; (case hw=>w_witness2)
  k_fill
  refine K14.walk (l:=PySem.Challenge.rw_halveline_k14_texts_there_and_back) rfl rfl (fun w h Y=>_root_.PySem.W.kIn_of Y) ?F
  case F =>
    intro w mg fa h KX G hmg
    refine' K14.all_mk KX G hmg ..
    all_goals first | refine' ⟨_,_,K14.fin_mk ?_ ?_ ?_ ?_⟩ | refine' K14.fin_mk ?_ ?_ ?_ ?_ | refine' K14.N1.mk ?_ | refine' K14.N0.mk ?_ | refine' L2.ExcCls.mk ?_ ?_ ?_ ?_ ?_ ?_ ?_ ?_ | skip
    all_goals try k_is
    all_goals first | kernel_rfl | k_exc | rfl
end K14
theorem PySem.Challenge.cw_halveline_k14_texts_there_and_back_holds : PySem.Challenge.rw_halveline_k14_texts_there_and_back.Holds :=
  K14.thm
