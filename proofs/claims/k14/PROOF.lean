import PyProof.Rows.All
import Wide.All
import OpenK.AllK
import Wide.FinOn
import HandS.ForMost
import HandS.Evl
import HandS.Walk
import HandS.Defaults
import HandS.Property
import HandS.Style
import HandS.Flow
import HandS.IsInst
import HandS.Conv
import HandS.Wide
import HandS.OwnEq
import HandS.EndBits
import KE.KFmtOwn
import PySem.Challenge.RW_listwindow_k14_rows_that_filters_let
set_option Elab.async false
set_option linter.all false
set_option maxRecDepth 100000
set_option maxHeartbeats 4000000
/-! Readings that choose their rule when the values are known; what is known of the heap, and what grows. -/
namespace Lw
open PySem PySem.Spec L2 Evl

/-! ### judgements with the rule left open -/
def WE (X : Cx) (e : Expr) : TE := fun σ H Q => ∃ t, PE X e t ∧ t σ H Q
def WT (X : Cx) (e : Expr) : TT := fun σ H Q => ∃ t, PT X e t ∧ t σ H Q
def WB (X : Cx) (e : Expr) : TT := fun σ H Q => ∃ t, PW X e t ∧ t σ H Q
def WA (X : Cx) (es : List Expr) : TA := fun σ H Q => ∃ t, PA X es t ∧ t σ H Q
def WK (X : Cx) (ks : List Keyword) : TA := fun σ H Q => ∃ t, PK X ks t ∧ t σ H Q
def WS (X : Cx) (s : Stmt) : TS := fun D σ H => ∃ t, PS X s t ∧ t D σ H
def WSs (X : Cx) (s : List Stmt) : TS := fun D σ H => ∃ t, PSs X s t ∧ t D σ H
def WG (X : Cx) (tg : Expr) : TG := fun v σ H Q => ∃ t, PG X tg t ∧ t v σ H Q
def WGs (X : Cx) (tgs : List Expr) : TGs := fun v σ H Q => ∃ t, PGs X tgs t ∧ t v σ H Q
def WI (X : Cx) (tg it : Expr) : TI := fun σ H R => ∃ t, PI X tg it t ∧ t σ H R
def WO (X : Cx) (e : Option Expr) : TO := fun σ H Q => ∃ t, PO X e t ∧ t σ H Q
def WTs (X : Cx) (es : List Expr) : TT := fun σ H Q => ∃ t, PTs X es t ∧ t σ H Q
section
variable {X : Cx} {e tg : Expr} {es : List Expr} {s : Stmt} {ss : List Stmt} {ks : List Keyword} {o : Option Expr}
theorem WE.pe : PE X e (WE X e) := ⟨fun pins s σ H Q I h => by obtain ⟨t, h1, h2⟩ := h; exact h1.run pins s σ H Q I h2⟩
theorem WT.pt : PT X e (WT X e) := ⟨fun pins s σ H Q I h => by obtain ⟨t, h1, h2⟩ := h; exact h1.run pins s σ H Q I h2⟩
theorem WB.pw : PW X e (WB X e) := ⟨fun wh pins s σ H Q I h => by obtain ⟨t, h1, h2⟩ := h; exact h1.run wh pins s σ H Q I h2⟩
theorem WA.pa : PA X es (WA X es) := ⟨fun pos pins s σ H Q I h => by obtain ⟨t, h1, h2⟩ := h; exact h1.run pos pins s σ H Q I h2⟩
theorem WK.pk : PK X ks (WK X ks) := ⟨fun pos pins s σ H Q I h => by obtain ⟨t, h1, h2⟩ := h; exact h1.run pos pins s σ H Q I h2⟩
theorem WS.ps : PS X s (WS X s) := ⟨fun pins s σ H D I h => by obtain ⟨t, h1, h2⟩ := h; exact h1.run pins s σ H D I h2⟩
theorem WSs.pss : PSs X ss (WSs X ss) := ⟨fun pins s σ H D I h => by obtain ⟨t, h1, h2⟩ := h; exact h1.run pins s σ H D I h2⟩
theorem WG.pg : PG X tg (WG X tg) := ⟨fun pins s σ H v u Q I r h => by obtain ⟨t, h1, h2⟩ := h; exact h1.run pins s σ H v u Q I r h2⟩
theorem WGs.pgs : PGs X es (WGs X es) := ⟨fun pins s σ H v u Q I r h => by obtain ⟨t, h1, h2⟩ := h; exact h1.run pins s σ H v u Q I r h2⟩
theorem WI.pi : PI X tg e (WI X tg e) := ⟨fun pins s σ H R I h => by obtain ⟨t, h1, h2⟩ := h; exact h1.run pins s σ H R I h2⟩
theorem WO.po : PO X o (WO X o) := ⟨fun pins s σ H Q I h => by obtain ⟨t, h1, h2⟩ := h; exact h1.run pins s σ H Q I h2⟩
theorem WTs.pts : PTs X es (WTs X es) := ⟨fun pins s σ H Q I h => by obtain ⟨t, h1, h2⟩ := h; exact h1.run pins s σ H Q I h2⟩
end

/-! ### expressions -/
section
variable {X : Cx} {σ : L2.St} {H : Hp} {Q : VK} {a b c e : Expr} {pos p2 : Pos} {x : Str} {v : V} {r r2 : R2}
theorem e_name (i : Nat) (hN : X.N[i]? = some x := by rfl) (hs : σ[i]? = some (some v) := by rfl) (hv : Vis X.env.scope x := by first | exact Or.inl rfl | exact Or.inr (Or.inl rfl) | exact Or.inr (Or.inr rfl)) (hd : (x == ("__debug__" : Str)) = false := by decide)
    (hcd : (x == ("__classdict__" : Str)) = false := by decide) (q : Q v H) : WE X (.Name x pos) σ H Q := ⟨_, pe_var hN hv hd hcd, v, hs, q⟩
theorem e_glob {u : Value} (hm : X.mg x = some u) (rv : RelV v u) (hg : Gl X x := by rfl) (hd : (x == ("__debug__" : Str)) = false := by decide) (q : Q v H) : WE X (.Name x pos) σ H Q := ⟨_, pe_glob hg hm rv hd, q⟩
theorem e_bltn {u : Value} (hm : X.mg x = none) (hv : bootBuiltins x = some u) (rv : RelV v u) (hg : Gl X x := by rfl) (hn : x ≠ "__name__" := by decide) (hd : (x == ("__debug__" : Str)) = false := by decide) (q : Q v H) : WE X (.Name x pos) σ H Q := ⟨_, pe_bltn hg hm hv rv hn hd, q⟩
theorem e_int {i j} (q : Q (.int i) H) : WE X (.Constant (.int i) j pos) σ H Q := ⟨_, pe_int, q⟩
theorem e_bl {i j} (q : Q (.bl i) H) : WE X (.Constant (.bool i) j pos) σ H Q := ⟨_, pe_bl, q⟩
theorem e_non {j} (q : Q .non H) : WE X (.Constant .none j pos) σ H Q := ⟨_, pe_non, q⟩
theorem e_str {i j} (q : Q (.str i) H) : WE X (.Constant (.str i) j pos) σ H Q := ⟨_, pe_str, q⟩
theorem e_bin {op : Operator} (ho : OpR X (binaryOp op) r) (h : WE X a σ H fun x H1 => WE X b σ H1 fun y H2 => r x y H2 Q) : WE X (.BinOp a op b pos) σ H Q := ⟨_, pe_op ho WE.pe WE.pe, h⟩
theorem e_cmp {op : CmpOp} (ho : OpR X (compareOp op) r) (hm : behindInMarks op b = false := by first | exact nomark _ | rfl) (h : WE X a σ H fun x H1 => WE X b σ H1 fun y H2 => r x y H2 Q) : WE X (.Compare a [op] [b] pos) σ H Q := ⟨_, pe_cmpR ho WE.pe WE.pe hm, h⟩
theorem e_neg (h : WE X a σ H fun x H1 => ∃ i, x = .int i ∧ Q (.int (-i)) H1) : WE X (.UnaryOp .USub a pos) σ H Q := ⟨_, pe_un un_neg WE.pe, h⟩
theorem e_add (h : WE X a σ H fun x H1 => WE X b σ H1 fun y H2 => ∃ i j, x = .int i ∧ y = .int j ∧ Q (.int (i + j)) H2) : WE X (.BinOp a .Add b pos) σ H Q := e_bin op_add h
theorem e_sub (h : WE X a σ H fun x H1 => WE X b σ H1 fun y H2 => ∃ i j, x = .int i ∧ y = .int j ∧ Q (.int (i - j)) H2) : WE X (.BinOp a .Sub b pos) σ H Q := e_bin op_sub h
theorem e_mul (h : WE X a σ H fun x H1 => WE X b σ H1 fun y H2 => ∃ i j, x = .int i ∧ y = .int j ∧ CMulW i j ∧ Q (.int (i * j)) H2) : WE X (.BinOp a .Mult b pos) σ H Q := e_bin op_mulW h
theorem e_mod (h : WE X a σ H fun x H1 => WE X b σ H1 fun y H2 => ∃ i j, x = .int i ∧ y = .int j ∧ 0 < j ∧ Q (.int (i % j)) H2) : WE X (.BinOp a .Mod b pos) σ H Q := e_bin op_mod h
theorem e_fdiv (h : WE X a σ H fun x H1 => WE X b σ H1 fun y H2 => ∃ i j, x = .int i ∧ y = .int j ∧ CDivW i j ∧ Q (.int (i / j)) H2) : WE X (.BinOp a .FloorDiv b pos) σ H Q := e_bin op_fdivW h
theorem e_pow (h : WE X a σ H fun x H1 => WE X b σ H1 fun y H2 => ∃ i j, x = .int i ∧ y = .int j ∧ CPow i j ∧ Q (.int (i ^ j.toNat)) H2) : WE X (.BinOp a .Pow b pos) σ H Q := e_bin op_pow h
theorem e_if {t : Expr} (h : WT X t σ H fun k H1 => if k = true then WE X a σ H1 Q else WE X b σ H1 Q) : WE X (.IfExp t a b pos) σ H Q := ⟨_, pe_ifExp WT.pt WE.pe WE.pe, h⟩
theorem e_and {rest : List Expr} (h : WE X a σ H fun x H1 => ∃ c, x = .bl c ∧ if c = true then WE X (.BoolOp .And (b :: rest) pos) σ H1 Q else Q (.bl false) H1) : WE X (.BoolOp .And (a :: b :: rest) pos) σ H Q := ⟨_, pe_and WE.pe WE.pe, h⟩
theorem e_or {rest : List Expr} (h : WE X a σ H fun x H1 => ∃ c, x = .bl c ∧ if c = true then Q (.bl true) H1 else WE X (.BoolOp .Or (b :: rest) pos) σ H1 Q) : WE X (.BoolOp .Or (a :: b :: rest) pos) σ H Q := ⟨_, pe_or WE.pe WE.pe, h⟩
theorem e_one {op} (h : WE X a σ H Q) : WE X (.BoolOp op [a] pos) σ H Q := ⟨_, pe_one WE.pe, h⟩
theorem e_not (h : WE X a σ H fun x H1 => ∃ c, x = .bl c ∧ Q (.bl (!c)) H1) : WE X (.UnaryOp .Not a pos) σ H Q := ⟨_, pe_not WE.pe, h⟩
theorem e_lst {es : List Expr} (h : WA X es σ H fun xs H1 => xs.length ≤ sizeLine ∧ ∀ p, H1 p = none → Q (.ref p) (upd H1 p (.lst xs))) : WE X (.List es pos) σ H Q := ⟨_, pe_lst WA.pa, h⟩
theorem e_tup {es : List Expr} {k : Nat} (h : WA X es σ H fun xs H1 => xs.length ≤ sizeLine ∧ ∀ p, H1 p = none → Q (.ref p) (upd H1 p (.tup xs))) : WE X (.Tuple es k pos) σ H Q := ⟨_, pe_tup WA.pa, h⟩
theorem e_ixL (hs : PlainIx b := by exact fun _ _ => rfl) (h : WE X a σ H fun x H1 => WE X b σ H1 fun y H2 => ∃ p xs i v, x = .ref p ∧ y = .int i ∧ SqL X.K H2 p xs ∧ atI xs i = some v ∧ Q v H2) : WE X (.Subscript a b pos) σ H Q := ⟨_, pe_ix ix_list WE.pe WE.pe hs, h⟩
theorem e_ixT (hs : PlainIx b := by exact fun _ _ => rfl) (h : WE X a σ H fun x H1 => WE X b σ H1 fun y H2 => ∃ p xs i v, x = .ref p ∧ y = .int i ∧ SqT X.K H2 p xs ∧ atI xs i = some v ∧ Q v H2) : WE X (.Subscript a b pos) σ H Q := ⟨_, pe_ix ix_tup WE.pe WE.pe hs, h⟩
theorem e_fld {f : Str} (hb : attributeBase e f X.env (eval e X.env) = eval e X.env := by rfl) (h : WE X e σ H fun x H1 => ∃ a C dx fs v, x = .ref a ∧ H1 a = some (.ins C dx fs) ∧ Cls X.K C ∧ NoAttr X.K C f ∧ fs.lookup f = some v ∧ Q v H1) : WE X (.Attribute e f pos) σ H Q := ⟨_, pe_fld WE.pe hb, h⟩
theorem e_slice {lo hi : Option Expr} (h : WE X a σ H fun x H1 => WO X lo σ H1 fun i H2 => WO X hi σ H2 fun j H3 => ∃ a xs, x = .ref a ∧ SqL X.K H3 a xs ∧ ∀ p, H3 p = none → Q (.ref p) (upd H3 p (.lst (cutV xs i j)))) : WE X (.Subscript a (.Slice lo hi none p2) pos) σ H Q := ⟨_, pe_slice sl_list WE.pe WO.po WO.po, h⟩
theorem o_none {Q : Option Int → Hp → Prop} (q : Q none H) : WO X none σ H Q := ⟨_, po_none, q⟩
theorem o_some {Q : Option Int → Hp → Prop} (h : WE X e σ H fun x H1 => ∃ i, x = .int i ∧ Q (some i) H1) : WO X (some e) σ H Q := ⟨_, po_some WE.pe, h⟩
/-- a built-in by its name -/
theorem e_blt {id : String} {rc : List V → Hp → VK → Prop} {es : List Expr} (hc : CallR X (.builtin id) rc) (hm : X.mg x = none) (hv : bootBuiltins x = some (.builtin id)) (h : WA X (e :: es) σ H fun vs H1 => rc vs H1 Q)
    (hg : Gl X x := by rfl) (hn : x ≠ "__name__" := by decide) (hd : (x == ("__debug__" : Str)) = false := by decide) (he : starEach (e :: es) X.env = (false, eval e X.env) :: starEach es X.env := by rfl) (hpl : (backTo pos (starEach es X.env)).any (·.1) = false := by rfl) : WE X (.Call (.Name x p2) (e :: es) [] pos) σ H Q :=
  ⟨_, pe_callB hc hg hm hv WA.pa hn hd he hpl, h⟩
end
section
variable {X : Cx} {σ : L2.St} {H : Hp} {Q : VK} {a b c e : Expr} {pos p2 : Pos} {x : Str} {v : V} {r r2 : R2} {es : List Expr} {QA : List V → Hp → Prop} {QT : Bool → Hp → Prop}
theorem e_ty {T : String} {rc : List V → Hp → VK → Prop} (hc : CallR X (.type T) rc) (hm : X.mg x = none) (hv : bootBuiltins x = some (.type T)) (h : WA X (e :: es) σ H fun vs H1 => rc vs H1 Q)
    (hg : Gl X x := by rfl) (hn : x ≠ "__name__" := by decide) (hd : (x == ("__debug__" : Str)) = false := by decide) (he : starEach (e :: es) X.env = (false, eval e X.env) :: starEach es X.env := by rfl) (hpl : (backTo pos (starEach es X.env)).any (·.1) = false := by rfl) : WE X (.Call (.Name x p2) (e :: es) [] pos) σ H Q :=
  ⟨_, pe_callTy hc hg hm hv WA.pa hn hd he hpl, h⟩
theorem a_nil (q : QA [] H) : WA X [] σ H QA := ⟨_, pa_nil, q⟩
theorem a_cons (hp : starEach (e :: es) X.env = (false, eval e X.env) :: starEach es X.env := by rfl) (h : WE X e σ H fun x H1 => WA X es σ H1 fun xs H2 => QA (x :: xs) H2) : WA X (e :: es) σ H QA := ⟨_, pa_cons WE.pe WA.pa hp, h⟩
theorem k_nil (q : QA [] H) : WK X [] σ H QA := ⟨_, pk_nil, q⟩
theorem k_cons {nm : Option Str} {kp : Pos} {ks : List Keyword} (h : WE X e σ H fun x H1 => WK X ks σ H1 fun xs H2 => QA (x :: xs) H2) : WK X (⟨nm, e, kp⟩ :: ks) σ H QA := ⟨_, pk_cons WE.pe WK.pk, h⟩

/-! ### tests -/
theorem t_val (h : WE X e σ H fun x H1 => ∃ k, x = .bl k ∧ QT k H1) (he : ∀ whole, isTrue e X.env whole = (do let v ← whole; standAt e.pos; holding [v] (truthy v)) := by intro _; rfl) : WT X e σ H QT := ⟨_, pt_val WE.pe he, h⟩
theorem t_tru (h : WE X e σ H fun x H1 => ∃ k, TruV X.K x H1 k ∧ QT k H1) (he : ∀ whole, isTrue e X.env whole = (do let v ← whole; standAt e.pos; holding [v] (truthy v)) := by intro _; rfl) : WT X e σ H QT := ⟨_, pt_truth WE.pe he, h⟩
theorem t_cmp {op : CmpOp} (ho : OpR X (compareOp op) r) (hm : behindInMarks op b = false := by first | exact nomark _ | rfl) (h : WE X a σ H fun x H1 => WE X b σ H1 fun y H2 => r x y H2 fun z H3 => ∃ k, z = .bl k ∧ QT k H3) : WT X (.Compare a [op] [b] pos) σ H QT := ⟨_, pt_cmpR ho WE.pe WE.pe hm, h⟩
theorem t_chain {op op' : CmpOp} {r' : R2} (ho : OpR X (compareOp op) r) (ho' : OpR X (compareOp op') r') (hm : lastMarks [op, op'] [b, c] = false := by with_unfolding_all rfl) (h : WE X a σ H fun x H1 => WE X b σ H1 fun y H2 => r x y H2 fun z H3 => ∃ k, z = .bl k ∧ (if k = true then WE X c σ H3 (fun w H4 => r' y w H4 fun z H5 => ∃ k, z = .bl k ∧ QT k H5) else ∃ k', V.bl false = .bl k' ∧ QT k' H3)) : WT X (.Compare a [op, op'] [b, c] pos) σ H QT := ⟨_, pt_chain ho ho' WE.pe WE.pe WE.pe hm, by
    show WE X a σ H fun x H1 => WE X b σ H1 fun y H2 => r x y H2 fun z H3 => ∃ k, z = .bl k ∧ (if k = true then WE X c σ H3 (fun w H4 => r' y w H4 fun z H5 => ∃ k, z = .bl k ∧ QT k H5) else (fun (x : V) H' => ∃ k, x = V.bl k ∧ QT k H') (.bl false) H3)
    exact h⟩
theorem t_not (h : WT X a σ H fun k H1 => QT (!k) H1) : WT X (.UnaryOp .Not a pos) σ H QT := ⟨_, pt_not WT.pt, h⟩
theorem t_wb (h : WB X e σ H QT) : WT X e σ H QT := ⟨_, WB.pw.pt, h⟩
theorem b_and {rest : List Expr} (h : WT X a σ H fun k H1 => if k = true then WB X (.BoolOp .And (b :: rest) pos) σ H1 QT else QT false H1) : WB X (.BoolOp .And (a :: b :: rest) pos) σ H QT := ⟨_, pw_and WT.pt WB.pw, h⟩
theorem b_or {rest : List Expr} (h : WT X a σ H fun k H1 => if k = true then QT true H1 else WB X (.BoolOp .Or (b :: rest) pos) σ H1 QT) : WB X (.BoolOp .Or (a :: b :: rest) pos) σ H QT := ⟨_, pw_or WT.pt WB.pw, h⟩
theorem b_and1 (h : WT X a σ H QT) : WB X (.BoolOp .And [a] pos) σ H QT := ⟨_, pw_and1 WT.pt, h⟩
theorem b_or1 (h : WT X a σ H QT) : WB X (.BoolOp .Or [a] pos) σ H QT := ⟨_, pw_or1 WT.pt, h⟩

/-! ### targets -/
theorem g_name (i : Nat) {QG : L2.St → Hp → Prop} (hN : X.N.Nodup) (hi : X.N[i]? = some x := by rfl) (hx : Loc X.env.scope x := by first | exact Or.inl rfl | exact Or.inr rfl) (hf : X.fn x = true ∨ X.env.scope.names.lookup x = some .local := by first | exact .inl rfl | exact .inr rfl | assumption) (q : QG (σ.set i (some v)) H) : WG X (.Name x pos) v σ H QG := ⟨_, pg_name hN hi hx hf, q⟩
theorem gs_nil {QG : L2.St → Hp → Prop} (q : QG σ H) : WGs X [] [] σ H QG := ⟨_, pgs_nil, rfl, q⟩
theorem gs_cons {QG : L2.St → Hp → Prop} {vs : List V} (hs : (assignEach (e :: es) X.env).map (·.2) = assign e X.env :: (assignEach es X.env).map (·.2) := by rfl) (h : WG X e v σ H fun σ' H' => WGs X es vs σ' H' QG) : WGs X (e :: es) (v :: vs) σ H QG := ⟨_, pgs_cons WG.pg WGs.pgs hs, v, vs, rfl, h⟩
theorem g_tup {QG : L2.St → Hp → Prop} {k n : Nat} {p : Addr} {vs : List V} (hq : SqT X.K H p vs) (hl : vs.length = n) (hc : X.calm = true := by rfl) (hn : (assignEach es X.env).length = n := by rfl) (hst : (assignEach es X.env).findIdx? (·.1) = none := by rfl) (h : WGs X es vs σ H QG) : WG X (.Tuple es k pos) (.ref p) σ H QG := ⟨_, pg_tup hc WGs.pgs hn hst, p, vs, rfl, hq, hl, h⟩

/-! ### statements -/
variable {D : Ends} {st : Stmt} {rest body orelse : List Stmt}
theorem s_nil (q : D.nx σ H) : WSs X [] D σ H := ⟨_, pss_nil, q⟩
theorem s_cons (h : WS X st { D with nx := WSs X rest D } σ H) : WSs X (st :: rest) D σ H := ⟨_, pss_cons WS.ps WSs.pss, h⟩
theorem s_one (h : WS X st D σ H) : WSs X [st] D σ H := ⟨_, pss_one WS.ps, h⟩
theorem s_pass (q : D.nx σ H) : WS X (.Pass pos) D σ H := ⟨_, ps_pass, q⟩
theorem s_break (q : D.bk σ H) : WS X (.Break pos) D σ H := ⟨_, ps_break, q⟩
theorem s_cont (q : D.ct σ H) : WS X (.Continue pos) D σ H := ⟨_, ps_continue, q⟩
theorem s_expr (hs : swapsWith e none pos.line X.env = pure false := by rfl) (h : WE X e σ H fun _ H1 => D.nx σ H1) : WS X (.Expr e pos) D σ H := ⟨_, ps_expr WE.pe hs, h⟩
theorem s_ret (h : WE X e σ H D.rt) : WS X (.Return (some e) pos) D σ H := ⟨_, ps_ret WE.pe, h⟩
theorem s_retN (h : D.rt .non H) : WS X (.Return none pos) D σ H := ⟨_, ps_retN, h⟩
theorem s_if (h : WT X c σ H fun k H1 => if k = true then WSs X body D σ H1 else WSs X orelse D σ H1) : WS X (.If c body orelse pos) D σ H := ⟨_, ps_if WT.pt WSs.pss WSs.pss, h⟩
theorem s_set (i : Nat) (hN : X.N.Nodup) (hi : X.N[i]? = some x := by rfl) (hx : Loc X.env.scope x := by first | exact Or.inl rfl | exact Or.inr rfl) (hs : swapsWith e (some (.Name x p2)) pos.line X.env = pure false := by rfl)
    (hf : X.fn x = true ∨ X.env.scope.names.lookup x = some .local := by first | exact .inl rfl | exact .inr rfl | assumption) (h : WE X e σ H fun v H1 => D.nx (σ.set i (some v)) H1) : WS X (.Assign [.Name x p2] e pos) D σ H := ⟨_, ps_set hN hi hx WE.pe hs hf, h⟩
theorem s_asg {tg : Expr} (hs : swapsWithSole [tg] e pos.line X.env = pure false := by rfl) (hw : swappedStores [tg] e X.env = pure none := by rfl) (h1 : (assignEach [tg] X.env).map (·.2) = [assign tg X.env] := by rfl)
    (h : WE X e σ H fun v H1 => WG X tg v σ H1 D.nx) : WS X (.Assign [tg] e pos) D σ H := ⟨_, ps_asg WE.pe WG.pg hs hw h1, h⟩
theorem s_par (i j : Nat) {x y : Str} {px py pt : Pos} {kt k2 pt2} (hN : X.N.Nodup) (hij : i ≠ j := by decide) (hc : X.calm = true := by rfl) (hi : X.N[i]? = some x := by rfl) (hj : X.N[j]? = some y := by rfl)
    (hx : X.env.scope.names.lookup x = some .local := by rfl) (hy : X.env.scope.names.lookup y = some .local := by rfl) (hw : swappedStores [.Tuple [.Name x px, .Name y py] kt pt] (.Tuple [a, b] k2 pt2) X.env = pure (some [x, y]) := by rfl)
    (hs : swapsWithSole [.Tuple [.Name x px, .Name y py] kt pt] (.Tuple [a, b] k2 pt2) pos.line X.env = pure false := by rfl)
    (h : WA X [a, b] σ H fun vs H1 => ∃ v w, vs = [v, w] ∧ D.nx ((σ.set i (some v)).set j (some w)) H1) : WS X (.Assign [.Tuple [.Name x px, .Name y py] kt pt] (.Tuple [a, b] k2 pt2) pos) D σ H := ⟨_, ps_par hc hN hi hj hij hx hy WA.pa hw hs, h⟩
theorem s_never (h : False) : WS X st D σ H := h.elim
theorem s_fld {f : Str} {o value : Expr} {pos' : Pos} (hs : swapsWith value (some (.Attribute o f pos')) pos.line X.env = pure false := by rfl) (h : sFld X.K (WE X o) (WE X value) f D σ H) : WS X (.Assign [.Attribute o f pos'] value pos) D σ H := ⟨_, ps_fld WE.pe WE.pe hs, h⟩
theorem s_sub {o i value : Expr} {spos : Pos} (h : WE X value σ H fun v H1 => WE X o σ H1 fun ov H2 => WE X i σ H2 fun iv H3 => ∃ p xs k j, ov = .ref p ∧ iv = .int k ∧ H3 p = some (.lst xs) ∧ ixN xs.length k = some j ∧ D.nx σ (upd H3 p (.lst (xs.set j v))))
    (ha : ∀ v, assign (.Subscript o i spos) X.env v = (do
      let ov ← holding [v] (eval o X.env)
      let iv ← holding [v, ov] (eval i X.env)
      standAt spos
      holding [v, ov, iv] (setItem ov iv v)
      release [v, ov, iv] []) := by intro _; rfl)
    (hs : swapsWithSole [.Subscript o i spos] value pos.line X.env = pure false := by rfl) (hw : swappedStores [.Subscript o i spos] value X.env = pure none := by rfl) (h1 : (assignEach [.Subscript o i spos] X.env).map (·.2) = [assign (.Subscript o i spos) X.env] := by rfl) :
    WS X (.Assign [.Subscript o i spos] value pos) D σ H := ⟨_, ps_asg WE.pe (pg_sub WE.pe WE.pe set_list ha) hs hw h1, h⟩

/-! ### loops -/
variable {tg iter : Expr}
def tForR (J : It) (g : TG) (tb : TS) (D : Ends) (σ : L2.St) (H : Hp) : Prop := ∃ W : Nat → Nat → L2.St → Hp → Prop, (∃ m, W 0 m σ H) ∧ ∀ i m σ H, W i m σ H →
  (J.stop i H ∧ D.nx σ H) ∨ (J.go i H ∧ ∃ N : L2.St → Hp → Prop, (∀ σ' H', N σ' H' → ∃ m', m' < m ∧ W (i + 1) m' σ' H') ∧ ∀ x H', J.yld i H x H' → g x σ H' fun σ2 H2 => tb { D with nx := N, ct := N, bk := D.nx } σ2 H2)
theorem s_for (hp : PassesOwn (model X.prog X.w) X.A X.env X.xe := by exact PassesOwn.never) (hc : X.calm = true := by rfl) (hs : ∀ x, foldedSetIterable iter X.env x = pure x := by intro _; rfl)
    (h : WI X tg iter σ H fun J H1 => tForR J (WG X tg) (WSs X body) D σ H1) : WS X (.For tg iter body [] pos) D σ H := ⟨_, ps_for hp hc WI.pi WG.pg WSs.pss hs, h⟩
variable {R : It → Hp → Prop}
theorem i_list (h : WE X e σ H fun x H1 => ∃ a, x = .ref a ∧ (∃ xs, SqL X.K H1 a xs) ∧ R (Itl X.K a) H1) : WI X tg e σ H R := ⟨_, pi_list WE.pe, h⟩
theorem i_tup (h : WE X e σ H fun x H1 => ∃ a, x = .ref a ∧ (∃ xs, SqT X.K H1 a xs) ∧ R (Itt X.K a) H1) : WI X tg e σ H R := ⟨_, pi_tup WE.pe, h⟩
theorem i_rng1 (hm : X.mg "range" = none) (hg : Gl X "range" := by rfl) (hs : starEach [a] X.env = [(false, eval a X.env)] := by rfl) (h : WE X a σ H fun x H1 => ∃ j : Int, x = .int j ∧ -(2 ^ 62) ≤ j ∧ j < 2 ^ 62 ∧ R (Itr 0 j.toNat) H1) : WI X tg (.Call (.Name "range" p2) [a] [] pos) σ H R :=
  ⟨_, pi_range1 hg hm (pa_cons WE.pe pa_nil (by rw [hs]; rfl)) hs, by
    obtain ⟨t, h1, h2⟩ := h
    show WE X a σ H fun x H1 => ∃ j : Int, [x] = [.int j] ∧ -(2 ^ 62) ≤ j ∧ j < 2 ^ 62 ∧ R (Itr 0 j.toNat) H1
    have e : (fun (x : V) (H1 : Hp) => ∃ j : Int, [x] = [V.int j] ∧ -(2 ^ 62) ≤ j ∧ j < 2 ^ 62 ∧ R (Itr 0 j.toNat) H1) = (fun x H1 => ∃ j : Int, x = .int j ∧ -(2 ^ 62) ≤ j ∧ j < 2 ^ 62 ∧ R (Itr 0 j.toNat) H1) := by
      funext x H1
      simp only [List.cons.injEq, and_true]
    rw [e]
    exact ⟨t, h1, h2⟩⟩
theorem i_rng2 (hm : X.mg "range" = none) (hg : Gl X "range" := by rfl) (hs : starEach [a, b] X.env = [(false, eval a X.env), (false, eval b X.env)] := by rfl) (hs2 : starEach [b] X.env = [(false, eval b X.env)] := by rfl)
    (h : WA X [a, b] σ H fun vs H1 => ∃ i j : Int, vs = [.int i, .int j] ∧ (-(2 ^ 62) ≤ i ∧ i < 2 ^ 62 ∧ -(2 ^ 62) ≤ j ∧ j < 2 ^ 62) ∧ R (Itr i (j - i).toNat) H1) : WI X tg (.Call (.Name "range" p2) [a, b] [] pos) σ H R := ⟨_, pi_range2 hg hm WA.pa hs hs2, h⟩
theorem i_enum {elts : List Expr} {kk : Nat} {tpos : Pos} (hm : X.mg "enumerate" = none) (hg : Gl X "enumerate" := by rfl) (hs : starEach [a] X.env = [(false, eval a X.env)] := by rfl)
    (h : WA X [a] σ H fun vs H1 => ∃ p xs, vs = [.ref p] ∧ SqL X.K H1 p xs ∧ R (Ite X.K p) H1) : WI X (.Tuple elts kk tpos) (.Call (.Name "enumerate" p2) [a] [] pos) σ H R := ⟨_, pi_enum hg hm WA.pa hs, h⟩
theorem i_zip {elts : List Expr} {kk : Nat} {tpos : Pos} (hm : X.mg "zip" = none) (hg : Gl X "zip" := by rfl) (hs : starEach [a, b] X.env = (false, eval a X.env) :: starEach [b] X.env := by rfl) (hpl : (backTo pos (starEach [b] X.env)).any (·.1) = false := by rfl)
    (h : WA X [a, b] σ H fun vs H1 => ∃ p q xs ys, vs = [.ref p, .ref q] ∧ SqL X.K H1 p xs ∧ SqL X.K H1 q ys ∧ R (Itz X.K p q) H1) : WI X (.Tuple elts kk tpos) (.Call (.Name "zip" p2) [a, b] [] pos) σ H R := ⟨_, pi_zip hg hm WA.pa hs hpl, h⟩

/-! ### comprehensions: the block's rules are left open, too -/
def GBlk (X : Cx) (scope : Scope) (tg : Expr) : TG := fun v σ H Q => ∀ (s : Shared) (H0 : Hp) (C : Addr) (cl : List (Str × Addr)) (fp : List Addr), WG (X.blk s H0 scope (compEnvC scope cl C X.env) fp) tg v σ H Q
def TBlk (X : Cx) (scope : Scope) (ifs : List Expr) : TT := fun σ H Q => ∀ (s : Shared) (H0 : Hp) (C : Addr) (cl : List (Str × Addr)) (fp : List Addr), WTs (X.blk s H0 scope (compEnvC scope cl C X.env) fp) ifs σ H Q
def EBlk (X : Cx) (scope : Scope) (elt : Expr) : TE := fun σ H Q => ∀ (s : Shared) (H0 : Hp) (C : Addr) (cl : List (Str × Addr)) (fp : List Addr), WE (X.blk s H0 scope (compEnvC scope cl C X.env) fp) elt σ H Q
def tLcR (J : It) (g : TG) (tt : TT) (te : TE) (vs : List Nat) (σ : L2.St) (H1 : Hp) (D : Addr) (Qd : Hp → Prop) : Prop := ∃ W : Nat → Nat → Hp → Prop, (∃ m, W 0 m (upd H1 D (.lst []))) ∧ ∀ i m H, W i m H →
  (J.stop i H ∧ Qd H) ∨ (J.go i H ∧ ∃ Nx : Hp → Prop, (∀ H', Nx H' → ∃ m', m' < m ∧ W (i + 1) m' H') ∧ ∀ x H', J.yld i H x H' → g x (wipe σ vs) H' fun σ2 H2 => wipe σ2 vs = wipe σ vs ∧ tt σ2 H2 fun b H3 =>
    if b = true then te σ2 H3 fun y H4 => ∃ acc, H4 D = some (.lst acc) ∧ acc.length < sizeLine ∧ Nx (upd H4 D (.lst (acc ++ [y]))) else Nx H3)
variable {elt : Expr} {ifs : List Expr} {scope : Scope}
theorem blk_g : ∀ (s : Shared) (H : Hp) (C : Addr) (cl : List (Str × Addr)) (fp : List Addr), PG (X.blk s H scope (compEnvC scope cl C X.env) fp) tg (GBlk X scope tg) := fun s H0 C cl fp => ⟨fun pins s' σ H v u Q I r h => WG.pg.run pins s' σ H v u Q I r (h s H0 C cl fp)⟩
theorem blk_t : ∀ (s : Shared) (H : Hp) (C : Addr) (cl : List (Str × Addr)) (fp : List Addr), PTs (X.blk s H scope (compEnvC scope cl C X.env) fp) ifs (TBlk X scope ifs) := fun s H0 C cl fp => ⟨fun pins s' σ H Q I h => WTs.pts.run pins s' σ H Q I (h s H0 C cl fp)⟩
theorem blk_e : ∀ (s : Shared) (H : Hp) (C : Addr) (cl : List (Str × Addr)) (fp : List Addr), PE (X.blk s H scope (compEnvC scope cl C X.env) fp) elt (EBlk X scope elt) := fun s H0 C cl fp => ⟨fun pins s' σ H Q I h => WE.pe.run pins s' σ H Q I (h s H0 C cl fp)⟩
theorem ts_nil (q : QT true H) : WTs X [] σ H QT := ⟨_, pts_nil, q⟩
theorem ts_one (h : WT X c σ H QT) : WTs X [c] σ H QT := ⟨_, pts_one WT.pt, h⟩
theorem e_lc (own : List (Str × Nat)) (hN : X.N.Nodup) (ok : BlkOk X.N X.env.scope scope own := by exact blkOk_by (by decide +kernel)) (hc : X.calm = true := by rfl) (hs : ∀ x, foldedSetIterable iter X.env x = pure x := by intro _; rfl)
    (h : WI X tg iter σ H fun J H1 => ∀ D, H1 D = none → tLcR J (GBlk X scope tg) (TBlk X scope ifs) (EBlk X scope elt) (own.map (·.2)) σ H1 D (Q (.ref D))) : WE X (.ListComp elt [⟨tg, iter, ifs, 0⟩] scope pos) σ H Q :=
  ⟨_, pe_lc hc hN WI.pi ok blk_g blk_t blk_e hs, h⟩
theorem s_setLc (i : Nat) (own : List (Str × Nat)) (hN : X.N.Nodup) {y : Str} (hy : X.N[i]? = some y := by rfl) (hyl : X.env.scope.names.lookup y = some .local := by rfl)
    (ok : BlkOk X.N X.env.scope scope own := by exact blkOk_by (by decide +kernel)) (hc : X.calm = true := by rfl) (hs : ∀ x, foldedSetIterable iter X.env x = pure x := by intro _; rfl)
    {spos : Pos} (hsw2 : swapsWith (.ListComp elt [⟨tg, iter, ifs, 0⟩] scope pos) (some (.Name y p2)) spos.line X.env = pure true := by exact sw_true rfl rfl rfl (by decide +kernel))
    (h : WI X tg iter σ H fun J H1 => ∀ D, H1 D = none → tLcR J (GBlk X scope tg) (TBlk X scope ifs) (EBlk X scope elt) (own.map (·.2)) σ H1 D (fun H2 => D'.nx (σ.set i (some (.ref D))) H2)) : WS X (.Assign [.Name y p2] (.ListComp elt [⟨tg, iter, ifs, 0⟩] scope pos) spos) D' σ H :=
  ⟨_, ps_setLc hc hN hy hyl hsw2 WI.pi ok blk_g blk_t blk_e hs, h⟩
end
end Lw
namespace Lw
open PySem PySem.Spec L2 Evl

/-! ### calls -/
/-- a def of the module that keeps a promise and lets nothing out -/
structure Cal (P : Program) (w : World) (K : PySem.W.Frag) (mg : Str → Option Value) (base : Heap) (x : Str) (k : Nat) (ps : List Str) (sp : Sp) : Prop where
  ex : ∃ f fd, FnOk P w K mg base CX0 k f fd ps sp ∧ mg x = some (.ref f) ∧ PySem.W.keepIn K (.ref f) = true ∧ Binds K fd ps []
/-- .. called by keywords alone -/
structure CalK (P : Program) (w : World) (K : PySem.W.Frag) (mg : Str → Option Value) (base : Heap) (x : Str) (k : Nat) (ps ks : List Str) (gV : List V → List V) (sp : Sp) : Prop where
  ex : ∃ f fd g, FnOk P w K mg base CX0 k f fd ps sp ∧ mg x = some (.ref f) ∧ PySem.W.keepIn K (.ref f) = true ∧ KBn K fd ps 0 ks g (fun _ zs => gV zs)
section
variable {X : Cx} {σ : L2.St} {H : Hp} {Q : VK} {a b c e o : Expr} {pos p2 apos : Pos} {x m : Str} {v : V} {es : List Expr} {k : Nat} {ps ks : List Str} {sp : Sp} {gV : List V → List V}
theorem e_call (cl : Cal X.prog X.w X.K X.mg X.base x k ps sp) (hr : Room k X.A) (hg : Gl X x := by rfl) (hdb : (x == ("__debug__" : Str)) = false := by decide) (he : starEach (e :: es) X.env = (false, eval e X.env) :: starEach es X.env := by rfl) (hpl : (backTo pos (starEach es X.env)).any (·.1) = false := by rfl)
    (h : WA X (e :: es) σ H fun vs H1 => sp vs H1 Q E0) : WE X (.Call (.Name x p2) (e :: es) [] pos) σ H Q := by
  obtain ⟨f, fd, F, hm, hk, hb⟩ := cl.ex
  refine ⟨_, pe_call F hr hg hm hk hb .nil pass0 WA.pa hdb he hpl, ?_⟩
  show WA X (e :: es) σ H fun vs H1 => sp (vs ++ []) H1 Q E0
  simp only [List.append_nil]
  exact h
theorem e_call0 (cl : Cal X.prog X.w X.K X.mg X.base x k ps sp) (hr : Room k X.A) (hg : Gl X x := by rfl) (hdb : (x == ("__debug__" : Str)) = false := by decide)
    (h : sp [] H Q E0) : WE X (.Call (.Name x p2) [] [] pos) σ H Q := by
  obtain ⟨f, fd, F, hm, hk, hb⟩ := cl.ex
  exact ⟨_, pe_call0 F hr hg hm hk hb .nil pass0 hdb, h⟩
theorem pe_callN0 {CX : CXT} {f : Addr} {fd : FuncData} {E : XK} {kws : List Keyword} {tk : TA} {g : List Value → List Value → List Value} {gW : List V → List V → List V} (F : FnOk X.prog X.w X.K X.mg X.base CX k f fd ps sp) (hr : Room k X.A) (hg : Gl X x) (hm : X.mg x = some (.ref f)) (hk : PySem.W.keepIn X.K (.ref f) = true) (hb : KBn X.K fd ps 0 ks g gW) (hx : Passes CX X E)
    (hkw : PK X kws tk) (hall : (backToKw pos (keywordEach kws X.env)).all (·.1.isSome) = true := by rfl) (hks : (backToKw pos (keywordEach kws X.env)).filterMap (·.1) = ks := by rfl)
    (hdb : (x == ("__debug__" : Str)) = false := by decide)
    (hpl : ((backTo pos (starEach [] X.env)).any (·.1) || (backToKw pos (keywordEach kws X.env)).any (·.1.isNone)) = false := by rfl) :
    PE X (.Call (.Name x p2) [] kws pos) (tCallN 0 ks.length sp gW E tNil tk) := by
  refine ⟨fun pins s σ H Q I h => ?_⟩
  refine wpAny_Call_Name_kw (ld_glob I hg hm ?_ hdb)
  refine PySem.W.callWith_KW0 (h₀ := X.base) I.ok.mod.kin hk hall ?_ hpl
  refine thn (hkw.run pos pins s σ H _ I h) fun ws s2 ⟨zs, H2, I2, rz, l1, l2, q2⟩ => ⟨I2.kIn, ?_⟩
  rw [hks]
  exact run_fnN (us := []) (vs := []) F hr hb hx I2 .nil rz rfl l2 q2
theorem e_callK {kws : List Keyword} (cl : CalK X.prog X.w X.K X.mg X.base x k ps ks gV sp) (hr : Room k X.A) (hg : Gl X x := by rfl) (hdb : (x == ("__debug__" : Str)) = false := by decide)
    (hall : (backToKw pos (keywordEach kws X.env)).all (·.1.isSome) = true := by rfl) (hks : (backToKw pos (keywordEach kws X.env)).filterMap (·.1) = ks := by rfl)
    (hpl : ((backTo pos (starEach [] X.env)).any (·.1) || (backToKw pos (keywordEach kws X.env)).any (·.1.isNone)) = false := by rfl)
    (h : WK X kws σ H fun zs H1 => ([] : List V).length = 0 ∧ zs.length = ks.length ∧ sp (gV zs) H1 Q E0) : WE X (.Call (.Name x p2) [] kws pos) σ H Q := by
  obtain ⟨f, fd, g, F, hm, hk, hb⟩ := cl.ex
  exact ⟨_, pe_callN0 F hr hg hm hk hb pass0 WK.pk hall hks hdb hpl, h⟩
end
/-- a method of the class at C | its __init__ | a property -/
structure CalM (P : Program) (w : World) (K : PySem.W.Frag) (mg : Str → Option Value) (base : Heap) (C : Addr) (m : Str) (k : Nat) (ps : List Str) (sp : Sp) : Prop where
  ex : ∃ f fd, FnOk P w K mg base CX0 k f fd ps sp ∧ Cls K C ∧ Meth K C m f ∧ Binds K fd ps []
structure CalI (P : Program) (w : World) (K : PySem.W.Frag) (mg : Str → Option Value) (base : Heap) (C : Addr) (x : Str) (k : Nat) (ps : List Str) (sp : Sp) : Prop where
  ex : ∃ f fd, FnOk P w K mg base CX0 k f fd ps sp ∧ mg x = some (.ref C) ∧ Mk K C f ∧ Binds K fd ps []
structure CalP (P : Program) (w : World) (K : PySem.W.Frag) (mg : Str → Option Value) (base : Heap) (C : Addr) (m : Str) (k : Nat) (sp : Sp) : Prop where
  ex : ∃ p g fd ps, FnOk P w K mg base CX0 k g fd ps sp ∧ Cls K C ∧ PropOf K C m p g ∧ Binds K fd ps []
section
variable {X : Cx} {σ : L2.St} {H : Hp} {Q : VK} {a b c e o : Expr} {pos p2 apos : Pos} {x m : Str} {v : V} {es : List Expr} {k : Nat} {ps ks : List Str} {sp : Sp} {C : Addr}
theorem e_meth {pl : Sem Bool} (cl : CalM X.prog X.w X.K X.mg X.base C m k ps sp) (hr : Room k X.A)
    (hst : starEach (e :: es) X.env = (false, eval e X.env) :: starEach es X.env := by rfl) (hpl : (backTo pos (starEach es X.env)).any (·.1) = false := by rfl)
    (ht : eval (.Call (.Attribute o m apos) (e :: es) [] pos) X.env = (do
      let ov ← eval o X.env
      standAt apos.atName
      let (f, first) ← holding [ov] (getMethod ov m pl)
      callWith pos f first (backTo pos (starEach (e :: es) X.env)) (backToKw pos (keywordEach [] X.env))) := by rfl)
    (h : WE X o σ H fun x H1 => ∃ a dx fs, x = .ref a ∧ H1 a = some (.ins C dx fs) ∧ fs.lookup m = none ∧ WA X (e :: es) σ H1 fun vs H2 => sp (x :: vs) H2 Q E0) : WE X (.Call (.Attribute o m apos) (e :: es) [] pos) σ H Q := by
  obtain ⟨f, fd, F, hc, hm, hb⟩ := cl.ex
  refine ⟨_, pe_meth (pl := pl) WE.pe hc hm F hr hb .nil pass0 WA.pa hst hpl ht, ?_⟩
  show WE X o σ H fun x H1 => ∃ a dx fs, x = .ref a ∧ H1 a = some (.ins C dx fs) ∧ fs.lookup m = none ∧ WA X (e :: es) σ H1 fun vs H2 => sp (x :: (vs ++ [])) H2 Q E0
  simp only [List.append_nil]
  exact h
theorem e_meth0 {pl : Sem Bool} (cl : CalM X.prog X.w X.K X.mg X.base C m k ps sp) (hr : Room k X.A)
    (ht : eval (.Call (.Attribute o m apos) [] [] pos) X.env = (do
      let ov ← eval o X.env
      standAt apos.atName
      let (f, first) ← holding [ov] (getMethod ov m pl)
      callWith pos f first (backTo pos (starEach [] X.env)) (backToKw pos (keywordEach [] X.env))) := by rfl)
    (h : WE X o σ H fun x H1 => ∃ a dx fs, x = .ref a ∧ H1 a = some (.ins C dx fs) ∧ fs.lookup m = none ∧ sp [x] H1 Q E0) : WE X (.Call (.Attribute o m apos) [] [] pos) σ H Q := by
  obtain ⟨f, fd, F, hc, hm, hb⟩ := cl.ex
  exact ⟨_, pe_meth0 (pl := pl) WE.pe hc hm F hr hb .nil pass0 ht, h⟩
theorem e_make (cl : CalI X.prog X.w X.K X.mg X.base C x k ps sp) (hr : Room (k + 1) X.A) (hg : Gl X x := by rfl) (hdb : (x == ("__debug__" : Str)) = false := by decide) (he : starEach (e :: es) X.env = (false, eval e X.env) :: starEach es X.env := by rfl) (hpl : (backTo pos (starEach es X.env)).any (·.1) = false := by rfl)
    (h : WA X (e :: es) σ H fun vs H1 => ∀ x dx, H1 x = none → H1 dx = none → dx ≠ x → sp (.ref x :: vs) (upd (upd H1 dx (.own x)) x (.ins C dx [])) (fun v H2 => v = .non ∧ Q (.ref x) H2) E0) : WE X (.Call (.Name x p2) (e :: es) [] pos) σ H Q := by
  obtain ⟨f, fd, F, hm, hM, hb⟩ := cl.ex
  refine ⟨_, pe_make hM F hr hg hm hb .nil pass0 WA.pa hdb he hpl, ?_⟩
  show WA X (e :: es) σ H fun vs H1 => ∀ x dx, H1 x = none → H1 dx = none → dx ≠ x → sp (.ref x :: (vs ++ [])) (upd (upd H1 dx (.own x)) x (.ins C dx [])) (fun v H2 => v = .non ∧ Q (.ref x) H2) E0
  simp only [List.append_nil]
  exact h
theorem e_prop (cl : CalP X.prog X.w X.K X.mg X.base C m k sp) (hr : Room (k + 1) X.A) (hab : attributeBase e m X.env (eval e X.env) = eval e X.env := by rfl)
    (h : WE X e σ H fun x H1 => ∃ a dx fs, x = .ref a ∧ H1 a = some (.ins C dx fs) ∧ sp [.ref a] H1 Q E0) : WE X (.Attribute e m pos) σ H Q := by
  obtain ⟨p, g, fd, ps, F, hc, hp, hb⟩ := cl.ex
  exact ⟨_, pe_prop WE.pe hc hp F hr hb .nil pass0 hab, h⟩
end

/-! ### what is known, and what grows -/
abbrev M0 : Addr → Prop := fun _ => False
/-- B: objects that nobody changes any more; H: all that is tracked. Those in M may change -/
structure Gr (M : Addr → Prop) (B H B' H' : Hp) : Prop where
  b : Ex B B'
  k : Ex B' H'
  h : ∀ a o, ¬ M a → H a = some o → H' a = some o
  n : ∀ a, H a ≠ none → H' a ≠ none
  f : ∀ a, B a = none → H a ≠ none → B' a = none
section
variable {M : Addr → Prop} {B H B1 H1 B2 H2 : Hp} {p : Addr} {o : HO}
theorem Gr.refl (k : Ex B H) : Gr M B H B H := ⟨.refl B, k, fun _ _ _ h => h, fun _ h => h, fun _ h _ => h⟩
theorem Gr.trans (x : Gr M B H B1 H1) (y : Gr M B1 H1 B2 H2) : Gr M B H B2 H2 :=
  ⟨x.b.trans y.b, y.k, fun a o m h => y.h a o m (x.h a o m h), fun a h => y.n a (x.n a h), fun a h1 h2 => y.f a (x.f a h1 h2) (x.n a h2)⟩
theorem Gr.weak {M' : Addr → Prop} (x : Gr M B H B1 H1) (h : ∀ a, M a → M' a) : Gr M' B H B1 H1 := ⟨x.b, x.k, fun a o m => x.h a o fun z => m (h a z), x.n, x.f⟩
theorem Gr.up (x : Gr M0 B H B1 H1) : Gr M B H B1 H1 := x.weak fun _ z => z.elim
theorem Gr.ex (x : Gr M0 B H B1 H1) : Ex H H1 := fun a o h => x.h a o (fun z => z) h
theorem none_of_ex (k : Ex B H) (h : H p = none) : B p = none := fresh_back k h
theorem Gr.free (x : Gr M B H B1 H1) (h : H1 p = none) : H p = none := by
  cases q : H p with
  | none => rfl
  | some o => exact absurd h (x.n p (by rw [q]; exact fun z => nomatch z))
theorem upd_none {a : Addr} (h : upd H p o a = none) : H a = none := by
  unfold upd at h
  split at h
  · cases h
  · exact h
theorem upd_nn {a : Addr} (h : H a ≠ none) : upd H p o a ≠ none := fun z => h (upd_none z)
/-- a new object, the owner's -/
theorem Gr.own (x : Gr M B H B1 H1) (hp : H1 p = none) : Gr M B H B1 (upd H1 p o) :=
  ⟨x.b, x.k.trans (Ex.new hp), fun a u m h => by rw [upd_ne (ne_of_none (x.h a u m h) hp)]; exact x.h a u m h, fun a h => upd_nn (x.n a h), x.f⟩
/-- a new object that stays -/
theorem Gr.new (x : Gr M B H B1 H1) (hp : H1 p = none) : Gr M B H (upd B1 p o) (upd H1 p o) := by
  have hb := none_of_ex x.k hp
  refine ⟨x.b.trans (Ex.new hb), fun a u h => ?_, (x.own hp).h, (x.own hp).n, fun a h1 h2 => ?_⟩
  · by_cases e : a = p
    · subst e
      rw [upd_same] at h ⊢
      exact h
    · rw [upd_ne e] at h ⊢
      exact x.k a u h
  · have ne : a ≠ p := fun e => x.n a h2 (e ▸ hp)
    rw [upd_ne ne]
    exact x.f a h1 h2
/-- what the owner does not change any more -/
theorem Gr.learn (x : Gr M B H B1 H1) (h0 : H p = none) (hb : B1 p = none) (hp : H1 p = some o) : Gr M B H (upd B1 p o) H1 := by
  refine ⟨x.b.trans (Ex.new hb), fun a u h => ?_, x.h, x.n, fun a h1 h2 => ?_⟩
  · by_cases e : a = p
    · subst e
      rw [upd_same] at h
      cases h
      exact hp
    · rw [upd_ne e] at h
      exact x.k a u h
  · have ne : a ≠ p := fun e => h2 (e ▸ h0)
    rw [upd_ne ne]
    exact x.f a h1 h2
/-- the owner changes its own -/
theorem Gr.mut (x : Gr M B H B1 H1) (h0 : M p ∨ H p = none) (hb : B1 p = none) : Gr M B H B1 (upd H1 p o) := by
  refine ⟨x.b, fun a u h => ?_, fun a u m h => ?_, fun a h => upd_nn (x.n a h), x.f⟩
  · have ne : a ≠ p := fun e => by rw [e, hb] at h; cases h
    rw [upd_ne ne]
    exact x.k a u h
  · have ne : a ≠ p := fun e => by
      subst e
      rcases h0 with z | z
      · exact m z
      · rw [z] at h; cases h
    rw [upd_ne ne]
    exact x.h a u m h
end

/-! ### data -/
class Dat (α : Type) [DecidableEq α] where
  toD : α → PyData
  lay : ∀ a, (toD a).canLay0 = true
  eqv : ∀ a b, PyData.eqv (toD a) (toD b) = decide (a = b)
  dep : Nat
  dep_le : ∀ a, (toD a).depth ≤ dep
theorem beq_dec {α : Type} [BEq α] [LawfulBEq α] [DecidableEq α] (a b : α) : (a == b) = decide (a = b) := by
  rw [Bool.eq_iff_iff, beq_iff_eq, decide_eq_true_eq]
instance : Dat Int where
  toD := .int
  lay _ := rfl
  eqv a b := by simp only [PyData.eqv]; exact beq_dec a b
  dep := 0
  dep_le _ := Nat.le_refl _
instance : Dat Bool where
  toD := .bool
  lay _ := rfl
  eqv a b := by simp only [PyData.eqv]; exact beq_dec a b
  dep := 0
  dep_le _ := Nat.le_refl _
instance : Dat (Option Int) where
  toD
    | .none => .none
    | .some i => .int i
  lay a := by cases a <;> rfl
  eqv a b := by
    cases a <;> cases b <;> simp only [PyData.eqv]
    · rfl
    · rfl
    · rfl
    · rw [beq_dec]
      exact decide_eq_decide.mpr ⟨fun e => by rw [e], fun e => Option.some.inj e⟩
  dep := 0
  dep_le a := by cases a <;> exact Nat.le_refl _
section
variable {α β : Type} [DecidableEq α] [Dat α] [DecidableEq β] [Dat β]
theorem layAll_map : ∀ xs : List α, PyData.canLayAll0 (xs.map Dat.toD) = true
  | [] => rfl
  | x :: xs => by
    rw [List.map_cons, PyData.canLayAll0, Dat.lay x, layAll_map xs]
    rfl
theorem depAll_map : ∀ xs : List α, PyData.depthAll (xs.map Dat.toD) ≤ Dat.dep α
  | [] => Nat.zero_le _
  | x :: xs => by
    rw [List.map_cons, PyData.depthAll]
    exact Nat.max_le.mpr ⟨Dat.dep_le x, depAll_map xs⟩
theorem eqvAll_dat : ∀ xs ys : List α, PyData.eqvAll (xs.map Dat.toD) (ys.map Dat.toD) = decide (xs = ys)
  | [], [] => by simp only [List.map_nil, PyData.eqvAll, decide_true]
  | [], _ :: _ => by simp [PyData.eqvAll]
  | _ :: _, [] => by simp [PyData.eqvAll]
  | x :: xs, y :: ys => by
    rw [List.map_cons, List.map_cons, PyData.eqvAll, Dat.eqv x y, eqvAll_dat xs ys, ← Bool.decide_and]
    exact decide_eq_decide.mpr (by rw [List.cons.injEq])
instance : Dat (List α) where
  toD xs := .list (xs.map Dat.toD)
  lay xs := by simp only [PyData.canLay0]; exact layAll_map xs
  eqv xs ys := by simp only [PyData.eqv]; exact eqvAll_dat xs ys
  dep := Dat.dep α + 1
  dep_le xs := by simp only [PyData.depth]; exact Nat.succ_le_succ (depAll_map xs)
instance : Dat (α × β) where
  toD p := .tuple [Dat.toD p.1, Dat.toD p.2]
  lay p := by simp only [PyData.canLay0, PyData.canLayAll0, Dat.lay, Bool.and_self]
  eqv p q := by
    simp only [PyData.eqv, PyData.eqvAll]
    rw [Dat.eqv, Dat.eqv, Bool.and_true, ← Bool.decide_and]
    exact decide_eq_decide.mpr ⟨fun e => Prod.ext e.1 e.2, fun e => by rw [e]; exact ⟨rfl, rfl⟩⟩
  dep := max (Dat.dep α) (Dat.dep β) + 1
  dep_le p := by
    simp only [PyData.depth, PyData.depthAll]
    exact Nat.succ_le_succ (Nat.max_le.mpr ⟨Nat.le_trans (Dat.dep_le p.1) (Nat.le_max_left _ _), Nat.max_le.mpr ⟨Nat.le_trans (Dat.dep_le p.2) (Nat.le_max_right _ _), Nat.zero_le _⟩⟩)
end
mutual
theorem Dp.mono {K : PySem.W.Frag} {B B' : Hp} (e : Ex B B') : ∀ {v : V} {d : PyData}, Dp K B v d → Dp K B' v d
  | _, _, .non => .non
  | _, _, .bl b => .bl b
  | _, _, .int b => .int b
  | _, _, .str b => .str b
  | _, _, .lst h a => .lst (ex_l e h) (DpAll.mono e a)
  | _, _, .tup h a => .tup (ex_t e h) (DpAll.mono e a)
theorem DpAll.mono {K : PySem.W.Frag} {B B' : Hp} (e : Ex B B') : ∀ {vs : List V} {ds : List PyData}, DpAll K B vs ds → DpAll K B' vs ds
  | _, _, .nil => .nil
  | _, _, .cons h a => .cons (Dp.mono e h) (DpAll.mono e a)
end
/-- v is x, as B tells -/
def Dt {α : Type} [DecidableEq α] [Dat α] (K : PySem.W.Frag) (B : Hp) (v : V) (x : α) : Prop := Dp K B v (Dat.toD x)
def Das {α : Type} [DecidableEq α] [Dat α] (K : PySem.W.Frag) (B : Hp) (vs : List V) (xs : List α) : Prop := DpAll K B vs (xs.map Dat.toD)
section
variable {α β : Type} [DecidableEq α] [Dat α] [DecidableEq β] [Dat β] {K : PySem.W.Frag} {B B' H : Hp} {v w : V} {vs ws : List V}
theorem Dt.mono {x : α} (e : Ex B B') (h : Dt K B v x) : Dt K B' v x := Dp.mono e h
theorem Das.mono {xs : List α} (e : Ex B B') (h : Das K B vs xs) : Das K B' vs xs := DpAll.mono e h
theorem dt_int {i : Int} (h : Dt K B v i) : v = .int i := by
  unfold Dt at h
  cases h
  rfl
theorem dt_bl {i : Bool} (h : Dt K B v i) : v = .bl i := by
  unfold Dt at h
  cases h
  rfl
theorem dt_none (h : Dt K B v (none : Option Int)) : v = .non := by
  unfold Dt at h
  cases h
  rfl
theorem dt_some {i : Int} (h : Dt K B v (some i)) : v = .int i := by
  unfold Dt at h
  cases h
  rfl
theorem dtI (i : Int) : Dt K B (.int i) i := Dp.int i
theorem dtB (i : Bool) : Dt K B (.bl i) i := Dp.bl i
theorem dtN : Dt K B .non (none : Option Int) := Dp.non
theorem dtS (i : Int) : Dt K B (.int i) (some i) := Dp.int i
theorem dt_list {xs : List α} (h : Dt K B v xs) : ∃ a vs, v = .ref a ∧ SqL K B a vs ∧ Das K B vs xs := by
  unfold Dt at h
  cases h with
  | lst h1 h2 => exact ⟨_, _, rfl, h1, h2⟩
theorem dtL {a : Addr} {xs : List α} (h : SqL K B a vs) (hs : Das K B vs xs) : Dt K B (.ref a) xs := Dp.lst h hs
theorem dt_pair {x : α × β} (h : Dt K B v x) : ∃ a y z, v = .ref a ∧ SqT K B a [y, z] ∧ Dt K B y x.1 ∧ Dt K B z x.2 := by
  unfold Dt at h
  cases h with
  | tup h1 h2 =>
    cases h2 with
    | cons a b =>
      cases b with
      | cons c d =>
        cases d
        exact ⟨_, _, _, rfl, h1, a, c⟩
theorem dtP {a : Addr} {y z : V} {p : α} {q : β} (h : SqT K B a [y, z]) (h1 : Dt K B y p) (h2 : Dt K B z q) : Dt K B (.ref a) (p, q) := Dp.tup h (.cons h1 (.cons h2 .nil))
theorem Das.nil : Das K B [] ([] : List α) := DpAll.nil
theorem Das.cons {x : α} {xs : List α} (h : Dt K B v x) (hs : Das K B vs xs) : Das K B (v :: vs) (x :: xs) := DpAll.cons h hs
theorem Das.len : ∀ {vs : List V} {xs : List α}, Das K B vs xs → vs.length = xs.length
  | [], [], _ => rfl
  | [], _ :: _, h => by cases h
  | _ :: _, [], h => by cases h
  | _ :: vs, _ :: xs, h => by
    cases h with
    | cons h hs =>
      rw [List.length_cons, List.length_cons, Das.len (show Das K B vs xs from hs)]
theorem Das.get : ∀ {vs : List V} {xs : List α} {i : Nat} {v : V}, Das K B vs xs → vs[i]? = some v → ∃ x, xs[i]? = some x ∧ Dt K B v x
  | [], _, _, _, _, e => by simp at e
  | _ :: _, [], _, _, h, _ => by cases h
  | u :: vs, x :: xs, 0, v, h, e => by
    cases h with
    | cons h hs =>
      have e' : u = v := by simpa using e
      subst e'
      exact ⟨x, rfl, h⟩
  | u :: vs, x :: xs, i + 1, v, h, e => by
    cases h with
    | cons h hs => exact Das.get (i := i) (show Das K B vs xs from hs) (by simpa using e)
theorem Das.at {xs : List α} {i : Nat} {x : α} (h : Das K B vs xs) (e : xs[i]? = some x) : ∃ v, vs[i]? = some v ∧ Dt K B v x := by
  have hl := h.len
  have hi : i < xs.length := (List.getElem?_eq_some_iff.mp e).1
  have hv : vs[i]? = some (vs[i]'(by omega)) := List.getElem?_eq_getElem (by omega)
  obtain ⟨y, e2, d⟩ := h.get hv
  rw [e] at e2
  cases e2
  exact ⟨_, hv, d⟩
theorem Das.app : ∀ {vs : List V} {xs : List α} {ws : List V} {ys : List α}, Das K B vs xs → Das K B ws ys → Das K B (vs ++ ws) (xs ++ ys)
  | [], [], _, _, _, k => k
  | [], _ :: _, _, _, h, _ => by cases h
  | _ :: _, [], _, _, h, _ => by cases h
  | _ :: vs, _ :: xs, _, _, h, k => by
    cases h with
    | cons h hs => exact .cons h (Das.app (show Das K B vs xs from hs) k)
theorem Das.snoc {x : α} {xs : List α} (hs : Das K B vs xs) (h : Dt K B v x) : Das K B (vs ++ [v]) (xs ++ [x]) := hs.app (.cons h .nil)
theorem das_ints : ∀ {ns : List Int}, Das K B (ns.map V.int) ns
  | [] => .nil
  | n :: ns => .cons (dtI n) das_ints
theorem Das.ints : ∀ {vs : List V} {ns : List Int}, Das K B vs ns → vs = ns.map V.int
  | [], [], _ => rfl
  | [], _ :: _, h => by cases h
  | _ :: _, [], h => by cases h
  | v :: vs, n :: ns, h => by
    cases h with
    | cons h hs =>
      rw [List.map_cons, dt_int (show Dt K B v n from h), Das.ints (show Das K B vs ns from hs)]
/-- == and != of data -/
theorem eq_dat {x y : α} {H : Hp} {Q : VK} (hx : Dt K B v x) (hy : Dt K B w y) (k : Ex B H) (hd : Dat.dep α ≤ 64) (q : Q (.bl (decide (x = y))) H) : rEqD K v w H Q :=
  ⟨_, _, Dp.mono k hx, Dp.mono k hy, by unfold SeqAt.shaped; rw [Dat.lay, Bool.true_and]; exact decide_eq_true (Nat.le_trans (Dat.dep_le x) hd), by unfold SeqAt.shaped; rw [Dat.lay, Bool.true_and]; exact decide_eq_true (Nat.le_trans (Dat.dep_le y) hd), by rw [Dat.eqv]; exact q⟩
theorem ne_dat {x y : α} {H : Hp} {Q : VK} (hx : Dt K B v x) (hy : Dt K B w y) (k : Ex B H) (hd : Dat.dep α ≤ 64) (q : Q (.bl (!decide (x = y))) H) : rNeD K v w H Q :=
  ⟨_, _, Dp.mono k hx, Dp.mono k hy, by unfold SeqAt.shaped; rw [Dat.lay, Bool.true_and]; exact decide_eq_true (Nat.le_trans (Dat.dep_le x) hd), by unfold SeqAt.shaped; rw [Dat.lay, Bool.true_and]; exact decide_eq_true (Nat.le_trans (Dat.dep_le y) hd), by rw [Dat.eqv]; exact q⟩
end
end Lw
namespace Lw
open PySem PySem.Spec L2 Evl

/-! ### comprehensions, with what is known -/
section
variable {J : It} {n : Nat} {G : Hp → Prop} {Y : Nat → Hp → V → Hp → Prop} {M : Addr → Prop} {B H1 : Hp} {g : TG} {tt : TT} {te : TE} {vs : List Nat} {σ : L2.St} {D : Addr} {Qd : Hp → Prop}
theorem lcB (w : Walk J n G Y) (S : Nat → Hp → Hp → List V → Prop) (k : Ex B H1) (hD : H1 D = none) (hM : ¬ M D)
    (h0 : S 0 B H1 []) (hst : ∀ i B' H' acc l, B' D = none → S i B' H' acc → S i B' (upd H' D (.lst l)) acc)
    (hG : ∀ i B' H' acc, i ≤ n → Gr M B H1 B' H' → S i B' H' acc → G H')
    (hs : ∀ i x B' H' H'' acc, i < n → Gr M B H1 B' H' → B' D = none → H' D = some (.lst acc) → S i B' H' acc → Y i H' x H'' →
      ∀ (KT : VK) (KF : Hp → Prop), (∀ y B4 H4, Gr M B' H' B4 H4 → acc.length < sizeLine → S (i + 1) B4 H4 (acc ++ [y]) → KT y H4) → (∀ B3 H3, Gr M B' H' B3 H3 → S (i + 1) B3 H3 acc → KF H3) →
      g x (wipe σ vs) H'' fun σ2 H2 => wipe σ2 vs = wipe σ vs ∧ tt σ2 H2 fun b H3 => if b = true then te σ2 H3 KT else KF H3)
    (hd : ∀ B' H' acc, Gr M B H1 B' H' → B' D = none → H' D = some (.lst acc) → S n B' H' acc → Qd H') : tLcR J g tt te vs σ H1 D Qd := by
  have g0 : Gr M B H1 B (upd H1 D (.lst [])) := (Gr.refl k).own hD
  refine lc_it w (fun i H => ∃ B' acc, Gr M B H1 B' H ∧ B' D = none ∧ H D = some (.lst acc) ∧ S i B' H acc) ⟨B, [], g0, none_of_ex k hD, upd_same, hst _ _ _ _ _ (none_of_ex k hD) h0⟩ (fun i H hi ⟨B', acc, g, _, _, s⟩ => hG i B' H acc hi g s) ?_ (fun H ⟨B', acc, g, b, e, s⟩ => hd B' H acc g b e s)
  rintro i x H H' hi ⟨B', acc, g, b, e, s⟩ y
  refine hs i x B' H H' acc hi g b e s y _ _ (fun y B4 H4 g4 hl s4 => ⟨acc, g4.h _ _ hM e, hl, B4, acc ++ [y], ?_, g4.f _ b (by rw [e]; exact fun z => nomatch z), upd_same, hst _ _ _ _ _ (g4.f _ b (by rw [e]; exact fun z => nomatch z)) s4⟩) fun B3 H3 g3 s3 => ⟨B3, acc, g.trans g3, g3.f _ b (by rw [e]; exact fun z => nomatch z), g3.h _ _ hM e, s3⟩
  exact (g.trans g4).mut (.inr hD) (g4.f _ b (by rw [e]; exact fun z => nomatch z))
/-- a list of data, from the items of xs -/
theorem lcF {K : PySem.W.Frag} {α β : Type} [DecidableEq β] [Dat β] {xs : List α} (f : α → Option β) (w : Walk J xs.length G Y) (k : Ex B H1) (hD : H1 D = none) (hz : xs.length < sizeLine)
    (hG : ∀ B' H', Gr M0 B H1 B' H' → G H')
    (hs : ∀ i a x B' H' H'', xs[i]? = some a → Gr M0 B H1 B' H' → Y i H' x H'' →
      ∀ (KT : VK) (KF : Hp → Prop), (∀ b y B4 H4, f a = some b → Gr M0 B' H' B4 H4 → Dt K B4 y b → KT y H4) → (∀ B3 H3, f a = none → Gr M0 B' H' B3 H3 → KF H3) →
      g x (wipe σ vs) H'' fun σ2 H2 => wipe σ2 vs = wipe σ vs ∧ tt σ2 H2 fun b H3 => if b = true then te σ2 H3 KT else KF H3)
    (hd : ∀ B' H' acc, Gr M0 B H1 B' H' → B' D = none → H' D = some (.lst acc) → Das K B' acc (xs.filterMap f) → Qd H') : tLcR J g tt te vs σ H1 D Qd := by
  refine lcB (M := M0) w (fun i B' _ acc => Das K B' acc ((xs.take i).filterMap f) ∧ acc.length ≤ i) k hD (fun z => z) ⟨by simpa using Das.nil, Nat.le_refl _⟩ (fun _ _ _ _ _ _ s => s) (fun i B' H' acc _ g _ => hG B' H' g) ?_ (fun B' H' acc g b e s => hd B' H' acc g b e (by simpa using s.1))
  intro i x B' H' H'' acc hi g b e s y KT KF kt kf
  have hx : xs[i]? = some xs[i] := List.getElem?_eq_getElem hi
  have e2 : xs.take (i + 1) = xs.take i ++ [xs[i]] := by rw [List.take_add_one, hx]; rfl
  refine hs i xs[i] x B' H' H'' hx g y KT KF (fun b y B4 H4 fb g4 d => kt y B4 H4 g4 (by omega) ⟨?_, by rw [List.length_append, List.length_singleton]; omega⟩) fun B3 H3 fb g3 => kf B3 H3 g3 ⟨?_, by omega⟩
  · rw [e2, List.filterMap_append, List.filterMap_cons, fb]
    exact (s.1.mono g4.b).snoc d
  · rw [e2, List.filterMap_append, List.filterMap_cons, fb]
    simpa using s.1.mono g3.b
end
section
variable {K : PySem.W.Frag} {B H1 : Hp} {g : TG} {tt : TT} {te : TE} {vs : List Nat} {σ : L2.St} {D : Addr} {Qd : Hp → Prop}
/-- over a list of data that stays -/
theorem lcL {α β : Type} [DecidableEq α] [Dat α] [DecidableEq β] [Dat β] {xs : List α} {a : Addr} {ws : List V} (f : α → Option β) (hL : SqL K B a ws) (hA : Das K B ws xs) (k : Ex B H1) (hD : H1 D = none) (hz : xs.length < sizeLine)
    (hs : ∀ (i : Nat) y x B' H', xs[i]? = some y → Dt K B' x y → Gr M0 B H1 B' H' →
      ∀ (KT : VK) (KF : Hp → Prop), (∀ b z B4 H4, f y = some b → Gr M0 B' H' B4 H4 → Dt K B4 z b → KT z H4) → (∀ B3 H3, f y = none → Gr M0 B' H' B3 H3 → KF H3) →
      g x (wipe σ vs) H' fun σ2 H2 => wipe σ2 vs = wipe σ vs ∧ tt σ2 H2 fun b H3 => if b = true then te σ2 H3 KT else KF H3)
    (hd : ∀ B' H' acc, Gr M0 B H1 B' H' → B' D = none → H' D = some (.lst acc) → Das K B' acc (xs.filterMap f) → Qd H') : tLcR (Itl K a) g tt te vs σ H1 D Qd := by
  have wk : Walk (Itl K a) xs.length (fun H => SqL K H a ws) (YAt ws) := by
    rw [← hA.len]
    exact walk_list
  refine lcF (K := K) f wk k hD hz (fun B' H' g => ex_l (g.b.trans g.k) hL) ?_ hd
  rintro i y x B' H' H'' hy g ⟨rfl, hx⟩ KT KF kt kf
  obtain ⟨y', e, d⟩ := hA.get hx
  rw [hy] at e
  cases e
  exact hs i y x B' H'' hy (d.mono g.b) g KT KF kt kf
/-- over a list of ints, whoever owns it -/
theorem lcI {β : Type} [DecidableEq β] [Dat β] {ns : List Int} {a : Addr} (f : Int → Option β) (hL : SqL K H1 a (ns.map V.int)) (k : Ex B H1) (hD : H1 D = none) (hz : ns.length < sizeLine)
    (hs : ∀ (i : Nat) y B' H', ns[i]? = some y → Gr M0 B H1 B' H' →
      ∀ (KT : VK) (KF : Hp → Prop), (∀ b z B4 H4, f y = some b → Gr M0 B' H' B4 H4 → Dt K B4 z b → KT z H4) → (∀ B3 H3, f y = none → Gr M0 B' H' B3 H3 → KF H3) →
      g (.int y) (wipe σ vs) H' fun σ2 H2 => wipe σ2 vs = wipe σ vs ∧ tt σ2 H2 fun b H3 => if b = true then te σ2 H3 KT else KF H3)
    (hd : ∀ B' H' acc, Gr M0 B H1 B' H' → B' D = none → H' D = some (.lst acc) → Das K B' acc (ns.filterMap f) → Qd H') : tLcR (Itl K a) g tt te vs σ H1 D Qd := by
  have wk : Walk (Itl K a) ns.length (fun H => SqL K H a (ns.map V.int)) (YAt (ns.map V.int)) := by
    have e := walk_list (K := K) (a := a) (xs := ns.map V.int)
    rw [List.length_map] at e
    exact e
  refine lcF (K := K) f wk k hD hz (fun B' H' g => ex_l g.ex hL) ?_ hd
  rintro i y x B' H' H'' hy g ⟨rfl, hx⟩ KT KF kt kf
  rw [List.getElem?_map, hy] at hx
  cases hx
  exact hs i y B' H'' hy g KT KF kt kf
/-- over range(n) -/
theorem lcR {β : Type} [DecidableEq β] [Dat β] {n : Nat} (f : Nat → Option β) (k : Ex B H1) (hD : H1 D = none) (hz : n < sizeLine)
    (hs : ∀ i B' H', i < n → Gr M0 B H1 B' H' →
      ∀ (KT : VK) (KF : Hp → Prop), (∀ b z B4 H4, f i = some b → Gr M0 B' H' B4 H4 → Dt K B4 z b → KT z H4) → (∀ B3 H3, f i = none → Gr M0 B' H' B3 H3 → KF H3) →
      g (.int (i : Nat)) (wipe σ vs) H' fun σ2 H2 => wipe σ2 vs = wipe σ vs ∧ tt σ2 H2 fun b H3 => if b = true then te σ2 H3 KT else KF H3)
    (hd : ∀ B' H' acc, Gr M0 B H1 B' H' → B' D = none → H' D = some (.lst acc) → Das K B' acc ((List.range n).filterMap f) → Qd H') : tLcR (Itr 0 n) g tt te vs σ H1 D Qd := by
  have wk : Walk (Itr 0 n) (List.range n).length (fun _ => True) (YFn fun i => .int (0 + i)) := by
    rw [List.length_range]
    exact walk_range
  refine lcF (K := K) f wk k hD (by rw [List.length_range]; exact hz) (fun _ _ _ => trivial) ?_ hd
  rintro i y x B' H' H'' hy gg ⟨rfl, rfl⟩ KT KF kt kf
  have hi : i < n := by
    have := (List.getElem?_eq_some_iff.mp hy).1
    rwa [List.length_range] at this
  rw [List.getElem?_range hi] at hy
  cases hy
  have e : (0 : Int) + (i : Nat) = (i : Nat) := Int.zero_add _
  show g (.int ((0 : Int) + (i : Nat))) _ _ _
  rw [e]
  exact hs i B' H'' hi gg KT KF kt kf
end
theorem Gr.made {B H B' H' : Hp} {x dx : Addr} {o1 o2 : HO} (g : Gr (fun a => a = x) B (upd (upd H dx o1) x o2) B' H') (hx : H x = none) (hd : H dx = none) : Gr M0 B H B' H' := by
  have e0 : Ex H (upd (upd H dx o1) x o2) := (Ex.new hd).mut hx
  refine ⟨g.b, g.k, fun a o _ h => g.h a o (ne_of_none h hx) (e0 a o h), fun a h => g.n a (upd_nn (upd_nn h)), fun a h1 h2 => g.f a h1 (upd_nn (upd_nn h2))⟩
theorem ifd {p A B : Prop} [Decidable p] (h1 : p → A) (h2 : ¬ p → B) : if decide p = true then A else B := by
  by_cases h : p
  · rw [if_pos (decide_eq_true h)]
    exact h1 h
  · rw [if_neg (by rw [decide_eq_true_eq]; exact h)]
    exact h2 h
theorem ifn {p A B : Prop} [Decidable p] (h1 : ¬ p → A) (h2 : p → B) : if (!decide p) = true then A else B := by
  by_cases h : p
  · rw [if_neg (by rw [decide_eq_true h]; decide)]
    exact h2 h
  · rw [if_pos (by rw [decide_eq_false h]; rfl)]
    exact h1 h
theorem ifb {b : Bool} {A B : Prop} (h1 : b = true → A) (h2 : b = false → B) : if b = true then A else B := by
  cases b with
  | true => exact (if_pos rfl).symm ▸ h1 rfl
  | false => rw [if_neg (by decide)]; exact h2 rfl
theorem ift {b : Bool} {A B : Prop} (e : b = true) (h : A) : if b = true then A else B := by rw [if_pos e]; exact h
theorem iff_ {b : Bool} {A B : Prop} (e : b = false) (h : B) : if b = true then A else B := by rw [if_neg (by rw [e]; decide)]; exact h
end Lw
namespace Lw
open PySem PySem.Spec PyProof.Rows L2 Evl
/-! ### len of an instance with its own __len__ -/
section
variable {X : Cx} {k : Nat} {C f : Addr} {fd : FuncData} {ps : List Str} {sp : Sp}
structure CalL (P : Program) (w : World) (K : PySem.W.Frag) (mg : Str → Option Value) (base : Heap) (C : Addr) (k : Nat) (ps : List Str) (sp : Sp) : Prop where
  ex : ∃ f fd, FnOk P w K mg base CX0 k f fd ps sp ∧ PySem.W.findIn K (.ref C) "__len__" = some (some (.ref f)) ∧ PySem.W.isFn K (.ref f) = true ∧ Binds K fd ps []
theorem call_lenOwn (cl : CalL X.prog X.w X.K X.mg X.base C k ps sp) (hr : Room (k + 1) X.A) :
    CallR X (.builtin "len") (fun xs H Q => ∃ a dx fs, xs = [.ref a] ∧ H a = some (.ins C dx fs) ∧ sp [.ref a] H (fun v H' => ∃ n : Int, v = .int n ∧ (0 ≤ n ∧ n < 2 ^ 63) ∧ Q (.int n) H') E0) := by
  obtain ⟨f, fd, F, hs, hf, hb⟩ := cl.ex
  intro pins s σ H xs us Q I r h
  obtain ⟨a, dx, fs, rfl, ea, h⟩ := h
  obtain ⟨u1, rfl, r1⟩ := vals1 r
  cases (show u1 = Value.ref a from r1)
  obtain ⟨mA, O, _⟩ := ins_get I.hok ea
  obtain ⟨od, J, _⟩ := O.look
  obtain ⟨m, hF⟩ := I.fr
  have hl := F.len _ _ _ _ h
  have r2 : Vals [V.ref a] [Value.ref a] := .cons rfl .nil
  refine PySem.W.len_K hF I.ok.mod.kin J hs hf ?_
  refine wpAny_call (codeAny_mono (F.run X.A.in1 X.stack s H ⟨[.ref a], []⟩ [.ref a] [.ref a] _ E0 hr.in1 I.env0.in1 (by
    have := hb s [.ref a] I.kIn (by simpa using hl)
    simpa using this) r2 h) fun rr s' hq => ?_)
  cases rr with
  | error e => exact False.elim (pass0 (X := X.nox) pins σ H s e s' (I.wish _) hq)
  | ok fl =>
    cases fl with
    | ret u =>
      obtain ⟨v, H', I3, rv, n, hv, hn, q⟩ := I.after hq
      subst hv
      obtain ⟨t, rfl⟩ := rv
      exact ⟨hn, ⟨.int n, H', I3.tok _, ⟨_, rfl⟩, q⟩⟩
    | next => exact False.elim hq
    | brk => exact False.elim hq
    | cont => exact False.elim hq
end
end Lw
namespace Lw
open PySem PySem.Spec L2 Evl
/-! ### a list of three ints from which is drawn -/
abbrev dk (x y z : Int) : HO := .lst [.int x, .int y, .int z]
def DeckAt (H : Hp) (d : Addr) : Prop := ∃ x y z, H d = some (dk x y z)
theorem DeckAt.nn {H : Hp} {d : Addr} (h : DeckAt H d) : H d ≠ none := by
  obtain ⟨x, y, z, e⟩ := h
  rw [e]
  exact fun z => nomatch z
theorem DeckAt.upd {H : Hp} {d D : Addr} {o : HO} (h : DeckAt H d) (n : d ≠ D) : DeckAt (upd H D o) d := by
  obtain ⟨x, y, z, e⟩ := h
  exact ⟨x, y, z, by rw [upd_ne n]; exact e⟩
theorem DeckAt.ne {H : Hp} {d D : Addr} (h : DeckAt H d) (n : H D = none) : d ≠ D := fun e => h.nn (e ▸ n)
theorem DeckAt.new {H : Hp} {d D : Addr} {o : HO} (h : DeckAt H d) (n : H D = none) : DeckAt (L2.upd H D o) d := h.upd (h.ne n)
theorem DeckAt.ex {H H' : Hp} {d : Addr} (h : DeckAt H d) (e : Ex H H') : DeckAt H' d := by
  obtain ⟨x, y, z, q⟩ := h
  exact ⟨x, y, z, e _ _ q⟩
theorem DeckAt.gr {B H B' H' : Hp} {d : Addr} (h : DeckAt H d) (g : Gr M0 B H B' H') : DeckAt H' d := h.ex g.ex
abbrev Md (d : Addr) : Addr → Prop := fun a => a = d
theorem Gr.deck {B H B' H' : Hp} {d : Addr} {x y z : Int} (g : Gr (Md d) B H B' H') (hb : B' d = none) : Gr (Md d) B H B' (upd H' d (dk x y z)) := g.mut (.inl rfl) hb
theorem Gr.bd {M : Addr → Prop} {B H B' H' : Hp} {d : Addr} (g : Gr M B H B' H') (hb : B d = none) (hd : H d ≠ none) : B' d = none := g.f d hb hd
/-- a deck and what is known beside it -/
structure Dk (B H : Hp) (d : Addr) : Prop where
  k : Ex B H
  b : B d = none
  at_ : DeckAt H d
theorem Dk.gr {B H B' H' : Hp} {d : Addr} (h : Dk B H d) (g : Gr M0 B H B' H') : Dk B' H' d := ⟨g.k, g.f d h.b h.at_.nn, h.at_.gr g⟩
theorem Dk.go {B H B' H' : Hp} {d : Addr} (h : Dk B H d) (g : Gr (Md d) B H B' H') (a : DeckAt H' d) : Dk B' H' d := ⟨g.k, g.f d h.b h.at_.nn, a⟩
theorem Dk.own {B H : Hp} {d p : Addr} {o : HO} (k : Dk B H d) (hp : H p = none) : Dk B (upd H p o) d := k.gr ((Gr.refl k.k).own hp)
theorem Dk.new {B H : Hp} {d p : Addr} {o : HO} (k : Dk B H d) (hp : H p = none) : Dk (L2.upd B p o) (L2.upd H p o) d := k.gr ((Gr.refl k.k).new hp)
section
variable {J : It} {n : Nat} {G : Hp → Prop} {Y : Nat → Hp → V → Hp → Prop} {B H1 : Hp} {g : TG} {tt : TT} {te : TE} {vs : List Nat} {σ : L2.St} {D d : Addr} {Qd : Hp → Prop}
/-- ints that are drawn -/
theorem lcInts (w : Walk J n G Y) (P : Int → Prop) (k : Dk B H1 d) (hD : H1 D = none) (hn : n < sizeLine)
    (hG : ∀ B' H', Gr (Md d) B H1 B' H' → Dk B' H' d → G H')
    (hs : ∀ i x B' H' H'', i < n → Gr (Md d) B H1 B' H' → Dk B' H' d → Y i H' x H'' → ∀ (KT : VK) (KF : Hp → Prop), (∀ z B4 H4, Gr (Md d) B' H' B4 H4 → Dk B4 H4 d → P z → KT (.int z) H4) →
      g x (wipe σ vs) H'' fun σ2 H2 => wipe σ2 vs = wipe σ vs ∧ tt σ2 H2 fun b H3 => if b = true then te σ2 H3 KT else KF H3)
    (hd : ∀ B' H' (ns : List Int), Gr (Md d) B H1 B' H' → Dk B' H' d → B' D = none → H' D = some (.lst (ns.map V.int)) → ns.length = n → (∀ z ∈ ns, P z) → Qd H') : tLcR J g tt te vs σ H1 D Qd := by
  have hdD : d ≠ D := k.at_.ne hD
  refine lcB (M := Md d) w (fun i B' H' acc => Dk B' H' d ∧ ∃ ns : List Int, acc = ns.map V.int ∧ ns.length = i ∧ ∀ z ∈ ns, P z) k.k hD (fun z => hdD z.symm) ⟨k, [], rfl, rfl, fun z hz => nomatch hz⟩ (fun i B' H' acc l hb ⟨⟨k1, k2, k3⟩, s⟩ => ⟨⟨fun a u e => by rw [upd_ne (ne_of_none e hb)]; exact k1 a u e, k2, k3.upd hdD⟩, s⟩) (fun i B' H' acc _ g s => hG B' H' g s.1) ?_ ?_
  · intro i x B' H' H'' acc hi g b e s y KT KF kt kf
    obtain ⟨dk', ns, rfl, hl, hp⟩ := s
    refine hs i x B' H' H'' hi g dk' y KT KF fun z B4 H4 g4 d4 pz => kt _ B4 H4 g4 (by rw [List.length_map]; omega) ⟨d4, ns ++ [z], by rw [List.map_append]; rfl, by rw [List.length_append, hl]; rfl, fun q hq => ?_⟩
    rcases List.mem_append.mp hq with h | h
    · exact hp q h
    · rw [List.mem_singleton.mp h]; exact pz
  · intro B' H' acc g b e s
    obtain ⟨dk', ns, rfl, hl, hp⟩ := s
    exact hd B' H' ns g dk' b e hl hp
end
section
variable {X : Cx} {σ : L2.St} {H : Hp} {Q : VK} {e o : Expr} {pos ap : Pos}
/-- a built-in type's method -/
theorem e_bm {T : String} {name : Str} {id : String} {r : V → List V → Hp → VK → Prop} {es : List Expr} (pa : PySem.PlainAttrs T) (slot : PySem.Slot T name id) (hty : typeOf (.builtin id) = pure (.type "method_descriptor")) (hm : MtR X id r)
    (h : WE X o σ H fun x H1 => tyV X.K T x H1 ∧ WA X (e :: es) σ H1 fun vs H2 => r x vs H2 Q) (hbase : attributeBase o name X.env (eval o X.env) = eval o X.env := by rfl)
    (hfew : ((backTo pos (starEach (e :: es) X.env)).all (fun x => !x.1) && (backToKw pos (keywordEach [] X.env)).all (fun x => x.1.isSome)
      && decide ((e :: es).length + ([] : List Keyword).length + (if ([] : List Keyword).isEmpty then 0 else 1) < 30)) = true := by rfl)
    (hline : (ap.endLine == pos.line) = true := by rfl) (hs : starEach (e :: es) X.env = (false, eval e X.env) :: starEach es X.env := by rfl) (hplain : (backTo pos (starEach es X.env)).any (·.1) = false := by rfl) : WE X (.Call (.Attribute o name ap) (e :: es) [] pos) σ H Q :=
  ⟨_, pe_bm pa slot hty hm WE.pe WA.pa hbase hfew hline hs hplain, h⟩
end
/-- what holds behind a statement, on all its ways -/
theorem s_join {X : Cx} {st : Stmt} {D : Ends} {σ : L2.St} {H : Hp} (P : L2.St → Hp → Prop) (h1 : WS X st { D with nx := P } σ H) (h2 : ∀ σ H, P σ H → D.nx σ H) : WS X st D σ H := by
  refine ⟨fun D σ H => ∃ P, WS X st { D with nx := P } σ H ∧ ∀ σ H, P σ H → D.nx σ H, ⟨fun pins s σ H D I h => ?_⟩, P, h1, h2⟩
  obtain ⟨P, h1, h2⟩ := h
  refine thn (WS.ps.run pins s σ H _ I h1) fun f s' q => ?_
  cases f with
  | next => obtain ⟨σ', H', I', q⟩ := q; exact ⟨σ', H', I', h2 _ _ q⟩
  | brk => exact q
  | cont => exact q
  | ret u => exact q
theorem walk_r0 {n : Nat} : Walk (Itr 0 n) n (fun _ => True) (fun i H x H' => H' = H ∧ x = .int (i : Nat)) :=
  (walk_range (lo := 0)).mono (fun _ h => h) fun i H x H' _ _ y => ⟨y.1, by rw [y.2]; show V.int (0 + (i : Nat)) = _; rw [Int.zero_add]⟩
end Lw
namespace Lw
open PySem PySem.W PySem.Calls PyProof.Rows Builtin
section
variable {prog : Program} {w : World} {A : Around} {E : Value → Shared → Prop} {s : Shared} {K : Frag} {x y C f : Addr} {ox oy : Obj} {od oe : Option Obj}
theorem ifBound_B {M : Model} {id : String} {name : Str} {args : List Value} {Q : Option Value → Shared → Prop} (X : K.In s.heap) (I : InstAt s.heap x ox C od) (hs : findIn K (.ref C) name = some (some (.builtin id)))
    (hb : ∀ self, bindSpecial (.builtin id) self = pure (.builtin id, [self])) (h : wpAny M A (call (.builtin id) (.ref x :: args)) (fun v => Q (some v)) E s) : wpAny M A (callSpecialIfBound? (.ref x) name args) Q E s := by
  simp only [callSpecialIfBound?, bindSpecialIfBound?]
  refine wpAny_holding (wpAny_bind (wpAny_bind (wpAny_bind (I.type.here ((looks_findIn X hs).here ?_)))))
  simp only [hb]
  refine wpAny_bind (wpAny_askSetting (wpAny_ite ?_))
  have fin : wpAny M A (call (.builtin id) ([.ref x] ++ args) >>= fun v => pure (some v)) Q E s := wpAny_bind (wpAny_mono h (fun v s' h' => wpAny_pure h') fun _ _ h' => h')
  split
  · exact wpAny_bind (wpAny_pure (wpAny_pure fin))
  · exact wpAny_tryCatch (wpAny_bind (wpAny_pure (wpAny_pure fin)))
theorem ne_own {Q : Value → Shared → Prop} (hu : A.units < cLine) (hu1 : A.in1.units < cLine) (X : K.In s.heap) (I : InstAt s.heap x ox C od) (J : InstAt s.heap y oy C oe)
    (hn : findIn K (.ref C) (cmpInfo .NotEq).2.1 = some (some (.builtin "object.__ne__"))) (hm : mroIn K C (.type "object") = some true) (he : findIn K (.ref C) "__eq__" = some (some (.ref f))) (hf : isFn K (.ref f) = true)
    (h : wpAny (model prog w) A.in1 (call (.ref f) [.ref x, .ref y]) (fun v s' => ∃ b, v = .bool b ∧ Q (.bool (!b)) s') E s) : wpAny (model prog w) A (richCompare .NotEq (.ref x) (.ref y)) Q E s := by
  have one : wpAny (model prog w) A (tryCompare (.ref x) (cmpInfo .NotEq).2.1 (.ref y)) (fun r s' => ∃ v, r = some v ∧ Q v s') E s := by
    unfold tryCompare
    refine wpAny_bind (ifBound_B X I hn PySem.F.slot_object_ne.bind ?_)
    refine wpAny_call (codeAny_call_builtin PySem.F.slot_object_ne.plain PySem.F.entry_object_ne (check_slot (i := "object.__ne__") (owner := "object") (n := "__ne__") (by decide +kernel) (by decide +kernel) (I.type.andThen (looks_mroIn X hm)) (PySem.F.args_object_ne_2 _ _) ?_))
    unfold Builtin.«object.__ne__»
    refine wpAny_bind (m := slotArgs "__ne__" 1 _) (wpAny_pure ?_)
    refine wpAny_bind (m := cRoomFor _ _) (wpAny_cRoomFor hu1 ?_)
    refine wpAny_bind (m := callSpecialIfBound? (.ref x) (Str.ofString "__eq__") _) (ifBound_K X I he hf (wpAny_mono h (fun r s' hr => ?_) fun _ _ e => e))
    obtain ⟨b, rfl, hq⟩ := hr
    refine wpAny_bind (m := truthy (.bool b)) (wpAny_truthy_bool ?_)
    exact wpAny_pure (wpAny_pure ⟨_, rfl, hq⟩)
  unfold richCompare
  simp only [oneThing_ref]
  refine wpAny_holding (wpAny_bind (wpAny_cRoomFor hu ?_))
  refine wpAny_bind (I.type.here (wpAny_bind (J.type.here ?_)))
  rw [show (Value.ref C != Value.ref C) = false from by simp]
  simp only [Bool.false_eq_true, if_false]
  refine wpAny_bind (wpAny_pure ?_)
  simp only [Bool.false_eq_true, if_false]
  refine wpAny_bind (wpAny_mono one (fun r s' z => ?_) fun _ _ e => e)
  obtain ⟨v, rfl, hq⟩ := z
  exact wpAny_pure hq
end
end Lw
namespace Lw
open PySem PySem.Spec L2 Evl
/-- the text's own == -/
structure CalE (P : Program) (w : World) (K : PySem.W.Frag) (mg : Str → Option Value) (base : Heap) (C : Addr) (k : Nat) (ps : List Str) (sp : Sp) : Prop where
  ex : ∃ f fd, FnOk P w K mg base CX0 k f fd ps sp ∧ PySem.W.findIn K (.ref C) "__eq__" = some (some (.ref f)) ∧ PySem.W.isFn K (.ref f) = true ∧ Binds K fd ps []
  ne : PySem.W.findIn K (.ref C) (cmpInfo .NotEq).2.1 = some (some (.builtin "object.__ne__"))
  mro : PySem.W.mroIn K C (.type "object") = some true
section
variable {X : Cx} {k : Nat} {C f : Addr} {fd : FuncData} {ps : List Str} {sp : Sp}
def rOwn (C : Addr) (sp : Sp) (g : Bool → Bool) : R2 := fun x y H Q => ∃ a b dx dy fs gs, x = .ref a ∧ y = .ref b ∧ H a = some (.ins C dx fs) ∧ H b = some (.ins C dy gs) ∧ sp [.ref a, .ref b] H (fun v H' => ∃ k, v = .bl k ∧ Q (.bl (g k)) H') E0
theorem op_neOwn (cl : CalE X.prog X.w X.K X.mg X.base C k ps sp) (hr : Room (k + 1) X.A) : OpR X (compareOp .NotEq) (rOwn C sp fun k => !k) := by
  obtain ⟨f, fd, F, hs, hf, hb⟩ := cl.ex
  intro pins s σ H x y u v Q I rx ry h
  obtain ⟨a, b, dx, dy, fs, gs, rfl, rfl, ea, eb, h⟩ := h
  cases (show u = Value.ref a from rx)
  cases (show v = Value.ref b from ry)
  obtain ⟨mA, O, _⟩ := ins_get I.hok ea
  obtain ⟨od, J, _⟩ := O.look
  obtain ⟨mB, O', _⟩ := ins_get I.hok eb
  obtain ⟨od', J', _⟩ := O'.look
  have hl := F.len _ _ _ _ h
  have r2 : Vals [V.ref a, V.ref b] [Value.ref a, Value.ref b] := .cons rfl (.cons rfl .nil)
  refine PySem.W.cmp_ofNotEq (ne_own hr.units0 hr.in1.units0 I.kIn J J' cl.ne cl.mro hs hf ?_)
  refine wpAny_call (codeAny_mono (F.run X.A.in1 X.stack s H ⟨[.ref a, .ref b], []⟩ [.ref a, .ref b] [.ref a, .ref b] _ E0 hr.in1 I.env0.in1 (by
    have := hb s [.ref a, .ref b] I.kIn (by simpa using hl)
    simpa using this) r2 h) fun rr s' hq => ?_)
  cases rr with
  | error e => exact False.elim (pass0 (X := X.nox) pins σ H s e s' (I.wish _) hq)
  | ok fl =>
    cases fl with
    | ret u =>
      obtain ⟨v, H', I3, rv, n, hv, q⟩ := I.after hq
      subst hv
      cases rv
      exact ⟨n, rfl, ⟨.bl (!n), H', I3, rfl, q⟩⟩
    | next => exact False.elim hq
    | brk => exact False.elim hq
    | cont => exact False.elim hq
theorem op_eqOwn (cl : CalE X.prog X.w X.K X.mg X.base C k ps sp) (hr : Room k X.A) : OpR X (compareOp .Eq) (rOwn C sp fun k => k) := by
  obtain ⟨f, fd, F, hs, hf, hb⟩ := cl.ex
  intro pins s σ H x y u v Q I rx ry h
  obtain ⟨a, b, dx, dy, fs, gs, rfl, rfl, ea, eb, h⟩ := h
  cases (show u = Value.ref a from rx)
  cases (show v = Value.ref b from ry)
  obtain ⟨mA, O, _⟩ := ins_get I.hok ea
  obtain ⟨od, J, _⟩ := O.look
  obtain ⟨mB, O', _⟩ := ins_get I.hok eb
  obtain ⟨od', J', _⟩ := O'.look
  obtain ⟨m, hF⟩ := I.fr
  have hl := F.len _ _ _ _ h
  have r2 : Vals [V.ref a, V.ref b] [Value.ref a, Value.ref b] := .cons rfl (.cons rfl .nil)
  show wpAny _ _ (richCompare .Eq (.ref a) (.ref b)) _ _ _
  refine PySem.W.cmp_K (op := .Eq) (tb := .ref C) hr.units0 hF I.ok.mod.kin J J'.type (by simp [PySem.W.notFirst]) hs hf ?_
  refine wpAny_call (codeAny_mono (F.run X.A X.stack s H ⟨[.ref a, .ref b], []⟩ [.ref a, .ref b] [.ref a, .ref b] _ E0 hr I.env0 (by
    have := hb s [.ref a, .ref b] I.kIn (by simpa using hl)
    simpa using this) r2 h) fun rr s' hq => ?_)
  cases rr with
  | error e => exact False.elim (pass0 (X := X.nox) pins σ H s e s' (I.wish _) hq)
  | ok fl =>
    cases fl with
    | ret u =>
      obtain ⟨v, H', I3, rv, n, hv, q⟩ := I.after hq
      subst hv
      cases rv
      exact ⟨.bl n, H', I3, rfl, q⟩
    | next => exact False.elim hq
    | brk => exact False.elim hq
    | cont => exact False.elim hq
end
section
variable {M : Addr → Prop} {B H B1 H1 B' H' : Hp}
/-- knowing less at the start, nothing at the end -/
theorem Gr.base (x : Gr M B1 H B' H') (e : Ex B B1) : Gr M B H B H' := ⟨.refl B, (e.trans x.b).trans x.k, x.h, x.n, fun _ h _ => h⟩
theorem Gr.fresh {d G : Addr} {B2 H2 : Hp} (x : Gr (Md d) B H B1 H1) (y : Gr (Md G) B1 H1 B2 H2) (hG : H G = none) : Gr (Md d) B H B2 H2 :=
  ⟨x.b.trans y.b, y.k, fun a o m h => y.h a o (fun e => by rw [e, hG] at h; cases h) (x.h a o m h), fun a h => y.n a (x.n a h), fun a h1 h2 => y.f a (x.f a h1 h2) (x.n a h2)⟩
theorem ex_put {G : Addr} {o : HO} (k : Ex B H) (e : H G = some o) : Ex (upd B G o) H := fun a u h => by
  by_cases z : a = G
  · subst z
    rw [upd_same] at h
    rw [e, h]
  · rw [upd_ne z] at h
    exact k a u h
end
section
variable {X : Cx} {σ : L2.St} {H : Hp} {Q : VK} {e o a : Expr} {pos p2 p3 ap pos2 : Pos}
/-- a built-in type's method without arguments -/
theorem e_bm0 {T : String} {name : Str} {id : String} {r : V → List V → Hp → VK → Prop} (pa : PySem.PlainAttrs T) (slot : PySem.Slot T name id) (hty : typeOf (.builtin id) = pure (.type "method_descriptor")) (hm : MtR X id r)
    (h : WE X o σ H fun x H1 => tyV X.K T x H1 ∧ r x [] H1 Q) (hbase : attributeBase o name X.env (eval o X.env) = eval o X.env := by rfl) (hline : (ap.endLine == pos.line) = true := by rfl) : WE X (.Call (.Attribute o name ap) [] [] pos) σ H Q :=
  ⟨_, pe_bm0 pa slot hty hm WE.pe hbase hline, h⟩
/-- list(range(n)) -/
theorem e_listRg (hml : X.mg "list" = none) (hmr : X.mg "range" = none) (hc : X.calm = true := by rfl) (hg : Gl X "list" := by rfl) (hg2 : Gl X "range" := by rfl)
    (na : starEach [a] X.env = (false, eval a X.env) :: starEach [] X.env := by rfl) (na2 : starEach [.Call (.Name "range" p3) [a] [] pos2] X.env = (false, eval (.Call (.Name "range" p3) [a] [] pos2) X.env) :: starEach [] X.env := by rfl)
    (h : WE X a σ H fun x H1 => ∃ n, x = .int n ∧ RgOk 0 n ∧ ∀ q, H1 q = none → Q (.ref q) (upd H1 q (.lst (rgV 0 n)))) : WE X (.Call (.Name "list" p2) [.Call (.Name "range" p3) [a] [] pos2] [] pos) σ H Q :=
  ⟨_, pe_listRg hc hg hml (prg_1 hg2 hmr WE.pe na) na2, h⟩
end
/-- the parameters' order -/
def perm2 {α : Type} : List α → List α
  | [x, y] => [y, x]
  | l => l
def perm3 {α : Type} : List α → List α
  | [x, y, z] => [z, y, x]
  | l => l
theorem vals_perm2 {vs : List V} {us : List Value} (r : Vals vs us) : Vals (perm2 vs) (perm2 us) :=
  match r with
  | .nil => .nil
  | .cons a .nil => .cons a .nil
  | .cons a (.cons b .nil) => .cons b (.cons a .nil)
  | .cons a (.cons b (.cons c d)) => .cons a (.cons b (.cons c d))
theorem vals_perm3 {vs : List V} {us : List Value} (r : Vals vs us) : Vals (perm3 vs) (perm3 us) :=
  match r with
  | .nil => .nil
  | .cons a .nil => .cons a .nil
  | .cons a (.cons b .nil) => .cons a (.cons b .nil)
  | .cons a (.cons b (.cons c .nil)) => .cons c (.cons b (.cons a .nil))
  | .cons a (.cons b (.cons c (.cons d e))) => .cons a (.cons b (.cons c (.cons d e)))
end Lw
local macro_rules | `(tactic| walk_at "nm") => `(tactic| with_unfolding_all first
  | refine Lw.e_name 0 (q := ?_) | refine Lw.e_name 1 (q := ?_) | refine Lw.e_name 2 (q := ?_) | refine Lw.e_name 3 (q := ?_) | refine Lw.e_name 4 (q := ?_) | refine Lw.e_name 5 (q := ?_) | refine Lw.e_name 6 (q := ?_) | refine Lw.e_name 7 (q := ?_) | refine Lw.e_name 8 (q := ?_) | refine Lw.e_name 9 (q := ?_) | refine Lw.e_name 10 (q := ?_) | refine Lw.e_name 11 (q := ?_) | refine Lw.e_name 12 (q := ?_))
local macro_rules | `(tactic| walk_at "ii") => `(tactic| refine ⟨_, _, rfl, rfl, ?_⟩)
local macro_rules | `(tactic| walk_at "e") => `(tactic| first
  | walk_at "nm" | refine Lw.e_int ?_ | refine Lw.e_non ?_ | refine Lw.e_bl ?_ | refine Lw.e_str ?_
  | refine Lw.a_nil ?_ | refine Lw.a_cons (h := ?_) | refine Lw.k_nil ?_ | refine Lw.k_cons ?_
  | refine Lw.e_if ?_ | refine Lw.e_and ?_ | refine Lw.e_or ?_ | refine Lw.e_one ?_ | refine Lw.e_not ?_ | refine Lw.e_lst ?_ | refine Lw.e_tup ?_ | refine Lw.e_neg ?_)
local macro_rules | `(tactic| walk_at "E") => `(tactic| repeat walk_at "e")
namespace K14
open PySem L2 Evl Lw
def top (i : Nat) : Stmt := PySem.Challenge.pw_listwindow_k14_rows_that_filters_let.main.body.getD i (.Pass ⟨0, 0, 0, 0⟩)
abbrev s_cw : Stmt := top 8
abbrev s_cc : Stmt := top 9
abbrev s_cr : Stmt := top 10
abbrev s_crs : Stmt := top 11
abbrev s_cf : Stmt := top 12
abbrev s_of : Stmt := top 14
abbrev s_lr : Stmt := top 15
abbrev s_bc : Stmt := top 16
abbrev s_lets : Stmt := top 17
abbrev s_bb : Stmt := top 18
abbrev s_part : Stmt := top 19
abbrev s_init : Stmt := inClass (top 21) 0
abbrev s_width : Stmt := inClass (top 21) 1
abbrev s_rows : Stmt := inClass (top 21) 2
abbrev s_tlen : Stmt := inClass (top 21) 3
abbrev s_teq : Stmt := inClass (top 21) 4
abbrev s_cell : Stmt := inClass (top 21) 6
abbrev s_col : Stmt := inClass (top 21) 7
abbrev s_pick : Stmt := inClass (top 21) 11
abbrev s_deck : Stmt := top 23
abbrev s_draw : Stmt := top 24
abbrev s_cells : Stmt := top 25
abbrev s_table : Stmt := top 26
abbrev s_bound : Stmt := top 28
abbrev s_filters : Stmt := top 29
abbrev s_llets : Stmt := top 30
abbrev s_shown : Stmt := top 31
abbrev s_rr : Stmt := top 35
abbrev s_right : Stmt := top 36
abbrev s_law : Stmt := top 37
/-- a def of the module, as the top leaves it -/
def Fn (K : PySem.W.Frag) (mg : Str → Option Value) (x : Str) (st : Stmt) : Prop := ∃ f fd, Fun K x x st f fd ∧ mg x = some (.ref f)
end K14
namespace K14
open PySem L2 Evl Lw
section
variable {P : Program} {w : World} {K : PySem.W.Frag} {mg : Str → Option Value} {base : Heap}
theorem cal_of {x : Str} {st : Stmt} {N ps : List Str} {k : Nat} {sp : Sp} (d : Fn K mg x st) (S : FnScope N ps (defScope st)) (len : ∀ vs H Q E, sp vs H Q E → vs.length = ps.length)
    (hb : ∀ (kV doc pm : Value) (an : Option Addr) (cdv ct : Value) (us : List Value), us.length = ps.length → bindArgs (PySem.W.fnOf x x (defArgs st) (defBody st) (defScope st) .none kV doc pm an cdv ct) ⟨us, []⟩ = pure (ps.zip us))
    (body : ∀ (f : Addr) (cdv : Value) (A : Around) (outer : List Env) (s : Shared) (H : Hp) (vs : List V) (Q : VK) (E : XK), Room k (A.deeper (PyProof.Rows.envOfC x (defScope st) s.heap.objs.size f cdv)) → sp vs H Q E →
      WSs (cxOf CX0 P w K mg base N x (defScope st) f cdv A outer s H E).nox (defBody st) { nx := fun _ H' => Q .non H', rt := Q } (start N vs) H) : Cal P w K mg base x (k + 1) ps sp := by
  obtain ⟨f, fd, F, hm⟩ := d
  exact ⟨f, fd, F.ok S len (body f), hm, F.kp, F.binds hb⟩

/-! check_width -/
theorem sc_cw : FnScope ["width"] ["width"] (defScope s_cw) := ⟨rfl, rfl, rfl, by decide +kernel, rfl, by decide +kernel, by decide +kernel⟩
def sp_cw : Sp := fun vs H Q _ => ∃ n : Int, vs = [.int n] ∧ 1 ≤ n ∧ Q .non H
theorem c_cw (d : Fn K mg "check_width" s_cw) : Cal P w K mg base "check_width" 1 ["width"] sp_cw := by
  refine cal_of d sc_cw (fun vs H Q E h => by obtain ⟨n, rfl, _⟩ := h; rfl) (fun _ _ _ _ _ _ us hl => match us, hl with | [_], _ => rfl) (fun f cdv A outer s H vs Q E hr h => ?_)
  obtain ⟨n, rfl, hn, k⟩ := h
  refine s_one (s_if (t_cmp op_lt (h := ?_)))
  walk_at "E"
  refine ⟨_, _, rfl, rfl, _, rfl, ?_⟩
  exact ifd (fun h => absurd h (by omega)) fun _ => s_nil k

/-! check_row -/
theorem sc_cr : FnScope ["number", "row"] ["number", "row"] (defScope s_cr) := ⟨rfl, rfl, rfl, by decide +kernel, rfl, by decide +kernel, by decide +kernel⟩
def sp_cr : Sp := fun vs H Q _ => ∃ n r : Int, vs = [.int n, .int r] ∧ 0 ≤ r ∧ r < n ∧ Q .non H
theorem c_cr (d : Fn K mg "check_row" s_cr) : Cal P w K mg base "check_row" 1 ["number", "row"] sp_cr := by
  refine cal_of d sc_cr (fun vs H Q E h => by obtain ⟨n, r, rfl, _⟩ := h; rfl) (fun _ _ _ _ _ _ us hl => match us, hl with | [_, _], _ => rfl) (fun f cdv A outer s H vs Q E hr h => ?_)
  obtain ⟨n, r, rfl, h0, h1, k⟩ := h
  refine s_one (s_if (t_not (t_chain op_le op_lt (h := ?_))))
  walk_at "E"
  refine ⟨_, _, rfl, rfl, _, rfl, ift (decide_eq_true h0) ?_⟩
  walk_at "E"
  refine ⟨_, _, rfl, rfl, _, rfl, ?_⟩
  rw [decide_eq_true h1]
  exact iff_ rfl (s_nil k)

/-! check_column -/
theorem sc_cc : FnScope ["width", "column"] ["width", "column"] (defScope s_cc) := ⟨rfl, rfl, rfl, by decide +kernel, rfl, by decide +kernel, by decide +kernel⟩
theorem c_cc (d : Fn K mg "check_column" s_cc) : Cal P w K mg base "check_column" 1 ["width", "column"] sp_cr := by
  refine cal_of d sc_cc (fun vs H Q E h => by obtain ⟨n, r, rfl, _⟩ := h; rfl) (fun _ _ _ _ _ _ us hl => match us, hl with | [_, _], _ => rfl) (fun f cdv A outer s H vs Q E hr h => ?_)
  obtain ⟨n, r, rfl, h0, h1, k⟩ := h
  refine s_one (s_if (t_not (t_chain op_le op_lt (h := ?_))))
  walk_at "E"
  refine ⟨_, _, rfl, rfl, _, rfl, ift (decide_eq_true h0) ?_⟩
  walk_at "E"
  refine ⟨_, _, rfl, rfl, _, rfl, ?_⟩
  rw [decide_eq_true h1]
  exact iff_ rfl (s_nil k)

/-! check_rows -/
theorem sc_crs : FnScope ["number", "rows", "row"] ["number", "rows"] (defScope s_crs) := ⟨rfl, rfl, rfl, by decide +kernel, rfl, by decide +kernel, by decide +kernel⟩
def sp_crs (K : PySem.W.Frag) : Sp := fun vs H Q _ => ∃ (n : Int) (a : Addr) (ns : List Int), vs = [.int n, .ref a] ∧ SqL K H a (ns.map V.int) ∧ (∀ r ∈ ns, 0 ≤ r ∧ r < n) ∧ Q .non H
theorem c_crs (d : Fn K mg "check_rows" s_crs) (e1 : Cal P w K mg base "check_row" 1 ["number", "row"] sp_cr) : Cal P w K mg base "check_rows" 2 ["number", "rows"] (sp_crs K) := by
  refine cal_of d sc_crs (fun vs H Q E h => by obtain ⟨n, r, _, rfl, _⟩ := h; rfl) (fun _ _ _ _ _ _ us hl => match us, hl with | [_, _], _ => rfl) (fun f cdv A outer s H vs Q E hr h => ?_)
  obtain ⟨n, a, ns, rfl, hL, hb, k⟩ := h
  refine s_one (s_for (h := i_list ?_))
  walk_at "E"
  refine ⟨_, rfl, ⟨_, hL⟩, for_it walk_list (fun i σ H' => H' = H ∧ ∃ v, σ = [some (.int n), some (.ref a), v]) ⟨rfl, none, rfl⟩ (fun i σ H' _ ⟨e, _⟩ => e ▸ hL) ?_ (fun σ H' ⟨e, _⟩ => by subst e; exact k)⟩
  rintro i x σ H' H'' hi ⟨rfl, v, rfl⟩ ⟨rfl, hx⟩
  rw [List.getElem?_map] at hx
  cases e : ns[i]? with
  | none => rw [e] at hx; cases hx
  | some r =>
    rw [e] at hx
    cases hx
    obtain ⟨b0, b1⟩ := hb r (List.mem_of_getElem? e)
    refine g_name 2 sc_crs.nd (q := ?_)
    refine s_one (s_expr (h := e_call e1 hr (h := ?_)))
    walk_at "E"
    exact ⟨_, _, rfl, b0, b1, rfl, _, rfl⟩

/-! check_filters -/
theorem sc_cf : FnScope ["width", "filters"] ["width", "filters"] (defScope s_cf) := ⟨rfl, rfl, rfl, by decide +kernel, rfl, by decide +kernel, by decide +kernel⟩
def sp_cf (K : PySem.W.Frag) : Sp := fun vs H Q _ => ∃ (n : Int) (a : Addr) (xs : List V), vs = [.int n, .ref a] ∧ SqL K H a xs ∧ (xs.length : Int) = n ∧ Q .non H
theorem c_cf (d : Fn K mg "check_filters" s_cf) (ml : mg "len" = none) : Cal P w K mg base "check_filters" 1 ["width", "filters"] (sp_cf K) := by
  refine cal_of d sc_cf (fun vs H Q E h => by obtain ⟨n, r, _, rfl, _⟩ := h; rfl) (fun _ _ _ _ _ _ us hl => match us, hl with | [_, _], _ => rfl) (fun f cdv A outer s H vs Q E hr h => ?_)
  obtain ⟨n, a, xs, rfl, hL, hb, k⟩ := h
  refine s_one (s_if (t_cmp op_ne (h := e_blt call_len_seq ml PySem.boot_len ?_)))
  walk_at "E"
  refine ⟨_, _, rfl, .inl hL, ?_⟩
  walk_at "E"
  refine ⟨rfl, _, rfl, ?_⟩
  refine iff_ ?_ (s_nil k)
  rw [decide_eq_true (by rw [hb])]
  rfl

/-! _lets -/
def loOk : Option Int → Int → Bool | none, _ => true | some l, c => decide (l ≤ c)
def hiOk : Option Int → Int → Bool | none, _ => true | some h, c => decide (c ≤ h)
def lets (b : Option Int × Option Int) (c : Int) : Bool := loOk b.1 c && hiOk b.2 c
abbrev Bd := Option Int × Option Int
theorem sc_lets : FnScope ["bounds", "cell", "low", "high"] ["bounds", "cell"] (defScope s_lets) := ⟨rfl, rfl, rfl, by decide +kernel, rfl, by decide +kernel, by decide +kernel⟩
def sp_lets (K : PySem.W.Frag) : Sp := fun vs H Q _ => ∃ (v : V) (b : Bd) (c : Int), vs = [v, .int c] ∧ Dt K H v b ∧ Q (.bl (lets b c)) H
theorem c_lets (d : Fn K mg "_lets" s_lets) : Cal P w K mg base "_lets" 1 ["bounds", "cell"] (sp_lets K) := by
  refine cal_of d sc_lets (fun vs H Q E h => by obtain ⟨n, r, _, rfl, _⟩ := h; rfl) (fun _ _ _ _ _ _ us hl => match us, hl with | [_, _], _ => rfl) (fun f cdv A outer s H vs Q E hr h => ?_)
  obtain ⟨v, b, c, rfl, hd, k⟩ := h
  obtain ⟨a, y, z, rfl, hT, d1, d2⟩ := dt_pair hd
  refine s_cons (s_asg (h := ?_))
  walk_at "E"
  refine g_tup hT rfl (h := gs_cons (h := g_name 2 sc_lets.nd (q := gs_cons (h := g_name 3 sc_lets.nd (q := gs_nil ?_)))))
  refine s_one (s_ret ?_)
  obtain ⟨lo, hi⟩ := b
  cases lo with
  | none =>
    cases dt_none d1
    cases hi with
    | none =>
      cases dt_none d2
      refine e_and (e_or (e_cmp op_isN (h := ?_)))
      walk_at "E"
      refine ⟨rfl, _, rfl, ift rfl ⟨_, rfl, ift rfl ?_⟩⟩
      refine e_one (e_or (e_cmp op_isN (h := ?_)))
      walk_at "E"
      exact ⟨rfl, _, rfl, ift rfl k⟩
    | some hi =>
      cases dt_some d2
      refine e_and (e_or (e_cmp op_isN (h := ?_)))
      walk_at "E"
      refine ⟨rfl, _, rfl, ift rfl ⟨_, rfl, ift rfl ?_⟩⟩
      refine e_one (e_or (e_cmp op_isN (h := ?_)))
      walk_at "E"
      refine ⟨rfl, _, rfl, iff_ rfl (e_one (e_cmp op_le (h := ?_)))⟩
      walk_at "E"
      exact ⟨_, _, rfl, rfl, k⟩
  | some lo =>
    cases dt_some d1
    refine e_and (e_or (e_cmp op_isN (h := ?_)))
    walk_at "E"
    refine ⟨rfl, _, rfl, iff_ rfl (e_one (e_cmp op_ge (h := ?_)))⟩
    walk_at "E"
    refine ⟨_, _, rfl, rfl, _, rfl, ifd (fun hlo => ?_) fun hlo => ?_⟩
    · have k' : Q (.bl (hiOk hi c)) H := by
        have e : lets (some lo, hi) c = hiOk hi c := by
          unfold lets
          simp only [loOk, decide_eq_true hlo, Bool.true_and]
        rw [e] at k
        exact k
      cases hi with
      | none =>
        cases dt_none d2
        refine e_one (e_or (e_cmp op_isN (h := ?_)))
        walk_at "E"
        exact ⟨rfl, _, rfl, ift rfl k'⟩
      | some hi =>
        cases dt_some d2
        refine e_one (e_or (e_cmp op_isN (h := ?_)))
        walk_at "E"
        refine ⟨rfl, _, rfl, iff_ rfl (e_one (e_cmp op_le (h := ?_)))⟩
        walk_at "E"
        exact ⟨_, _, rfl, rfl, k'⟩
    · have e : lets (some lo, hi) c = false := by
        unfold lets
        simp only [loOk, decide_eq_false hlo, Bool.false_and]
      rw [e] at k
      exact k
end
end K14
namespace K14
open PySem L2 Evl Lw
section
variable {P : Program} {w : World} {K : PySem.W.Frag} {mg : Str → Option Value} {base : Heap}
/-- a new list of such data is handed back, the caller's | data that stay -/
def RetL {β : Type} [DecidableEq β] [Dat β] (K : PySem.W.Frag) (B H : Hp) (Q : VK) (ys : List β) : Prop := ∀ D B' H' acc, Gr M0 B H B' H' → B' D = none → H D = none → H' D = some (.lst acc) → Das K B' acc ys → Q (.ref D) H'
def RetD {β : Type} [DecidableEq β] [Dat β] (K : PySem.W.Frag) (B H : Hp) (Q : VK) (y : β) : Prop := ∀ v B' H', Gr M0 B H B' H' → Dt K B' v y → Q v H'
theorem RetD.l {β : Type} [DecidableEq β] [Dat β] {B H : Hp} {Q : VK} {ys : List β} (h : RetD K B H Q ys) : RetL K B H Q ys := fun D B' H' acc g b h0 e d =>
  h (.ref D) (upd B' D (.lst acc)) H' (g.learn h0 b e) (dtL (SqL.of upd_same) (d.mono (Ex.new b)))

/-! _barring_columns -/
def barF (fs : List Bd) (p : Int × Nat) : Option Int := if lets (fs.getD p.2 (none, none)) p.1 then none else some (p.2 : Int)
def barC (fs : List Bd) (cs : List Int) : List Int := cs.zipIdx.filterMap (barF fs)
theorem get_ints {ns : List Int} {i : Nat} {v : V} (h : (ns.map V.int)[i]? = some v) : ∃ n, ns[i]? = some n ∧ v = .int n := by
  rw [List.getElem?_map] at h
  cases e : ns[i]? with
  | none => rw [e] at h; cases h
  | some n => rw [e] at h; exact ⟨n, rfl, (Option.some.inj h).symm⟩
theorem get_zi {α : Type} {cs : List α} {i j : Nat} {a : α} (h : cs.zipIdx[i]? = some (a, j)) : cs[i]? = some a ∧ j = i := by
  rw [List.getElem?_zipIdx] at h
  cases e : cs[i]? with
  | none => rw [e] at h; cases h
  | some c =>
    rw [e] at h
    simp only [Option.map_some, Nat.zero_add, Option.some.injEq, Prod.mk.injEq] at h
    obtain ⟨rfl, rfl⟩ := h
    exact ⟨rfl, rfl⟩
abbrev N_bc : List Str := ["filters", "cells", "column", "cell"]
theorem sc_bc : FnScope N_bc ["filters", "cells"] (defScope s_bc) := ⟨rfl, rfl, rfl, by decide +kernel, rfl, by decide +kernel, by decide +kernel⟩
def sp_bc (K : PySem.W.Frag) : Sp := fun vs H Q _ => ∃ (B : Hp) (f c : V) (fs : List Bd) (cs : List Int), vs = [f, c] ∧ Ex B H ∧ Dt K B f fs ∧ Dt K B c cs ∧ cs.length ≤ fs.length ∧ cs.length < 1000 ∧ RetL K B H Q (barC fs cs)
theorem c_bc (d : Fn K mg "_barring_columns" s_bc) (me : mg "enumerate" = none) (e1 : Cal P w K mg base "_lets" 1 ["bounds", "cell"] (sp_lets K)) : Cal P w K mg base "_barring_columns" 2 ["filters", "cells"] (sp_bc K) := by
  refine cal_of d sc_bc (fun vs H Q E h => by obtain ⟨_, _, _, _, _, rfl, _⟩ := h; rfl) (fun _ _ _ _ _ _ us hl => match us, hl with | [_, _], _ => rfl) (fun f cdv A outer s H vs Q E hr h => ?_)
  obtain ⟨B, fv, cv, fs, cs, rfl, kB, df, dc, hl, hz, k⟩ := h
  obtain ⟨fa, fvs, rfl, fL, fD⟩ := dt_list df
  obtain ⟨ca, cvs, rfl, cL, cD⟩ := dt_list dc
  have ec := cD.ints
  subst ec
  refine s_one (s_ret (e_lc [("column", 2), ("cell", 3)] sc_bc.nd (ok := blkOk_by (N := N_bc) (sc := defScope s_bc) (by decide +kernel)) (h := i_enum me (h := ?_))))
  walk_at "E"
  refine ⟨_, _, rfl, ex_l kB cL, fun D hD => ?_⟩
  have wk : Walk (Ite K ca) (cs.zipIdx).length (fun H => SqL K H ca (cs.map V.int)) (YPair (fun i => some (.int (i : Nat))) (fun i => (cs.map V.int)[i]?)) := by
    have e := walk_enum (K := K) (a := ca) (xs := cs.map V.int)
    rw [List.length_map] at e
    rw [List.length_zipIdx]
    exact e
  refine lcF (K := K) (barF fs) wk kB hD (by rw [List.length_zipIdx]; exact Nat.lt_trans hz (by decide)) (fun B' H' g => ex_l (g.b.trans g.k) cL) ?_ (fun B' H' acc g b e da => k D B' H' acc g b hD e da)
  rintro i ⟨a, j⟩ x B' H' H'' ha g ⟨T, x, y, rfl, hT, rfl, hx, hy⟩ KT KF kt kf s0 H0 C cl fp
  cases hx
  obtain ⟨ea, rfl⟩ := get_zi ha
  obtain ⟨c, ec, rfl⟩ := get_ints hy
  rw [ea] at ec
  cases ec
  have hi : j < cs.length := (List.getElem?_eq_some_iff.mp ea).1
  refine g_tup (SqT.of upd_same) rfl (h := gs_cons (h := g_name 2 sc_bc.nd (q := gs_cons (h := g_name 3 sc_bc.nd (q := gs_nil ⟨rfl, ?_⟩)))))
  intro s0 H0 C cl fp
  have hfi : fs[j]? = some (fs[j]'(by omega)) := List.getElem?_eq_getElem (by omega)
  obtain ⟨bv, hb1, hb2⟩ := fD.at hfi
  have ed : fs.getD j (none, none) = fs[j]'(by omega) := by rw [List.getD_eq_getElem?_getD, hfi]; rfl
  have g1 : Gr M0 B' H' B' (upd H' T (.tup [.int (j : Nat), .int a])) := (Gr.refl g.k).own hT
  refine ts_one (t_not (t_val (e_call e1 hr (h := ?_))))
  refine a_cons (h := e_ixL (h := ?_))
  walk_at "E"
  refine ⟨fa, fvs, _, bv, rfl, rfl, ex_l (g.b.trans g1.k) fL, at_of rfl hb1, ?_⟩
  walk_at "E"
  refine ⟨bv, _, a, rfl, (hb2.mono (g.b.trans g1.k)), _, rfl, ?_⟩
  cases el : lets (fs[j]'(by omega)) a with
  | true => exact iff_ rfl (kf B' _ (by unfold barF; rw [ed, el]; rfl) g1)
  | false =>
    refine ift rfl ?_
    intro s0 H0 C cl fp
    walk_at "E"
    exact kt (j : Nat) _ B' _ (by unfold barF; rw [ed, el]; rfl) g1 (dtI _)
end
end K14
namespace K14
open PySem L2 Evl Lw
section
variable {P : Program} {w : World} {K : PySem.W.Frag} {mg : Str → Option Value} {base : Heap} {C : Addr}
/-! ### the class Table -/
def FnM (K : PySem.W.Frag) (C : Addr) (m q : Str) (st : Stmt) : Prop := ∃ f fd, Fun K m q st f fd ∧ Meth K C m f
def FnI (K : PySem.W.Frag) (C : Addr) (q : Str) (st : Stmt) : Prop := ∃ f fd, Fun K "__init__" q st f fd ∧ Mk K C f
def FnP (K : PySem.W.Frag) (C : Addr) (m q : Str) (st : Stmt) : Prop := ∃ p f fd, Fun K m q st f fd ∧ PropOf K C m p f
structure TC (K : PySem.W.Frag) (mg : Str → Option Value) (C : Addr) : Prop where
  cl : Cls K C
  nW : NoAttr K C "_width"
  nR : NoAttr K C "_rows"
  mgC : mg "Table" = some (.ref C)
theorem body_ok {x q : Str} {st : Stmt} {f : Addr} {fd : FuncData} {N ps : List Str} {k : Nat} {sp : Sp} (F : Fun K x q st f fd) (S : FnScope N ps (defScope st)) (len : ∀ vs H Q E, sp vs H Q E → vs.length = ps.length)
    (body : ∀ (f : Addr) (cdv : Value) (A : Around) (outer : List Env) (s : Shared) (H : Hp) (vs : List V) (Q : VK) (E : XK), Room k (A.deeper (PyProof.Rows.envOfC q (defScope st) s.heap.objs.size f cdv)) → sp vs H Q E →
      WSs (cxOf CX0 P w K mg base N q (defScope st) f cdv A outer s H E).nox (defBody st) { nx := fun _ H' => Q .non H', rt := Q } (start N vs) H) : FnOk P w K mg base CX0 (k + 1) f fd ps sp := F.ok S len (body f)
theorem kW : ¬ (("_width" : Str) = "_rows") := by decide +kernel
def tf (n : Int) (r : Addr) : List (Str × V) := putF "_rows" (.ref r) (putF "_width" (.int n) [])
theorem tf_w (n : Int) (r : Addr) : (tf n r).lookup ("_width" : Str) = some (.int n) := by unfold tf; rw [lookup_putF, if_neg kW, lookup_putF, if_pos rfl]
theorem tf_r (n : Int) (r : Addr) : (tf n r).lookup ("_rows" : Str) = some (.ref r) := by unfold tf; rw [lookup_putF, if_pos rfl]
theorem tf_no (n : Int) (r : Addr) {m : Str} (h1 : ¬ m = "_rows") (h2 : ¬ m = "_width") : (tf n r).lookup m = none := by unfold tf; rw [lookup_putF, if_neg h1, lookup_putF, if_neg h2]; rfl
/-- a table, as B tells -/
structure Tab where
  wd : Int
  rows : List (List Int)
structure Tab.Ok (t : Tab) : Prop where
  lo : 1 ≤ t.wd
  hi : t.wd ≤ 100
  le : ∀ r ∈ t.rows, (r.length : Int) = t.wd
  len : t.rows.length < 1000
structure TAt (K : PySem.W.Frag) (C : Addr) (B : Hp) (v : V) (t : Tab) : Prop where
  ex : ∃ a dx r, v = .ref a ∧ B a = some (.ins C dx (tf t.wd r)) ∧ Dt K B (.ref r) t.rows
  ok : t.Ok
theorem TAt.mono {B B' : Hp} {v : V} {t : Tab} (e : Ex B B') (h : TAt K C B v t) : TAt K C B' v t := by
  obtain ⟨a, dx, r, h1, h2, h3⟩ := h.ex
  exact ⟨⟨a, dx, r, h1, e _ _ h2, h3.mono e⟩, h.ok⟩

abbrev N_in : List Str := ["self", "width", "rows", "index", "cells"]
theorem sc_in : FnScope N_in ["self", "width", "rows"] (defScope s_init) := ⟨rfl, rfl, rfl, by decide +kernel, rfl, by decide +kernel, by decide +kernel⟩
def sp_in (K : PySem.W.Frag) (C : Addr) : Sp := fun vs H Q _ => ∃ (B : Hp) (p dx : Addr) (t : Tab) (rv : V), vs = [.ref p, .int t.wd, rv] ∧ Ex B H ∧ B p = none ∧ H p = some (.ins C dx []) ∧ Dt K B rv t.rows ∧ t.Ok ∧
  ∀ r B' H', Gr (fun a => a = p) B H B' H' → B' p = none → H' p = some (.ins C dx (tf t.wd r)) → Dt K B' (.ref r) t.rows → Q .non H'
theorem c_in (d : FnI K C "Table.__init__" s_init) (T : TC K mg C) (me : mg "enumerate" = none) (ml : mg "len" = none) (mli : mg "list" = none) (e1 : Cal P w K mg base "check_width" 1 ["width"] sp_cw) : CalI P w K mg base C "Table" 2 ["self", "width", "rows"] (sp_in K C) := by
  obtain ⟨f, fd, F, hM⟩ := d
  refine ⟨f, fd, body_ok F sc_in (fun vs H Q E h => by obtain ⟨_, _, _, _, _, rfl, _⟩ := h; rfl) (fun f cdv A outer s H vs Q E hr h => ?_), T.mgC, hM, F.binds fun _ _ _ _ _ _ us hl => match us, hl with | [_, _, _], _ => rfl⟩
  obtain ⟨B, p, dx, t, rv, rfl, kB, hBp, hp, dr, ok, k⟩ := h
  obtain ⟨ra, rvs, rfl, rL, rD⟩ := dt_list dr
  have hlr := rD.len
  refine s_cons (s_expr (h := e_call e1 hr (h := ?_)))
  walk_at "E"
  refine ⟨_, rfl, ok.lo, ?_⟩
  refine s_cons (s_for (h := i_enum me (h := ?_)))
  walk_at "E"
  refine ⟨_, _, rfl, ex_l kB rL, for_it walk_enum (fun i σ H' => Gr M0 B H B H' ∧ ∃ u v, σ = [some (.ref p), some (.int t.wd), some (.ref ra), u, v]) ⟨Gr.refl kB, none, none, rfl⟩ (fun i σ H' _ ⟨g, _⟩ => ex_l g.k rL) ?_ ?_⟩
  · rintro i x σ H' H'' hi ⟨g, u, v, rfl⟩ ⟨T0, x, y, rfl, hT, rfl, hx, hy⟩
    cases hx
    obtain ⟨row, er, dy⟩ := rD.get hy
    obtain ⟨ya, yvs, rfl, yL, yD⟩ := dt_list dy
    have g1 := g.own (o := .tup [.int (i : Nat), .ref ya]) hT
    refine g_tup (SqT.of upd_same) rfl (h := gs_cons (h := g_name 3 sc_in.nd (q := gs_cons (h := g_name 4 sc_in.nd (q := gs_nil ?_)))))
    refine s_one (s_if (t_cmp op_ne (h := e_blt call_len_seq ml PySem.boot_len ?_)))
    walk_at "E"
    refine ⟨_, _, rfl, .inl (ex_l g1.k yL), ?_⟩
    walk_at "E"
    refine ⟨rfl, _, rfl, iff_ ?_ (s_nil ⟨g1, _, _, rfl⟩)⟩
    have e : (row.length : Int) = t.wd := ok.le row (List.mem_of_getElem? er)
    rw [decide_eq_true (by rw [yD.len, e])]
    rfl
  · rintro σ H1 ⟨g, u, v, rfl⟩
    have hp1 := g.h p _ (fun z => z) hp
    refine s_cons (s_fld (h := ?_))
    walk_at "E"
    refine ⟨p, C, dx, _, rfl, hp1, T.cl, T.nW, (by show 0 < 1000; decide), ?_⟩
    have g2 : Gr (fun a => a = p) B H B (upd H1 p (.ins C dx (putF "_width" (.int t.wd) []))) := (g.up).mut (.inl rfl) hBp
    refine s_one (s_fld (h := ?_))
    refine e_lc [("cells", 4)] sc_in.nd (ok := blkOk_by (N := N_in) (sc := defScope s_init) (by decide +kernel)) (h := i_list ?_)
    walk_at "E"
    refine ⟨_, rfl, ⟨_, ex_l g2.k rL⟩, fun D hD => lcL (K := K) (fun r => some r) rL rD g2.k hD (Nat.lt_trans ok.len (by decide)) ?_ ?_⟩
    · intro i y x B' H' hy dx' g' KT KF kt kf s0 H0 C0 cl fp
      refine g_name 4 sc_in.nd (q := ⟨rfl, ?_⟩)
      intro s0 H0 C0 cl fp
      refine ts_nil (ift rfl ?_)
      intro s0 H0 C0 cl fp
      obtain ⟨ya, yvs, rfl, yL, yD⟩ := dt_list dx'
      refine e_ty call_list_of mli (by decide +kernel) ?_
      walk_at "E"
      refine ⟨_, _, rfl, .inl (ex_l g'.k yL), fun l hl => kt y _ (upd B' l (.lst yvs)) _ rfl ((Gr.refl g'.k).new hl) (dtL (SqL.of upd_same) (yD.mono (Ex.new (none_of_ex g'.k hl))))⟩
    · intro B' H' acc g' hB hD' da
      rw [List.filterMap_some] at da
      have hp2 := g'.h p _ (fun z => z) upd_same
      have hBp' := g'.f p hBp (by rw [upd_same]; exact fun z => nomatch z)
      walk_at "E"
      refine ⟨p, C, dx, _, rfl, hp2, T.cl, T.nR, (by show 1 < 1000; decide), ?_⟩
      show Q .non _
      have nDp : D ≠ p := fun e => by rw [e, upd_same] at hD; cases hD
      have hD0 : H D = none := g2.free hD
      have g3 := ((g2.trans g'.up).learn (by exact hD0) hB hD').mut (p := p) (o := .ins C dx (tf t.wd D)) (.inl rfl) (by rw [upd_ne nDp.symm]; exact hBp')
      exact k D _ _ g3 (by rw [upd_ne nDp.symm]; exact hBp') upd_same (dtL (SqL.of upd_same) (da.mono (Ex.new hB)))
end
end K14
namespace K14
open PySem L2 Evl Lw
section
variable {P : Program} {w : World} {K : PySem.W.Frag} {mg : Str → Option Value} {base : Heap} {C : Addr}
/-- Table(width, rows), behind its arguments -/
theorem mk_tab {B H : Hp} {Q : VK} {t : Tab} {rv : V} (kB : Ex B H) (dr : Dt K B rv t.rows) (ok : t.Ok) (q : ∀ v B' H', Gr M0 B H B' H' → TAt K C B' v t → (∃ p, v = .ref p ∧ H p = none) → Q v H') :
    ∀ x dx, H x = none → H dx = none → dx ≠ x → sp_in K C (.ref x :: [.int t.wd, rv]) (upd (upd H dx (.own x)) x (.ins C dx [])) (fun v H2 => v = .non ∧ Q (.ref x) H2) E0 := by
  intro x dx hx hd nd
  have e0 : Ex H (upd (upd H dx (.own x)) x (.ins C dx [])) := (Ex.new hd).mut hx
  refine ⟨B, x, dx, t, rv, rfl, kB.trans e0, none_of_ex kB hx, upd_same, dr, ok, fun r B' H' g hb hp d => ⟨rfl, ?_⟩⟩
  have g1 := g.made hx hd
  exact q _ (upd B' x (.ins C dx (tf t.wd r))) H' (g1.learn hx hb hp) ⟨⟨x, dx, r, rfl, upd_same, d.mono (Ex.new hb)⟩, ok⟩ ⟨x, rfl, hx⟩

theorem mk_tab1 {B H : Hp} {Φ : Hp → Prop} {t : Tab} {rv : V} {x dx : Addr} (kB : Ex B H) (dr : Dt K B rv t.rows) (ok : t.Ok) (hx : H x = none) (hd : H dx = none) (q : ∀ B' H', Gr M0 B H B' H' → TAt K C B' (.ref x) t → Φ H') :
    sp_in K C (.ref x :: [.int t.wd, rv]) (upd (upd H dx (.own x)) x (.ins C dx [])) (fun v H2 => v = .non ∧ Φ H2) E0 := by
  have e0 : Ex H (upd (upd H dx (.own x)) x (.ins C dx [])) := (Ex.new hd).mut hx
  refine ⟨B, x, dx, t, rv, rfl, kB.trans e0, none_of_ex kB hx, upd_same, dr, ok, fun r B' H' g hb hp d => ⟨rfl, ?_⟩⟩
  have g1 := g.made hx hd
  exact q (upd B' x (.ins C dx (tf t.wd r))) H' (g1.learn hx hb hp) ⟨⟨x, dx, r, rfl, upd_same, d.mono (Ex.new hb)⟩, ok⟩
/-! width -/
theorem sc_w : FnScope ["self"] ["self"] (defScope s_width) := ⟨rfl, rfl, rfl, by decide +kernel, rfl, by decide +kernel, by decide +kernel⟩
def sp_w (K : PySem.W.Frag) (C : Addr) : Sp := fun vs H Q _ => ∃ (v : V) (t : Tab), vs = [v] ∧ TAt K C H v t ∧ Q (.int t.wd) H
theorem c_w (d : FnP K C "width" "Table.width" s_width) (T : TC K mg C) : CalP P w K mg base C "width" 1 (sp_w K C) := by
  obtain ⟨p, f, fd, F, hP⟩ := d
  refine ⟨p, f, fd, ["self"], body_ok F sc_w (fun vs H Q E h => by obtain ⟨_, _, rfl, _⟩ := h; rfl) (fun f cdv A outer s H vs Q E hr h => ?_), T.cl, hP, F.binds fun _ _ _ _ _ _ us hl => match us, hl with | [_], _ => rfl⟩
  obtain ⟨v, t, rfl, h, k⟩ := h
  obtain ⟨a, dx, r, rfl, ha, _⟩ := h.ex
  refine s_one (s_ret (e_fld (h := ?_)))
  walk_at "E"
  exact ⟨a, C, dx, _, _, rfl, ha, T.cl, T.nW, tf_w _ _, k⟩
/-! rows -/
abbrev N_rows : List Str := ["self", "cells"]
theorem sc_rows : FnScope N_rows ["self"] (defScope s_rows) := ⟨rfl, rfl, rfl, by decide +kernel, rfl, by decide +kernel, by decide +kernel⟩
def sp_rows (K : PySem.W.Frag) (C : Addr) : Sp := fun vs H Q _ => ∃ (B : Hp) (v : V) (t : Tab), vs = [v] ∧ Ex B H ∧ TAt K C B v t ∧ RetL K B H Q t.rows
theorem c_rows (d : FnP K C "rows" "Table.rows" s_rows) (T : TC K mg C) (mli : mg "list" = none) : CalP P w K mg base C "rows" 1 (sp_rows K C) := by
  obtain ⟨p, f, fd, F, hP⟩ := d
  refine ⟨p, f, fd, ["self"], body_ok F sc_rows (fun vs H Q E h => by obtain ⟨_, _, _, rfl, _⟩ := h; rfl) (fun f cdv A outer s H vs Q E hr h => ?_), T.cl, hP, F.binds fun _ _ _ _ _ _ us hl => match us, hl with | [_], _ => rfl⟩
  obtain ⟨B, v, t, rfl, kB, h, k⟩ := h
  obtain ⟨a, dx, r, rfl, ha, dr⟩ := h.ex
  obtain ⟨ra, rvs, er, rL, rD⟩ := dt_list dr
  cases er
  refine s_one (s_ret (e_lc [("cells", 1)] sc_rows.nd (ok := blkOk_by (N := N_rows) (sc := defScope s_rows) (by decide +kernel)) (h := i_list (e_fld (h := ?_)))))
  walk_at "E"
  refine ⟨a, C, dx, _, _, rfl, kB _ _ ha, T.cl, T.nR, tf_r _ _, _, rfl, ⟨_, ex_l kB rL⟩, fun D hD => lcL (K := K) (fun r => some r) rL rD kB hD (Nat.lt_trans h.ok.len (by decide)) ?_ ?_⟩
  · intro i y x B' H' hy dx' g' KT KF kt kf s0 H0 C0 cl fp
    refine g_name 1 sc_rows.nd (q := ⟨rfl, ?_⟩)
    intro s0 H0 C0 cl fp
    refine ts_nil (ift rfl ?_)
    intro s0 H0 C0 cl fp
    obtain ⟨ya, yvs, rfl, yL, yD⟩ := dt_list dx'
    refine e_ty call_list_of mli (by decide +kernel) ?_
    walk_at "E"
    refine ⟨_, _, rfl, .inl (ex_l g'.k yL), fun l hl => kt y _ (upd B' l (.lst yvs)) _ rfl ((Gr.refl g'.k).new hl) (dtL (SqL.of upd_same) (yD.mono (Ex.new (none_of_ex g'.k hl))))⟩
  · intro B' H' acc g' hB hD' da
    rw [List.filterMap_some] at da
    exact k D B' H' acc g' hB hD hD' da
/-! len -/
theorem sc_tl : FnScope ["self"] ["self"] (defScope s_tlen) := ⟨rfl, rfl, rfl, by decide +kernel, rfl, by decide +kernel, by decide +kernel⟩
def sp_tl (K : PySem.W.Frag) (C : Addr) : Sp := fun vs H Q _ => ∃ (v : V) (t : Tab), vs = [v] ∧ TAt K C H v t ∧ Q (.int t.rows.length) H
theorem c_tl (d : ∃ f fd, Fun K "__len__" "Table.__len__" s_tlen f fd ∧ PySem.W.findIn K (.ref C) "__len__" = some (some (.ref f)) ∧ PySem.W.isFn K (.ref f) = true) (T : TC K mg C) (ml : mg "len" = none) : CalL P w K mg base C 1 ["self"] (sp_tl K C) := by
  obtain ⟨f, fd, F, h1, h2⟩ := d
  refine ⟨f, fd, body_ok F sc_tl (fun vs H Q E h => by obtain ⟨_, _, rfl, _⟩ := h; rfl) (fun f cdv A outer s H vs Q E hr h => ?_), h1, h2, F.binds fun _ _ _ _ _ _ us hl => match us, hl with | [_], _ => rfl⟩
  obtain ⟨v, t, rfl, h, k⟩ := h
  obtain ⟨a, dx, r, rfl, ha, dr⟩ := h.ex
  obtain ⟨ra, rvs, er, rL, rD⟩ := dt_list dr
  cases er
  refine s_one (s_ret (e_blt call_len_seq ml PySem.boot_len (a_cons (h := e_fld (h := ?_)))))
  walk_at "E"
  refine ⟨a, C, dx, _, _, rfl, ha, T.cl, T.nR, tf_r _ _, ?_⟩
  walk_at "E"
  refine ⟨_, _, rfl, .inl rL, ?_⟩
  rw [rD.len]
  exact k
/-! column -/
abbrev N_col : List Str := ["self", "column", "cells"]
theorem sc_col : FnScope N_col ["self", "column"] (defScope s_col) := ⟨rfl, rfl, rfl, by decide +kernel, rfl, by decide +kernel, by decide +kernel⟩
def colOf (rows : List (List Int)) (j : Nat) : List Int := rows.filterMap fun r => r[j]?
def sp_col (K : PySem.W.Frag) (C : Addr) : Sp := fun vs H Q _ => ∃ (B : Hp) (v : V) (t : Tab) (j : Nat), vs = [v, .int (j : Nat)] ∧ Ex B H ∧ TAt K C B v t ∧ (j : Int) < t.wd ∧ RetL K B H Q (colOf t.rows j)
theorem c_col (d : FnM K C "column" "Table.column" s_col) (T : TC K mg C) (e1 : Cal P w K mg base "check_column" 1 ["width", "column"] sp_cr) : CalM P w K mg base C "column" 2 ["self", "column"] (sp_col K C) := by
  obtain ⟨f, fd, F, hM⟩ := d
  refine ⟨f, fd, body_ok F sc_col (fun vs H Q E h => by obtain ⟨_, _, _, _, rfl, _⟩ := h; rfl) (fun f cdv A outer s H vs Q E hr h => ?_), T.cl, hM, F.binds fun _ _ _ _ _ _ us hl => match us, hl with | [_, _], _ => rfl⟩
  obtain ⟨B, v, t, j, rfl, kB, h, hj, k⟩ := h
  obtain ⟨a, dx, r, rfl, ha, dr⟩ := h.ex
  obtain ⟨ra, rvs, er, rL, rD⟩ := dt_list dr
  cases er
  refine s_cons (s_expr (h := e_call e1 hr (h := a_cons (h := e_fld (h := ?_)))))
  walk_at "E"
  refine ⟨a, C, dx, _, _, rfl, kB _ _ ha, T.cl, T.nW, tf_w _ _, ?_⟩
  walk_at "E"
  refine ⟨_, _, rfl, by omega, hj, ?_⟩
  refine s_one (s_ret (e_lc [("cells", 2)] sc_col.nd (ok := blkOk_by (N := N_col) (sc := defScope s_col) (by decide +kernel)) (h := i_list (e_fld (h := ?_)))))
  walk_at "E"
  refine ⟨a, C, dx, _, _, rfl, kB _ _ ha, T.cl, T.nR, tf_r _ _, _, rfl, ⟨_, ex_l kB rL⟩, fun D hD => lcL (K := K) (fun r => r[j]?) rL rD kB hD (Nat.lt_trans h.ok.len (by decide)) ?_ ?_⟩
  · intro i y x B' H' hy dx' g' KT KF kt kf s0 H0 C0 cl fp
    refine g_name 2 sc_col.nd (q := ⟨rfl, ?_⟩)
    intro s0 H0 C0 cl fp
    refine ts_nil (ift rfl ?_)
    intro s0 H0 C0 cl fp
    obtain ⟨ya, yvs, rfl, yL, yD⟩ := dt_list dx'
    have hy1 : (y.length : Int) = t.wd := h.ok.le y (List.mem_of_getElem? hy)
    have hy2 : y[j]? = some (y[j]'(by omega)) := List.getElem?_eq_getElem (by omega)
    obtain ⟨cv, hc1, hc2⟩ := yD.at hy2
    refine e_ixL (h := ?_)
    walk_at "E"
    exact ⟨_, _, _, _, rfl, rfl, ex_l g'.k yL, at_of rfl hc1, kt _ _ B' _ hy2 (Gr.refl g'.k) hc2⟩
  · intro B' H' acc g' hB hD' da
    exact k D B' H' acc g' hB hD hD' da
/-! picked -/
abbrev N_pick : List Str := ["self", "rows", "row"]
theorem sc_pick : FnScope N_pick ["self", "rows"] (defScope s_pick) := ⟨rfl, rfl, rfl, by decide +kernel, rfl, by decide +kernel, by decide +kernel⟩
def pickF (rows : List (List Int)) (i : Int) : Option (List Int) := rows[i.toNat]?
def sp_pick (K : PySem.W.Frag) (C : Addr) : Sp := fun vs H Q _ => ∃ (B : Hp) (v : V) (na : Addr) (t : Tab) (ns : List Int), vs = [v, .ref na] ∧ Ex B H ∧ TAt K C B v t ∧ SqL K H na (ns.map V.int) ∧ (∀ n ∈ ns, 0 ≤ n ∧ n < t.rows.length) ∧ ns.length < 1000 ∧
  ∀ v B' H', Gr M0 B H B' H' → TAt K C B' v ⟨t.wd, ns.filterMap (pickF t.rows)⟩ → Q v H'
theorem c_pick (d : FnM K C "picked" "Table.picked" s_pick) (T : TC K mg C) (ml : mg "len" = none) (e1 : Cal P w K mg base "check_rows" 2 ["number", "rows"] (sp_crs K)) (e2 : CalI P w K mg base C "Table" 2 ["self", "width", "rows"] (sp_in K C)) : CalM P w K mg base C "picked" 4 ["self", "rows"] (sp_pick K C) := by
  obtain ⟨f, fd, F, hM⟩ := d
  refine ⟨f, fd, body_ok F sc_pick (fun vs H Q E h => by obtain ⟨_, _, _, _, _, rfl, _⟩ := h; rfl) (fun f cdv A outer s H vs Q E hr h => ?_), T.cl, hM, F.binds fun _ _ _ _ _ _ us hl => match us, hl with | [_, _], _ => rfl⟩
  obtain ⟨B, v, na, t, ns, rfl, kB, h, nL, hns, hnl, k⟩ := h
  obtain ⟨a, dx, r, rfl, ha, dr⟩ := h.ex
  obtain ⟨ra, rvs, er, rL, rD⟩ := dt_list dr
  cases er
  refine s_cons (s_expr (h := e_call e1 (hr.mono (by decide)) (h := a_cons (h := e_blt call_len_seq ml PySem.boot_len (a_cons (h := e_fld (h := ?_)))))))
  walk_at "E"
  refine ⟨a, C, dx, _, _, rfl, kB _ _ ha, T.cl, T.nR, tf_r _ _, ?_⟩
  walk_at "E"
  refine ⟨_, _, rfl, .inl (ex_l kB rL), ?_⟩
  walk_at "E"
  refine ⟨_, _, ns, rfl, nL, fun q hq => by rw [rD.len]; exact hns q hq, ?_⟩
  refine s_one (s_ret (e_make e2 hr (h := a_cons (h := e_fld (h := ?_)))))
  walk_at "E"
  refine ⟨a, C, dx, _, _, rfl, kB _ _ ha, T.cl, T.nW, tf_w _ _, a_cons (h := ?_)⟩
  refine e_lc [("row", 2)] sc_pick.nd (ok := blkOk_by (N := N_pick) (sc := defScope s_pick) (by decide +kernel)) (h := i_list ?_)
  walk_at "E"
  refine ⟨_, rfl, ⟨_, nL⟩, fun D hD => lcI (K := K) (pickF t.rows) nL kB hD (Nat.lt_trans hnl (by decide)) ?_ ?_⟩
  · intro i y B' H' hy g' KT KF kt kf s0 H0 C0 cl fp
    refine g_name 2 sc_pick.nd (q := ⟨rfl, ?_⟩)
    intro s0 H0 C0 cl fp
    refine ts_nil (ift rfl ?_)
    intro s0 H0 C0 cl fp
    obtain ⟨y0, y1⟩ := hns y (List.mem_of_getElem? hy)
    have hy2 : t.rows[y.toNat]? = some (t.rows[y.toNat]'(by omega)) := List.getElem?_eq_getElem (by omega)
    obtain ⟨cv, hc1, hc2⟩ := rD.at hy2
    refine e_ixL (h := e_fld (h := ?_))
    walk_at "E"
    refine ⟨a, C, dx, _, _, rfl, g'.k _ _ (g'.b _ _ ha), T.cl, T.nR, tf_r _ _, ?_⟩
    walk_at "E"
    exact ⟨_, _, _, _, rfl, rfl, ex_l (g'.b.trans g'.k) rL, at_of (by omega : y = (y.toNat : Int)) hc1, kt _ _ B' _ hy2 (Gr.refl g'.k) (hc2.mono g'.b)⟩
  · intro B' H' acc g' hB hD' da
    have g2 := g'.learn hD hB hD'
    refine a_nil (mk_tab (t := ⟨t.wd, ns.filterMap (pickF t.rows)⟩) g2.k (dtL (SqL.of upd_same) (da.mono (Ex.new hB))) ⟨h.ok.lo, h.ok.hi, fun r hr => ?_, ?_⟩ fun v B2 H2 g3 tv _ => k v B2 H2 (g2.trans g3) tv)
    · obtain ⟨i, _, hi⟩ := List.mem_filterMap.mp hr
      exact h.ok.le r (List.mem_of_getElem? hi)
    · exact Nat.lt_of_le_of_lt (List.length_filterMap_le _ _) hnl
end
end K14
namespace K14
open PySem L2 Evl Lw
section
variable {P : Program} {w : World} {K : PySem.W.Frag} {mg : Str → Option Value} {base : Heap} {C : Addr}
/-! open_filters -/
abbrev N_of : List Str := ["width", "_"]
theorem sc_of : FnScope N_of ["width"] (defScope s_of) := ⟨rfl, rfl, rfl, by decide +kernel, rfl, by decide +kernel, by decide +kernel⟩
def openF (n : Nat) : List Bd := (List.range n).filterMap fun _ => some (none, none)
def sp_of (K : PySem.W.Frag) : Sp := fun vs H Q _ => ∃ (B : Hp) (n : Nat), vs = [.int (n : Nat)] ∧ Ex B H ∧ 1 ≤ n ∧ n ≤ 100 ∧ RetL K B H Q (openF n)
theorem ok_of {k : Nat} {f : Addr} {fd : FuncData} (F : Fun K "open_filters" "open_filters" s_of f fd) (mr : mg "range" = none) (e1 : Cal P w K mg base "check_width" 1 ["width"] sp_cw) : FnOk P w K mg base CX0 2 f fd ["width"] (sp_of K) := by
  refine body_ok F sc_of (fun vs H Q E h => by obtain ⟨_, _, rfl, _⟩ := h; rfl) (fun f cdv A outer s H vs Q E hr h => ?_)
  obtain ⟨B, n, rfl, kB, h0, h1, k⟩ := h
  refine s_cons (s_expr (h := e_call e1 hr (h := ?_)))
  walk_at "E"
  refine ⟨_, rfl, by omega, ?_⟩
  refine s_one (s_ret (e_lc [("_", 1)] sc_of.nd (ok := blkOk_by (N := N_of) (sc := defScope s_of) (by decide +kernel)) (h := i_rng1 mr (h := ?_))))
  walk_at "E"
  refine ⟨_, rfl, by omega, by omega, fun D hD => lcR (K := K) (β := Bd) (fun _ => some (none, none)) kB hD (by rw [Int.toNat_natCast]; exact Nat.lt_of_le_of_lt h1 (by decide)) ?_ ?_⟩
  · intro i B' H' hi g' KT KF kt kf s0 H0 C0 cl fp
    refine g_name 1 sc_of.nd (q := ⟨rfl, ?_⟩)
    intro s0 H0 C0 cl fp
    refine ts_nil (ift rfl ?_)
    intro s0 H0 C0 cl fp
    walk_at "E"
    exact ⟨by show 2 ≤ sizeLine; decide, fun p hp => kt _ _ (upd B' p (.tup [.non, .non])) _ rfl ((Gr.refl g'.k).new hp) (dtP (SqT.of upd_same) dtN dtN)⟩
  · intro B' H' acc g' hB hD' da
    rw [Int.toNat_natCast] at da
    exact k D B' H' acc g' hB hD hD' da
theorem empty_len {α β : Type} : ∀ {l : List α} {m : List β}, l.length = m.length → l.isEmpty = m.isEmpty
  | [], [], _ => rfl
  | _ :: _, _ :: _, _ => rfl
  | [], _ :: _, h => by simp at h
  | _ :: _, [], h => by simp at h
theorem cal_fn {x : Str} {st : Stmt} {ps : List Str} {k : Nat} {sp : Sp} (d : Fn K mg x st) (ok : ∀ f fd, Fun K x x st f fd → FnOk P w K mg base CX0 k f fd ps sp)
    (hb : ∀ (kV doc pm : Value) (an : Option Addr) (cdv ct : Value) (us : List Value), us.length = ps.length → bindArgs (PySem.W.fnOf x x (defArgs st) (defBody st) (defScope st) .none kV doc pm an cdv ct) ⟨us, []⟩ = pure (ps.zip us)) : Cal P w K mg base x k ps sp := by
  obtain ⟨f, fd, F, hm⟩ := d
  exact ⟨f, fd, ok f fd F, hm, F.kp, F.binds hb⟩
theorem calK_fn {x : Str} {st : Stmt} {ps ks : List Str} {k : Nat} {sp : Sp} (g : {α : Type} → List α → List α) (d : Fn K mg x st) (ok : ∀ f fd, Fun K x x st f fd → FnOk P w K mg base CX0 k f fd ps sp)
    (rel : ∀ {vs : List V} {us : List Value}, Vals vs us → Vals (g vs) (g us))
    (hb : ∀ (kV doc pm : Value) (an : Option Addr) (cdv ct : Value) (ws : List Value), ws.length = ks.length → bindArgs (PySem.W.fnOf x x (defArgs st) (defBody st) (defScope st) .none kV doc pm an cdv ct) ⟨[], ks.zip ws⟩ = pure (ps.zip (g ws))) : CalK P w K mg base x k ps ks g sp := by
  obtain ⟨f, fd, F, hm⟩ := d
  refine ⟨f, fd, fun _ ws => g ws, ok f fd F, hm, F.kp, ⟨fun s us ws _ l1 l2 => ?_, fun _ r => rel r⟩⟩
  have e : us = [] := List.length_eq_zero_iff.mp l1
  subst e
  obtain ⟨oc, od, kV, doc, pm, an, cdv, ct, osl, rfl, lk, hcd⟩ := F.ex
  exact BindsTo.of_eq (hb kV doc pm an cdv ct ws l2)
/-! let_rows -/
def letF (fs : List Bd) (p : List Int × Nat) : Option Int := if (barC fs p.1).isEmpty then some (p.2 : Int) else none
def letR (rows : List (List Int)) (fs : List Bd) : List Int := rows.zipIdx.filterMap (letF fs)
abbrev N_lr : List Str := ["table", "filters", "row", "cells"]
theorem sc_lr : FnScope N_lr ["table", "filters"] (defScope s_lr) := ⟨rfl, rfl, rfl, by decide +kernel, rfl, by decide +kernel, by decide +kernel⟩
def sp_lr (K : PySem.W.Frag) (C : Addr) : Sp := fun vs H Q _ => ∃ (B : Hp) (v f : V) (t : Tab) (fs : List Bd), vs = [v, f] ∧ Ex B H ∧ TAt K C B v t ∧ Dt K B f fs ∧ (fs.length : Int) = t.wd ∧ RetL K B H Q (letR t.rows fs)
theorem ok_lr {f : Addr} {fd : FuncData} (F : Fun K "let_rows" "let_rows" s_lr f fd) (me : mg "enumerate" = none) (e0 : Cal P w K mg base "check_filters" 1 ["width", "filters"] (sp_cf K)) (e1 : Cal P w K mg base "_barring_columns" 2 ["filters", "cells"] (sp_bc K))
    (p1 : CalP P w K mg base C "width" 1 (sp_w K C)) (p2 : CalP P w K mg base C "rows" 1 (sp_rows K C)) : FnOk P w K mg base CX0 3 f fd ["table", "filters"] (sp_lr K C) := by
  refine body_ok F sc_lr (fun vs H Q E h => by obtain ⟨_, _, _, _, _, rfl, _⟩ := h; rfl) (fun f cdv A outer s H vs Q E hr h => ?_)
  obtain ⟨B, v, fv, t, fs, rfl, kB, h, df, hf, k⟩ := h
  obtain ⟨a, dx, r, rfl, ha, dr⟩ := h.ex
  obtain ⟨fa, fvs, rfl, fL, fD⟩ := dt_list df
  refine s_cons (s_expr (h := e_call e0 (hr.mono (by decide)) (h := a_cons (h := e_prop p1 hr (h := ?_)))))
  walk_at "E"
  refine ⟨a, dx, _, rfl, kB _ _ ha, _, t, rfl, h.mono kB, ?_⟩
  walk_at "E"
  refine ⟨_, _, _, rfl, ex_l kB fL, by rw [fD.len, hf], ?_⟩
  refine s_one (s_ret (e_lc [("row", 2), ("cells", 3)] sc_lr.nd (ok := blkOk_by (N := N_lr) (sc := defScope s_lr) (by decide +kernel)) (h := i_enum me (h := a_cons (h := e_prop p2 hr (h := ?_))))))
  walk_at "E"
  refine ⟨a, dx, _, rfl, kB _ _ ha, B, _, t, rfl, kB, h, fun D1 B1 H1 acc1 g1 b1 d1 e1' da1 => a_nil ⟨_, _, rfl, SqL.of e1', fun D hD => ?_⟩⟩
  have g2 := g1.learn d1 b1 e1'
  have da2 : Das K (upd B1 D1 (.lst acc1)) acc1 t.rows := da1.mono (Ex.new b1)
  have wk : Walk (Ite K D1) (t.rows.zipIdx).length (fun H => SqL K H D1 acc1) (YPair (fun i => some (.int (i : Nat))) (fun i => acc1[i]?)) := by
    rw [List.length_zipIdx, ← da1.len]
    exact walk_enum
  refine lcF (K := K) (letF fs) wk g2.k hD (by rw [List.length_zipIdx]; exact Nat.lt_trans h.ok.len (by decide)) (fun B' H' g => ex_l (g.b.trans g.k) (SqL.of upd_same)) ?_ (fun B' H' acc g b e da => k D B' H' acc (g2.trans g) b (g2.free hD) e da)
  rintro i ⟨row, j⟩ x B' H' H'' ha' g ⟨T, x, y, rfl, hT, rfl, hx, hy⟩ KT KF kt kf s0 H0 C cl fp
  cases hx
  obtain ⟨ea, rfl⟩ := get_zi ha'
  obtain ⟨row', er, dy⟩ := da2.get hy
  rw [ea] at er
  cases er
  have g3 : Gr M0 B' H' B' (upd H' T (.tup [.int (j : Nat), y])) := (Gr.refl g.k).own hT
  have hw : (row.length : Int) = t.wd := h.ok.le row (List.mem_of_getElem? ea)
  have hhi := h.ok.hi
  refine g_tup (SqT.of upd_same) rfl (h := gs_cons (h := g_name 2 sc_lr.nd (q := gs_cons (h := g_name 3 sc_lr.nd (q := gs_nil ⟨rfl, ?_⟩)))))
  intro s0 H0 C0 cl fp
  refine ts_one (t_not (t_tru (e_call e1 (hr.mono (by decide)) (h := ?_))))
  walk_at "E"
  refine ⟨B', _, _, fs, row, rfl, g3.k, df.mono (g2.b.trans g.b), dy.mono g.b, by omega, by omega, fun D3 B3 H3 acc3 g4 b3 d3 e3 da3 => ⟨_, .inl ⟨acc3, SqL.of e3, rfl⟩, ?_⟩⟩
  have el : acc3.isEmpty = (barC fs row).isEmpty := empty_len da3.len
  rw [el]
  cases ee : (barC fs row).isEmpty with
  | true =>
    refine ift rfl ?_
    intro s0 H0 C0 cl fp
    walk_at "E"
    exact kt (j : Nat) _ B3 _ (by unfold letF; rw [ee]; rfl) (g3.trans g4) (dtI _)
  | false => exact iff_ rfl (kf B3 _ (by unfold letF; rw [ee]; rfl) (g3.trans g4))
/-! barred_by -/
theorem sc_bb : FnScope ["table", "filters", "row"] ["table", "filters", "row"] (defScope s_bb) := ⟨rfl, rfl, rfl, by decide +kernel, rfl, by decide +kernel, by decide +kernel⟩
def sp_bb (K : PySem.W.Frag) (C : Addr) : Sp := fun vs H Q _ => ∃ (B : Hp) (v f : V) (t : Tab) (fs : List Bd) (i : Nat) (row : List Int), vs = [v, f, .int (i : Nat)] ∧ Ex B H ∧ TAt K C B v t ∧ Dt K B f fs ∧ (fs.length : Int) = t.wd ∧ t.rows[i]? = some row ∧ RetL K B H Q (barC fs row)
theorem ok_bb {f : Addr} {fd : FuncData} (F : Fun K "barred_by" "barred_by" s_bb f fd) (ml : mg "len" = none) (e0 : Cal P w K mg base "check_filters" 1 ["width", "filters"] (sp_cf K)) (e1 : Cal P w K mg base "_barring_columns" 2 ["filters", "cells"] (sp_bc K)) (e2 : Cal P w K mg base "check_row" 1 ["number", "row"] sp_cr)
    (p1 : CalP P w K mg base C "width" 1 (sp_w K C)) (p2 : CalP P w K mg base C "rows" 1 (sp_rows K C)) (p3 : CalL P w K mg base C 1 ["self"] (sp_tl K C)) : FnOk P w K mg base CX0 3 f fd ["table", "filters", "row"] (sp_bb K C) := by
  refine body_ok F sc_bb (fun vs H Q E h => by obtain ⟨_, _, _, _, _, _, _, rfl, _⟩ := h; rfl) (fun f cdv A outer s H vs Q E hr h => ?_)
  obtain ⟨B, v, fv, t, fs, i, row, rfl, kB, h, df, hf, hi, k⟩ := h
  obtain ⟨a, dx, r, rfl, ha, dr⟩ := h.ex
  obtain ⟨fa, fvs, rfl, fL, fD⟩ := dt_list df
  have hil : i < t.rows.length := (List.getElem?_eq_some_iff.mp hi).1
  refine s_cons (s_expr (h := e_call e0 (hr.mono (by decide)) (h := a_cons (h := e_prop p1 hr (h := ?_)))))
  walk_at "E"
  refine ⟨a, dx, _, rfl, kB _ _ ha, _, t, rfl, h.mono kB, ?_⟩
  walk_at "E"
  refine ⟨_, _, _, rfl, ex_l kB fL, by rw [fD.len, hf], ?_⟩
  refine s_cons (s_expr (h := e_call e2 (hr.mono (by decide)) (h := a_cons (h := e_blt (call_lenOwn p3 hr) ml PySem.boot_len ?_))))
  walk_at "E"
  refine ⟨a, dx, _, rfl, kB _ _ ha, _, t, rfl, h.mono kB, _, rfl, ⟨by omega, by have := h.ok.len; omega⟩, ?_⟩
  walk_at "E"
  refine ⟨_, _, rfl, by omega, by omega, ?_⟩
  refine s_one (s_ret (e_call e1 (hr.mono (by decide)) (h := ?_)))
  refine a_cons (h := ?_)
  walk_at "nm"
  refine a_cons (h := e_ixL (h := e_prop p2 hr (h := ?_)))
  walk_at "E"
  refine ⟨a, dx, _, rfl, kB _ _ ha, B, _, t, rfl, kB, h, fun D1 B1 H1 acc1 g1 b1 d1 e1' da1 => ?_⟩
  have g2 := g1.learn d1 b1 e1'
  obtain ⟨u, hu1, hu2⟩ := da1.at hi
  walk_at "E"
  refine ⟨_, _, _, u, rfl, rfl, SqL.of e1', at_of rfl hu1, ?_⟩
  walk_at "E"
  have hw : (row.length : Int) = t.wd := h.ok.le row (List.mem_of_getElem? hi)
  have hhi := h.ok.hi
  exact ⟨_, _, _, fs, row, rfl, g2.k, df.mono g2.b, hu2.mono (Ex.new b1), by omega, by omega, fun D3 B3 H3 acc3 g4 b3 d3 e3 da3 => k D3 B3 H3 acc3 (g2.trans g4) b3 (g2.free d3) e3 da3⟩
/-! part -/
theorem sc_part : FnScope ["table", "filters", "rows"] ["table", "filters"] (defScope s_part) := ⟨rfl, rfl, rfl, by decide +kernel, rfl, by decide +kernel, by decide +kernel⟩
/-- the part's tuple, its list the caller's -/
def sp_part (K : PySem.W.Frag) (C : Addr) : Sp := fun vs H Q _ => ∃ (B : Hp) (v f : V) (t : Tab) (fs : List Bd), vs = [v, f] ∧ Ex B H ∧ TAt K C B v t ∧ Dt K B f fs ∧ (fs.length : Int) = t.wd ∧
  ∀ T tv D B' H' acc, Gr M0 B H B' H' → B' D = none → H D = none → H' D = some (.lst acc) → Das K B' acc (letR t.rows fs) → B' T = some (.tup [tv, .ref D]) → TAt K C B' tv ⟨t.wd, (letR t.rows fs).filterMap (pickF t.rows)⟩ → Q (.ref T) H'
theorem letR_mem {rows : List (List Int)} {fs : List Bd} {n : Int} (h : n ∈ letR rows fs) : 0 ≤ n ∧ n < rows.length := by
  obtain ⟨⟨row, j⟩, hm, hj⟩ := List.mem_filterMap.mp h
  obtain ⟨i, hi⟩ := List.getElem?_of_mem hm
  obtain ⟨e, rfl⟩ := get_zi hi
  have := (List.getElem?_eq_some_iff.mp e).1
  unfold letF at hj
  split at hj
  · cases hj
    omega
  · cases hj
theorem letR_len {rows : List (List Int)} {fs : List Bd} : (letR rows fs).length ≤ rows.length := Nat.le_trans (List.length_filterMap_le _ _) (by rw [List.length_zipIdx]; exact Nat.le_refl _)
theorem ok_part {f : Addr} {fd : FuncData} (F : Fun K "part" "part" s_part f fd) (e0 : Cal P w K mg base "let_rows" 3 ["table", "filters"] (sp_lr K C)) (e1 : CalM P w K mg base C "picked" 4 ["self", "rows"] (sp_pick K C)) : FnOk P w K mg base CX0 5 f fd ["table", "filters"] (sp_part K C) := by
  refine body_ok F sc_part (fun vs H Q E h => by obtain ⟨_, _, _, _, _, rfl, _⟩ := h; rfl) (fun f cdv A outer s H vs Q E hr h => ?_)
  obtain ⟨B, v, fv, t, fs, rfl, kB, h, df, hf, k⟩ := h
  obtain ⟨a, dx, r, rfl, ha, dr⟩ := h.ex
  refine s_cons (s_set 2 sc_part.nd (h := e_call e0 (hr.mono (by decide)) (h := ?_)))
  walk_at "E"
  refine ⟨B, _, _, t, fs, rfl, kB, h, df, hf, fun D B1 H1 acc g1 b1 d1 e1' da => ?_⟩
  refine s_one (s_ret (e_tup (a_cons (h := e_meth e1 hr (h := ?_)))))
  walk_at "E"
  refine ⟨a, dx, _, rfl, g1.ex _ _ (kB _ _ ha), tf_no _ _ (by decide +kernel) (by decide +kernel), ?_⟩
  walk_at "E"
  have ea := da.ints
  subst ea
  refine ⟨_, _, _, t, _, rfl, g1.k, h.mono g1.b, SqL.of e1', fun n hn => letR_mem hn, Nat.lt_of_le_of_lt letR_len h.ok.len, fun pv B3 H3 g3 tp => ?_⟩
  walk_at "E"
  refine ⟨by show 2 ≤ sizeLine; decide, fun T hT => ?_⟩
  have eD := g3.ex _ _ e1'
  have nDT : D ≠ T := ne_of_none eD hT
  have g4 := (g1.trans g3).new (o := .tup [pv, .ref D]) hT
  exact k T pv D _ _ _ g4 (by rw [upd_ne nDT]; exact g3.f D b1 (by rw [e1']; exact fun z => nomatch z)) d1 (by rw [upd_ne nDT]; exact eD) das_ints upd_same (tp.mono (Ex.new (none_of_ex g3.k hT)))
end
end K14
namespace K14
open PySem L2 Evl Lw
section
variable {P : Program} {w : World} {K : PySem.W.Frag} {mg : Str → Option Value} {base : Heap} {C : Addr}
/-! _law_deck -/
theorem sc_deck : FnScope ["_law_script", "_law_at", "_law_cell"] ["_law_script", "_law_at"] (defScope s_deck) := ⟨rfl, rfl, rfl, by decide +kernel, rfl, by decide +kernel, by decide +kernel⟩
def sp_deck (K : PySem.W.Frag) : Sp := fun vs H Q _ => ∃ (a : Addr) (ns : List Int) (i : Nat), vs = [.ref a, .int (i : Nat)] ∧ SqL K H a (ns.map V.int) ∧ i ≤ 100 ∧ ∀ p x y z, H p = none → Q (.ref p) (upd H p (dk x y z))
theorem c_deck (d : Fn K mg "_law_deck" s_deck) (ml : mg "len" = none) (mm : mg "max" = none) (ma : mg "abs" = none) (mi : mg "int" = none) : Cal P w K mg base "_law_deck" 1 ["_law_script", "_law_at"] (sp_deck K) := by
  refine cal_of d sc_deck (fun vs H Q E h => by obtain ⟨_, _, _, rfl, _⟩ := h; rfl) (fun _ _ _ _ _ _ us hl => match us, hl with | [_, _], _ => rfl) (fun f cdv A outer s H vs Q E hr h => ?_)
  obtain ⟨a, ns, i, rfl, hL, hi, k⟩ := h
  have fin : ∀ c : Int, WSs (cxOf CX0 P w K mg base ["_law_script", "_law_at", "_law_cell"] "_law_deck" (defScope s_deck) f cdv A outer s H E).nox ((defBody s_deck).drop 2) { nx := fun _ H' => Q .non H', rt := Q } [some (.ref a), some (.int (i : Nat)), some (.int c)] H := by
    intro c
    refine s_one (s_ret (e_lst (a_cons (h := e_blt (call_max2 rfl) mm (by decide +kernel) (a_cons (h := e_int (a_cons (h := e_sub (h := ?_)))))))))
    walk_at "E"
    refine e_pow (h := ?_)
    walk_at "E"
    refine ⟨_, _, rfl, rfl, ⟨by decide, by decide, by decide⟩, ?_⟩
    walk_at "ii"
    walk_at "E"
    refine ⟨_, _, rfl, ?_⟩
    refine a_cons (h := e_add (h := e_bin op_mul (h := e_blt call_abs ma (by decide +kernel) ?_)))
    walk_at "E"
    refine ⟨_, rfl, ?_⟩
    walk_at "E"
    refine ⟨_, _, rfl, rfl, .inr (by decide), ?_⟩
    refine e_ty call_int1 mi (by decide +kernel) (a_cons (h := e_cmp op_lt (h := ?_)))
    walk_at "E"
    walk_at "ii"
    walk_at "E"
    refine .inr ⟨_, rfl, ?_⟩
    walk_at "ii"
    walk_at "E"
    exact ⟨by show 3 ≤ sizeLine; decide, fun p hp => k p _ _ _ hp⟩
  refine s_cons (s_set 2 sc_deck.nd (h := e_add (h := e_bin op_mul (h := ?_))))
  walk_at "E"
  refine ⟨_, _, rfl, rfl, .inl (by decide), ?_⟩
  walk_at "E"
  walk_at "ii"
  refine s_cons (s_if (t_cmp op_lt (h := ?_)))
  walk_at "E"
  refine e_blt call_len_seq ml PySem.boot_len ?_
  walk_at "E"
  refine ⟨_, _, rfl, .inl hL, _, _, rfl, rfl, _, rfl, ifd (fun h => ?_) fun _ => s_nil (fin _)⟩
  rw [List.length_map] at h
  refine s_one (s_set 2 sc_deck.nd (h := e_ixL (h := ?_)))
  walk_at "E"
  have e : ns[i]? = some (ns[i]'(by omega)) := List.getElem?_eq_getElem (by omega)
  exact ⟨_, _, _, _, rfl, rfl, hL, at_of rfl (by rw [List.getElem?_map, e]; rfl), fin _⟩
/-! _law_draw -/
theorem sc_draw : FnScope ["_law_deck_here", "_law_many", "_law_drawn", "_law_mixed"] ["_law_deck_here", "_law_many"] (defScope s_draw) := ⟨rfl, rfl, rfl, by decide +kernel, rfl, by decide +kernel, by decide +kernel⟩
def sp_draw : Sp := fun vs H Q _ => ∃ (d : Addr) (m : Int), vs = [.ref d, .int m] ∧ DeckAt H d ∧ 0 < m ∧ m.natAbs < 2 ^ 250 ∧ ∀ r x y z, 0 ≤ r → r < m → Q (.int r) (upd H d (dk x y z))
theorem c_draw (d : Fn K mg "_law_draw" s_draw) (mi : mg "int" = none) : Cal P w K mg base "_law_draw" 1 ["_law_deck_here", "_law_many"] sp_draw := by
  refine cal_of d sc_draw (fun vs H Q E h => by obtain ⟨_, _, rfl, _⟩ := h; rfl) (fun _ _ _ _ _ _ us hl => match us, hl with | [_, _], _ => rfl) (fun f cdv A outer s H vs Q E hr h => ?_)
  obtain ⟨d, m, rfl, ⟨x, y, z, hd⟩, hm, hm2, k⟩ := h
  have g0 : ∀ {H' : Hp} {x y z : Int} (h : H' d = some (dk x y z)), SqL K H' d [.int x, .int y, .int z] := fun h => SqL.of h
  have cd : CDivW x m := wide_div hm hm2 (by decide) (by decide)
  refine s_cons (s_if (t_cmp op_gt (h := e_ixL (h := ?_))))
  walk_at "E"
  refine ⟨_, _, _, _, rfl, rfl, g0 hd, rfl, ?_⟩
  walk_at "E"
  refine ⟨_, _, rfl, rfl, _, rfl, ifd (fun h => ?_) fun _ => s_nil ?_⟩
  · refine s_cons (s_set 2 sc_draw.nd (h := e_mod (h := e_ty call_int1 mi (by decide +kernel) (a_cons (h := e_ixL (h := ?_))))))
    walk_at "E"
    refine ⟨_, _, _, _, rfl, rfl, g0 hd, rfl, ?_⟩
    walk_at "E"
    refine .inl ⟨_, rfl, ?_⟩
    walk_at "E"
    refine ⟨_, _, rfl, rfl, hm, ?_⟩
    refine s_cons (s_sub (h := e_fdiv (h := e_ixL (h := ?_))))
    walk_at "E"
    refine ⟨_, _, _, _, rfl, rfl, g0 hd, rfl, ?_⟩
    walk_at "E"
    refine ⟨_, _, rfl, rfl, cd, ?_⟩
    walk_at "E"
    refine ⟨_, _, _, 0, rfl, rfl, hd, rfl, ?_⟩
    refine s_one (s_ret ?_)
    walk_at "E"
    exact k _ _ _ _ (Int.emod_nonneg _ (by omega)) (Int.emod_lt_of_pos _ hm)
  · refine s_cons (s_sub (h := e_add (h := e_ixL (h := ?_))))
    walk_at "E"
    refine ⟨_, _, _, _, rfl, rfl, g0 hd, rfl, ?_⟩
    walk_at "E"
    walk_at "ii"
    walk_at "E"
    refine ⟨_, _, _, 2, rfl, rfl, hd, rfl, ?_⟩
    have h2 : (upd H d (.lst ([V.int x, .int y, .int z].set 2 (.int (z + 1))))) d = some (dk x y (z + 1)) := upd_same
    refine s_cons (s_set 3 sc_draw.nd (h := e_mod (h := e_ty call_int1 mi (by decide +kernel) (a_cons (h := e_add (h := e_add (h := e_bin op_mul (h := e_ixL (h := ?_)))))))))
    walk_at "E"
    refine ⟨_, _, _, _, rfl, rfl, g0 h2, rfl, ?_⟩
    walk_at "E"
    refine ⟨_, _, rfl, rfl, .inr (by decide), ?_⟩
    refine e_bin op_mul (h := e_ixL (h := ?_))
    walk_at "E"
    refine ⟨_, _, _, _, rfl, rfl, g0 h2, rfl, ?_⟩
    walk_at "E"
    refine ⟨_, _, rfl, rfl, .inr (by decide), ?_⟩
    walk_at "ii"
    walk_at "E"
    walk_at "ii"
    walk_at "E"
    refine .inl ⟨_, rfl, ?_⟩
    walk_at "E"
    refine ⟨_, _, rfl, rfl, by decide, ?_⟩
    generalize hq : (y * 40503 + (z + 1) * 69069 + 7) % 4294967291 = q1
    have b1 : 0 ≤ q1 ∧ q1 < 4294967291 := by omega
    refine s_cons (s_set 3 sc_draw.nd (h := e_mod (h := e_ty call_int1 mi (by decide +kernel) (a_cons (h := e_add (h := e_add (h := e_bin op_mul (h := ?_))))))))
    walk_at "E"
    refine ⟨_, _, rfl, rfl, .inl (by omega), ?_⟩
    refine e_bin op_mul (h := ?_)
    walk_at "E"
    refine e_ixL (h := ?_)
    walk_at "E"
    refine ⟨_, _, _, _, rfl, rfl, g0 h2, rfl, ?_⟩
    refine ⟨_, _, rfl, rfl, .inl (by decide), ?_⟩
    walk_at "ii"
    refine e_ixL (h := ?_)
    walk_at "E"
    refine ⟨_, _, _, _, rfl, rfl, g0 h2, rfl, ?_⟩
    walk_at "ii"
    walk_at "E"
    refine .inl ⟨_, rfl, ?_⟩
    walk_at "E"
    refine ⟨_, _, rfl, rfl, by decide, ?_⟩
    generalize hq2 : (q1 * q1 + 17 * (z + 1) + y) % 4294967279 = q2
    have b2 : 0 ≤ q2 ∧ q2 < 4294967279 := by
      rw [← hq2]
      exact ⟨Int.emod_nonneg _ (by decide), Int.emod_lt_of_pos _ (by decide)⟩
    refine s_cons (s_set 3 sc_draw.nd (h := e_mod (h := e_ty call_int1 mi (by decide +kernel) (a_cons (h := e_add (h := e_bin op_mul (h := ?_)))))))
    walk_at "E"
    refine e_add (h := ?_)
    walk_at "E"
    refine e_ixL (h := ?_)
    walk_at "E"
    refine ⟨_, _, _, _, rfl, rfl, g0 h2, rfl, ?_⟩
    walk_at "ii"
    refine ⟨_, _, rfl, rfl, .inl (by omega), ?_⟩
    walk_at "E"
    walk_at "ii"
    walk_at "E"
    refine .inl ⟨_, rfl, ?_⟩
    walk_at "E"
    refine ⟨_, _, rfl, rfl, by decide, ?_⟩
    refine s_one (s_ret (e_mod (h := e_ty call_int1 mi (by decide +kernel) (a_cons (h := e_fdiv (h := ?_))))))
    walk_at "E"
    refine ⟨_, _, rfl, rfl, wide_div (b := 10) (by decide) (by decide) (by decide) (by decide), ?_⟩
    walk_at "E"
    refine .inl ⟨_, rfl, ?_⟩
    walk_at "E"
    exact ⟨_, _, rfl, rfl, hm, k _ _ _ _ (Int.emod_nonneg _ (by omega)) (Int.emod_lt_of_pos _ hm)⟩
end
end K14
namespace K14
open PySem L2 Evl Lw
section
variable {P : Program} {w : World} {K : PySem.W.Frag} {mg : Str → Option Value} {base : Heap} {C : Addr}
/-- a draw -/
theorem draw_k {B H : Hp} {d : Addr} {m : Int} {Q : VK} (k : Dk B H d) (hm : 0 < m) (hb : m.natAbs < 2 ^ 250) (q : ∀ r H', 0 ≤ r → r < m → Gr (Md d) B H B H' → Dk B H' d → Q (.int r) H') : sp_draw [.ref d, .int m] H Q E0 :=
  ⟨d, m, rfl, k.at_, hm, hb, fun r x y z h0 h1 =>
    have g := (Gr.refl (M := Md d) k.k).deck (x := x) (y := y) (z := z) k.b
    q r _ h0 h1 g (k.go g ⟨x, y, z, upd_same⟩)⟩
/-! _law_cells -/
theorem sc_cells : FnScope ["_law_deck_here", "_law_kind"] ["_law_deck_here", "_law_kind"] (defScope s_cells) := ⟨rfl, rfl, rfl, by decide +kernel, rfl, by decide +kernel, by decide +kernel⟩
def sp_cells : Sp := fun vs H Q _ => ∃ (B : Hp) (d : Addr) (m : Int), vs = [.ref d, .int m] ∧ Dk B H d ∧ 0 ≤ m ∧ m < 5 ∧ ∀ r H', Gr (Md d) B H B H' → Dk B H' d → Q (.int r) H'
theorem c_cells (d : Fn K mg "_law_cells" s_cells) (e1 : Cal P w K mg base "_law_draw" 1 ["_law_deck_here", "_law_many"] sp_draw) : Cal P w K mg base "_law_cells" 2 ["_law_deck_here", "_law_kind"] sp_cells := by
  refine cal_of d sc_cells (fun vs H Q E h => by obtain ⟨_, _, _, rfl, _⟩ := h; rfl) (fun _ _ _ _ _ _ us hl => match us, hl with | [_, _], _ => rfl) (fun f cdv A outer s H vs Q E hr h => ?_)
  obtain ⟨B, d, m, rfl, dk, h0, h5, k⟩ := h
  refine s_cons (s_if (t_cmp op_lt (h := ?_)))
  walk_at "E"
  refine ⟨_, _, rfl, rfl, _, rfl, ifd (fun h3 => ?_) fun h3 => s_nil ?_⟩
  · refine s_one (s_ret (e_call e1 hr (h := ?_)))
    refine a_cons (h := ?_)
    walk_at "nm"
    refine a_cons (h := e_ixL (h := e_lst ?_))
    walk_at "E"
    refine ⟨by show 3 ≤ sizeLine; decide, fun p hp => ?_⟩
    walk_at "E"
    have g1 : Gr (Md d) B H B (upd H p (.lst [.int 2, .int 3, .int 4])) := (Gr.refl dk.k).own hp
    have fin : ∀ v : Int, 0 < v → v < 10 → ([V.int 2, .int 3, .int 4])[m.toNat]? = some (.int v) → ∃ p' xs i v, V.ref p = .ref p' ∧ V.int m = .int i ∧ SqL K (upd H p (.lst [.int 2, .int 3, .int 4])) p' xs ∧ atI xs i = some v ∧ (WA (cxOf CX0 P w K mg base ["_law_deck_here", "_law_kind"] "_law_cells" (defScope s_cells) f cdv A outer s H E).nox [] (start ["_law_deck_here", "_law_kind"] [.ref d, .int m]) (upd H p (.lst [.int 2, .int 3, .int 4])) fun xs H2 => sp_draw (.ref d :: v :: xs) H2 Q E0) :=
      fun v hv hv2 hx => ⟨p, _, m, _, rfl, rfl, SqL.of upd_same, at_of (by omega : m = (m.toNat : Int)) hx, a_nil (draw_k (dk.own hp) hv (Nat.lt_of_lt_of_le (by omega : v.natAbs < 10) (by decide)) fun r H' _ _ g d' => k r H' (g1.trans g) d')⟩
    have c3 : m = 0 ∨ m = 1 ∨ m = 2 := by omega
    rcases c3 with e | e | e
    · exact fin 2 (by decide) (by decide) (by rw [e]; rfl)
    · exact fin 3 (by decide) (by decide) (by rw [e]; rfl)
    · exact fin 4 (by decide) (by decide) (by rw [e]; rfl)
  · refine s_cons (s_if (t_cmp op_eq (h := ?_)))
    walk_at "E"
    refine ⟨rfl, _, rfl, ifd (fun h4 => ?_) fun h4 => s_nil ?_⟩
    · refine s_one (s_ret (e_sub (h := e_call e1 hr (h := ?_))))
      walk_at "E"
      refine draw_k dk (by decide) (by decide) fun r H' _ _ g d' => ?_
      walk_at "E"
      exact ⟨_, _, rfl, rfl, k _ H' g d'⟩
    · refine s_one (s_ret (e_add (h := e_sub (h := e_call e1 hr (h := ?_)))))
      refine a_cons (h := ?_)
      walk_at "nm"
      refine a_cons (h := e_sub (h := e_bin op_mul (h := ?_)))
      walk_at "E"
      refine e_pow (h := ?_)
      walk_at "E"
      refine ⟨_, _, rfl, rfl, ⟨by decide, by decide, by decide⟩, _, _, rfl, rfl, .inl (by decide), ?_⟩
      walk_at "E"
      walk_at "ii"
      walk_at "E"
      refine draw_k dk (by decide) (by decide) fun r H' _ _ g d' => ?_
      refine e_pow (h := ?_)
      walk_at "E"
      refine ⟨_, _, rfl, rfl, ⟨by decide, by decide, by decide⟩, ?_⟩
      walk_at "ii"
      walk_at "E"
      exact ⟨_, _, rfl, rfl, k _ H' g d'⟩
end
end K14
namespace K14
open PySem L2 Evl Lw
section
variable {P : Program} {w : World} {K : PySem.W.Frag} {mg : Str → Option Value} {base : Heap} {C : Addr}
/-! _law_table -/
abbrev N_tb : List Str := ["_law_deck_here", "_law_most", "_law_width", "_law_columns", "_law_kinds", "_law_rows", "_law_turn", "_law_row", "_law_column", "_law_kind"]
theorem sc_tb : FnScope N_tb ["_law_deck_here", "_law_most", "_law_width"] (defScope s_table) := ⟨rfl, rfl, rfl, by decide +kernel, rfl, by decide +kernel, by decide +kernel⟩
def sp_tb (K : PySem.W.Frag) (C : Addr) : Sp := fun vs H Q _ => ∃ (B : Hp) (d : Addr) (mo wi : Int), vs = [.ref d, .int mo, .int wi] ∧ Dk B H d ∧ 0 ≤ mo ∧ mo ≤ 100 ∧ 1 ≤ wi ∧ wi ≤ 5 ∧
  ∀ v t B' H', Gr (Md d) B H B' H' → Dk B' H' d → TAt K C B' v t → t.wd ≤ 5 → Q v H'
theorem c_tb (d : Fn K mg "_law_table" s_table) (mr : mg "range" = none) (mli : mg "list" = none) (ml : mg "len" = none) (e1 : Cal P w K mg base "_law_draw" 1 ["_law_deck_here", "_law_many"] sp_draw) (e2 : Cal P w K mg base "_law_cells" 2 ["_law_deck_here", "_law_kind"] sp_cells)
    (e3 : CalI P w K mg base C "Table" 2 ["self", "width", "rows"] (sp_in K C)) : Cal P w K mg base "_law_table" 4 ["_law_deck_here", "_law_most", "_law_width"] (sp_tb K C) := by
  refine cal_of d sc_tb (fun vs H Q E h => by obtain ⟨_, _, _, _, rfl, _⟩ := h; rfl) (fun _ _ _ _ _ _ us hl => match us, hl with | [_, _, _], _ => rfl) (fun f cdv A outer s H vs Q E hr h => ?_)
  obtain ⟨B, d, mo, wi, rfl, dk0, hm0, hm1, hw0, hw1, k⟩ := h
  refine s_cons (s_set 3 sc_tb.nd (h := e_add (h := ?_)))
  walk_at "E"
  refine e_call e1 (hr.mono (by decide)) (h := ?_)
  walk_at "E"
  refine draw_k dk0 (by omega) (Nat.lt_of_lt_of_le (by omega : wi.natAbs < 10) (by decide)) fun cr H1 c0 c1 g1 d1 => ?_
  walk_at "ii"
  generalize hc : (1 + cr : Int) = cols
  have hc0 : 1 ≤ cols ∧ cols ≤ 5 := by omega
  -- the kinds
  refine s_cons (s_setLc 4 [("_law_column", 8)] sc_tb.nd (ok := blkOk_by (N := N_tb) (sc := defScope s_table) (by decide +kernel)) (h := i_rng1 mr (h := ?_)))
  walk_at "E"
  refine ⟨_, rfl, by omega, by omega, fun D hD => lcInts walk_range (fun z => 0 ≤ z ∧ z < 5) d1 hD (Nat.lt_of_le_of_lt (by omega : cols.toNat ≤ 5) (by decide)) (fun _ _ _ _ => trivial) ?_ ?_⟩
  · rintro i x B' H' H'' hi g dk' ⟨rfl, rfl⟩ KT KF kt s0 H0 C0 cl fp
    refine g_name 8 sc_tb.nd (q := ⟨rfl, ?_⟩)
    intro s0 H0 C0 cl fp
    refine ts_nil (ift rfl ?_)
    intro s0 H0 C0 cl fp
    refine e_call e1 (hr.mono (by decide)) (h := ?_)
    walk_at "E"
    exact draw_k dk' (by decide) (by decide) fun r H4 r0 r1 g4 d4 => kt r B' H4 g4 d4 ⟨r0, r1⟩
  intro B2 H2 ks g2 d2 b2 eD hkl hkp
  have gA : Gr (Md d) B H (upd B2 D (.lst (ks.map V.int))) H2 := (g1.trans g2).learn (g1.free hD) b2 eD
  have dA : Dk (upd B2 D (.lst (ks.map V.int))) H2 d := dk0.go gA d2.at_
  refine s_cons (s_set 5 sc_tb.nd (h := e_lst (a_nil ?_)))
  refine ⟨Nat.zero_le _, fun ra hra => ?_⟩
  have hra0 : H ra = none := gA.free hra
  have gB := gA.own (o := .lst []) hra
  have dB := dA.own (o := .lst []) hra
  have hdr : d ≠ ra := dA.at_.ne hra
  refine s_cons (s_for (h := i_rng1 mr (h := e_call e1 (hr.mono (by decide)) (h := ?_))))
  walk_at "E"
  refine e_add (h := ?_)
  walk_at "E"
  walk_at "ii"
  walk_at "E"
  refine draw_k dB (by omega) (Nat.lt_of_lt_of_le (by omega : (mo + 1).natAbs < 200) (by decide)) fun n H3 n0 n1 g3 d3 => ⟨n, rfl, by omega, by omega, ?_⟩
  have e3' : H3 ra = some (.lst []) := g3.h _ _ (fun z => hdr z.symm) upd_same
  refine for_it walk_range (fun i σ H' => ∃ B' acc rows u v, σ = [some (.ref d), some (.int mo), some (.int wi), some (.int cols), some (.ref D), some (.ref ra), u, v, none, none] ∧ Gr (Md d) B H B' H' ∧ Dk B' H' d ∧ B' ra = none ∧ H' ra = some (.lst acc) ∧ Das K B' acc (rows : List (List Int)) ∧ (∀ r ∈ rows, (r.length : Int) = cols) ∧ rows.length ≤ i ∧ B' D = some (.lst (ks.map V.int)))
    ⟨_, [], [], none, none, rfl, gB.trans g3, dB.go g3 d3.at_, none_of_ex dA.k hra, e3', Das.nil, (fun r hr => nomatch hr), Nat.le_refl _, upd_same⟩ (fun _ _ _ _ _ => trivial) ?_ ?_
  · rintro i x σ H' H'' hi ⟨B', acc, rows, u, v, rfl, g, dk', hb, he, da, hlen, hle, hk⟩ ⟨rfl, rfl⟩
    have hi1 : i ≤ 100 := by omega
    refine g_name 6 sc_tb.nd (q := ?_)
    refine s_cons (s_setLc 7 [("_law_kind", 9)] sc_tb.nd (ok := blkOk_by (N := N_tb) (sc := defScope s_table) (by decide +kernel)) (h := i_list ?_))
    walk_at "E"
    refine ⟨_, rfl, ⟨_, ex_l dk'.k (SqL.of hk)⟩, fun R hR => lcInts walk_list (fun _ => True) dk' hR (by rw [List.length_map, hkl]; exact Nat.lt_of_le_of_lt (by omega : cols.toNat ≤ 5) (by decide)) (fun B'' H'' g _ => ex_l (g.b.trans g.k) (SqL.of hk)) ?_ ?_⟩
    · rintro j x B'' H4 H5 hj g4 d4 ⟨rfl, hx⟩ KT KF kt s0 H0 C0 cl fp
      obtain ⟨z, hz, rfl⟩ := get_ints hx
      obtain ⟨z0, z1⟩ := hkp z (List.mem_of_getElem? hz)
      refine g_name 9 sc_tb.nd (q := ⟨rfl, ?_⟩)
      intro s0 H0 C0 cl fp
      refine ts_nil (ift rfl ?_)
      intro s0 H0 C0 cl fp
      refine e_call e2 (hr.mono (by decide)) (h := ?_)
      walk_at "E"
      exact ⟨B'', d, z, rfl, d4, z0, z1, fun r H4 g4 d4 => kt r B'' H4 g4 d4 trivial⟩
    intro B3 H3 ns g3 d3 b3 e3 hl _
    have nRr : ra ≠ R := ne_of_none he hR
    have hera : H3 ra = some (.lst acc) := g3.h ra _ (fun z => hdr z.symm) he
    have gC : Gr (Md d) B H (upd B3 R (.lst (ns.map V.int))) H3 := (g.trans g3).learn (g.free hR) b3 e3
    have dC := dk0.go gC d3.at_
    have hbC : (upd B3 R (.lst (ns.map V.int))) ra = none := by
      rw [upd_ne nRr]
      exact g3.f ra hb (by rw [he]; exact fun z => nomatch z)
    have daC : Das K (upd B3 R (.lst (ns.map V.int))) acc rows := da.mono (g3.b.trans (Ex.new b3))
    have hkC : (upd B3 R (.lst (ns.map V.int))) D = some (.lst (ks.map V.int)) := (g3.b.trans (Ex.new b3)) _ _ hk
    rw [List.length_map, hkl] at hl
    -- another row, perhaps
    refine s_cons (s_join (fun σ H5 => ∃ B5 l row, σ = [some (.ref d), some (.int mo), some (.int wi), some (.int cols), some (.ref D), some (.ref ra), some (.int (0 + (i : Nat))), some (.ref l), none, none] ∧ Gr (Md d) B H B5 H5 ∧ Dk B5 H5 d ∧ B5 ra = none ∧ H5 ra = some (.lst acc) ∧ Das K B5 acc rows ∧ B5 D = some (.lst (ks.map V.int)) ∧ Dt K B5 (.ref l) (row : List Int) ∧ (row.length : Int) = cols) (s_if (t_wb (b_and (t_cmp (op_neD hr.units) (h := ?_))))) ?_)
    · walk_at "E"
      refine ⟨Nat.zero_le _, fun p hp => ?_⟩
      have gD := gC.own (o := .lst []) hp
      have npra : ra ≠ p := ne_of_none hera hp
      have heD : (upd H3 p (.lst [])) ra = some (.lst acc) := by rw [upd_ne npra]; exact hera
      have rest : ∀ H5, Gr (Md d) (upd B3 R (.lst (ns.map V.int))) (upd H3 p (.lst [])) (upd B3 R (.lst (ns.map V.int))) H5 → Dk (upd B3 R (.lst (ns.map V.int))) H5 d → ∃ B5 l row, ([some (.ref d), some (.int mo), some (.int wi), some (.int cols), some (.ref D), some (.ref ra), some (.int (0 + (i : Nat))), some (.ref R), none, none] : L2.St) = [some (.ref d), some (.int mo), some (.int wi), some (.int cols), some (.ref D), some (.ref ra), some (.int (0 + (i : Nat))), some (.ref l), none, none] ∧ Gr (Md d) B H B5 H5 ∧ Dk B5 H5 d ∧ B5 ra = none ∧ H5 ra = some (.lst acc) ∧ Das K B5 acc rows ∧ B5 D = some (.lst (ks.map V.int)) ∧ Dt K B5 (.ref l) (row : List Int) ∧ (row.length : Int) = cols :=
        fun H5 g5 d5 => ⟨_, R, ns, rfl, gD.trans g5, d5, hbC, g5.h ra _ (fun z => hdr z.symm) heD, daC, hkC, dtL (SqL.of upd_same) das_ints, by omega⟩
      refine ne_dat (x := rows) (y := []) (dtL (SqL.of heD) (daC.mono gD.k)) (dtL (SqL.of upd_same) Das.nil) (Ex.refl _) (by decide) ⟨_, rfl, ifn (fun hne => ?_) fun _ => ?_⟩
      · refine b_and1 (t_cmp op_eq (h := e_call e1 (hr.mono (by decide)) (h := ?_)))
        walk_at "E"
        refine draw_k (dC.own hp) (by decide) (by decide) fun r H5 _ _ g5 d5 => ?_
        walk_at "E"
        refine ⟨rfl, _, rfl, ifd (fun _ => ?_) fun _ => s_nil (rest H5 g5 d5)⟩
        refine s_one (s_set 7 sc_tb.nd (h := e_ty call_list_of mli (by decide +kernel) (a_cons (h := e_ixL (h := ?_)))))
        walk_at "nm"
        refine e_call e1 (hr.mono (by decide)) (h := a_cons (h := ?_))
        walk_at "nm"
        have he5 : H5 ra = some (.lst acc) := g5.h ra _ (fun z => hdr z.symm) heD
        have hrl : 0 < rows.length := List.length_pos_iff.mpr hne
        refine a_cons (h := e_blt call_len_seq ml PySem.boot_len ?_)
        walk_at "E"
        refine ⟨_, _, rfl, .inl (SqL.of he5), ?_⟩
        walk_at "E"
        rw [da.len]
        refine draw_k d5 (by omega) (Nat.lt_of_lt_of_le (by omega : ((rows.length : Nat) : Int).natAbs < 200) (by decide)) fun q H6 q0 q1 g6 d6 => ?_
        have he6 : H6 ra = some (.lst acc) := g6.h ra _ (fun z => hdr z.symm) he5
        have hq : rows[q.toNat]? = some (rows[q.toNat]'(by omega)) := List.getElem?_eq_getElem (by omega)
        obtain ⟨y, hy1, hy2⟩ := daC.at hq
        refine ⟨_, _, _, y, rfl, rfl, SqL.of he6, at_of (by omega : q = (q.toNat : Int)) hy1, ?_⟩
        walk_at "E"
        obtain ⟨ya, yvs, rfl, yL, yD⟩ := dt_list hy2
        refine ⟨_, _, rfl, .inl (ex_l d6.k yL), fun l hl => ?_⟩
        have gE := ((gD.trans g5).trans g6).new (o := .lst yvs) hl
        have nl : ra ≠ l := ne_of_none he6 hl
        refine ⟨_, l, _, rfl, gE, d6.new hl, by rw [upd_ne nl]; exact hbC, by rw [upd_ne nl]; exact he6, daC.mono (Ex.new (none_of_ex d6.k hl)), (Ex.new (none_of_ex d6.k hl)) _ _ hkC, dtL (SqL.of upd_same) (yD.mono (Ex.new (none_of_ex d6.k hl))), hlen _ (List.mem_of_getElem? hq)⟩
      · exact s_nil (rest _ (Gr.refl gD.k) (dC.own hp))
    · rintro σ H5 ⟨B5, l, row, rfl, g5, d5, hb5, he5, da5, hk5, dl, hrow⟩
      refine s_one (s_expr (h := e_bm PySem.F.plainAttrs_list PySem.F.slot_list_append PySem.F.type_list_append mt_append ?_))
      walk_at "E"
      refine ⟨.inl ⟨rfl, _, SqL.of he5⟩, ?_⟩
      walk_at "E"
      refine ⟨_, _, _, rfl, rfl, he5, Nat.lt_of_le_of_lt (by rw [da5.len]; omega : acc.length ≤ 100) (by decide), ?_⟩
      refine ⟨B5, _, rows ++ [row], _, _, rfl, g5.mut (.inr hra0) hb5, ⟨?_, d5.b, d5.at_.upd hdr⟩, hb5, upd_same, da5.snoc dl, fun r hr => ?_, by rw [List.length_append, List.length_singleton]; omega, hk5⟩
      · exact (g5.mut (o := .lst (acc ++ [.ref l])) (.inr hra0) hb5).k
      · rcases List.mem_append.mp hr with h | h
        · exact hlen r h
        · rw [List.mem_singleton.mp h]; exact hrow
  · rintro σ H5 ⟨B5, acc, rows, u, v, rfl, g5, d5, hb5, he5, da5, hlen, hle, hk5⟩
    refine s_one (s_ret (e_make e3 hr (h := ?_)))
    walk_at "E"
    have g6 := g5.learn hra0 hb5 he5
    refine mk_tab (t := ⟨cols, rows⟩) g6.k (dtL (SqL.of upd_same) (da5.mono (Ex.new hb5))) ⟨hc0.1, (by show cols ≤ 100; omega), hlen, (by show rows.length < 1000; omega)⟩ fun v B7 H7 g7 tv _ => ?_
    exact k v _ B7 H7 (g6.trans g7.up) ((dk0.go g6 d5.at_).gr g7) tv hc0.2
end
end K14
namespace K14
open PySem L2 Evl Lw
section
variable {P : Program} {w : World} {K : PySem.W.Frag} {mg : Str → Option Value} {base : Heap} {C : Addr}
def ifBody (s : Stmt) : List Stmt := match s with | Stmt.If _ b _ _ => b | _ => []
/-! _law_bound -/
def ov : Option Int → V | none => .non | some i => .int i
theorem dt_ov {B : Hp} (o : Option Int) : Dt K B (ov o) o := by cases o <;> first | exact dtN | exact dtS _
theorem sc_bound : FnScope ["_law_deck_here", "_law_cells_here", "_law_kind"] ["_law_deck_here", "_law_cells_here"] (defScope s_bound) := ⟨rfl, rfl, rfl, by decide +kernel, rfl, by decide +kernel, by decide +kernel⟩
def sp_bound (K : PySem.W.Frag) : Sp := fun vs H Q _ => ∃ (B : Hp) (d c : Addr) (ns : List Int), vs = [.ref d, .ref c] ∧ Dk B H d ∧ SqL K B c (ns.map V.int) ∧ ns.length < 1000 ∧
  ∀ o H', Gr (Md d) B H B H' → Dk B H' d → Q (ov o) H'
theorem c_bound (dd : Fn K mg "_law_bound" s_bound) (ml : mg "len" = none) (e1 : Cal P w K mg base "_law_draw" 1 ["_law_deck_here", "_law_many"] sp_draw) : Cal P w K mg base "_law_bound" 2 ["_law_deck_here", "_law_cells_here"] (sp_bound K) := by
  refine cal_of dd sc_bound (fun vs H Q E h => by obtain ⟨_, _, _, _, rfl, _⟩ := h; rfl) (fun _ _ _ _ _ _ us hl => match us, hl with | [_, _], _ => rfl) (fun f cdv A outer s H vs Q E hr h => ?_)
  obtain ⟨B, d, c, ns, rfl, k0, hL, hn, k⟩ := h
  refine s_cons (s_set 2 sc_bound.nd (h := e_call e1 hr (h := ?_)))
  walk_at "E"
  refine draw_k k0 (by decide) (by decide) fun kind H1 c0 c1 g1 d1 => ?_
  refine s_cons (s_if (t_cmp op_lt (h := ?_)))
  walk_at "E"
  refine ⟨_, _, rfl, rfl, _, rfl, ifd (fun _ => ?_) fun _ => s_nil ?_⟩
  · refine s_one (s_ret ?_)
    walk_at "E"
    exact k none _ g1 d1
  -- any number
  have any : ∀ H2, Gr (Md d) B H B H2 → Dk B H2 d → WSs (cxOf CX0 P w K mg base ["_law_deck_here", "_law_cells_here", "_law_kind"] "_law_bound" (defScope s_bound) f cdv A outer s H E).nox
      (ifBody ((defBody s_bound).getD 2 (.Pass ⟨0, 0, 0, 0⟩))) { nx := WSs (cxOf CX0 P w K mg base ["_law_deck_here", "_law_cells_here", "_law_kind"] "_law_bound" (defScope s_bound) f cdv A outer s H E).nox ((defBody s_bound).drop 3) { nx := fun _ H' => Q .non H', rt := Q }, rt := Q } [some (.ref d), some (.ref c), some (.int kind)] H2 := by
    intro H2 g2 d2
    refine s_one (s_ret (e_ixL (h := e_lst (a_cons (h := e_sub (h := e_call e1 hr (h := ?_)))))))
    walk_at "E"
    refine draw_k d2 (by decide) (by decide) fun r H3 _ _ g3 d3 => ?_
    walk_at "E"
    walk_at "ii"
    refine a_cons (h := e_add (h := e_sub (h := e_call e1 hr (h := ?_))))
    refine a_cons (h := ?_)
    walk_at "nm"
    refine a_cons (h := e_sub (h := e_bin op_mul (h := ?_)))
    walk_at "E"
    refine e_pow (h := ?_)
    walk_at "E"
    refine ⟨_, _, rfl, rfl, ⟨by decide, by decide, by decide⟩, _, _, rfl, rfl, .inl (by decide), ?_⟩
    walk_at "E"
    walk_at "ii"
    walk_at "E"
    refine draw_k d3 (by decide) (by decide) fun r2 H4 _ _ g4 d4 => ?_
    refine e_pow (h := ?_)
    walk_at "E"
    refine ⟨_, _, rfl, rfl, ⟨by decide, by decide, by decide⟩, ?_⟩
    walk_at "ii"
    walk_at "E"
    walk_at "ii"
    walk_at "E"
    refine ⟨by show 2 ≤ sizeLine; decide, fun p hp => ?_⟩
    refine e_call e1 hr (h := ?_)
    walk_at "E"
    refine draw_k (d4.own hp) (by decide) (by decide) fun j H5 j0 j1 g5 d5 => ?_
    have np : p ≠ d := (d4.at_.ne hp).symm
    have e5 := g5.h p _ np upd_same
    have gA := (((g2.trans g3).trans g4).own hp).trans g5
    have c2 : j = 0 ∨ j = 1 := by omega
    rcases c2 with e | e
    · exact ⟨p, _, _, _, rfl, rfl, SqL.of e5, at_of (j := 0) e rfl, k (some _) H5 gA d5⟩
    · exact ⟨p, _, _, _, rfl, rfl, SqL.of e5, at_of (j := 1) e rfl, k (some _) H5 gA d5⟩
  have last : ns ≠ [] → ∀ H2, Gr (Md d) B H B H2 → Dk B H2 d → WSs (cxOf CX0 P w K mg base ["_law_deck_here", "_law_cells_here", "_law_kind"] "_law_bound" (defScope s_bound) f cdv A outer s H E).nox ((defBody s_bound).drop 3) { nx := fun _ H' => Q .non H', rt := Q } [some (.ref d), some (.ref c), some (.int kind)] H2 := by
    intro hne H2 g2 d2
    have hl0 : 0 < ns.length := List.length_pos_iff.mpr hne
    refine s_one (s_ret (e_add (h := e_ixL (h := ?_))))
    walk_at "nm"
    refine e_call e1 hr (h := a_cons (h := ?_))
    walk_at "nm"
    refine a_cons (h := e_blt call_len_seq ml PySem.boot_len ?_)
    walk_at "E"
    refine ⟨_, _, rfl, .inl (ex_l d2.k hL), ?_⟩
    walk_at "E"
    rw [List.length_map]
    refine draw_k d2 (by omega) (Nat.lt_of_lt_of_le (by omega : ((ns.length : Nat) : Int).natAbs < 1000) (by decide)) fun q H6 q0 q1 g6 d6 => ?_
    have hq : ns[q.toNat]? = some (ns[q.toNat]'(by omega)) := List.getElem?_eq_getElem (by omega)
    refine ⟨_, _, _, _, rfl, rfl, ex_l d6.k hL, at_of (by omega : q = (q.toNat : Int)) (by rw [List.getElem?_map, hq]; rfl), ?_⟩
    refine e_ixL (h := e_lst ?_)
    walk_at "E"
    refine ⟨_, rfl, ?_⟩
    walk_at "E"
    refine ⟨by show 4 ≤ sizeLine; decide, fun p hp => ?_⟩
    refine e_call e1 hr (h := ?_)
    walk_at "E"
    refine draw_k (d6.own hp) (by decide) (by decide) fun j H7 j0 j1 g7 d7 => ?_
    have np : p ≠ d := (d6.at_.ne hp).symm
    have e7 := g7.h p _ np upd_same
    have gA := ((g2.trans g6).own hp).trans g7
    have c2 : j = 0 ∨ j = 1 ∨ j = 2 ∨ j = 3 := by omega
    rcases c2 with e | e | e | e
    · exact ⟨p, _, _, _, rfl, rfl, SqL.of e7, at_of (j := 0) e rfl, _, _, rfl, rfl, k (some _) H7 gA d7⟩
    · exact ⟨p, _, _, _, rfl, rfl, SqL.of e7, at_of (j := 1) e rfl, _, _, rfl, rfl, k (some _) H7 gA d7⟩
    · exact ⟨p, _, _, _, rfl, rfl, SqL.of e7, at_of (j := 2) e rfl, _, _, rfl, rfl, k (some _) H7 gA d7⟩
    · exact ⟨p, _, _, _, rfl, rfl, SqL.of e7, at_of (j := 3) e rfl, _, _, rfl, rfl, k (some _) H7 gA d7⟩
  refine s_cons (s_if (t_wb (b_or (t_cmp op_eq (h := ?_)))))
  walk_at "E"
  refine ⟨rfl, _, rfl, ifd (fun _ => ift rfl (any _ g1 d1)) fun _ => ?_⟩
  refine b_or1 (t_cmp (op_eqD hr.units) (h := ?_))
  walk_at "E"
  refine ⟨Nat.zero_le _, fun p hp => ?_⟩
  have d2 := d1.own (o := .lst []) hp
  have g2 := g1.own (o := .lst []) hp
  refine eq_dat (x := ns) (y := []) (B := upd H1 p (.lst [])) (dtL (ex_l d2.k hL) das_ints) (dtL (SqL.of upd_same) Das.nil) (Ex.refl _) (by decide) ⟨_, rfl, ifd (fun _ => any _ g2 d2) fun hne => s_nil (last hne _ g2 d2)⟩
end
end K14
namespace K14
open PySem L2 Evl Lw
section
variable {P : Program} {w : World} {K : PySem.W.Frag} {mg : Str → Option Value} {base : Heap} {C : Addr}
/-! _law_filters -/
abbrev N_fi : List Str := ["_law_deck_here", "_law_table_here", "_law_found", "_law_column", "_law_cells_here", "_law_low", "_law_high"]
theorem sc_fi : FnScope N_fi ["_law_deck_here", "_law_table_here"] (defScope s_filters) := ⟨rfl, rfl, rfl, by decide +kernel, rfl, by decide +kernel, by decide +kernel⟩
def sp_fi (K : PySem.W.Frag) (C : Addr) : Sp := fun vs H Q _ => ∃ (B : Hp) (d : Addr) (v : V) (t : Tab), vs = [.ref d, v] ∧ Dk B H d ∧ TAt K C B v t ∧
  ∀ D B' H' acc fs, Gr (Md d) B H B' H' → Dk B' H' d → B' D = none → H D = none → H' D = some (.lst acc) → Das K B' acc (fs : List Bd) → (fs.length : Int) = t.wd → Q (.ref D) H'
theorem col_len {rows : List (List Int)} {j : Nat} : (colOf rows j).length ≤ rows.length := List.length_filterMap_le _ _
theorem c_fi (dd : Fn K mg "_law_filters" s_filters) (mr : mg "range" = none) (e1 : Cal P w K mg base "_law_draw" 1 ["_law_deck_here", "_law_many"] sp_draw) (e2 : Cal P w K mg base "_law_bound" 2 ["_law_deck_here", "_law_cells_here"] (sp_bound K))
    (p1 : CalP P w K mg base C "width" 1 (sp_w K C)) (m1 : CalM P w K mg base C "column" 2 ["self", "column"] (sp_col K C)) : Cal P w K mg base "_law_filters" 3 ["_law_deck_here", "_law_table_here"] (sp_fi K C) := by
  refine cal_of dd sc_fi (fun vs H Q E h => by obtain ⟨_, _, _, _, rfl, _⟩ := h; rfl) (fun _ _ _ _ _ _ us hl => match us, hl with | [_, _], _ => rfl) (fun f cdv A outer s H vs Q E hr h => ?_)
  obtain ⟨B, d, v, t, rfl, k0, ht, k⟩ := h
  obtain ⟨a, dx, r, rfl, ha, dr⟩ := ht.ex
  refine s_cons (s_set 2 sc_fi.nd (h := e_lst (a_nil ⟨Nat.zero_le _, fun F hF => ?_⟩)))
  have g1 := (Gr.refl (M := Md d) k0.k).own (o := .lst []) hF
  have d1 := k0.own (o := .lst []) hF
  have hdF : F ≠ d := (k0.at_.ne hF).symm
  refine s_cons (s_for (h := i_rng1 mr (h := e_prop p1 (hr.mono (by decide)) (h := ?_))))
  walk_at "E"
  have hlo := ht.ok.lo
  have hhi := ht.ok.hi
  refine ⟨a, dx, _, rfl, d1.k _ _ ha, _, t, rfl, ht.mono d1.k, _, rfl, by omega, by omega, ?_⟩
  refine for_it walk_r0 (fun i σ H' => ∃ B' acc fs u1 u2 u3 u4, σ = [some (.ref d), some (.ref a), some (.ref F), u1, u2, u3, u4] ∧ Gr (Md d) B H B' H' ∧ Dk B' H' d ∧ B' F = none ∧ H' F = some (.lst acc) ∧ Das K B' acc (fs : List Bd) ∧ fs.length = i)
    ⟨B, [], [], none, none, none, none, rfl, g1, d1, none_of_ex k0.k hF, upd_same, Das.nil, rfl⟩ (fun _ _ _ _ _ => trivial) ?_ ?_
  · rintro i x σ H' H'' hi ⟨B', acc, fs, u1, u2, u3, u4, rfl, g, dk', hb, he, da, hfl⟩ ⟨rfl, rfl⟩
    refine g_name 3 sc_fi.nd (q := ?_)
    -- the column's cells
    refine s_cons (s_set 4 sc_fi.nd (h := e_meth m1 (hr.mono (by decide)) (h := ?_)))
    walk_at "E"
    refine ⟨a, dx, _, rfl, dk'.k _ _ (g.b _ _ ha), tf_no _ _ (by decide +kernel) (by decide +kernel), ?_⟩
    walk_at "E"
    refine ⟨B', _, t, i, rfl, dk'.k, ht.mono g.b, by omega, fun L B2 H2 acc2 g2 b2 l2 e2' da2 => ?_⟩
    have ea := da2.ints
    subst ea
    have g3 : Gr (Md d) B H (upd B2 L (.lst ((colOf t.rows i).map V.int))) H2 := (g.trans g2.up).learn (g.free l2) b2 e2'
    have d3 : Dk (upd B2 L (.lst ((colOf t.rows i).map V.int))) H2 d := k0.go g3 (dk'.gr g2).at_
    have nFL : F ≠ L := ne_of_none he l2
    have hbF : (upd B2 L (.lst ((colOf t.rows i).map V.int))) F = none := by rw [upd_ne nFL]; exact g2.f F hb (by rw [he]; exact fun z => nomatch z)
    have heF : H2 F = some (.lst acc) := g2.ex _ _ he
    have daF : Das K (upd B2 L (.lst ((colOf t.rows i).map V.int))) acc fs := da.mono (g2.b.trans (Ex.new b2))
    have hL : SqL K (upd B2 L (.lst ((colOf t.rows i).map V.int))) L ((colOf t.rows i).map V.int) := SqL.of upd_same
    have hcl : (colOf t.rows i).length < 1000 := Nat.lt_of_le_of_lt col_len ht.ok.len
    -- both bounds
    refine s_cons (s_par 5 6 sc_fi.nd (h := a_cons (h := e_call e2 (hr.mono (by decide)) (h := ?_))))
    walk_at "E"
    refine ⟨_, d, L, _, rfl, d3, hL, hcl, fun lo H4 g4 d4 => a_cons (h := e_call e2 (hr.mono (by decide)) (h := ?_))⟩
    walk_at "E"
    refine ⟨_, d, L, _, rfl, d4, hL, hcl, fun hi' H5 g5 d5 => ?_⟩
    walk_at "E"
    refine ⟨_, _, rfl, ?_⟩
    have g45 := g4.trans g5
    have heF5 : H5 F = some (.lst acc) := g45.h F _ hdF heF
    -- perhaps exchanged
    refine s_cons (s_join (fun σ H6 => ∃ lo hi, σ = [some (.ref d), some (.ref a), some (.ref F), some (.int (i : Nat)), some (.ref L), some (ov lo), some (ov hi)] ∧ Gr (Md d) (upd B2 L (.lst ((colOf t.rows i).map V.int))) H5 (upd B2 L (.lst ((colOf t.rows i).map V.int))) H6 ∧ Dk (upd B2 L (.lst ((colOf t.rows i).map V.int))) H6 d) (s_if (t_wb (b_and (t_cmp op_notN (h := ?_))))) ?_)
    · have same := (⟨lo, hi', rfl, Gr.refl d5.k, d5⟩ : ∃ lo2 hi2, ([some (.ref d), some (.ref a), some (.ref F), some (.int (i : Nat)), some (.ref L), some (ov lo), some (ov hi')] : L2.St) = [some (.ref d), some (.ref a), some (.ref F), some (.int (i : Nat)), some (.ref L), some (ov lo2), some (ov hi2)] ∧ Gr (Md d) (upd B2 L (.lst ((colOf t.rows i).map V.int))) H5 (upd B2 L (.lst ((colOf t.rows i).map V.int))) H5 ∧ Dk (upd B2 L (.lst ((colOf t.rows i).map V.int))) H5 d)
      walk_at "E"
      cases lo with
      | none => exact ⟨rfl, _, rfl, iff_ rfl (s_nil same)⟩
      | some lo =>
        refine ⟨rfl, _, rfl, ift rfl (b_and (t_cmp op_notN (h := ?_)))⟩
        walk_at "E"
        cases hi' with
        | none => exact ⟨rfl, _, rfl, iff_ rfl (s_nil same)⟩
        | some hi' =>
          refine ⟨rfl, _, rfl, ift rfl (b_and (t_cmp op_gt (h := ?_)))⟩
          walk_at "E"
          refine ⟨_, _, rfl, rfl, _, rfl, ifd (fun _ => ?_) fun _ => s_nil same⟩
          refine b_and1 (t_cmp op_gt (h := e_call e1 (hr.mono (by decide)) (h := ?_)))
          walk_at "E"
          refine draw_k d5 (by decide) (by decide) fun q H6 _ _ g6 d6 => ?_
          walk_at "E"
          refine ⟨_, _, rfl, rfl, _, rfl, ifd (fun _ => ?_) fun _ => s_nil ⟨some lo, some hi', rfl, g6, d6⟩⟩
          refine s_one (s_par 5 6 sc_fi.nd (h := ?_))
          walk_at "E"
          exact ⟨_, _, rfl, some hi', some lo, rfl, g6, d6⟩
    · rintro σ H6 ⟨lo, hi2, rfl, g6, d6⟩
      have heF6 : H6 F = some (.lst acc) := g6.h F _ hdF heF5
      refine s_one (s_expr (h := e_bm PySem.F.plainAttrs_list PySem.F.slot_list_append PySem.F.type_list_append mt_append ?_))
      walk_at "E"
      refine ⟨.inl ⟨rfl, _, SqL.of heF6⟩, ?_⟩
      walk_at "E"
      refine ⟨by show 2 ≤ sizeLine; decide, fun T hT => ?_⟩
      walk_at "E"
      have nFT : F ≠ T := ne_of_none heF6 hT
      have bT := none_of_ex d6.k hT
      refine ⟨F, acc, _, rfl, rfl, by rw [upd_ne nFT]; exact heF6, Nat.lt_of_le_of_lt (by rw [da.len]; omega : acc.length ≤ 100) (by decide), ?_⟩
      have g7 := ((g3.trans g45).trans g6).new (o := .tup [ov lo, ov hi2]) hT
      have hF0 : H F = none := hF
      have hbF7 : (upd (upd B2 L (.lst ((colOf t.rows i).map V.int))) T (.tup [ov lo, ov hi2])) F = none := by rw [upd_ne nFT]; exact hbF
      have g8 := g7.mut (p := F) (o := .lst (acc ++ [.ref T])) (.inr hF0) hbF7
      exact ⟨_, _, fs ++ [(lo, hi2)], _, _, _, _, rfl, g8, ⟨g8.k, (d6.new (o := .tup [ov lo, ov hi2]) hT).b, (d6.new (o := .tup [ov lo, ov hi2]) hT).at_.upd hdF.symm⟩, hbF7, upd_same, (daF.mono (Ex.new bT)).snoc (dtP (SqT.of upd_same) (dt_ov lo) (dt_ov hi2)), by rw [List.length_append, List.length_singleton, hfl]⟩
  · rintro σ H6 ⟨B', acc, fs, u1, u2, u3, u4, rfl, g, dk', hb, he, da, hfl⟩
    refine s_one (s_ret ?_)
    walk_at "E"
    exact k F B' H6 acc fs g dk' hb hF he da (by omega)
end
end K14
namespace K14
open PySem L2 Evl Lw
section
variable {P : Program} {w : World} {K : PySem.W.Frag} {mg : Str → Option Value} {base : Heap} {C : Addr}
/-! the mathematics -/
def letAll (fs : List Bd) (cs : List Int) : Bool := cs.zipIdx.all fun p => lets (fs.getD p.2 (none, none)) p.1
theorem zi_mem {α : Type} {cs : List α} {a : α} {j : Nat} : (a, j) ∈ cs.zipIdx ↔ cs[j]? = some a := by
  constructor
  · intro h
    obtain ⟨i, hi⟩ := List.getElem?_of_mem h
    obtain ⟨e, rfl⟩ := get_zi hi
    exact e
  · intro h
    refine List.mem_of_getElem? (i := j) ?_
    rw [List.getElem?_zipIdx, h]
    simp
theorem letAll_iff {fs : List Bd} {cs : List Int} : letAll fs cs = true ↔ ∀ j c, cs[j]? = some c → lets (fs.getD j (none, none)) c = true := by
  unfold letAll
  rw [List.all_eq_true]
  exact ⟨fun h j c e => h (c, j) (zi_mem.mpr e), fun h ⟨c, j⟩ hm => h j c (zi_mem.mp hm)⟩
theorem barC_empty {fs : List Bd} {cs : List Int} : (barC fs cs).isEmpty = letAll fs cs := by
  rw [Bool.eq_iff_iff, letAll_iff, List.isEmpty_iff]
  unfold barC
  rw [List.filterMap_eq_nil_iff]
  constructor
  · intro h j c e
    have := h (c, j) (zi_mem.mpr e)
    unfold barF at this
    split at this
    · assumption
    · cases this
  · rintro h ⟨c, j⟩ hm
    unfold barF
    rw [if_pos (h j c (zi_mem.mp hm))]
theorem zi_range {α : Type} (cs : List α) (x : α) : cs.zipIdx = (List.range cs.length).map fun i => (cs.getD i x, i) := by
  apply List.ext_getElem?
  intro i
  rw [List.getElem?_zipIdx, List.getElem?_map]
  by_cases h : i < cs.length
  · rw [List.getElem?_range h, List.getElem?_eq_getElem h]
    simp [List.getD_eq_getElem?_getD, List.getElem?_eq_getElem h]
  · rw [List.getElem?_eq_none (by omega), List.getElem?_eq_none (by rw [List.length_range]; omega)]
    rfl
def shF (rows : List (List Int)) (fs : List Bd) (i : Nat) : Option Int := if letAll fs (rows.getD i []) then some (i : Int) else none
theorem shown_eq (rows : List (List Int)) (fs : List Bd) : (List.range rows.length).filterMap (shF rows fs) = letR rows fs := by
  unfold letR
  rw [zi_range rows [], List.filterMap_map]
  congr 1
  funext i
  unfold shF letF
  simp only [Function.comp, barC_empty]
def dueF (fs : List Bd) (cs : List Int) (j : Nat) : Option Int := if letAll [fs.getD j (none, none)] [cs.getD j 0] then none else some (j : Int)
theorem letAll_one (b : Bd) (c : Int) : letAll [b] [c] = lets b c := by
  unfold letAll
  simp
theorem due_eq (fs : List Bd) (cs : List Int) : (List.range cs.length).filterMap (dueF fs cs) = barC fs cs := by
  unfold barC
  rw [zi_range cs 0, List.filterMap_map]
  congr 1
  funext j
  unfold dueF barF
  simp only [Function.comp, letAll_one]
/-! _law_lets -/
abbrev N_ll : List Str := ["_law_filters_here", "_law_cells_here", "_law_k", "_law_low", "_law_high"]
theorem sc_ll : FnScope N_ll ["_law_filters_here", "_law_cells_here"] (defScope s_llets) := ⟨rfl, rfl, rfl, by decide +kernel, rfl, by decide +kernel, by decide +kernel⟩
def sp_ll (K : PySem.W.Frag) : Sp := fun vs H Q _ => ∃ (f c : V) (fs : List Bd) (cs : List Int), vs = [f, c] ∧ Dt K H f fs ∧ Dt K H c cs ∧ cs.length ≤ fs.length ∧ cs.length < 1000 ∧ Q (.bl (letAll fs cs)) H
theorem dt_ov_inv {B : Hp} {v : V} {o : Option Int} (h : Dt K B v o) : v = ov o := by
  cases o with
  | none => exact dt_none h
  | some i => exact dt_some h
theorem c_ll (dd : Fn K mg "_law_lets" s_llets) (mr : mg "range" = none) (ml : mg "len" = none) : Cal P w K mg base "_law_lets" 1 ["_law_filters_here", "_law_cells_here"] (sp_ll K) := by
  refine cal_of dd sc_ll (fun vs H Q E h => by obtain ⟨_, _, _, _, rfl, _⟩ := h; rfl) (fun _ _ _ _ _ _ us hl => match us, hl with | [_, _], _ => rfl) (fun f cdv A outer s H vs Q E hr h => ?_)
  obtain ⟨fv, cv, fs, cs, rfl, df, dc, hl, hz, k⟩ := h
  obtain ⟨fa, fvs, rfl, fL, fD⟩ := dt_list df
  obtain ⟨ca, cvs, rfl, cL, cD⟩ := dt_list dc
  have ec := cD.ints
  subst ec
  refine s_cons (s_for (h := i_rng1 mr (h := e_blt call_len_seq ml PySem.boot_len ?_)))
  walk_at "E"
  refine ⟨_, _, rfl, .inl cL, _, rfl, by rw [List.length_map]; omega, by rw [List.length_map]; omega, ?_⟩
  rw [List.length_map, Int.toNat_natCast]
  refine for_it walk_r0 (fun i σ H' => H' = H ∧ (∃ u v x, σ = [some (.ref fa), some (.ref ca), u, v, x]) ∧ ∀ j c, j < i → cs[j]? = some c → lets (fs.getD j (none, none)) c = true) ⟨rfl, ⟨none, none, none, rfl⟩, fun j c hj => absurd hj (by omega)⟩ (fun _ _ _ _ _ => trivial) ?_ ?_
  · rintro i x σ H' H'' hi ⟨rfl, ⟨u, v, x, rfl⟩, hall⟩ ⟨rfl, rfl⟩
    refine g_name 2 sc_ll.nd (q := ?_)
    have hfi : fs[i]? = some (fs[i]'(by omega)) := List.getElem?_eq_getElem (by omega)
    have hci : cs[i]? = some (cs[i]'hi) := List.getElem?_eq_getElem hi
    obtain ⟨bv, hb1, hb2⟩ := fD.at hfi
    have hc1 : (cs.map V.int)[i]? = some (.int (cs[i]'hi)) := by rw [List.getElem?_map, hci]; rfl
    have ed : fs.getD i (none, none) = fs[i]'(by omega) := by rw [List.getD_eq_getElem?_getD, hfi]; rfl
    generalize hb : fs[i]'(by omega) = b at *
    generalize hcc : cs[i]'hi = c at *
    obtain ⟨ta, y, z, rfl, hT, d1, d2⟩ := dt_pair hb2
    obtain ⟨lo, hi'⟩ := b
    cases dt_ov_inv d1
    cases dt_ov_inv d2
    refine s_cons (s_asg (h := e_ixL (h := ?_)))
    walk_at "E"
    refine ⟨_, _, _, _, rfl, rfl, fL, at_of rfl hb1, ?_⟩
    refine g_tup hT rfl (h := gs_cons (h := g_name 3 sc_ll.nd (q := gs_cons (h := g_name 4 sc_ll.nd (q := gs_nil ?_)))))
    have next : lets (lo, hi') c = true → (H'' = H'' ∧ (∃ u v x, ([some (.ref fa), some (.ref ca), some (.int (i : Nat)), some (ov lo), some (ov hi')] : L2.St) = [some (.ref fa), some (.ref ca), u, v, x]) ∧ ∀ j c, j < i + 1 → cs[j]? = some c → lets (fs.getD j (none, none)) c = true) := by
      intro hlet
      refine ⟨rfl, ⟨_, _, _, rfl⟩, fun j c' hj hc' => ?_⟩
      by_cases e : j = i
      · subst e
        rw [hci] at hc'
        cases hc'
        rw [ed]
        exact hlet
      · exact hall j c' (by omega) hc'
    have bad : lets (lo, hi') c = false → Q (.bl false) H'' := by
      intro hlet
      have e : letAll fs cs = false := by
        cases h : letAll fs cs with
        | false => rfl
        | true =>
          have := letAll_iff.mp h i c hci
          rw [ed, hlet] at this
          cases this
      rw [e] at k
      exact k

    refine s_one (s_if (t_wb (b_or (t_wb (b_and (t_cmp op_notN (h := ?_)))))))
    walk_at "E"
    have hi2 : loOk lo c = true → (hiOk hi' c = lets (lo, hi') c) := fun h => by unfold lets; rw [h, Bool.true_and]
    have lo2 : loOk lo c = false → lets (lo, hi') c = false := fun h => by unfold lets; rw [h, Bool.false_and]
    cases lo with
    | none =>
      refine ⟨rfl, _, rfl, iff_ rfl (iff_ rfl ?_)⟩
      refine b_or1 (t_wb (b_and (t_cmp op_notN (h := ?_))))
      walk_at "E"
      cases hi' with
      | none => exact ⟨rfl, _, rfl, iff_ rfl (iff_ rfl (s_nil (next ((hi2 rfl).symm.trans rfl))))⟩
      | some hi' =>
        refine ⟨rfl, _, rfl, ift rfl (b_and1 (t_cmp op_gt (h := e_ixL (h := ?_))))⟩
        walk_at "E"
        refine ⟨_, _, _, _, rfl, rfl, cL, at_of rfl hc1, ?_⟩
        walk_at "E"
        refine ⟨_, _, rfl, rfl, _, rfl, ifd (fun hc => ?_) fun hc => ?_⟩
        · exact (s_one (s_ret (e_bl (bad ((hi2 rfl).symm.trans (decide_eq_false (by omega)))))))
        · exact (s_nil (next ((hi2 rfl).symm.trans (decide_eq_true (by omega)))))
    | some lo =>
      refine ⟨rfl, _, rfl, ift rfl (b_and1 (t_cmp op_lt (h := e_ixL (h := ?_))))⟩
      walk_at "E"
      refine ⟨_, _, _, _, rfl, rfl, cL, at_of rfl hc1, ?_⟩
      walk_at "E"
      refine ⟨_, _, rfl, rfl, _, rfl, ifd (fun hc => ?_) fun hc => ?_⟩
      · exact ift rfl (s_one (s_ret (e_bl (bad (lo2 (decide_eq_false (by omega)))))))
      · have hlo : loOk (some lo) c = true := decide_eq_true (by omega)
        refine b_or1 (t_wb (b_and (t_cmp op_notN (h := ?_))))
        walk_at "E"
        cases hi' with
        | none => exact ⟨rfl, _, rfl, iff_ rfl (iff_ rfl (s_nil (next ((hi2 hlo).symm.trans rfl))))⟩
        | some hi' =>
          refine ⟨rfl, _, rfl, ift rfl (b_and1 (t_cmp op_gt (h := e_ixL (h := ?_))))⟩
          walk_at "E"
          refine ⟨_, _, _, _, rfl, rfl, cL, at_of rfl hc1, ?_⟩
          walk_at "E"
          refine ⟨_, _, rfl, rfl, _, rfl, ifd (fun hc => ?_) fun hc => ?_⟩
          · exact (s_one (s_ret (e_bl (bad ((hi2 hlo).symm.trans (decide_eq_false (by omega)))))))
          · exact (s_nil (next ((hi2 hlo).symm.trans (decide_eq_true (by omega)))))
  · rintro σ H' ⟨rfl, ⟨u, v, x, rfl⟩, hall⟩
    have e : letAll fs cs = true := letAll_iff.mpr fun j c hc => hall j c (List.getElem?_eq_some_iff.mp hc).1 hc
    refine s_one (s_ret (e_bl ?_))
    rw [e] at k
    exact k
end
end K14
namespace K14
open PySem L2 Evl Lw
section
variable {P : Program} {w : World} {K : PySem.W.Frag} {mg : Str → Option Value} {base : Heap} {C : Addr}
/-- what isinstance asks of the class -/
structure TI (K : PySem.W.Frag) (C : Addr) : Prop where
  ha : PySem.W.findIn K (.ref C) "__class__" = some (some (.builtin "object.__class__"))
  hn : PySem.W.specialIn K (.builtin "object.__class__") "__get__" = some (some (.builtin "getset_descriptor.__get__"))
  htk : PySem.W.takesIn K (.builtin "object.__class__") = some true
  hm : PySem.W.mroIn K C (.type "object") = some true
theorem kit_own {K : PySem.W.Frag} {C : Addr} : PySem.W.kitOne K (.ref C) (.ref C) = some true := by
  unfold PySem.W.kitOne
  rw [if_pos (by simp)]
/-! __eq__ -/
theorem sc_teq : FnScope ["self", "other"] ["self", "other"] (defScope s_teq) := ⟨rfl, rfl, rfl, by decide +kernel, rfl, by decide +kernel, by decide +kernel⟩
def sp_teq (K : PySem.W.Frag) (C : Addr) : Sp := fun vs H Q _ => ∃ (v u : V) (t1 t2 : Tab), vs = [v, u] ∧ TAt K C H v t1 ∧ TAt K C H u t2 ∧ Q (.bl (decide (t1.wd = t2.wd ∧ t1.rows = t2.rows))) H
theorem c_teq (d : ∃ f fd, Fun K "__eq__" "Table.__eq__" s_teq f fd ∧ PySem.W.findIn K (.ref C) "__eq__" = some (some (.ref f)) ∧ PySem.W.isFn K (.ref f) = true)
    (ne : PySem.W.findIn K (.ref C) (cmpInfo .NotEq).2.1 = some (some (.builtin "object.__ne__"))) (T : TC K mg C) (I : TI K C) (mi : mg "isinstance" = none) : CalE P w K mg base C 1 ["self", "other"] (sp_teq K C) := by
  obtain ⟨f, fd, F, h1, h2⟩ := d
  refine ⟨⟨f, fd, body_ok F sc_teq (fun vs H Q E h => by obtain ⟨_, _, _, _, rfl, _⟩ := h; rfl) (fun f cdv A outer s H vs Q E hr h => ?_), h1, h2, F.binds fun _ _ _ _ _ _ us hl => match us, hl with | [_, _], _ => rfl⟩, ne, I.hm⟩
  obtain ⟨v, u, t1, t2, rfl, k1, k2, k⟩ := h
  obtain ⟨a, dx, r, rfl, ha, dr⟩ := k1.ex
  obtain ⟨b, dy, q, rfl, hb, dq⟩ := k2.ex
  refine s_one (s_ret (e_and (e_blt call_isi mi (by decide +kernel) ?_)))
  walk_at "E"
  refine e_glob T.mgC (v := .ref C) rfl (q := ?_)
  walk_at "E"
  refine ⟨_, _, .ref C, .ref C, true, rfl, .own C, .base (.ins hb T.cl I.ha I.hn I.htk I.hm), kit_own, true, rfl, ift rfl (e_and (e_cmp op_eq (h := e_fld (h := ?_))))⟩
  walk_at "E"
  refine ⟨a, C, dx, _, _, rfl, ha, T.cl, T.nW, tf_w _ _, e_fld (h := ?_)⟩
  walk_at "E"
  refine ⟨b, C, dy, _, _, rfl, hb, T.cl, T.nW, tf_w _ _, rfl, _, rfl, ?_⟩
  by_cases hw : t1.wd = t2.wd
  · refine ift (decide_eq_true (by rw [hw])) (e_one (e_cmp (op_eqD hr.units) (h := e_fld (h := ?_))))
    walk_at "E"
    refine ⟨a, C, dx, _, _, rfl, ha, T.cl, T.nR, tf_r _ _, e_fld (h := ?_)⟩
    walk_at "E"
    refine ⟨b, C, dy, _, _, rfl, hb, T.cl, T.nR, tf_r _ _, eq_dat dr dq (Ex.refl H) (by decide) ?_⟩
    have e : decide (t1.rows = t2.rows) = decide (t1.wd = t2.wd ∧ t1.rows = t2.rows) := decide_eq_decide.mpr ⟨fun z => ⟨hw, z⟩, fun z => z.2⟩
    rw [e]
    exact k
  · refine iff_ (decide_eq_false (fun z => hw (V.int.inj z))) ?_
    have e : decide (t1.wd = t2.wd ∧ t1.rows = t2.rows) = false := decide_eq_false (fun z => hw z.1)
    rw [e] at k
    exact k
/-! _law_shown -/
abbrev N_sh : List Str := ["_law_table_here", "_law_filters_here", "_law_rows", "_law_row"]
theorem sc_sh : FnScope N_sh ["_law_table_here", "_law_filters_here"] (defScope s_shown) := ⟨rfl, rfl, rfl, by decide +kernel, rfl, by decide +kernel, by decide +kernel⟩
def sp_sh (K : PySem.W.Frag) (C : Addr) : Sp := fun vs H Q _ => ∃ (B : Hp) (v f : V) (t : Tab) (fs : List Bd), vs = [v, f] ∧ Ex B H ∧ TAt K C B v t ∧ Dt K B f fs ∧ (fs.length : Int) = t.wd ∧ RetL K B H Q (letR t.rows fs)
theorem c_sh (dd : Fn K mg "_law_shown" s_shown) (mr : mg "range" = none) (ml : mg "len" = none) (e1 : Cal P w K mg base "_law_lets" 1 ["_law_filters_here", "_law_cells_here"] (sp_ll K)) (p2 : CalP P w K mg base C "rows" 1 (sp_rows K C)) : Cal P w K mg base "_law_shown" 3 ["_law_table_here", "_law_filters_here"] (sp_sh K C) := by
  refine cal_of dd sc_sh (fun vs H Q E h => by obtain ⟨_, _, _, _, _, rfl, _⟩ := h; rfl) (fun _ _ _ _ _ _ us hl => match us, hl with | [_, _], _ => rfl) (fun f cdv A outer s H vs Q E hr h => ?_)
  obtain ⟨B, v, fv, t, fs, rfl, kB, h, df, hf, k⟩ := h
  obtain ⟨a, dx, r, rfl, ha, dr⟩ := h.ex
  refine s_cons (s_set 2 sc_sh.nd (h := e_prop p2 hr (h := ?_)))
  walk_at "E"
  refine ⟨a, dx, _, rfl, kB _ _ ha, B, _, t, rfl, kB, h, fun R B1 H1 acc1 g1 b1 r1 e1' da1 => ?_⟩
  have g2 := g1.learn r1 b1 e1'
  have da2 : Das K (upd B1 R (.lst acc1)) acc1 t.rows := da1.mono (Ex.new b1)
  refine s_one (s_ret (e_lc [("_law_row", 3)] sc_sh.nd (ok := blkOk_by (N := N_sh) (sc := defScope s_shown) (by decide +kernel)) (h := i_rng1 mr (h := e_blt call_len_seq ml PySem.boot_len ?_))))
  walk_at "E"
  have hlen := h.ok.len
  refine ⟨_, _, rfl, .inl (SqL.of e1'), _, rfl, by omega, by rw [da1.len]; omega, fun D hD => ?_⟩
  rw [da1.len, Int.toNat_natCast]
  refine lcR (K := K) (shF t.rows fs) g2.k hD (Nat.lt_trans hlen (by decide)) ?_ (fun B' H' acc g b e da => k D B' H' acc (g2.trans g) b (g2.free hD) e (by rw [← shown_eq]; exact da))
  intro i B' H' hi g KT KF kt kf s0 H0 C0 cl fp
  have hri : t.rows[i]? = some (t.rows[i]'hi) := List.getElem?_eq_getElem hi
  have hrd : t.rows.getD i [] = t.rows[i]'hi := by rw [List.getD_eq_getElem?_getD, hri]; rfl
  obtain ⟨u, hu1, hu2⟩ := da2.at hri
  have hw : ((t.rows[i]'hi).length : Int) = t.wd := h.ok.le _ (List.mem_of_getElem? hri)
  have hhi := h.ok.hi
  refine g_name 3 sc_sh.nd (q := ⟨rfl, ?_⟩)
  intro s0 H0 C0 cl fp
  refine ts_one (t_val (e_call e1 (hr.mono (by decide)) (h := ?_)))
  refine a_cons (h := ?_)
  walk_at "nm"
  refine a_cons (h := e_ixL (h := ?_))
  walk_at "E"
  refine ⟨_, _, _, _, rfl, rfl, ex_l (g.b.trans g.k) (SqL.of upd_same), at_of rfl hu1, ?_⟩
  walk_at "E"
  refine ⟨_, _, fs, t.rows[i]'hi, rfl, df.mono ((g2.b.trans g.b).trans g.k), hu2.mono (g.b.trans g.k), by omega, by omega, _, rfl, ?_⟩
  cases el : letAll fs (t.rows[i]'hi) with
  | true =>
    refine ift rfl ?_
    intro s0 H0 C0 cl fp
    walk_at "E"
    exact kt (i : Nat) _ B' _ (by unfold shF; rw [hrd, el]; rfl) (Gr.refl g.k) (dtI _)
  | false => exact iff_ rfl (kf B' _ (by unfold shF; rw [hrd, el]; rfl) (Gr.refl g.k))
/-! _law_row_right -/
abbrev N_rr : List Str := ["_law_table_here", "_law_filters_here", "_law_row", "_law_cells_here", "_law_due", "_law_found", "_law_column"]
theorem sc_rr : FnScope N_rr ["_law_table_here", "_law_filters_here", "_law_row"] (defScope s_rr) := ⟨rfl, rfl, rfl, by decide +kernel, rfl, by decide +kernel, by decide +kernel⟩
def sp_rr (K : PySem.W.Frag) (C : Addr) : Sp := fun vs H Q _ => ∃ (B : Hp) (v f : V) (t : Tab) (fs : List Bd) (i : Nat) (row : List Int), vs = [v, f, .int (i : Nat)] ∧ Ex B H ∧ TAt K C B v t ∧ Dt K B f fs ∧ (fs.length : Int) = t.wd ∧ t.rows[i]? = some row ∧
  ∀ B' H', Gr M0 B H B' H' → Q (.bl true) H'
theorem bn_list : bootBuiltins "list" = some (.type "list") := by decide +kernel
theorem c_rr (dd : Fn K mg "_law_row_right" s_rr) (mr : mg "range" = none) (mi : mg "isinstance" = none) (mli : mg "list" = none) (e1 : Cal P w K mg base "_law_lets" 1 ["_law_filters_here", "_law_cells_here"] (sp_ll K))
    (e2 : Cal P w K mg base "barred_by" 3 ["table", "filters", "row"] (sp_bb K C)) (e3 : CalK P w K mg base "barred_by" 3 ["table", "filters", "row"] ["row", "filters", "table"] perm3 (sp_bb K C))
    (p1 : CalP P w K mg base C "width" 1 (sp_w K C)) (p2 : CalP P w K mg base C "rows" 1 (sp_rows K C)) : Cal P w K mg base "_law_row_right" 4 ["_law_table_here", "_law_filters_here", "_law_row"] (sp_rr K C) := by
  refine cal_of dd sc_rr (fun vs H Q E h => by obtain ⟨_, _, _, _, _, _, _, rfl, _⟩ := h; rfl) (fun _ _ _ _ _ _ us hl => match us, hl with | [_, _, _], _ => rfl) (fun f cdv A outer s H vs Q E hr h => ?_)
  obtain ⟨B, v, fv, t, fs, i, row, rfl, kB, h, df, hf, hi, k⟩ := h
  obtain ⟨a, dx, r, rfl, ha, dr⟩ := h.ex
  obtain ⟨fa, fvs, rfl, fL, fD⟩ := dt_list df
  have hw : (row.length : Int) = t.wd := h.ok.le row (List.mem_of_getElem? hi)
  have hlo := h.ok.lo
  have hhi := h.ok.hi
  -- cells
  refine s_cons (s_set 3 sc_rr.nd (h := e_ixL (h := e_prop p2 (hr.mono (by decide)) (h := ?_))))
  walk_at "E"
  refine ⟨a, dx, _, rfl, kB _ _ ha, B, _, t, rfl, kB, h, fun R B1 H1 acc1 g1 b1 r1 e1' da1 => ?_⟩
  have g2 := g1.learn r1 b1 e1'
  have da2 : Das K (upd B1 R (.lst acc1)) acc1 t.rows := da1.mono (Ex.new b1)
  obtain ⟨u, hu1, hu2⟩ := da2.at hi
  walk_at "E"
  refine ⟨_, _, _, _, rfl, rfl, SqL.of e1', at_of rfl hu1, ?_⟩
  obtain ⟨ua, uvs, rfl, uL, uD⟩ := dt_list hu2
  -- due
  refine s_cons (s_setLc 4 [("_law_column", 6)] sc_rr.nd (ok := blkOk_by (N := N_rr) (sc := defScope s_rr) (by decide +kernel)) (h := i_rng1 mr (h := e_prop p1 (hr.mono (by decide)) (h := ?_))))
  walk_at "E"
  refine ⟨a, dx, _, rfl, g2.k _ _ (g2.b _ _ ha), _, t, rfl, (h.mono g2.b).mono g2.k, _, rfl, by omega, by omega, fun D hD => ?_⟩
  have hwn : t.wd.toNat = row.length := by omega
  rw [hwn]
  refine lcR (K := K) (dueF fs row) g2.k hD (Nat.lt_of_le_of_lt (by omega : row.length ≤ 100) (by decide)) ?_ ?_
  · intro j B' H' hj g KT KF kt kf s0 H0 C0 cl fp
    have hfj : fs[j]? = some (fs[j]'(by omega)) := List.getElem?_eq_getElem (by omega)
    have hcj : row[j]? = some (row[j]'hj) := List.getElem?_eq_getElem hj
    obtain ⟨bv, hb1, hb2⟩ := fD.at hfj
    obtain ⟨cv, hc1, hc2⟩ := uD.at hcj
    cases dt_int hc2
    have ed1 : fs.getD j (none, none) = fs[j]'(by omega) := by rw [List.getD_eq_getElem?_getD, hfj]; rfl
    have ed2 : row.getD j 0 = row[j]'hj := by rw [List.getD_eq_getElem?_getD, hcj]; rfl
    refine g_name 6 sc_rr.nd (q := ⟨rfl, ?_⟩)
    intro s0 H0 C0 cl fp
    refine ts_one (t_not (t_val (e_call e1 (hr.mono (by decide)) (h := a_cons (h := e_lst (a_cons (h := e_ixL (h := ?_))))))))
    walk_at "E"
    refine ⟨_, _, _, _, rfl, rfl, ex_l ((g2.b.trans g.b).trans g.k) fL, at_of rfl hb1, ?_⟩
    walk_at "E"
    refine ⟨by show 1 ≤ sizeLine; decide, fun p hp => ?_⟩
    have g3 : Gr M0 B' H' B' (upd H' p (.lst [bv])) := (Gr.refl g.k).own hp
    refine a_cons (h := e_lst (a_cons (h := e_ixL (h := ?_))))
    walk_at "E"
    refine ⟨_, _, _, _, rfl, rfl, ex_l (g.b.trans g3.k) uL, at_of rfl hc1, ?_⟩
    walk_at "E"
    refine ⟨by show 1 ≤ sizeLine; decide, fun q hq => ?_⟩
    have g4 : Gr M0 B' H' B' (upd (upd H' p (.lst [bv])) q (.lst [.int (row[j]'hj)])) := g3.own hq
    have npq : p ≠ q := fun z => by rw [← z, upd_same] at hq; cases hq
    walk_at "E"
    refine ⟨_, _, [fs[j]'(by omega)], [row[j]'hj], rfl, dtL (SqL.of (by rw [upd_ne npq, upd_same])) (.cons (hb2.mono ((g2.b.trans g.b).trans g4.k)) .nil), dtL (SqL.of upd_same) (.cons (dtI _) .nil), Nat.le_refl _, (by show 1 < 1000; decide), _, rfl, ?_⟩
    cases el : letAll [fs[j]'(by omega)] [row[j]'hj] with
    | true => exact iff_ rfl (kf B' _ (by unfold dueF; rw [ed1, ed2, el]; rfl) g4)
    | false =>
      refine ift rfl ?_
      intro s0 H0 C0 cl fp
      walk_at "E"
      exact kt (j : Nat) _ B' _ (by unfold dueF; rw [ed1, ed2, el]; rfl) g4 (dtI _)
  intro B3 H3 acc3 g3 b3 e3' da3
  rw [due_eq] at da3
  have gD := (g2.trans g3).learn (g2.free hD) b3 e3'
  have dD : Dt K (upd B3 D (.lst acc3)) (.ref D) (barC fs row) := dtL (SqL.of upd_same) (da3.mono (Ex.new b3))
  -- found
  refine s_cons (s_set 5 sc_rr.nd (h := e_call e2 (hr.mono (by decide)) (h := ?_)))
  refine a_cons (h := ?_)
  walk_at "nm"
  refine a_cons (h := e_ty call_list_of mli bn_list ?_)
  walk_at "E"
  refine ⟨_, _, rfl, .inl (ex_l (gD.b.trans gD.k) fL), fun l hl => ?_⟩
  walk_at "E"
  have gL := gD.new (o := .lst fvs) hl
  have dl : Dt K (upd (upd B3 D (.lst acc3)) l (.lst fvs)) (.ref l) fs := dtL (SqL.of upd_same) (fD.mono gL.b)
  refine ⟨_, _, _, t, fs, i, row, rfl, gL.k, h.mono gL.b, dl, hf, hi, fun F B5 H5 acc5 g5 b5 f5 e5 da5 => ?_⟩
  have dD5 := dD.mono ((Ex.new (none_of_ex gD.k hl)).trans g5.b)
  refine s_cons (s_if (t_wb (b_or (t_cmp (op_neD hr.units) (h := ?_)))))
  walk_at "E"
  refine ne_dat (B := H5) (dtL (SqL.of e5) (da5.mono g5.k)) (dD5.mono g5.k) (Ex.refl _) (by decide) ⟨_, rfl, ifn (fun z => absurd rfl z) fun _ => ?_⟩
  refine b_or1 (t_not (t_val (e_blt call_isi mi (by decide +kernel) ?_)))
  walk_at "E"
  refine e_bltn mli bn_list (v := .ty "list") rfl (q := ?_)
  walk_at "E"
  refine ⟨_, _, .type "list", .type "list", true, rfl, .ty _, .base (.lst e5), kit_ty (by decide +kernel), true, rfl, iff_ rfl (s_nil ?_)⟩
  -- found.append(9)
  refine s_cons (s_expr (h := e_bm PySem.F.plainAttrs_list PySem.F.slot_list_append PySem.F.type_list_append mt_append ?_))
  walk_at "E"
  refine ⟨.inl ⟨rfl, _, SqL.of e5⟩, ?_⟩
  walk_at "E"
  have hbl : (barC fs row).length ≤ row.length := Nat.le_trans (List.length_filterMap_le _ _) (by rw [List.length_zipIdx]; exact Nat.le_refl _)
  refine ⟨_, _, _, rfl, rfl, e5, Nat.lt_of_le_of_lt (by rw [da5.len]; omega : acc5.length ≤ 100) (by decide), ?_⟩
  have hf0 : H F = none := gL.free f5
  have g6 := (gL.trans g5).mut (o := .lst (acc5 ++ [.int 9])) (.inr hf0) b5
  -- by name
  refine s_one (s_ret (e_cmp (op_eqD hr.units) (h := e_callK e3 (hr.mono (by decide)) (h := ?_))))
  refine k_cons ?_
  walk_at "nm"
  refine k_cons (e_ty call_list_of mli bn_list ?_)
  walk_at "E"
  refine ⟨_, _, rfl, .inl (ex_l (g6.b.trans g6.k) fL), fun l2 hl2 => ?_⟩
  walk_at "E"
  have gM := g6.new (o := .lst fvs) hl2
  have dl2 : Dt K (upd B5 l2 (.lst fvs)) (.ref l2) fs := dtL (SqL.of upd_same) (fD.mono gM.b)
  refine ⟨rfl, rfl, _, _, _, t, fs, i, row, rfl, gM.k, h.mono gM.b, dl2, hf, hi, fun F2 B7 H7 acc7 g7 b7 f7 e7 da7 => ?_⟩
  walk_at "E"
  have dD7 := dD5.mono ((Ex.new (none_of_ex g6.k hl2)).trans g7.b)
  refine eq_dat (B := H7) (dtL (SqL.of e7) (da7.mono g7.k)) (dD7.mono g7.k) (Ex.refl _) (by decide) ?_
  rw [decide_eq_true rfl]
  exact k _ _ (gM.trans g7)
end
end K14
namespace K14
open PySem L2 Evl Lw
section
variable {P : Program} {w : World} {K : PySem.W.Frag} {mg : Str → Option Value} {base : Heap} {C : Addr}
theorem given_lr {B H : Hp} {Q : VK} {E : XK} {a G : Addr} {gvs : List V} {t : Tab} {fs : List Bd} (k : Ex B H) (bG : B G = none) (eG : H G = some (.lst gvs)) (fD : Das K B gvs fs) (hf : (fs.length : Int) = t.wd) (hT : TAt K C B (.ref a) t)
    (q : ∀ D H', Gr M0 B H B H' → B D = none → H D = none → H' D = some (.lst ((letR t.rows fs).map V.int)) → Q (.ref D) H') : sp_lr K C [.ref a, .ref G] H Q E :=
  ⟨upd B G (.lst gvs), _, _, t, fs, rfl, ex_put k eG, hT.mono (Ex.new bG), dtL (SqL.of upd_same) (fD.mono (Ex.new bG)), hf, fun D B' H' acc g b h0 e da => by
    have ea := da.ints
    subst ea
    exact q D H' (g.base (Ex.new bG)) (none_of_ex k h0) h0 e⟩
theorem given_part {B H : Hp} {Q : VK} {E : XK} {a G : Addr} {gvs : List V} {t : Tab} {fs : List Bd} (k : Ex B H) (bG : B G = none) (eG : H G = some (.lst gvs)) (fD : Das K B gvs fs) (hf : (fs.length : Int) = t.wd) (hT : TAt K C B (.ref a) t)
    (q : ∀ T tv D B' H', Gr M0 (upd B G (.lst gvs)) H B' H' → B' D = none → H D = none → H' D = some (.lst ((letR t.rows fs).map V.int)) → B' T = some (.tup [tv, .ref D]) → TAt K C B' tv ⟨t.wd, (letR t.rows fs).filterMap (pickF t.rows)⟩ → Q (.ref T) H') : sp_part K C [.ref a, .ref G] H Q E :=
  ⟨upd B G (.lst gvs), _, _, t, fs, rfl, ex_put k eG, hT.mono (Ex.new bG), dtL (SqL.of upd_same) (fD.mono (Ex.new bG)), hf, fun T tv D B' H' acc g b h0 e da eT tT => by
    have ea := da.ints
    subst ea
    exact q T tv D B' H' g b h0 e eT tT⟩
theorem fm_congr {α β : Type} {f g : α → Option β} : ∀ {l : List α}, (∀ a ∈ l, f a = g a) → l.filterMap f = l.filterMap g
  | [], _ => rfl
  | a :: l, h => by
    have h1 := h a (List.mem_cons_self ..)
    have h2 := fm_congr (l := l) fun b hb => h b (List.mem_cons_of_mem _ hb)
    rw [List.filterMap_cons, List.filterMap_cons, h1, h2]
theorem lets_open {c : Int} : lets (none, none) c = true := rfl
theorem openF_eq (n : Nat) : openF n = List.replicate n (none, none) := by
  unfold openF
  rw [List.filterMap_eq_map', List.map_const', List.length_range]
theorem letR_open {rows : List (List Int)} {n : Nat} (h : ∀ r ∈ rows, r.length = n) : letR rows (openF n) = (List.range rows.length).map fun (i : Nat) => (i : Int) := by
  rw [← shown_eq]
  have e : ∀ i ∈ List.range rows.length, shF rows (openF n) i = some (i : Int) := by
    intro i hi
    have hi := List.mem_range.mp hi
    have hr : rows[i]? = some (rows[i]'hi) := List.getElem?_eq_getElem hi
    unfold shF
    rw [if_pos]
    rw [letAll_iff]
    intro j c hc
    rw [openF_eq, List.getD_eq_getElem?_getD, List.getElem?_replicate]
    split <;> rfl
  rw [← List.filterMap_eq_map']
  exact fm_congr e
theorem rg_ints (n : Nat) : rgV 0 n = ((List.range n).map fun (i : Nat) => (i : Int)).map V.int := by
  unfold rgV
  rw [List.map_map]
  have e : ((n : Int) - 0).toNat = n := by omega
  rw [e]
  congr 1
  funext i
  show V.int (0 + (i : Nat)) = V.int (i : Nat)
  rw [Int.zero_add]
theorem das_rep {B : Hp} {v : V} {b : Bd} (h : Dt K B v b) : ∀ n, Das K B (List.replicate n v) (List.replicate n b)
  | 0 => .nil
  | n + 1 => .cons h (das_rep h n)
theorem flat_one {α : Type} (x : α) : ∀ n, (List.replicate n [x]).flatten = List.replicate n x
  | 0 => rfl
  | n + 1 => by rw [List.replicate_succ, List.flatten_cons, flat_one x n]; rfl
end
end K14
namespace K14
open PySem L2 Evl Lw
abbrev N_ri : List Str := ["_law_deck_here", "_law_table_here", "_law_filters_here", "_law_due", "_law_given", "_law_rows", "_law_found", "_law_told", "_law_row", "_law_first"]
theorem sc_ri : FnScope N_ri ["_law_deck_here"] (defScope s_right) := ⟨rfl, rfl, rfl, by decide +kernel, rfl, by decide +kernel, by decide +kernel⟩
/-- behind the third statement -/
structure Rt (K : PySem.W.Frag) (C : Addr) (B H : Hp) (a F DU R G : Addr) (fvs : List V) (t : Tab) (fs : List Bd) : Prop where
  k : Ex B H
  hT : TAt K C B (.ref a) t
  fL : SqL K B F fvs
  fD : Das K B fvs fs
  hf : (fs.length : Int) = t.wd
  dU : Dt K B (.ref DU) (letR t.rows fs)
  dR : Dt K B (.ref R) t.rows
  bG : B G = none
  eG : H G = some (.lst fvs)
theorem Rt.go {K : PySem.W.Frag} {C : Addr} {B H H' : Hp} {a F DU R G : Addr} {fvs : List V} {t : Tab} {fs : List Bd} (r : Rt K C B H a F DU R G fvs t fs) (g : Gr M0 B H B H') : Rt K C B H' a F DU R G fvs t fs :=
  ⟨g.k, r.hT, r.fL, r.fD, r.hf, r.dU, r.dR, r.bG, g.ex _ _ r.eG⟩
section
variable {P : Program} {w : World} {K : PySem.W.Frag} {mg : Str → Option Value} {base : Heap} {C : Addr}
/-- what the last def calls -/
structure RC (P : Program) (w : World) (K : PySem.W.Frag) (mg : Str → Option Value) (base : Heap) (C : Addr) : Prop where
  T : TC K mg C
  mr : mg "range" = none
  ml : mg "len" = none
  mli : mg "list" = none
  mi : mg "isinstance" = none
  mtu : mg "tuple" = none
  mmin : mg "min" = none
  mint : mg "int" = none
  p1 : CalP P w K mg base C "width" 1 (sp_w K C)
  p2 : CalP P w K mg base C "rows" 1 (sp_rows K C)
  eq : CalE P w K mg base C 1 ["self", "other"] (sp_teq K C)
  mkT : CalI P w K mg base C "Table" 2 ["self", "width", "rows"] (sp_in K C)
  dr : Cal P w K mg base "_law_draw" 1 ["_law_deck_here", "_law_many"] sp_draw
  tb : Cal P w K mg base "_law_table" 4 ["_law_deck_here", "_law_most", "_law_width"] (sp_tb K C)
  fi : Cal P w K mg base "_law_filters" 3 ["_law_deck_here", "_law_table_here"] (sp_fi K C)
  sh : Cal P w K mg base "_law_shown" 3 ["_law_table_here", "_law_filters_here"] (sp_sh K C)
  rr : Cal P w K mg base "_law_row_right" 4 ["_law_table_here", "_law_filters_here", "_law_row"] (sp_rr K C)
  lr : Cal P w K mg base "let_rows" 3 ["table", "filters"] (sp_lr K C)
  lrK : CalK P w K mg base "let_rows" 3 ["table", "filters"] ["filters", "table"] perm2 (sp_lr K C)
  pt : Cal P w K mg base "part" 5 ["table", "filters"] (sp_part K C)
  ptK : CalK P w K mg base "part" 5 ["table", "filters"] ["filters", "table"] perm2 (sp_part K C)
  op : Cal P w K mg base "open_filters" 2 ["width"] (sp_of K)
  opK : CalK P w K mg base "open_filters" 2 ["width"] ["width"] (fun l => l) (sp_of K)
variable {f : Addr} {cdv : Value} {A : Around} {outer : List Env} {s : Shared} {He : Hp} {E : XK}
abbrev XR (P : Program) (w : World) (K : PySem.W.Frag) (mg : Str → Option Value) (base : Heap) (f : Addr) (cdv : Value) (A : Around) (outer : List Env) (s : Shared) (He : Hp) (E : XK) : Cx := (cxOf CX0 P w K mg base N_ri "_law_right" (defScope s_right) f cdv A outer s He E).nox
theorem right3 (S : RC P w K mg base C) (hr : Room 6 (A.deeper (PyProof.Rows.envOfC "_law_right" (defScope s_right) s.heap.objs.size f cdv))) {B H : Hp} {d a F DU R G : Addr} {fvs : List V} {t : Tab} {fs : List Bd} {u6 u7 u8 u9 : Option V} {D : Ends}
    (r : Rt K C B H a F DU R G fvs t fs) (q : ∀ H', Gr (Md G) B H B H' → D.rt (.bl true) H') :
    WSs (XR P w K mg base f cdv A outer s He E) ((defBody s_right).drop 11) D [some (.ref d), some (.ref a), some (.ref F), some (.ref DU), some (.ref G), some (.ref R), u6, u7, u8, u9] H := by
  obtain ⟨ra, rvs, er, rL, rD⟩ := dt_list r.dR
  cases er
  obtain ⟨at', dxt, rt, eat, hat, _⟩ := r.hT.ex
  cases eat
  have hlen := r.hT.ok.len
  have hlo := r.hT.ok.lo
  have hhi := r.hT.ok.hi
  -- row by row
  refine s_cons (s_for (h := i_rng1 S.mr (h := e_blt (call_min2 rfl) S.mmin (by decide +kernel) (a_cons (h := e_int (a_cons (h := e_blt call_len_seq S.ml PySem.boot_len ?_)))))))
  walk_at "E"
  refine ⟨_, _, rfl, .inl (ex_l r.k rL), ?_⟩
  walk_at "E"
  rw [rD.len]
  refine ⟨_, _, rfl, _, rfl, by split <;> omega, by split <;> omega, ?_⟩
  refine for_it walk_r0 (fun i σ H' => ∃ u, σ = [some (.ref d), some (.ref a), some (.ref F), some (.ref DU), some (.ref G), some (.ref R), u6, u7, u, u9] ∧ Gr M0 B H B H') ⟨u8, rfl, Gr.refl r.k⟩ (fun _ _ _ _ _ => trivial) ?_ ?_
  · rintro i x σ H' H'' hi ⟨u, rfl, g⟩ ⟨rfl, rfl⟩
    have hn : 0 < t.rows.length := by split at hi <;> omega
    refine g_name 8 sc_ri.nd (q := ?_)
    refine s_one (s_if (t_not (t_val (e_call S.rr (hr.mono (by decide)) (h := ?_)))))
    walk_at "E"
    refine e_mod (h := e_ty call_int1 S.mint (by decide +kernel) (a_cons (h := e_bin op_mul (h := ?_))))
    walk_at "E"
    refine ⟨_, _, rfl, rfl, .inr (by decide), ?_⟩
    walk_at "E"
    refine .inl ⟨_, rfl, e_blt call_len_seq S.ml PySem.boot_len ?_⟩
    walk_at "E"
    refine ⟨_, _, rfl, .inl (ex_l g.k rL), ?_⟩
    rw [rD.len]
    refine ⟨_, _, rfl, rfl, by omega, ?_⟩
    walk_at "E"
    have em : ((i : Nat) : Int) * 7 % ((t.rows.length : Nat) : Int) = ((i * 7 % t.rows.length : Nat) : Int) := by norm_cast
    rw [em]
    have hm : i * 7 % t.rows.length < t.rows.length := Nat.mod_lt _ hn
    refine ⟨B, _, _, t, fs, _, _, rfl, g.k, r.hT, dtL r.fL r.fD, r.hf, List.getElem?_eq_getElem hm, fun B2 H2 g2 => ⟨_, rfl, iff_ rfl (s_nil ⟨_, rfl, g.trans (g2.base (Ex.refl B))⟩)⟩⟩
  rintro σ H1 ⟨u, rfl, g1⟩
  -- open filters
  refine s_cons (s_set 9 sc_ri.nd (h := e_call S.op (hr.mono (by decide)) (h := a_cons (h := e_prop S.p1 (hr.mono (by decide)) (h := ?_)))))
  walk_at "E"
  refine ⟨a, dxt, _, rfl, g1.k _ _ hat, _, t, rfl, r.hT.mono g1.k, ?_⟩
  walk_at "E"
  have ew : t.wd = ((t.wd.toNat : Nat) : Int) := by omega
  generalize hwn : t.wd.toNat = wn at ew
  rw [ew]
  refine ⟨B, wn, rfl, g1.k, by omega, by omega, fun D2 B2 H2 acc2 g2 b2 d2 e2 da2 => ?_⟩
  have gP := g2.learn d2 b2 e2
  have dP : Dt K (upd B2 D2 (.lst acc2)) (.ref D2) (openF wn) := dtL (SqL.of upd_same) (da2.mono (Ex.new b2))
  refine s_cons (s_if (t_wb (b_or (t_cmp (op_neD hr.units) (h := ?_)))))
  walk_at "E"
  refine e_bin op_rep (h := e_lst (a_cons (h := e_tup ?_)))
  walk_at "E"
  refine ⟨by show 2 ≤ sizeLine; decide, fun T hT => ?_⟩
  walk_at "E"
  refine ⟨by show 1 ≤ sizeLine; decide, fun L hL => e_prop S.p1 (hr.mono (by decide)) (h := ?_)⟩
  walk_at "E"
  have gT := gP.new (o := .tup [.non, .non]) hT
  have gL := gT.own (o := .lst [.ref T]) hL
  refine ⟨a, dxt, _, rfl, gL.k _ _ (gL.b _ _ hat), _, t, rfl, r.hT.mono (gL.b.trans gL.k), ?_⟩
  rw [ew]
  refine ⟨L, _, _, rfl, rfl, upd_same, by omega, by omega, by show 1 * _ ≤ sizeLine; rw [Int.toNat_natCast]; exact Nat.le_trans (by omega : 1 * wn ≤ 200) (by decide), fun L2 hL2 => ?_⟩
  rw [flat_one, Int.toNat_natCast]
  have gL2 := gL.own (o := .lst (List.replicate wn (.ref T))) hL2
  have dTt : Dt K (upd (upd B2 D2 (.lst acc2)) T (.tup [.non, .non])) (.ref T) ((none, none) : Bd) := dtP (SqT.of upd_same) dtN dtN
  generalize hH4 : upd (upd (upd H2 T (.tup [.non, .non])) L (.lst [.ref T])) L2 (.lst (List.replicate wn (.ref T))) = H4 at *
  have eL2 : H4 L2 = some (.lst (List.replicate wn (.ref T))) := by rw [← hH4]; exact upd_same
  have dL2 : Dt K H4 (.ref L2) (List.replicate wn ((none, none) : Bd)) := dtL (SqL.of eL2) (das_rep (dTt.mono gL2.k) wn)
  refine ne_dat (B := H4) ((dP.mono (Ex.new (none_of_ex gP.k hT))).mono gL2.k) dL2 (Ex.refl _) (by decide) ⟨_, rfl, ifn (fun z => absurd (openF_eq wn) z) fun _ => ?_⟩
  have hrl : ∀ r' ∈ t.rows, r'.length = wn := fun r' h => by have := r.hT.ok.le r' h; omega
  refine b_or1 (t_cmp (op_neD hr.units) (h := e_call S.lr (hr.mono (by decide)) (h := ?_)))
  walk_at "E"
  have dP4 := dP.mono ((Ex.new (o := .tup [.non, .non]) (none_of_ex gP.k hT)))
  refine ⟨_, _, _, t, openF wn, rfl, gL2.k, r.hT.mono gL2.b, dP4, by rw [openF_eq, List.length_replicate]; exact ew.symm, fun D3 B5 H5 acc5 g5 b5 d5 e5 da5 => ?_⟩
  refine e_listRg S.mli S.mr (h := e_blt call_len_seq S.ml PySem.boot_len ?_)
  walk_at "E"
  refine ⟨_, _, rfl, .inl (ex_l ((gL2.trans g5).b.trans g5.k) rL), ?_⟩
  rw [rD.len]
  refine ⟨_, rfl, RgOk.of_le (by omega) (by omega) (by omega) (by omega), fun D6 hD6 => ?_⟩
  rw [rg_ints]
  rw [letR_open hrl] at da5
  refine ne_dat (B := upd H5 D6 _) (dtL (SqL.of (by rw [upd_ne (ne_of_none e5 hD6)]; exact e5)) (da5.mono (g5.k.trans (Ex.new hD6)))) (dtL (SqL.of upd_same) das_ints) (Ex.refl _) (by decide) ⟨_, rfl, ifn (fun z => absurd rfl z) fun _ => s_nil ?_⟩
  -- first.append(None); given.clear()
  have gZ := ((g1.trans (gL2.trans g5)).base (Ex.refl B)).own (o := .lst (((List.range t.rows.length).map fun (i : Nat) => (i : Int)).map V.int)) hD6
  have eD2T : D2 ≠ T := ne_of_none e2 hT
  have eP5 : H5 D2 = some (.lst acc2) := g5.ex _ _ (gL2.k D2 _ (by rw [upd_ne eD2T]; exact upd_same))
  have nD26 : D2 ≠ D6 := ne_of_none eP5 hD6
  have hHD2 : H D2 = none := g1.free d2
  have bD2 : B D2 = none := none_of_ex r.k hHD2
  refine s_cons (s_expr (h := e_bm PySem.F.plainAttrs_list PySem.F.slot_list_append PySem.F.type_list_append mt_append ?_))
  walk_at "E"
  refine ⟨.inl ⟨rfl, _, SqL.of (by rw [upd_ne nD26]; exact eP5)⟩, ?_⟩
  walk_at "E"
  refine ⟨_, _, _, rfl, rfl, by rw [upd_ne nD26]; exact eP5, Nat.lt_of_le_of_lt (by rw [da2.len, openF_eq, List.length_replicate]; omega : acc2.length ≤ 200) (by decide), ?_⟩
  have gY := gZ.mut (o := .lst (acc2 ++ [.non])) (.inr hHD2) bD2
  have eG := gY.ex _ _ r.eG
  refine s_cons (s_expr (h := e_bm0 PySem.F.plainAttrs_list PySem.F.slot_list_clear PySem.F.type_list_clear mt_clear ?_))
  walk_at "E"
  refine ⟨.inl ⟨rfl, _, SqL.of eG⟩, _, _, rfl, rfl, eG, ?_⟩
  have gX := (gY.up (M := Md G)).mut (p := G) (o := .lst []) (.inl rfl) r.bG
  generalize hH7 : upd (upd (upd H5 D6 (.lst (((List.range t.rows.length).map fun (i : Nat) => (i : Int)).map V.int))) D2 (.lst (acc2 ++ [.non]))) G (.lst []) = H7 at *
  -- by name
  refine s_one (s_ret (e_and (e_cmp (op_eqD hr.units) (h := e_callK S.opK (hr.mono (by decide)) (h := k_cons (e_prop S.p1 (hr.mono (by decide)) (h := ?_)))))))
  walk_at "E"
  refine ⟨a, dxt, _, rfl, gX.k _ _ hat, _, t, rfl, r.hT.mono gX.k, ?_⟩
  walk_at "E"
  rw [ew]
  refine ⟨rfl, rfl, B, wn, rfl, gX.k, by omega, by omega, fun D8 B8 H8 acc8 g8 b8 d8 e8 da8 => ?_⟩
  refine e_bin op_rep (h := e_lst (a_cons (h := e_tup ?_)))
  walk_at "E"
  refine ⟨by show 2 ≤ sizeLine; decide, fun T2 hT2 => ?_⟩
  walk_at "E"
  refine ⟨by show 1 ≤ sizeLine; decide, fun L3 hL3 => e_prop S.p1 (hr.mono (by decide)) (h := ?_)⟩
  walk_at "E"
  have gT2 := g8.new (o := .tup [.non, .non]) hT2
  have gL3 := gT2.own (o := .lst [.ref T2]) hL3
  refine ⟨a, dxt, _, rfl, gL3.k _ _ (gL3.b _ _ hat), _, t, rfl, r.hT.mono (gL3.b.trans gL3.k), ?_⟩
  rw [ew]
  refine ⟨L3, _, _, rfl, rfl, upd_same, by omega, by omega, by show 1 * _ ≤ sizeLine; rw [Int.toNat_natCast]; exact Nat.le_trans (by omega : 1 * wn ≤ 200) (by decide), fun L4 hL4 => ?_⟩
  rw [flat_one, Int.toNat_natCast]
  have gL4 := gL3.own (o := .lst (List.replicate wn (.ref T2))) hL4
  have dTt2 : Dt K (upd B8 T2 (.tup [.non, .non])) (.ref T2) ((none, none) : Bd) := dtP (SqT.of upd_same) dtN dtN
  have e84 : (upd (upd (upd H8 T2 (.tup [.non, .non])) L3 (.lst [.ref T2])) L4 (.lst (List.replicate wn (.ref T2)))) D8 = some (.lst acc8) := by
    have n1 : D8 ≠ T2 := ne_of_none e8 hT2
    have h1 : (upd H8 T2 (.tup [.non, .non])) D8 = some (.lst acc8) := by rw [upd_ne n1]; exact e8
    have n2 : D8 ≠ L3 := ne_of_none h1 hL3
    have h2 : (upd (upd H8 T2 (.tup [.non, .non])) L3 (.lst [.ref T2])) D8 = some (.lst acc8) := by rw [upd_ne n2]; exact h1
    rw [upd_ne (ne_of_none h2 hL4)]
    exact h2
  generalize hH9 : upd (upd (upd H8 T2 (.tup [.non, .non])) L3 (.lst [.ref T2])) L4 (.lst (List.replicate wn (.ref T2))) = H9 at *
  have eL4 : H9 L4 = some (.lst (List.replicate wn (.ref T2))) := by rw [← hH9]; exact upd_same
  refine eq_dat (B := H9) (x := openF wn) (y := List.replicate wn ((none, none) : Bd)) (dtL (SqL.of e84) (da8.mono ((Ex.new (none_of_ex g8.k hT2)).trans gL4.k))) (dtL (SqL.of eL4) (das_rep (dTt2.mono gL4.k) wn)) (Ex.refl _) (by decide) ⟨_, rfl, ift (decide_eq_true (openF_eq wn)) (e_one (e_cmp (op_eqD hr.units) (h := e_call S.lr (hr.mono (by decide)) (h := ?_))))⟩
  refine a_cons (h := ?_)
  walk_at "nm"
  refine a_cons (h := e_ty call_list_of S.mli bn_list ?_)
  walk_at "E"
  refine ⟨_, _, rfl, .inl (ex_l (gL4.b.trans gL4.k) r.fL), fun l2 hl2 => ?_⟩
  walk_at "E"
  have gM := gL4.new (o := .lst fvs) hl2
  refine ⟨_, _, _, t, fs, rfl, gM.k, r.hT.mono gM.b, dtL (SqL.of upd_same) (r.fD.mono gM.b), r.hf, fun F2 B7 H10 acc7 g7 b7 f7 e7 da7 => ?_⟩
  walk_at "E"
  refine eq_dat (B := H10) (dtL (SqL.of e7) (da7.mono g7.k)) (r.dU.mono ((gM.trans g7).b.trans g7.k)) (Ex.refl _) (by decide) ?_
  rw [decide_eq_true rfl]
  exact q _ (gX.trans ((gM.trans g7).base (Ex.refl B)).up)
end
end K14
namespace K14
open PySem L2 Evl Lw
section
variable {P : Program} {w : World} {K : PySem.W.Frag} {mg : Str → Option Value} {base : Heap} {C : Addr}
variable {f : Addr} {cdv : Value} {A : Around} {outer : List Env} {s : Shared} {He : Hp} {E : XK}
theorem right2 (S : RC P w K mg base C) (hr : Room 6 (A.deeper (PyProof.Rows.envOfC "_law_right" (defScope s_right) s.heap.objs.size f cdv))) {B H0 H Bp : Hp} {d a F DU R G T D2 : Addr} {tv : V} {fvs : List V} {t : Tab} {fs : List Bd} {u6 u8 u9 : Option V} {D : Ends}
    (r : Rt K C B H a F DU R G fvs t fs) (g0 : Gr M0 B H0 B H) (hB : Ex B Bp) (kp : Ex Bp H) (hD0 : H0 D2 = none) (hDp : Bp D2 = none) (hG : Bp G = some (.lst fvs)) (eD : H D2 = some (.lst ((letR t.rows fs).map V.int))) (eT : Bp T = some (.tup [tv, .ref D2])) (hTv : TAt K C Bp tv ⟨t.wd, (letR t.rows fs).filterMap (pickF t.rows)⟩)
    (q : ∀ H', Gr (Md G) B H0 B H' → D.rt (.bl true) H') :
    WSs (XR P w K mg base f cdv A outer s He E) ((defBody s_right).drop 8) D [some (.ref d), some (.ref a), some (.ref F), some (.ref DU), some (.ref G), some (.ref R), u6, some (.ref T), u8, u9] H := by
  obtain ⟨ra, rvs, er, rL, rD⟩ := dt_list r.dR
  cases er
  obtain ⟨at', dxt, rt, eat, hat, _⟩ := r.hT.ex
  cases eat
  obtain ⟨da, dvs, ed, dL, dD⟩ := dt_list r.dU
  cases ed
  have ei := dD.ints
  subst ei
  have hlen := r.hT.ok.len
  have hlo := r.hT.ok.lo
  have hhi := r.hT.ok.hi
  have hll : (letR t.rows fs).length < 1000 := Nat.lt_of_le_of_lt letR_len hlen
  obtain ⟨ta, dxa, tr, etv, hta, _⟩ := hTv.ex
  subst etv
  -- the table made anew
  refine s_cons (s_if (t_wb (b_or (t_cmp (op_neOwn S.eq (hr.mono (by decide))) (h := e_ixT (h := ?_))))))
  walk_at "E"
  refine ⟨_, _, _, _, rfl, rfl, SqT.of (kp _ _ eT), rfl, ?_⟩
  refine e_make S.mkT (hr.mono (by decide)) (h := a_cons (h := e_prop S.p1 (hr.mono (by decide)) (h := ?_)))
  walk_at "E"
  refine ⟨a, dxt, _, rfl, r.k _ _ hat, _, t, rfl, r.hT.mono r.k, a_cons (h := ?_)⟩
  have lc : ∀ {Bq Hq : Hp} (gq : Gr M0 Bp H Bq Hq) {Dq : Addr} (hDq : Hq Dq = none) {Qd : Hp → Prop}, (∀ B' H' acc, Gr M0 Bq Hq B' H' → B' Dq = none → H' Dq = some (.lst acc) → Das K B' acc ((letR t.rows fs).filterMap (pickF t.rows)) → Qd H') →
      ∀ {g : TG} {tt : TT} {te : TE} {vs : List Nat} {σ : L2.St}, (∀ (i : Nat) y B' H', (letR t.rows fs)[i]? = some y → Gr M0 Bq Hq B' H' →
        ∀ (KT : VK) (KF : Hp → Prop), (∀ b z B4 H4, pickF t.rows y = some b → Gr M0 B' H' B4 H4 → Dt K B4 z b → KT z H4) → (∀ B3 H3, pickF t.rows y = none → Gr M0 B' H' B3 H3 → KF H3) →
        g (.int y) (wipe σ vs) H' fun σ2 H2 => wipe σ2 vs = wipe σ vs ∧ tt σ2 H2 fun b H3 => if b = true then te σ2 H3 KT else KF H3) → tLcR (Itl K DU) g tt te vs σ Hq Dq Qd :=
    fun gq _ hDq _ hd _ _ _ _ _ hs => lcI (K := K) (pickF t.rows) (ex_l ((hB.trans gq.b).trans gq.k) dL) gq.k hDq (Nat.lt_trans hll (by decide)) hs hd
  refine e_lc [("_law_row", 8)] sc_ri.nd (ok := blkOk_by (N := N_ri) (sc := defScope s_right) (by decide +kernel)) (h := i_list ?_)
  walk_at "E"
  refine ⟨_, rfl, ⟨_, ex_l r.k dL⟩, fun Dq hDq => lc (Gr.refl kp) hDq ?_ ?_⟩
  rotate_left
  · intro i y B' H' hy g KT KF kt kf s0 H0 C0 cl fp
    obtain ⟨y0, y1⟩ := letR_mem (List.mem_of_getElem? hy)
    have hy2 : t.rows[y.toNat]? = some (t.rows[y.toNat]'(by omega)) := List.getElem?_eq_getElem (by omega)
    obtain ⟨cv, hc1, hc2⟩ := rD.at hy2
    refine g_name 8 sc_ri.nd (q := ⟨rfl, ?_⟩)
    intro s0 H0 C0 cl fp
    refine ts_nil (ift rfl ?_)
    intro s0 H0 C0 cl fp
    refine e_ixL (h := ?_)
    walk_at "E"
    exact ⟨_, _, _, _, rfl, rfl, ex_l ((hB.trans g.b).trans g.k) rL, at_of (by omega : y = (y.toNat : Int)) hc1, kt _ _ B' _ hy2 (Gr.refl g.k) (hc2.mono (hB.trans g.b))⟩
  intro B1 H1 acc1 g1 b1 e1 da1
  have g2 := g1.learn hDq b1 e1
  have okp : Tab.Ok ⟨t.wd, (letR t.rows fs).filterMap (pickF t.rows)⟩ := hTv.ok
  refine a_nil fun nx ndx hnx hndx _ => mk_tab1 (t := ⟨t.wd, (letR t.rows fs).filterMap (pickF t.rows)⟩) g2.k (dtL (SqL.of upd_same) (da1.mono (Ex.new b1))) okp hnx hndx fun B3 H3 g3 tn => ?_
  have g4 := g2.trans g3
  obtain ⟨na, dxn, nr, env, hna, _⟩ := tn.ex
  cases env
  refine ⟨ta, nx, dxa, dxn, _, _, rfl, rfl, g4.k _ _ (g4.b _ _ hta), g3.k _ _ hna, _, _, _, _, rfl, hTv.mono (g4.b.trans g4.k), tn.mono g3.k, _, rfl, _, rfl, ifn (fun z => absurd ⟨rfl, rfl⟩ z) fun _ => ?_⟩
  -- its rows
  refine b_or1 (t_cmp (op_neD hr.units) (h := e_prop S.p2 (hr.mono (by decide)) (h := e_ixT (h := ?_))))
  walk_at "E"
  refine ⟨_, _, _, _, rfl, rfl, SqT.of (g4.k _ _ (g4.b _ _ eT)), rfl, ta, dxa, _, rfl, g4.k _ _ (g4.b _ _ hta), B3, _, _, rfl, g4.k, hTv.mono g4.b, fun D5 B5 H5 acc5 g5 b5 d5 e5 da5 => ?_⟩
  refine e_lc [("_law_row", 8)] sc_ri.nd (ok := blkOk_by (N := N_ri) (sc := defScope s_right) (by decide +kernel)) (h := i_list ?_)
  walk_at "E"
  have g5' := g4.trans g5
  refine ⟨_, rfl, ⟨_, ex_l ((hB.trans g5'.b).trans g5'.k) dL⟩, fun Dr hDr => lc g5' hDr ?_ ?_⟩
  rotate_left
  · intro i y B' H' hy g KT KF kt kf s0 H0 C0 cl fp
    obtain ⟨y0, y1⟩ := letR_mem (List.mem_of_getElem? hy)
    have hy2 : t.rows[y.toNat]? = some (t.rows[y.toNat]'(by omega)) := List.getElem?_eq_getElem (by omega)
    obtain ⟨cv, hc1, hc2⟩ := rD.at hy2
    refine g_name 8 sc_ri.nd (q := ⟨rfl, ?_⟩)
    intro s0 H0 C0 cl fp
    refine ts_nil (ift rfl ?_)
    intro s0 H0 C0 cl fp
    refine e_ixL (h := ?_)
    walk_at "E"
    exact ⟨_, _, _, _, rfl, rfl, ex_l (((hB.trans g5'.b).trans g.b).trans g.k) rL, at_of (by omega : y = (y.toNat : Int)) hc1, kt _ _ B' _ hy2 (Gr.refl g.k) (hc2.mono ((hB.trans g5'.b).trans g.b))⟩
  intro B6 H6 acc6 g6 b6 e6 da6
  refine ne_dat (B := H6) (dtL (SqL.of (g6.ex _ _ e5)) (da5.mono (g6.b.trans g6.k))) (dtL (SqL.of e6) (da6.mono g6.k)) (Ex.refl _) (by decide) ⟨_, rfl, ifn (fun z => absurd rfl z) fun _ => s_nil ?_⟩
  have g7 := g5'.trans g6
  -- told[1].append(-1)
  refine s_cons (s_expr (h := e_bm PySem.F.plainAttrs_list PySem.F.slot_list_append PySem.F.type_list_append mt_append (e_ixT (h := ?_))))
  walk_at "E"
  have eD7 := g7.ex _ _ eD
  refine ⟨_, _, _, _, rfl, rfl, SqT.of (g7.k _ _ (g7.b _ _ eT)), rfl, .inl ⟨rfl, _, SqL.of eD7⟩, ?_⟩
  walk_at "E"
  refine ⟨_, rfl, ?_⟩
  walk_at "E"
  refine ⟨_, _, _, rfl, rfl, eD7, Nat.lt_of_lt_of_le (by rw [List.length_map]; exact hll) (by decide), ?_⟩
  have bD : B D2 = none := none_of_ex hB hDp
  have nGD : G ≠ D2 := ne_of_none hG hDp
  have gZ := (g0.trans (g7.base hB)).mut (p := D2) (o := .lst ((letR t.rows fs).map V.int ++ [.int (-1)])) (.inr hD0) bD
  have eGZ : (upd H6 D2 (.lst ((letR t.rows fs).map V.int ++ [.int (-1)]))) G = some (.lst fvs) := by rw [upd_ne nGD]; exact g7.ex _ _ r.eG
  show WSs (XR P w K mg base f cdv A outer s He E) ((defBody s_right).drop 10) D _ (upd H6 D2 (.lst ((letR t.rows fs).map V.int ++ [.int (-1)])))
  generalize upd H6 D2 (.lst ((letR t.rows fs).map V.int ++ [.int (-1)])) = H8 at *
  refine s_cons (s_if (t_wb (b_or (t_cmp (op_neD hr.units) (h := e_callK S.lrK (hr.mono (by decide)) (h := ?_))))))
  walk_at "E"
  refine ⟨rfl, rfl, given_lr gZ.k r.bG eGZ r.fD r.hf r.hT fun D9 H9 g9 b9 d9 e9 => ?_⟩
  walk_at "E"
  refine ne_dat (B := H9) (dtL (SqL.of e9) das_ints) (r.dU.mono g9.k) (Ex.refl _) (by decide) ⟨_, rfl, ifn (fun z => absurd rfl z) fun _ => ?_⟩
  have eG9 := g9.ex _ _ eGZ
  refine b_or1 (t_cmp (op_neD hr.units) (h := e_ixT (h := e_callK S.ptK (hr.mono (by decide)) (h := ?_))))
  walk_at "E"
  refine ⟨rfl, rfl, given_part g9.k r.bG eG9 r.fD r.hf r.hT fun T2 tv2 D10 B10 H10 g10 b10 d10 e10 eT2 _ => ?_⟩
  walk_at "E"
  refine ⟨_, _, _, _, rfl, rfl, SqT.of (g10.k _ _ eT2), rfl, ?_⟩
  walk_at "E"
  have gW := g9.trans (g10.base (Ex.new r.bG))
  refine ne_dat (B := H10) (dtL (SqL.of e10) das_ints) (r.dU.mono gW.k) (Ex.refl _) (by decide) ⟨_, rfl, ifn (fun z => absurd rfl z) fun _ => s_nil ?_⟩
  refine right3 S hr (r := ⟨gW.k, r.hT, r.fL, r.fD, r.hf, r.dU, r.dR, r.bG, gW.ex _ _ eGZ⟩) fun H' g' => q H' ((gZ.trans gW).up.trans g')
end
end K14
namespace K14
open PySem L2 Evl Lw
section
variable {P : Program} {w : World} {K : PySem.W.Frag} {mg : Str → Option Value} {base : Heap} {C : Addr}
variable {f : Addr} {cdv : Value} {A : Around} {outer : List Env} {s : Shared} {He : Hp} {E : XK}
theorem bn_tuple : bootBuiltins "tuple" = some (.type "tuple") := by decide +kernel
theorem right1 (S : RC P w K mg base C) (hr : Room 6 (A.deeper (PyProof.Rows.envOfC "_law_right" (defScope s_right) s.heap.objs.size f cdv))) {B H : Hp} {d a F DU R G : Addr} {fvs : List V} {t : Tab} {fs : List Bd} {u6 u7 u8 u9 : Option V} {D : Ends}
    (r : Rt K C B H a F DU R G fvs t fs) (q : ∀ H', Gr (Md G) B H B H' → D.rt (.bl true) H') :
    WSs (XR P w K mg base f cdv A outer s He E) ((defBody s_right).drop 3) D [some (.ref d), some (.ref a), some (.ref F), some (.ref DU), some (.ref G), some (.ref R), u6, u7, u8, u9] H := by
  obtain ⟨at', dxt, rt, eat, hat, _⟩ := r.hT.ex
  cases eat
  have hlen := r.hT.ok.len
  have hll : (letR t.rows fs).length < 1000 := Nat.lt_of_le_of_lt letR_len hlen
  -- found
  refine s_cons (s_set 6 sc_ri.nd (h := e_call S.lr (hr.mono (by decide)) (h := ?_)))
  walk_at "E"
  refine given_lr r.k r.bG r.eG r.fD r.hf r.hT fun D1 H1 g1 b1 d1 e1 => ?_
  have eG1 := g1.ex _ _ r.eG
  refine s_cons (s_if (t_wb (b_or (t_cmp (op_neD hr.units) (h := ?_)))))
  walk_at "E"
  refine ne_dat (B := H1) (dtL (SqL.of e1) das_ints) (r.dU.mono g1.k) (Ex.refl _) (by decide) ⟨_, rfl, ifn (fun z => absurd rfl z) fun _ => ?_⟩
  refine b_or (t_cmp (op_neD hr.units) (h := ?_))
  walk_at "E"
  refine ne_dat (B := H1) (dtL (SqL.of eG1) (r.fD.mono g1.k)) (dtL (ex_l g1.k r.fL) (r.fD.mono g1.k)) (Ex.refl _) (by decide) ⟨_, rfl, ifn (fun z => absurd rfl z) fun _ => ?_⟩
  refine b_or1 (t_cmp (op_neD hr.units) (h := e_prop S.p2 (hr.mono (by decide)) (h := ?_)))
  walk_at "E"
  refine ⟨a, dxt, _, rfl, g1.k _ _ hat, B, _, t, rfl, g1.k, r.hT, fun D2 B2 H2 acc2 g2 b2 d2 e2 da2 => ?_⟩
  walk_at "E"
  refine ne_dat (B := H2) (dtL (SqL.of e2) (da2.mono g2.k)) (r.dR.mono (g2.b.trans g2.k)) (Ex.refl _) (by decide) ⟨_, rfl, ifn (fun z => absurd rfl z) fun _ => s_nil ?_⟩
  have g12 := g1.trans (g2.base (Ex.refl B))
  -- found.append(-1)
  have e12 := g2.ex _ _ e1
  refine s_cons (s_expr (h := e_bm PySem.F.plainAttrs_list PySem.F.slot_list_append PySem.F.type_list_append mt_append ?_))
  walk_at "E"
  refine ⟨.inl ⟨rfl, _, SqL.of e12⟩, ?_⟩
  walk_at "E"
  refine ⟨_, rfl, ?_⟩
  walk_at "E"
  refine ⟨_, _, _, rfl, rfl, e12, Nat.lt_of_lt_of_le (by rw [List.length_map]; exact hll) (by decide), ?_⟩
  have gZ := g12.mut (p := D1) (o := .lst ((letR t.rows fs).map V.int ++ [.int (-1)])) (.inr d1) b1
  have eGZ := gZ.ex _ _ r.eG
  generalize upd H2 D1 (.lst ((letR t.rows fs).map V.int ++ [.int (-1)])) = H3 at *
  -- part
  refine s_cons (s_set 7 sc_ri.nd (h := e_call S.pt (hr.mono (by decide)) (h := ?_)))
  walk_at "E"
  refine given_part gZ.k r.bG eGZ r.fD r.hf r.hT fun T tv D4 Bp H4 g4 b4 d4 e4 eT hTv => ?_
  have eG4 := g4.ex _ _ eGZ
  have gB := g4.base (Ex.new r.bG)
  have r4 : Rt K C B H4 a F DU R G fvs t fs := ⟨gB.k, r.hT, r.fL, r.fD, r.hf, r.dU, r.dR, r.bG, eG4⟩
  refine s_cons (s_if (t_wb (b_or (t_not (t_val (e_blt call_isi S.mi (by decide +kernel) ?_))))))
  walk_at "E"
  refine e_bltn S.mtu bn_tuple (v := .ty "tuple") rfl (q := ?_)
  walk_at "E"
  refine ⟨_, _, .type "tuple", .type "tuple", true, rfl, .ty _, .base (.tup (g4.k _ _ eT)), kit_ty (by decide +kernel), true, rfl, iff_ rfl ?_⟩
  refine b_or (t_cmp op_ne (h := e_blt call_len_seq S.ml PySem.boot_len ?_))
  walk_at "E"
  refine ⟨_, _, rfl, .inr (SqT.of (g4.k _ _ eT)), ?_⟩
  walk_at "E"
  refine ⟨rfl, _, rfl, iff_ rfl ?_⟩
  refine b_or (t_cmp (op_neD hr.units) (h := e_ixT (h := ?_)))
  walk_at "E"
  refine ⟨_, _, _, _, rfl, rfl, SqT.of (g4.k _ _ eT), rfl, ?_⟩
  walk_at "E"
  refine ne_dat (B := H4) (dtL (SqL.of e4) das_ints) (r.dU.mono gB.k) (Ex.refl _) (by decide) ⟨_, rfl, ifn (fun z => absurd rfl z) fun _ => ?_⟩
  refine b_or1 (t_cmp (op_neD hr.units) (h := ?_))
  walk_at "E"
  refine ne_dat (B := H4) (dtL (SqL.of eG4) (r.fD.mono gB.k)) (dtL (ex_l gB.k r.fL) (r.fD.mono gB.k)) (Ex.refl _) (by decide) ⟨_, rfl, ifn (fun z => absurd rfl z) fun _ => s_nil ?_⟩
  refine right2 S hr r4 gB ((Ex.new r.bG).trans g4.b) g4.k d4 b4 (g4.b _ _ upd_same) e4 eT hTv fun H' g' => q H' (gZ.up.trans g')
/-! the whole def -/
def sp_ri : Sp := fun vs H Q _ => ∃ (B : Hp) (d : Addr), vs = [.ref d] ∧ Dk B H d ∧ ∀ B' H', Gr (Md d) B H B' H' → Q (.bl true) H'
theorem c_ri (dd : Fn K mg "_law_right" s_right) (S : RC P w K mg base C) : Cal P w K mg base "_law_right" 7 ["_law_deck_here"] sp_ri := by
  refine cal_of dd sc_ri (fun vs H Q E h => by obtain ⟨_, _, rfl, _⟩ := h; rfl) (fun _ _ _ _ _ _ us hl => match us, hl with | [_], _ => rfl) (fun f cdv A outer s H vs Q E hr h => ?_)
  obtain ⟨B, d, rfl, k0, q⟩ := h
  -- the table
  refine s_cons (s_set 1 sc_ri.nd (h := e_call S.tb (hr.mono (by decide)) (h := ?_)))
  refine a_cons (h := ?_)
  walk_at "nm"
  refine a_cons (h := e_ixL (h := e_lst ?_))
  walk_at "E"
  refine ⟨by show 4 ≤ sizeLine; decide, fun p hp => e_call S.dr (hr.mono (by decide)) (h := ?_)⟩
  walk_at "E"
  refine draw_k (k0.own hp) (by decide) (by decide) fun j H1 j0 j1 g1 d1 => ?_
  have np : p ≠ d := (k0.at_.ne hp).symm
  have ep := g1.h p _ np upd_same
  have gA := ((Gr.refl (M := Md d) k0.k).own hp).trans g1
  have hmo : ∃ mo : Int, ([V.int 10, .int 10, .int 10, .int 40])[j.toNat]? = some (.int mo) ∧ 0 ≤ mo ∧ mo ≤ 100 := by
    have c4 : j = 0 ∨ j = 1 ∨ j = 2 ∨ j = 3 := by omega
    rcases c4 with e | e | e | e
    · exact ⟨10, by rw [e]; rfl, by decide, by decide⟩
    · exact ⟨10, by rw [e]; rfl, by decide, by decide⟩
    · exact ⟨10, by rw [e]; rfl, by decide, by decide⟩
    · exact ⟨40, by rw [e]; rfl, by decide, by decide⟩
  obtain ⟨mo, hmo, mo0, mo1⟩ := hmo
  refine ⟨_, _, _, _, rfl, rfl, SqL.of ep, at_of (by omega : j = (j.toNat : Int)) hmo, ?_⟩
  walk_at "E"
  refine ⟨B, d, mo, 5, rfl, d1, mo0, mo1, by decide, by decide, fun v t B2 H2 g2 d2 ht _ => ?_⟩
  have gB := gA.trans g2
  -- the filters
  refine s_cons (s_set 2 sc_ri.nd (h := e_call S.fi (hr.mono (by decide)) (h := ?_)))
  walk_at "E"
  refine ⟨B2, d, v, t, rfl, d2, ht, fun F B3 H3 fvs fs g3 d3 b3 f3 e3 da3 hfs => ?_⟩
  have gC := (gB.trans g3).learn (gB.free f3) b3 e3
  have dC := k0.go gC d3.at_
  have hT3 : TAt K C (upd B3 F (.lst fvs)) v t := ht.mono (g3.b.trans (Ex.new b3))
  have dF : Dt K (upd B3 F (.lst fvs)) (.ref F) fs := dtL (SqL.of upd_same) (da3.mono (Ex.new b3))
  have fD : Das K (upd B3 F (.lst fvs)) fvs fs := da3.mono (Ex.new b3)
  -- what is due, what is given, the rows
  refine s_cons (s_asg (h := e_tup (a_cons (h := e_call S.sh (hr.mono (by decide)) (h := ?_)))))
  walk_at "E"
  refine ⟨_, _, _, t, fs, rfl, dC.k, hT3, dF, hfs, fun DU B4 H4 acc4 g4 b4 d4 e4 da4 => ?_⟩
  have ea4 := da4.ints
  subst ea4
  have g4' := g4.learn d4 b4 e4
  refine a_cons (h := e_ty call_list_of S.mli bn_list ?_)
  walk_at "E"
  refine ⟨_, _, rfl, .inl (ex_l g4'.k (g4'.b _ _ upd_same |> SqL.of)), fun G hG => ?_⟩
  have g5 := g4'.own (o := .lst fvs) hG
  obtain ⟨a, dxt, rt, rfl, hat, _⟩ := hT3.ex
  refine a_cons (h := e_prop S.p2 (hr.mono (by decide)) (h := ?_))
  walk_at "E"
  refine ⟨a, dxt, _, rfl, g5.k _ _ (g5.b _ _ hat), _, _, t, rfl, g5.k, hT3.mono g5.b, fun R B6 H6 acc6 g6 b6 d6 e6 da6 => ?_⟩
  have g6' := g6.learn d6 b6 e6
  walk_at "E"
  refine ⟨by show 3 ≤ sizeLine; decide, fun T hT => ?_⟩
  have g7 := (g5.trans g6').own (o := .tup [.ref DU, .ref G, .ref R]) hT
  refine g_tup (SqT.of upd_same) rfl (h := gs_cons (h := g_name 3 sc_ri.nd (q := gs_cons (h := g_name 4 sc_ri.nd (q := gs_cons (h := g_name 5 sc_ri.nd (q := gs_nil ?_)))))))
  have bG : (upd B4 DU (.lst ((letR t.rows fs).map V.int))) G = none := none_of_ex g4'.k hG
  have bG6 : (upd B6 R (.lst acc6)) G = none := g6'.f G bG (by rw [upd_same]; exact fun z => nomatch z)
  have eG6 : H6 G = some (.lst fvs) := g6.ex _ _ upd_same
  have nGT : G ≠ T := ne_of_none eG6 hT
  have hG0 : H G = none := (gC.trans g4'.up).free hG
  have gAll := gC.trans g7.up
  refine right1 S hr (d := d) (a := a) (F := F) (DU := DU) (R := R) (G := G) (fvs := fvs) (t := t) (fs := fs) ⟨g7.k, hT3.mono g7.b, SqL.of (g7.b _ _ upd_same), fD.mono g7.b, hfs, dtL (SqL.of (g6'.b _ _ upd_same)) das_ints, dtL (SqL.of upd_same) (da6.mono (Ex.new b6)), bG6, by rw [upd_ne nGT]; exact eG6⟩ fun H' g' => q _ H' (gAll.fresh g' hG0)
end
end K14
namespace K14
open PySem L2 Evl Lw
section
variable {P : Program} {w : World} {K : PySem.W.Frag} {mg : Str → Option Value} {base : Heap} {C : Addr}
/-! law -/
theorem sc_law : FnScope ["_law_script", "_law_k"] ["_law_script"] (defScope s_law) := ⟨rfl, rfl, rfl, by decide +kernel, rfl, by decide +kernel, by decide +kernel⟩
def sp_law (K : PySem.W.Frag) : Sp := fun vs H Q _ => ∃ (a : Addr) (ns : List Int), vs = [.ref a] ∧ SqL K H a (ns.map V.int) ∧ ns.length ≤ 63 ∧ ∀ H', Q (.bl true) H'
theorem ok_law {f : Addr} {fd : FuncData} (F : Fun K "law" "law" s_law f fd) (mr : mg "range" = none) (ml : mg "len" = none) (mmin : mg "min" = none) (mmax : mg "max" = none)
    (e1 : Cal P w K mg base "_law_deck" 1 ["_law_script", "_law_at"] (sp_deck K)) (e2 : Cal P w K mg base "_law_right" 7 ["_law_deck_here"] sp_ri) : FnOk P w K mg base CX0 8 f fd ["_law_script"] (sp_law K) := by
  refine body_ok F sc_law (fun vs H Q E h => by obtain ⟨_, _, rfl, _⟩ := h; rfl) (fun f cdv A outer s H vs Q E hr h => ?_)
  obtain ⟨a, ns, rfl, hL, hn, q⟩ := h
  refine s_cons (s_for (h := i_rng1 mr (h := e_blt (call_max2 rfl) mmax (by decide +kernel) (a_cons (h := e_int (a_cons (h := e_blt (call_min2 rfl) mmin (by decide +kernel) (a_cons (h := e_int (a_cons (h := e_blt call_len_seq ml PySem.boot_len ?_)))))))))))
  walk_at "E"
  refine ⟨_, _, rfl, .inl hL, ?_⟩
  walk_at "E"
  rw [List.length_map]
  refine ⟨_, _, rfl, ?_⟩
  walk_at "E"
  refine ⟨_, _, rfl, ?_⟩
  generalize hm : (if (if ((ns.length : Nat) : Int) < 2 then ((ns.length : Nat) : Int) else 2) > 1 then (if ((ns.length : Nat) : Int) < 2 then ((ns.length : Nat) : Int) else 2) else 1) = m
  have hm2 : 0 ≤ m ∧ m ≤ 2 := by rw [← hm]; split <;> split <;> omega
  refine ⟨m, rfl, by omega, by omega, ?_⟩
  refine for_it walk_r0 (fun i σ H' => (∃ u, σ = [some (.ref a), u]) ∧ Ex H H') ⟨⟨none, rfl⟩, Ex.refl H⟩ (fun _ _ _ _ _ => trivial) ?_ ?_
  · rintro i x σ H' H'' hi ⟨⟨u, rfl⟩, ex⟩ ⟨rfl, rfl⟩
    refine g_name 1 sc_law.nd (q := ?_)
    refine s_one (s_if (t_not (t_val (e_call e2 hr (h := a_cons (h := e_call e1 (hr.mono (by decide)) (h := ?_)))))))
    walk_at "E"
    refine ⟨a, ns, i, rfl, ex_l ex hL, by omega, fun p x y z hp => ?_⟩
    walk_at "E"
    refine ⟨H'', p, rfl, ⟨Ex.new hp, hp, x, y, z, upd_same⟩, fun B2 H2 g2 => ⟨_, rfl, iff_ rfl (s_nil ⟨⟨_, rfl⟩, ex.trans (g2.b.trans g2.k)⟩)⟩⟩
  · rintro σ H' ⟨⟨u, rfl⟩, ex⟩
    exact s_one (s_ret (e_bl (q H')))
/-! ### what the top leaves -/
theorem fn_mk {x : Str} {st : Stmt} {f : Addr} {h : Heap} {oc : Value} {od an : Option Addr} {osl : Array (Option Value)} {kV doc pm cdv ct : Value} (X : K.In h) (G : h.Ns mainGlobals mg) (a : PySem.W.nsIn K mainGlobals x = some (some (.ref f)))
    (l : K.lookup f = some ⟨oc, od, .func (PySem.W.fnOf x x (defArgs st) (defBody st) (defScope st) .none kV doc pm an cdv ct), osl⟩) (c : PySem.W.codeIn K cdv x = true) (k : PySem.W.keepIn K (.ref f) = true) : Fn K mg x st := ⟨f, _, fun_mk l c k, PySem.W.mg_of X G a⟩
structure Facts (K : PySem.W.Frag) (mg : Str → Option Value) (C : Addr) : Prop where
  cw : Fn K mg "check_width" s_cw
  cc : Fn K mg "check_column" s_cc
  cr : Fn K mg "check_row" s_cr
  crs : Fn K mg "check_rows" s_crs
  cf : Fn K mg "check_filters" s_cf
  of : Fn K mg "open_filters" s_of
  lr : Fn K mg "let_rows" s_lr
  bc : Fn K mg "_barring_columns" s_bc
  le : Fn K mg "_lets" s_lets
  bb : Fn K mg "barred_by" s_bb
  pa : Fn K mg "part" s_part
  de : Fn K mg "_law_deck" s_deck
  dr : Fn K mg "_law_draw" s_draw
  ce : Fn K mg "_law_cells" s_cells
  tb : Fn K mg "_law_table" s_table
  bo : Fn K mg "_law_bound" s_bound
  fi : Fn K mg "_law_filters" s_filters
  ll : Fn K mg "_law_lets" s_llets
  sh : Fn K mg "_law_shown" s_shown
  rr : Fn K mg "_law_row_right" s_rr
  ri : Fn K mg "_law_right" s_right
  T : TC K mg C
  I : TI K C
  init : FnI K C "Table.__init__" s_init
  wd : FnP K C "width" "Table.width" s_width
  rows : FnP K C "rows" "Table.rows" s_rows
  tl : ∃ f fd, Fun K "__len__" "Table.__len__" s_tlen f fd ∧ PySem.W.findIn K (.ref C) "__len__" = some (some (.ref f)) ∧ PySem.W.isFn K (.ref f) = true
  te : ∃ f fd, Fun K "__eq__" "Table.__eq__" s_teq f fd ∧ PySem.W.findIn K (.ref C) "__eq__" = some (some (.ref f)) ∧ PySem.W.isFn K (.ref f) = true
  ne : PySem.W.findIn K (.ref C) (cmpInfo .NotEq).2.1 = some (some (.builtin "object.__ne__"))
  col : FnM K C "column" "Table.column" s_col
  pick : FnM K C "picked" "Table.picked" s_pick
  me : mg "enumerate" = none
  mr : mg "range" = none
  ml : mg "len" = none
  mli : mg "list" = none
  mi : mg "isinstance" = none
  mtu : mg "tuple" = none
  mmin : mg "min" = none
  mmax : mg "max" = none
  mabs : mg "abs" = none
  mint : mg "int" = none
theorem all_ok (W : Facts K mg C) {f : Addr} {fd : FuncData} (F : Fun K "law" "law" s_law f fd) : FnOk P w K mg base CX0 8 f fd ["_law_script"] (sp_law K) := by
  have cw : Cal P w K mg base "check_width" 1 ["width"] sp_cw := c_cw W.cw
  have cc : Cal P w K mg base "check_column" 1 ["width", "column"] sp_cr := c_cc W.cc
  have cr : Cal P w K mg base "check_row" 1 ["number", "row"] sp_cr := c_cr W.cr
  have crs : Cal P w K mg base "check_rows" 2 ["number", "rows"] (sp_crs K) := c_crs W.crs cr
  have cf : Cal P w K mg base "check_filters" 1 ["width", "filters"] (sp_cf K) := c_cf W.cf W.ml
  have le : Cal P w K mg base "_lets" 1 ["bounds", "cell"] (sp_lets K) := c_lets W.le
  have bc : Cal P w K mg base "_barring_columns" 2 ["filters", "cells"] (sp_bc K) := c_bc W.bc W.me le
  have ini : CalI P w K mg base C "Table" 2 ["self", "width", "rows"] (sp_in K C) := c_in W.init W.T W.me W.ml W.mli cw
  have p1 : CalP P w K mg base C "width" 1 (sp_w K C) := c_w W.wd W.T
  have p2 : CalP P w K mg base C "rows" 1 (sp_rows K C) := c_rows W.rows W.T W.mli
  have p3 : CalL P w K mg base C 1 ["self"] (sp_tl K C) := c_tl W.tl W.T W.ml
  have col : CalM P w K mg base C "column" 2 ["self", "column"] (sp_col K C) := c_col W.col W.T cc
  have pick : CalM P w K mg base C "picked" 4 ["self", "rows"] (sp_pick K C) := c_pick W.pick W.T W.ml crs ini
  have lrF : ∀ f fd, Fun K "let_rows" "let_rows" s_lr f fd → FnOk P w K mg base CX0 3 f fd ["table", "filters"] (sp_lr K C) := fun f fd F => ok_lr F W.me cf bc p1 p2
  have lr : Cal P w K mg base "let_rows" 3 ["table", "filters"] (sp_lr K C) := cal_fn W.lr lrF fun _ _ _ _ _ _ us hl => match us, hl with | [_, _], _ => rfl
  have ptF : ∀ f fd, Fun K "part" "part" s_part f fd → FnOk P w K mg base CX0 5 f fd ["table", "filters"] (sp_part K C) := fun f fd F => ok_part F lr pick
  have ofF : ∀ f fd, Fun K "open_filters" "open_filters" s_of f fd → FnOk P w K mg base CX0 2 f fd ["width"] (sp_of K) := fun f fd F => ok_of (k := 0) F W.mr cw
  have bbF : ∀ f fd, Fun K "barred_by" "barred_by" s_bb f fd → FnOk P w K mg base CX0 3 f fd ["table", "filters", "row"] (sp_bb K C) := fun f fd F => ok_bb F W.ml cf bc cr p1 p2 p3
  have dr : Cal P w K mg base "_law_draw" 1 ["_law_deck_here", "_law_many"] sp_draw := c_draw W.dr W.mint
  have ce : Cal P w K mg base "_law_cells" 2 ["_law_deck_here", "_law_kind"] sp_cells := c_cells W.ce dr
  have ll : Cal P w K mg base "_law_lets" 1 ["_law_filters_here", "_law_cells_here"] (sp_ll K) := c_ll W.ll W.mr W.ml
  have bo : Cal P w K mg base "_law_bound" 2 ["_law_deck_here", "_law_cells_here"] (sp_bound K) := c_bound W.bo W.ml dr
  have bb : Cal P w K mg base "barred_by" 3 ["table", "filters", "row"] (sp_bb K C) := cal_fn W.bb bbF fun _ _ _ _ _ _ us hl => match us, hl with | [_, _, _], _ => rfl
  have bbK : CalK P w K mg base "barred_by" 3 ["table", "filters", "row"] ["row", "filters", "table"] perm3 (sp_bb K C) :=
    calK_fn (ps := ["table", "filters", "row"]) (ks := ["row", "filters", "table"]) perm3 W.bb bbF vals_perm3
      fun _ _ _ _ _ _ ws hl => match ws, hl with | [_, _, _], _ => rfl
  have S : RC P w K mg base C :=
    { T := W.T, mr := W.mr, ml := W.ml, mli := W.mli, mi := W.mi, mtu := W.mtu, mmin := W.mmin, mint := W.mint, p1 := p1, p2 := p2
      eq := c_teq W.te W.ne W.T W.I W.mi
      mkT := ini, dr := dr
      tb := c_tb W.tb W.mr W.mli W.ml dr ce ini
      fi := c_fi W.fi W.mr dr bo p1 col
      sh := c_sh W.sh W.mr W.ml ll p2
      rr := c_rr W.rr W.mr W.mi W.mli ll bb bbK p1 p2
      lr := lr
      lrK := calK_fn perm2 W.lr lrF vals_perm2 fun _ _ _ _ _ _ ws hl => match ws, hl with | [_, _], _ => rfl
      pt := cal_fn W.pa ptF fun _ _ _ _ _ _ us hl => match us, hl with | [_, _], _ => rfl
      ptK := calK_fn perm2 W.pa ptF vals_perm2 fun _ _ _ _ _ _ ws hl => match ws, hl with | [_, _], _ => rfl
      op := cal_fn W.of ofF fun _ _ _ _ _ _ us hl => match us, hl with | [_], _ => rfl
      opK := calK_fn (fun l => l) W.of ofF (fun r => r) fun _ _ _ _ _ _ ws hl => match ws, hl with | [_], _ => rfl }
  exact ok_law F W.mr W.ml W.mmin W.mmax (c_deck W.de W.ml W.mmax W.mabs W.mint) (c_ri W.ri S)
end
end K14
namespace K14
open PySem L2 Evl Lw
section
variable {K : PySem.W.Frag} {mg : Str → Option Value} {C : Addr}
theorem fnM_mk {m q : Str} {st : Stmt} {f : Addr} {oc : Value} {od an : Option Addr} {osl : Array (Option Value)} {kV doc pm cdv ct : Value} (a : PySem.W.findIn K (.ref C) m = some (some (.ref f))) (i : PySem.W.isFn K (.ref f) = true)
    (l : K.lookup f = some ⟨oc, od, .func (PySem.W.fnOf m q (defArgs st) (defBody st) (defScope st) .none kV doc pm an cdv ct), osl⟩) (c : PySem.W.codeIn K cdv q = true) (k : PySem.W.keepIn K (.ref f) = true) : FnM K C m q st := ⟨f, _, fun_mk l c k, ⟨a, i, k⟩⟩
theorem fnS_mk {m q : Str} {st : Stmt} {f : Addr} {oc : Value} {od an : Option Addr} {osl : Array (Option Value)} {kV doc pm cdv ct : Value} (a : PySem.W.findIn K (.ref C) m = some (some (.ref f))) (i : PySem.W.isFn K (.ref f) = true)
    (l : K.lookup f = some ⟨oc, od, .func (PySem.W.fnOf m q (defArgs st) (defBody st) (defScope st) .none kV doc pm an cdv ct), osl⟩) (c : PySem.W.codeIn K cdv q = true) (k : PySem.W.keepIn K (.ref f) = true) :
    ∃ f fd, Fun K m q st f fd ∧ PySem.W.findIn K (.ref C) m = some (some (.ref f)) ∧ PySem.W.isFn K (.ref f) = true := ⟨f, _, fun_mk l c k, a, i⟩
theorem fnI_mk {q : Str} {st : Stmt} {f : Addr} {oc : Value} {od an : Option Addr} {osl : Array (Option Value)} {kV doc pm cdv ct : Value} (a : PySem.W.findIn K (.ref C) "__init__" = some (some (.ref f))) (i : PySem.W.isFn K (.ref f) = true)
    (l : K.lookup f = some ⟨oc, od, .func (PySem.W.fnOf "__init__" q (defArgs st) (defBody st) (defScope st) .none kV doc pm an cdv ct), osl⟩) (c : PySem.W.codeIn K cdv q = true) (k : PySem.W.keepIn K (.ref f) = true) (m : PySem.W.makesIn K C = true) (kc : PySem.W.keepIn K (.ref C) = true) : FnI K C q st :=
  ⟨f, _, fun_mk l c k, ⟨m, a, i, kc⟩⟩
theorem fnP_mk {m q : Str} {st : Stmt} {p f : Addr} {rest : List Value} {oc : Value} {od an : Option Addr} {osl : Array (Option Value)} {kV doc pm cdv ct : Value} (a : PySem.W.findIn K (.ref C) m = some (some (.ref p))) (g : PySem.W.specialIn K (.ref p) "__get__" = some (some (.builtin "property.__get__"))) (t : PySem.W.takesIn K (.ref p) = some true)
    (r : PySem.W.recIn K p "property" = some (.ref f :: rest)) (l : K.lookup f = some ⟨oc, od, .func (PySem.W.fnOf m q (defArgs st) (defBody st) (defScope st) .none kV doc pm an cdv ct), osl⟩) (c : PySem.W.codeIn K cdv q = true) (k : PySem.W.keepIn K (.ref f) = true) : FnP K C m q st :=
  ⟨p, f, _, fun_mk l c k, ⟨a, g, t, rest, r⟩⟩
theorem cls_mk (pg : PySem.W.plainGet K C Str.empty = true) (hd : PySem.W.hasDictIn K C = true) (po : PySem.W.plainOver K C = true) (sa : PySem.W.findIn K (.ref C) "__setattr__" = some (some (.builtin "object.__setattr__"))) : Cls K C := ⟨pg, hd, po, sa⟩
end
theorem walk {l : PySem.W.OpenLaw} {q : Program} {loose : List Str} {XP : (Str → Option Value) → Heap → Prop} {YP : World → Heap → Prop} {d : DefRec} {K : Params → PySem.W.Frag} (hn : l.most = some 63) (hdf : d.params.defaults = [])
    (hY : ∀ (w : World) (h : Heap), YP w h → (K w.params).In h)
    (F : ∀ (w : World) (mg : Str → Option Value) (fa : Addr) (h : Heap), (K w.params).In h → h.Ns mainGlobals mg → mg d.name = some (.ref fa) → ∃ fd, Fun (K w.params) "law" "law" s_law fa fd ∧ ∃ C, Facts (K w.params) mg C) :
    PySem.W.WalkO q loose XP YP l.row.toRowW d [] (fun f vs => PySem.call f vs) :=
  L2.walk_of (n := 63) (k := 8) (x := "_law_script") (CX := fun _ => CX0) (sp := fun w => sp_law (K w.params)) hn (by decide) hdf ⟨rfl, by decide, by decide⟩ hY
    (fun w mg fa h KX G hmg => by
      obtain ⟨fd, Fl, C, W⟩ := F w mg fa h KX G hmg
      refine ⟨fd, fun s v => ?_, fun base _ _ => all_ok W Fl⟩
      obtain ⟨oc, od, kV, doc, pm, an, cdv, ct, osl, rfl, lk, hcd⟩ := Fl.ex
      exact .of_eq rfl)
    (fun _ _ a ns hl _ hS => ⟨a, ns, rfl, hS, hl, fun _ => rfl⟩) fun _ _ _ _ _ z => z
end K14
namespace K14
open PySem L2 Evl Lw
def FnK (K : PySem.W.Frag) (x : Str) (st : Stmt) : Prop := ∃ (f : Addr) (oc : Value) (od an : Option Addr) (osl : Array (Option Value)) (kV doc pm cdv ct : Value), PySem.W.nsIn K mainGlobals x = some (some (.ref f)) ∧
  K.lookup f = some ⟨oc, od, .func (PySem.W.fnOf x x (defArgs st) (defBody st) (defScope st) .none kV doc pm an cdv ct), osl⟩ ∧ PySem.W.codeIn K cdv x = true ∧ PySem.W.keepIn K (.ref f) = true
theorem fnK_mk {K : PySem.W.Frag} {x : Str} {st : Stmt} {f : Addr} {oc : Value} {od an : Option Addr} {osl : Array (Option Value)} {kV doc pm cdv ct : Value} (a : PySem.W.nsIn K mainGlobals x = some (some (.ref f)))
    (l : K.lookup f = some ⟨oc, od, .func (PySem.W.fnOf x x (defArgs st) (defBody st) (defScope st) .none kV doc pm an cdv ct), osl⟩) (c : PySem.W.codeIn K cdv x = true) (k : PySem.W.keepIn K (.ref f) = true) : FnK K x st := ⟨f, oc, od, an, osl, kV, doc, pm, cdv, ct, a, l, c, k⟩
theorem FnK.fn {K : PySem.W.Frag} {mg : Str → Option Value} {h : Heap} {x : Str} {st : Stmt} (F : FnK K x st) (X : K.In h) (G : h.Ns mainGlobals mg) : Fn K mg x st := by
  obtain ⟨f, oc, od, an, osl, kV, doc, pm, cdv, ct, a, l, c, k⟩ := F
  exact fn_mk X G a l c k
theorem all_mk {K : PySem.W.Frag} {mg : Str → Option Value} {h : Heap} {fa C : Addr} (X : K.In h) (G : h.Ns mainGlobals mg) (hfa : mg "law" = some (.ref fa)) (xlaw : FnK K "law" s_law)
    (aC : PySem.W.nsIn K mainGlobals "Table" = some (some (.ref C)))
    (x_cw : FnK K "check_width" s_cw)
    (x_cc : FnK K "check_column" s_cc)
    (x_cr : FnK K "check_row" s_cr)
    (x_crs : FnK K "check_rows" s_crs)
    (x_cf : FnK K "check_filters" s_cf)
    (x_of : FnK K "open_filters" s_of)
    (x_lr : FnK K "let_rows" s_lr)
    (x_bc : FnK K "_barring_columns" s_bc)
    (x_le : FnK K "_lets" s_lets)
    (x_bb : FnK K "barred_by" s_bb)
    (x_pa : FnK K "part" s_part)
    (x_de : FnK K "_law_deck" s_deck)
    (x_dr : FnK K "_law_draw" s_draw)
    (x_ce : FnK K "_law_cells" s_cells)
    (x_tb : FnK K "_law_table" s_table)
    (x_bo : FnK K "_law_bound" s_bound)
    (x_fi : FnK K "_law_filters" s_filters)
    (x_ll : FnK K "_law_lets" s_llets)
    (x_sh : FnK K "_law_shown" s_shown)
    (x_rr : FnK K "_law_row_right" s_rr)
    (x_ri : FnK K "_law_right" s_right)
    (n_me : PySem.W.nsIn K mainGlobals "enumerate" = some none)
    (n_mr : PySem.W.nsIn K mainGlobals "range" = some none)
    (n_ml : PySem.W.nsIn K mainGlobals "len" = some none)
    (n_mli : PySem.W.nsIn K mainGlobals "list" = some none)
    (n_mi : PySem.W.nsIn K mainGlobals "isinstance" = some none)
    (n_mtu : PySem.W.nsIn K mainGlobals "tuple" = some none)
    (n_mmin : PySem.W.nsIn K mainGlobals "min" = some none)
    (n_mmax : PySem.W.nsIn K mainGlobals "max" = some none)
    (n_mabs : PySem.W.nsIn K mainGlobals "abs" = some none)
    (n_mint : PySem.W.nsIn K mainGlobals "int" = some none)
    (c_pg : PySem.W.plainGet K C Str.empty = true)
    (c_hd : PySem.W.hasDictIn K C = true)
    (c_po : PySem.W.plainOver K C = true)
    (c_sa : PySem.W.findIn K (.ref C) "__setattr__" = some (some (.builtin "object.__setattr__")))
    (c_nW : PySem.W.findIn K (.ref C) "_width" = some none)
    (c_nR : PySem.W.findIn K (.ref C) "_rows" = some none)
    (c_ia : PySem.W.findIn K (.ref C) "__class__" = some (some (.builtin "object.__class__")))
    (c_inn : PySem.W.specialIn K (.builtin "object.__class__") "__get__" = some (some (.builtin "getset_descriptor.__get__")))
    (c_itk : PySem.W.takesIn K (.builtin "object.__class__") = some true)
    (c_ime : PySem.W.mroIn K C (.type "object") = some true)
    (c_ne : PySem.W.findIn K (.ref C) (cmpInfo .NotEq).2.1 = some (some (.builtin "object.__ne__")))
    (o_init : FnI K C "Table.__init__" s_init)
    (o_wd : FnP K C "width" "Table.width" s_width)
    (o_rows : FnP K C "rows" "Table.rows" s_rows)
    (o_tl : ∃ f fd, Fun K "__len__" "Table.__len__" s_tlen f fd ∧ PySem.W.findIn K (.ref C) "__len__" = some (some (.ref f)) ∧ PySem.W.isFn K (.ref f) = true)
    (o_te : ∃ f fd, Fun K "__eq__" "Table.__eq__" s_teq f fd ∧ PySem.W.findIn K (.ref C) "__eq__" = some (some (.ref f)) ∧ PySem.W.isFn K (.ref f) = true)
    (o_col : FnM K C "column" "Table.column" s_col)
    (o_pick : FnM K C "picked" "Table.picked" s_pick)
    : ∃ fd, Fun K "law" "law" s_law fa fd ∧ ∃ C, Facts K mg C := by
  obtain ⟨fl, fdl, Fl, hl⟩ := xlaw.fn X G
  have e := hfa.symm.trans hl
  cases e
  have T : TC K mg C := ⟨⟨c_pg, c_hd, c_po, c_sa⟩, c_nW, c_nR, PySem.W.mg_of X G aC⟩
  exact ⟨fdl, Fl, C,
    { cw := x_cw.fn X G, cc := x_cc.fn X G, cr := x_cr.fn X G, crs := x_crs.fn X G, cf := x_cf.fn X G, of := x_of.fn X G, lr := x_lr.fn X G, bc := x_bc.fn X G, le := x_le.fn X G, bb := x_bb.fn X G, pa := x_pa.fn X G, de := x_de.fn X G, dr := x_dr.fn X G, ce := x_ce.fn X G, tb := x_tb.fn X G, bo := x_bo.fn X G, fi := x_fi.fn X G, ll := x_ll.fn X G, sh := x_sh.fn X G, rr := x_rr.fn X G, ri := x_ri.fn X G
      T := T, I := ⟨c_ia, c_inn, c_itk, c_ime⟩, ne := c_ne
      init := o_init, wd := o_wd, rows := o_rows, tl := o_tl, te := o_te, col := o_col, pick := o_pick
      me := PySem.W.mg_none_of X G n_me, mr := PySem.W.mg_none_of X G n_mr, ml := PySem.W.mg_none_of X G n_ml, mli := PySem.W.mg_none_of X G n_mli, mi := PySem.W.mg_none_of X G n_mi, mtu := PySem.W.mg_none_of X G n_mtu, mmin := PySem.W.mg_none_of X G n_mmin, mmax := PySem.W.mg_none_of X G n_mmax, mabs := PySem.W.mg_none_of X G n_mabs, mint := PySem.W.mg_none_of X G n_mint }⟩
end K14
open PySem PySem.W PyProof.Rows in
set_option maxRecDepth 100000 in
set_option maxHeartbeats 0 in
theorem PySem.Challenge.cw_listwindow_k14_rows_that_filters_let_holds : PySem.Challenge.rw_listwindow_k14_rows_that_filters_let.Holds := by
  w_on; o_law; k_head; (case hw => w_witness2)
  k_fill
  refine K14.walk (l := PySem.Challenge.rw_listwindow_k14_rows_that_filters_let) rfl rfl (fun w h Y => PySem.W.kIn_of Y) ?F
  case F =>
    intro w mg fa h KX G hmg
    refine' K14.all_mk KX G hmg ?xlaw ?aC ?x_cw ?x_cc ?x_cr ?x_crs ?x_cf ?x_of ?x_lr ?x_bc ?x_le ?x_bb ?x_pa ?x_de ?x_dr ?x_ce ?x_tb ?x_bo ?x_fi ?x_ll ?x_sh ?x_rr ?x_ri ?n_me ?n_mr ?n_ml ?n_mli ?n_mi ?n_mtu ?n_mmin ?n_mmax ?n_mabs ?n_mint ?c_pg ?c_hd ?c_po ?c_sa ?c_nW ?c_nR ?c_ia ?c_inn ?c_itk ?c_ime ?c_ne ?o_init ?o_wd ?o_rows ?o_tl ?o_te ?o_col ?o_pick
    (case xlaw => (refine' K14.fnK_mk ?a ?l ?c ?k; (case a => k_is); (case l => k_is); (case c => k_is); (case k => k_is)))
    (case aC => k_is)
    (case x_cw => (refine' K14.fnK_mk ?a ?l ?c ?k; (case a => k_is); (case l => k_is); (case c => k_is); (case k => k_is)))
    (case x_cc => (refine' K14.fnK_mk ?a ?l ?c ?k; (case a => k_is); (case l => k_is); (case c => k_is); (case k => k_is)))
    (case x_cr => (refine' K14.fnK_mk ?a ?l ?c ?k; (case a => k_is); (case l => k_is); (case c => k_is); (case k => k_is)))
    (case x_crs => (refine' K14.fnK_mk ?a ?l ?c ?k; (case a => k_is); (case l => k_is); (case c => k_is); (case k => k_is)))
    (case x_cf => (refine' K14.fnK_mk ?a ?l ?c ?k; (case a => k_is); (case l => k_is); (case c => k_is); (case k => k_is)))
    (case x_of => (refine' K14.fnK_mk ?a ?l ?c ?k; (case a => k_is); (case l => k_is); (case c => k_is); (case k => k_is)))
    (case x_lr => (refine' K14.fnK_mk ?a ?l ?c ?k; (case a => k_is); (case l => k_is); (case c => k_is); (case k => k_is)))
    (case x_bc => (refine' K14.fnK_mk ?a ?l ?c ?k; (case a => k_is); (case l => k_is); (case c => k_is); (case k => k_is)))
    (case x_le => (refine' K14.fnK_mk ?a ?l ?c ?k; (case a => k_is); (case l => k_is); (case c => k_is); (case k => k_is)))
    (case x_bb => (refine' K14.fnK_mk ?a ?l ?c ?k; (case a => k_is); (case l => k_is); (case c => k_is); (case k => k_is)))
    (case x_pa => (refine' K14.fnK_mk ?a ?l ?c ?k; (case a => k_is); (case l => k_is); (case c => k_is); (case k => k_is)))
    (case x_de => (refine' K14.fnK_mk ?a ?l ?c ?k; (case a => k_is); (case l => k_is); (case c => k_is); (case k => k_is)))
    (case x_dr => (refine' K14.fnK_mk ?a ?l ?c ?k; (case a => k_is); (case l => k_is); (case c => k_is); (case k => k_is)))
    (case x_ce => (refine' K14.fnK_mk ?a ?l ?c ?k; (case a => k_is); (case l => k_is); (case c => k_is); (case k => k_is)))
    (case x_tb => (refine' K14.fnK_mk ?a ?l ?c ?k; (case a => k_is); (case l => k_is); (case c => k_is); (case k => k_is)))
    (case x_bo => (refine' K14.fnK_mk ?a ?l ?c ?k; (case a => k_is); (case l => k_is); (case c => k_is); (case k => k_is)))
    (case x_fi => (refine' K14.fnK_mk ?a ?l ?c ?k; (case a => k_is); (case l => k_is); (case c => k_is); (case k => k_is)))
    (case x_ll => (refine' K14.fnK_mk ?a ?l ?c ?k; (case a => k_is); (case l => k_is); (case c => k_is); (case k => k_is)))
    (case x_sh => (refine' K14.fnK_mk ?a ?l ?c ?k; (case a => k_is); (case l => k_is); (case c => k_is); (case k => k_is)))
    (case x_rr => (refine' K14.fnK_mk ?a ?l ?c ?k; (case a => k_is); (case l => k_is); (case c => k_is); (case k => k_is)))
    (case x_ri => (refine' K14.fnK_mk ?a ?l ?c ?k; (case a => k_is); (case l => k_is); (case c => k_is); (case k => k_is)))
    (case n_me => k_is)
    (case n_mr => k_is)
    (case n_ml => k_is)
    (case n_mli => k_is)
    (case n_mi => k_is)
    (case n_mtu => k_is)
    (case n_mmin => k_is)
    (case n_mmax => k_is)
    (case n_mabs => k_is)
    (case n_mint => k_is)
    (case c_pg => k_is)
    (case c_hd => k_is)
    (case c_po => k_is)
    (case c_sa => k_is)
    (case c_nW => k_is)
    (case c_nR => k_is)
    (case c_ia => k_is)
    (case c_inn => k_is)
    (case c_itk => k_is)
    (case c_ime => k_is)
    (case c_ne => k_is)
    (case o_init => (refine' K14.fnI_mk ?a ?i ?l ?c ?k ?m ?kc; (case a => k_is); (case i => k_is); (case l => k_is); (case c => k_is); (case k => k_is); (case m => k_is); (case kc => k_is)))
    (case o_wd => (refine' K14.fnP_mk ?a ?g ?t ?r ?l ?c ?k; (case a => k_is); (case g => k_is); (case t => k_is); (case r => k_is); (case l => k_is); (case c => k_is); (case k => k_is)))
    (case o_rows => (refine' K14.fnP_mk ?a ?g ?t ?r ?l ?c ?k; (case a => k_is); (case g => k_is); (case t => k_is); (case r => k_is); (case l => k_is); (case c => k_is); (case k => k_is)))
    (case o_tl => (refine' K14.fnS_mk ?a ?i ?l ?c ?k; (case a => k_is); (case i => k_is); (case l => k_is); (case c => k_is); (case k => k_is)))
    (case o_te => (refine' K14.fnS_mk ?a ?i ?l ?c ?k; (case a => k_is); (case i => k_is); (case l => k_is); (case c => k_is); (case k => k_is)))
    (case o_col => (refine' K14.fnM_mk ?a ?i ?l ?c ?k; (case a => k_is); (case i => k_is); (case l => k_is); (case c => k_is); (case k => k_is)))
    (case o_pick => (refine' K14.fnM_mk ?a ?i ?l ?c ?k; (case a => k_is); (case i => k_is); (case l => k_is); (case c => k_is); (case k => k_is)))
#print axioms PySem.Challenge.cw_listwindow_k14_rows_that_filters_let_holds
