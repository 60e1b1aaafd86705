import PyProof.Rows.All
import Wide.All
import OpenK.AllK
import Wide.FinOn
import HandS.ForMost
import HandS.Evl
import HandS.Walk
import HandS.Defaults
import HandS.Property
import HandS.Style
import HandS.Flow
import HandS.IsInst
import HandS.Conv
import HandS.Wide
import HandS.OwnEq
import HandS.EndBits
import KE.KFmtOwn
import HandS.SortKw
import HandS.DictComp
import HandS.More
import HandS.TupAny
import PySem.Challenge.RW_listwindow_k15_filters_changed_and_met
set_option Elab.async false
set_option linter.all false
set_option maxRecDepth 100000
set_option maxHeartbeats 4000000
/-! Readings that choose their rule when the values are known; what is known of the heap, and what grows. -/
namespace Lw
open PySem PySem.Spec L2 Evl

/-! ### judgements with the rule left open -/
def WE (X : Cx) (e : Expr) : TE := fun σ H Q => ∃ t, PE X e t ∧ t σ H Q
def WT (X : Cx) (e : Expr) : TT := fun σ H Q => ∃ t, PT X e t ∧ t σ H Q
def WB (X : Cx) (e : Expr) : TT := fun σ H Q => ∃ t, PW X e t ∧ t σ H Q
def WA (X : Cx) (es : List Expr) : TA := fun σ H Q => ∃ t, PA X es t ∧ t σ H Q
def WK (X : Cx) (ks : List Keyword) : TA := fun σ H Q => ∃ t, PK X ks t ∧ t σ H Q
def WS (X : Cx) (s : Stmt) : TS := fun D σ H => ∃ t, PS X s t ∧ t D σ H
def WSs (X : Cx) (s : List Stmt) : TS := fun D σ H => ∃ t, PSs X s t ∧ t D σ H
def WG (X : Cx) (tg : Expr) : TG := fun v σ H Q => ∃ t, PG X tg t ∧ t v σ H Q
def WGs (X : Cx) (tgs : List Expr) : TGs := fun v σ H Q => ∃ t, PGs X tgs t ∧ t v σ H Q
def WI (X : Cx) (tg it : Expr) : TI := fun σ H R => ∃ t, PI X tg it t ∧ t σ H R
def WO (X : Cx) (e : Option Expr) : TO := fun σ H Q => ∃ t, PO X e t ∧ t σ H Q
def WTs (X : Cx) (es : List Expr) : TT := fun σ H Q => ∃ t, PTs X es t ∧ t σ H Q
section
variable {X : Cx} {e tg : Expr} {es : List Expr} {s : Stmt} {ss : List Stmt} {ks : List Keyword} {o : Option Expr}
theorem WE.pe : PE X e (WE X e) := ⟨fun pins s σ H Q I h => by obtain ⟨t, h1, h2⟩ := h; exact h1.run pins s σ H Q I h2⟩
theorem WT.pt : PT X e (WT X e) := ⟨fun pins s σ H Q I h => by obtain ⟨t, h1, h2⟩ := h; exact h1.run pins s σ H Q I h2⟩
theorem WB.pw : PW X e (WB X e) := ⟨fun wh pins s σ H Q I h => by obtain ⟨t, h1, h2⟩ := h; exact h1.run wh pins s σ H Q I h2⟩
theorem WA.pa : PA X es (WA X es) := ⟨fun pos pins s σ H Q I h => by obtain ⟨t, h1, h2⟩ := h; exact h1.run pos pins s σ H Q I h2⟩
theorem WK.pk : PK X ks (WK X ks) := ⟨fun pos pins s σ H Q I h => by obtain ⟨t, h1, h2⟩ := h; exact h1.run pos pins s σ H Q I h2⟩
theorem WS.ps : PS X s (WS X s) := ⟨fun pins s σ H D I h => by obtain ⟨t, h1, h2⟩ := h; exact h1.run pins s σ H D I h2⟩
theorem WSs.pss : PSs X ss (WSs X ss) := ⟨fun pins s σ H D I h => by obtain ⟨t, h1, h2⟩ := h; exact h1.run pins s σ H D I h2⟩
theorem WG.pg : PG X tg (WG X tg) := ⟨fun pins s σ H v u Q I r h => by obtain ⟨t, h1, h2⟩ := h; exact h1.run pins s σ H v u Q I r h2⟩
theorem WGs.pgs : PGs X es (WGs X es) := ⟨fun pins s σ H v u Q I r h => by obtain ⟨t, h1, h2⟩ := h; exact h1.run pins s σ H v u Q I r h2⟩
theorem WI.pi : PI X tg e (WI X tg e) := ⟨fun pins s σ H R I h => by obtain ⟨t, h1, h2⟩ := h; exact h1.run pins s σ H R I h2⟩
theorem WO.po : PO X o (WO X o) := ⟨fun pins s σ H Q I h => by obtain ⟨t, h1, h2⟩ := h; exact h1.run pins s σ H Q I h2⟩
theorem WTs.pts : PTs X es (WTs X es) := ⟨fun pins s σ H Q I h => by obtain ⟨t, h1, h2⟩ := h; exact h1.run pins s σ H Q I h2⟩
end

/-! ### expressions -/
section
variable {X : Cx} {σ : L2.St} {H : Hp} {Q : VK} {a b c e : Expr} {pos p2 : Pos} {x : Str} {v : V} {r r2 : R2}
theorem e_name (i : Nat) (hN : X.N[i]? = some x := by rfl) (hs : σ[i]? = some (some v) := by rfl) (hv : Vis X.env.scope x := by first | exact Or.inl rfl | exact Or.inr (Or.inl rfl) | exact Or.inr (Or.inr rfl)) (hd : (x == ("__debug__" : Str)) = false := by decide)
    (hcd : (x == ("__classdict__" : Str)) = false := by decide) (q : Q v H) : WE X (.Name x pos) σ H Q := ⟨_, pe_var hN hv hd hcd, v, hs, q⟩
theorem e_glob {u : Value} (hm : X.mg x = some u) (rv : RelV v u) (hg : Gl X x := by rfl) (hd : (x == ("__debug__" : Str)) = false := by decide) (q : Q v H) : WE X (.Name x pos) σ H Q := ⟨_, pe_glob hg hm rv hd, q⟩
theorem e_bltn {u : Value} (hm : X.mg x = none) (hv : bootBuiltins x = some u) (rv : RelV v u) (hg : Gl X x := by rfl) (hn : x ≠ "__name__" := by decide) (hd : (x == ("__debug__" : Str)) = false := by decide) (q : Q v H) : WE X (.Name x pos) σ H Q := ⟨_, pe_bltn hg hm hv rv hn hd, q⟩
theorem e_int {i j} (q : Q (.int i) H) : WE X (.Constant (.int i) j pos) σ H Q := ⟨_, pe_int, q⟩
theorem e_bl {i j} (q : Q (.bl i) H) : WE X (.Constant (.bool i) j pos) σ H Q := ⟨_, pe_bl, q⟩
theorem e_non {j} (q : Q .non H) : WE X (.Constant .none j pos) σ H Q := ⟨_, pe_non, q⟩
theorem e_str {i j} (q : Q (.str i) H) : WE X (.Constant (.str i) j pos) σ H Q := ⟨_, pe_str, q⟩
theorem e_bin {op : Operator} (ho : OpR X (binaryOp op) r) (h : WE X a σ H fun x H1 => WE X b σ H1 fun y H2 => r x y H2 Q) : WE X (.BinOp a op b pos) σ H Q := ⟨_, pe_op ho WE.pe WE.pe, h⟩
theorem e_cmp {op : CmpOp} (ho : OpR X (compareOp op) r) (hm : behindInMarks op b = false := by first | exact nomark _ | rfl) (h : WE X a σ H fun x H1 => WE X b σ H1 fun y H2 => r x y H2 Q) : WE X (.Compare a [op] [b] pos) σ H Q := ⟨_, pe_cmpR ho WE.pe WE.pe hm, h⟩
theorem e_neg (h : WE X a σ H fun x H1 => ∃ i, x = .int i ∧ Q (.int (-i)) H1) : WE X (.UnaryOp .USub a pos) σ H Q := ⟨_, pe_un un_neg WE.pe, h⟩
theorem e_add (h : WE X a σ H fun x H1 => WE X b σ H1 fun y H2 => ∃ i j, x = .int i ∧ y = .int j ∧ Q (.int (i + j)) H2) : WE X (.BinOp a .Add b pos) σ H Q := e_bin op_add h
theorem e_sub (h : WE X a σ H fun x H1 => WE X b σ H1 fun y H2 => ∃ i j, x = .int i ∧ y = .int j ∧ Q (.int (i - j)) H2) : WE X (.BinOp a .Sub b pos) σ H Q := e_bin op_sub h
theorem e_mul (h : WE X a σ H fun x H1 => WE X b σ H1 fun y H2 => ∃ i j, x = .int i ∧ y = .int j ∧ CMulW i j ∧ Q (.int (i * j)) H2) : WE X (.BinOp a .Mult b pos) σ H Q := e_bin op_mulW h
theorem e_mod (h : WE X a σ H fun x H1 => WE X b σ H1 fun y H2 => ∃ i j, x = .int i ∧ y = .int j ∧ 0 < j ∧ Q (.int (i % j)) H2) : WE X (.BinOp a .Mod b pos) σ H Q := e_bin op_mod h
theorem e_fdiv (h : WE X a σ H fun x H1 => WE X b σ H1 fun y H2 => ∃ i j, x = .int i ∧ y = .int j ∧ CDivW i j ∧ Q (.int (i / j)) H2) : WE X (.BinOp a .FloorDiv b pos) σ H Q := e_bin op_fdivW h
theorem e_pow (h : WE X a σ H fun x H1 => WE X b σ H1 fun y H2 => ∃ i j, x = .int i ∧ y = .int j ∧ CPow i j ∧ Q (.int (i ^ j.toNat)) H2) : WE X (.BinOp a .Pow b pos) σ H Q := e_bin op_pow h
theorem e_if {t : Expr} (h : WT X t σ H fun k H1 => if k = true then WE X a σ H1 Q else WE X b σ H1 Q) : WE X (.IfExp t a b pos) σ H Q := ⟨_, pe_ifExp WT.pt WE.pe WE.pe, h⟩
theorem e_and {rest : List Expr} (h : WE X a σ H fun x H1 => ∃ c, x = .bl c ∧ if c = true then WE X (.BoolOp .And (b :: rest) pos) σ H1 Q else Q (.bl false) H1) : WE X (.BoolOp .And (a :: b :: rest) pos) σ H Q := ⟨_, pe_and WE.pe WE.pe, h⟩
theorem e_or {rest : List Expr} (h : WE X a σ H fun x H1 => ∃ c, x = .bl c ∧ if c = true then Q (.bl true) H1 else WE X (.BoolOp .Or (b :: rest) pos) σ H1 Q) : WE X (.BoolOp .Or (a :: b :: rest) pos) σ H Q := ⟨_, pe_or WE.pe WE.pe, h⟩
theorem e_one {op} (h : WE X a σ H Q) : WE X (.BoolOp op [a] pos) σ H Q := ⟨_, pe_one WE.pe, h⟩
theorem e_not (h : WE X a σ H fun x H1 => ∃ c, x = .bl c ∧ Q (.bl (!c)) H1) : WE X (.UnaryOp .Not a pos) σ H Q := ⟨_, pe_not WE.pe, h⟩
theorem e_lst {es : List Expr} (h : WA X es σ H fun xs H1 => xs.length ≤ sizeLine ∧ ∀ p, H1 p = none → Q (.ref p) (upd H1 p (.lst xs))) : WE X (.List es pos) σ H Q := ⟨_, pe_lst WA.pa, h⟩
theorem e_tup {es : List Expr} {k : Nat} (h : WA X es σ H fun xs H1 => xs.length ≤ sizeLine ∧ ∀ p, H1 p = none → Q (.ref p) (upd H1 p (.tup xs))) : WE X (.Tuple es k pos) σ H Q := ⟨_, pe_tup WA.pa, h⟩
theorem e_ixL (hs : PlainIx b := by exact fun _ _ => rfl) (h : WE X a σ H fun x H1 => WE X b σ H1 fun y H2 => ∃ p xs i v, x = .ref p ∧ y = .int i ∧ SqL X.K H2 p xs ∧ atI xs i = some v ∧ Q v H2) : WE X (.Subscript a b pos) σ H Q := ⟨_, pe_ix ix_list WE.pe WE.pe hs, h⟩
theorem e_ixT (hs : PlainIx b := by exact fun _ _ => rfl) (h : WE X a σ H fun x H1 => WE X b σ H1 fun y H2 => ∃ p xs i v, x = .ref p ∧ y = .int i ∧ SqT X.K H2 p xs ∧ atI xs i = some v ∧ Q v H2) : WE X (.Subscript a b pos) σ H Q := ⟨_, pe_ix ix_tup WE.pe WE.pe hs, h⟩
theorem e_fld {f : Str} (hb : attributeBase e f X.env (eval e X.env) = eval e X.env := by rfl) (h : WE X e σ H fun x H1 => ∃ a C dx fs v, x = .ref a ∧ H1 a = some (.ins C dx fs) ∧ Cls X.K C ∧ NoAttr X.K C f ∧ fs.lookup f = some v ∧ Q v H1) : WE X (.Attribute e f pos) σ H Q := ⟨_, pe_fld WE.pe hb, h⟩
theorem e_slice {lo hi : Option Expr} (h : WE X a σ H fun x H1 => WO X lo σ H1 fun i H2 => WO X hi σ H2 fun j H3 => ∃ a xs, x = .ref a ∧ SqL X.K H3 a xs ∧ ∀ p, H3 p = none → Q (.ref p) (upd H3 p (.lst (cutV xs i j)))) : WE X (.Subscript a (.Slice lo hi none p2) pos) σ H Q := ⟨_, pe_slice sl_list WE.pe WO.po WO.po, h⟩
theorem o_none {Q : Option Int → Hp → Prop} (q : Q none H) : WO X none σ H Q := ⟨_, po_none, q⟩
theorem o_some {Q : Option Int → Hp → Prop} (h : WE X e σ H fun x H1 => ∃ i, x = .int i ∧ Q (some i) H1) : WO X (some e) σ H Q := ⟨_, po_some WE.pe, h⟩
/-- a built-in by its name -/
theorem e_blt {id : String} {rc : List V → Hp → VK → Prop} {es : List Expr} (hc : CallR X (.builtin id) rc) (hm : X.mg x = none) (hv : bootBuiltins x = some (.builtin id)) (h : WA X (e :: es) σ H fun vs H1 => rc vs H1 Q)
    (hg : Gl X x := by rfl) (hn : x ≠ "__name__" := by decide) (hd : (x == ("__debug__" : Str)) = false := by decide) (he : starEach (e :: es) X.env = (false, eval e X.env) :: starEach es X.env := by rfl) (hpl : (backTo pos (starEach es X.env)).any (·.1) = false := by rfl) : WE X (.Call (.Name x p2) (e :: es) [] pos) σ H Q :=
  ⟨_, pe_callB hc hg hm hv WA.pa hn hd he hpl, h⟩
end
section
variable {X : Cx} {σ : L2.St} {H : Hp} {Q : VK} {a b c e : Expr} {pos p2 : Pos} {x : Str} {v : V} {r r2 : R2} {es : List Expr} {QA : List V → Hp → Prop} {QT : Bool → Hp → Prop}
theorem e_ty {T : String} {rc : List V → Hp → VK → Prop} (hc : CallR X (.type T) rc) (hm : X.mg x = none) (hv : bootBuiltins x = some (.type T)) (h : WA X (e :: es) σ H fun vs H1 => rc vs H1 Q)
    (hg : Gl X x := by rfl) (hn : x ≠ "__name__" := by decide) (hd : (x == ("__debug__" : Str)) = false := by decide) (he : starEach (e :: es) X.env = (false, eval e X.env) :: starEach es X.env := by rfl) (hpl : (backTo pos (starEach es X.env)).any (·.1) = false := by rfl) : WE X (.Call (.Name x p2) (e :: es) [] pos) σ H Q :=
  ⟨_, pe_callTy hc hg hm hv WA.pa hn hd he hpl, h⟩
theorem a_nil (q : QA [] H) : WA X [] σ H QA := ⟨_, pa_nil, q⟩
theorem a_cons (hp : starEach (e :: es) X.env = (false, eval e X.env) :: starEach es X.env := by rfl) (h : WE X e σ H fun x H1 => WA X es σ H1 fun xs H2 => QA (x :: xs) H2) : WA X (e :: es) σ H QA := ⟨_, pa_cons WE.pe WA.pa hp, h⟩
theorem k_nil (q : QA [] H) : WK X [] σ H QA := ⟨_, pk_nil, q⟩
theorem k_cons {nm : Option Str} {kp : Pos} {ks : List Keyword} (h : WE X e σ H fun x H1 => WK X ks σ H1 fun xs H2 => QA (x :: xs) H2) : WK X (⟨nm, e, kp⟩ :: ks) σ H QA := ⟨_, pk_cons WE.pe WK.pk, h⟩

/-! ### tests -/
theorem t_val (h : WE X e σ H fun x H1 => ∃ k, x = .bl k ∧ QT k H1) (he : ∀ whole, isTrue e X.env whole = (do let v ← whole; standAt e.pos; holding [v] (truthy v)) := by intro _; rfl) : WT X e σ H QT := ⟨_, pt_val WE.pe he, h⟩
theorem t_tru (h : WE X e σ H fun x H1 => ∃ k, TruV X.K x H1 k ∧ QT k H1) (he : ∀ whole, isTrue e X.env whole = (do let v ← whole; standAt e.pos; holding [v] (truthy v)) := by intro _; rfl) : WT X e σ H QT := ⟨_, pt_truth WE.pe he, h⟩
theorem t_cmp {op : CmpOp} (ho : OpR X (compareOp op) r) (hm : behindInMarks op b = false := by first | exact nomark _ | rfl) (h : WE X a σ H fun x H1 => WE X b σ H1 fun y H2 => r x y H2 fun z H3 => ∃ k, z = .bl k ∧ QT k H3) : WT X (.Compare a [op] [b] pos) σ H QT := ⟨_, pt_cmpR ho WE.pe WE.pe hm, h⟩
theorem t_chain {op op' : CmpOp} {r' : R2} (ho : OpR X (compareOp op) r) (ho' : OpR X (compareOp op') r') (hm : lastMarks [op, op'] [b, c] = false := by with_unfolding_all rfl) (h : WE X a σ H fun x H1 => WE X b σ H1 fun y H2 => r x y H2 fun z H3 => ∃ k, z = .bl k ∧ (if k = true then WE X c σ H3 (fun w H4 => r' y w H4 fun z H5 => ∃ k, z = .bl k ∧ QT k H5) else ∃ k', V.bl false = .bl k' ∧ QT k' H3)) : WT X (.Compare a [op, op'] [b, c] pos) σ H QT := ⟨_, pt_chain ho ho' WE.pe WE.pe WE.pe hm, by
    show WE X a σ H fun x H1 => WE X b σ H1 fun y H2 => r x y H2 fun z H3 => ∃ k, z = .bl k ∧ (if k = true then WE X c σ H3 (fun w H4 => r' y w H4 fun z H5 => ∃ k, z = .bl k ∧ QT k H5) else (fun (x : V) H' => ∃ k, x = V.bl k ∧ QT k H') (.bl false) H3)
    exact h⟩
theorem t_not (h : WT X a σ H fun k H1 => QT (!k) H1) : WT X (.UnaryOp .Not a pos) σ H QT := ⟨_, pt_not WT.pt, h⟩
theorem t_wb (h : WB X e σ H QT) : WT X e σ H QT := ⟨_, WB.pw.pt, h⟩
theorem b_and {rest : List Expr} (h : WT X a σ H fun k H1 => if k = true then WB X (.BoolOp .And (b :: rest) pos) σ H1 QT else QT false H1) : WB X (.BoolOp .And (a :: b :: rest) pos) σ H QT := ⟨_, pw_and WT.pt WB.pw, h⟩
theorem b_or {rest : List Expr} (h : WT X a σ H fun k H1 => if k = true then QT true H1 else WB X (.BoolOp .Or (b :: rest) pos) σ H1 QT) : WB X (.BoolOp .Or (a :: b :: rest) pos) σ H QT := ⟨_, pw_or WT.pt WB.pw, h⟩
theorem b_and1 (h : WT X a σ H QT) : WB X (.BoolOp .And [a] pos) σ H QT := ⟨_, pw_and1 WT.pt, h⟩
theorem b_or1 (h : WT X a σ H QT) : WB X (.BoolOp .Or [a] pos) σ H QT := ⟨_, pw_or1 WT.pt, h⟩

/-! ### targets -/
theorem g_name (i : Nat) {QG : L2.St → Hp → Prop} (hN : X.N.Nodup) (hi : X.N[i]? = some x := by rfl) (hx : Loc X.env.scope x := by first | exact Or.inl rfl | exact Or.inr rfl) (hf : X.fn x = true ∨ X.env.scope.names.lookup x = some .local := by first | exact .inl rfl | exact .inr rfl | assumption) (q : QG (σ.set i (some v)) H) : WG X (.Name x pos) v σ H QG := ⟨_, pg_name hN hi hx hf, q⟩
theorem gs_nil {QG : L2.St → Hp → Prop} (q : QG σ H) : WGs X [] [] σ H QG := ⟨_, pgs_nil, rfl, q⟩
theorem gs_cons {QG : L2.St → Hp → Prop} {vs : List V} (hs : (assignEach (e :: es) X.env).map (·.2) = assign e X.env :: (assignEach es X.env).map (·.2) := by rfl) (h : WG X e v σ H fun σ' H' => WGs X es vs σ' H' QG) : WGs X (e :: es) (v :: vs) σ H QG := ⟨_, pgs_cons WG.pg WGs.pgs hs, v, vs, rfl, h⟩
theorem g_tup {QG : L2.St → Hp → Prop} {k n : Nat} {p : Addr} {vs : List V} (hq : SqT X.K H p vs) (hl : vs.length = n) (hc : X.calm = true := by rfl) (hn : (assignEach es X.env).length = n := by rfl) (hst : (assignEach es X.env).findIdx? (·.1) = none := by rfl) (h : WGs X es vs σ H QG) : WG X (.Tuple es k pos) (.ref p) σ H QG := ⟨_, pg_tup hc WGs.pgs hn hst, p, vs, rfl, hq, hl, h⟩

/-! ### statements -/
variable {D : Ends} {st : Stmt} {rest body orelse : List Stmt}
theorem s_nil (q : D.nx σ H) : WSs X [] D σ H := ⟨_, pss_nil, q⟩
theorem s_cons (h : WS X st { D with nx := WSs X rest D } σ H) : WSs X (st :: rest) D σ H := ⟨_, pss_cons WS.ps WSs.pss, h⟩
theorem s_one (h : WS X st D σ H) : WSs X [st] D σ H := ⟨_, pss_one WS.ps, h⟩
theorem s_pass (q : D.nx σ H) : WS X (.Pass pos) D σ H := ⟨_, ps_pass, q⟩
theorem s_break (q : D.bk σ H) : WS X (.Break pos) D σ H := ⟨_, ps_break, q⟩
theorem s_cont (q : D.ct σ H) : WS X (.Continue pos) D σ H := ⟨_, ps_continue, q⟩
theorem s_expr (hs : swapsWith e none pos.line X.env = pure false := by rfl) (h : WE X e σ H fun _ H1 => D.nx σ H1) : WS X (.Expr e pos) D σ H := ⟨_, ps_expr WE.pe hs, h⟩
theorem s_ret (h : WE X e σ H D.rt) : WS X (.Return (some e) pos) D σ H := ⟨_, ps_ret WE.pe, h⟩
theorem s_retN (h : D.rt .non H) : WS X (.Return none pos) D σ H := ⟨_, ps_retN, h⟩
theorem s_if (h : WT X c σ H fun k H1 => if k = true then WSs X body D σ H1 else WSs X orelse D σ H1) : WS X (.If c body orelse pos) D σ H := ⟨_, ps_if WT.pt WSs.pss WSs.pss, h⟩
theorem s_set (i : Nat) (hN : X.N.Nodup) (hi : X.N[i]? = some x := by rfl) (hx : Loc X.env.scope x := by first | exact Or.inl rfl | exact Or.inr rfl) (hs : swapsWith e (some (.Name x p2)) pos.line X.env = pure false := by rfl)
    (hf : X.fn x = true ∨ X.env.scope.names.lookup x = some .local := by first | exact .inl rfl | exact .inr rfl | assumption) (h : WE X e σ H fun v H1 => D.nx (σ.set i (some v)) H1) : WS X (.Assign [.Name x p2] e pos) D σ H := ⟨_, ps_set hN hi hx WE.pe hs hf, h⟩
theorem s_asg {tg : Expr} (hs : swapsWithSole [tg] e pos.line X.env = pure false := by rfl) (hw : swappedStores [tg] e X.env = pure none := by rfl) (h1 : (assignEach [tg] X.env).map (·.2) = [assign tg X.env] := by rfl)
    (h : WE X e σ H fun v H1 => WG X tg v σ H1 D.nx) : WS X (.Assign [tg] e pos) D σ H := ⟨_, ps_asg WE.pe WG.pg hs hw h1, h⟩
theorem s_par (i j : Nat) {x y : Str} {px py pt : Pos} {kt k2 pt2} (hN : X.N.Nodup) (hij : i ≠ j := by decide) (hc : X.calm = true := by rfl) (hi : X.N[i]? = some x := by rfl) (hj : X.N[j]? = some y := by rfl)
    (hx : X.env.scope.names.lookup x = some .local := by rfl) (hy : X.env.scope.names.lookup y = some .local := by rfl) (hw : swappedStores [.Tuple [.Name x px, .Name y py] kt pt] (.Tuple [a, b] k2 pt2) X.env = pure (some [x, y]) := by rfl)
    (hs : swapsWithSole [.Tuple [.Name x px, .Name y py] kt pt] (.Tuple [a, b] k2 pt2) pos.line X.env = pure false := by rfl)
    (h : WA X [a, b] σ H fun vs H1 => ∃ v w, vs = [v, w] ∧ D.nx ((σ.set i (some v)).set j (some w)) H1) : WS X (.Assign [.Tuple [.Name x px, .Name y py] kt pt] (.Tuple [a, b] k2 pt2) pos) D σ H := ⟨_, ps_par hc hN hi hj hij hx hy WA.pa hw hs, h⟩
theorem s_never (h : False) : WS X st D σ H := h.elim
theorem s_fld {f : Str} {o value : Expr} {pos' : Pos} (hs : swapsWith value (some (.Attribute o f pos')) pos.line X.env = pure false := by rfl) (h : sFld X.K (WE X o) (WE X value) f D σ H) : WS X (.Assign [.Attribute o f pos'] value pos) D σ H := ⟨_, ps_fld WE.pe WE.pe hs, h⟩
theorem s_sub {o i value : Expr} {spos : Pos} (h : WE X value σ H fun v H1 => WE X o σ H1 fun ov H2 => WE X i σ H2 fun iv H3 => ∃ p xs k j, ov = .ref p ∧ iv = .int k ∧ H3 p = some (.lst xs) ∧ ixN xs.length k = some j ∧ D.nx σ (upd H3 p (.lst (xs.set j v))))
    (ha : ∀ v, assign (.Subscript o i spos) X.env v = (do
      let ov ← holding [v] (eval o X.env)
      let iv ← holding [v, ov] (eval i X.env)
      standAt spos
      holding [v, ov, iv] (setItem ov iv v)
      release [v, ov, iv] []) := by intro _; rfl)
    (hs : swapsWithSole [.Subscript o i spos] value pos.line X.env = pure false := by rfl) (hw : swappedStores [.Subscript o i spos] value X.env = pure none := by rfl) (h1 : (assignEach [.Subscript o i spos] X.env).map (·.2) = [assign (.Subscript o i spos) X.env] := by rfl) :
    WS X (.Assign [.Subscript o i spos] value pos) D σ H := ⟨_, ps_asg WE.pe (pg_sub WE.pe WE.pe set_list ha) hs hw h1, h⟩

/-! ### loops -/
variable {tg iter : Expr}
def tForR (J : It) (g : TG) (tb : TS) (D : Ends) (σ : L2.St) (H : Hp) : Prop := ∃ W : Nat → Nat → L2.St → Hp → Prop, (∃ m, W 0 m σ H) ∧ ∀ i m σ H, W i m σ H →
  (J.stop i H ∧ D.nx σ H) ∨ (J.go i H ∧ ∃ N : L2.St → Hp → Prop, (∀ σ' H', N σ' H' → ∃ m', m' < m ∧ W (i + 1) m' σ' H') ∧ ∀ x H', J.yld i H x H' → g x σ H' fun σ2 H2 => tb { D with nx := N, ct := N, bk := D.nx } σ2 H2)
theorem s_for (hp : PassesOwn (model X.prog X.w) X.A X.env X.xe := by exact PassesOwn.never) (hc : X.calm = true := by rfl) (hs : ∀ x, foldedSetIterable iter X.env x = pure x := by intro _; rfl)
    (h : WI X tg iter σ H fun J H1 => tForR J (WG X tg) (WSs X body) D σ H1) : WS X (.For tg iter body [] pos) D σ H := ⟨_, ps_for hp hc WI.pi WG.pg WSs.pss hs, h⟩
variable {R : It → Hp → Prop}
theorem i_list (h : WE X e σ H fun x H1 => ∃ a, x = .ref a ∧ (∃ xs, SqL X.K H1 a xs) ∧ R (Itl X.K a) H1) : WI X tg e σ H R := ⟨_, pi_list WE.pe, h⟩
theorem i_tup (h : WE X e σ H fun x H1 => ∃ a, x = .ref a ∧ (∃ xs, SqT X.K H1 a xs) ∧ R (Itt X.K a) H1) : WI X tg e σ H R := ⟨_, pi_tup WE.pe, h⟩
theorem i_rng1 (hm : X.mg "range" = none) (hg : Gl X "range" := by rfl) (hs : starEach [a] X.env = [(false, eval a X.env)] := by rfl) (h : WE X a σ H fun x H1 => ∃ j : Int, x = .int j ∧ -(2 ^ 62) ≤ j ∧ j < 2 ^ 62 ∧ R (Itr 0 j.toNat) H1) : WI X tg (.Call (.Name "range" p2) [a] [] pos) σ H R :=
  ⟨_, pi_range1 hg hm (pa_cons WE.pe pa_nil (by rw [hs]; rfl)) hs, by
    obtain ⟨t, h1, h2⟩ := h
    show WE X a σ H fun x H1 => ∃ j : Int, [x] = [.int j] ∧ -(2 ^ 62) ≤ j ∧ j < 2 ^ 62 ∧ R (Itr 0 j.toNat) H1
    have e : (fun (x : V) (H1 : Hp) => ∃ j : Int, [x] = [V.int j] ∧ -(2 ^ 62) ≤ j ∧ j < 2 ^ 62 ∧ R (Itr 0 j.toNat) H1) = (fun x H1 => ∃ j : Int, x = .int j ∧ -(2 ^ 62) ≤ j ∧ j < 2 ^ 62 ∧ R (Itr 0 j.toNat) H1) := by
      funext x H1
      simp only [List.cons.injEq, and_true]
    rw [e]
    exact ⟨t, h1, h2⟩⟩
theorem i_rng2 (hm : X.mg "range" = none) (hg : Gl X "range" := by rfl) (hs : starEach [a, b] X.env = [(false, eval a X.env), (false, eval b X.env)] := by rfl) (hs2 : starEach [b] X.env = [(false, eval b X.env)] := by rfl)
    (h : WA X [a, b] σ H fun vs H1 => ∃ i j : Int, vs = [.int i, .int j] ∧ (-(2 ^ 62) ≤ i ∧ i < 2 ^ 62 ∧ -(2 ^ 62) ≤ j ∧ j < 2 ^ 62) ∧ R (Itr i (j - i).toNat) H1) : WI X tg (.Call (.Name "range" p2) [a, b] [] pos) σ H R := ⟨_, pi_range2 hg hm WA.pa hs hs2, h⟩
theorem i_enum {elts : List Expr} {kk : Nat} {tpos : Pos} (hm : X.mg "enumerate" = none) (hg : Gl X "enumerate" := by rfl) (hs : starEach [a] X.env = [(false, eval a X.env)] := by rfl)
    (h : WA X [a] σ H fun vs H1 => ∃ p xs, vs = [.ref p] ∧ SqL X.K H1 p xs ∧ R (Ite X.K p) H1) : WI X (.Tuple elts kk tpos) (.Call (.Name "enumerate" p2) [a] [] pos) σ H R := ⟨_, pi_enum hg hm WA.pa hs, h⟩
theorem i_zip {elts : List Expr} {kk : Nat} {tpos : Pos} (hm : X.mg "zip" = none) (hg : Gl X "zip" := by rfl) (hs : starEach [a, b] X.env = (false, eval a X.env) :: starEach [b] X.env := by rfl) (hpl : (backTo pos (starEach [b] X.env)).any (·.1) = false := by rfl)
    (h : WA X [a, b] σ H fun vs H1 => ∃ p q xs ys, vs = [.ref p, .ref q] ∧ SqL X.K H1 p xs ∧ SqL X.K H1 q ys ∧ R (Itz X.K p q) H1) : WI X (.Tuple elts kk tpos) (.Call (.Name "zip" p2) [a, b] [] pos) σ H R := ⟨_, pi_zip hg hm WA.pa hs hpl, h⟩

/-! ### comprehensions: the block's rules are left open, too -/
def GBlk (X : Cx) (scope : Scope) (tg : Expr) : TG := fun v σ H Q => ∀ (s : Shared) (H0 : Hp) (C : Addr) (cl : List (Str × Addr)) (fp : List Addr), WG (X.blk s H0 scope (compEnvC scope cl C X.env) fp) tg v σ H Q
def TBlk (X : Cx) (scope : Scope) (ifs : List Expr) : TT := fun σ H Q => ∀ (s : Shared) (H0 : Hp) (C : Addr) (cl : List (Str × Addr)) (fp : List Addr), WTs (X.blk s H0 scope (compEnvC scope cl C X.env) fp) ifs σ H Q
def EBlk (X : Cx) (scope : Scope) (elt : Expr) : TE := fun σ H Q => ∀ (s : Shared) (H0 : Hp) (C : Addr) (cl : List (Str × Addr)) (fp : List Addr), WE (X.blk s H0 scope (compEnvC scope cl C X.env) fp) elt σ H Q
def tLcR (J : It) (g : TG) (tt : TT) (te : TE) (vs : List Nat) (σ : L2.St) (H1 : Hp) (D : Addr) (Qd : Hp → Prop) : Prop := ∃ W : Nat → Nat → Hp → Prop, (∃ m, W 0 m (upd H1 D (.lst []))) ∧ ∀ i m H, W i m H →
  (J.stop i H ∧ Qd H) ∨ (J.go i H ∧ ∃ Nx : Hp → Prop, (∀ H', Nx H' → ∃ m', m' < m ∧ W (i + 1) m' H') ∧ ∀ x H', J.yld i H x H' → g x (wipe σ vs) H' fun σ2 H2 => wipe σ2 vs = wipe σ vs ∧ tt σ2 H2 fun b H3 =>
    if b = true then te σ2 H3 fun y H4 => ∃ acc, H4 D = some (.lst acc) ∧ acc.length < sizeLine ∧ Nx (upd H4 D (.lst (acc ++ [y]))) else Nx H3)
variable {elt : Expr} {ifs : List Expr} {scope : Scope}
theorem blk_g : ∀ (s : Shared) (H : Hp) (C : Addr) (cl : List (Str × Addr)) (fp : List Addr), PG (X.blk s H scope (compEnvC scope cl C X.env) fp) tg (GBlk X scope tg) := fun s H0 C cl fp => ⟨fun pins s' σ H v u Q I r h => WG.pg.run pins s' σ H v u Q I r (h s H0 C cl fp)⟩
theorem blk_t : ∀ (s : Shared) (H : Hp) (C : Addr) (cl : List (Str × Addr)) (fp : List Addr), PTs (X.blk s H scope (compEnvC scope cl C X.env) fp) ifs (TBlk X scope ifs) := fun s H0 C cl fp => ⟨fun pins s' σ H Q I h => WTs.pts.run pins s' σ H Q I (h s H0 C cl fp)⟩
theorem blk_e : ∀ (s : Shared) (H : Hp) (C : Addr) (cl : List (Str × Addr)) (fp : List Addr), PE (X.blk s H scope (compEnvC scope cl C X.env) fp) elt (EBlk X scope elt) := fun s H0 C cl fp => ⟨fun pins s' σ H Q I h => WE.pe.run pins s' σ H Q I (h s H0 C cl fp)⟩
theorem ts_nil (q : QT true H) : WTs X [] σ H QT := ⟨_, pts_nil, q⟩
theorem ts_one (h : WT X c σ H QT) : WTs X [c] σ H QT := ⟨_, pts_one WT.pt, h⟩
theorem e_lc (own : List (Str × Nat)) (hN : X.N.Nodup) (ok : BlkOk X.N X.env.scope scope own := by exact blkOk_by (by decide +kernel)) (hc : X.calm = true := by rfl) (hs : ∀ x, foldedSetIterable iter X.env x = pure x := by intro _; rfl)
    (h : WI X tg iter σ H fun J H1 => ∀ D, H1 D = none → tLcR J (GBlk X scope tg) (TBlk X scope ifs) (EBlk X scope elt) (own.map (·.2)) σ H1 D (Q (.ref D))) : WE X (.ListComp elt [⟨tg, iter, ifs, 0⟩] scope pos) σ H Q :=
  ⟨_, pe_lc hc hN WI.pi ok blk_g blk_t blk_e hs, h⟩
theorem s_setLc (i : Nat) (own : List (Str × Nat)) (hN : X.N.Nodup) {y : Str} (hy : X.N[i]? = some y := by rfl) (hyl : X.env.scope.names.lookup y = some .local := by rfl)
    (ok : BlkOk X.N X.env.scope scope own := by exact blkOk_by (by decide +kernel)) (hc : X.calm = true := by rfl) (hs : ∀ x, foldedSetIterable iter X.env x = pure x := by intro _; rfl)
    {spos : Pos} (hsw2 : swapsWith (.ListComp elt [⟨tg, iter, ifs, 0⟩] scope pos) (some (.Name y p2)) spos.line X.env = pure true := by exact sw_true rfl rfl rfl (by decide +kernel))
    (h : WI X tg iter σ H fun J H1 => ∀ D, H1 D = none → tLcR J (GBlk X scope tg) (TBlk X scope ifs) (EBlk X scope elt) (own.map (·.2)) σ H1 D (fun H2 => D'.nx (σ.set i (some (.ref D))) H2)) : WS X (.Assign [.Name y p2] (.ListComp elt [⟨tg, iter, ifs, 0⟩] scope pos) spos) D' σ H :=
  ⟨_, ps_setLc hc hN hy hyl hsw2 WI.pi ok blk_g blk_t blk_e hs, h⟩
end
end Lw
namespace Lw
open PySem PySem.Spec L2 Evl

/-! ### calls -/
/-- a def of the module that keeps a promise and lets nothing out -/
structure Cal (P : Program) (w : World) (K : PySem.W.Frag) (mg : Str → Option Value) (base : Heap) (x : Str) (k : Nat) (ps : List Str) (sp : Sp) : Prop where
  ex : ∃ f fd, FnOk P w K mg base CX0 k f fd ps sp ∧ mg x = some (.ref f) ∧ PySem.W.keepIn K (.ref f) = true ∧ Binds K fd ps []
/-- .. called by keywords alone -/
structure CalK (P : Program) (w : World) (K : PySem.W.Frag) (mg : Str → Option Value) (base : Heap) (x : Str) (k : Nat) (ps ks : List Str) (gV : List V → List V) (sp : Sp) : Prop where
  ex : ∃ f fd g, FnOk P w K mg base CX0 k f fd ps sp ∧ mg x = some (.ref f) ∧ PySem.W.keepIn K (.ref f) = true ∧ KBn K fd ps 0 ks g (fun _ zs => gV zs)
section
variable {X : Cx} {σ : L2.St} {H : Hp} {Q : VK} {a b c e o : Expr} {pos p2 apos : Pos} {x m : Str} {v : V} {es : List Expr} {k : Nat} {ps ks : List Str} {sp : Sp} {gV : List V → List V}
theorem e_call (cl : Cal X.prog X.w X.K X.mg X.base x k ps sp) (hr : Room k X.A) (hg : Gl X x := by rfl) (hdb : (x == ("__debug__" : Str)) = false := by decide) (he : starEach (e :: es) X.env = (false, eval e X.env) :: starEach es X.env := by rfl) (hpl : (backTo pos (starEach es X.env)).any (·.1) = false := by rfl)
    (h : WA X (e :: es) σ H fun vs H1 => sp vs H1 Q E0) : WE X (.Call (.Name x p2) (e :: es) [] pos) σ H Q := by
  obtain ⟨f, fd, F, hm, hk, hb⟩ := cl.ex
  refine ⟨_, pe_call F hr hg hm hk hb .nil pass0 WA.pa hdb he hpl, ?_⟩
  show WA X (e :: es) σ H fun vs H1 => sp (vs ++ []) H1 Q E0
  simp only [List.append_nil]
  exact h
theorem e_call0 (cl : Cal X.prog X.w X.K X.mg X.base x k ps sp) (hr : Room k X.A) (hg : Gl X x := by rfl) (hdb : (x == ("__debug__" : Str)) = false := by decide)
    (h : sp [] H Q E0) : WE X (.Call (.Name x p2) [] [] pos) σ H Q := by
  obtain ⟨f, fd, F, hm, hk, hb⟩ := cl.ex
  exact ⟨_, pe_call0 F hr hg hm hk hb .nil pass0 hdb, h⟩
theorem pe_callN0 {CX : CXT} {f : Addr} {fd : FuncData} {E : XK} {kws : List Keyword} {tk : TA} {g : List Value → List Value → List Value} {gW : List V → List V → List V} (F : FnOk X.prog X.w X.K X.mg X.base CX k f fd ps sp) (hr : Room k X.A) (hg : Gl X x) (hm : X.mg x = some (.ref f)) (hk : PySem.W.keepIn X.K (.ref f) = true) (hb : KBn X.K fd ps 0 ks g gW) (hx : Passes CX X E)
    (hkw : PK X kws tk) (hall : (backToKw pos (keywordEach kws X.env)).all (·.1.isSome) = true := by rfl) (hks : (backToKw pos (keywordEach kws X.env)).filterMap (·.1) = ks := by rfl)
    (hdb : (x == ("__debug__" : Str)) = false := by decide)
    (hpl : ((backTo pos (starEach [] X.env)).any (·.1) || (backToKw pos (keywordEach kws X.env)).any (·.1.isNone)) = false := by rfl) :
    PE X (.Call (.Name x p2) [] kws pos) (tCallN 0 ks.length sp gW E tNil tk) := by
  refine ⟨fun pins s σ H Q I h => ?_⟩
  refine wpAny_Call_Name_kw (ld_glob I hg hm ?_ hdb)
  refine PySem.W.callWith_KW0 (h₀ := X.base) I.ok.mod.kin hk hall ?_ hpl
  refine thn (hkw.run pos pins s σ H _ I h) fun ws s2 ⟨zs, H2, I2, rz, l1, l2, q2⟩ => ⟨I2.kIn, ?_⟩
  rw [hks]
  exact run_fnN (us := []) (vs := []) F hr hb hx I2 .nil rz rfl l2 q2
theorem e_callK {kws : List Keyword} (cl : CalK X.prog X.w X.K X.mg X.base x k ps ks gV sp) (hr : Room k X.A) (hg : Gl X x := by rfl) (hdb : (x == ("__debug__" : Str)) = false := by decide)
    (hall : (backToKw pos (keywordEach kws X.env)).all (·.1.isSome) = true := by rfl) (hks : (backToKw pos (keywordEach kws X.env)).filterMap (·.1) = ks := by rfl)
    (hpl : ((backTo pos (starEach [] X.env)).any (·.1) || (backToKw pos (keywordEach kws X.env)).any (·.1.isNone)) = false := by rfl)
    (h : WK X kws σ H fun zs H1 => ([] : List V).length = 0 ∧ zs.length = ks.length ∧ sp (gV zs) H1 Q E0) : WE X (.Call (.Name x p2) [] kws pos) σ H Q := by
  obtain ⟨f, fd, g, F, hm, hk, hb⟩ := cl.ex
  exact ⟨_, pe_callN0 F hr hg hm hk hb pass0 WK.pk hall hks hdb hpl, h⟩
end
/-- a method of the class at C | its __init__ | a property -/
structure CalM (P : Program) (w : World) (K : PySem.W.Frag) (mg : Str → Option Value) (base : Heap) (C : Addr) (m : Str) (k : Nat) (ps : List Str) (sp : Sp) : Prop where
  ex : ∃ f fd, FnOk P w K mg base CX0 k f fd ps sp ∧ Cls K C ∧ Meth K C m f ∧ Binds K fd ps []
structure CalI (P : Program) (w : World) (K : PySem.W.Frag) (mg : Str → Option Value) (base : Heap) (C : Addr) (x : Str) (k : Nat) (ps : List Str) (sp : Sp) : Prop where
  ex : ∃ f fd, FnOk P w K mg base CX0 k f fd ps sp ∧ mg x = some (.ref C) ∧ Mk K C f ∧ Binds K fd ps []
structure CalP (P : Program) (w : World) (K : PySem.W.Frag) (mg : Str → Option Value) (base : Heap) (C : Addr) (m : Str) (k : Nat) (sp : Sp) : Prop where
  ex : ∃ p g fd ps, FnOk P w K mg base CX0 k g fd ps sp ∧ Cls K C ∧ PropOf K C m p g ∧ Binds K fd ps []
section
variable {X : Cx} {σ : L2.St} {H : Hp} {Q : VK} {a b c e o : Expr} {pos p2 apos : Pos} {x m : Str} {v : V} {es : List Expr} {k : Nat} {ps ks : List Str} {sp : Sp} {C : Addr}
theorem e_meth {pl : Sem Bool} (cl : CalM X.prog X.w X.K X.mg X.base C m k ps sp) (hr : Room k X.A)
    (hst : starEach (e :: es) X.env = (false, eval e X.env) :: starEach es X.env := by rfl) (hpl : (backTo pos (starEach es X.env)).any (·.1) = false := by rfl)
    (ht : eval (.Call (.Attribute o m apos) (e :: es) [] pos) X.env = (do
      let ov ← eval o X.env
      standAt apos.atName
      let (f, first) ← holding [ov] (getMethod ov m pl)
      callWith pos f first (backTo pos (starEach (e :: es) X.env)) (backToKw pos (keywordEach [] X.env))) := by rfl)
    (h : WE X o σ H fun x H1 => ∃ a dx fs, x = .ref a ∧ H1 a = some (.ins C dx fs) ∧ fs.lookup m = none ∧ WA X (e :: es) σ H1 fun vs H2 => sp (x :: vs) H2 Q E0) : WE X (.Call (.Attribute o m apos) (e :: es) [] pos) σ H Q := by
  obtain ⟨f, fd, F, hc, hm, hb⟩ := cl.ex
  refine ⟨_, pe_meth (pl := pl) WE.pe hc hm F hr hb .nil pass0 WA.pa hst hpl ht, ?_⟩
  show WE X o σ H fun x H1 => ∃ a dx fs, x = .ref a ∧ H1 a = some (.ins C dx fs) ∧ fs.lookup m = none ∧ WA X (e :: es) σ H1 fun vs H2 => sp (x :: (vs ++ [])) H2 Q E0
  simp only [List.append_nil]
  exact h
theorem e_meth0 {pl : Sem Bool} (cl : CalM X.prog X.w X.K X.mg X.base C m k ps sp) (hr : Room k X.A)
    (ht : eval (.Call (.Attribute o m apos) [] [] pos) X.env = (do
      let ov ← eval o X.env
      standAt apos.atName
      let (f, first) ← holding [ov] (getMethod ov m pl)
      callWith pos f first (backTo pos (starEach [] X.env)) (backToKw pos (keywordEach [] X.env))) := by rfl)
    (h : WE X o σ H fun x H1 => ∃ a dx fs, x = .ref a ∧ H1 a = some (.ins C dx fs) ∧ fs.lookup m = none ∧ sp [x] H1 Q E0) : WE X (.Call (.Attribute o m apos) [] [] pos) σ H Q := by
  obtain ⟨f, fd, F, hc, hm, hb⟩ := cl.ex
  exact ⟨_, pe_meth0 (pl := pl) WE.pe hc hm F hr hb .nil pass0 ht, h⟩
theorem e_make (cl : CalI X.prog X.w X.K X.mg X.base C x k ps sp) (hr : Room (k + 1) X.A) (hg : Gl X x := by rfl) (hdb : (x == ("__debug__" : Str)) = false := by decide) (he : starEach (e :: es) X.env = (false, eval e X.env) :: starEach es X.env := by rfl) (hpl : (backTo pos (starEach es X.env)).any (·.1) = false := by rfl)
    (h : WA X (e :: es) σ H fun vs H1 => ∀ x dx, H1 x = none → H1 dx = none → dx ≠ x → sp (.ref x :: vs) (upd (upd H1 dx (.own x)) x (.ins C dx [])) (fun v H2 => v = .non ∧ Q (.ref x) H2) E0) : WE X (.Call (.Name x p2) (e :: es) [] pos) σ H Q := by
  obtain ⟨f, fd, F, hm, hM, hb⟩ := cl.ex
  refine ⟨_, pe_make hM F hr hg hm hb .nil pass0 WA.pa hdb he hpl, ?_⟩
  show WA X (e :: es) σ H fun vs H1 => ∀ x dx, H1 x = none → H1 dx = none → dx ≠ x → sp (.ref x :: (vs ++ [])) (upd (upd H1 dx (.own x)) x (.ins C dx [])) (fun v H2 => v = .non ∧ Q (.ref x) H2) E0
  simp only [List.append_nil]
  exact h
theorem e_prop (cl : CalP X.prog X.w X.K X.mg X.base C m k sp) (hr : Room (k + 1) X.A) (hab : attributeBase e m X.env (eval e X.env) = eval e X.env := by rfl)
    (h : WE X e σ H fun x H1 => ∃ a dx fs, x = .ref a ∧ H1 a = some (.ins C dx fs) ∧ sp [.ref a] H1 Q E0) : WE X (.Attribute e m pos) σ H Q := by
  obtain ⟨p, g, fd, ps, F, hc, hp, hb⟩ := cl.ex
  exact ⟨_, pe_prop WE.pe hc hp F hr hb .nil pass0 hab, h⟩
end

/-! ### what is known, and what grows -/
abbrev M0 : Addr → Prop := fun _ => False
/-- B: objects that nobody changes any more; H: all that is tracked. Those in M may change -/
structure Gr (M : Addr → Prop) (B H B' H' : Hp) : Prop where
  b : Ex B B'
  k : Ex B' H'
  h : ∀ a o, ¬ M a → H a = some o → H' a = some o
  n : ∀ a, H a ≠ none → H' a ≠ none
  f : ∀ a, B a = none → H a ≠ none → B' a = none
section
variable {M : Addr → Prop} {B H B1 H1 B2 H2 : Hp} {p : Addr} {o : HO}
theorem Gr.refl (k : Ex B H) : Gr M B H B H := ⟨.refl B, k, fun _ _ _ h => h, fun _ h => h, fun _ h _ => h⟩
theorem Gr.trans (x : Gr M B H B1 H1) (y : Gr M B1 H1 B2 H2) : Gr M B H B2 H2 :=
  ⟨x.b.trans y.b, y.k, fun a o m h => y.h a o m (x.h a o m h), fun a h => y.n a (x.n a h), fun a h1 h2 => y.f a (x.f a h1 h2) (x.n a h2)⟩
theorem Gr.weak {M' : Addr → Prop} (x : Gr M B H B1 H1) (h : ∀ a, M a → M' a) : Gr M' B H B1 H1 := ⟨x.b, x.k, fun a o m => x.h a o fun z => m (h a z), x.n, x.f⟩
theorem Gr.up (x : Gr M0 B H B1 H1) : Gr M B H B1 H1 := x.weak fun _ z => z.elim
theorem Gr.ex (x : Gr M0 B H B1 H1) : Ex H H1 := fun a o h => x.h a o (fun z => z) h
theorem none_of_ex (k : Ex B H) (h : H p = none) : B p = none := fresh_back k h
theorem Gr.free (x : Gr M B H B1 H1) (h : H1 p = none) : H p = none := by
  cases q : H p with
  | none => rfl
  | some o => exact absurd h (x.n p (by rw [q]; exact fun z => nomatch z))
theorem upd_none {a : Addr} (h : upd H p o a = none) : H a = none := by
  unfold upd at h
  split at h
  · cases h
  · exact h
theorem upd_nn {a : Addr} (h : H a ≠ none) : upd H p o a ≠ none := fun z => h (upd_none z)
/-- a new object, the owner's -/
theorem Gr.own (x : Gr M B H B1 H1) (hp : H1 p = none) : Gr M B H B1 (upd H1 p o) :=
  ⟨x.b, x.k.trans (Ex.new hp), fun a u m h => by rw [upd_ne (ne_of_none (x.h a u m h) hp)]; exact x.h a u m h, fun a h => upd_nn (x.n a h), x.f⟩
/-- a new object that stays -/
theorem Gr.new (x : Gr M B H B1 H1) (hp : H1 p = none) : Gr M B H (upd B1 p o) (upd H1 p o) := by
  have hb := none_of_ex x.k hp
  refine ⟨x.b.trans (Ex.new hb), fun a u h => ?_, (x.own hp).h, (x.own hp).n, fun a h1 h2 => ?_⟩
  · by_cases e : a = p
    · subst e
      rw [upd_same] at h ⊢
      exact h
    · rw [upd_ne e] at h ⊢
      exact x.k a u h
  · have ne : a ≠ p := fun e => x.n a h2 (e ▸ hp)
    rw [upd_ne ne]
    exact x.f a h1 h2
/-- what the owner does not change any more -/
theorem Gr.learn (x : Gr M B H B1 H1) (h0 : H p = none) (hb : B1 p = none) (hp : H1 p = some o) : Gr M B H (upd B1 p o) H1 := by
  refine ⟨x.b.trans (Ex.new hb), fun a u h => ?_, x.h, x.n, fun a h1 h2 => ?_⟩
  · by_cases e : a = p
    · subst e
      rw [upd_same] at h
      cases h
      exact hp
    · rw [upd_ne e] at h
      exact x.k a u h
  · have ne : a ≠ p := fun e => h2 (e ▸ h0)
    rw [upd_ne ne]
    exact x.f a h1 h2
/-- the owner changes its own -/
theorem Gr.mut (x : Gr M B H B1 H1) (h0 : M p ∨ H p = none) (hb : B1 p = none) : Gr M B H B1 (upd H1 p o) := by
  refine ⟨x.b, fun a u h => ?_, fun a u m h => ?_, fun a h => upd_nn (x.n a h), x.f⟩
  · have ne : a ≠ p := fun e => by rw [e, hb] at h; cases h
    rw [upd_ne ne]
    exact x.k a u h
  · have ne : a ≠ p := fun e => by
      subst e
      rcases h0 with z | z
      · exact m z
      · rw [z] at h; cases h
    rw [upd_ne ne]
    exact x.h a u m h
end

/-! ### data -/
class Dat (α : Type) [DecidableEq α] where
  toD : α → PyData
  lay : ∀ a, (toD a).canLay0 = true
  eqv : ∀ a b, PyData.eqv (toD a) (toD b) = decide (a = b)
  dep : Nat
  dep_le : ∀ a, (toD a).depth ≤ dep
theorem beq_dec {α : Type} [BEq α] [LawfulBEq α] [DecidableEq α] (a b : α) : (a == b) = decide (a = b) := by
  rw [Bool.eq_iff_iff, beq_iff_eq, decide_eq_true_eq]
instance : Dat Int where
  toD := .int
  lay _ := rfl
  eqv a b := by simp only [PyData.eqv]; exact beq_dec a b
  dep := 0
  dep_le _ := Nat.le_refl _
instance : Dat Bool where
  toD := .bool
  lay _ := rfl
  eqv a b := by simp only [PyData.eqv]; exact beq_dec a b
  dep := 0
  dep_le _ := Nat.le_refl _
instance : Dat (Option Int) where
  toD
    | .none => .none
    | .some i => .int i
  lay a := by cases a <;> rfl
  eqv a b := by
    cases a <;> cases b <;> simp only [PyData.eqv]
    · rfl
    · rfl
    · rfl
    · rw [beq_dec]
      exact decide_eq_decide.mpr ⟨fun e => by rw [e], fun e => Option.some.inj e⟩
  dep := 0
  dep_le a := by cases a <;> exact Nat.le_refl _
section
variable {α β : Type} [DecidableEq α] [Dat α] [DecidableEq β] [Dat β]
theorem layAll_map : ∀ xs : List α, PyData.canLayAll0 (xs.map Dat.toD) = true
  | [] => rfl
  | x :: xs => by
    rw [List.map_cons, PyData.canLayAll0, Dat.lay x, layAll_map xs]
    rfl
theorem depAll_map : ∀ xs : List α, PyData.depthAll (xs.map Dat.toD) ≤ Dat.dep α
  | [] => Nat.zero_le _
  | x :: xs => by
    rw [List.map_cons, PyData.depthAll]
    exact Nat.max_le.mpr ⟨Dat.dep_le x, depAll_map xs⟩
theorem eqvAll_dat : ∀ xs ys : List α, PyData.eqvAll (xs.map Dat.toD) (ys.map Dat.toD) = decide (xs = ys)
  | [], [] => by simp only [List.map_nil, PyData.eqvAll, decide_true]
  | [], _ :: _ => by simp [PyData.eqvAll]
  | _ :: _, [] => by simp [PyData.eqvAll]
  | x :: xs, y :: ys => by
    rw [List.map_cons, List.map_cons, PyData.eqvAll, Dat.eqv x y, eqvAll_dat xs ys, ← Bool.decide_and]
    exact decide_eq_decide.mpr (by rw [List.cons.injEq])
instance : Dat (List α) where
  toD xs := .list (xs.map Dat.toD)
  lay xs := by simp only [PyData.canLay0]; exact layAll_map xs
  eqv xs ys := by simp only [PyData.eqv]; exact eqvAll_dat xs ys
  dep := Dat.dep α + 1
  dep_le xs := by simp only [PyData.depth]; exact Nat.succ_le_succ (depAll_map xs)
instance : Dat (α × β) where
  toD p := .tuple [Dat.toD p.1, Dat.toD p.2]
  lay p := by simp only [PyData.canLay0, PyData.canLayAll0, Dat.lay, Bool.and_self]
  eqv p q := by
    simp only [PyData.eqv, PyData.eqvAll]
    rw [Dat.eqv, Dat.eqv, Bool.and_true, ← Bool.decide_and]
    exact decide_eq_decide.mpr ⟨fun e => Prod.ext e.1 e.2, fun e => by rw [e]; exact ⟨rfl, rfl⟩⟩
  dep := max (Dat.dep α) (Dat.dep β) + 1
  dep_le p := by
    simp only [PyData.depth, PyData.depthAll]
    exact Nat.succ_le_succ (Nat.max_le.mpr ⟨Nat.le_trans (Dat.dep_le p.1) (Nat.le_max_left _ _), Nat.max_le.mpr ⟨Nat.le_trans (Dat.dep_le p.2) (Nat.le_max_right _ _), Nat.zero_le _⟩⟩)
end
mutual
theorem Dp.mono {K : PySem.W.Frag} {B B' : Hp} (e : Ex B B') : ∀ {v : V} {d : PyData}, Dp K B v d → Dp K B' v d
  | _, _, .non => .non
  | _, _, .bl b => .bl b
  | _, _, .int b => .int b
  | _, _, .str b => .str b
  | _, _, .lst h a => .lst (ex_l e h) (DpAll.mono e a)
  | _, _, .tup h a => .tup (ex_t e h) (DpAll.mono e a)
theorem DpAll.mono {K : PySem.W.Frag} {B B' : Hp} (e : Ex B B') : ∀ {vs : List V} {ds : List PyData}, DpAll K B vs ds → DpAll K B' vs ds
  | _, _, .nil => .nil
  | _, _, .cons h a => .cons (Dp.mono e h) (DpAll.mono e a)
end
/-- v is x, as B tells -/
def Dt {α : Type} [DecidableEq α] [Dat α] (K : PySem.W.Frag) (B : Hp) (v : V) (x : α) : Prop := Dp K B v (Dat.toD x)
def Das {α : Type} [DecidableEq α] [Dat α] (K : PySem.W.Frag) (B : Hp) (vs : List V) (xs : List α) : Prop := DpAll K B vs (xs.map Dat.toD)
section
variable {α β : Type} [DecidableEq α] [Dat α] [DecidableEq β] [Dat β] {K : PySem.W.Frag} {B B' H : Hp} {v w : V} {vs ws : List V}
theorem Dt.mono {x : α} (e : Ex B B') (h : Dt K B v x) : Dt K B' v x := Dp.mono e h
theorem Das.mono {xs : List α} (e : Ex B B') (h : Das K B vs xs) : Das K B' vs xs := DpAll.mono e h
theorem dt_int {i : Int} (h : Dt K B v i) : v = .int i := by
  unfold Dt at h
  cases h
  rfl
theorem dt_bl {i : Bool} (h : Dt K B v i) : v = .bl i := by
  unfold Dt at h
  cases h
  rfl
theorem dt_none (h : Dt K B v (none : Option Int)) : v = .non := by
  unfold Dt at h
  cases h
  rfl
theorem dt_some {i : Int} (h : Dt K B v (some i)) : v = .int i := by
  unfold Dt at h
  cases h
  rfl
theorem dtI (i : Int) : Dt K B (.int i) i := Dp.int i
theorem dtB (i : Bool) : Dt K B (.bl i) i := Dp.bl i
theorem dtN : Dt K B .non (none : Option Int) := Dp.non
theorem dtS (i : Int) : Dt K B (.int i) (some i) := Dp.int i
theorem dt_list {xs : List α} (h : Dt K B v xs) : ∃ a vs, v = .ref a ∧ SqL K B a vs ∧ Das K B vs xs := by
  unfold Dt at h
  cases h with
  | lst h1 h2 => exact ⟨_, _, rfl, h1, h2⟩
theorem dtL {a : Addr} {xs : List α} (h : SqL K B a vs) (hs : Das K B vs xs) : Dt K B (.ref a) xs := Dp.lst h hs
theorem dt_pair {x : α × β} (h : Dt K B v x) : ∃ a y z, v = .ref a ∧ SqT K B a [y, z] ∧ Dt K B y x.1 ∧ Dt K B z x.2 := by
  unfold Dt at h
  cases h with
  | tup h1 h2 =>
    cases h2 with
    | cons a b =>
      cases b with
      | cons c d =>
        cases d
        exact ⟨_, _, _, rfl, h1, a, c⟩
theorem dtP {a : Addr} {y z : V} {p : α} {q : β} (h : SqT K B a [y, z]) (h1 : Dt K B y p) (h2 : Dt K B z q) : Dt K B (.ref a) (p, q) := Dp.tup h (.cons h1 (.cons h2 .nil))
theorem Das.nil : Das K B [] ([] : List α) := DpAll.nil
theorem Das.cons {x : α} {xs : List α} (h : Dt K B v x) (hs : Das K B vs xs) : Das K B (v :: vs) (x :: xs) := DpAll.cons h hs
theorem Das.len : ∀ {vs : List V} {xs : List α}, Das K B vs xs → vs.length = xs.length
  | [], [], _ => rfl
  | [], _ :: _, h => by cases h
  | _ :: _, [], h => by cases h
  | _ :: vs, _ :: xs, h => by
    cases h with
    | cons h hs =>
      rw [List.length_cons, List.length_cons, Das.len (show Das K B vs xs from hs)]
theorem Das.get : ∀ {vs : List V} {xs : List α} {i : Nat} {v : V}, Das K B vs xs → vs[i]? = some v → ∃ x, xs[i]? = some x ∧ Dt K B v x
  | [], _, _, _, _, e => by simp at e
  | _ :: _, [], _, _, h, _ => by cases h
  | u :: vs, x :: xs, 0, v, h, e => by
    cases h with
    | cons h hs =>
      have e' : u = v := by simpa using e
      subst e'
      exact ⟨x, rfl, h⟩
  | u :: vs, x :: xs, i + 1, v, h, e => by
    cases h with
    | cons h hs => exact Das.get (i := i) (show Das K B vs xs from hs) (by simpa using e)
theorem Das.at {xs : List α} {i : Nat} {x : α} (h : Das K B vs xs) (e : xs[i]? = some x) : ∃ v, vs[i]? = some v ∧ Dt K B v x := by
  have hl := h.len
  have hi : i < xs.length := (List.getElem?_eq_some_iff.mp e).1
  have hv : vs[i]? = some (vs[i]'(by omega)) := List.getElem?_eq_getElem (by omega)
  obtain ⟨y, e2, d⟩ := h.get hv
  rw [e] at e2
  cases e2
  exact ⟨_, hv, d⟩
theorem Das.app : ∀ {vs : List V} {xs : List α} {ws : List V} {ys : List α}, Das K B vs xs → Das K B ws ys → Das K B (vs ++ ws) (xs ++ ys)
  | [], [], _, _, _, k => k
  | [], _ :: _, _, _, h, _ => by cases h
  | _ :: _, [], _, _, h, _ => by cases h
  | _ :: vs, _ :: xs, _, _, h, k => by
    cases h with
    | cons h hs => exact .cons h (Das.app (show Das K B vs xs from hs) k)
theorem Das.snoc {x : α} {xs : List α} (hs : Das K B vs xs) (h : Dt K B v x) : Das K B (vs ++ [v]) (xs ++ [x]) := hs.app (.cons h .nil)
theorem das_ints : ∀ {ns : List Int}, Das K B (ns.map V.int) ns
  | [] => .nil
  | n :: ns => .cons (dtI n) das_ints
theorem Das.ints : ∀ {vs : List V} {ns : List Int}, Das K B vs ns → vs = ns.map V.int
  | [], [], _ => rfl
  | [], _ :: _, h => by cases h
  | _ :: _, [], h => by cases h
  | v :: vs, n :: ns, h => by
    cases h with
    | cons h hs =>
      rw [List.map_cons, dt_int (show Dt K B v n from h), Das.ints (show Das K B vs ns from hs)]
/-- == and != of data -/
theorem eq_dat {x y : α} {H : Hp} {Q : VK} (hx : Dt K B v x) (hy : Dt K B w y) (k : Ex B H) (hd : Dat.dep α ≤ 64) (q : Q (.bl (decide (x = y))) H) : rEqD K v w H Q :=
  ⟨_, _, Dp.mono k hx, Dp.mono k hy, by unfold SeqAt.shaped; rw [Dat.lay, Bool.true_and]; exact decide_eq_true (Nat.le_trans (Dat.dep_le x) hd), by unfold SeqAt.shaped; rw [Dat.lay, Bool.true_and]; exact decide_eq_true (Nat.le_trans (Dat.dep_le y) hd), by rw [Dat.eqv]; exact q⟩
theorem ne_dat {x y : α} {H : Hp} {Q : VK} (hx : Dt K B v x) (hy : Dt K B w y) (k : Ex B H) (hd : Dat.dep α ≤ 64) (q : Q (.bl (!decide (x = y))) H) : rNeD K v w H Q :=
  ⟨_, _, Dp.mono k hx, Dp.mono k hy, by unfold SeqAt.shaped; rw [Dat.lay, Bool.true_and]; exact decide_eq_true (Nat.le_trans (Dat.dep_le x) hd), by unfold SeqAt.shaped; rw [Dat.lay, Bool.true_and]; exact decide_eq_true (Nat.le_trans (Dat.dep_le y) hd), by rw [Dat.eqv]; exact q⟩
end
end Lw
namespace Lw
open PySem PySem.Spec L2 Evl

/-! ### comprehensions, with what is known -/
section
variable {J : It} {n : Nat} {G : Hp → Prop} {Y : Nat → Hp → V → Hp → Prop} {M : Addr → Prop} {B H1 : Hp} {g : TG} {tt : TT} {te : TE} {vs : List Nat} {σ : L2.St} {D : Addr} {Qd : Hp → Prop}
theorem lcB (w : Walk J n G Y) (S : Nat → Hp → Hp → List V → Prop) (k : Ex B H1) (hD : H1 D = none) (hM : ¬ M D)
    (h0 : S 0 B H1 []) (hst : ∀ i B' H' acc l, B' D = none → S i B' H' acc → S i B' (upd H' D (.lst l)) acc)
    (hG : ∀ i B' H' acc, i ≤ n → Gr M B H1 B' H' → S i B' H' acc → G H')
    (hs : ∀ i x B' H' H'' acc, i < n → Gr M B H1 B' H' → B' D = none → H' D = some (.lst acc) → S i B' H' acc → Y i H' x H'' →
      ∀ (KT : VK) (KF : Hp → Prop), (∀ y B4 H4, Gr M B' H' B4 H4 → acc.length < sizeLine → S (i + 1) B4 H4 (acc ++ [y]) → KT y H4) → (∀ B3 H3, Gr M B' H' B3 H3 → S (i + 1) B3 H3 acc → KF H3) →
      g x (wipe σ vs) H'' fun σ2 H2 => wipe σ2 vs = wipe σ vs ∧ tt σ2 H2 fun b H3 => if b = true then te σ2 H3 KT else KF H3)
    (hd : ∀ B' H' acc, Gr M B H1 B' H' → B' D = none → H' D = some (.lst acc) → S n B' H' acc → Qd H') : tLcR J g tt te vs σ H1 D Qd := by
  have g0 : Gr M B H1 B (upd H1 D (.lst [])) := (Gr.refl k).own hD
  refine lc_it w (fun i H => ∃ B' acc, Gr M B H1 B' H ∧ B' D = none ∧ H D = some (.lst acc) ∧ S i B' H acc) ⟨B, [], g0, none_of_ex k hD, upd_same, hst _ _ _ _ _ (none_of_ex k hD) h0⟩ (fun i H hi ⟨B', acc, g, _, _, s⟩ => hG i B' H acc hi g s) ?_ (fun H ⟨B', acc, g, b, e, s⟩ => hd B' H acc g b e s)
  rintro i x H H' hi ⟨B', acc, g, b, e, s⟩ y
  refine hs i x B' H H' acc hi g b e s y _ _ (fun y B4 H4 g4 hl s4 => ⟨acc, g4.h _ _ hM e, hl, B4, acc ++ [y], ?_, g4.f _ b (by rw [e]; exact fun z => nomatch z), upd_same, hst _ _ _ _ _ (g4.f _ b (by rw [e]; exact fun z => nomatch z)) s4⟩) fun B3 H3 g3 s3 => ⟨B3, acc, g.trans g3, g3.f _ b (by rw [e]; exact fun z => nomatch z), g3.h _ _ hM e, s3⟩
  exact (g.trans g4).mut (.inr hD) (g4.f _ b (by rw [e]; exact fun z => nomatch z))
/-- a list of data, from the items of xs -/
theorem lcF {K : PySem.W.Frag} {α β : Type} [DecidableEq β] [Dat β] {xs : List α} (f : α → Option β) (w : Walk J xs.length G Y) (k : Ex B H1) (hD : H1 D = none) (hz : xs.length < sizeLine)
    (hG : ∀ B' H', Gr M0 B H1 B' H' → G H')
    (hs : ∀ i a x B' H' H'', xs[i]? = some a → Gr M0 B H1 B' H' → Y i H' x H'' →
      ∀ (KT : VK) (KF : Hp → Prop), (∀ b y B4 H4, f a = some b → Gr M0 B' H' B4 H4 → Dt K B4 y b → KT y H4) → (∀ B3 H3, f a = none → Gr M0 B' H' B3 H3 → KF H3) →
      g x (wipe σ vs) H'' fun σ2 H2 => wipe σ2 vs = wipe σ vs ∧ tt σ2 H2 fun b H3 => if b = true then te σ2 H3 KT else KF H3)
    (hd : ∀ B' H' acc, Gr M0 B H1 B' H' → B' D = none → H' D = some (.lst acc) → Das K B' acc (xs.filterMap f) → Qd H') : tLcR J g tt te vs σ H1 D Qd := by
  refine lcB (M := M0) w (fun i B' _ acc => Das K B' acc ((xs.take i).filterMap f) ∧ acc.length ≤ i) k hD (fun z => z) ⟨by simpa using Das.nil, Nat.le_refl _⟩ (fun _ _ _ _ _ _ s => s) (fun i B' H' acc _ g _ => hG B' H' g) ?_ (fun B' H' acc g b e s => hd B' H' acc g b e (by simpa using s.1))
  intro i x B' H' H'' acc hi g b e s y KT KF kt kf
  have hx : xs[i]? = some xs[i] := List.getElem?_eq_getElem hi
  have e2 : xs.take (i + 1) = xs.take i ++ [xs[i]] := by rw [List.take_add_one, hx]; rfl
  refine hs i xs[i] x B' H' H'' hx g y KT KF (fun b y B4 H4 fb g4 d => kt y B4 H4 g4 (by omega) ⟨?_, by rw [List.length_append, List.length_singleton]; omega⟩) fun B3 H3 fb g3 => kf B3 H3 g3 ⟨?_, by omega⟩
  · rw [e2, List.filterMap_append, List.filterMap_cons, fb]
    exact (s.1.mono g4.b).snoc d
  · rw [e2, List.filterMap_append, List.filterMap_cons, fb]
    simpa using s.1.mono g3.b
end
section
variable {K : PySem.W.Frag} {B H1 : Hp} {g : TG} {tt : TT} {te : TE} {vs : List Nat} {σ : L2.St} {D : Addr} {Qd : Hp → Prop}
/-- over a list of data that stays -/
theorem lcL {α β : Type} [DecidableEq α] [Dat α] [DecidableEq β] [Dat β] {xs : List α} {a : Addr} {ws : List V} (f : α → Option β) (hL : SqL K B a ws) (hA : Das K B ws xs) (k : Ex B H1) (hD : H1 D = none) (hz : xs.length < sizeLine)
    (hs : ∀ (i : Nat) y x B' H', xs[i]? = some y → Dt K B' x y → Gr M0 B H1 B' H' →
      ∀ (KT : VK) (KF : Hp → Prop), (∀ b z B4 H4, f y = some b → Gr M0 B' H' B4 H4 → Dt K B4 z b → KT z H4) → (∀ B3 H3, f y = none → Gr M0 B' H' B3 H3 → KF H3) →
      g x (wipe σ vs) H' fun σ2 H2 => wipe σ2 vs = wipe σ vs ∧ tt σ2 H2 fun b H3 => if b = true then te σ2 H3 KT else KF H3)
    (hd : ∀ B' H' acc, Gr M0 B H1 B' H' → B' D = none → H' D = some (.lst acc) → Das K B' acc (xs.filterMap f) → Qd H') : tLcR (Itl K a) g tt te vs σ H1 D Qd := by
  have wk : Walk (Itl K a) xs.length (fun H => SqL K H a ws) (YAt ws) := by
    rw [← hA.len]
    exact walk_list
  refine lcF (K := K) f wk k hD hz (fun B' H' g => ex_l (g.b.trans g.k) hL) ?_ hd
  rintro i y x B' H' H'' hy g ⟨rfl, hx⟩ KT KF kt kf
  obtain ⟨y', e, d⟩ := hA.get hx
  rw [hy] at e
  cases e
  exact hs i y x B' H'' hy (d.mono g.b) g KT KF kt kf
/-- over a list of ints, whoever owns it -/
theorem lcI {β : Type} [DecidableEq β] [Dat β] {ns : List Int} {a : Addr} (f : Int → Option β) (hL : SqL K H1 a (ns.map V.int)) (k : Ex B H1) (hD : H1 D = none) (hz : ns.length < sizeLine)
    (hs : ∀ (i : Nat) y B' H', ns[i]? = some y → Gr M0 B H1 B' H' →
      ∀ (KT : VK) (KF : Hp → Prop), (∀ b z B4 H4, f y = some b → Gr M0 B' H' B4 H4 → Dt K B4 z b → KT z H4) → (∀ B3 H3, f y = none → Gr M0 B' H' B3 H3 → KF H3) →
      g (.int y) (wipe σ vs) H' fun σ2 H2 => wipe σ2 vs = wipe σ vs ∧ tt σ2 H2 fun b H3 => if b = true then te σ2 H3 KT else KF H3)
    (hd : ∀ B' H' acc, Gr M0 B H1 B' H' → B' D = none → H' D = some (.lst acc) → Das K B' acc (ns.filterMap f) → Qd H') : tLcR (Itl K a) g tt te vs σ H1 D Qd := by
  have wk : Walk (Itl K a) ns.length (fun H => SqL K H a (ns.map V.int)) (YAt (ns.map V.int)) := by
    have e := walk_list (K := K) (a := a) (xs := ns.map V.int)
    rw [List.length_map] at e
    exact e
  refine lcF (K := K) f wk k hD hz (fun B' H' g => ex_l g.ex hL) ?_ hd
  rintro i y x B' H' H'' hy g ⟨rfl, hx⟩ KT KF kt kf
  rw [List.getElem?_map, hy] at hx
  cases hx
  exact hs i y B' H'' hy g KT KF kt kf
/-- over range(n) -/
theorem lcR {β : Type} [DecidableEq β] [Dat β] {n : Nat} (f : Nat → Option β) (k : Ex B H1) (hD : H1 D = none) (hz : n < sizeLine)
    (hs : ∀ i B' H', i < n → Gr M0 B H1 B' H' →
      ∀ (KT : VK) (KF : Hp → Prop), (∀ b z B4 H4, f i = some b → Gr M0 B' H' B4 H4 → Dt K B4 z b → KT z H4) → (∀ B3 H3, f i = none → Gr M0 B' H' B3 H3 → KF H3) →
      g (.int (i : Nat)) (wipe σ vs) H' fun σ2 H2 => wipe σ2 vs = wipe σ vs ∧ tt σ2 H2 fun b H3 => if b = true then te σ2 H3 KT else KF H3)
    (hd : ∀ B' H' acc, Gr M0 B H1 B' H' → B' D = none → H' D = some (.lst acc) → Das K B' acc ((List.range n).filterMap f) → Qd H') : tLcR (Itr 0 n) g tt te vs σ H1 D Qd := by
  have wk : Walk (Itr 0 n) (List.range n).length (fun _ => True) (YFn fun i => .int (0 + i)) := by
    rw [List.length_range]
    exact walk_range
  refine lcF (K := K) f wk k hD (by rw [List.length_range]; exact hz) (fun _ _ _ => trivial) ?_ hd
  rintro i y x B' H' H'' hy gg ⟨rfl, rfl⟩ KT KF kt kf
  have hi : i < n := by
    have := (List.getElem?_eq_some_iff.mp hy).1
    rwa [List.length_range] at this
  rw [List.getElem?_range hi] at hy
  cases hy
  have e : (0 : Int) + (i : Nat) = (i : Nat) := Int.zero_add _
  show g (.int ((0 : Int) + (i : Nat))) _ _ _
  rw [e]
  exact hs i B' H'' hi gg KT KF kt kf
end
theorem Gr.made {B H B' H' : Hp} {x dx : Addr} {o1 o2 : HO} (g : Gr (fun a => a = x) B (upd (upd H dx o1) x o2) B' H') (hx : H x = none) (hd : H dx = none) : Gr M0 B H B' H' := by
  have e0 : Ex H (upd (upd H dx o1) x o2) := (Ex.new hd).mut hx
  refine ⟨g.b, g.k, fun a o _ h => g.h a o (ne_of_none h hx) (e0 a o h), fun a h => g.n a (upd_nn (upd_nn h)), fun a h1 h2 => g.f a h1 (upd_nn (upd_nn h2))⟩
theorem ifd {p A B : Prop} [Decidable p] (h1 : p → A) (h2 : ¬ p → B) : if decide p = true then A else B := by
  by_cases h : p
  · rw [if_pos (decide_eq_true h)]
    exact h1 h
  · rw [if_neg (by rw [decide_eq_true_eq]; exact h)]
    exact h2 h
theorem ifn {p A B : Prop} [Decidable p] (h1 : ¬ p → A) (h2 : p → B) : if (!decide p) = true then A else B := by
  by_cases h : p
  · rw [if_neg (by rw [decide_eq_true h]; decide)]
    exact h2 h
  · rw [if_pos (by rw [decide_eq_false h]; rfl)]
    exact h1 h
theorem ifb {b : Bool} {A B : Prop} (h1 : b = true → A) (h2 : b = false → B) : if b = true then A else B := by
  cases b with
  | true => exact (if_pos rfl).symm ▸ h1 rfl
  | false => rw [if_neg (by decide)]; exact h2 rfl
theorem ift {b : Bool} {A B : Prop} (e : b = true) (h : A) : if b = true then A else B := by rw [if_pos e]; exact h
theorem iff_ {b : Bool} {A B : Prop} (e : b = false) (h : B) : if b = true then A else B := by rw [if_neg (by rw [e]; decide)]; exact h
end Lw
namespace Lw
open PySem PySem.Spec PyProof.Rows L2 Evl
/-! ### len of an instance with its own __len__ -/
section
variable {X : Cx} {k : Nat} {C f : Addr} {fd : FuncData} {ps : List Str} {sp : Sp}
structure CalL (P : Program) (w : World) (K : PySem.W.Frag) (mg : Str → Option Value) (base : Heap) (C : Addr) (k : Nat) (ps : List Str) (sp : Sp) : Prop where
  ex : ∃ f fd, FnOk P w K mg base CX0 k f fd ps sp ∧ PySem.W.findIn K (.ref C) "__len__" = some (some (.ref f)) ∧ PySem.W.isFn K (.ref f) = true ∧ Binds K fd ps []
theorem call_lenOwn (cl : CalL X.prog X.w X.K X.mg X.base C k ps sp) (hr : Room (k + 1) X.A) :
    CallR X (.builtin "len") (fun xs H Q => ∃ a dx fs, xs = [.ref a] ∧ H a = some (.ins C dx fs) ∧ sp [.ref a] H (fun v H' => ∃ n : Int, v = .int n ∧ (0 ≤ n ∧ n < 2 ^ 63) ∧ Q (.int n) H') E0) := by
  obtain ⟨f, fd, F, hs, hf, hb⟩ := cl.ex
  intro pins s σ H xs us Q I r h
  obtain ⟨a, dx, fs, rfl, ea, h⟩ := h
  obtain ⟨u1, rfl, r1⟩ := vals1 r
  cases (show u1 = Value.ref a from r1)
  obtain ⟨mA, O, _⟩ := ins_get I.hok ea
  obtain ⟨od, J, _⟩ := O.look
  obtain ⟨m, hF⟩ := I.fr
  have hl := F.len _ _ _ _ h
  have r2 : Vals [V.ref a] [Value.ref a] := .cons rfl .nil
  refine PySem.W.len_K hF I.ok.mod.kin J hs hf ?_
  refine wpAny_call (codeAny_mono (F.run X.A.in1 X.stack s H ⟨[.ref a], []⟩ [.ref a] [.ref a] _ E0 hr.in1 I.env0.in1 (by
    have := hb s [.ref a] I.kIn (by simpa using hl)
    simpa using this) r2 h) fun rr s' hq => ?_)
  cases rr with
  | error e => exact False.elim (pass0 (X := X.nox) pins σ H s e s' (I.wish _) hq)
  | ok fl =>
    cases fl with
    | ret u =>
      obtain ⟨v, H', I3, rv, n, hv, hn, q⟩ := I.after hq
      subst hv
      obtain ⟨t, rfl⟩ := rv
      exact ⟨hn, ⟨.int n, H', I3.tok _, ⟨_, rfl⟩, q⟩⟩
    | next => exact False.elim hq
    | brk => exact False.elim hq
    | cont => exact False.elim hq
end
end Lw
namespace Lw
open PySem PySem.Spec L2 Evl
/-! ### a list of three ints from which is drawn -/
abbrev dk (x y z : Int) : HO := .lst [.int x, .int y, .int z]
def DeckAt (H : Hp) (d : Addr) : Prop := ∃ x y z, H d = some (dk x y z)
theorem DeckAt.nn {H : Hp} {d : Addr} (h : DeckAt H d) : H d ≠ none := by
  obtain ⟨x, y, z, e⟩ := h
  rw [e]
  exact fun z => nomatch z
theorem DeckAt.upd {H : Hp} {d D : Addr} {o : HO} (h : DeckAt H d) (n : d ≠ D) : DeckAt (upd H D o) d := by
  obtain ⟨x, y, z, e⟩ := h
  exact ⟨x, y, z, by rw [upd_ne n]; exact e⟩
theorem DeckAt.ne {H : Hp} {d D : Addr} (h : DeckAt H d) (n : H D = none) : d ≠ D := fun e => h.nn (e ▸ n)
theorem DeckAt.new {H : Hp} {d D : Addr} {o : HO} (h : DeckAt H d) (n : H D = none) : DeckAt (L2.upd H D o) d := h.upd (h.ne n)
theorem DeckAt.ex {H H' : Hp} {d : Addr} (h : DeckAt H d) (e : Ex H H') : DeckAt H' d := by
  obtain ⟨x, y, z, q⟩ := h
  exact ⟨x, y, z, e _ _ q⟩
theorem DeckAt.gr {B H B' H' : Hp} {d : Addr} (h : DeckAt H d) (g : Gr M0 B H B' H') : DeckAt H' d := h.ex g.ex
abbrev Md (d : Addr) : Addr → Prop := fun a => a = d
theorem Gr.deck {B H B' H' : Hp} {d : Addr} {x y z : Int} (g : Gr (Md d) B H B' H') (hb : B' d = none) : Gr (Md d) B H B' (upd H' d (dk x y z)) := g.mut (.inl rfl) hb
theorem Gr.bd {M : Addr → Prop} {B H B' H' : Hp} {d : Addr} (g : Gr M B H B' H') (hb : B d = none) (hd : H d ≠ none) : B' d = none := g.f d hb hd
/-- a deck and what is known beside it -/
structure Dk (B H : Hp) (d : Addr) : Prop where
  k : Ex B H
  b : B d = none
  at_ : DeckAt H d
theorem Dk.gr {B H B' H' : Hp} {d : Addr} (h : Dk B H d) (g : Gr M0 B H B' H') : Dk B' H' d := ⟨g.k, g.f d h.b h.at_.nn, h.at_.gr g⟩
theorem Dk.go {B H B' H' : Hp} {d : Addr} (h : Dk B H d) (g : Gr (Md d) B H B' H') (a : DeckAt H' d) : Dk B' H' d := ⟨g.k, g.f d h.b h.at_.nn, a⟩
theorem Dk.own {B H : Hp} {d p : Addr} {o : HO} (k : Dk B H d) (hp : H p = none) : Dk B (upd H p o) d := k.gr ((Gr.refl k.k).own hp)
theorem Dk.new {B H : Hp} {d p : Addr} {o : HO} (k : Dk B H d) (hp : H p = none) : Dk (L2.upd B p o) (L2.upd H p o) d := k.gr ((Gr.refl k.k).new hp)
section
variable {J : It} {n : Nat} {G : Hp → Prop} {Y : Nat → Hp → V → Hp → Prop} {B H1 : Hp} {g : TG} {tt : TT} {te : TE} {vs : List Nat} {σ : L2.St} {D d : Addr} {Qd : Hp → Prop}
/-- ints that are drawn -/
theorem lcInts (w : Walk J n G Y) (P : Int → Prop) (k : Dk B H1 d) (hD : H1 D = none) (hn : n < sizeLine)
    (hG : ∀ B' H', Gr (Md d) B H1 B' H' → Dk B' H' d → G H')
    (hs : ∀ i x B' H' H'', i < n → Gr (Md d) B H1 B' H' → Dk B' H' d → Y i H' x H'' → ∀ (KT : VK) (KF : Hp → Prop), (∀ z B4 H4, Gr (Md d) B' H' B4 H4 → Dk B4 H4 d → P z → KT (.int z) H4) →
      g x (wipe σ vs) H'' fun σ2 H2 => wipe σ2 vs = wipe σ vs ∧ tt σ2 H2 fun b H3 => if b = true then te σ2 H3 KT else KF H3)
    (hd : ∀ B' H' (ns : List Int), Gr (Md d) B H1 B' H' → Dk B' H' d → B' D = none → H' D = some (.lst (ns.map V.int)) → ns.length = n → (∀ z ∈ ns, P z) → Qd H') : tLcR J g tt te vs σ H1 D Qd := by
  have hdD : d ≠ D := k.at_.ne hD
  refine lcB (M := Md d) w (fun i B' H' acc => Dk B' H' d ∧ ∃ ns : List Int, acc = ns.map V.int ∧ ns.length = i ∧ ∀ z ∈ ns, P z) k.k hD (fun z => hdD z.symm) ⟨k, [], rfl, rfl, fun z hz => nomatch hz⟩ (fun i B' H' acc l hb ⟨⟨k1, k2, k3⟩, s⟩ => ⟨⟨fun a u e => by rw [upd_ne (ne_of_none e hb)]; exact k1 a u e, k2, k3.upd hdD⟩, s⟩) (fun i B' H' acc _ g s => hG B' H' g s.1) ?_ ?_
  · intro i x B' H' H'' acc hi g b e s y KT KF kt kf
    obtain ⟨dk', ns, rfl, hl, hp⟩ := s
    refine hs i x B' H' H'' hi g dk' y KT KF fun z B4 H4 g4 d4 pz => kt _ B4 H4 g4 (by rw [List.length_map]; omega) ⟨d4, ns ++ [z], by rw [List.map_append]; rfl, by rw [List.length_append, hl]; rfl, fun q hq => ?_⟩
    rcases List.mem_append.mp hq with h | h
    · exact hp q h
    · rw [List.mem_singleton.mp h]; exact pz
  · intro B' H' acc g b e s
    obtain ⟨dk', ns, rfl, hl, hp⟩ := s
    exact hd B' H' ns g dk' b e hl hp
end
section
variable {X : Cx} {σ : L2.St} {H : Hp} {Q : VK} {e o : Expr} {pos ap : Pos}
/-- a built-in type's method -/
theorem e_bm {T : String} {name : Str} {id : String} {r : V → List V → Hp → VK → Prop} {es : List Expr} (pa : PySem.PlainAttrs T) (slot : PySem.Slot T name id) (hty : typeOf (.builtin id) = pure (.type "method_descriptor")) (hm : MtR X id r)
    (h : WE X o σ H fun x H1 => tyV X.K T x H1 ∧ WA X (e :: es) σ H1 fun vs H2 => r x vs H2 Q) (hbase : attributeBase o name X.env (eval o X.env) = eval o X.env := by rfl)
    (hfew : ((backTo pos (starEach (e :: es) X.env)).all (fun x => !x.1) && (backToKw pos (keywordEach [] X.env)).all (fun x => x.1.isSome)
      && decide ((e :: es).length + ([] : List Keyword).length + (if ([] : List Keyword).isEmpty then 0 else 1) < 30)) = true := by rfl)
    (hline : (ap.endLine == pos.line) = true := by rfl) (hs : starEach (e :: es) X.env = (false, eval e X.env) :: starEach es X.env := by rfl) (hplain : (backTo pos (starEach es X.env)).any (·.1) = false := by rfl) : WE X (.Call (.Attribute o name ap) (e :: es) [] pos) σ H Q :=
  ⟨_, pe_bm pa slot hty hm WE.pe WA.pa hbase hfew hline hs hplain, h⟩
end
/-- what holds behind a statement, on all its ways -/
theorem s_join {X : Cx} {st : Stmt} {D : Ends} {σ : L2.St} {H : Hp} (P : L2.St → Hp → Prop) (h1 : WS X st { D with nx := P } σ H) (h2 : ∀ σ H, P σ H → D.nx σ H) : WS X st D σ H := by
  refine ⟨fun D σ H => ∃ P, WS X st { D with nx := P } σ H ∧ ∀ σ H, P σ H → D.nx σ H, ⟨fun pins s σ H D I h => ?_⟩, P, h1, h2⟩
  obtain ⟨P, h1, h2⟩ := h
  refine thn (WS.ps.run pins s σ H _ I h1) fun f s' q => ?_
  cases f with
  | next => obtain ⟨σ', H', I', q⟩ := q; exact ⟨σ', H', I', h2 _ _ q⟩
  | brk => exact q
  | cont => exact q
  | ret u => exact q
theorem walk_r0 {n : Nat} : Walk (Itr 0 n) n (fun _ => True) (fun i H x H' => H' = H ∧ x = .int (i : Nat)) :=
  (walk_range (lo := 0)).mono (fun _ h => h) fun i H x H' _ _ y => ⟨y.1, by rw [y.2]; show V.int (0 + (i : Nat)) = _; rw [Int.zero_add]⟩
end Lw
namespace Lw
open PySem PySem.W PySem.Calls PyProof.Rows Builtin
section
variable {prog : Program} {w : World} {A : Around} {E : Value → Shared → Prop} {s : Shared} {K : Frag} {x y C f : Addr} {ox oy : Obj} {od oe : Option Obj}
theorem ifBound_B {M : Model} {id : String} {name : Str} {args : List Value} {Q : Option Value → Shared → Prop} (X : K.In s.heap) (I : InstAt s.heap x ox C od) (hs : findIn K (.ref C) name = some (some (.builtin id)))
    (hb : ∀ self, bindSpecial (.builtin id) self = pure (.builtin id, [self])) (h : wpAny M A (call (.builtin id) (.ref x :: args)) (fun v => Q (some v)) E s) : wpAny M A (callSpecialIfBound? (.ref x) name args) Q E s := by
  simp only [callSpecialIfBound?, bindSpecialIfBound?]
  refine wpAny_holding (wpAny_bind (wpAny_bind (wpAny_bind (I.type.here ((looks_findIn X hs).here ?_)))))
  simp only [hb]
  refine wpAny_bind (wpAny_askSetting (wpAny_ite ?_))
  have fin : wpAny M A (call (.builtin id) ([.ref x] ++ args) >>= fun v => pure (some v)) Q E s := wpAny_bind (wpAny_mono h (fun v s' h' => wpAny_pure h') fun _ _ h' => h')
  split
  · exact wpAny_bind (wpAny_pure (wpAny_pure fin))
  · exact wpAny_tryCatch (wpAny_bind (wpAny_pure (wpAny_pure fin)))
theorem ne_own {Q : Value → Shared → Prop} (hu : A.units < cLine) (hu1 : A.in1.units < cLine) (X : K.In s.heap) (I : InstAt s.heap x ox C od) (J : InstAt s.heap y oy C oe)
    (hn : findIn K (.ref C) (cmpInfo .NotEq).2.1 = some (some (.builtin "object.__ne__"))) (hm : mroIn K C (.type "object") = some true) (he : findIn K (.ref C) "__eq__" = some (some (.ref f))) (hf : isFn K (.ref f) = true)
    (h : wpAny (model prog w) A.in1 (call (.ref f) [.ref x, .ref y]) (fun v s' => ∃ b, v = .bool b ∧ Q (.bool (!b)) s') E s) : wpAny (model prog w) A (richCompare .NotEq (.ref x) (.ref y)) Q E s := by
  have one : wpAny (model prog w) A (tryCompare (.ref x) (cmpInfo .NotEq).2.1 (.ref y)) (fun r s' => ∃ v, r = some v ∧ Q v s') E s := by
    unfold tryCompare
    refine wpAny_bind (ifBound_B X I hn PySem.F.slot_object_ne.bind ?_)
    refine wpAny_call (codeAny_call_builtin PySem.F.slot_object_ne.plain PySem.F.entry_object_ne (check_slot (i := "object.__ne__") (owner := "object") (n := "__ne__") (by decide +kernel) (by decide +kernel) (I.type.andThen (looks_mroIn X hm)) (PySem.F.args_object_ne_2 _ _) ?_))
    unfold Builtin.«object.__ne__»
    refine wpAny_bind (m := slotArgs "__ne__" 1 _) (wpAny_pure ?_)
    refine wpAny_bind (m := cRoomFor _ _) (wpAny_cRoomFor hu1 ?_)
    refine wpAny_bind (m := callSpecialIfBound? (.ref x) (Str.ofString "__eq__") _) (ifBound_K X I he hf (wpAny_mono h (fun r s' hr => ?_) fun _ _ e => e))
    obtain ⟨b, rfl, hq⟩ := hr
    refine wpAny_bind (m := truthy (.bool b)) (wpAny_truthy_bool ?_)
    exact wpAny_pure (wpAny_pure ⟨_, rfl, hq⟩)
  unfold richCompare
  simp only [oneThing_ref]
  refine wpAny_holding (wpAny_bind (wpAny_cRoomFor hu ?_))
  refine wpAny_bind (I.type.here (wpAny_bind (J.type.here ?_)))
  rw [show (Value.ref C != Value.ref C) = false from by simp]
  simp only [Bool.false_eq_true, if_false]
  refine wpAny_bind (wpAny_pure ?_)
  simp only [Bool.false_eq_true, if_false]
  refine wpAny_bind (wpAny_mono one (fun r s' z => ?_) fun _ _ e => e)
  obtain ⟨v, rfl, hq⟩ := z
  exact wpAny_pure hq
end
end Lw
namespace Lw
open PySem PySem.Spec L2 Evl
/-- the text's own == -/
structure CalE (P : Program) (w : World) (K : PySem.W.Frag) (mg : Str → Option Value) (base : Heap) (C : Addr) (k : Nat) (ps : List Str) (sp : Sp) : Prop where
  ex : ∃ f fd, FnOk P w K mg base CX0 k f fd ps sp ∧ PySem.W.findIn K (.ref C) "__eq__" = some (some (.ref f)) ∧ PySem.W.isFn K (.ref f) = true ∧ Binds K fd ps []
  ne : PySem.W.findIn K (.ref C) (cmpInfo .NotEq).2.1 = some (some (.builtin "object.__ne__"))
  mro : PySem.W.mroIn K C (.type "object") = some true
section
variable {X : Cx} {k : Nat} {C f : Addr} {fd : FuncData} {ps : List Str} {sp : Sp}
def rOwn (C : Addr) (sp : Sp) (g : Bool → Bool) : R2 := fun x y H Q => ∃ a b dx dy fs gs, x = .ref a ∧ y = .ref b ∧ H a = some (.ins C dx fs) ∧ H b = some (.ins C dy gs) ∧ sp [.ref a, .ref b] H (fun v H' => ∃ k, v = .bl k ∧ Q (.bl (g k)) H') E0
theorem op_neOwn (cl : CalE X.prog X.w X.K X.mg X.base C k ps sp) (hr : Room (k + 1) X.A) : OpR X (compareOp .NotEq) (rOwn C sp fun k => !k) := by
  obtain ⟨f, fd, F, hs, hf, hb⟩ := cl.ex
  intro pins s σ H x y u v Q I rx ry h
  obtain ⟨a, b, dx, dy, fs, gs, rfl, rfl, ea, eb, h⟩ := h
  cases (show u = Value.ref a from rx)
  cases (show v = Value.ref b from ry)
  obtain ⟨mA, O, _⟩ := ins_get I.hok ea
  obtain ⟨od, J, _⟩ := O.look
  obtain ⟨mB, O', _⟩ := ins_get I.hok eb
  obtain ⟨od', J', _⟩ := O'.look
  have hl := F.len _ _ _ _ h
  have r2 : Vals [V.ref a, V.ref b] [Value.ref a, Value.ref b] := .cons rfl (.cons rfl .nil)
  refine PySem.W.cmp_ofNotEq (ne_own hr.units0 hr.in1.units0 I.kIn J J' cl.ne cl.mro hs hf ?_)
  refine wpAny_call (codeAny_mono (F.run X.A.in1 X.stack s H ⟨[.ref a, .ref b], []⟩ [.ref a, .ref b] [.ref a, .ref b] _ E0 hr.in1 I.env0.in1 (by
    have := hb s [.ref a, .ref b] I.kIn (by simpa using hl)
    simpa using this) r2 h) fun rr s' hq => ?_)
  cases rr with
  | error e => exact False.elim (pass0 (X := X.nox) pins σ H s e s' (I.wish _) hq)
  | ok fl =>
    cases fl with
    | ret u =>
      obtain ⟨v, H', I3, rv, n, hv, q⟩ := I.after hq
      subst hv
      cases rv
      exact ⟨n, rfl, ⟨.bl (!n), H', I3, rfl, q⟩⟩
    | next => exact False.elim hq
    | brk => exact False.elim hq
    | cont => exact False.elim hq
theorem op_eqOwn (cl : CalE X.prog X.w X.K X.mg X.base C k ps sp) (hr : Room k X.A) : OpR X (compareOp .Eq) (rOwn C sp fun k => k) := by
  obtain ⟨f, fd, F, hs, hf, hb⟩ := cl.ex
  intro pins s σ H x y u v Q I rx ry h
  obtain ⟨a, b, dx, dy, fs, gs, rfl, rfl, ea, eb, h⟩ := h
  cases (show u = Value.ref a from rx)
  cases (show v = Value.ref b from ry)
  obtain ⟨mA, O, _⟩ := ins_get I.hok ea
  obtain ⟨od, J, _⟩ := O.look
  obtain ⟨mB, O', _⟩ := ins_get I.hok eb
  obtain ⟨od', J', _⟩ := O'.look
  obtain ⟨m, hF⟩ := I.fr
  have hl := F.len _ _ _ _ h
  have r2 : Vals [V.ref a, V.ref b] [Value.ref a, Value.ref b] := .cons rfl (.cons rfl .nil)
  show wpAny _ _ (richCompare .Eq (.ref a) (.ref b)) _ _ _
  refine PySem.W.cmp_K (op := .Eq) (tb := .ref C) hr.units0 hF I.ok.mod.kin J J'.type (by simp [PySem.W.notFirst]) hs hf ?_
  refine wpAny_call (codeAny_mono (F.run X.A X.stack s H ⟨[.ref a, .ref b], []⟩ [.ref a, .ref b] [.ref a, .ref b] _ E0 hr I.env0 (by
    have := hb s [.ref a, .ref b] I.kIn (by simpa using hl)
    simpa using this) r2 h) fun rr s' hq => ?_)
  cases rr with
  | error e => exact False.elim (pass0 (X := X.nox) pins σ H s e s' (I.wish _) hq)
  | ok fl =>
    cases fl with
    | ret u =>
      obtain ⟨v, H', I3, rv, n, hv, q⟩ := I.after hq
      subst hv
      cases rv
      exact ⟨.bl n, H', I3, rfl, q⟩
    | next => exact False.elim hq
    | brk => exact False.elim hq
    | cont => exact False.elim hq
end
section
variable {M : Addr → Prop} {B H B1 H1 B' H' : Hp}
/-- knowing less at the start, nothing at the end -/
theorem Gr.base (x : Gr M B1 H B' H') (e : Ex B B1) : Gr M B H B H' := ⟨.refl B, (e.trans x.b).trans x.k, x.h, x.n, fun _ h _ => h⟩
theorem Gr.fresh {d G : Addr} {B2 H2 : Hp} (x : Gr (Md d) B H B1 H1) (y : Gr (Md G) B1 H1 B2 H2) (hG : H G = none) : Gr (Md d) B H B2 H2 :=
  ⟨x.b.trans y.b, y.k, fun a o m h => y.h a o (fun e => by rw [e, hG] at h; cases h) (x.h a o m h), fun a h => y.n a (x.n a h), fun a h1 h2 => y.f a (x.f a h1 h2) (x.n a h2)⟩
theorem ex_put {G : Addr} {o : HO} (k : Ex B H) (e : H G = some o) : Ex (upd B G o) H := fun a u h => by
  by_cases z : a = G
  · subst z
    rw [upd_same] at h
    rw [e, h]
  · rw [upd_ne z] at h
    exact k a u h
end
section
variable {X : Cx} {σ : L2.St} {H : Hp} {Q : VK} {e o a : Expr} {pos p2 p3 ap pos2 : Pos}
/-- a built-in type's method without arguments -/
theorem e_bm0 {T : String} {name : Str} {id : String} {r : V → List V → Hp → VK → Prop} (pa : PySem.PlainAttrs T) (slot : PySem.Slot T name id) (hty : typeOf (.builtin id) = pure (.type "method_descriptor")) (hm : MtR X id r)
    (h : WE X o σ H fun x H1 => tyV X.K T x H1 ∧ r x [] H1 Q) (hbase : attributeBase o name X.env (eval o X.env) = eval o X.env := by rfl) (hline : (ap.endLine == pos.line) = true := by rfl) : WE X (.Call (.Attribute o name ap) [] [] pos) σ H Q :=
  ⟨_, pe_bm0 pa slot hty hm WE.pe hbase hline, h⟩
/-- list(range(n)) -/
theorem e_listRg (hml : X.mg "list" = none) (hmr : X.mg "range" = none) (hc : X.calm = true := by rfl) (hg : Gl X "list" := by rfl) (hg2 : Gl X "range" := by rfl)
    (na : starEach [a] X.env = (false, eval a X.env) :: starEach [] X.env := by rfl) (na2 : starEach [.Call (.Name "range" p3) [a] [] pos2] X.env = (false, eval (.Call (.Name "range" p3) [a] [] pos2) X.env) :: starEach [] X.env := by rfl)
    (h : WE X a σ H fun x H1 => ∃ n, x = .int n ∧ RgOk 0 n ∧ ∀ q, H1 q = none → Q (.ref q) (upd H1 q (.lst (rgV 0 n)))) : WE X (.Call (.Name "list" p2) [.Call (.Name "range" p3) [a] [] pos2] [] pos) σ H Q :=
  ⟨_, pe_listRg hc hg hml (prg_1 hg2 hmr WE.pe na) na2, h⟩
end
/-- the parameters' order -/
def perm2 {α : Type} : List α → List α
  | [x, y] => [y, x]
  | l => l
def perm3 {α : Type} : List α → List α
  | [x, y, z] => [z, y, x]
  | l => l
theorem vals_perm2 {vs : List V} {us : List Value} (r : Vals vs us) : Vals (perm2 vs) (perm2 us) :=
  match r with
  | .nil => .nil
  | .cons a .nil => .cons a .nil
  | .cons a (.cons b .nil) => .cons b (.cons a .nil)
  | .cons a (.cons b (.cons c d)) => .cons a (.cons b (.cons c d))
theorem vals_perm3 {vs : List V} {us : List Value} (r : Vals vs us) : Vals (perm3 vs) (perm3 us) :=
  match r with
  | .nil => .nil
  | .cons a .nil => .cons a .nil
  | .cons a (.cons b .nil) => .cons a (.cons b .nil)
  | .cons a (.cons b (.cons c .nil)) => .cons c (.cons b (.cons a .nil))
  | .cons a (.cons b (.cons c (.cons d e))) => .cons a (.cons b (.cons c (.cons d e)))
end Lw
namespace PySem
open Sem (wp)
theorem tree_kw {prog : Program} {w : World} {A : Around} {E : Value → Shared → Prop} {s : Shared} {id : String} {b : Builtin} {args : List Value} {kw : List (Str × Value)} {Q : Value → Shared → Prop} (hk : builtinKind id = none) (hp : plainId id = true)
    (hb : entryFor table id = some b) (ha : argsOk id ⟨args, kw⟩)
    (hc : wpAny (model prog w) A.in1 (b ⟨args, kw⟩) (fun fin s' => match fin with
      | .done f => (match (Except.ok f : Result) with | .ok (.ret v) => Q v s' | .ok _ => False | .error e => E e s')
      | .again c' => c'.quiet = true ∧ codeAny (model prog w) A c' (fun r s' => match r with | .ok (.ret v) => Q v s' | .ok _ => False | .error e => E e s') s') E s) : wpAny (model prog w) A (call (.builtin id) args kw) Q E s := by
  refine wpAny_call (codeAny_call_builtin hp hb ?_)
  simp only [checkBuiltinCall, hk]
  cases hsig : Manifest.signature? id with
  | none => exact wpAny_pure hc
  | some sig =>
    have ha' : Bind.checkArgs id sig ⟨args, kw⟩ = pure () := by simpa only [argsOk, hsig] using ha
    simp only [ha']
    exact wpAny_pure hc

section
variable {prog : Program} {w : World} {A : Around} {R : Result → Shared → Prop} {I : Addr} {fp wr : List Addr} {n : Nat} {P : Nat → Value → Prop} {St : Nat → Heap → Prop}
theorem best_max (d : Value) (W : Walks prog w A.in1 I fp wr n P St) (bt : Nat → Nat → Bool) (hcmp : CmpOf prog w A.in1 .Gt P bt) (S : Addr) (hSf : S ∉ fp) :
    ∀ (k j : Nat) (s : Shared) (its : Array Value) (c : Nat), n - j = k → j ≤ n → St j s.heap →
    ((j = 0 ∧ its = #[]) ∨ ∃ vb, its = #[vb, vb] ∧ 0 < j ∧ P (argBest bt (j - 1)) vb) →
    s.heap.get? S = some { cls := .type "list", dict := none, data := .seq its c, slots := #[] } →
    (∀ v h' tk, (n = 0 ∧ v = d ∨ 0 < n ∧ P (argBest bt (n - 1)) v) → (∀ b o, b ∉ wr → b ≠ S → s.heap.get? b = some o → h'.get? b = some o) → R (.ok (.ret v)) { s with heap := h', toks := tk }) →
    codeAny (model prog w) A (.builtin "max.loop" ⟨[.ref I, .none, .ref S], [("default", d)]⟩) R s := by
  have hSw : S ∉ wr := fun h => hSf (W.sub _ h)
  have hn : (toString "max" ++ toString ".loop" : String) = "max.loop" := by decide
  intro k
  induction k with
  | zero =>
    intro j s its c hk hj hst hi hS hR
    have hin : j = n := by omega
    subst hin
    refine codeAny_builtin F.entry_max_loop ?_
    rw [Around.under_plainId F.plain_max_loop _]
    show wpAny _ A.in1 (seqItems? (.ref S) >>= _) _ _ s
    refine wpAny_bind (wpAny_seqItems hS rfl ?_)
    show wpAny _ A.in1 (tryCatch (pyNext (.ref I)) _ >>= _) _ _ s
    refine wpAny_bind (wpAny_tryCatch (W.done s _ _ hst fun h' tk hk' => ?_))
    rcases hi with ⟨e0, rfl⟩ | ⟨vb, rfl, h0, hP⟩
    · refine wpAny_bind (wpAny_rule ?_)
      exact wpAny_pure (hR d _ tk (.inl ⟨e0, rfl⟩) fun b o hbw _ e => hk' b o hbw e)
    · have hS' := hk' S _ hSw hS
      show wpAny _ A.in1 (updateSeq S (fun _ => #[]) >>= _) _ _ _
      refine wpAny_bind ?_
      refine wpAny_updateSeq hS' rfl (wpAny_bind (wpAny_letGo (wpAny_pure ?_)))
      exact hR vb _ tk (.inr ⟨h0, hP⟩) fun b o hbw hbS e => (Heap.get?_update_other _ _ (Ne.symm hbS)).trans (hk' b o hbw e)
  | succ k ih =>
    intro j s its c hk hj hst hi hS hR
    have hlt : j < n := by omega
    have go : ∀ {h' : Heap} {tk} {v : Value} (c' : Nat), (∀ b o, b ∉ wr → b ≠ S → s.heap.get? b = some o → h'.get? b = some o) → St (j + 1) h' → P (argBest bt j) v → h'.get? S = some { cls := .type "list", dict := none, data := .seq #[v, v] c', slots := #[] } →
        codeAny (model prog w) A (.builtin "max.loop" ⟨[.ref I, .none, .ref S], [("default", d)]⟩) R { s with heap := h', toks := tk } := fun c' kp st hv hS' =>
      ih (j + 1) _ #[_, _] c' (by omega) hlt st (.inr ⟨_, rfl, Nat.succ_pos _, hv⟩) hS' fun v' h'' tk'' hP' hk'' => hR v' h'' tk'' hP' fun b o hbw hbS e => hk'' b o hbw hbS (kp b o hbw hbS e)
    refine codeAny_builtin F.entry_max_loop ?_
    rw [Around.under_plainId F.plain_max_loop _]
    show wpAny _ A.in1 (seqItems? (.ref S) >>= _) _ _ s
    refine wpAny_bind (wpAny_seqItems hS rfl ?_)
    show wpAny _ A.in1 (tryCatch (pyNext (.ref I)) _ >>= _) _ _ s
    refine wpAny_bind (wpAny_tryCatch (W.item j s _ _ hlt hst fun v h' tk hP hst' hk' => ?_))
    have hS' := hk' S _ hSw hS
    rcases hi with ⟨e0, rfl⟩ | ⟨vb, rfl, h0, hPb⟩
    · subst e0
      show wpAny _ A.in1 (updateSeq S (fun _ => #[v, v]) >>= _) _ _ _
      refine wpAny_bind ?_
      refine wpAny_updateSeq hS' rfl ?_
      rw [hn]
      refine wpAny_pure ⟨plainId_quiet F.plain_max_loop _, go _ (fun b o hbw hbS e => (Heap.get?_update_other _ _ (Ne.symm hbS)).trans (hk' b o hbw e)) (W.frame _ _ _ hst' fun b hbf o e => ?_) hP (Heap.get?_update_self _ hS' rfl)⟩
      exact (Heap.get?_update_other _ _ (fun h : S = b => hSf (by rw [h]; exact hbf))).trans e
    · obtain ⟨i, rfl⟩ : ∃ i, j = i + 1 := ⟨j - 1, by omega⟩
      show wpAny _ A.in1 (tryCatch (holding [v, v] (richCompare .Gt v vb >>= _)) _ >>= _) _ _ _
      refine wpAny_bind (wpAny_tryCatch (wpAny_holding (wpAny_bind (hcmp (i + 1) (argBest bt i) v vb _ _ _ hP hPb ?_))))
      refine wpAny_bind (wpAny_holding (wpAny_truthy_bool ?_))
      refine wpAny_bind (wpAny_letGo (wpAny_pure ?_))
      cases hb : bt (i + 1) (argBest bt i) with
      | true =>
        simp only [if_true]
        refine wpAny_bind ?_
        refine wpAny_updateSeq hS' rfl (wpAny_bind (wpAny_letGo ?_))
        rw [hn]
        refine wpAny_pure ⟨plainId_quiet F.plain_max_loop _, go _ (fun b o hbw hbS e => (Heap.get?_update_other _ _ (Ne.symm hbS)).trans (hk' b o hbw e)) (W.frame _ _ _ hst' fun b hbf o e => ?_) (by simp only [argBest, hb, if_true]; exact hP) (Heap.get?_update_self _ hS' rfl)⟩
        exact (Heap.get?_update_other _ _ (fun h : S = b => hSf (by rw [h]; exact hbf))).trans e
      | false =>
        simp only [Bool.false_eq_true, if_false]
        refine wpAny_bind (wpAny_letGo ?_)
        rw [hn]
        exact wpAny_pure ⟨plainId_quiet F.plain_max_loop _, go c (fun b o hbw _ e => hk' b o hbw e) hst' (by simp only [argBest, hb, Bool.false_eq_true, if_false]; exact hPb) hS'⟩
theorem args_maxD (a d : Value) : argsOk "max" ⟨[a], [("default", d)]⟩ := by unfold argsOk; kernel_rfl
end
section
variable {prog : Program} {w : World} {A : Around} {E : Value → Shared → Prop} {s : Shared} {l : Addr} {xs : Array (Int × Tok)}
theorem max_default {Q : Value → Shared → Prop} (d : Value) (hh : A.handled = none) (hl : s.heap.IsList l (intItems xs))
    (h : ∀ v h' tk, (xs.size = 0 ∧ v = d ∨ 0 < xs.size ∧ (intItems xs)[argBest (fun i j => decide (numAt xs i > numAt xs j)) (xs.size - 1)]? = some v) → (∀ b o, s.heap.get? b = some o → h'.get? b = some o) → Q v { s with heap := h', toks := tk }) :
    wpAny (model prog w) A (call (.builtin "max") [.ref l] [("default", d)]) Q E s := by
  have hn : (toString "max" ++ toString ".loop" : String) = "max.loop" := by decide
  refine tree_kw F.kind_max F.plain_max F.entry_max (args_maxD _ _) ?_
  show wpAny _ A.in1 (Builtin.Builtins.bindParams "max" ["key", "default"] 0 ⟨[], [("default", d)]⟩ >>= _) _ _ s
  refine wpAny_bind (wpAny_of_eq (show Builtin.Builtins.bindParams "max" ["key", "default"] 0 ⟨[], [("default", d)]⟩ = pure [none, some d] from rfl) ?_)
  refine wpAny_bind (wpAny_pure ?_)
  refine wpAny_bind (iter_intList hl fun s₂ e st hfp hlI => ?_)
  subst e
  refine wpAny_bind (wpAny_newObj_type ?_)
  have W := Walks.list (prog := prog) (w := w) (A := A.in1) hh _ l hlI (intItems xs)
  rw [hn]
  refine wpAny_pure ⟨plainId_quiet F.plain_max_loop _, best_max d W _ (CmpOf.ints_gt (numAt xs) (fun _ _ => intItems_at)) _ (fun hm => Nat.lt_irrefl _ (hfp _ hm)) _ 0 _ #[] _ rfl (Nat.zero_le _) (W.frame _ _ _ st fun b _ o e => Heap.get?_push_of_some _ e) (.inl ⟨rfl, rfl⟩) (Heap.get?_push_size _ rfl) fun v h' tk hP hk => ?_⟩
  have hz : (intItems xs).size = xs.size := by simp [intItems]
  rw [hz] at hP
  refine h v h' tk hP fun b o e => ?_
  have hb := Heap.lt_size e
  refine hk b o (fun hm => ?_) (Nat.ne_of_lt (by rw [Heap.size_push]; exact Nat.lt_succ_of_lt hb)) (Heap.get?_push_of_some _ (Heap.get?_push_of_some _ e))
  rcases List.mem_cons.mp hm with e1 | hm
  · exact absurd (e1 ▸ hb) (Nat.lt_irrefl _)
  · cases hm
end

section
variable {prog : Program} {w : World} {A : Around} {R : Result → Shared → Prop} {I : Addr} {fp wr : List Addr} {n : Nat} {P : Nat → Value → Prop} {St : Nat → Heap → Prop}
theorem best_min (d : Value) (W : Walks prog w A.in1 I fp wr n P St) (bt : Nat → Nat → Bool) (hcmp : CmpOf prog w A.in1 .Lt P bt) (S : Addr) (hSf : S ∉ fp) :
    ∀ (k j : Nat) (s : Shared) (its : Array Value) (c : Nat), n - j = k → j ≤ n → St j s.heap →
    ((j = 0 ∧ its = #[]) ∨ ∃ vb, its = #[vb, vb] ∧ 0 < j ∧ P (argBest bt (j - 1)) vb) →
    s.heap.get? S = some { cls := .type "list", dict := none, data := .seq its c, slots := #[] } →
    (∀ v h' tk, (n = 0 ∧ v = d ∨ 0 < n ∧ P (argBest bt (n - 1)) v) → (∀ b o, b ∉ wr → b ≠ S → s.heap.get? b = some o → h'.get? b = some o) → R (.ok (.ret v)) { s with heap := h', toks := tk }) →
    codeAny (model prog w) A (.builtin "min.loop" ⟨[.ref I, .none, .ref S], [("default", d)]⟩) R s := by
  have hSw : S ∉ wr := fun h => hSf (W.sub _ h)
  have hn : (toString "min" ++ toString ".loop" : String) = "min.loop" := by decide
  intro k
  induction k with
  | zero =>
    intro j s its c hk hj hst hi hS hR
    have hin : j = n := by omega
    subst hin
    refine codeAny_builtin F.entry_min_loop ?_
    rw [Around.under_plainId F.plain_min_loop _]
    show wpAny _ A.in1 (seqItems? (.ref S) >>= _) _ _ s
    refine wpAny_bind (wpAny_seqItems hS rfl ?_)
    show wpAny _ A.in1 (tryCatch (pyNext (.ref I)) _ >>= _) _ _ s
    refine wpAny_bind (wpAny_tryCatch (W.done s _ _ hst fun h' tk hk' => ?_))
    rcases hi with ⟨e0, rfl⟩ | ⟨vb, rfl, h0, hP⟩
    · refine wpAny_bind (wpAny_rule ?_)
      exact wpAny_pure (hR d _ tk (.inl ⟨e0, rfl⟩) fun b o hbw _ e => hk' b o hbw e)
    · have hS' := hk' S _ hSw hS
      show wpAny _ A.in1 (updateSeq S (fun _ => #[]) >>= _) _ _ _
      refine wpAny_bind ?_
      refine wpAny_updateSeq hS' rfl (wpAny_bind (wpAny_letGo (wpAny_pure ?_)))
      exact hR vb _ tk (.inr ⟨h0, hP⟩) fun b o hbw hbS e => (Heap.get?_update_other _ _ (Ne.symm hbS)).trans (hk' b o hbw e)
  | succ k ih =>
    intro j s its c hk hj hst hi hS hR
    have hlt : j < n := by omega
    have go : ∀ {h' : Heap} {tk} {v : Value} (c' : Nat), (∀ b o, b ∉ wr → b ≠ S → s.heap.get? b = some o → h'.get? b = some o) → St (j + 1) h' → P (argBest bt j) v → h'.get? S = some { cls := .type "list", dict := none, data := .seq #[v, v] c', slots := #[] } →
        codeAny (model prog w) A (.builtin "min.loop" ⟨[.ref I, .none, .ref S], [("default", d)]⟩) R { s with heap := h', toks := tk } := fun c' kp st hv hS' =>
      ih (j + 1) _ #[_, _] c' (by omega) hlt st (.inr ⟨_, rfl, Nat.succ_pos _, hv⟩) hS' fun v' h'' tk'' hP' hk'' => hR v' h'' tk'' hP' fun b o hbw hbS e => hk'' b o hbw hbS (kp b o hbw hbS e)
    refine codeAny_builtin F.entry_min_loop ?_
    rw [Around.under_plainId F.plain_min_loop _]
    show wpAny _ A.in1 (seqItems? (.ref S) >>= _) _ _ s
    refine wpAny_bind (wpAny_seqItems hS rfl ?_)
    show wpAny _ A.in1 (tryCatch (pyNext (.ref I)) _ >>= _) _ _ s
    refine wpAny_bind (wpAny_tryCatch (W.item j s _ _ hlt hst fun v h' tk hP hst' hk' => ?_))
    have hS' := hk' S _ hSw hS
    rcases hi with ⟨e0, rfl⟩ | ⟨vb, rfl, h0, hPb⟩
    · subst e0
      show wpAny _ A.in1 (updateSeq S (fun _ => #[v, v]) >>= _) _ _ _
      refine wpAny_bind ?_
      refine wpAny_updateSeq hS' rfl ?_
      rw [hn]
      refine wpAny_pure ⟨plainId_quiet F.plain_min_loop _, go _ (fun b o hbw hbS e => (Heap.get?_update_other _ _ (Ne.symm hbS)).trans (hk' b o hbw e)) (W.frame _ _ _ hst' fun b hbf o e => ?_) hP (Heap.get?_update_self _ hS' rfl)⟩
      exact (Heap.get?_update_other _ _ (fun h : S = b => hSf (by rw [h]; exact hbf))).trans e
    · obtain ⟨i, rfl⟩ : ∃ i, j = i + 1 := ⟨j - 1, by omega⟩
      show wpAny _ A.in1 (tryCatch (holding [v, v] (richCompare .Lt v vb >>= _)) _ >>= _) _ _ _
      refine wpAny_bind (wpAny_tryCatch (wpAny_holding (wpAny_bind (hcmp (i + 1) (argBest bt i) v vb _ _ _ hP hPb ?_))))
      refine wpAny_bind (wpAny_holding (wpAny_truthy_bool ?_))
      refine wpAny_bind (wpAny_letGo (wpAny_pure ?_))
      cases hb : bt (i + 1) (argBest bt i) with
      | true =>
        simp only [if_true]
        refine wpAny_bind ?_
        refine wpAny_updateSeq hS' rfl (wpAny_bind (wpAny_letGo ?_))
        rw [hn]
        refine wpAny_pure ⟨plainId_quiet F.plain_min_loop _, go _ (fun b o hbw hbS e => (Heap.get?_update_other _ _ (Ne.symm hbS)).trans (hk' b o hbw e)) (W.frame _ _ _ hst' fun b hbf o e => ?_) (by simp only [argBest, hb, if_true]; exact hP) (Heap.get?_update_self _ hS' rfl)⟩
        exact (Heap.get?_update_other _ _ (fun h : S = b => hSf (by rw [h]; exact hbf))).trans e
      | false =>
        simp only [Bool.false_eq_true, if_false]
        refine wpAny_bind (wpAny_letGo ?_)
        rw [hn]
        exact wpAny_pure ⟨plainId_quiet F.plain_min_loop _, go c (fun b o hbw _ e => hk' b o hbw e) hst' (by simp only [argBest, hb, Bool.false_eq_true, if_false]; exact hPb) hS'⟩
theorem args_minD (a d : Value) : argsOk "min" ⟨[a], [("default", d)]⟩ := by unfold argsOk; kernel_rfl
end
section
variable {prog : Program} {w : World} {A : Around} {E : Value → Shared → Prop} {s : Shared} {l : Addr} {xs : Array (Int × Tok)}
theorem min_default {Q : Value → Shared → Prop} (d : Value) (hh : A.handled = none) (hl : s.heap.IsList l (intItems xs))
    (h : ∀ v h' tk, (xs.size = 0 ∧ v = d ∨ 0 < xs.size ∧ (intItems xs)[argBest (fun i j => decide (numAt xs i < numAt xs j)) (xs.size - 1)]? = some v) → (∀ b o, s.heap.get? b = some o → h'.get? b = some o) → Q v { s with heap := h', toks := tk }) :
    wpAny (model prog w) A (call (.builtin "min") [.ref l] [("default", d)]) Q E s := by
  have hn : (toString "min" ++ toString ".loop" : String) = "min.loop" := by decide
  refine tree_kw F.kind_min F.plain_min F.entry_min (args_minD _ _) ?_
  show wpAny _ A.in1 (Builtin.Builtins.bindParams "min" ["key", "default"] 0 ⟨[], [("default", d)]⟩ >>= _) _ _ s
  refine wpAny_bind (wpAny_of_eq (show Builtin.Builtins.bindParams "min" ["key", "default"] 0 ⟨[], [("default", d)]⟩ = pure [none, some d] from rfl) ?_)
  refine wpAny_bind (wpAny_pure ?_)
  refine wpAny_bind (iter_intList hl fun s₂ e st hfp hlI => ?_)
  subst e
  refine wpAny_bind (wpAny_newObj_type ?_)
  have W := Walks.list (prog := prog) (w := w) (A := A.in1) hh _ l hlI (intItems xs)
  rw [hn]
  refine wpAny_pure ⟨plainId_quiet F.plain_min_loop _, best_min d W _ (CmpOf.ints_lt (numAt xs) (fun _ _ => intItems_at)) _ (fun hm => Nat.lt_irrefl _ (hfp _ hm)) _ 0 _ #[] _ rfl (Nat.zero_le _) (W.frame _ _ _ st fun b _ o e => Heap.get?_push_of_some _ e) (.inl ⟨rfl, rfl⟩) (Heap.get?_push_size _ rfl) fun v h' tk hP hk => ?_⟩
  have hz : (intItems xs).size = xs.size := by simp [intItems]
  rw [hz] at hP
  refine h v h' tk hP fun b o e => ?_
  have hb := Heap.lt_size e
  refine hk b o (fun hm => ?_) (Nat.ne_of_lt (by rw [Heap.size_push]; exact Nat.lt_succ_of_lt hb)) (Heap.get?_push_of_some _ (Heap.get?_push_of_some _ e))
  rcases List.mem_cons.mp hm with e1 | hm
  · exact absurd (e1 ▸ hb) (Nat.lt_irrefl _)
  · cases hm
end
end PySem
namespace Lw
open PySem PySem.Spec L2 Evl PyProof.Rows
/-- max(xs, default=d), min(xs, default=d) of a list of ints -/
def rBest (K : PySem.W.Frag) (R : Int → Int → Prop) : List V → List V → Hp → VK → Prop := fun vs zs H Q => ∃ (a : Addr) (ns : List Int) (d : V), vs = [V.ref a] ∧ zs = [d] ∧ SqL K H a (ns.map V.int) ∧ (ns = [] → Q d H) ∧ ∀ m, m ∈ ns → (∀ y, y ∈ ns → R y m) → Q (.int m) H
section
variable {X : Cx}
theorem cr_maxD (hc : X.calm = true) : CallRK X (.builtin "max") ["default"] (rBest X.K fun y m => y ≤ m) := by
  intro pins s σ H vs zs us ws Q I r rz h
  obtain ⟨a, ns, d, rfl, rfl, hs, q0, q⟩ := h
  obtain ⟨its, rv, hl, _⟩ := I.list hs
  rw [Vals.ref1 r]
  obtain ⟨d', rfl, rd⟩ := vals1 rz
  have hi := rv.ints
  obtain ⟨xs, e⟩ := hi.allInts.items
  have hn : numsOf (intItems xs).toList = ns := by rw [← e]; exact hi.numsOf
  rw [nums_intItems] at hn
  subst hn
  have hl' : s.heap.IsList a (intItems xs) := e ▸ hl.isList
  refine max_default d' (I.ok.hd hc) hl' fun v h' tk hP hk => ?_
  rcases hP with ⟨h0, rfl⟩ | ⟨h0, hv⟩
  · have e0 : xs = #[] := Array.eq_empty_of_size_eq_zero h0
    subst e0
    exact ⟨d, H, I.kept hk, rd, q0 rfl⟩
  · obtain ⟨t, rfl⟩ := intItems_at hv
    obtain ⟨h1, h2⟩ := argBest_gt (numAt xs) (xs.size - 1)
    refine ⟨.int _, H, I.kept hk, ⟨_, rfl⟩, q _ ?_ fun b hb => ?_⟩
    · rw [numAt_eq]; exact PySem.getD_mem (by rw [List.length_map, Array.length_toList]; omega)
    · obtain ⟨j, hj, rfl⟩ := mem_getD hb
      rw [List.length_map, Array.length_toList] at hj
      rw [← numAt_eq]; exact h2 j (by omega)
theorem cr_minD (hc : X.calm = true) : CallRK X (.builtin "min") ["default"] (rBest X.K fun y m => m ≤ y) := by
  intro pins s σ H vs zs us ws Q I r rz h
  obtain ⟨a, ns, d, rfl, rfl, hs, q0, q⟩ := h
  obtain ⟨its, rv, hl, _⟩ := I.list hs
  rw [Vals.ref1 r]
  obtain ⟨d', rfl, rd⟩ := vals1 rz
  have hi := rv.ints
  obtain ⟨xs, e⟩ := hi.allInts.items
  have hn : numsOf (intItems xs).toList = ns := by rw [← e]; exact hi.numsOf
  rw [nums_intItems] at hn
  subst hn
  have hl' : s.heap.IsList a (intItems xs) := e ▸ hl.isList
  refine min_default d' (I.ok.hd hc) hl' fun v h' tk hP hk => ?_
  rcases hP with ⟨h0, rfl⟩ | ⟨h0, hv⟩
  · have e0 : xs = #[] := Array.eq_empty_of_size_eq_zero h0
    subst e0
    exact ⟨d, H, I.kept hk, rd, q0 rfl⟩
  · obtain ⟨t, rfl⟩ := intItems_at hv
    obtain ⟨h1, h2⟩ := argBest_lt (numAt xs) (xs.size - 1)
    refine ⟨.int _, H, I.kept hk, ⟨_, rfl⟩, q _ ?_ fun b hb => ?_⟩
    · rw [numAt_eq]; exact PySem.getD_mem (by rw [List.length_map, Array.length_toList]; omega)
    · obtain ⟨j, hj, rfl⟩ := mem_getD hb
      rw [List.length_map, Array.length_toList] at hj
      rw [← numAt_eq]; exact h2 j (by omega)
end
section
variable {X : Cx} {σ : L2.St} {H : Hp} {Q : VK} {x : Str} {p pos p2 : Pos} {e o i a : Expr} {es : List Expr} {kws : List Keyword}
theorem e_bltK {id : String} {ks : List Str} {r : List V → List V → Hp → VK → Prop} (hc : CallRK X (.builtin id) ks r) (hm : X.mg x = none) (hv : bootBuiltins x = some (.builtin id)) (h : WA X (e :: es) σ H fun vs H1 => WK X kws σ H1 fun zs H2 => r vs zs H2 Q)
    (hg : Gl X x := by rfl) (hn : x ≠ "__name__" := by decide) (hdb : (x == ("__debug__" : Str)) = false := by decide)
    (he : backTo pos (starEach (e :: es) X.env) = (false, eval e X.env) :: backTo pos (starEach es X.env) := by rfl) (hpl : (backTo pos (starEach (e :: es) X.env)).any (·.1) = false := by rfl)
    (hall : (backToKw pos (keywordEach kws X.env)).all (·.1.isSome) = true := by rfl) (hnone : (backToKw pos (keywordEach kws X.env)).any (·.1.isNone) = false := by rfl) (hks : (backToKw pos (keywordEach kws X.env)).filterMap (·.1) = ks := by rfl) :
    WE X (.Call (.Name x p) (e :: es) kws pos) σ H Q := ⟨_, pe_callBK hc hg hm hv WA.pa WK.pk hn hdb he hpl hall hnone hks, h⟩
/-! dicts -/
theorem e_dget (hu : X.A.units + 1 < cLine) (hs : NoSl i := by intro _ _; rfl) (h : WE X o σ H fun x H1 => WE X i σ H1 fun y H2 => ∃ a v, x = .ref a ∧ DGet H2 a y (some v) ∧ Q v H2) : WE X (.Subscript o i pos) σ H Q := ⟨_, pe_dget hu WE.pe WE.pe hs, h⟩
theorem t_dnotin {QT : Bool → Hp → Prop} (hu : X.A.units + 1 < cLine) (h1 : behindInMarks .NotIn o = false := by first | exact nobehind _ (by decide) (by decide) | rfl)
    (h : WE X i σ H fun y H1 => WE X o σ H1 fun x H2 => ∃ a r, x = .ref a ∧ DGet H2 a y r ∧ QT (!r.isSome) H2) : WT X (.Compare i [.NotIn] [o] pos) σ H QT := by
  refine ⟨_, pt_cmp (pc_dnotin hu WE.pe WE.pe) h1, ?_⟩
  show WE X i σ H fun y H1 => WE X o σ H1 fun x H2 => ∃ a r, x = .ref a ∧ DGet H2 a y r ∧ ∃ k, V.bl (!r.isSome) = .bl k ∧ QT k H2
  obtain ⟨t, ht, q⟩ := h
  refine ⟨t, ht, ?_⟩
  have e : (fun (y : V) (H1 : Hp) => WE X o σ H1 fun x H2 => ∃ a r, x = .ref a ∧ DGet H2 a y r ∧ ∃ k, V.bl (!r.isSome) = .bl k ∧ QT k H2) = (fun y H1 => WE X o σ H1 fun x H2 => ∃ a r, x = .ref a ∧ DGet H2 a y r ∧ QT (!r.isSome) H2) := by
    funext y H1
    congr 1
    funext x H2
    apply propext
    constructor
    · rintro ⟨a, r, e, g, k, ek, q⟩; cases ek; exact ⟨a, r, e, g, q⟩
    · rintro ⟨a, r, e, g, q⟩; exact ⟨a, r, e, g, _, rfl, q⟩
  rw [e]
  exact q
theorem s_dput {D : Ends} {value : Expr} {pos' : Pos} (hu : X.A.units + 1 < cLine) (hs : swapsWith value (some (.Subscript o i pos')) pos.line X.env = pure false := by rfl)
    (h : WE X value σ H fun v H1 => WE X o σ H1 fun x H2 => WE X i σ H2 fun y H3 => ∃ a H4, x = .ref a ∧ DPut H3 a y v H4 ∧ D.nx σ H4) : WS X (.Assign [.Subscript o i pos'] value pos) D σ H := ⟨_, ps_dput hu WE.pe WE.pe WE.pe hs, h⟩
theorem e_dnew (h : ∀ p, H p = none → Q (.ref p) (upd H p (.dK []))) : WE X (.Dict [] [] pos) σ H Q := ⟨_, pe_dnewK, h⟩
def tDcR (J : It) (g : TG) (tt : TT) (tk tv : TE) (vs : List Nat) (σ : L2.St) (H1 : Hp) (D : Addr) (Qd : Hp → Prop) : Prop := ∃ W : Nat → Nat → Hp → Prop, (∃ m, W 0 m (upd H1 D (.dK []))) ∧ ∀ i m H, W i m H →
  (J.stop i H ∧ Qd H) ∨ (J.go i H ∧ ∃ Nx : Hp → Prop, (∀ H', Nx H' → ∃ m', m' < m ∧ W (i + 1) m' H') ∧ ∀ x H', J.yld i H x H' → g x (wipe σ vs) H' fun σ2 H2 => wipe σ2 vs = wipe σ vs ∧ tt σ2 H2 fun b H3 =>
    if b = true then tk σ2 H3 fun y H4 => tv σ2 H4 fun z H5 => ∃ kvs k, y = kV k ∧ H5 D = some (.dK kvs) ∧ kvs.length < sizeLine ∧ Nx (upd H5 D (.dK (putK kvs k z))) else Nx H3)
theorem e_dc {tg iter kx vx : Expr} {ifs : List Expr} {scope : Scope} (own : List (Str × Nat)) (hN : X.N.Nodup) (ok : BlkOk X.N X.env.scope scope own := by exact blkOk_by (by decide +kernel)) (hc : X.calm = true := by rfl) (hs : ∀ x, foldedSetIterable iter X.env x = pure x := by intro _; rfl)
    (h : WI X tg iter σ H fun J H1 => ∀ D, H1 D = none → tDcR J (GBlk X scope tg) (TBlk X scope ifs) (EBlk X scope kx) (EBlk X scope vx) (own.map (·.2)) σ H1 D (Q (.ref D))) : WE X (.DictComp kx vx [⟨tg, iter, ifs, 0⟩] scope pos) σ H Q :=
  ⟨_, pe_dc hc hN WI.pi ok blk_g blk_t blk_e blk_e hs, h⟩
theorem e_slT {lo hi : Option Expr} (h : WE X a σ H fun x H1 => WO X lo σ H1 fun i H2 => WO X hi σ H2 fun j H3 => rSlT X.K x i j H3 Q) : WE X (.Subscript a (.Slice lo hi none p2) pos) σ H Q := ⟨_, pe_slice sl_tup WE.pe WO.po WO.po, h⟩
/-- over a walk, the new dict at D -/
theorem dc_it {J : It} {n : Nat} {G : Hp → Prop} {Y : Nat → Hp → V → Hp → Prop} {H1 : Hp} {g : TG} {tt : TT} {tk tv : TE} {vs : List Nat} {D : Addr} {Qd : Hp → Prop} (w : Walk J n G Y) (Pv : Nat → Hp → Prop) (h0 : Pv 0 (upd H1 D (.dK []))) (hG : ∀ i H, i ≤ n → Pv i H → G H)
    (hs : ∀ i x H H', i < n → Pv i H → Y i H x H' → g x (wipe σ vs) H' fun σ2 H2 => wipe σ2 vs = wipe σ vs ∧ tt σ2 H2 fun b H3 =>
      if b = true then tk σ2 H3 fun y H4 => tv σ2 H4 fun z H5 => ∃ kvs k, y = kV k ∧ H5 D = some (.dK kvs) ∧ kvs.length < sizeLine ∧ Pv (i + 1) (upd H5 D (.dK (putK kvs k z))) else Pv (i + 1) H3) (hd : ∀ H, Pv n H → Qd H) : tDcR J g tt tk tv vs σ H1 D Qd := by
  refine ⟨fun i m H => m = n - i ∧ i ≤ n ∧ Pv i H, ⟨n, by simp, Nat.zero_le _, h0⟩, ?_⟩
  rintro i m H ⟨rfl, hi, p⟩
  have q := hG i H hi p
  by_cases hlt : i < n
  · exact .inr ⟨w.goes i H hlt q, Pv (i + 1), fun H' p' => ⟨n - (i + 1), by omega, rfl, hlt, p'⟩, fun x H' y => hs i x H H' hlt p (w.yields i H x H' hlt q y)⟩
  · have e : i = n := by omega
    subst e
    exact .inl ⟨w.stops H q, hd H p⟩
end
end Lw
local macro_rules | `(tactic| walk_at "nm") => `(tactic| with_unfolding_all first
  | refine Lw.e_name 0 (q := ?_) | refine Lw.e_name 1 (q := ?_) | refine Lw.e_name 2 (q := ?_) | refine Lw.e_name 3 (q := ?_) | refine Lw.e_name 4 (q := ?_) | refine Lw.e_name 5 (q := ?_) | refine Lw.e_name 6 (q := ?_) | refine Lw.e_name 7 (q := ?_) | refine Lw.e_name 8 (q := ?_) | refine Lw.e_name 9 (q := ?_) | refine Lw.e_name 10 (q := ?_) | refine Lw.e_name 11 (q := ?_) | refine Lw.e_name 12 (q := ?_))
local macro_rules | `(tactic| walk_at "ii") => `(tactic| refine ⟨_, _, rfl, rfl, ?_⟩)
local macro_rules | `(tactic| walk_at "e") => `(tactic| first
  | walk_at "nm" | refine Lw.e_int ?_ | refine Lw.e_non ?_ | refine Lw.e_bl ?_ | refine Lw.e_str ?_
  | refine Lw.a_nil ?_ | refine Lw.a_cons (h := ?_) | refine Lw.k_nil ?_ | refine Lw.k_cons ?_
  | refine Lw.e_if ?_ | refine Lw.e_and ?_ | refine Lw.e_or ?_ | refine Lw.e_one ?_ | refine Lw.e_not ?_ | refine Lw.e_lst ?_ | refine Lw.e_tup ?_ | refine Lw.e_neg ?_)
local macro_rules | `(tactic| walk_at "E") => `(tactic| repeat walk_at "e")
namespace K15
open PySem L2 Evl Lw
def top (i : Nat) : Stmt := PySem.Challenge.pw_listwindow_k15_filters_changed_and_met.main.body.getD i (.Pass ⟨0, 0, 0, 0⟩)
abbrev s_cw : Stmt := top 8
abbrev s_cc : Stmt := top 9
abbrev s_cz : Stmt := top 10
abbrev s_cr : Stmt := top 11
abbrev s_cf : Stmt := top 12
abbrev s_lr : Stmt := top 14
abbrev s_bc : Stmt := top 15
abbrev s_lets : Stmt := top 16
abbrev s_wo : Stmt := top 17
abbrev s_lo : Stmt := top 18
abbrev s_met : Stmt := top 19
abbrev s_both : Stmt := top 20
abbrev s_ln : Stmt := top 21
abbrev s_wi : Stmt := top 22
abbrev s_cl : Stmt := top 23
abbrev s_deck : Stmt := top 27
abbrev s_draw : Stmt := top 28
abbrev s_cells : Stmt := top 29
abbrev s_table : Stmt := top 30
abbrev s_bound : Stmt := top 32
abbrev s_filters : Stmt := top 33
abbrev s_llets : Stmt := top 34
abbrev s_shown : Stmt := top 35
abbrev s_says : Stmt := top 38
abbrev s_deeds : Stmt := top 39
abbrev s_great : Stmt := top 40
abbrev s_lmet : Stmt := top 41
abbrev s_shut : Stmt := top 42
abbrev s_lwi : Stmt := top 43
abbrev s_lcl : Stmt := top 44
abbrev s_dr : Stmt := top 45
abbrev s_pr : Stmt := top 46
abbrev s_clr : Stmt := top 47
abbrev s_right : Stmt := top 48
abbrev s_law : Stmt := top 49
abbrev s_init : Stmt := inClass (top 25) 0
abbrev s_width : Stmt := inClass (top 25) 1
abbrev s_rows : Stmt := inClass (top 25) 2
abbrev s_tlen : Stmt := inClass (top 25) 3
abbrev s_cell : Stmt := inClass (top 25) 6
abbrev s_col : Stmt := inClass (top 25) 7
/-- a def of the module, as the top leaves it -/
def Fn (K : PySem.W.Frag) (mg : Str → Option Value) (x : Str) (st : Stmt) : Prop := ∃ f fd, Fun K x x st f fd ∧ mg x = some (.ref f)
end K15
namespace K15
open PySem L2 Evl Lw
section
variable {P : Program} {w : World} {K : PySem.W.Frag} {mg : Str → Option Value} {base : Heap}
theorem cal_of {x : Str} {st : Stmt} {N ps : List Str} {k : Nat} {sp : Sp} (d : Fn K mg x st) (S : FnScope N ps (defScope st)) (len : ∀ vs H Q E, sp vs H Q E → vs.length = ps.length)
    (hb : ∀ (kV doc pm : Value) (an : Option Addr) (cdv ct : Value) (us : List Value), us.length = ps.length → bindArgs (PySem.W.fnOf x x (defArgs st) (defBody st) (defScope st) .none kV doc pm an cdv ct) ⟨us, []⟩ = pure (ps.zip us))
    (body : ∀ (f : Addr) (cdv : Value) (A : Around) (outer : List Env) (s : Shared) (H : Hp) (vs : List V) (Q : VK) (E : XK), Room k (A.deeper (PyProof.Rows.envOfC x (defScope st) s.heap.objs.size f cdv)) → sp vs H Q E →
      WSs (cxOf CX0 P w K mg base N x (defScope st) f cdv A outer s H E).nox (defBody st) { nx := fun _ H' => Q .non H', rt := Q } (start N vs) H) : Cal P w K mg base x (k + 1) ps sp := by
  obtain ⟨f, fd, F, hm⟩ := d
  exact ⟨f, fd, F.ok S len (body f), hm, F.kp, F.binds hb⟩

/-! check_width -/
theorem sc_cw : FnScope ["width"] ["width"] (defScope s_cw) := ⟨rfl, rfl, rfl, by decide +kernel, rfl, by decide +kernel, by decide +kernel⟩
def sp_cw : Sp := fun vs H Q _ => ∃ n : Int, vs = [.int n] ∧ 1 ≤ n ∧ Q .non H
theorem c_cw (d : Fn K mg "check_width" s_cw) : Cal P w K mg base "check_width" 1 ["width"] sp_cw := by
  refine cal_of d sc_cw (fun vs H Q E h => by obtain ⟨n, rfl, _⟩ := h; rfl) (fun _ _ _ _ _ _ us hl => match us, hl with | [_], _ => rfl) (fun f cdv A outer s H vs Q E hr h => ?_)
  obtain ⟨n, rfl, hn, k⟩ := h
  refine s_one (s_if (t_cmp op_lt (h := ?_)))
  walk_at "E"
  refine ⟨_, _, rfl, rfl, _, rfl, ?_⟩
  exact ifd (fun h => absurd h (by omega)) fun _ => s_nil k

/-! check_row -/
theorem sc_cr : FnScope ["number", "row"] ["number", "row"] (defScope s_cr) := ⟨rfl, rfl, rfl, by decide +kernel, rfl, by decide +kernel, by decide +kernel⟩
def sp_cr : Sp := fun vs H Q _ => ∃ n r : Int, vs = [.int n, .int r] ∧ 0 ≤ r ∧ r < n ∧ Q .non H
theorem c_cr (d : Fn K mg "check_row" s_cr) : Cal P w K mg base "check_row" 1 ["number", "row"] sp_cr := by
  refine cal_of d sc_cr (fun vs H Q E h => by obtain ⟨n, r, rfl, _⟩ := h; rfl) (fun _ _ _ _ _ _ us hl => match us, hl with | [_, _], _ => rfl) (fun f cdv A outer s H vs Q E hr h => ?_)
  obtain ⟨n, r, rfl, h0, h1, k⟩ := h
  refine s_one (s_if (t_not (t_chain op_le op_lt (h := ?_))))
  walk_at "E"
  refine ⟨_, _, rfl, rfl, _, rfl, ift (decide_eq_true h0) ?_⟩
  walk_at "E"
  refine ⟨_, _, rfl, rfl, _, rfl, ?_⟩
  rw [decide_eq_true h1]
  exact iff_ rfl (s_nil k)

/-! check_column -/
theorem sc_cc : FnScope ["width", "column"] ["width", "column"] (defScope s_cc) := ⟨rfl, rfl, rfl, by decide +kernel, rfl, by decide +kernel, by decide +kernel⟩
theorem c_cc (d : Fn K mg "check_column" s_cc) : Cal P w K mg base "check_column" 1 ["width", "column"] sp_cr := by
  refine cal_of d sc_cc (fun vs H Q E h => by obtain ⟨n, r, rfl, _⟩ := h; rfl) (fun _ _ _ _ _ _ us hl => match us, hl with | [_, _], _ => rfl) (fun f cdv A outer s H vs Q E hr h => ?_)
  obtain ⟨n, r, rfl, h0, h1, k⟩ := h
  refine s_one (s_if (t_not (t_chain op_le op_lt (h := ?_))))
  walk_at "E"
  refine ⟨_, _, rfl, rfl, _, rfl, ift (decide_eq_true h0) ?_⟩
  walk_at "E"
  refine ⟨_, _, rfl, rfl, _, rfl, ?_⟩
  rw [decide_eq_true h1]
  exact iff_ rfl (s_nil k)

/-! check_filters -/
theorem sc_cf : FnScope ["width", "filters"] ["width", "filters"] (defScope s_cf) := ⟨rfl, rfl, rfl, by decide +kernel, rfl, by decide +kernel, by decide +kernel⟩
def sp_cf (K : PySem.W.Frag) : Sp := fun vs H Q _ => ∃ (n : Int) (a : Addr) (xs : List V), vs = [.int n, .ref a] ∧ SqL K H a xs ∧ (xs.length : Int) = n ∧ Q .non H
theorem c_cf (d : Fn K mg "check_filters" s_cf) (ml : mg "len" = none) : Cal P w K mg base "check_filters" 1 ["width", "filters"] (sp_cf K) := by
  refine cal_of d sc_cf (fun vs H Q E h => by obtain ⟨n, r, _, rfl, _⟩ := h; rfl) (fun _ _ _ _ _ _ us hl => match us, hl with | [_, _], _ => rfl) (fun f cdv A outer s H vs Q E hr h => ?_)
  obtain ⟨n, a, xs, rfl, hL, hb, k⟩ := h
  refine s_one (s_if (t_cmp op_ne (h := e_blt call_len_seq ml PySem.boot_len ?_)))
  walk_at "E"
  refine ⟨_, _, rfl, .inl hL, ?_⟩
  walk_at "E"
  refine ⟨rfl, _, rfl, ?_⟩
  refine iff_ ?_ (s_nil k)
  rw [decide_eq_true (by rw [hb])]
  rfl

/-! _lets -/
def loOk : Option Int → Int → Bool | none, _ => true | some l, c => decide (l ≤ c)
def hiOk : Option Int → Int → Bool | none, _ => true | some h, c => decide (c ≤ h)
def lets (b : Option Int × Option Int) (c : Int) : Bool := loOk b.1 c && hiOk b.2 c
abbrev Bd := Option Int × Option Int
theorem sc_lets : FnScope ["bounds", "cell", "low", "high"] ["bounds", "cell"] (defScope s_lets) := ⟨rfl, rfl, rfl, by decide +kernel, rfl, by decide +kernel, by decide +kernel⟩
def sp_lets (K : PySem.W.Frag) : Sp := fun vs H Q _ => ∃ (v : V) (b : Bd) (c : Int), vs = [v, .int c] ∧ Dt K H v b ∧ Q (.bl (lets b c)) H
theorem c_lets (d : Fn K mg "_lets" s_lets) : Cal P w K mg base "_lets" 1 ["bounds", "cell"] (sp_lets K) := by
  refine cal_of d sc_lets (fun vs H Q E h => by obtain ⟨n, r, _, rfl, _⟩ := h; rfl) (fun _ _ _ _ _ _ us hl => match us, hl with | [_, _], _ => rfl) (fun f cdv A outer s H vs Q E hr h => ?_)
  obtain ⟨v, b, c, rfl, hd, k⟩ := h
  obtain ⟨a, y, z, rfl, hT, d1, d2⟩ := dt_pair hd
  refine s_cons (s_asg (h := ?_))
  walk_at "E"
  refine g_tup hT rfl (h := gs_cons (h := g_name 2 sc_lets.nd (q := gs_cons (h := g_name 3 sc_lets.nd (q := gs_nil ?_)))))
  refine s_one (s_ret ?_)
  obtain ⟨lo, hi⟩ := b
  cases lo with
  | none =>
    cases dt_none d1
    cases hi with
    | none =>
      cases dt_none d2
      refine e_and (e_or (e_cmp op_isN (h := ?_)))
      walk_at "E"
      refine ⟨rfl, _, rfl, ift rfl ⟨_, rfl, ift rfl ?_⟩⟩
      refine e_one (e_or (e_cmp op_isN (h := ?_)))
      walk_at "E"
      exact ⟨rfl, _, rfl, ift rfl k⟩
    | some hi =>
      cases dt_some d2
      refine e_and (e_or (e_cmp op_isN (h := ?_)))
      walk_at "E"
      refine ⟨rfl, _, rfl, ift rfl ⟨_, rfl, ift rfl ?_⟩⟩
      refine e_one (e_or (e_cmp op_isN (h := ?_)))
      walk_at "E"
      refine ⟨rfl, _, rfl, iff_ rfl (e_one (e_cmp op_le (h := ?_)))⟩
      walk_at "E"
      exact ⟨_, _, rfl, rfl, k⟩
  | some lo =>
    cases dt_some d1
    refine e_and (e_or (e_cmp op_isN (h := ?_)))
    walk_at "E"
    refine ⟨rfl, _, rfl, iff_ rfl (e_one (e_cmp op_ge (h := ?_)))⟩
    walk_at "E"
    refine ⟨_, _, rfl, rfl, _, rfl, ifd (fun hlo => ?_) fun hlo => ?_⟩
    · have k' : Q (.bl (hiOk hi c)) H := by
        have e : lets (some lo, hi) c = hiOk hi c := by
          unfold lets
          simp only [loOk, decide_eq_true hlo, Bool.true_and]
        rw [e] at k
        exact k
      cases hi with
      | none =>
        cases dt_none d2
        refine e_one (e_or (e_cmp op_isN (h := ?_)))
        walk_at "E"
        exact ⟨rfl, _, rfl, ift rfl k'⟩
      | some hi =>
        cases dt_some d2
        refine e_one (e_or (e_cmp op_isN (h := ?_)))
        walk_at "E"
        refine ⟨rfl, _, rfl, iff_ rfl (e_one (e_cmp op_le (h := ?_)))⟩
        walk_at "E"
        exact ⟨_, _, rfl, rfl, k'⟩
    · have e : lets (some lo, hi) c = false := by
        unfold lets
        simp only [loOk, decide_eq_false hlo, Bool.false_and]
      rw [e] at k
      exact k
end
end K15
namespace K15
open PySem L2 Evl Lw
section
variable {P : Program} {w : World} {K : PySem.W.Frag} {mg : Str → Option Value} {base : Heap}
/-- a new list of such data is handed back, the caller's | data that stay -/
def RetL {β : Type} [DecidableEq β] [Dat β] (K : PySem.W.Frag) (B H : Hp) (Q : VK) (ys : List β) : Prop := ∀ D B' H' acc, Gr M0 B H B' H' → B' D = none → H D = none → H' D = some (.lst acc) → Das K B' acc ys → Q (.ref D) H'
def RetD {β : Type} [DecidableEq β] [Dat β] (K : PySem.W.Frag) (B H : Hp) (Q : VK) (y : β) : Prop := ∀ v B' H', Gr M0 B H B' H' → Dt K B' v y → Q v H'
theorem RetD.l {β : Type} [DecidableEq β] [Dat β] {B H : Hp} {Q : VK} {ys : List β} (h : RetD K B H Q ys) : RetL K B H Q ys := fun D B' H' acc g b h0 e d =>
  h (.ref D) (upd B' D (.lst acc)) H' (g.learn h0 b e) (dtL (SqL.of upd_same) (d.mono (Ex.new b)))

/-! _barring_columns -/
def barF (fs : List Bd) (p : Int × Nat) : Option Int := if lets (fs.getD p.2 (none, none)) p.1 then none else some (p.2 : Int)
def barC (fs : List Bd) (cs : List Int) : List Int := cs.zipIdx.filterMap (barF fs)
theorem get_ints {ns : List Int} {i : Nat} {v : V} (h : (ns.map V.int)[i]? = some v) : ∃ n, ns[i]? = some n ∧ v = .int n := by
  rw [List.getElem?_map] at h
  cases e : ns[i]? with
  | none => rw [e] at h; cases h
  | some n => rw [e] at h; exact ⟨n, rfl, (Option.some.inj h).symm⟩
theorem get_zi {α : Type} {cs : List α} {i j : Nat} {a : α} (h : cs.zipIdx[i]? = some (a, j)) : cs[i]? = some a ∧ j = i := by
  rw [List.getElem?_zipIdx] at h
  cases e : cs[i]? with
  | none => rw [e] at h; cases h
  | some c =>
    rw [e] at h
    simp only [Option.map_some, Nat.zero_add, Option.some.injEq, Prod.mk.injEq] at h
    obtain ⟨rfl, rfl⟩ := h
    exact ⟨rfl, rfl⟩
abbrev N_bc : List Str := ["filters", "cells", "column", "cell"]
theorem sc_bc : FnScope N_bc ["filters", "cells"] (defScope s_bc) := ⟨rfl, rfl, rfl, by decide +kernel, rfl, by decide +kernel, by decide +kernel⟩
def sp_bc (K : PySem.W.Frag) : Sp := fun vs H Q _ => ∃ (B : Hp) (f c : V) (fs : List Bd) (cs : List Int), vs = [f, c] ∧ Ex B H ∧ Dt K B f fs ∧ Dt K B c cs ∧ cs.length ≤ fs.length ∧ cs.length < 1000 ∧ RetL K B H Q (barC fs cs)
theorem c_bc (d : Fn K mg "_barring_columns" s_bc) (me : mg "enumerate" = none) (e1 : Cal P w K mg base "_lets" 1 ["bounds", "cell"] (sp_lets K)) : Cal P w K mg base "_barring_columns" 2 ["filters", "cells"] (sp_bc K) := by
  refine cal_of d sc_bc (fun vs H Q E h => by obtain ⟨_, _, _, _, _, rfl, _⟩ := h; rfl) (fun _ _ _ _ _ _ us hl => match us, hl with | [_, _], _ => rfl) (fun f cdv A outer s H vs Q E hr h => ?_)
  obtain ⟨B, fv, cv, fs, cs, rfl, kB, df, dc, hl, hz, k⟩ := h
  obtain ⟨fa, fvs, rfl, fL, fD⟩ := dt_list df
  obtain ⟨ca, cvs, rfl, cL, cD⟩ := dt_list dc
  have ec := cD.ints
  subst ec
  refine s_one (s_ret (e_lc [("column", 2), ("cell", 3)] sc_bc.nd (ok := blkOk_by (N := N_bc) (sc := defScope s_bc) (by decide +kernel)) (h := i_enum me (h := ?_))))
  walk_at "E"
  refine ⟨_, _, rfl, ex_l kB cL, fun D hD => ?_⟩
  have wk : Walk (Ite K ca) (cs.zipIdx).length (fun H => SqL K H ca (cs.map V.int)) (YPair (fun i => some (.int (i : Nat))) (fun i => (cs.map V.int)[i]?)) := by
    have e := walk_enum (K := K) (a := ca) (xs := cs.map V.int)
    rw [List.length_map] at e
    rw [List.length_zipIdx]
    exact e
  refine lcF (K := K) (barF fs) wk kB hD (by rw [List.length_zipIdx]; exact Nat.lt_trans hz (by decide)) (fun B' H' g => ex_l (g.b.trans g.k) cL) ?_ (fun B' H' acc g b e da => k D B' H' acc g b hD e da)
  rintro i ⟨a, j⟩ x B' H' H'' ha g ⟨T, x, y, rfl, hT, rfl, hx, hy⟩ KT KF kt kf s0 H0 C cl fp
  cases hx
  obtain ⟨ea, rfl⟩ := get_zi ha
  obtain ⟨c, ec, rfl⟩ := get_ints hy
  rw [ea] at ec
  cases ec
  have hi : j < cs.length := (List.getElem?_eq_some_iff.mp ea).1
  refine g_tup (SqT.of upd_same) rfl (h := gs_cons (h := g_name 2 sc_bc.nd (q := gs_cons (h := g_name 3 sc_bc.nd (q := gs_nil ⟨rfl, ?_⟩)))))
  intro s0 H0 C cl fp
  have hfi : fs[j]? = some (fs[j]'(by omega)) := List.getElem?_eq_getElem (by omega)
  obtain ⟨bv, hb1, hb2⟩ := fD.at hfi
  have ed : fs.getD j (none, none) = fs[j]'(by omega) := by rw [List.getD_eq_getElem?_getD, hfi]; rfl
  have g1 : Gr M0 B' H' B' (upd H' T (.tup [.int (j : Nat), .int a])) := (Gr.refl g.k).own hT
  refine ts_one (t_not (t_val (e_call e1 hr (h := ?_))))
  refine a_cons (h := e_ixL (h := ?_))
  walk_at "E"
  refine ⟨fa, fvs, _, bv, rfl, rfl, ex_l (g.b.trans g1.k) fL, at_of rfl hb1, ?_⟩
  walk_at "E"
  refine ⟨bv, _, a, rfl, (hb2.mono (g.b.trans g1.k)), _, rfl, ?_⟩
  cases el : lets (fs[j]'(by omega)) a with
  | true => exact iff_ rfl (kf B' _ (by unfold barF; rw [ed, el]; rfl) g1)
  | false =>
    refine ift rfl ?_
    intro s0 H0 C cl fp
    walk_at "E"
    exact kt (j : Nat) _ B' _ (by unfold barF; rw [ed, el]; rfl) g1 (dtI _)
end
end K15
namespace K15
open PySem L2 Evl Lw
section
variable {P : Program} {w : World} {K : PySem.W.Frag} {mg : Str → Option Value} {base : Heap} {C : Addr}
/-! ### the class Table -/
def FnM (K : PySem.W.Frag) (C : Addr) (m q : Str) (st : Stmt) : Prop := ∃ f fd, Fun K m q st f fd ∧ Meth K C m f
def FnI (K : PySem.W.Frag) (C : Addr) (q : Str) (st : Stmt) : Prop := ∃ f fd, Fun K "__init__" q st f fd ∧ Mk K C f
def FnP (K : PySem.W.Frag) (C : Addr) (m q : Str) (st : Stmt) : Prop := ∃ p f fd, Fun K m q st f fd ∧ PropOf K C m p f
structure TC (K : PySem.W.Frag) (mg : Str → Option Value) (C : Addr) : Prop where
  cl : Cls K C
  nW : NoAttr K C "_width"
  nR : NoAttr K C "_rows"
  mgC : mg "Table" = some (.ref C)
theorem body_ok {x q : Str} {st : Stmt} {f : Addr} {fd : FuncData} {N ps : List Str} {k : Nat} {sp : Sp} (F : Fun K x q st f fd) (S : FnScope N ps (defScope st)) (len : ∀ vs H Q E, sp vs H Q E → vs.length = ps.length)
    (body : ∀ (f : Addr) (cdv : Value) (A : Around) (outer : List Env) (s : Shared) (H : Hp) (vs : List V) (Q : VK) (E : XK), Room k (A.deeper (PyProof.Rows.envOfC q (defScope st) s.heap.objs.size f cdv)) → sp vs H Q E →
      WSs (cxOf CX0 P w K mg base N q (defScope st) f cdv A outer s H E).nox (defBody st) { nx := fun _ H' => Q .non H', rt := Q } (start N vs) H) : FnOk P w K mg base CX0 (k + 1) f fd ps sp := F.ok S len (body f)
theorem kW : ¬ (("_width" : Str) = "_rows") := by decide +kernel
def tf (n : Int) (r : Addr) : List (Str × V) := putF "_rows" (.ref r) (putF "_width" (.int n) [])
theorem tf_w (n : Int) (r : Addr) : (tf n r).lookup ("_width" : Str) = some (.int n) := by unfold tf; rw [lookup_putF, if_neg kW, lookup_putF, if_pos rfl]
theorem tf_r (n : Int) (r : Addr) : (tf n r).lookup ("_rows" : Str) = some (.ref r) := by unfold tf; rw [lookup_putF, if_pos rfl]
theorem tf_no (n : Int) (r : Addr) {m : Str} (h1 : ¬ m = "_rows") (h2 : ¬ m = "_width") : (tf n r).lookup m = none := by unfold tf; rw [lookup_putF, if_neg h1, lookup_putF, if_neg h2]; rfl
/-- a table, as B tells -/
structure Tab where
  wd : Int
  rows : List (List Int)
structure Tab.Ok (t : Tab) : Prop where
  lo : 1 ≤ t.wd
  hi : t.wd ≤ 100
  le : ∀ r ∈ t.rows, (r.length : Int) = t.wd
  len : t.rows.length < 1000
structure TAt (K : PySem.W.Frag) (C : Addr) (B : Hp) (v : V) (t : Tab) : Prop where
  ex : ∃ a dx r, v = .ref a ∧ B a = some (.ins C dx (tf t.wd r)) ∧ Dt K B (.ref r) t.rows
  ok : t.Ok
theorem TAt.mono {B B' : Hp} {v : V} {t : Tab} (e : Ex B B') (h : TAt K C B v t) : TAt K C B' v t := by
  obtain ⟨a, dx, r, h1, h2, h3⟩ := h.ex
  exact ⟨⟨a, dx, r, h1, e _ _ h2, h3.mono e⟩, h.ok⟩

abbrev N_in : List Str := ["self", "width", "rows", "index", "cells"]
theorem sc_in : FnScope N_in ["self", "width", "rows"] (defScope s_init) := ⟨rfl, rfl, rfl, by decide +kernel, rfl, by decide +kernel, by decide +kernel⟩
def sp_in (K : PySem.W.Frag) (C : Addr) : Sp := fun vs H Q _ => ∃ (B : Hp) (p dx : Addr) (t : Tab) (rv : V), vs = [.ref p, .int t.wd, rv] ∧ Ex B H ∧ B p = none ∧ H p = some (.ins C dx []) ∧ Dt K B rv t.rows ∧ t.Ok ∧
  ∀ r B' H', Gr (fun a => a = p) B H B' H' → B' p = none → H' p = some (.ins C dx (tf t.wd r)) → Dt K B' (.ref r) t.rows → Q .non H'
theorem c_in (d : FnI K C "Table.__init__" s_init) (T : TC K mg C) (me : mg "enumerate" = none) (ml : mg "len" = none) (mli : mg "list" = none) (e1 : Cal P w K mg base "check_width" 1 ["width"] sp_cw) : CalI P w K mg base C "Table" 2 ["self", "width", "rows"] (sp_in K C) := by
  obtain ⟨f, fd, F, hM⟩ := d
  refine ⟨f, fd, body_ok F sc_in (fun vs H Q E h => by obtain ⟨_, _, _, _, _, rfl, _⟩ := h; rfl) (fun f cdv A outer s H vs Q E hr h => ?_), T.mgC, hM, F.binds fun _ _ _ _ _ _ us hl => match us, hl with | [_, _, _], _ => rfl⟩
  obtain ⟨B, p, dx, t, rv, rfl, kB, hBp, hp, dr, ok, k⟩ := h
  obtain ⟨ra, rvs, rfl, rL, rD⟩ := dt_list dr
  have hlr := rD.len
  refine s_cons (s_expr (h := e_call e1 hr (h := ?_)))
  walk_at "E"
  refine ⟨_, rfl, ok.lo, ?_⟩
  refine s_cons (s_for (h := i_enum me (h := ?_)))
  walk_at "E"
  refine ⟨_, _, rfl, ex_l kB rL, for_it walk_enum (fun i σ H' => Gr M0 B H B H' ∧ ∃ u v, σ = [some (.ref p), some (.int t.wd), some (.ref ra), u, v]) ⟨Gr.refl kB, none, none, rfl⟩ (fun i σ H' _ ⟨g, _⟩ => ex_l g.k rL) ?_ ?_⟩
  · rintro i x σ H' H'' hi ⟨g, u, v, rfl⟩ ⟨T0, x, y, rfl, hT, rfl, hx, hy⟩
    cases hx
    obtain ⟨row, er, dy⟩ := rD.get hy
    obtain ⟨ya, yvs, rfl, yL, yD⟩ := dt_list dy
    have g1 := g.own (o := .tup [.int (i : Nat), .ref ya]) hT
    refine g_tup (SqT.of upd_same) rfl (h := gs_cons (h := g_name 3 sc_in.nd (q := gs_cons (h := g_name 4 sc_in.nd (q := gs_nil ?_)))))
    refine s_one (s_if (t_cmp op_ne (h := e_blt call_len_seq ml PySem.boot_len ?_)))
    walk_at "E"
    refine ⟨_, _, rfl, .inl (ex_l g1.k yL), ?_⟩
    walk_at "E"
    refine ⟨rfl, _, rfl, iff_ ?_ (s_nil ⟨g1, _, _, rfl⟩)⟩
    have e : (row.length : Int) = t.wd := ok.le row (List.mem_of_getElem? er)
    rw [decide_eq_true (by rw [yD.len, e])]
    rfl
  · rintro σ H1 ⟨g, u, v, rfl⟩
    have hp1 := g.h p _ (fun z => z) hp
    refine s_cons (s_fld (h := ?_))
    walk_at "E"
    refine ⟨p, C, dx, _, rfl, hp1, T.cl, T.nW, (by show 0 < 1000; decide), ?_⟩
    have g2 : Gr (fun a => a = p) B H B (upd H1 p (.ins C dx (putF "_width" (.int t.wd) []))) := (g.up).mut (.inl rfl) hBp
    refine s_one (s_fld (h := ?_))
    refine e_lc [("cells", 4)] sc_in.nd (ok := blkOk_by (N := N_in) (sc := defScope s_init) (by decide +kernel)) (h := i_list ?_)
    walk_at "E"
    refine ⟨_, rfl, ⟨_, ex_l g2.k rL⟩, fun D hD => lcL (K := K) (fun r => some r) rL rD g2.k hD (Nat.lt_trans ok.len (by decide)) ?_ ?_⟩
    · intro i y x B' H' hy dx' g' KT KF kt kf s0 H0 C0 cl fp
      refine g_name 4 sc_in.nd (q := ⟨rfl, ?_⟩)
      intro s0 H0 C0 cl fp
      refine ts_nil (ift rfl ?_)
      intro s0 H0 C0 cl fp
      obtain ⟨ya, yvs, rfl, yL, yD⟩ := dt_list dx'
      refine e_ty call_list_of mli (by decide +kernel) ?_
      walk_at "E"
      refine ⟨_, _, rfl, .inl (ex_l g'.k yL), fun l hl => kt y _ (upd B' l (.lst yvs)) _ rfl ((Gr.refl g'.k).new hl) (dtL (SqL.of upd_same) (yD.mono (Ex.new (none_of_ex g'.k hl))))⟩
    · intro B' H' acc g' hB hD' da
      rw [List.filterMap_some] at da
      have hp2 := g'.h p _ (fun z => z) upd_same
      have hBp' := g'.f p hBp (by rw [upd_same]; exact fun z => nomatch z)
      walk_at "E"
      refine ⟨p, C, dx, _, rfl, hp2, T.cl, T.nR, (by show 1 < 1000; decide), ?_⟩
      show Q .non _
      have nDp : D ≠ p := fun e => by rw [e, upd_same] at hD; cases hD
      have hD0 : H D = none := g2.free hD
      have g3 := ((g2.trans g'.up).learn (by exact hD0) hB hD').mut (p := p) (o := .ins C dx (tf t.wd D)) (.inl rfl) (by rw [upd_ne nDp.symm]; exact hBp')
      exact k D _ _ g3 (by rw [upd_ne nDp.symm]; exact hBp') upd_same (dtL (SqL.of upd_same) (da.mono (Ex.new hB)))
end
end K15
namespace K15
open PySem L2 Evl Lw
section
variable {P : Program} {w : World} {K : PySem.W.Frag} {mg : Str → Option Value} {base : Heap} {C : Addr}
/-- Table(width, rows), behind its arguments -/
theorem mk_tab {B H : Hp} {Q : VK} {t : Tab} {rv : V} (kB : Ex B H) (dr : Dt K B rv t.rows) (ok : t.Ok) (q : ∀ v B' H', Gr M0 B H B' H' → TAt K C B' v t → (∃ p, v = .ref p ∧ H p = none) → Q v H') :
    ∀ x dx, H x = none → H dx = none → dx ≠ x → sp_in K C (.ref x :: [.int t.wd, rv]) (upd (upd H dx (.own x)) x (.ins C dx [])) (fun v H2 => v = .non ∧ Q (.ref x) H2) E0 := by
  intro x dx hx hd nd
  have e0 : Ex H (upd (upd H dx (.own x)) x (.ins C dx [])) := (Ex.new hd).mut hx
  refine ⟨B, x, dx, t, rv, rfl, kB.trans e0, none_of_ex kB hx, upd_same, dr, ok, fun r B' H' g hb hp d => ⟨rfl, ?_⟩⟩
  have g1 := g.made hx hd
  exact q _ (upd B' x (.ins C dx (tf t.wd r))) H' (g1.learn hx hb hp) ⟨⟨x, dx, r, rfl, upd_same, d.mono (Ex.new hb)⟩, ok⟩ ⟨x, rfl, hx⟩

theorem mk_tab1 {B H : Hp} {Φ : Hp → Prop} {t : Tab} {rv : V} {x dx : Addr} (kB : Ex B H) (dr : Dt K B rv t.rows) (ok : t.Ok) (hx : H x = none) (hd : H dx = none) (q : ∀ B' H', Gr M0 B H B' H' → TAt K C B' (.ref x) t → Φ H') :
    sp_in K C (.ref x :: [.int t.wd, rv]) (upd (upd H dx (.own x)) x (.ins C dx [])) (fun v H2 => v = .non ∧ Φ H2) E0 := by
  have e0 : Ex H (upd (upd H dx (.own x)) x (.ins C dx [])) := (Ex.new hd).mut hx
  refine ⟨B, x, dx, t, rv, rfl, kB.trans e0, none_of_ex kB hx, upd_same, dr, ok, fun r B' H' g hb hp d => ⟨rfl, ?_⟩⟩
  have g1 := g.made hx hd
  exact q (upd B' x (.ins C dx (tf t.wd r))) H' (g1.learn hx hb hp) ⟨⟨x, dx, r, rfl, upd_same, d.mono (Ex.new hb)⟩, ok⟩
/-! width -/
theorem sc_w : FnScope ["self"] ["self"] (defScope s_width) := ⟨rfl, rfl, rfl, by decide +kernel, rfl, by decide +kernel, by decide +kernel⟩
def sp_w (K : PySem.W.Frag) (C : Addr) : Sp := fun vs H Q _ => ∃ (v : V) (t : Tab), vs = [v] ∧ TAt K C H v t ∧ Q (.int t.wd) H
theorem c_w (d : FnP K C "width" "Table.width" s_width) (T : TC K mg C) : CalP P w K mg base C "width" 1 (sp_w K C) := by
  obtain ⟨p, f, fd, F, hP⟩ := d
  refine ⟨p, f, fd, ["self"], body_ok F sc_w (fun vs H Q E h => by obtain ⟨_, _, rfl, _⟩ := h; rfl) (fun f cdv A outer s H vs Q E hr h => ?_), T.cl, hP, F.binds fun _ _ _ _ _ _ us hl => match us, hl with | [_], _ => rfl⟩
  obtain ⟨v, t, rfl, h, k⟩ := h
  obtain ⟨a, dx, r, rfl, ha, _⟩ := h.ex
  refine s_one (s_ret (e_fld (h := ?_)))
  walk_at "E"
  exact ⟨a, C, dx, _, _, rfl, ha, T.cl, T.nW, tf_w _ _, k⟩
/-! rows -/
abbrev N_rows : List Str := ["self", "cells"]
theorem sc_rows : FnScope N_rows ["self"] (defScope s_rows) := ⟨rfl, rfl, rfl, by decide +kernel, rfl, by decide +kernel, by decide +kernel⟩
def sp_rows (K : PySem.W.Frag) (C : Addr) : Sp := fun vs H Q _ => ∃ (B : Hp) (v : V) (t : Tab), vs = [v] ∧ Ex B H ∧ TAt K C B v t ∧ RetL K B H Q t.rows
theorem c_rows (d : FnP K C "rows" "Table.rows" s_rows) (T : TC K mg C) (mli : mg "list" = none) : CalP P w K mg base C "rows" 1 (sp_rows K C) := by
  obtain ⟨p, f, fd, F, hP⟩ := d
  refine ⟨p, f, fd, ["self"], body_ok F sc_rows (fun vs H Q E h => by obtain ⟨_, _, _, rfl, _⟩ := h; rfl) (fun f cdv A outer s H vs Q E hr h => ?_), T.cl, hP, F.binds fun _ _ _ _ _ _ us hl => match us, hl with | [_], _ => rfl⟩
  obtain ⟨B, v, t, rfl, kB, h, k⟩ := h
  obtain ⟨a, dx, r, rfl, ha, dr⟩ := h.ex
  obtain ⟨ra, rvs, er, rL, rD⟩ := dt_list dr
  cases er
  refine s_one (s_ret (e_lc [("cells", 1)] sc_rows.nd (ok := blkOk_by (N := N_rows) (sc := defScope s_rows) (by decide +kernel)) (h := i_list (e_fld (h := ?_)))))
  walk_at "E"
  refine ⟨a, C, dx, _, _, rfl, kB _ _ ha, T.cl, T.nR, tf_r _ _, _, rfl, ⟨_, ex_l kB rL⟩, fun D hD => lcL (K := K) (fun r => some r) rL rD kB hD (Nat.lt_trans h.ok.len (by decide)) ?_ ?_⟩
  · intro i y x B' H' hy dx' g' KT KF kt kf s0 H0 C0 cl fp
    refine g_name 1 sc_rows.nd (q := ⟨rfl, ?_⟩)
    intro s0 H0 C0 cl fp
    refine ts_nil (ift rfl ?_)
    intro s0 H0 C0 cl fp
    obtain ⟨ya, yvs, rfl, yL, yD⟩ := dt_list dx'
    refine e_ty call_list_of mli (by decide +kernel) ?_
    walk_at "E"
    refine ⟨_, _, rfl, .inl (ex_l g'.k yL), fun l hl => kt y _ (upd B' l (.lst yvs)) _ rfl ((Gr.refl g'.k).new hl) (dtL (SqL.of upd_same) (yD.mono (Ex.new (none_of_ex g'.k hl))))⟩
  · intro B' H' acc g' hB hD' da
    rw [List.filterMap_some] at da
    exact k D B' H' acc g' hB hD hD' da
/-! len -/
theorem sc_tl : FnScope ["self"] ["self"] (defScope s_tlen) := ⟨rfl, rfl, rfl, by decide +kernel, rfl, by decide +kernel, by decide +kernel⟩
def sp_tl (K : PySem.W.Frag) (C : Addr) : Sp := fun vs H Q _ => ∃ (v : V) (t : Tab), vs = [v] ∧ TAt K C H v t ∧ Q (.int t.rows.length) H
theorem c_tl (d : ∃ f fd, Fun K "__len__" "Table.__len__" s_tlen f fd ∧ PySem.W.findIn K (.ref C) "__len__" = some (some (.ref f)) ∧ PySem.W.isFn K (.ref f) = true) (T : TC K mg C) (ml : mg "len" = none) : CalL P w K mg base C 1 ["self"] (sp_tl K C) := by
  obtain ⟨f, fd, F, h1, h2⟩ := d
  refine ⟨f, fd, body_ok F sc_tl (fun vs H Q E h => by obtain ⟨_, _, rfl, _⟩ := h; rfl) (fun f cdv A outer s H vs Q E hr h => ?_), h1, h2, F.binds fun _ _ _ _ _ _ us hl => match us, hl with | [_], _ => rfl⟩
  obtain ⟨v, t, rfl, h, k⟩ := h
  obtain ⟨a, dx, r, rfl, ha, dr⟩ := h.ex
  obtain ⟨ra, rvs, er, rL, rD⟩ := dt_list dr
  cases er
  refine s_one (s_ret (e_blt call_len_seq ml PySem.boot_len (a_cons (h := e_fld (h := ?_)))))
  walk_at "E"
  refine ⟨a, C, dx, _, _, rfl, ha, T.cl, T.nR, tf_r _ _, ?_⟩
  walk_at "E"
  refine ⟨_, _, rfl, .inl rL, ?_⟩
  rw [rD.len]
  exact k
/-! column -/
abbrev N_col : List Str := ["self", "column", "cells"]
theorem sc_col : FnScope N_col ["self", "column"] (defScope s_col) := ⟨rfl, rfl, rfl, by decide +kernel, rfl, by decide +kernel, by decide +kernel⟩
def colOf (rows : List (List Int)) (j : Nat) : List Int := rows.filterMap fun r => r[j]?
def sp_col (K : PySem.W.Frag) (C : Addr) : Sp := fun vs H Q _ => ∃ (B : Hp) (v : V) (t : Tab) (j : Nat), vs = [v, .int (j : Nat)] ∧ Ex B H ∧ TAt K C B v t ∧ (j : Int) < t.wd ∧ RetL K B H Q (colOf t.rows j)
theorem c_col (d : FnM K C "column" "Table.column" s_col) (T : TC K mg C) (e1 : Cal P w K mg base "check_column" 1 ["width", "column"] sp_cr) : CalM P w K mg base C "column" 2 ["self", "column"] (sp_col K C) := by
  obtain ⟨f, fd, F, hM⟩ := d
  refine ⟨f, fd, body_ok F sc_col (fun vs H Q E h => by obtain ⟨_, _, _, _, rfl, _⟩ := h; rfl) (fun f cdv A outer s H vs Q E hr h => ?_), T.cl, hM, F.binds fun _ _ _ _ _ _ us hl => match us, hl with | [_, _], _ => rfl⟩
  obtain ⟨B, v, t, j, rfl, kB, h, hj, k⟩ := h
  obtain ⟨a, dx, r, rfl, ha, dr⟩ := h.ex
  obtain ⟨ra, rvs, er, rL, rD⟩ := dt_list dr
  cases er
  refine s_cons (s_expr (h := e_call e1 hr (h := a_cons (h := e_fld (h := ?_)))))
  walk_at "E"
  refine ⟨a, C, dx, _, _, rfl, kB _ _ ha, T.cl, T.nW, tf_w _ _, ?_⟩
  walk_at "E"
  refine ⟨_, _, rfl, by omega, hj, ?_⟩
  refine s_one (s_ret (e_lc [("cells", 2)] sc_col.nd (ok := blkOk_by (N := N_col) (sc := defScope s_col) (by decide +kernel)) (h := i_list (e_fld (h := ?_)))))
  walk_at "E"
  refine ⟨a, C, dx, _, _, rfl, kB _ _ ha, T.cl, T.nR, tf_r _ _, _, rfl, ⟨_, ex_l kB rL⟩, fun D hD => lcL (K := K) (fun r => r[j]?) rL rD kB hD (Nat.lt_trans h.ok.len (by decide)) ?_ ?_⟩
  · intro i y x B' H' hy dx' g' KT KF kt kf s0 H0 C0 cl fp
    refine g_name 2 sc_col.nd (q := ⟨rfl, ?_⟩)
    intro s0 H0 C0 cl fp
    refine ts_nil (ift rfl ?_)
    intro s0 H0 C0 cl fp
    obtain ⟨ya, yvs, rfl, yL, yD⟩ := dt_list dx'
    have hy1 : (y.length : Int) = t.wd := h.ok.le y (List.mem_of_getElem? hy)
    have hy2 : y[j]? = some (y[j]'(by omega)) := List.getElem?_eq_getElem (by omega)
    obtain ⟨cv, hc1, hc2⟩ := yD.at hy2
    refine e_ixL (h := ?_)
    walk_at "E"
    exact ⟨_, _, _, _, rfl, rfl, ex_l g'.k yL, at_of rfl hc1, kt _ _ B' _ hy2 (Gr.refl g'.k) hc2⟩
  · intro B' H' acc g' hB hD' da
    exact k D B' H' acc g' hB hD hD' da
end
end K15
namespace K15
open PySem L2 Evl Lw
section
variable {P : Program} {w : World} {K : PySem.W.Frag} {mg : Str → Option Value} {base : Heap} {C : Addr}
theorem empty_len {α β : Type} : ∀ {l : List α} {m : List β}, l.length = m.length → l.isEmpty = m.isEmpty
  | [], [], _ => rfl
  | _ :: _, _ :: _, _ => rfl
  | [], _ :: _, h => by simp at h
  | _ :: _, [], h => by simp at h
theorem cal_fn {x : Str} {st : Stmt} {ps : List Str} {k : Nat} {sp : Sp} (d : Fn K mg x st) (ok : ∀ f fd, Fun K x x st f fd → FnOk P w K mg base CX0 k f fd ps sp)
    (hb : ∀ (kV doc pm : Value) (an : Option Addr) (cdv ct : Value) (us : List Value), us.length = ps.length → bindArgs (PySem.W.fnOf x x (defArgs st) (defBody st) (defScope st) .none kV doc pm an cdv ct) ⟨us, []⟩ = pure (ps.zip us)) : Cal P w K mg base x k ps sp := by
  obtain ⟨f, fd, F, hm⟩ := d
  exact ⟨f, fd, ok f fd F, hm, F.kp, F.binds hb⟩
theorem calK_fn {x : Str} {st : Stmt} {ps ks : List Str} {k : Nat} {sp : Sp} (g : {α : Type} → List α → List α) (d : Fn K mg x st) (ok : ∀ f fd, Fun K x x st f fd → FnOk P w K mg base CX0 k f fd ps sp)
    (rel : ∀ {vs : List V} {us : List Value}, Vals vs us → Vals (g vs) (g us))
    (hb : ∀ (kV doc pm : Value) (an : Option Addr) (cdv ct : Value) (ws : List Value), ws.length = ks.length → bindArgs (PySem.W.fnOf x x (defArgs st) (defBody st) (defScope st) .none kV doc pm an cdv ct) ⟨[], ks.zip ws⟩ = pure (ps.zip (g ws))) : CalK P w K mg base x k ps ks g sp := by
  obtain ⟨f, fd, F, hm⟩ := d
  refine ⟨f, fd, fun _ ws => g ws, ok f fd F, hm, F.kp, ⟨fun s us ws _ l1 l2 => ?_, fun _ r => rel r⟩⟩
  have e : us = [] := List.length_eq_zero_iff.mp l1
  subst e
  obtain ⟨oc, od, kV, doc, pm, an, cdv, ct, osl, rfl, lk, hcd⟩ := F.ex
  exact BindsTo.of_eq (hb kV doc pm an cdv ct ws l2)
/-! let_rows -/
def letF (fs : List Bd) (p : List Int × Nat) : Option Int := if (barC fs p.1).isEmpty then some (p.2 : Int) else none
def letR (rows : List (List Int)) (fs : List Bd) : List Int := rows.zipIdx.filterMap (letF fs)
abbrev N_lr : List Str := ["table", "filters", "row", "cells"]
theorem sc_lr : FnScope N_lr ["table", "filters"] (defScope s_lr) := ⟨rfl, rfl, rfl, by decide +kernel, rfl, by decide +kernel, by decide +kernel⟩
def sp_lr (K : PySem.W.Frag) (C : Addr) : Sp := fun vs H Q _ => ∃ (B : Hp) (v f : V) (t : Tab) (fs : List Bd), vs = [v, f] ∧ Ex B H ∧ TAt K C B v t ∧ Dt K B f fs ∧ (fs.length : Int) = t.wd ∧ RetL K B H Q (letR t.rows fs)
theorem ok_lr {f : Addr} {fd : FuncData} (F : Fun K "let_rows" "let_rows" s_lr f fd) (me : mg "enumerate" = none) (e0 : Cal P w K mg base "check_filters" 1 ["width", "filters"] (sp_cf K)) (e1 : Cal P w K mg base "_barring_columns" 2 ["filters", "cells"] (sp_bc K))
    (p1 : CalP P w K mg base C "width" 1 (sp_w K C)) (p2 : CalP P w K mg base C "rows" 1 (sp_rows K C)) : FnOk P w K mg base CX0 3 f fd ["table", "filters"] (sp_lr K C) := by
  refine body_ok F sc_lr (fun vs H Q E h => by obtain ⟨_, _, _, _, _, rfl, _⟩ := h; rfl) (fun f cdv A outer s H vs Q E hr h => ?_)
  obtain ⟨B, v, fv, t, fs, rfl, kB, h, df, hf, k⟩ := h
  obtain ⟨a, dx, r, rfl, ha, dr⟩ := h.ex
  obtain ⟨fa, fvs, rfl, fL, fD⟩ := dt_list df
  refine s_cons (s_expr (h := e_call e0 (hr.mono (by decide)) (h := a_cons (h := e_prop p1 hr (h := ?_)))))
  walk_at "E"
  refine ⟨a, dx, _, rfl, kB _ _ ha, _, t, rfl, h.mono kB, ?_⟩
  walk_at "E"
  refine ⟨_, _, _, rfl, ex_l kB fL, by rw [fD.len, hf], ?_⟩
  refine s_one (s_ret (e_lc [("row", 2), ("cells", 3)] sc_lr.nd (ok := blkOk_by (N := N_lr) (sc := defScope s_lr) (by decide +kernel)) (h := i_enum me (h := a_cons (h := e_prop p2 hr (h := ?_))))))
  walk_at "E"
  refine ⟨a, dx, _, rfl, kB _ _ ha, B, _, t, rfl, kB, h, fun D1 B1 H1 acc1 g1 b1 d1 e1' da1 => a_nil ⟨_, _, rfl, SqL.of e1', fun D hD => ?_⟩⟩
  have g2 := g1.learn d1 b1 e1'
  have da2 : Das K (upd B1 D1 (.lst acc1)) acc1 t.rows := da1.mono (Ex.new b1)
  have wk : Walk (Ite K D1) (t.rows.zipIdx).length (fun H => SqL K H D1 acc1) (YPair (fun i => some (.int (i : Nat))) (fun i => acc1[i]?)) := by
    rw [List.length_zipIdx, ← da1.len]
    exact walk_enum
  refine lcF (K := K) (letF fs) wk g2.k hD (by rw [List.length_zipIdx]; exact Nat.lt_trans h.ok.len (by decide)) (fun B' H' g => ex_l (g.b.trans g.k) (SqL.of upd_same)) ?_ (fun B' H' acc g b e da => k D B' H' acc (g2.trans g) b (g2.free hD) e da)
  rintro i ⟨row, j⟩ x B' H' H'' ha' g ⟨T, x, y, rfl, hT, rfl, hx, hy⟩ KT KF kt kf s0 H0 C cl fp
  cases hx
  obtain ⟨ea, rfl⟩ := get_zi ha'
  obtain ⟨row', er, dy⟩ := da2.get hy
  rw [ea] at er
  cases er
  have g3 : Gr M0 B' H' B' (upd H' T (.tup [.int (j : Nat), y])) := (Gr.refl g.k).own hT
  have hw : (row.length : Int) = t.wd := h.ok.le row (List.mem_of_getElem? ea)
  have hhi := h.ok.hi
  refine g_tup (SqT.of upd_same) rfl (h := gs_cons (h := g_name 2 sc_lr.nd (q := gs_cons (h := g_name 3 sc_lr.nd (q := gs_nil ⟨rfl, ?_⟩)))))
  intro s0 H0 C0 cl fp
  refine ts_one (t_not (t_tru (e_call e1 (hr.mono (by decide)) (h := ?_))))
  walk_at "E"
  refine ⟨B', _, _, fs, row, rfl, g3.k, df.mono (g2.b.trans g.b), dy.mono g.b, by omega, by omega, fun D3 B3 H3 acc3 g4 b3 d3 e3 da3 => ⟨_, .inl ⟨acc3, SqL.of e3, rfl⟩, ?_⟩⟩
  have el : acc3.isEmpty = (barC fs row).isEmpty := empty_len da3.len
  rw [el]
  cases ee : (barC fs row).isEmpty with
  | true =>
    refine ift rfl ?_
    intro s0 H0 C0 cl fp
    walk_at "E"
    exact kt (j : Nat) _ B3 _ (by unfold letF; rw [ee]; rfl) (g3.trans g4) (dtI _)
  | false => exact iff_ rfl (kf B3 _ (by unfold letF; rw [ee]; rfl) (g3.trans g4))
end
end K15
namespace K15
open PySem L2 Evl Lw
section
variable {P : Program} {w : World} {K : PySem.W.Frag} {mg : Str → Option Value} {base : Heap} {C : Addr}
/-! _law_deck -/
theorem sc_deck : FnScope ["_law_script", "_law_at", "_law_cell"] ["_law_script", "_law_at"] (defScope s_deck) := ⟨rfl, rfl, rfl, by decide +kernel, rfl, by decide +kernel, by decide +kernel⟩
def sp_deck (K : PySem.W.Frag) : Sp := fun vs H Q _ => ∃ (a : Addr) (ns : List Int) (i : Nat), vs = [.ref a, .int (i : Nat)] ∧ SqL K H a (ns.map V.int) ∧ i ≤ 100 ∧ ∀ p x y z, H p = none → Q (.ref p) (upd H p (dk x y z))
theorem c_deck (d : Fn K mg "_law_deck" s_deck) (ml : mg "len" = none) (mm : mg "max" = none) (ma : mg "abs" = none) (mi : mg "int" = none) : Cal P w K mg base "_law_deck" 1 ["_law_script", "_law_at"] (sp_deck K) := by
  refine cal_of d sc_deck (fun vs H Q E h => by obtain ⟨_, _, _, rfl, _⟩ := h; rfl) (fun _ _ _ _ _ _ us hl => match us, hl with | [_, _], _ => rfl) (fun f cdv A outer s H vs Q E hr h => ?_)
  obtain ⟨a, ns, i, rfl, hL, hi, k⟩ := h
  have fin : ∀ c : Int, WSs (cxOf CX0 P w K mg base ["_law_script", "_law_at", "_law_cell"] "_law_deck" (defScope s_deck) f cdv A outer s H E).nox ((defBody s_deck).drop 2) { nx := fun _ H' => Q .non H', rt := Q } [some (.ref a), some (.int (i : Nat)), some (.int c)] H := by
    intro c
    refine s_one (s_ret (e_lst (a_cons (h := e_blt (call_max2 rfl) mm (by decide +kernel) (a_cons (h := e_int (a_cons (h := e_sub (h := ?_)))))))))
    walk_at "E"
    refine e_pow (h := ?_)
    walk_at "E"
    refine ⟨_, _, rfl, rfl, ⟨by decide, by decide, by decide⟩, ?_⟩
    walk_at "ii"
    walk_at "E"
    refine ⟨_, _, rfl, ?_⟩
    refine a_cons (h := e_add (h := e_bin op_mul (h := e_blt call_abs ma (by decide +kernel) ?_)))
    walk_at "E"
    refine ⟨_, rfl, ?_⟩
    walk_at "E"
    refine ⟨_, _, rfl, rfl, .inr (by decide), ?_⟩
    refine e_ty call_int1 mi (by decide +kernel) (a_cons (h := e_cmp op_lt (h := ?_)))
    walk_at "E"
    walk_at "ii"
    walk_at "E"
    refine .inr ⟨_, rfl, ?_⟩
    walk_at "ii"
    walk_at "E"
    exact ⟨by show 3 ≤ sizeLine; decide, fun p hp => k p _ _ _ hp⟩
  refine s_cons (s_set 2 sc_deck.nd (h := e_add (h := e_bin op_mul (h := ?_))))
  walk_at "E"
  refine ⟨_, _, rfl, rfl, .inl (by decide), ?_⟩
  walk_at "E"
  walk_at "ii"
  refine s_cons (s_if (t_cmp op_lt (h := ?_)))
  walk_at "E"
  refine e_blt call_len_seq ml PySem.boot_len ?_
  walk_at "E"
  refine ⟨_, _, rfl, .inl hL, _, _, rfl, rfl, _, rfl, ifd (fun h => ?_) fun _ => s_nil (fin _)⟩
  rw [List.length_map] at h
  refine s_one (s_set 2 sc_deck.nd (h := e_ixL (h := ?_)))
  walk_at "E"
  have e : ns[i]? = some (ns[i]'(by omega)) := List.getElem?_eq_getElem (by omega)
  exact ⟨_, _, _, _, rfl, rfl, hL, at_of rfl (by rw [List.getElem?_map, e]; rfl), fin _⟩
/-! _law_draw -/
theorem sc_draw : FnScope ["_law_deck_here", "_law_many", "_law_drawn", "_law_mixed"] ["_law_deck_here", "_law_many"] (defScope s_draw) := ⟨rfl, rfl, rfl, by decide +kernel, rfl, by decide +kernel, by decide +kernel⟩
def sp_draw : Sp := fun vs H Q _ => ∃ (d : Addr) (m : Int), vs = [.ref d, .int m] ∧ DeckAt H d ∧ 0 < m ∧ m.natAbs < 2 ^ 250 ∧ ∀ r x y z, 0 ≤ r → r < m → Q (.int r) (upd H d (dk x y z))
theorem c_draw (d : Fn K mg "_law_draw" s_draw) (mi : mg "int" = none) : Cal P w K mg base "_law_draw" 1 ["_law_deck_here", "_law_many"] sp_draw := by
  refine cal_of d sc_draw (fun vs H Q E h => by obtain ⟨_, _, rfl, _⟩ := h; rfl) (fun _ _ _ _ _ _ us hl => match us, hl with | [_, _], _ => rfl) (fun f cdv A outer s H vs Q E hr h => ?_)
  obtain ⟨d, m, rfl, ⟨x, y, z, hd⟩, hm, hm2, k⟩ := h
  have g0 : ∀ {H' : Hp} {x y z : Int} (h : H' d = some (dk x y z)), SqL K H' d [.int x, .int y, .int z] := fun h => SqL.of h
  have cd : CDivW x m := wide_div hm hm2 (by decide) (by decide)
  refine s_cons (s_if (t_cmp op_gt (h := e_ixL (h := ?_))))
  walk_at "E"
  refine ⟨_, _, _, _, rfl, rfl, g0 hd, rfl, ?_⟩
  walk_at "E"
  refine ⟨_, _, rfl, rfl, _, rfl, ifd (fun h => ?_) fun _ => s_nil ?_⟩
  · refine s_cons (s_set 2 sc_draw.nd (h := e_mod (h := e_ty call_int1 mi (by decide +kernel) (a_cons (h := e_ixL (h := ?_))))))
    walk_at "E"
    refine ⟨_, _, _, _, rfl, rfl, g0 hd, rfl, ?_⟩
    walk_at "E"
    refine .inl ⟨_, rfl, ?_⟩
    walk_at "E"
    refine ⟨_, _, rfl, rfl, hm, ?_⟩
    refine s_cons (s_sub (h := e_fdiv (h := e_ixL (h := ?_))))
    walk_at "E"
    refine ⟨_, _, _, _, rfl, rfl, g0 hd, rfl, ?_⟩
    walk_at "E"
    refine ⟨_, _, rfl, rfl, cd, ?_⟩
    walk_at "E"
    refine ⟨_, _, _, 0, rfl, rfl, hd, rfl, ?_⟩
    refine s_one (s_ret ?_)
    walk_at "E"
    exact k _ _ _ _ (Int.emod_nonneg _ (by omega)) (Int.emod_lt_of_pos _ hm)
  · refine s_cons (s_sub (h := e_add (h := e_ixL (h := ?_))))
    walk_at "E"
    refine ⟨_, _, _, _, rfl, rfl, g0 hd, rfl, ?_⟩
    walk_at "E"
    walk_at "ii"
    walk_at "E"
    refine ⟨_, _, _, 2, rfl, rfl, hd, rfl, ?_⟩
    have h2 : (upd H d (.lst ([V.int x, .int y, .int z].set 2 (.int (z + 1))))) d = some (dk x y (z + 1)) := upd_same
    refine s_cons (s_set 3 sc_draw.nd (h := e_mod (h := e_ty call_int1 mi (by decide +kernel) (a_cons (h := e_add (h := e_add (h := e_bin op_mul (h := e_ixL (h := ?_)))))))))
    walk_at "E"
    refine ⟨_, _, _, _, rfl, rfl, g0 h2, rfl, ?_⟩
    walk_at "E"
    refine ⟨_, _, rfl, rfl, .inr (by decide), ?_⟩
    refine e_bin op_mul (h := e_ixL (h := ?_))
    walk_at "E"
    refine ⟨_, _, _, _, rfl, rfl, g0 h2, rfl, ?_⟩
    walk_at "E"
    refine ⟨_, _, rfl, rfl, .inr (by decide), ?_⟩
    walk_at "ii"
    walk_at "E"
    walk_at "ii"
    walk_at "E"
    refine .inl ⟨_, rfl, ?_⟩
    walk_at "E"
    refine ⟨_, _, rfl, rfl, by decide, ?_⟩
    generalize hq : (y * 40503 + (z + 1) * 69069 + 7) % 4294967291 = q1
    have b1 : 0 ≤ q1 ∧ q1 < 4294967291 := by omega
    refine s_cons (s_set 3 sc_draw.nd (h := e_mod (h := e_ty call_int1 mi (by decide +kernel) (a_cons (h := e_add (h := e_add (h := e_bin op_mul (h := ?_))))))))
    walk_at "E"
    refine ⟨_, _, rfl, rfl, .inl (by omega), ?_⟩
    refine e_bin op_mul (h := ?_)
    walk_at "E"
    refine e_ixL (h := ?_)
    walk_at "E"
    refine ⟨_, _, _, _, rfl, rfl, g0 h2, rfl, ?_⟩
    refine ⟨_, _, rfl, rfl, .inl (by decide), ?_⟩
    walk_at "ii"
    refine e_ixL (h := ?_)
    walk_at "E"
    refine ⟨_, _, _, _, rfl, rfl, g0 h2, rfl, ?_⟩
    walk_at "ii"
    walk_at "E"
    refine .inl ⟨_, rfl, ?_⟩
    walk_at "E"
    refine ⟨_, _, rfl, rfl, by decide, ?_⟩
    generalize hq2 : (q1 * q1 + 17 * (z + 1) + y) % 4294967279 = q2
    have b2 : 0 ≤ q2 ∧ q2 < 4294967279 := by
      rw [← hq2]
      exact ⟨Int.emod_nonneg _ (by decide), Int.emod_lt_of_pos _ (by decide)⟩
    refine s_cons (s_set 3 sc_draw.nd (h := e_mod (h := e_ty call_int1 mi (by decide +kernel) (a_cons (h := e_add (h := e_bin op_mul (h := ?_)))))))
    walk_at "E"
    refine e_add (h := ?_)
    walk_at "E"
    refine e_ixL (h := ?_)
    walk_at "E"
    refine ⟨_, _, _, _, rfl, rfl, g0 h2, rfl, ?_⟩
    walk_at "ii"
    refine ⟨_, _, rfl, rfl, .inl (by omega), ?_⟩
    walk_at "E"
    walk_at "ii"
    walk_at "E"
    refine .inl ⟨_, rfl, ?_⟩
    walk_at "E"
    refine ⟨_, _, rfl, rfl, by decide, ?_⟩
    refine s_one (s_ret (e_mod (h := e_ty call_int1 mi (by decide +kernel) (a_cons (h := e_fdiv (h := ?_))))))
    walk_at "E"
    refine ⟨_, _, rfl, rfl, wide_div (b := 10) (by decide) (by decide) (by decide) (by decide), ?_⟩
    walk_at "E"
    refine .inl ⟨_, rfl, ?_⟩
    walk_at "E"
    exact ⟨_, _, rfl, rfl, hm, k _ _ _ _ (Int.emod_nonneg _ (by omega)) (Int.emod_lt_of_pos _ hm)⟩
end
end K15
namespace K15
open PySem L2 Evl Lw
section
variable {P : Program} {w : World} {K : PySem.W.Frag} {mg : Str → Option Value} {base : Heap} {C : Addr}
/-- a draw -/
theorem draw_k {B H : Hp} {d : Addr} {m : Int} {Q : VK} (k : Dk B H d) (hm : 0 < m) (hb : m.natAbs < 2 ^ 250) (q : ∀ r H', 0 ≤ r → r < m → Gr (Md d) B H B H' → Dk B H' d → Q (.int r) H') : sp_draw [.ref d, .int m] H Q E0 :=
  ⟨d, m, rfl, k.at_, hm, hb, fun r x y z h0 h1 =>
    have g := (Gr.refl (M := Md d) k.k).deck (x := x) (y := y) (z := z) k.b
    q r _ h0 h1 g (k.go g ⟨x, y, z, upd_same⟩)⟩
/-! _law_cells -/
theorem sc_cells : FnScope ["_law_deck_here", "_law_kind"] ["_law_deck_here", "_law_kind"] (defScope s_cells) := ⟨rfl, rfl, rfl, by decide +kernel, rfl, by decide +kernel, by decide +kernel⟩
def sp_cells : Sp := fun vs H Q _ => ∃ (B : Hp) (d : Addr) (m : Int), vs = [.ref d, .int m] ∧ Dk B H d ∧ 0 ≤ m ∧ m < 5 ∧ ∀ r H', Gr (Md d) B H B H' → Dk B H' d → Q (.int r) H'
theorem c_cells (d : Fn K mg "_law_cells" s_cells) (e1 : Cal P w K mg base "_law_draw" 1 ["_law_deck_here", "_law_many"] sp_draw) : Cal P w K mg base "_law_cells" 2 ["_law_deck_here", "_law_kind"] sp_cells := by
  refine cal_of d sc_cells (fun vs H Q E h => by obtain ⟨_, _, _, rfl, _⟩ := h; rfl) (fun _ _ _ _ _ _ us hl => match us, hl with | [_, _], _ => rfl) (fun f cdv A outer s H vs Q E hr h => ?_)
  obtain ⟨B, d, m, rfl, dk, h0, h5, k⟩ := h
  refine s_cons (s_if (t_cmp op_lt (h := ?_)))
  walk_at "E"
  refine ⟨_, _, rfl, rfl, _, rfl, ifd (fun h3 => ?_) fun h3 => s_nil ?_⟩
  · refine s_one (s_ret (e_call e1 hr (h := ?_)))
    refine a_cons (h := ?_)
    walk_at "nm"
    refine a_cons (h := e_ixL (h := e_lst ?_))
    walk_at "E"
    refine ⟨by show 3 ≤ sizeLine; decide, fun p hp => ?_⟩
    walk_at "E"
    have g1 : Gr (Md d) B H B (upd H p (.lst [.int 2, .int 3, .int 4])) := (Gr.refl dk.k).own hp
    have fin : ∀ v : Int, 0 < v → v < 10 → ([V.int 2, .int 3, .int 4])[m.toNat]? = some (.int v) → ∃ p' xs i v, V.ref p = .ref p' ∧ V.int m = .int i ∧ SqL K (upd H p (.lst [.int 2, .int 3, .int 4])) p' xs ∧ atI xs i = some v ∧ (WA (cxOf CX0 P w K mg base ["_law_deck_here", "_law_kind"] "_law_cells" (defScope s_cells) f cdv A outer s H E).nox [] (start ["_law_deck_here", "_law_kind"] [.ref d, .int m]) (upd H p (.lst [.int 2, .int 3, .int 4])) fun xs H2 => sp_draw (.ref d :: v :: xs) H2 Q E0) :=
      fun v hv hv2 hx => ⟨p, _, m, _, rfl, rfl, SqL.of upd_same, at_of (by omega : m = (m.toNat : Int)) hx, a_nil (draw_k (dk.own hp) hv (Nat.lt_of_lt_of_le (by omega : v.natAbs < 10) (by decide)) fun r H' _ _ g d' => k r H' (g1.trans g) d')⟩
    have c3 : m = 0 ∨ m = 1 ∨ m = 2 := by omega
    rcases c3 with e | e | e
    · exact fin 2 (by decide) (by decide) (by rw [e]; rfl)
    · exact fin 3 (by decide) (by decide) (by rw [e]; rfl)
    · exact fin 4 (by decide) (by decide) (by rw [e]; rfl)
  · refine s_cons (s_if (t_cmp op_eq (h := ?_)))
    walk_at "E"
    refine ⟨rfl, _, rfl, ifd (fun h4 => ?_) fun h4 => s_nil ?_⟩
    · refine s_one (s_ret (e_sub (h := e_call e1 hr (h := ?_))))
      walk_at "E"
      refine draw_k dk (by decide) (by decide) fun r H' _ _ g d' => ?_
      walk_at "E"
      exact ⟨_, _, rfl, rfl, k _ H' g d'⟩
    · refine s_one (s_ret (e_add (h := e_sub (h := e_call e1 hr (h := ?_)))))
      refine a_cons (h := ?_)
      walk_at "nm"
      refine a_cons (h := e_sub (h := e_bin op_mul (h := ?_)))
      walk_at "E"
      refine e_pow (h := ?_)
      walk_at "E"
      refine ⟨_, _, rfl, rfl, ⟨by decide, by decide, by decide⟩, _, _, rfl, rfl, .inl (by decide), ?_⟩
      walk_at "E"
      walk_at "ii"
      walk_at "E"
      refine draw_k dk (by decide) (by decide) fun r H' _ _ g d' => ?_
      refine e_pow (h := ?_)
      walk_at "E"
      refine ⟨_, _, rfl, rfl, ⟨by decide, by decide, by decide⟩, ?_⟩
      walk_at "ii"
      walk_at "E"
      exact ⟨_, _, rfl, rfl, k _ H' g d'⟩
end
end K15
namespace K15
open PySem L2 Evl Lw
section
variable {P : Program} {w : World} {K : PySem.W.Frag} {mg : Str → Option Value} {base : Heap} {C : Addr}
/-! _law_table -/
abbrev N_tb : List Str := ["_law_deck_here", "_law_most", "_law_width", "_law_columns", "_law_kinds", "_law_rows", "_law_turn", "_law_row", "_law_column", "_law_kind"]
theorem sc_tb : FnScope N_tb ["_law_deck_here", "_law_most", "_law_width"] (defScope s_table) := ⟨rfl, rfl, rfl, by decide +kernel, rfl, by decide +kernel, by decide +kernel⟩
def sp_tb (K : PySem.W.Frag) (C : Addr) : Sp := fun vs H Q _ => ∃ (B : Hp) (d : Addr) (mo wi : Int), vs = [.ref d, .int mo, .int wi] ∧ Dk B H d ∧ 0 ≤ mo ∧ mo ≤ 100 ∧ 1 ≤ wi ∧ wi ≤ 5 ∧
  ∀ v t B' H', Gr (Md d) B H B' H' → Dk B' H' d → TAt K C B' v t → t.wd ≤ 5 → Q v H'
theorem c_tb (d : Fn K mg "_law_table" s_table) (mr : mg "range" = none) (mli : mg "list" = none) (ml : mg "len" = none) (e1 : Cal P w K mg base "_law_draw" 1 ["_law_deck_here", "_law_many"] sp_draw) (e2 : Cal P w K mg base "_law_cells" 2 ["_law_deck_here", "_law_kind"] sp_cells)
    (e3 : CalI P w K mg base C "Table" 2 ["self", "width", "rows"] (sp_in K C)) : Cal P w K mg base "_law_table" 4 ["_law_deck_here", "_law_most", "_law_width"] (sp_tb K C) := by
  refine cal_of d sc_tb (fun vs H Q E h => by obtain ⟨_, _, _, _, rfl, _⟩ := h; rfl) (fun _ _ _ _ _ _ us hl => match us, hl with | [_, _, _], _ => rfl) (fun f cdv A outer s H vs Q E hr h => ?_)
  obtain ⟨B, d, mo, wi, rfl, dk0, hm0, hm1, hw0, hw1, k⟩ := h
  refine s_cons (s_set 3 sc_tb.nd (h := e_add (h := ?_)))
  walk_at "E"
  refine e_call e1 (hr.mono (by decide)) (h := ?_)
  walk_at "E"
  refine draw_k dk0 (by omega) (Nat.lt_of_lt_of_le (by omega : wi.natAbs < 10) (by decide)) fun cr H1 c0 c1 g1 d1 => ?_
  walk_at "ii"
  generalize hc : (1 + cr : Int) = cols
  have hc0 : 1 ≤ cols ∧ cols ≤ 5 := by omega
  -- the kinds
  refine s_cons (s_setLc 4 [("_law_column", 8)] sc_tb.nd (ok := blkOk_by (N := N_tb) (sc := defScope s_table) (by decide +kernel)) (h := i_rng1 mr (h := ?_)))
  walk_at "E"
  refine ⟨_, rfl, by omega, by omega, fun D hD => lcInts walk_range (fun z => 0 ≤ z ∧ z < 5) d1 hD (Nat.lt_of_le_of_lt (by omega : cols.toNat ≤ 5) (by decide)) (fun _ _ _ _ => trivial) ?_ ?_⟩
  · rintro i x B' H' H'' hi g dk' ⟨rfl, rfl⟩ KT KF kt s0 H0 C0 cl fp
    refine g_name 8 sc_tb.nd (q := ⟨rfl, ?_⟩)
    intro s0 H0 C0 cl fp
    refine ts_nil (ift rfl ?_)
    intro s0 H0 C0 cl fp
    refine e_call e1 (hr.mono (by decide)) (h := ?_)
    walk_at "E"
    exact draw_k dk' (by decide) (by decide) fun r H4 r0 r1 g4 d4 => kt r B' H4 g4 d4 ⟨r0, r1⟩
  intro B2 H2 ks g2 d2 b2 eD hkl hkp
  have gA : Gr (Md d) B H (upd B2 D (.lst (ks.map V.int))) H2 := (g1.trans g2).learn (g1.free hD) b2 eD
  have dA : Dk (upd B2 D (.lst (ks.map V.int))) H2 d := dk0.go gA d2.at_
  refine s_cons (s_set 5 sc_tb.nd (h := e_lst (a_nil ?_)))
  refine ⟨Nat.zero_le _, fun ra hra => ?_⟩
  have hra0 : H ra = none := gA.free hra
  have gB := gA.own (o := .lst []) hra
  have dB := dA.own (o := .lst []) hra
  have hdr : d ≠ ra := dA.at_.ne hra
  refine s_cons (s_for (h := i_rng1 mr (h := e_call e1 (hr.mono (by decide)) (h := ?_))))
  walk_at "E"
  refine e_add (h := ?_)
  walk_at "E"
  walk_at "ii"
  walk_at "E"
  refine draw_k dB (by omega) (Nat.lt_of_lt_of_le (by omega : (mo + 1).natAbs < 200) (by decide)) fun n H3 n0 n1 g3 d3 => ⟨n, rfl, by omega, by omega, ?_⟩
  have e3' : H3 ra = some (.lst []) := g3.h _ _ (fun z => hdr z.symm) upd_same
  refine for_it walk_range (fun i σ H' => ∃ B' acc rows u v, σ = [some (.ref d), some (.int mo), some (.int wi), some (.int cols), some (.ref D), some (.ref ra), u, v, none, none] ∧ Gr (Md d) B H B' H' ∧ Dk B' H' d ∧ B' ra = none ∧ H' ra = some (.lst acc) ∧ Das K B' acc (rows : List (List Int)) ∧ (∀ r ∈ rows, (r.length : Int) = cols) ∧ rows.length ≤ i ∧ B' D = some (.lst (ks.map V.int)))
    ⟨_, [], [], none, none, rfl, gB.trans g3, dB.go g3 d3.at_, none_of_ex dA.k hra, e3', Das.nil, (fun r hr => nomatch hr), Nat.le_refl _, upd_same⟩ (fun _ _ _ _ _ => trivial) ?_ ?_
  · rintro i x σ H' H'' hi ⟨B', acc, rows, u, v, rfl, g, dk', hb, he, da, hlen, hle, hk⟩ ⟨rfl, rfl⟩
    have hi1 : i ≤ 100 := by omega
    refine g_name 6 sc_tb.nd (q := ?_)
    refine s_cons (s_setLc 7 [("_law_kind", 9)] sc_tb.nd (ok := blkOk_by (N := N_tb) (sc := defScope s_table) (by decide +kernel)) (h := i_list ?_))
    walk_at "E"
    refine ⟨_, rfl, ⟨_, ex_l dk'.k (SqL.of hk)⟩, fun R hR => lcInts walk_list (fun _ => True) dk' hR (by rw [List.length_map, hkl]; exact Nat.lt_of_le_of_lt (by omega : cols.toNat ≤ 5) (by decide)) (fun B'' H'' g _ => ex_l (g.b.trans g.k) (SqL.of hk)) ?_ ?_⟩
    · rintro j x B'' H4 H5 hj g4 d4 ⟨rfl, hx⟩ KT KF kt s0 H0 C0 cl fp
      obtain ⟨z, hz, rfl⟩ := get_ints hx
      obtain ⟨z0, z1⟩ := hkp z (List.mem_of_getElem? hz)
      refine g_name 9 sc_tb.nd (q := ⟨rfl, ?_⟩)
      intro s0 H0 C0 cl fp
      refine ts_nil (ift rfl ?_)
      intro s0 H0 C0 cl fp
      refine e_call e2 (hr.mono (by decide)) (h := ?_)
      walk_at "E"
      exact ⟨B'', d, z, rfl, d4, z0, z1, fun r H4 g4 d4 => kt r B'' H4 g4 d4 trivial⟩
    intro B3 H3 ns g3 d3 b3 e3 hl _
    have nRr : ra ≠ R := ne_of_none he hR
    have hera : H3 ra = some (.lst acc) := g3.h ra _ (fun z => hdr z.symm) he
    have gC : Gr (Md d) B H (upd B3 R (.lst (ns.map V.int))) H3 := (g.trans g3).learn (g.free hR) b3 e3
    have dC := dk0.go gC d3.at_
    have hbC : (upd B3 R (.lst (ns.map V.int))) ra = none := by
      rw [upd_ne nRr]
      exact g3.f ra hb (by rw [he]; exact fun z => nomatch z)
    have daC : Das K (upd B3 R (.lst (ns.map V.int))) acc rows := da.mono (g3.b.trans (Ex.new b3))
    have hkC : (upd B3 R (.lst (ns.map V.int))) D = some (.lst (ks.map V.int)) := (g3.b.trans (Ex.new b3)) _ _ hk
    rw [List.length_map, hkl] at hl
    -- another row, perhaps
    refine s_cons (s_join (fun σ H5 => ∃ B5 l row, σ = [some (.ref d), some (.int mo), some (.int wi), some (.int cols), some (.ref D), some (.ref ra), some (.int (0 + (i : Nat))), some (.ref l), none, none] ∧ Gr (Md d) B H B5 H5 ∧ Dk B5 H5 d ∧ B5 ra = none ∧ H5 ra = some (.lst acc) ∧ Das K B5 acc rows ∧ B5 D = some (.lst (ks.map V.int)) ∧ Dt K B5 (.ref l) (row : List Int) ∧ (row.length : Int) = cols) (s_if (t_wb (b_and (t_cmp (op_neD hr.units) (h := ?_))))) ?_)
    · walk_at "E"
      refine ⟨Nat.zero_le _, fun p hp => ?_⟩
      have gD := gC.own (o := .lst []) hp
      have npra : ra ≠ p := ne_of_none hera hp
      have heD : (upd H3 p (.lst [])) ra = some (.lst acc) := by rw [upd_ne npra]; exact hera
      have rest : ∀ H5, Gr (Md d) (upd B3 R (.lst (ns.map V.int))) (upd H3 p (.lst [])) (upd B3 R (.lst (ns.map V.int))) H5 → Dk (upd B3 R (.lst (ns.map V.int))) H5 d → ∃ B5 l row, ([some (.ref d), some (.int mo), some (.int wi), some (.int cols), some (.ref D), some (.ref ra), some (.int (0 + (i : Nat))), some (.ref R), none, none] : L2.St) = [some (.ref d), some (.int mo), some (.int wi), some (.int cols), some (.ref D), some (.ref ra), some (.int (0 + (i : Nat))), some (.ref l), none, none] ∧ Gr (Md d) B H B5 H5 ∧ Dk B5 H5 d ∧ B5 ra = none ∧ H5 ra = some (.lst acc) ∧ Das K B5 acc rows ∧ B5 D = some (.lst (ks.map V.int)) ∧ Dt K B5 (.ref l) (row : List Int) ∧ (row.length : Int) = cols :=
        fun H5 g5 d5 => ⟨_, R, ns, rfl, gD.trans g5, d5, hbC, g5.h ra _ (fun z => hdr z.symm) heD, daC, hkC, dtL (SqL.of upd_same) das_ints, by omega⟩
      refine ne_dat (x := rows) (y := []) (dtL (SqL.of heD) (daC.mono gD.k)) (dtL (SqL.of upd_same) Das.nil) (Ex.refl _) (by decide) ⟨_, rfl, ifn (fun hne => ?_) fun _ => ?_⟩
      · refine b_and1 (t_cmp op_eq (h := e_call e1 (hr.mono (by decide)) (h := ?_)))
        walk_at "E"
        refine draw_k (dC.own hp) (by decide) (by decide) fun r H5 _ _ g5 d5 => ?_
        walk_at "E"
        refine ⟨rfl, _, rfl, ifd (fun _ => ?_) fun _ => s_nil (rest H5 g5 d5)⟩
        refine s_one (s_set 7 sc_tb.nd (h := e_ty call_list_of mli (by decide +kernel) (a_cons (h := e_ixL (h := ?_)))))
        walk_at "nm"
        refine e_call e1 (hr.mono (by decide)) (h := a_cons (h := ?_))
        walk_at "nm"
        have he5 : H5 ra = some (.lst acc) := g5.h ra _ (fun z => hdr z.symm) heD
        have hrl : 0 < rows.length := List.length_pos_iff.mpr hne
        refine a_cons (h := e_blt call_len_seq ml PySem.boot_len ?_)
        walk_at "E"
        refine ⟨_, _, rfl, .inl (SqL.of he5), ?_⟩
        walk_at "E"
        rw [da.len]
        refine draw_k d5 (by omega) (Nat.lt_of_lt_of_le (by omega : ((rows.length : Nat) : Int).natAbs < 200) (by decide)) fun q H6 q0 q1 g6 d6 => ?_
        have he6 : H6 ra = some (.lst acc) := g6.h ra _ (fun z => hdr z.symm) he5
        have hq : rows[q.toNat]? = some (rows[q.toNat]'(by omega)) := List.getElem?_eq_getElem (by omega)
        obtain ⟨y, hy1, hy2⟩ := daC.at hq
        refine ⟨_, _, _, y, rfl, rfl, SqL.of he6, at_of (by omega : q = (q.toNat : Int)) hy1, ?_⟩
        walk_at "E"
        obtain ⟨ya, yvs, rfl, yL, yD⟩ := dt_list hy2
        refine ⟨_, _, rfl, .inl (ex_l d6.k yL), fun l hl => ?_⟩
        have gE := ((gD.trans g5).trans g6).new (o := .lst yvs) hl
        have nl : ra ≠ l := ne_of_none he6 hl
        refine ⟨_, l, _, rfl, gE, d6.new hl, by rw [upd_ne nl]; exact hbC, by rw [upd_ne nl]; exact he6, daC.mono (Ex.new (none_of_ex d6.k hl)), (Ex.new (none_of_ex d6.k hl)) _ _ hkC, dtL (SqL.of upd_same) (yD.mono (Ex.new (none_of_ex d6.k hl))), hlen _ (List.mem_of_getElem? hq)⟩
      · exact s_nil (rest _ (Gr.refl gD.k) (dC.own hp))
    · rintro σ H5 ⟨B5, l, row, rfl, g5, d5, hb5, he5, da5, hk5, dl, hrow⟩
      refine s_one (s_expr (h := e_bm PySem.F.plainAttrs_list PySem.F.slot_list_append PySem.F.type_list_append mt_append ?_))
      walk_at "E"
      refine ⟨.inl ⟨rfl, _, SqL.of he5⟩, ?_⟩
      walk_at "E"
      refine ⟨_, _, _, rfl, rfl, he5, Nat.lt_of_le_of_lt (by rw [da5.len]; omega : acc.length ≤ 100) (by decide), ?_⟩
      refine ⟨B5, _, rows ++ [row], _, _, rfl, g5.mut (.inr hra0) hb5, ⟨?_, d5.b, d5.at_.upd hdr⟩, hb5, upd_same, da5.snoc dl, fun r hr => ?_, by rw [List.length_append, List.length_singleton]; omega, hk5⟩
      · exact (g5.mut (o := .lst (acc ++ [.ref l])) (.inr hra0) hb5).k
      · rcases List.mem_append.mp hr with h | h
        · exact hlen r h
        · rw [List.mem_singleton.mp h]; exact hrow
  · rintro σ H5 ⟨B5, acc, rows, u, v, rfl, g5, d5, hb5, he5, da5, hlen, hle, hk5⟩
    refine s_one (s_ret (e_make e3 hr (h := ?_)))
    walk_at "E"
    have g6 := g5.learn hra0 hb5 he5
    refine mk_tab (t := ⟨cols, rows⟩) g6.k (dtL (SqL.of upd_same) (da5.mono (Ex.new hb5))) ⟨hc0.1, (by show cols ≤ 100; omega), hlen, (by show rows.length < 1000; omega)⟩ fun v B7 H7 g7 tv _ => ?_
    exact k v _ B7 H7 (g6.trans g7.up) ((dk0.go g6 d5.at_).gr g7) tv hc0.2
end
end K15
namespace K15
open PySem L2 Evl Lw
section
variable {P : Program} {w : World} {K : PySem.W.Frag} {mg : Str → Option Value} {base : Heap} {C : Addr}
def ifBody (s : Stmt) : List Stmt := match s with | Stmt.If _ b _ _ => b | _ => []
/-! _law_bound -/
def ov : Option Int → V | none => .non | some i => .int i
theorem dt_ov {B : Hp} (o : Option Int) : Dt K B (ov o) o := by cases o <;> first | exact dtN | exact dtS _
theorem sc_bound : FnScope ["_law_deck_here", "_law_cells_here", "_law_kind"] ["_law_deck_here", "_law_cells_here"] (defScope s_bound) := ⟨rfl, rfl, rfl, by decide +kernel, rfl, by decide +kernel, by decide +kernel⟩
def sp_bound (K : PySem.W.Frag) : Sp := fun vs H Q _ => ∃ (B : Hp) (d c : Addr) (ns : List Int), vs = [.ref d, .ref c] ∧ Dk B H d ∧ SqL K B c (ns.map V.int) ∧ ns.length < 1000 ∧
  ∀ o H', Gr (Md d) B H B H' → Dk B H' d → Q (ov o) H'
theorem c_bound (dd : Fn K mg "_law_bound" s_bound) (ml : mg "len" = none) (e1 : Cal P w K mg base "_law_draw" 1 ["_law_deck_here", "_law_many"] sp_draw) : Cal P w K mg base "_law_bound" 2 ["_law_deck_here", "_law_cells_here"] (sp_bound K) := by
  refine cal_of dd sc_bound (fun vs H Q E h => by obtain ⟨_, _, _, _, rfl, _⟩ := h; rfl) (fun _ _ _ _ _ _ us hl => match us, hl with | [_, _], _ => rfl) (fun f cdv A outer s H vs Q E hr h => ?_)
  obtain ⟨B, d, c, ns, rfl, k0, hL, hn, k⟩ := h
  refine s_cons (s_set 2 sc_bound.nd (h := e_call e1 hr (h := ?_)))
  walk_at "E"
  refine draw_k k0 (by decide) (by decide) fun kind H1 c0 c1 g1 d1 => ?_
  refine s_cons (s_if (t_cmp op_lt (h := ?_)))
  walk_at "E"
  refine ⟨_, _, rfl, rfl, _, rfl, ifd (fun _ => ?_) fun _ => s_nil ?_⟩
  · refine s_one (s_ret ?_)
    walk_at "E"
    exact k none _ g1 d1
  -- any number
  have any : ∀ H2, Gr (Md d) B H B H2 → Dk B H2 d → WSs (cxOf CX0 P w K mg base ["_law_deck_here", "_law_cells_here", "_law_kind"] "_law_bound" (defScope s_bound) f cdv A outer s H E).nox
      (ifBody ((defBody s_bound).getD 2 (.Pass ⟨0, 0, 0, 0⟩))) { nx := WSs (cxOf CX0 P w K mg base ["_law_deck_here", "_law_cells_here", "_law_kind"] "_law_bound" (defScope s_bound) f cdv A outer s H E).nox ((defBody s_bound).drop 3) { nx := fun _ H' => Q .non H', rt := Q }, rt := Q } [some (.ref d), some (.ref c), some (.int kind)] H2 := by
    intro H2 g2 d2
    refine s_one (s_ret (e_ixL (h := e_lst (a_cons (h := e_sub (h := e_call e1 hr (h := ?_)))))))
    walk_at "E"
    refine draw_k d2 (by decide) (by decide) fun r H3 _ _ g3 d3 => ?_
    walk_at "E"
    walk_at "ii"
    refine a_cons (h := e_add (h := e_sub (h := e_call e1 hr (h := ?_))))
    refine a_cons (h := ?_)
    walk_at "nm"
    refine a_cons (h := e_sub (h := e_bin op_mul (h := ?_)))
    walk_at "E"
    refine e_pow (h := ?_)
    walk_at "E"
    refine ⟨_, _, rfl, rfl, ⟨by decide, by decide, by decide⟩, _, _, rfl, rfl, .inl (by decide), ?_⟩
    walk_at "E"
    walk_at "ii"
    walk_at "E"
    refine draw_k d3 (by decide) (by decide) fun r2 H4 _ _ g4 d4 => ?_
    refine e_pow (h := ?_)
    walk_at "E"
    refine ⟨_, _, rfl, rfl, ⟨by decide, by decide, by decide⟩, ?_⟩
    walk_at "ii"
    walk_at "E"
    walk_at "ii"
    walk_at "E"
    refine ⟨by show 2 ≤ sizeLine; decide, fun p hp => ?_⟩
    refine e_call e1 hr (h := ?_)
    walk_at "E"
    refine draw_k (d4.own hp) (by decide) (by decide) fun j H5 j0 j1 g5 d5 => ?_
    have np : p ≠ d := (d4.at_.ne hp).symm
    have e5 := g5.h p _ np upd_same
    have gA := (((g2.trans g3).trans g4).own hp).trans g5
    have c2 : j = 0 ∨ j = 1 := by omega
    rcases c2 with e | e
    · exact ⟨p, _, _, _, rfl, rfl, SqL.of e5, at_of (j := 0) e rfl, k (some _) H5 gA d5⟩
    · exact ⟨p, _, _, _, rfl, rfl, SqL.of e5, at_of (j := 1) e rfl, k (some _) H5 gA d5⟩
  have last : ns ≠ [] → ∀ H2, Gr (Md d) B H B H2 → Dk B H2 d → WSs (cxOf CX0 P w K mg base ["_law_deck_here", "_law_cells_here", "_law_kind"] "_law_bound" (defScope s_bound) f cdv A outer s H E).nox ((defBody s_bound).drop 3) { nx := fun _ H' => Q .non H', rt := Q } [some (.ref d), some (.ref c), some (.int kind)] H2 := by
    intro hne H2 g2 d2
    have hl0 : 0 < ns.length := List.length_pos_iff.mpr hne
    refine s_one (s_ret (e_add (h := e_ixL (h := ?_))))
    walk_at "nm"
    refine e_call e1 hr (h := a_cons (h := ?_))
    walk_at "nm"
    refine a_cons (h := e_blt call_len_seq ml PySem.boot_len ?_)
    walk_at "E"
    refine ⟨_, _, rfl, .inl (ex_l d2.k hL), ?_⟩
    walk_at "E"
    rw [List.length_map]
    refine draw_k d2 (by omega) (Nat.lt_of_lt_of_le (by omega : ((ns.length : Nat) : Int).natAbs < 1000) (by decide)) fun q H6 q0 q1 g6 d6 => ?_
    have hq : ns[q.toNat]? = some (ns[q.toNat]'(by omega)) := List.getElem?_eq_getElem (by omega)
    refine ⟨_, _, _, _, rfl, rfl, ex_l d6.k hL, at_of (by omega : q = (q.toNat : Int)) (by rw [List.getElem?_map, hq]; rfl), ?_⟩
    refine e_ixL (h := e_lst ?_)
    walk_at "E"
    refine ⟨_, rfl, ?_⟩
    walk_at "E"
    refine ⟨by show 4 ≤ sizeLine; decide, fun p hp => ?_⟩
    refine e_call e1 hr (h := ?_)
    walk_at "E"
    refine draw_k (d6.own hp) (by decide) (by decide) fun j H7 j0 j1 g7 d7 => ?_
    have np : p ≠ d := (d6.at_.ne hp).symm
    have e7 := g7.h p _ np upd_same
    have gA := ((g2.trans g6).own hp).trans g7
    have c2 : j = 0 ∨ j = 1 ∨ j = 2 ∨ j = 3 := by omega
    rcases c2 with e | e | e | e
    · exact ⟨p, _, _, _, rfl, rfl, SqL.of e7, at_of (j := 0) e rfl, _, _, rfl, rfl, k (some _) H7 gA d7⟩
    · exact ⟨p, _, _, _, rfl, rfl, SqL.of e7, at_of (j := 1) e rfl, _, _, rfl, rfl, k (some _) H7 gA d7⟩
    · exact ⟨p, _, _, _, rfl, rfl, SqL.of e7, at_of (j := 2) e rfl, _, _, rfl, rfl, k (some _) H7 gA d7⟩
    · exact ⟨p, _, _, _, rfl, rfl, SqL.of e7, at_of (j := 3) e rfl, _, _, rfl, rfl, k (some _) H7 gA d7⟩
  refine s_cons (s_if (t_wb (b_or (t_cmp op_eq (h := ?_)))))
  walk_at "E"
  refine ⟨rfl, _, rfl, ifd (fun _ => ift rfl (any _ g1 d1)) fun _ => ?_⟩
  refine b_or1 (t_cmp (op_eqD hr.units) (h := ?_))
  walk_at "E"
  refine ⟨Nat.zero_le _, fun p hp => ?_⟩
  have d2 := d1.own (o := .lst []) hp
  have g2 := g1.own (o := .lst []) hp
  refine eq_dat (x := ns) (y := []) (B := upd H1 p (.lst [])) (dtL (ex_l d2.k hL) das_ints) (dtL (SqL.of upd_same) Das.nil) (Ex.refl _) (by decide) ⟨_, rfl, ifd (fun _ => any _ g2 d2) fun hne => s_nil (last hne _ g2 d2)⟩
end
end K15
namespace K15
open PySem L2 Evl Lw
section
variable {P : Program} {w : World} {K : PySem.W.Frag} {mg : Str → Option Value} {base : Heap} {C : Addr}
/-! _law_filters -/
abbrev N_fi : List Str := ["_law_deck_here", "_law_table_here", "_law_found", "_law_column", "_law_cells_here", "_law_low", "_law_high"]
theorem sc_fi : FnScope N_fi ["_law_deck_here", "_law_table_here"] (defScope s_filters) := ⟨rfl, rfl, rfl, by decide +kernel, rfl, by decide +kernel, by decide +kernel⟩
def sp_fi (K : PySem.W.Frag) (C : Addr) : Sp := fun vs H Q _ => ∃ (B : Hp) (d : Addr) (v : V) (t : Tab), vs = [.ref d, v] ∧ Dk B H d ∧ TAt K C B v t ∧
  ∀ D B' H' acc fs, Gr (Md d) B H B' H' → Dk B' H' d → B' D = none → H D = none → H' D = some (.lst acc) → Das K B' acc (fs : List Bd) → (fs.length : Int) = t.wd → Q (.ref D) H'
theorem col_len {rows : List (List Int)} {j : Nat} : (colOf rows j).length ≤ rows.length := List.length_filterMap_le _ _
theorem c_fi (dd : Fn K mg "_law_filters" s_filters) (mr : mg "range" = none) (e1 : Cal P w K mg base "_law_draw" 1 ["_law_deck_here", "_law_many"] sp_draw) (e2 : Cal P w K mg base "_law_bound" 2 ["_law_deck_here", "_law_cells_here"] (sp_bound K))
    (p1 : CalP P w K mg base C "width" 1 (sp_w K C)) (m1 : CalM P w K mg base C "column" 2 ["self", "column"] (sp_col K C)) : Cal P w K mg base "_law_filters" 3 ["_law_deck_here", "_law_table_here"] (sp_fi K C) := by
  refine cal_of dd sc_fi (fun vs H Q E h => by obtain ⟨_, _, _, _, rfl, _⟩ := h; rfl) (fun _ _ _ _ _ _ us hl => match us, hl with | [_, _], _ => rfl) (fun f cdv A outer s H vs Q E hr h => ?_)
  obtain ⟨B, d, v, t, rfl, k0, ht, k⟩ := h
  obtain ⟨a, dx, r, rfl, ha, dr⟩ := ht.ex
  refine s_cons (s_set 2 sc_fi.nd (h := e_lst (a_nil ⟨Nat.zero_le _, fun F hF => ?_⟩)))
  have g1 := (Gr.refl (M := Md d) k0.k).own (o := .lst []) hF
  have d1 := k0.own (o := .lst []) hF
  have hdF : F ≠ d := (k0.at_.ne hF).symm
  refine s_cons (s_for (h := i_rng1 mr (h := e_prop p1 (hr.mono (by decide)) (h := ?_))))
  walk_at "E"
  have hlo := ht.ok.lo
  have hhi := ht.ok.hi
  refine ⟨a, dx, _, rfl, d1.k _ _ ha, _, t, rfl, ht.mono d1.k, _, rfl, by omega, by omega, ?_⟩
  refine for_it walk_r0 (fun i σ H' => ∃ B' acc fs u1 u2 u3 u4, σ = [some (.ref d), some (.ref a), some (.ref F), u1, u2, u3, u4] ∧ Gr (Md d) B H B' H' ∧ Dk B' H' d ∧ B' F = none ∧ H' F = some (.lst acc) ∧ Das K B' acc (fs : List Bd) ∧ fs.length = i)
    ⟨B, [], [], none, none, none, none, rfl, g1, d1, none_of_ex k0.k hF, upd_same, Das.nil, rfl⟩ (fun _ _ _ _ _ => trivial) ?_ ?_
  · rintro i x σ H' H'' hi ⟨B', acc, fs, u1, u2, u3, u4, rfl, g, dk', hb, he, da, hfl⟩ ⟨rfl, rfl⟩
    refine g_name 3 sc_fi.nd (q := ?_)
    -- the column's cells
    refine s_cons (s_set 4 sc_fi.nd (h := e_meth m1 (hr.mono (by decide)) (h := ?_)))
    walk_at "E"
    refine ⟨a, dx, _, rfl, dk'.k _ _ (g.b _ _ ha), tf_no _ _ (by decide +kernel) (by decide +kernel), ?_⟩
    walk_at "E"
    refine ⟨B', _, t, i, rfl, dk'.k, ht.mono g.b, by omega, fun L B2 H2 acc2 g2 b2 l2 e2' da2 => ?_⟩
    have ea := da2.ints
    subst ea
    have g3 : Gr (Md d) B H (upd B2 L (.lst ((colOf t.rows i).map V.int))) H2 := (g.trans g2.up).learn (g.free l2) b2 e2'
    have d3 : Dk (upd B2 L (.lst ((colOf t.rows i).map V.int))) H2 d := k0.go g3 (dk'.gr g2).at_
    have nFL : F ≠ L := ne_of_none he l2
    have hbF : (upd B2 L (.lst ((colOf t.rows i).map V.int))) F = none := by rw [upd_ne nFL]; exact g2.f F hb (by rw [he]; exact fun z => nomatch z)
    have heF : H2 F = some (.lst acc) := g2.ex _ _ he
    have daF : Das K (upd B2 L (.lst ((colOf t.rows i).map V.int))) acc fs := da.mono (g2.b.trans (Ex.new b2))
    have hL : SqL K (upd B2 L (.lst ((colOf t.rows i).map V.int))) L ((colOf t.rows i).map V.int) := SqL.of upd_same
    have hcl : (colOf t.rows i).length < 1000 := Nat.lt_of_le_of_lt col_len ht.ok.len
    -- both bounds
    refine s_cons (s_par 5 6 sc_fi.nd (h := a_cons (h := e_call e2 (hr.mono (by decide)) (h := ?_))))
    walk_at "E"
    refine ⟨_, d, L, _, rfl, d3, hL, hcl, fun lo H4 g4 d4 => a_cons (h := e_call e2 (hr.mono (by decide)) (h := ?_))⟩
    walk_at "E"
    refine ⟨_, d, L, _, rfl, d4, hL, hcl, fun hi' H5 g5 d5 => ?_⟩
    walk_at "E"
    refine ⟨_, _, rfl, ?_⟩
    have g45 := g4.trans g5
    have heF5 : H5 F = some (.lst acc) := g45.h F _ hdF heF
    -- perhaps exchanged
    refine s_cons (s_join (fun σ H6 => ∃ lo hi, σ = [some (.ref d), some (.ref a), some (.ref F), some (.int (i : Nat)), some (.ref L), some (ov lo), some (ov hi)] ∧ Gr (Md d) (upd B2 L (.lst ((colOf t.rows i).map V.int))) H5 (upd B2 L (.lst ((colOf t.rows i).map V.int))) H6 ∧ Dk (upd B2 L (.lst ((colOf t.rows i).map V.int))) H6 d) (s_if (t_wb (b_and (t_cmp op_notN (h := ?_))))) ?_)
    · have same := (⟨lo, hi', rfl, Gr.refl d5.k, d5⟩ : ∃ lo2 hi2, ([some (.ref d), some (.ref a), some (.ref F), some (.int (i : Nat)), some (.ref L), some (ov lo), some (ov hi')] : L2.St) = [some (.ref d), some (.ref a), some (.ref F), some (.int (i : Nat)), some (.ref L), some (ov lo2), some (ov hi2)] ∧ Gr (Md d) (upd B2 L (.lst ((colOf t.rows i).map V.int))) H5 (upd B2 L (.lst ((colOf t.rows i).map V.int))) H5 ∧ Dk (upd B2 L (.lst ((colOf t.rows i).map V.int))) H5 d)
      walk_at "E"
      cases lo with
      | none => exact ⟨rfl, _, rfl, iff_ rfl (s_nil same)⟩
      | some lo =>
        refine ⟨rfl, _, rfl, ift rfl (b_and (t_cmp op_notN (h := ?_)))⟩
        walk_at "E"
        cases hi' with
        | none => exact ⟨rfl, _, rfl, iff_ rfl (s_nil same)⟩
        | some hi' =>
          refine ⟨rfl, _, rfl, ift rfl (b_and (t_cmp op_gt (h := ?_)))⟩
          walk_at "E"
          refine ⟨_, _, rfl, rfl, _, rfl, ifd (fun _ => ?_) fun _ => s_nil same⟩
          refine b_and1 (t_cmp op_gt (h := e_call e1 (hr.mono (by decide)) (h := ?_)))
          walk_at "E"
          refine draw_k d5 (by decide) (by decide) fun q H6 _ _ g6 d6 => ?_
          walk_at "E"
          refine ⟨_, _, rfl, rfl, _, rfl, ifd (fun _ => ?_) fun _ => s_nil ⟨some lo, some hi', rfl, g6, d6⟩⟩
          refine s_one (s_par 5 6 sc_fi.nd (h := ?_))
          walk_at "E"
          exact ⟨_, _, rfl, some hi', some lo, rfl, g6, d6⟩
    · rintro σ H6 ⟨lo, hi2, rfl, g6, d6⟩
      have heF6 : H6 F = some (.lst acc) := g6.h F _ hdF heF5
      refine s_one (s_expr (h := e_bm PySem.F.plainAttrs_list PySem.F.slot_list_append PySem.F.type_list_append mt_append ?_))
      walk_at "E"
      refine ⟨.inl ⟨rfl, _, SqL.of heF6⟩, ?_⟩
      walk_at "E"
      refine ⟨by show 2 ≤ sizeLine; decide, fun T hT => ?_⟩
      walk_at "E"
      have nFT : F ≠ T := ne_of_none heF6 hT
      have bT := none_of_ex d6.k hT
      refine ⟨F, acc, _, rfl, rfl, by rw [upd_ne nFT]; exact heF6, Nat.lt_of_le_of_lt (by rw [da.len]; omega : acc.length ≤ 100) (by decide), ?_⟩
      have g7 := ((g3.trans g45).trans g6).new (o := .tup [ov lo, ov hi2]) hT
      have hF0 : H F = none := hF
      have hbF7 : (upd (upd B2 L (.lst ((colOf t.rows i).map V.int))) T (.tup [ov lo, ov hi2])) F = none := by rw [upd_ne nFT]; exact hbF
      have g8 := g7.mut (p := F) (o := .lst (acc ++ [.ref T])) (.inr hF0) hbF7
      exact ⟨_, _, fs ++ [(lo, hi2)], _, _, _, _, rfl, g8, ⟨g8.k, (d6.new (o := .tup [ov lo, ov hi2]) hT).b, (d6.new (o := .tup [ov lo, ov hi2]) hT).at_.upd hdF.symm⟩, hbF7, upd_same, (daF.mono (Ex.new bT)).snoc (dtP (SqT.of upd_same) (dt_ov lo) (dt_ov hi2)), by rw [List.length_append, List.length_singleton, hfl]⟩
  · rintro σ H6 ⟨B', acc, fs, u1, u2, u3, u4, rfl, g, dk', hb, he, da, hfl⟩
    refine s_one (s_ret ?_)
    walk_at "E"
    exact k F B' H6 acc fs g dk' hb hF he da (by omega)
end
end K15
namespace K15
open PySem L2 Evl Lw
section
variable {P : Program} {w : World} {K : PySem.W.Frag} {mg : Str → Option Value} {base : Heap} {C : Addr}
/-! the mathematics -/
def letAll (fs : List Bd) (cs : List Int) : Bool := cs.zipIdx.all fun p => lets (fs.getD p.2 (none, none)) p.1
theorem zi_mem {α : Type} {cs : List α} {a : α} {j : Nat} : (a, j) ∈ cs.zipIdx ↔ cs[j]? = some a := by
  constructor
  · intro h
    obtain ⟨i, hi⟩ := List.getElem?_of_mem h
    obtain ⟨e, rfl⟩ := get_zi hi
    exact e
  · intro h
    refine List.mem_of_getElem? (i := j) ?_
    rw [List.getElem?_zipIdx, h]
    simp
theorem letAll_iff {fs : List Bd} {cs : List Int} : letAll fs cs = true ↔ ∀ j c, cs[j]? = some c → lets (fs.getD j (none, none)) c = true := by
  unfold letAll
  rw [List.all_eq_true]
  exact ⟨fun h j c e => h (c, j) (zi_mem.mpr e), fun h ⟨c, j⟩ hm => h j c (zi_mem.mp hm)⟩
theorem barC_empty {fs : List Bd} {cs : List Int} : (barC fs cs).isEmpty = letAll fs cs := by
  rw [Bool.eq_iff_iff, letAll_iff, List.isEmpty_iff]
  unfold barC
  rw [List.filterMap_eq_nil_iff]
  constructor
  · intro h j c e
    have := h (c, j) (zi_mem.mpr e)
    unfold barF at this
    split at this
    · assumption
    · cases this
  · rintro h ⟨c, j⟩ hm
    unfold barF
    rw [if_pos (h j c (zi_mem.mp hm))]
theorem zi_range {α : Type} (cs : List α) (x : α) : cs.zipIdx = (List.range cs.length).map fun i => (cs.getD i x, i) := by
  apply List.ext_getElem?
  intro i
  rw [List.getElem?_zipIdx, List.getElem?_map]
  by_cases h : i < cs.length
  · rw [List.getElem?_range h, List.getElem?_eq_getElem h]
    simp [List.getD_eq_getElem?_getD, List.getElem?_eq_getElem h]
  · rw [List.getElem?_eq_none (by omega), List.getElem?_eq_none (by rw [List.length_range]; omega)]
    rfl
def shF (rows : List (List Int)) (fs : List Bd) (i : Nat) : Option Int := if letAll fs (rows.getD i []) then some (i : Int) else none
theorem shown_eq (rows : List (List Int)) (fs : List Bd) : (List.range rows.length).filterMap (shF rows fs) = letR rows fs := by
  unfold letR
  rw [zi_range rows [], List.filterMap_map]
  congr 1
  funext i
  unfold shF letF
  simp only [Function.comp, barC_empty]
def dueF (fs : List Bd) (cs : List Int) (j : Nat) : Option Int := if letAll [fs.getD j (none, none)] [cs.getD j 0] then none else some (j : Int)
theorem letAll_one (b : Bd) (c : Int) : letAll [b] [c] = lets b c := by
  unfold letAll
  simp
theorem due_eq (fs : List Bd) (cs : List Int) : (List.range cs.length).filterMap (dueF fs cs) = barC fs cs := by
  unfold barC
  rw [zi_range cs 0, List.filterMap_map]
  congr 1
  funext j
  unfold dueF barF
  simp only [Function.comp, letAll_one]
/-! _law_lets -/
abbrev N_ll : List Str := ["_law_filters_here", "_law_cells_here", "_law_k", "_law_low", "_law_high"]
theorem sc_ll : FnScope N_ll ["_law_filters_here", "_law_cells_here"] (defScope s_llets) := ⟨rfl, rfl, rfl, by decide +kernel, rfl, by decide +kernel, by decide +kernel⟩
def sp_ll (K : PySem.W.Frag) : Sp := fun vs H Q _ => ∃ (f c : V) (fs : List Bd) (cs : List Int), vs = [f, c] ∧ Dt K H f fs ∧ Dt K H c cs ∧ cs.length ≤ fs.length ∧ cs.length < 1000 ∧ Q (.bl (letAll fs cs)) H
theorem dt_ov_inv {B : Hp} {v : V} {o : Option Int} (h : Dt K B v o) : v = ov o := by
  cases o with
  | none => exact dt_none h
  | some i => exact dt_some h
theorem c_ll (dd : Fn K mg "_law_lets" s_llets) (mr : mg "range" = none) (ml : mg "len" = none) : Cal P w K mg base "_law_lets" 1 ["_law_filters_here", "_law_cells_here"] (sp_ll K) := by
  refine cal_of dd sc_ll (fun vs H Q E h => by obtain ⟨_, _, _, _, rfl, _⟩ := h; rfl) (fun _ _ _ _ _ _ us hl => match us, hl with | [_, _], _ => rfl) (fun f cdv A outer s H vs Q E hr h => ?_)
  obtain ⟨fv, cv, fs, cs, rfl, df, dc, hl, hz, k⟩ := h
  obtain ⟨fa, fvs, rfl, fL, fD⟩ := dt_list df
  obtain ⟨ca, cvs, rfl, cL, cD⟩ := dt_list dc
  have ec := cD.ints
  subst ec
  refine s_cons (s_for (h := i_rng1 mr (h := e_blt call_len_seq ml PySem.boot_len ?_)))
  walk_at "E"
  refine ⟨_, _, rfl, .inl cL, _, rfl, by rw [List.length_map]; omega, by rw [List.length_map]; omega, ?_⟩
  rw [List.length_map, Int.toNat_natCast]
  refine for_it walk_r0 (fun i σ H' => H' = H ∧ (∃ u v x, σ = [some (.ref fa), some (.ref ca), u, v, x]) ∧ ∀ j c, j < i → cs[j]? = some c → lets (fs.getD j (none, none)) c = true) ⟨rfl, ⟨none, none, none, rfl⟩, fun j c hj => absurd hj (by omega)⟩ (fun _ _ _ _ _ => trivial) ?_ ?_
  · rintro i x σ H' H'' hi ⟨rfl, ⟨u, v, x, rfl⟩, hall⟩ ⟨rfl, rfl⟩
    refine g_name 2 sc_ll.nd (q := ?_)
    have hfi : fs[i]? = some (fs[i]'(by omega)) := List.getElem?_eq_getElem (by omega)
    have hci : cs[i]? = some (cs[i]'hi) := List.getElem?_eq_getElem hi
    obtain ⟨bv, hb1, hb2⟩ := fD.at hfi
    have hc1 : (cs.map V.int)[i]? = some (.int (cs[i]'hi)) := by rw [List.getElem?_map, hci]; rfl
    have ed : fs.getD i (none, none) = fs[i]'(by omega) := by rw [List.getD_eq_getElem?_getD, hfi]; rfl
    generalize hb : fs[i]'(by omega) = b at *
    generalize hcc : cs[i]'hi = c at *
    obtain ⟨ta, y, z, rfl, hT, d1, d2⟩ := dt_pair hb2
    obtain ⟨lo, hi'⟩ := b
    cases dt_ov_inv d1
    cases dt_ov_inv d2
    refine s_cons (s_asg (h := e_ixL (h := ?_)))
    walk_at "E"
    refine ⟨_, _, _, _, rfl, rfl, fL, at_of rfl hb1, ?_⟩
    refine g_tup hT rfl (h := gs_cons (h := g_name 3 sc_ll.nd (q := gs_cons (h := g_name 4 sc_ll.nd (q := gs_nil ?_)))))
    have next : lets (lo, hi') c = true → (H'' = H'' ∧ (∃ u v x, ([some (.ref fa), some (.ref ca), some (.int (i : Nat)), some (ov lo), some (ov hi')] : L2.St) = [some (.ref fa), some (.ref ca), u, v, x]) ∧ ∀ j c, j < i + 1 → cs[j]? = some c → lets (fs.getD j (none, none)) c = true) := by
      intro hlet
      refine ⟨rfl, ⟨_, _, _, rfl⟩, fun j c' hj hc' => ?_⟩
      by_cases e : j = i
      · subst e
        rw [hci] at hc'
        cases hc'
        rw [ed]
        exact hlet
      · exact hall j c' (by omega) hc'
    have bad : lets (lo, hi') c = false → Q (.bl false) H'' := by
      intro hlet
      have e : letAll fs cs = false := by
        cases h : letAll fs cs with
        | false => rfl
        | true =>
          have := letAll_iff.mp h i c hci
          rw [ed, hlet] at this
          cases this
      rw [e] at k
      exact k

    refine s_one (s_if (t_wb (b_or (t_wb (b_and (t_cmp op_notN (h := ?_)))))))
    walk_at "E"
    have hi2 : loOk lo c = true → (hiOk hi' c = lets (lo, hi') c) := fun h => by unfold lets; rw [h, Bool.true_and]
    have lo2 : loOk lo c = false → lets (lo, hi') c = false := fun h => by unfold lets; rw [h, Bool.false_and]
    cases lo with
    | none =>
      refine ⟨rfl, _, rfl, iff_ rfl (iff_ rfl ?_)⟩
      refine b_or1 (t_wb (b_and (t_cmp op_notN (h := ?_))))
      walk_at "E"
      cases hi' with
      | none => exact ⟨rfl, _, rfl, iff_ rfl (iff_ rfl (s_nil (next ((hi2 rfl).symm.trans rfl))))⟩
      | some hi' =>
        refine ⟨rfl, _, rfl, ift rfl (b_and1 (t_cmp op_gt (h := e_ixL (h := ?_))))⟩
        walk_at "E"
        refine ⟨_, _, _, _, rfl, rfl, cL, at_of rfl hc1, ?_⟩
        walk_at "E"
        refine ⟨_, _, rfl, rfl, _, rfl, ifd (fun hc => ?_) fun hc => ?_⟩
        · exact (s_one (s_ret (e_bl (bad ((hi2 rfl).symm.trans (decide_eq_false (by omega)))))))
        · exact (s_nil (next ((hi2 rfl).symm.trans (decide_eq_true (by omega)))))
    | some lo =>
      refine ⟨rfl, _, rfl, ift rfl (b_and1 (t_cmp op_lt (h := e_ixL (h := ?_))))⟩
      walk_at "E"
      refine ⟨_, _, _, _, rfl, rfl, cL, at_of rfl hc1, ?_⟩
      walk_at "E"
      refine ⟨_, _, rfl, rfl, _, rfl, ifd (fun hc => ?_) fun hc => ?_⟩
      · exact ift rfl (s_one (s_ret (e_bl (bad (lo2 (decide_eq_false (by omega)))))))
      · have hlo : loOk (some lo) c = true := decide_eq_true (by omega)
        refine b_or1 (t_wb (b_and (t_cmp op_notN (h := ?_))))
        walk_at "E"
        cases hi' with
        | none => exact ⟨rfl, _, rfl, iff_ rfl (iff_ rfl (s_nil (next ((hi2 hlo).symm.trans rfl))))⟩
        | some hi' =>
          refine ⟨rfl, _, rfl, ift rfl (b_and1 (t_cmp op_gt (h := e_ixL (h := ?_))))⟩
          walk_at "E"
          refine ⟨_, _, _, _, rfl, rfl, cL, at_of rfl hc1, ?_⟩
          walk_at "E"
          refine ⟨_, _, rfl, rfl, _, rfl, ifd (fun hc => ?_) fun hc => ?_⟩
          · exact (s_one (s_ret (e_bl (bad ((hi2 hlo).symm.trans (decide_eq_false (by omega)))))))
          · exact (s_nil (next ((hi2 hlo).symm.trans (decide_eq_true (by omega)))))
  · rintro σ H' ⟨rfl, ⟨u, v, x, rfl⟩, hall⟩
    have e : letAll fs cs = true := letAll_iff.mpr fun j c hc => hall j c (List.getElem?_eq_some_iff.mp hc).1 hc
    refine s_one (s_ret (e_bl ?_))
    rw [e] at k
    exact k
end
end K15
namespace K15
open PySem L2 Evl Lw
section
variable {P : Program} {w : World} {K : PySem.W.Frag} {mg : Str → Option Value} {base : Heap} {C : Addr}
/-- what isinstance asks of the class -/
structure TI (K : PySem.W.Frag) (C : Addr) : Prop where
  ha : PySem.W.findIn K (.ref C) "__class__" = some (some (.builtin "object.__class__"))
  hn : PySem.W.specialIn K (.builtin "object.__class__") "__get__" = some (some (.builtin "getset_descriptor.__get__"))
  htk : PySem.W.takesIn K (.builtin "object.__class__") = some true
  hm : PySem.W.mroIn K C (.type "object") = some true
theorem kit_own {K : PySem.W.Frag} {C : Addr} : PySem.W.kitOne K (.ref C) (.ref C) = some true := by
  unfold PySem.W.kitOne
  rw [if_pos (by simp)]
/-! _law_shown -/
abbrev N_sh : List Str := ["_law_table_here", "_law_filters_here", "_law_rows", "_law_row"]
theorem sc_sh : FnScope N_sh ["_law_table_here", "_law_filters_here"] (defScope s_shown) := ⟨rfl, rfl, rfl, by decide +kernel, rfl, by decide +kernel, by decide +kernel⟩
def sp_sh (K : PySem.W.Frag) (C : Addr) : Sp := fun vs H Q _ => ∃ (B : Hp) (v f : V) (t : Tab) (fs : List Bd), vs = [v, f] ∧ Ex B H ∧ TAt K C B v t ∧ Dt K B f fs ∧ (fs.length : Int) = t.wd ∧ RetL K B H Q (letR t.rows fs)
theorem c_sh (dd : Fn K mg "_law_shown" s_shown) (mr : mg "range" = none) (ml : mg "len" = none) (e1 : Cal P w K mg base "_law_lets" 1 ["_law_filters_here", "_law_cells_here"] (sp_ll K)) (p2 : CalP P w K mg base C "rows" 1 (sp_rows K C)) : Cal P w K mg base "_law_shown" 3 ["_law_table_here", "_law_filters_here"] (sp_sh K C) := by
  refine cal_of dd sc_sh (fun vs H Q E h => by obtain ⟨_, _, _, _, _, rfl, _⟩ := h; rfl) (fun _ _ _ _ _ _ us hl => match us, hl with | [_, _], _ => rfl) (fun f cdv A outer s H vs Q E hr h => ?_)
  obtain ⟨B, v, fv, t, fs, rfl, kB, h, df, hf, k⟩ := h
  obtain ⟨a, dx, r, rfl, ha, dr⟩ := h.ex
  refine s_cons (s_set 2 sc_sh.nd (h := e_prop p2 hr (h := ?_)))
  walk_at "E"
  refine ⟨a, dx, _, rfl, kB _ _ ha, B, _, t, rfl, kB, h, fun R B1 H1 acc1 g1 b1 r1 e1' da1 => ?_⟩
  have g2 := g1.learn r1 b1 e1'
  have da2 : Das K (upd B1 R (.lst acc1)) acc1 t.rows := da1.mono (Ex.new b1)
  refine s_one (s_ret (e_lc [("_law_row", 3)] sc_sh.nd (ok := blkOk_by (N := N_sh) (sc := defScope s_shown) (by decide +kernel)) (h := i_rng1 mr (h := e_blt call_len_seq ml PySem.boot_len ?_))))
  walk_at "E"
  have hlen := h.ok.len
  refine ⟨_, _, rfl, .inl (SqL.of e1'), _, rfl, by omega, by rw [da1.len]; omega, fun D hD => ?_⟩
  rw [da1.len, Int.toNat_natCast]
  refine lcR (K := K) (shF t.rows fs) g2.k hD (Nat.lt_trans hlen (by decide)) ?_ (fun B' H' acc g b e da => k D B' H' acc (g2.trans g) b (g2.free hD) e (by rw [← shown_eq]; exact da))
  intro i B' H' hi g KT KF kt kf s0 H0 C0 cl fp
  have hri : t.rows[i]? = some (t.rows[i]'hi) := List.getElem?_eq_getElem hi
  have hrd : t.rows.getD i [] = t.rows[i]'hi := by rw [List.getD_eq_getElem?_getD, hri]; rfl
  obtain ⟨u, hu1, hu2⟩ := da2.at hri
  have hw : ((t.rows[i]'hi).length : Int) = t.wd := h.ok.le _ (List.mem_of_getElem? hri)
  have hhi := h.ok.hi
  refine g_name 3 sc_sh.nd (q := ⟨rfl, ?_⟩)
  intro s0 H0 C0 cl fp
  refine ts_one (t_val (e_call e1 (hr.mono (by decide)) (h := ?_)))
  refine a_cons (h := ?_)
  walk_at "nm"
  refine a_cons (h := e_ixL (h := ?_))
  walk_at "E"
  refine ⟨_, _, _, _, rfl, rfl, ex_l (g.b.trans g.k) (SqL.of upd_same), at_of rfl hu1, ?_⟩
  walk_at "E"
  refine ⟨_, _, fs, t.rows[i]'hi, rfl, df.mono ((g2.b.trans g.b).trans g.k), hu2.mono (g.b.trans g.k), by omega, by omega, _, rfl, ?_⟩
  cases el : letAll fs (t.rows[i]'hi) with
  | true =>
    refine ift rfl ?_
    intro s0 H0 C0 cl fp
    walk_at "E"
    exact kt (i : Nat) _ B' _ (by unfold shF; rw [hrd, el]; rfl) (Gr.refl g.k) (dtI _)
  | false => exact iff_ rfl (kf B' _ (by unfold shF; rw [hrd, el]; rfl) (Gr.refl g.k))
end
end K15
namespace Lw
open PySem PySem.Spec L2 Evl
/-! ### deeds ("only", column, low, high), and three ints or None -/
structure Deed where
  c : Int
  lo : Option Int
  hi : Option Int
deriving DecidableEq
instance : Dat Deed where
  toD d := .tuple [.str "only", Dat.toD d.c, Dat.toD d.lo, Dat.toD d.hi]
  lay d := by simp only [PyData.canLay0, PyData.canLayAll0, Dat.lay, Bool.and_self]; decide +kernel
  eqv d e := by
    simp only [PyData.eqv, PyData.eqvAll]
    rw [Dat.eqv, Dat.eqv, Dat.eqv, Bool.and_true, beq_self_eq_true, Bool.true_and, ← Bool.decide_and, ← Bool.decide_and]
    exact decide_eq_decide.mpr ⟨fun h => by cases d; cases e; simp only at h; obtain ⟨h1, h2, h3⟩ := h; subst h1; subst h2; subst h3; rfl, fun h => by rw [h]; exact ⟨rfl, rfl, rfl⟩⟩
  dep := 1
  dep_le d := by
    simp only [PyData.depth, PyData.depthAll]
    have h1 := Dat.dep_le d.c
    have h2 := Dat.dep_le d.lo
    have h3 := Dat.dep_le d.hi
    have e1 : Dat.dep Int = 0 := rfl
    have e2 : Dat.dep (Option Int) = 0 := rfl
    omega
structure Tri where
  a : Int
  b : Int
  c : Int
deriving DecidableEq
instance : Dat (Option Tri) where
  toD
    | .none => .none
    | .some t => .tuple [.int t.a, .int t.b, .int t.c]
  lay o := by cases o <;> simp only [PyData.canLay0, PyData.canLayAll0, Bool.and_self]
  eqv d e := by
    cases d <;> cases e <;> simp only [PyData.eqv, PyData.eqvAll]
    · rfl
    · rfl
    · rfl
    · rename_i d e
      rw [beq_dec, beq_dec, beq_dec, Bool.and_true, ← Bool.decide_and, ← Bool.decide_and]
      exact decide_eq_decide.mpr ⟨fun h => by cases d; cases e; simp only at h; obtain ⟨h1, h2, h3⟩ := h; subst h1; subst h2; subst h3; rfl, fun h => by cases h; exact ⟨rfl, rfl, rfl⟩⟩
  dep := 1
  dep_le d := by cases d <;> simp [PyData.depth, PyData.depthAll]
section
variable {K : PySem.W.Frag} {B : Hp} {v : V}
theorem dt_deed {d : Deed} (h : Dt K B v d) : ∃ a x y, v = .ref a ∧ SqT K B a [.str "only", .int d.c, x, y] ∧ Dt K B x d.lo ∧ Dt K B y d.hi := by
  unfold Dt at h
  cases h with
  | tup h1 h2 =>
    cases h2 with
    | cons a b =>
      cases b with
      | cons c d =>
        cases d with
        | cons e f =>
          cases f with
          | cons g i =>
            cases i
            cases a
            cases c
            exact ⟨_, _, _, rfl, h1, e, g⟩
theorem dtDeed {a : Addr} {d : Deed} {x y : V} (h : SqT K B a [.str "only", .int d.c, x, y]) (h1 : Dt K B x d.lo) (h2 : Dt K B y d.hi) : Dt K B (.ref a) d := Dp.tup h (.cons (.str _) (.cons (.int _) (.cons h1 (.cons h2 .nil))))
theorem dtTri {a : Addr} {x y z : Int} (h : SqT K B a [.int x, .int y, .int z]) : Dt K B (.ref a) (some (⟨x, y, z⟩ : Tri)) := Dp.tup h (.cons (.int _) (.cons (.int _) (.cons (.int _) .nil)))
theorem dtTN : Dt K B .non (none : Option Tri) := Dp.non
theorem dt_tri {o : Option Tri} (h : Dt K B v o) : v = .non ∧ o = none ∨ ∃ a t, v = .ref a ∧ o = some t ∧ SqT K B a [.int t.a, .int t.b, .int t.c] := by
  cases o with
  | none => unfold Dt at h; cases h; exact .inl ⟨rfl, rfl⟩
  | some t =>
    unfold Dt at h
    cases h with
    | tup h1 h2 =>
      cases h2 with
      | cons a b =>
        cases b with
        | cons c d =>
          cases d with
          | cons e f =>
            cases f
            cases a
            cases c
            cases e
            exact .inr ⟨_, t, rfl, rfl, h1⟩
end
end Lw
namespace K15
open PySem L2 Evl Lw
/-! ### bounds that are met -/
def mxo : Option Int → Option Int → Option Int
  | none, b => b
  | a, none => a
  | some a, some b => some (max a b)
def mno : Option Int → Option Int → Option Int
  | none, b => b
  | a, none => a
  | some a, some b => some (min a b)
def met1 (b c : Bd) : Bd := (mxo b.1 c.1, mno b.2 c.2)
def metL (fs gs : List Bd) : List Bd := List.zipWith met1 fs gs
def shutB : Bd → Bool
  | (some l, some h) => decide (h < l)
  | _ => false
theorem loOk_mx (a b : Option Int) (c : Int) : loOk (mxo a b) c = (loOk a c && loOk b c) := by
  cases a with
  | none => cases b <;> rfl
  | some a =>
    cases b with
    | none => exact (Bool.and_true _).symm
    | some b =>
      show decide (max a b ≤ c) = (decide (a ≤ c) && decide (b ≤ c))
      rw [← Bool.decide_and]
      exact decide_eq_decide.mpr (by omega)
theorem hiOk_mn (a b : Option Int) (c : Int) : hiOk (mno a b) c = (hiOk a c && hiOk b c) := by
  cases a with
  | none => cases b <;> rfl
  | some a =>
    cases b with
    | none => exact (Bool.and_true _).symm
    | some b =>
      show decide (c ≤ min a b) = (decide (c ≤ a) && decide (c ≤ b))
      rw [← Bool.decide_and]
      exact decide_eq_decide.mpr (by omega)
theorem lets_met (b d : Bd) (c : Int) : lets (met1 b d) c = (lets b c && lets d c) := by
  unfold lets met1
  rw [loOk_mx, hiOk_mn]
  generalize loOk b.1 c = p
  generalize loOk d.1 c = q
  generalize hiOk b.2 c = r
  generalize hiOk d.2 c = s
  cases p <;> cases q <;> cases r <;> cases s <;> rfl
theorem mxo_self (a : Option Int) : mxo a a = a := by cases a <;> simp [mxo]
theorem mno_self (a : Option Int) : mno a a = a := by cases a <;> simp [mno]
theorem met1_self (b : Bd) : met1 b b = b := by unfold met1; rw [mxo_self, mno_self]
theorem metL_self : ∀ fs : List Bd, metL fs fs = fs
  | [] => rfl
  | f :: fs => by
    show met1 f f :: metL fs fs = _
    rw [met1_self, metL_self fs]
theorem metL_len {fs gs : List Bd} (h : fs.length = gs.length) : (metL fs gs).length = fs.length := by unfold metL; rw [List.length_zipWith, h]; omega
theorem metL_get {fs gs : List Bd} {j : Nat} {b c : Bd} (h1 : fs[j]? = some b) (h2 : gs[j]? = some c) : (metL fs gs)[j]? = some (met1 b c) := by
  unfold metL
  rw [List.getElem?_zipWith, h1, h2]
theorem letAll_met {fs gs : List Bd} {cs : List Int} (h : fs.length = gs.length) (hc : cs.length ≤ fs.length) : letAll (metL fs gs) cs = (letAll fs cs && letAll gs cs) := by
  rw [Bool.eq_iff_iff, Bool.and_eq_true, letAll_iff, letAll_iff, letAll_iff]
  have key : ∀ j c, cs[j]? = some c → lets ((metL fs gs).getD j (none, none)) c = (lets (fs.getD j (none, none)) c && lets (gs.getD j (none, none)) c) := by
    intro j c e
    have hj : j < cs.length := (List.getElem?_eq_some_iff.mp e).1
    have h1 : fs[j]? = some fs[j] := List.getElem?_eq_getElem (by omega)
    have h2 : gs[j]? = some gs[j] := List.getElem?_eq_getElem (by omega)
    rw [List.getD_eq_getElem?_getD, List.getD_eq_getElem?_getD, List.getD_eq_getElem?_getD, metL_get h1 h2, h1, h2]
    exact lets_met _ _ _
  constructor
  · intro H
    refine ⟨fun j c e => ?_, fun j c e => ?_⟩
    · have := H j c e
      rw [key j c e, Bool.and_eq_true] at this
      exact this.1
    · have := H j c e
      rw [key j c e, Bool.and_eq_true] at this
      exact this.2
  · rintro ⟨H1, H2⟩ j c e
    rw [key j c e, H1 j c e, H2 j c e]
    rfl
theorem letR_eq (rows : List (List Int)) (fs : List Bd) : letR rows fs = (List.range rows.length).filterMap (shF rows fs) := (shown_eq rows fs).symm
theorem mem_letR {rows : List (List Int)} {fs : List Bd} {i : Int} : i ∈ letR rows fs ↔ ∃ k : Nat, i = (k : Int) ∧ k < rows.length ∧ letAll fs (rows.getD k []) = true := by
  rw [letR_eq, List.mem_filterMap]
  constructor
  · rintro ⟨k, hk, e⟩
    unfold shF at e
    split at e
    · rename_i h
      cases e
      exact ⟨k, rfl, List.mem_range.mp hk, h⟩
    · cases e
  · rintro ⟨k, rfl, hk, h⟩
    refine ⟨k, List.mem_range.mpr hk, ?_⟩
    unfold shF
    rw [if_pos h]
/-- let by both -/
def bothF (rows : List (List Int)) (gs : List Bd) (i : Int) : Option Int := if i ∈ letR rows gs then some i else none
theorem letR_met {rows : List (List Int)} {fs gs : List Bd} (h : fs.length = gs.length) (hr : ∀ r ∈ rows, r.length = fs.length) : letR rows (metL fs gs) = (letR rows fs).filterMap (bothF rows gs) := by
  rw [letR_eq, letR_eq, List.filterMap_filterMap]
  refine fm_congr fun k hk => ?_
  have hk' := List.mem_range.mp hk
  have hrow : rows.getD k [] = rows[k] := by rw [List.getD_eq_getElem?_getD, List.getElem?_eq_getElem hk']; rfl
  have hlen : (rows.getD k []).length = fs.length := by rw [hrow]; exact hr _ (List.getElem_mem hk')
  unfold shF
  rw [letAll_met h (by omega)]
  cases e1 : letAll fs (rows.getD k []) with
  | false => simp
  | true =>
    rw [Bool.true_and, if_pos rfl]
    show _ = bothF rows gs (k : Int)
    unfold bothF
    by_cases hm : (k : Int) ∈ letR rows gs
    · rw [if_pos hm]
      obtain ⟨k', ek, _, h'⟩ := mem_letR.mp hm
      have : k' = k := by omega
      subst this
      rw [if_pos h']
    · rw [if_neg hm]
      rw [if_neg]
      intro h'
      exact hm (mem_letR.mpr ⟨k, rfl, hk', h'⟩)
where
  fm_congr {α β : Type} {f g : α → Option β} : ∀ {l : List α}, (∀ a ∈ l, f a = g a) → l.filterMap f = l.filterMap g
    | [], _ => rfl
    | a :: l, h => by
      rw [List.filterMap_cons, List.filterMap_cons, h a List.mem_cons_self, fm_congr fun b hb => h b (List.mem_cons_of_mem _ hb)]

/-! ### the last deed of a column -/
def lstOf (ds : List Deed) (c : Int) : Option Deed := ds.foldl (fun r d => if d.c = c then some d else r) none
def keysOf (ds : List Deed) : List Int := ds.foldl (fun ks d => if d.c ∈ ks then ks else ks ++ [d.c]) []
def setD (fs : List Bd) (d : Deed) : List Bd := fs.set d.c.toNat (d.lo, d.hi)
def wo (fs : List Bd) (ds : List Deed) : List Bd := ds.foldl setD fs
theorem lst_snoc (ds : List Deed) (d : Deed) (c : Int) : lstOf (ds ++ [d]) c = if d.c = c then some d else lstOf ds c := by
  unfold lstOf
  rw [List.foldl_append]
  rfl
theorem keys_snoc (ds : List Deed) (d : Deed) : keysOf (ds ++ [d]) = if d.c ∈ keysOf ds then keysOf ds else keysOf ds ++ [d.c] := by
  unfold keysOf
  rw [List.foldl_append]
  rfl
theorem wo_snoc (fs : List Bd) (ds : List Deed) (d : Deed) : wo fs (ds ++ [d]) = setD (wo fs ds) d := by
  unfold wo
  rw [List.foldl_append]
  rfl
theorem snoc_ind {α : Type} {p : List α → Prop} (h0 : p []) (hs : ∀ l a, p l → p (l ++ [a])) (l : List α) : p l := by
  have : ∀ n (l : List α), l.length = n → p l := by
    intro n
    induction n with
    | zero => intro l h; rw [List.length_eq_zero_iff.mp h]; exact h0
    | succ n ih =>
      intro l h
      have hne : l ≠ [] := by intro e; rw [e] at h; cases h
      rw [← List.dropLast_concat_getLast hne]
      exact hs _ _ (ih _ (by rw [List.length_dropLast, h]; rfl))
  exact this _ l rfl
theorem lst_c {ds : List Deed} {c : Int} {d : Deed} : lstOf ds c = some d → d.c = c ∧ d ∈ ds := by
  induction ds using snoc_ind with
  | h0 => intro h; cases h
  | hs l a ih =>
    rw [lst_snoc]
    split
    · intro h
      cases h
      exact ⟨by assumption, by simp⟩
    · intro h
      obtain ⟨h1, h2⟩ := ih h
      exact ⟨h1, by simp [h2]⟩
theorem keys_iff {ds : List Deed} {c : Int} : c ∈ keysOf ds ↔ ∃ d, lstOf ds c = some d := by
  induction ds using snoc_ind with
  | h0 =>
    constructor
    · intro h; cases h
    · rintro ⟨_, h⟩; cases h
  | hs l a ih =>
    rw [keys_snoc, lst_snoc]
    by_cases e : a.c = c
    · subst e
      rw [if_pos rfl]
      refine ⟨fun _ => ⟨_, rfl⟩, fun _ => ?_⟩
      split
      · assumption
      · simp
    · rw [if_neg e]
      split
      · exact ih
      · rw [List.mem_append, List.mem_singleton]
        exact ⟨fun h => h.elim ih.mp fun h => absurd h.symm e, fun h => .inl (ih.mpr h)⟩
theorem keys_nodup (ds : List Deed) : (keysOf ds).Nodup := by
  induction ds using snoc_ind with
  | h0 => exact List.nodup_nil
  | hs l a ih =>
    rw [keys_snoc]
    split
    · exact ih
    · rename_i h
      rw [List.nodup_append]
      exact ⟨ih, by simp, fun x hx y hy e => by rw [List.mem_singleton] at hy; subst hy; subst e; exact h hx⟩
theorem keys_len (ds : List Deed) : (keysOf ds).length ≤ ds.length := by
  induction ds using snoc_ind with
  | h0 => exact Nat.le_refl _
  | hs l a ih =>
    rw [keys_snoc]
    split
    · rw [List.length_append]; omega
    · rw [List.length_append, List.length_append]; simp only [List.length_singleton]; omega
theorem wo_len (fs : List Bd) (ds : List Deed) : (wo fs ds).length = fs.length := by
  induction ds using snoc_ind with
  | h0 => rfl
  | hs l a ih => rw [wo_snoc, setD, List.length_set, ih]
/-- the bounds of a column, as the last deed of it sets them -/
def dueW (fs : List Bd) (ds : List Deed) (i : Nat) : Option Bd := some (match lstOf ds i with | none => fs.getD i (none, none) | some d => (d.lo, d.hi))
theorem wo_get (fs : List Bd) {ds : List Deed} (h : ∀ d ∈ ds, 0 ≤ d.c) {i : Nat} (hi : i < fs.length) : (wo fs ds)[i]? = dueW fs ds i := by
  induction ds using snoc_ind with
  | h0 =>
    show fs[i]? = some (fs.getD i (none, none))
    rw [List.getD_eq_getElem?_getD, List.getElem?_eq_getElem hi]
    rfl
  | hs l a ih =>
    have hl := wo_len fs l
    rw [wo_snoc, setD, List.getElem?_set]
    have ha := h a (by simp)
    have ih' := ih fun d hd => h d (by simp [hd])
    unfold dueW
    rw [lst_snoc]
    by_cases e : a.c.toNat = i
    · rw [if_pos e, if_pos (by omega : a.c = (i : Int)), if_pos (by omega)]
    · rw [if_neg e, if_neg (by omega)]
      exact ih'
theorem wo_due (fs : List Bd) {ds : List Deed} (h : ∀ d ∈ ds, 0 ≤ d.c) : (List.range fs.length).filterMap (dueW fs ds) = wo fs ds := by
  have e : (List.range fs.length).filterMap (dueW fs ds) = (List.range fs.length).map fun i => (dueW fs ds i).getD (none, none) := by
    rw [← List.filterMap_eq_map]
    congr 1
  rw [e]
  apply List.ext_getElem?
  intro i
  rw [List.getElem?_map]
  by_cases hi : i < fs.length
  · rw [List.getElem?_range hi, wo_get fs h hi]
    rfl
  · rw [List.getElem?_eq_none (by rw [List.length_range]; omega), List.getElem?_eq_none (by rw [wo_len]; omega)]
    rfl
/-- the last deeds, by columns -/
def Srt (ys ks : List Int) : Prop := ys.Perm ks ∧ ys.Pairwise (· ≤ ·)
theorem srt_lt {ys ks : List Int} (h : Srt ys ks) (n : ks.Nodup) : ys.Pairwise (· < ·) := by
  have n' := h.1.nodup_iff.mpr n
  have := List.pairwise_and_iff.mpr ⟨h.2, n'⟩
  exact this.imp fun ⟨a, b⟩ => by have : _ ≠ _ := b; omega
theorem lt_uniq : ∀ {xs ys : List Int}, xs.Pairwise (· < ·) → ys.Pairwise (· < ·) → (∀ a, a ∈ xs ↔ a ∈ ys) → xs = ys
  | [], [], _, _, _ => rfl
  | [], y :: ys, _, _, h => absurd ((h y).mpr List.mem_cons_self) (fun z => nomatch z)
  | x :: xs, [], _, _, h => absurd ((h x).mp List.mem_cons_self) (fun z => nomatch z)
  | x :: xs, y :: ys, h1, h2, h => by
    obtain ⟨a1, a2⟩ := List.pairwise_cons.mp h1
    obtain ⟨b1, b2⟩ := List.pairwise_cons.mp h2
    have e : x = y := by
      rcases List.mem_cons.mp ((h x).mp List.mem_cons_self) with e | e
      · exact e
      · rcases List.mem_cons.mp ((h y).mpr List.mem_cons_self) with e' | e'
        · exact e'.symm
        · have := a1 _ e'; have := b1 _ e; omega
    subst e
    congr 1
    refine lt_uniq a2 b2 fun a => ⟨fun m => ?_, fun m => ?_⟩
    · rcases List.mem_cons.mp ((h a).mp (List.mem_cons_of_mem _ m)) with e | e
      · have := a1 _ m; omega
      · exact e
    · rcases List.mem_cons.mp ((h a).mpr (List.mem_cons_of_mem _ m)) with e | e
      · have := b1 _ m; omega
      · exact e
theorem srt_uniq {xs ys ks : List Int} (n : ks.Nodup) (h1 : Srt xs ks) (h2 : Srt ys ks) : xs = ys :=
  lt_uniq (srt_lt h1 n) (srt_lt h2 n) fun a => (h1.1.mem_iff).trans h2.1.mem_iff.symm
/-- the last deeds of the last deeds -/
theorem fold_last (f : Int → Option Deed) (hf : ∀ k d, f k = some d → d.c = k) (c : Int) : ∀ (ks : List Int) (r : Option Deed), (∀ k ∈ ks, ∃ d, f k = some d) →
    (ks.filterMap f).foldl (fun r d => if d.c = c then some d else r) r = if c ∈ ks then f c else r
  | [], r, _ => rfl
  | k :: ks, r, h => by
    obtain ⟨d, hd⟩ := h k List.mem_cons_self
    rw [List.filterMap_cons, hd]
    show (ks.filterMap f).foldl _ (if d.c = c then some d else r) = _
    rw [fold_last f hf c ks _ fun k' hk => h k' (List.mem_cons_of_mem _ hk)]
    have hc := hf k d hd
    by_cases m : c ∈ ks
    · rw [if_pos m, if_pos (List.mem_cons_of_mem _ m)]
    · rw [if_neg m]
      by_cases e : c = k
      · subst e
        rw [if_pos hc, if_pos List.mem_cons_self, hd]
      · rw [if_neg (by rw [hc]; exact fun z => e z.symm), if_neg fun z => (List.mem_cons.mp z).elim e m]
theorem last_last {ds : List Deed} {ys : List Int} (h : ys.Perm (keysOf ds)) (c : Int) : lstOf (ys.filterMap (lstOf ds)) c = lstOf ds c := by
  show (ys.filterMap (lstOf ds)).foldl _ none = _
  rw [fold_last _ (fun k d e => (lst_c e).1) c ys none fun k hk => keys_iff.mp (h.mem_iff.mp hk)]
  by_cases m : c ∈ ys
  · rw [if_pos m]
  · rw [if_neg m]
    cases e : lstOf ds c with
    | none => rfl
    | some d => exact absurd (h.mem_iff.mpr (keys_iff.mpr ⟨d, e⟩)) m
theorem keys_fold (f : Int → Option Deed) (hf : ∀ k d, f k = some d → d.c = k) : ∀ (ks acc : List Int), (acc ++ ks).Nodup → (∀ k ∈ ks, ∃ d, f k = some d) →
    (ks.filterMap f).foldl (fun ks d => if d.c ∈ ks then ks else ks ++ [d.c]) acc = acc ++ ks
  | [], acc, _, _ => by simp
  | k :: ks, acc, n, h => by
    obtain ⟨d, hd⟩ := h k List.mem_cons_self
    have hc := hf k d hd
    rw [List.filterMap_cons, hd]
    show (ks.filterMap f).foldl _ (if d.c ∈ acc then acc else acc ++ [d.c]) = _
    have hn : ¬ k ∈ acc := fun m => (List.nodup_append.mp n).2.2 k m k List.mem_cons_self rfl
    rw [hc, if_neg hn, keys_fold f hf ks (acc ++ [k]) (by rw [List.append_assoc]; exact n) fun k' hk => h k' (List.mem_cons_of_mem _ hk), List.append_assoc]
    rfl
theorem keys_last {ds : List Deed} {ys : List Int} (h : ys.Perm (keysOf ds)) : keysOf (ys.filterMap (lstOf ds)) = ys := by
  have := keys_fold (lstOf ds) (fun k d e => (lst_c e).1) ys [] (by rw [List.nil_append]; exact h.nodup_iff.mpr (keys_nodup ds)) fun k hk => keys_iff.mp (h.mem_iff.mp hk)
  rw [List.nil_append] at this
  exact this
theorem wo_last (fs : List Bd) {ds : List Deed} (hd : ∀ d ∈ ds, 0 ≤ d.c) {ys : List Int} (h : ys.Perm (keysOf ds)) : wo fs (ys.filterMap (lstOf ds)) = wo fs ds := by
  have hd2 : ∀ d ∈ ys.filterMap (lstOf ds), 0 ≤ d.c := fun d m => by
    obtain ⟨k, _, e⟩ := List.mem_filterMap.mp m
    exact hd d (lst_c e).2
  rw [← wo_due fs hd, ← wo_due fs hd2]
  refine letR_met.fm_congr fun i _ => ?_
  unfold dueW
  rw [last_last h]

/-! ### the first clash -/
def hit (fss : List (List Bd)) (c a b : Nat) : Bool := shutB (met1 ((fss.getD a []).getD c (none, none)) ((fss.getD b []).getD c (none, none)))
def IsClash (w : Nat) (fss : List (List Bd)) : Option Tri → Prop
  | none => ∀ c a b, c < w → a ≤ b → b < fss.length → hit fss c a b = false
  | some t => ∃ c a b : Nat, t = ⟨c, a, b⟩ ∧ c < w ∧ a ≤ b ∧ b < fss.length ∧ hit fss c a b = true ∧ (∀ c' a' b', c' < c → a' ≤ b' → b' < fss.length → hit fss c' a' b' = false) ∧
    (∀ a' b', a' < a → a' ≤ b' → b' < fss.length → hit fss c a' b' = false) ∧ ∀ b', a ≤ b' → b' < b → hit fss c a b' = false
theorem clash_uniq {w : Nat} {fss : List (List Bd)} {r q : Option Tri} (h1 : IsClash w fss r) (h2 : IsClash w fss q) : r = q := by
  have no : ∀ {t : Tri}, IsClash w fss none → IsClash w fss (some t) → False := fun {t} h1 h2 => by
    obtain ⟨c, a, b, _, hc, hab, hb, hh, _⟩ := h2
    rw [h1 c a b hc hab hb] at hh
    cases hh
  cases r with
  | none =>
    cases q with
    | none => rfl
    | some t => exact (no h1 h2).elim
  | some t =>
    cases q with
    | none => exact (no h2 h1).elim
    | some u =>
      obtain ⟨c, a, b, rfl, hc, hab, hb, hh, k1, k2, k3⟩ := h1
      obtain ⟨c', a', b', rfl, hc', hab', hb', hh', k1', k2', k3'⟩ := h2
      have ec : c = c' := by
        rcases Nat.lt_trichotomy c c' with h | h | h
        · rw [k1' c a b h hab hb] at hh; cases hh
        · exact h
        · rw [k1 c' a' b' h hab' hb'] at hh'; cases hh'
      subst ec
      have ea : a = a' := by
        rcases Nat.lt_trichotomy a a' with h | h | h
        · rw [k2' a b h hab hb] at hh; cases hh
        · exact h
        · rw [k2 a' b' h hab' hb'] at hh'; cases hh'
      subst ea
      have eb : b = b' := by
        rcases Nat.lt_trichotomy b b' with h | h | h
        · rw [k3' b hab h] at hh; cases hh
        · exact h
        · rw [k3 b' hab' h] at hh'; cases hh'
      subst eb
      rfl
end K15
namespace K15
open PySem L2 Evl Lw
section
variable {P : Program} {w : World} {K : PySem.W.Frag} {mg : Str → Option Value} {base : Heap}
theorem _root_.Lw.Das.set {α : Type} [DecidableEq α] [Dat α] {K : PySem.W.Frag} {B : Hp} {v : V} {x : α} : ∀ {vs : List V} {xs : List α} (i : Nat), Das K B vs xs → Dt K B v x → Das K B (vs.set i v) (xs.set i x)
  | [], [], _, h, _ => h
  | [], _ :: _, _, h, _ => by cases h
  | _ :: _, [], _, h, _ => by cases h
  | _ :: vs, _ :: xs, 0, h, d => by
    cases h with
    | cons a b => exact .cons d b
  | _ :: vs, _ :: xs, i + 1, h, d => by
    cases h with
    | cons a b => exact .cons a (Lw.Das.set i (show Das K B vs xs from b) d)
theorem ixN_of {n : Nat} {i : Int} (h0 : 0 ≤ i) (h1 : i < n) : ixN n i = some i.toNat := by
  unfold ixN
  rw [if_pos h0, if_pos h1]
theorem take_snoc {α : Type} {xs : List α} {i : Nat} {a : α} (h : xs[i]? = some a) : xs.take (i + 1) = xs.take i ++ [a] := by
  rw [List.take_add_one, h]
  rfl
theorem bn_list : bootBuiltins "list" = some (.type "list") := by decide +kernel
/-! check_columns_from_zero -/
theorem sc_cz : FnScope ["columns", "column"] ["columns"] (defScope s_cz) := ⟨rfl, rfl, rfl, by decide +kernel, rfl, by decide +kernel, by decide +kernel⟩
def sp_cz (K : PySem.W.Frag) : Sp := fun vs H Q _ => ∃ (a : Addr) (ns : List Int), vs = [.ref a] ∧ SqL K H a (ns.map V.int) ∧ (∀ r ∈ ns, 0 ≤ r) ∧ Q .non H
theorem c_cz (d : Fn K mg "check_columns_from_zero" s_cz) : Cal P w K mg base "check_columns_from_zero" 1 ["columns"] (sp_cz K) := by
  refine cal_of d sc_cz (fun vs H Q E h => by obtain ⟨_, _, rfl, _⟩ := h; rfl) (fun _ _ _ _ _ _ us hl => match us, hl with | [_], _ => rfl) (fun f cdv A outer s H vs Q E hr h => ?_)
  obtain ⟨a, ns, rfl, hL, hb, k⟩ := h
  refine s_one (s_for (h := i_list ?_))
  walk_at "E"
  refine ⟨_, rfl, ⟨_, hL⟩, for_it walk_list (fun i σ H' => H' = H ∧ ∃ v, σ = [some (.ref a), v]) ⟨rfl, none, rfl⟩ (fun i σ H' _ ⟨e, _⟩ => e ▸ hL) ?_ (fun σ H' ⟨e, _⟩ => by subst e; exact k)⟩
  rintro i x σ H' H'' hi ⟨rfl, v, rfl⟩ ⟨rfl, hx⟩
  obtain ⟨r, er, rfl⟩ := get_ints hx
  have b0 := hb r (List.mem_of_getElem? er)
  refine g_name 1 sc_cz.nd (q := ?_)
  refine s_one (s_if (t_cmp op_lt (h := ?_)))
  walk_at "E"
  refine ⟨_, _, rfl, rfl, _, rfl, ifd (fun z => absurd z (by omega)) fun _ => ?_⟩
  exact s_nil ⟨rfl, _, rfl⟩

/-! with_only -/
abbrev N_wo : List Str := ["filters", "deeds", "behind", "_", "column", "low", "high"]
theorem sc_wo : FnScope N_wo ["filters", "deeds"] (defScope s_wo) := ⟨rfl, rfl, rfl, by decide +kernel, rfl, by decide +kernel, by decide +kernel⟩
def sp_wo (K : PySem.W.Frag) : Sp := fun vs H Q _ => ∃ (B : Hp) (f c : V) (fs : List Bd) (ds : List Deed), vs = [f, c] ∧ Ex B H ∧ Dt K B f fs ∧ Dt K B c ds ∧ (∀ d ∈ ds, 0 ≤ d.c ∧ d.c < fs.length) ∧ RetL K B H Q (wo fs ds)
theorem ok_wo {f : Addr} {fd : FuncData} (F : Fun K "with_only" "with_only" s_wo f fd) (ml : mg "len" = none) (mli : mg "list" = none) (e1 : Cal P w K mg base "check_column" 1 ["width", "column"] sp_cr) : FnOk P w K mg base CX0 2 f fd ["filters", "deeds"] (sp_wo K) := by
  refine body_ok F sc_wo (fun vs H Q E h => by obtain ⟨_, _, _, _, _, rfl, _⟩ := h; rfl) (fun f cdv A outer s H vs Q E hr h => ?_)
  obtain ⟨B, fv, cv, fs, ds, rfl, kB, df, dc, hb, k⟩ := h
  obtain ⟨fa, fvs, rfl, fL, fD⟩ := dt_list df
  obtain ⟨ca, cvs, rfl, cL, cD⟩ := dt_list dc
  refine s_cons (s_set 2 sc_wo.nd (h := e_ty call_list_of mli bn_list ?_))
  walk_at "E"
  refine ⟨_, _, rfl, .inl (ex_l kB fL), fun l hl => ?_⟩
  have g1 := (Gr.refl (M := M0) kB).own (o := .lst fvs) hl
  refine s_cons (s_for (h := i_list ?_))
  walk_at "E"
  refine ⟨_, rfl, ⟨_, ex_l g1.k cL⟩, ?_⟩
  have hcl := cD.len
  refine for_it (n := cvs.length) walk_list (fun i σ H' => ∃ B' acc u3 u4 u5 u6, σ = [some (.ref fa), some (.ref ca), some (.ref l), u3, u4, u5, u6] ∧ Gr M0 B H B' H' ∧ B' l = none ∧ H' l = some (.lst acc) ∧ Das K B' acc (wo fs (ds.take i)))
    ⟨B, fvs, none, none, none, none, rfl, g1, none_of_ex kB hl, upd_same, fD⟩ (fun i σ H' _ ⟨B', acc, _, _, _, _, _, g, _⟩ => ex_l (g.b.trans g.k) cL) ?_ ?_
  · rintro i x σ H' H'' hi ⟨B', acc, u3, u4, u5, u6, rfl, g, hb', he, da⟩ ⟨rfl, hx⟩
    obtain ⟨d, ed, dd⟩ := cD.get hx
    obtain ⟨ta, y, z, rfl, tS, d1, d2⟩ := dt_deed dd
    obtain ⟨c0, c1⟩ := hb d (List.mem_of_getElem? ed)
    refine g_tup (ex_t (g.b.trans g.k) tS) rfl (h := gs_cons (h := g_name 3 sc_wo.nd (q := gs_cons (h := g_name 4 sc_wo.nd (q := gs_cons (h := g_name 5 sc_wo.nd (q := gs_cons (h := g_name 6 sc_wo.nd (q := gs_nil ?_)))))))))
    refine s_cons (s_expr (h := e_call e1 (hr.mono (by decide)) (h := a_cons (h := e_blt call_len_seq ml PySem.boot_len ?_))))
    walk_at "E"
    refine ⟨_, _, rfl, .inl (ex_l (g.b.trans g.k) fL), ?_⟩
    walk_at "E"
    refine ⟨_, _, rfl, c0, by rw [fD.len]; exact c1, s_one (s_sub (h := ?_))⟩
    walk_at "E"
    refine ⟨by show 2 ≤ sizeLine; decide, fun T hT => ?_⟩
    have hw := wo_len fs (ds.take i)
    have nT : l ≠ T := ne_of_none he hT
    have g2 := g.new (o := .tup [y, z]) hT
    have hbT : (upd B' T (.tup [y, z])) l = none := by rw [upd_ne nT]; exact hb'
    walk_at "E"
    refine ⟨l, acc, d.c, d.c.toNat, rfl, rfl, by rw [upd_ne nT]; exact he, ixN_of c0 (by rw [da.len, hw]; exact c1), ?_⟩
    refine ⟨_, _, _, _, _, _, rfl, g2.mut (.inr hl) hbT, hbT, upd_same, ?_⟩
    rw [take_snoc ed, wo_snoc]
    exact (da.mono (Ex.new (none_of_ex g.k hT))).set _ (dtP (SqT.of upd_same) (d1.mono g2.b) (d2.mono g2.b))
  · rintro σ H' ⟨B', acc, u3, u4, u5, u6, rfl, g, hb', he, da⟩
    refine s_one (s_ret ?_)
    walk_at "E"
    rw [hcl, List.take_length] at da
    exact k l B' H' acc g hb' hl he da
end
end K15
namespace K15
open PySem L2 Evl Lw
section
variable {P : Program} {w : World} {K : PySem.W.Frag} {mg : Str → Option Value} {base : Heap}
/-! ### the last deeds in a dict -/
structure DKv (K : PySem.W.Frag) (B : Hp) (kvs : List (Key × V)) (ds : List Deed) : Prop where
  keys : kvs.map (·.1) = (keysOf ds).map Sum.inl
  val : ∀ c d, lstOf ds c = some d → ∃ v, valV kvs (.inl c) = some v ∧ Dt K B v d
  non : ∀ c, lstOf ds c = none → valV kvs (.inl c) = none
theorem DKv.mono {B B' : Hp} {kvs : List (Key × V)} {ds : List Deed} (e : Ex B B') (h : DKv K B kvs ds) : DKv K B' kvs ds :=
  ⟨h.keys, fun c d q => (h.val c d q).elim fun v z => ⟨v, z.1, z.2.mono e⟩, h.non⟩
theorem DKv.nil {B : Hp} : DKv K B [] [] := ⟨rfl, fun _ _ h => (by cases h), fun _ _ => rfl⟩
theorem any_key {kvs : List (Key × V)} {k : Key} : (kvs.any fun kv => decide (kv.1 = k)) = true ↔ k ∈ kvs.map (·.1) := by
  rw [List.any_eq_true, List.mem_map]
  exact ⟨fun ⟨x, h1, h2⟩ => ⟨x, h1, of_decide_eq_true h2⟩, fun ⟨x, h1, h2⟩ => ⟨x, h1, decide_eq_true h2⟩⟩
theorem keys_put1 {kvs : List (Key × V)} {k : Key} (v : V) (h : k ∈ kvs.map (·.1)) : (putK kvs k v).map (·.1) = kvs.map (·.1) := by
  unfold putK
  rw [if_pos (any_key.mpr h), List.map_map]
  refine List.map_congr_left fun x _ => ?_
  show (if x.1 = k then (x.1, v) else x).1 = x.1
  split <;> rfl
theorem keys_put2 {kvs : List (Key × V)} {k : Key} (v : V) (h : ¬ k ∈ kvs.map (·.1)) : (putK kvs k v).map (·.1) = kvs.map (·.1) ++ [k] := by
  unfold putK
  rw [if_neg (fun z => h (any_key.mp z)), List.map_append]
  rfl
theorem DKv.put {B : Hp} {kvs : List (Key × V)} {ds : List Deed} {d : Deed} {v : V} (h : DKv K B kvs ds) (hd : Dt K B v d) : DKv K B (putK kvs (.inl d.c) v) (ds ++ [d]) := by
  have hin : (Sum.inl d.c : Key) ∈ kvs.map (·.1) ↔ d.c ∈ keysOf ds := by
    rw [h.keys, List.mem_map]
    exact ⟨fun ⟨x, h1, h2⟩ => by cases h2; exact h1, fun h1 => ⟨_, h1, rfl⟩⟩
  refine ⟨?_, fun c e q => ?_, fun c q => ?_⟩
  · rw [keys_snoc]
    by_cases m : d.c ∈ keysOf ds
    · rw [if_pos m, keys_put1 _ (hin.mpr m), h.keys]
    · rw [if_neg m, keys_put2 _ (fun z => m (hin.mp z)), h.keys, List.map_append]
      rfl
  · rw [lst_snoc] at q
    rw [valV_put]
    by_cases m : d.c = c
    · subst m
      rw [if_pos rfl] at q ⊢
      cases q
      exact ⟨v, rfl, hd⟩
    · rw [if_neg m] at q
      rw [if_neg (fun z => m (by cases z; rfl))]
      exact h.val c e q
  · rw [lst_snoc] at q
    rw [valV_put]
    by_cases m : d.c = c
    · rw [if_pos m] at q
      cases q
    · rw [if_neg m] at q
      rw [if_neg (fun z => m (by cases z; rfl))]
      exact h.non c q
theorem DKv.len {B : Hp} {kvs : List (Key × V)} {ds : List Deed} (h : DKv K B kvs ds) : kvs.length ≤ ds.length := by
  have e := congrArg List.length h.keys
  rw [List.length_map, List.length_map] at e
  rw [e]
  exact keys_len ds
theorem DKv.at {B : Hp} {kvs : List (Key × V)} {ds : List Deed} {c : Int} (h : DKv K B kvs ds) (m : c ∈ keysOf ds) : ∃ v d, lstOf ds c = some d ∧ valV kvs (.inl c) = some v ∧ Dt K B v d := by
  obtain ⟨d, e⟩ := keys_iff.mp m
  obtain ⟨v, h1, h2⟩ := h.val c d e
  exact ⟨v, d, e, h1, h2⟩
/-- what last_only returns -/
def LastL (ds : List Deed) (l : List Deed) : Prop := ∃ ys, Srt ys (keysOf ds) ∧ l = ys.filterMap (lstOf ds)
theorem LastL.uniq {ds l m : List Deed} (h1 : LastL ds l) (h2 : LastL ds m) : l = m := by
  obtain ⟨ys, a, rfl⟩ := h1
  obtain ⟨zs, b, rfl⟩ := h2
  rw [srt_uniq (keys_nodup ds) a b]
theorem u1 {k : Nat} {A : Around} (r : Room k A) : A.units + 1 < cLine := by have := r.units; omega
/-! last_only -/
abbrev N_lo : List Str := ["deeds", "last", "deed", "column"]
theorem sc_lo : FnScope N_lo ["deeds"] (defScope s_lo) := ⟨rfl, rfl, rfl, by decide +kernel, rfl, by decide +kernel, by decide +kernel⟩
def sp_lo (K : PySem.W.Frag) : Sp := fun vs H Q _ => ∃ (B : Hp) (c : V) (ds : List Deed), vs = [c] ∧ Ex B H ∧ Dt K B c ds ∧ (∀ d ∈ ds, 0 ≤ d.c) ∧ ds.length < 64 ∧ ∀ l, LastL ds l → RetL K B H Q l
def colF (d : Deed) : Option Int := some d.c
theorem ok_lo {f : Addr} {fd : FuncData} (F : Fun K "last_only" "last_only" s_lo f fd) (ms : mg "sorted" = none) (e1 : Cal P w K mg base "check_columns_from_zero" 1 ["columns"] (sp_cz K)) : FnOk P w K mg base CX0 2 f fd ["deeds"] (sp_lo K) := by
  refine body_ok F sc_lo (fun vs H Q E h => by obtain ⟨_, _, _, rfl, _⟩ := h; rfl) (fun f cdv A outer s H vs Q E hr h => ?_)
  obtain ⟨B, cv, ds, rfl, kB, dc, hb, hn, k⟩ := h
  obtain ⟨ca, cvs, rfl, cL, cD⟩ := dt_list dc
  have hcl := cD.len
  -- the columns
  refine s_cons (s_expr (h := e_call e1 (hr.mono (by decide)) (h := a_cons (h := e_lc [("deed", 2)] sc_lo.nd (ok := blkOk_by (N := N_lo) (sc := defScope s_lo) (by decide +kernel)) (h := i_list ?_)))))
  walk_at "E"
  refine ⟨_, rfl, ⟨_, ex_l kB cL⟩, fun D hD => ?_⟩
  refine lcL (K := K) colF cL cD kB hD (Nat.lt_of_lt_of_le hn (by decide)) ?_ ?_
  · intro i y x B' H' hy dy g KT KF kt kf s0 H0 C0 cl fp
    obtain ⟨ta, u, v, rfl, tS, d1, d2⟩ := dt_deed dy
    refine g_name 2 sc_lo.nd (q := ⟨rfl, ?_⟩)
    intro s0 H0 C0 cl fp
    refine ts_nil (ift rfl ?_)
    intro s0 H0 C0 cl fp
    refine e_ixT (h := ?_)
    walk_at "E"
    exact ⟨_, _, _, _, rfl, rfl, ex_t g.k tS, at_of (j := 1) rfl rfl, kt _ _ B' H' rfl (Gr.refl g.k) (dtI _)⟩
  intro B1 H1 acc1 g1 b1 e1' da1
  walk_at "E"
  have ea := da1.ints
  subst ea
  refine ⟨D, _, rfl, SqL.of e1', fun r m => ?_, ?_⟩
  · obtain ⟨d, md, e⟩ := List.mem_filterMap.mp m
    cases e
    exact hb d md
  -- the dict
  refine s_cons (s_set 1 sc_lo.nd (h := e_dc [("deed", 2)] sc_lo.nd (ok := blkOk_by (N := N_lo) (sc := defScope s_lo) (by decide +kernel)) (h := i_list ?_)))
  walk_at "E"
  refine ⟨_, rfl, ⟨_, ex_l (g1.b.trans g1.k) cL⟩, fun L hL => ?_⟩
  have g2 := g1.own (o := .dK []) hL
  refine dc_it (n := cvs.length) walk_list (fun i H' => ∃ B' kvs, Gr M0 B H B' H' ∧ B' L = none ∧ H' L = some (.dK kvs) ∧ DKv K B' kvs (ds.take i)) ⟨B1, [], g2, none_of_ex g1.k hL, upd_same, DKv.nil⟩ (fun i H' _ ⟨B', _, g, _⟩ => ex_l (g.b.trans g.k) cL) ?_ ?_
  · rintro i x H' H'' hi ⟨B', kvs, g, hb', he, dv⟩ ⟨rfl, hx⟩
    intro s0 H0 C0 cl fp
    obtain ⟨d, ed, dd⟩ := cD.get hx
    have dd' := dd.mono g.b
    obtain ⟨ta, u, v, rfl, tS, d1, d2⟩ := dt_deed dd
    refine g_name 2 sc_lo.nd (q := ⟨rfl, ?_⟩)
    intro s0 H0 C0 cl fp
    refine ts_nil (ift rfl ?_)
    intro s0 H0 C0 cl fp
    refine e_ixT (h := ?_)
    walk_at "E"
    refine ⟨_, _, _, _, rfl, rfl, ex_t (g.b.trans g.k) tS, at_of (j := 1) rfl rfl, ?_⟩
    intro s0 H0 C0 cl fp
    walk_at "E"
    refine ⟨kvs, .inl d.c, rfl, he, Nat.lt_of_le_of_lt dv.len (Nat.lt_of_lt_of_le (by rw [List.length_take]; omega : (ds.take i).length < 64) (by decide)), B', _, g.mut (.inr (g1.free hL)) hb', hb', upd_same, ?_⟩
    rw [take_snoc ed]
    exact dv.put dd'
  rintro H3 ⟨B3, kvs, g3, b3, e3, dv⟩
  rw [hcl, List.take_length] at dv
  -- by columns
  refine s_one (s_ret (e_lc [("column", 3)] sc_lo.nd (ok := blkOk_by (N := N_lo) (sc := defScope s_lo) (by decide +kernel)) (h := i_list (e_blt (call_sortedDI rfl) ms (by decide +kernel) ?_))))
  walk_at "E"
  refine ⟨L, kvs, keysOf ds, rfl, .inl e3, dv.keys, Nat.lt_of_le_of_lt (keys_len ds) hn, fun ys S hp hs hS => ⟨S, rfl, ⟨_, SqL.of upd_same⟩, fun R hR => ?_⟩⟩
  have g4 := g3.own (o := .lst (ys.map V.int)) hS
  have eS : upd H3 S (.lst (ys.map V.int)) L = some (.dK kvs) := by rw [upd_ne (ne_of_none e3 hS)]; exact e3
  refine lcI (K := K) (lstOf ds) (SqL.of upd_same) g4.k hR (Nat.lt_of_le_of_lt (by rw [hp.length_eq]; exact keys_len ds) (Nat.lt_of_lt_of_le hn (by decide))) ?_ ?_
  · intro i y B' H' hy g KT KF kt kf s0 H0 C0 cl fp
    refine g_name 3 sc_lo.nd (q := ⟨rfl, ?_⟩)
    intro s0 H0 C0 cl fp
    refine ts_nil (ift rfl ?_)
    intro s0 H0 C0 cl fp
    obtain ⟨v, d, el, ev, dd⟩ := dv.at (hp.mem_iff.mp (List.mem_of_getElem? hy))
    refine e_dget (u1 hr) (h := ?_)
    walk_at "E"
    refine ⟨L, v, rfl, ?_, kt d v B' H' el (Gr.refl g.k) (dd.mono g.b)⟩
    have := DGet.k (k := .inl y) (g.ex _ _ eS)
    rw [ev] at this
    exact this
  · intro B5 H5 acc5 g5 b5 e5 da5
    exact k _ ⟨ys, ⟨hp, hs⟩, rfl⟩ R B5 H5 acc5 (g4.trans g5) b5 (g4.free hR) e5 da5
end
end K15
namespace K15
open PySem L2 Evl Lw
section
variable {P : Program} {w : World} {K : PySem.W.Frag} {mg : Str → Option Value} {base : Heap}
/-! _both -/
theorem best_mx {a b : Option Int} {Q : V → Prop} (k : Q (ov (mxo a b))) : ([a, b].filterMap id = [] → Q .non) ∧ ∀ m, m ∈ [a, b].filterMap id → (∀ y, y ∈ [a, b].filterMap id → y ≤ m) → Q (.int m) := by
  cases a with
  | none =>
    cases b with
    | none => exact ⟨fun _ => k, fun m hm => nomatch hm⟩
    | some b => exact ⟨(fun z => nomatch z), fun m hm _ => by rcases List.mem_singleton.mp hm with rfl; exact k⟩
  | some a =>
    cases b with
    | none => exact ⟨(fun z => nomatch z), fun m hm _ => by rcases List.mem_singleton.mp hm with rfl; exact k⟩
    | some b =>
      refine ⟨(fun z => nomatch z), fun m hm hy => ?_⟩
      have h1 := hy a (by simp)
      have h2 := hy b (by simp)
      have hm' : m = a ∨ m = b := by simpa using hm
      have e : m = max a b := by omega
      rw [e]
      exact k
theorem best_mn {a b : Option Int} {Q : V → Prop} (k : Q (ov (mno a b))) : ([a, b].filterMap id = [] → Q .non) ∧ ∀ m, m ∈ [a, b].filterMap id → (∀ y, y ∈ [a, b].filterMap id → m ≤ y) → Q (.int m) := by
  cases a with
  | none =>
    cases b with
    | none => exact ⟨fun _ => k, fun m hm => nomatch hm⟩
    | some b => exact ⟨(fun z => nomatch z), fun m hm _ => by rcases List.mem_singleton.mp hm with rfl; exact k⟩
  | some a =>
    cases b with
    | none => exact ⟨(fun z => nomatch z), fun m hm _ => by rcases List.mem_singleton.mp hm with rfl; exact k⟩
    | some b =>
      refine ⟨(fun z => nomatch z), fun m hm hy => ?_⟩
      have h1 := hy a (by simp)
      have h2 := hy b (by simp)
      have hm' : m = a ∨ m = b := by simpa using hm
      have e : m = min a b := by omega
      rw [e]
      exact k
/-- over a tuple of ints or None, those that are ints -/
theorem lcO {B H1 : Hp} {g : TG} {tt : TT} {te : TE} {vs : List Nat} {σ : L2.St} {D a : Addr} {Qd : Hp → Prop} {ws : List V} {xs : List (Option Int)} (hL : SqT K H1 a ws) (hA : Das K H1 ws xs) (k : Ex B H1) (hD : H1 D = none) (hz : xs.length < sizeLine)
    (hs : ∀ (o : Option Int) B' H', Gr M0 B H1 B' H' →
      ∀ (KT : VK) (KF : Hp → Prop), (∀ b B4 H4, o = some b → Gr M0 B' H' B4 H4 → KT (.int b) H4) → (∀ B3 H3, o = none → Gr M0 B' H' B3 H3 → KF H3) →
      g (ov o) (wipe σ vs) H' fun σ2 H2 => wipe σ2 vs = wipe σ vs ∧ tt σ2 H2 fun b H3 => if b = true then te σ2 H3 KT else KF H3)
    (hd : ∀ B' H' (ns : List Int), Gr M0 B H1 B' H' → B' D = none → ns = xs.filterMap id → H' D = some (.lst (ns.map V.int)) → Qd H') : tLcR (Itt K a) g tt te vs σ H1 D Qd := by
  have wk : Walk (Itt K a) xs.length (fun H => SqT K H a ws) (YAt ws) := by
    rw [← hA.len]
    exact walk_tup
  refine lcF (K := K) (id : Option Int → Option Int) wk k hD hz (fun B' H' g => ex_t g.ex hL) ?_ (fun B' H' acc g b e da => hd B' H' _ g b rfl (by rw [da.ints] at e; exact e))
  rintro i o x B' H' H'' ho gg ⟨rfl, hx⟩ KT KF kt kf
  obtain ⟨y', e, d⟩ := hA.get hx
  rw [ho] at e
  cases e
  rw [dt_ov_inv d]
  exact hs o B' H'' gg KT KF (fun b B4 H4 e g4 => kt b _ B4 H4 e g4 (dtI b)) (fun B3 H3 e g3 => kf B3 H3 e g3)
abbrev N_bo : List Str := ["one", "other", "lows", "highs", "low", "high"]
theorem sc_bo : FnScope N_bo ["one", "other"] (defScope s_both) := ⟨rfl, rfl, rfl, by decide +kernel, rfl, by decide +kernel, by decide +kernel⟩
def sp_bo (K : PySem.W.Frag) : Sp := fun vs H Q _ => ∃ (B : Hp) (u v : V) (b c : Bd), vs = [u, v] ∧ Ex B H ∧ Dt K B u b ∧ Dt K B v c ∧ RetD K B H Q (met1 b c)
theorem c_bo (d : Fn K mg "_both" s_both) (mx : mg "max" = none) (mn : mg "min" = none) : Cal P w K mg base "_both" 1 ["one", "other"] (sp_bo K) := by
  refine cal_of d sc_bo (fun vs H Q E h => by obtain ⟨_, _, _, _, _, rfl, _⟩ := h; rfl) (fun _ _ _ _ _ _ us hl => match us, hl with | [_, _], _ => rfl) (fun f cdv A outer s H vs Q E hr h => ?_)
  obtain ⟨B, u, v, b, c, rfl, kB, db, dc, k⟩ := h
  obtain ⟨ba, b1, b2, rfl, bT, db1, db2⟩ := dt_pair db
  obtain ⟨ca, c1, c2, rfl, cT, dc1, dc2⟩ := dt_pair dc
  -- lows
  refine s_cons (s_setLc 2 [("low", 4)] sc_bo.nd (ok := blkOk_by (N := N_bo) (sc := defScope s_both) (by decide +kernel)) (h := i_tup (e_tup (a_cons (h := e_ixT (h := ?_))))))
  walk_at "E"
  refine ⟨_, _, _, _, rfl, rfl, ex_t kB bT, at_of (j := 0) rfl rfl, a_cons (h := e_ixT (h := ?_))⟩
  walk_at "E"
  refine ⟨_, _, _, _, rfl, rfl, ex_t kB cT, at_of (j := 0) rfl rfl, ?_⟩
  walk_at "E"
  refine ⟨by show 2 ≤ sizeLine; decide, fun T hT => ⟨T, rfl, ⟨_, SqT.of upd_same⟩, fun D hD => ?_⟩⟩
  have g1 := (Gr.refl (M := M0) kB).own (o := .tup [b1, c1]) hT
  refine lcO (K := K) (xs := [b.1, c.1]) (SqT.of upd_same) (.cons (db1.mono g1.k) (.cons (dc1.mono g1.k) .nil)) g1.k hD (by show 2 < sizeLine; decide) ?_ ?_
  · intro o B' H' g KT KF kt kf s0 H0 C0 cl fp
    refine g_name 4 sc_bo.nd (q := ⟨rfl, ?_⟩)
    intro s0 H0 C0 cl fp
    refine ts_one (t_cmp op_notN (h := ?_))
    walk_at "E"
    cases o with
    | none => exact ⟨rfl, _, rfl, iff_ rfl (kf B' _ rfl (Gr.refl g.k))⟩
    | some o =>
      refine ⟨rfl, _, rfl, ift rfl ?_⟩
      intro s0 H0 C0 cl fp
      walk_at "E"
      exact kt o B' _ rfl (Gr.refl g.k)
  intro B3 H3 ns g3 b3 ens e3
  have g4 := g1.trans g3
  -- highs
  refine s_cons (s_setLc 3 [("high", 5)] sc_bo.nd (ok := blkOk_by (N := N_bo) (sc := defScope s_both) (by decide +kernel)) (h := i_tup (e_tup (a_cons (h := e_ixT (h := ?_))))))
  walk_at "E"
  refine ⟨_, _, _, _, rfl, rfl, ex_t (g4.b.trans g4.k) bT, at_of (j := 1) rfl rfl, a_cons (h := e_ixT (h := ?_))⟩
  walk_at "E"
  refine ⟨_, _, _, _, rfl, rfl, ex_t (g4.b.trans g4.k) cT, at_of (j := 1) rfl rfl, ?_⟩
  walk_at "E"
  refine ⟨by show 2 ≤ sizeLine; decide, fun S hS => ⟨S, rfl, ⟨_, SqT.of upd_same⟩, fun L hL => ?_⟩⟩
  have g5 := g4.own (o := .tup [b2, c2]) hS
  have e5 : upd H3 S (.tup [b2, c2]) D = some (.lst (ns.map V.int)) := by rw [upd_ne (ne_of_none e3 hS)]; exact e3
  refine lcO (K := K) (xs := [b.2, c.2]) (SqT.of upd_same) (.cons (db2.mono (g5.b.trans g5.k)) (.cons (dc2.mono (g5.b.trans g5.k)) .nil)) g5.k hL (by show 2 < sizeLine; decide) ?_ ?_
  · intro o B' H' g KT KF kt kf s0 H0 C0 cl fp
    refine g_name 5 sc_bo.nd (q := ⟨rfl, ?_⟩)
    intro s0 H0 C0 cl fp
    refine ts_one (t_cmp op_notN (h := ?_))
    walk_at "E"
    cases o with
    | none => exact ⟨rfl, _, rfl, iff_ rfl (kf B' _ rfl (Gr.refl g.k))⟩
    | some o =>
      refine ⟨rfl, _, rfl, ift rfl ?_⟩
      intro s0 H0 C0 cl fp
      walk_at "E"
      exact kt o B' _ rfl (Gr.refl g.k)
  intro B6 H6 ms g6 b6 ems e6
  have g7 := g5.trans g6
  have e7 := g6.ex _ _ e5
  subst ens
  subst ems
  -- both
  refine s_one (s_ret (e_tup (a_cons (h := e_bltK (cr_maxD rfl) mx (by decide +kernel) ?_))))
  walk_at "E"
  have fin : ∀ T, H6 T = none → Q (.ref T) (upd H6 T (.tup [ov (mxo b.1 c.1), ov (mno b.2 c.2)])) := fun T hT => k _ _ _ (g7.new hT) (dtP (SqT.of upd_same) (dt_ov _) (dt_ov _))
  have q2 := fun (x : V) (h : ∀ T, H6 T = none → Q (.ref T) (upd H6 T (.tup [x, ov (mno b.2 c.2)]))) => best_mn (a := b.2) (b := c.2) (Q := fun y => ∀ T, H6 T = none → Q (.ref T) (upd H6 T (.tup [x, y]))) h
  have q1 := best_mx (a := b.1) (b := c.1) (Q := fun x => ∀ T, H6 T = none → Q (.ref T) (upd H6 T (.tup [x, ov (mno b.2 c.2)]))) fin
  refine ⟨D, _, _, rfl, rfl, SqL.of e7, fun z => ?_, fun m hm hy => ?_⟩
  · refine a_cons (h := e_bltK (cr_minD rfl) mn (by decide +kernel) ?_)
    walk_at "E"
    refine ⟨L, _, _, rfl, rfl, SqL.of e6, fun z2 => ?_, fun m2 hm2 hy2 => ?_⟩
    · walk_at "E"
      exact ⟨by show 2 ≤ sizeLine; decide, (q2 _ (q1.1 z)).1 z2⟩
    · walk_at "E"
      exact ⟨by show 2 ≤ sizeLine; decide, (q2 _ (q1.1 z)).2 m2 hm2 hy2⟩
  · refine a_cons (h := e_bltK (cr_minD rfl) mn (by decide +kernel) ?_)
    walk_at "E"
    refine ⟨L, _, _, rfl, rfl, SqL.of e6, fun z2 => ?_, fun m2 hm2 hy2 => ?_⟩
    · walk_at "E"
      exact ⟨by show 2 ≤ sizeLine; decide, (q2 _ (q1.2 m hm hy)).1 z2⟩
    · walk_at "E"
      exact ⟨by show 2 ≤ sizeLine; decide, (q2 _ (q1.2 m hm hy)).2 m2 hm2 hy2⟩

/-! _lets_none -/
theorem sc_ln : FnScope ["bounds", "low", "high"] ["bounds"] (defScope s_ln) := ⟨rfl, rfl, rfl, by decide +kernel, rfl, by decide +kernel, by decide +kernel⟩
def sp_ln (K : PySem.W.Frag) : Sp := fun vs H Q _ => ∃ (v : V) (b : Bd), vs = [v] ∧ Dt K H v b ∧ Q (.bl (shutB b)) H
theorem c_ln (d : Fn K mg "_lets_none" s_ln) : Cal P w K mg base "_lets_none" 1 ["bounds"] (sp_ln K) := by
  refine cal_of d sc_ln (fun vs H Q E h => by obtain ⟨_, _, rfl, _⟩ := h; rfl) (fun _ _ _ _ _ _ us hl => match us, hl with | [_], _ => rfl) (fun f cdv A outer s H vs Q E hr h => ?_)
  obtain ⟨v, ⟨lo, hi⟩, rfl, hd, k⟩ := h
  obtain ⟨a, y, z, rfl, hT, d1, d2⟩ := dt_pair hd
  refine s_cons (s_asg (h := ?_))
  walk_at "E"
  refine g_tup hT rfl (h := gs_cons (h := g_name 1 sc_ln.nd (q := gs_cons (h := g_name 2 sc_ln.nd (q := gs_nil ?_)))))
  refine s_one (s_ret (e_and (e_cmp op_notN (h := ?_))))
  walk_at "E"
  cases lo with
  | none =>
    cases dt_none d1
    exact ⟨rfl, _, rfl, iff_ rfl k⟩
  | some lo =>
    cases dt_some d1
    refine ⟨rfl, _, rfl, ift rfl (e_and (e_cmp op_notN (h := ?_)))⟩
    walk_at "E"
    cases hi with
    | none =>
      cases dt_none d2
      exact ⟨rfl, _, rfl, iff_ rfl k⟩
    | some hi =>
      cases dt_some d2
      refine ⟨rfl, _, rfl, ift rfl (e_one (e_cmp op_gt (h := ?_)))⟩
      walk_at "E"
      exact ⟨_, _, rfl, rfl, k⟩
end
end K15
namespace K15
open PySem L2 Evl Lw
section
variable {P : Program} {w : World} {K : PySem.W.Frag} {mg : Str → Option Value} {base : Heap}
/-! met -/
abbrev N_met : List Str := ["one", "other", "mine", "others"]
theorem sc_met : FnScope N_met ["one", "other"] (defScope s_met) := ⟨rfl, rfl, rfl, by decide +kernel, rfl, by decide +kernel, by decide +kernel⟩
def sp_met (K : PySem.W.Frag) : Sp := fun vs H Q _ => ∃ (B : Hp) (u v : V) (fs gs : List Bd), vs = [u, v] ∧ Ex B H ∧ Dt K B u fs ∧ Dt K B v gs ∧ fs.length = gs.length ∧ fs.length < 1000 ∧ RetL K B H Q (metL fs gs)
def zipF (p : Bd × Bd) : Option Bd := some (met1 p.1 p.2)
theorem zip_met : ∀ fs gs : List Bd, (fs.zip gs).filterMap zipF = metL fs gs
  | [], _ => rfl
  | _ :: _, [] => rfl
  | f :: fs, g :: gs => by
    show (((f, g) :: fs.zip gs).filterMap zipF) = met1 f g :: metL fs gs
    rw [List.filterMap_cons, ← zip_met fs gs]
    rfl
theorem ok_met {f : Addr} {fd : FuncData} (F : Fun K "met" "met" s_met f fd) (ml : mg "len" = none) (mz : mg "zip" = none) (e0 : Cal P w K mg base "check_filters" 1 ["width", "filters"] (sp_cf K)) (e1 : Cal P w K mg base "_both" 1 ["one", "other"] (sp_bo K)) : FnOk P w K mg base CX0 2 f fd ["one", "other"] (sp_met K) := by
  refine body_ok F sc_met (fun vs H Q E h => by obtain ⟨_, _, _, _, _, rfl, _⟩ := h; rfl) (fun f cdv A outer s H vs Q E hr h => ?_)
  obtain ⟨B, u, v, fs, gs, rfl, kB, du, dv, hl, hz, k⟩ := h
  obtain ⟨fa, fvs, rfl, fL, fD⟩ := dt_list du
  obtain ⟨ga, gvs, rfl, gL, gD⟩ := dt_list dv
  have fl := fD.len
  have gl := gD.len
  refine s_cons (s_expr (h := e_call e0 (hr.mono (by decide)) (h := a_cons (h := e_blt call_len_seq ml PySem.boot_len ?_))))
  walk_at "E"
  refine ⟨_, _, rfl, .inl (ex_l kB fL), ?_⟩
  walk_at "E"
  refine ⟨_, _, _, rfl, ex_l kB gL, by rw [fl, gl, hl], ?_⟩
  refine s_one (s_ret (e_lc [("mine", 2), ("others", 3)] sc_met.nd (ok := blkOk_by (N := N_met) (sc := defScope s_met) (by decide +kernel)) (h := i_zip mz (h := ?_))))
  walk_at "E"
  refine ⟨fa, ga, fvs, gvs, rfl, ex_l kB fL, ex_l kB gL, fun D hD => ?_⟩
  have hzl : (fs.zip gs).length = fs.length := by rw [List.length_zip]; omega
  refine lcF (K := K) zipF (walk_zip (K := K) (a := fa) (b := ga) (xs := fvs) (ys := gvs) (n := (fs.zip gs).length) (by omega)) kB hD (by rw [hzl]; exact Nat.lt_trans hz (by decide)) (fun B' H' g => ⟨ex_l (g.b.trans g.k) fL, ex_l (g.b.trans g.k) gL⟩) ?_ (fun B' H' acc g b e da => k D B' H' acc g b hD e (by rw [← zip_met]; exact da))
  rintro i ⟨p, q⟩ x B' H' H'' ha g ⟨T, x1, x2, rfl, hT, rfl, hx, hy⟩ KT KF kt kf s0 H0 C cl fp
  obtain ⟨p', ep, dp⟩ := fD.get hx
  obtain ⟨q', eq, dq⟩ := gD.get hy
  obtain ⟨rfl, rfl⟩ : p = p' ∧ q = q' := by
    rw [List.getElem?_zip_eq_some] at ha
    rw [ep, eq] at ha
    exact ⟨(Option.some.inj ha.1).symm, (Option.some.inj ha.2).symm⟩
  have g1 := (Gr.refl (M := M0) g.k).own (o := .tup [x1, x2]) hT
  refine g_tup (SqT.of upd_same) rfl (h := gs_cons (h := g_name 2 sc_met.nd (q := gs_cons (h := g_name 3 sc_met.nd (q := gs_nil ⟨rfl, ?_⟩)))))
  intro s0 H0 C cl fp
  refine ts_nil (ift rfl ?_)
  intro s0 H0 C cl fp
  refine e_call e1 (hr.mono (by decide)) (h := ?_)
  walk_at "E"
  exact ⟨B', _, _, p, q, rfl, g1.k, dp.mono g.b, dq.mono g.b, fun v B4 H4 g4 d4 => kt _ v B4 H4 rfl (g1.trans g4) d4⟩

/-! within -/
def withinB (fs gs : List Bd) : Bool := fs.any shutB || decide (metL fs gs = fs)
theorem _root_.Lw.Das.bls {K : PySem.W.Frag} {B : Hp} : ∀ {vs : List V} {bs : List Bool}, Das K B vs bs → vs = bs.map V.bl
  | [], [], _ => rfl
  | [], _ :: _, h => by cases h
  | _ :: _, [], h => by cases h
  | v :: vs, b :: bs, h => by
    cases h with
    | cons h hs => rw [List.map_cons, dt_bl (show Dt K B v b from h), Lw.Das.bls (show Das K B vs bs from hs)]
def shF' (b : Bd) : Option Bool := some (shutB b)
theorem any_sh : ∀ fs : List Bd, (fs.filterMap shF').any id = fs.any shutB
  | [] => rfl
  | f :: fs => by
    rw [List.filterMap_cons]
    show (shutB f :: fs.filterMap shF').any id = _
    rw [List.any_cons, List.any_cons, any_sh fs]
    rfl
abbrev N_wi : List Str := ["one", "other", "bounds"]
theorem sc_wi : FnScope N_wi ["one", "other"] (defScope s_wi) := ⟨rfl, rfl, rfl, by decide +kernel, rfl, by decide +kernel, by decide +kernel⟩
def sp_wi (K : PySem.W.Frag) : Sp := fun vs H Q _ => ∃ (B : Hp) (u v : V) (fs gs : List Bd), vs = [u, v] ∧ Ex B H ∧ Dt K B u fs ∧ Dt K B v gs ∧ fs.length = gs.length ∧ fs.length < 1000 ∧ ∀ B' H', Gr M0 B H B' H' → Q (.bl (withinB fs gs)) H'
theorem ok_wi {f : Addr} {fd : FuncData} (F : Fun K "within" "within" s_wi f fd) (ml : mg "len" = none) (ma : mg "any" = none) (e0 : Cal P w K mg base "check_filters" 1 ["width", "filters"] (sp_cf K)) (e1 : Cal P w K mg base "_lets_none" 1 ["bounds"] (sp_ln K))
    (e2 : Cal P w K mg base "met" 2 ["one", "other"] (sp_met K)) : FnOk P w K mg base CX0 3 f fd ["one", "other"] (sp_wi K) := by
  refine body_ok F sc_wi (fun vs H Q E h => by obtain ⟨_, _, _, _, _, rfl, _⟩ := h; rfl) (fun f cdv A outer s H vs Q E hr h => ?_)
  obtain ⟨B, u, v, fs, gs, rfl, kB, du, dv, hl, hz, k⟩ := h
  have du0 := du
  obtain ⟨fa, fvs, rfl, fL, fD⟩ := dt_list du
  obtain ⟨ga, gvs, rfl, gL, gD⟩ := dt_list dv
  have fl := fD.len
  have gl := gD.len
  refine s_cons (s_expr (h := e_call e0 (hr.mono (by decide)) (h := a_cons (h := e_blt call_len_seq ml PySem.boot_len ?_))))
  walk_at "E"
  refine ⟨_, _, rfl, .inl (ex_l kB fL), ?_⟩
  walk_at "E"
  refine ⟨_, _, _, rfl, ex_l kB gL, by rw [fl, gl, hl], ?_⟩
  refine s_cons (s_if (t_val (e_blt (cr_any rfl) ma (by decide +kernel) (a_cons (h := e_lc [("bounds", 2)] sc_wi.nd (ok := blkOk_by (N := N_wi) (sc := defScope s_wi) (by decide +kernel)) (h := i_list ?_))))))
  walk_at "E"
  refine ⟨_, rfl, ⟨_, ex_l kB fL⟩, fun D hD => ?_⟩
  refine lcL (K := K) shF' fL fD kB hD (Nat.lt_trans hz (by decide)) ?_ ?_
  · intro i y x B' H' hy dy g KT KF kt kf s0 H0 C0 cl fp
    refine g_name 2 sc_wi.nd (q := ⟨rfl, ?_⟩)
    intro s0 H0 C0 cl fp
    refine ts_nil (ift rfl ?_)
    intro s0 H0 C0 cl fp
    refine e_call e1 (hr.mono (by decide)) (h := ?_)
    walk_at "E"
    exact ⟨_, y, rfl, dy.mono g.k, kt _ _ B' H' rfl (Gr.refl g.k) (dtB _)⟩
  intro B1 H1 acc1 g1 b1 e1' da1
  have eb := da1.bls
  subst eb
  walk_at "E"
  refine ⟨D, _, rfl, SqL.of e1', _, rfl, ?_⟩
  rw [any_sh]
  refine ifb (fun ha => ?_) fun ha => s_nil ?_
  · refine s_one (s_ret ?_)
    walk_at "E"
    have q := k _ _ g1
    unfold withinB at q
    rw [ha] at q
    exact q
  · refine s_one (s_ret (e_cmp (op_eqD hr.units) (h := e_call e2 (hr.mono (by decide)) (h := ?_))))
    walk_at "E"
    refine ⟨B1, _, _, fs, gs, rfl, g1.k, du0.mono g1.b, (dtL gL gD).mono g1.b, hl, hz, fun R B2 H2 acc2 g2 b2 r2 e2' da2 => ?_⟩
    walk_at "E"
    have g3 := g1.trans g2
    refine eq_dat (B := H2) (dtL (SqL.of e2') (da2.mono g2.k)) (du0.mono (g3.b.trans g3.k)) (Ex.refl _) (by decide) ?_
    have q := k _ _ g3
    unfold withinB at q
    rw [ha] at q
    exact q
end
end K15
namespace K15
open PySem L2 Evl Lw
section
variable {P : Program} {w : World} {K : PySem.W.Frag} {mg : Str → Option Value} {base : Heap}
theorem walk_rn {a n : Nat} : Walk (Itr (a : Nat) n) n (fun _ => True) (fun i H x H' => H' = H ∧ x = .int ((a + i : Nat) : Int)) :=
  (walk_range (lo := (a : Nat))).mono (fun _ h => h) fun i H x H' _ _ y => ⟨y.1, by rw [y.2]; show V.int ((a : Nat) + (i : Nat)) = _; rw [Int.natCast_add]⟩
/-! clash -/
theorem hit_at {K : PySem.W.Frag} {B : Hp} {vs : List V} {fss : List (List Bd)} {w : Nat} (h : Das K B vs fss) (hw : ∀ fs ∈ fss, fs.length = w) {a c : Nat} (ha : a < fss.length) (hc : c < w) :
    ∃ l us b, vs[a]? = some (.ref l) ∧ SqL K B l us ∧ us[c]? = some b ∧ Dt K B b ((fss.getD a []).getD c (none, none)) := by
  have e1 : fss[a]? = some fss[a] := List.getElem?_eq_getElem ha
  obtain ⟨x, hx, dx⟩ := h.at e1
  obtain ⟨l, us, rfl, uL, uD⟩ := dt_list dx
  have hl := hw _ (List.getElem_mem ha)
  have e2 : fss[a][c]? = some (fss[a][c]'(by omega)) := List.getElem?_eq_getElem (by omega)
  obtain ⟨b, hb, db⟩ := uD.at e2
  refine ⟨l, us, b, hx, uL, hb, ?_⟩
  rw [List.getD_eq_getElem?_getD, List.getD_eq_getElem?_getD, e1]
  show Dt K B b ((fss[a][c]?).getD _)
  rw [e2]
  exact db
abbrev N_cl : List Str := ["several", "filters", "width", "column", "one", "other"]
theorem sc_cl : FnScope N_cl ["several"] (defScope s_cl) := ⟨rfl, rfl, rfl, by decide +kernel, rfl, by decide +kernel, by decide +kernel⟩
def sp_cl (K : PySem.W.Frag) : Sp := fun vs H Q _ => ∃ (B : Hp) (v : V) (fss : List (List Bd)) (w : Nat), vs = [v] ∧ Ex B H ∧ Dt K B v fss ∧ (∀ fs ∈ fss, fs.length = w) ∧ w < 1000 ∧ fss.length < 1000 ∧ ∀ r, IsClash w fss r → RetD K B H Q r
theorem ok_cl {f : Addr} {fd : FuncData} (F : Fun K "clash" "clash" s_cl f fd) (ml : mg "len" = none) (mr : mg "range" = none) (e0 : Cal P w K mg base "check_filters" 1 ["width", "filters"] (sp_cf K)) (e1 : Cal P w K mg base "_lets_none" 1 ["bounds"] (sp_ln K))
    (e2 : Cal P w K mg base "_both" 1 ["one", "other"] (sp_bo K)) : FnOk P w K mg base CX0 2 f fd ["several"] (sp_cl K) := by
  refine body_ok F sc_cl (fun vs H Q E h => by obtain ⟨_, _, _, _, rfl, _⟩ := h; rfl) (fun f cdv A outer s H vs Q E hr h => ?_)
  obtain ⟨B, v, fss, wn, rfl, kB, dv, hw, hw1, hn, k⟩ := h
  obtain ⟨va, vvs, rfl, vL, vD⟩ := dt_list dv
  have vl := vD.len
  -- the checks
  refine s_cons (s_for (h := i_list ?_))
  walk_at "E"
  refine ⟨_, rfl, ⟨_, ex_l kB vL⟩, for_it (n := vvs.length) walk_list (fun i σ H' => H' = H ∧ ∃ u, σ = [some (.ref va), u, none, none, none, none]) ⟨rfl, none, rfl⟩ (fun i σ H' _ ⟨e, _⟩ => by rw [e]; exact ex_l kB vL) ?_ ?_⟩
  · rintro i x σ H' H'' hi ⟨rfl, u, rfl⟩ ⟨rfl, hx⟩
    obtain ⟨fs, ef, df⟩ := vD.get hx
    obtain ⟨fa, fvs, rfl, fL, fD⟩ := dt_list df
    have h0 : 0 < fss.length := by omega
    have e0' : fss[0]? = some fss[0] := List.getElem?_eq_getElem h0
    obtain ⟨x0, hx0, dx0⟩ := vD.at e0'
    obtain ⟨l0, us0, rfl, uL0, uD0⟩ := dt_list dx0
    refine g_name 1 sc_cl.nd (q := ?_)
    refine s_one (s_expr (h := e_call e0 (hr.mono (by decide)) (h := a_cons (h := e_blt call_len_seq ml PySem.boot_len (a_cons (h := e_ixL (h := ?_)))))))
    walk_at "E"
    refine ⟨_, _, _, _, rfl, rfl, ex_l kB vL, at_of (j := 0) rfl hx0, ?_⟩
    walk_at "E"
    refine ⟨_, _, rfl, .inl (ex_l kB uL0), ?_⟩
    walk_at "E"
    refine ⟨_, _, _, rfl, ex_l kB fL, by rw [fD.len, uD0.len, hw fs (List.mem_of_getElem? ef), hw _ (List.getElem_mem h0)], rfl, _, rfl⟩
  rintro σ H' ⟨rfl, u, rfl⟩
  -- width
  refine s_cons (s_set 2 sc_cl.nd (h := e_if (t_tru (h := ?_))))
  walk_at "E"
  have fin : ∀ wd : Nat, (fss ≠ [] → wd = wn) → (fss = [] → wd = 0) → WSs (cxOf CX0 P w K mg base N_cl "clash" (defScope s_cl) f cdv A outer s H' E).nox ((defBody s_cl).drop 2) { nx := fun _ H' => Q .non H', rt := Q } [some (.ref va), u, some (.int (wd : Nat)), none, none, none] H' := by
    intro wd hwd1 hwd0
    refine s_cons (s_for (h := i_rng1 mr (h := ?_)))
    walk_at "E"
    have hwl : wd < 1000 := by
      by_cases e : fss = []
      · rw [hwd0 e]; decide
      · rw [hwd1 e]; exact hw1
    refine ⟨_, rfl, by omega, by omega, ?_⟩
    refine for_it walk_r0 (fun c σ H2 => ∃ u3 u4 u5, σ = [some (.ref va), u, some (.int (wd : Nat)), u3, u4, u5] ∧ Gr M0 B H' B H2 ∧ ∀ c' a b, c' < c → a ≤ b → b < fss.length → hit fss c' a b = false) ⟨_, _, _, rfl, Gr.refl kB, fun c' a b h => absurd h (Nat.not_lt_zero _)⟩ (fun _ _ _ _ _ => trivial) ?_ ?_
    · rintro c x σ H2 H2' hc ⟨u3, u4, u5, rfl, g1, p1⟩ ⟨rfl, rfl⟩
      refine g_name 3 sc_cl.nd (q := ?_)
      have hcw : c < wn := by
        by_cases e : fss = []
        · rw [hwd0 e] at hc; omega
        · rw [hwd1 e] at hc; omega
      refine s_one (s_for (h := i_rng1 mr (h := e_blt call_len_seq ml PySem.boot_len (a_cons (h := ?_)))))
      walk_at "E"
      refine ⟨_, _, rfl, .inl (ex_l (g1.b.trans g1.k) vL), _, rfl, by omega, by omega, ?_⟩
      rw [vl, Int.toNat_natCast]
      refine for_it walk_r0 (fun a σ H3 => ∃ u4 u5, σ = [some (.ref va), u, some (.int (wd : Nat)), some (.int (c : Nat)), u4, u5] ∧ Gr M0 B H' B H3 ∧ ∀ a' b, a' < a → a' ≤ b → b < fss.length → hit fss c a' b = false) ⟨_, _, rfl, g1, fun a' b h => absurd h (Nat.not_lt_zero _)⟩ (fun _ _ _ _ _ => trivial) ?_ ?_
      · rintro a x σ H3 H3' ha ⟨u4, u5, rfl, g2, p2⟩ ⟨rfl, rfl⟩
        refine g_name 4 sc_cl.nd (q := ?_)
        refine s_one (s_for (h := i_rng2 mr (h := ?_)))
        walk_at "E"
        refine e_blt call_len_seq ml PySem.boot_len (a_cons (h := ?_))
        walk_at "E"
        refine ⟨_, _, rfl, .inl (ex_l (g2.b.trans g2.k) vL), ?_⟩
        walk_at "E"
        refine ⟨_, _, rfl, ⟨by omega, by omega, by omega, by omega⟩, ?_⟩
        rw [vl, show (((fss.length : Nat) : Int) - ((a : Nat) : Int)).toNat = fss.length - a from by omega]
        refine for_it (walk_rn (a := a)) (fun j σ H4 => ∃ u5, σ = [some (.ref va), u, some (.int (wd : Nat)), some (.int (c : Nat)), some (.int (a : Nat)), u5] ∧ Gr M0 B H' B H4 ∧ ∀ b, a ≤ b → b < a + j → hit fss c a b = false) ⟨_, rfl, g2, fun b h1 h2 => absurd h2 (by omega)⟩ (fun _ _ _ _ _ => trivial) ?_ ?_
        · rintro j x σ H4 H4' hj ⟨u5, rfl, g3, p3⟩ ⟨rfl, rfl⟩
          refine g_name 5 sc_cl.nd (q := ?_)
          obtain ⟨l1, us1, b1, hx1, uL1, hb1, db1⟩ := hit_at vD hw (a := a) (c := c) (by omega) hcw
          obtain ⟨l2, us2, b2, hx2, uL2, hb2, db2⟩ := hit_at vD hw (a := a + j) (c := c) (by omega) hcw
          have kk := g3.b.trans g3.k
          refine s_one (s_if (t_val (e_call e1 (hr.mono (by decide)) (h := a_cons (h := e_call e2 (hr.mono (by decide)) (h := a_cons (h := e_ixL (h := e_ixL (h := ?_)))))))))
          walk_at "E"
          refine ⟨_, _, _, _, rfl, rfl, ex_l kk vL, at_of rfl hx1, ?_⟩
          walk_at "E"
          refine ⟨_, _, _, _, rfl, rfl, ex_l kk uL1, at_of rfl hb1, a_cons (h := e_ixL (h := e_ixL (h := ?_)))⟩
          walk_at "E"
          refine ⟨_, _, _, _, rfl, rfl, ex_l kk vL, at_of rfl hx2, ?_⟩
          walk_at "E"
          refine ⟨_, _, _, _, rfl, rfl, ex_l kk uL2, at_of rfl hb2, ?_⟩
          walk_at "E"
          refine ⟨B, _, _, _, _, rfl, g3.k, db1, db2, fun y B5 H5 g5 d5 => ?_⟩
          walk_at "E"
          refine ⟨y, _, rfl, d5.mono g5.k, _, rfl, ifb (fun hh => ?_) fun hh => s_nil ⟨_, rfl, (g3.trans g5).base (Ex.refl B), fun b h1 h2 => ?_⟩⟩
          · refine s_one (s_ret ?_)
            walk_at "E"
            refine ⟨by show 3 ≤ sizeLine; decide, fun T hT => k (some ⟨c, a, (a + j : Nat)⟩) ⟨c, a, a + j, rfl, hcw, by omega, by omega, hh, p1, p2, fun b h1 h2 => p3 b h1 h2⟩ _ _ _ ((g3.trans g5).new hT) (dtTri (SqT.of upd_same))⟩
          · by_cases e : b = a + j
            · subst e; exact hh
            · exact p3 b h1 (by omega)
        · rintro σ H4 ⟨u5, rfl, g3, p3⟩
          refine ⟨_, _, rfl, g3, fun a' b h1 h2 h3 => ?_⟩
          by_cases e : a' = a
          · subst e; exact p3 b h2 (by omega)
          · exact p2 a' b (by omega) h2 h3
      · rintro σ H3 ⟨u4, u5, rfl, g2, p2⟩
        refine ⟨_, _, _, rfl, g2, fun c' a b h1 h2 h3 => ?_⟩
        by_cases e : c' = c
        · subst e; exact p2 a b (by omega) h2 h3
        · exact p1 c' a b (by omega) h2 h3
    · rintro σ H2 ⟨u3, u4, u5, rfl, g1, p1⟩
      refine s_one (s_ret ?_)
      walk_at "E"
      refine k none (fun c a b h1 h2 h3 => p1 c a b ?_ h2 h3) _ _ _ g1 dtTN
      by_cases e : fss = []
      · rw [e] at h3; simp at h3
      · rw [hwd1 e]; exact h1
  refine ⟨_, .inl ⟨_, ex_l kB vL, rfl⟩, ?_⟩
  cases hv : vvs with
  | nil =>
    have e0 : fss = [] := by
      rw [hv] at vl
      exact List.length_eq_zero_iff.mp vl.symm
    refine iff_ rfl ?_
    walk_at "E"
    exact fin 0 (fun z => absurd e0 z) (fun _ => rfl)
  | cons x0 xs0 =>
    have h0 : 0 < fss.length := by rw [← vl, hv]; exact Nat.succ_pos _
    refine ift rfl (e_blt call_len_seq ml PySem.boot_len (a_cons (h := e_ixL (h := ?_))))
    walk_at "E"
    have e0' : fss[0]? = some fss[0] := List.getElem?_eq_getElem h0
    obtain ⟨y0, hy0, dy0⟩ := vD.at e0'
    obtain ⟨l0, us0, rfl, uL0, uD0⟩ := dt_list dy0
    refine ⟨_, _, _, _, rfl, rfl, ex_l kB vL, at_of (j := 0) rfl hy0, ?_⟩
    walk_at "E"
    refine ⟨_, _, rfl, .inl (ex_l kB uL0), ?_⟩
    exact fin us0.length (fun _ => by rw [uD0.len]; exact hw _ (List.getElem_mem h0)) fun z => by rw [z] at h0; exact absurd h0 (Nat.lt_irrefl _)
end
end K15
namespace K15
open PySem L2 Evl Lw
section
variable {P : Program} {w : World} {K : PySem.W.Frag} {mg : Str → Option Value} {base : Heap}
/-! _law_says -/
theorem sc_sy : FnScope ["_law_found", "_law_due"] ["_law_found", "_law_due"] (defScope s_says) := ⟨rfl, rfl, rfl, by decide +kernel, rfl, by decide +kernel, by decide +kernel⟩
def sp_sy : Sp := fun vs H Q _ => ∃ (b : Bool), vs = [.bl b, .bl b] ∧ Q (.bl true) H
theorem bn_bool : bootBuiltins "bool" = some (.type "bool") := by decide +kernel
theorem c_sy (d : Fn K mg "_law_says" s_says) (mi : mg "isinstance" = none) (mb : mg "bool" = none) : Cal P w K mg base "_law_says" 1 ["_law_found", "_law_due"] sp_sy := by
  refine cal_of d sc_sy (fun vs H Q E h => by obtain ⟨_, rfl, _⟩ := h; rfl) (fun _ _ _ _ _ _ us hl => match us, hl with | [_, _], _ => rfl) (fun f cdv A outer s H vs Q E hr h => ?_)
  obtain ⟨b, rfl, k⟩ := h
  refine s_one (s_ret (e_and (e_blt call_isi mi (by decide +kernel) ?_)))
  walk_at "E"
  refine e_bltn mb bn_bool (v := .ty "bool") rfl (q := ?_)
  walk_at "E"
  refine ⟨_, _, .type "bool", .type "bool", true, rfl, .ty _, .base (.bl b), kit_ty (by decide +kernel), _, rfl, ift rfl (e_one (e_cmp (op_eqD hr.units) (h := ?_)))⟩
  walk_at "E"
  refine eq_dat (x := b) (y := b) (B := H) (dtB b) (dtB b) (Ex.refl _) (by decide) ?_
  rw [decide_eq_true rfl]
  exact k

/-! _law_greater -/
theorem sc_gt : FnScope ["_law_one", "_law_other", "_law_sign"] ["_law_one", "_law_other", "_law_sign"] (defScope s_great) := ⟨rfl, rfl, rfl, by decide +kernel, rfl, by decide +kernel, by decide +kernel⟩
def sp_gt : Sp := fun vs H Q _ => ∃ (a b : Option Int) (z : Int), vs = [ov a, ov b, .int z] ∧ (z = 1 ∧ Q (ov (mxo a b)) H ∨ z = -1 ∧ Q (ov (mno a b)) H)
theorem c_gt (d : Fn K mg "_law_greater" s_great) (mx : mg "max" = none) : Cal P w K mg base "_law_greater" 1 ["_law_one", "_law_other", "_law_sign"] sp_gt := by
  refine cal_of d sc_gt (fun vs H Q E h => by obtain ⟨_, _, _, rfl, _⟩ := h; rfl) (fun _ _ _ _ _ _ us hl => match us, hl with | [_, _, _], _ => rfl) (fun f cdv A outer s H vs Q E hr h => ?_)
  obtain ⟨a, b, z, rfl, k⟩ := h
  refine s_cons (s_if (t_wb (b_or (t_cmp op_isN (h := ?_)))))
  walk_at "E"
  have q1 : a = none ∨ b = none → ∀ c, (a = none → c = b) → (a ≠ none → c = a) → Q (ov c) H := by
    intro h c h1 h2
    cases a with
    | none =>
      rw [h1 rfl]
      rcases k with ⟨_, k⟩ | ⟨_, k⟩ <;> exact k
    | some a =>
      rw [h2 (fun z => nomatch z)]
      cases b with
      | none => rcases k with ⟨_, k⟩ | ⟨_, k⟩ <;> exact k
      | some b => rcases h with h | h <;> cases h
  cases a with
  | none =>
    refine ⟨rfl, _, rfl, ift rfl (ift rfl (s_one (s_ret (e_if (t_cmp op_isN (h := ?_))))))⟩
    walk_at "E"
    refine ⟨rfl, _, rfl, ift rfl ?_⟩
    walk_at "E"
    exact q1 (.inl rfl) b (fun _ => rfl) fun z => absurd rfl z
  | some a =>
    refine ⟨rfl, _, rfl, iff_ rfl (b_or1 (t_cmp op_isN (h := ?_)))⟩
    walk_at "E"
    cases b with
    | none =>
      refine ⟨rfl, _, rfl, ift rfl (s_one (s_ret (e_if (t_cmp op_isN (h := ?_)))))⟩
      walk_at "E"
      refine ⟨rfl, _, rfl, iff_ rfl ?_⟩
      walk_at "E"
      exact q1 (.inr rfl) (some a) (fun z => nomatch z) fun _ => rfl
    | some b =>
      refine ⟨rfl, _, rfl, iff_ rfl (s_nil ?_)⟩
      have hz : -(2 ^ 64) < z ∧ z < 2 ^ 64 := by rcases k with ⟨rfl, _⟩ | ⟨rfl, _⟩ <;> decide
      refine s_one (s_ret (e_bin op_mul (h := e_blt (call_max2 rfl) mx (by decide +kernel) (a_cons (h := e_bin op_mul (h := ?_))))))
      walk_at "E"
      refine ⟨_, _, rfl, rfl, .inr hz, a_cons (h := e_bin op_mul (h := ?_))⟩
      walk_at "E"
      refine ⟨_, _, rfl, rfl, .inr hz, ?_⟩
      walk_at "E"
      refine ⟨_, _, rfl, ?_⟩
      walk_at "E"
      refine ⟨_, _, rfl, rfl, .inr hz, ?_⟩
      rcases k with ⟨rfl, k⟩ | ⟨rfl, k⟩
      · have e : (if b * 1 > a * 1 then b * 1 else a * 1) * 1 = max a b := by split <;> omega
        have k' : Q (V.int (max a b)) H := k
        rw [← e] at k'
        exact k'
      · have e : (if b * -1 > a * -1 then b * -1 else a * -1) * -1 = min a b := by split <;> omega
        have k' : Q (V.int (min a b)) H := k
        rw [← e] at k'
        exact k'

/-! _law_met -/
abbrev N_lm : List Str := ["_law_one", "_law_other", "_law_found", "_law_k"]
theorem sc_lm : FnScope N_lm ["_law_one", "_law_other"] (defScope s_lmet) := ⟨rfl, rfl, rfl, by decide +kernel, rfl, by decide +kernel, by decide +kernel⟩
theorem c_lm (d : Fn K mg "_law_met" s_lmet) (ml : mg "len" = none) (mr : mg "range" = none) (e1 : Cal P w K mg base "_law_greater" 1 ["_law_one", "_law_other", "_law_sign"] sp_gt) : Cal P w K mg base "_law_met" 2 ["_law_one", "_law_other"] (sp_met K) := by
  refine cal_of d sc_lm (fun vs H Q E h => by obtain ⟨_, _, _, _, _, rfl, _⟩ := h; rfl) (fun _ _ _ _ _ _ us hl => match us, hl with | [_, _], _ => rfl) (fun f cdv A outer s H vs Q E hr h => ?_)
  obtain ⟨B, u, v, fs, gs, rfl, kB, du, dv, hl, hz, k⟩ := h
  obtain ⟨fa, fvs, rfl, fL, fD⟩ := dt_list du
  obtain ⟨ga, gvs, rfl, gL, gD⟩ := dt_list dv
  have fl := fD.len
  have gl := gD.len
  refine s_cons (s_set 2 sc_lm.nd (h := e_lst (a_nil ⟨Nat.zero_le _, fun F hF => ?_⟩)))
  have g1 := (Gr.refl (M := M0) kB).own (o := .lst []) hF
  refine s_cons (s_for (h := i_rng1 mr (h := e_blt call_len_seq ml PySem.boot_len (a_cons (h := ?_)))))
  walk_at "E"
  refine ⟨_, _, rfl, .inl (ex_l g1.k fL), _, rfl, by omega, by omega, ?_⟩
  rw [Int.toNat_natCast]
  refine for_it walk_r0 (fun i σ H' => ∃ B' acc u3, σ = [some (.ref fa), some (.ref ga), some (.ref F), u3] ∧ Gr M0 B H B' H' ∧ B' F = none ∧ H' F = some (.lst acc) ∧ Das K B' acc ((metL fs gs).take i))
    ⟨B, [], none, rfl, g1, none_of_ex kB hF, upd_same, Das.nil⟩ (fun _ _ _ _ _ => trivial) ?_ ?_
  · rintro i x σ H' H'' hi ⟨B', acc, u3, rfl, g, hb, he, da⟩ ⟨rfl, rfl⟩
    refine g_name 3 sc_lm.nd (q := ?_)
    have ef : fs[i]? = some (fs[i]'(by omega)) := List.getElem?_eq_getElem (by omega)
    have eg : gs[i]? = some (gs[i]'(by omega)) := List.getElem?_eq_getElem (by omega)
    obtain ⟨x1, hx1, dx1⟩ := fD.at ef
    obtain ⟨x2, hx2, dx2⟩ := gD.at eg
    obtain ⟨a1, y1, z1, rfl, T1, dy1, dz1⟩ := dt_pair dx1
    obtain ⟨a2, y2, z2, rfl, T2, dy2, dz2⟩ := dt_pair dx2
    cases dt_ov_inv dy1
    cases dt_ov_inv dz1
    cases dt_ov_inv dy2
    cases dt_ov_inv dz2
    have kk := g.b.trans g.k
    refine s_one (s_expr (h := e_bm PySem.F.plainAttrs_list PySem.F.slot_list_append PySem.F.type_list_append mt_append ?_))
    walk_at "E"
    refine ⟨.inl ⟨rfl, _, SqL.of he⟩, a_cons (h := e_tup (a_cons (h := e_call e1 hr (h := a_cons (h := e_ixT (h := e_ixL (h := ?_))))))) ⟩
    walk_at "E"
    refine ⟨_, _, _, _, rfl, rfl, ex_l kk fL, at_of rfl hx1, ?_⟩
    walk_at "E"
    refine ⟨_, _, _, _, rfl, rfl, ex_t kk T1, at_of (j := 0) rfl rfl, a_cons (h := e_ixT (h := e_ixL (h := ?_)))⟩
    walk_at "E"
    refine ⟨_, _, _, _, rfl, rfl, ex_l kk gL, at_of rfl hx2, ?_⟩
    walk_at "E"
    refine ⟨_, _, _, _, rfl, rfl, ex_t kk T2, at_of (j := 0) rfl rfl, ?_⟩
    walk_at "E"
    refine ⟨_, _, 1, rfl, .inl ⟨rfl, a_cons (h := e_call e1 hr (h := a_cons (h := e_ixT (h := e_ixL (h := ?_)))))⟩⟩
    walk_at "E"
    refine ⟨_, _, _, _, rfl, rfl, ex_l kk fL, at_of rfl hx1, ?_⟩
    walk_at "E"
    refine ⟨_, _, _, _, rfl, rfl, ex_t kk T1, at_of (j := 1) rfl rfl, a_cons (h := e_ixT (h := e_ixL (h := ?_)))⟩
    walk_at "E"
    refine ⟨_, _, _, _, rfl, rfl, ex_l kk gL, at_of rfl hx2, ?_⟩
    walk_at "E"
    refine ⟨_, _, _, _, rfl, rfl, ex_t kk T2, at_of (j := 1) rfl rfl, a_cons (h := e_neg ?_)⟩
    walk_at "E"
    refine ⟨_, rfl, ?_⟩
    walk_at "E"
    refine ⟨_, _, -1, rfl, .inr ⟨rfl, ?_⟩⟩
    walk_at "E"
    refine ⟨by show 2 ≤ sizeLine; decide, fun T hT => ?_⟩
    walk_at "E"
    have nFT : F ≠ T := ne_of_none he hT
    have g2 := g.new (o := .tup [ov (mxo (fs[i]'(by omega)).1 (gs[i]'(by omega)).1), ov (mno (fs[i]'(by omega)).2 (gs[i]'(by omega)).2)]) hT
    have hbT : (upd B' T (.tup [ov (mxo (fs[i]'(by omega)).1 (gs[i]'(by omega)).1), ov (mno (fs[i]'(by omega)).2 (gs[i]'(by omega)).2)])) F = none := by rw [upd_ne nFT]; exact hb
    have hml := metL_len hl
    refine ⟨F, acc, _, rfl, rfl, by rw [upd_ne nFT]; exact he, Nat.lt_of_le_of_lt (by rw [da.len, List.length_take]; omega : acc.length ≤ 1000) (by decide), ?_⟩
    refine ⟨_, _, _, rfl, g2.mut (p := F) (.inr hF) hbT, hbT, upd_same, ?_⟩
    rw [take_snoc (metL_get ef eg)]
    exact (da.mono (Ex.new (none_of_ex g.k hT))).snoc (dtP (SqT.of upd_same) (dt_ov _) (dt_ov _))
  · rintro σ H' ⟨B', acc, u3, rfl, g, hb, he, da⟩
    refine s_one (s_ret ?_)
    walk_at "E"
    rw [fl, ← metL_len hl, List.take_length] at da
    exact k F B' H' acc g hb hF he da

/-! _law_shut -/
theorem sc_su : FnScope ["_law_bounds"] ["_law_bounds"] (defScope s_shut) := ⟨rfl, rfl, rfl, by decide +kernel, rfl, by decide +kernel, by decide +kernel⟩
theorem c_su (d : Fn K mg "_law_shut" s_shut) : Cal P w K mg base "_law_shut" 1 ["_law_bounds"] (sp_ln K) := by
  refine cal_of d sc_su (fun vs H Q E h => by obtain ⟨_, _, rfl, _⟩ := h; rfl) (fun _ _ _ _ _ _ us hl => match us, hl with | [_], _ => rfl) (fun f cdv A outer s H vs Q E hr h => ?_)
  obtain ⟨v, ⟨lo, hi⟩, rfl, hd, k⟩ := h
  obtain ⟨a, y, z, rfl, hT, d1, d2⟩ := dt_pair hd
  refine s_one (s_ret (e_and (e_cmp op_notN (h := e_ixT (h := ?_)))))
  walk_at "E"
  refine ⟨_, _, _, _, rfl, rfl, hT, at_of (j := 0) rfl rfl, ?_⟩
  walk_at "E"
  cases lo with
  | none =>
    cases dt_none d1
    exact ⟨rfl, _, rfl, iff_ rfl k⟩
  | some lo =>
    cases dt_some d1
    refine ⟨rfl, _, rfl, ift rfl (e_and (e_cmp op_notN (h := e_ixT (h := ?_))))⟩
    walk_at "E"
    refine ⟨_, _, _, _, rfl, rfl, hT, at_of (j := 1) rfl rfl, ?_⟩
    walk_at "E"
    cases hi with
    | none =>
      cases dt_none d2
      exact ⟨rfl, _, rfl, iff_ rfl k⟩
    | some hi =>
      cases dt_some d2
      refine ⟨rfl, _, rfl, ift rfl (e_one (e_cmp op_gt (h := e_ixT (h := ?_))))⟩
      walk_at "E"
      refine ⟨_, _, _, _, rfl, rfl, hT, at_of (j := 0) rfl rfl, e_ixT (h := ?_)⟩
      walk_at "E"
      refine ⟨_, _, _, _, rfl, rfl, hT, at_of (j := 1) rfl rfl, ?_⟩
      exact ⟨_, _, rfl, rfl, k⟩

/-! _law_within -/
def shG (b : Bd) : Option Bd := if shutB b then some b else none
theorem sh_empty : ∀ fs : List Bd, (fs.filterMap shG = []) ↔ fs.any shutB = false
  | [] => by simp
  | f :: fs => by
    rw [List.filterMap_cons, List.any_cons]
    cases e : shutB f with
    | true => simp [shG, e]
    | false => simp only [shG, e, Bool.false_eq_true, if_false, Bool.false_or]; exact sh_empty fs
abbrev N_lw : List Str := ["_law_one", "_law_other", "_law_bounds"]
theorem sc_lw : FnScope N_lw ["_law_one", "_law_other"] (defScope s_lwi) := ⟨rfl, rfl, rfl, by decide +kernel, rfl, by decide +kernel, by decide +kernel⟩
theorem c_lw (d : Fn K mg "_law_within" s_lwi) (e1 : Cal P w K mg base "_law_shut" 1 ["_law_bounds"] (sp_ln K)) (e2 : Cal P w K mg base "_law_met" 2 ["_law_one", "_law_other"] (sp_met K)) : Cal P w K mg base "_law_within" 3 ["_law_one", "_law_other"] (sp_wi K) := by
  refine cal_of d sc_lw (fun vs H Q E h => by obtain ⟨_, _, _, _, _, rfl, _⟩ := h; rfl) (fun _ _ _ _ _ _ us hl => match us, hl with | [_, _], _ => rfl) (fun f cdv A outer s H vs Q E hr h => ?_)
  obtain ⟨B, u, v, fs, gs, rfl, kB, du, dv, hl, hz, k⟩ := h
  have du0 := du
  obtain ⟨fa, fvs, rfl, fL, fD⟩ := dt_list du
  refine s_cons (s_if (t_cmp (op_neD hr.units) (h := e_lc [("_law_bounds", 2)] sc_lw.nd (ok := blkOk_by (N := N_lw) (sc := defScope s_lwi) (by decide +kernel)) (h := i_list ?_))))
  walk_at "E"
  refine ⟨_, rfl, ⟨_, ex_l kB fL⟩, fun D hD => ?_⟩
  refine lcL (K := K) shG fL fD kB hD (Nat.lt_trans hz (by decide)) ?_ ?_
  · intro i y x B' H' hy dy g KT KF kt kf s0 H0 C0 cl fp
    refine g_name 2 sc_lw.nd (q := ⟨rfl, ?_⟩)
    intro s0 H0 C0 cl fp
    refine ts_one (t_val (e_call e1 (hr.mono (by decide)) (h := ?_)))
    walk_at "E"
    refine ⟨_, y, rfl, dy.mono g.k, _, rfl, ifb (fun hh => ?_) fun hh => kf B' H' (by unfold shG; rw [hh]; rfl) (Gr.refl g.k)⟩
    intro s0 H0 C0 cl fp
    walk_at "E"
    exact kt y _ B' H' (by unfold shG; rw [hh]; rfl) (Gr.refl g.k) dy
  intro B1 H1 acc1 g1 b1 e1' da1
  walk_at "E"
  refine ⟨Nat.zero_le _, fun L hL => ?_⟩
  have g2 := g1.own (o := .lst []) hL
  have e2' : upd H1 L (.lst []) D = some (.lst acc1) := by rw [upd_ne (ne_of_none e1' hL)]; exact e1'
  refine ne_dat (x := fs.filterMap shG) (y := []) (B := upd H1 L (.lst [])) (dtL (SqL.of e2') (da1.mono g2.k)) (dtL (SqL.of upd_same) Das.nil) (Ex.refl _) (by decide) ⟨_, rfl, ifn (fun hne => ?_) fun he => s_nil ?_⟩
  · refine s_one (s_ret ?_)
    walk_at "E"
    have q := k _ _ g2
    unfold withinB at q
    cases ha : fs.any shutB with
    | false => exact absurd ((sh_empty fs).mpr ha) hne
    | true => rw [ha] at q; exact q
  · have ha := (sh_empty fs).mp he
    refine s_one (s_ret (e_cmp (op_eqD hr.units) (h := e_call e2 (hr.mono (by decide)) (h := ?_))))
    walk_at "E"
    refine ⟨B1, _, _, fs, gs, rfl, g2.k, du0.mono g1.b, dv.mono g1.b, hl, hz, fun R B3 H3 acc3 g3 b3 r3 e3 da3 => ?_⟩
    walk_at "E"
    have g4 := g2.trans g3
    refine eq_dat (B := H3) (dtL (SqL.of e3) (da3.mono g3.k)) (du0.mono (g4.b.trans g4.k)) (Ex.refl _) (by decide) ?_
    have q := k _ _ g4
    unfold withinB at q
    rw [ha] at q
    exact q
end
end K15
namespace K15
open PySem L2 Evl Lw
section
variable {P : Program} {w : World} {K : PySem.W.Frag} {mg : Str → Option Value} {base : Heap}
/-! _law_clash -/
abbrev N_lc : List Str := ["_law_several", "_law_column", "_law_one", "_law_other"]
theorem sc_lc : FnScope N_lc ["_law_several"] (defScope s_lcl) := ⟨rfl, rfl, rfl, by decide +kernel, rfl, by decide +kernel, by decide +kernel⟩
def sp_lc (K : PySem.W.Frag) : Sp := fun vs H Q _ => ∃ (B : Hp) (v : V) (fss : List (List Bd)) (w : Nat), vs = [v] ∧ Ex B H ∧ Dt K B v fss ∧ (∀ fs ∈ fss, fs.length = w) ∧ w < 1000 ∧ fss.length < 1000 ∧ fss ≠ [] ∧ ∀ r, IsClash w fss r → RetD K B H Q r
theorem das_one {β : Type} [DecidableEq β] [Dat β] {B : Hp} {vs : List V} {y : β} (h : Das K B vs [y]) : ∃ v, vs = [v] ∧ Dt K B v y := by
  cases h with
  | cons a b =>
    cases b
    exact ⟨_, rfl, a⟩
theorem c_lc (d : Fn K mg "_law_clash" s_lcl) (ml : mg "len" = none) (mr : mg "range" = none) (e1 : Cal P w K mg base "_law_shut" 1 ["_law_bounds"] (sp_ln K))
    (e2 : Cal P w K mg base "_law_met" 2 ["_law_one", "_law_other"] (sp_met K)) : Cal P w K mg base "_law_clash" 3 ["_law_several"] (sp_lc K) := by
  refine cal_of d sc_lc (fun vs H Q E h => by obtain ⟨_, _, _, _, rfl, _⟩ := h; rfl) (fun _ _ _ _ _ _ us hl => match us, hl with | [_], _ => rfl) (fun f cdv A outer s H vs Q E hr h => ?_)
  obtain ⟨B, v, fss, wn, rfl, kB, dv, hw, hw1, hn, hne, k⟩ := h
  obtain ⟨va, vvs, rfl, vL, vD⟩ := dt_list dv
  have vl := vD.len
  have h0 : 0 < fss.length := List.length_pos_iff.mpr hne
  have e0' : fss[0]? = some fss[0] := List.getElem?_eq_getElem h0
  obtain ⟨y0, hy0, dy0⟩ := vD.at e0'
  obtain ⟨l0, us0, rfl, uL0, uD0⟩ := dt_list dy0
  have hl0 : us0.length = wn := by rw [uD0.len]; exact hw _ (List.getElem_mem h0)
  refine s_cons (s_for (h := i_rng1 mr (h := e_blt call_len_seq ml PySem.boot_len (a_cons (h := e_ixL (h := ?_))))))
  walk_at "E"
  refine ⟨_, _, _, _, rfl, rfl, ex_l kB vL, at_of (j := 0) rfl hy0, ?_⟩
  walk_at "E"
  refine ⟨_, _, rfl, .inl (ex_l kB uL0), _, rfl, by omega, by omega, ?_⟩
  rw [hl0, Int.toNat_natCast]
  refine for_it walk_r0 (fun c σ H2 => ∃ u3 u4 u5, σ = [some (.ref va), u3, u4, u5] ∧ Gr M0 B H B H2 ∧ ∀ c' a b, c' < c → a ≤ b → b < fss.length → hit fss c' a b = false) ⟨_, _, _, rfl, Gr.refl kB, fun c' a b h => absurd h (Nat.not_lt_zero _)⟩ (fun _ _ _ _ _ => trivial) ?_ ?_
  · rintro c x σ H2 H2' hcw ⟨u3, u4, u5, rfl, g1, p1⟩ ⟨rfl, rfl⟩
    refine g_name 1 sc_lc.nd (q := ?_)
    refine s_one (s_for (h := i_rng1 mr (h := e_blt call_len_seq ml PySem.boot_len (a_cons (h := ?_)))))
    walk_at "E"
    refine ⟨_, _, rfl, .inl (ex_l (g1.b.trans g1.k) vL), _, rfl, by omega, by omega, ?_⟩
    rw [vl, Int.toNat_natCast]
    refine for_it walk_r0 (fun a σ H3 => ∃ u4 u5, σ = [some (.ref va), some (.int (c : Nat)), u4, u5] ∧ Gr M0 B H B H3 ∧ ∀ a' b, a' < a → a' ≤ b → b < fss.length → hit fss c a' b = false) ⟨_, _, rfl, g1, fun a' b h => absurd h (Nat.not_lt_zero _)⟩ (fun _ _ _ _ _ => trivial) ?_ ?_
    · rintro a x σ H3 H3' ha ⟨u4, u5, rfl, g2, p2⟩ ⟨rfl, rfl⟩
      refine g_name 2 sc_lc.nd (q := ?_)
      refine s_one (s_for (h := i_rng2 mr (h := ?_)))
      walk_at "E"
      refine e_blt call_len_seq ml PySem.boot_len (a_cons (h := ?_))
      walk_at "E"
      refine ⟨_, _, rfl, .inl (ex_l (g2.b.trans g2.k) vL), ?_⟩
      walk_at "E"
      refine ⟨_, _, rfl, ⟨by omega, by omega, by omega, by omega⟩, ?_⟩
      rw [vl, show (((fss.length : Nat) : Int) - ((a : Nat) : Int)).toNat = fss.length - a from by omega]
      refine for_it (walk_rn (a := a)) (fun j σ H4 => ∃ u5, σ = [some (.ref va), some (.int (c : Nat)), some (.int (a : Nat)), u5] ∧ Gr M0 B H B H4 ∧ ∀ b, a ≤ b → b < a + j → hit fss c a b = false) ⟨_, rfl, g2, fun b h1 h2 => absurd h2 (by omega)⟩ (fun _ _ _ _ _ => trivial) ?_ ?_
      · rintro j x σ H4 H4' hj ⟨u5, rfl, g3, p3⟩ ⟨rfl, rfl⟩
        refine g_name 3 sc_lc.nd (q := ?_)
        obtain ⟨l1, us1, b1, hx1, uL1, hb1, db1⟩ := hit_at vD hw (a := a) (c := c) (by omega) hcw
        obtain ⟨l2, us2, b2, hx2, uL2, hb2, db2⟩ := hit_at vD hw (a := a + j) (c := c) (by omega) hcw
        have kk := g3.b.trans g3.k
        refine s_one (s_if (t_val (e_call e1 (hr.mono (by decide)) (h := a_cons (h := e_ixL (h := e_call e2 (hr.mono (by decide)) (h := a_cons (h := e_lst (a_cons (h := e_ixL (h := e_ixL (h := ?_))))))))))))
        walk_at "E"
        refine ⟨_, _, _, _, rfl, rfl, ex_l kk vL, at_of rfl hx1, ?_⟩
        walk_at "E"
        refine ⟨_, _, _, _, rfl, rfl, ex_l kk uL1, at_of rfl hb1, ?_⟩
        walk_at "E"
        refine ⟨by show 1 ≤ sizeLine; decide, fun p hp => a_cons (h := e_lst (a_cons (h := e_ixL (h := e_ixL (h := ?_)))))⟩
        have g4 := g3.new (o := .lst [b1]) hp
        have kk4 := g4.b.trans g4.k
        walk_at "E"
        refine ⟨_, _, _, _, rfl, rfl, ex_l kk4 vL, at_of rfl hx2, ?_⟩
        walk_at "E"
        refine ⟨_, _, _, _, rfl, rfl, ex_l kk4 uL2, at_of rfl hb2, ?_⟩
        walk_at "E"
        refine ⟨by show 1 ≤ sizeLine; decide, fun q hq => ?_⟩
        have g5 := g4.new (o := .lst [b2]) hq
        have eb := Ex.new (o := .lst [b2]) (none_of_ex g4.k hq)
        walk_at "E"
        refine ⟨_, _, _, [_], [_], rfl, g5.k, (dtL (SqL.of upd_same) (Das.cons (db1.mono g4.b) Das.nil)).mono eb, dtL (SqL.of upd_same) (Das.cons (db2.mono g5.b) Das.nil), rfl, (by show 1 < 1000; decide), fun R B6 H6 acc6 g6 b6 r6 e6 da6 => ?_⟩
        obtain ⟨y, rfl, dy⟩ := das_one da6
        walk_at "E"
        refine ⟨R, _, _, y, rfl, rfl, SqL.of e6, at_of (j := 0) rfl rfl, ?_⟩
        walk_at "E"
        have g7 := g5.trans g6
        refine ⟨y, _, rfl, dy.mono g6.k, _, rfl, ifb (fun hh => ?_) fun hh => s_nil ⟨_, rfl, g7.base (Ex.refl B), fun b h1 h2 => ?_⟩⟩
        · refine s_one (s_ret ?_)
          walk_at "E"
          refine ⟨by show 3 ≤ sizeLine; decide, fun T hT => k (some ⟨c, a, (a + j : Nat)⟩) ⟨c, a, a + j, rfl, hcw, by omega, by omega, hh, p1, p2, fun b h1 h2 => p3 b h1 h2⟩ _ _ _ (g7.new hT) (dtTri (SqT.of upd_same))⟩
        · by_cases e : b = a + j
          · subst e; exact hh
          · exact p3 b h1 (by omega)
      · rintro σ H4 ⟨u5, rfl, g3, p3⟩
        refine ⟨_, _, rfl, g3, fun a' b h1 h2 h3 => ?_⟩
        by_cases e : a' = a
        · subst e; exact p3 b h2 (by omega)
        · exact p2 a' b (by omega) h2 h3
    · rintro σ H3 ⟨u4, u5, rfl, g2, p2⟩
      refine ⟨_, _, _, rfl, g2, fun c' a b h1 h2 h3 => ?_⟩
      by_cases e : c' = c
      · subst e; exact p2 a b (by omega) h2 h3
      · exact p1 c' a b (by omega) h2 h3
  · rintro σ H2 ⟨u3, u4, u5, rfl, g1, p1⟩
    refine s_one (s_ret ?_)
    walk_at "E"
    exact k none (fun c a b h1 h2 h3 => p1 c a b h1 h2 h3) _ _ _ g1 dtTN

/-! _law_deeds -/
abbrev N_de : List Str := ["_law_deck_here", "_law_table_here", "_law_cells_here", "_law_many", "_law_turn"]
theorem sc_de : FnScope N_de ["_law_deck_here", "_law_table_here"] (defScope s_deeds) := ⟨rfl, rfl, rfl, by decide +kernel, rfl, by decide +kernel, by decide +kernel⟩
def sp_de (K : PySem.W.Frag) (C : Addr) : Sp := fun vs H Q _ => ∃ (B : Hp) (d : Addr) (v : V) (t : Tab), vs = [.ref d, v] ∧ Dk B H d ∧ TAt K C B v t ∧
  ∀ D B' H' acc ds, Gr (Md d) B H B' H' → Dk B' H' d → B' D = none → H D = none → H' D = some (.lst acc) → Das K B' acc (ds : List Deed) → (∀ x ∈ ds, 0 ≤ x.c ∧ x.c < t.wd) → ds.length < 64 → Q (.ref D) H'
theorem c_de {C : Addr} (dd : Fn K mg "_law_deeds" s_deeds) (mr : mg "range" = none) (mi : mg "int" = none) (e1 : Cal P w K mg base "_law_draw" 1 ["_law_deck_here", "_law_many"] sp_draw) (e2 : Cal P w K mg base "_law_bound" 2 ["_law_deck_here", "_law_cells_here"] (sp_bound K))
    (p1 : CalP P w K mg base C "width" 1 (sp_w K C)) (m1 : CalM P w K mg base C "column" 2 ["self", "column"] (sp_col K C)) : Cal P w K mg base "_law_deeds" 3 ["_law_deck_here", "_law_table_here"] (sp_de K C) := by
  refine cal_of dd sc_de (fun vs H Q E h => by obtain ⟨_, _, _, _, rfl, _⟩ := h; rfl) (fun _ _ _ _ _ _ us hl => match us, hl with | [_, _], _ => rfl) (fun f cdv A outer s H vs Q E hr h => ?_)
  obtain ⟨B, d, v, t, rfl, k0, ht, k⟩ := h
  obtain ⟨a, dx, r, rfl, ha, dr⟩ := ht.ex
  have hlo := ht.ok.lo
  have hhi := ht.ok.hi
  have hbw : t.wd.natAbs < 2 ^ 250 := Nat.lt_of_le_of_lt (by omega : t.wd.natAbs ≤ 100) (by decide)
  -- the column's cells
  refine s_cons (s_set 2 sc_de.nd (h := e_meth m1 (hr.mono (by decide)) (h := ?_)))
  walk_at "E"
  refine ⟨a, dx, _, rfl, k0.k _ _ ha, tf_no _ _ (by decide +kernel) (by decide +kernel), a_cons (h := e_call e1 (hr.mono (by decide)) (h := ?_))⟩
  refine a_cons (h := ?_)
  walk_at "nm"
  refine a_cons (h := e_prop p1 (hr.mono (by decide)) (h := ?_))
  walk_at "E"
  refine ⟨a, dx, _, rfl, k0.k _ _ ha, _, t, rfl, ht.mono k0.k, ?_⟩
  walk_at "E"
  refine draw_k k0 (by omega) hbw fun ci H1 c0 c1 g1 d1 => ?_
  walk_at "E"
  obtain ⟨j, rfl⟩ : ∃ j : Nat, ci = (j : Nat) := ⟨ci.toNat, by omega⟩
  refine ⟨B, _, t, j, rfl, d1.k, ht, by omega, fun L B2 H2 acc2 g2 b2 l2 e2' da2 => ?_⟩
  have ea := da2.ints
  subst ea
  have g3 : Gr (Md d) B H (upd B2 L (.lst ((colOf t.rows j).map V.int))) H2 := (g1.trans g2.up).learn (g1.free l2) b2 e2'
  have d3 : Dk (upd B2 L (.lst ((colOf t.rows j).map V.int))) H2 d := k0.go g3 (d1.gr g2).at_
  have hL : SqL K (upd B2 L (.lst ((colOf t.rows j).map V.int))) L ((colOf t.rows j).map V.int) := SqL.of upd_same
  have hcl : (colOf t.rows j).length < 1000 := Nat.lt_of_le_of_lt col_len ht.ok.len
  generalize hB3 : upd B2 L (.lst ((colOf t.rows j).map V.int)) = B3 at g3 d3 hL
  -- how many
  refine s_cons (s_set 3 sc_de.nd (h := e_ixL (h := e_lst (a_cons (h := e_call e1 (hr.mono (by decide)) (h := ?_))))))
  walk_at "E"
  refine draw_k d3 (by decide) (by decide) fun m H4 m0 m1 g4 d4 => ?_
  walk_at "E"
  refine ⟨by show 2 ≤ sizeLine; decide, fun p hp => e_ty call_int1 mi (by decide +kernel) (a_cons (h := e_cmp op_eq (h := e_call e1 (hr.mono (by decide)) (h := ?_))))⟩
  walk_at "E"
  refine draw_k (d4.own hp) (by decide) (by decide) fun z H5 z0 z1 g5 d5 => ?_
  walk_at "E"
  have np : p ≠ d := (d4.at_.ne hp).symm
  have e5 := g5.h p _ np upd_same
  have g6 : Gr (Md d) B H B3 H5 := ((g3.trans g4).own hp).trans g5
  refine ⟨rfl, ?_⟩
  walk_at "E"
  refine .inr ⟨_, rfl, ?_⟩
  have go : ∀ n : Int, 0 ≤ n → n < 64 → WSs (cxOf CX0 P w K mg base N_de "_law_deeds" (defScope s_deeds) f cdv A outer s H E).nox ((defBody s_deeds).drop 2) { nx := fun _ H' => Q .non H', rt := Q } [some (.ref d), some (.ref a), some (.ref L), some (.int n), none] H5 := by
    intro n n0 n1
    refine s_one (s_ret (e_lc [("_law_turn", 4)] sc_de.nd (ok := blkOk_by (N := N_de) (sc := defScope s_deeds) (by decide +kernel)) (h := i_rng1 mr (h := ?_))))
    walk_at "E"
    refine ⟨n, rfl, by omega, by omega, fun D hD => ?_⟩
    have hdD : d ≠ D := d5.at_.ne hD
    refine lcB (M := Md d) walk_r0 (fun i B' H' acc => Dk B' H' d ∧ ∃ ds : List Deed, Das K B' acc ds ∧ ds.length = i ∧ ∀ x ∈ ds, 0 ≤ x.c ∧ x.c < t.wd) d5.k hD (fun z => hdD z.symm) ⟨d5, [], Das.nil, rfl, fun z hz => nomatch hz⟩
      (fun i B' H' acc l hb ⟨⟨k1, k2, k3⟩, s⟩ => ⟨⟨fun a u e => by rw [upd_ne (ne_of_none e hb)]; exact k1 a u e, k2, k3.upd hdD⟩, s⟩) (fun _ _ _ _ _ _ _ => trivial) ?_ ?_
    · rintro i x B' H' H'' acc hi g b e ⟨dk', ds, da, hl, hp'⟩ ⟨rfl, rfl⟩ KT KF kt kf s0 H0 C0 cl fp
      refine g_name 4 sc_de.nd (q := ⟨rfl, ?_⟩)
      intro s0 H0 C0 cl fp
      refine ts_nil (ift rfl ?_)
      intro s0 H0 C0 cl fp
      refine e_tup (a_cons (h := e_str (a_cons (h := e_call e1 (hr.mono (by decide)) (h := ?_)))))
      refine a_cons (h := ?_)
      walk_at "nm"
      refine a_cons (h := e_prop p1 (hr.mono (by decide)) (h := ?_))
      walk_at "E"
      refine ⟨a, dx, _, rfl, dk'.k _ _ (g.b _ _ (g3.b _ _ ha)), _, t, rfl, ht.mono ((g3.b.trans g.b).trans dk'.k), ?_⟩
      walk_at "E"
      refine draw_k dk' (by omega) hbw fun c H7 c0 c1 g7 d7 => a_cons (h := e_call e2 (hr.mono (by decide)) (h := ?_))
      walk_at "E"
      refine ⟨_, d, L, _, rfl, d7, ex_l g.b hL, hcl, fun lo H8 g8 d8 => a_cons (h := e_call e2 (hr.mono (by decide)) (h := ?_))⟩
      walk_at "E"
      refine ⟨_, d, L, _, rfl, d8, ex_l g.b hL, hcl, fun hi' H9 g9 d9 => ?_⟩
      walk_at "E"
      refine ⟨by show 4 ≤ sizeLine; decide, fun T hT => ?_⟩
      have gA := ((g7.trans g8).trans g9).new (o := .tup [.str "only", .int c, ov lo, ov hi']) hT
      refine kt _ _ _ gA (Nat.lt_of_le_of_lt (by rw [da.len]; omega : acc.length ≤ 64) (by decide)) ⟨d9.new hT, ds ++ [⟨c, lo, hi'⟩], (da.mono gA.b).snoc (dtDeed (SqT.of upd_same) (dt_ov _) (dt_ov _)), by rw [List.length_append, hl]; rfl, fun x hx => ?_⟩
      rcases List.mem_append.mp hx with h | h
      · exact hp' x h
      · rw [List.mem_singleton.mp h]; exact ⟨c0, c1⟩
    · rintro B' H' acc g b e ⟨dk', ds, da, hl, hp'⟩
      exact k D B' H' acc ds (g6.trans g) dk' b (g6.free hD) e da hp' (by omega)
  by_cases hz : z = 0
  · subst hz
    exact ⟨p, _, _, _, rfl, rfl, SqL.of e5, at_of (j := 1) rfl rfl, go 60 (by decide) (by decide)⟩
  · rw [decide_eq_false (show ¬ (V.int z = V.int 0) from fun e => hz (by cases e; rfl))]
    exact ⟨p, _, _, _, rfl, rfl, SqL.of e5, at_of (j := 0) rfl rfl, go m m0 (by omega)⟩
end
end K15
namespace K15
open PySem L2 Evl Lw
section
variable {P : Program} {w : World} {K : PySem.W.Frag} {mg : Str → Option Value} {base : Heap}

/-! _law_deeds_right -/
abbrev N_dr : List Str := ["_law_deck_here", "_law_table_here", "_law_filters_here", "_law_deeds_here", "_law_last", "_law_deed", "_law_due", "_law_given", "_law_told", "_law_found", "_law_short", "_law_column"]
theorem sc_dr : FnScope N_dr ["_law_deck_here", "_law_table_here", "_law_filters_here"] (defScope s_dr) := ⟨rfl, rfl, rfl, by decide +kernel, rfl, by decide +kernel, by decide +kernel⟩
structure Dr (K : PySem.W.Frag) (B H : Hp) (f DD L DU G T : Addr) (kvs : List (Key × V)) (tvs : List V) (fs : List Bd) (ds : List Deed) : Prop where
  k : Ex B H
  dF : Dt K B (.ref f) fs
  dD : Dt K B (.ref DD) ds
  eL : B L = some (.dK kvs)
  dv : DKv K B kvs ds
  dU : Dt K B (.ref DU) (wo fs ds)
  dG : Dt K B (.ref G) fs
  bT : B T = none
  eT : H T = some (.lst tvs)
  tD : Das K B tvs ds
  hb : ∀ d ∈ ds, 0 ≤ d.c ∧ d.c < fs.length
  hn : ds.length < 64
  hf : fs.length < 1000
theorem last_idem {ds l m : List Deed} (h1 : LastL ds l) (h2 : LastL l m) : m = l := by
  obtain ⟨ys, a, rfl⟩ := h1
  obtain ⟨zs, b, rfl⟩ := h2
  rw [keys_last a.1] at b
  have e : zs = ys := srt_uniq (a.1.nodup_iff.mpr (keys_nodup ds)) b ⟨List.Perm.refl _, a.2⟩
  subst e
  exact letR_met.fm_congr fun c _ => last_last a.1 c
theorem last_mem {ds l : List Deed} (h : LastL ds l) : ∀ d ∈ l, d ∈ ds := by
  obtain ⟨ys, a, rfl⟩ := h
  intro d hd
  obtain ⟨c, _, e⟩ := List.mem_filterMap.mp hd
  exact (lst_c e).2
theorem last_len {ds l : List Deed} (h : LastL ds l) : l.length ≤ ds.length := by
  obtain ⟨ys, a, rfl⟩ := h
  exact Nat.le_trans (List.length_filterMap_le _ _) (by rw [a.1.length_eq]; exact keys_len ds)
variable {C : Addr}
/-- what the def calls -/
structure RD (P : Program) (w : World) (K : PySem.W.Frag) (mg : Str → Option Value) (base : Heap) (C : Addr) : Prop where
  mr : mg "range" = none
  ml : mg "len" = none
  mli : mg "list" = none
  ms : mg "sorted" = none
  de : Cal P w K mg base "_law_deeds" 3 ["_law_deck_here", "_law_table_here"] (sp_de K C)
  wo : Cal P w K mg base "with_only" 2 ["filters", "deeds"] (sp_wo K)
  woK : CalK P w K mg base "with_only" 2 ["filters", "deeds"] ["deeds", "filters"] perm2 (sp_wo K)
  lo : Cal P w K mg base "last_only" 2 ["deeds"] (sp_lo K)
  loK : CalK P w K mg base "last_only" 2 ["deeds"] ["deeds"] (fun l => l) (sp_lo K)
variable {f : Addr} {cdv : Value} {A : Around} {outer : List Env} {s : Shared} {He : Hp} {E : XK}
abbrev XD (P : Program) (w : World) (K : PySem.W.Frag) (mg : Str → Option Value) (base : Heap) (f : Addr) (cdv : Value) (A : Around) (outer : List Env) (s : Shared) (He : Hp) (E : XK) : Cx := (cxOf CX0 P w K mg base N_dr "_law_deeds_right" (defScope s_dr) f cdv A outer s He E).nox
theorem dr2 (S : RD P w K mg base C) (hr : Room 3 (A.deeper (PyProof.Rows.envOfC "_law_deeds_right" (defScope s_dr) s.heap.objs.size f cdv))) {B H : Hp} {d F DD L DU G T : Addr} {tv : V} {kvs : List (Key × V)} {tvs : List V} {fs : List Bd} {ds : List Deed} {u5 u9 u10 u11 : Option V} {D : Ends}
    (r : Dr K B H F DD L DU G T kvs tvs fs ds) (q : ∀ H', Gr (Md T) B H B H' → D.rt (.bl true) H') :
    WSs (XD P w K mg base f cdv A outer s He E) ((defBody s_dr).drop 5) D [some (.ref d), some tv, some (.ref F), some (.ref DD), some (.ref L), u5, some (.ref DU), some (.ref G), some (.ref T), u9, u10, u11] H := by
  have eb : Ex B (upd B T (.lst tvs)) := Ex.new r.bT
  have k2 : Ex (upd B T (.lst tvs)) H := ex_put r.k r.eT
  have dT : Dt K (upd B T (.lst tvs)) (.ref T) ds := dtL (SqL.of upd_same) (r.tD.mono eb)
  generalize upd B T (.lst tvs) = B2 at eb k2 dT
  have hb0 : ∀ d ∈ ds, 0 ≤ d.c := fun d hd => (r.hb d hd).1
  -- found
  refine s_cons (s_set 9 sc_dr.nd (h := e_call S.wo (hr.mono (by decide)) (h := ?_)))
  walk_at "E"
  refine ⟨B2, _, _, fs, ds, rfl, k2, r.dG.mono eb, dT, r.hb, fun F9 B3 H3 acc3 g3 b3 f3 e3 da3 => ?_⟩
  have kk3 := g3.b.trans g3.k
  refine s_cons (s_if (t_wb (b_or (t_cmp (op_neD hr.units) (h := ?_)))))
  walk_at "E"
  refine ne_dat (B := H3) (dtL (SqL.of e3) (da3.mono g3.k)) (r.dU.mono (eb.trans kk3)) (Ex.refl _) (by decide) ⟨_, rfl, ifn (fun z => absurd rfl z) fun _ => b_or (t_cmp (op_neD hr.units) (h := ?_))⟩
  walk_at "E"
  refine ne_dat (B := H3) (r.dG.mono (eb.trans kk3)) (r.dF.mono (eb.trans kk3)) (Ex.refl _) (by decide) ⟨_, rfl, ifn (fun z => absurd rfl z) fun _ => b_or1 (t_cmp (op_neD hr.units) (h := ?_))⟩
  walk_at "E"
  refine ne_dat (B := H3) (dT.mono kk3) (r.dD.mono (eb.trans kk3)) (Ex.refl _) (by decide) ⟨_, rfl, ifn (fun z => absurd rfl z) fun _ => s_nil ?_⟩
  -- found.append(None)
  refine s_cons (s_expr (h := e_bm PySem.F.plainAttrs_list PySem.F.slot_list_append PySem.F.type_list_append mt_append ?_))
  walk_at "E"
  refine ⟨.inl ⟨rfl, _, SqL.of e3⟩, ?_⟩
  walk_at "E"
  have hfl : fs.length < 1000 := r.hf
  refine ⟨_, _, _, rfl, rfl, e3, Nat.lt_of_le_of_lt (by rw [da3.len, wo_len]; omega : acc3.length ≤ 1000) (by decide), ?_⟩
  have g4 := g3.mut (o := .lst (acc3 ++ [.non])) (.inr f3) b3
  -- short
  refine s_cons (s_set 10 sc_dr.nd (h := e_call S.lo (hr.mono (by decide)) (h := ?_)))
  walk_at "E"
  refine ⟨B3, _, ds, rfl, g4.k, dT.mono g3.b, hb0, r.hn, fun l hl SH B5 H5 acc5 g5 b5 s5 e5 da5 => ?_⟩
  have g6 := g4.trans g5
  have hS0 : H SH = none := g4.free s5
  refine s_cons (s_if (t_wb (b_or (t_cmp (op_neD hr.units) (h := ?_)))))
  walk_at "nm"
  refine e_lc [("_law_column", 11)] sc_dr.nd (ok := blkOk_by (N := N_dr) (sc := defScope s_dr) (by decide +kernel)) (h := i_list (e_blt (call_sortedDI rfl) S.ms (by decide +kernel) ?_))
  walk_at "E"
  refine ⟨L, kvs, keysOf ds, rfl, .inl (g6.k _ _ (g6.b _ _ (eb _ _ r.eL))), r.dv.keys, Nat.lt_of_le_of_lt (keys_len ds) r.hn, fun ys1 S1 hp1 hs1 hS1 => ⟨S1, rfl, ⟨_, SqL.of upd_same⟩, fun R1 hR1 => ?_⟩⟩
  have gs1 := (g6).own (o := .lst (ys1.map V.int)) hS1
  have eL1 := g6.k _ _ (g6.b _ _ (eb _ _ r.eL))
  refine lcI (K := K) (lstOf ds) (SqL.of upd_same) gs1.k hR1 (Nat.lt_of_le_of_lt (by rw [hp1.length_eq]; exact keys_len ds) (Nat.lt_of_lt_of_le r.hn (by decide))) ?_ ?_
  · intro i y B' H' hy g KT KF kt kf s0 H0 C0 cl fp
    refine g_name 11 sc_dr.nd (q := ⟨rfl, ?_⟩)
    intro s0 H0 C0 cl fp
    refine ts_nil (ift rfl ?_)
    intro s0 H0 C0 cl fp
    obtain ⟨v, d, el, ev, dd⟩ := (r.dv.mono (eb.trans g6.b)).at (hp1.mem_iff.mp (List.mem_of_getElem? hy))
    refine e_dget (u1 hr) (h := ?_)
    walk_at "E"
    refine ⟨L, v, rfl, ?_, kt d v B' H' el (Gr.refl g.k) (dd.mono g.b)⟩
    have := DGet.k (k := .inl y) (g.ex _ _ (Ex.new (o := .lst (ys1.map V.int)) hS1 _ _ eL1))
    rw [ev] at this
    exact this
  intro B7 H7 acc7 g7 b7 e7 da7
  have g8 := gs1.trans g7
  have el1 : l = ys1.filterMap (lstOf ds) := hl.uniq ⟨ys1, ⟨hp1, hs1⟩, rfl⟩
  have e5' := g7.ex _ _ (Ex.new (o := .lst (ys1.map V.int)) hS1 _ _ e5)
  have eb7 : Ex B5 B7 := g7.b
  refine ne_dat (x := l) (y := ys1.filterMap (lstOf ds)) (B := H7) (dtL (SqL.of e5') (da5.mono (eb7.trans g8.k))) (dtL (SqL.of e7) (da7.mono g8.k)) (Ex.refl _) (by decide) ⟨_, rfl, ifn (fun z => absurd el1 z) fun _ => b_or1 (t_cmp (op_neD hr.units) (h := ?_))⟩
  walk_at "E"
  have kk8 := g8.b.trans g8.k
  refine ne_dat (B := H7) (dT.mono kk8) (r.dD.mono (eb.trans kk8)) (Ex.refl _) (by decide) ⟨_, rfl, ifn (fun z => absurd rfl z) fun _ => s_nil ?_⟩
  have b5' : B7 SH = none := g7.f _ b5 (upd_nn (by rw [e5]; exact fun z => nomatch z))
  -- by name, of the short list
  have k8 : Ex (upd B7 SH (.lst acc5)) H7 := ex_put g8.k e5'
  have eb8 : Ex B7 (upd B7 SH (.lst acc5)) := Ex.new b5'
  have dS : Dt K (upd B7 SH (.lst acc5)) (.ref SH) l := dtL (SqL.of upd_same) (da5.mono (eb7.trans eb8))
  generalize upd B7 SH (.lst acc5) = B8 at k8 eb8 dS
  have ebF := (eb.trans g8.b).trans eb8
  have ewo : wo fs l = wo fs ds := by obtain ⟨ys, a, rfl⟩ := hl; exact wo_last fs hb0 a.1
  refine s_cons (s_if (t_wb (b_or (t_cmp (op_neD hr.units) (h := e_callK S.woK (hr.mono (by decide)) (h := ?_))))))
  walk_at "E"
  refine ⟨rfl, rfl, B8, _, _, fs, l, rfl, k8, r.dG.mono ebF, dS, fun d hd => r.hb d (last_mem hl d hd), fun D9 B9 H9 acc9 g9 b9 d9 e9 da9 => ?_⟩
  walk_at "E"
  have kk9 := g9.b.trans g9.k
  refine ne_dat (x := wo fs l) (y := wo fs ds) (B := H9) (dtL (SqL.of e9) (da9.mono g9.k)) (r.dU.mono (ebF.trans kk9)) (Ex.refl _) (by decide) ⟨_, rfl, ifn (fun z => absurd ewo z) fun _ => b_or1 (t_cmp (op_neD hr.units) (h := e_callK S.loK (hr.mono (by decide)) (h := ?_)))⟩
  walk_at "E"
  refine ⟨rfl, rfl, B9, _, l, rfl, g9.k, dS.mono g9.b, fun d hd => hb0 d (last_mem hl d hd), Nat.lt_of_le_of_lt (last_len hl) r.hn, fun l2 hl2 D10 B10 H10 acc10 g10 b10 d10 e10 da10 => ?_⟩
  walk_at "E"
  have g910 := g9.trans g10
  refine ne_dat (x := l2) (y := l) (B := H10) (dtL (SqL.of e10) (da10.mono g10.k)) (dS.mono (g910.b.trans g910.k)) (Ex.refl _) (by decide) ⟨_, rfl, ifn (fun z => absurd (last_idem hl hl2) z) fun _ => s_nil ?_⟩
  have gA := g8.trans (g910.base eb8)
  have eS := g910.ex _ _ e5'
  -- short.append(None)
  refine s_cons (s_expr (h := e_bm PySem.F.plainAttrs_list PySem.F.slot_list_append PySem.F.type_list_append mt_append ?_))
  walk_at "E"
  refine ⟨.inl ⟨rfl, _, SqL.of eS⟩, ?_⟩
  walk_at "E"
  refine ⟨_, _, _, rfl, rfl, eS, Nat.lt_of_le_of_lt (by rw [da5.len]; have := last_len hl; have := r.hn; omega : acc5.length ≤ 1000) (by decide), ?_⟩
  have gB := gA.mut (o := .lst (acc5 ++ [.non])) (.inr hS0) b5'
  -- told.clear()
  have eT := gB.ex _ _ r.eT
  refine s_cons (s_expr (h := e_bm0 PySem.F.plainAttrs_list PySem.F.slot_list_clear PySem.F.type_list_clear mt_clear ?_))
  walk_at "E"
  refine ⟨.inl ⟨rfl, _, SqL.of eT⟩, T, _, rfl, rfl, eT, ?_⟩
  have gC := ((gB.base eb).up (M := Md T)).mut (o := .lst []) (.inl rfl) r.bT
  -- no deeds
  refine s_cons (s_set 9 sc_dr.nd (h := e_call S.wo (hr.mono (by decide)) (h := ?_)))
  walk_at "E"
  refine ⟨Nat.zero_le _, fun p hp => ?_⟩
  walk_at "E"
  have gD := gC.new (o := .lst []) hp
  refine ⟨_, _, _, fs, [], rfl, gD.k, r.dG.mono gD.b, dtL (SqL.of upd_same) Das.nil, fun d hd => (by cases hd), fun D15 B15 H15 acc15 g15 b15 d15 e15 da15 => ?_⟩
  have gE := gD.trans g15.up
  refine s_cons (s_if (t_cmp (op_neD hr.units) (h := ?_)))
  walk_at "E"
  refine ne_dat (x := wo fs []) (y := fs) (B := H15) (dtL (SqL.of e15) (da15.mono g15.k)) (r.dF.mono (gE.b.trans gE.k)) (Ex.refl _) (by decide) ⟨_, rfl, ifn (fun z => absurd rfl z) fun _ => s_nil ?_⟩
  refine s_cons (s_expr (h := e_bm PySem.F.plainAttrs_list PySem.F.slot_list_append PySem.F.type_list_append mt_append ?_))
  walk_at "E"
  refine ⟨.inl ⟨rfl, _, SqL.of e15⟩, ?_⟩
  walk_at "E"
  refine ⟨_, _, _, rfl, rfl, e15, Nat.lt_of_le_of_lt (by rw [da15.len, wo_len]; omega : acc15.length ≤ 1000) (by decide), ?_⟩
  have gF := gE.mut (o := .lst (acc15 ++ [.non])) (.inr (gD.free d15)) b15
  -- the last deeds again
  obtain ⟨dda, ddv, edd, dL', dD'⟩ := dt_list r.dD
  cases edd
  refine s_one (s_ret (e_and (e_cmp (op_eqD hr.units) (h := e_call S.lo (hr.mono (by decide)) (h := a_cons (h := e_ty call_list_of S.mli bn_list ?_))))))
  walk_at "E"
  refine ⟨_, _, rfl, .inl (ex_l (gF.b.trans gF.k) dL'), fun l9 hl9 => ?_⟩
  walk_at "E"
  have gG := gF.new (o := .lst ddv) hl9
  refine ⟨_, _, ds, rfl, gG.k, dtL (SqL.of upd_same) (dD'.mono gG.b), hb0, r.hn, fun l3 hl3 D18 B18 H18 acc18 g18 b18 d18 e18 da18 => ?_⟩
  have gH := gG.trans g18.up
  refine e_lc [("_law_column", 11)] sc_dr.nd (ok := blkOk_by (N := N_dr) (sc := defScope s_dr) (by decide +kernel)) (h := i_list (e_blt (call_sortedDI rfl) S.ms (by decide +kernel) ?_))
  walk_at "E"
  refine ⟨L, kvs, keysOf ds, rfl, .inl (gH.k _ _ (gH.b _ _ r.eL)), r.dv.keys, Nat.lt_of_le_of_lt (keys_len ds) r.hn, fun ys2 S2 hp2 hs2 hS2 => ⟨S2, rfl, ⟨_, SqL.of upd_same⟩, fun R2 hR2 => ?_⟩⟩
  have gs2 := (gH).own (o := .lst (ys2.map V.int)) hS2
  have eL2 := gH.k _ _ (gH.b _ _ r.eL)
  refine lcI (K := K) (lstOf ds) (SqL.of upd_same) gs2.k hR2 (Nat.lt_of_le_of_lt (by rw [hp2.length_eq]; exact keys_len ds) (Nat.lt_of_lt_of_le r.hn (by decide))) ?_ ?_
  · intro i y B' H' hy g KT KF kt kf s0 H0 C0 cl fp
    refine g_name 11 sc_dr.nd (q := ⟨rfl, ?_⟩)
    intro s0 H0 C0 cl fp
    refine ts_nil (ift rfl ?_)
    intro s0 H0 C0 cl fp
    obtain ⟨v, d, el, ev, dd⟩ := (r.dv.mono gH.b).at (hp2.mem_iff.mp (List.mem_of_getElem? hy))
    refine e_dget (u1 hr) (h := ?_)
    walk_at "E"
    refine ⟨L, v, rfl, ?_, kt d v B' H' el (Gr.refl g.k) (dd.mono g.b)⟩
    have := DGet.k (k := .inl y) (g.ex _ _ (Ex.new (o := .lst (ys2.map V.int)) hS2 _ _ eL2))
    rw [ev] at this
    exact this
  intro B20 H20 acc20 g20 b20 e20 da20
  have gI := gs2.trans g20.up
  have el2 : l3 = ys2.filterMap (lstOf ds) := hl3.uniq ⟨ys2, ⟨hp2, hs2⟩, rfl⟩
  have e18' := g20.ex _ _ (Ex.new (o := .lst (ys2.map V.int)) hS2 _ _ e18)
  refine eq_dat (x := l3) (y := ys2.filterMap (lstOf ds)) (B := H20) (dtL (SqL.of e18') (da18.mono (g20.b.trans gI.k))) (dtL (SqL.of e20) (da20.mono gI.k)) (Ex.refl _) (by decide) ⟨_, rfl, ift (decide_eq_true el2) (e_one (e_cmp (op_eqD hr.units) (h := ?_)))⟩
  walk_at "E"
  refine eq_dat (B := H20) (r.dG.mono (gI.b.trans gI.k)) (r.dF.mono (gI.b.trans gI.k)) (Ex.refl _) (by decide) ?_
  rw [decide_eq_true rfl]
  exact q _ (gI.base (Ex.refl B))theorem gr_fresh0 {B H B1 H1 B2 H2 : Hp} {G : Addr} (x : Gr M0 B H B1 H1) (y : Gr (Md G) B1 H1 B2 H2) (hG : H G = none) : Gr M0 B H B2 H2 :=
  ⟨x.b.trans y.b, y.k, fun a o m h => y.h a o (fun e => by rw [e, hG] at h; cases h) (x.h a o m h), fun a h => y.n a (x.n a h), fun a h1 h2 => y.f a (x.f a h1 h2) (x.n a h2)⟩
def sp_dr (K : PySem.W.Frag) (C : Addr) : Sp := fun vs H Q _ => ∃ (B : Hp) (d : Addr) (v f : V) (t : Tab) (fs : List Bd), vs = [.ref d, v, f] ∧ Dk B H d ∧ TAt K C B v t ∧ Dt K B f fs ∧ (fs.length : Int) = t.wd ∧ ∀ B' H', Gr (Md d) B H B' H' → Dk B' H' d → Q (.bl true) H'
theorem c_dr (dd : Fn K mg "_law_deeds_right" s_dr) (S : RD P w K mg base C) : Cal P w K mg base "_law_deeds_right" 4 ["_law_deck_here", "_law_table_here", "_law_filters_here"] (sp_dr K C) := by
  refine cal_of dd sc_dr (fun vs H Q E h => by obtain ⟨_, _, _, _, _, _, rfl, _⟩ := h; rfl) (fun _ _ _ _ _ _ us hl => match us, hl with | [_, _, _], _ => rfl) (fun f cdv A outer s H vs Q E hr h => ?_)
  obtain ⟨B, d, v, fv, t, fs, rfl, k0, ht, df, hf, k⟩ := h
  obtain ⟨a, dx, r, rfl, ha, dr⟩ := ht.ex
  obtain ⟨fa, fvs, rfl, fL, fD⟩ := dt_list df
  have hlo := ht.ok.lo
  have hhi := ht.ok.hi
  -- the deeds
  refine s_cons (s_set 3 sc_dr.nd (h := e_call S.de hr (h := ?_)))
  walk_at "E"
  refine ⟨B, d, _, t, rfl, k0, ht, fun DD B1 H1 dvs ds g1 d1 b1 h1 e1 da1 hb hn => ?_⟩
  have g2 := g1.learn h1 b1 e1
  have ebD : Ex B1 (upd B1 DD (.lst dvs)) := Ex.new b1
  have dDD : Dt K (upd B1 DD (.lst dvs)) (.ref DD) ds := dtL (SqL.of upd_same) (da1.mono ebD)
  have dDl : SqL K (upd B1 DD (.lst dvs)) DD dvs := SqL.of upd_same
  have dDs : Das K (upd B1 DD (.lst dvs)) dvs ds := da1.mono ebD
  generalize upd B1 DD (.lst dvs) = B2 at g2 dDD dDl dDs
  have k2 := k0.go g2 d1.at_
  -- the dict
  refine s_cons (s_set 4 sc_dr.nd (h := e_dnew fun L hL => ?_))
  have g3 := (Gr.refl (M := M0) k2.k).own (o := .dK []) hL
  refine s_cons (s_for (h := i_list ?_))
  walk_at "E"
  refine ⟨_, rfl, ⟨_, ex_l g3.k dDl⟩, ?_⟩
  have hcl := dDs.len
  refine for_it (n := dvs.length) walk_list (fun i σ H' => ∃ kvs u5, σ = [some (.ref d), some (.ref a), some (.ref fa), some (.ref DD), some (.ref L), u5, none, none, none, none, none, none] ∧ Gr M0 B2 H1 B2 H' ∧ H' L = some (.dK kvs) ∧ DKv K B2 kvs (ds.take i))
    ⟨[], none, rfl, g3, upd_same, DKv.nil⟩ (fun i σ H' _ ⟨kvs, u5, _, g, _⟩ => ex_l g.k dDl) ?_ ?_
  · rintro i x σ H' H'' hi ⟨kvs, u5, rfl, g, he, dv⟩ ⟨rfl, hx⟩
    obtain ⟨dd, ed, ddd⟩ := dDs.get hx
    have ddd' := ddd
    obtain ⟨ta, y, z, rfl, tS, d1, d2⟩ := dt_deed ddd
    refine g_name 5 sc_dr.nd (q := ?_)
    refine s_one (s_dput (u1 hr) (h := ?_))
    walk_at "E"
    refine e_ixT (h := ?_)
    walk_at "E"
    refine ⟨_, _, _, _, rfl, rfl, ex_t g.k tS, at_of (j := 1) rfl rfl, L, _, rfl, DPut.k (k := .inl dd.c) he (Nat.lt_of_le_of_lt dv.len (Nat.lt_of_lt_of_le (by rw [List.length_take]; omega : (ds.take i).length < 64) (by decide))), ?_⟩
    refine ⟨_, _, rfl, g.mut (.inr hL) (none_of_ex k2.k hL), upd_same, ?_⟩
    rw [take_snoc ed]
    exact dv.put ddd'
  rintro σ H3 ⟨kvs, u5, rfl, g4, e4, dv⟩
  rw [hcl, List.take_length] at dv
  have g5 := g4.learn hL (none_of_ex k2.k hL) e4
  have eb5 : Ex B2 (upd B2 L (.dK kvs)) := Ex.new (none_of_ex k2.k hL)
  have eL5 : (upd B2 L (.dK kvs)) L = some (.dK kvs) := upd_same
  have dv5 := dv.mono eb5
  generalize upd B2 L (.dK kvs) = B5 at g5 eb5 eL5 dv5
  -- due
  refine s_cons (s_setLc 6 [("_law_column", 11)] sc_dr.nd (ok := blkOk_by (N := N_dr) (sc := defScope s_dr) (by decide +kernel)) (h := i_rng1 S.mr (h := e_blt call_len_seq S.ml PySem.boot_len (a_cons (h := ?_)))))
  walk_at "E"
  have ebF : Ex B B5 := (g2.b.trans eb5)
  have hfl := fD.len
  refine ⟨_, _, rfl, .inl (ex_l (ebF.trans g5.k) fL), _, rfl, by omega, by omega, fun D hD => ?_⟩
  rw [hfl, Int.toNat_natCast]
  refine lcR (K := K) (dueW fs ds) g5.k hD (Nat.lt_of_le_of_lt (by omega : fs.length ≤ 100) (by decide)) ?_ ?_
  · intro j B' H' hj g KT KF kt kf s0 H0 C0 cl fp
    refine g_name 11 sc_dr.nd (q := ⟨rfl, ?_⟩)
    intro s0 H0 C0 cl fp
    refine ts_nil (ift rfl ?_)
    intro s0 H0 C0 cl fp
    have eL' := g.k _ _ (g.b _ _ eL5)
    have dg := DGet.k (k := .inl (j : Int)) eL'
    refine e_if (t_dnotin (u1 hr) (h := ?_))
    walk_at "E"
    refine ⟨L, _, rfl, dg, ?_⟩
    cases el : lstOf ds (j : Int) with
    | none =>
      rw [dv5.non _ el]
      refine ift rfl (e_ixL (h := ?_))
      walk_at "E"
      have hfj : fs[j]? = some (fs[j]'hj) := List.getElem?_eq_getElem hj
      obtain ⟨bv, hb1, hb2⟩ := fD.at hfj
      refine ⟨_, _, _, _, rfl, rfl, ex_l ((ebF.trans g.b).trans g.k) fL, at_of rfl hb1, kt (fs[j]'hj) _ B' H' ?_ (Gr.refl g.k) (hb2.mono (ebF.trans g.b))⟩
      unfold dueW
      rw [el]
      show some (fs.getD j (none, none)) = _
      rw [List.getD_eq_getElem?_getD, hfj]
      rfl
    | some dd =>
      obtain ⟨v, ev, dvv⟩ := dv5.val _ _ el
      rw [ev] at dg ⊢
      obtain ⟨ta, y, z, rfl, tS, d1, d2⟩ := dt_deed dvv
      refine iff_ rfl (e_slT (h := e_dget (u1 hr) (h := ?_)))
      walk_at "E"
      refine ⟨L, _, rfl, dg, o_some ?_⟩
      walk_at "E"
      refine ⟨2, rfl, o_none ?_⟩
      refine ⟨ta, _, rfl, ex_t (g.b.trans g.k) tS, (by show ¬ (HT.sIx 4 0 (some 2) = 0 ∧ HT.sIx 4 4 none = 4); decide), fun T hT => ?_⟩
      refine kt (dd.lo, dd.hi) _ _ _ (by unfold dueW; rw [el]) ((Gr.refl g.k).new hT) (dtP (SqT.of upd_same) ((d1.mono g.b).mono (Ex.new (none_of_ex g.k hT))) ((d2.mono g.b).mono (Ex.new (none_of_ex g.k hT))))
  intro B6 H6 acc6 g6 b6 e6 da6
  rw [wo_due fs fun d hd => (hb d hd).1] at da6
  have g7 := g5.trans g6
  have g8 := g7.learn (g5.free hD) b6 e6
  have eb6 : Ex B6 (upd B6 D (.lst acc6)) := Ex.new b6
  have dU : Dt K (upd B6 D (.lst acc6)) (.ref D) (wo fs ds) := dtL (SqL.of upd_same) (da6.mono eb6)
  generalize upd B6 D (.lst acc6) = B8 at g8 eb6 dU
  have e58 : Ex B5 B8 := g6.b.trans eb6
  have ebA := ebF.trans e58
  -- both copies
  refine s_cons (s_par 7 8 sc_dr.nd (h := a_cons (h := e_ty call_list_of S.mli bn_list ?_)))
  walk_at "E"
  refine ⟨_, _, rfl, .inl (ex_l (ebA.trans g8.k) fL), fun G hG => a_cons (h := e_ty call_list_of S.mli bn_list ?_)⟩
  have g9 := g8.new (o := .lst fvs) hG
  have eb9 : Ex B8 (upd B8 G (.lst fvs)) := Ex.new (none_of_ex g8.k hG)
  have dG : Dt K (upd B8 G (.lst fvs)) (.ref G) fs := dtL (SqL.of upd_same) (fD.mono (ebA.trans eb9))
  generalize upd B8 G (.lst fvs) = B9 at g9 eb9 dG
  walk_at "E"
  refine ⟨_, _, rfl, .inl (ex_l (((eb5.trans e58).trans eb9).trans g9.k) dDl), fun T hT => ?_⟩
  walk_at "E"
  have g10 := g9.own (o := .lst dvs) hT
  refine ⟨_, _, rfl, ?_⟩
  have rr : Dr K B9 (upd (upd H6 G (.lst fvs)) T (.lst dvs)) fa DD L D G T kvs dvs fs ds :=
    ⟨g10.k, (dtL fL fD).mono (ebA.trans eb9), dDD.mono ((eb5.trans e58).trans eb9), eb9 _ _ (e58 _ _ eL5), dv5.mono (e58.trans eb9), dU.mono eb9, dG, none_of_ex g9.k hT, upd_same, dDs.mono ((eb5.trans e58).trans eb9), fun d hd => by have := hb d hd; omega, hn, by omega⟩
  refine dr2 S (hr.mono (by decide)) rr fun H' gz => ?_
  have gw := gr_fresh0 g10 gz (g9.free hT)
  exact k _ _ (g2.trans gw.up) (k2.gr gw)
end
end K15
namespace K15
open PySem L2 Evl Lw
section
variable {P : Program} {w : World} {K : PySem.W.Frag} {mg : Str → Option Value} {base : Heap}
/-! _law_pair_right -/
abbrev N_pr : List Str := ["_law_table_here", "_law_one", "_law_other", "_law_given", "_law_found", "_law_row"]
theorem sc_pr : FnScope N_pr ["_law_table_here", "_law_one", "_law_other"] (defScope s_pr) := ⟨rfl, rfl, rfl, by decide +kernel, rfl, by decide +kernel, by decide +kernel⟩
variable {C : Addr}
structure RP (P : Program) (w : World) (K : PySem.W.Frag) (mg : Str → Option Value) (base : Heap) (C : Addr) : Prop where
  mli : mg "list" = none
  met : Cal P w K mg base "met" 2 ["one", "other"] (sp_met K)
  metK : CalK P w K mg base "met" 2 ["one", "other"] ["other", "one"] perm2 (sp_met K)
  wi : Cal P w K mg base "within" 3 ["one", "other"] (sp_wi K)
  wiK : CalK P w K mg base "within" 3 ["one", "other"] ["other", "one"] perm2 (sp_wi K)
  lm : Cal P w K mg base "_law_met" 2 ["_law_one", "_law_other"] (sp_met K)
  lw : Cal P w K mg base "_law_within" 3 ["_law_one", "_law_other"] (sp_wi K)
  sy : Cal P w K mg base "_law_says" 1 ["_law_found", "_law_due"] sp_sy
  lr : Cal P w K mg base "let_rows" 3 ["table", "filters"] (sp_lr K C)
  sh : Cal P w K mg base "_law_shown" 3 ["_law_table_here", "_law_filters_here"] (sp_sh K C)
theorem all_flat : ∀ ns : List Int, (ns.map V.int).all flatV = true
  | [] => rfl
  | n :: ns => by rw [List.map_cons, List.all_cons, all_flat ns]; rfl
theorem in_ints (y : Int) : ∀ ns : List Int, inV (.int y) (ns.map V.int) = decide (y ∈ ns) := by
  intro ns
  have hq : ∀ n : Int, eqV (.int n) (.int y) = decide (n = y) := fun n => by
    first
      | rfl
      | (show (n == y) = _; exact beq_dec n y)
      | (show decide (V.int n = V.int y) = _; exact decide_eq_decide.mpr ⟨fun e => by cases e; rfl, fun e => by rw [e]⟩)
  rw [Bool.eq_iff_iff, decide_eq_true_eq]
  unfold inV
  rw [List.any_eq_true]
  constructor
  · rintro ⟨v, hv, e⟩
    obtain ⟨n, hn, rfl⟩ := List.mem_map.mp hv
    rw [hq, decide_eq_true_eq] at e
    rw [← e]
    exact hn
  · intro h
    exact ⟨.int y, List.mem_map.mpr ⟨y, h, rfl⟩, by rw [hq]; exact decide_eq_true rfl⟩
theorem within_self (fs : List Bd) : withinB fs fs = true := by unfold withinB; rw [metL_self, decide_eq_true rfl, Bool.or_true]
def sp_pr (K : PySem.W.Frag) (C : Addr) : Sp := fun vs H Q _ => ∃ (B : Hp) (v u x : V) (t : Tab) (fs gs : List Bd), vs = [v, u, x] ∧ Ex B H ∧ TAt K C B v t ∧ Dt K B u fs ∧ Dt K B x gs ∧ (fs.length : Int) = t.wd ∧ (gs.length : Int) = t.wd ∧ ∀ B' H', Gr M0 B H B' H' → Q (.bl true) H'
theorem c_pr (dd : Fn K mg "_law_pair_right" s_pr) (S : RP P w K mg base C) : Cal P w K mg base "_law_pair_right" 4 ["_law_table_here", "_law_one", "_law_other"] (sp_pr K C) := by
  refine cal_of dd sc_pr (fun vs H Q E h => by obtain ⟨_, _, _, _, _, _, _, rfl, _⟩ := h; rfl) (fun _ _ _ _ _ _ us hl => match us, hl with | [_, _, _], _ => rfl) (fun f cdv A outer s H vs Q E hr h => ?_)
  obtain ⟨B, v, u, x, t, fs, gs, rfl, kB, ht, du, dx, hf, hg, k⟩ := h
  obtain ⟨fa, fvs, rfl, fL, fD⟩ := dt_list du
  obtain ⟨ga, gvs, rfl, gL, gD⟩ := dt_list dx
  have hlo := ht.ok.lo
  have hhi := ht.ok.hi
  have hfg : fs.length = gs.length := by omega
  have hz : fs.length < 1000 := by omega
  -- given
  refine s_cons (s_set 3 sc_pr.nd (h := e_lst (a_cons (h := e_ty call_list_of S.mli bn_list ?_))))
  walk_at "E"
  refine ⟨_, _, rfl, .inl (ex_l kB fL), fun G1 hG1 => a_cons (h := e_ty call_list_of S.mli bn_list ?_)⟩
  have g1 := (Gr.refl (M := M0) kB).new (o := .lst fvs) hG1
  have dG1 : Dt K (upd B G1 (.lst fvs)) (.ref G1) fs := dtL (SqL.of upd_same) (fD.mono g1.b)
  generalize upd B G1 (.lst fvs) = B1 at g1 dG1
  walk_at "E"
  refine ⟨_, _, rfl, .inl (ex_l (g1.b.trans g1.k) gL), fun G2 hG2 => ?_⟩
  have g2 := g1.new (o := .lst gvs) hG2
  have eb2 : Ex B1 (upd B1 G2 (.lst gvs)) := Ex.new (none_of_ex g1.k hG2)
  have dG2 : Dt K (upd B1 G2 (.lst gvs)) (.ref G2) gs := dtL (SqL.of upd_same) (gD.mono g2.b)
  have dG1' := dG1.mono eb2
  generalize upd B1 G2 (.lst gvs) = B2 at g2 dG2 dG1'
  walk_at "E"
  refine ⟨by show 2 ≤ sizeLine; decide, fun P1 hP1 => ?_⟩
  have g3 := g2.new (o := .lst [.ref G1, .ref G2]) hP1
  have eb3 : Ex B2 (upd B2 P1 (.lst [.ref G1, .ref G2])) := Ex.new (none_of_ex g2.k hP1)
  have lP : SqL K (upd B2 P1 (.lst [.ref G1, .ref G2])) P1 [.ref G1, .ref G2] := SqL.of upd_same
  have d1 := dG1'.mono eb3
  have d2 := dG2.mono eb3
  generalize upd B2 P1 (.lst [.ref G1, .ref G2]) = B3 at g3 lP d1 d2
  have dP : Dt K B3 (.ref P1) [fs, gs] := dtL lP (.cons d1 (.cons d2 .nil))
  have dF := du.mono g3.b
  have dO := dx.mono g3.b
  have hT := ht.mono g3.b
  -- found
  refine s_cons (s_set 4 sc_pr.nd (h := e_call S.met (hr.mono (by decide)) (h := a_cons (h := e_ixL (h := ?_)))))
  walk_at "E"
  refine ⟨_, _, _, _, rfl, rfl, ex_l g3.k lP, at_of (j := 0) rfl rfl, a_cons (h := e_ixL (h := ?_))⟩
  walk_at "E"
  refine ⟨_, _, _, _, rfl, rfl, ex_l g3.k lP, at_of (j := 1) rfl rfl, ?_⟩
  walk_at "E"
  refine ⟨B3, _, _, fs, gs, rfl, g3.k, d1, d2, hfg, hz, fun F B4 H4 acc4 g4 b4 f4 e4 da4 => ?_⟩
  refine s_cons (s_if (t_wb (b_or (t_cmp (op_neD hr.units) (h := ?_)))))
  walk_at "nm"
  refine e_call S.lm (hr.mono (by decide)) (h := ?_)
  walk_at "E"
  refine ⟨B4, _, _, fs, gs, rfl, g4.k, dF.mono g4.b, dO.mono g4.b, hfg, hz, fun R5 B5 H5 acc5 g5 b5 r5 e5 da5 => ?_⟩
  have e4' := g5.ex _ _ e4
  refine ne_dat (B := H5) (dtL (SqL.of e4') (da4.mono (g5.b.trans g5.k))) (dtL (SqL.of e5) (da5.mono g5.k)) (Ex.refl _) (by decide) ⟨_, rfl, ifn (fun z => absurd rfl z) fun _ => b_or1 (t_cmp (op_neD hr.units) (h := ?_))⟩
  walk_at "nm"
  walk_at "E"
  have g45 := g4.trans g5
  refine ⟨by show 2 ≤ sizeLine; decide, fun P2 hP2 => ?_⟩
  have g6 := g45.own (o := .lst [.ref fa, .ref ga]) hP2
  have kk6 := g6.b.trans g6.k
  refine ne_dat (x := [fs, gs]) (y := [fs, gs]) (B := upd H5 P2 (.lst [.ref fa, .ref ga])) (dP.mono kk6) (dtL (SqL.of upd_same) (.cons (dF.mono kk6) (.cons (dO.mono kk6) .nil))) (Ex.refl _) (by decide) ⟨_, rfl, ifn (fun z => absurd rfl z) fun _ => s_nil ?_⟩
  have e6 : upd H5 P2 (.lst [.ref fa, .ref ga]) F = some (.lst acc4) := by rw [upd_ne (ne_of_none e4' hP2)]; exact e4'
  have bF : B5 F = none := g5.f _ b4 (by rw [e4]; exact fun z => nomatch z)
  -- the rows
  have k7 : Ex (upd B5 F (.lst acc4)) (upd H5 P2 (.lst [.ref fa, .ref ga])) := ex_put g6.k e6
  have eb7 : Ex B5 (upd B5 F (.lst acc4)) := Ex.new bF
  have dFo : Dt K (upd B5 F (.lst acc4)) (.ref F) (metL fs gs) := dtL (SqL.of upd_same) (da4.mono (g5.b.trans eb7))
  generalize upd B5 F (.lst acc4) = B7 at k7 eb7 dFo
  have ebB := g6.b.trans eb7
  refine s_cons (s_if (t_cmp (op_neD hr.units) (h := e_call S.lr (hr.mono (by decide)) (h := ?_))))
  walk_at "E"
  refine ⟨B7, _, _, t, metL fs gs, rfl, k7, hT.mono ebB, dFo, by rw [metL_len hfg]; exact hf, fun R8 B8 H8 acc8 g8 b8 r8 e8 da8 => ?_⟩
  refine e_lc [("_law_row", 5)] sc_pr.nd (ok := blkOk_by (N := N_pr) (sc := defScope s_pr) (by decide +kernel)) (h := i_list (e_call S.sh (hr.mono (by decide)) (h := ?_)))
  walk_at "E"
  refine ⟨B8, _, _, t, fs, rfl, g8.k, hT.mono (ebB.trans g8.b), dF.mono (ebB.trans g8.b), hf, fun R9 B9 H9 acc9 g9 b9 r9 e9 da9 => ⟨R9, rfl, ⟨_, SqL.of e9⟩, fun R10 hR10 => ?_⟩⟩
  have ea9 := da9.ints
  subst ea9
  have eb9 := (ebB.trans g8.b).trans g9.b
  have hrl : (letR t.rows fs).length ≤ t.rows.length := Nat.le_trans (List.length_filterMap_le _ _) (by rw [List.length_zipIdx]; exact Nat.le_refl _)
  refine lcI (K := K) (bothF t.rows gs) (SqL.of e9) g9.k hR10 (Nat.lt_of_le_of_lt hrl (Nat.lt_trans ht.ok.len (by decide))) ?_ ?_
  · intro i y B' H' hy g KT KF kt kf s0 H0 C0 cl fp
    refine g_name 5 sc_pr.nd (q := ⟨rfl, ?_⟩)
    intro s0 H0 C0 cl fp
    refine ts_one (t_cmp op_in_seq (h := ?_))
    walk_at "nm"
    refine e_call S.sh (hr.mono (by decide)) (h := ?_)
    walk_at "E"
    refine ⟨B', _, _, t, gs, rfl, g.k, hT.mono (eb9.trans g.b), dO.mono (eb9.trans g.b), hg, fun R11 B11 H11 acc11 g11 b11 r11 e11 da11 => ?_⟩
    have ea := da11.ints
    subst ea
    refine ⟨R11, _, rfl, .inl (SqL.of e11), rfl, all_flat _, _, rfl, ?_⟩
    show if inV (.int y) ((letR t.rows gs).map V.int) = true then _ else _
    rw [in_ints]
    refine ifd (fun hm => ?_) fun hm => kf B' H11 (by unfold bothF; rw [if_neg hm]) (g11.base (Ex.refl B'))
    intro s0 H0 C0 cl fp
    walk_at "E"
    exact kt y _ B' H11 (by unfold bothF; rw [if_pos hm]) (g11.base (Ex.refl B')) (dtI y)
  · intro B12 H12 acc12 g12 b12 e12 da12
    rw [← letR_met hfg (fun r hr => by have := ht.ok.le r hr; omega)] at da12
    have g13 := g9.trans g12
    have e8' := g13.ex _ _ e8
    refine ne_dat (B := H12) (dtL (SqL.of e8') (da8.mono (g13.b.trans g13.k))) (dtL (SqL.of e12) (da12.mono g12.k)) (Ex.refl _) (by decide) ⟨_, rfl, ifn (fun z => absurd rfl z) fun _ => s_nil ?_⟩
    have gA : Gr M0 B H B5 H12 := (g3.trans g6).trans ((g8.trans g13).base eb7)
    have eF := (g8.trans g13).ex _ _ e6
    -- found.append(None)
    refine s_cons (s_expr (h := e_bm PySem.F.plainAttrs_list PySem.F.slot_list_append PySem.F.type_list_append mt_append ?_))
    walk_at "E"
    refine ⟨.inl ⟨rfl, _, SqL.of eF⟩, ?_⟩
    walk_at "E"
    refine ⟨_, _, _, rfl, rfl, eF, Nat.lt_of_le_of_lt (by rw [da4.len, metL_len hfg]; omega : acc4.length ≤ 1000) (by decide), ?_⟩
    have gB := gA.mut (o := .lst (acc4 ++ [.non])) (.inr (g3.free f4)) bF
    have b35 := g6.b
    -- by name
    refine s_cons (s_if (t_cmp (op_neD hr.units) (h := e_callK S.metK (hr.mono (by decide)) (h := k_cons (e_ixL (h := ?_))))))
    walk_at "E"
    refine ⟨_, _, _, _, rfl, rfl, ex_l (b35.trans gB.k) lP, at_of (j := 1) rfl rfl, k_cons (e_ixL (h := ?_))⟩
    walk_at "E"
    refine ⟨_, _, _, _, rfl, rfl, ex_l (b35.trans gB.k) lP, at_of (j := 0) rfl rfl, ?_⟩
    walk_at "E"
    refine ⟨rfl, rfl, B5, _, _, fs, gs, rfl, gB.k, d1.mono b35, d2.mono b35, hfg, hz, fun R14 B14 H14 acc14 g14 b14 r14 e14 da14 => ?_⟩
    refine e_call S.lm (hr.mono (by decide)) (h := ?_)
    walk_at "E"
    have b314 := b35.trans g14.b
    refine ⟨B14, _, _, fs, gs, rfl, g14.k, dF.mono b314, dO.mono b314, hfg, hz, fun R15 B15 H15 acc15 g15 b15 r15 e15 da15 => ?_⟩
    have e14' := g15.ex _ _ e14
    refine ne_dat (B := H15) (dtL (SqL.of e14') (da14.mono (g15.b.trans g15.k))) (dtL (SqL.of e15) (da15.mono g15.k)) (Ex.refl _) (by decide) ⟨_, rfl, ifn (fun z => absurd rfl z) fun _ => s_nil ?_⟩
    have gC := (gB.trans g14).trans g15
    have b3C := b314.trans g15.b
    -- within
    refine s_cons (s_if (t_not (t_val (e_call S.sy (hr.mono (by decide)) (h := a_cons (h := e_call S.wi (hr.mono (by decide)) (h := a_cons (h := e_ixL (h := ?_))))))))) 
    walk_at "E"
    refine ⟨_, _, _, _, rfl, rfl, ex_l (b3C.trans gC.k) lP, at_of (j := 0) rfl rfl, a_cons (h := e_ixL (h := ?_))⟩
    walk_at "E"
    refine ⟨_, _, _, _, rfl, rfl, ex_l (b3C.trans gC.k) lP, at_of (j := 1) rfl rfl, ?_⟩
    walk_at "E"
    refine ⟨B15, _, _, fs, gs, rfl, gC.k, d1.mono b3C, d2.mono b3C, hfg, hz, fun B16 H16 g16 => a_cons (h := e_call S.lw (hr.mono (by decide)) (h := ?_))⟩
    walk_at "E"
    have gD := gC.trans g16
    have b3D := b3C.trans g16.b
    refine ⟨B16, _, _, fs, gs, rfl, gD.k, dF.mono b3D, dO.mono b3D, hfg, hz, fun B17 H17 g17 => ?_⟩
    walk_at "E"
    refine ⟨_, rfl, _, rfl, iff_ rfl (s_nil ?_)⟩
    have gE := gD.trans g17
    have b3E := b3D.trans g17.b
    -- the other way, by name
    refine s_one (s_ret (e_and (e_call S.sy (hr.mono (by decide)) (h := a_cons (h := e_callK S.wiK (hr.mono (by decide)) (h := k_cons (e_ixL (h := ?_)))))))) 
    walk_at "E"
    refine ⟨_, _, _, _, rfl, rfl, ex_l (b3E.trans gE.k) lP, at_of (j := 0) rfl rfl, k_cons (e_ixL (h := ?_))⟩
    walk_at "E"
    refine ⟨_, _, _, _, rfl, rfl, ex_l (b3E.trans gE.k) lP, at_of (j := 1) rfl rfl, ?_⟩
    walk_at "E"
    refine ⟨rfl, rfl, B17, _, _, gs, fs, rfl, gE.k, d2.mono b3E, d1.mono b3E, hfg.symm, by omega, fun B18 H18 g18 => a_cons (h := e_call S.lw (hr.mono (by decide)) (h := ?_))⟩
    walk_at "E"
    have gF := gE.trans g18
    have b3F := b3E.trans g18.b
    refine ⟨B18, _, _, gs, fs, rfl, gF.k, dO.mono b3F, dF.mono b3F, hfg.symm, by omega, fun B19 H19 g19 => ?_⟩
    walk_at "E"
    refine ⟨_, rfl, _, rfl, ift rfl (e_one (e_cmp op_isBl (h := e_call S.wi (hr.mono (by decide)) (h := a_cons (h := e_ty call_list_of S.mli bn_list ?_))))) ⟩
    have gG := gF.trans g19
    have b3G := b3F.trans g19.b
    walk_at "E"
    refine ⟨_, _, rfl, .inl (ex_l (((g3.b.trans b3G)).trans gG.k) fL), fun l1 hl1 => a_cons (h := e_ty call_list_of S.mli bn_list ?_)⟩
    have gH := gG.new (o := .lst fvs) hl1
    have bH : Ex B19 (upd B19 l1 (.lst fvs)) := Ex.new (none_of_ex gG.k hl1)
    have dl1 : Dt K (upd B19 l1 (.lst fvs)) (.ref l1) fs := dtL (SqL.of upd_same) (fD.mono gH.b)
    generalize upd B19 l1 (.lst fvs) = B20 at gH bH dl1
    walk_at "E"
    refine ⟨_, _, rfl, .inl (ex_l (gH.b.trans gH.k) fL), fun l2 hl2 => ?_⟩
    have gI := gH.new (o := .lst fvs) hl2
    have bI : Ex B20 (upd B20 l2 (.lst fvs)) := Ex.new (none_of_ex gH.k hl2)
    walk_at "E"
    refine ⟨_, _, _, fs, fs, rfl, gI.k, dl1.mono bI, dtL (SqL.of upd_same) (fD.mono gI.b), rfl, hz, fun B21 H21 g21 => ?_⟩
    walk_at "E"
    rw [within_self]
    refine ⟨_, _, rfl, rfl, ?_⟩
    rw [decide_eq_true rfl]
    exact k _ _ (gI.trans g21)
end
end K15
namespace K15
open PySem L2 Evl Lw
section
variable {P : Program} {w : World} {K : PySem.W.Frag} {mg : Str → Option Value} {base : Heap}
/-! _law_clash_right -/
abbrev N_cr : List Str := ["_law_deck_here", "_law_table_here", "_law_one", "_law_other", "_law_several", "_law_filters_here", "_law_given", "_law_due", "_law_cells_here", "_law_column", "_law_lows", "_law_highs", "_law_row", "_law_cell", "_law_turn"]
theorem sc_cr' : FnScope N_cr ["_law_deck_here", "_law_table_here", "_law_one", "_law_other"] (defScope s_clr) := ⟨rfl, rfl, rfl, by decide +kernel, rfl, by decide +kernel, by decide +kernel⟩
/-! the mathematics -/
theorem shut_mxn {b c : Bd} {m h : Int} (hs : shutB (met1 b c) = false) (h1 : b.1 = some m) (h2 : c.2 = some h) : m ≤ h := by
  obtain ⟨bl, bh⟩ := b
  obtain ⟨cl, ch⟩ := c
  simp only at h1 h2
  subst h1
  subst h2
  cases cl <;> cases bh <;> simp only [met1, mxo, mno, shutB, decide_eq_false_iff_not] at hs <;> omega
theorem shut_nxm {b c : Bd} {m h : Int} (hs : shutB (met1 b c) = false) (h1 : c.1 = some m) (h2 : b.2 = some h) : m ≤ h := by
  obtain ⟨bl, bh⟩ := b
  obtain ⟨cl, ch⟩ := c
  simp only at h1 h2
  subst h1
  subst h2
  cases bl <;> cases ch <;> simp only [met1, mxo, mno, shutB, decide_eq_false_iff_not] at hs <;> omega
def loF (c : Nat) (fs : List Bd) : Option Int := (fs.getD c (none, none)).1
def hiF (c : Nat) (fs : List Bd) : Option Int := (fs.getD c (none, none)).2
theorem lo_hi {n c : Nat} {fss : List (List Bd)} (h : IsClash n fss none) (hc : c < n) {x y : List Bd} (hx : x ∈ fss) (hy : y ∈ fss) {m k : Int} (h1 : loF c x = some m) (h2 : hiF c y = some k) : m ≤ k := by
  obtain ⟨a, ha, rfl⟩ := List.getElem_of_mem hx
  obtain ⟨b, hb, rfl⟩ := List.getElem_of_mem hy
  have ea : fss.getD a [] = fss[a] := by rw [List.getD_eq_getElem?_getD, List.getElem?_eq_getElem ha]; rfl
  have eb : fss.getD b [] = fss[b] := by rw [List.getD_eq_getElem?_getD, List.getElem?_eq_getElem hb]; rfl
  by_cases hab : a ≤ b
  · have := h c a b hc hab hb
    unfold hit at this
    rw [ea, eb] at this
    exact shut_mxn this h1 h2
  · have := h c b a hc (by omega) ha
    unfold hit at this
    rw [ea, eb] at this
    exact shut_nxm this h1 h2
theorem lets_of {b : Bd} {m : Int} (h1 : ∀ l, b.1 = some l → l ≤ m) (h2 : ∀ k, b.2 = some k → m ≤ k) : lets b m = true := by
  obtain ⟨lo, hi⟩ := b
  unfold lets
  rw [Bool.and_eq_true]
  constructor
  · cases lo with
    | none => rfl
    | some l => exact decide_eq_true (h1 l rfl)
  · cases hi with
    | none => rfl
    | some k => exact decide_eq_true (h2 k rfl)
theorem let_lows {n c : Nat} {fss : List (List Bd)} (h : IsClash n fss none) (hc : c < n) {m : Int} (hm : m ∈ fss.filterMap (loF c)) (hy : ∀ y ∈ fss.filterMap (loF c), y ≤ m) : ∀ x ∈ fss, lets (x.getD c (none, none)) m = true := by
  intro x hx
  obtain ⟨x0, hx0, e0⟩ := List.mem_filterMap.mp hm
  exact lets_of (fun l hl => hy l (List.mem_filterMap.mpr ⟨x, hx, hl⟩)) fun k hk => lo_hi h hc hx0 hx e0 hk
theorem let_highs {c : Nat} {fss : List (List Bd)} (hl : fss.filterMap (loF c) = []) {m : Int} (hy : ∀ y ∈ fss.filterMap (hiF c) ++ [0], m ≤ y) : ∀ x ∈ fss, lets (x.getD c (none, none)) m = true := by
  intro x hx
  refine lets_of (fun l e => ?_) fun k hk => hy k (List.mem_append_left _ (List.mem_filterMap.mpr ⟨x, hx, hk⟩))
  have : l ∈ fss.filterMap (loF c) := List.mem_filterMap.mpr ⟨x, hx, e⟩
  rw [hl] at this
  cases this
theorem letR_one {fs : List Bd} {cs : List Int} (h : letAll fs cs = true) : letR [cs] fs = [0] := by
  show ([(cs, 0)].filterMap (letF fs)) = [0]
  rw [List.filterMap_cons]
  unfold letF
  rw [barC_empty, h]
  rfl
variable {C : Addr}
structure RQ (P : Program) (w : World) (K : PySem.W.Frag) (mg : Str → Option Value) (base : Heap) (C : Addr) : Prop where
  mr : mg "range" = none
  ml : mg "len" = none
  mli : mg "list" = none
  mint : mg "int" = none
  mmax : mg "max" = none
  mmin : mg "min" = none
  mabs : mg "abs" = none
  dr : Cal P w K mg base "_law_draw" 1 ["_law_deck_here", "_law_many"] sp_draw
  fi : Cal P w K mg base "_law_filters" 3 ["_law_deck_here", "_law_table_here"] (sp_fi K C)
  lm : Cal P w K mg base "_law_met" 2 ["_law_one", "_law_other"] (sp_met K)
  lc : Cal P w K mg base "_law_clash" 3 ["_law_several"] (sp_lc K)
  cl : Cal P w K mg base "clash" 2 ["several"] (sp_cl K)
  clK : CalK P w K mg base "clash" 2 ["several"] ["several"] (fun l => l) (sp_cl K)
  lr : Cal P w K mg base "let_rows" 3 ["table", "filters"] (sp_lr K C)
  mkT : CalI P w K mg base C "Table" 2 ["self", "width", "rows"] (sp_in K C)
variable {f : Addr} {cdv : Value} {A : Around} {outer : List Env} {s : Shared} {He : Hp} {E : XK}
abbrev XC (P : Program) (w : World) (K : PySem.W.Frag) (mg : Str → Option Value) (base : Heap) (f : Addr) (cdv : Value) (A : Around) (outer : List Env) (s : Shared) (He : Hp) (E : XK) : Cx := (cxOf CX0 P w K mg base N_cr "_law_clash_right" (defScope s_clr) f cdv A outer s He E).nox
def badF (cs : List Int) (fs : List Bd) : Option (List Bd) := if letR [cs] fs = [0] then none else some fs
theorem bad_nil {cs : List Int} : ∀ {fss : List (List Bd)}, (∀ fs ∈ fss, letR [cs] fs = [0]) → fss.filterMap (badF cs) = []
  | [], _ => rfl
  | fs :: fss, h => by
    rw [List.filterMap_cons]
    unfold badF
    rw [if_pos (h fs List.mem_cons_self)]
    exact bad_nil fun x hx => h x (List.mem_cons_of_mem _ hx)
def absF (c : Int) : Option Int := some (if c < 0 then -c else c)
theorem abs_len : ∀ cs : List Int, (cs.filterMap absF).length = cs.length
  | [] => rfl
  | c :: cs => by
    rw [List.filterMap_cons]
    show (_ :: cs.filterMap absF).length = _
    rw [List.length_cons, abs_len cs, List.length_cons]
theorem cr2 (S : RQ P w K mg base C) (hr : Room 4 (A.deeper (PyProof.Rows.envOfC "_law_clash_right" (defScope s_clr) s.heap.objs.size f cdv))) {B H : Hp} {fa SV : Addr} {vd tv vo dv : V} {fs : List Bd} {fss : List (List Bd)} {n : Nat} {r : Option Tri} {u5 u6 u8 u9 u10 u11 u12 u13 u14 : Option V} {D : Ends}
    (kB : Ex B H) (dF : Dt K B (.ref fa) fs) (dS : Dt K B (.ref SV) fss) (hn : ∀ x ∈ fss, x.length = n) (hf : fs.length = n) (n0 : 1 ≤ n) (n1 : n ≤ 100) (hne : fss ≠ []) (hl : fss.length < 1000) (hr0 : IsClash n fss r) (dr : Dt K B dv r)
    (q : ∀ H', Gr M0 B H B H' → D.rt (.bl true) H') :
    WSs (XC P w K mg base f cdv A outer s He E) ((defBody s_clr).drop 5) D [some vd, some tv, some (.ref fa), some vo, some (.ref SV), u5, u6, some dv, u8, u9, u10, u11, u12, u13, u14] H := by
  obtain ⟨fa', fvs, ef, fL, fD⟩ := dt_list dF
  cases ef
  obtain ⟨sa', svs, es, sL, sD⟩ := dt_list dS
  cases es
  have hfl := fD.len
  have hsl := sD.len
  -- no filters at all
  have last : ∀ σ8 H8, Gr M0 B H B H8 → (σ8 : L2.St).length = 15 → WSs (XC P w K mg base f cdv A outer s He E) ((defBody s_clr).drop 6) D σ8 H8 := by
    intro σ8 H8 g8 _
    refine s_one (s_ret (e_cmp op_isN (h := e_call S.cl (hr.mono (by decide)) (h := ?_))))
    walk_at "E"
    refine ⟨Nat.zero_le _, fun p hp => ?_⟩
    walk_at "E"
    have g9 := g8.new (o := .lst []) hp
    refine ⟨_, _, [], 0, rfl, g9.k, dtL (SqL.of upd_same) Das.nil, fun x hx => (by cases hx), by decide, by decide, fun r2 hr2 v B3 H3 g3 d3 => ?_⟩
    walk_at "E"
    have hv : v = .non := by
      rcases dt_tri d3 with ⟨e, _⟩ | ⟨a, t, _, e2, _⟩
      · exact e
      · subst e2
        obtain ⟨_, _, b, _, _, _, hb, _⟩ := hr2
        simp at hb
    subst hv
    exact ⟨rfl, q _ ((g9.trans g3).base (Ex.refl B))⟩
  refine s_cons (s_if (t_cmp op_isN (h := ?_)))
  walk_at "E"
  rcases dt_tri dr with ⟨rfl, rfl⟩ | ⟨ta, tt, rfl, rfl, _⟩
  rotate_left
  · exact ⟨rfl, _, rfl, iff_ rfl (s_nil (last _ _ (Gr.refl kB) rfl))⟩
  refine ⟨rfl, _, rfl, ift rfl ?_⟩
  -- the cells
  refine s_cons (s_set 8 sc_cr'.nd (h := e_lst (a_nil ⟨Nat.zero_le _, fun CE hCE => ?_⟩)))
  have g1 := (Gr.refl (M := M0) kB).own (o := .lst []) hCE
  refine s_cons (s_for (h := i_rng1 S.mr (h := e_blt call_len_seq S.ml PySem.boot_len (a_cons (h := ?_)))))
  walk_at "E"
  refine ⟨_, _, rfl, .inl (ex_l g1.k fL), _, rfl, by omega, by omega, ?_⟩
  rw [hfl, hf, Int.toNat_natCast]
  refine for_it walk_r0 (fun i σ H' => ∃ (cs : List Int) (v5 v9 v10 v11 v13 : Option V), σ = [some vd, some tv, some (.ref fa), some vo, some (.ref SV), v5, u6, some .non, some (.ref CE), v9, v10, v11, u12, v13, u14] ∧ Gr M0 B H B H' ∧ H' CE = some (.lst (cs.map V.int)) ∧ cs.length = i ∧ ∀ j c, cs[j]? = some c → ∀ x ∈ fss, lets (x.getD j (none, none)) c = true)
    ⟨[], u5, u9, u10, u11, u13, rfl, g1, upd_same, rfl, fun j c e => by simp at e⟩ (fun _ _ _ _ _ => trivial) ?_ ?_
  · rintro i x σ H' H'' hi ⟨cs, v5, v9, v10, v11, v13, rfl, g, he, hcl, hcs⟩ ⟨rfl, rfl⟩
    have bCE : B CE = none := none_of_ex kB hCE
    refine g_name 9 sc_cr'.nd (q := ?_)
    -- lows
    refine s_cons (s_setLc 10 [("_law_filters_here", 5)] sc_cr'.nd (ok := blkOk_by (N := N_cr) (sc := defScope s_clr) (by decide +kernel)) (h := i_list ?_))
    walk_at "E"
    refine ⟨_, rfl, ⟨_, ex_l g.k sL⟩, fun L1 hL1 => ?_⟩
    refine lcL (K := K) (loF i) sL sD g.k hL1 (Nat.lt_trans hl (by decide)) ?_ ?_
    · intro j y x B' H2 hy dy g2 KT KF kt kf s0 H0 C0 cl fp
      obtain ⟨ya, yvs, rfl, yL, yD⟩ := dt_list dy
      have hyl := hn y (List.mem_of_getElem? hy)
      have ey : y[i]? = some (y[i]'(by omega)) := List.getElem?_eq_getElem (by omega)
      have eg : loF i y = (y[i]'(by omega)).1 := by unfold loF; rw [List.getD_eq_getElem?_getD, ey]; rfl
      obtain ⟨bv, hb1, hb2⟩ := yD.at ey
      obtain ⟨ba, b1, b2, rfl, bT, db1, db2⟩ := dt_pair hb2
      refine g_name 5 sc_cr'.nd (q := ⟨rfl, ?_⟩)
      intro s0 H0 C0 cl fp
      refine ts_one (t_cmp op_notN (h := e_ixT (h := e_ixL (h := ?_))))
      walk_at "E"
      refine ⟨_, _, _, _, rfl, rfl, ex_l g2.k yL, at_of rfl hb1, ?_⟩
      walk_at "E"
      refine ⟨_, _, _, _, rfl, rfl, ex_t g2.k bT, at_of (j := 0) rfl rfl, ?_⟩
      walk_at "E"
      cases el : (y[i]'(by omega)).1 with
      | none =>
        rw [el] at db1 eg
        cases dt_none db1
        exact ⟨rfl, _, rfl, iff_ rfl (kf B' _ eg (Gr.refl g2.k))⟩
      | some l =>
        rw [el] at db1 eg
        cases dt_some db1
        refine ⟨rfl, _, rfl, ift rfl ?_⟩
        intro s0 H0 C0 cl fp
        refine e_ixT (h := e_ixL (h := ?_))
        walk_at "E"
        refine ⟨_, _, _, _, rfl, rfl, ex_l g2.k yL, at_of rfl hb1, ?_⟩
        walk_at "E"
        exact ⟨_, _, _, _, rfl, rfl, ex_t g2.k bT, at_of (j := 0) rfl rfl, kt l _ B' _ eg (Gr.refl g2.k) (dtI l)⟩
    intro B3 H3 acc3 g3 b3 e3 da3
    have ea3 := da3.ints
    subst ea3
    have g4 := g.trans g3
    -- highs
    refine s_cons (s_setLc 11 [("_law_filters_here", 5)] sc_cr'.nd (ok := blkOk_by (N := N_cr) (sc := defScope s_clr) (by decide +kernel)) (h := i_list ?_))
    walk_at "E"
    refine ⟨_, rfl, ⟨_, ex_l (g4.b.trans g4.k) sL⟩, fun L2 hL2 => ?_⟩
    refine lcL (K := K) (hiF i) (ex_l g4.b sL) (sD.mono g4.b) g4.k hL2 (Nat.lt_trans hl (by decide)) ?_ ?_
    · intro j y x B' H2 hy dy g2 KT KF kt kf s0 H0 C0 cl fp
      obtain ⟨ya, yvs, rfl, yL, yD⟩ := dt_list dy
      have hyl := hn y (List.mem_of_getElem? hy)
      have ey : y[i]? = some (y[i]'(by omega)) := List.getElem?_eq_getElem (by omega)
      have eg : hiF i y = (y[i]'(by omega)).2 := by unfold hiF; rw [List.getD_eq_getElem?_getD, ey]; rfl
      obtain ⟨bv, hb1, hb2⟩ := yD.at ey
      obtain ⟨ba, b1, b2, rfl, bT, db1, db2⟩ := dt_pair hb2
      refine g_name 5 sc_cr'.nd (q := ⟨rfl, ?_⟩)
      intro s0 H0 C0 cl fp
      refine ts_one (t_cmp op_notN (h := e_ixT (h := e_ixL (h := ?_))))
      walk_at "E"
      refine ⟨_, _, _, _, rfl, rfl, ex_l g2.k yL, at_of rfl hb1, ?_⟩
      walk_at "E"
      refine ⟨_, _, _, _, rfl, rfl, ex_t g2.k bT, at_of (j := 1) rfl rfl, ?_⟩
      walk_at "E"
      cases el : (y[i]'(by omega)).2 with
      | none =>
        rw [el] at db2 eg
        cases dt_none db2
        exact ⟨rfl, _, rfl, iff_ rfl (kf B' _ eg (Gr.refl g2.k))⟩
      | some l =>
        rw [el] at db2 eg
        cases dt_some db2
        refine ⟨rfl, _, rfl, ift rfl ?_⟩
        intro s0 H0 C0 cl fp
        refine e_ixT (h := e_ixL (h := ?_))
        walk_at "E"
        refine ⟨_, _, _, _, rfl, rfl, ex_l g2.k yL, at_of rfl hb1, ?_⟩
        walk_at "E"
        exact ⟨_, _, _, _, rfl, rfl, ex_t g2.k bT, at_of (j := 1) rfl rfl, kt l _ B' _ eg (Gr.refl g2.k) (dtI l)⟩
    intro B5 H5 acc5 g5 b5 e5 da5
    have ea5 := da5.ints
    subst ea5
    have g6 := g4.trans g5
    have e3' := g5.ex _ _ e3
    have eCE := (g3.trans g5).ex _ _ he
    -- one more
    have done : ∀ m : Int, (∀ x ∈ fss, lets (x.getD i (none, none)) m = true) → ∀ H7, Gr M0 B H B H7 → H7 CE = some (.lst (cs.map V.int)) → ∃ (cs' : List Int), Gr M0 B H B (upd H7 CE (.lst (cs.map V.int ++ [.int m]))) ∧ (upd H7 CE (.lst (cs.map V.int ++ [.int m]))) CE = some (.lst (cs'.map V.int)) ∧ cs'.length = i + 1 ∧ ∀ j c, cs'[j]? = some c → ∀ x ∈ fss, lets (x.getD j (none, none)) c = true := by
      intro m hm H7 g7 e7
      refine ⟨cs ++ [m], g7.mut (.inr hCE) bCE, by rw [upd_same, List.map_append]; rfl, by rw [List.length_append, hcl]; rfl, fun j c e => ?_⟩
      by_cases hj : j < cs.length
      · rw [List.getElem?_append_left hj] at e
        exact hcs j c e
      · rw [List.getElem?_append_right (by omega)] at e
        have hj2 : j = i := by
          have := (List.getElem?_eq_some_iff.mp e).1
          simp at this
          omega
        subst hj2
        rw [hcl, Nat.sub_self] at e
        cases e
        exact hm
    have hzz : (cs.map V.int).length < sizeLine := Nat.lt_of_le_of_lt (by rw [List.length_map]; omega : (cs.map V.int).length ≤ 100) (by decide)
    refine s_one (s_expr (h := e_bm PySem.F.plainAttrs_list PySem.F.slot_list_append PySem.F.type_list_append mt_append ?_))
    walk_at "E"
    refine ⟨.inl ⟨rfl, _, SqL.of eCE⟩, a_cons (h := e_if (t_cmp (op_neD hr.units) (h := ?_)))⟩
    walk_at "E"
    refine ⟨Nat.zero_le _, fun p hp => ?_⟩
    have g7 := g6.own (o := .lst []) hp
    have e37 : upd H5 p (.lst []) L1 = some (.lst ((fss.filterMap (loF i)).map V.int)) := by rw [upd_ne (ne_of_none e3' hp)]; exact e3'
    have eC7 : upd H5 p (.lst []) CE = some (.lst (cs.map V.int)) := by rw [upd_ne (ne_of_none eCE hp)]; exact eCE
    have e57 : upd H5 p (.lst []) L2 = some (.lst ((fss.filterMap (hiF i)).map V.int)) := by rw [upd_ne (ne_of_none e5 hp)]; exact e5
    refine ne_dat (x := fss.filterMap (loF i)) (y := []) (B := upd H5 p (.lst [])) (dtL (SqL.of e37) das_ints) (dtL (SqL.of upd_same) Das.nil) (Ex.refl _) (by decide) ⟨_, rfl, ifn (fun hlo => ?_) fun hlo => ?_⟩
    · refine e_blt (cr_max rfl) S.mmax (by decide +kernel) ?_
      walk_at "E"
      refine ⟨L1, _, rfl, SqL.of e37, List.length_pos_iff.mpr hlo, fun m hm hy => ?_⟩
      walk_at "E"
      obtain ⟨cs', k1, k2, k3, k4⟩ := done m (let_lows hr0 hi hm hy) _ (g7.base (Ex.refl B)) eC7
      exact ⟨_, _, _, rfl, rfl, eC7, hzz, cs', _, _, _, _, _, rfl, k1, k2, k3, k4⟩
    · refine e_blt (cr_min rfl) S.mmin (by decide +kernel) (a_cons (h := e_bin op_cat (h := ?_)))
      walk_at "E"
      refine ⟨by show 1 ≤ sizeLine; decide, fun p2 hp2 => ⟨L2, p2, _, _, rfl, rfl, by rw [upd_ne (ne_of_none e57 hp2)]; exact e57, upd_same, ?_, fun p3 hp3 => ?_⟩⟩
      · have h1 : (fss.filterMap (hiF i)).length ≤ fss.length := List.length_filterMap_le _ _
        rw [List.length_map]
        exact Nat.le_trans (by show _ ≤ 1001; simp only [List.length_singleton]; omega) (by decide : 1001 ≤ sizeLine)
      walk_at "E"
      have g8 := (g7.own (o := .lst [.int 0]) hp2).own (o := .lst ((fss.filterMap (hiF i)).map V.int ++ [.int 0])) hp3
      have e8 : ∀ o, upd H5 p (.lst []) CE = some o → (upd (upd (upd H5 p (.lst [])) p2 (.lst [.int 0])) p3 (.lst ((fss.filterMap (hiF i)).map V.int ++ [.int 0]))) CE = some o := fun o e => Ex.new hp3 _ _ (Ex.new hp2 _ _ e)
      refine ⟨p3, fss.filterMap (hiF i) ++ [0], rfl, SqL.of (by rw [upd_same, List.map_append]; rfl), by rw [List.length_append]; exact Nat.lt_of_lt_of_le Nat.zero_lt_one (Nat.le_add_left _ _), fun m hm hy => ?_⟩
      walk_at "E"
      obtain ⟨cs', k1, k2, k3, k4⟩ := done m (let_highs hlo hy) _ (g8.base (Ex.refl B)) (e8 _ eC7)
      exact ⟨_, _, _, rfl, rfl, e8 _ eC7, hzz, cs', _, _, _, _, _, rfl, k1, k2, k3, k4⟩
  rintro σ H2 ⟨cs, v5, v9, v10, v11, v13, rfl, g2, e2, hcl, hcs⟩
  -- not too great
  refine s_one (s_if (t_cmp op_lt (h := e_blt (cr_max rfl) S.mmax (by decide +kernel) (a_cons (h := e_lc [("_law_cell", 13)] sc_cr'.nd (ok := blkOk_by (N := N_cr) (sc := defScope s_clr) (by decide +kernel)) (h := i_list ?_))))))
  walk_at "E"
  refine ⟨_, rfl, ⟨_, SqL.of e2⟩, fun L3 hL3 => ?_⟩
  refine lcI (K := K) absF (SqL.of e2) g2.k hL3 (Nat.lt_of_le_of_lt (by omega : cs.length ≤ 100) (by decide)) ?_ ?_
  · intro j y B' H' hy g KT KF kt kf s0 H0 C0 cl fp
    refine g_name 13 sc_cr'.nd (q := ⟨rfl, ?_⟩)
    intro s0 H0 C0 cl fp
    refine ts_nil (ift rfl ?_)
    intro s0 H0 C0 cl fp
    refine e_blt call_abs S.mabs (by decide +kernel) (a_cons (h := e_name 13 (q := ?_)))
    walk_at "E"
    exact ⟨_, rfl, kt _ _ B' H' rfl (Gr.refl g.k) (dtI _)⟩
  intro B4 H4 acc4 g4 b4 e4 da4
  have ea4 := da4.ints
  subst ea4
  have hab := abs_len cs
  walk_at "E"
  refine ⟨L3, _, rfl, SqL.of e4, by omega, fun m _ _ => e_pow (h := ?_)⟩
  walk_at "E"
  refine ⟨_, _, rfl, rfl, ⟨by decide, by decide, by decide⟩, _, _, rfl, rfl, _, rfl, ?_⟩
  have g5 := g2.trans g4
  have eCE := g4.ex _ _ e2
  refine ifd (fun _ => ?_) fun _ => s_nil (last _ _ (g5.base (Ex.refl B)) rfl)
  -- the row
  refine s_cons (s_set 12 sc_cr'.nd (h := e_make S.mkT (hr.mono (by decide)) (h := a_cons (h := e_blt call_len_seq S.ml PySem.boot_len ?_))))
  walk_at "E"
  refine ⟨_, _, rfl, .inl (ex_l (g5.b.trans g5.k) fL), a_cons (h := e_lst ?_)⟩
  walk_at "E"
  refine ⟨by show 1 ≤ sizeLine; decide, fun p hp => ?_⟩
  rw [hfl, hf]
  have bCE4 : B4 CE = none := g4.f _ (none_of_ex kB hCE) (by rw [e2]; exact fun z => nomatch z)
  have g6 := (g5.learn hCE bCE4 eCE).new (o := .lst [.ref CE]) hp
  have dC : Dt K (upd (upd B4 CE (.lst (cs.map V.int))) p (.lst [.ref CE])) (.ref p) [cs] := dtL (SqL.of upd_same) (.cons (dtL (SqL.of (by rw [upd_ne (ne_of_none eCE hp)]; exact upd_same)) das_ints) .nil)
  generalize upd (upd B4 CE (.lst (cs.map V.int))) p (.lst [.ref CE]) = B6 at g6 dC
  refine a_nil fun nx ndx hnx hndx _ => mk_tab1 (t := ⟨n, [cs]⟩) g6.k dC ⟨by show (1 : Int) ≤ (n : Nat); omega, by show ((n : Nat) : Int) ≤ 100; omega, fun r hr => by rw [List.mem_singleton.mp hr]; show ((cs.length : Nat) : Int) = (n : Nat); omega, by show 1 < 1000; decide⟩ hnx hndx fun B7 H7 g7 tT => ?_
  have g8 := g6.trans g7
  refine s_one (s_ret (e_cmp (op_eqD hr.units) (h := e_lc [("_law_filters_here", 5)] sc_cr'.nd (ok := blkOk_by (N := N_cr) (sc := defScope s_clr) (by decide +kernel)) (h := i_list ?_))))
  walk_at "E"
  refine ⟨_, rfl, ⟨_, ex_l (g8.b.trans g8.k) sL⟩, fun R9 hR9 => ?_⟩
  refine lcL (K := K) (badF cs) (ex_l g8.b sL) (sD.mono g8.b) g8.k hR9 (Nat.lt_trans hl (by decide)) ?_ ?_
  · intro j y x B' H' hy dy g KT KF kt kf s0 H0 C0 cl fp
    have hyl := hn y (List.mem_of_getElem? hy)
    have hgood : letR [cs] y = [0] := by
      refine letR_one (letAll_iff.mpr fun j c e => hcs j c e y (List.mem_of_getElem? hy))
    refine g_name 5 sc_cr'.nd (q := ⟨rfl, ?_⟩)
    intro s0 H0 C0 cl fp
    refine ts_one (t_cmp (op_neD hr.units) (h := e_call S.lr (hr.mono (by decide)) (h := ?_)))
    walk_at "E"
    refine ⟨B', _, _, _, y, rfl, g.k, tT.mono g.b, dy, by rw [hyl], fun R10 B10 H10 acc10 g10 b10 r10 e10 da10 => ?_⟩
    walk_at "E"
    refine ⟨by show 1 ≤ sizeLine; decide, fun p2 hp2 => ?_⟩
    have g11 := g10.own (o := .lst [.int 0]) hp2
    refine ne_dat (x := letR [cs] y) (y := [0]) (B := upd H10 p2 (.lst [.int 0])) (dtL (SqL.of (by rw [upd_ne (ne_of_none e10 hp2)]; exact e10)) (da10.mono g11.k)) (dtL (SqL.of upd_same) (.cons (dtI 0) .nil)) (Ex.refl _) (by decide) ⟨_, rfl, ifn (fun z => absurd hgood z) fun _ => ?_⟩
    exact kf B' _ (by unfold badF; rw [if_pos hgood]) (g11.base (Ex.refl B'))
  intro B9 H9 acc9 g9 b9 e9 da9
  rw [bad_nil fun y hy => letR_one (letAll_iff.mpr fun j c e => hcs j c e y hy)] at da9
  walk_at "E"
  refine ⟨Nat.zero_le _, fun p4 hp4 => ?_⟩
  have g10 := (g8.trans g9).own (o := .lst []) hp4
  refine eq_dat (x := ([] : List (List Bd))) (y := []) (B := upd H9 p4 (.lst [])) (dtL (SqL.of (by rw [upd_ne (ne_of_none e9 hp4)]; exact e9)) (da9.mono g10.k)) (dtL (SqL.of upd_same) Das.nil) (Ex.refl _) (by decide) ?_
  rw [decide_eq_true rfl]
  exact q _ (g10.base (Ex.refl B))
end
end K15
namespace K15
open PySem L2 Evl Lw
section
variable {P : Program} {w : World} {K : PySem.W.Frag} {mg : Str → Option Value} {base : Heap}
theorem das_rep {B : Hp} {v : V} {b : Bd} (h : Dt K B v b) : ∀ n, Das K B (List.replicate n v) (List.replicate n b)
  | 0 => .nil
  | n + 1 => by
    rw [List.replicate_succ, List.replicate_succ]
    exact .cons h (das_rep h n)
theorem flat_one {α : Type} (x : α) : ∀ n, (List.replicate n [x]).flatten = List.replicate n x
  | 0 => rfl
  | n + 1 => by
    rw [List.replicate_succ, List.flatten_cons, flat_one x n, List.replicate_succ]
    rfl
theorem das_take {α : Type} [DecidableEq α] [Dat α] {B : Hp} : ∀ {vs : List V} {xs : List α} (n : Nat), Das K B vs xs → Das K B (vs.take n) (xs.take n)
  | _, _, 0, _ => by rw [List.take_zero, List.take_zero]; exact Das.nil
  | [], [], _ + 1, h => h
  | [], _ :: _, _, h => by cases h
  | _ :: _, [], _, h => by cases h
  | _ :: vs, _ :: xs, n + 1, h => by
    cases h with
    | cons a b => exact .cons a (das_take n (show Das K B vs xs from b))
theorem cut1 (xs : List V) : cutV xs none (some 1) = xs.take 1 := by
  show (xs.drop 0).take (HT.sIx xs.length xs.length (some ((1 : Nat) : Int)) - 0) = xs.take 1
  rw [HT.sIx_nat, Nat.sub_zero, List.drop_zero]
  cases xs with
  | nil => rfl
  | cons x xs => rw [Nat.min_eq_left (by rw [List.length_cons]; omega)]
def someF (fs : List Bd) : Option (List Bd) := some fs
theorem some_id : ∀ fss : List (List Bd), fss.filterMap someF = fss
  | [] => rfl
  | f :: fs => by
    rw [List.filterMap_cons]
    show f :: fs.filterMap someF = _
    rw [some_id fs]
variable {C : Addr}
def sp_cr' (K : PySem.W.Frag) (C : Addr) : Sp := fun vs H Q _ => ∃ (B : Hp) (d : Addr) (v u x : V) (t : Tab) (fs gs : List Bd), vs = [.ref d, v, u, x] ∧ Dk B H d ∧ TAt K C B v t ∧ Dt K B u fs ∧ Dt K B x gs ∧ (fs.length : Int) = t.wd ∧ (gs.length : Int) = t.wd ∧ ∀ B' H', Gr (Md d) B H B' H' → Q (.bl true) H'
theorem c_clr (dd : Fn K mg "_law_clash_right" s_clr) (S : RQ P w K mg base C) : Cal P w K mg base "_law_clash_right" 5 ["_law_deck_here", "_law_table_here", "_law_one", "_law_other"] (sp_cr' K C) := by
  refine cal_of dd sc_cr' (fun vs H Q E h => by obtain ⟨_, _, _, _, _, _, _, _, rfl, _⟩ := h; rfl) (fun _ _ _ _ _ _ us hl => match us, hl with | [_, _, _, _], _ => rfl) (fun f cdv A outer s H vs Q E hr h => ?_)
  obtain ⟨B, d, v, u, x, t, fs, gs, rfl, k0, ht, du, dx, hf, hg, k⟩ := h
  obtain ⟨fa, fvs, rfl, fL, fD⟩ := dt_list du
  obtain ⟨ga, gvs, rfl, gL, gD⟩ := dt_list dx
  have hlo := ht.ok.lo
  have hhi := ht.ok.hi
  have hfg : fs.length = gs.length := by omega
  have hz : fs.length < 1000 := by omega
  have hfl := fD.len
  -- several
  refine s_cons (s_set 4 sc_cr'.nd (h := e_lst ?_))
  walk_at "E"
  refine e_call S.lm (hr.mono (by decide)) (h := ?_)
  walk_at "E"
  refine ⟨B, _, _, fs, gs, rfl, k0.k, du, dx, hfg, hz, fun M B1 H1 acc1 g1 b1 m1 e1 da1 => ?_⟩
  walk_at "E"
  refine ⟨by show 3 ≤ sizeLine; decide, fun SV hSV => ?_⟩
  have g2 := g1.learn m1 b1 e1
  have dM : Dt K (upd B1 M (.lst acc1)) (.ref M) (metL fs gs) := dtL (SqL.of upd_same) (da1.mono (Ex.new b1))
  generalize upd B1 M (.lst acc1) = B2 at g2 dM
  have g3 := g2.own (o := .lst [.ref fa, .ref ga, .ref M]) hSV
  have k3 := k0.gr g3
  have hSd : SV ≠ d := fun e => k0.at_.nn (e ▸ g2.free hSV)
  have bSV : B2 SV = none := none_of_ex g2.k hSV
  -- how many more
  refine s_cons (s_for (h := i_rng1 S.mr (h := e_ixL (h := e_lst (a_cons (h := e_call S.dr (hr.mono (by decide)) (h := ?_)))))))
  walk_at "E"
  refine draw_k k3 (by decide) (by decide) fun m H4 m0 m1' g4 d4 => ?_
  walk_at "E"
  refine ⟨by show 2 ≤ sizeLine; decide, fun p hp => e_ty call_int1 S.mint (by decide +kernel) (a_cons (h := e_cmp op_eq (h := e_call S.dr (hr.mono (by decide)) (h := ?_))))⟩
  walk_at "E"
  refine draw_k (d4.own hp) (by decide) (by decide) fun z H5 z0 z1 g5 d5 => ?_
  walk_at "E"
  have np : p ≠ d := (d4.at_.ne hp).symm
  have e5 := g5.h p _ np upd_same
  have g6 : Gr (Md d) B H B2 H5 := ((g3.up.trans g4).own hp).trans g5
  have nSp : SV ≠ p := fun e => by subst e; rw [g4.h SV _ hSd upd_same] at hp; cases hp
  have eSV5 : H5 SV = some (.lst [.ref fa, .ref ga, .ref M]) := g5.h SV _ hSd (by rw [upd_ne nSp]; exact g4.h SV _ hSd upd_same)
  refine ⟨rfl, ?_⟩
  walk_at "E"
  refine .inr ⟨_, rfl, ?_⟩
  obtain ⟨jj, mm, ej, em, mm0, mm1⟩ : ∃ (jj : Nat) (mm : Int), (if decide (V.int z = V.int 0) = true then (1 : Int) else 0) = (jj : Nat) ∧ [V.int m, V.int 37][jj]? = some (.int mm) ∧ 0 ≤ mm ∧ mm ≤ 37 := by
    by_cases hz : V.int z = V.int 0
    · exact ⟨1, 37, by rw [decide_eq_true hz]; rfl, rfl, by decide, by decide⟩
    · exact ⟨0, m, by rw [decide_eq_false hz]; rfl, rfl, m0, by omega⟩
  refine ⟨p, _, _, .int mm, rfl, rfl, SqL.of e5, at_of ej em, mm, rfl, by omega, by omega, ?_⟩
  refine for_it walk_r0 (fun i σ H' => ∃ B' acc fss u14, σ = [some (.ref d), some v, some (.ref fa), some (.ref ga), some (.ref SV), none, none, none, none, none, none, none, none, none, u14] ∧ Gr (Md d) B H B' H' ∧ Dk B' H' d ∧ B' SV = none ∧ H' SV = some (.lst acc) ∧ Das K B' acc (fss : List (List Bd)) ∧ (∀ x ∈ fss, x.length = fs.length) ∧ fss.length = i + 3)
    ⟨B2, _, [fs, gs, metL fs gs], none, rfl, g6, d5, bSV, eSV5, .cons (du.mono g2.b) (.cons (dx.mono g2.b) (.cons dM .nil)), fun x hx => ?_, rfl⟩ (fun _ _ _ _ _ => trivial) ?_ ?_
  · rcases List.mem_cons.mp hx with rfl | hx
    · rfl
    · rcases List.mem_cons.mp hx with rfl | hx
      · exact hfg.symm
      · rw [List.mem_singleton.mp hx, metL_len hfg]
  · rintro i y σ H' H'' hi ⟨B', acc, fss, u14, rfl, g, dk', hb, he, da, hnl, hl⟩ ⟨rfl, rfl⟩
    refine g_name 14 sc_cr'.nd (q := ?_)
    refine s_one (s_expr (h := e_bm PySem.F.plainAttrs_list PySem.F.slot_list_append PySem.F.type_list_append mt_append ?_))
    walk_at "E"
    refine ⟨.inl ⟨rfl, _, SqL.of he⟩, a_cons (h := e_ixL (h := e_lst (a_cons (h := e_ty call_list_of S.mli bn_list ?_))))⟩
    walk_at "E"
    refine ⟨_, _, rfl, .inl (ex_l (g.b.trans g.k) fL), fun l1 hl1 => a_cons (h := e_call S.fi (hr.mono (by decide)) (h := ?_))⟩
    have h1 := (Gr.refl (M := Md d) dk'.k).new (o := .lst fvs) hl1
    have d1 := dk'.new (o := .lst fvs) hl1
    have dl1 : Dt K (upd B' l1 (.lst fvs)) (.ref l1) fs := dtL (SqL.of upd_same) (fD.mono (g.b.trans h1.b))
    generalize upd B' l1 (.lst fvs) = B7 at h1 d1 dl1
    walk_at "E"
    refine ⟨B7, d, v, t, rfl, d1, ht.mono (g.b.trans h1.b), fun F2 B8 H8 acc8 fs8 g8 d8 b8 f8 e8 da8 hf8 => a_cons (h := e_bin op_rep (h := e_lst (a_cons (h := e_tup ?_))))⟩
    have h2 := (h1.trans g8).learn (h1.free f8) b8 e8
    have eb8 : Ex B8 (upd B8 F2 (.lst acc8)) := Ex.new b8
    have dF2 : Dt K (upd B8 F2 (.lst acc8)) (.ref F2) fs8 := dtL (SqL.of upd_same) (da8.mono eb8)
    have dl1' := dl1.mono (g8.b.trans eb8)
    have dk8 := dk'.go h2 d8.at_
    generalize upd B8 F2 (.lst acc8) = B9 at h2 dF2 dl1' dk8
    walk_at "E"
    refine ⟨by show 2 ≤ sizeLine; decide, fun T hT => ?_⟩
    walk_at "E"
    have h3 := h2.new (o := .tup [.non, .non]) hT
    have eb3 : Ex B9 (upd B9 T (.tup [.non, .non])) := Ex.new (none_of_ex h2.k hT)
    have dT : Dt K (upd B9 T (.tup [.non, .non])) (.ref T) ((none, none) : Bd) := dtP (SqT.of upd_same) dtN dtN
    have dk3 := dk8.new (o := .tup [.non, .non]) hT
    generalize upd B9 T (.tup [.non, .non]) = B10 at h3 eb3 dT dk3
    refine ⟨by show 1 ≤ sizeLine; decide, fun L hL => e_blt call_len_seq S.ml PySem.boot_len ?_⟩
    walk_at "E"
    have h4 := h3.own (o := .lst [.ref T]) hL
    have dk4 := dk3.own (o := .lst [.ref T]) hL
    refine ⟨_, _, rfl, .inl (ex_l ((g.b.trans h4.b).trans h4.k) fL), ?_⟩
    rw [hfl]
    refine ⟨L, _, _, rfl, rfl, upd_same, by omega, by omega, by show 1 * _ ≤ sizeLine; rw [Int.toNat_natCast]; exact Nat.le_trans (by omega : 1 * fs.length ≤ 200) (by decide), fun L2 hL2 => ?_⟩
    rw [flat_one, Int.toNat_natCast]
    have h5 := h4.new (o := .lst (List.replicate fs.length (.ref T))) hL2
    have eb5 : Ex B10 (upd B10 L2 (.lst (List.replicate fs.length (.ref T)))) := Ex.new (none_of_ex h4.k hL2)
    have dL2 : Dt K (upd B10 L2 (.lst (List.replicate fs.length (.ref T)))) (.ref L2) (List.replicate fs.length ((none, none) : Bd)) := dtL (SqL.of upd_same) (das_rep (dT.mono eb5) _)
    have dk5 := dk4.new (o := .lst (List.replicate fs.length (.ref T))) hL2
    generalize upd B10 L2 (.lst (List.replicate fs.length (.ref T))) = B11 at h5 eb5 dL2 dk5
    walk_at "E"
    refine ⟨by show 3 ≤ sizeLine; decide, fun p3 hp3 => e_call S.dr (hr.mono (by decide)) (h := ?_)⟩
    walk_at "E"
    refine draw_k (dk5.own hp3) (by decide) (by decide) fun j H12 j0 j1 g12 d12 => ?_
    have np3 : p3 ≠ d := (dk5.at_.ne hp3).symm
    have e12 := g12.h p3 _ np3 upd_same
    have h6 := (h5.own hp3).trans g12
    obtain ⟨jk, xx, ys, ejk, exx, dxx, hyl⟩ : ∃ (jk : Nat) (xx : Addr) (ys : List Bd), j = (jk : Int) ∧ [V.ref l1, V.ref F2, V.ref L2][jk]? = some (.ref xx) ∧ Dt K B11 (.ref xx) ys ∧ ys.length = fs.length := by
      have c3 : j = 0 ∨ j = 1 ∨ j = 2 := by omega
      rcases c3 with e | e | e
      · exact ⟨0, l1, fs, e, rfl, (dl1'.mono eb3).mono eb5, rfl⟩
      · exact ⟨1, F2, fs8, e, rfl, (dF2.mono eb3).mono eb5, by omega⟩
      · exact ⟨2, L2, _, e, rfl, dL2, List.length_replicate⟩
    refine ⟨p3, _, _, .ref xx, rfl, rfl, SqL.of e12, at_of ejk exx, ?_⟩
    walk_at "E"
    have eSV := h6.h SV _ hSd he
    have bSV6 : B11 SV = none := h6.f SV hb (by rw [he]; exact fun z => nomatch z)
    have hS0 : H SV = none := g2.free hSV
    refine ⟨SV, acc, _, rfl, rfl, eSV, Nat.lt_of_le_of_lt (by rw [da.len]; omega : acc.length ≤ 100) (by decide), ?_⟩
    have gN := (g.trans h6).mut (o := .lst (acc ++ [.ref xx])) (.inr hS0) bSV6
    refine ⟨B11, _, fss ++ [ys], _, rfl, gN, ⟨gN.k, d12.b, d12.at_.upd hSd.symm⟩, bSV6, upd_same, (da.mono h6.b).snoc dxx, fun q hq => ?_, by rw [List.length_append, hl]; rfl⟩
    rcases List.mem_append.mp hq with h | h
    · exact hnl q h
    · rw [List.mem_singleton.mp h]; exact hyl
  rintro σ H7 ⟨B7, svs, fss, u14, rfl, g7, d7, b7, e7, da7, hnl, hl⟩
  have g8 := g7.learn (g2.free hSV) b7 e7
  have eb8 : Ex B7 (upd B7 SV (.lst svs)) := Ex.new b7
  have sL : SqL K (upd B7 SV (.lst svs)) SV svs := SqL.of upd_same
  have sD := da7.mono eb8
  generalize upd B7 SV (.lst svs) = B8 at g8 eb8 sL sD
  have dS : Dt K B8 (.ref SV) fss := dtL sL sD
  have hl3 : fss.length ≤ 40 := by omega
  have hne : fss ≠ [] := fun e => by rw [e] at hl; simp at hl
  have hsl := sD.len
  -- given
  refine s_cons (s_setLc 6 [("_law_filters_here", 5)] sc_cr'.nd (ok := blkOk_by (N := N_cr) (sc := defScope s_clr) (by decide +kernel)) (h := i_list ?_))
  walk_at "E"
  refine ⟨_, rfl, ⟨_, ex_l g8.k sL⟩, fun G hG => ?_⟩
  refine lcL (K := K) someF sL sD g8.k hG (Nat.lt_of_le_of_lt hl3 (by decide)) ?_ ?_
  · intro j y x B' H' hy dy g KT KF kt kf s0 H0 C0 cl fp
    obtain ⟨ya, yvs, rfl, yL, yD⟩ := dt_list dy
    refine g_name 5 sc_cr'.nd (q := ⟨rfl, ?_⟩)
    intro s0 H0 C0 cl fp
    refine ts_nil (ift rfl ?_)
    intro s0 H0 C0 cl fp
    refine e_ty call_list_of S.mli bn_list ?_
    walk_at "E"
    exact ⟨_, _, rfl, .inl (ex_l g.k yL), fun l hl => kt y _ _ _ rfl ((Gr.refl g.k).new hl) (dtL (SqL.of upd_same) (yD.mono (Ex.new (none_of_ex g.k hl))))⟩
  intro B9 H9 gvs9 g9 b9 e9 da9
  rw [some_id] at da9
  have g10 := (Gr.refl (M := M0) g8.k).trans g9 |>.learn hG b9 e9
  have eb10 : Ex B9 (upd B9 G (.lst gvs9)) := Ex.new b9
  have gL9 : SqL K (upd B9 G (.lst gvs9)) G gvs9 := SqL.of upd_same
  have gD9 := da9.mono eb10
  generalize upd B9 G (.lst gvs9) = B10 at g10 eb10 gL9 gD9
  have dG : Dt K B10 (.ref G) fss := dtL gL9 gD9
  have dS10 := dS.mono g10.b
  -- due
  refine s_cons (s_set 7 sc_cr'.nd (h := e_call S.lc (hr.mono (by decide)) (h := ?_)))
  walk_at "E"
  refine ⟨B10, _, fss, fs.length, rfl, g10.k, dS10, hnl, hz, by omega, hne, fun r hr0 dv B11 H11 g11 dr => ?_⟩
  refine s_cons (s_if (t_wb (b_or (t_cmp (op_neD hr.units) (h := e_call S.cl (hr.mono (by decide)) (h := ?_))))))
  walk_at "E"
  refine ⟨B11, _, fss, fs.length, rfl, g11.k, dG.mono g11.b, hnl, hz, by omega, fun r2 hr2 dv2 B12 H12 g12 dr2 => ?_⟩
  walk_at "E"
  refine ne_dat (x := r2) (y := r) (B := B12) dr2 (dr.mono g12.b) g12.k (by decide) ⟨_, rfl, ifn (fun z => absurd (clash_uniq hr2 hr0) z) fun _ => b_or (t_cmp (op_neD hr.units) (h := ?_))⟩
  walk_at "E"
  have g1112 := g11.trans g12
  refine ne_dat (B := B12) (dG.mono g1112.b) (dS10.mono g1112.b) g12.k (by decide) ⟨_, rfl, ifn (fun z => absurd rfl z) fun _ => b_or1 (t_cmp (op_neD hr.units) (h := e_callK S.clK (hr.mono (by decide)) (h := k_cons (e_slice (h := ?_)))))⟩
  walk_at "E"
  refine o_none (o_some ?_)
  walk_at "E"
  refine ⟨1, rfl, G, gvs9, rfl, ex_l (g1112.b.trans g1112.k) gL9, fun p hp => ?_⟩
  rw [cut1]
  walk_at "E"
  have g13 := g1112.new (o := .lst (gvs9.take 1)) hp
  have dp : Dt K (upd B12 p (.lst (gvs9.take 1))) (.ref p) (fss.take 1) := dtL (SqL.of upd_same) ((das_take 1 gD9).mono g13.b)
  have eb13 : Ex B12 (upd B12 p (.lst (gvs9.take 1))) := Ex.new (none_of_ex g1112.k hp)
  generalize upd B12 p (.lst (gvs9.take 1)) = B13 at g13 dp eb13
  have hnt : ∀ x ∈ fss.take 1, x.length = fs.length := fun x hx => hnl x (List.mem_of_mem_take hx)
  have hlt : (fss.take 1).length < 1000 := by rw [List.length_take]; omega
  refine ⟨rfl, rfl, B13, _, fss.take 1, fs.length, rfl, g13.k, dp, hnt, hz, hlt, fun r3 hr3 dv3 B14 H14 g14 dr3 => ?_⟩
  refine e_call S.lc (hr.mono (by decide)) (h := a_cons (h := e_slice (h := ?_)))
  walk_at "E"
  refine o_none (o_some ?_)
  walk_at "E"
  have g1314 := g13.trans g14
  refine ⟨1, rfl, SV, svs, rfl, ex_l (((g10.b.trans g1314.b)).trans g1314.k) sL, fun p4 hp4 => ?_⟩
  rw [cut1]
  walk_at "E"
  have g15 := g1314.new (o := .lst (svs.take 1)) hp4
  have dp4 : Dt K (upd B14 p4 (.lst (svs.take 1))) (.ref p4) (fss.take 1) := dtL (SqL.of upd_same) ((das_take 1 sD).mono (g10.b.trans g15.b))
  have eb15 : Ex B14 (upd B14 p4 (.lst (svs.take 1))) := Ex.new (none_of_ex g1314.k hp4)
  generalize upd B14 p4 (.lst (svs.take 1)) = B15 at g15 dp4 eb15
  have hnt4 : fss.take 1 ≠ [] := fun e => by have := congrArg List.length e; rw [List.length_take, List.length_nil] at this; omega
  refine ⟨B15, _, fss.take 1, fs.length, rfl, g15.k, dp4, hnt, hz, hlt, hnt4, fun r5 hr5 dv5 B16 H16 g16 dr5 => ?_⟩
  refine ne_dat (x := r3) (y := r5) (B := B16) (dr3.mono (eb15.trans g16.b)) dr5 g16.k (by decide) ⟨_, rfl, ifn (fun z => absurd (clash_uniq hr3 hr5) z) fun _ => s_nil ?_⟩
  have gZ := g15.trans g16
  have eZ : Ex B B16 := (g8.b.trans g10.b).trans gZ.b
  refine cr2 S (hr.mono (by decide)) (f := f) (fs := fs) (fss := fss) (n := fs.length) (r := r) gZ.k (du.mono eZ) (dS10.mono gZ.b) hnl rfl (by omega) (by omega) hne (by omega) hr0 (dr.mono (((g12.b.trans eb13).trans g14.b).trans (eb15.trans g16.b))) fun H' gE => ?_
  exact k _ _ ((g8.trans ((g10.trans gZ).trans gE).up))
end
end K15
namespace K15
open PySem L2 Evl Lw
section
variable {P : Program} {w : World} {K : PySem.W.Frag} {mg : Str → Option Value} {base : Heap}

variable {C : Addr}
/-! the whole -/
abbrev N_rt : List Str := ["_law_deck_here", "_law_table_here", "_law_one", "_law_other"]
theorem sc_rt : FnScope N_rt ["_law_deck_here"] (defScope s_right) := ⟨rfl, rfl, rfl, by decide +kernel, rfl, by decide +kernel, by decide +kernel⟩
structure RT (P : Program) (w : World) (K : PySem.W.Frag) (mg : Str → Option Value) (base : Heap) (C : Addr) : Prop where
  dr : Cal P w K mg base "_law_draw" 1 ["_law_deck_here", "_law_many"] sp_draw
  tb : Cal P w K mg base "_law_table" 4 ["_law_deck_here", "_law_most", "_law_width"] (sp_tb K C)
  fi : Cal P w K mg base "_law_filters" 3 ["_law_deck_here", "_law_table_here"] (sp_fi K C)
  lm : Cal P w K mg base "_law_met" 2 ["_law_one", "_law_other"] (sp_met K)
  dd : Cal P w K mg base "_law_deeds_right" 4 ["_law_deck_here", "_law_table_here", "_law_filters_here"] (sp_dr K C)
  pr : Cal P w K mg base "_law_pair_right" 4 ["_law_table_here", "_law_one", "_law_other"] (sp_pr K C)
  cr : Cal P w K mg base "_law_clash_right" 5 ["_law_deck_here", "_law_table_here", "_law_one", "_law_other"] (sp_cr' K C)
  wo : Cal P w K mg base "with_only" 2 ["filters", "deeds"] (sp_wo K)
  met : Cal P w K mg base "met" 2 ["one", "other"] (sp_met K)
def sp_ri : Sp := fun vs H Q _ => ∃ (B : Hp) (d : Addr), vs = [.ref d] ∧ Dk B H d ∧ ∀ B' H', Gr (Md d) B H B' H' → Q (.bl true) H'
theorem c_ri (dd : Fn K mg "_law_right" s_right) (S : RT P w K mg base C) : Cal P w K mg base "_law_right" 7 ["_law_deck_here"] sp_ri := by
  refine cal_of dd sc_rt (fun vs H Q E h => by obtain ⟨_, _, rfl, _⟩ := h; rfl) (fun _ _ _ _ _ _ us hl => match us, hl with | [_], _ => rfl) (fun f cdv A outer s H vs Q E hr h => ?_)
  obtain ⟨B, d, rfl, k0, q⟩ := h
  -- the table
  refine s_cons (s_set 1 sc_rt.nd (h := e_call S.tb (hr.mono (by decide)) (h := ?_)))
  walk_at "E"
  refine ⟨B, d, 8, 5, rfl, k0, by decide, by decide, by decide, by decide, fun v t B2 H2 g2 d2 ht _ => ?_⟩
  -- two lists of filters
  refine s_cons (s_par 2 3 sc_rt.nd (h := a_cons (h := e_call S.fi (hr.mono (by decide)) (h := ?_))))
  walk_at "E"
  refine ⟨B2, d, v, t, rfl, d2, ht, fun F B3 H3 fvs fs g3 d3 b3 f3 e3 da3 hfs => ?_⟩
  have gC := (g2.trans g3).learn (g2.free f3) b3 e3
  have eb3 : Ex B3 (upd B3 F (.lst fvs)) := Ex.new b3
  have dF : Dt K (upd B3 F (.lst fvs)) (.ref F) fs := dtL (SqL.of upd_same) (da3.mono eb3)
  have hT3 : TAt K C (upd B3 F (.lst fvs)) v t := ht.mono (g3.b.trans eb3)
  have dC := k0.go gC d3.at_
  generalize upd B3 F (.lst fvs) = B4 at gC dF hT3 dC
  refine a_cons (h := e_call S.fi (hr.mono (by decide)) (h := ?_))
  walk_at "E"
  refine ⟨B4, d, v, t, rfl, dC, hT3, fun G B5 H5 gvs gs g5 d5 b5 f5 e5 da5 hgs => ?_⟩
  have gD := (gC.trans g5).learn (gC.free f5) b5 e5
  have eb5 : Ex B5 (upd B5 G (.lst gvs)) := Ex.new b5
  have dG : Dt K (upd B5 G (.lst gvs)) (.ref G) gs := dtL (SqL.of upd_same) (da5.mono eb5)
  have hT5 := hT3.mono (g5.b.trans eb5)
  have dF5 := dF.mono (g5.b.trans eb5)
  have dk5 := k0.go gD d5.at_
  generalize upd B5 G (.lst gvs) = B6 at gD dG hT5 dF5 dk5
  walk_at "E"
  refine ⟨_, _, rfl, ?_⟩
  -- perhaps met
  refine s_cons (s_join (fun σ H' => ∃ B' X hs, σ = [some (.ref d), some v, some (.ref F), some (.ref X)] ∧ Gr (Md d) B H B' H' ∧ Dk B' H' d ∧ TAt K C B' v t ∧ Dt K B' (.ref F) fs ∧ Dt K B' (.ref X) (hs : List Bd) ∧ (hs.length : Int) = t.wd) ?_ ?_)
  · refine s_if (t_cmp op_eq (h := e_call S.dr (hr.mono (by decide)) (h := ?_)))
    walk_at "E"
    refine draw_k dk5 (by decide) (by decide) fun z H7 z0 z1 g7 d7 => ?_
    walk_at "E"
    refine ⟨rfl, _, rfl, ifd (fun _ => ?_) fun _ => s_nil ⟨B6, G, gs, rfl, gD.trans g7, d7, hT5, dF5, dG, hgs⟩⟩
    refine s_one (s_set 3 sc_rt.nd (h := e_call S.lm (hr.mono (by decide)) (h := ?_)))
    walk_at "E"
    have hlo := ht.ok.hi
    refine ⟨B6, _, _, fs, gs, rfl, d7.k, dF5, dG, by omega, by omega, fun M B8 H8 acc8 g8 b8 m8 e8 da8 => ?_⟩
    have g9 := (g7.trans g8.up).learn (g7.free m8) b8 e8
    have eb8 : Ex B8 (upd B8 M (.lst acc8)) := Ex.new b8
    exact ⟨_, M, metL fs gs, rfl, gD.trans g9, k0.go (gD.trans g9) (d7.at_.gr g8), hT5.mono g9.b, dF5.mono g9.b, dtL (SqL.of upd_same) (da8.mono eb8), by rw [metL_len (by omega)]; exact hfs⟩
  rintro σ H7 ⟨B7, X, hs, rfl, g7, d7, hT7, dF7, dX, hhs⟩
  -- all three
  refine s_cons (s_if (t_wb (b_or (t_not (t_val (e_call S.dd (hr.mono (by decide)) (h := ?_)))))))
  walk_at "E"
  refine ⟨B7, d, _, _, t, fs, rfl, d7, hT7, dF7, hfs, fun B8 H8 g8 d8 => ⟨_, rfl, iff_ rfl (b_or1 (t_not (t_val (e_call S.pr (hr.mono (by decide)) (h := ?_)))))⟩⟩
  walk_at "E"
  refine ⟨B8, _, _, _, t, fs, hs, rfl, d8.k, hT7.mono g8.b, dF7.mono g8.b, dX.mono g8.b, hfs, hhs, fun B9 H9 g9 => ⟨_, rfl, iff_ rfl (s_nil ?_)⟩⟩
  have g79 := g8.b.trans g9.b
  have d9 := d8.gr g9
  refine s_one (s_ret (e_and (e_call S.cr (hr.mono (by decide)) (h := ?_))))
  walk_at "E"
  refine ⟨B9, d, _, _, _, t, fs, hs, rfl, d9, hT7.mono g79, dF7.mono g79, dX.mono g79, hfs, hhs, fun B10 H10 g10 => ⟨_, rfl, ift rfl (e_and (e_cmp (op_eqD hr.units) (h := e_call S.wo (hr.mono (by decide)) (h := ?_))))⟩⟩
  have gA := ((g7.trans g8).trans g9.up).trans g10
  walk_at "E"
  refine ⟨Nat.zero_le _, fun p1 hp1 => ?_⟩
  walk_at "E"
  refine ⟨Nat.zero_le _, fun p2 hp2 => ?_⟩
  walk_at "E"
  have gB := gA.new (o := .lst []) hp1
  have gB2 := gB.new (o := .lst []) hp2
  have x1 : Ex (upd B10 p1 (.lst [])) (upd (upd B10 p1 (.lst [])) p2 (.lst [])) := Ex.new (none_of_ex gB.k hp2)
  refine ⟨_, _, _, [], [], rfl, gB2.k, dtL (SqL.of (x1 _ _ upd_same)) Das.nil, dtL (SqL.of upd_same) Das.nil, fun d hd => (by cases hd), fun R B11 H11 acc11 g11 b11 r11 e11 da11 => ?_⟩
  walk_at "E"
  refine ⟨Nat.zero_le _, fun p3 hp3 => ?_⟩
  have gE := (gB2.trans g11.up).own (o := .lst []) hp3
  refine eq_dat (x := ([] : List Bd)) (y := []) (B := upd H11 p3 (.lst [])) (dtL (SqL.of (by rw [upd_ne (ne_of_none e11 hp3)]; exact e11)) (da11.mono gE.k)) (dtL (SqL.of upd_same) Das.nil) (Ex.refl _) (by decide) ⟨_, rfl, ift (decide_eq_true rfl) (e_one (e_cmp (op_eqD hr.units) (h := e_call S.met (hr.mono (by decide)) (h := ?_))))⟩
  walk_at "E"
  refine ⟨Nat.zero_le _, fun p4 hp4 => ?_⟩
  walk_at "E"
  refine ⟨Nat.zero_le _, fun p5 hp5 => ?_⟩
  walk_at "E"
  have gF := gE.new (o := .lst []) hp4
  have gF2 := gF.new (o := .lst []) hp5
  have x2 : Ex (upd B11 p4 (.lst [])) (upd (upd B11 p4 (.lst [])) p5 (.lst [])) := Ex.new (none_of_ex gF.k hp5)
  refine ⟨_, _, _, [], [], rfl, gF2.k, dtL (SqL.of (x2 _ _ upd_same)) Das.nil, dtL (SqL.of upd_same) Das.nil, rfl, by decide, fun R2 B12 H12 acc12 g12 b12 r12 e12 da12 => ?_⟩
  walk_at "E"
  refine ⟨Nat.zero_le _, fun p6 hp6 => ?_⟩
  have gG := (gF2.trans g12.up).own (o := .lst []) hp6
  refine eq_dat (x := ([] : List Bd)) (y := []) (B := upd H12 p6 (.lst [])) (dtL (SqL.of (by rw [upd_ne (ne_of_none e12 hp6)]; exact e12)) (da12.mono gG.k)) (dtL (SqL.of upd_same) Das.nil) (Ex.refl _) (by decide) ?_
  rw [decide_eq_true rfl]
  exact q _ _ gG
/-! law -/
theorem sc_law : FnScope ["_law_script", "_law_k"] ["_law_script"] (defScope s_law) := ⟨rfl, rfl, rfl, by decide +kernel, rfl, by decide +kernel, by decide +kernel⟩
def sp_law (K : PySem.W.Frag) : Sp := fun vs H Q _ => ∃ (a : Addr) (ns : List Int), vs = [.ref a] ∧ SqL K H a (ns.map V.int) ∧ ns.length ≤ 63 ∧ ∀ H', Q (.bl true) H'
theorem ok_law {f : Addr} {fd : FuncData} (F : Fun K "law" "law" s_law f fd) (mr : mg "range" = none) (ml : mg "len" = none) (mmin : mg "min" = none) (mmax : mg "max" = none)
    (e1 : Cal P w K mg base "_law_deck" 1 ["_law_script", "_law_at"] (sp_deck K)) (e2 : Cal P w K mg base "_law_right" 7 ["_law_deck_here"] sp_ri) : FnOk P w K mg base CX0 8 f fd ["_law_script"] (sp_law K) := by
  refine body_ok F sc_law (fun vs H Q E h => by obtain ⟨_, _, rfl, _⟩ := h; rfl) (fun f cdv A outer s H vs Q E hr h => ?_)
  obtain ⟨a, ns, rfl, hL, hn, q⟩ := h
  refine s_cons (s_for (h := i_rng1 mr (h := e_blt (call_max2 rfl) mmax (by decide +kernel) (a_cons (h := e_int (a_cons (h := e_blt (call_min2 rfl) mmin (by decide +kernel) (a_cons (h := e_int (a_cons (h := e_blt call_len_seq ml PySem.boot_len ?_)))))))))))
  walk_at "E"
  refine ⟨_, _, rfl, .inl hL, ?_⟩
  walk_at "E"
  rw [List.length_map]
  refine ⟨_, _, rfl, ?_⟩
  walk_at "E"
  refine ⟨_, _, rfl, ?_⟩
  generalize hm : (if (if ((ns.length : Nat) : Int) < 2 then ((ns.length : Nat) : Int) else 2) > 1 then (if ((ns.length : Nat) : Int) < 2 then ((ns.length : Nat) : Int) else 2) else 1) = m
  have hm2 : 0 ≤ m ∧ m ≤ 2 := by rw [← hm]; split <;> split <;> omega
  refine ⟨m, rfl, by omega, by omega, ?_⟩
  refine for_it walk_r0 (fun i σ H' => (∃ u, σ = [some (.ref a), u]) ∧ Ex H H') ⟨⟨none, rfl⟩, Ex.refl H⟩ (fun _ _ _ _ _ => trivial) ?_ ?_
  · rintro i x σ H' H'' hi ⟨⟨u, rfl⟩, ex⟩ ⟨rfl, rfl⟩
    refine g_name 1 sc_law.nd (q := ?_)
    refine s_one (s_if (t_not (t_val (e_call e2 hr (h := a_cons (h := e_call e1 (hr.mono (by decide)) (h := ?_)))))))
    walk_at "E"
    refine ⟨a, ns, i, rfl, ex_l ex hL, by omega, fun p x y z hp => ?_⟩
    walk_at "E"
    refine ⟨H'', p, rfl, ⟨Ex.new hp, hp, x, y, z, upd_same⟩, fun B2 H2 g2 => ⟨_, rfl, iff_ rfl (s_nil ⟨⟨_, rfl⟩, ex.trans (g2.b.trans g2.k)⟩)⟩⟩
  · rintro σ H' ⟨⟨u, rfl⟩, ex⟩
    exact s_one (s_ret (e_bl (q H')))
theorem fn_mk {x : Str} {st : Stmt} {f : Addr} {h : Heap} {oc : Value} {od an : Option Addr} {osl : Array (Option Value)} {kV doc pm cdv ct : Value} (X : K.In h) (G : h.Ns mainGlobals mg) (a : PySem.W.nsIn K mainGlobals x = some (some (.ref f)))
    (l : K.lookup f = some ⟨oc, od, .func (PySem.W.fnOf x x (defArgs st) (defBody st) (defScope st) .none kV doc pm an cdv ct), osl⟩) (c : PySem.W.codeIn K cdv x = true) (k : PySem.W.keepIn K (.ref f) = true) : Fn K mg x st := ⟨f, _, fun_mk l c k, PySem.W.mg_of X G a⟩
structure Facts (K : PySem.W.Frag) (mg : Str → Option Value) (C : Addr) : Prop where
  cw : Fn K mg "check_width" s_cw
  cc : Fn K mg "check_column" s_cc
  cz : Fn K mg "check_columns_from_zero" s_cz
  cf : Fn K mg "check_filters" s_cf
  lr : Fn K mg "let_rows" s_lr
  bc : Fn K mg "_barring_columns" s_bc
  le : Fn K mg "_lets" s_lets
  wo : Fn K mg "with_only" s_wo
  lo : Fn K mg "last_only" s_lo
  met : Fn K mg "met" s_met
  bth : Fn K mg "_both" s_both
  ln : Fn K mg "_lets_none" s_ln
  wi : Fn K mg "within" s_wi
  cl : Fn K mg "clash" s_cl
  de : Fn K mg "_law_deck" s_deck
  dr : Fn K mg "_law_draw" s_draw
  ce : Fn K mg "_law_cells" s_cells
  tb : Fn K mg "_law_table" s_table
  bo : Fn K mg "_law_bound" s_bound
  fi : Fn K mg "_law_filters" s_filters
  ll : Fn K mg "_law_lets" s_llets
  sh : Fn K mg "_law_shown" s_shown
  sy : Fn K mg "_law_says" s_says
  ds : Fn K mg "_law_deeds" s_deeds
  gt : Fn K mg "_law_greater" s_great
  lm : Fn K mg "_law_met" s_lmet
  su : Fn K mg "_law_shut" s_shut
  lw : Fn K mg "_law_within" s_lwi
  lc : Fn K mg "_law_clash" s_lcl
  dd : Fn K mg "_law_deeds_right" s_dr
  pr : Fn K mg "_law_pair_right" s_pr
  cq : Fn K mg "_law_clash_right" s_clr
  ri : Fn K mg "_law_right" s_right
  T : TC K mg C
  init : FnI K C "Table.__init__" s_init
  wd : FnP K C "width" "Table.width" s_width
  rows : FnP K C "rows" "Table.rows" s_rows
  col : FnM K C "column" "Table.column" s_col
  me : mg "enumerate" = none
  mr : mg "range" = none
  ml : mg "len" = none
  mli : mg "list" = none
  mi : mg "isinstance" = none
  mb : mg "bool" = none
  mmin : mg "min" = none
  mmax : mg "max" = none
  mabs : mg "abs" = none
  mint : mg "int" = none
  mz : mg "zip" = none
  many : mg "any" = none
  ms : mg "sorted" = none
theorem all_ok (W : Facts K mg C) {f : Addr} {fd : FuncData} (F : Fun K "law" "law" s_law f fd) : FnOk P w K mg base CX0 8 f fd ["_law_script"] (sp_law K) := by
  have cw : Cal P w K mg base "check_width" 1 ["width"] sp_cw := c_cw W.cw
  have cc : Cal P w K mg base "check_column" 1 ["width", "column"] sp_cr := c_cc W.cc
  have cz : Cal P w K mg base "check_columns_from_zero" 1 ["columns"] (sp_cz K) := c_cz W.cz
  have cf : Cal P w K mg base "check_filters" 1 ["width", "filters"] (sp_cf K) := c_cf W.cf W.ml
  have le : Cal P w K mg base "_lets" 1 ["bounds", "cell"] (sp_lets K) := c_lets W.le
  have bc : Cal P w K mg base "_barring_columns" 2 ["filters", "cells"] (sp_bc K) := c_bc W.bc W.me le
  have ini : CalI P w K mg base C "Table" 2 ["self", "width", "rows"] (sp_in K C) := c_in W.init W.T W.me W.ml W.mli cw
  have p1 : CalP P w K mg base C "width" 1 (sp_w K C) := c_w W.wd W.T
  have p2 : CalP P w K mg base C "rows" 1 (sp_rows K C) := c_rows W.rows W.T W.mli
  have col : CalM P w K mg base C "column" 2 ["self", "column"] (sp_col K C) := c_col W.col W.T cc
  have lrF : ∀ f fd, Fun K "let_rows" "let_rows" s_lr f fd → FnOk P w K mg base CX0 3 f fd ["table", "filters"] (sp_lr K C) := fun f fd F => ok_lr F W.me cf bc p1 p2
  have lr : Cal P w K mg base "let_rows" 3 ["table", "filters"] (sp_lr K C) := cal_fn W.lr lrF fun _ _ _ _ _ _ us hl => match us, hl with | [_, _], _ => rfl
  have bth : Cal P w K mg base "_both" 1 ["one", "other"] (sp_bo K) := c_bo W.bth W.mmax W.mmin
  have ln : Cal P w K mg base "_lets_none" 1 ["bounds"] (sp_ln K) := c_ln W.ln
  have woF : ∀ f fd, Fun K "with_only" "with_only" s_wo f fd → FnOk P w K mg base CX0 2 f fd ["filters", "deeds"] (sp_wo K) := fun f fd F => ok_wo F W.ml W.mli cc
  have wo : Cal P w K mg base "with_only" 2 ["filters", "deeds"] (sp_wo K) := cal_fn W.wo woF fun _ _ _ _ _ _ us hl => match us, hl with | [_, _], _ => rfl
  have loF : ∀ f fd, Fun K "last_only" "last_only" s_lo f fd → FnOk P w K mg base CX0 2 f fd ["deeds"] (sp_lo K) := fun f fd F => ok_lo F W.ms cz
  have metF : ∀ f fd, Fun K "met" "met" s_met f fd → FnOk P w K mg base CX0 2 f fd ["one", "other"] (sp_met K) := fun f fd F => ok_met F W.ml W.mz cf bth
  have met : Cal P w K mg base "met" 2 ["one", "other"] (sp_met K) := cal_fn W.met metF fun _ _ _ _ _ _ us hl => match us, hl with | [_, _], _ => rfl
  have wiF : ∀ f fd, Fun K "within" "within" s_wi f fd → FnOk P w K mg base CX0 3 f fd ["one", "other"] (sp_wi K) := fun f fd F => ok_wi F W.ml W.many cf ln met
  have clF : ∀ f fd, Fun K "clash" "clash" s_cl f fd → FnOk P w K mg base CX0 2 f fd ["several"] (sp_cl K) := fun f fd F => ok_cl F W.ml W.mr cf ln bth
  have dr : Cal P w K mg base "_law_draw" 1 ["_law_deck_here", "_law_many"] sp_draw := c_draw W.dr W.mint
  have ce : Cal P w K mg base "_law_cells" 2 ["_law_deck_here", "_law_kind"] sp_cells := c_cells W.ce dr
  have ll : Cal P w K mg base "_law_lets" 1 ["_law_filters_here", "_law_cells_here"] (sp_ll K) := c_ll W.ll W.mr W.ml
  have bo : Cal P w K mg base "_law_bound" 2 ["_law_deck_here", "_law_cells_here"] (sp_bound K) := c_bound W.bo W.ml dr
  have tb : Cal P w K mg base "_law_table" 4 ["_law_deck_here", "_law_most", "_law_width"] (sp_tb K C) := c_tb W.tb W.mr W.mli W.ml dr ce ini
  have fi : Cal P w K mg base "_law_filters" 3 ["_law_deck_here", "_law_table_here"] (sp_fi K C) := c_fi W.fi W.mr dr bo p1 col
  have sh : Cal P w K mg base "_law_shown" 3 ["_law_table_here", "_law_filters_here"] (sp_sh K C) := c_sh W.sh W.mr W.ml ll p2
  have gt : Cal P w K mg base "_law_greater" 1 ["_law_one", "_law_other", "_law_sign"] sp_gt := c_gt W.gt W.mmax
  have lm : Cal P w K mg base "_law_met" 2 ["_law_one", "_law_other"] (sp_met K) := c_lm W.lm W.ml W.mr gt
  have su : Cal P w K mg base "_law_shut" 1 ["_law_bounds"] (sp_ln K) := c_su W.su
  have dd : Cal P w K mg base "_law_deeds_right" 4 ["_law_deck_here", "_law_table_here", "_law_filters_here"] (sp_dr K C) := c_dr W.dd
    { mr := W.mr, ml := W.ml, mli := W.mli, ms := W.ms, de := c_de W.ds W.mr W.mint dr bo p1 col, wo := wo
      woK := calK_fn perm2 W.wo woF vals_perm2 fun _ _ _ _ _ _ ws hl => match ws, hl with | [_, _], _ => rfl
      lo := cal_fn W.lo loF fun _ _ _ _ _ _ us hl => match us, hl with | [_], _ => rfl
      loK := calK_fn (fun l => l) W.lo loF (fun r => r) fun _ _ _ _ _ _ ws hl => match ws, hl with | [_], _ => rfl }
  have pr : Cal P w K mg base "_law_pair_right" 4 ["_law_table_here", "_law_one", "_law_other"] (sp_pr K C) := c_pr W.pr
    { mli := W.mli, met := met
      metK := calK_fn perm2 W.met metF vals_perm2 fun _ _ _ _ _ _ ws hl => match ws, hl with | [_, _], _ => rfl
      wi := cal_fn W.wi wiF fun _ _ _ _ _ _ us hl => match us, hl with | [_, _], _ => rfl
      wiK := calK_fn perm2 W.wi wiF vals_perm2 fun _ _ _ _ _ _ ws hl => match ws, hl with | [_, _], _ => rfl
      lm := lm, lw := c_lw W.lw su lm, sy := c_sy W.sy W.mi W.mb, lr := lr, sh := sh }
  have cq : Cal P w K mg base "_law_clash_right" 5 ["_law_deck_here", "_law_table_here", "_law_one", "_law_other"] (sp_cr' K C) := c_clr W.cq
    { mr := W.mr, ml := W.ml, mli := W.mli, mint := W.mint, mmax := W.mmax, mmin := W.mmin, mabs := W.mabs, dr := dr, fi := fi, lm := lm, lc := c_lc W.lc W.ml W.mr su lm
      cl := cal_fn W.cl clF fun _ _ _ _ _ _ us hl => match us, hl with | [_], _ => rfl
      clK := calK_fn (fun l => l) W.cl clF (fun r => r) fun _ _ _ _ _ _ ws hl => match ws, hl with | [_], _ => rfl
      lr := lr, mkT := ini }
  exact ok_law F W.mr W.ml W.mmin W.mmax (c_deck W.de W.ml W.mmax W.mabs W.mint) (c_ri W.ri { dr := dr, tb := tb, fi := fi, lm := lm, dd := dd, pr := pr, cr := cq, wo := wo, met := met })
end
end K15
namespace K15
open PySem L2 Evl Lw
section
variable {K : PySem.W.Frag} {mg : Str → Option Value} {C : Addr}
theorem fnM_mk {m q : Str} {st : Stmt} {f : Addr} {oc : Value} {od an : Option Addr} {osl : Array (Option Value)} {kV doc pm cdv ct : Value} (a : PySem.W.findIn K (.ref C) m = some (some (.ref f))) (i : PySem.W.isFn K (.ref f) = true)
    (l : K.lookup f = some ⟨oc, od, .func (PySem.W.fnOf m q (defArgs st) (defBody st) (defScope st) .none kV doc pm an cdv ct), osl⟩) (c : PySem.W.codeIn K cdv q = true) (k : PySem.W.keepIn K (.ref f) = true) : FnM K C m q st := ⟨f, _, fun_mk l c k, ⟨a, i, k⟩⟩
theorem fnS_mk {m q : Str} {st : Stmt} {f : Addr} {oc : Value} {od an : Option Addr} {osl : Array (Option Value)} {kV doc pm cdv ct : Value} (a : PySem.W.findIn K (.ref C) m = some (some (.ref f))) (i : PySem.W.isFn K (.ref f) = true)
    (l : K.lookup f = some ⟨oc, od, .func (PySem.W.fnOf m q (defArgs st) (defBody st) (defScope st) .none kV doc pm an cdv ct), osl⟩) (c : PySem.W.codeIn K cdv q = true) (k : PySem.W.keepIn K (.ref f) = true) :
    ∃ f fd, Fun K m q st f fd ∧ PySem.W.findIn K (.ref C) m = some (some (.ref f)) ∧ PySem.W.isFn K (.ref f) = true := ⟨f, _, fun_mk l c k, a, i⟩
theorem fnI_mk {q : Str} {st : Stmt} {f : Addr} {oc : Value} {od an : Option Addr} {osl : Array (Option Value)} {kV doc pm cdv ct : Value} (a : PySem.W.findIn K (.ref C) "__init__" = some (some (.ref f))) (i : PySem.W.isFn K (.ref f) = true)
    (l : K.lookup f = some ⟨oc, od, .func (PySem.W.fnOf "__init__" q (defArgs st) (defBody st) (defScope st) .none kV doc pm an cdv ct), osl⟩) (c : PySem.W.codeIn K cdv q = true) (k : PySem.W.keepIn K (.ref f) = true) (m : PySem.W.makesIn K C = true) (kc : PySem.W.keepIn K (.ref C) = true) : FnI K C q st :=
  ⟨f, _, fun_mk l c k, ⟨m, a, i, kc⟩⟩
theorem fnP_mk {m q : Str} {st : Stmt} {p f : Addr} {rest : List Value} {oc : Value} {od an : Option Addr} {osl : Array (Option Value)} {kV doc pm cdv ct : Value} (a : PySem.W.findIn K (.ref C) m = some (some (.ref p))) (g : PySem.W.specialIn K (.ref p) "__get__" = some (some (.builtin "property.__get__"))) (t : PySem.W.takesIn K (.ref p) = some true)
    (r : PySem.W.recIn K p "property" = some (.ref f :: rest)) (l : K.lookup f = some ⟨oc, od, .func (PySem.W.fnOf m q (defArgs st) (defBody st) (defScope st) .none kV doc pm an cdv ct), osl⟩) (c : PySem.W.codeIn K cdv q = true) (k : PySem.W.keepIn K (.ref f) = true) : FnP K C m q st :=
  ⟨p, f, _, fun_mk l c k, ⟨a, g, t, rest, r⟩⟩
theorem cls_mk (pg : PySem.W.plainGet K C Str.empty = true) (hd : PySem.W.hasDictIn K C = true) (po : PySem.W.plainOver K C = true) (sa : PySem.W.findIn K (.ref C) "__setattr__" = some (some (.builtin "object.__setattr__"))) : Cls K C := ⟨pg, hd, po, sa⟩
end
theorem walk {l : PySem.W.OpenLaw} {q : Program} {loose : List Str} {XP : (Str → Option Value) → Heap → Prop} {YP : World → Heap → Prop} {d : DefRec} {K : Params → PySem.W.Frag} (hn : l.most = some 63) (hdf : d.params.defaults = [])
    (hY : ∀ (w : World) (h : Heap), YP w h → (K w.params).In h)
    (F : ∀ (w : World) (mg : Str → Option Value) (fa : Addr) (h : Heap), (K w.params).In h → h.Ns mainGlobals mg → mg d.name = some (.ref fa) → ∃ fd, Fun (K w.params) "law" "law" s_law fa fd ∧ ∃ C, Facts (K w.params) mg C) :
    PySem.W.WalkO q loose XP YP l.row.toRowW d [] (fun f vs => PySem.call f vs) :=
  L2.walk_of (n := 63) (k := 8) (x := "_law_script") (CX := fun _ => CX0) (sp := fun w => sp_law (K w.params)) hn (by decide) hdf ⟨rfl, by decide, by decide⟩ hY
    (fun w mg fa h KX G hmg => by
      obtain ⟨fd, Fl, C, W⟩ := F w mg fa h KX G hmg
      refine ⟨fd, fun s v => ?_, fun base _ _ => all_ok W Fl⟩
      obtain ⟨oc, od, kV, doc, pm, an, cdv, ct, osl, rfl, lk, hcd⟩ := Fl.ex
      exact .of_eq rfl)
    (fun _ _ a ns hl _ hS => ⟨a, ns, rfl, hS, hl, fun _ => rfl⟩) fun _ _ _ _ _ z => z
end K15
namespace K15
open PySem L2 Evl Lw
def FnK (K : PySem.W.Frag) (x : Str) (st : Stmt) : Prop := ∃ (f : Addr) (oc : Value) (od an : Option Addr) (osl : Array (Option Value)) (kV doc pm cdv ct : Value), PySem.W.nsIn K mainGlobals x = some (some (.ref f)) ∧
  K.lookup f = some ⟨oc, od, .func (PySem.W.fnOf x x (defArgs st) (defBody st) (defScope st) .none kV doc pm an cdv ct), osl⟩ ∧ PySem.W.codeIn K cdv x = true ∧ PySem.W.keepIn K (.ref f) = true
theorem fnK_mk {K : PySem.W.Frag} {x : Str} {st : Stmt} {f : Addr} {oc : Value} {od an : Option Addr} {osl : Array (Option Value)} {kV doc pm cdv ct : Value} (a : PySem.W.nsIn K mainGlobals x = some (some (.ref f)))
    (l : K.lookup f = some ⟨oc, od, .func (PySem.W.fnOf x x (defArgs st) (defBody st) (defScope st) .none kV doc pm an cdv ct), osl⟩) (c : PySem.W.codeIn K cdv x = true) (k : PySem.W.keepIn K (.ref f) = true) : FnK K x st := ⟨f, oc, od, an, osl, kV, doc, pm, cdv, ct, a, l, c, k⟩
theorem FnK.fn {K : PySem.W.Frag} {mg : Str → Option Value} {h : Heap} {x : Str} {st : Stmt} (F : FnK K x st) (X : K.In h) (G : h.Ns mainGlobals mg) : Fn K mg x st := by
  obtain ⟨f, oc, od, an, osl, kV, doc, pm, cdv, ct, a, l, c, k⟩ := F
  exact fn_mk X G a l c k
theorem all_mk {K : PySem.W.Frag} {mg : Str → Option Value} {h : Heap} {fa C : Addr} (X : K.In h) (G : h.Ns mainGlobals mg) (hfa : mg "law" = some (.ref fa)) (xlaw : FnK K "law" s_law)
    (aC : PySem.W.nsIn K mainGlobals "Table" = some (some (.ref C)))
    (x_cw : FnK K "check_width" s_cw)
    (x_cc : FnK K "check_column" s_cc)
    (x_cz : FnK K "check_columns_from_zero" s_cz)
    (x_cf : FnK K "check_filters" s_cf)
    (x_lr : FnK K "let_rows" s_lr)
    (x_bc : FnK K "_barring_columns" s_bc)
    (x_le : FnK K "_lets" s_lets)
    (x_wo : FnK K "with_only" s_wo)
    (x_lo : FnK K "last_only" s_lo)
    (x_met : FnK K "met" s_met)
    (x_bth : FnK K "_both" s_both)
    (x_ln : FnK K "_lets_none" s_ln)
    (x_wi : FnK K "within" s_wi)
    (x_cl : FnK K "clash" s_cl)
    (x_de : FnK K "_law_deck" s_deck)
    (x_dr : FnK K "_law_draw" s_draw)
    (x_ce : FnK K "_law_cells" s_cells)
    (x_tb : FnK K "_law_table" s_table)
    (x_bo : FnK K "_law_bound" s_bound)
    (x_fi : FnK K "_law_filters" s_filters)
    (x_ll : FnK K "_law_lets" s_llets)
    (x_sh : FnK K "_law_shown" s_shown)
    (x_sy : FnK K "_law_says" s_says)
    (x_ds : FnK K "_law_deeds" s_deeds)
    (x_gt : FnK K "_law_greater" s_great)
    (x_lm : FnK K "_law_met" s_lmet)
    (x_su : FnK K "_law_shut" s_shut)
    (x_lw : FnK K "_law_within" s_lwi)
    (x_lc : FnK K "_law_clash" s_lcl)
    (x_dd : FnK K "_law_deeds_right" s_dr)
    (x_pr : FnK K "_law_pair_right" s_pr)
    (x_cq : FnK K "_law_clash_right" s_clr)
    (x_ri : FnK K "_law_right" s_right)
    (n_me : PySem.W.nsIn K mainGlobals "enumerate" = some none)
    (n_mr : PySem.W.nsIn K mainGlobals "range" = some none)
    (n_ml : PySem.W.nsIn K mainGlobals "len" = some none)
    (n_mli : PySem.W.nsIn K mainGlobals "list" = some none)
    (n_mi : PySem.W.nsIn K mainGlobals "isinstance" = some none)
    (n_mb : PySem.W.nsIn K mainGlobals "bool" = some none)
    (n_mmin : PySem.W.nsIn K mainGlobals "min" = some none)
    (n_mmax : PySem.W.nsIn K mainGlobals "max" = some none)
    (n_mabs : PySem.W.nsIn K mainGlobals "abs" = some none)
    (n_mint : PySem.W.nsIn K mainGlobals "int" = some none)
    (n_mz : PySem.W.nsIn K mainGlobals "zip" = some none)
    (n_many : PySem.W.nsIn K mainGlobals "any" = some none)
    (n_ms : PySem.W.nsIn K mainGlobals "sorted" = some none)
    (c_pg : PySem.W.plainGet K C Str.empty = true)
    (c_hd : PySem.W.hasDictIn K C = true)
    (c_po : PySem.W.plainOver K C = true)
    (c_sa : PySem.W.findIn K (.ref C) "__setattr__" = some (some (.builtin "object.__setattr__")))
    (c_nW : PySem.W.findIn K (.ref C) "_width" = some none)
    (c_nR : PySem.W.findIn K (.ref C) "_rows" = some none)
    (o_init : FnI K C "Table.__init__" s_init)
    (o_wd : FnP K C "width" "Table.width" s_width)
    (o_rows : FnP K C "rows" "Table.rows" s_rows)
    (o_col : FnM K C "column" "Table.column" s_col)
    : ∃ fd, Fun K "law" "law" s_law fa fd ∧ ∃ C, Facts K mg C := by
  obtain ⟨fl, fdl, Fl, hl⟩ := xlaw.fn X G
  have e := hfa.symm.trans hl
  cases e
  have T : TC K mg C := ⟨⟨c_pg, c_hd, c_po, c_sa⟩, c_nW, c_nR, PySem.W.mg_of X G aC⟩
  exact ⟨fdl, Fl, C,
    { cw := x_cw.fn X G, cc := x_cc.fn X G, cz := x_cz.fn X G, cf := x_cf.fn X G, lr := x_lr.fn X G, bc := x_bc.fn X G, le := x_le.fn X G, wo := x_wo.fn X G, lo := x_lo.fn X G, met := x_met.fn X G, bth := x_bth.fn X G, ln := x_ln.fn X G, wi := x_wi.fn X G, cl := x_cl.fn X G, de := x_de.fn X G, dr := x_dr.fn X G, ce := x_ce.fn X G, tb := x_tb.fn X G, bo := x_bo.fn X G, fi := x_fi.fn X G, ll := x_ll.fn X G, sh := x_sh.fn X G, sy := x_sy.fn X G, ds := x_ds.fn X G, gt := x_gt.fn X G, lm := x_lm.fn X G, su := x_su.fn X G, lw := x_lw.fn X G, lc := x_lc.fn X G, dd := x_dd.fn X G, pr := x_pr.fn X G, cq := x_cq.fn X G, ri := x_ri.fn X G
      T := T
      init := o_init, wd := o_wd, rows := o_rows, col := o_col
      me := PySem.W.mg_none_of X G n_me, mr := PySem.W.mg_none_of X G n_mr, ml := PySem.W.mg_none_of X G n_ml, mli := PySem.W.mg_none_of X G n_mli, mi := PySem.W.mg_none_of X G n_mi, mb := PySem.W.mg_none_of X G n_mb, mmin := PySem.W.mg_none_of X G n_mmin, mmax := PySem.W.mg_none_of X G n_mmax, mabs := PySem.W.mg_none_of X G n_mabs, mint := PySem.W.mg_none_of X G n_mint, mz := PySem.W.mg_none_of X G n_mz, many := PySem.W.mg_none_of X G n_many, ms := PySem.W.mg_none_of X G n_ms }⟩
end K15
open PySem PySem.W PyProof.Rows in
set_option maxRecDepth 100000 in
set_option maxHeartbeats 0 in
theorem PySem.Challenge.cw_listwindow_k15_filters_changed_and_met_holds : PySem.Challenge.rw_listwindow_k15_filters_changed_and_met.Holds := by
  w_on; o_law; k_head; (case hw => w_witness2)
  k_fill
  refine K15.walk (l := PySem.Challenge.rw_listwindow_k15_filters_changed_and_met) rfl rfl (fun w h Y => PySem.W.kIn_of Y) ?F
  case F =>
    intro w mg fa h KX G hmg
    refine' K15.all_mk KX G hmg ?xlaw ?aC ?x_cw ?x_cc ?x_cz ?x_cf ?x_lr ?x_bc ?x_le ?x_wo ?x_lo ?x_met ?x_bth ?x_ln ?x_wi ?x_cl ?x_de ?x_dr ?x_ce ?x_tb ?x_bo ?x_fi ?x_ll ?x_sh ?x_sy ?x_ds ?x_gt ?x_lm ?x_su ?x_lw ?x_lc ?x_dd ?x_pr ?x_cq ?x_ri ?n_me ?n_mr ?n_ml ?n_mli ?n_mi ?n_mb ?n_mmin ?n_mmax ?n_mabs ?n_mint ?n_mz ?n_many ?n_ms ?c_pg ?c_hd ?c_po ?c_sa ?c_nW ?c_nR ?o_init ?o_wd ?o_rows ?o_col
    (case xlaw => (refine' K15.fnK_mk ?a ?l ?c ?k; (case a => k_is); (case l => k_is); (case c => k_is); (case k => k_is)))
    (case aC => k_is)
    (case x_cw => (refine' K15.fnK_mk ?a ?l ?c ?k; (case a => k_is); (case l => k_is); (case c => k_is); (case k => k_is)))
    (case x_cc => (refine' K15.fnK_mk ?a ?l ?c ?k; (case a => k_is); (case l => k_is); (case c => k_is); (case k => k_is)))
    (case x_cz => (refine' K15.fnK_mk ?a ?l ?c ?k; (case a => k_is); (case l => k_is); (case c => k_is); (case k => k_is)))
    (case x_cf => (refine' K15.fnK_mk ?a ?l ?c ?k; (case a => k_is); (case l => k_is); (case c => k_is); (case k => k_is)))
    (case x_lr => (refine' K15.fnK_mk ?a ?l ?c ?k; (case a => k_is); (case l => k_is); (case c => k_is); (case k => k_is)))
    (case x_bc => (refine' K15.fnK_mk ?a ?l ?c ?k; (case a => k_is); (case l => k_is); (case c => k_is); (case k => k_is)))
    (case x_le => (refine' K15.fnK_mk ?a ?l ?c ?k; (case a => k_is); (case l => k_is); (case c => k_is); (case k => k_is)))
    (case x_wo => (refine' K15.fnK_mk ?a ?l ?c ?k; (case a => k_is); (case l => k_is); (case c => k_is); (case k => k_is)))
    (case x_lo => (refine' K15.fnK_mk ?a ?l ?c ?k; (case a => k_is); (case l => k_is); (case c => k_is); (case k => k_is)))
    (case x_met => (refine' K15.fnK_mk ?a ?l ?c ?k; (case a => k_is); (case l => k_is); (case c => k_is); (case k => k_is)))
    (case x_bth => (refine' K15.fnK_mk ?a ?l ?c ?k; (case a => k_is); (case l => k_is); (case c => k_is); (case k => k_is)))
    (case x_ln => (refine' K15.fnK_mk ?a ?l ?c ?k; (case a => k_is); (case l => k_is); (case c => k_is); (case k => k_is)))
    (case x_wi => (refine' K15.fnK_mk ?a ?l ?c ?k; (case a => k_is); (case l => k_is); (case c => k_is); (case k => k_is)))
    (case x_cl => (refine' K15.fnK_mk ?a ?l ?c ?k; (case a => k_is); (case l => k_is); (case c => k_is); (case k => k_is)))
    (case x_de => (refine' K15.fnK_mk ?a ?l ?c ?k; (case a => k_is); (case l => k_is); (case c => k_is); (case k => k_is)))
    (case x_dr => (refine' K15.fnK_mk ?a ?l ?c ?k; (case a => k_is); (case l => k_is); (case c => k_is); (case k => k_is)))
    (case x_ce => (refine' K15.fnK_mk ?a ?l ?c ?k; (case a => k_is); (case l => k_is); (case c => k_is); (case k => k_is)))
    (case x_tb => (refine' K15.fnK_mk ?a ?l ?c ?k; (case a => k_is); (case l => k_is); (case c => k_is); (case k => k_is)))
    (case x_bo => (refine' K15.fnK_mk ?a ?l ?c ?k; (case a => k_is); (case l => k_is); (case c => k_is); (case k => k_is)))
    (case x_fi => (refine' K15.fnK_mk ?a ?l ?c ?k; (case a => k_is); (case l => k_is); (case c => k_is); (case k => k_is)))
    (case x_ll => (refine' K15.fnK_mk ?a ?l ?c ?k; (case a => k_is); (case l => k_is); (case c => k_is); (case k => k_is)))
    (case x_sh => (refine' K15.fnK_mk ?a ?l ?c ?k; (case a => k_is); (case l => k_is); (case c => k_is); (case k => k_is)))
    (case x_sy => (refine' K15.fnK_mk ?a ?l ?c ?k; (case a => k_is); (case l => k_is); (case c => k_is); (case k => k_is)))
    (case x_ds => (refine' K15.fnK_mk ?a ?l ?c ?k; (case a => k_is); (case l => k_is); (case c => k_is); (case k => k_is)))
    (case x_gt => (refine' K15.fnK_mk ?a ?l ?c ?k; (case a => k_is); (case l => k_is); (case c => k_is); (case k => k_is)))
    (case x_lm => (refine' K15.fnK_mk ?a ?l ?c ?k; (case a => k_is); (case l => k_is); (case c => k_is); (case k => k_is)))
    (case x_su => (refine' K15.fnK_mk ?a ?l ?c ?k; (case a => k_is); (case l => k_is); (case c => k_is); (case k => k_is)))
    (case x_lw => (refine' K15.fnK_mk ?a ?l ?c ?k; (case a => k_is); (case l => k_is); (case c => k_is); (case k => k_is)))
    (case x_lc => (refine' K15.fnK_mk ?a ?l ?c ?k; (case a => k_is); (case l => k_is); (case c => k_is); (case k => k_is)))
    (case x_dd => (refine' K15.fnK_mk ?a ?l ?c ?k; (case a => k_is); (case l => k_is); (case c => k_is); (case k => k_is)))
    (case x_pr => (refine' K15.fnK_mk ?a ?l ?c ?k; (case a => k_is); (case l => k_is); (case c => k_is); (case k => k_is)))
    (case x_cq => (refine' K15.fnK_mk ?a ?l ?c ?k; (case a => k_is); (case l => k_is); (case c => k_is); (case k => k_is)))
    (case x_ri => (refine' K15.fnK_mk ?a ?l ?c ?k; (case a => k_is); (case l => k_is); (case c => k_is); (case k => k_is)))
    (case n_me => k_is)
    (case n_mr => k_is)
    (case n_ml => k_is)
    (case n_mli => k_is)
    (case n_mi => k_is)
    (case n_mb => k_is)
    (case n_mmin => k_is)
    (case n_mmax => k_is)
    (case n_mabs => k_is)
    (case n_mint => k_is)
    (case n_mz => k_is)
    (case n_many => k_is)
    (case n_ms => k_is)
    (case c_pg => k_is)
    (case c_hd => k_is)
    (case c_po => k_is)
    (case c_sa => k_is)
    (case c_nW => k_is)
    (case c_nR => k_is)
    (case o_init => (refine' K15.fnI_mk ?a ?i ?l ?c ?k ?m ?kc; (case a => k_is); (case i => k_is); (case l => k_is); (case c => k_is); (case k => k_is); (case m => k_is); (case kc => k_is)))
    (case o_wd => (refine' K15.fnP_mk ?a ?g ?t ?r ?l ?c ?k; (case a => k_is); (case g => k_is); (case t => k_is); (case r => k_is); (case l => k_is); (case c => k_is); (case k => k_is)))
    (case o_rows => (refine' K15.fnP_mk ?a ?g ?t ?r ?l ?c ?k; (case a => k_is); (case g => k_is); (case t => k_is); (case r => k_is); (case l => k_is); (case c => k_is); (case k => k_is)))
    (case o_col => (refine' K15.fnM_mk ?a ?i ?l ?c ?k; (case a => k_is); (case i => k_is); (case l => k_is); (case c => k_is); (case k => k_is)))
